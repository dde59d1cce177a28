import Derived.Test.YtdinjjmcmfjbfaaGreatDoorSvJ
import Derived.Test.YtdinjjmcmfjbfaaGreatDoorKiJ
namespace Go.Proofs.YtdinjjmcmfjbfaaGreatDoor
set_option linter.unusedSimpArgs false
open Go.RowKit Go.Shelf
open Mo (V Row Bag cnt Af Be B0 Fw Al Cr)
def iE (b o c id:Nat)(cs:Array Value)(ty:TypeId)(hv:Value)(f:V→Option Nat)(L:Bag)(w:World)(O:Ow)(e:Ending)(w':World):Prop :=
 e=.returned (.tuple #[])∧∃hv' f',w'.heap[b]? =some (.cells (cs.setIfInBounds (o+1) hv') ty (0,0))∧Qc w' (oB w O id) id hv' c L f'∧(∀k,OI hv' f' k→OI hv f k∨w.heap.size≤k)∧Ab (fun k=>k=b∨OI hv f k) w w'
structure AL (b o c id m cb it:Nat) (cs:Array Value) (ty:TypeId) (hv:Value) (f:V→Option Nat) (S d:Bag) (w:World) (O:Ow) (wr:World) (es:Bag) (k:Nat) (fr:V→Option Nat):Prop where
 rng:G1 wr cb it (Af d) es k
 blk:wr.heap[b]? =some (.cells (cs.setIfInBounds (o+1) (.map (some m))) ty (0,0))
 sh:Uu wr (oB w O id) id m c (S++es) fr
 own:∀k,k=m∨(∃v,fr v=some k)→OI hv f k∨w.heap.size≤k
 kept:Ab (fun k=>k=b∨OI hv f k) w wr
theorem AL.done {b o c id m a it:Nat}{cs:Array Value}{ty:TypeId}{hv:Value}{f:V→Option Nat}{S d:Bag}{w:World}{O:Ow}{wr:World}{es:Bag}{k:Nat}{fr:V→Option Nat}{us:List Bool}(h:AL b o c id m a it cs ty hv f S d w O wr es k fr)(g:Nu (Af d) es)(i:Fw us d) :
 iE b o c id cs ty hv f (S++d) w O (.returned (.tuple #[])) wr :=
 ⟨rfl,.map (some m),fr,h.blk,.inr ⟨m,rfl,h.sh.eqv ((Be.refl _).append (g.eqv i))⟩,fun k j=>h.own k (by rcases j with e|e;(left;simpa using e.symm);exact .inr e),h.kept⟩
theorem AL.next {b o c id m j it bv:Nat}{cs:Array Value}{ty:TypeId}{hv:Value}{f:V→Option Nat}{S d:Bag}{w:World}{O:Ow}{g wf:World}{es:Bag}{E:Nat}{fr n:V→Option Nat}{q:Row}{t:Int}(hr:G1 g j it (Af d) (es++[(q,t)]) E)(p:g.heap[b]? =some (.cells (cs.setIfInBounds (o+1) (.map (some m))) ty (0,0)))
 (r:Uu g (oB w O id) id m c (S++es) fr) (x:∀k,k=m∨(∃v,fr v=some k)→OI hv f k∨w.heap.size≤k) (F:Ab (fun k=>k=b∨OI hv f k) w g) (G:¬OI hv f j) (_:j<w.heap.size)
 (s:Ab (fun k=>k=m∨k=bv) g wf) (J:Cz 133 J8 Rj wf m (jE n)) (l:(oB w O id) bv=id∧bv≠m∧(∀v,v≠Al q c→fr v≠some bv)∧((∃v,fr v=some bv)∨g.heap.size≤bv))
 (y:(n (Al q c)=some bv∧Aw wf bv (Af (Nb c (Al q c) ((S++es)++[(q,t)])))∧Af (Nb c (Al q c) ((S++es)++[(q,t)]))≠[])∨(n (Al q c)=none∧Af (Nb c (Al q c) ((S++es)++[(q,t)]))=[]))
 (H:∀v,v≠Al q c→n v=fr v):AL b o c id m j it cs ty hv f S d w O wf (es++[(q,t)]) E n:=by
 have z:OI hv f bv∨w.heap.size≤bv:=by
  rcases l.2.2.2 with h|h
  ·exact x bv (.inr h)
  ·exact .inr (lH F.size h)
 have A:=x m (.inl rfl)
 have I:∀k,k=m∨k=bv→k<g.heap.size→∃es c,g.heap[k]? =some (.map es c):=by
  rintro k (rfl|rfl) hl
  ·exact r.map.obj
  ·rcases l.2.2.2 with ⟨v,h⟩|h
   ·exact (r.bag h).2.2.1.obj
   ·omega
 have K:¬(j=m∨j=bv):=by
  rintro (rfl|rfl)
  ·rcases A with h|h
   ·exact G h
   ·omega
  ·rcases z with h|h
   ·exact G h
   ·omega
 have L:¬(it=m∨it=bv):=fun h=>by
  obtain⟨_,_,_,_,B⟩:=hr.iter
  obtain⟨M,N,C⟩:=I it h (Aa B)
  rw[C] at B;cases B
 have P:¬(b=m∨b=bv):=fun h=>by
  obtain⟨M,N,C⟩:=I b h (Aa p)
  rw[C] at p;cases p
 refine⟨hr.kept s K L,(s.block b (Aa p) P).trans p,?_,?_,?_⟩
 ·rw[←nE]
  refine r.step J H (fun v b' u e=>s.block b' (r.bag e).2.2.1.lt ?_) (fun b' e=>?_) (fun e=>?_)
  ·rintro (rfl|rfl)
   ·exact (r.bag e).2.1 rfl
   ·exact l.2.2.1 v u e
  ·rcases y with ⟨a,D,Q⟩|⟨a,_⟩
   ·rw[a] at e
    have:bv=b':=by simpa using e
    subst this
    exact⟨l.1,l.2.1,D,Q,l.2.2.1⟩
   ·rw[a] at e;cases e
  ·rcases y with ⟨a,_⟩|⟨_,D⟩
   ·rw[a] at e;cases e
   ·exact D
 ·rintro k (rfl|⟨v,e⟩)
  ·exact A
  ·by_cases u:v=Al q c
   ·subst u
    rcases y with ⟨a,_⟩|⟨a,_⟩
    ·rw[a] at e
     have:bv=k:=by simpa using e
     subst this;exact z
    ·rw[a] at e;cases e
   ·rw[H v u] at e;exact x k (.inr ⟨v,e⟩)
 ·refine F.trans s (fun _ e=>e) (fun i hi e=>?_)
  rcases e with rfl|rfl
  ·rcases A with h|h
   ·exact .inr h
   ·omega
  ·rcases z with h|h
   ·exact .inr h
   ·omega
end Go.Proofs.YtdinjjmcmfjbfaaGreatDoor
namespace Go.Proofs.YtdinjjmcmfjbfaaGreatDoor.Mo
def UH (il:Bool)(x y:Row):Row:=if il then x++y else y++x
def On (c:Nat)(v:V)(s:Bag):Bag:=Cr (fun r=>decide (Al r c=v)) s
def jL (il:Bool)(c c2:Nat)(es s:Bag):Bag:=es.flatMap fun x=>(On c2 (Al x.1 c) s).map fun y=>(UH il x.1 y.1,x.2*y.2)
end Go.Proofs.YtdinjjmcmfjbfaaGreatDoor.Mo
