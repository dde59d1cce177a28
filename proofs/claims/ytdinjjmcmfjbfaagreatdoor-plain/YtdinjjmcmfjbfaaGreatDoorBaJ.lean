import Derived.Maps.OwnSet
import Derived.Maps.OwnOps
import Derived.Maps.RangeWalk
import Derived.DeepKeys4
import Derived.Test.YtdinjjmcmfjbfaaGreatDoorOcJ
import Derived.Laws.Tables
set_option maxRecDepth 100000
set_option maxHeartbeats 4000000
namespace Go.Proofs.YtdinjjmcmfjbfaaGreatDoor
open Go.RowKit
open Go.Maps (Keyed)
open Go.WideMaps (KeyLaw)
def tok (v:Value):Option (DataW Value×List MemPlace):=some (.held v,[])
structure KE {κ:Type} (K:TypeId) (enc:κ→Value) (ok:κ→Prop):Prop where
 law:KeyLaw Tryz.prog K
 key:∀{k:κ},ok k→∃l,keyOf Tryz.prog K (enc k)=some l
 inj:∀{k j:κ},ok k→ok j→enc k=enc j→k=j
structure DH {κ:Type} (K:TypeId) (enc:κ→Value) (ok:κ→Prop) (D:DataW Value) (m:κ→Option Value):Prop where
 hit:∀{k:κ} {l:Lit} {x:Value},keyOf Tryz.prog K (enc k)=some l→m k=some x→∀z,D.atKey l z=.held x
 miss:∀{k:κ} {l:Lit},ok k→keyOf Tryz.prog K (enc k)=some l→m k=none→∀z,D.atKey l z=z
 dom:∀{k:κ} {x:Value},m k=some x→ok k
 all:∀{l:Lit},Maps.has D l=true→∃k,ok k∧keyOf Tryz.prog K (enc k)=some l
def ZN {κ:Type}[DecidableEq κ](m:κ→Option Value)(k:κ)(o:Option Value):κ→Option Value:=fun x=>if x=k then o else m x
section
variable {κ:Type} [DecidableEq κ] {K:TypeId} {enc:κ→Value} {ok:κ→Prop} {m:κ→Option Value} {D:DataW Value}
theorem Oe (m:κ→Option Value)(k:κ)(o:Option Value):ZN m k o k=o:=by simp[ZN]
theorem H9 (m:κ→Option Value){k x:κ}(o:Option Value)(h:x≠k):ZN m k o x=m x:=by simp[ZN,h]
omit [DecidableEq κ] in
theorem KE.ne (E:KE K enc ok){k j:κ}{l p:Lit}(a:ok k)(b:ok j)(c:keyOf Tryz.prog K (enc k)=some l)(d:keyOf Tryz.prog K (enc j)=some p)(f:k≠j):l≠p :=
 fun e=>f (E.inj a b (E.law.inj c (e ▸ d)))
omit [DecidableEq κ] in
theorem DH.has (h:DH K enc ok D m){k:κ}(ho:ok k){l:Lit}(a:keyOf Tryz.prog K (enc k)=some l):Maps.has D l=(m k).isSome:=by
 cases b:m k with
 |none=>exact Maps.has_false_of_atKey (h.miss ho a b)
 |some x=>exact Maps.has_true_of_atKey (h.hit a b)
omit [DecidableEq κ] in
theorem DH.at (h:DH K enc ok D m){k:κ}(ho:ok k){l:Lit}(a:keyOf Tryz.prog K (enc k)=some l)(b:Value):D.atKey l (.held b)=.held ((m k).getD b):=by
 cases c:m k with
 |none=>exact h.miss ho a c _
 |some x=>exact h.hit a c _
theorem DH.put (E:KE K enc ok)(h:DH K enc ok D m)(i:Maps.IsMap D){k:κ}(ho:ok k){d:Lit}(f:keyOf Tryz.prog K (enc k)=some d)(x:Value):DH K enc ok (D.put d (.held x)) (ZN m k (some x)):=by
 have j:∀c,(D.put d (.held x)).atKey d c=.held x:=fun c=>Maps.atKey_put_same i ((Keyed.of_law E.law).key f) _ _
 refine⟨fun {v l y} a b c=>?_,fun {v l} hv a g c=>?_,fun {v y} b=>?_,fun {l} a=>?_⟩
 ·by_cases e:v=k
  ·subst e
   rw[Oe] at b
   have e1:l=d:=by have:=a.symm.trans f;simpa using this
   have n:x=y:=by simpa using b
   subst e1 n;exact j c
  ·rw[H9 _ _ e] at b
   rw[Maps.atKey_put_other (E.ne (h.dom b) ho a f e)];exact h.hit a b c
 ·by_cases e:v=k
  ·subst e;rw[Oe] at g;cases g
  ·rw[H9 _ _ e] at g
   rw[Maps.atKey_put_other (E.ne hv ho a f e)];exact h.miss hv a g c
 ·by_cases e:v=k
  ·subst e;exact ho
  ·rw[H9 _ _ e] at b;exact h.dom b
 ·by_cases e:l=d
  ·subst e;exact⟨k,ho,f⟩
  ·refine h.all ?_
   rw[←a]
   exact (Maps.has_put_other e _).symm
theorem DH.del (E:KE K enc ok)(h:DH K enc ok D m){k:κ}(ho:ok k){c:Lit}(d:keyOf Tryz.prog K (enc k)=some c):DH K enc ok (D.del c) (ZN m k none):=by
 refine⟨fun {v l y} b a f=>?_,fun {v l} hv b g f=>?_,fun {v y} a=>?_,fun {l} b=>?_⟩
 ·by_cases e:v=k
  ·subst e;rw[Oe] at a;cases a
  ·rw[H9 _ _ e] at a
   rw[Maps.atKey_del_other (E.ne (h.dom a) ho b d e)];exact h.hit b a f
 ·by_cases e:v=k
  ·subst e
   have e1:l=c:=by have:=b.symm.trans d;simpa using this
   subst e1;exact Maps.atKey_del_same f
  ·rw[H9 _ _ e] at g
   rw[Maps.atKey_del_other (E.ne hv ho b d e)];exact h.miss hv b g f
 ·by_cases e:v=k
  ·subst e;rw[Oe] at a;cases a
  ·rw[H9 _ _ e] at a;exact h.dom a
 ·by_cases e:l=c
  ·subst e;exact⟨k,ho,d⟩
  ·refine h.all ?_
   rw[←b]
   exact (Maps.has_del_other e).symm
end
def Cz {κ:Type}(K:TypeId)(enc:κ→Value)(ok:κ→Prop)(w:World)(b:Nat)(m:κ→Option Value):Prop:=∃D,w.ownsMap Tryz.prog K tok b (Maps.size D) D∧DH K enc ok D m
theorem Yh {K:TypeId}{w:World}{b n:Nat}{D:DataW Value}(h:w.ownsMap Tryz.prog K tok b n D):w.ownsMap Tryz.prog K tok b (Maps.size D) D:=by
 obtain⟨es,c,d,F,_,a⟩:=h
 refine⟨es,c,d,F,?_,a⟩
 subst a
 simp[Maps.size,length_sorted]
section
variable {κ:Type} {K:TypeId} {enc:κ→Value} {ok:κ→Prop} {w w':World} {b:Nat} {m:κ→Option Value}
theorem Cz.lt (h:Cz K enc ok w b m):b<w.heap.size:=by obtain⟨D,h,_⟩:=h;exact h.lt
theorem Cz.obj (h:Cz K enc ok w b m):∃es c,w.heap[b]? =some (.map es c):=by obtain⟨D,⟨es,c,a,_⟩,_⟩:=h;exact⟨es,c,a⟩
theorem Cz.B2 (h:Cz K enc ok w b m)(a:w'.heap[b]? =w.heap[b]?):Cz K enc ok w' b m:=by
 obtain⟨D,⟨es,c,d,F,e,f⟩,g⟩:=h
 exact⟨D,⟨es,c,a.trans d,F,e,f⟩,g⟩
theorem Cz.made (K:TypeId)(enc:κ→Value)(ok:κ→Prop)(w:World):Cz K enc ok (w.alloc (.map #[] 0)) w.heap.size (fun _=>none) :=
 ⟨.map [],World.ownsMap_made w _ _ _,⟨fun _ h=>(by cases h),fun _ _ _ _=>rfl,fun h=>(by cases h),fun h=>by simp[Maps.has_eq] at h⟩⟩
theorem Cz.dom (h:Cz K enc ok w b m){k:κ}{x:Value}(a:m k=some x):ok k:=by obtain⟨_,_,c⟩:=h;exact c.dom a
theorem NQ {es:List (Lit×DataW Value)}(h:∀p∈es,∃k,ok k∧keyOf Tryz.prog K (enc k)=some p.1):∃ks:List κ,(∀k∈ks,ok k)∧ks.map (fun k=>keyOf Tryz.prog K (enc k))=es.map (fun p=>some p.1):=by
 induction es with
 |nil=>exact⟨[],by simp,rfl⟩
 |cons p es b =>
  obtain⟨v,ho,hv⟩:=h p (by simp)
  obtain⟨ks,c,a⟩:=b (fun q d=>h q (by simp[d]))
  exact⟨v::ks,by intro k a;rcases lQ.1 a with rfl|a;exact ho;exact c k a,by simp[hv,a]⟩
theorem Rz {α β:Type}(f:α→β):∀{l:List α},(l.map f).Nodup→l.Nodup
 | [],_=>nJ
 |a::l,h=>by
  simp only[lS,mJ] at h⊢
  exact⟨fun b=>h.1 (lD.2 ⟨a,b,rfl⟩),Rz f h.2⟩
theorem Cz.keys (E:KE K enc ok)(h:Cz K enc ok w b m):∃(D:DataW Value) (ks:List κ),w.ownsMap Tryz.prog K tok b (Maps.size D) D∧DH K enc ok D m∧ks.Nodup∧ks.length=Maps.size D∧∀k,k∈ks↔(m k).isSome=true:=by
 obtain⟨D,ho,a⟩:=h
 obtain⟨es,g,r,n⟩:=ho.entries (Keyed.of_law E.law)
 have s:∀p∈es,∃k,ok k∧keyOf Tryz.prog K (enc k)=some p.1:=fun p c=>by
  refine a.all ?_;subst g
  rw[Maps.has_eq,List.any_eq_true]
  exact⟨p,c,WideAt.sameKey_self (n p c)⟩
 obtain⟨ks,o,i⟩:=NQ s
 have t:ks.Nodup:=by
  refine Rz (fun k=>keyOf Tryz.prog K (enc k)) ?_
  rw[i]
  exact List.pairwise_map.2 (r.imp fun u e=>u (by simpa using e))
 refine⟨D,ks,ho,a,t,?_,fun k=>?_⟩
 ·subst g
  have:=congrArg List.length i
  simpa [Maps.size] using this
 ·constructor
  ·intro f
   have d:keyOf Tryz.prog K (enc k)∈ks.map (fun k=>keyOf Tryz.prog K (enc k)):=lD.2 ⟨k,f,rfl⟩
   rw[i] at d
   obtain⟨p,c,y⟩:=lD.1 d
   rw[←a.has (o k f) y.symm]
   subst g
   rw[Maps.has_eq,List.any_eq_true]
   exact⟨p,c,WideAt.sameKey_self (n p c)⟩
  ·intro f
   obtain⟨x,j⟩:=Option.isSome_iff_exists.1 f
   obtain⟨l,q⟩:=E.key (a.dom j)
   have d:=a.has (a.dom j) q
   rw[f] at d
   subst g
   rw[Maps.has_eq,List.any_eq_true] at d
   obtain⟨p,c,z⟩:=d
   have A:some l∈ks.map (fun k=>keyOf Tryz.prog K (enc k)):=by rw[i];exact lD.2 ⟨p,c,by rw[WideAt.sameKey_eq z]⟩
   obtain⟨v,hv,B⟩:=lD.1 A
   rw[E.inj (a.dom j) (o v hv) (E.law.inj q B)];exact hv
end
def gE {κ:Type}(m:κ→Option Value)(n:Nat):Prop:=∃ks:List κ,ks.length≤n∧∀k,(m k).isSome=true→k∈ks
theorem Em {α:Type}[DecidableEq α]:∀{l m:List α},l.Nodup→(∀x∈l,x∈m)→l.length≤m.length
 | [],_,_,_=>mB _
 |a::l,m,f,b=>by
  have c:=mJ.1 f
  have g:=Em (l:=l) (m:=m.erase a) c.2 (fun x d=>by
   have:x≠a:=fun e=>c.1 (e ▸ d)
   exact (List.mem_erase_of_ne this).2 (b x (by simp[d])))
  have h:=List.length_erase_of_mem (b a (by simp))
  have i:0<m.length:=List.length_pos_of_mem (b a (by simp))
  simp only[lN];omega
structure iW {κ:Type} (K:TypeId) (enc:κ→Value) (ok:κ→Prop) (D:DataW Value) (left:Lit→Bool) (vs:List κ):Prop where
 nodup:vs.Nodup
 mem:∀{k:κ} {l:Lit},ok k→keyOf Tryz.prog K (enc k)=some l→(k∈vs↔Maps.has D l=true∧left l=false)
def R0 {κ:Type}(K:TypeId)(enc:κ→Value)(ok:κ→Prop)(w:World)(b r:Nat)(m:κ→Option Value)(ps:List (κ×Value))(cnt:Nat):Prop :=
 ∃D left,w.ranges Tryz.prog K tok b r (Maps.size D) D left cnt∧DH K enc ok D m∧iW K enc ok D left (ps.map (·.1))∧∀p∈ps,m p.1=some p.2
def dM {κ:Type}(m:κ→Option Value)(ps:List (κ×Value)):Prop:=(ps.map (·.1)).Nodup∧∀k v,(k,v)∈ps↔m k=some v
section
variable {κ:Type} {K:TypeId} {enc:κ→Value} {ok:κ→Prop} {w w':World} {b r:Nat} {m:κ→Option Value} {ps:List (κ×Value)} {cnt:Nat}
theorem R0.owns (h:R0 K enc ok w b r m ps cnt):Cz K enc ok w b m:=by obtain⟨D,left,hr,a,_⟩:=h;exact⟨D,hr.owns,a⟩
theorem R0.ne (h:R0 K enc ok w b r m ps cnt):r≠b:=by obtain⟨D,left,hr,_⟩:=h;exact hr.ne
theorem R0.lt (h:R0 K enc ok w b r m ps cnt):r<w.heap.size:=by obtain⟨D,left,hr,_⟩:=h;exact hr.lt
theorem R0.Tm (h:R0 K enc ok w b r m ps cnt)(a:w'.heap[b]? =w.heap[b]?)(hr:w'.heap[r]? =w.heap[r]?):R0 K enc ok w' b r m ps cnt:=by
 obtain⟨D,left,⟨es,c,d,e,f,g,i,j,k,l,n⟩,o⟩:=h
 exact⟨D,left,⟨es,c,d,e,f,a.trans g,i,j,k,hr.trans l,n⟩,o⟩
end
section
variable (w:World) {ops:Array Oper} {rest:List Oper} {o:Oper} {a:Act} {Q:Exit→Act→World→Prop} {κ:Type} [DecidableEq κ] {K:TypeId} {enc:κ→Value} {ok:κ→Prop} (E:KE K enc ok)
include E
omit [DecidableEq κ] in
theorem Db (hg:o.guard=none)(d x:Operand)(t e:TypeId)(i:o.op=Op.lookup t d x false)(j:Tryz.prog.underlying t=some (.map K e))(c:Value)(l:(zeroValue e).run Tryz.prog w=.ok c w)
 (b:Nat) (m:κ→Option Value) (n:a.eval d=.map (some b)) (p:Cz K enc ok w b m) (k:κ) (f:ok k) (q:a.eval x=enc k) (v:Value) (hv:(m k).getD c=v)
 (r:wpList Tryz.prog ops Q rest (a.put o.dst v) w):wpList Tryz.prog ops Q (o::rest) a w:=by
 refine wpList_plain hg fun K' s=>?_
 obtain⟨D,ho,u⟩:=p
 obtain⟨_,g⟩:=E.key f
 obtain⟨z,ps,A,h⟩:=ho.lookup (Keyed.of_law E.law) j l (zd:=.held c) (zp:=[]) rfl g
 have:z=v:=by rw[u.at f g] at h;rw[←hv];simpa [tok] using (congrArg (fun y=>y.map Prod.fst) h)
 subst this;unfold Oper.wp
 simp[execOp,i,n,q,A,Result.andThen]
 exact s _ _ r
omit [DecidableEq κ] in
theorem Ld (hg:o.guard=none)(b x:Operand)(t e:TypeId)(d:o.op=Op.lookup t b x false)(f:Tryz.prog.underlying t=some (.map K e))(c:Value)(g:(zeroValue e).run Tryz.prog w=.ok c w)
 (h:a.eval b=.map none) (k:κ) (i:ok k) (j:a.eval x=enc k)
 (l:wpList Tryz.prog ops Q rest (a.put o.dst c) w):wpList Tryz.prog ops Q (o::rest) a w:=by
 refine wpList_plain hg fun K' m=>?_
 obtain⟨_,n⟩:=E.key i
 have p:=Maps.look_nil (w:=w) false (Keyed.of_law E.law) f g n;unfold Oper.wp
 simp[execOp,d,h,j,p,Result.andThen]
 exact m _ _ l
theorem R1 (hg:o.guard=none)(c x v:Operand)(t e:TypeId)(h:o.op=Op.mapUpdate t c x v)(i:Tryz.prog.underlying t=some (.map K e))
 (b:Nat) (m:κ→Option Value) (n:Nat) (j:a.eval c=.map (some b)) (l:Cz K enc ok w b m) (p:gE m n) (_:n<maxLen) (k:κ) (f:ok k) (val:Value) (d:a.eval x=enc k) (hv:a.eval v=val)
 (q:∀w',Cz K enc ok w' b (ZN m k (some val))→w.mapTurned w' b→wpList Tryz.prog ops Q rest (a.put o.dst undef) w'):wpList Tryz.prog ops Q (o::rest) a w:=by
 obtain⟨D,ks,ho,r,s,_,u⟩:=l.keys E
 obtain⟨_,_,y⟩:=p
 have:=Em s (fun x d=>y x ((u x).1 d))
 obtain⟨_,g⟩:=E.key f
 refine wpList_mapUpdate_in w hg c x v t h K e (Keyed.of_law E.law) i tok b (Maps.size D) D j ho (by omega) _ val _ d hv g (.held val) [] rfl ?_
 intro w' z A;exact q w' ⟨_,Yh z,r.put E ho.isMap f g _⟩ A
theorem R3 (hg:o.guard=none)(c x:Operand)(t e:TypeId)(g:o.op=Op.call { callee:=Callee.builtin Builtin.delete,args:=#[c,x],argTypes:=#[t,K] })(h:Tryz.prog.underlying t=some (.map K e))
 (b:Nat) (m:κ→Option Value) (i:a.eval c=.map (some b)) (j:Cz K enc ok w b m) (k:κ) (d:ok k) (l:a.eval x=enc k)
 (n:∀w',Cz K enc ok w' b (ZN m k none)→w.mapTurned w' b→wpList Tryz.prog ops Q rest (a.put o.dst (.tuple #[])) w'):wpList Tryz.prog ops Q (o::rest) a w:=by
 obtain⟨D,ho,p⟩:=j
 obtain⟨_,f⟩:=E.key d
 refine wpList_delete_own w hg c x t K g e (Keyed.of_law E.law) h tok b _ D i ho _ _ l f ?_;intro w' q r;exact n w' ⟨_,Yh q,p.del E d f⟩ r
omit [DecidableEq κ] in
theorem Of (hg:o.guard=none)(c:Operand)(t e:TypeId)(d:o.op=Op.call { callee:=Callee.builtin Builtin.len,args:=#[c],argTypes:=#[t] })(f:Tryz.prog.underlying t=some (.map K e))
 (b:Nat) (m:κ→Option Value) (g:a.eval c=.map (some b)) (h:Cz K enc ok w b m)
 (i:∀ks:List κ,ks.Nodup→(∀k,k∈ks↔(m k).isSome=true)→wpList Tryz.prog ops Q rest (a.put o.dst (.int .i64 (ks.length:Nat))) w):wpList Tryz.prog ops Q (o::rest) a w:=by
 obtain⟨D,ks,ho,_,j,l,n⟩:=h.keys E
 refine wpList_len_own w hg c t d K e f tok b _ D g ho ?_
 rw[←l]
 exact i ks j n
omit [DecidableEq κ] in
theorem Tn (hg:o.guard=none)(c:Operand)(t e:TypeId)(d:o.op=Op.range t c)(f:Tryz.prog.underlying t=some (.map K e))(b:Nat)(m:κ→Option Value)(g:a.eval c=.map (some b))(h:Cz K enc ok w b m)
 (i:∀w' cnt,R0 K enc ok w' b w.heap.size m [] cnt→w.grownBy w' none→w'.heap.size=w.heap.size+1→wpList Tryz.prog ops Q rest (a.put o.dst (.pointer (some ⟨w.heap.size,0,none⟩))) w'):wpList Tryz.prog ops Q (o::rest) a w:=by
 obtain⟨D,ho,j⟩:=h
 refine wpList_range_own w hg c t d K e (Keyed.of_law E.law) f tok b _ D g ho ?_;intro w' k n p
 exact i w' _ ⟨D,_,k,j,⟨nJ,fun {v l} _ _=>by cases Maps.has D l <;> simp⟩,by simp⟩ n p
omit [DecidableEq κ] in
theorem Ur (hg:o.guard=none)(it:Operand)(M:o.op=Op.next it false)(b r:Nat)(m:κ→Option Value)(ps:List (κ×Value))(cnt:Nat)(hit:a.eval it=.pointer (some ⟨r,0,none⟩))(h:R0 K enc ok w b r m ps cnt)
 (N:dM m ps→wpList Tryz.prog ops Q rest (a.put o.dst (.tuple #[.bool false])) w)
 (O:∀(k:κ) (v:Value) (w':World) (s:Nat),ok k→m k=some v→(∀u,(k,u)∉ps)→R0 K enc ok w' b r m (ps++[(k,v)]) s→s<cnt→w.grownBy w' (some r)→w'.heap.size=w.heap.size →
   (Instr.entry (.pointer (some ⟨r,0,none⟩))).run Tryz.prog w'=.ok (.tuple #[enc k,v]) w'→wpList Tryz.prog ops Q rest (a.put o.dst (.tuple #[.bool true,enc k,v])) w'):wpList Tryz.prog ops Q (o::rest) a w:=by
 obtain⟨D,left,hr,g,j,hv⟩:=h
 refine wpList_next_ranges w hg it M K (Keyed.of_law E.law) tok (id:Value→Value) id (fun key _ _=>⟨key,rfl⟩) (fun v _ _=>⟨v,rfl⟩) b r _ D left cnt hit hr ?_ ?_
 ·intro _ P
  refine N ⟨j.nodup,fun k v=>⟨fun n=>hv _ n,fun n=>?_⟩⟩
  have f:=g.dom n
  obtain⟨l,B⟩:=E.key f
  have z:Maps.has D l=true:=by rw[g.has f B,n];rfl
  obtain⟨p,c,rfl⟩:=lD.1 ((j.mem f B).2 ⟨z,P _⟩)
  have:=hv p c
  rw[n] at this
  have:v=p.2:=by simpa using this
  subst this;exact c
 ·intro R v i y w' s d S T C U V W X Y
  have t:Maps.has D i=true:=Maps.has_true_of_atKey C
  obtain⟨k,f,Z⟩:=g.all t
  obtain rfl:R=enc k:=E.law.inj d Z;have d:keyOf Tryz.prog K (enc k)=some i:=d
  have aa:y=(.held v,[]):=by simpa [tok] using T.symm
  subst aa
  have F:m k=some v:=by
   cases G:m k with
   |none=>rw[g.has f d,G] at t;cases t
   |some u=>have z:=g.hit d G .nil;have H:=C .nil;rw[z] at H;simpa using H
  have I:k∉ps.map (·.1):=fun q=>by have:=((j.mem f d).1 q).2;rw[S] at this;cases this
  refine O k v w' s f F (fun u ab=>I (lD.2 ⟨_,ab,rfl⟩)) ⟨D,_,U,g,⟨?_,?_⟩,fun p c=>?_⟩ V W X Y
  ·rw[lF]
   exact mO.2 ⟨j.nodup,by simp,fun a ac b J=>by simp at J;subst J;exact fun e=>I (e ▸ ac)⟩
  ·intro x l L q
   by_cases e:x=k
   ·subst e
    have e1:l=i:=by have:=q.symm.trans d;simpa using this
    subst e1
    simp[t,WideAt.sameKey_self ((Keyed.of_law E.law).key d)]
   ·have ad:l≠i:=fun ae=>e (E.inj L f (E.law.inj q (ae ▸ d)))
    have A:l.sameKey i=false:=by
     cases A:l.sameKey i
     ·rfl
     ·exact absurd (WideAt.sameKey_eq A) ad
    rw[lF,lC,j.mem L q]
    simp[A,e]
  ·rcases lC.1 c with c|c
   ·exact hv p c
   ·simp at c;subst c;simpa using F
end
open Mo (V Row Al)
def R4 (r:Row):List Value:=.int .i64 (r.length:Int)::(Au (Al r 0)++(Au (Al r 1)++(Au (Al r 2)++(Au (Al r 3)++(Au (Al r 4)++Au (Al r 5))))))
def M5 (r:Row):Value:=.agg (R4 r).toArray
def G5 (r:Row):Prop:=r.length≤6∧∀v∈r,Rj v
theorem Vv (r:Row){i j:Nat}(hi:i<6)(a:j<6):(R4 r)[1+i*6+j]? =(Au (Al r i))[j]? :=by
 match i,hi,j,a with
 |0,_,0,_|0,_,1,_|0,_,2,_|0,_,3,_|0,_,4,_|0,_,5,_=>rfl
 |1,_,0,_|1,_,1,_|1,_,2,_|1,_,3,_|1,_,4,_|1,_,5,_=>rfl
 |2,_,0,_|2,_,1,_|2,_,2,_|2,_,3,_|2,_,4,_|2,_,5,_=>rfl
 |3,_,0,_|3,_,1,_|3,_,2,_|3,_,3,_|3,_,4,_|3,_,5,_=>rfl
 |4,_,0,_|4,_,1,_|4,_,2,_|4,_,3,_|4,_,4,_|4,_,5,_=>rfl
 |5,_,0,_|5,_,1,_|5,_,2,_|5,_,3,_|5,_,4,_|5,_,5,_=>rfl
theorem F0 {r:Row}(h:G5 r)(c:Nat):Rj (Al r c):=by
 unfold Al
 rw[lI]
 cases a:r[c]? with
 |none=>simp[Rj]
 |some v=>exact h.2 v (kW a)
theorem TB {r q:Row}(hr:G5 r)(c:G5 q)(h:R4 r=R4 q):r=q:=by
 have a:r.length=q.length:=by
  have:=congrArg (fun l=>l[0]?) h
  simp only[R4,mX,Option.some.injEq,Value.int.injEq,true_and] at this
  omega
 have d:∀i,i<6→Al r i=Al q i:=fun i hi=>by
  refine SH (F0 hr i) (F0 c i) (mG fun j=>?_)
  by_cases b:j<6
  ·rw[←Vv r hi b,←Vv q hi b,h]
  ·rw[mD (by rw[Gl];omega),mD (by rw[Gl];omega)]
 refine mG fun i=>?_
 by_cases hi:i<r.length
 ·have:=d i (by have:=hr.1;omega)
  unfold Al at this
  rw[lI,lI,kT hi,kT (a ▸ hi)] at this
  rw[kT hi,kT (a ▸ hi)]
  exact congrArg some this
 ·rw[mD (by omega),mD (by omega)]
theorem ZO:laidOutB Tryz.prog=true:=by kernel_rfl
theorem dN:(154:TypeId)<Tryz.prog.types.size:=of_decide_eq_true (by kernel_rfl)
theorem dO:KeyLaw Tryz.prog 154:=deep_law_laid ZO (m:=9) (by omega) dN (by kernel_rfl) (by rw[Tryz.underlying154])
theorem TC:Tryz.prog.cellsOf 133=6:=by kernel_rfl
theorem TD:Tryz.prog.cellsOf 154=37:=by kernel_rfl
theorem TE:Tryz.prog.cellsOf 152=36:=by kernel_rfl
theorem TF:Tryz.prog.cellsOf 131=4:=by kernel_rfl
theorem dP:Tryz.prog.cellsOf 5=1:=by kernel_rfl
theorem dQ:Tryz.prog.cellsOf 130=1:=by kernel_rfl
theorem dR:Tryz.prog.cellsOf 2=1:=by kernel_rfl
theorem dS:Tryz.prog.cellsOf 3=1:=by kernel_rfl
theorem iX:Tryz.prog.keyType 154=true:=by kernel_rfl
theorem iY {n:Int}(h:n=0∨n=1):(Lit.int .i32 n).wf=true:=by rcases h with rfl|rfl <;> decide
theorem kJ {n:Int}(h:0≤n∧n≤255):(Lit.int .u8 n).wf=true:=by
 have a:IntKind.u8.min=0:=rfl;have b:IntKind.u8.max=255:=rfl
 simp only[Lit.wf,a,b,Bool.and_eq_true,decide_eq_true_eq];exact h
theorem gY {n:Int}(h: -9223372036854775808≤n∧n≤9223372036854775807):(Lit.int .i64 n).wf=true:=by
 have a:IntKind.i64.min= -9223372036854775808:=rfl;have b:IntKind.i64.max=9223372036854775807:=rfl
 simp only[Lit.wf,a,b,Bool.and_eq_true,decide_eq_true_eq];exact h
theorem LD (d:Nat){n:Int}(h:0≤n∧n≤255):Tryz.prog.keyLits (d+1) 5 [.int .u8 n]=some [.int .u8 n]:=by
 unfold Program.keyLits;rw[Tryz.underlying5];simp[kJ h]
theorem dT (d:Nat){n:Int}(h:n=0∨n=1):Tryz.prog.keyLits (d+1) 130 [.int .i32 n]=some [.int .i32 n]:=by
 unfold Program.keyLits;rw[Tryz.underlying130];simp[iY h]
theorem dU (d:Nat){n:Int}(h: -9223372036854775808≤n∧n≤9223372036854775807):Tryz.prog.keyLits (d+1) 2 [.int .i64 n]=some [.int .i64 n]:=by
 unfold Program.keyLits;rw[Tryz.underlying2];simp[gY h]
theorem ZP (d:Nat){n:Int}(h: -9223372036854775808≤n∧n≤9223372036854775807):Tryz.prog.keyLits (d+1) 3 [.int .i64 n]=some [.int .i64 n]:=by
 unfold Program.keyLits;rw[Tryz.underlying3];simp[gY h]
theorem dV:List.range 4=[0,1,2,3]:=rfl
theorem dW:List.range 6=[0,1,2,3,4,5]:=rfl
theorem gZ (d:Nat){a b c e:Int}(f:0≤a∧a≤255)(g:0≤b∧b≤255)(h:0≤c∧c≤255)(i:0≤e∧e≤255) :
 Tryz.prog.keyLits (d+2) 131 [.int .u8 a,.int .u8 b,.int .u8 c,.int .u8 e]=some [.int .u8 a,.int .u8 b,.int .u8 c,.int .u8 e]:=by
 unfold Program.keyLits;rw[Tryz.underlying131]
 simp[TF,dP,dV,LD d f,LD d g,LD d h,LD d i]
def CV (v:V):List Lit:=[.int .i32 (kI v),.int .u8 (tB v 0),.int .u8 (tB v 1),.int .u8 (tB v 2),.int .u8 (tB v 3),.int .i64 (nI v)]
theorem Yi (d:Nat){v:V}(h:Rj v):Tryz.prog.keyLits (d+3) 133 (Au v)=some (CV v):=by
 unfold Program.keyLits;rw[Tryz.underlying133];have a:=dT (d+1) (SF v);have e1:=gZ d (Rp v 0) (Rp v 1) (Rp v 2) (Rp v 3);have b:=dU (d+1) (SG h)
 simp only[Au]
 simp[TC,dQ,TF,dR,a,e1,b,CV]
theorem iA (d:Nat){a b c e f g:V}(h:Rj a)(i:Rj b)(j:Rj c)(k:Rj e)(m:Rj f)(o:Rj g) :
 ∃l,Tryz.prog.keyLits (d+4) 152 (Au a++(Au b++(Au c++(Au e++(Au f++Au g)))))=some l:=by
 unfold Program.keyLits;rw[Tryz.underlying152];have p:=Yi d h;have e1:=Yi d i;have q:=Yi d j;have r:=Yi d k;have s:=Yi d m;have e5:=Yi d o
 have B:∀(x:V) (l:List Value) (n:Nat),(Au x++l).drop (n+6)=l.drop n:=fun x l n=>rfl
 have tk:∀(x:V) (l:List Value),(Au x++l).take 6=Au x:=fun x l=>rfl
 have C:∀(x:V),(Au x).take 6=Au x:=fun x=>rfl
 refine⟨[CV a,CV b,CV c,CV e,CV f,CV g].flatten,?_⟩
 have t:(Au a++(Au b++(Au c++(Au e++(Au f++Au g))))).length=36:=rfl;have u:((Au a++(Au b++(Au c++(Au e++(Au f++Au g))))).drop (0*6)).take 6=Au a:=rfl;have v:((Au a++(Au b++(Au c++(Au e++(Au f++Au g))))).drop (1*6)).take 6=Au b:=rfl;have w:((Au a++(Au b++(Au c++(Au e++(Au f++Au g))))).drop (2*6)).take 6=Au c:=rfl;have y:((Au a++(Au b++(Au c++(Au e++(Au f++Au g))))).drop (3*6)).take 6=Au e:=rfl;have z:((Au a++(Au b++(Au c++(Au e++(Au f++Au g))))).drop (4*6)).take 6=Au f:=rfl;have A:((Au a++(Au b++(Au c++(Au e++(Au f++Au g))))).drop (5*6)).take 6=Au g:=rfl
 simp only[TE,TC,t,if_true,dW,List.mapM_cons,List.mapM_nil,u,v,w,y,z,A,p,e1,q,r,s,e5]
 rfl
theorem ZQ {r:Row}(h:G5 r):∃l,keyOf Tryz.prog 154 (M5 r)=some l:=by
 unfold keyOf
 rw[Tryz.underlying154]
 have hf:(M5 r).formed Tryz.prog 154=true:=by simp[Value.formed,Tryz.underlying154,TD,M5,R4,Au]
 have a:Tryz.prog.types.size+1=(Tryz.prog.types.size-4)+5:=by have h:4<Tryz.prog.types.size:=of_decide_eq_true (by kernel_rfl);omega
 have b:(M5 r).cells.toList=R4 r:=by simp[M5,Value.cells]
 obtain⟨l,c⟩:=iA (Tryz.prog.types.size-4) (F0 h 0) (F0 h 1) (F0 h 2) (F0 h 3) (F0 h 4) (F0 h 5)
 have d:=ZP (Tryz.prog.types.size-4+3) (n:=(r.length:Int)) (by have:=h.1;omega)
 have e:Tryz.prog.keyLits ((Tryz.prog.types.size-4)+5) 154 (R4 r)=some ([.int .i64 (r.length:Int)]++l):=by
  unfold Program.keyLits;rw[Tryz.underlying154];have f:(R4 r).length=37:=rfl;have g:((R4 r).drop 0).take 1=[.int .i64 (r.length:Int)]:=rfl;have i:((R4 r).drop 1).take 36=Au (Al r 0)++(Au (Al r 1)++(Au (Al r 2)++(Au (Al r 3)++(Au (Al r 4)++Au (Al r 5))))):=rfl
  simp only[TD,f]
  simp only[List.mapM_cons,List.mapM_nil,dS,TE,g,i,d,c]
  simp
 simp only[iX,hf,Bool.and_self,if_true,a,b,e,nX]
 exact⟨_,rfl⟩
theorem TG {r q:Row}(hr:G5 r)(a:G5 q)(h:M5 r=M5 q):r=q:=by
 unfold M5 at h
 injection h with h
 exact TB hr a (by simpa using congrArg Array.toList h)
theorem I8:KE 154 M5 G5:=⟨dO,fun h=>ZQ h,fun a b e=>TG a b e⟩
theorem Ab.map {κ:Type}{K:TypeId}{enc:κ→Value}{ok:κ→Prop}{S:Nat→Prop}{w w':World}(h:Ab S w w'){b:Nat}{m:κ→Option Value}(a:Cz K enc ok w b m)(c:¬S b):Cz K enc ok w' b m:=a.B2 (h.block b a.lt c)
theorem Cz.CW {κ:Type}{K:TypeId}{enc:κ→Value}{ok:κ→Prop}{w:World}{b:Nat}{m:κ→Option Value}(h:Cz K enc ok w b m)(t:TypeId):¬Is t w b:=by
 rintro⟨c,_,a⟩;obtain⟨es,k,d⟩:=h.obj;rw[d] at a;cases a
open Mo (V Row Bag cnt Af Al)
def An (r:Row):Array Value:=(R4 r).toArray
theorem Bz (r:Row):(An r).size=37:=rfl
theorem F3:(Tryz.prog.info? 154).map (·.size)=some 37:=by kernel_rfl
theorem R5:(Tryz.prog.info? 133).map (·.size)=some 6:=by kernel_rfl
theorem Mb (r:Row):(An r).all (·.oneCell')=true:=by
 rw[nH]
 intro v hv
 have a:v∈R4 r:=by simpa [An] using hv
 simp only[R4,Au,lQ,lC,List.not_mem_nil,or_false] at a
 rcases a with h|h|h|h|h|h|h <;> (try (subst h;rfl)) <;> (rcases h with h|h|h|h|h|h <;> subst h <;> rfl)
theorem R6 (r:Row){i j:Nat}(hi:i<6)(a:j<6):(An r)[1+i*6+j]? =(Au (Al r i))[j]? :=by
 rw[An,mL];exact Vv r hi a
theorem Qw (r:Row):(An r)[0]? =some (.int .i64 (r.length:Int)):=rfl
section
variable {ops:Array Oper} {rest:List Oper} {o:Oper} {a:Act} {w:World} {Q:Exit→Act→World→Prop}
theorem D7 (x:Operand)(ho:o.op=.load 154 x)(b:o.guard=none)(g:Nat)(c:a.eval x=.pointer (some ⟨g,0,none⟩))(r:Row)(hg:w.heap[g]? =some (.cells (An r) 154 (0,0)))
 (h:wpList Tryz.prog ops Q rest (a.put o.dst (.agg (An r))) w):wpList Tryz.prog ops Q (o::rest) a w :=
 wpList_load_row b 154 x ho g c 154 (An r) (0,0) _ hg Tryz.underlying154 rfl (by rw[Bz];exact F3) h
theorem To (x y:Operand)(ho:o.op=.store 154 x y)(b:o.guard=none)(g:Nat)(c:a.eval x=.pointer (some ⟨g,0,none⟩))(r:Row)(d:a.eval y=.agg (An r))(old:Array Value)(e:old.size=37)(hg:w.heap[g]? =some (.cells old 154 (0,0)))
 (h:wpList Tryz.prog ops Q rest (a.put o.dst undef) (w.setRow g (An r))):wpList Tryz.prog ops Q (o::rest) a w :=
 wpList_store_row b 154 x y ho g (An r) c d 154 old hg (by rw[Bz];exact F3) (by rw[Bz];exact e) (Mb r) h
theorem F4 {g k:Nat}{v:V}(c:∀j x,(Au v)[j]? =some x→w.cell? ⟨g,k+j,none⟩=some x):(loadVar 133 ⟨g,k,none⟩).run Tryz.prog w=.ok (.agg (Au v).toArray) w:=by
 have b:(loadCells ⟨g,k,none⟩ (Au v).length).run Tryz.prog w=.ok (Au v).toArray w :=
  run_loadCells_list (P:=Tryz.prog) w ⟨g,k,none⟩ (Au v) (fun j x d=>by
   have e:(⟨g,k,none⟩:Addr).add j=⟨g,k+j,none⟩:=by unfold Addr.add;split <;> simp_all
   rw[e];exact c j x d)
 cases a:Tryz.prog.info? 133 with
 |none=>have:=R5;simp[a] at this
 |some i =>
  have f:i.size=6:=by have:=R5;simpa [a] using this
  have h:(isAgg 133).run Tryz.prog w=.ok true w:=by
   unfold isAgg
   rw[Sem.run_bind,run_underlying Tryz.underlying133 w]
   rfl
  rw[Gl] at b
  simp[loadVar,Sem.run_bind,h,sizeOf,typeInfo,a,f,b]
theorem CX (x:Operand)(ho:o.op=.load 133 x)(b:o.guard=none)(g k:Nat)(c:a.eval x=.pointer (some ⟨g,k,none⟩))(v:V)(d:∀j x,(Au v)[j]? =some x→w.cell? ⟨g,k+j,none⟩=some x)
 (h:wpList Tryz.prog ops Q rest (a.put o.dst (J8 v)) w):wpList Tryz.prog ops Q (o::rest) a w:=by
 refine wpList_plain b fun _ e=>?_
 unfold Oper.wp execOp
 simp only[ho,c,Instr.loadAt,Instr.sureAddr,Sem.run_bind,Sem.run_pure,Result.andThen_ok,F4 d]
 exact e _ _ h
end
theorem Jt {w:World}{g:Nat}{r:Row}(hg:w.heap[g]? =some (.cells (An r) 154 (0,0))){c:Nat}(b:c<6):∀j x,(Au (Al r c))[j]? =some x→w.cell? ⟨g,1+c*6+j,none⟩=some x:=fun j x a=>by
 rw[Ae hg,R6 r b (by have:=(kS.1 a).1;rw[Gl] at this;exact this)];exact a
theorem M6 (a b:Int):wrap64 (wrap64 a+b)=wrap64 (a+b):=by unfold wrap64;omega
theorem C0:wrap64 0=0:=by unfold wrap64;omega
theorem NR {a:Int}(h: -9223372036854775808≤a∧a≤9223372036854775807):wrap64 a=a:=by unfold wrap64;omega
def Cs (l:Bag):Row→Option Value:=fun r=>if wrap64 (cnt l r)=0 then none else some (.int .i64 (wrap64 (cnt l r)))
def Aw (w:World)(b:Nat)(l:Bag):Prop:=(∀e∈l,G5 e.1)∧Cz 154 M5 G5 w b (Cs l)
theorem TH {l a:Bag}(e:Mo.Be l a):Cs l=Cs a:=by funext r;unfold Cs;rw[e r]
theorem Aw.lt {w:World}{b:Nat}{l:Bag}(h:Aw w b l):b<w.heap.size:=h.2.lt
theorem Aw.obj {w:World}{b:Nat}{l:Bag}(h:Aw w b l):∃es c,w.heap[b]? =some (.map es c):=h.2.obj
theorem Aw.B2 {w w':World}{b:Nat}{l:Bag}(h:Aw w b l)(a:w'.heap[b]? =w.heap[b]?):Aw w' b l:=⟨h.1,h.2.B2 a⟩
theorem Aw.kept {S:Nat→Prop}{w w':World}{b:Nat}{l:Bag}(h:Aw w b l)(k:Ab S w w')(a:¬S b):Aw w' b l:=h.B2 (k.block b h.lt a)
theorem Aw.CW {w:World}{b:Nat}{l:Bag}(h:Aw w b l)(t:TypeId):¬Is t w b:=h.2.CW t
theorem Aw.eqv {w:World}{b:Nat}{l a:Bag}(h:Aw w b l)(e:Mo.Be l a)(c:∀x∈a,G5 x.1):Aw w b a:=⟨c,by rw[←TH e];exact h.2⟩
theorem Aw.made (w:World):Aw (w.alloc (.map #[] 0)) w.heap.size []:=by
 refine⟨by simp,?_⟩
 have e:Cs []=fun _=>none:=by funext r;unfold Cs;rw[if_pos (show wrap64 (cnt [] r)=0 from C0)]
 rw[e];exact Cz.made _ _ _ w
theorem TI (l:Bag):gE (Cs l) (Af l).length:=by
 refine⟨(Af l).map (·.1),by simp,fun r hr=>?_⟩
 have a:cnt (Af l) r≠0:=by
  intro e
  rw[Mo.As] at e
  unfold Cs at hr
  rw[if_pos (by rw[e];exact C0)] at hr;cases hr
 obtain⟨x,b,rfl⟩:=Mo.Cg.Dd a
 exact lD.2 ⟨x,b,rfl⟩
theorem CY (l:Bag)(r:Row)(t:Int)(o:Option Value)(ho:o=if wrap64 (wrap64 (cnt l r)+t)=0 then none else some (.int .i64 (wrap64 (wrap64 (cnt l r)+t)))):ZN (Cs l) r o=Cs ((r,t)::l):=by
 funext q
 by_cases h:q=r
 ·subst h
  have e:wrap64 (cnt ((q,t)::l) q)=wrap64 (wrap64 (cnt l q)+t):=by rw[M6];simp only[cnt,if_pos];rw[Int.add_comm]
  rw[Oe,ho];unfold Cs;rw[e]
 ·have e:cnt ((r,t)::l) q=cnt l q:=by simp only[cnt];rw[if_neg (fun e=>h e.symm)];omega
  rw[H9 _ _ h];unfold Cs;rw[e]
theorem R8 (l:Bag)(r:Row):(Cs l r).getD (.int .i64 0)=.int .i64 (wrap64 (cnt l r)):=by
 unfold Cs
 by_cases h:wrap64 (cnt l r)=0
 ·rw[if_pos h,h];rfl
 ·rw[if_neg h];rfl
theorem Og (w:World):(zeroValue 2).run Tryz.prog w=.ok (.int .i64 0) w:=by kernel_rfl
theorem U0 (b:Nat)(l:Bag)(r:Row)(t:Int)(w:World)(h:Aw w b l)(n:G5 r)(o:(Af l).length<maxLen) :
 Calls Tryz.prog 79 #[.map (some b),.agg (An r),.int .i64 t] w fun e w'=>e=.returned (.tuple #[])∧Aw w' b ((r,t)::l)∧Ab (·=b) w w':=by
 have p:=Ad h.1;have q:Cz 154 M5 G5 (w.alloc (.cells (An r) 154)) b (Cs l):=h.2.B2 (Below.heap_alloc _ _ _ h.lt);have f:=Ad q;have c:=Ad n;have u:=Ad o;have hg:(w.alloc (.cells (An r) 154)).heap[w.heap.size]? =some (.cells (An r) 154 (0,0)):=heap_alloc_last _ _;have s:=Ad hg;clear q h n o hg
 by_cases d:wrap64 (wrap64 (cnt l r)+t)=0
 ·have v:(wrap64 (wrap64 (cnt l r)+t) == 0)=true:=by simp[d]
  have g:=Ad d;clear d
  go_enter Tryz.func79,Tryz.ntmps79
  go_wp2_with (first
   |(refine D7 _ rfl rfl w.heap.size rfl r s.o ?_)
   |(at_lookup;refine Db _ I8 rfl _ _ 83 2 rfl Tryz.underlying83 _ (Og _) b (Cs l) rfl f.o r c.o rfl _ (R8 l r) ?_)
   |(at_delete;refine R3 _ I8 rfl _ _ 83 2 rfl Tryz.underlying83 b (Cs l) rfl f.o r c.o rfl ?_;intro i j k)
   |fail)
  refine bodyPost_ret (results_none rfl _ _ _) rfl ?_
  have m:Ab (·=b) w i:=((Ab.refl (·=b) w).alloc _).grown k.grown (fun r e=>by cases e;exact .inr rfl)
  refine⟨rfl,⟨fun e a=>?_,?_⟩,m⟩
  ·rcases lQ.1 a with rfl|a
   ·exact c.o
   ·exact p.o e a
  ·rw[←CY l r t none (by rw[if_pos g.o])];exact j
 ·have v:(wrap64 (wrap64 (cnt l r)+t) == 0)=false:=by simp[d]
  have g:=Ad d;clear d
  go_enter Tryz.func79,Tryz.ntmps79
  go_wp2_with (first
   |(refine D7 _ rfl rfl w.heap.size rfl r s.o ?_)
   |(at_lookup;refine Db _ I8 rfl _ _ 83 2 rfl Tryz.underlying83 _ (Og _) b (Cs l) rfl f.o r c.o rfl _ (R8 l r) ?_)
   |(at_mapUpdate;refine R1 _ I8 rfl _ _ _ 83 2 rfl Tryz.underlying83 b (Cs l) _ rfl f.o (TI l) u.o r c.o _ rfl rfl ?_;intro i j k)
   |fail)
  go_end0
  have m:Ab (·=b) w i:=((Ab.refl (·=b) w).alloc _).grown k.grown (fun r e=>by cases e;exact .inr rfl)
  refine⟨rfl,⟨fun e a=>?_,?_⟩,m⟩
  ·rcases lQ.1 a with rfl|a
   ·exact c.o
   ·exact p.o e a
  ·rw[←CY l r t (some _) (by rw[if_neg g.o])];exact j
open Mo (V Row Bag cnt Af)
def GX (l es:Bag):Prop:=(es.map (·.1)).Nodup∧∀e∈es,G5 e.1∧e.2=wrap64 (cnt l e.1)∧e.2≠0
def Nu (l es:Bag):Prop:=GX l es∧∀r,G5 r→wrap64 (cnt l r)≠0→∃e∈es,e.1=r
theorem Z6 {es:Bag}(h:(es.map (·.1)).Nodup){e:Row×Int}(a:e∈es):cnt es e.1=e.2:=by
 induction es with
 |nil=>cases a
 |cons x es d =>
  have b:=mJ.1 (by simpa using h:(x.1::es.map (·.1)).Nodup)
  rcases lQ.1 a with rfl|a
  ·simp only[cnt,if_pos]
   rw[Mo.Lz fun y f c=>b.1 (lD.2 ⟨y,f,c⟩)];omega
  ·simp only[cnt]
   have g:¬x.1=e.1:=fun c=>b.1 (by rw[c];exact lD.2 ⟨e,a,rfl⟩)
   rw[if_neg g,d b.2 a];omega
theorem Nu.cnt {l es:Bag}(h:Nu l es)(c:∀e∈l,G5 e.1)(r:Row):cnt es r=wrap64 (Mo.cnt l r):=by
 by_cases hr:∃e∈es,e.1=r
 ·obtain⟨e,a,rfl⟩:=hr
  rw[Z6 h.1.1 a];exact (h.1.2 e a).2.1
 ·rw[Mo.Lz fun e a d=>hr ⟨e,a,d⟩]
  by_cases b:wrap64 (Mo.cnt l r)=0
  ·exact b.symm
  ·exfalso
   have:Mo.cnt l r≠0:=fun e=>b (by rw[e];exact C0)
   obtain⟨x,f,rfl⟩:=Mo.Cg.Dd this
   exact hr (h.2 x.1 (c x f) b)
def G1 (w:World)(b it:Nat)(l es:Bag)(k:Nat):Prop:=(∀e∈l,G5 e.1)∧GX l es∧R0 154 M5 G5 w b it (Cs l) (es.map fun e=>(e.1,Value.int .i64 e.2)) k
section
variable {w w':World} {b it:Nat} {l es:Bag} {k:Nat}
theorem G1.at (h:G1 w b it l es k):Aw w b l:=⟨h.1,h.2.2.owns⟩
theorem G1.ne (h:G1 w b it l es k):it≠b:=h.2.2.ne
theorem G1.lt (h:G1 w b it l es k):it<w.heap.size:=h.2.2.lt
theorem G1.ZR (h:G1 w b it l es k):GX l es:=h.2.1
theorem G1.Tm (h:G1 w b it l es k)(a:w'.heap[b]? =w.heap[b]?)(hr:w'.heap[it]? =w.heap[it]?):G1 w' b it l es k:=⟨h.1,h.2.1,h.2.2.Tm a hr⟩
theorem G1.kept {S:Nat→Prop}(h:G1 w b it l es k)(kp:Ab S w w')(a:¬S b)(hi:¬S it):G1 w' b it l es k:=h.Tm (kp.block b h.at.lt a) (kp.block it h.lt hi)
theorem G1.iter (h:G1 w b it l es k):∃x y a c,w.heap[it]? =some (.mapIter x y a c):=by
 obtain⟨_,_,⟨D,left,⟨_,_,_,_,_,_,_,_,_,d,_⟩,_⟩⟩:=h
 exact⟨_,_,_,_,d⟩
end
section
variable (w:World) {ops:Array Oper} {rest:List Oper} {o:Oper} {a:Act} {Q:Exit→Act→World→Prop}
theorem En (hg:o.guard=none)(c:Operand)(f:o.op=Op.range 83 c)(b:Nat)(l:Bag)(g:a.eval c=.map (some b))(d:Aw w b l)
 (h:∀w' k,G1 w' b w.heap.size l [] k→Ab No w w'→w'.heap.size=w.heap.size+1→wpList Tryz.prog ops Q rest (a.put o.dst (.pointer (some ⟨w.heap.size,0,none⟩))) w'):wpList Tryz.prog ops Q (o::rest) a w:=by
 refine Tn w I8 hg c 83 2 f Tryz.underlying83 b (Cs l) g d.2 ?_;intro w' k i j m
 exact h w' k ⟨d.1,⟨by simp,by simp⟩,i⟩ ((Ab.refl _ _).grown j (fun r e=>by cases e)) m
theorem E8 (hg:o.guard=none)(it:Operand)(n:o.op=Op.next it false)(b r:Nat)(l es:Bag)(k:Nat)(hit:a.eval it=.pointer (some ⟨r,0,none⟩))(h:G1 w b r l es k)
 (p:Nu l es→wpList Tryz.prog ops Q rest (a.put o.dst (.tuple #[.bool false])) w)
 (s:∀(t:Int) (q:Row) (w':World) (d:Nat),G5 q→t=wrap64 (cnt l q)→t≠0→G1 w' b r l (es++[(q,t)]) d→d<k→Ab (·=r) w w'→w'.heap.size=w.heap.size →
   (Instr.entry (.pointer (some ⟨r,0,none⟩))).run Tryz.prog w'=.ok (.tuple #[.agg (An q),.int .i64 t]) w'→wpList Tryz.prog ops Q rest (a.put o.dst (.tuple #[.bool true,.agg (An q),.int .i64 t])) w'):wpList Tryz.prog ops Q (o::rest) a w:=by
 obtain⟨u,f,z⟩:=h
 refine Ur w I8 hg it n b r (Cs l) _ k hit z ?_ ?_
 ·intro hf
  refine p ⟨f,fun q g A=>?_⟩
  have hv:Cs l q=some (.int .i64 (wrap64 (cnt l q))):=by unfold Cs;rw[if_neg A]
  have B:=(hf.2 _ _).2 hv
  obtain⟨e,c,i⟩:=lD.1 B
  exact⟨e,c,by injection i⟩
 ·intro q v w' d g hv C D E F G H
  have I:Ab (·=r) w w':=(Ab.refl _ _).grown F (fun x e=>by cases e;exact .inr rfl)
  have j:wrap64 (cnt l q)≠0:=fun e=>by unfold Cs at hv;rw[if_pos e] at hv;cases hv
  have J:v=.int .i64 (wrap64 (cnt l q)):=by unfold Cs at hv;rw[if_neg j] at hv;simpa using hv.symm
  subst J;refine s _ q w' d g rfl j ⟨u,⟨?_,?_⟩,?_⟩ E I G H
  ·rw[lF,mO]
   refine⟨f.1,by simp,fun y K L m=>?_⟩
   simp at m;subst m
   rintro rfl
   obtain⟨e,c,i⟩:=lD.1 K
   exact C (.int .i64 e.2) (lD.2 ⟨e,c,by rw[i]⟩)
  ·intro e c
   rcases lC.1 c with c|c
   ·exact f.2 e c
   ·simp at c;subst c;exact⟨g,rfl,j⟩
  ·rw[lF];exact D
theorem Cw (x y:Operand)(ho:o.op=.store 154 x y)(b:o.guard=none)(w0:World)(old:Array Value)(c:w=w0.alloc (.cells old 154))(d:old.size=37)(e:a.eval x=.pointer (some ⟨w0.heap.size,0,none⟩))(r:Row)(f:a.eval y=.agg (An r))
 (h:wpList Tryz.prog ops Q rest (a.put o.dst undef) (w0.alloc (.cells (An r) 154))):wpList Tryz.prog ops Q (o::rest) a w:=by
 subst c;refine To x y ho b w0.heap.size e r f old d (heap_alloc_last _ _) ?_
 rw[World.setRow_alloc_new];exact h
end
open Mo (V Row Bag cnt Af Ce)
theorem GX.len {l es:Bag}(h:GX l es):es.length≤(Af l).length:=by
 have b:=Em (m:=(Af l).map (·.1)) h.1 (fun r hr=>by
  obtain⟨e,c,rfl⟩:=lD.1 hr
  obtain⟨_,a,d⟩:=h.2 e c
  have:cnt (Af l) e.1≠0:=by
   rw[Mo.As];intro f;rw[f,C0] at a;exact d a
  obtain⟨x,g,i⟩:=Mo.Cg.Dd this
  exact lD.2 ⟨x,g,i⟩)
 simpa using b
def jU (l m:Bag):Prop:=∀r,wrap64 (cnt l r)=wrap64 (cnt m r)
theorem Aw.iZ {w:World}{b:Nat}{l a:Bag}(h:Aw w b l)(e:jU l a)(c:∀x∈a,G5 x.1):Aw w b a:=by
 refine⟨c,?_⟩
 have:Cs l=Cs a:=by funext r;unfold Cs;rw[e r]
 rw[←this];exact h.2
theorem Nu.iZ {l es:Bag}(h:Nu l es)(a:∀e∈l,G5 e.1)(m:Bag):jU (es++m) (l++m):=fun r=>by
 rw[Mo.Am,Mo.Am,h.cnt a r,M6]
theorem Yj {l m:Bag}(h:∀e∈l,G5 e.1)(k:∀e∈m,G5 e.1):∀e∈l++m,G5 e.1:=fun e a=>by
 rcases lC.1 a with a|a
 ·exact h e a
 ·exact k e a
theorem GX.ok {l es:Bag}(h:GX l es):∀e∈es,G5 e.1:=fun e a=>(h.2 e a).1
theorem GY (a d:Nat)(b f:Bag)(w:World)(p:Aw w a b)(s:Aw w d f)(H:a≠d)(u:(Af b).length+(Af f).length<maxLen) :
 Calls Tryz.prog 116 #[.map (some a),.map (some d)] w fun e w'=>e=.returned (.tuple #[])∧Aw w' a (f++b)∧Ab (·=a) w w':=by
 have g:=Ad p;have h:=Ad s;have I:=Ad u;clear p s u
 go_enter Tryz.func116,Tryz.ntmps116
 go_wp2_with (first
  |(at_range;refine En _ rfl _ rfl d f rfl h.o ?_;intro v J x j K)
  |fail)
 have L:=Ad x;have M:oH (Aw v a b):=g.o.kept j oI
 have y:Ab (·=a) w v:=j.any
 have ab:=g.o.lt;clear x K j
 go_frame
 go_loopg [] J (fun k wr=>∃es:Bag,oH (G1 wr d w.heap.size f es k)∧oH (Aw wr a (es++b))∧Ab (·=a) w wr)
 case atStart=>exact⟨[],L,M,y⟩
 case round =>
  obtain⟨es,hr,z,A⟩:=hrel
  have B:=Ad A;clear A y
  go_wp2_with (first
   |(at_next;refine E8 _ rfl _ rfl d w.heap.size f es gk rfl hr.o ?_ ?_)
   |fail)
  ·intro N
   go_wp2_with fail;go_end0
   exact⟨rfl,z.o.iZ (N.iZ h.o.1 b) (Yj h.o.1 g.o.1),B.o⟩
  ·intro t q c C D O P E Q l R ac
   have S:=Ad D;have m:=Ad E;have T:=Ad l
   have n:Aw c a (es++b):=z.o.kept l (fun e=>by omega)
   have U:oH (Aw (c.alloc (.cells (An q) 154)) a (es++b)):=n.B2 (Below.heap_alloc _ _ _ n.lt);have V:oH ((c.alloc (.cells (An q) 154)).heap[c.heap.size]? =some (.cells (An q) 154 (0,0))):=heap_alloc_last _ _
   have W:oH ((Af (es++b)).length<maxLen):=by
    have e1:=m.o.ZR.len;have ad:=Mo.Cq es b;have ae:=I.o
    show _<_
    simp at e1;omega
   clear D E l O P n R
   go_wp2_with (first
    |(refine Cw _ _ _ rfl rfl c _ rfl rfl rfl q rfl ?_)
    |(refine D7 _ rfl rfl c.heap.size rfl q V.o ?_)
    |fail)
   refine (U0 a (es++b) q t _ U.o S.o W.o).mono ?_;rintro e w3 ⟨rfl,F,G⟩
   have o:Ab (·=a) c w3:=((Ab.refl No c).alloc _).SB G
   have X:oH (G1 w3 d w.heap.size f (es++[(q,t)]) C):=m.o.kept o (fun e=>H e.symm) (fun e=>by omega)
   have Y:oH (Aw w3 a ((es++[(q,t)])++b)):=by
    refine F.eqv (fun r=>?_) (Yj m.o.ZR.ok g.o.1)
    simp only[Mo.Am,cnt];omega
   have Z:oH (Ab (·=a) w w3):=by
    have aa:Ab (·=a) w c:=B.o.trans T.o (fun _ e=>e) (fun i hi e=>by omega)
    exact aa.seq o
   clear F G o;go_wp2_with fail;go_roundg C
   case measure=>exact Q
   case rel=>exact⟨es++[(q,t)],X,Y,Z.o⟩
def Gf (w:World)(v:Value)(l:Bag):Prop:=(v=.map none∧l=[])∨∃b,v=.map (some b)∧Aw w b l
theorem Gf.ok {w:World}{v:Value}{l:Bag}(h:Gf w v l):∀e∈l,G5 e.1:=by
 rcases h with ⟨_,rfl⟩|⟨b,_,h⟩
 ·simp
 ·exact h.1
theorem Gf.B2 {w w':World}{v:Value}{l:Bag}(h:Gf w v l)(a:∀b,v=.map (some b)→w'.heap[b]? =w.heap[b]?):Gf w' v l:=by
 rcases h with h|⟨b,rfl,h⟩
 ·exact .inl h
 ·exact .inr ⟨b,rfl,h.B2 (a b rfl)⟩
theorem Gf.kept {S:Nat→Prop}{w w':World}{v:Value}{l:Bag}(h:Gf w v l)(k:Ab S w w')(a:∀b,v=.map (some b)→¬S b):Gf w' v l:=by
 rcases h with h|⟨b,rfl,h⟩
 ·exact .inl h
 ·exact .inr ⟨b,rfl,h.kept k (a b rfl)⟩
theorem Gf.Ah {w w':World}{v:Value}{l:Bag}(h:Gf w v l)(k:Ab No w w'):Gf w' v l:=h.kept k (fun _ _ e=>e)
def cT (es:Bag):Int:=Ce es fun _=>1
theorem TK (es:Bag)(r:Row)(t:Int):cT (es++[(r,t)])=cT es+t:=by simp[cT,Mo.Gz,Ce]
end Go.Proofs.YtdinjjmcmfjbfaaGreatDoor
