import Derived.Test.YtdinjjmcmfjbfaaGreatDoorSvJ
import Derived.Test.YtdinjjmcmfjbfaaGreatDoorKiJ
set_option maxRecDepth 100000
set_option maxHeartbeats 4000000
namespace Go.Proofs.YtdinjjmcmfjbfaaGreatDoor
open Go.RowKit Go.Shelf Mo Pl Tryz
set_option linter.unusedSimpArgs false
theorem Q7 {c:Nat}{v:V}{S:Bag}(h:Ad S=[]):Ad (Dm c v S)=[]:=by
 rw[Dp] at *;intro r;rw[Lx,h r];split <;> rfl
def lX (b o c id:Nat)(cs:Array Value)(ty:TypeId)(hv:Value)(f:V→Option Nat)(L:Bag)(w:World)(O:Ow)(e:Ending)(w':World):Prop :=
 e=.returned (.tuple #[])∧∃hv' f',w'.heap[b]? =some (.cells (cs.setIfInBounds (o+1) hv') ty (0,0))∧Ml w' (oB w O id) id hv' c L f'∧(∀k,AM hv' f' k→AM hv f k∨w.heap.size≤k)∧Ab (fun k=>k=b∨AM hv f k) w w'
structure Pc (b o c id m cb it:Nat) (cs:Array Value) (ty:TypeId) (hv:Value) (f:V→Option Nat) (S d:Bag) (w:World) (O:Ow) (wr:World) (es:Bag) (k:Nat) (fr:V→Option Nat):Prop where
 rng:D5 wr cb it (Ad d) es k
 blk:wr.heap[b]? =some (.cells (cs.setIfInBounds (o+1) (.map (some m))) ty (0,0))
 sh:Qd wr (oB w O id) id m c (S++es) fr
 own:∀k,k=m∨(∃v,fr v=some k)→AM hv f k∨w.heap.size≤k
 kept:Ab (fun k=>k=b∨AM hv f k) w wr
theorem Pc.done {b o c id m a it:Nat}{cs:Array Value}{ty:TypeId}{hv:Value}{f:V→Option Nat}{S d:Bag}{w:World}{O:Ow}{wr:World}{es:Bag}{k:Nat}{fr:V→Option Nat}{us:List Bool}(h:Pc b o c id m a it cs ty hv f S d w O wr es k fr)(g:J9 (Ad d) es)(i:Gf us d) :
 lX b o c id cs ty hv f (S++d) w O (.returned (.tuple #[])) wr :=
 ⟨rfl,.map (some m),fr,h.blk,.inr ⟨m,rfl,h.sh.eqv ((A9.refl _).append (g.eqv i))⟩,fun k j=>h.own k (by rcases j with e|e;(left;simpa using e.symm);exact .inr e),h.kept⟩
theorem Pc.next {b o c id m j it bv:Nat}{cs:Array Value}{ty:TypeId}{hv:Value}{f:V→Option Nat}{S d:Bag}{w:World}{O:Ow}{g wf:World}{es:Bag}{D:Nat}{fr ff:V→Option Nat}{q:Row}{t:Int}(hr:D5 g j it (Ad d) (es++[(q,t)]) D)(n:C2 g b (cs.setIfInBounds (o+1) (.map (some m))) ty)
 (p:Qd g (oB w O id) id m c (S++es) fr) (u:∀k,k=m∨(∃v,fr v=some k)→AM hv f k∨w.heap.size≤k) (E:Ab (fun k=>k=b∨AM hv f k) w g) (F:¬AM hv f j) (_:j<w.heap.size)
 (r:Ab (fun k=>k=m∨k=bv) g wf) (I:B9 133 Ex Mh wf m (Qe ff)) (l:(oB w O id) bv=id∧bv≠m∧(∀v,v≠Aj q c→fr v≠some bv)∧((∃v,fr v=some bv)∨g.heap.size≤bv))
 (x:(ff (Aj q c)=some bv∧Ak wf bv (Ad (Dm c (Aj q c) ((S++es)++[(q,t)])))∧Ad (Dm c (Aj q c) ((S++es)++[(q,t)]))≠[])∨(ff (Aj q c)=none∧Ad (Dm c (Aj q c) ((S++es)++[(q,t)]))=[]))
 (G:∀v,v≠Aj q c→ff v=fr v):Pc b o c id m j it cs ty hv f S d w O wf (es++[(q,t)]) D ff:=by
 have y:AM hv f bv∨w.heap.size≤bv:=by
  rcases l.2.2.2 with h|h
  ·exact u bv (.inr h)
  exact .inr (uJ E.size h)
 have z:=u m (.inl rfl);have H:∀k,k=m∨k=bv→k<g.heap.size→∃es c,g.heap[k]? =some (.map es c):=by
  rintro k (rfl|rfl) hl
  ·exact p.map.obj
  rcases l.2.2.2 with ⟨v,h⟩|h
  ·exact (p.bag h).2.2.1.obj
  omega
 have J:¬(j=m∨j=bv):=by
  rintro (rfl|rfl)
  ·rcases z with h|h
   ·exact F h
   omega
  rcases y with h|h
  ·exact F h
  omega
 have K:¬(it=m∨it=bv):=fun h=>by obtain⟨_,_,_,_,A⟩:=hr.iter;obtain⟨L,M,B⟩:=H it h (Aa A);rw[B] at A;cases A
 have N:¬(b=m∨b=bv):=fun h=>by obtain⟨L,M,B⟩:=H b h (Aa n);cases B.symm.trans n
 refine⟨hr.kept r J K,(r.block b (Aa n) N).trans n,?_,?_,?_⟩
 ·rw[←wJ];refine p.step I G (fun v b' s e=>r.block b' (p.bag e).2.2.1.lt ?_) (fun b' e=>?_) (fun e=>?_)
  ·rintro (rfl|rfl)
   ·exact (p.bag e).2.1 rfl
   exact l.2.2.1 v s e
  ·rcases x with ⟨a,C,P⟩|⟨a,_⟩
   ·rw[a] at e;have:bv=b':=(by simpa using e);subst this;exact⟨l.1,l.2.1,C,P,l.2.2.1⟩
   rw[a] at e;cases e
  rcases x with ⟨a,_⟩|⟨_,C⟩
  ·rw[a] at e;cases e
  exact C
 ·rintro k (rfl|⟨v,e⟩)
  ·exact z
  by_cases s:v=Aj q c
  ·subst s;rcases x with ⟨a,_⟩|⟨a,_⟩
   ·rw[a] at e;have:bv=k:=(by simpa using e);subst this;exact y
   rw[a] at e;cases e
  rw[G v s] at e;exact u k (.inr ⟨v,e⟩)
 refine E.trans r (fun _ e=>e) (fun i hi e=>?_);rcases e with rfl|rfl
 ·rcases z with h|h
  ·exact .inr h
  omega
 rcases y with h|h
 ·exact .inr h
 omega
theorem BQ {l es:Bag}{x:Row×Int}(h:Wm l (es++[x])):Wm l es:=⟨by have:=h.1;rw[uF] at this;exact (vP.1 this).1,fun e a=>h.2 e (tW.2 (.inl a))⟩
theorem cE {us:List Bool}{S d es:Bag}(b:B2 us S)(e:Gf us d)(f:Wm (Ad d) es)(c:Nat)(v:V):(Ad (S++es)).length<maxLen∧(Ad (Ad (Dm c v (S++es)))).length<maxLen:=by
 have e1:=f.len;have e2:=e.len;have e3:=b.len;have a:∀l:Bag,Ad (Ad l)=Ad l:=fun l=>Bp (Ap l);rw[a] at e1;have e4:=A3 es S;have g:A9 (S++es) (es++S):=fun r=>by simp only[Ah];omega
 rw[←g.canon] at e4;have e5:(Ad (S++es)).length<maxLen:=by unfold maxLen;omega
 refine⟨e5,?_⟩;rw[a];have h:A9 (Dm c v (S++es)) (Dm c v (Ad (S++es))):=JN (Bc _).symm;have i:=A3 (Dm c v (Ad (S++es))) [];have j:(Dm c v (Ad (S++es))).length≤(Ad (S++es)).length:=wE _ _;simp only[vT,Ad,vI] at i;rw[h.canon];omega
theorem JP (b o c D id:Nat)(cs:Array Value)(ty:TypeId)(hv:Value)(us:List Bool)(S d:Bag)(f:V→Option Nat)(w:World)(O:Ow)(E:C2 w b cs ty)(ho:cs[o]? =some (.int .i64 (c:Int)))(a4:cs[o+1]? =some hv)(bo:Ml w O id hv c S f)
 (bp:B2 us S) (bq:B2 us (S++d)) (a5:Ak w D (Ad d)) (cf:¬AM hv f D) (dw:c<6) :
 Calls prog 255 #[.pointer (some ⟨b,o,none⟩),.map (some D)] w (lX b o c id cs ty hv f (S++d) w O):=by
 have cg:=bp.chg bq;have ch:=Aa E;have ci:=a5.lt;have dx:D≠b:=by rintro rfl;obtain⟨es,Z,M⟩:=a5.obj;cases M.symm.trans E
 have dy:o+1<cs.size:=(Array.getElem?_eq_some_iff.1 a4).1;have HD:=Ae cg;have cj:=Ae a5;have br:=Ae bp;have dz:=Ae bq;have ck:=Ae E;have er:=Ae ho;have d0:=Ae a4;have cl:=Ae cf;have et:=Bm c
 have eu:(c:Int)<6:=by omega
 have cm:∀af,(cs.setIfInBounds (o+1) af)[o]? =some (.int .i64 (c:Int)):=fun af=>by rw[Array.getElem?_setIfInBounds_ne (by omega)];exact ho
 have d1:=Ae cm;have cn:∀af,(cs.setIfInBounds (o+1) af)[o+1]? =some af:=fun af=>by rw[vB,if_pos rfl,if_pos dy]
 have d2:=Ae cn;have g0:w.cell? ⟨b,o+1,none⟩=some hv:=by rw[Af E];exact a4
 have gf:w.frozen? ⟨b,o+1,none⟩=false:=Am E _;have co:∀k,AM hv f k→k≠b:=by
  rintro k s rfl;rcases bo with ⟨C,_,ap⟩|⟨m,C,ag⟩
  ·rcases s with e|⟨v,e⟩
   ·rw[C] at e;cases e
   rw[ap] at e;cases e
  rcases s with e|⟨v,e⟩
  ·rw[C] at e;have:m=k:=(by simpa using e);subst this;obtain⟨es,Z,M⟩:=ag.map.obj;cases M.symm.trans E
  obtain⟨es,Z,M⟩:=(ag.bag e).2.2.1.obj;cases M.symm.trans E
 have ev:=Ae co;have d3:=Ae bo;have a6:=@run_makeMap prog;have cp:=fun (p:Option Nat) (w:World)=>run_eql_map_nil_sl (P:=prog) w 83 _ _ p underlying83;clear cg a5 bp bq E ho a4 cf cm cn co d3;rcases bo with ⟨N,cq,aq⟩|⟨m,N,hsh⟩
 case' inl =>
  have aa:=fun w=>run_eql_map_nil_sl (P:=prog) w 233 _ _ none underlying233;rw[N] at g0;have cr:=Ae N;clear N;have bs:(w.setCell ⟨b,o+1,none⟩ (.map (some w.heap.size))).heap.size=w.heap.size:=by simp[World.setCell]
  have ab:xR (C2 ((w.setCell ⟨b,o+1,none⟩ (.map (some w.heap.size))).alloc (.map #[] 0)) b (cs.setIfInBounds (o+1) (.map (some w.heap.size))) ty∧Qd ((w.setCell ⟨b,o+1,none⟩ (.map (some w.heap.size))).alloc (.map #[] 0)) (oB w O id) id w.heap.size c S f∧Ak ((w.setCell ⟨b,o+1,none⟩ (.map (some w.heap.size))).alloc (.map #[] 0)) D (Ad d)∧Ab (fun k=>k=b∨AM hv f k) w ((w.setCell ⟨b,o+1,none⟩ (.map (some w.heap.size))).alloc (.map #[] 0))):=by have ap:Ab (fun k=>k=b) w ((w.setCell ⟨b,o+1,none⟩ (.map (some w.heap.size))).alloc (.map #[] 0)):=((Ab.refl (fun k=>k=b) w).setCell (.inr rfl) _).alloc _;have ag:((w.setCell ⟨b,o+1,none⟩ (.map (some w.heap.size))).alloc (.map #[] 0)).heap[w.heap.size]? =some (.map #[] 0):=(by have:=heap_alloc_last (w.setCell ⟨b,o+1,none⟩ (.map (some w.heap.size))) (.map #[] 0);rw[bs] at this;exact this);refine⟨(Below.heap_alloc _ _ _ (by rw[bs];exact ch)).trans (A0 ck.o _ _),⟨?_,EJ (tY _),(fun {v b'} e=>absurd e (by rw[aq];simp)),(fun {v} _ _=>Q7 cq),(fun {v u b'} e=>absurd e (by rw[aq];simp))⟩,cj.o.kept ap dx,ap.mono fun i _ e=>.inl e⟩;have e:Qe f=fun _=>none:=(by funext v;unfold Qe;rw[aq];rfl);rw[e];exact (B9.made 133 Ex Mh w).A6 (by rw[ag];exact (heap_alloc_last _ _).symm)
  have bt:xR (∀v,f v=none):=Ae aq;clear cq aq bs;go_enter func255,ntmps255;go_wp2_with (first
   |(at_range;refine Bv _ rfl _ rfl D (Ad d) rfl ab.o.2.2.1 ?_;intro w1 a7 ar H bu)
   |fail)
  have ct:=ab.o.2.2.2.trans H (U:=fun k=>k=b∨AM hv f k) (fun _ e=>e) (fun _ _ e=>e.elim);have au:=(H.block b (Aa ab.o.1) xT).trans ab.o.1;have av:Qd w1 (oB w O id) id w.heap.size c S f:=ab.o.2.1.lW fun k s=>⟨H.block k (by
   rcases s with rfl|⟨v,e⟩
   ·exact ab.o.2.1.map.lt
   rw[bt.o] at e;cases e) xT,rfl⟩
  have hit:w.heap.size≤((w.setCell ⟨b,o+1,none⟩ (.map (some w.heap.size))).alloc (.map #[] 0)).heap.size:=by simp[World.setCell]
  have ah:xR (Pc b o c id w.heap.size D ((w.setCell ⟨b,o+1,none⟩ (.map (some w.heap.size))).alloc (.map #[] 0)).heap.size cs ty hv f S d w O w1 [] a7 f):=⟨ar,au,by rw[vT];exact av,(fun k s=>.inr (by
   rcases s with rfl|⟨v,e⟩
   ·exact tY _
   rw[bt.o] at e;cases e)),ct⟩
  generalize ((w.setCell ⟨b,o+1,none⟩ (.map (some w.heap.size))).alloc (.map #[] 0)).heap.size=it at ah hit⊢;obtain⟨m,M⟩:∃m,m=w.heap.size:=⟨_,rfl⟩;rw[←M] at ah;clear ar bu H ct au av ab bt a6 aa M g0 gf
 case' inr =>
  have aa:=fun w=>run_eql_map_nil_sl (P:=prog) w 233 _ _ (some m) underlying233;have cu:cs.setIfInBounds (o+1) (.map (some m))=cs:=Yn (N ▸ d0.o);rw[N] at g0;have cr:=Ae N;clear N;go_enter func255,ntmps255;go_wp2_with (first
   |(at_range;refine Bv _ rfl _ rfl D (Ad d) rfl cj.o ?_;intro w1 a7 ar H bu)
   |fail)
  have au:w1.heap[b]? =some (.cells (cs.setIfInBounds (o+1) (.map (some m))) ty (0,0)):=by rw[cu];exact (H.block b ch xT).trans ck.o
  have av:Qd w1 (oB w O id) id m c S f:=hsh.lW fun k s=>by
   have x:k<w.heap.size:=by
    rcases s with rfl|⟨v,e⟩
    ·exact hsh.map.lt
    exact (hsh.bag e).2.2.1.lt
   exact⟨H.block k x xT,Fu x⟩
  have hit:w.heap.size≤w.heap.size:=tY _;have ah:xR (Pc b o c id m D w.heap.size cs ty hv f S d w O w1 [] a7 f):=⟨ar,au,by rw[vT];exact av,(fun k s=>.inl (by
   rcases s with rfl|e
   ·exact .inl cr.o
   exact .inr e)),H.any⟩
  obtain⟨it,cw⟩:∃it,it=w.heap.size:=⟨_,rfl⟩;have hit:w.heap.size≤it:=by omega
  rw[←cw] at ah⊢;clear ar bu H au av a6 aa cw g0 gf cu hsh
 all_goals
  go_frame;go_loopg [] a7 (fun k wr=>∃(es:Bag) (fr:V→Option Nat),xR (Pc b o c id m D it cs ty hv f S d w O wr es k fr))
  case atStart=>exact⟨[],f,ah⟩
  obtain⟨es,fr,x⟩:=hrel;clear ah;go_wp2_with (first
   |(at_next;refine B0 _ rfl _ rfl D it (Ad d) es gk rfl x.o.rng ?_ ?_)
   |fail)
  ·intro cx;have d4:=Ae (x.o.done cx HD.o);clear cx;go_wp21;go_end0;exact d4.o
  intro t q j cy aa cz d5 a8 c0 a9 d6 ew;have d7:=Ae aa;have ac:xR (Mh (Aj q c)):=Fs aa c;have aw:=Ae a8;have ex:xR (t=cnt d q):=by show _=_;rw[cz,HD.o.gU]
  obtain⟨d8,d9,ea,eb,c2⟩:=a8.iter;have bw:=x.o.rng.iter;have c3:∀k,k=m∨(∃v,fr v=some k)→k≠it:=by
   rintro k s rfl;obtain⟨ec,ed,ee,ef,y⟩:=bw;rcases s with rfl|⟨v,e⟩
   ·obtain⟨ba,Z,I⟩:=x.o.sh.map.obj;rw[I] at y;cases y
   obtain⟨ba,Z,I⟩:=(x.o.sh.bag e).2.2.1.obj;rw[I] at y;cases y
  have c4:∀k,k=m∨(∃v,fr v=some k)→k<wr.heap.size:=by
   rintro k (rfl|⟨v,e⟩)
   ·exact x.o.sh.map.lt
   exact (x.o.sh.bag e).2.2.1.lt
  have ad:xR (Qd j (oB w O id) id m c (S++es) fr):=x.o.sh.lW fun k s=>⟨a9.block k (c4 k s) (c3 k s),rfl⟩;have c5:=Ae x.o.own;have eg:it≠b:=by rintro rfl;obtain⟨ec,ed,ee,ef,y⟩:=bw;rw[x.o.blk] at y;cases y
  have bb:C2 j b (cs.setIfInBounds (o+1) (.map (some m))) ty:=(a9.block b (Aa x.o.blk) (fun e=>eg e.symm)).trans x.o.blk;have bc:=Ae bb;have bx:xR (Ab (fun k=>k=b∨AM hv f k) w j):=x.o.kept.trans a9 (fun _ e=>e) (fun i hi e=>by omega);have ey:xR (q∉es.map (·.1)):=by have:=a8.T9.1;rw[uF,vP] at this;exact fun h=>this.2.2 q h q (by simp) rfl
  have c6:xR (C2 (j.alloc (.cells (Ai q) 154)) j.heap.size (Ai q) 154):=heap_alloc_last _ _;have eh:(j.alloc (.cells (Ai q) 154)).cell? ⟨b,o,none⟩=some (.int .i64 (c:Int)):=by rw[Af ((Below.heap_alloc _ _ _ (Aa bb)).trans bb)];exact d1.o _
  have ae:xR (C2 ((j.alloc (.cells (Ai q) 154)).alloc (.cells #[D4,C4,C4,C4,C4,D2] 133)) (j.heap.size+1) #[D4,C4,C4,C4,C4,D2] 133):=heap_alloc2_new _ _ _;have ei:m<j.heap.size:=ad.o.map.lt;have ez:w.heap.size≤j.heap.size:=bx.o.size;have e0:it<j.heap.size:=Aa c2;clear aa a8 cz a9 d6 c2 bw c3 c4 x d8 d9 ea eb bb d5;go_wp2_with (first
   |(refine Bt _ _ _ rfl rfl j _ rfl rfl rfl q rfl ?_)
   |(refine Yf _ rfl rfl j.heap.size (1+c*6) rfl (Aj q c) (Ih c6.o dw) ?_)
   |(refine Vh _ _ rfl rfl (j.heap.size+1) rfl (Aj q c) rfl _ rfl ae.o ?_)
   |fail)
  have c7:(((j.alloc (.cells (Ai q) 154)).alloc (.cells #[D4,C4,C4,C4,C4,D2] 133)).setRow (j.heap.size+1) (A2 (Aj q c)).toArray).heap[j.heap.size+1]? =some (.cells (A2 (Aj q c)).toArray 133 (0,0)):=Cj ae.o;have bz:Ab No j (((j.alloc (.cells (Ai q) 154)).alloc (.cells #[D4,C4,C4,C4,C4,D2] 133)).setRow (j.heap.size+1) (A2 (Aj q c)).toArray):=Bs (((Ab.refl No j).alloc _).alloc _) (.inl (by omega)) _;have c8:(((j.alloc (.cells (Ai q) 154)).alloc (.cells #[D4,C4,C4,C4,C4,D2] 133)).setRow (j.heap.size+1) (A2 (Aj q c)).toArray).heap[j.heap.size]? =some (.cells (Ai q) 154 (0,0)):=by have s:=Bs (Ab.refl (fun k=>k=j.heap.size+1) ((j.alloc (.cells (Ai q) 154)).alloc (.cells #[D4,C4,C4,C4,C4,D2] 133))) (g:=j.heap.size+1) (.inr rfl) (A2 (Aj q c)).toArray;exact (s.block _ (by simp;omega) (by omega)).trans (heap_alloc2_old _ _ _)
  obtain⟨c1,ax⟩:∃c1,c1=cs.setIfInBounds (o+1) (.map (some m)):=⟨_,rfl⟩;obtain⟨z,bd⟩:∃z,z=Ai q:=⟨_,rfl⟩;obtain⟨cv,be⟩:∃cv,cv=(A2 (Aj q c)).toArray:=⟨_,rfl⟩;have ai:=Ae (And.intro ((bz.block b (Aa bc.o) xT).trans bc.o) (And.intro c8 c7));have aj:=Ae bz;clear c7 bz c8 c6 ae eh;generalize ((j.alloc (.cells (Ai q) 154)).alloc (.cells #[D4,C4,C4,C4,C4,D2] 133)).setRow (j.heap.size+1) (A2 (Aj q c)).toArray=W at ai aj⊢;rw[←ax,←bd,←be] at ai;have Q:xR (∀w:World,C2 w b c1 ty→C3 w b (o+1) (.map (some m))):=by subst ax;exact fun w h=>(Af h _).trans (d2.o _)
  have R:xR (∀w:World,C2 w (j.heap.size+1) cv 133→(loadVar 133 ⟨j.heap.size+1,0,none⟩).run prog w=.ok (.agg cv) w):=by subst be;exact fun w h=>run_loadVar_row w (j.heap.size+1) 133 133 (A2 (Aj q c)).toArray (0,0) _ h underlying133 rfl (by exact ZW)
  have b0:xR (∀w:World,C2 w j.heap.size z 154→(loadVar 154 ⟨j.heap.size,0,none⟩).run prog w=.ok (.agg z) w):=by subst bd;exact fun w h=>run_loadVar_row w j.heap.size 154 154 (Ai q) (0,0) _ h underlying154 rfl (by rw[Bd];exact Cp)
  have ak:xR (.agg cv=Ex (Aj q c)):=by show _=_;rw[be];rfl
  have ej:=Ae bd;have ek:=Ae ax;have el:xR (C2 j b c1 ty):=by show _=_;rw[ax];exact bc.o
  clear ax bd be bc;have A:xR (Qd W.drew (oB w O id) id m c (S++es) fr):=ad.o.lW fun k s=>by
   have x:k<j.heap.size:=by
    rcases s with rfl|⟨v,e⟩
    ·exact ei
    exact (ad.o.bag e).2.2.1.lt
   exact⟨aj.o.drew.block k x xT,rfl⟩
  cases al:fr (Aj q c)
  case' none =>
   have F:=Ae al;have ay:xR ((Qe fr (Aj q c)).getD (.map none)=.map none):=(by show _=_;unfold Qe;rw[al];rfl);clear al;refine wp_region_held_drew (S:=fun w'=>w'.heap[b]? =some (.cells c1 ty (0,0))∧w'.heap[j.heap.size]? =some (.cells z 154 (0,0))∧w'.heap[j.heap.size+1]? =some (.cells cv 133 (0,0))) (by kernel_rfl) ai.o (fun a=>?_);refine An 0 (.pointer (some ⟨b,o,none⟩)) a ?_;refine An 1 (.pointer (some ⟨b,o,none⟩)) a ?_;refine An 2 (.pointer (some ⟨b,o+1,none⟩)) a ?_;refine Iq 3 (.map (some m)) 233 (.tmp 32) (b) (o+1) (fun w h=>Q.o w h.1) a ?_
   try simp only[Act.put,Ar,As,Au,Av,Aw,Ax]
   refine Ha 4 (.agg cv) 133 (.tmp 6) (j.heap.size+1) (0) (fun w h=>R.o w h.2.2) a ?_;refine C0 5 (fun K l=>?_);rw[if_pos (by kernel_rfl)];refine Hv V4 (.tmp 33) (.tmp 34) 233 83 (by kernel_rfl) underlying233 (.map none) (Rz _) m (Qe fr) (by kernel_rfl) A.o.map (Aj q c) ac.o (by rw[←ak.o];kernel_rfl) _ ay.o ?_;refine l.out _ _ a (fun a=>?_);clear l K
   try simp only[Act.put,Ar,As,Au,Av,Aw,Ax]
   have b1:=cp none;refine An 6 (.bool (Option.isNone (none:Option Nat))) a ?_;refine wpAnyH_done (by kernel_rfl) ?_ _;clear b1
   try simp only[Act.put,Ar,As,Au,Av,Aw,Ax]
   have a6:=@run_makeMap prog;have b2:=Ae a;have bf:xR (Ab No j W.drew):=aj.o.drew;clear a ai aj ay;generalize W.drew=w5 at b2 bf A⊢;go_wp21;refine wp_region_held_drew (S:=fun w'=>w'.heap[b]? =some (.cells c1 ty (0,0))∧w'.heap[j.heap.size]? =some (.cells z 154 (0,0))∧w'.heap[j.heap.size+1]? =some (.cells cv 133 (0,0))) (by kernel_rfl) b2.o (fun a=>?_);refine An 0 (.pointer (some ⟨b,o,none⟩)) a ?_;refine An 1 (.pointer (some ⟨b,o,none⟩)) a ?_;refine An 2 (.pointer (some ⟨b,o+1,none⟩)) a ?_;refine Iq 3 (.map (some m)) 233 (.tmp 39) (b) (o+1) (fun w h=>Q.o w h.1) a ?_
   try simp only[Act.put,Ar,As,Au,Av,Aw,Ax]
   refine Ha 4 (.agg cv) 133 (.tmp 6) (j.heap.size+1) (0) (fun w h=>R.o w h.2.2) a ?_;refine C0 5 (fun K l=>?_);go_simp;have b3:C2 ((w5.alloc (.map #[] 0)).drew) b c1 ty∧C2 ((w5.alloc (.map #[] 0)).drew) j.heap.size z 154∧C2 ((w5.alloc (.map #[] 0)).drew) (j.heap.size+1) cv 133:=⟨(Below.heap_alloc _ _ _ (Aa a.1)).trans a.1,(Below.heap_alloc _ _ _ (Aa a.2.1)).trans a.2.1,(Below.heap_alloc _ _ _ (Aa a.2.2)).trans a.2.2⟩;have az:xR (Ak ((w5.alloc (.map #[] 0)).drew) w5.heap.size []):=Ak.made w5;have b4:xR (Ab No j ((w5.alloc (.map #[] 0)).drew)):=(bf.o.alloc _).drew;have bg:xR (B9 133 Ex Mh ((w5.alloc (.map #[] 0)).drew) m (Qe fr)):=A.o.map.A6 (Below.heap_alloc _ _ _ A.o.map.lt);have c9:=Ae (nO A.o);have b5:j.heap.size≤w5.heap.size:=bf.o.size;generalize (w5.alloc (.map #[] 0)).drew=w6 at b3 az b4 bg⊢;generalize w5.heap.size=bv at az b5⊢;refine l.out _ _ b3 (fun a=>?_);clear l K
   refine C0 6 (fun K l=>?_);rw[if_pos (by kernel_rfl)];refine AK V4 (.tmp 40) (.tmp 41) (.tmp 42) 233 83 (by kernel_rfl) underlying233 m (Qe fr) _ (by kernel_rfl) bg.o c9.o (cE br.o HD.o (BQ aw.o.T9) c (Aj q c)).1 (Aj q c) ac.o (.map (some bv)) (by rw[←ak.o];kernel_rfl) (by kernel_rfl) ?_;intro B da db;have am:Ab (fun k=>k=m) w6 B:=(Ab.refl _ _).grown db.grown (fun r e=>by cases e;exact .inr rfl);have em:=az.o.lt;have b6:m≠bv:=(by omega);have J:∀k,(∃T X Y,w6.heap[k]? =some (.cells T X Y))→k≠m:=(by rintro k ⟨T,X,Y,y⟩ rfl;obtain⟨ba,Z,I⟩:=bg.o.obj;rw[I] at y;cases y);have dc:C2 B b c1 ty∧C2 B j.heap.size z 154∧C2 B (j.heap.size+1) cv 133:=⟨(am.block _ (Aa a.1) (J _ ⟨_,_,_,a.1⟩)).trans a.1,(am.block _ (Aa a.2.1) (J _ ⟨_,_,_,a.2.1⟩)).trans a.2.1,(am.block _ (Aa a.2.2) (J _ ⟨_,_,_,a.2.2⟩)).trans a.2.2⟩;refine l.out _ _ dc (fun a=>?_);clear l K;refine wpAnyH_done (by kernel_rfl) ?_ _;have bh:=Ae a;have bi:xR (Ab (fun k=>k=m) j B):=b4.o.Qk am;have a0:xR (Ak B bv (Ad (Dm c (Aj q c) (S++es)))):=(by show Ak _ _ _;rw[ad.o.no ac.o F.o];exact az.o.kept am (fun e=>b6 e.symm));obtain⟨n,L⟩:∃n,n=JO fr (Aj q c) (some bv):=⟨_,rfl⟩;have a1:xR (B9 133 Ex Mh B m (Qe n)):=(by show B9 _ _ _ _ _ _;rw[L,←SI];exact da);have b7:xR (n (Aj q c)=some bv):=(by show _=_;rw[L];simp[JO]);have b8:xR (∀v,v≠Aj q c→n v=fr v):=fun v hv=>(by rw[L];simp[JO,hv]);have bj:xR ((oB w O id) bv=id∧bv≠m∧(∀v,v≠Aj q c→fr v≠some bv)∧((∃v,fr v=some bv)∨j.heap.size≤bv)):=⟨EJ (by omega),fun e=>b6 e.symm,fun v _ e=>by have:=(ad.o.bag e).2.2.1.lt;omega,.inr b5⟩;clear a b3 dc az b4 bg c9 da db am J L F b2 bf A a6 b6 em b5
   try simp only[Act.put,Ar,As,Au,Av,Aw,Ax]
   go_wp21
  case' some bv =>
   have F:=Ae al;have ay:xR ((Qe fr (Aj q c)).getD (.map none)=.map (some bv)):=(by show _=_;unfold Qe;rw[al];rfl);clear al;refine wp_region_held_drew (S:=fun w'=>w'.heap[b]? =some (.cells c1 ty (0,0))∧w'.heap[j.heap.size]? =some (.cells z 154 (0,0))∧w'.heap[j.heap.size+1]? =some (.cells cv 133 (0,0))) (by kernel_rfl) ai.o (fun a=>?_);refine An 0 (.pointer (some ⟨b,o,none⟩)) a ?_;refine An 1 (.pointer (some ⟨b,o,none⟩)) a ?_;refine An 2 (.pointer (some ⟨b,o+1,none⟩)) a ?_;refine Iq 3 (.map (some m)) 233 (.tmp 32) (b) (o+1) (fun w h=>Q.o w h.1) a ?_
   try simp only[Act.put,Ar,As,Au,Av,Aw,Ax]
   refine Ha 4 (.agg cv) 133 (.tmp 6) (j.heap.size+1) (0) (fun w h=>R.o w h.2.2) a ?_;refine C0 5 (fun K l=>?_);rw[if_pos (by kernel_rfl)];refine Hv V4 (.tmp 33) (.tmp 34) 233 83 (by kernel_rfl) underlying233 (.map none) (Rz _) m (Qe fr) (by kernel_rfl) A.o.map (Aj q c) ac.o (by rw[←ak.o];kernel_rfl) _ ay.o ?_;refine l.out _ _ a (fun a=>?_);clear l K
   try simp only[Act.put,Ar,As,Au,Av,Aw,Ax]
   have b1:=cp (some bv);refine An 6 (.bool (Option.isNone ((some bv):Option Nat))) a ?_;refine wpAnyH_done (by kernel_rfl) ?_ _;clear b1
   try simp only[Act.put,Ar,As,Au,Av,Aw,Ax]
   have bh:=Ae a;have bi:xR (Ab (fun k=>k=m) j W.drew):=aj.o.drew.any;have a0:xR (Ak W.drew bv (Ad (Dm c (Aj q c) (S++es)))):=(A.o.bag F.o).2.2.1;have a1:xR (B9 133 Ex Mh W.drew m (Qe fr)):=A.o.map;have bj:xR ((oB w O id) bv=id∧bv≠m∧(∀v,v≠Aj q c→fr v≠some bv)∧((∃v,fr v=some bv)∨j.heap.size≤bv)):=⟨(A.o.bag F.o).1,(A.o.bag F.o).2.1,fun v hv e=>hv (A.o.inj e F.o),.inl ⟨_,F.o⟩⟩;obtain⟨n,L⟩:∃n,n=fr:=⟨_,rfl⟩;rw[←L] at a1;have b7:xR (n (Aj q c)=some bv):=(by show _=_;rw[L];exact F.o);have b8:xR (∀v,v≠Aj q c→n v=fr v):=fun v _=>(by rw[L]);clear a ai aj ay A L F;generalize W.drew=B at bh bi a0 a1⊢;go_wp21
  all_goals
   have dd:xR ((Qe n (Aj q c)).getD (.map none)=.map (some bv)):=(by show _=_;unfold Qe;rw[b7.o];rfl);have de:xR (∀w',Ab No B w'→Calls prog 79 #[.map (some bv),.agg z,.int .i64 t] w' fun e df=>e=.returned (.tuple #[])∧Ak df bv ((q,t)::Ad (Dm c (Aj q c) (S++es)))∧Ab (·=bv) w' df):=(by refine Ae ?_;rw[ej.o];intro w' en;have C:=a0.o.kept en xT;exact G9 bv _ q t w' C d7.o (cE br.o HD.o (BQ aw.o.T9) c (Aj q c)).2);have bk:xR (B9 133 Ex Mh B.drew m (Qe n)):=a1.o.A6 rfl;refine wp_region_held_drew (S:=fun w'=>w'.heap[b]? =some (.cells c1 ty (0,0))∧w'.heap[j.heap.size]? =some (.cells z 154 (0,0))∧w'.heap[j.heap.size+1]? =some (.cells cv 133 (0,0))) (by kernel_rfl) bh.o (fun a=>?_);refine An 0 (.pointer (some ⟨b,o,none⟩)) a ?_;refine An 1 (.pointer (some ⟨b,o,none⟩)) a ?_;refine An 2 (.pointer (some ⟨b,o+1,none⟩)) a ?_;refine Iq 3 (.map (some m)) 233 (.tmp 45) (b) (o+1) (fun w h=>Q.o w h.1) a ?_
   try simp only[Act.put,Ar,As,Au,Av,Aw,Ax]
   refine Ha 4 (.agg cv) 133 (.tmp 6) (j.heap.size+1) (0) (fun w h=>R.o w h.2.2) a ?_;refine Ha 6 (.agg z) 154 (.tmp 4) (j.heap.size) (0) (fun w h=>b0.o w h.2.1) a ?_;refine An 7 (.int .i64 t) a ?_;refine C0 5 (fun K l=>?_);rw[if_pos (by kernel_rfl)];refine Hv V4 (.tmp 46) (.tmp 47) 233 83 (by kernel_rfl) underlying233 (.map none) (Rz _) m (Qe n) (by kernel_rfl) bk.o (Aj q c) ac.o (by rw[←ak.o];kernel_rfl) _ dd.o ?_;refine l.out _ _ a (fun a=>?_);clear l K
   try simp only[Act.put,Ar,As,Au,Av,Aw,Ax]
   refine C0 8 (fun K l=>?_);go_simp;go_call de.o _ ((Ab.refl No B).drew) as e G ⟨rfl,dg,an⟩;have bl:∀k,(∃T X Y,B.heap[k]? =some (.cells T X Y))→k≠bv:=(by rintro k ⟨T,X,Y,y⟩ rfl;obtain⟨ba,Z,I⟩:=a0.o.obj;rw[I] at y;cases y);have dh:C2 G b c1 ty∧C2 G j.heap.size z 154∧C2 G (j.heap.size+1) cv 133:=⟨(an.block _ (Aa a.1) (bl _ ⟨_,_,_,a.1⟩)).trans a.1,(an.block _ (Aa a.2.1) (bl _ ⟨_,_,_,a.2.1⟩)).trans a.2.1,(an.block _ (Aa a.2.2) (bl _ ⟨_,_,_,a.2.2⟩)).trans a.2.2⟩;refine l.out _ _ dh (fun a=>?_);clear l K;refine wpAnyH_done (by kernel_rfl) ?_ _;have di:=Ae a;have dj:xR (Ab (fun k=>k=m∨k=bv) j G):=bi.o.trans (((Ab.refl No B).drew).Qk an) (fun _ e=>.inl e) (fun _ _ e=>.inr e);have dk:xR (B9 133 Ex Mh G m (Qe n)):=bk.o.A6 (an.block m bk.o.lt (fun e=>bj.o.2.1 e.symm));have dl:xR (A9 ((q,t)::Ad (Dm c (Aj q c) (S++es))) (Dm c (Aj q c) ((S++es)++[(q,t)]))):=fun r=>(by rw[VQ,Ah];have e1:cnt ((q,t)::Ad (Dm c (Aj q c) (S++es))) r=(if q=r then t else 0)+cnt (Ad (Dm c (Aj q c) (S++es))) r:=rfl;have e2:cnt [(q,t)] r=(if q=r then t else 0)+0:=rfl;rw[e1,e2,Aq];omega);have dm:xR (Ak G bv (Ad (Dm c (Aj q c) ((S++es)++[(q,t)])))):=dg.Oc dl.o;have b9:xR (∀r,wrap64 (cnt (Ad (Dm c (Aj q c) ((S++es)++[(q,t)]))) r)=cnt (Dm c (Aj q c) ((S++es)++[(q,t)])) r):=fun r=>(by rw[Aq,Ga];rw[Lx,wJ,Ah];have C:=br.o.bd r;have ag:=dz.o.bd r;rw[Ah] at ag;have ap:=aw.o.T9.nN HD.o r;split <;> omega);clear a dh dg an bl de bk dl bh a0 a1 bi
   try simp only[Act.put,Ar,As,Au,Av,Aw,Ax]
   go_wp21;have a2:xR (B9 133 Ex Mh G.drew m (Qe n)):=dk.o.A6 rfl;have ca:xR (Ak G.drew bv (Ad (Dm c (Aj q c) ((S++es)++[(q,t)])))):=dm.o.A6 rfl;refine wp_region_held_drew (S:=fun w'=>w'.heap[b]? =some (.cells c1 ty (0,0))∧w'.heap[j.heap.size]? =some (.cells z 154 (0,0))∧w'.heap[j.heap.size+1]? =some (.cells cv 133 (0,0))) (by kernel_rfl) di.o (fun a=>?_);refine An 0 (.pointer (some ⟨b,o,none⟩)) a ?_;refine An 1 (.pointer (some ⟨b,o,none⟩)) a ?_;refine An 2 (.pointer (some ⟨b,o+1,none⟩)) a ?_;refine Iq 3 (.map (some m)) 233 (.tmp 54) (b) (o+1) (fun w h=>Q.o w h.1) a ?_
   try simp only[Act.put,Ar,As,Au,Av,Aw,Ax]
   refine Ha 4 (.agg cv) 133 (.tmp 6) (j.heap.size+1) (0) (fun w h=>R.o w h.2.2) a ?_;refine C0 5 (fun K l=>?_);rw[if_pos (by kernel_rfl)];refine Hv V4 (.tmp 55) (.tmp 56) 233 83 (by kernel_rfl) underlying233 (.map none) (Rz _) m (Qe n) (by kernel_rfl) a2.o (Aj q c) ac.o (by rw[←ak.o];kernel_rfl) _ dd.o ?_;refine l.out _ _ a (fun a=>?_);clear l K
   refine C0 6 (fun K l=>?_);rw[if_pos (by kernel_rfl)];refine OD Hk (.tmp 57) 83 2 (by kernel_rfl) underlying83 bv _ (by kernel_rfl) ca.o.2 ?_;intro ks eo cb;refine l.out _ _ a (fun a=>?_);clear l K eo
   try simp only[Act.put,Ar,As,Au,Av,Aw,Ax]
   have cc:xR ((ks.length:Int)=0↔Ad (Dm c (Aj q c) ((S++es)++[(q,t)]))=[]):=by
    constructor
    ·intro dn;have:ks=[]:=uM (by omega);subst this;rw[Dp];intro r;refine Classical.byContradiction fun hr=>?_;have C:r∈([]:List Row):=(cb r).2 (by unfold Cr;rw[b9.o r,if_neg hr];rfl);cases C
    intro dn;cases ks with
    |nil=>rfl
    |cons r ks =>have C:=(cb r).1 (by simp);unfold Cr at C;rw[b9.o r,Dp.1 dn r,if_pos rfl] at C;cases C
   generalize (ks.length:Int)=bm at cc⊢;clear cb;refine An 7 (.bool (bm == 0)) a ?_;refine wpAnyH_done (by kernel_rfl) ?_ _;have cd:xR (Ab (fun k=>k=m∨k=bv) j G.drew):=dj.o.drew;have dp:=Ae a;clear a di dj dk dm b9
   try simp only[Act.put,Ar,As,Au,Av,Aw,Ax]
   generalize G.drew=bn at cd dp a2 ca⊢;have dq:j.heap[b]? =some (.cells (cs.setIfInBounds (o+1) (.map (some m))) ty (0,0)):=(by rw[←ek.o];exact el.o);by_cases ao:bm=0
   ·have ep:(bm == 0)=true:=(by simp[ao]);have ae:=Ae (cc.o.1 ao);clear ao;go_wp21;have dr:xR (B9 133 Ex Mh bn.drew m (Qe n)):=a2.o.A6 rfl;refine wp_region_held_drew (S:=fun w'=>w'.heap[b]? =some (.cells c1 ty (0,0))∧w'.heap[j.heap.size]? =some (.cells z 154 (0,0))∧w'.heap[j.heap.size+1]? =some (.cells cv 133 (0,0))) (by kernel_rfl) dp.o (fun a=>?_);refine An 0 (.pointer (some ⟨b,o,none⟩)) a ?_
    refine An 1 (.pointer (some ⟨b,o,none⟩)) a ?_;refine An 2 (.pointer (some ⟨b,o+1,none⟩)) a ?_;refine Iq 3 (.map (some m)) 233 (.tmp 62) (b) (o+1) (fun w h=>Q.o w h.1) a ?_
    try simp only[Act.put,Ar,As,Au,Av,Aw,Ax]
    refine Ha 4 (.agg cv) 133 (.tmp 6) (j.heap.size+1) (0) (fun w h=>R.o w h.2.2) a ?_;refine C0 5 (fun K l=>?_);rw[if_pos (by kernel_rfl)];refine AL V4 (.tmp 63) (.tmp 64) 233 83 (by kernel_rfl) underlying233 m (Qe n) (by kernel_rfl) dr.o (Aj q c) ac.o (by rw[←ak.o];kernel_rfl) ?_;intro wf ds dt;have a3:Ab (fun k=>k=m) bn wf:=((Ab.refl _ bn).drew).grown dt.grown (fun r e=>by cases e;exact .inr rfl);have J:∀k,(∃T X Y,bn.heap[k]? =some (.cells T X Y))→k≠m:=(by rintro k ⟨T,X,Y,y⟩ rfl;obtain⟨ba,Z,I⟩:=a2.o.obj;rw[I] at y;cases y);have du:C2 wf b c1 ty∧C2 wf j.heap.size z 154∧C2 wf (j.heap.size+1) cv 133:=⟨(a3.block _ (Aa a.1) (J _ ⟨_,_,_,a.1⟩)).trans a.1,(a3.block _ (Aa a.2.1) (J _ ⟨_,_,_,a.2.1⟩)).trans a.2.1,(a3.block _ (Aa a.2.2) (J _ ⟨_,_,_,a.2.2⟩)).trans a.2.2⟩;refine l.out _ _ du (fun a=>?_);clear l K;refine wpAnyH_done (by kernel_rfl) ?_ _;have dv:Ab (fun k=>k=m∨k=bv) j wf:=cd.o.trans a3 (fun _ e=>e) (fun _ _ e=>.inl e);have ce:=Ae (Pc.next (ff:=JO n (Aj q c) none) aw.o dq ad.o c5.o bx.o cl.o ci dv (by have:=SI n (Aj q c) none;rw[←this];exact ds) bj.o (.inr ⟨by simp[JO],ae.o⟩) (fun v hv=>by rw[←b8.o v hv];simp[JO,hv]));clear a du ds dt a3 J dv dr Q R b0
    try simp only[Act.put,Ar,As,Au,Av,Aw,Ax]
    go_wp21;go_roundg cy
    case measure=>exact c0
    exact⟨es++[(q,t)],_,ce⟩
   have ep:(bm == 0)=false:=(by simp[ao]);have ae:xR (Ad (Dm c (Aj q c) ((S++es)++[(q,t)]))≠[]):=fun h=>ao (cc.o.2 h);have ce:=Ae (Pc.next (ff:=n) aw.o dq ad.o c5.o bx.o cl.o ci cd.o a2.o bj.o (.inl ⟨b7.o,ca.o,ae.o⟩) b8.o);clear ao Q R b0;go_wp21;go_roundg cy
   case measure=>exact c0
   exact⟨es++[(q,t)],_,ce⟩
end Go.Proofs.YtdinjjmcmfjbfaaGreatDoor
namespace Go.Proofs.YtdinjjmcmfjbfaaGreatDoor.Mo
def Kj (il:Bool)(x y:Row):Row:=if il then x++y else y++x
def Nc (c:Nat)(v:V)(s:Bag):Bag:=Cw (fun r=>decide (Aj r c=v)) s
def jL (il:Bool)(c c2:Nat)(es s:Bag):Bag:=es.flatMap fun x=>(Nc c2 (Aj x.1 c) s).map fun y=>(Kj il x.1 y.1,x.2*y.2)
theorem SK (il:Bool)(c c2:Nat)(es s:Bag)(q:Row)(t:Int):jL il c c2 (es++[(q,t)]) s=jL il c c2 es s++(Nc c2 (Aj q c) s).map fun y=>(Kj il q y.1,t*y.2):=by
 unfold jL;rw[vR];simp
theorem EN (c c2:Nat)(es s:Bag):jL true c c2 es s=Bw c c2 es s:=by
 unfold jL Bw Nc Kj;congr 1;funext x;have:(fun r=>decide (Aj r c2=Aj x.1 c))=fun y=>decide (Aj x.1 c=Aj y c2):=by funext r;exact decide_eq_decide.2 ⟨Eq.symm,Eq.symm⟩
 rw[this];rfl
theorem Yz (c c2:Nat)(es s:Bag):A9 (jL false c c2 es s) (Bw c2 c s es):=UV c2 c es s
theorem nS {il:Bool}{c c2:Nat}{es a s b:Bag}(h:A9 es a)(k:A9 s b):A9 (jL il c c2 es s) (jL il c c2 a b):=by
 cases il with
 |true=>rw[EN,EN];exact G6 h k
 |false=>exact (Yz _ _ _ _).trans ((G6 k h).trans (Yz _ _ _ _).symm)
theorem SL {t:Int}{g:Row→Row}{l m:Bag}(h:A9 l m):A9 (l.map fun y=>(g y.1,t*y.2)) (m.map fun y=>(g y.1,t*y.2)):=Ib fun k=>by rw[Rs,Rs,h.lin]
theorem W7 {n m:Nat}{a b:Bag}(g:nn a)(c:nn b){x y:Row}(h:Aj x n=Aj y m):cnt a x*cnt b y≤Nr (Bw n m a b):=by
 unfold Nr;rw[Fc,B1 a x];have e1:Ci a (fun r=>if r=x then 1 else 0)*cnt b y=Ci a (fun r=>if r=x then cnt b y else 0):=by rw[vW,←Ks];refine Eg a fun e _=>?_;split <;> simp
 rw[e1];refine Cv g fun r=>?_;by_cases hr:r=x
 ·subst hr;rw[if_pos rfl,B1];refine Cv c fun d=>?_;by_cases f:d=y
  ·subst f;simp[h]
  rw[if_neg f];split <;> omega
 rw[if_neg hr];exact Qn c fun d=>by split <;> omega
theorem cF {n m:Nat}{a b:Bag}(i:nn a)(c:nn b){x y:Row}(h:Aj x n=Aj y m){g:Row→Int}(hg:∀r,0≤g r)(j:1≤g (x++y)):cnt a x*cnt b y≤Ci (Bw n m a b) g:=by
 rw[Fc,B1 a x];have e1:Ci a (fun r=>if r=x then 1 else 0)*cnt b y=Ci a (fun r=>if r=x then cnt b y else 0):=by rw[vW,←Ks];refine Eg a fun e _=>?_;split <;> simp
 rw[e1];refine Cv i fun r=>?_;by_cases hr:r=x
 ·subst hr;rw[if_pos rfl,B1];refine Cv c fun d=>?_;by_cases f:d=y
  ·subst f;simp only[h,decide_true,if_true];exact j
  rw[if_neg f];split;exact hg _;exact vU _
 rw[if_neg hr];exact Qn c fun d=>by split;exact hg _;exact vU _
theorem JQ {n m:Nat}{a b:Bag}(c:nn a)(d:nn b){x y:Row}(h:Aj x n=Aj y m)(_:cnt a x≠0)(_:cnt b y≠0):cnt (Bw n m a b) (x++y)≠0:=by
 have e:=cF c d h (g:=fun r=>if r=x++y then 1 else 0) (fun r=>by split <;> omega) (by simp);rw[←B1] at e;have f:=c x;have i:=d y;have j:1≤cnt a x*cnt b y:=by have:=Int.mul_le_mul (show (1:Int)≤cnt a x by omega) (show (1:Int)≤cnt b y by omega) (by omega) f;simpa using this
 omega
theorem jE {n m:Nat}{a b d:Bag}(e:nn a)(f:nn (a++d))(c:nn b)(_:Nr (Bw n m a b)≤3000000000000)(_:Nr (Bw n m (a++d) b)≤3000000000000){x y:Row}(h:Aj x n=Aj y m): -9223372036854775808≤cnt d x*cnt b y∧cnt d x*cnt b y≤9223372036854775807:=by
 have e1:=W7 e c h;have e2:=W7 f c h;have e3:cnt d x*cnt b y=cnt (a++d) x*cnt b y-cnt a x*cnt b y:=by rw[Ah,xG];omega
 have e4:=vC (e x) (c y);have e5:=vC (f x) (c y);omega
theorem cG {n m:Nat}{a b d:Bag}(c:nn a)(e:nn b)(f:nn (b++d))(_:Nr (Bw n m a b)≤3000000000000)(_:Nr (Bw n m a (b++d))≤3000000000000){x y:Row}(h:Aj x n=Aj y m): -9223372036854775808≤cnt d y*cnt a x∧cnt d y*cnt a x≤9223372036854775807:=by
 have e1:=W7 c e h;have e2:=W7 c f h;have e3:cnt d y*cnt a x=cnt a x*cnt (b++d) y-cnt a x*cnt b y:=by rw[Ah,wX,vW];omega
 have e4:=vC (c x) (e y);have e5:=vC (c x) (f y);omega
end Go.Proofs.YtdinjjmcmfjbfaaGreatDoor.Mo
