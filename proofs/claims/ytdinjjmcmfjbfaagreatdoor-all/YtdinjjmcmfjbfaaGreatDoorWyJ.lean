import Derived.Test.YtdinjjmcmfjbfaaGreatDoorKsJ
import Derived.Lib.ItoaLen
set_option maxRecDepth 100000
set_option maxHeartbeats 4000000
namespace Go.Proofs.YtdinjjmcmfjbfaaGreatDoor
open Go.RowKit Go.Shelf Mo Pl Tryz
set_option linter.unusedSimpArgs false
theorem VN {w:World}{b:Nat}{a hv tv cv:Value}{x:Dk}(h:C2 w b (Lw a hv tv cv x) 286):w.rangeAt b 4 (Sh x):=fun j v hv=>by
 rw[Af h];have c:=(tR.1 hv).1
 match j,c with
 |0,_|1,_|2,_|3,_|4,_|5,_|6,_|7,_=>simpa [Sh,Lw] using hv
theorem BN (cs:List Nat)(s:Option Nat)(es:Bag)(q:Row)(t:Int):Ch cs s (es++[(q,t)])=Ch cs s es++[(Ao cs q,t*Mo.sv s q)]:=by rw[Mt];rfl
theorem Jw {ops:Array Oper}{rest:List Oper}{o:Oper}{a:Act}{w:World}{Q:Exit→Act→World→Prop}(t:TypeId)(x:Operand)(ho:o.op=.load t x)(b:o.guard=none)(g k:Nat)(c:a.eval x=.pointer (some ⟨g,k,none⟩))(v:Value)(hr:(loadVar t ⟨g,k,none⟩).run prog w=.ok v w)
 (h:wpList prog ops Q rest (a.put o.dst v) w):wpList prog ops Q (o::rest) a w:=by
 refine wpList_plain b fun _ d=>?_;unfold Oper.wp execOp;simp only[ho,c,Instr.loadAt,Instr.sureAddr,Sem.run_bind,Sem.run_pure,Result.andThen_ok,hr];exact d _ _ h
def bT (b c1 c2:Nat)(Q:Ending→World→Prop)(w3:World):Prop :=
 Calls prog 115 #[.map (some c1)] w3 fun e w4=>∃c3,e=.returned (.map (some c3)) ∧
  Calls prog 263 #[.map (some c3),.map (some c2)] w4 fun e w5=>e=.returned (.tuple #[]) ∧
   Calls prog 264 #[.pointer (some ⟨b,0,none⟩),.map (some w5.heap.size),.map (some c3),.int .i64 (-1)] (w5.alloc (.map #[] 0)) fun e w6=>e=.returned (.tuple #[]) ∧
    Calls prog 66 #[.pointer (some ⟨b,1,none⟩),.map (some c1)] w6 fun e w7=>e=.returned (.tuple #[]) ∧
     Calls prog 66 #[.pointer (some ⟨b,2,none⟩),.map (some c2)] w7 fun e w8=>e=.returned (.tuple #[]) ∧
      Calls prog 264 #[.pointer (some ⟨b,0,none⟩),.map (some w5.heap.size),.map (some c3),.int .i64 1] w8 fun e w9=>e=.returned (.tuple #[]) ∧
       Calls prog 250 #[.pointer (some ⟨b,0,none⟩),.map (some w5.heap.size)] w9 fun e w'=>e=.returned (.tuple #[])∧Q e w'
structure qZ (us:List Bool) (cs:List Nat) (s:Option Nat) (x:Dk) (d:Bag):Prop where
 c6:∀y∈cs,y<6
 l6:cs.length≤6
 x6:∀c,x=.col c→c<6
 row:∀{q:Row},Ei us q→Ge (Ao cs q)
 sv:∀q,Mo.sv s q=nI (Iv x q)
 mul:∀q,-9223372036854775808≤cnt d q*Mo.sv s q∧cnt d q*Mo.sv s q≤9223372036854775807
theorem bU (b c:Nat)(ba hv tv cv:Value)(cs:List Nat)(s:Option Nat)(x:Dk)(us:List Bool)(d:Bag)(hO:qZ us cs s x d)(w:World)(Q:Ending→World→Prop)(bm:C2 w b (Lw ba hv tv cv x) 286)(bn:Gg w cv cs)(b6:Gf us d)(ar:Ak w c (Ad d))
 (b7:∀w3 es,J9 (Ad d) es→Ak w3 w.heap.size (Az cs es)→Ak w3 (w.heap.size+1) (Ch cs s es)→Ab No w w3→bT b w.heap.size (w.heap.size+1) Q w3) :
 Calls prog 262 #[C1 b,.map (some c)] w Q:=by
 have b8:xR (Ak ((w.alloc (.map #[] 0)).alloc (.map #[] 0)) c (Ad d)):=ar.A6 ((Below.heap_alloc _ _ _ (by have:=ar.lt;simp;omega)).trans (Below.heap_alloc _ _ _ ar.lt));have b9:xR (Ak ((w.alloc (.map #[] 0)).alloc (.map #[] 0)) w.heap.size []):=(Ak.made w).A6 (Below.heap_alloc _ _ _ (by simp));have ca:xR (Ak ((w.alloc (.map #[] 0)).alloc (.map #[] 0)) (w.heap.size+1) []):=by
  have:=Ak.made (w.alloc (.map #[] 0));have e:(w.alloc (.map #[] 0)).heap.size=w.heap.size+1:=by simp
  rw[e] at this;exact this
 obtain⟨ac,ad,ae,rfl⟩:=bn.slc;have cu:=Ae bm;have cb:=Ae b7;have cw:=Ae bn;have af:=Ae hO;have HD:=Ae b6;have c1:=ar.lt;have cx:=Aa bm;clear ar bm b7 bn hO b6;have bo:=@run_makeMap prog;go_enter func262,ntmps262;go_wp2_with (first
  |(at_range;refine Bv _ rfl _ rfl c (Ad d) rfl b8.o ?_;intro w1 cy bp bb cc)
  |fail)
 have cz:((w.alloc (.map #[] 0)).alloc (.map #[] 0)).heap.size=w.heap.size+2:=by simp
 rw[cz] at bp cc⊢;have cd:=Ae bp;have ce:xR (Ak w1 w.heap.size (Az cs [])):=b9.o.kept bb xT;have cf:xR (Ak w1 (w.heap.size+1) (Ch cs s [])):=ca.o.kept bb xT;have cg:Ab No w w1:=(((Ab.refl No w).alloc _).alloc _).seq bb;have ch:=Ae cg;clear bp cc bb cg b8 b9 ca bo;go_frame;go_loopg [] cy (fun k wr=>∃es:Bag,xR (D5 wr c (w.heap.size+2) (Ad d) es k)∧xR (Ak wr w.heap.size (Az cs es))∧xR (Ak wr (w.heap.size+1) (Ch cs s es))∧xR (Ab No w wr))
 case atStart=>exact⟨[],cd,ce,cf,ch⟩
 obtain⟨es,hr,ci,cj,l⟩:=hrel;clear cd ce cf ch;go_wp2_with (first
  |(at_next;refine B0 _ rfl _ rfl c (w.heap.size+2) (Ad d) es gk rfl hr.o ?_ ?_)
  |fail)
 ·intro ck;have r:xR (bT b w.heap.size (w.heap.size+1) Q wr):=cb.o wr es ck ci.o cj.o l.o;have bo:=@run_makeMap prog;clear ck cb;go_wp21;refine Calls.mono r.o ?_;clear r;rintro e w4 ⟨_,rfl,u⟩;have r:=Ae u;clear u;go_wp21;refine Calls.mono r.o ?_;clear r;rintro e w5 ⟨rfl,u⟩;have r:=Ae u;clear u;go_wp21;refine Calls.mono r.o ?_;clear r;rintro e w6 ⟨rfl,u⟩;have r:=Ae u;clear u;go_wp21;refine Calls.mono r.o ?_;clear r;rintro e H ⟨rfl,u⟩;have r:=Ae u;clear u;go_wp21;refine Calls.mono r.o ?_;clear r;rintro e z ⟨rfl,u⟩;have r:=Ae u;clear u;go_wp21;refine Calls.mono r.o ?_;clear r;rintro e c2 ⟨rfl,u⟩;have r:=Ae u;clear u;go_wp21;refine Calls.mono r.o ?_;clear r;rintro e c3 ⟨rfl,u⟩;have r:=Ae u;clear u bo;go_wp21;go_end0;exact r.o
 intro t q f ag u cl ah cm cn bc c0 c4;have ai:=Ae cm;have bq:xR (t=cnt d q):=by show _=_;rw[cl,HD.o.gU]
 have co:xR (Ei us q):=HD.o.good (by rw[←bq.o];exact ah);have br:Ab No w f:=l.o.trans bc (fun _ e=>e) (fun i hi e=>by omega);have au:=Ae br;have aj:xR (Ak f w.heap.size (Az cs es)):=ci.o.kept bc (fun e=>by omega);have bd:xR (Ak f (w.heap.size+1) (Ch cs s es)):=cj.o.kept bc (fun e=>by omega);have be:xR ((Ad (Az cs es)).length<maxLen∧(Ad (Ch cs s es)).length<maxLen):=by have e1:=ai.o.T9.len;have e2:=HD.o.len;have e3:=A3 (Az cs es) [];have e4:(Az cs es).length=es.length:=tZ _;have e5:=A3 (Ch cs s es) [];have c5:(Ch cs s es).length=es.length:=tZ _;simp[Ad] at e1 e3 e5;rw[Bp (Ap d)] at e1;show _∧_;unfold maxLen;omega
 have c6:w.heap.size+2<f.heap.size:=ai.o.lt;have cp:C2 f b (Lw ba hv tv (.slice ac ad ae) x) 286:=(br.block b cx xT).trans cu.o;have bs:=Ae cp;clear u cm bc cl ah c0 br cp;go_wp2_with (first
  |(refine Bt _ _ _ rfl rfl f _ rfl rfl rfl q rfl ?_)
  |fail)
 have cq:C2 (f.alloc (.cells (Ai q) 154)) b (Lw ba hv tv (.slice ac ad ae) x) 286:=(Below.heap_alloc _ _ _ (Aa bs.o)).trans bs.o;have cr:C2 (f.alloc (.cells (Ai q) 154)) f.heap.size (Ai q) 154:=heap_alloc_last _ _;have ak:=Ae (And.intro cq cr);have ct:Ab No f (f.alloc (.cells (Ai q) 154)):=(Ab.refl No f).alloc _;have al:=Ae ct;clear cq cr ct;generalize f.alloc (.cells (Ai q) 154)=W at ak al⊢;obtain⟨v,bf⟩:∃v,v=Lw ba hv tv (.slice ac ad ae) x:=⟨_,rfl⟩;obtain⟨o,av⟩:∃o,o=Ai q:=⟨_,rfl⟩;obtain⟨j,bg⟩:∃j,j=Ai (Ao cs q):=⟨_,rfl⟩;obtain⟨am,bt⟩:∃am,am=(Sh x).toArray:=⟨_,rfl⟩;have bh:xR (Mo.sv s q=nI (Iv x q)):=af.o.sv q;have aw:xR (-9223372036854775808≤t*nI (Iv x q)∧t*nI (Iv x q)≤9223372036854775807):=by have:=af.o.mul q;rw[←bq.o,bh.o] at this;exact this
 have P:xR (Ge (Ao cs q)):=af.o.row co.o;have bi:xR (∀w',Ab No W w'→Calls prog 260 #[.agg o,.slice ac ad ae] w' fun e B=>e=.returned (.agg j)∧Ab No w' B):=by subst bg av;exact fun w' L=>IX q cs _ w' (cw.o.kept ((au.o.seq al.o).seq L) (fun _ _ e=>e)) af.o.c6 af.o.l6
 obtain⟨y,bu⟩:∃y,Iv x q=y:=⟨_,rfl⟩;have an:xR (∀w',Calls prog 253 #[.agg am,.agg o] w' fun e B=>e=.returned (.agg #[.int .i32 (kI y),E1 y 0,E1 y 1,E1 y 2,E1 y 3,.int .i64 (nI y)])∧Ab No w' B):=by subst bt av bu;exact fun w'=>NN x q af.o.x6 w'
 have bj:xR (∀w:World,C2 w b v 286→(loadVar 135 ⟨b,4,none⟩).run prog w=.ok (.agg am) w):=by subst bf bt;exact fun w h=>run_loadVar_mid w b 4 135 (Sh x) _ (VN h) underlying135 rfl Pb
 have ax:xR (∀(g:Nat) (w:World),C2 w g o 154→(loadVar 154 ⟨g,0,none⟩).run prog w=.ok (.agg o) w):=by subst av;exact fun g w h=>run_loadVar_row w g 154 154 (Ai q) (0,0) _ h underlying154 rfl (by rw[Bd];exact Cp)
 have ao:xR (∀(g:Nat) (w:World),C2 w g j 154→(loadVar 154 ⟨g,0,none⟩).run prog w=.ok (.agg j) w):=by subst bg;exact fun g w h=>run_loadVar_row w g 154 154 (Ai (Ao cs q)) (0,0) _ h underlying154 rfl (by rw[Bd];exact Cp)
 have bv:xR (∀w:World,C2 w b v 286→C3 w b 3 (.slice ac ad ae)):=by subst bf;exact fun w h=>(Af h 3).trans rfl
 have I:=Ae bg;rw[bu] at aw bh;rw[←bf,←av] at ak;clear bf av bg bt co bs bu bq;refine wp_region_held_drew (S:=fun w'=>w'.heap[b]? =some (.cells v 286 (0,0))∧w'.heap[f.heap.size]? =some (.cells o 154 (0,0))) (by kernel_rfl) ak.o (fun a=>?_);refine Ha 0 (.agg o) 154 (.tmp 6) (f.heap.size) (0) (fun w h=>ax.o _ w h.2) a ?_;refine An 1 (C1 b) a ?_;refine An 2 (C1 b) a ?_;refine An 3 (.pointer (some ⟨b,3,none⟩)) a ?_
 try simp only[Act.put,Ar,As,Au,Av,Aw,Ax]
 refine Iq 4 (.slice ac ad ae) 136 (.tmp 23) (b) (3) (fun w h=>bv.o w h.1) a ?_
 try simp only[Act.put,Ar,As,Au,Av,Aw,Ax]
 have bk:xR (Ab No W W.drew):=(Ab.refl No W).drew;refine wpAnyH_ready (rs:=[5,6]) (by kernel_rfl) (by simp) ?_;refine AllReadyH.cons rfl (fun K l=>?_) (AllReadyH.cons rfl (fun K l=>?_) AllReadyH.nil)
 ·go_simp;go_call bi.o _ bk.o as e w3 ⟨rfl,bl⟩;have R:C2 w3 b v 286∧C2 w3 f.heap.size o 154:=⟨(bl.block b (Aa a.1) xT).trans a.1,(bl.block _ (Aa a.2) xT).trans a.2⟩;have T:xR (Ab No f w3):=al.o.seq (bk.o.seq bl);refine l.out _ _ R (fun a=>?_);clear l K bl
  refine C0 6 (fun K l=>?_);go_simp;have ap:C2 (w3.alloc (.cells #[.int .i64 0,D4,C4,C4,C4,C4,D2,D4,C4,C4,C4,C4,D2,D4,C4,C4,C4,C4,D2,D4,C4,C4,C4,C4,D2,D4,C4,C4,C4,C4,D2,D4,C4,C4,C4,C4,D2] 154)) b v 286∧C2 (w3.alloc (.cells #[.int .i64 0,D4,C4,C4,C4,C4,D2,D4,C4,C4,C4,C4,D2,D4,C4,C4,C4,C4,D2,D4,C4,C4,C4,C4,D2,D4,C4,C4,C4,C4,D2,D4,C4,C4,C4,C4,D2] 154)) f.heap.size o 154:=⟨(Below.heap_alloc _ _ _ (Aa a.1)).trans a.1,(Below.heap_alloc _ _ _ (Aa a.2)).trans a.2⟩;have A:∃J:Array Value,C2 (w3.alloc (.cells #[.int .i64 0,D4,C4,C4,C4,C4,D2,D4,C4,C4,C4,C4,D2,D4,C4,C4,C4,C4,D2,D4,C4,C4,C4,C4,D2,D4,C4,C4,C4,C4,D2,D4,C4,C4,C4,C4,D2] 154)) w3.heap.size J 154∧J.size=37:=⟨_,heap_alloc_last _ _,rfl⟩;have aq:xR (Ab No f (w3.alloc (.cells #[.int .i64 0,D4,C4,C4,C4,C4,D2,D4,C4,C4,C4,C4,D2,D4,C4,C4,C4,C4,D2,D4,C4,C4,C4,C4,D2,D4,C4,C4,C4,C4,D2,D4,C4,C4,C4,C4,D2] 154))):=T.o.alloc _;have bw:f.heap.size<w3.heap.size:=Aa R.2;generalize w3.alloc (.cells #[.int .i64 0,D4,C4,C4,C4,C4,D2,D4,C4,C4,C4,C4,D2,D4,C4,C4,C4,C4,D2,D4,C4,C4,C4,C4,D2,D4,C4,C4,C4,C4,D2,D4,C4,C4,C4,C4,D2] 154)=w4 at ap A aq⊢;generalize w3.heap.size=m at A bw⊢;obtain⟨J,A,bx⟩:=A;refine l.out _ _ ap (fun a=>?_);clear l K R T
  refine C0 7 (fun K l=>?_);rw[if_pos (by kernel_rfl)];refine wp_store_row 154 (.tmp 8) (.tmp 25) (by kernel_rfl) m j (by kernel_rfl) (by kernel_rfl) 154 J A (by rw[I.o,Bd];exact Cp) (by rw[bx,I.o];rfl) (by rw[I.o];exact Ht _) ?_;have U:=Bs (Ab.refl (fun k=>k=m) w4) (g:=m) (.inr rfl) j;have ay:C2 (w4.setRow m j) b v 286∧C2 (w4.setRow m j) f.heap.size o 154:=⟨(U.block _ (Aa a.1) (by omega)).trans a.1,(U.block _ (Aa a.2) (by omega)).trans a.2⟩;have D:xR (C2 (w4.setRow m j) m j 154):=Cj (c:=j) A;have M:xR (Ab No f (w4.setRow m j)):=Bs aq.o (.inl (by omega)) _;refine l.out _ _ ay (fun a=>?_);clear l K U;refine wpAnyH_done (by kernel_rfl) ?_ _;have C:=Ae a;clear a ay ap aq A bi bk ak al;generalize w4.setRow m j=w5 at C D M⊢
  try simp only[Act.put,Ar,As,Au,Av,Aw,Ax]
  have az:xR (∀w',Ab No w5 w'→Calls prog 79 #[.map (some w.heap.size),.agg j,.int .i64 t] w' fun e B=>e=.returned (.tuple #[])∧Ak B w.heap.size ((Ao cs q,t)::Az cs es)∧Ab (·=w.heap.size) w' B):=by refine Ae ?_;rw[I.o];intro w' L;have V:=aj.o.kept (M.o.seq L) xT;exact G9 w.heap.size (Az cs es) (Ao cs q) t w' V P.o be.o.1
  go_wp2_with (first
   |(refine Jw 154 _ rfl rfl m 0 rfl (.agg j) (ao.o _ _ D.o) ?_)
   |fail)
  go_call az.o _ (Ab.refl _ _) as e w6 ⟨rfl,a0,E⟩;have bz:=Aa C.o.1;have a1:xR (C2 w6 b v 286∧C2 w6 f.heap.size o 154∧C2 w6 m j 154):=⟨(E.block b bz (by omega)).trans C.o.1,(E.block _ (Aa C.o.2) (by omega)).trans C.o.2,(E.block _ (Aa D.o) (by omega)).trans D.o⟩;have N:xR (Ab (·=w.heap.size) f w6):=M.o.Qk E;have a2:xR (Ak w6 w.heap.size (Az cs (es++[(q,t)]))):=by
   show Ak _ _ _;rw[Tb];refine a0.eqv (fun x=>?_) (fun x n=>?_)
   ·simp only[Ah,cnt];omega
   rcases tW.1 n with n|n
   ·exact aj.o.1 x n
   simp at n;subst n;exact P.o
  have X:xR (Ak w6 (w.heap.size+1) (Ch cs s es)):=bd.o.kept N.o (fun e=>by omega);have a3:xR (D5 w6 c (w.heap.size+2) (Ad d) (es++[(q,t)]) ag):=ai.o.kept N.o (fun e=>by omega) (fun e=>by omega);have a4:xR (Ab No w w6):=au.o.trans N.o (fun _ e=>e) (fun i hi e=>by omega);clear a0 E az C D M aj bd ai au N;have Y:xR (Ch cs s (es++[(q,t)])=Ch cs s es++[(Ao cs q,t*nI y)]):=by show _=_;rw[BN,bh.o]
  obtain⟨p,b0⟩:∃p,nI y=p:=⟨_,rfl⟩;rw[b0] at an aw Y;have Z:xR (∀w',Ab No w6 w'→Calls prog 79 #[.map (some (w.heap.size+1)),.agg j,.int .i64 (t*p)] w' fun e B=>e=.returned (.tuple #[])∧Ak B (w.heap.size+1) ((Ao cs q,t*p)::Ch cs s es)∧Ab (·=w.heap.size+1) w' B):=by refine Ae ?_;rw[I.o];intro w' L;have V:=X.o.kept L xT;exact G9 (w.heap.size+1) (Ch cs s es) (Ao cs q) (t*p) w' V P.o be.o.2
  have a5:IntKind.i64.wrap (t*p)=t*p:=IntWalk.i64_in _ aw.o;obtain⟨aa,ah⟩:∃aa,t*p=aa:=⟨_,rfl⟩;rw[ah] at Z Y a5;have b1:∀w,(Instr.field 133 (.agg #[.int .i32 (kI y),E1 y 0,E1 y 1,E1 y 2,E1 y 3,.int .i64 p]) 2).run prog w=.ok (.int .i64 p) w:=fun _=>by kernel_rfl
  go_wp21;refine wp_region_held_drew (S:=fun w'=>w'.heap[b]? =some (.cells v 286 (0,0))∧w'.heap[f.heap.size]? =some (.cells o 154 (0,0))∧w'.heap[m]? =some (.cells j 154 (0,0))) (by kernel_rfl) a1.o (fun a=>?_);refine An 0 (.map (some (w.heap.size+1))) a ?_;refine Ha 1 (.agg j) 154 (.tmp 8) (m) (0) (fun w h=>ao.o _ w h.2.2) a ?_;refine An 2 (.int .i64 t) a ?_;refine An 3 (C1 b) a ?_
  try simp only[Act.put,Ar,As,Au,Av,Aw,Ax]
  refine An 4 (C1 b) a ?_;refine An 5 (.pointer (some ⟨b,4,none⟩)) a ?_;refine Ha 6 (.agg am) 135 (.tmp 35) (b) (4) (fun w h=>bj.o w h.1) a ?_;refine Ha 7 (.agg o) 154 (.tmp 6) (f.heap.size) (0) (fun w h=>ax.o _ w h.2.1) a ?_
  try simp only[Act.put,Ar,As,Au,Av,Aw,Ax]
  refine C0 8 (fun K l=>?_);go_simp;go_call an.o _ as e H ⟨rfl,F⟩;have a6:C2 H b v 286∧C2 H f.heap.size o 154∧C2 H m j 154:=⟨(F.block b (Aa a.1) xT).trans a.1,(F.block _ (Aa a.2.1) xT).trans a.2.1,(F.block _ (Aa a.2.2) xT).trans a.2.2⟩;have ab:xR (Ab No w6 H):=((Ab.refl No w6).drew).seq F;refine l.out _ _ a6 (fun a=>?_);clear l K F
  refine An 9 (.int .i64 p) a ?_;refine An 10 (.int .i64 aa) a ?_;refine C0 11 (fun K l=>?_);go_simp;go_call Z.o _ ab.o as e z ⟨rfl,a7,G⟩;have a8:C2 z b v 286∧C2 z f.heap.size o 154∧C2 z m j 154:=⟨(G.block b (Aa a.1) (by omega)).trans a.1,(G.block _ (Aa a.2.1) (by omega)).trans a.2.1,(G.block _ (Aa a.2.2) (by omega)).trans a.2.2⟩;have O:xR (Ab (·=w.heap.size+1) w6 z):=ab.o.Qk G;refine l.out _ _ a8 (fun a=>?_);clear l K G;refine wpAnyH_done (by kernel_rfl) ?_ _;clear a6 a8 a ab Z an bj ax bv ao a1 b1 a5
  try simp only[Act.put,Ar,As,Au,Av,Aw,Ax]
  have b2:xR (Ak z w.heap.size (Az cs (es++[(q,t)]))):=a2.o.kept O.o (fun e=>by omega);have b3:xR (Ak z (w.heap.size+1) (Ch cs s (es++[(q,t)]))):=by
   show Ak _ _ _;rw[Y.o];refine a7.eqv (fun x=>?_) (fun x n=>?_)
   ·simp only[Ah,cnt];omega
   rcases tW.1 n with n|n
   ·exact X.o.1 x n
   simp at n;subst n;exact P.o
  have b4:xR (D5 z c (w.heap.size+2) (Ad d) (es++[(q,t)]) ag):=a3.o.kept O.o (fun e=>by omega) (fun e=>by omega);have b5:xR (Ab No w z):=a4.o.trans O.o (fun _ e=>e) (fun i hi e=>by omega);clear a7 a2 X a3 a4 O;go_wp21;go_roundg ag
  case measure=>exact cn
  exact⟨es++[(q,t)],b4,b2,b3,b5⟩
 go_simp;have R:C2 ((W.alloc (.cells #[.int .i64 0,D4,C4,C4,C4,C4,D2,D4,C4,C4,C4,C4,D2,D4,C4,C4,C4,C4,D2,D4,C4,C4,C4,C4,D2,D4,C4,C4,C4,C4,D2,D4,C4,C4,C4,C4,D2] 154)).drew) b v 286∧C2 ((W.alloc (.cells #[.int .i64 0,D4,C4,C4,C4,C4,D2,D4,C4,C4,C4,C4,D2,D4,C4,C4,C4,C4,D2,D4,C4,C4,C4,C4,D2,D4,C4,C4,C4,C4,D2,D4,C4,C4,C4,C4,D2] 154)).drew) f.heap.size o 154:=⟨(Below.heap_alloc _ _ _ (Aa a.1)).trans a.1,(Below.heap_alloc _ _ _ (Aa a.2)).trans a.2⟩;have A:∃J:Array Value,C2 ((W.alloc (.cells #[.int .i64 0,D4,C4,C4,C4,C4,D2,D4,C4,C4,C4,C4,D2,D4,C4,C4,C4,C4,D2,D4,C4,C4,C4,C4,D2,D4,C4,C4,C4,C4,D2,D4,C4,C4,C4,C4,D2] 154)).drew) W.heap.size J 154∧J.size=37:=⟨_,heap_alloc_last _ _,rfl⟩;have T:xR (Ab No W ((W.alloc (.cells #[.int .i64 0,D4,C4,C4,C4,C4,D2,D4,C4,C4,C4,C4,D2,D4,C4,C4,C4,C4,D2,D4,C4,C4,C4,C4,D2,D4,C4,C4,C4,C4,D2,D4,C4,C4,C4,C4,D2] 154)).drew)):=((Ab.refl No W).alloc _).drew;have bw:f.heap.size<W.heap.size:=Aa ak.o.2;generalize (W.alloc (.cells #[.int .i64 0,D4,C4,C4,C4,C4,D2,D4,C4,C4,C4,C4,D2,D4,C4,C4,C4,C4,D2,D4,C4,C4,C4,C4,D2,D4,C4,C4,C4,C4,D2,D4,C4,C4,C4,C4,D2] 154)).drew=w3 at R A T⊢;generalize W.heap.size=m at A bw⊢;obtain⟨J,A,bx⟩:=A;refine l.out _ _ R (fun a=>?_);clear l K
 refine C0 5 (fun K l=>?_);go_simp;go_call bi.o _ T.o as e w4 ⟨rfl,a9⟩;have ap:C2 w4 b v 286∧C2 w4 f.heap.size o 154:=⟨(a9.block b (Aa a.1) xT).trans a.1,(a9.block _ (Aa a.2) xT).trans a.2⟩;have aq:xR (Ab No f w4):=al.o.seq (T.o.seq a9);have A:C2 w4 m J 154:=(a9.block _ (Aa A) xT).trans A;refine l.out _ _ ap (fun a=>?_);clear l K R T a9
 refine C0 7 (fun K l=>?_);rw[if_pos (by kernel_rfl)];refine wp_store_row 154 (.tmp 8) (.tmp 25) (by kernel_rfl) m j (by kernel_rfl) (by kernel_rfl) 154 J A (by rw[I.o,Bd];exact Cp) (by rw[bx,I.o];rfl) (by rw[I.o];exact Ht _) ?_;have U:=Bs (Ab.refl (fun k=>k=m) w4) (g:=m) (.inr rfl) j;have ay:C2 (w4.setRow m j) b v 286∧C2 (w4.setRow m j) f.heap.size o 154:=⟨(U.block _ (Aa a.1) (by omega)).trans a.1,(U.block _ (Aa a.2) (by omega)).trans a.2⟩;have D:xR (C2 (w4.setRow m j) m j 154):=Cj (c:=j) A;have M:xR (Ab No f (w4.setRow m j)):=Bs aq.o (.inl (by omega)) _;refine l.out _ _ ay (fun a=>?_);clear l K U;refine wpAnyH_done (by kernel_rfl) ?_ _;have C:=Ae a;clear a ay ap aq A bi bk ak al;generalize w4.setRow m j=w5 at C D M⊢
 try simp only[Act.put,Ar,As,Au,Av,Aw,Ax]
 have az:xR (∀w',Ab No w5 w'→Calls prog 79 #[.map (some w.heap.size),.agg j,.int .i64 t] w' fun e B=>e=.returned (.tuple #[])∧Ak B w.heap.size ((Ao cs q,t)::Az cs es)∧Ab (·=w.heap.size) w' B):=by refine Ae ?_;rw[I.o];intro w' L;have V:=aj.o.kept (M.o.seq L) xT;exact G9 w.heap.size (Az cs es) (Ao cs q) t w' V P.o be.o.1
 go_wp2_with (first
  |(refine Jw 154 _ rfl rfl m 0 rfl (.agg j) (ao.o _ _ D.o) ?_)
  |fail)
 go_call az.o _ (Ab.refl _ _) as e w6 ⟨rfl,a0,E⟩;have bz:=Aa C.o.1;have a1:xR (C2 w6 b v 286∧C2 w6 f.heap.size o 154∧C2 w6 m j 154):=⟨(E.block b bz (by omega)).trans C.o.1,(E.block _ (Aa C.o.2) (by omega)).trans C.o.2,(E.block _ (Aa D.o) (by omega)).trans D.o⟩;have N:xR (Ab (·=w.heap.size) f w6):=M.o.Qk E;have a2:xR (Ak w6 w.heap.size (Az cs (es++[(q,t)]))):=by
  show Ak _ _ _;rw[Tb];refine a0.eqv (fun x=>?_) (fun x n=>?_)
  ·simp only[Ah,cnt];omega
  rcases tW.1 n with n|n
  ·exact aj.o.1 x n
  simp at n;subst n;exact P.o
 have X:xR (Ak w6 (w.heap.size+1) (Ch cs s es)):=bd.o.kept N.o (fun e=>by omega);have a3:xR (D5 w6 c (w.heap.size+2) (Ad d) (es++[(q,t)]) ag):=ai.o.kept N.o (fun e=>by omega) (fun e=>by omega);have a4:xR (Ab No w w6):=au.o.trans N.o (fun _ e=>e) (fun i hi e=>by omega);clear a0 E az C D M aj bd ai au N;have Y:xR (Ch cs s (es++[(q,t)])=Ch cs s es++[(Ao cs q,t*nI y)]):=by show _=_;rw[BN,bh.o]
 obtain⟨p,b0⟩:∃p,nI y=p:=⟨_,rfl⟩;rw[b0] at an aw Y;have Z:xR (∀w',Ab No w6 w'→Calls prog 79 #[.map (some (w.heap.size+1)),.agg j,.int .i64 (t*p)] w' fun e B=>e=.returned (.tuple #[])∧Ak B (w.heap.size+1) ((Ao cs q,t*p)::Ch cs s es)∧Ab (·=w.heap.size+1) w' B):=by refine Ae ?_;rw[I.o];intro w' L;have V:=X.o.kept L xT;exact G9 (w.heap.size+1) (Ch cs s es) (Ao cs q) (t*p) w' V P.o be.o.2
 have a5:IntKind.i64.wrap (t*p)=t*p:=IntWalk.i64_in _ aw.o;obtain⟨aa,ah⟩:∃aa,t*p=aa:=⟨_,rfl⟩;rw[ah] at Z Y a5;have b1:∀w,(Instr.field 133 (.agg #[.int .i32 (kI y),E1 y 0,E1 y 1,E1 y 2,E1 y 3,.int .i64 p]) 2).run prog w=.ok (.int .i64 p) w:=fun _=>by kernel_rfl
 go_wp21;refine wp_region_held_drew (S:=fun w'=>w'.heap[b]? =some (.cells v 286 (0,0))∧w'.heap[f.heap.size]? =some (.cells o 154 (0,0))∧w'.heap[m]? =some (.cells j 154 (0,0))) (by kernel_rfl) a1.o (fun a=>?_);refine An 0 (.map (some (w.heap.size+1))) a ?_;refine Ha 1 (.agg j) 154 (.tmp 8) (m) (0) (fun w h=>ao.o _ w h.2.2) a ?_;refine An 2 (.int .i64 t) a ?_;refine An 3 (C1 b) a ?_
 try simp only[Act.put,Ar,As,Au,Av,Aw,Ax]
 refine An 4 (C1 b) a ?_;refine An 5 (.pointer (some ⟨b,4,none⟩)) a ?_;refine Ha 6 (.agg am) 135 (.tmp 35) (b) (4) (fun w h=>bj.o w h.1) a ?_;refine Ha 7 (.agg o) 154 (.tmp 6) (f.heap.size) (0) (fun w h=>ax.o _ w h.2.1) a ?_
 try simp only[Act.put,Ar,As,Au,Av,Aw,Ax]
 refine C0 8 (fun K l=>?_);go_simp;go_call an.o _ as e H ⟨rfl,F⟩;have a6:C2 H b v 286∧C2 H f.heap.size o 154∧C2 H m j 154:=⟨(F.block b (Aa a.1) xT).trans a.1,(F.block _ (Aa a.2.1) xT).trans a.2.1,(F.block _ (Aa a.2.2) xT).trans a.2.2⟩;have ab:xR (Ab No w6 H):=((Ab.refl No w6).drew).seq F;refine l.out _ _ a6 (fun a=>?_);clear l K F
 refine An 9 (.int .i64 p) a ?_;refine An 10 (.int .i64 aa) a ?_;refine C0 11 (fun K l=>?_);go_simp;go_call Z.o _ ab.o as e z ⟨rfl,a7,G⟩;have a8:C2 z b v 286∧C2 z f.heap.size o 154∧C2 z m j 154:=⟨(G.block b (Aa a.1) (by omega)).trans a.1,(G.block _ (Aa a.2.1) (by omega)).trans a.2.1,(G.block _ (Aa a.2.2) (by omega)).trans a.2.2⟩;have O:xR (Ab (·=w.heap.size+1) w6 z):=ab.o.Qk G;refine l.out _ _ a8 (fun a=>?_);clear l K G;refine wpAnyH_done (by kernel_rfl) ?_ _;clear a6 a8 a ab Z an bj ax bv ao a1 b1 a5
 try simp only[Act.put,Ar,As,Au,Av,Aw,Ax]
 have b2:xR (Ak z w.heap.size (Az cs (es++[(q,t)]))):=a2.o.kept O.o (fun e=>by omega);have b3:xR (Ak z (w.heap.size+1) (Ch cs s (es++[(q,t)]))):=by
  show Ak _ _ _;rw[Y.o];refine a7.eqv (fun x=>?_) (fun x n=>?_)
  ·simp only[Ah,cnt];omega
  rcases tW.1 n with n|n
  ·exact X.o.1 x n
  simp at n;subst n;exact P.o
 have b4:xR (D5 z c (w.heap.size+2) (Ad d) (es++[(q,t)]) ag):=a3.o.kept O.o (fun e=>by omega) (fun e=>by omega);have b5:xR (Ab No w z):=a4.o.trans O.o (fun _ e=>e) (fun i hi e=>by omega);clear a7 a2 X a3 a4 O;go_wp21;go_roundg ag
 case measure=>exact cn
 exact⟨es++[(q,t)],b4,b2,b3,b5⟩
def Hu:Nat→Row→List UInt8
 |_,[]=>[]
 |i,v::r=>(if i=0 then [] else [44])++(Kn v++Hu (i+1) r)
def Es (r:Row):List UInt8:=40::(Hu 0 r++[41])
theorem Ys (r:Row)(v:V):∀i,Hu i (r++[v])=Hu i r++((if i+r.length=0 then [] else [44])++Kn v):=by
 induction r with
 |nil=>intro i;simp[Hu]
 |cons x r a=>intro i;simp[Hu,a,Nat.add_assoc,Nat.add_comm 1]
theorem Eo.snoc {w:World}{B:Nat}{v:Value}{t:List UInt8}{n:Nat}{c:UInt8}(h:w.ownsRow B 5 1 v (n+1) (Lib.byteCells t++[.int .u8 (c.toNat:Int)]))(a:t.length=n):Eo w B v (t++[c]):=by
 show w.ownsRow B _ 1 v (t++[c]).length (Lib.byteCells (t++[c]));rw[tS,Lib.byteCells_append,a];exact h
theorem VO {v:V}(h:Mh v):(Kn v).length≤21:=by
 cases v with
 |num n=>exact Lib.itoa_length_le n h.1 h.2
 |txt s=>have:=h.2.1;show s.length≤21;omega
theorem Yt (r:Row)(i:Nat)(hi:i<r.length):Hu 0 (r.take (i+1))=Hu 0 (r.take i)++((if i=0 then [] else [44])++Kn (Aj r i)):=by
 have e:r.take (i+1)=r.take i++[Aj r i]:=by rw[uI,tT hi];unfold Aj;simp[hi]
 rw[e,Ys];have:(r.take i).length=i:=by rw[uV];omega
 rw[this,uL]
theorem Vi {r:Row}(h:Ge r):∀i,i≤r.length→(Hu 0 (r.take i)).length≤22*i
 |0,_=>by simp[Hu]
 |i+1,hi=>by
  have a:=Vi h i (by omega);have hv:=VO (Fs h i);rw[Yt r i (by omega)];simp only[tS];split
  ·simp;omega
  simp;omega
theorem W8.row {B:Nat}{w w':World}{b:Nat}{r:Row}(h:W8 B w w')(a:C2 w b (Ai r) 154):C2 w' b (Ai r) 154 :=
 (h.block b (Aa a) fun e=>by have:=e.2.ne a;exact absurd this (by decide)).trans a
theorem BO (r:Row)(hr:Ge r)(B:Nat)(sv:Value)(t:List UInt8)(w:World)(b:Eo w B sv t)(hB:B≤w.heap.size)(ai:t.length≤90000000000000)(aa:Lib.TabBelow prog B w "internal/strconv.uint64pow10" .u64 Lib.pow10Tab) :
 Calls prog 71 #[.agg (Ai r),sv] w (JF B t (Es r) w):=by
 have ab:=Ae hr;have a2:=Ae b;have aj:=Ae aa;obtain⟨J,K,L,M,N⟩:=info_parts NT;obtain⟨n,O⟩:∃n,r.length=n:=⟨_,rfl⟩;have y:=Ae O;have a3:n≤6:=by rw[←O];exact hr.1
 clear aa hr O;have j:=b.alloc (.cells (Ai r) 154);go_enter func71,ntmps71;obtain⟨a,p⟩:∃a,w.alloc (.cells (Ai r) 154)=a:=⟨_,rfl⟩;have P:a.heap[w.heap.size]? =some (.cells (Ai r) 154 (0,0)):=by rw[←p];exact heap_alloc_last _ _
 have ac:W8 B w a:=by rw[←p];exact W8.kept ((Ab.refl No w).alloc _)
 rw[p] at j;obtain⟨z,A⟩:∃z,t.length=z:=⟨_,rfl⟩;have ad:=Ae A;replace j:a.ownsRow B 5 1 sv z (Lib.byteCells t):=by rw[←A];exact j
 rw[A] at ai;have a4:w.heap.size<a.heap.size:=Aa P;have Q:=Ae P;have R:=Ae ac;have ak:=Ae p;clear p A P ac b;go_wp2_with (first
  |(rw[ak.o])
  |(at_builtin;refine wpList_append_own_at _ rfl _ _ 149 rfl B 5 J (.int .u8 0) 1 1 underlying149 K L M N rfl (by decide) _ _ _ rfl (j.alloc _) ⟨a.heap.size,0,none⟩ 1 1 [.int .u8 40] rfl rfl (World.news_of_block (cs:=#[.int .u8 40]) (t:=5) (fr:=(0,0)) (heap_alloc_last a _)) (by intro g c;simp at c;subst c;rfl) (by unfold maxLen;omega) (by omega) (by simp;omega) ?_;intro al C d f _ _;have D:W8 B a C:=(W8.kept ((Ab.refl No a).alloc _)).grown (j.alloc _) f;have am:W8 B w C:=R.o.trans D;have an:C.cell? ⟨w.heap.size,0,none⟩=some (.int .i64 (n:Int)):=by { rw[Af (D.row Q.o)];rw[←y.o];rfl })
  |fail)
 have ao:xR (Eo C B al (t++[40])):=Eo.snoc d ad.o;have ap:=Ae D;clear d f am D j an;go_loopg [1,11] n (fun k aq ar wr=>∃i:Nat,i+k=n∧ar=.int .i64 (i:Int)∧xR (Eo wr B aq (t++[40]++Hu 0 (r.take i)))∧xR (W8 B a wr))
 case atStart=>exact⟨0,by omega,rfl,by rw[xH];simpa [Hu] using ao,ap⟩
 obtain⟨i,_,rfl,hO,l⟩:=hrel;obtain⟨T,E⟩:∃T,t++[40]++Hu 0 (r.take i)=T:=⟨_,rfl⟩;have au:T.length≤z+1+22*i:=by rw[←E];have:=Vi ab.o i (by have:=y.o;omega);simp only[tS,ad.o];simp;omega
 have S:=Ae E;rw[E] at hO;obtain⟨m,F⟩:∃m,T.length=m:=⟨_,rfl⟩;have U:=Ae F;have b:wr.ownsRow B 5 1 u1 m (Lib.byteCells T):=by rw[←F];exact hO.o
 rw[F] at au;have a5:=l.o.size;clear E F;cases gk with
 |zero =>
  have av:¬(i:Int)<(n:Int):=by omega
  have aw:xR (r.take i=r):=uW (by have:=y.o;omega);go_wp2_with (first
   |(at_builtin;refine wpList_append_own_at _ rfl _ _ 149 rfl B 5 J (.int .u8 0) 1 1 underlying149 K L M N rfl (by decide) _ _ _ rfl (b.alloc _) ⟨wr.heap.size,0,none⟩ 1 1 [.int .u8 41] rfl rfl (World.news_of_block (cs:=#[.int .u8 41]) (t:=5) (fr:=(0,0)) (heap_alloc_last wr _)) (by intro g c;simp at c;subst c;rfl) (by unfold maxLen;omega) (by omega) (by simp;omega) ?_;intro G w3 d f _ _)
   |fail)
  have V:xR (Eo w3 B G (T++[41])):=Eo.snoc d U.o;have q:xR (W8 B w w3):=((R.o.trans l.o).trans (W8.kept ((Ab.refl No wr).alloc _))).grown (b.alloc _) f;clear d f b;go_ret;refine⟨_,rfl,?_,q.o⟩;have:=V.o;rw[←S.o,aw.o] at this;unfold Es;simpa using this
 |succ k =>
  have av:(i:Int)<(n:Int):=by omega
  have a6:=Bm i
  have a7:(i:Int)<6:=by omega
  obtain⟨o,W⟩:∃o,Ex (Aj r i)=o:=⟨_,rfl⟩;have ae:xR (∀w':World,C2 w' w.heap.size (Ai r) 154→(loadVar 133 ⟨w.heap.size,1+i*6,none⟩).run prog w'=.ok o w'):=by subst W;exact fun w' h=>Ft (Ih h (by omega))
  have H:xR (∀(s:List UInt8) (w':World) (g:Value),W8 B a w'→Eo w' B g s→s.length≤100000000000000→Calls prog 121 #[o,g] w' (JF B s (Kn (Aj r i)) w')):=by subst W;exact fun s w' g af ho ax=>VF (Aj r i) (Fs ab.o i) B g s w' ho (by have:=af.size;omega) ax (aj.o.on ((R.o.trans af).below hB))
  have ag:=Ae (Yt r i (by have:=y.o;omega));have ay:=Ae (l.o.row Q.o);have ah:T.length=m:=U.o;clear W;by_cases I:i=0
  ·have az:¬(0:Int)<(i:Int):=(by omega);have u:=Ae (H.o T wr u1 l.o hO.o (by omega));have X:=Ae I;clear H I ah;go_wp2_with (first
    |(refine Jw 133 _ rfl rfl w.heap.size (1+i*6) rfl o (ae.o _ ay.o) ?_)
    |fail)
   go_call u.o as e w4 ⟨a0,rfl,v,x⟩;have Y:=Ae v;have Z:=Ae (l.o.trans x);clear v x u;go_wp21;go_roundg k
   case measure=>omega
   refine⟨i+1,by omega,by go_num,?_,Z⟩;show Eo _ _ _ _;rw[ag.o,if_pos X.o,vJ,←wJ,S.o];exact Y.o
  have az:(0:Int)<(i:Int):=by omega
  have X:=Ae I;clear I;go_wp2_with (first
   |(at_builtin;refine wpList_append_own_at _ rfl _ _ 149 rfl B 5 J (.int .u8 0) 1 1 underlying149 K L M N rfl (by decide) _ _ _ rfl (b.alloc _) ⟨wr.heap.size,0,none⟩ 1 1 [.int .u8 44] rfl rfl (World.news_of_block (cs:=#[.int .u8 44]) (t:=5) (fr:=(0,0)) (heap_alloc_last wr _)) (by intro g c;simp at c;subst c;rfl) (by unfold maxLen;omega) (by omega) (by simp;omega) ?_;intro G w3 d f _ _;have q:xR (W8 B a w3):=(l.o.trans (W8.kept ((Ab.refl No wr).alloc _))).grown (b.alloc _) f;have V:xR (Eo w3 B G (T++[44])):=Eo.snoc d U.o;have a1:=Ae (q.o.row Q.o);clear d f)
   |(refine Jw 133 _ rfl rfl w.heap.size (1+i*6) rfl o (ae.o _ a1.o) ?_)
   |fail)
  have u:=Ae (H.o (T++[44]) w3 G q.o V.o (by simp;omega));clear H ah;go_call u.o as e w4 ⟨a0,rfl,v,x⟩;have Y:=Ae v;have Z:=Ae (q.o.trans x);clear v x u;go_wp21;go_roundg k
  case measure=>omega
  refine⟨i+1,by omega,by go_num,?_,Z⟩;show Eo _ _ _ _;rw[ag.o,if_neg X.o];have:=Y.o;rw[←S.o] at this;simpa using this
end Go.Proofs.YtdinjjmcmfjbfaaGreatDoor
