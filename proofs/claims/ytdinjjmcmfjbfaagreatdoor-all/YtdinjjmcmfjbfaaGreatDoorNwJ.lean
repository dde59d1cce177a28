import Derived.Test.YtdinjjmcmfjbfaaGreatDoorJmJ
set_option maxRecDepth 100000
set_option maxHeartbeats 4000000
namespace Go.Proofs.YtdinjjmcmfjbfaaGreatDoor
open Go.RowKit Go.Shelf Mo Pl Tryz
set_option linter.unusedSimpArgs false
theorem Uj {w:World}{o:Oper}{a:Act}{K':Act→World→Prop}{Q:Exit→Act→World→Prop}{O:Ow}{id c:Nat}{S:Bag}{f:V→Option Nat}(b x:Operand)(e:o.op=Op.lookup 233 b x false)(hv:Value)(g:a.eval b=hv)(h:Ml w O id hv c S f)(v:V)(i:Mh v)(j:a.eval x=Ex v)(d:Value)(k:(Qe f v).getD (.map none)=d)
 (l:K' (a.put o.dst d) w):o.wp prog a w K' Q:=by
 rcases h with ⟨rfl,_,n⟩|⟨m,rfl,h⟩
 ·have:d=.map none:=by rw[←k];unfold Qe;rw[n];rfl
  subst this;exact Yy V4 b x _ 83 e underlying233 _ (Rz _) g v i j l
 exact Hv V4 b x _ 83 e underlying233 _ (Rz _) m (Qe f) g h.map v i j d k l
theorem EO {w:World}{o:Oper}{a:Act}{K':Act→World→Prop}{Q:Exit→Act→World→Prop}(c:Operand)(f:o.op=Op.range 83 c)(b:Nat)(l:Bag)(g:a.eval c=.map (some b))(d:Ak w b l)
 (h:∀w' k,D5 w' b w.heap.size l [] k→Ab No w w'→w'.heap.size=w.heap.size+1→K' (a.put o.dst (C1 w.heap.size)) w'):o.wp prog a w K' Q:=by
 refine EK Hk c 83 2 f underlying83 b (Cr l) g d.2 ?_;intro w' k i j m;exact h w' k ⟨d.1,⟨by simp,by simp⟩,i⟩ ((Ab.refl _ _).grown j (fun r e=>by cases e)) m
theorem AN {w:World}{o:Oper}{a:Act}{K':Act→World→Prop}{Q:Exit→Act→World→Prop}(b:Operand)(c:o.op=Op.range 83 b)(d:a.eval b=.map none)
 (e:K' (a.put o.dst (C1 w.heap.size)) (w.alloc (.mapIter none 0 #[] 0))):o.wp prog a w K' Q:=by
 have f:=run_range_nilMap (P:=prog) w 83 154 2 underlying83;unfold Oper.wp;simp[execOp,c,d,f,Result.andThen];exact e
def Y5 (il:Bool)(c c2:Nat)(d S:Bag)(z:Row):Prop:=∃x y,z=Kj il x y∧cnt d x≠0∧cnt S y≠0∧Aj x c=Aj y c2
structure cH (il:Bool) (c c2:Nat) (d S:Bag):Prop where
 len:∀l:Bag,(∀e∈l,Y5 il c c2 d S e.1)→(Ad l).length<maxLen
 mul:∀x y,Aj x c=Aj y c2→ -9223372036854775808≤cnt d x*cnt S y∧cnt d x*cnt S y≤9223372036854775807
 row:∀x y,cnt d x≠0→cnt S y≠0→1≤x.length∧1≤y.length∧x.length+y.length≤6∧Ge (Kj il x y)
 c6:c<6
structure lY (cs:Array Value) (b o o2 c:Nat) (il:Bool) (hv2:Value):Prop where
 col:cs[o]? =some (.int .i64 (c:Int))
 join:cs[o+2]? =some (.pointer (some ⟨b,0,none⟩))
 other:cs[o+3]? =some (.pointer (some ⟨b,o2,none⟩))
 left:cs[o+4]? =some (.bool il)
 held:cs[o2+1]? =some hv2
theorem VU (b o G c c2 u id:Nat)(il:Bool)(cs:Array Value)(ty:TypeId)(bn:Value)(us us2:List Bool)(d S:Bag)(J:V→Option Nat)(O:Ow)(w:World)(Q:Ending→World→Prop)(av:C2 w b cs ty)(bo:lY cs b o G c il bn)(aw:Ml w O id bn c2 S J)(bp:Gf us d)(bq:B2 us2 S)(hO:cH il c c2 d S)(ae:Ak w u (Ad d))
 (br:∀w3 es l,J9 (Ad d) es→Ak w3 w.heap.size l→A9 l (jL il c c2 es S)→Ab No w w3→Calls prog 255 #[.pointer (some ⟨b,o,none⟩),.map (some u)] w3 fun e w4=>e=.returned (.tuple #[])∧C3 w4 b (o+2) (C1 b)∧Calls prog 250 #[C1 b,.map (some w.heap.size)] w4 fun e w'=>e=.returned (.tuple #[])∧Q e w') :
 Calls prog 256 #[.pointer (some ⟨b,o,none⟩),.map (some u)] w Q:=by
 have bs:xR (Ak (w.alloc (.map #[] 0)) u (Ad d)):=ae.A6 (Below.heap_alloc _ _ _ ae.lt);have bt:xR (Ak (w.alloc (.map #[] 0)) w.heap.size []):=Ak.made w;have cz:=Ae av;have c0:=Ae br;have af:=Ae bo;have ax:=Ae aw;have bu:=Ae bq;have HD:=Ae bp;have ay:=Ae hO;have ds:=ae.lt;have c1:=Aa av;have c3:=hO.c6;have dt:=Bm c
 have du:(c:Int)<6:=by omega
 obtain⟨ag,rfl⟩:=aw.is;clear ae av br bo aw bq bp hO;have c4:=@run_makeMap prog;go_enter func256,ntmps256;go_wp2_with (first
  |(at_range;refine Bv _ rfl _ rfl u (Ad d) rfl bs.o ?_;intro w1 c5 az a0 bw)
  |fail)
 have c6:(w.alloc (.map #[] 0)).heap.size=w.heap.size+1:=by simp
 rw[c6] at az bw⊢;have bx:=Ae az;have bz:xR (Ak w1 w.heap.size []):=bt.o.kept a0 xT;have b0:Ab No w w1:=((Ab.refl No w).alloc _).seq a0;have b1:=Ae b0;clear az bw a0 b0 bs bt c4;go_frame;go_loopg [] c5 (fun k wr=>∃(es l:Bag),xR (D5 wr u (w.heap.size+1) (Ad d) es k)∧xR (Ak wr w.heap.size l)∧xR (A9 l (jL il c c2 es S))∧xR (∀e∈l,Y5 il c c2 d S e.1)∧xR (Ab No w wr))
 case atStart=>exact⟨[],[],bx,bz,Ae (A9.refl _),Ae (by simp),b1⟩
 obtain⟨es,l,hr,a1,a2,b2,n⟩:=hrel;clear bx bz b1;go_wp2_with (first
  |(at_next;refine B0 _ rfl _ rfl u (w.heap.size+1) (Ad d) es gk rfl hr.o ?_ ?_)
  |fail)
 ·intro b3;have b4:=Ae (c0.o wr es l b3 a1.o a2.o n.o);clear b3;go_wp21;go_call b4.o as e w4 ⟨rfl,_,v⟩;have c7:=Ae v;clear v b4;go_wp21;go_call c7.o as e w5 ⟨rfl,v⟩;have c8:=Ae v;clear v;go_wp21;go_end0;exact c8.o
 intro t q f ah v b5 C D b6 z c9 dv;have dw:=Ae v;have a3:xR (Mh (Aj q c)):=Fs v c;have L:=Ae D;have M:xR (t=cnt d q∧t≠0):=⟨by rw[b5,HD.o.gU],C⟩;have a4:Ab No w f:=n.o.trans z (fun _ e=>e) (fun i hi e=>by omega);have N:=Ae a4;have ai:xR (Ak f w.heap.size l):=a1.o.kept z (fun e=>by omega);have dx:w.heap.size+1<f.heap.size:=L.o.lt;have b7:C2 f b cs ty:=(a4.block b c1 xT).trans cz.o;have a5:=Ae b7;clear v D z b5 C c9 a4 b7 hr a1 n;go_wp2_with (first
  |(refine Bt _ _ _ rfl rfl f _ rfl rfl rfl q rfl ?_)
  |fail)
 have b8:C2 (f.alloc (.cells (Ai q) 154)) b cs ty:=(Below.heap_alloc _ _ _ (Aa a5.o)).trans a5.o;have b9:C2 (f.alloc (.cells (Ai q) 154)) f.heap.size (Ai q) 154:=heap_alloc_last _ _;have aj:=Ae (And.intro b8 b9);have ca:Ab No f (f.alloc (.cells (Ai q) 154)):=(Ab.refl No f).alloc _;have E:=Ae ca;clear b8 b9 ca;generalize f.alloc (.cells (Ai q) 154)=W at aj E⊢;have P:xR (Ml W.drew O id (.map ag) c2 S J):=ax.o.stab fun k a6 _=>⟨(N.o.seq E.o).drew.block k a6 xT,rfl⟩;obtain⟨ak,a7⟩:∃ak,ak=Ex (Aj q c):=⟨_,rfl⟩;have a8:xR (∀w:World,C2 w f.heap.size (Ai q) 154→(loadVar 133 ⟨f.heap.size,1+c*6,none⟩).run prog w=.ok ak w):=by subst a7;exact fun w h=>Ft (Ih h c3)
 have cb:=Ae a7;clear a7 a5;refine wp_region_held_drew (S:=fun w'=>w'.heap[b]? =some (.cells cs ty (0,0))∧w'.heap[f.heap.size]? =some (.cells (Ai q) 154 (0,0))) (by kernel_rfl) aj.o (fun a=>?_);refine An 0 (.pointer (some ⟨b,o,none⟩)) a ?_;refine An 1 (.pointer (some ⟨b,o,none⟩)) a ?_;refine An 2 (.pointer (some ⟨b,o+3,none⟩)) a ?_;refine Iq 3 (.pointer (some ⟨b,G,none⟩)) 236 (.tmp 19) (b) (o+3) (fun w h=>(Af h.1 _).trans af.o.other) a ?_
 try simp only[Act.put,Ar,As,Au,Av,Aw,Ax]
 refine An 4 (.pointer (some ⟨b,G,none⟩)) a ?_;refine An 5 (.pointer (some ⟨b,G,none⟩)) a ?_;refine An 6 (.pointer (some ⟨b,G+1,none⟩)) a ?_;refine Iq 7 (.map ag) 233 (.tmp 23) (b) (G+1) (fun w h=>(Af h.1 _).trans af.o.held) a ?_
 try simp only[Act.put,Ar,As,Au,Av,Aw,Ax]
 refine An 8 (.pointer (some ⟨b,o,none⟩)) a ?_;refine An 9 (.pointer (some ⟨b,o,none⟩)) a ?_;refine An 10 (.pointer (some ⟨b,o,none⟩)) a ?_;refine An 11 (.pointer (some ⟨b,o,none⟩)) a ?_
 try simp only[Act.put,Ar,As,Au,Av,Aw,Ax]
 refine Iq 12 (.int .i64 (c:Int)) 3 (.tmp 28) (b) (o) (fun w h=>(Af h.1 _).trans af.o.col) a ?_;refine An 13 (.pointer (some ⟨f.heap.size,1,none⟩)) a ?_;refine An 14 (.pointer (some ⟨f.heap.size,1+c*6,none⟩)) a ?_;refine Ha 15 (ak) 133 (.tmp 31) (f.heap.size) (1+c*6) (fun w h=>a8.o w h.2) a ?_
 try simp only[Act.put,Ar,As,Au,Av,Aw,Ax]
 cases A:J (Aj q c) with
 |none =>
  have R:xR ((Qe J (Aj q c)).getD (.map none)=.map none):=by show _=_;unfold Qe;rw[A];rfl
  have da:xR (Ad (Dm c2 (Aj q c) S)=[]):=by
   rcases ax.o with ⟨_,F,_⟩|⟨m,_,F⟩
   ·exact Q7 F
   exact F.no a3.o A
  clear A;refine C0 16 (fun K n=>?_);rw[if_pos (by kernel_rfl)];refine Uj (.tmp 24) (.tmp 32) (by kernel_rfl) (.map ag) (by kernel_rfl) P.o (Aj q c) a3.o (by rw[←cb.o];kernel_rfl) _ R.o ?_;refine n.out _ _ a (fun a=>?_);clear n K
  refine C0 17 (fun K n=>?_);rw[if_pos (by kernel_rfl)];refine AN (.tmp 33) (by kernel_rfl) (by kernel_rfl) ?_;have T:C2 (W.drew.alloc (.mapIter none 0 #[] 0)) b cs ty∧C2 (W.drew.alloc (.mapIter none 0 #[] 0)) f.heap.size (Ai q) 154:=⟨(Below.heap_alloc _ _ _ (Aa a.1)).trans a.1,(Below.heap_alloc _ _ _ (Aa a.2)).trans a.2⟩;have a9:∀ty,(Instr.next (C1 W.drew.heap.size) false ty).run prog (W.drew.alloc (.mapIter none 0 #[] 0))=_:=fun ty=>run_next_nilMap W.drew ty 0 0 #[];have B:xR (Ab No f (W.drew.alloc (.mapIter none 0 #[] 0))):=(E.o.drew).alloc _;refine n.out _ _ T (fun a=>?_);clear n K T P aj E R;refine wpAnyH_done (by kernel_rfl) ?_ _;clear a;generalize W.drew.alloc (.mapIter none 0 #[] 0)=w5 at B a9⊢;generalize W.drew.heap.size=U at a9⊢
  try simp only[Act.put,Ar,As,Au,Av,Aw,Ax]
  go_wp21;refine wp_loop_rounds 1 ?_;rw[rounds_succ];go_wp21;have ba:xR (D5 w5 u (w.heap.size+1) (Ad d) (es++[(q,t)]) ah):=L.o.kept B.o xT xT;have al:xR (Ak w5 w.heap.size l):=ai.o.kept B.o xT;have bb:xR (Ab No w w5):=N.o.seq B.o;have bc:xR (A9 l (jL il c c2 (es++[(q,t)]) S)):=by show A9 _ _;rw[SK];have db:A9 (Dm c2 (Aj q c) S) []:=fun r=>Dp.1 da.o r;have X:=SL (t:=t) (g:=Kj il q) db;exact a2.o.trans (fun r=>by rw[Ah];have:=X r;simp only[List.map_nil] at this;unfold Mo.Nc Dm at *;rw[this];simp[cnt])
  clear B ai L N a9 a8;go_roundg ah
  case measure=>exact b6
  exact⟨es++[(q,t)],l,ba,al,bc,b2,bb⟩
 |some bv =>
  have R:xR ((Qe J (Aj q c)).getD (.map none)=.map (some bv)):=by show _=_;unfold Qe;rw[A];rfl
  have bd:Ak W.drew bv (Ad (Dm c2 (Aj q c) S))∧bv<w.heap.size:=by
   refine⟨?_,?_⟩
   ·rcases P.o with ⟨_,_,be⟩|⟨m,_,F⟩
    ·rw[be] at A;cases A
    exact (F.bag A).2.2.1
   exact (ax.o.lt (.inr ⟨_,A⟩)).1
  have dy:=bd.2;have cc:=Ae bd.1;clear A bd;refine C0 16 (fun K n=>?_);rw[if_pos (by kernel_rfl)];refine Uj (.tmp 24) (.tmp 32) (by kernel_rfl) (.map ag) (by kernel_rfl) P.o (Aj q c) a3.o (by rw[←cb.o];kernel_rfl) _ R.o ?_;refine n.out _ _ a (fun a=>?_);clear n K
  refine C0 17 (fun K n=>?_);rw[if_pos (by kernel_rfl)];refine EO (.tmp 33) (by kernel_rfl) bv _ (by kernel_rfl) cc.o ?_;intro w5 dc cd Y dd;have T:C2 w5 b cs ty∧C2 w5 f.heap.size (Ai q) 154:=⟨(Y.block _ (Aa a.1) xT).trans a.1,(Y.block _ (Aa a.2) xT).trans a.2⟩;have B:xR (Ab (fun k=>k=w.heap.size) f w5):=(E.o.drew.seq Y).any;have bf:=Ae cd;have de:f.heap.size<W.drew.heap.size:=Aa a.2;have al:xR (Ak w5 w.heap.size l):=ai.o.kept (E.o.drew.seq Y) xT;refine n.out _ _ T (fun a=>?_);clear n K;refine wpAnyH_done (by kernel_rfl) ?_ _;have ce:=Ae a;clear a T P aj E R cd Y dd cc;generalize W.drew.heap.size=U at bf de⊢
  try simp only[Act.put,Ar,As,Au,Av,Aw,Ax]
  go_wp21;go_loopg [] dc (fun k wr=>∃(p:Bag),xR (D5 wr bv U (Ad (Dm c2 (Aj q c) S)) p k)∧xR (Ak wr w.heap.size ((p.map fun y=>(Kj il q y.1,t*y.2))++l))∧xR (∀e∈(p.map fun y=>(Kj il q y.1,t*y.2))++l,Y5 il c c2 d S e.1)∧xR (Ab (fun k=>k=w.heap.size) f wr)∧xR (C2 wr b cs ty∧C2 wr f.heap.size (Ai q) 154))
  case atStart=>exact⟨[],bf,al,b2,B,ce⟩
  obtain⟨p,D,bg,Z,z,H⟩:=hrel;clear bf al B ce;go_wp2_with (first
   |(at_next;refine B0 _ rfl _ rfl bv U (Ad (Dm c2 (Aj q c) S)) p gk rfl D.o ?_ ?_)
   |fail)
  ·intro cf;have cg:∀r,wrap64 (cnt (Ad (Dm c2 (Aj q c) S)) r)=cnt (Dm c2 (Aj q c) S) r:=fun r=>(by rw[Aq,Ga];rw[Lx];have:=bu.o.bd r;split <;> omega);have ch:A9 p (Dm c2 (Aj q c) S):=fun r=>(by rw[cf.cnt D.o.at.1 r,cg]);have ba:xR (D5 wr u (w.heap.size+1) (Ad d) (es++[(q,t)]) ah):=L.o.kept z.o (fun e=>by omega) (fun e=>by omega);have bb:xR (Ab No w wr):=N.o.trans z.o (fun _ e=>e) (fun i hi e=>by omega);have bc:xR (A9 ((p.map fun y=>(Kj il q y.1,t*y.2))++l) (jL il c c2 (es++[(q,t)]) S)):=(by show A9 _ _;rw[SK];have X:=SL (t:=t) (g:=Kj il q) ch;intro r;have F:=X r;have be:=a2.o r;rw[Ah,Ah,←be];unfold Dm at F;unfold Mo.Nc;omega);clear cf cg ch L ai N a8 D z H;go_wp21;go_roundg ah
   case measure=>exact b6
   exact⟨es++[(q,t)],_,ba,bg,bc,Z,bb⟩
  intro s y w6 ci df cj am bh dg aa dh dz;have bi:cnt (Dm c2 (Aj q c) S) y=s:=by rw[cj,Aq,Ga];rw[Lx];have:=bu.o.bd y;split <;> omega
  have an:Aj q c=Aj y c2:=by refine Classical.byContradiction fun di=>am ?_;rw[←bi,Lx,if_neg (fun e=>di e.symm)]
  have ao:cnt S y=s:=by rw[←bi,Lx,if_pos an.symm]
  have ab:=ay.o.row q y (by rw[←M.o.1];exact M.o.2) (by rw[ao];exact am);have ck:=Ae ab.2.2.2;have bj:=ay.o.mul q y an;rw[←M.o.1,ao] at bj;have cl:xR (wrap64 (t*s)=t*s):=Ga bj;have dj:xR (Y5 il c c2 d S (Kj il q y)):=⟨q,y,rfl,by rw[←M.o.1];exact M.o.2,by rw[ao];exact am,an⟩;have cm:=Ae bh;have cn:Ab (fun k=>k=w.heap.size) f w6:=z.o.trans aa (fun _ e=>e) (fun i hi e=>by omega);have co:=Ae cn;have ap:xR (Ak w6 w.heap.size ((p.map fun y=>(Kj il q y.1,t*y.2))++l)):=bg.o.kept aa (fun e=>by omega);have d0:U<w6.heap.size:=bh.lt;have aq:C2 w6 b cs ty:=(aa.block b (Aa H.o.1) (by omega)).trans H.o.1;have ar:C2 w6 f.heap.size (Ai q) 154:=(aa.block _ (Aa H.o.2) (by omega)).trans H.o.2;have ac:=Ae (And.intro aq ar);have cp:xR (C2 (w6.alloc (.cells (Ai y) 154)) w6.heap.size (Ai y) 154):=heap_alloc_last _ _;have cq:xR (C2 (w6.alloc (.cells (Ai y) 154)) f.heap.size (Ai q) 154):=(Below.heap_alloc _ _ _ (Aa ar)).trans ar;have cr:xR (Calls prog 257 #[.pointer (some ⟨b,o,none⟩),.agg (Ai q),.agg (Ai y)] (w6.alloc (.cells (Ai y) 154)) fun e w'=>e=.returned (.agg (Ai (Kj il q y)))∧Ab No (w6.alloc (.cells (Ai y) 154)) w'):=by have ct:=(Below.heap_alloc w6 (.cells (Ai y) 154) _ (Aa aq)).trans aq;exact EL b o il q y _ (Aa ct) ((Af ct _).trans af.o.left) ab.1 ab.2.1 ab.2.2.1
  have bk:xR (∀w',Ab No w6 w'→Calls prog 79 #[.map (some w.heap.size),.agg (Ai (Kj il q y)),.int .i64 (t*s)] w' fun e cu=>e=.returned (.tuple #[])∧Ak cu w.heap.size ((Kj il q y,t*s)::((p.map fun y=>(Kj il q y.1,t*y.2))++l))∧Ab (·=w.heap.size) w' cu):=by refine Ae ?_;intro w' a6;have X:=ap.o.kept a6 xT;exact G9 w.heap.size _ (Kj il q y) (t*s) w' X ck.o (ay.o.len _ Z.o)
  clear cj am bi an ao ab bj bh aa cn aq ar dh df H D bg z;obtain⟨au,C⟩:∃au,t*s=au:=⟨_,rfl⟩;rw[C] at bk;have dk:=Ae C;have cv:xR (wrap64 (t*s)=au):=cl.o.trans C;clear C cl;go_wp2_with (first
   |(refine Bt _ _ _ rfl rfl w6 _ rfl rfl rfl y rfl ?_)
   |(refine C7 _ rfl rfl f.heap.size rfl q cq.o ?_)
   |(refine C7 _ rfl rfl w6.heap.size rfl y cp.o ?_)
   |fail)
  go_call cr.o as e dl ⟨rfl,cw⟩;have bl:xR (Ab No w6 dl):=((Ab.refl No w6).alloc _).seq cw;clear cw cr cq cp;go_wp21;rw[cv.o];go_call bk.o _ bl.o as e I ⟨rfl,cx,cy⟩;have ad:Ab (fun k=>k=w.heap.size) w6 I:=bl.o.Qk cy;have dm:xR (D5 I bv U (Ad (Dm c2 (Aj q c) S)) (p++[(y,s)]) ci):=cm.o.kept ad (fun e=>by omega) (fun e=>by omega);have bm:(p++[(y,s)]).map (fun y=>(Kj il q y.1,t*y.2))=(p.map fun y=>(Kj il q y.1,t*y.2))++[(Kj il q y,au)]:=by rw[uF,←dk.o];rfl
  have dn:xR (Ak I w.heap.size (((p++[(y,s)]).map fun y=>(Kj il q y.1,t*y.2))++l)):=by
   show Ak _ _ _;rw[bm];refine cx.eqv (fun x=>?_) (fun x j=>?_)
   ·simp only[Ah,cnt];omega
   rcases tW.1 j with j|j
   ·rcases tW.1 j with j|j
    ·exact ap.o.1 x (tW.2 (.inl j))
    simp at j;subst j;exact ck.o
   exact ap.o.1 x (tW.2 (.inr j))
  have dp:xR (∀e∈((p++[(y,s)]).map fun y=>(Kj il q y.1,t*y.2))++l,Y5 il c c2 d S e.1):=by
   refine Ae ?_;rw[bm];intro x j;rcases tW.1 j with j|j
   ·rcases tW.1 j with j|j
    ·exact Z.o x (tW.2 (.inl j))
    simp at j;subst j;exact dj.o
   exact Z.o x (tW.2 (.inr j))
  have dq:xR (Ab (fun k=>k=w.heap.size) f I):=co.o.seq ad;have dr:xR (C2 I b cs ty∧C2 I f.heap.size (Ai q) 154):=⟨(ad.block _ (Aa ac.o.1) (by omega)).trans ac.o.1,(ad.block _ (Aa ac.o.2) (by omega)).trans ac.o.2⟩;clear cx cy ad bm bk bl cm ap co ac cv Z;go_wp21;go_roundg ci
  case measure=>exact dg
  exact⟨p++[(y,s)],dm,dn,dp,dq,dr⟩
def jC (sl hl hr:Value)(n m b:Nat):Array Value:=#[sl,.int .i64 (n:Int),hl,.pointer (some ⟨b,0,none⟩),.pointer (some ⟨b,6,none⟩),.bool true,.int .i64 (m:Int),hr,.pointer (some ⟨b,0,none⟩),.pointer (some ⟨b,1,none⟩),.bool false]
def jS (il:Bool)(sl hv hv2:Value)(c c2 b:Nat):Array Value:=if il then jC sl hv hv2 c c2 b else jC sl hv2 hv c2 c b
def jO (il:Bool):Nat:=if il then 1 else 6
def SM (w:World)(O:Ow)(b:Nat)(T:Value)(il:Bool)(c c2:Nat)(B S:Bag):Prop :=
 O b=b+2∧∃g cap hv hv2 f f2,w.heap[b]? =some (.cells (jS il (Qc g cap) hv hv2 c c2 b) 240 (0,0))∧O6 w O b g T∧Ml w O (b+2) hv c B f∧Ml w O (b+2) hv2 c2 S f2∧∀k,AM hv f k→¬AM hv2 f2 k
theorem SM.swap {w:World}{O:Ow}{b:Nat}{T:Value}{il:Bool}{c c2:Nat}{B S:Bag}(h:SM w O b T il c c2 B S):SM w O b T (!il) c2 c S B:=by
 obtain⟨a,g,cap,hv,d,f,e,i,j,l,m,n⟩:=h;refine⟨a,g,cap,d,hv,e,f,?_,j,m,l,fun k o p=>n k p o⟩;cases il <;> exact i
theorem SM.stab {w w':World}{O e:Ow}{b:Nat}{T:Value}{il:Bool}{c c2:Nat}{B S:Bag}(h:SM w O b T il c c2 B S)(a:∀k,k<w.heap.size→O k=b+2→w'.heap[k]? =w.heap[k]?∧e k=O k):SM w' e b T il c c2 B S:=by
 obtain⟨i,g,cap,hv,m,f,n,j,d,o,p,q⟩:=h;have l:=a b (Aa j) i;exact⟨l.2.trans i,g,cap,hv,m,f,n,l.1.trans j,d.stab (a g d.lt d.1),o.stab a,p.stab a,q⟩
theorem SM.eqv {w:World}{O:Ow}{b:Nat}{T:Value}{il:Bool}{c c2:Nat}{B a S:Bag}(h:SM w O b T il c c2 B S)(e:A9 B a):SM w O b T il c c2 a S:=by
 obtain⟨d,g,cap,hv,i,f,j,k,l,m,n,o⟩:=h;exact⟨d,g,cap,hv,i,f,j,k,l,m.eqv e,n,o⟩
theorem SN (il:Bool)(a hv d:Value)(c c2 b:Nat):lY (jS il a hv d c c2 b) b (jO il) (jO (!il)) c il d∧(jS il a hv d c c2 b)[jO il+1]? =some hv∧(jS il a hv d c c2 b)[0]? =some a:=by
 cases il <;> exact⟨⟨rfl,rfl,rfl,rfl,rfl⟩,rfl,rfl⟩
theorem nU (il:Bool)(a hv d e:Value)(c c2 b:Nat):(jS il a hv d c c2 b).setIfInBounds (jO il+1) e=jS il a e d c c2 b:=by cases il <;> rfl
def jF (il:Bool)(c c2:Nat)(S B:Bag):Bag:=if il then Bw c c2 B S else Bw c2 c S B
theorem cI {il:Bool}{c c2:Nat}{S B a:Bag}(h:A9 B a):A9 (jF il c c2 S B) (jF il c c2 S a):=by
 cases il
 ·exact G6 (A9.refl _) h
 exact G6 h (A9.refl _)
theorem cJ (il:Bool)(c c2:Nat)(S B d:Bag):A9 (jF il c c2 S B++jL il c c2 d S) (jF il c c2 S (B++d)):=by
 cases il
 ·refine A9.trans ?_ (GV c2 c S B d).symm;exact (A9.refl _).append (Yz c c2 d S)
 show A9 (Bw c c2 B S++jL true c c2 d S) (Bw c c2 (B++d) S);rw[EN,MY];exact A9.refl _
theorem SO {il:Bool}{c c2:Nat}{S B:Bag}(a:Mo.nn S)(hB:Mo.nn B){x y:Row}(h:Aj x c=Aj y c2)(b:cnt B x≠0)(d:cnt S y≠0):cnt (jF il c c2 S B) (Kj il x y)≠0:=by
 cases il
 ·exact JQ a hB h.symm d b
 exact JQ hB a h b d
theorem jG {il:Bool}{c c2:Nat}{us us2 ts:List Bool}{B d S:Bag}(hB:B2 us B)(f:B2 us (B++d))(a:B2 us2 S)(i:B2 ts (jF il c c2 S B))(j:B2 ts (jF il c c2 S (B++d)))(t:c<6)(_:1≤us.length∧1≤us2.length∧us.length+us2.length≤6):cH il c c2 d S where
 c6:=t
 len:=fun l u=>by
  have w:∀b∈(Ad l).map (·.1),b∈(Ad (jF il c c2 S B)).map (·.1)++(Ad (jF il c c2 S (B++d))).map (·.1):=fun b z=>by
   obtain⟨e,A,rfl⟩:=uA.1 z;obtain⟨C,D,E⟩:=Jj A;obtain⟨x,y,k,o,g,p⟩:=u C D;rw[E] at k;by_cases q:cnt B x=0
   ·have F:cnt (B++d) x≠0:=(by rw[Ah,q];omega);obtain⟨b,m,n⟩:=Gw (SO (il:=il) a.nn f.nn p F g);exact tW.2 (.inr (uA.2 ⟨b,m,by rw[n,k]⟩))
   obtain⟨b,m,n⟩:=Gw (SO (il:=il) a.nn hB.nn p q g);exact tW.2 (.inl (uA.2 ⟨b,m,by rw[n,k]⟩))
  have:=Dl (Ck.nodup (Ap l)) w;have e1:=i.len;have e2:=j.len;simp only[tZ,tS] at this;unfold maxLen;omega
 mul:=fun x y h=>by
  cases il
  ·exact cG a.nn hB.nn f.nn i.rows j.rows h.symm
  exact jE hB.nn f.nn a.nn i.rows j.rows h
 row:=fun x y o g=>by
  have r:=(hB.chg f).good o;have s:=a.good g;have G:=r.len;have H:=s.len;have r1:=Uc r hB.six;have r2:=Uc s a.six;refine⟨by omega,by omega,by omega,?_⟩;cases il
  ·refine⟨by show (y++x).length≤6;rw[tS];omega,fun v hv=>?_⟩;rcases tW.1 (show v∈y++x from hv) with hv|hv
   ·exact r2.2 v hv
   exact r1.2 v hv
  refine⟨by show (x++y).length≤6;rw[tS];omega,fun v hv=>?_⟩;rcases tW.1 (show v∈x++y from hv) with hv|hv
  ·exact r1.2 v hv
  exact r2.2 v hv
theorem jH:M9 236 256:=⟨fun _ _=>by kernel_rfl,fun _ _=>by kernel_rfl,enters_of func256 (by kernel_rfl) rfl⟩
theorem Pd {ty:TypeId}{f:Nat}{p:Addr}{A:Nat→Prop}{ts:List Bool}{Gd:Bag→Prop}{R:World→Ow→Bag→Prop}(q:C9 ty f p A ts Gd R)(b:Nat)(il:Bool)(c c2:Nat)(us us2:List Bool)(S:Bag)(V:c<6)(an:1≤us.length∧1≤us2.length∧us.length+us2.length≤6)(W:¬A (b+2)) :
 C9 236 256 ⟨b,jO il,none⟩ (fun a=>A a∨a=b+2) us (fun B=>B2 us B∧B2 us2 S∧Gd (jF il c c2 S B)) (fun w O B=>R w O (jF il c c2 S B)∧SM w O b (.iface ty (.pointer (some p))) il c c2 B S) where
 zero:=fun h=>h.elim q.zero (by omega)
 one:=fun h=>h.elim q.one (by omega)
 ok:=fun h=>h.1
 gde:=fun h e=>⟨h.1.eqv e,h.2.1,q.gde h.2.2 (cI e)⟩
 stab:=fun h ao n=>⟨q.stab h.1 ao fun k j F=>n k j (F.imp .inl id),h.2.stab fun k j e=>n k j (.inl (.inr e))⟩
 eqv:=fun h e=>⟨q.eqv h.1 (cI e),h.2.eqv e⟩
 met:=jH
 run:=by
  rintro w O B d J ⟨ap,aq⟩ ⟨K,X,Y⟩ ⟨L,_,Z⟩ aa ar;have ab:=K.chg L;obtain⟨ac,g,cap,hv,u,M,G,t,hg,z,C,ad⟩:=aq;obtain⟨ae,au,_⟩:=SN il (Qc g cap) hv u c c2 b;have af:=Aa t;have av:¬AM hv M J:=fun h=>ar (.inr (z.lt h).2);refine VU b (jO il) (jO (!il)) c c2 J (b+2) il _ 240 u us us2 d S G O w _ t ae C ab X (jG K L X (q.ok Y) (q.ok Z) V an) aa fun w3 es l aw F ax n=>?_;have ay:A9 l (jL il c c2 d S):=ax.trans (nS (aw.eqv ab) (A9.refl _));have ag:A9 (jF il c c2 S B++l) (jF il c c2 S (B++d)):=((A9.refl _).append ay).trans (cJ il c c2 S B d);have az:Gd (jF il c c2 S B++l):=q.gde Z ag.symm;have a0:C2 w3 b (jS il (Qc g cap) hv u c c2 b) 240:=(n.block b af xT).trans t;have a1:Ml w3 (oN w O) (b+2) hv c B M:=z.stab fun k j _=>⟨n.block k j xT,Gx j⟩;refine (JP b (jO il) c J (b+2) _ 240 hv us B d M w3 (oN w O) a0 ae.col au a1 K L (aa.kept n xT) av V).mono fun e w4 a2=>?_;obtain⟨a3,N,ah,H,a4,a5,I⟩:=a2;rw[nU] at H;obtain⟨a6,_,a7⟩:=SN il (Qc g cap) N u c c2 b;have D:∀k,k<w.heap.size→oB w3 (oN w O) (b+2) k=O k:=fun k j=>(Fu (tU j n.size)).trans (Gx j);have ai:Ab (fun k=>O k=b+2) w w4:=n.trans I (fun _ e=>e.elim) (fun i hi e=>by
   rcases e with rfl|e
   ·exact ac
   exact (z.lt e).2)
  have P:=hg.lt;have aj:O6 w4 (oB w3 (oN w O) (b+2)) b g (.iface ty (.pointer (some p))):=by
   refine hg.stab ⟨?_,D g P⟩;refine (I.block g (tU P n.size) ?_).trans (n.block g P xT);obtain⟨_,_,_,r,_⟩:=hg;rintro (rfl|e)
   ·rw[t] at r;injection r with r;injection r with _ r;exact absurd r (by decide)
   rcases z with ⟨s,_,E⟩|⟨m,s,x⟩
   ·rcases e with e|⟨v,e⟩
    ·rw[s] at e;cases e
    rw[E] at e;cases e
   rcases e with e|⟨v,e⟩
   ·rw[s] at e;have:m=g:=(by simpa using e);subst this;obtain⟨Q,T,y⟩:=x.map.obj;cases y.symm.trans r
   obtain⟨Q,T,y⟩:=(x.bag e).2.2.1.obj;rw[y] at r;cases r
  have a8:Ml w4 (oB w3 (oN w O) (b+2)) (b+2) u c2 S G:=C.lW fun k j=>by
   have U:=(C.lt j).1;refine⟨(I.block k (tU U n.size) ?_).trans (n.block k U xT),D k U⟩;rintro (rfl|e)
   ·rcases C with ⟨s,_,E⟩|⟨m,s,x⟩
    ·rcases j with e|⟨v,e⟩
     ·rw[s] at e;cases e
     rw[E] at e;cases e
    rcases j with e|⟨v,e⟩
    ·rw[s] at e;have:m=k:=(by simpa using e);subst this;obtain⟨Q,T,y⟩:=x.map.obj;cases y.symm.trans t
    obtain⟨Q,T,y⟩:=(x.bag e).2.2.1.obj;rw[y] at t;cases t
   exact ad k e j
  have a9:Ak w4 w.heap.size (Ad l):=by
   refine (F.kept I ?_).Oc (A9.refl _);rintro (e|e)
   ·omega
   have:=(z.lt e).1;omega
  have ba:R w4 (oB w3 (oN w O) (b+2)) (jF il c c2 S B):=q.kept ap ai (fun k e=>⟨by rw[e];exact W,by omega⟩) D;refine⟨a3,(Af H _).trans a6.join,?_⟩;refine (q.give (b:=b) (c:=w.heap.size) (g:=g) (o:=0) (cap:=cap) ((Af H 0).trans a7) aj.cell ba Y az a9 (by rw[Fu F.lt,Yi (tY _)];exact q.zero)).mono fun e w5 ak=>⟨ak.1,?_⟩;refine Fb.sA (b:=b) D ai ak fun bb s x E=>⟨q.eqv E ag,?_⟩;have bc:∀k,k<w4.heap.size→oB w3 (oN w O) (b+2) k=b+2→w5.heap[k]? =w4.heap[k]?∧bb k=oB w3 (oN w O) (b+2) k:=fun k j e=>⟨x.block k j (by rw[e];exact W),s k j⟩;have bd:∀k,AM N ah k→¬AM u G k:=fun k be al=>by
   rcases a5 k be with am|am
   ·exact ad k am al
   have:=(C.lt al).1;have:=n.size;omega
  exact SM.stab ⟨by rw[D b af];exact ac,g,cap,N,u,ah,G,H,aj,a4,a8,bd⟩ bc
structure Tk where
 ty:TypeId
 f:Nat
 p:Addr
def Tk.val (T:Tk):Value:=.iface T.ty (.pointer (some T.p))
abbrev E9 (T:Tk)(A:Nat→Prop)(ts:List Bool)(Gd:Bag→Prop)(R:World→Ow→Bag→Prop):Prop:=C9 T.ty T.f T.p A ts Gd R
def OH (b:Nat):Tk:=⟨275,258,⟨b,0,none⟩⟩
def BR (b:Nat):Tk:=⟨278,259,⟨b,0,none⟩⟩
def Od (b:Nat):Tk:=⟨287,265,⟨b,0,none⟩⟩
def BU (b:Nat):Tk:=⟨281,261,⟨b,0,none⟩⟩
def VV (b:Nat):Tk:=⟨284,262,⟨b,0,none⟩⟩
def Hw (b:Nat)(il:Bool):Tk:=⟨236,256,⟨b,jO il,none⟩⟩
def xS:Option Nat→Dk
 |none=>.val (.num 1)
 |some m=>.col m
theorem rA (s:Option Nat)(q:Row):Mo.sv s q=nI (Iv (xS s) q):=by
 cases s with
 |none=>rfl
 |some m=>show aB (Aj q m)=nI (Aj q m);cases Aj q m <;> rfl
inductive Nd where
 |leaf
 |one (b:Nat) (t:Nd)
 |two (b:Nat) (t u:Nd)
def nds:Nd→List Nat
 | .leaf=>[]
 | .one b t=>b::nds t
 | .two b t u=>b::(nds t++nds u)
def Ba:Q→Nd→Tk→Nat→(Nat→Bag)→World→Ow→Prop
 | .tab _,.leaf,_,_,_,_,_=>True
 | .sel c k x q,.one b t,T,i,f,w,O=>(∃n,Mi n=k∧Sl w O b T.val n (.col c) x)∧Ba q t (OH b) i f w O
 | .pick cs q,.one b t,T,i,f,w,O=>Q0 w O b T.val cs∧Ba q t (BR b) i f w O
 | .join n m q r,.two b t u,T,i,f,w,O=>SM w O b T.val true n m (A1 f i q) (A1 f (i+(Ac q).length) r)∧Ba q t (Hw b true) i f w O∧Ba r u (Hw b false) (i+(Ac q).length) f w O
 | .uni q r,.two b t u,T,i,f,w,O=>V7 w O b T.val∧Ba q t (Od b) i f w O∧Ba r u (Od b) (i+(Ac q).length) f w O
 | .dist q,.one b t,T,i,f,w,O=>Lv w O b T.val (A1 f i q)∧Ba q t (BU b) i f w O
 | .grp cs s q,.one b t,T,i,f,w,O=>Q6 w O b T.val cs s (xS s) (A1 f i q)∧Ba q t (VV b) i f w O
 |_,_,_,_,_,_,_=>False
def Dz:Q→Nd→Tk→Nat→Tk
 | .sel _ _ _ q,.one b t,_,j=>Dz q t (OH b) j
 | .pick _ q,.one b t,_,j=>Dz q t (BR b) j
 | .dist q,.one b t,_,j=>Dz q t (BU b) j
 | .grp _ _ q,.one b t,_,j=>Dz q t (VV b) j
 | .join _ _ q r,.two b t u,_,j=>if j<(Ac q).length then Dz q t (Hw b true) j else Dz r u (Hw b false) (j-(Ac q).length)
 | .uni q r,.two b t u,_,j=>if j<(Ac q).length then Dz q t (Od b) j else Dz r u (Od b) (j-(Ac q).length)
 |_,_,T,_=>T
def Kv (f:Nat→Bag)(k:Nat)(B:Bag):Nat→Bag:=fun j=>if j=k then B else f j
theorem Ds {f g:Nat→Bag}:∀(q:Q) (i:Nat),(∀j,i≤j→j<i+(Ac q).length→f j=g j)→A1 f i q=A1 g i q
 | .tab _,i,h=>h i (tY _) (by simp[Ac])
 | .sel _ _ _ q,i,h=>by simp only[A1];rw[Ds q i h]
 | .pick _ q,i,h=>by simp only[A1];rw[Ds q i h]
 | .join _ _ q r,i,h=>by simp only[A1];rw[Ds q i fun j a b=>h j a (by simp only[Ac,tS];omega),Ds r _ fun j a b=>h j (by omega) (by simp only[Ac,tS];omega)]
 | .uni q r,i,h=>by simp only[A1];rw[Ds q i fun j a b=>h j a (by simp only[Ac,tS];omega),Ds r _ fun j a b=>h j (by omega) (by simp only[Ac,tS];omega)]
 | .dist q,i,h=>by simp only[A1];rw[Ds q i h]
 | .grp _ _ q,i,h=>by simp only[A1];rw[Ds q i h]
theorem Ba.ext {f g:Nat→Bag}{w:World}{O:Ow}:∀(q:Q) (t:Nd) (T:Tk) (i:Nat),(∀j,i≤j→j<i+(Ac q).length→f j=g j)→Ba q t T i f w O→Ba q t T i g w O
 | .tab _,.leaf,_,_,_,_=>trivial
 | .sel _ _ _ q,.one b t,T,i,h,c=>⟨c.1,Ba.ext q t _ i h c.2⟩
 | .pick _ q,.one b t,T,i,h,c=>⟨c.1,Ba.ext q t _ i h c.2⟩
 | .dist q,.one b t,T,i,h,c=>⟨by rw[←Ds q i h];exact c.1,Ba.ext q t _ i h c.2⟩
 | .grp _ _ q,.one b t,T,i,h,c=>⟨by rw[←Ds q i h];exact c.1,Ba.ext q t _ i h c.2⟩
 | .join _ _ q r,.two b t k,T,i,h,c=>by have d:∀j,i≤j→j<i+(Ac q).length→f j=g j:=fun j a b=>h j a (by simp only[Ac,tS];omega);have e:∀j,i+(Ac q).length≤j→j<i+(Ac q).length+(Ac r).length→f j=g j:=fun j a b=>h j (by omega) (by simp only[Ac,tS];omega);exact⟨by rw[←Ds q i d,←Ds r _ e];exact c.1,Ba.ext q t _ i d c.2.1,Ba.ext r k _ _ e c.2.2⟩
 | .uni q r,.two b t k,T,i,h,c=>by have d:∀j,i≤j→j<i+(Ac q).length→f j=g j:=fun j a b=>h j a (by simp only[Ac,tS];omega);have e:∀j,i+(Ac q).length≤j→j<i+(Ac q).length+(Ac r).length→f j=g j:=fun j a b=>h j (by omega) (by simp only[Ac,tS];omega);exact⟨c.1,Ba.ext q t _ i d c.2.1,Ba.ext r k _ _ e c.2.2⟩
theorem Ba.stab {f:Nat→Bag}{w w':World}{O l:Ow}(g:w.heap.size≤w'.heap.size):∀(q:Q) (t:Nd) (T:Tk) (i:Nat),(∀k,k<w.heap.size→(∃b∈nds t,O k=b+2)∨O k=1→w'.heap[k]? =w.heap[k]?∧l k=O k)→Ba q t T i f w O→Ba q t T i f w' l
 | .tab _,.leaf,_,_,_,_=>trivial
 | .sel _ _ _ q,.one b t,T,i,h,c=>by obtain⟨⟨n,m,o⟩,p⟩:=c;exact⟨⟨n,m,o.stab fun k a e=>h k a (.inl ⟨b,by simp[nds],e⟩)⟩,Ba.stab g q t _ i (fun k a e=>h k a (e.imp (fun ⟨x,d,e⟩=>⟨x,by simp[nds,d],e⟩) id)) p⟩
 | .pick _ q,.one b t,T,i,h,c=>⟨c.1.stab g fun k a e=>h k a (e.imp (fun e=>⟨b,by simp[nds],e⟩) id),Ba.stab g q t _ i (fun k a e=>h k a (e.imp (fun ⟨x,d,e⟩=>⟨x,by simp[nds,d],e⟩) id)) c.2⟩
 | .dist q,.one b t,T,i,h,c=>⟨c.1.stab fun k a e=>h k a (.inl ⟨b,by simp[nds],e⟩),Ba.stab g q t _ i (fun k a e=>h k a (e.imp (fun ⟨x,d,e⟩=>⟨x,by simp[nds,d],e⟩) id)) c.2⟩
 | .grp _ _ q,.one b t,T,i,h,c=>⟨c.1.stab g fun k a e=>h k a (e.imp (fun e=>⟨b,by simp[nds],e⟩) id),Ba.stab g q t _ i (fun k a e=>h k a (e.imp (fun ⟨x,d,e⟩=>⟨x,by simp[nds,d],e⟩) id)) c.2⟩
 | .join _ _ q r,.two b t j,T,i,h,c=>⟨c.1.stab fun k a e=>h k a (.inl ⟨b,by simp[nds],e⟩),Ba.stab g q t _ i (fun k a e=>h k a (e.imp (fun ⟨x,d,e⟩=>⟨x,by simp[nds,d],e⟩) id)) c.2.1,Ba.stab g r j _ _ (fun k a e=>h k a (e.imp (fun ⟨x,d,e⟩=>⟨x,by simp[nds,d],e⟩) id)) c.2.2⟩
 | .uni q r,.two b t j,T,i,h,c=>⟨c.1.stab fun k a e=>h k a (.inl ⟨b,by simp[nds],e⟩),Ba.stab g q t _ i (fun k a e=>h k a (e.imp (fun ⟨x,d,e⟩=>⟨x,by simp[nds,d],e⟩) id)) c.2.1,Ba.stab g r j _ _ (fun k a e=>h k a (e.imp (fun ⟨x,d,e⟩=>⟨x,by simp[nds,d],e⟩) id)) c.2.2⟩
theorem Db {ft:List UInt8→Option (List Bool)}{f g:Nat→Bag}:∀(q:Q) (i:Nat),(∀j,i≤j→j<i+(Ac q).length→A9 (f j) (g j))→Sw ft q i f→Sw ft q i g
 | .tab _,_,_,_=>trivial
 | .sel _ _ _ q,i,h,ho=>by obtain⟨⟨ts,c,d⟩,e⟩:=ho;exact⟨⟨ts,c,d.eqv (A8 q i h)⟩,Db q i h e⟩
 | .pick _ q,i,h,ho=>by obtain⟨⟨ts,c,d⟩,e⟩:=ho;exact⟨⟨ts,c,d.eqv (A8 q i h)⟩,Db q i h e⟩
 | .dist q,i,h,ho=>by obtain⟨⟨ts,c,d⟩,e⟩:=ho;exact⟨⟨ts,c,d.eqv (A8 q i h)⟩,Db q i h e⟩
 | .grp _ _ q,i,h,ho=>by obtain⟨⟨ts,c,d⟩,e⟩:=ho;exact⟨⟨ts,c,d.eqv (A8 q i h)⟩,Db q i h e⟩
 | .join _ _ q r,i,h,ho=>by have c:∀j,i≤j→j<i+(Ac q).length→A9 (f j) (g j):=fun j a b=>h j a (by simp only[Ac,tS];omega);have d:∀j,i+(Ac q).length≤j→j<i+(Ac q).length+(Ac r).length→A9 (f j) (g j):=fun j a b=>h j (by omega) (by simp only[Ac,tS];omega);obtain⟨⟨⟨ts,a1,a2⟩,⟨us,k,b2⟩⟩,e,l⟩:=ho;exact⟨⟨⟨ts,a1,a2.eqv (A8 q i c)⟩,⟨us,k,b2.eqv (A8 r _ d)⟩⟩,Db q i c e,Db r _ d l⟩
 | .uni q r,i,h,ho=>by have c:∀j,i≤j→j<i+(Ac q).length→A9 (f j) (g j):=fun j a b=>h j a (by simp only[Ac,tS];omega);have d:∀j,i+(Ac q).length≤j→j<i+(Ac q).length+(Ac r).length→A9 (f j) (g j):=fun j a b=>h j (by omega) (by simp only[Ac,tS];omega);obtain⟨⟨⟨ts,a1,a2⟩,⟨us,k,b2⟩⟩,e,l⟩:=ho;exact⟨⟨⟨ts,a1,a2.eqv (A8 q i c)⟩,⟨us,k,b2.eqv (A8 r _ d)⟩⟩,Db q i c e,Db r _ d l⟩
theorem D8 {f:Nat→Bag}{k:Nat}{B a:Bag}(e:A9 B a)(j:Nat):A9 (Kv f k B j) (Kv f k a j):=by
 unfold Kv;split;exact e;exact A9.refl _
section
variable {T:Tk} {A A':Nat→Prop} {ts:List Bool} {Gd Gd':Bag→Prop} {R R':World→Ow→Bag→Prop}
theorem C9.conv (h:E9 T A ts Gd R)(f:∀a,A a↔A' a)(b:∀{B},Gd' B→Gd B)(hg:∀{B e:Bag},Gd' B→A9 B e→Gd' e)(i:∀{w O B},R w O B↔R' w O B):E9 T A' ts Gd' R':=by
 have e1:A=A':=funext fun a=>propext (f a);have e2:R=R':=funext fun w=>funext fun O=>funext fun B=>propext i;subst e1 e2;exact⟨h.zero,h.one,fun g=>h.ok (b g),hg,h.stab,h.eqv,h.met,fun w O B d c r j k=>h.run w O B d c r (b j) (b k)⟩
theorem C9.frame (h:E9 T A ts Gd R)(f:Nat→Prop)(F:World→Ow→Prop)(q:¬f 0)(r:¬f 1)(s:∀a,A a→¬f a)(m:∀{w w':World} {O g:Ow},F w O→w.heap.size≤w'.heap.size→(∀k,k<w.heap.size→f (O k)∨O k=1→w'.heap[k]? =w.heap[k]?∧g k=O k)→F w' g) :
 E9 T (fun a=>A a∨f a) ts Gd (fun w O B=>R w O B∧F w O) where
 zero:=fun e=>e.elim h.zero q
 one:=fun e=>e.elim h.one r
 ok:=h.ok
 gde:=h.gde
 stab:=fun hr n o=>⟨h.stab hr.1 n fun k b e=>o k b (e.imp .inl id),m hr.2 n fun k b e=>o k b (e.imp .inr id)⟩
 eqv:=fun hr e=>⟨h.eqv hr.1 e,hr.2⟩
 met:=h.met
 run:=fun w O B d c hr t u v x=>(h.run w O B d c hr.1 t u v (fun e=>x (.inl e))).mono fun e w' y=>by
  obtain⟨z,g,p,j,C⟩:=y;refine⟨z,g,p,j.mono fun i _ e=>.inl e,C,m hr.2 j.size fun k b e=>⟨j.block k b fun l=>?_,p k b⟩⟩;rcases e with e|e
  ·exact s _ l e
  rw[e] at l;exact h.one l
end
end Go.Proofs.YtdinjjmcmfjbfaaGreatDoor
