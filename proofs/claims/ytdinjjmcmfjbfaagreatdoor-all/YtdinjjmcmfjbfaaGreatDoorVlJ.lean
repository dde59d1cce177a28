import Derived.Test.YtdinjjmcmfjbfaaGreatDoorUsJ
import Derived.Test.YtdinjjmcmfjbfaaGreatDoorTgJ
set_option maxRecDepth 100000
set_option maxHeartbeats 4000000
namespace Go.Proofs.YtdinjjmcmfjbfaaGreatDoor
open Go.RowKit Mo Pl Tryz
section
variable {Z:Nat→Prop}
theorem QJ (pv:Array Value)(c d:Nat)(ai:pv[11]? =some (.int .i64 (c:Int)))(aj:pv[8]? =some (.int .i64 (d:Int)))(av bv:Value)(a b:Bag)(w:World)(ak:Ct Z w av a)(al:Ct Z w bv b)(b8:a.length≤1000000000)(b9:b.length≤1000000000)(am:∀e∈a,c<e.1.length)(an:∀e∈b,d<e.1.length)(ts us:List Bool)(ao:∀e∈a,e.1.map ty=ts)(ap:∀e∈b,e.1.map ty=us)(_:ts.length≤500)(_:us.length≤500)(aq:∀e∈a,0≤e.2)(ar:∀e∈b,0≤e.2)(au:Mo.Nr a*Mo.Nr b≤1000000000000000000)(aw:(Bw c d a b).length≤1000000000)(ax:Gq Z w) :
 Calls prog 133 #[.agg pv,av,bv] w fun e w'=>∃v,e=.returned v∧L5 Z w (Ad (Bw c d a b)) v w':=by
 have z:xR (Ab No w (w.alloc (.cells pv 204))):=(Ab.refl No w).alloc _;have F:C2 (w.alloc (.cells pv 204)) w.heap.size pv 204:=(MapKept.heap_alloc w _).1;have ay:xR (C3 (w.alloc (.cells pv 204)) w.heap.size 11 (.int .i64 (c:Int))):=(Af F 11).trans ai;have az:xR (C3 (w.alloc (.cells pv 204)) w.heap.size 8 (.int .i64 (d:Int))):=(Af F 8).trans aj;have N:=Aa F;have a0:=Ae ak;have a1:=Ae ax;clear ax;have a2:=Ae al;have ca:=Ae am;have a3:=Ae ao;have a4:=Ae ap;have O:=Ae aq;have P:=Ae ar;have a5:=Ae au;have cb:=Ae aw;obtain⟨a6,a7,a8,a9,ba⟩:=info_parts FL;clear ao ap aq ar au aw;have cc:=Ae an;obtain⟨_,cd,rfl,ce,bb,-⟩:=ak;obtain⟨_,cf,rfl,cg,bc,-⟩:=al;obtain⟨n,Q⟩:∃n,a.length=n:=⟨_,rfl⟩;obtain⟨m,R⟩:∃m,b.length=m:=⟨_,rfl⟩;have bd:=Ae Q;have be:=Ae R;rw[Q] at a0 ce b8⊢;rw[R] at a2 cg b9⊢;have d1:=Bn bb.1
 have d2:=Bn bc.1
 clear Q R bb bc ai aj am an F;go_enter func133,ntmps133;go_wp21;obtain⟨G,S⟩:∃G,w.alloc (.cells pv 204)=G:=⟨_,rfl⟩;rw[S] at z ay az N;rw[S];clear S;go_loopg [7,8] n (fun k A ch wr=>∃i:Nat,i+k=n∧ch=.int .i64 (i:Int)∧xR (Ct Z wr A (Bu (Ja c d a b i 0) []))∧Ab No G wr)
 case atStart=>exact⟨0,by omega,rfl,Ae (by rw[XX];exact Mc _),Ab.refl _ _⟩
 obtain⟨i,_,rfl,hO,H⟩:=hrel;by_cases ci:gk=0
 ·subst ci;have cj:¬(i:Int)<(n:Int):=by omega
  have ck:xR (Ct Z wr u7 (Ad (Bw c d a b))):=by have g:=hO.o;rw[show i=a.length by rw[bd.o];omega,eI,E5 _ (acc:=[]) trivial,vJ] at g;exact g
  have T:=Ae H;clear H;go_wp21;go_ret;exact⟨_,rfl,ck.o,z.o.seq T.o⟩
 obtain⟨k,rfl⟩:=Bx ci;have cj:(i:Int)<(n:Int):=by omega
 have d3:=Bm i
 obtain⟨x,bf⟩:∃x,a[i]? =some x:=⟨_,tT (by have:=bd.o;omega)⟩;have t:=Ae bf;have cl:=Ae hO.o;have T:=Ae H;clear H hO bf;go_wp21;go_loopg [7,9] m (fun k A cm bg=>∃j:Nat,j+k=m∧cm=.int .i64 (j:Int)∧xR (Ct Z bg A (Bu (Ja c d a b i j) []))∧Ab No G bg)
 case atStart=>exact⟨0,by omega,rfl,cl,T.o⟩
 obtain⟨j,_,rfl,I,l⟩:=hrel;by_cases cn:gk=0
 ·subst cn;have co:¬(j:Int)<(m:Int):=by omega
  have B:xR (Ct Z wr u7 (Bu (Ja c d a b (i+1) 0) [])):=by have g:=I.o;rw[show j=b.length by rw[be.o];omega,XY t.o] at g;exact g
  have u:=Ae l;clear l I;go_wp21;go_roundg k
  case measure=>omega
  exact⟨i+1,by omega,by go_num,B,u.o⟩
 obtain⟨bh,rfl⟩:=Bx cn;have co:(j:Int)<(m:Int):=by omega
 have d4:=Bm j
 obtain⟨y,C⟩:∃y,b[j]? =some y:=⟨_,tT (by have:=be.o;omega)⟩;have bi:=ca.o x (tV t.o);have bj:=cc.o y (tV C);have U:=z.o.seq l;obtain⟨_,_,V,_,_,bk⟩:=a0.o.Ag U;injection V with e1 e2 e3;subst e1;obtain⟨cp,cq,_,f,cr,rfl,bl,_,cs,J⟩:=bk i x t.o;obtain⟨_,_,X,_,_,bm⟩:=a2.o.Ag U;injection X with ct cu cv;subst ct;obtain⟨cw,cx,_,h,cy,rfl,Y,cz,c0,K⟩:=bm j y C;obtain⟨_,_,V,c1,bn,-⟩:=id J;injection V with e4 e5 c2;clear e4;obtain⟨_,_,X,c3,bo,-⟩:=id K;injection X with c4 c5 c6;clear c4;obtain⟨D,aa⟩:∃v,x.1[c]? =some v:=⟨_,tT bi⟩;obtain⟨E,ab⟩:∃v,y.1[d]? =some v:=⟨_,tT bj⟩;obtain⟨c7,c8,rfl,_,p0,p1,p2⟩:=J.cells aa;obtain⟨vb,c9,rfl,_,_,_,_⟩:=K.cells ab;have d5:(c:Int)<(f:Int):=by omega
 have d6:(d:Int)<(h:Int):=by omega
 have d7:=Bm c
 have d8:=Bm d
 have d9:=Bn bn.1
 have ea:=Bn bo.1
 have r0:=(l.cell N (o:=11) xT).trans ay.o;have r1:=(l.cell N (o:=8) xT).trans az.o;have bp:xR (x.1.length=f):=by show _=_;omega
 have bq:xR (y.1.length=h):=by show _=_;omega
 have br:=Ae C;have bs:Aj x.1 c=D:=by unfold Aj;rw[uH,aa];rfl
 have bt:Aj y.1 d=E:=by unfold Aj;rw[uH,ab];rfl
 have bu:=Ae bs;have bw:=Ae bt;have da:=Ae J.src;have db:=Ae K;have ac:=a3.o x (tV t.o);have ad:=a4.o y (tV C);have dc:=Ae ac;have dd:=Ae ad;have eb:f≤500:=by have:=congrArg List.length ac;rw[tZ] at this;omega
 have ec:h≤500:=by have:=congrArg List.length ad;rw[tZ] at this;omega
 clear bs bt ac ad;have ed:=tO D E;have ee:=sH;have u:=Ae l;clear l bk bm e2 e3 cu cv e5 c2 c5 c6 U J K aa ab bi bj c1 bn c3 bo C;by_cases hv:D=E
 ·have de:decide (D=E)=true:=by simp[hv]
  have bx:xR (Ja c d a b i (j+1)=Ja c d a b i j++[(x.1++y.1,x.2*y.2)]):=eH t.o br.o (by rw[bu.o,bw.o];exact hv);clear hv;have df:(x.1.flatMap Ir).length=f*3:=by rw[J0,bp.o]
  have dg:(y.1.flatMap Ir).length=h*3:=by rw[J0,bq.o]
  have dh:0+f≤maxLen:=by unfold maxLen;omega
  have di:0+f+h≤maxLen:=by unfold maxLen;omega
  have dj:(0+f)*32≤140737488355328:=by omega
  have dk:(0+f+h)*32≤140737488355328:=by omega
  go_wp21;go_quiet (fail);go_wp2_with (first
   |(at_builtin;refine wpList_append_own_at _ rfl _ _ 211 rfl wr.heap.size 202 a6 (.agg #[.bool false,.int .i64 0,.string ⟨#[]⟩]) 3 32 underlying211 a7 a8 a9 ba rfl (by decide) _ 0 [] rfl (World.ownsRow_nil _ _ _ _) ⟨c7,c8,none⟩ f cr (x.1.flatMap Ir) rfl df da.o (Zv x.1) dh dj (tY _) ?_;intro ef w5 ae bz _ _
     have L:xR (Ab No wr w5):=((Ab.refl No wr).drewN _).grown bz (fun r e=>.inl (Bl (w:=wr) (base:=wr.heap.size) (e:=202) (size:=3) (World.ownsRow_nil _ _ _ _) r e));have eg:=(L.o.cell Y xT).trans cz;have dl:=L.o.size)
   |(at_builtin;refine wpList_append_own_at _ rfl _ _ 211 rfl wr.heap.size 202 a6 (.agg #[.bool false,.int .i64 0,.string ⟨#[]⟩]) 3 32 underlying211 a7 a8 a9 ba rfl (by decide) _ _ _ rfl ae ⟨vb,c9,none⟩ h cy (y.1.flatMap Ir) rfl dg (db.o.Ag L.o).src (Zv y.1) di dk dl ?_;intro af w6 b0 b1 _ _
     have s:xR (Ab No wr w6):=L.o.grown b1 (fun r e=>.inl (Bl ae r e)))
   |fail)
  have dm:xR (Ee Z w6 af (x.1++y.1)):=by refine Ee.I1 (base:=wr.heap.size) ((a1.o.up z.o.size).up u.o.size) ?_;rw[vR,tS,bp.o,bq.o];have:=b0;rw[vJ,uL] at this;exact this
  have dn:xR (∀(W:World) (_:Ab No w6 W),Calls prog 96 #[u7,af,.int .i64 (IntKind.i64.wrap (x.2*y.2))] W fun e w'=>∃v,e=.returned v∧L5 Z W (C5 (x.1++y.1) (x.2*y.2) (Bu (Ja c d a b i j) [])) v w'):=by
   intro W ag;have b2:=CT (c:=c) (d:=d) O.o P.o;have b3:(x.1++y.1,x.2*y.2)∈Bw c d a b:=(Rg c d a b i (j+1)).mem (by rw[bx.o];simp);have eh:x.2*y.2≤1000000000000000000:=(by have g:=FM b2 (List.singleton_sublist.2 b3);have dp:=Xy (n:=c) (m:=d) (Nh O.o) (Nh P.o);have dq:Mo.Nr [(x.1++y.1,x.2*y.2)]=x.2*y.2:=(by show x.2*y.2*1+0=_;omega);have ei:=a5.o;omega);have ej:0≤x.2*y.2:=b2 _ b3;rw[IntWalk.i64_in _ (by omega)];refine Pi u7 af _ _ _ (ts++us) W ((I.o.Ag s.o).Ag ag) (dm.o.Ag ag) (by rw[uF,dc.o,dd.o]) (fun e dr=>?_) (by rw[tS];omega) ?_ (by omega) (QB O.o P.o a5.o i j) (Dd _ trivial) (((((a1.o.up z.o.size).up u.o.size).up s.o.size)).up ag.size)
   ·rcases Jo dr with ⟨ds,ah,_⟩|⟨ds,ah,hze⟩
    ·cases ah
    rw[←hze];obtain⟨p,hp,q,dt,du⟩:=Vf ((Rg c d a b i j).mem ah);rw[du,uF,a3.o p hp,a4.o q dt]
   have g:=Jp (Ja c d a b i j) [];have dp:=(Rg c d a b i j).length_le;have dq:=cb.o;simp at g;omega
  have b4:=(s.o.cell bl xT).trans cs;have b5:=(s.o.cell Y xT).trans c0;have dv:=tU bl s.o.size;have dw:=tU Y s.o.size;clear b0 b1 ae bz
  go_region_held3 (fun w'=>w'.cell? ⟨cp,cq+i*2+1,none⟩=some (.int .i64 x.2)∧w'.cell? ⟨cw,cx+j*2+1,none⟩=some (.int .i64 y.2)) (go_keep)
   (first
     |(go_at_call 96
       go_call dn.o _ (Ab.refl No w6).drew as e b6 ⟨A,rfl,b7,M⟩;have dx:=(M.cell dv xT).trans b4;have dy:=(M.cell dw xT).trans b5;have dz:=Ae b7;have d0:xR (Ab No wr b6):=s.o.drew.seq M;clear M b7))
  have B:xR (Ct Z b6 A (Bu (Ja c d a b i (j+1)) [])):=by rw[bx.o,Ij];exact dz
  clear b4 b5 dx dy;go_wp21;go_roundg bh
  case measure=>omega
  exact⟨j+1,by omega,by go_num,B,u.o.seq d0.o⟩
 have de:decide (D=E)=false:=by simp[hv]
 have B:xR (Ct Z wr u7 (Bu (Ja c d a b i (j+1)) [])):=by rw[XZ t.o br.o (by rw[bu.o,bw.o];exact hv)];exact I
 clear hv;go_wp21;go_quiet (fail);go_wp21;go_roundg bh
 case measure=>omega
 exact⟨j+1,by omega,by go_num,Ae (B.o.Ag ((Ab.refl No wr).drewN _)),u.o.drewN _⟩
end
section
variable {Z:Nat→Prop}
theorem LD (pv:Array Value)(cs:List Nat)(ab:Int)(m:Nat)(Q:Option Addr)(R S:Nat)(cm:pv[2]? =some (.slice Q R S))(cn:pv[3]? =some (.int .u8 ab))(co:pv[8]? =some (.int .i64 (m:Int)))(s:Option Nat)(cp:s=if ab=115 then some m else none)(av:Value)(a:Bag)(w:World)(cq:Ct Z w av a)(cr:Ik Z w (.slice Q R S) cs)
 (eb:a.length≤1000000000) (Gs:∀e∈a,∀c∈cs,c<e.1.length) (ct:cs.length≤6) (ts us:List Bool) (cu:∀e∈a,e.1.map ty=ts) (_:ts.length≤500) (cv:∀e∈a,(Ao cs e.1).map ty=us) (_:us.length≤6) (hr:Ck a) (cw:ab=115→∀e∈a,m<e.1.length) (cx:∀k i,-1000000000000000000≤Rh cs s a k i∧Rh cs s a k i≤1000000000000000000) (cy:∀e∈a,-1000000000000000000≤sv s e.1*e.2∧sv s e.1*e.2≤1000000000000000000) (cz:∀e∈a,-1000000000000000000≤e.2∧e.2≤1000000000000000000) (c0:Gq Z w) :
 Calls prog 134 #[.agg pv,av] w fun e w'=>∃v,e=.returned v∧L5 Z w (Ad (yE cs s a)) v w':=by
 have z:xR (Ab No w (w.alloc (.cells pv 204))):=(Ab.refl No w).alloc _;have al:C2 (w.alloc (.cells pv 204)) w.heap.size pv 204:=(MapKept.heap_alloc w _).1;have bj:xR (C3 (w.alloc (.cells pv 204)) w.heap.size 2 (.slice Q R S)):=(Af al 2).trans cm;have c1:xR (C3 (w.alloc (.cells pv 204)) w.heap.size 3 (.int .u8 ab)):=(Af al 3).trans cn;have c2:xR (C3 (w.alloc (.cells pv 204)) w.heap.size 8 (.int .i64 (m:Int))):=(Af al 8).trans co;have T:=Aa al;have bk:=Ae cq;have am:=Ae c0;clear c0;have c3:=Ae cr;have c4:=Ae Gs;have fv:=Ae cu;have a7:=Ae cv;have bl:=Ae hr;have c5:=Ae ct;obtain⟨_,ec,rfl,ed,c6,-⟩:=cq;obtain⟨n,bm⟩:∃n,a.length=n:=⟨_,rfl⟩;have an:=Ae bm;rw[bm] at bk ed eb⊢;have fw:=Bn c6.1
 have ee:=Ae cw;have c7:=Ae cp;clear cp;have bn:=Ae cx;have ef:=Ae cy;have eg:=Ae cz;obtain⟨a8,a9,bo,bp,bq⟩:=info_parts FL;clear cw cx cy cz;clear bm c6 cm cn co Gs cu al cr cv hr ct;go_enter func134,ntmps134;go_wp21;obtain⟨br,bs⟩:∃br,w.alloc (.cells pv 204)=br:=⟨_,rfl⟩;rw[bs] at z bj c1 c2 T;rw[bs];clear bs;go_loopg [5,6] n (fun k c8 U wr=>∃i:Nat,i+k=n∧U=.int .i64 (i:Int)∧xR (Ct Z wr c8 (Om cs a i))∧Ab No br wr)
 case atStart=>exact⟨0,by omega,rfl,Ae (by rw[QC];exact Mc _),Ab.refl _ _⟩
 obtain⟨i,_,rfl,hO,I⟩:=hrel;by_cases eh:gk=0
 ·subst eh;have ei:¬(i:Int)<(n:Int):=by omega
  have ba:xR (Ct Z wr u5 (Hr cs a)):=by have b:=hO.o;rw[show i=a.length by rw[an.o];omega,Vu bl.o] at b;exact b
  have c9:xR (∀e∈Hr cs a,(e.1.map ty=us)):=fun e p=>by rw[←Vu bl.o] at p;obtain⟨y,bt,e1⟩:=CV p;rw[←e1];exact a7.o y bt
  have bu:xR ((Hr cs a).length≤n):=by show _≤_;rw[←Vu bl.o,←an.o];exact CU _ _ _
  obtain⟨da,ej,rfl,ek,db,-⟩:=id ba.o;have A:=Ae I;clear I hO;generalize dc:Hr cs a=V at *;obtain⟨bb,bv⟩:∃n,V.length=n:=⟨_,rfl⟩;have dd:=Ae bv;rw[bv] at ba ek bu⊢;have bw:=Bn db.1
  have el:=Ae dc;clear bv db dc;obtain⟨ao,bx⟩:∃ao,wr=ao:=⟨_,rfl⟩;rw[bx] at ba A;rw[bx];clear bx;go_wp21;go_loopg [8,9] bb (fun k em en de=>∃j:Nat,j+k=bb∧en=.int .i64 (j:Int)∧xR (Ct Z de em (Vv cs s a V j))∧Ab No ao de)
  case atStart=>exact⟨0,by omega,rfl,Ae (by rw[YB];exact Mc _),Ab.refl _ _⟩
  obtain⟨j,_,rfl,bc,bd⟩:=hrel;by_cases J:gk=0
  ·subst J;have eo:¬(j:Int)<(bb:Int):=(by omega);have ep:xR (Ct Z wr u8 (Ad (yE cs s a))):=(by have b:=bc.o;rw[show j=V.length by rw[dd.o];omega,←el.o,eM] at b;exact b);have B:=Ae bd;clear bd bc;go_wp21;go_ret;exact⟨_,rfl,ep.o,z.o.seq (A.o.seq B.o)⟩
  obtain⟨k,rfl⟩:∃k,gk=k+1:=⟨gk-1,by omega⟩;have eo:(j:Int)<(bb:Int):=by omega
  have fx:=Bm j
  obtain⟨y,be⟩:∃y,V[j]? =some y:=⟨_,tT (by have:=dd.o;omega)⟩;have er:=Ae be;have ap:=Ae (c9.o y (tV be));obtain⟨_,_,C,_,_,K⟩:=ba.o;injection C with e1 e2 e3;subst e1;obtain⟨df,_,ac,g,aq,rfl,bf,dg,es,D⟩:=K j y be;have dh:=Ae D;have bg:=Ae dg;have di:=Ae bc.o;have B:=Ae bd;clear bd bc K e2 e3 be dg es D;obtain⟨bz,b0⟩:∃bz,wr=bz:=⟨_,rfl⟩;rw[b0] at di B;rw[b0];clear b0;go_wp21;go_loopg [10,11] n (fun k et eu ev=>∃(d:Nat) (t:Int),d+k=n∧eu=.int .i64 (d:Int)∧et=.int .i64 t∧xR (t=Rh cs s a y.1 d)∧Ab No bz ev)
  case atStart=>exact⟨0,0,by omega,rfl,rfl,Ae (YA _ _ _ _).symm,Ab.refl _ _⟩
  obtain⟨d,t,_,rfl,rfl,X,ad⟩:=hrel;by_cases ew:gk=0
  ·subst ew;have ex:¬(d:Int)<(n:Int):=(by omega);have l:=B.o.seq ad;have b1:=(l.cell bf xT).trans bg.o;have D:=dh.o.Ag l;have ey:xR (t=M5 cs s a y.1):=(by have b:=X.o;rw[show d=a.length by rw[an.o];omega,eL] at b;exact b);have ae:=Ae (YC (cs:=cs) (s:=s) (a:=a) er.o);have b2:df<wr.heap.size:=tU bf l.size;have L:=Ae ad;have dj:=Ae l;obtain⟨_,_,C,ez,⟨e0,dk,_⟩,dl⟩:=id D;injection C with e4 e5 b3;subst e4 b3;have b4:xR (y.1.length=g):=Ae e5.symm;have fy:g≤6:=(by have:=congrArg List.length ap.o;rw[tZ] at this;omega);have b5:=bn.o y.1 d;rw[←X.o] at b5;have dm:xR (∀W v,W.ownsRow wr.heap.size 202 3 v (g+1) (y.1.flatMap Ir++[.bool true,.int .i64 t,.string ⟨#[]⟩])→Ee Z W v (y.1++[.num t])):=fun W v h=>(by refine Ee.I1 (base:=wr.heap.size) ((am.o.up z.o.size).up (A.o.seq dj.o).size) ?_;rw[vR,tS,b4.o];exact h);have dn:xR (∀(W:World) (v:Value) (_:Ab No wr W) (_:Ee Z W v (y.1++[.num t])),Calls prog 96 #[u8,v,.int .i64 1] W fun e w'=>∃v,e=.returned v∧L5 Z W (Vv cs s a V (j+1)) v w'):=(by intro W v dp hv;rw[ae.o,←ey.o];refine Pi u8 v (Vv cs s a V j) (y.1++[.num t]) 1 (us++[false]) W ((di.o.Ag L.o).Ag dp) hv (by rw[uF,ap.o];rfl) (fun e p=>?_) (by rw[tS,vD];omega) (by have:=eN cs s a V j;have:=bu.o;omega) (by omega) (fun e p=>by have:=QE e p;have:=bu.o;omega) (Dd _ trivial) ((am.o.up z.o.size).up (((A.o.seq dj.o).seq dp).size));obtain⟨b6,e6,e1⟩:=eO p;rw[e1,uF,c9.o b6 e6];rfl);have e7:xR (∀af,ac=some af→∀j dq,(y.1.flatMap Ir)[j]? =some dq→wr.cell? (af.add j)=some dq):=fun af e=>(by subst e;exact D.sI);have e8:0+g≤maxLen:=(by unfold maxLen;omega);have dr:0+g+1≤maxLen:=(by unfold maxLen;omega);have e9:(0+g)*32≤140737488355328:=(by omega);have ds:(0+g+1)*32≤140737488355328:=(by omega);have fa:(y.1.flatMap Ir).length=g*3:=(by rw[J0,b4.o]);have fb:xR (ac=none→y.1=[]):=fun e=>by
    by_cases dt:y.1=[]
    ·exact dt
    obtain⟨_,_,_,_,e1,_⟩:=dl dt;rw[e] at e1;cases e1
   have fc:xR (ac=none→aq=0):=dk;have fz:=Ae b5;clear D dl ad l dk ez e0 e5 b5 X;cases ac with
   |none =>
    obtain rfl:aq=0:=fc.o rfl;have b7:=fb.o rfl;obtain rfl:g=0:=(by rw[←b4.o,b7];rfl);have bg:=Ae b7;clear b7;go_wp2_with (first
     |(at_builtin;refine wpList_append_own_none rfl _ _ 211 rfl wr.heap.size 202 a8 3 underlying211 a9 _ 0 [] rfl (World.ownsRow_nil _ _ _ _) rfl ?_)
     |(at_builtin;refine wpList_append_own_at _ rfl _ _ 211 rfl wr.heap.size 202 a8 (.agg #[.bool false,.int .i64 0,.string ⟨#[]⟩]) 3 32 underlying211 a9 bo bp bq rfl (by decide) _ 0 [] rfl (World.ownsRow_nil _ _ _ _) ⟨wr.heap.size,0,none⟩ 1 1 [.bool true,.int .i64 t,.string ⟨#[]⟩] rfl rfl (Fi wr _ _ _ _) (by simp[Value.oneCell']) dr ds (by simp) ?_;intro U w6 ar au _ _)
     |fail)
    have aw:xR (Ab No wr w6):=((Ab.refl No wr).alloc _).grown au (fun r e=>.inl (Bl (w:=wr) (base:=wr.heap.size) (e:=202) (size:=3) (World.ownsRow_nil _ _ _ _) r e));go_call dn.o w6 U aw.o (dm.o w6 U (by rw[bg.o];exact ar)) as e b8 ⟨fd,rfl,ax,ay⟩;have b9:=Ae ax;have ca:xR (Ab No ao b8):=B.o.seq (L.o.seq (aw.o.seq ay));clear ax ay ar au;go_wp21;go_roundg k
    case measure=>omega
    exact⟨j+1,by omega,by go_num,b9,ca.o⟩
   |some af =>
    go_wp2_with (first
     |(at_builtin;refine wpList_append_own_at _ rfl _ _ 211 rfl wr.heap.size 202 a8 (.agg #[.bool false,.int .i64 0,.string ⟨#[]⟩]) 3 32 underlying211 a9 bo bp bq rfl (by decide) _ 0 [] rfl (World.ownsRow_nil _ _ _ _) af g aq (y.1.flatMap Ir) rfl fa (e7.o af rfl) (Zv y.1) e8 e9 (tY _) ?_;intro c8 w5 cb du _ _
       have dv:xR (Ab No wr w5):=(Ab.refl No wr).grown du (fun r e=>.inl (Bl (w:=wr) (base:=wr.heap.size) (e:=202) (size:=3) (World.ownsRow_nil _ _ _ _) r e));have f0:=dv.o.size)
     |(at_builtin;refine wpList_append_own_at _ rfl _ _ 211 rfl wr.heap.size 202 a8 (.agg #[.bool false,.int .i64 0,.string ⟨#[]⟩]) 3 32 underlying211 a9 bo bp bq rfl (by decide) _ _ _ rfl (cb.alloc _) ⟨w5.heap.size,0,none⟩ 1 1 [.bool true,.int .i64 t,.string ⟨#[]⟩] rfl rfl (Fi w5 _ _ _ _) (by simp[Value.oneCell']) dr ds (by simp;omega) ?_;intro U w6 ar au _ _
       have aw:xR (Ab No wr w6):=(dv.o.alloc _).grown au (fun r e=>.inl (Bl cb r e)))
     |fail)
    go_call dn.o w6 U aw.o (dm.o w6 U (by have:=ar;rw[vJ,uL] at this;exact this)) as e b8 ⟨fd,rfl,ax,ay⟩;have b9:=Ae ax;have ca:xR (Ab No ao b8):=B.o.seq (L.o.seq (aw.o.seq ay));clear ax ay ar au cb du;go_wp21;go_roundg k
    case measure=>omega
    exact⟨j+1,by omega,by go_num,b9,ca.o⟩
  obtain⟨bh,rfl⟩:∃k,gk=k+1:=⟨gk-1,by omega⟩;have ex:(d:Int)<(n:Int):=by omega
  have f1:=Bm d
  obtain⟨x,E⟩:∃x,a[d]? =some x:=⟨_,tT (by have:=an.o;omega)⟩;have l:=B.o.seq ad;have M:=A.o.seq l;have Y:=z.o.seq M;obtain⟨_,_,C,_,_,K⟩:=bk.o.Ag Y;injection C with e1 e2 e3;subst e1;obtain⟨az,a0,a1,N,ag,rfl,a2,aa,cc,ah⟩:=K d x E;have r0:=(M.cell T (o:=2) xT).trans bj.o;have fe:=(M.cell T (o:=3) xT).trans c1.o;have ff:=(M.cell T (o:=8) xT).trans c2.o;have b1:=(l.cell bf xT).trans bg.o;have D:=dh.o.Ag l;have q:=tV E;have a3:=Ae (fun w1 (k:Ab No wr w1)=>Vs (.slice a1 N ag) (.slice Q R S) x.1 cs w1 (ah.Ag k) ((c3.o.Ag Y).Ag k) (c4.o x q) (by have:=c5.o;omega) ((am.o.up z.o.size).up (by first|exact (M.seq k).size|exact (I.seq k).size)));have ae:=Ae (CW (cs:=cs) (s:=s) (k:=y.1) E);have a4:=Ae (a7.o x q);have dw:=Ae ah;have fg:=Ae (ef.o x q);have f2:=Ae (eg.o x q);have dx:=Ae (fun h=>ee.o h x q);have L:=Ae ad;have cd:w.heap.size<wr.heap.size:=tU T M.size;have b2:df<wr.heap.size:=tU bf l.size;have dy:=Ae D;clear ad K e2 e3 Y M l E ah D q;go_wp21
  go_region_held (fun w'=>w'.cell? ⟨az,a0+d*2,none⟩=some (.slice a1 N ag)∧w'.cell? ⟨w.heap.size,2,none⟩=some (.slice Q R S)) (first|exact⟨aa,r0⟩|go_keep)
   (first
     |(go_at_call 135;go_call a3.o _ (Ab.refl No wr).drew as e w1 ⟨ce,rfl,u,a5⟩;have f:Ab No wr w1:=(Ab.refl No wr).drew.seq a5;have dz:=(f.cell a2 xT).trans aa;have d0:=(f.cell cd xT).trans r0;clear a5)
     |fail)
  have d1:=Ae u;have bi:=Ae f;obtain⟨d2,d3,rfl⟩:∃a c,ce=.slice a (Ao cs x.1).length c:=by obtain⟨a,c,e,_⟩:=u;exact⟨_,_,e⟩
  have cf:=Ae (fun F (k:Ab No w1 F)=>Kg (.slice d2 (Ao cs x.1).length d3) (.slice ac g aq) (Ao cs x.1) y.1 F (u.Ag k) (dy.o.Ag (f.seq k)) (a4.o.trans ap.o.symm) (by have:=congrArg List.length a4.o;rw[tZ] at this;omega));have cg:=Ae (fun F (k:Ab No w1 F)=>Kg (.slice ac g aq) (.slice d2 (Ao cs x.1).length d3) y.1 (Ao cs x.1) F (dy.o.Ag (f.seq k)) (u.Ag k) (ap.o.trans a4.o.symm) (by have:=congrArg List.length ap.o;rw[tZ] at this;omega));generalize (Ao cs x.1).length=fh at cf cg⊢;have fi:=(f.cell b2 xT).trans b1;clear u f a3 dz d0;go_wp21;go_call cf.o w1 (Ab.refl _ _) as e F ⟨rfl,J⟩;have d4:=Ae (bi.o.seq J);have fj:=(d4.o.cell b2 xT).trans b1;have d5:=Ae (cg.o F J);clear J cf cg fi;go_wp21;go_call d5.o as e w3 ⟨rfl,bw⟩;have G:=Ae (d4.o.seq bw);clear bw d5 fj;by_cases O:Ao cs x.1=y.1
  ·have ch:Ju (Ao cs x.1) y.1=false:=(by rw[O];exact Do.irrefl _);have ci:Ju y.1 (Ao cs x.1)=false:=(by rw[O];exact Do.irrefl _);rw[ch,ci];have P:=ae.o;rw[if_pos O] at P;have fk:=(G.o.cell a2 xT).trans cc;have fl:=(G.o.cell a2 xT).trans aa;have f3:=(G.o.cell cd xT).trans fe;have fm:=(G.o.cell cd xT).trans ff;by_cases ai:ab=115
   ·have aj:s=some m:=(by rw[c7.o,if_pos ai]);obtain⟨ak,cj⟩:∃v,x.1[m]? =some v:=⟨_,tT (dx.o ai)⟩;obtain⟨_,_,C,fn,d6,-⟩:=id dw.o;injection C with e4 e5 b3;clear e4;have fo:=dx.o ai;obtain⟨d7,d8,rfl,fp,p0,p1,p2⟩:=dw.o.cells cj;have fq:=(G.o.cell fp xT).trans p1;have f4:(m:Int)<(N:Int):=(by omega);have f5:=Bm m;have f6:=Bn d6.1;have ck:sv s x.1=uN ak:=(by rw[aj];show aB (Aj x.1 m)=_;have:Aj x.1 m=ak:=(by unfold Aj;rw[uH,cj];rfl);rw[this];cases ak <;> rfl);have a6:IntKind.i64.wrap (t+IntKind.i64.wrap (uN ak*x.2))=Rh cs s a y.1 (d+1):=(by have b:=bn.o y.1 (d+1);have H:=fg.o;rw[ck] at H;rw[P,ck] at b⊢;rw[←X.o] at b⊢;generalize uN ak*x.2=b6 at b H⊢;rw[IntWalk.i64_in b6 (by omega),IntWalk.i64_in _ (by omega)]);have cl:=Ae a6;subst ai;clear a6 P ch ci O aj ck p0 p1 p2 cj fn d6 e5 b3 fo;go_wp21;go_region_held (fun w'=>w'.cell? ⟨az,a0+d*2,none⟩=some (.slice (some ⟨d7,d8,none⟩) N ag)∧w'.cell? ⟨az,a0+d*2+1,none⟩=some (.int .i64 x.2)∧w'.cell? ⟨w.heap.size,8,none⟩=some (.int .i64 (m:Int))∧w'.cell? ⟨d7,d8+m*3+1,none⟩=some (.int .i64 (uN ak))) (first|exact⟨fl,fk,fm,fq⟩|go_keep) (fail);go_wp21;go_roundg bh
    case measure=>omega
    exact⟨d+1,_,by omega,by go_num,rfl,cl,L.o.seq G.o.drew⟩
   have aj:s=none:=(by rw[c7.o,if_neg ai]);have f7:(ab == 115)=false:=(by simpa using ai);have a6:wrap64 (t+x.2)=Rh cs s a y.1 (d+1):=(by have b:=bn.o y.1 (d+1);rw[P,aj] at b⊢;rw[X.o,aj];rw[X.o] at *;have H:sv none x.1*x.2=x.2:=(by show 1*x.2=x.2;omega);rw[H] at b⊢;unfold wrap64;omega);have cl:=Ae a6;clear a6 P ch ci O aj;go_wp21;go_roundg bh
   case measure=>omega
   exact⟨d+1,_,by omega,by go_num,rfl,cl,L.o.seq G.o⟩
  have d9:xR (t=Rh cs s a y.1 (d+1)):=by have P:=ae.o;rw[if_neg O] at P;show t=_;rw[P,X.o];omega
  have fr:Ju (Ao cs x.1) y.1=true∨Ju (Ao cs x.1) y.1=false∧Ju y.1 (Ao cs x.1)=true:=by
   cases b:Ju (Ao cs x.1) y.1
   ·cases H:Ju y.1 (Ao cs x.1)
    ·exact absurd (Do.tri _ _ b H) O
    exact .inr ⟨rfl,rfl⟩
   exact .inl rfl
  clear O;rcases fr with b|⟨b,H⟩
  ·rw[b];generalize Ju y.1 (Ao cs x.1)=f8;clear b;go_wp21;go_roundg bh
   case measure=>omega
   exact⟨d+1,_,by omega,by go_num,rfl,d9,L.o.seq G.o⟩
  rw[b,H];clear b H;go_wp21;go_roundg bh
  case measure=>omega
  exact⟨d+1,_,by omega,by go_num,rfl,d9,L.o.seq G.o⟩
 obtain⟨k,rfl⟩:∃k,gk=k+1:=⟨gk-1,by omega⟩;have ei:(i:Int)<(n:Int):=by omega
 have f9:=Bm i
 obtain⟨x,E⟩:∃x,a[i]? =some x:=⟨_,tT (by have:=an.o;omega)⟩;have Y:=z.o.seq I;obtain⟨_,_,C,_,_,K⟩:=bk.o.Ag Y;injection C with e1 e2 e3;subst e1;obtain⟨az,a0,a1,N,ag,rfl,a2,aa,cc,ah⟩:=K i x E;have r0:=(I.cell T (o:=2) xT).trans bj.o;have q:=tV E;have a3:=Ae (fun w1 (k:Ab No wr w1)=>Vs (.slice a1 N ag) (.slice Q R S) x.1 cs w1 (ah.Ag k) ((c3.o.Ag Y).Ag k) (c4.o x q) (by have:=c5.o;omega) ((am.o.up z.o.size).up (by first|exact (M.seq k).size|exact (I.seq k).size)));have ae:=Ae (QD (cs:=cs) E);have a4:=Ae (a7.o x q);have A:=Ae I;clear I K e2 e3 Y E cc ah q;go_wp21
 go_region_held (fun w'=>w'.cell? ⟨az,a0+i*2,none⟩=some (.slice a1 N ag)∧w'.cell? ⟨w.heap.size,2,none⟩=some (.slice Q R S)) (first|exact⟨aa,r0⟩|go_keep)
  (first
    |(go_at_call 135;go_call a3.o _ (Ab.refl No wr).drew as e w1 ⟨ce,rfl,u,a5⟩;have f:Ab No wr w1:=(Ab.refl No wr).drew.seq a5;have dz:=(f.cell a2 xT).trans aa;have d0:=(f.cell (tU T A.o.size) xT).trans r0;clear a5)
    |fail)
 have d1:=Ae u;have bi:=Ae (A.o.seq f);obtain⟨da,fs,rfl⟩:∃a c,ce=.slice a (Ao cs x.1).length c:=by obtain⟨a,c,e,_⟩:=u;exact⟨_,_,e⟩
 have HAdd:=Ae (Pi u5 (.slice da (Ao cs x.1).length fs) (Om cs a i) (Ao cs x.1) 1 us w1 (hO.o.Ag f) u a4.o (fun e p=>by obtain⟨y,bt,e1⟩:=CV p;rw[←e1];exact a7.o y bt) (by omega) (by have:=CU cs a i;omega) (by omega) (fun e p=>by have:=LA e p;omega) (Dd _ trivial) ((am.o.up z.o.size).up bi.o.size));generalize (Ao cs x.1).length=fh at d1 HAdd⊢;clear u f a3 A hO aa r0;go_wp21;go_call HAdd.o as e F ⟨ft,rfl,ea,J⟩;have fu:xR (Ct Z F ft (Om cs a (i+1))):=by rw[ae.o];exact ea
 have B:=Ae (bi.o.seq J);clear ea J HAdd;go_wp21;go_roundg k
 case measure=>omega
 exact⟨i+1,by omega,by go_num,fu,B.o⟩
end
section
variable {Z:Nat→Prop}
structure UT where
 name:List UInt8
 tys:List UInt8
 rows:Bag
def My (Z:Nat→Prop)(w:World)(v:Value)(ts:List UT):Prop:=∃a cap,v=.slice a ts.length cap∧ts.length≤cap∧cap≤maxLen ∧
 ∀i t,ts[i]? =some t→∃b o p n c,a=some ⟨b,o,none⟩∧b<w.heap.size∧w.cell? ⟨b,o+i*3,none⟩=some (.string ⟨t.name.toArray⟩)∧w.cell? ⟨b,o+i*3+1,none⟩=some (.string ⟨t.tys.toArray⟩)∧w.cell? ⟨b,o+i*3+2,none⟩=some (.slice p n c)∧Ct Z w (.slice p n c) t.rows
theorem My.Ag {w w':World}{v:Value}{ts:List UT}(h:My Z w v ts)(k:Ab No w w'):My Z w' v ts:=by
 obtain⟨a,cap,e,f,g,j⟩:=h;refine⟨a,cap,e,f,g,fun i t l=>?_⟩;obtain⟨b,o,p,n,c,e1,d,m,c1,c2,hr⟩:=j i t l;exact⟨b,o,p,n,c,e1,tU d k.size,(k.cell d xT).trans m,(k.cell d xT).trans c1,(k.cell d xT).trans c2,hr.Ag k⟩
def CZ (ts:List UT)(nm:List UInt8):Int:=Bz (ts.map fun t=>(0,t.name)) nm
theorem Jq (v:Value)(ts:List UT)(nm:List UInt8)(w:World)(h:My Z w v ts)(y:ts.length≤1000) :
 Calls prog 89 #[v,.string ⟨nm.toArray⟩] w fun e w'=>e=.returned (.int .i64 (CZ ts nm))∧Ab No w w':=by
 have q:=Ae h;obtain⟨a,cap,rfl,z,r,-⟩:=h;obtain⟨n,c⟩:∃n,ts.length=n:=⟨_,rfl⟩;have A:=Ae c;have B:xR ((ts.map fun t=>((0:Nat),t.name)).length=n):=by show _=_;rw[tZ];exact c
 rw[c] at z y;rw[c] at q;rw[c];clear c;have I:=Bn r
 clear r;go_enter func89,ntmps89;go_wp21;go_loopg [5] n (fun k C wr=>∃i:Nat,i+k=n∧C=.int .i64 (i:Int)∧xR (Of (ts.map fun t=>(0,t.name)) nm i=CZ ts nm)∧Ab No w wr)
 case atStart=>exact⟨0,by omega,rfl,Ae (Y9 _ nm),Ab.refl _ _⟩
 obtain⟨i,_,rfl,j,f⟩:=hrel;by_cases D:gk=0
 ·subst D;have E:¬(i:Int)<(n:Int):=by omega
  have l:xR (CZ ts nm= -1):=by show _=_;rw[←j.o,show i=(ts.map fun t=>((0:Nat),t.name)).length by rw[B.o];omega];exact CB _ nm
  have g:=Ae f;clear f;go_wp21;go_ret;exact⟨Bo l.o.symm,g.o⟩
 obtain⟨k,rfl⟩:=Bx D;have E:(i:Int)<(n:Int):=by omega
 have J:=Bm i
 obtain⟨t,m⟩:∃t,ts[i]? =some t:=⟨_,tT (by have:=A.o;omega)⟩;obtain⟨_,_,F,_,_,s⟩:=q.o.Ag f;injection F with e1 e2 e3;subst e1;obtain⟨b,o,p,_,_,rfl,_,_,c1,c2,-⟩:=s i t m;have u:(ts.map fun t=>((0:Nat),t.name))[i]? =some (0,t.name):=by rw[tX,m];rfl
 have x:=Ae u;have g:=Ae f;clear f s e2 e3 m u c1 c2;by_cases d:t.name=nm
 ·have G:(t.name == nm)=true:=by simp[d]
  have l:xR (CZ ts nm=i):=by show _=_;rw[←j.o];exact CA x.o d
  clear d;go_wp21;go_ret;exact⟨Bo l.o.symm,g.o⟩
 have G:(t.name == nm)=false:=by simp[d]
 have H:xR (Of (ts.map fun t=>(0,t.name)) nm (i+1)=CZ ts nm):=by show _=_;rw[←j.o];exact (Y8 x.o d).symm
 clear d;go_wp21;go_roundg k
 case measure=>omega
 exact⟨i+1,by omega,by go_num,H,g.o⟩
end
section
variable {Z Z' S:Nat→Prop} {w w':World} {v:Value}
theorem kQ.Ni {a:Option Addr}{n cap:Nat}(h:kQ Z a n cap)(d:0<n→∀b o,a=some ⟨b,o,none⟩→Z' b→Z b):kQ Z' a n cap:=⟨h.1,fun c b o e f=>h.2 c b o e (d c b o e f)⟩
theorem FQ {α:Type}{l:List α}{i:Nat}{x:α}(h:l[i]? =some x):0<l.length:=Nat.lt_of_le_of_lt (vM i) (tR.1 h).1
theorem FR {α:Type}{l:List α}(h:0<l.length):∃x,l[0]? =some x:=⟨_,tT h⟩
theorem Ee.Ni {r:Row}(h:Ee Z w v r)(f:∀k,k<w.heap.size→Z' k→Z k):Ee Z' w v r:=by
 obtain⟨a,cap,e,g,⟨i,j⟩,d⟩:=h;refine⟨a,cap,e,g,⟨i,j.Ni fun hp b o e1 l=>f b ?_ l⟩,d⟩;obtain⟨b',_,c,_,e2,m,_⟩:=d (xI.1 hp);rw[e1] at e2;injection e2 with e2;injection e2 with e2 _;rw[e2];exact Aa m
theorem Ee.Cc {r:Row}(h:Ee Z w v r)(k:Ab S w w')(g:∀i,S i→Z i):Ee Z w' v r:=by
 obtain⟨a,cap,e,j,⟨l,d⟩,m⟩:=h;refine⟨a,cap,e,j,⟨l,d⟩,fun hr=>?_⟩;obtain⟨b,o,c,n,e1,f,p⟩:=m hr;exact⟨b,o,c,n,e1,(k.block b (Aa f) (fun s=>d.2 (xI.2 hr) b o e1 (g b s))).trans f,p⟩
theorem Ct.Ni {l:Bag}(h:Ct Z w v l)(g:∀k,k<w.heap.size→Z' k→Z k):Ct Z' w v l:=by
 obtain⟨a,cap,e,m,⟨q,r⟩,j⟩:=h;refine⟨a,cap,e,m,⟨q,r.Ni fun hp b o e1 s=>g b ?_ s⟩,fun i x d=>?_⟩
 ·obtain⟨x,d⟩:=FR hp;obtain⟨b',_,p,n,c,e2,f,_⟩:=j 0 x d;rw[e1] at e2;injection e2 with e2;injection e2 with e2 _;rw[e2];exact f
 obtain⟨b,o,p,n,c,e1,f,t,c1,hr⟩:=j i x d;exact⟨b,o,p,n,c,e1,f,t,c1,hr.Ni g⟩
theorem Ct.Cc {l:Bag}(h:Ct Z w v l)(k:Ab S w w')(f:∀i,S i→Z i):Ct Z w' v l:=by
 obtain⟨a,cap,e,m,⟨q,g⟩,r⟩:=h;refine⟨a,cap,e,m,⟨q,g⟩,fun i x t=>?_⟩;obtain⟨b,o,p,n,c,e1,d,u,c1,hr⟩:=r i x t;have j:¬S b:=fun s=>g.2 (FQ (by assumption)) b o e1 (f b s);exact⟨b,o,p,n,c,e1,tU d k.size,(k.cell d j).trans u,(k.cell d j).trans c1,hr.Cc k f⟩
theorem Ik.Ni {cs:List Nat}(h:Ik Z w v cs)(d:∀k,k<w.heap.size→Z' k→Z k):Ik Z' w v cs:=by
 obtain⟨a,cap,e,f,⟨g,i⟩,c⟩:=h;refine⟨a,cap,e,f,⟨g,i.Ni fun hp b o e1 j=>d b ?_ j⟩,c⟩;obtain⟨x,l⟩:=FR hp;obtain⟨b',_,e2,m,_⟩:=c 0 x l;rw[e1] at e2;injection e2 with e2;injection e2 with e2 _;rw[e2];exact m
theorem Ik.Cc {cs:List Nat}(h:Ik Z w v cs)(k:Ab S w w')(j:∀i,S i→Z i):Ik Z w' v cs:=by
 obtain⟨a,cap,e,l,⟨m,d⟩,n⟩:=h;refine⟨a,cap,e,l,⟨m,d⟩,fun i c f=>?_⟩;obtain⟨b,o,e1,g,p⟩:=n i c f;exact⟨b,o,e1,tU g k.size,(k.cell g (fun s=>d.2 (FQ f) b o e1 (j b s))).trans p⟩
theorem Hn.Ni {T:List Q}(h:Hn Z w v T)(d:∀k,k<w.heap.size→Z' k→Z k):Hn Z' w v T:=by
 obtain⟨a,cap,e,g,⟨j,l⟩,f⟩:=h;refine⟨a,cap,e,g,⟨j,l.Ni fun hp b o e1 m=>d b ?_ m⟩,fun i q n=>?_⟩
 ·obtain⟨x,r⟩:=FR hp;obtain⟨b',_,p,cv,e2,c,_⟩:=f 0 x r;rw[e1] at e2;injection e2 with e2;injection e2 with e2 _;rw[e2];exact c
 obtain⟨b,o,p,cv,e1,c,s,t,hp,u⟩:=f i q n;exact⟨b,o,p,cv,e1,c,s,t.Ni d,hp,u⟩
theorem Hn.Cc {T:List Q}(h:Hn Z w v T)(k:Ab S w w')(c:∀i,S i→Z i):Hn Z w' v T:=by
 obtain⟨a,cap,e,g,⟨l,d⟩,m⟩:=h;refine⟨a,cap,e,g,⟨l,d⟩,fun i q n=>?_⟩;obtain⟨b,o,p,cv,e1,f,r,t,hp,u⟩:=m i q n;have y:¬S b:=fun s=>d.2 (FQ (by assumption)) b o e1 (c b s);exact⟨b,o,p,cv,e1,tU f k.size,fun j x z=>(k.cell f y).trans (r j x z),t.Cc k c,hp,u⟩
theorem My.Ni {ts:List UT}(h:My Z w v ts)(d:∀k,k<w.heap.size→Z' k→Z k):My Z' w v ts:=by
 obtain⟨a,cap,e,f,g,j⟩:=h;refine⟨a,cap,e,f,g,fun i t l=>?_⟩;obtain⟨b,o,p,n,c,e1,m,q,c1,c2,hr⟩:=j i t l;exact⟨b,o,p,n,c,e1,m,q,c1,c2,hr.Ni d⟩
end
section
variable {Z:Nat→Prop}
theorem eU:(prog.info? 195).map (fun i=>(i.zero,i.size,i.bytes))=some (some (.slice none 0 0),1,24):=by kernel_rfl
def Cz (Z:Nat→Prop)(w:World)(vs:List Value)(ls:List Bag):Prop:=vs.length=ls.length∧∀(k:Nat) (l:Bag),ls[k]? =some l→∃p n c,vs[k]? =some (.slice p n c)∧Ct Z w (.slice p n c) l
theorem Cz.Ag {w w':World}{vs:List Value}{a:List Bag}(h:Cz Z w vs a)(k:Ab No w w'):Cz Z w' vs a:=⟨h.1,fun i l b=>by
 obtain⟨p,n,c,e,d⟩:=h.2 i l b;exact⟨p,n,c,e,d.Ag k⟩⟩
theorem Cz.push {w:World}{vs:List Value}{d:List Bag}(h:Cz Z w vs d){v:Value}{l:Bag}(f:Ct Z w v l):Cz Z w (vs++[v]) (d++[l]):=by
 refine⟨by simp[h.1],fun k m b=>?_⟩;by_cases g:k<d.length
 ·rw[uD g] at b;obtain⟨p,n,c,e,f⟩:=h.2 k m b;exact⟨p,n,c,by rw[uD (by rw[h.1];exact g)];exact e,f⟩
 rw[uC (by omega)] at b;have i:k-d.length=0:=by have:=(tR.1 b).1;simp at this;omega
 rw[i] at b;have:l=m:=by simpa using b
 subst this;obtain⟨a,cap,e,_⟩:=id f;refine⟨a,l.length,cap,?_,e ▸ f⟩;rw[uC (by rw[h.1];omega),h.1,i,e];rfl
theorem DA {w:World}{base:Nat}{e:TypeId}{a:Option Addr}{n m c:Nat}{xs:List Value}(h:w.ownsRow base e 1 (.slice a m c) n xs){k:Nat}{d:Value}(b:xs[k]? =some d):∃g o,a=some ⟨g,o,none⟩∧g<w.heap.size∧k<n∧m=n∧n≤c∧c≤maxLen∧w.cell? ⟨g,o+k,none⟩=some d:=by
 rcases h with ⟨f,⟨i,j⟩|⟨g,cap,_,i,_,hg,l,p,_,q⟩⟩
 ·subst j;have:=(tR.1 b).1;rw[f] at this;omega
 injection i with e1 e2 e3;subst e1 e2 e3;refine⟨g,0,rfl,Aa hg,?_,rfl,l,p,?_⟩
 ·have:=(tR.1 b).1;rw[f] at this;omega
 rw[←q,uQ] at b;split at b
 ·rw[Af hg,uL,←uZ];exact b
 cases b
def Zp (Z:Nat→Prop)(v:Value):Nat→Prop:=fun k=>Z k∨v.ownBlock=some k
theorem Cz.Ni {Z':Nat→Prop}{w:World}{vs:List Value}{a:List Bag}(h:Cz Z w vs a)(b:∀k,k<w.heap.size→Z' k→Z k):Cz Z' w vs a:=⟨h.1,fun i l d=>by
 obtain⟨p,n,c,e,f⟩:=h.2 i l d;exact⟨p,n,c,e,f.Ni b⟩⟩
theorem Cz.Cc {S:Nat→Prop}{w w':World}{vs:List Value}{a:List Bag}(h:Cz Z w vs a)(k:Ab S w w')(b:∀i,S i→Z i):Cz Z w' vs a:=⟨h.1,fun i l d=>by
 obtain⟨p,n,c,e,f⟩:=h.2 i l d;exact⟨p,n,c,e,f.Cc k b⟩⟩
theorem QK {g:Row×Int→Option (Row×Int)}{A:Bag}{us:List Bool}(_:A.length≤400000000)(b:∀e∈A,∀x,g e=some x→x.1.map ty=us∧0≤x.2∧x.2≤3000000000000)(f:Nr (A.filterMap g)≤1000000000000000000)(_:us.length≤6){j:Nat}{e x:Row×Int}(c:A[j]? =some e)(a:g e=some x)(W:World)(ov d:Value)(ho:Ct Z W ov (Bu (dl g A j) []))(hr:Ee Z W d x.1)(h:Gq Z W) :
 Calls prog 96 #[ov,d,.int .i64 x.2] W fun e w'=>∃v,e=.returned v∧L5 Z W (Bu (dl g A (j+1)) []) v w':=by
 have q:=(tR.1 c).1;have i:=b e (tV c) x a;rw[kV c a,Ij];refine Pi ov d _ x.1 x.2 us W ho hr i.1 (fun y k=>?_) (by omega) (by have:=QG g A j;omega) (by omega) (eQ (fun e l x a=>(b e l x a).2.1) f j) (Dd _ trivial) h;obtain⟨m,n,o,p,e1⟩:=QH k;rw[←e1];exact (b m n o p).1
theorem kX {A B:Bag}{us:List Bool}(_:A.length≤400000000)(hB:B.length≤400000000)(h:Ck A)(i:∀e∈A,e.1.map ty=us∧1≤e.2∧e.2≤3000000000000)(b:∀e∈B,e.1.map ty=us∧1≤e.2∧e.2≤3000000000000)(_:Nr A+Nr B≤1000000000000000000)(_:us.length≤6){j:Nat}{e:Row×Int}(c:B[j]? =some e)(W:World)(ov d:Value)(ho:Ct Z W ov (Bu (B.take j) A))(hr:Ee Z W d e.1)(k:Gq Z W) :
 Calls prog 96 #[ov,d,.int .i64 e.2] W fun e w'=>∃v,e=.returned v∧L5 Z W (Bu (B.take (j+1)) A) v w':=by
 have o:=(tR.1 c).1;have l:=b e (tV c);rw[uI,c,show (some e).toList=[e] from rfl,Ij];refine Pi ov d _ e.1 e.2 us W ho hr l.1 (fun y n=>?_) (by omega) ?_ (by omega) ?_ (Dd _ h) k
 ·rcases Jo n with ⟨f,g,e1⟩|⟨f,g,e1⟩
  ·rw[←e1];exact (i f g).1
  rw[←e1];exact (b f (vY g)).1
 ·have:=Jp (B.take j) A;rw[uV] at this;omega
 refine Zt h (fun e a=>by have:=(i e a).2.1;omega) (fun e a=>by have:=(b e (vY a)).2.1;omega) ?_;have:=FM (m:=B) (fun e a=>by have:=(b e a).2.1;omega) (List.take_sublist j B);omega
theorem Po (n m:Nat)(b:Bag):∀a:Bag,(Bw n m a b).length≤a.length*b.length
 | []=>vM _
 |x::a=>by have c:=Po n m b a;unfold Bw at c⊢;rw[uX,tS,tZ,uO,Nat.succ_mul];have:(Cw (fun y=>decide (Aj x.1 n=Aj y m)) b).length≤b.length:=wE _ _;omega
end
end Go.Proofs.YtdinjjmcmfjbfaaGreatDoor
