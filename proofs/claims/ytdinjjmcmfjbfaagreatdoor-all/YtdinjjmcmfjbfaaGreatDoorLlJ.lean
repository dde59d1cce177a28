import Derived.Test.YtdinjjmcmfjbfaaGreatDoorTgJ
set_option maxRecDepth 100000
set_option maxHeartbeats 4000000
namespace Go.Proofs.YtdinjjmcmfjbfaaGreatDoor
open Go.RowKit Go.Shelf Mo Pl Tryz
theorem JT (ty:TypeId)(a:Addr)(w:World) :
 Calls prog 47 #[.map none,.iface ty (.pointer (some a))] w fun e w'=>e=.returned (.tuple #[])∧w'=w:=by
 go_enter func47,ntmps47;go_wp21;go_end0;exact⟨rfl,rfl⟩
theorem OK (b c:Nat)(w:World)(Q:Ending→World→Prop)(h:Calls prog 66 #[.pointer (some ⟨b,1,none⟩),.map (some c)] w fun e w1=>e=.returned (.tuple #[])∧Calls prog 250 #[C1 b,.map (some c)] w1 fun e a=>e=.returned (.tuple #[])∧Q e a) :
 Calls prog 251 #[C1 b,.map (some c)] w Q:=by
 have d:=Ae h;clear h;go_enter func251,ntmps251;go_wp21;go_call d.o as e w1 ⟨rfl,f⟩;have g:=Ae f;clear f d;go_wp21;go_call g.o as e a ⟨rfl,i⟩;have j:=Ae i;clear i g;go_wp21;go_end0;exact j.o
theorem cP:M9 101 251:=⟨fun _ _=>by kernel_rfl,fun _ _=>by kernel_rfl,enters_of func251 (by kernel_rfl) rfl⟩
theorem Vm:∀(ts:List (Nat×List UInt8)) (nm:List UInt8) (i:Nat),Bz ts nm=(i:Int)→∃x,ts[i]? =some x∧x.2=nm
 | [],nm,i,h=>by simp only[Bz] at h;omega
 |x::ts,nm,i,h=>by
  simp only[Bz] at h;by_cases a:x.2=nm
  ·rw[if_pos a] at h;have:i=0:=(by omega);subst this;exact⟨x,rfl,a⟩
  rw[if_neg a] at h;have hg:=Oe ts nm;by_cases b:Bz ts nm= -1
  ·rw[if_pos b] at h;omega
  rw[if_neg b] at h;obtain⟨k,rfl⟩:∃k,i=k+1:=⟨i-1,by omega⟩;obtain⟨y,c,d⟩:=Vm ts nm k (by omega);exact⟨y,by simpa using c,d⟩
theorem WE (P:Nat)(h:Hd)(t:h.k=1)(lv iv v:Value)(ts:List (Nat×List UInt8))(i:Nat)(tb:Nat)(ty:TypeId)(p:Addr)(w:World)(Q:Ending→World→Prop)(d:C2 w P (Bb h lv iv) 139)(f:Gy w v ts)(u:ts.length≤1000)(hf:Bz ts h.nm=(i:Int))(hi:ts[i]? =some (tb,h.nm))
 (m:∀w1,Ab No w w1→Calls prog 64 #[C1 tb,.iface ty (.pointer (some p))] w1 fun e g=>e=.returned (.tuple #[])∧∃j,C3 g tb 1 (.map j)∧Calls prog 47 #[.map j,.iface ty (.pointer (some p))] g fun e w3=>e=.returned (.tuple #[])∧Q e w3) :
 Calls prog 39 #[v,C1 P,.iface ty (.pointer (some p))] w Q:=by
 have n:=(Ay d).1;rw[t] at n;have x:=(Ay d).2.2.2.2.2.2.2;have k:=Ae (Kb v ts h.nm w f u);rw[hf] at k;have E:=Ae f;have F:=Ae hi;have y:=Ae m;have G:i<ts.length:=(tR.1 hi).1;obtain⟨a,cap,rfl,_,q,r⟩:=f;obtain⟨b,o,rfl,z,_,A,_⟩:=r i _ hi;have H:=Bn q
 have I:=Bm i
 have J:(i:Int)<(ts.length:Int):=by omega
 have B:=Ae A;clear d hf hi m r q;go_enter func39,ntmps39;go_wp21;go_call k.o as e w1 ⟨rfl,l⟩;have c1:C3 w1 b (o+i) (C1 tb):=(l.cell z xT).trans B.o;have s:=Ae (y.o w1 l);clear l n x k;go_wp21;go_call s.o as e g ⟨rfl,j,C,c⟩;have HD:=Ae c;clear c s c1;go_wp21;go_call HD.o as e w3 ⟨rfl,c⟩;have D:=Ae c;clear c HD C;go_wp21;go_end0;exact D.o
def Wc (w:World)(iv:Value)(ps:List Nat):Prop:=∃g cap cs z,iv=.slice (some ⟨g,0,none⟩) ps.length cap∧w.heap[g]? =some (.cells cs 69 z)∧∀(i:Nat) (x:Nat),ps[i]? =some x→cs[i]? =some (pV x)
theorem OL (P:Nat)(h:Hd)(_:h.k≠1)(lv iv v:Value)(p1:Nat)(ty:TypeId)(p:Addr)(w:World)(Q:Ending→World→Prop)(a:C2 w P (Bb h lv iv) 139)(B:Wc w iv [p1])(d:TypeId)(a1:Nat→Addr)(tb:TypeId)(f:Array Value)
 (g:Calls prog 65 #[C1 P,.iface ty (.pointer (some p))] w (Ul tb f (.iface ty (.pointer (some p))) (fun b=>[.iface d (.pointer (some (a1 b)))]) w))
 (i:∀w1 v',C2 w1 w.heap.size (f.setIfInBounds 0 v') tb→w1.ownsRow 0 143 1 v' 1 [.iface ty (.pointer (some p))]→(∀k,v'.ownBlock=some k→w.heap.size<k)→Ab No w w1 →
   Calls prog 39 #[v,pV p1,.iface d (.pointer (some (a1 w.heap.size)))] w1 fun e j=>e=.returned (.tuple #[])∧Q e j) :
 Calls prog 39 #[v,C1 P,.iface ty (.pointer (some p))] w Q:=by
 have C:=(Ay a).1;have N:((h.k:Int) == 1)=false:=by simp;omega
 have D:=Ae a;have E:=Aa a;have l:=Ae g;have m:=Ae i;obtain⟨gi,n,F,_,rfl,o,q⟩:=B;have r:=Ae o;have G:F[0]? =some (C1 p1):=q 0 p1 rfl;clear a g i q o;go_enter func39,ntmps39;go_wp21;go_call l.o as e w1 ⟨sv,v',rfl,s,t,u,⟨H,cs,_,_,rfl,x,Gs⟩,I,c⟩;have y:=Ae (m.o w1 v' s t u c);have z:C2 w1 P (Bb h lv (.slice (some ⟨gi,0,none⟩) 1 n)) 139:=(c.block P E xT).trans D.o;have J:C3 w1 P 28 (.slice (some ⟨gi,0,none⟩) 1 n):=(Ay z).2.2.2.2.2.2.1;have K:w1.cell? ⟨gi,0,none⟩=some (C1 p1):=by rw[Af ((c.block gi (Aa r.o) xT).trans r.o)];exact G
 have L:w1.cell? ⟨H,0,none⟩=some (.iface d (.pointer (some (a1 w.heap.size)))):=by rw[Af x];exact Gs 0 _ rfl
 clear s t u c x Gs z l m C I;go_wp21;refine wp_loop_rounds 2 ?_;rw[rounds_succ];go_wp21;refine Calls.mono y.o ?_;rintro e j ⟨rfl,A⟩;have M:=Ae A;clear A y J K L;go_wp21;rw[rounds_succ];go_wp21;go_end0;exact M.o
theorem OM (P:Nat)(h:Hd)(_:h.k≠1)(lv iv v:Value)(p1 p2:Nat)(ty:TypeId)(p:Addr)(w:World)(Q:Ending→World→Prop)(i:C2 w P (Bb h lv iv) 139)(J:Wc w iv [p1,p2])(c:TypeId)(a1 a2:Nat→Addr)(tb:TypeId)(q:Array Value)
 (r:Calls prog 65 #[C1 P,.iface ty (.pointer (some p))] w (Ul tb q (.iface ty (.pointer (some p))) (fun b=>[.iface c (.pointer (some (a1 b))),.iface c (.pointer (some (a2 b)))]) w))
 (s:∀w1 v' a,C2 w1 w.heap.size (q.setIfInBounds 0 v') tb→w1.ownsRow 0 143 1 v' 1 [.iface ty (.pointer (some p))]→(∀k,v'.ownBlock=some k→w.heap.size<k)→a<w1.heap.size→w.heap.size<a→v'.ownBlock≠some a→Ab No w w1 →
   Calls prog 39 #[v,pV p1,.iface c (.pointer (some (a1 w.heap.size)))] w1 fun e d=>e=.returned (.tuple #[])∧d.heap[a]? =w1.heap[a]?∧(∀g,iv.ownBlock=some g→d.heap[g]? =w1.heap[g]?) ∧
    Calls prog 39 #[v,pV p2,.iface c (.pointer (some (a2 w.heap.size)))] d fun e w3=>e=.returned (.tuple #[])∧Q e w3) :
 Calls prog 39 #[v,C1 P,.iface ty (.pointer (some p))] w Q:=by
 have K:=(Ay i).1;have Z:((h.k:Int) == 1)=false:=by simp;omega
 have L:=Ae i;have M:=Aa i;have t:=Ae r;have u:=Ae s;obtain⟨gi,x,y,_,rfl,z,m⟩:=J;have A:=Ae z;have N:y[0]? =some (C1 p1):=m 0 p1 rfl;have O:y[1]? =some (C1 p2):=m 1 p2 rfl;clear i r s m z;go_enter func39,ntmps39;go_wp21;go_call t.o as e w1 ⟨sv,v',rfl,B,C,D,⟨a,cs,_,_,rfl,j,Gs⟩,n,l⟩;have E:=Ae (u.o w1 v' a B C D (Aa j) (n a rfl).1 (n a rfl).2 l);have F:C2 w1 P (Bb h lv (.slice (some ⟨gi,0,none⟩) 2 x)) 139:=(l.block P M xT).trans L.o;have R:C3 w1 P 28 (.slice (some ⟨gi,0,none⟩) 2 x):=(Ay F).2.2.2.2.2.2.1;have o:=(l.block gi (Aa A.o) xT).trans A.o;have S:w1.cell? ⟨gi,0,none⟩=some (C1 p1):=by rw[Af o];exact N
 have T:w1.cell? ⟨a,0,none⟩=some (.iface c (.pointer (some (a1 w.heap.size)))):=by rw[Af j];exact Gs 0 _ rfl
 have U:xR (C3 w1 gi 1 (C1 p2)):=by show _=_;rw[Af o];exact O
 have V:xR (C3 w1 a 1 (.iface c (.pointer (some (a2 w.heap.size))))):=by show _=_;rw[Af j];exact Gs 1 _ rfl
 clear B C D l j Gs F t u K n o;go_wp21;refine wp_loop_rounds 3 ?_;rw[rounds_succ];go_wp21;refine Calls.mono E.o ?_;rintro e d ⟨rfl,G,H,f⟩;have I:=Ae f;have W:C3 d gi 1 (C1 p2):=(World.cell?_of_block (H gi rfl)).trans U.o;have X:C3 d a 1 (.iface c (.pointer (some (a2 w.heap.size)))):=(World.cell?_of_block G).trans V.o;clear f E R S T G H;go_wp21;rw[rounds_succ];go_wp21;refine Calls.mono I.o ?_;rintro e w3 ⟨rfl,f⟩;have Y:=Ae f;clear f I W X;go_wp21;rw[rounds_succ];go_wp21;go_end0;exact Y.o
structure TabS where
 blk:Nat
 name:List UInt8
 bag:Bag
 tks:List Tk
 tv:Value
def Wd (w:World)(O:Ow)(X:TabS):Prop:=O X.blk=X.blk+2∧∃v hv,w.heap[X.blk]? =some (.cells #[v,hv,.string ⟨X.name.toArray⟩,X.tv] 125 (0,0))∧w.ownsRow 0 143 1 v X.tks.length (X.tks.map Tk.val)∧(∀k,v.ownBlock=some k→O k=X.blk+2)∧Dr w O X.blk hv X.bag
theorem Wd.stab {w w':World}{O d:Ow}{X:TabS}(h:Wd w O X)(a:∀k,k<w.heap.size→O k=X.blk+2→w'.heap[k]? =w.heap[k]?∧d k=O k):Wd w' d X:=by
 obtain⟨f,v,hv,g,i,b,m⟩:=h;have j:=a X.blk (Aa g) f;have l:∀k,v.ownBlock=some k→k<w.heap.size:=fun k e=>by obtain⟨c,_,n⟩:=Bh i e;exact Aa n
 exact⟨j.2.trans f,v,hv,j.1.trans g,X0 i (fun k e=>(a k (l k e) (b k e)).1),fun k e=>((a k (l k e) (b k e)).2).trans (b k e),m.stab a⟩
structure Cs (w:World) (O:Ow) (v:Value) (id0:Nat) (xs:List TabS):Prop where
 slc:∃a cap,v=.slice a xs.length cap∧xs.length≤cap∧cap≤maxLen∧∀(i:Nat) (X:TabS),xs[i]? =some X→∃b o,a=some ⟨b,o,none⟩∧b<w.heap.size∧O b=id0∧w.cell? ⟨b,o+i,none⟩=some (.pointer (some ⟨X.blk,0,none⟩))
 tab:∀X∈xs,Wd w O X
theorem Cs.names {w:World}{O:Ow}{v:Value}{id0:Nat}{xs:List TabS}(h:Cs w O v id0 xs):Gy w v (xs.map fun X=>(X.blk,X.name)):=by
 obtain⟨a,cap,f,g,j,k⟩:=h.slc;refine⟨a,cap,by rw[tZ];exact f,by rw[tZ];exact g,j,fun i x c=>?_⟩;rw[tX] at c;obtain⟨X,d,rfl⟩:=uK.1 c;obtain⟨b,o,e1,e2,e3,e4⟩:=k i X d;obtain⟨_,v',hv,e,_⟩:=h.tab X (tV d);exact⟨b,o,e1,e2,Aa e,e4,(Af e 2).trans rfl⟩
theorem Cs.stab {w w':World}{O d:Ow}{v:Value}{id0:Nat}{xs:List TabS}(h:Cs w O v id0 xs)(g:w.heap.size≤w'.heap.size)(f:∀k,k<w.heap.size→O k=id0∨(∃X∈xs,O k=X.blk+2)→w'.heap[k]? =w.heap[k]?∧d k=O k):Cs w' d v id0 xs:=by
 obtain⟨a,cap,j,l,m,n⟩:=h.slc;refine⟨⟨a,cap,j,l,m,fun i X c=>?_⟩,fun X c=>(h.tab X c).stab fun k p e=>f k p (.inr ⟨X,c,e⟩)⟩;obtain⟨b,o,e1,e2,e3,e4⟩:=n i X c;have:=f b e2 (.inl e3);exact⟨b,o,e1,tU e2 g,this.2.trans e3,(World.cell?_of_block this.1).trans e4⟩
def Ko (xs:List TabS)(nm:List UInt8)(T:Tk):List TabS:=xs.map fun X=>if X.name=nm then { X with tks:=X.tks++[T] } else X
def D6 (xs:List TabS)(l:List (List UInt8×Tk)):List TabS:=l.foldl (fun ys p=>Ko ys p.1 p.2) xs
def Dt:Q→Nd→Tk→List (List UInt8×Tk)
 | .tab nm,_,T=>[(nm,T)]
 | .sel _ _ _ q,.one b t,_=>Dt q t (OH b)
 | .pick _ q,.one b t,_=>Dt q t (BR b)
 | .dist q,.one b t,_=>Dt q t (BU b)
 | .grp _ _ q,.one b t,_=>Dt q t (VV b)
 | .join _ _ q r,.two b t u,_=>Dt q t (Hw b true)++Dt r u (Hw b false)
 | .uni q r,.two b t u,_=>Dt q t (Od b)++Dt r u (Od b)
 |_,_,_=>[]
def Kw (q:Q)(T:Tk)(A:Nat→Prop)(R:World→Ow→Bag→Prop)(i:Nat)(F:Nat→Bag)(xs:List TabS)(v:Value)(id0:Nat)(w:World)(O:Ow)(e:Ending)(w':World):Prop :=
 e=.returned (.tuple #[])∧∃(t:Nd) (O':Ow),I0 q t∧(nds t).Nodup∧(∀b∈nds t,w.heap.size≤b∧b<w'.heap.size)∧R w' O' (A1 F i q)∧Ba q t T i F w' O'∧Cs w' O' v id0 (D6 xs (Dt q t T))∧(∀k,k<w.heap.size→O' k=O k)∧Ab (fun k=>A (O k)∨∃X∈xs,O k=X.blk+2) w w'
structure Jk (A:Nat→Prop) (id0:Nat) (xs:List TabS):Prop where
 nm:(xs.map (·.name)).Nodup
 bl:(xs.map (·.blk)).Nodup
 na:∀X∈xs,¬A (X.blk+2)∧X.blk+2≠id0
 n0:¬A id0∧2≤id0
 len:xs.length≤1000
 tks:∀X∈xs,X.tks.length≤1000000
theorem Hf {α β:Type}{f:α→β}:∀{l:List α},(l.map f).Nodup→∀{x y:α},x∈l→y∈l→f x=f y→x=y
 | [],_,x,y,c,_,_=>by cases c
 |a::l,h,x,y,c,b,e=>by
  have d:=vE.1 (by simpa using h:(f a::l.map f).Nodup);rcases uP.1 c with rfl|c
  ·rcases uP.1 b with rfl|b
   ·rfl
   exact absurd (uA.2 ⟨y,b,e.symm⟩) d.1
  rcases uP.1 b with e2|b
  ·subst e2;exact absurd (uA.2 ⟨x,‹x∈l›,e⟩) d.1
  exact Hf d.2 ‹x∈l› b e
theorem ON {xs:List TabS}{X:TabS}(a:X∈xs):∃i:Nat,Bz (xs.map fun X=>(X.blk,X.name)) X.name=(i:Int):=by
 induction xs with
 |nil=>cases a
 |cons y d c =>
  simp only[uT,Bz];by_cases b:y.name=X.name
  ·exact⟨0,by simp[b]⟩
  rcases uP.1 a with rfl|a
  ·exact absurd rfl b
  obtain⟨i,hi⟩:=c a;exact⟨i+1,by rw[if_neg b,hi,if_neg (by omega)];omega⟩
theorem cQ {T:Tk}{A:Nat→Prop}{ts:List Bool}{Gd:Bag→Prop}{R:World→Ow→Bag→Prop}(L:E9 T A ts Gd R)(P:Nat)(h:Hd)(ak:h.k=1)(lv iv v:Value)(i id0:Nat)(F:Nat→Bag)(xs:List TabS)(X:TabS)(n:X∈xs)(B:X.name=h.nm)(al:F i=X.bag)(am:Gd [])(an:Gd X.bag)
 (w:World) (O:Ow) (ao:C2 w P (Bb h lv iv) 139) (ap:R w O []) (E:Cs w O v id0 xs) (p:Jk A id0 xs) :
 Calls prog 39 #[v,C1 P,T.val] w (Kw (.tab h.nm) T A R i F xs v id0 w O):=by
 obtain⟨aq,M⟩:=ON n;rw[B] at M;obtain⟨y,V,ar⟩:=Vm _ _ _ M;rw[tX] at V;obtain⟨Y,W,rfl⟩:=uK.1 V;have au:Y=X:=Hf p.nm (tV W) n (by show Y.name=X.name;rw[B];exact ar);subst au;obtain⟨aa,av⟩:=p.na Y n;obtain⟨ab,G,hv,N,H,ac,u⟩:=E.tab Y n;have ad:=Aa N;refine WE P h ak lv iv v _ aq Y.blk T.ty T.p w _ ao E.names (by rw[tZ];exact p.len) M (by rw[tX,W];simp[B]) fun w1 x=>?_;have aw:C2 w1 Y.blk #[G,hv,.string ⟨Y.name.toArray⟩,Y.tv] 125:=(x.block _ ad xT).trans N;have ax:w1.ownsRow 0 143 1 G (Y.tks.map Tk.val).length (Y.tks.map Tk.val):=by rw[tZ];exact X0 H fun k e=>by obtain⟨c,ae,C⟩:=Bh H e;exact x.block k (Aa C) xT
 refine (Td Y.blk _ 125 (by decide) G (Y.tks.map Tk.val) T.ty T.p w1 aw rfl ax (by rw[tZ];exact p.tks Y n)).mono fun e l ay=>?_;obtain⟨az,v',a0,a1,a2,af⟩:=ay;refine⟨az,?_⟩;have Q:C2 l Y.blk #[v',hv,.string ⟨Y.name.toArray⟩,Y.tv] 125:=a0;have a3:∀k,G.ownBlock=some k→k<w.heap.size:=fun k e=>by obtain⟨c,ae,C⟩:=Bh H e;exact Aa C
 have q:∀k,k<w.heap.size→oB w O (Y.blk+2) k=O k:=fun k g=>Fu g;have z:Ab (fun k=>O k=Y.blk+2) w l:=x.trans af (fun _ e=>e.elim) (fun k g e=>by
  rcases e with rfl|e
  ·exact ab
  exact ac k e)
 have ag:R l (oB w O (Y.blk+2)) []:=L.kept ap z (fun k e=>⟨by rw[e];exact aa,by omega⟩) q;have S:Dr l (oB w O (Y.blk+2)) Y.blk hv Y.bag:=by
  refine⟨u.1.A6 fun k e=>?_,fun k e=>by rw[q k (u.1.lt e)];exact u.2 k e⟩;have ah:=u.1.lt e;refine (af.block k (tU ah x.size) ?_).trans (x.block k ah xT);rintro (rfl|s)
  ·exact u.F4 e N rfl
  obtain⟨c,ae,C⟩:=Bh H s;exact u.F4 e C rfl
 have a4:Wd l (oB w O (Y.blk+2)) { Y with tks:=Y.tks++[T] }:=by
  refine⟨by show oB w O (Y.blk+2) Y.blk=_;rw[q _ ad];exact ab,v',hv,Q,?_,fun k e=>?_,S⟩
  ·have:(Y.tks++[T]).map Tk.val=Y.tks.map Tk.val++[.iface T.ty (.pointer (some T.p))]:=(by rw[uF];rfl);show l.ownsRow 0 _ 1 v' (Y.tks++[T]).length ((Y.tks++[T]).map Tk.val);rw[this];have ai:=a1;rw[tS,tZ] at ai;rw[tS];exact ai
  rcases a2 k e with s|s
  ·rw[q k (a3 k s)];exact ac k s
  exact EJ (uJ x.size s)
 have a5:Cs l (oB w O (Y.blk+2)) v id0 (Ko xs h.nm T):=by
  obtain⟨a,cap,a6,a7,a8,a9⟩:=E.slc;refine⟨⟨a,cap,by unfold Ko;rw[tZ];exact a6,by unfold Ko;rw[tZ];exact a7,a8,fun j Z m=>?_⟩,fun Z m=>?_⟩
  ·unfold Ko at m;rw[tX] at m;obtain⟨f,t,rfl⟩:=uK.1 m;obtain⟨b,o,e1,e2,e3,e4⟩:=a9 j f t;have ba:=z.block b e2 (by rw[e3];exact fun e=>av e.symm);refine⟨b,o,e1,tU e2 z.size,by rw[q b e2];exact e3,?_⟩;rw[World.cell?_of_block ba,e4];split <;> rfl
  unfold Ko at m;obtain⟨f,t,rfl⟩:=uA.1 m;by_cases I:f.name=h.nm
  ·have:f=Y:=Hf p.nm t n (by show f.name=Y.name;rw[B];exact I);subst this;rw[if_pos I];exact a4
  rw[if_neg I];refine (E.tab f t).stab fun k g e=>⟨z.block k g (fun s=>I ?_),q k g⟩;have:f=Y:=Hf p.bl t n (by show f.blk=Y.blk;omega);rw[this];exact B
 have bb:Ab (fun k=>A (O k)∨∃Z∈xs,O k=Z.blk+2) w l:=z.mono fun k _ e=>.inr ⟨Y,n,e⟩;have Np:∀w3 r,(∀k,k<l.heap.size→r k=oB w O (Y.blk+2) k)→Ab (fun k=>A (oB w O (Y.blk+2) k)) l w3→R w3 r Y.bag→Kw (.tab h.nm) T A R i F xs v id0 w O (.returned (.tuple #[])) w3:=fun w3 r J D U=>by
  refine⟨rfl,.leaf,r,trivial,wL,(fun b bc=>absurd bc (by simp[nds])),(by show R w3 r (F i);rw[al];exact U),trivial,?_,fun k g=>(J k (tU g z.size)).trans (q k g),?_⟩
  ·show Cs w3 r v id0 (Ko xs h.nm T);refine a5.stab D.size fun k g e=>⟨D.block k g (fun K=>?_),J k g⟩;rcases e with e|⟨Z,m,e⟩
   ·rw[e] at K;exact p.n0.1 K
   unfold Ko at m;obtain⟨f,t,rfl⟩:=uA.1 m;have bd:(if f.name=h.nm then ({ f with tks:=f.tks++[T] }:TabS) else f).blk=f.blk:=(by split <;> rfl);rw[bd] at e;rw[e] at K;exact (p.na f t).1 K
  refine bb.trans D (fun _ e=>e) (fun k g e=>.inl ?_);rw[q k g] at e;exact e
 rcases S.1 with ⟨rfl,be⟩|⟨c,rfl,hc⟩
 ·refine⟨none,(Af Q 1).trans rfl,(JT T.ty T.p l).mono ?_⟩;rintro e w3 ⟨rfl,rfl⟩;refine⟨rfl,Np w3 _ (fun _ _=>rfl) (Ab.refl _ _) (L.eqv ag ?_)⟩;have:=Ls (b:=[]) be;simpa using this
 refine⟨some c,(Af Q 1).trans rfl,?_⟩;have bf:=L.ED (d:=Y.bag) (c:=c) ag am (by simpa using an) hc (by rw[S.2 c rfl];exact aa);refine bf.mono fun e w3 bg=>?_;obtain⟨aj,r,J,D,U⟩:=bg;exact⟨aj,by rw[aj];exact Np w3 r J D (by simpa using U)⟩
theorem cR {xs:List TabS}{nm:List UInt8}{T:Tk}{X:TabS}(h:X∈Ko xs nm T):∃Y∈xs,Y.blk=X.blk∧Y.name=X.name∧Y.bag=X.bag∧X.tks.length≤Y.tks.length+1:=by
 unfold Ko at h;obtain⟨Z,a,rfl⟩:=uA.1 h;refine⟨Z,a,?_⟩;split
 ·exact⟨rfl,rfl,rfl,by simp⟩
 exact⟨rfl,rfl,rfl,by omega⟩
theorem Lg:∀{l:List (List UInt8×Tk)} {xs:List TabS} {X:TabS},X∈D6 xs l→∃Y∈xs,Y.blk=X.blk∧Y.name=X.name∧Y.bag=X.bag∧X.tks.length≤Y.tks.length+l.length
 | [],xs,X,h=>⟨X,h,rfl,rfl,rfl,by simp⟩
 |p::l,xs,X,h=>by obtain⟨Y,a,e1,e2,e3,e4⟩:=Lg (l:=l) (xs:=Ko xs p.1 p.2) h;obtain⟨Z,b,c,d,e,_⟩:=cR a;exact⟨Z,b,c.trans e1,d.trans e2,e.trans e3,by simp only[uO];omega⟩
theorem Cs.lt {w:World}{O:Ow}{v:Value}{id0:Nat}{xs:List TabS}(h:Cs w O v id0 xs){X:TabS}(a:X∈xs):X.blk<w.heap.size:=by
 obtain⟨_,_,_,b,_⟩:=h.tab X a;exact Aa b
def ZM (w:World)(O:Ow):Prop:=∀k,k<w.heap.size→O k<w.heap.size+2
theorem Kw.norm {q:Q}{T:Tk}{A:Nat→Prop}{ts:List Bool}{Gd:Bag→Prop}{R:World→Ow→Bag→Prop}{i:Nat}{F:Nat→Bag}{xs:List TabS}{v:Value}{id0:Nat}{w:World}{O:Ow}{e:Ending}{w':World}(h:Kw q T A R i F xs v id0 w O e w')(j:E9 T A ts Gd R)(l:∀a,A a→a<w.heap.size+2)(hO:ZM w O)(Ae:id0<w.heap.size+2)(m:∀X∈xs,X.blk<w.heap.size) :
 e=.returned (.tuple #[])∧∃(t:Nd) (c:Ow),I0 q t∧(nds t).Nodup∧(∀b∈nds t,w.heap.size≤b∧b<w'.heap.size)∧R w' c (A1 F i q)∧Ba q t T i F w' c∧Cs w' c v id0 (D6 xs (Dt q t T))∧(∀k,k<w.heap.size→c k=O k)∧Ab (fun k=>A (O k)∨∃X∈xs,O k=X.blk+2) w w'∧ZM w' c:=by
 obtain⟨n,t,c,o,p,f,r,s,u,x,g⟩:=h;have C:=g.size;refine⟨n,t,fun k=>if c k<w'.heap.size+2 then c k else 0,o,p,f,?_,?_,?_,fun k d=>?_,g,fun k d=>?_⟩
 ·refine j.stab r (tY _) fun k d e=>⟨rfl,if_pos ?_⟩;rcases e with e|e
  ·have:=l _ e;omega
  omega
 ·refine Ba.stab (tY _) q t T i (fun k d e=>⟨rfl,if_pos ?_⟩) s;rcases e with ⟨b,y,e⟩|e
  ·have:=(f b y).2;omega
  omega
 ·refine u.stab (tY _) fun k d e=>⟨rfl,if_pos ?_⟩;rcases e with e|⟨X,z,e⟩
  ·omega
  obtain⟨Y,B,e1,_⟩:=Lg z;have:=m Y B;omega
 ·have:=hO k d;show (if c k<w'.heap.size+2 then c k else 0)=O k;rw[x k d,if_pos (by omega)]
 show (if c k<w'.heap.size+2 then c k else 0)<_;split
 ·assumption
 omega
def oP (w:World)(O:Ow)(v':Value):Ow:=fun k=>if k<w.heap.size then O k else if k=w.heap.size∨v'.ownBlock=some k then w.heap.size+2 else 0
theorem OO {w:World}{O:Ow}{v':Value}{k:Nat}(h:k<w.heap.size):oP w O v' k=O k:=if_pos h
theorem rC (w:World)(O:Ow)(v':Value):oP w O v' w.heap.size=w.heap.size+2:=by unfold oP;rw[if_neg (by omega),if_pos (.inl rfl)]
theorem rD {w:World}{O:Ow}{v':Value}{k:Nat}(h:v'.ownBlock=some k)(_:w.heap.size<k):oP w O v' k=w.heap.size+2:=by unfold oP;rw[if_neg (by omega),if_pos (.inr h)]
theorem sD {w:World}{O:Ow}{v':Value}{k:Nat}(h:v'.ownBlock≠some k)(_:w.heap.size<k):oP w O v' k=0:=by
 unfold oP;rw[if_neg (by omega),if_neg];rintro (e|e)
 ·omega
 exact h e
theorem ZM.oP {w w1:World}{O:Ow}{v':Value}(h:ZM w O)(_:w.heap.size<w1.heap.size):ZM w1 (oP w O v'):=fun k _=>by
 by_cases a:k<w.heap.size
 ·rw[OO a];have:=h k a;omega
 unfold Go.Proofs.YtdinjjmcmfjbfaaGreatDoor.oP;rw[if_neg a];split <;> omega
theorem Jk.more {A:Nat→Prop}{id0:Nat}{xs:List TabS}(h:Jk A id0 xs){b:Nat}(Ae:id0≠b+2)(d:∀X∈xs,X.blk≠b):Jk (fun a=>A a∨a=b+2) id0 xs :=
 ⟨h.nm,h.bl,fun X c=>⟨fun e=>e.elim (h.na X c).1 (fun e=>d X c (by omega)),(h.na X c).2⟩,⟨fun e=>e.elim h.n0.1 Ae,h.n0.2⟩,h.len,h.tks⟩
theorem Xa {T:Tk}{A:Nat→Prop}{ts:List Bool}{Gd:Bag→Prop}{R:World→Ow→Bag→Prop}(s:E9 T A ts Gd R){us:List Bool}{Gd1:Bag→Prop}(g:Nat→Tk)(G:Bag→Bag)(j:World→Ow→Nat→Bag→Prop)
 (E:∀b,¬A (b+2)→E9 (g b) (fun a=>A a∨a=b+2) us Gd1 (fun w O B=>R w O (G B)∧j w O b B)) (H:A9 [] (G [])) (n:TypeId) (a1:Nat→Addr) (I:∀b,(g b).val=.iface n (.pointer (some (a1 b)))) (tb:TypeId) (o:Array Value)
 (P:Nat) (h:Hd) (d:h.k≠1) (lv iv v:Value) (p1 i id0:Nat) (F:Nat→Bag) (xs:List TabS) (q:Q) (w:World) (O:Ow) (J:C2 w P (Bb h lv iv) 139) (K:Wc w iv [p1])
 (L:Calls prog 65 #[C1 P,T.val] w (Ul tb o T.val (fun b=>[.iface n (.pointer (some (a1 b)))]) w))
 (M:∀w1 f v',C2 w1 w.heap.size (o.setIfInBounds 0 v') tb→w1.ownsRow 0 143 1 v' 1 [T.val]→f w.heap.size=w.heap.size+2→(∀k,v'.ownBlock=some k→f k=w.heap.size+2)→(∀k,k<w.heap.size→f k=O k)→Ab No w w1→j w1 f w.heap.size [])
 (N:R w O []) (u:Cs w O v id0 xs) (S:Jk A id0 xs) (U:∀a,A a→a<w.heap.size+2) (hO:ZM w O) (Ae:id0<w.heap.size+2)
 (V:∀w1 f,Ab No w w1→w.heap.size<w1.heap.size→(∀k,k<w.heap.size→f k=O k)→ZM w1 f→E9 (g w.heap.size) (fun a=>A a∨a=w.heap.size+2) us Gd1 (fun w' c B=>R w' c (G B)∧j w' c w.heap.size B)→(R w1 f (G [])∧j w1 f w.heap.size [])→Cs w1 f v id0 xs→Jk (fun a=>A a∨a=w.heap.size+2) id0 xs →
   Calls prog 39 #[v,pV p1,(g w.heap.size).val] w1 (Kw q (g w.heap.size) (fun a=>A a∨a=w.heap.size+2) (fun w' c B=>R w' c (G B)∧j w' c w.heap.size B) i F xs v id0 w1 f)) :
 Calls prog 39 #[v,C1 P,T.val] w fun e w'=>e=.returned (.tuple #[])∧∃(t:Nd) (c:Ow),I0 q t∧(w.heap.size::nds t).Nodup∧(∀b∈w.heap.size::nds t,w.heap.size≤b∧b<w'.heap.size)∧R w' c (G (A1 F i q))∧j w' c w.heap.size (A1 F i q)∧Ba q t (g w.heap.size) i F w' c∧Cs w' c v id0 (D6 xs (Dt q t (g w.heap.size)))∧(∀k,k<w.heap.size→c k=O k)∧Ab (fun k=>A (O k)∨∃X∈xs,O k=X.blk+2) w w':=by
 have W:¬A (w.heap.size+2):=fun e=>by have:=U _ e;omega
 refine OL P h d lv iv v p1 T.ty T.p w _ J K n a1 tb o L fun w1 v' x ho Y l=>?_;have p:w.heap.size<w1.heap.size:=Aa x;have m:∀k,k<w.heap.size→oP w O v' k=O k:=fun k d=>OO d;have Z:=M w1 (oP w O v') v' x ho (rC _ _ _) (fun k e=>rD e (Y k e)) m l;have aa:R w1 (oP w O v') (G []):=s.eqv (s.kept N l (fun k e=>e.elim) m) H;have ab:Cs w1 (oP w O v') v id0 xs:=u.stab l.size fun k d _=>⟨l.block k d xT,m k d⟩;have ac:=S.more (b:=w.heap.size) (by omega) (fun X ad=>by have:=u.lt ad;omega);have y:=V w1 (oP w O v') l p m (hO.oP p) (E _ W) ⟨aa,Z⟩ ab ac;rw[I] at y;refine y.mono fun e am ae=>?_;obtain⟨z,t,c,af,ag,C,⟨ah,ai⟩,aj,ak,al,D⟩:=ae;refine⟨z,z,t,c,af,vE.2 ⟨fun e=>?_,ag⟩,fun b r=>?_,ah,ai,aj,ak,fun k d=>?_,?_⟩
 ·have:=(C _ e).1;omega
 ·rcases uP.1 r with rfl|r
  ·exact⟨tY _,tU p D.size⟩
  have:=C b r;exact⟨by omega,this.2⟩
 ·exact (al k (by omega)).trans (m k d)
 refine l.trans D (fun _ e=>e.elim) fun k d e=>?_;rw[m k d] at e;rcases e with (e|e)|e
 ·exact .inl e
 ·have:=hO k d;omega
 exact .inr e
theorem WG {w:World}{v T:Value}(h:w.ownsRow 0 143 1 v 1 [T]):∃g cap,v=Qc g cap∧∀(O:Ow) (b:Nat),(∀k,v.ownBlock=some k→O k=b+2)→O6 w O b g T:=by
 rcases h.2 with ⟨_,c⟩|⟨g,cap,cur,rfl,_,hg,hc1,_,hc2,hc3⟩
 ·cases c
 refine⟨g,cap,rfl,fun O b hO=>⟨hO g rfl,cur,_,hg,?_⟩⟩;have a:(cur.toList.take (1*1))[0]? =some T:=by rw[hc3];rfl
 rw[uQ] at a;simpa using a
theorem Vn:Ad ([]:Bag)=[]:=rfl
theorem Dr.none (w:World)(O:Ow)(b:Nat):Dr w O b (.map none) []:=⟨.inl ⟨rfl,Vn⟩,fun k e=>by cases e⟩
section
variable {w:World} {O:Ow} {b:Nat} {v' T:Value} (ho:w.ownsRow 0 143 1 v' 1 [T]) (hO:O b=b+2) (hv:∀k,v'.ownBlock=some k→O k=b+2)
include ho hO hv
theorem cS (a:C2 w b ((#[sN,.map none]:Array Value).setIfInBounds 0 v') 283):Lv w O b T []:=by
 obtain⟨g,cap,rfl,c⟩:=WG ho;exact⟨hO,g,cap,.map none,a,c O b hv,Dr.none _ _ _⟩
theorem jJ (a:C2 w b ((#[sN]:Array Value).setIfInBounds 0 v') 289):V7 w O b T:=by
 obtain⟨g,cap,rfl,c⟩:=WG ho;exact⟨hO,g,cap,a,c O b hv⟩
theorem jK {n:Nat}{l r:Dk}(a:C2 w b ((Nc sN n l r).setIfInBounds 0 v') 277):Sl w O b T n l r:=by
 obtain⟨g,cap,rfl,c⟩:=WG ho;exact⟨hO,g,cap,a,c O b hv⟩
theorem cT {cv:Value}{cs:List Nat}(a:C2 w b ((#[sN,cv]:Array Value).setIfInBounds 0 v') 280)(c:Nb w O cv cs):Q0 w O b T cs:=by
 obtain⟨g,cap,rfl,d⟩:=WG ho;exact⟨hO,g,cap,cv,a,d O b hv,c⟩
theorem jM {cv:Value}{cs:List Nat}{s:Option Nat}{x:Dk}(a:C2 w b ((Lw sN (.map none) (.map none) cv x).setIfInBounds 0 v') 286)(c:Nb w O cv cs):Q6 w O b T cs s x []:=by
 obtain⟨g,cap,rfl,d⟩:=WG ho;refine⟨hO,g,cap,.map none,.map none,cv,a,d O b hv,Dr.none _ _ _,Dr.none _ _ _,c,fun k e=>by cases e⟩
theorem cU {c c2:Nat}(a:C2 w b ((jC sN (.map none) (.map none) c c2 b).setIfInBounds 0 v') 240):SM w O b T true c c2 [] []:=by
 obtain⟨g,cap,rfl,d⟩:=WG ho;refine⟨hO,g,cap,.map none,.map none,fun _=>none,fun _=>none,a,d O b hv,.inl ⟨rfl,Vn,fun _=>rfl⟩,.inl ⟨rfl,Vn,fun _=>rfl⟩,fun k e=>?_⟩;rcases e with e|⟨_,e⟩ <;> cases e
end
theorem SR {w:World}{O:Ow}{X:Nat→Prop}{lv:Value}{cs:List Nat}(h:w.ownsRow 0 3 1 lv cs.length (Gp cs))(d:∀b,lv.ownBlock=some b→X b)(f:∀k,X k→O k=1):Nb w O lv cs:=by
 refine⟨?_,fun k e=>f k (d k e)⟩;rcases h.2 with ⟨e,j⟩|⟨g,cap,cur,rfl,_,hg,hc1,_,hc2,hc3⟩
 ·exact .inl ⟨e,uM j⟩
 refine .inr ⟨g,0,cap,rfl,Aa hg,fun i c hi=>?_⟩;have l:i<cs.length:=(tR.1 hi).1;have a:(cur.toList.take (cs.length*1))[i]? =some (.int .i64 (c:Int)):=by rw[hc3];unfold Gp;rw[tX,hi];rfl
 rw[uQ,if_pos (by omega)] at a;rw[uL,Af hg];simpa using a
theorem Hg:∀(q:Q) (t:Nd) (T:Tk),I0 q t→(Dt q t T).length=(Ac q).length
 | .tab _,.leaf,_,_=>rfl
 | .sel _ _ _ q,.one b t,_,h=>Hg q t (OH b) h
 | .pick _ q,.one b t,_,h=>Hg q t (BR b) h
 | .dist q,.one b t,_,h=>Hg q t (BU b) h
 | .grp _ _ q,.one b t,_,h=>Hg q t (VV b) h
 | .join _ _ q r,.two b t a,_,h=>by simp only[Dt,Ac,tS];rw[Hg q t _ h.1,Hg r a _ h.2]
 | .uni q r,.two b t a,_,h=>by simp only[Dt,Ac,tS];rw[Hg q t _ h.1,Hg r a _ h.2]
theorem WH {β:Type}(g:TabS→β)(hg:∀(X:TabS) (l:List Tk),g { X with tks:=l }=g X)(xs:List TabS)(nm:List UInt8)(T:Tk):(Ko xs nm T).map g=xs.map g:=by
 unfold Ko;rw[vS];refine wB fun X _=>?_;show g (if X.name=nm then _ else X)=g X;split
 ·exact hg X _
 rfl
theorem Jl {β:Type}(g:TabS→β)(hg:∀(X:TabS) (l:List Tk),g { X with tks:=l }=g X):∀(l:List (List UInt8×Tk)) (xs:List TabS),(D6 xs l).map g=xs.map g
 | [],_=>rfl
 |p::l,xs=>(Jl g hg l (Ko xs p.1 p.2)).trans (WH g hg xs p.1 p.2)
theorem AR (xs:List TabS)(l m:List (List UInt8×Tk)):D6 xs (l++m)=D6 (D6 xs l) m:=List.foldl_append ..
theorem WI {l:List (List UInt8×Tk)}{xs:List TabS}{X:TabS}(h:X∈xs):∃Y∈D6 xs l,Y.name=X.name∧Y.bag=X.bag:=by
 have a:(X.name,X.bag)∈(D6 xs l).map (fun Y=>(Y.name,Y.bag)):=by rw[Jl (fun Y=>(Y.name,Y.bag)) (fun _ _=>rfl)];exact uA.2 ⟨X,h,rfl⟩
 obtain⟨Y,b,e⟩:=uA.1 a;injection e with e1 e2;exact⟨Y,b,e1,e2⟩
theorem Jk.sE {A:Nat→Prop}{id0:Nat}{xs:List TabS}(h:Jk A id0 xs)(l:List (List UInt8×Tk)){B:Nat→Prop}(c:¬B id0)(hB:∀X∈xs,¬B (X.blk+2))(d:∀X∈xs,X.tks.length+l.length≤1000000):Jk B id0 (D6 xs l):=by
 refine⟨by rw[Jl (·.name) (fun _ _=>rfl)];exact h.nm,by rw[Jl (·.blk) (fun _ _=>rfl)];exact h.bl,fun X b=>?_,⟨c,h.n0.2⟩,?_,fun X b=>?_⟩
 ·obtain⟨Y,a,e,_⟩:=Lg b;rw[←e];exact⟨hB Y a,(h.na Y a).2⟩
 ·have:=congrArg List.length (Jl (·.name) (fun _ _=>rfl) l xs);simp only[tZ] at this;rw[this];exact h.len
 obtain⟨Y,a,_,_,_,e⟩:=Lg b;have:=d Y a;omega
theorem JU {T:Tk}{A:Nat→Prop}{ts:List Bool}{Gd:Bag→Prop}{R:World→Ow→Bag→Prop}(K:E9 T A ts Gd R){us1 us2:List Bool}{Gd1 Gd2:Bag→Prop}(f z:Nat→Tk)(G:Bag→Bag→Bag)(o:World→Ow→Nat→Bag→Bag→Prop)(i:Nat)(F:Nat→Bag)(q r:Q)
 (ab:∀b,¬A (b+2)→E9 (f b) (fun a=>A a∨a=b+2) us1 Gd1 (fun w O B=>R w O (G B [])∧o w O b B []))
 (an:∀b,¬A (b+2)→E9 (z b) (fun a=>A a∨a=b+2) us2 Gd2 (fun w O B=>R w O (G (A1 F i q) B)∧o w O b (A1 F i q) B))
 (ao:A9 [] (G [] [])) (I:TypeId) (a1 a2:Nat→Addr) (ap:∀b,(f b).val=.iface I (.pointer (some (a1 b)))) (aq:∀b,(z b).val=.iface I (.pointer (some (a2 b)))) (tb:TypeId) (N:Array Value)
 (P:Nat) (h:Hd) (c:h.k≠1) (lv iv v:Value) (p1 p2 id0:Nat) (xs:List TabS) (w:World) (O:Ow) (ar:C2 w P (Bb h lv iv) 139) (au:Wc w iv [p1,p2]) (av:∀g,iv.ownBlock=some g→g<w.heap.size∧O g=1)
 (aw:Calls prog 65 #[C1 P,T.val] w (Ul tb N T.val (fun b=>[.iface I (.pointer (some (a1 b))),.iface I (.pointer (some (a2 b)))]) w))
 (ax:∀w1 p v',C2 w1 w.heap.size (N.setIfInBounds 0 v') tb→w1.ownsRow 0 143 1 v' 1 [T.val]→p w.heap.size=w.heap.size+2→(∀k,v'.ownBlock=some k→p k=w.heap.size+2)→o w1 p w.heap.size [] [])
 (ay:R w O []) (ac:Cs w O v id0 xs) (L:Jk A id0 xs) (az:∀X∈xs,X.tks.length+(Ac q).length≤1000000) (M:∀a,A a→a<w.heap.size+2) (hO:ZM w O) (Ae:id0<w.heap.size+2)
 (a0:∀w1 p,Ab No w w1→w.heap.size<w1.heap.size→(∀k,k<w.heap.size→p k=O k)→ZM w1 p→E9 (f w.heap.size) (fun a=>A a∨a=w.heap.size+2) us1 Gd1 (fun w' d B=>R w' d (G B [])∧o w' d w.heap.size B [])→(R w1 p (G [] [])∧o w1 p w.heap.size [] [])→Cs w1 p v id0 xs→Jk (fun a=>A a∨a=w.heap.size+2) id0 xs →
   Calls prog 39 #[v,pV p1,(f w.heap.size).val] w1 (Kw q (f w.heap.size) (fun a=>A a∨a=w.heap.size+2) (fun w' d B=>R w' d (G B [])∧o w' d w.heap.size B []) i F xs v id0 w1 p))
 (a3:∀t j s,(∀k,k<w.heap.size→O k=1→j.heap[k]? =w.heap[k]?)→w.heap.size<j.heap.size→(∀k,k<w.heap.size→s k=O k)→ZM j s→(∀a,((A a∨a=w.heap.size+2)∨∃x∈nds t,a=x+2)→a<j.heap.size+2)→E9 (z w.heap.size) (fun a=>(A a∨a=w.heap.size+2)∨∃x∈nds t,a=x+2) us2 Gd2 (fun w' d B=>(R w' d (G (A1 F i q) B)∧o w' d w.heap.size (A1 F i q) B)∧Ba q t (f w.heap.size) i F w' d) →
   ((R j s (G (A1 F i q) [])∧o j s w.heap.size (A1 F i q) [])∧Ba q t (f w.heap.size) i F j s)→(Dt q t (f w.heap.size)).length=(Ac q).length→Cs j s v id0 (D6 xs (Dt q t (f w.heap.size)))→Jk (fun a=>(A a∨a=w.heap.size+2)∨∃x∈nds t,a=x+2) id0 (D6 xs (Dt q t (f w.heap.size))) →
   Calls prog 39 #[v,pV p2,(z w.heap.size).val] j (Kw r (z w.heap.size) (fun a=>(A a∨a=w.heap.size+2)∨∃x∈nds t,a=x+2) (fun w' d B=>(R w' d (G (A1 F i q) B)∧o w' d w.heap.size (A1 F i q) B)∧Ba q t (f w.heap.size) i F w' d) (i+(Ac q).length) F (D6 xs (Dt q t (f w.heap.size))) v id0 j s)) :
 Calls prog 39 #[v,C1 P,T.val] w fun e w'=>e=.returned (.tuple #[])∧∃(t C:Nd) (d:Ow),(I0 q t∧I0 r C)∧(w.heap.size::(nds t++nds C)).Nodup∧(∀b∈w.heap.size::(nds t++nds C),w.heap.size≤b∧b<w'.heap.size)∧R w' d (G (A1 F i q) (A1 F (i+(Ac q).length) r))∧(o w' d w.heap.size (A1 F i q) (A1 F (i+(Ac q).length) r)∧Ba q t (f w.heap.size) i F w' d∧Ba r C (z w.heap.size) (i+(Ac q).length) F w' d) ∧
  Cs w' d v id0 (D6 xs (Dt q t (f w.heap.size)++Dt r C (z w.heap.size)))∧(∀k,k<w.heap.size→d k=O k)∧Ab (fun k=>A (O k)∨∃X∈xs,O k=X.blk+2) w w':=by
 have S:¬A (w.heap.size+2):=fun e=>by have:=M _ e;omega
 refine OM P h c lv iv v p1 p2 T.ty T.p w _ ar au I a1 a2 tb N aw fun w1 v' ad ae ho a4 a5 a6 a7 H=>?_;have af:w.heap.size<w1.heap.size:=Aa ae;have D:∀k,k<w.heap.size→oP w O v' k=O k:=fun k c=>OO c;have a8:=ax w1 (oP w O v') v' ae ho (rC _ _ _) (fun k e=>rD e (a4 k e));have a9:R w1 (oP w O v') (G [] []):=K.eqv (K.kept ay H (fun k e=>e.elim) D) ao;have ba:Cs w1 (oP w O v') v id0 xs:=ac.stab H.size fun k c _=>⟨H.block k c xT,D k c⟩;have U:∀X∈xs,X.blk<w.heap.size:=fun X m=>ac.lt m;have bb:=L.more (b:=w.heap.size) (by omega) (fun X m=>by have:=U X m;omega);have ag:ZM w1 (oP w O v'):=hO.oP af;have ah:=a0 w1 (oP w O v') H af D ag (ab _ S) ⟨a9,a8⟩ ba bb;rw[ap] at ah;refine ah.mono fun e j bc=>?_;obtain⟨bd,t,s,ai,be,u,⟨bf,bg⟩,bh,bi,bj,J,bk⟩:=bc.norm (ab _ S) (fun a l=>by
  rcases l with l|l
  ·have:=M a l;omega
  omega) ag (by omega) (fun X m=>by have:=U X m;omega)
 have b6:=J.size;have V:∀k,k<w.heap.size→s k=O k:=fun k c=>(bj k (by omega)).trans (D k c);have W:∀k,oP w O v' k≤1→¬((A (oP w O v' k)∨oP w O v' k=w.heap.size+2)∨∃X∈xs,oP w O v' k=X.blk+2):=fun k c e=>by
  rcases e with (e|e)|⟨X,_,e⟩
  ·have:oP w O v' k=0∨oP w O v' k=1:=(by omega);rcases this with Z|Z
   ·rw[Z] at e;exact K.zero e
   rw[Z] at e;exact K.one e
  ·omega
  omega
 have bl:∀k,k<w.heap.size→O k=1→j.heap[k]? =w.heap[k]? :=fun k c e=>(J.block k (by omega) (W k (by rw[D k c];omega))).trans (H.block k c xT);refine⟨bd,J.block ad a5 (W ad (by rw[sD a7 a6];omega)),fun g hg=>?_,?_⟩
 ·obtain⟨bm,_⟩:=av g hg;exact J.block g (by omega) (W g (by rw[D g bm];omega))
 have aj:=Hg q t (f w.heap.size) ai;have bn:=C9.frame (an _ S) (fun a=>∃x∈nds t,a=x+2) (fun w' d=>Ba q t (f w.heap.size) i F w' d) (fun ⟨x,_,e⟩=>by omega) (fun ⟨x,_,e⟩=>by omega) (fun a l ⟨x,n,e⟩=>by
  have:=(u x n).1;rcases l with l|l
  ·have:=M a l;omega
  omega) (fun bo bp c=>Ba.stab bp q t _ _ c bo)
 have bq:=L.sE (Dt q t (f w.heap.size)) (B:=fun a=>(A a∨a=w.heap.size+2)∨∃x∈nds t,a=x+2) (fun e=>by
  rcases e with (e|e)|⟨x,n,e⟩
  ·exact L.n0.1 e
  ·omega
  ·have:=(u x n).1;omega) (fun X m e=>by
  have:=U X m;rcases e with (e|e)|⟨x,n,e⟩
  ·exact (L.na X m).1 e
  ·omega
  have:=(u x n).1;omega) (fun X m=>by rw[aj];exact az X m)
 have ak:=a3 t j s bl (by omega) V bk (fun a l=>by
  rcases l with (l|l)|⟨x,n,e⟩
  ·have:=M a l;omega
  ·omega
  have:=(u x n).2;omega) bn ⟨⟨bf,bg⟩,bh⟩ aj bi bq
 rw[aq] at ak;refine ak.mono fun e3 w3 br=>?_;obtain⟨al,C,bs,bt,bu,aa,⟨⟨bv,bw⟩,bx⟩,bz,b0,b1,am⟩:=br;have b7:=am.size;refine⟨al,al,t,C,bs,⟨ai,bt⟩,vE.2 ⟨fun e=>?_,vP.2 ⟨be,bu,fun x n y b2 e=>?_⟩⟩,fun b E=>?_,bv,⟨bw,bx,bz⟩,by rw[AR];exact b0,fun k c=>(b1 k (by omega)).trans (V k c),?_⟩
 ·rcases tW.1 e with e|e
  ·have:=(u _ e).1;omega
  have:=(aa _ e).1;omega
 ·have:=(u x n).2;have:=(aa y b2).1;omega
 ·rcases uP.1 E with rfl|E
  ·exact⟨tY _,by omega⟩
  rcases tW.1 E with E|E
  ·have:=u b E;exact⟨by omega,by omega⟩
  have:=aa b E;exact⟨by omega,by omega⟩
 have b3:Ab (fun k=>A (O k)∨∃X∈xs,O k=X.blk+2) w j:=H.trans J (fun _ e=>e.elim) fun k c e=>by
  rw[D k c] at e;rcases e with (e|e)|e
  ·exact .inl e
  ·have:=hO k c;omega
  exact .inr e
 refine b3.trans am (fun _ e=>e) fun k c e=>?_;rw[V k c] at e;have:=hO k c;rcases e with ((e|e)|⟨x,n,e⟩)|⟨X,m,e⟩
 ·exact .inl e
 ·omega
 ·have:=(u x n).1;omega
 obtain⟨Y,b4,b5,_⟩:=Lg m;exact .inr ⟨Y,b4,by rw[b5];exact e⟩
def Ob (F:Nat→Bag)(n:Nat):Nat→Bag:=fun k=>if k<n then F k else []
theorem Kc:∀(q:Q) (i:Nat) (f:Nat→Bag),(∀j,i≤j→j<i+(Ac q).length→f j=[])→A1 f i q=[]
 | .tab _,i,f,h=>h i (tY _) (by simp[Ac])
 | .sel c k x q,i,f,h=>by show Cw _ (A1 f i q)=[];rw[Kc q i f h];rfl
 | .pick cs q,i,f,h=>by show Az _ (A1 f i q)=[];rw[Kc q i f h];rfl
 | .dist q,i,f,h=>by show En (A1 f i q)=[];rw[Kc q i f h];rfl
 | .grp cs s q,i,f,h=>by show yE cs s (A1 f i q)=[];rw[Kc q i f h];rfl
 | .join n m q r,i,f,h=>by show Bw n m (A1 f i q) _=[];rw[Kc q i f fun j a b=>h j a (by simp only[Ac,tS];omega)];rfl
 | .uni q r,i,f,h=>by show A1 f i q++A1 f (i+(Ac q).length) r=[];rw[Kc q i f fun j a b=>h j a (by simp only[Ac,tS];omega),Kc r _ f fun j a b=>h j (by omega) (by simp only[Ac,tS];omega)];rfl
def Pf (ft:List UInt8→Option (List Bool))(Gd:Bag→Prop)(q:Q)(i:Nat)(F:Nat→Bag):Prop:=∀j,j≤(Ac q).length→Sw ft q i (Ob F (i+j))∧Gd (A1 (Ob F (i+j)) i q)
section
variable {ft:List UInt8→Option (List Bool)} {Gd:Bag→Prop} {q r:Q} {i:Nat} {F:Nat→Bag} {us vs:List Bool}
theorem Za (a:A7 ft q=some us){f:Nat→Bag}(h:AA ft q i f):B2 us (A1 f i q):=by
 obtain⟨b,a1,a2⟩:=h;rw[a] at a1;have:b=us:=by simpa using a1.symm
 subst this;exact a2
theorem Pf.un (c:A7 ft q=some us){Q1:Q}(G:Bag→Bag)(_:(Ac Q1).length=(Ac q).length)(hO:∀f,Sw ft Q1 i f→AA ft q i f∧Sw ft q i f)(d:∀f,A1 f i Q1=G (A1 f i q))(h:Pf ft Gd Q1 i F):Pf ft (fun B=>B2 us B∧Gd (G B)) q i F:=fun j e=>by
 obtain⟨a,b⟩:=h j (by omega);obtain⟨a1,a2⟩:=hO _ a;rw[d] at b;exact⟨a2,Za c a1,b⟩
theorem JV (j:Nat)(_:j≤(Ac q).length):A1 (Ob F (i+j)) (i+(Ac q).length) r=[]:=Kc r _ _ fun k a b=>if_neg (by omega)
theorem CD (j:Nat):A1 (Ob F (i+((Ac q).length+j))) i q=A1 F i q:=Ds q i fun k a b=>if_pos (by omega)
theorem Pf.left (e:A7 ft q=some us)(g:A7 ft r=some vs){Q1:Q}(G:Bag→Bag→Bag)(_:(Ac Q1).length=(Ac q).length+(Ac r).length)(hO:∀f,Sw ft Q1 i f→(AA ft q i f∧AA ft r (i+(Ac q).length) f)∧Sw ft q i f∧Sw ft r (i+(Ac q).length) f)(k:∀f,A1 f i Q1=G (A1 f i q) (A1 f (i+(Ac q).length) r))(h:Pf ft Gd Q1 i F):Pf ft (fun B=>B2 us B∧B2 vs []∧Gd (G B [])) q i F:=fun j c=>by
 obtain⟨a,b⟩:=h j (by omega);obtain⟨⟨a1,a2⟩,a3,a4⟩:=hO _ a;have d:=Za g a2;rw[JV j c] at d;rw[k,JV j c] at b;exact⟨a3,Za e a1,d,b⟩
theorem Pf.right (d:A7 ft q=some us)(e:A7 ft r=some vs){Q1:Q}(G:Bag→Bag→Bag)(_:(Ac Q1).length=(Ac q).length+(Ac r).length)(hO:∀f,Sw ft Q1 i f→(AA ft q i f∧AA ft r (i+(Ac q).length) f)∧Sw ft q i f∧Sw ft r (i+(Ac q).length) f)(g:∀f,A1 f i Q1=G (A1 f i q) (A1 f (i+(Ac q).length) r))(h:Pf ft Gd Q1 i F):Pf ft (fun B=>B2 vs B∧B2 us (A1 F i q)∧Gd (G (A1 F i q) B)) r (i+(Ac q).length) F:=fun j k=>by
 obtain⟨a,b⟩:=h ((Ac q).length+j) (by omega);obtain⟨⟨a1,a2⟩,a3,a4⟩:=hO _ a;have c:=Za d a1;rw[CD] at c;rw[g,CD] at b;rw[←wD] at a4 a2 b;exact⟨a4,Za e a2,c,b⟩
end
structure jN (ft:List UInt8→Option (List Bool)) (X:Nat→Prop) (w0:World) (v:Value) (id0:Nat) (F:Nat→Bag) (xs:List TabS) (i:Nat) (q:Q) (T:Tk) (A:Nat→Prop) (ts:List Bool) (Gd:Bag→Prop) (R:World→Ow→Bag→Prop) (w:World) (O:Ow):Prop where
 agree:∀k,X k→k<w.heap.size∧w.heap[k]? =w0.heap[k]?∧O k=1
 tk:E9 T A ts Gd R
 ty:A7 ft q=some ts
 wf:wf q
 ok:Pf ft Gd q i F
 fit:∀(j:Nat) (nm:List UInt8),(Ac q)[j]? =some nm→∃Y∈xs,Y.name=nm∧F (i+j)=Y.bag
 r0:R w O []
 tabs:Cs w O v id0 xs
 tok:Jk A id0 xs
 tks:∀Y∈xs,Y.tks.length+(Ac q).length≤1000000
 ab:∀a,A a→a<w.heap.size+2
 old:ZM w O
 id:id0<w.heap.size+2
theorem jN.ag {ft:List UInt8→Option (List Bool)}{X:Nat→Prop}{w0:World}{v:Value}{id0:Nat}{F:Nat→Bag}{xs:List TabS}{i:Nat}{q:Q}{T:Tk}{A:Nat→Prop}{ts:List Bool}{Gd:Bag→Prop}{R:World→Ow→Bag→Prop}{w:World}{O:Ow}(hp:jN ft X w0 v id0 F xs i q T A ts Gd R w O){w1:World}{a:Ow}(_:w.heap.size≤w1.heap.size)(h:∀k,k<w.heap.size→O k=1→w1.heap[k]? =w.heap[k]?)(hO:∀k,k<w.heap.size→a k=O k):∀k,X k→k<w1.heap.size∧w1.heap[k]? =w0.heap[k]?∧a k=1:=fun k d=>by
 obtain⟨b,e,c⟩:=hp.agree k d;exact⟨by omega,(h k b c).trans e,(hO k b).trans c⟩
theorem Nf {w:World}{iv:Value}{ps:List Nat}(h:w.ownsRow 0 69 1 iv ps.length (ps.map pV))(b:ps≠[]):Wc w iv ps:=by
 rcases h.2 with ⟨_,c⟩|⟨g,cap,cur,rfl,_,hg,hc1,_,hc2,hc3⟩
 ·exact absurd (uM c) b
 refine⟨g,cap,cur,_,rfl,hg,fun i x hi=>?_⟩;have d:i<ps.length:=(tR.1 hi).1;have a:(cur.toList.take (ps.length*1))[i]? =some (pV x):=by rw[hc3,tX,hi];rfl
 rw[uQ,if_pos (by omega)] at a;simpa using a
theorem EV {k:Nat}(h:yC k=1)(_:k≤7):k=2∨k=3∨k=6∨k=7:=by
 unfold yC at h;by_cases a:k=0∨k=1
 ·rw[if_pos a] at h;omega
 rw[if_neg a] at h;by_cases b:k=4∨k=5
 ·rw[if_pos b] at h;omega
 omega
theorem Tn {k:Nat}(h:yC k=2):k=4∨k=5:=by
 unfold yC at h;by_cases a:k=0∨k=1
 ·rw[if_pos a] at h;omega
 rw[if_neg a] at h;by_cases b:k=4∨k=5
 ·exact b
 rw[if_neg b] at h;omega
end Go.Proofs.YtdinjjmcmfjbfaaGreatDoor
