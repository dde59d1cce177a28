import Derived.Test.YtdinjjmcmfjbfaaGreatDoorTgJ
set_option maxRecDepth 100000
set_option maxHeartbeats 4000000
namespace Go.Proofs.YtdinjjmcmfjbfaaGreatDoor
open Go.RowKit Go.Shelf
open Mo (V Row Bag cnt Af Be B0 Fw)
theorem DZ (ty:TypeId)(a:Addr)(w:World) :
 Calls Tryz.prog 47 #[.map none,.iface ty (.pointer (some a))] w fun e w'=>e=.returned (.tuple #[])∧w'=w:=by
 go_enter Tryz.func47,Tryz.ntmps47
 go_wp2_with fail;go_end0
 exact⟨rfl,rfl⟩
theorem IX (b c:Nat)(w:World)(Q:Ending→World→Prop)(h:Calls Tryz.prog 66 #[.pointer (some ⟨b,1,none⟩),.map (some c)] w fun e a=>e=.returned (.tuple #[])∧Calls Tryz.prog 250 #[.pointer (some ⟨b,0,none⟩),.map (some c)] a fun e d=>e=.returned (.tuple #[])∧Q e d) :
 Calls Tryz.prog 251 #[.pointer (some ⟨b,0,none⟩),.map (some c)] w Q:=by
 have f:=Ad h;clear h
 go_enter Tryz.func251,Tryz.ntmps251
 go_wp2_with fail;refine f.o.mono ?_;rintro e a ⟨rfl,g⟩;have i:=Ad g;clear g f;go_wp2_with fail;refine i.o.mono ?_;rintro e d ⟨rfl,j⟩;have k:=Ad j;clear j i;go_wp2_with fail;go_end0;exact k.o
theorem UM:Qy 101 251:=⟨fun _ _=>by kernel_rfl,fun _ _=>by kernel_rfl,enters_of Tryz.func251 (by kernel_rfl) rfl⟩
theorem Tv:∀(ts:List (Nat×List UInt8)) (nm:List UInt8) (i:Nat),Bh ts nm=(i:Int)→∃x,ts[i]? =some x∧x.2=nm
 | [],nm,i,h=>by simp only[Bh] at h;omega
 |x::ts,nm,i,h=>by
  simp only[Bh] at h
  by_cases a:x.2=nm
  ·rw[if_pos a] at h
   have:i=0:=by omega
   subst this;exact⟨x,rfl,a⟩
  ·rw[if_neg a] at h
   have hg:=Mi ts nm
   by_cases b:Bh ts nm= -1
   ·rw[if_pos b] at h;omega
   ·rw[if_neg b] at h
    obtain⟨k,rfl⟩:∃k,i=k+1:=⟨i-1,by omega⟩
    obtain⟨y,c,d⟩:=Tv ts nm k (by omega)
    exact⟨y,by simpa using c,d⟩
theorem ON (P:Nat)(h:Hd)(u:h.k=1)(lv iv v:Value)(ts:List (Nat×List UInt8))(i:Nat)(tb:Nat)(ty:TypeId)(p:Addr)(w:World)(Q:Ending→World→Prop)(f:w.heap[P]? =some (.cells (A0 h lv iv) 139 (0,0)))(g:Fp w v ts)(x:ts.length≤1000)(hf:Bh ts h.nm=(i:Int))(hi:ts[i]? =some (tb,h.nm))
 (n:∀c,Ab No w c→Calls Tryz.prog 64 #[.pointer (some ⟨tb,0,none⟩),.iface ty (.pointer (some p))] c fun e j=>e=.returned (.tuple #[])∧∃k,j.cell? ⟨tb,1,none⟩=some (.map k)∧Calls Tryz.prog 47 #[.map k,.iface ty (.pointer (some p))] j fun e w3=>e=.returned (.tuple #[])∧Q e w3) :
 Calls Tryz.prog 39 #[v,.pointer (some ⟨P,0,none⟩),.iface ty (.pointer (some p))] w Q:=by
 have q:=(Ax f).1
 rw[u] at q
 have y:=(Ax f).2.2.2.2.2.2.2;have l:=Ad (Iv v ts h.nm w g x)
 rw[hf] at l
 have F:=Ad g;have G:=Ad hi;have z:=Ad n;have H:i<ts.length:=(kS.1 hi).1
 obtain⟨a,cap,rfl,_,r,s⟩:=g
 obtain⟨b,o,rfl,A,_,B,_⟩:=s i _ hi
 have I:cap≤9223372036854775807:=by unfold maxLen at r;omega
 have J:(0:Int)≤(i:Int):=by omega
 have K:(i:Int)<(ts.length:Int):=by omega
 have C:=Ad B;clear f hf hi n s r
 go_enter Tryz.func39,Tryz.ntmps39
 go_wp2_with fail;refine l.o.mono ?_;rintro e c ⟨rfl,m⟩;have c1:c.cell? ⟨b,o+i,none⟩=some (.pointer (some ⟨tb,0,none⟩)):=(m.cell A oI).trans C.o;have t:=Ad (z.o c m);clear m q y l;go_wp2_with fail;refine t.o.mono ?_;rintro e j ⟨rfl,k,D,d⟩;have HD:=Ad d;clear d t c1;go_wp2_with fail;refine HD.o.mono ?_;rintro e w3 ⟨rfl,d⟩;have E:=Ad d;clear d HD D;go_wp2_with fail;go_end0;exact E.o
def Uj (w:World)(iv:Value)(ps:List Nat):Prop:=∃g cap cs z,iv=.slice (some ⟨g,0,none⟩) ps.length cap∧w.heap[g]? =some (.cells cs 69 z)∧∀(i:Nat) (x:Nat),ps[i]? =some x→cs[i]? =some (pV x)
theorem IY (P:Nat)(h:Hd)(_:h.k≠1)(lv iv v:Value)(p1:Nat)(ty:TypeId)(p:Addr)(w:World)(Q:Ending→World→Prop)(c:w.heap[P]? =some (.cells (A0 h lv iv) 139 (0,0)))(C:Uj w iv [p1])(f:TypeId)(a1:Nat→Addr)(tb:TypeId)(g:Array Value)
 (i:Calls Tryz.prog 65 #[.pointer (some ⟨P,0,none⟩),.iface ty (.pointer (some p))] w (Wd tb g (.iface ty (.pointer (some p))) (fun b=>[.iface f (.pointer (some (a1 b)))]) w))
 (j:∀a v',a.heap[w.heap.size]? =some (.cells (g.setIfInBounds 0 v') tb (0,0))→a.ownsRow 0 143 1 v' 1 [.iface ty (.pointer (some p))]→(∀k,v'.ownBlock=some k→w.heap.size<k)→Ab No w a →
   Calls Tryz.prog 39 #[v,pV p1,.iface f (.pointer (some (a1 w.heap.size)))] a fun e l=>e=.returned (.tuple #[])∧Q e l) :
 Calls Tryz.prog 39 #[v,.pointer (some ⟨P,0,none⟩),.iface ty (.pointer (some p))] w Q:=by
 have D:=(Ax c).1
 have O:((h.k:Int) == 1)=false:=by simp;omega
 have E:=Ad c;have F:=Aa c;have m:=Ad i;have n:=Ad j
 obtain⟨gi,o,G,_,rfl,q,r⟩:=C
 have s:=Ad q;have H:G[0]? =some (.pointer (some ⟨p1,0,none⟩)):=r 0 p1 rfl;clear c i j r q
 go_enter Tryz.func39,Tryz.ntmps39
 go_wp2_with fail;refine m.o.mono ?_;rintro e a ⟨sv,v',rfl,t,u,x,⟨I,cs,_,_,rfl,y,Hg⟩,J,d⟩;have z:=Ad (n.o a v' t u x d);have A:a.heap[P]? =some (.cells (A0 h lv (.slice (some ⟨gi,0,none⟩) 1 o)) 139 (0,0)):=(d.block P F oI).trans E.o;have K:a.cell? ⟨P,28,none⟩=some (.slice (some ⟨gi,0,none⟩) 1 o):=(Ax A).2.2.2.2.2.2.1
 have L:a.cell? ⟨gi,0,none⟩=some (.pointer (some ⟨p1,0,none⟩)):=by
  rw[Ae ((d.block gi (Aa s.o) oI).trans s.o)];exact H
 have M:a.cell? ⟨I,0,none⟩=some (.iface f (.pointer (some (a1 w.heap.size)))):=by rw[Ae y];exact Hg 0 _ rfl
 clear t u x d y Hg A m n D J;go_wp2_with fail;refine wp_loop_rounds 2 ?_
 rw[rounds_succ]
 go_wp2_with fail;refine Calls.mono z.o ?_;rintro e l ⟨rfl,B⟩;have N:=Ad B;clear B z K L M;go_wp2_with fail
 rw[rounds_succ]
 go_wp2_with fail;go_end0;exact N.o
theorem IZ (P:Nat)(h:Hd)(_:h.k≠1)(lv iv v:Value)(p1 p2:Nat)(ty:TypeId)(p:Addr)(w:World)(Q:Ending→World→Prop)(j:w.heap[P]? =some (.cells (A0 h lv iv) 139 (0,0)))(L:Uj w iv [p1,p2])(d:TypeId)(a1 l:Nat→Addr)(tb:TypeId)(s:Array Value)
 (t:Calls Tryz.prog 65 #[.pointer (some ⟨P,0,none⟩),.iface ty (.pointer (some p))] w (Wd tb s (.iface ty (.pointer (some p))) (fun b=>[.iface d (.pointer (some (a1 b))),.iface d (.pointer (some (l b)))]) w))
 (u:∀a v' c,a.heap[w.heap.size]? =some (.cells (s.setIfInBounds 0 v') tb (0,0))→a.ownsRow 0 143 1 v' 1 [.iface ty (.pointer (some p))]→(∀k,v'.ownBlock=some k→w.heap.size<k)→c<a.heap.size→w.heap.size<c→v'.ownBlock≠some c→Ab No w a →
   Calls Tryz.prog 39 #[v,pV p1,.iface d (.pointer (some (a1 w.heap.size)))] a fun e f=>e=.returned (.tuple #[])∧f.heap[c]? =a.heap[c]?∧(∀g,iv.ownBlock=some g→f.heap[g]? =a.heap[g]?) ∧
    Calls Tryz.prog 39 #[v,pV p2,.iface d (.pointer (some (l w.heap.size)))] f fun e w3=>e=.returned (.tuple #[])∧Q e w3) :
 Calls Tryz.prog 39 #[v,.pointer (some ⟨P,0,none⟩),.iface ty (.pointer (some p))] w Q:=by
 have M:=(Ax j).1
 have ab:((h.k:Int) == 1)=false:=by simp;omega
 have N:=Ad j;have O:=Aa j;have x:=Ad t;have y:=Ad u
 obtain⟨gi,z,A,_,rfl,B,o⟩:=L
 have C:=Ad B;have R:A[0]? =some (.pointer (some ⟨p1,0,none⟩)):=o 0 p1 rfl;have S:A[1]? =some (.pointer (some ⟨p2,0,none⟩)):=o 1 p2 rfl;clear j t u o B
 go_enter Tryz.func39,Tryz.ntmps39
 go_wp2_with fail;refine x.o.mono ?_;rintro e a ⟨sv,v',rfl,D,E,F,⟨c,cs,_,_,rfl,m,Hg⟩,q,n⟩;have G:=Ad (y.o a v' c D E F (Aa m) (q c rfl).1 (q c rfl).2 n);have H:a.heap[P]? =some (.cells (A0 h lv (.slice (some ⟨gi,0,none⟩) 2 z)) 139 (0,0)):=(n.block P O oI).trans N.o;have T:a.cell? ⟨P,28,none⟩=some (.slice (some ⟨gi,0,none⟩) 2 z):=(Ax H).2.2.2.2.2.2.1;have r:=(n.block gi (Aa C.o) oI).trans C.o
 have U:a.cell? ⟨gi,0,none⟩=some (.pointer (some ⟨p1,0,none⟩)):=by rw[Ae r];exact R
 have V:a.cell? ⟨c,0,none⟩=some (.iface d (.pointer (some (a1 w.heap.size)))):=by rw[Ae m];exact Hg 0 _ rfl
 have W:oH (a.cell? ⟨gi,1,none⟩=some (.pointer (some ⟨p2,0,none⟩))):=by show _=_;rw[Ae r];exact S
 have X:oH (a.cell? ⟨c,1,none⟩=some (.iface d (.pointer (some (l w.heap.size))))):=by show _=_;rw[Ae m];exact Hg 1 _ rfl
 clear D E F n m Hg H x y M q r;go_wp2_with fail;refine wp_loop_rounds 3 ?_
 rw[rounds_succ]
 go_wp2_with fail;refine Calls.mono G.o ?_;rintro e f ⟨rfl,I,J,i⟩;have K:=Ad i;have Y:f.cell? ⟨gi,1,none⟩=some (.pointer (some ⟨p2,0,none⟩)):=(World.cell?_of_block (J gi rfl)).trans W.o;have Z:f.cell? ⟨c,1,none⟩=some (.iface d (.pointer (some (l w.heap.size)))):=(World.cell?_of_block I).trans X.o;clear i G T U V I J;go_wp2_with fail
 rw[rounds_succ]
 go_wp2_with fail;refine Calls.mono K.o ?_;rintro e w3 ⟨rfl,i⟩;have aa:=Ad i;clear i K Y Z;go_wp2_with fail
 rw[rounds_succ]
 go_wp2_with fail;go_end0;exact aa.o
open Mo (V Row Bag cnt Af Be B0 Fw Q Ac Av)
structure TabS where
 blk:Nat
 name:List UInt8
 bag:Bag
 tks:List Tk
 tv:Value
def Uk (w:World)(O:Ow)(X:TabS):Prop:=O X.blk=X.blk+2∧∃v hv,w.heap[X.blk]? =some (.cells #[v,hv,.string ⟨X.name.toArray⟩,X.tv] 125 (0,0))∧w.ownsRow 0 143 1 v X.tks.length (X.tks.map Tk.val)∧(∀k,v.ownBlock=some k→O k=X.blk+2)∧E9 w O X.blk hv X.bag
theorem Uk.stab {w w':World}{O d:Ow}{X:TabS}(h:Uk w O X)(a:∀k,k<w.heap.size→O k=X.blk+2→w'.heap[k]? =w.heap[k]?∧d k=O k):Uk w' d X:=by
 obtain⟨f,v,hv,g,i,b,m⟩:=h
 have j:=a X.blk (Aa g) f
 have l:∀k,v.ownBlock=some k→k<w.heap.size:=fun k e=>by obtain⟨c,_,n⟩:=Bc i e;exact Aa n
 exact⟨j.2.trans f,v,hv,j.1.trans g,Cm i (fun k e=>(a k (l k e) (b k e)).1),fun k e=>((a k (l k e) (b k e)).2).trans (b k e),m.stab a⟩
structure B5 (w:World) (O:Ow) (v:Value) (id0:Nat) (xs:List TabS):Prop where
 slc:∃a cap,v=.slice a xs.length cap∧xs.length≤cap∧cap≤maxLen∧∀(i:Nat) (X:TabS),xs[i]? =some X→∃b o,a=some ⟨b,o,none⟩∧b<w.heap.size∧O b=id0∧w.cell? ⟨b,o+i,none⟩=some (.pointer (some ⟨X.blk,0,none⟩))
 tab:∀X∈xs,Uk w O X
theorem B5.names {w:World}{O:Ow}{v:Value}{id0:Nat}{xs:List TabS}(h:B5 w O v id0 xs):Fp w v (xs.map fun X=>(X.blk,X.name)):=by
 obtain⟨a,cap,f,g,j,k⟩:=h.slc
 refine⟨a,cap,by rw[lB];exact f,by rw[lB];exact g,j,fun i x c=>?_⟩
 rw[kX] at c
 obtain⟨X,d,rfl⟩:=lJ.1 c
 obtain⟨b,o,e1,l,_,m⟩:=k i X d
 obtain⟨_,v',hv,e,_⟩:=h.tab X (kW d)
 exact⟨b,o,e1,l,Aa e,m,(Ae e 2).trans rfl⟩
theorem B5.stab {w w':World}{O d:Ow}{v:Value}{id0:Nat}{xs:List TabS}(h:B5 w O v id0 xs)(l:w.heap.size≤w'.heap.size)(f:∀k,k<w.heap.size→O k=id0∨(∃X∈xs,O k=X.blk+2)→w'.heap[k]? =w.heap[k]?∧d k=O k):B5 w' d v id0 xs:=by
 obtain⟨a,cap,m,n,p,q⟩:=h.slc
 refine⟨⟨a,cap,m,n,p,fun i X c=>?_⟩,fun X c=>(h.tab X c).stab fun k r e=>f k r (.inr ⟨X,c,e⟩)⟩
 obtain⟨b,o,e1,g,j,s⟩:=q i X c
 have:=f b g (.inl j)
 exact⟨b,o,e1,kV g l,this.2.trans j,(World.cell?_of_block this.1).trans s⟩
def Ja (xs:List TabS)(nm:List UInt8)(T:Tk):List TabS:=xs.map fun X=>if X.name=nm then { X with tks:=X.tks++[T] } else X
def De (xs:List TabS)(l:List (List UInt8×Tk)):List TabS:=l.foldl (fun ys p=>Ja ys p.1 p.2) xs
def C5:Q→Nd→Tk→List (List UInt8×Tk)
 | .tab nm,_,T=>[(nm,T)]
 | .sel _ _ _ q,.one b t,_=>C5 q t (IU b)
 | .pick _ q,.one b t,_=>C5 q t (Yr b)
 | .dist q,.one b t,_=>C5 q t (LJ b)
 | .grp _ _ q,.one b t,_=>C5 q t (aE b)
 | .join _ _ q r,.two b t u,_=>C5 q t (Ql b true)++C5 r u (Ql b false)
 | .uni q r,.two b t u,_=>C5 q t (Mg b)++C5 r u (Mg b)
 |_,_,_=>[]
def Jk (q:Q)(T:Tk)(A:Nat→Prop)(R:World→Ow→Bag→Prop)(i:Nat)(F:Nat→Bag)(xs:List TabS)(v:Value)(id0:Nat)(w:World)(O:Ow)(e:Ending)(w':World):Prop :=
 e=.returned (.tuple #[])∧∃(t:Nd) (O':Ow),Hk q t∧(nds t).Nodup∧(∀b∈nds t,w.heap.size≤b∧b<w'.heap.size)∧R w' O' (Av F i q)∧A8 q t T i F w' O'∧B5 w' O' v id0 (De xs (C5 q t T))∧(∀k,k<w.heap.size→O' k=O k)∧Ab (fun k=>A (O k)∨∃X∈xs,O k=X.blk+2) w w'
structure Ia (A:Nat→Prop) (id0:Nat) (xs:List TabS):Prop where
 nm:(xs.map (·.name)).Nodup
 bl:(xs.map (·.blk)).Nodup
 na:∀X∈xs,¬A (X.blk+2)∧X.blk+2≠id0
 n0:¬A id0∧2≤id0
 len:xs.length≤1000
 tks:∀X∈xs,X.tks.length≤1000000
theorem F5 {α β:Type}{f:α→β}:∀{l:List α},(l.map f).Nodup→∀{x y:α},x∈l→y∈l→f x=f y→x=y
 | [],_,x,y,c,_,_=>by cases c
 |a::l,h,x,y,c,b,e=>by
  have d:=mJ.1 (by simpa using h:(f a::l.map f).Nodup)
  rcases lQ.1 c with rfl|c
  ·rcases lQ.1 b with rfl|b
   ·rfl
   ·exact absurd (lD.2 ⟨y,b,e.symm⟩) d.1
  ·rcases lQ.1 b with g|b
   ·subst g
    exact absurd (lD.2 ⟨x,‹x∈l›,e⟩) d.1
   ·exact F5 d.2 ‹x∈l› b e
theorem JA {xs:List TabS}{X:TabS}(a:X∈xs):∃i:Nat,Bh (xs.map fun X=>(X.blk,X.name)) X.name=(i:Int):=by
 induction xs with
 |nil=>cases a
 |cons y d c =>
  simp only[lS,Bh]
  by_cases b:y.name=X.name
  ·exact⟨0,by simp[b]⟩
  ·rcases lQ.1 a with rfl|a
   ·exact absurd rfl b
   ·obtain⟨i,hi⟩:=c a
    exact⟨i+1,by rw[if_neg b,hi,if_neg (by omega)];omega⟩
theorem UN {T:Tk}{A:Nat→Prop}{ts:List Bool}{Gd:Bag→Prop}{R:World→Ow→Bag→Prop}(L:Ee T A ts Gd R)(P:Nat)(h:Hd)(an:h.k=1)(lv iv v:Value)(i id0:Nat)(F:Nat→Bag)(xs:List TabS)(X:TabS)(n:X∈xs)(B:X.name=h.nm)(ao:F i=X.bag)(ap:Gd [])(aq:Gd X.bag)
 (w:World) (O:Ow) (ar:w.heap[P]? =some (.cells (A0 h lv iv) 139 (0,0))) (au:R w O []) (E:B5 w O v id0 xs) (p:Ia A id0 xs) :
 Calls Tryz.prog 39 #[v,.pointer (some ⟨P,0,none⟩),T.val] w (Jk (.tab h.nm) T A R i F xs v id0 w O):=by
 obtain⟨av,M⟩:=JA n
 rw[B] at M
 obtain⟨y,aa,aw⟩:=Tv _ _ _ M
 rw[kX] at aa
 obtain⟨Y,ab,rfl⟩:=lJ.1 aa
 have ax:Y=X:=F5 p.nm (kW ab) n (by show Y.name=X.name;rw[B];exact aw)
 subst ax
 obtain⟨ac,ay⟩:=p.na Y n
 obtain⟨ad,G,hv,N,H,ae,u⟩:=E.tab Y n
 have af:=Aa N
 refine ON P h an lv iv v _ av Y.blk T.ty T.p w _ ar E.names (by rw[lB];exact p.len) M (by rw[kX,ab];simp[B]) fun Q x=>?_
 have az:Q.heap[Y.blk]? =some (.cells #[G,hv,.string ⟨Y.name.toArray⟩,Y.tv] 125 (0,0)):=(x.block _ af oI).trans N
 have a0:Q.ownsRow 0 143 1 G (Y.tks.map Tk.val).length (Y.tks.map Tk.val):=by
  rw[lB]
  exact Cm H fun k e=>by obtain⟨c,ag,C⟩:=Bc H e;exact x.block k (Aa C) oI
 refine (Wc Y.blk _ 125 (by decide) G (Y.tks.map Tk.val) T.ty T.p Q az rfl a0 (by rw[lB];exact p.tks Y n)).mono fun e l a1=>?_
 obtain⟨a2,v',a3,a4,a5,ah⟩:=a1
 refine⟨a2,?_⟩
 have S:l.heap[Y.blk]? =some (.cells #[v',hv,.string ⟨Y.name.toArray⟩,Y.tv] 125 (0,0)):=a3
 have a6:∀k,G.ownBlock=some k→k<w.heap.size:=fun k e=>by obtain⟨c,ag,C⟩:=Bc H e;exact Aa C
 have q:∀k,k<w.heap.size→oB w O (Y.blk+2) k=O k:=fun k g=>Oj g
 have z:Ab (fun k=>O k=Y.blk+2) w l:=x.trans ah (fun _ e=>e.elim) (fun k g e=>by
  rcases e with rfl|e
  ·exact ad
  ·exact ae k e)
 have ai:R l (oB w O (Y.blk+2)) []:=L.kept au z (fun k e=>⟨by rw[e];exact ac,by omega⟩) q
 have U:E9 l (oB w O (Y.blk+2)) Y.blk hv Y.bag:=by
  refine⟨u.1.B2 fun k e=>?_,fun k e=>by rw[q k (u.1.lt e)];exact u.2 k e⟩
  have aj:=u.1.lt e;refine (ah.block k (kV aj x.size) ?_).trans (x.block k aj oI)
  rintro (rfl|s)
  ·exact u.Kj e N rfl
  ·obtain⟨c,ag,C⟩:=Bc H s
   exact u.Kj e C rfl
 have a7:Uk l (oB w O (Y.blk+2)) { Y with tks:=Y.tks++[T] }:=by
  refine⟨by show oB w O (Y.blk+2) Y.blk=_;rw[q _ af];exact ad,v',hv,S,?_,fun k e=>?_,U⟩
  ·have:(Y.tks++[T]).map Tk.val=Y.tks.map Tk.val++[.iface T.ty (.pointer (some T.p))]:=by rw[lF];rfl
   show l.ownsRow 0 _ 1 v' (Y.tks++[T]).length ((Y.tks++[T]).map Tk.val)
   rw[this]
   have ak:=a4
   rw[kU,lB] at ak
   rw[kU]
   exact ak
  ·rcases a5 k e with s|s
   ·rw[q k (a6 k s)];exact ae k s
   ·exact TZ (lH x.size s)
 have a8:B5 l (oB w O (Y.blk+2)) v id0 (Ja xs h.nm T):=by
  obtain⟨a,cap,a9,ba,bb,bc⟩:=E.slc
  refine⟨⟨a,cap,by unfold Ja;rw[lB];exact a9,by unfold Ja;rw[lB];exact ba,bb,fun j Z m=>?_⟩,fun Z m=>?_⟩
  ·unfold Ja at m
   rw[kX] at m
   obtain⟨f,t,rfl⟩:=lJ.1 m
   obtain⟨b,o,e1,V,al,bd⟩:=bc j f t
   have be:=z.block b V (by rw[al];exact fun e=>ay e.symm)
   refine⟨b,o,e1,kV V z.size,by rw[q b V];exact al,?_⟩
   rw[World.cell?_of_block be,bd]
   split <;> rfl
  ·unfold Ja at m
   obtain⟨f,t,rfl⟩:=lD.1 m
   by_cases I:f.name=h.nm
   ·have:f=Y:=F5 p.nm t n (by show f.name=Y.name;rw[B];exact I)
    subst this
    rw[if_pos I];exact a7
   ·rw[if_neg I]
    refine (E.tab f t).stab fun k g e=>⟨z.block k g (fun s=>I ?_),q k g⟩
    have:f=Y:=F5 p.bl t n (by show f.blk=Y.blk;omega)
    rw[this];exact B
 have bf:Ab (fun k=>A (O k)∨∃Z∈xs,O k=Z.blk+2) w l:=z.mono fun k _ e=>.inr ⟨Y,n,e⟩
 have Ly:∀w3 r,(∀k,k<l.heap.size→r k=oB w O (Y.blk+2) k)→Ab (fun k=>A (oB w O (Y.blk+2) k)) l w3→R w3 r Y.bag→Jk (.tab h.nm) T A R i F xs v id0 w O (.returned (.tuple #[])) w3:=fun w3 r J D W=>by
  refine⟨rfl,.leaf,r,trivial,nJ,(fun b bg=>absurd bg (by simp[nds])),(by show R w3 r (F i);rw[ao];exact W),trivial,?_,fun k g=>(J k (kV g z.size)).trans (q k g),?_⟩
  ·show B5 w3 r v id0 (Ja xs h.nm T)
   refine a8.stab D.size fun k g e=>⟨D.block k g (fun K=>?_),J k g⟩
   rcases e with e|⟨Z,m,e⟩
   ·rw[e] at K;exact p.n0.1 K
   ·unfold Ja at m
    obtain⟨f,t,rfl⟩:=lD.1 m
    have bh:(if f.name=h.nm then ({ f with tks:=f.tks++[T] }:TabS) else f).blk=f.blk:=by split <;> rfl
    rw[bh] at e
    rw[e] at K;exact (p.na f t).1 K
  ·refine bf.trans D (fun _ e=>e) (fun k g e=>.inl ?_)
   rw[q k g] at e;exact e
 rcases U.1 with ⟨rfl,bi⟩|⟨c,rfl,hc⟩
 ·refine⟨none,(Ae S 1).trans rfl,(DZ T.ty T.p l).mono ?_⟩
  rintro e w3 ⟨rfl,rfl⟩
  refine⟨rfl,Ly w3 _ (fun _ _=>rfl) (Ab.refl _ _) (L.eqv ai ?_)⟩
  have:=Mo.Kd (b:=[]) bi
  simpa using this
 ·refine⟨some c,(Ae S 1).trans rfl,?_⟩
  have bj:=L.AA (d:=Y.bag) (c:=c) ai ap (by simpa using aq) hc (by rw[U.2 c rfl];exact ac)
  refine bj.mono fun e w3 bk=>?_
  obtain⟨am,r,J,D,W⟩:=bk
  exact⟨am,by rw[am];exact Ly w3 r J D (by simpa using W)⟩
theorem UO {xs:List TabS}{nm:List UInt8}{T:Tk}{X:TabS}(h:X∈Ja xs nm T):∃Y∈xs,Y.blk=X.blk∧Y.name=X.name∧Y.bag=X.bag∧X.tks.length≤Y.tks.length+1:=by
 unfold Ja at h
 obtain⟨Z,a,rfl⟩:=lD.1 h
 refine⟨Z,a,?_⟩
 split
 ·exact⟨rfl,rfl,rfl,by simp⟩
 ·exact⟨rfl,rfl,rfl,by omega⟩
theorem Jv:∀{l:List (List UInt8×Tk)} {xs:List TabS} {X:TabS},X∈De xs l→∃Y∈xs,Y.blk=X.blk∧Y.name=X.name∧Y.bag=X.bag∧X.tks.length≤Y.tks.length+l.length
 | [],xs,X,h=>⟨X,h,rfl,rfl,rfl,by simp⟩
 |p::l,xs,X,h=>by
  obtain⟨Y,a,e1,b,c,_⟩:=Jv (l:=l) (xs:=Ja xs p.1 p.2) h
  obtain⟨Z,d,e,f,g,_⟩:=UO a
  exact⟨Z,d,e.trans e1,f.trans b,g.trans c,by simp only[lN];omega⟩
theorem B5.lt {w:World}{O:Ow}{v:Value}{id0:Nat}{xs:List TabS}(h:B5 w O v id0 xs){X:TabS}(a:X∈xs):X.blk<w.heap.size:=by
 obtain⟨_,_,_,b,_⟩:=h.tab X a
 exact Aa b
def RW (w:World)(O:Ow):Prop:=∀k,k<w.heap.size→O k<w.heap.size+2
theorem Jk.norm {q:Q}{T:Tk}{A:Nat→Prop}{ts:List Bool}{Gd:Bag→Prop}{R:World→Ow→Bag→Prop}{i:Nat}{F:Nat→Bag}{xs:List TabS}{v:Value}{id0:Nat}{w:World}{O:Ow}{e:Ending}{w':World}(h:Jk q T A R i F xs v id0 w O e w')(j:Ee T A ts Gd R)(l:∀a,A a→a<w.heap.size+2)(hO:RW w O)(Ad:id0<w.heap.size+2)(m:∀X∈xs,X.blk<w.heap.size) :
 e=.returned (.tuple #[])∧∃(t:Nd) (c:Ow),Hk q t∧(nds t).Nodup∧(∀b∈nds t,w.heap.size≤b∧b<w'.heap.size)∧R w' c (Av F i q)∧A8 q t T i F w' c∧B5 w' c v id0 (De xs (C5 q t T))∧(∀k,k<w.heap.size→c k=O k)∧Ab (fun k=>A (O k)∨∃X∈xs,O k=X.blk+2) w w'∧RW w' c:=by
 obtain⟨n,t,c,o,p,f,r,s,u,x,g⟩:=h
 have C:=g.size
 refine⟨n,t,fun k=>if c k<w'.heap.size+2 then c k else 0,o,p,f,?_,?_,?_,fun k d=>?_,g,fun k d=>?_⟩
 ·refine j.stab r (kZ _) fun k d e=>⟨rfl,if_pos ?_⟩
  rcases e with e|e
  ·have:=l _ e;omega
  ·omega
 ·refine A8.stab (kZ _) q t T i (fun k d e=>⟨rfl,if_pos ?_⟩) s
  rcases e with ⟨b,y,e⟩|e
  ·have:=(f b y).2;omega
  ·omega
 ·refine u.stab (kZ _) fun k d e=>⟨rfl,if_pos ?_⟩
  rcases e with e|⟨X,z,e⟩
  ·omega
  ·obtain⟨Y,B,e1,_⟩:=Jv z
   have:=m Y B;omega
 ·have:=hO k d
  show (if c k<w'.heap.size+2 then c k else 0)=O k
  rw[x k d,if_pos (by omega)]
 ·show (if c k<w'.heap.size+2 then c k else 0)<_
  split
  ·assumption
  ·omega
def oP (w:World)(O:Ow)(v':Value):Ow:=fun k=>if k<w.heap.size then O k else if k=w.heap.size∨v'.ownBlock=some k then w.heap.size+2 else 0
theorem JB {w:World}{O:Ow}{v':Value}{k:Nat}(h:k<w.heap.size):oP w O v' k=O k:=if_pos h
theorem iG (w:World)(O:Ow)(v':Value):oP w O v' w.heap.size=w.heap.size+2:=by unfold oP;rw[if_neg (by omega),if_pos (.inl rfl)]
theorem iH {w:World}{O:Ow}{v':Value}{k:Nat}(h:v'.ownBlock=some k)(_:w.heap.size<k):oP w O v' k=w.heap.size+2:=by unfold oP;rw[if_neg (by omega),if_pos (.inr h)]
theorem jJ {w:World}{O:Ow}{v':Value}{k:Nat}(h:v'.ownBlock≠some k)(_:w.heap.size<k):oP w O v' k=0:=by
 unfold oP;rw[if_neg (by omega),if_neg];rintro (e|e)
 ·omega
 ·exact h e
theorem RW.oP {w b:World}{O:Ow}{v':Value}(h:RW w O)(_:w.heap.size<b.heap.size):RW b (oP w O v'):=fun k _=>by
 by_cases a:k<w.heap.size
 ·rw[JB a];have:=h k a;omega
 ·unfold Go.Proofs.YtdinjjmcmfjbfaaGreatDoor.oP;rw[if_neg a];split <;> omega
theorem Ia.more {A:Nat→Prop}{id0:Nat}{xs:List TabS}(h:Ia A id0 xs){b:Nat}(Ad:id0≠b+2)(d:∀X∈xs,X.blk≠b):Ia (fun a=>A a∨a=b+2) id0 xs :=
 ⟨h.nm,h.bl,fun X c=>⟨fun e=>e.elim (h.na X c).1 (fun e=>d X c (by omega)),(h.na X c).2⟩,⟨fun e=>e.elim h.n0.1 Ad,h.n0.2⟩,h.len,h.tks⟩
theorem LO {T:Tk}{A:Nat→Prop}{ts:List Bool}{Gd:Bag→Prop}{R:World→Ow→Bag→Prop}(u:Ee T A ts Gd R){us:List Bool}{Gd1:Bag→Prop}(j:Nat→Tk)(G:Bag→Bag)(l:World→Ow→Nat→Bag→Prop)
 (H:∀b,¬A (b+2)→Ee (j b) (fun a=>A a∨a=b+2) us Gd1 (fun w O B=>R w O (G B)∧l w O b B)) (I:Be [] (G [])) (o:TypeId) (a1:Nat→Addr) (J:∀b,(j b).val=.iface o (.pointer (some (a1 b)))) (tb:TypeId) (p:Array Value)
 (P:Nat) (h:Hd) (f:h.k≠1) (lv iv v:Value) (p1 i id0:Nat) (F:Nat→Bag) (xs:List TabS) (q:Q) (w:World) (O:Ow) (K:w.heap[P]? =some (.cells (A0 h lv iv) 139 (0,0))) (L:Uj w iv [p1])
 (M:Calls Tryz.prog 65 #[.pointer (some ⟨P,0,none⟩),T.val] w (Wd tb p T.val (fun b=>[.iface o (.pointer (some (a1 b)))]) w))
 (N:∀c g v',c.heap[w.heap.size]? =some (.cells (p.setIfInBounds 0 v') tb (0,0))→c.ownsRow 0 143 1 v' 1 [T.val]→g w.heap.size=w.heap.size+2→(∀k,v'.ownBlock=some k→g k=w.heap.size+2)→(∀k,k<w.heap.size→g k=O k)→Ab No w c→l c g w.heap.size [])
 (S:R w O []) (x:B5 w O v id0 xs) (U:Ia A id0 xs) (V:∀a,A a→a<w.heap.size+2) (hO:RW w O) (Ad:id0<w.heap.size+2)
 (W:∀c g,Ab No w c→w.heap.size<c.heap.size→(∀k,k<w.heap.size→g k=O k)→RW c g→Ee (j w.heap.size) (fun a=>A a∨a=w.heap.size+2) us Gd1 (fun w' d B=>R w' d (G B)∧l w' d w.heap.size B)→(R c g (G [])∧l c g w.heap.size [])→B5 c g v id0 xs→Ia (fun a=>A a∨a=w.heap.size+2) id0 xs →
   Calls Tryz.prog 39 #[v,pV p1,(j w.heap.size).val] c (Jk q (j w.heap.size) (fun a=>A a∨a=w.heap.size+2) (fun w' d B=>R w' d (G B)∧l w' d w.heap.size B) i F xs v id0 c g)) :
 Calls Tryz.prog 39 #[v,.pointer (some ⟨P,0,none⟩),T.val] w fun e w'=>e=.returned (.tuple #[])∧∃(t:Nd) (d:Ow),Hk q t∧(w.heap.size::nds t).Nodup∧(∀b∈w.heap.size::nds t,w.heap.size≤b∧b<w'.heap.size)∧R w' d (G (Av F i q))∧l w' d w.heap.size (Av F i q)∧A8 q t (j w.heap.size) i F w' d∧B5 w' d v id0 (De xs (C5 q t (j w.heap.size)))∧(∀k,k<w.heap.size→d k=O k)∧Ab (fun k=>A (O k)∨∃X∈xs,O k=X.blk+2) w w':=by
 have Y:¬A (w.heap.size+2):=fun e=>by have:=V _ e;omega
 refine IY P h f lv iv v p1 T.ty T.p w _ K L o a1 tb p M fun c v' y ho Z m=>?_
 have r:w.heap.size<c.heap.size:=Aa y
 have n:∀k,k<w.heap.size→oP w O v' k=O k:=fun k f=>JB f
 have aa:=N c (oP w O v') v' y ho (iG _ _ _) (fun k e=>iH e (Z k e)) n m
 have ab:R c (oP w O v') (G []):=u.eqv (u.kept S m (fun k e=>e.elim) n) I
 have ac:B5 c (oP w O v') v id0 xs:=x.stab m.size fun k f _=>⟨m.block k f oI,n k f⟩
 have ad:=U.more (b:=w.heap.size) (by omega) (fun X ae=>by have:=x.lt ae;omega)
 have z:=W c (oP w O v') m r n (hO.oP r) (H _ Y) ⟨ab,aa⟩ ac ad
 rw[J] at z
 refine z.mono fun e an af=>?_
 obtain⟨C,t,d,ag,ah,D,⟨ai,aj⟩,ak,al,am,E⟩:=af
 refine⟨C,C,t,d,ag,mJ.2 ⟨fun e=>?_,ah⟩,fun b s=>?_,ai,aj,ak,al,fun k f=>?_,?_⟩
 ·have:=(D _ e).1;omega
 ·rcases lQ.1 s with rfl|s
  ·exact⟨kZ _,kV r E.size⟩
  ·have:=D b s;exact⟨by omega,this.2⟩
 ·exact (am k (by omega)).trans (n k f)
 ·refine m.trans E (fun _ e=>e.elim) fun k f e=>?_
  rw[n k f] at e
  rcases e with (e|e)|e
  ·exact .inl e
  ·have:=hO k f;omega
  ·exact .inr e
open Mo (V Row Bag cnt Af Be B0 Fw Q Cy Ac Av B1)
theorem eD {w:World}{v T:Value}(h:w.ownsRow 0 143 1 v 1 [T]):∃g cap,v=DK g cap∧∀(O:Ow) (b:Nat),(∀k,v.ownBlock=some k→O k=b+2)→Qb w O b g T:=by
 rcases h.2 with ⟨_,c⟩|⟨g,cap,cur,rfl,_,hg,hc1,_,hc2,hc3⟩
 ·cases c
 ·refine⟨g,cap,rfl,fun O b hO=>⟨hO g rfl,cur,_,hg,?_⟩⟩
  have a:(cur.toList.take (1*1))[0]? =some T:=by rw[hc3];rfl
  rw[lM] at a
  simpa using a
theorem OO:Af ([]:Bag)=[]:=rfl
theorem E9.none (w:World)(O:Ow)(b:Nat):E9 w O b (.map none) []:=⟨.inl ⟨rfl,OO⟩,fun k e=>by cases e⟩
section
variable {w:World} {O:Ow} {b:Nat} {v' T:Value} (ho:w.ownsRow 0 143 1 v' 1 [T]) (hO:O b=b+2) (hv:∀k,v'.ownBlock=some k→O k=b+2)
include ho hO hv
theorem aG (a:w.heap[b]? =some (.cells ((#[sN]:Array Value).setIfInBounds 0 v') 289 (0,0))):Uh w O b T:=by
 obtain⟨g,cap,rfl,c⟩:=eD ho
 exact⟨hO,g,cap,a,c O b hv⟩
theorem aH {n:Nat}{l r:Cy}(a:w.heap[b]? =some (.cells ((On sN n l r).setIfInBounds 0 v') 277 (0,0))):Qk w O b T n l r:=by
 obtain⟨g,cap,rfl,c⟩:=eD ho
 exact⟨hO,g,cap,a,c O b hv⟩
theorem UQ {cv:Value}{cs:List Nat}(a:w.heap[b]? =some (.cells ((#[sN,cv]:Array Value).setIfInBounds 0 v') 280 (0,0)))(c:Ol w O cv cs):Om w O b T cs:=by
 obtain⟨g,cap,rfl,d⟩:=eD ho
 exact⟨hO,g,cap,cv,a,d O b hv,c⟩
end
theorem aI {w:World}{O:Ow}{X:Nat→Prop}{lv:Value}{cs:List Nat}(h:w.ownsRow 0 3 1 lv cs.length (Fj cs))(d:∀b,lv.ownBlock=some b→X b)(f:∀k,X k→O k=1):Ol w O lv cs:=by
 refine⟨?_,fun k e=>f k (d k e)⟩
 rcases h.2 with ⟨e,j⟩|⟨g,cap,cur,rfl,_,hg,hc1,_,hc2,hc3⟩
 ·exact .inl ⟨e,lP j⟩
 ·refine .inr ⟨g,0,cap,rfl,Aa hg,fun i c hi=>?_⟩
  have l:i<cs.length:=(kS.1 hi).1
  have a:(cur.toList.take (cs.length*1))[i]? =some (.int .i64 (c:Int)):=by rw[hc3];unfold Fj;rw[kX,hi];rfl
  rw[lM,if_pos (by omega)] at a
  rw[lK,Ae hg]
  simpa using a
theorem F6:∀(q:Q) (t:Nd) (T:Tk),Hk q t→(C5 q t T).length=(Ac q).length
 | .tab _,.leaf,_,_=>rfl
 | .sel _ _ _ q,.one b t,_,h=>F6 q t (IU b) h
 | .pick _ q,.one b t,_,h=>F6 q t (Yr b) h
 | .dist q,.one b t,_,h=>F6 q t (LJ b) h
 | .grp _ _ q,.one b t,_,h=>F6 q t (aE b) h
 | .join _ _ q r,.two b t a,_,h=>by simp only[C5,Ac,kU];rw[F6 q t _ h.1,F6 r a _ h.2]
 | .uni q r,.two b t a,_,h=>by simp only[C5,Ac,kU];rw[F6 q t _ h.1,F6 r a _ h.2]
theorem OP {β:Type}(g:TabS→β)(hg:∀(X:TabS) (l:List Tk),g { X with tks:=l }=g X)(xs:List TabS)(nm:List UInt8)(T:Tk):(Ja xs nm T).map g=xs.map g:=by
 unfold Ja
 rw[mH]
 refine mS fun X _=>?_
 show g (if X.name=nm then _ else X)=g X
 split
 ·exact hg X _
 ·rfl
theorem Ib {β:Type}(g:TabS→β)(hg:∀(X:TabS) (l:List Tk),g { X with tks:=l }=g X):∀(l:List (List UInt8×Tk)) (xs:List TabS),(De xs l).map g=xs.map g
 | [],_=>rfl
 |p::l,xs=>(Ib g hg l (Ja xs p.1 p.2)).trans (OP g hg xs p.1 p.2)
theorem Xw (xs:List TabS)(l m:List (List UInt8×Tk)):De xs (l++m)=De (De xs l) m:=List.foldl_append ..
theorem OQ {l:List (List UInt8×Tk)}{xs:List TabS}{X:TabS}(h:X∈xs):∃Y∈De xs l,Y.name=X.name∧Y.bag=X.bag:=by
 have a:(X.name,X.bag)∈(De xs l).map (fun Y=>(Y.name,Y.bag)):=by
  rw[Ib (fun Y=>(Y.name,Y.bag)) (fun _ _=>rfl)];exact lD.2 ⟨X,h,rfl⟩
 obtain⟨Y,b,e⟩:=lD.1 a
 injection e with e1 c
 exact⟨Y,b,e1,c⟩
theorem Ia.jK {A:Nat→Prop}{id0:Nat}{xs:List TabS}(h:Ia A id0 xs)(l:List (List UInt8×Tk)){B:Nat→Prop}(c:¬B id0)(hB:∀X∈xs,¬B (X.blk+2))(d:∀X∈xs,X.tks.length+l.length≤1000000):Ia B id0 (De xs l):=by
 refine⟨by rw[Ib (·.name) (fun _ _=>rfl)];exact h.nm,by rw[Ib (·.blk) (fun _ _=>rfl)];exact h.bl,fun X b=>?_,⟨c,h.n0.2⟩,?_,fun X b=>?_⟩
 ·obtain⟨Y,a,e,_⟩:=Jv b
  rw[←e];exact⟨hB Y a,(h.na Y a).2⟩
 ·have:=congrArg List.length (Ib (·.name) (fun _ _=>rfl) l xs)
  simp only[lB] at this
  rw[this];exact h.len
 ·obtain⟨Y,a,_,_,_,e⟩:=Jv b
  have:=d Y a;omega
theorem UR {T:Tk}{A:Nat→Prop}{ts:List Bool}{Gd:Bag→Prop}{R:World→Ow→Bag→Prop}(L:Ee T A ts Gd R){us1 us2:List Bool}{Gd1 Gd2:Bag→Prop}(j C:Nat→Tk)(G:Bag→Bag→Bag)(p:World→Ow→Nat→Bag→Bag→Prop)(i:Nat)(F:Nat→Bag)(q r:Q)
 (ad:∀b,¬A (b+2)→Ee (j b) (fun a=>A a∨a=b+2) us1 Gd1 (fun w O B=>R w O (G B [])∧p w O b B []))
 (ap:∀b,¬A (b+2)→Ee (C b) (fun a=>A a∨a=b+2) us2 Gd2 (fun w O B=>R w O (G (Av F i q) B)∧p w O b (Av F i q) B))
 (aq:Be [] (G [] [])) (J:TypeId) (a1 S:Nat→Addr) (ar:∀b,(j b).val=.iface J (.pointer (some (a1 b)))) (au:∀b,(C b).val=.iface J (.pointer (some (S b)))) (tb:TypeId) (U:Array Value)
 (P:Nat) (h:Hd) (c:h.k≠1) (lv iv v:Value) (p1 p2 id0:Nat) (xs:List TabS) (w:World) (O:Ow) (av:w.heap[P]? =some (.cells (A0 h lv iv) 139 (0,0))) (aw:Uj w iv [p1,p2]) (ax:∀g,iv.ownBlock=some g→g<w.heap.size∧O g=1)
 (ay:Calls Tryz.prog 65 #[.pointer (some ⟨P,0,none⟩),T.val] w (Wd tb U T.val (fun b=>[.iface J (.pointer (some (a1 b))),.iface J (.pointer (some (S b)))]) w))
 (az:∀f s v',f.heap[w.heap.size]? =some (.cells (U.setIfInBounds 0 v') tb (0,0))→f.ownsRow 0 143 1 v' 1 [T.val]→s w.heap.size=w.heap.size+2→(∀k,v'.ownBlock=some k→s k=w.heap.size+2)→p f s w.heap.size [] [])
 (a0:R w O []) (ae:B5 w O v id0 xs) (M:Ia A id0 xs) (a2:∀X∈xs,X.tks.length+(Ac q).length≤1000000) (N:∀a,A a→a<w.heap.size+2) (hO:RW w O) (Ad:id0<w.heap.size+2)
 (a3:∀f s,Ab No w f→w.heap.size<f.heap.size→(∀k,k<w.heap.size→s k=O k)→RW f s→Ee (j w.heap.size) (fun a=>A a∨a=w.heap.size+2) us1 Gd1 (fun w' d B=>R w' d (G B [])∧p w' d w.heap.size B [])→(R f s (G [] [])∧p f s w.heap.size [] [])→B5 f s v id0 xs→Ia (fun a=>A a∨a=w.heap.size+2) id0 xs →
   Calls Tryz.prog 39 #[v,pV p1,(j w.heap.size).val] f (Jk q (j w.heap.size) (fun a=>A a∨a=w.heap.size+2) (fun w' d B=>R w' d (G B [])∧p w' d w.heap.size B []) i F xs v id0 f s))
 (a4:∀t l u,(∀k,k<w.heap.size→O k=1→l.heap[k]? =w.heap[k]?)→w.heap.size<l.heap.size→(∀k,k<w.heap.size→u k=O k)→RW l u→(∀a,((A a∨a=w.heap.size+2)∨∃x∈nds t,a=x+2)→a<l.heap.size+2)→Ee (C w.heap.size) (fun a=>(A a∨a=w.heap.size+2)∨∃x∈nds t,a=x+2) us2 Gd2 (fun w' d B=>(R w' d (G (Av F i q) B)∧p w' d w.heap.size (Av F i q) B)∧A8 q t (j w.heap.size) i F w' d) →
   ((R l u (G (Av F i q) [])∧p l u w.heap.size (Av F i q) [])∧A8 q t (j w.heap.size) i F l u)→(C5 q t (j w.heap.size)).length=(Ac q).length→B5 l u v id0 (De xs (C5 q t (j w.heap.size)))→Ia (fun a=>(A a∨a=w.heap.size+2)∨∃x∈nds t,a=x+2) id0 (De xs (C5 q t (j w.heap.size))) →
   Calls Tryz.prog 39 #[v,pV p2,(C w.heap.size).val] l (Jk r (C w.heap.size) (fun a=>(A a∨a=w.heap.size+2)∨∃x∈nds t,a=x+2) (fun w' d B=>(R w' d (G (Av F i q) B)∧p w' d w.heap.size (Av F i q) B)∧A8 q t (j w.heap.size) i F w' d) (i+(Ac q).length) F (De xs (C5 q t (j w.heap.size))) v id0 l u)) :
 Calls Tryz.prog 39 #[v,.pointer (some ⟨P,0,none⟩),T.val] w fun e w'=>e=.returned (.tuple #[])∧∃(t D:Nd) (d:Ow),(Hk q t∧Hk r D)∧(w.heap.size::(nds t++nds D)).Nodup∧(∀b∈w.heap.size::(nds t++nds D),w.heap.size≤b∧b<w'.heap.size)∧R w' d (G (Av F i q) (Av F (i+(Ac q).length) r))∧(p w' d w.heap.size (Av F i q) (Av F (i+(Ac q).length) r)∧A8 q t (j w.heap.size) i F w' d∧A8 r D (C w.heap.size) (i+(Ac q).length) F w' d) ∧
  B5 w' d v id0 (De xs (C5 q t (j w.heap.size)++C5 r D (C w.heap.size)))∧(∀k,k<w.heap.size→d k=O k)∧Ab (fun k=>A (O k)∨∃X∈xs,O k=X.blk+2) w w':=by
 have V:¬A (w.heap.size+2):=fun e=>by have:=N _ e;omega
 refine IZ P h c lv iv v p1 p2 T.ty T.p w _ av aw J a1 S tb U ay fun f v' af ag ho a5 a6 a7 a8 I=>?_
 have ah:w.heap.size<f.heap.size:=Aa ag
 have E:∀k,k<w.heap.size→oP w O v' k=O k:=fun k c=>JB c
 have a9:=az f (oP w O v') v' ag ho (iG _ _ _) (fun k e=>iH e (a5 k e))
 have ba:R f (oP w O v') (G [] []):=L.eqv (L.kept a0 I (fun k e=>e.elim) E) aq
 have bb:B5 f (oP w O v') v id0 xs:=ae.stab I.size fun k c _=>⟨I.block k c oI,E k c⟩
 have W:∀X∈xs,X.blk<w.heap.size:=fun X n=>ae.lt n
 have bc:=M.more (b:=w.heap.size) (by omega) (fun X n=>by have:=W X n;omega)
 have ai:RW f (oP w O v'):=hO.oP ah;have aj:=a3 f (oP w O v') I ah E ai (ad _ V) ⟨ba,a9⟩ bb bc
 rw[ar] at aj
 refine aj.mono fun e l bd=>?_
 obtain⟨be,t,u,ak,bf,z,⟨bg,bh⟩,bi,bj,bk,K,bl⟩:=bd.norm (ad _ V) (fun a m=>by
  rcases m with m|m
  ·have:=N a m;omega
  ·omega) ai (by omega) (fun X n=>by have:=W X n;omega)
 have b7:=K.size
 have Z:∀k,k<w.heap.size→u k=O k:=fun k c=>(bk k (by omega)).trans (E k c)
 have aa:∀k,oP w O v' k≤1→¬((A (oP w O v' k)∨oP w O v' k=w.heap.size+2)∨∃X∈xs,oP w O v' k=X.blk+2):=fun k c e=>by
  rcases e with (e|e)|⟨X,_,e⟩
  ·have:oP w O v' k=0∨oP w O v' k=1:=by omega
   rcases this with ab|ab
   ·rw[ab] at e;exact L.zero e
   ·rw[ab] at e;exact L.one e
  ·omega
  ·omega
 have bm:∀k,k<w.heap.size→O k=1→l.heap[k]? =w.heap[k]? :=fun k c e=>(K.block k (by omega) (aa k (by rw[E k c];omega))).trans (I.block k c oI)
 refine⟨be,K.block af a6 (aa af (by rw[jJ a8 a7];omega)),fun g hg=>?_,?_⟩
 ·obtain⟨bn,_⟩:=ax g hg
  exact K.block g (by omega) (aa g (by rw[E g bn];omega))
 ·have al:=F6 q t (j w.heap.size) ak
  have bo:=Et.frame (ap _ V) (fun a=>∃x∈nds t,a=x+2) (fun w' d=>A8 q t (j w.heap.size) i F w' d) (fun ⟨x,_,e⟩=>by omega) (fun ⟨x,_,e⟩=>by omega) (fun a m ⟨x,o,e⟩=>by
   have:=(z x o).1
   rcases m with m|m
   ·have:=N a m;omega
   ·omega) (fun bp bq c=>A8.stab bq q t _ _ c bp)
  have br:=M.jK (C5 q t (j w.heap.size)) (B:=fun a=>(A a∨a=w.heap.size+2)∨∃x∈nds t,a=x+2) (fun e=>by
   rcases e with (e|e)|⟨x,o,e⟩
   ·exact M.n0.1 e
   ·omega
   ·have:=(z x o).1;omega) (fun X n e=>by
   have:=W X n
   rcases e with (e|e)|⟨x,o,e⟩
   ·exact (M.na X n).1 e
   ·omega
   ·have:=(z x o).1;omega) (fun X n=>by rw[al];exact a2 X n)
  have am:=a4 t l u bm (by omega) Z bl (fun a m=>by
   rcases m with (m|m)|⟨x,o,e⟩
   ·have:=N a m;omega
   ·omega
   ·have:=(z x o).2;omega) bo ⟨⟨bg,bh⟩,bi⟩ al bj br
  rw[au] at am
  refine am.mono fun b8 w3 bs=>?_
  obtain⟨an,D,bt,bu,bv,ac,⟨⟨bw,bx⟩,bz⟩,b0,b1,b2,ao⟩:=bs
  have b9:=ao.size
  refine⟨an,an,t,D,bt,⟨ak,bu⟩,mJ.2 ⟨fun e=>?_,mO.2 ⟨bf,bv,fun x o y b3 e=>?_⟩⟩,fun b H=>?_,bw,⟨bx,bz,b0⟩,by rw[Xw];exact b1,fun k c=>(b2 k (by omega)).trans (Z k c),?_⟩
  ·rcases lC.1 e with e|e
   ·have:=(z _ e).1;omega
   ·have:=(ac _ e).1;omega
  ·have:=(z x o).2;have:=(ac y b3).1;omega
  ·rcases lQ.1 H with rfl|H
   ·exact⟨kZ _,by omega⟩
   ·rcases lC.1 H with H|H
    ·have:=z b H;exact⟨by omega,by omega⟩
    ·have:=ac b H;exact⟨by omega,by omega⟩
  ·have b4:Ab (fun k=>A (O k)∨∃X∈xs,O k=X.blk+2) w l:=I.trans K (fun _ e=>e.elim) fun k c e=>by
    rw[E k c] at e
    rcases e with (e|e)|e
    ·exact .inl e
    ·have:=hO k c;omega
    ·exact .inr e
   refine b4.trans ao (fun _ e=>e) fun k c e=>?_
   rw[Z k c] at e
   have:=hO k c
   rcases e with ((e|e)|⟨x,o,e⟩)|⟨X,n,e⟩
   ·exact .inl e
   ·omega
   ·have:=(z x o).1;omega
   ·obtain⟨Y,b5,b6,_⟩:=Jv n
    exact .inr ⟨Y,b5,by rw[b6];exact e⟩
open Mo (V Row Bag cnt Af Be B0 Fw Q Cy Ac Av A9 wf Xm Qx Cr Ls B1 I7 Gm)
def Mf (F:Nat→Bag)(n:Nat):Nat→Bag:=fun k=>if k<n then F k else []
theorem Iw:∀(q:Q) (i:Nat) (f:Nat→Bag),(∀j,i≤j→j<i+(Ac q).length→f j=[])→Av f i q=[]
 | .tab _,i,f,h=>h i (kZ _) (by simp[Ac])
 | .sel c k x q,i,f,h=>by show Cr _ (Av f i q)=[];rw[Iw q i f h];rfl
 | .pick cs q,i,f,h=>by show B1 _ (Av f i q)=[];rw[Iw q i f h];rfl
 | .dist q,i,f,h=>by show I7 (Av f i q)=[];rw[Iw q i f h];rfl
 | .grp cs s q,i,f,h=>by show Mo.Ir cs s (Av f i q)=[];rw[Iw q i f h];rfl
 | .join n m q r,i,f,h=>by show Gm n m (Av f i q) _=[];rw[Iw q i f fun j a b=>h j a (by simp only[Ac,kU];omega)];rfl
 | .uni q r,i,f,h=>by
   show Av f i q++Av f (i+(Ac q).length) r=[]
   rw[Iw q i f fun j a b=>h j a (by simp only[Ac,kU];omega),Iw r _ f fun j a b=>h j (by omega) (by simp only[Ac,kU];omega)];rfl
def Q9 (ft:List UInt8→Option (List Bool))(Gd:Bag→Prop)(q:Q)(i:Nat)(F:Nat→Bag):Prop:=∀j,j≤(Ac q).length→Qx ft q i (Mf F (i+j))∧Gd (Av (Mf F (i+j)) i q)
section
variable {ft:List UInt8→Option (List Bool)} {Gd:Bag→Prop} {q r:Q} {i:Nat} {F:Nat→Bag} {us vs:List Bool}
theorem Wh (a:A9 ft q=some us){f:Nat→Bag}(h:Xm ft q i f):B0 us (Av f i q):=by
 obtain⟨b,a1,c⟩:=h
 rw[a] at a1
 have:b=us:=by simpa using a1.symm
 subst this;exact c
theorem Q9.un (c:A9 ft q=some us){Q1:Q}(G:Bag→Bag)(_:(Ac Q1).length=(Ac q).length)(hO:∀f,Qx ft Q1 i f→Xm ft q i f∧Qx ft q i f)(d:∀f,Av f i Q1=G (Av f i q))(h:Q9 ft Gd Q1 i F):Q9 ft (fun B=>B0 us B∧Gd (G B)) q i F:=fun j g=>by
 obtain⟨a,b⟩:=h j (by omega)
 obtain⟨a1,e⟩:=hO _ a
 rw[d] at b
 exact⟨e,Wh c a1,b⟩
theorem EA (j:Nat)(_:j≤(Ac q).length):Av (Mf F (i+j)) (i+(Ac q).length) r=[]:=Iw r _ _ fun k a b=>if_neg (by omega)
theorem Yx (j:Nat):Av (Mf F (i+((Ac q).length+j))) i q=Av F i q:=Ds q i fun k a b=>if_pos (by omega)
theorem Q9.left (e:A9 ft q=some us)(g:A9 ft r=some vs){Q1:Q}(G:Bag→Bag→Bag)(_:(Ac Q1).length=(Ac q).length+(Ac r).length)(hO:∀f,Qx ft Q1 i f→(Xm ft q i f∧Xm ft r (i+(Ac q).length) f)∧Qx ft q i f∧Qx ft r (i+(Ac q).length) f)(k:∀f,Av f i Q1=G (Av f i q) (Av f (i+(Ac q).length) r))(h:Q9 ft Gd Q1 i F):Q9 ft (fun B=>B0 us B∧B0 vs []∧Gd (G B [])) q i F:=fun j c=>by
 obtain⟨a,b⟩:=h j (by omega)
 obtain⟨⟨a1,l⟩,m,_⟩:=hO _ a
 have d:=Wh g l
 rw[EA j c] at d
 rw[k,EA j c] at b
 exact⟨m,Wh e a1,d,b⟩
theorem Q9.right (g:A9 ft q=some us)(k:A9 ft r=some vs){Q1:Q}(G:Bag→Bag→Bag)(_:(Ac Q1).length=(Ac q).length+(Ac r).length)(hO:∀f,Qx ft Q1 i f→(Xm ft q i f∧Xm ft r (i+(Ac q).length) f)∧Qx ft q i f∧Qx ft r (i+(Ac q).length) f)(l:∀f,Av f i Q1=G (Av f i q) (Av f (i+(Ac q).length) r))(h:Q9 ft Gd Q1 i F):Q9 ft (fun B=>B0 vs B∧B0 us (Av F i q)∧Gd (G (Av F i q) B)) r (i+(Ac q).length) F:=fun j m=>by
 obtain⟨a,b⟩:=h ((Ac q).length+j) (by omega)
 obtain⟨⟨a1,c⟩,_,d⟩:=hO _ a
 have e:=Wh g a1
 rw[Yx] at e
 rw[l,Yx] at b
 rw[←mT] at d c b
 exact⟨d,Wh k c,e,b⟩
end
structure aJ (ft:List UInt8→Option (List Bool)) (X:Nat→Prop) (w0:World) (v:Value) (id0:Nat) (F:Nat→Bag) (xs:List TabS) (i:Nat) (q:Q) (T:Tk) (A:Nat→Prop) (ts:List Bool) (Gd:Bag→Prop) (R:World→Ow→Bag→Prop) (w:World) (O:Ow):Prop where
 agree:∀k,X k→k<w.heap.size∧w.heap[k]? =w0.heap[k]?∧O k=1
 tk:Ee T A ts Gd R
 ty:A9 ft q=some ts
 wf:wf q
 ok:Q9 ft Gd q i F
 fit:∀(j:Nat) (nm:List UInt8),(Ac q)[j]? =some nm→∃Y∈xs,Y.name=nm∧F (i+j)=Y.bag
 r0:R w O []
 tabs:B5 w O v id0 xs
 tok:Ia A id0 xs
 tks:∀Y∈xs,Y.tks.length+(Ac q).length≤1000000
 ab:∀a,A a→a<w.heap.size+2
 old:RW w O
 id:id0<w.heap.size+2
theorem aJ.ag {ft:List UInt8→Option (List Bool)}{X:Nat→Prop}{w0:World}{v:Value}{id0:Nat}{F:Nat→Bag}{xs:List TabS}{i:Nat}{q:Q}{T:Tk}{A:Nat→Prop}{ts:List Bool}{Gd:Bag→Prop}{R:World→Ow→Bag→Prop}{w:World}{O:Ow}(e:aJ ft X w0 v id0 F xs i q T A ts Gd R w O){a:World}{b:Ow}(_:w.heap.size≤a.heap.size)(h:∀k,k<w.heap.size→O k=1→a.heap[k]? =w.heap[k]?)(hO:∀k,k<w.heap.size→b k=O k):∀k,X k→k<a.heap.size∧a.heap[k]? =w0.heap[k]?∧b k=1:=fun k f=>by
 obtain⟨c,g,d⟩:=e.agree k f
 exact⟨by omega,(h k c d).trans g,(hO k c).trans d⟩
theorem Ra {w:World}{iv:Value}{ps:List Nat}(h:w.ownsRow 0 69 1 iv ps.length (ps.map pV))(b:ps≠[]):Uj w iv ps:=by
 rcases h.2 with ⟨_,c⟩|⟨g,cap,cur,rfl,_,hg,hc1,_,hc2,hc3⟩
 ·exact absurd (lP c) b
 ·refine⟨g,cap,cur,_,rfl,hg,fun i x hi=>?_⟩
  have d:i<ps.length:=(kS.1 hi).1
  have a:(cur.toList.take (ps.length*1))[i]? =some (pV x):=by rw[hc3,kX,hi];rfl
  rw[lM,if_pos (by omega)] at a
  simpa using a
theorem AQ {k:Nat}(h:Pl.Co k=1)(_:k≤7):k=2∨k=3∨k=6∨k=7:=by
 unfold Pl.Co at h
 by_cases a:k=0∨k=1
 ·rw[if_pos a] at h;omega
 ·rw[if_neg a] at h
  by_cases b:k=4∨k=5
  ·rw[if_pos b] at h;omega
  ·omega
theorem Rl {k:Nat}(h:Pl.Co k=2):k=4∨k=5:=by
 unfold Pl.Co at h
 by_cases a:k=0∨k=1
 ·rw[if_pos a] at h;omega
 ·rw[if_neg a] at h
  by_cases b:k=4∨k=5
  ·exact b
  ·rw[if_neg b] at h;omega
end Go.Proofs.YtdinjjmcmfjbfaaGreatDoor
