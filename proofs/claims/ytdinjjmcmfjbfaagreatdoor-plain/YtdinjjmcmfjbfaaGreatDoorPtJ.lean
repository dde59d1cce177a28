import Derived.Test.YtdinjjmcmfjbfaaGreatDoorLlJ
set_option maxRecDepth 100000
set_option maxHeartbeats 4000000
namespace Go.Proofs.YtdinjjmcmfjbfaaGreatDoor
open Go.RowKit Go.Shelf
open Mo (V Row Bag cnt Af Be B0 Fw Q Cy Ac Av A9 wf Xm Qx Cr Ls B1 I7 Gm)
section
variable {ft:List UInt8→Option (List Bool)} (hf:∀nm us,ft nm=some us→1≤us.length∧us.length≤6)
variable {X:Nat→Prop} {w0:World} {v:Value} {id0:Nat} {F:Nat→Bag}
def Sg (ft:List UInt8→Option (List Bool))(X:Nat→Prop)(w0:World)(v:Value)(id0:Nat)(F:Nat→Bag)(p:Nat)(q:Q):Prop :=
 ∀{xs:List TabS} {i:Nat} {T:Tk} {A:Nat→Prop} {ts:List Bool} {Gd:Bag→Prop} {R:World→Ow→Bag→Prop} {w:World} {O:Ow},aJ ft X w0 v id0 F xs i q T A ts Gd R w O →
  Calls Tryz.prog 39 #[v,pV p,T.val] w (Jk q T A R i F xs v id0 w O)
theorem OR {p:Nat}{h:Hd}{cs:List Nat}(b:h.k=1)(f:Ry w0 X p h cs []):Sg ft X w0 v id0 F p (.tab h.nm):=fun {xs i T A ts Gd R w O} a=>by
 obtain⟨_,lv,iv,g,_,_,_,_,_⟩:=f.mono (w':=w) (fun k b=>(a.agree k b).2.1) (fun _ e=>e)
 obtain⟨Y,j,e1,c⟩:=a.fit 0 h.nm rfl
 have g0:=(a.ok 0 (by simp[Ac])).2
 have d:=(a.ok 1 (by simp[Ac])).2
 have l:Av (Mf F (i+0)) i (.tab h.nm)=[]:=if_neg (by omega)
 have m:Av (Mf F (i+1)) i (.tab h.nm)=Y.bag:=(if_pos (by omega)).trans c
 rw[l] at g0
 rw[m] at d
 exact UN a.tk p h b lv iv v i id0 F xs Y j e1 c g0 d w O g a.r0 a.tabs a.tok
include hf
theorem OS {p p1:Nat}{h:Hd}{cs:List Nat}{q:Q}(g:h.k=2)(hi:Pl.Co h.k=1)(u:Ry w0 X p h cs [p1])(x:Sg ft X w0 v id0 F p1 q){c:Nat}(y:h.l=.col c):Sg ft X w0 v id0 F p (.sel c (Jh h.cmp) h.r q):=fun {xs i T A ts Gd R w O} d=>by
 obtain⟨_,lv,iv,m,_,z,_,_,C⟩:=u.mono (w':=w) (fun k g=>(d.agree k g).2.1) (fun _ e=>e)
 obtain⟨us,n,D⟩:=lG.1 (show (A9 ft q).bind (Mo.Dp c h.r)=some ts from d.ty)
 have E:=Mo.Fi hf q us d.wf.2.2 n
 obtain⟨G,H⟩:=Ys D E.2 d.wf.2.1
 subst G
 have r:=We p h C.2.2.2 (by omega) (.inl hi) _ iv 275 277 (by decide) UK (On sN h.cmp h.l h.r) rfl T.ty T.p w m (AN p h g lv iv w m)
 rw[hi] at r
 refine (LO d.tk IU (Cr (Ls c (Jh h.cmp) h.r)) (fun w O b _=>Qk w O b T.val h.cmp (.col c) h.r) (us:=ts) (Gd1:=fun B=>B0 ts B∧Gd (Cr (Ls c (Jh h.cmp) h.r) B)) (fun b j=>Yp d.tk b h.cmp (.col c) h.r ts H j) (Be.refl _) 275 (fun b=>⟨b,0,none⟩) (fun _=>rfl) 277 (On sN h.cmp h.l h.r) p h (by omega) _ iv v p1 i id0 F xs q w O m (Ra z (by simp)) r
  (fun I J v' j ho e1 K s o=>aH ho e1 K (by rw[y] at j;exact j)) d.r0 d.tabs d.tok d.ab d.old d.id
  (fun I J o ah s L M N P S=>x ⟨d.ag o.size (fun k g _=>o.block k g oI) s,M,n,d.wf.2.2,Q9.un (Q1:=.sel c (Jh h.cmp) h.r q) n (Cr (Ls c (Jh h.cmp) h.r)) rfl (fun f e=>e) (fun f=>rfl) d.ok,d.fit,N,P,S,d.tks,fun a l=>by
    rcases l with l|l
    ·have:=d.ab a l;omega
    ·omega,L,by have:=d.id;omega⟩)).mono fun e w' U=>?_
 obtain⟨V,t,W,Y,Z,aa,ab,ac,ad,ae,af,ag⟩:=U
 exact⟨V,.one w.heap.size t,W,Y,Z,aa,ab,⟨⟨h.cmp,rfl,ac⟩,ad⟩,ae,af,ag⟩
theorem JC {p p1:Nat}{h:Hd}{cs:List Nat}{q:Q}(d:h.k=3)(hi:Pl.Co h.k=1)(D:Ry w0 X p h cs [p1])(E:Sg ft X w0 v id0 F p1 q):Sg ft X w0 v id0 F p (.pick cs q):=fun {xs i T A ts Gd R w O} c=>by
 obtain⟨_,lv,iv,l,x,G,z,_,H⟩:=D.mono (w':=w) (fun k d=>(c.agree k d).2.1) (fun _ e=>e)
 obtain⟨us,m,I⟩:=lG.1 (show (A9 ft q).bind (Mo.Bt cs)=some ts from c.ty)
 have J:=Mo.Fi hf q us c.wf.2.2.2 m
 obtain⟨n,o,r,rfl⟩:=Q8 x
 have C:=We p h H.2.2.2 (by omega) (.inl hi) _ iv 278 280 (by decide) OL #[sN,.slice n o r] rfl T.ty T.p w l (Xu p h d n o r iv w l)
 rw[hi] at C
 refine (LO c.tk Yr (B1 cs) (fun w O b _=>Om w O b T.val cs) (us:=us) (Gd1:=fun B=>B0 us B∧Gd (B1 cs B)) (fun b s=>V3 c.tk b cs us (fun y K=>by have:=(Mo.Fo I).1 y K;omega) c.wf.2.1 (fun L=>Yt J.2 c.wf.2.1 L) s) (Be.refl _) 278 (fun b=>⟨b,0,none⟩) (fun _=>rfl) 280 #[sN,.slice n o r] p h (by omega) _ iv v p1 i id0 F xs q w O l (Ra G (by simp)) C
  (fun M N v' s ho e1 P u g=>UQ ho e1 P s (aI (X:=X) (Cm x fun k e=>g.block k (c.agree k (z k e)).1 oI) z (fun k e=>(u k (c.agree k e).1).trans (c.agree k e).2.2))) c.r0 c.tabs c.tok c.ab c.old c.id
  (fun M N g al u S U V W Y=>E ⟨c.ag g.size (fun k d _=>g.block k d oI) u,U,m,c.wf.2.2.2,Q9.un (Q1:=.pick cs q) m (B1 cs) rfl (fun f e=>e) (fun f=>rfl) c.ok,c.fit,V,W,Y,c.tks,fun a j=>by
    rcases j with j|j
    ·have:=c.ab a j;omega
    ·omega,S,by have:=c.id;omega⟩)).mono fun e w' Z=>?_
 obtain⟨aa,t,ab,ac,ad,ae,af,ag,ah,ai,aj,ak⟩:=Z
 exact⟨aa,.one w.heap.size t,ab,ac,ad,ae,af,⟨ag,ah⟩,ai,aj,ak⟩
end
section
variable {ft:List UInt8→Option (List Bool)} (hf:∀nm us,ft nm=some us→1≤us.length∧us.length≤6)
variable {X:Nat→Prop} {w0:World} {v:Value} {id0:Nat} {F:Nat→Bag}
theorem US {q r:Q}{xs:List TabS}{i:Nat}(h:∀(j:Nat) (nm:List UInt8),(Ac q++Ac r)[j]? =some nm→∃Y∈xs,Y.name=nm∧F (i+j)=Y.bag)(j:Nat)(nm:List UInt8)(a:(Ac q)[j]? =some nm):∃Y∈xs,Y.name=nm∧F (i+j)=Y.bag :=
 h j nm (by rw[lA (kS.1 a).1];exact a)
theorem OT {q r:Q}{xs:List TabS}{i:Nat}(h:∀(j:Nat) (nm:List UInt8),(Ac q++Ac r)[j]? =some nm→∃Y∈xs,Y.name=nm∧F (i+j)=Y.bag)(l:List (List UInt8×Tk))(j:Nat)(nm:List UInt8)(a:(Ac r)[j]? =some nm):∃Y∈De xs l,Y.name=nm∧F (i+(Ac q).length+j)=Y.bag:=by
 obtain⟨Y,b,e1,c⟩:=h ((Ac q).length+j) nm (by rw[kY (by omega),mV];exact a)
 obtain⟨Z,d,e,f⟩:=OQ (l:=l) b
 exact⟨Z,d,e.trans e1,by rw[mT,c,f]⟩
theorem OU {q r:Q}{xs:List TabS}{l:List (List UInt8×Tk)}(h:∀Y∈xs,Y.tks.length+(Ac q++Ac r).length≤1000000)(_:l.length=(Ac q).length):∀Y∈De xs l,Y.tks.length+(Ac r).length≤1000000:=fun Y a=>by
 obtain⟨Z,b,_,_,_,e⟩:=Jv a
 have:=h Z b
 rw[kU] at this
 omega
theorem OV {p p1 p2:Nat}{h:Hd}{cs:List Nat}{q r:Q}(l:h.k=5)(hi:Pl.Co h.k=2)(S:Ry w0 X p h cs [p1,p2])(U:Sg ft X w0 v id0 F p1 q)(V:Sg ft X w0 v id0 F p2 r):Sg ft X w0 v id0 F p (.uni q r):=fun {xs i T A ts Gd R w O} c=>by
 obtain⟨_,lv,iv,u,_,W,_,K,Y⟩:=S.mono (w':=w) (fun k l=>(c.agree k l).2.1) (fun _ e=>e)
 obtain⟨us,y,Z⟩:=lG.1 (show (A9 ft q).bind (fun ts=>(A9 ft r).bind fun us=>if ts=us then some ts else none)=some ts from c.ty)
 obtain⟨vs,z,o⟩:=lG.1 Z
 have aa:us=vs∧us=ts:=by
  by_cases e:us=vs
  ·rw[if_pos e] at o;exact⟨e,by simpa using o⟩
  ·rw[if_neg e] at o;cases o
 obtain⟨rfl,rfl⟩:=aa
 have L:=We p h Y.2.2.2 (by omega) (.inr hi) _ iv 287 289 (by decide) UL #[sN] rfl T.ty T.p w u (AM p h l lv iv w u)
 rw[hi] at L
 have M:∀X∈xs,X.tks.length+((Ac q).length+(Ac r).length)≤1000000:=fun X m=>by have:=c.tks X m;simp only[Ac,kU] at this;exact this
 have N:(Ac (.uni q r)).length=(Ac q).length+(Ac r).length:=kU ..
 refine (UR c.tk Mg Mg (fun B C=>B++C) (fun w O b _ _=>Uh w O b T.val) (us1:=us) (us2:=us) (Gd1:=fun B=>B0 us B∧Gd (B++[])) (Gd2:=fun B=>B0 us B∧Gd (Av F i q++B)) i F q r
  (fun b n=>Pp c.tk b us (fun B=>B++[]) (fun B d x=>by simp only[Mo.Am];omega) (fun e=>e.append (Be.refl _)) n)
  (fun b n=>Pp c.tk b us (fun B=>Av F i q++B) (fun B d x=>by simp only[Mo.Am];omega) (fun e=>(Be.refl _).append e) n)
  (Be.refl _) 287 (fun b=>⟨b,0,none⟩) (fun b=>⟨b,0,none⟩) (fun _=>rfl) (fun _=>rfl) 289 #[sN] p h (by omega) lv iv v p1 p2 id0 xs w O u (Ra W (by simp)) (fun g hg=>⟨(c.agree g (K g hg)).1,(c.agree g (K g hg)).2.2⟩) L
  (fun ab ac v' n ho e1 ad=>aG ho e1 ad n) c.r0 c.tabs c.tok (fun X m=>by have:=M X m;omega) c.ab c.old c.id
  (fun ab ac P ae D E G af ag ah=>U ⟨c.ag P.size (fun k l _=>P.block k l oI) D,G,y,c.wf.1,fun j H=>by
    obtain⟨a,I,_,J⟩:=Q9.left (Q1:=.uni q r) y z (fun B C=>B++C) N (fun f e=>e) (fun f=>rfl) c.ok j H
    exact⟨a,I,J⟩,US c.fit,af,ag,ah,fun X m=>by have:=M X m;omega,fun a s=>by
    rcases s with s|s
    ·have:=c.ab a s;omega
    ·omega,E,by have:=c.id;omega⟩)
  (fun t a2 a3 ai ae D E aj G ak al am an=>V ⟨c.ag (by omega) ai D,G,z,c.wf.2,fun j H=>by
    obtain⟨a,I,_,J⟩:=Q9.right (Q1:=.uni q r) y z (fun B C=>B++C) N (fun f e=>e) (fun f=>rfl) c.ok j H
    exact⟨a,I,J⟩,OT c.fit _,ak,am,an,OU c.tks al,aj,E,by have:=c.id;omega⟩)).mono fun e w' ao=>?_
 obtain⟨ap,t,aq,ar,au,av,aw,ax,ay,az,a0,a1⟩:=ao
 exact⟨ap,.two w.heap.size t aq,ar,au,av,aw,ax,ay,az,a0,a1⟩
include hf
theorem UU {p:Nat}{q:Q}(h:Tr w0 X p q):Sg ft X w0 v id0 F p q:=by
 induction h with
 |zero e d=>exact OR e d
 | @one p p1 h cs q hi d _ f =>
   have g:Uq h:=by obtain⟨_,_,_,_,_,_,_,_,k⟩:=d;exact k
   rcases AQ hi g.2.2.2 with a|a|a|a
   ·obtain⟨c,j⟩:=g.1 a
    have e:G8 h cs [q]=.sel c (Jh h.cmp) h.r q:=by simp[G8,a,j,G0]
    rw[e];intro xs i T A ts Gd R w O b;exact OS hf a hi d f j b
   ·have e:G8 h cs [q]=.pick cs q:=by simp[G8,a]
    rw[e];intro xs i T A ts Gd R w O b;exact JC hf a hi d f b
   ·have e:G8 h cs [q]=.dist q:=by simp[G8,a]
    rw[e];intro xs i T A ts Gd R w O b;exact b.wf.elim
   ·have e:G8 h cs [q]=.grp cs (wS h.w) q:=by simp[G8,a]
    rw[e];intro xs i T A ts Gd R w O b;exact b.wf.elim
 | @two p p1 p2 h cs q r hi d _ _ l m =>
   rcases Rl hi with a|a
   ·have e:G8 h cs [q,r]=.join (G0 h.l) (G0 h.r) q r:=by simp[G8,a]
    rw[e];intro xs i T A ts Gd R w O b;exact b.wf.elim
   ·have e:G8 h cs [q,r]=.uni q r:=by simp[G8,a]
    rw[e];intro xs i T A ts Gd R w O b;exact OV a hi d l m b
end
open Mo (V Row Bag cnt Af Be B0 Fw Q Cy Ac Av A9 wf Xm Qx It Hx Ag)
theorem Yy {F:Nat→Bag}(h:It F 120)(n:Nat):It (Mf F n) 120:=by
 refine⟨fun i=>?_,fun i=>?_,fun i=>?_⟩
 ·unfold Mf;split
  ·exact h.nn i
  ·intro e;simp[Mo.cnt]
 ·unfold Mf;split
  ·exact h.rows i
  ·show (0:Int)≤120;decide
 ·unfold Mf;split
  ·exact h.wts i
  ·show (0:Int)≤10000*120;decide
theorem Yz {ft:List UInt8→Option (List Bool)}{q:Q}{i:Nat}{F:Nat→Bag}(h:Hx ft q i F)(n:Nat):Hx ft q i (Mf F n):=fun j nm us b c=>by
 unfold Mf;split
 ·exact h j nm us b c
 ·exact⟨(fun e a=>by cases a),(fun e a=>by cases a)⟩
theorem JD {ft:List UInt8→Option (List Bool)}(hf:∀nm us,ft nm=some us→1≤us.length∧us.length≤6){q:Q}{i:Nat}{F:Nat→Bag}{ts:List Bool}(a:It F 120)(b:wf q)(c:(Ac q).length≤120)(d:Ag q≤2)(e:Hx ft q i F)(f:A9 ft q=some ts):Q9 ft (B0 ts) q i F:=fun _ _ =>
 ⟨Mo.ok2 hf (Yy a _) q b c d i (Yz e _) f,Mo.YP hf (Yy a _) q b c d i (Yz e _) f⟩
open Mo (V Row Bag Q Cy Ac)
def Lg (b:Bool)(w:World)(e:Ending)(w':World):Prop:=e=.returned (.bool b)∧Ab No w w'
theorem OX (P:Nat)(h:Hd)(g:h.k=1)(lv iv v:Value)(ts:List (Nat×List UInt8))(w:World)(a:w.heap[P]? =some (.cells (A0 h lv iv) 139 (0,0)))(b:Fp w v ts)(i:ts.length≤1000) :
 Calls Tryz.prog 37 #[v,.pointer (some ⟨P,0,none⟩)] w (Lg (decide (0≤Bh ts h.nm)) w):=by
 have c:=(Ax a).1
 rw[g] at c
 have j:=(Ax a).2.2.2.2.2.2.2;have d:=Ad (Iv v ts h.nm w b i);clear a b
 go_enter Tryz.func37,Tryz.ntmps37
 go_wp2_with fail;refine d.o.mono ?_;rintro e l ⟨rfl,f⟩;have k:=Ad f;clear f c j d;go_wp2_with fail;go_ret
 exact⟨rfl,k.o⟩
theorem JE (P:Nat)(h:Hd)(_:h.k≠1)(lv iv v:Value)(p1:Nat)(b:Bool)(w:World)(a:w.heap[P]? =some (.cells (A0 h lv iv) 139 (0,0)))(k:Uj w iv [p1])
 (c:Calls Tryz.prog 37 #[v,pV p1] w (Lg b w)) :
 Calls Tryz.prog 37 #[v,.pointer (some ⟨P,0,none⟩)] w (Lg b w):=by
 have l:=(Ax a).1
 have o:((h.k:Int) == 1)=false:=by simp;omega
 have d:=Ad c;have m:=(Ax a).2.2.2.2.2.2.1
 obtain⟨gi,_,_,_,rfl,f,g⟩:=k
 have n:w.cell? ⟨gi,0,none⟩=some (.pointer (some ⟨p1,0,none⟩)):=by rw[Ae f];exact g 0 p1 rfl
 clear a g f c
 go_enter Tryz.func37,Tryz.ntmps37
 go_wp2_with fail;refine wp_loop_rounds 2 ?_
 rw[rounds_succ]
 go_wp2_with fail;refine Calls.mono d.o ?_;rintro e p ⟨rfl,i⟩;have j:=Ad i;clear i d l m n
 cases b
 ·go_wp2_with fail
  go_ret
  exact⟨rfl,j.o⟩
 ·go_wp2_with fail
  rw[rounds_succ]
  go_wp2_with fail;go_ret
  exact⟨rfl,j.o⟩
theorem JF (P:Nat)(h:Hd)(_:h.k≠1)(lv iv v:Value)(p1 p2:Nat)(b c:Bool)(w:World)(g:w.heap[P]? =some (.cells (A0 h lv iv) 139 (0,0)))(r:Uj w iv [p1,p2])
 (k:Calls Tryz.prog 37 #[v,pV p1] w (Lg b w)) (l:∀a,Ab No w a→Calls Tryz.prog 37 #[v,pV p2] a (Lg c a)) :
 Calls Tryz.prog 37 #[v,.pointer (some ⟨P,0,none⟩)] w (Lg (b && c) w):=by
 have s:=(Ax g).1
 have A:((h.k:Int) == 1)=false:=by simp;omega
 have m:=Ad k;have n:=Ad l;have t:=(Ax g).2.2.2.2.2.2.1
 obtain⟨gi,_,_,_,rfl,d,i⟩:=r
 have u:w.cell? ⟨gi,0,none⟩=some (.pointer (some ⟨p1,0,none⟩)):=by rw[Ae d];exact i 0 p1 rfl
 have x:oH (w.cell? ⟨gi,1,none⟩=some (.pointer (some ⟨p2,0,none⟩))):=by show _=_;rw[Ae d];exact i 1 p2 rfl
 have y:=Aa d;clear g i d k l
 go_enter Tryz.func37,Tryz.ntmps37
 go_wp2_with fail;refine wp_loop_rounds 3 ?_
 rw[rounds_succ]
 go_wp2_with fail;refine Calls.mono m.o ?_;rintro e a ⟨rfl,f⟩;have j:=Ad f;have o:=Ad (n.o a f);have z:a.cell? ⟨gi,1,none⟩=some (.pointer (some ⟨p2,0,none⟩)):=(f.cell y oI).trans x.o;clear f m n s t u
 cases b
 ·go_wp2_with fail
  go_ret
  exact⟨rfl,j.o⟩
 ·go_wp2_with fail
  rw[rounds_succ]
  go_wp2_with fail;refine Calls.mono o.o ?_;rintro e B ⟨rfl,p⟩;have q:=Ad p;clear p o z
  cases c
  ·go_wp2_with fail
   go_ret
   exact⟨rfl,j.o.seq q.o⟩
  ·go_wp2_with fail
   rw[rounds_succ]
   go_wp2_with fail;go_ret
   exact⟨rfl,j.o.seq q.o⟩
def Eo (ts:List (Nat×List UInt8))(q:Q):Bool:=(Ac q).all fun nm=>decide (0≤Bh ts nm)
theorem Wi (h:Hd)(cs:List Nat)(q:Q):Ac (G8 h cs [q])=Ac q:=by
 show Ac (if h.k=2 then _ else if h.k=3 then _ else if h.k=6 then _ else _)=_
 by_cases a:h.k=2
 ·rw[if_pos a];rfl
 by_cases b:h.k=3
 ·rw[if_neg a,if_pos b];rfl
 by_cases c:h.k=6
 ·rw[if_neg a,if_neg b,if_pos c];rfl
 ·rw[if_neg a,if_neg b,if_neg c];rfl
theorem Wj (h:Hd)(cs:List Nat)(q r:Q):Ac (G8 h cs [q,r])=Ac q++Ac r:=by
 show Ac (if h.k=4 then _ else _)=_
 by_cases a:h.k=4
 ·rw[if_pos a];rfl
 ·rw[if_neg a];rfl
theorem UV {w0:World}{X:Nat→Prop}{v:Value}{ts:List (Nat×List UInt8)}(t:ts.length≤1000){p:Nat}{q:Q}(h:Tr w0 X p q):∀w,(∀k,X k→k<w.heap.size∧w.heap[k]? =w0.heap[k]?)→Fp w v ts→Calls Tryz.prog 37 #[v,pV p] w (Lg (Eo ts q) w):=by
 induction h with
 | @zero p h cs e d =>
   intro w b c
   obtain⟨l,lv,iv,f,m,i,n,o,s⟩:=d.mono (w':=w) (fun k a=>(b k a).2) (fun _ e=>e)
   have:=OX p h e lv iv v ts w f c t
   have g:Eo ts (G8 h cs [])=decide (0≤Bh ts h.nm):=by simp[Eo,G8,Ac]
   rw[g];exact this
 | @one p p1 h cs q hi d _ u =>
   intro w b c
   obtain⟨l,lv,iv,f,m,i,n,o,s⟩:=d.mono (w':=w) (fun k a=>(b k a).2) (fun _ e=>e)
   have a:h.k≠1:=fun e=>by rw[e] at hi;exact absurd hi (by decide)
   have g:Eo ts (G8 h cs [q])=Eo ts q:=by unfold Eo;rw[Wi]
   rw[g]
   exact JE p h a lv iv v p1 _ w f (Ra i (by simp)) (u w b c)
 | @two p p1 p2 h cs q r hi d _ _ x y =>
   intro w b c
   obtain⟨l,lv,iv,f,m,i,n,o,s⟩:=d.mono (w':=w) (fun k a=>(b k a).2) (fun _ e=>e)
   have a:h.k≠1:=fun e=>by rw[e] at hi;exact absurd hi (by decide)
   have g:Eo ts (G8 h cs [q,r])=(Eo ts q && Eo ts r):=by unfold Eo;rw[Wj,oF]
   rw[g]
   exact JF p h a lv iv v p1 p2 _ _ w f (Ra i (by simp)) (x w b c) fun z j=>y z (fun k a=>⟨kV (b k a).1 j.size,(j.block k (b k a).1 oI).trans (b k a).2⟩) (c.kept j)
open Mo (V Row Bag Q Cy Ac Mc ty)
def Sh (t:Bool):Int:=if t=true then 1 else 0
theorem cW (v:V):kI v=Sh (ty v):=by cases v <;> rfl
def Pq (w:World)(v:Value)(us:List Bool):Prop:=∃b o cap,v=.slice (some ⟨b,o,none⟩) us.length cap∧Is 130 w b∧us.length≤cap∧cap≤maxLen∧∀(i:Nat) (t:Bool),us[i]? =some t→w.cell? ⟨b,o+i,none⟩=some (.int .i32 (Sh t))
theorem Pq.kept {w w':World}{v:Value}{us:List Bool}(h:Pq w v us)(k:Ab No w w'):Pq w' v us:=by
 obtain⟨b,o,cap,d,⟨c,e,a⟩,f,g,j⟩:=h
 exact⟨b,o,cap,d,⟨c,e,(k.block b (Aa a) oI).trans a⟩,f,g,fun i t hi=>(k.cell (Aa a) oI).trans (j i t hi)⟩
theorem Pq.stays {w w':World}{v:Value}{us:List Bool}(h:Pq w v us)(k:∀b,v.ownBlock=some b→Is 130 w b→w'.heap[b]? =w.heap[b]?):Pq w' v us:=by
 obtain⟨b,o,cap,rfl,⟨c,a,d⟩,f,g,j⟩:=h
 have e:=k b rfl ⟨c,a,d⟩
 exact⟨b,o,cap,rfl,⟨c,a,e.trans d⟩,f,g,fun i t hi=>(World.cell?_of_block e).trans (j i t hi)⟩
theorem Is.lt {t:TypeId}{w:World}{b:Nat}(h:Is t w b):b<w.heap.size:=by obtain⟨c,_,h⟩:=h;exact Aa h
def UW:Option Bool→Value
 |some t=>.tuple #[.int .i32 (Sh t),.bool true]
 |none=>.tuple #[.int .i32 0,.bool false]
theorem Wk (x:Cy)(us:List Bool)(tv:Value)(w:World)(a:∀c,x=.col c→c<10)(d:Pq w tv us) :
 Calls Tryz.prog 111 #[.agg (Vq x).toArray,tv] w fun e w'=>e=.returned (UW (Mc us x))∧Ab No w w':=by
 cases x with
 |col c =>
  have m:=a c rfl
  have n:(0:Int)≤(c:Int):=by omega
  clear a
  change Calls Tryz.prog 111 #[.agg #[.bool true,.int .i64 (c:Int),.int .i32 0,.int .u8 0,.int .u8 0,.int .u8 0,.int .u8 0,.int .i64 0],tv] w fun e w'=>e=.returned (UW us[c]?)∧Ab No w w'
  have i:=d.kept ((Ab.refl No w).alloc (.cells #[.bool true,.int .i64 (c:Int),.int .i32 0,.int .u8 0,.int .u8 0,.int .u8 0,.int .u8 0,.int .i64 0] 135));clear d
  obtain⟨b,o,cap,rfl,h,_,f,g⟩:=i
  replace h:=h.lt
  have p:cap≤9223372036854775807:=by unfold maxLen at f;omega
  by_cases j:c<us.length
  ·have hg:us[c]? =some us[c]:=kT j
   have k:=g c _ hg
   have q:(c:Int)<(us.length:Int):=by omega
   have l:¬((us.length:Int)≤(c:Int)):=by omega
   rw[hg]
   generalize us[c]=t at k;clear g f hg
   go_enter Tryz.func111,Tryz.ntmps111
   go_wp2_with fail;go_ret2
   exact⟨rfl,(Ab.refl No w).alloc _⟩
  ·have hg:us[c]? =none:=mD (by omega)
   have l:(us.length:Int)≤(c:Int):=by omega
   rw[hg]
   clear g f hg
   go_enter Tryz.func111,Tryz.ntmps111
   go_wp2_with fail;go_ret2
   exact⟨rfl,(Ab.refl No w).alloc _⟩
 |val v =>
  clear a
  change Calls Tryz.prog 111 #[.agg #[.bool false,.int .i64 0,.int .i32 (kI v),.int .u8 (tB v 0),.int .u8 (tB v 1),.int .u8 (tB v 2),.int .u8 (tB v 3),.int .i64 (nI v)],tv] w fun e w'=>e=.returned (UW (some (ty v)))∧Ab No w w'
  rw[show UW (some (ty v))=.tuple #[.int .i32 (kI v),.bool true] by rw[cW];rfl]
  obtain⟨b,o,cap,rfl,_⟩:=d
  go_enter Tryz.func111,Tryz.ntmps111
  go_wp2_with fail;go_ret2
  exact⟨rfl,(Ab.refl No w).alloc _⟩
def Wl:Option Bool→Option Bool→Bool
 |some a,some b=>decide (a=b)
 |_,_=>false
theorem JG (a b:Bool):(Sh a == Sh b)=decide (a=b):=by cases a <;> cases b <;> rfl
theorem AR (P:Nat)(h:Hd)(lv iv r j:Value)(us vs:List Bool)(w:World)(s:w.heap[P]? =some (.cells (A0 h lv iv) 139 (0,0)))(z:∀c,h.l=.col c→c<10)(A:∀c,h.r=.col c→c<10)(B:Pq w r us)(hr:Pq w j vs) :
 Calls Tryz.prog 107 #[.pointer (some ⟨P,0,none⟩),r,j] w fun e w'=>e=.returned (.bool (Wl (Mc us h.l) (Mc vs h.r)))∧Ab No w w':=by
 have t:oH (∀w:World,w.heap[P]? =some (.cells (A0 h lv iv) 139 (0,0))→(loadVar 135 ⟨P,3,none⟩).run Tryz.prog w=.ok (.agg (Vq h.l).toArray) w):=fun w u=>run_loadVar_mid w P 3 135 (Vq h.l) _ (Ax u).2.2.2.1 Tryz.underlying135 rfl Tq
 have f:oH (∀w:World,w.heap[P]? =some (.cells (A0 h lv iv) 139 (0,0))→(loadVar 135 ⟨P,11,none⟩).run Tryz.prog w=.ok (.agg (Vq h.r).toArray) w):=fun w u=>run_loadVar_mid w P 11 135 (Vq h.r) _ (Ax u).2.2.2.2.1 Tryz.underlying135 rfl Tq
 have k:=Ad (Wk h.l us r w z B)
 have l:oH (∀d,Ab No w d→Calls Tryz.prog 111 #[.agg (Vq h.r).toArray,j] d fun e w'=>e=.returned (UW (Mc vs h.r))∧Ab No d w'):=fun d D=>Wk h.r vs j d A (hr.kept D)
 have m:=Ad s;have E:=Aa s;clear s B hr z A;generalize Mc us h.l=x at k⊢;generalize Mc vs h.r=y at l⊢;generalize (Vq h.l).toArray=F at k t;generalize (Vq h.r).toArray=C at l f
 go_enter Tryz.func107,Tryz.ntmps107
 go_wp2_with (first
  |(refine Lf 135 _ rfl rfl P 3 rfl (.agg F) (t.o _ m.o) ?_)
  |fail)
 refine k.o.mono ?_;rintro e d ⟨rfl,n⟩;have o:oH (d.heap[P]? =some (.cells (A0 h lv iv) 139 (0,0))):=(n.block P E oI).trans m.o;have p:=Ad (l.o d n);have q:=Ad n;clear n k l t
 cases x with
 |none =>
  simp only[UW]
  go_wp2_with (first
   |(refine Lf 135 _ rfl rfl P 11 rfl (.agg C) (f.o _ o.o) ?_)
   |fail)
  refine p.o.mono ?_;rintro e G ⟨rfl,g⟩;have i:=Ad g;clear g p f m o
  cases y with
  |none=>simp only[UW];go_wp2_with fail;go_ret;exact⟨rfl,q.o.seq i.o⟩
  |some b=>simp only[UW];go_wp2_with fail;go_ret;exact⟨rfl,q.o.seq i.o⟩
 |some a =>
  simp only[UW]
  go_wp2_with (first
   |(refine Lf 135 _ rfl rfl P 11 rfl (.agg C) (f.o _ o.o) ?_)
   |fail)
  refine p.o.mono ?_;rintro e G ⟨rfl,g⟩;have i:=Ad g;clear g p f m o
  cases y with
  |none=>simp only[UW];go_wp2_with fail;go_ret;exact⟨rfl,q.o.seq i.o⟩
  |some b =>
   simp only[UW]
   have v:=Ad (JG a b);generalize Sh a=H at v⊢;generalize Sh b=I at v⊢;go_wp2_with fail;go_ret
   exact⟨Az v.o,q.o.seq i.o⟩
structure VS where
 q:Q
 nd:Nd
 blk:Nat
 told:Bag
 ts:List Bool
def Kl (b:Nat):Tk:=⟨81,249,⟨b,0,none⟩⟩
def VA (V:VS)(a:Nat):Prop:=a=V.blk+2∨∃b∈nds V.nd,a=b+2
def Xn (V:VS)(G:Nat→Bag)(w:World)(O:Ow):Prop:=Dy w O V.blk V.told (Av G 0 V.q)∧A8 V.q V.nd (Kl V.blk) 0 G w O
theorem Xn.stab {V:VS}{G:Nat→Bag}{w w':World}{O b:Ow}(h:Xn V G w O)(d:w.heap.size≤w'.heap.size)(c:∀k,k<w.heap.size→VA V (O k)∨O k=1→w'.heap[k]? =w.heap[k]?∧b k=O k):Xn V G w' b :=
 ⟨h.1.stab fun k a e=>c k a (.inl (.inl e)),h.2.stab d V.q V.nd _ 0 fun k a e=>c k a (e.imp .inr id)⟩
structure UX (ft:List UInt8→Option (List Bool)) (V:VS):Prop where
 ty:A9 ft V.q=some V.ts
 wf:wf V.q
 len:(Ac V.q).length≤120
 jn:Ag V.q≤2
 shape:Hk V.q V.nd
 nod:(nds V.nd).Nodup
 own:∀b∈nds V.nd,b≠V.blk
 told:B0 V.ts V.told
section
variable {ft:List UInt8→Option (List Bool)} {V:VS} {G:Nat→Bag}
theorem OY (hf:∀nm us,ft nm=some us→1≤us.length∧us.length≤6)(c:UX ft V)(G:Nat→Bag){j:Nat}(f:j<(Ac V.q).length) :
 ∃us nm,(Ac V.q)[j]? =some nm∧ft nm=some us∧Ee (Eh V.q V.nd (Kl V.blk) j) (VA V) us (fun B=>Qx ft V.q 0 (Ky G j B)∧B0 V.ts (Av (Ky G j B) 0 V.q)) (fun w O B=>Xn V (Ky G j B) w O):=by
 have h:=Kk hf V.q V.nd (Kl V.blk) (fun a=>a=V.blk+2) V.ts (B0 V.ts) (fun w O B=>Dy w O V.blk V.told B) 0 G j (V2 V.blk V.ts V.told c.told) c.ty c.wf c.shape c.nod (fun b g e=>c.own b g (by omega)) f
 obtain⟨us,nm,i,k,d⟩:=h
 rw[lK] at d
 exact⟨us,nm,i,k,d⟩
def cX (ft:List UInt8→Option (List Bool))(V:VS)(G:Nat→Bag):Prop:=It G 120∧Hx ft V.q 0 G
theorem cX.ok (hf:∀nm us,ft nm=some us→1≤us.length∧us.length≤6)(a:UX ft V)(h:cX ft V G):Qx ft V.q 0 G∧B0 V.ts (Av G 0 V.q) :=
 ⟨Mo.ok2 hf h.1 V.q a.wf a.len a.jn 0 h.2 a.ty,Mo.YP hf h.1 V.q a.wf a.len a.jn 0 h.2 a.ty⟩
theorem OZ (G:Nat→Bag)(j:Nat):Ky G j (G j)=G:=by
 funext k;unfold Ky;split
 ·next h=>rw[h]
 ·rfl
theorem AU (hf:∀nm us,ft nm=some us→1≤us.length∧us.length≤6)(a:UX ft V){j:Nat}(b:j<(Ac V.q).length){d:Bag}{c:Nat}{w:World}{O:Ow}(h:Xn V G w O)(f:cX ft V G)(g:cX ft V (Ky G j (G j++d)))(i:Aw w c (Af d))(k:¬VA V (O c)) :
 Calls Tryz.prog 47 #[.map (some c),(Eh V.q V.nd (Kl V.blk) j).val] w (Il (VA V) (fun w O _=>Xn V (Ky G j (G j++d)) w O) [] w O):=by
 obtain⟨us,nm,_,_,l⟩:=OY hf a G b
 have e:=OZ G j
 refine (l.AA (B:=G j) (d:=d) (c:=c) (w:=w) (O:=O) (by show Xn V (Ky G j (G j)) w O;rw[e];exact h) (by rw[e];exact f.ok hf a) (g.ok hf a) i k).mono fun e w' m=>?_
 obtain⟨a1,n,o,p,q⟩:=m
 exact⟨a1,n,o,p,q⟩
end
def Jb (vs:List VS)(nm:List UInt8):List (VS×Nat):=vs.flatMap fun V=>((List.range (Ac V.q).length).filter fun j=>decide ((Ac V.q)[j]? =some nm)).map fun j=>(V,j)
def gF (p:VS×Nat):Tk:=Eh p.1.q p.1.nd (Kl p.1.blk) p.2
def Hs (p:VS×Nat):Nat×Nat:=(p.1.blk,p.2)
theorem Nc {vs:List VS}{nm:List UInt8}{p:VS×Nat}:p∈Jb vs nm↔p.1∈vs∧(Ac p.1.q)[p.2]? =some nm:=by
 obtain⟨V,j⟩:=p
 unfold Jb
 simp only[List.mem_flatMap,lD,oE,mM,decide_eq_true_eq,Prod.mk.injEq]
 constructor
 ·rintro⟨_,a,_,⟨b,c⟩,rfl,rfl⟩;exact⟨a,c⟩
 ·rintro⟨a,b⟩;exact⟨V,a,j,⟨(kS.1 b).1,b⟩,rfl,rfl⟩
theorem Y5 {nm:List UInt8}:∀{vs:List VS},(vs.map VS.blk).Nodup→((Jb vs nm).map Hs).Nodup
 | [],_=>nJ
 |V::vs,h=>by
  have c:=mJ.1 (by simpa using h:(V.blk::vs.map VS.blk).Nodup)
  have e:Jb (V::vs) nm=Jb [V] nm++Jb vs nm:=by simp[Jb]
  rw[e,lF,mO]
  refine⟨?_,Y5 c.2,fun a g b i e=>?_⟩
  ·have:(Jb [V] nm).map Hs=((List.range (Ac V.q).length).filter fun j=>decide ((Ac V.q)[j]? =some nm)).map fun j=>(V.blk,j):=by simp[Jb,Hs]
   rw[this]
   exact List.Pairwise.map (fun j=>(V.blk,j)) (fun a b (k:a≠b) e=>k (by simpa using e)) (List.nodup_range.filter _)
  ·subst e
   obtain⟨p,l,rfl⟩:=lD.1 g
   obtain⟨q,m,e⟩:=lD.1 i
   have d:=(Nc.1 l).1;have n:=(Nc.1 m).1;have f:q.1.blk=p.1.blk:=(Prod.mk.inj e).1
   rw[nQ] at d
   rw[d] at f
   exact c.1 (lD.2 ⟨q.1,n,f⟩)
def gv (done:List (VS×Nat))(d:Bag)(G:VS→Nat→Bag)(V:VS):Nat→Bag:=fun j=>if (V.blk,j)∈done.map Hs then G V j++d else G V j
theorem eE (d:Bag)(G:VS→Nat→Bag)(V:VS):gv [] d G V=G V:=by funext j;simp[gv]
theorem aK {done:List (VS×Nat)}{d:Bag}{G:VS→Nat→Bag}{V:VS}{j:Nat}(h:(V.blk,j)∉done.map Hs):Ky (gv done d G V) j (gv done d G V j++d)=gv (done++[(V,j)]) d G V:=by
 funext k
 unfold Ky
 by_cases a:k=j
 ·subst a
  rw[if_pos rfl]
  show (if (V.blk,k)∈done.map Hs then _ else _)++d=if (V.blk,k)∈(done++[(V,k)]).map Hs then _ else _
  rw[if_neg h,if_pos (by simp[Hs])]
 ·rw[if_neg a]
  show (if (V.blk,k)∈done.map Hs then _ else _)=if (V.blk,k)∈(done++[(V,j)]).map Hs then _ else _
  have:((V.blk,k)∈(done++[(V,j)]).map Hs)↔(V.blk,k)∈done.map Hs:=by
   rw[lF,lC]
   simp[Hs,a]
  simp only[this]
theorem UY {done:List (VS×Nat)}{d:Bag}{G:VS→Nat→Bag}{V a:VS}{j:Nat}(h:a.blk≠V.blk):gv (done++[(V,j)]) d G a=gv done d G a:=by
 funext k
 show (if (a.blk,k)∈(done++[(V,j)]).map Hs then _ else _)=if (a.blk,k)∈done.map Hs then _ else _
 have:((a.blk,k)∈(done++[(V,j)]).map Hs)↔(a.blk,k)∈done.map Hs:=by
  rw[lF,lC]
  simp[Hs,h]
 simp only[this]
theorem UZ {ft:List UInt8→Option (List Bool)}(hf:∀nm us,ft nm=some us→1≤us.length∧us.length≤6){vs:List VS}(M:∀V∈vs,UX ft V)(D:(vs.map VS.blk).Nodup)(N:∀V∈vs,∀h∈vs,h.blk≠V.blk→∀a,VA V a→¬VA h a)(P:∀V∈vs,¬VA V 1)
 {nm:List UInt8} {d:Bag} {G:VS→Nat→Bag} (E:∀i,∀V∈vs,cX ft V (gv ((Jb vs nm).take i) d G V)) {b c cap:Nat} {t:Option Addr} {w:World} {O:Ow} (Q:(Jb vs nm).length≤1000000)
 (R:w.cell? ⟨b,0,none⟩=some (.slice t (Jb vs nm).length cap)) (S:∀i T,((Jb vs nm).map fun p=>(gF p).val)[i]? =some T→∃g o,t=some ⟨g,o,none⟩∧g<w.heap.size∧(∀V∈vs,¬VA V (O g))∧w.cell? ⟨g,o+i,none⟩=some T)
 (U:∀V∈vs,Xn V (G V) w O) (u:Aw w c (Af d)) (F:∀V∈vs,¬VA V (O c)) :
 Calls Tryz.prog 250 #[.pointer (some ⟨b,0,none⟩),.map (some c)] w fun e w'=>e=.returned (.tuple #[])∧∃f:Ow,(∀k,k<w.heap.size→f k=O k)∧Ab (fun k=>∃V∈vs,VA V (O k)) w w'∧∀V∈vs,Xn V (gv (Jb vs nm) d G V) w' f:=by
 have v:((Jb vs nm).map fun p=>(gF p).val).length=(Jb vs nm).length:=lB _
 have:=DD b c cap t ((Jb vs nm).map fun p=>(gF p).val) w (fun i wr=>∃f:Ow,(∀k,k<w.heap.size→f k=O k)∧Ab (fun k=>∃V∈vs,VA V (O k)) w wr∧∀V∈vs,Xn V (gv ((Jb vs nm).take i) d G V) wr f)
  (by rw[v];exact Q) (by rw[v];exact R) ⟨O,fun _ _=>rfl,Ab.refl _ _,fun V hv=>by rw[List.take_zero,eE];exact U V hv⟩
  (fun i T wr x r=>by
    obtain⟨f,_,n,_⟩:=x
    obtain⟨g,o,e1,W,X,Y⟩:=S i T r
    exact⟨g,o,e1,(n.cell W (fun ⟨V,hv,l⟩=>X V hv l)).trans Y⟩)
  (fun i T wr r x=>by
    obtain⟨f,hO,n,H⟩:=x
    rw[kX] at r
    obtain⟨p,I,rfl⟩:=lJ.1 r
    obtain⟨V,j⟩:=p
    have J:=Nc.1 (kW I);have hv:V∈vs:=J.1;have Z:j<(Ac V.q).length:=(kS.1 J.2).1
    have y:(Jb vs nm).take (i+1)=(Jb vs nm).take i++[(V,j)]:=by rw[lL,I];rfl
    have aa:(V.blk,j)∉((Jb vs nm).take i).map Hs:=by
     have ab:=Y5 (nm:=nm) D
     have:((Jb vs nm).take (i+1)).map Hs=((Jb vs nm).take i).map Hs++[(V.blk,j)]:=by rw[y,lF];rfl
     have K:(((Jb vs nm).take (i+1)).map Hs).Nodup:=by rw[List.map_take];exact ab.sublist (List.take_sublist _ _)
     rw[this,mO] at K
     intro ac
     exact K.2.2 _ ac _ (by simp) rfl
    have L:=aK (d:=d) (G:=G) aa
    have ad:¬VA V (f c):=by rw[hO c u.lt];exact F V hv
    have ae:Aw wr c (Af d):=u.B2 (n.block c u.lt fun ⟨V,hv,l⟩=>F V hv l)
    refine (AU hf (M V hv) Z (d:=d) (c:=c) (H V hv) (E i V hv) (by rw[L,←y];exact E (i+1) V hv) ae ad).mono fun e w' af=>?_
    obtain⟨z,ag,s,q,A⟩:=af
    refine⟨z,ag,fun k m=>(s k (kV m n.size)).trans (hO k m),n.trans q (fun _ e=>e) (fun k m e=>⟨V,hv,by rw[hO k m] at e;exact e⟩),fun h B=>?_⟩
    rw[y]
    by_cases C:h.blk=V.blk
    ·have:h=V:=F5 D B hv C
     subst this
     rw[←L];exact A
    ·rw[UY C]
     refine (H h B).stab q.size fun k m e=>⟨q.block k m fun l=>?_,s k m⟩
     rcases e with e|e
     ·exact N V hv h B C _ l e
     ·rw[e] at l;exact P V hv l)
 refine this.mono fun e w' ⟨z,f,s,q,A⟩=>⟨z,f,s,q,fun V hv=>?_⟩
 have:=A V hv
 rw[v,mK] at this
 exact this
theorem A8.eqv {f g:Nat→Bag}{w:World}{O:Ow}:∀(q:Q) (t:Nd) (T:Tk) (i:Nat),(∀j,i≤j→j<i+(Ac q).length→Be (f j) (g j))→A8 q t T i f w O→A8 q t T i g w O
 | .tab _,.leaf,_,_,_,_=>trivial
 | .sel _ _ _ q,.one b t,T,i,h,c=>⟨c.1,A8.eqv q t _ i h c.2⟩
 | .pick _ q,.one b t,T,i,h,c=>⟨c.1,A8.eqv q t _ i h c.2⟩
 | .dist q,.one b t,T,i,h,c=>⟨c.1.eqv (Mo.A7 q i h),A8.eqv q t _ i h c.2⟩
 | .grp _ _ q,.one b t,T,i,h,c=>⟨c.1.eqv (Mo.A7 q i h),A8.eqv q t _ i h c.2⟩
 | .join _ _ q r,.two b t k,T,i,h,c=>by
   have d:∀j,i≤j→j<i+(Ac q).length→Be (f j) (g j):=fun j a b=>h j a (by simp only[Ac,kU];omega)
   have e:∀j,i+(Ac q).length≤j→j<i+(Ac q).length+(Ac r).length→Be (f j) (g j):=fun j a b=>h j (by omega) (by simp only[Ac,kU];omega)
   exact⟨((c.1.eqv (Mo.A7 q i d)).swap.eqv (Mo.A7 r _ e)).swap,A8.eqv q t _ i d c.2.1,A8.eqv r k _ _ e c.2.2⟩
 | .uni q r,.two b t k,T,i,h,c=>by
   have d:∀j,i≤j→j<i+(Ac q).length→Be (f j) (g j):=fun j a b=>h j a (by simp only[Ac,kU];omega)
   have e:∀j,i+(Ac q).length≤j→j<i+(Ac q).length+(Ac r).length→Be (f j) (g j):=fun j a b=>h j (by omega) (by simp only[Ac,kU];omega)
   exact⟨c.1,A8.eqv q t _ i d c.2.1,A8.eqv r k _ _ e c.2.2⟩
theorem Xn.eqv {V:VS}{G a:Nat→Bag}{w:World}{O:Ow}(h:Xn V G w O)(e:∀j,j<(Ac V.q).length→Be (G j) (a j)):Xn V a w O :=
 have b:∀j,0≤j→j<0+(Ac V.q).length→Be (G j) (a j):=fun j _ c=>e j (by omega)
 ⟨h.1.eqv (Mo.A7 V.q 0 b),h.2.eqv V.q V.nd _ 0 b⟩
def EB (xs:List TabS)(nm:List UInt8)(d:Bag):List TabS:=xs.map fun X=>if X.name=nm then { X with bag:=X.bag++d } else X
def iT (nm:List UInt8)(d:Bag)(G:VS→Nat→Bag)(V:VS):Nat→Bag:=fun j=>if (Ac V.q)[j]? =some nm then G V j++d else G V j
theorem eF {vs:List VS}{nm:List UInt8}{d:Bag}{G:VS→Nat→Bag}{V:VS}(a:V∈vs)(b:(vs.map VS.blk).Nodup):gv (Jb vs nm) d G V=iT nm d G V:=by
 funext j
 show (if (V.blk,j)∈(Jb vs nm).map Hs then _ else _)=if (Ac V.q)[j]? =some nm then _ else _
 have:((V.blk,j)∈(Jb vs nm).map Hs)↔(Ac V.q)[j]? =some nm:=by
  constructor
  ·intro h
   obtain⟨p,c,e⟩:=lD.1 h
   obtain⟨f,g⟩:=Nc.1 c
   obtain⟨e1,i⟩:=Prod.mk.inj e
   have:p.1=V:=F5 b f a e1
   rw[←this,←i];exact g
  ·intro h
   exact lD.2 ⟨(V,j),Nc.2 ⟨a,h⟩,rfl⟩
 simp only[this]
structure Fx (ft:List UInt8→Option (List Bool)) (id0:Nat) (xs:List TabS) (vs:List VS):Prop where
 nm:(xs.map (·.name)).Nodup
 bl:(xs.map (·.blk)).Nodup
 vb:(vs.map VS.blk).Nodup
 dis:∀V∈vs,∀V'∈vs,V'.blk≠V.blk→∀a,VA V a→¬VA V' a
 va:∀V∈vs,∀a,VA V a→2≤a∧a≠id0∧∀X∈xs,a≠X.blk+2
 id:2≤id0∧∀X∈xs,X.blk+2≠id0
 fix:∀V∈vs,UX ft V
 tks:∀X∈xs,X.tks=(Jb vs X.name).map gF
 few:∀X∈xs,X.tks.length≤1000000
theorem Xx {ft:List UInt8→Option (List Bool)}(hf:∀nm us,ft nm=some us→1≤us.length∧us.length≤6){id0:Nat}{xs:List TabS}{vs:List VS}(l:Fx ft id0 xs vs){X:TabS}(q:X∈xs){ts:List Bool}{d:Bag}(ok1:B0 ts X.bag)(ok2:B0 ts (X.bag++d)){G:VS→Nat→Bag}(ap:∀i,∀V∈vs,cX ft V (gv ((Jb vs X.name).take i) d G V))
 {w:World} {O:Ow} {tv:Value} {c:Nat} (N:B5 w O tv id0 xs) (ae:∀V∈vs,Xn V (G V) w O) (I:Aw w c (Af d)) (hO:O c=0) :
 Calls Tryz.prog 47 #[.map (some c),.iface 101 (.pointer (some ⟨X.blk,0,none⟩))] w fun e w'=>e=.returned (.tuple #[])∧∃s:Ow,(∀k,k<w.heap.size→s k=O k)∧Ab (fun k=>O k=X.blk+2∨∃V∈vs,VA V (O k)) w w'∧B5 w' s tv id0 (EB xs X.name d)∧∀V∈vs,Xn V (iT X.name d G V) w' s:=by
 have af:=ok1.chg ok2
 obtain⟨P,Q,hv,J,R,S,D⟩:=N.tab X q
 have aq:=Aa J
 have Ly:∀(w':World) (s:Ow),w.heap.size≤w'.heap.size→(∀k,k<w.heap.size→s k=O k)→(∀k,k<w.heap.size→O k≠X.blk+2→O k=id0∨(∃Y∈xs,O k=Y.blk+2)→w'.heap[k]? =w.heap[k]?)→Uk w' s { X with bag:=X.bag++d }→B5 w' s tv id0 (EB xs X.name d):=fun w' s ar ag ah au=>by
  obtain⟨a,cap,av,aw,ax,ay⟩:=N.slc
  refine⟨⟨a,cap,by unfold EB;rw[lB];exact av,by unfold EB;rw[lB];exact aw,ax,fun j Z E=>?_⟩,fun Z E=>?_⟩
  ·unfold EB at E
   rw[kX] at E
   obtain⟨t,F,rfl⟩:=lJ.1 E
   obtain⟨b,o,e1,K,U,az⟩:=ay j t F
   have a0:=ah b K (by rw[U];exact fun e=>l.id.2 X q e.symm) (.inl U)
   refine⟨b,o,e1,kV K ar,by rw[ag b K];exact U,?_⟩
   rw[World.cell?_of_block a0,az]
   split <;> rfl
  ·unfold EB at E
   obtain⟨t,F,rfl⟩:=lD.1 E
   by_cases u:t.name=X.name
   ·have:t=X:=F5 l.nm F q u
    subst this
    rw[if_pos u];exact au
   ·rw[if_neg u]
    refine (N.tab t F).stab fun k H e=>⟨ah k H (fun v=>u ?_) (.inr ⟨t,F,e⟩),ag k H⟩
    have:t=X:=F5 l.bl F q (by show t.blk=X.blk;omega)
    rw[this]
 refine Uf UM ⟨X.blk,0,none⟩ c ts d w _ I af (fun a1=>?_) (fun bh=>?_)
 ·have ai:∀B:Bag,Be B (B++d):=fun B=>Mo.Kd a1
  refine⟨rfl,O,fun _ _=>rfl,Ab.refl _ _,Ly w O (kZ _) (fun _ _=>rfl) (fun _ _ _ _=>rfl) ⟨P,Q,hv,J,R,S,D.eqv (ai _)⟩,fun V f=>(ae V f).eqv fun j _=>?_⟩
  unfold iT;split
  ·exact ai _
  ·exact Be.refl _
 ·refine IX X.blk c w _ ?_
  have aj:hv≠.map (some c):=fun e=>by have:=D.2 c e;omega
  refine (Na X.blk 1 _ 125 hv (.map (some c)) (Af X.bag) (Af d) w J rfl D.1 (.inr ⟨c,rfl,I⟩) (fun k e v=>aj (e.trans v.symm)) (by
   have e1:=(B0.chg (b:=[]) (d:=X.bag) ⟨fun r=>by simp[Mo.cnt],by show (0:Int)≤_;decide,by show (0:Int)≤_;decide,(fun e m=>by cases m),(fun e m=>by cases m),ok1.six⟩ (by simpa using ok1)).len
   have K:=af.len
   rw[Mo.Ch (Mo.Aq _),Mo.Ch (Mo.Aq _)]
   unfold maxLen;omega)).mono fun e y a2=>?_
  have a3:∀x∈Af (X.bag++d),G5 x.1:=(B0.chg (b:=[]) (d:=X.bag++d) ⟨fun r=>by simp[Mo.cnt],by show (0:Int)≤_;decide,by show (0:Int)≤_;decide,(fun e m=>by cases m),(fun e m=>by cases m),ok1.six⟩ (by simpa using ok2)).cV
  obtain⟨m,a4,ak,a5,_,z⟩:=a2.mem D a3
  refine⟨m,?_⟩
  have n:∀k,k<w.heap.size→oB w O (X.blk+2) k=O k:=fun k h=>Oj h
  have W:Ab (fun k=>O k=X.blk+2) w y:=z.mono fun i hi e=>by
   rcases e with rfl|e
   ·exact P
   ·exact D.2 i e
  have aa:∀V∈vs,¬VA V (X.blk+2):=fun V f e=>(l.va V f _ e).2.2 X q rfl
  have a6:∀V∈vs,Xn V (G V) y (oB w O (X.blk+2)):=fun V f=>(ae V f).stab z.size fun k H e=>⟨W.block k H (fun v=>by
   rw[v] at e
   rcases e with e|e
   ·exact aa V f e
   ·omega),n k H⟩
  have ab:∀k,Q.ownBlock=some k→k<w.heap.size∧y.heap[k]? =w.heap[k]? :=fun k e=>by
   obtain⟨_,_,p⟩:=Bc R e
   refine⟨Aa p,z.block k (Aa p) ?_⟩
   rintro (rfl|v)
   ·rw[J] at p;injection p with p;injection p with _ p;exact absurd p (by decide)
   ·exact D.Kj v p rfl
  have a7:Aw y c (Af d):=I.kept z (fun e=>by
   rcases e with e|e
   ·rw[e] at hO;omega
   ·exact aj e)
  have al:(Jb vs X.name).length=X.tks.length:=by rw[l.tks X q,lB]
  have a8:oB w O (X.blk+2) c=0:=by rw[n c I.lt];exact hO
  have am:=Cm R fun k e=>(ab k e).2
  obtain⟨L,cap,rfl,a9⟩:∃L cap,Q=.slice L X.tks.length cap∧∀i T,(X.tks.map Tk.val)[i]? =some T→∃g o,L=some ⟨g,o,none⟩∧g<y.heap.size∧(∀V∈vs,¬VA V (oB w O (X.blk+2) g))∧y.cell? ⟨g,o+i,none⟩=some T:=by
   rcases am.2 with ⟨e,u⟩|⟨g,cap,cur,e,_,hg,hc1,hc2,hc3,hc4⟩
   ·refine⟨none,0,by rw[e,u],fun i T A=>?_⟩
    have:=(kS.1 A).1
    rw[lB] at this
    omega
   ·refine⟨some ⟨g,0,none⟩,cap,e,fun i T A=>⟨g,0,rfl,Aa hg,fun V f C=>?_,?_⟩⟩
    ·have ba:=S g (by rw[e];rfl)
     rw[n g (ab g (by rw[e];rfl)).1,ba] at C
     exact aa V f C
    ·rw[Nat.mul_one] at hc4
     rw[←hc4,lM] at A
     rw[Ae hg,lK]
     split at A
     ·simpa using A
     ·cases A
  have bb:y.cell? ⟨X.blk,0,none⟩=some (.slice L (Jb vs X.name).length cap):=by rw[al];exact (Ae ak 0).trans rfl
  refine (UZ hf l.fix l.vb l.dis (fun V f e=>by have:=(l.va V f 1 e).1;omega) ap (by rw[al];exact l.few X q) bb (fun i T A=>a9 i T (by rw[l.tks X q,mH];exact A)) a6 a7 (fun V f e=>by rw[a8] at e;have:=(l.va V f 0 e).1;omega)).mono fun e bc bd=>?_
  obtain⟨ac,an,ad,M,be⟩:=bd
  refine⟨ac,ac,ac,an,fun k h=>(ad k (kV h z.size)).trans (n k h),?_,?_,fun V f=>by rw[←eF f l.vb];exact be V f⟩
  ·refine (W.mono (fun k _ e=>.inl e)).trans M (fun _ e=>e) fun k h e=>.inr ?_
   rw[n k h] at e;exact e
  ·refine Ly bc an (lH z.size M.size) (fun k h=>(ad k (kV h z.size)).trans (n k h)) (fun k h u ho=>?_) ?_
   ·rw[M.block k (kV h z.size) (fun ⟨V,f,C⟩=>?_),W.block k h u]
    rw[n k h] at C
    have ao:=l.va V f _ C
    rcases ho with ho|⟨Y,bf,ho⟩
    ·exact ao.2.1 ho
    ·exact ao.2.2 Y bf ho
   ·have bg:Uk y (oB w O (X.blk+2)) { X with bag:=X.bag++d }:=by
     refine⟨by show oB w O (X.blk+2) X.blk=_;rw[n _ aq];exact P,_,a4,ak,am,fun k e=>?_,a5⟩
     rw[n k (ab k e).1];exact S k e
    refine bg.stab fun k h e=>⟨M.block k h (fun ⟨V,f,C⟩=>?_),ad k h⟩
    have v:oB w O (X.blk+2) k=X.blk+2:=e
    rw[v] at C
    exact aa V f C
open Mo (V Row Bag Q Cy Ac Mc ty Bt)
def PA (us:List Bool):List Value:=us.map fun t=>Value.int .i32 (Sh t)
def Hl (us:List Bool)(cs:List Nat):List Bool:=cs.map fun c=>us.getD c false
theorem VB:(Tryz.prog.info? 130).map (fun i=>(i.zero,i.size,i.bytes))=some (some (.int .i32 0),1,4):=by kernel_rfl
theorem Pq.Nf {w:World}{base:Nat}{v:Value}{us:List Bool}(h:w.ownsRow base 130 1 v us.length (PA us))(b:us≠[]):Pq w v us:=by
 rcases h.2 with ⟨_,c⟩|⟨g,cap,cur,rfl,_,hg,hc1,hc2,hc3,hc4⟩
 ·exact absurd (lP c) b
 ·refine⟨g,0,cap,rfl,⟨_,_,hg⟩,hc1,hc2,fun i t hi=>?_⟩
  have d:i<us.length:=(kS.1 hi).1
  have a:(cur.toList.take (us.length*1))[i]? =some (.int .i32 (Sh t)):=by rw[hc4];unfold PA;rw[kX,hi];rfl
  rw[lM,if_pos (by omega)] at a
  rw[Ae hg,lK]
  simpa using a
theorem aL {w:World}{lv:Value}{cs:List Nat}(h:w.ownsRow 0 3 1 lv cs.length (Fj cs)):Gg w lv cs:=by
 rcases h.2 with ⟨e,b⟩|⟨g,cap,cur,rfl,_,hg,hc1,_,hc2,hc3⟩
 ·exact .inl ⟨e,lP b⟩
 ·refine .inr ⟨g,0,cap,rfl,Aa hg,fun i c hi=>?_⟩
  have d:i<cs.length:=(kS.1 hi).1
  have a:(cur.toList.take (cs.length*1))[i]? =some (.int .i64 (c:Int)):=by rw[hc3];unfold Fj;rw[kX,hi];rfl
  rw[lM,if_pos (by omega)] at a
  rw[Ae hg,lK]
  simpa using a
def Ix (us:List Bool)(cs:List Nat):Bool:=cs.all fun c=>decide (c<us.length)
def Tw (us:List Bool)(cs:List Nat)(w:World)(e:Ending)(w':World):Prop :=
 Ab No w w'∧(Ix us cs=true∧(∃v,e=.returned (.tuple #[v,.bool true])∧w'.ownsRow w.heap.size 130 1 v (Hl us cs).length (PA (Hl us cs))) ∨
  Ix us cs=false∧e=.returned (.tuple #[.slice none 0 0,.bool false]))
theorem PD {us:List Bool}{cs:List Nat}{i c:Nat}(h:cs[i]? =some c)(_:us.length≤c):Ix us cs=false:=by
 rw[Ix,nY]
 exact⟨c,kW h,by simp;omega⟩
theorem Ps (us:List Bool)(cs:List Nat):(Hl us cs).length=cs.length:=by simp[Hl]
theorem JH (P:Nat)(h:Hd)(lv iv tv:Value)(us:List Bool)(cs:List Nat)(w:World)(B:w.heap[P]? =some (.cells (A0 h lv iv) 139 (0,0)))(f:Gg w lv cs)(L:cs.length≤6)(g:∀c∈cs,c<10)(C:Pq w tv us) :
 Calls Tryz.prog 108 #[.pointer (some ⟨P,0,none⟩),tv] w (Tw us cs w):=by
 have M:=(Ax B).2.2.1
 obtain⟨va,_,rfl⟩:=f.is
 have D:=Ad f;have N:=Ad C;have O:=Ad g
 obtain⟨b,o,cap,rfl,j,Q,E,F⟩:=C
 replace j:=j.lt
 obtain⟨n,l⟩:∃n,cs.length=n:=⟨_,rfl⟩
 have p:=Ad l
 rw[l] at M D L
 obtain⟨m,q⟩:∃m,us.length=m:=⟨_,rfl⟩
 have r:=Ad q
 rw[q] at N Q⊢
 obtain⟨R,S,T,U,V⟩:=info_parts VB
 have ak:cap≤9223372036854775807:=by unfold maxLen at E;omega
 have W:=Ad F;clear B l q f E F g
 go_enter Tryz.func108,Tryz.ntmps108
 go_wp2_with fail
 go_loopg [6,14] n (fun k X Y wr=>∃i:Nat,i+k=n∧Y=.int .i64 (i:Int)∧oH (wr.ownsRow w.heap.size 130 1 X (Hl us (cs.take i)).length (PA (Hl us (cs.take i))))∧oH (Ix us (cs.take i)=true)∧oH (Ab No w wr))
 case atStart=>exact⟨0,by omega,rfl,Ad (World.ownsRow_nil _ _ _ _),Ad rfl,Ad (Ab.refl _ _)⟩
 case round =>
  obtain⟨i,_,rfl,hO,G,a⟩:=hrel
  cases gk with
  |zero =>
   have s:¬(i:Int)<(n:Int):=by omega
   have H:oH (cs.take i=cs):=lT (by have:=p.o;omega)
   go_wp2_with fail;go_ret2
   refine⟨a.o,.inl ⟨by rw[←H.o];exact G.o,_,rfl,?_⟩⟩
   have:=hO.o
   rw[H.o] at this
   exact this
  |succ k =>
   have s:(i:Int)<(n:Int):=by omega
   have al:(0:Int)≤(i:Int):=by omega
   obtain⟨c,d⟩:∃c,cs[i]? =some c:=⟨_,kT (by have:=p.o;omega)⟩
   have g:=O.o c (kW d)
   have am:(0:Int)≤(c:Int):=by omega
   have u:=Ad d
   rcases D.o with ⟨e1,v⟩|⟨ib,io,icap,e,hib,hcell⟩
   ·rw[v] at d;simp at d
   injection e with e1 v Z
   subst e1 Z;have g0:wr.cell? ⟨ib,io+i,none⟩=some (.int .i64 (c:Int)):=(a.o.cell hib oI).trans (hcell i c d);clear hcell d v
   by_cases an:c<m
   ·have aa:(c:Int)<(m:Int):=by omega
    have ao:¬(m:Int)≤(c:Int):=by omega
    obtain⟨t,y⟩:∃t,us[c]? =some t:=⟨_,kT (by have:=r.o;omega)⟩
    have ab:wr.cell? ⟨b,o+c,none⟩=some (.int .i32 (Sh t)):=(a.o.cell j oI).trans (W.o c t y);have z:=hO.o
    have I:(Hl us (cs.take i)).length=i:=by rw[Ps,lV];have:=p.o;omega
    have ac:oH (Hl us (cs.take (i+1))=Hl us (cs.take i)++[t]):=by
     show _=_
     rw[lL,u.o]
     unfold Hl
     rw[lF]
     simp[y]
    have ad:oH (Ix us (cs.take (i+1))=true):=by
     show _=_
     rw[lL,u.o]
     unfold Ix
     rw[oF]
     have J:=G.o;unfold Ix at J
     rw[J]
     have:=r.o
     simp;omega
    have ap:=a.o.size
    rw[I] at z
    have ae:=Ad z;clear y
    obtain⟨zt,A⟩:∃af,Sh t=af:=⟨_,rfl⟩
    have ag:=Ad A
    rw[A] at ab
    clear A
    go_wp2_with (first
     |(at_builtin;refine wpList_append_own_at _ rfl _ _ 78 rfl w.heap.size 130 R (.int .i32 0) 1 4 Tryz.underlying78 S T U V rfl (by decide) _ _ _ rfl (z.alloc _) ⟨wr.heap.size,0,none⟩ 1 1 [.int .i32 zt] rfl rfl (World.news_of_block (cs:=#[.int .i32 zt]) (t:=130) (fr:=(0,0)) (heap_alloc_last wr _)) (by intro aq K;simp at K;subst K;rfl) (by unfold maxLen;omega) (by omega) (by simp;omega) ?_;intro v' w5 ah ai _ _)
     |fail)
    go_roundg k
    case measure=>omega
    case rel =>
     have hg:(wr.alloc (.cells #[.int .i32 zt] 130)).grownBy w5 u6.ownBlock:=ai
     refine⟨i+1,by omega,by go_num,?_,ad,Ad ((a.o.alloc _).grown hg (fun x s=>.inl (Bf ae.o x s)))⟩
     show w5.ownsRow _ _ _ _ _ _
     rw[ac.o,kU]
     unfold PA
     rw[lF,I]
     show w5.ownsRow _ _ _ _ (i+1) (_++[Value.int .i32 (Sh t)])
     rw[ag.o]
     exact ah
   ·have aa:(m:Int)≤(c:Int):=by omega
    have aj:oH (Ix us cs=false):=PD u.o (by have:=r.o;omega)
    go_wp2_with fail;go_ret2
    exact⟨a.o,.inr ⟨aj.o,rfl⟩⟩
end Go.Proofs.YtdinjjmcmfjbfaaGreatDoor
