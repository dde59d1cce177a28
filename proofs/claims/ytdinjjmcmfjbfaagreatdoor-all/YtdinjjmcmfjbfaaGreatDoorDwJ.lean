import Derived.Test.YtdinjjmcmfjbfaaGreatDoorLlJ
set_option maxRecDepth 100000
set_option maxHeartbeats 4000000
namespace Go.Proofs.YtdinjjmcmfjbfaaGreatDoor
open Go.RowKit Go.Shelf Mo Pl Tryz
section
variable {ft:List UInt8→Option (List Bool)} (hf:∀nm us,ft nm=some us→1≤us.length∧us.length≤6)
variable {X:Nat→Prop} {w0:World} {v:Value} {id0:Nat} {F:Nat→Bag}
def Kp (ft:List UInt8→Option (List Bool))(X:Nat→Prop)(w0:World)(v:Value)(id0:Nat)(F:Nat→Bag)(p:Nat)(q:Q):Prop :=
 ∀{xs:List TabS} {i:Nat} {T:Tk} {A:Nat→Prop} {ts:List Bool} {Gd:Bag→Prop} {R:World→Ow→Bag→Prop} {w:World} {O:Ow},jN ft X w0 v id0 F xs i q T A ts Gd R w O →
  Calls prog 39 #[v,pV p,T.val] w (Kw q T A R i F xs v id0 w O)
theorem WJ {p:Nat}{h:Hd}{cs:List Nat}(a:h.k=1)(c:Qp w0 X p h cs []):Kp ft X w0 v id0 F p (.tab h.nm):=fun {xs i T A ts Gd R w O} hp=>by
 obtain⟨_,lv,iv,d,_,_,_,_,_⟩:=c.mono (w':=w) (fun k a=>(hp.agree k a).2.1) (fun _ e=>e);obtain⟨Y,f,e1,e2⟩:=hp.fit 0 h.nm rfl;have g0:=(hp.ok 0 (by simp[Ac])).2;have b:=(hp.ok 1 (by simp[Ac])).2;have e3:A1 (Ob F (i+0)) i (.tab h.nm)=[]:=if_neg (by omega);have e4:A1 (Ob F (i+1)) i (.tab h.nm)=Y.bag:=(if_pos (by omega)).trans e2;rw[e3] at g0;rw[e4] at b;exact cQ hp.tk p h a lv iv v i id0 F xs Y f e1 e2 g0 b w O d hp.r0 hp.tabs hp.tok
theorem OQ {p p1:Nat}{h:Hd}{cs:List Nat}{q:Q}(c:h.k=6)(hi:yC h.k=1)(o:Qp w0 X p h cs [p1])(r:Kp ft X w0 v id0 F p1 q):Kp ft X w0 v id0 F p (.dist q):=fun {xs i T A ts Gd R w O} hp=>by
 obtain⟨_,lv,iv,g,_,s,_,_,u⟩:=o.mono (w':=w) (fun k c=>(hp.agree k c).2.1) (fun _ e=>e);have l:=Q8 p h u.2.2.2 (by omega) (.inl hi) lv iv 281 283 (by decide) VZ #[sN,.map none] rfl T.ty T.p w g (AO p h c lv iv w g);rw[hi] at l;have m:A7 ft q=some ts:=hp.ty
 refine (Xa hp.tk BU En (fun w O b B=>Lv w O b T.val B) (us:=ts) (Gd1:=fun B=>B2 ts B∧Gd (En B)) (fun b j=>Yq hp.tk b ts j) (A9.refl _) 281 (fun b=>⟨b,0,none⟩) (fun _=>rfl) 283 #[sN,.map none] p h (by omega) lv iv v p1 i id0 F xs q w O g (Nf s (by simp)) l
  (fun w1 x v' j ho e1 e2 _ _=>cS ho e1 e2 j) hp.r0 hp.tabs hp.tok hp.ab hp.old hp.id
  (fun w1 x n W y z EB C D E=>r ⟨hp.ag n.size (fun k c _=>n.block k c xT) y,EB,m,hp.wf,Pf.un (Q1:=.dist q) m En rfl (fun f e=>e) (fun f=>rfl) hp.ok,hp.fit,C,D,E,hp.tks,fun a d=>by
    rcases d with d|d
    ·have:=hp.ab a d;omega
    omega,z,by have:=hp.id;omega⟩)).mono fun e w' G=>?_
 obtain⟨H,t,I,J,K,L,M,N,P,S,U,V⟩:=G;exact⟨H,.one w.heap.size t,I,J,K,L,M,⟨N,P⟩,S,U,V⟩
include hf
theorem WK {p p1:Nat}{h:Hd}{cs:List Nat}{q:Q}(d:h.k=2)(hi:yC h.k=1)(s:Qp w0 X p h cs [p1])(u:Kp ft X w0 v id0 F p1 q){c:Nat}(x:h.l=.col c):Kp ft X w0 v id0 F p (.sel c (Mi h.cmp) h.r q):=fun {xs i T A ts Gd R w O} hp=>by
 obtain⟨_,lv,iv,l,_,y,_,_,z⟩:=s.mono (w':=w) (fun k d=>(hp.agree k d).2.1) (fun _ e=>e);obtain⟨us,m,C⟩:=uE.1 (show (A7 ft q).bind (Eh c h.r)=some ts from hp.ty);have D:=Co hf q us hp.wf.2.2 m;obtain⟨E,G⟩:=BV C D.2 hp.wf.2.1;subst E;have o:=Q8 p h z.2.2.2 (by omega) (.inl hi) _ iv 275 277 (by decide) cM (Nc sN h.cmp h.l h.r) rfl T.ty T.p w l (ES p h d lv iv w l);rw[hi] at o
 refine (Xa hp.tk OH (Cw (M6 c (Mi h.cmp) h.r)) (fun w O b _=>Sl w O b T.val h.cmp (.col c) h.r) (us:=ts) (Gd1:=fun B=>B2 ts B∧Gd (Cw (M6 c (Mi h.cmp) h.r) B)) (fun b g=>BM hp.tk b h.cmp (.col c) h.r ts G g) (A9.refl _) 275 (fun b=>⟨b,0,none⟩) (fun _=>rfl) 277 (Nc sN h.cmp h.l h.r) p h (by omega) _ iv v p1 i id0 F xs q w O l (Nf y (by simp)) o
  (fun w1 H v' g ho e1 e2 r n=>jK ho e1 e2 (by rw[x] at g;exact g)) hp.r0 hp.tabs hp.tok hp.ab hp.old hp.id
  (fun w1 H n ad r I EB J K L=>u ⟨hp.ag n.size (fun k d _=>n.block k d xT) r,EB,m,hp.wf.2.2,Pf.un (Q1:=.sel c (Mi h.cmp) h.r q) m (Cw (M6 c (Mi h.cmp) h.r)) rfl (fun f e=>e) (fun f=>rfl) hp.ok,hp.fit,J,K,L,hp.tks,fun a j=>by
    rcases j with j|j
    ·have:=hp.ab a j;omega
    omega,I,by have:=hp.id;omega⟩)).mono fun e w' M=>?_
 obtain⟨N,t,P,S,U,V,W,Y,Z,aa,ab,ac⟩:=M;exact⟨N,.one w.heap.size t,P,S,U,V,W,⟨⟨h.cmp,rfl,Y⟩,Z⟩,aa,ab,ac⟩
theorem OR {p p1:Nat}{h:Hd}{cs:List Nat}{q:Q}(c:h.k=3)(hi:yC h.k=1)(C:Qp w0 X p h cs [p1])(D:Kp ft X w0 v id0 F p1 q):Kp ft X w0 v id0 F p (.pick cs q):=fun {xs i T A ts Gd R w O} hp=>by
 obtain⟨_,lv,iv,j,u,E,x,_,G⟩:=C.mono (w':=w) (fun k c=>(hp.agree k c).2.1) (fun _ e=>e);obtain⟨us,l,H⟩:=uE.1 (show (A7 ft q).bind (Bq cs)=some ts from hp.ty);have I:=Co hf q us hp.wf.2.2.2 l;obtain⟨m,n,o,rfl⟩:=Pe u;have z:=Q8 p h G.2.2.2 (by omega) (.inl hi) _ iv 278 280 (by decide) VY #[sN,.slice m n o] rfl T.ty T.p w j (AP p h c m n o iv w j);rw[hi] at z
 refine (Xa hp.tk BR (Az cs) (fun w O b _=>Q0 w O b T.val cs) (us:=us) (Gd1:=fun B=>B2 us B∧Gd (Az cs B)) (fun b r=>Yp hp.tk b cs us (fun y J=>by have:=(Dc H).1 y J;omega) hp.wf.2.1 (fun K=>Vk I.2 hp.wf.2.1 K) r) (A9.refl _) 278 (fun b=>⟨b,0,none⟩) (fun _=>rfl) 280 #[sN,.slice m n o] p h (by omega) _ iv v p1 i id0 F xs q w O j (Nf E (by simp)) z
  (fun w1 L v' r ho e1 e2 s d=>cT ho e1 e2 r (SR (X:=X) (X0 u fun k e=>d.block k (hp.agree k (x k e)).1 xT) x (fun k e=>(s k (hp.agree k e).1).trans (hp.agree k e).2.2))) hp.r0 hp.tabs hp.tok hp.ab hp.old hp.id
  (fun w1 L d ah s M EB N P S=>D ⟨hp.ag d.size (fun k c _=>d.block k c xT) s,EB,l,hp.wf.2.2.2,Pf.un (Q1:=.pick cs q) l (Az cs) rfl (fun f e=>e) (fun f=>rfl) hp.ok,hp.fit,N,P,S,hp.tks,fun a g=>by
    rcases g with g|g
    ·have:=hp.ab a g;omega
    omega,M,by have:=hp.id;omega⟩)).mono fun e w' U=>?_
 obtain⟨V,t,W,Y,Z,aa,ab,ac,ad,ae,af,ag⟩:=U;exact⟨V,.one w.heap.size t,W,Y,Z,aa,ab,⟨ac,ad⟩,ae,af,ag⟩
theorem WL {p p1:Nat}{h:Hd}{cs:List Nat}{q:Q}(c:h.k=7)(hi:yC h.k=1)(C:Qp w0 X p h cs [p1])(D:Kp ft X w0 v id0 F p1 q){s:Option Nat}(E:h.w=xS s):Kp ft X w0 v id0 F p (.grp cs s q):=fun {xs i T A ts Gd R w O} hp=>by
 obtain⟨_,lv,iv,l,x,G,y,_,H⟩:=C.mono (w':=w) (fun k c=>(hp.agree k c).2.1) (fun _ e=>e);obtain⟨us,m,I⟩:=uE.1 (show (A7 ft q).bind (Fe cs s)=some ts from hp.ty);have J:=Co hf q us hp.wf.2.2.2 m;obtain⟨n,o,r,rfl⟩:=Pe x;have z:=Q8 p h H.2.2.2 (by omega) (.inl hi) _ iv 284 286 (by decide) cN (Lw sN (.map none) (.map none) (.slice n o r) h.w) rfl T.ty T.p w l (ET p h c n o r iv w l);rw[hi] at z
 refine (Xa hp.tk VV (yE cs s) (fun w O b B=>Q6 w O b T.val cs s (xS s) B) (us:=us) (Gd1:=fun B=>B2 us B∧Gd (yE cs s B)) (fun b d=>BP hp.tk b cs s (xS s) us (BX I J.2) d) (A9.refl _) 284 (fun b=>⟨b,0,none⟩) (fun _=>rfl) 286 (Lw sN (.map none) (.map none) (.slice n o r) h.w) p h (by omega) _ iv v p1 i id0 F xs q w O l (Nf G (by simp)) z
  (fun w1 K v' d ho e1 e2 u g=>jM ho e1 e2 (by rw[E] at d;exact d) (SR (X:=X) (X0 x fun k e=>g.block k (hp.agree k (y k e)).1 xT) y (fun k e=>(u k (hp.agree k e).1).trans (hp.agree k e).2.2))) hp.r0 hp.tabs hp.tok hp.ab hp.old hp.id
  (fun w1 K g ag u L EB M N P=>D ⟨hp.ag g.size (fun k c _=>g.block k c xT) u,EB,m,hp.wf.2.2.2,Pf.un (Q1:=.grp cs s q) m (yE cs s) rfl (fun f e=>e) (fun f=>rfl) hp.ok,hp.fit,M,N,P,hp.tks,fun a j=>by
    rcases j with j|j
    ·have:=hp.ab a j;omega
    omega,L,by have:=hp.id;omega⟩)).mono fun e w' S=>?_
 obtain⟨U,t,V,W,Y,Z,aa,ab,ac,ad,ae,af⟩:=S;exact⟨U,.one w.heap.size t,V,W,Y,Z,aa,⟨ab,ac⟩,ad,ae,af⟩
end
section
variable {ft:List UInt8→Option (List Bool)} (hf:∀nm us,ft nm=some us→1≤us.length∧us.length≤6)
variable {X:Nat→Prop} {w0:World} {v:Value} {id0:Nat} {F:Nat→Bag}
theorem JW {q r:Q}{xs:List TabS}{i:Nat}(h:∀(j:Nat) (nm:List UInt8),(Ac q++Ac r)[j]? =some nm→∃Y∈xs,Y.name=nm∧F (i+j)=Y.bag)(j:Nat)(nm:List UInt8)(a:(Ac q)[j]? =some nm):∃Y∈xs,Y.name=nm∧F (i+j)=Y.bag :=
 h j nm (by rw[uD (tR.1 a).1];exact a)
theorem CE {q r:Q}{xs:List TabS}{i:Nat}(h:∀(j:Nat) (nm:List UInt8),(Ac q++Ac r)[j]? =some nm→∃Y∈xs,Y.name=nm∧F (i+j)=Y.bag)(l:List (List UInt8×Tk))(j:Nat)(nm:List UInt8)(a:(Ac r)[j]? =some nm):∃Y∈D6 xs l,Y.name=nm∧F (i+(Ac q).length+j)=Y.bag:=by
 obtain⟨Y,b,e1,e2⟩:=h ((Ac q).length+j) nm (by rw[uC (by omega),wF];exact a);obtain⟨Z,c,d,e⟩:=WI (l:=l) b;exact⟨Z,c,d.trans e1,by rw[wD,e2,e]⟩
theorem CF {q r:Q}{xs:List TabS}{l:List (List UInt8×Tk)}(h:∀Y∈xs,Y.tks.length+(Ac q++Ac r).length≤1000000)(_:l.length=(Ac q).length):∀Y∈D6 xs l,Y.tks.length+(Ac r).length≤1000000:=fun Y a=>by
 obtain⟨Z,b,_,_,_,e⟩:=Lg a;have:=h Z b;rw[tS] at this;omega
theorem WM {p p1 p2:Nat}{h:Hd}{cs:List Nat}{q r:Q}(c:h.k=5)(hi:yC h.k=2)(N:Qp w0 X p h cs [p1,p2])(P:Kp ft X w0 v id0 F p1 q)(S:Kp ft X w0 v id0 F p2 r):Kp ft X w0 v id0 F p (.uni q r):=fun {xs i T A ts Gd R w O} hp=>by
 obtain⟨_,lv,iv,s,_,U,_,I,V⟩:=N.mono (w':=w) (fun k c=>(hp.agree k c).2.1) (fun _ e=>e);obtain⟨us,u,W⟩:=uE.1 (show (A7 ft q).bind (fun ts=>(A7 ft r).bind fun us=>if ts=us then some ts else none)=some ts from hp.ty);obtain⟨vs,y,n⟩:=uE.1 W;have Y:us=vs∧us=ts:=by
  by_cases e:us=vs
  ·rw[if_pos e] at n;exact⟨e,by simpa using n⟩
  rw[if_neg e] at n;cases n
 obtain⟨rfl,rfl⟩:=Y;have J:=Q8 p h V.2.2.2 (by omega) (.inr hi) _ iv 287 289 (by decide) cO #[sN] rfl T.ty T.p w s (EP p h c lv iv w s);rw[hi] at J;have K:∀X∈xs,X.tks.length+((Ac q).length+(Ac r).length)≤1000000:=fun X l=>by have:=hp.tks X l;simp only[Ac,tS] at this;exact this
 have L:(Ac (.uni q r)).length=(Ac q).length+(Ac r).length:=tS ..
 refine (JU hp.tk Od Od (fun B C=>B++C) (fun w O b _ _=>V7 w O b T.val) (us1:=us) (us2:=us) (Gd1:=fun B=>B2 us B∧Gd (B++[])) (Gd2:=fun B=>B2 us B∧Gd (A1 F i q++B)) i F q r
  (fun b m=>Ry hp.tk b us (fun B=>B++[]) (fun B d x=>by simp only[Ah];omega) (fun e=>e.append (A9.refl _)) m)
  (fun b m=>Ry hp.tk b us (fun B=>A1 F i q++B) (fun B d x=>by simp only[Ah];omega) (fun e=>(A9.refl _).append e) m)
  (A9.refl _) 287 (fun b=>⟨b,0,none⟩) (fun b=>⟨b,0,none⟩) (fun _=>rfl) (fun _=>rfl) 289 #[sN] p h (by omega) lv iv v p1 p2 id0 xs w O s (Nf U (by simp)) (fun g hg=>⟨(hp.agree g (I g hg)).1,(hp.agree g (I g hg)).2.2⟩) J
  (fun w1 Z v' m ho e1 e2=>jJ ho e1 e2 m) hp.r0 hp.tabs hp.tok (fun X l=>by have:=K X l;omega) hp.ab hp.old hp.id
  (fun w1 Z M aa z D EB ab ac ad=>P ⟨hp.ag M.size (fun k c _=>M.block k c xT) z,EB,u,hp.wf.1,fun j E=>by
    obtain⟨a,G,_,H⟩:=Pf.left (Q1:=.uni q r) u y (fun B C=>B++C) L (fun f e=>e) (fun f=>rfl) hp.ok j E;exact⟨a,G,H⟩,JW hp.fit,ab,ac,ad,fun X l=>by have:=K X l;omega,fun a o=>by
    rcases o with o|o
    ·have:=hp.ab a o;omega
    omega,D,by have:=hp.id;omega⟩)
  (fun t ay az ae aa z D af EB ag ah ai aj=>S ⟨hp.ag (by omega) ae z,EB,y,hp.wf.2,fun j E=>by obtain⟨a,G,_,H⟩:=Pf.right (Q1:=.uni q r) u y (fun B C=>B++C) L (fun f e=>e) (fun f=>rfl) hp.ok j E;exact⟨a,G,H⟩,CE hp.fit _,ag,ai,aj,CF hp.tks ah,af,D,by have:=hp.id;omega⟩)).mono fun e w' ak=>?_
 obtain⟨al,t,am,an,ao,ap,aq,ar,au,av,aw,ax⟩:=ak;exact⟨al,.two w.heap.size t am,an,ao,ap,aq,ar,au,av,aw,ax⟩
include hf
theorem OT {p p1 p2:Nat}{h:Hd}{cs:List Nat}{q r:Q}(c:h.k=4)(J:Qp w0 X p h cs [p1,p2])(K:Kp ft X w0 v id0 F p1 q)(L:Kp ft X w0 v id0 F p2 r):Kp ft X w0 v id0 F p (.join (Ce h.l) (Ce h.r) q r):=fun {xs i T A ts Gd R w O} hp=>by
 obtain⟨_,lv,iv,x,_,M,_,y,_⟩:=J.mono (w':=w) (fun k c=>(hp.agree k c).2.1) (fun _ e=>e);obtain⟨us,l,N⟩:=uE.1 (show (A7 ft q).bind (fun ts=>(A7 ft r).bind fun us=>C8 (Ce h.l) (Ce h.r) ts us)=some ts from hp.ty);obtain⟨vs,m,P⟩:=uE.1 N;have z:=Co hf q us hp.wf.2.2.1 l;have D:=Co hf r vs hp.wf.2.2.2 m;obtain⟨jn,_,S⟩:=Y7 P;have U:=WC p h c lv iv T.ty T.p w x;have E:∀X∈xs,X.tks.length+((Ac q).length+(Ac r).length)≤1000000:=fun X d=>by have:=hp.tks X d;simp only[Ac,tS] at this;exact this
 have G:(Ac (.join (Ce h.l) (Ce h.r) q r)).length=(Ac q).length+(Ac r).length:=tS ..
 refine (JU hp.tk (fun b=>Hw b true) (fun b=>Hw b false) (fun B C=>Bw (Ce h.l) (Ce h.r) B C) (fun w O b B C=>SM w O b T.val true (Ce h.l) (Ce h.r) B C) (us1:=us) (us2:=vs) (Gd1:=fun B=>B2 us B∧B2 vs []∧Gd (Bw (Ce h.l) (Ce h.r) B [])) (Gd2:=fun B=>B2 vs B∧B2 us (A1 F i q)∧Gd (Bw (Ce h.l) (Ce h.r) (A1 F i q) B)) i F q r
  (fun b j=>Pd hp.tk b true (Ce h.l) (Ce h.r) us vs [] (by omega) ⟨z.1,D.1,S⟩ j)
  (fun b j=>by have H:=Pd hp.tk b false (Ce h.r) (Ce h.l) vs us (A1 F i q) (by omega) ⟨D.1,z.1,by omega⟩ j;exact C9.conv (T:=Hw b false) H (fun _=>Iff.rfl) xT (fun e o=>H.gde e o) (fun {w O B}=>⟨fun e=>⟨e.1,e.2.swap⟩,fun e=>⟨e.1,e.2.swap⟩⟩))
  (A9.refl _) 236 (fun b=>⟨b,1,none⟩) (fun b=>⟨b,6,none⟩) (fun _=>rfl) (fun _=>rfl) 240 (jC sN (.map none) (.map none) (Ce h.l) (Ce h.r) w.heap.size) p h (by omega) lv iv v p1 p2 id0 xs w O x (Nf M (by simp)) (fun g hg=>⟨(hp.agree g (y g hg)).1,(hp.agree g (y g hg)).2.2⟩) U
  (fun w1 V v' j ho e1 e2=>cU ho e1 e2 j) hp.r0 hp.tabs hp.tok (fun X d=>by have:=E X d;omega) hp.ab hp.old hp.id
  (fun w1 V I W s u EB Y Z aa=>K ⟨hp.ag I.size (fun k c _=>I.block k c xT) s,EB,l,hp.wf.2.2.1,Pf.left (Q1:=.join (Ce h.l) (Ce h.r) q r) l m (fun B C=>Bw (Ce h.l) (Ce h.r) B C) G (fun f e=>e) (fun f=>rfl) hp.ok,JW hp.fit,Y,Z,aa,fun X d=>by have:=E X d;omega,fun a n=>by
    rcases n with n|n
    ·have:=hp.ab a n;omega
    omega,u,by have:=hp.id;omega⟩)
  (fun t au av ab W s u ac EB ad ae af ag=>L ⟨hp.ag (by omega) ab s,EB,m,hp.wf.2.2.2,Pf.right (Q1:=.join (Ce h.l) (Ce h.r) q r) l m (fun B C=>Bw (Ce h.l) (Ce h.r) B C) G (fun f e=>e) (fun f=>rfl) hp.ok,CE hp.fit _,ad,af,ag,CF hp.tks ae,ac,u,by have:=hp.id;omega⟩)).mono fun e w' ah=>?_
 obtain⟨o,t,ai,aj,ak,al,am,an,ao,ap,aq,ar⟩:=ah;exact⟨o,.two w.heap.size t ai,aj,ak,al,am,an,ao,ap,aq,ar⟩
theorem cV {p:Nat}{q:Q}(h:Tr w0 X p q):Kp ft X w0 v id0 F p q:=by
 induction h with
 |zero e b=>exact WJ e b
 | @one p p1 h cs q hi b _ d =>
   have f:Wk h:=(by obtain⟨_,_,_,_,_,_,_,_,l⟩:=b;exact l);rcases EV hi f.2.2.2 with a|a|a|a
   ·obtain⟨c,g⟩:=f.1 a;have e:Ip h cs [q]=.sel c (Mi h.cmp) h.r q:=(by simp[Ip,a,g,Ce]);rw[e];intro xs i T A ts Gd R w O hp;exact WK hf a hi b d g hp
   ·have e:Ip h cs [q]=.pick cs q:=(by simp[Ip,a]);rw[e];intro xs i T A ts Gd R w O hp;exact OR hf a hi b d hp
   ·have e:Ip h cs [q]=.dist q:=(by simp[Ip,a]);rw[e];intro xs i T A ts Gd R w O hp;exact OQ a hi b d hp
   have e:Ip h cs [q]=.grp cs (wS h.w) q:=(by simp[Ip,a]);have n:h.w=xS (wS h.w):=(by rcases f.2.2.1 a with e|⟨m,e⟩ <;> rw[e] <;> rfl);rw[e];intro xs i T A ts Gd R w O hp;exact WL hf a hi b d n hp
 | @two p p1 p2 h cs q r hi b _ _ j k =>
   rcases Tn hi with a|a
   ·have e:Ip h cs [q,r]=.join (Ce h.l) (Ce h.r) q r:=(by simp[Ip,a]);rw[e];intro xs i T A ts Gd R w O hp;exact OT hf a b j k hp
   have e:Ip h cs [q,r]=.uni q r:=(by simp[Ip,a]);rw[e];intro xs i T A ts Gd R w O hp;exact WM a hi b j k hp
end
theorem CG {F:Nat→Bag}(h:J8 F 120)(n:Nat):J8 (Ob F n) 120:=by
 refine⟨fun i=>?_,fun i=>?_,fun i=>?_⟩
 ·unfold Ob;split
  ·exact h.nn i
  intro e;simp[Mo.cnt]
 ·unfold Ob;split
  ·exact h.rows i
  show (0:Int)≤120;decide
 unfold Ob;split
 ·exact h.wts i
 show (0:Int)≤10000*120;decide
theorem CH {ft:List UInt8→Option (List Bool)}{q:Q}{i:Nat}{F:Nat→Bag}(h:Hl ft q i F)(n:Nat):Hl ft q i (Ob F n):=fun j nm us b c=>by
 unfold Ob;split
 ·exact h j nm us b c
 exact⟨(fun e a=>by cases a),(fun e a=>by cases a)⟩
theorem OU {ft:List UInt8→Option (List Bool)}(hf:∀nm us,ft nm=some us→1≤us.length∧us.length≤6){q:Q}{i:Nat}{F:Nat→Bag}{ts:List Bool}(a:J8 F 120)(b:wf q)(c:(Ac q).length≤120)(d:Al q≤2)(e:Hl ft q i F)(f:A7 ft q=some ts):Pf ft (B2 ts) q i F:=fun _ _ =>
 ⟨Mo.ok2 hf (CG a _) q b c d i (CH e _) f,SB hf (CG a _) q b c d i (CH e _) f⟩
def Mv (b:Bool)(w:World)(e:Ending)(w':World):Prop:=e=.returned (.bool b)∧Ab No w w'
theorem WN (P:Nat)(h:Hd)(g:h.k=1)(lv iv v:Value)(ts:List (Nat×List UInt8))(w:World)(a:C2 w P (Bb h lv iv) 139)(b:Gy w v ts)(i:ts.length≤1000) :
 Calls prog 37 #[v,C1 P] w (Mv (decide (0≤Bz ts h.nm)) w):=by
 have c:=(Ay a).1;rw[g] at c;have j:=(Ay a).2.2.2.2.2.2.2;have d:=Ae (Kb v ts h.nm w b i);clear a b;go_enter func37,ntmps37;go_wp21;go_call d.o as e w1 ⟨rfl,f⟩;have k:=Ae f;clear f c j d;go_wp21;go_ret;exact⟨rfl,k.o⟩
theorem OV (P:Nat)(h:Hd)(_:h.k≠1)(lv iv v:Value)(p1:Nat)(b:Bool)(w:World)(a:C2 w P (Bb h lv iv) 139)(k:Wc w iv [p1])
 (c:Calls prog 37 #[v,pV p1] w (Mv b w)) :
 Calls prog 37 #[v,C1 P] w (Mv b w):=by
 have l:=(Ay a).1;have o:((h.k:Int) == 1)=false:=by simp;omega
 have d:=Ae c;have m:=(Ay a).2.2.2.2.2.2.1;obtain⟨gi,_,_,_,rfl,f,g⟩:=k;have n:w.cell? ⟨gi,0,none⟩=some (C1 p1):=by rw[Af f];exact g 0 p1 rfl
 clear a g f c;go_enter func37,ntmps37;go_wp21;refine wp_loop_rounds 2 ?_;rw[rounds_succ];go_wp21;refine Calls.mono d.o ?_;rintro e w1 ⟨rfl,i⟩;have j:=Ae i;clear i d l m n;cases b
 ·go_wp21;go_ret;exact⟨rfl,j.o⟩
 go_wp21;rw[rounds_succ];go_wp21;go_ret;exact⟨rfl,j.o⟩
theorem OX (P:Nat)(h:Hd)(_:h.k≠1)(lv iv v:Value)(p1 p2:Nat)(b c:Bool)(w:World)(f:C2 w P (Bb h lv iv) 139)(q:Wc w iv [p1,p2])
 (j:Calls prog 37 #[v,pV p1] w (Mv b w)) (k:∀w1,Ab No w w1→Calls prog 37 #[v,pV p2] w1 (Mv c w1)) :
 Calls prog 37 #[v,C1 P] w (Mv (b && c) w):=by
 have r:=(Ay f).1;have z:((h.k:Int) == 1)=false:=by simp;omega
 have l:=Ae j;have m:=Ae k;have s:=(Ay f).2.2.2.2.2.2.1;obtain⟨gi,_,_,_,rfl,a,g⟩:=q;have t:w.cell? ⟨gi,0,none⟩=some (C1 p1):=by rw[Af a];exact g 0 p1 rfl
 have u:xR (C3 w gi 1 (C1 p2)):=by show _=_;rw[Af a];exact g 1 p2 rfl
 have x:=Aa a;clear f g a j k;go_enter func37,ntmps37;go_wp21;refine wp_loop_rounds 3 ?_;rw[rounds_succ];go_wp21;refine Calls.mono l.o ?_;rintro e w1 ⟨rfl,d⟩;have i:=Ae d;have n:=Ae (m.o w1 d);have y:C3 w1 gi 1 (C1 p2):=(d.cell x xT).trans u.o;clear d l m r s t;cases b
 ·go_wp21;go_ret;exact⟨rfl,i.o⟩
 go_wp21;rw[rounds_succ];go_wp21;refine Calls.mono n.o ?_;rintro e A ⟨rfl,o⟩;have p:=Ae o;clear o n y;cases c
 ·go_wp21;go_ret;exact⟨rfl,i.o.seq p.o⟩
 go_wp21;rw[rounds_succ];go_wp21;go_ret;exact⟨rfl,i.o.seq p.o⟩
def Fg (ts:List (Nat×List UInt8))(q:Q):Bool:=(Ac q).all fun nm=>decide (0≤Bz ts nm)
theorem Zc (h:Hd)(cs:List Nat)(q:Q):Ac (Ip h cs [q])=Ac q:=by
 show Ac (if h.k=2 then _ else if h.k=3 then _ else if h.k=6 then _ else _)=_;by_cases a:h.k=2
 ·rw[if_pos a];rfl
 by_cases b:h.k=3
 ·rw[if_neg a,if_pos b];rfl
 by_cases c:h.k=6
 ·rw[if_neg a,if_neg b,if_pos c];rfl
 rw[if_neg a,if_neg b,if_neg c];rfl
theorem Zd (h:Hd)(cs:List Nat)(q r:Q):Ac (Ip h cs [q,r])=Ac q++Ac r:=by
 show Ac (if h.k=4 then _ else _)=_;by_cases a:h.k=4
 ·rw[if_pos a];rfl
 rw[if_neg a];rfl
theorem cW {w0:World}{X:Nat→Prop}{v:Value}{ts:List (Nat×List UInt8)}(s:ts.length≤1000){p:Nat}{q:Q}(h:Tr w0 X p q):∀w,(∀k,X k→k<w.heap.size∧w.heap[k]? =w0.heap[k]?)→Gy w v ts→Calls prog 37 #[v,pV p] w (Mv (Fg ts q) w):=by
 induction h with
 | @zero p h cs e d =>intro w b c;obtain⟨j,lv,iv,f,l,g,m,n,o⟩:=d.mono (w':=w) (fun k a=>(b k a).2) (fun _ e=>e);have:=WN p h e lv iv v ts w f c s;have e2:Fg ts (Ip h cs [])=decide (0≤Bz ts h.nm):=(by simp[Fg,Ip,Ac]);rw[e2];exact this
 | @one p p1 h cs q hi d _ t =>intro w b c;obtain⟨j,lv,iv,f,l,g,m,n,o⟩:=d.mono (w':=w) (fun k a=>(b k a).2) (fun _ e=>e);have a:h.k≠1:=fun e=>(by rw[e] at hi;exact absurd hi (by decide));have e2:Fg ts (Ip h cs [q])=Fg ts q:=(by unfold Fg;rw[Zc]);rw[e2];exact OV p h a lv iv v p1 _ w f (Nf g (by simp)) (t w b c)
 | @two p p1 p2 h cs q r hi d _ _ u x =>intro w b c;obtain⟨j,lv,iv,f,l,g,m,n,o⟩:=d.mono (w':=w) (fun k a=>(b k a).2) (fun _ e=>e);have a:h.k≠1:=fun e=>(by rw[e] at hi;exact absurd hi (by decide));have e2:Fg ts (Ip h cs [q,r])=(Fg ts q && Fg ts r):=(by unfold Fg;rw[Zd,xP]);rw[e2];exact OX p h a lv iv v p1 p2 _ _ w f (Nf g (by simp)) (u w b c) fun w1 i=>x w1 (fun k a=>⟨tU (b k a).1 i.size,(i.block k (b k a).1 xT).trans (b k a).2⟩) (c.kept i)
def Tj (t:Bool):Int:=if t=true then 1 else 0
theorem lZ (v:V):kI v=Tj (ty v):=by cases v <;> rfl
def Nl (w:World)(v:Value)(us:List Bool):Prop:=∃b o cap,v=.slice (some ⟨b,o,none⟩) us.length cap∧Is 130 w b∧us.length≤cap∧cap≤maxLen∧∀(i:Nat) (t:Bool),us[i]? =some t→w.cell? ⟨b,o+i,none⟩=some (.int .i32 (Tj t))
theorem Nl.kept {w w':World}{v:Value}{us:List Bool}(h:Nl w v us)(k:Ab No w w'):Nl w' v us:=by
 obtain⟨b,o,cap,d,⟨c,e,a⟩,f,g,j⟩:=h;exact⟨b,o,cap,d,⟨c,e,(k.block b (Aa a) xT).trans a⟩,f,g,fun i t hi=>(k.cell (Aa a) xT).trans (j i t hi)⟩
theorem Nl.stays {w w':World}{v:Value}{us:List Bool}(h:Nl w v us)(k:∀b,v.ownBlock=some b→Is 130 w b→w'.heap[b]? =w.heap[b]?):Nl w' v us:=by
 obtain⟨b,o,cap,rfl,⟨c,a,d⟩,f,g,j⟩:=h;have e:=k b rfl ⟨c,a,d⟩;exact⟨b,o,cap,rfl,⟨c,a,e.trans d⟩,f,g,fun i t hi=>(World.cell?_of_block e).trans (j i t hi)⟩
theorem Is.lt {t:TypeId}{w:World}{b:Nat}(h:Is t w b):b<w.heap.size:=by obtain⟨c,_,h⟩:=h;exact Aa h
def WO:Option Bool→Value
 |some t=>.tuple #[.int .i32 (Tj t),.bool true]
 |none=>.tuple #[.int .i32 0,.bool false]
theorem Te (x:Dk)(us:List Bool)(tv:Value)(w:World)(a:∀c,x=.col c→c<10)(d:Nl w tv us) :
 Calls prog 111 #[.agg (Sh x).toArray,tv] w fun e w'=>e=.returned (WO (I7 us x))∧Ab No w w':=by
 cases x with
 |col c =>
  have m:=a c rfl;have n:=Bm c
  clear a;change Calls prog 111 #[.agg #[.bool true,.int .i64 (c:Int),D4,C4,C4,C4,C4,D2],tv] w fun e w'=>e=.returned (WO us[c]?)∧Ab No w w';have i:=d.kept ((Ab.refl No w).alloc (.cells #[.bool true,.int .i64 (c:Int),D4,C4,C4,C4,C4,D2] 135));clear d;obtain⟨b,o,cap,rfl,h,_,f,g⟩:=i;replace h:=h.lt;have p:=Bn f
  by_cases j:c<us.length
  ·have hg:us[c]? =some us[c]:=tT j;have k:=g c _ hg;have q:(c:Int)<(us.length:Int):=(by omega);have l:¬((us.length:Int)≤(c:Int)):=(by omega);rw[hg];generalize us[c]=t at k;clear g f hg;go_enter func111,ntmps111;go_wp21;go_ret2;exact⟨rfl,(Ab.refl No w).alloc _⟩
  have hg:us[c]? =none:=vK (by omega);have l:(us.length:Int)≤(c:Int):=by omega
  rw[hg];clear g f hg;go_enter func111,ntmps111;go_wp21;go_ret2;exact⟨rfl,(Ab.refl No w).alloc _⟩
 |val v =>clear a;change Calls prog 111 #[.agg #[.bool false,.int .i64 0,.int .i32 (kI v),E1 v 0,E1 v 1,E1 v 2,E1 v 3,.int .i64 (nI v)],tv] w fun e w'=>e=.returned (WO (some (ty v)))∧Ab No w w';rw[show WO (some (ty v))=.tuple #[.int .i32 (kI v),.bool true] by rw[lZ];rfl];obtain⟨b,o,cap,rfl,_⟩:=d;go_enter func111,ntmps111;go_wp21;go_ret2;exact⟨rfl,(Ab.refl No w).alloc _⟩
def Og:Option Bool→Option Bool→Bool
 |some a,some b=>decide (a=b)
 |_,_=>false
theorem OY (a b:Bool):(Tj a == Tj b)=decide (a=b):=by cases a <;> cases b <;> rfl
theorem Um (P:Nat)(h:Hd)(lv iv q i:Value)(us vs:List Bool)(w:World)(r:C2 w P (Bb h lv iv) 139)(v:∀c,h.l=.col c→c<10)(z:∀c,h.r=.col c→c<10)(A:Nl w q us)(hr:Nl w i vs) :
 Calls prog 107 #[C1 P,q,i] w fun e w'=>e=.returned (.bool (Og (I7 us h.l) (I7 vs h.r)))∧Ab No w w':=by
 have s:xR (∀w:World,C2 w P (Bb h lv iv) 139→(loadVar 135 ⟨P,3,none⟩).run prog w=.ok (.agg (Sh h.l).toArray) w):=fun w t=>run_loadVar_mid w P 3 135 (Sh h.l) _ (Ay t).2.2.2.1 underlying135 rfl Pb;have d:xR (∀w:World,C2 w P (Bb h lv iv) 139→(loadVar 135 ⟨P,11,none⟩).run prog w=.ok (.agg (Sh h.r).toArray) w):=fun w t=>run_loadVar_mid w P 11 135 (Sh h.r) _ (Ay t).2.2.2.2.1 underlying135 rfl Pb;have j:=Ae (Te h.l us q w v A);have k:xR (∀w1,Ab No w w1→Calls prog 111 #[.agg (Sh h.r).toArray,i] w1 fun e w'=>e=.returned (WO (I7 vs h.r))∧Ab No w1 w'):=fun w1 C=>Te h.r vs i w1 z (hr.kept C);have l:=Ae r;have D:=Aa r;clear r A hr v z;generalize I7 us h.l=x at j⊢;generalize I7 vs h.r=y at k⊢;generalize (Sh h.l).toArray=E at j s;generalize (Sh h.r).toArray=B at k d;go_enter func107,ntmps107;go_wp2_with (first
  |(refine Jw 135 _ rfl rfl P 3 rfl (.agg E) (s.o _ l.o) ?_)
  |fail)
 go_call j.o as e w1 ⟨rfl,m⟩;have n:xR (C2 w1 P (Bb h lv iv) 139):=(m.block P D xT).trans l.o;have o:=Ae (k.o w1 m);have p:=Ae m;clear m j k s;cases x with
 |none =>
  simp only[WO];go_wp2_with (first
   |(refine Jw 135 _ rfl rfl P 11 rfl (.agg B) (d.o _ n.o) ?_)
   |fail)
  go_call o.o as e F ⟨rfl,f⟩;have g:=Ae f;clear f o d l n;cases y with
  |none=>simp only[WO];go_wp21;go_ret;exact⟨rfl,p.o.seq g.o⟩
  |some b=>simp only[WO];go_wp21;go_ret;exact⟨rfl,p.o.seq g.o⟩
 |some a =>
  simp only[WO];go_wp2_with (first
   |(refine Jw 135 _ rfl rfl P 11 rfl (.agg B) (d.o _ n.o) ?_)
   |fail)
  go_call o.o as e F ⟨rfl,f⟩;have g:=Ae f;clear f o d l n;cases y with
  |none=>simp only[WO];go_wp21;go_ret;exact⟨rfl,p.o.seq g.o⟩
  |some b =>simp only[WO];have u:=Ae (OY a b);generalize Tj a=G at u⊢;generalize Tj b=H at u⊢;go_wp21;go_ret;exact⟨A5 u.o,p.o.seq g.o⟩
structure VS where
 q:Q
 nd:Nd
 blk:Nat
 told:Bag
 ts:List Bool
def Ly (b:Nat):Tk:=⟨81,249,⟨b,0,none⟩⟩
def VA (V:VS)(a:Nat):Prop:=a=V.blk+2∨∃b∈nds V.nd,a=b+2
def AB (V:VS)(G:Nat→Bag)(w:World)(O:Ow):Prop:=Er w O V.blk V.told (A1 G 0 V.q)∧Ba V.q V.nd (Ly V.blk) 0 G w O
theorem AB.stab {V:VS}{G:Nat→Bag}{w w':World}{O b:Ow}(h:AB V G w O)(d:w.heap.size≤w'.heap.size)(c:∀k,k<w.heap.size→VA V (O k)∨O k=1→w'.heap[k]? =w.heap[k]?∧b k=O k):AB V G w' b :=
 ⟨h.1.stab fun k a e=>c k a (.inl (.inl e)),h.2.stab d V.q V.nd _ 0 fun k a e=>c k a (e.imp .inr id)⟩
structure cX (ft:List UInt8→Option (List Bool)) (V:VS):Prop where
 ty:A7 ft V.q=some V.ts
 wf:wf V.q
 len:(Ac V.q).length≤120
 jn:Al V.q≤2
 shape:I0 V.q V.nd
 nod:(nds V.nd).Nodup
 own:∀b∈nds V.nd,b≠V.blk
 told:B2 V.ts V.told
section
variable {ft:List UInt8→Option (List Bool)} {V:VS} {G:Nat→Bag}
theorem WR (hf:∀nm us,ft nm=some us→1≤us.length∧us.length≤6)(c:cX ft V)(G:Nat→Bag){j:Nat}(f:j<(Ac V.q).length) :
 ∃us nm,(Ac V.q)[j]? =some nm∧ft nm=some us∧E9 (Dz V.q V.nd (Ly V.blk) j) (VA V) us (fun B=>Sw ft V.q 0 (Kv G j B)∧B2 V.ts (A1 (Kv G j B) 0 V.q)) (fun w O B=>AB V (Kv G j B) w O):=by
 have h:=Fv hf V.q V.nd (Ly V.blk) (fun a=>a=V.blk+2) V.ts (B2 V.ts) (fun w O B=>Er w O V.blk V.told B) 0 G j (Yo V.blk V.ts V.told c.told) c.ty c.wf c.shape c.nod (fun b g e=>c.own b g (by omega)) f;obtain⟨us,nm,i,k,d⟩:=h;rw[uL] at d;exact⟨us,nm,i,k,d⟩
def mA (ft:List UInt8→Option (List Bool))(V:VS)(G:Nat→Bag):Prop:=J8 G 120∧Hl ft V.q 0 G
theorem mA.ok (hf:∀nm us,ft nm=some us→1≤us.length∧us.length≤6)(a:cX ft V)(h:mA ft V G):Sw ft V.q 0 G∧B2 V.ts (A1 G 0 V.q) :=
 ⟨Mo.ok2 hf h.1 V.q a.wf a.len a.jn 0 h.2 a.ty,SB hf h.1 V.q a.wf a.len a.jn 0 h.2 a.ty⟩
theorem WS (G:Nat→Bag)(j:Nat):Kv G j (G j)=G:=by
 funext k;unfold Kv;split
 ·next h=>rw[h]
 rfl
theorem EW (hf:∀nm us,ft nm=some us→1≤us.length∧us.length≤6)(a:cX ft V){j:Nat}(b:j<(Ac V.q).length){d:Bag}{c:Nat}{w:World}{O:Ow}(h:AB V G w O)(f:mA ft V G)(g:mA ft V (Kv G j (G j++d)))(i:Ak w c (Ad d))(k:¬VA V (O c)) :
 Calls prog 47 #[.map (some c),(Dz V.q V.nd (Ly V.blk) j).val] w (Fb (VA V) (fun w O _=>AB V (Kv G j (G j++d)) w O) [] w O):=by
 obtain⟨us,nm,_,_,l⟩:=WR hf a G b;have e:=WS G j;refine (l.ED (B:=G j) (d:=d) (c:=c) (w:=w) (O:=O) (by show AB V (Kv G j (G j)) w O;rw[e];exact h) (by rw[e];exact f.ok hf a) (g.ok hf a) i k).mono fun e w' m=>?_;obtain⟨a1,n,a2,a3,a4⟩:=m;exact⟨a1,n,a2,a3,a4⟩
end
def Kq (vs:List VS)(nm:List UInt8):List (VS×Nat):=vs.flatMap fun V=>((List.range (Ac V.q).length).filter fun j=>decide ((Ac V.q)[j]? =some nm)).map fun j=>(V,j)
def qL (p:VS×Nat):Tk:=Dz p.1.q p.1.nd (Ly p.1.blk) p.2
def I8 (p:VS×Nat):Nat×Nat:=(p.1.blk,p.2)
theorem Pg {vs:List VS}{nm:List UInt8}{p:VS×Nat}:p∈Kq vs nm↔p.1∈vs∧(Ac p.1.q)[p.2]? =some nm:=by
 obtain⟨V,j⟩:=p;unfold Kq;simp only[xN,uA,xD,vX,decide_eq_true_eq,Prod.mk.injEq];constructor
 ·rintro⟨_,a,_,⟨b,c⟩,rfl,rfl⟩;exact⟨a,c⟩
 rintro⟨a,b⟩;exact⟨V,a,j,⟨(tR.1 b).1,b⟩,rfl,rfl⟩
theorem CI {nm:List UInt8}:∀{vs:List VS},(vs.map VS.blk).Nodup→((Kq vs nm).map I8).Nodup
 | [],_=>wL
 |V::vs,h=>by
  have c:=vE.1 (by simpa using h:(V.blk::vs.map VS.blk).Nodup);have e:Kq (V::vs) nm=Kq [V] nm++Kq vs nm:=by simp[Kq]
  rw[e,uF,vP];refine⟨?_,CI c.2,fun a g b i e=>?_⟩
  ·have:(Kq [V] nm).map I8=((List.range (Ac V.q).length).filter fun j=>decide ((Ac V.q)[j]? =some nm)).map fun j=>(V.blk,j):=(by simp[Kq,I8]);rw[this];exact List.Pairwise.map (fun j=>(V.blk,j)) (fun a b (k:a≠b) e=>k (by simpa using e)) (List.nodup_range.filter _)
  subst e;obtain⟨p,hp,rfl⟩:=uA.1 g;obtain⟨q,l,e⟩:=uA.1 i;have d:=(Pg.1 hp).1;have m:=(Pg.1 l).1;have f:q.1.blk=p.1.blk:=(Prod.mk.inj e).1;rw[xA] at d;rw[d] at f;exact c.1 (uA.2 ⟨q.1,m,f⟩)
def gv (done:List (VS×Nat))(d:Bag)(G:VS→Nat→Bag)(V:VS):Nat→Bag:=fun j=>if (V.blk,j)∈done.map I8 then G V j++d else G V j
theorem nW (d:Bag)(G:VS→Nat→Bag)(V:VS):gv [] d G V=G V:=by funext j;simp[gv]
theorem jP {done:List (VS×Nat)}{d:Bag}{G:VS→Nat→Bag}{V:VS}{j:Nat}(h:(V.blk,j)∉done.map I8):Kv (gv done d G V) j (gv done d G V j++d)=gv (done++[(V,j)]) d G V:=by
 funext k;unfold Kv;by_cases a:k=j
 ·subst a;rw[if_pos rfl];show (if (V.blk,k)∈done.map I8 then _ else _)++d=if (V.blk,k)∈(done++[(V,k)]).map I8 then _ else _
  rw[if_neg h,if_pos (by simp[I8])]
 rw[if_neg a];show (if (V.blk,k)∈done.map I8 then _ else _)=if (V.blk,k)∈(done++[(V,j)]).map I8 then _ else _
 have:((V.blk,k)∈(done++[(V,j)]).map I8)↔(V.blk,k)∈done.map I8:=by rw[uF,tW];simp[I8,a]
 simp only[this]
theorem cY {done:List (VS×Nat)}{d:Bag}{G:VS→Nat→Bag}{V a:VS}{j:Nat}(h:a.blk≠V.blk):gv (done++[(V,j)]) d G a=gv done d G a:=by
 funext k;show (if (a.blk,k)∈(done++[(V,j)]).map I8 then _ else _)=if (a.blk,k)∈done.map I8 then _ else _
 have:((a.blk,k)∈(done++[(V,j)]).map I8)↔(a.blk,k)∈done.map I8:=by rw[uF,tW];simp[I8,h]
 simp only[this]
theorem cZ {ft:List UInt8→Option (List Bool)}(hf:∀nm us,ft nm=some us→1≤us.length∧us.length≤6){vs:List VS}(L:∀V∈vs,cX ft V)(D:(vs.map VS.blk).Nodup)(M:∀V∈vs,∀h∈vs,h.blk≠V.blk→∀a,VA V a→¬VA h a)(N:∀V∈vs,¬VA V 1)
 {nm:List UInt8} {d:Bag} {G:VS→Nat→Bag} (E:∀i,∀V∈vs,mA ft V (gv ((Kq vs nm).take i) d G V)) {b c cap:Nat} {t:Option Addr} {w:World} {O:Ow} (P:(Kq vs nm).length≤1000000)
 (Q:C3 w b 0 (.slice t (Kq vs nm).length cap)) (R:∀i T,((Kq vs nm).map fun p=>(qL p).val)[i]? =some T→∃g o,t=some ⟨g,o,none⟩∧g<w.heap.size∧(∀V∈vs,¬VA V (O g))∧C3 w g (o+i) T)
 (S:∀V∈vs,AB V (G V) w O) (u:Ak w c (Ad d)) (F:∀V∈vs,¬VA V (O c)) :
 Calls prog 250 #[C1 b,.map (some c)] w fun e w'=>e=.returned (.tuple #[])∧∃f:Ow,(∀k,k<w.heap.size→f k=O k)∧Ab (fun k=>∃V∈vs,VA V (O k)) w w'∧∀V∈vs,AB V (gv (Kq vs nm) d G V) w' f:=by
 have v:((Kq vs nm).map fun p=>(qL p).val).length=(Kq vs nm).length:=tZ _
 have:=IR b c cap t ((Kq vs nm).map fun p=>(qL p).val) w (fun i wr=>∃f:Ow,(∀k,k<w.heap.size→f k=O k)∧Ab (fun k=>∃V∈vs,VA V (O k)) w wr∧∀V∈vs,AB V (gv ((Kq vs nm).take i) d G V) wr f)
  (by rw[v];exact P) (by rw[v];exact Q) ⟨O,fun _ _=>rfl,Ab.refl _ _,fun V hv=>by rw[xH,nW];exact S V hv⟩
  (fun i T wr x r=>by obtain⟨f,_,n,_⟩:=x;obtain⟨g,o,e1,e2,e3,e4⟩:=R i T r;exact⟨g,o,e1,(n.cell e2 (fun ⟨V,hv,l⟩=>e3 V hv l)).trans e4⟩)
  (fun i T wr r x=>by
    obtain⟨f,hO,n,H⟩:=x;rw[tX] at r;obtain⟨p,hp,rfl⟩:=uK.1 r;obtain⟨V,j⟩:=p;have I:=Pg.1 (tV hp);have hv:V∈vs:=I.1;have U:j<(Ac V.q).length:=(tR.1 I.2).1;have y:(Kq vs nm).take (i+1)=(Kq vs nm).take i++[(V,j)]:=(by rw[uI,hp];rfl);have W:(V.blk,j)∉((Kq vs nm).take i).map I8:=(by have X:=CI (nm:=nm) D;have:((Kq vs nm).take (i+1)).map I8=((Kq vs nm).take i).map I8++[(V.blk,j)]:=(by rw[y,uF];rfl);have J:(((Kq vs nm).take (i+1)).map I8).Nodup:=(by rw[List.map_take];exact X.sublist (List.take_sublist _ _));rw[this,vP] at J;intro Y;exact J.2.2 _ Y _ (by simp) rfl);have K:=jP (d:=d) (G:=G) W;have Z:¬VA V (f c):=(by rw[hO c u.lt];exact F V hv);have aa:Ak wr c (Ad d):=u.A6 (n.block c u.lt fun ⟨V,hv,l⟩=>F V hv l);refine (EW hf (L V hv) U (d:=d) (c:=c) (H V hv) (E i V hv) (by rw[K,←y];exact E (i+1) V hv) aa Z).mono fun e w' ab=>?_;obtain⟨z,ac,s,q,A⟩:=ab;refine⟨z,ac,fun k m=>(s k (tU m n.size)).trans (hO k m),n.trans q (fun _ e=>e) (fun k m e=>⟨V,hv,by rw[hO k m] at e;exact e⟩),fun h B=>?_⟩;rw[y];by_cases C:h.blk=V.blk
    ·have:h=V:=Hf D B hv C;subst this;rw[←K];exact A
    rw[cY C];refine (H h B).stab q.size fun k m e=>⟨q.block k m fun l=>?_,s k m⟩;rcases e with e|e
    ·exact M V hv h B C _ l e
    rw[e] at l;exact N V hv l)
 refine this.mono fun e w' ⟨z,f,s,q,A⟩=>⟨z,f,s,q,fun V hv=>?_⟩;have:=A V hv;rw[v,vH] at this;exact this
theorem Ba.eqv {f g:Nat→Bag}{w:World}{O:Ow}:∀(q:Q) (t:Nd) (T:Tk) (i:Nat),(∀j,i≤j→j<i+(Ac q).length→A9 (f j) (g j))→Ba q t T i f w O→Ba q t T i g w O
 | .tab _,.leaf,_,_,_,_=>trivial
 | .sel _ _ _ q,.one b t,T,i,h,c=>⟨c.1,Ba.eqv q t _ i h c.2⟩
 | .pick _ q,.one b t,T,i,h,c=>⟨c.1,Ba.eqv q t _ i h c.2⟩
 | .dist q,.one b t,T,i,h,c=>⟨c.1.eqv (A8 q i h),Ba.eqv q t _ i h c.2⟩
 | .grp _ _ q,.one b t,T,i,h,c=>⟨c.1.eqv (A8 q i h),Ba.eqv q t _ i h c.2⟩
 | .join _ _ q r,.two b t k,T,i,h,c=>by have d:∀j,i≤j→j<i+(Ac q).length→A9 (f j) (g j):=fun j a b=>h j a (by simp only[Ac,tS];omega);have e:∀j,i+(Ac q).length≤j→j<i+(Ac q).length+(Ac r).length→A9 (f j) (g j):=fun j a b=>h j (by omega) (by simp only[Ac,tS];omega);exact⟨((c.1.eqv (A8 q i d)).swap.eqv (A8 r _ e)).swap,Ba.eqv q t _ i d c.2.1,Ba.eqv r k _ _ e c.2.2⟩
 | .uni q r,.two b t k,T,i,h,c=>by have d:∀j,i≤j→j<i+(Ac q).length→A9 (f j) (g j):=fun j a b=>h j a (by simp only[Ac,tS];omega);have e:∀j,i+(Ac q).length≤j→j<i+(Ac q).length+(Ac r).length→A9 (f j) (g j):=fun j a b=>h j (by omega) (by simp only[Ac,tS];omega);exact⟨c.1,Ba.eqv q t _ i d c.2.1,Ba.eqv r k _ _ e c.2.2⟩
theorem AB.eqv {V:VS}{G a:Nat→Bag}{w:World}{O:Ow}(h:AB V G w O)(e:∀j,j<(Ac V.q).length→A9 (G j) (a j)):AB V a w O :=
 have b:∀j,0≤j→j<0+(Ac V.q).length→A9 (G j) (a j):=fun j _ c=>e j (by omega)
 ⟨h.1.eqv (A8 V.q 0 b),h.2.eqv V.q V.nd _ 0 b⟩
def JX (xs:List TabS)(nm:List UInt8)(d:Bag):List TabS:=xs.map fun X=>if X.name=nm then { X with bag:=X.bag++d } else X
def rS (nm:List UInt8)(d:Bag)(G:VS→Nat→Bag)(V:VS):Nat→Bag:=fun j=>if (Ac V.q)[j]? =some nm then G V j++d else G V j
theorem nX {vs:List VS}{nm:List UInt8}{d:Bag}{G:VS→Nat→Bag}{V:VS}(a:V∈vs)(b:(vs.map VS.blk).Nodup):gv (Kq vs nm) d G V=rS nm d G V:=by
 funext j;show (if (V.blk,j)∈(Kq vs nm).map I8 then _ else _)=if (Ac V.q)[j]? =some nm then _ else _
 have:((V.blk,j)∈(Kq vs nm).map I8)↔(Ac V.q)[j]? =some nm:=by
  constructor
  ·intro h;obtain⟨p,hp,e⟩:=uA.1 h;obtain⟨c,f⟩:=Pg.1 hp;obtain⟨e1,e2⟩:=Prod.mk.inj e;have:p.1=V:=Hf b c a e1;rw[←this,←e2];exact f
  intro h;exact uA.2 ⟨(V,j),Pg.2 ⟨a,h⟩,rfl⟩
 simp only[this]
structure Fx (ft:List UInt8→Option (List Bool)) (id0:Nat) (xs:List TabS) (vs:List VS):Prop where
 nm:(xs.map (·.name)).Nodup
 bl:(xs.map (·.blk)).Nodup
 vb:(vs.map VS.blk).Nodup
 dis:∀V∈vs,∀V'∈vs,V'.blk≠V.blk→∀a,VA V a→¬VA V' a
 va:∀V∈vs,∀a,VA V a→2≤a∧a≠id0∧∀X∈xs,a≠X.blk+2
 id:2≤id0∧∀X∈xs,X.blk+2≠id0
 fix:∀V∈vs,cX ft V
 tks:∀X∈xs,X.tks=(Kq vs X.name).map qL
 few:∀X∈xs,X.tks.length≤1000000
theorem AU {ft:List UInt8→Option (List Bool)}(hf:∀nm us,ft nm=some us→1≤us.length∧us.length≤6){id0:Nat}{xs:List TabS}{vs:List VS}(l:Fx ft id0 xs vs){X:TabS}(q:X∈xs){ts:List Bool}{d:Bag}(ok1:B2 ts X.bag)(ok2:B2 ts (X.bag++d)){G:VS→Nat→Bag}(am:∀i,∀V∈vs,mA ft V (gv ((Kq vs X.name).take i) d G V))
 {w:World} {O:Ow} {tv:Value} {c:Nat} (L:Cs w O tv id0 xs) (ab:∀V∈vs,AB V (G V) w O) (H:Ak w c (Ad d)) (hO:O c=0) :
 Calls prog 47 #[.map (some c),.iface 101 (C1 X.blk)] w fun e w'=>e=.returned (.tuple #[])∧∃s:Ow,(∀k,k<w.heap.size→s k=O k)∧Ab (fun k=>O k=X.blk+2∨∃V∈vs,VA V (O k)) w w'∧Cs w' s tv id0 (JX xs X.name d)∧∀V∈vs,AB V (rS X.name d G V) w' s:=by
 have ac:=ok1.chg ok2;obtain⟨M,N,hv,I,P,Q,C⟩:=L.tab X q;have an:=Aa I;have Np:∀(w':World) (s:Ow),w.heap.size≤w'.heap.size→(∀k,k<w.heap.size→s k=O k)→(∀k,k<w.heap.size→O k≠X.blk+2→O k=id0∨(∃Y∈xs,O k=Y.blk+2)→w'.heap[k]? =w.heap[k]?)→Wd w' s { X with bag:=X.bag++d }→Cs w' s tv id0 (JX xs X.name d):=fun w' s ao ad ae ap=>by
  obtain⟨a,cap,aq,ar,au,av⟩:=L.slc;refine⟨⟨a,cap,by unfold JX;rw[tZ];exact aq,by unfold JX;rw[tZ];exact ar,au,fun j Z D=>?_⟩,fun Z D=>?_⟩
  ·unfold JX at D;rw[tX] at D;obtain⟨t,E,rfl⟩:=uK.1 D;obtain⟨b,o,e1,e2,e3,e4⟩:=av j t E;have aw:=ae b e2 (by rw[e3];exact fun e=>l.id.2 X q e.symm) (.inl e3);refine⟨b,o,e1,tU e2 ao,by rw[ad b e2];exact e3,?_⟩;rw[World.cell?_of_block aw,e4];split <;> rfl
  unfold JX at D;obtain⟨t,E,rfl⟩:=uA.1 D;by_cases u:t.name=X.name
  ·have:t=X:=Hf l.nm E q u;subst this;rw[if_pos u];exact ap
  rw[if_neg u];refine (L.tab t E).stab fun k F e=>⟨ae k F (fun v=>u ?_) (.inr ⟨t,E,e⟩),ad k F⟩;have:t=X:=Hf l.bl E q (by show t.blk=X.blk;omega);rw[this]
 refine V5 cP ⟨X.blk,0,none⟩ c ts d w _ H ac (fun ax=>?_) (fun bd=>?_)
 ·have af:∀B:Bag,A9 B (B++d):=fun B=>Ls ax;refine⟨rfl,O,fun _ _=>rfl,Ab.refl _ _,Np w O (tY _) (fun _ _=>rfl) (fun _ _ _ _=>rfl) ⟨M,N,hv,I,P,Q,C.eqv (af _)⟩,fun V f=>(ab V f).eqv fun j _=>?_⟩;unfold rS;split
  ·exact af _
  exact A9.refl _
 refine OK X.blk c w _ ?_;have ag:hv≠.map (some c):=fun e=>by have:=C.2 c e;omega
 refine (Hc X.blk 1 _ 125 hv (.map (some c)) (Ad X.bag) (Ad d) w I rfl C.1 (.inr ⟨c,rfl,H⟩) (fun k e v=>ag (e.trans v.symm)) (by have e1:=(B2.chg (b:=[]) (d:=X.bag) ⟨fun r=>by simp[Mo.cnt],by show (0:Int)≤_;decide,by show (0:Int)≤_;decide,(fun e m=>by cases m),(fun e m=>by cases m),ok1.six⟩ (by simpa using ok1)).len;have e2:=ac.len;rw[Bp (Ap _),Bp (Ap _)];unfold maxLen;omega)).mono fun e w1 ay=>?_;have az:∀x∈Ad (X.bag++d),Ge x.1:=(B2.chg (b:=[]) (d:=X.bag++d) ⟨fun r=>by simp[Mo.cnt],by show (0:Int)≤_;decide,by show (0:Int)≤_;decide,(fun e m=>by cases m),(fun e m=>by cases m),ok1.six⟩ (by simpa using ok2)).gR;obtain⟨m,a0,ah,a1,_,y⟩:=ay.mem C az;refine⟨m,?_⟩;have n:∀k,k<w.heap.size→oB w O (X.blk+2) k=O k:=fun k h=>Fu h;have R:Ab (fun k=>O k=X.blk+2) w w1:=y.mono fun i hi e=>by
  rcases e with rfl|e
  ·exact M
  exact C.2 i e
 have S:∀V∈vs,¬VA V (X.blk+2):=fun V f e=>(l.va V f _ e).2.2 X q rfl;have a2:∀V∈vs,AB V (G V) w1 (oB w O (X.blk+2)):=fun V f=>(ab V f).stab y.size fun k F e=>⟨R.block k F (fun v=>by
  rw[v] at e;rcases e with e|e
  ·exact S V f e
  omega),n k F⟩
 have U:∀k,N.ownBlock=some k→k<w.heap.size∧w1.heap[k]? =w.heap[k]? :=fun k e=>by
  obtain⟨_,_,p⟩:=Bh P e;refine⟨Aa p,y.block k (Aa p) ?_⟩;rintro (rfl|v)
  ·rw[I] at p;injection p with p;injection p with _ p;exact absurd p (by decide)
  exact C.F4 v p rfl
 have a3:Ak w1 c (Ad d):=H.kept y (fun e=>by
  rcases e with e|e
  ·rw[e] at hO;omega
  exact ag e)
 have ai:(Kq vs X.name).length=X.tks.length:=by rw[l.tks X q,tZ]
 have a4:oB w O (X.blk+2) c=0:=by rw[n c H.lt];exact hO
 have aj:=X0 P fun k e=>(U k e).2;obtain⟨J,cap,rfl,a5⟩:∃J cap,N=.slice J X.tks.length cap∧∀i T,(X.tks.map Tk.val)[i]? =some T→∃g o,J=some ⟨g,o,none⟩∧g<w1.heap.size∧(∀V∈vs,¬VA V (oB w O (X.blk+2) g))∧w1.cell? ⟨g,o+i,none⟩=some T:=by
  rcases aj.2 with ⟨e,u⟩|⟨g,cap,cur,e,_,hg,hc1,hc2,hc3,hc4⟩
  ·refine⟨none,0,by rw[e,u],fun i T z=>?_⟩;have:=(tR.1 z).1;rw[tZ] at this;omega
  refine⟨some ⟨g,0,none⟩,cap,e,fun i T z=>⟨g,0,rfl,Aa hg,fun V f A=>?_,?_⟩⟩
  ·have a6:=Q g (by rw[e];rfl);rw[n g (U g (by rw[e];rfl)).1,a6] at A;exact S V f A
  rw[Nat.mul_one] at hc4;rw[←hc4,uQ] at z;rw[Af hg,uL];split at z
  ·simpa using z
  cases z
 have a7:w1.cell? ⟨X.blk,0,none⟩=some (.slice J (Kq vs X.name).length cap):=by rw[ai];exact (Af ah 0).trans rfl
 refine (cZ hf l.fix l.vb l.dis (fun V f e=>by have:=(l.va V f 1 e).1;omega) am (by rw[ai];exact l.few X q) a7 (fun i T z=>a5 i T (by rw[l.tks X q,vS];exact z)) a2 a3 (fun V f e=>by rw[a4] at e;have:=(l.va V f 0 e).1;omega)).mono fun e a8 a9=>?_;obtain⟨W,ak,aa,K,ba⟩:=a9;refine⟨W,W,W,ak,fun k h=>(aa k (tU h y.size)).trans (n k h),?_,?_,fun V f=>by rw[←nX f l.vb];exact ba V f⟩
 ·refine (R.mono (fun k _ e=>.inl e)).trans K (fun _ e=>e) fun k h e=>.inr ?_;rw[n k h] at e;exact e
 refine Np a8 ak (uJ y.size K.size) (fun k h=>(aa k (tU h y.size)).trans (n k h)) (fun k h u ho=>?_) ?_
 ·rw[K.block k (tU h y.size) (fun ⟨V,f,A⟩=>?_),R.block k h u];rw[n k h] at A;have al:=l.va V f _ A;rcases ho with ho|⟨Y,bb,ho⟩
  ·exact al.2.1 ho
  exact al.2.2 Y bb ho
 have bc:Wd w1 (oB w O (X.blk+2)) { X with bag:=X.bag++d }:=by refine⟨by show oB w O (X.blk+2) X.blk=_;rw[n _ an];exact M,_,a0,ah,aj,fun k e=>?_,a1⟩;rw[n k (U k e).1];exact Q k e
 refine bc.stab fun k h e=>⟨K.block k h (fun ⟨V,f,A⟩=>?_),aa k h⟩;have v:oB w O (X.blk+2) k=X.blk+2:=e;rw[v] at A;exact S V f A
end Go.Proofs.YtdinjjmcmfjbfaaGreatDoor
