import Derived.Test.YtdinjjmcmfjbfaaGreatDoorRc2J
import Derived.Test.YtdinjjmcmfjbfaaGreatDoorOcJ
set_option maxRecDepth 100000
set_option maxHeartbeats 4000000
namespace Go.Proofs.YtdinjjmcmfjbfaaGreatDoor
open Go.RowKit
open Mo (V Row Cy)
structure Hd where
 k:Nat
 nm:List UInt8
 cmp:Nat
 l:Cy
 r:Cy
 w:Cy
def A0 (h:Hd)(cols Co:Value):Array Value :=
 #[.int .i64 (h.k:Int),.string ⟨h.nm.toArray⟩,.int .i64 (h.cmp:Int),
   .bool (Xr h.l),.int .i64 (G0 h.l:Int),.int .i32 (kI (vO h.l)),.int .u8 (tB (vO h.l) 0),.int .u8 (tB (vO h.l) 1),.int .u8 (tB (vO h.l) 2),.int .u8 (tB (vO h.l) 3),.int .i64 (nI (vO h.l)),
   .bool (Xr h.r),.int .i64 (G0 h.r:Int),.int .i32 (kI (vO h.r)),.int .u8 (tB (vO h.r) 0),.int .u8 (tB (vO h.r) 1),.int .u8 (tB (vO h.r) 2),.int .u8 (tB (vO h.r) 3),.int .i64 (nI (vO h.r)),
   cols,
   .bool (Xr h.w),.int .i64 (G0 h.w:Int),.int .i32 (kI (vO h.w)),.int .u8 (tB (vO h.w) 0),.int .u8 (tB (vO h.w) 1),.int .u8 (tB (vO h.w) 2),.int .u8 (tB (vO h.w) 3),.int .i64 (nI (vO h.w)),
   Co]
theorem Ec (h:Hd)(c i:Value):(A0 h c i).size=29:=rfl
abbrev sN:Value:=.slice none 0 0
def El (s:ByteArray)(a:Nat):Cy :=
 if Pl.bt s a=35 then .val (.num (Gb (G3 s (a+1) (Pl.Cl s (a+1)).2)))
 else if Pl.bt s a=36 then .val (.txt (G3 s (a+1) (Pl.A5 s (a+1)).2)) else .col (Kw s a)
def GI (s:ByteArray)(a:Nat):Cy:=if Pl.bt s a=115 then .col (Kw s (a+1)) else .val (.num 1)
def Ir (s:ByteArray)(a:Nat):Nat:=(Pl.Qs (Pl.tk s 93) (Pl.C9 s 5) (a+2)).2
def Hg (s:ByteArray)(k a:Nat):List Nat :=
 if k=3 then Ct s 5 (a+2) else if k=7 then (if Pl.bt s (a+2)=93 then [] else Ct s 5 (a+2)) else []
def Qv (s:ByteArray)(k a:Nat):Hd :=
 if k=1 then ⟨1,G3 s a (Pl.A5 s a).2,0,zO,zO,zO⟩
 else if k=2 then ⟨2,[],BP s (a+3),.col (Kw s (a+2)),El s (a+4),zO⟩
 else if k=4 then ⟨4,[],0,.col (Kw s (a+2)),.col (Kw s (a+4)),zO⟩
 else if k=7 then ⟨7,[],0,zO,zO,GI s (Ir s a+1)⟩
 else ⟨k,[],0,zO,zO,zO⟩
theorem SV (s:ByteArray)(k b:Nat)(l:Cy)(cols Co:Value)(a:Nat):ZA s (A0 ⟨k,[],b,l,zO,zO⟩ cols Co) 11 a=A0 ⟨k,[],b,l,El s a,zO⟩ cols Co:=by
 unfold ZA El
 split
 ·rfl
 ·split <;> rfl
theorem CS (s:ByteArray)(k:Nat)(cols Co:Value)(a:Nat):dG s (A0 ⟨k,[],0,zO,zO,zO⟩ cols Co) 20 a=A0 ⟨k,[],0,zO,zO,GI s a⟩ cols Co:=by
 unfold dG GI
 split <;> rfl
theorem Z4 (s:ByteArray)(a b:Nat):(⟨(G3 s a b).toArray⟩:ByteArray)=s.extract a b:=by
 show (⟨(s.extract a b).data.toList.toArray⟩:ByteArray)=_
 rw[oA]
theorem CT {s:ByteArray}{a a':Nat}(h:Pl.Hu s a=(true,a')):a+1=a':=by
 unfold Pl.Hu at h
 split at h
 ·injection h
 ·injection h with h;cases h
theorem Z5 {s:ByteArray}{a a':Nat}(h:Pl.Hr s a=(true,a')):a+1=a':=(Zy h).symm
theorem Kb {s:ByteArray}{c a a':Nat}(h:Pl.tk s c a=(true,a')):a+1=a':=by
 rcases Rv h with ⟨_,_,e⟩|⟨e,_⟩
 ·exact e
 ·cases e
def Ji (B P:Nat)(s:ByteArray)(w:World)(k a:Nat)(e:Ending)(w':World):Prop :=
 ∃ok a' d,Pl.Ba s k a=(ok,a')∧e=.returned (.bool ok)∧RP B s a' w'∧Ab (fun k=>k=B∨k=P) w w'∧w'.heap[P]? =some (.cells d 139 (0,0))∧d.size=29 ∧
  (ok=true→∃lv,d=A0 (Qv s k a) lv sN∧w'.ownsRow w.heap.size 3 1 lv (Hg s k a).length (Fj (Hg s k a)))
theorem gM (B P:Nat)(s:ByteArray)(a:Nat)(w:World)(b:s.size≤1000)(c:P≠B)(h:RP B s a w)(i:w.heap[P]? =some (.cells (A0 ⟨2,[],0,zO,zO,zO⟩ sN sN) 139 (0,0))) :
 Calls Tryz.prog 102 #[.pointer (some ⟨B,0,none⟩),.pointer (some ⟨P,0,none⟩)] w (Ji B P s w 2 a):=by
 have ae:=Ad h;have af:=Ad i;have ag:=Aa i
 have ah:w.cell? ⟨P,0,none⟩=some (.int .i64 2):=by rw[Ae i];rfl
 have ai:oH (Ab (fun k=>k=B∨k=P) w w):=Ab.refl _ _
 clear h i
 go_enter Tryz.func102,Tryz.ntmps102
 go_wp2_with fail
 refine (A4 B s (a) 83 83 _ b (by omega) rfl ae.o).mono ?_
 rintro e aj ⟨ok1,a1,j,rfl,p1,l⟩;have z:=Ad ((l.block P ag c).trans af.o)
 have R:oH (Ab (fun k=>k=B∨k=P) w aj):=ai.o.seq (l.mono (fun _ _ e=>.inl e))
 have S:=Ad p1;have ak:=Aa z.o;have d:=Ad j
 cases ok1
 ·clear j p1 l
  go_wp2_with fail;go_ret
  exact⟨false,a1,_,by show Pl.C7 s a=_;unfold Pl.C7;rw[Pl.A6 d.o],rfl,S.o,R.o,z.o,rfl,by simp⟩
 obtain rfl:=Kb j;clear j p1 l;clear ah;go_wp2_with fail
 refine (A4 B s (a+1) 91 91 _ b (by omega) rfl S.o).mono ?_
 rintro e al ⟨ok2,am,m,rfl,p2,n⟩;have A:=Ad ((n.block P ak c).trans z.o)
 have T:oH (Ab (fun k=>k=B∨k=P) w al):=R.o.seq (n.mono (fun _ _ e=>.inl e))
 have U:=Ad p2;have a9:=Aa A.o;have f:=Ad m
 cases ok2
 ·clear m p2 n
  go_wp2_with fail;go_ret
  exact⟨false,am,_,by show Pl.C7 s a=_;unfold Pl.C7;rw[Pl.Ai d.o,Pl.A6 f.o],rfl,U.o,T.o,A.o,rfl,by simp⟩
 obtain rfl:=Kb m;clear m p2 n;go_wp2_with fail
 refine (D6 B P 3 s (a+1+1) (A0 ⟨2,[],0,zO,zO,zO⟩ sN sN) 139 _ b c U.o A.o (by rw[Ec];omega)).mono ?_
 rintro e w3 ⟨an,ao,ap,o,rfl,C,D,p,E,F⟩
 have V:oH (Ab (fun k=>k=B∨k=P) w w3):=T.o.seq D
 have W:=Ad C;have q:=Ad o
 cases an
 ·have r:=Ad p
  have aq:=Ad E;clear o C D p E F;go_wp2_with fail;go_ret
  exact⟨false,ao,ap,by show Pl.C7 s a=_;unfold Pl.C7;rw[Pl.Ai d.o,Pl.Ai f.o,Pl.A6 q.o],rfl,W.o,V.o,r.o,aq.o,by simp⟩
 have r:oH (w3.heap[P]? =some (.cells (A0 ⟨2,[],0,.col (Kw s (a+1+1)),zO,zO⟩ sN sN) 139 (0,0))):=by
  show _=_
  rw[p,F rfl]
  exact congrArg (fun g=>some (Obj.cells g 139 (0,0))) (rfl)
 have ba:=Aa r.o;obtain rfl:=Z5 o;clear o C D p E F;go_wp2_with fail
 refine (Vk B P 2 s (a+1+1+1) (A0 ⟨2,[],0,.col (Kw s (a+1+1)),zO,zO⟩ sN sN) 139 _ b c W.o r.o (by rw[Ec];omega)).mono ?_
 rintro e w4 ⟨ar,au,av,t,rfl,G,H,u,I,J⟩
 have X:oH (Ab (fun k=>k=B∨k=P) w w4):=V.o.seq H
 have Y:=Ad G;have K:=Ad t
 cases ar
 ·have v:=Ad u
  have aw:=Ad I;clear t G H u I J;go_wp2_with fail;go_ret
  exact⟨false,au,av,by show Pl.C7 s a=_;unfold Pl.C7;rw[Pl.Ai d.o,Pl.Ai f.o,Pl.Ai q.o,Pl.A6 K.o],rfl,Y.o,X.o,v.o,aw.o,by simp⟩
 have v:oH (w4.heap[P]? =some (.cells (A0 ⟨2,[],BP s (a+1+1+1),.col (Kw s (a+1+1)),zO,zO⟩ sN sN) 139 (0,0))):=by
  show _=_
  rw[u,J rfl]
  exact congrArg (fun g=>some (Obj.cells g 139 (0,0))) (rfl)
 have bb:=Aa v.o;obtain rfl:=CT t;clear t G H u I J;go_wp2_with fail
 refine (CG B P 11 s (a+1+1+1+1) (A0 ⟨2,[],BP s (a+1+1+1),.col (Kw s (a+1+1)),zO,zO⟩ sN sN) 139 _ b c Y.o v.o (by rw[Ec];omega)).mono ?_
 rintro e w5 ⟨ax,a5,ay,L,rfl,M,N,x,O,Q⟩
 have Z:oH (Ab (fun k=>k=B∨k=P) w w5):=X.o.seq N
 have aa:=Ad M;have ab:=Ad L
 cases ax
 ·have y:=Ad x
  have az:=Ad O;clear L M N x O Q;go_wp2_with fail;go_ret
  exact⟨false,a5,ay,by show Pl.C7 s a=_;unfold Pl.C7;rw[Pl.Ai d.o,Pl.Ai f.o,Pl.Ai q.o,Pl.Ai K.o,Pl.A6 ab.o],rfl,aa.o,Z.o,y.o,az.o,by simp⟩
 have y:oH (w5.heap[P]? =some (.cells (A0 ⟨2,[],BP s (a+1+1+1),.col (Kw s (a+1+1)),El s (a+1+1+1+1),zO⟩ sN sN) 139 (0,0))):=by
  show _=_
  rw[x,Q rfl]
  exact congrArg (fun g=>some (Obj.cells g 139 (0,0))) (SV _ _ _ _ _ _ _)
 have a0:=Aa y.o;clear L M N x O Q;go_wp2_with fail
 refine (A4 B s (a5) 93 93 _ b (by omega) rfl aa.o).mono ?_
 rintro e w6 ⟨a2,a3,x6,rfl,a4,ac⟩;have ad:=Ad ((ac.block P a0 c).trans y.o)
 have a6:oH (Ab (fun k=>k=B∨k=P) w w6):=Z.o.seq (ac.mono (fun _ _ e=>.inl e))
 have a7:=Ad a4;have bc:=Aa ad.o;have a8:=Ad x6;go_wp2_with fail;go_ret
 refine⟨a2,a3,_,by show Pl.C7 s a=_;unfold Pl.C7;rw[Pl.Ai d.o,Pl.Ai f.o,Pl.Ai q.o,Pl.Ai K.o,Pl.Ai ab.o];exact a8.o,rfl,a7.o,a6.o,ad.o,rfl,fun _=>⟨sN,rfl,World.ownsRow_nil _ _ _ _⟩⟩
theorem gN (B P:Nat)(s:ByteArray)(a:Nat)(w:World)(b:s.size≤1000)(c:P≠B)(h:RP B s a w)(g:w.heap[P]? =some (.cells (A0 ⟨4,[],0,zO,zO,zO⟩ sN sN) 139 (0,0))) :
 Calls Tryz.prog 102 #[.pointer (some ⟨B,0,none⟩),.pointer (some ⟨P,0,none⟩)] w (Ji B P s w 4 a):=by
 have ab:=Ad h;have ac:=Ad g;have ad:=Aa g
 have ae:w.cell? ⟨P,0,none⟩=some (.int .i64 4):=by rw[Ae g];rfl
 have af:oH (Ab (fun k=>k=B∨k=P) w w):=Ab.refl _ _
 clear h g
 go_enter Tryz.func102,Tryz.ntmps102
 go_wp2_with fail
 refine (A4 B s (a) 74 74 _ b (by omega) rfl ab.o).mono ?_
 rintro e ag ⟨ok1,a1,i,rfl,p1,j⟩;have y:=Ad ((j.block P ad c).trans ac.o)
 have N:oH (Ab (fun k=>k=B∨k=P) w ag):=af.o.seq (j.mono (fun _ _ e=>.inl e))
 have O:=Ad p1;have ah:=Aa y.o;have d:=Ad i
 cases ok1
 ·clear i p1 j
  go_wp2_with fail;go_ret
  exact⟨false,a1,_,by show Pl.Iq s a=_;unfold Pl.Iq;rw[Pl.A6 d.o],rfl,O.o,N.o,y.o,rfl,by simp⟩
 obtain rfl:=Kb i;clear i p1 j;clear ae;go_wp2_with fail
 refine (A4 B s (a+1) 91 91 _ b (by omega) rfl O.o).mono ?_
 rintro e ai ⟨ok2,aj,l,rfl,p2,m⟩;have z:=Ad ((m.block P ah c).trans y.o)
 have Q:oH (Ab (fun k=>k=B∨k=P) w ai):=N.o.seq (m.mono (fun _ _ e=>.inl e))
 have R:=Ad p2;have a4:=Aa z.o;have f:=Ad l
 cases ok2
 ·clear l p2 m
  go_wp2_with fail;go_ret
  exact⟨false,aj,_,by show Pl.Iq s a=_;unfold Pl.Iq;rw[Pl.Ai d.o,Pl.A6 f.o],rfl,R.o,Q.o,z.o,rfl,by simp⟩
 obtain rfl:=Kb l;clear l p2 m;go_wp2_with fail
 refine (D6 B P 3 s (a+1+1) (A0 ⟨4,[],0,zO,zO,zO⟩ sN sN) 139 _ b c R.o z.o (by rw[Ec];omega)).mono ?_
 rintro e w3 ⟨ak,al,am,n,rfl,A,C,o,D,E⟩
 have S:oH (Ab (fun k=>k=B∨k=P) w w3):=Q.o.seq C
 have T:=Ad A;have p:=Ad n
 cases ak
 ·have q:=Ad o
  have an:=Ad D;clear n A C o D E;go_wp2_with fail;go_ret
  exact⟨false,al,am,by show Pl.Iq s a=_;unfold Pl.Iq;rw[Pl.Ai d.o,Pl.Ai f.o,Pl.A6 p.o],rfl,T.o,S.o,q.o,an.o,by simp⟩
 have q:oH (w3.heap[P]? =some (.cells (A0 ⟨4,[],0,.col (Kw s (a+1+1)),zO,zO⟩ sN sN) 139 (0,0))):=by
  show _=_
  rw[o,E rfl]
  exact congrArg (fun F=>some (Obj.cells F 139 (0,0))) (rfl)
 have ao:=Aa q.o;obtain rfl:=Z5 n;clear n A C o D E;go_wp2_with fail
 refine (A4 B s (a+1+1+1) 61 61 _ b (by omega) rfl T.o).mono ?_
 rintro e w4 ⟨ap,aq,r,rfl,G,t⟩;have H:=Ad ((t.block P ao c).trans q.o)
 have U:oH (Ab (fun k=>k=B∨k=P) w w4):=S.o.seq (t.mono (fun _ _ e=>.inl e))
 have V:=Ad G;have a6:=Aa H.o;have I:=Ad r
 cases ap
 ·clear r G t
  go_wp2_with fail;go_ret
  exact⟨false,aq,_,by show Pl.Iq s a=_;unfold Pl.Iq;rw[Pl.Ai d.o,Pl.Ai f.o,Pl.Ai p.o,Pl.A6 I.o],rfl,V.o,U.o,H.o,rfl,by simp⟩
 obtain rfl:=Kb r;clear r G t;go_wp2_with fail
 refine (D6 B P 11 s (a+1+1+1+1) (A0 ⟨4,[],0,.col (Kw s (a+1+1)),zO,zO⟩ sN sN) 139 _ b c V.o H.o (by rw[Ec];omega)).mono ?_
 rintro e w5 ⟨ar,a5,au,u,rfl,J,K,v,L,M⟩
 have W:oH (Ab (fun k=>k=B∨k=P) w w5):=U.o.seq K
 have X:=Ad J;have Y:=Ad u
 cases ar
 ·have x:=Ad v
  have av:=Ad L;clear u J K v L M;go_wp2_with fail;go_ret
  exact⟨false,a5,au,by show Pl.Iq s a=_;unfold Pl.Iq;rw[Pl.Ai d.o,Pl.Ai f.o,Pl.Ai p.o,Pl.Ai I.o,Pl.A6 Y.o],rfl,X.o,W.o,x.o,av.o,by simp⟩
 have x:oH (w5.heap[P]? =some (.cells (A0 ⟨4,[],0,.col (Kw s (a+1+1)),.col (Kw s (a+1+1+1+1)),zO⟩ sN sN) 139 (0,0))):=by
  show _=_
  rw[v,M rfl]
  exact congrArg (fun F=>some (Obj.cells F 139 (0,0))) (rfl)
 have aw:=Aa x.o;obtain rfl:=Z5 u;clear u J K v L M;go_wp2_with fail
 refine (A4 B s (a+1+1+1+1+1) 93 93 _ b (by omega) rfl X.o).mono ?_
 rintro e w6 ⟨ax,ay,x6,rfl,az,Z⟩;have aa:=Ad ((Z.block P aw c).trans x.o)
 have a0:oH (Ab (fun k=>k=B∨k=P) w w6):=W.o.seq (Z.mono (fun _ _ e=>.inl e))
 have a2:=Ad az;have a7:=Aa aa.o;have a3:=Ad x6;go_wp2_with fail;go_ret
 refine⟨ax,ay,_,by show Pl.Iq s a=_;unfold Pl.Iq;rw[Pl.Ai d.o,Pl.Ai f.o,Pl.Ai p.o,Pl.Ai I.o,Pl.Ai Y.o];exact a3.o,rfl,a2.o,a0.o,aa.o,rfl,fun _=>⟨sN,rfl,World.ownsRow_nil _ _ _ _⟩⟩
theorem gO (B P:Nat)(s:ByteArray)(a:Nat)(w:World)(f:s.size≤1000)(g:P≠B)(h:RP B s a w)(b:w.heap[P]? =some (.cells (A0 ⟨5,[],0,zO,zO,zO⟩ sN sN) 139 (0,0))) :
 Calls Tryz.prog 102 #[.pointer (some ⟨B,0,none⟩),.pointer (some ⟨P,0,none⟩)] w (Ji B P s w 5 a):=by
 have i:=Ad h;have j:=Ad b;have l:=Aa b
 have m:w.cell? ⟨P,0,none⟩=some (.int .i64 5):=by rw[Ae b];rfl
 have n:oH (Ab (fun k=>k=B∨k=P) w w):=Ab.refl _ _
 clear h b
 go_enter Tryz.func102,Tryz.ntmps102
 go_wp2_with fail
 refine (A4 B s (a) 85 85 _ f (by omega) rfl i.o).mono ?_
 rintro e o ⟨ok1,a1,p,rfl,p1,c⟩;have d:=Ad ((c.block P l g).trans j.o)
 have q:oH (Ab (fun k=>k=B∨k=P) w o):=n.o.seq (c.mono (fun _ _ e=>.inl e))
 have r:=Ad p1;have u:=Aa d.o;have t:=Ad p;clear m;go_wp2_with fail;go_ret
 exact⟨ok1,a1,_,t.o,rfl,r.o,q.o,d.o,rfl,fun _=>⟨sN,rfl,World.ownsRow_nil _ _ _ _⟩⟩
theorem gP (B P:Nat)(s:ByteArray)(a:Nat)(w:World)(f:s.size≤1000)(g:P≠B)(h:RP B s a w)(b:w.heap[P]? =some (.cells (A0 ⟨6,[],0,zO,zO,zO⟩ sN sN) 139 (0,0))) :
 Calls Tryz.prog 102 #[.pointer (some ⟨B,0,none⟩),.pointer (some ⟨P,0,none⟩)] w (Ji B P s w 6 a):=by
 have i:=Ad h;have j:=Ad b;have l:=Aa b
 have m:w.cell? ⟨P,0,none⟩=some (.int .i64 6):=by rw[Ae b];rfl
 have n:oH (Ab (fun k=>k=B∨k=P) w w):=Ab.refl _ _
 clear h b
 go_enter Tryz.func102,Tryz.ntmps102
 go_wp2_with fail
 refine (A4 B s (a) 68 68 _ f (by omega) rfl i.o).mono ?_
 rintro e o ⟨ok1,a1,p,rfl,p1,c⟩;have d:=Ad ((c.block P l g).trans j.o)
 have q:oH (Ab (fun k=>k=B∨k=P) w o):=n.o.seq (c.mono (fun _ _ e=>.inl e))
 have r:=Ad p1;have u:=Aa d.o;have t:=Ad p;clear m;go_wp2_with fail;go_ret
 exact⟨ok1,a1,_,t.o,rfl,r.o,q.o,d.o,rfl,fun _=>⟨sN,rfl,World.ownsRow_nil _ _ _ _⟩⟩
theorem gQ (B P:Nat)(s:ByteArray)(a:Nat)(w:World)(j:s.size≤1000)(l:P≠B)(h:RP B s a w)(b:w.heap[P]? =some (.cells (A0 ⟨3,[],0,zO,zO,zO⟩ sN sN) 139 (0,0))) :
 Calls Tryz.prog 102 #[.pointer (some ⟨B,0,none⟩),.pointer (some ⟨P,0,none⟩)] w (Ji B P s w 3 a):=by
 have F:=Ad h;have G:=Ad b;have H:=Aa b
 have I:w.cell? ⟨P,0,none⟩=some (.int .i64 3):=by rw[Ae b];rfl
 have J:oH (Ab (fun k=>k=B∨k=P) w w):=Ab.refl _ _
 clear h b
 go_enter Tryz.func102,Tryz.ntmps102
 go_wp2_with fail
 refine (A4 B s (a) 80 80 _ j (by omega) rfl F.o).mono ?_
 rintro e K ⟨ok1,a1,c,rfl,p1,d⟩;have m:=Ad ((d.block P H l).trans G.o)
 have q:oH (Ab (fun k=>k=B∨k=P) w K):=J.o.seq (d.mono (fun _ _ e=>.inl e))
 have r:=Ad p1;have L:=Aa m.o;have n:=Ad c
 cases ok1
 ·clear c p1 d
  go_wp2_with fail;go_ret
  exact⟨false,a1,_,by show Pl.Qe s a=_;unfold Pl.Qe;rw[Pl.A6 n.o],rfl,r.o,q.o,m.o,rfl,by simp⟩
 obtain rfl:=Kb c;clear c p1 d;clear I;go_wp2_with fail
 refine (A4 B s (a+1) 91 91 _ j (by omega) rfl r.o).mono ?_
 rintro e M ⟨ok2,N,f,rfl,p2,i⟩;have o:=Ad ((i.block P L l).trans m.o)
 have p:oH (Ab (fun k=>k=B∨k=P) w M):=q.o.seq (i.mono (fun _ _ e=>.inl e))
 have t:=Ad p2;have ab:=Aa o.o;have u:=Ad f
 cases ok2
 ·clear f p2 i
  go_wp2_with fail;go_ret
  exact⟨false,N,_,by show Pl.Qe s a=_;unfold Pl.Qe;rw[Pl.Ai n.o,Pl.A6 u.o],rfl,t.o,p.o,o.o,rfl,by simp⟩
 obtain rfl:=Kb f;clear f p2 i;go_wp2_with fail
 refine (Uc B P 19 s (a+1+1) (A0 ⟨3,[],0,zO,zO,zO⟩ sN sN) 139 _ j l (by decide) t.o o.o (by rw[Ec];omega) rfl).mono ?_
 rintro e w3 ⟨O,Q,R,v,rfl,x,y,z,A,C⟩
 have S:oH (Ab (fun k=>k=B∨k=P) w w3):=p.o.seq y
 have T:=Ad x;have U:=Ad v;have V:=Ad z;have D:=Ad (And.intro A C);have ac:=p.o.size;clear v x y z A C;go_wp2_with fail;go_ret
 refine⟨O,Q,R,by show Pl.Qe s a=_;unfold Pl.Qe;rw[Pl.Ai n.o,Pl.Ai u.o];exact U.o,rfl,T.o,S.o,V.o,D.o.1,fun W=>?_⟩
 obtain⟨lv,X,E⟩:=D.o.2 W
 exact⟨lv,X,⟨E.1,E.2.imp id (fun ⟨g,Y,Z,e1,_,aa⟩=>⟨g,Y,Z,e1,by omega,aa⟩)⟩⟩
theorem gR (B P:Nat)(s:ByteArray)(a:Nat)(w:World)(g:s.size≤1000)(i:P≠B)(h:RP B s a w)(b:w.heap[P]? =some (.cells (A0 ⟨1,[],0,zO,zO,zO⟩ sN sN) 139 (0,0))) :
 Calls Tryz.prog 102 #[.pointer (some ⟨B,0,none⟩),.pointer (some ⟨P,0,none⟩)] w (Ji B P s w 1 a):=by
 have j:=Ad h;have l:=Ad b;have v:=Aa b
 have m:w.cell? ⟨P,0,none⟩=some (.int .i64 1):=by rw[Ae b];rfl
 have n:oH (Ab (fun k=>k=B∨k=P) w w):=Ab.refl _ _
 clear h b
 go_enter Tryz.func102,Tryz.ntmps102
 go_wp2_with fail
 refine (Rs B P 1 4 4 s (a) (A0 ⟨1,[],0,zO,zO,zO⟩ sN sN) 139 _ g (by omega) rfl i j.o l.o (by rw[Ec];omega)).mono ?_
 rintro e o ⟨ok1,a1,c,rfl,p1,d,c1⟩
 have p:oH (Ab (fun k=>k=B∨k=P) w o):=n.o.seq d
 have q:=Ad p1;have f:=Ad c;have r:=Ad c1;clear c p1 d c1;clear m;go_wp2_with fail;go_ret
 refine⟨ok1,a1,_,f.o,rfl,q.o,p.o,r.o,by split <;> rfl,fun t=>⟨sN,?_,World.ownsRow_nil _ _ _ _⟩⟩
 subst t
 have u:(Pl.A5 s a).2=a1:=by have:=f.o;unfold Pl.A5;rw[this]
 show (if true=true then _ else _)=A0 ⟨1,G3 s a (Pl.A5 s a).2,0,zO,zO,zO⟩ sN sN
 rw[if_pos rfl,u]
 unfold A0
 rw[Z4];rfl
theorem gU (B P:Nat)(s:ByteArray)(a:Nat)(w:World)(_:s.size≤1000)(_:P≠B)(h:RP B s a w)(b:w.heap[P]? =some (.cells (A0 ⟨0,[],0,zO,zO,zO⟩ sN sN) 139 (0,0))) :
 Calls Tryz.prog 102 #[.pointer (some ⟨B,0,none⟩),.pointer (some ⟨P,0,none⟩)] w (Ji B P s w 0 a):=by
 have c:=Ad h;have d:=Ad b
 have e:w.cell? ⟨P,0,none⟩=some (.int .i64 0):=by rw[Ae b];rfl
 clear h b
 go_enter Tryz.func102,Tryz.ntmps102
 go_wp2_with fail;go_ret
 exact⟨false,a,_,rfl,rfl,c.o,Ab.refl _ _,d.o,rfl,by simp⟩
theorem gV (B P:Nat)(s:ByteArray)(a:Nat)(w:World)(j:s.size≤1000)(l:P≠B)(h:RP B s a w)(U:w.heap[P]? =some (.cells (A0 ⟨7,[],0,zO,zO,zO⟩ sN sN) 139 (0,0))) :
 Calls Tryz.prog 102 #[.pointer (some ⟨B,0,none⟩),.pointer (some ⟨P,0,none⟩)] w (Ji B P s w 7 a):=by
 have be:=Ad h;have bf:=Ad U;have bg:=Aa U;have bz:=Aa h.2
 have bh:w.cell? ⟨P,0,none⟩=some (.int .i64 7):=by rw[Ae U];rfl
 have bi:oH (Ab (fun k=>k=B∨k=P) w w):=Ab.refl _ _
 clear h U
 go_enter Tryz.func102,Tryz.ntmps102
 go_wp2_with fail
 refine (A4 B s (a) 71 71 _ j (by omega) rfl be.o).mono ?_
 rintro e bj ⟨ok1,a1,V,rfl,p1,W⟩;have ad:=Ad ((W.block P bg l).trans bf.o)
 have a7:oH (Ab (fun k=>k=B∨k=P) w bj):=bi.o.seq (W.mono (fun _ _ e=>.inl e))
 have a8:=Ad p1;have bk:=Aa ad.o;have m:=Ad V
 cases ok1
 ·clear V p1 W
  go_wp2_with fail;go_ret
  exact⟨false,a1,_,by show Pl.Cp s a=_;unfold Pl.Cp;rw[Pl.A6 m.o],rfl,a8.o,a7.o,ad.o,rfl,by simp⟩
 obtain rfl:=Kb V;clear V p1 W;clear bh;go_wp2_with fail
 refine (A4 B s (a+1) 91 91 _ j (by omega) rfl a8.o).mono ?_
 rintro e bl ⟨ok2,bm,X,rfl,p2,Y⟩;have ae:=Ad ((Y.block P bk l).trans ad.o)
 have a9:oH (Ab (fun k=>k=B∨k=P) w bl):=a7.o.seq (Y.mono (fun _ _ e=>.inl e))
 have ba:=Ad p2;have bn:=Aa ae.o;have r:=Ad X
 cases ok2
 ·clear X p2 Y
  go_wp2_with fail;go_ret
  exact⟨false,bm,_,by show Pl.Cp s a=_;unfold Pl.Cp;rw[Pl.Ai m.o,Pl.A6 r.o],rfl,ba.o,a9.o,ae.o,rfl,by simp⟩
 obtain rfl:=Kb X;clear X p2 Y;go_wp2_with fail
 refine (A4 B s (a+1+1) 93 93 _ j (by omega) rfl ba.o).mono ?_
 rintro e w3 ⟨bo,_,F,rfl,af,Z⟩;have ag:=Ad ((Z.block P bn l).trans ae.o)
 have ah:oH (Ab (fun k=>k=B∨k=P) w w3):=a9.o.seq (Z.mono (fun _ _ e=>.inl e))
 have bb:=Ad af;have bp:=Aa ag.o;have ai:=Ad F
 cases bo
 ·rcases Rv F with ⟨G,_⟩|⟨_,H,rfl⟩
  ·cases G
  have aj:=Ad H;clear F af Z H;go_wp2_with fail
  refine (Uc B P 19 s (a+1+1) (A0 ⟨7,[],0,zO,zO,zO⟩ sN sN) 139 _ j l (by decide) bb.o ag.o (by rw[Ec];omega) rfl).mono ?_
  rintro e w4 ⟨bq,t,br,ak,rfl,al,am,aa,an,ao⟩
  have ab:oH (Ab (fun k=>k=B∨k=P) w w4):=ah.o.seq am
  have ac:=Ad al;have bc:=Ad ak;have b0:=ah.o.size
  cases bq
  ·have E:=Ad aa
   have bs:=Ad an;clear ak al am aa an ao;go_wp2_with fail;go_ret
   have c:oH (Pl.Qs (Pl.tk s 93) (Pl.C9 s 5) (a+1+1)=(false,t)):=by show _=_;rw[Pl.Fb ai.o];exact bc.o
   exact⟨false,t,br,by show Pl.Cp s a=_;unfold Pl.Cp;rw[Pl.Ai m.o,Pl.Ai r.o,Pl.A6 c.o],rfl,ac.o,ab.o,E.o,bs.o,by simp⟩
  have c:oH (Pl.Qs (Pl.tk s 93) (Pl.C9 s 5) (a+1+1)=(true,t)):=by show _=_;rw[Pl.Fb ai.o];exact bc.o
  obtain⟨lv,bd,ap⟩:=ao rfl
  have I:oH (w4.ownsRow w.heap.size 3 1 lv (Ct s 5 (a+1+1)).length (Fj (Ct s 5 (a+1+1)))):=⟨ap.1,ap.2.imp id (fun ⟨g,bt,bu,e1,_,G⟩=>⟨g,bt,bu,e1,by omega,G⟩)⟩
  have E:oH (w4.heap[P]? =some (.cells (A0 ⟨7,[],0,zO,zO,zO⟩ lv sN) 139 (0,0))):=by
   show _=_
   rw[aa,bd];exact congrArg (fun d=>some (Obj.cells d 139 (0,0))) rfl
  have aq:=Aa E.o;clear ak al am aa an ao bd ap;go_wp2_with fail
  refine (A4 B s (t) 91 91 _ j (by omega) rfl ac.o).mono ?_
  rintro e w5 ⟨ar,a5,n,rfl,u,f⟩;have v:=Ad ((f.block P aq l).trans E.o)
  have x:oH (Ab (fun k=>k=B∨k=P) w w5):=ab.o.seq (f.mono (fun _ _ e=>.inl e))
  have J:=Ad u;have bv:=Aa v.o;have y:=Ad n
  have K:=Ad (A1 I.o f (fun b i d=>by have:=Bf I.o b i;omega))
  cases ar
  ·clear n u f
   go_wp2_with fail;go_ret
   exact⟨false,a5,_,by show Pl.Cp s a=_;unfold Pl.Cp;rw[Pl.Ai m.o,Pl.Ai r.o,Pl.Ai c.o,Pl.Ij,Pl.A6 y.o],rfl,J.o,x.o,v.o,rfl,by simp⟩
  obtain rfl:=Kb n;clear n u f;have bw:=x.o.size;go_wp2_with fail
  refine (Vl B P 20 s (t+1) (A0 ⟨7,[],0,zO,zO,zO⟩ lv sN) 139 _ j l J.o v.o (by rw[Ec];omega)).mono ?_
  rintro e w6 ⟨L,z,au,x6,rfl,A,o,c6,C,D⟩
  have M:oH (Ab (fun k=>k=B∨k=P) w w6):=x.o.seq o
  have N:=Ad A;have O:oH (Pl.Je (Pl.tk s 115) (Pl.Hr s) (Pl.tk s 110) (t+1)=(L,z)):=x6
  have Q:=Ad (A1 K.o o (fun b i d=>by have:=Bf K.o b i;omega))
  cases L
  ·have p:=Ad c6
   have av:=Ad C;clear x6 A o c6 C D;go_wp2_with fail;go_ret
   exact⟨false,z,au,by show Pl.Cp s a=_;unfold Pl.Cp;rw[Pl.Ai m.o,Pl.Ai r.o,Pl.Ai c.o,Pl.Ij,Pl.Ai y.o,Pl.A6 O.o],rfl,N.o,M.o,p.o,av.o,by simp⟩
  have p:oH (w6.heap[P]? =some (.cells (A0 ⟨7,[],0,zO,zO,GI s (t+1)⟩ lv sN) 139 (0,0))):=by
   show _=_
   rw[c6,D rfl]
   exact congrArg (fun d=>some (Obj.cells d 139 (0,0))) (CS _ _ _ _ _)
  have aw:=Aa p.o;clear x6 A o c6 C D;go_wp2_with fail
  refine (A4 B s (z) 93 93 _ j (by omega) rfl N.o).mono ?_
  rintro e ax ⟨ay,az,R,rfl,S,q⟩;have T:=Ad ((q.block P aw l).trans p.o)
  have a0:oH (Ab (fun k=>k=B∨k=P) w ax):=M.o.seq (q.mono (fun _ _ e=>.inl e))
  have a2:=Ad S;have bx:=Aa T.o;have a3:=Ad R
  have a4:=Ad (A1 Q.o q (fun b i d=>by have:=Bf Q.o b i;omega))
  clear R S q;go_wp2_with fail;go_ret
  refine⟨ay,az,_,by show Pl.Cp s a=_;unfold Pl.Cp;rw[Pl.Ai m.o,Pl.Ai r.o,Pl.Ai c.o,Pl.Ij,Pl.Ai y.o,Pl.Ai O.o];exact a3.o,rfl,a2.o,a0.o,T.o,rfl,fun _=>⟨lv,?_,?_⟩⟩
  ·have hg:Ir s a=t:=by unfold Ir;rw[show a+2=a+1+1 from rfl,c.o]
   show _=A0 ⟨7,[],0,zO,zO,GI s (Ir s a+1)⟩ _ _
   rw[hg]
  ·have a6:Hg s 7 a=Ct s 5 (a+1+1):=by show (if Pl.bt s (a+1+1)=93 then [] else Ct s 5 (a+1+1))=_;rw[if_neg aj.o]
   rw[a6]
   exact a4.o
 ·rcases Rv F with ⟨_,H,rfl⟩|⟨G,_⟩
  case inr=>cases G
  have aj:=Ad H
  have c:oH (Pl.Qs (Pl.tk s 93) (Pl.C9 s 5) (a+1+1)=(true,a+1+1+1)):=by show _=_;rw[Pl.G9 ai.o]
  have I:oH (w3.ownsRow w.heap.size 3 1 sN ([]:List Nat).length (Fj [])):=World.ownsRow_nil _ _ _ _;have ac:=bb;have E:=ag;have ab:=ah;have aq:=bp;clear F af Z H;go_wp2_with fail
  refine (A4 B s (a+1+1+1) 91 91 _ j (by omega) rfl ac.o).mono ?_
  rintro e w5 ⟨ar,a5,n,rfl,u,f⟩;have v:=Ad ((f.block P aq l).trans E.o)
  have x:oH (Ab (fun k=>k=B∨k=P) w w5):=ab.o.seq (f.mono (fun _ _ e=>.inl e))
  have J:=Ad u;have bv:=Aa v.o;have y:=Ad n
  have K:=Ad (A1 I.o f (fun b i d=>by have:=Bf I.o b i;omega))
  cases ar
  ·clear n u f
   go_wp2_with fail;go_ret
   exact⟨false,a5,_,by show Pl.Cp s a=_;unfold Pl.Cp;rw[Pl.Ai m.o,Pl.Ai r.o,Pl.Ai c.o,Pl.Ij,Pl.A6 y.o],rfl,J.o,x.o,v.o,rfl,by simp⟩
  obtain rfl:=Kb n;clear n u f;have bw:=x.o.size;go_wp2_with fail
  refine (Vl B P 20 s (a+1+1+1+1) (A0 ⟨7,[],0,zO,zO,zO⟩ sN sN) 139 _ j l J.o v.o (by rw[Ec];omega)).mono ?_
  rintro e w6 ⟨L,z,au,x6,rfl,A,o,c6,C,D⟩
  have M:oH (Ab (fun k=>k=B∨k=P) w w6):=x.o.seq o
  have N:=Ad A;have O:oH (Pl.Je (Pl.tk s 115) (Pl.Hr s) (Pl.tk s 110) (a+1+1+1+1)=(L,z)):=x6
  have Q:=Ad (A1 K.o o (fun b i d=>by have:=Bf K.o b i;omega))
  cases L
  ·have p:=Ad c6
   have av:=Ad C;clear x6 A o c6 C D;go_wp2_with fail;go_ret
   exact⟨false,z,au,by show Pl.Cp s a=_;unfold Pl.Cp;rw[Pl.Ai m.o,Pl.Ai r.o,Pl.Ai c.o,Pl.Ij,Pl.Ai y.o,Pl.A6 O.o],rfl,N.o,M.o,p.o,av.o,by simp⟩
  have p:oH (w6.heap[P]? =some (.cells (A0 ⟨7,[],0,zO,zO,GI s (a+1+1+1+1)⟩ sN sN) 139 (0,0))):=by
   show _=_
   rw[c6,D rfl]
   exact congrArg (fun d=>some (Obj.cells d 139 (0,0))) (CS _ _ _ _ _)
  have aw:=Aa p.o;clear x6 A o c6 C D;go_wp2_with fail
  refine (A4 B s (z) 93 93 _ j (by omega) rfl N.o).mono ?_
  rintro e ax ⟨ay,az,R,rfl,S,q⟩;have T:=Ad ((q.block P aw l).trans p.o)
  have a0:oH (Ab (fun k=>k=B∨k=P) w ax):=M.o.seq (q.mono (fun _ _ e=>.inl e))
  have a2:=Ad S;have bx:=Aa T.o;have a3:=Ad R
  have a4:=Ad (A1 Q.o q (fun b i d=>by have:=Bf Q.o b i;omega))
  clear R S q;go_wp2_with fail;go_ret
  refine⟨ay,az,_,by show Pl.Cp s a=_;unfold Pl.Cp;rw[Pl.Ai m.o,Pl.Ai r.o,Pl.Ai c.o,Pl.Ij,Pl.Ai y.o,Pl.Ai O.o];exact a3.o,rfl,a2.o,a0.o,T.o,rfl,fun _=>⟨sN,?_,?_⟩⟩
  ·have hg:Ir s a=a+1+1+1:=by unfold Ir;rw[show a+2=a+1+1 from rfl,c.o]
   show _=A0 ⟨7,[],0,zO,zO,GI s (Ir s a+1)⟩ _ _
   rw[hg]
  ·have a6:Hg s 7 a=[]:=by show (if Pl.bt s (a+1+1)=93 then [] else Ct s 5 (a+1+1))=_;rw[if_pos aj.o]
   rw[a6]
   exact a4.o
theorem SX (B P k:Nat)(e:k≤7)(s:ByteArray)(a:Nat)(w:World)(c:s.size≤1000)(d:P≠B)(h:RP B s a w)(b:w.heap[P]? =some (.cells (A0 ⟨k,[],0,zO,zO,zO⟩ sN sN) 139 (0,0))) :
 Calls Tryz.prog 102 #[.pointer (some ⟨B,0,none⟩),.pointer (some ⟨P,0,none⟩)] w (Ji B P s w k a):=by
 match k,e,b with
 |0,_,b=>exact gU B P s a w c d h b
 |1,_,b=>exact gR B P s a w c d h b
 |2,_,b=>exact gM B P s a w c d h b
 |3,_,b=>exact gQ B P s a w c d h b
 |4,_,b=>exact gN B P s a w c d h b
 |5,_,b=>exact gO B P s a w c d h b
 |6,_,b=>exact gP B P s a w c d h b
 |7,_,b=>exact gV B P s a w c d h b
open Mo (V Row Cy L3 Q)
def wS:Cy→Option Nat
 | .col m=>some m
 | .val _=>none
def G8 (h:Hd)(cs:List Nat):List Q→Q
 | [q]=>if h.k=2 then .sel (G0 h.l) (Jh h.cmp) h.r q else if h.k=3 then .pick cs q else if h.k=6 then .dist q else .grp cs (wS h.w) q
 | [q,r]=>if h.k=4 then .join (G0 h.l) (G0 h.r) q r else .uni q r
 |_=>.tab h.nm
inductive Rq (s:ByteArray):Nat→Nat→Nat→Q→Prop
 |tab {f a b:Nat}:Pl.kd (Pl.bt s a)=1→Pl.Ba s 1 a=(true,b)→Rq s f a b (G8 (Qv s 1 a) (Hg s 1 a) [])
 |one {f a b c:Nat} {q:Q}:Pl.Co (Pl.kd (Pl.bt s a))=1→Pl.Ba s (Pl.kd (Pl.bt s a)) a=(true,b)→Pl.bt s b=40→Rq s f (b+1) c q→Pl.bt s c=41 →
  Rq s (f+1) a (c+1) (G8 (Qv s (Pl.kd (Pl.bt s a)) a) (Hg s (Pl.kd (Pl.bt s a)) a) [q])
 |two {f a b c d:Nat} {q r:Q}:Pl.Co (Pl.kd (Pl.bt s a))=2→Pl.Ba s (Pl.kd (Pl.bt s a)) a=(true,b)→Pl.bt s b=40→Rq s f (b+1) c q→Pl.bt s c=44→Rq s f (c+1) d r→Pl.bt s d=41 →
  Rq s (f+1) a (d+1) (G8 (Qv s (Pl.kd (Pl.bt s a)) a) (Hg s (Pl.kd (Pl.bt s a)) a) [q,r])
def pV (p:Nat):Value:=.pointer (some ⟨p,0,none⟩)
def Uq (h:Hd):Prop:=(h.k=2→∃c,h.l=.col c)∧(h.k=4→(∃c,h.l=.col c)∧∃c,h.r=.col c)∧(h.k=7→h.w=.val (.num 1)∨∃m,h.w=.col m)∧h.k≤7
theorem Uq.tab {h:Hd}(e:h.k=1):Uq h:=⟨fun a=>by omega,fun a=>by omega,fun a=>by omega,by omega⟩
theorem BU (c:Nat):Pl.kd c≤7:=by
 unfold Pl.kd
 by_cases a:c=83
 ·rw[if_pos a];decide
 by_cases b:c=80
 ·rw[if_neg a,if_pos b];decide
 by_cases d:c=74
 ·rw[if_neg a,if_neg b,if_pos d];decide
 by_cases e:c=85
 ·rw[if_neg a,if_neg b,if_neg d,if_pos e];decide
 by_cases f:c=68
 ·rw[if_neg a,if_neg b,if_neg d,if_neg e,if_pos f];decide
 by_cases g:c=71
 ·rw[if_neg a,if_neg b,if_neg d,if_neg e,if_neg f,if_pos g];decide
 rw[if_neg a,if_neg b,if_neg d,if_neg e,if_neg f,if_neg g]
 by_cases h:97≤c∧c≤122
 ·rw[if_pos h];decide
 ·rw[if_neg h];decide
theorem Uq.read (s:ByteArray)(c a:Nat):Uq (Qv s (Pl.kd c) a):=by
 have h:=BU c;generalize Pl.kd c=k at h;unfold Qv
 by_cases b:k=1
 ·rw[if_pos b];exact Uq.tab rfl
 by_cases d:k=2
 ·rw[if_neg b,if_pos d]
  exact⟨fun _=>⟨_,rfl⟩,fun e=>by simp at e,fun e=>by simp at e,by simp⟩
 by_cases f:k=4
 ·rw[if_neg b,if_neg d,if_pos f]
  exact⟨fun e=>by simp at e,fun _=>⟨⟨_,rfl⟩,_,rfl⟩,fun e=>by simp at e,by simp⟩
 by_cases g:k=7
 ·rw[if_neg b,if_neg d,if_neg f,if_pos g]
  refine⟨fun e=>by simp at e,fun e=>by simp at e,fun _=>?_,by simp⟩
  show GI s _=_∨∃m,GI s _=_
  unfold GI
  split
  ·exact .inr ⟨_,rfl⟩
  ·exact .inl rfl
 ·rw[if_neg b,if_neg d,if_neg f,if_neg g]
  exact⟨fun e=>absurd e d,fun e=>absurd e f,fun e=>absurd e g,h⟩
def Ry (w:World)(X:Nat→Prop)(p:Nat)(h:Hd)(cs ps:List Nat):Prop :=
 X p∧∃lv iv,w.heap[p]? =some (.cells (A0 h lv iv) 139 (0,0))∧w.ownsRow 0 3 1 lv cs.length (Fj cs)∧w.ownsRow 0 69 1 iv ps.length (ps.map pV)∧(∀b,lv.ownBlock=some b→X b)∧(∀b,iv.ownBlock=some b→X b)∧Uq h
inductive Tr (w:World) (X:Nat→Prop):Nat→Q→Prop
 |zero {p:Nat} {h:Hd} {cs:List Nat}:h.k=1→Ry w X p h cs []→Tr w X p (G8 h cs [])
 |one {p p1:Nat} {h:Hd} {cs:List Nat} {q:Q}:Pl.Co h.k=1→Ry w X p h cs [p1]→Tr w X p1 q→Tr w X p (G8 h cs [q])
 |two {p p1 p2:Nat} {h:Hd} {cs:List Nat} {q r:Q}:Pl.Co h.k=2→Ry w X p h cs [p1,p2]→Tr w X p1 q→Tr w X p2 r→Tr w X p (G8 h cs [q,r])
theorem Ik {w:World}{base:Nat}{e:TypeId}{size n:Nat}{v:Value}{xs:List Value}(h:w.ownsRow base e size v n xs):∀b,v.ownBlock=some b→b<w.heap.size:=fun b a=>by
 obtain⟨c,_,d⟩:=J9 h b a;exact Aa d
theorem Pk {w:World}{base a:Nat}{e:TypeId}{size n:Nat}{v:Value}{xs:List Value}(h:w.ownsRow base e size v n xs)(_:a≤base):w.ownsRow a e size v n xs :=
 ⟨h.1,h.2.imp id (fun ⟨g,b,c,e1,_,d⟩=>⟨g,b,c,e1,by omega,d⟩)⟩
theorem Vr {w w':World}{base:Nat}{e:TypeId}{size n:Nat}{v:Value}{xs:List Value}(h:w.ownsRow base e size v n xs)(a:∀b,v.ownBlock=some b→w'.heap[b]? =w.heap[b]?):w'.ownsRow base e size v n xs:=by
 refine⟨h.1,?_⟩
 rcases h.2 with hn|⟨g,cap,c,rfl,d,hg,f⟩
 ·exact .inl hn
 ·exact .inr ⟨g,cap,c,rfl,d,(a g rfl).trans hg,f⟩
theorem Ry.mono {w w':World}{X Y:Nat→Prop}{p:Nat}{h:Hd}{cs ps:List Nat}(i:Ry w X p h cs ps)(c:∀k,X k→w'.heap[k]? =w.heap[k]?)(d:∀k,X k→Y k):Ry w' Y p h cs ps:=by
 obtain⟨e,lv,iv,j,l,m,f,g,n⟩:=i
 exact⟨d _ e,lv,iv,(c p e).trans j,Vr l (fun b a=>c b (f b a)),Vr m (fun b a=>c b (g b a)),fun b a=>d _ (f b a),fun b a=>d _ (g b a),n⟩
theorem Tr.mono {w w':World}{X Y:Nat→Prop}{p:Nat}{q:Q}(h:Tr w X p q)(a:∀k,X k→w'.heap[k]? =w.heap[k]?)(b:∀k,X k→Y k):Tr w' Y p q:=by
 induction h with
 |zero e h=>exact .zero e (h.mono a b)
 |one e h _ c=>exact .one e (h.mono a b) c
 |two e h _ _ d f=>exact .two e (h.mono a b) d f
theorem Tr.own {w:World}{X:Nat→Prop}{p:Nat}{q:Q}(h:Tr w X p q):X p:=by
 cases h with
 |zero _ h=>exact h.1
 |one _ h _=>exact h.1
 |two _ h _ _=>exact h.1
structure Fq where
 P:Nat
 h:Hd
 cs:List Nat
 lv:Value
 iv:Value
 ps:List Nat
 qs:List Q
 a:Nat
 b:Nat
def GT (w:World)(N:Nat)(f:Fq):Prop :=
 w.heap[f.P]? =some (.cells (A0 f.h f.lv f.iv) 139 (0,0))∧N≤f.P∧w.ownsRow N 3 1 f.lv f.cs.length (Fj f.cs)∧w.ownsRow N 69 1 f.iv f.ps.length (f.ps.map pV)
inductive RV (w:World) (X:Nat→Prop):List Nat→List Q→Prop
 |nil:RV w X [] []
 |cons {p:Nat} {q:Q} {ps:List Nat} {qs:List Q}:Tr w X p q→RV w X ps qs→RV w X (p::ps) (q::qs)
def FS (s:ByteArray)(fuel:Nat)(f:Fq)(c:Nat):Prop :=
 f.h=Qv s (Pl.kd (Pl.bt s f.a)) f.a∧f.cs=Hg s (Pl.kd (Pl.bt s f.a)) f.a∧f.h.k=Pl.kd (Pl.bt s f.a)∧Pl.Ba s (Pl.kd (Pl.bt s f.a)) f.a=(true,f.b)∧Pl.bt s f.b=40 ∧
  (f.qs=[]∧c=f.b+1∧(Pl.Co f.h.k=1∨Pl.Co f.h.k=2)∨∃q c1,f.qs=[q]∧Rq s fuel (f.b+1) c1 q∧Pl.bt s c1=44∧c=c1+1∧Pl.Co f.h.k=2)
def Tf (s:ByteArray)(w:World)(N:Nat)(X:Nat→Prop):List Fq→Nat→List Nat→Prop
 | [],_,_=>False
 | [f],c,ex=>GT w N f∧f.h=⟨0,[],0,zO,zO,zO⟩∧f.ps=ex∧f.qs=[]∧c=0
 |f::g::r,c,ex=>GT w N f∧FS s (5-r.length) f c∧(∃dp,f.ps=dp++ex∧RV w X dp f.qs)∧Tf s w N X (g::r) f.a [f.P]
structure kH (X:Nat→Prop) (ov:Value) (fs:List Fq):Prop where
 parts:(fs.map (·.P)).Nodup
 arrs:(ov.ownBlock::fs.map (·.iv.ownBlock)).Pairwise (fun u v=>∀b,u=some b→v≠some b)
 lvs:(fs.map (·.lv.ownBlock)).Pairwise (fun u v=>∀b,u=some b→v≠some b)
 o:∀f∈fs,¬X f.P∧(∀b,f.iv.ownBlock=some b→¬X b)∧(∀b,f.lv.ownBlock=some b→¬X b)
 ovout:∀b,ov.ownBlock=some b→¬X b
structure QI (s:ByteArray) (w:World) (N:Nat) (X:Nat→Prop) (ov:Value) (fs:List Fq) (c:Nat) (ex:List Nat):Prop where
 stk:Tf s w N X fs c ex
 sep:kH X ov fs
 list:w.ownsRow N 69 1 ov fs.length ((fs.map (·.P)).reverse.map pV)
 len:fs.length≤7
 own:∀k,X k→N≤k∧k<w.heap.size
theorem GT.Bw {w w':World}{N:Nat}{f:Fq}{S:Nat→Prop}(h:GT w N f)(k:Ab S w w')(a:¬S f.P)(c:∀b,f.lv.ownBlock=some b→¬S b)(d:∀b,f.iv.ownBlock=some b→¬S b):GT w' N f :=
 ⟨(k.block _ (Aa h.1) a).trans h.1,h.2.1,A1 h.2.2.1 k c,A1 h.2.2.2 k d⟩
theorem RV.mono {w w':World}{X Y:Nat→Prop}{ps:List Nat}{qs:List Q}(h:RV w X ps qs)(a:∀k,X k→w'.heap[k]? =w.heap[k]?)(b:∀k,X k→Y k):RV w' Y ps qs:=by
 induction h with
 |nil=>exact .nil
 |cons h _ c=>exact .cons (h.mono a b) c
theorem RV.len {w:World}{X:Nat→Prop}{ps:List Nat}{qs:List Q}(h:RV w X ps qs):ps.length=qs.length:=by
 induction h with
 |nil=>rfl
 |cons _ _ a=>simp[a]
theorem RV.snoc {w:World}{X:Nat→Prop}{ps:List Nat}{qs:List Q}(h:RV w X ps qs){p:Nat}{q:Q}(a:Tr w X p q):RV w X (ps++[p]) (qs++[q]):=by
 induction h with
 |nil=>exact .cons a .nil
 |cons h _ b=>exact .cons h b
theorem Tf.Kc {s:ByteArray}{w:World}{N:Nat}{X:Nat→Prop}:∀{a:List Fq} {c:Nat} {ex:List Nat},Tf s w N X a c ex→∀f∈a,GT w N f
 | [],_,_,h,_,_=>h.elim
 | [f],c,ex,h,g,hg=>by simp at hg;subst hg;exact h.1
 |f::b::r,c,ex,h,g,hg=>by
  rcases lQ.1 hg with rfl|hg
  ·exact h.1
  ·exact Tf.Kc h.2.2.2 g hg
theorem Tf.Bw {s:ByteArray}{w w':World}{N:Nat}{X Y:Nat→Prop}{S:Nat→Prop}(k:Ab S w w')(m:∀j,X j→w'.heap[j]? =w.heap[j]?)(n:∀j,X j→Y j):∀{a:List Fq} {c:Nat} {ex:List Nat},Tf s w N X a c ex→(∀f∈a,¬S f.P∧(∀b,f.lv.ownBlock=some b→¬S b)∧(∀b,f.iv.ownBlock=some b→¬S b))→Tf s w' N Y a c ex
 | [],_,_,h,_=>h.elim
 | [f],c,ex,h,hf=>by obtain⟨d,i,l⟩:=hf f (by simp);exact⟨h.1.Bw k d i l,h.2⟩
 |f::q::r,c,ex,h,hf=>by
  obtain⟨d,i,l⟩:=hf f (by simp)
  obtain⟨o,e,p⟩:=h.2.2.1
  exact⟨h.1.Bw k d i l,h.2.1,⟨o,e,p.mono m n⟩,Tf.Bw k m n h.2.2.2 (fun g hg=>hf g (nU _ hg))⟩
theorem QI.Bw {s:ByteArray}{w w':World}{N:Nat}{X:Nat→Prop}{ov:Value}{l:List Fq}{c:Nat}{ex:List Nat}{S:Nat→Prop}(h:QI s w N X ov l c ex)(k:Ab S w w')(m:∀j,S j→j<N∨w.heap.size≤j):QI s w' N X ov l c ex:=by
 have i:∀j,N≤j→j<w.heap.size→¬S j:=fun j q r n=>by rcases m j n with o|o <;> omega
 have p:∀j,X j→w'.heap[j]? =w.heap[j]? :=fun j d=>k.block j (h.own j d).2 (i j (h.own j d).1 (h.own j d).2)
 refine⟨Tf.Bw k p (fun _ e=>e) h.stk (fun f hf=>?_),h.sep,A1 h.list k (fun b a=>i b (Bf h.list b a) (Ik h.list b a)),h.len,fun j d=>⟨(h.own j d).1,kV (h.own j d).2 k.size⟩⟩
 have g:=Tf.Kc h.stk f hf
 exact⟨i _ g.2.1 (Aa g.1),fun b a=>i b (Bf g.2.2.1 b a) (Ik g.2.2.1 b a),fun b a=>i b (Bf g.2.2.2 b a) (Ik g.2.2.2 b a)⟩
theorem Gn {w:World}{t a:TypeId}(d:t≠a){base size n e f g:Nat}{v v':Value}{xs i:List Value}(h:w.ownsRow base t size v n xs)(j:w.ownsRow e a f v' g i){b:Nat}(k:v.ownBlock=some b):v'.ownBlock≠some b:=fun l=>by
 obtain⟨c,_,m⟩:=J9 h b k
 exact d ((J9 j b l).ne m).symm
theorem Bk {w:World}{t a:TypeId}(b:t≠a){base size n:Nat}{v:Value}{xs:List Value}(h:w.ownsRow base t size v n xs){p:Nat}{c:Array Value}{d:Nat×Nat}(e:w.heap[p]? =some (.cells c a d)):v.ownBlock≠some p:=fun f=>b ((J9 h p f).ne e)
theorem GU:(69:TypeId)≠139:=by decide
theorem dK:(3:TypeId)≠139:=by decide
theorem YO:(3:TypeId)≠69:=by decide
def MS (f:Fq)(k:Nat):Prop:=k=f.P∨f.iv.ownBlock=some k
section
variable {s:ByteArray} {w w':World} {N:Nat} {X:Nat→Prop} {ov ov':Value} {f g:Fq} {r:List Fq} {c:Nat} {ex:List Nat}
theorem QI.app (h:QI s w N X ov (f::r) c []){P:Nat}{i:Value}(m:Ab (MS f) w w')(z:w'.heap[f.P]? =some (.cells (A0 f.h f.lv i) 139 (0,0)))
 (ho:w'.ownsRow N 69 1 i (f.ps.length+1) (f.ps.map pV++[pV P])) (o:∀b,i.ownBlock=some b→f.iv.ownBlock=some b∨w.heap.size≤b):QI s w' N X ov ({ f with iv:=i,ps:=f.ps++[P] }::r) c [P]:=by
 have p:=Tf.Kc h.stk
 have hf:=p f (by simp)
 have u:=h.sep.parts
 simp only[lS,mJ] at u
 have d:=h.sep.arrs
 simp only[lS,mQ] at d
 have v:∀j,X j→w'.heap[j]? =w.heap[j]? :=fun j k=>m.block j (h.own j k).2 (fun e=>by
  rcases e with rfl|e
  ·exact (h.sep.o f (by simp)).1 k
  ·exact (h.sep.o f (by simp)).2.1 j e k)
 have A:∀b,f.lv.ownBlock=some b→¬MS f b:=fun b a e=>by
  rcases e with rfl|e
  ·exact Bk dK hf.2.2.1 hf.1 a
  ·exact Gn YO hf.2.2.1 hf.2.2.2 a e
 have hr:∀g∈r,¬MS f g.P∧(∀b,g.lv.ownBlock=some b→¬MS f b)∧(∀b,g.iv.ownBlock=some b→¬MS f b):=fun g hg=>by
  have n:=p g (by simp[hg])
  refine⟨fun e=>?_,fun b a e=>?_,fun b a e=>?_⟩
  ·rcases e with e|e
   ·exact u.1 (lD.2 ⟨g,hg,e⟩)
   ·exact Bk GU hf.2.2.2 n.1 e
  ·rcases e with rfl|e
   ·exact Bk dK n.2.2.1 hf.1 a
   ·exact Gn YO n.2.2.1 hf.2.2.2 a e
  ·rcases e with rfl|e
   ·exact Bk GU n.2.2.2 hf.1 a
   ·exact (d.2.1 _ (lD.2 ⟨g,hg,rfl⟩)) b e a
 have B:∀b,ov.ownBlock=some b→¬MS f b:=fun b a e=>by
  rcases e with rfl|e
  ·exact Bk GU h.list hf.1 a
  ·exact d.1 _ (List.mem_cons_self ..) b a e
 have x:GT w' N { f with iv:=i,ps:=f.ps++[P] }:=⟨z,hf.2.1,A1 hf.2.2.1 m A,by
  show w'.ownsRow N _ 1 i (f.ps++[P]).length ((f.ps++[P]).map pV)
  rw[kU,lF];exact ho⟩
 refine⟨?_,⟨h.sep.parts,?_,h.sep.lvs,?_,h.sep.ovout⟩,A1 h.list m B,h.len,fun j k=>⟨(h.own j k).1,kV (h.own j k).2 m.size⟩⟩
 ·cases r with
  |nil=>obtain⟨C,q,D,t⟩:=h.stk;exact⟨x,q,by show f.ps++[P]=_;rw[D];rfl,t⟩
  |cons g r =>
   obtain⟨C,q,⟨E,e,F⟩,t⟩:=h.stk
   exact⟨x,q,⟨E,by show f.ps++[P]=_;rw[e,nR],F.mono v (fun _ e=>e)⟩,Tf.Bw m v (fun _ e=>e) t hr⟩
 ·simp only[lS,mQ]
  refine⟨fun G l b a=>?_,fun G l b a=>?_,d.2.2⟩
  ·rcases lQ.1 l with rfl|l
   ·intro e
    rcases o b e with e|e
    ·exact d.1 _ (List.mem_cons_self ..) b a e
    ·have:=Ik h.list b a;omega
   ·exact d.1 _ (nU _ l) b a
  ·rcases o b a with e|e
   ·exact d.2.1 _ l b e
   ·intro H
    subst H
    obtain⟨g,hg,I⟩:=lD.1 l
    have:=Ik (p g (by simp[hg])).2.2.2 b I;omega
 ·intro g hg
  rcases lQ.1 hg with rfl|hg
  ·refine⟨(h.sep.o f (by simp)).1,fun b a y=>?_,(h.sep.o f (by simp)).2.2⟩
   rcases o b a with e|e
   ·exact (h.sep.o f (by simp)).2.1 b e y
   ·have:=(h.own b y).2;omega
  ·exact h.sep.o g (by simp[hg])
structure Qa (w:World) (N:Nat) (X:Nat→Prop) (fs:List Fq) (P:Nat) (h:Hd) (cs:List Nat) (lv:Value):Prop where
 cell:w.heap[P]? =some (.cells (A0 h lv sN) 139 (0,0))
 base:N≤P
 cols:w.ownsRow N 3 1 lv cs.length (Fj cs)
 o:¬X P
 lout:∀b,lv.ownBlock=some b→¬X b
 ne:∀g∈fs,g.P≠P
 lne:∀g∈fs,∀b,lv.ownBlock=some b→g.lv.ownBlock≠some b
theorem Qa.Bw {S:Nat→Prop}{c:List Fq}{P:Nat}{h:Hd}{cs:List Nat}{lv:Value}(a:Qa w N X c P h cs lv)(k:Ab S w w')(d:¬S P)(e:∀b,lv.ownBlock=some b→¬S b):Qa w' N X c P h cs lv :=
 ⟨(k.block _ (Aa a.cell) d).trans a.cell,a.base,A1 a.cols k e,a.o,a.lout,a.ne,a.lne⟩
theorem Qa.app {P:Nat}{d:Hd}{cs:List Nat}{lv:Value}{i:Value}{j:List Nat}(l:QI s w N X ov (f::r) c ex)(a:Qa w N X (f::r) P d cs lv)(k:Ab (MS f) w w'):Qa w' N X ({ f with iv:=i,ps:=j }::r) P d cs lv:=by
 have hf:=Tf.Kc l.stk f (by simp)
 have m:¬MS f P:=fun e=>by
  rcases e with e|e
  ·exact a.ne f (by simp) e.symm
  ·exact Bk GU hf.2.2.2 a.cell e
 have n:∀b,lv.ownBlock=some b→¬MS f b:=fun b h e=>by
  rcases e with rfl|e
  ·exact Bk dK a.cols hf.1 h
  ·exact Gn YO a.cols hf.2.2.2 h e
 have:=a.Bw k m n
 refine⟨this.cell,this.base,this.cols,this.o,this.lout,fun g hg=>?_,fun g hg=>?_⟩
 ·rcases lQ.1 hg with rfl|hg
  ·exact a.ne f (by simp)
  ·exact a.ne g (by simp[hg])
 ·rcases lQ.1 hg with rfl|hg
  ·exact a.lne f (by simp)
  ·exact a.lne g (by simp[hg])
theorem QI.push {P b:Nat}{n:Hd}{cs:List Nat}{lv:Value}(h:QI s w N X ov (f::r) c [P])(d:Qa w N X (f::r) P n cs lv)(l:Ab (fun k=>ov.ownBlock=some k) w w')
 (ho:w'.ownsRow N 69 1 ov' (f::r).length.succ (((f::r).map (·.P)).reverse.map pV++[pV P])) (q:∀b,ov'.ownBlock=some b→ov.ownBlock=some b∨w.heap.size≤b)
 (y:(f::r).length≤6) (z:FS s (5-r.length) ⟨P,n,cs,lv,sN,[],[],c,b⟩ (b+1)) :
 QI s w' N X ov' (⟨P,n,cs,lv,sN,[],[],c,b⟩::f::r) (b+1) []:=by
 have t:=Tf.Kc h.stk;have o:=h.sep.arrs
 simp only[mQ] at o
 have A:∀j,X j→w'.heap[j]? =w.heap[j]? :=fun j m=>l.block j (h.own j m).2 (fun e=>h.sep.ovout j e m)
 have hr:∀g∈f::r,¬(ov.ownBlock=some g.P)∧(∀b,g.lv.ownBlock=some b→¬(ov.ownBlock=some b))∧(∀b,g.iv.ownBlock=some b→¬(ov.ownBlock=some b)):=fun g hg=>by
  have u:=t g hg
  exact⟨fun e=>Bk GU h.list u.1 e,fun b a e=>Gn YO u.2.2.1 h.list a e,fun b a e=>o.1 _ (lD.2 ⟨g,hg,rfl⟩) b e a⟩
 refine⟨⟨⟨?_,d.base,?_,World.ownsRow_nil _ _ _ _⟩,z,⟨[],rfl,.nil⟩,Tf.Bw l A (fun _ e=>e) h.stk hr⟩,⟨?_,?_,?_,?_,?_⟩,?_,by simp only[lN] at y⊢;omega,fun j m=>⟨(h.own j m).1,kV (h.own j m).2 l.size⟩⟩
 ·exact (l.block _ (Aa d.cell) (fun e=>Bk GU h.list d.cell e)).trans d.cell
 ·exact A1 d.cols l (fun b a e=>Gn YO d.cols h.list a e)
 ·rw[lS,mJ]
  refine⟨fun B=>?_,h.sep.parts⟩
  obtain⟨g,hg,e⟩:=lD.1 B
  exact d.ne g hg e
 ·simp only[lS,mQ]
  refine⟨fun v i b a=>?_,fun v i b a=>by simp[Value.ownBlock] at a,?_⟩
  ·rcases lQ.1 i with rfl|i
   ·simp[Value.ownBlock]
   ·intro e
    subst e
    rcases q b a with e|e
    ·exact o.1 _ (by simpa using i) b e rfl
    ·have C:some b∈(f::r).map (·.iv.ownBlock):=by simpa using i
     obtain⟨g,hg,p⟩:=lD.1 C
     have:=Ik (t g hg).2.2.2 b p;omega
  ·have:=o.2;simpa using this
 ·rw[lS,mQ]
  refine⟨fun v i b a e=>?_,h.sep.lvs⟩
  subst e
  obtain⟨g,hg,p⟩:=lD.1 i
  exact d.lne g hg b a p
 ·intro g hg
  rcases lQ.1 hg with rfl|hg
  ·exact⟨d.o,fun b a=>by simp[Value.ownBlock] at a,d.lout⟩
  ·exact h.sep.o g hg
 ·intro b a x
  rcases q b a with e|e
  ·exact h.sep.ovout b e x
  ·have:=(h.own b x).2;omega
 ·have e:((⟨P,n,cs,lv,sN,[],[],c,b⟩::f::r:List Fq).map (·.P)).reverse.map pV=((f::r).map (·.P)).reverse.map pV++[pV P]:=by simp
  rw[e];exact ho
end
end Go.Proofs.YtdinjjmcmfjbfaaGreatDoor
