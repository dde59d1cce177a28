import Derived.Test.YtdinjjmcmfjbfaaGreatDoorTxJ
import Derived.Test.YtdinjjmcmfjbfaaGreatDoorShelfJ
import Derived.Lib.ParseIntBMem
import Derived.Deep.AppendLies
set_option maxRecDepth 100000
set_option maxHeartbeats 4000000
namespace Go.Proofs.YtdinjjmcmfjbfaaGreatDoor
open Go.RowKit Mo Pl Tryz
theorem Fk (w:World)(o:Obj):(w.alloc o).heap.size=w.heap.size+1:=by simp
theorem UJ (s:ByteArray)(w:World)(_:s.size≤1000):Calls prog 124 #[.string s] w fun e w'=>e=.returned (.string s)∧Ab No w w':=by
 go_enter func124,ntmps124;go_wp21;go_call Tryz.stringslite_Clone s _ (by omega) as e w1 ⟨rfl,a⟩;go_wp21;go_ret;exact⟨rfl,⟨a.os,a.tape,a.output,a.size,fun i hi _=>a.block i hi⟩⟩
def WP (B P:Nat)(s:ByteArray)(w:World)(r:Bool×Nat)(t:TypeId)(c':Bool→Nat→Array Value)(e:Ending)(w':World):Prop :=
 ∃ok a',r=(ok,a')∧e=.returned (.bool ok)∧RP B s a' w'∧Ab (fun k=>k=B∨k=P) w w'∧w'.heap[P]? =some (.cells (c' ok a') t (0,0))
theorem Tv (B P b d:Nat)(r:Int)(s:ByteArray)(a:Nat)(c:Array Value)(t:TypeId)(w:World)(E:s.size≤1000)(F:d≤10)(G:r=(d:Int))(u:P≠B)(h:RP B s a w)(o:C2 w P c t)(H:b<c.size) :
 Calls prog 75 #[C1 B,.pointer (some ⟨P,b,none⟩),.int .i64 r] w
  (WP B P s w (V0 s d 97 122 a) t (fun ok a'=>if ok=true then c.setIfInBounds b (.string (s.extract a a')) else c)):=by
 have v:=h.c1;have I:=Ae h;have J:=Ae o;have K:=Aa o;have V:=h.1;subst G;clear h o;go_enter func75,ntmps75;go_wp21;go_call Ql B s a d 97 122 (d:Int) 97 122 _ E F (by omega) rfl rfl rfl I.o as e w1 ⟨ok,a1,j,rfl,p1,l⟩;have g:xR (C2 w1 P c t):=(l.block P K u).trans J.o;have x:=Ae j;have y:xR (Ab (fun k=>k=B∨k=P) w w1):=l.mono (fun _ _ e=>.inl e);have W:a≤a1:=by have:=Oo s 97 122 d a;unfold V0 at j;injection j with _ X;omega
 clear j;cases ok
 ·have m:=Ae p1;clear p1 l v;go_wp21;go_ret;exact⟨false,a1,x.o,rfl,m.o,y.o,g.o⟩
 have z:=p1.c0;have A:=p1.c1;have L:=p1.1;have m:=Ae p1;have Y:=Bm a
 have Z:(a:Int)≤(a1:Int):=by omega
 have aa:(a1:Int)≤(s.size:Int):=by omega
 have C:w1.cell? ⟨P,b,none⟩=some c[b]:=by rw[Af g.o,uG H]
 have D:w1.frozen? ⟨P,b,none⟩=false:=Am g.o b;have p:B<w1.heap.size:=Aa m.o.2;have q:P<w1.heap.size:=Aa g.o;have M:(s.extract a a1).size≤1000:=by simp;omega
 clear p1 l v;go_wp21
 go_region_held3 (fun w'=>w'.cell? ⟨B,0,none⟩=some (.string s)∧w'.cell? ⟨B,1,none⟩=some (.int .i64 (a1:Int))) (go_keep)
  (first
    |(go_at_call 124
      go_call UJ (s.extract a a1) _ M as e i ⟨rfl,f⟩;have N:=(f.cell p xT).trans z;have e1:=(f.cell p xT).trans A;have O:=(f.cell q xT).trans C;have Q:i.frozen? ⟨P,b,none⟩=false:=(World.frozen?_of_block (f.block P q xT)).trans D;have R:=Ae f;clear f))
 have n:Ab No w1 i:=((Ab.refl No w1).drew).seq R.o;have S:xR (Ab (fun k=>k=B∨k=P) w1 (i.setCell ⟨P,b,none⟩ (.string (s.extract a a1)))):=(n.any).setCell (.inr (.inr rfl)) _;have T:xR (C2 i P c t):=(n.block P q xT).trans g.o
 have U:xR (RP B s a1 (i.setCell ⟨P,b,none⟩ (.string (s.extract a a1)))) :=
  ⟨L,(Below.heap_setCell _ _ _ _ (fun e=>u e.symm)).trans ((n.block B p xT).trans m.o.2)⟩
 clear z A N e1 C D O Q n;go_wp21;go_ret;exact⟨true,a1,x.o,rfl,U.o,y.o.seq S.o,A0 T.o b _⟩
def Tw (c:Array Value)(o:Nat)(v:V):Array Value :=
 (((((c.setIfInBounds o (.int .i32 (kI v))).setIfInBounds (o+1) (.int .u8 (tB v 0))).setIfInBounds (o+2) (.int .u8 (tB v 1))).setIfInBounds (o+3) (.int .u8 (tB v 2))).setIfInBounds (o+4) (.int .u8 (tB v 3))).setIfInBounds (o+5) (.int .i64 (nI v))
theorem Ns (c:Array Value)(o:Nat)(v:V):(Tw c o v).size=c.size:=by simp[Tw]
def w6 (w:World)(P o:Nat)(k t0 t1 t2 t3 n:Int):World :=
 (((((w.setCell ⟨P,o,none⟩ (.int .i32 k)).setCell ⟨P,o+1,none⟩ (.int .u8 t0)).setCell ⟨P,o+2,none⟩ (.int .u8 t1)).setCell ⟨P,o+3,none⟩ (.int .u8 t2)).setCell ⟨P,o+4,none⟩ (.int .u8 t3)).setCell ⟨P,o+5,none⟩ (.int .i64 n)
theorem Rr {S:Nat→Prop}{w:World}{P:Nat}(a:S P)(o:Nat)(k b c d e n:Int):Ab S w (w6 w P o k b c d e n) :=
 (((((((Ab.refl S w).setCell (.inr a) _).setCell (.inr a) _).setCell (.inr a) _).setCell (.inr a) _).setCell (.inr a) _).setCell (.inr a) _)
theorem DS {w:World}{P:Nat}{c:Array Value}{t:TypeId}(h:C2 w P c t)(o:Nat)(v:V):C2 (w6 w P o (kI v) (tB v 0) (tB v 1) (tB v 2) (tB v 3) (nI v)) P (Tw c o v) t :=
 A0 (A0 (A0 (A0 (A0 (A0 h _ _) _ _) _ _) _ _) _ _) _ _
def mK (s:ByteArray)(c:Array Value)(o a:Nat)(ok:Bool)(a':Nat):Array Value :=
 if ok=true then Tw c o (.txt (Ia s a a')) else Tw c o (.txt [])
theorem Sf (B P o:Nat)(s:ByteArray)(a:Nat)(c:Array Value)(t:TypeId)(w:World)(G:s.size≤1000)(H:P≠B)(h:RP B s a w)(l:C2 w P c t)(_:o+5<c.size) :
 Calls prog 125 #[C1 B,.pointer (some ⟨P,o,none⟩)] w (WP B P s w (Bj s a) t (mK s c o a)):=by
 have I:=Ae h;have J:=Ae l;have K:=Aa l;have L:=Aa h.2;have q:RP B s a (w.alloc (.cells #[.string ⟨#[]⟩] 9)):=⟨h.1,(Below.heap_alloc _ _ _ L).trans h.2⟩;have M:=Ae (Tv B w.heap.size 0 4 4 s a #[.string ⟨#[]⟩] 9 _ G (by omega) rfl (by omega) q (heap_alloc_last w _) (by simp));clear h l q;go_enter func125,ntmps125;go_wp21;go_call M.o as e f ⟨ok,a2,m,rfl,p2,n,c2⟩;have r:Ab (fun k=>k=B∨k=P) w f:=((Ab.refl No w).alloc _).any.trans n (fun _ e=>e) (fun i hi e=>by rcases e with e|e;exact .inl e;omega);have u:xR (f.heap[P]? =some (.cells c t (0,0))):=by refine (n.block P (by rw[Fk];omega) (by omega)).trans ((Below.heap_alloc _ _ _ K).trans J.o)
 have N:∃b:ByteArray,C2 f w.heap.size #[.string b] 9∧b.size≤4∧(if ok=true then Ia s a a2 else [])=b.data.toList:=by
  cases ok
  ·exact⟨⟨#[]⟩,c2,by decide,rfl⟩
  have ac:=Ro (s:=s) (k:=4) (lo:=97) (hi:=122) (by omega) I.o.1 m;refine⟨s.extract a a2,c2,?_,rfl⟩;simp;omega
 obtain⟨b,x,y,z⟩:=N;have ad:f.cell? ⟨w.heap.size,0,none⟩=some (.string b):=by rw[Af x];rfl
 have O:=Ae m;have A:=Ae p2;have Q:=Ae r;have R:=Ae z;have T:B<f.heap.size:=Aa p2.2;have U:P<f.heap.size:=Aa u.o;clear m p2 n c2 r x z;go_wp21;go_call MT b y _ as e w3 ⟨rfl,g⟩;have d:xR (C2 w3 P c t):=(g.block P U xT).trans u.o;have p:xR (RP B s a2 w3):=⟨A.o.1,(g.block B T xT).trans A.o.2⟩;have W:xR (Ab (fun k=>k=B∨k=P) w w3):=Q.o.V1 g;have ae:w3.cell? ⟨P,o,none⟩=some c[o]:=by rw[Af d.o,uG (by omega)]
 have af:w3.cell? ⟨P,o+1,none⟩=some c[o+1]:=by rw[Af d.o,uG (by omega)]
 have ag:w3.cell? ⟨P,o+2,none⟩=some c[o+2]:=by rw[Af d.o,uG (by omega)]
 have ah:w3.cell? ⟨P,o+3,none⟩=some c[o+3]:=by rw[Af d.o,uG (by omega)]
 have ai:w3.cell? ⟨P,o+4,none⟩=some c[o+4]:=by rw[Af d.o,uG (by omega)]
 have aj:w3.cell? ⟨P,o+5,none⟩=some c[o+5]:=by rw[Af d.o,uG (by omega)]
 have g0:w3.frozen? ⟨P,o,none⟩=false:=Am d.o _;have ak:w3.frozen? ⟨P,o+1,none⟩=false:=Am d.o _;have al:w3.frozen? ⟨P,o+2,none⟩=false:=Am d.o _;have am:w3.frozen? ⟨P,o+3,none⟩=false:=Am d.o _;have an:w3.frozen? ⟨P,o+4,none⟩=false:=Am d.o _;have ao:w3.frozen? ⟨P,o+5,none⟩=false:=Am d.o _;have X:xR (∀v:V,v=.txt b.data.toList→WP B P s w (Bj s a) t (mK s c o a) (.returned (.bool ok)) (w6 w3 P o (kI v) (tB v 0) (tB v 1) (tB v 2) (tB v 3) (nI v))):=by
  rintro v rfl;refine⟨ok,a2,O.o,rfl,⟨p.o.1,((Rr (S:=(·=P)) rfl o _ _ _ _ _ _).block B (Aa p.o.2) (fun e=>H e.symm)).trans p.o.2⟩,W.o.seq (Rr (.inr rfl) o _ _ _ _ _ _),?_⟩;have e:mK s c o a ok a2=Tw c o (.txt b.data.toList):=by
   rw[←R.o];cases ok
   ·exact if_neg (by simp)
   exact if_pos rfl
  rw[e];exact DS d.o o _
 clear g y;generalize C:tB (.txt b.data.toList) 0=Y at *;generalize D:tB (.txt b.data.toList) 1=Z at *;generalize E:tB (.txt b.data.toList) 2=aa at *;generalize F:tB (.txt b.data.toList) 3=ab at *;have j:xR (tB (.txt b.data.toList) 0=Y∧tB (.txt b.data.toList) 1=Z∧tB (.txt b.data.toList) 2=aa∧tB (.txt b.data.toList) 3=ab):=⟨C,D,E,F⟩;clear C D E F;go_wp21;go_ret;have:=X.o _ rfl;rw[j.o.1,j.o.2.1,j.o.2.2.1,j.o.2.2.2] at this;exact this
theorem MU (w:World)(e:TypeId)(t:ByteArray):Ab No w (Lib.bytesWorld w e t):=⟨rfl,rfl,rfl,by rw[Lib.bytesWorld_size];omega,fun i hi _=>Lib.bytesWorld_at_old w e t i hi⟩
theorem Tx {s:ByteArray}{a b:Nat}(e:b≤s.size)(h:a<b):∃c,Ia s a b=c::Ia s (a+1) b∧c.toNat=bt s a:=by
 have d:a<(s.data.toList.take b).length:=by rw[uV,M4];omega
 refine⟨(s.data.toList.take b)[a],?_,?_⟩
 ·rw[Oq,Oq,vF d]
 have f:(Ia s a b)[0]? =some (s.data.toList.take b)[a]:=by rw[Oq,vF d];rfl
 have:=(RD e f).2;simpa using this
theorem DT (s:ByteArray)(a:Nat):Ia s a a=[]:=by rw[Oq];exact wY (by rw[uV];omega)
theorem GN {s:ByteArray}{a a':Nat}(c:a≤s.size)(h:Nm s a=(true,a')):a<a'∧a'≤s.size∧ZR (Ia s a a'):=by
 unfold Nm at h;split at h
 ·cases h
 obtain⟨d,b,_,f⟩:=Ro (by omega) c h;refine⟨d,b,?_,?_,f⟩
 ·intro e;have:=Tp (s:=s) (a:=a) b;rw[e] at this;simp at this;omega
 rw[Tp b];omega
theorem Qm {s:ByteArray}{a a':Nat}(o:a≤s.size)(h:D1 s a=(true,a')):a<a'∧a'≤s.size∧DO (Ia s a a'):=by
 unfold D1 Tm at h;by_cases i:bt s a=45
 ·have e:tk s 45 a=(true,a+1):=by unfold tk;rw[if_pos i]
  rw[e] at h;have p:=Cu (s:=s) (a:=a) (by omega);obtain⟨k,g,j⟩:=GN (by omega) (show Nm s (a+1)=(true,a') by simpa using h);obtain⟨c,d,l⟩:=Tx g (show a<a' by omega);refine⟨by omega,g,.inr ⟨_,?_,j⟩⟩;rw[d];have:c=45:=wK.1 (by rw[l,i];rfl);rw[this]
 have e:tk s 45 a=(false,a):=by unfold tk;rw[if_neg i]
 rw[e] at h;have f:R9 (tk s 48) (Nm s) a=(true,a'):=by simpa using h
 unfold R9 at f;by_cases m:bt s a=48
 ·have e2:tk s 48 a=(true,a+1):=by unfold tk;rw[if_pos m]
  rw[e2] at f;have:a'=a+1:=by simpa using f.symm
  subst this;have p:=Cu (s:=s) (a:=a) (by omega);obtain⟨c,d,l⟩:=Tx (s:=s) (a:=a) (b:=a+1) (by omega) (by omega);refine⟨by omega,by omega,.inl ⟨?_,?_,?_⟩⟩
  ·rw[d];simp
  ·rw[d,DT];simp
  rw[d,DT];intro x n;simp at n;subst n;unfold Xr;omega
 have e2:tk s 48 a=(false,a):=by unfold tk;rw[if_neg m]
 rw[e2] at f;obtain⟨k,g,j⟩:=GN o (show Nm s a=(true,a') by simpa using f);exact⟨k,g,.inl j⟩
def qQ (s:ByteArray)(c:Array Value)(o a:Nat)(ok:Bool)(a':Nat):Array Value :=
 if ok=true then Tw c o (.num (Gu (Ia s a a'))) else c
theorem Px (B P o:Nat)(s:ByteArray)(a:Nat)(c:Array Value)(t:TypeId)(w:World)(K:s.size≤1000)(x:P≠B)(h:RP B s a w)(n:C2 w P c t)(_:o+5<c.size) :
 Calls prog 126 #[C1 B,.pointer (some ⟨P,o,none⟩)] w (WP B P s w (D1 s a) t (qQ s c o a)):=by
 have y:=h.c1;have L:=Ae h;have M:=Ae n;have N:=Aa n;have O:=h.1;clear h n;go_enter func126,ntmps126;go_wp21;go_call GJ B s a _ K L.o as e w1 ⟨ok,a1,g,rfl,p1,i⟩;have p:xR (C2 w1 P c t):=(i.block P N x).trans M.o;have z:=Ae g;have A:xR (Ab (fun k=>k=B∨k=P) w w1):=i.mono (fun _ _ e=>.inl e);cases ok
 ·have j:=Ae p1;clear p1 i y g;go_wp21;go_ret;exact⟨false,a1,z.o,rfl,j.o,A.o,p.o⟩
 obtain⟨_,C,D⟩:=Qm O g;have E:=Ae (ZS D);have F:=p1.c0;have G:=p1.c1;have j:=Ae p1;have Z:=Bm a
 have aa:(a:Int)≤(a1:Int):=by omega
 have ab:(a1:Int)≤(s.size:Int):=by omega
 have q:B<w1.heap.size:=Aa j.o.2;have Q:P<w1.heap.size:=Aa p.o;have R:(s.extract a a1).size≤9223372036854775806:=by simp;omega
 clear p1 i y g D;go_wp21
 go_region_held3 (fun w'=>w'.cell? ⟨B,0,none⟩=some (.string s)∧w'.cell? ⟨B,1,none⟩=some (.int .i64 (a1:Int))) (go_keep)
  (first
    |(go_at_call 162
      go_call Tryz.strconv_ParseInt_10_at64_ok (s.extract a a1) R (Gu (Ia s a a1)) E.o _ as e f ⟨rfl,H⟩;have l:Ab No w1 f:=by
       rcases H with rfl|⟨_,rfl⟩
       ·exact (Ab.refl No w1).drew
       exact ((Ab.refl No w1).drew).seq (MU _ _ _)
      have T:=(l.cell q xT).trans F;have e1:=(l.cell q xT).trans G;have r:=Ae l;clear l H))
 have I:xR (C2 f P c t):=(r.o.block P Q xT).trans p.o;have J:xR (RP B s a1 f):=⟨C,(r.o.block B q xT).trans j.o.2⟩;clear F G T e1;obtain⟨d,u⟩:∃d,Gu (Ia s a a1)=d:=⟨_,rfl⟩;have U:=Ae u;rw[u];clear u E;have V:P<f.heap.size:=Aa I.o;have W:B<f.heap.size:=Aa J.o.2;go_wp21;go_call Tu d _ as e w3 ⟨rfl,m⟩;have b:xR (C2 w3 P c t):=(m.block P V xT).trans I.o;have v:xR (RP B s a1 w3):=⟨C,(m.block B W xT).trans J.o.2⟩;have X:xR (Ab (fun k=>k=B∨k=P) w w3):=(A.o.V1 r.o).V1 m;have ac:w3.cell? ⟨P,o,none⟩=some c[o]:=by rw[Af b.o,uG (by omega)]
 have ad:w3.cell? ⟨P,o+1,none⟩=some c[o+1]:=by rw[Af b.o,uG (by omega)]
 have ae:w3.cell? ⟨P,o+2,none⟩=some c[o+2]:=by rw[Af b.o,uG (by omega)]
 have af:w3.cell? ⟨P,o+3,none⟩=some c[o+3]:=by rw[Af b.o,uG (by omega)]
 have ag:w3.cell? ⟨P,o+4,none⟩=some c[o+4]:=by rw[Af b.o,uG (by omega)]
 have ah:w3.cell? ⟨P,o+5,none⟩=some c[o+5]:=by rw[Af b.o,uG (by omega)]
 have g0:w3.frozen? ⟨P,o,none⟩=false:=Am b.o _;have ai:w3.frozen? ⟨P,o+1,none⟩=false:=Am b.o _;have aj:w3.frozen? ⟨P,o+2,none⟩=false:=Am b.o _;have ak:w3.frozen? ⟨P,o+3,none⟩=false:=Am b.o _;have al:w3.frozen? ⟨P,o+4,none⟩=false:=Am b.o _;have am:w3.frozen? ⟨P,o+5,none⟩=false:=Am b.o _;clear m;go_wp21;go_ret;have Y:WP B P s w (D1 s a) t (qQ s c o a) (.returned (.bool true)) (w6 w3 P o (kI (.num d)) (tB (.num d) 0) (tB (.num d) 1) (tB (.num d) 2) (tB (.num d) 3) (nI (.num d))):=by refine⟨true,a1,z.o,rfl,⟨v.o.1,((Rr (S:=(·=P)) rfl o _ _ _ _ _ _).block B (Aa v.o.2) (fun e=>x e.symm)).trans v.o.2⟩,X.o.seq (Rr (.inr rfl) o _ _ _ _ _ _),?_⟩;rw[DS b.o o];unfold qQ;rw[if_pos rfl,U.o]
 exact Y
def Nk (s:ByteArray)(a:Nat):Nat:=bt s a-48
def RG (s:ByteArray)(a:Nat):Nat:=if bt s a=60 then 0 else if bt s a=61 then 1 else 2
def WQ (B P:Nat)(s:ByteArray)(w:World)(r:Bool×Nat)(t:TypeId)(n:Nat)(c':Array Value)(e:Ending)(w':World):Prop :=
 ∃ok a' d,r=(ok,a')∧e=.returned (.bool ok)∧RP B s a' w'∧Ab (fun k=>k=B∨k=P) w w'∧w'.heap[P]? =some (.cells d t (0,0))∧d.size=n∧(ok=true→d=c')
theorem Xs (B P o:Nat)(s:ByteArray)(a:Nat)(c:Array Value)(t:TypeId)(w:World)(u:s.size≤1000)(m:P≠B)(h:RP B s a w)(j:C2 w P c t)(v:o<c.size) :
 Calls prog 172 #[C1 B,.pointer (some ⟨P,o,none⟩)] w (WQ B P s w (Jt s a) t c.size (c.setIfInBounds o (.int .i64 (Nk s a:Nat)))):=by
 have n:=h.c1;have x:=Ae h;have y:=Ae j;have z:=Aa j;have C:=h.1;clear h j;go_enter func172,ntmps172;go_wp21;go_call Ql B s a 1 48 57 1 48 57 _ u (by omega) (by omega) rfl rfl rfl x.o as e w1 ⟨ok,a1,b,rfl,p1,d⟩;have f:xR (C2 w1 P c t):=(d.block P z m).trans y.o;have p:xR (Ab (fun k=>k=B∨k=P) w w1):=d.mono (fun _ _ e=>.inl e);have q:=Ae b;cases ok
 ·have g:=Ae p1;clear p1 d n b;go_wp21;go_ret;exact⟨false,a1,c,q.o,rfl,g.o,p.o,f.o,rfl,by simp⟩
 have hr:48≤bt s a∧bt s a≤57:=by
  have r:=b;unfold V0 at r;injection r with A _;have l:a<Eb s 48 57 1 a:=by simpa using A
  exact Ot s 48 57 1 a a (tY _) l
 have l:a<s.size:=Cu (by omega);have i:bt s a=s[a].toNat:=by unfold bt;rw[dif_pos l]
 have hg:xR ((Nk s a:Int)=(s[a].toNat:Int)-48):=by show _=_;unfold Nk;rw[i] at hr⊢;omega
 have D:=Bm a
 have E:(a:Int)<(s.size:Int):=by omega
 have F:=p1.c0;have g:=Ae p1;have G:w1.cell? ⟨P,o,none⟩=some c[o]:=by rw[Af f.o,uG v]
 have H:w1.frozen? ⟨P,o,none⟩=false:=Am f.o o;have I:0≤(s[a].toNat:Int)-48:=by rw[i] at hr;omega
 have J:(s[a].toNat:Int)-48≤255:=by rw[i] at hr;omega
 have K:IntKind.u8.wrap ((s[a].toNat:Int)-48)=(s[a].toNat:Int)-48:=by
  have e1:IntKind.u8.wrap ((s[a].toNat:Int)-48)=((s[a].toNat:Int)-48) % 256:=by simp[IntKind.wrap,IntKind.signed,IntKind.bits]
  rw[e1];omega
 clear p1 d n b i hr;go_wp21;go_ret;refine⟨true,a1,_,q.o,rfl,⟨g.o.1,(Below.heap_setCell _ _ _ _ (fun e=>m e.symm)).trans g.o.2⟩,p.o.setCell (.inr (.inr rfl)) _,A0 f.o o _,by simp,fun _=>?_⟩;rw[hg.o]
theorem Ey (B P o:Nat)(s:ByteArray)(a:Nat)(c:Array Value)(t:TypeId)(w:World)(n:s.size≤1000)(f:P≠B)(h:RP B s a w)(b:C2 w P c t)(p:o+1<c.size) :
 Calls prog 143 #[C1 B,.pointer (some ⟨P,o,none⟩)] w (WQ B P s w (Jt s a) t c.size ((c.setIfInBounds o (.bool true)).setIfInBounds (o+1) (.int .i64 (Nk s a:Nat)))):=by
 have C:=Ae h;have q:w.cell? ⟨P,o,none⟩=some c[o]:=by rw[Af b,uG (by omega)]
 have r:w.frozen? ⟨P,o,none⟩=false:=Am b o;have g:RP B s a (w.setCell ⟨P,o,none⟩ (.bool true)):=⟨h.1,(Below.heap_setCell _ _ _ _ (fun e=>f e.symm)).trans h.2⟩;have u:=Ae (Xs B P (o+1) s a (c.setIfInBounds o (.bool true)) t _ n f g (A0 b o _) (by simpa using p));have v:xR (Ab (fun k=>k=B∨k=P) w (w.setCell ⟨P,o,none⟩ (.bool true))):=(Ab.refl _ _).setCell (.inr (.inr rfl)) _;clear h b g;go_enter func143,ntmps143;go_wp21;go_call u.o as e w1 ⟨ok,a1,d,i,rfl,p1,j,c1,l,m⟩;have x:=Ae i;have y:=Ae p1;have z:=Ae j;have A:=Ae c1;have HD:xR (d.size=c.size∧(ok=true→d=(c.setIfInBounds o (.bool true)).setIfInBounds (o+1) (.int .i64 (Nk s a:Nat)))):=⟨by simpa using l,m⟩;clear i p1 j c1 l m q r;go_wp21;go_ret;exact⟨ok,a1,d,x.o,rfl,y.o,v.o.seq z.o,A.o,HD.o.1,HD.o.2⟩
theorem DU:∀n:Fin 256,Lib.indexByte [60,61,33] (n.val).toUInt8=if n.val=60 then 0 else if n.val=61 then 1 else if n.val=33 then 2 else -1:=by decide +kernel
theorem GO (s:ByteArray)(a:Nat):Lib.indexByte [60,61,33] ((bt s a:Int)).toNat.toUInt8=if bt s a=60 then 0 else if bt s a=61 then 1 else if bt s a=33 then 2 else -1:=by
 rw[Int.toNat_natCast];exact DU ⟨bt s a,UB s a⟩
theorem Xt (B P o:Nat)(s:ByteArray)(a:Nat)(c:Array Value)(t:TypeId)(w:World)(r:s.size≤1000)(f:P≠B)(h:RP B s a w)(g:C2 w P c t)(u:o<c.size) :
 Calls prog 144 #[C1 B,.pointer (some ⟨P,o,none⟩)] w (WQ B P s w (J6 s a) t c.size (c.setIfInBounds o (.int .i64 (RG s a:Nat)))):=by
 have v:=Ae h;have x:=Ae g;have y:=Aa g;clear h g;have l:=GO s a;go_enter func144,ntmps144;go_wp21;go_call F0 B s a _ r v.o as e w1 ⟨rfl,p1,i⟩;have d:xR (C2 w1 P c t):=(i.block P y f).trans x.o;have m:xR (Ab (fun k=>k=B∨k=P) w w1):=i.mono (fun _ _ e=>.inl e);have A:=p1.c1;have C:=p1.f1;have D:w1.cell? ⟨P,o,none⟩=some c[o]:=by rw[Af d.o,uG u]
 have E:w1.frozen? ⟨P,o,none⟩=false:=Am d.o o;have n:=Ae p1;clear p1 i;go_wp21;go_call Tryz.strings_IndexByte _ _ _ as e z ⟨rfl,rfl⟩;have p:Lib.indexByte (⟨#[60,61,33]⟩:ByteArray).data.toList ((bt s a:Int)).toNat.toUInt8=if bt s a=60 then 0 else if bt s a=61 then 1 else if bt s a=33 then 2 else -1:=l
 rw[p];clear l p;by_cases b:bt s a=60∨bt s a=61∨bt s a=33
 ·have j:xR (J6 s a=(true,a+1)):=by show _=_;unfold J6;rw[if_pos b]
  have F:=Cu (s:=s) (a:=a) (by omega);have hv:(if bt s a=60 then (0:Int) else if bt s a=61 then 1 else if bt s a=33 then 2 else -1)=(RG s a:Int):=by unfold RG;rcases b with b|b|b <;> simp[b]
  rw[hv];have G:decide ((RG s a:Int)<0)=false:=by simp
  generalize q:RG s a=H at *;have I:=Ae q;clear b hv q;go_wp21;go_ret;have hr:RP B s (a+1) (z.setCell ⟨B,1,none⟩ (.int .i64 ((a:Int)+1))):=n.o.set (by omega);refine⟨true,a+1,_,j.o,rfl,⟨hr.1,(Below.heap_setCell _ _ _ _ (fun e=>f e.symm)).trans hr.2⟩,(m.o.setCell (.inr (.inl rfl)) _).setCell (.inr (.inr rfl)) _,A0 ((Below.heap_setCell _ _ _ _ f).trans d.o) o _,by simp,fun _=>rfl⟩
 have j:xR (J6 s a=(false,a)):=by show _=_;unfold J6;rw[if_neg b]
 have hv:(if bt s a=60 then (0:Int) else if bt s a=61 then 1 else if bt s a=33 then 2 else -1)= -1:=by rw[if_neg (by omega),if_neg (by omega),if_neg (by omega)]
 rw[hv];clear b hv;go_wp21;go_ret;exact⟨false,a,c,j.o,rfl,n.o,m.o,d.o,rfl,by simp⟩
def iD (s:ByteArray)(c:Array Value)(o a:Nat):Array Value :=
 if bt s a=35 then Tw c (o+2) (.num (Gu (Ia s (a+1) (D1 s (a+1)).2)))
 else if bt s a=36 then Tw c (o+2) (.txt (Ia s (a+1) (Bj s (a+1)).2))
 else (c.setIfInBounds o (.bool true)).setIfInBounds (o+1) (.int .i64 (Nk s a:Nat))
theorem V3 {s:ByteArray}{c a a':Nat}{ok:Bool}(h:tk s c a=(ok,a')):(ok=true∧bt s a=c∧a+1=a')∨(ok=false∧bt s a≠c∧a=a'):=by
 unfold tk at h;by_cases b:bt s a=c
 ·rw[if_pos b] at h;injection h with d e;exact .inl ⟨d.symm,b,e⟩
 rw[if_neg b] at h;injection h with d e;exact .inr ⟨d.symm,b,e⟩
theorem GP (B P o:Nat)(s:ByteArray)(a:Nat)(c:Array Value)(t:TypeId)(w:World)(f:s.size≤1000)(g:P≠B)(h:RP B s a w)(A:C2 w P c t)(_:o+7<c.size) :
 Calls prog 145 #[C1 B,.pointer (some ⟨P,o,none⟩)] w (WQ B P s w (Pw s a) t c.size (iD s c o a)):=by
 have S:=Ae h;have T:=Ae A;have U:=Aa A;clear h A;go_enter func145,ntmps145;go_wp21;go_call Di B s a 35 35 _ f (by omega) rfl S.o as e w1 ⟨ok1,a1,i,rfl,p1,j⟩;have C:xR (C2 w1 P c t):=(j.block P U g).trans T.o;have K:xR (Ab (fun k=>k=B∨k=P) w w1):=j.mono (fun _ _ e=>.inl e);have L:=Ae p1;have V:=Aa C.o;have D:=Ae i;rcases V3 i with ⟨rfl,b,rfl⟩|⟨rfl,b,rfl⟩
 ·have l:xR (iD s c o a=Tw c (o+2) (.num (Gu (Ia s (a+1) (D1 s (a+1)).2)))):=by show _=_;unfold iD;rw[if_pos b]
  clear p1 j i b;go_wp21;go_call Px B P (o+2) s (a+1) c t _ f g L.o C.o (by omega) as e E ⟨ok2,a2,d,rfl,p2,M,c2⟩;have m:=Ae d;have x:=Ae p2;have W:=Ae M;have X:=Ae c2;clear d p2 M c2;go_wp21;go_ret;refine⟨ok2,a2,_,?_,rfl,x.o,K.o.seq W.o,X.o,?_,fun n=>?_⟩
  ·unfold Pw;rw[Hp D.o];exact m.o
  ·unfold qQ;split
   ·exact Ns _ _ _
   rfl
  subst n;have F:(D1 s (a+1)).2=a2:=by rw[m.o]
  rw[l.o,F];exact if_pos rfl
 go_wp21;go_call Di B s a 36 36 _ f (by omega) rfl L.o as e E ⟨ok2,a2,d,rfl,p2,y⟩;have N:xR (C2 E P c t):=(y.block P V g).trans C.o;have O:xR (Ab (fun k=>k=B∨k=P) w E):=K.o.seq (y.mono (fun _ _ e=>.inl e));have x:=Ae p2;have m:=Ae d;rcases V3 d with ⟨rfl,p,rfl⟩|⟨rfl,p,rfl⟩
 ·have l:xR (iD s c o a=Tw c (o+2) (.txt (Ia s (a+1) (Bj s (a+1)).2))):=by show _=_;unfold iD;rw[if_neg b,if_pos p]
  clear p1 j i b p2 y d p;go_wp21;go_call Sf B P (o+2) s (a+1) c t _ f g x.o N.o (by omega) as e w3 ⟨G,a3,q,rfl,r,u,v⟩;have z:=Ae q;have H:=Ae r;have I:=Ae u;have J:=Ae v;clear q r u v;go_wp21;go_ret;refine⟨G,a3,_,?_,rfl,H.o,O.o.seq I.o,J.o,?_,fun n=>?_⟩
  ·unfold Pw;rw[Ev D.o,Hp m.o];exact z.o
  ·unfold mK;split <;> exact Ns _ _ _
  subst n;have F:(Bj s (a+1)).2=a3:=by rw[z.o]
  rw[l.o,F];exact if_pos rfl
 have l:xR (iD s c o a=(c.setIfInBounds o (.bool true)).setIfInBounds (o+1) (.int .i64 (Nk s a:Nat))):=by show _=_;unfold iD;rw[if_neg b,if_neg p]
 clear p1 j i b p2 y d p;go_wp21;go_call Ey B P o s a c t _ f g x.o N.o (by omega) as e w3 ⟨G,a3,Y,q,rfl,r,u,v,Q,R⟩;have z:=Ae q;have H:=Ae r;have I:=Ae u;have J:=Ae v;have HD:=Ae (And.intro Q R);clear q r u v Q R;go_wp21;go_ret;refine⟨G,a3,Y,?_,rfl,H.o,O.o.seq I.o,J.o,HD.o.1,fun n=>?_⟩
 ·unfold Pw;rw[Ev D.o,Ev m.o];exact z.o
 rw[l.o];exact HD.o.2 n
def mL (s:ByteArray)(c:Array Value)(o a:Nat):Array Value :=
 if bt s a=115 then (c.setIfInBounds o (.bool true)).setIfInBounds (o+1) (.int .i64 (Nk s (a+1):Nat)) else Tw c (o+2) (.num 1)
def rU (s:ByteArray)(a:Nat):Bool×Nat:=Tm (tk s 115) (Jt s) (tk s 110) a
theorem MV (B P o:Nat)(s:ByteArray)(a:Nat)(c:Array Value)(t:TypeId)(w:World)(l:s.size≤1000)(f:P≠B)(h:RP B s a w)(m:C2 w P c t)(_:o+7<c.size) :
 Calls prog 147 #[C1 B,.pointer (some ⟨P,o,none⟩)] w (WQ B P s w (rU s a) t c.size (mL s c o a)):=by
 have K:=Ae h;have L:=Ae m;have M:=Aa m;clear h m;go_enter func147,ntmps147;go_wp21;go_call Di B s a 115 115 _ l (by omega) rfl K.o as e w1 ⟨ok1,a1,g,rfl,p1,i⟩;have n:xR (C2 w1 P c t):=(i.block P M f).trans L.o;have x:xR (Ab (fun k=>k=B∨k=P) w w1):=i.mono (fun _ _ e=>.inl e);have p:=Ae p1;have N:=Aa n.o;have O:B<w1.heap.size:=Aa p1.2;have y:=Ae g;rcases V3 g with ⟨rfl,d,rfl⟩|⟨rfl,d,rfl⟩
 ·have q:xR (mL s c o a=(c.setIfInBounds o (.bool true)).setIfInBounds (o+1) (.int .i64 (Nk s (a+1):Nat))):=by show _=_;unfold mL;rw[if_pos d]
  clear p1 i g d;go_wp21;go_call Ey B P o s (a+1) c t _ l f p.o n.o (by omega) as e w3 ⟨Q,a3,R,z,rfl,A,C,D,E,F⟩;have T:=Ae z;have U:=Ae A;have V:=Ae C;have W:=Ae D;have HD:=Ae (And.intro E F);clear z A C D E F;go_wp21;go_ret;refine⟨Q,a3,R,?_,rfl,U.o,x.o.seq V.o,W.o,HD.o.1,fun X=>?_⟩
  ·unfold rU;rw[Hp y.o];exact T.o
  rw[q.o];exact HD.o.2 X
 have q:xR (mL s c o a=Tw c (o+2) (.num 1)):=by show _=_;unfold mL;rw[if_neg d]
 clear p1 i g d;go_wp21;go_call Tu 1 _ as e w3 ⟨rfl,j⟩;have b:xR (C2 w3 P c t):=(j.block P N xT).trans n.o;have r:xR (RP B s a w3):=⟨p.o.1,(j.block B O xT).trans p.o.2⟩;have Y:xR (Ab (fun k=>k=B∨k=P) w w3):=x.o.V1 j;have Z:w3.cell? ⟨P,o+2,none⟩=some c[o+2]:=by rw[Af b.o,uG (by omega)]
 have aa:w3.cell? ⟨P,o+2+1,none⟩=some c[o+2+1]:=by rw[Af b.o,uG (by omega)]
 have ab:w3.cell? ⟨P,o+2+2,none⟩=some c[o+2+2]:=by rw[Af b.o,uG (by omega)]
 have ac:w3.cell? ⟨P,o+2+3,none⟩=some c[o+2+3]:=by rw[Af b.o,uG (by omega)]
 have ad:w3.cell? ⟨P,o+2+4,none⟩=some c[o+2+4]:=by rw[Af b.o,uG (by omega)]
 have ae:w3.cell? ⟨P,o+2+5,none⟩=some c[o+2+5]:=by rw[Af b.o,uG (by omega)]
 have g0:w3.frozen? ⟨P,o+2,none⟩=false:=Am b.o _;have af:w3.frozen? ⟨P,o+2+1,none⟩=false:=Am b.o _;have ag:w3.frozen? ⟨P,o+2+2,none⟩=false:=Am b.o _;have ah:w3.frozen? ⟨P,o+2+3,none⟩=false:=Am b.o _;have ai:w3.frozen? ⟨P,o+2+4,none⟩=false:=Am b.o _;have aj:w3.frozen? ⟨P,o+2+5,none⟩=false:=Am b.o _
 have G:xR (RP B s a (w6 w3 P (o+2) (kI (.num 1)) (tB (.num 1) 0) (tB (.num 1) 1) (tB (.num 1) 2) (tB (.num 1) 3) (nI (.num 1)))) :=
  ⟨r.o.1,((Rr (S:=(·=P)) rfl (o+2) _ _ _ _ _ _).block B (Aa r.o.2) (fun e=>f e.symm)).trans r.o.2⟩
 have u:=Ae (DS b.o (o+2) (.num 1));have H:xR (Ab (fun k=>k=B∨k=P) w (w6 w3 P (o+2) (kI (.num 1)) (tB (.num 1) 0) (tB (.num 1) 1) (tB (.num 1) 2) (tB (.num 1) 3) (nI (.num 1)))):=Y.o.seq (Rr (.inr rfl) (o+2) _ _ _ _ _ _);clear j;go_wp21;go_call Di B s a 110 110 _ l (by omega) rfl G.o as e w4 ⟨ak,a4,I,rfl,J,v⟩;have al:=Ae ((v.block P (Aa u.o) f).trans u.o);have am:xR (Ab (fun k=>k=B∨k=P) w w4):=H.o.seq (v.mono (fun _ _ e=>.inl e));have an:=Ae J;have ao:=Ae I;clear I J v Z aa ab ac ad ae g0 af ag ah ai aj G u H;go_wp21;go_ret;refine⟨ak,a4,_,?_,rfl,an.o,am.o,al.o,Ns _ _ _,fun _=>q.o.symm⟩;unfold rU;rw[Ev y.o];exact ao.o
def C6 (s:ByteArray):Nat→Nat→List Nat
 |0,a=>[Nk s a]
 |k+1,a=>Nk s a::(if bt s (a+1)=44 then C6 s k (a+2) else [])
def Gp (l:List Nat):List Value:=l.map fun (n:Nat)=>Value.int .i64 (n:Int)
theorem qR:(prog.info? 3).map (fun i=>(i.zero,i.size,i.bytes))=some (some (.int .i64 0),1,8):=by kernel_rfl
def iE (B P:Nat)(s:ByteArray)(w:World)(t:TypeId)(c:Array Value)(o a:Nat)(e:Ending)(w':World):Prop :=
 ∃ok a' d,Dh s 5 a=(ok,a')∧e=.returned (.bool ok)∧RP B s a' w'∧Ab (fun k=>k=B∨k=P) w w'∧w'.heap[P]? =some (.cells d t (0,0))∧d.size=c.size ∧
  (ok=true→∃lv,d=c.setIfInBounds o lv∧w'.ownsRow w.heap.size 3 1 lv (C6 s 5 a).length (Gp (C6 s 5 a)))
theorem DV {s:ByteArray}{a a':Nat}(h:Jt s a=(true,a')):a'=a+1:=by
 unfold Jt V0 at h;injection h with b c;have d:a<Eb s 48 57 1 a:=by simpa using b
 have e:=Ln s 48 57 1 a;omega
theorem Br {S:Nat→Prop}{w w':World}{base:Nat}{e:TypeId}{size:Nat}{v:Value}{n:Nat}{xs:List Value}(h:w.ownsRow base e size v n xs)(k:Ab S w w')(a:∀b,v.ownBlock=some b→¬S b):w'.ownsRow base e size v n xs:=by
 refine⟨h.1,?_⟩;rcases h.2 with hn|⟨g,cap,c,rfl,d,hg,f⟩
 ·exact .inl hn
 exact .inr ⟨g,cap,c,rfl,d,(k.block g (Aa hg) (a g rfl)).trans hg,f⟩
theorem Bk {w:World}{base:Nat}{e:TypeId}{size n:Nat}{v:Value}{xs:List Value}(h:w.ownsRow base e size v n xs):∀r,v.ownBlock=some r→base≤r:=by
 rcases h.2 with ⟨rfl,_⟩|⟨g,cap,cur,rfl,hb,_⟩
 ·intro r hr;simp[Value.ownBlock] at hr
 intro r hr;simp[Value.ownBlock] at hr;omega
theorem Lo {w:World}{base:Nat}{e:TypeId}{size n:Nat}{v:Value}{xs:List Value}(h:w.ownsRow base e size v n xs):∀r,v.ownBlock=some r→Is e w r:=by
 rcases h.2 with ⟨rfl,_⟩|⟨g,cap,cur,rfl,hb,hg,_⟩
 ·intro r hr;simp[Value.ownBlock] at hr
 intro r hr;simp[Value.ownBlock] at hr;subst hr;exact⟨_,_,hg⟩
theorem Is.ne {t d:TypeId}{w:World}{b:Nat}{c:Array Value}{e:Nat×Nat}(h:Is t w b)(a:w.heap[b]? =some (.cells c d e)):t=d:=by
 obtain⟨_,_,f⟩:=h;rw[f] at a;injection a with a;injection a
theorem GQ (B P o:Nat)(s:ByteArray)(a:Nat)(c:Array Value)(t:TypeId)(w:World)(I:s.size≤1000)(J:P≠B)(aq:t≠3)(h:RP B s a w)(ab:C2 w P c t)(ac:o<c.size)(ar:c[o]? =some (.slice none 0 0)) :
 Calls prog 146 #[C1 B,.pointer (some ⟨P,o,none⟩)] w (iE B P s w t c o a):=by
 have au:=Ae h;have bn:=Ae ab;have bo:=Aa ab;have bp:=Aa h.2;have bq:=Ae ar;obtain⟨br,bs,bt,bu,bv⟩:=info_parts qR;clear h ab ar;go_enter func146,ntmps146;go_wp21;go_loopg [] 5 (fun k wr=>∃(cs:List Nat) (c1:Nat) (lv:Value) (ad:Int),cs.length+k=5∧xR (RP B s c1 wr)∧xR (C2 wr P (c.setIfInBounds o lv) t)∧xR (C2 wr w.heap.size #[.int .i64 ad] 3)∧xR (wr.ownsRow (w.heap.size+1) 3 1 lv cs.length (Gp cs))∧xR (Ab (fun k=>k=B∨k=P) w wr)∧xR (Dh s k c1=Dh s 5 a)∧xR (cs++C6 s k c1=C6 s 5 a))
 case atStart =>
  refine⟨[],a,.slice none 0 0,0,rfl,⟨au.o.1,(Below.heap_alloc _ _ _ bp).trans au.o.2⟩,?_,heap_alloc_last w _,Ae (World.ownsRow_nil _ _ _ _),Ae ((Ab.refl _ _).alloc _),Ae rfl,Ae rfl⟩;show _=_;rw[Below.heap_alloc _ _ _ bo,bn.o];congr 2;refine Array.ext_getElem? fun i=>?_;rw[vB];by_cases hi:o=i
  ·subst hi;rw[if_pos rfl,if_pos ac,bq.o]
  rw[if_neg hi]
 obtain⟨cs,c1,lv,ad,_,hp,av,aw,ax,bw,K,ae⟩:=hrel;have bx:=Aa av.o;have ck:=Aa aw.o;have bz:P≠w.heap.size:=by omega
 have ay:B≠w.heap.size:=by omega
 go_wp21;go_call Xs B w.heap.size 0 s c1 #[.int .i64 ad] 3 _ I (fun e=>ay e.symm) hp.o aw.o (by simp) as e d ⟨ok2,a2,_,L,rfl,p2,z,c2,az,af⟩;have M:=Ae p2;have A:=Ae L;have p:xR (C2 d P (c.setIfInBounds o lv) t):=(z.block P bx (by omega)).trans av.o;have ag:xR (Ab (fun k=>k=B∨k=P) w d):=bw.o.trans z (fun _ e=>e) (fun i hi e=>by rcases e with e|e;exact .inl e;omega);cases ok2
 ·clear p2 L z c2 az af;go_wp21;go_ret;refine⟨false,a2,_,?_,rfl,M.o,ag.o,p.o,by simp,by simp⟩;rw[←K.o];cases gk with
  |zero=>show B6 _ _ _=_;rw[Fo A.o]
  |succ k=>show B6 _ _ _=_;rw[Fo A.o]
 obtain rfl:=DV L;have C:d.ownsRow (w.heap.size+1) 3 1 lv cs.length (Gp cs):=Br ax.o z (fun b m N=>by
  have u:=Bk ax.o b m;rcases N with rfl|rfl
  ·omega
  omega)
 have O:d.heap[w.heap.size]? =some (.cells #[.int .i64 (Nk s c1:Nat)] 3 (0,0)):=by rw[c2,af rfl];rfl
 have b0:d.cell? ⟨w.heap.size,0,none⟩=some (.int .i64 (Nk s c1:Nat)):=by rw[Af O];rfl
 have a0:d.cell? ⟨P,o,none⟩=some lv:=by rw[Af p.o,vB,if_pos rfl,if_pos ac]
 have a1:d.frozen? ⟨P,o,none⟩=false:=Am p.o _;have ah:P<d.heap.size:=Aa p.o;have b1:B<d.heap.size:=Aa p2.2;have b2:w.heap.size<d.heap.size:=Aa O;have a3:=Ae O;have Q:=Ae C;have a4:∀ob,(d.alloc ob).frozen? ⟨P,o,none⟩=false:=fun ob=>(World.frozen?_alloc_past _ _ _ ah).trans a1;have R:some P≠lv.ownBlock:=fun x=>by have:=Lo C P x.symm;exact aq (this.ne p.o).symm
 have a6:some B≠lv.ownBlock:=fun x=>by have:=Lo C B x.symm;have:=this.ne p2.2;exact absurd this (by decide)
 have a7:some w.heap.size≠lv.ownBlock:=fun x=>by have:=Bk C _ x.symm;omega
 have a8:=Ae R;have a9:=Ae a6;have ba:=Ae a7;generalize bb:Nk s c1=f at *;have ai:=Ae bb;clear p2 L z c2 az af C O bb a6 a7;go_wp21
 go_region_law
  ((refine step_append_lies _ (by rfl) _ _ _ (by rfl) (w.heap.size+1) 3 br _ 1 8 underlying136 bs bt bu bv rfl (by omega) lv cs.length (Gp cs) (by rfl) ((Q.o.alloc _).drew)
     ⟨d.heap.size,0,none⟩ 1 1 [.int .i64 (f:Int)] (by rfl) (by rfl) (World.news_of_block (cs:=#[.int .i64 (f:Int)]) (t:=3) (fr:=(0,0)) (heap_alloc_last d _)) (by intro cl bc;simp at bc;subst bc;rfl)
     (by omega) (by unfold maxLen;omega) (by omega) (by simp;omega) (d.heap.size+1) (by simp) ?_;intro n cap w3 aj S D b3;have b4:C3 w3 P o lv:=(S.cell_far _ (by simp;omega) R).trans ((World.cell?_alloc_past _ _ _ ah).trans a0);have j:w3.frozen? ⟨P,o,none⟩=false:=(S.frozen_far _ (by simp;omega) R).trans (a4 _)))
 all_goals
  have E:Ab (fun k=>lv.ownBlock=some k) d w3:=((((Ab.refl (fun k=>lv.ownBlock=some k) d).alloc _).drew).grown S (fun r hr=>.inr hr));have ak:C2 w3 P (c.setIfInBounds o lv) t:=(E.block P ah (fun e=>a8.o e.symm)).trans p.o;have T:RP B s (c1+1) w3:=⟨M.o.1,(E.block B b1 (fun e=>a9.o e.symm)).trans M.o.2⟩;have al:C2 w3 w.heap.size #[.int .i64 (f:Int)] 3:=(E.block _ b2 (fun e=>ba.o e.symm)).trans a3.o;have bd:Ab (fun k=>k=B∨k=P) w w3:=ag.o.trans E (fun _ e=>e) (fun i hi e=>by have:=Bk Q.o i e;omega);have b5:w.heap.size+1≤n:=by rcases D with D|D;exact Bk Q.o n D;omega
  have b6:n≠P:=fun e=>by subst e;have:=Lo aj n rfl;exact aq (this.ne ak).symm
  obtain⟨l,U⟩:∃l,w3.setCell ⟨P,o,none⟩ (.slice (some ⟨n,0,none⟩) (cs.length+1) cap)=l:=⟨_,rfl⟩;have F:Ab (·=P) w3 l:=by rw[←U];exact (Ab.refl (·=P) w3).setCell (g:=P) (.inr rfl) _
  have V:xR (C2 l P (c.setIfInBounds o (.slice (some ⟨n,0,none⟩) (cs.length+1) cap)) t):=by show _=_;rw[←U,A0 ak];congr 2;simp
  have be:xR (RP B s (c1+1) l):=⟨T.1,(F.block B (Aa T.2) (fun e=>J e.symm)).trans T.2⟩;have bf:xR (C2 l w.heap.size #[.int .i64 (f:Int)] 3):=(F.block _ (Aa al) (fun e=>bz e.symm)).trans al;have W:xR (l.ownsRow (w.heap.size+1) 3 1 (.slice (some ⟨n,0,none⟩) (cs.length+1) cap) (cs++[f]).length (Gp (cs++[f]))):=by have u:=Br aj F (fun b m=>by simp[Value.ownBlock] at m;omega);have e1:Gp (cs++[f])=Gp cs++[.int .i64 (f:Int)]:=(by simp[Gp]);show l.ownsRow _ _ _ _ _ _;rw[e1,tS];exact u
  have bg:xR (Ab (fun k=>k=B∨k=P) w l):=bd.seq (F.mono (fun _ _ e=>.inr e));have cm:l.cell? ⟨P,o,none⟩=some (.slice (some ⟨n,0,none⟩) (cs.length+1) cap):=by rw[Af V.o,vB,if_pos rfl,if_pos ac]
  have bh:P<l.heap.size:=Aa V.o;rw[U];clear b4 j D b3 S aj E ak T al bd b5 b6 U F a0 a1 a4 R b0 a8 a9 ba a3 Q p ag M;cases gk with
  |zero =>
   have bi:cs.length=5:=(by omega);have b7:((cs.length:Int)+1 == 6)=true:=(by simp;omega);have cn:=Ae bi;clear bi;go_wp21;go_call Di B s (c1+1) 93 93 _ I (by omega) rfl be.o as e w5 ⟨bj,a5,q,rfl,v,j⟩;have X:=Ae q;have Y:=Ae v;have G:=Ae ((j.block P bh J).trans V.o);have Z:xR (Ab (fun k=>k=B∨k=P) w w5):=bg.o.seq (j.mono (fun _ _ e=>.inl e));have y:=Ae (Br W.o j (fun b m N=>by have:=Bk W.o b m;omega));clear q v j;go_wp21;go_ret;have b8:cs++[f]=C6 s 5 a:=(by rw[←ae.o];show _=cs++[Nk s c1];rw[ai.o]);refine⟨bj,a5,_,?_,rfl,Y.o,Z.o,G.o,by simp,fun _=>⟨_,rfl,?_⟩⟩
   ·rw[←K.o];show B6 _ _ _=_;rw[Eu A.o];exact X.o
   rw[←b8];exact⟨y.o.1,y.o.2.imp id (fun ⟨g,am,an,u,b9,ao⟩=>⟨g,am,an,u,by omega,ao⟩)⟩
  |succ k =>
   have b7:((cs.length:Int)+1 == 6)=false:=(by simp;omega);go_wp21;go_call Di B s (c1+1) 44 44 _ I (by omega) rfl be.o as e w5 ⟨bj,a5,q,rfl,v,j⟩;have X:=Ae q;have Y:=Ae v;have G:=Ae ((j.block P bh J).trans V.o);have ca:P<w5.heap.size:=Aa G.o;have cb:=Ae ((j.block _ (Aa bf.o) (fun e=>ay e.symm)).trans bf.o);have Z:xR (Ab (fun k=>k=B∨k=P) w w5):=bg.o.seq (j.mono (fun _ _ e=>.inl e));have y:=Ae (Br W.o j (fun b m N=>by have:=Bk W.o b m;omega));rcases V3 q with ⟨rfl,H,rfl⟩|⟨rfl,H,rfl⟩
   ·have ap:xR ((cs++[f])++C6 s k (c1+1+1)=C6 s 5 a):=(by show _=_;rw[←ae.o,C6,if_pos H,ai.o];simp);have cc:xR (Dh s k (c1+1+1)=Dh s 5 a):=(by show _=_;rw[←K.o];show _=B6 _ _ _;rw[Eu A.o,Hp X.o]);clear q v j H;go_wp21;go_roundg k
    case measure=>omega
    exact⟨cs++[f],c1+1+1,_,f,by simp;omega,Y,G,cb,y,Z,cc,ap⟩
   have ap:xR (cs++[f]=C6 s 5 a):=(by show _=_;rw[←ae.o,C6,if_neg H,ai.o]);clear q v j H;go_wp21;go_call Di B s (c1+1) 93 93 _ I (by omega) rfl Y.o as e cd ⟨ce,cf,bk,rfl,bl,aa⟩;have cg:=Ae bk;have ch:=Ae bl;have ci:=Ae ((aa.block P ca J).trans G.o);have cj:xR (Ab (fun k=>k=B∨k=P) w cd):=Z.o.seq (aa.mono (fun _ _ e=>.inl e));have bm:=Ae (Br y.o aa (fun b m N=>by have:=Bk y.o b m;omega));clear bk bl aa;go_wp21;go_ret;refine⟨ce,cf,_,?_,rfl,ch.o,cj.o,ci.o,by simp,fun _=>⟨_,rfl,?_⟩⟩
   ·rw[←K.o];show B6 _ _ _=_;rw[Eu A.o,Ev X.o];exact cg.o
   rw[←ap.o];exact⟨bm.o.1,bm.o.2.imp id (fun ⟨g,am,an,u,b9,ao⟩=>⟨g,am,an,u,by omega,ao⟩)⟩
end Go.Proofs.YtdinjjmcmfjbfaaGreatDoor
