import Derived.Test.YtdinjjmcmfjbfaaGreatDoorTxJ
import Derived.Test.YtdinjjmcmfjbfaaGreatDoorShelfJ
import Derived.Lib.ParseIntBMem
import Derived.Deep.AppendLies
set_option maxRecDepth 100000
set_option maxHeartbeats 4000000
namespace Go.Proofs.YtdinjjmcmfjbfaaGreatDoor
open Go.RowKit
open Mo (V Row)
theorem Es (w:World)(o:Obj):(w.alloc o).heap.size=w.heap.size+1:=by simp
theorem NG (s:ByteArray)(w:World)(_:s.size≤1000):Calls Tryz.prog 124 #[.string s] w fun e w'=>e=.returned (.string s)∧Ab No w w':=by
 go_enter Tryz.func124,Tryz.ntmps124
 go_wp2_with fail
 refine (Tryz.stringslite_Clone s _ (by omega)).mono ?_
 rintro e b ⟨rfl,a⟩;go_wp2_with fail;go_ret
 exact⟨rfl,⟨a.os,a.tape,a.output,a.size,fun i hi _=>a.block i hi⟩⟩
def WP (B P:Nat)(s:ByteArray)(w:World)(r:Bool×Nat)(t:TypeId)(c':Bool→Nat→Array Value)(e:Ending)(w':World):Prop :=
 ∃ok a',r=(ok,a')∧e=.returned (.bool ok)∧RP B s a' w'∧Ab (fun k=>k=B∨k=P) w w'∧w'.heap[P]? =some (.cells (c' ok a') t (0,0))
theorem Rs (B P b f:Nat)(u:Int)(s:ByteArray)(a:Nat)(c:Array Value)(t:TypeId)(w:World)(F:s.size≤1000)(G:f≤10)(H:u=(f:Int))(v:P≠B)(h:RP B s a w)(p:w.heap[P]? =some (.cells c t (0,0)))(I:b<c.size) :
 Calls Tryz.prog 75 #[.pointer (some ⟨B,0,none⟩),.pointer (some ⟨P,b,none⟩),.int .i64 u] w
  (WP B P s w (Pl.Ua s f 97 122 a) t (fun ok a'=>if ok=true then c.setIfInBounds b (.string (s.extract a a')) else c)):=by
 have x:=h.c1;have J:=Ad h;have K:=Ad p;have L:=Aa p;have W:=h.1;subst H;clear h p
 go_enter Tryz.func75,Tryz.ntmps75
 go_wp2_with fail
 refine (N9 B s a f 97 122 (f:Int) 97 122 _ F G (by omega) rfl rfl rfl J.o).mono ?_
 rintro e d ⟨ok,a1,l,rfl,p1,m⟩;have i:oH (d.heap[P]? =some (.cells c t (0,0))):=(m.block P L v).trans K.o;have y:=Ad l
 have z:oH (Ab (fun k=>k=B∨k=P) w d):=m.mono (fun _ _ e=>.inl e)
 have X:a≤a1:=by
  have:=Pl.Mx s 97 122 f a
  unfold Pl.Ua at l;injection l with _ Y;omega
 clear l
 cases ok
 ·have n:=Ad p1
  clear p1 m x;go_wp2_with fail;go_ret
  exact⟨false,a1,y.o,rfl,n.o,z.o,i.o⟩
 ·have A:=p1.c0
  have C:=p1.c1;have M:=p1.1;have n:=Ad p1
  have Z:(0:Int)≤(a:Int):=by omega
  have aa:(a:Int)≤(a1:Int):=by omega
  have ab:(a1:Int)≤(s.size:Int):=by omega
  have D:d.cell? ⟨P,b,none⟩=some c[b]:=by rw[Ae i.o,lE I]
  have E:d.frozen? ⟨P,b,none⟩=false:=Aj i.o b;have q:B<d.heap.size:=Aa n.o.2;have r:P<d.heap.size:=Aa i.o
  have N:(s.extract a a1).size≤1000:=by simp;omega
  clear p1 m x;go_wp2_with fail
  go_region_held3 (fun w'=>w'.cell? ⟨B,0,none⟩=some (.string s)∧w'.cell? ⟨B,1,none⟩=some (.int .i64 (a1:Int))) (go_keep)
   (first
     |(go_at_call 124
       refine (NG (s.extract a a1) _ N).mono ?_;rintro e j ⟨rfl,g⟩;have O:=(g.cell q oI).trans A;have e1:=(g.cell q oI).trans C;have Q:=(g.cell r oI).trans D;have R:j.frozen? ⟨P,b,none⟩=false:=(World.frozen?_of_block (g.block P r oI)).trans E;have S:=Ad g
       clear g))
  have o:Ab No d j:=((Ab.refl No d).drew).seq S.o
  have T:oH (Ab (fun k=>k=B∨k=P) d (j.setCell ⟨P,b,none⟩ (.string (s.extract a a1)))):=(o.any).setCell (.inr (.inr rfl)) _
  have U:oH (j.heap[P]? =some (.cells c t (0,0))):=(o.block P r oI).trans i.o
  have V:oH (RP B s a1 (j.setCell ⟨P,b,none⟩ (.string (s.extract a a1)))) :=
   ⟨M,(Below.heap_setCell _ _ _ _ (fun e=>v e.symm)).trans ((o.block B q oI).trans n.o.2)⟩
  clear A C O e1 D E Q R o;go_wp2_with fail;go_ret
  exact⟨true,a1,y.o,rfl,V.o,z.o.seq T.o,Ap U.o b _⟩
def Rt (c:Array Value)(o:Nat)(v:V):Array Value :=
 (((((c.setIfInBounds o (.int .i32 (kI v))).setIfInBounds (o+1) (.int .u8 (tB v 0))).setIfInBounds (o+2) (.int .u8 (tB v 1))).setIfInBounds (o+3) (.int .u8 (tB v 2))).setIfInBounds (o+4) (.int .u8 (tB v 3))).setIfInBounds (o+5) (.int .i64 (nI v))
theorem L0 (c:Array Value)(o:Nat)(v:V):(Rt c o v).size=c.size:=by simp[Rt]
def w6 (w:World)(P o:Nat)(k t0 t1 t2 t3 n:Int):World :=
 (((((w.setCell ⟨P,o,none⟩ (.int .i32 k)).setCell ⟨P,o+1,none⟩ (.int .u8 t0)).setCell ⟨P,o+2,none⟩ (.int .u8 t1)).setCell ⟨P,o+3,none⟩ (.int .u8 t2)).setCell ⟨P,o+4,none⟩ (.int .u8 t3)).setCell ⟨P,o+5,none⟩ (.int .i64 n)
theorem Pg {S:Nat→Prop}{w:World}{P:Nat}(a:S P)(o:Nat)(k b c d e n:Int):Ab S w (w6 w P o k b c d e n) :=
 (((((((Ab.refl S w).setCell (.inr a) _).setCell (.inr a) _).setCell (.inr a) _).setCell (.inr a) _).setCell (.inr a) _).setCell (.inr a) _)
theorem Zv {w:World}{P:Nat}{c:Array Value}{t:TypeId}(h:w.heap[P]? =some (.cells c t (0,0)))(o:Nat)(v:V):(w6 w P o (kI v) (tB v 0) (tB v 1) (tB v 2) (tB v 3) (nI v)).heap[P]? =some (.cells (Rt c o v) t (0,0)) :=
 Ap (Ap (Ap (Ap (Ap (Ap h _ _) _ _) _ _) _ _) _ _) _ _
def dF (s:ByteArray)(c:Array Value)(o a:Nat)(ok:Bool)(a':Nat):Array Value :=
 if ok=true then Rt c o (.txt (G3 s a a')) else Rt c o (.txt [])
theorem Qh (B P o:Nat)(s:ByteArray)(a:Nat)(c:Array Value)(t:TypeId)(w:World)(H:s.size≤1000)(I:P≠B)(h:RP B s a w)(m:w.heap[P]? =some (.cells c t (0,0)))(_:o+5<c.size) :
 Calls Tryz.prog 125 #[.pointer (some ⟨B,0,none⟩),.pointer (some ⟨P,o,none⟩)] w (WP B P s w (Pl.A5 s a) t (dF s c o a)):=by
 have J:=Ad h;have K:=Ad m;have L:=Aa m;have M:=Aa h.2;have r:RP B s a (w.alloc (.cells #[.string ⟨#[]⟩] 9)):=⟨h.1,(Below.heap_alloc _ _ _ M).trans h.2⟩
 have N:=Ad (Rs B w.heap.size 0 4 4 s a #[.string ⟨#[]⟩] 9 _ H (by omega) rfl (by omega) r (heap_alloc_last w _) (by simp))
 clear h m r
 go_enter Tryz.func125,Tryz.ntmps125
 go_wp2_with fail;refine N.o.mono ?_;rintro e f ⟨ok,g,n,rfl,p2,p,c2⟩
 have u:Ab (fun k=>k=B∨k=P) w f:=((Ab.refl No w).alloc _).any.trans p (fun _ e=>e) (fun i hi e=>by rcases e with e|e;exact .inl e;omega)
 have x:oH (f.heap[P]? =some (.cells c t (0,0))):=by
  refine (p.block P (by rw[Es];omega) (by omega)).trans ((Below.heap_alloc _ _ _ L).trans K.o)
 have O:∃b:ByteArray,f.heap[w.heap.size]? =some (.cells #[.string b] 9 (0,0))∧b.size≤4∧(if ok=true then G3 s a g else [])=b.data.toList:=by
  cases ok
  ·exact⟨⟨#[]⟩,c2,by decide,rfl⟩
  ·have ad:=Pe (s:=s) (k:=4) (lo:=97) (hi:=122) (by omega) J.o.1 n
   refine⟨s.extract a g,c2,?_,rfl⟩
   simp;omega
 obtain⟨b,y,z,A⟩:=O
 have ae:f.cell? ⟨w.heap.size,0,none⟩=some (.string b):=by rw[Ae y];rfl
 have Q:=Ad n;have C:=Ad p2;have R:=Ad u;have T:=Ad A;have U:B<f.heap.size:=Aa p2.2;have W:P<f.heap.size:=Aa x.o;clear n p2 p c2 u y A;go_wp2_with fail;refine (GP b z _).mono ?_;rintro e w3 ⟨rfl,j⟩;have d:oH (w3.heap[P]? =some (.cells c t (0,0))):=(j.block P W oI).trans x.o;have q:oH (RP B s g w3):=⟨C.o.1,(j.block B U oI).trans C.o.2⟩
 have X:oH (Ab (fun k=>k=B∨k=P) w w3):=R.o.Vg j
 have af:w3.cell? ⟨P,o,none⟩=some c[o]:=by rw[Ae d.o,lE (by omega)]
 have ag:w3.cell? ⟨P,o+1,none⟩=some c[o+1]:=by rw[Ae d.o,lE (by omega)]
 have ah:w3.cell? ⟨P,o+2,none⟩=some c[o+2]:=by rw[Ae d.o,lE (by omega)]
 have ai:w3.cell? ⟨P,o+3,none⟩=some c[o+3]:=by rw[Ae d.o,lE (by omega)]
 have aj:w3.cell? ⟨P,o+4,none⟩=some c[o+4]:=by rw[Ae d.o,lE (by omega)]
 have ak:w3.cell? ⟨P,o+5,none⟩=some c[o+5]:=by rw[Ae d.o,lE (by omega)]
 have g0:w3.frozen? ⟨P,o,none⟩=false:=Aj d.o _;have al:w3.frozen? ⟨P,o+1,none⟩=false:=Aj d.o _;have am:w3.frozen? ⟨P,o+2,none⟩=false:=Aj d.o _;have an:w3.frozen? ⟨P,o+3,none⟩=false:=Aj d.o _;have ao:w3.frozen? ⟨P,o+4,none⟩=false:=Aj d.o _;have ap:w3.frozen? ⟨P,o+5,none⟩=false:=Aj d.o _
 have Y:oH (∀v:V,v=.txt b.data.toList→WP B P s w (Pl.A5 s a) t (dF s c o a) (.returned (.bool ok)) (w6 w3 P o (kI v) (tB v 0) (tB v 1) (tB v 2) (tB v 3) (nI v))):=by
  rintro v rfl
  refine⟨ok,g,Q.o,rfl,⟨q.o.1,((Pg (S:=(·=P)) rfl o _ _ _ _ _ _).block B (Aa q.o.2) (fun e=>I e.symm)).trans q.o.2⟩,X.o.seq (Pg (.inr rfl) o _ _ _ _ _ _),?_⟩
  have e:dF s c o a ok g=Rt c o (.txt b.data.toList):=by
   rw[←T.o]
   cases ok
   ·exact if_neg (by simp)
   ·exact if_pos rfl
  rw[e]
  exact Zv d.o o _
 clear j z;generalize D:tB (.txt b.data.toList) 0=Z at *;generalize E:tB (.txt b.data.toList) 1=aa at *;generalize F:tB (.txt b.data.toList) 2=ab at *;generalize G:tB (.txt b.data.toList) 3=ac at *;have l:oH (tB (.txt b.data.toList) 0=Z∧tB (.txt b.data.toList) 1=aa∧tB (.txt b.data.toList) 2=ab∧tB (.txt b.data.toList) 3=ac):=⟨D,E,F,G⟩;clear D E F G;go_wp2_with fail;go_ret
 have:=Y.o _ rfl
 rw[l.o.1,l.o.2.1,l.o.2.2.1,l.o.2.2.2] at this
 exact this
theorem GQ (w:World)(e:TypeId)(t:ByteArray):Ab No w (Lib.bytesWorld w e t):=⟨rfl,rfl,rfl,by rw[Lib.bytesWorld_size];omega,fun i hi _=>Lib.bytesWorld_at_old w e t i hi⟩
theorem Ru {s:ByteArray}{a b:Nat}(e:b≤s.size)(h:a<b):∃c,G3 s a b=c::G3 s (a+1) b∧c.toNat=Pl.bt s a:=by
 have d:a<(s.data.toList.take b).length:=by rw[lV,Lr];omega
 refine⟨(s.data.toList.take b)[a],?_,?_⟩
 ·rw[My,My,mC d]
 ·have f:(G3 s a b)[0]? =some (s.data.toList.take b)[a]:=by rw[My,mC d];rfl
  have:=(KS e f).2
  simpa using this
theorem Zw (s:ByteArray)(a:Nat):G3 s a a=[]:=by rw[My];exact nO (by rw[lV];omega)
theorem CE {s:ByteArray}{a a':Nat}(c:a≤s.size)(h:Pl.Lw s a=(true,a')):a<a'∧a'≤s.size∧SC (G3 s a a'):=by
 unfold Pl.Lw at h
 split at h
 ·cases h
 ·obtain⟨d,b,_,f⟩:=Pe (by omega) c h
  refine⟨d,b,?_,?_,f⟩
  ·intro e;have:=Rn (s:=s) (a:=a) b;rw[e] at this;simp at this;omega
  ·rw[Rn b];omega
theorem Oa {s:ByteArray}{a a':Nat}(p:a≤s.size)(h:Pl.Cl s a=(true,a')):a<a'∧a'≤s.size∧Zs (G3 s a a'):=by
 unfold Pl.Cl Pl.Je at h
 by_cases i:Pl.bt s a=45
 ·have e:Pl.tk s 45 a=(true,a+1):=by unfold Pl.tk;rw[if_pos i]
  rw[e] at h
  have q:=Pl.B4 (s:=s) (a:=a) (by omega)
  obtain⟨l,g,j⟩:=CE (by omega) (show Pl.Lw s (a+1)=(true,a') by simpa using h)
  obtain⟨c,d,m⟩:=Ru g (show a<a' by omega)
  refine⟨by omega,g,.inr ⟨_,?_,j⟩⟩
  rw[d]
  have:c=45:=nA.1 (by rw[m,i];rfl)
  rw[this]
 ·have e:Pl.tk s 45 a=(false,a):=by unfold Pl.tk;rw[if_neg i]
  rw[e] at h
  have f:Pl.Qs (Pl.tk s 48) (Pl.Lw s) a=(true,a'):=by simpa using h
  unfold Pl.Qs at f
  by_cases n:Pl.bt s a=48
  ·have k:Pl.tk s 48 a=(true,a+1):=by unfold Pl.tk;rw[if_pos n]
   rw[k] at f
   have:a'=a+1:=by simpa using f.symm
   subst this
   have q:=Pl.B4 (s:=s) (a:=a) (by omega)
   obtain⟨c,d,m⟩:=Ru (s:=s) (a:=a) (b:=a+1) (by omega) (by omega)
   refine⟨by omega,by omega,.inl ⟨?_,?_,?_⟩⟩
   ·rw[d];simp
   ·rw[d,Zw];simp
   ·rw[d,Zw];intro x o;simp at o;subst o;unfold Vi;omega
  ·have k:Pl.tk s 48 a=(false,a):=by unfold Pl.tk;rw[if_neg n]
   rw[k] at f
   obtain⟨l,g,j⟩:=CE p (show Pl.Lw s a=(true,a') by simpa using f)
   exact⟨l,g,.inl j⟩
def gJ (s:ByteArray)(c:Array Value)(o a:Nat)(ok:Bool)(a':Nat):Array Value :=
 if ok=true then Rt c o (.num (Gb (G3 s a a'))) else c
theorem Ns (B P o:Nat)(s:ByteArray)(a:Nat)(c:Array Value)(t:TypeId)(w:World)(L:s.size≤1000)(y:P≠B)(h:RP B s a w)(p:w.heap[P]? =some (.cells c t (0,0)))(_:o+5<c.size) :
 Calls Tryz.prog 126 #[.pointer (some ⟨B,0,none⟩),.pointer (some ⟨P,o,none⟩)] w (WP B P s w (Pl.Cl s a) t (gJ s c o a)):=by
 have z:=h.c1;have M:=Ad h;have N:=Ad p;have O:=Aa p;have Q:=h.1;clear h p
 go_enter Tryz.func126,Tryz.ntmps126
 go_wp2_with fail;refine (CB B s a _ L M.o).mono ?_;rintro e f ⟨ok,a1,i,rfl,p1,j⟩;have q:oH (f.heap[P]? =some (.cells c t (0,0))):=(j.block P O y).trans N.o;have A:=Ad i
 have C:oH (Ab (fun k=>k=B∨k=P) w f):=j.mono (fun _ _ e=>.inl e)
 cases ok
 ·have l:=Ad p1
  clear p1 j z i;go_wp2_with fail;go_ret
  exact⟨false,a1,A.o,rfl,l.o,C.o,q.o⟩
 ·obtain⟨_,D,E⟩:=Oa Q i
  have F:=Ad (SD E);have G:=p1.c0;have H:=p1.c1;have l:=Ad p1
  have aa:(0:Int)≤(a:Int):=by omega
  have ab:(a:Int)≤(a1:Int):=by omega
  have ac:(a1:Int)≤(s.size:Int):=by omega
  have r:B<f.heap.size:=Aa l.o.2;have R:P<f.heap.size:=Aa q.o
  have T:(s.extract a a1).size≤9223372036854775806:=by simp;omega
  clear p1 j z i E;go_wp2_with fail
  go_region_held3 (fun w'=>w'.cell? ⟨B,0,none⟩=some (.string s)∧w'.cell? ⟨B,1,none⟩=some (.int .i64 (a1:Int))) (go_keep)
   (first
     |(go_at_call 162
       refine (Tryz.strconv_ParseInt_10_at64_ok (s.extract a a1) T (Gb (G3 s a a1)) F.o _).mono ?_;rintro e g ⟨rfl,I⟩
       have m:Ab No f g:=by
        rcases I with rfl|⟨_,rfl⟩
        ·exact (Ab.refl No f).drew
        ·exact ((Ab.refl No f).drew).seq (GQ _ _ _)
       have U:=(m.cell r oI).trans G;have e1:=(m.cell r oI).trans H;have u:=Ad m
       clear m I))
  have J:oH (g.heap[P]? =some (.cells c t (0,0))):=(u.o.block P R oI).trans q.o;have K:oH (RP B s a1 g):=⟨D,(u.o.block B r oI).trans l.o.2⟩;clear G H U e1
  obtain⟨d,v⟩:∃d,Gb (G3 s a a1)=d:=⟨_,rfl⟩
  have V:=Ad v
  rw[v]
  clear v F;have W:P<g.heap.size:=Aa J.o;have X:B<g.heap.size:=Aa K.o.2;go_wp2_with fail;refine (Rr d _).mono ?_;rintro e w3 ⟨rfl,n⟩;have b:oH (w3.heap[P]? =some (.cells c t (0,0))):=(n.block P W oI).trans J.o;have x:oH (RP B s a1 w3):=⟨D,(n.block B X oI).trans K.o.2⟩
  have Y:oH (Ab (fun k=>k=B∨k=P) w w3):=(C.o.Vg u.o).Vg n
  have ad:w3.cell? ⟨P,o,none⟩=some c[o]:=by rw[Ae b.o,lE (by omega)]
  have ae:w3.cell? ⟨P,o+1,none⟩=some c[o+1]:=by rw[Ae b.o,lE (by omega)]
  have af:w3.cell? ⟨P,o+2,none⟩=some c[o+2]:=by rw[Ae b.o,lE (by omega)]
  have ag:w3.cell? ⟨P,o+3,none⟩=some c[o+3]:=by rw[Ae b.o,lE (by omega)]
  have ah:w3.cell? ⟨P,o+4,none⟩=some c[o+4]:=by rw[Ae b.o,lE (by omega)]
  have ai:w3.cell? ⟨P,o+5,none⟩=some c[o+5]:=by rw[Ae b.o,lE (by omega)]
  have g0:w3.frozen? ⟨P,o,none⟩=false:=Aj b.o _;have aj:w3.frozen? ⟨P,o+1,none⟩=false:=Aj b.o _;have ak:w3.frozen? ⟨P,o+2,none⟩=false:=Aj b.o _;have al:w3.frozen? ⟨P,o+3,none⟩=false:=Aj b.o _;have am:w3.frozen? ⟨P,o+4,none⟩=false:=Aj b.o _;have an:w3.frozen? ⟨P,o+5,none⟩=false:=Aj b.o _;clear n;go_wp2_with fail;go_ret
  have Z:WP B P s w (Pl.Cl s a) t (gJ s c o a) (.returned (.bool true)) (w6 w3 P o (kI (.num d)) (tB (.num d) 0) (tB (.num d) 1) (tB (.num d) 2) (tB (.num d) 3) (nI (.num d))):=by
   refine⟨true,a1,A.o,rfl,⟨x.o.1,((Pg (S:=(·=P)) rfl o _ _ _ _ _ _).block B (Aa x.o.2) (fun e=>y e.symm)).trans x.o.2⟩,Y.o.seq (Pg (.inr rfl) o _ _ _ _ _ _),?_⟩
   rw[Zv b.o o]
   unfold gJ;rw[if_pos rfl,V.o]
  exact Z
def Kw (s:ByteArray)(a:Nat):Nat:=Pl.bt s a-48
def BP (s:ByteArray)(a:Nat):Nat:=if Pl.bt s a=60 then 0 else if Pl.bt s a=61 then 1 else 2
def WQ (B P:Nat)(s:ByteArray)(w:World)(r:Bool×Nat)(t:TypeId)(n:Nat)(c':Array Value)(e:Ending)(w':World):Prop :=
 ∃ok a' d,r=(ok,a')∧e=.returned (.bool ok)∧RP B s a' w'∧Ab (fun k=>k=B∨k=P) w w'∧w'.heap[P]? =some (.cells d t (0,0))∧d.size=n∧(ok=true→d=c')
theorem Vj (B P o:Nat)(s:ByteArray)(a:Nat)(c:Array Value)(t:TypeId)(w:World)(v:s.size≤1000)(n:P≠B)(h:RP B s a w)(l:w.heap[P]? =some (.cells c t (0,0)))(x:o<c.size) :
 Calls Tryz.prog 172 #[.pointer (some ⟨B,0,none⟩),.pointer (some ⟨P,o,none⟩)] w (WQ B P s w (Pl.Hr s a) t c.size (c.setIfInBounds o (.int .i64 (Kw s a:Nat)))):=by
 have p:=h.c1;have y:=Ad h;have z:=Ad l;have A:=Aa l;have D:=h.1;clear h l
 go_enter Tryz.func172,Tryz.ntmps172
 go_wp2_with fail
 refine (N9 B s a 1 48 57 1 48 57 _ v (by omega) (by omega) rfl rfl rfl y.o).mono ?_
 rintro e b ⟨ok,a1,d,rfl,p1,f⟩;have g:oH (b.heap[P]? =some (.cells c t (0,0))):=(f.block P A n).trans z.o
 have q:oH (Ab (fun k=>k=B∨k=P) w b):=f.mono (fun _ _ e=>.inl e)
 have r:=Ad d
 cases ok
 ·have i:=Ad p1
  clear p1 f p d;go_wp2_with fail;go_ret
  exact⟨false,a1,c,r.o,rfl,i.o,q.o,g.o,rfl,by simp⟩
 ·have hr:48≤Pl.bt s a∧Pl.bt s a≤57:=by
   have u:=d;unfold Pl.Ua at u
   injection u with C _
   have m:a<Pl.Dk s 48 57 1 a:=by simpa using C
   exact Mz s 48 57 1 a a (kZ _) m
  have m:a<s.size:=Pl.B4 (by omega)
  have j:Pl.bt s a=s[a].toNat:=by unfold Pl.bt;rw[dif_pos m]
  have hg:oH ((Kw s a:Int)=(s[a].toNat:Int)-48):=by show _=_;unfold Kw;rw[j] at hr⊢;omega
  have E:(0:Int)≤(a:Int):=by omega
  have F:(a:Int)<(s.size:Int):=by omega
  have G:=p1.c0;have i:=Ad p1
  have H:b.cell? ⟨P,o,none⟩=some c[o]:=by rw[Ae g.o,lE x]
  have I:b.frozen? ⟨P,o,none⟩=false:=Aj g.o o
  have J:0≤(s[a].toNat:Int)-48:=by rw[j] at hr;omega
  have K:(s[a].toNat:Int)-48≤255:=by rw[j] at hr;omega
  have L:IntKind.u8.wrap ((s[a].toNat:Int)-48)=(s[a].toNat:Int)-48:=by
   have e1:IntKind.u8.wrap ((s[a].toNat:Int)-48)=((s[a].toNat:Int)-48) % 256:=by simp[IntKind.wrap,IntKind.signed,IntKind.bits]
   rw[e1];omega
  clear p1 f p d j hr;go_wp2_with fail;go_ret
  refine⟨true,a1,_,r.o,rfl,⟨i.o.1,(Below.heap_setCell _ _ _ _ (fun e=>n e.symm)).trans i.o.2⟩,q.o.setCell (.inr (.inr rfl)) _,Ap g.o o _,by simp,fun _=>?_⟩
  rw[hg.o]
theorem D6 (B P o:Nat)(s:ByteArray)(a:Nat)(c:Array Value)(t:TypeId)(w:World)(n:s.size≤1000)(f:P≠B)(h:RP B s a w)(b:w.heap[P]? =some (.cells c t (0,0)))(p:o+1<c.size) :
 Calls Tryz.prog 143 #[.pointer (some ⟨B,0,none⟩),.pointer (some ⟨P,o,none⟩)] w (WQ B P s w (Pl.Hr s a) t c.size ((c.setIfInBounds o (.bool true)).setIfInBounds (o+1) (.int .i64 (Kw s a:Nat)))):=by
 have C:=Ad h
 have q:w.cell? ⟨P,o,none⟩=some c[o]:=by rw[Ae b,lE (by omega)]
 have r:w.frozen? ⟨P,o,none⟩=false:=Aj b o
 have g:RP B s a (w.setCell ⟨P,o,none⟩ (.bool true)):=⟨h.1,(Below.heap_setCell _ _ _ _ (fun e=>f e.symm)).trans h.2⟩
 have u:=Ad (Vj B P (o+1) s a (c.setIfInBounds o (.bool true)) t _ n f g (Ap b o _) (by simpa using p))
 have v:oH (Ab (fun k=>k=B∨k=P) w (w.setCell ⟨P,o,none⟩ (.bool true))):=(Ab.refl _ _).setCell (.inr (.inr rfl)) _
 clear h b g
 go_enter Tryz.func143,Tryz.ntmps143
 go_wp2_with fail;refine u.o.mono ?_;rintro e D ⟨ok,a1,d,i,rfl,p1,j,c1,l,m⟩;have x:=Ad i;have y:=Ad p1;have z:=Ad j;have A:=Ad c1
 have HD:oH (d.size=c.size∧(ok=true→d=(c.setIfInBounds o (.bool true)).setIfInBounds (o+1) (.int .i64 (Kw s a:Nat)))):=⟨by simpa using l,m⟩
 clear i p1 j c1 l m q r;go_wp2_with fail;go_ret
 exact⟨ok,a1,d,x.o,rfl,y.o,v.o.seq z.o,A.o,HD.o.1,HD.o.2⟩
theorem Zx:∀n:Fin 256,Lib.indexByte [60,61,33] (n.val).toUInt8=if n.val=60 then 0 else if n.val=61 then 1 else if n.val=33 then 2 else -1:=by decide +kernel
theorem CF (s:ByteArray)(a:Nat):Lib.indexByte [60,61,33] ((Pl.bt s a:Int)).toNat.toUInt8=if Pl.bt s a=60 then 0 else if Pl.bt s a=61 then 1 else if Pl.bt s a=33 then 2 else -1:=by
 rw[Int.toNat_natCast];exact Zx ⟨Pl.bt s a,Pl.MX s a⟩
theorem Vk (B P o:Nat)(s:ByteArray)(a:Nat)(c:Array Value)(t:TypeId)(w:World)(u:s.size≤1000)(g:P≠B)(h:RP B s a w)(i:w.heap[P]? =some (.cells c t (0,0)))(v:o<c.size) :
 Calls Tryz.prog 144 #[.pointer (some ⟨B,0,none⟩),.pointer (some ⟨P,o,none⟩)] w (WQ B P s w (Pl.Hu s a) t c.size (c.setIfInBounds o (.int .i64 (BP s a:Nat)))):=by
 have x:=Ad h;have y:=Ad i;have z:=Aa i;clear h i;have m:=CF s a
 go_enter Tryz.func144,Tryz.ntmps144
 go_wp2_with fail;refine (E7 B s a _ u x.o).mono ?_;rintro e d ⟨rfl,p1,j⟩;have f:oH (d.heap[P]? =some (.cells c t (0,0))):=(j.block P z g).trans y.o
 have n:oH (Ab (fun k=>k=B∨k=P) w d):=j.mono (fun _ _ e=>.inl e)
 have C:=p1.c1;have D:=p1.f1
 have E:d.cell? ⟨P,o,none⟩=some c[o]:=by rw[Ae f.o,lE v]
 have F:d.frozen? ⟨P,o,none⟩=false:=Aj f.o o;have p:=Ad p1;clear p1 j;go_wp2_with fail;refine (Tryz.strings_IndexByte _ _ _).mono ?_;rintro e A ⟨rfl,rfl⟩
 have q:Lib.indexByte (⟨#[60,61,33]⟩:ByteArray).data.toList ((Pl.bt s a:Int)).toNat.toUInt8=if Pl.bt s a=60 then 0 else if Pl.bt s a=61 then 1 else if Pl.bt s a=33 then 2 else -1:=m
 rw[q]
 clear m q
 by_cases b:Pl.bt s a=60∨Pl.bt s a=61∨Pl.bt s a=33
 ·have l:oH (Pl.Hu s a=(true,a+1)):=by show _=_;unfold Pl.Hu;rw[if_pos b]
  have G:=Pl.B4 (s:=s) (a:=a) (by omega)
  have hv:(if Pl.bt s a=60 then (0:Int) else if Pl.bt s a=61 then 1 else if Pl.bt s a=33 then 2 else -1)=(BP s a:Int):=by
   unfold BP;rcases b with b|b|b <;> simp[b]
  rw[hv]
  have H:decide ((BP s a:Int)<0)=false:=by simp
  generalize r:BP s a=I at *;have J:=Ad r;clear b hv r;go_wp2_with fail;go_ret
  have hr:RP B s (a+1) (A.setCell ⟨B,1,none⟩ (.int .i64 ((a:Int)+1))):=p.o.set (by omega)
  refine⟨true,a+1,_,l.o,rfl,⟨hr.1,(Below.heap_setCell _ _ _ _ (fun e=>g e.symm)).trans hr.2⟩,(n.o.setCell (.inr (.inl rfl)) _).setCell (.inr (.inr rfl)) _,Ap ((Below.heap_setCell _ _ _ _ g).trans f.o) o _,by simp,fun _=>rfl⟩
 ·have l:oH (Pl.Hu s a=(false,a)):=by show _=_;unfold Pl.Hu;rw[if_neg b]
  have hv:(if Pl.bt s a=60 then (0:Int) else if Pl.bt s a=61 then 1 else if Pl.bt s a=33 then 2 else -1)= -1:=by
   rw[if_neg (by omega),if_neg (by omega),if_neg (by omega)]
  rw[hv]
  clear b hv;go_wp2_with fail;go_ret
  exact⟨false,a,c,l.o,rfl,p.o,n.o,f.o,rfl,by simp⟩
def ZA (s:ByteArray)(c:Array Value)(o a:Nat):Array Value :=
 if Pl.bt s a=35 then Rt c (o+2) (.num (Gb (G3 s (a+1) (Pl.Cl s (a+1)).2)))
 else if Pl.bt s a=36 then Rt c (o+2) (.txt (G3 s (a+1) (Pl.A5 s (a+1)).2))
 else (c.setIfInBounds o (.bool true)).setIfInBounds (o+1) (.int .i64 (Kw s a:Nat))
theorem Rv {s:ByteArray}{c a a':Nat}{ok:Bool}(h:Pl.tk s c a=(ok,a')):(ok=true∧Pl.bt s a=c∧a+1=a')∨(ok=false∧Pl.bt s a≠c∧a=a'):=by
 unfold Pl.tk at h
 by_cases b:Pl.bt s a=c
 ·rw[if_pos b] at h;injection h with d e;exact .inl ⟨d.symm,b,e⟩
 ·rw[if_neg b] at h;injection h with d e;exact .inr ⟨d.symm,b,e⟩
theorem CG (B P o:Nat)(s:ByteArray)(a:Nat)(c:Array Value)(t:TypeId)(w:World)(f:s.size≤1000)(g:P≠B)(h:RP B s a w)(C:w.heap[P]? =some (.cells c t (0,0)))(_:o+7<c.size) :
 Calls Tryz.prog 145 #[.pointer (some ⟨B,0,none⟩),.pointer (some ⟨P,o,none⟩)] w (WQ B P s w (Pl.Hv s a) t c.size (ZA s c o a)):=by
 have V:=Ad h;have W:=Ad C;have X:=Aa C;clear h C
 go_enter Tryz.func145,Tryz.ntmps145
 go_wp2_with fail
 refine (A4 B s a 35 35 _ f (by omega) rfl V.o).mono ?_
 rintro e M ⟨ok1,a1,i,rfl,p1,j⟩;have D:oH (M.heap[P]? =some (.cells c t (0,0))):=(j.block P X g).trans W.o
 have N:oH (Ab (fun k=>k=B∨k=P) w M):=j.mono (fun _ _ e=>.inl e)
 have O:=Ad p1;have Y:=Aa D.o;have E:=Ad i
 rcases Rv i with ⟨rfl,b,rfl⟩|⟨rfl,b,rfl⟩
 ·have l:oH (ZA s c o a=Rt c (o+2) (.num (Gb (G3 s (a+1) (Pl.Cl s (a+1)).2)))):=by show _=_;unfold ZA;rw[if_pos b]
  clear p1 j i b;go_wp2_with fail
  refine (Ns B P (o+2) s (a+1) c t _ f g O.o D.o (by omega)).mono ?_
  rintro e F ⟨ok2,G,d,rfl,p2,Q,c2⟩;have m:=Ad d;have x:=Ad p2;have Z:=Ad Q;have aa:=Ad c2;clear d p2 Q c2;go_wp2_with fail;go_ret
  refine⟨ok2,G,_,?_,rfl,x.o,N.o.seq Z.o,aa.o,?_,fun n=>?_⟩
  ·unfold Pl.Hv;rw[Pl.Gk E.o];exact m.o
  ·unfold gJ;split
   ·exact L0 _ _ _
   ·rfl
  ·subst n
   have H:(Pl.Cl s (a+1)).2=G:=by rw[m.o]
   rw[l.o,H];exact if_pos rfl
 ·go_wp2_with fail
  refine (A4 B s a 36 36 _ f (by omega) rfl O.o).mono ?_
  rintro e F ⟨ok2,G,d,rfl,p2,y⟩;have R:oH (F.heap[P]? =some (.cells c t (0,0))):=(y.block P Y g).trans D.o
  have S:oH (Ab (fun k=>k=B∨k=P) w F):=N.o.seq (y.mono (fun _ _ e=>.inl e))
  have x:=Ad p2;have m:=Ad d
  rcases Rv d with ⟨rfl,p,rfl⟩|⟨rfl,p,rfl⟩
  ·have l:oH (ZA s c o a=Rt c (o+2) (.txt (G3 s (a+1) (Pl.A5 s (a+1)).2))):=by show _=_;unfold ZA;rw[if_neg b,if_pos p]
   clear p1 j i b p2 y d p;go_wp2_with fail
   refine (Qh B P (o+2) s (a+1) c t _ f g x.o R.o (by omega)).mono ?_
   rintro e w3 ⟨I,z,q,rfl,r,u,v⟩;have A:=Ad q;have J:=Ad r;have K:=Ad u;have L:=Ad v;clear q r u v;go_wp2_with fail;go_ret
   refine⟨I,z,_,?_,rfl,J.o,S.o.seq K.o,L.o,?_,fun n=>?_⟩
   ·unfold Pl.Hv;rw[Pl.D1 E.o,Pl.Gk m.o];exact A.o
   ·unfold dF;split <;> exact L0 _ _ _
   ·subst n
    have H:(Pl.A5 s (a+1)).2=z:=by rw[A.o]
    rw[l.o,H];exact if_pos rfl
  ·have l:oH (ZA s c o a=(c.setIfInBounds o (.bool true)).setIfInBounds (o+1) (.int .i64 (Kw s a:Nat))):=by show _=_;unfold ZA;rw[if_neg b,if_neg p]
   clear p1 j i b p2 y d p;go_wp2_with fail
   refine (D6 B P o s a c t _ f g x.o R.o (by omega)).mono ?_
   rintro e w3 ⟨I,z,ab,q,rfl,r,u,v,T,U⟩;have A:=Ad q;have J:=Ad r;have K:=Ad u;have L:=Ad v;have HD:=Ad (And.intro T U);clear q r u v T U;go_wp2_with fail;go_ret
   refine⟨I,z,ab,?_,rfl,J.o,S.o.seq K.o,L.o,HD.o.1,fun n=>?_⟩
   ·unfold Pl.Hv;rw[Pl.D1 E.o,Pl.D1 m.o];exact A.o
   ·rw[l.o];exact HD.o.2 n
def dG (s:ByteArray)(c:Array Value)(o a:Nat):Array Value :=
 if Pl.bt s a=115 then (c.setIfInBounds o (.bool true)).setIfInBounds (o+1) (.int .i64 (Kw s (a+1):Nat)) else Rt c (o+2) (.num 1)
def iV (s:ByteArray)(a:Nat):Bool×Nat:=Pl.Je (Pl.tk s 115) (Pl.Hr s) (Pl.tk s 110) a
theorem Vl (B P o:Nat)(s:ByteArray)(a:Nat)(c:Array Value)(t:TypeId)(w:World)(l:s.size≤1000)(f:P≠B)(h:RP B s a w)(m:w.heap[P]? =some (.cells c t (0,0)))(_:o+7<c.size) :
 Calls Tryz.prog 147 #[.pointer (some ⟨B,0,none⟩),.pointer (some ⟨P,o,none⟩)] w (WQ B P s w (iV s a) t c.size (dG s c o a)):=by
 have L:=Ad h;have M:=Ad m;have N:=Aa m;clear h m
 go_enter Tryz.func147,Tryz.ntmps147
 go_wp2_with fail
 refine (A4 B s a 115 115 _ l (by omega) rfl L.o).mono ?_
 rintro e n ⟨ok1,a1,g,rfl,p1,i⟩;have p:oH (n.heap[P]? =some (.cells c t (0,0))):=(i.block P N f).trans M.o
 have y:oH (Ab (fun k=>k=B∨k=P) w n):=i.mono (fun _ _ e=>.inl e)
 have q:=Ad p1;have O:=Aa p.o;have Q:B<n.heap.size:=Aa p1.2;have z:=Ad g
 rcases Rv g with ⟨rfl,d,rfl⟩|⟨rfl,d,rfl⟩
 ·have r:oH (dG s c o a=(c.setIfInBounds o (.bool true)).setIfInBounds (o+1) (.int .i64 (Kw s (a+1):Nat))):=by show _=_;unfold dG;rw[if_pos d]
  clear p1 i g d;go_wp2_with fail
  refine (D6 B P o s (a+1) c t _ l f q.o p.o (by omega)).mono ?_
  rintro e w3 ⟨R,T,U,A,rfl,C,D,E,F,G⟩;have V:=Ad A;have W:=Ad C;have X:=Ad D;have Y:=Ad E;have HD:=Ad (And.intro F G);clear A C D E F G;go_wp2_with fail;go_ret
  refine⟨R,T,U,?_,rfl,W.o,y.o.seq X.o,Y.o,HD.o.1,fun Z=>?_⟩
  ·unfold iV;rw[Pl.Gk z.o];exact V.o
  ·rw[r.o];exact HD.o.2 Z
 ·have r:oH (dG s c o a=Rt c (o+2) (.num 1)):=by show _=_;unfold dG;rw[if_neg d]
  clear p1 i g d;go_wp2_with fail;refine (Rr 1 _).mono ?_;rintro e w3 ⟨rfl,j⟩;have b:oH (w3.heap[P]? =some (.cells c t (0,0))):=(j.block P O oI).trans p.o;have u:oH (RP B s a w3):=⟨q.o.1,(j.block B Q oI).trans q.o.2⟩
  have aa:oH (Ab (fun k=>k=B∨k=P) w w3):=y.o.Vg j
  have ab:w3.cell? ⟨P,o+2,none⟩=some c[o+2]:=by rw[Ae b.o,lE (by omega)]
  have ac:w3.cell? ⟨P,o+2+1,none⟩=some c[o+2+1]:=by rw[Ae b.o,lE (by omega)]
  have ad:w3.cell? ⟨P,o+2+2,none⟩=some c[o+2+2]:=by rw[Ae b.o,lE (by omega)]
  have ae:w3.cell? ⟨P,o+2+3,none⟩=some c[o+2+3]:=by rw[Ae b.o,lE (by omega)]
  have af:w3.cell? ⟨P,o+2+4,none⟩=some c[o+2+4]:=by rw[Ae b.o,lE (by omega)]
  have ag:w3.cell? ⟨P,o+2+5,none⟩=some c[o+2+5]:=by rw[Ae b.o,lE (by omega)]
  have g0:w3.frozen? ⟨P,o+2,none⟩=false:=Aj b.o _;have ah:w3.frozen? ⟨P,o+2+1,none⟩=false:=Aj b.o _;have ai:w3.frozen? ⟨P,o+2+2,none⟩=false:=Aj b.o _;have aj:w3.frozen? ⟨P,o+2+3,none⟩=false:=Aj b.o _;have ak:w3.frozen? ⟨P,o+2+4,none⟩=false:=Aj b.o _;have al:w3.frozen? ⟨P,o+2+5,none⟩=false:=Aj b.o _
  have H:oH (RP B s a (w6 w3 P (o+2) (kI (.num 1)) (tB (.num 1) 0) (tB (.num 1) 1) (tB (.num 1) 2) (tB (.num 1) 3) (nI (.num 1)))) :=
   ⟨u.o.1,((Pg (S:=(·=P)) rfl (o+2) _ _ _ _ _ _).block B (Aa u.o.2) (fun e=>f e.symm)).trans u.o.2⟩
  have v:=Ad (Zv b.o (o+2) (.num 1))
  have I:oH (Ab (fun k=>k=B∨k=P) w (w6 w3 P (o+2) (kI (.num 1)) (tB (.num 1) 0) (tB (.num 1) 1) (tB (.num 1) 2) (tB (.num 1) 3) (nI (.num 1)))):=aa.o.seq (Pg (.inr rfl) (o+2) _ _ _ _ _ _)
  clear j;go_wp2_with fail
  refine (A4 B s a 110 110 _ l (by omega) rfl H.o).mono ?_
  rintro e w4 ⟨am,an,J,rfl,K,x⟩;have ao:=Ad ((x.block P (Aa v.o) f).trans v.o)
  have ap:oH (Ab (fun k=>k=B∨k=P) w w4):=I.o.seq (x.mono (fun _ _ e=>.inl e))
  have aq:=Ad K;have ar:=Ad J;clear J K x ab ac ad ae af ag g0 ah ai aj ak al H v I;go_wp2_with fail;go_ret
  refine⟨am,an,_,?_,rfl,aq.o,ap.o,ao.o,L0 _ _ _,fun _=>r.o.symm⟩
  unfold iV;rw[Pl.D1 z.o];exact ar.o
def Ct (s:ByteArray):Nat→Nat→List Nat
 |0,a=>[Kw s a]
 |k+1,a=>Kw s a::(if Pl.bt s (a+1)=44 then Ct s k (a+2) else [])
def Fj (l:List Nat):List Value:=l.map fun (n:Nat)=>Value.int .i64 (n:Int)
theorem gK:(Tryz.prog.info? 3).map (fun i=>(i.zero,i.size,i.bytes))=some (some (.int .i64 0),1,8):=by kernel_rfl
def ZB (B P:Nat)(s:ByteArray)(w:World)(t:TypeId)(c:Array Value)(o a:Nat)(e:Ending)(w':World):Prop :=
 ∃ok a' d,Pl.C9 s 5 a=(ok,a')∧e=.returned (.bool ok)∧RP B s a' w'∧Ab (fun k=>k=B∨k=P) w w'∧w'.heap[P]? =some (.cells d t (0,0))∧d.size=c.size ∧
  (ok=true→∃lv,d=c.setIfInBounds o lv∧w'.ownsRow w.heap.size 3 1 lv (Ct s 5 a).length (Fj (Ct s 5 a)))
theorem Zy {s:ByteArray}{a a':Nat}(h:Pl.Hr s a=(true,a')):a'=a+1:=by
 unfold Pl.Hr Pl.Ua at h
 injection h with b c
 have d:a<Pl.Dk s 48 57 1 a:=by simpa using b
 have e:=J7 s 48 57 1 a;omega
theorem A1 {S:Nat→Prop}{w w':World}{base:Nat}{e:TypeId}{size:Nat}{v:Value}{n:Nat}{xs:List Value}(h:w.ownsRow base e size v n xs)(k:Ab S w w')(a:∀b,v.ownBlock=some b→¬S b):w'.ownsRow base e size v n xs:=by
 refine⟨h.1,?_⟩
 rcases h.2 with hn|⟨g,cap,c,rfl,d,hg,f⟩
 ·exact .inl hn
 ·exact .inr ⟨g,cap,c,rfl,d,(k.block g (Aa hg) (a g rfl)).trans hg,f⟩
theorem Bf {w:World}{base:Nat}{e:TypeId}{size n:Nat}{v:Value}{xs:List Value}(h:w.ownsRow base e size v n xs):∀r,v.ownBlock=some r→base≤r:=by
 rcases h.2 with ⟨rfl,_⟩|⟨g,cap,cur,rfl,hb,_⟩
 ·intro r hr;simp[Value.ownBlock] at hr
 ·intro r hr;simp[Value.ownBlock] at hr;omega
theorem J9 {w:World}{base:Nat}{e:TypeId}{size n:Nat}{v:Value}{xs:List Value}(h:w.ownsRow base e size v n xs):∀r,v.ownBlock=some r→Is e w r:=by
 rcases h.2 with ⟨rfl,_⟩|⟨g,cap,cur,rfl,hb,hg,_⟩
 ·intro r hr;simp[Value.ownBlock] at hr
 ·intro r hr;simp[Value.ownBlock] at hr;subst hr;exact⟨_,_,hg⟩
theorem Is.ne {t d:TypeId}{w:World}{b:Nat}{c:Array Value}{e:Nat×Nat}(h:Is t w b)(a:w.heap[b]? =some (.cells c d e)):t=d:=by
 obtain⟨_,_,f⟩:=h;rw[f] at a;injection a with a;injection a
theorem Uc (B P o:Nat)(s:ByteArray)(a:Nat)(c:Array Value)(t:TypeId)(w:World)(I:s.size≤1000)(J:P≠B)(aq:t≠3)(h:RP B s a w)(ab:w.heap[P]? =some (.cells c t (0,0)))(ac:o<c.size)(ar:c[o]? =some (.slice none 0 0)) :
 Calls Tryz.prog 146 #[.pointer (some ⟨B,0,none⟩),.pointer (some ⟨P,o,none⟩)] w (ZB B P s w t c o a):=by
 have au:=Ad h;have bm:=Ad ab;have bn:=Aa ab;have bo:=Aa h.2;have bp:=Ad ar
 obtain⟨bq,br,bs,bt,bu⟩:=info_parts gK
 clear h ab ar
 go_enter Tryz.func146,Tryz.ntmps146
 go_wp2_with fail
 go_loopg [] 5 (fun k wr=>∃(cs:List Nat) (c1:Nat) (lv:Value) (ad:Int),cs.length+k=5∧oH (RP B s c1 wr)∧oH (wr.heap[P]? =some (.cells (c.setIfInBounds o lv) t (0,0)))∧oH (wr.heap[w.heap.size]? =some (.cells #[.int .i64 ad] 3 (0,0)))∧oH (wr.ownsRow (w.heap.size+1) 3 1 lv cs.length (Fj cs))∧oH (Ab (fun k=>k=B∨k=P) w wr)∧oH (Pl.C9 s k c1=Pl.C9 s 5 a)∧oH (cs++Ct s k c1=Ct s 5 a))
 case atStart =>
  refine⟨[],a,.slice none 0 0,0,rfl,⟨au.o.1,(Below.heap_alloc _ _ _ bo).trans au.o.2⟩,?_,heap_alloc_last w _,Ad (World.ownsRow_nil _ _ _ _),Ad ((Ab.refl _ _).alloc _),Ad rfl,Ad rfl⟩
  show _=_
  rw[Below.heap_alloc _ _ _ bn,bm.o]
  congr 2
  refine Array.ext_getElem? fun i=>?_
  rw[lX]
  by_cases hi:o=i
  ·subst hi;rw[if_pos rfl,if_pos ac,bp.o]
  ·rw[if_neg hi]
 case round =>
  obtain⟨cs,c1,lv,ad,_,bv,av,aw,ax,bw,K,ae⟩:=hrel
  have bx:=Aa av.o;have cl:=Aa aw.o
  have bz:P≠w.heap.size:=by omega
  have ay:B≠w.heap.size:=by omega
  go_wp2_with fail
  refine (Vj B w.heap.size 0 s c1 #[.int .i64 ad] 3 _ I (fun e=>ay e.symm) bv.o aw.o (by simp)).mono ?_
  rintro e d ⟨ok2,b0,_,L,rfl,p2,z,c2,az,af⟩;have M:=Ad p2;have A:=Ad L
  have p:oH (d.heap[P]? =some (.cells (c.setIfInBounds o lv) t (0,0))):=(z.block P bx (by omega)).trans av.o
  have ag:oH (Ab (fun k=>k=B∨k=P) w d):=bw.o.trans z (fun _ e=>e) (fun i hi e=>by rcases e with e|e;exact .inl e;omega)
  cases ok2
  ·clear p2 L z c2 az af
   go_wp2_with fail;go_ret
   refine⟨false,b0,_,?_,rfl,M.o,ag.o,p.o,by simp,by simp⟩
   rw[←K.o]
   cases gk with
   |zero=>show Pl.Ck _ _ _=_;rw[Pl.A6 A.o]
   |succ k=>show Pl.Ck _ _ _=_;rw[Pl.A6 A.o]
  ·obtain rfl:=Zy L
   have C:d.ownsRow (w.heap.size+1) 3 1 lv cs.length (Fj cs):=A1 ax.o z (fun b m N=>by
    have u:=Bf ax.o b m
    rcases N with rfl|rfl
    ·omega
    ·omega)
   have O:d.heap[w.heap.size]? =some (.cells #[.int .i64 (Kw s c1:Nat)] 3 (0,0)):=by rw[c2,af rfl];rfl
   have b1:d.cell? ⟨w.heap.size,0,none⟩=some (.int .i64 (Kw s c1:Nat)):=by rw[Ae O];rfl
   have a0:d.cell? ⟨P,o,none⟩=some lv:=by rw[Ae p.o,lX,if_pos rfl,if_pos ac]
   have a1:d.frozen? ⟨P,o,none⟩=false:=Aj p.o _;have ah:P<d.heap.size:=Aa p.o;have b2:B<d.heap.size:=Aa p2.2;have b3:w.heap.size<d.heap.size:=Aa O;have a2:=Ad O;have Q:=Ad C
   have a3:∀ob,(d.alloc ob).frozen? ⟨P,o,none⟩=false:=fun ob=>(World.frozen?_alloc_past _ _ _ ah).trans a1
   have R:some P≠lv.ownBlock:=fun x=>by have:=J9 C P x.symm;exact aq (this.ne p.o).symm
   have a4:some B≠lv.ownBlock:=fun x=>by have:=J9 C B x.symm;have:=this.ne p2.2;exact absurd this (by decide)
   have a6:some w.heap.size≠lv.ownBlock:=fun x=>by have:=Bf C _ x.symm;omega
   have a7:=Ad R;have a8:=Ad a4;have a9:=Ad a6;generalize ba:Kw s c1=f at *;have ai:=Ad ba;clear p2 L z c2 az af C O ba a4 a6;go_wp2_with fail
   go_region_law
    ((refine step_append_lies _ (by rfl) _ _ _ (by rfl) (w.heap.size+1) 3 bq _ 1 8 Tryz.underlying136 br bs bt bu rfl (by omega) lv cs.length (Fj cs) (by rfl) ((Q.o.alloc _).drew)
       ⟨d.heap.size,0,none⟩ 1 1 [.int .i64 (f:Int)] (by rfl) (by rfl) (World.news_of_block (cs:=#[.int .i64 (f:Int)]) (t:=3) (fr:=(0,0)) (heap_alloc_last d _)) (by intro cm bb;simp at bb;subst bb;rfl)
       (by omega) (by unfold maxLen;omega) (by omega) (by simp;omega) (d.heap.size+1) (by simp) ?_;intro n cap w3 aj S D b4;have b5:w3.cell? ⟨P,o,none⟩=some lv:=(S.cell_far _ (by simp;omega) R).trans ((World.cell?_alloc_past _ _ _ ah).trans a0);have j:w3.frozen? ⟨P,o,none⟩=false:=(S.frozen_far _ (by simp;omega) R).trans (a3 _)))
   all_goals
    have E:Ab (fun k=>lv.ownBlock=some k) d w3:=((((Ab.refl (fun k=>lv.ownBlock=some k) d).alloc _).drew).grown S (fun r hr=>.inr hr))
    have ak:w3.heap[P]? =some (.cells (c.setIfInBounds o lv) t (0,0)):=(E.block P ah (fun e=>a7.o e.symm)).trans p.o
    have T:RP B s (c1+1) w3:=⟨M.o.1,(E.block B b2 (fun e=>a8.o e.symm)).trans M.o.2⟩
    have al:w3.heap[w.heap.size]? =some (.cells #[.int .i64 (f:Int)] 3 (0,0)):=(E.block _ b3 (fun e=>a9.o e.symm)).trans a2.o
    have bc:Ab (fun k=>k=B∨k=P) w w3:=ag.o.trans E (fun _ e=>e) (fun i hi e=>by have:=Bf Q.o i e;omega)
    have b6:w.heap.size+1≤n:=by rcases D with D|D;exact Bf Q.o n D;omega
    have b7:n≠P:=fun e=>by subst e;have:=J9 aj n rfl;exact aq (this.ne ak).symm
    obtain⟨l,U⟩:∃l,w3.setCell ⟨P,o,none⟩ (.slice (some ⟨n,0,none⟩) (cs.length+1) cap)=l:=⟨_,rfl⟩
    have F:Ab (·=P) w3 l:=by rw[←U];exact (Ab.refl (·=P) w3).setCell (g:=P) (.inr rfl) _
    have V:oH (l.heap[P]? =some (.cells (c.setIfInBounds o (.slice (some ⟨n,0,none⟩) (cs.length+1) cap)) t (0,0))):=by
     show _=_
     rw[←U,Ap ak]
     congr 2
     simp
    have bd:oH (RP B s (c1+1) l):=⟨T.1,(F.block B (Aa T.2) (fun e=>J e.symm)).trans T.2⟩
    have be:oH (l.heap[w.heap.size]? =some (.cells #[.int .i64 (f:Int)] 3 (0,0))):=(F.block _ (Aa al) (fun e=>bz e.symm)).trans al
    have W:oH (l.ownsRow (w.heap.size+1) 3 1 (.slice (some ⟨n,0,none⟩) (cs.length+1) cap) (cs++[f]).length (Fj (cs++[f]))):=by
     have u:=A1 aj F (fun b m=>by simp[Value.ownBlock] at m;omega)
     have e1:Fj (cs++[f])=Fj cs++[.int .i64 (f:Int)]:=by simp[Fj]
     show l.ownsRow _ _ _ _ _ _
     rw[e1,kU];exact u
    have bf:oH (Ab (fun k=>k=B∨k=P) w l):=bc.seq (F.mono (fun _ _ e=>.inr e))
    have cn:l.cell? ⟨P,o,none⟩=some (.slice (some ⟨n,0,none⟩) (cs.length+1) cap):=by rw[Ae V.o,lX,if_pos rfl,if_pos ac]
    have bg:P<l.heap.size:=Aa V.o
    rw[U]
    clear b5 j D b4 S aj E ak T al bc b6 b7 U F a0 a1 a3 R b1 a7 a8 a9 a2 Q p ag M
    cases gk with
    |zero =>
     have bh:cs.length=5:=by omega
     have b8:((cs.length:Int)+1 == 6)=true:=by simp;omega
     have co:=Ad bh;clear bh;go_wp2_with fail
     refine (A4 B s (c1+1) 93 93 _ I (by omega) rfl bd.o).mono ?_
     rintro e w5 ⟨bi,a5,q,rfl,v,j⟩;have X:=Ad q;have Y:=Ad v;have G:=Ad ((j.block P bg J).trans V.o)
     have Z:oH (Ab (fun k=>k=B∨k=P) w w5):=bf.o.seq (j.mono (fun _ _ e=>.inl e))
     have y:=Ad (A1 W.o j (fun b m N=>by have:=Bf W.o b m;omega))
     clear q v j;go_wp2_with fail;go_ret
     have b9:cs++[f]=Ct s 5 a:=by rw[←ae.o];show _=cs++[Kw s c1];rw[ai.o]
     refine⟨bi,a5,_,?_,rfl,Y.o,Z.o,G.o,by simp,fun _=>⟨_,rfl,?_⟩⟩
     ·rw[←K.o];show Pl.Ck _ _ _=_;rw[Pl.Ai A.o];exact X.o
     ·rw[←b9];exact⟨y.o.1,y.o.2.imp id (fun ⟨g,am,an,u,ca,ao⟩=>⟨g,am,an,u,by omega,ao⟩)⟩
    |succ k =>
     have b8:((cs.length:Int)+1 == 6)=false:=by simp;omega
     go_wp2_with fail
     refine (A4 B s (c1+1) 44 44 _ I (by omega) rfl bd.o).mono ?_
     rintro e w5 ⟨bi,a5,q,rfl,v,j⟩;have X:=Ad q;have Y:=Ad v;have G:=Ad ((j.block P bg J).trans V.o);have cb:P<w5.heap.size:=Aa G.o
     have cc:=Ad ((j.block _ (Aa be.o) (fun e=>ay e.symm)).trans be.o)
     have Z:oH (Ab (fun k=>k=B∨k=P) w w5):=bf.o.seq (j.mono (fun _ _ e=>.inl e))
     have y:=Ad (A1 W.o j (fun b m N=>by have:=Bf W.o b m;omega))
     rcases Rv q with ⟨rfl,H,rfl⟩|⟨rfl,H,rfl⟩
     ·have ap:oH ((cs++[f])++Ct s k (c1+1+1)=Ct s 5 a):=by
       show _=_
       rw[←ae.o,Ct,if_pos H,ai.o];simp
      have cd:oH (Pl.C9 s k (c1+1+1)=Pl.C9 s 5 a):=by
       show _=_
       rw[←K.o];show _=Pl.Ck _ _ _;rw[Pl.Ai A.o,Pl.Gk X.o]
      clear q v j H;go_wp2_with fail;go_roundg k
      case measure=>omega
      case rel=>exact⟨cs++[f],c1+1+1,_,f,by simp;omega,Y,G,cc,y,Z,cd,ap⟩
     ·have ap:oH (cs++[f]=Ct s 5 a):=by
       show _=_
       rw[←ae.o,Ct,if_neg H,ai.o]
      clear q v j H;go_wp2_with fail
      refine (A4 B s (c1+1) 93 93 _ I (by omega) rfl Y.o).mono ?_
      rintro e ce ⟨cf,cg,bj,rfl,bk,aa⟩;have ch:=Ad bj;have ci:=Ad bk;have cj:=Ad ((aa.block P cb J).trans G.o)
      have ck:oH (Ab (fun k=>k=B∨k=P) w ce):=Z.o.seq (aa.mono (fun _ _ e=>.inl e))
      have bl:=Ad (A1 y.o aa (fun b m N=>by have:=Bf y.o b m;omega))
      clear bj bk aa;go_wp2_with fail;go_ret
      refine⟨cf,cg,_,?_,rfl,ci.o,ck.o,cj.o,by simp,fun _=>⟨_,rfl,?_⟩⟩
      ·rw[←K.o];show Pl.Ck _ _ _=_;rw[Pl.Ai A.o,Pl.D1 X.o];exact ch.o
      ·rw[←ap.o];exact⟨bl.o.1,bl.o.2.imp id (fun ⟨g,am,an,u,ca,ao⟩=>⟨g,am,an,u,by omega,ao⟩)⟩
end Go.Proofs.YtdinjjmcmfjbfaaGreatDoor
