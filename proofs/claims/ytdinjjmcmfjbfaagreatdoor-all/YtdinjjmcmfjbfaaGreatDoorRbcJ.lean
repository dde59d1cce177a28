import Derived.Test.YtdinjjmcmfjbfaaGreatDoorRc2J
set_option maxRecDepth 100000
set_option maxHeartbeats 4000000
namespace Go.Proofs.YtdinjjmcmfjbfaaGreatDoor
open Go.RowKit Mo Pl Tryz
structure Fr (B:Nat) (row:Option Nat) (w w':World):Prop where
 os:w'.os=w.os
 tape:w'.tape=w.tape
 output:w'.output=w.output
 size:w.heap.size≤w'.heap.size
 block:∀k,k<w.heap.size→k≠B→some k≠row→w'.heap[k]? =w.heap[k]?
theorem Fr.refl (B:Nat)(row:Option Nat)(w:World):Fr B row w w:=⟨rfl,rfl,rfl,tY _,fun _ _ _ _=>rfl⟩
theorem Fr.trans {B:Nat}{row d:Option Nat}{a b c:World}(h:Fr B row a b)(k:Fr B d b c)(hr:d=none∨d=row∨∀x,d=some x→a.heap.size≤x):Fr B row a c:=by
 refine⟨k.os.trans h.os,k.tape.trans h.tape,k.output.trans h.output,uJ h.size k.size,fun i hi hB f=>?_⟩;refine (k.block i (tU hi h.size) hB fun e=>?_).trans (h.block i hi hB f);rcases hr with hr|hr|hr
 ·rw[hr] at e;cases e
 ·rw[hr] at e;exact f e
 have:=hr i e.symm;omega
theorem Fr.seq {B:Nat}{row:Option Nat}{a b c:World}(h:Fr B row a b)(k:Fr B none b c):Fr B row a c:=h.trans k (.inl rfl)
theorem Fr.drewN {B:Nat}{row:Option Nat}{a w:World}(h:Fr B row a w)(n:Nat):Fr B row a (w.drewN n):=⟨h.os,h.tape,h.output,h.size,h.block⟩
theorem Fr.drew {B:Nat}{row:Option Nat}{a w:World}(h:Fr B row a w):Fr B row a w.drew:=⟨h.os,h.tape,h.output,h.size,h.block⟩
theorem Fr.setCell {B:Nat}{row:Option Nat}{a w:World}(h:Fr B row a w)(o:Nat)(b:Value):Fr B row a (w.setCell ⟨B,o,none⟩ b) :=
 ⟨h.os,h.tape,h.output,by simpa [World.setCell] using h.size,fun k c hB hr=>(Below.heap_setCell _ _ _ _ hB).trans (h.block k c hB hr)⟩
theorem Fr.Pp {B:Nat}{row:Option Nat}{a w:World}(h:Fr B row a w){g o:Nat}(hg:a.heap.size≤g)(b:Value):Fr B row a (w.setCell ⟨g,o,none⟩ b) :=
 ⟨h.os,h.tape,h.output,by simpa [World.setCell] using h.size,fun k c hB hr=>(Below.heap_setCell _ _ _ _ (by show k≠g;omega)).trans (h.block k c hB hr)⟩
theorem Fr.alloc {B:Nat}{row:Option Nat}{a w:World}(h:Fr B row a w)(o:Obj):Fr B row a (w.alloc o) :=
 ⟨h.os,h.tape,h.output,uJ h.size (by simp),fun k b hB hr=>(Below.heap_alloc _ _ _ (tU b h.size)).trans (h.block k b hB hr)⟩
theorem Fr.weaken {B:Nat}{row:Option Nat}{a w:World}(h:Fr B none a w):Fr B row a w:=⟨h.os,h.tape,h.output,h.size,fun k b hB _=>h.block k b hB (by simp)⟩
theorem Fr.below {B:Nat}{row:Option Nat}{a w:World}(h:Fr B row a w){b:Nat}(hB:b≤B)(_:b≤a.heap.size)(hr:∀x,row=some x→b≤x):Below b a w :=
 ⟨h.os,h.tape,h.output,h.size,fun k c=>h.block k (by omega) (by omega) (fun e=>by have:=hr k e.symm;omega)⟩
def RR (B:Nat)(s:ByteArray)(a d e j:Nat)(pv:Value)(w:World):Prop :=
 a≤s.size∧w.heap[B]? =some (.cells #[.string s,.int .i64 (a:Int),.int .i64 (d:Int),.int .i64 (e:Int),.int .i64 (j:Int),pv] 258 (0,0))
section
variable {B:Nat} {s:ByteArray} {a d e j:Nat} {pv:Value} {w:World}
theorem RR.c0 (h:RR B s a d e j pv w):w.cell? ⟨B,0,none⟩=some (.string s):=by rw[Af h.2];rfl
theorem RR.c1 (h:RR B s a d e j pv w):w.cell? ⟨B,1,none⟩=some (.int .i64 (a:Int)):=by rw[Af h.2];rfl
theorem RR.c2 (h:RR B s a d e j pv w):w.cell? ⟨B,2,none⟩=some (.int .i64 (d:Int)):=by rw[Af h.2];rfl
theorem RR.c3 (h:RR B s a d e j pv w):w.cell? ⟨B,3,none⟩=some (.int .i64 (e:Int)):=by rw[Af h.2];rfl
theorem RR.c4 (h:RR B s a d e j pv w):w.cell? ⟨B,4,none⟩=some (.int .i64 (j:Int)):=by rw[Af h.2];rfl
theorem RR.c5 (h:RR B s a d e j pv w):w.cell? ⟨B,5,none⟩=some pv:=by rw[Af h.2];rfl
theorem RR.f (h:RR B s a d e j pv w)(o:Nat):w.frozen? ⟨B,o,none⟩=false:=Am h.2 o
theorem RR.drewN (h:RR B s a d e j pv w)(n:Nat):RR B s a d e j pv (w.drewN n):=h
theorem RR.setAt (h:RR B s a d e j pv w){a':Nat}(b:a'≤s.size):RR B s a' d e j pv (w.setCell ⟨B,1,none⟩ (.int .i64 (a':Int))):=⟨b,by rw[A0 h.2];rfl⟩
theorem RR.YE (h:RR B s a d e j pv w)(d':Nat):RR B s a d' e j pv (w.setCell ⟨B,2,none⟩ (.int .i64 (d':Int))):=⟨h.1,by rw[A0 h.2];rfl⟩
theorem RR.sJ (h:RR B s a d e j pv w)(b:Nat):RR B s a d b j pv (w.setCell ⟨B,3,none⟩ (.int .i64 (b:Int))):=⟨h.1,by rw[A0 h.2];rfl⟩
theorem RR.pB (h:RR B s a d e j pv w)(b:Nat):RR B s a d e b pv (w.setCell ⟨B,4,none⟩ (.int .i64 (b:Int))):=⟨h.1,by rw[A0 h.2];rfl⟩
theorem RR.sK (h:RR B s a d e j pv w)(v:Value):RR B s a d e j v (w.setCell ⟨B,5,none⟩ v):=⟨h.1,by rw[A0 h.2];rfl⟩
end
def sn (s:ByteArray)(e lo hi a:Nat):Bool:=decide (e=0∧lo≤bt s a∧bt s a≤hi)
theorem I5 (B:Nat)(s:ByteArray)(a d e j lo hi:Nat)(i k:Int)(pv:Value)(w:World)(_:s.size≤1000)(_:0<lo)(m:i=(lo:Int))(n:k=(hi:Int))(h:RR B s a d e j pv w) :
 Calls prog 171 #[C1 B,.int .u8 i,.int .u8 k] w fun o w'=>o=.returned (.bool (sn s e lo hi a))∧RR B s a d e j pv w'∧Fr B none w w':=by
 subst m n;have u:=h.c0;have v:=h.c1;have x:=h.c3;have f:=Ae h;have y:=h.1;have z:=Bm a
 clear h;by_cases g:e=0
 ·subst g;by_cases l:a<s.size
  ·have A:(a:Int)<(s.size:Int):=(by omega);have b:bt s a=s[a].toNat:=(by unfold bt;rw[dif_pos l]);by_cases p:lo≤s[a].toNat
   ·have q:(lo:Int)≤(s[a].toNat:Int):=(by omega);by_cases r:s[a].toNat≤hi
    ·have t:(s[a].toNat:Int)≤(hi:Int):=(by omega);have c:xR (sn s 0 lo hi a=true):=(by show _=_;unfold sn;rw[b];simp[p,r]);clear b;go_enter func171,ntmps171;go_wp21;go_quiet (fail);go_wp21;go_ret;exact⟨A5 (by rw[c.o]),f.o.drewN _,(Fr.refl _ _ _).drewN _⟩
    have t:decide ((s[a].toNat:Int)≤(hi:Int))=false:=(by simp;omega);have c:xR (sn s 0 lo hi a=false):=(by show _=_;unfold sn;rw[b];simp;omega);clear b;go_enter func171,ntmps171;go_wp21;go_quiet (fail);go_wp21;go_ret;exact⟨A5 (by rw[c.o]),f.o.drewN _,(Fr.refl _ _ _).drewN _⟩
   have q:decide ((lo:Int)≤(s[a].toNat:Int))=false:=(by simp;omega);have c:xR (sn s 0 lo hi a=false):=(by show _=_;unfold sn;rw[b];simp;omega);clear b;go_enter func171,ntmps171;go_wp21;go_quiet (fail);go_wp21;go_ret;exact⟨A5 (by rw[c.o]),f.o.drewN _,(Fr.refl _ _ _).drewN _⟩
  have b:bt s a=0:=by unfold bt;rw[dif_neg l]
  have C:decide ((a:Int)<(s.size:Int))=false:=by simp;omega
  have c:xR (sn s 0 lo hi a=false):=by show _=_;unfold sn;rw[b];simp;omega
  clear b;go_enter func171,ntmps171;go_wp21;go_quiet (fail);go_wp21;go_ret;exact⟨A5 (by rw[c.o]),f.o.drewN _,(Fr.refl _ _ _).drewN _⟩
 have D:((e:Int) == 0)=false:=by simp;omega
 have c:xR (sn s e lo hi a=false):=by show _=_;unfold sn;simp[g]
 clear g;go_enter func171,ntmps171;go_wp21;go_quiet (fail);go_wp21;go_ret;exact⟨A5 (by rw[c.o]),f.o.drewN _,(Fr.refl _ _ _).drewN _⟩
theorem kY {s:ByteArray}{lo hi a:Nat}(h:sn s 0 lo hi a=true):rng s lo hi a=(true,a+1):=by unfold sn at h;unfold rng;rw[if_pos (by simpa using h)]
theorem eV {s:ByteArray}{lo hi a:Nat}(h:sn s 0 lo hi a=false):rng s lo hi a=(false,a):=by unfold sn at h;unfold rng;rw[if_neg (by simpa using h)]
theorem K9 {s:ByteArray}{e lo hi a:Nat}(h:sn s e lo hi a=true):e=0:=by unfold sn at h;simp at h;exact h.1
theorem Mz {s:ByteArray}{e lo hi a:Nat}(h:sn s e lo hi a=true):lo≤bt s a∧bt s a≤hi:=by unfold sn at h;simp at h;exact h.2
def RQ (B:Nat)(s:ByteArray)(d j:Nat)(pv:Value)(w:World)(X:Nat×Nat)(w':World):Prop:=∃e' a',X=(e',a')∧RR B s a' d e' j pv w'∧Fr B none w w'
def QL (e k:Nat):Nat:=if e=0 then k else e
theorem Vw (B:Nat)(s:ByteArray)(a d e j k:Nat)(c:Int)(pv:Value)(w:World)(g:c=(k:Int))(h:RR B s a d e j pv w) :
 Calls prog 131 #[C1 B,.int .i64 c] w fun i w'=>i=.returned (.tuple #[])∧RR B s a d (QL e k) j pv w'∧Fr B none w w':=by
 subst g;have m:=h.c3;have n:=h.f 3;have f:=Ae h;clear h;by_cases b:e=0
 ·subst b;go_enter func131,ntmps131;go_wp21;go_end0;exact⟨rfl,f.o.sJ k,(Fr.refl _ _ _).setCell _ _⟩
 have o:((e:Int) == 0)=false:=by simp;omega
 have l:xR (QL e k=e):=by show _=_;unfold QL;rw[if_neg b]
 clear b;go_enter func131,ntmps131;go_wp21;go_end0;exact⟨rfl,by rw[l.o];exact f.o,Fr.refl _ _ _⟩
theorem Jr (B:Nat)(s:ByteArray)(a d e j lo hi:Nat)(l m:Int)(pv:Value)(w:World)(q:s.size≤1000)(r:0<lo)(t:lo≤hi)(u:l=(lo:Int))(v:m=(hi:Int))(h:RR B s a d e j pv w) :
 Calls prog 139 #[C1 B,.int .u8 l,.int .u8 m] w fun g w'=>∃c:Nat,g=.returned (.int .u8 (c:Int))∧lo≤c∧c≤hi∧(sn s e lo hi a=true→c=bt s a)∧RQ B s d j pv w (xW (e,a) (xX (rng s lo hi))) w':=by
 subst u v;have y:=Ae h;have D:=h.1;clear h;go_enter func139,ntmps139;go_wp21;go_call I5 B s a d e j lo hi _ _ pv _ q r rfl rfl y.o as g w1 ⟨rfl,p1,n⟩;cases b:sn s e lo hi a
 ·have f:=Ae b;have i:=Ae p1;clear p1 b;go_wp21;go_call Vw B s a d e j 2 2 pv _ rfl i.o as g E ⟨rfl,p2,z⟩;go_wp21;go_ret;refine⟨lo,rfl,tY _,t,(fun x=>by rw[f.o] at x;cases x),⟨_,_,?_,p2,n.seq z⟩⟩;by_cases k:e=0
  ·subst k;rw[Bf,Fz (eV f.o)];rfl
  rw[B7 k];unfold QL;rw[if_neg k]
 obtain rfl:e=0:=K9 b;have o:=Mz b;have A:=Cu (s:=s) (a:=a) (by omega);have F:=p1.c0;have c1:=p1.c1;have G:=p1.f 1;have f:=Ae b;have i:=Ae p1;have C:xR (bt s a=s[a].toNat):=by show _=_;unfold bt;rw[dif_pos A]
 have p:=Ae o;clear p1 b o;have H:=Bm a
 have I:(a:Int)<(s.size:Int):=by omega
 go_wp21;go_quiet (fail);go_wp21;go_ret;refine⟨bt s a,Bo (by rw[C.o]),p.o.1,p.o.2,fun _=>rfl,⟨0,a+1,?_,(i.o.setAt (by omega)).drewN _,(n.setCell _ _).drewN _⟩⟩;rw[Bf,Gk (kY f.o)]
theorem Il (B:Nat)(s:ByteArray)(a d e j c:Nat)(b:Int)(pv:Value)(w:World)(k:s.size≤1000)(l:0<c)(f:b=(c:Int))(h:RR B s a d e j pv w) :
 Calls prog 139 #[C1 B,.int .u8 b,.int .u8 b] w fun g w'=>∃v:Nat,g=.returned (.int .u8 (v:Int))∧RQ B s d j pv w (xW (e,a) (xX (tk s c))) w':=by
 go_call Jr B s a d e j c c b b pv w k l (tY _) f f h as g w1 ⟨v,rfl,_,_,_,i⟩;rw[ZQ] at i;exact⟨v,rfl,i⟩
theorem QM (B:Nat)(s:ByteArray)(a d e j c:Nat)(b:Int)(pv:Value)(w:World)(k:s.size≤1000)(l:0<c)(f:b=(c:Int))(h:RR B s a d e j pv w) :
 Calls prog 139 #[C1 B,.int .u8 b,.int .u8 b] w fun g w'=>g=.returned (.int .u8 (c:Int))∧RQ B s d j pv w (xW (e,a) (xX (tk s c))) w':=by
 go_call Jr B s a d e j c c b b pv w k l (tY _) f f h as g w1 ⟨v,rfl,_,_,_,i⟩;rw[ZQ] at i;exact⟨by rw[show v=c by omega],i⟩
theorem Fa {p:Nat→Bool×Nat}{e a:Nat}(h:(xW (e,a) (xX p)).1=0):e=0∧p a=(true,(p a).2)∧(xW (e,a) (xX p)).2=(p a).2:=by
 by_cases b:e=0
 ·subst b;rw[Bf] at h⊢;unfold xX at h⊢;by_cases hp:(p a).1=true
  ·exact⟨rfl,Prod.ext hp rfl,rfl⟩
  rw[if_neg hp] at h;cases h
 rw[B7 b] at h;exact absurd h b
theorem pD {s:ByteArray}{e a:Nat}(h:(xW (e,a) (xX (Jt s))).1=0):sn s e 48 57 a=true:=by
 obtain⟨d,b,_⟩:=Fa h;have f:48≤bt s a∧bt s a≤57:=by
  by_cases c:48≤bt s a∧bt s a≤57
  ·exact c
  have g:Jt s a=(false,a):=Qj c;rw[g] at b;cases b
 unfold sn;simp[d,f]
theorem R5 (B:Nat)(s:ByteArray)(a d e j c:Nat)(i:Int)(pv:Value)(w:World)(m:s.size≤1000)(n:0<c)(o:i=(c:Int))(h:RR B s a d e j pv w) :
 Calls prog 138 #[C1 B,.int .u8 i] w fun k w'=>∃(ok:Bool) (a':Nat),k=.returned (.bool ok)∧xR (sn s e c c a=ok)∧a'=(if ok=true then a+1 else a)∧RR B s a' d e j pv w'∧Fr B none w w':=by
 subst o;have p:=Ae h;clear h;go_enter func138,ntmps138;go_wp21;go_call I5 B s a d e j c c _ _ pv _ m n rfl rfl p.o as k w1 ⟨rfl,p1,l⟩;cases b:sn s e c c a
 ·have f:=Ae b;have g:=Ae p1;clear p1 b;go_wp21;go_ret;exact⟨false,a,rfl,f,rfl,g.o,l⟩
 have q:=Mz b;have r:=Cu (s:=s) (a:=a) (by omega);have c1:=p1.c1;have t:=p1.f 1;have f:=Ae b;have g:=Ae p1;clear p1 b q;go_wp21;go_ret;exact⟨true,a+1,rfl,f,rfl,g.o.setAt (by omega),l.setCell _ _⟩
theorem Md (B:Nat)(s:ByteArray)(a d e j:Nat)(pv:Value)(w:World)(g:s.size≤1000)(h:RR B s a d e j pv w) :
 Calls prog 165 #[C1 B] w fun c w'=>∃n:Nat,c=.returned (.int .i64 (n:Int))∧(n≤9∧((xW (e,a) (xX (Jt s))).1=0→n=Nk s a))∧RQ B s d j pv w (xW (e,a) (xX (Jt s))) w':=by
 have i:=Ae h;clear h;go_enter func165,ntmps165;go_wp21;go_call Jr B s a d e j 48 57 48 57 pv _ g (by omega) (by omega) rfl rfl i.o as c w1 ⟨v,rfl,k,l,f,b⟩;rw[DM] at b;have m:=Ae b;clear b;obtain⟨n,rfl⟩:∃n,v=n+48:=⟨v-48,by omega⟩;have o:xR ((xW (e,a) (xX (Jt s))).1=0→n=Nk s a):=fun p=>by have:=f (pD p);unfold Nk;omega
 clear f;have q:n≤9:=by omega
 clear k l;have e1:IntKind.u8.wrap ((n:Int)+48-48)=(n:Int):=by rw[show (n:Int)+48-48=(n:Int) by omega];simp[IntKind.wrap,IntKind.bits,IntKind.signed];omega
 go_wp21;go_ret;refine⟨n,Bo ?_,⟨q,o.o⟩,m.o⟩;simp
theorem eW (B:Nat)(s:ByteArray)(a d e j:Nat)(pv:Value)(w:World)(l:s.size≤1000)(_:d≤100)(h:RR B s a d e j pv w) :
 Calls prog 168 #[C1 B] w fun c w'=>c=.returned (.tuple #[])∧RQ B s (d+1) j pv w (U9 s d e a) w':=by
 have z:=Ae h;clear h;go_enter func168,ntmps168;go_wp21;go_call I5 B s a d e j 40 40 40 40 pv _ l (by omega) rfl rfl z.o as c w1 ⟨rfl,p1,n⟩;have c2:=p1.c2;have o:=Ae p1;clear p1;cases b:sn s e 40 40 a
 ·have f:xR (U9 s d e a=xW (e,a) (xX (tk s 40))):=by show _=_;unfold U9;rw[if_neg];rintro⟨A,_,_⟩;unfold sn at b;simp at b;have:=b A;omega
  clear b;go_wp21;go_call Il B s a d e j 40 40 pv _ l (by omega) rfl o.o as c p ⟨v,rfl,e2,a2,g,p2,i⟩;have q:=Ae g;have t:=p2.c2;have u:=p2.f 2;have k:=Ae p2;clear g p2;go_wp21;go_end0;exact⟨rfl,e2,a2,f.o.trans q.o,k.o.YE (d+1),(n.seq i).setCell _ _⟩
 obtain rfl:e=0:=K9 b;have x:=Mz b;clear b;by_cases r:d=6
 ·have C:((d:Int) == 6)=true:=by simp;omega
  have f:xR (U9 s d 0 a=(3,a)):=by show _=_;unfold U9;rw[if_pos ⟨rfl,by omega,r⟩]
  clear r x;go_wp21;go_call Vw B s a d 0 j 3 3 pv _ rfl o.o as c p ⟨rfl,p2,i⟩;have k:xR (RR B s a d 3 j pv p):=p2;clear p2;go_wp21;go_call Il B s a d 3 j 40 40 pv _ l (by omega) rfl k.o as c w3 ⟨v,rfl,e3,a3,y,m,D⟩;have E:=Ae y;have t:=m.c2;have u:=m.f 2;have F:=Ae m;clear y m;go_wp21;go_end0;exact⟨rfl,e3,a3,f.o.trans E.o,F.o.YE (d+1),((n.seq i).seq D).setCell _ _⟩
 have C:((d:Int) == 6)=false:=by simp;omega
 have f:xR (U9 s d 0 a=xW (0,a) (xX (tk s 40))):=by show _=_;unfold U9;rw[if_neg (by omega)]
 clear r x;go_wp21;go_call Il B s a d 0 j 40 40 pv _ l (by omega) rfl o.o as c p ⟨v,rfl,e2,a2,g,p2,i⟩;have q:=Ae g;have t:=p2.c2;have u:=p2.f 2;have k:=Ae p2;clear g p2;go_wp21;go_end0;exact⟨rfl,e2,a2,f.o.trans q.o,k.o.YE (d+1),(n.seq i).setCell _ _⟩
theorem La (B:Nat)(s:ByteArray)(a d e j:Nat)(pv:Value)(w:World)(n:s.size≤1000)(h:RR B s a d e j pv w) :
 Calls prog 140 #[C1 B] w fun l w'=>∃t:ByteArray,l=.returned (.string t)∧((xW (e,a) (xX (Bj s))).1=0→t=s.extract a (Bj s a).2)∧RQ B s d j pv w (xW (e,a) (xX (Bj s))) w':=by
 have S:=h.1;have o:=h.c1;have D:=Ae h;clear h;by_cases E:e=0∧97≤bt s a∧bt s a≤122
 ·obtain⟨rfl,u,x⟩:=E;have f:xR (xW (0,a) (xX (Bj s))=(0,Eb s 97 122 3 (a+1))):=by show _=_;rw[Bf,Gk];exact Wu ⟨u,x⟩
  have F:xR ((Bj s a).2=Eb s 97 122 3 (a+1)):=by have o:=(Fa (show (xW (0,a) (xX (Bj s))).1=0 by rw[f.o])).2.2;rw[f.o] at o;exact o.symm
  have y:xR (xW (0,a) (xX (rng s 97 122))=(0,a+1)):=by show _=_;rw[Bf,Gk];unfold rng;rw[if_pos ⟨u,x⟩]
  clear u x;go_enter func140,ntmps140;go_wp21;go_call Jr B s a d 0 j 97 122 97 122 pv _ n (by omega) (by omega) rfl rfl D.o as l w1 ⟨v,rfl,_,_,_,e1,a1,b,p1,z⟩;rw[y.o] at b;injection b with b A;subst b A;have C:=Ae p1;clear p1;go_wp21;go_loopg [] 3 (fun k wr=>∃c:Nat,c+k=a+4∧a+1≤c∧xR (RR B s c d 0 j pv wr)∧Fr B none w wr∧xR (Eb s 97 122 k c=Eb s 97 122 3 (a+1)))
  case atStart=>exact⟨a+1,rfl,tY _,C,z,rfl⟩
  obtain⟨c,_,_,hp,hf,p⟩:=hrel;have T:=hp.o.1;have c1:=hp.o.c1;by_cases J:gk=0
  ·subst J;have U:decide ((c:Int)-(a:Int)<4)=false:=(by simp;omega);have K:=hp.o.c0;have G:=hp.o.c3;have L:=Bm a;have M:(a:Int)≤(c:Int):=(by omega);have N:(c:Int)≤(s.size:Int):=(by omega);go_wp21;go_quiet (fail);go_wp21;go_ret;exact⟨_,rfl,fun _=>by rw[F.o,←p.o];rfl,0,c,by rw[f.o,←p.o];rfl,hp.o.drewN _,hf.drewN _⟩
  obtain⟨k,rfl⟩:=Bx J;have V:(c:Int)-(a:Int)<4:=by omega
  go_wp21;go_call I5 B s c d 0 j 97 122 97 122 pv _ n (by omega) rfl rfl hp.o as l O ⟨rfl,p2,q⟩;cases g:sn s 0 97 122 c
  ·have r:xR (c=Eb s 97 122 3 (a+1)):=(by have:=p.o;rw[It (by unfold sn at g;simpa using g)] at this;exact this);have K:=p2.c0;have P:=p2.c1;have G:=p2.c3;have m:=Ae p2;clear p2 g c1;have L:=Bm a;have M:(a:Int)≤(c:Int):=(by omega);have N:(c:Int)≤(s.size:Int):=(by omega);go_wp21;go_quiet (fail);go_wp21;go_ret;exact⟨_,rfl,fun _=>by rw[F.o,←r.o],0,c,by rw[f.o,←r.o],m.o.drewN _,(hf.seq q).drewN _⟩
  have H:=Mz g;have W:=Cu (s:=s) (a:=c) (by omega);have r:xR (Eb s 97 122 k (c+1)=Eb s 97 122 3 (a+1)):=by have:=p.o;rw[Mn H] at this;exact this
  have P:=p2.c1;have X:=p2.f 1;have m:=Ae p2;clear p2 g H c1;go_wp21;go_roundg k
  case measure=>omega
  exact⟨c+1,by omega,by omega,m.o.setAt (by omega),(hf.seq q).setCell _ _,r⟩
 have f:xR (xW (e,a) (xX (Bj s))=(QL e 2,a)):=by
  show _=_;by_cases i:e=0
  ·subst i;exact Fz (show V0 s 4 97 122 a=(false,a) from Qj (by omega))
  rw[B7 i];unfold QL;rw[if_neg i]
 have y:xR (xW (e,a) (xX (rng s 97 122))=(QL e 2,a)):=by
  show _=_;by_cases i:e=0
  ·subst i;exact Fz (show rng s 97 122 a=(false,a) by unfold rng;rw[if_neg (by omega)])
  rw[B7 i];unfold QL;rw[if_neg i]
 have I:QL e 2≠0:=by unfold QL;split <;> omega
 have Y:((QL e 2:Int) != 0)=true:=by simp;omega
 have Q:=Ae I;have g:xR (sn s (QL e 2) 97 122 a=false):=by show _=_;unfold sn;simp[I]
 clear E;go_enter func140,ntmps140;go_wp21;go_call Jr B s a d e j 97 122 97 122 pv _ n (by omega) (by omega) rfl rfl D.o as l w1 ⟨v,rfl,_,_,_,e1,a1,b,p1,z⟩;rw[y.o] at b;injection b with b A;subst b A;have C:=Ae p1;clear p1 o;go_wp21;go_loopg [] 0 (fun _ wr=>xR (RR B s a d (QL e 2) j pv wr)∧Fr B none w wr)
 case atStart=>exact⟨C,z⟩
 obtain⟨hp,hf⟩:=hrel;have c1:=hp.o.c1;go_wp21;go_call I5 B s a d (QL e 2) j 97 122 97 122 pv _ n (by omega) rfl rfl hp.o as l O ⟨rfl,p2,q⟩;rw[g.o];have G:=p2.c3;have m:=Ae p2;clear p2 c1;go_wp21;go_ret;exact⟨_,rfl,fun R=>absurd R (by rw[f.o];exact Q.o),QL e 2,a,f.o,m.o,hf.seq q⟩
theorem LF (l:List UInt8)(c:UInt8):Cd (l++[c])=Cd l*10+(c.toNat-48):=by unfold Cd;rw[List.foldl_append];rfl
theorem eX {s:ByteArray}{a c:Nat}(h:c<s.size)(_:a≤c):∃x,Ia s a (c+1)=Ia s a c++[x]∧x.toNat=bt s c:=by
 have b:c<s.data.toList.length:=by rw[M4];exact h
 refine⟨s.data.toList[c],?_,?_⟩
 ·rw[Oq,Oq,uI,tT b];show List.drop a (s.data.toList.take c++[s.data.toList[c]])=_;rw[List.drop_append_of_le_length (by rw[uV];omega)]
 have:=ZT s c;rw[tT b,if_pos h] at this;simpa using this
theorem Zw {s:ByteArray}{a c nn dd:Nat}(h:c<s.size)(b:a≤c)(d:nn=Cd (Ia s a c))(e:dd=Nk s c):10*nn+dd=Cd (Ia s a (c+1)):=by
 obtain⟨x,e1,e2⟩:=eX h b;rw[e1,LF,←d,e2,e];unfold Nk;omega
theorem TK {s:ByteArray}{a:Nat}(h:a<s.size):bt s a-48=Cd (Ia s a (a+1)):=by
 have:=Zw (s:=s) (a:=a) (c:=a) (nn:=0) (dd:=Nk s a) h (tY _) (by rw[DT];rfl) rfl;rw[←this];unfold Nk;omega
theorem pE {s:ByteArray}{a c:Nat}(b:c≤s.size)(d:a<c)(h:bt s a≠45):Gu (Ia s a c)=(Cd (Ia s a c):Int):=by
 obtain⟨x,e1,e2⟩:=Tx b d;rw[e1];have:x≠45:=fun e=>h (by rw[←e2,e];rfl);simp only[Gu,if_neg this]
theorem kZ {s:ByteArray}{a c:Nat}(b:c≤s.size)(d:a<c)(h:bt s a=45):Gu (Ia s a c)= -(Cd (Ia s (a+1) c):Int):=by
 obtain⟨x,e1,e2⟩:=Tx b d;rw[e1];have:x=45:=wK.1 (by rw[e2,h];rfl);simp only[Gu,if_pos this]
theorem Wj (B:Nat)(s:ByteArray)(a d e j:Nat)(pv:Value)(w:World)(E:s.size≤1000)(h:RR B s a d e j pv w) :
 Calls prog 166 #[C1 B] w fun C w'=>∃n:Int,C=.returned (.int .i64 n)∧((xW (e,a) (xX (D1 s))).1=0→n=Gu (Ia s a (D1 s a).2))∧RQ B s d j pv w (xW (e,a) (xX (D1 s))) w':=by
 have au:=Ae h;clear h;go_enter func166,ntmps166;go_wp21;go_call R5 B s a d e j 45 45 pv _ E (by omega) rfl au.o as C w0 ⟨ok,D,rfl,L,x,p0,S⟩;have T:=Ae p0;clear p0;cases ok
 ·have x:D=a:=x;go_wp21;go_call Jr B s D d e j 48 57 48 57 pv _ E (by omega) (by omega) rfl rfl T.o as C w1 ⟨v,rfl,U,W,y,e1,a1,i,p1,M⟩;obtain⟨n0,X⟩:∃n0,v=n0+48:=⟨v-48,by omega⟩;have p:xR (xW (e,a) (xX (D1 s))=(e1,Np s e1 n0 3 a1)):=by show _=_;have F:D=a:=x;rw[F] at i y;have:=UE (s:=s) (a:=a) (e:=e) (v:=v) (by rintro⟨q,o⟩;have b:=L.o;unfold sn at b;simp at b;have:=b q;omega) i (fun q o=>y (by unfold sn;simp[q,o]));rw[show v-48=n0 by omega] at this;exact this
  have Y:xR (e1=0→n0=Cd (Ia s a a1)∧a<a1):=fun Z=>by
   have F:D=a:=x;rw[F] at i y;rw[Z] at i;obtain⟨q,o,r⟩:=Fa (show (xW (e,a) (xX (rng s 48 57))).1=0 by rw[i]);rw[i] at r;have hr:48≤bt s a∧bt s a≤57:=by
    by_cases l:48≤bt s a∧bt s a≤57
    ·exact l
    unfold rng at o;rw[if_neg l] at o;cases o
   have t:a1=a+1:=(by rw[Su hr] at r;exact r);have V:=y (by unfold sn;simp[q,hr]);have aa:=TK (s:=s) (a:=a) (Cu (by omega));rw[t];exact⟨by omega,by omega⟩
  have G:xR (∀c nn:Nat,xW (e,a) (xX (D1 s))=(e1,c)→c≤s.size→(e1=0→nn=Cd (Ia s a c)∧a<c)→(xW (e,a) (xX (D1 s))).1=0→(nn:Int)=Gu (Ia s a (D1 s a).2)):=fun c nn q o r t=>by obtain⟨V,aa,N⟩:=Fa t;have O:e1=0:=(by rw[q] at t;exact t);rw[q] at N;have ab:c=(D1 s a).2:=N;rw[←ab];have av:bt s a≠45:=fun aw=>(by have b:=L.o;unfold sn at b;simp[V,aw] at b);rw[pE o (r O).2 av,(r O).1]
  subst X;have ax:n0≤9:=by omega
  have ac:=Ae p1;have ad:=S.seq M;clear p1 U W y i S M T L x;go_wp21;go_loopg [6,7] 3 (fun k ae af wr=>∃c nn g:Nat,g+k=4∧1≤g∧nn<10 ^ g∧ae=.int .i64 (nn:Int)∧af=.int .i64 (g:Int)∧xR (RR B s c d e1 j pv wr)∧Fr B none w wr∧xR (Np s e1 nn k c=Np s e1 n0 3 a1)∧xR (e1=0→nn=Cd (Ia s (a) c)∧a<c))
  case atStart=>exact⟨a1,n0,1,rfl,tY _,by omega,by simp,rfl,ac,ad,rfl,Y⟩
  obtain⟨c,nn,g,ay,az,H,rfl,rfl,hp,hf,m,z⟩:=hrel;have a0:nn<10000:=tU H (uJ (Nat.pow_le_pow_right (by omega) (show g≤4 by omega)) (by decide));have ag:=Ae H;clear H;by_cases ah:gk=0
  ·subst ah;have ai:¬(g:Int)<4:=(by omega);have f:xR (Np s e1 nn 0 c=c):=(by show _=_;unfold Np;split <;> rfl);go_wp21;go_ret;have u:RQ B s d j pv w (xW (e,a) (xX (D1 s))) wr:=⟨e1,c,by rw[p.o,←m.o,f.o],hp.o,hf⟩;exact⟨_,rfl,G.o c nn (by rw[p.o,←m.o,f.o]) hp.o.1 z.o,u⟩
  obtain⟨k,rfl⟩:=Bx ah;have ai:(g:Int)<4:=by omega
  by_cases I:nn=0
  ·have aj:¬(0:Int)<(nn:Int):=(by omega);have f:xR (Np s e1 nn (k+1) c=c):=(by show _=_;unfold Np;rw[if_neg (by omega)]);clear I;go_wp21;go_ret;have u:RQ B s d j pv w (xW (e,a) (xX (D1 s))) wr:=⟨e1,c,by rw[p.o,←m.o,f.o],hp.o,hf⟩;exact⟨_,rfl,G.o c nn (by rw[p.o,←m.o,f.o]) hp.o.1 z.o,u⟩
  have aj:(0:Int)<(nn:Int):=by omega
  go_wp21;go_call I5 B s c d e1 j 48 57 48 57 pv _ E (by omega) rfl rfl hp.o as C ak ⟨rfl,p2,P⟩;have Q:=Ae p2;clear p2;cases b:sn s e1 48 57 c
  ·have f:xR (Np s e1 nn (k+1) c=c):=by
    show _=_;unfold Np;split
    ·rename_i al;obtain⟨rfl,_⟩:=al;exact It (by unfold sn at b;simpa using b)
    rfl
   clear b I;go_wp21;go_ret;have u:RQ B s d j pv w (xW (e,a) (xX (D1 s))) ak:=⟨e1,c,by rw[p.o,←m.o,f.o],Q.o,hf.seq P⟩;exact⟨_,rfl,G.o c nn (by rw[p.o,←m.o,f.o]) hp.o.1 z.o,u⟩
  obtain rfl:e1=0:=K9 b;have J:=Ae (z.o rfl);have l:=Mz b;have am:=Cu (s:=s) (a:=c) (by omega);have f:xR (xW (0,c) (xX (Jt s))=(0,c+1)):=by show _=_;rw[Bf,←DM,Gk (Su l)]
  have an:xR (∀dd,Np s 0 (10*nn+dd) k (c+1)=Np s 0 n0 3 a1):=by show ∀dd,_=_;intro dd;rw[←m.o];unfold Np;rw[if_pos (by omega),if_pos (by omega),Mn l]
  clear b I l;go_wp21;go_call Md B s c d 0 j pv _ E Q.o as C w3 ⟨dd,rfl,⟨a2,K⟩,e3,a3,A,R,ao⟩;rw[f.o] at A K;have ap:xR ((0:Nat)=0→10*nn+dd=Cd (Ia s (a) (c+1))∧a<c+1):=fun _=>⟨Zw am (by have:=J.o.2;omega) J.o.1 (K rfl),by have:=J.o.2;omega⟩;clear K;injection A with A aq;subst A aq;have ar:=Ae R;clear R;go_wp21;go_roundg k
  case measure=>omega
  exact⟨c+1,10*nn+dd,g+1,by omega,by omega,by have:=ag.o;rw[Nat.pow_succ];omega,by go_num,by go_num,ar,(hf.seq P).seq ao,an.o dd,ap⟩
 have x:D=a+1:=x;go_wp21;go_call Jr B s D d e j 49 57 49 57 pv _ E (by omega) (by omega) rfl rfl T.o as C w1 ⟨v,rfl,U,W,y,e1,a1,i,p1,M⟩;obtain⟨n0,X⟩:∃n0,v=n0+48:=⟨v-48,by omega⟩;have p:xR (xW (e,a) (xX (D1 s))=(e1,Np s e1 n0 3 a1)):=by show _=_;have b:=L.o;obtain rfl:e=0:=K9 b;have l:=Mz b;have F:D=a+1:=x;rw[F] at i;have:=UD (s:=s) (a:=a) (v:=v) (by omega) i U;rw[show v-48=n0 by omega] at this;exact this
 have Y:xR (e1=0→n0=Cd (Ia s (a+1) a1)∧a+1<a1):=fun Z=>by
  have F:D=a+1:=x;rw[F] at i y;rw[Z] at i;obtain⟨q,o,r⟩:=Fa (show (xW (e,a+1) (xX (rng s 49 57))).1=0 by rw[i]);rw[i] at r;have hr:49≤bt s (a+1)∧bt s (a+1)≤57:=by
   by_cases l:49≤bt s (a+1)∧bt s (a+1)≤57
   ·exact l
   unfold rng at o;rw[if_neg l] at o;cases o
  have t:a1=a+1+1:=by rw[Su hr] at r;exact r
  have V:=y (by unfold sn;simp[q,hr]);have aa:=TK (s:=s) (a:=a+1) (Cu (by omega));rw[t];exact⟨by omega,by omega⟩
 have G:xR (∀c nn:Nat,xW (e,a) (xX (D1 s))=(e1,c)→c≤s.size→(e1=0→nn=Cd (Ia s (a+1) c)∧a+1<c)→(xW (e,a) (xX (D1 s))).1=0→ -(nn:Int)=Gu (Ia s a (D1 s a).2)):=fun c nn q o r t=>by
  obtain⟨V,aa,N⟩:=Fa t;have O:e1=0:=by rw[q] at t;exact t
  rw[q] at N;have ab:c=(D1 s a).2:=N;rw[←ab];have a4:bt s a=45:=by have l:=Mz L.o;omega
  rw[kZ o (by have:=(r O).2;omega) a4,(r O).1]
 subst X;have ax:n0≤9:=by omega
 have ac:=Ae p1;have ad:=S.seq M;clear p1 U W y i S M T L x;go_wp21;go_loopg [6,7] 3 (fun k ae af wr=>∃c nn g:Nat,g+k=4∧1≤g∧nn<10 ^ g∧ae=.int .i64 (nn:Int)∧af=.int .i64 (g:Int)∧xR (RR B s c d e1 j pv wr)∧Fr B none w wr∧xR (Np s e1 nn k c=Np s e1 n0 3 a1)∧xR (e1=0→nn=Cd (Ia s (a+1) c)∧a+1<c))
 case atStart=>exact⟨a1,n0,1,rfl,tY _,by omega,by simp,rfl,ac,ad,rfl,Y⟩
 obtain⟨c,nn,g,ay,az,H,rfl,rfl,hp,hf,m,z⟩:=hrel;have a0:nn<10000:=tU H (uJ (Nat.pow_le_pow_right (by omega) (show g≤4 by omega)) (by decide));have ag:=Ae H;clear H;by_cases ah:gk=0
 ·subst ah;have ai:¬(g:Int)<4:=by omega
  have f:xR (Np s e1 nn 0 c=c):=by show _=_;unfold Np;split <;> rfl
  go_wp21;go_ret;have u:RQ B s d j pv w (xW (e,a) (xX (D1 s))) wr:=⟨e1,c,by rw[p.o,←m.o,f.o],hp.o,hf⟩;exact⟨_,rfl,G.o c nn (by rw[p.o,←m.o,f.o]) hp.o.1 z.o,u⟩
 obtain⟨k,rfl⟩:=Bx ah;have ai:(g:Int)<4:=by omega
 by_cases I:nn=0
 ·have aj:¬(0:Int)<(nn:Int):=by omega
  have f:xR (Np s e1 nn (k+1) c=c):=by show _=_;unfold Np;rw[if_neg (by omega)]
  clear I;go_wp21;go_ret;have u:RQ B s d j pv w (xW (e,a) (xX (D1 s))) wr:=⟨e1,c,by rw[p.o,←m.o,f.o],hp.o,hf⟩;exact⟨_,rfl,G.o c nn (by rw[p.o,←m.o,f.o]) hp.o.1 z.o,u⟩
 have aj:(0:Int)<(nn:Int):=by omega
 go_wp21;go_call I5 B s c d e1 j 48 57 48 57 pv _ E (by omega) rfl rfl hp.o as C ak ⟨rfl,p2,P⟩;have Q:=Ae p2;clear p2;cases b:sn s e1 48 57 c
 ·have f:xR (Np s e1 nn (k+1) c=c):=by
   show _=_;unfold Np;split
   ·rename_i al;obtain⟨rfl,_⟩:=al;exact It (by unfold sn at b;simpa using b)
   rfl
  clear b I;go_wp21;go_ret;have u:RQ B s d j pv w (xW (e,a) (xX (D1 s))) ak:=⟨e1,c,by rw[p.o,←m.o,f.o],Q.o,hf.seq P⟩;exact⟨_,rfl,G.o c nn (by rw[p.o,←m.o,f.o]) hp.o.1 z.o,u⟩
 obtain rfl:e1=0:=K9 b;have J:=Ae (z.o rfl);have l:=Mz b;have am:=Cu (s:=s) (a:=c) (by omega);have f:xR (xW (0,c) (xX (Jt s))=(0,c+1)):=by show _=_;rw[Bf,←DM,Gk (Su l)]
 have an:xR (∀dd,Np s 0 (10*nn+dd) k (c+1)=Np s 0 n0 3 a1):=by show ∀dd,_=_;intro dd;rw[←m.o];unfold Np;rw[if_pos (by omega),if_pos (by omega),Mn l]
 clear b I l;go_wp21;go_call Md B s c d 0 j pv _ E Q.o as C w3 ⟨dd,rfl,⟨a2,K⟩,e3,a3,A,R,ao⟩;rw[f.o] at A K;have ap:xR ((0:Nat)=0→10*nn+dd=Cd (Ia s (a+1) (c+1))∧a+1<c+1):=fun _=>⟨Zw am (by have:=J.o.2;omega) J.o.1 (K rfl),by have:=J.o.2;omega⟩;clear K;injection A with A aq;subst A aq;have ar:=Ae R;clear R;go_wp21;go_roundg k
 case measure=>omega
 exact⟨c+1,10*nn+dd,g+1,by omega,by omega,by have:=ag.o;rw[Nat.pow_succ];omega,by go_num,by go_num,ar,(hf.seq P).seq ao,an.o dd,ap⟩
theorem Fr.grown {B:Nat}{row:Option Nat}{a w w':World}{r:Option Nat}(h:Fr B row a w)(hg:w.grownBy w' r)(hr:r=row∨∀k,r=some k→a.heap.size≤k):Fr B row a w' :=
 ⟨hg.os.trans h.os,hg.tape.trans h.tape,hg.output.trans h.output,uJ h.size hg.size,fun k b hB c=>(hg.block k (tU b h.size) (fun x=>by
  rcases hr with hr|hr
  ·rw[hr] at x;exact c x
  have:=hr k x.symm;omega)).trans (h.block k b hB c)⟩
theorem RR.grown {B:Nat}{s:ByteArray}{a d e j:Nat}{pv:Value}{w w':World}{r:Option Nat}(h:RR B s a d e j pv w)(hg:w.grownBy w' r)(hr:some B≠r):RR B s a d e j pv w' :=
 ⟨h.1,(hg.block B (Aa h.2) hr).trans h.2⟩
theorem RR.alloc {B:Nat}{s:ByteArray}{a d e j:Nat}{pv:Value}{w:World}(h:RR B s a d e j pv w)(o:Obj):RR B s a d e j pv (w.alloc o):=⟨h.1,(Below.heap_alloc _ _ _ (Aa h.2)).trans h.2⟩
theorem Gc {B:Nat}{row:Option Nat}{w w':World}{base:Nat}{e:TypeId}{size:Nat}{v:Value}{n:Nat}{xs:List Value}(h:w.ownsRow base e size v n xs)(hf:Fr B row w w')(hB:v.ownBlock≠some B)(hr:v.ownBlock=none∨v.ownBlock≠row):w'.ownsRow base e size v n xs:=by
 refine⟨h.1,?_⟩;rcases h.2 with hn|⟨g,cap,b,rfl,c,a,rest⟩
 ·exact .inl hn
 refine .inr ⟨g,cap,b,rfl,c,?_,rest⟩;rw[hf.block g (Aa a) (by intro x;exact hB (by rw[x];rfl)) (by simpa [Value.ownBlock] using hr)];exact a
theorem TL (w:World)(x:Value)(t:TypeId):∀(j:Nat) (a:Value),[x][j]? =some a→(w.alloc (.cells #[x] t)).cell? ((⟨w.heap.size,0,none⟩:Addr).add j)=some a:=World.news_of_block (heap_alloc_new w _)
def Zx (s:ByteArray):Nat→Nat→List Nat
 |0,_=>[]
 |k+1,c=>if bt s c=44 then C6 s k (c+1) else []
theorem Zy (s:ByteArray)(k a:Nat):C6 s k a=Nk s a::Zx s k (a+1):=by cases k <;> rfl
theorem Ri {s:ByteArray}{e a:Nat}{x:Nat}(h:xW (e,a) (xX (Jt s))=(0,x)):e=0∧x=a+1:=by
 obtain⟨c,d,b⟩:=Fa (show (xW (e,a) (xX (Jt s))).1=0 by rw[h]);rw[h] at b;exact⟨c,b.trans (DV d)⟩
def eY (s:ByteArray)(base:Nat)(e a:Nat)(en:Ending)(w':World):Prop :=
 ∃(ad:Option Addr) (n c:Nat) (L:List Nat),en=.returned (.slice ad n c)∧w'.ownsRow base 3 1 (.slice ad n c) L.length (Gp L)∧L.length≤6∧(∀x∈L,x≤9)∧((xW (e,a) (xX (Dh s 5))).1=0→L=C6 s 5 a)
theorem FT (B:Nat)(s:ByteArray)(a d e j:Nat)(pv:Value)(w:World)(u:s.size≤1000)(h:RR B s a d e j pv w) :
 Calls prog 167 #[C1 B] w fun r w'=>eY s w.heap.size e a r w'∧RQ B s d j pv w (xW (e,a) (xX (Dh s 5))) w':=by
 have V:=Ae h;have bg:=Aa h.2;obtain⟨i,hi,W,X,Y⟩:=info_parts qR;have Z:=Ae (MR s (e,a));clear h;go_enter func167,ntmps167;go_wp21;go_call Md B s a d e j pv _ u V.o as r w1 ⟨n1,rfl,J,e1,a1,y,p1,M⟩;have am:xR (xW (e1,a1) (xX (To s 5))=xW (e,a) (xX (Dh s 5))):=by show _=_;rw[Z.o,y]
 have aa:=Ae p1;have an:xR (e1=0→[n1]++Zx s 5 a1=C6 s 5 a):=fun b=>by rw[b] at y;have l:=(Ri y).2;rw[Zy,l,J.2 (by rw[y])];rfl
 have bh:=J.1;clear y p1 J;have bi:=M.size;go_wp2_with (at_builtin;refine wpList_append_lies _ (by rfl) (.tmp 7) (.tmp 9) 136 (by rfl) w.heap.size 3 i (.int .i64 0) 1 8 underlying136 hi W X Y rfl (by decide) (.slice none 0 0) 0 [] (by rfl) (World.ownsRow_nil _ _ _ _) ⟨w1.heap.size,0,none⟩ 1 1 [.int .i64 (n1:Int)] (by rfl) rfl (TL w1 _ _) (by intro ao z;simp at z;subst z;rfl) (by decide) (by decide) (by decide) (by simp;omega) (w1.heap.size+1) (by simp) ?_);intro g cap N A o O P;have ap:xR (some B≠Value.ownBlock (.slice none 0 0)):=by show _≠_;simp[Value.ownBlock]
 have aq:xR (RR B s a1 d e1 j pv N):=(aa.o.alloc _).grown o ap.o;have ar:Fr B none w N:=(M.alloc _).grown o (.inr (by simp[Value.ownBlock]));have au:xR (N.ownsRow w.heap.size 3 1 (.slice (some ⟨g,0,none⟩) (0+1) cap) (0+1) ([]++[.int .i64 (n1:Int)])):=A;clear A o O P aa M Z V;go_wp21;go_loopg [3] 5 (fun k av wr=>∃(c e2 n g cap:Nat) (L:List Nat),n+k=6∧1≤n∧av=.slice (some ⟨g,0,none⟩) n cap∧xR (L.length=n∧(∀x∈L,x≤9)∧(e2=0→L++Zx s k c=C6 s 5 a))∧xR (wr.ownsRow w.heap.size 3 1 (.slice (some ⟨g,0,none⟩) n cap) n (Gp L))∧xR (RR B s c d e2 j pv wr)∧Fr B none w wr∧xR (xW (e2,c) (xX (To s k))=xW (e,a) (xX (Dh s 5))))
 case atStart=>exact⟨a1,e1,1,g,cap,[n1],rfl,tY _,rfl,Ae ⟨rfl,fun x f=>by simp at f;omega,an.o⟩,au,aq,ar,am⟩
 obtain⟨c,e2,n,g,cap,L,_,J,rfl,t,hO,hp,hf,C⟩:=hrel;have Np:∀(ab:World),xR (RR B s c d e2 j pv ab)→Fr B none w ab→xR (xW (e2,c) (xX (tk s 93))=xW (e,a) (xX (Dh s 5)))→True:=fun _ _ _ _=>trivial;clear Np;by_cases aw:gk=0
 ·subst aw;have f:¬(n:Int)<6:=by omega
  go_wp21;go_call Il B s c d e2 j 93 93 pv _ u (by omega) rfl hp.o as r w4 ⟨v,rfl,e4,a4,D,Q,E⟩;have R:=Ae D;clear D;have S:xR (eY s w.heap.size e a (.returned (.slice (some ⟨g,0,none⟩) n cap)) w4):=by
   obtain⟨p,l,F⟩:=t.o;have ac:B≠g:=fun x=>(by have:=(hO.o.lt g rfl).1;omega);refine⟨_,_,_,L,rfl,?_,by omega,l,fun b=>?_⟩
   ·rw[p];exact Gc hO.o E (by simp[Value.ownBlock];omega) (.inr (by simp[Value.ownBlock]))
   rw[←C.o] at b;have q:=F (Fa b).1;rw[show Zx s 0 c=[] from rfl,vT] at q;exact q
  go_wp21;go_ret;exact⟨S.o,e4,a4,by rw[←C.o];exact R.o,Q,hf.seq E⟩
 obtain⟨k,rfl⟩:=Bx aw;have f:(n:Int)<6:=by omega
 go_wp21;go_call I5 B s c d e2 j 44 44 44 44 pv _ u (by omega) rfl rfl hp.o as r w3 ⟨rfl,ad,G⟩;have K:=Ae ad;clear ad;cases m:sn s e2 44 44 c
 ·have H:xR (xW (e2,c) (xX (tk s 93))=xW (e,a) (xX (Dh s 5))):=by show _=_;rw[←C.o,UG];rintro⟨p,l⟩;unfold sn at m;simp at m;have:=m p;omega
  have ax:=Ae m;clear m;go_wp21;go_call Il B s c d e2 j 93 93 pv _ u (by omega) rfl K.o as r w4 ⟨v,rfl,e4,a4,D,Q,E⟩;have R:=Ae D;clear D;have S:xR (eY s w.heap.size e a (.returned (.slice (some ⟨g,0,none⟩) n cap)) w4):=by
   obtain⟨p,l,F⟩:=t.o;have ac:B≠g:=fun x=>(by have:=(hO.o.lt g rfl).1;omega);refine⟨_,_,_,L,rfl,?_,by omega,l,fun b=>?_⟩
   ·rw[p];exact Gc (Gc hO.o G (by simp[Value.ownBlock];omega) (.inr (by simp[Value.ownBlock]))) E (by simp[Value.ownBlock];omega) (.inr (by simp[Value.ownBlock]))
   rw[←H.o] at b;have ae:=(Fa b).1;have q:=F ae;have ay:¬bt s c=44:=fun az=>(by have af:=ax.o;unfold sn at af;simp[ae,az] at af);have a0:Zx s (k+1) c=[]:=(by show (if bt s c=44 then _ else _)=_;rw[if_neg ay]);rw[a0,vT] at q;exact q
  go_wp21;go_ret;exact⟨S.o,e4,a4,by rw[←H.o];exact R.o,Q,(hf.seq G).seq E⟩
 obtain rfl:e2=0:=K9 m;have a2:=Mz m;have bj:=Cu (s:=s) (a:=c) (by omega);have a3:xR (bt s c=44):=by show _=_;omega
 have a6:xR (L.length=n∧(∀x∈L,x≤9)∧L++Zx s (k+1) c=C6 s 5 a):=⟨t.o.1,t.o.2.1,t.o.2.2 rfl⟩;clear t;have H:xR (xW (xW (0,c+1) (xX (Jt s))) (xX (To s k))=xW (e,a) (xX (Dh s 5))):=by show _=_;rw[←C.o,UF (by omega)]
 have c1:=K.o.c1;have a7:=K.o.f 1;have ag:xR (RR B s (c+1) d 0 j pv (w3.setCell ⟨B,1,none⟩ (.int .i64 ((c:Int)+1)))):=K.o.setAt (by omega);clear m a2;go_wp21;go_call Md B s (c+1) d 0 j pv _ u ag.o as r w5 ⟨n5,rfl,T,e5,a5,I,ah,U⟩;have a8:xR (xW (e5,a5) (xX (To s k))=xW (e,a) (xX (Dh s 5))):=by show _=_;rw[←H.o,I]
 have a9:xR ((L++[n5]).length=n+1∧(∀x∈L++[n5],x≤9)∧(e5=0→(L++[n5])++Zx s k a5=C6 s 5 a)):=by
  obtain⟨p,l,F⟩:=a6.o;refine⟨by simp[p],fun x f=>?_,fun b=>?_⟩
  ·rcases tW.1 f with f|f
   ·exact l x f
   simp at f;have:=T.1;omega
  rw[b] at I;have ba:=(Ri I).2;have q:=T.2 (by rw[I]);rw[←F,ba,q,wJ];show _=L++(if bt s c=44 then C6 s k (c+1) else []);rw[if_pos a3.o,Zy];rfl
 have ai:=Ae ah;clear I ah T;have aj:Fr B none w w5:=((hf.seq G).setCell _ _).seq U;have ac:B≠g:=fun x=>by have:=(hO.o.lt g rfl).1;omega
 have bb:xR (w5.ownsRow w.heap.size 3 1 (.slice (some ⟨g,0,none⟩) n cap) n (Gp L)) :=
  Gc (Gc hO.o ((G.setCell 1 (.int .i64 ((c:Int)+1)))) (by simp[Value.ownBlock];omega) (.inr (by simp[Value.ownBlock]))) U (by simp[Value.ownBlock];omega) (.inr (by simp[Value.ownBlock]))
 have bk:=aj.size;have bl:=(hO.o.lt g rfl).1;clear ag c1 a7 C H U G hO;go_wp2_with (at_builtin;refine wpList_append_lies _ (by rfl) (.tmp 27) (.tmp 29) 136 (by rfl) w.heap.size 3 i (.int .i64 0) 1 8 underlying136 hi W X Y rfl (by decide) (.slice (some ⟨g,0,none⟩) n cap) n (Gp L) (by rfl) (bb.o.alloc _) ⟨w5.heap.size,0,none⟩ 1 1 [.int .i64 (n5:Int)] (by rfl) rfl (TL w5 _ _) (by intro ao z;simp at z;subst z;rfl) (by decide) (by unfold maxLen;omega) (by omega) (by simp;omega) (w5.heap.size+1) (by simp) ?_);intro ak al w6 A o O P;have bc:xR (some B≠Value.ownBlock (.slice (some ⟨g,0,none⟩) n cap)):=by show _≠_;simp[Value.ownBlock];omega
 have bd:xR (RR B s a5 d e5 j pv w6):=(ai.o.alloc _).grown o bc.o;have be:Fr B none w w6:=(aj.alloc _).grown o (.inr (by simp[Value.ownBlock];omega));have bf:xR (w6.ownsRow w.heap.size 3 1 (.slice (some ⟨ak,0,none⟩) (n+1) al) (n+1) (Gp (L++[n5]))):=by have:=A;show World.ownsRow _ _ _ _ _ _ _;unfold Gp at this⊢;rw[uF];exact this
 clear A o O P ai;go_wp21;go_roundg k
 case measure=>omega
 exact⟨a5,e5,n+1,ak,al,L++[n5],by omega,by omega,rfl,a9,bf,bd,be,a8⟩
end Go.Proofs.YtdinjjmcmfjbfaaGreatDoor
