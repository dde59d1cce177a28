import Derived.Test.YtdinjjmcmfjbfaaGreatDoorRc2J
set_option maxRecDepth 100000
set_option maxHeartbeats 4000000
namespace Go.Proofs.YtdinjjmcmfjbfaaGreatDoor
open Go.RowKit
structure Fr (B:Nat) (row:Option Nat) (w w':World):Prop where
 os:w'.os=w.os
 tape:w'.tape=w.tape
 output:w'.output=w.output
 size:w.heap.size≤w'.heap.size
 block:∀k,k<w.heap.size→k≠B→some k≠row→w'.heap[k]? =w.heap[k]?
theorem Fr.refl (B:Nat)(row:Option Nat)(w:World):Fr B row w w:=⟨rfl,rfl,rfl,kZ _,fun _ _ _ _=>rfl⟩
theorem Fr.trans {B:Nat}{row d:Option Nat}{a b c:World}(h:Fr B row a b)(k:Fr B d b c)(hr:d=none∨d=row∨∀x,d=some x→a.heap.size≤x):Fr B row a c:=by
 refine⟨k.os.trans h.os,k.tape.trans h.tape,k.output.trans h.output,lH h.size k.size,fun i hi hB f=>?_⟩
 refine (k.block i (kV hi h.size) hB fun e=>?_).trans (h.block i hi hB f)
 rcases hr with hr|hr|hr
 ·rw[hr] at e;cases e
 ·rw[hr] at e;exact f e
 ·have:=hr i e.symm;omega
theorem Fr.seq {B:Nat}{row:Option Nat}{a b c:World}(h:Fr B row a b)(k:Fr B none b c):Fr B row a c:=h.trans k (.inl rfl)
theorem Fr.drewN {B:Nat}{row:Option Nat}{a w:World}(h:Fr B row a w)(n:Nat):Fr B row a (w.drewN n):=⟨h.os,h.tape,h.output,h.size,h.block⟩
theorem Fr.drew {B:Nat}{row:Option Nat}{a w:World}(h:Fr B row a w):Fr B row a w.drew:=⟨h.os,h.tape,h.output,h.size,h.block⟩
theorem Fr.setCell {B:Nat}{row:Option Nat}{a w:World}(h:Fr B row a w)(o:Nat)(b:Value):Fr B row a (w.setCell ⟨B,o,none⟩ b) :=
 ⟨h.os,h.tape,h.output,by simpa [World.setCell] using h.size,fun k c hB hr=>(Below.heap_setCell _ _ _ _ hB).trans (h.block k c hB hr)⟩
theorem Fr.Nj {B:Nat}{row:Option Nat}{a w:World}(h:Fr B row a w){g o:Nat}(hg:a.heap.size≤g)(b:Value):Fr B row a (w.setCell ⟨g,o,none⟩ b) :=
 ⟨h.os,h.tape,h.output,by simpa [World.setCell] using h.size,fun k c hB hr=>(Below.heap_setCell _ _ _ _ (by show k≠g;omega)).trans (h.block k c hB hr)⟩
theorem Fr.alloc {B:Nat}{row:Option Nat}{a w:World}(h:Fr B row a w)(o:Obj):Fr B row a (w.alloc o) :=
 ⟨h.os,h.tape,h.output,lH h.size (by simp),fun k b hB hr=>(Below.heap_alloc _ _ _ (kV b h.size)).trans (h.block k b hB hr)⟩
theorem Fr.weaken {B:Nat}{row:Option Nat}{a w:World}(h:Fr B none a w):Fr B row a w:=⟨h.os,h.tape,h.output,h.size,fun k b hB _=>h.block k b hB (by simp)⟩
theorem Fr.below {B:Nat}{row:Option Nat}{a w:World}(h:Fr B row a w){b:Nat}(hB:b≤B)(_:b≤a.heap.size)(hr:∀x,row=some x→b≤x):Below b a w :=
 ⟨h.os,h.tape,h.output,h.size,fun k c=>h.block k (by omega) (by omega) (fun e=>by have:=hr k e.symm;omega)⟩
def RR (B:Nat)(s:ByteArray)(a d e j:Nat)(pv:Value)(w:World):Prop :=
 a≤s.size∧w.heap[B]? =some (.cells #[.string s,.int .i64 (a:Int),.int .i64 (d:Int),.int .i64 (e:Int),.int .i64 (j:Int),pv] 258 (0,0))
section
variable {B:Nat} {s:ByteArray} {a d e j:Nat} {pv:Value} {w:World}
theorem RR.c0 (h:RR B s a d e j pv w):w.cell? ⟨B,0,none⟩=some (.string s):=by rw[Ae h.2];rfl
theorem RR.c1 (h:RR B s a d e j pv w):w.cell? ⟨B,1,none⟩=some (.int .i64 (a:Int)):=by rw[Ae h.2];rfl
theorem RR.c2 (h:RR B s a d e j pv w):w.cell? ⟨B,2,none⟩=some (.int .i64 (d:Int)):=by rw[Ae h.2];rfl
theorem RR.c3 (h:RR B s a d e j pv w):w.cell? ⟨B,3,none⟩=some (.int .i64 (e:Int)):=by rw[Ae h.2];rfl
theorem RR.c4 (h:RR B s a d e j pv w):w.cell? ⟨B,4,none⟩=some (.int .i64 (j:Int)):=by rw[Ae h.2];rfl
theorem RR.c5 (h:RR B s a d e j pv w):w.cell? ⟨B,5,none⟩=some pv:=by rw[Ae h.2];rfl
theorem RR.f (h:RR B s a d e j pv w)(o:Nat):w.frozen? ⟨B,o,none⟩=false:=Aj h.2 o
theorem RR.drewN (h:RR B s a d e j pv w)(n:Nat):RR B s a d e j pv (w.drewN n):=h
theorem RR.setAt (h:RR B s a d e j pv w){a':Nat}(b:a'≤s.size):RR B s a' d e j pv (w.setCell ⟨B,1,none⟩ (.int .i64 (a':Int))):=⟨b,by rw[Ap h.2];rfl⟩
theorem RR.Xa (h:RR B s a d e j pv w)(b:Nat):RR B s a b e j pv (w.setCell ⟨B,2,none⟩ (.int .i64 (b:Int))):=⟨h.1,by rw[Ap h.2];rfl⟩
theorem RR.jP (h:RR B s a d e j pv w)(b:Nat):RR B s a d b j pv (w.setCell ⟨B,3,none⟩ (.int .i64 (b:Int))):=⟨h.1,by rw[Ap h.2];rfl⟩
theorem RR.bQ (h:RR B s a d e j pv w)(b:Nat):RR B s a d e b pv (w.setCell ⟨B,4,none⟩ (.int .i64 (b:Int))):=⟨h.1,by rw[Ap h.2];rfl⟩
theorem RR.jQ (h:RR B s a d e j pv w)(v:Value):RR B s a d e j v (w.setCell ⟨B,5,none⟩ v):=⟨h.1,by rw[Ap h.2];rfl⟩
end
def sn (s:ByteArray)(e lo hi a:Nat):Bool:=decide (e=0∧lo≤Pl.bt s a∧Pl.bt s a≤hi)
theorem Ho (B:Nat)(s:ByteArray)(a d e j lo hi:Nat)(i k:Int)(pv:Value)(w:World)(_:s.size≤1000)(_:0<lo)(m:i=(lo:Int))(n:k=(hi:Int))(h:RR B s a d e j pv w) :
 Calls Tryz.prog 171 #[.pointer (some ⟨B,0,none⟩),.int .u8 i,.int .u8 k] w fun o w'=>o=.returned (.bool (sn s e lo hi a))∧RR B s a d e j pv w'∧Fr B none w w':=by
 subst m n;have u:=h.c0;have v:=h.c1;have x:=h.c3;have f:=Ad h;have y:=h.1
 have z:(0:Int)≤(a:Int):=by omega
 clear h
 by_cases g:e=0
 ·subst g
  by_cases l:a<s.size
  ·have A:(a:Int)<(s.size:Int):=by omega
   have b:Pl.bt s a=s[a].toNat:=by unfold Pl.bt;rw[dif_pos l]
   by_cases p:lo≤s[a].toNat
   ·have q:(lo:Int)≤(s[a].toNat:Int):=by omega
    by_cases r:s[a].toNat≤hi
    ·have t:(s[a].toNat:Int)≤(hi:Int):=by omega
     have c:oH (sn s 0 lo hi a=true):=by show _=_;unfold sn;rw[b];simp[p,r]
     clear b
     go_enter Tryz.func171,Tryz.ntmps171
     go_wp2_with fail
     go_quiet (fail)
     go_wp2_with fail;go_ret
     exact⟨Az (by rw[c.o]),f.o.drewN _,(Fr.refl _ _ _).drewN _⟩
    ·have t:decide ((s[a].toNat:Int)≤(hi:Int))=false:=by simp;omega
     have c:oH (sn s 0 lo hi a=false):=by show _=_;unfold sn;rw[b];simp;omega
     clear b
     go_enter Tryz.func171,Tryz.ntmps171
     go_wp2_with fail
     go_quiet (fail)
     go_wp2_with fail;go_ret
     exact⟨Az (by rw[c.o]),f.o.drewN _,(Fr.refl _ _ _).drewN _⟩
   ·have q:decide ((lo:Int)≤(s[a].toNat:Int))=false:=by simp;omega
    have c:oH (sn s 0 lo hi a=false):=by show _=_;unfold sn;rw[b];simp;omega
    clear b
    go_enter Tryz.func171,Tryz.ntmps171
    go_wp2_with fail
    go_quiet (fail)
    go_wp2_with fail;go_ret
    exact⟨Az (by rw[c.o]),f.o.drewN _,(Fr.refl _ _ _).drewN _⟩
  ·have b:Pl.bt s a=0:=by unfold Pl.bt;rw[dif_neg l]
   have C:decide ((a:Int)<(s.size:Int))=false:=by simp;omega
   have c:oH (sn s 0 lo hi a=false):=by show _=_;unfold sn;rw[b];simp;omega
   clear b
   go_enter Tryz.func171,Tryz.ntmps171
   go_wp2_with fail
   go_quiet (fail)
   go_wp2_with fail;go_ret
   exact⟨Az (by rw[c.o]),f.o.drewN _,(Fr.refl _ _ _).drewN _⟩
 ·have D:((e:Int) == 0)=false:=by simp;omega
  have c:oH (sn s e lo hi a=false):=by show _=_;unfold sn;simp[g]
  clear g
  go_enter Tryz.func171,Tryz.ntmps171
  go_wp2_with fail
  go_quiet (fail)
  go_wp2_with fail;go_ret
  exact⟨Az (by rw[c.o]),f.o.drewN _,(Fr.refl _ _ _).drewN _⟩
theorem bR {s:ByteArray}{lo hi a:Nat}(h:sn s 0 lo hi a=true):Pl.rng s lo hi a=(true,a+1):=by unfold sn at h;unfold Pl.rng;rw[if_pos (by simpa using h)]
theorem WY {s:ByteArray}{lo hi a:Nat}(h:sn s 0 lo hi a=false):Pl.rng s lo hi a=(false,a):=by unfold sn at h;unfold Pl.rng;rw[if_neg (by simpa using h)]
theorem Jq {s:ByteArray}{e lo hi a:Nat}(h:sn s e lo hi a=true):e=0:=by unfold sn at h;simp at h;exact h.1
theorem Lk {s:ByteArray}{e lo hi a:Nat}(h:sn s e lo hi a=true):lo≤Pl.bt s a∧Pl.bt s a≤hi:=by unfold sn at h;simp at h;exact h.2
def RQ (B:Nat)(s:ByteArray)(d j:Nat)(pv:Value)(w:World)(X:Nat×Nat)(w':World):Prop:=∃e' a',X=(e',a')∧RR B s a' d e' j pv w'∧Fr B none w w'
def KD (e k:Nat):Nat:=if e=0 then k else e
theorem T6 (B:Nat)(s:ByteArray)(a d e j k:Nat)(c:Int)(pv:Value)(w:World)(g:c=(k:Int))(h:RR B s a d e j pv w) :
 Calls Tryz.prog 131 #[.pointer (some ⟨B,0,none⟩),.int .i64 c] w fun i w'=>i=.returned (.tuple #[])∧RR B s a d (KD e k) j pv w'∧Fr B none w w':=by
 subst g;have m:=h.c3;have n:=h.f 3;have f:=Ad h;clear h
 by_cases b:e=0
 ·subst b
  go_enter Tryz.func131,Tryz.ntmps131
  go_wp2_with fail;go_end0
  exact⟨rfl,f.o.jP k,(Fr.refl _ _ _).setCell _ _⟩
 ·have o:((e:Int) == 0)=false:=by simp;omega
  have l:oH (KD e k=e):=by show _=_;unfold KD;rw[if_neg b]
  clear b
  go_enter Tryz.func131,Tryz.ntmps131
  go_wp2_with fail;go_end0
  exact⟨rfl,by rw[l.o];exact f.o,Fr.refl _ _ _⟩
theorem Ih (B:Nat)(s:ByteArray)(a d e j lo hi:Nat)(l m:Int)(pv:Value)(w:World)(q:s.size≤1000)(r:0<lo)(t:lo≤hi)(u:l=(lo:Int))(v:m=(hi:Int))(h:RR B s a d e j pv w) :
 Calls Tryz.prog 139 #[.pointer (some ⟨B,0,none⟩),.int .u8 l,.int .u8 m] w fun g w'=>∃c:Nat,g=.returned (.int .u8 (c:Int))∧lo≤c∧c≤hi∧(sn s e lo hi a=true→c=Pl.bt s a)∧RQ B s d j pv w (Pl.bE (e,a) (Pl.lf (Pl.rng s lo hi))) w':=by
 subst u v;have y:=Ad h;have D:=h.1;clear h
 go_enter Tryz.func139,Tryz.ntmps139
 go_wp2_with fail;refine (Ho B s a d e j lo hi _ _ pv _ q r rfl rfl y.o).mono ?_;rintro g E ⟨rfl,p1,n⟩
 cases b:sn s e lo hi a
 ·have f:=Ad b
  have i:=Ad p1;clear p1 b;go_wp2_with fail;refine (T6 B s a d e j 2 2 pv _ rfl i.o).mono ?_;rintro g F ⟨rfl,p2,z⟩;go_wp2_with fail;go_ret
  refine⟨lo,rfl,kZ _,t,(fun x=>by rw[f.o] at x;cases x),⟨_,_,?_,p2,n.seq z⟩⟩
  by_cases k:e=0
  ·subst k;rw[Pl.A3,Pl.E6 (WY f.o)];rfl
  ·rw[Pl.Bi k];unfold KD;rw[if_neg k]
 ·obtain rfl:e=0:=Jq b
  have o:=Lk b
  have A:=Pl.B4 (s:=s) (a:=a) (by omega)
  have G:=p1.c0;have c1:=p1.c1;have H:=p1.f 1;have f:=Ad b;have i:=Ad p1
  have C:oH (Pl.bt s a=s[a].toNat):=by show _=_;unfold Pl.bt;rw[dif_pos A]
  have p:=Ad o;clear p1 b o
  have I:(0:Int)≤(a:Int):=by omega
  have J:(a:Int)<(s.size:Int):=by omega
  go_wp2_with fail
  go_quiet (fail)
  go_wp2_with fail;go_ret
  refine⟨Pl.bt s a,Bb (by rw[C.o]),p.o.1,p.o.2,fun _=>rfl,⟨0,a+1,?_,(i.o.setAt (by omega)).drewN _,(n.setCell _ _).drewN _⟩⟩
  rw[Pl.A3,Pl.Fh (bR f.o)]
theorem Ar (B:Nat)(s:ByteArray)(a d e j c:Nat)(b:Int)(pv:Value)(w:World)(k:s.size≤1000)(l:0<c)(f:b=(c:Int))(h:RR B s a d e j pv w) :
 Calls Tryz.prog 139 #[.pointer (some ⟨B,0,none⟩),.int .u8 b,.int .u8 b] w fun g w'=>∃v:Nat,g=.returned (.int .u8 (v:Int))∧RQ B s d j pv w (Pl.bE (e,a) (Pl.lf (Pl.tk s c))) w':=by
 refine (Ih B s a d e j c c b b pv w k l (kZ _) f f h).mono ?_;rintro g m ⟨v,rfl,_,_,_,i⟩
 rw[Pl.SA] at i
 exact⟨v,rfl,i⟩
theorem Rg (B:Nat)(s:ByteArray)(a d e j c:Nat)(b:Int)(pv:Value)(w:World)(k:s.size≤1000)(l:0<c)(f:b=(c:Int))(h:RR B s a d e j pv w) :
 Calls Tryz.prog 139 #[.pointer (some ⟨B,0,none⟩),.int .u8 b,.int .u8 b] w fun g w'=>g=.returned (.int .u8 (c:Int))∧RQ B s d j pv w (Pl.bE (e,a) (Pl.lf (Pl.tk s c))) w':=by
 refine (Ih B s a d e j c c b b pv w k l (kZ _) f f h).mono ?_;rintro g m ⟨v,rfl,_,_,_,i⟩
 rw[Pl.SA] at i
 exact⟨by rw[show v=c by omega],i⟩
theorem Ef {p:Nat→Bool×Nat}{e a:Nat}(h:(Pl.bE (e,a) (Pl.lf p)).1=0):e=0∧p a=(true,(p a).2)∧(Pl.bE (e,a) (Pl.lf p)).2=(p a).2:=by
 by_cases b:e=0
 ·subst b
  rw[Pl.A3] at h⊢
  unfold Pl.lf at h⊢
  by_cases c:(p a).1=true
  ·exact⟨rfl,Prod.ext c rfl,rfl⟩
  ·rw[if_neg c] at h;cases h
 ·rw[Pl.Bi b] at h;exact absurd h b
theorem fH {s:ByteArray}{e a:Nat}(h:(Pl.bE (e,a) (Pl.lf (Pl.Hr s))).1=0):sn s e 48 57 a=true:=by
 obtain⟨d,b,_⟩:=Ef h
 have f:48≤Pl.bt s a∧Pl.bt s a≤57:=by
  by_cases c:48≤Pl.bt s a∧Pl.bt s a≤57
  ·exact c
  ·have g:Pl.Hr s a=(false,a):=Pl.N2 c
   rw[g] at b;cases b
 unfold sn;simp[d,f]
theorem Cx (B:Nat)(s:ByteArray)(a d e j c:Nat)(i:Int)(pv:Value)(w:World)(m:s.size≤1000)(n:0<c)(o:i=(c:Int))(h:RR B s a d e j pv w) :
 Calls Tryz.prog 138 #[.pointer (some ⟨B,0,none⟩),.int .u8 i] w fun k w'=>∃(ok:Bool) (a':Nat),k=.returned (.bool ok)∧oH (sn s e c c a=ok)∧a'=(if ok=true then a+1 else a)∧RR B s a' d e j pv w'∧Fr B none w w':=by
 subst o;have p:=Ad h;clear h
 go_enter Tryz.func138,Tryz.ntmps138
 go_wp2_with fail;refine (Ho B s a d e j c c _ _ pv _ m n rfl rfl p.o).mono ?_;rintro k r ⟨rfl,p1,l⟩
 cases b:sn s e c c a
 ·have f:=Ad b
  have g:=Ad p1;clear p1 b;go_wp2_with fail;go_ret
  exact⟨false,a,rfl,f,rfl,g.o,l⟩
 ·have q:=Lk b
  have t:=Pl.B4 (s:=s) (a:=a) (by omega)
  have c1:=p1.c1;have u:=p1.f 1;have f:=Ad b;have g:=Ad p1;clear p1 b q;go_wp2_with fail;go_ret
  exact⟨true,a+1,rfl,f,rfl,g.o.setAt (by omega),l.setCell _ _⟩
theorem Df (B:Nat)(s:ByteArray)(a d e j:Nat)(pv:Value)(w:World)(g:s.size≤1000)(h:RR B s a d e j pv w) :
 Calls Tryz.prog 165 #[.pointer (some ⟨B,0,none⟩)] w fun c w'=>∃n:Nat,c=.returned (.int .i64 (n:Int))∧(n≤9∧((Pl.bE (e,a) (Pl.lf (Pl.Hr s))).1=0→n=Kw s a))∧RQ B s d j pv w (Pl.bE (e,a) (Pl.lf (Pl.Hr s))) w':=by
 have i:=Ad h;clear h
 go_enter Tryz.func165,Tryz.ntmps165
 go_wp2_with fail
 refine (Ih B s a d e j 48 57 48 57 pv _ g (by omega) (by omega) rfl rfl i.o).mono ?_
 rintro c r ⟨v,rfl,k,l,f,b⟩
 rw[Pl.Zq] at b
 have m:=Ad b;clear b
 obtain⟨n,rfl⟩:∃n,v=n+48:=⟨v-48,by omega⟩
 have o:oH ((Pl.bE (e,a) (Pl.lf (Pl.Hr s))).1=0→n=Kw s a):=fun p=>by have:=f (fH p);unfold Kw;omega
 clear f
 have q:n≤9:=by omega
 clear k l
 have e1:IntKind.u8.wrap ((n:Int)+48-48)=(n:Int):=by rw[show (n:Int)+48-48=(n:Int) by omega];simp[IntKind.wrap,IntKind.bits,IntKind.signed];omega
 go_wp2_with fail;go_ret
 refine⟨n,Bb ?_,⟨q,o.o⟩,m.o⟩
 simp
theorem Mr (B:Nat)(s:ByteArray)(a d e j:Nat)(pv:Value)(w:World)(l:s.size≤1000)(_:d≤100)(h:RR B s a d e j pv w) :
 Calls Tryz.prog 168 #[.pointer (some ⟨B,0,none⟩)] w fun c w'=>c=.returned (.tuple #[])∧RQ B s (d+1) j pv w (Pl.Up s d e a) w':=by
 have C:=Ad h;clear h
 go_enter Tryz.func168,Tryz.ntmps168
 go_wp2_with fail
 refine (Ho B s a d e j 40 40 40 40 pv _ l (by omega) rfl rfl C.o).mono ?_
 rintro c K ⟨rfl,p1,n⟩;have c2:=p1.c2;have o:=Ad p1;clear p1
 cases b:sn s e 40 40 a
 ·have f:oH (Pl.Up s d e a=Pl.bE (e,a) (Pl.lf (Pl.tk s 40))):=by
   show _=_
   unfold Pl.Up;rw[if_neg]
   rintro⟨D,_,_⟩
   unfold sn at b;simp at b;have:=b D;omega
  clear b;go_wp2_with fail
  refine (Ar B s a d e j 40 40 pv _ l (by omega) rfl o.o).mono ?_
  rintro c p ⟨v,rfl,q,r,g,p2,i⟩;have t:=Ad g;have x:=p2.c2;have y:=p2.f 2;have k:=Ad p2;clear g p2;go_wp2_with fail;go_end0
  exact⟨rfl,q,r,f.o.trans t.o,k.o.Xa (d+1),(n.seq i).setCell _ _⟩
 ·obtain rfl:e=0:=Jq b
  have z:=Lk b;clear b
  by_cases u:d=6
  ·have E:((d:Int) == 6)=true:=by simp;omega
   have f:oH (Pl.Up s d 0 a=(3,a)):=by show _=_;unfold Pl.Up;rw[if_pos ⟨rfl,by omega,u⟩]
   clear u z;go_wp2_with fail;refine (T6 B s a d 0 j 3 3 pv _ rfl o.o).mono ?_;rintro c p ⟨rfl,p2,i⟩;have k:oH (RR B s a d 3 j pv p):=p2;clear p2;go_wp2_with fail
   refine (Ar B s a d 3 j 40 40 pv _ l (by omega) rfl k.o).mono ?_
   rintro c w3 ⟨v,rfl,F,G,A,m,H⟩;have I:=Ad A;have x:=m.c2;have y:=m.f 2;have J:=Ad m;clear A m;go_wp2_with fail;go_end0
   exact⟨rfl,F,G,f.o.trans I.o,J.o.Xa (d+1),((n.seq i).seq H).setCell _ _⟩
  ·have E:((d:Int) == 6)=false:=by simp;omega
   have f:oH (Pl.Up s d 0 a=Pl.bE (0,a) (Pl.lf (Pl.tk s 40))):=by show _=_;unfold Pl.Up;rw[if_neg (by omega)]
   clear u z;go_wp2_with fail
   refine (Ar B s a d 0 j 40 40 pv _ l (by omega) rfl o.o).mono ?_
   rintro c p ⟨v,rfl,q,r,g,p2,i⟩;have t:=Ad g;have x:=p2.c2;have y:=p2.f 2;have k:=Ad p2;clear g p2;go_wp2_with fail;go_end0
   exact⟨rfl,q,r,f.o.trans t.o,k.o.Xa (d+1),(n.seq i).setCell _ _⟩
theorem Ey (B:Nat)(s:ByteArray)(a d e j:Nat)(pv:Value)(w:World)(o:s.size≤1000)(h:RR B s a d e j pv w) :
 Calls Tryz.prog 140 #[.pointer (some ⟨B,0,none⟩)] w fun m w'=>∃t:ByteArray,m=.returned (.string t)∧((Pl.bE (e,a) (Pl.lf (Pl.A5 s))).1=0→t=s.extract a (Pl.A5 s a).2)∧RQ B s d j pv w (Pl.bE (e,a) (Pl.lf (Pl.A5 s))) w':=by
 have U:=h.1;have p:=h.c1;have E:=Ad h;clear h
 by_cases F:e=0∧97≤Pl.bt s a∧Pl.bt s a≤122
 ·obtain⟨rfl,x,y⟩:=F
  have g:oH (Pl.bE (0,a) (Pl.lf (Pl.A5 s))=(0,Pl.Dk s 97 122 3 (a+1))):=by show _=_;rw[Pl.A3,Pl.Fh];exact Pl.Ux ⟨x,y⟩
  have G:oH ((Pl.A5 s a).2=Pl.Dk s 97 122 3 (a+1)):=by
   have p:=(Ef (show (Pl.bE (0,a) (Pl.lf (Pl.A5 s))).1=0 by rw[g.o])).2.2
   rw[g.o] at p;exact p.symm
  have z:oH (Pl.bE (0,a) (Pl.lf (Pl.rng s 97 122))=(0,a+1)):=by show _=_;rw[Pl.A3,Pl.Fh];unfold Pl.rng;rw[if_pos ⟨x,y⟩]
  clear x y
  go_enter Tryz.func140,Tryz.ntmps140
  go_wp2_with fail
  refine (Ih B s a d 0 j 97 122 97 122 pv _ o (by omega) (by omega) rfl rfl E.o).mono ?_
  rintro m K ⟨v,rfl,_,_,_,e1,a1,b,p1,A⟩
  rw[z.o] at b
  injection b with b C
  subst b C;have D:=Ad p1;clear p1;go_wp2_with fail
  go_loopg [] 3 (fun k wr=>∃c:Nat,c+k=a+4∧a+1≤c∧oH (RR B s c d 0 j pv wr)∧Fr B none w wr∧oH (Pl.Dk s 97 122 k c=Pl.Dk s 97 122 3 (a+1)))
  case atStart=>exact⟨a+1,rfl,kZ _,D,A,rfl⟩
  case round =>
   obtain⟨c,_,_,f,hf,q⟩:=hrel
   have V:=f.o.1;have c1:=f.o.c1
   by_cases L:gk=0
   ·subst L
    have W:decide ((c:Int)-(a:Int)<4)=false:=by simp;omega
    have M:=f.o.c0;have H:=f.o.c3
    have N:(0:Int)≤(a:Int):=by omega
    have O:(a:Int)≤(c:Int):=by omega
    have P:(c:Int)≤(s.size:Int):=by omega
    go_wp2_with fail
    go_quiet (fail)
    go_wp2_with fail;go_ret
    exact⟨_,rfl,fun _=>by rw[G.o,←q.o];rfl,0,c,by rw[g.o,←q.o];rfl,f.o.drewN _,hf.drewN _⟩
   ·obtain⟨k,rfl⟩:∃k,gk=k+1:=⟨gk-1,by omega⟩
    have X:(c:Int)-(a:Int)<4:=by omega
    go_wp2_with fail
    refine (Ho B s c d 0 j 97 122 97 122 pv _ o (by omega) rfl rfl f.o).mono ?_
    rintro m Q ⟨rfl,p2,r⟩
    cases i:sn s 0 97 122 c
    ·have u:oH (c=Pl.Dk s 97 122 3 (a+1)):=by
      have:=q.o;rw[Pl.Ha (by unfold sn at i;simpa using i)] at this;exact this
     have M:=p2.c0;have R:=p2.c1;have H:=p2.c3;have n:=Ad p2;clear p2 i c1
     have N:(0:Int)≤(a:Int):=by omega
     have O:(a:Int)≤(c:Int):=by omega
     have P:(c:Int)≤(s.size:Int):=by omega
     go_wp2_with fail
     go_quiet (fail)
     go_wp2_with fail;go_ret
     exact⟨_,rfl,fun _=>by rw[G.o,←u.o],0,c,by rw[g.o,←u.o],n.o.drewN _,(hf.seq r).drewN _⟩
    ·have I:=Lk i
     have Y:=Pl.B4 (s:=s) (a:=c) (by omega)
     have u:oH (Pl.Dk s 97 122 k (c+1)=Pl.Dk s 97 122 3 (a+1)):=by
      have:=q.o;rw[Pl.K9 I] at this;exact this
     have R:=p2.c1;have Z:=p2.f 1;have n:=Ad p2;clear p2 i I c1;go_wp2_with fail;go_roundg k
     case measure=>omega
     case rel=>exact⟨c+1,by omega,by omega,n.o.setAt (by omega),(hf.seq r).setCell _ _,u⟩
 ·have g:oH (Pl.bE (e,a) (Pl.lf (Pl.A5 s))=(KD e 2,a)):=by
   show _=_
   by_cases l:e=0
   ·subst l;exact Pl.E6 (show Pl.Ua s 4 97 122 a=(false,a) from Pl.N2 (by omega))
   ·rw[Pl.Bi l];unfold KD;rw[if_neg l]
  have z:oH (Pl.bE (e,a) (Pl.lf (Pl.rng s 97 122))=(KD e 2,a)):=by
   show _=_
   by_cases l:e=0
   ·subst l;exact Pl.E6 (show Pl.rng s 97 122 a=(false,a) by unfold Pl.rng;rw[if_neg (by omega)])
   ·rw[Pl.Bi l];unfold KD;rw[if_neg l]
  have J:KD e 2≠0:=by unfold KD;split <;> omega
  have aa:((KD e 2:Int) != 0)=true:=by simp;omega
  have S:=Ad J
  have i:oH (sn s (KD e 2) 97 122 a=false):=by show _=_;unfold sn;simp[J]
  clear F
  go_enter Tryz.func140,Tryz.ntmps140
  go_wp2_with fail
  refine (Ih B s a d e j 97 122 97 122 pv _ o (by omega) (by omega) rfl rfl E.o).mono ?_
  rintro m K ⟨v,rfl,_,_,_,e1,a1,b,p1,A⟩
  rw[z.o] at b
  injection b with b C
  subst b C;have D:=Ad p1;clear p1 p;go_wp2_with fail
  go_loopg [] 0 (fun _ wr=>oH (RR B s a d (KD e 2) j pv wr)∧Fr B none w wr)
  case atStart=>exact⟨D,A⟩
  case round =>
   obtain⟨f,hf⟩:=hrel
   have c1:=f.o.c1;go_wp2_with fail
   refine (Ho B s a d (KD e 2) j 97 122 97 122 pv _ o (by omega) rfl rfl f.o).mono ?_
   rintro m Q ⟨rfl,p2,r⟩
   rw[i.o]
   have H:=p2.c3;have n:=Ad p2;clear p2 c1;go_wp2_with fail;go_ret
   exact⟨_,rfl,fun T=>absurd T (by rw[g.o];exact S.o),KD e 2,a,g.o,n.o,hf.seq r⟩
theorem FE (l:List UInt8)(c:UInt8):Bs (l++[c])=Bs l*10+(c.toNat-48):=by unfold Bs;rw[List.foldl_append];rfl
theorem WZ {s:ByteArray}{a c:Nat}(h:c<s.size)(_:a≤c):∃x,G3 s a (c+1)=G3 s a c++[x]∧x.toNat=Pl.bt s c:=by
 have b:c<s.data.toList.length:=by rw[Lr];exact h
 refine⟨s.data.toList[c],?_,?_⟩
 ·rw[My,My,lL,kT b]
  show List.drop a (s.data.toList.take c++[s.data.toList[c]])=_
  rw[List.drop_append_of_le_length (by rw[lV];omega)]
 ·have:=SE s c
  rw[kT b,if_pos h] at this
  simpa using this
theorem Xb {s:ByteArray}{a c nn dd:Nat}(h:c<s.size)(b:a≤c)(d:nn=Bs (G3 s a c))(e:dd=Kw s c):10*nn+dd=Bs (G3 s a (c+1)):=by
 obtain⟨x,e1,f⟩:=WZ h b
 rw[e1,FE,←d,f,e];unfold Kw;omega
theorem MH {s:ByteArray}{a:Nat}(h:a<s.size):Pl.bt s a-48=Bs (G3 s a (a+1)):=by
 have:=Xb (s:=s) (a:=a) (c:=a) (nn:=0) (dd:=Kw s a) h (kZ _) (by rw[Zw];rfl) rfl
 rw[←this];unfold Kw;omega
theorem fI {s:ByteArray}{a c:Nat}(b:c≤s.size)(d:a<c)(h:Pl.bt s a≠45):Gb (G3 s a c)=(Bs (G3 s a c):Int):=by
 obtain⟨x,e1,f⟩:=Ru b d
 rw[e1]
 have:x≠45:=fun e=>h (by rw[←f,e];rfl)
 simp only[Gb,if_neg this]
theorem bS {s:ByteArray}{a c:Nat}(b:c≤s.size)(d:a<c)(h:Pl.bt s a=45):Gb (G3 s a c)= -(Bs (G3 s (a+1) c):Int):=by
 obtain⟨x,e1,e⟩:=Ru b d
 rw[e1]
 have:x=45:=nA.1 (by rw[e,h];rfl)
 simp only[Gb,if_pos this]
theorem Ll (B:Nat)(s:ByteArray)(a d e j:Nat)(pv:Value)(w:World)(F:s.size≤1000)(h:RR B s a d e j pv w) :
 Calls Tryz.prog 166 #[.pointer (some ⟨B,0,none⟩)] w fun D w'=>∃n:Int,D=.returned (.int .i64 n)∧((Pl.bE (e,a) (Pl.lf (Pl.Cl s))).1=0→n=Gb (G3 s a (Pl.Cl s a).2))∧RQ B s d j pv w (Pl.bE (e,a) (Pl.lf (Pl.Cl s))) w':=by
 have av:=Ad h;clear h
 go_enter Tryz.func166,Tryz.ntmps166
 go_wp2_with fail
 refine (Cx B s a d e j 45 45 pv _ F (by omega) rfl av.o).mono ?_
 rintro D w0 ⟨ok,E,rfl,M,y,p0,T⟩;have U:=Ad p0;clear p0
 cases ok
 ·have y:E=a:=y
  go_wp2_with fail
  refine (Ih B s E d e j 48 57 48 57 pv _ F (by omega) (by omega) rfl rfl U.o).mono ?_
  rintro D aw ⟨v,rfl,V,X,z,e1,a1,i,p1,N⟩
  obtain⟨n0,Y⟩:∃n0,v=n0+48:=⟨v-48,by omega⟩
  have p:oH (Pl.bE (e,a) (Pl.lf (Pl.Cl s))=(e1,Pl.Ly s e1 n0 3 a1)):=by
   show _=_
   have G:E=a:=y
   rw[G] at i z
   have:=Pl.NA (s:=s) (a:=a) (e:=e) (v:=v) (by rintro⟨q,o⟩;have b:=M.o;unfold sn at b;simp at b;have:=b q;omega) i (fun q o=>z (by unfold sn;simp[q,o]))
   rw[show v-48=n0 by omega] at this;exact this
  have Z:oH (e1=0→n0=Bs (G3 s a a1)∧a<a1):=fun aa=>by
   have G:E=a:=y
   rw[G] at i z
   rw[aa] at i
   obtain⟨q,o,r⟩:=Ef (show (Pl.bE (e,a) (Pl.lf (Pl.rng s 48 57))).1=0 by rw[i])
   rw[i] at r
   have hr:48≤Pl.bt s a∧Pl.bt s a≤57:=by
    by_cases l:48≤Pl.bt s a∧Pl.bt s a≤57
    ·exact l
    ·unfold Pl.rng at o;rw[if_neg l] at o;cases o
   have u:a1=a+1:=by rw[Pl.Qu hr] at r;exact r
   have W:=z (by unfold sn;simp[q,hr])
   have ab:=MH (s:=s) (a:=a) (Pl.B4 (by omega))
   rw[u]
   exact⟨by omega,by omega⟩
  have H:oH (∀c nn:Nat,Pl.bE (e,a) (Pl.lf (Pl.Cl s))=(e1,c)→c≤s.size→(e1=0→nn=Bs (G3 s a c)∧a<c)→(Pl.bE (e,a) (Pl.lf (Pl.Cl s))).1=0→(nn:Int)=Gb (G3 s a (Pl.Cl s a).2)):=fun c nn q o r u=>by
   obtain⟨W,ab,O⟩:=Ef u
   have P:e1=0:=by rw[q] at u;exact u
   rw[q] at O
   have ac:c=(Pl.Cl s a).2:=O
   rw[←ac]
   have ax:Pl.bt s a≠45:=fun ay=>by
    have b:=M.o;unfold sn at b;simp[W,ay] at b
   rw[fI o (r P).2 ax,(r P).1]
  subst Y
  have az:n0≤9:=by omega
  have ad:=Ad p1;have ae:=T.seq N;clear p1 V X z i T N U M y;go_wp2_with fail
  go_loopg [6,7] 3 (fun k af ag wr=>∃c nn g:Nat,g+k=4∧1≤g∧nn<10 ^ g∧af=.int .i64 (nn:Int)∧ag=.int .i64 (g:Int)∧oH (RR B s c d e1 j pv wr)∧Fr B none w wr∧oH (Pl.Ly s e1 nn k c=Pl.Ly s e1 n0 3 a1)∧oH (e1=0→nn=Bs (G3 s (a) c)∧a<c))
  case atStart=>exact⟨a1,n0,1,rfl,kZ _,by omega,by simp,rfl,ad,ae,rfl,Z⟩
  case round =>
   obtain⟨c,nn,g,a0,a2,I,rfl,rfl,t,hf,m,A⟩:=hrel
   have a3:nn<10000:=kV I (lH (Nat.pow_le_pow_right (by omega) (show g≤4 by omega)) (by decide))
   have ah:=Ad I;clear I
   by_cases ai:gk=0
   ·subst ai
    have aj:¬(g:Int)<4:=by omega
    have f:oH (Pl.Ly s e1 nn 0 c=c):=by show _=_;unfold Pl.Ly;split <;> rfl
    go_wp2_with fail;go_ret
    have x:RQ B s d j pv w (Pl.bE (e,a) (Pl.lf (Pl.Cl s))) wr:=⟨e1,c,by rw[p.o,←m.o,f.o],t.o,hf⟩
    exact⟨_,rfl,H.o c nn (by rw[p.o,←m.o,f.o]) t.o.1 A.o,x⟩
   ·obtain⟨k,rfl⟩:∃k,gk=k+1:=⟨gk-1,by omega⟩
    have aj:(g:Int)<4:=by omega
    by_cases J:nn=0
    ·have ak:¬(0:Int)<(nn:Int):=by omega
     have f:oH (Pl.Ly s e1 nn (k+1) c=c):=by show _=_;unfold Pl.Ly;rw[if_neg (by omega)]
     clear J;go_wp2_with fail;go_ret
     have x:RQ B s d j pv w (Pl.bE (e,a) (Pl.lf (Pl.Cl s))) wr:=⟨e1,c,by rw[p.o,←m.o,f.o],t.o,hf⟩
     exact⟨_,rfl,H.o c nn (by rw[p.o,←m.o,f.o]) t.o.1 A.o,x⟩
    ·have ak:(0:Int)<(nn:Int):=by omega
     go_wp2_with fail
     refine (Ho B s c d e1 j 48 57 48 57 pv _ F (by omega) rfl rfl t.o).mono ?_
     rintro D al ⟨rfl,p2,Q⟩;have R:=Ad p2;clear p2
     cases b:sn s e1 48 57 c
     ·have f:oH (Pl.Ly s e1 nn (k+1) c=c):=by
       show _=_
       unfold Pl.Ly;split
       ·rename_i am;obtain⟨rfl,_⟩:=am;exact Pl.Ha (by unfold sn at b;simpa using b)
       ·rfl
      clear b J;go_wp2_with fail;go_ret
      have x:RQ B s d j pv w (Pl.bE (e,a) (Pl.lf (Pl.Cl s))) al:=⟨e1,c,by rw[p.o,←m.o,f.o],R.o,hf.seq Q⟩
      exact⟨_,rfl,H.o c nn (by rw[p.o,←m.o,f.o]) t.o.1 A.o,x⟩
     ·obtain rfl:e1=0:=Jq b
      have K:=Ad (A.o rfl);have l:=Lk b
      have an:=Pl.B4 (s:=s) (a:=c) (by omega)
      have f:oH (Pl.bE (0,c) (Pl.lf (Pl.Hr s))=(0,c+1)):=by show _=_;rw[Pl.A3,←Pl.Zq,Pl.Fh (Pl.Qu l)]
      have ao:oH (∀dd,Pl.Ly s 0 (10*nn+dd) k (c+1)=Pl.Ly s 0 n0 3 a1):=by
       show ∀dd,_=_
       intro dd;rw[←m.o];unfold Pl.Ly;rw[if_pos (by omega),if_pos (by omega),Pl.K9 l]
      clear b J l;go_wp2_with fail;refine (Df B s c d 0 j pv _ F R.o).mono ?_;rintro D w3 ⟨dd,rfl,⟨a4,L⟩,a5,a6,C,S,ap⟩
      rw[f.o] at C L
      have aq:oH ((0:Nat)=0→10*nn+dd=Bs (G3 s (a) (c+1))∧a<c+1):=fun _=>⟨Xb an (by have:=K.o.2;omega) K.o.1 (L rfl),by have:=K.o.2;omega⟩
      clear L
      injection C with C ar
      subst C ar;have au:=Ad S;clear S;go_wp2_with fail;go_roundg k
      case measure=>omega
      case rel=>exact⟨c+1,10*nn+dd,g+1,by omega,by omega,by have:=ah.o;rw[Nat.pow_succ];omega,by go_num,by go_num,au,(hf.seq Q).seq ap,ao.o dd,aq⟩
 ·have y:E=a+1:=y
  go_wp2_with fail
  refine (Ih B s E d e j 49 57 49 57 pv _ F (by omega) (by omega) rfl rfl U.o).mono ?_
  rintro D aw ⟨v,rfl,V,X,z,e1,a1,i,p1,N⟩
  obtain⟨n0,Y⟩:∃n0,v=n0+48:=⟨v-48,by omega⟩
  have p:oH (Pl.bE (e,a) (Pl.lf (Pl.Cl s))=(e1,Pl.Ly s e1 n0 3 a1)):=by
   show _=_
   have b:=M.o;obtain rfl:e=0:=Jq b;have l:=Lk b;have G:E=a+1:=y
   rw[G] at i
   have:=Pl.MZ (s:=s) (a:=a) (v:=v) (by omega) i V
   rw[show v-48=n0 by omega] at this;exact this
  have Z:oH (e1=0→n0=Bs (G3 s (a+1) a1)∧a+1<a1):=fun aa=>by
   have G:E=a+1:=y
   rw[G] at i z
   rw[aa] at i
   obtain⟨q,o,r⟩:=Ef (show (Pl.bE (e,a+1) (Pl.lf (Pl.rng s 49 57))).1=0 by rw[i])
   rw[i] at r
   have hr:49≤Pl.bt s (a+1)∧Pl.bt s (a+1)≤57:=by
    by_cases l:49≤Pl.bt s (a+1)∧Pl.bt s (a+1)≤57
    ·exact l
    ·unfold Pl.rng at o;rw[if_neg l] at o;cases o
   have u:a1=a+1+1:=by rw[Pl.Qu hr] at r;exact r
   have W:=z (by unfold sn;simp[q,hr])
   have ab:=MH (s:=s) (a:=a+1) (Pl.B4 (by omega))
   rw[u]
   exact⟨by omega,by omega⟩
  have H:oH (∀c nn:Nat,Pl.bE (e,a) (Pl.lf (Pl.Cl s))=(e1,c)→c≤s.size→(e1=0→nn=Bs (G3 s (a+1) c)∧a+1<c)→(Pl.bE (e,a) (Pl.lf (Pl.Cl s))).1=0→ -(nn:Int)=Gb (G3 s a (Pl.Cl s a).2)):=fun c nn q o r u=>by
   obtain⟨W,ab,O⟩:=Ef u
   have P:e1=0:=by rw[q] at u;exact u
   rw[q] at O
   have ac:c=(Pl.Cl s a).2:=O
   rw[←ac]
   have a7:Pl.bt s a=45:=by have l:=Lk M.o;omega
   rw[bS o (by have:=(r P).2;omega) a7,(r P).1]
  subst Y
  have az:n0≤9:=by omega
  have ad:=Ad p1;have ae:=T.seq N;clear p1 V X z i T N U M y;go_wp2_with fail
  go_loopg [6,7] 3 (fun k af ag wr=>∃c nn g:Nat,g+k=4∧1≤g∧nn<10 ^ g∧af=.int .i64 (nn:Int)∧ag=.int .i64 (g:Int)∧oH (RR B s c d e1 j pv wr)∧Fr B none w wr∧oH (Pl.Ly s e1 nn k c=Pl.Ly s e1 n0 3 a1)∧oH (e1=0→nn=Bs (G3 s (a+1) c)∧a+1<c))
  case atStart=>exact⟨a1,n0,1,rfl,kZ _,by omega,by simp,rfl,ad,ae,rfl,Z⟩
  case round =>
   obtain⟨c,nn,g,a0,a2,I,rfl,rfl,t,hf,m,A⟩:=hrel
   have a3:nn<10000:=kV I (lH (Nat.pow_le_pow_right (by omega) (show g≤4 by omega)) (by decide))
   have ah:=Ad I;clear I
   by_cases ai:gk=0
   ·subst ai
    have aj:¬(g:Int)<4:=by omega
    have f:oH (Pl.Ly s e1 nn 0 c=c):=by show _=_;unfold Pl.Ly;split <;> rfl
    go_wp2_with fail;go_ret
    have x:RQ B s d j pv w (Pl.bE (e,a) (Pl.lf (Pl.Cl s))) wr:=⟨e1,c,by rw[p.o,←m.o,f.o],t.o,hf⟩
    exact⟨_,rfl,H.o c nn (by rw[p.o,←m.o,f.o]) t.o.1 A.o,x⟩
   ·obtain⟨k,rfl⟩:∃k,gk=k+1:=⟨gk-1,by omega⟩
    have aj:(g:Int)<4:=by omega
    by_cases J:nn=0
    ·have ak:¬(0:Int)<(nn:Int):=by omega
     have f:oH (Pl.Ly s e1 nn (k+1) c=c):=by show _=_;unfold Pl.Ly;rw[if_neg (by omega)]
     clear J;go_wp2_with fail;go_ret
     have x:RQ B s d j pv w (Pl.bE (e,a) (Pl.lf (Pl.Cl s))) wr:=⟨e1,c,by rw[p.o,←m.o,f.o],t.o,hf⟩
     exact⟨_,rfl,H.o c nn (by rw[p.o,←m.o,f.o]) t.o.1 A.o,x⟩
    ·have ak:(0:Int)<(nn:Int):=by omega
     go_wp2_with fail
     refine (Ho B s c d e1 j 48 57 48 57 pv _ F (by omega) rfl rfl t.o).mono ?_
     rintro D al ⟨rfl,p2,Q⟩;have R:=Ad p2;clear p2
     cases b:sn s e1 48 57 c
     ·have f:oH (Pl.Ly s e1 nn (k+1) c=c):=by
       show _=_
       unfold Pl.Ly;split
       ·rename_i am;obtain⟨rfl,_⟩:=am;exact Pl.Ha (by unfold sn at b;simpa using b)
       ·rfl
      clear b J;go_wp2_with fail;go_ret
      have x:RQ B s d j pv w (Pl.bE (e,a) (Pl.lf (Pl.Cl s))) al:=⟨e1,c,by rw[p.o,←m.o,f.o],R.o,hf.seq Q⟩
      exact⟨_,rfl,H.o c nn (by rw[p.o,←m.o,f.o]) t.o.1 A.o,x⟩
     ·obtain rfl:e1=0:=Jq b
      have K:=Ad (A.o rfl);have l:=Lk b
      have an:=Pl.B4 (s:=s) (a:=c) (by omega)
      have f:oH (Pl.bE (0,c) (Pl.lf (Pl.Hr s))=(0,c+1)):=by show _=_;rw[Pl.A3,←Pl.Zq,Pl.Fh (Pl.Qu l)]
      have ao:oH (∀dd,Pl.Ly s 0 (10*nn+dd) k (c+1)=Pl.Ly s 0 n0 3 a1):=by
       show ∀dd,_=_
       intro dd;rw[←m.o];unfold Pl.Ly;rw[if_pos (by omega),if_pos (by omega),Pl.K9 l]
      clear b J l;go_wp2_with fail;refine (Df B s c d 0 j pv _ F R.o).mono ?_;rintro D w3 ⟨dd,rfl,⟨a4,L⟩,a5,a6,C,S,ap⟩
      rw[f.o] at C L
      have aq:oH ((0:Nat)=0→10*nn+dd=Bs (G3 s (a+1) (c+1))∧a+1<c+1):=fun _=>⟨Xb an (by have:=K.o.2;omega) K.o.1 (L rfl),by have:=K.o.2;omega⟩
      clear L
      injection C with C ar
      subst C ar;have au:=Ad S;clear S;go_wp2_with fail;go_roundg k
      case measure=>omega
      case rel=>exact⟨c+1,10*nn+dd,g+1,by omega,by omega,by have:=ah.o;rw[Nat.pow_succ];omega,by go_num,by go_num,au,(hf.seq Q).seq ap,ao.o dd,aq⟩
theorem Fr.grown {B:Nat}{row:Option Nat}{a w w':World}{r:Option Nat}(h:Fr B row a w)(hg:w.grownBy w' r)(hr:r=row∨∀k,r=some k→a.heap.size≤k):Fr B row a w' :=
 ⟨hg.os.trans h.os,hg.tape.trans h.tape,hg.output.trans h.output,lH h.size hg.size,fun k b hB c=>(hg.block k (kV b h.size) (fun x=>by
  rcases hr with hr|hr
  ·rw[hr] at x;exact c x
  ·have:=hr k x.symm;omega)).trans (h.block k b hB c)⟩
theorem RR.grown {B:Nat}{s:ByteArray}{a d e j:Nat}{pv:Value}{w w':World}{r:Option Nat}(h:RR B s a d e j pv w)(hg:w.grownBy w' r)(hr:some B≠r):RR B s a d e j pv w' :=
 ⟨h.1,(hg.block B (Aa h.2) hr).trans h.2⟩
theorem RR.alloc {B:Nat}{s:ByteArray}{a d e j:Nat}{pv:Value}{w:World}(h:RR B s a d e j pv w)(o:Obj):RR B s a d e j pv (w.alloc o):=⟨h.1,(Below.heap_alloc _ _ _ (Aa h.2)).trans h.2⟩
theorem bT:(Tryz.prog.info? 3).map (fun i=>(i.zero,i.size,i.bytes))=some (some (.int .i64 0),1,8):=by kernel_rfl
theorem Ff {B:Nat}{row:Option Nat}{w w':World}{base:Nat}{e:TypeId}{size:Nat}{v:Value}{n:Nat}{xs:List Value}(h:w.ownsRow base e size v n xs)(hf:Fr B row w w')(hB:v.ownBlock≠some B)(hr:v.ownBlock=none∨v.ownBlock≠row):w'.ownsRow base e size v n xs:=by
 refine⟨h.1,?_⟩
 rcases h.2 with hn|⟨g,cap,b,rfl,c,a,rest⟩
 ·exact .inl hn
 ·refine .inr ⟨g,cap,b,rfl,c,?_,rest⟩
  rw[hf.block g (Aa a) (by intro x;exact hB (by rw[x];rfl)) (by simpa [Value.ownBlock] using hr)]
  exact a
theorem MI (w:World)(x:Value)(t:TypeId):∀(j:Nat) (a:Value),[x][j]? =some a→(w.alloc (.cells #[x] t)).cell? ((⟨w.heap.size,0,none⟩:Addr).add j)=some a:=World.news_of_block (heap_alloc_new w _)
def Xc (s:ByteArray):Nat→Nat→List Nat
 |0,_=>[]
 |k+1,c=>if Pl.bt s c=44 then Ct s k (c+1) else []
theorem Xd (s:ByteArray)(k a:Nat):Ct s k a=Kw s a::Xc s k (a+1):=by cases k <;> rfl
theorem O6 {s:ByteArray}{e a:Nat}{x:Nat}(h:Pl.bE (e,a) (Pl.lf (Pl.Hr s))=(0,x)):e=0∧x=a+1:=by
 obtain⟨c,d,b⟩:=Ef (show (Pl.bE (e,a) (Pl.lf (Pl.Hr s))).1=0 by rw[h])
 rw[h] at b
 exact⟨c,b.trans (Zy d)⟩
def XA (s:ByteArray)(base:Nat)(e a:Nat)(en:Ending)(w':World):Prop :=
 ∃(ad:Option Addr) (n c:Nat) (L:List Nat),en=.returned (.slice ad n c)∧w'.ownsRow base 3 1 (.slice ad n c) L.length (Fj L)∧L.length≤6∧(∀x∈L,x≤9)∧((Pl.bE (e,a) (Pl.lf (Pl.C9 s 5))).1=0→L=Ct s 5 a)
theorem Sy (B:Nat)(s:ByteArray)(a d e j:Nat)(pv:Value)(w:World)(z:s.size≤1000)(h:RR B s a d e j pv w) :
 Calls Tryz.prog 167 #[.pointer (some ⟨B,0,none⟩)] w fun t w'=>XA s w.heap.size e a t w'∧RQ B s d j pv w (Pl.bE (e,a) (Pl.lf (Pl.C9 s 5))) w':=by
 have aa:=Ad h;have bl:=Aa h.2
 obtain⟨i,hi,ab,ac,ad⟩:=info_parts bT
 have ae:=Ad (Pl.GO s (e,a));clear h
 go_enter Tryz.func167,Tryz.ntmps167
 go_wp2_with fail;refine (Df B s a d e j pv _ z aa.o).mono ?_;rintro t O ⟨n1,rfl,M,e1,a1,A,p1,P⟩
 have au:oH (Pl.bE (e1,a1) (Pl.lf (Pl.Rm s 5))=Pl.bE (e,a) (Pl.lf (Pl.C9 s 5))):=by show _=_;rw[ae.o,A]
 have af:=Ad p1
 have av:oH (e1=0→[n1]++Xc s 5 a1=Ct s 5 a):=fun f=>by
  rw[f] at A
  have m:=(O6 A).2
  rw[Xd,m,M.2 (by rw[A])];rfl
 have bm:=M.1;clear A p1 M;have bn:=P.size
 go_wp2_with (at_builtin;refine wpList_append_lies _ (by rfl) (.tmp 7) (.tmp 9) 136 (by rfl) w.heap.size 3 i (.int .i64 0) 1 8 Tryz.underlying136 hi ab ac ad rfl (by decide) (.slice none 0 0) 0 [] (by rfl) (World.ownsRow_nil _ _ _ _) ⟨O.heap.size,0,none⟩ 1 1 [.int .i64 (n1:Int)] (by rfl) rfl (MI O _ _) (by intro aw C;simp at C;subst C;rfl) (by decide) (by decide) (by decide) (by simp;omega) (O.heap.size+1) (by simp) ?_)
 intro g cap Q D p R S
 have ax:oH (some B≠Value.ownBlock (.slice none 0 0)):=by show _≠_;simp[Value.ownBlock]
 have ay:oH (RR B s a1 d e1 j pv Q):=(af.o.alloc _).grown p ax.o
 have az:Fr B none w Q:=(P.alloc _).grown p (.inr (by simp[Value.ownBlock]))
 have a0:oH (Q.ownsRow w.heap.size 3 1 (.slice (some ⟨g,0,none⟩) (0+1) cap) (0+1) ([]++[.int .i64 (n1:Int)])):=D;clear D p R S af P ae aa;go_wp2_with fail
 go_loopg [3] 5 (fun k a2 wr=>∃(c b n g cap:Nat) (L:List Nat),n+k=6∧1≤n∧a2=.slice (some ⟨g,0,none⟩) n cap∧oH (L.length=n∧(∀x∈L,x≤9)∧(b=0→L++Xc s k c=Ct s 5 a))∧oH (wr.ownsRow w.heap.size 3 1 (.slice (some ⟨g,0,none⟩) n cap) n (Fj L))∧oH (RR B s c d b j pv wr)∧Fr B none w wr∧oH (Pl.bE (b,c) (Pl.lf (Pl.Rm s k))=Pl.bE (e,a) (Pl.lf (Pl.C9 s 5))))
 case atStart=>exact⟨a1,e1,1,g,cap,[n1],rfl,kZ _,rfl,Ad ⟨rfl,fun x l=>by simp at l;omega,av.o⟩,a0,ay,az,au⟩
 case round =>
  obtain⟨c,b,n,g,cap,L,_,M,rfl,u,hO,ag,hf,E⟩:=hrel
  have Ly:∀(ah:World),oH (RR B s c d b j pv ah)→Fr B none w ah→oH (Pl.bE (b,c) (Pl.lf (Pl.tk s 93))=Pl.bE (e,a) (Pl.lf (Pl.C9 s 5)))→True:=fun _ _ _ _=>trivial
  clear Ly
  by_cases a3:gk=0
  ·subst a3
   have l:¬(n:Int)<6:=by omega
   go_wp2_with fail
   refine (Ar B s c d b j 93 93 pv _ z (by omega) rfl ag.o).mono ?_
   rintro t w4 ⟨v,rfl,T,U,F,V,G⟩;have W:=Ad F;clear F
   have X:oH (XA s w.heap.size e a (.returned (.slice (some ⟨g,0,none⟩) n cap)) w4):=by
    obtain⟨q,m,H⟩:=u.o
    have ai:B≠g:=fun x=>by have:=(hO.o.lt g rfl).1;omega
    refine⟨_,_,_,L,rfl,?_,by omega,m,fun f=>?_⟩
    ·rw[q];exact Ff hO.o G (by simp[Value.ownBlock];omega) (.inr (by simp[Value.ownBlock]))
    ·rw[←E.o] at f
     have r:=H (Ef f).1
     rw[show Xc s 0 c=[] from rfl,nR] at r
     exact r
   go_wp2_with fail;go_ret
   exact⟨X.o,T,U,by rw[←E.o];exact W.o,V,hf.seq G⟩
  ·obtain⟨k,rfl⟩:∃k,gk=k+1:=⟨gk-1,by omega⟩
   have l:(n:Int)<6:=by omega
   go_wp2_with fail
   refine (Ho B s c d b j 44 44 44 44 pv _ z (by omega) rfl rfl ag.o).mono ?_
   rintro t w3 ⟨rfl,aj,I⟩;have N:=Ad aj;clear aj
   cases o:sn s b 44 44 c
   ·have J:oH (Pl.bE (b,c) (Pl.lf (Pl.tk s 93))=Pl.bE (e,a) (Pl.lf (Pl.C9 s 5))):=by
     show _=_
     rw[←E.o,Pl.NC]
     rintro⟨q,m⟩;unfold sn at o;simp at o;have:=o q;omega
    have a4:=Ad o;clear o;go_wp2_with fail
    refine (Ar B s c d b j 93 93 pv _ z (by omega) rfl N.o).mono ?_
    rintro t w4 ⟨v,rfl,T,U,F,V,G⟩;have W:=Ad F;clear F
    have X:oH (XA s w.heap.size e a (.returned (.slice (some ⟨g,0,none⟩) n cap)) w4):=by
     obtain⟨q,m,H⟩:=u.o
     have ai:B≠g:=fun x=>by have:=(hO.o.lt g rfl).1;omega
     refine⟨_,_,_,L,rfl,?_,by omega,m,fun f=>?_⟩
     ·rw[q];exact Ff (Ff hO.o I (by simp[Value.ownBlock];omega) (.inr (by simp[Value.ownBlock]))) G (by simp[Value.ownBlock];omega) (.inr (by simp[Value.ownBlock]))
     ·rw[←J.o] at f
      have ak:=(Ef f).1;have r:=H ak
      have a6:¬Pl.bt s c=44:=fun a7=>by have al:=a4.o;unfold sn at al;simp[ak,a7] at al
      have a8:Xc s (k+1) c=[]:=by show (if Pl.bt s c=44 then _ else _)=_;rw[if_neg a6]
      rw[a8,nR] at r
      exact r
    go_wp2_with fail;go_ret
    exact⟨X.o,T,U,by rw[←J.o];exact W.o,V,(hf.seq I).seq G⟩
   ·obtain rfl:b=0:=Jq o
    have a9:=Lk o
    have bo:=Pl.B4 (s:=s) (a:=c) (by omega)
    have ba:oH (Pl.bt s c=44):=by show _=_;omega
    have bb:oH (L.length=n∧(∀x∈L,x≤9)∧L++Xc s (k+1) c=Ct s 5 a):=⟨u.o.1,u.o.2.1,u.o.2.2 rfl⟩;clear u
    have J:oH (Pl.bE (Pl.bE (0,c+1) (Pl.lf (Pl.Hr s))) (Pl.lf (Pl.Rm s k))=Pl.bE (e,a) (Pl.lf (Pl.C9 s 5))):=by
     show _=_
     rw[←E.o,Pl.NB (by omega)]
    have c1:=N.o.c1;have bc:=N.o.f 1
    have am:oH (RR B s (c+1) d 0 j pv (w3.setCell ⟨B,1,none⟩ (.int .i64 ((c:Int)+1)))):=N.o.setAt (by omega)
    clear o a9;go_wp2_with fail;refine (Df B s (c+1) d 0 j pv _ z am.o).mono ?_;rintro t w5 ⟨y,rfl,Y,e5,a5,K,an,Z⟩
    have bd:oH (Pl.bE (e5,a5) (Pl.lf (Pl.Rm s k))=Pl.bE (e,a) (Pl.lf (Pl.C9 s 5))):=by show _=_;rw[←J.o,K]
    have be:oH ((L++[y]).length=n+1∧(∀x∈L++[y],x≤9)∧(e5=0→(L++[y])++Xc s k a5=Ct s 5 a)):=by
     obtain⟨q,m,H⟩:=bb.o
     refine⟨by simp[q],fun x l=>?_,fun f=>?_⟩
     ·rcases lC.1 l with l|l
      ·exact m x l
      ·simp at l;have:=Y.1;omega
     ·rw[f] at K
      have bf:=(O6 K).2
      have r:=Y.2 (by rw[K])
      rw[←H,bf,r,nE]
      show _=L++(if Pl.bt s c=44 then Ct s k (c+1) else [])
      rw[if_pos ba.o,Xd];rfl
    have ao:=Ad an;clear K an Y;have ap:Fr B none w w5:=((hf.seq I).setCell _ _).seq Z
    have ai:B≠g:=fun x=>by have:=(hO.o.lt g rfl).1;omega
    have bg:oH (w5.ownsRow w.heap.size 3 1 (.slice (some ⟨g,0,none⟩) n cap) n (Fj L)) :=
     Ff (Ff hO.o ((I.setCell 1 (.int .i64 ((c:Int)+1)))) (by simp[Value.ownBlock];omega) (.inr (by simp[Value.ownBlock]))) Z (by simp[Value.ownBlock];omega) (.inr (by simp[Value.ownBlock]))
    have bp:=ap.size;have bq:=(hO.o.lt g rfl).1;clear am c1 bc E J Z I hO
    go_wp2_with (at_builtin;refine wpList_append_lies _ (by rfl) (.tmp 27) (.tmp 29) 136 (by rfl) w.heap.size 3 i (.int .i64 0) 1 8 Tryz.underlying136 hi ab ac ad rfl (by decide) (.slice (some ⟨g,0,none⟩) n cap) n (Fj L) (by rfl) (bg.o.alloc _) ⟨w5.heap.size,0,none⟩ 1 1 [.int .i64 (y:Int)] (by rfl) rfl (MI w5 _ _) (by intro aw C;simp at C;subst C;rfl) (by decide) (by unfold maxLen;omega) (by omega) (by simp;omega) (w5.heap.size+1) (by simp) ?_)
    intro aq ar w6 D p R S
    have bh:oH (some B≠Value.ownBlock (.slice (some ⟨g,0,none⟩) n cap)):=by show _≠_;simp[Value.ownBlock];omega
    have bi:oH (RR B s a5 d e5 j pv w6):=(ao.o.alloc _).grown p bh.o
    have bj:Fr B none w w6:=(ap.alloc _).grown p (.inr (by simp[Value.ownBlock];omega))
    have bk:oH (w6.ownsRow w.heap.size 3 1 (.slice (some ⟨aq,0,none⟩) (n+1) ar) (n+1) (Fj (L++[y]))):=by
     have:=D
     show World.ownsRow _ _ _ _ _ _ _
     unfold Fj at this⊢
     rw[lF];exact this
    clear D p R S ao;go_wp2_with fail;go_roundg k
    case measure=>omega
    case rel=>exact⟨a5,e5,n+1,aq,ar,L++[y],by omega,by omega,rfl,be,bk,bi,bj,bd⟩
end Go.Proofs.YtdinjjmcmfjbfaaGreatDoor
