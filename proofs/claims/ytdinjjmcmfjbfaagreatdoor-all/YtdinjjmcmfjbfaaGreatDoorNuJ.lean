import Init
import Derived.Test.YtdinjjmcmfjbfaaGreatDoorProg
import Derived.RowKit
import Derived.WalkKit
import Derived.WalkSpells
import Derived.WalkLawsBesides
import Derived.Deep.QuietTactic
import Derived.BigQuiet
import Derived.Deep.LoopGhost
import Derived.Deep.RegionHeld3
import Derived.Lib.ParseIntBCases
import Derived.Test.YtdinjjmcmfjbfaaGreatDoorAlJ
import Derived.Handy
set_option maxRecDepth 100000
set_option maxHeartbeats 4000000
namespace Go.Proofs.YtdinjjmcmfjbfaaGreatDoor.Pl
def bt (s:ByteArray)(a:Nat):Nat:=if h:a<s.size then s[a].toNat else 0
def xU (s:ByteArray):Nat→Nat
 |0=>0
 |a+1=>xU s a+if bt s a=74 then 1 else 0
def tk (s:ByteArray)(c a:Nat):Bool×Nat:=if bt s a=c then (true,a+1) else (false,a)
def rng (s:ByteArray)(lo hi a:Nat):Bool×Nat:=if lo≤bt s a∧bt s a≤hi then (true,a+1) else (false,a)
def Eb (s:ByteArray)(lo hi:Nat):Nat→Nat→Nat
 |0,a=>a
 |k+1,a=>if lo≤bt s a∧bt s a≤hi then Eb s lo hi k (a+1) else a
def V0 (s:ByteArray)(k lo hi a:Nat):Bool×Nat:=(decide (a<Eb s lo hi k a),Eb s lo hi k a)
def Jt (s:ByteArray)(a:Nat):Bool×Nat:=V0 s 1 48 57 a
def Bj (s:ByteArray)(a:Nat):Bool×Nat:=V0 s 4 97 122 a
def B6 (f g:Nat→Bool×Nat)(a:Nat):Bool×Nat:=if (f a).1=true then g (f a).2 else (false,(f a).2)
def R9 (f g:Nat→Bool×Nat)(a:Nat):Bool×Nat:=if (f a).1=true then (true,(f a).2) else g (f a).2
def Tm (f g h:Nat→Bool×Nat)(a:Nat):Bool×Nat:=if (f a).1=true then g (f a).2 else h (f a).2
def Nm (s:ByteArray)(a:Nat):Bool×Nat:=if bt s a=48 then (false,a) else V0 s 4 48 57 a
def D1 (s:ByteArray)(a:Nat):Bool×Nat:=Tm (tk s 45) (Nm s) (R9 (tk s 48) (Nm s)) a
def J6 (s:ByteArray)(a:Nat):Bool×Nat:=if bt s a=60∨bt s a=61∨bt s a=33 then (true,a+1) else (false,a)
def Pw (s:ByteArray)(a:Nat):Bool×Nat:=Tm (tk s 35) (D1 s) (Tm (tk s 36) (Bj s) (Jt s)) a
def Dh (s:ByteArray):Nat→Nat→Bool×Nat
 |0,a=>B6 (Jt s) (tk s 93) a
 |k+1,a=>B6 (Jt s) (Tm (tk s 44) (Dh s k) (tk s 93)) a
def RB (s:ByteArray)(a:Nat):Bool×Nat:=B6 (tk s 91) (Tm (tk s 115) (B6 (Jt s) (tk s 93)) (B6 (tk s 110) (tk s 93))) a
def xV (c:Nat):Nat:=if c=83 then 2 else if c=80 then 3 else if c=74 then 4 else if c=85 then 5 else if c=68 then 6 else if c=71 then 7 else if 97≤c∧c≤122 then 1 else 0
def yC (k:Nat):Nat:=if k=0∨k=1 then 0 else if k=4∨k=5 then 2 else 1
def Kr (s:ByteArray)(a:Nat):Bool×Nat:=B6 (tk s 83) (B6 (tk s 91) (B6 (Jt s) (B6 (J6 s) (B6 (Pw s) (tk s 93))))) a
def RC (s:ByteArray)(a:Nat):Bool×Nat:=B6 (tk s 80) (B6 (tk s 91) (Dh s 5)) a
def AY (s:ByteArray)(a:Nat):Bool×Nat:=B6 (tk s 74) (B6 (tk s 91) (B6 (Jt s) (B6 (tk s 61) (B6 (Jt s) (tk s 93))))) a
def DI (s:ByteArray)(a:Nat):Bool×Nat:=B6 (tk s 71) (B6 (tk s 91) (B6 (R9 (tk s 93) (Dh s 5)) (RB s))) a
def B3 (s:ByteArray)(k a:Nat):Bool×Nat :=
 if k=1 then Bj s a else if k=2 then Kr s a else if k=3 then RC s a else if k=4 then AY s a else if k=5 then tk s 85 a else if k=6 then tk s 68 a else if k=7 then DI s a else (false,a)
def xW (x:Nat×Nat)(f:Nat→Nat×Nat):Nat×Nat:=if x.1=0 then f x.2 else x
def xX (p:Nat→Bool×Nat)(a:Nat):Nat×Nat:=(if (p a).1=true then 0 else 2,(p a).2)
def Se (s:ByteArray)(q:Nat→Nat×Nat)(n c:Nat):Nat×Nat:=if n=2 then xW (xX (tk s 44) c) (fun d=>xW (q d) (xX (tk s 41))) else xX (tk s 41) c
def xY (s:ByteArray):Nat→Nat→Nat×Nat
 |0,a=>xW (xX (B3 s (xV (bt s a))) a) fun b=>if xV (bt s a)=1 then (0,b) else if bt s b=40 then (3,b) else (2,b)
 |f+1,a=>xW (xX (B3 s (xV (bt s a))) a) fun b=>if xV (bt s a)=1 then (0,b) else if bt s b=40 then xW (xY s f (b+1)) (fun c=>Se s (xY s f) (yC (xV (bt s a))) c) else (2,b)
def Je (s:ByteArray):List Nat→Nat×Nat→Nat×Nat
 | [],x=>x
 |n::st,x=>Je s st (xW x fun c=>Se s (xY s (5-st.length)) n c)
def Sa (s:ByteArray)(x:Nat×Nat):Nat×Nat:=xW x fun b=>if b<s.size then (2,b) else (0,b)
def Em (s:ByteArray):Nat×Nat:=Sa s (xY s 6 0)
def M2 (s:ByteArray):Nat×Nat :=
 if 120<s.size then (1,0) else if (Em s).1=0 then (if 2<xU s s.size then (4,0) else (0,0)) else Em s
theorem Eu {f g:Nat→Bool×Nat}{a b:Nat}(h:f a=(true,b)):B6 f g a=g b:=by unfold B6;rw[h];rfl
theorem Fo {f g:Nat→Bool×Nat}{a b:Nat}(h:f a=(false,b)):B6 f g a=(false,b):=by unfold B6;rw[h];rfl
theorem Ho {f g:Nat→Bool×Nat}{a b:Nat}(h:f a=(true,b)):R9 f g a=(true,b):=by unfold R9;rw[h];rfl
theorem F8 {f g:Nat→Bool×Nat}{a b:Nat}(h:f a=(false,b)):R9 f g a=g b:=by unfold R9;rw[h];rfl
theorem Hp {f g k:Nat→Bool×Nat}{a b:Nat}(h:f a=(true,b)):Tm f g k a=g b:=by unfold Tm;rw[h];rfl
theorem Ev {f g k:Nat→Bool×Nat}{a b:Nat}(h:f a=(false,b)):Tm f g k a=k b:=by unfold Tm;rw[h];rfl
theorem Cu {s:ByteArray}{a:Nat}(h:bt s a≠0):a<s.size:=by
 unfold bt at h;split at h
 ·assumption
 exact absurd rfl h
theorem UB (s:ByteArray)(a:Nat):bt s a<256:=by
 unfold bt;split
 ·exact UInt8.toNat_lt _
 omega
structure yD (s:ByteArray) (p:Nat→Bool×Nat):Prop where
 le:∀a,a≤(p a).2
 size:∀a,a≤s.size→(p a).2≤s.size
 noJ:∀a,(p a).1=true→xU s (p a).2=xU s a
theorem De {s:ByteArray}{c:Nat}(_:c≠0)(d:c≠74):yD s (tk s c):=by
 refine⟨fun a=>?_,fun a b=>?_,fun a b=>?_⟩ <;> unfold tk at* <;> by_cases h:bt s a=c
 ·simp[h]
 ·simp[h]
 ·have:=Cu (s:=s) (a:=a) (by omega);simp[h];omega
 ·simp[h,b]
 ·rw[if_pos h];simp[xU,h,d]
 rw[if_neg h] at b;simp at b
theorem Mn {s:ByteArray}{lo hi k a:Nat}(h:lo≤bt s a∧bt s a≤hi):Eb s lo hi (k+1) a=Eb s lo hi k (a+1):=by rw[Eb,if_pos h]
theorem It {s:ByteArray}{lo hi k a:Nat}(h:¬(lo≤bt s a∧bt s a≤hi)):Eb s lo hi (k+1) a=a:=by rw[Eb,if_neg h]
theorem Oo (s:ByteArray)(lo hi:Nat):∀k a,a≤Eb s lo hi k a
 |0,a=>tY a
 |k+1,a=>by unfold Eb;split;exact uJ (Nat.le_succ a) (Oo s lo hi k (a+1));exact tY a
theorem U8 {s:ByteArray}{lo hi:Nat}(b:0<lo):∀k a,a≤s.size→Eb s lo hi k a≤s.size
 |0,a,h=>h
 |k+1,a,h=>by
  unfold Eb;split
  ·rename_i c;exact U8 b k (a+1) (Cu (s:=s) (by omega))
  exact h
theorem GC {s:ByteArray}{lo hi:Nat}(b:74<lo∨hi<74):∀k a,xU s (Eb s lo hi k a)=xU s a
 |0,a=>rfl
 |k+1,a=>by
  unfold Eb;split
  ·rename_i c;rw[GC b k (a+1)];simp[xU];omega
  rfl
theorem Xo {s:ByteArray}{k lo hi:Nat}(b:0<lo)(c:74<lo∨hi<74):yD s (V0 s k lo hi) :=
 ⟨fun a=>Oo s lo hi k a,fun a h=>U8 b k a h,fun a _=>GC c k a⟩
theorem Qg (s:ByteArray):yD s (Jt s):=Xo (by omega) (by omega)
theorem Nn (s:ByteArray):yD s (Bj s):=Xo (by omega) (by omega)
theorem Dx {s:ByteArray}{f g:Nat→Bool×Nat}(hf:yD s f)(hg:yD s g):yD s (B6 f g):=by
 refine⟨fun a=>?_,fun a b=>?_,fun a b=>?_⟩
 ·unfold B6;split;exact uJ (hf.le a) (hg.le _);exact hf.le a
 ·unfold B6;split;exact hg.size _ (hf.size a b);exact hf.size a b
 unfold B6 at b⊢;by_cases h:(f a).1=true
 ·rw[if_pos h] at b⊢;rw[hg.noJ _ b,hf.noJ _ h]
 rw[if_neg h] at b;simp at b
theorem Qh {s:ByteArray}{f g k:Nat→Bool×Nat}(hf:yD s f)(hg:yD s g)(c:yD s k)(d:∀a,(f a).1=false→(f a).2=a):yD s (Tm f g k):=by
 refine⟨fun a=>?_,fun a b=>?_,fun a b=>?_⟩
 ·unfold Tm;split;exact uJ (hf.le a) (hg.le _);exact uJ (hf.le a) (c.le _)
 ·unfold Tm;split;exact hg.size _ (hf.size a b);exact c.size _ (hf.size a b)
 unfold Tm at b⊢;by_cases h:(f a).1=true
 ·rw[if_pos h] at b⊢;rw[hg.noJ _ b,hf.noJ _ h]
 rw[if_neg h] at b⊢;rw[c.noJ _ b,d a (by simpa using h)]
theorem GD {s:ByteArray}{f g:Nat→Bool×Nat}(hf:yD s f)(hg:yD s g)(c:∀a,(f a).1=false→(f a).2=a):yD s (R9 f g):=by
 refine⟨fun a=>?_,fun a b=>?_,fun a b=>?_⟩
 ·unfold R9;split;exact hf.le a;exact uJ (hf.le a) (hg.le _)
 ·unfold R9;split;exact hf.size a b;exact hg.size _ (hf.size a b)
 unfold R9 at b⊢;by_cases h:(f a).1=true
 ·rw[if_pos h];exact hf.noJ _ h
 rw[if_neg h] at b⊢;rw[hg.noJ _ b,c a (by simpa using h)]
theorem Hq (s:ByteArray)(c a:Nat)(h:(tk s c a).1=false):(tk s c a).2=a:=by
 unfold tk at *;split at h;simp at h;rename_i b;rw[if_neg b]
theorem AZ (s:ByteArray):yD s (Nm s):=by
 have h:=Xo (s:=s) (k:=4) (lo:=48) (hi:=57) (by omega) (by omega);refine⟨fun a=>?_,fun a b=>?_,fun a b=>?_⟩
 ·unfold Nm;split;exact tY _;exact h.le a
 ·unfold Nm;split;exact b;exact h.size a b
 unfold Nm at b⊢;split at b
 ·simp at b
 rename_i c;rw[if_neg c];exact h.noJ a b
theorem UC (s:ByteArray):yD s (D1 s) :=
 Qh (De (by omega) (by omega)) (AZ s) (GD (De (by omega) (by omega)) (AZ s) (Hq s _)) (Hq s _)
theorem MN (s:ByteArray):yD s (J6 s):=by
 refine⟨fun a=>?_,fun a b=>?_,fun a b=>?_⟩ <;> unfold J6 at* <;> by_cases h:bt s a=60∨bt s a=61∨bt s a=33
 ·rw[if_pos h];simp
 ·rw[if_neg h];simp
 ·rw[if_pos h];exact Cu (s:=s) (by omega)
 ·rw[if_neg h];exact b
 ·rw[if_pos h];simp[xU];omega
 rw[if_neg h] at b;simp at b
theorem MO (s:ByteArray):yD s (Pw s) :=
 Qh (De (by omega) (by omega)) (UC s) (Qh (De (by omega) (by omega)) (Nn s) (Qg s) (Hq s _)) (Hq s _)
theorem St (s:ByteArray):∀k,yD s (Dh s k)
 |0=>Dx (Qg s) (De (by omega) (by omega))
 |k+1=>Dx (Qg s) (Qh (De (by omega) (by omega)) (St s k) (De (by omega) (by omega)) (Hq s _))
theorem MP (s:ByteArray):yD s (RB s) :=
 Dx (De (by omega) (by omega)) (Qh (De (by omega) (by omega)) (Dx (Qg s) (De (by omega) (by omega))) (Dx (De (by omega) (by omega)) (De (by omega) (by omega))) (Hq s _))
theorem GE (c:Nat):xV c≤7:=by unfold xV;repeat' split <;> try omega
theorem MQ {s:ByteArray}{c:Nat}{g:Nat→Bool×Nat}(hg:∀a,a≤(g a).2){a:Nat}(h:(B6 (tk s c) g a).1=true):a<(B6 (tk s c) g a).2:=by
 unfold B6 at *;by_cases b:bt s a=c
 ·have e:tk s c a=(true,a+1):=by unfold tk;rw[if_pos b]
  rw[e];have:=hg (a+1);simp;omega
 have e:tk s c a=(false,a):=by unfold tk;rw[if_neg b]
 rw[e] at h;simp at h
theorem Gt (s:ByteArray)(k a:Nat):a≤(B3 s k a).2∧(a≤s.size→(B3 s k a).2≤s.size)∧((B3 s k a).1=true→a<(B3 s k a).2)∧((B3 s k a).1=true→xU s (B3 s k a).2=xU s a+if k=4 then 1 else 0):=by
 have d:∀(p:Nat→Bool×Nat),yD s p→yD s (B6 (tk s 91) p):=fun p hp=>Dx (De (by omega) (by omega)) hp;have one:∀(c:Nat) (g:Nat→Bool×Nat),c≠0→c≠74→yD s g→a≤(B6 (tk s c) g a).2∧(a≤s.size→(B6 (tk s c) g a).2≤s.size)∧((B6 (tk s c) g a).1=true→a<(B6 (tk s c) g a).2)∧((B6 (tk s c) g a).1=true→xU s (B6 (tk s c) g a).2=xU s a+0):=by intro c g f i hg;have h:=Dx (De (s:=s) f i) hg;exact⟨h.le a,h.size a,fun e=>MQ hg.le e,fun e=>by rw[h.noJ a e];rfl⟩
 have l:∀c:Nat,c≠0→c≠74→a≤(tk s c a).2∧(a≤s.size→(tk s c a).2≤s.size)∧((tk s c a).1=true→a<(tk s c a).2)∧((tk s c a).1=true→xU s (tk s c a).2=xU s a+0):=by
  intro c f i;have h:=De (s:=s) f i;refine⟨h.le a,h.size a,fun e=>?_,fun e=>by rw[h.noJ a e];rfl⟩;unfold tk at *;by_cases b:bt s a=c
  ·rw[if_pos b];simp
  rw[if_neg b] at e;simp at e
 have j:=Qg s;unfold B3;by_cases m:k=1
 ·subst m;rw[if_pos rfl];have h:=Nn s;refine⟨h.le a,h.size a,fun e=>?_,fun e=>by rw[h.noJ a e];rfl⟩;simpa [Bj,V0] using e
 rw[if_neg m];by_cases n:k=2
 ·subst n;rw[if_pos rfl];exact one 83 _ (by omega) (by omega) (d _ (Dx j (Dx (MN s) (Dx (MO s) (De (by omega) (by omega))))))
 rw[if_neg n];by_cases o:k=3
 ·subst o;rw[if_pos rfl];exact one 80 _ (by omega) (by omega) (d _ (St s 5))
 rw[if_neg o];by_cases r:k=4
 ·subst r;rw[if_pos rfl];have hg:yD s (B6 (tk s 91) (B6 (Jt s) (B6 (tk s 61) (B6 (Jt s) (tk s 93))))):=d _ (Dx j (Dx (De (by omega) (by omega)) (Dx j (De (by omega) (by omega)))));unfold AY;by_cases b:bt s a=74
  ·have e:tk s 74 a=(true,a+1):=(by unfold tk;rw[if_pos b]);have w:=Cu (s:=s) (a:=a) (by omega);rw[Eu e];have q:=hg.le (a+1);refine⟨by omega,fun _=>hg.size _ (by omega),fun _=>by omega,fun e1=>?_⟩;rw[hg.noJ _ e1];simp[xU,b]
  have e:tk s 74 a=(false,a):=by unfold tk;rw[if_neg b]
  rw[Fo e];simp
 rw[if_neg r];by_cases t:k=5
 ·subst t;rw[if_pos rfl];exact l 85 (by omega) (by omega)
 rw[if_neg t];by_cases u:k=6
 ·subst u;rw[if_pos rfl];exact l 68 (by omega) (by omega)
 rw[if_neg u];by_cases v:k=7
 ·subst v;rw[if_pos rfl];exact one 71 _ (by omega) (by omega) (d _ (Dx (GD (De (by omega) (by omega)) (St s 5) (Hq s _)) (MP s)))
 rw[if_neg v];simp
theorem GF {s:ByteArray}:∀(st:List Nat) (x:Nat×Nat),x.1≠0→Je s st x=x
 | [],_,_=>rfl
 |n::st,x,h=>by unfold Je xW;rw[if_neg h];exact GF st x h
theorem lS {p:Nat→Bool×Nat}{a:Nat}(h:(xX p a).1=0):(p a).1=true:=by
 unfold xX at h;simp at h;exact h
theorem AE {s:ByteArray}{f a b:Nat}(h:B3 s (xV (bt s a)) a=(false,b)):xY s f a=(2,b):=by cases f <;> simp[xY,xX,h,xW]
theorem ZP {s:ByteArray}{f a b:Nat}(h:B3 s (xV (bt s a)) a=(true,b))(c:xV (bt s a)=1):xY s f a=(0,b):=by rw[c] at h;cases f <;> simp[xY,xX,h,xW,c]
theorem gX {s:ByteArray}{f a b:Nat}(h:B3 s (xV (bt s a)) a=(true,b))(c:xV (bt s a)≠1)(d:bt s b≠40):xY s f a=(2,b):=by cases f <;> simp[xY,xX,h,xW,c,d]
theorem gY {s:ByteArray}{a b:Nat}(h:B3 s (xV (bt s a)) a=(true,b))(c:xV (bt s a)≠1)(d:bt s b=40):xY s 0 a=(3,b):=by simp[xY,xX,h,xW,c,d]
theorem gZ {s:ByteArray}{f a b:Nat}(h:B3 s (xV (bt s a)) a=(true,b))(d:xV (bt s a)≠1)(e:bt s b=40):xY s (f+1) a=xW (xY s f (b+1)) (fun c=>Se s (xY s f) (yC (xV (bt s a))) c):=by rw[xY];simp[xX,h,xW,d,e]
theorem Qi {s:ByteArray}{st:List Nat}{e b:Nat}(h:e≠0):Sa s (Je s st (e,b))=(e,b):=by rw[GF st _ h];unfold Sa xW;rw[if_neg h]
theorem GG {s:ByteArray}{st:List Nat}{c d:Nat}(h:tk s 44 c=(false,d)):Sa s (Je s (2::st) (0,c))=(2,d):=by
 have:Je s (2::st) (0,c)=Je s st (2,d):=by simp[Je,xW,Se,xX,h]
 rw[this,Qi (by omega)]
theorem DK {s:ByteArray}{st:List Nat}{c d:Nat}(h:tk s 44 c=(true,d)):Je s (2::st) (0,c)=Je s (1::st) (xY s (5-st.length) d):=by simp[Je,xW,Se,xX,h]
theorem GH {s:ByteArray}{st:List Nat}{c d:Nat}(h:tk s 41 c=(false,d)):Sa s (Je s (1::st) (0,c))=(2,d):=by
 have:Je s (1::st) (0,c)=Je s st (2,d):=by simp[Je,xW,Se,xX,h]
 rw[this,Qi (by omega)]
theorem DL {s:ByteArray}{st:List Nat}{c d:Nat}(h:tk s 41 c=(true,d)):Je s (1::st) (0,c)=Je s st (0,d):=by simp[Je,xW,Se,xX,h]
theorem Tn {k:Nat}(_:k≠0)(_:k≠1):yC k=1∨yC k=2:=by unfold yC;rw[if_neg (by omega)];split;exact .inr rfl;exact .inl rfl
theorem ZQ (s:ByteArray)(c:Nat):rng s c c=tk s c:=by
 funext a;unfold rng tk;by_cases h:bt s a=c
 ·rw[if_pos (by omega),if_pos h]
 rw[if_neg (by omega),if_neg h]
theorem DM (s:ByteArray):rng s 48 57=Jt s:=by
 funext a;unfold rng Jt V0;by_cases h:48≤bt s a∧bt s a≤57
 ·rw[if_pos h,Mn h];simp[Eb]
 rw[if_neg h,It h];simp
theorem Bf (a:Nat)(f:Nat→Nat×Nat):xW (0,a) f=f a:=rfl
theorem B7 {e a:Nat}(h:e≠0)(f:Nat→Nat×Nat):xW (e,a) f=(e,a):=by unfold xW;rw[if_neg h]
theorem Gk {p:Nat→Bool×Nat}{a b:Nat}(h:p a=(true,b)):xX p a=(0,b):=by unfold xX;rw[h];rfl
theorem Fz {p:Nat→Bool×Nat}{a b:Nat}(h:p a=(false,b)):xX p a=(2,b):=by unfold xX;rw[h];rfl
theorem Xp (f g:Nat→Bool×Nat)(a:Nat):xX (B6 f g) a=xW (xX f a) (xX g):=by
 cases h:f a with
 |mk o b=>cases o
          ·rw[Fz h,Fz (Fo h)];rfl
          rw[Gk h,Bf];unfold xX;rw[Eu h]
theorem Ll (x:Nat×Nat)(f g:Nat→Bool×Nat):xW x (xX (B6 f g))=xW (xW x (xX f)) (xX g):=by
 unfold xW;by_cases h:x.1=0
 ·rw[if_pos h,if_pos h,Xp];rfl
 rw[if_neg h,if_neg h,if_neg h]
theorem Wu {s:ByteArray}{k lo hi a:Nat}(h:lo≤bt s a∧bt s a≤hi):V0 s (k+1) lo hi a=(true,Eb s lo hi k (a+1)):=by
 unfold V0;rw[Mn h];have:=Oo s lo hi k (a+1);simp;omega
theorem Qj {s:ByteArray}{k lo hi a:Nat}(h:¬(lo≤bt s a∧bt s a≤hi)):V0 s (k+1) lo hi a=(false,a):=by
 unfold V0;rw[It h];simp
def U9 (s:ByteArray)(d e a:Nat):Nat×Nat:=if e=0∧bt s a=40∧d=6 then (3,a) else xW (e,a) (xX (tk s 40))
def Np (s:ByteArray)(e n k c:Nat):Nat:=if e=0∧0<n then Eb s 48 57 k c else c
theorem Su {s:ByteArray}{lo hi a:Nat}(h:lo≤bt s a∧bt s a≤hi):rng s lo hi a=(true,a+1):=by unfold rng;rw[if_pos h]
theorem DN {s:ByteArray}{lo hi a:Nat}(h:¬(lo≤bt s a∧bt s a≤hi)):rng s lo hi a=(false,a):=by unfold rng;rw[if_neg h]
theorem Jb {s:ByteArray}{c a:Nat}(h:bt s a=c):tk s c a=(true,a+1):=by unfold tk;rw[if_pos h]
theorem M3 {s:ByteArray}{c a:Nat}(h:bt s a≠c):tk s c a=(false,a):=by unfold tk;rw[if_neg h]
theorem UD {s:ByteArray}{a e1 a1 v:Nat}(h:bt s a=45)(b:xW (0,a+1) (xX (rng s 49 57))=(e1,a1))(hv:49≤v):xX (D1 s) a=(e1,Np s e1 (v-48) 3 a1):=by
 have f:D1 s a=Nm s (a+1):=Hp (Jb h);rw[Bf] at b;unfold xX;rw[f];unfold Nm;by_cases e:bt s (a+1)=48
 ·rw[Fz (DN (by omega))] at b;injection b with c d;subst c d;rw[if_pos e];simp[Np]
 rw[if_neg e];by_cases hr:49≤bt s (a+1)∧bt s (a+1)≤57
 ·rw[Gk (Su hr)] at b;injection b with c d;subst c d;rw[Wu ⟨by omega,hr.2⟩];simp[Np];intro;omega
 rw[Fz (DN hr)] at b;injection b with c d;subst c d;rw[Qj (by omega)];simp[Np]
theorem UE {s:ByteArray}{a e e1 a1 v:Nat}(h:¬(e=0∧bt s a=45))(b:xW (e,a) (xX (rng s 48 57))=(e1,a1))(hv:e=0→48≤bt s a∧bt s a≤57→v=bt s a):xW (e,a) (xX (D1 s))=(e1,Np s e1 (v-48) 3 a1):=by
 by_cases f:e=0
 ·subst f;have i:bt s a≠45:=fun x=>h ⟨rfl,x⟩;rw[Bf] at b⊢;have j:D1 s a=R9 (tk s 48) (Nm s) a:=Ev (M3 i);unfold xX;rw[j];by_cases g:bt s a=48
  ·rw[Gk (Su (by omega))] at b;injection b with c d;subst c d;have:=hv rfl (by omega);rw[Ho (Jb g)];simp[Np];intro;omega
  rw[F8 (M3 g)];unfold Nm;rw[if_neg g];by_cases hr:48≤bt s a∧bt s a≤57
  ·rw[Gk (Su hr)] at b;injection b with c d;subst c d;have:=hv rfl hr;rw[Wu hr];simp[Np];intro;omega
  rw[Fz (DN hr)] at b;injection b with c d;subst c d;rw[Qj hr];simp[Np]
 rw[B7 f] at b⊢;injection b with c d;subst c d;simp[Np,f]
def To (s:ByteArray):Nat→Nat→Bool×Nat
 |0=>tk s 93
 |k+1=>Tm (tk s 44) (Dh s k) (tk s 93)
theorem GI (s:ByteArray)(k:Nat):Dh s k=B6 (Jt s) (To s k):=by cases k <;> rfl
theorem MR (s:ByteArray)(x:Nat×Nat):xW x (xX (Dh s 5))=xW (xW x (xX (Jt s))) (xX (To s 5)):=by rw[GI,Ll]
theorem UF {s:ByteArray}{k c:Nat}(h:bt s c=44):xW (0,c) (xX (To s (k+1)))=xW (xW (0,c+1) (xX (Jt s))) (xX (To s k)):=by
 rw[Bf,←Ll,←GI,Bf];show xX (Tm (tk s 44) (Dh s k) (tk s 93)) c=_;unfold xX;rw[Hp (Jb h)]
theorem UG {s:ByteArray}{k e c:Nat}(h:¬(e=0∧bt s c=44)):xW (e,c) (xX (To s k))=xW (e,c) (xX (tk s 93)):=by
 by_cases a:e=0
 ·subst a;cases k with
  |zero=>rfl
  |succ k =>rw[Bf,Bf];show xX (Tm (tk s 44) (Dh s k) (tk s 93)) c=_;unfold xX;rw[Ev (M3 (fun x=>h ⟨rfl,x⟩))]
 rw[B7 a,B7 a]
end Go.Proofs.YtdinjjmcmfjbfaaGreatDoor.Pl
namespace Go.Proofs.YtdinjjmcmfjbfaaGreatDoor
open Go.RowKit Pl Tryz
abbrev C4:Value:=.int .u8 0
abbrev D2:Value:=.int .i64 0
abbrev D4:Value:=.int .i32 0
abbrev E2(n:Nat):Value:=.int .i64 (n:Int)
abbrev C1(b:Nat):Value:=.pointer (some ⟨b,0,none⟩)
abbrev C2(w:World)(b:Nat)(c:Array Value)(t:TypeId):Prop:=w.heap[b]? =some (.cells c t (0,0))
abbrev C3(w:World)(b i:Nat)(v:Value):Prop:=w.cell? ⟨b,i,none⟩=some v
theorem Bm(n:Nat):(0:Int)≤(n:Int):=by omega
theorem Bn{n:Nat}(h:n≤maxLen):n≤9223372036854775807:=by unfold maxLen at h;omega
theorem Bx{n:Nat}(h:¬n=0):∃k,n=k+1:=⟨n-1,by omega⟩
structure Ab (S:Nat→Prop) (w w':World):Prop where
 os:w'.os=w.os
 tape:w'.tape=w.tape
 output:w'.output=w.output
 size:w.heap.size≤w'.heap.size
 block:∀k,k<w.heap.size→¬S k→w'.heap[k]? =w.heap[k]?
def No:Nat→Prop:=fun _=>False
theorem Ab.refl (S:Nat→Prop)(w:World):Ab S w w:=⟨rfl,rfl,rfl,tY _,fun _ _ _=>rfl⟩
theorem Ab.trans {S T U:Nat→Prop}{a b c:World}(h:Ab S a b)(k:Ab T b c)(f:∀i,S i→U i)(g:∀i,i<a.heap.size→T i→U i):Ab U a c :=
 ⟨k.os.trans h.os,k.tape.trans h.tape,k.output.trans h.output,uJ h.size k.size,fun i hi d =>
  (k.block i (tU hi h.size) (fun e=>d (g i hi e))).trans (h.block i hi (fun e=>d (f i e)))⟩
theorem Ab.seq {S:Nat→Prop}{a b c:World}(h:Ab S a b)(k:Ab S b c):Ab S a c:=h.trans k (fun _ e=>e) (fun _ _ e=>e)
theorem Ab.V1 {S:Nat→Prop}{a b c:World}(h:Ab S a b)(k:Ab No b c):Ab S a c:=h.trans k (fun _ e=>e) (fun _ _ e=>e.elim)
theorem Ab.Qk {S:Nat→Prop}{a b c:World}(h:Ab No a b)(k:Ab S b c):Ab S a c:=h.trans k (fun _ e=>e.elim) (fun _ _ e=>e)
theorem Ab.mono {S T:Nat→Prop}{a b:World}(h:Ab S a b)(c:∀i,i<a.heap.size→S i→T i):Ab T a b :=
 ⟨h.os,h.tape,h.output,h.size,fun i hi d=>h.block i hi (fun e=>d (c i hi e))⟩
theorem Ab.any {S:Nat→Prop}{a b:World}(h:Ab No a b):Ab S a b:=h.mono fun _ _ e=>e.elim
theorem Ab.drewN {S:Nat→Prop}{a w:World}(h:Ab S a w)(n:Nat):Ab S a (w.drewN n):=⟨h.os,h.tape,h.output,h.size,h.block⟩
theorem Ab.drew {S:Nat→Prop}{a w:World}(h:Ab S a w):Ab S a w.drew:=⟨h.os,h.tape,h.output,h.size,h.block⟩
theorem Ab.setCell {S:Nat→Prop}{a w:World}(h:Ab S a w){g o:Nat}(hg:a.heap.size≤g∨S g)(c:Value):Ab S a (w.setCell ⟨g,o,none⟩ c) :=
 ⟨h.os,h.tape,h.output,by simpa [World.setCell] using h.size,fun k d b=>(Below.heap_setCell _ _ _ _ (by show k≠g;rintro rfl;rcases hg with hg|hg;omega;exact b hg)).trans (h.block k d b)⟩
theorem Ab.alloc {S:Nat→Prop}{a w:World}(h:Ab S a w)(o:Obj):Ab S a (w.alloc o) :=
 ⟨h.os,h.tape,h.output,uJ h.size (by simp),fun k b c=>(Below.heap_alloc _ _ _ (tU b h.size)).trans (h.block k b c)⟩
theorem Ab.grown {S:Nat→Prop}{a w w':World}{row:Option Nat}(h:Ab S a w)(g:w.grownBy w' row)(hr:∀r,row=some r→a.heap.size≤r∨S r):Ab S a w' :=
 ⟨g.os.trans h.os,g.tape.trans h.tape,g.output.trans h.output,uJ h.size g.size,fun k b c =>
  (g.block k (tU b h.size) (fun e=>by rcases hr k e.symm with d|d;omega;exact c d)).trans (h.block k b c)⟩
theorem Ab.below {S:Nat→Prop}{a w w':World}{B:Nat}(h:Ab S a w)(g:Below B w w')(hB:a.heap.size≤B):Ab S a w' :=
 ⟨g.os.trans h.os,g.tape.trans h.tape,g.output.trans h.output,uJ h.size g.size,fun k b c=>(g.block k (by omega)).trans (h.block k b c)⟩
theorem Ab.toBelow {w w':World}(h:Ab No w w'):Below w.heap.size w w':=⟨h.os,h.tape,h.output,h.size,fun k a=>h.block k a xT⟩
theorem Ab.cell {S:Nat→Prop}{w w':World}(h:Ab S w w'){b o:Nat}(a:b<w.heap.size)(c:¬S b):w'.cell? ⟨b,o,none⟩=w.cell? ⟨b,o,none⟩:=World.cell?_of_block (h.block b a c)
theorem Af {w:World}{b:Nat}{c:Array Value}{t:TypeId}{a:Nat×Nat}(h:w.heap[b]? =some (.cells c t a))(o:Nat):w.cell? ⟨b,o,none⟩=c[o]? :=by simp[World.cell?,h]
theorem Am {w:World}{b:Nat}{c:Array Value}{t:TypeId}(h:C2 w b c t)(o:Nat):w.frozen? ⟨b,o,none⟩=false:=by simp[World.frozen?,h]
theorem A0 {w:World}{b:Nat}{c:Array Value}{t:TypeId}{a:Nat×Nat}(h:w.heap[b]? =some (.cells c t a))(o:Nat)(v:Value):(w.setCell ⟨b,o,none⟩ v).heap[b]? =some (.cells (c.setIfInBounds o v) t a):=by
 simp[World.setCell,Array.getElem?_modify,h]
theorem Aa {w:World}{b:Nat}{o:Obj}(h:w.heap[b]? =some o):b<w.heap.size:=(Array.getElem?_eq_some_iff.1 h).1
theorem Ae {p:Prop}(h:p):xR p:=h
theorem Bo {k:IntKind}{a b:Int}(h:a=b):Ending.returned (.int k a)=.returned (.int k b):=by rw[h]
theorem A5 {a b:Bool}(h:a=b):Ending.returned (.bool a)=.returned (.bool b):=by rw[h]
def Is (t:TypeId)(w:World)(k:Nat):Prop:=∃c z,w.heap[k]? =some (.cells c t z)
def RP (B:Nat)(s:ByteArray)(a:Nat)(w:World):Prop:=a≤s.size∧w.heap[B]? =some (.cells #[.string s,.int .i64 (a:Int)] 93 (0,0))
theorem RP.c0 {B:Nat}{s:ByteArray}{a:Nat}{w:World}(h:RP B s a w):w.cell? ⟨B,0,none⟩=some (.string s):=by rw[Af h.2];rfl
theorem RP.c1 {B:Nat}{s:ByteArray}{a:Nat}{w:World}(h:RP B s a w):w.cell? ⟨B,1,none⟩=some (.int .i64 (a:Int)):=by rw[Af h.2];rfl
theorem RP.f1 {B:Nat}{s:ByteArray}{a:Nat}{w:World}(h:RP B s a w):w.frozen? ⟨B,1,none⟩=false:=Am h.2 1
theorem RP.drewN {B:Nat}{s:ByteArray}{a:Nat}{w:World}(h:RP B s a w)(n:Nat):RP B s a (w.drewN n):=h
theorem RP.set {B:Nat}{s:ByteArray}{a a':Nat}{w:World}(h:RP B s a w)(b:a'≤s.size):RP B s a' (w.setCell ⟨B,1,none⟩ (.int .i64 (a':Int))):=⟨b,by rw[A0 h.2];rfl⟩
def PP (B:Nat)(s:ByteArray)(w:World)(r:Bool×Nat)(e:Ending)(w':World):Prop :=
 ∃ok a',r=(ok,a')∧e=.returned (.bool ok)∧RP B s a' w'∧Ab (·=B) w w'
theorem F0 (B:Nat)(s:ByteArray)(a:Nat)(w:World)(_:s.size≤1000)(h:RP B s a w) :
 Calls prog 101 #[C1 B] w fun e w'=>e=.returned (.int .u8 (bt s a:Nat))∧RP B s a w'∧Ab (·=B) w w':=by
 have f:=h.c0;have g:=h.c1;have c:=Ae h;have i:=h.1;have hi:=Bm a
 clear h;by_cases d:a<s.size
 ·have j:(a:Int)<(s.size:Int):=by omega
  have b:xR (bt s a=s[a].toNat):=by show _=_;unfold bt;rw[dif_pos d]
  go_enter func101,ntmps101;go_wp2;go_quiet (fail);go_wp2;go_quiet (fail);go_wp2;go_ret;exact⟨Bo (by rw[b.o]),(c.o.drewN _).drewN _,((Ab.refl _ _).drewN _).drewN _⟩
 have b:xR (bt s a=0):=by show _=_;unfold bt;rw[dif_neg d]
 go_enter func101,ntmps101;go_wp2;go_quiet (fail);go_wp2;go_ret;exact⟨Bo (by rw[b.o];rfl),(c.o.drewN _),((Ab.refl _ _).drewN _)⟩
theorem Di (B:Nat)(s:ByteArray)(a c:Nat)(f:Int)(w:World)(g:s.size≤1000)(_:0<c)(j:f=(c:Int))(h:RP B s a w) :
 Calls prog 76 #[C1 B,.int .u8 f] w (PP B s w (tk s c a)):=by
 subst j;have m:=h.1;have i:=Ae h;clear h;by_cases b:bt s a=c
 ·have k:((bt s a:Int) != (c:Int))=false:=by simp[b]
  have d:xR (tk s c a=(true,a+1)):=by show _=_;unfold tk;rw[if_pos b]
  have n:=Cu (s:=s) (a:=a) (by omega);clear b;go_enter func76,ntmps76;go_wp21;go_call F0 B s a _ g i.o as e w1 ⟨rfl,hp,hf⟩;have o:=hp.c1;have p:=hp.f1;have l:=Ae hp;clear hp;go_wp2;go_ret;exact⟨true,a+1,d.o,rfl,l.o.set (by omega),hf.setCell (.inr rfl) _⟩
 have k:((bt s a:Int) != (c:Int))=true:=by simp;omega
 have d:xR (tk s c a=(false,a)):=by show _=_;unfold tk;rw[if_neg b]
 clear b;go_enter func76,ntmps76;go_wp21;go_call F0 B s a _ g i.o as e w1 ⟨rfl,hp,hf⟩;go_wp2;go_ret;exact⟨false,a,d.o,rfl,hp,hf⟩
theorem Ql (B:Nat)(s:ByteArray)(a b lo hi:Nat)(o p q:Int)(w:World)(g:s.size≤1000)(_:b≤10)(_:0<lo)(u:o=(b:Int))(v:p=(lo:Int))(x:q=(hi:Int))(h:RP B s a w) :
 Calls prog 123 #[C1 B,.int .i64 o,.int .u8 p,.int .u8 q] w (PP B s w (V0 s b lo hi a)):=by
 subst u v x;have F:=h.1;have G:=h.c1;have y:=Ae h;clear h;go_enter func123,ntmps123;go_wp21;go_loopg [] b (fun k wr=>∃c:Nat,c+k=a+b∧a≤c∧xR (RP B s c wr)∧Ab (·=B) w wr∧xR (Eb s lo hi k c=Eb s lo hi b a))
 case atStart=>exact⟨a,rfl,tY _,y,Ab.refl _ _,rfl⟩
 obtain⟨c,e1,_,hp,hf,l⟩:=hrel;have H:=hp.o.1;have c1:=hp.o.c1;by_cases z:gk=0
 ·subst z;have I:decide ((c:Int)-(a:Int)<(b:Int))=false:=by simp;omega
  go_wp21;go_ret;have e2:c=Eb s lo hi b a:=l.o;refine⟨decide (a<c),c,?_,A5 ?_,hp.o,hf⟩
  ·unfold V0;rw[←e2]
  simp
 obtain⟨k,rfl⟩:=Bx z;have J:(c:Int)-(a:Int)<(b:Int):=by omega
 by_cases A:lo≤bt s c
 ·by_cases C:bt s c≤hi
  ·have r:(lo:Int)≤(bt s c:Int):=(by omega);have D:(bt s c:Int)≤(hi:Int):=(by omega);have K:=Cu (s:=s) (a:=c) (by omega);have e2:xR (Eb s lo hi k (c+1)=Eb s lo hi b a):=(by have:=l.o;rw[Mn ⟨A,C⟩] at this;exact this);go_wp21;go_call F0 B s c _ g hp.o as e w1 ⟨rfl,d,i⟩;have j:=Ae d;clear d;go_wp21;go_call F0 B s c _ g j.o as e E ⟨rfl,f,m⟩;have t:=f.c1;have L:=f.f1;have n:=Ae f;clear f;go_wp21;go_roundg k
   case measure=>omega
   exact⟨c+1,by omega,by omega,n.o.set (by omega),((hf.seq i).seq m).setCell (.inr rfl) _,e2⟩
  have r:(lo:Int)≤(bt s c:Int):=by omega
  have D:decide ((bt s c:Int)≤(hi:Int))=false:=by simp;omega
  have e2:xR (c=Eb s lo hi b a):=by have:=l.o;rw[It (by omega)] at this;exact this
  go_wp21;go_call F0 B s c _ g hp.o as e w1 ⟨rfl,d,i⟩;have j:=Ae d;clear d;go_wp21;go_call F0 B s c _ g j.o as e E ⟨rfl,f,m⟩;have t:=f.c1;have n:=Ae f;clear f;go_wp21;go_ret;refine⟨decide (a<c),c,?_,A5 ?_,n.o,(hf.seq i).seq m⟩
  ·unfold V0;rw[←e2.o]
  simp
 have r:decide ((lo:Int)≤(bt s c:Int))=false:=by simp;omega
 have e2:xR (c=Eb s lo hi b a):=by have:=l.o;rw[It (by omega)] at this;exact this
 go_wp21;go_call F0 B s c _ g hp.o as e w1 ⟨rfl,d,i⟩;have t:=d.c1;have j:=Ae d;clear d;go_wp21;go_ret;refine⟨decide (a<c),c,?_,A5 ?_,j.o,hf.seq i⟩
 ·unfold V0;rw[←e2.o]
 simp
theorem Xq (B:Nat)(s:ByteArray)(a:Nat)(w:World)(d:s.size≤1000)(h:RP B s a w) :
 Calls prog 200 #[C1 B] w (PP B s w (Nm s a)):=by
 have i:=Ae h;clear h;by_cases c:bt s a=48
 ·have j:((bt s a:Int) == 48)=true:=by simp;omega
  have g:xR (Nm s a=(false,a)):=by show _=_;unfold Nm;rw[if_pos c]
  clear c;go_enter func200,ntmps200;go_wp21;go_call F0 B s a _ d i.o as e w1 ⟨rfl,hp,hf⟩;go_wp21;go_ret;exact⟨false,a,g.o,rfl,hp,hf⟩
 have j:((bt s a:Int) == 48)=false:=by simp;omega
 have g:xR (Nm s a=V0 s 4 48 57 a):=by show _=_;unfold Nm;rw[if_neg c]
 clear c;go_enter func200,ntmps200;go_wp21;go_call F0 B s a _ d i.o as e w1 ⟨rfl,hp,hf⟩;have k:=Ae hp;clear hp;go_wp21;go_call Ql B s a 4 48 57 4 48 57 _ d (by omega) (by omega) rfl rfl rfl k.o as e l ⟨ok,b,x,rfl,p,f⟩;have X:=Ae x;clear x;go_wp21;go_ret;exact⟨ok,b,g.o.trans X.o,rfl,p,hf.seq f⟩
theorem GJ (B:Nat)(s:ByteArray)(a:Nat)(w:World)(c:s.size≤1000)(h:RP B s a w) :
 Calls prog 161 #[C1 B] w (PP B s w (D1 s a)):=by
 have r:=Ae h;clear h;go_enter func161,ntmps161;go_wp21;go_call Di B s a 45 45 _ c (by omega) rfl r.o as e w1 ⟨ok1,a1,l,rfl,p1,d⟩;have f:=Ae l;have m:=Ae p1;clear l p1;cases ok1
 ·go_wp21;go_call Di B s a1 48 48 _ c (by omega) rfl m.o as e t ⟨ok2,a2,n,rfl,p2,o⟩;have p:=Ae n;have q:=Ae p2;clear n p2;cases ok2
  ·go_wp21;go_call Xq B s a2 _ c q.o as e w3 ⟨g,a3,b,rfl,i,j⟩;have k:=Ae b;clear b;go_wp21;go_ret;exact⟨g,a3,by unfold D1;rw[Ev f.o,F8 p.o];exact k.o,rfl,i,(d.seq o).seq j⟩
  go_wp21;go_ret;exact⟨true,a2,by unfold D1;rw[Ev f.o,Ho p.o],rfl,q.o,d.seq o⟩
 go_wp21;go_call Xq B s a1 _ c m.o as e w3 ⟨g,a3,b,rfl,i,j⟩;have k:=Ae b;clear b;go_wp21;go_ret;exact⟨g,a3,by unfold D1;rw[Hp f.o];exact k.o,rfl,i,d.seq j⟩
def Cd:List UInt8→Nat:=fun l=>l.foldl (fun a c=>a*10+(c.toNat-48)) 0
def Xr (c:UInt8):Prop:=48≤c.toNat∧c.toNat≤57
def Gu (l:List UInt8):Int:=match l with
 | []=>0
 |c::r=>if c=45 then -(Cd r:Int) else (Cd (c::r):Int)
theorem Mp:∀(l:List UInt8) (acc:Nat),l.foldl (fun a c=>a*10+(c.toNat-48)) acc=acc*10 ^ l.length+Cd l
 | [],acc=>by simp[Cd]
 |c::l,acc=>by
  have b:=Mp l (acc*10+(c.toNat-48));have d:=Mp l (c.toNat-48);have e:Cd (c::l)=l.foldl (fun a c=>a*10+(c.toNat-48)) (c.toNat-48):=by simp[Cd]
  simp only[List.foldl_cons];rw[b,e,d,uO,Nat.pow_succ,Nat.add_mul,Nat.mul_assoc,Nat.mul_comm 10];omega
theorem V2:∀(l:List UInt8) (acc M:Nat),(∀c∈l,Xr c)→M≤18446744073709551615→acc*10 ^ l.length+Cd l≤M→Lib.parseUintM M acc l=.ok (acc*10 ^ l.length+Cd l)
 | [],acc,M,_,_,_=>by simp[Lib.parseUintM,Cd]
 |c::l,acc,M,a,b,h=>by
  have d:48≤c.toNat∧c.toNat≤57:=a c (by simp);have e:Cd (c::l)=(c.toNat-48)*10 ^ l.length+Cd l:=by have:=Mp l (c.toNat-48);simp only[Cd,List.foldl_cons,xL,uL] at this⊢;exact this
  have hp:0<10 ^ l.length:=Nat.pow_pos (by omega);have e1:acc*10 ^ (c::l).length+Cd (c::l)=(acc*10+(c.toNat-48))*10 ^ l.length+Cd l:=by rw[e,uO,Nat.pow_succ,Nat.add_mul,Nat.mul_assoc,Nat.mul_comm 10];omega
  rw[e1] at h⊢;have g:acc*10+(c.toNat-48)≤(acc*10+(c.toNat-48))*10 ^ l.length:=Nat.le_mul_of_pos_right _ hp;rw[Lib.parseUintM,if_pos d,if_neg (by omega),if_neg (by omega)];exact V2 l _ M (fun x f=>a x (by simp[f])) b h
def ZR (l:List UInt8):Prop:=l≠[]∧l.length≤4∧∀c∈l,Xr c
theorem UH {l:List UInt8}(h:∀c∈l,Xr c):Cd l<10 ^ l.length:=by
 induction l with
 |nil=>simp[Cd]
 |cons c l a =>
  have b:Cd (c::l)=(c.toNat-48)*10 ^ l.length+Cd l:=by have:=Mp l (c.toNat-48);simp only[Cd,List.foldl_cons,xL,uL] at this⊢;exact this
  have f:=a (fun x d=>h x (by simp[d]));have e:=h c (by simp);unfold Xr at e;have g:(c.toNat-48)*10 ^ l.length≤9*10 ^ l.length:=Nat.mul_le_mul_right _ (by omega);rw[b,uO,Nat.pow_succ];omega
theorem Lm {l:List UInt8}(h:ZR l):Cd l≤9999:=by
 have a:=UH h.2.2;have b:10 ^ l.length≤10 ^ 4:=Nat.pow_le_pow_right (by omega) h.2.1;omega
def DO (l:List UInt8):Prop:=ZR l∨∃d,l=45::d∧ZR d
theorem GK {l:List UInt8}(h:DO l): -9999≤Gu l∧Gu l≤9999:=by
 rcases h with h|⟨d,rfl,h⟩
 ·have:=Lm h;cases l with
  |nil=>exact absurd rfl h.1
  |cons c r =>have a:=h.2.2 c (by simp);have b:c≠45:=fun e=>(by subst e;unfold Xr at a;simp at a);simp only[Gu,if_neg b];omega
 have:=Lm h;simp only[Gu,if_pos];omega
theorem ZS {l:List UInt8}(h:DO l):Lib.parseIntB 64 l=.ok (Gu l):=by
 have b:∀d,ZR d→Lib.parseUintB 64 d=.ok (Cd d):=fun d a=>by have:=Lm a;unfold Lib.parseUintB;rw[if_neg a.1,V2 d 0 (2 ^ 64-1) a.2.2 (by decide) (by omega)];simp
 rcases h with h|⟨d,rfl,h⟩
 ·have hv:=Lm h;have g:=b l h;cases l with
  |nil=>exact absurd rfl h.1
  |cons c r =>have f:=h.2.2 c (by simp);unfold Xr at f;have i:c≠45:=fun e=>(by subst e;simp at f);rw[Lib.parseIntB,if_neg (by omega),g];simp only[Gu,if_neg i];rw[if_neg (by omega),if_neg (by omega),if_neg (by omega)]
 have hv:=Lm h;rw[Lib.parseIntB,if_pos (by simp),b d h];have j:(45:UInt8).toNat=45:=rfl;simp only[Gu,if_pos,j];rw[if_neg (by simp),if_neg (by omega)]
def Ia (s:ByteArray)(a b:Nat):List UInt8:=(s.extract a b).data.toList
theorem Oq (s:ByteArray)(a b:Nat):Ia s a b=(s.data.toList.take b).drop a:=by
 simp[Ia,ByteArray.data_extract,Array.toList_extract,List.extract_eq_take_drop,List.drop_take]
theorem M4 (s:ByteArray):s.data.toList.length=s.size:=by rw[Array.length_toList];rfl
theorem ZT (s:ByteArray)(i:Nat):s.data.toList[i]?.map (·.toNat)=if i<s.size then some (bt s i) else none:=by
 by_cases h:i<s.size
 ·rw[if_pos h];have a:i<s.data.toList.length:=by rw[M4];exact h
  rw[tT a];simp only[xB,Option.some.injEq,bt,dif_pos h];rfl
 rw[if_neg h,vK (by rw[M4];omega)];rfl
theorem Tp {s:ByteArray}{a b:Nat}(_:b≤s.size):(Ia s a b).length=b-a:=by
 rw[Oq,List.length_drop,uV];have:=M4 s;omega
theorem RD {s:ByteArray}{a b:Nat}(d:b≤s.size){i:Nat}{c:UInt8}(h:(Ia s a b)[i]? =some c):a+i<b∧c.toNat=bt s (a+i):=by
 have hi:=(tR.1 h).1;rw[Tp d] at hi;refine⟨by omega,?_⟩;rw[Oq,List.getElem?_drop,uQ,if_pos (by omega)] at h;have:=ZT s (a+i);rw[h,if_pos (by omega)] at this;simpa using this
theorem iA {s:ByteArray}{a b:Nat}(d:b≤s.size){c:UInt8}(h:c∈Ia s a b):∃i,a≤i∧i<b∧c.toNat=bt s i:=by
 obtain⟨i,hi⟩:=uY h;obtain⟨e,f⟩:=RD d hi;exact⟨a+i,by omega,e,f⟩
theorem Ot (s:ByteArray)(lo hi:Nat):∀k a i,a≤i→i<Eb s lo hi k a→lo≤bt s i∧bt s i≤hi
 |0,a,i,c,b=>by simp[Eb] at b;omega
 |k+1,a,i,c,b=>by
  by_cases h:lo≤bt s a∧bt s a≤hi
  ·rw[Mn h] at b;by_cases e:i=a
   ·subst e;exact h
   exact Ot s lo hi k (a+1) i (by omega) b
  rw[It h] at b;omega
theorem Ln (s:ByteArray)(lo hi:Nat):∀k a,Eb s lo hi k a≤a+k
 |0,a=>by simp[Eb]
 |k+1,a=>by
  unfold Eb;split
  ·have:=Ln s lo hi k (a+1);omega
  omega
theorem Ro {s:ByteArray}{k lo hi a a':Nat}(f:0<lo)(g:a≤s.size)(h:V0 s k lo hi a=(true,a')):a<a'∧a'≤s.size∧a'≤a+k∧∀c∈Ia s a a',lo≤c.toNat∧c.toNat≤hi:=by
 unfold V0 at h;injection h with b d;have j:a<Eb s lo hi k a:=by simpa using b
 subst d;have e:=U8 (s:=s) (lo:=lo) (hi:=hi) f k a g;refine⟨j,e,Ln s lo hi k a,fun c l=>?_⟩;obtain⟨i,b,d,m⟩:=iA e l;rw[m];exact Ot s lo hi k a i b d
end Go.Proofs.YtdinjjmcmfjbfaaGreatDoor
