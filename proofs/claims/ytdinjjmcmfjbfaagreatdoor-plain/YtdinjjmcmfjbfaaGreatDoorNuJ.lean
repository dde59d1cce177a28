import Init
import Derived.Test.YtdinjjmcmfjbfaaGreatDoorProg
import Derived.RowKit
import Derived.WalkKit
import Derived.WalkSpells
import Derived.WalkLawsBesides
import Derived.Deep.QuietTactic
import Derived.BigQuiet
import Derived.Deep.LoopGhost
import Derived.Deep.RegionHeld3
import Derived.Lib.ParseIntBCases
import Derived.Test.YtdinjjmcmfjbfaaGreatDoorAlJ
set_option maxRecDepth 100000
set_option maxHeartbeats 4000000
namespace Go.Proofs.YtdinjjmcmfjbfaaGreatDoor.Pl
def bt (s:ByteArray)(a:Nat):Nat:=if h:a<s.size then s[a].toNat else 0
def cj (s:ByteArray):Nat→Nat
 |0=>0
 |a+1=>cj s a+if bt s a=74 then 1 else 0
def tk (s:ByteArray)(c a:Nat):Bool×Nat:=if bt s a=c then (true,a+1) else (false,a)
def rng (s:ByteArray)(lo hi a:Nat):Bool×Nat:=if lo≤bt s a∧bt s a≤hi then (true,a+1) else (false,a)
def Dk (s:ByteArray)(lo hi:Nat):Nat→Nat→Nat
 |0,a=>a
 |k+1,a=>if lo≤bt s a∧bt s a≤hi then Dk s lo hi k (a+1) else a
def Ua (s:ByteArray)(k lo hi a:Nat):Bool×Nat:=(decide (a<Dk s lo hi k a),Dk s lo hi k a)
def Hr (s:ByteArray)(a:Nat):Bool×Nat:=Ua s 1 48 57 a
def A5 (s:ByteArray)(a:Nat):Bool×Nat:=Ua s 4 97 122 a
def Ck (f g:Nat→Bool×Nat)(a:Nat):Bool×Nat:=if (f a).1=true then g (f a).2 else (false,(f a).2)
def Qs (f g:Nat→Bool×Nat)(a:Nat):Bool×Nat:=if (f a).1=true then (true,(f a).2) else g (f a).2
def Je (f g h:Nat→Bool×Nat)(a:Nat):Bool×Nat:=if (f a).1=true then g (f a).2 else h (f a).2
def Lw (s:ByteArray)(a:Nat):Bool×Nat:=if bt s a=48 then (false,a) else Ua s 4 48 57 a
def Cl (s:ByteArray)(a:Nat):Bool×Nat:=Je (tk s 45) (Lw s) (Qs (tk s 48) (Lw s)) a
def Hu (s:ByteArray)(a:Nat):Bool×Nat:=if bt s a=60∨bt s a=61∨bt s a=33 then (true,a+1) else (false,a)
def Hv (s:ByteArray)(a:Nat):Bool×Nat:=Je (tk s 35) (Cl s) (Je (tk s 36) (A5 s) (Hr s)) a
def C9 (s:ByteArray):Nat→Nat→Bool×Nat
 |0,a=>Ck (Hr s) (tk s 93) a
 |k+1,a=>Ck (Hr s) (Je (tk s 44) (C9 s k) (tk s 93)) a
def KR (s:ByteArray)(a:Nat):Bool×Nat:=Ck (tk s 91) (Je (tk s 115) (Ck (Hr s) (tk s 93)) (Ck (tk s 110) (tk s 93))) a
def kd (c:Nat):Nat:=if c=83 then 2 else if c=80 then 3 else if c=74 then 4 else if c=85 then 5 else if c=68 then 6 else if c=71 then 7 else if 97≤c∧c≤122 then 1 else 0
def Co (k:Nat):Nat:=if k=0∨k=1 then 0 else if k=4∨k=5 then 2 else 1
def C7 (s:ByteArray)(a:Nat):Bool×Nat:=Ck (tk s 83) (Ck (tk s 91) (Ck (Hr s) (Ck (Hu s) (Ck (Hv s) (tk s 93))))) a
def Qe (s:ByteArray)(a:Nat):Bool×Nat:=Ck (tk s 80) (Ck (tk s 91) (C9 s 5)) a
def Iq (s:ByteArray)(a:Nat):Bool×Nat:=Ck (tk s 74) (Ck (tk s 91) (Ck (Hr s) (Ck (tk s 61) (Ck (Hr s) (tk s 93))))) a
def Cp (s:ByteArray)(a:Nat):Bool×Nat:=Ck (tk s 71) (Ck (tk s 91) (Ck (Qs (tk s 93) (C9 s 5)) (KR s))) a
def Ba (s:ByteArray)(k a:Nat):Bool×Nat :=
 if k=1 then A5 s a else if k=2 then C7 s a else if k=3 then Qe s a else if k=4 then Iq s a else if k=5 then tk s 85 a else if k=6 then tk s 68 a else if k=7 then Cp s a else (false,a)
def bE (x:Nat×Nat)(f:Nat→Nat×Nat):Nat×Nat:=if x.1=0 then f x.2 else x
def lf (p:Nat→Bool×Nat)(a:Nat):Nat×Nat:=(if (p a).1=true then 0 else 2,(p a).2)
def Qf (s:ByteArray)(q:Nat→Nat×Nat)(n c:Nat):Nat×Nat:=if n=2 then bE (lf (tk s 44) c) (fun d=>bE (q d) (lf (tk s 41))) else lf (tk s 41) c
def qP (s:ByteArray):Nat→Nat→Nat×Nat
 |0,a=>bE (lf (Ba s (kd (bt s a))) a) fun b=>if kd (bt s a)=1 then (0,b) else if bt s b=40 then (3,b) else (2,b)
 |f+1,a=>bE (lf (Ba s (kd (bt s a))) a) fun b=>if kd (bt s a)=1 then (0,b) else if bt s b=40 then bE (qP s f (b+1)) (fun c=>Qf s (qP s f) (Co (kd (bt s a))) c) else (2,b)
def Hy (s:ByteArray):List Nat→Nat×Nat→Nat×Nat
 | [],x=>x
 |n::st,x=>Hy s st (bE x fun c=>Qf s (qP s (5-st.length)) n c)
def P9 (s:ByteArray)(x:Nat×Nat):Nat×Nat:=bE x fun b=>if b<s.size then (2,b) else (0,b)
def Dw (s:ByteArray):Nat×Nat:=P9 s (qP s 6 0)
def Lp (s:ByteArray):Nat×Nat :=
 if 120<s.size then (1,0) else if (Dw s).1=0 then (if 2<cj s s.size then (4,0) else (0,0)) else Dw s
theorem Ai {f g:Nat→Bool×Nat}{a b:Nat}(h:f a=(true,b)):Ck f g a=g b:=by unfold Ck;rw[h];rfl
theorem A6 {f g:Nat→Bool×Nat}{a b:Nat}(h:f a=(false,b)):Ck f g a=(false,b):=by unfold Ck;rw[h];rfl
theorem G9 {f g:Nat→Bool×Nat}{a b:Nat}(h:f a=(true,b)):Qs f g a=(true,b):=by unfold Qs;rw[h];rfl
theorem Fb {f g:Nat→Bool×Nat}{a b:Nat}(h:f a=(false,b)):Qs f g a=g b:=by unfold Qs;rw[h];rfl
theorem Gk {f g k:Nat→Bool×Nat}{a b:Nat}(h:f a=(true,b)):Je f g k a=g b:=by unfold Je;rw[h];rfl
theorem D1 {f g k:Nat→Bool×Nat}{a b:Nat}(h:f a=(false,b)):Je f g k a=k b:=by unfold Je;rw[h];rfl
theorem B4 {s:ByteArray}{a:Nat}(h:bt s a≠0):a<s.size:=by
 unfold bt at h;split at h
 ·assumption
 ·exact absurd rfl h
theorem MX (s:ByteArray)(a:Nat):bt s a<256:=by
 unfold bt;split
 ·exact UInt8.toNat_lt _
 ·omega
structure Dr (s:ByteArray) (p:Nat→Bool×Nat):Prop where
 le:∀a,a≤(p a).2
 size:∀a,a≤s.size→(p a).2≤s.size
 noJ:∀a,(p a).1=true→cj s (p a).2=cj s a
theorem Bu {s:ByteArray}{c:Nat}(_:c≠0)(d:c≠74):Dr s (tk s c):=by
 refine⟨fun a=>?_,fun a b=>?_,fun a b=>?_⟩ <;> unfold tk at* <;> by_cases h:bt s a=c
 ·simp[h]
 ·simp[h]
 ·have:=B4 (s:=s) (a:=a) (by omega)
  simp[h];omega
 ·simp[h,b]
 ·rw[if_pos h];simp[cj,h,d]
 ·rw[if_neg h] at b;simp at b
theorem K9 {s:ByteArray}{lo hi k a:Nat}(h:lo≤bt s a∧bt s a≤hi):Dk s lo hi (k+1) a=Dk s lo hi k (a+1):=by rw[Dk,if_pos h]
theorem Ha {s:ByteArray}{lo hi k a:Nat}(h:¬(lo≤bt s a∧bt s a≤hi)):Dk s lo hi (k+1) a=a:=by rw[Dk,if_neg h]
theorem Mx (s:ByteArray)(lo hi:Nat):∀k a,a≤Dk s lo hi k a
 |0,a=>kZ a
 |k+1,a=>by unfold Dk;split;exact lH (Nat.le_succ a) (Mx s lo hi k (a+1));exact kZ a
theorem Tg {s:ByteArray}{lo hi:Nat}(b:0<lo):∀k a,a≤s.size→Dk s lo hi k a≤s.size
 |0,a,h=>h
 |k+1,a,h=>by
  unfold Dk;split
  ·rename_i c;exact Tg b k (a+1) (B4 (s:=s) (by omega))
  ·exact h
theorem BQ {s:ByteArray}{lo hi:Nat}(b:74<lo∨hi<74):∀k a,cj s (Dk s lo hi k a)=cj s a
 |0,a=>rfl
 |k+1,a=>by
  unfold Dk;split
  ·rename_i c;rw[BQ b k (a+1)];simp[cj];omega
  ·rfl
theorem Vf {s:ByteArray}{k lo hi:Nat}(b:0<lo)(c:74<lo∨hi<74):Dr s (Ua s k lo hi) :=
 ⟨fun a=>Mx s lo hi k a,fun a h=>Tg b k a h,fun a _=>BQ c k a⟩
theorem Nz (s:ByteArray):Dr s (Hr s):=Vf (by omega) (by omega)
theorem Lx (s:ByteArray):Dr s (A5 s):=Vf (by omega) (by omega)
theorem Da {s:ByteArray}{f g:Nat→Bool×Nat}(hf:Dr s f)(hg:Dr s g):Dr s (Ck f g):=by
 refine⟨fun a=>?_,fun a b=>?_,fun a b=>?_⟩
 ·unfold Ck;split;exact lH (hf.le a) (hg.le _);exact hf.le a
 ·unfold Ck;split;exact hg.size _ (hf.size a b);exact hf.size a b
 ·unfold Ck at b⊢
  by_cases h:(f a).1=true
  ·rw[if_pos h] at b⊢;rw[hg.noJ _ b,hf.noJ _ h]
  ·rw[if_neg h] at b;simp at b
theorem N0 {s:ByteArray}{f g k:Nat→Bool×Nat}(hf:Dr s f)(hg:Dr s g)(c:Dr s k)(d:∀a,(f a).1=false→(f a).2=a):Dr s (Je f g k):=by
 refine⟨fun a=>?_,fun a b=>?_,fun a b=>?_⟩
 ·unfold Je;split;exact lH (hf.le a) (hg.le _);exact lH (hf.le a) (c.le _)
 ·unfold Je;split;exact hg.size _ (hf.size a b);exact c.size _ (hf.size a b)
 ·unfold Je at b⊢
  by_cases h:(f a).1=true
  ·rw[if_pos h] at b⊢;rw[hg.noJ _ b,hf.noJ _ h]
  ·rw[if_neg h] at b⊢;rw[c.noJ _ b,d a (by simpa using h)]
theorem BR {s:ByteArray}{f g:Nat→Bool×Nat}(hf:Dr s f)(hg:Dr s g)(c:∀a,(f a).1=false→(f a).2=a):Dr s (Qs f g):=by
 refine⟨fun a=>?_,fun a b=>?_,fun a b=>?_⟩
 ·unfold Qs;split;exact hf.le a;exact lH (hf.le a) (hg.le _)
 ·unfold Qs;split;exact hf.size a b;exact hg.size _ (hf.size a b)
 ·unfold Qs at b⊢
  by_cases h:(f a).1=true
  ·rw[if_pos h];exact hf.noJ _ h
  ·rw[if_neg h] at b⊢;rw[hg.noJ _ b,c a (by simpa using h)]
theorem Hc (s:ByteArray)(c a:Nat)(h:(tk s c a).1=false):(tk s c a).2=a:=by
 unfold tk at *;split at h;simp at h;rename_i b;rw[if_neg b]
theorem Yc (s:ByteArray):Dr s (Lw s):=by
 have h:=Vf (s:=s) (k:=4) (lo:=48) (hi:=57) (by omega) (by omega)
 refine⟨fun a=>?_,fun a b=>?_,fun a b=>?_⟩
 ·unfold Lw;split;exact kZ _;exact h.le a
 ·unfold Lw;split;exact b;exact h.size a b
 ·unfold Lw at b⊢;split at b
  ·simp at b
  ·rename_i c;rw[if_neg c];exact h.noJ a b
theorem MY (s:ByteArray):Dr s (Cl s) :=
 N0 (Bu (by omega) (by omega)) (Yc s) (BR (Bu (by omega) (by omega)) (Yc s) (Hc s _)) (Hc s _)
theorem GK (s:ByteArray):Dr s (Hu s):=by
 refine⟨fun a=>?_,fun a b=>?_,fun a b=>?_⟩ <;> unfold Hu at* <;> by_cases h:bt s a=60∨bt s a=61∨bt s a=33
 ·rw[if_pos h];simp
 ·rw[if_neg h];simp
 ·rw[if_pos h];exact B4 (s:=s) (by omega)
 ·rw[if_neg h];exact b
 ·rw[if_pos h];simp[cj];omega
 ·rw[if_neg h] at b;simp at b
theorem GL (s:ByteArray):Dr s (Hv s) :=
 N0 (Bu (by omega) (by omega)) (MY s) (N0 (Bu (by omega) (by omega)) (Lx s) (Nz s) (Hc s _)) (Hc s _)
theorem Qt (s:ByteArray):∀k,Dr s (C9 s k)
 |0=>Da (Nz s) (Bu (by omega) (by omega))
 |k+1=>Da (Nz s) (N0 (Bu (by omega) (by omega)) (Qt s k) (Bu (by omega) (by omega)) (Hc s _))
theorem GM (s:ByteArray):Dr s (KR s) :=
 Da (Bu (by omega) (by omega)) (N0 (Bu (by omega) (by omega)) (Da (Nz s) (Bu (by omega) (by omega))) (Da (Bu (by omega) (by omega)) (Bu (by omega) (by omega))) (Hc s _))
theorem BU (c:Nat):kd c≤7:=by unfold kd;repeat' split <;> try omega
theorem GN {s:ByteArray}{c:Nat}{g:Nat→Bool×Nat}(hg:∀a,a≤(g a).2){a:Nat}(h:(Ck (tk s c) g a).1=true):a<(Ck (tk s c) g a).2:=by
 unfold Ck at *
 by_cases b:bt s a=c
 ·have e:tk s c a=(true,a+1):=by unfold tk;rw[if_pos b]
  rw[e];have:=hg (a+1);simp;omega
 ·have e:tk s c a=(false,a):=by unfold tk;rw[if_neg b]
  rw[e] at h;simp at h
theorem Fk (s:ByteArray)(k a:Nat):a≤(Ba s k a).2∧(a≤s.size→(Ba s k a).2≤s.size)∧((Ba s k a).1=true→a<(Ba s k a).2)∧((Ba s k a).1=true→cj s (Ba s k a).2=cj s a+if k=4 then 1 else 0):=by
 have d:∀(p:Nat→Bool×Nat),Dr s p→Dr s (Ck (tk s 91) p):=fun p w=>Da (Bu (by omega) (by omega)) w
 have one:∀(c:Nat) (g:Nat→Bool×Nat),c≠0→c≠74→Dr s g→a≤(Ck (tk s c) g a).2∧(a≤s.size→(Ck (tk s c) g a).2≤s.size)∧((Ck (tk s c) g a).1=true→a<(Ck (tk s c) g a).2)∧((Ck (tk s c) g a).1=true→cj s (Ck (tk s c) g a).2=cj s a+0):=by
  intro c g f i hg;have h:=Da (Bu (s:=s) f i) hg
  exact⟨h.le a,h.size a,fun e=>GN hg.le e,fun e=>by rw[h.noJ a e];rfl⟩
 have l:∀c:Nat,c≠0→c≠74→a≤(tk s c a).2∧(a≤s.size→(tk s c a).2≤s.size)∧((tk s c a).1=true→a<(tk s c a).2)∧((tk s c a).1=true→cj s (tk s c a).2=cj s a+0):=by
  intro c f i;have h:=Bu (s:=s) f i
  refine⟨h.le a,h.size a,fun e=>?_,fun e=>by rw[h.noJ a e];rfl⟩
  unfold tk at *;by_cases b:bt s a=c
  ·rw[if_pos b];simp
  ·rw[if_neg b] at e;simp at e
 have j:=Nz s;unfold Ba
 by_cases m:k=1
 ·subst m;rw[if_pos rfl];have h:=Lx s
  refine⟨h.le a,h.size a,fun e=>?_,fun e=>by rw[h.noJ a e];rfl⟩
  simpa [A5,Ua] using e
 rw[if_neg m]
 by_cases n:k=2
 ·subst n;rw[if_pos rfl];exact one 83 _ (by omega) (by omega) (d _ (Da j (Da (GK s) (Da (GL s) (Bu (by omega) (by omega))))))
 rw[if_neg n]
 by_cases o:k=3
 ·subst o;rw[if_pos rfl];exact one 80 _ (by omega) (by omega) (d _ (Qt s 5))
 rw[if_neg o]
 by_cases r:k=4
 ·subst r;rw[if_pos rfl]
  have hg:Dr s (Ck (tk s 91) (Ck (Hr s) (Ck (tk s 61) (Ck (Hr s) (tk s 93))))):=d _ (Da j (Da (Bu (by omega) (by omega)) (Da j (Bu (by omega) (by omega)))))
  unfold Iq
  by_cases b:bt s a=74
  ·have e:tk s 74 a=(true,a+1):=by unfold tk;rw[if_pos b]
   have x:=B4 (s:=s) (a:=a) (by omega)
   rw[Ai e]
   have q:=hg.le (a+1)
   refine⟨by omega,fun _=>hg.size _ (by omega),fun _=>by omega,fun e1=>?_⟩
   rw[hg.noJ _ e1];simp[cj,b]
  ·have e:tk s 74 a=(false,a):=by unfold tk;rw[if_neg b]
   rw[A6 e];simp
 rw[if_neg r]
 by_cases t:k=5
 ·subst t;rw[if_pos rfl];exact l 85 (by omega) (by omega)
 rw[if_neg t]
 by_cases u:k=6
 ·subst u;rw[if_pos rfl];exact l 68 (by omega) (by omega)
 rw[if_neg u]
 by_cases v:k=7
 ·subst v;rw[if_pos rfl];exact one 71 _ (by omega) (by omega) (d _ (Da (BR (Bu (by omega) (by omega)) (Qt s 5) (Hc s _)) (GM s)))
 rw[if_neg v]
 simp
theorem BV {s:ByteArray}:∀(st:List Nat) (x:Nat×Nat),x.1≠0→Hy s st x=x
 | [],_,_=>rfl
 |n::st,x,h=>by unfold Hy bE;rw[if_neg h];exact BV st x h
theorem cQ {p:Nat→Bool×Nat}{a:Nat}(h:(lf p a).1=0):(p a).1=true:=by
 unfold lf at h;simp at h;exact h
theorem Xp {s:ByteArray}{f a b:Nat}(h:Ba s (kd (bt s a)) a=(false,b)):qP s f a=(2,b):=by cases f <;> simp[qP,lf,h,bE]
theorem RZ {s:ByteArray}{f a b:Nat}(h:Ba s (kd (bt s a)) a=(true,b))(c:kd (bt s a)=1):qP s f a=(0,b):=by rw[c] at h;cases f <;> simp[qP,lf,h,bE,c]
theorem YU {s:ByteArray}{f a b:Nat}(h:Ba s (kd (bt s a)) a=(true,b))(c:kd (bt s a)≠1)(d:bt s b≠40):qP s f a=(2,b):=by cases f <;> simp[qP,lf,h,bE,c,d]
theorem YV {s:ByteArray}{a b:Nat}(h:Ba s (kd (bt s a)) a=(true,b))(c:kd (bt s a)≠1)(d:bt s b=40):qP s 0 a=(3,b):=by simp[qP,lf,h,bE,c,d]
theorem YW {s:ByteArray}{f a b:Nat}(h:Ba s (kd (bt s a)) a=(true,b))(d:kd (bt s a)≠1)(e:bt s b=40):qP s (f+1) a=bE (qP s f (b+1)) (fun c=>Qf s (qP s f) (Co (kd (bt s a))) c):=by rw[qP];simp[lf,h,bE,d,e]
theorem N1 {s:ByteArray}{st:List Nat}{e b:Nat}(h:e≠0):P9 s (Hy s st (e,b))=(e,b):=by rw[BV st _ h];unfold P9 bE;rw[if_neg h]
theorem BX {s:ByteArray}{st:List Nat}{c d:Nat}(h:tk s 44 c=(false,d)):P9 s (Hy s (2::st) (0,c))=(2,d):=by
 have:Hy s (2::st) (0,c)=Hy s st (2,d):=by simp[Hy,bE,Qf,lf,h]
 rw[this,N1 (by omega)]
theorem Zn {s:ByteArray}{st:List Nat}{c d:Nat}(h:tk s 44 c=(true,d)):Hy s (2::st) (0,c)=Hy s (1::st) (qP s (5-st.length) d):=by simp[Hy,bE,Qf,lf,h]
theorem BZ {s:ByteArray}{st:List Nat}{c d:Nat}(h:tk s 41 c=(false,d)):P9 s (Hy s (1::st) (0,c))=(2,d):=by
 have:Hy s (1::st) (0,c)=Hy s st (2,d):=by simp[Hy,bE,Qf,lf,h]
 rw[this,N1 (by omega)]
theorem Zo {s:ByteArray}{st:List Nat}{c d:Nat}(h:tk s 41 c=(true,d)):Hy s (1::st) (0,c)=Hy s st (0,d):=by simp[Hy,bE,Qf,lf,h]
theorem Rl {k:Nat}(_:k≠0)(_:k≠1):Co k=1∨Co k=2:=by unfold Co;rw[if_neg (by omega)];split;exact .inr rfl;exact .inl rfl
theorem SA (s:ByteArray)(c:Nat):rng s c c=tk s c:=by
 funext a;unfold rng tk;by_cases h:bt s a=c
 ·rw[if_pos (by omega),if_pos h]
 ·rw[if_neg (by omega),if_neg h]
theorem Zq (s:ByteArray):rng s 48 57=Hr s:=by
 funext a;unfold rng Hr Ua;by_cases h:48≤bt s a∧bt s a≤57
 ·rw[if_pos h,K9 h];simp[Dk]
 ·rw[if_neg h,Ha h];simp
theorem A3 (a:Nat)(f:Nat→Nat×Nat):bE (0,a) f=f a:=rfl
theorem Bi {e a:Nat}(h:e≠0)(f:Nat→Nat×Nat):bE (e,a) f=(e,a):=by unfold bE;rw[if_neg h]
theorem Fh {p:Nat→Bool×Nat}{a b:Nat}(h:p a=(true,b)):lf p a=(0,b):=by unfold lf;rw[h];rfl
theorem E6 {p:Nat→Bool×Nat}{a b:Nat}(h:p a=(false,b)):lf p a=(2,b):=by unfold lf;rw[h];rfl
theorem Ge (f g:Nat→Bool×Nat)(a:Nat):lf (Ck f g) a=bE (lf f a) (lf g):=by
 cases h:f a with
 |mk o b=>cases o
          ·rw[E6 h,E6 (A6 h)];rfl
          ·rw[Fh h,A3];unfold lf;rw[Ai h]
theorem Bg (x:Nat×Nat)(f g:Nat→Bool×Nat):bE x (lf (Ck f g))=bE (bE x (lf f)) (lf g):=by
 unfold bE;by_cases h:x.1=0
 ·rw[if_pos h,if_pos h,Ge];rfl
 ·rw[if_neg h,if_neg h,if_neg h]
theorem Ux {s:ByteArray}{k lo hi a:Nat}(h:lo≤bt s a∧bt s a≤hi):Ua s (k+1) lo hi a=(true,Dk s lo hi k (a+1)):=by
 unfold Ua;rw[K9 h];have:=Mx s lo hi k (a+1);simp;omega
theorem N2 {s:ByteArray}{k lo hi a:Nat}(h:¬(lo≤bt s a∧bt s a≤hi)):Ua s (k+1) lo hi a=(false,a):=by
 unfold Ua;rw[Ha h];simp
def Up (s:ByteArray)(d e a:Nat):Nat×Nat:=if e=0∧bt s a=40∧d=6 then (3,a) else bE (e,a) (lf (tk s 40))
def Ly (s:ByteArray)(e n k c:Nat):Nat:=if e=0∧0<n then Dk s 48 57 k c else c
theorem Qu {s:ByteArray}{lo hi a:Nat}(h:lo≤bt s a∧bt s a≤hi):rng s lo hi a=(true,a+1):=by unfold rng;rw[if_pos h]
theorem Zr {s:ByteArray}{lo hi a:Nat}(h:¬(lo≤bt s a∧bt s a≤hi)):rng s lo hi a=(false,a):=by unfold rng;rw[if_neg h]
theorem I6 {s:ByteArray}{c a:Nat}(h:bt s a=c):tk s c a=(true,a+1):=by unfold tk;rw[if_pos h]
theorem Lq {s:ByteArray}{c a:Nat}(h:bt s a≠c):tk s c a=(false,a):=by unfold tk;rw[if_neg h]
theorem MZ {s:ByteArray}{a e1 a1 v:Nat}(h:bt s a=45)(b:bE (0,a+1) (lf (rng s 49 57))=(e1,a1))(hv:49≤v):lf (Cl s) a=(e1,Ly s e1 (v-48) 3 a1):=by
 have f:Cl s a=Lw s (a+1):=Gk (I6 h)
 rw[A3] at b
 unfold lf;rw[f];unfold Lw
 by_cases e:bt s (a+1)=48
 ·rw[E6 (Zr (by omega))] at b;injection b with c d;subst c d
  rw[if_pos e];simp[Ly]
 ·rw[if_neg e]
  by_cases hr:49≤bt s (a+1)∧bt s (a+1)≤57
  ·rw[Fh (Qu hr)] at b;injection b with c d;subst c d
   rw[Ux ⟨by omega,hr.2⟩];simp[Ly];intro;omega
  ·rw[E6 (Zr hr)] at b;injection b with c d;subst c d
   rw[N2 (by omega)];simp[Ly]
theorem NA {s:ByteArray}{a e e1 a1 v:Nat}(h:¬(e=0∧bt s a=45))(b:bE (e,a) (lf (rng s 48 57))=(e1,a1))(hv:e=0→48≤bt s a∧bt s a≤57→v=bt s a):bE (e,a) (lf (Cl s))=(e1,Ly s e1 (v-48) 3 a1):=by
 by_cases f:e=0
 ·subst f
  have i:bt s a≠45:=fun x=>h ⟨rfl,x⟩
  rw[A3] at b⊢
  have j:Cl s a=Qs (tk s 48) (Lw s) a:=D1 (Lq i);unfold lf;rw[j]
  by_cases g:bt s a=48
  ·rw[Fh (Qu (by omega))] at b;injection b with c d;subst c d
   have:=hv rfl (by omega)
   rw[G9 (I6 g)];simp[Ly];intro;omega
  ·rw[Fb (Lq g)];unfold Lw;rw[if_neg g]
   by_cases hr:48≤bt s a∧bt s a≤57
   ·rw[Fh (Qu hr)] at b;injection b with c d;subst c d
    have:=hv rfl hr
    rw[Ux hr];simp[Ly];intro;omega
   ·rw[E6 (Zr hr)] at b;injection b with c d;subst c d
    rw[N2 hr];simp[Ly]
 ·rw[Bi f] at b⊢;injection b with c d;subst c d
  simp[Ly,f]
def Rm (s:ByteArray):Nat→Nat→Bool×Nat
 |0=>tk s 93
 |k+1=>Je (tk s 44) (C9 s k) (tk s 93)
theorem CA (s:ByteArray)(k:Nat):C9 s k=Ck (Hr s) (Rm s k):=by cases k <;> rfl
theorem GO (s:ByteArray)(x:Nat×Nat):bE x (lf (C9 s 5))=bE (bE x (lf (Hr s))) (lf (Rm s 5)):=by rw[CA,Bg]
theorem NB {s:ByteArray}{k c:Nat}(h:bt s c=44):bE (0,c) (lf (Rm s (k+1)))=bE (bE (0,c+1) (lf (Hr s))) (lf (Rm s k)):=by
 rw[A3,←Bg,←CA,A3]
 show lf (Je (tk s 44) (C9 s k) (tk s 93)) c=_
 unfold lf;rw[Gk (I6 h)]
theorem NC {s:ByteArray}{k e c:Nat}(h:¬(e=0∧bt s c=44)):bE (e,c) (lf (Rm s k))=bE (e,c) (lf (tk s 93)):=by
 by_cases a:e=0
 ·subst a
  cases k with
  |zero=>rfl
  |succ k =>
   rw[A3,A3]
   show lf (Je (tk s 44) (C9 s k) (tk s 93)) c=_
   unfold lf;rw[D1 (Lq (fun x=>h ⟨rfl,x⟩))]
 ·rw[Bi a,Bi a]
end Go.Proofs.YtdinjjmcmfjbfaaGreatDoor.Pl
namespace Go.Proofs.YtdinjjmcmfjbfaaGreatDoor
open Go.RowKit
structure Ab (S:Nat→Prop) (w w':World):Prop where
 os:w'.os=w.os
 tape:w'.tape=w.tape
 output:w'.output=w.output
 size:w.heap.size≤w'.heap.size
 block:∀k,k<w.heap.size→¬S k→w'.heap[k]? =w.heap[k]?
def No:Nat→Prop:=fun _=>False
theorem Ab.refl (S:Nat→Prop)(w:World):Ab S w w:=⟨rfl,rfl,rfl,kZ _,fun _ _ _=>rfl⟩
theorem Ab.trans {S T d:Nat→Prop}{a b c:World}(h:Ab S a b)(k:Ab T b c)(g:∀i,S i→d i)(j:∀i,i<a.heap.size→T i→d i):Ab d a c :=
 ⟨k.os.trans h.os,k.tape.trans h.tape,k.output.trans h.output,lH h.size k.size,fun i hi f =>
  (k.block i (kV hi h.size) (fun e=>f (j i hi e))).trans (h.block i hi (fun e=>f (g i e)))⟩
theorem Ab.seq {S:Nat→Prop}{a b c:World}(h:Ab S a b)(k:Ab S b c):Ab S a c:=h.trans k (fun _ e=>e) (fun _ _ e=>e)
theorem Ab.Vg {S:Nat→Prop}{a b c:World}(h:Ab S a b)(k:Ab No b c):Ab S a c:=h.trans k (fun _ e=>e) (fun _ _ e=>e.elim)
theorem Ab.SB {S:Nat→Prop}{a b c:World}(h:Ab No a b)(k:Ab S b c):Ab S a c:=h.trans k (fun _ e=>e.elim) (fun _ _ e=>e)
theorem Ab.mono {S T:Nat→Prop}{a b:World}(h:Ab S a b)(c:∀i,i<a.heap.size→S i→T i):Ab T a b :=
 ⟨h.os,h.tape,h.output,h.size,fun i hi d=>h.block i hi (fun e=>d (c i hi e))⟩
theorem Ab.any {S:Nat→Prop}{a b:World}(h:Ab No a b):Ab S a b:=h.mono fun _ _ e=>e.elim
theorem Ab.drewN {S:Nat→Prop}{a w:World}(h:Ab S a w)(n:Nat):Ab S a (w.drewN n):=⟨h.os,h.tape,h.output,h.size,h.block⟩
theorem Ab.drew {S:Nat→Prop}{a w:World}(h:Ab S a w):Ab S a w.drew:=⟨h.os,h.tape,h.output,h.size,h.block⟩
theorem Ab.setCell {S:Nat→Prop}{a w:World}(h:Ab S a w){g o:Nat}(hg:a.heap.size≤g∨S g)(c:Value):Ab S a (w.setCell ⟨g,o,none⟩ c) :=
 ⟨h.os,h.tape,h.output,by simpa [World.setCell] using h.size,fun k d b=>(Below.heap_setCell _ _ _ _ (by show k≠g;rintro rfl;rcases hg with hg|hg;omega;exact b hg)).trans (h.block k d b)⟩
theorem Ab.alloc {S:Nat→Prop}{a w:World}(h:Ab S a w)(o:Obj):Ab S a (w.alloc o) :=
 ⟨h.os,h.tape,h.output,lH h.size (by simp),fun k b c=>(Below.heap_alloc _ _ _ (kV b h.size)).trans (h.block k b c)⟩
theorem Ab.grown {S:Nat→Prop}{a w w':World}{row:Option Nat}(h:Ab S a w)(g:w.grownBy w' row)(hr:∀r,row=some r→a.heap.size≤r∨S r):Ab S a w' :=
 ⟨g.os.trans h.os,g.tape.trans h.tape,g.output.trans h.output,lH h.size g.size,fun k b c =>
  (g.block k (kV b h.size) (fun e=>by rcases hr k e.symm with d|d;omega;exact c d)).trans (h.block k b c)⟩
theorem Ab.below {S:Nat→Prop}{a w w':World}{B:Nat}(h:Ab S a w)(g:Below B w w')(hB:a.heap.size≤B):Ab S a w' :=
 ⟨g.os.trans h.os,g.tape.trans h.tape,g.output.trans h.output,lH h.size g.size,fun k b c=>(g.block k (by omega)).trans (h.block k b c)⟩
theorem Ab.toBelow {w w':World}(h:Ab No w w'):Below w.heap.size w w':=⟨h.os,h.tape,h.output,h.size,fun k a=>h.block k a oI⟩
theorem Ab.cell {S:Nat→Prop}{w w':World}(h:Ab S w w'){b o:Nat}(a:b<w.heap.size)(c:¬S b):w'.cell? ⟨b,o,none⟩=w.cell? ⟨b,o,none⟩:=World.cell?_of_block (h.block b a c)
theorem Ae {w:World}{b:Nat}{c:Array Value}{t:TypeId}{a:Nat×Nat}(h:w.heap[b]? =some (.cells c t a))(o:Nat):w.cell? ⟨b,o,none⟩=c[o]? :=by simp[World.cell?,h]
theorem Aj {w:World}{b:Nat}{c:Array Value}{t:TypeId}(h:w.heap[b]? =some (.cells c t (0,0)))(o:Nat):w.frozen? ⟨b,o,none⟩=false:=by simp[World.frozen?,h]
theorem Ap {w:World}{b:Nat}{c:Array Value}{t:TypeId}{a:Nat×Nat}(h:w.heap[b]? =some (.cells c t a))(o:Nat)(v:Value):(w.setCell ⟨b,o,none⟩ v).heap[b]? =some (.cells (c.setIfInBounds o v) t a):=by
 simp[World.setCell,Array.getElem?_modify,h]
theorem Aa {w:World}{b:Nat}{o:Obj}(h:w.heap[b]? =some o):b<w.heap.size:=(Array.getElem?_eq_some_iff.1 h).1
theorem Ad {p:Prop}(h:p):oH p:=h
theorem Bb {k:IntKind}{a b:Int}(h:a=b):Ending.returned (.int k a)=.returned (.int k b):=by rw[h]
theorem Az {a b:Bool}(h:a=b):Ending.returned (.bool a)=.returned (.bool b):=by rw[h]
def Is (t:TypeId)(w:World)(k:Nat):Prop:=∃c z,w.heap[k]? =some (.cells c t z)
def RP (B:Nat)(s:ByteArray)(a:Nat)(w:World):Prop:=a≤s.size∧w.heap[B]? =some (.cells #[.string s,.int .i64 (a:Int)] 93 (0,0))
theorem RP.c0 {B:Nat}{s:ByteArray}{a:Nat}{w:World}(h:RP B s a w):w.cell? ⟨B,0,none⟩=some (.string s):=by rw[Ae h.2];rfl
theorem RP.c1 {B:Nat}{s:ByteArray}{a:Nat}{w:World}(h:RP B s a w):w.cell? ⟨B,1,none⟩=some (.int .i64 (a:Int)):=by rw[Ae h.2];rfl
theorem RP.f1 {B:Nat}{s:ByteArray}{a:Nat}{w:World}(h:RP B s a w):w.frozen? ⟨B,1,none⟩=false:=Aj h.2 1
theorem RP.drewN {B:Nat}{s:ByteArray}{a:Nat}{w:World}(h:RP B s a w)(n:Nat):RP B s a (w.drewN n):=h
theorem RP.set {B:Nat}{s:ByteArray}{a a':Nat}{w:World}(h:RP B s a w)(b:a'≤s.size):RP B s a' (w.setCell ⟨B,1,none⟩ (.int .i64 (a':Int))):=⟨b,by rw[Ap h.2];rfl⟩
def PP (B:Nat)(s:ByteArray)(w:World)(r:Bool×Nat)(e:Ending)(w':World):Prop :=
 ∃ok a',r=(ok,a')∧e=.returned (.bool ok)∧RP B s a' w'∧Ab (·=B) w w'
theorem E7 (B:Nat)(s:ByteArray)(a:Nat)(w:World)(_:s.size≤1000)(h:RP B s a w) :
 Calls Tryz.prog 101 #[.pointer (some ⟨B,0,none⟩)] w fun e w'=>e=.returned (.int .u8 (Pl.bt s a:Nat))∧RP B s a w'∧Ab (·=B) w w':=by
 have f:=h.c0;have g:=h.c1;have c:=Ad h;have i:=h.1
 have hi:(0:Int)≤(a:Int):=by omega
 clear h
 by_cases d:a<s.size
 ·have j:(a:Int)<(s.size:Int):=by omega
  have b:oH (Pl.bt s a=s[a].toNat):=by show _=_;unfold Pl.bt;rw[dif_pos d]
  go_enter Tryz.func101,Tryz.ntmps101
  go_wp2
  go_quiet (fail)
  go_wp2
  go_quiet (fail)
  go_wp2
  go_ret
  exact⟨Bb (by rw[b.o]),(c.o.drewN _).drewN _,((Ab.refl _ _).drewN _).drewN _⟩
 ·have b:oH (Pl.bt s a=0):=by show _=_;unfold Pl.bt;rw[dif_neg d]
  go_enter Tryz.func101,Tryz.ntmps101
  go_wp2
  go_quiet (fail)
  go_wp2
  go_ret
  exact⟨Bb (by rw[b.o];rfl),(c.o.drewN _),((Ab.refl _ _).drewN _)⟩
theorem A4 (B:Nat)(s:ByteArray)(a c:Nat)(g:Int)(w:World)(i:s.size≤1000)(_:0<c)(k:g=(c:Int))(h:RP B s a w) :
 Calls Tryz.prog 76 #[.pointer (some ⟨B,0,none⟩),.int .u8 g] w (PP B s w (Pl.tk s c a)):=by
 subst k;have o:=h.1;have j:=Ad h;clear h
 by_cases d:Pl.bt s a=c
 ·have l:((Pl.bt s a:Int) != (c:Int))=false:=by simp[d]
  have f:oH (Pl.tk s c a=(true,a+1)):=by show _=_;unfold Pl.tk;rw[if_pos d]
  have p:=Pl.B4 (s:=s) (a:=a) (by omega)
  clear d
  go_enter Tryz.func76,Tryz.ntmps76
  go_wp2_with fail;refine (E7 B s a _ i j.o).mono ?_;rintro e m ⟨rfl,b,hf⟩;have q:=b.c1;have r:=b.f1;have n:=Ad b;clear b
  go_wp2
  go_ret
  exact⟨true,a+1,f.o,rfl,n.o.set (by omega),hf.setCell (.inr rfl) _⟩
 ·have l:((Pl.bt s a:Int) != (c:Int))=true:=by simp;omega
  have f:oH (Pl.tk s c a=(false,a)):=by show _=_;unfold Pl.tk;rw[if_neg d]
  clear d
  go_enter Tryz.func76,Tryz.ntmps76
  go_wp2_with fail;refine (E7 B s a _ i j.o).mono ?_;rintro e m ⟨rfl,b,hf⟩
  go_wp2
  go_ret
  exact⟨false,a,f.o,rfl,b,hf⟩
theorem N9 (B:Nat)(s:ByteArray)(a b lo hi:Nat)(q r t:Int)(w:World)(j:s.size≤1000)(_:b≤10)(_:0<lo)(y:q=(b:Int))(z:r=(lo:Int))(A:t=(hi:Int))(h:RP B s a w) :
 Calls Tryz.prog 123 #[.pointer (some ⟨B,0,none⟩),.int .i64 q,.int .u8 r,.int .u8 t] w (PP B s w (Pl.Ua s b lo hi a)):=by
 subst y z A;have I:=h.1;have J:=h.c1;have C:=Ad h;clear h
 go_enter Tryz.func123,Tryz.ntmps123
 go_wp2_with fail
 go_loopg [] b (fun k wr=>∃c:Nat,c+k=a+b∧a≤c∧oH (RP B s c wr)∧Ab (·=B) w wr∧oH (Pl.Dk s lo hi k c=Pl.Dk s lo hi b a))
 case atStart=>exact⟨a,rfl,kZ _,C,Ab.refl _ _,rfl⟩
 case round =>
  obtain⟨c,e1,_,i,hf,n⟩:=hrel
  have K:=i.o.1;have c1:=i.o.c1
  by_cases D:gk=0
  ·subst D
   have L:decide ((c:Int)-(a:Int)<(b:Int))=false:=by simp;omega
   go_wp2_with fail;go_ret;have g:c=Pl.Dk s lo hi b a:=n.o
   refine⟨decide (a<c),c,?_,Az ?_,i.o,hf⟩
   ·unfold Pl.Ua;rw[←g]
   ·simp
  ·obtain⟨k,rfl⟩:∃k,gk=k+1:=⟨gk-1,by omega⟩
   have M:(c:Int)-(a:Int)<(b:Int):=by omega
   by_cases E:lo≤Pl.bt s c
   ·by_cases F:Pl.bt s c≤hi
    ·have u:(lo:Int)≤(Pl.bt s c:Int):=by omega
     have G:(Pl.bt s c:Int)≤(hi:Int):=by omega
     have N:=Pl.B4 (s:=s) (a:=c) (by omega)
     have g:oH (Pl.Dk s lo hi k (c+1)=Pl.Dk s lo hi b a):=by have:=n.o;rw[Pl.K9 ⟨E,F⟩] at this;exact this
     go_wp2_with fail;refine (E7 B s c _ j i.o).mono ?_;rintro e v ⟨rfl,d,l⟩;have m:=Ad d;clear d;go_wp2_with fail;refine (E7 B s c _ j m.o).mono ?_;rintro e H ⟨rfl,f,o⟩;have x:=f.c1;have O:=f.f1;have p:=Ad f;clear f;go_wp2_with fail;go_roundg k
     case measure=>omega
     case rel=>exact⟨c+1,by omega,by omega,p.o.set (by omega),((hf.seq l).seq o).setCell (.inr rfl) _,g⟩
    ·have u:(lo:Int)≤(Pl.bt s c:Int):=by omega
     have G:decide ((Pl.bt s c:Int)≤(hi:Int))=false:=by simp;omega
     have g:oH (c=Pl.Dk s lo hi b a):=by have:=n.o;rw[Pl.Ha (by omega)] at this;exact this
     go_wp2_with fail;refine (E7 B s c _ j i.o).mono ?_;rintro e v ⟨rfl,d,l⟩;have m:=Ad d;clear d;go_wp2_with fail;refine (E7 B s c _ j m.o).mono ?_;rintro e H ⟨rfl,f,o⟩;have x:=f.c1;have p:=Ad f;clear f;go_wp2_with fail;go_ret
     refine⟨decide (a<c),c,?_,Az ?_,p.o,(hf.seq l).seq o⟩
     ·unfold Pl.Ua;rw[←g.o]
     ·simp
   ·have u:decide ((lo:Int)≤(Pl.bt s c:Int))=false:=by simp;omega
    have g:oH (c=Pl.Dk s lo hi b a):=by have:=n.o;rw[Pl.Ha (by omega)] at this;exact this
    go_wp2_with fail;refine (E7 B s c _ j i.o).mono ?_;rintro e v ⟨rfl,d,l⟩;have x:=d.c1;have m:=Ad d;clear d;go_wp2_with fail;go_ret
    refine⟨decide (a<c),c,?_,Az ?_,m.o,hf.seq l⟩
    ·unfold Pl.Ua;rw[←g.o]
    ·simp
theorem Vh (B:Nat)(s:ByteArray)(a:Nat)(w:World)(g:s.size≤1000)(h:RP B s a w) :
 Calls Tryz.prog 200 #[.pointer (some ⟨B,0,none⟩)] w (PP B s w (Pl.Lw s a)):=by
 have j:=Ad h;clear h
 by_cases c:Pl.bt s a=48
 ·have k:((Pl.bt s a:Int) == 48)=true:=by simp;omega
  have i:oH (Pl.Lw s a=(false,a)):=by show _=_;unfold Pl.Lw;rw[if_pos c]
  clear c
  go_enter Tryz.func200,Tryz.ntmps200
  go_wp2_with fail;refine (E7 B s a _ g j.o).mono ?_;rintro e l ⟨rfl,d,hf⟩;go_wp2_with fail;go_ret
  exact⟨false,a,i.o,rfl,d,hf⟩
 ·have k:((Pl.bt s a:Int) == 48)=false:=by simp;omega
  have i:oH (Pl.Lw s a=Pl.Ua s 4 48 57 a):=by show _=_;unfold Pl.Lw;rw[if_neg c]
  clear c
  go_enter Tryz.func200,Tryz.ntmps200
  go_wp2_with fail;refine (E7 B s a _ g j.o).mono ?_;rintro e l ⟨rfl,d,hf⟩;have m:=Ad d;clear d;go_wp2_with fail
  refine (N9 B s a 4 48 57 4 48 57 _ g (by omega) (by omega) rfl rfl rfl m.o).mono ?_
  rintro e n ⟨ok,b,x,rfl,p,f⟩;have X:=Ad x;clear x;go_wp2_with fail;go_ret
  exact⟨ok,b,i.o.trans X.o,rfl,p,hf.seq f⟩
theorem CB (B:Nat)(s:ByteArray)(a:Nat)(w:World)(c:s.size≤1000)(h:RP B s a w) :
 Calls Tryz.prog 161 #[.pointer (some ⟨B,0,none⟩)] w (PP B s w (Pl.Cl s a)):=by
 have u:=Ad h;clear h
 go_enter Tryz.func161,Tryz.ntmps161
 go_wp2_with fail
 refine (A4 B s a 45 45 _ c (by omega) rfl u.o).mono ?_
 rintro e v ⟨ok1,a1,m,rfl,p1,d⟩;have f:=Ad m;have n:=Ad p1;clear m p1
 cases ok1
 ·go_wp2_with fail
  refine (A4 B s a1 48 48 _ c (by omega) rfl n.o).mono ?_
  rintro e x ⟨ok2,o,p,rfl,p2,q⟩;have r:=Ad p;have t:=Ad p2;clear p p2
  cases ok2
  ·go_wp2_with fail
   refine (Vh B s o _ c t.o).mono ?_;rintro e w3 ⟨g,i,b,rfl,j,k⟩;have l:=Ad b;clear b;go_wp2_with fail;go_ret
   exact⟨g,i,by unfold Pl.Cl;rw[Pl.D1 f.o,Pl.Fb r.o];exact l.o,rfl,j,(d.seq q).seq k⟩
  ·go_wp2_with fail
   go_ret
   exact⟨true,o,by unfold Pl.Cl;rw[Pl.D1 f.o,Pl.G9 r.o],rfl,t.o,d.seq q⟩
 ·go_wp2_with fail
  refine (Vh B s a1 _ c n.o).mono ?_;rintro e w3 ⟨g,i,b,rfl,j,k⟩;have l:=Ad b;clear b;go_wp2_with fail;go_ret
  exact⟨g,i,by unfold Pl.Cl;rw[Pl.Gk f.o];exact l.o,rfl,j,d.seq k⟩
def Bs:List UInt8→Nat:=fun l=>l.foldl (fun a c=>a*10+(c.toNat-48)) 0
def Vi (c:UInt8):Prop:=48≤c.toNat∧c.toNat≤57
def Gb (l:List UInt8):Int:=match l with
 | []=>0
 |c::r=>if c=45 then -(Bs r:Int) else (Bs (c::r):Int)
theorem La:∀(l:List UInt8) (acc:Nat),l.foldl (fun a c=>a*10+(c.toNat-48)) acc=acc*10 ^ l.length+Bs l
 | [],acc=>by simp[Bs]
 |c::l,acc=>by
  have b:=La l (acc*10+(c.toNat-48));have d:=La l (c.toNat-48)
  have e:Bs (c::l)=l.foldl (fun a c=>a*10+(c.toNat-48)) (c.toNat-48):=by simp[Bs]
  simp only[List.foldl_cons]
  rw[b,e,d,lN,Nat.pow_succ,Nat.add_mul,Nat.mul_assoc,Nat.mul_comm 10]
  omega
theorem Ub:∀(l:List UInt8) (acc M:Nat),(∀c∈l,Vi c)→M≤18446744073709551615→acc*10 ^ l.length+Bs l≤M→Lib.parseUintM M acc l=.ok (acc*10 ^ l.length+Bs l)
 | [],acc,M,_,_,_=>by simp[Lib.parseUintM,Bs]
 |c::l,acc,M,a,b,h=>by
  have d:48≤c.toNat∧c.toNat≤57:=a c (by simp)
  have e:Bs (c::l)=(c.toNat-48)*10 ^ l.length+Bs l:=by
   have:=La l (c.toNat-48)
   simp only[Bs,List.foldl_cons,nZ,lK] at this⊢
   exact this
  have f:0<10 ^ l.length:=Nat.pow_pos (by omega)
  have e1:acc*10 ^ (c::l).length+Bs (c::l)=(acc*10+(c.toNat-48))*10 ^ l.length+Bs l:=by
   rw[e,lN,Nat.pow_succ,Nat.add_mul,Nat.mul_assoc,Nat.mul_comm 10];omega
  rw[e1] at h⊢
  have i:acc*10+(c.toNat-48)≤(acc*10+(c.toNat-48))*10 ^ l.length:=Nat.le_mul_of_pos_right _ f
  rw[Lib.parseUintM,if_pos d,if_neg (by omega),if_neg (by omega)]
  exact Ub l _ M (fun x g=>a x (by simp[g])) b h
def SC (l:List UInt8):Prop:=l≠[]∧l.length≤4∧∀c∈l,Vi c
theorem ND {l:List UInt8}(h:∀c∈l,Vi c):Bs l<10 ^ l.length:=by
 induction l with
 |nil=>simp[Bs]
 |cons c l a =>
  have b:Bs (c::l)=(c.toNat-48)*10 ^ l.length+Bs l:=by
   have:=La l (c.toNat-48)
   simp only[Bs,List.foldl_cons,nZ,lK] at this⊢
   exact this
  have f:=a (fun x d=>h x (by simp[d]))
  have e:=h c (by simp)
  unfold Vi at e
  have g:(c.toNat-48)*10 ^ l.length≤9*10 ^ l.length:=Nat.mul_le_mul_right _ (by omega)
  rw[b,lN,Nat.pow_succ];omega
theorem J6 {l:List UInt8}(h:SC l):Bs l≤9999:=by
 have a:=ND h.2.2
 have b:10 ^ l.length≤10 ^ 4:=Nat.pow_le_pow_right (by omega) h.2.1
 omega
def Zs (l:List UInt8):Prop:=SC l∨∃d,l=45::d∧SC d
theorem CC {l:List UInt8}(h:Zs l): -9999≤Gb l∧Gb l≤9999:=by
 rcases h with h|⟨d,rfl,h⟩
 ·have:=J6 h
  cases l with
  |nil=>exact absurd rfl h.1
  |cons c r =>
   have a:=h.2.2 c (by simp)
   have b:c≠45:=fun e=>by subst e;unfold Vi at a;simp at a
   simp only[Gb,if_neg b];omega
 ·have:=J6 h
  simp only[Gb,if_pos];omega
theorem SD {l:List UInt8}(h:Zs l):Lib.parseIntB 64 l=.ok (Gb l):=by
 have b:∀d,SC d→Lib.parseUintB 64 d=.ok (Bs d):=fun d a=>by
  have:=J6 a
  unfold Lib.parseUintB
  rw[if_neg a.1,Ub d 0 (2 ^ 64-1) a.2.2 (by decide) (by omega)]
  simp
 rcases h with h|⟨d,rfl,h⟩
 ·have hv:=J6 h
  have g:=b l h
  cases l with
  |nil=>exact absurd rfl h.1
  |cons c r =>
   have f:=h.2.2 c (by simp)
   unfold Vi at f
   have i:c≠45:=fun e=>by subst e;simp at f
   rw[Lib.parseIntB,if_neg (by omega),g]
   simp only[Gb,if_neg i]
   rw[if_neg (by omega),if_neg (by omega),if_neg (by omega)]
 ·have hv:=J6 h
  rw[Lib.parseIntB,if_pos (by simp),b d h]
  have j:(45:UInt8).toNat=45:=rfl
  simp only[Gb,if_pos,j]
  rw[if_neg (by simp),if_neg (by omega)]
def G3 (s:ByteArray)(a b:Nat):List UInt8:=(s.extract a b).data.toList
theorem My (s:ByteArray)(a b:Nat):G3 s a b=(s.data.toList.take b).drop a:=by
 simp[G3,ByteArray.data_extract,Array.toList_extract,List.extract_eq_take_drop,List.drop_take]
theorem Lr (s:ByteArray):s.data.toList.length=s.size:=by rw[Array.length_toList];rfl
theorem SE (s:ByteArray)(i:Nat):s.data.toList[i]?.map (·.toNat)=if i<s.size then some (Pl.bt s i) else none:=by
 by_cases h:i<s.size
 ·rw[if_pos h]
  have a:i<s.data.toList.length:=by rw[Lr];exact h
  rw[kT a]
  simp only[nX,Option.some.injEq,Pl.bt,dif_pos h]
  rfl
 ·rw[if_neg h,mD (by rw[Lr];omega)];rfl
theorem Rn {s:ByteArray}{a b:Nat}(_:b≤s.size):(G3 s a b).length=b-a:=by
 rw[My,List.length_drop,lV]
 have:=Lr s
 omega
theorem KS {s:ByteArray}{a b:Nat}(d:b≤s.size){i:Nat}{c:UInt8}(h:(G3 s a b)[i]? =some c):a+i<b∧c.toNat=Pl.bt s (a+i):=by
 have hi:=(kS.1 h).1
 rw[Rn d] at hi
 refine⟨by omega,?_⟩
 rw[My,List.getElem?_drop,lM,if_pos (by omega)] at h
 have:=SE s (a+i)
 rw[h,if_pos (by omega)] at this
 simpa using this
theorem YX {s:ByteArray}{a b:Nat}(d:b≤s.size){c:UInt8}(h:c∈G3 s a b):∃i,a≤i∧i<b∧c.toNat=Pl.bt s i:=by
 obtain⟨i,hi⟩:=lW h
 obtain⟨e,f⟩:=KS d hi
 exact⟨a+i,by omega,e,f⟩
theorem Mz (s:ByteArray)(lo hi:Nat):∀k a i,a≤i→i<Pl.Dk s lo hi k a→lo≤Pl.bt s i∧Pl.bt s i≤hi
 |0,a,i,c,b=>by simp[Pl.Dk] at b;omega
 |k+1,a,i,c,b=>by
  by_cases h:lo≤Pl.bt s a∧Pl.bt s a≤hi
  ·rw[Pl.K9 h] at b
   by_cases e:i=a
   ·subst e;exact h
   ·exact Mz s lo hi k (a+1) i (by omega) b
  ·rw[Pl.Ha h] at b;omega
theorem J7 (s:ByteArray)(lo hi:Nat):∀k a,Pl.Dk s lo hi k a≤a+k
 |0,a=>by simp[Pl.Dk]
 |k+1,a=>by
  unfold Pl.Dk;split
  ·have:=J7 s lo hi k (a+1);omega
  ·omega
theorem Pe {s:ByteArray}{k lo hi a a':Nat}(f:0<lo)(g:a≤s.size)(h:Pl.Ua s k lo hi a=(true,a')):a<a'∧a'≤s.size∧a'≤a+k∧∀c∈G3 s a a',lo≤c.toNat∧c.toNat≤hi:=by
 unfold Pl.Ua at h
 injection h with b d
 have j:a<Pl.Dk s lo hi k a:=by simpa using b
 subst d;have e:=Pl.Tg (s:=s) (lo:=lo) (hi:=hi) f k a g
 refine⟨j,e,J7 s lo hi k a,fun c l=>?_⟩
 obtain⟨i,b,d,m⟩:=YX e l
 rw[m];exact Mz s lo hi k a i b d
end Go.Proofs.YtdinjjmcmfjbfaaGreatDoor
