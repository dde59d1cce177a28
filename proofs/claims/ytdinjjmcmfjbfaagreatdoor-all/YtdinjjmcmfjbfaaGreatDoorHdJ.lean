import Derived.Test.YtdinjjmcmfjbfaaGreatDoorRc2J
namespace Go.Proofs.YtdinjjmcmfjbfaaGreatDoor.Pl
def Nt (s:ByteArray)(d:Nat)(q:Nat→Nat×Nat)(a:Nat):Nat×Nat :=
 xW (xX (B3 s (xV (bt s a))) a) fun b=>if xV (bt s a)=1 then (0,b) else xW (U9 s d 0 b) fun c=>xW (q c) (Se s q (yC (xV (bt s a))))
theorem Wv {s:ByteArray}{d e a:Nat}(h:e≠0):U9 s d e a=(e,a):=by unfold U9;rw[if_neg (fun x=>h x.1),B7 h]
theorem GS {s:ByteArray}{a:Nat}(h:bt s a=40):U9 s 6 0 a=(3,a):=by unfold U9;rw[if_pos ⟨rfl,h,rfl⟩]
theorem Xu {s:ByteArray}{d a:Nat}(h:bt s a≠40):U9 s d 0 a=(2,a):=by unfold U9;rw[if_neg (fun x=>h x.2.1),Bf,Fz (M3 h)]
theorem mM {s:ByteArray}{d a:Nat}(h:bt s a=40)(b:d≠6):U9 s d 0 a=(0,a+1):=by unfold U9;rw[if_neg (fun x=>b x.2.2),Bf,Gk (Jb h)]
theorem Ww {s:ByteArray}{e a c a':Nat}(h:U9 s 6 e a=(c,a')):c≠0:=by
 intro f;subst f;by_cases b:e=0
 ·subst b;by_cases d:bt s a=40
  ·rw[GS d] at h;injection h with h;omega
  rw[Xu d] at h;injection h with h;omega
 rw[Wv b] at h;injection h with h;exact b h
theorem mN {s:ByteArray}{d e a a':Nat}(h:U9 s d e a=(0,a')):e=0∧xU s a'=xU s a:=by
 by_cases b:e=0
 ·subst b;refine⟨rfl,?_⟩;unfold U9 at h;split at h
  ·injection h with h;omega
  rw[Bf] at h;by_cases c:bt s a=40
  ·rw[Gk (Jb c)] at h;injection h with _ h;subst h;simp[xU,c]
  rw[Fz (M3 c)] at h;injection h with h;omega
 rw[Wv b] at h;injection h with h;exact absurd h b
theorem Ty {s:ByteArray}{p:Nat→Bool×Nat}(hp:yD s p){e a a':Nat}(h:xW (e,a) (xX p)=(0,a')):e=0∧xU s a'=xU s a:=by
 by_cases b:e=0
 ·subst b;refine⟨rfl,?_⟩;rw[Bf] at h;have c:(p a).1=true:=lS (by rw[h])
  have d:(p a).2=a':=by have:(xX p a).2=a':=by rw[h]
                        exact this
  rw[←d];exact hp.noJ a c
 rw[B7 b] at h;injection h with h;exact absurd h b
theorem ZY (s:ByteArray):∀a,xU s a≤a
 |0=>tY _
 |a+1=>by have:=ZY s a;unfold xU;split <;> omega
theorem UK (s:ByteArray)(q:Nat→Nat×Nat):Nt s 6 q=xY s 0:=by
 funext a;unfold Nt;rw[xY];congr 1;funext b;by_cases c:xV (bt s a)=1
 ·rw[if_pos c,if_pos c]
 rw[if_neg c,if_neg c];by_cases d:bt s b=40
 ·rw[if_pos d,GS d,B7 (by omega)]
 rw[if_neg d,Xu d,B7 (by omega)]
theorem Jf (s:ByteArray)(d f:Nat)(g:d≠6):Nt s d (xY s f)=xY s (f+1):=by
 funext a;unfold Nt;rw[xY];congr 1;funext b;by_cases c:xV (bt s a)=1
 ·rw[if_pos c,if_pos c]
 rw[if_neg c,if_neg c];by_cases e:bt s b=40
 ·rw[if_pos e,mM e g,Bf]
 rw[if_neg e,Xu e,B7 (by omega)]
theorem ZZ {s:ByteArray}{d a e1 a1 e2 a2 e3 a3 e4 a4:Nat}{q:Nat→Nat×Nat}(h:xV (bt s a)≠1)(hi:yC (xV (bt s a))=1)(i:xX (B3 s (xV (bt s a))) a=(e1,a1))(f:U9 s d e1 a1=(e2,a2))(b:xW (e2,a2) q=(e3,a3))(c:xW (e3,a3) (xX (tk s 41))=(e4,a4)) :
 Nt s d q a=(e4,a4):=by
 unfold Nt;rw[i];by_cases e:e1=0
 ·subst e;rw[Bf,if_neg h,f];by_cases g:e2=0
  ·subst g;rw[Bf] at b⊢;rw[b,←c];congr 1;funext x;unfold Se;rw[hi,if_neg (by omega)]
  rw[B7 g] at b⊢;injection b with x y;subst x y;rw[B7 g] at c;exact c
 rw[Wv e] at f;injection f with x y;subst x y;rw[B7 e] at b⊢;injection b with x y;subst x y;rw[B7 e] at c;exact c
theorem aA {s:ByteArray}{d a e1 a1 e2 a2 e3 a3 e4 a4 e5 a5 j k:Nat}{q:Nat→Nat×Nat}(t:xV (bt s a)≠1)(hi:yC (xV (bt s a))=2)(u:xX (B3 s (xV (bt s a))) a=(e1,a1))(l:U9 s d e1 a1=(e2,a2))(c:xW (e2,a2) q=(e3,a3))
 (h:xW (e3,a3) (xX (tk s 44))=(e4,a4)) (f:xW (e4,a4) q=(e5,a5)) (g:xW (e5,a5) (xX (tk s 41))=(j,k)) :
 Nt s d q a=(j,k):=by
 have m:∀{e b:Nat},e≠0→(e,b)=(e3,a3)→(e,b)=(j,k):=by intro e b n v;injection v with x y;subst x y;rw[B7 n] at h;injection h with x y;subst x y;rw[B7 n] at f;injection f with x y;subst x y;rw[B7 n] at g;exact g
 unfold Nt;rw[u];by_cases i:e1=0
 ·subst i;rw[Bf,if_neg t,l];by_cases o:e2=0
  ·subst o;rw[Bf] at c⊢;rw[c];by_cases p:e3=0
   ·subst p;rw[Bf] at h⊢;unfold Se;rw[hi,if_pos rfl,h];by_cases r:e4=0
    ·subst r;rw[Bf] at f⊢;rw[f];exact g
    rw[B7 r] at f⊢;injection f with x y;subst x y;rw[B7 r] at g;exact g
   rw[B7 p];exact m p rfl
  rw[B7 o] at c⊢;exact m o c
 rw[Wv i] at l;injection l with x y;subst x y;rw[B7 i] at c⊢;exact m i c
theorem RH {s:ByteArray}{c a:Nat}{g:Nat→Bool×Nat}(h:bt s a=c):xX (B6 (tk s c) g) a=xX g (a+1):=by unfold xX;rw[Eu (Jb h)]
theorem GT {x:Nat×Nat}{f g:Nat→Nat×Nat}(h:f x.2=g x.2):xW x f=xW x g:=by unfold xW;rw[h]
theorem RI (s:ByteArray):RB s=B6 (tk s 91) (B6 (Tm (tk s 115) (Jt s) (tk s 110)) (tk s 93)):=by
 funext a;unfold RB;cases h:tk s 91 a with
 |mk o b =>
  cases o
  ·rw[Fo h,Fo h]
  rw[Eu h,Eu h];cases d:tk s 115 b with
  |mk e c =>
   cases e
   ·rw[Ev d];unfold B6;rw[Ev d]
   rw[Hp d];unfold B6;rw[Hp d]
theorem MW {s:ByteArray}{c a:Nat}{g:Nat→Bool×Nat}(h:bt s a=c):xW (0,a) (xX (R9 (tk s c) g))=(0,a+1):=by rw[Bf,Gk (Ho (Jb h))]
theorem RJ {s:ByteArray}{c e a:Nat}{g:Nat→Bool×Nat}(h:¬(e=0∧bt s a=c)):xW (e,a) (xX (R9 (tk s c) g))=xW (e,a) (xX g):=by
 by_cases b:e=0
 ·subst b;apply GT;show xX _ a=xX _ a;unfold xX;rw[F8 (M3 (fun x=>h ⟨rfl,x⟩))]
 rw[B7 b,B7 b]
theorem MX {s:ByteArray}{c a:Nat}{g k:Nat→Bool×Nat}(h:bt s a=c):xW (0,a) (xX (Tm (tk s c) g k))=xW (0,a+1) (xX g):=by rw[Bf,Bf];unfold xX;rw[Hp (Jb h)]
theorem RK {s:ByteArray}{c e a:Nat}{g k:Nat→Bool×Nat}(h:¬(e=0∧bt s a=c)):xW (e,a) (xX (Tm (tk s c) g k))=xW (e,a) (xX k):=by
 by_cases b:e=0
 ·subst b;apply GT;show xX _ a=xX _ a;unfold xX;rw[Ev (M3 (fun x=>h ⟨rfl,x⟩))]
 rw[B7 b,B7 b]
theorem Xv (s:ByteArray):J6 s=R9 (tk s 60) (R9 (tk s 61) (tk s 33)):=by
 funext a;unfold J6;by_cases b:bt s a=60
 ·rw[if_pos (.inl b),Ho (Jb b)]
 rw[F8 (M3 b)];by_cases c:bt s a=61
 ·rw[if_pos (.inr (.inl c)),Ho (Jb c)]
 rw[F8 (M3 c)];by_cases d:bt s a=33
 ·rw[if_pos (.inr (.inr d)),Jb d]
 rw[if_neg (by omega),M3 d]
theorem iF {s:ByteArray}{a:Nat}(h:xV (bt s a)=0∨xV (bt s a)=1)(d:Nat)(q:Nat→Nat×Nat):Nt s d q a=xX (Bj s) a:=by
 unfold Nt;rcases h with h|h
 ·rw[h];have b:¬(97≤bt s a∧bt s a≤122):=by intro e;unfold xV at h;repeat' split at h <;> try omega
  have e1:B3 s 0 a=(false,a):=rfl;rw[Fz e1,B7 (by omega),Fz (show Bj s a=(false,a) from Qj b)]
 rw[h];have e1:B3 s 1=Bj s:=by funext x;rfl
 rw[e1];unfold xW;split
 ·rename_i c;show (0,(xX (Bj s) a).2)=_;exact Prod.ext c.symm rfl
 rfl
end Go.Proofs.YtdinjjmcmfjbfaaGreatDoor.Pl
namespace Go.Proofs.YtdinjjmcmfjbfaaGreatDoor.Mo
def nn (l:Bag):Prop:=∀r,0≤cnt l r
theorem Va {l:Bag}(h:nn l){e:Row×Int}(a:e∈Ad l):1≤e.2:=by
 have b:=(Ap l).Df a;have c:=(Ap l).nz a;have d:=h e.1;rw[Aq] at b;omega
theorem Iu {l:Bag}(h:∀e∈l,0≤e.2){g k:Row→Int}(hg:∀e∈l,g e.1≤k e.1):Ci l g≤Ci l k:=by
 induction l with
 |nil=>exact vU _
 |cons e l b =>have c:=vA (hg e (by simp)) (h e (by simp));have d:=b (fun x a=>h x (by simp[a])) (fun x a=>hg x (by simp[a]));simp only[Ci];omega
theorem Cv {l:Bag}(h:nn l){g k:Row→Int}(hg:∀r,g r≤k r):Ci l g≤Ci l k:=by
 rw[←F9 l g,←F9 l k];exact Iu (fun e a=>by have:=Va h a;omega) (fun e _=>hg e.1)
theorem Qn {l:Bag}(h:nn l){g:Row→Int}(hg:∀r,0≤g r):0≤Ci l g:=by
 have:=Cv h hg;rw[Nq] at this;exact this
theorem Nu {l:Bag}(h:∀g:Row→Int,(∀r,0≤g r)→0≤Ci l g):nn l:=fun r=>by
 rw[B1];exact h _ (fun x=>by split <;> omega)
theorem Ib {l m:Bag}(h:∀g:Row→Int,Ci l g=Ci m g):A9 l m:=fun r=>by rw[B1,B1];exact h _
theorem GU {l:Bag}(h:nn l){g:Row→Int}(hg:∀r,0≤g r){e:Row×Int}(c:e∈Ad l):g e.1≤Ci l g:=by
 rw[←F9 l g];have key:∀{m:Bag},(∀x∈m,1≤x.2)→e∈m→g e.1≤Ci m g:=by
  intro m b a;induction m with
  |nil=>cases a
  |cons y m d =>
   have hr:0≤Ci m g:=(by have:=Iu (l:=m) (fun x a=>by have:=b x (by simp[a]);omega) (g:=fun _=>0) (k:=g) (fun x _=>hg x.1);rw[Nq] at this;exact this);have f:g y.1≤y.2*g y.1:=(by have:=vQ (b y (by simp)) (hg y.1);omega);have i:=hg y.1;simp only[Ci];rcases uP.1 a with rfl|a
   ·omega
   have:=d (fun x a=>b x (by simp[a])) a;omega
 exact key (fun x a=>Va h a) c
inductive Qb where
 |lt
 |eq
 |ne
 deriving DecidableEq
inductive Dk where
 |col (c:Nat)
 |val (v:V)
 deriving DecidableEq
def Aj (r:Row)(c:Nat):V:=r.getD c (.num 0)
def Nv:Qb→V→V→Bool
 | .lt,a,b=>vlt a b
 | .eq,a,b=>decide (a=b)
 | .ne,a,b=> !decide (a=b)
def Iv (x:Dk)(r:Row):V:=match x with
 | .col c=>Aj r c
 | .val v=>v
def Ao (cs:List Nat)(r:Row):Row:=cs.map (Aj r)
def aB:V→Int
 | .num n=>n
 | .txt _=>0
def sv (s:Option Nat)(r:Row):Int:=match s with
 |none=>1
 |some m=>aB (Aj r m)
def Cw (p:Row→Bool)(l:Bag):Bag:=l.filter fun e=>p e.1
def Az (cs:List Nat)(l:Bag):Bag:=l.map fun e=>(Ao cs e.1,e.2)
def Bw (n m:Nat)(a b:Bag):Bag:=a.flatMap fun x=>(Cw (fun y=>decide (Aj x.1 n=Aj y m)) b).map fun y=>(x.1++y.1,x.2*y.2)
def En (l:Bag):Bag:=(Ad l).map fun e=>(e.1,1)
def Hr (cs:List Nat)(l:Bag):Bag:=Ad ((Ad l).map fun e=>(Ao cs e.1,1))
def M5 (cs:List Nat)(s:Option Nat)(l:Bag)(k:Row):Int:=Ci l (fun r=>if Ao cs r=k then sv s r else 0)
def yE (cs:List Nat)(s:Option Nat)(l:Bag):Bag:=(Hr cs l).map fun k=>(k.1++[.num (M5 cs s l k.1)],1)
theorem J7 (p:Row→Bool)(l:Bag)(g:Row→Int):Ci (Cw p l) g=Ci l (fun r=>if p r then g r else 0):=by
 induction l with
 |nil=>rfl
 |cons e l b =>
  have a:Ci (List.filter (fun e=>p e.1) l) g=_:=b;simp only[Cw,List.filter_cons];by_cases h:p e.1=true
  ·rw[if_pos h];simp only[Ci,a,h,if_true]
  rw[if_neg h];simp only[Ci,a];rw[if_neg h];omega
theorem iG (f:Row→Row)(l:Bag)(g:Row→Int):Ci (l.map fun e=>(f e.1,e.2)) g=Ci l (fun r=>g (f r)):=by
 induction l with
 |nil=>rfl
 |cons e l a=>simp only[uT,Ci,a]
theorem Ld (cs:List Nat)(l:Bag)(g:Row→Int):Ci (Az cs l) g=Ci l (fun r=>g (Ao cs r)):=iG _ l g
theorem Rs (t:Int)(f:Row→Row)(l:Bag)(g:Row→Int):Ci (l.map fun e=>(f e.1,t*e.2)) g=t*Ci l (fun r=>g (f r)):=by
 induction l with
 |nil=>simp[Ci]
 |cons e l a=>simp only[uT,Ci,a,wX,xO]
theorem Fc (n m:Nat)(a b:Bag)(g:Row→Int):Ci (Bw n m a b) g=Ci a (fun x=>Ci b (fun y=>if decide (Aj x n=Aj y m) then g (x++y) else 0)):=by
 induction a with
 |nil=>rfl
 |cons e a c =>have d:Ci (List.flatMap (fun x=>(Cw (fun y=>decide (Aj x.1 n=Aj y m)) b).map fun y=>(x.1++y.1,x.2*y.2)) a) g=_:=c;simp only[Bw,uX,D3,d,Ci];rw[Rs e.2 (fun y=>e.1++y),J7]
theorem Iw {p:Row→Bool}{l m:Bag}(h:A9 l m):A9 (Cw p l) (Cw p m):=Ib fun g=>by rw[J7,J7,h.lin]
theorem Ej {cs:List Nat}{l m:Bag}(h:A9 l m):A9 (Az cs l) (Az cs m):=Ib fun g=>by rw[Ld,Ld,h.lin]
theorem G6 {n m:Nat}{a a' b b':Bag}(h:A9 a a')(k:A9 b b'):A9 (Bw n m a b) (Bw n m a' b'):=Ib fun g=>by
 rw[Fc,Fc,h.lin];exact Eg _ fun e _=>k.lin _
theorem Nw {l m:Bag}(h:A9 l m):En l=En m:=by unfold En;rw[h.canon]
theorem Nx {cs:List Nat}{s:Option Nat}{l m:Bag}(h:A9 l m):yE cs s l=yE cs s m:=by
 unfold yE Hr M5;rw[h.canon];congr 1;funext k;rw[h.lin]
theorem Mq (p:Row→Bool)(l m:Bag):Cw p (l++m)=Cw p l++Cw p m:=List.filter_append _ _
theorem G7 (cs:List Nat)(l m:Bag):Az cs (l++m)=Az cs l++Az cs m:=uF
theorem MY (n m:Nat)(a b c:Bag):Bw n m (a++b) c=Bw n m a c++Bw n m b c:=vR
theorem GV (n m:Nat)(a b c:Bag):A9 (Bw n m a (b++c)) (Bw n m a b++Bw n m a c):=Ib fun g=>by
 rw[D3,Fc,Fc,Fc,←Tq];exact Eg _ fun e _=>D3 _ _ _
theorem iH {p:Row→Bool}{l:Bag}(h:nn l):nn (Cw p l):=Nu fun g hg=>by
 rw[J7];exact Qn h fun r=>by split;exact hg r;exact vU _
theorem GW {cs:List Nat}{l:Bag}(h:nn l):nn (Az cs l):=Nu fun g hg=>by rw[Ld];exact Qn h fun r=>hg _
theorem aD {n m:Nat}{a b:Bag}(h:nn a)(k:nn b):nn (Bw n m a b):=Nu fun g hg=>by
 rw[Fc];exact Qn h fun x=>Qn k fun y=>by split;exact hg _;exact vU _
theorem UL {a b:Bag}(h:nn a)(k:nn b):nn (a++b):=fun r=>by rw[Ah];have:=h r;have:=k r;omega
theorem DW {l:Bag}(f:Row×Int→Row):nn (l.map fun e=>(f e,1)):=Nu fun g hg=>by
 induction l with
 |nil=>exact vU _
 |cons e l a=>simp only[uT,Ci];have:=hg (f e);omega
theorem aE (l:Bag):nn (En l):=DW _
theorem iI (cs:List Nat)(s:Option Nat)(l:Bag):nn (yE cs s l):=DW _
def wv:V→Int
 | .num n=>n.natAbs
 | .txt _=>0
def xZ:Row→Int
 | []=>1
 |v::r=>max (wv v) (xZ r)
theorem Ou (r:Row):1≤xZ r:=by
 induction r with
 |nil=>exact vU _
 |cons v r a=>simp only[xZ];omega
theorem Ny (r:Row):0≤xZ r:=by have:=Ou r;omega
theorem GX {v:V}{r:Row}(h:v∈r):wv v≤xZ r:=by
 induction r with
 |nil=>cases h
 |cons x r a =>
  simp only[xZ];rcases uP.1 h with rfl|h
  ·omega
  have:=a h;omega
theorem RL {r:Row}{b:Int}(a:1≤b)(h:∀v∈r,wv v≤b):xZ r≤b:=by
 induction r with
 |nil=>exact a
 |cons x r c=>simp only[xZ];have:=h x (by simp);have:=c (fun v hv=>h v (by simp[hv]));omega
theorem UM (r s:Row):xZ (r++s)≤xZ r+xZ s:=by
 refine RL (by have:=Ou r;have:=Ou s;omega) fun v hv=>?_;have:=Ou r;have:=Ou s;rcases tW.1 hv with h|h
 ·have:=GX h;omega
 have:=GX h;omega
theorem RM (r:Row)(c:Nat):wv (Aj r c)≤xZ r:=by
 unfold Aj;rw[uH];cases h:r[c]? with
 |none=>have:=Ou r;simp[wv];omega
 |some v=>simp;exact GX (tV h)
theorem GY (cs:List Nat)(r:Row):xZ (Ao cs r)≤xZ r:=by
 refine RL (Ou r) fun v hv=>?_;obtain⟨c,_,rfl⟩:=uA.1 hv;exact RM r c
theorem BB (s:Option Nat)(r:Row): -xZ r≤sv s r∧sv s r≤xZ r:=by
 have b:=Ou r;cases s with
 |none=>simp only[sv];omega
 |some m =>
  have h:=RM r m;simp only[sv];cases a:Aj r m with
  |num n=>rw[a] at h;simp only[wv,aB] at *;omega
  |txt t=>simp only[aB];omega
def Nr (l:Bag):Int:=Ci l (fun _=>1)
def Wt (l:Bag):Int:=Ci l xZ
theorem GZ {l:Bag}(h:nn l):0≤Nr l:=Qn h fun _=>by omega
theorem RN {l:Bag}(h:nn l):0≤Wt l:=Qn h Ny
theorem Le {l:Bag}(h:nn l)(r:Row):cnt l r≤Nr l:=by rw[B1];exact Cv h fun x=>by split <;> omega
theorem UN {l:Bag}(h:nn l){e:Row×Int}(a:e∈Ad l){v:V}(hv:v∈e.1):wv v≤Wt l :=
 vG (GX hv) (GU h Ny a)
theorem Jg {l:Bag}(h:nn l):((Ad l).length:Int)≤Nr l:=by
 unfold Nr;rw[←F9];have key:∀{m:Bag},(∀x∈m,1≤x.2)→(m.length:Int)≤Ci m (fun _=>1):=by
  intro m b;induction m with
  |nil=>exact vU _
  |cons y m c =>have:=b y (by simp);have:=c (fun x a=>b x (by simp[a]));simp only[Ci,uO];omega
 exact key fun x a=>Va h a
theorem Xw {l m:Bag}(h:A9 l m):Nr l=Nr m:=h.lin _
theorem aF {l m:Bag}(h:A9 l m):Wt l=Wt m:=h.lin _
theorem RO {p:Row→Bool}{l:Bag}(h:nn l):Nr (Cw p l)≤Nr l:=by unfold Nr;rw[J7];exact Cv h fun r=>by split <;> omega
theorem iJ {p:Row→Bool}{l:Bag}(h:nn l):Wt (Cw p l)≤Wt l:=by
 unfold Wt;rw[J7];exact Cv h fun r=>by have:=Ny r;split <;> omega
theorem Xx (cs:List Nat)(l:Bag):Nr (Az cs l)=Nr l:=Ld _ _ _
theorem aG {cs:List Nat}{l:Bag}(h:nn l):Wt (Az cs l)≤Wt l:=by unfold Wt;rw[Ld];exact Cv h fun r=>GY cs r
theorem BC (a b:Bag):Nr (a++b)=Nr a+Nr b:=D3 _ _ _
theorem UO (a b:Bag):Wt (a++b)=Wt a+Wt b:=D3 _ _ _
theorem Vb (l:Bag)(c:Int):Ci l (fun _=>c)=c*Nr l:=by
 have:=Ks l c (fun _=>1);simp only[Int.mul_one] at this;exact this
theorem Xy {n m:Nat}{a b:Bag}(h:nn a)(k:nn b):Nr (Bw n m a b)≤Nr a*Nr b:=by
 unfold Nr;rw[Fc];have c:Ci a (fun x=>Ci b (fun y=>if decide (Aj x n=Aj y m)=true then 1 else 0))≤Ci a (fun _=>Nr b):=Cv h fun x=>Cv k fun y=>by split <;> omega
 rw[Vb,vW] at c;exact c
theorem aH {n m:Nat}{a b:Bag}(h:nn a)(k:nn b):Wt (Bw n m a b)≤Nr b*Wt a+Nr a*Wt b:=by
 unfold Wt;rw[Fc];have c:Ci a (fun x=>Ci b (fun y=>if decide (Aj x n=Aj y m)=true then xZ (x++y) else 0))≤Ci a (fun x=>Nr b*xZ x+Wt b):=by
  refine Cv h fun x=>?_;have d:Ci b (fun y=>if decide (Aj x n=Aj y m)=true then xZ (x++y) else 0)≤Ci b (fun y=>xZ x+xZ y):=Cv k fun y=>by have:=UM x y;have:=Ny x;have:=Ny y;split <;> omega
  rw[Tq,Vb,vW] at d;exact d
 rw[Tq,Ks,Vb,vW (Wt b)] at c;exact c
theorem RS {l:Bag}(h:nn l){g:Row→Int}(hg:∀r,0≤g r):Ci ((Ad l).map fun e=>(e.1,1)) g≤Ci l g:=by
 rw[←F9 l g];have key:∀{m:Bag},(∀x∈m,1≤x.2)→Ci (m.map fun e=>(e.1,1)) g≤Ci m g:=by
  intro m b;induction m with
  |nil=>exact vU _
  |cons y m c =>have d:=vQ (b y (by simp)) (hg y.1);have f:=c (fun x a=>b x (by simp[a]));simp only[uT,Ci];omega
 exact key fun x a=>Va h a
theorem IA {l:Bag}(h:nn l):Nr (En l)≤Nr l:=RS h fun _=>by omega
theorem aI {l:Bag}(h:nn l):Wt (En l)≤Wt l:=RS h Ny
theorem Ck.nodup {l:Bag}(h:Ck l):(l.map (·.1)).Nodup:=by
 induction l with
 |nil=>simp
 |cons e l a =>rw[uT,vE];refine⟨fun b=>?_,a h.2.2⟩;obtain⟨x,c,d⟩:=uA.1 b;have:=h.1 x c;rw[d,Do.irrefl] at this;cases this
theorem Gw {l:Bag}{r:Row}(h:cnt l r≠0):∃x∈Ad l,x.1=r:=by rw[←Aq] at h;exact Ck.Cq h
theorem DX {l:Bag}(f:Row×Int→Row){r:Row}(h:∃e∈l,f e=r):1≤cnt (l.map fun e=>(f e,(1:Int))) r:=by
 induction l with
 |nil=>obtain⟨_,h,_⟩:=h;cases h
 |cons y l b =>
  have c:=DW (l:=l) f r;simp only[uT,cnt];obtain⟨e,a,hr⟩:=h;rcases uP.1 a with rfl|a
  ·rw[if_pos hr];omega
  have:=b ⟨e,a,hr⟩;split <;> omega
theorem Xz {cs:List Nat}{l:Bag}{k:Row×Int}(a:k∈Hr cs l):∃e∈Ad l,Ao cs e.1=k.1:=by
 have b:=(Ap _).Df a;have c:=(Ap _).nz a;rw[Aq] at b;obtain⟨x,d,f⟩:=Ck.Cq (l:=(Ad l).map fun e=>(Ao cs e.1,(1:Int))) (r:=k.1) (by rw[b];exact c);obtain⟨e,g,rfl⟩:=uA.1 d;exact⟨e,g,f⟩
theorem aJ {cs:List Nat}{l:Bag}{e:Row×Int}(a:e∈Ad l):∃k∈Hr cs l,k.1=Ao cs e.1:=by
 refine Gw ?_;have:=DX (l:=Ad l) (fun e=>Ao cs e.1) ⟨e,a,rfl⟩;omega
theorem IB {α:Type}:∀{ks:List α} {f:α→Int},(∀k∈ks,f k=0)→(ks.map f).sum=0
 | [],_,_=>rfl
 |k::ks,f,h=>by have b:=h k (by simp);have c:=IB (ks:=ks) (f:=f) (fun x a=>h x (by simp[a]));simp only[uT,xJ];omega
theorem iK {cs:List Nat}{l:Bag}(h:nn l){g:Row→Int}(hg:∀r,0≤g r):∀{ks:List Row},ks.Nodup→(ks.map fun k=>Ci l (fun r=>if Ao cs r=k then g r else 0)).sum≤Ci l g:=by
 intro ks a;have c:(ks.map fun k=>Ci l (fun r=>if Ao cs r=k then g r else 0)).sum=Ci l (fun r=>(ks.map fun k=>if Ao cs r=k then g r else 0).sum):=by
  clear a;induction ks with
  |nil=>simp[Nq]
  |cons k ks b=>simp only[uT,xJ];rw[Tq,b]
 rw[c];refine Cv h fun r=>?_;clear c;induction ks with
 |nil=>simpa using hg r
 |cons k ks b =>
  rw[vE] at a;simp only[uT,xJ];by_cases hr:Ao cs r=k
  ·have d:(ks.map fun k=>if Ao cs r=k then g r else 0).sum=0:=(by have:∀x∈ks,(if Ao cs r=x then g r else 0)=0:=fun x f=>(by rw[if_neg];intro e;rw[hr] at e;subst e;exact a.1 f);exact IB this);rw[if_pos hr,d];omega
  rw[if_neg hr];have:=b a.2;omega
theorem DY (ks:Bag)(f:Row×Int→Row)(g:Row→Int):Ci (ks.map fun k=>(f k,1)) g=(ks.map fun k=>g (f k)).sum:=by
 induction ks with
 |nil=>rfl
 |cons k ks a=>simp only[uT,Ci,xJ,a];omega
theorem aK {α:Type}:∀{ks:List α} {f g:α→Int},(∀k∈ks,f k≤g k)→(ks.map f).sum≤(ks.map g).sum
 | [],_,_,_=>vU _
 |k::ks,f,g,h=>by have b:=h k (by simp);have c:=aK (ks:=ks) (f:=f) (g:=g) (fun x a=>h x (by simp[a]));simp only[uT,xJ];omega
theorem BD {cs:List Nat}{s:Option Nat}{l:Bag}(h:nn l){G g:Row→Int}(hg:∀r,0≤g r)(a:∀k∈Hr cs l,G (k.1++[.num (M5 cs s l k.1)])≤Ci l (fun r=>if Ao cs r=k.1 then g r else 0)):Ci (yE cs s l) G≤Ci l g:=by
 unfold yE;rw[DY];refine vG (aK a) ?_;have:=iK (cs:=cs) h hg (Ap ((Ad l).map fun e=>(Ao cs e.1,(1:Int)))).nodup;rw[vS] at this;exact this
theorem RU {cs:List Nat}{l:Bag}(h:nn l){g:Row→Int}(hg:∀r,0≤g r){k:Row×Int}(a:k∈Hr cs l):∃r,Ao cs r=k.1∧g r≤Ci l (fun r=>if Ao cs r=k.1 then g r else 0):=by
 obtain⟨e,b,hp⟩:=Xz a;refine⟨e.1,hp,?_⟩;have:=GU h (g:=fun r=>if Ao cs r=k.1 then g r else 0) (fun r=>by split;exact hg r;exact vU _) b;simp only[if_pos hp] at this;exact this
theorem iL {cs:List Nat}{s:Option Nat}{l:Bag}(h:nn l):Nr (yE cs s l)≤Nr l :=
 BD h (fun _=>by omega) fun k a=>by obtain⟨r,_,b⟩:=RU (g:=fun _=>1) h (fun _=>by omega) a;exact b
theorem RV {cs:List Nat}{s:Option Nat}{l:Bag}(h:nn l)(k:Row): -Ci l (fun r=>if Ao cs r=k then xZ r else 0)≤M5 cs s l k∧M5 cs s l k≤Ci l (fun r=>if Ao cs r=k then xZ r else 0):=by
 constructor
 ·have a:=Cv h (g:=fun r=>(-1)*(if Ao cs r=k then xZ r else 0)) (k:=fun r=>if Ao cs r=k then sv s r else 0) fun r=>by have:=BB s r;split <;> omega
  rw[Ks] at a;unfold M5;omega
 exact Cv h fun r=>by have:=BB s r;split <;> omega
theorem iM {cs:List Nat}{s:Option Nat}{l:Bag}(h:nn l):Wt (yE cs s l)≤Wt l :=
 BD h Ny fun k a=>by
  obtain⟨r,hr,b⟩:=RU (g:=xZ) h Ny a;have c:=RV (cs:=cs) (s:=s) h k.1;have d:=Ou r;refine RL (by omega) fun v hv=>?_;rcases tW.1 hv with hv|hv
  ·rw[←hr] at hv;exact vG (vG (GX hv) (GY cs r)) (hr ▸ b)
  simp at hv;subst hv;simp only[wv];omega
inductive Q where
 |tab (nm:List UInt8)
 |sel (c:Nat) (k:Qb) (x:Dk) (q:Q)
 |pick (cs:List Nat) (q:Q)
 |join (n m:Nat) (q r:Q)
 |uni (q r:Q)
 |dist (q:Q)
 |grp (cs:List Nat) (s:Option Nat) (q:Q)
 deriving DecidableEq
def Ac:Q→List (List UInt8)
 | .tab nm=>[nm]
 | .sel _ _ _ q=>Ac q
 | .pick _ q=>Ac q
 | .join _ _ q r=>Ac q++Ac r
 | .uni q r=>Ac q++Ac r
 | .dist q=>Ac q
 | .grp _ _ q=>Ac q
def Al:Q→Nat
 | .tab _=>0
 | .sel _ _ _ q=>Al q
 | .pick _ q=>Al q
 | .join _ _ q r=>Al q+Al r+1
 | .uni q r=>Al q+Al r
 | .dist q=>Al q
 | .grp _ _ q=>Al q
def M6 (c:Nat)(k:Qb)(x:Dk)(r:Row):Bool:=Nv k (Aj r c) (Iv x r)
def A1 (f:Nat→Bag):Nat→Q→Bag
 |i,.tab _=>f i
 |i,.sel c k x q=>Cw (M6 c k x) (A1 f i q)
 |i,.pick cs q=>Az cs (A1 f i q)
 |i,.join n m q r=>Bw n m (A1 f i q) (A1 f (i+(Ac q).length) r)
 |i,.uni q r=>A1 f i q++A1 f (i+(Ac q).length) r
 |i,.dist q=>En (A1 f i q)
 |i,.grp cs s q=>yE cs s (A1 f i q)
theorem Ov (q:Q):1≤(Ac q).length:=by
 induction q <;> simp only[Ac,tS,vD] <;> omega
def Bg (f:List UInt8→Bag):Q→Bag
 | .tab nm=>f nm
 | .sel c k x q=>Cw (M6 c k x) (Bg f q)
 | .pick cs q=>Az cs (Bg f q)
 | .join n m q r=>Bw n m (Bg f q) (Bg f r)
 | .uni q r=>Bg f q++Bg f r
 | .dist q=>En (Bg f q)
 | .grp cs s q=>yE cs s (Bg f q)
theorem A8 {f g:Nat→Bag}:∀(q:Q) (i:Nat),(∀j,i≤j→j<i+(Ac q).length→A9 (f j) (g j))→A9 (A1 f i q) (A1 g i q)
 | .tab _,i,h=>h i (tY _) (by simp[Ac])
 | .sel _ _ _ q,i,h=>Iw (A8 q i h)
 | .pick _ q,i,h=>Ej (A8 q i h)
 | .join _ _ q r,i,h=>G6 (A8 q i fun j a b=>h j a (by simp only[Ac,tS];omega)) (A8 r _ fun j a b=>h j (by omega) (by simp only[Ac,tS];omega))
 | .uni q r,i,h=>A9.append (A8 q i fun j a b=>h j a (by simp only[Ac,tS];omega)) (A8 r _ fun j a b=>h j (by omega) (by simp only[Ac,tS];omega))
 | .dist q,i,h=>by simp only[A1];rw[Nw (A8 q i h)];exact A9.refl _
 | .grp _ _ q,i,h=>by simp only[A1];rw[Nx (A8 q i h)];exact A9.refl _
theorem Fp {f g:List UInt8→Bag}:∀(q:Q),(∀nm∈Ac q,A9 (f nm) (g nm))→A9 (Bg f q) (Bg g q)
 | .tab nm,h=>h nm (by simp[Ac])
 | .sel _ _ _ q,h=>Iw (Fp q h)
 | .pick _ q,h=>Ej (Fp q h)
 | .join _ _ q r,h=>G6 (Fp q fun j a=>h j (by simp[Ac,a])) (Fp r fun j a=>h j (by simp[Ac,a]))
 | .uni q r,h=>A9.append (Fp q fun j a=>h j (by simp[Ac,a])) (Fp r fun j a=>h j (by simp[Ac,a]))
 | .dist q,h=>by simp only[Bg];rw[Nw (Fp q h)];exact A9.refl _
 | .grp _ _ q,h=>by simp only[Bg];rw[Nx (Fp q h)];exact A9.refl _
theorem G8 {f:Nat→Bag}{g:List UInt8→Bag}:∀(q:Q) (i:Nat),(∀j nm,(Ac q)[j]? =some nm→A9 (f (i+j)) (g nm))→A9 (A1 f i q) (Bg g q)
 | .tab nm,i,h=>h 0 nm rfl
 | .sel _ _ _ q,i,h=>Iw (G8 q i h)
 | .pick _ q,i,h=>Ej (G8 q i h)
 | .join _ _ q r,i,h=>G6
  (G8 q i fun j nm a=>h j nm (by simp only[Ac];rw[uD (tR.1 a).1];exact a))
  (G8 r _ fun j nm a=>by have:=h ((Ac q).length+j) nm (by simp only[Ac];rw[uC (by omega),wF];exact a);rw[wD];exact this)
 | .uni q r,i,h=>A9.append
  (G8 q i fun j nm a=>h j nm (by simp only[Ac];rw[uD (tR.1 a).1];exact a))
  (G8 r _ fun j nm a=>by have:=h ((Ac q).length+j) nm (by simp only[Ac];rw[uC (by omega),wF];exact a);rw[wD];exact this)
 | .dist q,i,h=>by simp only[A1,Bg];rw[Nw (G8 q i h)];exact A9.refl _
 | .grp _ _ q,i,h=>by simp only[A1,Bg];rw[Nx (G8 q i h)];exact A9.refl _
theorem Dg {f:Nat→Bag}(hf:∀i,nn (f i)):∀(q:Q) (i:Nat),nn (A1 f i q)
 | .tab _,i=>hf i
 | .sel _ _ _ q,i=>iH (Dg hf q i)
 | .pick _ q,i=>GW (Dg hf q i)
 | .join _ _ q r,i=>aD (Dg hf q i) (Dg hf r _)
 | .uni q r,i=>UL (Dg hf q i) (Dg hf r _)
 | .dist _,_=>aE _
 | .grp _ _ _,_=>iI _ _ _
def yA (T:Int):Q→Int
 | .tab _=>T
 | .sel _ _ _ q=>yA T q
 | .pick _ q=>yA T q
 | .join _ _ q r=>yA T q*yA T r
 | .uni q r=>yA T q+yA T r
 | .dist q=>yA T q
 | .grp _ _ q=>yA T q
def bW (T:Int):Q→Int
 | .tab _=>10000*T
 | .sel _ _ _ q=>bW T q
 | .pick _ q=>bW T q
 | .join _ _ q r=>yA T r*bW T q+yA T q*bW T r
 | .uni q r=>bW T q+bW T r
 | .dist q=>bW T q
 | .grp _ _ q=>bW T q
theorem Lp {T:Int}(a:0≤T):∀q,0≤yA T q
 | .tab _=>a
 | .sel _ _ _ q=>Lp a q
 | .pick _ q=>Lp a q
 | .join _ _ q r=>vC (Lp a q) (Lp a r)
 | .uni q r=>Int.add_nonneg (Lp a q) (Lp a r)
 | .dist q=>Lp a q
 | .grp _ _ q=>Lp a q
theorem Sg {T:Int}(a:0≤T):∀q,0≤bW T q
 | .tab _=>by simp only[bW];omega
 | .sel _ _ _ q=>Sg a q
 | .pick _ q=>Sg a q
 | .join _ _ q r=>Int.add_nonneg (vC (Lp a r) (Sg a q)) (vC (Lp a q) (Sg a r))
 | .uni q r=>Int.add_nonneg (Sg a q) (Sg a r)
 | .dist q=>Sg a q
 | .grp _ _ q=>Sg a q
theorem Ic {a b c d:Int}(h:a≤c)(k:b≤d)(e:0≤b)(f:0≤c):a*b≤c*d :=
 vG (vQ h e) (vA k f)
structure J8 (f:Nat→Bag) (T:Int):Prop where
 nn:∀i,Mo.nn (f i)
 rows:∀i,Nr (f i)≤T
 wts:∀i,Wt (f i)≤10000*T
theorem Gl {f:Nat→Bag}{T:Int}(h:J8 f T)(a:0≤T):∀(q:Q) (i:Nat),Nr (A1 f i q)≤yA T q
 | .tab _,i=>h.rows i
 | .sel _ _ _ q,i=>vG (RO (Dg h.nn q i)) (Gl h a q i)
 | .pick _ q,i=>by simp only[A1,Xx];exact Gl h a q i
 | .join _ _ q r,i=>vG (Xy (Dg h.nn q i) (Dg h.nn r _)) (Ic (Gl h a q i) (Gl h a r _) (GZ (Dg h.nn r _)) (Lp a q))
 | .uni q r,i=>by simp only[A1,BC];exact xQ (Gl h a q i) (Gl h a r _)
 | .dist q,i=>vG (IA (Dg h.nn q i)) (Gl h a q i)
 | .grp _ _ q,i=>vG (iL (Dg h.nn q i)) (Gl h a q i)
theorem Kt {f:Nat→Bag}{T:Int}(h:J8 f T)(a:0≤T):∀(q:Q) (i:Nat),Wt (A1 f i q)≤bW T q
 | .tab _,i=>h.wts i
 | .sel _ _ _ q,i=>vG (iJ (Dg h.nn q i)) (Kt h a q i)
 | .pick _ q,i=>vG (aG (Dg h.nn q i)) (Kt h a q i)
 | .join _ _ q r,i=>vG (aH (Dg h.nn q i) (Dg h.nn r _))
  (xQ (Ic (Gl h a r _) (Kt h a q i) (RN (Dg h.nn q i)) (Lp a r)) (Ic (Gl h a q i) (Kt h a r _) (RN (Dg h.nn r _)) (Lp a q)))
 | .uni q r,i=>by simp only[A1,UO];exact xQ (Kt h a q i) (Kt h a r _)
 | .dist q,i=>vG (aI (Dg h.nn q i)) (Kt h a q i)
 | .grp _ _ q,i=>vG (iM (Dg h.nn q i)) (Kt h a q i)
def yB (B:Int):Nat→Int
 |0=>1
 |n+1=>B*yB B n
theorem Ix {B:Int}(hB:1≤B):∀n,1≤yB B n
 |0=>vU _
 |n+1=>by have a:=Ix hB n;have b:=vQ hB (show 0≤yB B n by omega);simp only[yB];omega
theorem DZ (B:Int)(a b:Nat):yB B (a+b)=yB B a*yB B b:=by
 induction a with
 |zero=>simp[yB]
 |succ a c=>rw[Nat.add_right_comm];simp only[yB];rw[c,xO]
theorem Ox {B:Int}(hB:1≤B){a b:Nat}(h:a≤b):yB B a≤yB B b:=by
 obtain⟨c,rfl⟩:=Nat.exists_eq_add_of_le h;rw[DZ];have d:=Ix hB a;have e:=vA (Ix hB c) (show 0≤yB B a by omega);omega
theorem Nz {T B:Int}(a:1≤T):∀(q:Q),T*(Ac q).length≤B→yA T q≤(Ac q).length*T*yB B (Al q)
 | .tab _,h=>by simp[yA,Ac,Al,yB]
 | .sel _ _ _ q,h=>Nz a q h
 | .pick _ q,h=>Nz a q h
 | .dist q,h=>Nz a q h
 | .grp _ _ q,h=>Nz a q h
 | .uni q r,h=>by have hB:1≤B:=(by have:=Ov (.uni q r);have b:T*1≤T*((Ac (.uni q r)).length:Int):=vA (by omega) (by omega);omega);simp only[Ac,tS,wO,wX] at h;have c:0≤T*((Ac q).length:Int):=vC (by omega) (by omega);have d:0≤T*((Ac r).length:Int):=vC (by omega) (by omega);have e:=Nz (B:=B) a q (by omega);have b:=Nz (B:=B) a r (by omega);have g:((Ac q).length:Int)*T*yB B (Al q)≤((Ac q).length:Int)*T*yB B (Al q+Al r):=vA (Ox hB (by omega)) (by rw[vW];exact c);have i:((Ac r).length:Int)*T*yB B (Al r)≤((Ac r).length:Int)*T*yB B (Al q+Al r):=vA (Ox hB (by omega)) (by rw[vW];exact d);simp only[yA,Ac,Al,tS,wO,xG];omega
 | .join n m q r,h=>by have hB:1≤B:=(by have:=Ov (.join n m q r);have b:T*1≤T*((Ac (.join n m q r)).length:Int):=vA (by omega) (by omega);omega);simp only[Ac,tS,wO,wX] at h;have c:0≤T*((Ac q).length:Int):=vC (by omega) (by omega);have d:0≤T*((Ac r).length:Int):=vC (by omega) (by omega);have e:=Nz (B:=B) a q (by omega);have b:=Nz (B:=B) a r (by omega);have p1:=Ix hB (Al q);have p2:=Ix hB (Al r);have e1:((Ac q).length:Int)*T=T*(Ac q).length:=vW _ _;have e2:((Ac r).length:Int)*T=T*(Ac r).length:=vW _ _;have f:yA T r≤B*yB B (Al r):=vG b (vQ (by omega) (by omega));have j:=Ic e f (Lp (by omega) r) (vC (by omega) (by omega));have k:((Ac q).length:Int)*T*yB B (Al q)*(B*yB B (Al r))=((Ac q).length:Int)*T*yB B (Al q+Al r+1):=(by have:yB B (Al q+Al r+1)=B*(yB B (Al q)*yB B (Al r)):=(by simp only[yB,DZ]);rw[this,xO,xO,Int.mul_left_comm (yB B (Al q)) B,xO]);have l:0≤((Ac r).length:Int)*T*yB B (Al q+Al r+1):=vC (by omega) (by have:=Ix hB (Al q+Al r+1);omega);simp only[yA,Ac,Al,tS,wO,xG];omega
theorem Tz {T B:Int}(a:1≤T):∀(q:Q),T*(Ac q).length≤B→bW T q≤10000*((Al q:Int)+1)*((Ac q).length*T*yB B (Al q))
 | .tab _,_=>by simp[bW,Ac,Al,yB]
 | .sel _ _ _ q,h=>Tz a q h
 | .pick _ q,h=>Tz a q h
 | .dist q,h=>Tz a q h
 | .grp _ _ q,h=>Tz a q h
 | .uni q r,h=>by have hB:1≤B:=(by have:=Ov (.uni q r);have b:T*1≤T*((Ac (.uni q r)).length:Int):=vA (by omega) (by omega);omega);simp only[Ac,tS,wO,wX] at h;have g:0≤T*((Ac q).length:Int):=vC (by omega) (by omega);have i:0≤T*((Ac r).length:Int):=vC (by omega) (by omega);have j:=Tz (B:=B) a q (by omega);have b:=Tz (B:=B) a r (by omega);have o:((Ac q).length:Int)*T*yB B (Al q)≤((Ac q).length:Int)*T*yB B (Al q+Al r):=vA (Ox hB (by omega)) (by rw[vW];exact g);have p:((Ac r).length:Int)*T*yB B (Al r)≤((Ac r).length:Int)*T*yB B (Al q+Al r):=vA (Ox hB (by omega)) (by rw[vW];exact i);have p0:=Ix hB (Al q);have p1:=Ix hB (Al r);have k:0≤((Ac q).length:Int)*T*yB B (Al q):=vC (by rw[vW];exact g) (by omega);have l:0≤((Ac r).length:Int)*T*yB B (Al r):=vC (by rw[vW];exact i) (by omega);have d:bW T q≤10000*((Al q+Al r:Int)+1)*(((Ac q).length:Int)*T*yB B (Al q+Al r)):=vG j (Ic (by omega) o k (by omega));have f:bW T r≤10000*((Al q+Al r:Int)+1)*(((Ac r).length:Int)*T*yB B (Al q+Al r)):=vG b (Ic (by omega) p l (by omega));have e:10000*(((Al (.uni q r):Nat):Int)+1)*(((Ac (.uni q r)).length:Int)*T*yB B (Al (.uni q r)))=10000*((Al q+Al r:Int)+1)*(((Ac q).length:Int)*T*yB B (Al q+Al r))+10000*((Al q+Al r:Int)+1)*(((Ac r).length:Int)*T*yB B (Al q+Al r)):=(by rw[←wX,←xG,←xG];simp only[Ac,Al,tS,wO]);rw[e];exact xQ d f
 | .join n m q r,h=>by have hB:1≤B:=(by have:=Ov (.join n m q r);have b:T*1≤T*((Ac (.join n m q r)).length:Int):=vA (by omega) (by omega);omega);simp only[Ac,tS,wO,wX] at h;have g:0≤T*((Ac q).length:Int):=vC (by omega) (by omega);have i:0≤T*((Ac r).length:Int):=vC (by omega) (by omega);have j:=Tz (B:=B) a q (by omega);have b:=Tz (B:=B) a r (by omega);have n1:=Nz (B:=B) a q (by omega);have s:=Nz (B:=B) a r (by omega);have p0:=Ix hB (Al q);have p1:=Ix hB (Al r);have e1:((Ac q).length:Int)*T=T*(Ac q).length:=vW _ _;have e2:((Ac r).length:Int)*T=T*(Ac r).length:=vW _ _;have t:yA T q≤B*yB B (Al q):=vG n1 (vQ (by omega) (by omega));have b2:yA T r≤B*yB B (Al r):=vG s (vQ (by omega) (by omega));have d:=Ic b2 j (Sg (by omega) q) (vC (by omega) (by omega));have f:=Ic t b (Sg (by omega) r) (vC (by omega) (by omega));have u:B*yB B (Al r)*(10000*((Al q:Int)+1)*((Ac q).length*T*yB B (Al q)))=10000*((Al q:Int)+1)*((Ac q).length*T*yB B (Al q+Al r+1)):=(by have:yB B (Al q+Al r+1)=B*(yB B (Al q)*yB B (Al r)):=(by simp only[yB,DZ]);rw[this];ac_rfl);have v:B*yB B (Al q)*(10000*((Al r:Int)+1)*((Ac r).length*T*yB B (Al r)))=10000*((Al r:Int)+1)*((Ac r).length*T*yB B (Al q+Al r+1)):=(by have:yB B (Al q+Al r+1)=B*(yB B (Al q)*yB B (Al r)):=(by simp only[yB,DZ]);rw[this];ac_rfl);rw[u] at d;rw[v] at f;have y:=Ix hB (Al q+Al r+1);have k:0≤((Ac q).length:Int)*T*yB B (Al q+Al r+1):=vC (by omega) (by omega);have l:0≤((Ac r).length:Int)*T*yB B (Al q+Al r+1):=vC (by omega) (by omega);have w:=vG d (Ic (c:=10000*((Al q+Al r+1:Int)+1)) (by omega) (vU _) k (by omega));have x:=vG f (Ic (c:=10000*((Al q+Al r+1:Int)+1)) (by omega) (vU _) l (by omega));have e:10000*(((Al (.join n m q r):Nat):Int)+1)*(((Ac (.join n m q r)).length:Int)*T*yB B (Al (.join n m q r)))=10000*((Al q+Al r+1:Int)+1)*(((Ac q).length:Int)*T*yB B (Al q+Al r+1))+10000*((Al q+Al r+1:Int)+1)*(((Ac r).length:Int)*T*yB B (Al q+Al r+1)):=(by rw[←wX,←xG,←xG];simp only[Ac,Al,tS,wO,Int.natCast_one]);rw[e];exact xQ w x
theorem qS (q:Q)(_:(Ac q).length≤120)(b:Al q≤2){f:Nat→Bag}(h:J8 f 120)(i:Nat):Nr (A1 f i q)≤3000000000000∧Wt (A1 f i q)≤90000000000000000:=by
 have hp:yB 14400 (Al q)≤14400*14400:=by have:=Ox (B:=14400) (by omega) b;simpa [yB] using this
 have g:=Ix (B:=14400) (by omega) (Al q);have j:=vG (Gl h (by omega) q i) (Nz (B:=14400) (by omega) q (by omega));have k:=vG (Kt h (by omega) q i) (Tz (B:=14400) (by omega) q (by omega));have d:((Ac q).length:Int)*120*yB 14400 (Al q)≤14400*(14400*14400):=Ic (by omega) hp (by omega) (by omega);have e:0≤((Ac q).length:Int)*120*yB 14400 (Al q):=vC (by omega) (by omega);have l:=Ic (a:=10000*((Al q:Int)+1)) (c:=30000) (by omega) d e (by omega);constructor
 ·omega
 omega
end Go.Proofs.YtdinjjmcmfjbfaaGreatDoor.Mo
namespace Go.Proofs.YtdinjjmcmfjbfaaGreatDoor
open Go.RowKit Mo Pl Tryz
def U6:Dk→Bool
 | .col _=>true
 | .val _=>false
def Ce:Dk→Nat
 | .col c=>c
 | .val _=>0
def vO:Dk→V
 | .col _=>.num 0
 | .val v=>v
abbrev zO:Dk:=.val (.num 0)
def Sh (x:Dk):List Value:=[.bool (U6 x),.int .i64 (Ce x:Int),.int .i32 (kI (vO x)),.int .u8 (tB (vO x) 0),.int .u8 (tB (vO x) 1),.int .u8 (tB (vO x) 2),.int .u8 (tB (vO x) 3),.int .i64 (nI (vO x))]
def Mi:Nat→Qb
 |0=>.lt
 |1=>.eq
 |_=>.ne
structure Hd where
 k:Nat
 nm:List UInt8
 cmp:Nat
 l:Dk
 r:Dk
 w:Dk
def Bb (h:Hd)(cols C5:Value):Array Value :=
 #[.int .i64 (h.k:Int),.string ⟨h.nm.toArray⟩,.int .i64 (h.cmp:Int),
   .bool (U6 h.l),.int .i64 (Ce h.l:Int),.int .i32 (kI (vO h.l)),.int .u8 (tB (vO h.l) 0),.int .u8 (tB (vO h.l) 1),.int .u8 (tB (vO h.l) 2),.int .u8 (tB (vO h.l) 3),.int .i64 (nI (vO h.l)),
   .bool (U6 h.r),.int .i64 (Ce h.r:Int),.int .i32 (kI (vO h.r)),.int .u8 (tB (vO h.r) 0),.int .u8 (tB (vO h.r) 1),.int .u8 (tB (vO h.r) 2),.int .u8 (tB (vO h.r) 3),.int .i64 (nI (vO h.r)),
   cols,
   .bool (U6 h.w),.int .i64 (Ce h.w:Int),.int .i32 (kI (vO h.w)),.int .u8 (tB (vO h.w) 0),.int .u8 (tB (vO h.w) 1),.int .u8 (tB (vO h.w) 2),.int .u8 (tB (vO h.w) 3),.int .i64 (nI (vO h.w)),
   C5]
theorem MZ (h:Hd)(c i:Value):(Bb h c i).size=29:=rfl
abbrev sN:Value:=.slice none 0 0
def Py (s:ByteArray)(a:Nat):Dk :=
 if bt s a=35 then .val (.num (Gu (Ia s (a+1) (D1 s (a+1)).2)))
 else if bt s a=36 then .val (.txt (Ia s (a+1) (Bj s (a+1)).2)) else .col (Nk s a)
def NA (s:ByteArray)(a:Nat):Dk:=if bt s a=115 then .col (Nk s (a+1)) else .val (.num 1)
def Ek (s:ByteArray)(a:Nat):Nat:=(R9 (tk s 93) (Dh s 5) (a+2)).2
def Gs (s:ByteArray)(k a:Nat):List Nat :=
 if k=3 then C6 s 5 (a+2) else if k=7 then (if bt s (a+2)=93 then [] else C6 s 5 (a+2)) else []
def Si (s:ByteArray)(k a:Nat):Hd :=
 if k=1 then ⟨1,Ia s a (Bj s a).2,0,zO,zO,zO⟩
 else if k=2 then ⟨2,[],RG s (a+3),.col (Nk s (a+2)),Py s (a+4),zO⟩
 else if k=4 then ⟨4,[],0,.col (Nk s (a+2)),.col (Nk s (a+4)),zO⟩
 else if k=7 then ⟨7,[],0,zO,zO,NA s (Ek s a+1)⟩
 else ⟨k,[],0,zO,zO,zO⟩
theorem aL (s:ByteArray)(k b:Nat)(l:Dk)(cols C5:Value)(a:Nat):iD s (Bb ⟨k,[],b,l,zO,zO⟩ cols C5) 11 a=Bb ⟨k,[],b,l,Py s a,zO⟩ cols C5:=by
 unfold iD Py;split
 ·rfl
 split <;> rfl
theorem aM (s:ByteArray)(k:Nat)(cols C5:Value)(a:Nat):mL s (Bb ⟨k,[],0,zO,zO,zO⟩ cols C5) 20 a=Bb ⟨k,[],0,zO,zO,NA s a⟩ cols C5:=by
 unfold mL NA;split <;> rfl
theorem EA (s:ByteArray)(a b:Nat):(⟨(Ia s a b).toArray⟩:ByteArray)=s.extract a b:=by
 show (⟨(s.extract a b).data.toList.toArray⟩:ByteArray)=_;rw[xM]
theorem IC {s:ByteArray}{a a':Nat}(h:J6 s a=(true,a')):a+1=a':=by
 unfold J6 at h;split at h
 ·injection h
 injection h with h;cases h
theorem RW {s:ByteArray}{a a':Nat}(h:Jt s a=(true,a')):a+1=a':=(DV h).symm
theorem mO {s:ByteArray}{c a a':Nat}(h:tk s c a=(true,a')):a+1=a':=by
 rcases V3 h with ⟨_,_,e⟩|⟨e,_⟩
 ·exact e
 cases e
def T0 (B P:Nat)(s:ByteArray)(w:World)(k a:Nat)(e:Ending)(w':World):Prop :=
 ∃ok a' d,B3 s k a=(ok,a')∧e=.returned (.bool ok)∧RP B s a' w'∧Ab (fun k=>k=B∨k=P) w w'∧w'.heap[P]? =some (.cells d 139 (0,0))∧d.size=29 ∧
  (ok=true→∃lv,d=Bb (Si s k a) lv sN∧w'.ownsRow w.heap.size 3 1 lv (Gs s k a).length (Gp (Gs s k a)))
structure Sb (B P:Nat) (s:ByteArray) (w:World) (k a:Nat) (F:Nat→Bool×Nat) (b:Nat) (d:Array Value) (lv:Value) (L:List Nat) (w':World):Prop where
 eq:B3 s k a=F b
 rp:RP B s b w'
 kp:Ab (fun k=>k=B∨k=P) w w'
 hp:w'.heap[P]? =some (.cells d 139 (0,0))
 sz:d.size=29
 ow:w'.ownsRow w.heap.size 3 1 lv L.length (Gp L)
 lb:B<w.heap.size∧P<w.heap.size
def mP (B P:Nat)(s:ByteArray)(w:World)(k a:Nat)(e:Ending)(w':World):Prop:=e=.returned (.bool false)∧xR (T0 B P s w k a (.returned (.bool false)) w')
section
variable {B P:Nat} {s:ByteArray} {w w1:World} {k a b c:Nat} {F X:Nat→Bool×Nat} {d d':Array Value} {lv:Value} {L:List Nat}
theorem Sb.Cm {c:World}{G:Nat→Bool×Nat}{b2:Nat}(h:Sb B P s w k a F b d lv L w1)(f:Ab (fun k=>k=B∨k=P) w1 c)(e:F b=G b2)(p:RP B s b2 c)(q:C2 c P d' 139)(g:d'.size=d.size):Sb B P s w k a G b2 d' lv L c :=
 ⟨h.eq.trans e,p,h.kp.seq f,q,g.trans h.sz,Br h.ow f (fun i hi g=>by have:=Bk h.ow i hi;have:=h.lb;omega),h.lb⟩
theorem Sb.no (h:Sb B P s w k a F b d lv L w1)(e:F b=(false,c))(p:RP B s c w1):xR (T0 B P s w k a (.returned (.bool false)) w1) :=
 ⟨false,c,d,h.eq.trans e,rfl,p,h.kp,h.hp,h.sz,by simp⟩
theorem qK {f:FuncId}{args:Array Value}(h:xR (Sb B P s w k a (B6 X F) b d lv L w1))(C:Calls prog f args w1 (WQ B P s w1 (X b) 139 d.size d')) :
 Calls prog f args w1 fun e c=>(e=.returned (.bool true)∧∃b2,xR (X b=(true,b2))∧xR (Sb B P s w k a F b2 d' lv L c))∨mP B P s w k a e c:=by
 go_call C as e c ⟨ok,b2,_,x,rfl,p,g,q,i,j⟩;cases ok
 ·refine .inr ⟨rfl,?_⟩;exact (h.o.Cm (G:=fun _=>(false,b2)) (b2:=b2) g (Fo x) p q i).no rfl p
 obtain rfl:=j rfl;exact .inl ⟨rfl,b2,x,h.o.Cm g (Eu x) p q i⟩
theorem EB (h:xR (Sb B P s w k a F b d lv L w1))(j:s.size≤1000)(l:P≠B)(c:Nat)(g:Int)(m:g=(c:Int))(n:0<c):Calls prog 76 #[C1 B,.int .u8 g] w1 fun e i=>∃ok b2,e=.returned (.bool ok)∧tk s c b=(ok,b2)∧∀G,F b=G b2→Sb B P s w k a G b2 d lv L i:=by
 go_call Di B s b c g w1 j n m h.o.rp as e i ⟨ok,b2,x,rfl,p,f⟩;exact⟨ok,b2,rfl,x,fun G e=>h.o.Cm (f.mono (fun _ _ e=>.inl e)) e p ((f.block P (Aa h.o.hp) l).trans h.o.hp) rfl⟩
theorem Qo (h:xR (Sb B P s w k a (B6 (tk s c) F) b d lv L w1))(j:s.size≤1000)(l:P≠B)(f:Int)(m:f=(c:Int):=by rfl)(n:0<c:=by omega) :
 Calls prog 76 #[C1 B,.int .u8 f] w1 fun e i=>(e=.returned (.bool true)∧xR (Sb B P s w k a F (b+1) d lv L i))∨mP B P s w k a e i:=by
 go_call EB h j l c f m n as e i ⟨ok,b2,rfl,x,g⟩;cases ok
 ·have g:=g (fun _=>(false,b2)) (Fo x);exact .inr ⟨rfl,g.no rfl g.rp⟩
 obtain rfl:=mO x;exact .inl ⟨rfl,g F (Eu x)⟩
theorem ID (h:xR (Sb B P s w k a (tk s c) b d lv L w1))(j:s.size≤1000)(l:P≠B)(f:Int)(m:d=Bb (Si s k a) lv sN)(n:L=Gs s k a)(o:f=(c:Int):=by rfl)(p:0<c:=by omega) :
 Calls prog 76 #[C1 B,.int .u8 f] w1 fun e i=>∃ok,e=.returned (.bool ok)∧xR (T0 B P s w k a (.returned (.bool ok)) i):=by
 go_call EB h j l c f o p as e i ⟨ok,b2,rfl,x,g⟩;have g:=g (fun _=>(ok,b2)) x;subst n;exact⟨ok,rfl,ok,b2,d,g.eq,rfl,g.rp,g.kp,g.hp,g.sz,fun _=>⟨lv,m,g.ow⟩⟩
theorem tF (h:xR (Sb B P s w k a (B6 (R9 (tk s c) X) F) b d lv L w1))(l:s.size≤1000)(m:P≠B)(f:Int)(n:f=(c:Int):=by rfl)(o:0<c:=by omega) :
 Calls prog 76 #[C1 B,.int .u8 f] w1 fun e i=>(e=.returned (.bool true)∧xR (bt s b=c∧R9 (tk s c) X b=(true,b+1))∧xR (Sb B P s w k a F (b+1) d lv L i))∨(e=.returned (.bool false)∧xR (bt s b≠c∧R9 (tk s c) X b=X b)∧xR (Sb B P s w k a (B6 X F) b d lv L i)):=by
 go_call EB h l m c f n o as e i ⟨ok,b2,rfl,x,g⟩;rcases V3 x with ⟨rfl,j,rfl⟩|⟨rfl,j,rfl⟩
 ·exact .inl ⟨rfl,⟨j,Ho x⟩,g F (Eu (Ho x))⟩
 exact .inr ⟨rfl,⟨j,F8 x⟩,g _ (by unfold B6;rw[F8 x])⟩
theorem lT (h:xR (Sb B P s w k a F b d (.slice none 0 0) [] w1))(m:s.size≤1000)(n:P≠B)(o:d[19]? =some (.slice none 0 0)) :
 Calls prog 146 #[C1 B,.pointer (some ⟨P,19,none⟩)] w1 fun e f=>∃ok b2 c,e=.returned (.bool ok)∧Dh s 5 b=(ok,b2)∧(∀G,F b=G b2→Sb B P s w k a G b2 c (.slice none 0 0) [] f)∧(ok=true→∃lv,c=d.setIfInBounds 19 lv∧∀G,F b=G b2→Sb B P s w k a G b2 c lv (C6 s 5 b) f):=by
 go_call GQ B P 19 s b d 139 w1 m n (by decide) h.o.rp h.o.hp (by rw[h.o.sz];omega) o as e f ⟨ok,b2,c,x,rfl,p,i,q,j,r⟩;refine⟨ok,b2,c,rfl,x,fun G e=>h.o.Cm i e p q j,fun e=>?_⟩;obtain⟨lv,t,l⟩:=r e;refine⟨lv,t,fun G e=>?_⟩;have g:=h.o.Cm i e p q j;have:=h.o.kp.size;exact⟨g.eq,p,g.kp,q,g.sz,⟨l.1,l.2.imp id (fun ⟨g,u,v,e1,e2,e3⟩=>⟨g,u,v,e1,by omega,e3⟩)⟩,g.lb⟩
end
end Go.Proofs.YtdinjjmcmfjbfaaGreatDoor
