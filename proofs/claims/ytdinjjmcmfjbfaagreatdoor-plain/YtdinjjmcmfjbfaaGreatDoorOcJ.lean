import Derived.Test.YtdinjjmcmfjbfaaGreatDoorTxJ
namespace Go.Proofs.YtdinjjmcmfjbfaaGreatDoor.Pl
def Fl (s:ByteArray)(d:Nat)(q:Nat→Nat×Nat)(a:Nat):Nat×Nat :=
 bE (lf (Ba s (kd (bt s a))) a) fun b=>if kd (bt s a)=1 then (0,b) else bE (Up s d 0 b) fun c=>bE (q c) (Qf s q (Co (kd (bt s a))))
theorem Uz {s:ByteArray}{d e a:Nat}(h:e≠0):Up s d e a=(e,a):=by unfold Up;rw[if_neg (fun x=>h x.1),Bi h]
theorem CH {s:ByteArray}{a:Nat}(h:bt s a=40):Up s 6 0 a=(3,a):=by unfold Up;rw[if_pos ⟨rfl,h,rfl⟩]
theorem Vm {s:ByteArray}{d a:Nat}(h:bt s a≠40):Up s d 0 a=(2,a):=by unfold Up;rw[if_neg (fun x=>h x.2.1),A3,E6 (Lq h)]
theorem dH {s:ByteArray}{d a:Nat}(h:bt s a=40)(b:d≠6):Up s d 0 a=(0,a+1):=by unfold Up;rw[if_neg (fun x=>b x.2.2),A3,Fh (I6 h)]
theorem He {s:ByteArray}{e a c a':Nat}(h:Up s 6 e a=(c,a')):c≠0:=by
 intro f;subst f
 by_cases b:e=0
 ·subst b
  by_cases d:bt s a=40
  ·rw[CH d] at h;injection h with h;omega
  ·rw[Vm d] at h;injection h with h;omega
 ·rw[Uz b] at h;injection h with h;exact b h
theorem Th {s:ByteArray}{d e a a':Nat}(h:Up s d e a=(0,a')):e=0∧cj s a'=cj s a:=by
 by_cases b:e=0
 ·subst b
  refine⟨rfl,?_⟩
  unfold Up at h
  split at h
  ·injection h with h;omega
  ·rw[A3] at h
   by_cases c:bt s a=40
   ·rw[Fh (I6 c)] at h;injection h with _ h;subst h;simp[cj,c]
   ·rw[E6 (Lq c)] at h;injection h with h;omega
 ·rw[Uz b] at h;injection h with h;exact absurd h b
theorem Fm {s:ByteArray}{p:Nat→Bool×Nat}(c:Dr s p){e a a':Nat}(h:bE (e,a) (lf p)=(0,a')):e=0∧cj s a'=cj s a:=by
 by_cases b:e=0
 ·subst b
  refine⟨rfl,?_⟩
  rw[A3] at h
  have d:(p a).1=true:=cQ (by rw[h])
  have f:(p a).2=a':=by have:(lf p a).2=a':=by rw[h]
                        exact this
  rw[←f];exact c.noJ a d
 ·rw[Bi b] at h;injection h with h;exact absurd h b
theorem SK (s:ByteArray):∀a,cj s a≤a
 |0=>kZ _
 |a+1=>by have:=SK s a;unfold cj;split <;> omega
theorem NH (s:ByteArray)(q:Nat→Nat×Nat):Fl s 6 q=qP s 0:=by
 funext a;unfold Fl;rw[qP]
 congr 1;funext b
 by_cases c:kd (bt s a)=1
 ·rw[if_pos c,if_pos c]
 ·rw[if_neg c,if_neg c]
  by_cases d:bt s b=40
  ·rw[if_pos d,CH d,Bi (by omega)]
  ·rw[if_neg d,Vm d,Bi (by omega)]
theorem Hz (s:ByteArray)(d f:Nat)(g:d≠6):Fl s d (qP s f)=qP s (f+1):=by
 funext a;unfold Fl;rw[qP]
 congr 1;funext b
 by_cases c:kd (bt s a)=1
 ·rw[if_pos c,if_pos c]
 ·rw[if_neg c,if_neg c]
  by_cases e:bt s b=40
  ·rw[if_pos e,dH e g,A3]
  ·rw[if_neg e,Vm e,Bi (by omega)]
theorem Rw {s:ByteArray}{d a e1 a1 f i j k l m:Nat}{q:Nat→Nat×Nat}(n:kd (bt s a)≠1)(hi:Co (kd (bt s a))=1)(o:lf (Ba s (kd (bt s a))) a=(e1,a1))(g:Up s d e1 a1=(f,i))(b:bE (f,i) q=(j,k))(c:bE (j,k) (lf (tk s 41))=(l,m)) :
 Fl s d q a=(l,m):=by
 unfold Fl;rw[o]
 by_cases e:e1=0
 ·subst e
  rw[A3,if_neg n,g]
  by_cases h:f=0
  ·subst h
   rw[A3] at b⊢
   rw[b,←c]
   congr 1;funext x;unfold Qf;rw[hi,if_neg (by omega)]
  ·rw[Bi h] at b⊢;injection b with x y;subst x y;rw[Bi h] at c;exact c
 ·rw[Uz e] at g;injection g with x y;subst x y
  rw[Bi e] at b⊢;injection b with x y;subst x y;rw[Bi e] at c;exact c
theorem CI {s:ByteArray}{d a e1 a1 k z h l m A e5 a5 n o:Nat}{q:Nat→Nat×Nat}(B:kd (bt s a)≠1)(hi:Co (kd (bt s a))=2)(C:lf (Ba s (kd (bt s a))) a=(e1,a1))(p:Up s d e1 a1=(k,z))(c:bE (k,z) q=(h,l))
 (i:bE (h,l) (lf (tk s 44))=(m,A)) (f:bE (m,A) q=(e5,a5)) (g:bE (e5,a5) (lf (tk s 41))=(n,o)) :
 Fl s d q a=(n,o):=by
 have r:∀{e b:Nat},e≠0→(e,b)=(h,l)→(e,b)=(n,o):=by
  intro e b t D;injection D with x y;subst x y
  rw[Bi t] at i;injection i with x y;subst x y
  rw[Bi t] at f;injection f with x y;subst x y
  rw[Bi t] at g;exact g
 unfold Fl;rw[C]
 by_cases j:e1=0
 ·subst j
  rw[A3,if_neg B,p]
  by_cases u:k=0
  ·subst u
   rw[A3] at c⊢
   rw[c]
   by_cases v:h=0
   ·subst v
    rw[A3] at i⊢
    unfold Qf;rw[hi,if_pos rfl,i]
    by_cases w:m=0
    ·subst w;rw[A3] at f⊢;rw[f];exact g
    ·rw[Bi w] at f⊢;injection f with x y;subst x y;rw[Bi w] at g;exact g
   ·rw[Bi v];exact r v rfl
  ·rw[Bi u] at c⊢;exact r u c
 ·rw[Uz j] at p;injection p with x y;subst x y
  rw[Bi j] at c⊢;exact r j c
theorem Ka {s:ByteArray}{c a:Nat}{g:Nat→Bool×Nat}(h:bt s a=c):lf (Ck (tk s c) g) a=lf g (a+1):=by unfold lf;rw[Ai (I6 h)]
theorem CJ {x:Nat×Nat}{f g:Nat→Nat×Nat}(h:f x.2=g x.2):bE x f=bE x g:=by unfold bE;rw[h]
theorem Ij (s:ByteArray):KR s=Ck (tk s 91) (Ck (Je (tk s 115) (Hr s) (tk s 110)) (tk s 93)):=by
 funext a;unfold KR
 cases h:tk s 91 a with
 |mk o b =>
  cases o
  ·rw[A6 h,A6 h]
  ·rw[Ai h,Ai h]
   cases d:tk s 115 b with
   |mk e c =>
    cases e
    ·rw[D1 d];unfold Ck;rw[D1 d]
    ·rw[Gk d];unfold Ck;rw[Gk d]
theorem GR {s:ByteArray}{c a:Nat}{g:Nat→Bool×Nat}(h:bt s a=c):bE (0,a) (lf (Qs (tk s c) g))=(0,a+1):=by rw[A3,Fh (G9 (I6 h))]
theorem KV {s:ByteArray}{c e a:Nat}{g:Nat→Bool×Nat}(h:¬(e=0∧bt s a=c)):bE (e,a) (lf (Qs (tk s c) g))=bE (e,a) (lf g):=by
 by_cases b:e=0
 ·subst b;apply CJ;show lf _ a=lf _ a;unfold lf;rw[Fb (Lq (fun x=>h ⟨rfl,x⟩))]
 ·rw[Bi b,Bi b]
theorem Ob {s:ByteArray}{c a:Nat}{g k:Nat→Bool×Nat}(h:bt s a=c):bE (0,a) (lf (Je (tk s c) g k))=bE (0,a+1) (lf g):=by rw[A3,A3];unfold lf;rw[Gk (I6 h)]
theorem Oc {s:ByteArray}{c e a:Nat}{g k:Nat→Bool×Nat}(h:¬(e=0∧bt s a=c)):bE (e,a) (lf (Je (tk s c) g k))=bE (e,a) (lf k):=by
 by_cases b:e=0
 ·subst b;apply CJ;show lf _ a=lf _ a;unfold lf;rw[D1 (Lq (fun x=>h ⟨rfl,x⟩))]
 ·rw[Bi b,Bi b]
theorem Vn (s:ByteArray):Hu s=Qs (tk s 60) (Qs (tk s 61) (tk s 33)):=by
 funext a;unfold Hu
 by_cases b:bt s a=60
 ·rw[if_pos (.inl b),G9 (I6 b)]
 ·rw[Fb (Lq b)]
  by_cases c:bt s a=61
  ·rw[if_pos (.inr (.inl c)),G9 (I6 c)]
  ·rw[Fb (Lq c)]
   by_cases d:bt s a=33
   ·rw[if_pos (.inr (.inr d)),I6 d]
   ·rw[if_neg (by omega),Lq d]
theorem ZC {s:ByteArray}{a:Nat}(h:kd (bt s a)=0∨kd (bt s a)=1)(d:Nat)(q:Nat→Nat×Nat):Fl s d q a=lf (A5 s) a:=by
 unfold Fl
 rcases h with h|h
 ·rw[h]
  have b:¬(97≤bt s a∧bt s a≤122):=by intro e;unfold kd at h;repeat' split at h <;> try omega
  have e1:Ba s 0 a=(false,a):=rfl
  rw[E6 e1,Bi (by omega),E6 (show A5 s a=(false,a) from N2 b)]
 ·rw[h]
  have e1:Ba s 1=A5 s:=by funext x;rfl
  rw[e1];unfold bE;split
  ·rename_i c;show (0,(lf (A5 s) a).2)=_;exact Prod.ext c.symm rfl
  ·rfl
end Go.Proofs.YtdinjjmcmfjbfaaGreatDoor.Pl
namespace Go.Proofs.YtdinjjmcmfjbfaaGreatDoor.Mo
def nn (l:Bag):Prop:=∀r,0≤cnt l r
theorem Vo {l:Bag}(h:nn l){e:Row×Int}(a:e∈Af l):1≤e.2:=by
 have b:=(Aq l).Dl a;have c:=(Aq l).nz a;have d:=h e.1
 rw[As] at b
 omega
theorem M0 {l:Bag}(h:∀e∈l,0≤e.2){g k:Row→Int}(hg:∀e∈l,g e.1≤k e.1):Ce l g≤Ce l k:=by
 induction l with
 |nil=>exact mP _
 |cons e l b =>
  have c:=mA (hg e (by simp)) (h e (by simp))
  have d:=b (fun x a=>h x (by simp[a])) (fun x a=>hg x (by simp[a]))
  simp only[Ce];omega
theorem Ek {l:Bag}(h:nn l){g k:Row→Int}(hg:∀r,g r≤k r):Ce l g≤Ce l k:=by
 rw[←Fc l g,←Fc l k]
 exact M0 (fun e a=>by have:=Vo h a;omega) (fun e _=>hg e.1)
theorem Ti {l:Bag}(h:nn l){g:Row→Int}(hg:∀r,0≤g r):0≤Ce l g:=by
 have:=Ek h hg;rw[Ro] at this;exact this
theorem L2 {l:Bag}(h:∀g:Row→Int,(∀r,0≤g r)→0≤Ce l g):nn l:=fun r=>by
 rw[Ev];exact h _ (fun x=>by split <;> omega)
theorem M1 {l m:Bag}(h:∀g:Row→Int,Ce l g=Ce m g):Be l m:=fun r=>by rw[Ev,Ev];exact h _
theorem CK {l:Bag}(h:nn l){g:Row→Int}(hg:∀r,0≤g r){e:Row×Int}(c:e∈Af l):g e.1≤Ce l g:=by
 rw[←Fc l g]
 have key:∀{m:Bag},(∀x∈m,1≤x.2)→e∈m→g e.1≤Ce m g:=by
  intro m b a
  induction m with
  |nil=>cases a
  |cons y m d =>
   have hr:0≤Ce m g:=by
    have:=M0 (l:=m) (fun x a=>by have:=b x (by simp[a]);omega) (g:=fun _=>0) (k:=g) (fun x _=>hg x.1)
    rw[Ro] at this;exact this
   have f:g y.1≤y.2*g y.1:=by
    have:=mN (b y (by simp)) (hg y.1)
    omega
   have i:=hg y.1
   simp only[Ce]
   rcases lQ.1 a with rfl|a
   ·omega
   ·have:=d (fun x a=>b x (by simp[a])) a;omega
 exact key (fun x a=>Vo h a) c
inductive L3 where
 |lt
 |eq
 |ne
 deriving DecidableEq
inductive Cy where
 |col (c:Nat)
 |val (v:V)
 deriving DecidableEq
def Al (r:Row)(c:Nat):V:=r.getD c (.num 0)
def L5:L3→V→V→Bool
 | .lt,a,b=>vlt a b
 | .eq,a,b=>decide (a=b)
 | .ne,a,b=> !decide (a=b)
def Jf (x:Cy)(r:Row):V:=match x with
 | .col c=>Al r c
 | .val v=>v
def Ay (cs:List Nat)(r:Row):Row:=cs.map (Al r)
def dI:V→Int
 | .num n=>n
 | .txt _=>0
def sv (s:Option Nat)(r:Row):Int:=match s with
 |none=>1
 |some m=>dI (Al r m)
def Cr (p:Row→Bool)(l:Bag):Bag:=l.filter fun e=>p e.1
def B1 (cs:List Nat)(l:Bag):Bag:=l.map fun e=>(Ay cs e.1,e.2)
def Gm (n m:Nat)(a b:Bag):Bag:=a.flatMap fun x=>(Cr (fun y=>decide (Al x.1 n=Al y m)) b).map fun y=>(x.1++y.1,x.2*y.2)
def I7 (l:Bag):Bag:=(Af l).map fun e=>(e.1,1)
def Ud (cs:List Nat)(l:Bag):Bag:=Af ((Af l).map fun e=>(Ay cs e.1,1))
def Zz (cs:List Nat)(s:Option Nat)(l:Bag)(k:Row):Int:=Ce l (fun r=>if Ay cs r=k then sv s r else 0)
def Ir (cs:List Nat)(s:Option Nat)(l:Bag):Bag:=(Ud cs l).map fun k=>(k.1++[.num (Zz cs s l k.1)],1)
theorem L6 (p:Row→Bool)(l:Bag)(g:Row→Int):Ce (Cr p l) g=Ce l (fun r=>if p r then g r else 0):=by
 induction l with
 |nil=>rfl
 |cons e l b =>
  have a:Ce (List.filter (fun e=>p e.1) l) g=_:=b
  simp only[Cr,List.filter_cons]
  by_cases h:p e.1=true
  ·rw[if_pos h];simp only[Ce,a,h,if_true]
  ·rw[if_neg h];simp only[Ce,a];rw[if_neg h];omega
theorem ZD (f:Row→Row)(l:Bag)(g:Row→Int):Ce (l.map fun e=>(f e.1,e.2)) g=Ce l (fun r=>g (f r)):=by
 induction l with
 |nil=>rfl
 |cons e l a=>simp only[lS,Ce,a]
theorem L7 (cs:List Nat)(l:Bag)(g:Row→Int):Ce (B1 cs l) g=Ce l (fun r=>g (Ay cs r)):=ZD _ l g
theorem NI (t:Int)(f:Row→Row)(l:Bag)(g:Row→Int):Ce (l.map fun e=>(f e.1,t*e.2)) g=t*Ce l (fun r=>g (f r)):=by
 induction l with
 |nil=>simp[Ce]
 |cons e l a=>simp only[lS,Ce,a,nV,oC]
theorem L8 (n m:Nat)(a b:Bag)(g:Row→Int):Ce (Gm n m a b) g=Ce a (fun x=>Ce b (fun y=>if decide (Al x n=Al y m) then g (x++y) else 0)):=by
 induction a with
 |nil=>rfl
 |cons e a c =>
  have d:Ce (List.flatMap (fun x=>(Cr (fun y=>decide (Al x.1 n=Al y m)) b).map fun y=>(x.1++y.1,x.2*y.2)) a) g=_:=c
  simp only[Gm,mE,Gz,d,Ce]
  rw[NI e.2 (fun y=>e.1++y),L6]
theorem Hf {p:Row→Bool}{l m:Bag}(h:Be l m):Be (Cr p l) (Cr p m):=M1 fun g=>by rw[L6,L6,h.lin]
theorem Fy {cs:List Nat}{l m:Bag}(h:Be l m):Be (B1 cs l) (B1 cs m):=M1 fun g=>by rw[L7,L7,h.lin]
theorem Ph {n m:Nat}{a a' b b':Bag}(h:Be a a')(k:Be b b'):Be (Gm n m a b) (Gm n m a' b'):=M1 fun g=>by
 rw[L8,L8,h.lin]
 exact Qg _ fun e _=>k.lin _
theorem Tj {l m:Bag}(h:Be l m):I7 l=I7 m:=by unfold I7;rw[h.canon]
theorem Vp {cs:List Nat}{s:Option Nat}{l m:Bag}(h:Be l m):Ir cs s l=Ir cs s m:=by
 unfold Ir Ud Zz;rw[h.canon]
 congr 1;funext k;rw[h.lin]
theorem Lb (p:Row→Bool)(l m:Bag):Cr p (l++m)=Cr p l++Cr p m:=List.filter_append _ _
theorem M2 (cs:List Nat)(l m:Bag):B1 cs (l++m)=B1 cs l++B1 cs m:=lF
theorem ZE {p:Row→Bool}{l:Bag}(h:nn l):nn (Cr p l):=L2 fun g hg=>by
 rw[L6];exact Ti h fun r=>by split;exact hg r;exact mP _
theorem SL {cs:List Nat}{l:Bag}(h:nn l):nn (B1 cs l):=L2 fun g hg=>by rw[L7];exact Ti h fun r=>hg _
theorem SM {n m:Nat}{a b:Bag}(h:nn a)(k:nn b):nn (Gm n m a b):=L2 fun g hg=>by
 rw[L8];exact Ti h fun x=>Ti k fun y=>by split;exact hg _;exact mP _
theorem NJ {a b:Bag}(h:nn a)(k:nn b):nn (a++b):=fun r=>by rw[Am];have:=h r;have:=k r;omega
theorem KW {l:Bag}(f:Row×Int→Row):nn (l.map fun e=>(f e,1)):=L2 fun g hg=>by
 induction l with
 |nil=>exact mP _
 |cons e l a=>simp only[lS,Ce];have:=hg (f e);omega
theorem SN (l:Bag):nn (I7 l):=KW _
theorem ZF (cs:List Nat)(s:Option Nat)(l:Bag):nn (Ir cs s l):=KW _
def wv:V→Int
 | .num n=>n.natAbs
 | .txt _=>0
def wt:Row→Int
 | []=>1
 |v::r=>max (wv v) (wt r)
theorem M3 (r:Row):1≤wt r:=by
 induction r with
 |nil=>exact mP _
 |cons v r a=>simp only[wt];omega
theorem Ue (r:Row):0≤wt r:=by have:=M3 r;omega
theorem CM {v:V}{r:Row}(h:v∈r):wv v≤wt r:=by
 induction r with
 |nil=>cases h
 |cons x r a =>
  simp only[wt]
  rcases lQ.1 h with rfl|h
  ·omega
  ·have:=a h;omega
theorem KX {r:Row}{b:Int}(a:1≤b)(h:∀v∈r,wv v≤b):wt r≤b:=by
 induction r with
 |nil=>exact a
 |cons x r c=>simp only[wt];have:=h x (by simp);have:=c (fun v hv=>h v (by simp[hv]));omega
theorem NK (r s:Row):wt (r++s)≤wt r+wt s:=by
 refine KX (by have:=M3 r;have:=M3 s;omega) fun v hv=>?_
 have:=M3 r
 have:=M3 s
 rcases lC.1 hv with h|h
 ·have:=CM h;omega
 ·have:=CM h;omega
theorem KY (r:Row)(c:Nat):wv (Al r c)≤wt r:=by
 unfold Al
 rw[lI]
 cases h:r[c]? with
 |none=>have:=M3 r;simp[wv];omega
 |some v=>simp;exact CM (kW h)
theorem CN (cs:List Nat)(r:Row):wt (Ay cs r)≤wt r:=by
 refine KX (M3 r) fun v hv=>?_
 obtain⟨c,_,rfl⟩:=lD.1 hv
 exact KY r c
theorem cR (s:Option Nat)(r:Row): -wt r≤sv s r∧sv s r≤wt r:=by
 have b:=M3 r
 cases s with
 |none=>simp only[sv];omega
 |some m =>
  have h:=KY r m
  simp only[sv]
  cases a:Al r m with
  |num n=>rw[a] at h;simp only[wv,dI] at *;omega
  |txt t=>simp only[dI];omega
def Nr (l:Bag):Int:=Ce l (fun _=>1)
def Wt (l:Bag):Int:=Ce l wt
theorem KZ {l:Bag}(h:nn l):0≤Nr l:=Ti h fun _=>by omega
theorem cS {l:Bag}(h:nn l):0≤Wt l:=Ti h Ue
theorem Pi {l:Bag}(h:nn l)(r:Row):cnt l r≤Nr l:=by rw[Ev];exact Ek h fun x=>by split <;> omega
theorem NL {l:Bag}(h:nn l){e:Row×Int}(a:e∈Af l){v:V}(hv:v∈e.1):wv v≤Wt l :=
 lZ (CM hv) (CK h Ue a)
theorem Ma {l:Bag}(h:nn l):((Af l).length:Int)≤Nr l:=by
 unfold Nr
 rw[←Fc]
 have key:∀{m:Bag},(∀x∈m,1≤x.2)→(m.length:Int)≤Ce m (fun _=>1):=by
  intro m b
  induction m with
  |nil=>exact mP _
  |cons y m c =>
   have:=b y (by simp)
   have:=c (fun x a=>b x (by simp[a]))
   simp only[Ce,lN];omega
 exact key fun x a=>Vo h a
theorem GS {l m:Bag}(h:Be l m):Nr l=Nr m:=h.lin _
theorem dJ {l m:Bag}(h:Be l m):Wt l=Wt m:=h.lin _
theorem LA {p:Row→Bool}{l:Bag}(h:nn l):Nr (Cr p l)≤Nr l:=by unfold Nr;rw[L6];exact Ek h fun r=>by split <;> omega
theorem ZH {p:Row→Bool}{l:Bag}(h:nn l):Wt (Cr p l)≤Wt l:=by
 unfold Wt;rw[L6];exact Ek h fun r=>by have:=Ue r;split <;> omega
theorem CO (cs:List Nat)(l:Bag):Nr (B1 cs l)=Nr l:=L7 _ _ _
theorem SO {cs:List Nat}{l:Bag}(h:nn l):Wt (B1 cs l)≤Wt l:=by unfold Wt;rw[L7];exact Ek h fun r=>CN cs r
theorem Ye (a b:Bag):Nr (a++b)=Nr a+Nr b:=Gz _ _ _
theorem NM (a b:Bag):Wt (a++b)=Wt a+Wt b:=Gz _ _ _
theorem Tl (l:Bag)(c:Int):Ce l (fun _=>c)=c*Nr l:=by
 have:=Uy l c (fun _=>1);simp only[Int.mul_one] at this;exact this
theorem SP {n m:Nat}{a b:Bag}(h:nn a)(k:nn b):Nr (Gm n m a b)≤Nr a*Nr b:=by
 unfold Nr;rw[L8]
 have c:Ce a (fun x=>Ce b (fun y=>if decide (Al x n=Al y m)=true then 1 else 0))≤Ce a (fun _=>Nr b):=Ek h fun x=>Ek k fun y=>by split <;> omega
 rw[Tl,mZ] at c;exact c
theorem SQ {n m:Nat}{a b:Bag}(h:nn a)(k:nn b):Wt (Gm n m a b)≤Nr b*Wt a+Nr a*Wt b:=by
 unfold Wt;rw[L8]
 have c:Ce a (fun x=>Ce b (fun y=>if decide (Al x n=Al y m)=true then wt (x++y) else 0))≤Ce a (fun x=>Nr b*wt x+Wt b):=by
  refine Ek h fun x=>?_
  have d:Ce b (fun y=>if decide (Al x n=Al y m)=true then wt (x++y) else 0)≤Ce b (fun y=>wt x+wt y):=Ek k fun y=>by
   have:=NK x y
   have:=Ue x
   have:=Ue y
   split <;> omega
  rw[Zt,Tl,mZ] at d
  exact d
 rw[Zt,Uy,Tl,mZ (Wt b)] at c
 exact c
theorem LB {l:Bag}(h:nn l){g:Row→Int}(hg:∀r,0≤g r):Ce ((Af l).map fun e=>(e.1,1)) g≤Ce l g:=by
 rw[←Fc l g]
 have key:∀{m:Bag},(∀x∈m,1≤x.2)→Ce (m.map fun e=>(e.1,1)) g≤Ce m g:=by
  intro m b
  induction m with
  |nil=>exact mP _
  |cons y m c =>
   have d:=mN (b y (by simp)) (hg y.1)
   have f:=c (fun x a=>b x (by simp[a]))
   simp only[lS,Ce];omega
 exact key fun x a=>Vo h a
theorem SR {l:Bag}(h:nn l):Nr (I7 l)≤Nr l:=LB h fun _=>by omega
theorem SS {l:Bag}(h:nn l):Wt (I7 l)≤Wt l:=LB h Ue
theorem Cg.nodup {l:Bag}(h:Cg l):(l.map (·.1)).Nodup:=by
 induction l with
 |nil=>simp
 |cons e l a =>
  rw[lS,mJ]
  refine⟨fun b=>?_,a h.2.2⟩
  obtain⟨x,c,d⟩:=lD.1 b
  have:=h.1 x c
  rw[d,D5.irrefl] at this;cases this
theorem CP {l:Bag}{r:Row}(h:cnt l r≠0):∃x∈Af l,x.1=r:=by rw[←As] at h;exact Cg.Dd h
theorem CQ {cs:List Nat}{l:Bag}{k:Row×Int}(a:k∈Ud cs l):∃e∈Af l,Ay cs e.1=k.1:=by
 have b:=(Aq _).Dl a;have c:=(Aq _).nz a
 rw[As] at b
 obtain⟨x,d,f⟩:=Cg.Dd (l:=(Af l).map fun e=>(Ay cs e.1,(1:Int))) (r:=k.1) (by rw[b];exact c)
 obtain⟨e,g,rfl⟩:=lD.1 d
 exact⟨e,g,f⟩
theorem CR {α:Type}:∀{ks:List α} {f:α→Int},(∀k∈ks,f k=0)→(ks.map f).sum=0
 | [],_,_=>rfl
 |k::ks,f,h=>by
  have b:=h k (by simp)
  have c:=CR (ks:=ks) (f:=f) (fun x a=>h x (by simp[a]))
  simp only[lS,nW];omega
theorem ZI {cs:List Nat}{l:Bag}(h:nn l){g:Row→Int}(hg:∀r,0≤g r):∀{ks:List Row},ks.Nodup→(ks.map fun k=>Ce l (fun r=>if Ay cs r=k then g r else 0)).sum≤Ce l g:=by
 intro ks a
 have c:(ks.map fun k=>Ce l (fun r=>if Ay cs r=k then g r else 0)).sum=Ce l (fun r=>(ks.map fun k=>if Ay cs r=k then g r else 0).sum):=by
  clear a
  induction ks with
  |nil=>simp[Ro]
  |cons k ks b=>simp only[lS,nW];rw[Zt,b]
 rw[c]
 refine Ek h fun r=>?_
 clear c
 induction ks with
 |nil=>simpa using hg r
 |cons k ks b =>
  rw[mJ] at a
  simp only[lS,nW]
  by_cases hr:Ay cs r=k
  ·have d:(ks.map fun k=>if Ay cs r=k then g r else 0).sum=0:=by
    have:∀x∈ks,(if Ay cs r=x then g r else 0)=0:=fun x f=>by
     rw[if_neg];intro e;rw[hr] at e;subst e;exact a.1 f
    exact CR this
   rw[if_pos hr,d];omega
  ·rw[if_neg hr];have:=b a.2;omega
theorem Z1 (ks:Bag)(f:Row×Int→Row)(g:Row→Int):Ce (ks.map fun k=>(f k,1)) g=(ks.map fun k=>g (f k)).sum:=by
 induction ks with
 |nil=>rfl
 |cons k ks a=>simp only[lS,Ce,nW,a];omega
theorem SU {α:Type}:∀{ks:List α} {f g:α→Int},(∀k∈ks,f k≤g k)→(ks.map f).sum≤(ks.map g).sum
 | [],_,_,_=>mP _
 |k::ks,f,g,h=>by
  have b:=h k (by simp)
  have c:=SU (ks:=ks) (f:=f) (g:=g) (fun x a=>h x (by simp[a]))
  simp only[lS,nW];omega
theorem Yf {cs:List Nat}{s:Option Nat}{l:Bag}(h:nn l){G g:Row→Int}(hg:∀r,0≤g r)(a:∀k∈Ud cs l,G (k.1++[.num (Zz cs s l k.1)])≤Ce l (fun r=>if Ay cs r=k.1 then g r else 0)):Ce (Ir cs s l) G≤Ce l g:=by
 unfold Ir
 rw[Z1]
 refine lZ (SU a) ?_
 have:=ZI (cs:=cs) h hg (Aq ((Af l).map fun e=>(Ay cs e.1,(1:Int)))).nodup
 rw[mH] at this
 exact this
theorem LC {cs:List Nat}{l:Bag}(h:nn l){g:Row→Int}(hg:∀r,0≤g r){k:Row×Int}(b:k∈Ud cs l):∃r,Ay cs r=k.1∧g r≤Ce l (fun r=>if Ay cs r=k.1 then g r else 0):=by
 obtain⟨e,c,a⟩:=CQ b
 refine⟨e.1,a,?_⟩
 have:=CK h (g:=fun r=>if Ay cs r=k.1 then g r else 0) (fun r=>by split;exact hg r;exact mP _) c
 simp only[if_pos a] at this
 exact this
theorem ZJ {cs:List Nat}{s:Option Nat}{l:Bag}(h:nn l):Nr (Ir cs s l)≤Nr l :=
 Yf h (fun _=>by omega) fun k a=>by obtain⟨r,_,b⟩:=LC (g:=fun _=>1) h (fun _=>by omega) a;exact b
theorem ZK {cs:List Nat}{s:Option Nat}{l:Bag}(h:nn l)(k:Row): -Ce l (fun r=>if Ay cs r=k then wt r else 0)≤Zz cs s l k∧Zz cs s l k≤Ce l (fun r=>if Ay cs r=k then wt r else 0):=by
 constructor
 ·have a:=Ek h (g:=fun r=>(-1)*(if Ay cs r=k then wt r else 0)) (k:=fun r=>if Ay cs r=k then sv s r else 0) fun r=>by have:=cR s r;split <;> omega
  rw[Uy] at a
  unfold Zz;omega
 ·exact Ek h fun r=>by have:=cR s r;split <;> omega
theorem ZL {cs:List Nat}{s:Option Nat}{l:Bag}(h:nn l):Wt (Ir cs s l)≤Wt l :=
 Yf h Ue fun k a=>by
  obtain⟨r,hr,b⟩:=LC (g:=wt) h Ue a
  have c:=ZK (cs:=cs) (s:=s) h k.1;have d:=M3 r
  refine KX (by omega) fun v hv=>?_
  rcases lC.1 hv with hv|hv
  ·rw[←hr] at hv
   exact lZ (lZ (CM hv) (CN cs r)) (hr ▸ b)
  ·simp at hv;subst hv
   simp only[wv];omega
inductive Q where
 |tab (nm:List UInt8)
 |sel (c:Nat) (k:L3) (x:Cy) (q:Q)
 |pick (cs:List Nat) (q:Q)
 |join (n m:Nat) (q r:Q)
 |uni (q r:Q)
 |dist (q:Q)
 |grp (cs:List Nat) (s:Option Nat) (q:Q)
 deriving DecidableEq
def Ac:Q→List (List UInt8)
 | .tab nm=>[nm]
 | .sel _ _ _ q=>Ac q
 | .pick _ q=>Ac q
 | .join _ _ q r=>Ac q++Ac r
 | .uni q r=>Ac q++Ac r
 | .dist q=>Ac q
 | .grp _ _ q=>Ac q
def Ag:Q→Nat
 | .tab _=>0
 | .sel _ _ _ q=>Ag q
 | .pick _ q=>Ag q
 | .join _ _ q r=>Ag q+Ag r+1
 | .uni q r=>Ag q+Ag r
 | .dist q=>Ag q
 | .grp _ _ q=>Ag q
def Ls (c:Nat)(k:L3)(x:Cy)(r:Row):Bool:=L5 k (Al r c) (Jf x r)
def Av (f:Nat→Bag):Nat→Q→Bag
 |i,.tab _=>f i
 |i,.sel c k x q=>Cr (Ls c k x) (Av f i q)
 |i,.pick cs q=>B1 cs (Av f i q)
 |i,.join n m q r=>Gm n m (Av f i q) (Av f (i+(Ac q).length) r)
 |i,.uni q r=>Av f i q++Av f (i+(Ac q).length) r
 |i,.dist q=>I7 (Av f i q)
 |i,.grp cs s q=>Ir cs s (Av f i q)
theorem M4 (q:Q):1≤(Ac q).length:=by
 induction q <;> simp only[Ac,kU,lY] <;> omega
def Bd (f:List UInt8→Bag):Q→Bag
 | .tab nm=>f nm
 | .sel c k x q=>Cr (Ls c k x) (Bd f q)
 | .pick cs q=>B1 cs (Bd f q)
 | .join n m q r=>Gm n m (Bd f q) (Bd f r)
 | .uni q r=>Bd f q++Bd f r
 | .dist q=>I7 (Bd f q)
 | .grp cs s q=>Ir cs s (Bd f q)
theorem A7 {f g:Nat→Bag}:∀(q:Q) (i:Nat),(∀j,i≤j→j<i+(Ac q).length→Be (f j) (g j))→Be (Av f i q) (Av g i q)
 | .tab _,i,h=>h i (kZ _) (by simp[Ac])
 | .sel _ _ _ q,i,h=>Hf (A7 q i h)
 | .pick _ q,i,h=>Fy (A7 q i h)
 | .join _ _ q r,i,h=>Ph (A7 q i fun j a b=>h j a (by simp only[Ac,kU];omega)) (A7 r _ fun j a b=>h j (by omega) (by simp only[Ac,kU];omega))
 | .uni q r,i,h=>Be.append (A7 q i fun j a b=>h j a (by simp only[Ac,kU];omega)) (A7 r _ fun j a b=>h j (by omega) (by simp only[Ac,kU];omega))
 | .dist q,i,h=>by simp only[Av];rw[Tj (A7 q i h)];exact Be.refl _
 | .grp _ _ q,i,h=>by simp only[Av];rw[Vp (A7 q i h)];exact Be.refl _
theorem Ew {f g:List UInt8→Bag}:∀(q:Q),(∀nm∈Ac q,Be (f nm) (g nm))→Be (Bd f q) (Bd g q)
 | .tab nm,h=>h nm (by simp[Ac])
 | .sel _ _ _ q,h=>Hf (Ew q h)
 | .pick _ q,h=>Fy (Ew q h)
 | .join _ _ q r,h=>Ph (Ew q fun j a=>h j (by simp[Ac,a])) (Ew r fun j a=>h j (by simp[Ac,a]))
 | .uni q r,h=>Be.append (Ew q fun j a=>h j (by simp[Ac,a])) (Ew r fun j a=>h j (by simp[Ac,a]))
 | .dist q,h=>by simp only[Bd];rw[Tj (Ew q h)];exact Be.refl _
 | .grp _ _ q,h=>by simp only[Bd];rw[Vp (Ew q h)];exact Be.refl _
theorem Fz {f:Nat→Bag}{g:List UInt8→Bag}:∀(q:Q) (i:Nat),(∀j nm,(Ac q)[j]? =some nm→Be (f (i+j)) (g nm))→Be (Av f i q) (Bd g q)
 | .tab nm,i,h=>h 0 nm rfl
 | .sel _ _ _ q,i,h=>Hf (Fz q i h)
 | .pick _ q,i,h=>Fy (Fz q i h)
 | .join _ _ q r,i,h=>Ph
  (Fz q i fun j nm a=>h j nm (by simp only[Ac];rw[lA (kS.1 a).1];exact a))
  (Fz r _ fun j nm a=>by have:=h ((Ac q).length+j) nm (by simp only[Ac];rw[kY (by omega),mV];exact a);rw[mT];exact this)
 | .uni q r,i,h=>Be.append
  (Fz q i fun j nm a=>h j nm (by simp only[Ac];rw[lA (kS.1 a).1];exact a))
  (Fz r _ fun j nm a=>by have:=h ((Ac q).length+j) nm (by simp only[Ac];rw[kY (by omega),mV];exact a);rw[mT];exact this)
 | .dist q,i,h=>by simp only[Av,Bd];rw[Tj (Fz q i h)];exact Be.refl _
 | .grp _ _ q,i,h=>by simp only[Av,Bd];rw[Vp (Fz q i h)];exact Be.refl _
theorem Cv {f:Nat→Bag}(hf:∀i,nn (f i)):∀(q:Q) (i:Nat),nn (Av f i q)
 | .tab _,i=>hf i
 | .sel _ _ _ q,i=>ZE (Cv hf q i)
 | .pick _ q,i=>SL (Cv hf q i)
 | .join _ _ q r,i=>SM (Cv hf q i) (Cv hf r _)
 | .uni q r,i=>NJ (Cv hf q i) (Cv hf r _)
 | .dist _,_=>SN _
 | .grp _ _ _,_=>ZF _ _ _
def bN (T:Int):Q→Int
 | .tab _=>T
 | .sel _ _ _ q=>bN T q
 | .pick _ q=>bN T q
 | .join _ _ q r=>bN T q*bN T r
 | .uni q r=>bN T q+bN T r
 | .dist q=>bN T q
 | .grp _ _ q=>bN T q
def bW (T:Int):Q→Int
 | .tab _=>10000*T
 | .sel _ _ _ q=>bW T q
 | .pick _ q=>bW T q
 | .join _ _ q r=>bN T r*bW T q+bN T q*bW T r
 | .uni q r=>bW T q+bW T r
 | .dist q=>bW T q
 | .grp _ _ q=>bW T q
theorem Lc {T:Int}(a:0≤T):∀q,0≤bN T q
 | .tab _=>a
 | .sel _ _ _ q=>Lc a q
 | .pick _ q=>Lc a q
 | .join _ _ q r=>mF (Lc a q) (Lc a r)
 | .uni q r=>Int.add_nonneg (Lc a q) (Lc a r)
 | .dist q=>Lc a q
 | .grp _ _ q=>Lc a q
theorem Qi {T:Int}(a:0≤T):∀q,0≤bW T q
 | .tab _=>by simp only[bW];omega
 | .sel _ _ _ q=>Qi a q
 | .pick _ q=>Qi a q
 | .join _ _ q r=>Int.add_nonneg (mF (Lc a r) (Qi a q)) (mF (Lc a q) (Qi a r))
 | .uni q r=>Int.add_nonneg (Qi a q) (Qi a r)
 | .dist q=>Qi a q
 | .grp _ _ q=>Qi a q
theorem H3 {a b c d:Int}(h:a≤c)(k:b≤d)(e:0≤b)(f:0≤c):a*b≤c*d :=
 lZ (mN h e) (mA k f)
structure It (f:Nat→Bag) (T:Int):Prop where
 nn:∀i,Mo.nn (f i)
 rows:∀i,Nr (f i)≤T
 wts:∀i,Wt (f i)≤10000*T
theorem Gw {f:Nat→Bag}{T:Int}(h:It f T)(a:0≤T):∀(q:Q) (i:Nat),Nr (Av f i q)≤bN T q
 | .tab _,i=>h.rows i
 | .sel _ _ _ q,i=>lZ (LA (Cv h.nn q i)) (Gw h a q i)
 | .pick _ q,i=>by simp only[Av,CO];exact Gw h a q i
 | .join _ _ q r,i=>lZ (SP (Cv h.nn q i) (Cv h.nn r _)) (H3 (Gw h a q i) (Gw h a r _) (KZ (Cv h.nn r _)) (Lc a q))
 | .uni q r,i=>by simp only[Av,Ye];exact oG (Gw h a q i) (Gw h a r _)
 | .dist q,i=>lZ (SR (Cv h.nn q i)) (Gw h a q i)
 | .grp _ _ q,i=>lZ (ZJ (Cv h.nn q i)) (Gw h a q i)
theorem Jg {f:Nat→Bag}{T:Int}(h:It f T)(a:0≤T):∀(q:Q) (i:Nat),Wt (Av f i q)≤bW T q
 | .tab _,i=>h.wts i
 | .sel _ _ _ q,i=>lZ (ZH (Cv h.nn q i)) (Jg h a q i)
 | .pick _ q,i=>lZ (SO (Cv h.nn q i)) (Jg h a q i)
 | .join _ _ q r,i=>lZ (SQ (Cv h.nn q i) (Cv h.nn r _))
  (oG (H3 (Gw h a r _) (Jg h a q i) (cS (Cv h.nn q i)) (Lc a r)) (H3 (Gw h a q i) (Jg h a r _) (cS (Cv h.nn r _)) (Lc a q)))
 | .uni q r,i=>by simp only[Av,NM];exact oG (Jg h a q i) (Jg h a r _)
 | .dist q,i=>lZ (SS (Cv h.nn q i)) (Jg h a q i)
 | .grp _ _ q,i=>lZ (ZL (Cv h.nn q i)) (Jg h a q i)
def pw (B:Int):Nat→Int
 |0=>1
 |n+1=>B*pw B n
theorem H7 {B:Int}(hB:1≤B):∀n,1≤pw B n
 |0=>mP _
 |n+1=>by
  have a:=H7 hB n
  have b:=mN hB (show 0≤pw B n by omega)
  simp only[pw];omega
theorem Z3 (B:Int)(a b:Nat):pw B (a+b)=pw B a*pw B b:=by
 induction a with
 |zero=>simp[pw]
 |succ a c=>rw[Nat.add_right_comm];simp only[pw];rw[c,oC]
theorem Pj {B:Int}(hB:1≤B){a b:Nat}(h:a≤b):pw B a≤pw B b:=by
 obtain⟨c,rfl⟩:=Nat.exists_eq_add_of_le h
 rw[Z3]
 have d:=H7 hB a
 have e:=mA (H7 hB c) (show 0≤pw B a by omega)
 omega
theorem Nt {T B:Int}(a:1≤T):∀(q:Q),T*(Ac q).length≤B→bN T q≤(Ac q).length*T*pw B (Ag q)
 | .tab _,h=>by simp[bN,Ac,Ag,pw]
 | .sel _ _ _ q,h=>Nt a q h
 | .pick _ q,h=>Nt a q h
 | .dist q,h=>Nt a q h
 | .grp _ _ q,h=>Nt a q h
 | .uni q r,h=>by
   have hB:1≤B:=by
    have:=M4 (.uni q r)
    have b:T*1≤T*((Ac (.uni q r)).length:Int):=mA (by omega) (by omega)
    omega
   simp only[Ac,kU,nL,nV] at h
   have c:0≤T*((Ac q).length:Int):=mF (by omega) (by omega)
   have d:0≤T*((Ac r).length:Int):=mF (by omega) (by omega)
   have e:=Nt (B:=B) a q (by omega)
   have b:=Nt (B:=B) a r (by omega)
   have g:((Ac q).length:Int)*T*pw B (Ag q)≤((Ac q).length:Int)*T*pw B (Ag q+Ag r):=mA (Pj hB (by omega)) (by rw[mZ];exact c)
   have i:((Ac r).length:Int)*T*pw B (Ag r)≤((Ac r).length:Int)*T*pw B (Ag q+Ag r):=mA (Pj hB (by omega)) (by rw[mZ];exact d)
   simp only[bN,Ac,Ag,kU,nL,oD]
   omega
 | .join n m q r,h=>by
   have hB:1≤B:=by
    have:=M4 (.join n m q r)
    have b:T*1≤T*((Ac (.join n m q r)).length:Int):=mA (by omega) (by omega)
    omega
   simp only[Ac,kU,nL,nV] at h
   have c:0≤T*((Ac q).length:Int):=mF (by omega) (by omega)
   have d:0≤T*((Ac r).length:Int):=mF (by omega) (by omega)
   have e:=Nt (B:=B) a q (by omega)
   have b:=Nt (B:=B) a r (by omega)
   have p1:=H7 hB (Ag q);have p2:=H7 hB (Ag r);have e1:((Ac q).length:Int)*T=T*(Ac q).length:=mZ _ _;have j:((Ac r).length:Int)*T=T*(Ac r).length:=mZ _ _
   have f:bN T r≤B*pw B (Ag r):=lZ b (mN (by omega) (by omega))
   have k:=H3 e f (Lc (by omega) r) (mF (by omega) (by omega))
   have l:((Ac q).length:Int)*T*pw B (Ag q)*(B*pw B (Ag r))=((Ac q).length:Int)*T*pw B (Ag q+Ag r+1):=by
    have:pw B (Ag q+Ag r+1)=B*(pw B (Ag q)*pw B (Ag r)):=by simp only[pw,Z3]
    rw[this,oC,oC,Int.mul_left_comm (pw B (Ag q)) B,oC]
   have o:0≤((Ac r).length:Int)*T*pw B (Ag q+Ag r+1):=mF (by omega) (by have:=H7 hB (Ag q+Ag r+1);omega)
   simp only[bN,Ac,Ag,kU,nL,oD]
   omega
theorem Rx {T B:Int}(a:1≤T):∀(q:Q),T*(Ac q).length≤B→bW T q≤10000*((Ag q:Int)+1)*((Ac q).length*T*pw B (Ag q))
 | .tab _,_=>by simp[bW,Ac,Ag,pw]
 | .sel _ _ _ q,h=>Rx a q h
 | .pick _ q,h=>Rx a q h
 | .dist q,h=>Rx a q h
 | .grp _ _ q,h=>Rx a q h
 | .uni q r,h=>by
   have hB:1≤B:=by
    have:=M4 (.uni q r)
    have b:T*1≤T*((Ac (.uni q r)).length:Int):=mA (by omega) (by omega)
    omega
   simp only[Ac,kU,nL,nV] at h
   have g:0≤T*((Ac q).length:Int):=mF (by omega) (by omega)
   have i:0≤T*((Ac r).length:Int):=mF (by omega) (by omega)
   have j:=Rx (B:=B) a q (by omega)
   have b:=Rx (B:=B) a r (by omega)
   have o:((Ac q).length:Int)*T*pw B (Ag q)≤((Ac q).length:Int)*T*pw B (Ag q+Ag r):=mA (Pj hB (by omega)) (by rw[mZ];exact g)
   have p:((Ac r).length:Int)*T*pw B (Ag r)≤((Ac r).length:Int)*T*pw B (Ag q+Ag r):=mA (Pj hB (by omega)) (by rw[mZ];exact i)
   have p0:=H7 hB (Ag q);have p1:=H7 hB (Ag r)
   have k:0≤((Ac q).length:Int)*T*pw B (Ag q):=mF (by rw[mZ];exact g) (by omega)
   have l:0≤((Ac r).length:Int)*T*pw B (Ag r):=mF (by rw[mZ];exact i) (by omega)
   have d:bW T q≤10000*((Ag q+Ag r:Int)+1)*(((Ac q).length:Int)*T*pw B (Ag q+Ag r)):=lZ j (H3 (by omega) o k (by omega))
   have f:bW T r≤10000*((Ag q+Ag r:Int)+1)*(((Ac r).length:Int)*T*pw B (Ag q+Ag r)):=lZ b (H3 (by omega) p l (by omega))
   have e:10000*(((Ag (.uni q r):Nat):Int)+1)*(((Ac (.uni q r)).length:Int)*T*pw B (Ag (.uni q r)))=10000*((Ag q+Ag r:Int)+1)*(((Ac q).length:Int)*T*pw B (Ag q+Ag r))+10000*((Ag q+Ag r:Int)+1)*(((Ac r).length:Int)*T*pw B (Ag q+Ag r)):=by
    rw[←nV,←oD,←oD];simp only[Ac,Ag,kU,nL]
   rw[e]
   exact oG d f
 | .join n m q r,h=>by
   have hB:1≤B:=by
    have:=M4 (.join n m q r)
    have b:T*1≤T*((Ac (.join n m q r)).length:Int):=mA (by omega) (by omega)
    omega
   simp only[Ac,kU,nL,nV] at h
   have g:0≤T*((Ac q).length:Int):=mF (by omega) (by omega)
   have i:0≤T*((Ac r).length:Int):=mF (by omega) (by omega)
   have j:=Rx (B:=B) a q (by omega)
   have b:=Rx (B:=B) a r (by omega)
   have n1:=Nt (B:=B) a q (by omega)
   have s:=Nt (B:=B) a r (by omega)
   have p0:=H7 hB (Ag q);have p1:=H7 hB (Ag r);have e1:((Ac q).length:Int)*T=T*(Ac q).length:=mZ _ _;have z:((Ac r).length:Int)*T=T*(Ac r).length:=mZ _ _
   have t:bN T q≤B*pw B (Ag q):=lZ n1 (mN (by omega) (by omega))
   have u:bN T r≤B*pw B (Ag r):=lZ s (mN (by omega) (by omega))
   have d:=H3 u j (Qi (by omega) q) (mF (by omega) (by omega))
   have f:=H3 t b (Qi (by omega) r) (mF (by omega) (by omega))
   have v:B*pw B (Ag r)*(10000*((Ag q:Int)+1)*((Ac q).length*T*pw B (Ag q)))=10000*((Ag q:Int)+1)*((Ac q).length*T*pw B (Ag q+Ag r+1)):=by
    have:pw B (Ag q+Ag r+1)=B*(pw B (Ag q)*pw B (Ag r)):=by simp only[pw,Z3]
    rw[this];ac_rfl
   have w:B*pw B (Ag q)*(10000*((Ag r:Int)+1)*((Ac r).length*T*pw B (Ag r)))=10000*((Ag r:Int)+1)*((Ac r).length*T*pw B (Ag q+Ag r+1)):=by
    have:pw B (Ag q+Ag r+1)=B*(pw B (Ag q)*pw B (Ag r)):=by simp only[pw,Z3]
    rw[this];ac_rfl
   rw[v] at d
   rw[w] at f
   have A:=H7 hB (Ag q+Ag r+1)
   have k:0≤((Ac q).length:Int)*T*pw B (Ag q+Ag r+1):=mF (by omega) (by omega)
   have l:0≤((Ac r).length:Int)*T*pw B (Ag q+Ag r+1):=mF (by omega) (by omega)
   have x:=lZ d (H3 (c:=10000*((Ag q+Ag r+1:Int)+1)) (by omega) (mP _) k (by omega))
   have y:=lZ f (H3 (c:=10000*((Ag q+Ag r+1:Int)+1)) (by omega) (mP _) l (by omega))
   have e:10000*(((Ag (.join n m q r):Nat):Int)+1)*(((Ac (.join n m q r)).length:Int)*T*pw B (Ag (.join n m q r)))=10000*((Ag q+Ag r+1:Int)+1)*(((Ac q).length:Int)*T*pw B (Ag q+Ag r+1))+10000*((Ag q+Ag r+1:Int)+1)*(((Ac r).length:Int)*T*pw B (Ag q+Ag r+1)):=by
    rw[←nV,←oD,←oD];simp only[Ac,Ag,kU,nL,Int.natCast_one]
   rw[e]
   exact oG x y
theorem gL (q:Q)(_:(Ac q).length≤120)(b:Ag q≤2){f:Nat→Bag}(h:It f 120)(i:Nat):Nr (Av f i q)≤3000000000000∧Wt (Av f i q)≤90000000000000000:=by
 have d:pw 14400 (Ag q)≤14400*14400:=by
  have:=Pj (B:=14400) (by omega) b
  simpa [pw] using this
 have j:=H7 (B:=14400) (by omega) (Ag q)
 have k:=lZ (Gw h (by omega) q i) (Nt (B:=14400) (by omega) q (by omega))
 have l:=lZ (Jg h (by omega) q i) (Rx (B:=14400) (by omega) q (by omega))
 have e:((Ac q).length:Int)*120*pw 14400 (Ag q)≤14400*(14400*14400):=H3 (by omega) d (by omega) (by omega)
 have g:0≤((Ac q).length:Int)*120*pw 14400 (Ag q):=mF (by omega) (by omega)
 have m:=H3 (a:=10000*((Ag q:Int)+1)) (c:=30000) (by omega) e g (by omega)
 constructor
 ·omega
 ·omega
end Go.Proofs.YtdinjjmcmfjbfaaGreatDoor.Mo
namespace Go.Proofs.YtdinjjmcmfjbfaaGreatDoor
open Go.RowKit
open Mo (V Row Cy L3)
def Xr:Cy→Bool
 | .col _=>true
 | .val _=>false
def G0:Cy→Nat
 | .col c=>c
 | .val _=>0
def vO:Cy→V
 | .col _=>.num 0
 | .val v=>v
abbrev zO:Cy:=.val (.num 0)
def Vq (x:Cy):List Value:=[.bool (Xr x),.int .i64 (G0 x:Int),.int .i32 (kI (vO x)),.int .u8 (tB (vO x) 0),.int .u8 (tB (vO x) 1),.int .u8 (tB (vO x) 2),.int .u8 (tB (vO x) 3),.int .i64 (nI (vO x))]
def Jh:Nat→L3
 |0=>.lt
 |1=>.eq
 |_=>.ne
end Go.Proofs.YtdinjjmcmfjbfaaGreatDoor
