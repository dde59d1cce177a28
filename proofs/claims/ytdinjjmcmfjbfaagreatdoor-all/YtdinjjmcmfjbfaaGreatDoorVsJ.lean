import Derived.Test.YtdinjjmcmfjbfaaGreatDoorVlJ
import Derived.Test.YtdinjjmcmfjbfaaGreatDoorSvwJ
import Derived.Lib.ItoaMem
set_option maxRecDepth 100000
set_option maxHeartbeats 4000000
namespace Go.Proofs.YtdinjjmcmfjbfaaGreatDoor
open Go.RowKit Mo Pl Tryz
section
theorem YM {s:ByteArray}{a b:Nat}(e:B3 s 4 a=(true,b)):b=a+6:=by
 have c:AY s a=(true,b):=e;obtain⟨c1,d,e1⟩:=Cf c;obtain⟨-,rfl⟩:=Fw d;obtain⟨c2,f,e2⟩:=Cf e1;obtain⟨-,rfl⟩:=Fw f;obtain⟨_,g,e3⟩:=Cf e2;obtain⟨rfl,_⟩:=Kz g;obtain⟨_,i,e4⟩:=Cf e3;obtain⟨-,rfl⟩:=Fw i;obtain⟨_,j,e5⟩:=Cf e4;obtain⟨rfl,_⟩:=Kz j;obtain⟨-,h⟩:=Fw e5;omega
theorem lC {s:ByteArray}{f a b:Nat}{q:Q}(h:Rq s f a b q):a≤s.size→5*(Ac q).length+5*Al q≤b-a+4:=by
 induction h with
 | @tab f a b g e =>intro i;have:=(Oi (Rq.tab (f:=f) g e) i).2.1;show 5*1+5*0≤_;omega
 | @one f a b c q g e n j o p =>intro i;have t:=Cu (s:=s) (a:=b) (by omega);have u:=p (by omega);have:=(Oi j (by omega)).2.1;have hf:=(Gt s (xV (bt s a)) a).2.2.1;rw[e] at hf;have k:=hf rfl;simp only at k;rw[Zc,CN];omega
 | @two f a b c d q r g e n j o hr x v w =>
   intro i;have t:=Cu (s:=s) (a:=b) (by omega);have y:=Cu (s:=s) (a:=c) (by omega);have u:=v (by omega);have z:=w (by omega);have:=(Oi j (by omega)).2.1;have:=(Oi hr (by omega)).2.1;have hf:=(Gt s (xV (bt s a)) a).2.2.1;have m:=e;rw[e] at hf;have k:=hf rfl;simp only at k;rw[Zd,CO,Yc,tS];by_cases l:xV (bt s a)=4
   ·rw[l] at m;have:=YM m;rw[if_pos l];omega
   rw[if_neg l];omega
def AD:Q→Nat
 | .tab _=>60
 | .sel _ _ _ q=>AD q
 | .pick _ q=>AD q
 | .join _ _ q r=>AD q*AD r
 | .uni q r=>AD q+AD r
 | .dist q=>AD q
 | .grp _ _ q=>AD q
theorem R8 {A B:Bag}(h:A9 A B):(Ad A).length≤B.length:=by rw[h.canon];exact Lh B
theorem Me {f:Nat→Bag}(h:∀i,(Ad (f i)).length≤60):∀(q:Q) (i:Nat),(Ad (A1 f i q)).length≤AD q
 | .tab _,i=>h i
 | .sel c k x q,i=>by refine uJ (R8 (Iw (Bc (A1 f i q)).symm)) (uJ ?_ (Me h q i));exact wE _ _
 | .pick cs q,i=>by refine uJ (R8 (Ej (Bc (A1 f i q)).symm)) (uJ ?_ (Me h q i));unfold Az;rw[tZ];exact tY _
 | .join n m q r,i=>by refine uJ (R8 (G6 (Bc (A1 f i q)).symm (Bc (A1 f (i+(Ac q).length) r)).symm)) (uJ (Po _ _ _ _) ?_);exact Nat.mul_le_mul (Me h q i) (Me h r _)
 | .uni q r,i=>by refine uJ (R8 (A9.append (Bc (A1 f i q)).symm (Bc (A1 f (i+(Ac q).length) r)).symm)) ?_;rw[tS];exact Nat.add_le_add (Me h q i) (Me h r _)
 | .dist q,i=>by refine uJ (Lh _) (uJ ?_ (Me h q i));show (En _).length≤_;unfold En;rw[tZ];exact tY _
 | .grp cs s q,i=>by refine uJ (Lh _) (uJ ?_ (Me h q i));show (yE _ _ _).length≤_;unfold yE Hr;rw[tZ];refine uJ (Lh _) ?_;rw[tZ];exact tY _
def fv:Nat→Nat→Nat
 |0,l=>60*l
 |1,l=>900*l*l
 |_,l=>8000*l*l*l
def tP (i j a b:Nat):Bool:=decide (fv i a+fv j b≤fv (i+j) (a+b))
def tQ (i j a b:Nat):Bool:=decide (fv i a*fv j b≤fv (i+j+1) (a+b))
theorem rO:((List.range 3).all fun i=>(List.range 3).all fun j=>(List.range 25).all fun a=>(List.range 25).all fun b=>a == 0 || b == 0 || decide (2<i+j) || tP i j a b)=true:=by kernel_rfl
theorem rP:((List.range 2).all fun i=>(List.range 2).all fun j=>(List.range 25).all fun a=>(List.range 25).all fun b=>decide (1<i+j) || tQ i j a b)=true:=by kernel_rfl
theorem lD:((List.range 3).all fun j=>(List.range 25).all fun l=>decide (124<5*l+5*j) || decide (fv j l≤400000000))=true:=by kernel_rfl
theorem Fm:∀q:Q,1≤(Ac q).length
 | .tab _=>tY _
 | .sel _ _ _ q=>Fm q
 | .pick _ q=>Fm q
 | .join _ _ q r=>by show 1≤(Ac q++Ac r).length;rw[tS];have:=Fm q;omega
 | .uni q r=>by show 1≤(Ac q++Ac r).length;rw[tS];have:=Fm q;omega
 | .dist q=>Fm q
 | .grp _ _ q=>Fm q
theorem Pq:∀q:Q,(Ac q).length≤24→Al q≤2→AD q≤fv (Al q) (Ac q).length
 | .tab _,_,_=>tY _
 | .sel _ _ _ q,h,k=>Pq q h k
 | .pick _ q,h,k=>Pq q h k
 | .join _ _ q r,h,k=>by
   have c:(Ac q).length+(Ac r).length≤24:=(by simpa [Ac] using h);have d:Al q+Al r+1≤2:=k;have a:=Pq q (by omega) (by omega);have b:=Pq r (by omega) (by omega);show AD q*AD r≤fv (Al q+Al r+1) (Ac q++Ac r).length;rw[tS];refine uJ (Nat.mul_le_mul a b) ?_;have t:=uR.1 (uR.1 (uR.1 (uR.1 rP (Al q) (vX.2 (by omega))) (Al r) (vX.2 (by omega))) _ (vX.2 (show (Ac q).length<25 by omega))) _ (vX.2 (show (Ac r).length<25 by omega));rw[Bool.or_eq_true] at t;rcases t with t|t
   ·have:=of_decide_eq_true t;omega
   exact of_decide_eq_true t
 | .uni q r,h,k=>by
   have c:(Ac q).length+(Ac r).length≤24:=(by simpa [Ac] using h);have d:Al q+Al r≤2:=k;have a:=Pq q (by omega) (by omega);have b:=Pq r (by omega) (by omega);have p1:=Fm q;have p2:=Fm r;show AD q+AD r≤fv (Al q+Al r) (Ac q++Ac r).length;rw[tS];refine uJ (Nat.add_le_add a b) ?_;have t:=uR.1 (uR.1 (uR.1 (uR.1 rO (Al q) (vX.2 (by omega))) (Al r) (vX.2 (by omega))) _ (vX.2 (show (Ac q).length<25 by omega))) _ (vX.2 (show (Ac r).length<25 by omega));simp only[Bool.or_eq_true,beq_iff_eq,decide_eq_true_eq] at t;rcases t with ((t|t)|t)|t
   ·omega
   ·omega
   ·omega
   exact of_decide_eq_true t
 | .dist q,h,k=>Pq q h k
 | .grp _ _ q,h,k=>Pq q h k
theorem TQ {q:Q}(h:5*(Ac q).length+5*Al q≤124)(k:Al q≤2):AD q≤400000000:=by
 refine uJ (Pq q (by omega) k) ?_;have t:=uR.1 (uR.1 lD (Al q) (vX.2 (by omega))) _ (vX.2 (show (Ac q).length<25 by omega));simp only[Bool.or_eq_true,decide_eq_true_eq] at t;rcases t with t|t
 ·omega
 exact t
theorem Tg (tb:List Tab)(q:Q):A9 (Cl tb q) (Bg (Ed tb) q):=G8 q 0 fun j nm a=>by
 unfold D0;rw[uL,a];exact A9.refl _
structure VG (tb:List Tab) (q:Q):Prop where
 wf:Mo.wf q
 lv:∀nm∈Ac q,(Dw tb nm).isSome=true
 ty:(A7 (Li tb) q).isSome=true
 few:5*(Ac q).length+5*Al q≤124
 jn:Al q≤2
theorem Nj:∀(q b:Q),wf q→b∈Ea q→wf b∧(∀nm∈Ac b,nm∈Ac q)∧(Ac b).length≤(Ac q).length∧Al b≤Al q
 | .tab nm,b,h,a=>by have:b=.tab nm:=by simpa [Ea] using a
                     subst this;exact⟨h,fun _ x=>x,tY _,tY _⟩
 | .sel c k x q,b,h,a=>by
   rcases tW.1 a with a|a
   ·exact Nj q b h.2.2 a
   have:b=.sel c k x q:=(by simpa using a);subst this;exact⟨h,fun _ x=>x,tY _,tY _⟩
 | .pick cs q,b,h,a=>by
   rcases tW.1 a with a|a
   ·exact Nj q b h.2.2.2 a
   have:b=.pick cs q:=(by simpa using a);subst this;exact⟨h,fun _ x=>x,tY _,tY _⟩
 | .join n m q r,b,h,a=>by
   rcases tW.1 a with a|a
   ·rcases tW.1 a with a|a
    ·obtain⟨d,e,g,i⟩:=Nj q b h.2.2.1 a;exact⟨d,fun x f=>vL _ (e x f),by simp only[Ac,tS];omega,by simp only[Al];omega⟩
    obtain⟨d,e,g,i⟩:=Nj r b h.2.2.2 a;exact⟨d,fun x f=>wR _ (e x f),by simp only[Ac,tS];omega,by simp only[Al];omega⟩
   have:b=.join n m q r:=(by simpa using a);subst this;exact⟨h,fun _ x=>x,tY _,tY _⟩
 | .uni q r,b,h,a=>by
   rcases tW.1 a with a|a
   ·rcases tW.1 a with a|a
    ·obtain⟨d,e,g,i⟩:=Nj q b h.1 a;exact⟨d,fun x f=>vL _ (e x f),by simp only[Ac,tS];omega,by simp only[Al];omega⟩
    obtain⟨d,e,g,i⟩:=Nj r b h.2 a;exact⟨d,fun x f=>wR _ (e x f),by simp only[Ac,tS];omega,by simp only[Al];omega⟩
   have:b=.uni q r:=(by simpa using a);subst this;exact⟨h,fun _ x=>x,tY _,tY _⟩
 | .dist q,b,h,a=>by
   rcases tW.1 a with a|a
   ·exact Nj q b h a
   have:b=.dist q:=(by simpa using a);subst this;exact⟨h,fun _ x=>x,tY _,tY _⟩
 | .grp cs s q,b,h,a=>by
   rcases tW.1 a with a|a
   ·exact Nj q b h.2.2.2 a
   have:b=.grp cs s q:=(by simpa using a);subst this;exact⟨h,fun _ x=>x,tY _,tY _⟩
theorem Ps {f:List UInt8→Option (List Bool)}:∀(q b:Q),(A7 f q).isSome=true→b∈Ea q→(A7 f b).isSome=true
 | .tab nm,b,h,a=>by have:b=.tab nm:=by simpa [Ea] using a
                     subst this;exact h
 | .sel c k x q,b,h,a=>by
   rcases tW.1 a with a|a
   ·refine Ps q b ?_ a;cases d:A7 f q with
    |none=>simp[A7,d] at h
    |some _=>rfl
   have:b=.sel c k x q:=(by simpa using a);subst this;exact h
 | .pick cs q,b,h,a=>by
   rcases tW.1 a with a|a
   ·refine Ps q b ?_ a;cases d:A7 f q with
    |none=>simp[A7,d] at h
    |some _=>rfl
   have:b=.pick cs q:=(by simpa using a);subst this;exact h
 | .join n m q r,b,h,a=>by
   have e:(A7 f q).isSome=true∧(A7 f r).isSome=true:=by
    cases d:A7 f q with
    |none=>simp[A7,d] at h
    |some _=>cases hr:A7 f r with
     |none=>simp[A7,d,hr] at h
     |some _=>exact⟨rfl,rfl⟩
   rcases tW.1 a with a|a
   ·rcases tW.1 a with a|a
    ·exact Ps q b e.1 a
    exact Ps r b e.2 a
   have:b=.join n m q r:=(by simpa using a);subst this;exact h
 | .uni q r,b,h,a=>by
   have e:(A7 f q).isSome=true∧(A7 f r).isSome=true:=by
    cases d:A7 f q with
    |none=>simp[A7,d] at h
    |some _=>cases hr:A7 f r with
     |none=>simp[A7,d,hr] at h
     |some _=>exact⟨rfl,rfl⟩
   rcases tW.1 a with a|a
   ·rcases tW.1 a with a|a
    ·exact Ps q b e.1 a
    exact Ps r b e.2 a
   have:b=.uni q r:=(by simpa using a);subst this;exact h
 | .dist q,b,h,a=>by
   rcases tW.1 a with a|a
   ·exact Ps q b h a
   have:b=.dist q:=(by simpa using a);subst this;exact h
 | .grp cs s q,b,h,a=>by
   rcases tW.1 a with a|a
   ·refine Ps q b ?_ a;cases d:A7 f q with
    |none=>simp[A7,d] at h
    |some _=>rfl
   have:b=.grp cs s q:=(by simpa using a);subst this;exact h
theorem VG.sub {tb:List Tab}{q a:Q}(h:VG tb q)(b:a∈Ea q):VG tb a:=by
 obtain⟨c,d,_,e⟩:=Nj q a h.wf b;exact⟨c,fun nm f=>h.lv nm (d nm f),Ps q a h.ty b,by have:=h.few;omega,uJ e h.jn⟩
theorem VG.ok {tb:List Tab}{q:Q}(hg:B4 tb)(h:VG tb q):∃ts,A7 (Li tb) q=some ts∧B2 ts (Bg (Ed tb) q)∧(Ad (Bg (Ed tb) q)).length≤400000000:=by
 cases b:A7 (Li tb) q with
 |none=>have:=h.ty;rw[b] at this;cases this
 |some ts =>
  have a:=G0 hg q;have d:(Ac q).length≤120:=by have:=h.few;omega
  have e:=SB (Hh hg) a.2 q h.wf d h.jn 0 (Rb hg q) b;refine⟨ts,rfl,e.eqv (Tg tb q),?_⟩;have c:(Ad (Cl tb q)).length≤AD q:=Me (fun i=>by have f:=Jg (a.1.nn i);have g:=a.1.rows i;omega) q 0;rw[(Tg tb q).canon] at c;exact uJ c (TQ h.few h.jn)
theorem VG.tD {tb:List Tab}{q:Q}(hg:B4 tb)(h:VG tb q):sX (Li tb) (Ed tb) (Ea q):=by
 refine⟨fun t m=>(h.sub m).ok hg,fun c d a b n=>?_⟩;have hv:=h.sub n;have u:=hv.wf;have hf:=hv.few;have o:=hv.jn;simp only[Ac,Al,tS] at hf o;have e1:=Tg tb a;have e2:=Tg tb b;have e:=G0 hg a;have f:=G0 hg b;constructor
 ·have v:Nr (Cl tb a)≤50000000000:=Xf a (by omega) (by omega) e.1 0;have b2:Nr (Cl tb b)≤yA 60 b:=Gl f.1 (by omega) b 0;have p:Nr (Cl tb a)≤yA 60 a:=Gl e.1 (by omega) a 0;have r:0≤Nr (Cl tb b):=GZ (Dg f.1.nn b 0);have g:=Ic p b2 r (Lp (by omega) a);have j:yA 60 (.join c d a b)≤_:=Nz (T:=60) (B:=14400) (by omega) (.join c d a b) (by simp only[Ac,tS];omega);have s:yA 60 (.join c d a b)=yA 60 a*yA 60 b:=rfl;have hp:yB 14400 (Al (.join c d a b))≤14400*14400:=by have:=Ox (B:=14400) (by omega) hv.jn;simpa [yB] using this
  have w:=Ix (B:=14400) (by omega) (Al (.join c d a b));have x:((Ac (.join c d a b)).length:Int)*60*yB 14400 (Al (.join c d a b))≤14400*(14400*14400):=Ic (by simp only[Ac,tS];omega) hp (by omega) (by omega);rw[←Xw e1,←Xw e2];omega
 have k:(Ad (Cl tb a)).length≤AD a:=Me (fun i=>by have g:=Jg (e.1.nn i);have j:=e.1.rows i;omega) a 0;have l:(Ad (Cl tb b)).length≤AD b:=Me (fun i=>by have g:=Jg (f.1.nn i);have j:=f.1.rows i;omega) b 0;rw[e1.canon] at k;rw[e2.canon] at l;have g:=Nat.mul_le_mul k l;have j:AD (.join c d a b)≤400000000:=TQ hv.few hv.jn;have s:AD (.join c d a b)=AD a*AD b:=rfl;omega
theorem G3:∀(q:Q) (nm:List UInt8),.tab nm∈Ea q→nm∈Ac q
 | .tab nm',nm,h=>by have:nm=nm':=by simpa [Ea] using h
                     subst this;simp[Ac]
 | .sel c k x q,nm,h=>by
   rcases tW.1 h with h|h
   ·exact G3 q nm h
   simp at h
 | .pick cs q,nm,h=>by
   rcases tW.1 h with h|h
   ·exact G3 q nm h
   simp at h
 | .join n m q r,nm,h=>by
   rcases tW.1 h with h|h
   ·rcases tW.1 h with h|h
    ·exact vL _ (G3 q nm h)
    exact wR _ (G3 r nm h)
   simp at h
 | .uni q r,nm,h=>by
   rcases tW.1 h with h|h
   ·rcases tW.1 h with h|h
    ·exact vL _ (G3 q nm h)
    exact wR _ (G3 r nm h)
   simp at h
 | .dist q,nm,h=>by
   rcases tW.1 h with h|h
   ·exact G3 q nm h
   simp at h
 | .grp cs s q,nm,h=>by
   rcases tW.1 h with h|h
   ·exact G3 q nm h
   simp at h
theorem I6:∀(q:Q) (nm:List UInt8),nm∈Ac q→.tab nm∈Ea q
 | .tab nm',nm,h=>by have:nm=nm':=by simpa [Ac] using h
                     subst this;simp[Ea]
 | .sel c k x q,nm,h=>vL _ (I6 q nm h)
 | .pick cs q,nm,h=>vL _ (I6 q nm h)
 | .join n m q r,nm,h=>by
   rcases tW.1 h with h|h
   ·exact vL _ (vL _ (I6 q nm h))
   exact vL _ (wR _ (I6 r nm h))
 | .uni q r,nm,h=>by
   rcases tW.1 h with h|h
   ·exact vL _ (vL _ (I6 q nm h))
   exact vL _ (wR _ (I6 r nm h))
 | .dist q,nm,h=>vL _ (I6 q nm h)
 | .grp cs s q,nm,h=>vL _ (I6 q nm h)
variable {Z Z' S:Nat→Prop} {w w':World}
def Mf (t:Tab):UT:=⟨t.nm,Fj t.ts,Ad t.bag⟩
def DE (Z:Nat→Prop)(w:World)(tcs:List Value)(tb:List Tab):Prop:=∀(i:Nat) (t:Tab),tb[i]? =some t→∃p n c,tcs[i*3]? =some (.string ⟨t.nm.toArray⟩)∧tcs[i*3+1]? =some (.string ⟨(Fj t.ts).toArray⟩)∧tcs[i*3+2]? =some (.slice p n c)∧Ct Z w (.slice p n c) (Ad t.bag)
theorem DE.Cc {tcs:List Value}{tb:List Tab}(h:DE Z w tcs tb)(k:Ab S w w')(a:∀i,S i→Z i):DE Z w' tcs tb:=fun i t b=>by
 obtain⟨p,n,c,d,e,f,g⟩:=h i t b;exact⟨p,n,c,d,e,f,g.Cc k a⟩
theorem DE.Ni {tcs:List Value}{tb:List Tab}(h:DE Z w tcs tb)(a:∀k,k<w.heap.size→Z' k→Z k):DE Z' w tcs tb:=fun i t b=>by
 obtain⟨p,n,c,d,e,f,g⟩:=h i t b;exact⟨p,n,c,d,e,f,g.Ni a⟩
theorem Rm {base:Nat}{tv:Value}{tcs:List Value}{tb:List Tab}(ho:w.ownsRow base 197 3 tv tb.length tcs)(h:DE Z w tcs tb):My Z w tv (tb.map Mf):=by
 rcases ho with ⟨_,⟨rfl,d⟩|⟨g,cap,_,rfl,_,hg,e,f,_,j⟩⟩
 ·have:tb=[]:=uM d;subst this;exact⟨none,0,rfl,by simp,by simp,fun i c l=>by simp at l⟩
 refine⟨some ⟨g,0,none⟩,cap,by rw[tZ],by rw[tZ];exact e,f,fun i b a=>?_⟩;rw[tX] at a;obtain⟨t,m,rfl⟩:=uK.1 a;obtain⟨p,n,c,e1,e2,e3,e4⟩:=h i t m;have key:∀k b,tcs[k]? =some b→C3 w g (0+k) b:=fun k b a=>by
  rw[←j,uQ] at a;split at a
  ·show _=_;rw[Af hg,uL,←uZ];exact a
  cases a
 exact⟨g,0,p,n,c,rfl,Aa hg,key _ _ e1,key _ _ e2,key _ _ e3,e4⟩
theorem DE.push {tcs:List Value}{tb:List Tab}(h:DE Z w tcs tb)(b:tcs.length=tb.length*3){t:Tab}{p:Option Addr}{n c:Nat}(g:Ct Z w (.slice p n c) (Ad t.bag)):DE Z w (tcs++[.string ⟨t.nm.toArray⟩,.string ⟨(Fj t.ts).toArray⟩,.slice p n c]) (tb++[t]):=fun i x a=>by
 by_cases hi:i<tb.length
 ·rw[uD hi] at a;obtain⟨j,k,l,d,e,f,m⟩:=h i x a;refine⟨j,k,l,?_,?_,?_,m⟩
  ·rw[uD (tR.1 d).1];exact d
  ·rw[uD (tR.1 e).1];exact e
  rw[uD (tR.1 f).1];exact f
 rw[uC (by omega)] at a;have o:i-tb.length=0:=by have:=(tR.1 a).1;simp at this;omega
 rw[o] at a;have q:t=x:=by simpa using a
 subst q;have r:i=tb.length:=by omega
 subst r;refine⟨p,n,c,?_,?_,?_,g⟩
 ·rw[uC (by omega),b,show tb.length*3-tb.length*3=0 by omega];rfl
 ·rw[uC (by omega),b,show tb.length*3+1-tb.length*3=1 by omega];rfl
 rw[uC (by omega),b,show tb.length*3+2-tb.length*3=2 by omega];rfl
def gW (Z:Nat→Prop)(w:World)(vcs:List Value)(qs:List Q):Prop:=∀(i:Nat) (q:Q),qs[i]? =some q→∃p n c,vcs[i]? =some (.slice p n c)∧Hn Z w (.slice p n c) (Ea q)∧(Ea q).length≤1000
theorem gW.Cc {vcs:List Value}{qs:List Q}(h:gW Z w vcs qs)(k:Ab S w w')(a:∀i,S i→Z i):gW Z w' vcs qs:=fun i t b=>by
 obtain⟨p,n,c,d,e,f⟩:=h i t b;exact⟨p,n,c,d,e.Cc k a,f⟩
theorem gW.Ni {vcs:List Value}{qs:List Q}(h:gW Z w vcs qs)(a:∀k,k<w.heap.size→Z' k→Z k):gW Z' w vcs qs:=fun i t b=>by
 obtain⟨p,n,c,d,e,f⟩:=h i t b;exact⟨p,n,c,d,e.Ni a,f⟩
theorem gW.push {vcs:List Value}{qs:List Q}(h:gW Z w vcs qs)(e:vcs.length=qs.length){q:Q}{p:Option Addr}{n c:Nat}(f:Hn Z w (.slice p n c) (Ea q))(g:(Ea q).length≤1000):gW Z w (vcs++[.slice p n c]) (qs++[q]):=fun i x a=>by
 by_cases hi:i<qs.length
 ·rw[uD hi] at a;obtain⟨j,k,l,b,m,o⟩:=h i x a;exact⟨j,k,l,by rw[uD (tR.1 b).1];exact b,m,o⟩
 rw[uC (by omega)] at a;have d:i-qs.length=0:=by have:=(tR.1 a).1;simp at this;omega
 rw[d] at a;have r:q=x:=by simpa using a
 subst r;exact⟨p,n,c,by rw[uC (by omega),e,d];rfl,f,g⟩
structure Pt (Z:Nat→Prop) (w:World) (y:Nat) (st:Ses) (tv vv bv:Value) (tcs vcs bvs:List Value):Prop where
 obj:w.heap[y]? =some (.cells #[tv,vv,bv] 189 (0,0))
 tow:w.ownsRow 0 197 3 tv st.tabs.length tcs
 tcs:DE Z w tcs st.tabs
 vow:w.ownsRow 0 198 1 vv st.views.length vcs
 vcs:gW Z w vcs st.views
 bow:w.ownsRow 0 195 1 bv st.views.length bvs
 bgs:Cz Z w bvs (st.views.map fun q=>Ad (Bg (Ed st.tabs) q))
 zy:Z y
 zt:∀k,tv.ownBlock=some k→Z k
 zv:∀k,vv.ownBlock=some k→Z k
 zb:∀k,bv.ownBlock=some k→Z k
 old:Gq Z w
def Pu (y:Nat)(tv vv bv:Value):Nat→Prop:=fun k=>k=y∨tv.ownBlock=some k∨vv.ownBlock=some k∨bv.ownBlock=some k
def Lb (Z:Nat→Prop)(w:World)(Y:Nat→Prop)(y:Nat)(st:Ses):Prop:=∃tv vv bv tcs vcs bvs,Pt Z w y st tv vv bv tcs vcs bvs∧∀k,Y k↔Pu y tv vv bv k
section
variable {y:Nat} {st:Ses} {tv vv bv:Value} {tcs vcs bvs:List Value} {Y:Nat→Prop}
theorem Pt.z (h:Pt Z w y st tv vv bv tcs vcs bvs){k:Nat}(a:Pu y tv vv bv k):Z k:=by
 rcases a with rfl|a|a|a
 ·exact h.zy
 ·exact h.zt k a
 ·exact h.zv k a
 exact h.zb k a
theorem Lb.z (h:Lb Z w Y y st){k:Nat}(a:Y k):Z k:=by
 obtain⟨_,_,_,_,_,_,b,c⟩:=h;exact b.z ((c k).1 a)
theorem Lb.old (h:Lb Z w Y y st):Gq Z w:=by obtain⟨_,_,_,_,_,_,a,_⟩:=h;exact a.old
theorem Pt.other (h:Pt Z w y st tv vv bv tcs vcs bvs)(k:Ab S w w')(c:∀i,S i→Z' i∧¬Pu y tv vv bv i)(a:∀i,i<w.heap.size→Z' i→Z i)(d:∀i,Z i→Z' i)(ho:Gq Z' w'):Pt Z' w' y st tv vv bv tcs vcs bvs where
 obj:=(k.block y (Aa h.obj) (fun s=>(c y s).2 (.inl rfl))).trans h.obj
 tow:=A4 h.tow k (fun b a s=>(c b s).2 (.inr (.inl a)))
 tcs:=(h.tcs.Ni a).Cc k (fun i s=>(c i s).1)
 vow:=A4 h.vow k (fun b a s=>(c b s).2 (.inr (.inr (.inl a))))
 vcs:=(h.vcs.Ni a).Cc k (fun i s=>(c i s).1)
 bow:=A4 h.bow k (fun b a s=>(c b s).2 (.inr (.inr (.inr a))))
 bgs:=(h.bgs.Ni a).Cc k (fun i s=>(c i s).1)
 zy:=d y h.zy
 zt:=fun k e=>d k (h.zt k e)
 zv:=fun k e=>d k (h.zv k e)
 zb:=fun k e=>d k (h.zb k e)
 old:=ho
theorem Lb.other (h:Lb Z w Y y st)(k:Ab S w w')(a:∀i,S i→Z' i∧¬Y i)(c:∀i,i<w.heap.size→Z' i→Z i)(d:∀i,Z i→Z' i)(ho:Gq Z' w'):Lb Z' w' Y y st:=by
 obtain⟨tv,vv,bv,tcs,vcs,bvs,e,b⟩:=h;exact⟨tv,vv,bv,tcs,vcs,bvs,e.other k (fun i s=>⟨(a i s).1,fun f=>(a i s).2 ((b i).2 f)⟩) c d ho,b⟩
theorem Lb.Ag (h:Lb Z w Y y st)(k:Ab No w w'):Lb Z w' Y y st:=h.other k (fun _ s=>s.elim) (fun _ _ a=>a) (fun _ a=>a) (h.old.up k.size)
end
theorem Pv:∀(tb:List Tab) (nm:List UInt8),(Dw tb nm=none→CZ (tb.map Mf) nm= -1)∧∀t,Dw tb nm=some t→∃k:Nat,CZ (tb.map Mf) nm=(k:Int)∧tb[k]? =some t
 | [],nm=>⟨fun _=>rfl,fun t h=>by cases h⟩
 |x::tb,nm=>by
  obtain⟨b,c⟩:=Pv tb nm;have e:CZ ((x::tb).map Mf) nm=if x.nm=nm then 0 else if CZ (tb.map Mf) nm= -1 then -1 else CZ (tb.map Mf) nm+1:=rfl
  have e2:Dw (x::tb) nm=if x.nm=nm then some x else Dw tb nm:=by
   unfold Dw;rw[List.find?_cons];by_cases a:x.nm=nm
   ·simp[a]
   simp[a]
  by_cases a:x.nm=nm
  ·rw[if_pos a] at e e2;refine⟨(fun h=>by rw[e2] at h;cases h),fun t h=>⟨0,e,?_⟩⟩;rw[e2] at h;exact h
  rw[if_neg a] at e e2;refine⟨fun h=>?_,fun t h=>?_⟩
  ·rw[e2] at h;rw[e,b h];rfl
  rw[e2] at h;obtain⟨k,d,f⟩:=c t h;refine⟨k+1,?_,f⟩;rw[e,d,if_neg (by omega)];omega
end
section
theorem FZ (d:Nat)(h:d<10):(⟨#[48,49,50,51,52,53,54,55,56,57]⟩:ByteArray).extract d (d+1)=⟨#[UInt8.ofNat (48+d)]⟩:=by
 have:d=0∨d=1∨d=2∨d=3∨d=4∨d=5∨d=6∨d=7∨d=8∨d=9:=by omega
 rcases this with rfl|rfl|rfl|rfl|rfl|rfl|rfl|rfl|rfl|rfl <;> rfl
theorem Xl (c:UInt8)(s:List UInt8):(⟨#[c]⟩:ByteArray)++⟨s.toArray⟩=⟨(c::s).toArray⟩:=by
 apply ByteArray.ext;rw[ByteArray.data_append];simp
theorem lE {a:Nat}(h:¬a<10):Lib.decDigits a=Lib.decDigits (a / 10)++[UInt8.ofNat (48+a % 10)]:=by rw[Lib.decDigits,dif_neg h]
theorem YN {a:Nat}(h:a<10):Lib.decDigits a=[UInt8.ofNat (48+a)]:=by rw[Lib.decDigits,dif_pos h]
theorem lF (a:Nat)(h:a≤9000000000000000000):(Lib.decDigits a).length≤21:=by
 have:=Lib.itoa_length_le (a:Int) (by omega) (by omega);rw[Lib.itoa_nonneg] at this;exact this
theorem LP {k a:Nat}{s:List UInt8}(h:Lib.decDigits k++s=Lib.decDigits a)(b:a≤9000000000000000000):s.length≤21:=by
 have c:=congrArg List.length h;have d:=lF a b;rw[tS] at c;omega
theorem LQ {k a:Nat}{s:List UInt8}(h:Lib.decDigits k++s=Lib.decDigits a)(b:k<10):(⟨#[48,49,50,51,52,53,54,55,56,57]⟩:ByteArray).extract k (k+1)++⟨s.toArray⟩=⟨(Lib.decDigits a).toArray⟩:=by
 rw[FZ k b,Xl,←h,YN b];rfl
theorem LR {k a:Nat}{s:List UInt8}(h:Lib.decDigits k++s=Lib.decDigits a)(b:¬k<10):Lib.decDigits (k / 10)++(UInt8.ofNat (48+k % 10)::s)=Lib.decDigits a:=by
 rw[←h,lE b];simp
theorem fU (a b c:ByteArray):a++b++c=a++(b++c):=by apply ByteArray.ext;simp[ByteArray.data_append]
theorem pY (a:ByteArray):(⟨#[]⟩:ByteArray)++a=a:=by apply ByteArray.ext;rw[ByteArray.data_append];simp
theorem Im (x:Int)(w:World)(_: -9000000000000000000≤x)(_:x≤9000000000000000000) :
 Calls prog 137 #[.int .i64 x] w fun e w'=>e=.returned (.string ⟨(Lib.itoa x).toArray⟩)∧w'=w:=by
 by_cases u:x<0
 ·obtain⟨a,v⟩:∃a:Nat,-x=(a:Int):=⟨x.natAbs,by omega⟩;have i:a≤9000000000000000000:=by omega
  have j:xR (Lib.itoa x=45::Lib.decDigits a):=by show _=_;unfold Lib.itoa;rw[if_pos u,show x.natAbs=a by omega]
  have F:IntKind.i64.wrap (-x)=(a:Int):=by rw[IntWalk.i64_in _ (by omega)];exact v
  go_enter func137,ntmps137;go_wp21;go_loopg [0,4] a (fun k l m wr=>wr=w∧k≤a∧l=.int .i64 (k:Int)∧∃s:List UInt8,m=.string ⟨s.toArray⟩∧xR (Lib.decDigits k++s=Lib.decDigits a))
  case atStart=>exact⟨rfl,tY _,by go_num,[],rfl,Ae (by simp)⟩
  obtain⟨rfl,y,rfl,s,rfl,b⟩:=hrel;have z:=LP b.o i;by_cases c:gk<10
  ·have n:¬(9:Int)<(gk:Int):=(by omega);have o:=Bm gk;have p:(gk:Int)≤(gk:Int)+1:=(by omega);have r:(gk:Int)+1≤10:=(by omega);go_wp21;go_ret;exact⟨El (by rw[j.o,fU,LQ b.o c,Xl]),rfl⟩
  have n:(9:Int)<(gk:Int):=by omega
  have f:=Ae (LR b.o c);obtain⟨d,g⟩:∃d:Nat,gk % 10=d:=⟨_,rfl⟩;have t:d<10:=by omega
  have A:(gk:Int) % 10=(d:Int):=by omega
  have B:(gk:Int).tmod 10=(d:Int):=by rw[xE (by omega)];omega
  obtain⟨q,h⟩:∃q:Nat,gk / 10=q:=⟨_,rfl⟩;have C:(gk:Int) / 10=(q:Int):=by omega
  have D:(gk:Int).tdiv 10=(q:Int):=by rw[Int.tdiv_eq_ediv_of_nonneg (by omega)];omega
  have E:q<gk:=by omega
  rw[g,h] at f;have HD:=Ae t;have o:=Bm d
  have p:(d:Int)≤(d:Int)+1:=by omega
  have r:(d:Int)+1≤10:=by omega
  clear g h;go_wp21;go_roundg q
  case measure=>omega
  exact⟨rfl,by omega,by go_num,UInt8.ofNat (48+d)::s,by rw[FZ d HD.o,Xl],f⟩
 obtain⟨a,rfl⟩:∃a:Nat,x=(a:Int):=⟨x.toNat,by omega⟩;have i:a≤9000000000000000000:=by omega
 have j:xR (Lib.itoa (a:Int)=Lib.decDigits a):=Lib.itoa_nonneg a;go_enter func137,ntmps137;go_wp21;go_loopg [0,4] a (fun k l m wr=>wr=w∧k≤a∧l=.int .i64 (k:Int)∧∃s:List UInt8,m=.string ⟨s.toArray⟩∧xR (Lib.decDigits k++s=Lib.decDigits a))
 case atStart=>exact⟨rfl,tY _,by go_num,[],rfl,Ae (by simp)⟩
 obtain⟨rfl,y,rfl,s,rfl,b⟩:=hrel;have z:=LP b.o i;by_cases c:gk<10
 ·have n:¬(9:Int)<(gk:Int):=by omega
  have o:=Bm gk
  have p:(gk:Int)≤(gk:Int)+1:=by omega
  have r:(gk:Int)+1≤10:=by omega
  go_wp21;go_ret;exact⟨El (by rw[j.o];(try rw[pY]);exact LQ b.o c),rfl⟩
 have n:(9:Int)<(gk:Int):=by omega
 have f:=Ae (LR b.o c);obtain⟨d,g⟩:∃d:Nat,gk % 10=d:=⟨_,rfl⟩;have t:d<10:=by omega
 have A:(gk:Int) % 10=(d:Int):=by omega
 have B:(gk:Int).tmod 10=(d:Int):=by rw[xE (by omega)];omega
 obtain⟨q,h⟩:∃q:Nat,gk / 10=q:=⟨_,rfl⟩;have C:(gk:Int) / 10=(q:Int):=by omega
 have D:(gk:Int).tdiv 10=(q:Int):=by rw[Int.tdiv_eq_ediv_of_nonneg (by omega)];omega
 have E:q<gk:=by omega
 rw[g,h] at f;have HD:=Ae t;have o:=Bm d
 have p:(d:Int)≤(d:Int)+1:=by omega
 have r:(d:Int)+1≤10:=by omega
 clear g h;go_wp21;go_roundg q
 case measure=>omega
 exact⟨rfl,by omega,by go_num,UInt8.ofNat (48+d)::s,by rw[FZ d HD.o,Xl],f⟩
variable {Z:Nat→Prop}
def rQ:V→Prop
 | .num n=> -9000000000000000000≤n∧n≤9000000000000000000
 | .txt s=>s.length≤4
theorem rQ.len {v:V}(h:rQ v):(Kn v).length≤21:=by
 cases v with
 |num n=>exact Lib.itoa_length_le n (by have:=h.1;omega) (by have:=h.2;omega)
 |txt s=>have:s.length≤4:=h;show s.length≤21;omega
def Z4 (r:Row)(k:Nat):List UInt8:=40::Hu 0 (r.take k)
theorem LS {r:Row}{k:Nat}{v:V}(h:r[k]? =some v):Z4 r (k+1)=Z4 r k++((if k=0 then [] else [44])++Kn v):=by
 have a:(r.take k).length=k:=by have:=(tR.1 h).1;rw[uV];omega
 unfold Z4;rw[uI,h];show 40::Hu 0 (r.take k++[v])=_;rw[Ys,a,uL];rfl
theorem TR {r:Row}:Z4 r r.length++[41]=Es r:=by
 unfold Z4 Es;rw[vH];rfl
theorem fV {l:Bag}{i:Nat}{e:Row×Int}(h:l[i]? =some e):Ez 0 (l.take (i+1))=Ez 0 (l.take i)++((if i=0 then [] else [59])++E8 e):=by
 have a:(l.take i).length=i:=by have:=(tR.1 h).1;rw[uV];omega
 rw[uI,h];show Ez 0 (l.take i++[e])=_;rw[Yu,a,uL]
theorem M0 (a:List UInt8)(c:UInt8):(⟨a.toArray⟩:ByteArray)++⟨#[c]⟩=⟨(a++[c]).toArray⟩:=Gh a [c]
theorem fW (lv:Value)(l:Bag)(w:World)(h:Ct Z w lv l)(a2:l.length≤100000000000)(am:∀e∈l,e.1≠[]∧e.1.length≤6)(hv:∀e∈l,∀v∈e.1,rQ v)(an:∀e∈l,-9000000000000000000≤e.2∧e.2≤9000000000000000000) :
 Calls prog 93 #[lv] w fun e w'=>e=.returned (.string ⟨(Ez 0 l).toArray⟩)∧Ab No w w':=by
 have ao:=Ae h;have a3:=Ae am;have a4:=Ae hv;have a5:=Ae an;obtain⟨a,cap,rfl,a6,ap,-⟩:=h;obtain⟨n,L⟩:∃n,l.length=n:=⟨_,rfl⟩;have aq:=Ae L;rw[L] at a6 a2;rw[L] at ao;rw[L];clear L am hv an;have bl:=Bn ap.1
 clear ap;go_enter func93,ntmps93;go_wp21;go_loopg [3,4] n (fun k M a7 wr=>∃(i:Nat) (T:List UInt8),i+k=n∧a7=.int .i64 (i:Int)∧M=.string ⟨T.toArray⟩∧T.length≤i*160∧xR (T=Ez 0 (l.take i))∧Ab No w wr)
 case atStart=>exact⟨0,[],by omega,rfl,rfl,by simp,Ae rfl,Ab.refl _ _⟩
 obtain⟨i,T,_,rfl,rfl,_,X,N⟩:=hrel;by_cases a8:gk=0
 ·subst a8;have a9:¬(i:Int)<(n:Int):=by omega
  have ba:xR (T=Ez 0 l):=by have ar:=X.o;rw[show i=l.length by rw[aq.o];omega,vH] at ar;exact ar
  have P:=Ae N;clear N;go_wp21;go_ret;exact⟨El (by rw[ba.o]),P.o⟩
 obtain⟨k,rfl⟩:=Bx a8;have a9:(i:Int)<(n:Int):=by omega
 have bm:=Bm i
 obtain⟨e,Q⟩:∃e,l[i]? =some e:=⟨_,tT (by have:=aq.o;omega)⟩;have R:=tV Q;obtain⟨c,g⟩:=e;obtain⟨_,_,Y,_,_,au⟩:=id ao.o;injection Y with e1 e2 e3;subst e1;obtain⟨b,o,p,bb,aa,rfl,I,S,c1,av⟩:=au i (c,g) Q;have c1:C3 w b (o+i*2+1) (.int .i64 g):=c1;have ab:xR (Ee Z w (.slice p bb aa) c):=av;have K:=Ae S;have aw:=Ae c1;have ax:=Ae (a4.o _ R);have ac:=a5.o _ R;have ay: -9000000000000000000≤g:=ac.1;have az:g≤9000000000000000000:=ac.2;have bc:c.length≤6:=(a3.o _ R).2;obtain⟨_,_,Y,bd,a0,-⟩:=av;injection Y with e4 e5 be;subst e4 e5 be;have bn:=Bn a0.1
 obtain⟨q,U⟩:∃q,c.length=q:=⟨_,rfl⟩;have V:=Ae U;have a1:xR (Ez 0 (l.take (i+1))=Ez 0 (l.take i)++((if i=0 then [] else [59])++E8 (c,g))):=fV Q;rw[U] at ab bd bc;rw[U] at K;have S:C3 w b (o+i*2) (.slice p q aa):=K.o;have bo:=(N.cell I (o:=o+i*2) xT).trans S;have P:=Ae N;clear N au e2 e3 ac R Q S c1 U a0;by_cases W:i=0
 ·have bf:¬(0:Int)<(i:Int):=by omega
  have ad:xR ((if i=0 then ([]:List UInt8) else [59])=[]):=if_pos W;clear W;go_wp21;go_loopg [3,5] q (fun k M ae af=>∃(j:Nat) (d:List UInt8),j+k=q∧ae=.int .i64 (j:Int)∧M=.string ⟨d.toArray⟩∧d.length≤i*160+2+j*22∧xR (d=T++(([]:List UInt8)++Z4 c j))∧Ab No w af)
  case atStart=>exact⟨0,T++(([]:List UInt8)++Z4 c 0),by omega,rfl,by rw[M0];simp[Z4,Hu],by simp[Z4,Hu];omega,Ae rfl,P.o⟩
  obtain⟨j,d,ag,rfl,rfl,bg,z,s⟩:=hrel;by_cases ah:gk=0
  ·subst ah;have ai:q=j:=(by omega);subst ai;have aj:¬(q:Int)<(q:Int):=(by omega);have ak:=(s.cell I (o:=o+i*2) xT).trans K.o;have bh:=(s.cell I (o:=o+i*2+1) xT).trans aw.o;have x:=Ae s;have al:xR (Ez 0 (l.take (i+1))=d++[41,42]++Lib.itoa g):=(by show _=_;rw[a1.o,←X.o,ad.o,z.o];have:Z4 c q++[41]=Es c:=(by have:=TR (r:=c);rw[V.o] at this;exact this);rw[show E8 (c,g)=Es c++(42::Lib.itoa g) from rfl,←this];simp);have bi:=Lib.itoa_length_le g (by omega) (by omega);clear s ag;go_wp2_with (first
    |(go_at_call 137;go_call Im g _ ay az as e w5 ⟨rfl,rfl⟩)
    |fail)
   go_roundg k
   case measure=>omega
   exact⟨i+1,d++[41,42]++Lib.itoa g,by omega,by go_num,by rw[show (⟨#[41,42]⟩:ByteArray)=⟨[41,42].toArray⟩ from rfl,Gh,Gh],by simp;omega,Ae al.o.symm,x.o⟩
  obtain⟨B,rfl⟩:=Bx ah;have aj:(j:Int)<(q:Int):=by omega
  have bj:=Bm j
  have ak:=(s.cell I (o:=o+i*2) xT).trans K.o;obtain⟨v,C⟩:∃v,c[j]? =some v:=⟨_,tT (by have:=V.o;omega)⟩;have O:=ab.o.Ag s;obtain⟨vb,y,rfl,bk,D,E,F⟩:=O.cells C;have A:=Ae (ax.o v (tV C));have G:=A.o.len;have H:=Ae (LS C);have x:=Ae s;clear s O C;cases v with
  |num m =>
   replace D:C3 wr vb (y+j*3) (.bool true):=D;replace E:C3 wr vb (y+j*3+1) (.int .i64 m):=E;replace F:C3 wr vb (y+j*3+2) (.string ⟨#[]⟩):=F;replace G:(Lib.itoa m).length≤21:=G;by_cases f:j=0
   ·have J:¬(0:Int)<(j:Int):=(by omega);have u:xR (d++(([]:List UInt8)++Lib.itoa m)=T++(([]:List UInt8)++Z4 c (j+1))):=(by show _=_;rw[H.o,if_pos f,z.o];simp[Kn]);clear f;go_wp2_with (first
     |(go_at_call 137;go_call Im m _ A.o.1 A.o.2 as e w5 ⟨rfl,rfl⟩)
     |fail)
    go_roundg B
    case measure=>omega
    exact⟨j+1,d++(([]:List UInt8)++Lib.itoa m),by omega,by go_num,by rw[Gh];simp,by simp;omega,u,x.o.alloc _⟩
   have J:(0:Int)<(j:Int):=(by omega);have u:xR (d++(([44]:List UInt8)++Lib.itoa m)=T++(([]:List UInt8)++Z4 c (j+1))):=(by show _=_;rw[H.o,if_neg f,z.o];simp[Kn]);clear f;go_wp2_with (first
    |(go_at_call 137;go_call Im m _ A.o.1 A.o.2 as e w5 ⟨rfl,rfl⟩)
    |fail)
   go_roundg B
   case measure=>omega
   exact⟨j+1,d++(([44]:List UInt8)++Lib.itoa m),by omega,by go_num,by rw[M0,Gh];simp,by simp;omega,u,x.o.alloc _⟩
  |txt t =>
   replace D:C3 wr vb (y+j*3) (.bool false):=D;replace E:C3 wr vb (y+j*3+1) (.int .i64 0):=E;replace F:C3 wr vb (y+j*3+2) (.string ⟨t.toArray⟩):=F;replace G:t.length≤21:=G;by_cases f:j=0
   ·have J:¬(0:Int)<(j:Int):=(by omega);have u:xR (d++(([]:List UInt8)++t)=T++(([]:List UInt8)++Z4 c (j+1))):=(by show _=_;rw[H.o,if_pos f,z.o];simp[Kn]);clear f;go_wp21;go_roundg B
    case measure=>omega
    exact⟨j+1,d++(([]:List UInt8)++t),by omega,by go_num,by rw[Gh];simp,by simp;omega,u,x.o.alloc _⟩
   have J:(0:Int)<(j:Int):=(by omega);have u:xR (d++(([44]:List UInt8)++t)=T++(([]:List UInt8)++Z4 c (j+1))):=(by show _=_;rw[H.o,if_neg f,z.o];simp[Kn]);clear f;go_wp21;go_roundg B
   case measure=>omega
   exact⟨j+1,d++(([44]:List UInt8)++t),by omega,by go_num,by rw[M0,Gh];simp,by simp;omega,u,x.o.alloc _⟩
 have bf:(0:Int)<(i:Int):=by omega
 have ad:xR ((if i=0 then ([]:List UInt8) else [59])=[59]):=if_neg W;clear W;go_wp21;go_loopg [3,5] q (fun k M ae af=>∃(j:Nat) (d:List UInt8),j+k=q∧ae=.int .i64 (j:Int)∧M=.string ⟨d.toArray⟩∧d.length≤i*160+2+j*22∧xR (d=T++(([59]:List UInt8)++Z4 c j))∧Ab No w af)
 case atStart=>exact⟨0,T++(([59]:List UInt8)++Z4 c 0),by omega,rfl,by rw[M0,M0];simp[Z4,Hu],by simp[Z4,Hu];omega,Ae rfl,P.o⟩
 obtain⟨j,d,ag,rfl,rfl,bg,z,s⟩:=hrel;by_cases ah:gk=0
 ·subst ah;have ai:q=j:=by omega
  subst ai;have aj:¬(q:Int)<(q:Int):=by omega
  have ak:=(s.cell I (o:=o+i*2) xT).trans K.o;have bh:=(s.cell I (o:=o+i*2+1) xT).trans aw.o;have x:=Ae s;have al:xR (Ez 0 (l.take (i+1))=d++[41,42]++Lib.itoa g):=by show _=_;rw[a1.o,←X.o,ad.o,z.o];have:Z4 c q++[41]=Es c:=(by have:=TR (r:=c);rw[V.o] at this;exact this);rw[show E8 (c,g)=Es c++(42::Lib.itoa g) from rfl,←this];simp
  have bi:=Lib.itoa_length_le g (by omega) (by omega);clear s ag;go_wp2_with (first
   |(go_at_call 137;go_call Im g _ ay az as e w5 ⟨rfl,rfl⟩)
   |fail)
  go_roundg k
  case measure=>omega
  exact⟨i+1,d++[41,42]++Lib.itoa g,by omega,by go_num,by rw[show (⟨#[41,42]⟩:ByteArray)=⟨[41,42].toArray⟩ from rfl,Gh,Gh],by simp;omega,Ae al.o.symm,x.o⟩
 obtain⟨B,rfl⟩:=Bx ah;have aj:(j:Int)<(q:Int):=by omega
 have bj:=Bm j
 have ak:=(s.cell I (o:=o+i*2) xT).trans K.o;obtain⟨v,C⟩:∃v,c[j]? =some v:=⟨_,tT (by have:=V.o;omega)⟩;have O:=ab.o.Ag s;obtain⟨vb,y,rfl,bk,D,E,F⟩:=O.cells C;have A:=Ae (ax.o v (tV C));have G:=A.o.len;have H:=Ae (LS C);have x:=Ae s;clear s O C;cases v with
 |num m =>
  replace D:C3 wr vb (y+j*3) (.bool true):=D;replace E:C3 wr vb (y+j*3+1) (.int .i64 m):=E;replace F:C3 wr vb (y+j*3+2) (.string ⟨#[]⟩):=F;replace G:(Lib.itoa m).length≤21:=G;by_cases f:j=0
  ·have J:¬(0:Int)<(j:Int):=(by omega);have u:xR (d++(([]:List UInt8)++Lib.itoa m)=T++(([59]:List UInt8)++Z4 c (j+1))):=(by show _=_;rw[H.o,if_pos f,z.o];simp[Kn]);clear f;go_wp2_with (first
    |(go_at_call 137;go_call Im m _ A.o.1 A.o.2 as e w5 ⟨rfl,rfl⟩)
    |fail)
   go_roundg B
   case measure=>omega
   exact⟨j+1,d++(([]:List UInt8)++Lib.itoa m),by omega,by go_num,by rw[Gh];simp,by simp;omega,u,x.o.alloc _⟩
  have J:(0:Int)<(j:Int):=by omega
  have u:xR (d++(([44]:List UInt8)++Lib.itoa m)=T++(([59]:List UInt8)++Z4 c (j+1))):=by show _=_;rw[H.o,if_neg f,z.o];simp[Kn]
  clear f;go_wp2_with (first
   |(go_at_call 137;go_call Im m _ A.o.1 A.o.2 as e w5 ⟨rfl,rfl⟩)
   |fail)
  go_roundg B
  case measure=>omega
  exact⟨j+1,d++(([44]:List UInt8)++Lib.itoa m),by omega,by go_num,by rw[M0,Gh];simp,by simp;omega,u,x.o.alloc _⟩
 |txt t =>
  replace D:C3 wr vb (y+j*3) (.bool false):=D;replace E:C3 wr vb (y+j*3+1) (.int .i64 0):=E;replace F:C3 wr vb (y+j*3+2) (.string ⟨t.toArray⟩):=F;replace G:t.length≤21:=G;by_cases f:j=0
  ·have J:¬(0:Int)<(j:Int):=(by omega);have u:xR (d++(([]:List UInt8)++t)=T++(([59]:List UInt8)++Z4 c (j+1))):=(by show _=_;rw[H.o,if_pos f,z.o];simp[Kn]);clear f;go_wp21;go_roundg B
   case measure=>omega
   exact⟨j+1,d++(([]:List UInt8)++t),by omega,by go_num,by rw[Gh];simp,by simp;omega,u,x.o.alloc _⟩
  have J:(0:Int)<(j:Int):=by omega
  have u:xR (d++(([44]:List UInt8)++t)=T++(([59]:List UInt8)++Z4 c (j+1))):=by show _=_;rw[H.o,if_neg f,z.o];simp[Kn]
  clear f;go_wp21;go_roundg B
  case measure=>omega
  exact⟨j+1,d++(([44]:List UInt8)++t),by omega,by go_num,by rw[M0,Gh];simp,by simp;omega,u,x.o.alloc _⟩
end
section
variable {Z:Nat→Prop}
theorem mH {ts:List Bool}{l:Bag}(c:ts≠[])(_:ts.length≤6)(hg:∀e∈l,Ei ts e.1)(d:∀e∈l,-3000000000000≤e.2∧e.2≤3000000000000)(f:l.length≤100000000000)(lv:Value)(w:World)(h:Ct Z w lv l) :
 Calls prog 93 #[lv] w fun e w'=>e=.returned (.string ⟨(Ez 0 l).toArray⟩)∧Ab No w w':=by
 refine fW lv l w h f (fun e a=>?_) (fun e a v hv=>?_) (fun e a=>by have:=d e a;omega)
 ·have b:=(hg e a).len;refine⟨fun g=>?_,by omega⟩;rw[g] at b;have:=xI.2 c;simp at b;omega
 obtain⟨_,i,j⟩:=hg e a;have k:=i v hv;have m:=j v hv;cases v with
 |num n=>simp only[Mo.wv] at m;show _∧_;omega
 |txt s=>exact k.2.1
theorem fX {ts:List Bool}{b:Bag}(h:B2 ts b):∀e∈Ad b,Ei ts e.1:=fun _ a=>h.good (E7 a)
theorem VG.tell {tb:List Tab}{q:Q}(hg:B4 tb)(h:VG tb q)(lv:Value)(w:World)(c:Ct Z w lv (Ad (Bg (Ed tb) q))) :
 Calls prog 93 #[lv] w fun e w'=>e=.returned (.string ⟨(B8 (Cl tb q)).toArray⟩)∧Ab No w w':=by
 obtain⟨ts,d,b,_⟩:=h.ok hg;have a:=Co (Hh hg) q ts h.wf d;have f:B8 (Cl tb q)=Ez 0 (Ad (Bg (Ed tb) q)):=by unfold B8;rw[(Tg tb q).canon]
 rw[f];exact mH (fun e=>by rw[e] at a;simp at a) a.2 (fX b) (fun e g=>by have:=(Cg b e g).2;omega) (by omega) lv w c
theorem fY (w:World):Calls prog 50 #[] w fun e w'=>e=.returned (pV w.heap.size)∧w'=w.alloc (.cells #[.slice none 0 0,.slice none 0 0,.slice none 0 0] 189):=by
 go_enter func50,ntmps50;go_wp21;go_ret;exact⟨rfl,rfl⟩
theorem fZ (w:World)(b:Gq Z w):Lb (fun k=>Z k∨k=w.heap.size) (w.alloc (.cells #[.slice none 0 0,.slice none 0 0,.slice none 0 0] 189)) (fun k=>k=w.heap.size) w.heap.size ⟨[],[]⟩:=by
 refine⟨.slice none 0 0,.slice none 0 0,.slice none 0 0,[],[],[],⟨heap_alloc_new w _,World.ownsRow_nil _ _ _ _,(fun i t h=>by simp at h),World.ownsRow_nil _ _ _ _,(fun i t h=>by simp at h),World.ownsRow_nil _ _ _ _,⟨rfl,fun k l h=>by simp at h⟩,.inr rfl,(fun k e=>by simp[Value.ownBlock] at e),(fun k e=>by simp[Value.ownBlock] at e),(fun k e=>by simp[Value.ownBlock] at e),fun k a=>?_⟩,fun k=>⟨fun e=>.inl e,fun e=>?_⟩⟩
 ·rcases a with a|a
  ·have:=b k a;simp;omega
  simp;omega
 rcases e with e|e|e|e
 ·exact e
 ·simp[Value.ownBlock] at e
 ·simp[Value.ownBlock] at e
 simp[Value.ownBlock] at e
theorem YO {w:World}{Y:Nat→Prop}{y:Nat}{st:Ses}(h:Lb Z w Y y st)(hg:B4 st.tabs)(hv:∀q∈st.views,VG st.tabs q)(i:Int) :
 Calls prog 57 #[pV y,.int .i64 i] w fun e w'=>e=.returned (.tuple #[PK (Us st i).1,.int .i64 (Us st i).2])∧Ab No w w':=by
 obtain⟨tv,vv,bv,tcs,vcs,bvs,d,_⟩:=h;have c2:C3 w y 2 bv:=(Af d.obj 2).trans rfl;obtain⟨a,cap,rfl,e2,e3,e4⟩:=Hi d.bow;have u:=Bn e3
 unfold Us pV PK;by_cases hi:0≤i∧i<(st.views.length:Int)
 ·obtain⟨k,rfl⟩:∃k:Nat,i=(k:Int):=⟨i.toNat,by omega⟩;obtain⟨q,f⟩:∃q,st.views[k]? =some q:=⟨_,tT (by omega)⟩;have g:(st.views.map fun q=>Ad (Bg (Ed st.tabs) q))[k]? =some (Ad (Bg (Ed st.tabs) q)):=by rw[tX,f];rfl
  obtain⟨p,n,c,j,l⟩:=d.bgs.2 k _ g;obtain⟨b,o,rfl,_,_,_⟩:=e4 k _ j;have s:=Ae (VG.tell hg (hv q (tV f)) (.slice p n c) w l);rw[if_pos hi,show ((k:Int).toNat)=k by omega,f];simp only;generalize st.views.length=m at *;have v:¬(k:Int)<0:=by omega
  have x:¬(m:Int)≤(k:Int):=by omega
  have z:=Bm k
  have A:(k:Int)<(m:Int):=by omega
  clear hi j l g f d e3 e4;go_enter func57,ntmps57;go_wp21;go_call s.o as e w1 ⟨rfl,r⟩;have t:=Ae r;clear r;go_wp21;go_ret2;exact⟨rfl,t.o⟩
 rw[if_neg hi];simp only;generalize st.views.length=m at *;by_cases B:i<0
 ·clear hi d e3 e4;go_enter func57,ntmps57;go_wp21;go_ret2;exact⟨rfl,Ab.refl _ _⟩
 have g:(m:Int)≤i:=by omega
 clear hi d e3 e4;go_enter func57,ntmps57;go_wp21;go_ret2;exact⟨rfl,Ab.refl _ _⟩
end
end Go.Proofs.YtdinjjmcmfjbfaaGreatDoor
