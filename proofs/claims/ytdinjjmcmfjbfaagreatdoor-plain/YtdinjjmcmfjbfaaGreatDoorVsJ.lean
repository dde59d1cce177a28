import Derived.Test.YtdinjjmcmfjbfaaGreatDoorVlJ
import Derived.Test.YtdinjjmcmfjbfaaGreatDoorSvlJ
import Derived.Lib.ItoaMem
set_option maxRecDepth 100000
set_option maxHeartbeats 4000000
namespace Go.Proofs.YtdinjjmcmfjbfaaGreatDoor
open Go.RowKit
open Mo (V Row Bag Q L3 Cy ty A9 Dp Bt Md Hi B0 Nr Af Cg Be Bd Av Ac Ag wf Tab)
theorem QT {s:ByteArray}{a b:Nat}(e:Pl.Ba s 4 a=(true,b)):b=a+6:=by
 have c:Pl.Iq s a=(true,b):=e
 obtain⟨c1,d,e1⟩:=Ea c
 obtain⟨-,rfl⟩:=Ko d
 obtain⟨c2,f,g⟩:=Ea e1
 obtain⟨-,rfl⟩:=Ko f
 obtain⟨_,i,j⟩:=Ea g
 obtain⟨rfl,_⟩:=Pu i
 obtain⟨_,k,l⟩:=Ea j
 obtain⟨-,rfl⟩:=Ko k
 obtain⟨_,m,e5⟩:=Ea l
 obtain⟨rfl,_⟩:=Pu m
 obtain⟨-,h⟩:=Ko e5
 omega
theorem bY {s:ByteArray}{f a b:Nat}{q:Q}(h:Rq s f a b q):a≤s.size→5*(Ac q).length+5*Ag q≤b-a+4:=by
 induction h with
 | @tab f a b g e =>
   intro i
   have:=(Mk (Rq.tab (f:=f) g e) i).2.1
   show 5*1+5*0≤_
   omega
 | @one f a b c q g e n j o p =>
   intro i
   have t:=Pl.B4 (s:=s) (a:=b) (by omega)
   have u:=p (by omega)
   have:=(Mk j (by omega)).2.1
   have hf:=(Pl.Fk s (Pl.kd (Pl.bt s a)) a).2.2.1
   rw[e] at hf
   have k:=hf rfl
   simp only at k
   rw[Ul,Y9];omega
 | @two f a b c d q r g e n j o hr x v w =>
   intro i
   have t:=Pl.B4 (s:=s) (a:=b) (by omega)
   have y:=Pl.B4 (s:=s) (a:=c) (by omega)
   have u:=v (by omega)
   have z:=w (by omega)
   have:=(Mk j (by omega)).2.1
   have:=(Mk hr (by omega)).2.1
   have hf:=(Pl.Fk s (Pl.kd (Pl.bt s a)) a).2.2.1;have m:=e
   rw[e] at hf
   have k:=hf rfl
   simp only at k
   rw[Um,Za,Vu,kU]
   by_cases l:Pl.kd (Pl.bt s a)=4
   ·rw[l] at m
    have:=QT m
    rw[if_pos l];omega
   ·rw[if_neg l];omega
def GJ:Q→Nat
 | .tab _=>60
 | .sel _ _ _ q=>GJ q
 | .pick _ q=>GJ q
 | .join _ _ q r=>GJ q*GJ r
 | .uni q r=>GJ q+GJ r
 | .dist q=>GJ q
 | .grp _ _ q=>GJ q
theorem Py {A B:Bag}(h:Be A B):(Af A).length≤B.length:=by rw[h.canon];exact Jw B
theorem Nk {f:Nat→Bag}(h:∀i,(Af (f i)).length≤60):∀(q:Q) (i:Nat),(Af (Av f i q)).length≤GJ q
 | .tab _,i=>h i
 | .sel c k x q,i=>by
   refine lH (Py (Mo.Hf (Mo.Bv (Av f i q)).symm)) (lH ?_ (Nk h q i));exact nK _ _
 | .pick cs q,i=>by
   refine lH (Py (Mo.Fy (Mo.Bv (Av f i q)).symm)) (lH ?_ (Nk h q i));unfold Mo.B1;rw[lB];exact kZ _
 | .join n m q r,i=>by
   refine lH (Py (Mo.Ph (Mo.Bv (Av f i q)).symm (Mo.Bv (Av f (i+(Ac q).length) r)).symm)) (lH (Sx _ _ _ _) ?_);exact Nat.mul_le_mul (Nk h q i) (Nk h r _)
 | .uni q r,i=>by
   refine lH (Py (Be.append (Mo.Bv (Av f i q)).symm (Mo.Bv (Av f (i+(Ac q).length) r)).symm)) ?_
   rw[kU]
   exact Nat.add_le_add (Nk h q i) (Nk h r _)
 | .dist q,i=>by
   refine lH (Jw _) (lH ?_ (Nk h q i))
   show (Mo.I7 _).length≤_
   unfold Mo.I7;rw[lB];exact kZ _
 | .grp cs s q,i=>by
   refine lH (Jw _) (lH ?_ (Nk h q i))
   show (Mo.Ir _ _ _).length≤_
   unfold Mo.Ir Mo.Ud;rw[lB];refine lH (Jw _) ?_
   rw[lB];exact kZ _
def fv:Nat→Nat→Nat
 |0,l=>60*l
 |1,l=>900*l*l
 |_,l=>8000*l*l*l
def kQ (i j a b:Nat):Bool:=decide (fv i a+fv j b≤fv (i+j) (a+b))
def kR (i j a b:Nat):Bool:=decide (fv i a*fv j b≤fv (i+j+1) (a+b))
theorem iP:((List.range 3).all fun i=>(List.range 3).all fun j=>(List.range 25).all fun a=>(List.range 25).all fun b=>a == 0 || b == 0 || decide (2<i+j) || kQ i j a b)=true:=by kernel_rfl
theorem iQ:((List.range 2).all fun i=>(List.range 2).all fun j=>(List.range 25).all fun a=>(List.range 25).all fun b=>decide (1<i+j) || kR i j a b)=true:=by kernel_rfl
theorem bZ:((List.range 3).all fun j=>(List.range 25).all fun l=>decide (124<5*l+5*j) || decide (fv j l≤400000000))=true:=by kernel_rfl
theorem Eu:∀q:Q,1≤(Ac q).length
 | .tab _=>kZ _
 | .sel _ _ _ q=>Eu q
 | .pick _ q=>Eu q
 | .join _ _ q r=>by show 1≤(Ac q++Ac r).length;rw[kU];have:=Eu q;omega
 | .uni q r=>by show 1≤(Ac q++Ac r).length;rw[kU];have:=Eu q;omega
 | .dist q=>Eu q
 | .grp _ _ q=>Eu q
theorem Nl:∀q:Q,(Ac q).length≤24→Ag q≤2→GJ q≤fv (Ag q) (Ac q).length
 | .tab _,_,_=>kZ _
 | .sel _ _ _ q,h,k=>Nl q h k
 | .pick _ q,h,k=>Nl q h k
 | .join _ _ q r,h,k=>by
   have c:(Ac q).length+(Ac r).length≤24:=by simpa [Ac] using h
   have d:Ag q+Ag r+1≤2:=k
   have a:=Nl q (by omega) (by omega)
   have b:=Nl r (by omega) (by omega)
   show GJ q*GJ r≤fv (Ag q+Ag r+1) (Ac q++Ac r).length
   rw[kU]
   refine lH (Nat.mul_le_mul a b) ?_
   have t:=lO.1 (lO.1 (lO.1 (lO.1 iQ (Ag q) (mM.2 (by omega))) (Ag r) (mM.2 (by omega))) _ (mM.2 (show (Ac q).length<25 by omega))) _ (mM.2 (show (Ac r).length<25 by omega))
   rw[Bool.or_eq_true] at t
   rcases t with t|t
   ·have:=of_decide_eq_true t;omega
   ·exact of_decide_eq_true t
 | .uni q r,h,k=>by
   have c:(Ac q).length+(Ac r).length≤24:=by simpa [Ac] using h
   have d:Ag q+Ag r≤2:=k
   have a:=Nl q (by omega) (by omega)
   have b:=Nl r (by omega) (by omega)
   have p1:=Eu q;have p2:=Eu r
   show GJ q+GJ r≤fv (Ag q+Ag r) (Ac q++Ac r).length
   rw[kU]
   refine lH (Nat.add_le_add a b) ?_
   have t:=lO.1 (lO.1 (lO.1 (lO.1 iP (Ag q) (mM.2 (by omega))) (Ag r) (mM.2 (by omega))) _ (mM.2 (show (Ac q).length<25 by omega))) _ (mM.2 (show (Ac r).length<25 by omega))
   simp only[Bool.or_eq_true,beq_iff_eq,decide_eq_true_eq] at t
   rcases t with ((t|t)|t)|t
   ·omega
   ·omega
   ·omega
   ·exact of_decide_eq_true t
 | .dist q,h,k=>Nl q h k
 | .grp _ _ q,h,k=>Nl q h k
theorem cC {q:Q}(h:5*(Ac q).length+5*Ag q≤124)(k:Ag q≤2):GJ q≤400000000:=by
 refine lH (Nl q (by omega) k) ?_
 have t:=lO.1 (lO.1 bZ (Ag q) (mM.2 (by omega))) _ (mM.2 (show (Ac q).length<25 by omega))
 simp only[Bool.or_eq_true,decide_eq_true_eq] at t
 rcases t with t|t
 ·omega
 ·exact t
theorem Xh (tb:List Tab)(q:Q):Be (Mo.Cc tb q) (Bd (Mo.Dn tb) q):=Mo.Fz q 0 fun j nm a=>by
 unfold Mo.Dc
 rw[lK,a]
 exact Be.refl _
structure VG (tb:List Tab) (q:Q):Prop where
 wf:Mo.wf q
 lv:∀nm∈Ac q,(Mo.C8 tb nm).isSome=true
 ty:(A9 (Mo.Jy tb) q).isSome=true
 few:5*(Ac q).length+5*Ag q≤124
 jn:Ag q≤2
theorem Rh:∀(q b:Q),wf q→b∈Dv q→wf b∧(∀nm∈Ac b,nm∈Ac q)∧(Ac b).length≤(Ac q).length∧Ag b≤Ag q
 | .tab nm,b,h,a=>by have:b=.tab nm:=by simpa [Dv] using a
                     subst this;exact⟨h,fun _ x=>x,kZ _,kZ _⟩
 | .sel c k x q,b,h,a=>by
   rcases lC.1 a with a|a
   ·exact Rh q b h.2.2 a
   ·have:b=.sel c k x q:=by simpa using a
    subst this;exact⟨h,fun _ x=>x,kZ _,kZ _⟩
 | .pick cs q,b,h,a=>by
   rcases lC.1 a with a|a
   ·exact Rh q b h.2.2.2 a
   ·have:b=.pick cs q:=by simpa using a
    subst this;exact⟨h,fun _ x=>x,kZ _,kZ _⟩
 | .join _ _ _ _,_,h,_=>False.elim h
 | .uni q r,b,h,a=>by
   rcases lC.1 a with a|a
   ·rcases lC.1 a with a|a
    ·obtain⟨d,e,g,i⟩:=Rh q b h.1 a
     exact⟨d,fun x f=>mI _ (e x f),by simp only[Ac,kU];omega,by simp only[Ag];omega⟩
    ·obtain⟨d,e,g,i⟩:=Rh r b h.2 a
     exact⟨d,fun x f=>nS _ (e x f),by simp only[Ac,kU];omega,by simp only[Ag];omega⟩
   ·have:b=.uni q r:=by simpa using a
    subst this;exact⟨h,fun _ x=>x,kZ _,kZ _⟩
 | .dist _,_,h,_=>False.elim h
 | .grp _ _ _,_,h,_=>False.elim h
theorem Nm {f:List UInt8→Option (List Bool)}:∀(q b:Q),(A9 f q).isSome=true→b∈Dv q→(A9 f b).isSome=true
 | .tab nm,b,h,a=>by have:b=.tab nm:=by simpa [Dv] using a
                     subst this;exact h
 | .sel c k x q,b,h,a=>by
   rcases lC.1 a with a|a
   ·refine Nm q b ?_ a
    cases d:A9 f q with
    |none=>simp[A9,d] at h
    |some _=>rfl
   ·have:b=.sel c k x q:=by simpa using a
    subst this;exact h
 | .pick cs q,b,h,a=>by
   rcases lC.1 a with a|a
   ·refine Nm q b ?_ a
    cases d:A9 f q with
    |none=>simp[A9,d] at h
    |some _=>rfl
   ·have:b=.pick cs q:=by simpa using a
    subst this;exact h
 | .join n m q r,b,h,a=>by
   have e:(A9 f q).isSome=true∧(A9 f r).isSome=true:=by
    cases d:A9 f q with
    |none=>simp[A9,d] at h
    |some _=>cases hr:A9 f r with
     |none=>simp[A9,d,hr] at h
     |some _=>exact⟨rfl,rfl⟩
   rcases lC.1 a with a|a
   ·rcases lC.1 a with a|a
    ·exact Nm q b e.1 a
    ·exact Nm r b e.2 a
   ·have:b=.join n m q r:=by simpa using a
    subst this;exact h
 | .uni q r,b,h,a=>by
   have e:(A9 f q).isSome=true∧(A9 f r).isSome=true:=by
    cases d:A9 f q with
    |none=>simp[A9,d] at h
    |some _=>cases hr:A9 f r with
     |none=>simp[A9,d,hr] at h
     |some _=>exact⟨rfl,rfl⟩
   rcases lC.1 a with a|a
   ·rcases lC.1 a with a|a
    ·exact Nm q b e.1 a
    ·exact Nm r b e.2 a
   ·have:b=.uni q r:=by simpa using a
    subst this;exact h
 | .dist q,b,h,a=>by
   rcases lC.1 a with a|a
   ·exact Nm q b h a
   ·have:b=.dist q:=by simpa using a
    subst this;exact h
 | .grp cs s q,b,h,a=>by
   rcases lC.1 a with a|a
   ·refine Nm q b ?_ a
    cases d:A9 f q with
    |none=>simp[A9,d] at h
    |some _=>rfl
   ·have:b=.grp cs s q:=by simpa using a
    subst this;exact h
theorem VG.sub {tb:List Tab}{q a:Q}(h:VG tb q)(b:a∈Dv q):VG tb a:=by
 obtain⟨c,d,_,e⟩:=Rh q a h.wf b
 exact⟨c,fun nm f=>h.lv nm (d nm f),Nm q a h.ty b,by have:=h.few;omega,lH e h.jn⟩
theorem VG.ok {tb:List Tab}{q:Q}(hg:Mo.Bj tb)(h:VG tb q):∃ts,A9 (Mo.Jy tb) q=some ts∧B0 ts (Bd (Mo.Dn tb) q)∧(Af (Bd (Mo.Dn tb) q)).length≤400000000:=by
 cases b:A9 (Mo.Jy tb) q with
 |none=>have:=h.ty;rw[b] at this;cases this
 |some ts =>
  have a:=Mo.Iy hg q
  have d:(Ac q).length≤120:=by have:=h.few;omega
  have e:=Mo.YP (Mo.F8 hg) a.2 q h.wf d h.jn 0 (Mo.Ou hg q) b
  refine⟨ts,rfl,e.eqv (Xh tb q),?_⟩
  have c:(Af (Mo.Cc tb q)).length≤GJ q:=Nk (fun i=>by
   have f:=Mo.Ma (a.1.nn i);have g:=a.1.rows i
   omega) q 0
  rw[(Xh tb q).canon] at c
  exact lH c (cC h.few h.jn)
theorem VG.kF {tb:List Tab}{q:Q}(hg:Mo.Bj tb)(h:VG tb q):kB (Mo.Jy tb) (Mo.Dn tb) (Dv q):=by
 exact⟨fun b a=>(h.sub a).ok hg,fun b a=>(h.sub a).wf⟩
theorem Fu:∀(q:Q) (nm:List UInt8),.tab nm∈Dv q→nm∈Ac q
 | .tab nm',nm,h=>by have:nm=nm':=by simpa [Dv] using h
                     subst this;simp[Ac]
 | .sel c k x q,nm,h=>by
   rcases lC.1 h with h|h
   ·exact Fu q nm h
   ·simp at h
 | .pick cs q,nm,h=>by
   rcases lC.1 h with h|h
   ·exact Fu q nm h
   ·simp at h
 | .join n m q r,nm,h=>by
   rcases lC.1 h with h|h
   ·rcases lC.1 h with h|h
    ·exact mI _ (Fu q nm h)
    ·exact nS _ (Fu r nm h)
   ·simp at h
 | .uni q r,nm,h=>by
   rcases lC.1 h with h|h
   ·rcases lC.1 h with h|h
    ·exact mI _ (Fu q nm h)
    ·exact nS _ (Fu r nm h)
   ·simp at h
 | .dist q,nm,h=>by
   rcases lC.1 h with h|h
   ·exact Fu q nm h
   ·simp at h
 | .grp cs s q,nm,h=>by
   rcases lC.1 h with h|h
   ·exact Fu q nm h
   ·simp at h
theorem Hq:∀(q:Q) (nm:List UInt8),nm∈Ac q→.tab nm∈Dv q
 | .tab nm',nm,h=>by have:nm=nm':=by simpa [Ac] using h
                     subst this;simp[Dv]
 | .sel c k x q,nm,h=>mI _ (Hq q nm h)
 | .pick cs q,nm,h=>mI _ (Hq q nm h)
 | .join n m q r,nm,h=>by
   rcases lC.1 h with h|h
   ·exact mI _ (mI _ (Hq q nm h))
   ·exact mI _ (nS _ (Hq r nm h))
 | .uni q r,nm,h=>by
   rcases lC.1 h with h|h
   ·exact mI _ (mI _ (Hq q nm h))
   ·exact mI _ (nS _ (Hq r nm h))
 | .dist q,nm,h=>mI _ (Hq q nm h)
 | .grp cs s q,nm,h=>mI _ (Hq q nm h)
open Mo (V Row Bag Q ty Af Bd Ac Tab)
variable {Z Z' S:Nat→Prop} {w w':World}
def Ku (t:Tab):UT:=⟨t.nm,Ht t.ts,Af t.bag⟩
def Zk (Z:Nat→Prop)(w:World)(tcs:List Value)(tb:List Tab):Prop:=∀(i:Nat) (t:Tab),tb[i]? =some t→∃p n c,tcs[i*3]? =some (.string ⟨t.nm.toArray⟩)∧tcs[i*3+1]? =some (.string ⟨(Ht t.ts).toArray⟩)∧tcs[i*3+2]? =some (.slice p n c)∧Dt Z w (.slice p n c) (Af t.bag)
theorem Zk.Br {tcs:List Value}{tb:List Tab}(h:Zk Z w tcs tb)(k:Ab S w w')(a:∀i,S i→Z i):Zk Z w' tcs tb:=fun i t b=>by
 obtain⟨p,n,c,d,e,f,g⟩:=h i t b
 exact⟨p,n,c,d,e,f,g.Br k a⟩
theorem Zk.Lv {tcs:List Value}{tb:List Tab}(h:Zk Z w tcs tb)(a:∀k,k<w.heap.size→Z' k→Z k):Zk Z' w tcs tb:=fun i t b=>by
 obtain⟨p,n,c,d,e,f,g⟩:=h i t b
 exact⟨p,n,c,d,e,f,g.Lv a⟩
theorem Pc {base:Nat}{tv:Value}{tcs:List Value}{tb:List Tab}(ho:w.ownsRow base 197 3 tv tb.length tcs)(h:Zk Z w tcs tb):Lj Z w tv (tb.map Ku):=by
 rcases ho with ⟨_,⟨rfl,d⟩|⟨g,cap,_,rfl,_,hg,e,f,_,j⟩⟩
 ·have:tb=[]:=lP d
  subst this
  exact⟨none,0,rfl,by simp,by simp,fun i c l=>by simp at l⟩
 ·refine⟨some ⟨g,0,none⟩,cap,by rw[lB],by rw[lB];exact e,f,fun i b a=>?_⟩
  rw[kX] at a
  obtain⟨t,m,rfl⟩:=lJ.1 a
  obtain⟨p,n,c,e1,o,q,r⟩:=h i t m
  have key:∀k b,tcs[k]? =some b→w.cell? ⟨g,0+k,none⟩=some b:=fun k b a=>by
   rw[←j,lM] at a
   split at a
   ·rw[Ae hg,lK,←lU];exact a
   ·cases a
  exact⟨g,0,p,n,c,rfl,Aa hg,key _ _ e1,key _ _ o,key _ _ q,r⟩
theorem Zk.push {tcs:List Value}{tb:List Tab}(h:Zk Z w tcs tb)(b:tcs.length=tb.length*3){t:Tab}{p:Option Addr}{n c:Nat}(g:Dt Z w (.slice p n c) (Af t.bag)):Zk Z w (tcs++[.string ⟨t.nm.toArray⟩,.string ⟨(Ht t.ts).toArray⟩,.slice p n c]) (tb++[t]):=fun i x a=>by
 by_cases hi:i<tb.length
 ·rw[lA hi] at a
  obtain⟨j,k,l,d,e,f,m⟩:=h i x a
  refine⟨j,k,l,?_,?_,?_,m⟩
  ·rw[lA (kS.1 d).1];exact d
  ·rw[lA (kS.1 e).1];exact e
  ·rw[lA (kS.1 f).1];exact f
 ·rw[kY (by omega)] at a
  have o:i-tb.length=0:=by
   have:=(kS.1 a).1
   simp at this;omega
  rw[o] at a
  have q:t=x:=by simpa using a
  subst q
  have r:i=tb.length:=by omega
  subst r
  refine⟨p,n,c,?_,?_,?_,g⟩
  ·rw[kY (by omega),b,show tb.length*3-tb.length*3=0 by omega];rfl
  ·rw[kY (by omega),b,show tb.length*3+1-tb.length*3=1 by omega];rfl
  ·rw[kY (by omega),b,show tb.length*3+2-tb.length*3=2 by omega];rfl
def YT (Z:Nat→Prop)(w:World)(vcs:List Value)(qs:List Q):Prop:=∀(i:Nat) (q:Q),qs[i]? =some q→∃p n c,vcs[i]? =some (.slice p n c)∧Gi Z w (.slice p n c) (Dv q)∧(Dv q).length≤1000
theorem YT.Br {vcs:List Value}{qs:List Q}(h:YT Z w vcs qs)(k:Ab S w w')(a:∀i,S i→Z i):YT Z w' vcs qs:=fun i t b=>by
 obtain⟨p,n,c,d,e,f⟩:=h i t b
 exact⟨p,n,c,d,e.Br k a,f⟩
theorem YT.Lv {vcs:List Value}{qs:List Q}(h:YT Z w vcs qs)(a:∀k,k<w.heap.size→Z' k→Z k):YT Z' w vcs qs:=fun i t b=>by
 obtain⟨p,n,c,d,e,f⟩:=h i t b
 exact⟨p,n,c,d,e.Lv a,f⟩
theorem YT.push {vcs:List Value}{qs:List Q}(h:YT Z w vcs qs)(e:vcs.length=qs.length){q:Q}{p:Option Addr}{n c:Nat}(f:Gi Z w (.slice p n c) (Dv q))(g:(Dv q).length≤1000):YT Z w (vcs++[.slice p n c]) (qs++[q]):=fun i x a=>by
 by_cases hi:i<qs.length
 ·rw[lA hi] at a
  obtain⟨j,k,l,b,m,o⟩:=h i x a
  exact⟨j,k,l,by rw[lA (kS.1 b).1];exact b,m,o⟩
 ·rw[kY (by omega)] at a
  have d:i-qs.length=0:=by
   have:=(kS.1 a).1
   simp at this;omega
  rw[d] at a
  have r:q=x:=by simpa using a
  subst r
  exact⟨p,n,c,by rw[kY (by omega),e,d];rfl,f,g⟩
structure Nn (Z:Nat→Prop) (w:World) (y:Nat) (st:Mo.Ses) (tv vv bv:Value) (tcs vcs bvs:List Value):Prop where
 obj:w.heap[y]? =some (.cells #[tv,vv,bv] 189 (0,0))
 tow:w.ownsRow 0 197 3 tv st.tabs.length tcs
 tcs:Zk Z w tcs st.tabs
 vow:w.ownsRow 0 198 1 vv st.views.length vcs
 vcs:YT Z w vcs st.views
 bow:w.ownsRow 0 195 1 bv st.views.length bvs
 bgs:Cf Z w bvs (st.views.map fun q=>Af (Bd (Mo.Dn st.tabs) q))
 zy:Z y
 zt:∀k,tv.ownBlock=some k→Z k
 zv:∀k,vv.ownBlock=some k→Z k
 zb:∀k,bv.ownBlock=some k→Z k
 old:Ga Z w
def Np (y:Nat)(tv vv bv:Value):Nat→Prop:=fun k=>k=y∨tv.ownBlock=some k∨vv.ownBlock=some k∨bv.ownBlock=some k
def Jr (Z:Nat→Prop)(w:World)(Y:Nat→Prop)(y:Nat)(st:Mo.Ses):Prop:=∃tv vv bv tcs vcs bvs,Nn Z w y st tv vv bv tcs vcs bvs∧∀k,Y k↔Np y tv vv bv k
section
variable {y:Nat} {st:Mo.Ses} {tv vv bv:Value} {tcs vcs bvs:List Value} {Y:Nat→Prop}
theorem Nn.z (h:Nn Z w y st tv vv bv tcs vcs bvs){k:Nat}(a:Np y tv vv bv k):Z k:=by
 rcases a with rfl|a|a|a
 ·exact h.zy
 ·exact h.zt k a
 ·exact h.zv k a
 ·exact h.zb k a
theorem Jr.z (h:Jr Z w Y y st){k:Nat}(a:Y k):Z k:=by
 obtain⟨_,_,_,_,_,_,b,c⟩:=h
 exact b.z ((c k).1 a)
theorem Jr.old (h:Jr Z w Y y st):Ga Z w:=by obtain⟨_,_,_,_,_,_,a,_⟩:=h;exact a.old
theorem Nn.other (h:Nn Z w y st tv vv bv tcs vcs bvs)(k:Ab S w w')(c:∀i,S i→Z' i∧¬Np y tv vv bv i)(a:∀i,i<w.heap.size→Z' i→Z i)(d:∀i,Z i→Z' i)(ho:Ga Z' w'):Nn Z' w' y st tv vv bv tcs vcs bvs where
 obj:=(k.block y (Aa h.obj) (fun s=>(c y s).2 (.inl rfl))).trans h.obj
 tow:=Ak h.tow k (fun b a s=>(c b s).2 (.inr (.inl a)))
 tcs:=(h.tcs.Lv a).Br k (fun i s=>(c i s).1)
 vow:=Ak h.vow k (fun b a s=>(c b s).2 (.inr (.inr (.inl a))))
 vcs:=(h.vcs.Lv a).Br k (fun i s=>(c i s).1)
 bow:=Ak h.bow k (fun b a s=>(c b s).2 (.inr (.inr (.inr a))))
 bgs:=(h.bgs.Lv a).Br k (fun i s=>(c i s).1)
 zy:=d y h.zy
 zt:=fun k e=>d k (h.zt k e)
 zv:=fun k e=>d k (h.zv k e)
 zb:=fun k e=>d k (h.zb k e)
 old:=ho
theorem Jr.other (h:Jr Z w Y y st)(k:Ab S w w')(a:∀i,S i→Z' i∧¬Y i)(c:∀i,i<w.heap.size→Z' i→Z i)(d:∀i,Z i→Z' i)(ho:Ga Z' w'):Jr Z' w' Y y st:=by
 obtain⟨tv,vv,bv,tcs,vcs,bvs,e,b⟩:=h
 exact⟨tv,vv,bv,tcs,vcs,bvs,e.other k (fun i s=>⟨(a i s).1,fun f=>(a i s).2 ((b i).2 f)⟩) c d ho,b⟩
theorem Jr.Ah (h:Jr Z w Y y st)(k:Ab No w w'):Jr Z w' Y y st:=h.other k (fun _ s=>s.elim) (fun _ _ a=>a) (fun _ a=>a) (h.old.up k.size)
end
theorem Nq:∀(tb:List Tab) (nm:List UInt8),(Mo.C8 tb nm=none→Zh (tb.map Ku) nm= -1)∧∀t,Mo.C8 tb nm=some t→∃k:Nat,Zh (tb.map Ku) nm=(k:Int)∧tb[k]? =some t
 | [],nm=>⟨fun _=>rfl,fun t h=>by cases h⟩
 |x::tb,nm=>by
  obtain⟨c,d⟩:=Nq tb nm
  have e:Zh ((x::tb).map Ku) nm=if x.nm=nm then 0 else if Zh (tb.map Ku) nm= -1 then -1 else Zh (tb.map Ku) nm+1:=rfl
  have a:Mo.C8 (x::tb) nm=if x.nm=nm then some x else Mo.C8 tb nm:=by
   unfold Mo.C8
   rw[List.find?_cons]
   by_cases b:x.nm=nm
   ·simp[b]
   ·simp[b]
  by_cases b:x.nm=nm
  ·rw[if_pos b] at e a
   refine⟨(fun h=>by rw[a] at h;cases h),fun t h=>⟨0,e,?_⟩⟩
   rw[a] at h
   exact h
  ·rw[if_neg b] at e a
   refine⟨fun h=>?_,fun t h=>?_⟩
   ·rw[a] at h;rw[e,c h];rfl
   ·rw[a] at h
    obtain⟨k,f,g⟩:=d t h
    refine⟨k+1,?_,g⟩
    rw[e,f,if_neg (by omega)];omega
end Go.Proofs.YtdinjjmcmfjbfaaGreatDoor
namespace Go.Proofs.YtdinjjmcmfjbfaaGreatDoor
open Go.RowKit
theorem BM (d:Nat)(h:d<10):(⟨#[48,49,50,51,52,53,54,55,56,57]⟩:ByteArray).extract d (d+1)=⟨#[UInt8.ofNat (48+d)]⟩:=by
 have:d=0∨d=1∨d=2∨d=3∨d=4∨d=5∨d=6∨d=7∨d=8∨d=9:=by omega
 rcases this with rfl|rfl|rfl|rfl|rfl|rfl|rfl|rfl|rfl|rfl <;> rfl
theorem Vb (c:UInt8)(s:List UInt8):(⟨#[c]⟩:ByteArray)++⟨s.toArray⟩=⟨(c::s).toArray⟩:=by
 apply ByteArray.ext
 rw[ByteArray.data_append]
 simp
theorem cD {a:Nat}(h:¬a<10):Lib.decDigits a=Lib.decDigits (a / 10)++[UInt8.ofNat (48+a % 10)]:=by rw[Lib.decDigits,dif_neg h]
theorem QU {a:Nat}(h:a<10):Lib.decDigits a=[UInt8.ofNat (48+a)]:=by rw[Lib.decDigits,dif_pos h]
theorem cE (a:Nat)(h:a≤9000000000000000000):(Lib.decDigits a).length≤21:=by
 have:=Lib.itoa_length_le (a:Int) (by omega) (by omega)
 rw[Lib.itoa_nonneg] at this;exact this
theorem FP {k a:Nat}{s:List UInt8}(h:Lib.decDigits k++s=Lib.decDigits a)(b:a≤9000000000000000000):s.length≤21:=by
 have c:=congrArg List.length h;have d:=cE a b
 rw[kU] at c;omega
theorem FQ {k a:Nat}{s:List UInt8}(h:Lib.decDigits k++s=Lib.decDigits a)(b:k<10):(⟨#[48,49,50,51,52,53,54,55,56,57]⟩:ByteArray).extract k (k+1)++⟨s.toArray⟩=⟨(Lib.decDigits a).toArray⟩:=by
 rw[BM k b,Vb,←h,QU b];rfl
theorem FR {k a:Nat}{s:List UInt8}(h:Lib.decDigits k++s=Lib.decDigits a)(b:¬k<10):Lib.decDigits (k / 10)++(UInt8.ofNat (48+k % 10)::s)=Lib.decDigits a:=by
 rw[←h,cD b];simp
theorem XM (a b c:ByteArray):a++b++c=a++(b++c):=by apply ByteArray.ext;simp[ByteArray.data_append]
theorem fW (a:ByteArray):(⟨#[]⟩:ByteArray)++a=a:=by apply ByteArray.ext;rw[ByteArray.data_append];simp
theorem G7 (x:Int)(w:World)(_: -9000000000000000000≤x)(_:x≤9000000000000000000) :
 Calls Tryz.prog 137 #[.int .i64 x] w fun e w'=>e=.returned (.string ⟨(Lib.itoa x).toArray⟩)∧w'=w:=by
 by_cases u:x<0
 ·obtain⟨a,v⟩:∃a:Nat,-x=(a:Int):=⟨x.natAbs,by omega⟩
  have i:a≤9000000000000000000:=by omega
  have j:oH (Lib.itoa x=45::Lib.decDigits a):=by show _=_;unfold Lib.itoa;rw[if_pos u,show x.natAbs=a by omega]
  have F:IntKind.i64.wrap (-x)=(a:Int):=by rw[IntWalk.i64_in _ (by omega)];exact v
  go_enter Tryz.func137,Tryz.ntmps137
  go_wp2_with fail
  go_loopg [0,4] a (fun k l m wr=>wr=w∧k≤a∧l=.int .i64 (k:Int)∧∃s:List UInt8,m=.string ⟨s.toArray⟩∧oH (Lib.decDigits k++s=Lib.decDigits a))
  case atStart=>exact⟨rfl,kZ _,by go_num,[],rfl,Ad (by simp)⟩
  case round =>
   obtain⟨rfl,y,rfl,s,rfl,b⟩:=hrel
   have z:=FP b.o i
   by_cases c:gk<10
   ·have n:¬(9:Int)<(gk:Int):=by omega
    have o:(0:Int)≤(gk:Int):=by omega
    have p:(gk:Int)≤(gk:Int)+1:=by omega
    have r:(gk:Int)+1≤10:=by omega
    go_wp2_with fail;go_ret
    exact⟨Gx (by rw[j.o,XM,FQ b.o c,Vb]),rfl⟩
   ·have n:(9:Int)<(gk:Int):=by omega
    have f:=Ad (FR b.o c)
    obtain⟨d,g⟩:∃d:Nat,gk % 10=d:=⟨_,rfl⟩
    have t:d<10:=by omega
    have A:(gk:Int) % 10=(d:Int):=by omega
    have B:(gk:Int).tmod 10=(d:Int):=by rw[nT (by omega)];omega
    obtain⟨q,h⟩:∃q:Nat,gk / 10=q:=⟨_,rfl⟩
    have C:(gk:Int) / 10=(q:Int):=by omega
    have D:(gk:Int).tdiv 10=(q:Int):=by rw[Int.tdiv_eq_ediv_of_nonneg (by omega)];omega
    have E:q<gk:=by omega
    rw[g,h] at f
    have HD:=Ad t
    have o:(0:Int)≤(d:Int):=by omega
    have p:(d:Int)≤(d:Int)+1:=by omega
    have r:(d:Int)+1≤10:=by omega
    clear g h;go_wp2_with fail;go_roundg q
    case measure=>omega
    case rel=>exact⟨rfl,by omega,by go_num,UInt8.ofNat (48+d)::s,by rw[BM d HD.o,Vb],f⟩
 ·obtain⟨a,rfl⟩:∃a:Nat,x=(a:Int):=⟨x.toNat,by omega⟩
  have i:a≤9000000000000000000:=by omega
  have j:oH (Lib.itoa (a:Int)=Lib.decDigits a):=Lib.itoa_nonneg a
  go_enter Tryz.func137,Tryz.ntmps137
  go_wp2_with fail
  go_loopg [0,4] a (fun k l m wr=>wr=w∧k≤a∧l=.int .i64 (k:Int)∧∃s:List UInt8,m=.string ⟨s.toArray⟩∧oH (Lib.decDigits k++s=Lib.decDigits a))
  case atStart=>exact⟨rfl,kZ _,by go_num,[],rfl,Ad (by simp)⟩
  case round =>
   obtain⟨rfl,y,rfl,s,rfl,b⟩:=hrel
   have z:=FP b.o i
   by_cases c:gk<10
   ·have n:¬(9:Int)<(gk:Int):=by omega
    have o:(0:Int)≤(gk:Int):=by omega
    have p:(gk:Int)≤(gk:Int)+1:=by omega
    have r:(gk:Int)+1≤10:=by omega
    go_wp2_with fail;go_ret
    exact⟨Gx (by rw[j.o];(try rw[fW]);exact FQ b.o c),rfl⟩
   ·have n:(9:Int)<(gk:Int):=by omega
    have f:=Ad (FR b.o c)
    obtain⟨d,g⟩:∃d:Nat,gk % 10=d:=⟨_,rfl⟩
    have t:d<10:=by omega
    have A:(gk:Int) % 10=(d:Int):=by omega
    have B:(gk:Int).tmod 10=(d:Int):=by rw[nT (by omega)];omega
    obtain⟨q,h⟩:∃q:Nat,gk / 10=q:=⟨_,rfl⟩
    have C:(gk:Int) / 10=(q:Int):=by omega
    have D:(gk:Int).tdiv 10=(q:Int):=by rw[Int.tdiv_eq_ediv_of_nonneg (by omega)];omega
    have E:q<gk:=by omega
    rw[g,h] at f
    have HD:=Ad t
    have o:(0:Int)≤(d:Int):=by omega
    have p:(d:Int)≤(d:Int)+1:=by omega
    have r:(d:Int)+1≤10:=by omega
    clear g h;go_wp2_with fail;go_roundg q
    case measure=>omega
    case rel=>exact⟨rfl,by omega,by go_num,UInt8.ofNat (48+d)::s,by rw[BM d HD.o,Vb],f⟩
open Mo (V Row Bag)
variable {Z:Nat→Prop}
def iR:V→Prop
 | .num n=> -9000000000000000000≤n∧n≤9000000000000000000
 | .txt s=>s.length≤4
theorem iR.len {v:V}(h:iR v):(I9 v).length≤21:=by
 cases v with
 |num n=>exact Lib.itoa_length_le n (by have:=h.1;omega) (by have:=h.2;omega)
 |txt s=>have:s.length≤4:=h;show s.length≤21;omega
def Xi (r:Row)(k:Nat):List UInt8:=40::Gs 0 (r.take k)
theorem FT {r:Row}{k:Nat}{v:V}(h:r[k]? =some v):Xi r (k+1)=Xi r k++((if k=0 then [] else [44])++I9 v):=by
 have a:(r.take k).length=k:=by have:=(kS.1 h).1;rw[lV];omega
 unfold Xi
 rw[lL,h]
 show 40::Gs 0 (r.take k++[v])=_
 rw[V4,a,lK];rfl
theorem MO {r:Row}:Xi r r.length++[41]=Dz r:=by
 unfold Xi Dz
 rw[mK];rfl
theorem XN {l:Bag}{i:Nat}{e:Row×Int}(h:l[i]? =some e):D9 0 (l.take (i+1))=D9 0 (l.take i)++((if i=0 then [] else [59])++Ed e):=by
 have a:(l.take i).length=i:=by have:=(kS.1 h).1;rw[lV];omega
 rw[lL,h]
 show D9 0 (l.take i++[e])=_
 rw[V6,a,lK]
theorem Ln (a:List UInt8)(c:UInt8):(⟨a.toArray⟩:ByteArray)++⟨#[c]⟩=⟨(a++[c]).toArray⟩:=Gh a [c]
theorem XQ (lv:Value)(l:Bag)(w:World)(h:Dt Z w lv l)(a2:l.length≤100000000000)(am:∀e∈l,e.1≠[]∧e.1.length≤6)(hv:∀e∈l,∀v∈e.1,iR v)(an:∀e∈l,-9000000000000000000≤e.2∧e.2≤9000000000000000000) :
 Calls Tryz.prog 93 #[lv] w fun e w'=>e=.returned (.string ⟨(D9 0 l).toArray⟩)∧Ab No w w':=by
 have ao:=Ad h;have a3:=Ad am;have a4:=Ad hv;have a5:=Ad an
 obtain⟨a,cap,rfl,a6,ap,-⟩:=h
 obtain⟨n,L⟩:∃n,l.length=n:=⟨_,rfl⟩
 have aq:=Ad L
 rw[L] at a6 a2
 rw[L] at ao
 rw[L]
 clear L am hv an
 have bo:cap≤9223372036854775807:=by unfold maxLen at ap;omega
 clear ap
 go_enter Tryz.func93,Tryz.ntmps93
 go_wp2_with fail
 go_loopg [3,4] n (fun k M a7 wr=>∃(i:Nat) (T:List UInt8),i+k=n∧a7=.int .i64 (i:Int)∧M=.string ⟨T.toArray⟩∧T.length≤i*160∧oH (T=D9 0 (l.take i))∧Ab No w wr)
 case atStart=>exact⟨0,[],by omega,rfl,rfl,by simp,Ad rfl,Ab.refl _ _⟩
 case round =>
  obtain⟨i,T,_,rfl,rfl,_,X,N⟩:=hrel
  by_cases a8:gk=0
  ·subst a8
   have a9:¬(i:Int)<(n:Int):=by omega
   have ba:oH (T=D9 0 l):=by
    have ar:=X.o
    rw[show i=l.length by rw[aq.o];omega,mK] at ar
    exact ar
   have P:=Ad N;clear N;go_wp2_with fail;go_ret
   exact⟨Gx (by rw[ba.o]),P.o⟩
  ·obtain⟨k,rfl⟩:∃k,gk=k+1:=⟨gk-1,by omega⟩
   have a9:(i:Int)<(n:Int):=by omega
   have bp:(0:Int)≤(i:Int):=by omega
   obtain⟨e,Q⟩:∃e,l[i]? =some e:=⟨_,kT (by have:=aq.o;omega)⟩
   have R:=kW Q
   obtain⟨c,g⟩:=e
   obtain⟨_,_,Y,_,_,au⟩:=id ao.o
   injection Y with e1 bb bc
   subst e1
   obtain⟨b,o,p,bd,aa,rfl,I,S,c1,av⟩:=au i (c,g) Q
   have c1:w.cell? ⟨b,o+i*2+1,none⟩=some (.int .i64 g):=c1;have ab:oH (Ei Z w (.slice p bd aa) c):=av;have K:=Ad S;have aw:=Ad c1;have ax:=Ad (a4.o _ R);have ac:=a5.o _ R;have ay: -9000000000000000000≤g:=ac.1;have az:g≤9000000000000000000:=ac.2;have be:c.length≤6:=(a3.o _ R).2
   obtain⟨_,_,Y,bf,a0,-⟩:=av
   injection Y with bg e5 bh
   subst bg e5 bh
   have bq:aa≤9223372036854775807:=by unfold maxLen at a0;omega
   obtain⟨q,U⟩:∃q,c.length=q:=⟨_,rfl⟩
   have V:=Ad U
   have a1:oH (D9 0 (l.take (i+1))=D9 0 (l.take i)++((if i=0 then [] else [59])++Ed (c,g))):=XN Q
   rw[U] at ab bf be
   rw[U] at K
   have S:w.cell? ⟨b,o+i*2,none⟩=some (.slice p q aa):=K.o;have br:=(N.cell I (o:=o+i*2) oI).trans S;have P:=Ad N;clear N au bb bc ac R Q S c1 U a0
   by_cases W:i=0
   ·have bi:¬(0:Int)<(i:Int):=by omega
    have ad:oH ((if i=0 then ([]:List UInt8) else [59])=[]):=if_pos W
    clear W;go_wp2_with fail
    go_loopg [3,5] q (fun k M ae af=>∃(j:Nat) (d:List UInt8),j+k=q∧ae=.int .i64 (j:Int)∧M=.string ⟨d.toArray⟩∧d.length≤i*160+2+j*22∧oH (d=T++(([]:List UInt8)++Xi c j))∧Ab No w af)
    case atStart=>exact⟨0,T++(([]:List UInt8)++Xi c 0),by omega,rfl,by rw[Ln];simp[Xi,Gs],by simp[Xi,Gs];omega,Ad rfl,P.o⟩
    case round =>
     obtain⟨j,d,ag,rfl,rfl,bj,z,s⟩:=hrel
     by_cases ah:gk=0
     ·subst ah
      have ai:q=j:=by omega
      subst ai
      have aj:¬(q:Int)<(q:Int):=by omega
      have ak:=(s.cell I (o:=o+i*2) oI).trans K.o;have bk:=(s.cell I (o:=o+i*2+1) oI).trans aw.o;have x:=Ad s
      have al:oH (D9 0 (l.take (i+1))=d++[41,42]++Lib.itoa g):=by
       show _=_
       rw[a1.o,←X.o,ad.o,z.o]
       have:Xi c q++[41]=Dz c:=by have:=MO (r:=c);rw[V.o] at this;exact this
       rw[show Ed (c,g)=Dz c++(42::Lib.itoa g) from rfl,←this]
       simp
      have bl:=Lib.itoa_length_le g (by omega) (by omega)
      clear s ag
      go_wp2_with (first
       |(go_at_call 137;refine (G7 g _ ay az).mono ?_;rintro e w5 ⟨rfl,rfl⟩)
       |fail)
      go_roundg k
      case measure=>omega
      case rel=>exact⟨i+1,d++[41,42]++Lib.itoa g,by omega,by go_num,by rw[show (⟨#[41,42]⟩:ByteArray)=⟨[41,42].toArray⟩ from rfl,Gh,Gh],by simp;omega,Ad al.o.symm,x.o⟩
     ·obtain⟨B,rfl⟩:∃k,gk=k+1:=⟨gk-1,by omega⟩
      have aj:(j:Int)<(q:Int):=by omega
      have bm:(0:Int)≤(j:Int):=by omega
      have ak:=(s.cell I (o:=o+i*2) oI).trans K.o
      obtain⟨v,C⟩:∃v,c[j]? =some v:=⟨_,kT (by have:=V.o;omega)⟩
      have O:=ab.o.Ah s
      obtain⟨vb,y,rfl,bn,D,E,F⟩:=O.cells C
      have A:=Ad (ax.o v (kW C));have G:=A.o.len;have H:=Ad (FT C);have x:=Ad s;clear s O C
      cases v with
      |num m =>
       replace D:wr.cell? ⟨vb,y+j*3,none⟩=some (.bool true):=D;replace E:wr.cell? ⟨vb,y+j*3+1,none⟩=some (.int .i64 m):=E;replace F:wr.cell? ⟨vb,y+j*3+2,none⟩=some (.string ⟨#[]⟩):=F;replace G:(Lib.itoa m).length≤21:=G
       by_cases f:j=0
       ·have J:¬(0:Int)<(j:Int):=by omega
        have u:oH (d++(([]:List UInt8)++Lib.itoa m)=T++(([]:List UInt8)++Xi c (j+1))):=by
         show _=_
         rw[H.o,if_pos f,z.o]
         simp[I9]
        clear f
        go_wp2_with (first
         |(go_at_call 137;refine (G7 m _ A.o.1 A.o.2).mono ?_;rintro e w5 ⟨rfl,rfl⟩)
         |fail)
        go_roundg B
        case measure=>omega
        case rel=>exact⟨j+1,d++(([]:List UInt8)++Lib.itoa m),by omega,by go_num,by rw[Gh];simp,by simp;omega,u,x.o.alloc _⟩
       ·have J:(0:Int)<(j:Int):=by omega
        have u:oH (d++(([44]:List UInt8)++Lib.itoa m)=T++(([]:List UInt8)++Xi c (j+1))):=by
         show _=_
         rw[H.o,if_neg f,z.o]
         simp[I9]
        clear f
        go_wp2_with (first
         |(go_at_call 137;refine (G7 m _ A.o.1 A.o.2).mono ?_;rintro e w5 ⟨rfl,rfl⟩)
         |fail)
        go_roundg B
        case measure=>omega
        case rel=>exact⟨j+1,d++(([44]:List UInt8)++Lib.itoa m),by omega,by go_num,by rw[Ln,Gh];simp,by simp;omega,u,x.o.alloc _⟩
      |txt t =>
       replace D:wr.cell? ⟨vb,y+j*3,none⟩=some (.bool false):=D;replace E:wr.cell? ⟨vb,y+j*3+1,none⟩=some (.int .i64 0):=E;replace F:wr.cell? ⟨vb,y+j*3+2,none⟩=some (.string ⟨t.toArray⟩):=F;replace G:t.length≤21:=G
       by_cases f:j=0
       ·have J:¬(0:Int)<(j:Int):=by omega
        have u:oH (d++(([]:List UInt8)++t)=T++(([]:List UInt8)++Xi c (j+1))):=by
         show _=_
         rw[H.o,if_pos f,z.o]
         simp[I9]
        clear f;go_wp2_with fail;go_roundg B
        case measure=>omega
        case rel=>exact⟨j+1,d++(([]:List UInt8)++t),by omega,by go_num,by rw[Gh];simp,by simp;omega,u,x.o.alloc _⟩
       ·have J:(0:Int)<(j:Int):=by omega
        have u:oH (d++(([44]:List UInt8)++t)=T++(([]:List UInt8)++Xi c (j+1))):=by
         show _=_
         rw[H.o,if_neg f,z.o]
         simp[I9]
        clear f;go_wp2_with fail;go_roundg B
        case measure=>omega
        case rel=>exact⟨j+1,d++(([44]:List UInt8)++t),by omega,by go_num,by rw[Ln,Gh];simp,by simp;omega,u,x.o.alloc _⟩
   ·have bi:(0:Int)<(i:Int):=by omega
    have ad:oH ((if i=0 then ([]:List UInt8) else [59])=[59]):=if_neg W
    clear W;go_wp2_with fail
    go_loopg [3,5] q (fun k M ae af=>∃(j:Nat) (d:List UInt8),j+k=q∧ae=.int .i64 (j:Int)∧M=.string ⟨d.toArray⟩∧d.length≤i*160+2+j*22∧oH (d=T++(([59]:List UInt8)++Xi c j))∧Ab No w af)
    case atStart=>exact⟨0,T++(([59]:List UInt8)++Xi c 0),by omega,rfl,by rw[Ln,Ln];simp[Xi,Gs],by simp[Xi,Gs];omega,Ad rfl,P.o⟩
    case round =>
     obtain⟨j,d,ag,rfl,rfl,bj,z,s⟩:=hrel
     by_cases ah:gk=0
     ·subst ah
      have ai:q=j:=by omega
      subst ai
      have aj:¬(q:Int)<(q:Int):=by omega
      have ak:=(s.cell I (o:=o+i*2) oI).trans K.o;have bk:=(s.cell I (o:=o+i*2+1) oI).trans aw.o;have x:=Ad s
      have al:oH (D9 0 (l.take (i+1))=d++[41,42]++Lib.itoa g):=by
       show _=_
       rw[a1.o,←X.o,ad.o,z.o]
       have:Xi c q++[41]=Dz c:=by have:=MO (r:=c);rw[V.o] at this;exact this
       rw[show Ed (c,g)=Dz c++(42::Lib.itoa g) from rfl,←this]
       simp
      have bl:=Lib.itoa_length_le g (by omega) (by omega)
      clear s ag
      go_wp2_with (first
       |(go_at_call 137;refine (G7 g _ ay az).mono ?_;rintro e w5 ⟨rfl,rfl⟩)
       |fail)
      go_roundg k
      case measure=>omega
      case rel=>exact⟨i+1,d++[41,42]++Lib.itoa g,by omega,by go_num,by rw[show (⟨#[41,42]⟩:ByteArray)=⟨[41,42].toArray⟩ from rfl,Gh,Gh],by simp;omega,Ad al.o.symm,x.o⟩
     ·obtain⟨B,rfl⟩:∃k,gk=k+1:=⟨gk-1,by omega⟩
      have aj:(j:Int)<(q:Int):=by omega
      have bm:(0:Int)≤(j:Int):=by omega
      have ak:=(s.cell I (o:=o+i*2) oI).trans K.o
      obtain⟨v,C⟩:∃v,c[j]? =some v:=⟨_,kT (by have:=V.o;omega)⟩
      have O:=ab.o.Ah s
      obtain⟨vb,y,rfl,bn,D,E,F⟩:=O.cells C
      have A:=Ad (ax.o v (kW C));have G:=A.o.len;have H:=Ad (FT C);have x:=Ad s;clear s O C
      cases v with
      |num m =>
       replace D:wr.cell? ⟨vb,y+j*3,none⟩=some (.bool true):=D;replace E:wr.cell? ⟨vb,y+j*3+1,none⟩=some (.int .i64 m):=E;replace F:wr.cell? ⟨vb,y+j*3+2,none⟩=some (.string ⟨#[]⟩):=F;replace G:(Lib.itoa m).length≤21:=G
       by_cases f:j=0
       ·have J:¬(0:Int)<(j:Int):=by omega
        have u:oH (d++(([]:List UInt8)++Lib.itoa m)=T++(([59]:List UInt8)++Xi c (j+1))):=by
         show _=_
         rw[H.o,if_pos f,z.o]
         simp[I9]
        clear f
        go_wp2_with (first
         |(go_at_call 137;refine (G7 m _ A.o.1 A.o.2).mono ?_;rintro e w5 ⟨rfl,rfl⟩)
         |fail)
        go_roundg B
        case measure=>omega
        case rel=>exact⟨j+1,d++(([]:List UInt8)++Lib.itoa m),by omega,by go_num,by rw[Gh];simp,by simp;omega,u,x.o.alloc _⟩
       ·have J:(0:Int)<(j:Int):=by omega
        have u:oH (d++(([44]:List UInt8)++Lib.itoa m)=T++(([59]:List UInt8)++Xi c (j+1))):=by
         show _=_
         rw[H.o,if_neg f,z.o]
         simp[I9]
        clear f
        go_wp2_with (first
         |(go_at_call 137;refine (G7 m _ A.o.1 A.o.2).mono ?_;rintro e w5 ⟨rfl,rfl⟩)
         |fail)
        go_roundg B
        case measure=>omega
        case rel=>exact⟨j+1,d++(([44]:List UInt8)++Lib.itoa m),by omega,by go_num,by rw[Ln,Gh];simp,by simp;omega,u,x.o.alloc _⟩
      |txt t =>
       replace D:wr.cell? ⟨vb,y+j*3,none⟩=some (.bool false):=D;replace E:wr.cell? ⟨vb,y+j*3+1,none⟩=some (.int .i64 0):=E;replace F:wr.cell? ⟨vb,y+j*3+2,none⟩=some (.string ⟨t.toArray⟩):=F;replace G:t.length≤21:=G
       by_cases f:j=0
       ·have J:¬(0:Int)<(j:Int):=by omega
        have u:oH (d++(([]:List UInt8)++t)=T++(([59]:List UInt8)++Xi c (j+1))):=by
         show _=_
         rw[H.o,if_pos f,z.o]
         simp[I9]
        clear f;go_wp2_with fail;go_roundg B
        case measure=>omega
        case rel=>exact⟨j+1,d++(([]:List UInt8)++t),by omega,by go_num,by rw[Gh];simp,by simp;omega,u,x.o.alloc _⟩
       ·have J:(0:Int)<(j:Int):=by omega
        have u:oH (d++(([44]:List UInt8)++t)=T++(([59]:List UInt8)++Xi c (j+1))):=by
         show _=_
         rw[H.o,if_neg f,z.o]
         simp[I9]
        clear f;go_wp2_with fail;go_roundg B
        case measure=>omega
        case rel=>exact⟨j+1,d++(([44]:List UInt8)++t),by omega,by go_num,by rw[Ln,Gh];simp,by simp;omega,u,x.o.alloc _⟩
end Go.Proofs.YtdinjjmcmfjbfaaGreatDoor
namespace Go.Proofs.YtdinjjmcmfjbfaaGreatDoor
open Go.RowKit
open Mo (V Row Bag Q ty Af Bd Ac Tab B0)
variable {Z:Nat→Prop}
theorem dC {ts:List Bool}{l:Bag}(c:ts≠[])(_:ts.length≤6)(hg:∀e∈l,Mo.Dr ts e.1)(d:∀e∈l,-3000000000000≤e.2∧e.2≤3000000000000)(f:l.length≤100000000000)(lv:Value)(w:World)(h:Dt Z w lv l) :
 Calls Tryz.prog 93 #[lv] w fun e w'=>e=.returned (.string ⟨(D9 0 l).toArray⟩)∧Ab No w w':=by
 refine XQ lv l w h f (fun e a=>?_) (fun e a v hv=>?_) (fun e a=>by have:=d e a;omega)
 ·have b:=(hg e a).len
  refine⟨fun g=>?_,by omega⟩
  rw[g] at b
  have:=List.length_pos_iff.2 c
  simp at b;omega
 ·obtain⟨_,i,j⟩:=hg e a
  have k:=i v hv;have m:=j v hv
  cases v with
  |num n=>simp only[Mo.wv] at m;show _∧_;omega
  |txt s=>exact k.2.1
theorem XR {ts:List Bool}{b:Bag}(h:B0 ts b):∀e∈Af b,Mo.Dr ts e.1:=fun _ a=>h.good (Mo.Gq a)
theorem VG.tell {tb:List Tab}{q:Q}(hg:Mo.Bj tb)(h:VG tb q)(lv:Value)(w:World)(c:Dt Z w lv (Af (Bd (Mo.Dn tb) q))) :
 Calls Tryz.prog 93 #[lv] w fun e w'=>e=.returned (.string ⟨(Bl (Mo.Cc tb q)).toArray⟩)∧Ab No w w':=by
 obtain⟨ts,d,b,_⟩:=h.ok hg
 have a:=Mo.Fi (Mo.F8 hg) q ts h.wf d
 have f:Bl (Mo.Cc tb q)=D9 0 (Af (Bd (Mo.Dn tb) q)):=by unfold Bl;rw[(Xh tb q).canon]
 rw[f]
 exact dC (fun e=>by rw[e] at a;simp at a) a.2 (XR b) (fun e g=>by have:=(Er b e g).2;omega) (by omega) lv w c
theorem XS (w:World):Calls Tryz.prog 50 #[] w fun e w'=>e=.returned (pV w.heap.size)∧w'=w.alloc (.cells #[.slice none 0 0,.slice none 0 0,.slice none 0 0] 189):=by
 go_enter Tryz.func50,Tryz.ntmps50
 go_wp2_with fail;go_ret
 exact⟨rfl,rfl⟩
theorem XU (w:World)(b:Ga Z w):Jr (fun k=>Z k∨k=w.heap.size) (w.alloc (.cells #[.slice none 0 0,.slice none 0 0,.slice none 0 0] 189)) (fun k=>k=w.heap.size) w.heap.size ⟨[],[]⟩:=by
 refine⟨.slice none 0 0,.slice none 0 0,.slice none 0 0,[],[],[],⟨heap_alloc_new w _,World.ownsRow_nil _ _ _ _,(fun i t h=>by simp at h),World.ownsRow_nil _ _ _ _,(fun i t h=>by simp at h),World.ownsRow_nil _ _ _ _,⟨rfl,fun k l h=>by simp at h⟩,.inr rfl,(fun k e=>by simp[Value.ownBlock] at e),(fun k e=>by simp[Value.ownBlock] at e),(fun k e=>by simp[Value.ownBlock] at e),fun k a=>?_⟩,fun k=>⟨fun e=>.inl e,fun e=>?_⟩⟩
 ·rcases a with a|a
  ·have:=b k a;simp;omega
  ·simp;omega
 ·rcases e with e|e|e|e
  ·exact e
  ·simp[Value.ownBlock] at e
  ·simp[Value.ownBlock] at e
  ·simp[Value.ownBlock] at e
theorem QV {w:World}{Y:Nat→Prop}{y:Nat}{st:Mo.Ses}(h:Jr Z w Y y st)(hg:Mo.Bj st.tabs)(hv:∀q∈st.views,VG st.tabs q)(i:Int) :
 Calls Tryz.prog 57 #[pV y,.int .i64 i] w fun e w'=>e=.returned (.tuple #[JP (Sn st i).1,.int .i64 (Sn st i).2])∧Ab No w w':=by
 obtain⟨tv,vv,bv,tcs,vcs,bvs,d,_⟩:=h
 have c2:w.cell? ⟨y,2,none⟩=some bv:=(Ae d.obj 2).trans rfl
 obtain⟨a,cap,rfl,_,f,g⟩:=F9 d.bow
 have x:cap≤9223372036854775807:=by unfold maxLen at f;omega
 unfold Sn pV JP
 by_cases hi:0≤i∧i<(st.views.length:Int)
 ·obtain⟨k,rfl⟩:∃k:Nat,i=(k:Int):=⟨i.toNat,by omega⟩
  obtain⟨q,j⟩:∃q,st.views[k]? =some q:=⟨_,kT (by omega)⟩
  have l:(st.views.map fun q=>Af (Bd (Mo.Dn st.tabs) q))[k]? =some (Af (Bd (Mo.Dn st.tabs) q)):=by rw[kX,j];rfl
  obtain⟨p,n,c,r,s⟩:=d.bgs.2 k _ l
  obtain⟨b,o,rfl,_,_,_⟩:=g k _ r
  have u:=Ad (VG.tell hg (hv q (kW j)) (.slice p n c) w s)
  rw[if_pos hi,show ((k:Int).toNat)=k by omega,j]
  simp only
  generalize st.views.length=m at *
  have z:¬(k:Int)<0:=by omega
  have A:¬(m:Int)≤(k:Int):=by omega
  have B:(0:Int)≤(k:Int):=by omega
  have C:(k:Int)<(m:Int):=by omega
  clear hi r s l j d f g
  go_enter Tryz.func57,Tryz.ntmps57
  go_wp2_with fail;refine u.o.mono ?_;rintro e D ⟨rfl,t⟩;have v:=Ad t;clear t;go_wp2_with fail;go_ret2
  exact⟨rfl,v.o⟩
 ·rw[if_neg hi]
  simp only
  generalize st.views.length=m at *
  by_cases E:i<0
  ·clear hi d f g
   go_enter Tryz.func57,Tryz.ntmps57
   go_wp2_with fail;go_ret2
   exact⟨rfl,Ab.refl _ _⟩
  ·have l:(m:Int)≤i:=by omega
   clear hi d f g
   go_enter Tryz.func57,Tryz.ntmps57
   go_wp2_with fail;go_ret2
   exact⟨rfl,Ab.refl _ _⟩
end Go.Proofs.YtdinjjmcmfjbfaaGreatDoor
