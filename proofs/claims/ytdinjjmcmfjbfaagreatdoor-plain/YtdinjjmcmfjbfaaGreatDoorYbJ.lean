import Derived.Test.YtdinjjmcmfjbfaaGreatDoorVxJ
import Derived.Laws.AppendOwnNone
set_option maxRecDepth 100000
set_option maxHeartbeats 4000000
namespace Go.Proofs.YtdinjjmcmfjbfaaGreatDoor
open Go.RowKit
open Mo (V Row Bag Q ty Af Bd Ac Tab B0 A9 cnt neg Nr)
variable {Z:Nat→Prop}
theorem FZ {tb:List Tab}(hg:Mo.Bj tb){os:List E5}(ho:∀o∈os,YS o)(_:os.length≤301)(hf:os.all (Gc (Cd tb))=true){k:Nat}{t:Tab}(c:tb[k]? =some t)(i:Nat) :
 (∀e∈Af (t.bag++Cu (Cd tb) (os.take i) k),e.1.map ty=t.ts∧ -400≤e.2∧e.2≤400)∧(Af (t.bag++Cu (Cd tb) (os.take i) k)).length≤400:=by
 have d:∀o∈os.take i,o∈os:=fun o h=>mY h
 have j:=BF (tb:=tb) (os:=os.take i) (fun o h=>ho o (d o h)) (lO.2 fun o h=>lO.1 hf o (d o h))
 have l:(os.take i).length≤301:=by rw[lV];omega
 have m:=WE (trs:=Cd tb) (os:=os.take i) (fun o h=>ho o (d o h)) l k
 have a:=hg.Sm (kW c)
 refine⟨fun e f=>?_,?_⟩
 ·refine⟨?_,?_⟩
  ·obtain⟨x,b,n⟩:=Mo.Ju f
   rw[←n]
   rcases lC.1 b with b|b
   ·exact (hg.each t (kW c)).rt x b
   ·exact j.ty k t c x b
  ·have g:=(Mo.Aq _).Dl f
   rw[Mo.As,Mo.Am] at g
   have p:=m.1 e.1;have q:=a.nn e.1;have u:=Mo.Pi a.nn e.1;have s:=a.rows;omega
 ·have e1:Af (t.bag++Cu (Cd tb) (os.take i) k)=Af (Cu (Cd tb) (os.take i) k++t.bag):=Mo.Be.canon fun r=>by rw[Mo.Am,Mo.Am];omega
  rw[e1]
  have g:=Mo.Cq (Cu (Cd tb) (os.take i) k) t.bag;have p:=AX (Cd tb) (os.take i) k;have q:=Mo.Ma a.nn;have s:=a.rows;omega
theorem cH {b D:Bag}(j:Mo.nn b):Wn (Af b,D)=true↔∀e∈Af (b++D),0≤e.2:=by
 unfold Wn
 rw[lO]
 constructor
 ·intro h e g
  have a:=(Mo.Aq _).Dl g
  rw[Mo.As,Mo.Am] at a
  by_cases k:cnt D e.1=0
  ·have:=j e.1;omega
  ·obtain⟨x,c,d⟩:=Mo.Cg.Dd k
   have f:=h x c
   simp only[Mo.As,decide_eq_true_eq] at f
   rw[d] at f;omega
 ·intro h e g
  simp only[Mo.As,decide_eq_true_eq]
  by_cases i:cnt (Af (b++D)) e.1=0
  ·rw[Mo.As,Mo.Am] at i;omega
  ·obtain⟨x,c,d⟩:=Mo.Cg.Dd i
   have a:=(Mo.Aq _).Dl c
   rw[Mo.As,Mo.Am] at a
   have f:=h x c
   rw[d] at a;omega
theorem Xj:∀(r:Row) (i:Nat),(∀v∈r,iR v)→(Gs i r).length≤r.length*22
 | [],_,_=>mB _
 |v::r,i,h=>by
  have b:=Xj r (i+1) fun x a=>h x (by simp[a])
  have c:=(h v (by simp)).len
  simp only[Gs,kU,lN]
  split <;> simp <;> omega
theorem Xk:∀(l:Bag) (i:Nat),(∀e∈l,e.1.length≤6)→(∀e∈l,∀v∈e.1,iR v)→(∀e∈l,-9000000000000000000≤e.2∧e.2≤9000000000000000000)→(D9 i l).length≤l.length*160
 | [],_,_,_,_=>mB _
 |e::l,i,b,c,d=>by
  have f:=Xk l (i+1) (fun x a=>b x (by simp[a])) (fun x a=>c x (by simp[a])) (fun x a=>d x (by simp[a]))
  have g:=Xj e.1 0 (c e (by simp))
  have h:=b e (by simp)
  have j:=d e (by simp)
  have k:=Lib.itoa_length_le e.2 (by omega) (by omega)
  simp only[D9,Ed,Dz,kU,lN]
  split <;> simp <;> omega
structure Ii (T T':List Tab) (q:Q) (us:List Bool):Prop where
 ne:us≠[]
 six:us.length≤6
 ok:B0 us (Bd (Mo.Dn T) q)
 ok':B0 us (Bd (Mo.Dn T') q)
 len:(Af (Bd (Mo.Dn T) q)).length≤400000000
 len':(Af (Bd (Mo.Dn T') q)).length≤400000000
def Qq (T T':List Tab)(q:Q):Bag:=Af (Af (Bd (Mo.Dn T') q)++neg (Af (Bd (Mo.Dn T) q)))
section
variable {T T':List Tab} {q:Q} {us:List Bool}
theorem Ii.good (h:Ii T T' q us):∀e∈Qq T T' q,Mo.Dr us e.1:=fun e a=>by
 have b:=Mo.Gq a
 rw[Mo.Am,Mo.As,Mo.Ej,Mo.As] at b
 by_cases c:cnt (Bd (Mo.Dn T) q) e.1=0
 ·exact h.ok'.good (by omega)
 ·exact h.ok.good c
theorem Ii.bd (h:Ii T T' q us):∀e∈Qq T T' q,-3000000000000≤e.2∧e.2≤3000000000000:=fun e a=>by
 have b:=(Mo.Aq _).Dl a
 rw[Mo.As,Mo.Am,Mo.As,Mo.Ej,Mo.As] at b
 have c:=h.ok.bd e.1;have d:=h.ok'.bd e.1;omega
theorem Ii.few (h:Ii T T' q us):(Qq T T' q).length≤800000000:=by
 have a:=Jw (Af (Bd (Mo.Dn T') q)++neg (Af (Bd (Mo.Dn T) q)))
 have b:(neg (Af (Bd (Mo.Dn T) q))).length=(Af (Bd (Mo.Dn T) q)).length:=by unfold neg;simp
 rw[kU,b] at a
 have:=h.len
 have:=h.len'
 unfold Qq;omega
theorem GA (T T':List Tab)(q:Q):Bl (Mo.Cc T' q++neg (Mo.Cc T q))=D9 0 (Qq T T' q):=by
 unfold Bl Qq
 congr 1
 refine Mo.Be.canon fun r=>?_
 rw[Mo.Am,Mo.Am,Mo.Ej,Mo.Ej,Mo.As,Mo.As,Xh T' q r,Xh T q r]
theorem Ii.txt (h:Ii T T' q us):(Bl (Mo.Cc T' q++neg (Mo.Cc T q))).length≤128000000000:=by
 rw[GA]
 have g:=Xk (Qq T T' q) 0 (fun e a=>by rw[(h.good e a).len];exact h.six)
  (fun e a v hv=>by
    obtain⟨_,b,c⟩:=h.good e a
    have d:=b v hv;have f:=c v hv
    cases v with
    |num n=>simp only[Mo.wv] at f;show _∧_;omega
    |txt s=>exact d.2.1)
  (fun e a=>by have:=h.bd e a;omega)
 have:=h.few
 omega
theorem Ii.tell (h:Ii T T' q us)(lv:Value)(w:World)(a:Dt Z w lv (Qq T T' q)) :
 Calls Tryz.prog 93 #[lv] w fun e w'=>e=.returned (.string ⟨(Bl (Mo.Cc T' q++neg (Mo.Cc T q))).toArray⟩)∧Ab No w w':=by
 rw[GA]
 exact dC h.ne h.six h.good h.bd (by have:=h.few;omega) lv w a
theorem Ii.less (h:Ii T T' q us)(av bv:Value)(w:World)(b:Dt Z w av (Af (Bd (Mo.Dn T') q)))(c:Dt Z w bv (Af (Bd (Mo.Dn T) q)))(d:Ga Z w) :
 Calls Tryz.prog 97 #[av,bv] w fun e w'=>∃v,e=.returned v∧Rc Z w (Qq T T' q) v w' :=
 WK av bv _ _ us w b c (fun e a=>(Er h.ok' e a).1) (fun e a=>(Er h.ok e a).1) (by have:=h.six;omega) h.len' h.len
  (fun e a=>by have:=(Er h.ok' e a).2;omega) (fun e a=>by have:=(Er h.ok e a).2;omega) (Mo.Aq _) (Mo.Aq _) d
end
theorem VG.new {tb:List Tab}{q:Q}(h:VG tb q)(d:(tb.map Tab.nm).Nodup)(D:Nat→Bag):VG (Bp tb D) q:=by
 have hf:Mo.Jy (Bp tb D)=Mo.Jy tb:=by rw[←Kp,U7 _ _ d]
 refine⟨h.wf,fun nm e=>?_,by rw[hf];exact h.ty,h.few,h.jn⟩
 have b:=h.lv nm e;have a:=congrFun hf nm;unfold Mo.Jy at a
 cases f:Mo.C8 (Bp tb D) nm with
 |some x=>rfl
 |none =>
  rw[f] at a
  cases c:Mo.C8 tb nm with
  |none=>rw[c] at b;cases b
  |some x=>rw[c] at a;cases a
theorem VG.more {tb:List Tab}{q:Q}(h:VG tb q)(t:Tab):VG (tb++[t]) q:=by
 refine⟨h.wf,fun nm a=>by rw[Jz (h.lv nm a)];exact h.lv nm a,?_,h.few,h.jn⟩
 rw[Mo.Im q (g:=Mo.Jy tb) fun nm a=>by unfold Mo.Jy;rw[Jz (h.lv nm a)]]
 exact h.ty
theorem VG.diff {tb:List Tab}{q:Q}(h:VG tb q)(hg:Mo.Bj tb){D:Nat→Bag}(d:Mo.Bj (Bp tb D)):∃us,Ii tb (Bp tb D) q us:=by
 have hf:Mo.Jy (Bp tb D)=Mo.Jy tb:=by rw[←Kp,U7 _ _ hg.nod]
 obtain⟨us,c,f,g⟩:=h.ok hg
 obtain⟨_,a,i,j⟩:=(h.new hg.nod D).ok d
 rw[hf,c] at a
 injection a with a
 subst a;have b:=Mo.Fi (Mo.F8 hg) q us h.wf c
 exact⟨us,fun e=>by rw[e] at b;simp at b,b.2,f,i,g,j⟩
def Ri (T T':List Tab)(vs:List Q)(i:Nat):List Bag:=vs.mapIdx fun j q=>Af (Bd (Mo.Dn (if j<i then T' else T)) q)
theorem RF (T T':List Tab)(vs:List Q):Ri T T' vs 0=vs.map fun q=>Af (Bd (Mo.Dn T) q):=by
 unfold Ri
 refine mG fun i=>?_
 rw[lR,kX]
 cases vs[i]? <;> simp
theorem YC (T T':List Tab)(vs:List Q):Ri T T' vs vs.length=vs.map fun q=>Af (Bd (Mo.Dn T') q):=by
 unfold Ri
 refine mG fun i=>?_
 rw[lR,kX]
 cases h:vs[i]? with
 |none=>rfl
 |some q =>
  have:=(kS.1 h).1
  simp[this]
theorem cI {T T':List Tab}{vs:List Q}{i:Nat}{q:Q}(h:vs[i]? =some q):(Ri T T' vs i)[i]? =some (Af (Bd (Mo.Dn T) q)):=by
 unfold Ri
 rw[lR,h]
 simp
theorem Cf.kG {w:World}{bvs:List Value}{T T':List Tab}{vs:List Q}{i:Nat}{q:Q}{p:Option Addr}{n c:Nat}(h:Cf Z w bvs (Ri T T' vs i))(b:vs[i]? =some q)(f:Dt Z w (.slice p n c) (Af (Bd (Mo.Dn T') q))):Cf Z w (bvs.set i (.slice p n c)) (Ri T T' vs (i+1)):=by
 have d:bvs.length=vs.length:=by rw[h.1];unfold Ri;simp
 refine⟨by rw[List.length_set,d];unfold Ri;simp,fun k l a=>?_⟩
 by_cases g:k=i
 ·subst g
  have:l=Af (Bd (Mo.Dn T') q):=by
   unfold Ri at a
   rw[lR,b] at a
   simp at a
   exact a.symm
  subst this
  exact⟨p,n,c,by rw[nP (by rw[d];exact (kS.1 b).1)],f⟩
 ·have:(Ri T T' vs i)[k]? =some l:=by
   unfold Ri at a⊢
   rw[lR] at a⊢
   rw[←a]
   by_cases e:k<i
   ·simp[e,show k<i+1 by omega]
   ·simp[e,show ¬k<i+1 by omega]
  obtain⟨j,m,o,r,s⟩:=h.2 k l this
  exact⟨j,m,o,by rw[nC (by omega)];exact r,s⟩
theorem Sz.Lv {Z':Nat→Prop}{w:World}{v:Value}{os:List E5}(h:Sz Z w v os)(d:∀k,k<w.heap.size→Z' k→Z k):Sz Z' w v os:=by
 obtain⟨a,cap,e,g,j,l⟩:=h
 refine⟨a,cap,e,g,j,fun i o ho=>?_⟩
 obtain⟨b,f,p,n,c,e1,m,q,c1,c2,hr⟩:=l i o ho
 exact⟨b,f,p,n,c,e1,m,q,c1,c2,hr.Lv d⟩
theorem RG {w W:World}{Y:Nat→Prop}{y:Nat}{st:Mo.Ses}{tv vv bv d:Value}{tcs vcs bvs h i:List Value}{T':List Tab}(c:Nn Z w y st tv vv bv tcs vcs bvs)(g:∀k,Y k↔Np y tv vv bv k)
 (f:Ab (fun k=>k=y∨bv.ownBlock=some k) w W) (l:W.heap[y]? =some (.cells #[d,vv,bv] 189 (0,0)))
 (m:W.ownsRow 0 197 3 d T'.length h) (n:∀k,d.ownBlock=some k→w.heap.size≤k) (t:Zk (fun k=>Z k∨d.ownBlock=some k) W h T')
 (o:W.ownsRow 0 195 1 bv st.views.length i) (u:Cf (fun k=>Z k∨d.ownBlock=some k) W i (st.views.map fun q=>Af (Bd (Mo.Dn T') q))) :
 Td Z w Y y ⟨T',st.views⟩ W:=by
 have v:vv.ownBlock≠some y:=Fg c.vow c.obj (by decide)
 have x:=Ip c.vow c.bow (by decide)
 have j:∀k,(k=y∨bv.ownBlock=some k)→Z k∨Np y d vv bv k:=fun k a=>.inr (a.elim .inl fun a=>.inr (.inr (.inr a)))
 have z:∀k,k<w.heap.size→(Z k∨Np y d vv bv k)→Z k:=fun k p a=>by
  rcases a with a|a|a|a|a
  ·exact a
  ·exact c.z (.inl a)
  ·have:=n k a;omega
  ·exact c.zv k a
  ·exact c.zb k a
 have r:∀k,k<W.heap.size→(Z k∨Np y d vv bv k)→(Z k∨d.ownBlock=some k):=fun k _ a=>by
  rcases a with a|a|a|a|a
  ·exact .inl a
  ·exact .inl (c.z (.inl a))
  ·exact .inr a
  ·exact .inl (c.zv k a)
  ·exact .inl (c.zb k a)
 refine⟨Np y d vv bv,⟨d,vv,bv,h,vcs,i,⟨l,m,t.Lv r,?_,(c.vcs.Lv z).Br f j,o,u.Lv r,.inr (.inl rfl),(fun k e=>.inr (.inr (.inl e))),(fun k e=>.inr (.inr (.inr (.inl e)))),(fun k e=>.inr (.inr (.inr (.inr e)))),?_⟩,fun _=>Iff.rfl⟩,?_,?_⟩
 ·exact Ak c.vow f (fun b s a=>a.elim (fun a=>v (a ▸ s)) fun a=>x b s a)
 ·intro k a
  have A:=f.size
  rcases a with a|a|a|a|a
  ·have:=c.old k a;omega
  ·rw[a];exact Aa l
  ·exact I4 m k a
  ·have:=I4 c.vow k a;omega
  ·exact I4 o k a
 ·exact⟨f.os,f.tape,f.output,f.size,fun k p j=>f.block k p fun a=>j ((g k).2 (a.elim .inl fun a=>.inr (.inr (.inr a))))⟩
 ·intro k a
  rcases a with a|a|a|a
  ·exact .inl ((g k).2 (.inl a))
  ·exact .inr (n k a)
  ·exact .inl ((g k).2 (.inr (.inr (.inl a))))
  ·exact .inl ((g k).2 (.inr (.inr (.inr a))))
theorem Mw {w:World}{base:Nat}{e:TypeId}{size:Nat}{a:Option Addr}{m c n:Nat}{xs:List Value}(h:w.ownsRow base e size (.slice a m c) n xs){j:Nat}{k:Value}(l:xs[j]? =some k) :
 ∃g o d,a=some ⟨g,o,none⟩∧o=0∧base≤g∧g<w.heap.size∧w.heap[g]? =some (.cells d e (0,0))∧∀i x,xs[i]? =some x→w.cell? ⟨g,o+i,none⟩=some x:=by
 rcases h with ⟨p,⟨f,q⟩|⟨g,cap,d,f,r,hg,_,_,_,s⟩⟩
 ·subst q
  have:=(kS.1 l).1
  rw[p] at this;omega
 ·injection f with e1 t u
  refine⟨g,0,d,e1,rfl,r,Aa hg,hg,fun i x b=>?_⟩
  rw[←s,lM] at b
  split at b
  ·rw[Ae hg,lK,←lU];exact b
  ·cases b
theorem J0 {w:World}{base:Nat}{e:TypeId}{size:Nat}{v:Value}{n:Nat}{xs:List Value}(h:w.ownsRow base e size v n xs):∃a c,v=.slice a n c∧n≤c∧c≤maxLen:=by
 rcases h.2 with ⟨e,b⟩|⟨g,cap,cur,e,_,_,h1,h2,_⟩
 ·exact⟨none,0,by rw[e,b],by omega,by unfold maxLen;omega⟩
 ·exact⟨_,_,e,h1,h2⟩
theorem Zl {w:World}{base a:Nat}{e:TypeId}{size:Nat}{v:Value}{n:Nat}{xs:List Value}(h:w.ownsRow base e size v n xs)(_:a≤base):w.ownsRow a e size v n xs:=by
 refine⟨h.1,?_⟩
 rcases h.2 with hn|⟨g,cap,b,rfl,_,c⟩
 ·exact .inl hn
 ·exact .inr ⟨g,cap,b,rfl,by omega,c⟩
theorem cJ {w:World}{tcs:List Value}{tb:List Tab}(h:Zk Z w tcs tb)(_:tcs.length=tb.length*3):∀d∈tcs,d.oneCell'=true:=by
 intro d e
 obtain⟨j,a⟩:=lW e
 have l:=(kS.1 a).1
 obtain⟨t,f⟩:∃t,tb[j / 3]? =some t:=⟨_,kT (by omega)⟩
 obtain⟨p,n,c,g,i,k,_⟩:=h (j / 3) t f
 have b:j=j / 3*3∨j=j / 3*3+1∨j=j / 3*3+2:=by omega
 rcases b with b|b|b
 ·rw[b,g] at a;injection a with a;rw[←a];rfl
 ·rw[b,i] at a;injection a with a;rw[←a];rfl
 ·rw[b,k] at a;injection a with a;rw[←a];rfl
theorem fZ {w:World}{ops:Array Oper}{rest:List Oper}{o:Oper}{a:Act}{Q:Exit→Act→World→Prop}(e:o.guard=none)(s x:Operand)
 (ho:o.op=.call { callee:=.builtin .append,args:=#[s,x],argTypes:=#[185,185] }) (f:a.eval s=.slice none 0 0)
 (b:Value) (m:Nat) (d:List Value) (i:a.eval x=b) (p:w.ownsRow 0 197 3 b m d) (q:∀b∈d,b.oneCell'=true) (_:m≤1000)
 (h:∀v' w',w'.ownsRow w.heap.size 197 3 v' m d→w.grownBy w' none→wpList Tryz.prog ops Q rest (a.put o.dst v') w'):wpList Tryz.prog ops Q (o::rest) a w:=by
 obtain⟨k,l,r,t,u⟩:=info_parts XW
 rcases id p with ⟨v,⟨rfl,rfl⟩|⟨g,cap,_,rfl,_,hg,_,_,_,y⟩⟩
 ·have z:d=[]:=lP (by omega)
  subst z
  exact wpList_append_own_none e s x 185 ho w.heap.size 197 k 3 Tryz.underlying185 l (.slice none 0 0) 0 [] f (World.ownsRow_nil _ _ _ _) i (h _ w (World.ownsRow_nil _ _ _ _) ⟨rfl,rfl,rfl,kZ _,fun _ _ _=>rfl⟩)
 ·refine wpList_append_own_at w e s x 185 ho w.heap.size 197 k (.agg #[.string ⟨#[]⟩,.string ⟨#[]⟩,.slice none 0 0]) 3 56 Tryz.underlying185 l r t u rfl (by decide) (.slice none 0 0) 0 [] f (World.ownsRow_nil _ _ _ _) ⟨g,0,none⟩ m cap d i v (fun j b c=>?_) q (by unfold maxLen;omega) (by omega) (kZ _) fun v' w' n A _ _=>h v' w' (by rw[lK,mU] at n;exact n) A
  rw[←y,lM] at c
  have key:w.cell? ⟨g,0+j,none⟩=some b:=by
   split at c
   ·rw[Ae hg,lK,←lU];exact c
   ·cases c
  unfold Addr.add
  split
  ·next c=>rw[c] at key;exact key
  ·exact key
def Zb (Z:Nat→Prop)(v:Value):Nat→Prop:=fun k=>Z k∨v.ownBlock=some k
theorem gA {tb:List Tab}{D:Nat→Bag}{i:Nat}{t:Tab}(a:tb[i]? =some t):(Ny tb D).drop i=(Af t.bag,D i)::(Ny tb D).drop (i+1):=by
 have h:(Ny tb D)[i]? =some (Af t.bag,D i):=by unfold Ny;rw[lR,a];rfl
 have b:=(kS.1 h).1
 rw[mC b,(kS.1 h).2]
theorem cK (tb:List Tab)(D:Nat→Bag):(Ny tb D).length=tb.length:=by unfold Ny;simp
end Go.Proofs.YtdinjjmcmfjbfaaGreatDoor
namespace Go.Proofs.YtdinjjmcmfjbfaaGreatDoor
open Go.RowKit
open Mo (Q Af Bd Ac Tab A9)
open Classical
theorem Fs.iff {w:World}{X a:Nat→Prop}{p:Nat}{st:Mo.Ses}(h:Fs w X p st)(e:∀k,a k↔X k):Fs w a p st:=by
 obtain⟨O,xs,vs,tv,vv,b,c⟩:=h
 exact⟨O,xs,vs,tv,vv,b,fun k=>(e k).trans (c k)⟩
theorem Jr.iff {Z:Nat→Prop}{w:World}{Y a:Nat→Prop}{y:Nat}{st:Mo.Ses}(h:Jr Z w Y y st)(e:∀k,a k↔Y k):Jr Z w a y st:=by
 obtain⟨tv,vv,bv,tcs,vcs,bvs,b,c⟩:=h
 exact⟨tv,vv,bv,tcs,vcs,bvs,b,fun k=>(e k).trans (c k)⟩
theorem Fs.good {w:World}{X:Nat→Prop}{p:Nat}{st:Mo.Ses}(h:Fs w X p st):Mo.Bj st.tabs∧st.views.length≤6:=by
 obtain⟨O,xs,vs,tv,vv,a,_⟩:=h
 refine⟨a.good,?_⟩
 rw[←a.vq,lB];exact a.few
structure Pr where
 p:Nat
 y:Nat
 a:Mo.Ses
 b:Mo.Ses
def cL (st:Mo.Ses):Prop:=∀q∈st.views,VG st.tabs q
structure LW (w0 w:World) (Z:Nat→Prop) (F:Nat→Nat) (ps:List Pr):Prop where
 g0:gT<w0.heap.size
 kp:Ab No w0 w
 env:Se w
 zw:∀k,Z k→w0.heap.size≤k∧k<w.heap.size
 fz:∀k,F k≠0→Z k
 top:∀k,F k<2*ps.length+2
 ses:∀(i:Nat) (pr:Pr),ps[i]? =some pr→Fs w (fun k=>F k=2*i+2) pr.p pr.a
 uses:∀(i:Nat) (pr:Pr),ps[i]? =some pr→Jr Z w (fun k=>F k=2*i+3) pr.y pr.b
 vg:∀(i:Nat) (pr:Pr),ps[i]? =some pr→cL pr.b
section
variable {w0 w w':World} {Z Z':Nat→Prop} {F F':Nat→Nat} {ps:List Pr}
theorem LW.old (h:LW w0 w Z F ps):Ga Z w:=fun k a=>(h.zw k a).2
theorem LW.new (h:LW w0 w Z F ps){k:Nat}(_:w.heap.size≤k):F k=0:=by
 by_cases hf:F k=0
 ·exact hf
 ·have:=(h.zw k (h.fz k hf)).2;omega
theorem LW.Bw (h:LW w0 w Z F ps)(k:Ab No w w'):LW w0 w' Z F ps where
 g0:=h.g0
 kp:=h.kp.seq k
 env:=h.env.Ah k
 zw:=fun i b=>⟨(h.zw i b).1,kV (h.zw i b).2 k.size⟩
 fz:=h.fz
 top:=h.top
 ses:=fun i pr a=>(h.ses i pr a).stays k (fun _ e=>e.elim) oI
 uses:=fun i pr a=>(h.uses i pr a).Ah k
 vg:=h.vg
theorem LW.Ah (h:LW w0 w Z F ps){n:Nat}(_:n≠0)(k:Ab (fun i=>F i=n) w w'):Ab No w0 w' :=
 h.kp.trans k (fun _ e=>e) (fun i a e=>by have:=(h.zw i (h.fz i (by omega))).1;omega)
theorem LW.jR (h:LW w0 w Z F ps){n:Nat}(_:n≠0):¬F gT=n:=fun e=>by have:=(h.zw gT (h.fz gT (by omega))).1;have:=h.g0;omega
theorem LW.cM (h:LW w0 w Z F ps){n:Nat}(a:n≠0)(k:Ab (fun i=>F i=n) w w'){j:Nat}{pr:Pr}(b:ps[j]? =some pr)(c:n≠2*j+2)(d:∀k,F' k=2*j+2↔F k=2*j+2):Fs w' (fun k=>F' k=2*j+2) pr.p pr.a :=
 ((h.ses j pr b).stays k (fun i e x=>c (by omega)) (h.jR a)).iff d
theorem LW.MR (h:LW w0 w Z F ps){n:Nat}(_:n≠0)(k:Ab (fun i=>F i=n) w w'){j:Nat}{pr:Pr}(b:ps[j]? =some pr)(c:n≠2*j+3)(d:∀k,F' k=2*j+3↔F k=2*j+3)(a:∀i,Z i→Z' i)(f:∀i,i<w.heap.size→Z' i→Z i)(ho:Ga Z' w'):Jr Z' w' (fun k=>F' k=2*j+3) pr.y pr.b :=
 ((h.uses j pr b).other k (fun i e=>⟨a i (h.fz i (by omega)),fun x=>c (by omega)⟩) f a ho).iff d
theorem LW.turn (h:LW w0 w Z F ps)(k:Ab (fun i=>F i=1) w w'){g:Option Nat}(hg:∀b,g=some b→b<w'.heap.size∧(w.heap.size≤b∨F b=1)):LW w0 w' (fun k=>Z k∨g=some k) (fun k=>if g=some k then 1 else F k) ps:=by
 have f:∀n,2≤n→∀k,(if g=some k then 1 else F k)=n↔F k=n:=fun n m k=>by
  by_cases e:g=some k
  ·rw[if_pos e]
   rcases (hg k e).2 with c|c
   ·rw[h.new c];omega
   ·rw[c]
  ·rw[if_neg e]
 have l:∀i,i<w.heap.size→(Z i∨g=some i)→Z i:=fun i hi a=>by
  rcases a with a|a
  ·exact a
  ·rcases (hg i a).2 with c|c
   ·omega
   ·exact h.fz i (by omega)
 have ho:Ga (fun k=>Z k∨g=some k) w':=fun i a=>by
  rcases a with a|a
  ·exact kV (h.old i a) k.size
  ·exact (hg i a).1
 refine⟨h.g0,h.Ah (by omega) k,h.env.kept k (h.jR (by omega)),fun i a=>?_,fun i a=>?_,fun i=>?_,fun j pr d=>h.cM (by omega) k d (by omega) (f _ (by omega)),fun j pr d=>h.MR (by omega) k d (by omega) (f _ (by omega)) (fun i a=>.inl a) l ho,h.vg⟩
 ·refine⟨?_,ho i a⟩
  rcases a with a|a
  ·exact (h.zw i a).1
  ·rcases (hg i a).2 with c|c
   ·have:=h.kp.size;omega
   ·exact (h.zw i (h.fz i (by omega))).1
 ·by_cases e:g=some i
  ·exact .inr e
  ·rw[if_neg e] at a;exact .inl (h.fz i a)
 ·have:=h.top i
  split <;> omega
def T9 (F:Nat→Nat)(n:Nat)(X:Nat→Prop)[DecidablePred X]:Nat→Nat:=fun k=>if X k then n else if F k=n then 0 else F k
theorem Zm {n:Nat}(_:n≠0){X:Nat→Prop}(k:Nat):T9 F n X k=n↔X k:=by
 unfold T9
 by_cases a:X k
 ·simp[a]
 ·by_cases hf:F k=n
  ·simp[a,hf];omega
  ·simp[a,hf]
theorem Fv {n m:Nat}(_:m≠0)(_:n≠m){X:Nat→Prop}(b:∀k,X k→F k=n∨F k=0)(k:Nat):T9 F n X k=m↔F k=m:=by
 unfold T9
 by_cases a:X k
 ·rw[if_pos a]
  have:=b k a
  omega
 ·rw[if_neg a]
  by_cases hf:F k=n
  ·rw[if_pos hf];omega
  ·rw[if_neg hf]
theorem MT {n:Nat}{X:Nat→Prop}{k:Nat}(h:T9 F n X k≠0):X k∨F k≠0:=by
 unfold T9 at h
 by_cases a:X k
 ·exact .inl a
 ·rw[if_neg a] at h
  by_cases hf:F k=n
  ·rw[if_pos hf] at h;exact absurd rfl h
  ·rw[if_neg hf] at h;exact .inr h
theorem GB {n m:Nat}(a:n<m){X:Nat→Prop}(h:∀k,F k<m)(k:Nat):T9 F n X k<m:=by
 have:=h k
 unfold T9
 split
 ·exact a
 ·split <;> omega
theorem Lo {ps:List Pr}{i j:Nat}{x pr:Pr}(h:(ps.set i x)[j]? =some pr):(j=i∧pr=x)∨(j≠i∧ps[j]? =some pr):=by
 by_cases a:j=i
 ·subst a
  have b:=(kS.1 h).1
  rw[nP (by simpa using b)] at h
  exact .inl ⟨rfl,(nM h).symm⟩
 ·rw[nC (by omega)] at h
  exact .inr ⟨a,h⟩
theorem LW.prog (h:LW w0 w Z F ps){i:Nat}{pr:Pr}(f:ps[i]? =some pr){d:Nat→Prop}{a':Mo.Ses}(g:Fs w' d pr.p a')(e:Ov (fun k=>F k=2*i+2) d w w') :
 LW w0 w' (fun k=>Z k∨d k) (T9 F (2*i+2) d) (ps.set i { pr with a:=a' }):=by
 have l:∀k,d k→F k=2*i+2∨F k=0:=fun k x=>(e.2 k x).imp id h.new
 have o:∀j,j<w.heap.size→(Z j∨d j)→Z j:=fun j m b=>by
  rcases b with b|b
  ·exact b
  ·rcases e.2 j b with n|n
   ·exact h.fz j (by omega)
   ·omega
 have ho:Ga (fun k=>Z k∨d k) w':=fun j b=>b.elim (fun b=>kV (h.old j b) e.1.size) fun b=>g.lt b
 refine⟨h.g0,h.Ah (by omega) e.1,g.env,fun j b=>⟨?_,ho j b⟩,fun j b=>(MT b).elim .inr fun b=>.inl (h.fz j b),(by rw[List.length_set];exact GB (by have:=(kS.1 f).1;omega) h.top),fun j q c=>?_,fun j q c=>?_,fun j q c=>?_⟩
 ·rcases b with b|b
  ·exact (h.zw j b).1
  ·rcases e.2 j b with n|n
   ·exact (h.zw j (h.fz j (by omega))).1
   ·have:=h.kp.size;omega
 ·rcases Lo c with ⟨rfl,rfl⟩|⟨m,c⟩
  ·exact g.iff (Zm (by omega))
  ·exact h.cM (by omega) e.1 c (by omega) (Fv (by omega) (by omega) l)
 ·rcases Lo c with ⟨rfl,rfl⟩|⟨m,c⟩
  ·have p:=h.MR (by omega) e.1 f (by omega) (Fv (X:=d) (by omega) (by omega) l) (fun _ b=>.inl b) o ho
   exact p
  ·exact h.MR (by omega) e.1 c (by omega) (Fv (by omega) (by omega) l) (fun _ b=>.inl b) o ho
 ·rcases Lo c with ⟨rfl,rfl⟩|⟨m,c⟩
  ·exact h.vg j pr f
  ·exact h.vg j q c
theorem LW.doc (h:LW w0 w Z F ps){i:Nat}{pr:Pr}(o:ps[i]? =some pr){b':Mo.Ses}(r:Td Z w (fun k=>F k=2*i+3) pr.y b' w')(hv:cL b') :
 ∃Z' F',LW w0 w' Z' F' (ps.set i { pr with b:=b' })∧(∀k,F k=1→F' k=1)∧Ab (fun k=>F k=2*i+3) w w':=by
 obtain⟨d,p,f,l⟩:=r
 have g:∀k,d k→F k=2*i+3∨F k=0:=fun k x=>(l k x).imp id h.new
 have s:∀j,j<w.heap.size→(Z j∨d j)→Z j:=fun j m a=>by
  rcases a with a|a
  ·exact a
  ·rcases l j a with n|n
   ·exact h.fz j (by omega)
   ·omega
 have ho:Ga (fun k=>Z k∨d k) w':=p.old
 refine⟨fun k=>Z k∨d k,T9 F (2*i+3) d,⟨h.g0,h.Ah (by omega) f,h.env.kept f (h.jR (by omega)),fun j a=>⟨?_,ho j a⟩,fun j a=>(MT a).elim .inr fun a=>.inl (h.fz j a),(by rw[List.length_set];exact GB (by have:=(kS.1 o).1;omega) h.top),fun j q c=>?_,fun j q c=>?_,fun j q c=>?_⟩,fun k e=>(Fv (by omega) (by omega) g k).2 e,f⟩
 ·rcases a with a|a
  ·exact (h.zw j a).1
  ·rcases l j a with n|n
   ·exact (h.zw j (h.fz j (by omega))).1
   ·have:=h.kp.size;omega
 ·rcases Lo c with ⟨rfl,rfl⟩|⟨m,c⟩
  ·have t:=h.cM (by omega) f o (by omega) (Fv (X:=d) (by omega) (by omega) g)
   exact t
  ·exact h.cM (by omega) f c (by omega) (Fv (by omega) (by omega) g)
 ·rcases Lo c with ⟨rfl,rfl⟩|⟨m,c⟩
  ·exact p.iff (Zm (by omega))
  ·exact h.MR (by omega) f c (by omega) (Fv (by omega) (by omega) g) (fun _ a=>.inl a) s ho
 ·rcases Lo c with ⟨rfl,rfl⟩|⟨m,c⟩
  ·exact hv
  ·exact h.vg j q c
theorem LW.push (h:LW w0 w Z F ps){a:World}(r:Fs a (fun k=>k=w.heap.size) w.heap.size ⟨[],[]⟩)(m:Ab No w a) :
 ∃Z' F',LW w0 (a.alloc (.cells #[.slice none 0 0,.slice none 0 0,.slice none 0 0] 189)) Z' F' (ps++[⟨w.heap.size,a.heap.size,⟨[],[]⟩,⟨[],[]⟩⟩])∧∀k,F' k=1↔F k=1:=by
 have y:w.heap.size<a.heap.size:=r.lt rfl;have o:Ab No w (a.alloc (.cells #[.slice none 0 0,.slice none 0 0,.slice none 0 0] 189)):=m.alloc _;have t:Ab No a (a.alloc (.cells #[.slice none 0 0,.slice none 0 0,.slice none 0 0] 189)):=(Ab.refl No a).alloc _
 have u:Ga (fun k=>Z k∨k=w.heap.size) a:=fun k b=>b.elim (fun b=>kV (h.old k b) m.size) fun b=>by omega
 have s:=XU a u;have ho:=s.old
 let F':Nat→Nat:=fun k=>if k=w.heap.size then 2*ps.length+2 else if k=a.heap.size then 2*ps.length+3 else F k
 have v:F w.heap.size=0:=h.new (kZ _);have x:F a.heap.size=0:=h.new m.size
 have p:∀n,n≠0→n≠2*ps.length+2→n≠2*ps.length+3→∀k,F' k=n↔F k=n:=fun n z A B k=>by
  show (if k=w.heap.size then 2*ps.length+2 else if k=a.heap.size then 2*ps.length+3 else F k)=n↔F k=n
  by_cases e1:k=w.heap.size
  ·rw[if_pos e1,e1,v];omega
  ·rw[if_neg e1]
   by_cases d:k=a.heap.size
   ·rw[if_pos d,d,x];omega
   ·rw[if_neg d]
 refine⟨fun k=>(Z k∨k=w.heap.size)∨k=a.heap.size,F',⟨h.g0,h.kp.seq o,h.env.Ah o,fun j b=>⟨?_,ho j b⟩,fun j b=>?_,fun j=>?_,fun j q c=>?_,fun j q c=>?_,fun j q c=>?_⟩,?_⟩
 ·have:=h.kp.size
  rcases b with (b|b)|b
  ·exact (h.zw j b).1
  ·omega
  ·omega
 ·by_cases e1:j=w.heap.size
  ·exact .inl (.inr e1)
  ·by_cases d:j=a.heap.size
   ·exact .inr d
   ·have:F' j=F j:=by show (if j=w.heap.size then _ else if j=a.heap.size then _ else F j)=F j;rw[if_neg e1,if_neg d]
    rw[this] at b
    exact .inl (.inl (h.fz j b))
 ·have:=h.top j
  rw[kU]
  show (if j=w.heap.size then 2*ps.length+2 else if j=a.heap.size then 2*ps.length+3 else F j)<2*(ps.length+1)+2
  split
  ·omega
  ·split <;> omega
 ·by_cases f:j<ps.length
  ·rw[lA f] at c
   exact ((h.ses j q c).stays o (fun _ e=>e.elim) oI).iff (p _ (by omega) (by omega) (by omega))
  ·rw[kY (by omega)] at c
   have g:=(kS.1 c).1
   simp at g
   have l:j=ps.length:=by omega
   subst l
   have:q=⟨w.heap.size,a.heap.size,⟨[],[]⟩,⟨[],[]⟩⟩:=by simpa using c.symm
   subst this
   refine (r.stays t (fun _ e=>e.elim) oI).iff fun k=>?_
   show (if k=w.heap.size then 2*ps.length+2 else if k=a.heap.size then 2*ps.length+3 else F k)=2*ps.length+2↔k=w.heap.size
   by_cases e1:k=w.heap.size
   ·simp[e1]
   ·rw[if_neg e1]
    by_cases d:k=a.heap.size
    ·rw[if_pos d];omega
    ·rw[if_neg d]
     have:=h.top k
     refine⟨fun e=>by omega,fun e=>absurd e e1⟩
 ·by_cases f:j<ps.length
  ·rw[lA f] at c
   exact ((h.uses j q c).other o (fun _ e=>e.elim) (fun i hi b=>by
    rcases b with (b|b)|b
    ·exact b
    ·omega
    ·have:=m.size;omega) (fun i b=>.inl (.inl b)) ho).iff (p _ (by omega) (by omega) (by omega))
  ·rw[kY (by omega)] at c
   have g:=(kS.1 c).1
   simp at g
   have l:j=ps.length:=by omega
   subst l
   have:q=⟨w.heap.size,a.heap.size,⟨[],[]⟩,⟨[],[]⟩⟩:=by simpa using c.symm
   subst this
   refine s.iff fun k=>?_
   show (if k=w.heap.size then 2*ps.length+2 else if k=a.heap.size then 2*ps.length+3 else F k)=2*ps.length+3↔k=a.heap.size
   by_cases e1:k=w.heap.size
   ·rw[if_pos e1];omega
   ·rw[if_neg e1]
    by_cases d:k=a.heap.size
    ·simp[d]
    ·rw[if_neg d]
     have:=h.top k
     refine⟨fun e=>by omega,fun e=>absurd e d⟩
 ·by_cases f:j<ps.length
  ·rw[lA f] at c
   exact h.vg j q c
  ·rw[kY (by omega)] at c
   have g:=(kS.1 c).1
   simp at g
   have l:j=ps.length:=by omega
   subst l
   have:q=⟨w.heap.size,a.heap.size,⟨[],[]⟩,⟨[],[]⟩⟩:=by simpa using c.symm
   subst this
   exact fun q c=>by cases c
 ·exact p 1 (by omega) (by omega) (by omega)
end
theorem RH (s:ByteArray)(w:World) :
 Calls Tryz.prog 87 #[.string s] w fun e w'=>e=.returned (.tuple #[.int .i64 ((Pl.Lp s).1:Nat),.int .i64 ((Pl.Lp s).2:Nat)])∧Below w.heap.size w w':=by
 go_enter Tryz.func87,Tryz.ntmps87
 go_wp2_with fail;refine (Zj s _).mono ?_;rintro d f ⟨⟨_,n,c,rfl,_⟩,a⟩;have b:=Ad a;clear a;go_wp2_with fail;go_ret2
 exact⟨rfl,b.o⟩
theorem Te (n:Int)(w:World):Calls Tryz.prog 54 #[.int .i64 n] w fun e w'=>e=.returned (.int .i64 n)∧w'=w:=by
 go_enter Tryz.func54,Tryz.ntmps54
 go_wp2
 go_ret
 exact⟨rfl,rfl⟩
theorem GC (s:ByteArray)(w:World):Calls Tryz.prog 51 #[.string s] w fun e w'=>e=.returned (.bool true)∧Ab No w w':=by
 go_enter Tryz.func51,Tryz.ntmps51
 go_wp2_with fail;refine (GW s _).mono ?_;rintro a h ⟨rfl,b⟩;have c:=Ad b.toBelow;clear b;go_wp2_with fail;refine (RH s _).mono ?_;rintro a f ⟨rfl,d⟩;have g:oH (Below w.heap.size w f):=c.o.trans (d.mono c.o.size);clear d;generalize ((Pl.Lp s).1:Nat)=x;generalize ((Pl.Lp s).2:Nat)=y;go_wp2_with fail;refine (Te _ _).mono ?_;rintro a w3 ⟨rfl,rfl⟩;go_wp2_with fail;go_ret
 exact⟨Az (by simp),(Ab.refl No w).below g.o (kZ _)⟩
def Qr (c n:Int):Int:=if c<0 then (-(c+1)) % n else c % n
theorem GD (c n:Int)(a:0<n):0≤Qr c n∧Qr c n<n:=by
 unfold Qr;split
 ·exact⟨Int.emod_nonneg _ (by omega),Int.emod_lt_of_pos _ a⟩
 ·exact⟨Int.emod_nonneg _ (by omega),Int.emod_lt_of_pos _ a⟩
theorem RI (c n:Int)(w:World)(_: -9223372036854775808≤c∧c≤9223372036854775807)(_:0<n∧n≤9223372036854775807) :
 Calls Tryz.prog 52 #[.int .i64 c,.int .i64 n] w fun e w'=>e=.returned (.int .i64 (Qr c n))∧w'=w:=by
 have d:n≠0:=by omega
 by_cases h:c<0
 ·have f:IntKind.i64.wrap (c+1)=c+1:=IntWalk.i64_in _ (by omega)
  have e1:IntKind.i64.wrap (-(c+1))= -(c+1):=IntWalk.i64_in _ (by omega)
  have a:Qr c n=(-(c+1)) % n:=by unfold Qr;rw[if_pos h]
  have b:Int.tmod (-(c+1)) n=(-(c+1)) % n:=nT (by omega)
  rw[a]
  go_enter Tryz.func52,Tryz.ntmps52
  go_wp2_with fail;go_ret
  exact⟨rfl,rfl⟩
 ·have a:Qr c n=c % n:=by unfold Qr;rw[if_neg h]
  have b:Int.tmod c n=c % n:=nT (by omega)
  rw[a]
  go_enter Tryz.func52,Tryz.ntmps52
  go_wp2_with fail;go_ret
  exact⟨rfl,rfl⟩
def jT (s:ByteArray)(e:Ending):Prop:=∃b,e=.returned (.bool b)∧(b=true→VO s)
theorem RJ (s:ByteArray)(w:World)(g:s.size≤maxLen):Calls Tryz.prog 32 #[.string s] w fun e w'=>jT s e∧w'=w:=by
 have u:s.size≤9223372036854775807:=by unfold maxLen at g;omega
 clear g
 go_enter Tryz.func32,Tryz.ntmps32
 go_wp2_with fail
 go_loopg [3] s.size (fun k m wr=>∃i:Nat,i+k=s.size∧m=.int .i64 (i:Int)∧oH (∀(j:Nat) (_:j<s.size),j<i→s[j].toNat≠74∧s[j].toNat≠68∧s[j].toNat≠71)∧wr=w)
 case atStart=>exact⟨0,by omega,rfl,Ad (fun j _ h=>by omega),rfl⟩
 case round =>
  obtain⟨i,_,rfl,l,rfl⟩:=hrel
  by_cases n:gk=0
  ·subst n
   have o:¬(i:Int)<(s.size:Int):=by omega
   go_wp2_with fail;go_ret
   refine⟨⟨true,rfl,fun _ a=>?_⟩,rfl⟩
   by_cases b:a<s.size
   ·have e:Pl.bt s a=s[a].toNat:=by unfold Pl.bt;rw[dif_pos b]
    rw[e];exact l.o a b (by omega)
   ·have e:Pl.bt s a=0:=by
     by_cases p:Pl.bt s a=0
     ·exact p
     ·exact absurd (Pl.B4 (s:=s) (a:=a) (by omega)) b
    omega
  ·obtain⟨k,rfl⟩:∃k,gk=k+1:=⟨gk-1,by omega⟩
   have o:(i:Int)<(s.size:Int):=by omega
   have v:(0:Int)≤(i:Int):=by omega
   have x:i<s.size:=by omega
   by_cases c:((s[i].toNat:Int) == 74)=true
   ·go_wp2_with fail
    go_ret
    exact⟨⟨false,rfl,(fun e=>by cases e)⟩,rfl⟩
   ·have c:((s[i].toNat:Int) == 74)=false:=by simpa using c
    by_cases d:((s[i].toNat:Int) == 68)=true
    ·go_wp2_with fail
     go_ret
     exact⟨⟨false,rfl,(fun e=>by cases e)⟩,rfl⟩
    ·have d:((s[i].toNat:Int) == 68)=false:=by simpa using d
     by_cases f:((s[i].toNat:Int) == 71)=true
     ·go_wp2_with fail
      go_ret
      exact⟨⟨false,rfl,(fun e=>by cases e)⟩,rfl⟩
     ·have f:((s[i].toNat:Int) == 71)=false:=by simpa using f
      have q:oH (∀(j:Nat) (_:j<s.size),j<i+1→s[j].toNat≠74∧s[j].toNat≠68∧s[j].toNat≠71):=fun j r y=>by
       by_cases t:j=i
       ·subst t
        have z:=beq_eq_false_iff_ne.1 c;have A:=beq_eq_false_iff_ne.1 d;have B:=beq_eq_false_iff_ne.1 f;omega
       ·exact l.o j r (by omega)
      go_wp2_with fail;go_roundg k
      case measure=>omega
      case rel=>exact⟨i+1,by omega,by go_num,q,rfl⟩
def GE (ps:List Pr):List Value:=ps.flatMap fun q=>[pV q.p,pV q.y]
theorem MU:∀(ps:List Pr) (i:Nat) (q:Pr),ps[i]? =some q→(GE ps)[i*2]? =some (pV q.p)∧(GE ps)[i*2+1]? =some (pV q.y)
 | [],i,q,h=>by simp at h
 |x::ps,0,q,h=>by
  have:x=q:=by simpa using h
  subst this
  exact⟨rfl,rfl⟩
 |x::ps,i+1,q,h=>by
  have a:=MU ps i q (by simpa using h)
  unfold GE at a⊢
  rw[mE,show (i+1)*2=i*2+2 by omega]
  exact a
theorem MV {ps:List Pr}{i:Nat}{q a:Pr}(h:ps[i]? =some q)(b:a.p=q.p)(c:a.y=q.y):GE (ps.set i a)=GE ps:=by
 induction ps generalizing i with
 |nil=>rfl
 |cons x ps d =>
  cases i with
  |zero =>
   have:x=q:=by simpa using h
   subst this
   show GE (a::ps)=GE (x::ps)
   unfold GE
   rw[mE,mE,b,c]
  |succ i =>
   have:=d (i:=i) (by simpa using h)
   show GE (x::ps.set i a)=GE (x::ps)
   unfold GE at this⊢
   rw[mE,mE,this]
structure WA (w:World) (F:Nat→Nat) (wb:Nat) (av:Value) (ps:List Pr):Prop where
 obj:w.heap[wb]? =some (.cells #[av] 64 (0,0))
 own:w.ownsRow 0 109 2 av ps.length (GE ps)
 fb:F wb=1
 fa:∀k,av.ownBlock=some k→F k=1
theorem WA.Bw {w w':World}{F F':Nat→Nat}{wb:Nat}{av:Value}{ps a:List Pr}{S:Nat→Prop}(h:WA w F wb av ps)(k:Ab S w w')(c:∀i,S i→F i≠1)(d:∀i,F i=1→F' i=1)(f:a.length=ps.length)(g:GE a=GE ps):WA w' F' wb av a where
 obj:=(k.block wb (Aa h.obj) (fun s=>c wb s h.fb)).trans h.obj
 own:=by rw[f,g];exact Ak h.own k (fun b e s=>c b s (h.fa b e))
 fb:=d wb h.fb
 fa:=fun k e=>d k (h.fa k e)
theorem gB:(Tryz.prog.info? 109).map (fun i=>(i.zero,i.size,i.bytes))=some (some (.agg #[.pointer none,.pointer none]),2,16):=by kernel_rfl
def I5 (w0:World)(wb n:Nat)(w':World):Prop:=∃Z F av ps,LW w0 w' Z F ps∧WA w' F wb av ps∧(∀q∈ps,q.a=q.b)∧ps.length≤n
theorem GF {w0 w:World}{Z:Nat→Prop}{F:Nat→Nat}{ps:List Pr}{wb:Nat}{av:Value}(h:LW w0 w Z F ps)(f:WA w F wb av ps)(z:∀q∈ps,q.a=q.b)(_:ps.length≤4000000000000) :
 Calls Tryz.prog 31 #[pV wb] w fun e w'=>e=.returned (.bool true)∧I5 w0 wb (ps.length+1) w':=by
 have I:=Ad h;have d:=Ad f;have J:=Ad z;have K:=Aa f.obj
 obtain⟨u,cap,rfl,L,M⟩:=J0 f.own
 have A:=Ad f.obj
 have ak:∀n,pV n=.pointer (some ⟨n,0,none⟩):=fun _=>rfl
 obtain⟨N,O,P,Q,R⟩:=info_parts gB
 have S:ps.length+1≤maxLen:=by unfold maxLen;omega
 have T:(ps.length+1)*16≤140737488355328:=by omega
 have B:=Ad (aW w h.env);unfold pV at B⊢;clear h f z L M
 go_enter Tryz.func31,Tryz.ntmps31
 go_wp2_with fail;refine B.o.mono ?_;rintro e c ⟨rfl,C,D⟩;have U:=Ad C;have E:=Ad D;clear C D;go_wp2_with fail;refine (XS c).mono ?_;unfold pV;rintro e a ⟨rfl,v⟩
 have G:oH (Ab No w a):=by rw[v];exact E.o.alloc _
 have V:oH (∃Z' F',LW w0 a Z' F' (ps++[⟨w.heap.size,c.heap.size,⟨[],[]⟩,⟨[],[]⟩⟩])∧∀k,F' k=1↔F k=1):=by rw[v];exact I.o.push U.o E.o
 have o:=(G.o.block wb K oI).trans A.o;have al:a.cell? ⟨wb,0,none⟩=some (.slice u ps.length cap):=(Ae o 0).trans rfl;have W:=Aa o;have X:=Ad o
 have Y:=Ak d.o.own G.o (fun _ _ aa=>aa.elim)
 have ab:some wb≠Value.ownBlock (.slice u ps.length cap):=fun x=>Fg d.o.own A.o (by decide) x.symm
 clear v o
 go_wp2_with (first
  |(at_builtin;refine wpList_append_own_at _ rfl _ _ 62 rfl 0 109 N (.agg #[.pointer none,.pointer none]) 2 16 Tryz.underlying62 O P Q R rfl (by decide) _ _ _ rfl (Y.alloc _) ⟨a.heap.size,0,none⟩ 1 1 [.pointer (some ⟨w.heap.size,0,none⟩),.pointer (some ⟨c.heap.size,0,none⟩)] rfl rfl (Jn a _ _ _) (by simp[Value.oneCell']) S T (mB _) ?_;intro am p s H _ ac;obtain⟨i,j,rfl⟩:=Mt s (by omega);have l:=(H.block wb (by simp;omega) ab).trans ((Below.heap_alloc _ _ _ W).trans X.o);have an:p.cell? ⟨wb,0,none⟩=some (.slice u ps.length cap):=(Ae l 0).trans rfl;have ao:=Aj l 0)
  |fail)
 go_ret
 refine⟨Az (by simp),?_⟩
 obtain⟨Z',F',ad,t⟩:=V.o
 have ae:Ab (fun k=>F' k=1) a (p.setCell ⟨wb,0,none⟩ (.slice i (ps.length+1) j)):=by
  refine Cn (((Ab.refl _ a).alloc _).grown H (fun r e=>.inr ((t r).2 (d.o.fa r e)))) (.inl ((t wb).2 d.o.fb)) _
 have ap:=Aa l;have af:=I4 s
 have aq:a.heap.size<(a.alloc (.cells #[.pointer (some ⟨w.heap.size,0,none⟩),.pointer (some ⟨c.heap.size,0,none⟩)] 109)).heap.size:=by simp
 have ag:(p.setCell ⟨wb,0,none⟩ (.slice i (ps.length+1) j)).heap.size=p.heap.size:=by simp[World.setCell]
 have ah:=ad.turn ae (g:=Value.ownBlock (.slice i (ps.length+1) j)) (fun b e=>⟨by rw[ag];exact af b e,by
  rcases ac with y|y
  ·exact .inr ((t b).2 (d.o.fa b (y ▸ e)))
  ·rw[y] at e;injection e with e;exact .inl (by omega)⟩)
 have ai:∀k,F' k=1→(if Value.ownBlock (.slice i (ps.length+1) j)=some k then 1 else F' k)=1:=fun k e=>by split;rfl;exact e
 refine⟨_,_,.slice i (ps.length+1) j,_,ah,⟨?_,?_,ai wb ((t wb).2 d.o.fb),fun k e=>by rw[if_pos e]⟩,?_,by simp⟩
 ·rw[Ap l];rfl
 ·have e1:(ps++[(⟨w.heap.size,c.heap.size,⟨[],[]⟩,⟨[],[]⟩⟩:Pr)]).length=ps.length+1:=by simp
  have aj:GE (ps++[(⟨w.heap.size,c.heap.size,⟨[],[]⟩,⟨[],[]⟩⟩:Pr)])=GE ps++[.pointer (some ⟨w.heap.size,0,none⟩),.pointer (some ⟨c.heap.size,0,none⟩)]:=by unfold GE;rw[nG];rfl
  rw[e1,aj]
  exact Js s (Fg s l (by decide)) _
 ·intro q m
  rcases lC.1 m with m|m
  ·exact J.o q m
  ·have:q=⟨w.heap.size,c.heap.size,⟨[],[]⟩,⟨[],[]⟩⟩:=by simpa using m
   rw[this]
end Go.Proofs.YtdinjjmcmfjbfaaGreatDoor
