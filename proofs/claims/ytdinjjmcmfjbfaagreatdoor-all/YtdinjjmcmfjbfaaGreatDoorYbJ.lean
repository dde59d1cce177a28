import Derived.Test.YtdinjjmcmfjbfaaGreatDoorVxJ
import Derived.Laws.AppendOwnNone
set_option maxRecDepth 100000
set_option maxHeartbeats 4000000
namespace Go.Proofs.YtdinjjmcmfjbfaaGreatDoor
open Go.RowKit Classical Mo Pl Tryz
section
variable {Z:Nat→Prop}
theorem MD {tb:List Tab}(hg:B4 tb){os:List He}(ho:∀o∈os,gV o)(_:os.length≤301)(hf:os.all (Hm (Cy tb))=true){k:Nat}{t:Tab}(c:tb[k]? =some t)(i:Nat) :
 (∀e∈Ad (t.bag++Dn (Cy tb) (os.take i) k),e.1.map ty=t.ts∧ -400≤e.2∧e.2≤400)∧(Ad (t.bag++Dn (Cy tb) (os.take i) k)).length≤400:=by
 have d:∀o∈os.take i,o∈os:=fun o h=>vY h;have j:=FI (tb:=tb) (os:=os.take i) (fun o h=>ho o (d o h)) (uR.2 fun o h=>uR.1 hf o (d o h));have l:(os.take i).length≤301:=by rw[uV];omega
 have m:=dY (trs:=Cy tb) (os:=os.take i) (fun o h=>ho o (d o h)) l k;have a:=hg.Ur (tV c);refine⟨fun e f=>?_,?_⟩
 ·refine⟨?_,?_⟩
  ·obtain⟨x,b,n⟩:=Jj f;rw[←n];rcases tW.1 b with b|b
   ·exact (hg.each t (tV c)).rt x b
   exact j.ty k t c x b
  have g:=(Ap _).Df f;rw[Aq,Ah] at g;have p:=m.1 e.1;have q:=a.nn e.1;have u:=Le a.nn e.1;have s:=a.rows;omega
 have e1:Ad (t.bag++Dn (Cy tb) (os.take i) k)=Ad (Dn (Cy tb) (os.take i) k++t.bag):=A9.canon fun r=>by rw[Ah,Ah];omega
 rw[e1];have g:=A3 (Dn (Cy tb) (os.take i) k) t.bag;have p:=FB (Cy tb) (os.take i) k;have q:=Jg a.nn;have s:=a.rows;omega
theorem lI {b D:Bag}(j:Mo.nn b):Zg (Ad b,D)=true↔∀e∈Ad (b++D),0≤e.2:=by
 unfold Zg;rw[uR];constructor
 ·intro h e g;have a:=(Ap _).Df g;rw[Aq,Ah] at a;by_cases k:cnt D e.1=0
  ·have:=j e.1;omega
  obtain⟨x,c,d⟩:=Ck.Cq k;have f:=h x c;simp only[Aq,decide_eq_true_eq] at f;rw[d] at f;omega
 intro h e g;simp only[Aq,decide_eq_true_eq];by_cases i:cnt (Ad (b++D)) e.1=0
 ·rw[Aq,Ah] at i;omega
 obtain⟨x,c,d⟩:=Ck.Cq i;have a:=(Ap _).Df c;rw[Aq,Ah] at a;have f:=h x c;rw[d] at a;omega
theorem Z7:∀(r:Row) (i:Nat),(∀v∈r,rQ v)→(Hu i r).length≤r.length*22
 | [],_,_=>vM _
 |v::r,i,h=>by have b:=Z7 r (i+1) fun x a=>h x (by simp[a]);have c:=(h v (by simp)).len;simp only[Hu,tS,uO];split <;> simp <;> omega
theorem Z8:∀(l:Bag) (i:Nat),(∀e∈l,e.1.length≤6)→(∀e∈l,∀v∈e.1,rQ v)→(∀e∈l,-9000000000000000000≤e.2∧e.2≤9000000000000000000)→(Ez i l).length≤l.length*160
 | [],_,_,_,_=>vM _
 |e::l,i,b,c,d=>by have f:=Z8 l (i+1) (fun x a=>b x (by simp[a])) (fun x a=>c x (by simp[a])) (fun x a=>d x (by simp[a]));have g:=Z7 e.1 0 (c e (by simp));have h:=b e (by simp);have j:=d e (by simp);have k:=Lib.itoa_length_le e.2 (by omega) (by omega);simp only[Ez,E8,Es,tS,uO];split <;> simp <;> omega
structure Js (T T':List Tab) (q:Q) (us:List Bool):Prop where
 ne:us≠[]
 six:us.length≤6
 ok:B2 us (Bg (Ed T) q)
 ok':B2 us (Bg (Ed T') q)
 len:(Ad (Bg (Ed T) q)).length≤400000000
 len':(Ad (Bg (Ed T') q)).length≤400000000
def Sr (T T':List Tab)(q:Q):Bag:=Ad (Ad (Bg (Ed T') q)++neg (Ad (Bg (Ed T) q)))
section
variable {T T':List Tab} {q:Q} {us:List Bool}
theorem Js.good (h:Js T T' q us):∀e∈Sr T T' q,Ei us e.1:=fun e a=>by
 have b:=E7 a;rw[Ah,Aq,Ew,Aq] at b;by_cases c:cnt (Bg (Ed T) q) e.1=0
 ·exact h.ok'.good (by omega)
 exact h.ok.good c
theorem Js.bd (h:Js T T' q us):∀e∈Sr T T' q,-3000000000000≤e.2∧e.2≤3000000000000:=fun e a=>by
 have b:=(Ap _).Df a;rw[Aq,Ah,Aq,Ew,Aq] at b;have c:=h.ok.bd e.1;have d:=h.ok'.bd e.1;omega
theorem Js.few (h:Js T T' q us):(Sr T T' q).length≤800000000:=by
 have a:=Lh (Ad (Bg (Ed T') q)++neg (Ad (Bg (Ed T) q)));have b:(neg (Ad (Bg (Ed T) q))).length=(Ad (Bg (Ed T) q)).length:=by unfold neg;simp
 rw[tS,b] at a;have:=h.len;have:=h.len';unfold Sr;omega
theorem ME (T T':List Tab)(q:Q):B8 (Cl T' q++neg (Cl T q))=Ez 0 (Sr T T' q):=by
 unfold B8 Sr;congr 1;refine A9.canon fun r=>?_;rw[Ah,Ah,Ew,Ew,Aq,Aq,Tg T' q r,Tg T q r]
theorem Js.txt (h:Js T T' q us):(B8 (Cl T' q++neg (Cl T q))).length≤128000000000:=by
 rw[ME]
 have g:=Z8 (Sr T T' q) 0 (fun e a=>by rw[(h.good e a).len];exact h.six)
  (fun e a v hv=>by
    obtain⟨_,b,c⟩:=h.good e a;have d:=b v hv;have f:=c v hv;cases v with
    |num n=>simp only[Mo.wv] at f;show _∧_;omega
    |txt s=>exact d.2.1)
  (fun e a=>by have:=h.bd e a;omega)
 have:=h.few;omega
theorem Js.tell (h:Js T T' q us)(lv:Value)(w:World)(a:Ct Z w lv (Sr T T' q)) :
 Calls prog 93 #[lv] w fun e w'=>e=.returned (.string ⟨(B8 (Cl T' q++neg (Cl T q))).toArray⟩)∧Ab No w w':=by
 rw[ME];exact mH h.ne h.six h.good h.bd (by have:=h.few;omega) lv w a
theorem Js.less (h:Js T T' q us)(av bv:Value)(w:World)(b:Ct Z w av (Ad (Bg (Ed T') q)))(c:Ct Z w bv (Ad (Bg (Ed T) q)))(d:Gq Z w) :
 Calls prog 97 #[av,bv] w fun e w'=>∃v,e=.returned v∧L5 Z w (Sr T T' q) v w' :=
 eD av bv _ _ us w b c (fun e a=>(Cg h.ok' e a).1) (fun e a=>(Cg h.ok e a).1) (by have:=h.six;omega) h.len' h.len
  (fun e a=>by have:=(Cg h.ok' e a).2;omega) (fun e a=>by have:=(Cg h.ok e a).2;omega) (Ap _) (Ap _) d
end
theorem VG.new {tb:List Tab}{q:Q}(h:VG tb q)(d:(tb.map Tab.nm).Nodup)(D:Nat→Bag):VG (Cb tb D) q:=by
 have hf:Li (Cb tb D)=Li tb:=by rw[←L3,Xh _ _ d]
 refine⟨h.wf,fun nm e=>?_,by rw[hf];exact h.ty,h.few,h.jn⟩;have b:=h.lv nm e;have a:=congrFun hf nm;unfold Li at a;cases f:Dw (Cb tb D) nm with
 |some x=>rfl
 |none =>
  rw[f] at a;cases c:Dw tb nm with
  |none=>rw[c] at b;cases b
  |some x=>rw[c] at a;cases a
theorem VG.more {tb:List Tab}{q:Q}(h:VG tb q)(t:Tab):VG (tb++[t]) q:=by
 refine⟨h.wf,fun nm a=>by rw[Lj (h.lv nm a)];exact h.lv nm a,?_,h.few,h.jn⟩;rw[Jy q (g:=Li tb) fun nm a=>by unfold Li;rw[Lj (h.lv nm a)]];exact h.ty
theorem VG.diff {tb:List Tab}{q:Q}(h:VG tb q)(hg:B4 tb){D:Nat→Bag}(d:B4 (Cb tb D)):∃us,Js tb (Cb tb D) q us:=by
 have hf:Li (Cb tb D)=Li tb:=by rw[←L3,Xh _ _ hg.nod]
 obtain⟨us,c,f,g⟩:=h.ok hg;obtain⟨_,a,i,j⟩:=(h.new hg.nod D).ok d;rw[hf,c] at a;injection a with a;subst a;have b:=Co (Hh hg) q us h.wf c;exact⟨us,fun e=>by rw[e] at b;simp at b,b.2,f,i,g,j⟩
def Th (T T':List Tab)(vs:List Q)(i:Nat):List Bag:=vs.mapIdx fun j q=>Ad (Bg (Ed (if j<i then T' else T)) q)
theorem YY (T T':List Tab)(vs:List Q):Th T T' vs 0=vs.map fun q=>Ad (Bg (Ed T) q):=by
 unfold Th;refine vN fun i=>?_;rw[uU,tX];cases vs[i]? <;> simp
theorem gH (T T':List Tab)(vs:List Q):Th T T' vs vs.length=vs.map fun q=>Ad (Bg (Ed T') q):=by
 unfold Th;refine vN fun i=>?_;rw[uU,tX];cases h:vs[i]? with
 |none=>rfl
 |some q =>have:=(tR.1 h).1;simp[this]
theorem lJ {T T':List Tab}{vs:List Q}{i:Nat}{q:Q}(h:vs[i]? =some q):(Th T T' vs i)[i]? =some (Ad (Bg (Ed T) q)):=by
 unfold Th;rw[uU,h];simp
theorem Cz.tE {w:World}{bvs:List Value}{T T':List Tab}{vs:List Q}{i:Nat}{q:Q}{p:Option Addr}{n c:Nat}(h:Cz Z w bvs (Th T T' vs i))(b:vs[i]? =some q)(f:Ct Z w (.slice p n c) (Ad (Bg (Ed T') q))):Cz Z w (bvs.set i (.slice p n c)) (Th T T' vs (i+1)):=by
 have d:bvs.length=vs.length:=by rw[h.1];unfold Th;simp
 refine⟨by rw[List.length_set,d];unfold Th;simp,fun k l a=>?_⟩;by_cases g:k=i
 ·subst g;have:l=Ad (Bg (Ed T') q):=by unfold Th at a;rw[uU,b] at a;simp at a;exact a.symm
  subst this;exact⟨p,n,c,by rw[wZ (by rw[d];exact (tR.1 b).1)],f⟩
 have:(Th T T' vs i)[k]? =some l:=by
  unfold Th at a⊢;rw[uU] at a⊢;rw[←a];by_cases e:k<i
  ·simp[e,show k<i+1 by omega]
  simp[e,show ¬k<i+1 by omega]
 obtain⟨j,m,o,r,s⟩:=h.2 k l this;exact⟨j,m,o,by rw[wM (by omega)];exact r,s⟩
theorem U2.Ni {Z':Nat→Prop}{w:World}{v:Value}{os:List He}(h:U2 Z w v os)(d:∀k,k<w.heap.size→Z' k→Z k):U2 Z' w v os:=by
 obtain⟨a,cap,e,g,j,l⟩:=h;refine⟨a,cap,e,g,j,fun i o ho=>?_⟩;obtain⟨b,f,p,n,c,e1,m,q,c1,c2,hr⟩:=l i o ho;exact⟨b,f,p,n,c,e1,m,q,c1,c2,hr.Ni d⟩
theorem YZ {w W:World}{Y:Nat→Prop}{y:Nat}{st:Ses}{tv vv bv d:Value}{tcs vcs bvs h i:List Value}{T':List Tab}(c:Pt Z w y st tv vv bv tcs vcs bvs)(g:∀k,Y k↔Pu y tv vv bv k)
 (f:Ab (fun k=>k=y∨bv.ownBlock=some k) w W) (l:C2 W y #[d,vv,bv] 189)
 (m:W.ownsRow 0 197 3 d T'.length h) (n:∀k,d.ownBlock=some k→w.heap.size≤k) (t:DE (fun k=>Z k∨d.ownBlock=some k) W h T')
 (o:W.ownsRow 0 195 1 bv st.views.length i) (u:Cz (fun k=>Z k∨d.ownBlock=some k) W i (st.views.map fun q=>Ad (Bg (Ed T') q))) :
 U3 Z w Y y ⟨T',st.views⟩ W:=by
 have v:vv.ownBlock≠some y:=Gj c.vow c.obj (by decide);have x:=J5 c.vow c.bow (by decide);have j:∀k,(k=y∨bv.ownBlock=some k)→Z k∨Pu y d vv bv k:=fun k a=>.inr (a.elim .inl fun a=>.inr (.inr (.inr a)));have z:∀k,k<w.heap.size→(Z k∨Pu y d vv bv k)→Z k:=fun k p a=>by
  rcases a with a|a|a|a|a
  ·exact a
  ·exact c.z (.inl a)
  ·have:=n k a;omega
  ·exact c.zv k a
  exact c.zb k a
 have r:∀k,k<W.heap.size→(Z k∨Pu y d vv bv k)→(Z k∨d.ownBlock=some k):=fun k _ a=>by
  rcases a with a|a|a|a|a
  ·exact .inl a
  ·exact .inl (c.z (.inl a))
  ·exact .inr a
  ·exact .inl (c.zv k a)
  exact .inl (c.zb k a)
 refine⟨Pu y d vv bv,⟨d,vv,bv,h,vcs,i,⟨l,m,t.Ni r,?_,(c.vcs.Ni z).Cc f j,o,u.Ni r,.inr (.inl rfl),(fun k e=>.inr (.inr (.inl e))),(fun k e=>.inr (.inr (.inr (.inl e)))),(fun k e=>.inr (.inr (.inr (.inr e)))),?_⟩,fun _=>Iff.rfl⟩,?_,?_⟩
 ·exact A4 c.vow f (fun b s a=>a.elim (fun a=>v (a ▸ s)) fun a=>x b s a)
 ·intro k a;have A:=f.size;rcases a with a|a|a|a|a
  ·have:=c.old k a;omega
  ·rw[a];exact Aa l
  ·exact Kl m k a
  ·have:=Kl c.vow k a;omega
  exact Kl o k a
 ·exact⟨f.os,f.tape,f.output,f.size,fun k p j=>f.block k p fun a=>j ((g k).2 (a.elim .inl fun a=>.inr (.inr (.inr a))))⟩
 intro k a;rcases a with a|a|a|a
 ·exact .inl ((g k).2 (.inl a))
 ·exact .inr (n k a)
 ·exact .inl ((g k).2 (.inr (.inr (.inl a))))
 exact .inl ((g k).2 (.inr (.inr (.inr a))))
theorem On {w:World}{base:Nat}{e:TypeId}{size:Nat}{a:Option Addr}{m c n:Nat}{xs:List Value}(h:w.ownsRow base e size (.slice a m c) n xs){j:Nat}{k:Value}(l:xs[j]? =some k) :
 ∃g o d,a=some ⟨g,o,none⟩∧o=0∧base≤g∧g<w.heap.size∧C2 w g d e∧∀i x,xs[i]? =some x→w.cell? ⟨g,o+i,none⟩=some x:=by
 rcases h with ⟨p,⟨f,q⟩|⟨g,cap,d,f,r,hg,_,_,_,s⟩⟩
 ·subst q;have:=(tR.1 l).1;rw[p] at this;omega
 injection f with e1 e2 e3;refine⟨g,0,d,e1,rfl,r,Aa hg,hg,fun i x b=>?_⟩;rw[←s,uQ] at b;split at b
 ·rw[Af hg,uL,←uZ];exact b
 cases b
theorem Lk {w:World}{base:Nat}{e:TypeId}{size:Nat}{v:Value}{n:Nat}{xs:List Value}(h:w.ownsRow base e size v n xs):∃a c,v=.slice a n c∧n≤c∧c≤maxLen:=by
 rcases h.2 with ⟨e,b⟩|⟨g,cap,cur,e,_,_,h1,h2,_⟩
 ·exact⟨none,0,by rw[e,b],by omega,by unfold maxLen;omega⟩
 exact⟨_,_,e,h1,h2⟩
theorem DF {w:World}{base a:Nat}{e:TypeId}{size:Nat}{v:Value}{n:Nat}{xs:List Value}(h:w.ownsRow base e size v n xs)(_:a≤base):w.ownsRow a e size v n xs:=by
 refine⟨h.1,?_⟩;rcases h.2 with hn|⟨g,cap,b,rfl,_,c⟩
 ·exact .inl hn
 exact .inr ⟨g,cap,b,rfl,by omega,c⟩
theorem lK {w:World}{tcs:List Value}{tb:List Tab}(h:DE Z w tcs tb)(_:tcs.length=tb.length*3):∀d∈tcs,d.oneCell'=true:=by
 intro d e;obtain⟨j,a⟩:=uY e;have l:=(tR.1 a).1;obtain⟨t,f⟩:∃t,tb[j / 3]? =some t:=⟨_,tT (by omega)⟩;obtain⟨p,n,c,g,i,k,_⟩:=h (j / 3) t f;have b:j=j / 3*3∨j=j / 3*3+1∨j=j / 3*3+2:=by omega
 rcases b with b|b|b
 ·rw[b,g] at a;injection a with a;rw[←a];rfl
 ·rw[b,i] at a;injection a with a;rw[←a];rfl
 rw[b,k] at a;injection a with a;rw[←a];rfl
theorem qB {w:World}{ops:Array Oper}{rest:List Oper}{o:Oper}{a:Act}{Q:Exit→Act→World→Prop}(e:o.guard=none)(s x:Operand)
 (ho:o.op=.call { callee:=.builtin .append,args:=#[s,x],argTypes:=#[185,185] }) (f:a.eval s=.slice none 0 0)
 (b:Value) (m:Nat) (d:List Value) (i:a.eval x=b) (p:w.ownsRow 0 197 3 b m d) (q:∀b∈d,b.oneCell'=true) (_:m≤1000)
 (h:∀v' w',w'.ownsRow w.heap.size 197 3 v' m d→w.grownBy w' none→wpList prog ops Q rest (a.put o.dst v') w'):wpList prog ops Q (o::rest) a w:=by
 obtain⟨k,l,r,t,u⟩:=info_parts gC;rcases id p with ⟨v,⟨rfl,rfl⟩|⟨g,cap,_,rfl,_,hg,_,_,_,y⟩⟩
 ·have z:d=[]:=uM (by omega);subst z;exact wpList_append_own_none e s x 185 ho w.heap.size 197 k 3 underlying185 l (.slice none 0 0) 0 [] f (World.ownsRow_nil _ _ _ _) i (h _ w (World.ownsRow_nil _ _ _ _) ⟨rfl,rfl,rfl,tY _,fun _ _ _=>rfl⟩)
 refine wpList_append_own_at w e s x 185 ho w.heap.size 197 k (.agg #[.string ⟨#[]⟩,.string ⟨#[]⟩,.slice none 0 0]) 3 56 underlying185 l r t u rfl (by decide) (.slice none 0 0) 0 [] f (World.ownsRow_nil _ _ _ _) ⟨g,0,none⟩ m cap d i v (fun j b c=>?_) q (by unfold maxLen;omega) (by omega) (tY _) fun v' w' n A _ _=>h v' w' (by rw[uL,vJ] at n;exact n) A;rw[←y,uQ] at c;have key:w.cell? ⟨g,0+j,none⟩=some b:=by
  split at c
  ·rw[Af hg,uL,←uZ];exact c
  cases c
 unfold Addr.add;split
 ·next c=>rw[c] at key;exact key
 exact key
def Zb (Z:Nat→Prop)(v:Value):Nat→Prop:=fun k=>Z k∨v.ownBlock=some k
theorem qC {tb:List Tab}{D:Nat→Bag}{i:Nat}{t:Tab}(a:tb[i]? =some t):(Qf tb D).drop i=(Ad t.bag,D i)::(Qf tb D).drop (i+1):=by
 have h:(Qf tb D)[i]? =some (Ad t.bag,D i):=by unfold Qf;rw[uU,a];rfl
 have b:=(tR.1 h).1;rw[vF b,(tR.1 h).2]
theorem lL (tb:List Tab)(D:Nat→Bag):(Qf tb D).length=tb.length:=by unfold Qf;simp
end
section
theorem G1.iff {w:World}{X a:Nat→Prop}{p:Nat}{st:Ses}(h:G1 w X p st)(e:∀k,a k↔X k):G1 w a p st:=by
 obtain⟨O,xs,vs,tv,vv,b,c⟩:=h;exact⟨O,xs,vs,tv,vv,b,fun k=>(e k).trans (c k)⟩
theorem Lb.iff {Z:Nat→Prop}{w:World}{Y a:Nat→Prop}{y:Nat}{st:Ses}(h:Lb Z w Y y st)(e:∀k,a k↔Y k):Lb Z w a y st:=by
 obtain⟨tv,vv,bv,tcs,vcs,bvs,b,c⟩:=h;exact⟨tv,vv,bv,tcs,vcs,bvs,b,fun k=>(e k).trans (c k)⟩
theorem G1.good {w:World}{X:Nat→Prop}{p:Nat}{st:Ses}(h:G1 w X p st):B4 st.tabs∧st.views.length≤6:=by
 obtain⟨O,xs,vs,tv,vv,a,_⟩:=h;refine⟨a.good,?_⟩;rw[←a.vq,tZ];exact a.few
structure Pr where
 p:Nat
 y:Nat
 a:Ses
 b:Ses
def lM (st:Ses):Prop:=∀q∈st.views,VG st.tabs q
structure LW (w0 w:World) (Z:Nat→Prop) (F:Nat→Nat) (ps:List Pr):Prop where
 g0:gT<w0.heap.size
 kp:Ab No w0 w
 env:Uh w
 zw:∀k,Z k→w0.heap.size≤k∧k<w.heap.size
 fz:∀k,F k≠0→Z k
 top:∀k,F k<2*ps.length+2
 ses:∀(i:Nat) (pr:Pr),ps[i]? =some pr→G1 w (fun k=>F k=2*i+2) pr.p pr.a
 uses:∀(i:Nat) (pr:Pr),ps[i]? =some pr→Lb Z w (fun k=>F k=2*i+3) pr.y pr.b
 vg:∀(i:Nat) (pr:Pr),ps[i]? =some pr→lM pr.b
section
variable {w0 w w':World} {Z Z':Nat→Prop} {F F':Nat→Nat} {ps:List Pr}
theorem LW.old (h:LW w0 w Z F ps):Gq Z w:=fun k a=>(h.zw k a).2
theorem LW.new (h:LW w0 w Z F ps){k:Nat}(_:w.heap.size≤k):F k=0:=by
 by_cases hf:F k=0
 ·exact hf
 have:=(h.zw k (h.fz k hf)).2;omega
theorem LW.Cm (h:LW w0 w Z F ps)(k:Ab No w w'):LW w0 w' Z F ps where
 g0:=h.g0
 kp:=h.kp.seq k
 env:=h.env.Ag k
 zw:=fun i a=>⟨(h.zw i a).1,tU (h.zw i a).2 k.size⟩
 fz:=h.fz
 top:=h.top
 ses:=fun i pr hp=>(h.ses i pr hp).stays k (fun _ e=>e.elim) xT
 uses:=fun i pr hp=>(h.uses i pr hp).Ag k
 vg:=h.vg
theorem LW.Ag (h:LW w0 w Z F ps){n:Nat}(_:n≠0)(k:Ab (fun i=>F i=n) w w'):Ab No w0 w' :=
 h.kp.trans k (fun _ e=>e) (fun i a e=>by have:=(h.zw i (h.fz i (by omega))).1;omega)
theorem LW.sQ (h:LW w0 w Z F ps){n:Nat}(_:n≠0):¬F gT=n:=fun e=>by have:=(h.zw gT (h.fz gT (by omega))).1;have:=h.g0;omega
theorem LW.lN (h:LW w0 w Z F ps){n:Nat}(a:n≠0)(k:Ab (fun i=>F i=n) w w'){j:Nat}{pr:Pr}(hp:ps[j]? =some pr)(b:n≠2*j+2)(c:∀k,F' k=2*j+2↔F k=2*j+2):G1 w' (fun k=>F' k=2*j+2) pr.p pr.a :=
 ((h.ses j pr hp).stays k (fun i e x=>b (by omega)) (h.sQ a)).iff c
theorem LW.TV (h:LW w0 w Z F ps){n:Nat}(_:n≠0)(k:Ab (fun i=>F i=n) w w'){j:Nat}{pr:Pr}(hp:ps[j]? =some pr)(b:n≠2*j+3)(c:∀k,F' k=2*j+3↔F k=2*j+3)(a:∀i,Z i→Z' i)(d:∀i,i<w.heap.size→Z' i→Z i)(ho:Gq Z' w'):Lb Z' w' (fun k=>F' k=2*j+3) pr.y pr.b :=
 ((h.uses j pr hp).other k (fun i e=>⟨a i (h.fz i (by omega)),fun x=>b (by omega)⟩) d a ho).iff c
theorem LW.turn (h:LW w0 w Z F ps)(k:Ab (fun i=>F i=1) w w'){g:Option Nat}(hg:∀b,g=some b→b<w'.heap.size∧(w.heap.size≤b∨F b=1)):LW w0 w' (fun k=>Z k∨g=some k) (fun k=>if g=some k then 1 else F k) ps:=by
 have d:∀n,2≤n→∀k,(if g=some k then 1 else F k)=n↔F k=n:=fun n l k=>by
  by_cases e:g=some k
  ·rw[if_pos e];rcases (hg k e).2 with c|c
   ·rw[h.new c];omega
   rw[c]
  rw[if_neg e]
 have f:∀i,i<w.heap.size→(Z i∨g=some i)→Z i:=fun i hi a=>by
  rcases a with a|a
  ·exact a
  rcases (hg i a).2 with c|c
  ·omega
  exact h.fz i (by omega)
 have ho:Gq (fun k=>Z k∨g=some k) w':=fun i a=>by
  rcases a with a|a
  ·exact tU (h.old i a) k.size
  exact (hg i a).1
 refine⟨h.g0,h.Ag (by omega) k,h.env.kept k (h.sQ (by omega)),fun i a=>?_,fun i a=>?_,fun i=>?_,fun j pr hp=>h.lN (by omega) k hp (by omega) (d _ (by omega)),fun j pr hp=>h.TV (by omega) k hp (by omega) (d _ (by omega)) (fun i a=>.inl a) f ho,h.vg⟩
 ·refine⟨?_,ho i a⟩;rcases a with a|a
  ·exact (h.zw i a).1
  rcases (hg i a).2 with c|c
  ·have:=h.kp.size;omega
  exact (h.zw i (h.fz i (by omega))).1
 ·by_cases e:g=some i
  ·exact .inr e
  rw[if_neg e] at a;exact .inl (h.fz i a)
 have:=h.top i;split <;> omega
def Vz (F:Nat→Nat)(n:Nat)(X:Nat→Prop)[DecidablePred X]:Nat→Nat:=fun k=>if X k then n else if F k=n then 0 else F k
theorem DG {n:Nat}(_:n≠0){X:Nat→Prop}(k:Nat):Vz F n X k=n↔X k:=by
 unfold Vz;by_cases a:X k
 ·simp[a]
 by_cases hf:F k=n
 ·simp[a,hf];omega
 simp[a,hf]
theorem G5 {n m:Nat}(_:m≠0)(_:n≠m){X:Nat→Prop}(b:∀k,X k→F k=n∨F k=0)(k:Nat):Vz F n X k=m↔F k=m:=by
 unfold Vz;by_cases a:X k
 ·rw[if_pos a];have:=b k a;omega
 rw[if_neg a];by_cases hf:F k=n
 ·rw[if_pos hf];omega
 rw[if_neg hf]
theorem TW {n:Nat}{X:Nat→Prop}{k:Nat}(h:Vz F n X k≠0):X k∨F k≠0:=by
 unfold Vz at h;by_cases a:X k
 ·exact .inl a
 rw[if_neg a] at h;by_cases hf:F k=n
 ·rw[if_pos hf] at h;exact absurd rfl h
 rw[if_neg hf] at h;exact .inr h
theorem MF {n m:Nat}(a:n<m){X:Nat→Prop}(h:∀k,F k<m)(k:Nat):Vz F n X k<m:=by
 have:=h k;unfold Vz;split
 ·exact a
 split <;> omega
theorem M1 {ps:List Pr}{i j:Nat}{x pr:Pr}(h:(ps.set i x)[j]? =some pr):(j=i∧pr=x)∨(j≠i∧ps[j]? =some pr):=by
 by_cases a:j=i
 ·subst a;have b:=(tR.1 h).1;rw[wZ (by simpa using b)] at h;exact .inl ⟨rfl,(wU h).symm⟩
 rw[wM (by omega)] at h;exact .inr ⟨a,h⟩
theorem LW.prog (h:LW w0 w Z F ps){i:Nat}{pr:Pr}(hp:ps[i]? =some pr){d:Nat→Prop}{a':Ses}(f:G1 w' d pr.p a')(e:Rc (fun k=>F k=2*i+2) d w w') :
 LW w0 w' (fun k=>Z k∨d k) (Vz F (2*i+2) d) (ps.set i { pr with a:=a' }):=by
 have g:∀k,d k→F k=2*i+2∨F k=0:=fun k x=>(e.2 k x).imp id h.new;have n:∀j,j<w.heap.size→(Z j∨d j)→Z j:=fun j l b=>by
  rcases b with b|b
  ·exact b
  rcases e.2 j b with m|m
  ·exact h.fz j (by omega)
  omega
 have ho:Gq (fun k=>Z k∨d k) w':=fun j b=>b.elim (fun b=>tU (h.old j b) e.1.size) fun b=>f.lt b;refine⟨h.g0,h.Ag (by omega) e.1,f.env,fun j b=>⟨?_,ho j b⟩,fun j b=>(TW b).elim .inr fun b=>.inl (h.fz j b),(by rw[List.length_set];exact MF (by have:=(tR.1 hp).1;omega) h.top),fun j q c=>?_,fun j q c=>?_,fun j q c=>?_⟩
 ·rcases b with b|b
  ·exact (h.zw j b).1
  rcases e.2 j b with m|m
  ·exact (h.zw j (h.fz j (by omega))).1
  have:=h.kp.size;omega
 ·rcases M1 c with ⟨rfl,rfl⟩|⟨l,c⟩
  ·exact f.iff (DG (by omega))
  exact h.lN (by omega) e.1 c (by omega) (G5 (by omega) (by omega) g)
 ·rcases M1 c with ⟨rfl,rfl⟩|⟨l,c⟩
  ·have o:=h.TV (by omega) e.1 hp (by omega) (G5 (X:=d) (by omega) (by omega) g) (fun _ b=>.inl b) n ho;exact o
  exact h.TV (by omega) e.1 c (by omega) (G5 (by omega) (by omega) g) (fun _ b=>.inl b) n ho
 rcases M1 c with ⟨rfl,rfl⟩|⟨l,c⟩
 ·exact h.vg j pr hp
 exact h.vg j q c
theorem LW.doc (h:LW w0 w Z F ps){i:Nat}{pr:Pr}(hp:ps[i]? =some pr){b':Ses}(p:U3 Z w (fun k=>F k=2*i+3) pr.y b' w')(hv:lM b') :
 ∃Z' F',LW w0 w' Z' F' (ps.set i { pr with b:=b' })∧(∀k,F k=1→F' k=1)∧Ab (fun k=>F k=2*i+3) w w':=by
 obtain⟨d,o,f,l⟩:=p;have g:∀k,d k→F k=2*i+3∨F k=0:=fun k x=>(l k x).imp id h.new;have r:∀j,j<w.heap.size→(Z j∨d j)→Z j:=fun j m a=>by
  rcases a with a|a
  ·exact a
  rcases l j a with n|n
  ·exact h.fz j (by omega)
  omega
 have ho:Gq (fun k=>Z k∨d k) w':=o.old;refine⟨fun k=>Z k∨d k,Vz F (2*i+3) d,⟨h.g0,h.Ag (by omega) f,h.env.kept f (h.sQ (by omega)),fun j a=>⟨?_,ho j a⟩,fun j a=>(TW a).elim .inr fun a=>.inl (h.fz j a),(by rw[List.length_set];exact MF (by have:=(tR.1 hp).1;omega) h.top),fun j q c=>?_,fun j q c=>?_,fun j q c=>?_⟩,fun k e=>(G5 (by omega) (by omega) g k).2 e,f⟩
 ·rcases a with a|a
  ·exact (h.zw j a).1
  rcases l j a with n|n
  ·exact (h.zw j (h.fz j (by omega))).1
  have:=h.kp.size;omega
 ·rcases M1 c with ⟨rfl,rfl⟩|⟨m,c⟩
  ·have s:=h.lN (by omega) f hp (by omega) (G5 (X:=d) (by omega) (by omega) g);exact s
  exact h.lN (by omega) f c (by omega) (G5 (by omega) (by omega) g)
 ·rcases M1 c with ⟨rfl,rfl⟩|⟨m,c⟩
  ·exact o.iff (DG (by omega))
  exact h.TV (by omega) f c (by omega) (G5 (by omega) (by omega) g) (fun _ a=>.inl a) r ho
 rcases M1 c with ⟨rfl,rfl⟩|⟨m,c⟩
 ·exact hv
 exact h.vg j q c
theorem LW.push (h:LW w0 w Z F ps){w1:World}(o:G1 w1 (fun k=>k=w.heap.size) w.heap.size ⟨[],[]⟩)(g:Ab No w w1) :
 ∃Z' F',LW w0 (w1.alloc (.cells #[.slice none 0 0,.slice none 0 0,.slice none 0 0] 189)) Z' F' (ps++[⟨w.heap.size,w1.heap.size,⟨[],[]⟩,⟨[],[]⟩⟩])∧∀k,F' k=1↔F k=1:=by
 have v:w.heap.size<w1.heap.size:=o.lt rfl;have l:Ab No w (w1.alloc (.cells #[.slice none 0 0,.slice none 0 0,.slice none 0 0] 189)):=g.alloc _;have r:Ab No w1 (w1.alloc (.cells #[.slice none 0 0,.slice none 0 0,.slice none 0 0] 189)):=(Ab.refl No w1).alloc _;have s:Gq (fun k=>Z k∨k=w.heap.size) w1:=fun k a=>a.elim (fun a=>tU (h.old k a) g.size) fun a=>by omega
 have p:=fZ w1 s;have ho:=p.old;let F':Nat→Nat:=fun k=>if k=w.heap.size then 2*ps.length+2 else if k=w1.heap.size then 2*ps.length+3 else F k
 have t:F w.heap.size=0:=h.new (tY _);have u:F w1.heap.size=0:=h.new g.size;have m:∀n,n≠0→n≠2*ps.length+2→n≠2*ps.length+3→∀k,F' k=n↔F k=n:=fun n x y z k=>by
  show (if k=w.heap.size then 2*ps.length+2 else if k=w1.heap.size then 2*ps.length+3 else F k)=n↔F k=n;by_cases e1:k=w.heap.size
  ·rw[if_pos e1,e1,t];omega
  rw[if_neg e1];by_cases e2:k=w1.heap.size
  ·rw[if_pos e2,e2,u];omega
  rw[if_neg e2]
 refine⟨fun k=>(Z k∨k=w.heap.size)∨k=w1.heap.size,F',⟨h.g0,h.kp.seq l,h.env.Ag l,fun j a=>⟨?_,ho j a⟩,fun j a=>?_,fun j=>?_,fun j q b=>?_,fun j q b=>?_,fun j q b=>?_⟩,?_⟩
 ·have:=h.kp.size;rcases a with (a|a)|a
  ·exact (h.zw j a).1
  ·omega
  omega
 ·by_cases e1:j=w.heap.size
  ·exact .inl (.inr e1)
  by_cases e2:j=w1.heap.size
  ·exact .inr e2
  have:F' j=F j:=by show (if j=w.heap.size then _ else if j=w1.heap.size then _ else F j)=F j;rw[if_neg e1,if_neg e2]
  rw[this] at a;exact .inl (.inl (h.fz j a))
 ·have:=h.top j;rw[tS];show (if j=w.heap.size then 2*ps.length+2 else if j=w1.heap.size then 2*ps.length+3 else F j)<2*(ps.length+1)+2;split
  ·omega
  split <;> omega
 ·by_cases c:j<ps.length
  ·rw[uD c] at b;exact ((h.ses j q b).stays l (fun _ e=>e.elim) xT).iff (m _ (by omega) (by omega) (by omega))
  rw[uC (by omega)] at b;have d:=(tR.1 b).1;simp at d;have f:j=ps.length:=by omega
  subst f;have:q=⟨w.heap.size,w1.heap.size,⟨[],[]⟩,⟨[],[]⟩⟩:=by simpa using b.symm
  subst this;refine (o.stays r (fun _ e=>e.elim) xT).iff fun k=>?_;show (if k=w.heap.size then 2*ps.length+2 else if k=w1.heap.size then 2*ps.length+3 else F k)=2*ps.length+2↔k=w.heap.size;by_cases e1:k=w.heap.size
  ·simp[e1]
  rw[if_neg e1];by_cases e2:k=w1.heap.size
  ·rw[if_pos e2];omega
  rw[if_neg e2];have:=h.top k;refine⟨fun e=>by omega,fun e=>absurd e e1⟩
 ·by_cases c:j<ps.length
  ·rw[uD c] at b;exact ((h.uses j q b).other l (fun _ e=>e.elim) (fun i hi a=>by
    rcases a with (a|a)|a
    ·exact a
    ·omega
    have:=g.size;omega) (fun i a=>.inl (.inl a)) ho).iff (m _ (by omega) (by omega) (by omega))
  rw[uC (by omega)] at b;have d:=(tR.1 b).1;simp at d;have f:j=ps.length:=by omega
  subst f;have:q=⟨w.heap.size,w1.heap.size,⟨[],[]⟩,⟨[],[]⟩⟩:=by simpa using b.symm
  subst this;refine p.iff fun k=>?_;show (if k=w.heap.size then 2*ps.length+2 else if k=w1.heap.size then 2*ps.length+3 else F k)=2*ps.length+3↔k=w1.heap.size;by_cases e1:k=w.heap.size
  ·rw[if_pos e1];omega
  rw[if_neg e1];by_cases e2:k=w1.heap.size
  ·simp[e2]
  rw[if_neg e2];have:=h.top k;refine⟨fun e=>by omega,fun e=>absurd e e2⟩
 ·by_cases c:j<ps.length
  ·rw[uD c] at b;exact h.vg j q b
  rw[uC (by omega)] at b;have d:=(tR.1 b).1;simp at d;have f:j=ps.length:=by omega
  subst f;have:q=⟨w.heap.size,w1.heap.size,⟨[],[]⟩,⟨[],[]⟩⟩:=by simpa using b.symm
  subst this;exact fun q b=>by cases b
 exact m 1 (by omega) (by omega) (by omega)
end
theorem ZA (s:ByteArray)(w:World) :
 Calls prog 87 #[.string s] w fun e w'=>e=.returned (.tuple #[.int .i64 ((M2 s).1:Nat),.int .i64 ((M2 s).2:Nat)])∧Below w.heap.size w w':=by
 go_enter func87,ntmps87;go_wp21;go_call DD s _ as d w1 ⟨⟨_,n,c,rfl,_⟩,a⟩;have b:=Ae a;clear a;go_wp21;go_ret2;exact⟨rfl,b.o⟩
theorem U5 (n:Int)(w:World):Calls prog 54 #[.int .i64 n] w fun e w'=>e=.returned (.int .i64 n)∧w'=w:=by
 go_enter func54,ntmps54;go_wp2;go_ret;exact⟨rfl,rfl⟩
theorem MG (s:ByteArray)(w:World):Calls prog 51 #[.string s] w fun e w'=>e=.returned (.bool true)∧Ab No w w':=by
 go_enter func51,ntmps51;go_wp21;go_call NF s _ as a w1 ⟨rfl,b⟩;have c:=Ae b.toBelow;clear b;go_wp21;go_call ZA s _ as a f ⟨rfl,d⟩;have g:xR (Below w.heap.size w f):=c.o.trans (d.mono c.o.size);clear d;generalize ((M2 s).1:Nat)=x;generalize ((M2 s).2:Nat)=y;go_wp21;go_call U5 _ _ as a w3 ⟨rfl,rfl⟩;go_wp21;go_ret;exact⟨A5 (by simp),(Ab.refl No w).below g.o (tY _)⟩
def Ss (c n:Int):Int:=if c<0 then (-(c+1)) % n else c % n
theorem MH (c n:Int)(a:0<n):0≤Ss c n∧Ss c n<n:=by
 unfold Ss;split
 ·exact⟨Int.emod_nonneg _ (by omega),Int.emod_lt_of_pos _ a⟩
 exact⟨Int.emod_nonneg _ (by omega),Int.emod_lt_of_pos _ a⟩
theorem ZB (c n:Int)(w:World)(_: -9223372036854775808≤c∧c≤9223372036854775807)(_:0<n∧n≤9223372036854775807) :
 Calls prog 52 #[.int .i64 c,.int .i64 n] w fun e w'=>e=.returned (.int .i64 (Ss c n))∧w'=w:=by
 have a:n≠0:=by omega
 by_cases h:c<0
 ·have b:IntKind.i64.wrap (c+1)=c+1:=IntWalk.i64_in _ (by omega);have e1:IntKind.i64.wrap (-(c+1))= -(c+1):=IntWalk.i64_in _ (by omega);have e2:Ss c n=(-(c+1)) % n:=by unfold Ss;rw[if_pos h]
  have e3:Int.tmod (-(c+1)) n=(-(c+1)) % n:=xE (by omega);rw[e2];go_enter func52,ntmps52;go_wp21;go_ret;exact⟨rfl,rfl⟩
 have e2:Ss c n=c % n:=by unfold Ss;rw[if_neg h]
 have e3:Int.tmod c n=c % n:=xE (by omega);rw[e2];go_enter func52,ntmps52;go_wp21;go_ret;exact⟨rfl,rfl⟩
def sR (e:Ending):Prop:=∃b,e=.returned (.bool b)
theorem ZC (s:ByteArray)(w:World)(a:s.size≤maxLen):Calls prog 32 #[.string s] w fun e w'=>sR e∧w'=w:=by
 have j:=Bn a
 clear a;go_enter func32,ntmps32;go_wp21;go_loopg [3] s.size (fun k f wr=>∃i:Nat,i+k=s.size∧f=.int .i64 (i:Int)∧wr=w)
 case atStart=>exact⟨0,by omega,rfl,rfl⟩
 obtain⟨i,_,rfl,rfl⟩:=hrel;by_cases g:gk=0
 ·subst g;have h:¬(i:Int)<(s.size:Int):=by omega
  go_wp21;go_ret;exact⟨⟨true,rfl⟩,rfl⟩
 obtain⟨k,rfl⟩:=Bx g;have h:(i:Int)<(s.size:Int):=by omega
 have l:=Bm i
 have m:i<s.size:=by omega
 by_cases b:((s[i].toNat:Int) == 74)=true
 ·go_wp21;go_ret;exact⟨⟨false,rfl⟩,rfl⟩
 have b:((s[i].toNat:Int) == 74)=false:=by simpa using b
 by_cases c:((s[i].toNat:Int) == 68)=true
 ·go_wp21;go_ret;exact⟨⟨false,rfl⟩,rfl⟩
 have c:((s[i].toNat:Int) == 68)=false:=by simpa using c
 by_cases d:((s[i].toNat:Int) == 71)=true
 ·go_wp21;go_ret;exact⟨⟨false,rfl⟩,rfl⟩
 have d:((s[i].toNat:Int) == 71)=false:=by simpa using d
 go_wp21;go_roundg k
 case measure=>omega
 exact⟨i+1,by omega,by go_num,rfl⟩
def MI (ps:List Pr):List Value:=ps.flatMap fun q=>[pV q.p,pV q.y]
theorem TY:∀(ps:List Pr) (i:Nat) (q:Pr),ps[i]? =some q→(MI ps)[i*2]? =some (pV q.p)∧(MI ps)[i*2+1]? =some (pV q.y)
 | [],i,q,h=>by simp at h
 |x::ps,0,q,h=>by
  have:x=q:=by simpa using h
  subst this;exact⟨rfl,rfl⟩
 |x::ps,i+1,q,h=>by have a:=TY ps i q (by simpa using h);unfold MI at a⊢;rw[uX,show (i+1)*2=i*2+2 by omega];exact a
theorem TZ {ps:List Pr}{i:Nat}{q a:Pr}(h:ps[i]? =some q)(hp:a.p=q.p)(b:a.y=q.y):MI (ps.set i a)=MI ps:=by
 induction ps generalizing i with
 |nil=>rfl
 |cons x ps c =>
  cases i with
  |zero =>have:x=q:=(by simpa using h);subst this;show MI (a::ps)=MI (x::ps);unfold MI;rw[uX,uX,hp,b]
  |succ i =>have:=c (i:=i) (by simpa using h);show MI (x::ps.set i a)=MI (x::ps);unfold MI at this⊢;rw[uX,uX,this]
structure WA (w:World) (F:Nat→Nat) (wb:Nat) (av:Value) (ps:List Pr):Prop where
 obj:w.heap[wb]? =some (.cells #[av] 64 (0,0))
 own:w.ownsRow 0 109 2 av ps.length (MI ps)
 fb:F wb=1
 fa:∀k,av.ownBlock=some k→F k=1
theorem WA.Cm {w w':World}{F F':Nat→Nat}{wb:Nat}{av:Value}{ps a:List Pr}{S:Nat→Prop}(h:WA w F wb av ps)(k:Ab S w w')(c:∀i,S i→F i≠1)(d:∀i,F i=1→F' i=1)(f:a.length=ps.length)(hp:MI a=MI ps):WA w' F' wb av a where
 obj:=(k.block wb (Aa h.obj) (fun s=>c wb s h.fb)).trans h.obj
 own:=by rw[f,hp];exact A4 h.own k (fun b e s=>c b s (h.fa b e))
 fb:=d wb h.fb
 fa:=fun k e=>d k (h.fa k e)
theorem qD:(prog.info? 109).map (fun i=>(i.zero,i.size,i.bytes))=some (some (.agg #[.pointer none,.pointer none]),2,16):=by kernel_rfl
def Km (w0:World)(wb n:Nat)(w':World):Prop:=∃Z F av ps,LW w0 w' Z F ps∧WA w' F wb av ps∧(∀q∈ps,q.a=q.b)∧ps.length≤n
theorem MJ {w0 w:World}{Z:Nat→Prop}{F:Nat→Nat}{ps:List Pr}{wb:Nat}{av:Value}(h:LW w0 w Z F ps)(d:WA w F wb av ps)(y:∀q∈ps,q.a=q.b)(_:ps.length≤4000000000000) :
 Calls prog 31 #[pV wb] w fun e w'=>e=.returned (.bool true)∧Km w0 wb (ps.length+1) w':=by
 have H:=Ae h;have c:=Ae d;have I:=Ae y;have J:=Aa d.obj;obtain⟨t,cap,rfl,K,L⟩:=Lk d.own;have z:=Ae d.obj;have ai:∀n,pV n=.pointer (some ⟨n,0,none⟩):=fun _=>rfl;obtain⟨M,N,O,P,Q⟩:=info_parts qD;have R:ps.length+1≤maxLen:=by unfold maxLen;omega
 have S:(ps.length+1)*16≤140737488355328:=by omega
 have A:=Ae (kG w h.env);unfold pV at A⊢;clear h d y K L;go_enter func31,ntmps31;go_wp21;go_call A.o as e w1 ⟨rfl,B,C⟩;have T:=Ae B;have D:=Ae C;clear B C;go_wp21;refine (fY w1).mono ?_;unfold pV;rintro e a ⟨rfl,u⟩;have E:xR (Ab No w a):=by rw[u];exact D.o.alloc _
 have U:xR (∃Z' F',LW w0 a Z' F' (ps++[⟨w.heap.size,w1.heap.size,⟨[],[]⟩,⟨[],[]⟩⟩])∧∀k,F' k=1↔F k=1):=by rw[u];exact H.o.push T.o D.o
 have m:=(E.o.block wb J xT).trans z.o;have aj:a.cell? ⟨wb,0,none⟩=some (.slice t ps.length cap):=(Af m 0).trans rfl;have V:=Aa m;have W:=Ae m;have X:=A4 c.o.own E.o (fun _ _ Y=>Y.elim);have aa:some wb≠Value.ownBlock (.slice t ps.length cap):=fun x=>Gj c.o.own z.o (by decide) x.symm;clear u m;go_wp2_with (first
  |(at_builtin;refine wpList_append_own_at _ rfl _ _ 62 rfl 0 109 M (.agg #[.pointer none,.pointer none]) 2 16 underlying62 N O P Q rfl (by decide) _ _ _ rfl (X.alloc _) ⟨a.heap.size,0,none⟩ 1 1 [.pointer (some ⟨w.heap.size,0,none⟩),.pointer (some ⟨w1.heap.size,0,none⟩)] rfl rfl (K0 a _ _ _) (by simp[Value.oneCell']) R S (vM _) ?_;intro ak o p G _ ab;obtain⟨f,i,rfl⟩:=Rk p (by omega);have j:=(G.block wb (by simp;omega) aa).trans ((Below.heap_alloc _ _ _ V).trans W.o);have al:o.cell? ⟨wb,0,none⟩=some (.slice t ps.length cap):=(Af j 0).trans rfl;have am:=Am j 0)
  |fail)
 go_ret;refine⟨A5 (by simp),?_⟩;obtain⟨Z',F',ac,s⟩:=U.o;have ad:Ab (fun k=>F' k=1) a (o.setCell ⟨wb,0,none⟩ (.slice f (ps.length+1) i)):=by refine Dj (((Ab.refl _ a).alloc _).grown G (fun r e=>.inr ((s r).2 (c.o.fa r e)))) (.inl ((s wb).2 c.o.fb)) _
 have an:=Aa j;have ae:=Kl p;have ao:a.heap.size<(a.alloc (.cells #[.pointer (some ⟨w.heap.size,0,none⟩),.pointer (some ⟨w1.heap.size,0,none⟩)] 109)).heap.size:=by simp
 have af:(o.setCell ⟨wb,0,none⟩ (.slice f (ps.length+1) i)).heap.size=o.heap.size:=by simp[World.setCell]
 have ag:=ac.turn ad (g:=Value.ownBlock (.slice f (ps.length+1) i)) (fun b e=>⟨by rw[af];exact ae b e,by
  rcases ab with v|v
  ·exact .inr ((s b).2 (c.o.fa b (v ▸ e)))
  rw[v] at e;injection e with e;exact .inl (by omega)⟩)
 have ah:∀k,F' k=1→(if Value.ownBlock (.slice f (ps.length+1) i)=some k then 1 else F' k)=1:=fun k e=>by split;rfl;exact e
 refine⟨_,_,.slice f (ps.length+1) i,_,ag,⟨?_,?_,ah wb ((s wb).2 c.o.fb),fun k e=>by rw[if_pos e]⟩,?_,by simp⟩
 ·rw[A0 j];rfl
 ·have e1:(ps++[(⟨w.heap.size,w1.heap.size,⟨[],[]⟩,⟨[],[]⟩⟩:Pr)]).length=ps.length+1:=by simp
  have e2:MI (ps++[(⟨w.heap.size,w1.heap.size,⟨[],[]⟩,⟨[],[]⟩⟩:Pr)])=MI ps++[.pointer (some ⟨w.heap.size,0,none⟩),.pointer (some ⟨w1.heap.size,0,none⟩)]:=by unfold MI;rw[vR];rfl
  rw[e1,e2];exact Lc p (Gj p j (by decide)) _
 intro q l;rcases tW.1 l with l|l
 ·exact I.o q l
 have:q=⟨w.heap.size,w1.heap.size,⟨[],[]⟩,⟨[],[]⟩⟩:=by simpa using l
 rw[this]
end
end Go.Proofs.YtdinjjmcmfjbfaaGreatDoor
