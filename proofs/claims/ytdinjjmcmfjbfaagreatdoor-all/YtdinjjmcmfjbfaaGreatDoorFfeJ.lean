import Derived.Test.YtdinjjmcmfjbfaaGreatDoorFpJ
namespace Go.Proofs.YtdinjjmcmfjbfaaGreatDoor
open Go.RowKit Go.Shelf Go.Deep Mo Pl Tryz
def Ke (tb:List Tab)(D:Nat→Bag)(n:Nat):List Tab:=tb.mapIdx fun i t=>if i<n then { t with bag:=t.bag++D i } else t
def Cb (tb:List Tab)(D:Nat→Bag):List Tab:=tb.mapIdx fun i t=>{ t with bag:=t.bag++D i }
def Qf (tb:List Tab)(D:Nat→Bag):List (Bag×Bag):=tb.mapIdx fun i t=>(Ad t.bag,D i)
theorem XO (tb:List Tab)(D:Nat→Bag):Ke tb D 0=tb:=by
 unfold Ke;refine vN fun i=>?_;rw[uU];cases tb[i]? <;> simp
theorem L3 (tb:List Tab)(D:Nat→Bag):Ke tb D tb.length=Cb tb D:=by
 unfold Ke Cb;refine vN fun i=>?_;rw[uU,uU];cases h:tb[i]? with
 |none=>rfl
 |some t =>have:=(tR.1 h).1;simp[this]
theorem kN (tb:List Tab)(D:Nat→Bag)(n:Nat):(Ke tb D n).map (fun t=>(t.nm,t.ts))=tb.map fun t=>(t.nm,t.ts):=by
 unfold Ke;refine vN fun i=>?_;rw[tX,uU,tX];cases tb[i]? with
 |none=>rfl
 |some t=>simp only[xB];split <;> rfl
theorem Uv (tb:List Tab)(D:Nat→Bag)(n:Nat):(Ke tb D n).map Tab.nm=tb.map Tab.nm:=by
 have:=congrArg (List.map Prod.fst) (kN tb D n);simpa [List.map_map,Function.comp_def] using this
theorem Xg {tb:List Tab}(D:Nat→Bag)(n:Nat)(a:(tb.map Tab.nm).Nodup){k:Nat}{t:Tab}(b:tb[k]? =some t):Dw (Ke tb D n) t.nm=some (if k<n then { t with bag:=t.bag++D k } else t):=by
 have c:(if k<n then { t with bag:=t.bag++D k } else t)∈Ke tb D n:=by refine tV (i:=k) ?_;unfold Ke;rw[uU,b];rfl
 have:=SZ (tb:=Ke tb D n) (by rw[Uv];exact a) c;have e:(if k<n then { t with bag:=t.bag++D k } else t:Tab).nm=t.nm:=by split <;> rfl
 rw[e] at this;exact this
theorem Xh {tb:List Tab}(D:Nat→Bag)(n:Nat)(a:(tb.map Tab.nm).Nodup):Li (Ke tb D n)=Li tb:=by
 funext nm;unfold Li;cases h:Dw tb nm with
 |none =>
  have:Dw (Ke tb D n) nm=none:=by rw[R3] at h⊢;intro t b e;have:t.nm∈(Ke tb D n).map Tab.nm:=uA.2 ⟨t,b,rfl⟩;rw[Uv] at this;obtain⟨c,d,f⟩:=uA.1 this;exact h c d (f.trans e)
  rw[this]
 |some t =>obtain⟨g,rfl⟩:=Gb h;obtain⟨k,i⟩:=uY g;rw[Xg D n a i];show some (if k<n then { t with bag:=t.bag++D k } else t:Tab).ts=some t.ts;split <;> rfl
theorem XQ {tb:List Tab}(D:Nat→Bag)(n:Nat)(b:(tb.map Tab.nm).Nodup){t:Tab}(f:tb[n]? =some t){q:Q}{ts:List Bool}(i:A7 (Li tb) q=some ts)(j:Nat) :
 D0 (Ke tb D (n+1)) q j=if (Ac q)[j]? =some t.nm then D0 (Ke tb D n) q j++D n else D0 (Ke tb D n) q j:=by
 unfold D0;cases l:(Ac q)[j]? with
 |none=>simp
 |some nm =>
  obtain⟨us,m⟩:=E0 q ts i nm (tV l);obtain⟨c,o,_⟩:=Oj m;obtain⟨p,rfl⟩:=Gb o;obtain⟨k,a⟩:=uY p;simp only;unfold Ed;rw[Xg D (n+1) b a,Xg D n b a];simp only;by_cases e:c.nm=t.nm
  ·have g:k=n:=(by have r:(tb.map Tab.nm)[k]? =some t.nm:=(by rw[tX,a,←e];rfl);have s:(tb.map Tab.nm)[n]? =some t.nm:=(by rw[tX,f];rfl);exact Ra b r s);subst g;rw[if_pos (show k<k+1 by omega),if_neg (show ¬k<k by omega),if_pos (show some c.nm=some t.nm by rw[e])]
  have g:k≠n:=fun d=>by subst d;rw[f] at a;cases a;exact e rfl
  have d:¬some c.nm=some t.nm:=fun x=>e (by simpa using x);rw[if_neg d];by_cases h:k<n
  ·rw[if_pos h,if_pos (show k<n+1 by omega)]
  rw[if_neg h,if_neg (show ¬k<n+1 by omega)]
theorem Zk:∀(l:List (Bag×Bag)) (n:Int),D9 l n=0→(∀p∈l,Zg p=true)∧n+(l.map fun p=>Nr p.1+Nr p.2).sum≤60
 | [],n,h=>by
   refine⟨(fun p hp=>by cases hp),?_⟩;unfold D9 at h;simp only[List.map_nil,List.sum_nil];split at h
   ·omega
   omega
 |p::l,n,h=>by
  unfold D9 at h;by_cases c:Zg p=true
  ·rw[if_pos c] at h;obtain⟨a,b⟩:=Zk l _ h;refine⟨fun x d=>?_,?_⟩
   ·rcases uP.1 d with rfl|d
    ·exact c
    exact a x d
   rw[uT,xJ];omega
  rw[if_neg c] at h;omega
theorem KT:∀(tb:List Tab) (D:Nat→Bag),Sn (Cb tb D)=((Qf tb D).map fun p=>Nr p.1+Nr p.2).sum
 | [],D=>rfl
 |t::tb,D=>by
  unfold Sn Cb Qf;simp only[List.mapIdx_cons,uT,xJ];have a:=KT tb fun i=>D (i+1);unfold Sn Cb Qf at a;rw[a];have:Nr (t.bag++D 0)=Nr (Ad t.bag)+Nr (D 0):=by unfold Nr;rw[D3,F9]
  rw[this]
structure sV (tb:List Tab) (D:Nat→Bag):Prop where
 ty:∀(i:Nat) (t:Tab),tb[i]? =some t→Mo.RT t.ts (D i)
 val:∀(i:Nat),∀e∈D i,∀v∈e.1,oM v
theorem KU {tb:List Tab}(h:B4 tb){D:Nat→Bag}(b:sV tb D)(k:D9 (Qf tb D) 0=0):B4 (Cb tb D):=by
 obtain⟨l,_⟩:=Zk _ _ k;have hr:Sn (Cb tb D)≤60:=by rw[KT];omega
 refine⟨fun x c=>?_,by rw[←L3,Uv];exact h.nod,hr,by rw[←L3];have:=congrArg List.length (Uv tb D tb.length);simp only[tZ] at this;rw[this];exact h.few⟩;obtain⟨i,hi⟩:=uY c;unfold Cb at hi;rw[uU] at hi;obtain⟨t,d,rfl⟩:=uK.1 hi;have hg:=h.each t (tV d);have f:Zg (Ad t.bag,D i)=true:=l _ (by refine tV (i:=i) ?_;unfold Qf;rw[uU,d];rfl);refine⟨fun r=>?_,fun e a=>?_,fun e a=>?_,fun e a v hv=>?_,hg.len,hg.name⟩
 ·show 0≤cnt (t.bag++D i) r;rw[Ah];by_cases g:cnt (D i) r=0
  ·rw[g];have:=hg.nn r;omega
  obtain⟨x,c,rfl⟩:=Ck.Cq g;unfold Zg at f;have:=uR.1 f x c;have j:0≤cnt (Ad t.bag) x.1+cnt (D i) x.1:=by simpa using this
  rw[Aq] at j;exact j
 ·rcases tW.1 a with a|a
  ·exact hg.rt e a
  exact b.ty i t d e a
 ·rcases tW.1 a with a|a
  ·exact hg.bt e a
  exact fun v hv=>(b.val i e a v hv).1
 rcases tW.1 a with a|a
 ·exact hg.num e a v hv
 exact (b.val i e a v hv).2
theorem TC {us:List Bool}{B:Bag}(h:KM us B)(c:us.length≤6):B2 us B :=
 ⟨h.nn,by have:=h.rows;omega,by have:=h.wts;omega,fun e a=>by obtain⟨x,b,e1⟩:=Jj a;rw[←e1];exact h.rt x b,fun e a v hv=>by obtain⟨x,b,e1⟩:=Jj a;rw[←e1] at hv;exact h.bt x b v hv,c⟩
theorem oR {tb:List Tab}{V:VS}(d:A7 (Li tb) V.q=some V.ts){G:Nat→Bag}(e:∀j,(Ac V.q)[j]? =none→G j=[])(c:∀j nm us,(Ac V.q)[j]? =some nm→Li tb nm=some us→KM us (G j)):mA (Li tb) V G:=by
 refine⟨(KN fun j=>?_).2,fun j nm us a b=>?_⟩
 ·cases a:(Ac V.q)[j]? with
  |none=>rw[e j a];exact Zi
  |some nm =>obtain⟨us,b⟩:=E0 V.q V.ts d nm (tV a);have:=c j nm us a b;exact⟨this.nn,this.rows,this.wts⟩
 rw[uL];have:=c j nm us a b;exact⟨this.rt,this.bt⟩
def Uw (xs:List TabS)(D:Nat→Bag)(n:Nat):List TabS:=xs.mapIdx fun i X=>if i<n then { X with bag:=X.bag++D i } else X
theorem Kf (xs:List TabS)(D:Nat→Bag)(n i:Nat):(Uw xs D n)[i]? =(xs[i]?).map fun X=>if i<n then { X with bag:=X.bag++D i } else X:=by unfold Uw;rw[uU]
theorem XR (xs:List TabS)(D:Nat→Bag):Uw xs D 0=xs:=by
 refine vN fun i=>?_;rw[Kf];cases xs[i]? <;> simp
theorem Ux {β:Type}(g:TabS→β)(hg:∀(X:TabS) (b:Bag),g { X with bag:=b }=g X)(xs:List TabS)(D:Nat→Bag)(n:Nat):(Uw xs D n).map g=xs.map g:=by
 refine vN fun i=>?_;rw[tX,Kf,tX];cases xs[i]? with
 |none=>rfl
 |some X =>
  simp only[xB];split
  ·rw[hg]
  rfl
theorem Ol {xs:List TabS}{D:Nat→Bag}{n:Nat}{Y:TabS}(h:Y∈Uw xs D n):∃Z∈xs,Y.blk=Z.blk∧Y.name=Z.name∧Y.tks=Z.tks∧Y.tv=Z.tv:=by
 obtain⟨i,hi⟩:=uY h;rw[Kf] at hi;obtain⟨Z,a,rfl⟩:=uK.1 hi;refine⟨Z,tV a,?_⟩;split <;> exact⟨rfl,rfl,rfl,rfl⟩
theorem TD {ft:List UInt8→Option (List Bool)}{id0:Nat}{xs:List TabS}{vs:List VS}(h:Fx ft id0 xs vs)(D:Nat→Bag)(n:Nat):Fx ft id0 (Uw xs D n) vs:=by
 refine⟨by rw[Ux (fun X=>X.name) (fun _ _=>rfl)];exact h.nm,by rw[Ux (fun X=>X.blk) (fun _ _=>rfl)];exact h.bl,h.vb,h.dis,fun V d a f=>?_,⟨h.id.1,fun Y b=>?_⟩,h.fix,fun Y b=>?_,fun Y b=>?_⟩
 ·obtain⟨a1,a2,a3⟩:=h.va V d a f;refine⟨a1,a2,fun Y b=>?_⟩;obtain⟨Z,c,e,_⟩:=Ol b;rw[e];exact a3 Z c
 ·obtain⟨Z,c,e,_⟩:=Ol b;rw[e];exact h.id.2 Z c
 ·obtain⟨Z,c,_,e2,e3,_⟩:=Ol b;rw[e3,e2];exact h.tks Z c
 obtain⟨Z,c,_,_,e3,_⟩:=Ol b;rw[e3];exact h.few Z c
theorem XS {xs:List TabS}(f:(xs.map (·.name)).Nodup)(D:Nat→Bag){i:Nat}{X:TabS}(b:xs[i]? =some X):JX (Uw xs D i) X.name (D i)=Uw xs D (i+1):=by
 unfold JX;refine vN fun k=>?_;rw[tX,Kf,Kf];cases a:xs[k]? with
 |none=>rfl
 |some Y =>
  simp only[xB];by_cases e:k=i
  ·subst e;rw[b] at a;cases a;rw[if_neg (show ¬k<k by omega),if_pos (show k<k+1 by omega),if_pos rfl]
  have c:Y.name≠X.name:=fun g=>e (Ra f (show (xs.map (·.name))[k]? =some X.name by rw[tX,a,←g];rfl) (by rw[tX,b];rfl));by_cases d:k<i
  ·rw[if_pos d,if_pos (show k<i+1 by omega)];rw[if_neg (show ¬({ Y with bag:=Y.bag++D k }:TabS).name=X.name from c)]
  rw[if_neg d,if_neg (show ¬k<i+1 by omega),if_neg c]
def rI (O:Ow)(xs:List TabS)(vs:List VS)(k:Nat):Prop:=(∃X∈xs,O k=X.blk+2)∨∃V∈vs,VA V (O k)
def DJ (w:World)(O:Ow)(p:Nat)(st:Ses)(xs:List TabS)(vs:List VS)(tv:Value)(D:Nat→Bag)(i:Nat)(wr:World):Prop :=
 ∃O':Ow,(∀k,k<w.heap.size→O' k=O k)∧Ab (rI O xs vs) w wr∧Cs wr O' tv (p+2) (Uw xs D i)∧∀V∈vs,AB V (D0 (Ke st.tabs D i) V.q) wr O'
section
variable {w:World} {O:Ow} {p:Nat} {st:Ses} {xs:List TabS} {vs:List VS} {tv vv:Value} {D:Nat→Bag}
theorem Be.dj (h:Be w O p st xs vs tv vv):DJ w O p st xs vs tv D 0 w:=⟨O,fun _ _=>rfl,Ab.refl _ _,by rw[XR];exact h.tabs,fun V a=>by rw[XO];exact h.vat V a⟩
theorem Be.tK (h:Be w O p st xs vs tv vv)(hg:B4 (Cb st.tabs D)){i:Nat}{X:TabS}(n:xs[i]? =some X)(c:Nat){V:VS}(f:V∈vs):mA (Li st.tabs) V (gv ((Kq vs X.name).take c) (D i) (fun V=>D0 (Ke st.tabs D i) V.q) V):=by
 have g:∀j,(V.blk,j)∈((Kq vs X.name).take c).map I8→(Ac V.q)[j]? =some X.name:=fun j b=>by obtain⟨pr,hp,e⟩:=uA.1 b;obtain⟨o,q⟩:=Pg.1 (vY hp);obtain⟨e1,e2⟩:=Prod.mk.inj e;have:pr.1=V:=Hf h.fx.vb o f e1;rw[←this,←e2];exact q
 obtain⟨t,r,s,_⟩:=h.at n;refine oR (h.fx.fix V f).ty (fun j b=>?_) (fun j nm us b u=>?_)
 ·show (if (V.blk,j)∈((Kq vs X.name).take c).map I8 then _ else _)=_;rw[if_neg (fun e=>by have:=g j e;rw[b] at this;cases this)];show D0 (Ke st.tabs D i) V.q j=[];unfold D0;rw[b]
 obtain⟨a,v,rfl⟩:=Oj u;obtain⟨l,rfl⟩:=Gb v;obtain⟨k,d⟩:=uY l;have x:D0 (Ke st.tabs D i) V.q j=if k<i then a.bag++D k else a.bag:=by unfold D0 Ed;rw[b];simp only;rw[Xg D i h.good.nod d];simp only;split <;> rfl
 have y:KM a.ts a.bag:=h.good.Ur l;have m:KM a.ts (a.bag++D k):=by have:({ a with bag:=a.bag++D k }:Tab)∈Cb st.tabs D:=tV (i:=k) (by unfold Cb;rw[uU,d];rfl);exact hg.Ur this
 show KM a.ts (if (V.blk,j)∈((Kq vs X.name).take c).map I8 then D0 (Ke st.tabs D i) V.q j++D i else D0 (Ke st.tabs D i) V.q j);rw[x];by_cases hi:(V.blk,j)∈((Kq vs X.name).take c).map I8
 ·rw[if_pos hi];have e:a.nm=t.nm:=by have:=g j hi;rw[b] at this;rw[←s];simpa using this
  have z:k=i:=Ra h.good.nod (show (st.tabs.map Tab.nm)[k]? =some t.nm by rw[tX,d,←e];rfl) (by rw[tX,r];rfl);subst z;rw[if_neg (show ¬k<k by omega)];exact m
 rw[if_neg hi];split
 ·exact m
 exact y
theorem Be.step (h:Be w O p st xs vs tv vv)(hg:B4 (Cb st.tabs D)){i:Nat}{X:TabS}(b:xs[i]? =some X){c:Nat}(n:Ak w c (Ad (D i)))(hO:O c=0){wr:World}(s:DJ w O p st xs vs tv D i wr) :
 Calls prog 47 #[.map (some c),.iface 101 (C1 X.blk)] wr fun e w'=>e=.returned (.tuple #[])∧DJ w O p st xs vs tv D (i+1) w':=by
 obtain⟨_,g,l,u,v⟩:=s;obtain⟨t,m,x,o⟩:=h.at b;have y:=tV b;have q:=tV m;have z:X∈Uw xs D i:=tV (i:=i) (by rw[Kf,b];simp);have r:t.ts.length≤6:=by have:=(h.good.each t q).len;omega
 have A:KM t.ts (t.bag++D i):=by have:({ t with bag:=t.bag++D i }:Tab)∈Cb st.tabs D:=tV (i:=i) (by unfold Cb;rw[uU,m];rfl);exact hg.Ur this
 have B:¬rI O xs vs c:=fun e=>by
  rcases e with ⟨Y,_,e⟩|⟨V,a,e⟩
  ·omega
  have:=(h.fx.va V a _ e).1;omega
 refine (AU (Hh h.good) (TD h.fx D i) z (ts:=t.ts) (d:=D i) (by rw[o];exact TC (h.good.Ur q) r) (by rw[o];exact TC A r) (G:=fun V=>D0 (Ke st.tabs D i) V.q) (fun C V a=>h.tK hg b C a) u v (n.kept l B) (by rw[g c n.lt];exact hO)).mono fun e w' E=>?_;obtain⟨F,H,I,J,K,L⟩:=E;refine⟨F,H,fun k f=>(I k (tU f l.size)).trans (g k f),?_,?_,fun V a=>?_⟩
 ·refine l.trans J (fun _ e=>e) fun k f e=>?_;rw[g k f] at e;rcases e with e|e
  ·exact .inl ⟨X,y,e⟩
  exact .inr e
 ·rw[←XS h.fx.nm D b];exact K
 have:=L V a;have e:rS X.name (D i) (fun V=>D0 (Ke st.tabs D i) V.q) V=D0 (Ke st.tabs D (i+1)) V.q:=by funext j;rw[XQ D i h.good.nod m (h.fx.fix V a).ty j,←x];rfl
 rw[e] at this;exact this
end
theorem E6.map {w:World}{v:Value}{l:Bag}(h:E6 w v l){k:Nat}(e:v=.map (some k)):∃es c,w.heap[k]? =some (.map es c):=by
 rcases h with ⟨a,_⟩|⟨b,a,h⟩
 ·rw[a] at e;cases e
 rw[a] at e;have:b=k:=by simpa using e
 rw[←this];exact h.obj
open Classical in
theorem XU (v:Nat){ts:List Bool}{told B:Bag}(w:World)(O:Ow)(h:Er w O v told B)(ok1:B2 ts told)(ok2:B2 ts B)(u:OB ts (B++neg told))(x:Uh w)(hO:O gT≠v+2){N:Nat}(_:N≤w.heap.size)(y:v<N) :
 Calls prog 40 #[C1 v] w fun e w'=>e=.returned (.string ⟨(B8 (B++neg told)).toArray⟩)∧∃b:Ow,(∀k,k<N∨k<w.heap.size∧O k≠v+2→b k=O k)∧(∀k,N≤k→w.heap.size≤k∨O k=v+2→b k≠0→b k=v+2∧∃es c,w'.heap[k]? =some (.map es c))∧Ab (fun k=>O k=v+2∧¬Is 5 w k) w w'∧Er w' b v B B:=by
 obtain⟨q,hv,r,i,j,l,z⟩:=h;obtain⟨P,d⟩:∃P:Ow,∀k,P k=if k=v∨hv=.map (some k)∨r=.map (some k) then v+2 else 0:=⟨_,fun _=>rfl⟩
 have p1:∀k,P k=v+2→O k=v+2∧¬Is 5 w k:=fun k e=>by
  rw[d] at e;split at e
  ·next a =>
   rcases a with rfl|a|a
   ·exact⟨q,fun hi=>absurd (hi.ne i) (by decide)⟩
   ·obtain⟨es,c,m⟩:=j.1.map a;exact⟨j.2 k a,fun ⟨A,C,hi⟩=>by rw[m] at hi;cases hi⟩
   obtain⟨es,c,m⟩:=l.1.map a;exact⟨l.2 k a,fun ⟨A,C,hi⟩=>by rw[m] at hi;cases hi⟩
  omega
 have D:Er w P v told B:=⟨by rw[d,if_pos (.inl rfl)],hv,r,i,⟨j.1,fun k e=>by rw[d,if_pos (.inr (.inl e))]⟩,⟨l.1,fun k e=>by rw[d,if_pos (.inr (.inr e))]⟩,z⟩;refine (KG v w P D ok1 ok2 u x (fun e=>hO (p1 _ e).1)).mono fun e w' E=>?_;obtain⟨F,G,H,I,J⟩:=E;refine⟨F,?_⟩;obtain⟨g0,f,g,K,n,o,L⟩:=J;have Q:=Aa i;obtain⟨b,p⟩:∃b:Ow,∀k,b k=if k<N∨k<w.heap.size∧O k≠v+2 then O k else if f=.map (some k)∨g=.map (some k) then v+2 else 0:=⟨_,fun _=>rfl⟩
 have a1:∀k,k<N∨k<w.heap.size∧O k≠v+2→b k=O k:=fun k s=>by rw[p,if_pos s]
 have a2:∀k,f=.map (some k)∨g=.map (some k)→G k=v+2→b k=v+2:=fun k e e1=>by
  by_cases t:k<N∨k<w.heap.size∧O k≠v+2
  ·rw[a1 k t];have M:k<w.heap.size:=(by omega);rw[H k M] at e1;exact (p1 k e1).1
  rw[p,if_neg t,if_pos e]
 refine⟨b,a1,fun k s R e=>?_,I.mono fun k _ e=>p1 k e,by rw[a1 v (.inl y)];exact q,f,g,K,⟨n.1,fun k e=>a2 k (.inl e) (n.2 k e)⟩,⟨o.1,fun k e=>a2 k (.inr e) (o.2 k e)⟩,L⟩;rw[p,if_neg (by omega)] at e⊢;by_cases a:f=.map (some k)∨g=.map (some k)
 ·rw[if_pos a];refine⟨rfl,?_⟩;rcases a with a|a
  ·exact n.1.map a
  exact o.1.map a
 rw[if_neg a] at e;exact absurd rfl e
structure rJ (w:World) (O:Ow) (p:Nat) (vs:List VS) (vv:Value) (B:VS→Bag):Prop where
 cell:w.cell? ⟨p,1,none⟩=some vv
 lt:p<w.heap.size
 vowns:w.ownsRow 0 81 1 vv vs.length (vs.map fun V=>pV V.blk)
 vowner:∀b,vv.ownBlock=some b→O b=p+2
 view:∀V∈vs,Er w O V.blk V.told (B V)
 nod:(vs.map VS.blk).Nodup
 pne:∀V∈vs,V.blk+2≠p+2
 ok1:∀V∈vs,B2 V.ts V.told
 ok2:∀V∈vs,B2 V.ts (B V)
 wr:∀V∈vs,OB V.ts (B V++neg V.told)
 env:Uh w
 glb:O gT=0
 o:∀k,w.heap.size≤k→O k=0
 few:vs.length≤6
def TJ (w:World)(O:Ow)(vs:List VS)(B:VS→Bag)(i:Nat)(a:World):Prop :=
 ∃P:Ow,(∀k,k<w.heap.size→P k=O k)∧(∀k,w.heap.size≤k→P k≠0→k≠w.heap.size∧(∃V∈vs,P k=V.blk+2)∧∃es c,a.heap[k]? =some (.map es c))∧Ab (fun k=>∃V∈vs,O k=V.blk+2) w a ∧
  ∀(j:Nat) (V:VS),vs[j]? =some V→Er a P V.blk (if j<i then B V else V.told) (B V)
theorem PT {ts:List Bool}{b:Bag}(h:OB ts b):(B8 b).length≤20000000000000:=by
 have a:=Vj h (Ad b).length (tY _);rw[uW (tY _)] at a;have c:=h.len;show (Ez 0 (Ad b)).length≤_;omega
section
variable {w:World} {O:Ow} {p:Nat} {vs:List VS} {vv:Value} {B:VS→Bag}
theorem rJ.kO (h:rJ w O p vs vv B){i j:Nat}{V U:VS}(hi:vs[i]? =some V)(a:vs[j]? =some U)(e:V.blk=U.blk):i=j :=
 Ra h.nod (show (vs.map VS.blk)[i]? =some U.blk by rw[tX,hi,←e];rfl) (by rw[tX,a];rfl)
theorem dX (h:rJ w O p vs vv B):Calls prog 48 #[C1 p] w fun e w'=>e=.returned (.string ⟨(Sd (vs.map fun V=>B8 (B V++neg V.told))).toArray⟩)∧TJ w O vs B vs.length w':=by
 obtain⟨L,cap,e1,e2,e3,e4⟩:=Hi h.vowns;have H:=h.cell;rw[e1] at H;have M:∀i,i<vs.length→∃V,vs[i]? =some V∧V∈vs:=fun i hi=>⟨_,tT hi,List.getElem_mem _⟩;refine (KL p vs.length cap L (fun i=>match vs[i]? with|some V=>V.blk|none=>0) (vs.map fun V=>B8 (B V++neg V.told)) (TJ w O vs B) w h.lt H h.few (by simp) (fun t E=>?_) ?_ ?_ ?_ ?_).mono fun e w' ⟨a,b,_⟩=>⟨a,b⟩
 ·obtain⟨V,f,rfl⟩:=uA.1 E;exact PT (h.wr V f)
 ·exact⟨O,fun _ _=>rfl,fun k d e=>absurd (h.o k d) e,Ab.refl _ _,fun j V g=>by rw[if_neg (by omega)];exact h.view V (tV g)⟩
 ·rintro i a c ⟨P,s,l,u,D⟩ Q d;have aj:=d.size;have I:∀k,k<a.heap.size→P k≠0→c.heap[k]? =a.heap[k]? :=fun k v e=>d.block k v (fun ⟨x,y⟩=>by
   obtain⟨m,z,es,A,C⟩:=l k x e;rcases y with y|⟨_,_,y⟩
   ·exact m y
   rw[C] at y;cases y)
  refine⟨P,s,fun k v e=>?_,?_,fun j V g=>(D j V g).stab fun k v e=>⟨I k v (by rw[e];omega),rfl⟩⟩
  ·obtain⟨m,z,es,A,C⟩:=l k v e;exact⟨m,z,es,A,(I k (Aa C) e).trans C⟩
  exact u.trans d (fun _ e=>e) (fun k v e=>by have:=e.1;omega)
 ·rintro i wr ⟨P,s,l,u,D⟩ hi;obtain⟨V,f,n⟩:=M i hi;obtain⟨b,o,R,S,T,W⟩:=e4 i (pV V.blk) (by rw[tX,f];rfl);refine⟨b,o,R,?_⟩;show _=_;rw[u.cell T (fun ⟨U,X,e⟩=>h.pne U X (by rw[←e];exact h.vowner b S))];rw[W,f];rfl
 rintro i t wr ⟨P,s,l,u,D⟩ Q E;rw[tX] at E;obtain⟨V,f,rfl⟩:=uK.1 E;have n:=tV f;have J:=D i V f;rw[if_neg (by omega)] at J;have Y:gT<w.heap.size:=h.env.lt;have Z:Uh wr:=h.env.kept u (fun ⟨U,_,e⟩=>by rw[h.glb] at e;omega);rw[f];have aa:V.blk<w.heap.size:=by obtain⟨_,_,_,ab,_⟩:=h.view V n;exact Aa ab
 refine (XU V.blk wr P J (h.ok1 V n) (h.ok2 V n) (h.wr V n) Z (by rw[s _ Y,h.glb];omega) (N:=w.heap.size) (by omega) aa).mono fun e w' ac=>?_;obtain⟨ad,ae,F,af,G,ag⟩:=ac;refine⟨ad,⟨ae,fun k d=>(F k (.inl d)).trans (s k d),fun k d e=>?_,?_,fun j U g=>?_⟩,?_⟩
 ·by_cases q:k<wr.heap.size∧P k≠V.blk+2
  ·rw[F k (.inr q)] at e;obtain⟨m,z,es,A,C⟩:=l k d e;exact⟨m,by rw[F k (.inr q)];exact z,es,A,(G.block k q.1 (fun r=>q.2 r.1)).trans C⟩
  obtain⟨m,es,A,z⟩:=af k d (by omega) e;refine⟨fun r=>?_,⟨V,n,m⟩,es,A,z⟩;subst r;have ah:P w.heap.size≠0:=by
   by_cases ak:w.heap.size<wr.heap.size
   ·have:P w.heap.size=V.blk+2:=(by omega);omega
   omega
  exact (l w.heap.size (tY _) ah).1 rfl
 ·refine u.trans G (fun _ e=>e) fun k d e=>⟨V,n,?_⟩;rw[←s k d];exact e.1
 ·by_cases K:j=i
  ·subst K;rw[f] at g;cases g;rw[if_pos (by omega)];exact ag
  have ai:U.blk≠V.blk:=fun e=>K (h.kO g f e);have:=D j U g;have e5:(if j<i+1 then B U else U.told)=if j<i then B U else U.told:=by
   by_cases q:j<i
   ·rw[if_pos q,if_pos (by omega)]
   rw[if_neg q,if_neg (by omega)]
  rw[e5];exact this.stab fun k d e=>⟨G.block k d (fun r=>ai (by have:=r.1;omega)),F k (.inr ⟨d,by rw[e];omega⟩)⟩
 refine G.mono fun k d e=>⟨fun r=>?_,e.2⟩;subst r;have:=l w.heap.size (tY _) (by rw[e.1];omega);exact this.1 rfl
end
def TE (B:VS→Bag)(V:VS):VS:={ V with told:=B V }
theorem KV (B:VS→Bag)(nm:List UInt8):∀vs:List VS,(Kq (vs.map (TE B)) nm).map qL=(Kq vs nm).map qL
 | []=>rfl
 |V::vs=>by
  have a:=KV B nm vs;have e:∀(V:VS) (vs:List VS),Kq (V::vs) nm=(((List.range (Ac V.q).length).filter fun j=>decide ((Ac V.q)[j]? =some nm)).map fun j=>(V,j))++Kq vs nm:=fun V vs=>by unfold Kq;simp
  rw[uT,e,e,uF,uF,a,vS,vS];rfl
section
variable {w W w':World} {O:Ow} {p:Nat} {st:Ses} {xs:List TabS} {vs:List VS} {tv vv:Value} {D:Nat→Bag}
theorem Ph {k:Nat}(h:Be w O p st xs vs tv vv)(e:O k=p+2∨O k=1∨O k=0):¬rI O xs vs k:=fun a=>by
 rcases a with ⟨X,b,a⟩|⟨V,hV,a⟩
 ·have:=h.fx.id.2 X b;omega
 have:=h.fx.va V hV _ a;omega
theorem Be.tL (h:Be w O p st xs vs tv vv)(hg:B4 (Cb st.tabs D))(r:DJ w O p st xs vs tv D xs.length W) :
 ∃b:Ow,rJ W b p vs vv (fun V=>Cl (Cb st.tabs D) V.q)∧(∀k,k<w.heap.size→b k=O k)∧(∀k,b k<W.heap.size+2)∧Ab (rI O xs vs) w W∧Cs W b tv (p+2) (Uw xs D xs.length)∧∀V∈vs,AB V (D0 (Cb st.tabs D) V.q) W b:=by
 obtain⟨g,n,f,s,o⟩:=r;have i:=f.size;have hp:=Aa h.obj;rw[h.len,L3] at o;obtain⟨b,j⟩:∃b:Ow,∀k,b k=if k<W.heap.size∧g k<W.heap.size+2 then g k else 0:=⟨_,fun _=>rfl⟩
 have a1:∀k,k<W.heap.size→g k<W.heap.size+2→b k=g k:=fun k x y=>by rw[j,if_pos ⟨x,y⟩]
 have a2:∀k,k<w.heap.size→b k=O k:=fun k d=>by have:=h.old k;rw[←n k d];exact a1 k (by omega) (by rw[n k d];omega)
 have q:∀V∈vs,AB V (D0 (Cb st.tabs D) V.q) W b:=fun V a=>(o V a).stab (tY _) fun k d e=>⟨rfl,a1 k d (by
  rcases e with e|e
  ·have:=h.vlt V a _ e;omega
  omega)⟩
 have t:Cs W b tv (p+2) (Uw xs D xs.length):=s.stab (tY _) fun k d e=>⟨rfl,a1 k d (by
  rcases e with e|⟨Y,u,e⟩
  ·omega
  obtain⟨Z,v,e1,_⟩:=Ol u;have:=h.Vr v;omega)⟩
 have z:Li (Cb st.tabs D)=Li st.tabs:=by rw[←L3];exact Xh D _ h.good.nod
 have l:∀V∈vs,B2 V.ts (Cl (Cb st.tabs D) V.q)∧Nr (Cl (Cb st.tabs D) V.q)≤50000000000:=fun V a=>by have hf:=h.fx.fix V a;have i:=G0 hg V.q;exact⟨SB (Hh hg) i.2 V.q hf.wf hf.len hf.jn 0 (Rb hg V.q) (by rw[z];exact hf.ty),Xf V.q (h.vlen V a) hf.jn i.1 0⟩
 refine⟨b,⟨?_,by omega,?_,?_,fun V a=>(q V a).1,h.fx.vb,fun V a=>(h.fx.va V a _ (.inl rfl)).2.1,fun V a=>(h.fx.fix V a).told,fun V a=>(l V a).1,fun V a=>?_,?_,?_,?_,h.few⟩,a2,?_,f,t,q⟩
 ·rw[f.cell hp (Ph h (.inl h.own))];exact (Af h.obj 1).trans rfl
 ·refine X0 h.vowns fun k e=>?_;obtain⟨c,A,m⟩:=Bh h.vowns e;exact f.block k (Aa m) (Ph h (.inl (h.vowner k e)))
 ·intro k e;obtain⟨c,A,m⟩:=Bh h.vowns e;rw[a2 k (Aa m)];exact h.vowner k e
 ·refine dN (l V a).1 (h.fx.fix V a).told (l V a).2 ?_;rw[Xw (h.told V a)];exact (h.sU a).2
 ·exact h.env.kept f (Ph h (.inr (.inr h.glb)))
 ·rw[a2 _ (show gT<_ from h.env.lt)];exact h.glb
 ·intro k d;rw[j,if_neg (fun e=>by have:=e.1;omega)]
 intro k;rw[j];split
 ·next e=>exact e.2
 exact Nat.succ_pos _
theorem Be.tM (h:Be w O p st xs vs tv vv)(hg:B4 (Cb st.tabs D)){o:Ow}(ab:rJ W o p vs vv (fun V=>Cl (Cb st.tabs D) V.q))(a2:∀k,k<w.heap.size→o k=O k)(ac:∀k,o k<W.heap.size+2)(E:Ab (rI O xs vs) w W)(ad:Cs W o tv (p+2) (Uw xs D xs.length))(ae:∀V∈vs,AB V (D0 (Cb st.tabs D) V.q) W o)
 (af:TJ W o vs (fun V=>Cl (Cb st.tabs D) V.q) vs.length w') :
 (∃P,Be w' P p ⟨Cb st.tabs D,st.views⟩ (Uw xs D xs.length) (vs.map (TE fun V=>Cl (Cb st.tabs D) V.q)) tv vv∧∀k,P k≠0→O k≠0∨w.heap.size≤k)∧Ab (fun k=>O k≠0) w w':=by
 obtain⟨P,y,K,F,ag⟩:=af;have av:=E.size;have ah:=F.size;have hp:=Aa h.obj;have ai:Li (Cb st.tabs D)=Li st.tabs:=by rw[←L3];exact Xh D _ h.good.nod
 have u:∀k,k<w.heap.size→P k=O k:=fun k f=>(y k (by omega)).trans (a2 k f);have G:∀k,k<W.heap.size→(∀V∈vs,o k≠V.blk+2)→w'.heap[k]? =W.heap[k]? :=fun k f e=>F.block k f (fun ⟨V,d,l⟩=>e V d l);have z:∀k,k<w.heap.size→(O k=p+2∨O k=1∨O k=0)→w'.heap[k]? =w.heap[k]? :=fun k f e=>by rw[G k (by omega) (fun V d l=>by rw[a2 k f] at l;have:=h.fx.va V d _ (.inl rfl);omega)];exact E.block k f (Ph h e)
 have L:Ab (fun k=>O k≠0) w w':=by
  refine (E.mono (T:=fun k=>O k≠0) fun k _ e=>?_).trans F (fun _ e=>e) (fun k f ⟨V,d,e⟩=>?_)
  ·intro aj;exact Ph h (.inr (.inr aj)) e
  show O k≠0;rw[←a2 k f,e];omega
 have n:∀{U:VS},U∈vs.map (TE fun V=>Cl (Cb st.tabs D) V.q)→∃V∈vs,U=TE (fun V=>Cl (Cb st.tabs D) V.q) V:=fun g=>by obtain⟨V,d,e⟩:=uA.1 g;exact⟨V,d,e.symm⟩
 refine⟨⟨P,?_,fun k f=>?_⟩,L⟩
 case refine_2 =>
  rcases wV k w.heap.size with q|q
  ·exact .inl (by rw[←u k q];exact f)
  exact .inr q
 refine⟨(z p hp (.inl h.own)).trans h.obj,by rw[u p hp];exact h.own,?_,?_,?_,?_,?_,?_,?_,?_,?_,?_,?_,?_,?_,hg,by rw[tZ];exact h.few,?_,?_,?_,?_⟩
 ·have M:=congrArg List.length (Ux (fun X=>X.blk) (fun _ _=>rfl) xs D xs.length);rw[tZ,tZ] at M;rw[M,Ux (fun X=>pV X.blk) (fun _ _=>rfl)];refine X0 h.towns fun k e=>?_;obtain⟨c,H,r⟩:=Bh h.towns e;exact z k (Aa r) (.inl (h.towner k e))
 ·intro k e;obtain⟨c,H,r⟩:=Bh h.towns e;rw[u k (Aa r)];exact h.towner k e
 ·rw[tZ,vS];refine X0 h.vowns fun k e=>?_;obtain⟨c,H,r⟩:=Bh h.vowns e;exact z k (Aa r) (.inl (h.vowner k e))
 ·intro k e;obtain⟨c,H,r⟩:=Bh h.vowns e;rw[u k (Aa r)];exact h.vowner k e
 ·intro Y s;obtain⟨Z,A,e1,_⟩:=Ol s;exact (ad.tab Y s).stab fun k f e=>⟨G k f (fun V d l=>by have:=(h.fx.va V d _ (.inl rfl)).2.2 Z A;rw[e,e1] at l;omega),y k f⟩
 ·rw[ai];have m:=TD h.fx D xs.length;refine⟨m.nm,m.bl,by rw[vS];exact m.vb,?_,?_,m.id,?_,?_,m.few⟩
  ·intro U g aw ak al a v;obtain⟨V,d,rfl⟩:=n g;obtain⟨B,I,rfl⟩:=n ak;exact m.dis V d B I al a v
  ·intro U g a v;obtain⟨V,d,rfl⟩:=n g;exact m.va V d a v
  ·intro U g;obtain⟨V,d,rfl⟩:=n g;have:=m.fix V d;exact⟨this.ty,this.wf,this.len,this.jn,this.shape,this.nod,this.own,ab.ok2 V d⟩
  intro Y s;rw[KV];exact m.tks Y s
 ·refine vN fun i=>?_;rw[tX,Kf];show _=((Cb st.tabs D).map _)[i]?;unfold Cb;rw[tX,uU];cases J:xs[i]? with
  |none =>have:st.tabs[i]? =none:=vK (by rw[←h.len];exact List.getElem?_eq_none_iff.1 J);rw[this];rfl
  |some X =>obtain⟨t,C,am,an⟩:=h.at J;have:=(tR.1 J).1;rw[C];simp only[xB];rw[if_pos this,am,an]
 ·intro i Y N s x;rw[Kf] at s;obtain⟨Z,A,rfl⟩:=uK.1 s;obtain⟨t,C,_⟩:=h.at A;have ao:N={ t with bag:=t.bag++D i }:=by have x:(Cb st.tabs D)[i]? =some N:=x;unfold Cb at x;rw[uU,C] at x;simpa using x.symm
  have ap:(if i<xs.length then { Z with bag:=Z.bag++D i } else Z:TabS).tv=Z.tv:=by split <;> rfl
  rw[ap,ao];obtain⟨Q,R⟩:=h.typ i Z t A C;refine⟨Q.stays fun k e hi=>z k hi.lt (.inr (.inl (R k e))),fun k e=>?_⟩;have aq:k<w.heap.size:=by obtain⟨b',_,_,l,ar,_⟩:=Q;rw[l] at e;have:b'=k:=(by simpa [Value.ownBlock] using e);rw[←this];exact ar.lt
  rw[u k aq];exact R k e
 ·rw[vS];exact h.vq
 ·intro U g;obtain⟨V,d,rfl⟩:=n g;obtain⟨j,S⟩:=uY d;have hv:=ag j V S;rw[if_pos (tR.1 S).1] at hv;refine⟨hv,?_⟩;refine Ba.stab ah V.q V.nd _ 0 (fun k f e=>⟨G k f (fun B I l=>?_),y k f⟩) (ae V d).2;rcases e with ⟨b,aa,e⟩|e
  ·rw[e] at l;by_cases au:B.blk=V.blk
   ·exact (h.fx.fix V d).own b aa (by omega)
   exact h.fx.dis V d B I au (b+2) (.inr ⟨b,aa,rfl⟩) (.inl l)
  omega
 ·intro U g;obtain⟨V,d,rfl⟩:=n g;exact A9.refl _
 ·intro U g;obtain⟨V,d,rfl⟩:=n g;exact h.vlen V d
 ·intro U g a v;obtain⟨V,d,rfl⟩:=n g;have:=h.vlt V d a v;omega
 ·intro k;by_cases e:P k=0
  ·rw[e];exact Nat.succ_pos _
  rcases wV k W.heap.size with q|q
  ·rw[y k q];have:=ac k;omega
  obtain⟨_,⟨V,d,e1⟩,_⟩:=K k q e;have:=h.vlt V d _ (.inl rfl);omega
 ·intro k f;by_cases e:P k=0
  ·exact e
  obtain⟨_,_,es,_,e1⟩:=K k (by omega) e;have:=Aa e1;omega
 ·rw[u _ (show gT<_ from h.env.lt)];exact h.glb
 exact h.env.kept L (fun e=>e h.glb)
end
def Ii (st:Ses)(s:ByteArray):(List UInt8×Int)×Ses:=if 300<s.size then (([],1),st) else match Da s with
 |none=>(([],2),st)
 |some os=>if Ky (Cy st.tabs) os≠0 then (([],Ky (Cy st.tabs) os),st) else if D9 (Qf st.tabs (Dn (Cy st.tabs) os)) 0≠0 then (([],D9 (Qf st.tabs (Dn (Cy st.tabs) os)) 0),st)
  else ((Sd (st.views.map fun q=>B8 (Cl (Cb st.tabs (Dn (Cy st.tabs) os)) q++neg (Cl st.tabs q))),0),⟨Cb st.tabs (Dn (Cy st.tabs) os),st.views⟩)
theorem XV {trs:List TRec}{os:List He}(h:Ky trs os=0):os.all (Fh trs)=true∧os.all (Hm trs)=true:=by
 unfold Ky at h;by_cases a:os.all (Fh trs)=false
 ·rw[if_pos a] at h;omega
 rw[if_neg a] at h;by_cases b:os.all (Hm trs)=false
 ·rw[if_pos b] at h;omega
 exact⟨by simpa using a,by simpa using b⟩
theorem FH {trs:List TRec}{os:List He}{i:Nat}{e:Row×Int}(h:e∈Dn trs os i):∃o∈os,Tl trs o.name=(i:Int)∧e=(o.row,o.t):=by
 unfold Dn at h;rw[List.mem_reverse] at h;obtain⟨o,ho,rfl⟩:=uA.1 h;obtain⟨a,b⟩:=xD.1 ho;exact⟨o,a,by simpa using b,rfl⟩
theorem FI {tb:List Tab}{os:List He}(ho:∀o∈os,gV o)(h:os.all (Hm (Cy tb))=true):sV tb (Dn (Cy tb) os):=by
 refine⟨fun i t c e a=>?_,fun i e a=>?_⟩
 ·obtain⟨o,b,d,rfl⟩:=FH a;have:=uR.1 h o b;unfold Hm at this;rw[d] at this;have e1:(Cy tb)[((i:Int)).toNat]? =some ⟨0,t.nm,t.ts⟩:=by unfold Cy;rw[Int.toNat_natCast,tX,c];rfl
  rw[e1] at this;simpa using this
 obtain⟨o,b,_,rfl⟩:=FH a;exact (ho o b).val
theorem Zl {g:Row→Int}(hg:∀r,0≤g r∧g r≤1):∀(l:Bag),(∀e∈l,e.2=1∨e.2= -1)→ -(l.length:Int)≤Ci l g∧Ci l g≤l.length
 | [],_=>by simp[Ci]
 |e::l,h=>by have c:=Zl hg l fun x b=>h x (by simp[b]);have d:=hg e.1;rw[uO];show -((l.length+1:Nat):Int)≤e.2*g e.1+Ci l g∧e.2*g e.1+Ci l g≤((l.length+1:Nat):Int);rcases h e (by simp) with a|a <;> rw[a] <;> omega
theorem dY {trs:List TRec}{os:List He}(ho:∀o∈os,gV o)(_:os.length≤301)(i:Nat):(∀r,-301≤cnt (Dn trs os i) r∧cnt (Dn trs os i) r≤301)∧ -301≤Nr (Dn trs os i)∧Nr (Dn trs os i)≤301:=by
 have a:∀e∈Dn trs os i,e.2=1∨e.2= -1:=fun e b=>by obtain⟨o,c,_,rfl⟩:=FH b;exact (ho o c).t
 have d:=FB trs os i;refine⟨fun r=>?_,?_⟩
 ·have:=Zl (g:=fun x=>if x=r then 1 else 0) (fun x=>by split <;> omega) _ a;rw[B1];omega
 have:=Zl (g:=fun _=>1) (fun x=>by omega) _ a;unfold Nr;omega
theorem oS {v:V}(h:oM v):Mh v:=by
 cases v with
 |num n =>have:(n.natAbs:Int)≤9999:=h.2;show _∧_;omega
 |txt s=>exact h.1
section
variable {w:World} {O:Ow} {p:Nat} {st:Ses} {xs:List TabS} {vs:List VS} {tv vv:Value}
def PU (xs:List TabS)(tb:List Tab):List TRec:=List.zipWith (fun X t=>⟨X.blk,X.name,t.ts⟩) xs tb
theorem kP {tb:List Tab}{i:Nat}{X:TabS}{t:Tab}(a:xs[i]? =some X)(b:tb[i]? =some t):(PU xs tb)[i]? =some ⟨X.blk,X.name,t.ts⟩:=by
 unfold PU;rw[List.getElem?_zipWith,a,b]
theorem Be.PV (h:Be w O p st xs vs tv vv):(PU xs st.tabs).map (fun t=>(t.name,t.tys))=(Cy st.tabs).map fun t=>(t.name,t.tys):=by
 refine vN fun i=>?_;rw[tX,tX];unfold PU Cy;rw[List.getElem?_zipWith,tX];cases a:xs[i]? with
 |none =>have:st.tabs[i]? =none:=vK (by rw[←h.len];exact List.getElem?_eq_none_iff.1 a);rw[this];rfl
 |some X =>obtain⟨t,b,c,_⟩:=h.at a;rw[b];simp[c]
theorem Be.oT (h:Be w O p st xs vs tv vv):(PU xs st.tabs).map (fun t=>(t.blk,t.name))=xs.map fun X=>(X.blk,X.name):=by
 refine vN fun i=>?_;rw[tX,tX];unfold PU;rw[List.getElem?_zipWith];cases a:xs[i]? with
 |none=>simp
 |some X =>obtain⟨t,b,_⟩:=h.at a;rw[b];rfl
theorem Be.FJ (h:Be w O p st xs vs tv vv):(PU xs st.tabs).length=st.tabs.length:=by
 unfold PU;rw[List.length_zipWith,h.len];omega
theorem Be.sW (h:Be w O p st xs vs tv vv):qM w tv (PU xs st.tabs):=by
 refine⟨by rw[h.oT];exact h.tabs.names,fun r hr=>?_⟩;obtain⟨i,hi⟩:=uY hr;have d:i<st.tabs.length:=by rw[←h.FJ];exact (tR.1 hi).1
 obtain⟨X,a⟩:∃X,xs[i]? =some X:=⟨_,tT (by rw[h.len];exact d)⟩;obtain⟨t,b,_⟩:=h.at a;rw[kP a b] at hi;cases hi;obtain⟨_,v,hv,c,_⟩:=h.tab X (tV a);refine⟨Aa c,?_,X.tv,(Af c 3).trans rfl,(h.typ i X t a b).1⟩;have:=(h.good.each t (tV b)).len;show t.ts.length≤300;omega
theorem Be.sG (h:Be w O p st xs vs tv vv){j:Value}{base:Nat}{d:List Nat}{D:Nat→Bag}(k:d.length=st.tabs.length)(l:Q9 w j base d D):Vp w tv j (Qf st.tabs D):=by
 obtain⟨a,cap,e1,e2,e3,e4⟩:=Hi h.towns;obtain⟨g,y,_,c,n,_,z⟩:=l.at_;have e:(Qf st.tabs D).length=st.tabs.length:=by unfold Qf;simp
 refine⟨a,cap,g,d.length,by rw[e,←h.len];exact e1,by rw[e,←h.len];exact e2,e3,by rw[e,←k];exact y,Aa n,fun i pr hi=>?_⟩;unfold Qf at hi;rw[uU] at hi;obtain⟨t,q,rfl⟩:=uK.1 hi;have r:=(tR.1 q).1;obtain⟨X,f⟩:∃X,xs[i]? =some X:=⟨_,tT (by rw[h.len];exact r)⟩;obtain⟨_,s,_,A⟩:=h.at f;rw[q] at s;cases s;obtain⟨b,o,B,_,C,E⟩:=e4 i (pV X.blk) (by rw[tX,f];rfl);obtain⟨_,v,hv,u,_,_,F⟩:=h.tab X (tV f);obtain⟨m,x⟩:∃m,d[i]? =some m:=⟨_,tT (by rw[k];exact r)⟩;refine⟨b,o,X.blk,hv,m,B,C,Aa u,E,(Af u 1).trans rfl,by rw[←A];exact F.1,?_,l.bag i m x⟩;rw[Af n];exact z i m x
theorem Be.tN (h:Be w O p st xs vs tv vv){os:List He}(ho:∀o∈os,gV o)(a:os.length≤301){pr:Bag×Bag}(hp:pr∈Qf st.tabs (Dn (Cy st.tabs) os)):sF pr:=by
 obtain⟨i,hi⟩:=uY hp;unfold Qf at hi;rw[uU] at hi;obtain⟨t,b,rfl⟩:=uK.1 hi;have hf:=h.good.Ur (tV b);obtain⟨c,b2⟩:=dY (trs:=Cy st.tabs) ho a i;have d:Nr (Ad t.bag)=Nr t.bag:=F9 _ _;have e:=GZ hf.nn;have f:=hf.rows;refine⟨fun r=>?_,fun r=>?_,fun r=>?_,?_,?_⟩
 ·show 0≤cnt (Ad t.bag) r;rw[Aq];exact hf.nn r
 ·show cnt (Ad t.bag) r≤_;rw[Aq];have:=Le hf.nn r;omega
 ·have:=c r;show _≤cnt (Dn (Cy st.tabs) os i) r∧cnt (Dn (Cy st.tabs) os i) r≤_;omega
 ·show _≤Nr (Ad t.bag)∧Nr (Ad t.bag)≤_;omega
 show _≤Nr (Dn (Cy st.tabs) os i)∧Nr (Dn (Cy st.tabs) os i)≤_;omega
end
def oU (r:List UInt8×Int):Value:=.tuple #[PK r.1,.int .i64 r.2]
theorem dZ {w:World}{X:Nat→Prop}{p:Nat}{st:Ses}(h:G1 w X p st)(s:ByteArray) :
 Calls prog 20 #[pV p,.string s] w fun e w'=>e=.returned (oU (Ii st s).1)∧∃F,G1 w' F p (Ii st s).2∧Rc X F w w':=by
 have W:∀w',Ab No w w'→∃F,G1 w' F p st∧Rc X F w w':=fun w' f=>⟨X,h.stays f (fun _ e=>e.elim) xT,f.any,fun _ e=>.inl e⟩;obtain⟨O,xs,vs,tv,vv,g,aw⟩:=h;have G:=Aa g.obj;have H:C3 w p 0 tv:=(Af g.obj 0).trans rfl;unfold Ii;by_cases ah:300<s.size
 ·rw[if_pos ah];exact (XK p s w ah).mono fun e w' ⟨A,B⟩=>⟨A,W w' B⟩
 rw[if_neg ah];have K:s.size≤300:=by omega
 have a9:RP w.heap.size s 0 (w.alloc (.cells #[.string s,.int .i64 0] 93)):=⟨by omega,heap_alloc_new w _⟩;have Z:=XA w.heap.size s _ K a9;have ax:∀w1,Ab (·=w.heap.size) (w.alloc (.cells #[.string s,.int .i64 0] 93)) w1→Ab No w w1:=fun w1 ai=>((Ab.refl No w).alloc _).trans ai (fun _ e=>e) (fun i hi e=>by omega);cases aj:Da s with
 |none =>
  simp only;rw[aj] at Z;refine (XL p s w K (Z.mono fun e w1 u=>?_)).mono fun e w' ⟨A,B⟩=>⟨A,W w' B⟩;obtain⟨⟨_,x⟩|⟨_,_,N,_⟩,f⟩:=u
  ·exact⟨⟨_,x⟩,ax w1 f⟩
  cases N
 |some os =>
  simp only;rw[aj] at Z;obtain⟨aa,ba⟩:=Uu K aj;have ak:Calls prog 43 #[C1 w.heap.size] (w.alloc (.cells #[.string s,.int .i64 0] 93)) fun e w1=>∃ov d,e=.returned (.tuple #[ov,.bool true])∧Ab No w w1∧d.map (·.2)=os∧Qa w1 ov d:=Z.mono fun e w1 u=>by
   obtain⟨⟨N,_⟩|⟨v,d,N,x,ho⟩,f⟩:=u
   ·cases N
   exact⟨v,d,x,ax w1 f,(wU N).symm,ho.read⟩
  have ay:(PU xs st.tabs).length≤1000:=by rw[g.FJ];have:=g.good.few;omega
  have al:∀{d:List (Value×He)},d.map (·.2)=os→d.length≤1000∧∀y∈d,gV y.2:=fun {d} e=>by have e1:=congrArg List.length e;rw[tZ] at e1;exact⟨by omega,fun y Q=>aa _ (by rw[←e];exact uA.2 ⟨y,Q,rfl⟩)⟩
  have ab:∀(ov:Value) (d:List (Value×He)) (w1:World),Ab No w w1→d.map (·.2)=os→Qa w1 ov d→Calls prog 44 #[tv,ov] w1 fun e n=>e=.returned (.int .i64 (Ky (Cy st.tabs) os))∧Ab No w1 n:=fun ov d w1 f e ho=>by have:=jY tv ov (PU xs st.tabs) d w1 (g.sW.Ag f) ho ay (al e).1 (fun y Q=>by have:=((al e).2 y Q).len;omega);rw[e,oO g.PV] at this;exact this
  by_cases hf:Ky (Cy st.tabs) os≠0
  ·rw[if_pos hf];refine (dW p s tv _ w K (by simpa using hf) (ak.mono fun e w1 u=>?_)).mono fun e w' ⟨A,B⟩=>⟨A,W w' B⟩;obtain⟨ov,d,x,f,e,ho⟩:=u;exact⟨ov,x,f,(f.cell G xT).trans H,ab ov d w1 f e ho⟩
  rw[if_neg hf];have az:Ky (Cy st.tabs) os=0:=by
   by_cases e:Ky (Cy st.tabs) os=0
   ·exact e
   exact absurd e hf
  rw[az] at ab;obtain⟨bb,a0⟩:=XV az;have bc:=FI aa a0;have bd:∀o∈os,Ge o.row∧1≤o.row.length:=fun o C=>by
   have ho:=aa o C;refine⟨⟨?_,fun v hv=>oS (ho.val v hv)⟩,ho.len.1⟩;have ac:=uR.1 a0 o C;unfold Hm at ac;split at ac
   ·next r hr =>
    have e:o.row.map ty=r.tys:=(by simpa using ac);unfold Cy at hr;rw[tX] at hr;obtain⟨t,be,rfl⟩:=uK.1 hr;have:=(g.good.each t (tV be)).len;have e2:=congrArg List.length e;rw[tZ] at e2;have e2:o.row.length=t.ts.length:=e2;omega
   cases ac
  have bf:∀d:List (Value×He),d.map (·.2)=os→(d.map (·.2)).all (Fh (PU xs st.tabs))=true:=fun d e=>by have e1:Fh (PU xs st.tabs)=Fh (Cy st.tabs):=(by funext o;unfold Fh;rw[FG g.PV]);rw[e,e1];exact bb
  have a1:∀(ov:Value) (d:List (Value×He)) (n:World),Ab No w n→d.map (·.2)=os→Qa n ov d→Calls prog 45 #[tv,ov] n fun e w3=>∃l j,e=.returned l∧Ab No n w3∧j.length=st.tabs.length∧Q9 w3 l n.heap.size j (Dn (Cy st.tabs) os):=fun ov d n f e ho=>by refine (KF tv ov (PU xs st.tabs) d n (g.sW.Ag f) ho ay (al e).1 (fun y Q=>bd _ (by rw[←e];exact uA.2 ⟨y,Q,rfl⟩)) (bf d e)).mono fun b0 w3 u=>?_;obtain⟨l,x,j,ad,ae,am⟩:=u;have bg:Dn (PU xs st.tabs) (d.map (·.2))=Dn (Cy st.tabs) os:=(by funext i;rw[e];exact oQ g.PV os i);rw[bg] at ae;exact⟨l,j,x,am,by rw[ad,g.FJ],ae⟩
  have bh:(Qf st.tabs (Dn (Cy st.tabs) os)).length≤100:=by unfold Qf;rw[List.length_mapIdx];have:=g.good.few;omega
  have an:∀(l:Value) (base:Nat) (j:List Nat) (w3:World),Ab No w w3→j.length=st.tabs.length→Q9 w3 l base j (Dn (Cy st.tabs) os)→Calls prog 46 #[tv,l] w3 fun e w4=>e=.returned (.int .i64 (D9 (Qf st.tabs (Dn (Cy st.tabs) os)) 0))∧Ab No w3 w4:=fun l base j w3 f E I =>
   dH tv l _ w3 ((g.Cm f).sG E I) bh (fun pr hp=>g.tN aa ba hp)
  by_cases af:D9 (Qf st.tabs (Dn (Cy st.tabs) os)) 0≠0
  ·rw[if_pos af];refine (XM p s tv _ w K (by simpa using af) (ak.mono fun e w1 u=>?_)).mono fun e w' ⟨A,B⟩=>⟨A,W w' B⟩;obtain⟨ov,d,x,f,e,ho⟩:=u;refine⟨ov,x,f,(f.cell G xT).trans H,(ab ov d w1 f e ho).mono fun e2 n ao=>?_⟩;obtain⟨ap,L⟩:=ao;have z:=f.seq L;refine⟨ap,L,(z.cell G xT).trans H,(a1 ov d n z e (ho.Ag L)).mono fun e3 w3 aq=>?_⟩;obtain⟨l,j,ar,R,E,I⟩:=aq;exact⟨l,ar,R,((z.seq R).cell G xT).trans H,an l _ j w3 (z.seq R) E I⟩
  rw[if_neg af];have a2:D9 (Qf st.tabs (Dn (Cy st.tabs) os)) 0=0:=by
   by_cases e:D9 (Qf st.tabs (Dn (Cy st.tabs) os)) 0=0
   ·exact e
   exact absurd e af
  rw[a2] at an;have hg:=KU g.good bc a2;generalize b1:Dn (Cy st.tabs) os=D at *;obtain⟨a,cap,e1,e2,e3,e4⟩:=Hi g.towns;have S:xs.length=st.tabs.length:=g.len;have bi:Sd (st.views.map fun q=>B8 (Cl (Cb st.tabs D) q++neg (Cl st.tabs q)))=Sd (vs.map fun V=>B8 (Cl (Cb st.tabs D) V.q++neg V.told)):=by congr 1;rw[←g.vq,vS];refine wB fun V bj=>?_;exact Tf ((A9.refl _).append (g.told V bj).symm.neg)
  subst e1;have bk:=XN p xs.length cap s a (fun i=>match xs[i]? with|some Y=>Y.blk|none=>0) ⟨(Sd (st.views.map fun q=>B8 (Cl (Cb st.tabs D) q++neg (Cl st.tabs q)))).toArray⟩ (fun w'=>∃F,G1 w' F p ⟨Cb st.tabs D,st.views⟩∧Rc X F w w') w K (by rw[S];exact g.good.few) (ak.mono fun e w1 u=>?_)
  ·exact bk.mono fun e w' ⟨A,B⟩=>⟨A,B⟩
  obtain⟨ov,d,x,f,e,ho⟩:=u;refine⟨ov,x,(f.cell G xT).trans H,(ab ov d w1 f e ho).mono fun e2 n ao=>?_⟩;obtain⟨ap,L⟩:=ao;have z:=f.seq L;refine⟨ap,(z.cell G xT).trans H,(a1 ov d n z e (ho.Ag L)).mono fun e3 w3 aq=>?_⟩;obtain⟨l,j,ar,R,E,I⟩:=aq;have au:=z.seq R;obtain⟨a3,a4,bl,c,a5,_,bm⟩:=I.at_;refine⟨a3,j.length,by rw[ar,a4,E,S],(au.cell G xT).trans H,?_⟩;have av:=an l _ j w3 au E I;rw[a4] at av;rw[E,←S] at av⊢;refine av.mono fun e5 w4 bn=>?_;obtain⟨bo,ag⟩:=bn;have M:=au.seq ag;have J:=g.Cm M;refine⟨bo,(M.cell G xT).trans H,fun i=>match j[i]? with|some m=>m|none=>0,DJ w4 O p st xs vs (.slice a xs.length cap) D,J.dj,fun i wr T hi=>?_,fun i wr T hi=>?_,fun wr T=>?_⟩
  ·obtain⟨Y,U⟩:∃Y,xs[i]? =some Y:=⟨_,tT hi⟩;obtain⟨m,C⟩:∃m,j[i]? =some m:=⟨_,tT (by rw[E,←S];exact hi)⟩;obtain⟨b,o,ai,bp,a6,bq⟩:=e4 i (pV Y.blk) (by rw[tX,U];rfl);obtain⟨_,_,a7,_,_⟩:=T;refine⟨b,o,ai,?_,?_⟩
   ·show _=_;rw[a7.cell (tU a6 M.size) (Ph J (.inl (J.towner b bp))),M.cell a6 xT,bq,U];rfl
   have a8:=Aa a5;show _=_;rw[a7.cell (tU a8 ag.size) (Ph J (.inr (.inr (g.o a3 (uJ z.size bl))))),ag.cell a8 xT,Af a5,bm i m C];simp only[C]
  ·obtain⟨Y,U⟩:∃Y,xs[i]? =some Y:=⟨_,tT hi⟩;obtain⟨m,C⟩:∃m,j[i]? =some m:=⟨_,tT (by rw[E,←S];exact hi)⟩;have br:Ak w4 m (Ad (D i)):=((I.bag i m C).Oc (A9.refl _)).kept ag xT;simp only[U,C];exact J.step hg U br (g.o m (uJ z.size (I.ge m (tV C)))) T
  obtain⟨_,ad,ae,am,bs,bt,bu⟩:=J.tL hg T;refine (dX ad).mono fun b2 w' bv=>?_;obtain⟨bw,bx⟩:=bv;obtain⟨⟨P,r1,r2⟩,bz⟩:=J.tM hg ad ae am bs bt bu bx;refine⟨by rw[bw,bi],fun k=>P k≠0,⟨P,_,_,_,_,r1,fun _=>Iff.rfl⟩,?_,fun k e=>?_⟩
  ·exact (M.any.trans bz (fun _ e=>e) (fun _ _ e=>e)).mono fun k _ e=>(aw k).2 e
  rcases r2 k e with e|e
  ·exact .inl ((aw k).2 e)
  exact .inr (uJ M.size e)
end Go.Proofs.YtdinjjmcmfjbfaaGreatDoor
