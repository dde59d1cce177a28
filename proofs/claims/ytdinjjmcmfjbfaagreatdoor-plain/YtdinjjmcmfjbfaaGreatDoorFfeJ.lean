import Derived.Test.YtdinjjmcmfjbfaaGreatDoorFpJ
namespace Go.Proofs.YtdinjjmcmfjbfaaGreatDoor
open Go.RowKit Go.Shelf Go.Deep
open Mo (V Row Bag cnt Af Be B0 Fw neg Nr Q Ac Av A9 wf Ag Z7 wv ty Tab)
def I0 (tb:List Tab)(D:Nat→Bag)(n:Nat):List Tab:=tb.mapIdx fun i t=>if i<n then { t with bag:=t.bag++D i } else t
def Bp (tb:List Tab)(D:Nat→Bag):List Tab:=tb.mapIdx fun i t=>{ t with bag:=t.bag++D i }
def Ny (tb:List Tab)(D:Nat→Bag):List (Bag×Bag):=tb.mapIdx fun i t=>(Af t.bag,D i)
theorem QA (tb:List Tab)(D:Nat→Bag):I0 tb D 0=tb:=by
 unfold I0
 refine mG fun i=>?_
 rw[lR]
 cases tb[i]? <;> simp
theorem Kp (tb:List Tab)(D:Nat→Bag):I0 tb D tb.length=Bp tb D:=by
 unfold I0 Bp
 refine mG fun i=>?_
 rw[lR,lR]
 cases h:tb[i]? with
 |none=>rfl
 |some t =>
  have:=(kS.1 h).1
  simp[this]
theorem bC (tb:List Tab)(D:Nat→Bag)(n:Nat):(I0 tb D n).map (fun t=>(t.nm,t.ts))=tb.map fun t=>(t.nm,t.ts):=by
 unfold I0
 refine mG fun i=>?_
 rw[kX,lR,kX]
 cases tb[i]? with
 |none=>rfl
 |some t=>simp only[nX];split <;> rfl
theorem Sq (tb:List Tab)(D:Nat→Bag)(n:Nat):(I0 tb D n).map Tab.nm=tb.map Tab.nm:=by
 have:=congrArg (List.map Prod.fst) (bC tb D n)
 simpa [List.map_map,Function.comp_def] using this
theorem U6 {tb:List Tab}(D:Nat→Bag)(n:Nat)(a:(tb.map Tab.nm).Nodup){k:Nat}{t:Tab}(b:tb[k]? =some t):Mo.C8 (I0 tb D n) t.nm=some (if k<n then { t with bag:=t.bag++D k } else t):=by
 have c:(if k<n then { t with bag:=t.bag++D k } else t)∈I0 tb D n:=by
  refine kW (i:=k) ?_;unfold I0
  rw[lR,b];rfl
 have:=Mo.LX (tb:=I0 tb D n) (by rw[Sq];exact a) c
 have e:(if k<n then { t with bag:=t.bag++D k } else t:Tab).nm=t.nm:=by split <;> rfl
 rw[e] at this;exact this
theorem U7 {tb:List Tab}(D:Nat→Bag)(n:Nat)(a:(tb.map Tab.nm).Nodup):Mo.Jy (I0 tb D n)=Mo.Jy tb:=by
 funext nm
 unfold Mo.Jy
 cases h:Mo.C8 tb nm with
 |none =>
  have:Mo.C8 (I0 tb D n) nm=none:=by
   rw[Mo.Pv] at h⊢
   intro t b e
   have:t.nm∈(I0 tb D n).map Tab.nm:=lD.2 ⟨t,b,rfl⟩
   rw[Sq] at this
   obtain⟨c,d,f⟩:=lD.1 this
   exact h c d (f.trans e)
  rw[this]
 |some t =>
  obtain⟨g,rfl⟩:=Mo.Fe h
  obtain⟨k,i⟩:=lW g
  rw[U6 D n a i]
  show some (if k<n then { t with bag:=t.bag++D k } else t:Tab).ts=some t.ts
  split <;> rfl
theorem QB {tb:List Tab}(D:Nat→Bag)(n:Nat)(b:(tb.map Tab.nm).Nodup){t:Tab}(f:tb[n]? =some t){q:Q}{ts:List Bool}(i:A9 (Mo.Jy tb) q=some ts)(j:Nat) :
 Mo.Dc (I0 tb D (n+1)) q j=if (Ac q)[j]? =some t.nm then Mo.Dc (I0 tb D n) q j++D n else Mo.Dc (I0 tb D n) q j:=by
 unfold Mo.Dc
 cases l:(Ac q)[j]? with
 |none=>simp
 |some nm =>
  obtain⟨us,m⟩:=Mo.Eb q ts i nm (kW l)
  obtain⟨c,o,_⟩:=Mo.Ml m
  obtain⟨p,rfl⟩:=Mo.Fe o
  obtain⟨k,a⟩:=lW p
  simp only
  unfold Mo.Dn
  rw[U6 D (n+1) b a,U6 D n b a]
  simp only
  by_cases e:c.nm=t.nm
  ·have g:k=n:=by
    have r:(tb.map Tab.nm)[k]? =some t.nm:=by rw[kX,a,←e];rfl
    have s:(tb.map Tab.nm)[n]? =some t.nm:=by rw[kX,f];rfl
    exact Ot b r s
   subst g
   rw[if_pos (show k<k+1 by omega),if_neg (show ¬k<k by omega),if_pos (show some c.nm=some t.nm by rw[e])]
  ·have g:k≠n:=fun d=>by
    subst d
    rw[f] at a
    cases a
    exact e rfl
   have d:¬some c.nm=some t.nm:=fun x=>e (by simpa using x)
   rw[if_neg d]
   by_cases h:k<n
   ·rw[if_pos h,if_pos (show k<n+1 by omega)]
   ·rw[if_neg h,if_neg (show ¬k<n+1 by omega)]
theorem Wr:∀(l:List (Bag×Bag)) (n:Int),Di l n=0→(∀p∈l,Wn p=true)∧n+(l.map fun p=>Nr p.1+Nr p.2).sum≤60
 | [],n,h=>by
   refine⟨(fun p e=>by cases e),?_⟩
   unfold Di at h
   simp only[List.map_nil,List.sum_nil]
   split at h
   ·omega
   ·omega
 |p::l,n,h=>by
  unfold Di at h
  by_cases c:Wn p=true
  ·rw[if_pos c] at h
   obtain⟨a,b⟩:=Wr l _ h
   refine⟨fun x d=>?_,?_⟩
   ·rcases lQ.1 d with rfl|d
    ·exact c
    ·exact a x d
   ·rw[lS,nW];omega
  ·rw[if_neg c] at h;omega
theorem EV:∀(tb:List Tab) (D:Nat→Bag),Mo.Qn (Bp tb D)=((Ny tb D).map fun p=>Nr p.1+Nr p.2).sum
 | [],D=>rfl
 |t::tb,D=>by
  unfold Mo.Qn Bp Ny
  simp only[List.mapIdx_cons,lS,nW]
  have a:=EV tb fun i=>D (i+1)
  unfold Mo.Qn Bp Ny at a
  rw[a]
  have:Nr (t.bag++D 0)=Nr (Af t.bag)+Nr (D 0):=by unfold Nr;rw[Mo.Gz,Mo.Fc]
  rw[this]
structure jZ (tb:List Tab) (D:Nat→Bag):Prop where
 ty:∀(i:Nat) (t:Tab),tb[i]? =some t→Mo.RT t.ts (D i)
 val:∀(i:Nat),∀e∈D i,∀v∈e.1,eU v
theorem EW {tb:List Tab}(h:Mo.Bj tb){D:Nat→Bag}(b:jZ tb D)(k:Di (Ny tb D) 0=0):Mo.Bj (Bp tb D):=by
 obtain⟨l,_⟩:=Wr _ _ k
 have hr:Mo.Qn (Bp tb D)≤60:=by rw[EV];omega
 refine⟨fun x c=>?_,by rw[←Kp,Sq];exact h.nod,hr,by rw[←Kp];have:=congrArg List.length (Sq tb D tb.length);simp only[lB] at this;rw[this];exact h.few⟩
 obtain⟨i,hi⟩:=lW c
 unfold Bp at hi
 rw[lR] at hi
 obtain⟨t,d,rfl⟩:=lJ.1 hi
 have hg:=h.each t (kW d)
 have f:Wn (Af t.bag,D i)=true:=l _ (by
  refine kW (i:=i) ?_;unfold Ny
  rw[lR,d];rfl)
 refine⟨fun r=>?_,fun e a=>?_,fun e a=>?_,fun e a v hv=>?_,hg.len,hg.name⟩
 ·show 0≤cnt (t.bag++D i) r
  rw[Mo.Am]
  by_cases g:cnt (D i) r=0
  ·rw[g];have:=hg.nn r;omega
  ·obtain⟨x,c,rfl⟩:=Mo.Cg.Dd g
   unfold Wn at f
   have:=lO.1 f x c
   have j:0≤cnt (Af t.bag) x.1+cnt (D i) x.1:=by simpa using this
   rw[Mo.As] at j;exact j
 ·rcases lC.1 a with a|a
  ·exact hg.rt e a
  ·exact b.ty i t d e a
 ·rcases lC.1 a with a|a
  ·exact hg.bt e a
  ·exact fun v hv=>(b.val i e a v hv).1
 ·rcases lC.1 a with a|a
  ·exact hg.num e a v hv
  ·exact (b.val i e a v hv).2
theorem MA {us:List Bool}{B:Bag}(h:Mo.EN us B)(c:us.length≤6):B0 us B :=
 ⟨h.nn,by have:=h.rows;omega,by have:=h.wts;omega,fun e a=>by obtain⟨x,b,e1⟩:=Mo.Ju a;rw[←e1];exact h.rt x b,fun e a v hv=>by obtain⟨x,b,e1⟩:=Mo.Ju a;rw[←e1] at hv;exact h.bt x b v hv,c⟩
theorem eX {tb:List Tab}{V:VS}(d:A9 (Mo.Jy tb) V.q=some V.ts){G:Nat→Bag}(e:∀j,(Ac V.q)[j]? =none→G j=[])(c:∀j nm us,(Ac V.q)[j]? =some nm→Mo.Jy tb nm=some us→Mo.EN us (G j)):cX (Mo.Jy tb) V G:=by
 refine⟨(Mo.EO fun j=>?_).2,fun j nm us a b=>?_⟩
 ·cases a:(Ac V.q)[j]? with
  |none=>rw[e j a];exact Mo.Wp
  |some nm =>
   obtain⟨us,b⟩:=Mo.Eb V.q V.ts d nm (kW a)
   have:=c j nm us a b
   exact⟨this.nn,this.rows,this.wts⟩
 ·rw[lK]
  have:=c j nm us a b
  exact⟨this.rt,this.bt⟩
def Sr (xs:List TabS)(D:Nat→Bag)(n:Nat):List TabS:=xs.mapIdx fun i X=>if i<n then { X with bag:=X.bag++D i } else X
theorem I1 (xs:List TabS)(D:Nat→Bag)(n i:Nat):(Sr xs D n)[i]? =(xs[i]?).map fun X=>if i<n then { X with bag:=X.bag++D i } else X:=by unfold Sr;rw[lR]
theorem QC (xs:List TabS)(D:Nat→Bag):Sr xs D 0=xs:=by
 refine mG fun i=>?_
 rw[I1]
 cases xs[i]? <;> simp
theorem Ss {β:Type}(g:TabS→β)(hg:∀(X:TabS) (b:Bag),g { X with bag:=b }=g X)(xs:List TabS)(D:Nat→Bag)(n:Nat):(Sr xs D n).map g=xs.map g:=by
 refine mG fun i=>?_
 rw[kX,I1,kX]
 cases xs[i]? with
 |none=>rfl
 |some X =>
  simp only[nX]
  split
  ·rw[hg]
  ·rfl
theorem Mm {xs:List TabS}{D:Nat→Bag}{n:Nat}{Y:TabS}(h:Y∈Sr xs D n):∃Z∈xs,Y.blk=Z.blk∧Y.name=Z.name∧Y.tks=Z.tks∧Y.tv=Z.tv:=by
 obtain⟨i,hi⟩:=lW h
 rw[I1] at hi
 obtain⟨Z,a,rfl⟩:=lJ.1 hi
 refine⟨Z,kW a,?_⟩
 split <;> exact⟨rfl,rfl,rfl,rfl⟩
theorem MB {ft:List UInt8→Option (List Bool)}{id0:Nat}{xs:List TabS}{vs:List VS}(h:Fx ft id0 xs vs)(D:Nat→Bag)(n:Nat):Fx ft id0 (Sr xs D n) vs:=by
 refine⟨by rw[Ss (fun X=>X.name) (fun _ _=>rfl)];exact h.nm,by rw[Ss (fun X=>X.blk) (fun _ _=>rfl)];exact h.bl,h.vb,h.dis,fun V f a g=>?_,⟨h.id.1,fun Y b=>?_⟩,h.fix,fun Y b=>?_,fun Y b=>?_⟩
 ·obtain⟨a1,i,j⟩:=h.va V f a g
  refine⟨a1,i,fun Y b=>?_⟩
  obtain⟨Z,c,e,_⟩:=Mm b
  rw[e];exact j Z c
 ·obtain⟨Z,c,e,_⟩:=Mm b
  rw[e];exact h.id.2 Z c
 ·obtain⟨Z,c,_,k,d,_⟩:=Mm b
  rw[d,k];exact h.tks Z c
 ·obtain⟨Z,c,_,_,d,_⟩:=Mm b
  rw[d];exact h.few Z c
theorem QD {xs:List TabS}(f:(xs.map (·.name)).Nodup)(D:Nat→Bag){i:Nat}{X:TabS}(b:xs[i]? =some X):EB (Sr xs D i) X.name (D i)=Sr xs D (i+1):=by
 unfold EB
 refine mG fun k=>?_
 rw[kX,I1,I1]
 cases a:xs[k]? with
 |none=>rfl
 |some Y =>
  simp only[nX]
  by_cases e:k=i
  ·subst e
   rw[b] at a
   cases a
   rw[if_neg (show ¬k<k by omega),if_pos (show k<k+1 by omega),if_pos rfl]
  ·have c:Y.name≠X.name:=fun g=>e (Ot f (show (xs.map (·.name))[k]? =some X.name by rw[kX,a,←g];rfl) (by rw[kX,b];rfl))
   by_cases d:k<i
   ·rw[if_pos d,if_pos (show k<i+1 by omega)]
    rw[if_neg (show ¬({ Y with bag:=Y.bag++D k }:TabS).name=X.name from c)]
   ·rw[if_neg d,if_neg (show ¬k<i+1 by omega),if_neg c]
def iM (O:Ow)(xs:List TabS)(vs:List VS)(k:Nat):Prop:=(∃X∈xs,O k=X.blk+2)∨∃V∈vs,VA V (O k)
def DJ (w:World)(O:Ow)(p:Nat)(st:Mo.Ses)(xs:List TabS)(vs:List VS)(tv:Value)(D:Nat→Bag)(i:Nat)(wr:World):Prop :=
 ∃O':Ow,(∀k,k<w.heap.size→O' k=O k)∧Ab (iM O xs vs) w wr∧B5 wr O' tv (p+2) (Sr xs D i)∧∀V∈vs,Xn V (Mo.Dc (I0 st.tabs D i) V.q) wr O'
section
variable {w:World} {O:Ow} {p:Nat} {st:Mo.Ses} {xs:List TabS} {vs:List VS} {tv vv:Value} {D:Nat→Bag}
theorem A2.dj (h:A2 w O p st xs vs tv vv):DJ w O p st xs vs tv D 0 w:=⟨O,fun _ _=>rfl,Ab.refl _ _,by rw[QC];exact h.tabs,fun V a=>by rw[QA];exact h.vat V a⟩
theorem A2.kM (h:A2 w O p st xs vs tv vv)(hg:Mo.Bj (Bp st.tabs D)){i:Nat}{X:TabS}(n:xs[i]? =some X)(c:Nat){V:VS}(f:V∈vs):cX (Mo.Jy st.tabs) V (gv ((Jb vs X.name).take c) (D i) (fun V=>Mo.Dc (I0 st.tabs D i) V.q) V):=by
 have g:∀j,(V.blk,j)∈((Jb vs X.name).take c).map Hs→(Ac V.q)[j]? =some X.name:=fun j b=>by
  obtain⟨pr,o,e⟩:=lD.1 b
  obtain⟨q,r⟩:=Nc.1 (mY o)
  obtain⟨e1,s⟩:=Prod.mk.inj e
  have:pr.1=V:=F5 h.fx.vb q f e1
  rw[←this,←s];exact r
 obtain⟨t,u,v,_⟩:=h.at n
 refine eX (h.fx.fix V f).ty (fun j b=>?_) (fun j nm us b x=>?_)
 ·show (if (V.blk,j)∈((Jb vs X.name).take c).map Hs then _ else _)=_
  rw[if_neg (fun e=>by have:=g j e;rw[b] at this;cases this)]
  show Mo.Dc (I0 st.tabs D i) V.q j=[]
  unfold Mo.Dc;rw[b]
 ·obtain⟨a,y,rfl⟩:=Mo.Ml x
  obtain⟨l,rfl⟩:=Mo.Fe y
  obtain⟨k,d⟩:=lW l
  have z:Mo.Dc (I0 st.tabs D i) V.q j=if k<i then a.bag++D k else a.bag:=by
   unfold Mo.Dc Mo.Dn
   rw[b]
   simp only
   rw[U6 D i h.good.nod d]
   simp only
   split <;> rfl
  have A:Mo.EN a.ts a.bag:=h.good.Sm l
  have m:Mo.EN a.ts (a.bag++D k):=by
   have:({ a with bag:=a.bag++D k }:Tab)∈Bp st.tabs D:=kW (i:=k) (by unfold Bp;rw[lR,d];rfl)
   exact hg.Sm this
  show Mo.EN a.ts (if (V.blk,j)∈((Jb vs X.name).take c).map Hs then Mo.Dc (I0 st.tabs D i) V.q j++D i else Mo.Dc (I0 st.tabs D i) V.q j)
  rw[z]
  by_cases hi:(V.blk,j)∈((Jb vs X.name).take c).map Hs
  ·rw[if_pos hi]
   have e:a.nm=t.nm:=by
    have:=g j hi
    rw[b] at this
    rw[←v];simpa using this
   have B:k=i:=Ot h.good.nod (show (st.tabs.map Tab.nm)[k]? =some t.nm by rw[kX,d,←e];rfl) (by rw[kX,u];rfl)
   subst B
   rw[if_neg (show ¬k<k by omega)];exact m
  ·rw[if_neg hi]
   split
   ·exact m
   ·exact A
theorem A2.step (h:A2 w O p st xs vs tv vv)(hg:Mo.Bj (Bp st.tabs D)){i:Nat}{X:TabS}(b:xs[i]? =some X){c:Nat}(n:Aw w c (Af (D i)))(hO:O c=0){wr:World}(s:DJ w O p st xs vs tv D i wr) :
 Calls Tryz.prog 47 #[.map (some c),.iface 101 (.pointer (some ⟨X.blk,0,none⟩))] wr fun e w'=>e=.returned (.tuple #[])∧DJ w O p st xs vs tv D (i+1) w':=by
 obtain⟨_,g,l,u,v⟩:=s
 obtain⟨t,m,x,o⟩:=h.at b
 have y:=kW b;have q:=kW m
 have z:X∈Sr xs D i:=kW (i:=i) (by rw[I1,b];simp)
 have r:t.ts.length≤6:=by have:=(h.good.each t q).len;omega
 have A:Mo.EN t.ts (t.bag++D i):=by
  have:({ t with bag:=t.bag++D i }:Tab)∈Bp st.tabs D:=kW (i:=i) (by unfold Bp;rw[lR,m];rfl)
  exact hg.Sm this
 have B:¬iM O xs vs c:=fun e=>by
  rcases e with ⟨Y,_,e⟩|⟨V,a,e⟩
  ·omega
  ·have:=(h.fx.va V a _ e).1;omega
 refine (Xx (Mo.F8 h.good) (MB h.fx D i) z (ts:=t.ts) (d:=D i) (by rw[o];exact MA (h.good.Sm q) r) (by rw[o];exact MA A r) (G:=fun V=>Mo.Dc (I0 st.tabs D i) V.q) (fun C V a=>h.kM hg b C a) u v (n.kept l B) (by rw[g c n.lt];exact hO)).mono fun e w' E=>?_
 obtain⟨F,H,I,J,K,L⟩:=E
 refine⟨F,H,fun k f=>(I k (kV f l.size)).trans (g k f),?_,?_,fun V a=>?_⟩
 ·refine l.trans J (fun _ e=>e) fun k f e=>?_
  rw[g k f] at e
  rcases e with e|e
  ·exact .inl ⟨X,y,e⟩
  ·exact .inr e
 ·rw[←QD h.fx.nm D b];exact K
 ·have:=L V a
  have e:iT X.name (D i) (fun V=>Mo.Dc (I0 st.tabs D i) V.q) V=Mo.Dc (I0 st.tabs D (i+1)) V.q:=by
   funext j
   rw[QB D i h.good.nod m (h.fx.fix V a).ty j,←x];rfl
  rw[e] at this;exact this
end
theorem Gf.map {w:World}{v:Value}{l:Bag}(h:Gf w v l){k:Nat}(e:v=.map (some k)):∃es c,w.heap[k]? =some (.map es c):=by
 rcases h with ⟨a,_⟩|⟨b,a,h⟩
 ·rw[a] at e;cases e
 ·rw[a] at e
  have:b=k:=by simpa using e
  rw[←this];exact h.obj
open Classical in
theorem QE (v:Nat){ts:List Bool}{told B:Bag}(w:World)(O:Ow)(h:Dy w O v told B)(ok1:B0 ts told)(ok2:B0 ts B)(x:IQ ts (B++neg told))(y:Se w)(hO:O gT≠v+2){N:Nat}(_:N≤w.heap.size)(z:v<N) :
 Calls Tryz.prog 40 #[.pointer (some ⟨v,0,none⟩)] w fun e w'=>e=.returned (.string ⟨(Bl (B++neg told)).toArray⟩)∧∃b:Ow,(∀k,k<N∨k<w.heap.size∧O k≠v+2→b k=O k)∧(∀k,N≤k→w.heap.size≤k∨O k=v+2→b k≠0→b k=v+2∧∃es c,w'.heap[k]? =some (.map es c))∧Ab (fun k=>O k=v+2∧¬Is 5 w k) w w'∧Dy w' b v B B:=by
 obtain⟨q,hv,r,i,j,l,A⟩:=h
 obtain⟨P,d⟩:∃P:Ow,∀k,P k=if k=v∨hv=.map (some k)∨r=.map (some k) then v+2 else 0:=⟨_,fun _=>rfl⟩
 have p1:∀k,P k=v+2→O k=v+2∧¬Is 5 w k:=fun k e=>by
  rw[d] at e
  split at e
  ·next a =>
   rcases a with rfl|a|a
   ·exact⟨q,fun hi=>absurd (hi.ne i) (by decide)⟩
   ·obtain⟨es,c,m⟩:=j.1.map a
    exact⟨j.2 k a,fun ⟨C,D,hi⟩=>by rw[m] at hi;cases hi⟩
   ·obtain⟨es,c,m⟩:=l.1.map a
    exact⟨l.2 k a,fun ⟨C,D,hi⟩=>by rw[m] at hi;cases hi⟩
  ·omega
 have E:Dy w P v told B:=⟨by rw[d,if_pos (.inl rfl)],hv,r,i,⟨j.1,fun k e=>by rw[d,if_pos (.inr (.inl e))]⟩,⟨l.1,fun k e=>by rw[d,if_pos (.inr (.inr e))]⟩,A⟩
 refine (EI v w P E ok1 ok2 x y (fun e=>hO (p1 _ e).1)).mono fun e w' F=>?_
 obtain⟨G,H,I,J,K⟩:=F
 refine⟨G,?_⟩
 obtain⟨g0,f,g,L,n,o,M⟩:=K
 have R:=Aa i
 obtain⟨b,p⟩:∃b:Ow,∀k,b k=if k<N∨k<w.heap.size∧O k≠v+2 then O k else if f=.map (some k)∨g=.map (some k) then v+2 else 0:=⟨_,fun _=>rfl⟩
 have a1:∀k,k<N∨k<w.heap.size∧O k≠v+2→b k=O k:=fun k s=>by rw[p,if_pos s]
 have t:∀k,f=.map (some k)∨g=.map (some k)→H k=v+2→b k=v+2:=fun k e e1=>by
  by_cases u:k<N∨k<w.heap.size∧O k≠v+2
  ·rw[a1 k u]
   have Q:k<w.heap.size:=by omega
   rw[I k Q] at e1;exact (p1 k e1).1
  ·rw[p,if_neg u,if_pos e]
 refine⟨b,a1,fun k s S e=>?_,J.mono fun k _ e=>p1 k e,by rw[a1 v (.inl z)];exact q,f,g,L,⟨n.1,fun k e=>t k (.inl e) (n.2 k e)⟩,⟨o.1,fun k e=>t k (.inr e) (o.2 k e)⟩,M⟩
 rw[p,if_neg (by omega)] at e⊢
 by_cases a:f=.map (some k)∨g=.map (some k)
 ·rw[if_pos a]
  refine⟨rfl,?_⟩
  rcases a with a|a
  ·exact n.1.map a
  ·exact o.1.map a
 ·rw[if_neg a] at e;exact absurd rfl e
structure iN (w:World) (O:Ow) (p:Nat) (vs:List VS) (vv:Value) (B:VS→Bag):Prop where
 cell:w.cell? ⟨p,1,none⟩=some vv
 lt:p<w.heap.size
 vowns:w.ownsRow 0 81 1 vv vs.length (vs.map fun V=>pV V.blk)
 vowner:∀b,vv.ownBlock=some b→O b=p+2
 view:∀V∈vs,Dy w O V.blk V.told (B V)
 nod:(vs.map VS.blk).Nodup
 pne:∀V∈vs,V.blk+2≠p+2
 ok1:∀V∈vs,B0 V.ts V.told
 ok2:∀V∈vs,B0 V.ts (B V)
 wr:∀V∈vs,IQ V.ts (B V++neg V.told)
 env:Se w
 glb:O gT=0
 o:∀k,w.heap.size≤k→O k=0
 few:vs.length≤6
def TJ (w:World)(O:Ow)(vs:List VS)(B:VS→Bag)(i:Nat)(a:World):Prop :=
 ∃P:Ow,(∀k,k<w.heap.size→P k=O k)∧(∀k,w.heap.size≤k→P k≠0→k≠w.heap.size∧(∃V∈vs,P k=V.blk+2)∧∃es c,a.heap[k]? =some (.map es c))∧Ab (fun k=>∃V∈vs,O k=V.blk+2) w a ∧
  ∀(j:Nat) (V:VS),vs[j]? =some V→Dy a P V.blk (if j<i then B V else V.told) (B V)
theorem JV {ts:List Bool}{b:Bag}(h:IQ ts b):(Bl b).length≤20000000000000:=by
 have a:=Tu h (Af b).length (kZ _)
 rw[lT (kZ _)] at a
 have c:=h.len
 show (D9 0 (Af b)).length≤_
 omega
section
variable {w:World} {O:Ow} {p:Nat} {vs:List VS} {vv:Value} {B:VS→Bag}
theorem iN.bD (h:iN w O p vs vv B){i j:Nat}{V a:VS}(hi:vs[i]? =some V)(b:vs[j]? =some a)(e:V.blk=a.blk):i=j :=
 Ot h.nod (show (vs.map VS.blk)[i]? =some a.blk by rw[kX,hi,←e];rfl) (by rw[kX,b];rfl)
theorem WD (h:iN w O p vs vv B):Calls Tryz.prog 48 #[.pointer (some ⟨p,0,none⟩)] w fun e w'=>e=.returned (.string ⟨(Qd (vs.map fun V=>Bl (B V++neg V.told))).toArray⟩)∧TJ w O vs B vs.length w':=by
 obtain⟨M,cap,e1,_,_,Q⟩:=F9 h.vowns
 have I:=h.cell
 rw[e1] at I
 have R:∀i,i<vs.length→∃V,vs[i]? =some V∧V∈vs:=fun i hi=>⟨_,kT hi,List.getElem_mem _⟩
 refine (EM p vs.length cap M (fun i=>match vs[i]? with|some V=>V.blk|none=>0) (vs.map fun V=>Bl (B V++neg V.told)) (TJ w O vs B) w h.lt I h.few (by simp) (fun t F=>?_) ?_ ?_ ?_ ?_).mono fun e w' ⟨a,b,_⟩=>⟨a,b⟩
 ·obtain⟨V,f,rfl⟩:=lD.1 F
  exact JV (h.wr V f)
 ·exact⟨O,fun _ _=>rfl,fun k d e=>absurd (h.o k d) e,Ab.refl _ _,fun j V l=>by rw[if_neg (by omega)];exact h.view V (kW l)⟩
 ·rintro i a c ⟨P,u,m,v,E⟩ S d
  have ak:=d.size
  have J:∀k,k<a.heap.size→P k≠0→c.heap[k]? =a.heap[k]? :=fun k z e=>d.block k z (fun ⟨x,y⟩=>by
   obtain⟨n,A,es,C,D⟩:=m k x e
   rcases y with y|⟨_,_,y⟩
   ·exact n y
   ·rw[D] at y;cases y)
  refine⟨P,u,fun k z e=>?_,?_,fun j V l=>(E j V l).stab fun k z e=>⟨J k z (by rw[e];omega),rfl⟩⟩
  ·obtain⟨n,A,es,C,D⟩:=m k z e
   exact⟨n,A,es,C,(J k (Aa D) e).trans D⟩
  ·exact v.trans d (fun _ e=>e) (fun k z e=>by have:=e.1;omega)
 ·rintro i wr ⟨P,u,m,v,E⟩ hi
  obtain⟨V,f,q⟩:=R i hi
  obtain⟨b,o,T,U,W,X⟩:=Q i (pV V.blk) (by rw[kX,f];rfl)
  refine⟨b,o,T,?_⟩
  rw[v.cell W (fun ⟨g,Y,e⟩=>h.pne g Y (by rw[←e];exact h.vowner b U))]
  rw[X,f];rfl
 ·rintro i t wr ⟨P,u,m,v,E⟩ S F
  rw[kX] at F
  obtain⟨V,f,rfl⟩:=lJ.1 F
  have q:=kW f;have K:=E i V f
  rw[if_neg (by omega)] at K
  have Z:gT<w.heap.size:=h.env.lt
  have aa:Se wr:=h.env.kept v (fun ⟨g,_,e⟩=>by rw[h.glb] at e;omega)
  rw[f]
  have ab:V.blk<w.heap.size:=by
   obtain⟨_,_,_,ac,_⟩:=h.view V q
   exact Aa ac
  refine (QE V.blk wr P K (h.ok1 V q) (h.ok2 V q) (h.wr V q) aa (by rw[u _ Z,h.glb];omega) (N:=w.heap.size) (by omega) ab).mono fun e w' ad=>?_
  obtain⟨ae,af,G,ag,H,ah⟩:=ad
  refine⟨ae,⟨af,fun k d=>(G k (.inl d)).trans (u k d),fun k d e=>?_,?_,fun j g l=>?_⟩,?_⟩
  ·by_cases r:k<wr.heap.size∧P k≠V.blk+2
   ·rw[G k (.inr r)] at e
    obtain⟨n,A,es,C,D⟩:=m k d e
    exact⟨n,by rw[G k (.inr r)];exact A,es,C,(H.block k r.1 (fun s=>r.2 s.1)).trans D⟩
   ·obtain⟨n,es,C,A⟩:=ag k d (by omega) e
    refine⟨fun s=>?_,⟨V,q,n⟩,es,C,A⟩
    subst s
    have ai:P w.heap.size≠0:=by
     by_cases al:w.heap.size<wr.heap.size
     ·have:P w.heap.size=V.blk+2:=by omega
      omega
     ·omega
    exact (m w.heap.size (kZ _) ai).1 rfl
  ·refine v.trans H (fun _ e=>e) fun k d e=>⟨V,q,?_⟩
   rw[←u k d];exact e.1
  ·by_cases L:j=i
   ·subst L
    rw[f] at l
    cases l
    rw[if_pos (by omega)];exact ah
   ·have aj:g.blk≠V.blk:=fun e=>L (h.bD l f e)
    have:=E j g l
    have e5:(if j<i+1 then B g else g.told)=if j<i then B g else g.told:=by
     by_cases r:j<i
     ·rw[if_pos r,if_pos (by omega)]
     ·rw[if_neg r,if_neg (by omega)]
    rw[e5]
    exact this.stab fun k d e=>⟨H.block k d (fun s=>aj (by have:=s.1;omega)),G k (.inr ⟨d,by rw[e];omega⟩)⟩
  ·refine H.mono fun k d e=>⟨fun s=>?_,e.2⟩
   subst s
   have:=m w.heap.size (kZ _) (by rw[e.1];omega)
   exact this.1 rfl
end
def MC (B:VS→Bag)(V:VS):VS:={ V with told:=B V }
theorem EX (B:VS→Bag)(nm:List UInt8):∀vs:List VS,(Jb (vs.map (MC B)) nm).map gF=(Jb vs nm).map gF
 | []=>rfl
 |V::vs=>by
  have a:=EX B nm vs
  have e:∀(V:VS) (vs:List VS),Jb (V::vs) nm=(((List.range (Ac V.q).length).filter fun j=>decide ((Ac V.q)[j]? =some nm)).map fun j=>(V,j))++Jb vs nm:=fun V vs=>by unfold Jb;simp
  rw[lS,e,e,lF,lF,a,mH,mH]
  rfl
section
variable {w W w':World} {O:Ow} {p:Nat} {st:Mo.Ses} {xs:List TabS} {vs:List VS} {tv vv:Value} {D:Nat→Bag}
theorem Ng {k:Nat}(h:A2 w O p st xs vs tv vv)(e:O k=p+2∨O k=1∨O k=0):¬iM O xs vs k:=fun a=>by
 rcases a with ⟨X,b,a⟩|⟨V,hV,a⟩
 ·have:=h.fx.id.2 X b;omega
 ·have:=h.fx.va V hV _ a;omega
theorem A2.kN (h:A2 w O p st xs vs tv vv)(hg:Mo.Bj (Bp st.tabs D))(s:DJ w O p st xs vs tv D xs.length W) :
 ∃b:Ow,iN W b p vs vv (fun V=>Mo.Cc (Bp st.tabs D) V.q)∧(∀k,k<w.heap.size→b k=O k)∧(∀k,b k<W.heap.size+2)∧Ab (iM O xs vs) w W∧B5 W b tv (p+2) (Sr xs D xs.length)∧∀V∈vs,Xn V (Mo.Dc (Bp st.tabs D) V.q) W b:=by
 obtain⟨g,o,f,t,q⟩:=s
 have i:=f.size;have u:=Aa h.obj
 rw[h.len,Kp] at q
 obtain⟨b,j⟩:∃b:Ow,∀k,b k=if k<W.heap.size∧g k<W.heap.size+2 then g k else 0:=⟨_,fun _=>rfl⟩
 have a1:∀k,k<W.heap.size→g k<W.heap.size+2→b k=g k:=fun k x y=>by rw[j,if_pos ⟨x,y⟩]
 have l:∀k,k<w.heap.size→b k=O k:=fun k d=>by
  have:=h.old k
  rw[←o k d]
  exact a1 k (by omega) (by rw[o k d];omega)
 have r:∀V∈vs,Xn V (Mo.Dc (Bp st.tabs D) V.q) W b:=fun V a=>(q V a).stab (kZ _) fun k d e=>⟨rfl,a1 k d (by
  rcases e with e|e
  ·have:=h.vlt V a _ e;omega
  ·omega)⟩
 have v:B5 W b tv (p+2) (Sr xs D xs.length):=t.stab (kZ _) fun k d e=>⟨rfl,a1 k d (by
  rcases e with e|⟨Y,z,e⟩
  ·omega
  ·obtain⟨Z,A,e1,_⟩:=Mm z
   have:=h.T0 A
   omega)⟩
 have B:Mo.Jy (Bp st.tabs D)=Mo.Jy st.tabs:=by rw[←Kp];exact U7 D _ h.good.nod
 have m:∀V∈vs,B0 V.ts (Mo.Cc (Bp st.tabs D) V.q)∧Nr (Mo.Cc (Bp st.tabs D) V.q)≤50000000000:=fun V a=>by
  have hf:=h.fx.fix V a;have i:=Mo.Iy hg V.q
  exact⟨Mo.YP (Mo.F8 hg) i.2 V.q hf.wf hf.len hf.jn 0 (Mo.Ou hg V.q) (by rw[B];exact hf.ty),Mo.BB V.q (h.vlen V a) hf.jn i.1 0⟩
 refine⟨b,⟨?_,by omega,?_,?_,fun V a=>(r V a).1,h.fx.vb,fun V a=>(h.fx.va V a _ (.inl rfl)).2.1,fun V a=>(h.fx.fix V a).told,fun V a=>(m V a).1,fun V a=>?_,?_,?_,?_,h.few⟩,l,?_,f,v,r⟩
 ·rw[f.cell u (Ng h (.inl h.own))]
  exact (Ae h.obj 1).trans rfl
 ·refine Cm h.vowns fun k e=>?_
  obtain⟨c,C,n⟩:=Bc h.vowns e
  exact f.block k (Aa n) (Ng h (.inl (h.vowner k e)))
 ·intro k e
  obtain⟨c,C,n⟩:=Bc h.vowns e
  rw[l k (Aa n)];exact h.vowner k e
 ·refine VQ (m V a).1 (h.fx.fix V a).told (m V a).2 ?_
  rw[Mo.GS (h.told V a)]
  exact (h.jY a).2
 ·exact h.env.kept f (Ng h (.inr (.inr h.glb)))
 ·rw[l _ (show gT<_ from h.env.lt)];exact h.glb
 ·intro k d
  rw[j,if_neg (fun e=>by have:=e.1;omega)]
 ·intro k
  rw[j]
  split
  ·next e=>exact e.2
  ·exact Nat.succ_pos _
theorem A2.kO (h:A2 w O p st xs vs tv vv)(hg:Mo.Bj (Bp st.tabs D)){q:Ow}(ad:iN W q p vs vv (fun V=>Mo.Cc (Bp st.tabs D) V.q))(F:∀k,k<w.heap.size→q k=O k)(ae:∀k,q k<W.heap.size+2)(G:Ab (iM O xs vs) w W)(af:B5 W q tv (p+2) (Sr xs D xs.length))(ag:∀V∈vs,Xn V (Mo.Dc (Bp st.tabs D) V.q) W q)
 (ah:TJ W q vs (fun V=>Mo.Cc (Bp st.tabs D) V.q) vs.length w') :
 (∃P,A2 w' P p ⟨Bp st.tabs D,st.views⟩ (Sr xs D xs.length) (vs.map (MC fun V=>Mo.Cc (Bp st.tabs D) V.q)) tv vv∧∀k,P k≠0→O k≠0∨w.heap.size≤k)∧Ab (fun k=>O k≠0) w w':=by
 obtain⟨P,z,M,H,ai⟩:=ah
 have ax:=G.size;have aj:=H.size;have N:=Aa h.obj
 have ak:Mo.Jy (Bp st.tabs D)=Mo.Jy st.tabs:=by rw[←Kp];exact U7 D _ h.good.nod
 have v:∀k,k<w.heap.size→P k=O k:=fun k f=>(z k (by omega)).trans (F k f)
 have I:∀k,k<W.heap.size→(∀V∈vs,q k≠V.blk+2)→w'.heap[k]? =W.heap[k]? :=fun k f e=>H.block k f (fun ⟨V,d,l⟩=>e V d l)
 have A:∀k,k<w.heap.size→(O k=p+2∨O k=1∨O k=0)→w'.heap[k]? =w.heap[k]? :=fun k f e=>by
  rw[I k (by omega) (fun V d l=>by rw[F k f] at l;have:=h.fx.va V d _ (.inl rfl);omega)]
  exact G.block k f (Ng h e)
 have Q:Ab (fun k=>O k≠0) w w':=by
  refine (G.mono (T:=fun k=>O k≠0) fun k _ e=>?_).trans H (fun _ e=>e) (fun k f ⟨V,d,e⟩=>?_)
  ·intro al
   exact Ng h (.inr (.inr al)) e
  ·show O k≠0
   rw[←F k f,e];omega
 have o:∀{m:VS},m∈vs.map (MC fun V=>Mo.Cc (Bp st.tabs D) V.q)→∃V∈vs,m=MC (fun V=>Mo.Cc (Bp st.tabs D) V.q) V:=fun g=>by
  obtain⟨V,d,e⟩:=lD.1 g
  exact⟨V,d,e.symm⟩
 refine⟨⟨P,?_,fun k f=>?_⟩,Q⟩
 case refine_2 =>
  rcases nN k w.heap.size with r|r
  ·exact .inl (by rw[←v k r];exact f)
  ·exact .inr r
 refine⟨(A p N (.inl h.own)).trans h.obj,by rw[v p N];exact h.own,?_,?_,?_,?_,?_,?_,?_,?_,?_,?_,?_,?_,?_,hg,by rw[lB];exact h.few,?_,?_,?_,?_⟩
 ·have R:=congrArg List.length (Ss (fun X=>X.blk) (fun _ _=>rfl) xs D xs.length)
  rw[lB,lB] at R
  rw[R,Ss (fun X=>pV X.blk) (fun _ _=>rfl)]
  refine Cm h.towns fun k e=>?_
  obtain⟨c,J,s⟩:=Bc h.towns e
  exact A k (Aa s) (.inl (h.towner k e))
 ·intro k e
  obtain⟨c,J,s⟩:=Bc h.towns e
  rw[v k (Aa s)];exact h.towner k e
 ·rw[lB,mH]
  refine Cm h.vowns fun k e=>?_
  obtain⟨c,J,s⟩:=Bc h.vowns e
  exact A k (Aa s) (.inl (h.vowner k e))
 ·intro k e
  obtain⟨c,J,s⟩:=Bc h.vowns e
  rw[v k (Aa s)];exact h.vowner k e
 ·intro Y u
  obtain⟨Z,B,e1,_⟩:=Mm u
  exact (af.tab Y u).stab fun k f e=>⟨I k f (fun V d l=>by
   have:=(h.fx.va V d _ (.inl rfl)).2.2 Z B
   rw[e,e1] at l
   omega),z k f⟩
 ·rw[ak]
  have n:=MB h.fx D xs.length
  refine⟨n.nm,n.bl,by rw[mH];exact n.vb,?_,?_,n.id,?_,?_,n.few⟩
  ·intro m g ay am an a x
   obtain⟨V,d,rfl⟩:=o g
   obtain⟨C,K,rfl⟩:=o am
   exact n.dis V d C K an a x
  ·intro m g a x
   obtain⟨V,d,rfl⟩:=o g
   exact n.va V d a x
  ·intro m g
   obtain⟨V,d,rfl⟩:=o g
   have:=n.fix V d
   exact⟨this.ty,this.wf,this.len,this.jn,this.shape,this.nod,this.own,ad.ok2 V d⟩
  ·intro Y u
   rw[EX];exact n.tks Y u
 ·refine mG fun i=>?_
  rw[kX,I1]
  show _=((Bp st.tabs D).map _)[i]?
  unfold Bp
  rw[kX,lR]
  cases L:xs[i]? with
  |none =>
   have:st.tabs[i]? =none:=mD (by rw[←h.len];exact List.getElem?_eq_none_iff.1 L)
   rw[this];rfl
  |some X =>
   obtain⟨t,E,ao,ap⟩:=h.at L
   have:=(kS.1 L).1
   rw[E]
   simp only[nX]
   rw[if_pos this,ao,ap]
 ·intro i Y S u y
  rw[I1] at u
  obtain⟨Z,B,rfl⟩:=lJ.1 u
  obtain⟨t,E,_⟩:=h.at B
  have aq:S={ t with bag:=t.bag++D i }:=by
   have y:(Bp st.tabs D)[i]? =some S:=y;unfold Bp at y
   rw[lR,E] at y
   simpa using y.symm
  have ar:(if i<xs.length then { Z with bag:=Z.bag++D i } else Z:TabS).tv=Z.tv:=by split <;> rfl
  rw[ar,aq]
  obtain⟨U,aa⟩:=h.typ i Z t B E
  refine⟨U.stays fun k e hi=>A k hi.lt (.inr (.inl (aa k e))),fun k e=>?_⟩
  have au:k<w.heap.size:=by
   obtain⟨b',_,_,l,av,_⟩:=U
   rw[l] at e
   have:b'=k:=by simpa [Value.ownBlock] using e
   rw[←this];exact av.lt
  rw[v k au];exact aa k e
 ·rw[mH];exact h.vq
 ·intro m g
  obtain⟨V,d,rfl⟩:=o g
  obtain⟨j,ab⟩:=lW d
  have hv:=ai j V ab
  rw[if_pos (kS.1 ab).1] at hv
  refine⟨hv,?_⟩
  refine A8.stab aj V.q V.nd _ 0 (fun k f e=>⟨I k f (fun C K l=>?_),z k f⟩) (ag V d).2
  rcases e with ⟨b,ac,e⟩|e
  ·rw[e] at l
   by_cases aw:C.blk=V.blk
   ·exact (h.fx.fix V d).own b ac (by omega)
   ·exact h.fx.dis V d C K aw (b+2) (.inr ⟨b,ac,rfl⟩) (.inl l)
  ·omega
 ·intro m g
  obtain⟨V,d,rfl⟩:=o g
  exact Be.refl _
 ·intro m g
  obtain⟨V,d,rfl⟩:=o g
  exact h.vlen V d
 ·intro m g a x
  obtain⟨V,d,rfl⟩:=o g
  have:=h.vlt V d a x
  omega
 ·intro k
  by_cases e:P k=0
  ·rw[e];exact Nat.succ_pos _
  ·rcases nN k W.heap.size with r|r
   ·rw[z k r];have:=ae k;omega
   ·obtain⟨_,⟨V,d,e1⟩,_⟩:=M k r e
    have:=h.vlt V d _ (.inl rfl)
    omega
 ·intro k f
  by_cases e:P k=0
  ·exact e
  ·obtain⟨_,_,es,_,e1⟩:=M k (by omega) e
   have:=Aa e1
   omega
 ·rw[v _ (show gT<_ from h.env.lt)];exact h.glb
 ·exact h.env.kept Q (fun e=>e h.glb)
end
def G6 (st:Mo.Ses)(s:ByteArray):(List UInt8×Int)×Mo.Ses:=if 300<s.size then (([],1),st) else match Ci s with
 |none=>(([],2),st)
 |some os=>if Jm (Cd st.tabs) os≠0 then (([],Jm (Cd st.tabs) os),st) else if Di (Ny st.tabs (Cu (Cd st.tabs) os)) 0≠0 then (([],Di (Ny st.tabs (Cu (Cd st.tabs) os)) 0),st)
  else ((Qd (st.views.map fun q=>Bl (Mo.Cc (Bp st.tabs (Cu (Cd st.tabs) os)) q++neg (Mo.Cc st.tabs q))),0),⟨Bp st.tabs (Cu (Cd st.tabs) os),st.views⟩)
theorem QF {trs:List TRec}{os:List E5}(h:Jm trs os=0):os.all (Ep trs)=true∧os.all (Gc trs)=true:=by
 unfold Jm at h
 by_cases a:os.all (Ep trs)=false
 ·rw[if_pos a] at h;omega
 ·rw[if_neg a] at h
  by_cases b:os.all (Gc trs)=false
  ·rw[if_pos b] at h;omega
  ·exact⟨by simpa using a,by simpa using b⟩
theorem BE {trs:List TRec}{os:List E5}{i:Nat}{e:Row×Int}(h:e∈Cu trs os i):∃o∈os,Rk trs o.name=(i:Int)∧e=(o.row,o.t):=by
 unfold Cu at h
 rw[List.mem_reverse] at h
 obtain⟨o,ho,rfl⟩:=lD.1 h
 obtain⟨a,b⟩:=oE.1 ho
 exact⟨o,a,by simpa using b,rfl⟩
theorem BF {tb:List Tab}{os:List E5}(ho:∀o∈os,YS o)(h:os.all (Gc (Cd tb))=true):jZ tb (Cu (Cd tb) os):=by
 refine⟨fun i t c e a=>?_,fun i e a=>?_⟩
 ·obtain⟨o,b,d,rfl⟩:=BE a
  have:=lO.1 h o b
  unfold Gc at this
  rw[d] at this
  have e1:(Cd tb)[((i:Int)).toNat]? =some ⟨0,t.nm,t.ts⟩:=by unfold Cd;rw[Int.toNat_natCast,kX,c];rfl
  rw[e1] at this
  simpa using this
 ·obtain⟨o,b,_,rfl⟩:=BE a
  exact (ho o b).val
theorem Ws {g:Row→Int}(hg:∀r,0≤g r∧g r≤1):∀(l:Bag),(∀e∈l,e.2=1∨e.2= -1)→ -(l.length:Int)≤Mo.Ce l g∧Mo.Ce l g≤l.length
 | [],_=>by simp[Mo.Ce]
 |e::l,h=>by
  have c:=Ws hg l fun x b=>h x (by simp[b])
  have d:=hg e.1
  rw[lN]
  show -((l.length+1:Nat):Int)≤e.2*g e.1+Mo.Ce l g∧e.2*g e.1+Mo.Ce l g≤((l.length+1:Nat):Int)
  rcases h e (by simp) with a|a <;> rw[a] <;> omega
theorem WE {trs:List TRec}{os:List E5}(ho:∀o∈os,YS o)(_:os.length≤301)(i:Nat):(∀r,-301≤cnt (Cu trs os i) r∧cnt (Cu trs os i) r≤301)∧ -301≤Nr (Cu trs os i)∧Nr (Cu trs os i)≤301:=by
 have a:∀e∈Cu trs os i,e.2=1∨e.2= -1:=fun e b=>by
  obtain⟨o,c,_,rfl⟩:=BE b
  exact (ho o c).t
 have d:=AX trs os i
 refine⟨fun r=>?_,?_⟩
 ·have:=Ws (g:=fun x=>if x=r then 1 else 0) (fun x=>by split <;> omega) _ a
  rw[Mo.Ev]
  omega
 ·have:=Ws (g:=fun _=>1) (fun x=>by omega) _ a
  unfold Nr;omega
theorem eY {v:V}(h:eU v):Rj v:=by
 cases v with
 |num n =>
  have:(n.natAbs:Int)≤9999:=h.2
  show _∧_
  omega
 |txt s=>exact h.1
section
variable {w:World} {O:Ow} {p:Nat} {st:Mo.Ses} {xs:List TabS} {vs:List VS} {tv vv:Value}
def JW (xs:List TabS)(tb:List Tab):List TRec:=List.zipWith (fun X t=>⟨X.blk,X.name,t.ts⟩) xs tb
theorem bF {tb:List Tab}{i:Nat}{X:TabS}{t:Tab}(a:xs[i]? =some X)(b:tb[i]? =some t):(JW xs tb)[i]? =some ⟨X.blk,X.name,t.ts⟩:=by
 unfold JW;rw[List.getElem?_zipWith,a,b]
theorem A2.JX (h:A2 w O p st xs vs tv vv):(JW xs st.tabs).map (fun t=>(t.name,t.tys))=(Cd st.tabs).map fun t=>(t.name,t.tys):=by
 refine mG fun i=>?_
 rw[kX,kX]
 unfold JW Cd
 rw[List.getElem?_zipWith,kX]
 cases a:xs[i]? with
 |none =>
  have:st.tabs[i]? =none:=mD (by rw[←h.len];exact List.getElem?_eq_none_iff.1 a)
  rw[this];rfl
 |some X =>
  obtain⟨t,b,c,_⟩:=h.at a
  rw[b]
  simp[c]
theorem A2.eZ (h:A2 w O p st xs vs tv vv):(JW xs st.tabs).map (fun t=>(t.blk,t.name))=xs.map fun X=>(X.blk,X.name):=by
 refine mG fun i=>?_
 rw[kX,kX]
 unfold JW
 rw[List.getElem?_zipWith]
 cases a:xs[i]? with
 |none=>simp
 |some X =>
  obtain⟨t,b,_⟩:=h.at a
  rw[b];rfl
theorem A2.BG (h:A2 w O p st xs vs tv vv):(JW xs st.tabs).length=st.tabs.length:=by
 unfold JW;rw[List.length_zipWith,h.len];omega
theorem A2.kA (h:A2 w O p st xs vs tv vv):gG w tv (JW xs st.tabs):=by
 refine⟨by rw[h.eZ];exact h.tabs.names,fun r hr=>?_⟩
 obtain⟨i,hi⟩:=lW hr
 have d:i<st.tabs.length:=by rw[←h.BG];exact (kS.1 hi).1
 obtain⟨X,a⟩:∃X,xs[i]? =some X:=⟨_,kT (by rw[h.len];exact d)⟩
 obtain⟨t,b,_⟩:=h.at a
 rw[bF a b] at hi
 cases hi
 obtain⟨_,v,hv,c,_⟩:=h.tab X (kW a)
 refine⟨Aa c,?_,X.tv,(Ae c 3).trans rfl,(h.typ i X t a b).1⟩
 have:=(h.good.each t (kW b)).len
 show t.ts.length≤300
 omega
theorem A2.jN (h:A2 w O p st xs vs tv vv){j:Value}{base:Nat}{d:List Nat}{D:Nat→Bag}(k:d.length=st.tabs.length)(l:Oq w j base d D):Ty w tv j (Ny st.tabs D):=by
 obtain⟨a,cap,e1,y,z,A⟩:=F9 h.towns
 obtain⟨g,B,_,c,n,_,C⟩:=l.at_
 have e:(Ny st.tabs D).length=st.tabs.length:=by unfold Ny;simp
 refine⟨a,cap,g,d.length,by rw[e,←h.len];exact e1,by rw[e,←h.len];exact y,z,by rw[e,←k];exact B,Aa n,fun i pr hi=>?_⟩
 unfold Ny at hi
 rw[lR] at hi
 obtain⟨t,q,rfl⟩:=lJ.1 hi
 have r:=(kS.1 q).1
 obtain⟨X,f⟩:∃X,xs[i]? =some X:=⟨_,kT (by rw[h.len];exact r)⟩
 obtain⟨_,s,_,E⟩:=h.at f
 rw[q] at s
 cases s
 obtain⟨b,o,F,_,G,H⟩:=A i (pV X.blk) (by rw[kX,f];rfl)
 obtain⟨_,v,hv,u,_,_,I⟩:=h.tab X (kW f)
 obtain⟨m,x⟩:∃m,d[i]? =some m:=⟨_,kT (by rw[k];exact r)⟩
 refine⟨b,o,X.blk,hv,m,F,G,Aa u,H,(Ae u 1).trans rfl,by rw[←E];exact I.1,?_,l.bag i m x⟩
 rw[Ae n];exact C i m x
theorem A2.kP (h:A2 w O p st xs vs tv vv){os:List E5}(ho:∀o∈os,YS o)(a:os.length≤301){pr:Bag×Bag}(b:pr∈Ny st.tabs (Cu (Cd st.tabs) os)):jM pr:=by
 obtain⟨i,hi⟩:=lW b
 unfold Ny at hi
 rw[lR] at hi
 obtain⟨t,c,rfl⟩:=lJ.1 hi
 have hf:=h.good.Sm (kW c)
 obtain⟨d,_⟩:=WE (trs:=Cd st.tabs) ho a i
 have e:Nr (Af t.bag)=Nr t.bag:=Mo.Fc _ _;have f:=Mo.KZ hf.nn;have g:=hf.rows
 refine⟨fun r=>?_,fun r=>?_,fun r=>?_,?_,?_⟩
 ·show 0≤cnt (Af t.bag) r
  rw[Mo.As];exact hf.nn r
 ·show cnt (Af t.bag) r≤_
  rw[Mo.As]
  have:=Mo.Pi hf.nn r
  omega
 ·have:=d r
  show _≤cnt (Cu (Cd st.tabs) os i) r∧cnt (Cu (Cd st.tabs) os i) r≤_
  omega
 ·show _≤Nr (Af t.bag)∧Nr (Af t.bag)≤_
  omega
 ·show _≤Nr (Cu (Cd st.tabs) os i)∧Nr (Cu (Cd st.tabs) os i)≤_
  omega
end
def fA (r:List UInt8×Int):Value:=.tuple #[JP r.1,.int .i64 r.2]
theorem WG {w:World}{X:Nat→Prop}{p:Nat}{st:Mo.Ses}(h:Fs w X p st)(s:ByteArray) :
 Calls Tryz.prog 20 #[pV p,.string s] w fun e w'=>e=.returned (fA (G6 st s).1)∧∃G,Fs w' G p (G6 st s).2∧Ov X G w w':=by
 have aa:∀w',Ab No w w'→∃G,Fs w' G p st∧Ov X G w w':=fun w' f=>⟨X,h.stays f (fun _ e=>e.elim) oI,f.any,fun _ e=>.inl e⟩
 obtain⟨O,xs,vs,tv,vv,g,ay⟩:=h
 have H:=Aa g.obj;have I:w.cell? ⟨p,0,none⟩=some tv:=(Ae g.obj 0).trans rfl;unfold G6
 by_cases aj:300<s.size
 ·rw[if_pos aj]
  exact (PV p s w aj).mono fun e w' ⟨B,C⟩=>⟨B,aa w' C⟩
 ·rw[if_neg aj]
  have L:s.size≤300:=by omega
  have bc:RP w.heap.size s 0 (w.alloc (.cells #[.string s,.int .i64 0] 93)):=⟨by omega,heap_alloc_new w _⟩
  have ab:=PI w.heap.size s _ L bc
  have az:∀j,Ab (·=w.heap.size) (w.alloc (.cells #[.string s,.int .i64 0] 93)) j→Ab No w j:=fun j ak=>((Ab.refl No w).alloc _).trans ak (fun _ e=>e) (fun i hi e=>by omega)
  cases al:Ci s with
  |none =>
   simp only
   rw[al] at ab
   refine (PX p s w L (ab.mono fun e j x=>?_)).mono fun e w' ⟨B,C⟩=>⟨B,aa w' C⟩
   obtain⟨⟨_,z⟩|⟨_,_,R,_⟩,f⟩:=x
   ·exact⟨⟨_,z⟩,az j f⟩
   ·cases R
  |some os =>
   simp only
   rw[al] at ab
   obtain⟨ac,bd⟩:=Sp L al
   have am:Calls Tryz.prog 43 #[.pointer (some ⟨w.heap.size,0,none⟩)] (w.alloc (.cells #[.string s,.int .i64 0] 93)) fun e j=>∃ov d,e=.returned (.tuple #[ov,.bool true])∧Ab No w j∧d.map (·.2)=os∧Nw j ov d:=ab.mono fun e j x=>by
    obtain⟨⟨R,_⟩|⟨v,d,R,z,ho⟩,f⟩:=x
    ·cases R
    ·exact⟨v,d,z,az j f,(nM R).symm,ho.read⟩
   have a0:(JW xs st.tabs).length≤1000:=by rw[g.BG];have:=g.good.few;omega
   have an:∀{d:List (Value×E5)},d.map (·.2)=os→d.length≤1000∧∀y∈d,YS y.2:=fun {d} e=>by
    have e1:=congrArg List.length e
    rw[lB] at e1
    exact⟨by omega,fun y S=>ac _ (by rw[←e];exact lD.2 ⟨y,S,rfl⟩)⟩
   have ad:∀(ov:Value) (d:List (Value×E5)) (j:World),Ab No w j→d.map (·.2)=os→Nw j ov d→Calls Tryz.prog 44 #[tv,ov] j fun e u=>e=.returned (.int .i64 (Jm (Cd st.tabs) os))∧Ab No j u:=fun ov d j f e ho=>by
    have:=aQ tv ov (JW xs st.tabs) d j (g.kA.Ah f) ho a0 (an e).1 (fun y S=>by have:=((an e).2 y S).len;omega)
    rw[e,eV g.JX] at this;exact this
   by_cases hf:Jm (Cd st.tabs) os≠0
   ·rw[if_pos hf]
    refine (WC p s tv _ w L (by simpa using hf) (am.mono fun e j x=>?_)).mono fun e w' ⟨B,C⟩=>⟨B,aa w' C⟩
    obtain⟨ov,d,z,f,e,ho⟩:=x
    exact⟨ov,z,f,(f.cell H oI).trans I,ad ov d j f e ho⟩
   ·rw[if_neg hf]
    have a1:Jm (Cd st.tabs) os=0:=by
     by_cases e:Jm (Cd st.tabs) os=0
     ·exact e
     ·exact absurd e hf
    rw[a1] at ad
    obtain⟨be,a2⟩:=QF a1
    have bf:=BF ac a2
    have bg:∀o∈os,G5 o.row∧1≤o.row.length:=fun o E=>by
     have ho:=ac o E
     refine⟨⟨?_,fun v hv=>eY (ho.val v hv)⟩,ho.len.1⟩
     have ae:=lO.1 a2 o E;unfold Gc at ae
     split at ae
     ·next r hr =>
      have e:o.row.map ty=r.tys:=by simpa using ae
      unfold Cd at hr
      rw[kX] at hr
      obtain⟨t,bh,rfl⟩:=lJ.1 hr
      have:=(g.good.each t (kW bh)).len
      have M:=congrArg List.length e
      rw[lB] at M
      have M:o.row.length=t.ts.length:=M;omega
     ·cases ae
    have bi:∀d:List (Value×E5),d.map (·.2)=os→(d.map (·.2)).all (Ep (JW xs st.tabs))=true:=fun d e=>by
     have e1:Ep (JW xs st.tabs)=Ep (Cd st.tabs):=by funext o;unfold Ep;rw[BD g.JX]
     rw[e,e1];exact be
    have a3:∀(ov:Value) (d:List (Value×E5)) (u:World),Ab No w u→d.map (·.2)=os→Nw u ov d→Calls Tryz.prog 45 #[tv,ov] u fun e w3=>∃n l,e=.returned n∧Ab No u w3∧l.length=st.tabs.length∧Oq w3 n u.heap.size l (Cu (Cd st.tabs) os):=fun ov d u f e ho=>by
     refine (EH tv ov (JW xs st.tabs) d u (g.kA.Ah f) ho a0 (an e).1 (fun y S=>bg _ (by rw[←e];exact lD.2 ⟨y,S,rfl⟩)) (bi d e)).mono fun b5 w3 x=>?_
     obtain⟨n,z,l,af,ag,ao⟩:=x
     have bj:Cu (JW xs st.tabs) (d.map (·.2))=Cu (Cd st.tabs) os:=by funext i;rw[e];exact eW g.JX os i
     rw[bj] at ag
     exact⟨n,l,z,ao,by rw[af,g.BG],ag⟩
    have bk:(Ny st.tabs (Cu (Cd st.tabs) os)).length≤100:=by unfold Ny;rw[List.length_mapIdx];have:=g.good.few;omega
    have ap:∀(n:Value) (base:Nat) (l:List Nat) (w3:World),Ab No w w3→l.length=st.tabs.length→Oq w3 n base l (Cu (Cd st.tabs) os)→Calls Tryz.prog 46 #[tv,n] w3 fun e w4=>e=.returned (.int .i64 (Di (Ny st.tabs (Cu (Cd st.tabs) os)) 0))∧Ab No w3 w4:=fun n base l w3 f F J =>
     VJ tv n _ w3 ((g.Bw f).jN F J) bk (fun pr bl=>g.kP ac bd bl)
    by_cases ah:Di (Ny st.tabs (Cu (Cd st.tabs) os)) 0≠0
    ·rw[if_pos ah]
     refine (PY p s tv _ w L (by simpa using ah) (am.mono fun e j x=>?_)).mono fun e w' ⟨B,C⟩=>⟨B,aa w' C⟩
     obtain⟨ov,d,z,f,e,ho⟩:=x
     refine⟨ov,z,f,(f.cell H oI).trans I,(ad ov d j f e ho).mono fun M u aq=>?_⟩
     obtain⟨ar,N⟩:=aq
     have A:=f.seq N
     refine⟨ar,N,(A.cell H oI).trans I,(a3 ov d u A e (ho.Ah N)).mono fun a4 w3 au=>?_⟩
     obtain⟨n,l,av,T,F,J⟩:=au
     exact⟨n,av,T,((A.seq T).cell H oI).trans I,ap n _ l w3 (A.seq T) F J⟩
    ·rw[if_neg ah]
     have a5:Di (Ny st.tabs (Cu (Cd st.tabs) os)) 0=0:=by
      by_cases e:Di (Ny st.tabs (Cu (Cd st.tabs) os)) 0=0
      ·exact e
      ·exact absurd e ah
     rw[a5] at ap
     have hg:=EW g.good bf a5;generalize b6:Cu (Cd st.tabs) os=D at *
     obtain⟨a,cap,e1,M,a4,bm⟩:=F9 g.towns
     have U:xs.length=st.tabs.length:=g.len
     have bn:Qd (st.views.map fun q=>Bl (Mo.Cc (Bp st.tabs D) q++neg (Mo.Cc st.tabs q)))=Qd (vs.map fun V=>Bl (Mo.Cc (Bp st.tabs D) V.q++neg V.told)):=by
      congr 1
      rw[←g.vq,mH]
      refine mS fun V bo=>?_
      exact Rb ((Be.refl _).append (g.told V bo).symm.neg)
     subst e1
     have bp:=PZ p xs.length cap s a (fun i=>match xs[i]? with|some Y=>Y.blk|none=>0) ⟨(Qd (st.views.map fun q=>Bl (Mo.Cc (Bp st.tabs D) q++neg (Mo.Cc st.tabs q)))).toArray⟩ (fun w'=>∃G,Fs w' G p ⟨Bp st.tabs D,st.views⟩∧Ov X G w w') w L (by rw[U];exact g.good.few) (am.mono fun e j x=>?_)
     ·exact bp.mono fun e w' ⟨B,C⟩=>⟨B,C⟩
     obtain⟨ov,d,z,f,e,ho⟩:=x
     refine⟨ov,z,(f.cell H oI).trans I,(ad ov d j f e ho).mono fun M u aq=>?_⟩
     obtain⟨ar,N⟩:=aq
     have A:=f.seq N
     refine⟨ar,(A.cell H oI).trans I,(a3 ov d u A e (ho.Ah N)).mono fun a4 w3 au=>?_⟩
     obtain⟨n,l,av,T,F,J⟩:=au
     have aw:=A.seq T
     obtain⟨a6,a7,bq,c,a8,_,br⟩:=J.at_
     refine⟨a6,l.length,by rw[av,a7,F,U],(aw.cell H oI).trans I,?_⟩
     have ax:=ap n _ l w3 aw F J
     rw[a7] at ax
     rw[F,←U] at ax⊢
     refine ax.mono fun e5 w4 bs=>?_
     obtain⟨bt,ai⟩:=bs
     have Q:=aw.seq ai;have K:=g.Bw Q
     refine⟨bt,(Q.cell H oI).trans I,fun i=>match l[i]? with|some m=>m|none=>0,DJ w4 O p st xs vs (.slice a xs.length cap) D,K.dj,fun i wr W hi=>?_,fun i wr W hi=>?_,fun wr W=>?_⟩
     ·obtain⟨Y,Z⟩:∃Y,xs[i]? =some Y:=⟨_,kT hi⟩
      obtain⟨m,E⟩:∃m,l[i]? =some m:=⟨_,kT (by rw[F,←U];exact hi)⟩
      obtain⟨b,o,ak,bu,a9,bv⟩:=bm i (pV Y.blk) (by rw[kX,Z];rfl)
      obtain⟨_,_,ba,_,_⟩:=W
      refine⟨b,o,ak,?_,?_⟩
      ·rw[ba.cell (kV a9 Q.size) (Ng K (.inl (K.towner b bu))),Q.cell a9 oI,bv,Z];rfl
      ·have bb:=Aa a8
       rw[ba.cell (kV bb ai.size) (Ng K (.inr (.inr (g.o a6 (lH A.size bq))))),ai.cell bb oI,Ae a8,br i m E];simp only[E]
     ·obtain⟨Y,Z⟩:∃Y,xs[i]? =some Y:=⟨_,kT hi⟩
      obtain⟨m,E⟩:∃m,l[i]? =some m:=⟨_,kT (by rw[F,←U];exact hi)⟩
      have bw:Aw w4 m (Af (D i)):=((J.bag i m E).UG (Be.refl _)).kept ai oI
      simp only[Z,E]
      exact K.step hg Z bw (g.o m (lH A.size (J.ge m (kW E)))) W
     ·obtain⟨_,af,ag,ao,bx,bz,b0⟩:=K.kN hg W
      refine (WD af).mono fun b7 w' b1=>?_
      obtain⟨b2,b3⟩:=b1
      obtain⟨⟨P,r1,r2⟩,b4⟩:=K.kO hg af ag ao bx bz b0 b3
      refine⟨by rw[b2,bn],fun k=>P k≠0,⟨P,_,_,_,_,r1,fun _=>Iff.rfl⟩,?_,fun k e=>?_⟩
      ·exact (Q.any.trans b4 (fun _ e=>e) (fun _ _ e=>e)).mono fun k _ e=>(ay k).2 e
      ·rcases r2 k e with e|e
       ·exact .inl ((ay k).2 e)
       ·exact .inr (lH Q.size e)
end Go.Proofs.YtdinjjmcmfjbfaaGreatDoor
