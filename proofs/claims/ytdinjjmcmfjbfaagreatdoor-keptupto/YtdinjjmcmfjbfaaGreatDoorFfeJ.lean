import Derived.Test.YtdinjjmcmfjbfaaGreatDoorFpJ
namespace Go.Proofs.YtdinjjmcmfjbfaaGreatDoor
open Go.RowKit Go.Shelf Go.Deep
open Mo (V Row Bag cnt canon Eqv OkB OkD neg Nr Q leaves bagQ tyQ wf joins TOk wv ty Tab)
def newI (tb:List Tab) (D:Nat→Bag) (n:Nat):List Tab:=tb.mapIdx fun i t=>if i<n then { t with bag:=t.bag++D i } else t
def newT (tb:List Tab) (D:Nat→Bag):List Tab:=tb.mapIdx fun i t=>{ t with bag:=t.bag++D i }
def psM (tb:List Tab) (D:Nat→Bag):List (Bag × Bag):=tb.mapIdx fun i t=>(canon t.bag,D i)
theorem newI_zero (tb:List Tab) (D:Nat→Bag):newI tb D 0=tb:=by
 unfold newI
 refine List.ext_getElem? fun i=> ?_
 rw [List.getElem?_mapIdx]
 cases tb[i]? <;> simp
theorem newI_all (tb:List Tab) (D:Nat→Bag):newI tb D tb.length=newT tb D:=by
 unfold newI newT
 refine List.ext_getElem? fun i=> ?_
 rw [List.getElem?_mapIdx,List.getElem?_mapIdx]
 cases h:tb[i]? with
 | none=>rfl
 | some t =>
   have:=(List.getElem?_eq_some_iff.1 h).1
   simp [this]
theorem newI_nm (tb:List Tab) (D:Nat→Bag) (n:Nat):(newI tb D n).map (fun t=>(t.nm,t.ts))=tb.map fun t=>(t.nm,t.ts):=by
 unfold newI
 refine List.ext_getElem? fun i=> ?_
 rw [List.getElem?_map,List.getElem?_mapIdx,List.getElem?_map]
 cases tb[i]? with
 | none=>rfl
 | some t=>simp only [Option.map_some];split <;> rfl
theorem newI_nms (tb:List Tab) (D:Nat→Bag) (n:Nat):(newI tb D n).map Tab.nm=tb.map Tab.nm:=by
 have:=congrArg (List.map Prod.fst) (newI_nm tb D n)
 simpa [List.map_map,Function.comp_def] using this
theorem newI_at {tb:List Tab} (D:Nat→Bag) (n:Nat) (hn:(tb.map Tab.nm).Nodup) {k:Nat} {t:Tab} (hk:tb[k]? =some t):Mo.tabT (newI tb D n) t.nm=some (if k<n then { t with bag:=t.bag++D k } else t):=by
 have hm:(if k<n then { t with bag:=t.bag++D k } else t)∈newI tb D n:=by
  refine List.mem_of_getElem? (i:=k) ?_
  unfold newI;rw [List.getElem?_mapIdx,hk];rfl
 have:=Mo.tabT_of (tb:=newI tb D n) (by rw [newI_nms];exact hn) hm
 have e:(if k<n then { t with bag:=t.bag++D k } else t:Tab).nm=t.nm:=by split <;> rfl
 rw [e] at this;exact this
theorem newI_ft {tb:List Tab} (D:Nat→Bag) (n:Nat) (hn:(tb.map Tab.nm).Nodup):Mo.ftT (newI tb D n)=Mo.ftT tb:=by
 funext nm
 unfold Mo.ftT
 cases h:Mo.tabT tb nm with
 | none =>
   have:Mo.tabT (newI tb D n) nm=none:=by
    rw [Mo.tabT_none] at h ⊢;intro t ht e
    have:t.nm∈(newI tb D n).map Tab.nm:=List.mem_map.2 ⟨t,ht,rfl⟩
    rw [newI_nms] at this;obtain ⟨t',ht',e'⟩:=List.mem_map.1 this;exact h t' ht' (e'.trans e)
   rw [this]
 | some t =>
   obtain ⟨hm,rfl⟩:=Mo.tabT_some h;obtain ⟨k,hk⟩:=List.getElem?_of_mem hm;rw [newI_at D n hn hk]
   show some (if k<n then { t with bag:=t.bag++D k } else t:Tab).ts=some t.ts
   split <;> rfl
theorem newI_leaf {tb:List Tab} (D:Nat→Bag) (n:Nat) (hn:(tb.map Tab.nm).Nodup) {t:Tab} (hk:tb[n]? =some t) {q:Q} {ts:List Bool} (hq:tyQ (Mo.ftT tb) q=some ts) (j:Nat) :
 Mo.leafG (newI tb D (n+1)) q j=if (leaves q)[j]? =some t.nm then Mo.leafG (newI tb D n) q j++D n else Mo.leafG (newI tb D n) q j:=by
 unfold Mo.leafG
 cases hj:(leaves q)[j]? with
 | none=>simp
 | some nm =>
   obtain ⟨us,hu⟩:=Mo.tyQ_leaf q ts hq nm (List.mem_of_getElem? hj)
   obtain ⟨t',ht',_⟩:=Mo.ftT_some hu;obtain ⟨hm,rfl⟩:=Mo.tabT_some ht';obtain ⟨k,hk'⟩:=List.getElem?_of_mem hm
   simp only
   unfold Mo.bagN;rw [newI_at D (n+1) hn hk',newI_at D n hn hk']
   simp only
   by_cases e:t'.nm=t.nm
   ·have hkn:k=n:=by
     have h1:(tb.map Tab.nm)[k]? =some t.nm:=by rw [List.getElem?_map,hk',←e];rfl
     have h2:(tb.map Tab.nm)[n]? =some t.nm:=by rw [List.getElem?_map,hk];rfl
     exact nodup_at hn h1 h2
    subst hkn
    rw [if_pos (show k<k+1 by omega),if_neg (show ¬k<k by omega),if_pos (show some t'.nm=some t.nm by rw [e])]
   ·have hkn:k≠n:=fun e'=>by
     subst e';rw [hk] at hk'
     cases hk'
     exact e rfl
    have e':¬some t'.nm=some t.nm:=fun x=>e (by simpa using x)
    rw [if_neg e']
    by_cases hl:k<n
    ·rw [if_pos hl,if_pos (show k<n+1 by omega)]
    ·rw [if_neg hl,if_neg (show ¬k<n+1 by omega)]
theorem bearP_zero:∀ (l:List (Bag × Bag)) (n:Int),bearP l n=0→(∀ p∈l,covB p=true)∧n+(l.map fun p=>Nr p.1+Nr p.2).sum≤60
 | [],n,h=>by
   refine ⟨(fun p hp=>by cases hp),?_⟩
   unfold bearP at h;simp only [List.map_nil,List.sum_nil]
   split at h
   ·omega
   ·omega
 | p::l,n,h=>by
   unfold bearP at h
   by_cases hc:covB p=true
   ·rw [if_pos hc] at h
    obtain ⟨a,b⟩:=bearP_zero l _ h
    refine ⟨fun x hx=> ?_,?_⟩
    ·rcases List.mem_cons.1 hx with rfl | hx
     ·exact hc
     ·exact a x hx
    ·rw [List.map_cons,List.sum_cons];omega
   ·rw [if_neg hc] at h;omega
theorem rows_new:∀ (tb:List Tab) (D:Nat→Bag),Mo.rowsT (newT tb D)=((psM tb D).map fun p=>Nr p.1+Nr p.2).sum
 | [],D=>rfl
 | t::tb,D=>by
   unfold Mo.rowsT newT psM;simp only [List.mapIdx_cons,List.map_cons,List.sum_cons]
   have ih:=rows_new tb fun i=>D (i+1)
   unfold Mo.rowsT newT psM at ih;rw [ih]
   have:Nr (t.bag++D 0)=Nr (canon t.bag)+Nr (D 0):=by unfold Nr;rw [Mo.lin_append,Mo.canon_lin]
   rw [this]
structure DOk (tb:List Tab) (D:Nat→Bag):Prop where
 ty:∀ (i:Nat) (t:Tab),tb[i]? =some t→Mo.RT t.ts (D i)
 val:∀ (i:Nat),∀ e∈D i,∀ v∈e.1,VRd v
theorem new_good {tb:List Tab} (h:Mo.TabsGood tb) {D:Nat→Bag} (hD:DOk tb D) (hb:bearP (psM tb D) 0=0):Mo.TabsGood (newT tb D):=by
 obtain ⟨hc,hs⟩:=bearP_zero _ _ hb
 have hr:Mo.rowsT (newT tb D)≤60:=by rw [rows_new];omega
 refine ⟨fun x hx=> ?_,by rw [←newI_all,newI_nms];exact h.nod,hr,by rw [←newI_all];have:=congrArg List.length (newI_nms tb D tb.length);simp only [List.length_map] at this;rw [this];exact h.few⟩
 obtain ⟨i,hi⟩:=List.getElem?_of_mem hx;unfold newT at hi;rw [List.getElem?_mapIdx] at hi;obtain ⟨t,ht,rfl⟩:=Option.map_eq_some_iff.1 hi
 have hg:=h.each t (List.mem_of_getElem? ht)
 have hcv:covB (canon t.bag,D i)=true:=hc _ (by
  refine List.mem_of_getElem? (i:=i) ?_
  unfold psM
  rw [List.getElem?_mapIdx,ht];rfl)
 refine ⟨fun r=> ?_,fun e he=> ?_,fun e he=> ?_,fun e he v hv=> ?_,hg.len,hg.name⟩
 ·show 0≤cnt (t.bag++D i) r
  rw [Mo.cnt_append]
  by_cases h0:cnt (D i) r=0
  ·rw [h0];have:=hg.nn r;omega
  ·obtain ⟨x,hx,rfl⟩:=Mo.Rise.mem_of_cnt h0
   unfold covB at hcv
   have:=List.all_eq_true.1 hcv x hx
   have h2:0≤cnt (canon t.bag) x.1+cnt (D i) x.1:=by simpa using this
   rw [Mo.canon_cnt] at h2;exact h2
 ·rcases List.mem_append.1 he with he | he
  ·exact hg.rt e he
  ·exact hD.ty i t ht e he
 ·rcases List.mem_append.1 he with he | he
  ·exact hg.bt e he
  ·exact fun v hv=>(hD.val i e he v hv).1
 ·rcases List.mem_append.1 he with he | he
  ·exact hg.num e he v hv
  ·exact (hD.val i e he v hv).2
theorem fine_ok {us:List Bool} {B:Bag} (h:Mo.Fine us B) (h6:us.length≤6):OkB us B :=
 ⟨h.nn,by have:=h.rows;omega,by have:=h.wts;omega,fun e he=>by obtain ⟨x,hx,e1⟩:=Mo.canon_mem he;rw [←e1];exact h.rt x hx,fun e he v hv=>by obtain ⟨x,hx,e1⟩:=Mo.canon_mem he;rw [←e1] at hv;exact h.bt x hx v hv,h6⟩
theorem gok_of {tb:List Tab} {V:VS} (hV:tyQ (Mo.ftT tb) V.q=some V.ts) {G:Nat→Bag} (h0:∀ j,(leaves V.q)[j]? =none→G j=[]) (h1:∀ j nm us,(leaves V.q)[j]? =some nm→Mo.ftT tb nm=some us→Mo.Fine us (G j)):GOk (Mo.ftT tb) V G:=by
 refine ⟨(Mo.small_of fun j=> ?_).2,fun j nm us hj hu=> ?_⟩
 ·cases hj:(leaves V.q)[j]? with
  | none=>rw [h0 j hj];exact Mo.nil_fine
  | some nm =>
    obtain ⟨us,hu⟩:=Mo.tyQ_leaf V.q V.ts hV nm (List.mem_of_getElem? hj)
    have:=h1 j nm us hj hu
    exact ⟨this.nn,this.rows,this.wts⟩
 ·rw [Nat.zero_add]
  have:=h1 j nm us hj hu
  exact ⟨this.rt,this.bt⟩
def newX (xs:List TabS) (D:Nat→Bag) (n:Nat):List TabS:=xs.mapIdx fun i X=>if i<n then { X with bag:=X.bag++D i } else X
theorem newX_get (xs:List TabS) (D:Nat→Bag) (n i:Nat):(newX xs D n)[i]? =(xs[i]?).map fun X=>if i<n then { X with bag:=X.bag++D i } else X:=by unfold newX;rw [List.getElem?_mapIdx]
theorem newX_zero (xs:List TabS) (D:Nat→Bag):newX xs D 0=xs:=by
 refine List.ext_getElem? fun i=> ?_
 rw [newX_get]
 cases xs[i]? <;> simp
theorem newX_map {β:Type} (g:TabS→β) (hg:∀ (X:TabS) (b:Bag),g { X with bag:=b }=g X) (xs:List TabS) (D:Nat→Bag) (n:Nat):(newX xs D n).map g=xs.map g:=by
 refine List.ext_getElem? fun i=> ?_
 rw [List.getElem?_map,newX_get,List.getElem?_map]
 cases xs[i]? with
 | none=>rfl
 | some X =>
   simp only [Option.map_some]
   split
   ·rw [hg]
   ·rfl
theorem newX_mem {xs:List TabS} {D:Nat→Bag} {n:Nat} {Y:TabS} (h:Y∈newX xs D n):∃ Z∈xs,Y.blk=Z.blk∧Y.name=Z.name∧Y.tks=Z.tks∧Y.tv=Z.tv:=by
 obtain ⟨i,hi⟩:=List.getElem?_of_mem h;rw [newX_get] at hi;obtain ⟨Z,hZ,rfl⟩:=Option.map_eq_some_iff.1 hi
 refine ⟨Z,List.mem_of_getElem? hZ,?_⟩
 split <;> exact ⟨rfl,rfl,rfl,rfl⟩
theorem newX_fx {ft:List UInt8→Option (List Bool)} {id0:Nat} {xs:List TabS} {vs:List VS} (h:Fx ft id0 xs vs) (D:Nat→Bag) (n:Nat):Fx ft id0 (newX xs D n) vs:=by
 refine ⟨by rw [newX_map (fun X=>X.name) (fun _ _=>rfl)];exact h.nm,by rw [newX_map (fun X=>X.blk) (fun _ _=>rfl)];exact h.bl,h.vb,h.dis,fun V hV a ha=> ?_,⟨h.id.1,fun Y hY=> ?_⟩,h.fix,fun Y hY=> ?_,fun Y hY=> ?_⟩
 ·obtain ⟨a1,a2,a3⟩:=h.va V hV a ha
  refine ⟨a1,a2,fun Y hY=> ?_⟩
  obtain ⟨Z,hZ,e,_⟩:=newX_mem hY;rw [e];exact a3 Z hZ
 ·obtain ⟨Z,hZ,e,_⟩:=newX_mem hY
  rw [e];exact h.id.2 Z hZ
 ·obtain ⟨Z,hZ,_,e2,e3,_⟩:=newX_mem hY
  rw [e3,e2];exact h.tks Z hZ
 ·obtain ⟨Z,hZ,_,_,e3,_⟩:=newX_mem hY
  rw [e3];exact h.few Z hZ
theorem bump_newX {xs:List TabS} (hn:(xs.map (·.name)).Nodup) (D:Nat→Bag) {i:Nat} {X:TabS} (hX:xs[i]? =some X):bump (newX xs D i) X.name (D i)=newX xs D (i+1):=by
 unfold bump
 refine List.ext_getElem? fun k=> ?_
 rw [List.getElem?_map,newX_get,newX_get]
 cases hk:xs[k]? with
 | none=>rfl
 | some Y =>
   simp only [Option.map_some]
   by_cases e:k=i
   ·subst e
    rw [hX] at hk
    cases hk
    rw [if_neg (show ¬k<k by omega),if_pos (show k<k+1 by omega),if_pos rfl]
   ·have hne:Y.name≠X.name:=fun e'=>e (nodup_at hn (show (xs.map (·.name))[k]? =some X.name by rw [List.getElem?_map,hk,←e'];rfl) (by rw [List.getElem?_map,hX];rfl))
    by_cases hl:k<i
    ·rw [if_pos hl,if_pos (show k<i+1 by omega)]
     rw [if_neg (show ¬({ Y with bag:=Y.bag++D k }:TabS).name=X.name from hne)]
    ·rw [if_neg hl,if_neg (show ¬k<i+1 by omega),if_neg hne]
def FCh (O:Ow) (xs:List TabS) (vs:List VS) (k:Nat):Prop:=(∃ X∈xs,O k=X.blk+2)∨∃ V∈vs,VA V (O k)
def DJ (w:World) (O:Ow) (p:Nat) (st:Mo.Ses) (xs:List TabS) (vs:List VS) (tv:Value) (D:Nat→Bag) (i:Nat) (wr:World):Prop :=
 ∃ O':Ow,(∀ k,k<w.heap.size→O' k=O k)∧Kept (FCh O xs vs) w wr∧TabsAt wr O' tv (p+2) (newX xs D i)∧∀ V∈vs,VAt V (Mo.leafG (newI st.tabs D i) V.q) wr O'
section
variable {w:World} {O:Ow} {p:Nat} {st:Mo.Ses} {xs:List TabS} {vs:List VS} {tv vv:Value} {D:Nat→Bag}
theorem SesAt.dj (h:SesAt w O p st xs vs tv vv):DJ w O p st xs vs tv D 0 w:=⟨O,fun _ _=>rfl,Kept.refl _ _,by rw [newX_zero];exact h.tabs,fun V hV=>by rw [newI_zero];exact h.vat V hV⟩
theorem SesAt.gok (h:SesAt w O p st xs vs tv vv) (hg:Mo.TabsGood (newT st.tabs D)) {i:Nat} {X:TabS} (hX:xs[i]? =some X) (i':Nat) {V:VS} (hV:V∈vs):GOk (Mo.ftT st.tabs) V (gv ((prs vs X.name).take i') (D i) (fun V=>Mo.leafG (newI st.tabs D i) V.q) V):=by
 have hin:∀ j,(V.blk,j)∈((prs vs X.name).take i').map keyP→(leaves V.q)[j]? =some X.name:=fun j hj=>by
  obtain ⟨pr,hp,e⟩:=List.mem_map.1 hj;obtain ⟨h1,h2⟩:=mem_prs.1 (List.mem_of_mem_take hp);obtain ⟨e1,e2⟩:=Prod.mk.inj e
  have:pr.1=V:=nodup_inj h.fx.vb h1 hV e1
  rw [←this,←e2];exact h2
 obtain ⟨t,ht,en,eb⟩:=h.at hX
 refine gok_of (h.fx.fix V hV).ty (fun j hj=> ?_) (fun j nm us hj hu=> ?_)
 ·show (if (V.blk,j)∈((prs vs X.name).take i').map keyP then _ else _)=_
  rw [if_neg (fun e=>by have:=hin j e;rw [hj] at this;cases this)]
  show Mo.leafG (newI st.tabs D i) V.q j=[]
  unfold Mo.leafG;rw [hj]
 ·obtain ⟨t',ht',rfl⟩:=Mo.ftT_some hu
  obtain ⟨hm,rfl⟩:=Mo.tabT_some ht';obtain ⟨k,hk⟩:=List.getElem?_of_mem hm
  have hL:Mo.leafG (newI st.tabs D i) V.q j=if k<i then t'.bag++D k else t'.bag:=by
   unfold Mo.leafG Mo.bagN;rw [hj]
   simp only
   rw [newI_at D i h.good.nod hk]
   simp only
   split <;> rfl
  have hfo:Mo.Fine t'.ts t'.bag:=h.good.fine hm
  have hfn:Mo.Fine t'.ts (t'.bag++D k):=by
   have:({ t' with bag:=t'.bag++D k }:Tab)∈newT st.tabs D:=List.mem_of_getElem? (i:=k) (by unfold newT;rw [List.getElem?_mapIdx,hk];rfl)
   exact hg.fine this
  show Mo.Fine t'.ts (if (V.blk,j)∈((prs vs X.name).take i').map keyP then Mo.leafG (newI st.tabs D i) V.q j++D i else Mo.leafG (newI st.tabs D i) V.q j)
  rw [hL]
  by_cases hi:(V.blk,j)∈((prs vs X.name).take i').map keyP
  ·rw [if_pos hi]
   have e:t'.nm=t.nm:=by
    have:=hin j hi
    rw [hj] at this;rw [←en];simpa using this
   have hki:k=i:=nodup_at h.good.nod (show (st.tabs.map Tab.nm)[k]? =some t.nm by rw [List.getElem?_map,hk,←e];rfl) (by rw [List.getElem?_map,ht];rfl)
   subst hki
   rw [if_neg (show ¬k<k by omega)];exact hfn
  ·rw [if_neg hi]
   split
   ·exact hfn
   ·exact hfo
theorem SesAt.step (h:SesAt w O p st xs vs tv vv) (hg:Mo.TabsGood (newT st.tabs D)) {i:Nat} {X:TabS} (hX:xs[i]? =some X) {c:Nat} (hc:BagAt w c (canon (D i))) (hO:O c=0) {wr:World} (hJ:DJ w O p st xs vs tv D i wr) :
 Calls Tryz.prog 47 #[.map (some c),.iface 101 (.pointer (some ⟨X.blk,0,none⟩))] wr fun e w'=>e=.returned (.tuple #[])∧DJ w O p st xs vs tv D (i+1) w':=by
 obtain ⟨O',j1,j2,j3,j4⟩:=hJ;obtain ⟨t,ht,en,eb⟩:=h.at hX
 have hXm:=List.mem_of_getElem? hX
 have htm:=List.mem_of_getElem? ht
 have hXi:X∈newX xs D i:=List.mem_of_getElem? (i:=i) (by rw [newX_get,hX];simp)
 have h6:t.ts.length≤6:=by have:=(h.good.each t htm).len;omega
 have hfn:Mo.Fine t.ts (t.bag++D i):=by
  have:({ t with bag:=t.bag++D i }:Tab)∈newT st.tabs D:=List.mem_of_getElem? (i:=i) (by unfold newT;rw [List.getElem?_mapIdx,ht];rfl)
  exact hg.fine this
 have hnF:¬FCh O xs vs c:=fun e=>by
  rcases e with ⟨Y,_,e⟩ | ⟨V,hV,e⟩
  ·omega
  ·have:=(h.fx.va V hV _ e).1;omega
 refine (table_deliver (Mo.ftT_len h.good) (newX_fx h.fx D i) hXi (ts:=t.ts) (d:=D i) (by rw [eb];exact fine_ok (h.good.fine htm) h6) (by rw [eb];exact fine_ok hfn h6) (G:=fun V=>Mo.leafG (newI st.tabs D i) V.q) (fun i' V hV=>h.gok hg hX i' hV) j3 j4 (hc.kept j2 hnF) (by rw [j1 c hc.lt];exact hO)).mono fun e w' hE=> ?_
 obtain ⟨he,O2,q1,q2,q3,q4⟩:=hE
 refine ⟨he,O2,fun k hk=>(q1 k (Nat.lt_of_lt_of_le hk j2.size)).trans (j1 k hk),?_,?_,fun V hV=> ?_⟩
 ·refine j2.trans q2 (fun _ e=>e) fun k hk e=> ?_
  rw [j1 k hk] at e
  rcases e with e | e
  ·exact .inl ⟨X,hXm,e⟩
  ·exact .inr e
 ·rw [←bump_newX h.fx.nm D hX];exact q3
 ·have:=q4 V hV
  have e:gvN X.name (D i) (fun V=>Mo.leafG (newI st.tabs D i) V.q) V=Mo.leafG (newI st.tabs D (i+1)) V.q:=by
   funext j
   rw [newI_leaf D i h.good.nod ht (h.fx.fix V hV).ty j,←en];rfl
  rw [e] at this;exact this
end
theorem BagV.map {w:World} {v:Value} {l:Bag} (h:BagV w v l) {k:Nat} (e:v=.map (some k)):∃ es c,w.heap[k]? =some (.map es c):=by
 rcases h with ⟨e',_⟩ | ⟨b,e',h⟩
 ·rw [e'] at e;cases e
 ·rw [e'] at e
  have:b=k:=by simpa using e
  rw [←this];exact h.obj
open Classical in
theorem tell_fine (v:Nat) {ts:List Bool} {told B:Bag} (w:World) (O:Ow) (h:ViewAt w O v told B) (ok1:OkB ts told) (ok2:OkB ts B) (hw:BWr ts (B++neg told)) (hE:Env w) (hO:O gT≠v+2) {N:Nat} (hN:N≤w.heap.size) (hvN:v<N) :
 Calls Tryz.prog 40 #[.pointer (some ⟨v,0,none⟩)] w fun e w'=>e=.returned (.string ⟨(bagTxt (B++neg told)).toArray⟩)∧∃ O':Ow,(∀ k,k<N∨k<w.heap.size∧O k≠v+2→O' k=O k)∧(∀ k,N≤k→w.heap.size≤k∨O k=v+2→O' k≠0→O' k=v+2∧∃ es c,w'.heap[k]? =some (.map es c))∧Kept (fun k=>O k=v+2∧¬Is 5 w k) w w'∧ViewAt w' O' v B B:=by
 obtain ⟨h0,hv,uv,h1,h2,h3,h4⟩:=h
 obtain ⟨P,hP⟩:∃ P:Ow,∀ k,P k=if k=v∨hv=.map (some k)∨uv=.map (some k) then v+2 else 0:=⟨_,fun _=>rfl⟩
 have p1:∀ k,P k=v+2→O k=v+2∧¬Is 5 w k:=fun k e=>by
  rw [hP] at e
  split at e
  ·next hh =>
   rcases hh with rfl | hh | hh
   ·exact ⟨h0,fun hi=>absurd (hi.ne h1) (by decide)⟩
   ·obtain ⟨es,c,hm⟩:=h2.1.map hh
    exact ⟨h2.2 k hh,fun ⟨c',z,hi⟩=>by rw [hm] at hi;cases hi⟩
   ·obtain ⟨es,c,hm⟩:=h3.1.map hh
    exact ⟨h3.2 k hh,fun ⟨c',z,hi⟩=>by rw [hm] at hi;cases hi⟩
  ·omega
 have hV:ViewAt w P v told B:=⟨by rw [hP,if_pos (.inl rfl)],hv,uv,h1,⟨h2.1,fun k e=>by rw [hP,if_pos (.inr (.inl e))]⟩,⟨h3.1,fun k e=>by rw [hP,if_pos (.inr (.inr e))]⟩,h4⟩
 refine (tell_any v w P hV ok1 ok2 hw hE (fun e=>hO (p1 _ e).1)).mono fun e w' hT=> ?_
 obtain ⟨he,O1,t1,t2,t3⟩:=hT;refine ⟨he,?_⟩;obtain ⟨g0,hv',uv',g1,g2,g3,g4⟩:=t3;have hvl:=lt_of_heap h1
 obtain ⟨O',hO'⟩:∃ O':Ow,∀ k,O' k=if k<N∨k<w.heap.size∧O k≠v+2 then O k else if hv'=.map (some k)∨uv'=.map (some k) then v+2 else 0:=⟨_,fun _=>rfl⟩
 have a1:∀ k,k<N∨k<w.heap.size∧O k≠v+2→O' k=O k:=fun k hk=>by rw [hO',if_pos hk]
 have a2:∀ k,hv'=.map (some k)∨uv'=.map (some k)→O1 k=v+2→O' k=v+2:=fun k e e1=>by
  by_cases hl:k<N∨k<w.heap.size∧O k≠v+2
  ·rw [a1 k hl]
   have hl':k<w.heap.size:=by omega
   rw [t1 k hl'] at e1;exact (p1 k e1).1
  ·rw [hO',if_neg hl,if_pos e]
 refine ⟨O',a1,fun k hk hk2 e=> ?_,t2.mono fun k _ e=>p1 k e,by rw [a1 v (.inl hvN)];exact h0,hv',uv',g1,⟨g2.1,fun k e=>a2 k (.inl e) (g2.2 k e)⟩,⟨g3.1,fun k e=>a2 k (.inr e) (g3.2 k e)⟩,g4⟩
 rw [hO',if_neg (by omega)] at e ⊢
 by_cases hh:hv'=.map (some k)∨uv'=.map (some k)
 ·rw [if_pos hh]
  refine ⟨rfl,?_⟩
  rcases hh with hh | hh
  ·exact g2.1.map hh
  ·exact g3.1.map hh
 ·rw [if_neg hh] at e;exact absurd rfl e
structure Chd (w:World) (O:Ow) (p:Nat) (vs:List VS) (vv:Value) (B:VS→Bag):Prop where
 cell:w.cell? ⟨p,1,none⟩=some vv
 lt:p<w.heap.size
 vowns:w.ownsRow 0 81 1 vv vs.length (vs.map fun V=>pV V.blk)
 vowner:∀ b,vv.ownBlock=some b→O b=p+2
 view:∀ V∈vs,ViewAt w O V.blk V.told (B V)
 nod:(vs.map VS.blk).Nodup
 pne:∀ V∈vs,V.blk+2≠p+2
 ok1:∀ V∈vs,OkB V.ts V.told
 ok2:∀ V∈vs,OkB V.ts (B V)
 wr:∀ V∈vs,BWr V.ts (B V++neg V.told)
 env:Env w
 glb:O gT=0
 out:∀ k,w.heap.size≤k→O k=0
 few:vs.length≤6
def TJ (w:World) (O:Ow) (vs:List VS) (B:VS→Bag) (i:Nat) (a:World):Prop :=
 ∃ P:Ow,(∀ k,k<w.heap.size→P k=O k)∧(∀ k,w.heap.size≤k→P k≠0→k≠w.heap.size∧(∃ V∈vs,P k=V.blk+2)∧∃ es c,a.heap[k]? =some (.map es c))∧Kept (fun k=>∃ V∈vs,O k=V.blk+2) w a ∧
   ∀ (j:Nat) (V:VS),vs[j]? =some V→ViewAt a P V.blk (if j<i then B V else V.told) (B V)
theorem bagTxt_len {ts:List Bool} {b:Bag} (h:BWr ts b):(bagTxt b).length≤20000000000000:=by
 have h1:=bagIn_len h (canon b).length (Nat.le_refl _);rw [List.take_of_length_le (Nat.le_refl _)] at h1;have h2:=h.len
 show (bagIn 0 (canon b)).length≤_
 omega
section
variable {w:World} {O:Ow} {p:Nat} {vs:List VS} {vv:Value} {B:VS→Bag}
theorem Chd.blk_inj (h:Chd w O p vs vv B) {i j:Nat} {V U:VS} (hi:vs[i]? =some V) (hj:vs[j]? =some U) (e:V.blk=U.blk):i=j :=
 nodup_at h.nod (show (vs.map VS.blk)[i]? =some U.blk by rw [List.getElem?_map,hi,←e];rfl) (by rw [List.getElem?_map,hj];rfl)
theorem ses_told (h:Chd w O p vs vv B):Calls Tryz.prog 48 #[.pointer (some ⟨p,0,none⟩)] w fun e w'=>e=.returned (.string ⟨(bars (vs.map fun V=>bagTxt (B V++neg V.told))).toArray⟩)∧TJ w O vs B vs.length w':=by
 obtain ⟨sa,cap,e1,e2,e3,e4⟩:=own_cells h.vowns;have hc:=h.cell;rw [e1] at hc
 have hall:∀ i,i<vs.length→∃ V,vs[i]? =some V∧V∈vs:=fun i hi=>⟨_,List.getElem?_eq_getElem hi,List.getElem_mem _⟩
 refine (sesTell_any p vs.length cap sa (fun i=>match vs[i]? with | some V=>V.blk | none=>0) (vs.map fun V=>bagTxt (B V++neg V.told)) (TJ w O vs B) w h.lt hc h.few (by simp) (fun t ht=> ?_) ?_ ?_ ?_ ?_).mono fun e w' ⟨a,b,_⟩=>⟨a,b⟩
 ·obtain ⟨V,hV,rfl⟩:=List.mem_map.1 ht
  exact bagTxt_len (h.wr V hV)
 ·exact ⟨O,fun _ _=>rfl,fun k hk e=>absurd (h.out k hk) e,Kept.refl _ _,fun j V hj=>by rw [if_neg (by omega)];exact h.view V (List.mem_of_getElem? hj)⟩
 ·rintro i a c ⟨P,q1,q2,q3,q4⟩ hs hk
  have hsz:=hk.size
  have hbl:∀ k,k<a.heap.size→P k≠0→c.heap[k]? =a.heap[k]? :=fun k hk' e=>hk.block k hk' (fun ⟨x,y⟩=>by
   obtain ⟨z1,z2,es,cl,z3⟩:=q2 k x e
   rcases y with y | ⟨c',z',y⟩
   ·exact z1 y
   ·rw [z3] at y;cases y)
  refine ⟨P,q1,fun k hk' e=> ?_,?_,fun j V hj=>(q4 j V hj).stab fun k hk' e=>⟨hbl k hk' (by rw [e];omega),rfl⟩⟩
  ·obtain ⟨z1,z2,es,cl,z3⟩:=q2 k hk' e
   exact ⟨z1,z2,es,cl,(hbl k (lt_of_heap z3) e).trans z3⟩
  ·exact q3.trans hk (fun _ e=>e) (fun k hk' e=>by have:=e.1;omega)
 ·rintro i wr ⟨P,q1,q2,q3,q4⟩ hi
  obtain ⟨V,hV,hVm⟩:=hall i hi
  obtain ⟨b,o,f1,f2,f3,f4⟩:=e4 i (pV V.blk) (by rw [List.getElem?_map,hV];rfl)
  refine ⟨b,o,f1,?_⟩
  rw [q3.cell f3 (fun ⟨U,hU,e⟩=>h.pne U hU (by rw [←e];exact h.vowner b f2))]
  rw [f4,hV];rfl
 ·rintro i t wr ⟨P,q1,q2,q3,q4⟩ hs ht
  rw [List.getElem?_map] at ht;obtain ⟨V,hV,rfl⟩:=Option.map_eq_some_iff.1 ht
  have hVm:=List.mem_of_getElem? hV
  have hview:=q4 i V hV
  rw [if_neg (by omega)] at hview
  have hgl:gT<w.heap.size:=h.env.lt
  have hEn:Env wr:=h.env.kept q3 (fun ⟨U,_,e⟩=>by rw [h.glb] at e;omega)
  rw [hV]
  have hVl:V.blk<w.heap.size:=by
   obtain ⟨_,_,_,hb,_⟩:=h.view V hVm;exact lt_of_heap hb
  refine (tell_fine V.blk wr P hview (h.ok1 V hVm) (h.ok2 V hVm) (h.wr V hVm) hEn (by rw [q1 _ hgl,h.glb];omega) (N:=w.heap.size) (by omega) hVl).mono fun e w' hT=> ?_
  obtain ⟨he,P',t1,t2,t3,t4⟩:=hT
  refine ⟨he,⟨P',fun k hk=>(t1 k (.inl hk)).trans (q1 k hk),fun k hk e=> ?_,?_,fun j U hj=> ?_⟩,?_⟩
  ·by_cases hl:k<wr.heap.size∧P k≠V.blk+2
   ·rw [t1 k (.inr hl)] at e
    obtain ⟨z1,z2,es,cl,z3⟩:=q2 k hk e
    exact ⟨z1,by rw [t1 k (.inr hl)];exact z2,es,cl,(t3.block k hl.1 (fun e'=>hl.2 e'.1)).trans z3⟩
   ·obtain ⟨z1,es,cl,z2⟩:=t2 k hk (by omega) e
    refine ⟨fun e'=> ?_,⟨V,hVm,z1⟩,es,cl,z2⟩
    subst e'
    have hp0:P w.heap.size≠0:=by
     by_cases hlt:w.heap.size<wr.heap.size
     ·have:P w.heap.size=V.blk+2:=by omega
      omega
     ·omega
    exact (q2 w.heap.size (Nat.le_refl _) hp0).1 rfl
  ·refine q3.trans t3 (fun _ e=>e) fun k hk e=>⟨V,hVm,?_⟩
   rw [←q1 k hk];exact e.1
  ·by_cases hji:j=i
   ·subst hji
    rw [hV] at hj
    cases hj
    rw [if_pos (by omega)];exact t4
   ·have hne:U.blk≠V.blk:=fun e=>hji (h.blk_inj hj hV e)
    have:=q4 j U hj
    have e5:(if j<i+1 then B U else U.told)=if j<i then B U else U.told:=by
     by_cases hl:j<i
     ·rw [if_pos hl,if_pos (by omega)]
     ·rw [if_neg hl,if_neg (by omega)]
    rw [e5]
    exact this.stab fun k hk e=>⟨t3.block k hk (fun e'=>hne (by have:=e'.1;omega)),t1 k (.inr ⟨hk,by rw [e];omega⟩)⟩
  ·refine t3.mono fun k hk e=>⟨fun e'=> ?_,e.2⟩
   subst e'
   have:=q2 w.heap.size (Nat.le_refl _) (by rw [e.1];omega)
   exact this.1 rfl
end
def toldV (B:VS→Bag) (V:VS):VS:={ V with told:=B V }
theorem prs_told (B:VS→Bag) (nm:List UInt8):∀ vs:List VS,(prs (vs.map (toldV B)) nm).map tkP=(prs vs nm).map tkP
 | []=>rfl
 | V::vs=>by
   have ih:=prs_told B nm vs
   have e:∀ (V:VS) (vs:List VS),prs (V::vs) nm=(((List.range (leaves V.q).length).filter fun j=>decide ((leaves V.q)[j]? =some nm)).map fun j=>(V,j))++prs vs nm:=fun V vs=>by unfold prs;simp
   rw [List.map_cons,e,e,List.map_append,List.map_append,ih,List.map_map,List.map_map]
   rfl
section
variable {w W w':World} {O:Ow} {p:Nat} {st:Mo.Ses} {xs:List TabS} {vs:List VS} {tv vv:Value} {D:Nat→Bag}
theorem fch_one {k:Nat} (h:SesAt w O p st xs vs tv vv) (e:O k=p+2∨O k=1∨O k=0):¬FCh O xs vs k:=fun e'=>by
 rcases e' with ⟨X,hX,e'⟩ | ⟨V,hV,e'⟩
 ·have:=h.fx.id.2 X hX;omega
 ·have:=h.fx.va V hV _ e';omega
theorem SesAt.chd (h:SesAt w O p st xs vs tv vv) (hg:Mo.TabsGood (newT st.tabs D)) (hJ:DJ w O p st xs vs tv D xs.length W) :
 ∃ O0:Ow,Chd W O0 p vs vv (fun V=>Mo.bagS (newT st.tabs D) V.q)∧(∀ k,k<w.heap.size→O0 k=O k)∧(∀ k,O0 k<W.heap.size+2)∧Kept (FCh O xs vs) w W∧TabsAt W O0 tv (p+2) (newX xs D xs.length)∧∀ V∈vs,VAt V (Mo.leafG (newT st.tabs D) V.q) W O0:=by
 obtain ⟨O',j1,j2,j3,j4⟩:=hJ;have hs:=j2.size;have hp:=lt_of_heap h.obj;rw [h.len,newI_all] at j4
 obtain ⟨O0,hO0⟩:∃ O0:Ow,∀ k,O0 k=if k<W.heap.size∧O' k<W.heap.size+2 then O' k else 0:=⟨_,fun _=>rfl⟩
 have a1:∀ k,k<W.heap.size→O' k<W.heap.size+2→O0 k=O' k:=fun k x y=>by rw [hO0,if_pos ⟨x,y⟩]
 have a2:∀ k,k<w.heap.size→O0 k=O k:=fun k hk=>by
  have:=h.old k
  rw [←j1 k hk]
  exact a1 k (by omega) (by rw [j1 k hk];omega)
 have hv0:∀ V∈vs,VAt V (Mo.leafG (newT st.tabs D) V.q) W O0:=fun V hV=>(j4 V hV).stab (Nat.le_refl _) fun k hk e=>⟨rfl,a1 k hk (by
  rcases e with e | e
  ·have:=h.vlt V hV _ e;omega
  ·omega)⟩
 have ht0:TabsAt W O0 tv (p+2) (newX xs D xs.length):=j3.stab (Nat.le_refl _) fun k hk e=>⟨rfl,a1 k hk (by
  rcases e with e | ⟨Y,hY,e⟩
  ·omega
  ·obtain ⟨Z,hZ,e1,_⟩:=newX_mem hY
   have:=h.blk_lt hZ
   omega)⟩
 have hft:Mo.ftT (newT st.tabs D)=Mo.ftT st.tabs:=by rw [←newI_all];exact newI_ft D _ h.good.nod
 have hok:∀ V∈vs,OkB V.ts (Mo.bagS (newT st.tabs D) V.q)∧Nr (Mo.bagS (newT st.tabs D) V.q)≤50000000000:=fun V hV=>by
  have hf:=h.fx.fix V hV;have hs:=Mo.leafG_small hg V.q
  exact ⟨Mo.okQ (Mo.ftT_len hg) hs.2 V.q hf.wf hf.len hf.jn 0 (Mo.leafG_ty hg V.q) (by rw [hft];exact hf.ty),Mo.bound60 V.q (h.vlen V hV) hf.jn hs.1 0⟩
 refine ⟨O0,⟨?_,by omega,?_,?_,fun V hV=>(hv0 V hV).1,h.fx.vb,fun V hV=>(h.fx.va V hV _ (.inl rfl)).2.1,fun V hV=>(h.fx.fix V hV).told,fun V hV=>(hok V hV).1,fun V hV=> ?_,?_,?_,?_,h.few⟩,a2,?_,j2,ht0,hv0⟩
 ·rw [j2.cell hp (fch_one h (.inl h.own))]
  exact (cell_of h.obj 1).trans rfl
 ·refine owns_blk h.vowns fun k e=> ?_
  obtain ⟨c,z,hc⟩:=owns_mem h.vowns e;exact j2.block k (lt_of_heap hc) (fch_one h (.inl (h.vowner k e)))
 ·intro k e
  obtain ⟨c,z,hc⟩:=owns_mem h.vowns e;rw [a2 k (lt_of_heap hc)];exact h.vowner k e
 ·refine bwr_of (hok V hV).1 (h.fx.fix V hV).told (hok V hV).2 ?_
  rw [Mo.Nr_eqv (h.told V hV)];exact (h.okS hV).2
 ·exact h.env.kept j2 (fch_one h (.inr (.inr h.glb)))
 ·rw [a2 _ (show gT<_ from h.env.lt)];exact h.glb
 ·intro k hk
  rw [hO0,if_neg (fun e=>by have:=e.1;omega)]
 ·intro k
  rw [hO0]
  split
  ·next e=>exact e.2
  ·exact Nat.succ_pos _
theorem SesAt.fed (h:SesAt w O p st xs vs tv vv) (hg:Mo.TabsGood (newT st.tabs D)) {O0:Ow} (hc:Chd W O0 p vs vv (fun V=>Mo.bagS (newT st.tabs D) V.q)) (a2:∀ k,k<w.heap.size→O0 k=O k) (aold:∀ k,O0 k<W.heap.size+2) (j2:Kept (FCh O xs vs) w W) (j3:TabsAt W O0 tv (p+2) (newX xs D xs.length)) (j4:∀ V∈vs,VAt V (Mo.leafG (newT st.tabs D) V.q) W O0)
 (hT:TJ W O0 vs (fun V=>Mo.bagS (newT st.tabs D) V.q) vs.length w') :
 (∃ P,SesAt w' P p ⟨newT st.tabs D,st.views⟩ (newX xs D xs.length) (vs.map (toldV fun V=>Mo.bagS (newT st.tabs D) V.q)) tv vv∧∀ k,P k≠0→O k≠0∨w.heap.size≤k)∧Kept (fun k=>O k≠0) w w':=by
 obtain ⟨P,t1,t2,t3,t4⟩:=hT;have hs:=j2.size;have hs':=t3.size;have hp:=lt_of_heap h.obj
 have hft:Mo.ftT (newT st.tabs D)=Mo.ftT st.tabs:=by rw [←newI_all];exact newI_ft D _ h.good.nod
 have aP:∀ k,k<w.heap.size→P k=O k:=fun k hk=>(t1 k (by omega)).trans (a2 k hk)
 have mW:∀ k,k<W.heap.size→(∀ V∈vs,O0 k≠V.blk+2)→w'.heap[k]? =W.heap[k]? :=fun k hk e=>t3.block k hk (fun ⟨V,hV,e'⟩=>e V hV e')
 have mw:∀ k,k<w.heap.size→(O k=p+2∨O k=1∨O k=0)→w'.heap[k]? =w.heap[k]? :=fun k hk e=>by
  rw [mW k (by omega) (fun V hV e'=>by rw [a2 k hk] at e';have:=h.fx.va V hV _ (.inl rfl);omega)]
  exact j2.block k hk (fch_one h e)
 have hKept:Kept (fun k=>O k≠0) w w':=by
  refine (j2.mono (T:=fun k=>O k≠0) fun k _ e=> ?_).trans t3 (fun _ e=>e) (fun k hk ⟨V,hV,e⟩=> ?_)
  ·intro e0
   exact fch_one h (.inr (.inr e0)) e
  ·show O k≠0
   rw [←a2 k hk,e];omega
 have hVm:∀ {U:VS},U∈vs.map (toldV fun V=>Mo.bagS (newT st.tabs D) V.q)→∃ V∈vs,U=toldV (fun V=>Mo.bagS (newT st.tabs D) V.q) V:=fun hU=>by
  obtain ⟨V,hV,e⟩:=List.mem_map.1 hU;exact ⟨V,hV,e.symm⟩
 refine ⟨⟨P,?_,fun k hk=> ?_⟩,hKept⟩
 case refine_2 =>
  rcases Nat.lt_or_ge k w.heap.size with hl | hl
  ·exact .inl (by rw [←aP k hl];exact hk)
  ·exact .inr hl
 refine ⟨(mw p hp (.inl h.own)).trans h.obj,by rw [aP p hp];exact h.own,?_,?_,?_,?_,?_,?_,?_,?_,?_,?_,?_,?_,?_,hg,by rw [List.length_map];exact h.few,?_,?_,?_,?_⟩
 ·have hlen:=congrArg List.length (newX_map (fun X=>X.blk) (fun _ _=>rfl) xs D xs.length)
  rw [List.length_map,List.length_map] at hlen
  rw [hlen,newX_map (fun X=>pV X.blk) (fun _ _=>rfl)]
  refine owns_blk h.towns fun k e=> ?_
  obtain ⟨c,z,hc'⟩:=owns_mem h.towns e;exact mw k (lt_of_heap hc') (.inl (h.towner k e))
 ·intro k e
  obtain ⟨c,z,hc'⟩:=owns_mem h.towns e;rw [aP k (lt_of_heap hc')];exact h.towner k e
 ·rw [List.length_map,List.map_map]
  refine owns_blk h.vowns fun k e=> ?_
  obtain ⟨c,z,hc'⟩:=owns_mem h.vowns e;exact mw k (lt_of_heap hc') (.inl (h.vowner k e))
 ·intro k e
  obtain ⟨c,z,hc'⟩:=owns_mem h.vowns e;rw [aP k (lt_of_heap hc')];exact h.vowner k e
 ·intro Y hY
  obtain ⟨Z,hZ,e1,_⟩:=newX_mem hY
  exact (j3.tab Y hY).stab fun k hk e=>⟨mW k hk (fun V hV e'=>by
   have:=(h.fx.va V hV _ (.inl rfl)).2.2 Z hZ
   rw [e,e1] at e'
   omega),t1 k hk⟩
 ·rw [hft]
  have hx:=newX_fx h.fx D xs.length
  refine ⟨hx.nm,hx.bl,by rw [List.map_map];exact hx.vb,?_,?_,hx.id,?_,?_,hx.few⟩
  ·intro U hU U' hU' hne a ha
   obtain ⟨V,hV,rfl⟩:=hVm hU;obtain ⟨V',hV',rfl⟩:=hVm hU';exact hx.dis V hV V' hV' hne a ha
  ·intro U hU a ha
   obtain ⟨V,hV,rfl⟩:=hVm hU;exact hx.va V hV a ha
  ·intro U hU
   obtain ⟨V,hV,rfl⟩:=hVm hU
   have:=hx.fix V hV
   exact ⟨this.ty,this.wf,this.len,this.jn,this.shape,this.nod,this.own,hc.ok2 V hV⟩
  ·intro Y hY
   rw [prs_told];exact hx.tks Y hY
 ·refine List.ext_getElem? fun i=> ?_
  rw [List.getElem?_map,newX_get]
  show _=((newT st.tabs D).map _)[i]?
  unfold newT;rw [List.getElem?_map,List.getElem?_mapIdx]
  cases hX:xs[i]? with
  | none =>
    have:st.tabs[i]? =none:=List.getElem?_eq_none (by rw [←h.len];exact List.getElem?_eq_none_iff.1 hX)
    rw [this];rfl
  | some X =>
    obtain ⟨t,ht,en,eb⟩:=h.at hX
    have:=(List.getElem?_eq_some_iff.1 hX).1
    rw [ht];simp only [Option.map_some];rw [if_pos this,en,eb]
 ·intro i Y u hY hu
  rw [newX_get] at hY;obtain ⟨Z,hZ,rfl⟩:=Option.map_eq_some_iff.1 hY;obtain ⟨t,ht,_⟩:=h.at hZ
  have hu':u={ t with bag:=t.bag++D i }:=by
   have hu:(newT st.tabs D)[i]? =some u:=hu;unfold newT at hu;rw [List.getElem?_mapIdx,ht] at hu
   simpa using hu.symm
  have etv:(if i<xs.length then { Z with bag:=Z.bag++D i } else Z:TabS).tv=Z.tv:=by split <;> rfl
  rw [etv,hu'];obtain ⟨q1,q2⟩:=h.typ i Z t hZ ht
  refine ⟨q1.stays fun k e hi=>mw k hi.lt (.inr (.inl (q2 k e))),fun k e=> ?_⟩
  have hk':k<w.heap.size:=by
   obtain ⟨b',o',cap',e',hb',_⟩:=q1;rw [e'] at e
   have:b'=k:=by simpa [Value.ownBlock] using e
   rw [←this];exact hb'.lt
  rw [aP k hk'];exact q2 k e
 ·rw [List.map_map];exact h.vq
 ·intro U hU
  obtain ⟨V,hV,rfl⟩:=hVm hU;obtain ⟨j,hj⟩:=List.getElem?_of_mem hV;have hv:=t4 j V hj;rw [if_pos (List.getElem?_eq_some_iff.1 hj).1] at hv;refine ⟨hv,?_⟩
  refine Nodes.stab hs' V.q V.nd _ 0 (fun k hk e=>⟨mW k hk (fun V' hV' e'=> ?_),t1 k hk⟩) (j4 V hV).2
  rcases e with ⟨b,hb,e⟩ | e
  ·rw [e] at e'
   by_cases hbl:V'.blk=V.blk
   ·exact (h.fx.fix V hV).own b hb (by omega)
   ·exact h.fx.dis V hV V' hV' hbl (b+2) (.inr ⟨b,hb,rfl⟩) (.inl e')
  ·omega
 ·intro U hU
  obtain ⟨V,hV,rfl⟩:=hVm hU;exact Eqv.refl _
 ·intro U hU
  obtain ⟨V,hV,rfl⟩:=hVm hU;exact h.vlen V hV
 ·intro U hU a ha
  obtain ⟨V,hV,rfl⟩:=hVm hU
  have:=h.vlt V hV a ha
  omega
 ·intro k
  by_cases e:P k=0
  ·rw [e];exact Nat.succ_pos _
  ·rcases Nat.lt_or_ge k W.heap.size with hl | hl
   ·rw [t1 k hl];have:=aold k;omega
   ·obtain ⟨_,⟨V,hV,e1⟩,_⟩:=t2 k hl e
    have:=h.vlt V hV _ (.inl rfl)
    omega
 ·intro k hk
  by_cases e:P k=0
  ·exact e
  ·obtain ⟨_,_,es,cl,e1⟩:=t2 k (by omega) e
   have:=lt_of_heap e1
   omega
 ·rw [aP _ (show gT<_ from h.env.lt)];exact h.glb
 ·exact h.env.kept hKept (fun e=>e h.glb)
end
def feedM (st:Mo.Ses) (s:ByteArray):(List UInt8 × Int) × Mo.Ses:=if 300<s.size then (([],1),st) else match batchP s with
 | none=>(([],2),st)
 | some os=>if fitP (tr0 st.tabs) os≠0 then (([],fitP (tr0 st.tabs) os),st) else if bearP (psM st.tabs (chg (tr0 st.tabs) os)) 0≠0 then (([],bearP (psM st.tabs (chg (tr0 st.tabs) os)) 0),st)
   else ((bars (st.views.map fun q=>bagTxt (Mo.bagS (newT st.tabs (chg (tr0 st.tabs) os)) q++neg (Mo.bagS st.tabs q))),0),⟨newT st.tabs (chg (tr0 st.tabs) os),st.views⟩)
theorem fitP_zero {trs:List TRec} {os:List Ord} (h:fitP trs os=0):os.all (there trs)=true∧os.all (tfits trs)=true:=by
 unfold fitP at h
 by_cases h1:os.all (there trs)=false
 ·rw [if_pos h1] at h;omega
 ·rw [if_neg h1] at h
  by_cases h2:os.all (tfits trs)=false
  ·rw [if_pos h2] at h;omega
  ·exact ⟨by simpa using h1,by simpa using h2⟩
theorem chg_mem {trs:List TRec} {os:List Ord} {i:Nat} {e:Row × Int} (h:e∈chg trs os i):∃ o∈os,tix trs o.name=(i:Int)∧e=(o.row,o.t):=by
 unfold chg at h;rw [List.mem_reverse] at h;obtain ⟨o,ho,rfl⟩:=List.mem_map.1 h;obtain ⟨h1,h2⟩:=List.mem_filter.1 ho
 exact ⟨o,h1,by simpa using h2,rfl⟩
theorem chg_dok {tb:List Tab} {os:List Ord} (ho:∀ o∈os,ORd o) (h:os.all (tfits (tr0 tb))=true):DOk tb (chg (tr0 tb) os):=by
 refine ⟨fun i t ht e he=> ?_,fun i e he=> ?_⟩
 ·obtain ⟨o,hm,hx,rfl⟩:=chg_mem he
  have:=List.all_eq_true.1 h o hm
  unfold tfits at this;rw [hx] at this
  have e1:(tr0 tb)[((i:Int)).toNat]? =some ⟨0,t.nm,t.ts⟩:=by unfold tr0;rw [Int.toNat_natCast,List.getElem?_map,ht];rfl
  rw [e1] at this
  simpa using this
 ·obtain ⟨o,hm,_,rfl⟩:=chg_mem he
  exact (ho o hm).val
theorem unit_lin {g:Row→Int} (hg:∀ r,0≤g r∧g r≤1):∀ (l:Bag),(∀ e∈l,e.2=1∨e.2= -1)→ -(l.length:Int)≤Mo.lin l g∧Mo.lin l g≤l.length
 | [],_=>by simp [Mo.lin]
 | e::l,h=>by
   have ih:=unit_lin hg l fun x hx=>h x (by simp [hx])
   have h1:=hg e.1;rw [List.length_cons]
   show -((l.length+1:Nat):Int)≤e.2*g e.1+Mo.lin l g∧e.2*g e.1+Mo.lin l g≤((l.length+1:Nat):Int)
   rcases h e (by simp) with h2 | h2 <;> rw [h2] <;> omega
theorem chg_bd {trs:List TRec} {os:List Ord} (ho:∀ o∈os,ORd o) (hl:os.length≤301) (i:Nat):(∀ r,-301≤cnt (chg trs os i) r∧cnt (chg trs os i) r≤301)∧ -301≤Nr (chg trs os i)∧Nr (chg trs os i)≤301:=by
 have hu:∀ e∈chg trs os i,e.2=1∨e.2= -1:=fun e he=>by
  obtain ⟨o,hm,_,rfl⟩:=chg_mem he;exact (ho o hm).t
 have hl':=chg_len trs os i
 refine ⟨fun r=> ?_,?_⟩
 ·have:=unit_lin (g:=fun x=>if x=r then 1 else 0) (fun x=>by split <;> omega) _ hu
  rw [Mo.cnt_eq_lin];omega
 ·have:=unit_lin (g:=fun _=>1) (fun x=>by omega) _ hu
  unfold Nr;omega
theorem vrd_ok {v:V} (h:VRd v):VOk v:=by
 cases v with
 | num n =>
   have:(n.natAbs:Int)≤9999:=h.2
   show _∧_
   omega
 | txt s=>exact h.1
section
variable {w:World} {O:Ow} {p:Nat} {st:Mo.Ses} {xs:List TabS} {vs:List VS} {tv vv:Value}
def trX (xs:List TabS) (tb:List Tab):List TRec:=List.zipWith (fun X t=>⟨X.blk,X.name,t.ts⟩) xs tb
theorem trX_get {tb:List Tab} {i:Nat} {X:TabS} {t:Tab} (h1:xs[i]? =some X) (h2:tb[i]? =some t):(trX xs tb)[i]? =some ⟨X.blk,X.name,t.ts⟩:=by
 unfold trX;rw [List.getElem?_zipWith,h1,h2]
theorem SesAt.trs_tr (h:SesAt w O p st xs vs tv vv):(trX xs st.tabs).map (fun t=>(t.name,t.tys))=(tr0 st.tabs).map fun t=>(t.name,t.tys):=by
 refine List.ext_getElem? fun i=> ?_
 rw [List.getElem?_map,List.getElem?_map];unfold trX tr0;rw [List.getElem?_zipWith,List.getElem?_map]
 cases hX:xs[i]? with
 | none =>
   have:st.tabs[i]? =none:=List.getElem?_eq_none (by rw [←h.len];exact List.getElem?_eq_none_iff.1 hX)
   rw [this];rfl
 | some X =>
   obtain ⟨t,ht,en,_⟩:=h.at hX;rw [ht]
   simp [en]
theorem SesAt.trs_nm (h:SesAt w O p st xs vs tv vv):(trX xs st.tabs).map (fun t=>(t.blk,t.name))=xs.map fun X=>(X.blk,X.name):=by
 refine List.ext_getElem? fun i=> ?_
 rw [List.getElem?_map,List.getElem?_map];unfold trX;rw [List.getElem?_zipWith]
 cases hX:xs[i]? with
 | none=>simp
 | some X =>
   obtain ⟨t,ht,_⟩:=h.at hX;rw [ht];rfl
theorem SesAt.trs_len (h:SesAt w O p st xs vs tv vv):(trX xs st.tabs).length=st.tabs.length:=by
 unfold trX;rw [List.length_zipWith,h.len];omega
theorem SesAt.trs (h:SesAt w O p st xs vs tv vv):TRs w tv (trX xs st.tabs):=by
 refine ⟨by rw [h.trs_nm];exact h.tabs.names,fun r hr=> ?_⟩
 obtain ⟨i,hi⟩:=List.getElem?_of_mem hr
 have hil:i<st.tabs.length:=by rw [←h.trs_len];exact (List.getElem?_eq_some_iff.1 hi).1
 obtain ⟨X,hX⟩:∃ X,xs[i]? =some X:=⟨_,List.getElem?_eq_getElem (by rw [h.len];exact hil)⟩
 obtain ⟨t,ht,_⟩:=h.at hX;rw [trX_get hX ht] at hi
 cases hi
 obtain ⟨_,v,hv,g1,_⟩:=h.tab X (List.mem_of_getElem? hX)
 refine ⟨lt_of_heap g1,?_,X.tv,(cell_of g1 3).trans rfl,(h.typ i X t hX ht).1⟩
 have:=(h.good.each t (List.mem_of_getElem? ht)).len
 show t.ts.length≤300
 omega
theorem SesAt.bear (h:SesAt w O p st xs vs tv vv) {rv:Value} {base:Nat} {ms:List Nat} {D:Nat→Bag} (hl:ms.length=st.tabs.length) (hb:BagsAt w rv base ms D):BearAt w tv rv (psM st.tabs D):=by
 obtain ⟨a,cap,e1,e2,e3,e4⟩:=own_cells h.towns;obtain ⟨g,f1,_,c,f2,f3,f4⟩:=hb.at_
 have hlen:(psM st.tabs D).length=st.tabs.length:=by unfold psM;simp
 refine ⟨a,cap,g,ms.length,by rw [hlen,←h.len];exact e1,by rw [hlen,←h.len];exact e2,e3,by rw [hlen,←hl];exact f1,lt_of_heap f2,fun i pr hi=> ?_⟩
 unfold psM at hi;rw [List.getElem?_mapIdx] at hi;obtain ⟨t,ht,rfl⟩:=Option.map_eq_some_iff.1 hi;have hil:=(List.getElem?_eq_some_iff.1 ht).1
 obtain ⟨X,hX⟩:∃ X,xs[i]? =some X:=⟨_,List.getElem?_eq_getElem (by rw [h.len];exact hil)⟩
 obtain ⟨t',ht',en,eb⟩:=h.at hX;rw [ht] at ht'
 cases ht'
 obtain ⟨b,o,k1,k2,k3,k4⟩:=e4 i (pV X.blk) (by rw [List.getElem?_map,hX];rfl)
 obtain ⟨_,v,hv,g1,_,_,g4⟩:=h.tab X (List.mem_of_getElem? hX)
 obtain ⟨m,hm⟩:∃ m,ms[i]? =some m:=⟨_,List.getElem?_eq_getElem (by rw [hl];exact hil)⟩
 refine ⟨b,o,X.blk,hv,m,k1,k3,lt_of_heap g1,k4,(cell_of g1 1).trans rfl,by rw [←eb];exact g4.1,?_,hb.bag i m hm⟩
 rw [cell_of f2];exact f4 i m hm
theorem SesAt.bdp (h:SesAt w O p st xs vs tv vv) {os:List Ord} (ho:∀ o∈os,ORd o) (hl:os.length≤301) {pr:Bag × Bag} (hp:pr∈psM st.tabs (chg (tr0 st.tabs) os)):BdP pr:=by
 obtain ⟨i,hi⟩:=List.getElem?_of_mem hp;unfold psM at hi;rw [List.getElem?_mapIdx] at hi;obtain ⟨t,ht,rfl⟩:=Option.map_eq_some_iff.1 hi
 have hf:=h.good.fine (List.mem_of_getElem? ht)
 obtain ⟨b1,b2⟩:=chg_bd (trs:=tr0 st.tabs) ho hl i;have hN:Nr (canon t.bag)=Nr t.bag:=Mo.canon_lin _ _;have h0:=Mo.Nr_nn hf.nn;have h1:=hf.rows
 refine ⟨fun r=> ?_,fun r=> ?_,fun r=> ?_,?_,?_⟩
 ·show 0≤cnt (canon t.bag) r
  rw [Mo.canon_cnt];exact hf.nn r
 ·show cnt (canon t.bag) r≤_
  rw [Mo.canon_cnt]
  have:=Mo.cnt_le_Nr hf.nn r
  omega
 ·have:=b1 r
  show _≤cnt (chg (tr0 st.tabs) os i) r∧cnt (chg (tr0 st.tabs) os i) r≤_
  omega
 ·show _≤Nr (canon t.bag)∧Nr (canon t.bag)≤_
  omega
 ·show _≤Nr (chg (tr0 st.tabs) os i)∧Nr (chg (tr0 st.tabs) os i)≤_
  omega
end
def two2 (r:List UInt8 × Int):Value:=.tuple #[strL r.1,.int .i64 r.2]
theorem feed_any {w:World} {X:Nat→Prop} {p:Nat} {st:Mo.Ses} (h:Sess w X p st) (s:ByteArray) :
 Calls Tryz.prog 20 #[pV p,.string s] w fun e w'=>e=.returned (two2 (feedM st s).1)∧∃ X',Sess w' X' p (feedM st s).2∧SKept X X' w w':=by
 have hst:∀ w',Kept No w w'→∃ X',Sess w' X' p st∧SKept X X' w w':=fun w' hk=>⟨X,h.stays hk (fun _ e=>e.elim) (fun e=>e),hk.any,fun _ e=>.inl e⟩
 obtain ⟨O,xs,vs,tv,vv,h1,h2⟩:=h;have hpl:=lt_of_heap h1.obj;have c0:w.cell? ⟨p,0,none⟩=some tv:=(cell_of h1.obj 0).trans rfl;unfold feedM
 by_cases hs:300<s.size
 ·rw [if_pos hs]
  exact (feed_long p s w hs).mono fun e w' ⟨g1,g2⟩=>⟨g1,hst w' g2⟩
 ·rw [if_neg hs]
  have hs':s.size≤300:=by omega
  have hRP:RP w.heap.size s 0 (w.alloc (.cells #[.string s,.int .i64 0] 93)):=⟨by omega,heap_alloc_new w _⟩
  have hBt:=batch_any w.heap.size s _ hs' hRP
  have hk0:∀ w1,Kept (·=w.heap.size) (w.alloc (.cells #[.string s,.int .i64 0] 93)) w1→Kept No w w1:=fun w1 k1=>((Kept.refl No w).alloc _).trans k1 (fun _ e=>e) (fun i hi e=>by omega)
  cases hb:batchP s with
  | none =>
    simp only
    rw [hb] at hBt
    refine (feed_form p s w hs' (hBt.mono fun e w1 hE=> ?_)).mono fun e w' ⟨g1,g2⟩=>⟨g1,hst w' g2⟩
    obtain ⟨⟨_,he⟩ | ⟨_,_,hz,_⟩,hk⟩:=hE
    ·exact ⟨⟨_,he⟩,hk0 w1 hk⟩
    ·cases hz
  | some os =>
    simp only
    rw [hb] at hBt;obtain ⟨hos,hol⟩:=batchP_facts hs' hb
    have hB2:Calls Tryz.prog 43 #[.pointer (some ⟨w.heap.size,0,none⟩)] (w.alloc (.cells #[.string s,.int .i64 0] 93)) fun e w1=>∃ ov ys,e=.returned (.tuple #[ov,.bool true])∧Kept No w w1∧ys.map (·.2)=os∧OrdsR w1 ov ys:=hBt.mono fun e w1 hE=>by
     obtain ⟨⟨hz,_⟩ | ⟨v,ys,hz,he,ho⟩,hk⟩:=hE
     ·cases hz
     ·exact ⟨v,ys,he,hk0 w1 hk,(Option.some.inj hz).symm,ho.read⟩
    have hl4:(trX xs st.tabs).length≤1000:=by rw [h1.trs_len];have:=h1.good.few;omega
    have hyl:∀ {ys:List (Value × Ord)},ys.map (·.2)=os→ys.length≤1000∧∀ y∈ys,ORd y.2:=fun {ys} e=>by
     have e1:=congrArg List.length e;rw [List.length_map] at e1
     exact ⟨by omega,fun y hy=>hos _ (by rw [←e];exact List.mem_map.2 ⟨y,hy,rfl⟩)⟩
    have hFit:∀ (ov:Value) (ys:List (Value × Ord)) (w1:World),Kept No w w1→ys.map (·.2)=os→OrdsR w1 ov ys→Calls Tryz.prog 44 #[tv,ov] w1 fun e w2=>e=.returned (.int .i64 (fitP (tr0 st.tabs) os))∧Kept No w1 w2:=fun ov ys w1 hk e ho=>by
     have:=fit_any tv ov (trX xs st.tabs) ys w1 (h1.trs.keptNo hk) ho hl4 (hyl e).1 (fun y hy=>by have:=((hyl e).2 y hy).len;omega)
     rw [e,tr_fit h1.trs_tr] at this;exact this
    by_cases hf:fitP (tr0 st.tabs) os≠0
    ·rw [if_pos hf]
     refine (feed_fit p s tv _ w hs' (by simpa using hf) (hB2.mono fun e w1 hE=> ?_)).mono fun e w' ⟨g1,g2⟩=>⟨g1,hst w' g2⟩
     obtain ⟨ov,ys,he,hk,e,ho⟩:=hE
     exact ⟨ov,he,hk,(hk.cell hpl (fun e=>e)).trans c0,hFit ov ys w1 hk e ho⟩
    ·rw [if_neg hf]
     have hf0:fitP (tr0 st.tabs) os=0:=by
      by_cases e:fitP (tr0 st.tabs) os=0
      ·exact e
      ·exact absurd e hf
     rw [hf0] at hFit;obtain ⟨hth,hfi⟩:=fitP_zero hf0;have hdok:=chg_dok hos hfi
     have hrow:∀ o∈os,ROk o.row∧1≤o.row.length:=fun o hm=>by
      have ho:=hos o hm
      refine ⟨⟨?_,fun v hv=>vrd_ok (ho.val v hv)⟩,ho.len.1⟩
      have h6:=List.all_eq_true.1 hfi o hm;unfold tfits at h6
      split at h6
      ·next r hr =>
       have e:o.row.map ty=r.tys:=by simpa using h6
       unfold tr0 at hr;rw [List.getElem?_map] at hr;obtain ⟨t,ht,rfl⟩:=Option.map_eq_some_iff.1 hr
       have:=(h1.good.each t (List.mem_of_getElem? ht)).len
       have e2:=congrArg List.length e;rw [List.length_map] at e2;have e2:o.row.length=t.ts.length:=e2;omega
      ·cases h6
     have hth':∀ ys:List (Value × Ord),ys.map (·.2)=os→(ys.map (·.2)).all (there (trX xs st.tabs))=true:=fun ys e=>by
      have e1:there (trX xs st.tabs)=there (tr0 st.tabs):=by funext o;unfold there;rw [tr_tix h1.trs_tr]
      rw [e,e1];exact hth
     have hCh:∀ (ov:Value) (ys:List (Value × Ord)) (w2:World),Kept No w w2→ys.map (·.2)=os→OrdsR w2 ov ys→Calls Tryz.prog 45 #[tv,ov] w2 fun e w3=>∃ rv ms,e=.returned rv∧Kept No w2 w3∧ms.length=st.tabs.length∧BagsAt w3 rv w2.heap.size ms (chg (tr0 st.tabs) os):=fun ov ys w2 hk e ho=>by
      refine (changes_any tv ov (trX xs st.tabs) ys w2 (h1.trs.keptNo hk) ho hl4 (hyl e).1 (fun y hy=>hrow _ (by rw [←e];exact List.mem_map.2 ⟨y,hy,rfl⟩)) (hth' ys e)).mono fun e' w3 hE=> ?_
      obtain ⟨rv,he,ms,q1,q2,q3⟩:=hE
      have ef:chg (trX xs st.tabs) (ys.map (·.2))=chg (tr0 st.tabs) os:=by funext i;rw [e];exact tr_chg h1.trs_tr os i
      rw [ef] at q2
      exact ⟨rv,ms,he,q3,by rw [q1,h1.trs_len],q2⟩
     have hpl2:(psM st.tabs (chg (tr0 st.tabs) os)).length≤100:=by unfold psM;rw [List.length_mapIdx];have:=h1.good.few;omega
     have hBe:∀ (rv:Value) (base:Nat) (ms:List Nat) (w3:World),Kept No w w3→ms.length=st.tabs.length→BagsAt w3 rv base ms (chg (tr0 st.tabs) os)→Calls Tryz.prog 46 #[tv,rv] w3 fun e w4=>e=.returned (.int .i64 (bearP (psM st.tabs (chg (tr0 st.tabs) os)) 0))∧Kept No w3 w4:=fun rv base ms w3 hk hl hba =>
      bear_any tv rv _ w3 ((h1.keep hk).bear hl hba) hpl2 (fun pr hp=>h1.bdp hos hol hp)
     by_cases hbr:bearP (psM st.tabs (chg (tr0 st.tabs) os)) 0≠0
     ·rw [if_pos hbr]
      refine (feed_bear p s tv _ w hs' (by simpa using hbr) (hB2.mono fun e w1 hE=> ?_)).mono fun e w' ⟨g1,g2⟩=>⟨g1,hst w' g2⟩
      obtain ⟨ov,ys,he,hk,e,ho⟩:=hE
      refine ⟨ov,he,hk,(hk.cell hpl (fun e=>e)).trans c0,(hFit ov ys w1 hk e ho).mono fun e2 w2 hE2=> ?_⟩
      obtain ⟨he2,hk2⟩:=hE2;have hkk:=hk.seq hk2
      refine ⟨he2,hk2,(hkk.cell hpl (fun e=>e)).trans c0,(hCh ov ys w2 hkk e (ho.keptNo hk2)).mono fun e3 w3 hE3=> ?_⟩
      obtain ⟨rv,ms,he3,hk3,hl,hba⟩:=hE3
      exact ⟨rv,he3,hk3,((hkk.seq hk3).cell hpl (fun e=>e)).trans c0,hBe rv _ ms w3 (hkk.seq hk3) hl hba⟩
     ·rw [if_neg hbr]
      have hb0:bearP (psM st.tabs (chg (tr0 st.tabs) os)) 0=0:=by
       by_cases e:bearP (psM st.tabs (chg (tr0 st.tabs) os)) 0=0
       ·exact e
       ·exact absurd e hbr
      rw [hb0] at hBe;have hg:=new_good h1.good hdok hb0;generalize hDD:chg (tr0 st.tabs) os=D at *;obtain ⟨a,cap,e1,e2,e3,e4⟩:=own_cells h1.towns;have hxl:xs.length=st.tabs.length:=h1.len
      have htx:bars (st.views.map fun q=>bagTxt (Mo.bagS (newT st.tabs D) q++neg (Mo.bagS st.tabs q)))=bars (vs.map fun V=>bagTxt (Mo.bagS (newT st.tabs D) V.q++neg V.told)):=by
       congr 1
       rw [←h1.vq,List.map_map]
       refine List.map_congr_left fun V hV=> ?_
       exact bagTxt_eqv ((Eqv.refl _).append (h1.told V hV).symm.neg)
      subst e1
      have hMade:=feed_made p xs.length cap s a (fun i=>match xs[i]? with | some Y=>Y.blk | none=>0) ⟨(bars (st.views.map fun q=>bagTxt (Mo.bagS (newT st.tabs D) q++neg (Mo.bagS st.tabs q)))).toArray⟩ (fun w'=>∃ X',Sess w' X' p ⟨newT st.tabs D,st.views⟩∧SKept X X' w w') w hs' (by rw [hxl];exact h1.good.few) (hB2.mono fun e w1 hE=> ?_)
      ·exact hMade.mono fun e w' ⟨g1,g2⟩=>⟨g1,g2⟩
      obtain ⟨ov,ys,he,hk,e,ho⟩:=hE
      refine ⟨ov,he,(hk.cell hpl (fun e=>e)).trans c0,(hFit ov ys w1 hk e ho).mono fun e2 w2 hE2=> ?_⟩
      obtain ⟨he2,hk2⟩:=hE2;have hkk:=hk.seq hk2
      refine ⟨he2,(hkk.cell hpl (fun e=>e)).trans c0,(hCh ov ys w2 hkk e (ho.keptNo hk2)).mono fun e3 w3 hE3=> ?_⟩
      obtain ⟨rv,ms,he3,hk3,hl,hba⟩:=hE3;have hk33:=hkk.seq hk3;obtain ⟨cg,f1,f0,c,f2,f3,f4⟩:=hba.at_
      refine ⟨cg,ms.length,by rw [he3,f1,hl,hxl],(hk33.cell hpl (fun e=>e)).trans c0,?_⟩
      have hBe':=hBe rv _ ms w3 hk33 hl hba;rw [f1] at hBe';rw [hl,←hxl] at hBe' ⊢
      refine hBe'.mono fun e5 w4 hE4=> ?_
      obtain ⟨he4,hk4⟩:=hE4;have hk44:=hk33.seq hk4;have h4:=h1.keep hk44
      refine ⟨he4,(hk44.cell hpl (fun e=>e)).trans c0,fun i=>match ms[i]? with | some m=>m | none=>0,DJ w4 O p st xs vs (.slice a xs.length cap) D,h4.dj,fun i wr hJ hi=> ?_,fun i wr hJ hi=> ?_,fun wr hJ=> ?_⟩
      ·obtain ⟨Y,hY⟩:∃ Y,xs[i]? =some Y:=⟨_,List.getElem?_eq_getElem hi⟩
       obtain ⟨m,hm⟩:∃ m,ms[i]? =some m:=⟨_,List.getElem?_eq_getElem (by rw [hl,←hxl];exact hi)⟩
       obtain ⟨b,o,k1,k2,k3,k4⟩:=e4 i (pV Y.blk) (by rw [List.getElem?_map,hY];rfl)
       obtain ⟨O',j1,j2,j3,j4⟩:=hJ;refine ⟨b,o,k1,?_,?_⟩
       ·rw [j2.cell (Nat.lt_of_lt_of_le k3 hk44.size) (fch_one h4 (.inl (h4.towner b k2))),hk44.cell k3 (fun e=>e),k4,hY];rfl
       ·have hcl:=lt_of_heap f2
        rw [j2.cell (Nat.lt_of_lt_of_le hcl hk4.size) (fch_one h4 (.inr (.inr (h1.out cg (Nat.le_trans hkk.size f0))))),hk4.cell hcl (fun e=>e),cell_of f2,f4 i m hm];simp only [hm]
      ·obtain ⟨Y,hY⟩:∃ Y,xs[i]? =some Y:=⟨_,List.getElem?_eq_getElem hi⟩
       obtain ⟨m,hm⟩:∃ m,ms[i]? =some m:=⟨_,List.getElem?_eq_getElem (by rw [hl,←hxl];exact hi)⟩
       have hmb:BagAt w4 m (canon (D i)):=((hba.bag i m hm).canon_of (Eqv.refl _)).kept hk4 (fun e=>e)
       simp only [hY,hm]
       exact h4.step hg hY hmb (h1.out m (Nat.le_trans hkk.size (hba.ge m (List.mem_of_getElem? hm)))) hJ
      ·obtain ⟨O0,q1,q2,q3,q4,q5,q6⟩:=h4.chd hg hJ
       refine (ses_told q1).mono fun e6 w' hE6=> ?_
       obtain ⟨he6,hT⟩:=hE6;obtain ⟨⟨P,r1,r2⟩,r3⟩:=h4.fed hg q1 q2 q3 q4 q5 q6 hT
       refine ⟨by rw [he6,htx],fun k=>P k≠0,⟨P,_,_,_,_,r1,fun _=>Iff.rfl⟩,?_,fun k e=> ?_⟩
       ·exact (hk44.any.trans r3 (fun _ e=>e) (fun _ _ e=>e)).mono fun k _ e=>(h2 k).2 e
       ·rcases r2 k e with e | e
        ·exact .inl ((h2 k).2 e)
        ·exact .inr (Nat.le_trans hk44.size e)
end Go.Proofs.YtdinjjmcmfjbfaaGreatDoor
