import Derived.Test.YtdinjjmcmfjbfaaGreatDoorSvwJ
import Derived.Test.YtdinjjmcmfjbfaaGreatDoorBeJ
set_option maxRecDepth 100000
set_option maxHeartbeats 4000000
namespace Go.Proofs.YtdinjjmcmfjbfaaGreatDoor
open Go.RowKit Go.Shelf Go.Deep
open Mo (V Row Bag cnt canon Eqv OkB OkD neg Nr Q leaves bagQ tyQ wf joins)
theorem addTks_all:∀ (l:List (List UInt8 × Tk)) (xs:List TabS),addTks xs l=xs.map fun X=>{ X with tks:=X.tks++(l.filter fun p=>decide (p.1=X.name)).map Prod.snd }
 | [],xs=>by simp [addTks]
 | x::l,xs=>by
   show addTks (addTk xs x.1 x.2) l=_
   rw [addTks_all l];unfold addTk;rw [List.map_map]
   refine List.map_congr_left fun X _=> ?_
   show ({ (if X.name=x.1 then { X with tks:=X.tks++[x.2] } else X) with tks:=_ }:TabS)=_
   by_cases h:X.name=x.1
   ·simp [h]
   ·have h':¬x.1=X.name:=fun e=>h e.symm
    simp [h,h']
theorem leafL_eq:∀ (q:Q) (t:Nd) (T:Tk),Shape q t→leafL q t T=(List.range (leaves q).length).map fun j=>(((leaves q)[j]?).getD [],leafT q t T j)
 | .tab nm,.leaf,T,_=>by simp [leafL,leaves,leafT]
 | .sel _ _ _ q,.one b t,T,h=>leafL_eq q t _ h
 | .pick _ q,.one b t,T,h=>leafL_eq q t _ h
 | .dist q,.one b t,T,h=>leafL_eq q t _ h
 | .grp _ _ q,.one b t,T,h=>leafL_eq q t _ h
 | .join n m q r,.two b t u,T,h=>by
   show leafL q t (tSide b true)++leafL r u (tSide b false)=(List.range (leaves q++leaves r).length).map fun j=>(((leaves q++leaves r)[j]?).getD [],if j<(leaves q).length then leafT q t (tSide b true) j else leafT r u (tSide b false) (j-(leaves q).length))
   rw [leafL_eq q t _ h.1,leafL_eq r u _ h.2,List.length_append,List.range_add,List.map_append,List.map_map]
   congr 1
   ·refine List.map_congr_left fun j hj=> ?_
    rw [if_pos (List.mem_range.1 hj),List.getElem?_append_left (List.mem_range.1 hj)]
   ·refine List.map_congr_left fun j hj=> ?_
    show _=(((leaves q++leaves r)[(leaves q).length+j]?).getD [],if (leaves q).length+j<(leaves q).length then _ else leafT r u _ ((leaves q).length+j-(leaves q).length))
    rw [if_neg (by omega),List.getElem?_append_right (by omega),Nat.add_sub_cancel_left]
 | .uni q r,.two b t u,T,h=>by
   show leafL q t (tUni b)++leafL r u (tUni b)=(List.range (leaves q++leaves r).length).map fun j=>(((leaves q++leaves r)[j]?).getD [],if j<(leaves q).length then leafT q t (tUni b) j else leafT r u (tUni b) (j-(leaves q).length))
   rw [leafL_eq q t _ h.1,leafL_eq r u _ h.2,List.length_append,List.range_add,List.map_append,List.map_map]
   congr 1
   ·refine List.map_congr_left fun j hj=> ?_
    rw [if_pos (List.mem_range.1 hj),List.getElem?_append_left (List.mem_range.1 hj)]
   ·refine List.map_congr_left fun j hj=> ?_
    show _=(((leaves q++leaves r)[(leaves q).length+j]?).getD [],if (leaves q).length+j<(leaves q).length then _ else leafT r u _ ((leaves q).length+j-(leaves q).length))
    rw [if_neg (by omega),List.getElem?_append_right (by omega),Nat.add_sub_cancel_left]
theorem prs_snoc (vs:List VS) (V:VS) (nm:List UInt8):prs (vs++[V]) nm=prs vs nm++((List.range (leaves V.q).length).filter fun j=>decide ((leaves V.q)[j]? =some nm)).map fun j=>(V,j):=by
 unfold prs;simp
theorem leafL_nm {q:Q} {t:Nd} {T:Tk} (h:Shape q t) (nm:List UInt8):((leafL q t T).filter fun p=>decide (p.1=nm)).map Prod.snd=((List.range (leaves q).length).filter fun j=>decide ((leaves q)[j]? =some nm)).map (leafT q t T):=by
 rw [leafL_eq q t T h,List.filter_map,List.map_map]
 have e:(List.range (leaves q).length).filter ((fun p:List UInt8 × Tk=>decide (p.1=nm)) ∘ fun j=>(((leaves q)[j]?).getD [],leafT q t T j))=(List.range (leaves q).length).filter fun j=>decide ((leaves q)[j]? =some nm):=by
  refine List.filter_congr fun j hj=> ?_
  have hj':=List.mem_range.1 hj
  simp [List.getElem?_eq_getElem hj']
 rw [e];rfl
theorem prs_len (nm:List UInt8):∀ (vs:List VS),(∀ V∈vs,(leaves V.q).length≤60)→(prs vs nm).length≤vs.length*60
 | [],_=>by simp [prs]
 | V::vs,h=>by
   have ih:=prs_len nm vs fun V hV=>h V (by simp [hV])
   have h0:=h V (by simp)
   have e:prs (V::vs) nm=(((List.range (leaves V.q).length).filter fun j=>decide ((leaves V.q)[j]? =some nm)).map fun j=>(V,j))++prs vs nm:=by unfold prs;simp
   have h1:=List.length_filter_le (fun j=>decide ((leaves V.q)[j]? =some nm)) (List.range (leaves V.q).length)
   rw [List.length_range] at h1;rw [e,List.length_append,List.length_map,List.length_cons];omega
section
variable {w w':World} {O:Ow} {p:Nat} {st:Mo.Ses} {xs:List TabS} {vs:List VS} {tv vv:Value}
theorem SesAt.ft (h:SesAt w O p st xs vs tv vv) {i:Nat} {X:TabS} (hX:xs[i]? =some X):∃ t,st.tabs[i]? =some t∧X.name=t.nm∧X.bag=t.bag∧Mo.tabT st.tabs X.name=some t:=by
 obtain ⟨t,ht,e1,e2⟩:=h.at hX
 exact ⟨t,ht,e1,e2,by rw [e1];exact Mo.tabT_of h.good.nod (List.mem_of_getElem? ht)⟩
theorem SesAt.tty (h:SesAt w O p st xs vs tv vv):TTy w (xs.map fun X=>(X.blk,X.name)) (Mo.ftT st.tabs):=fun i x hx=>by
 rw [List.getElem?_map] at hx;obtain ⟨X,hX,rfl⟩:=Option.map_eq_some_iff.1 hx;obtain ⟨t,ht,e1,e2,e3⟩:=h.ft hX
 obtain ⟨_,v,hv,g1,_⟩:=h.tab X (List.mem_of_getElem? hX)
 exact ⟨lt_of_heap g1,t.ts,X.tv,by show Mo.ftT st.tabs X.name=_;unfold Mo.ftT;rw [e3];rfl,(cell_of g1 3).trans rfl,(h.typ i X t hX ht).1⟩
theorem SesAt.there (h:SesAt w O p st xs vs tv vv) (nm:List UInt8):0≤tfind (xs.map fun X=>(X.blk,X.name)) nm↔(Mo.tabT st.tabs nm).isSome=true:=by
 have:=h.find nm
 constructor
 ·intro h0
  refine Option.isSome_iff_ne_none.2 fun e=> ?_
  have:=this.2 e
  omega
 ·intro h0
  rcases Int.lt_or_le (tfind (xs.map fun X=>(X.blk,X.name)) nm) 0 with hl | hl
  ·rw [this.1 hl] at h0;cases h0
  ·exact hl
theorem SesAt.haveQ (h:SesAt w O p st xs vs tv vv) (q:Q):haveQ (xs.map fun X=>(X.blk,X.name)) q=(leaves q).all fun nm=>(Mo.tabT st.tabs nm).isSome:=by
 unfold Go.Proofs.YtdinjjmcmfjbfaaGreatDoor.haveQ;rw [Bool.eq_iff_iff,List.all_eq_true,List.all_eq_true]
 refine ⟨fun hh nm hm=>(h.there nm).1 (by simpa using hh nm hm),fun hh nm hm=>by simpa using (h.there nm).2 (hh nm hm)⟩
theorem SesAt.name (h:SesAt w O p st xs vs tv vv) {nm:List UInt8} {t:Mo.Tab} (ht:Mo.tabT st.tabs nm=some t):∃ Y∈xs,Y.name=nm∧Y.bag=t.bag:=by
 obtain ⟨hm,e⟩:=Mo.tabT_some ht;obtain ⟨i,hi⟩:=List.getElem?_of_mem hm
 obtain ⟨X,hX⟩:∃ X,xs[i]? =some X:=⟨_,List.getElem?_eq_getElem (by rw [h.len];exact (List.getElem?_eq_some_iff.1 hi).1)⟩
 obtain ⟨t',ht',e1,e2⟩:=h.at hX;rw [hi] at ht'
 cases ht'
 exact ⟨X,List.mem_of_getElem? hX,e1.trans e,e2⟩
theorem SesAt.tklen (h:SesAt w O p st xs vs tv vv) {X:TabS} (hX:X∈xs):X.tks.length≤360:=by
 have h1:=prs_len X.name vs h.vlen;have h2:=h.few;rw [h.fx.tks X hX,List.length_map];omega
structure OwV (X:Nat→Prop) (b:Nat) (O OA:Ow):Prop where
 inn:∀ k,X k→OA k=1
 new:¬X b→OA b=b+2
 old:∀ k,¬X k→k≠b→OA k=O k
open Classical in
theorem owV_ex (X:Nat→Prop) (b:Nat) (O:Ow):∃ OA,OwV X b O OA :=
 ⟨fun k=>if X k then 1 else if k=b then b+2 else O k,fun _ e=>if_pos e,fun e=>(if_neg e).trans (if_pos rfl),fun _ e e'=>(if_neg e).trans (if_neg e')⟩
structure QOk (st:Mo.Ses) (q:Q) (ts:List Bool):Prop where
 ty:tyQ (Mo.ftT st.tabs) q=some ts
 wf:wf q
 len:(leaves q).length≤60
 jn:joins q≤2
theorem QOk.six (h:SesAt w O p st xs vs tv vv) {q:Q} {ts:List Bool} (hq:QOk st q ts):ts.length≤6:=(Mo.tyQ_len (Mo.ftT_len h.good) q ts hq.wf hq.ty).2
theorem QOk.ok (h:SesAt w O p st xs vs tv vv) {q:Q} {ts:List Bool} (hq:QOk st q ts):OkB ts (Mo.bagS st.tabs q)∧Nr (Mo.bagS st.tabs q)≤50000000000:=by
 have hs:=Mo.leafG_small h.good q
 exact ⟨Mo.okQ (Mo.ftT_len h.good) hs.2 q hq.wf (by have:=hq.len;omega) hq.jn 0 (Mo.leafG_ty h.good q) hq.ty,Mo.bound60 q hq.len hq.jn hs.1 0⟩
theorem SesAt.pre (h:SesAt w O p st xs vs tv vv) {w1 w3:World} (hk:Kept No w w3) {X:Nat→Prop} {OA:Ow} (hA:OwV X w3.heap.size O OA) (hX:∀ k,X k→w.heap.size≤k∧k<w3.heap.size∧w3.heap[k]? =w1.heap[k]?) {q:Q} {ts:List Bool} (hq:QOk st q ts) :
 LPre (Mo.ftT st.tabs) X w1 tv (p+2) (Mo.leafG st.tabs q) xs 0 q (tView w3.heap.size) (fun a=>a=w3.heap.size+2) ts (OkB ts) (fun w O B=>ViewAt w O w3.heap.size [] B) (w3.alloc (.cells #[.map none,.map none] 87)) OA:=by
 have h3:=h.keep hk;have hs:=hk.size
 have hsA:(w3.alloc (.cells #[.map none,.map none] 87)).heap.size=w3.heap.size+1:=by simp
 have hp:=lt_of_heap h.obj
 have hXn:¬X w3.heap.size:=fun e=>by have:=(hX _ e).2.1;omega
 have hold:∀ k,k<w3.heap.size→2≤O k→(w3.alloc (.cells #[.map none,.map none] 87)).heap[k]? =w3.heap[k]?∧OA k=O k:=fun k hk' ho=>⟨Below.heap_alloc _ _ _ hk',hA.old k (fun e=>by have:=h.out k (hX k e).1;omega) (by omega)⟩
 refine ⟨fun k e=> ?_,view_takes _ ts [] (OkB.nil (hq.six h)),hq.ty,hq.wf,ldOk_small (Mo.ftT_len h.good) (Mo.leafG_small h.good q).2 hq.wf (by have:=hq.len;omega) hq.jn (Mo.leafG_ty h.good q) hq.ty,fun j nm hj=> ?_,?_,?_,?_,fun Y hY=> ?_,fun a ha=> ?_,fun k hk'=> ?_,?_⟩
 ·obtain ⟨a1,a2,a3⟩:=hX k e
  exact ⟨by rw [hsA];omega,(Below.heap_alloc _ _ _ a2).trans a3,hA.inn k e⟩
 ·obtain ⟨us,hu⟩:=Mo.tyQ_leaf q ts hq.ty nm (List.mem_of_getElem? hj)
  obtain ⟨t,ht,_⟩:=Mo.ftT_some hu;obtain ⟨Y,hY,e1,e2⟩:=h.name ht;refine ⟨Y,hY,e1,?_⟩;unfold Mo.leafG Mo.bagN;rw [Nat.zero_add,hj]
  simp only
  rw [ht];exact e2.symm
 ·exact ⟨hA.new hXn,.map none,.map none,heap_alloc_last _ _,⟨.inl ⟨rfl,rfl⟩,(fun k e=>by cases e)⟩,⟨.inl ⟨rfl,rfl⟩,(fun k e=>by cases e)⟩,(fun k e=>by cases e)⟩
 ·exact h3.tabs.stab (by rw [hsA];omega) fun k hk' e=>hold k hk' (by
   rcases e with e | ⟨Y,_,e⟩
   ·rw [e];omega
   ·rw [e];omega)
 ·refine ⟨h.fx.nm,h.fx.bl,fun Y hY=>⟨fun e=> ?_,h.fx.id.2 Y hY⟩,⟨fun e=> ?_,h.fx.id.1⟩,by rw [h.len];have:=h.good.few;omega,h.fx.few⟩
  ·have:=h.blk_lt hY
   omega
  ·omega
 ·have:=h.tklen hY
  have:=hq.len
  omega
 ·rw [hsA];omega
 ·rw [hsA]
  by_cases e:X k
  ·rw [hA.inn k e];omega
  ·by_cases e':k=w3.heap.size
   ·subst e';rw [hA.new e];omega
   ·rw [hA.old k e e'];have:=h.old k;omega
 ·rw [hsA];omega
end
structure Led (w3 w4:World) (OA:Ow) (p:Nat) (st:Mo.Ses) (xs:List TabS) (tv:Value) (q:Q) (t:Nd) (O4:Ow):Prop where
 shape:Shape q t
 nod:(nds t).Nodup
 nds:∀ b∈nds t,w3.heap.size<b∧b<w4.heap.size
 view:ViewAt w4 O4 w3.heap.size [] (Mo.bagS st.tabs q)
 nodes:Nodes q t (tView w3.heap.size) 0 (Mo.leafG st.tabs q) w4 O4
 tabs:TabsAt w4 O4 tv (p+2) (addTks xs (leafL q t (tView w3.heap.size)))
 own:∀ k,k≤w3.heap.size→O4 k=OA k
 kept:∀ k,k≤w3.heap.size→OA k≠w3.heap.size+2→(∀ Y∈xs,OA k≠Y.blk+2)→w4.heap[k]? =(w3.alloc (.cells #[.map none,.map none] 87)).heap[k]?
 os:w4.os=w3.os∧w4.tape=w3.tape∧w4.output=w3.output
 size:w3.heap.size+1≤w4.heap.size
 old:∀ k,k<w4.heap.size→O4 k<w4.heap.size+2
section
variable {w w3 w4:World} {O:Ow} {p:Nat} {st:Mo.Ses} {xs:List TabS} {vs:List VS} {tv vv:Value} {X:Nat→Prop} {q:Q} {t:Nd} {O4 OA:Ow}
theorem Led.of (h:SesAt w O p st xs vs tv vv) {w1:World} (hk:Kept No w w3) (hA:OwV X w3.heap.size O OA) (hX:∀ k,X k→w.heap.size≤k∧k<w3.heap.size∧w3.heap[k]? =w1.heap[k]?) {ts:List Bool} (hq:QOk st q ts) {e:Ending}
 (hE:LeadEnd q (tView w3.heap.size) (fun a=>a=w3.heap.size+2) (fun w O B=>ViewAt w O w3.heap.size [] B) 0 (Mo.leafG st.tabs q) xs tv (p+2) (w3.alloc (.cells #[.map none,.map none] 87)) OA e w4) :
 e=.returned (.tuple #[])∧∃ t O4,Led w3 w4 OA p st xs tv q t O4:=by
 have hpre:=h.pre hk hA hX hq
 have hsA:(w3.alloc (.cells #[.map none,.map none] 87)).heap.size=w3.heap.size+1:=by simp
 obtain ⟨he,t,O4,g1,g2,g3,g4,g5,g6,g7,g8,g9⟩:=hE.norm hpre.tk hpre.ab hpre.old hpre.id (fun Y hY=>by have:=h.blk_lt hY;have:=hk.size;rw [hsA];omega)
 refine ⟨he,t,O4,g1,g2,fun b hb=> ?_,g4,g5,g6,fun k hk'=>g7 k (by rw [hsA];omega),fun k hk' e1 e2=>g8.block k (by rw [hsA];omega) (fun e=> ?_),⟨g8.os,g8.tape,g8.output⟩,by have:=g8.size;rw [hsA] at this;exact this,g9⟩
 ·have:=g3 b hb;rw [hsA] at this;omega
 ·rcases e with e | ⟨Y,hY,e⟩
  ·exact e1 e
  ·exact e2 Y hY e
theorem Led.at (h:SesAt w O p st xs vs tv vv) (hk:Kept No w w3) (hX:∀ k,X k→w.heap.size≤k) (hA:OwV X w3.heap.size O OA) (hL:Led w3 w4 OA p st xs tv q t O4) {k:Nat} (hk':k<w.heap.size):O4 k=O k∧((∀ Y∈xs,O k≠Y.blk+2)→w4.heap[k]? =w.heap[k]?):=by
 have hs:=hk.size
 have e:OA k=O k:=hA.old k (fun e=>by have:=hX k e;omega) (by omega)
 refine ⟨(hL.own k (by omega)).trans e,fun hn=> ?_⟩
 rw [hL.kept k (by omega) (by rw [e];have:=h.old k;omega) (by rw [e];exact hn),Below.heap_alloc _ _ _ (by omega)]
 exact hk.block k hk' (fun e=>e)
theorem Led.obj (h:SesAt w O p st xs vs tv vv) (hk:Kept No w w3) (hX:∀ k,X k→w.heap.size≤k) (hA:OwV X w3.heap.size O OA) (hL:Led w3 w4 OA p st xs tv q t O4):w4.heap[p]? =some (.cells #[tv,vv] 76 (0,0)) :=
 ((Led.at h hk hX hA hL (lt_of_heap h.obj)).2 fun Y hY e=>h.fx.id.2 Y hY (by rw [←e];exact h.own)).trans h.obj
theorem Led.vowns (h:SesAt w O p st xs vs tv vv) (hk:Kept No w w3) (hX:∀ k,X k→w.heap.size≤k) (hA:OwV X w3.heap.size O OA) (hL:Led w3 w4 OA p st xs tv q t O4):w4.ownsRow 0 81 1 vv vs.length (vs.map fun V=>pV V.blk):=owns_blk h.vowns fun k e=>by
 obtain ⟨c,z,hc⟩:=owns_mem h.vowns e
 exact (Led.at h hk hX hA hL (lt_of_heap hc)).2 fun Y hY e'=>h.fx.id.2 Y hY (by rw [←e'];exact h.vowner k e)
theorem Led.towns (h:SesAt w O p st xs vs tv vv) (hk:Kept No w w3) (hX:∀ k,X k→w.heap.size≤k) (hA:OwV X w3.heap.size O OA) (hL:Led w3 w4 OA p st xs tv q t O4):w4.ownsRow 0 101 1 tv xs.length (xs.map fun X=>pV X.blk):=owns_blk h.towns fun k e=>by
 obtain ⟨c,z,hc⟩:=owns_mem h.towns e
 exact (Led.at h hk hX hA hL (lt_of_heap hc)).2 fun Y hY e'=>h.fx.id.2 Y hY (by rw [←e'];exact h.towner k e)
def ow6 (w4:World) (O4:Ow) (v':Value) (p:Nat):Ow:=fun k=>if k<w4.heap.size then O4 k else if v'.ownBlock=some k then p+2 else 0
structure Lst (w3 w4 w5:World) (vs:List VS) (vv v':Value):Prop where
 owns:w5.ownsRow 0 81 1 v' (vs.length+1) ((vs.map fun V=>pV V.blk)++[pV w3.heap.size])
 grown:(w4.alloc (.cells #[pV w3.heap.size] 81)).grownBy w5 vv.ownBlock
 at':v'.ownBlock=vv.ownBlock∨v'.ownBlock=some (w4.heap.size+1)
variable {w5:World} {v':Value}
theorem Lst.facts (h:SesAt w O p st xs vs tv vv) (hk:Kept No w w3) (hX:∀ k,X k→w.heap.size≤k) (hA:OwV X w3.heap.size O OA) (hL:Led w3 w4 OA p st xs tv q t O4) (hv:Lst w3 w4 w5 vs vv v') :
 w4.heap.size+1≤w5.heap.size∧(∀ k,v'.ownBlock=some k→k≠p∧k<w5.heap.size∧ow6 w4 O4 v' p k=p+2) ∧
 (∀ k,k<w4.heap.size→k≠p→vv.ownBlock≠some k→(w5.setCell ⟨p,1,none⟩ v').drew.heap[k]? =w4.heap[k]?) ∧
 (w5.setCell ⟨p,1,none⟩ v').drew.heap[p]? =some (.cells #[tv,v'] 76 (0,0)) ∧
 (∀ k,k<w4.heap.size→O4 k≠p+2→(w5.setCell ⟨p,1,none⟩ v').drew.heap[k]? =w4.heap[k]?):=by
 have hp:=lt_of_heap h.obj;have hs:=hk.size;have hs4:=hL.size
 have hs5:w4.heap.size+1≤w5.heap.size:=by have:=hv.grown.size;simpa using this
 have vlt:∀ k,vv.ownBlock=some k→k<w.heap.size∧k≠p:=fun k e=>by
  obtain ⟨c,z,hc⟩:=owns_mem h.vowns e
  refine ⟨lt_of_heap hc,fun e'=> ?_⟩
  subst e';rw [h.obj] at hc
  injection hc with hc;injection hc with _ hc;exact absurd hc (by decide)
 have b1:∀ k,v'.ownBlock=some k→k≠p∧k<w5.heap.size∧ow6 w4 O4 v' p k=p+2:=fun k e=>by
  obtain ⟨c,z,hc⟩:=owns_mem hv.owns e
  rcases hv.at' with h' | h'
  ·have hh:=vlt k (h'.symm.trans e)
   refine ⟨hh.2,lt_of_heap hc,?_⟩
   show (if k<w4.heap.size then O4 k else _)=_
   rw [if_pos (by omega),(Led.at h hk hX hA hL hh.1).1];exact h.vowner k (h'.symm.trans e)
  ·have:k=w4.heap.size+1:=by rw [e] at h';simpa using h'
   refine ⟨by omega,lt_of_heap hc,?_⟩
   show (if k<w4.heap.size then O4 k else if v'.ownBlock=some k then _ else _)=_
   rw [if_neg (by omega),if_pos e]
 have b2:∀ k,k<w4.heap.size→k≠p→vv.ownBlock≠some k→(w5.setCell ⟨p,1,none⟩ v').drew.heap[k]? =w4.heap[k]? :=fun k hk' hn hv'=>by
  show (w5.setCell ⟨p,1,none⟩ v').heap[k]? =_
  rw [blk_setCell_other _ _ _ _ hn,hv.grown.block k (by simp;omega) (fun e=>hv' e.symm),Below.heap_alloc _ _ _ hk']
 have b3:w5.heap[p]? =some (.cells #[tv,vv] 76 (0,0)):=by
  rw [hv.grown.block p (by simp;omega) (fun e=>(vlt p e.symm).2 rfl),Below.heap_alloc _ _ _ (by omega)]
  exact Led.obj h hk hX hA hL
 refine ⟨hs5,b1,b2,by show (w5.setCell ⟨p,1,none⟩ v').heap[p]? =_;rw [heap_set b3];rfl,fun k hk' hn=>b2 k hk' (fun e=>hn ?_) (fun e=>hn ?_)⟩
 ·rw [e,(Led.at h hk hX hA hL hp).1];exact h.own
 ·rw [(Led.at h hk hX hA hL (vlt k e).1).1];exact h.vowner k e
end
section
variable {w w3 w4 w5 w':World} {O:Ow} {p:Nat} {st:Mo.Ses} {xs:List TabS} {vs:List VS} {tv vv v':Value} {X:Nat→Prop} {q:Q} {t:Nd} {O4 OA:Ow}
theorem SesAt.viewed (h:SesAt w O p st xs vs tv vv) (hk:Kept No w w3) (hX:∀ k,X k→w.heap.size≤k∧k<w3.heap.size) (hA:OwV X w3.heap.size O OA) (hL:Led w3 w4 OA p st xs tv q t O4) (hv:Lst w3 w4 w5 vs vv v') {ts:List Bool} (hq:QOk st q ts) (hn6:vs.length<6)
 {O7:Ow} (t1:∀ k,k<w5.heap.size→O7 k=ow6 w4 O4 v' p k) (t2:Kept (fun k=>ow6 w4 O4 v' p k=w3.heap.size+2) (w5.setCell ⟨p,1,none⟩ v').drew w') (t3:ViewAt w' O7 w3.heap.size (Mo.bagS st.tabs q) (Mo.bagS st.tabs q)) :
 (∃ O8 xs',SesAt w' O8 p ⟨st.tabs,st.views++[q]⟩ xs' (vs++[⟨q,t,w3.heap.size,Mo.bagS st.tabs q,ts⟩]) tv v'∧∀ k,O8 k≠0→O k≠0∨w.heap.size≤k)∧Kept (fun k=>O k≠0) w w':=by
 have hX1:∀ k,X k→w.heap.size≤k:=fun k e=>(hX k e).1
 obtain ⟨hs5,b1,b2,b3,b4⟩:=Lst.facts h hk hX1 hA hL hv;have hp:=lt_of_heap h.obj;have hs:=hk.size;have hs4:=hL.size;have hsW:(w5.setCell ⟨p,1,none⟩ v').drew.heap.size=w5.heap.size:=nblk_setCell _ _ _
 have hs':w5.heap.size≤w'.heap.size:=by have:=t2.size;rw [hsW] at this;exact this
 have o6:∀ k,k<w4.heap.size→ow6 w4 O4 v' p k=O4 k:=fun k hk'=>if_pos hk'
 have o7:∀ k,k<w4.heap.size→O7 k=O4 k:=fun k hk'=>(t1 k (by omega)).trans (o6 k hk')
 obtain ⟨O8,hO8⟩:∃ O8:Ow,∀ k,O8 k=if k<w'.heap.size∧O7 k<w'.heap.size+2 then O7 k else 0:=⟨_,fun _=>rfl⟩
 have a1:∀ k,k<w'.heap.size→O7 k<w'.heap.size+2→O8 k=O7 k:=fun k x y=>by rw [hO8,if_pos ⟨x,y⟩]
 have a4:∀ k,k<w4.heap.size→O8 k=O4 k:=fun k hk'=>by
  rw [←o7 k hk']
  exact a1 k (by omega) (by rw [o7 k hk'];have:=hL.old k hk';omega)
 have aw:∀ k,k<w.heap.size→O8 k=O k:=fun k hk'=>(a4 k (by omega)).trans (Led.at h hk hX1 hA hL hk').1
 have m4:∀ k,k<w4.heap.size→O4 k≠p+2→O4 k≠w3.heap.size+2→w'.heap[k]? =w4.heap[k]? :=fun k hk' e1 e2=>by
  rw [t2.block k (by rw [hsW];omega) (by show ow6 w4 O4 v' p k≠_;rw [o6 k hk'];exact e2)]
  exact b4 k hk' e1
 have mw:∀ k,k<w.heap.size→O k≠p+2→(∀ Y∈xs,O k≠Y.blk+2)→w'.heap[k]? =w.heap[k]? :=fun k hk' e1 e2=>by
  have h4:=Led.at h hk hX1 hA hL hk'
  rw [m4 k (by omega) (by rw [h4.1];exact e1) (by rw [h4.1];have:=h.old k;omega)]
  exact h4.2 e2
 have hKept:Kept (fun k=>O k≠0) w w':=by
  have e0:w'.os=w.os∧w'.tape=w.tape∧w'.output=w.output:=by
   have:=hL.os
   exact ⟨t2.os.trans (hv.grown.os.trans (this.1.trans hk.os)),t2.tape.trans (hv.grown.tape.trans (this.2.1.trans hk.tape)),t2.output.trans (hv.grown.output.trans (this.2.2.trans hk.output))⟩
  refine ⟨e0.1,e0.2.1,e0.2.2,by omega,fun k hk' e=> ?_⟩
  have e':O k=0:=by
   by_cases e1:O k=0
   ·exact e1
   ·exact absurd e1 e
  exact mw k hk' (by omega) (fun Y _=>by omega)
 refine ⟨⟨O8,addTks xs (leafL q t (tView w3.heap.size)),?_,fun k hk'=> ?_⟩,hKept⟩
 case refine_2 =>
  rcases Nat.lt_or_ge k w.heap.size with hl | hl
  ·exact .inl (by rw [←aw k hl];exact hk')
  ·exact .inr hl
 have hob:w'.heap[p]? =some (.cells #[tv,v'] 76 (0,0)):=by
  rw [t2.block p (by rw [hsW];omega) (by show ow6 w4 O4 v' p p≠_;rw [o6 p (by omega),(Led.at h hk hX1 hA hL hp).1,h.own];omega)]
  exact b3
 have hmap:∀ {β:Type} (g:TabS→β),(∀ (X:TabS) (l:List Tk),g { X with tks:=l }=g X)→(addTks xs (leafL q t (tView w3.heap.size))).map g=xs.map g:=fun g hg=>addTks_map g hg _ xs
 have hlen':(addTks xs (leafL q t (tView w3.heap.size))).length=xs.length:=by have:=congrArg List.length (hmap (fun X=>X.blk) (fun _ _=>rfl));simpa using this
 have hall:=addTks_all (leafL q t (tView w3.heap.size)) xs
 have hmem:∀ {Y:TabS},Y∈addTks xs (leafL q t (tView w3.heap.size))→∃ Z∈xs,Y.blk=Z.blk∧Y.name=Z.name∧Y.tks=Z.tks++((leafL q t (tView w3.heap.size)).filter fun p=>decide (p.1=Z.name)).map Prod.snd:=fun hY=>by
  rw [hall] at hY;obtain ⟨Z,hZ,rfl⟩:=List.mem_map.1 hY;exact ⟨Z,hZ,rfl,rfl,rfl⟩
 have hok:=hq.ok h
 have hb3:∀ a,VA ⟨q,t,w3.heap.size,Mo.bagS st.tabs q,ts⟩ a→w.heap.size+2≤a∧a<w4.heap.size+2:=fun a ha=>by
  rcases ha with ha | ⟨b,hb,ha⟩
  ·have ha':a=w3.heap.size+2:=ha
   omega
  ·have:=hL.nds b hb
   omega
 have hVm:∀ {V:VS},V∈vs++[(⟨q,t,w3.heap.size,Mo.bagS st.tabs q,ts⟩:VS)]→V∈vs∨V=⟨q,t,w3.heap.size,Mo.bagS st.tabs q,ts⟩:=fun hV=>(List.mem_append.1 hV).imp id List.mem_singleton.1
 refine ⟨hob,?_,?_,?_,?_,?_,?_,?_,?_,?_,?_,?_,?_,?_,?_,h.good,?_,?_,?_,?_,?_⟩
 ·rw [aw p hp];exact h.own
 ·rw [hlen',hmap (fun X=>pV X.blk) (fun _ _=>rfl)]
  refine owns_blk (Led.towns h hk hX1 hA hL) fun k e=> ?_
  obtain ⟨c,z,hc⟩:=owns_mem h.towns e;have hkw:=lt_of_heap hc;have hO:O4 k=p+2:=(Led.at h hk hX1 hA hL hkw).1.trans (h.towner k e)
  rw [t2.block k (by rw [hsW];omega) (by show ow6 w4 O4 v' p k≠_;rw [o6 k (by omega),hO];omega)]
  refine b2 k (by omega) (fun e'=> ?_) (fun e'=> ?_)
  ·subst e'
   rw [h.obj] at hc;injection hc with hc;injection hc with _ hc;exact absurd hc (by decide)
  ·obtain ⟨c',z',hc'⟩:=owns_mem h.vowns e'
   rw [hc] at hc';injection hc' with hc';injection hc' with _ hc';exact absurd hc' (by decide)
 ·intro k e
  obtain ⟨c,z,hc⟩:=owns_mem h.towns e;rw [aw k (lt_of_heap hc)];exact h.towner k e
 ·rw [List.length_append,List.map_append]
  refine owns_blk hv.owns fun k e=> ?_
  obtain ⟨c1,c2,c3⟩:=b1 k e
  rw [t2.block k (by rw [hsW];exact c2) (by show ow6 w4 O4 v' p k≠_;rw [c3];omega)]
  exact blk_setCell_other _ _ _ _ c1
 ·intro k e
  obtain ⟨c1,c2,c3⟩:=b1 k e
  rw [a1 k (by omega) (by rw [t1 k c2,c3];omega),t1 k c2];exact c3
 ·intro Y hY
  obtain ⟨Z,hZ,e1,_⟩:=hmem hY;have hZl:=h.blk_lt hZ;have hZp:=h.fx.id.2 Z hZ
  exact (hL.tabs.tab Y hY).stab fun k hk' e=>⟨m4 k hk' (by rw [e,e1];exact hZp) (by rw [e,e1];omega),a4 k hk'⟩
 ·have hx:=h.fx
  refine ⟨by rw [hmap (fun X=>X.name) (fun _ _=>rfl)];exact hx.nm,by rw [hmap (fun X=>X.blk) (fun _ _=>rfl)];exact hx.bl,?_,?_,?_,⟨hx.id.1,?_⟩,?_,?_,?_⟩
  ·rw [List.map_append,List.nodup_append]
   refine ⟨hx.vb,by simp,fun a ha c hc e=> ?_⟩
   obtain ⟨V,hV,rfl⟩:=List.mem_map.1 ha
   have hc':c=w3.heap.size:=by simpa using hc
   have:=h.vlt V hV (V.blk+2) (.inl rfl)
   omega
  ·intro V hV V' hV' hne a ha ha'
   rcases hVm hV with hV | rfl <;> rcases hVm hV' with hV' | rfl
   ·exact hx.dis V hV V' hV' hne a ha ha'
   ·have:=h.vlt V hV a ha
    have:=(hb3 a ha').1
    omega
   ·have:=h.vlt V' hV' a ha'
    have:=(hb3 a ha).1
    omega
   ·exact hne rfl
  ·intro V hV a ha
   rcases hVm hV with hV | rfl
   ·obtain ⟨q1,q2,q3⟩:=hx.va V hV a ha
    refine ⟨q1,q2,fun Y hY=> ?_⟩
    obtain ⟨Z,hZ,e1,_⟩:=hmem hY;rw [e1];exact q3 Z hZ
   ·have:=hb3 a ha
    refine ⟨by omega,by omega,fun Y hY=> ?_⟩
    obtain ⟨Z,hZ,e1,_⟩:=hmem hY
    have:=h.blk_lt hZ
    rw [e1];omega
  ·intro Y hY
   obtain ⟨Z,hZ,e1,_⟩:=hmem hY;rw [e1];exact hx.id.2 Z hZ
  ·intro V hV
   rcases hVm hV with hV | rfl
   ·exact hx.fix V hV
   ·exact ⟨hq.ty,hq.wf,by have:=hq.len;show (leaves q).length≤120;omega,hq.jn,hL.shape,hL.nod,fun b hb=>by have:=(hL.nds b hb).1;show b≠w3.heap.size;omega,hok.1⟩
  ·intro Y hY
   obtain ⟨Z,hZ,_,e2,e3⟩:=hmem hY;rw [e3,e2,prs_snoc,List.map_append,hx.tks Z hZ,leafL_nm hL.shape,List.map_map]
   rfl
  ·intro Y hY
   obtain ⟨Z,hZ,_,e2,e3⟩:=hmem hY;rw [e3,List.length_append,leafL_nm hL.shape,List.length_map]
   have:=h.tklen hZ
   have h1:=List.length_filter_le (fun j=>decide ((leaves q)[j]? =some Z.name)) (List.range (leaves q).length)
   rw [List.length_range] at h1
   have:=hq.len
   omega
 ·rw [hmap (fun X=>(X.name,X.bag)) (fun _ _=>rfl)];exact h.tb
 ·intro i Y u hY hu
  rw [hall,List.getElem?_map] at hY;obtain ⟨Z,hZ,rfl⟩:=Option.map_eq_some_iff.1 hY;obtain ⟨q1,q2⟩:=h.typ i Z u hZ hu
  refine ⟨q1.stays fun k e hi=>mw k hi.lt (by rw [q2 k e];omega) (fun Y' _=>by rw [q2 k e];omega),fun k e=> ?_⟩
  have hk':k<w.heap.size:=by
   obtain ⟨b',o',cap',e',hb',_⟩:=q1;have e:Z.tv.ownBlock=some k:=e;rw [e'] at e
   have:b'=k:=by simpa [Value.ownBlock] using e
   rw [←this];exact hb'.lt
  rw [aw k hk'];exact q2 k e
 ·rw [List.map_append,h.vq];rfl
 ·intro V hV
  rcases hVm hV with hV | rfl
  ·exact (h.vat V hV).stab (by omega) fun k hk' e=>⟨mw k hk' (by
    rcases e with e | e
    ·exact (h.fx.va V hV _ e).2.1
    ·omega) (fun Y hY=>by
    rcases e with e | e
    ·exact (h.fx.va V hV _ e).2.2 Y hY
    ·omega),aw k hk'⟩
  ·refine ⟨?_,?_⟩
   ·exact t3.stab fun k hk' e=>⟨rfl,a1 k hk' (by rw [e];omega)⟩
   ·refine Nodes.stab (by omega) q t _ 0 (fun k hk' e=>⟨m4 k hk' ?_ ?_,a4 k hk'⟩) hL.nodes
    ·rcases e with ⟨b,hb,e⟩ | e
     ·have:=(hL.nds b hb).1;omega
     ·omega
    ·rcases e with ⟨b,hb,e⟩ | e
     ·have:=(hL.nds b hb).1;omega
     ·omega
 ·intro V hV
  rcases hVm hV with hV | rfl
  ·exact h.told V hV
  ·exact Eqv.refl _
 ·intro V hV
  rcases hVm hV with hV | rfl
  ·exact h.vlen V hV
  ·exact hq.len
 ·intro V hV a ha
  rcases hVm hV with hV | rfl
  ·have:=h.vlt V hV a ha;omega
  ·have:=(hb3 a ha).2;omega
 ·rw [List.length_append];show vs.length+1≤6;omega
 ·intro k
  rw [hO8]
  split
  ·next e=>exact e.2
  ·exact Nat.succ_pos _
 ·intro k hk'
  rw [hO8,if_neg (fun e=>by have:=e.1;omega)]
 ·rw [aw _ (show gT<_ from h.env.lt)];exact h.glb
 ·exact h.env.kept hKept (fun e=>e h.glb)
end
def viewM (st:Mo.Ses) (s:ByteArray):(Int × List UInt8 × Int) × Mo.Ses:=if (Pl.chk s).1≠0 then ((0,[],(Pl.chk s).1),st) else if st.views.length=6 then ((0,[],4),st) else match rdQ s 6 0 with
 | none=>((0,[],3),st)
 | some (q,_)=>if ((leaves q).all fun nm=>(Mo.tabT st.tabs nm).isSome)=true then (match tyQ (Mo.ftT st.tabs) q with
   | none=>((0,[],6),st)
   | some _=>((st.views.length,bagTxt (Mo.bagS st.tabs q),0),⟨st.tabs,st.views++[q]⟩)) else ((0,[],5),st)
def view3 (r:Int × List UInt8 × Int):Value:=.tuple #[.int .i64 r.1,strL r.2.1,.int .i64 r.2.2]
theorem view_any {w:World} {X:Nat→Prop} {p:Nat} {st:Mo.Ses} (h:Sess w X p st) (s:ByteArray) :
 Calls Tryz.prog 17 #[pV p,.string s] w fun e w'=>e=.returned (view3 (viewM st s).1)∧∃ X',Sess w' X' p (viewM st s).2∧SKept X X' w w':=by
 have hst:∀ w',Kept No w w'→∃ X',Sess w' X' p st∧SKept X X' w w':=fun w' hk=>⟨X,h.stays hk (fun _ e=>e.elim) (fun e=>e),hk.any,fun _ e=>.inl e⟩
 obtain ⟨O,xs,vs,tv,vv,h1,h2⟩:=h;have hR:=readQuery_any s w;have hpl:=lt_of_heap h1.obj
 have hlen:st.views.length=vs.length:=by rw [←h1.vq];simp
 obtain ⟨a,cap,e1,e2,e3,e4⟩:=own_cells h1.vowns;have c0:w.cell? ⟨p,0,none⟩=some tv:=(cell_of h1.obj 0).trans rfl
 have c1:w.cell? ⟨p,1,none⟩=some (.slice a vs.length cap):=by rw [←e1];exact (cell_of h1.obj 1).trans rfl
 have hl4:(xs.map fun X=>(X.blk,X.name)).length≤1000:=by rw [List.length_map,h1.len];have:=h1.good.few;omega
 unfold viewM
 by_cases hc:(Pl.chk s).1≠0
 ·rw [if_pos hc]
  refine (view_bad p s (Pl.chk s).1 w hc (hR.mono fun e w1 hE=> ?_)).mono fun e w' ⟨g1,g2⟩=>⟨g1,hst w' g2⟩
  obtain ⟨hk,⟨_,he⟩ | ⟨hz,_⟩⟩:=hE
  ·exact ⟨⟨_,_,he⟩,hk⟩
  ·exact absurd (by rw [hz]) hc
 ·rw [if_neg hc]
  have hR2:Calls Tryz.prog 36 #[.string s] w fun e w1=>Kept No w w1∧∃ pp Y q,e=.returned (.tuple #[.pointer (some ⟨pp,0,none⟩),.int .i64 0,.int .i64 0])∧Tr w1 Y pp q∧(∀ k,Y k→w.heap.size≤k∧k<w1.heap.size)∧Rq s 6 0 s.size q∧s.size≤120∧Pl.cj s s.size≤2:=hR.mono fun e w1 hE=>by
   obtain ⟨hk,⟨hn,_⟩ | ⟨hz,hh⟩⟩:=hE
   ·exact absurd hn hc
   ·exact ⟨hk,hh⟩
  by_cases h6:st.views.length=6
  ·rw [if_pos h6]
   have e6:vs.length=6:=by omega
   rw [e6] at c1
   refine (view_many p cap a s w c1 hpl (hR2.mono fun e w1 hE=> ?_)).mono fun e w' ⟨g1,g2⟩=>⟨g1,hst w' g2⟩
   obtain ⟨hk,pp,Y,q,he,_⟩:=hE;exact ⟨⟨_,_,he⟩,hk⟩
  ·rw [if_neg h6]
   have hn6:vs.length<6:=by have:=h1.few;omega
   obtain ⟨e0,w0,_,⟨_,pp0,Y0,q,_,_,_,hr,hs1,hs2⟩,_⟩:=hR2 [];have hrd:rdQ s 6 0=some (q,s.size):=rdQ_of hr
   have hR3:Calls Tryz.prog 36 #[.string s] w fun e w1=>Kept No w w1∧∃ pp Y,e=.returned (.tuple #[.pointer (some ⟨pp,0,none⟩),.int .i64 0,.int .i64 0])∧Tr w1 Y pp q∧(∀ k,Y k→w.heap.size≤k∧k<w1.heap.size):=hR2.mono fun e w1 hE=>by
    obtain ⟨hk,pp,Y,q',he,ht,hY,hr',_⟩:=hE
    have:=rdQ_of hr'
    rw [hrd] at this;have e:q=q':=congrArg Prod.fst (Option.some.inj this);subst e;exact ⟨hk,pp,Y,he,ht,hY⟩
   have hf:=rq_facts hr (Nat.zero_le _);rw [hrd]
   simp only
   have hH:∀ (pp:Nat) (Y:Nat→Prop) (w1:World),Kept No w w1→Tr w1 Y pp q→(∀ k,Y k→w.heap.size≤k∧k<w1.heap.size)→Calls Tryz.prog 37 #[tv,pV pp] w1 (HaveEnd ((leaves q).all fun nm=>(Mo.tabT st.tabs nm).isSome) w1):=fun pp Y w1 hk ht hY=>by
    rw [←h1.haveQ q]
    exact have_any hl4 ht w1 (fun k e=>⟨(hY k e).2,rfl⟩) (h1.keep hk).tabs.names
   by_cases hall:((leaves q).all fun nm=>(Mo.tabT st.tabs nm).isSome)=true
   ·rw [if_pos hall]
    have hT:∀ (pp:Nat) (Y:Nat→Prop) (w1 w2:World),Kept No w w1→Kept No w1 w2→Tr w1 Y pp q→(∀ k,Y k→w.heap.size≤k∧k<w1.heap.size)→Calls Tryz.prog 38 #[tv,pV pp] w2 (TypesEnd (tyQ (Mo.ftT st.tabs) q) w2):=fun pp Y w1 w2 hk hk2 ht hY =>
     typesOf_any (Mo.ftT_len h1.good) hl4 ht hf.1 (by rw [h1.haveQ q];exact hall) w2 (fun k e=>⟨Nat.lt_of_lt_of_le (hY k e).2 hk2.size,hk2.block k (hY k e).2 (fun e=>e)⟩) (h1.keep (hk.seq hk2)).tabs.names (h1.keep (hk.seq hk2)).tty
    cases hty:tyQ (Mo.ftT st.tabs) q with
    | none =>
      simp only
      rw [hty] at hT
      refine (view_type p vs.length cap a tv s w hn6 c0 c1 hpl (hR3.mono fun e w1 hE=> ?_)).mono fun e w' ⟨g1,g2⟩=>⟨g1,hst w' g2⟩
      obtain ⟨hk,pp,Y,he,ht,hY⟩:=hE
      refine ⟨pp,he,hk,(hH pp Y w1 hk ht hY).mono fun e w2 hE2=> ?_⟩
      obtain ⟨he2,hk2⟩:=hE2;rw [hall] at he2
      refine ⟨he2,hk2,(hT pp Y w1 w2 hk hk2 ht hY).mono fun e w3 hE3=> ?_⟩
      obtain ⟨hk3,⟨_,_,hz,_⟩ | ⟨_,v,he3⟩⟩:=hE3
      ·cases hz
      ·exact ⟨⟨v,he3⟩,hk3⟩
    | some ts =>
      simp only
      rw [hty] at hT
      have hq:QOk st q ts:=⟨hty,hf.1,by have:=hf.2.2.2.1;omega,by have:=hf.2.2.2.2;omega⟩
      have hok:=hq.ok h1
      have hMade:=view_made p vs.length tv vv s w (vs.map fun V=>pV V.blk) (fun t w'=>t=⟨(bagTxt (Mo.bagS st.tabs q)).toArray⟩∧∃ X',Sess w' X' p ⟨st.tabs,st.views++[q]⟩∧SKept X X' w w') hn6 (hR3.mono fun e w1 hE=> ?_)
      ·refine hMade.mono fun e w' ⟨t,g1,g2,g3⟩=>⟨?_,g3⟩
       rw [g1,g2,hlen];rfl
      obtain ⟨hk,pp,Y,he,ht,hY⟩:=hE
      refine ⟨pp,he,(hk.cell hpl (fun e=>e)).trans c0,⟨a,cap,e1⟩,(hk.cell hpl (fun e=>e)).trans (by rw [e1];exact c1),(hH pp Y w1 hk ht hY).mono fun e w2 hE2=> ?_⟩
      obtain ⟨he2,hk2⟩:=hE2;rw [hall] at he2
      refine ⟨he2,((hk.seq hk2).cell hpl (fun e=>e)).trans c0,(hT pp Y w1 w2 hk hk2 ht hY).mono fun e w3 hE3=> ?_⟩
      obtain ⟨hk3,⟨_,v,_,he3,_⟩ | ⟨hz,_⟩⟩:=hE3
      case inr=>cases hz
      have hkk:=(hk.seq hk2).seq hk3
      have hY3:∀ k,Y k→w.heap.size≤k∧k<w3.heap.size∧w3.heap[k]? =w1.heap[k]? :=fun k e=>by
       obtain ⟨y1,y2⟩:=hY k e
       have:=(hk2.seq hk3)
       exact ⟨y1,Nat.lt_of_lt_of_le y2 this.size,this.block k y2 (fun e=>e)⟩
      obtain ⟨OA,hA⟩:=owV_ex Y w3.heap.size O
      refine ⟨v,he3,(hkk.block p hpl (fun e=>e)).trans h1.obj,(lead_any (Mo.ftT_len h1.good) ht (h1.pre hkk hA hY3 hq)).mono fun e w4 hE4=> ?_⟩
      obtain ⟨he4,t,O4,hL⟩:=Led.of h1 hkk hA hY3 hq hE4
      have hY1:∀ k,Y k→w.heap.size≤k:=fun k e=>(hY k e).1
      refine ⟨he4,Led.obj h1 hkk hY1 hA hL,Led.vowns h1 hkk hY1 hA hL,fun v' w5 q1 q2 q3=> ?_⟩
      have hv:Lst w3 w4 w5 vs vv v':=⟨q1,q2,q3⟩;obtain ⟨hs5,b1,b2,b3,b4⟩:=Lst.facts h1 hkk hY1 hA hL hv;have hps:=hkk.size;have hs4:=hL.size
      have o6:∀ k,k<w4.heap.size→ow6 w4 O4 v' p k=O4 k:=fun k hk'=>if_pos hk'
      have hgl:gT<w.heap.size:=h1.env.lt;have hg4:=Led.at h1 hkk hY1 hA hL hgl
      have hV6:ViewAt (w5.setCell ⟨p,1,none⟩ v').drew (ow6 w4 O4 v' p) w3.heap.size [] (Mo.bagS st.tabs q):=hL.view.stab fun k hk' e=>⟨b4 k hk' (by rw [e];omega),o6 k hk'⟩
      have hbw:BWr ts (Mo.bagS st.tabs q++neg []):=by
       have:=bwr_one hok.1 hok.2
       simpa [neg] using this
      have hE6:Env (w5.setCell ⟨p,1,none⟩ v').drew:=h1.env.block ((b4 gT (by omega) (by rw [hg4.1,h1.glb];omega)).trans (hg4.2 fun Y' _=>by rw [h1.glb];omega))
      refine (tell_any w3.heap.size _ _ hV6 (OkB.nil (hq.six h1)) hok.1 hbw hE6 (by rw [o6 _ (show gT<_ by omega),hg4.1,h1.glb];omega)).mono fun e w' hE7=> ?_
      obtain ⟨he7,O7,r1,r2,r3⟩:=hE7;have hsW:(w5.setCell ⟨p,1,none⟩ v').drew.heap.size=w5.heap.size:=nblk_setCell _ _ _
      have hpp:(ow6 w4 O4 v' p) p=p+2:=by rw [o6 p (by omega),(Led.at h1 hkk hY1 hA hL hpl).1];exact h1.own
      obtain ⟨⟨O8,xs',s1,s2⟩,s3⟩:=h1.viewed hkk (fun k e=>⟨(hY3 k e).1,(hY3 k e).2.1⟩) hA hL hv hq hn6 (fun k hk'=>r1 k (by rw [hsW];exact hk')) r2 r3
      refine ⟨_,he7,?_,by simp [neg],fun k=>O8 k≠0,⟨O8,xs',_,tv,v',s1,fun _=>Iff.rfl⟩,s3.mono fun k _ e=>(h2 k).2 e,fun k e=>(s2 k e).imp (h2 k).2 id⟩
      exact (cell_of s1.obj 1).trans rfl
   ·rw [if_neg hall]
    refine (view_have p vs.length cap a tv s w hn6 c0 c1 hpl (hR3.mono fun e w1 hE=> ?_)).mono fun e w' ⟨g1,g2⟩=>⟨g1,hst w' g2⟩
    obtain ⟨hk,pp,Y,he,ht,hY⟩:=hE
    refine ⟨pp,he,hk,(hH pp Y w1 hk ht hY).mono fun e w2 hE2=> ?_⟩
    obtain ⟨he2,hk2⟩:=hE2
    have hf':((leaves q).all fun nm=>(Mo.tabT st.tabs nm).isSome)=false:=by simpa using hall
    rw [hf'] at he2;exact ⟨he2,hk2⟩
theorem feed_long (p:Nat) (s:ByteArray) (w:World) (hs:300<s.size) :
 Calls Tryz.prog 20 #[pV p,.string s] w fun e w'=>e=.returned (.tuple #[.string ⟨#[]⟩,.int .i64 1])∧Kept No w w':=by
 show Calls Tryz.prog 20 #[.pointer (some ⟨p,0,none⟩),.string s] w _
 have hs':(300:Int)<(s.size:Int):=by omega
 go_enter Tryz.func20,Tryz.ntmps20
 go_wp2_with fail;go_ret2;exact ⟨rfl,Kept.refl _ _⟩
theorem feed_form (p:Nat) (s:ByteArray) (w:World) (hs:s.size≤300) (hB:Calls Tryz.prog 43 #[.pointer (some ⟨w.heap.size,0,none⟩)] (w.alloc (.cells #[.string s,.int .i64 0] 93)) fun e w1=>(∃ v,e=.returned (.tuple #[v,.bool false]))∧Kept No w w1) :
 Calls Tryz.prog 20 #[pV p,.string s] w fun e w'=>e=.returned (.tuple #[.string ⟨#[]⟩,.int .i64 2])∧Kept No w w':=by
 show Calls Tryz.prog 20 #[.pointer (some ⟨p,0,none⟩),.string s] w _
 have hs':¬(300:Int)<(s.size:Int):=by omega
 have HB:=hid hB;clear hB
 go_enter Tryz.func20,Tryz.ntmps20
 go_wp2_with fail;refine HB.out.mono ?_;rintro e w1 ⟨⟨v,rfl⟩,hk⟩;have HK:=hid hk;clear HB hk;go_wp2_with fail;go_ret2;exact ⟨rfl,HK.out⟩
theorem feed_fit (p:Nat) (s:ByteArray) (tv:Value) (c:Int) (w:World) (hs:s.size≤300) (hc:(c != 0)=true) (hB:Calls Tryz.prog 43 #[.pointer (some ⟨w.heap.size,0,none⟩)] (w.alloc (.cells #[.string s,.int .i64 0] 93)) fun e w1=>∃ ov,e=.returned (.tuple #[ov,.bool true])∧Kept No w w1∧w1.cell? ⟨p,0,none⟩=some tv ∧
 Calls Tryz.prog 44 #[tv,ov] w1 fun e w2=>e=.returned (.int .i64 c)∧Kept No w1 w2) :
 Calls Tryz.prog 20 #[pV p,.string s] w fun e w'=>e=.returned (.tuple #[.string ⟨#[]⟩,.int .i64 c])∧Kept No w w':=by
 show Calls Tryz.prog 20 #[.pointer (some ⟨p,0,none⟩),.string s] w _
 have hs':¬(300:Int)<(s.size:Int):=by omega
 have HB:=hid hB;clear hB
 go_enter Tryz.func20,Tryz.ntmps20
 go_wp2_with fail;refine HB.out.mono ?_;rintro e w1 ⟨ov,rfl,hk,c0,hF⟩;have HK:=hid hk;have HF:=hid hF;clear HB hk hF;go_wp2_with fail;refine HF.out.mono ?_;rintro e w2 ⟨rfl,hk2⟩;have HK2:=hid (HK.out.seq hk2);clear HF hk2;go_wp2_with fail;go_ret2;exact ⟨rfl,HK2.out⟩
theorem feed_bear (p:Nat) (s:ByteArray) (tv:Value) (c:Int) (w:World) (hs:s.size≤300) (hc:(c != 0)=true) (hB:Calls Tryz.prog 43 #[.pointer (some ⟨w.heap.size,0,none⟩)] (w.alloc (.cells #[.string s,.int .i64 0] 93)) fun e w1=>∃ ov,e=.returned (.tuple #[ov,.bool true])∧Kept No w w1∧w1.cell? ⟨p,0,none⟩=some tv ∧
 Calls Tryz.prog 44 #[tv,ov] w1 fun e w2=>e=.returned (.int .i64 0)∧Kept No w1 w2∧w2.cell? ⟨p,0,none⟩=some tv ∧
  Calls Tryz.prog 45 #[tv,ov] w2 fun e w3=>∃ rv,e=.returned rv∧Kept No w2 w3∧w3.cell? ⟨p,0,none⟩=some tv ∧
   Calls Tryz.prog 46 #[tv,rv] w3 fun e w4=>e=.returned (.int .i64 c)∧Kept No w3 w4) :
 Calls Tryz.prog 20 #[pV p,.string s] w fun e w'=>e=.returned (.tuple #[.string ⟨#[]⟩,.int .i64 c])∧Kept No w w':=by
 show Calls Tryz.prog 20 #[.pointer (some ⟨p,0,none⟩),.string s] w _
 have hs':¬(300:Int)<(s.size:Int):=by omega
 have HB:=hid hB;clear hB
 go_enter Tryz.func20,Tryz.ntmps20
 go_wp2_with fail;refine HB.out.mono ?_;rintro e w1 ⟨ov,rfl,hk,c0,hF⟩;have HK:=hid hk;have HF:=hid hF;clear HB hk hF;go_wp2_with fail;refine HF.out.mono ?_;rintro e w2 ⟨rfl,hk2,c2,hC⟩;have HK2:=hid (HK.out.seq hk2);have HC:=hid hC;clear HF hk2 hC;go_wp2_with fail;refine HC.out.mono ?_;rintro e w3 ⟨rv,rfl,hk3,c3,hD⟩;have HK3:=hid (HK2.out.seq hk3);have HD:=hid hD;clear HC hk3 hD;go_wp2_with fail;refine HD.out.mono ?_;rintro e w4 ⟨rfl,hk4⟩;have HK4:=hid (HK3.out.seq hk4);clear HD hk4;go_wp2_with fail;go_ret2;exact ⟨rfl,HK4.out⟩
theorem feed_made (p n tcap:Nat) (s:ByteArray) (ta:Option Addr) (blk:Nat→Nat) (t:ByteArray) (F:World→Prop) (w:World) (hs:s.size≤300) (hn:n≤4) (hB:Calls Tryz.prog 43 #[.pointer (some ⟨w.heap.size,0,none⟩)] (w.alloc (.cells #[.string s,.int .i64 0] 93)) fun e w1=>∃ ov,e=.returned (.tuple #[ov,.bool true])∧w1.cell? ⟨p,0,none⟩=some (.slice ta n tcap) ∧
 Calls Tryz.prog 44 #[.slice ta n tcap,ov] w1 fun e w2=>e=.returned (.int .i64 0)∧w2.cell? ⟨p,0,none⟩=some (.slice ta n tcap) ∧
  Calls Tryz.prog 45 #[.slice ta n tcap,ov] w2 fun e w3=>∃ cg ccap,e=.returned (.slice (some ⟨cg,0,none⟩) n ccap)∧w3.cell? ⟨p,0,none⟩=some (.slice ta n tcap) ∧
   Calls Tryz.prog 46 #[.slice ta n tcap,.slice (some ⟨cg,0,none⟩) n ccap] w3 fun e w4=>e=.returned (.int .i64 0)∧w4.cell? ⟨p,0,none⟩=some (.slice ta n tcap)∧∃ (ms:Nat→Nat) (J:Nat→World→Prop),J 0 w4 ∧
    (∀ i wr,J i wr→i<n→∃ g o,ta=some ⟨g,o,none⟩∧wr.cell? ⟨g,o+i,none⟩=some (.pointer (some ⟨blk i,0,none⟩))∧wr.cell? ⟨cg,i,none⟩=some (.map (some (ms i)))) ∧
    (∀ i wr,J i wr→i<n→Calls Tryz.prog 47 #[.map (some (ms i)),.iface 101 (.pointer (some ⟨blk i,0,none⟩))] wr fun e w'=>e=.returned (.tuple #[])∧J (i+1) w') ∧
    ∀ wr,J n wr→Calls Tryz.prog 48 #[.pointer (some ⟨p,0,none⟩)] wr fun e w'=>e=.returned (.string t)∧F w') :
 Calls Tryz.prog 20 #[pV p,.string s] w fun e w'=>e=.returned (.tuple #[.string t,.int .i64 0])∧F w':=by
 show Calls Tryz.prog 20 #[.pointer (some ⟨p,0,none⟩),.string s] w _
 have hs':¬(300:Int)<(s.size:Int):=by omega
 have HB:=hid hB;clear hB
 go_enter Tryz.func20,Tryz.ntmps20
 go_wp2_with fail;refine HB.out.mono ?_;rintro e w1 ⟨ov,rfl,c0,hF⟩;have HF:=hid hF;clear HB hF;go_wp2_with fail;refine HF.out.mono ?_;rintro e w2 ⟨rfl,c2,hC⟩;have HC:=hid hC;clear HF hC;go_wp2_with fail;refine HC.out.mono ?_;rintro e w3 ⟨cg,ccap,rfl,c3,hD⟩;have HD:=hid hD;clear HC hD;go_wp2_with fail;refine HD.out.mono ?_;rintro e w4 ⟨rfl,c4,ms,J,hJ0,hcell,hstep,htell⟩;have HJ0:=hid hJ0;have HCe:=hid hcell;have HS:=hid hstep;have HT:=hid htell;clear HD hJ0 hcell hstep htell;go_wp2_with fail
 go_loopg [54] n (fun k v54 wr=>∃ i:Nat,i+k=n∧v54=.int .i64 (i:Int)∧Hid (J i wr))
 case atStart=>exact ⟨0,by omega,rfl,HJ0⟩
 case round =>
  obtain ⟨i,hik,rfl,hJ⟩:=hrel
  cases gk with
  | zero =>
    have hx:¬(i:Int)<(n:Int):=by omega
    have HIN:Hid (i=n):=by show _=_;omega
    have HTl:Hid (Calls Tryz.prog 48 #[.pointer (some ⟨p,0,none⟩)] wr fun e w'=>e=.returned (.string t)∧F w'):=HT.out wr (by rw [←HIN.out];exact hJ.out)
    clear hik;go_wp2_with fail;refine HTl.out.mono ?_;rintro e w5 ⟨rfl,hF5⟩;have HF5:=hid hF5;clear hF5 HTl;go_wp2_with fail;go_ret2;exact ⟨rfl,HF5.out⟩
  | succ k =>
    have hx:(i:Int)<(n:Int):=by omega
    have hx0:(0:Int)≤(i:Int):=by omega
    obtain ⟨g,o,rfl,hc1,hc2⟩:=HCe.out i wr hJ.out (by omega)
    have HSt:=hid (HS.out i wr hJ.out (by omega))
    go_wp2_with fail;refine HSt.out.mono ?_;rintro e w5 ⟨rfl,hJ5⟩;have HJ5:=hid hJ5;clear hJ5 HSt hc1 hc2;go_wp2_with fail;go_roundg k
    case measure=>omega
    case rel=>exact ⟨i+1,by omega,by go_num,HJ5⟩
open Mo (V Row Bag cnt canon Eqv OkB OkD neg Nr Q leaves bagQ tyQ wf joins TOk wv ty)
def VRd (v:V):Prop:=TOk v∧wv v≤9999
theorem valP_facts {s:ByteArray} {a:Nat} (ha:a≤s.size) (h:(valP s a).1=true):a<(valP s a).2∧(valP s a).2≤s.size∧VRd (valV s a):=by
 unfold valP Pl.orP at h ⊢;unfold valV
 by_cases h1:(Pl.let4 s a).1=true
 ·rw [if_pos h1,if_pos h1]
  have e:Pl.let4 s a=(true,(Pl.let4 s a).2):=Prod.ext h1 rfl;have hk:=let4_ok ha e;have h2:=(Pl.let4_good s).size a ha
  refine ⟨?_,h2,hk,by show (0:Int)≤9999;decide⟩
  have:=hk.1
  rw [sub_len h2] at this
  show a<(Pl.let4 s a).2
  omega
 ·rw [if_neg h1] at h ⊢
  rw [if_neg h1];have e0:(Pl.let4 s a).2=a:=let4_no h1;rw [e0] at h ⊢;have e:Pl.numP s a=(true,(Pl.numP s a).2):=Prod.ext h rfl;obtain ⟨q1,q2,q3⟩:=numP_sub ha e
  have:=numOf_le q3
  refine ⟨q1,q2,trivial,?_⟩
  show ((numOf (sub s a (Pl.numP s a).2)).natAbs:Int)≤9999
  omega
theorem rowsP_facts (s:ByteArray):∀ (k a:Nat) (r r':Row) (d:Nat),a≤s.size→rowsP s k a r=some (r',d)→(∀ v∈r,VRd v)→(∀ v∈r',VRd v)∧d≤s.size∧r.length+1≤r'.length∧2*r'.length+a≤2*r.length+d
 | 0,a,r,r',d,_,h,_=>by simp [rowsP] at h
 | k+1,a,r,r',d,ha,h,hr=>by
   unfold rowsP at h
   by_cases h1:(valP s a).1=true
   ·rw [if_pos h1] at h
    obtain ⟨q1,q2,q3⟩:=valP_facts ha h1
    have hr':∀ v∈r++[valV s a],VRd v:=fun v hv=>by
     rcases List.mem_append.1 hv with hv | hv
     ·exact hr v hv
     ·rw [List.mem_singleton.1 hv];exact q3
    by_cases h2:Pl.bt s (valP s a).2=44
    ·rw [if_pos h2] at h
     have hl:=Pl.bt_lt (s:=s) (a:=(valP s a).2) (by omega)
     obtain ⟨g1,g2,g3,g4⟩:=rowsP_facts s k ((valP s a).2+1) _ r' d (by omega) h hr'
     rw [List.length_append,List.length_singleton] at g3 g4
     exact ⟨g1,g2,by omega,by omega⟩
    ·rw [if_neg h2] at h
     by_cases h3:Pl.bt s (valP s a).2=41
     ·rw [if_pos h3] at h
      have hl:=Pl.bt_lt (s:=s) (a:=(valP s a).2) (by omega)
      cases h
      rw [List.length_append,List.length_singleton]
      exact ⟨hr',by omega,by omega,by omega⟩
     ·rw [if_neg h3] at h;cases h
   ·rw [if_neg h1] at h;cases h
structure ORd (o:Ord):Prop where
 val:∀ v∈o.row,VRd v
 len:1≤o.row.length∧o.row.length≤150
 t:o.t=1∨o.t= -1
theorem ordersP_facts (s:ByteArray) (hs:s.size≤300):∀ (k a:Nat) (l l':List Ord),a≤s.size→ordersP s k a l=some l'→(∀ o∈l,ORd o)→(∀ o∈l',ORd o)∧l'.length≤l.length+k
 | 0,a,l,l',_,h,_=>by simp [ordersP] at h
 | k+1,a,l,l',ha,h,hl=>by
   unfold ordersP at h
   by_cases h1:Pl.bt s a=43∨Pl.bt s a=45
   ·rw [if_pos h1] at h
    have hla:=Pl.bt_lt (s:=s) (a:=a) (by omega)
    by_cases h2:(Pl.let4 s (a+1)).1=true
    ·rw [if_pos h2] at h
     have h3:=(Pl.let4_good s).size (a+1) (by omega)
     by_cases h4:Pl.bt s (Pl.let4 s (a+1)).2=40
     ·rw [if_pos h4] at h
      have hlb:=Pl.bt_lt (s:=s) (a:=(Pl.let4 s (a+1)).2) (by omega)
      cases hr:rowsP s (s.size+1) ((Pl.let4 s (a+1)).2+1) [] with
      | none=>rw [hr] at h;cases h
      | some x =>
        obtain ⟨r,d⟩:=x;rw [hr] at h
        simp only at h
        obtain ⟨g1,g2,g3,g4⟩:=rowsP_facts s _ _ _ _ _ (by omega) hr (fun v hv=>by cases hv)
        have ho:ORd ⟨sub s (a+1) (Pl.let4 s (a+1)).2,r,signT s a⟩:=⟨g1,⟨by simp at g3;exact g3,by simp only [List.length_nil] at g4;show r.length≤150;omega⟩,by show signT s a=1∨signT s a= -1;unfold signT;split;exact .inl rfl;exact .inr rfl⟩
        have hl':∀ o∈l++[⟨sub s (a+1) (Pl.let4 s (a+1)).2,r,signT s a⟩],ORd o:=fun o hm=>by
         rcases List.mem_append.1 hm with hm | hm
         ·exact hl o hm
         ·rw [List.mem_singleton.1 hm];exact ho
        by_cases h5:d=s.size
        ·rw [if_pos h5] at h
         cases h
         exact ⟨hl',by rw [List.length_append,List.length_singleton];omega⟩
        ·rw [if_neg h5] at h
         by_cases h6:Pl.bt s d=59
         ·rw [if_pos h6] at h
          have hld:=Pl.bt_lt (s:=s) (a:=d) (by omega)
          obtain ⟨f1,f2⟩:=ordersP_facts s hs k (d+1) _ l' (by omega) h hl'
          rw [List.length_append,List.length_singleton] at f2
          exact ⟨f1,by omega⟩
         ·rw [if_neg h6] at h;cases h
     ·rw [if_neg h4] at h;cases h
    ·rw [if_neg h2] at h;cases h
   ·rw [if_neg h1] at h;cases h
theorem batchP_facts {s:ByteArray} (hs:s.size≤300) {l:List Ord} (h:batchP s=some l):(∀ o∈l,ORd o)∧l.length≤301:=by
 unfold batchP at h
 by_cases h0:s.size=0
 ·rw [if_pos h0] at h;cases h;exact ⟨(fun o ho=>by cases ho),by simp⟩
 ·rw [if_neg h0] at h
  obtain ⟨a,b⟩:=ordersP_facts s hs _ _ _ _ (by omega) h (fun o ho=>by cases ho)
  simp only [List.length_nil] at b
  exact ⟨a,by omega⟩
theorem tfind_congr:∀ (a b:List (Nat × List UInt8)) (nm:List UInt8),a.map Prod.snd=b.map Prod.snd→tfind a nm=tfind b nm
 | [],[],_,_=>rfl
 | [],_::_,_,h=>by simp at h
 | _::_,[],_,h=>by simp at h
 | x::a,y::b,nm,h=>by
   have h':x.2=y.2∧a.map Prod.snd=b.map Prod.snd:=by simpa using h
   simp only [tfind,h'.1,tfind_congr a b nm h'.2]
def tr0 (tb:List Mo.Tab):List TRec:=tb.map fun t=>⟨0,t.nm,t.ts⟩
section
variable {a b:List TRec} (h:a.map (fun t=>(t.name,t.tys))=b.map fun t=>(t.name,t.tys))
include h
theorem tr_tix (nm:List UInt8):tix a nm=tix b nm:=by
 refine tfind_congr _ _ nm ?_
 have:=congrArg (List.map Prod.fst) h
 simpa [List.map_map,Function.comp_def] using this
theorem tr_fits (o:Ord):tfits a o=tfits b o:=by
 unfold tfits;rw [tr_tix h]
 have:=congrArg (fun l=>(l[(tix b o.name).toNat]?).map Prod.snd) h
 simp only [List.getElem?_map,Option.map_map,Function.comp_def] at this
 cases h1:a[(tix b o.name).toNat]? with
 | none =>
   rw [h1] at this
   cases h2:b[(tix b o.name).toNat]? with
   | none=>rfl
   | some y=>rw [h2] at this;cases this
 | some x =>
   rw [h1] at this
   cases h2:b[(tix b o.name).toNat]? with
   | none=>rw [h2] at this;cases this
   | some y =>
     rw [h2] at this
     have e:x.tys=y.tys:=by simpa using this
     simp only [e]
theorem tr_fit (os:List Ord):fitP a os=fitP b os:=by
 have e1:there a=there b:=by funext o;unfold there;rw [tr_tix h]
 have e2:tfits a=tfits b:=by funext o;exact tr_fits h o
 unfold fitP;rw [e1,e2]
theorem tr_chg (os:List Ord) (i:Nat):chg a os i=chg b os i:=by
 unfold chg;simp only [tr_tix h]
end
end Go.Proofs.YtdinjjmcmfjbfaaGreatDoor
