import Derived.Test.YtdinjjmcmfjbfaaGreatDoorKiJ
set_option maxRecDepth 100000
set_option maxHeartbeats 4000000
namespace Go.Proofs.YtdinjjmcmfjbfaaGreatDoor
set_option linter.unusedSimpArgs false
open Go.RowKit Go.Shelf
open Mo (V Row Bag cnt canon Eqv OkB OkD colR selB)
theorem canon_selV_nil {c:Nat} {v:V} {S:Bag} (h:canon S=[]):canon (selV c v S)=[]:=by
 rw [Mo.canon_nil_iff] at *
 intro r;rw [cnt_selV,h r];split <;> rfl
def ShEnd (b o c id:Nat) (cs:Array Value) (ty:TypeId) (hv:Value) (f:V→Option Nat) (L:Bag) (w:World) (O:Ow) (e:Ending) (w':World):Prop :=
 e=.returned (.tuple #[])∧∃ hv' f',w'.heap[b]? =some (.cells (cs.setIfInBounds (o+1) hv') ty (0,0))∧ShAt w' (oB w O id) id hv' c L f'∧(∀ k,ShB hv' f' k→ShB hv f k∨w.heap.size≤k)∧Kept (fun k=>k=b∨ShB hv f k) w w'
structure ShLoop (b o c id m cb it:Nat) (cs:Array Value) (ty:TypeId) (hv:Value) (f:V→Option Nat) (S d:Bag) (w:World) (O:Ow) (wr:World) (es:Bag) (k:Nat) (fr:V→Option Nat):Prop where
 rng:BRng wr cb it (canon d) es k
 blk:wr.heap[b]? =some (.cells (cs.setIfInBounds (o+1) (.map (some m))) ty (0,0))
 sh:ShOk wr (oB w O id) id m c (S++es) fr
 own:∀ k,k=m∨(∃ v,fr v=some k)→ShB hv f k∨w.heap.size≤k
 kept:Kept (fun k=>k=b∨ShB hv f k) w wr
theorem ShLoop.done {b o c id m cb it:Nat} {cs:Array Value} {ty:TypeId} {hv:Value} {f:V→Option Nat} {S d:Bag} {w:World} {O:Ow} {wr:World} {es:Bag} {k:Nat} {fr:V→Option Nat} {us:List Bool} (h:ShLoop b o c id m cb it cs ty hv f S d w O wr es k fr) (hall:AllOf (canon d) es) (hd:OkD us d) :
 ShEnd b o c id cs ty hv f (S++d) w O (.returned (.tuple #[])) wr :=
 ⟨rfl,.map (some m),fr,h.blk,.inr ⟨m,rfl,h.sh.eqv ((Eqv.refl _).append (hall.eqv hd))⟩,fun k hk=>h.own k (by rcases hk with e | e;(left;simpa using e.symm);exact .inr e),h.kept⟩
theorem ShLoop.next {b o c id m cb it bv:Nat} {cs:Array Value} {ty:TypeId} {hv:Value} {f:V→Option Nat} {S d:Bag} {w:World} {O:Ow} {w2 wf:World} {es:Bag} {k2:Nat} {fr ff:V→Option Nat} {q:Row} {t:Int} (hr:BRng w2 cb it (canon d) (es++[(q,t)]) k2) (hb:w2.heap[b]? =some (.cells (cs.setIfInBounds (o+1) (.map (some m))) ty (0,0)))
 (hsh:ShOk w2 (oB w O id) id m c (S++es) fr) (hown:∀ k,k=m∨(∃ v,fr v=some k)→ShB hv f k∨w.heap.size≤k) (hk2:Kept (fun k=>k=b∨ShB hv f k) w w2) (hcb:¬ShB hv f cb) (hcl:cb<w.heap.size)
 (hk:Kept (fun k=>k=m∨k=bv) w2 wf) (hm:MapIs 133 aggV VOk wf m (shM ff)) (hbv:(oB w O id) bv=id∧bv≠m∧(∀ v,v≠colR q c→fr v≠some bv)∧((∃ v,fr v=some bv)∨w2.heap.size≤bv))
 (hff:(ff (colR q c)=some bv∧BagAt wf bv (canon (selV c (colR q c) ((S++es)++[(q,t)])))∧canon (selV c (colR q c) ((S++es)++[(q,t)]))≠[])∨(ff (colR q c)=none∧canon (selV c (colR q c) ((S++es)++[(q,t)]))=[]))
 (hfo:∀ v,v≠colR q c→ff v=fr v):ShLoop b o c id m cb it cs ty hv f S d w O wf (es++[(q,t)]) k2 ff:=by
 have hbv1:ShB hv f bv∨w.heap.size≤bv:=by
  rcases hbv.2.2.2 with h | h
  ·exact hown bv (.inr h)
  ·exact .inr (Nat.le_trans hk2.size h)
 have hm1:=hown m (.inl rfl)
 have hobj:∀ k,k=m∨k=bv→k<w2.heap.size→∃ es c,w2.heap[k]? =some (.map es c):=by
  rintro k (rfl | rfl) hl
  ·exact hsh.map.obj
  ·rcases hbv.2.2.2 with ⟨v,h⟩ | h
   ·exact (hsh.bag h).2.2.1.obj
   ·omega
 have hcbn:¬(cb=m∨cb=bv):=by
  rintro (rfl | rfl)
  ·rcases hm1 with h | h
   ·exact hcb h
   ·omega
  ·rcases hbv1 with h | h
   ·exact hcb h
   ·omega
 have hitn:¬(it=m∨it=bv):=fun h=>by
  obtain ⟨x0,x1,x2,x3,hx⟩:=hr.iter;obtain ⟨es',ck,hm'⟩:=hobj it h (lt_of_heap hx)
  rw [hm'] at hx;cases hx
 have hbn:¬(b=m∨b=bv):=fun h=>by
  obtain ⟨es',ck,hm'⟩:=hobj b h (lt_of_heap hb)
  rw [hm'] at hb;cases hb
 refine ⟨hr.kept hk hcbn hitn,(hk.block b (lt_of_heap hb) hbn).trans hb,?_,?_,?_⟩
 ·rw [←List.append_assoc]
  refine hsh.step hm hfo (fun v b' hv' e=>hk.block b' (hsh.bag e).2.2.1.lt ?_) (fun b' e=> ?_) (fun e=> ?_)
  ·rintro (rfl | rfl)
   ·exact (hsh.bag e).2.1 rfl
   ·exact hbv.2.2.1 v hv' e
  ·rcases hff with ⟨h1,h2,h3⟩ | ⟨h1,_⟩
   ·rw [h1] at e
    have:bv=b':=by simpa using e
    subst this;exact ⟨hbv.1,hbv.2.1,h2,h3,hbv.2.2.1⟩
   ·rw [h1] at e;cases e
  ·rcases hff with ⟨h1,_⟩ | ⟨_,h2⟩
   ·rw [h1] at e;cases e
   ·exact h2
 ·rintro k (rfl | ⟨v,e⟩)
  ·exact hm1
  ·by_cases hv':v=colR q c
   ·subst hv'
    rcases hff with ⟨h1,_⟩ | ⟨h1,_⟩
    ·rw [h1] at e
     have:bv=k:=by simpa using e
     subst this;exact hbv1
    ·rw [h1] at e;cases e
   ·rw [hfo v hv'] at e;exact hown k (.inr ⟨v,e⟩)
 ·refine hk2.trans hk (fun _ e=>e) (fun i hi e=> ?_)
  rcases e with rfl | rfl
  ·rcases hm1 with h | h
   ·exact .inr h
   ·omega
  ·rcases hbv1 with h | h
   ·exact .inr h
   ·omega
theorem ents_init {l es:Bag} {x:Row × Int} (h:Ents l (es++[x])):Ents l es:=⟨by have:=h.1;rw [List.map_append] at this;exact (List.nodup_append.1 this).1,fun e he=>h.2 e (List.mem_append.2 (.inl he))⟩
theorem sh_len {us:List Bool} {S d es:Bag} (hS:OkB us S) (hd:OkD us d) (he:Ents (canon d) es) (c:Nat) (v:V):(canon (S++es)).length<maxLen∧(canon (canon (selV c v (S++es)))).length<maxLen:=by
 have e1:=he.len;have e2:=hd.len;have e3:=hS.len
 have cc:∀ l:Bag,canon (canon l)=canon l:=fun l=>Mo.canon_of_rise (Mo.canon_rise l)
 rw [cc] at e1;have e4:=Mo.canon_append_len es S
 have sw:Eqv (S++es) (es++S):=fun r=>by simp only [Mo.cnt_append];omega
 rw [←sw.canon] at e4
 have e5:(canon (S++es)).length<maxLen:=by unfold maxLen;omega
 refine ⟨e5,?_⟩;rw [cc];have e6:Eqv (selV c v (S++es)) (selV c v (canon (S++es))):=selV_eqv (Mo.canon_eqv _).symm;have e7:=Mo.canon_append_len (selV c v (canon (S++es))) [];have e8:(selV c v (canon (S++es))).length≤(canon (S++es)).length:=List.length_filter_le _ _;simp only [List.append_nil,Mo.canon,List.length_nil] at e7;rw [e6.canon];omega
theorem sh_remember (b o c cb id:Nat) (cs:Array Value) (ty:TypeId) (hv:Value) (us:List Bool) (S d:Bag) (f:V→Option Nat) (w:World) (O:Ow) (hb:w.heap[b]? =some (.cells cs ty (0,0))) (ho:cs[o]? =some (.int .i64 (c:Int))) (ho1:cs[o+1]? =some hv) (hs:ShAt w O id hv c S f)
 (hS:OkB us S) (hSd:OkB us (S++d)) (hc:BagAt w cb (canon d)) (hcb:¬ShB hv f cb) (hc6:c<6) :
 Calls Tryz.prog 255 #[.pointer (some ⟨b,o,none⟩),.map (some cb)] w (ShEnd b o c id cs ty hv f (S++d) w O):=by
 have hd:=hS.chg hSd;have hbl:=lt_of_heap hb;have hcl:=hc.lt
 have hcbb:cb≠b:=by
  rintro rfl;obtain ⟨es,ck,hm⟩:=hc.obj
  rw [hm] at hb;cases hb
 have hosz:o+1<cs.size:=(Array.getElem?_eq_some_iff.1 ho1).1;have HD:=hid hd;have HC:=hid hc;have HS1:=hid hS;have HS2:=hid hSd;have HB:=hid hb;have HO:=hid ho;have HO1:=hid ho1;have HOB:=hid hcb
 have hc0:(0:Int)≤(c:Int):=by omega
 have hc1:(c:Int)<6:=by omega
 have hoc:∀ mv,(cs.setIfInBounds (o+1) mv)[o]? =some (.int .i64 (c:Int)):=fun mv=>by rw [Array.getElem?_setIfInBounds_ne (by omega)];exact ho
 have HOC:=hid hoc
 have hoc1:∀ mv,(cs.setIfInBounds (o+1) mv)[o+1]? =some mv:=fun mv=>by rw [Array.getElem?_setIfInBounds,if_pos rfl,if_pos hosz]
 have HOC1:=hid hoc1
 have g0:w.cell? ⟨b,o+1,none⟩=some hv:=by rw [cell_of hb];exact ho1
 have gf:w.frozen? ⟨b,o+1,none⟩=false:=frozen_of hb _
 have hnb:∀ k,ShB hv f k→k≠b:=by
  rintro k hk rfl
  rcases hs with ⟨h1,_,h3⟩ | ⟨m,h1,h2⟩
  ·rcases hk with e | ⟨v,e⟩
   ·rw [h1] at e;cases e
   ·rw [h3] at e;cases e
  ·rcases hk with e | ⟨v,e⟩
   ·rw [h1] at e
    have:m=k:=by simpa using e
    subst this;obtain ⟨es,ck,hm⟩:=h2.map.obj
    rw [hm] at hb;cases hb
   ·obtain ⟨es,ck,hm⟩:=(h2.bag e).2.2.1.obj
    rw [hm] at hb;cases hb
 have HNB:=hid hnb;have HS:=hid hs;have hmm:=@run_makeMap Tryz.prog
 have hq1:=fun (p:Option Nat) (w:World)=>run_eql_map_nil_sl (P:=Tryz.prog) w 83 _ _ p Tryz.underlying83
 clear hd hc hS hSd hb ho ho1 hcb hoc hoc1 hnb HS
 rcases hs with ⟨hve,hS0,hf0⟩ | ⟨m,hve,hsh⟩
 case' inl =>
  have hq:=fun w=>run_eql_map_nil_sl (P:=Tryz.prog) w 233 _ _ none Tryz.underlying233
  rw [hve] at g0;have HVE:=hid hve;clear hve
  have hsz0:(w.setCell ⟨b,o+1,none⟩ (.map (some w.heap.size))).heap.size=w.heap.size:=by simp [World.setCell]
  have HST:Hid (((w.setCell ⟨b,o+1,none⟩ (.map (some w.heap.size))).alloc (.map #[] 0)).heap[b]? =some (.cells (cs.setIfInBounds (o+1) (.map (some w.heap.size))) ty (0,0))∧ShOk ((w.setCell ⟨b,o+1,none⟩ (.map (some w.heap.size))).alloc (.map #[] 0)) (oB w O id) id w.heap.size c S f∧BagAt ((w.setCell ⟨b,o+1,none⟩ (.map (some w.heap.size))).alloc (.map #[] 0)) cb (canon d)∧Kept (fun k=>k=b∨ShB hv f k) w ((w.setCell ⟨b,o+1,none⟩ (.map (some w.heap.size))).alloc (.map #[] 0))):=by
   have h3:Kept (fun k=>k=b) w ((w.setCell ⟨b,o+1,none⟩ (.map (some w.heap.size))).alloc (.map #[] 0)):=((Kept.refl (fun k=>k=b) w).setCell (.inr rfl) _).alloc _
   have h2:((w.setCell ⟨b,o+1,none⟩ (.map (some w.heap.size))).alloc (.map #[] 0)).heap[w.heap.size]? =some (.map #[] 0):=by
    have:=heap_alloc_last (w.setCell ⟨b,o+1,none⟩ (.map (some w.heap.size))) (.map #[] 0)
    rw [hsz0] at this;exact this
   refine ⟨(Below.heap_alloc _ _ _ (by rw [hsz0];exact hbl)).trans (heap_set HB.out _ _),⟨?_,oB_new (Nat.le_refl _),(fun {v b'} e=>absurd e (by rw [hf0];simp)),(fun {v} _ _=>canon_selV_nil hS0),(fun {v u b'} e=>absurd e (by rw [hf0];simp))⟩,HC.out.kept h3 hcbb,h3.mono fun i _ e=>.inl e⟩
   have e:shM f=fun _=>none:=by funext v;unfold shM;rw [hf0];rfl
   rw [e]
   exact (MapIs.made 133 aggV VOk w).of_block (by rw [h2];exact (heap_alloc_last _ _).symm)
  have HF0:Hid (∀ v,f v=none):=hid hf0;clear hS0 hf0 hsz0
  go_enter Tryz.func255,Tryz.ntmps255
  go_wp2_with (first
   | (at_range;refine wpList_range_bag _ rfl _ rfl cb (canon d) rfl HST.out.2.2.1 ?_;intro w1 k1 hr1 hk1 hs1)
   | fail)
  have hk01:=HST.out.2.2.2.trans hk1 (U:=fun k=>k=b∨ShB hv f k) (fun _ e=>e) (fun _ _ e=>e.elim)
  have hb1:=(hk1.block b (lt_of_heap HST.out.1) (fun e=>e)).trans HST.out.1
  have hsh1:ShOk w1 (oB w O id) id w.heap.size c S f:=HST.out.2.1.mk2 fun k hk=>⟨hk1.block k (by
   rcases hk with rfl | ⟨v,e⟩
   ·exact HST.out.2.1.map.lt
   ·rw [HF0.out] at e;cases e) (fun e=>e),rfl⟩
  have hit:w.heap.size≤((w.setCell ⟨b,o+1,none⟩ (.map (some w.heap.size))).alloc (.map #[] 0)).heap.size:=by simp [World.setCell]
  have HL0:Hid (ShLoop b o c id w.heap.size cb ((w.setCell ⟨b,o+1,none⟩ (.map (some w.heap.size))).alloc (.map #[] 0)).heap.size cs ty hv f S d w O w1 [] k1 f):=⟨hr1,hb1,by rw [List.append_nil];exact hsh1,(fun k hk=>.inr (by
   rcases hk with rfl | ⟨v,e⟩
   ·exact Nat.le_refl _
   ·rw [HF0.out] at e;cases e)),hk01⟩
  generalize ((w.setCell ⟨b,o+1,none⟩ (.map (some w.heap.size))).alloc (.map #[] 0)).heap.size=it at HL0 hit ⊢;obtain ⟨m,hm⟩:∃ m,m=w.heap.size:=⟨_,rfl⟩;rw [←hm] at HL0;clear hr1 hs1 hk1 hk01 hb1 hsh1 HST HF0 hmm hq hm g0 gf
 case' inr =>
  have hq:=fun w=>run_eql_map_nil_sl (P:=Tryz.prog) w 233 _ _ (some m) Tryz.underlying233
  have hsame:cs.setIfInBounds (o+1) (.map (some m))=cs:=set_same (hve ▸ HO1.out);rw [hve] at g0;have HVE:=hid hve;clear hve
  go_enter Tryz.func255,Tryz.ntmps255
  go_wp2_with (first
   | (at_range;refine wpList_range_bag _ rfl _ rfl cb (canon d) rfl HC.out ?_;intro w1 k1 hr1 hk1 hs1)
   | fail)
  have hb1:w1.heap[b]? =some (.cells (cs.setIfInBounds (o+1) (.map (some m))) ty (0,0)):=by rw [hsame];exact (hk1.block b hbl (fun e=>e)).trans HB.out
  have hsh1:ShOk w1 (oB w O id) id m c S f:=hsh.mk2 fun k hk=>by
   have hl:k<w.heap.size:=by
    rcases hk with rfl | ⟨v,e⟩
    ·exact hsh.map.lt
    ·exact (hsh.bag e).2.2.1.lt
   exact ⟨hk1.block k hl (fun e=>e),oB_old hl⟩
  have hit:w.heap.size≤w.heap.size:=Nat.le_refl _
  have HL0:Hid (ShLoop b o c id m cb w.heap.size cs ty hv f S d w O w1 [] k1 f):=⟨hr1,hb1,by rw [List.append_nil];exact hsh1,(fun k hk=>.inl (by
   rcases hk with rfl | e
   ·exact .inl HVE.out
   ·exact .inr e)),hk1.any⟩
  obtain ⟨it,hie⟩:∃ it,it=w.heap.size:=⟨_,rfl⟩
  have hit:w.heap.size≤it:=by omega
  rw [←hie] at HL0 ⊢;clear hr1 hs1 hk1 hb1 hsh1 hmm hq hie g0 gf hsame hsh
 all_goals
  go_frame
  go_loopg [] k1 (fun k wr=>∃ (es:Bag) (fr:V→Option Nat),Hid (ShLoop b o c id m cb it cs ty hv f S d w O wr es k fr))
  case atStart=>exact ⟨[],f,HL0⟩
  case round =>
   obtain ⟨es,fr,hl⟩:=hrel;clear HL0
   go_wp2_with (first
    | (at_next;refine wpList_next_bag _ rfl _ rfl cb it (canon d) es gk rfl hl.out.rng ?_ ?_)
    | fail)
   ·intro hall
    have HF:=hid (hl.out.done hall HD.out);clear hall;go_wp2_with fail;go_end0;exact HF.out
   ·intro t q w2 k2 hq ht htn hr2 hlt hk2 hsz2 hen
    have HQK:=hid hq;have HV0:Hid (VOk (colR q c)):=colR_ok hq c;have HR2:=hid hr2
    have HTC:Hid (t=cnt d q):=by show _=_;rw [ht,HD.out.w64]
    obtain ⟨i0,i1,i2,i3,hiter⟩:=hr2.iter;have hiter0:=hl.out.rng.iter
    have hnit:∀ k,k=m∨(∃ v,fr v=some k)→k≠it:=by
     rintro k hk rfl;obtain ⟨x0,x1,x2,x3,hx⟩:=hiter0
     rcases hk with rfl | ⟨v,e⟩
     ·obtain ⟨es',ck,hm'⟩:=hl.out.sh.map.obj
      rw [hm'] at hx;cases hx
     ·obtain ⟨es',ck,hm'⟩:=(hl.out.sh.bag e).2.2.1.obj
      rw [hm'] at hx;cases hx
    have hlt2:∀ k,k=m∨(∃ v,fr v=some k)→k<wr.heap.size:=by
     rintro k (rfl | ⟨v,e⟩)
     ·exact hl.out.sh.map.lt
     ·exact (hl.out.sh.bag e).2.2.1.lt
    have HSH:Hid (ShOk w2 (oB w O id) id m c (S++es) fr):=hl.out.sh.mk2 fun k hk=>⟨hk2.block k (hlt2 k hk) (hnit k hk),rfl⟩
    have HOWN:=hid hl.out.own
    have hitb:it≠b:=by
     rintro rfl;obtain ⟨x0,x1,x2,x3,hx⟩:=hiter0
     rw [hl.out.blk] at hx;cases hx
    have hb2:w2.heap[b]? =some (.cells (cs.setIfInBounds (o+1) (.map (some m))) ty (0,0)):=(hk2.block b (lt_of_heap hl.out.blk) (fun e=>hitb e.symm)).trans hl.out.blk
    have HB2:=hid hb2
    have HK2:Hid (Kept (fun k=>k=b∨ShB hv f k) w w2):=hl.out.kept.trans hk2 (fun _ e=>e) (fun i hi e=>by omega)
    have HNEW:Hid (q∉es.map (·.1)):=by
     have:=hr2.ents.1
     rw [List.map_append,List.nodup_append] at this
     exact fun h=>this.2.2 q h q (by simp) rfl
    have HG:Hid ((w2.alloc (.cells (rowA q) 154)).heap[w2.heap.size]? =some (.cells (rowA q) 154 (0,0))):=heap_alloc_last _ _
    have g1:(w2.alloc (.cells (rowA q) 154)).cell? ⟨b,o,none⟩=some (.int .i64 (c:Int)):=by
     rw [cell_of ((Below.heap_alloc _ _ _ (lt_of_heap hb2)).trans hb2)];exact HOC.out _
    have HZ:Hid (((w2.alloc (.cells (rowA q) 154)).alloc (.cells #[.int .i32 0,.int .u8 0,.int .u8 0,.int .u8 0,.int .u8 0,.int .i64 0] 133)).heap[w2.heap.size+1]? =some (.cells #[.int .i32 0,.int .u8 0,.int .u8 0,.int .u8 0,.int .u8 0,.int .i64 0] 133 (0,0))):=heap_alloc2_new _ _ _;have hmz:m<w2.heap.size:=HSH.out.map.lt;have hw2:w.heap.size≤w2.heap.size:=HK2.out.size;have hit2:it<w2.heap.size:=lt_of_heap hiter;clear hq hr2 ht hk2 hsz2 hiter hiter0 hnit hlt2 hl i0 i1 i2 i3 hb2 htn
    go_wp2_with (first
     | (refine store_row_new _ _ _ rfl rfl w2 _ rfl rfl rfl q rfl ?_)
     | (refine load_val _ rfl rfl w2.heap.size (1+c*6) rfl (colR q c) (cells_val HG.out hc6) ?_)
     | (refine store_val _ _ rfl rfl (w2.heap.size+1) rfl (colR q c) rfl _ rfl HZ.out ?_)
     | fail)
    have hSb:(((w2.alloc (.cells (rowA q) 154)).alloc (.cells #[.int .i32 0,.int .u8 0,.int .u8 0,.int .u8 0,.int .u8 0,.int .i64 0] 133)).setRow (w2.heap.size+1) (encV (colR q c)).toArray).heap[w2.heap.size+1]? =some (.cells (encV (colR q c)).toArray 133 (0,0)):=setRow_heap' HZ.out
    have hKW:Kept No w2 (((w2.alloc (.cells (rowA q) 154)).alloc (.cells #[.int .i32 0,.int .u8 0,.int .u8 0,.int .u8 0,.int .u8 0,.int .i64 0] 133)).setRow (w2.heap.size+1) (encV (colR q c)).toArray):=kept_setRow (((Kept.refl No w2).alloc _).alloc _) (.inl (by omega)) _
    have hSq:(((w2.alloc (.cells (rowA q) 154)).alloc (.cells #[.int .i32 0,.int .u8 0,.int .u8 0,.int .u8 0,.int .u8 0,.int .i64 0] 133)).setRow (w2.heap.size+1) (encV (colR q c)).toArray).heap[w2.heap.size]? =some (.cells (rowA q) 154 (0,0)):=by
     have hk:=kept_setRow (Kept.refl (fun k=>k=w2.heap.size+1) ((w2.alloc (.cells (rowA q) 154)).alloc (.cells #[.int .i32 0,.int .u8 0,.int .u8 0,.int .u8 0,.int .u8 0,.int .i64 0] 133))) (g:=w2.heap.size+1) (.inr rfl) (encV (colR q c)).toArray
     exact (hk.block _ (by simp;omega) (by omega)).trans (heap_alloc2_old _ _ _)
    obtain ⟨c1,hc1e⟩:∃ c1,c1=cs.setIfInBounds (o+1) (.map (some m)):=⟨_,rfl⟩;obtain ⟨cq,hcq⟩:∃ cq,cq=rowA q:=⟨_,rfl⟩;obtain ⟨cv,hcv⟩:∃ cv,cv=(encV (colR q c)).toArray:=⟨_,rfl⟩
    have HSS:=hid (And.intro ((hKW.block b (lt_of_heap HB2.out) (fun e=>e)).trans HB2.out) (And.intro hSq hSb))
    have HKW:=hid hKW;clear hSb hKW hSq HG HZ g1;generalize ((w2.alloc (.cells (rowA q) 154)).alloc (.cells #[.int .i32 0,.int .u8 0,.int .u8 0,.int .u8 0,.int .u8 0,.int .i64 0] 133)).setRow (w2.heap.size+1) (encV (colR q c)).toArray=W at HSS HKW ⊢;rw [←hc1e,←hcq,←hcv] at HSS
    have HY1:Hid (∀ w:World,w.heap[b]? =some (.cells c1 ty (0,0))→w.cell? ⟨b,o+1,none⟩=some (.map (some m))):=by
     subst hc1e
     exact fun w h=>(cell_of h _).trans (HOC1.out _)
    have HY2:Hid (∀ w:World,w.heap[w2.heap.size+1]? =some (.cells cv 133 (0,0))→(loadVar 133 ⟨w2.heap.size+1,0,none⟩).run Tryz.prog w=.ok (.agg cv) w):=by
     subst hcv
     exact fun w h=>run_loadVar_row w (w2.heap.size+1) 133 133 (encV (colR q c)).toArray (0,0) _ h Tryz.underlying133 rfl (by exact infoVal)
    have HY3:Hid (∀ w:World,w.heap[w2.heap.size]? =some (.cells cq 154 (0,0))→(loadVar 154 ⟨w2.heap.size,0,none⟩).run Tryz.prog w=.ok (.agg cq) w):=by
     subst hcq
     exact fun w h=>run_loadVar_row w w2.heap.size 154 154 (rowA q) (0,0) _ h Tryz.underlying154 rfl (by rw [rowA_size];exact infoRow)
    have HCV:Hid (.agg cv=aggV (colR q c)):=by show _=_;rw [hcv];rfl
    have HCQ:=hid hcq;have HC1:=hid hc1e
    have HB22:Hid (w2.heap[b]? =some (.cells c1 ty (0,0))):=by show _=_;rw [hc1e];exact HB2.out
    clear hc1e hcq hcv HB2
    have HMW:Hid (ShOk W.drew (oB w O id) id m c (S++es) fr):=HSH.out.mk2 fun k hk=>by
     have hl:k<w2.heap.size:=by
      rcases hk with rfl | ⟨v,e⟩
      ·exact hmz
      ·exact (HSH.out.bag e).2.2.1.lt
     exact ⟨HKW.out.drew.block k hl (fun e=>e),rfl⟩
    cases hfv:fr (colR q c)
    case' none =>
     have HFV:=hid hfv
     have HMV:Hid ((shM fr (colR q c)).getD (.map none)=.map none):=by show _=_;unfold shM;rw [hfv];rfl
     clear hfv
     refine wp_region_held_drew (S:=fun w'=>w'.heap[b]? =some (.cells c1 ty (0,0))∧w'.heap[w2.heap.size]? =some (.cells cq 154 (0,0))∧w'.heap[w2.heap.size+1]? =some (.cells cv 133 (0,0))) (by kernel_rfl) HSS.out (fun hHeld=> ?_)
     refine tk_P 0 (.pointer (some ⟨b,o,none⟩)) hHeld ?_;try simp only [Act.put,n_1,n_2,n_3,n_4,n_5,n_6]
     refine tk_P 1 (.pointer (some ⟨b,o,none⟩)) hHeld ?_;try simp only [Act.put,n_1,n_2,n_3,n_4,n_5,n_6]
     refine tk_P 2 (.pointer (some ⟨b,o+1,none⟩)) hHeld ?_;try simp only [Act.put,n_1,n_2,n_3,n_4,n_5,n_6]
     refine tk_C 3 (.map (some m)) 233 (.tmp 32) (b) (o+1) (fun w h=>HY1.out w h.1) hHeld ?_
     try simp only [Act.put,n_1,n_2,n_3,n_4,n_5,n_6]
     refine tk_L 4 (.agg cv) 133 (.tmp 6) (w2.heap.size+1) (0) (fun w h=>HY2.out w h.2.2) hHeld ?_
     try simp only [Act.put,n_1,n_2,n_3,n_4,n_5,n_6]
     refine tk_S 5 (fun K hK=> ?_)
     rw [if_pos (by kernel_rfl)]
     refine wp_lookup_map valKE (.tmp 33) (.tmp 34) 233 83 (by kernel_rfl) Tryz.underlying233 (.map none) (zeroBag _) m (shM fr) (by kernel_rfl) HMW.out.map (colR q c) HV0.out (by rw [←HCV.out];kernel_rfl) _ HMV.out ?_
     refine hK.out _ _ hHeld (fun hHeld=> ?_)
     clear hK K;try simp only [Act.put,n_1,n_2,n_3,n_4,n_5,n_6]
     have hq2:=hq1 none;refine tk_P 6 (.bool (Option.isNone (none:Option Nat))) hHeld ?_;try simp only [Act.put,n_1,n_2,n_3,n_4,n_5,n_6]
     refine wpAnyH_done (by kernel_rfl) ?_ _
     clear hq2;try simp only [Act.put,n_1,n_2,n_3,n_4,n_5,n_6]
     have hmm:=@run_makeMap Tryz.prog;have HS5:=hid hHeld;have HK5:Hid (Kept No w2 W.drew):=HKW.out.drew;clear hHeld HSS HKW HMV;generalize W.drew=w5 at HS5 HK5 HMW ⊢;go_wp2_with fail
     refine wp_region_held_drew (S:=fun w'=>w'.heap[b]? =some (.cells c1 ty (0,0))∧w'.heap[w2.heap.size]? =some (.cells cq 154 (0,0))∧w'.heap[w2.heap.size+1]? =some (.cells cv 133 (0,0))) (by kernel_rfl) HS5.out (fun hHeld=> ?_)
     refine tk_P 0 (.pointer (some ⟨b,o,none⟩)) hHeld ?_;try simp only [Act.put,n_1,n_2,n_3,n_4,n_5,n_6]
     refine tk_P 1 (.pointer (some ⟨b,o,none⟩)) hHeld ?_;try simp only [Act.put,n_1,n_2,n_3,n_4,n_5,n_6]
     refine tk_P 2 (.pointer (some ⟨b,o+1,none⟩)) hHeld ?_;try simp only [Act.put,n_1,n_2,n_3,n_4,n_5,n_6]
     refine tk_C 3 (.map (some m)) 233 (.tmp 39) (b) (o+1) (fun w h=>HY1.out w h.1) hHeld ?_
     try simp only [Act.put,n_1,n_2,n_3,n_4,n_5,n_6]
     refine tk_L 4 (.agg cv) 133 (.tmp 6) (w2.heap.size+1) (0) (fun w h=>HY2.out w h.2.2) hHeld ?_
     try simp only [Act.put,n_1,n_2,n_3,n_4,n_5,n_6]
     refine tk_S 5 (fun K hK=> ?_)
     go_simp;have hS6:((w5.alloc (.map #[] 0)).drew).heap[b]? =some (.cells c1 ty (0,0))∧((w5.alloc (.map #[] 0)).drew).heap[w2.heap.size]? =some (.cells cq 154 (0,0))∧((w5.alloc (.map #[] 0)).drew).heap[w2.heap.size+1]? =some (.cells cv 133 (0,0)):=⟨(Below.heap_alloc _ _ _ (lt_of_heap hHeld.1)).trans hHeld.1,(Below.heap_alloc _ _ _ (lt_of_heap hHeld.2.1)).trans hHeld.2.1,(Below.heap_alloc _ _ _ (lt_of_heap hHeld.2.2)).trans hHeld.2.2⟩;have HNB6:Hid (BagAt ((w5.alloc (.map #[] 0)).drew) w5.heap.size []):=BagAt.made w5;have HK6:Hid (Kept No w2 ((w5.alloc (.map #[] 0)).drew)):=(HK5.out.alloc _).drew;have HM6:Hid (MapIs 133 aggV VOk ((w5.alloc (.map #[] 0)).drew) m (shM fr)):=HMW.out.map.of_block (Below.heap_alloc _ _ _ HMW.out.map.lt);have HCOV:=hid (sh_cov HMW.out);have hnb6:w2.heap.size≤w5.heap.size:=HK5.out.size;generalize (w5.alloc (.map #[] 0)).drew=w6 at hS6 HNB6 HK6 HM6 ⊢;generalize w5.heap.size=bv at HNB6 hnb6 ⊢
     refine hK.out _ _ hS6 (fun hHeld=> ?_)
     clear hK K;try simp only [Act.put,n_1,n_2,n_3,n_4,n_5,n_6]
     refine tk_S 6 (fun K hK=> ?_)
     rw [if_pos (by kernel_rfl)]
     refine wp_update_map valKE (.tmp 40) (.tmp 41) (.tmp 42) 233 83 (by kernel_rfl) Tryz.underlying233 m (shM fr) _ (by kernel_rfl) HM6.out HCOV.out (sh_len HS1.out HD.out (ents_init HR2.out.ents) c (colR q c)).1 (colR q c) HV0.out (.map (some bv)) (by rw [←HCV.out];kernel_rfl) (by kernel_rfl) ?_
     intro w7 hm7 ht7
     have hk67:Kept (fun k=>k=m) w6 w7:=(Kept.refl _ _).grown ht7.grown (fun r e=>by cases e;exact .inr rfl)
     have hbvl:=HNB6.out.lt
     have hmb:m≠bv:=by omega
     have hobm:∀ k,(∃ c' t' z',w6.heap[k]? =some (.cells c' t' z'))→k≠m:=by
      rintro k ⟨c',t',z',hx⟩ rfl;obtain ⟨es',ck,hm'⟩:=HM6.out.obj
      rw [hm'] at hx;cases hx
     have hS7:w7.heap[b]? =some (.cells c1 ty (0,0))∧w7.heap[w2.heap.size]? =some (.cells cq 154 (0,0))∧w7.heap[w2.heap.size+1]? =some (.cells cv 133 (0,0)):=⟨(hk67.block _ (lt_of_heap hHeld.1) (hobm _ ⟨_,_,_,hHeld.1⟩)).trans hHeld.1,(hk67.block _ (lt_of_heap hHeld.2.1) (hobm _ ⟨_,_,_,hHeld.2.1⟩)).trans hHeld.2.1,(hk67.block _ (lt_of_heap hHeld.2.2) (hobm _ ⟨_,_,_,hHeld.2.2⟩)).trans hHeld.2.2⟩
     refine hK.out _ _ hS7 (fun hHeld=> ?_)
     clear hK K
     refine wpAnyH_done (by kernel_rfl) ?_ _
     have HS7:=hid hHeld
     have HK7:Hid (Kept (fun k=>k=m) w2 w7):=HK6.out.noSeq hk67
     have HBV:Hid (BagAt w7 bv (canon (selV c (colR q c) (S++es)))):=by
      show BagAt _ _ _
      rw [HSH.out.no HV0.out HFV.out]
      exact HNB6.out.kept hk67 (fun e=>hmb e.symm)
     obtain ⟨f1,hf1⟩:∃ f1,f1=updF fr (colR q c) (some bv):=⟨_,rfl⟩
     have HM7:Hid (MapIs 133 aggV VOk w7 m (shM f1)):=by
      show MapIs _ _ _ _ _ _
      rw [hf1,←shM_upd];exact hm7
     have HF1:Hid (f1 (colR q c)=some bv):=by show _=_;rw [hf1];simp [updF]
     have HFO:Hid (∀ v,v≠colR q c→f1 v=fr v):=fun v hv=>by rw [hf1];simp [updF,hv]
     have HBW:Hid ((oB w O id) bv=id∧bv≠m∧(∀ v,v≠colR q c→fr v≠some bv)∧((∃ v,fr v=some bv)∨w2.heap.size≤bv)):=⟨oB_new (by omega),fun e=>hmb e.symm,fun v _ e=>by have:=(HSH.out.bag e).2.2.1.lt;omega,.inr hnb6⟩
     clear hHeld hS6 hS7 HNB6 HK6 HM6 HCOV hm7 ht7 hk67 hobm hf1 HFV HS5 HK5 HMW hmm hmb hbvl hnb6;try simp only [Act.put,n_1,n_2,n_3,n_4,n_5,n_6]
     go_wp2_with fail
    case' some bv =>
     have HFV:=hid hfv
     have HMV:Hid ((shM fr (colR q c)).getD (.map none)=.map (some bv)):=by show _=_;unfold shM;rw [hfv];rfl
     clear hfv
     refine wp_region_held_drew (S:=fun w'=>w'.heap[b]? =some (.cells c1 ty (0,0))∧w'.heap[w2.heap.size]? =some (.cells cq 154 (0,0))∧w'.heap[w2.heap.size+1]? =some (.cells cv 133 (0,0))) (by kernel_rfl) HSS.out (fun hHeld=> ?_)
     refine tk_P 0 (.pointer (some ⟨b,o,none⟩)) hHeld ?_;try simp only [Act.put,n_1,n_2,n_3,n_4,n_5,n_6]
     refine tk_P 1 (.pointer (some ⟨b,o,none⟩)) hHeld ?_;try simp only [Act.put,n_1,n_2,n_3,n_4,n_5,n_6]
     refine tk_P 2 (.pointer (some ⟨b,o+1,none⟩)) hHeld ?_;try simp only [Act.put,n_1,n_2,n_3,n_4,n_5,n_6]
     refine tk_C 3 (.map (some m)) 233 (.tmp 32) (b) (o+1) (fun w h=>HY1.out w h.1) hHeld ?_
     try simp only [Act.put,n_1,n_2,n_3,n_4,n_5,n_6]
     refine tk_L 4 (.agg cv) 133 (.tmp 6) (w2.heap.size+1) (0) (fun w h=>HY2.out w h.2.2) hHeld ?_
     try simp only [Act.put,n_1,n_2,n_3,n_4,n_5,n_6]
     refine tk_S 5 (fun K hK=> ?_)
     rw [if_pos (by kernel_rfl)]
     refine wp_lookup_map valKE (.tmp 33) (.tmp 34) 233 83 (by kernel_rfl) Tryz.underlying233 (.map none) (zeroBag _) m (shM fr) (by kernel_rfl) HMW.out.map (colR q c) HV0.out (by rw [←HCV.out];kernel_rfl) _ HMV.out ?_
     refine hK.out _ _ hHeld (fun hHeld=> ?_)
     clear hK K;try simp only [Act.put,n_1,n_2,n_3,n_4,n_5,n_6]
     have hq2:=hq1 (some bv);refine tk_P 6 (.bool (Option.isNone ((some bv):Option Nat))) hHeld ?_;try simp only [Act.put,n_1,n_2,n_3,n_4,n_5,n_6]
     refine wpAnyH_done (by kernel_rfl) ?_ _
     clear hq2;try simp only [Act.put,n_1,n_2,n_3,n_4,n_5,n_6]
     have HS7:=hid hHeld
     have HK7:Hid (Kept (fun k=>k=m) w2 W.drew):=HKW.out.drew.any
     have HBV:Hid (BagAt W.drew bv (canon (selV c (colR q c) (S++es)))):=(HMW.out.bag HFV.out).2.2.1;have HM7:Hid (MapIs 133 aggV VOk W.drew m (shM fr)):=HMW.out.map
     have HBW:Hid ((oB w O id) bv=id∧bv≠m∧(∀ v,v≠colR q c→fr v≠some bv)∧((∃ v,fr v=some bv)∨w2.heap.size≤bv)):=⟨(HMW.out.bag HFV.out).1,(HMW.out.bag HFV.out).2.1,fun v hv e=>hv (HMW.out.inj e HFV.out),.inl ⟨_,HFV.out⟩⟩
     obtain ⟨f1,hf1⟩:∃ f1,f1=fr:=⟨_,rfl⟩;rw [←hf1] at HM7
     have HF1:Hid (f1 (colR q c)=some bv):=by show _=_;rw [hf1];exact HFV.out
     have HFO:Hid (∀ v,v≠colR q c→f1 v=fr v):=fun v _=>by rw [hf1]
     clear hHeld HSS HKW HMV HMW hf1 HFV;generalize W.drew=w7 at HS7 HK7 HBV HM7 ⊢;go_wp2_with fail
    all_goals
     have HME:Hid ((shM f1 (colR q c)).getD (.map none)=.map (some bv)):=by show _=_;unfold shM;rw [HF1.out];rfl
     have HADD:Hid (∀ w',Kept No w7 w'→Calls Tryz.prog 79 #[.map (some bv),.agg cq,.int .i64 t] w' fun e w''=>e=.returned (.tuple #[])∧BagAt w'' bv ((q,t)::canon (selV c (colR q c) (S++es)))∧Kept (·=bv) w' w''):=by
      refine hid ?_;rw [HCQ.out];intro w' hk'
      have h1:=HBV.out.kept hk' (fun e=>e)
      exact add_any bv _ q t w' h1 HQK.out (sh_len HS1.out HD.out (ents_init HR2.out.ents) c (colR q c)).2
     have HM7d:Hid (MapIs 133 aggV VOk w7.drew m (shM f1)):=HM7.out.of_block rfl
     refine wp_region_held_drew (S:=fun w'=>w'.heap[b]? =some (.cells c1 ty (0,0))∧w'.heap[w2.heap.size]? =some (.cells cq 154 (0,0))∧w'.heap[w2.heap.size+1]? =some (.cells cv 133 (0,0))) (by kernel_rfl) HS7.out (fun hHeld=> ?_)
     refine tk_P 0 (.pointer (some ⟨b,o,none⟩)) hHeld ?_;try simp only [Act.put,n_1,n_2,n_3,n_4,n_5,n_6]
     refine tk_P 1 (.pointer (some ⟨b,o,none⟩)) hHeld ?_;try simp only [Act.put,n_1,n_2,n_3,n_4,n_5,n_6]
     refine tk_P 2 (.pointer (some ⟨b,o+1,none⟩)) hHeld ?_;try simp only [Act.put,n_1,n_2,n_3,n_4,n_5,n_6]
     refine tk_C 3 (.map (some m)) 233 (.tmp 45) (b) (o+1) (fun w h=>HY1.out w h.1) hHeld ?_
     try simp only [Act.put,n_1,n_2,n_3,n_4,n_5,n_6]
     refine tk_L 4 (.agg cv) 133 (.tmp 6) (w2.heap.size+1) (0) (fun w h=>HY2.out w h.2.2) hHeld ?_
     try simp only [Act.put,n_1,n_2,n_3,n_4,n_5,n_6]
     refine tk_L 6 (.agg cq) 154 (.tmp 4) (w2.heap.size) (0) (fun w h=>HY3.out w h.2.1) hHeld ?_
     try simp only [Act.put,n_1,n_2,n_3,n_4,n_5,n_6]
     refine tk_P 7 (.int .i64 t) hHeld ?_;try simp only [Act.put,n_1,n_2,n_3,n_4,n_5,n_6]
     refine tk_S 5 (fun K hK=> ?_)
     rw [if_pos (by kernel_rfl)]
     refine wp_lookup_map valKE (.tmp 46) (.tmp 47) 233 83 (by kernel_rfl) Tryz.underlying233 (.map none) (zeroBag _) m (shM f1) (by kernel_rfl) HM7d.out (colR q c) HV0.out (by rw [←HCV.out];kernel_rfl) _ HME.out ?_
     refine hK.out _ _ hHeld (fun hHeld=> ?_)
     clear hK K;try simp only [Act.put,n_1,n_2,n_3,n_4,n_5,n_6]
     refine tk_S 8 (fun K hK=> ?_)
     go_simp;refine (HADD.out _ ((Kept.refl No w7).drew)).mono ?_;rintro e w8 ⟨rfl,ha8,hk8⟩
     have hobv:∀ k,(∃ c' t' z',w7.heap[k]? =some (.cells c' t' z'))→k≠bv:=by
      rintro k ⟨c',t',z',hx⟩ rfl;obtain ⟨es',ck,hm'⟩:=HBV.out.obj
      rw [hm'] at hx;cases hx
     have hS8:w8.heap[b]? =some (.cells c1 ty (0,0))∧w8.heap[w2.heap.size]? =some (.cells cq 154 (0,0))∧w8.heap[w2.heap.size+1]? =some (.cells cv 133 (0,0)):=⟨(hk8.block _ (lt_of_heap hHeld.1) (hobv _ ⟨_,_,_,hHeld.1⟩)).trans hHeld.1,(hk8.block _ (lt_of_heap hHeld.2.1) (hobv _ ⟨_,_,_,hHeld.2.1⟩)).trans hHeld.2.1,(hk8.block _ (lt_of_heap hHeld.2.2) (hobv _ ⟨_,_,_,hHeld.2.2⟩)).trans hHeld.2.2⟩
     refine hK.out _ _ hS8 (fun hHeld=> ?_)
     clear hK K
     refine wpAnyH_done (by kernel_rfl) ?_ _
     have HS8:=hid hHeld
     have HK8:Hid (Kept (fun k=>k=m∨k=bv) w2 w8):=HK7.out.trans (((Kept.refl No w7).drew).noSeq hk8) (fun _ e=>.inl e) (fun _ _ e=>.inr e)
     have HM8:Hid (MapIs 133 aggV VOk w8 m (shM f1)):=HM7d.out.of_block (hk8.block m HM7d.out.lt (fun e=>HBW.out.2.1 e.symm))
     have HEQ:Hid (Eqv ((q,t)::canon (selV c (colR q c) (S++es))) (selV c (colR q c) ((S++es)++[(q,t)]))):=fun r=>by
      rw [selV_snoc,Mo.cnt_append]
      have e1:cnt ((q,t)::canon (selV c (colR q c) (S++es))) r=(if q=r then t else 0)+cnt (canon (selV c (colR q c) (S++es))) r:=rfl
      have e2:cnt [(q,t)] r=(if q=r then t else 0)+0:=rfl
      rw [e1,e2,Mo.canon_cnt];omega
     have HBV8:Hid (BagAt w8 bv (canon (selV c (colR q c) ((S++es)++[(q,t)])))):=ha8.canon_of HEQ.out
     have HBD:Hid (∀ r,wrap64 (cnt (canon (selV c (colR q c) ((S++es)++[(q,t)]))) r)=cnt (selV c (colR q c) ((S++es)++[(q,t)])) r):=fun r=>by
      rw [Mo.canon_cnt,wrap64_id];rw [cnt_selV,List.append_assoc,Mo.cnt_append];have h1:=HS1.out.bd r;have h2:=HS2.out.bd r;rw [Mo.cnt_append] at h2;have h3:=HR2.out.ents.cnt_or HD.out r
      split <;> omega
     clear hHeld hS8 ha8 hk8 hobv HADD HM7d HEQ HS7 HBV HM7 HK7;try simp only [Act.put,n_1,n_2,n_3,n_4,n_5,n_6]
     go_wp2_with fail;have HM8d:Hid (MapIs 133 aggV VOk w8.drew m (shM f1)):=HM8.out.of_block rfl;have HBV8d:Hid (BagAt w8.drew bv (canon (selV c (colR q c) ((S++es)++[(q,t)])))):=HBV8.out.of_block rfl
     refine wp_region_held_drew (S:=fun w'=>w'.heap[b]? =some (.cells c1 ty (0,0))∧w'.heap[w2.heap.size]? =some (.cells cq 154 (0,0))∧w'.heap[w2.heap.size+1]? =some (.cells cv 133 (0,0))) (by kernel_rfl) HS8.out (fun hHeld=> ?_)
     refine tk_P 0 (.pointer (some ⟨b,o,none⟩)) hHeld ?_;try simp only [Act.put,n_1,n_2,n_3,n_4,n_5,n_6]
     refine tk_P 1 (.pointer (some ⟨b,o,none⟩)) hHeld ?_;try simp only [Act.put,n_1,n_2,n_3,n_4,n_5,n_6]
     refine tk_P 2 (.pointer (some ⟨b,o+1,none⟩)) hHeld ?_;try simp only [Act.put,n_1,n_2,n_3,n_4,n_5,n_6]
     refine tk_C 3 (.map (some m)) 233 (.tmp 54) (b) (o+1) (fun w h=>HY1.out w h.1) hHeld ?_
     try simp only [Act.put,n_1,n_2,n_3,n_4,n_5,n_6]
     refine tk_L 4 (.agg cv) 133 (.tmp 6) (w2.heap.size+1) (0) (fun w h=>HY2.out w h.2.2) hHeld ?_
     try simp only [Act.put,n_1,n_2,n_3,n_4,n_5,n_6]
     refine tk_S 5 (fun K hK=> ?_)
     rw [if_pos (by kernel_rfl)]
     refine wp_lookup_map valKE (.tmp 55) (.tmp 56) 233 83 (by kernel_rfl) Tryz.underlying233 (.map none) (zeroBag _) m (shM f1) (by kernel_rfl) HM8d.out (colR q c) HV0.out (by rw [←HCV.out];kernel_rfl) _ HME.out ?_
     refine hK.out _ _ hHeld (fun hHeld=> ?_)
     clear hK K;try simp only [Act.put,n_1,n_2,n_3,n_4,n_5,n_6]
     refine tk_S 6 (fun K hK=> ?_)
     rw [if_pos (by kernel_rfl)]
     refine wp_len_map rowKE (.tmp 57) 83 2 (by kernel_rfl) Tryz.underlying83 bv _ (by kernel_rfl) HBV8d.out.2 ?_
     intro ks hkn hks
     refine hK.out _ _ hHeld (fun hHeld=> ?_)
     clear hK K hkn;try simp only [Act.put,n_1,n_2,n_3,n_4,n_5,n_6]
     have HKS:Hid ((ks.length:Int)=0↔canon (selV c (colR q c) ((S++es)++[(q,t)]))=[]):=by
      constructor
      ·intro h0
       have:ks=[]:=List.eq_nil_of_length_eq_zero (by omega)
       subst this;rw [Mo.canon_nil_iff];intro r
       refine Classical.byContradiction fun hr=> ?_
       have h1:r∈([]:List Row):=(hks r).2 (by unfold bagM;rw [HBD.out r,if_neg hr];rfl)
       cases h1
      ·intro h0
       cases ks with
       | nil=>rfl
       | cons r ks =>
         have h1:=(hks r).1 (by simp)
         unfold bagM at h1;rw [HBD.out r,Mo.canon_nil_iff.1 h0 r,if_pos rfl] at h1
         cases h1
     generalize (ks.length:Int)=nk at HKS ⊢;clear hks;refine tk_P 7 (.bool (nk == 0)) hHeld ?_;try simp only [Act.put,n_1,n_2,n_3,n_4,n_5,n_6]
     refine wpAnyH_done (by kernel_rfl) ?_ _
     have HK9:Hid (Kept (fun k=>k=m∨k=bv) w2 w8.drew):=HK8.out.drew
     have HS9:=hid hHeld;clear hHeld HS8 HK8 HM8 HBV8 HBD;try simp only [Act.put,n_1,n_2,n_3,n_4,n_5,n_6]
     generalize w8.drew=w9 at HK9 HS9 HM8d HBV8d ⊢
     have hb2':w2.heap[b]? =some (.cells (cs.setIfInBounds (o+1) (.map (some m))) ty (0,0)):=by rw [←HC1.out];exact HB22.out
     by_cases hnk:nk=0
     ·have hnk':(nk == 0)=true:=by simp [hnk]
      have HZ:=hid (HKS.out.1 hnk);clear hnk;go_wp2_with fail;have HM9d:Hid (MapIs 133 aggV VOk w9.drew m (shM f1)):=HM8d.out.of_block rfl
      refine wp_region_held_drew (S:=fun w'=>w'.heap[b]? =some (.cells c1 ty (0,0))∧w'.heap[w2.heap.size]? =some (.cells cq 154 (0,0))∧w'.heap[w2.heap.size+1]? =some (.cells cv 133 (0,0))) (by kernel_rfl) HS9.out (fun hHeld=> ?_)
      refine tk_P 0 (.pointer (some ⟨b,o,none⟩)) hHeld ?_;try simp only [Act.put,n_1,n_2,n_3,n_4,n_5,n_6]
      refine tk_P 1 (.pointer (some ⟨b,o,none⟩)) hHeld ?_;try simp only [Act.put,n_1,n_2,n_3,n_4,n_5,n_6]
      refine tk_P 2 (.pointer (some ⟨b,o+1,none⟩)) hHeld ?_;try simp only [Act.put,n_1,n_2,n_3,n_4,n_5,n_6]
      refine tk_C 3 (.map (some m)) 233 (.tmp 62) (b) (o+1) (fun w h=>HY1.out w h.1) hHeld ?_
      try simp only [Act.put,n_1,n_2,n_3,n_4,n_5,n_6]
      refine tk_L 4 (.agg cv) 133 (.tmp 6) (w2.heap.size+1) (0) (fun w h=>HY2.out w h.2.2) hHeld ?_
      try simp only [Act.put,n_1,n_2,n_3,n_4,n_5,n_6]
      refine tk_S 5 (fun K hK=> ?_)
      rw [if_pos (by kernel_rfl)]
      refine wp_delete_map valKE (.tmp 63) (.tmp 64) 233 83 (by kernel_rfl) Tryz.underlying233 m (shM f1) (by kernel_rfl) HM9d.out (colR q c) HV0.out (by rw [←HCV.out];kernel_rfl) ?_
      intro wf hmf htf
      have hk9f:Kept (fun k=>k=m) w9 wf:=((Kept.refl _ w9).drew).grown htf.grown (fun r e=>by cases e;exact .inr rfl)
      have hobm:∀ k,(∃ c' t' z',w9.heap[k]? =some (.cells c' t' z'))→k≠m:=by
       rintro k ⟨c',t',z',hx⟩ rfl;obtain ⟨es',ck,hm'⟩:=HM8d.out.obj
       rw [hm'] at hx;cases hx
      have hSf:wf.heap[b]? =some (.cells c1 ty (0,0))∧wf.heap[w2.heap.size]? =some (.cells cq 154 (0,0))∧wf.heap[w2.heap.size+1]? =some (.cells cv 133 (0,0)):=⟨(hk9f.block _ (lt_of_heap hHeld.1) (hobm _ ⟨_,_,_,hHeld.1⟩)).trans hHeld.1,(hk9f.block _ (lt_of_heap hHeld.2.1) (hobm _ ⟨_,_,_,hHeld.2.1⟩)).trans hHeld.2.1,(hk9f.block _ (lt_of_heap hHeld.2.2) (hobm _ ⟨_,_,_,hHeld.2.2⟩)).trans hHeld.2.2⟩
      refine hK.out _ _ hSf (fun hHeld=> ?_)
      clear hK K
      refine wpAnyH_done (by kernel_rfl) ?_ _
      have hkf:Kept (fun k=>k=m∨k=bv) w2 wf:=HK9.out.trans hk9f (fun _ e=>e) (fun _ _ e=>.inl e)
      have HNX:=hid (ShLoop.next (ff:=updF f1 (colR q c) none) HR2.out hb2' HSH.out HOWN.out HK2.out HOB.out hcl hkf (by have:=shM_upd f1 (colR q c) none;rw [←this];exact hmf) HBW.out (.inr ⟨by simp [updF],HZ.out⟩) (fun v hv=>by rw [←HFO.out v hv];simp [updF,hv]))
      clear hHeld hSf hmf htf hk9f hobm hkf HM9d HY1 HY2 HY3;try simp only [Act.put,n_1,n_2,n_3,n_4,n_5,n_6]
      go_wp2_with fail;go_roundg k2
      case measure=>exact hlt
      case rel=>exact ⟨es++[(q,t)],_,HNX⟩
     ·have hnk':(nk == 0)=false:=by simp [hnk]
      have HZ:Hid (canon (selV c (colR q c) ((S++es)++[(q,t)]))≠[]):=fun h=>hnk (HKS.out.2 h)
      have HNX:=hid (ShLoop.next (ff:=f1) HR2.out hb2' HSH.out HOWN.out HK2.out HOB.out hcl HK9.out HM8d.out HBW.out (.inl ⟨HF1.out,HBV8d.out,HZ.out⟩) HFO.out);clear hnk HY1 HY2 HY3;go_wp2_with fail;go_roundg k2
      case measure=>exact hlt
      case rel=>exact ⟨es++[(q,t)],_,HNX⟩
end Go.Proofs.YtdinjjmcmfjbfaaGreatDoor
namespace Go.Proofs.YtdinjjmcmfjbfaaGreatDoor.Mo
def jRow (il:Bool) (x y:Row):Row:=if il then x++y else y++x
def selC (c:Nat) (v:V) (s:Bag):Bag:=selB (fun r=>decide (colR r c=v)) s
def jL (il:Bool) (c c2:Nat) (es s:Bag):Bag:=es.flatMap fun x=>(selC c2 (colR x.1 c) s).map fun y=>(jRow il x.1 y.1,x.2*y.2)
theorem jL_snoc (il:Bool) (c c2:Nat) (es s:Bag) (q:Row) (t:Int):jL il c c2 (es++[(q,t)]) s=jL il c c2 es s++(selC c2 (colR q c) s).map fun y=>(jRow il q y.1,t*y.2):=by
 unfold jL;rw [List.flatMap_append];simp
theorem jL_left (c c2:Nat) (es s:Bag):jL true c c2 es s=joinB c c2 es s:=by
 unfold jL joinB selC jRow
 congr 1
 funext x
 have:(fun r=>decide (colR r c2=colR x.1 c))=fun y=>decide (colR x.1 c=colR y c2):=by funext r;exact decide_eq_decide.2 ⟨Eq.symm,Eq.symm⟩
 rw [this];rfl
theorem jL_right (c c2:Nat) (es s:Bag):Eqv (jL false c c2 es s) (joinB c2 c s es):=joinR_eqv c2 c es s
theorem jL_eqv {il:Bool} {c c2:Nat} {es es' s s':Bag} (h:Eqv es es') (k:Eqv s s'):Eqv (jL il c c2 es s) (jL il c c2 es' s'):=by
 cases il with
 | true=>rw [jL_left,jL_left];exact joinB_eqv h k
 | false=>exact (jL_right _ _ _ _).trans ((joinB_eqv k h).trans (jL_right _ _ _ _).symm)
theorem row_eqv {t:Int} {g:Row→Row} {l m:Bag} (h:Eqv l m):Eqv (l.map fun y=>(g y.1,t*y.2)) (m.map fun y=>(g y.1,t*y.2)):=eqv_of_lin fun k=>by rw [scale_lin,scale_lin,h.lin]
theorem pair_le {n m:Nat} {a b:Bag} (ha:nn a) (hb:nn b) {x y:Row} (h:colR x n=colR y m):cnt a x*cnt b y≤Nr (joinB n m a b):=by
 unfold Nr;rw [joinB_lin,cnt_eq_lin a x]
 have e1:lin a (fun r=>if r=x then 1 else 0)*cnt b y=lin a (fun r=>if r=x then cnt b y else 0):=by
  rw [Int.mul_comm,←lin_mul]
  refine lin_congr_fun a fun e _=> ?_
  split <;> simp
 rw [e1]
 refine lin_mono ha fun r=> ?_
 by_cases hr:r=x
 ·subst hr
  rw [if_pos rfl,cnt_eq_lin]
  refine lin_mono hb fun z=> ?_
  by_cases hz:z=y
  ·subst hz;simp [h]
  ·rw [if_neg hz];split <;> omega
 ·rw [if_neg hr]
  exact lin_nn hb fun z=>by split <;> omega
theorem pair_lin {n m:Nat} {a b:Bag} (ha:nn a) (hb:nn b) {x y:Row} (h:colR x n=colR y m) {g:Row→Int} (hg:∀ r,0≤g r) (h1:1≤g (x++y)):cnt a x*cnt b y≤lin (joinB n m a b) g:=by
 rw [joinB_lin,cnt_eq_lin a x]
 have e1:lin a (fun r=>if r=x then 1 else 0)*cnt b y=lin a (fun r=>if r=x then cnt b y else 0):=by
  rw [Int.mul_comm,←lin_mul]
  refine lin_congr_fun a fun e _=> ?_
  split <;> simp
 rw [e1]
 refine lin_mono ha fun r=> ?_
 by_cases hr:r=x
 ·subst hr
  rw [if_pos rfl,cnt_eq_lin]
  refine lin_mono hb fun z=> ?_
  by_cases hz:z=y
  ·subst hz;simp only [h,decide_true,if_true];exact h1
  ·rw [if_neg hz];split;exact hg _;exact Int.le_refl _
 ·rw [if_neg hr]
  exact lin_nn hb fun z=>by split;exact hg _;exact Int.le_refl _
theorem pair_cnt {n m:Nat} {a b:Bag} (ha:nn a) (hb:nn b) {x y:Row} (h:colR x n=colR y m) (hx:cnt a x≠0) (hy:cnt b y≠0):cnt (joinB n m a b) (x++y)≠0:=by
 have h1:=pair_lin ha hb h (g:=fun r=>if r=x++y then 1 else 0) (fun r=>by split <;> omega) (by simp)
 rw [←cnt_eq_lin] at h1;have h2:=ha x;have h3:=hb y
 have h4:1≤cnt a x*cnt b y:=by
  have:=Int.mul_le_mul (show (1:Int)≤cnt a x by omega) (show (1:Int)≤cnt b y by omega) (by omega) h2
  simpa using this
 omega
theorem pair_bd {n m:Nat} {a b d:Bag} (ha:nn a) (had:nn (a++d)) (hb:nn b) (h1:Nr (joinB n m a b)≤3000000000000) (h2:Nr (joinB n m (a++d) b)≤3000000000000) {x y:Row} (h:colR x n=colR y m): -9223372036854775808≤cnt d x*cnt b y∧cnt d x*cnt b y≤9223372036854775807:=by
 have e1:=pair_le ha hb h;have e2:=pair_le had hb h
 have e3:cnt d x*cnt b y=cnt (a++d) x*cnt b y-cnt a x*cnt b y:=by rw [cnt_append,Int.add_mul];omega
 have e4:=Int.mul_nonneg (ha x) (hb y);have e5:=Int.mul_nonneg (had x) (hb y);omega
theorem pair_bd2 {n m:Nat} {a b d:Bag} (ha:nn a) (hb:nn b) (hbd:nn (b++d)) (h1:Nr (joinB n m a b)≤3000000000000) (h2:Nr (joinB n m a (b++d))≤3000000000000) {x y:Row} (h:colR x n=colR y m): -9223372036854775808≤cnt d y*cnt a x∧cnt d y*cnt a x≤9223372036854775807:=by
 have e1:=pair_le ha hb h;have e2:=pair_le ha hbd h
 have e3:cnt d y*cnt a x=cnt a x*cnt (b++d) y-cnt a x*cnt b y:=by rw [cnt_append,Int.mul_add,Int.mul_comm];omega
 have e4:=Int.mul_nonneg (ha x) (hb y);have e5:=Int.mul_nonneg (ha x) (hbd y);omega
end Go.Proofs.YtdinjjmcmfjbfaaGreatDoor.Mo
