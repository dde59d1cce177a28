import Derived.Test.YtdinjjmcmfjbfaaGreatDoorJmJ
import Derived.Test.YtdinjjmcmfjbfaaGreatDoorKsJ
import Derived.Test.YtdinjjmcmfjbfaaGreatDoorKiJ
set_option maxRecDepth 100000
set_option maxHeartbeats 4000000
namespace Go.Proofs.YtdinjjmcmfjbfaaGreatDoor
set_option linter.unusedSimpArgs false
open Go.RowKit Go.Shelf
open Mo (V Row Bag cnt canon Eqv OkB OkD colR jRow jL)
theorem wp_lookup_sh {w:World} {o:Oper} {a:Act} {K':Act→World→Prop} {Q:Exit→Act→World→Prop} {O:Ow} {id c:Nat} {S:Bag} {f:V→Option Nat} (mo x:Operand) (hop:o.op=Op.lookup 233 mo x false) (hv:Value) (hm:a.eval mo=hv) (h:ShAt w O id hv c S f) (v:V) (hok:VOk v) (hx:a.eval x=aggV v) (u:Value) (hu:(shM f v).getD (.map none)=u)
 (hK:K' (a.put o.dst u) w):o.wp Tryz.prog a w K' Q:=by
 rcases h with ⟨rfl,_,h3⟩ | ⟨m,rfl,h⟩
 ·have:u=.map none:=by rw [←hu];unfold shM;rw [h3];rfl
  subst this;exact wp_lookup_none valKE mo x _ 83 hop Tryz.underlying233 _ (zeroBag _) hm v hok hx hK
 ·exact wp_lookup_map valKE mo x _ 83 hop Tryz.underlying233 _ (zeroBag _) m (shM f) hm h.map v hok hx u hu hK
theorem wp_range_bag {w:World} {o:Oper} {a:Act} {K':Act→World→Prop} {Q:Exit→Act→World→Prop} (mo:Operand) (hop:o.op=Op.range 83 mo) (b:Nat) (l:Bag) (hm:a.eval mo=.map (some b)) (hown:BagAt w b l)
 (hK:∀ w' k,BRng w' b w.heap.size l [] k→Kept No w w'→w'.heap.size=w.heap.size+1→K' (a.put o.dst (.pointer (some ⟨w.heap.size,0,none⟩))) w'):o.wp Tryz.prog a w K' Q:=by
 refine wp_range_map rowKE mo 83 2 hop Tryz.underlying83 b (bagM l) hm hown.2 ?_;intro w' k h1 h2 h3
 exact hK w' k ⟨hown.1,⟨by simp,by simp⟩,h1⟩ ((Kept.refl _ _).grown h2 (fun r e=>by cases e)) h3
theorem wp_range_none {w:World} {o:Oper} {a:Act} {K':Act→World→Prop} {Q:Exit→Act→World→Prop} (mo:Operand) (hop:o.op=Op.range 83 mo) (hm:a.eval mo=.map none)
 (hK:K' (a.put o.dst (.pointer (some ⟨w.heap.size,0,none⟩))) (w.alloc (.mapIter none 0 #[] 0))):o.wp Tryz.prog a w K' Q:=by
 have hrun:=run_range_nilMap (P:=Tryz.prog) w 83 154 2 Tryz.underlying83;unfold Oper.wp
 simp [execOp,hop,hm,hrun,Result.andThen]
 exact hK
def PairOf (il:Bool) (c c2:Nat) (d S:Bag) (z:Row):Prop:=∃ x y,z=jRow il x y∧cnt d x≠0∧cnt S y≠0∧colR x c=colR y c2
structure SideOk (il:Bool) (c c2:Nat) (d S:Bag):Prop where
 len:∀ l:Bag,(∀ e∈l,PairOf il c c2 d S e.1)→(canon l).length<maxLen
 mul:∀ x y,colR x c=colR y c2→ -9223372036854775808≤cnt d x*cnt S y∧cnt d x*cnt S y≤9223372036854775807
 row:∀ x y,cnt d x≠0→cnt S y≠0→1≤x.length∧1≤y.length∧x.length+y.length≤6∧ROk (jRow il x y)
 c6:c<6
structure SideC (cs:Array Value) (b o o2 c:Nat) (il:Bool) (hv2:Value):Prop where
 col:cs[o]? =some (.int .i64 (c:Int))
 join:cs[o+2]? =some (.pointer (some ⟨b,0,none⟩))
 other:cs[o+3]? =some (.pointer (some ⟨b,o2,none⟩))
 left:cs[o+4]? =some (.bool il)
 held:cs[o2+1]? =some hv2
theorem side_loop (b o o2 c c2 cb id:Nat) (il:Bool) (cs:Array Value) (ty:TypeId) (hv2:Value) (us us2:List Bool) (d S:Bag) (f2:V→Option Nat) (O:Ow) (w:World) (Q:Ending→World→Prop) (hb:w.heap[b]? =some (.cells cs ty (0,0))) (hC:SideC cs b o o2 c il hv2) (hs:ShAt w O id hv2 c2 S f2) (hd:OkD us d) (hS:OkB us2 S) (hO:SideOk il c c2 d S) (hc:BagAt w cb (canon d))
 (hQ:∀ w3 es l,AllOf (canon d) es→BagAt w3 w.heap.size l→Eqv l (jL il c c2 es S)→Kept No w w3→Calls Tryz.prog 255 #[.pointer (some ⟨b,o,none⟩),.map (some cb)] w3 fun e w4=>e=.returned (.tuple #[])∧w4.cell? ⟨b,o+2,none⟩=some (.pointer (some ⟨b,0,none⟩))∧Calls Tryz.prog 250 #[.pointer (some ⟨b,0,none⟩),.map (some w.heap.size)] w4 fun e w'=>e=.returned (.tuple #[])∧Q e w') :
 Calls Tryz.prog 256 #[.pointer (some ⟨b,o,none⟩),.map (some cb)] w Q:=by
 have HC:Hid (BagAt (w.alloc (.map #[] 0)) cb (canon d)):=hc.of_block (Below.heap_alloc _ _ _ hc.lt);have HN0:Hid (BagAt (w.alloc (.map #[] 0)) w.heap.size []):=BagAt.made w;have HB:=hid hb;have HQ:=hid hQ;have HCS:=hid hC;have HSH:=hid hs;have HOS:=hid hS;have HD:=hid hd;have HO:=hid hO;have hcl:=hc.lt;have hbl:=lt_of_heap hb;have hc6:=hO.c6
 have hc0:(0:Int)≤(c:Int):=by omega
 have hc1:(c:Int)<6:=by omega
 obtain ⟨mv2,rfl⟩:=hs.is;clear hc hb hQ hC hs hS hd hO;have hmm:=@run_makeMap Tryz.prog
 go_enter Tryz.func256,Tryz.ntmps256
 go_wp2_with (first
  | (at_range;refine wpList_range_bag _ rfl _ rfl cb (canon d) rfl HC.out ?_;intro w1 k1 hr1 hk1 hs1)
  | fail)
 have hsz:(w.alloc (.map #[] 0)).heap.size=w.heap.size+1:=by simp
 rw [hsz] at hr1 hs1 ⊢;have HR1:=hid hr1
 have HA1:Hid (BagAt w1 w.heap.size []):=HN0.out.kept hk1 (fun e=>e)
 have hk1':Kept No w w1:=((Kept.refl No w).alloc _).seq hk1;have HK1:=hid hk1';clear hr1 hs1 hk1 hk1' HC HN0 hmm
 go_frame
 go_loopg [] k1 (fun k wr=>∃ (es l:Bag),Hid (BRng wr cb (w.heap.size+1) (canon d) es k)∧Hid (BagAt wr w.heap.size l)∧Hid (Eqv l (jL il c c2 es S))∧Hid (∀ e∈l,PairOf il c c2 d S e.1)∧Hid (Kept No w wr))
 case atStart=>exact ⟨[],[],HR1,HA1,hid (Eqv.refl _),hid (by simp),HK1⟩
 case round =>
  obtain ⟨es,l,hr,ha,hE,hP,hK⟩:=hrel;clear HR1 HA1 HK1
  go_wp2_with (first
   | (at_next;refine wpList_next_bag _ rfl _ rfl cb (w.heap.size+1) (canon d) es gk rfl hr.out ?_ ?_)
   | fail)
  ·intro hall
   have HG:=hid (HQ.out wr es l hall ha.out hE.out hK.out);clear hall;go_wp2_with fail;refine HG.out.mono ?_;rintro e w4 ⟨rfl,hcj,hq⟩;have HG4:=hid hq;clear hq HG;go_wp2_with fail;refine HG4.out.mono ?_;rintro e w5 ⟨rfl,hq⟩;have HQ5:=hid hq;clear hq;go_wp2_with fail;go_end0;exact HQ5.out
  ·intro t q w2 k2 hq ht htn hr2 hlt hk2 hsz2 hen
   have HQK:=hid hq;have HV0:Hid (VOk (colR q c)):=colR_ok hq c;have HR2:=hid hr2
   have HTC:Hid (t=cnt d q∧t≠0):=⟨by rw [ht,HD.out.w64],htn⟩
   have hk2':Kept No w w2:=hK.out.trans hk2 (fun _ e=>e) (fun i hi e=>by omega)
   have HK2:=hid hk2'
   have HA2:Hid (BagAt w2 w.heap.size l):=ha.out.kept hk2 (fun e=>by omega)
   have hw2:w.heap.size+1<w2.heap.size:=HR2.out.lt
   have hb2:w2.heap[b]? =some (.cells cs ty (0,0)):=(hk2'.block b hbl (fun e=>e)).trans HB.out
   have HB2:=hid hb2;clear hq hr2 hk2 ht htn hsz2 hk2' hb2 hr ha hK
   go_wp2_with (first
    | (refine store_row_new _ _ _ rfl rfl w2 _ rfl rfl rfl q rfl ?_)
    | fail)
   have hSb:(w2.alloc (.cells (rowA q) 154)).heap[b]? =some (.cells cs ty (0,0)):=(Below.heap_alloc _ _ _ (lt_of_heap HB2.out)).trans HB2.out;have hSq:(w2.alloc (.cells (rowA q) 154)).heap[w2.heap.size]? =some (.cells (rowA q) 154 (0,0)):=heap_alloc_last _ _;have HSS:=hid (And.intro hSb hSq);have hKW:Kept No w2 (w2.alloc (.cells (rowA q) 154)):=(Kept.refl No w2).alloc _;have HKW:=hid hKW;clear hSb hSq hKW;generalize w2.alloc (.cells (rowA q) 154)=W at HSS HKW ⊢
   have HSW:Hid (ShAt W.drew O id (.map mv2) c2 S f2):=HSH.out.stab fun k hk' _=>⟨(HK2.out.seq HKW.out).drew.block k hk' (fun e=>e),rfl⟩
   obtain ⟨xv,hxv⟩:∃ xv,xv=aggV (colR q c):=⟨_,rfl⟩
   have HY1:Hid (∀ w:World,w.heap[w2.heap.size]? =some (.cells (rowA q) 154 (0,0))→(loadVar 133 ⟨w2.heap.size,1+c*6,none⟩).run Tryz.prog w=.ok xv w):=by
    subst hxv
    exact fun w h=>run_load_val (cells_val h hc6)
   have HXV:=hid hxv;clear hxv HB2
   refine wp_region_held_drew (S:=fun w'=>w'.heap[b]? =some (.cells cs ty (0,0))∧w'.heap[w2.heap.size]? =some (.cells (rowA q) 154 (0,0))) (by kernel_rfl) HSS.out (fun hHeld=> ?_)
   refine tk_P 0 (.pointer (some ⟨b,o,none⟩)) hHeld ?_;try simp only [Act.put,n_1,n_2,n_3,n_4,n_5,n_6]
   refine tk_P 1 (.pointer (some ⟨b,o,none⟩)) hHeld ?_;try simp only [Act.put,n_1,n_2,n_3,n_4,n_5,n_6]
   refine tk_P 2 (.pointer (some ⟨b,o+3,none⟩)) hHeld ?_;try simp only [Act.put,n_1,n_2,n_3,n_4,n_5,n_6]
   refine tk_C 3 (.pointer (some ⟨b,o2,none⟩)) 236 (.tmp 19) (b) (o+3) (fun w h=>(cell_of h.1 _).trans HCS.out.other) hHeld ?_
   try simp only [Act.put,n_1,n_2,n_3,n_4,n_5,n_6]
   refine tk_P 4 (.pointer (some ⟨b,o2,none⟩)) hHeld ?_;try simp only [Act.put,n_1,n_2,n_3,n_4,n_5,n_6]
   refine tk_P 5 (.pointer (some ⟨b,o2,none⟩)) hHeld ?_;try simp only [Act.put,n_1,n_2,n_3,n_4,n_5,n_6]
   refine tk_P 6 (.pointer (some ⟨b,o2+1,none⟩)) hHeld ?_;try simp only [Act.put,n_1,n_2,n_3,n_4,n_5,n_6]
   refine tk_C 7 (.map mv2) 233 (.tmp 23) (b) (o2+1) (fun w h=>(cell_of h.1 _).trans HCS.out.held) hHeld ?_
   try simp only [Act.put,n_1,n_2,n_3,n_4,n_5,n_6]
   refine tk_P 8 (.pointer (some ⟨b,o,none⟩)) hHeld ?_;try simp only [Act.put,n_1,n_2,n_3,n_4,n_5,n_6]
   refine tk_P 9 (.pointer (some ⟨b,o,none⟩)) hHeld ?_;try simp only [Act.put,n_1,n_2,n_3,n_4,n_5,n_6]
   refine tk_P 10 (.pointer (some ⟨b,o,none⟩)) hHeld ?_;try simp only [Act.put,n_1,n_2,n_3,n_4,n_5,n_6]
   refine tk_P 11 (.pointer (some ⟨b,o,none⟩)) hHeld ?_;try simp only [Act.put,n_1,n_2,n_3,n_4,n_5,n_6]
   refine tk_C 12 (.int .i64 (c:Int)) 3 (.tmp 28) (b) (o) (fun w h=>(cell_of h.1 _).trans HCS.out.col) hHeld ?_
   try simp only [Act.put,n_1,n_2,n_3,n_4,n_5,n_6]
   refine tk_P 13 (.pointer (some ⟨w2.heap.size,1,none⟩)) hHeld ?_;try simp only [Act.put,n_1,n_2,n_3,n_4,n_5,n_6]
   refine tk_P 14 (.pointer (some ⟨w2.heap.size,1+c*6,none⟩)) hHeld ?_;try simp only [Act.put,n_1,n_2,n_3,n_4,n_5,n_6]
   refine tk_L 15 (xv) 133 (.tmp 31) (w2.heap.size) (1+c*6) (fun w h=>HY1.out w h.2) hHeld ?_
   try simp only [Act.put,n_1,n_2,n_3,n_4,n_5,n_6]
   cases hfv:f2 (colR q c) with
   | none =>
     have HMV:Hid ((shM f2 (colR q c)).getD (.map none)=.map none):=by show _=_;unfold shM;rw [hfv];rfl
     have HNIL:Hid (canon (selV c2 (colR q c) S)=[]):=by
      rcases HSH.out with ⟨_,h2,_⟩ | ⟨m,_,h2⟩
      ·exact canon_selV_nil h2
      ·exact h2.no HV0.out hfv
     clear hfv
     refine tk_S 16 (fun K hK=> ?_)
     rw [if_pos (by kernel_rfl)]
     refine wp_lookup_sh (.tmp 24) (.tmp 32) (by kernel_rfl) (.map mv2) (by kernel_rfl) HSW.out (colR q c) HV0.out (by rw [←HXV.out];kernel_rfl) _ HMV.out ?_
     refine hK.out _ _ hHeld (fun hHeld=> ?_)
     clear hK K;try simp only [Act.put,n_1,n_2,n_3,n_4,n_5,n_6]
     refine tk_S 17 (fun K hK=> ?_)
     rw [if_pos (by kernel_rfl)]
     refine wp_range_none (.tmp 33) (by kernel_rfl) (by kernel_rfl) ?_
     have hS5:(W.drew.alloc (.mapIter none 0 #[] 0)).heap[b]? =some (.cells cs ty (0,0))∧(W.drew.alloc (.mapIter none 0 #[] 0)).heap[w2.heap.size]? =some (.cells (rowA q) 154 (0,0)):=⟨(Below.heap_alloc _ _ _ (lt_of_heap hHeld.1)).trans hHeld.1,(Below.heap_alloc _ _ _ (lt_of_heap hHeld.2)).trans hHeld.2⟩
     have hnx:∀ ty,(Instr.next (.pointer (some ⟨W.drew.heap.size,0,none⟩)) false ty).run Tryz.prog (W.drew.alloc (.mapIter none 0 #[] 0))=_:=fun ty=>run_next_nilMap W.drew ty 0 0 #[]
     have HK5:Hid (Kept No w2 (W.drew.alloc (.mapIter none 0 #[] 0))):=(HKW.out.drew).alloc _
     refine hK.out _ _ hS5 (fun hHeld=> ?_)
     clear hK K hS5 HSW HSS HKW HMV
     refine wpAnyH_done (by kernel_rfl) ?_ _
     clear hHeld;generalize W.drew.alloc (.mapIter none 0 #[] 0)=w5 at HK5 hnx ⊢;generalize W.drew.heap.size=itn at hnx ⊢;try simp only [Act.put,n_1,n_2,n_3,n_4,n_5,n_6]
     go_wp2_with fail;refine wp_loop_rounds 1 ?_;rw [rounds_succ];go_wp2_with fail
     have HR5:Hid (BRng w5 cb (w.heap.size+1) (canon d) (es++[(q,t)]) k2):=HR2.out.kept HK5.out (fun e=>e) (fun e=>e)
     have HA5:Hid (BagAt w5 w.heap.size l):=HA2.out.kept HK5.out (fun e=>e)
     have HK6:Hid (Kept No w w5):=HK2.out.seq HK5.out
     have HE5:Hid (Eqv l (jL il c c2 (es++[(q,t)]) S)):=by
      show Eqv _ _
      rw [Mo.jL_snoc]
      have h0:Eqv (selV c2 (colR q c) S) []:=fun r=>Mo.canon_nil_iff.1 HNIL.out r
      have h1:=Mo.row_eqv (t:=t) (g:=jRow il q) h0
      exact hE.out.trans (fun r=>by rw [Mo.cnt_append];have:=h1 r;simp only [List.map_nil] at this;unfold Mo.selC selV at *;rw [this];simp [cnt])
     clear HK5 HA2 HR2 HK2 hnx HY1;go_roundg k2
     case measure=>exact hlt
     case rel=>exact ⟨es++[(q,t)],l,HR5,HA5,HE5,hP,HK6⟩
   | some bv =>
     have HMV:Hid ((shM f2 (colR q c)).getD (.map none)=.map (some bv)):=by show _=_;unfold shM;rw [hfv];rfl
     have hbv:BagAt W.drew bv (canon (selV c2 (colR q c) S))∧bv<w.heap.size:=by
      refine ⟨?_,?_⟩
      ·rcases HSW.out with ⟨_,_,h3⟩ | ⟨m,_,h2⟩
       ·rw [h3] at hfv;cases hfv
       ·exact (h2.bag hfv).2.2.1
      ·exact (HSH.out.lt (.inr ⟨_,hfv⟩)).1
     have hbvl:=hbv.2;have HBV:=hid hbv.1;clear hfv hbv
     refine tk_S 16 (fun K hK=> ?_)
     rw [if_pos (by kernel_rfl)]
     refine wp_lookup_sh (.tmp 24) (.tmp 32) (by kernel_rfl) (.map mv2) (by kernel_rfl) HSW.out (colR q c) HV0.out (by rw [←HXV.out];kernel_rfl) _ HMV.out ?_
     refine hK.out _ _ hHeld (fun hHeld=> ?_)
     clear hK K;try simp only [Act.put,n_1,n_2,n_3,n_4,n_5,n_6]
     refine tk_S 17 (fun K hK=> ?_)
     rw [if_pos (by kernel_rfl)]
     refine wp_range_bag (.tmp 33) (by kernel_rfl) bv _ (by kernel_rfl) HBV.out ?_
     intro w5 ki hri hki hsi
     have hS5:w5.heap[b]? =some (.cells cs ty (0,0))∧w5.heap[w2.heap.size]? =some (.cells (rowA q) 154 (0,0)):=⟨(hki.block _ (lt_of_heap hHeld.1) (fun e=>e)).trans hHeld.1,(hki.block _ (lt_of_heap hHeld.2) (fun e=>e)).trans hHeld.2⟩
     have HK5:Hid (Kept (fun k=>k=w.heap.size) w2 w5):=(HKW.out.drew.seq hki).any
     have HRI:=hid hri;have hitn:w2.heap.size<W.drew.heap.size:=lt_of_heap hHeld.2
     have HA5:Hid (BagAt w5 w.heap.size l):=HA2.out.kept (HKW.out.drew.seq hki) (fun e=>e)
     refine hK.out _ _ hS5 (fun hHeld=> ?_)
     clear hK K
     refine wpAnyH_done (by kernel_rfl) ?_ _
     have HS5:=hid hHeld;clear hHeld hS5 HSW HSS HKW HMV hri hki hsi HBV;generalize W.drew.heap.size=itn at HRI hitn ⊢;try simp only [Act.put,n_1,n_2,n_3,n_4,n_5,n_6]
     go_wp2_with fail
     go_loopg [] ki (fun k wr=>∃ (es2:Bag),Hid (BRng wr bv itn (canon (selV c2 (colR q c) S)) es2 k)∧Hid (BagAt wr w.heap.size ((es2.map fun y=>(jRow il q y.1,t*y.2))++l))∧Hid (∀ e∈(es2.map fun y=>(jRow il q y.1,t*y.2))++l,PairOf il c c2 d S e.1)∧Hid (Kept (fun k=>k=w.heap.size) w2 wr)∧Hid (wr.heap[b]? =some (.cells cs ty (0,0))∧wr.heap[w2.heap.size]? =some (.cells (rowA q) 154 (0,0))))
     case atStart=>exact ⟨[],HRI,HA5,hP,HK5,HS5⟩
     case round =>
      obtain ⟨es2,hr2,ha2,hp2,hk2,hs2⟩:=hrel;clear HRI HA5 HK5 HS5
      go_wp2_with (first
       | (at_next;refine wpList_next_bag _ rfl _ rfl bv itn (canon (selV c2 (colR q c) S)) es2 gk rfl hr2.out ?_ ?_)
       | fail)
      ·intro hall2
       have hbdS:∀ r,wrap64 (cnt (canon (selV c2 (colR q c) S)) r)=cnt (selV c2 (colR q c) S) r:=fun r=>by
        rw [Mo.canon_cnt,wrap64_id];rw [cnt_selV]
        have:=HOS.out.bd r
        split <;> omega
       have hes2:Eqv es2 (selV c2 (colR q c) S):=fun r=>by rw [hall2.cnt hr2.out.at.1 r,hbdS]
       have HR5:Hid (BRng wr cb (w.heap.size+1) (canon d) (es++[(q,t)]) k2):=HR2.out.kept hk2.out (fun e=>by omega) (fun e=>by omega)
       have HK6:Hid (Kept No w wr):=HK2.out.trans hk2.out (fun _ e=>e) (fun i hi e=>by omega)
       have HE5:Hid (Eqv ((es2.map fun y=>(jRow il q y.1,t*y.2))++l) (jL il c c2 (es++[(q,t)]) S)):=by
        show Eqv _ _
        rw [Mo.jL_snoc];have h1:=Mo.row_eqv (t:=t) (g:=jRow il q) hes2;intro r;have h2:=h1 r;have h3:=hE.out r;rw [Mo.cnt_append,Mo.cnt_append,←h3];unfold selV at h2;unfold Mo.selC;omega
       clear hall2 hbdS hes2 HR2 HA2 HK2 HY1 hr2 hk2 hs2;go_wp2_with fail;go_roundg k2
       case measure=>exact hlt
       case rel=>exact ⟨es++[(q,t)],_,HR5,ha2,HE5,hp2,HK6⟩
      ·intro ot y w6 k6 hy hot hotn hr6 hlt6 hk6 hsz6 hen6
       have hcy:cnt (selV c2 (colR q c) S) y=ot:=by
        rw [hot,Mo.canon_cnt,wrap64_id];rw [cnt_selV]
        have:=HOS.out.bd y
        split <;> omega
       have hcol:colR q c=colR y c2:=by
        refine Classical.byContradiction fun hn=>hotn ?_
        rw [←hcy,cnt_selV,if_neg (fun e=>hn e.symm)]
       have hcS:cnt S y=ot:=by rw [←hcy,cnt_selV,if_pos hcol.symm]
       have hrw:=HO.out.row q y (by rw [←HTC.out.1];exact HTC.out.2) (by rw [hcS];exact hotn)
       have HROW:=hid hrw.2.2.2;have hmb:=HO.out.mul q y hcol;rw [←HTC.out.1,hcS] at hmb;have HMUL:Hid (wrap64 (t*ot)=t*ot):=wrap64_id hmb
       have HPR:Hid (PairOf il c c2 d S (jRow il q y)):=⟨q,y,rfl,by rw [←HTC.out.1];exact HTC.out.2,by rw [hcS];exact hotn,hcol⟩
       have HR6:=hid hr6
       have hk26:Kept (fun k=>k=w.heap.size) w2 w6:=hk2.out.trans hk6 (fun _ e=>e) (fun i hi e=>by omega)
       have HK26:=hid hk26
       have HA6:Hid (BagAt w6 w.heap.size ((es2.map fun y=>(jRow il q y.1,t*y.2))++l)):=ha2.out.kept hk6 (fun e=>by omega)
       have hitn6:itn<w6.heap.size:=hr6.lt
       have hb6:w6.heap[b]? =some (.cells cs ty (0,0)):=(hk6.block b (lt_of_heap hs2.out.1) (by omega)).trans hs2.out.1
       have hp6:w6.heap[w2.heap.size]? =some (.cells (rowA q) 154 (0,0)):=(hk6.block _ (lt_of_heap hs2.out.2) (by omega)).trans hs2.out.2
       have HS6:=hid (And.intro hb6 hp6);have HG7:Hid ((w6.alloc (.cells (rowA y) 154)).heap[w6.heap.size]? =some (.cells (rowA y) 154 (0,0))):=heap_alloc_last _ _;have HG5:Hid ((w6.alloc (.cells (rowA y) 154)).heap[w2.heap.size]? =some (.cells (rowA q) 154 (0,0))):=(Below.heap_alloc _ _ _ (lt_of_heap hp6)).trans hp6
       have HTG:Hid (Calls Tryz.prog 257 #[.pointer (some ⟨b,o,none⟩),.agg (rowA q),.agg (rowA y)] (w6.alloc (.cells (rowA y) 154)) fun e w'=>e=.returned (.agg (rowA (jRow il q y)))∧Kept No (w6.alloc (.cells (rowA y) 154)) w'):=by
        have hbb:=(Below.heap_alloc w6 (.cells (rowA y) 154) _ (lt_of_heap hb6)).trans hb6;exact together_any b o il q y _ (lt_of_heap hbb) ((cell_of hbb _).trans HCS.out.left) hrw.1 hrw.2.1 hrw.2.2.1
       have HADD:Hid (∀ w',Kept No w6 w'→Calls Tryz.prog 79 #[.map (some w.heap.size),.agg (rowA (jRow il q y)),.int .i64 (t*ot)] w' fun e w''=>e=.returned (.tuple #[])∧BagAt w'' w.heap.size ((jRow il q y,t*ot)::((es2.map fun y=>(jRow il q y.1,t*y.2))++l))∧Kept (·=w.heap.size) w' w''):=by
        refine hid ?_;intro w' hk'
        have h1:=HA6.out.kept hk' (fun e=>e)
        exact add_any w.heap.size _ (jRow il q y) (t*ot) w' h1 HROW.out (HO.out.len _ hp2.out)
       clear hot hotn hcy hcol hcS hrw hmb hr6 hk6 hk26 hb6 hp6 hsz6 hy hs2 hr2 ha2 hk2;obtain ⟨tn,htn⟩:∃ tn,t*ot=tn:=⟨_,rfl⟩;rw [htn] at HADD;have HTN:=hid htn;have HMUL2:Hid (wrap64 (t*ot)=tn):=HMUL.out.trans htn;clear htn HMUL
       go_wp2_with (first
        | (refine store_row_new _ _ _ rfl rfl w6 _ rfl rfl rfl y rfl ?_)
        | (refine load_row _ rfl rfl w2.heap.size rfl q HG5.out ?_)
        | (refine load_row _ rfl rfl w6.heap.size rfl y HG7.out ?_)
        | fail)
       refine HTG.out.mono ?_;rintro e w7 ⟨rfl,hk7⟩;have HK7:Hid (Kept No w6 w7):=((Kept.refl No w6).alloc _).seq hk7;clear hk7 HTG HG5 HG7;go_wp2_with fail;rw [HMUL2.out];refine (HADD.out _ HK7.out).mono ?_;rintro e w8 ⟨rfl,ha8,hk8⟩
       have hk68:Kept (fun k=>k=w.heap.size) w6 w8:=HK7.out.noSeq hk8
       have HR8:Hid (BRng w8 bv itn (canon (selV c2 (colR q c) S)) (es2++[(y,ot)]) k6):=HR6.out.kept hk68 (fun e=>by omega) (fun e=>by omega)
       have hsn:(es2++[(y,ot)]).map (fun y=>(jRow il q y.1,t*y.2))=(es2.map fun y=>(jRow il q y.1,t*y.2))++[(jRow il q y,tn)]:=by rw [List.map_append,←HTN.out];rfl
       have HA8:Hid (BagAt w8 w.heap.size (((es2++[(y,ot)]).map fun y=>(jRow il q y.1,t*y.2))++l)):=by
        show BagAt _ _ _
        rw [hsn]
        refine ha8.eqv (fun x=> ?_) (fun x hx=> ?_)
        ·simp only [Mo.cnt_append,cnt];omega
        ·rcases List.mem_append.1 hx with hx | hx
         ·rcases List.mem_append.1 hx with hx | hx
          ·exact HA6.out.1 x (List.mem_append.2 (.inl hx))
          ·simp at hx;subst hx;exact HROW.out
         ·exact HA6.out.1 x (List.mem_append.2 (.inr hx))
       have HP8:Hid (∀ e∈((es2++[(y,ot)]).map fun y=>(jRow il q y.1,t*y.2))++l,PairOf il c c2 d S e.1):=by
        refine hid ?_;rw [hsn];intro x hx
        rcases List.mem_append.1 hx with hx | hx
        ·rcases List.mem_append.1 hx with hx | hx
         ·exact hp2.out x (List.mem_append.2 (.inl hx))
         ·simp at hx;subst hx;exact HPR.out
        ·exact hp2.out x (List.mem_append.2 (.inr hx))
       have HK8:Hid (Kept (fun k=>k=w.heap.size) w2 w8):=HK26.out.seq hk68
       have HS8:Hid (w8.heap[b]? =some (.cells cs ty (0,0))∧w8.heap[w2.heap.size]? =some (.cells (rowA q) 154 (0,0))):=⟨(hk68.block _ (lt_of_heap HS6.out.1) (by omega)).trans HS6.out.1,(hk68.block _ (lt_of_heap HS6.out.2) (by omega)).trans HS6.out.2⟩
       clear ha8 hk8 hk68 hsn HADD HK7 HR6 HA6 HK26 HS6 HMUL2 hp2;go_wp2_with fail;go_roundg k6
       case measure=>exact hlt6
       case rel=>exact ⟨es2++[(y,ot)],HR8,HA8,HP8,HK8,HS8⟩
open Mo (V Row Bag cnt canon Eqv OkB OkD colR jRow jL joinB)
def jC (sl hl hr:Value) (n m b:Nat):Array Value:=#[sl,.int .i64 (n:Int),hl,.pointer (some ⟨b,0,none⟩),.pointer (some ⟨b,6,none⟩),.bool true,.int .i64 (m:Int),hr,.pointer (some ⟨b,0,none⟩),.pointer (some ⟨b,1,none⟩),.bool false]
def jS (il:Bool) (sl hv hv2:Value) (c c2 b:Nat):Array Value:=if il then jC sl hv hv2 c c2 b else jC sl hv2 hv c2 c b
def jO (il:Bool):Nat:=if il then 1 else 6
def JAt (w:World) (O:Ow) (b:Nat) (T:Value) (il:Bool) (c c2:Nat) (B S:Bag):Prop :=
 O b=b+2∧∃ g cap hv hv2 f f2,w.heap[b]? =some (.cells (jS il (tkS g cap) hv hv2 c c2 b) 240 (0,0))∧TkAt w O b g T∧ShAt w O (b+2) hv c B f∧ShAt w O (b+2) hv2 c2 S f2∧∀ k,ShB hv f k→¬ShB hv2 f2 k
theorem JAt.swap {w:World} {O:Ow} {b:Nat} {T:Value} {il:Bool} {c c2:Nat} {B S:Bag} (h:JAt w O b T il c c2 B S):JAt w O b T (!il) c2 c S B:=by
 obtain ⟨h0,g,cap,hv,hv2,f,f2,h1,h2,h3,h4,h5⟩:=h
 refine ⟨h0,g,cap,hv2,hv,f2,f,?_,h2,h4,h3,fun k h6 h7=>h5 k h7 h6⟩
 cases il <;> exact h1
theorem JAt.stab {w w':World} {O O':Ow} {b:Nat} {T:Value} {il:Bool} {c c2:Nat} {B S:Bag} (h:JAt w O b T il c c2 B S) (hk:∀ k,k<w.heap.size→O k=b+2→w'.heap[k]? =w.heap[k]?∧O' k=O k):JAt w' O' b T il c c2 B S:=by
 obtain ⟨h0,g,cap,hv,hv2,f,f2,h1,h2,h3,h4,h5⟩:=h;have hb:=hk b (lt_of_heap h1) h0;exact ⟨hb.2.trans h0,g,cap,hv,hv2,f,f2,hb.1.trans h1,h2.stab (hk g h2.lt h2.1),h3.stab hk,h4.stab hk,h5⟩
theorem JAt.eqv {w:World} {O:Ow} {b:Nat} {T:Value} {il:Bool} {c c2:Nat} {B B' S:Bag} (h:JAt w O b T il c c2 B S) (e:Eqv B B'):JAt w O b T il c c2 B' S:=by
 obtain ⟨h0,g,cap,hv,hv2,f,f2,h1,h2,h3,h4,h5⟩:=h;exact ⟨h0,g,cap,hv,hv2,f,f2,h1,h2,h3.eqv e,h4,h5⟩
theorem jS_side (il:Bool) (sl hv hv2:Value) (c c2 b:Nat):SideC (jS il sl hv hv2 c c2 b) b (jO il) (jO (!il)) c il hv2∧(jS il sl hv hv2 c c2 b)[jO il+1]? =some hv∧(jS il sl hv hv2 c c2 b)[0]? =some sl:=by
 cases il <;> exact ⟨⟨rfl,rfl,rfl,rfl,rfl⟩,rfl,rfl⟩
theorem jS_set (il:Bool) (sl hv hv2 hv':Value) (c c2 b:Nat):(jS il sl hv hv2 c c2 b).setIfInBounds (jO il+1) hv'=jS il sl hv' hv2 c c2 b:=by cases il <;> rfl
def jF (il:Bool) (c c2:Nat) (S B:Bag):Bag:=if il then joinB c c2 B S else joinB c2 c S B
theorem jF_eqv {il:Bool} {c c2:Nat} {S B B':Bag} (h:Eqv B B'):Eqv (jF il c c2 S B) (jF il c c2 S B'):=by
 cases il
 ·exact Mo.joinB_eqv (Eqv.refl _) h
 ·exact Mo.joinB_eqv h (Eqv.refl _)
theorem jF_delta (il:Bool) (c c2:Nat) (S B d:Bag):Eqv (jF il c c2 S B++jL il c c2 d S) (jF il c c2 S (B++d)):=by
 cases il
 ·refine Eqv.trans ?_ (Mo.joinB_right c2 c S B d).symm
  exact (Eqv.refl _).append (Mo.jL_right c c2 d S)
 ·show Eqv (joinB c c2 B S++jL true c c2 d S) (joinB c c2 (B++d) S)
  rw [Mo.jL_left,Mo.joinB_left];exact Eqv.refl _
theorem jF_pair {il:Bool} {c c2:Nat} {S B:Bag} (hS:Mo.nn S) (hB:Mo.nn B) {x y:Row} (h:colR x c=colR y c2) (hx:cnt B x≠0) (hy:cnt S y≠0):cnt (jF il c c2 S B) (jRow il x y)≠0:=by
 cases il
 ·exact Mo.pair_cnt hS hB h.symm hy hx
 ·exact Mo.pair_cnt hB hS h hx hy
theorem side_ok {il:Bool} {c c2:Nat} {us us2 ts:List Bool} {B d S:Bag} (hB:OkB us B) (hD:OkB us (B++d)) (hS:OkB us2 S) (h1:OkB ts (jF il c c2 S B)) (h2:OkB ts (jF il c c2 S (B++d))) (hc:c<6) (hu:1≤us.length∧1≤us2.length∧us.length+us2.length≤6):SideOk il c c2 d S where
 c6:=hc
 len:=fun l hl=>by
  have hrow:∀ z∈(canon l).map (·.1),z∈(canon (jF il c c2 S B)).map (·.1)++(canon (jF il c c2 S (B++d))).map (·.1):=fun z hz=>by
   obtain ⟨e,he,rfl⟩:=List.mem_map.1 hz;obtain ⟨e0,he0,hee⟩:=Mo.canon_mem he;obtain ⟨x,y,hxy,hx,hy,hcc⟩:=hl e0 he0;rw [hee] at hxy
   by_cases hbx:cnt B x=0
   ·have h3:cnt (B++d) x≠0:=by rw [Mo.cnt_append,hbx];omega
    obtain ⟨z,hz1,hz2⟩:=Mo.lin_pos_mem (jF_pair (il:=il) hS.nn hD.nn hcc h3 hy)
    exact List.mem_append.2 (.inr (List.mem_map.2 ⟨z,hz1,by rw [hz2,hxy]⟩))
   ·obtain ⟨z,hz1,hz2⟩:=Mo.lin_pos_mem (jF_pair (il:=il) hS.nn hB.nn hcc hbx hy)
    exact List.mem_append.2 (.inl (List.mem_map.2 ⟨z,hz1,by rw [hz2,hxy]⟩))
  have:=length_le_of_sub (Mo.Rise.nodup (Mo.canon_rise l)) hrow
  have e1:=h1.len;have e2:=h2.len;simp only [List.length_map,List.length_append] at this;unfold maxLen;omega
 mul:=fun x y h=>by
  cases il
  ·exact Mo.pair_bd2 hS.nn hB.nn hD.nn h1.rows h2.rows h.symm
  ·exact Mo.pair_bd hB.nn hD.nn hS.nn h1.rows h2.rows h
 row:=fun x y hx hy=>by
  have g1:=(hB.chg hD).good hx;have g2:=hS.good hy;have l1:=g1.len;have l2:=g2.len;have r1:=good_ok g1 hB.six;have r2:=good_ok g2 hS.six
  refine ⟨by omega,by omega,by omega,?_⟩
  cases il
  ·refine ⟨by show (y++x).length≤6;rw [List.length_append];omega,fun v hv=> ?_⟩
   rcases List.mem_append.1 (show v∈y++x from hv) with hv | hv
   ·exact r2.2 v hv
   ·exact r1.2 v hv
  ·refine ⟨by show (x++y).length≤6;rw [List.length_append];omega,fun v hv=> ?_⟩
   rcases List.mem_append.1 (show v∈x++y from hv) with hv | hv
   ·exact r1.2 v hv
   ·exact r2.2 v hv
theorem side_ty:TyTake 236 256:=⟨fun _ _=>by kernel_rfl,fun _ _=>by kernel_rfl,enters_of Tryz.func256 (by kernel_rfl) rfl⟩
theorem side_takes {ty:TypeId} {f:Nat} {p:Addr} {A:Nat→Prop} {ts:List Bool} {Gd:Bag→Prop} {R:World→Ow→Bag→Prop} (hT:Takes ty f p A ts Gd R) (b:Nat) (il:Bool) (c c2:Nat) (us us2:List Bool) (S:Bag) (hc:c<6) (hu:1≤us.length∧1≤us2.length∧us.length+us2.length≤6) (hA:¬A (b+2)) :
 Takes 236 256 ⟨b,jO il,none⟩ (fun a=>A a∨a=b+2) us (fun B=>OkB us B∧OkB us2 S∧Gd (jF il c c2 S B)) (fun w O B=>R w O (jF il c c2 S B)∧JAt w O b (.iface ty (.pointer (some p))) il c c2 B S) where
 zero:=fun h=>h.elim hT.zero (by omega)
 one:=fun h=>h.elim hT.one (by omega)
 ok:=fun h=>h.1
 gde:=fun h e=>⟨h.1.eqv e,h.2.1,hT.gde h.2.2 (jF_eqv e)⟩
 stab:=fun h hs hk=>⟨hT.stab h.1 hs fun k hk' ha=>hk k hk' (ha.imp .inl id),h.2.stab fun k hk' e=>hk k hk' (.inl (.inr e))⟩
 eqv:=fun h e=>⟨hT.eqv h.1 (jF_eqv e),h.2.eqv e⟩
 met:=side_ty
 run:=by
  rintro w O B d cb ⟨hR,hS⟩ ⟨hB1,hS1,hB2⟩ ⟨hD1,_,hD2⟩ hc' hAc;have hd:=hB1.chg hD1;obtain ⟨hO0,g,cap,hv,hv2,f1,f2,hb,hg,hsh,hsh2,hdis⟩:=hS;obtain ⟨hC,hC1,hC0⟩:=jS_side il (tkS g cap) hv hv2 c c2 b;have hbl:=lt_of_heap hb
  have hcb:¬ShB hv f1 cb:=fun h=>hAc (.inr (hsh.lt h).2)
  refine side_loop b (jO il) (jO (!il)) c c2 cb (b+2) il _ 240 hv2 us us2 d S f2 O w _ hb hC hsh2 hd hS1 (side_ok hB1 hD1 hS1 (hT.ok hB2) (hT.ok hD2) hc hu) hc' fun w3 es l hall ha hE hk=> ?_
  have hE2:Eqv l (jL il c c2 d S):=hE.trans (Mo.jL_eqv (hall.eqv hd) (Eqv.refl _));have hDe:Eqv (jF il c c2 S B++l) (jF il c c2 S (B++d)):=((Eqv.refl _).append hE2).trans (jF_delta il c c2 S B d);have hD3:Gd (jF il c c2 S B++l):=hT.gde hD2 hDe.symm
  have hb3:w3.heap[b]? =some (.cells (jS il (tkS g cap) hv hv2 c c2 b) 240 (0,0)):=(hk.block b hbl (fun e=>e)).trans hb
  have hsh3:ShAt w3 (oN w O) (b+2) hv c B f1:=hsh.stab fun k hk' _=>⟨hk.block k hk' (fun e=>e),oN_old hk'⟩
  refine (sh_remember b (jO il) c cb (b+2) _ 240 hv us B d f1 w3 (oN w O) hb3 hC.col hC1 hsh3 hB1 hD1 (hc'.kept hk (fun e=>e)) hcb hc).mono fun e w4 hEnd=> ?_
  obtain ⟨he4,hv',f',g1,g2,g3,g4⟩:=hEnd;rw [jS_set] at g1;obtain ⟨hC',hC1',hC0'⟩:=jS_side il (tkS g cap) hv' hv2 c c2 b
  have hO4:∀ k,k<w.heap.size→oB w3 (oN w O) (b+2) k=O k:=fun k hk'=>(oB_old (Nat.lt_of_lt_of_le hk' hk.size)).trans (oN_old hk')
  have hk4:Kept (fun k=>O k=b+2) w w4:=hk.trans g4 (fun _ e=>e.elim) (fun i hi e=>by
   rcases e with rfl | e
   ·exact hO0
   ·exact (hsh.lt e).2)
  have hgl:=hg.lt
  have hg4:TkAt w4 (oB w3 (oN w O) (b+2)) b g (.iface ty (.pointer (some p))):=by
   refine hg.stab ⟨?_,hO4 g hgl⟩
   refine (g4.block g (Nat.lt_of_lt_of_le hgl hk.size) ?_).trans (hk.block g hgl (fun e=>e))
   obtain ⟨_,cs',z,hx,_⟩:=hg
   rintro (rfl | e)
   ·rw [hb] at hx;injection hx with hx;injection hx with _ hx;exact absurd hx (by decide)
   ·rcases hsh with ⟨h1,_,h3⟩ | ⟨m,h1,h2⟩
    ·rcases e with e | ⟨v,e⟩
     ·rw [h1] at e;cases e
     ·rw [h3] at e;cases e
    ·rcases e with e | ⟨v,e⟩
     ·rw [h1] at e
      have:m=g:=by simpa using e
      subst this;obtain ⟨es',ck,hm'⟩:=h2.map.obj
      rw [hm'] at hx;cases hx
     ·obtain ⟨es',ck,hm'⟩:=(h2.bag e).2.2.1.obj
      rw [hm'] at hx;cases hx
  have hsh24:ShAt w4 (oB w3 (oN w O) (b+2)) (b+2) hv2 c2 S f2:=hsh2.mk2 fun k hk'=>by
   have hl:=(hsh2.lt hk').1
   refine ⟨(g4.block k (Nat.lt_of_lt_of_le hl hk.size) ?_).trans (hk.block k hl (fun e=>e)),hO4 k hl⟩
   rintro (rfl | e)
   ·rcases hsh2 with ⟨h1,_,h3⟩ | ⟨m,h1,h2⟩
    ·rcases hk' with e | ⟨v,e⟩
     ·rw [h1] at e;cases e
     ·rw [h3] at e;cases e
    ·rcases hk' with e | ⟨v,e⟩
     ·rw [h1] at e
      have:m=k:=by simpa using e
      subst this;obtain ⟨es',ck,hm'⟩:=h2.map.obj
      rw [hm'] at hb;cases hb
     ·obtain ⟨es',ck,hm'⟩:=(h2.bag e).2.2.1.obj
      rw [hm'] at hb;cases hb
   ·exact hdis k e hk'
  have hc4:BagAt w4 w.heap.size (canon l):=by
   refine (ha.kept g4 ?_).canon_of (Eqv.refl _)
   rintro (e | e)
   ·omega
   ·have:=(hsh.lt e).1;omega
  have hR4:R w4 (oB w3 (oN w O) (b+2)) (jF il c c2 S B):=hT.kept hR hk4 (fun k e=>⟨by rw [e];exact hA,by omega⟩) hO4
  refine ⟨he4,(cell_of g1 _).trans hC'.join,?_⟩
  refine (hT.give (b:=b) (c:=w.heap.size) (g:=g) (o:=0) (cap:=cap) ((cell_of g1 0).trans hC0') hg4.cell hR4 hB2 hD3 hc4 (by rw [oB_old ha.lt,oN_new (Nat.le_refl _)];exact hT.zero)).mono fun e w5 h5=>⟨h5.1,?_⟩
  refine TakeEnd.up3 (b:=b) hO4 hk4 h5 fun O' h1 h2 h3=>⟨hT.eqv h3 hDe,?_⟩
  have hbb:∀ k,k<w4.heap.size→oB w3 (oN w O) (b+2) k=b+2→w5.heap[k]? =w4.heap[k]?∧O' k=oB w3 (oN w O) (b+2) k:=fun k hk' e=>⟨h2.block k hk' (by rw [e];exact hA),h1 k hk'⟩
  have hdis':∀ k,ShB hv' f' k→¬ShB hv2 f2 k:=fun k h6 h7=>by
   rcases g3 k h6 with h8 | h8
   ·exact hdis k h8 h7
   ·have:=(hsh2.lt h7).1;have:=hk.size;omega
  exact JAt.stab ⟨by rw [hO4 b hbl];exact hO0,g,cap,hv',hv2,f',f2,g1,hg4,g2,hsh24,hdis'⟩ hbb
open Mo (V Row Bag cnt canon Eqv OkB OkD Q Opd colR opdR leaves bagQ tyQ wf OkQ Ok2)
structure Tk where
 ty:TypeId
 f:Nat
 p:Addr
def Tk.val (T:Tk):Value:=.iface T.ty (.pointer (some T.p))
abbrev TakesT (T:Tk) (A:Nat→Prop) (ts:List Bool) (Gd:Bag→Prop) (R:World→Ow→Bag→Prop):Prop:=Takes T.ty T.f T.p A ts Gd R
def tSel (b:Nat):Tk:=⟨275,258,⟨b,0,none⟩⟩
def tPick (b:Nat):Tk:=⟨278,259,⟨b,0,none⟩⟩
def tUni (b:Nat):Tk:=⟨287,265,⟨b,0,none⟩⟩
def tDist (b:Nat):Tk:=⟨281,261,⟨b,0,none⟩⟩
def tGrp (b:Nat):Tk:=⟨284,262,⟨b,0,none⟩⟩
def tSide (b:Nat) (il:Bool):Tk:=⟨236,256,⟨b,jO il,none⟩⟩
def xS:Option Nat→Opd
 | none=>.val (.num 1)
 | some m=>.col m
theorem xS_sv (s:Option Nat) (q:Row):Mo.sv s q=nI (opdR (xS s) q):=by
 cases s with
 | none=>rfl
 | some m=>show Mo.numV (colR q m)=nI (colR q m);cases colR q m <;> rfl
inductive Nd where
 | leaf
 | one (b:Nat) (t:Nd)
 | two (b:Nat) (t u:Nd)
def nds:Nd→List Nat
 | .leaf=>[]
 | .one b t=>b::nds t
 | .two b t u=>b::(nds t++nds u)
def Nodes:Q→Nd→Tk→Nat→(Nat→Bag)→World→Ow→Prop
 | .tab _,.leaf,_,_,_,_,_=>True
 | .sel c k x q,.one b t,T,i,f,w,O=>(∃ n,cmpO n=k∧SelAt w O b T.val n (.col c) x)∧Nodes q t (tSel b) i f w O
 | .pick cs q,.one b t,T,i,f,w,O=>PickAt w O b T.val cs∧Nodes q t (tPick b) i f w O
 | .join n m q r,.two b t u,T,i,f,w,O=>JAt w O b T.val true n m (bagQ f i q) (bagQ f (i+(leaves q).length) r)∧Nodes q t (tSide b true) i f w O∧Nodes r u (tSide b false) (i+(leaves q).length) f w O
 | .uni q r,.two b t u,T,i,f,w,O=>UniAt w O b T.val∧Nodes q t (tUni b) i f w O∧Nodes r u (tUni b) (i+(leaves q).length) f w O
 | .dist q,.one b t,T,i,f,w,O=>DistAt w O b T.val (bagQ f i q)∧Nodes q t (tDist b) i f w O
 | .grp cs s q,.one b t,T,i,f,w,O=>GrpAt w O b T.val cs s (xS s) (bagQ f i q)∧Nodes q t (tGrp b) i f w O
 | _,_,_,_,_,_,_=>False
def leafT:Q→Nd→Tk→Nat→Tk
 | .sel _ _ _ q,.one b t,_,j=>leafT q t (tSel b) j
 | .pick _ q,.one b t,_,j=>leafT q t (tPick b) j
 | .dist q,.one b t,_,j=>leafT q t (tDist b) j
 | .grp _ _ q,.one b t,_,j=>leafT q t (tGrp b) j
 | .join _ _ q r,.two b t u,_,j=>if j<(leaves q).length then leafT q t (tSide b true) j else leafT r u (tSide b false) (j-(leaves q).length)
 | .uni q r,.two b t u,_,j=>if j<(leaves q).length then leafT q t (tUni b) j else leafT r u (tUni b) (j-(leaves q).length)
 | _,_,T,_=>T
def updN (f:Nat→Bag) (k:Nat) (B:Bag):Nat→Bag:=fun j=>if j=k then B else f j
theorem bagQ_ext {f g:Nat→Bag}:∀ (q:Q) (i:Nat),(∀ j,i≤j→j<i+(leaves q).length→f j=g j)→bagQ f i q=bagQ g i q
 | .tab _,i,h=>h i (Nat.le_refl _) (by simp [leaves])
 | .sel _ _ _ q,i,h=>by simp only [bagQ];rw [bagQ_ext q i h]
 | .pick _ q,i,h=>by simp only [bagQ];rw [bagQ_ext q i h]
 | .join _ _ q r,i,h=>by
   simp only [bagQ]
   rw [bagQ_ext q i fun j h1 h2=>h j h1 (by simp only [leaves,List.length_append];omega),bagQ_ext r _ fun j h1 h2=>h j (by omega) (by simp only [leaves,List.length_append];omega)]
 | .uni q r,i,h=>by
   simp only [bagQ]
   rw [bagQ_ext q i fun j h1 h2=>h j h1 (by simp only [leaves,List.length_append];omega),bagQ_ext r _ fun j h1 h2=>h j (by omega) (by simp only [leaves,List.length_append];omega)]
 | .dist q,i,h=>by simp only [bagQ];rw [bagQ_ext q i h]
 | .grp _ _ q,i,h=>by simp only [bagQ];rw [bagQ_ext q i h]
theorem Nodes.ext {f g:Nat→Bag} {w:World} {O:Ow}:∀ (q:Q) (t:Nd) (T:Tk) (i:Nat),(∀ j,i≤j→j<i+(leaves q).length→f j=g j)→Nodes q t T i f w O→Nodes q t T i g w O
 | .tab _,.leaf,_,_,_,_=>trivial
 | .sel _ _ _ q,.one b t,T,i,h,hn=>⟨hn.1,Nodes.ext q t _ i h hn.2⟩
 | .pick _ q,.one b t,T,i,h,hn=>⟨hn.1,Nodes.ext q t _ i h hn.2⟩
 | .dist q,.one b t,T,i,h,hn=>⟨by rw [←bagQ_ext q i h];exact hn.1,Nodes.ext q t _ i h hn.2⟩
 | .grp _ _ q,.one b t,T,i,h,hn=>⟨by rw [←bagQ_ext q i h];exact hn.1,Nodes.ext q t _ i h hn.2⟩
 | .join _ _ q r,.two b t u,T,i,h,hn=>by
   have h1:∀ j,i≤j→j<i+(leaves q).length→f j=g j:=fun j a b=>h j a (by simp only [leaves,List.length_append];omega)
   have h2:∀ j,i+(leaves q).length≤j→j<i+(leaves q).length+(leaves r).length→f j=g j:=fun j a b=>h j (by omega) (by simp only [leaves,List.length_append];omega)
   exact ⟨by rw [←bagQ_ext q i h1,←bagQ_ext r _ h2];exact hn.1,Nodes.ext q t _ i h1 hn.2.1,Nodes.ext r u _ _ h2 hn.2.2⟩
 | .uni q r,.two b t u,T,i,h,hn=>by
   have h1:∀ j,i≤j→j<i+(leaves q).length→f j=g j:=fun j a b=>h j a (by simp only [leaves,List.length_append];omega)
   have h2:∀ j,i+(leaves q).length≤j→j<i+(leaves q).length+(leaves r).length→f j=g j:=fun j a b=>h j (by omega) (by simp only [leaves,List.length_append];omega)
   exact ⟨hn.1,Nodes.ext q t _ i h1 hn.2.1,Nodes.ext r u _ _ h2 hn.2.2⟩
theorem Nodes.stab {f:Nat→Bag} {w w':World} {O O':Ow} (hs:w.heap.size≤w'.heap.size):∀ (q:Q) (t:Nd) (T:Tk) (i:Nat),(∀ k,k<w.heap.size→(∃ b∈nds t,O k=b+2)∨O k=1→w'.heap[k]? =w.heap[k]?∧O' k=O k)→Nodes q t T i f w O→Nodes q t T i f w' O'
 | .tab _,.leaf,_,_,_,_=>trivial
 | .sel _ _ _ q,.one b t,T,i,h,hn=>by
   obtain ⟨⟨n,h1,h2⟩,h3⟩:=hn
   exact ⟨⟨n,h1,h2.stab fun k hk e=>h k hk (.inl ⟨b,by simp [nds],e⟩)⟩,Nodes.stab hs q t _ i (fun k hk e=>h k hk (e.imp (fun ⟨x,hx,e⟩=>⟨x,by simp [nds,hx],e⟩) id)) h3⟩
 | .pick _ q,.one b t,T,i,h,hn=>⟨hn.1.stab hs fun k hk e=>h k hk (e.imp (fun e=>⟨b,by simp [nds],e⟩) id),Nodes.stab hs q t _ i (fun k hk e=>h k hk (e.imp (fun ⟨x,hx,e⟩=>⟨x,by simp [nds,hx],e⟩) id)) hn.2⟩
 | .dist q,.one b t,T,i,h,hn=>⟨hn.1.stab fun k hk e=>h k hk (.inl ⟨b,by simp [nds],e⟩),Nodes.stab hs q t _ i (fun k hk e=>h k hk (e.imp (fun ⟨x,hx,e⟩=>⟨x,by simp [nds,hx],e⟩) id)) hn.2⟩
 | .grp _ _ q,.one b t,T,i,h,hn=>⟨hn.1.stab hs fun k hk e=>h k hk (e.imp (fun e=>⟨b,by simp [nds],e⟩) id),Nodes.stab hs q t _ i (fun k hk e=>h k hk (e.imp (fun ⟨x,hx,e⟩=>⟨x,by simp [nds,hx],e⟩) id)) hn.2⟩
 | .join _ _ q r,.two b t u,T,i,h,hn=>⟨hn.1.stab fun k hk e=>h k hk (.inl ⟨b,by simp [nds],e⟩),Nodes.stab hs q t _ i (fun k hk e=>h k hk (e.imp (fun ⟨x,hx,e⟩=>⟨x,by simp [nds,hx],e⟩) id)) hn.2.1,Nodes.stab hs r u _ _ (fun k hk e=>h k hk (e.imp (fun ⟨x,hx,e⟩=>⟨x,by simp [nds,hx],e⟩) id)) hn.2.2⟩
 | .uni q r,.two b t u,T,i,h,hn=>⟨hn.1.stab fun k hk e=>h k hk (.inl ⟨b,by simp [nds],e⟩),Nodes.stab hs q t _ i (fun k hk e=>h k hk (e.imp (fun ⟨x,hx,e⟩=>⟨x,by simp [nds,hx],e⟩) id)) hn.2.1,Nodes.stab hs r u _ _ (fun k hk e=>h k hk (e.imp (fun ⟨x,hx,e⟩=>⟨x,by simp [nds,hx],e⟩) id)) hn.2.2⟩
theorem Ok2_congr {ft:List UInt8→Option (List Bool)} {f g:Nat→Bag}:∀ (q:Q) (i:Nat),(∀ j,i≤j→j<i+(leaves q).length→Eqv (f j) (g j))→Ok2 ft q i f→Ok2 ft q i g
 | .tab _,_,_,_=>trivial
 | .sel _ _ _ q,i,h,ho=>by obtain ⟨⟨ts,h1,h2⟩,h3⟩:=ho;exact ⟨⟨ts,h1,h2.eqv (Mo.bagQ_congr q i h)⟩,Ok2_congr q i h h3⟩
 | .pick _ q,i,h,ho=>by obtain ⟨⟨ts,h1,h2⟩,h3⟩:=ho;exact ⟨⟨ts,h1,h2.eqv (Mo.bagQ_congr q i h)⟩,Ok2_congr q i h h3⟩
 | .dist q,i,h,ho=>by obtain ⟨⟨ts,h1,h2⟩,h3⟩:=ho;exact ⟨⟨ts,h1,h2.eqv (Mo.bagQ_congr q i h)⟩,Ok2_congr q i h h3⟩
 | .grp _ _ q,i,h,ho=>by obtain ⟨⟨ts,h1,h2⟩,h3⟩:=ho;exact ⟨⟨ts,h1,h2.eqv (Mo.bagQ_congr q i h)⟩,Ok2_congr q i h h3⟩
 | .join _ _ q r,i,h,ho=>by
   have h1:∀ j,i≤j→j<i+(leaves q).length→Eqv (f j) (g j):=fun j a b=>h j a (by simp only [leaves,List.length_append];omega)
   have h2:∀ j,i+(leaves q).length≤j→j<i+(leaves q).length+(leaves r).length→Eqv (f j) (g j):=fun j a b=>h j (by omega) (by simp only [leaves,List.length_append];omega)
   obtain ⟨⟨⟨ts,a1,a2⟩,⟨us,b1,b2⟩⟩,h3,h4⟩:=ho;exact ⟨⟨⟨ts,a1,a2.eqv (Mo.bagQ_congr q i h1)⟩,⟨us,b1,b2.eqv (Mo.bagQ_congr r _ h2)⟩⟩,Ok2_congr q i h1 h3,Ok2_congr r _ h2 h4⟩
 | .uni q r,i,h,ho=>by
   have h1:∀ j,i≤j→j<i+(leaves q).length→Eqv (f j) (g j):=fun j a b=>h j a (by simp only [leaves,List.length_append];omega)
   have h2:∀ j,i+(leaves q).length≤j→j<i+(leaves q).length+(leaves r).length→Eqv (f j) (g j):=fun j a b=>h j (by omega) (by simp only [leaves,List.length_append];omega)
   obtain ⟨⟨⟨ts,a1,a2⟩,⟨us,b1,b2⟩⟩,h3,h4⟩:=ho;exact ⟨⟨⟨ts,a1,a2.eqv (Mo.bagQ_congr q i h1)⟩,⟨us,b1,b2.eqv (Mo.bagQ_congr r _ h2)⟩⟩,Ok2_congr q i h1 h3,Ok2_congr r _ h2 h4⟩
theorem updN_eqv {f:Nat→Bag} {k:Nat} {B B':Bag} (e:Eqv B B') (j:Nat):Eqv (updN f k B j) (updN f k B' j):=by
 unfold updN;split;exact e;exact Eqv.refl _
section
variable {T:Tk} {A A':Nat→Prop} {ts:List Bool} {Gd Gd':Bag→Prop} {R R':World→Ow→Bag→Prop}
theorem Takes.conv (h:TakesT T A ts Gd R) (hA:∀ a,A a↔A' a) (hG:∀ {B},Gd' B→Gd B) (hg:∀ {B B':Bag},Gd' B→Eqv B B'→Gd' B') (hR:∀ {w O B},R w O B↔R' w O B):TakesT T A' ts Gd' R':=by
 have e1:A=A':=funext fun a=>propext (hA a)
 have e2:R=R':=funext fun w=>funext fun O=>funext fun B=>propext hR
 subst e1 e2
 exact ⟨h.zero,h.one,fun g=>h.ok (hG g),hg,h.stab,h.eqv,h.met,fun w O B d c r g1 g2=>h.run w O B d c r (hG g1) (hG g2)⟩
theorem Takes.frame (h:TakesT T A ts Gd R) (AF:Nat→Prop) (F:World→Ow→Prop) (h0:¬AF 0) (h1:¬AF 1) (hd:∀ a,A a→¬AF a) (hF:∀ {w w':World} {O O':Ow},F w O→w.heap.size≤w'.heap.size→(∀ k,k<w.heap.size→AF (O k)∨O k=1→w'.heap[k]? =w.heap[k]?∧O' k=O k)→F w' O') :
 TakesT T (fun a=>A a∨AF a) ts Gd (fun w O B=>R w O B∧F w O) where
 zero:=fun e=>e.elim h.zero h0
 one:=fun e=>e.elim h.one h1
 ok:=h.ok
 gde:=h.gde
 stab:=fun hr hs hk=>⟨h.stab hr.1 hs fun k hk' e=>hk k hk' (e.imp .inl id),hF hr.2 hs fun k hk' e=>hk k hk' (e.imp .inr id)⟩
 eqv:=fun hr e=>⟨h.eqv hr.1 e,hr.2⟩
 met:=h.met
 run:=fun w O B d c hr g1 g2 hc hA=>(h.run w O B d c hr.1 g1 g2 hc (fun e=>hA (.inl e))).mono fun e w' hE=>by
  obtain ⟨he,O',h2,h3,h4⟩:=hE
  refine ⟨he,O',h2,h3.mono fun i _ e=>.inl e,h4,hF hr.2 h3.size fun k hk' e=>⟨h3.block k hk' fun ha=> ?_,h2 k hk'⟩⟩
  rcases e with e | e
  ·exact hd _ ha e
  ·rw [e] at ha;exact h.one ha
end
end Go.Proofs.YtdinjjmcmfjbfaaGreatDoor
