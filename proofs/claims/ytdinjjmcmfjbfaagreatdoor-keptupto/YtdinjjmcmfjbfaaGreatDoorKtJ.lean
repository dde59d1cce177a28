import Derived.Test.YtdinjjmcmfjbfaaGreatDoorKsJ
import Derived.Test.YtdinjjmcmfjbfaaGreatDoorKpJ
set_option maxRecDepth 100000
set_option maxHeartbeats 4000000
namespace Go.Proofs.YtdinjjmcmfjbfaaGreatDoor
set_option linter.unusedSimpArgs false
open Go.RowKit Go.Shelf
open Mo (V Row Bag cnt canon Eqv OkB OkD Opd opdR pickR pickB totB)
theorem grp_range {w:World} {b:Nat} {sl hv tv cv:Value} {x:Opd} (h:w.heap[b]? =some (.cells (grpC sl hv tv cv x) 286 (0,0))):w.rangeAt b 4 (opA x):=fun j v hv=>by
 rw [cell_of h];have hj:=(List.getElem?_eq_some_iff.1 hv).1
 match j,hj with
 | 0,_ | 1,_ | 2,_ | 3,_ | 4,_ | 5,_ | 6,_ | 7,_=>simpa [opA,grpC] using hv
theorem totB_snoc (cs:List Nat) (s:Option Nat) (es:Bag) (q:Row) (t:Int):totB cs s (es++[(q,t)])=totB cs s es++[(pickR cs q,t*Mo.sv s q)]:=by rw [Mo.totB_append];rfl
theorem load_by {ops:Array Oper} {rest:List Oper} {o:Oper} {a:Act} {w:World} {Q:Exit→Act→World→Prop} (t:TypeId) (x:Operand) (ho:o.op=.load t x) (hgd:o.guard=none) (g k:Nat) (hx:a.eval x=.pointer (some ⟨g,k,none⟩)) (v:Value) (hr:(loadVar t ⟨g,k,none⟩).run Tryz.prog w=.ok v w)
 (h:wpList Tryz.prog ops Q rest (a.put o.dst v) w):wpList Tryz.prog ops Q (o::rest) a w:=by
 refine wpList_plain hgd fun _ hK=> ?_
 unfold Oper.wp execOp;simp only [ho,hx,Instr.loadAt,Instr.sureAddr,Sem.run_bind,Sem.run_pure,Result.andThen_ok,hr];exact hK _ _ h
def GTail (b c1 c2:Nat) (Q:Ending→World→Prop) (w3:World):Prop :=
 Calls Tryz.prog 115 #[.map (some c1)] w3 fun e w4=>∃ c3,e=.returned (.map (some c3)) ∧
  Calls Tryz.prog 263 #[.map (some c3),.map (some c2)] w4 fun e w5=>e=.returned (.tuple #[]) ∧
   Calls Tryz.prog 264 #[.pointer (some ⟨b,0,none⟩),.map (some w5.heap.size),.map (some c3),.int .i64 (-1)] (w5.alloc (.map #[] 0)) fun e w6=>e=.returned (.tuple #[]) ∧
    Calls Tryz.prog 66 #[.pointer (some ⟨b,1,none⟩),.map (some c1)] w6 fun e w7=>e=.returned (.tuple #[]) ∧
     Calls Tryz.prog 66 #[.pointer (some ⟨b,2,none⟩),.map (some c2)] w7 fun e w8=>e=.returned (.tuple #[]) ∧
      Calls Tryz.prog 264 #[.pointer (some ⟨b,0,none⟩),.map (some w5.heap.size),.map (some c3),.int .i64 1] w8 fun e w9=>e=.returned (.tuple #[]) ∧
       Calls Tryz.prog 250 #[.pointer (some ⟨b,0,none⟩),.map (some w5.heap.size)] w9 fun e w'=>e=.returned (.tuple #[])∧Q e w'
structure GrpOk (us:List Bool) (cs:List Nat) (s:Option Nat) (x:Opd) (d:Bag):Prop where
 c6:∀ y∈cs,y<6
 l6:cs.length≤6
 x6:∀ c,x=.col c→c<6
 row:∀ {q:Row},Mo.Good us q→ROk (pickR cs q)
 sv:∀ q,Mo.sv s q=nI (opdR x q)
 mul:∀ q,-9223372036854775808≤cnt d q*Mo.sv s q∧cnt d q*Mo.sv s q≤9223372036854775807
theorem grp_loop (b c:Nat) (sl hv tv cv:Value) (cs:List Nat) (s:Option Nat) (x:Opd) (us:List Bool) (d:Bag) (hO:GrpOk us cs s x d) (w:World) (Q:Ending→World→Prop) (hb:w.heap[b]? =some (.cells (grpC sl hv tv cv x) 286 (0,0))) (hcv:IntsAt w cv cs) (hd:OkD us d) (hc:BagAt w c (canon d))
 (hQ:∀ w3 es,AllOf (canon d) es→BagAt w3 w.heap.size (pickB cs es)→BagAt w3 (w.heap.size+1) (totB cs s es)→Kept No w w3→GTail b w.heap.size (w.heap.size+1) Q w3) :
 Calls Tryz.prog 262 #[.pointer (some ⟨b,0,none⟩),.map (some c)] w Q:=by
 have HC:Hid (BagAt ((w.alloc (.map #[] 0)).alloc (.map #[] 0)) c (canon d)):=hc.of_block ((Below.heap_alloc _ _ _ (by have:=hc.lt;simp;omega)).trans (Below.heap_alloc _ _ _ hc.lt))
 have HN0:Hid (BagAt ((w.alloc (.map #[] 0)).alloc (.map #[] 0)) w.heap.size []):=(BagAt.made w).of_block (Below.heap_alloc _ _ _ (by simp))
 have HN1:Hid (BagAt ((w.alloc (.map #[] 0)).alloc (.map #[] 0)) (w.heap.size+1) []):=by
  have:=BagAt.made (w.alloc (.map #[] 0))
  have e:(w.alloc (.map #[] 0)).heap.size=w.heap.size+1:=by simp
  rw [e] at this;exact this
 obtain ⟨ca,cn,cc,rfl⟩:=hcv.slc;have HB:=hid hb;have HQ:=hid hQ;have HCV:=hid hcv;have HO:=hid hO;have HD:=hid hd;have hcl:=hc.lt;have hbl:=lt_of_heap hb;clear hc hb hQ hcv hO hd;have hmm:=@run_makeMap Tryz.prog
 go_enter Tryz.func262,Tryz.ntmps262
 go_wp2_with (first
  | (at_range;refine wpList_range_bag _ rfl _ rfl c (canon d) rfl HC.out ?_;intro w1 k1 hr1 hk1 hs1)
  | fail)
 have hsz:((w.alloc (.map #[] 0)).alloc (.map #[] 0)).heap.size=w.heap.size+2:=by simp
 rw [hsz] at hr1 hs1 ⊢;have HR1:=hid hr1
 have HA1:Hid (BagAt w1 w.heap.size (pickB cs [])):=HN0.out.kept hk1 (fun e=>e)
 have HT1:Hid (BagAt w1 (w.heap.size+1) (totB cs s [])):=HN1.out.kept hk1 (fun e=>e)
 have hk1':Kept No w w1:=(((Kept.refl No w).alloc _).alloc _).seq hk1;have HK1:=hid hk1';clear hr1 hs1 hk1 hk1' HC HN0 HN1 hmm
 go_frame
 go_loopg [] k1 (fun k wr=>∃ es:Bag,Hid (BRng wr c (w.heap.size+2) (canon d) es k)∧Hid (BagAt wr w.heap.size (pickB cs es))∧Hid (BagAt wr (w.heap.size+1) (totB cs s es))∧Hid (Kept No w wr))
 case atStart=>exact ⟨[],HR1,HA1,HT1,HK1⟩
 case round =>
  obtain ⟨es,hr,ha,hta,hK⟩:=hrel;clear HR1 HA1 HT1 HK1
  go_wp2_with (first
   | (at_next;refine wpList_next_bag _ rfl _ rfl c (w.heap.size+2) (canon d) es gk rfl hr.out ?_ ?_)
   | fail)
  ·intro hall
   have HG:Hid (GTail b w.heap.size (w.heap.size+1) Q wr):=HQ.out wr es hall ha.out hta.out hK.out;have hmm:=@run_makeMap Tryz.prog;clear hall HQ;go_wp2_with fail;refine Calls.mono HG.out ?_;clear HG;rintro e w4 ⟨c3,rfl,hq⟩;have HG:=hid hq;clear hq;go_wp2_with fail;refine Calls.mono HG.out ?_;clear HG;rintro e w5 ⟨rfl,hq⟩;have HG:=hid hq;clear hq;go_wp2_with fail;refine Calls.mono HG.out ?_;clear HG;rintro e w6 ⟨rfl,hq⟩;have HG:=hid hq;clear hq;go_wp2_with fail;refine Calls.mono HG.out ?_;clear HG;rintro e w7 ⟨rfl,hq⟩;have HG:=hid hq;clear hq;go_wp2_with fail;refine Calls.mono HG.out ?_;clear HG;rintro e w8 ⟨rfl,hq⟩;have HG:=hid hq;clear hq;go_wp2_with fail;refine Calls.mono HG.out ?_;clear HG;rintro e w9 ⟨rfl,hq⟩;have HG:=hid hq;clear hq;go_wp2_with fail;refine Calls.mono HG.out ?_;clear HG;rintro e w10 ⟨rfl,hq⟩;have HG:=hid hq;clear hq hmm;go_wp2_with fail;go_end0;exact HG.out
  ·intro t q w2 k2 hq ht htn hr2 hlt hk2 hsz2 hen
   have HR2:=hid hr2
   have HTC:Hid (t=cnt d q):=by show _=_;rw [ht,HD.out.w64]
   have HGQ:Hid (Mo.Good us q):=HD.out.good (by rw [←HTC.out];exact htn)
   have hk2':Kept No w w2:=hK.out.trans hk2 (fun _ e=>e) (fun i hi e=>by omega)
   have HK2:=hid hk2'
   have HA2:Hid (BagAt w2 w.heap.size (pickB cs es)):=ha.out.kept hk2 (fun e=>by omega)
   have HT2:Hid (BagAt w2 (w.heap.size+1) (totB cs s es)):=hta.out.kept hk2 (fun e=>by omega)
   have HLen:Hid ((canon (pickB cs es)).length<maxLen∧(canon (totB cs s es)).length<maxLen):=by
    have e1:=HR2.out.ents.len;have e2:=HD.out.len;have e3:=Mo.canon_append_len (pickB cs es) [];have e4:(pickB cs es).length=es.length:=List.length_map _;have e5:=Mo.canon_append_len (totB cs s es) [];have e6:(totB cs s es).length=es.length:=List.length_map _
    simp [Mo.canon] at e1 e3 e5
    rw [Mo.canon_of_rise (Mo.canon_rise d)] at e1
    show _∧_
    unfold maxLen;omega
   have hw2:w.heap.size+2<w2.heap.size:=HR2.out.lt
   have hb2:w2.heap[b]? =some (.cells (grpC sl hv tv (.slice ca cn cc) x) 286 (0,0)):=(hk2'.block b hbl (fun e=>e)).trans HB.out
   have HB2:=hid hb2;clear hq hr2 hk2 ht htn hsz2 hk2' hb2
   go_wp2_with (first
    | (refine store_row_new _ _ _ rfl rfl w2 _ rfl rfl rfl q rfl ?_)
    | fail)
   have hSb:(w2.alloc (.cells (rowA q) 154)).heap[b]? =some (.cells (grpC sl hv tv (.slice ca cn cc) x) 286 (0,0)):=(Below.heap_alloc _ _ _ (lt_of_heap HB2.out)).trans HB2.out;have hSq:(w2.alloc (.cells (rowA q) 154)).heap[w2.heap.size]? =some (.cells (rowA q) 154 (0,0)):=heap_alloc_last _ _;have HSS:=hid (And.intro hSb hSq);have hKW:Kept No w2 (w2.alloc (.cells (rowA q) 154)):=(Kept.refl No w2).alloc _;have HKW:=hid hKW;clear hSb hSq hKW;generalize w2.alloc (.cells (rowA q) 154)=W at HSS HKW ⊢;obtain ⟨cb,hcb⟩:∃ cb,cb=grpC sl hv tv (.slice ca cn cc) x:=⟨_,rfl⟩;obtain ⟨cq,hcq⟩:∃ cq,cq=rowA q:=⟨_,rfl⟩;obtain ⟨cp,hcp⟩:∃ cp,cp=rowA (pickR cs q):=⟨_,rfl⟩;obtain ⟨vx,hvx⟩:∃ vx,vx=(opA x).toArray:=⟨_,rfl⟩;have HSV:Hid (Mo.sv s q=nI (opdR x q)):=HO.out.sv q
   have HMUL:Hid (-9223372036854775808≤t*nI (opdR x q)∧t*nI (opdR x q)≤9223372036854775807):=by
    have:=HO.out.mul q
    rw [←HTC.out,HSV.out] at this;exact this
   have HROW:Hid (ROk (pickR cs q)):=HO.out.row HGQ.out
   have HPK:Hid (∀ w',Kept No W w'→Calls Tryz.prog 260 #[.agg cq,.slice ca cn cc] w' fun e w''=>e=.returned (.agg cp)∧Kept No w' w''):=by
    subst hcp hcq
    exact fun w' hk'=>pick_any q cs _ w' (HCV.out.kept ((HK2.out.seq HKW.out).seq hk') (fun _ _ e=>e)) HO.out.c6 HO.out.l6
   obtain ⟨y,hy⟩:∃ y,opdR x q=y:=⟨_,rfl⟩
   have HIN:Hid (∀ w',Calls Tryz.prog 253 #[.agg vx,.agg cq] w' fun e w''=>e=.returned (.agg #[.int .i32 (kI y),.int .u8 (tB y 0),.int .u8 (tB y 1),.int .u8 (tB y 2),.int .u8 (tB y 3),.int .i64 (nI y)])∧Kept No w' w''):=by
    subst hvx hcq hy
    exact fun w'=>in_any x q HO.out.x6 w'
   have HY1:Hid (∀ w:World,w.heap[b]? =some (.cells cb 286 (0,0))→(loadVar 135 ⟨b,4,none⟩).run Tryz.prog w=.ok (.agg vx) w):=by
    subst hcb hvx
    exact fun w h=>run_loadVar_mid w b 4 135 (opA x) _ (grp_range h) Tryz.underlying135 rfl infoOp
   have HY3:Hid (∀ (g:Nat) (w:World),w.heap[g]? =some (.cells cq 154 (0,0))→(loadVar 154 ⟨g,0,none⟩).run Tryz.prog w=.ok (.agg cq) w):=by
    subst hcq
    exact fun g w h=>run_loadVar_row w g 154 154 (rowA q) (0,0) _ h Tryz.underlying154 rfl (by rw [rowA_size];exact infoRow)
   have HY5:Hid (∀ (g:Nat) (w:World),w.heap[g]? =some (.cells cp 154 (0,0))→(loadVar 154 ⟨g,0,none⟩).run Tryz.prog w=.ok (.agg cp) w):=by
    subst hcp
    exact fun g w h=>run_loadVar_row w g 154 154 (rowA (pickR cs q)) (0,0) _ h Tryz.underlying154 rfl (by rw [rowA_size];exact infoRow)
   have HY4:Hid (∀ w:World,w.heap[b]? =some (.cells cb 286 (0,0))→w.cell? ⟨b,3,none⟩=some (.slice ca cn cc)):=by
    subst hcb
    exact fun w h=>(cell_of h 3).trans rfl
   have HCP:=hid hcp;rw [hy] at HMUL HSV;rw [←hcb,←hcq] at HSS;clear hcb hcq hcp hvx HGQ HB2 hy HTC
   refine wp_region_held_drew (S:=fun w'=>w'.heap[b]? =some (.cells cb 286 (0,0))∧w'.heap[w2.heap.size]? =some (.cells cq 154 (0,0))) (by kernel_rfl) HSS.out (fun hHeld=> ?_)
   refine tk_L 0 (.agg cq) 154 (.tmp 6) (w2.heap.size) (0) (fun w h=>HY3.out _ w h.2) hHeld ?_
   try simp only [Act.put,n_1,n_2,n_3,n_4,n_5,n_6]
   refine tk_P 1 (.pointer (some ⟨b,0,none⟩)) hHeld ?_;try simp only [Act.put,n_1,n_2,n_3,n_4,n_5,n_6]
   refine tk_P 2 (.pointer (some ⟨b,0,none⟩)) hHeld ?_;try simp only [Act.put,n_1,n_2,n_3,n_4,n_5,n_6]
   refine tk_P 3 (.pointer (some ⟨b,3,none⟩)) hHeld ?_;try simp only [Act.put,n_1,n_2,n_3,n_4,n_5,n_6]
   refine tk_C 4 (.slice ca cn cc) 136 (.tmp 23) (b) (3) (fun w h=>HY4.out w h.1) hHeld ?_
   try simp only [Act.put,n_1,n_2,n_3,n_4,n_5,n_6]
   have HKw:Hid (Kept No W W.drew):=(Kept.refl No W).drew
   refine wpAnyH_ready (rs:=[5,6]) (by kernel_rfl) (by simp) ?_
   refine AllReadyH.cons rfl (fun K hK=> ?_) (AllReadyH.cons rfl (fun K hK=> ?_) AllReadyH.nil)
   ·go_simp
    refine (HPK.out _ HKw.out).mono ?_;rintro e w3 ⟨rfl,hk3⟩
    have hS3:w3.heap[b]? =some (.cells cb 286 (0,0))∧w3.heap[w2.heap.size]? =some (.cells cq 154 (0,0)):=⟨(hk3.block b (lt_of_heap hHeld.1) (fun e=>e)).trans hHeld.1,(hk3.block _ (lt_of_heap hHeld.2) (fun e=>e)).trans hHeld.2⟩
    have HK3:Hid (Kept No w2 w3):=HKW.out.seq (HKw.out.seq hk3)
    refine hK.out _ _ hS3 (fun hHeld=> ?_)
    clear hK K hk3;try simp only [Act.put,n_1,n_2,n_3,n_4,n_5,n_6]
    refine tk_S 6 (fun K hK=> ?_)
    go_simp;have hS4:(w3.alloc (.cells #[.int .i64 0,.int .i32 0,.int .u8 0,.int .u8 0,.int .u8 0,.int .u8 0,.int .i64 0,.int .i32 0,.int .u8 0,.int .u8 0,.int .u8 0,.int .u8 0,.int .i64 0,.int .i32 0,.int .u8 0,.int .u8 0,.int .u8 0,.int .u8 0,.int .i64 0,.int .i32 0,.int .u8 0,.int .u8 0,.int .u8 0,.int .u8 0,.int .i64 0,.int .i32 0,.int .u8 0,.int .u8 0,.int .u8 0,.int .u8 0,.int .i64 0,.int .i32 0,.int .u8 0,.int .u8 0,.int .u8 0,.int .u8 0,.int .i64 0] 154)).heap[b]? =some (.cells cb 286 (0,0))∧(w3.alloc (.cells #[.int .i64 0,.int .i32 0,.int .u8 0,.int .u8 0,.int .u8 0,.int .u8 0,.int .i64 0,.int .i32 0,.int .u8 0,.int .u8 0,.int .u8 0,.int .u8 0,.int .i64 0,.int .i32 0,.int .u8 0,.int .u8 0,.int .u8 0,.int .u8 0,.int .i64 0,.int .i32 0,.int .u8 0,.int .u8 0,.int .u8 0,.int .u8 0,.int .i64 0,.int .i32 0,.int .u8 0,.int .u8 0,.int .u8 0,.int .u8 0,.int .i64 0,.int .i32 0,.int .u8 0,.int .u8 0,.int .u8 0,.int .u8 0,.int .i64 0] 154)).heap[w2.heap.size]? =some (.cells cq 154 (0,0)):=⟨(Below.heap_alloc _ _ _ (lt_of_heap hHeld.1)).trans hHeld.1,(Below.heap_alloc _ _ _ (lt_of_heap hHeld.2)).trans hHeld.2⟩
    have hP0:∃ c0:Array Value,(w3.alloc (.cells #[.int .i64 0,.int .i32 0,.int .u8 0,.int .u8 0,.int .u8 0,.int .u8 0,.int .i64 0,.int .i32 0,.int .u8 0,.int .u8 0,.int .u8 0,.int .u8 0,.int .i64 0,.int .i32 0,.int .u8 0,.int .u8 0,.int .u8 0,.int .u8 0,.int .i64 0,.int .i32 0,.int .u8 0,.int .u8 0,.int .u8 0,.int .u8 0,.int .i64 0,.int .i32 0,.int .u8 0,.int .u8 0,.int .u8 0,.int .u8 0,.int .i64 0,.int .i32 0,.int .u8 0,.int .u8 0,.int .u8 0,.int .u8 0,.int .i64 0] 154)).heap[w3.heap.size]? =some (.cells c0 154 (0,0))∧c0.size=37:=⟨_,heap_alloc_last _ _,rfl⟩;have HK4:Hid (Kept No w2 (w3.alloc (.cells #[.int .i64 0,.int .i32 0,.int .u8 0,.int .u8 0,.int .u8 0,.int .u8 0,.int .i64 0,.int .i32 0,.int .u8 0,.int .u8 0,.int .u8 0,.int .u8 0,.int .i64 0,.int .i32 0,.int .u8 0,.int .u8 0,.int .u8 0,.int .u8 0,.int .i64 0,.int .i32 0,.int .u8 0,.int .u8 0,.int .u8 0,.int .u8 0,.int .i64 0,.int .i32 0,.int .u8 0,.int .u8 0,.int .u8 0,.int .u8 0,.int .i64 0,.int .i32 0,.int .u8 0,.int .u8 0,.int .u8 0,.int .u8 0,.int .i64 0] 154))):=HK3.out.alloc _
    have hP8:w2.heap.size<w3.heap.size:=lt_of_heap hS3.2;generalize w3.alloc (.cells #[.int .i64 0,.int .i32 0,.int .u8 0,.int .u8 0,.int .u8 0,.int .u8 0,.int .i64 0,.int .i32 0,.int .u8 0,.int .u8 0,.int .u8 0,.int .u8 0,.int .i64 0,.int .i32 0,.int .u8 0,.int .u8 0,.int .u8 0,.int .u8 0,.int .i64 0,.int .i32 0,.int .u8 0,.int .u8 0,.int .u8 0,.int .u8 0,.int .i64 0,.int .i32 0,.int .u8 0,.int .u8 0,.int .u8 0,.int .u8 0,.int .i64 0,.int .i32 0,.int .u8 0,.int .u8 0,.int .u8 0,.int .u8 0,.int .i64 0] 154)=w4 at hS4 hP0 HK4 ⊢;generalize w3.heap.size=P8 at hP0 hP8 ⊢;obtain ⟨c0,hP0,hc0⟩:=hP0
    refine hK.out _ _ hS4 (fun hHeld=> ?_)
    clear hK K hS3 HK3;try simp only [Act.put,n_1,n_2,n_3,n_4,n_5,n_6]
    refine tk_S 7 (fun K hK=> ?_)
    rw [if_pos (by kernel_rfl)]
    refine wp_store_row 154 (.tmp 8) (.tmp 25) (by kernel_rfl) P8 cp (by kernel_rfl) (by kernel_rfl) 154 c0 hP0 (by rw [HCP.out,rowA_size];exact infoRow) (by rw [hc0,HCP.out];rfl) (by rw [HCP.out];exact rowA_one _) ?_
    have hks:=kept_setRow (Kept.refl (fun k=>k=P8) w4) (g:=P8) (.inr rfl) cp
    have hS5:(w4.setRow P8 cp).heap[b]? =some (.cells cb 286 (0,0))∧(w4.setRow P8 cp).heap[w2.heap.size]? =some (.cells cq 154 (0,0)):=⟨(hks.block _ (lt_of_heap hHeld.1) (by omega)).trans hHeld.1,(hks.block _ (lt_of_heap hHeld.2) (by omega)).trans hHeld.2⟩
    have HP5:Hid ((w4.setRow P8 cp).heap[P8]? =some (.cells cp 154 (0,0))):=setRow_heap' (c:=cp) hP0
    have HK5:Hid (Kept No w2 (w4.setRow P8 cp)):=kept_setRow HK4.out (.inl (by omega)) _
    refine hK.out _ _ hS5 (fun hHeld=> ?_)
    clear hK K hks
    refine wpAnyH_done (by kernel_rfl) ?_ _
    have HS5:=hid hHeld;clear hHeld hS5 hS4 HK4 hP0 HPK HKw HSS HKW;generalize w4.setRow P8 cp=w5 at HS5 HP5 HK5 ⊢;try simp only [Act.put,n_1,n_2,n_3,n_4,n_5,n_6]
    have HADD:Hid (∀ w',Kept No w5 w'→Calls Tryz.prog 79 #[.map (some w.heap.size),.agg cp,.int .i64 t] w' fun e w''=>e=.returned (.tuple #[])∧BagAt w'' w.heap.size ((pickR cs q,t)::pickB cs es)∧Kept (·=w.heap.size) w' w''):=by
     refine hid ?_;rw [HCP.out];intro w' hk'
     have h1:=HA2.out.kept (HK5.out.seq hk') (fun e=>e)
     exact add_any w.heap.size (pickB cs es) (pickR cs q) t w' h1 HROW.out HLen.out.1
    go_wp2_with (first
     | (refine load_by 154 _ rfl rfl P8 0 rfl (.agg cp) (HY5.out _ _ HP5.out) ?_)
     | fail)
    refine (HADD.out _ (Kept.refl _ _)).mono ?_;rintro e w6 ⟨rfl,ha6,hk6⟩;have hbl2:=lt_of_heap HS5.out.1
    have HS6:Hid (w6.heap[b]? =some (.cells cb 286 (0,0))∧w6.heap[w2.heap.size]? =some (.cells cq 154 (0,0))∧w6.heap[P8]? =some (.cells cp 154 (0,0))):=⟨(hk6.block b hbl2 (by omega)).trans HS5.out.1,(hk6.block _ (lt_of_heap HS5.out.2) (by omega)).trans HS5.out.2,(hk6.block _ (lt_of_heap HP5.out) (by omega)).trans HP5.out⟩
    have HK6:Hid (Kept (·=w.heap.size) w2 w6):=HK5.out.noSeq hk6
    have HA6:Hid (BagAt w6 w.heap.size (pickB cs (es++[(q,t)]))):=by
     show BagAt _ _ _
     rw [pickB_snoc]
     refine ha6.eqv (fun x=> ?_) (fun x hx=> ?_)
     ·simp only [Mo.cnt_append,cnt];omega
     ·rcases List.mem_append.1 hx with hx | hx
      ·exact HA2.out.1 x hx
      ·simp at hx;subst hx;exact HROW.out
    have HT6:Hid (BagAt w6 (w.heap.size+1) (totB cs s es)):=HT2.out.kept HK6.out (fun e=>by omega)
    have HR6:Hid (BRng w6 c (w.heap.size+2) (canon d) (es++[(q,t)]) k2):=HR2.out.kept HK6.out (fun e=>by omega) (fun e=>by omega)
    have HK7:Hid (Kept No w w6):=HK2.out.trans HK6.out (fun _ e=>e) (fun i hi e=>by omega)
    clear ha6 hk6 HADD HS5 HP5 HK5 HA2 HT2 HR2 HK2 HK6
    have HSN:Hid (totB cs s (es++[(q,t)])=totB cs s es++[(pickR cs q,t*nI y)]):=by show _=_;rw [totB_snoc,HSV.out]
    obtain ⟨nv,hnv⟩:∃ nv,nI y=nv:=⟨_,rfl⟩;rw [hnv] at HIN HMUL HSN
    have HADT:Hid (∀ w',Kept No w6 w'→Calls Tryz.prog 79 #[.map (some (w.heap.size+1)),.agg cp,.int .i64 (t*nv)] w' fun e w''=>e=.returned (.tuple #[])∧BagAt w'' (w.heap.size+1) ((pickR cs q,t*nv)::totB cs s es)∧Kept (·=w.heap.size+1) w' w''):=by
     refine hid ?_;rw [HCP.out];intro w' hk'
     have h1:=HT6.out.kept hk' (fun e=>e)
     exact add_any (w.heap.size+1) (totB cs s es) (pickR cs q) (t*nv) w' h1 HROW.out HLen.out.2
    have hmul:IntKind.i64.wrap (t*nv)=t*nv:=IntWalk.i64_in _ HMUL.out;obtain ⟨tn,htn⟩:∃ tn,t*nv=tn:=⟨_,rfl⟩;rw [htn] at HADT HSN hmul
    have HF:∀ w,(Instr.field 133 (.agg #[.int .i32 (kI y),.int .u8 (tB y 0),.int .u8 (tB y 1),.int .u8 (tB y 2),.int .u8 (tB y 3),.int .i64 nv]) 2).run Tryz.prog w=.ok (.int .i64 nv) w:=fun _=>by kernel_rfl
    go_wp2_with fail
    refine wp_region_held_drew (S:=fun w'=>w'.heap[b]? =some (.cells cb 286 (0,0))∧w'.heap[w2.heap.size]? =some (.cells cq 154 (0,0))∧w'.heap[P8]? =some (.cells cp 154 (0,0))) (by kernel_rfl) HS6.out (fun hHeld=> ?_)
    refine tk_P 0 (.map (some (w.heap.size+1))) hHeld ?_;try simp only [Act.put,n_1,n_2,n_3,n_4,n_5,n_6]
    refine tk_L 1 (.agg cp) 154 (.tmp 8) (P8) (0) (fun w h=>HY5.out _ w h.2.2) hHeld ?_
    try simp only [Act.put,n_1,n_2,n_3,n_4,n_5,n_6]
    refine tk_P 2 (.int .i64 t) hHeld ?_;try simp only [Act.put,n_1,n_2,n_3,n_4,n_5,n_6]
    refine tk_P 3 (.pointer (some ⟨b,0,none⟩)) hHeld ?_;try simp only [Act.put,n_1,n_2,n_3,n_4,n_5,n_6]
    refine tk_P 4 (.pointer (some ⟨b,0,none⟩)) hHeld ?_;try simp only [Act.put,n_1,n_2,n_3,n_4,n_5,n_6]
    refine tk_P 5 (.pointer (some ⟨b,4,none⟩)) hHeld ?_;try simp only [Act.put,n_1,n_2,n_3,n_4,n_5,n_6]
    refine tk_L 6 (.agg vx) 135 (.tmp 35) (b) (4) (fun w h=>HY1.out w h.1) hHeld ?_
    try simp only [Act.put,n_1,n_2,n_3,n_4,n_5,n_6]
    refine tk_L 7 (.agg cq) 154 (.tmp 6) (w2.heap.size) (0) (fun w h=>HY3.out _ w h.2.1) hHeld ?_
    try simp only [Act.put,n_1,n_2,n_3,n_4,n_5,n_6]
    refine tk_S 8 (fun K hK=> ?_)
    go_simp;refine (HIN.out _).mono ?_;rintro e w7 ⟨rfl,hk7⟩
    have hS7:w7.heap[b]? =some (.cells cb 286 (0,0))∧w7.heap[w2.heap.size]? =some (.cells cq 154 (0,0))∧w7.heap[P8]? =some (.cells cp 154 (0,0)):=⟨(hk7.block b (lt_of_heap hHeld.1) (fun e=>e)).trans hHeld.1,(hk7.block _ (lt_of_heap hHeld.2.1) (fun e=>e)).trans hHeld.2.1,(hk7.block _ (lt_of_heap hHeld.2.2) (fun e=>e)).trans hHeld.2.2⟩
    have HK8:Hid (Kept No w6 w7):=((Kept.refl No w6).drew).seq hk7
    refine hK.out _ _ hS7 (fun hHeld=> ?_)
    clear hK K hk7;try simp only [Act.put,n_1,n_2,n_3,n_4,n_5,n_6]
    refine tk_P 9 (.int .i64 nv) hHeld ?_;try simp only [Act.put,n_1,n_2,n_3,n_4,n_5,n_6]
    refine tk_P 10 (.int .i64 tn) hHeld ?_;try simp only [Act.put,n_1,n_2,n_3,n_4,n_5,n_6]
    refine tk_S 11 (fun K hK=> ?_)
    go_simp;refine (HADT.out _ HK8.out).mono ?_;rintro e w8 ⟨rfl,ha8,hk8⟩
    have hS8:w8.heap[b]? =some (.cells cb 286 (0,0))∧w8.heap[w2.heap.size]? =some (.cells cq 154 (0,0))∧w8.heap[P8]? =some (.cells cp 154 (0,0)):=⟨(hk8.block b (lt_of_heap hHeld.1) (by omega)).trans hHeld.1,(hk8.block _ (lt_of_heap hHeld.2.1) (by omega)).trans hHeld.2.1,(hk8.block _ (lt_of_heap hHeld.2.2) (by omega)).trans hHeld.2.2⟩
    have HK9:Hid (Kept (·=w.heap.size+1) w6 w8):=HK8.out.noSeq hk8
    refine hK.out _ _ hS8 (fun hHeld=> ?_)
    clear hK K hk8
    refine wpAnyH_done (by kernel_rfl) ?_ _
    clear hS7 hS8 hHeld HK8 HADT HIN HY1 HY3 HY4 HY5 HS6 HF hmul;try simp only [Act.put,n_1,n_2,n_3,n_4,n_5,n_6]
    have HA9:Hid (BagAt w8 w.heap.size (pickB cs (es++[(q,t)]))):=HA6.out.kept HK9.out (fun e=>by omega)
    have HT9:Hid (BagAt w8 (w.heap.size+1) (totB cs s (es++[(q,t)]))):=by
     show BagAt _ _ _
     rw [HSN.out]
     refine ha8.eqv (fun x=> ?_) (fun x hx=> ?_)
     ·simp only [Mo.cnt_append,cnt];omega
     ·rcases List.mem_append.1 hx with hx | hx
      ·exact HT6.out.1 x hx
      ·simp at hx;subst hx;exact HROW.out
    have HR9:Hid (BRng w8 c (w.heap.size+2) (canon d) (es++[(q,t)]) k2):=HR6.out.kept HK9.out (fun e=>by omega) (fun e=>by omega)
    have HK10:Hid (Kept No w w8):=HK7.out.trans HK9.out (fun _ e=>e) (fun i hi e=>by omega)
    clear ha8 HA6 HT6 HR6 HK7 HK9;go_wp2_with fail;go_roundg k2
    case measure=>exact hlt
    case rel=>exact ⟨es++[(q,t)],HR9,HA9,HT9,HK10⟩
   ·go_simp
    have hS3:((W.alloc (.cells #[.int .i64 0,.int .i32 0,.int .u8 0,.int .u8 0,.int .u8 0,.int .u8 0,.int .i64 0,.int .i32 0,.int .u8 0,.int .u8 0,.int .u8 0,.int .u8 0,.int .i64 0,.int .i32 0,.int .u8 0,.int .u8 0,.int .u8 0,.int .u8 0,.int .i64 0,.int .i32 0,.int .u8 0,.int .u8 0,.int .u8 0,.int .u8 0,.int .i64 0,.int .i32 0,.int .u8 0,.int .u8 0,.int .u8 0,.int .u8 0,.int .i64 0,.int .i32 0,.int .u8 0,.int .u8 0,.int .u8 0,.int .u8 0,.int .i64 0] 154)).drew).heap[b]? =some (.cells cb 286 (0,0))∧((W.alloc (.cells #[.int .i64 0,.int .i32 0,.int .u8 0,.int .u8 0,.int .u8 0,.int .u8 0,.int .i64 0,.int .i32 0,.int .u8 0,.int .u8 0,.int .u8 0,.int .u8 0,.int .i64 0,.int .i32 0,.int .u8 0,.int .u8 0,.int .u8 0,.int .u8 0,.int .i64 0,.int .i32 0,.int .u8 0,.int .u8 0,.int .u8 0,.int .u8 0,.int .i64 0,.int .i32 0,.int .u8 0,.int .u8 0,.int .u8 0,.int .u8 0,.int .i64 0,.int .i32 0,.int .u8 0,.int .u8 0,.int .u8 0,.int .u8 0,.int .i64 0] 154)).drew).heap[w2.heap.size]? =some (.cells cq 154 (0,0)):=⟨(Below.heap_alloc _ _ _ (lt_of_heap hHeld.1)).trans hHeld.1,(Below.heap_alloc _ _ _ (lt_of_heap hHeld.2)).trans hHeld.2⟩
    have hP0:∃ c0:Array Value,((W.alloc (.cells #[.int .i64 0,.int .i32 0,.int .u8 0,.int .u8 0,.int .u8 0,.int .u8 0,.int .i64 0,.int .i32 0,.int .u8 0,.int .u8 0,.int .u8 0,.int .u8 0,.int .i64 0,.int .i32 0,.int .u8 0,.int .u8 0,.int .u8 0,.int .u8 0,.int .i64 0,.int .i32 0,.int .u8 0,.int .u8 0,.int .u8 0,.int .u8 0,.int .i64 0,.int .i32 0,.int .u8 0,.int .u8 0,.int .u8 0,.int .u8 0,.int .i64 0,.int .i32 0,.int .u8 0,.int .u8 0,.int .u8 0,.int .u8 0,.int .i64 0] 154)).drew).heap[W.heap.size]? =some (.cells c0 154 (0,0))∧c0.size=37:=⟨_,heap_alloc_last _ _,rfl⟩;have HK3:Hid (Kept No W ((W.alloc (.cells #[.int .i64 0,.int .i32 0,.int .u8 0,.int .u8 0,.int .u8 0,.int .u8 0,.int .i64 0,.int .i32 0,.int .u8 0,.int .u8 0,.int .u8 0,.int .u8 0,.int .i64 0,.int .i32 0,.int .u8 0,.int .u8 0,.int .u8 0,.int .u8 0,.int .i64 0,.int .i32 0,.int .u8 0,.int .u8 0,.int .u8 0,.int .u8 0,.int .i64 0,.int .i32 0,.int .u8 0,.int .u8 0,.int .u8 0,.int .u8 0,.int .i64 0,.int .i32 0,.int .u8 0,.int .u8 0,.int .u8 0,.int .u8 0,.int .i64 0] 154)).drew)):=((Kept.refl No W).alloc _).drew
    have hP8:w2.heap.size<W.heap.size:=lt_of_heap HSS.out.2;generalize (W.alloc (.cells #[.int .i64 0,.int .i32 0,.int .u8 0,.int .u8 0,.int .u8 0,.int .u8 0,.int .i64 0,.int .i32 0,.int .u8 0,.int .u8 0,.int .u8 0,.int .u8 0,.int .i64 0,.int .i32 0,.int .u8 0,.int .u8 0,.int .u8 0,.int .u8 0,.int .i64 0,.int .i32 0,.int .u8 0,.int .u8 0,.int .u8 0,.int .u8 0,.int .i64 0,.int .i32 0,.int .u8 0,.int .u8 0,.int .u8 0,.int .u8 0,.int .i64 0,.int .i32 0,.int .u8 0,.int .u8 0,.int .u8 0,.int .u8 0,.int .i64 0] 154)).drew=w3 at hS3 hP0 HK3 ⊢;generalize W.heap.size=P8 at hP0 hP8 ⊢;obtain ⟨c0,hP0,hc0⟩:=hP0
    refine hK.out _ _ hS3 (fun hHeld=> ?_)
    clear hK K;try simp only [Act.put,n_1,n_2,n_3,n_4,n_5,n_6]
    refine tk_S 5 (fun K hK=> ?_)
    go_simp;refine (HPK.out _ HK3.out).mono ?_;rintro e w4 ⟨rfl,hk4⟩
    have hS4:w4.heap[b]? =some (.cells cb 286 (0,0))∧w4.heap[w2.heap.size]? =some (.cells cq 154 (0,0)):=⟨(hk4.block b (lt_of_heap hHeld.1) (fun e=>e)).trans hHeld.1,(hk4.block _ (lt_of_heap hHeld.2) (fun e=>e)).trans hHeld.2⟩
    have HK4:Hid (Kept No w2 w4):=HKW.out.seq (HK3.out.seq hk4)
    have hP0:w4.heap[P8]? =some (.cells c0 154 (0,0)):=(hk4.block _ (lt_of_heap hP0) (fun e=>e)).trans hP0
    refine hK.out _ _ hS4 (fun hHeld=> ?_)
    clear hK K hS3 HK3 hk4;try simp only [Act.put,n_1,n_2,n_3,n_4,n_5,n_6]
    refine tk_S 7 (fun K hK=> ?_)
    rw [if_pos (by kernel_rfl)]
    refine wp_store_row 154 (.tmp 8) (.tmp 25) (by kernel_rfl) P8 cp (by kernel_rfl) (by kernel_rfl) 154 c0 hP0 (by rw [HCP.out,rowA_size];exact infoRow) (by rw [hc0,HCP.out];rfl) (by rw [HCP.out];exact rowA_one _) ?_
    have hks:=kept_setRow (Kept.refl (fun k=>k=P8) w4) (g:=P8) (.inr rfl) cp
    have hS5:(w4.setRow P8 cp).heap[b]? =some (.cells cb 286 (0,0))∧(w4.setRow P8 cp).heap[w2.heap.size]? =some (.cells cq 154 (0,0)):=⟨(hks.block _ (lt_of_heap hHeld.1) (by omega)).trans hHeld.1,(hks.block _ (lt_of_heap hHeld.2) (by omega)).trans hHeld.2⟩
    have HP5:Hid ((w4.setRow P8 cp).heap[P8]? =some (.cells cp 154 (0,0))):=setRow_heap' (c:=cp) hP0
    have HK5:Hid (Kept No w2 (w4.setRow P8 cp)):=kept_setRow HK4.out (.inl (by omega)) _
    refine hK.out _ _ hS5 (fun hHeld=> ?_)
    clear hK K hks
    refine wpAnyH_done (by kernel_rfl) ?_ _
    have HS5:=hid hHeld;clear hHeld hS5 hS4 HK4 hP0 HPK HKw HSS HKW;generalize w4.setRow P8 cp=w5 at HS5 HP5 HK5 ⊢;try simp only [Act.put,n_1,n_2,n_3,n_4,n_5,n_6]
    have HADD:Hid (∀ w',Kept No w5 w'→Calls Tryz.prog 79 #[.map (some w.heap.size),.agg cp,.int .i64 t] w' fun e w''=>e=.returned (.tuple #[])∧BagAt w'' w.heap.size ((pickR cs q,t)::pickB cs es)∧Kept (·=w.heap.size) w' w''):=by
     refine hid ?_;rw [HCP.out];intro w' hk'
     have h1:=HA2.out.kept (HK5.out.seq hk') (fun e=>e)
     exact add_any w.heap.size (pickB cs es) (pickR cs q) t w' h1 HROW.out HLen.out.1
    go_wp2_with (first
     | (refine load_by 154 _ rfl rfl P8 0 rfl (.agg cp) (HY5.out _ _ HP5.out) ?_)
     | fail)
    refine (HADD.out _ (Kept.refl _ _)).mono ?_;rintro e w6 ⟨rfl,ha6,hk6⟩;have hbl2:=lt_of_heap HS5.out.1
    have HS6:Hid (w6.heap[b]? =some (.cells cb 286 (0,0))∧w6.heap[w2.heap.size]? =some (.cells cq 154 (0,0))∧w6.heap[P8]? =some (.cells cp 154 (0,0))):=⟨(hk6.block b hbl2 (by omega)).trans HS5.out.1,(hk6.block _ (lt_of_heap HS5.out.2) (by omega)).trans HS5.out.2,(hk6.block _ (lt_of_heap HP5.out) (by omega)).trans HP5.out⟩
    have HK6:Hid (Kept (·=w.heap.size) w2 w6):=HK5.out.noSeq hk6
    have HA6:Hid (BagAt w6 w.heap.size (pickB cs (es++[(q,t)]))):=by
     show BagAt _ _ _
     rw [pickB_snoc]
     refine ha6.eqv (fun x=> ?_) (fun x hx=> ?_)
     ·simp only [Mo.cnt_append,cnt];omega
     ·rcases List.mem_append.1 hx with hx | hx
      ·exact HA2.out.1 x hx
      ·simp at hx;subst hx;exact HROW.out
    have HT6:Hid (BagAt w6 (w.heap.size+1) (totB cs s es)):=HT2.out.kept HK6.out (fun e=>by omega)
    have HR6:Hid (BRng w6 c (w.heap.size+2) (canon d) (es++[(q,t)]) k2):=HR2.out.kept HK6.out (fun e=>by omega) (fun e=>by omega)
    have HK7:Hid (Kept No w w6):=HK2.out.trans HK6.out (fun _ e=>e) (fun i hi e=>by omega)
    clear ha6 hk6 HADD HS5 HP5 HK5 HA2 HT2 HR2 HK2 HK6
    have HSN:Hid (totB cs s (es++[(q,t)])=totB cs s es++[(pickR cs q,t*nI y)]):=by show _=_;rw [totB_snoc,HSV.out]
    obtain ⟨nv,hnv⟩:∃ nv,nI y=nv:=⟨_,rfl⟩;rw [hnv] at HIN HMUL HSN
    have HADT:Hid (∀ w',Kept No w6 w'→Calls Tryz.prog 79 #[.map (some (w.heap.size+1)),.agg cp,.int .i64 (t*nv)] w' fun e w''=>e=.returned (.tuple #[])∧BagAt w'' (w.heap.size+1) ((pickR cs q,t*nv)::totB cs s es)∧Kept (·=w.heap.size+1) w' w''):=by
     refine hid ?_;rw [HCP.out];intro w' hk'
     have h1:=HT6.out.kept hk' (fun e=>e)
     exact add_any (w.heap.size+1) (totB cs s es) (pickR cs q) (t*nv) w' h1 HROW.out HLen.out.2
    have hmul:IntKind.i64.wrap (t*nv)=t*nv:=IntWalk.i64_in _ HMUL.out;obtain ⟨tn,htn⟩:∃ tn,t*nv=tn:=⟨_,rfl⟩;rw [htn] at HADT HSN hmul
    have HF:∀ w,(Instr.field 133 (.agg #[.int .i32 (kI y),.int .u8 (tB y 0),.int .u8 (tB y 1),.int .u8 (tB y 2),.int .u8 (tB y 3),.int .i64 nv]) 2).run Tryz.prog w=.ok (.int .i64 nv) w:=fun _=>by kernel_rfl
    go_wp2_with fail
    refine wp_region_held_drew (S:=fun w'=>w'.heap[b]? =some (.cells cb 286 (0,0))∧w'.heap[w2.heap.size]? =some (.cells cq 154 (0,0))∧w'.heap[P8]? =some (.cells cp 154 (0,0))) (by kernel_rfl) HS6.out (fun hHeld=> ?_)
    refine tk_P 0 (.map (some (w.heap.size+1))) hHeld ?_;try simp only [Act.put,n_1,n_2,n_3,n_4,n_5,n_6]
    refine tk_L 1 (.agg cp) 154 (.tmp 8) (P8) (0) (fun w h=>HY5.out _ w h.2.2) hHeld ?_
    try simp only [Act.put,n_1,n_2,n_3,n_4,n_5,n_6]
    refine tk_P 2 (.int .i64 t) hHeld ?_;try simp only [Act.put,n_1,n_2,n_3,n_4,n_5,n_6]
    refine tk_P 3 (.pointer (some ⟨b,0,none⟩)) hHeld ?_;try simp only [Act.put,n_1,n_2,n_3,n_4,n_5,n_6]
    refine tk_P 4 (.pointer (some ⟨b,0,none⟩)) hHeld ?_;try simp only [Act.put,n_1,n_2,n_3,n_4,n_5,n_6]
    refine tk_P 5 (.pointer (some ⟨b,4,none⟩)) hHeld ?_;try simp only [Act.put,n_1,n_2,n_3,n_4,n_5,n_6]
    refine tk_L 6 (.agg vx) 135 (.tmp 35) (b) (4) (fun w h=>HY1.out w h.1) hHeld ?_
    try simp only [Act.put,n_1,n_2,n_3,n_4,n_5,n_6]
    refine tk_L 7 (.agg cq) 154 (.tmp 6) (w2.heap.size) (0) (fun w h=>HY3.out _ w h.2.1) hHeld ?_
    try simp only [Act.put,n_1,n_2,n_3,n_4,n_5,n_6]
    refine tk_S 8 (fun K hK=> ?_)
    go_simp;refine (HIN.out _).mono ?_;rintro e w7 ⟨rfl,hk7⟩
    have hS7:w7.heap[b]? =some (.cells cb 286 (0,0))∧w7.heap[w2.heap.size]? =some (.cells cq 154 (0,0))∧w7.heap[P8]? =some (.cells cp 154 (0,0)):=⟨(hk7.block b (lt_of_heap hHeld.1) (fun e=>e)).trans hHeld.1,(hk7.block _ (lt_of_heap hHeld.2.1) (fun e=>e)).trans hHeld.2.1,(hk7.block _ (lt_of_heap hHeld.2.2) (fun e=>e)).trans hHeld.2.2⟩
    have HK8:Hid (Kept No w6 w7):=((Kept.refl No w6).drew).seq hk7
    refine hK.out _ _ hS7 (fun hHeld=> ?_)
    clear hK K hk7;try simp only [Act.put,n_1,n_2,n_3,n_4,n_5,n_6]
    refine tk_P 9 (.int .i64 nv) hHeld ?_;try simp only [Act.put,n_1,n_2,n_3,n_4,n_5,n_6]
    refine tk_P 10 (.int .i64 tn) hHeld ?_;try simp only [Act.put,n_1,n_2,n_3,n_4,n_5,n_6]
    refine tk_S 11 (fun K hK=> ?_)
    go_simp;refine (HADT.out _ HK8.out).mono ?_;rintro e w8 ⟨rfl,ha8,hk8⟩
    have hS8:w8.heap[b]? =some (.cells cb 286 (0,0))∧w8.heap[w2.heap.size]? =some (.cells cq 154 (0,0))∧w8.heap[P8]? =some (.cells cp 154 (0,0)):=⟨(hk8.block b (lt_of_heap hHeld.1) (by omega)).trans hHeld.1,(hk8.block _ (lt_of_heap hHeld.2.1) (by omega)).trans hHeld.2.1,(hk8.block _ (lt_of_heap hHeld.2.2) (by omega)).trans hHeld.2.2⟩
    have HK9:Hid (Kept (·=w.heap.size+1) w6 w8):=HK8.out.noSeq hk8
    refine hK.out _ _ hS8 (fun hHeld=> ?_)
    clear hK K hk8
    refine wpAnyH_done (by kernel_rfl) ?_ _
    clear hS7 hS8 hHeld HK8 HADT HIN HY1 HY3 HY4 HY5 HS6 HF hmul;try simp only [Act.put,n_1,n_2,n_3,n_4,n_5,n_6]
    have HA9:Hid (BagAt w8 w.heap.size (pickB cs (es++[(q,t)]))):=HA6.out.kept HK9.out (fun e=>by omega)
    have HT9:Hid (BagAt w8 (w.heap.size+1) (totB cs s (es++[(q,t)]))):=by
     show BagAt _ _ _
     rw [HSN.out]
     refine ha8.eqv (fun x=> ?_) (fun x hx=> ?_)
     ·simp only [Mo.cnt_append,cnt];omega
     ·rcases List.mem_append.1 hx with hx | hx
      ·exact HT6.out.1 x hx
      ·simp at hx;subst hx;exact HROW.out
    have HR9:Hid (BRng w8 c (w.heap.size+2) (canon d) (es++[(q,t)]) k2):=HR6.out.kept HK9.out (fun e=>by omega) (fun e=>by omega)
    have HK10:Hid (Kept No w w8):=HK7.out.trans HK9.out (fun _ e=>e) (fun i hi e=>by omega)
    clear ha8 HA6 HT6 HR6 HK7 HK9;go_wp2_with fail;go_roundg k2
    case measure=>exact hlt
    case rel=>exact ⟨es++[(q,t)],HR9,HA9,HT9,HK10⟩
open Go.RowKit
open Go.Maps (Keyed)
section
variable {w:World} {o:Oper} {a:Act} {K':Act→World→Prop} {Q:Exit→Act→World→Prop} {κ:Type} [DecidableEq κ] {K:TypeId} {enc:κ→Value} {ok:κ→Prop} (E:KE K enc ok)
include E
omit [DecidableEq κ] in
theorem wp_lookup_map (mo x:Operand) (t e:TypeId) (hop:o.op=Op.lookup t mo x false) (ht:Tryz.prog.underlying t=some (.map K e)) (z:Value) (hz:(zeroValue e).run Tryz.prog w=.ok z w)
 (b:Nat) (m:κ→Option Value) (hm:a.eval mo=.map (some b)) (hown:MapIs K enc ok w b m) (k:κ) (hk:ok k) (hx:a.eval x=enc k) (v:Value) (hv:(m k).getD z=v)
 (hK:K' (a.put o.dst v) w):o.wp Tryz.prog a w K' Q:=by
 obtain ⟨D,ho,hd⟩:=hown;obtain ⟨kl,hkl⟩:=E.key hk;obtain ⟨u,ps,hrun,hu⟩:=ho.lookup (Keyed.of_law E.law) ht hz (zd:=.held z) (zp:=[]) rfl hkl
 have:u=v:=by rw [hd.at hk hkl] at hu;rw [←hv];simpa [tok] using (congrArg (fun y=>y.map Prod.fst) hu)
 subst this;unfold Oper.wp
 simp [execOp,hop,hm,hx,hrun,Result.andThen]
 exact hK
omit [DecidableEq κ] in
theorem wp_lookup_none (mo x:Operand) (t e:TypeId) (hop:o.op=Op.lookup t mo x false) (ht:Tryz.prog.underlying t=some (.map K e)) (z:Value) (hz:(zeroValue e).run Tryz.prog w=.ok z w)
 (hm:a.eval mo=.map none) (k:κ) (hk:ok k) (hx:a.eval x=enc k) (hK:K' (a.put o.dst z) w):o.wp Tryz.prog a w K' Q:=by
 obtain ⟨kl,hkl⟩:=E.key hk;have hrun:=Maps.look_nil (w:=w) false (Keyed.of_law E.law) ht hz hkl;unfold Oper.wp
 simp [execOp,hop,hm,hx,hrun,Result.andThen]
 exact hK
theorem wp_update_map (mo x v:Operand) (t e:TypeId) (hop:o.op=Op.mapUpdate t mo x v) (ht:Tryz.prog.underlying t=some (.map K e))
 (b:Nat) (m:κ→Option Value) (n:Nat) (hm:a.eval mo=.map (some b)) (hown:MapIs K enc ok w b m) (hn:Cov m n) (hn2:n<maxLen) (k:κ) (hk:ok k) (val:Value) (hx:a.eval x=enc k) (hv:a.eval v=val)
 (hK:∀ w',MapIs K enc ok w' b (upd m k (some val))→w.mapTurned w' b→K' (a.put o.dst undef) w'):o.wp Tryz.prog a w K' Q:=by
 obtain ⟨D,ks,ho,hd,hnd,hlen,hmem⟩:=hown.keys E;obtain ⟨ks',hl',hc'⟩:=hn
 have:=length_le_of_sub hnd (fun x hx=>hc' x ((hmem x).1 hx))
 obtain ⟨kl,hkl⟩:=E.key hk
 obtain ⟨w',hrun,r1,r2⟩:=ho.store (Keyed.of_law E.law) ht (by omega) hkl (show tok val=some (.held val,[]) from rfl)
 unfold Oper.wp
 simp [execOp,hop,hm,hx,hv,hrun,Result.andThen]
 exact hK w' ⟨_,owns_size r1,hd.put E ho.isMap hk hkl _⟩ r2
theorem wp_delete_map (mo x:Operand) (t e:TypeId) (hop:o.op=Op.call { callee:=Callee.builtin Builtin.delete,args:=#[mo,x],argTypes:=#[t,K] }) (ht:Tryz.prog.underlying t=some (.map K e))
 (b:Nat) (m:κ→Option Value) (hm:a.eval mo=.map (some b)) (hown:MapIs K enc ok w b m) (k:κ) (hk:ok k) (hx:a.eval x=enc k)
 (hK:∀ w',MapIs K enc ok w' b (upd m k none)→w.mapTurned w' b→K' (a.put o.dst (.tuple #[])) w'):o.wp Tryz.prog a w K' Q:=by
 obtain ⟨D,ho,hd⟩:=hown;obtain ⟨kl,hkl⟩:=E.key hk;obtain ⟨w',hrun,r1,r2⟩:=ho.drop (Keyed.of_law E.law) ht hkl o.type;unfold Oper.wp
 simp [execOp,hop,resolve,invoke,builtin,hm,hx,hrun,Result.andThen]
 exact hK w' ⟨_,owns_size r1,hd.del E hk hkl⟩ r2
omit [DecidableEq κ] in
theorem wp_len_map (mo:Operand) (t e:TypeId) (hop:o.op=Op.call { callee:=Callee.builtin Builtin.len,args:=#[mo],argTypes:=#[t] }) (ht:Tryz.prog.underlying t=some (.map K e))
 (b:Nat) (m:κ→Option Value) (hm:a.eval mo=.map (some b)) (hown:MapIs K enc ok w b m)
 (hK:∀ ks:List κ,ks.Nodup→(∀ k,k∈ks↔(m k).isSome=true)→K' (a.put o.dst (.int .i64 (ks.length:Nat))) w):o.wp Tryz.prog a w K' Q:=by
 obtain ⟨D,ks,ho,hd,hnd,hlen,hmem⟩:=hown.keys E;have h:=hK ks hnd hmem;rw [hlen] at h;unfold Oper.wp
 simp [execOp,hop,resolve,invoke,builtin,hm,ho.len ht o.type,Result.andThen]
 exact h
omit [DecidableEq κ] in
theorem wp_range_map (mo:Operand) (t e:TypeId) (hop:o.op=Op.range t mo) (ht:Tryz.prog.underlying t=some (.map K e)) (b:Nat) (m:κ→Option Value) (hm:a.eval mo=.map (some b)) (hown:MapIs K enc ok w b m)
 (hK:∀ w' cnt,Rng K enc ok w' b w.heap.size m [] cnt→w.grownBy w' none→w'.heap.size=w.heap.size+1→K' (a.put o.dst (.pointer (some ⟨w.heap.size,0,none⟩))) w'):o.wp Tryz.prog a w K' Q:=by
 obtain ⟨D,ho,hd⟩:=hown;obtain ⟨w',hrun,r1,r2,r3⟩:=ho.range (Keyed.of_law E.law) ht;unfold Oper.wp
 simp [execOp,hop,hm,hrun,Result.andThen]
 exact hK w' _ ⟨D,_,r1,hd,⟨List.nodup_nil,fun {v l} _ _=>by cases Maps.has D l <;> simp⟩,by simp⟩ r2 r3
end
open Mo (V Row Bag cnt canon Eqv OkB OkD colR)
theorem src_row {w:World} {g:Nat} {r:Row} (h:w.heap[g]? =some (.cells (rowA r) 154 (0,0))) (h6:r.length≤6):SrcAt w (.slice (some ⟨g,1,none⟩) r.length 6) r:=by
 refine ⟨g,1,6,rfl,lt_of_heap h,fun i x hx j y hy=> ?_⟩
 have hi:=(List.getElem?_eq_some_iff.1 hx).1;have hj:=(List.getElem?_eq_some_iff.1 hy).1;rw [encV_len] at hj
 rw [cell_of h,rowA_get r (by omega) hj]
 have:colR r i=x:=by
  have:=colR_get hi
  rw [hx] at this;exact (by simpa using this.symm)
 rw [this];exact hy
theorem together_any (b o:Nat) (il:Bool) (q r:Row) (w:World) (hb:b<w.heap.size) (hc:w.cell? ⟨b,o+4,none⟩=some (.bool il)) (hq:1≤q.length) (hr:1≤r.length) (h6:q.length+r.length≤6) :
 Calls Tryz.prog 257 #[.pointer (some ⟨b,o,none⟩),.agg (rowA q),.agg (rowA r)] w fun e w'=>e=.returned (.agg (rowA (if il then q++r else r++q)))∧Kept No w w':=by
 obtain ⟨W,hW⟩:∃ W,((w.alloc (.cells (rowA q) 154)).alloc (.cells (rowA r) 154)).alloc (.cells #[.int .i64 0,.int .i32 0,.int .u8 0,.int .u8 0,.int .u8 0,.int .u8 0,.int .i64 0,.int .i32 0,.int .u8 0,.int .u8 0,.int .u8 0,.int .u8 0,.int .i64 0,.int .i32 0,.int .u8 0,.int .u8 0,.int .u8 0,.int .u8 0,.int .i64 0,.int .i32 0,.int .u8 0,.int .u8 0,.int .u8 0,.int .u8 0,.int .i64 0,.int .i32 0,.int .u8 0,.int .u8 0,.int .u8 0,.int .u8 0,.int .i64 0,.int .i32 0,.int .u8 0,.int .u8 0,.int .u8 0,.int .u8 0,.int .i64 0] 154)=W:=⟨_,rfl⟩
 have h0:W.heap[w.heap.size]? =some (.cells (rowA q) 154 (0,0)):=by rw [←hW];exact (Below.heap_alloc _ _ _ (by simp;omega)).trans (heap_alloc2_old _ _ _)
 have h1:W.heap[w.heap.size+1]? =some (.cells (rowA r) 154 (0,0)):=by rw [←hW];exact (Below.heap_alloc _ _ _ (by simp)).trans (heap_alloc2_new _ _ _)
 have h2:∃ c0:Array Value,W.heap[w.heap.size+2]? =some (.cells c0 154 (0,0))∧c0.size=37:=by
  have:=heap_alloc_last ((w.alloc (.cells (rowA q) 154)).alloc (.cells (rowA r) 154)) (.cells #[.int .i64 0,.int .i32 0,.int .u8 0,.int .u8 0,.int .u8 0,.int .u8 0,.int .i64 0,.int .i32 0,.int .u8 0,.int .u8 0,.int .u8 0,.int .u8 0,.int .i64 0,.int .i32 0,.int .u8 0,.int .u8 0,.int .u8 0,.int .u8 0,.int .i64 0,.int .i32 0,.int .u8 0,.int .u8 0,.int .u8 0,.int .u8 0,.int .i64 0,.int .i32 0,.int .u8 0,.int .u8 0,.int .u8 0,.int .u8 0,.int .i64 0,.int .i32 0,.int .u8 0,.int .u8 0,.int .u8 0,.int .u8 0,.int .i64 0] 154)
  have e:((w.alloc (.cells (rowA q) 154)).alloc (.cells (rowA r) 154)).heap.size=w.heap.size+2:=by simp
  rw [e,hW] at this;exact ⟨_,this,rfl⟩
 obtain ⟨c0,h2,hc0⟩:=h2
 have hKW:Kept No w W:=by rw [←hW];exact (((Kept.refl No w).alloc _).alloc _).alloc _
 have hcW:W.cell? ⟨b,o+4,none⟩=some (.bool il):=(hKW.cell hb (fun e=>e)).trans hc
 have H0:=hid h0;have H1:=hid h1;have H2:=hid h2;have HKW:=hid hKW
 have dq:W.cell? ⟨w.heap.size,0,none⟩=some (.int .i64 (q.length:Int)):=by rw [cell_of h0];exact rowA_width q
 have dr:W.cell? ⟨w.heap.size+1,0,none⟩=some (.int .i64 (r.length:Int)):=by rw [cell_of h1];exact rowA_width r
 have DQ:Hid (∀ w':World,w'.heap[w.heap.size]? =some (.cells (rowA q) 154 (0,0))→w'.cell? ⟨w.heap.size,0,none⟩=some (.int .i64 (q.length:Int))):=fun w' h=>by rw [cell_of h];exact rowA_width q
 have DR:Hid (∀ w':World,w'.heap[w.heap.size+1]? =some (.cells (rowA r) 154 (0,0))→w'.cell? ⟨w.heap.size+1,0,none⟩=some (.int .i64 (r.length:Int))):=fun w' h=>by rw [cell_of h];exact rowA_width r
 have HQ:=hid hq;have HR:=hid hr;have H6:=hid h6
 have HL:Hid (∀ (g:Nat) (x:Row) (w:World),w.heap[g]? =some (.cells (rowA x) 154 (0,0))→(loadVar 154 ⟨g,0,none⟩).run Tryz.prog w=.ok (.agg (rowA x)) w):=fun g x w h=>run_loadVar_row w g 154 154 (rowA x) (0,0) _ h Tryz.underlying154 rfl (by rw [rowA_size];exact infoRow)
 clear h0 h1 h2 hKW hc dq dr
 have a1:(0:Int)≤(q.length:Int):=by omega
 have a2:(q.length:Int)≤6:=by omega
 have a3:(0:Int)≤(r.length:Int):=by omega
 have a4:(r.length:Int)≤6:=by omega
 cases il with
 | true =>
   change Calls Tryz.prog 257 #[.pointer (some ⟨b,o,none⟩),.agg (rowA q),.agg (rowA r)] w fun e w'=>e=.returned (.agg (rowA (q++r)))∧Kept No w w'
   go_enter Tryz.func257,Tryz.ntmps257
   go_wp2_with (first
    | (rw [hW])
    | fail)
   refine wp_region_held_drew (S:=fun w'=>w'.heap[w.heap.size]? =some (.cells (rowA q) 154 (0,0))∧w'.heap[w.heap.size+1]? =some (.cells (rowA r) 154 (0,0))∧∃ c1:Array Value,w'.heap[w.heap.size+2]? =some (.cells c1 154 (0,0))∧c1.size=37) (by kernel_rfl) ⟨H0.out,H1.out,c0,H2.out,hc0⟩ (fun hHeld=> ?_)
   refine tk_L 0 (.agg (rowA q)) 154 (.tmp 4) (w.heap.size) (0) (fun w h=>HL.out _ _ w h.1) hHeld ?_
   try simp only [Act.put,n_1,n_2,n_3,n_4,n_5,n_6]
   refine tk_P 1 (.pointer (some ⟨w.heap.size+1,1,none⟩)) hHeld ?_;try simp only [Act.put,n_1,n_2,n_3,n_4,n_5,n_6]
   refine tk_P 2 (.pointer (some ⟨w.heap.size+1,0,none⟩)) hHeld ?_;try simp only [Act.put,n_1,n_2,n_3,n_4,n_5,n_6]
   refine tk_C 3 (.int .i64 (r.length:Int)) 3 (.tmp 13) (w.heap.size+1) (0) (fun w h=>DR.out w h.2.1) hHeld ?_
   try simp only [Act.put,n_1,n_2,n_3,n_4,n_5,n_6]
   refine tk_P 4 (.slice (some ⟨w.heap.size+1,1,none⟩) r.length 6) hHeld ?_;try simp only [Act.put,n_1,n_2,n_3,n_4,n_5,n_6]
   refine tk_S 5 (fun K hK=> ?_)
   go_simp
   refine (and_any q r _ _ (src_row hHeld.2.1 (by omega)) HR.out (by have:=H6.out;omega)).mono ?_
   rintro e w3 ⟨rfl,hk3⟩
   have hS3:w3.heap[w.heap.size]? =some (.cells (rowA q) 154 (0,0))∧w3.heap[w.heap.size+1]? =some (.cells (rowA r) 154 (0,0))∧∃ c1:Array Value,w3.heap[w.heap.size+2]? =some (.cells c1 154 (0,0))∧c1.size=37:=⟨(hk3.block _ (lt_of_heap hHeld.1) (fun e=>e)).trans hHeld.1,(hk3.block _ (lt_of_heap hHeld.2.1) (fun e=>e)).trans hHeld.2.1,by obtain ⟨c1,h1,h2⟩:=hHeld.2.2;exact ⟨c1,(hk3.block _ (lt_of_heap h1) (fun e=>e)).trans h1,h2⟩⟩
   have HK3:Hid (Kept No w w3):=HKW.out.seq (((Kept.refl No W).drew).seq hk3)
   refine hK.out _ _ hS3 (fun hHeld=> ?_)
   clear hK K hk3;try simp only [Act.put,n_1,n_2,n_3,n_4,n_5,n_6]
   refine tk_S 6 (fun K hK=> ?_)
   rw [if_pos (by kernel_rfl)]
   obtain ⟨c1,hc1,hc1s⟩:=hHeld.2.2
   refine wp_store_row 154 (.tmp 6) (.tmp 16) (by kernel_rfl) (w.heap.size+2) (rowA (q++r)) (by kernel_rfl) (by kernel_rfl) 154 c1 hc1 (by rw [rowA_size];exact infoRow) (by rw [hc1s];rfl) (rowA_one _) ?_
   have hks:=kept_setRow (Kept.refl (fun k=>k=w.heap.size+2) w3) (g:=w.heap.size+2) (.inr rfl) (rowA (q++r))
   have h4:=setRow_heap' (c:=rowA (q++r)) hc1;have H4:=hid h4
   have HK4:Hid (Kept No w (w3.setRow (w.heap.size+2) (rowA (q++r)))):=kept_setRow HK3.out (.inl (by omega)) _
   have hS4:(w3.setRow (w.heap.size+2) (rowA (q++r))).heap[w.heap.size]? =some (.cells (rowA q) 154 (0,0))∧(w3.setRow (w.heap.size+2) (rowA (q++r))).heap[w.heap.size+1]? =some (.cells (rowA r) 154 (0,0))∧∃ c1:Array Value,(w3.setRow (w.heap.size+2) (rowA (q++r))).heap[w.heap.size+2]? =some (.cells c1 154 (0,0))∧c1.size=37:=⟨(hks.block _ (lt_of_heap hHeld.1) (by omega)).trans hHeld.1,(hks.block _ (lt_of_heap hHeld.2.1) (by omega)).trans hHeld.2.1,_,h4,rfl⟩
   refine hK.out _ _ hS4 (fun hHeld=> ?_)
   clear hK K hS4 hS3 hks h4 hHeld hc1
   refine wpAnyH_done (by kernel_rfl) ?_ _
   generalize w3.setRow (w.heap.size+2) (rowA (q++r))=w4 at H4 HK4 ⊢;try simp only [Act.put,n_1,n_2,n_3,n_4,n_5,n_6]
   go_wp2_with fail
   (try simp only [Exit.inBlock,Exit.then])
   refine bodyPost_ret (results_cell_row rfl _ _ (w.heap.size+2) 154 (rowA (q++r)) (0,0) _ rfl H4.out Tryz.underlying154 rfl (by rw [rowA_size];exact infoRow)) rfl ?_
   exact ⟨rfl,HK4.out⟩
 | false =>
   change Calls Tryz.prog 257 #[.pointer (some ⟨b,o,none⟩),.agg (rowA q),.agg (rowA r)] w fun e w'=>e=.returned (.agg (rowA (r++q)))∧Kept No w w'
   go_enter Tryz.func257,Tryz.ntmps257
   go_wp2_with (first
    | (rw [hW])
    | fail)
   refine wp_region_held_drew (S:=fun w'=>w'.heap[w.heap.size]? =some (.cells (rowA q) 154 (0,0))∧w'.heap[w.heap.size+1]? =some (.cells (rowA r) 154 (0,0))∧∃ c1:Array Value,w'.heap[w.heap.size+2]? =some (.cells c1 154 (0,0))∧c1.size=37) (by kernel_rfl) ⟨H0.out,H1.out,c0,H2.out,hc0⟩ (fun hHeld=> ?_)
   refine tk_L 0 (.agg (rowA r)) 154 (.tmp 5) (w.heap.size+1) (0) (fun w h=>HL.out _ _ w h.2.1) hHeld ?_
   try simp only [Act.put,n_1,n_2,n_3,n_4,n_5,n_6]
   refine tk_P 1 (.pointer (some ⟨w.heap.size,1,none⟩)) hHeld ?_;try simp only [Act.put,n_1,n_2,n_3,n_4,n_5,n_6]
   refine tk_P 2 (.pointer (some ⟨w.heap.size,0,none⟩)) hHeld ?_;try simp only [Act.put,n_1,n_2,n_3,n_4,n_5,n_6]
   refine tk_C 3 (.int .i64 (q.length:Int)) 3 (.tmp 19) (w.heap.size) (0) (fun w h=>DQ.out w h.1) hHeld ?_
   try simp only [Act.put,n_1,n_2,n_3,n_4,n_5,n_6]
   refine tk_P 4 (.slice (some ⟨w.heap.size,1,none⟩) q.length 6) hHeld ?_;try simp only [Act.put,n_1,n_2,n_3,n_4,n_5,n_6]
   refine tk_S 5 (fun K hK=> ?_)
   go_simp
   refine (and_any r q _ _ (src_row hHeld.1 (by omega)) HQ.out (by have:=H6.out;omega)).mono ?_
   rintro e w3 ⟨rfl,hk3⟩
   have hS3:w3.heap[w.heap.size]? =some (.cells (rowA q) 154 (0,0))∧w3.heap[w.heap.size+1]? =some (.cells (rowA r) 154 (0,0))∧∃ c1:Array Value,w3.heap[w.heap.size+2]? =some (.cells c1 154 (0,0))∧c1.size=37:=⟨(hk3.block _ (lt_of_heap hHeld.1) (fun e=>e)).trans hHeld.1,(hk3.block _ (lt_of_heap hHeld.2.1) (fun e=>e)).trans hHeld.2.1,by obtain ⟨c1,h1,h2⟩:=hHeld.2.2;exact ⟨c1,(hk3.block _ (lt_of_heap h1) (fun e=>e)).trans h1,h2⟩⟩
   have HK3:Hid (Kept No w w3):=HKW.out.seq (((Kept.refl No W).drew).seq hk3)
   refine hK.out _ _ hS3 (fun hHeld=> ?_)
   clear hK K hk3;try simp only [Act.put,n_1,n_2,n_3,n_4,n_5,n_6]
   refine tk_S 6 (fun K hK=> ?_)
   rw [if_pos (by kernel_rfl)]
   obtain ⟨c1,hc1,hc1s⟩:=hHeld.2.2
   refine wp_store_row 154 (.tmp 6) (.tmp 22) (by kernel_rfl) (w.heap.size+2) (rowA (r++q)) (by kernel_rfl) (by kernel_rfl) 154 c1 hc1 (by rw [rowA_size];exact infoRow) (by rw [hc1s];rfl) (rowA_one _) ?_
   have hks:=kept_setRow (Kept.refl (fun k=>k=w.heap.size+2) w3) (g:=w.heap.size+2) (.inr rfl) (rowA (r++q))
   have h4:=setRow_heap' (c:=rowA (r++q)) hc1;have H4:=hid h4
   have HK4:Hid (Kept No w (w3.setRow (w.heap.size+2) (rowA (r++q)))):=kept_setRow HK3.out (.inl (by omega)) _
   have hS4:(w3.setRow (w.heap.size+2) (rowA (r++q))).heap[w.heap.size]? =some (.cells (rowA q) 154 (0,0))∧(w3.setRow (w.heap.size+2) (rowA (r++q))).heap[w.heap.size+1]? =some (.cells (rowA r) 154 (0,0))∧∃ c1:Array Value,(w3.setRow (w.heap.size+2) (rowA (r++q))).heap[w.heap.size+2]? =some (.cells c1 154 (0,0))∧c1.size=37:=⟨(hks.block _ (lt_of_heap hHeld.1) (by omega)).trans hHeld.1,(hks.block _ (lt_of_heap hHeld.2.1) (by omega)).trans hHeld.2.1,_,h4,rfl⟩
   refine hK.out _ _ hS4 (fun hHeld=> ?_)
   clear hK K hS4 hS3 hks h4 hHeld hc1
   refine wpAnyH_done (by kernel_rfl) ?_ _
   generalize w3.setRow (w.heap.size+2) (rowA (r++q))=w4 at H4 HK4 ⊢;try simp only [Act.put,n_1,n_2,n_3,n_4,n_5,n_6]
   go_wp2_with fail
   (try simp only [Exit.inBlock,Exit.then])
   refine bodyPost_ret (results_cell_row rfl _ _ (w.heap.size+2) 154 (rowA (r++q)) (0,0) _ rfl H4.out Tryz.underlying154 rfl (by rw [rowA_size];exact infoRow)) rfl ?_
   exact ⟨rfl,HK4.out⟩
end Go.Proofs.YtdinjjmcmfjbfaaGreatDoor
