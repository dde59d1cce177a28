import Derived.Test.YtdinjjmcmfjbfaaGreatDoorKpJ
import Derived.Test.YtdinjjmcmfjbfaaGreatDoorOcJ
set_option maxRecDepth 100000
set_option maxHeartbeats 4000000
namespace Go.Proofs.YtdinjjmcmfjbfaaGreatDoor
set_option linter.unusedSimpArgs false
open Go.RowKit Go.Shelf
open Mo (V Row Bag cnt canon Eqv OkB OkD onceE onceB distB)
def DistAt (w:World) (O:Ow) (b:Nat) (T:Value) (B:Bag):Prop:=O b=b+2∧∃ g cap hv,w.heap[b]? =some (.cells #[tkS g cap,hv] 283 (0,0))∧TkAt w O b g T∧MemAt w O b hv B
theorem DistAt.stab {w w':World} {O O':Ow} {b:Nat} {T:Value} {B:Bag} (h:DistAt w O b T B) (hk:∀ k,k<w.heap.size→O k=b+2→w'.heap[k]? =w.heap[k]?∧O' k=O k):DistAt w' O' b T B:=by
 obtain ⟨h0,g,cap,hv,h1,h2,h3⟩:=h;have hb:=hk b (lt_of_heap h1) h0;exact ⟨hb.2.trans h0,g,cap,hv,hb.1.trans h1,h2.stab (hk g h2.lt h2.1),h3.stab hk⟩
theorem DistAt.eqv {w:World} {O:Ow} {b:Nat} {T:Value} {B B':Bag} (h:DistAt w O b T B) (e:Eqv B B'):DistAt w O b T B':=by
 obtain ⟨h0,g,cap,hv,h1,h2,h3⟩:=h;exact ⟨h0,g,cap,hv,h1,h2,h3.eqv e⟩
theorem onceB_snoc (B es:Bag) (q:Row) (t:Int):onceB B (es++[(q,t)])=onceB B es++onceE B (q,t):=by unfold onceB;rw [List.flatMap_append];simp
theorem onceE_len (B:Bag) (e:Row × Int):(onceE B e).length≤1:=by unfold onceE;split;simp;split <;> simp
theorem onceB_len (B:Bag):∀ es:Bag,(onceB B es).length≤es.length
 | []=>Nat.le_refl _
 | e::es=>by
   have h1:=onceE_len B e;have h2:=onceB_len B es
   have:onceB B (e::es)=onceE B e++onceB B es:=rfl
   rw [this,List.length_append,List.length_cons];omega
theorem dist_loop (b c g cap:Nat) (hv:Value) (us:List Bool) (B d:Bag) (w:World) (Q:Ending→World→Prop) (hb:w.heap[b]? =some (.cells #[tkS g cap,hv] 283 (0,0))) (hhv:BagV w hv (canon B)) (hB:OkB us B) (hd:OkD us d) (hc:BagAt w c (canon d))
 (hQ:∀ w3 es,AllOf (canon d) es→BagAt w3 w.heap.size (onceB B es)→Kept No w w3→Calls Tryz.prog 66 #[.pointer (some ⟨b,1,none⟩),.map (some c)] w3 fun e w4=>e=.returned (.tuple #[])∧Calls Tryz.prog 250 #[.pointer (some ⟨b,0,none⟩),.map (some w.heap.size)] w4 fun e w'=>e=.returned (.tuple #[])∧Q e w') :
 Calls Tryz.prog 261 #[.pointer (some ⟨b,0,none⟩),.map (some c)] w Q:=by
 have HC:Hid (BagAt (w.alloc (.map #[] 0)) c (canon d)):=hc.of_block (Below.heap_alloc _ _ _ hc.lt);have HN0:Hid (BagAt (w.alloc (.map #[] 0)) w.heap.size []):=BagAt.made w;obtain ⟨mv,rfl⟩:=hhv.is;have HB:=hid hb;have HQ:=hid hQ;have HHV:=hid hhv;have HOB:=hid hB;have HD:=hid hd;have hcl:=hc.lt;have hbl:=lt_of_heap hb;clear hc hb hQ hhv hd hB;have hmm:=@run_makeMap Tryz.prog
 go_enter Tryz.func261,Tryz.ntmps261
 go_wp2_with (first
  | (at_range;refine wpList_range_bag _ rfl _ rfl c (canon d) rfl HC.out ?_;intro w1 k1 hr1 hk1 hs1)
  | fail)
 have hsz:(w.alloc (.map #[] 0)).heap.size=w.heap.size+1:=by simp
 rw [hsz] at hr1 hs1 ⊢;have HR1:=hid hr1
 have HA1:Hid (BagAt w1 w.heap.size (onceB B [])):=HN0.out.kept hk1 (fun e=>e)
 have hk1':Kept No w w1:=((Kept.refl No w).alloc _).seq hk1;have HK1:=hid hk1';clear hr1 hs1 hk1 hk1' HC HN0 hmm
 go_frame
 go_loopg [] k1 (fun k wr=>∃ es:Bag,Hid (BRng wr c (w.heap.size+1) (canon d) es k)∧Hid (BagAt wr w.heap.size (onceB B es))∧Hid (Kept No w wr))
 case atStart=>exact ⟨[],HR1,HA1,HK1⟩
 case round =>
  obtain ⟨es,hr,ha,hK⟩:=hrel;clear HR1 HA1 HK1
  go_wp2_with (first
   | (at_next;refine wpList_next_bag _ rfl _ rfl c (w.heap.size+1) (canon d) es gk rfl hr.out ?_ ?_)
   | fail)
  ·intro hall
   have HG:=hid (HQ.out wr es hall ha.out hK.out);clear hall;go_wp2_with fail;refine HG.out.mono ?_;rintro e w4 ⟨rfl,hq⟩;have HG4:=hid hq;clear hq HG;go_wp2_with fail;refine HG4.out.mono ?_;rintro e w5 ⟨rfl,hq⟩;have HQ5:=hid hq;clear hq;go_wp2_with fail;go_end0;exact HQ5.out
  ·intro t q w2 k2 hq ht htn hr2 hlt hk2 hsz2 hen
   have HQK:=hid hq;have HR2:=hid hr2
   have HTC:Hid (t=cnt d q):=by show _=_;rw [ht,HD.out.w64]
   have hk2':Kept No w w2:=hK.out.trans hk2 (fun _ e=>e) (fun i hi e=>by omega)
   have HK2:=hid hk2'
   have ha2:BagAt w2 w.heap.size (onceB B es):=ha.out.kept hk2 (fun e=>by omega)
   have HA2:=hid ha2
   have HLen:Hid ((canon (onceB B es)).length<maxLen):=by
    have e1:=HR2.out.ents.len;have e2:=HD.out.len;have e3:=Mo.canon_append_len (onceB B es) [];have e4:(onceB B es).length≤es.length:=onceB_len B es
    simp [Mo.canon] at e1 e3
    rw [Mo.canon_of_rise (Mo.canon_rise d)] at e1
    show _<_
    unfold maxLen;omega
   have hw2:w.heap.size≤w2.heap.size:=hk2'.size
   have hb2:w2.heap[b]? =some (.cells #[tkS g cap,.map mv] 283 (0,0)):=(hk2'.block b hbl (fun e=>e)).trans HB.out
   have HB2:=hid hb2;have HV2:Hid (BagV w2 (.map mv) (canon B)):=HHV.out.keptNo hk2';clear hq hr2 hk2 ht htn ha2 hsz2 hk2' hb2
   go_wp2_with (first
    | (refine store_row_new _ _ _ rfl rfl w2 _ rfl rfl rfl q rfl ?_)
    | fail)
   have hSb:(w2.alloc (.cells (rowA q) 154)).heap[b]? =some (.cells #[tkS g cap,.map mv] 283 (0,0)):=(Below.heap_alloc _ _ _ (lt_of_heap HB2.out)).trans HB2.out;have hSq:(w2.alloc (.cells (rowA q) 154)).heap[w2.heap.size]? =some (.cells (rowA q) 154 (0,0)):=heap_alloc_last _ _;have HSS:=hid (And.intro hSb hSq);have hKW:Kept No w2 (w2.alloc (.cells (rowA q) 154)):=(Kept.refl No w2).alloc _;have HKW:=hid hKW;have HVW:Hid (BagV (w2.alloc (.cells (rowA q) 154)).drew (.map mv) (canon B)):=HV2.out.keptNo hKW.drew;clear hSb hSq hKW;generalize w2.alloc (.cells (rowA q) 154)=W at HSS HKW HVW ⊢;obtain ⟨cb,hcb⟩:∃ cb,cb=#[tkS g cap,.map mv]:=⟨_,rfl⟩;obtain ⟨cq,hcq⟩:∃ cq,cq=rowA q:=⟨_,rfl⟩
   have HY3:Hid (∀ w:World,w.heap[w2.heap.size]? =some (.cells cq 154 (0,0))→(loadVar 154 ⟨w2.heap.size,0,none⟩).run Tryz.prog w=.ok (.agg cq) w):=by
    subst hcq
    exact fun w h=>run_loadVar_row w w2.heap.size 154 154 (rowA q) (0,0) _ h Tryz.underlying154 rfl (by rw [rowA_size];exact infoRow)
   have HY4:Hid (∀ w:World,w.heap[b]? =some (.cells cb 283 (0,0))→w.cell? ⟨b,1,none⟩=some (.map mv)):=by
    subst hcb
    exact fun w h=>(cell_of h 1).trans rfl
   have HCQ:=hid hcq;rw [←hcb,←hcq] at HSS;clear hcb HB2 hcq
   refine wp_region_held_drew (S:=fun w'=>w'.heap[b]? =some (.cells cb 283 (0,0))∧w'.heap[w2.heap.size]? =some (.cells cq 154 (0,0))) (by kernel_rfl) HSS.out (fun hHeld=> ?_)
   refine tk_P 0 (.pointer (some ⟨b,0,none⟩)) hHeld ?_;try simp only [Act.put,n_1,n_2,n_3,n_4,n_5,n_6]
   refine tk_P 1 (.pointer (some ⟨b,0,none⟩)) hHeld ?_;try simp only [Act.put,n_1,n_2,n_3,n_4,n_5,n_6]
   refine tk_P 2 (.pointer (some ⟨b,1,none⟩)) hHeld ?_;try simp only [Act.put,n_1,n_2,n_3,n_4,n_5,n_6]
   refine tk_P 3 (.pointer (some ⟨b,1,none⟩)) hHeld ?_;try simp only [Act.put,n_1,n_2,n_3,n_4,n_5,n_6]
   refine tk_C 4 (.map mv) 83 (.tmp 18) (b) (1) (fun w h=>HY4.out w h.1) hHeld ?_
   try simp only [Act.put,n_1,n_2,n_3,n_4,n_5,n_6]
   refine tk_L 5 (.agg cq) 154 (.tmp 5) (w2.heap.size) (0) (fun w h=>HY3.out w h.2) hHeld ?_
   try simp only [Act.put,n_1,n_2,n_3,n_4,n_5,n_6]
   refine tk_S 6 (fun K hK=> ?_)
   rw [if_pos (by kernel_rfl)]
   refine wp_lookup_bag (.tmp 19) (.tmp 20) (by kernel_rfl) (.map mv) (canon B) (by kernel_rfl) HVW.out q HQK.out (by rw [←HCQ.out];kernel_rfl) ?_
   refine hK.out _ _ hHeld (fun hHeld=> ?_)
   clear hK K
   refine wpAnyH_done (by kernel_rfl) ?_ _
   have HRow:=hid hHeld.2;have HKF:Hid (Kept No w2 W.drew):=HKW.out.drew;clear hHeld HY3 HY4 HSS HVW HKW
   have hwx:wrap64 (cnt (canon B) q)=cnt B q:=by rw [Mo.canon_cnt,wrap64_id];have:=HOB.out.bd q;omega
   rw [hwx];clear hwx;try simp only [Act.put,n_1,n_2,n_3,n_4,n_5,n_6]
   have hbd:=HOB.out.bd q;have htd:=HD.out.bd q;rw [←HTC.out] at htd;generalize W.drew=w5 at HKF HRow ⊢
   have HR5:Hid (BRng w5 c (w.heap.size+1) (canon d) (es++[(q,t)]) k2):=HR2.out.kept HKF.out (fun e=>e) (fun e=>e)
   have HA5:Hid (BagAt w5 w.heap.size (onceB B es)):=HA2.out.kept HKF.out (fun e=>e)
   have HK6:Hid (Kept No w w5):=HK2.out.seq HKF.out
   have HONE:Hid (onceE B (q,t)=if cnt B q=0 then [(q,1)] else if cnt B q= -t then [(q,-1)] else []):=hid rfl
   obtain ⟨x,hx⟩:∃ x,cnt B q=x:=⟨_,rfl⟩;rw [hx] at HONE hbd ⊢;have hcq:=HCQ.out;subst hcq;clear hx HKF HR2 HA2 HK2 HTC
   have hneg:IntKind.i64.wrap (-t)= -t:=IntWalk.i64_in _ (by omega)
   by_cases hx0:x=0
   ·have hx0':(x == 0)=true:=by simp [hx0]
    have HADD:=hid (add_any w.heap.size (onceB B es) q 1 w5 HA5.out HQK.out HLen.out)
    have HE:Hid (onceE B (q,t)=[(q,1)]):=by show _=_;rw [HONE.out,if_pos hx0]
    clear hx0 hbd htd HONE
    go_wp2_with (first
     | (refine load_row _ rfl rfl w2.heap.size rfl q HRow.out ?_)
     | fail)
    refine HADD.out.mono ?_;rintro e w6 ⟨rfl,ha6,hk6⟩
    have HA6:Hid (BagAt w6 w.heap.size (onceB B (es++[(q,t)]))):=by
     show BagAt _ _ _
     rw [onceB_snoc,HE.out]
     refine ha6.eqv (fun x=> ?_) (fun x hx=> ?_)
     ·simp only [Mo.cnt_append,cnt];omega
     ·rcases List.mem_append.1 hx with hx | hx
      ·exact HA5.out.1 x hx
      ·simp at hx;subst hx;exact HQK.out
    have HR6:Hid (BRng w6 c (w.heap.size+1) (canon d) (es++[(q,t)]) k2):=HR5.out.kept hk6 (fun e=>by omega) (fun e=>by omega)
    have HK7:Hid (Kept No w w6):=HK6.out.trans hk6 (fun _ e=>e) (fun i hi e=>by omega)
    clear ha6 hk6 HADD;go_wp2_with fail;go_roundg k2
    case measure=>exact hlt
    case rel=>exact ⟨es++[(q,t)],HR6,HA6,HK7⟩
   ·have hx0':(x == 0)=false:=by simp [hx0]
    by_cases hx1:x= -t
    ·have hx1':(x == -t)=true:=by simp [hx1]
     have HADD:=hid (add_any w.heap.size (onceB B es) q (-1) w5 HA5.out HQK.out HLen.out)
     have HE:Hid (onceE B (q,t)=[(q,-1)]):=by show _=_;rw [HONE.out,if_neg hx0,if_pos hx1]
     clear hx0 hx1 hbd htd HONE
     go_wp2_with (first
      | (refine load_row _ rfl rfl w2.heap.size rfl q HRow.out ?_)
      | fail)
     refine HADD.out.mono ?_;rintro e w6 ⟨rfl,ha6,hk6⟩
     have HA6:Hid (BagAt w6 w.heap.size (onceB B (es++[(q,t)]))):=by
      show BagAt _ _ _
      rw [onceB_snoc,HE.out]
      refine ha6.eqv (fun x=> ?_) (fun x hx=> ?_)
      ·simp only [Mo.cnt_append,cnt];omega
      ·rcases List.mem_append.1 hx with hx | hx
       ·exact HA5.out.1 x hx
       ·simp at hx;subst hx;exact HQK.out
     have HR6:Hid (BRng w6 c (w.heap.size+1) (canon d) (es++[(q,t)]) k2):=HR5.out.kept hk6 (fun e=>by omega) (fun e=>by omega)
     have HK7:Hid (Kept No w w6):=HK6.out.trans hk6 (fun _ e=>e) (fun i hi e=>by omega)
     clear ha6 hk6 HADD;go_wp2_with fail;go_roundg k2
     case measure=>exact hlt
     case rel=>exact ⟨es++[(q,t)],HR6,HA6,HK7⟩
    ·have hx1':(x == -t)=false:=by simp [hx1]
     have HE:Hid (onceE B (q,t)=[]):=by show _=_;rw [HONE.out,if_neg hx0,if_neg hx1]
     have HA6:Hid (BagAt w5 w.heap.size (onceB B (es++[(q,t)]))):=by show BagAt _ _ _;rw [onceB_snoc,HE.out,List.append_nil];exact HA5.out
     clear hx0 hx1 hbd htd HONE;go_wp2_with fail;go_roundg k2
     case measure=>exact hlt
     case rel=>exact ⟨es++[(q,t)],HR5,HA6,HK6⟩
theorem dist_ty:TyTake 281 261:=⟨fun _ _=>by kernel_rfl,fun _ _=>by kernel_rfl,enters_of Tryz.func261 (by kernel_rfl) rfl⟩
theorem dist_takes {ty:TypeId} {f:Nat} {p:Addr} {A:Nat→Prop} {ts:List Bool} {Gd:Bag→Prop} {R:World→Ow→Bag→Prop} (hT:Takes ty f p A ts Gd R) (b:Nat) (us:List Bool) (hA:¬A (b+2)) :
 Takes 281 261 ⟨b,0,none⟩ (fun a=>A a∨a=b+2) us (fun B=>OkB us B∧Gd (distB B)) (fun w O B=>R w O (distB B)∧DistAt w O b (.iface ty (.pointer (some p))) B) where
 zero:=fun h=>h.elim hT.zero (by omega)
 one:=fun h=>h.elim hT.one (by omega)
 ok:=fun h=>h.1
 gde:=fun h e=>⟨h.1.eqv e,by rw [←Mo.distB_eqv e];exact h.2⟩
 stab:=fun h hs hk=>⟨hT.stab h.1 hs fun k hk' ha=>hk k hk' (ha.imp .inl id),h.2.stab fun k hk' e=>hk k hk' (.inl (.inr e))⟩
 eqv:=fun h e=>⟨by rw [←Mo.distB_eqv e];exact h.1,h.2.eqv e⟩
 met:=dist_ty
 run:=by
  rintro w O B d c ⟨hR,hS⟩ ⟨hB1,hB2⟩ ⟨hD1,hD2⟩ hc hAc;have hd:=hB1.chg hD1;obtain ⟨hO0,g,cap,hv,hb,hg,hm⟩:=hS
  have hne:∀ k,hv=.map (some k)→(.map (some c):Value)≠.map (some k):=fun k e e'=>hAc (.inr (by
   have:c=k:=by simpa using e'
   subst this;exact hm.2 c e))
  refine dist_loop b c g cap hv us B d w _ hb hm.1 hB1 hd hc fun w3 es hall ha hk=> ?_
  have he:Eqv (distB B++onceB B es) (distB (B++d)):=Mo.once_delta (hall.eqv hd) hall.1.1 (fun e he=>(hall.1.2 e he).2.2)
  have hD3:Gd (distB B++onceB B es):=hT.gde hD2 he.symm;have hok:=(hT.ok hB2).chg (hT.ok hD3)
  have hb3:w3.heap[b]? =some (.cells #[tkS g cap,hv] 283 (0,0)):=(hk.block b (lt_of_heap hb) (fun e=>e)).trans hb
  have hc3:BagAt w3 c (canon d):=hc.kept hk (fun e=>e)
  have hm3:MemAt w3 (oN w O) b hv B:=hm.stab fun k hk' _=>⟨hk.block k hk' (fun e=>e),oN_old hk'⟩
  refine (remember_any b 1 #[tkS g cap,hv] 283 hv (.map (some c)) (canon B) (canon d) w3 hb3 rfl hm3.1 (.inr ⟨c,rfl,hc3⟩) hne (by
   have e1:=hB1.len;have e2:=hd.len;rw [Mo.canon_of_rise (Mo.canon_rise _),Mo.canon_of_rise (Mo.canon_rise _)]
   unfold maxLen;omega)).mono fun e w4 hE=> ?_
  obtain ⟨he4,held',g1,g2,g3,g4⟩:=hE.mem hm3 hD1.rok
  have hO4:∀ k,k<w.heap.size→oB w3 (oN w O) (b+2) k=O k:=fun k hk'=>(oB_old (Nat.lt_of_lt_of_le hk' hk.size)).trans (oN_old hk')
  have hk4:Kept (fun k=>O k=b+2) w w4:=hk.trans g4 (fun _ e=>e.elim) (fun i hi e=>by
   rcases e with rfl | e
   ·exact hO0
   ·rw [←oN_old (O:=O) hi];exact hm3.2 i e)
  have hg4:TkAt w4 (oB w3 (oN w O) (b+2)) b g (.iface ty (.pointer (some p))):=by
   have hgl:=hg.lt;refine hg.stab ⟨?_,hO4 g hgl⟩
   refine (g4.block g (Nat.lt_of_lt_of_le hgl hk.size) ?_).trans (hk.block g hgl (fun e=>e))
   rintro (rfl | e)
   ·obtain ⟨_,cs,z,h1,_⟩:=hg
    rw [hb] at h1;injection h1 with h1;injection h1 with _ h1;exact absurd h1 (by decide)
   ·obtain ⟨_,cs,z,h1,_⟩:=hg
    exact hm.notCells e h1 rfl
  have hc4:BagAt w4 w.heap.size (canon (onceB B es)):=by
   refine (ha.kept g4 ?_).eqv (Mo.canon_eqv _).symm hok.rok
   rintro (e | e)
   ·have:=lt_of_heap hb;omega
   ·have:=hm.1.lt e;omega
  have hR4:R w4 (oB w3 (oN w O) (b+2)) (distB B):=hT.kept hR hk4 (fun k e=>⟨by rw [e];exact hA,by omega⟩) hO4
  have hb4:w4.heap[b]? =some (.cells #[tkS g cap,held'] 283 (0,0)):=g1
  refine ⟨he4,(hT.give (b:=b) (c:=w.heap.size) (g:=g) (o:=0) (cap:=cap) ((cell_of hb4 0).trans rfl) hg4.cell hR4 hB2 hD3 hc4 (by rw [oB_old ha.lt,oN_new (Nat.le_refl _)];exact hT.zero)).mono fun e w5 h5=>⟨h5.1,?_⟩⟩
  refine TakeEnd.up3 (b:=b) hO4 hk4 h5 fun O' h1 h2 h3=>⟨hT.eqv h3 he,?_⟩
  have hbb:∀ k,k<w4.heap.size→oB w3 (oN w O) (b+2) k=b+2→w5.heap[k]? =w4.heap[k]?∧O' k=oB w3 (oN w O) (b+2) k:=fun k hk' e=>⟨h2.block k hk' (by rw [e];exact hA),h1 k hk'⟩
  exact DistAt.stab ⟨by rw [hO4 b (lt_of_heap hb)];exact hO0,g,cap,held',hb4,hg4,g2⟩ hbb
open Mo (V Row Bag cnt canon Eqv OkB OkD Opd)
theorem knumber_any (n:Int) (w:World):Calls Tryz.prog 163 #[.int .i64 n] w fun e w'=>e=.returned (aggV (.num n))∧Kept No w w':=by
 change Calls Tryz.prog 163 #[.int .i64 n] w fun e w'=>e=.returned (.agg #[.int .i32 0,.int .u8 0,.int .u8 0,.int .u8 0,.int .u8 0,.int .i64 n])∧Kept No w w'
 go_enter Tryz.func163,Tryz.ntmps163
 go_wp2_with fail
 (try simp only [Exit.inBlock,Exit.then])
 refine bodyPost_ret (results_cell_row rfl _ _ w.heap.size 133 #[.int .i32 0,.int .u8 0,.int .u8 0,.int .u8 0,.int .u8 0,.int .i64 n] (0,0) _ rfl (heap_alloc_last _ _) Tryz.underlying133 rfl (by exact infoVal)) rfl ?_
 exact ⟨rfl,(Kept.refl No w).alloc _⟩
def mergeE (l es:Bag):Bag:=l.filter (fun e=>decide (e.1∉es.map (·.1)))++es
theorem cnt_filter_out (l:Bag) (ks:List Row) (r:Row):cnt (l.filter (fun e=>decide (e.1∉ks))) r=if r∈ks then 0 else cnt l r:=by
 induction l with
 | nil=>simp [cnt]
 | cons e l ih =>
   have hc:cnt (e::l) r=(if e.1=r then e.2 else 0)+cnt l r:=rfl
   rw [List.filter_cons]
   by_cases he:e.1∈ks
   ·rw [if_neg (by simpa using he),ih,hc]
    by_cases hr:e.1=r
    ·subst hr;rw [if_pos he,if_pos he]
    ·rw [if_neg hr];split <;> omega
   ·have hc2:∀ m,cnt (e::m) r=(if e.1=r then e.2 else 0)+cnt m r:=fun _=>rfl
    rw [if_pos (by simpa using he),hc2,ih,hc]
    by_cases hr:e.1=r
    ·subst hr;rw [if_neg he,if_neg he]
    ·rw [if_neg hr];split <;> omega
theorem cnt_mergeE (l es:Bag) (r:Row):cnt (mergeE l es) r=if r∈es.map (·.1) then cnt es r else cnt l r:=by
 unfold mergeE;rw [Mo.cnt_append,cnt_filter_out]
 by_cases h:r∈es.map (·.1)
 ·rw [if_pos h,if_pos h];omega
 ·rw [if_neg h,if_neg h,Mo.cnt_none fun x hx e=>h (List.mem_map.2 ⟨x,hx,e⟩)];omega
theorem mergeE_nil (l:Bag):mergeE l []=l:=by unfold mergeE;simp
theorem mergeE_snoc {l es:Bag} {q:Row} {t:Int} (hn:q∉es.map (·.1)) (r:Row):cnt (mergeE l (es++[(q,t)])) r=if r=q then t else cnt (mergeE l es) r:=by
 rw [cnt_mergeE,cnt_mergeE]
 by_cases hr:r=q
 ·subst hr
  rw [if_pos (by simp),if_pos rfl,Mo.cnt_append,Mo.cnt_none fun x hx e=>hn (List.mem_map.2 ⟨x,hx,e⟩)]
  simp [cnt]
 ·have:cnt (es++[(q,t)]) r=cnt es r:=by
   rw [Mo.cnt_append]
   have:cnt [(q,t)] r=0:=Mo.cnt_none fun x hx e=>hr (by simp at hx;rw [hx] at e;exact e.symm)
   omega
  rw [this,if_neg hr]
  by_cases h:r∈es.map (·.1)
  ·rw [if_pos h,if_pos (by simp at h ⊢;exact .inl h)]
  ·rw [if_neg h,if_neg (by simp at h ⊢;exact ⟨h,hr⟩)]
theorem mergeE_ok {l es:Bag} (h1:∀ e∈l,ROk e.1) (h2:∀ e∈es,ROk e.1):∀ e∈mergeE l es,ROk e.1:=fun e he=>by
 rcases List.mem_append.1 he with he | he
 ·exact h1 e (List.mem_filter.1 he).1
 ·exact h2 e he
theorem mergeE_len (l es:Bag):(canon (mergeE l es)).length≤(canon l).length+es.length:=by
 have e:Eqv (mergeE l es) (es++(canon l).filter (fun e=>decide (e.1∉es.map (·.1)))):=fun r=>by
  rw [cnt_mergeE,Mo.cnt_append,cnt_filter_out]
  by_cases h:r∈es.map (·.1)
  ·rw [if_pos h,if_pos h];omega
  ·rw [if_neg h,if_neg h,Mo.canon_cnt,Mo.cnt_none (l:=es) fun x hx e=>h (List.mem_map.2 ⟨x,hx,e⟩)];omega
 rw [e.canon]
 have h1:=Mo.canon_append_len es ((canon l).filter (fun e=>decide (e.1∉es.map (·.1))))
 have h2:=Mo.canon_append_len ((canon l).filter (fun e=>decide (e.1∉es.map (·.1)))) []
 have h3:((canon l).filter (fun e=>decide (e.1∉es.map (·.1)))).length≤(canon l).length:=List.length_filter_le _ _
 simp only [List.append_nil,Mo.canon,List.length_nil] at h2;omega
theorem copy_any (b1 b2:Nat) (l1 l2:Bag) (w:World) (h1:BagAt w b1 l1) (h2:BagAt w b2 l2) (hne:b1≠b2) (hn:(canon l1).length+(canon l2).length<maxLen) :
 Calls Tryz.prog 263 #[.map (some b1),.map (some b2)] w fun e w'=>e=.returned (.tuple #[])∧∃ es,AllOf l2 es∧BagAt w' b1 (mergeE l1 es)∧Kept (·=b1) w w':=by
 have H1:=hid h1;have H2:=hid h2;have HN:=hid hn;have hb1l:=h1.lt;clear h1 h2 hn
 go_enter Tryz.func263,Tryz.ntmps263
 go_wp2_with (first
  | (at_range;refine wpList_range_bag _ rfl _ rfl b2 l2 rfl H2.out ?_;intro w1 k1 hr1 hk1 hs1)
  | fail)
 have HR1:=hid hr1
 have HA1:Hid (BagAt w1 b1 (mergeE l1 [])):=by show BagAt _ _ _;rw [mergeE_nil];exact H1.out.kept hk1 (fun e=>e)
 have HK1:Hid (Kept (·=b1) w w1):=hk1.any
 clear hr1 hs1 hk1
 go_frame
 go_loopg [] k1 (fun k wr=>∃ es:Bag,Hid (BRng wr b2 w.heap.size l2 es k)∧Hid (BagAt wr b1 (mergeE l1 es))∧Hid (Kept (·=b1) w wr))
 case atStart=>exact ⟨[],HR1,HA1,HK1⟩
 case round =>
  obtain ⟨es,hr,ha,hK⟩:=hrel;clear HR1 HA1 HK1
  go_wp2_with (first
   | (at_next;refine wpList_next_bag _ rfl _ rfl b2 w.heap.size l2 es gk rfl hr.out ?_ ?_)
   | fail)
  ·intro hall
   go_wp2_with fail;go_end0;exact ⟨rfl,es,hall,ha.out,hK.out⟩
  ·intro t q w2 k2 hq ht htn hr2 hlt hk2 hsz hen
   have HQ:=hid hq;have HR2:=hid hr2
   have HT:Hid (wrap64 t=t∧t≠0):=⟨by rw [ht,wrap64_idem],htn⟩
   have HK2:Hid (Kept (·=b1) w w2):=hK.out.trans hk2 (fun _ e=>e) (fun i hi e=>by omega)
   have ha2:BagAt w2 b1 (mergeE l1 es):=ha.out.kept hk2 (fun e=>by omega)
   have HA2:=hid ha2;have HM2:Hid (MapIs 154 aggR ROk (w2.alloc (.cells (rowA q) 154)) b1 (bagM (mergeE l1 es))):=ha2.2.of_block (Below.heap_alloc _ _ _ ha2.lt);have HG:Hid ((w2.alloc (.cells (rowA q) 154)).heap[w2.heap.size]? =some (.cells (rowA q) 154 (0,0))):=heap_alloc_last _ _
   have HL:Hid ((canon (mergeE l1 es)).length<maxLen):=by
    have e1:=HR2.out.ents.len;have e2:=mergeE_len l1 es;have e3:=HN.out
    show _<_
    simp at e1;omega
   clear hq hr2 hk2 ht htn ha2 hsz
   go_wp2_with (first
    | (refine store_row_new _ _ _ rfl rfl w2 _ rfl rfl rfl q rfl ?_)
    | (refine load_row _ rfl rfl w2.heap.size rfl q HG.out ?_)
    | (at_mapUpdate;refine wpList_update_map _ rowKE rfl _ _ _ 83 2 rfl Tryz.underlying83 b1 (bagM (mergeE l1 es)) _ rfl HM2.out (bagM_cov _) HL.out q HQ.out (.int .i64 t) rfl rfl ?_;intro w3 hm3 ht3)
    | fail)
   have hk3:Kept (·=b1) w2 w3:=((Kept.refl (·=b1) w2).alloc _).grown ht3.grown (fun r e=>by cases e;exact .inr rfl)
   have HR3:Hid (BRng w3 b2 w.heap.size l2 (es++[(q,t)]) k2):=HR2.out.kept hk3 (fun e=>hne e.symm) (fun e=>by omega)
   have HB3:Hid (BagAt w3 b1 (mergeE l1 (es++[(q,t)]))):=by
    refine ⟨mergeE_ok H1.out.1 HR2.out.ents.ok,?_⟩
    have hnew:q∉es.map (·.1):=by
     have:=HR2.out.ents.1
     rw [List.map_append,List.nodup_append] at this
     exact fun h=>this.2.2 q h q (by simp) rfl
    have:bagM (mergeE l1 (es++[(q,t)]))=upd (bagM (mergeE l1 es)) q (some (.int .i64 t)):=by
     funext r
     unfold bagM upd;rw [mergeE_snoc hnew]
     by_cases hr:r=q
     ·rw [if_pos hr,if_pos hr,HT.out.1,if_neg HT.out.2]
     ·rw [if_neg hr,if_neg hr]
    rw [this];exact hm3
   have HK3:Hid (Kept (·=b1) w w3):=HK2.out.seq hk3
   clear hm3 ht3 hk3;go_wp2_with fail;go_roundg k2
   case measure=>exact hlt
   case rel=>exact ⟨es++[(q,t)],HR3,HB3,HK3⟩
def grpC (sl hv tv cv:Value) (x:Opd):Array Value:=#[sl,hv,tv,cv,.bool (isC x),.int .i64 (colI x:Int),.int .i32 (kI (vO x)),.int .u8 (tB (vO x) 0),.int .u8 (tB (vO x) 1),.int .u8 (tB (vO x) 2),.int .u8 (tB (vO x) 3),.int .i64 (nI (vO x))]
def gE (H T:Bag) (t:Int) (k:Row):Bag:=if 0<wrap64 (cnt H k) then [(k++[.num (wrap64 (cnt T k))],t)] else []
def gB (H T:Bag) (t:Int) (es:Bag):Bag:=es.flatMap fun e=>gE H T t e.1
theorem gB_snoc (H T:Bag) (t:Int) (es:Bag) (q:Row) (x:Int):gB H T t (es++[(q,x)])=gB H T t es++gE H T t q:=by unfold gB;rw [List.flatMap_append];simp
theorem gB_len (H T:Bag) (t:Int):∀ es:Bag,(gB H T t es).length≤es.length
 | []=>Nat.le_refl _
 | e::es=>by
   have h2:=gB_len H T t es
   have h1:(gE H T t e.1).length≤1:=by unfold gE;split <;> simp
   have:gB H T t (e::es)=gE H T t e.1++gB H T t es:=rfl
   rw [this,List.length_append,List.length_cons];omega
theorem num_ok {k:Row} (h:ROk k) (h5:k.length≤5) (z:Int):ROk (k++[.num (wrap64 z)]):=by
 refine ⟨by rw [List.length_append];simp;omega,fun v hv=> ?_⟩
 rcases List.mem_append.1 hv with hv | hv
 ·exact h.2 v hv
 ·simp at hv;subst hv;unfold VOk wrap64;omega
theorem src_num (w:World) (z:Int):SrcAt (w.alloc (.cells #[.int .i32 0,.int .u8 0,.int .u8 0,.int .u8 0,.int .u8 0,.int .i64 z] 133)) (.slice (some ⟨w.heap.size,0,none⟩) 1 1) [.num z]:=src_new w (.num z)
theorem addGroups_any (b bt bg:Nat) (sl hv tv cv:Value) (x:Opd) (H T l l3:Bag) (t:Int) (w:World) (hb:w.heap[b]? =some (.cells (grpC sl hv tv cv x) 286 (0,0))) (hhv:BagV w hv H) (htv:BagV w tv T) (hl:BagAt w bt l) (hg:BagAt w bg l3)
 (hne:bt≠bg) (hn1:hv≠.map (some bt)) (hn2:tv≠.map (some bt)) (h5:∀ k,wrap64 (cnt l3 k)≠0→k.length≤5) (hm:(canon l).length+(canon l3).length<maxLen) :
 Calls Tryz.prog 264 #[.pointer (some ⟨b,0,none⟩),.map (some bt),.map (some bg),.int .i64 t] w fun e w'=>e=.returned (.tuple #[])∧∃ es,AllOf l3 es∧BagAt w' bt (gB H T t es++l)∧Kept (·=bt) w w':=by
 obtain ⟨hm1,rfl⟩:=hhv.is;obtain ⟨tm1,rfl⟩:=htv.is;have HL:=hid hl;have HG:=hid hg;have HB:=hid hb;have HH:=hid hhv;have HT:=hid htv;have H5:=hid h5;have HM:=hid hm;have hbl:=lt_of_heap hb;have hbtl:=hl.lt
 have hbtb:b≠bt:=by
  rintro rfl;obtain ⟨es,ck,hmm⟩:=hl.obj
  rw [hmm] at hb;cases hb
 clear hl hg hb hhv htv h5 hm
 go_enter Tryz.func264,Tryz.ntmps264
 go_wp2_with (first
  | (at_range;refine wpList_range_bag _ rfl _ rfl bg l3 rfl HG.out ?_;intro w1 k1 hr1 hk1 hs1)
  | fail)
 have HR1:=hid hr1
 have HA1:Hid (BagAt w1 bt (gB H T t []++l)):=HL.out.kept hk1 (fun e=>e)
 have HK1:Hid (Kept (·=bt) w w1):=hk1.any
 clear hr1 hs1 hk1
 go_frame
 go_loopg [] k1 (fun k wr=>∃ es:Bag,Hid (BRng wr bg w.heap.size l3 es k)∧Hid (BagAt wr bt (gB H T t es++l))∧Hid (Kept (·=bt) w wr))
 case atStart=>exact ⟨[],HR1,HA1,HK1⟩
 case round =>
  obtain ⟨es,hr,ha,hK⟩:=hrel;clear HR1 HA1 HK1
  go_wp2_with (first
   | (at_next;refine wpList_next_bag _ rfl _ rfl bg w.heap.size l3 es gk rfl hr.out ?_ ?_)
   | fail)
  ·intro hall
   go_wp2_with fail;go_end0;exact ⟨rfl,es,hall,ha.out,hK.out⟩
  ·intro tt q w2 k2 hq ht htn hr2 hlt hk2 hsz2 hen
   have HQK:=hid hq;have HR2:=hid hr2
   have HQ5:Hid (q.length≤5):=H5.out q (by rw [←ht];exact htn)
   have hk2':Kept (·=bt) w w2:=hK.out.trans hk2 (fun _ e=>e) (fun i hi e=>by omega)
   have HK2:=hid hk2'
   have ha2:BagAt w2 bt (gB H T t es++l):=ha.out.kept hk2 (fun e=>by omega)
   have HA2:=hid ha2
   have HLen:Hid ((canon (gB H T t es++l)).length<maxLen):=by
    have e1:=HR2.out.ents.len;have e2:=HM.out;have e3:=Mo.canon_append_len (gB H T t es) l;have e4:=gB_len H T t es
    simp at e1
    show _<_
    omega
   have hw2:w.heap.size≤w2.heap.size:=hk2'.size;have hb2:w2.heap[b]? =some (.cells (grpC sl (.map hm1) (.map tm1) cv x) 286 (0,0)):=(hk2'.block b hbl hbtb).trans HB.out;have HB2:=hid hb2
   have HH2:Hid (BagV w2 (.map hm1) H):=HH.out.kept hk2' (fun k e e'=>hn1 (by rw [e,e']))
   have HT2:Hid (BagV w2 (.map tm1) T):=HT.out.kept hk2' (fun k e e'=>hn2 (by rw [e,e']))
   clear hq hr2 hk2 ht htn ha2 hsz2 hk2' hb2
   go_wp2_with (first
    | (refine store_row_new _ _ _ rfl rfl w2 _ rfl rfl rfl q rfl ?_)
    | fail)
   have hSb:(w2.alloc (.cells (rowA q) 154)).heap[b]? =some (.cells (grpC sl (.map hm1) (.map tm1) cv x) 286 (0,0)):=(Below.heap_alloc _ _ _ (lt_of_heap HB2.out)).trans HB2.out;have hSq:(w2.alloc (.cells (rowA q) 154)).heap[w2.heap.size]? =some (.cells (rowA q) 154 (0,0)):=heap_alloc_last _ _;have HSS:=hid (And.intro hSb hSq);have hKW:Kept No w2 (w2.alloc (.cells (rowA q) 154)):=(Kept.refl No w2).alloc _;have HKW:=hid hKW;have HHW:Hid (BagV (w2.alloc (.cells (rowA q) 154)).drew (.map hm1) H):=HH2.out.keptNo hKW.drew;clear hSb hSq hKW;generalize w2.alloc (.cells (rowA q) 154)=W at HSS HKW HHW ⊢;obtain ⟨cb,hcb⟩:∃ cb,cb=grpC sl (.map hm1) (.map tm1) cv x:=⟨_,rfl⟩;obtain ⟨cq,hcq⟩:∃ cq,cq=rowA q:=⟨_,rfl⟩
   have HY3:Hid (∀ w:World,w.heap[w2.heap.size]? =some (.cells cq 154 (0,0))→(loadVar 154 ⟨w2.heap.size,0,none⟩).run Tryz.prog w=.ok (.agg cq) w):=by
    subst hcq
    exact fun w h=>run_loadVar_row w w2.heap.size 154 154 (rowA q) (0,0) _ h Tryz.underlying154 rfl (by rw [rowA_size];exact infoRow)
   have HY4:Hid (∀ w:World,w.heap[b]? =some (.cells cb 286 (0,0))→w.cell? ⟨b,1,none⟩=some (.map hm1)):=by
    subst hcb
    exact fun w h=>(cell_of h 1).trans rfl
   have HY5:Hid (∀ w:World,w.heap[b]? =some (.cells cb 286 (0,0))→w.cell? ⟨b,2,none⟩=some (.map tm1)):=by
    subst hcb
    exact fun w h=>(cell_of h 2).trans rfl
   have HCQ:=hid hcq;rw [←hcb,←hcq] at HSS;clear hcb HB2 hcq
   refine wp_region_held_drew (S:=fun w'=>w'.heap[b]? =some (.cells cb 286 (0,0))∧w'.heap[w2.heap.size]? =some (.cells cq 154 (0,0))) (by kernel_rfl) HSS.out (fun hHeld=> ?_)
   refine tk_P 0 (.pointer (some ⟨b,0,none⟩)) hHeld ?_;try simp only [Act.put,n_1,n_2,n_3,n_4,n_5,n_6]
   refine tk_P 1 (.pointer (some ⟨b,0,none⟩)) hHeld ?_;try simp only [Act.put,n_1,n_2,n_3,n_4,n_5,n_6]
   refine tk_P 2 (.pointer (some ⟨b,1,none⟩)) hHeld ?_;try simp only [Act.put,n_1,n_2,n_3,n_4,n_5,n_6]
   refine tk_P 3 (.pointer (some ⟨b,1,none⟩)) hHeld ?_;try simp only [Act.put,n_1,n_2,n_3,n_4,n_5,n_6]
   refine tk_C 4 (.map hm1) 83 (.tmp 18) (b) (1) (fun w h=>HY4.out w h.1) hHeld ?_
   try simp only [Act.put,n_1,n_2,n_3,n_4,n_5,n_6]
   refine tk_L 5 (.agg cq) 154 (.tmp 8) (w2.heap.size) (0) (fun w h=>HY3.out w h.2) hHeld ?_
   try simp only [Act.put,n_1,n_2,n_3,n_4,n_5,n_6]
   refine tk_S 6 (fun K hK=> ?_)
   rw [if_pos (by kernel_rfl)]
   refine wp_lookup_bag (.tmp 19) (.tmp 20) (by kernel_rfl) (.map hm1) H (by kernel_rfl) HHW.out q HQK.out (by rw [←HCQ.out];kernel_rfl) ?_
   refine hK.out _ _ hHeld (fun hHeld=> ?_)
   clear hK K;try simp only [Act.put,n_1,n_2,n_3,n_4,n_5,n_6]
   have HGE:Hid (gE H T t q=if 0<wrap64 (cnt H q) then [(q++[.num (wrap64 (cnt T q))],t)] else []):=hid rfl
   generalize wrap64 (cnt H q)=hx at HGE ⊢;refine tk_P 7 (.bool (decide (0<hx))) hHeld ?_;try simp only [Act.put,n_1,n_2,n_3,n_4,n_5,n_6]
   refine wpAnyH_done (by kernel_rfl) ?_ _
   have HKF:Hid (Kept No w2 W.drew):=HKW.out.drew;have HS5:=hid hHeld;clear hHeld HSS HHW HKW;try simp only [Act.put,n_1,n_2,n_3,n_4,n_5,n_6]
   generalize W.drew=w5 at HKF HS5 ⊢
   have HR5:Hid (BRng w5 bg w.heap.size l3 (es++[(q,tt)]) k2):=HR2.out.kept HKF.out (fun e=>e) (fun e=>e)
   have HA5:Hid (BagAt w5 bt (gB H T t es++l)):=HA2.out.kept HKF.out (fun e=>e)
   have HK6:Hid (Kept (·=bt) w w5):=HK2.out.seqNo HKF.out
   have HT5:Hid (BagV w5.drew (.map tm1) T):=HT2.out.keptNo HKF.out.drew;clear HKF HR2 HA2 HK2 HT2
   by_cases hx0:0<hx
   ·have HE:Hid (gE H T t q=[(q++[.num (wrap64 (cnt T q))],t)]):=by show _=_;rw [HGE.out,if_pos hx0]
    clear HGE;go_wp2_with fail
    refine wp_region_held_drew (S:=fun w'=>w'.heap[b]? =some (.cells cb 286 (0,0))∧w'.heap[w2.heap.size]? =some (.cells cq 154 (0,0))) (by kernel_rfl) HS5.out (fun hHeld=> ?_)
    refine tk_P 0 (.map (some bt)) hHeld ?_;try simp only [Act.put,n_1,n_2,n_3,n_4,n_5,n_6]
    refine tk_L 1 (.agg cq) 154 (.tmp 8) (w2.heap.size) (0) (fun w h=>HY3.out w h.2) hHeld ?_
    try simp only [Act.put,n_1,n_2,n_3,n_4,n_5,n_6]
    refine tk_P 2 (.pointer (some ⟨b,0,none⟩)) hHeld ?_;try simp only [Act.put,n_1,n_2,n_3,n_4,n_5,n_6]
    refine tk_P 3 (.pointer (some ⟨b,0,none⟩)) hHeld ?_;try simp only [Act.put,n_1,n_2,n_3,n_4,n_5,n_6]
    refine tk_P 4 (.pointer (some ⟨b,2,none⟩)) hHeld ?_;try simp only [Act.put,n_1,n_2,n_3,n_4,n_5,n_6]
    refine tk_P 5 (.pointer (some ⟨b,2,none⟩)) hHeld ?_;try simp only [Act.put,n_1,n_2,n_3,n_4,n_5,n_6]
    refine tk_C 6 (.map tm1) 83 (.tmp 28) (b) (2) (fun w h=>HY5.out w h.1) hHeld ?_
    try simp only [Act.put,n_1,n_2,n_3,n_4,n_5,n_6]
    refine tk_L 7 (.agg cq) 154 (.tmp 8) (w2.heap.size) (0) (fun w h=>HY3.out w h.2) hHeld ?_
    try simp only [Act.put,n_1,n_2,n_3,n_4,n_5,n_6]
    refine tk_P 12 (.int .i64 t) hHeld ?_;try simp only [Act.put,n_1,n_2,n_3,n_4,n_5,n_6]
    refine tk_S 8 (fun K hK=> ?_)
    rw [if_pos (by kernel_rfl)]
    refine wp_lookup_bag (.tmp 29) (.tmp 30) (by kernel_rfl) (.map tm1) T (by kernel_rfl) HT5.out q HQK.out (by rw [←HCQ.out];kernel_rfl) ?_
    refine hK.out _ _ hHeld (fun hHeld=> ?_)
    clear hK K;try simp only [Act.put,n_1,n_2,n_3,n_4,n_5,n_6]
    have HRN:Hid (ROk (q++[.num (wrap64 (cnt T q))])):=num_ok HQK.out HQ5.out _;generalize wrap64 (cnt T q)=z at HE HRN ⊢
    have HNUM:Hid (∀ w',Calls Tryz.prog 163 #[.int .i64 z] w' fun e w''=>e=.returned (.agg #[.int .i32 0,.int .u8 0,.int .u8 0,.int .u8 0,.int .u8 0,.int .i64 z])∧Kept No w' w''):=fun w'=>knumber_any z w'
    obtain ⟨cz,hcz⟩:∃ cz,cz=rowA (q++[.num z]):=⟨_,rfl⟩
    have HAND:Hid (∀ w',SrcAt w' (.slice (some ⟨w'.heap.size-1,0,none⟩) 1 1) [.num z]→Calls Tryz.prog 80 #[.agg cq,.slice (some ⟨w'.heap.size-1,0,none⟩) 1 1] w' fun e w''=>e=.returned (.agg cz)∧Kept No w' w''):=by
     subst hcz;rw [HCQ.out]
     exact fun w' hs=>and_any q [.num z] _ w' hs (by simp) (by have:=HQ5.out;simp;omega)
    have HADD:Hid (∀ w',Kept No w5 w'→Calls Tryz.prog 79 #[.map (some bt),.agg cz,.int .i64 t] w' fun e w''=>e=.returned (.tuple #[])∧BagAt w'' bt ((q++[.num z],t)::(gB H T t es++l))∧Kept (·=bt) w' w''):=by
     subst hcz;refine hid ?_;intro w' hk'
     have h1:=HA5.out.kept hk' (fun e=>e)
     have h2:=HRN.out;exact add_any bt (gB H T t es++l) (q++[.num z]) t w' h1 h2 HLen.out
    clear hcz;have HKw:Hid (Kept No w5 w5.drew):=(Kept.refl No w5).drew
    refine tk_S 9 (fun K hK=> ?_)
    go_simp;refine (HNUM.out _).mono ?_;rintro e w6 ⟨rfl,hk6⟩
    have hS6:w6.heap[b]? =some (.cells cb 286 (0,0))∧w6.heap[w2.heap.size]? =some (.cells cq 154 (0,0)):=⟨(hk6.block b (lt_of_heap hHeld.1) (fun e=>e)).trans hHeld.1,(hk6.block _ (lt_of_heap hHeld.2) (fun e=>e)).trans hHeld.2⟩
    have HK7:Hid (Kept No w5 w6):=HKw.out.seq hk6
    refine hK.out _ _ hS6 (fun hHeld=> ?_)
    clear hK K hk6;try simp only [Act.put,n_1,n_2,n_3,n_4,n_5,n_6]
    refine tk_S 10 (fun K hK=> ?_)
    go_simp;have hS7:(w6.alloc (.cells #[.int .i32 0,.int .u8 0,.int .u8 0,.int .u8 0,.int .u8 0,.int .i64 z] 133)).heap[b]? =some (.cells cb 286 (0,0))∧(w6.alloc (.cells #[.int .i32 0,.int .u8 0,.int .u8 0,.int .u8 0,.int .u8 0,.int .i64 z] 133)).heap[w2.heap.size]? =some (.cells cq 154 (0,0)):=⟨(Below.heap_alloc _ _ _ (lt_of_heap hHeld.1)).trans hHeld.1,(Below.heap_alloc _ _ _ (lt_of_heap hHeld.2)).trans hHeld.2⟩;have HSRC:Hid (SrcAt (w6.alloc (.cells #[.int .i32 0,.int .u8 0,.int .u8 0,.int .u8 0,.int .u8 0,.int .i64 z] 133)) (.slice (some ⟨w6.heap.size,0,none⟩) 1 1) [.num z]):=src_num w6 z;have HK8:Hid (Kept No w5 (w6.alloc (.cells #[.int .i32 0,.int .u8 0,.int .u8 0,.int .u8 0,.int .u8 0,.int .i64 z] 133))):=HK7.out.alloc _
    have hsz7:w6.heap.size=(w6.alloc (.cells #[.int .i32 0,.int .u8 0,.int .u8 0,.int .u8 0,.int .u8 0,.int .i64 z] 133)).heap.size-1:=by simp
    refine hK.out _ _ hS7 (fun hHeld=> ?_)
    clear hK K hS6;try simp only [Act.put,n_1,n_2,n_3,n_4,n_5,n_6]
    rw [hsz7] at HSRC;simp only [hsz7];clear hsz7;generalize w6.alloc (.cells #[.int .i32 0,.int .u8 0,.int .u8 0,.int .u8 0,.int .u8 0,.int .i64 z] 133)=w7 at HSRC HK8 hHeld ⊢
    refine tk_S 11 (fun K hK=> ?_)
    go_simp;refine (HAND.out _ HSRC.out).mono ?_;rintro e w8 ⟨rfl,hk8⟩
    have hS8:w8.heap[b]? =some (.cells cb 286 (0,0))∧w8.heap[w2.heap.size]? =some (.cells cq 154 (0,0)):=⟨(hk8.block b (lt_of_heap hHeld.1) (fun e=>e)).trans hHeld.1,(hk8.block _ (lt_of_heap hHeld.2) (fun e=>e)).trans hHeld.2⟩
    have HK9:Hid (Kept No w5 w8):=HK8.out.seq hk8
    refine hK.out _ _ hS8 (fun hHeld=> ?_)
    clear hK K hk8;try simp only [Act.put,n_1,n_2,n_3,n_4,n_5,n_6]
    refine tk_S 13 (fun K hK=> ?_)
    go_simp;refine (HADD.out _ HK9.out).mono ?_;rintro e w9 ⟨rfl,ha9,hk9⟩
    have hS9:w9.heap[b]? =some (.cells cb 286 (0,0))∧w9.heap[w2.heap.size]? =some (.cells cq 154 (0,0)):=⟨(hk9.block b (lt_of_heap hHeld.1) hbtb).trans hHeld.1,(hk9.block _ (lt_of_heap hHeld.2) (by omega)).trans hHeld.2⟩
    have HK10:Hid (Kept (·=bt) w5 w9):=HK9.out.noSeq hk9
    refine hK.out _ _ hS9 (fun hHeld=> ?_)
    clear hK K hk9
    refine wpAnyH_done (by kernel_rfl) ?_ _
    clear hS8 hS9 HK9 HK7 HK8 HAND HADD HNUM HY3 HY4 HY5 hHeld HKw HS5 HSRC;try simp only [Act.put,n_1,n_2,n_3,n_4,n_5,n_6]
    have HR9:Hid (BRng w9 bg w.heap.size l3 (es++[(q,tt)]) k2):=HR5.out.kept HK10.out (fun e=>hne e.symm) (fun e=>by omega)
    have HA9:Hid (BagAt w9 bt (gB H T t (es++[(q,tt)])++l)):=by
     show BagAt _ _ _
     rw [gB_snoc,HE.out]
     refine ha9.eqv (fun x=> ?_) (fun x hx=> ?_)
     ·simp only [Mo.cnt_append,cnt];omega
     ·rcases List.mem_append.1 hx with hx | hx
      ·rcases List.mem_append.1 hx with hx | hx
       ·exact HA5.out.1 x (List.mem_append.2 (.inl hx))
       ·simp at hx;subst hx;exact HRN.out
      ·exact HA5.out.1 x (List.mem_append.2 (.inr hx))
    have HK11:Hid (Kept (·=bt) w w9):=HK6.out.seq HK10.out
    clear ha9 HK10 HR5 HA5 HK6;go_wp2_with fail;go_roundg k2
    case measure=>exact hlt
    case rel=>exact ⟨es++[(q,tt)],HR9,HA9,HK11⟩
   ·have HE:Hid (gE H T t q=[]):=by show _=_;rw [HGE.out,if_neg hx0]
    have hx1:hx≤0:=by omega
    have HA6:Hid (BagAt w5 bt (gB H T t (es++[(q,tt)])++l)):=by show BagAt _ _ _;rw [gB_snoc,HE.out,List.append_nil];exact HA5.out
    clear HGE HY3 HY4 HY5;go_wp2_with fail;go_roundg k2
    case measure=>exact hlt
    case rel=>exact ⟨es++[(q,tt)],HR5,HA6,HK6⟩
open Mo (V Row Bag cnt canon Eqv OkB OkD Opd cmpV opdR selB)
def selC (sl:Value) (n:Nat) (l r:Opd):Array Value :=
 #[sl,.int .i64 (n:Int),.bool (isC l),.int .i64 (colI l:Int),.int .i32 (kI (vO l)),.int .u8 (tB (vO l) 0),.int .u8 (tB (vO l) 1),.int .u8 (tB (vO l) 2),.int .u8 (tB (vO l) 3),.int .i64 (nI (vO l)),
   .bool (isC r),.int .i64 (colI r:Int),.int .i32 (kI (vO r)),.int .u8 (tB (vO r) 0),.int .u8 (tB (vO r) 1),.int .u8 (tB (vO r) 2),.int .u8 (tB (vO r) 3),.int .i64 (nI (vO r))]
def SelAt (w:World) (O:Ow) (b:Nat) (T:Value) (n:Nat) (l r:Opd):Prop:=O b=b+2∧∃ g cap,w.heap[b]? =some (.cells (selC (tkS g cap) n l r) 277 (0,0))∧TkAt w O b g T
def selP (n:Nat) (l r:Opd):Row→Bool:=fun q=>cmpV (cmpO n) (opdR l q) (opdR r q)
theorem SelAt.stab {w w':World} {O O':Ow} {b n:Nat} {T:Value} {l r:Opd} (h:SelAt w O b T n l r) (hk:∀ k,k<w.heap.size→O k=b+2→w'.heap[k]? =w.heap[k]?∧O' k=O k):SelAt w' O' b T n l r:=by
 obtain ⟨h0,g,cap,h1,h2⟩:=h;have hb:=hk b (lt_of_heap h1) h0;exact ⟨hb.2.trans h0,g,cap,hb.1.trans h1,h2.stab (hk g h2.lt h2.1)⟩
theorem sel_range1 {w:World} {b n:Nat} {sl:Value} {l r:Opd} (h:w.heap[b]? =some (.cells (selC sl n l r) 277 (0,0))):w.rangeAt b 2 (opA l):=fun j v hv=>by
 rw [cell_of h];have hj:=(List.getElem?_eq_some_iff.1 hv).1
 match j,hj with
 | 0,_ | 1,_ | 2,_ | 3,_ | 4,_ | 5,_ | 6,_ | 7,_=>simpa [opA,selC] using hv
theorem sel_range2 {w:World} {b n:Nat} {sl:Value} {l r:Opd} (h:w.heap[b]? =some (.cells (selC sl n l r) 277 (0,0))):w.rangeAt b 10 (opA r):=fun j v hv=>by
 rw [cell_of h];have hj:=(List.getElem?_eq_some_iff.1 hv).1
 match j,hj with
 | 0,_ | 1,_ | 2,_ | 3,_ | 4,_ | 5,_ | 6,_ | 7,_=>simpa [opA,selC] using hv
theorem infoOp:(Tryz.prog.info? 135).map (·.size)=some 8:=by kernel_rfl
theorem selB_snoc (p:Row→Bool) (es:Bag) (q:Row) (t:Int):selB p (es++[(q,t)])=selB p es++(if p q then [(q,t)] else []):=by
 rw [Mo.selB_append];congr 1;unfold selB;by_cases h:p q <;> simp [h]
structure SelOk (us:List Bool) (l r:Opd):Prop where
 l6:∀ c,l=.col c→c<6
 r6:∀ c,r=.col c→c<6
 ok:∀ {q:Row},Mo.Good us q→VOk (opdR l q)∧VOk (opdR r q)∧Mo.ty (opdR l q)=Mo.ty (opdR r q)
theorem sel_loop (b c n g cap:Nat) (l r:Opd) (us:List Bool) (hO:SelOk us l r) (d:Bag) (w:World) (Q:Ending→World→Prop) (hb:w.heap[b]? =some (.cells (selC (tkS g cap) n l r) 277 (0,0))) (hd:OkD us d) (hc:BagAt w c (canon d))
 (hQ:∀ w3 es,AllOf (canon d) es→BagAt w3 w.heap.size (selB (selP n l r) es)→Kept No w w3→Calls Tryz.prog 250 #[.pointer (some ⟨b,0,none⟩),.map (some w.heap.size)] w3 fun e w'=>e=.returned (.tuple #[])∧Q e w') :
 Calls Tryz.prog 258 #[.pointer (some ⟨b,0,none⟩),.map (some c)] w Q:=by
 have HC:Hid (BagAt (w.alloc (.map #[] 0)) c (canon d)):=hc.of_block (Below.heap_alloc _ _ _ hc.lt);have HN0:Hid (BagAt (w.alloc (.map #[] 0)) w.heap.size []):=BagAt.made w;have HB:=hid hb;have HQ:=hid hQ;have HO:=hid hO;have HD:=hid hd;have hcl:=hc.lt;have hbl:=lt_of_heap hb;clear hc hb hQ hO hd;have hmm:=@run_makeMap Tryz.prog
 go_enter Tryz.func258,Tryz.ntmps258
 go_wp2_with (first
  | (at_range;refine wpList_range_bag _ rfl _ rfl c (canon d) rfl HC.out ?_;intro w1 k1 hr1 hk1 hs1)
  | fail)
 have hsz:(w.alloc (.map #[] 0)).heap.size=w.heap.size+1:=by simp
 rw [hsz] at hr1 hs1 ⊢;have HR1:=hid hr1
 have HA1:Hid (BagAt w1 w.heap.size (selB (selP n l r) [])):=HN0.out.kept hk1 (fun e=>e)
 have hk1':Kept No w w1:=((Kept.refl No w).alloc _).seq hk1;have HK1:=hid hk1';clear hr1 hs1 hk1 hk1' HC HN0 hmm
 go_frame
 go_loopg [] k1 (fun k wr=>∃ es:Bag,Hid (BRng wr c (w.heap.size+1) (canon d) es k)∧Hid (BagAt wr w.heap.size (selB (selP n l r) es))∧Hid (Kept No w wr))
 case atStart=>exact ⟨[],HR1,HA1,HK1⟩
 case round =>
  obtain ⟨es,hr,ha,hK⟩:=hrel;clear HR1 HA1 HK1
  go_wp2_with (first
   | (at_next;refine wpList_next_bag _ rfl _ rfl c (w.heap.size+1) (canon d) es gk rfl hr.out ?_ ?_)
   | fail)
  ·intro hall
   have HG:=hid (HQ.out wr es hall ha.out hK.out);clear hall;go_wp2_with fail;refine HG.out.mono ?_;rintro e w4 ⟨rfl,hq⟩;have HQ4:=hid hq;clear hq;go_wp2_with fail;go_end0;exact HQ4.out
  ·intro t q w2 k2 hq ht htn hr2 hlt hk2 hsz2 hen
   have HQK:=hid hq;have HR2:=hid hr2
   have HGQ:Hid (Mo.Good us q):=HD.out.good (by rw [←HD.out.w64,←ht];exact htn)
   have hk2':Kept No w w2:=hK.out.trans hk2 (fun _ e=>e) (fun i hi e=>by omega)
   have HK2:=hid hk2'
   have ha2:BagAt w2 w.heap.size (selB (selP n l r) es):=ha.out.kept hk2 (fun e=>by omega)
   have HA2:=hid ha2
   have HLen:Hid ((canon (selB (selP n l r) es)).length<maxLen):=by
    have e1:=HR2.out.ents.len;have e2:=HD.out.len;have e3:=Mo.canon_append_len (selB (selP n l r) es) [];have e4:(selB (selP n l r) es).length≤es.length:=List.length_filter_le _ _
    simp [Mo.canon] at e1 e3
    rw [Mo.canon_of_rise (Mo.canon_rise d)] at e1
    show _<_
    unfold maxLen;omega
   have hw2:w.heap.size≤w2.heap.size:=hk2'.size
   have hb2:w2.heap[b]? =some (.cells (selC (tkS g cap) n l r) 277 (0,0)):=(hk2'.block b hbl (fun e=>e)).trans HB.out
   have HB2:=hid hb2;clear hq hr2 hk2 ht htn ha2 hsz2 hk2' hb2
   go_wp2_with (first
    | (refine store_row_new _ _ _ rfl rfl w2 _ rfl rfl rfl q rfl ?_)
    | fail)
   have hSb:(w2.alloc (.cells (rowA q) 154)).heap[b]? =some (.cells (selC (tkS g cap) n l r) 277 (0,0)):=(Below.heap_alloc _ _ _ (lt_of_heap HB2.out)).trans HB2.out;have hSq:(w2.alloc (.cells (rowA q) 154)).heap[w2.heap.size]? =some (.cells (rowA q) 154 (0,0)):=heap_alloc_last _ _;have HSS:=hid (And.intro hSb hSq);have hKW:Kept No w2 (w2.alloc (.cells (rowA q) 154)):=(Kept.refl No w2).alloc _;have HKW:=hid hKW
   have hwl:w2.heap.size<(w2.alloc (.cells (rowA q) 154)).heap.size:=by simp
   clear hSb hSq hKW;generalize w2.alloc (.cells (rowA q) 154)=W at HSS HKW hwl ⊢;obtain ⟨cb,hcb⟩:∃ cb,cb=selC (tkS g cap) n l r:=⟨_,rfl⟩;obtain ⟨cq,hcq⟩:∃ cq,cq=rowA q:=⟨_,rfl⟩;obtain ⟨vl,hvl⟩:∃ vl,vl=(opA l).toArray:=⟨_,rfl⟩;obtain ⟨vr,hvr⟩:∃ vr,vr=(opA r).toArray:=⟨_,rfl⟩;obtain ⟨xl,hxl⟩:∃ xl,xl=aggV (opdR l q):=⟨_,rfl⟩;obtain ⟨xr,hxr⟩:∃ xr,xr=aggV (opdR r q):=⟨_,rfl⟩;obtain ⟨bo,hbo⟩:∃ bo,bo=selP n l r q:=⟨_,rfl⟩
   have HIL:Hid (∀ w,Calls Tryz.prog 253 #[.agg vl,.agg cq] w fun e w'=>e=.returned xl∧Kept No w w'):=by subst hvl hcq hxl;exact fun w=>in_any l q HO.out.l6 w
   have HIR:Hid (∀ w,Calls Tryz.prog 253 #[.agg vr,.agg cq] w fun e w'=>e=.returned xr∧Kept No w w'):=by subst hvr hcq hxr;exact fun w=>in_any r q HO.out.r6 w
   have HHO:Hid (∀ w,Calls Tryz.prog 252 #[.int .i64 (n:Int),xl,xr] w fun e w'=>e=.returned (.bool bo)∧Kept No w w'):=by
    subst hxl hxr hbo;obtain ⟨o1,o2,o3⟩:=HO.out.ok HGQ.out
    exact fun w=>holds_any n _ _ o1 o2 o3 w
   have HY1:Hid (∀ w:World,w.heap[b]? =some (.cells cb 277 (0,0))→(loadVar 135 ⟨b,2,none⟩).run Tryz.prog w=.ok (.agg vl) w):=by
    subst hcb hvl
    exact fun w h=>run_loadVar_mid w b 2 135 (opA l) _ (sel_range1 h) Tryz.underlying135 rfl infoOp
   have HY2:Hid (∀ w:World,w.heap[b]? =some (.cells cb 277 (0,0))→(loadVar 135 ⟨b,10,none⟩).run Tryz.prog w=.ok (.agg vr) w):=by
    subst hcb hvr
    exact fun w h=>run_loadVar_mid w b 10 135 (opA r) _ (sel_range2 h) Tryz.underlying135 rfl infoOp
   have HY3:Hid (∀ w:World,w.heap[w2.heap.size]? =some (.cells cq 154 (0,0))→(loadVar 154 ⟨w2.heap.size,0,none⟩).run Tryz.prog w=.ok (.agg cq) w):=by
    subst hcq
    exact fun w h=>run_loadVar_row w w2.heap.size 154 154 (rowA q) (0,0) _ h Tryz.underlying154 rfl (by rw [rowA_size];exact infoRow)
   have HY4:Hid (∀ w:World,w.heap[b]? =some (.cells cb 277 (0,0))→w.cell? ⟨b,1,none⟩=some (.int .i64 (n:Int))):=by
    subst hcb
    exact fun w h=>(cell_of h 1).trans rfl
   rw [←hcb,←hcq] at HSS;have HCQ:=hid hcq;have HBO:=hid hbo;clear hcb hvl hvr hxl hxr HGQ HB2 hcq hbo
   refine wp_region_held_drew (S:=fun w'=>w'.heap[b]? =some (.cells cb 277 (0,0))∧w'.heap[w2.heap.size]? =some (.cells cq 154 (0,0))) (by kernel_rfl) HSS.out (fun hHeld=> ?_)
   refine tk_P 0 (.pointer (some ⟨b,0,none⟩)) hHeld ?_;try simp only [Act.put,n_1,n_2,n_3,n_4,n_5,n_6]
   refine tk_P 1 (.pointer (some ⟨b,0,none⟩)) hHeld ?_;try simp only [Act.put,n_1,n_2,n_3,n_4,n_5,n_6]
   refine tk_P 2 (.pointer (some ⟨b,1,none⟩)) hHeld ?_;try simp only [Act.put,n_1,n_2,n_3,n_4,n_5,n_6]
   refine tk_C 3 (.int .i64 (n:Int)) 129 (.tmp 17) (b) (1) (fun w h=>HY4.out w h.1) hHeld ?_
   try simp only [Act.put,n_1,n_2,n_3,n_4,n_5,n_6]
   refine tk_P 4 (.pointer (some ⟨b,0,none⟩)) hHeld ?_;try simp only [Act.put,n_1,n_2,n_3,n_4,n_5,n_6]
   refine tk_P 5 (.pointer (some ⟨b,0,none⟩)) hHeld ?_;try simp only [Act.put,n_1,n_2,n_3,n_4,n_5,n_6]
   refine tk_P 6 (.pointer (some ⟨b,2,none⟩)) hHeld ?_;try simp only [Act.put,n_1,n_2,n_3,n_4,n_5,n_6]
   refine tk_L 7 (.agg vl) 135 (.tmp 21) (b) (2) (fun w h=>HY1.out w h.1) hHeld ?_
   try simp only [Act.put,n_1,n_2,n_3,n_4,n_5,n_6]
   refine tk_L 8 (.agg cq) 154 (.tmp 5) (w2.heap.size) (0) (fun w h=>HY3.out w h.2) hHeld ?_
   try simp only [Act.put,n_1,n_2,n_3,n_4,n_5,n_6]
   refine tk_P 10 (.pointer (some ⟨b,0,none⟩)) hHeld ?_;try simp only [Act.put,n_1,n_2,n_3,n_4,n_5,n_6]
   refine tk_P 11 (.pointer (some ⟨b,0,none⟩)) hHeld ?_;try simp only [Act.put,n_1,n_2,n_3,n_4,n_5,n_6]
   refine tk_P 12 (.pointer (some ⟨b,10,none⟩)) hHeld ?_;try simp only [Act.put,n_1,n_2,n_3,n_4,n_5,n_6]
   refine tk_L 13 (.agg vr) 135 (.tmp 27) (b) (10) (fun w h=>HY2.out w h.1) hHeld ?_
   try simp only [Act.put,n_1,n_2,n_3,n_4,n_5,n_6]
   refine tk_L 14 (.agg cq) 154 (.tmp 5) (w2.heap.size) (0) (fun w h=>HY3.out w h.2) hHeld ?_
   try simp only [Act.put,n_1,n_2,n_3,n_4,n_5,n_6]
   have HKw:Hid (Kept No W W.drew):=(Kept.refl No W).drew
   refine tk_S 9 (fun K hK=> ?_)
   go_simp;refine (HIL.out _).mono ?_;rintro e w3 ⟨rfl,hk3⟩
   have hS3:w3.heap[b]? =some (.cells cb 277 (0,0))∧w3.heap[w2.heap.size]? =some (.cells cq 154 (0,0)):=⟨(hk3.block b (lt_of_heap hHeld.1) (fun e=>e)).trans hHeld.1,(hk3.block _ (lt_of_heap hHeld.2) (fun e=>e)).trans hHeld.2⟩
   have HK3:Hid (Kept No W w3):=HKw.out.seq hk3
   refine hK.out _ _ hS3 (fun hHeld=> ?_)
   clear hK K hk3;try simp only [Act.put,n_1,n_2,n_3,n_4,n_5,n_6]
   refine tk_S 15 (fun K hK=> ?_)
   go_simp;refine (HIR.out _).mono ?_;rintro e w4 ⟨rfl,hk4⟩
   have hS4:w4.heap[b]? =some (.cells cb 277 (0,0))∧w4.heap[w2.heap.size]? =some (.cells cq 154 (0,0)):=⟨(hk4.block b (lt_of_heap hHeld.1) (fun e=>e)).trans hHeld.1,(hk4.block _ (lt_of_heap hHeld.2) (fun e=>e)).trans hHeld.2⟩
   have HK4:Hid (Kept No W w4):=HK3.out.seq hk4
   refine hK.out _ _ hS4 (fun hHeld=> ?_)
   clear hK K hk4;try simp only [Act.put,n_1,n_2,n_3,n_4,n_5,n_6]
   refine tk_S 16 (fun K hK=> ?_)
   go_simp;refine (HHO.out _).mono ?_;rintro e w5 ⟨rfl,hk5⟩
   have hS5:w5.heap[b]? =some (.cells cb 277 (0,0))∧w5.heap[w2.heap.size]? =some (.cells cq 154 (0,0)):=⟨(hk5.block b (lt_of_heap hHeld.1) (fun e=>e)).trans hHeld.1,(hk5.block _ (lt_of_heap hHeld.2) (fun e=>e)).trans hHeld.2⟩
   have HK5:Hid (Kept No W w5):=HK4.out.seq hk5
   refine hK.out _ _ hS5 (fun hHeld=> ?_)
   clear hK K hk5
   refine wpAnyH_done (by kernel_rfl) ?_ _
   clear hS3 hS4 hS5 HK3 HK4 HIL HIR HHO HY1 HY2 HY3 HY4;have HKF:Hid (Kept No w2 w5):=HKW.out.seq HK5.out;have HRow:=hid hHeld.2;clear hHeld HKW HK5 HKw HSS;try simp only [Act.put,n_1,n_2,n_3,n_4,n_5,n_6]
   have HR5:Hid (BRng w5 c (w.heap.size+1) (canon d) (es++[(q,t)]) k2):=HR2.out.kept HKF.out (fun e=>e) (fun e=>e)
   have HA5:Hid (BagAt w5 w.heap.size (selB (selP n l r) es)):=HA2.out.kept HKF.out (fun e=>e)
   have HK6:Hid (Kept No w w5):=HK2.out.seq HKF.out;clear HKF HR2 HA2 HK2
   cases bo with
   | false =>
     have HA6:Hid (BagAt w5 w.heap.size (selB (selP n l r) (es++[(q,t)]))):=by show BagAt _ _ _;rw [selB_snoc,←HBO.out];simpa using HA5.out
     go_wp2_with fail;go_roundg k2
     case measure=>exact hlt
     case rel=>exact ⟨es++[(q,t)],HR5,HA6,HK6⟩
   | true =>
     have HADD:=hid (add_any w.heap.size (selB (selP n l r) es) q t w5 HA5.out HQK.out HLen.out);have hcq:=HCQ.out;subst hcq
     go_wp2_with (first
      | (refine load_row _ rfl rfl w2.heap.size rfl q HRow.out ?_)
      | fail)
     refine HADD.out.mono ?_;rintro e w6 ⟨rfl,ha6,hk6⟩
     have HA6:Hid (BagAt w6 w.heap.size (selB (selP n l r) (es++[(q,t)]))):=by
      show BagAt _ _ _
      rw [selB_snoc,←HBO.out]
      refine ha6.eqv (fun x=> ?_) (fun x hx=> ?_)
      ·simp only [Mo.cnt_append,if_true,cnt];omega
      ·rcases List.mem_append.1 hx with hx | hx
       ·exact HA5.out.1 x hx
       ·simp at hx;subst hx;exact HQK.out
     have HR6:Hid (BRng w6 c (w.heap.size+1) (canon d) (es++[(q,t)]) k2):=HR5.out.kept hk6 (fun e=>by omega) (fun e=>by omega)
     have HK7:Hid (Kept No w w6):=HK6.out.trans hk6 (fun _ e=>e) (fun i hi e=>by omega)
     clear ha6 hk6 HADD;go_wp2_with fail;go_roundg k2
     case measure=>exact hlt
     case rel=>exact ⟨es++[(q,t)],HR6,HA6,HK7⟩
theorem sel_ty:TyTake 275 258:=⟨fun _ _=>by kernel_rfl,fun _ _=>by kernel_rfl,enters_of Tryz.func258 (by kernel_rfl) rfl⟩
theorem sel_takes {ty:TypeId} {f:Nat} {p:Addr} {A:Nat→Prop} {ts:List Bool} {Gd:Bag→Prop} {R:World→Ow→Bag→Prop} (hT:Takes ty f p A ts Gd R) (b n:Nat) (l r:Opd) (us:List Bool) (hO:SelOk us l r) (hA:¬A (b+2)) :
 Takes 275 258 ⟨b,0,none⟩ (fun a=>A a∨a=b+2) us (fun B=>OkB us B∧Gd (selB (selP n l r) B)) (fun w O B=>R w O (selB (selP n l r) B)∧SelAt w O b (.iface ty (.pointer (some p))) n l r) where
 zero:=fun h=>h.elim hT.zero (by omega)
 one:=fun h=>h.elim hT.one (by omega)
 ok:=fun h=>h.1
 gde:=fun h e=>⟨h.1.eqv e,hT.gde h.2 (Mo.selB_eqv e)⟩
 stab:=fun h hs hk=>⟨hT.stab h.1 hs fun k hk' ha=>hk k hk' (ha.imp .inl id),h.2.stab fun k hk' e=>hk k hk' (.inl (.inr e))⟩
 eqv:=fun h e=>⟨hT.eqv h.1 (Mo.selB_eqv e),h.2⟩
 met:=sel_ty
 run:=by
  rintro w O B d c ⟨hR,hS⟩ ⟨hB1,hB2⟩ ⟨hD1,hD2⟩ hc hAc;have hd:=hB1.chg hD1;obtain ⟨hO0,g,cap,hb,hg⟩:=hS
  refine sel_loop b c n g cap l r us hO d w _ hb hd hc fun w3 es hall ha hk=> ?_
  have he:Eqv (selB (selP n l r) es) (selB (selP n l r) d):=Mo.selB_eqv (hall.eqv hd);rw [Mo.selB_append] at hD2;have hok:=(hT.ok hB2).chg (hT.ok hD2)
  have hb3:w3.heap[b]? =some (.cells (selC (tkS g cap) n l r) 277 (0,0)):=(hk.block b (lt_of_heap hb) (fun e=>e)).trans hb
  have hg3:w3.heap[g]? =w.heap[g]? :=hk.block g hg.lt (fun e=>e)
  have hgt:TkAt w3 (oN w O) b g (.iface ty (.pointer (some p))):=hg.stab ⟨hg3,oN_old hg.lt⟩;have hc3:BagAt w3 w.heap.size (canon (selB (selP n l r) d)):=ha.eqv (he.trans (Mo.canon_eqv _).symm) hok.rok
  have hR3:R w3 (oN w O) (selB (selP n l r) B):=hT.kept hR hk (fun _ e=>e.elim) (fun k hk'=>oN_old hk')
  refine (hT.give (b:=b) (c:=w.heap.size) (g:=g) (o:=0) (cap:=cap) ((cell_of hb3 0).trans rfl) hgt.cell hR3 hB2 hD2 hc3 (by rw [oN_new (Nat.le_refl _)];exact hT.zero)).mono fun e w4 h4=>⟨h4.1,?_⟩
  refine TakeEnd.up (b:=b) hk.any h4 fun O' h1 h2 h3=>⟨by rw [Mo.selB_append];exact h3,?_⟩
  have hbb:∀ k,k<w3.heap.size→oN w O k=b+2→w4.heap[k]? =w3.heap[k]?∧O' k=oN w O k:=fun k hk' e=>⟨h2.block k hk' (by rw [e];exact hA),h1 k hk'⟩
  exact SelAt.stab ⟨by rw [oN_old (lt_of_heap hb)];exact hO0,g,cap,hb3,hgt⟩ hbb
end Go.Proofs.YtdinjjmcmfjbfaaGreatDoor
