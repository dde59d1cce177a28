import Derived.Test.YtdinjjmcmfjbfaaGreatDoorQbJ
import Derived.Test.YtdinjjmcmfjbfaaGreatDoorFi2J
import Derived.Laws.OwnMore
import Derived.Test.YtdinjjmcmfjbfaaGreatDoorKpJ
set_option maxRecDepth 100000
set_option maxHeartbeats 4000000
namespace Go.Proofs.YtdinjjmcmfjbfaaGreatDoor
open Go.RowKit
open Mo (V Row Bag cnt canon lin)
theorem rows_any (v:Value) (l:Bag) (w:World) (h:BagV w v l) :
 Calls Tryz.prog 82 #[v] w fun e w'=>∃ es,AllOf l es∧e=.returned (.int .i64 (wrap64 (tot es)))∧Kept No w w':=by
 rcases h with ⟨rfl,rfl⟩ | ⟨b,rfl,h⟩
 ·have hrg:=run_range_nilMap (P:=Tryz.prog) w 83 154 2 Tryz.underlying83
  have hnx:∀ ty,(Instr.next (.pointer (some ⟨w.heap.size,0,none⟩)) false ty).run Tryz.prog (w.alloc (.mapIter none 0 #[] 0))=_:=fun ty=>run_next_nilMap w ty 0 0 #[]
  go_enter Tryz.func82,Tryz.ntmps82
  go_wp2_with fail;refine wp_loop_rounds 1 ?_;rw [rounds_succ];go_wp2_with fail;go_ret
  exact ⟨[],⟨⟨by simp,by simp⟩,fun r _ hc=>absurd wrap64_zero hc⟩,ret_int (by unfold tot lin;exact wrap64_zero.symm),(Kept.refl _ _).alloc _⟩
 ·have H:=hid h
  clear h
  go_enter Tryz.func82,Tryz.ntmps82
  go_wp2_with (first
   | (at_range;refine wpList_range_bag _ rfl _ rfl b l rfl H.out ?_;intro w1 k1 hr1 hk1 hs1)
   | fail)
  have HR1:=hid hr1;clear hr1 hs1
  go_frame
  go_loopg [3] k1 (fun k v2 wr=>∃ es:Bag,v2=.int .i64 (wrap64 (tot es))∧Hid (BRng wr b w.heap.size l es k)∧Kept No w wr)
  case atStart=>exact ⟨[],by unfold tot lin;rw [wrap64_zero],HR1,hk1⟩
  case round =>
   obtain ⟨es,rfl,hr,hk⟩:=hrel;have HK:=hid hk;clear hk hk1
   go_wp2_with (first
    | (at_next;refine wpList_next_bag _ rfl _ rfl b w.heap.size l es gk rfl hr.out ?_ ?_)
    | fail)
   ·intro hall
    go_wp2_with fail;go_ret;exact ⟨es,hall,rfl,HK.out⟩
   ·intro t q w2 k2 hq ht htn hr2 hlt hk2 hsz hen
    have HR2:=hid hr2
    have HK2:Hid (Kept No w w2):=HK.out.trans hk2 (fun _ e=>e) (fun i hi e=>by omega)
    have HT:=hid (tot_snoc es q t);clear hq hr2 hk2 ht htn hsz;go_wp2_with fail;go_roundg k2
    case measure=>exact hlt
    case rel=>first
     | exact ⟨es++[(q,t)],by rw [HT.out,wrap64_add],HR2,HK2.out⟩
     | exact ⟨es++[(q,t)],by rw [HT.out,wrap64_add],HR2.out.kept ((Kept.refl No _).alloc _) (fun e=>e) (fun e=>e),HK2.out.alloc _⟩
def Bears (l1 l2:Bag):Prop:=∀ r,ROk r→wrap64 (cnt l2 r)≠0→0≤wrap64 (wrap64 (cnt l1 r)+wrap64 (cnt l2 r))
theorem covers_any (v:Value) (b:Nat) (l1 l2:Bag) (w:World) (h1:BagV w v l1) (h2:BagAt w b l2) :
 Calls Tryz.prog 81 #[v,.map (some b)] w fun e w'=>∃ ok:Bool,(ok=true↔Bears l1 l2)∧e=.returned (.bool ok)∧Kept No w w':=by
 have HV:=hid h1;have H:=hid h2
 obtain ⟨mv,rfl⟩:∃ mv,v=.map mv:=by rcases h1 with ⟨rfl,_⟩ | ⟨b,rfl,_⟩ <;> exact ⟨_,rfl⟩
 clear h1 h2
 go_enter Tryz.func81,Tryz.ntmps81
 go_wp2_with (first
  | (at_range;refine wpList_range_bag _ rfl _ rfl b l2 rfl H.out ?_;intro w1 k1 hr1 hk1 hs1)
  | fail)
 have HR1:=hid hr1;clear hr1 hs1
 go_frame
 go_loopg [] k1 (fun k wr=>∃ es:Bag,Hid (∀ e∈es,0≤wrap64 (wrap64 (cnt l1 e.1)+wrap64 (cnt l2 e.1)))∧Hid (BRng wr b w.heap.size l2 es k)∧Kept No w wr)
 case atStart=>exact ⟨[],hid (by simp),HR1,hk1⟩
 case round =>
  obtain ⟨es,hall,hr,hk⟩:=hrel;have HK:=hid hk;clear hk hk1
  go_wp2_with (first
   | (at_next;refine wpList_next_bag _ rfl _ rfl b w.heap.size l2 es gk rfl hr.out ?_ ?_)
   | fail)
  ·intro hdone
   have HD:=hid hdone;clear hdone;go_wp2_with fail;go_ret
   refine ⟨true,⟨fun _ r hr hc=> ?_,fun _=>rfl⟩,rfl,HK.out⟩
   obtain ⟨e,he,rfl⟩:=HD.out.2 r hr hc;exact hall.out e he
  ·intro t q w2 k2 hq ht htn hr2 hlt hk2 hsz hen
   have HR2:=hid hr2
   have HK2:Hid (Kept No w w2):=HK.out.trans hk2 (fun _ e=>e) (fun i hi e=>by omega)
   have HQ:=hid hq;have HT:=hid ht
   have HNE:Hid (wrap64 (cnt l2 q)≠0):=by show _≠_;rw [←ht];exact htn
   have HV2:Hid (BagV w2 (.map mv) l1):=HV.out.keptNo HK2.out
   have HN:Hid (wrap64 (wrap64 (cnt l1 q)+t)<0→¬Bears l1 l2):=fun hz hb=>by
    have:=hb q HQ.out HNE.out
    rw [←HT.out] at this;omega
   have HY:Hid (0≤wrap64 (wrap64 (cnt l1 q)+t)→∀ e∈es++[(q,t)],0≤wrap64 (wrap64 (cnt l1 e.1)+wrap64 (cnt l2 e.1))):=fun hz e he=>by
    rcases List.mem_append.1 he with he | he
    ·exact hall.out e he
    ·simp at he;subst he;rw [←HT.out];exact hz
   have HA:Hid (BRng (w2.alloc (.cells (rowA q) 154)) b w.heap.size l2 (es++[(q,t)]) k2):=HR2.out.kept ((Kept.refl No _).alloc _) (fun e=>e) (fun e=>e)
   have HG:Hid ((w2.alloc (.cells (rowA q) 154)).heap[w2.heap.size]? =some (.cells (rowA q) 154 (0,0))):=heap_alloc_last _ _;clear hq hr2 hk2 ht htn hsz
   rcases HV2.out with ⟨e,hl⟩ | ⟨b1,e,hb1⟩
   ·injection e with e
    subst e hl;have hz0:wrap64 (cnt [] q)=0:=wrap64_zero;rw [hz0,Int.zero_add] at HN HY
    by_cases hz:wrap64 t<0
    ·have HZ:=hid (HN.out hz)
     go_wp2_with (first
      | (refine store_row_new _ _ _ rfl rfl w2 _ rfl rfl rfl q rfl ?_)
      | (refine load_row _ rfl rfl w2.heap.size rfl q HG.out ?_)
      | (at_lookup;refine wpList_lookup_nil _ rowKE rfl _ _ 83 2 rfl Tryz.underlying83 _ (zero64 _) rfl q HQ.out rfl ?_)
      | fail)
     go_ret
     exact ⟨false,⟨fun h=>(by cases h),fun h=>absurd h HZ.out⟩,rfl,HK2.out.alloc _⟩
    ·have HZ:=hid (HY.out (by omega))
     have hz2:0≤wrap64 t:=by omega
     go_wp2_with (first
      | (refine store_row_new _ _ _ rfl rfl w2 _ rfl rfl rfl q rfl ?_)
      | (refine load_row _ rfl rfl w2.heap.size rfl q HG.out ?_)
      | (at_lookup;refine wpList_lookup_nil _ rowKE rfl _ _ 83 2 rfl Tryz.underlying83 _ (zero64 _) rfl q HQ.out rfl ?_)
      | fail)
     go_roundg k2
     case measure=>exact hlt
     case rel=>exact ⟨es++[(q,t)],HZ,HA,HK2.out.alloc _⟩
   ·injection e with e
    subst e;have HM1:Hid (MapIs 154 aggR ROk (w2.alloc (.cells (rowA q) 154)) b1 (bagM l1)):=hb1.2.of_block (Below.heap_alloc _ _ _ hb1.lt);clear hb1
    by_cases hz:wrap64 (wrap64 (cnt l1 q)+t)<0
    ·have HZ:=hid (HN.out hz)
     go_wp2_with (first
      | (refine store_row_new _ _ _ rfl rfl w2 _ rfl rfl rfl q rfl ?_)
      | (refine load_row _ rfl rfl w2.heap.size rfl q HG.out ?_)
      | (at_lookup;refine wpList_lookup_map _ rowKE rfl _ _ 83 2 rfl Tryz.underlying83 _ (zero64 _) b1 (bagM l1) rfl HM1.out q HQ.out rfl _ (bagM_get l1 q) ?_)
      | fail)
     go_ret
     exact ⟨false,⟨fun h=>(by cases h),fun h=>absurd h HZ.out⟩,rfl,HK2.out.alloc _⟩
    ·have HZ:=hid (HY.out (by omega))
     have hz2:0≤wrap64 (wrap64 (cnt l1 q)+t):=by omega
     go_wp2_with (first
      | (refine store_row_new _ _ _ rfl rfl w2 _ rfl rfl rfl q rfl ?_)
      | (refine load_row _ rfl rfl w2.heap.size rfl q HG.out ?_)
      | (at_lookup;refine wpList_lookup_map _ rowKE rfl _ _ 83 2 rfl Tryz.underlying83 _ (zero64 _) b1 (bagM l1) rfl HM1.out q HQ.out rfl _ (bagM_get l1 q) ?_)
      | fail)
     go_roundg k2
     case measure=>exact hlt
     case rel=>exact ⟨es++[(q,t)],HZ,HA,HK2.out.alloc _⟩
set_option linter.unusedSimpArgs false
open Go.RowKit Go.Shelf
open Mo (V Row Bag cnt canon ty)
def chg (trs:List TRec) (os:List Ord) (i:Nat):Bag:=((os.filter fun o=>decide (tix trs o.name=(i:Int))).map fun o=>(o.row,o.t)).reverse
theorem chg_hit {trs:List TRec} {os:List Ord} {o:Ord} {i:Nat} (h:tix trs o.name=(i:Int)):chg trs (os++[o]) i=(o.row,o.t)::chg trs os i:=by simp [chg,h]
theorem chg_miss {trs:List TRec} {os:List Ord} {o:Ord} {i:Nat} (h:tix trs o.name≠(i:Int)):chg trs (os++[o]) i=chg trs os i:=by simp [chg,h]
theorem chg_len (trs:List TRec) (os:List Ord) (i:Nat):(chg trs os i).length≤os.length:=by
 simp only [chg,List.length_reverse,List.length_map];exact List.length_filter_le _ _
theorem canon_len (l:Bag):(canon l).length≤l.length:=by have:=Mo.canon_append_len l [];simpa [Mo.canon] using this
structure BagsAt (w:World) (v:Value) (base:Nat) (ms:List Nat) (f:Nat→Bag):Prop where
 at_:∃ g,v=.slice (some ⟨g,0,none⟩) ms.length ms.length∧base≤g∧(∃ c,w.heap[g]? =some (.cells c 83 (0,0))∧c.size=ms.length∧∀ (i b:Nat),ms[i]? =some b→c[i]? =some (Value.map (some b)))
 nodup:ms.Nodup
 ge:∀ b∈ms,base≤b
 bag:∀ (i b:Nat),ms[i]? =some b→BagAt w b (f i)
def ChEnd (w:World) (trs:List TRec) (os:List Ord) (rv:Value) (w':World):Prop:=∃ ms:List Nat,ms.length=trs.length∧BagsAt w' rv w.heap.size ms (chg trs os)∧Kept No w w'
theorem nodup_at {α:Type}:∀ {l:List α} {i j:Nat} {x:α},l.Nodup→l[i]? =some x→l[j]? =some x→i=j:=by
 intro l i j x h hi hj;obtain ⟨h1,e1⟩:=List.getElem?_eq_some_iff.1 hi;obtain ⟨h2,e2⟩:=List.getElem?_eq_some_iff.1 hj
 rcases Nat.lt_trichotomy i j with hl | hl | hl
 ·exact absurd (e1.trans e2.symm) (List.pairwise_iff_getElem.1 h i j h1 h2 hl)
 ·exact hl
 ·exact absurd (e2.trans e1.symm) (List.pairwise_iff_getElem.1 h j i h2 h1 hl)
theorem infoBg:(Tryz.prog.info? 83).map (fun i=>(i.zero,i.size,i.bytes))=some (some (.map none),1,8):=by kernel_rfl
theorem changes_any (v ov:Value) (trs:List TRec) (xs:List (Value × Ord)) (w:World) (h:TRs w v trs) (ho:OrdsR w ov xs) (hl:trs.length≤1000) (hx:xs.length≤1000) (hok:∀ x∈xs,ROk x.2.row∧1≤x.2.row.length) (hth:(xs.map (·.2)).all (there trs)=true) :
 Calls Tryz.prog 45 #[v,ov] w fun e w'=>∃ rv,e=.returned rv∧ChEnd w trs (xs.map (·.2)) rv w':=by
 have H:=hid h;have HO:=hid ho;have HOk:=hid hok;have HTh:=hid hth;obtain ⟨⟨ta,tcap,rfl,htc,htm,-⟩,-⟩:=h;obtain ⟨oa,ocap,rfl,hoc,hom,-⟩:=ho;obtain ⟨n,hn⟩:∃ n,xs.length=n:=⟨_,rfl⟩
 obtain ⟨m,hm⟩:∃ m,(trs.map fun t=>(t.blk,t.name)).length=m:=⟨_,rfl⟩
 have HN:=hid hn;have HM:=hid hm;rw [hn] at HO hoc hx ⊢;rw [hm] at H htc ⊢
 have hml:m≤1000:=by rw [←hm];simpa using hl
 clear hn hm hok hl hth
 have hoc3:ocap≤9223372036854775807:=by unfold maxLen at hom;omega
 have htc3:tcap≤9223372036854775807:=by unfold maxLen at htm;omega
 clear hom htm;obtain ⟨ib,hib,hb0,hb1,hb2⟩:=info_parts infoBg
 obtain ⟨wm,hrun,hownm,hgm⟩:=run_make_full (P:=Tryz.prog) w w.heap.size 98 83 ib (.map none) 1 Tryz.underlying98 hib hb0 hb1 .i64 .i64 m (by rw [hb2];omega) (by unfold maxLen;omega) (Nat.le_refl _)
 obtain ⟨cm,hcm,hcs⟩:∃ c,wm.heap[w.heap.size]? =some (.cells c 83 (0,0))∧c.size=m:=by
  rcases hownm.2 with ⟨h',_⟩ | ⟨g',cap',cur,h',_,hg,_,_,h3,_⟩
  ·cases h'
  ·injection h' with e1 e2 e3
   injection e1 with e1
   injection e1 with e1
   subst e1
   exact ⟨cur,hg,by omega⟩
 have HCm:=hid hcm
 have HKm:Hid (Kept No w wm):=(Kept.refl _ _).grown hgm (fun r e=>by cases e)
 have hmm:=@run_makeMap Tryz.prog;clear hownm hgm hcm
 go_enter Tryz.func45,Tryz.ntmps45
 go_wp2_with fail
 go_loopg [14] m (fun k v14 wr=>∃ (i:Nat) (c:Array Value) (ms:List Nat),i+k=m∧v14=.int .i64 (i:Int)∧ms.length=i∧c.size=m∧Hid (wr.heap[w.heap.size]? =some (.cells c 83 (0,0)))∧Hid (∀ (j b:Nat),ms[j]? =some b→c[j]? =some (Value.map (some b)))∧Hid (ms.Nodup∧∀ b∈ms,w.heap.size≤b∧BagAt wr b [])∧Kept No w wr)
 case atStart=>exact ⟨0,cm,[],by omega,rfl,rfl,hcs,HCm,hid (by simp),hid (by simp),HKm.out⟩
 case round =>
  obtain ⟨i,c,ms,hik,rfl,hms,hcs1,hC,hMs,hBs,hK⟩:=hrel
  by_cases hk:gk=0
  ·subst hk
   have him:m=i:=by omega
   subst him;clear hik
   have hx:¬(m:Int)<(m:Int):=by omega
   have HB0:Hid (BagsAt wr (.slice (some ⟨w.heap.size,0,none⟩) m m) w.heap.size ms (chg trs ((xs.map (·.2)).take 0))):=by
    have hmi:ms.length=m:=by omega
    refine ⟨⟨w.heap.size,by rw [hmi],Nat.le_refl _,c,hC.out,by omega,hMs.out⟩,hBs.out.1,fun b hb=>(hBs.out.2 b hb).1,fun j b hj=>(hBs.out.2 b (List.mem_of_getElem? hj)).2⟩
   have hmi:Hid (ms.length=m):=by show _=_;omega
   have HK0:=hid hK;clear hK hC hMs hBs hms hcs1 hcs;go_wp2_with fail;clear hx
   go_loopg [24] n (fun k v24 wi=>∃ i:Nat,i+k=n∧v24=.int .i64 (i:Int)∧Hid (BagsAt wi (.slice (some ⟨w.heap.size,0,none⟩) m m) w.heap.size ms (chg trs ((xs.map (·.2)).take i)))∧Kept No w wi)
   case atStart=>exact ⟨0,by omega,rfl,HB0,HK0.out⟩
   case round =>
    obtain ⟨j,hjk,rfl,hS,hK⟩:=hrel
    by_cases hk:gk=0
    ·subst hk
     have hx:¬(j:Int)<(n:Int):=by omega
     have HR:Hid (BagsAt wr (.slice (some ⟨w.heap.size,0,none⟩) m m) w.heap.size ms (chg trs (xs.map (·.2)))):=by
      have h1:=hS.out
      rw [show j=(xs.map (·.2)).length by rw [List.length_map,HN.out];omega,List.take_length] at h1
      exact h1
     have HK:=hid hK;clear hK;go_wp2_with fail;go_ret
     exact ⟨_,rfl,ms,by rw [hmi.out,←HM.out];simp,HR.out,HK.out⟩
    ·obtain ⟨k,rfl⟩:∃ k,gk=k+1:=⟨gk-1,by omega⟩
     have hx:(j:Int)<(n:Int):=by omega
     have hx0:(0:Int)≤(j:Int):=by omega
     obtain ⟨x,hxi⟩:∃ x,xs[j]? =some x:=⟨_,List.getElem?_eq_getElem (by have:=HN.out;omega)⟩
     have hO:OrdsR w (.slice oa xs.length ocap) xs:=by have:=HO.out;rw [←HN.out] at this;exact this
     obtain ⟨_,_,e0,_,_,hcells⟩:=hO.keptNo hK
     injection e0 with e1 e2 e3
     subst e1;obtain ⟨g,p,pn,pc,rfl,hg,hxe,c0,c1,c2,hr⟩:=hcells j x hxi
     have hth:0≤tix trs x.2.name:=by
      have:=List.all_eq_true.1 HTh.out x.2 (List.mem_map.2 ⟨x,List.mem_of_getElem? hxi,rfl⟩)
      simpa [there] using this
     obtain ⟨q,hq⟩:∃ q:Nat,tix trs x.2.name=q:=⟨(tix trs x.2.name).toNat,by omega⟩
     obtain ⟨t,htq,htn⟩:=tix_at hq
     have hqm:(q:Int)<(m:Int):=by
      have:=(List.getElem?_eq_some_iff.1 htq).1
      have h2:=HM.out;rw [List.length_map] at h2;omega
     have hq0:(0:Int)≤(q:Int):=by omega
     have hok:=HOk.out x (List.mem_of_getElem? hxi)
     have HQ:=hid hq;have HTQ:=hid htq;have HXI:=hid hxi;have HK:=hid hK;have HR0:=hid hr;have HOX:=hid hok;have HKa:Hid (Kept No w (wr.alloc (.cells #[.string ⟨x.2.name.toArray⟩,.slice p pn pc,.int .i64 x.2.t] 164))):=HK.out.alloc _;have HKb:Hid (Kept No wr (wr.alloc (.cells #[.string ⟨x.2.name.toArray⟩,.slice p pn pc,.int .i64 x.2.t] 164))):=(Kept.refl _ _).alloc _;clear hK hcells hO e2 e3 hth hq htq htn hxi hr hok;go_wp2_with fail;obtain ⟨W0,hW0⟩:∃ W0,wr.alloc (.cells #[.string ⟨x.2.name.toArray⟩,.slice p pn pc,.int .i64 x.2.t] 164)=W0:=⟨_,rfl⟩
     have hn0:W0.heap[wr.heap.size]? =some (.cells #[.string ⟨x.2.name.toArray⟩,.slice p pn pc,.int .i64 x.2.t] 164 (0,0)):=by rw [←hW0];exact (MapKept.heap_alloc wr _).1
     rw [hW0] at HKa HKb;rw [hW0];obtain ⟨⟨g0,ge,hgb,cb,hcb,hcbs,hcbm⟩,hnd,hge,hbag⟩:=hS.out
     injection ge with ge gm1 gm2
     injection ge with ge
     injection ge with ge
     subst ge;clear gm1 gm2
     obtain ⟨b,hb⟩:∃ b,ms[q]? =some b:=⟨_,List.getElem?_eq_getElem (by have:=hmi.out;omega)⟩
     have HBag:Hid (∀ (i b:Nat),ms[i]? =some b→BagAt W0 b (chg trs ((xs.map (·.2)).take j) i)):=fun i b h=>(hbag i b h).kept HKb.out (fun z=>z)
     have hcb0:W0.heap[w.heap.size]? =some (.cells cb 83 (0,0)):=(HKb.out.block _ (lt_of_heap hcb) (fun z=>z)).trans hcb
     have HCB:=hid hcb0;have HCBM:=hid hcbm;have HCBS:=hid hcbs;have HND:=hid hnd;have HGE:=hid hge;have HB:=hid hb
     have HBG:Hid (w.heap.size≤b):=hge b (List.mem_of_getElem? hb)
     have d0:=cell_of hn0 0;have d1:=cell_of hn0 1;have d2:=cell_of hn0 2;simp only [List.getElem?_toArray,List.getElem?_cons_zero,List.getElem?_cons_succ] at d0 d1 d2;have d3:W0.cell? ⟨w.heap.size,q,none⟩=some (.map (some b)):=(cell_of hcb0 q).trans (hcbm q b hb);have hBx:=lt_of_heap hn0;have hBg:=lt_of_heap hcb0;have HR1:Hid (RowAt W0 (.slice p pn pc) x.2.row):=HR0.out.keptNo HKb.out
     have HTI:Hid (tfind (trs.map fun t=>(t.blk,t.name)) x.2.name=(q:Int)):=HQ.out
     have hbW:Hid (b<W0.heap.size):=(HBag.out q b hb).lt
     have hbne1:b≠w.heap.size:=by rintro rfl;exact (HBag.out q _ hb).notIs 83 ⟨_,_,hcb0⟩
     have hbne2:b≠wr.heap.size:=by rintro rfl;exact (HBag.out q _ hb).notIs 164 ⟨_,_,hn0⟩
     have HL:Hid ((canon (chg trs ((xs.map (·.2)).take j) q)).length<maxLen):=by
      show _<_
      have h1:=canon_len (chg trs ((xs.map (·.2)).take j) q)
      have h2:=chg_len trs ((xs.map (·.2)).take j) q
      have h3:((xs.map (·.2)).take j).length≤j:=List.length_take_le _ _
      unfold maxLen;omega
     obtain ⟨cq,hcq⟩:∃ cq,rowA x.2.row=cq:=⟨_,rfl⟩
     have HAND:Hid (∀ w',Kept No W0 w'→Calls Tryz.prog 80 #[.agg #[.int .i64 0,.int .i32 0,.int .u8 0,.int .u8 0,.int .u8 0,.int .u8 0,.int .i64 0,.int .i32 0,.int .u8 0,.int .u8 0,.int .u8 0,.int .u8 0,.int .i64 0,.int .i32 0,.int .u8 0,.int .u8 0,.int .u8 0,.int .u8 0,.int .i64 0,.int .i32 0,.int .u8 0,.int .u8 0,.int .u8 0,.int .u8 0,.int .i64 0,.int .i32 0,.int .u8 0,.int .u8 0,.int .u8 0,.int .u8 0,.int .i64 0,.int .i32 0,.int .u8 0,.int .u8 0,.int .u8 0,.int .u8 0,.int .i64 0],.slice p pn pc] w' fun e w''=>e=.returned (.agg cq)∧Kept No w' w''):=by
      refine hid ?_;intro w' hk;subst hcq
      exact and_any [] x.2.row (.slice p pn pc) w' (HR1.out.keptNo hk).src HOX.out.2 (by have:=HOX.out.1.1;simp;omega)
     have HADD:Hid (∀ w',Kept No W0 w'→Calls Tryz.prog 79 #[.map (some b),.agg cq,.int .i64 x.2.t] w' fun e w''=>e=.returned (.tuple #[])∧BagAt w'' b ((x.2.row,x.2.t)::chg trs ((xs.map (·.2)).take j) q)∧Kept (·=b) w' w''):=by
      refine hid ?_;intro w' hk;subst hcq
      exact add_any b _ x.2.row x.2.t w' ((HBag.out q b HB.out).kept hk (fun z=>z)) HOX.out.1 HL.out
     clear hgb hcb hcbs hcbm hnd hge hbag hcb0 hW0 hn0 hb hcq;have hS0:W0.cell? ⟨wr.heap.size,0,none⟩=some (.string ⟨x.2.name.toArray⟩)∧W0.cell? ⟨wr.heap.size,1,none⟩=some (.slice p pn pc)∧W0.cell? ⟨wr.heap.size,2,none⟩=some (.int .i64 x.2.t)∧W0.cell? ⟨w.heap.size,q,none⟩=some (.map (some b)):=⟨d0,d1,d2,d3⟩;have HSS:=hid hS0
     have HFD:=hid (find_any _ _ x.2.name _ (H.out.1.kept HKa.out.drew) (by rw [HM.out];exact hml))
     rw [HTI.out] at HFD;clear hS0 d0 d1 d2 d3
     refine wp_region_held_drew (S:=fun w'=>w'.cell? ⟨wr.heap.size,0,none⟩=some (.string ⟨x.2.name.toArray⟩)∧w'.cell? ⟨wr.heap.size,1,none⟩=some (.slice p pn pc)∧w'.cell? ⟨wr.heap.size,2,none⟩=some (.int .i64 x.2.t)∧w'.cell? ⟨w.heap.size,q,none⟩=some (.map (some b))) (by kernel_rfl) HSS.out (fun hHeld=> ?_)
     refine tk_P 0 (.slice (some ⟨w.heap.size,0,none⟩) m m) hHeld ?_;try simp only [Act.put,n_1,n_2,n_3,n_4,n_5,n_6]
     refine tk_P 1 (.slice ta m tcap) hHeld ?_;try simp only [Act.put,n_1,n_2,n_3,n_4,n_5,n_6]
     refine tk_P 2 (.pointer (some ⟨wr.heap.size,0,none⟩)) hHeld ?_;try simp only [Act.put,n_1,n_2,n_3,n_4,n_5,n_6]
     refine tk_C 3 (.string ⟨x.2.name.toArray⟩) 9 (.tmp 30) (wr.heap.size) (0) (fun w h=>h.1) hHeld ?_
     try simp only [Act.put,n_1,n_2,n_3,n_4,n_5,n_6]
     refine tk_P 7 (.agg #[.int .i64 0,.int .i32 0,.int .u8 0,.int .u8 0,.int .u8 0,.int .u8 0,.int .i64 0,.int .i32 0,.int .u8 0,.int .u8 0,.int .u8 0,.int .u8 0,.int .i64 0,.int .i32 0,.int .u8 0,.int .u8 0,.int .u8 0,.int .u8 0,.int .i64 0,.int .i32 0,.int .u8 0,.int .u8 0,.int .u8 0,.int .u8 0,.int .i64 0,.int .i32 0,.int .u8 0,.int .u8 0,.int .u8 0,.int .u8 0,.int .i64 0,.int .i32 0,.int .u8 0,.int .u8 0,.int .u8 0,.int .u8 0,.int .i64 0]) hHeld ?_;try simp only [Act.put,n_1,n_2,n_3,n_4,n_5,n_6]
     refine tk_P 8 (.pointer (some ⟨wr.heap.size,1,none⟩)) hHeld ?_;try simp only [Act.put,n_1,n_2,n_3,n_4,n_5,n_6]
     refine tk_C 9 (.slice p pn pc) 162 (.tmp 36) (wr.heap.size) (1) (fun w h=>h.2.1) hHeld ?_
     try simp only [Act.put,n_1,n_2,n_3,n_4,n_5,n_6]
     refine tk_P 11 (.pointer (some ⟨wr.heap.size,2,none⟩)) hHeld ?_;try simp only [Act.put,n_1,n_2,n_3,n_4,n_5,n_6]
     refine tk_C 12 (.int .i64 x.2.t) 2 (.tmp 39) (wr.heap.size) (2) (fun w h=>h.2.2.1) hHeld ?_
     try simp only [Act.put,n_1,n_2,n_3,n_4,n_5,n_6]
     refine tk_S 4 (fun K hK=> ?_)
     go_simp;refine HFD.out.mono ?_;rintro e w1 ⟨rfl,hk1⟩
     have hS1:w1.cell? ⟨wr.heap.size,0,none⟩=some (.string ⟨x.2.name.toArray⟩)∧w1.cell? ⟨wr.heap.size,1,none⟩=some (.slice p pn pc)∧w1.cell? ⟨wr.heap.size,2,none⟩=some (.int .i64 x.2.t)∧w1.cell? ⟨w.heap.size,q,none⟩=some (.map (some b)):=⟨(hk1.cell hBx (fun z=>z)).trans HSS.out.1,(hk1.cell hBx (fun z=>z)).trans HSS.out.2.1,(hk1.cell hBx (fun z=>z)).trans HSS.out.2.2.1,(hk1.cell hBg (fun z=>z)).trans HSS.out.2.2.2⟩
     have HK1:=hid (((Kept.refl No W0).drew).seq hk1);have hs1:W0.heap.size≤w1.heap.size:=hk1.size
     refine hK.out _ _ hS1 (fun hHeld=> ?_)
     clear hK K hk1 HFD;try simp only [Act.put,n_1,n_2,n_3,n_4,n_5,n_6]
     refine tk_P 5 (.pointer (some ⟨w.heap.size,q,none⟩)) hHeld ?_;try simp only [Act.put,n_1,n_2,n_3,n_4,n_5,n_6]
     refine tk_C 6 (.map (some b)) 83 (.tmp 33) (w.heap.size) (q) (fun w h=>h.2.2.2) hHeld ?_
     try simp only [Act.put,n_1,n_2,n_3,n_4,n_5,n_6]
     refine tk_S 10 (fun K hK=> ?_)
     go_simp;refine (HAND.out _ HK1.out).mono ?_;rintro e w1b ⟨rfl,hk1b⟩
     have hS2:w1b.cell? ⟨wr.heap.size,0,none⟩=some (.string ⟨x.2.name.toArray⟩)∧w1b.cell? ⟨wr.heap.size,1,none⟩=some (.slice p pn pc)∧w1b.cell? ⟨wr.heap.size,2,none⟩=some (.int .i64 x.2.t)∧w1b.cell? ⟨w.heap.size,q,none⟩=some (.map (some b)):=⟨(hk1b.cell (Nat.lt_of_lt_of_le hBx hs1) (fun z=>z)).trans hS1.1,(hk1b.cell (Nat.lt_of_lt_of_le hBx hs1) (fun z=>z)).trans hS1.2.1,(hk1b.cell (Nat.lt_of_lt_of_le hBx hs1) (fun z=>z)).trans hS1.2.2.1,(hk1b.cell (Nat.lt_of_lt_of_le hBg hs1) (fun z=>z)).trans hS1.2.2.2⟩
     have HK1b:=hid (HK1.out.seq hk1b);have hs1b:w1.heap.size≤w1b.heap.size:=hk1b.size
     refine hK.out _ _ hS2 (fun hHeld=> ?_)
     clear hK K hk1b HAND;try simp only [Act.put,n_1,n_2,n_3,n_4,n_5,n_6]
     refine tk_S 13 (fun K hK=> ?_)
     go_simp;refine (HADD.out _ HK1b.out).mono ?_;rintro e w2 ⟨rfl,hbag2,hk2⟩;have hS3:w2.cell? ⟨wr.heap.size,0,none⟩=some (.string ⟨x.2.name.toArray⟩)∧w2.cell? ⟨wr.heap.size,1,none⟩=some (.slice p pn pc)∧w2.cell? ⟨wr.heap.size,2,none⟩=some (.int .i64 x.2.t)∧w2.cell? ⟨w.heap.size,q,none⟩=some (.map (some b)):=⟨(hk2.cell (Nat.lt_of_lt_of_le (Nat.lt_of_lt_of_le hBx hs1) hs1b) (Ne.symm hbne2)).trans hS2.1,(hk2.cell (Nat.lt_of_lt_of_le (Nat.lt_of_lt_of_le hBx hs1) hs1b) (Ne.symm hbne2)).trans hS2.2.1,(hk2.cell (Nat.lt_of_lt_of_le (Nat.lt_of_lt_of_le hBx hs1) hs1b) (Ne.symm hbne2)).trans hS2.2.2.1,(hk2.cell (Nat.lt_of_lt_of_le (Nat.lt_of_lt_of_le hBg hs1) hs1b) (Ne.symm hbne1)).trans hS2.2.2.2⟩;have HB2:=hid hbag2;have HK2:=hid hk2
     refine hK.out _ _ hS3 (fun hHeld=> ?_)
     clear hK K hk2 hbag2 HADD;try simp only [Act.put,n_1,n_2,n_3,n_4,n_5,n_6]
     refine wpAnyH_done (by kernel_rfl) ?_ _
     clear hHeld hS1 hS2 hS3 HSS;try simp only [Act.put,n_1,n_2,n_3,n_4,n_5,n_6]
     have HS2:Hid (BagsAt w2 (.slice (some ⟨w.heap.size,0,none⟩) m m) w.heap.size ms (chg trs ((xs.map (·.2)).take (j+1)))):=by
      have hstep:(xs.map (·.2)).take (j+1)=(xs.map (·.2)).take j++[x.2]:=by rw [List.take_add_one,List.getElem?_map,HXI.out];rfl
      have hk12:Kept (·=b) W0 w2:=HK1b.out.noSeq HK2.out
      have hmi':ms.length=m:=hmi.out
      refine ⟨⟨w.heap.size,by rw [hmi'],Nat.le_refl _,cb,(hk12.block _ hBg (Ne.symm hbne1)).trans HCB.out,?_,HCBM.out⟩,HND.out,HGE.out,fun i b' hi=> ?_⟩
      ·exact HCBS.out
      ·rw [hstep]
       by_cases hiq:i=q
       ·subst hiq
        have hbb:b'=b:=by have:=hi.symm.trans HB.out;injection this
        subst hbb;rw [chg_hit HQ.out];exact HB2.out
       ·rw [chg_miss (by rw [HQ.out];omega)]
        refine (HBag.out i b' hi).kept hk12 ?_;rintro rfl;exact hiq (nodup_at HND.out hi HB.out)
     have HK3:Hid (Kept No w w2):=by
      refine (HKa.out.seq HK1b.out).trans HK2.out (fun _ z=>z) (fun i hi z=> ?_)
      subst z
      have:=HBG.out
      omega
     clear HK1 HK1b HK2 HB2;go_wp2_with fail;go_roundg k
     case measure=>omega
     case rel=>exact ⟨j+1,by omega,by go_num,HS2,HK3.out⟩
  ·obtain ⟨k,rfl⟩:∃ k,gk=k+1:=⟨gk-1,by omega⟩
   have hx:(i:Int)<(m:Int):=by omega
   have hx0:(0:Int)≤(i:Int):=by omega
   have HK:=hid hK;have hgl:=lt_of_heap hC.out
   have q0:(wr.alloc (.map #[] 0)).cell? ⟨w.heap.size,i,none⟩=some c[i]:=by rw [cell_of ((Below.heap_alloc _ _ _ hgl).trans hC.out),Array.getElem?_eq_getElem (by omega)]
   have q1:(wr.alloc (.map #[] 0)).frozen? ⟨w.heap.size,i,none⟩=false:=frozen_of ((Below.heap_alloc _ _ _ hgl).trans hC.out) i;have hsz:=hK.size;clear hK;go_wp2_with fail;go_roundg k
   case measure=>omega
   case rel =>
    obtain ⟨W1,hW1⟩:∃ W1,wr.setCell ⟨w.heap.size,i,none⟩ (.map (some wr.heap.size))=W1:=⟨_,rfl⟩
    have hz1:W1.heap.size=wr.heap.size:=by rw [←hW1];simp [World.setCell]
    have h1:W1.heap[w.heap.size]? =some (.cells (c.setIfInBounds i (.map (some wr.heap.size))) 83 (0,0)):=by rw [←hW1];exact heap_set hC.out i _
    have hk1:Kept (·=w.heap.size) wr W1:=by rw [←hW1];exact (Kept.refl (·=w.heap.size) wr).setCell (g:=w.heap.size) (.inr rfl) _
    have hkw:Kept No w W1:=by rw [←hW1];exact HK.out.setCell (.inl (Nat.le_refl _)) _
    rw [hW1]
    refine ⟨i+1,c.setIfInBounds i (.map (some wr.heap.size)),ms++[wr.heap.size],by omega,by go_num,by simp [hms],by simp [hcs1],(Below.heap_alloc _ _ _ (lt_of_heap h1)).trans h1,?_,?_,hkw.alloc _⟩
    ·intro j b hj
     rw [Array.getElem?_setIfInBounds]
     by_cases hji:j<ms.length
     ·rw [List.getElem?_append_left hji] at hj
      rw [if_neg (by omega)];exact hMs.out j b hj
     ·rw [List.getElem?_append_right (by omega)] at hj
      have hl:=(List.getElem?_eq_some_iff.1 hj).1
      simp at hl
      have hj0:j=i:=by omega
      subst hj0
      have:b=wr.heap.size:=by simpa [hms] using hj.symm
      rw [if_pos rfl,if_pos (by omega),this]
    ·refine ⟨?_,fun b hb=> ?_⟩
     ·rw [List.nodup_append]
      refine ⟨hBs.out.1,by simp,fun x hx y hy=> ?_⟩
      simp at hy;subst hy
      have:=(hBs.out.2 x hx).2.lt
      omega
     ·rcases List.mem_append.1 hb with hb | hb
      ·obtain ⟨h3,h2⟩:=hBs.out.2 b hb
       refine ⟨h3,h2.kept (hk1.alloc _) ?_⟩;rintro rfl;exact h2.notIs 83 ⟨c,_,hC.out⟩
      ·simp at hb;subst hb
       refine ⟨hsz,?_⟩
       have:=BagAt.made W1
       rw [hz1] at this;exact this
open Mo (V Row Bag cnt canon colR vlt rlt lexlt)
theorem rcmp_cons (x y:V) (s t:Row):rcmp (x::s) (y::t)=if vcmp x y=0 then rcmp s t else vcmp x y:=by
 unfold rcmp rlt;simp only [lexlt]
 by_cases h:x=y
 ·subst h
  have:vcmp x x=0:=(vcmp_eq x x).2 rfl
  simp [this]
 ·have h':¬y=x:=fun e=>h e.symm
  have hv:¬vcmp x y=0:=fun e=>h ((vcmp_eq x y).1 e)
  rw [if_neg hv]
  simp [h,h',vcmp]
theorem rcmp_drop {a b:Row} {i:Nat} (ha:i<a.length) (hb:i<b.length):rcmp (a.drop i) (b.drop i)=if vcmp (colR a i) (colR b i)=0 then rcmp (a.drop (i+1)) (b.drop (i+1)) else vcmp (colR a i) (colR b i):=by
 have e1:a[i]=colR a i:=by have:=colR_get ha;rw [List.getElem?_eq_getElem ha] at this;simpa using this
 have e2:b[i]=colR b i:=by have:=colR_get hb;rw [List.getElem?_eq_getElem hb] at this;simpa using this
 rw [List.drop_eq_getElem_cons ha,List.drop_eq_getElem_cons hb,rcmp_cons,e1,e2]
theorem ty_colR {a b:Row} (h:a.map Mo.ty=b.map Mo.ty) {i:Nat} (ha:i<a.length):Mo.ty (colR a i)=Mo.ty (colR b i):=by
 have hl:a.length=b.length:=by have:=congrArg List.length h;simpa using this
 have h1:=congrArg (fun l=>l[i]?) h
 simp only [List.getElem?_map] at h1
 rw [colR_get ha,colR_get (by omega)] at h1
 simpa using h1
theorem cmpRows_any (a b:Row) (ha:ROk a) (hb:ROk b) (hab:a.map Mo.ty=b.map Mo.ty) (w:World) :
 Calls Tryz.prog 70 #[.agg (rowA a),.agg (rowA b)] w fun e w'=>e=.returned (.int .i64 (rcmp a b))∧Gr w w':=by
 have hl:a.length=b.length:=by have:=congrArg List.length hab;simpa using this
 have hl6:=ha.1;obtain ⟨W,hW⟩:∃ W,(w.alloc (.cells (rowA a) 154)).alloc (.cells (rowA b) 154)=W:=⟨_,rfl⟩
 have h0:W.heap[w.heap.size]? =some (.cells (rowA a) 154 (0,0)):=by rw [←hW];exact heap_alloc2_old _ _ _
 have h1:W.heap[w.heap.size+1]? =some (.cells (rowA b) 154 (0,0)):=by rw [←hW];exact heap_alloc2_new _ _ _
 have HG:Hid (Gr w W):=by rw [←hW];exact ((Gr.refl w).alloc _).alloc _
 have d0:W.cell? ⟨w.heap.size,0,none⟩=some (.int .i64 (a.length:Int)):=by rw [cell_of h0];exact rowA_width a
 have HA:=hid ha;have HB:=hid hb;have HT:=hid hab;have H0:=hid h0;have H1:=hid h1;obtain ⟨n,hn⟩:∃ n,a.length=n:=⟨_,rfl⟩;have HN:=hid hn
 have HNB:Hid (b.length=n):=by show _=_;omega
 rw [hn] at d0 hl6;clear ha hb hab h0 h1 hl hn
 go_enter Tryz.func70,Tryz.ntmps70
 go_wp2_with (first
  | (rw [hW])
  | fail)
 go_loopg [9] n (fun k v9 wr=>∃ i:Nat,i+k=n∧v9=.int .i64 (i:Int)∧Hid (rcmp a b=rcmp (a.drop i) (b.drop i))∧Hid (Gr W wr))
 case atStart=>exact ⟨0,by omega,rfl,hid rfl,Gr.refl _⟩
 case round =>
  obtain ⟨i,hik,rfl,hrc,hg⟩:=hrel
  cases gk with
  | zero =>
    have hx:¬(i:Int)<(n:Int):=by omega
    have HR:Hid (rcmp a b=0):=by
     show _=_
     rw [hrc.out,List.drop_eq_nil_of_le (by have:=HN.out;omega),List.drop_eq_nil_of_le (by have:=HNB.out;omega)];rfl
    go_wp2_with fail;go_ret;exact ⟨ret_int HR.out.symm,HG.out.trans hg.out⟩
  | succ k =>
    have hx:(i:Int)<(n:Int):=by omega
    have hx0:(0:Int)≤(i:Int):=by omega
    have hx6:(i:Int)<6:=by omega
    have hi6:i<6:=by omega
    have hS:wr.heap[w.heap.size]? =some (.cells (rowA a) 154 (0,0))∧wr.heap[w.heap.size+1]? =some (.cells (rowA b) 154 (0,0)):=⟨(hg.out.kept.block _ (lt_of_heap H0.out) (fun e=>e)).trans H0.out,(hg.out.kept.block _ (lt_of_heap H1.out) (fun e=>e)).trans H1.out⟩
    have HSS:=hid hS
    have HD:=hid (rcmp_drop (a:=a) (b:=b) (i:=i) (by have:=HN.out;omega) (by have:=HNB.out;omega))
    have HC:Hid (∀ w',Calls Tryz.prog 120 #[aggV (colR a i),aggV (colR b i)] w' fun e w''=>e=.returned (.int .i64 (vcmp (colR a i) (colR b i)))∧Gr w' w''):=fun w'=>cmpV_any _ _ (colR_ok HA.out i) (colR_ok HB.out i) (ty_colR HT.out (by have:=HN.out;omega)) w'
    obtain ⟨xa,hxa⟩:∃ xa,aggV (colR a i)=xa:=⟨_,rfl⟩;obtain ⟨xb,hxb⟩:∃ xb,aggV (colR b i)=xb:=⟨_,rfl⟩
    have HY1:Hid (∀ w':World,w'.heap[w.heap.size]? =some (.cells (rowA a) 154 (0,0))→(loadVar 133 ⟨w.heap.size,1+i*6,none⟩).run Tryz.prog w'=.ok xa w'):=by
     subst hxa
     exact fun w' h=>run_load_val (cells_val h hi6)
    have HY2:Hid (∀ w':World,w'.heap[w.heap.size+1]? =some (.cells (rowA b) 154 (0,0))→(loadVar 133 ⟨w.heap.size+1,1+i*6,none⟩).run Tryz.prog w'=.ok xb w'):=by
     subst hxb
     exact fun w' h=>run_load_val (cells_val h hi6)
    rw [hxa,hxb] at HC;generalize vcmp (colR a i) (colR b i)=vc at HC HD;clear hS hxa hxb;go_wp2_with fail
    refine wp_region_held_drew (S:=fun w'=>w'.heap[w.heap.size]? =some (.cells (rowA a) 154 (0,0))∧w'.heap[w.heap.size+1]? =some (.cells (rowA b) 154 (0,0))) (by kernel_rfl) HSS.out (fun hHeld=> ?_)
    refine tk_P 0 (.int .i64 (i:Int)) hHeld ?_;try simp only [Act.put,n_1,n_2,n_3,n_4,n_5,n_6]
    refine tk_P 1 (.pointer (some ⟨w.heap.size,1,none⟩)) hHeld ?_;try simp only [Act.put,n_1,n_2,n_3,n_4,n_5,n_6]
    refine tk_P 2 (.pointer (some ⟨w.heap.size,1+i*6,none⟩)) hHeld ?_;try simp only [Act.put,n_1,n_2,n_3,n_4,n_5,n_6]
    refine tk_L 3 (xa) 133 (.tmp 14) (w.heap.size) (1+i*6) (fun w h=>HY1.out w h.1) hHeld ?_
    try simp only [Act.put,n_1,n_2,n_3,n_4,n_5,n_6]
    refine tk_P 4 (.int .i64 (i:Int)) hHeld ?_;try simp only [Act.put,n_1,n_2,n_3,n_4,n_5,n_6]
    refine tk_P 5 (.pointer (some ⟨w.heap.size+1,1,none⟩)) hHeld ?_;try simp only [Act.put,n_1,n_2,n_3,n_4,n_5,n_6]
    refine tk_P 6 (.pointer (some ⟨w.heap.size+1,1+i*6,none⟩)) hHeld ?_;try simp only [Act.put,n_1,n_2,n_3,n_4,n_5,n_6]
    refine tk_L 7 (xb) 133 (.tmp 18) (w.heap.size+1) (1+i*6) (fun w h=>HY2.out w h.2) hHeld ?_
    try simp only [Act.put,n_1,n_2,n_3,n_4,n_5,n_6]
    refine tk_S 8 (fun K hK=> ?_)
    go_simp;refine (HC.out _).mono ?_;rintro e w3 ⟨rfl,hg3⟩;have HG3:Hid (Gr W w3):=(hg.out.drew).trans hg3
    have hS3:w3.heap[w.heap.size]? =some (.cells (rowA a) 154 (0,0))∧w3.heap[w.heap.size+1]? =some (.cells (rowA b) 154 (0,0)):=⟨(HG3.out.kept.block _ (lt_of_heap H0.out) (fun e=>e)).trans H0.out,(HG3.out.kept.block _ (lt_of_heap H1.out) (fun e=>e)).trans H1.out⟩
    refine hK.out _ _ hS3 (fun hHeld=> ?_)
    clear hK K hg3;try simp only [Act.put,n_1,n_2,n_3,n_4,n_5,n_6]
    refine tk_P 9 (.int .i64 vc) hHeld ?_;try simp only [Act.put,n_1,n_2,n_3,n_4,n_5,n_6]
    refine wpAnyH_done (by kernel_rfl) ?_ _
    clear hHeld hS3 HC HY1 HY2 HSS;try simp only [Act.put,n_1,n_2,n_3,n_4,n_5,n_6]
    by_cases hz:vc=0
    ·have hz1:(vc != 0)=false:=by simp [hz]
     have HR:Hid (rcmp a b=rcmp (a.drop (i+1)) (b.drop (i+1))):=by show _=_;rw [hrc.out,HD.out,if_pos hz]
     clear hz;go_wp2_with fail;go_roundg k
     case measure=>omega
     case rel=>exact ⟨i+1,by omega,by go_num,HR,HG3⟩
    ·have hz1:(vc != 0)=true:=by simp [hz]
     have HR:Hid (rcmp a b=vc):=by show _=_;rw [hrc.out,HD.out,if_neg hz]
     clear hz;go_wp2_with fail;go_ret;exact ⟨ret_int HR.out.symm,HG.out.trans HG3.out⟩
end Go.Proofs.YtdinjjmcmfjbfaaGreatDoor
