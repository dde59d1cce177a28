import Derived.Test.YtdinjjmcmfjbfaaGreatDoorWxJ
import Derived.Test.YtdinjjmcmfjbfaaGreatDoorKtJ
import Derived.Lib.ItoaLen
import Derived.Test.YtdinjjmcmfjbfaaGreatDoorKpJ
import Derived.Laws.BytesString
import Derived.Test.YtdinjjmcmfjbfaaGreatDoorTyJ
import Derived.Test.YtdinjjmcmfjbfaaGreatDoorCzJ
set_option maxRecDepth 100000
set_option maxHeartbeats 4000000
namespace Go.Proofs.YtdinjjmcmfjbfaaGreatDoor
open Go.RowKit Go.Shelf
open Mo (V Row Bag cnt canon colR)
def rowIn:Nat→Row→List UInt8
 | _,[]=>[]
 | i,v::r=>(if i=0 then [] else [44])++(vText v++rowIn (i+1) r)
def rowTxt (r:Row):List UInt8:=40::(rowIn 0 r++[41])
theorem rowIn_snoc (r:Row) (v:V):∀ i,rowIn i (r++[v])=rowIn i r++((if i+r.length=0 then [] else [44])++vText v):=by
 induction r with
 | nil=>intro i;simp [rowIn]
 | cons x r ih=>intro i;simp [rowIn,ih,Nat.add_assoc,Nat.add_comm 1]
theorem TxtAt.snoc {w:World} {B:Nat} {v:Value} {t:List UInt8} {n:Nat} {c:UInt8} (h:w.ownsRow B 5 1 v (n+1) (Lib.byteCells t++[.int .u8 (c.toNat:Int)])) (hn:t.length=n):TxtAt w B v (t++[c]):=by
 show w.ownsRow B _ 1 v (t++[c]).length (Lib.byteCells (t++[c]))
 rw [List.length_append,Lib.byteCells_append,hn];exact h
theorem vText_len {v:V} (h:VOk v):(vText v).length≤21:=by
 cases v with
 | num n=>exact Lib.itoa_length_le n h.1 h.2
 | txt s=>have:=h.2.1;show s.length≤21;omega
theorem rowIn_take (r:Row) (i:Nat) (hi:i<r.length):rowIn 0 (r.take (i+1))=rowIn 0 (r.take i)++((if i=0 then [] else [44])++vText (colR r i)):=by
 have e:r.take (i+1)=r.take i++[colR r i]:=by
  rw [List.take_add_one,List.getElem?_eq_getElem hi];unfold colR
  simp [hi]
 rw [e,rowIn_snoc]
 have:(r.take i).length=i:=by rw [List.length_take];omega
 rw [this,Nat.zero_add]
theorem rowIn_len {r:Row} (h:ROk r):∀ i,i≤r.length→(rowIn 0 (r.take i)).length≤22*i
 | 0,_=>by simp [rowIn]
 | i+1,hi=>by
   have ih:=rowIn_len h i (by omega)
   have hv:=vText_len (colR_ok h i)
   rw [rowIn_take r i (by omega)]
   simp only [List.length_append]
   split
   ·simp;omega
   ·simp;omega
theorem W8.row {B:Nat} {w w':World} {b:Nat} {r:Row} (h:W8 B w w') (hb:w.heap[b]? =some (.cells (rowA r) 154 (0,0))):w'.heap[b]? =some (.cells (rowA r) 154 (0,0)) :=
 (h.block b (lt_of_heap hb) fun e=>by have:=e.2.ne hb;exact absurd this (by decide)).trans hb
theorem rowWr_any (r:Row) (hr:ROk r) (B:Nat) (sv:Value) (t:List UInt8) (w:World) (hown:TxtAt w B sv t) (hB:B≤w.heap.size) (hl:t.length≤90000000000000) (hE:Lib.TabBelow Tryz.prog B w "internal/strconv.uint64pow10" .u64 Lib.pow10Tab) :
 Calls Tryz.prog 71 #[.agg (rowA r),sv] w (WrEnd B t (rowTxt r) w):=by
 have HR:=hid hr;have HO:=hid hown;have HE:=hid hE;obtain ⟨iu,hiu,hu0,hu1,hu2⟩:=info_parts infoU8;obtain ⟨n,hn⟩:∃ n,r.length=n:=⟨_,rfl⟩;have HN:=hid hn
 have hn6:n≤6:=by rw [←hn];exact hr.1
 clear hE hr hn;have hown1:=hown.alloc (.cells (rowA r) 154)
 go_enter Tryz.func71,Tryz.ntmps71
 obtain ⟨W1,hW1⟩:∃ W1,w.alloc (.cells (rowA r) 154)=W1:=⟨_,rfl⟩
 have hRow1:W1.heap[w.heap.size]? =some (.cells (rowA r) 154 (0,0)):=by rw [←hW1];exact heap_alloc_last _ _
 have hK1:W8 B w W1:=by rw [←hW1];exact W8.kept ((Kept.refl No w).alloc _)
 rw [hW1] at hown1;obtain ⟨tl,htl⟩:∃ tl,t.length=tl:=⟨_,rfl⟩;have HTL:=hid htl
 replace hown1:W1.ownsRow B 5 1 sv tl (Lib.byteCells t):=by rw [←htl];exact hown1
 rw [htl] at hl;have hsz1:w.heap.size<W1.heap.size:=lt_of_heap hRow1;have HRow1:=hid hRow1;have HK1:=hid hK1;have HW1:=hid hW1;clear hW1 htl hRow1 hK1 hown
 go_wp2_with (first
  | (rw [HW1.out])
  | (at_builtin;refine wpList_append_own_at _ rfl _ _ 149 rfl B 5 iu (.int .u8 0) 1 1 Tryz.underlying149 hiu hu0 hu1 hu2 rfl (by decide) _ _ _ rfl (hown1.alloc _) ⟨W1.heap.size,0,none⟩ 1 1 [.int .u8 40] rfl rfl (World.news_of_block (cs:=#[.int .u8 40]) (t:=5) (fr:=(0,0)) (heap_alloc_last W1 _)) (by intro u hu;simp at hu;subst hu;rfl) (by unfold maxLen;omega) (by omega) (by simp;omega) ?_;intro v2 w2 hownN hgN _ _;have hk12:W8 B W1 w2:=(W8.kept ((Kept.refl No W1).alloc _)).grown (hown1.alloc _) hgN;have hk2:W8 B w w2:=HK1.out.trans hk12;have c0:w2.cell? ⟨w.heap.size,0,none⟩=some (.int .i64 (n:Int)):=by { rw [cell_of (hk12.row HRow1.out)];rw [←HN.out];rfl })
  | fail)
 have HO2:Hid (TxtAt w2 B v2 (t++[40])):=TxtAt.snoc hownN HTL.out;have HK2:=hid hk12;clear hownN hgN hk2 hk12 hown1 c0
 go_loopg [1,11] n (fun k v1 v11 wr=>∃ i:Nat,i+k=n∧v11=.int .i64 (i:Int)∧Hid (TxtAt wr B v1 (t++[40]++rowIn 0 (r.take i)))∧Hid (W8 B W1 wr))
 case atStart=>exact ⟨0,by omega,rfl,by rw [List.take_zero];simpa [rowIn] using HO2,HK2⟩
 case round =>
  obtain ⟨i,hik,rfl,hO,hK⟩:=hrel;obtain ⟨T,hT⟩:∃ T,t++[40]++rowIn 0 (r.take i)=T:=⟨_,rfl⟩
  have hTl:T.length≤tl+1+22*i:=by
   rw [←hT]
   have:=rowIn_len HR.out i (by have:=HN.out;omega)
   simp only [List.length_append,HTL.out]
   simp;omega
  have HT:=hid hT;rw [hT] at hO;obtain ⟨m,hm⟩:∃ m,T.length=m:=⟨_,rfl⟩;have HM:=hid hm
  have hown:wr.ownsRow B 5 1 u1 m (Lib.byteCells T):=by rw [←hm];exact hO.out
  rw [hm] at hTl;have hszr:=hK.out.size;clear hT hm
  cases gk with
  | zero =>
    have hx:¬(i:Int)<(n:Int):=by omega
    have HX:Hid (r.take i=r):=List.take_of_length_le (by have:=HN.out;omega)
    go_wp2_with (first
     | (at_builtin;refine wpList_append_own_at _ rfl _ _ 149 rfl B 5 iu (.int .u8 0) 1 1 Tryz.underlying149 hiu hu0 hu1 hu2 rfl (by decide) _ _ _ rfl (hown.alloc _) ⟨wr.heap.size,0,none⟩ 1 1 [.int .u8 41] rfl rfl (World.news_of_block (cs:=#[.int .u8 41]) (t:=5) (fr:=(0,0)) (heap_alloc_last wr _)) (by intro u hu;simp at hu;subst hu;rfl) (by unfold maxLen;omega) (by omega) (by simp;omega) ?_;intro v3 w3 hownN hgN _ _)
     | fail)
    have HO3:Hid (TxtAt w3 B v3 (T++[41])):=TxtAt.snoc hownN HM.out;have HK3:Hid (W8 B w w3):=((HK1.out.trans hK.out).trans (W8.kept ((Kept.refl No wr).alloc _))).grown (hown.alloc _) hgN;clear hownN hgN hown;go_ret;refine ⟨_,rfl,?_,HK3.out⟩
    have:=HO3.out
    rw [←HT.out,HX.out] at this;unfold rowTxt
    simpa using this
  | succ k =>
    have hx:(i:Int)<(n:Int):=by omega
    have hx0:(0:Int)≤(i:Int):=by omega
    have hx6:(i:Int)<6:=by omega
    obtain ⟨xa,hxa⟩:∃ xa,aggV (colR r i)=xa:=⟨_,rfl⟩
    have HY:Hid (∀ w':World,w'.heap[w.heap.size]? =some (.cells (rowA r) 154 (0,0))→(loadVar 133 ⟨w.heap.size,1+i*6,none⟩).run Tryz.prog w'=.ok xa w'):=by
     subst hxa
     exact fun w' h=>run_load_val (cells_val h (by omega))
    have HC:Hid (∀ (T2:List UInt8) (w':World) (u:Value),W8 B W1 w'→TxtAt w' B u T2→T2.length≤100000000000000→Calls Tryz.prog 121 #[xa,u] w' (WrEnd B T2 (vText (colR r i)) w')):=by
     subst hxa
     exact fun T2 w' u hk ho hl2=>valWr_any (colR r i) (colR_ok HR.out i) B u T2 w' ho (by have:=hk.size;omega) hl2 (HE.out.on ((HK1.out.trans hk).below hB))
    have HStep:=hid (rowIn_take r i (by have:=HN.out;omega))
    have hrow:=hid (hK.out.row HRow1.out);have hmT:T.length=m:=HM.out;clear hxa
    by_cases hi0:i=0
    ·have hg0:¬(0:Int)<(i:Int):=by omega
     have HCC:=hid (HC.out T wr u1 hK.out hO.out (by omega))
     have HI0:=hid hi0;clear HC hi0 hmT
     go_wp2_with (first
      | (refine load_by 133 _ rfl rfl w.heap.size (1+i*6) rfl xa (HY.out _ hrow.out) ?_)
      | fail)
     refine HCC.out.mono ?_;rintro e w4 ⟨v4,rfl,ho4,hk4⟩;have HO4:=hid ho4;have HK4:=hid (hK.out.trans hk4);clear ho4 hk4 HCC;go_wp2_with fail;go_roundg k
     case measure=>omega
     case rel =>
      refine ⟨i+1,by omega,by go_num,?_,HK4⟩
      show TxtAt _ _ _ _
      rw [HStep.out,if_pos HI0.out,List.nil_append,←List.append_assoc,HT.out];exact HO4.out
    ·have hg0:(0:Int)<(i:Int):=by omega
     have HI0:=hid hi0;clear hi0
     go_wp2_with (first
      | (at_builtin;refine wpList_append_own_at _ rfl _ _ 149 rfl B 5 iu (.int .u8 0) 1 1 Tryz.underlying149 hiu hu0 hu1 hu2 rfl (by decide) _ _ _ rfl (hown.alloc _) ⟨wr.heap.size,0,none⟩ 1 1 [.int .u8 44] rfl rfl (World.news_of_block (cs:=#[.int .u8 44]) (t:=5) (fr:=(0,0)) (heap_alloc_last wr _)) (by intro u hu;simp at hu;subst hu;rfl) (by unfold maxLen;omega) (by omega) (by simp;omega) ?_;intro v3 w3 hownN hgN _ _;have HK3:Hid (W8 B W1 w3):=(hK.out.trans (W8.kept ((Kept.refl No wr).alloc _))).grown (hown.alloc _) hgN;have HO3:Hid (TxtAt w3 B v3 (T++[44])):=TxtAt.snoc hownN HM.out;have hrow3:=hid (HK3.out.row HRow1.out);clear hownN hgN)
      | (refine load_by 133 _ rfl rfl w.heap.size (1+i*6) rfl xa (HY.out _ hrow3.out) ?_)
      | fail)
     have HCC:=hid (HC.out (T++[44]) w3 v3 HK3.out HO3.out (by simp;omega))
     clear HC hmT;refine HCC.out.mono ?_;rintro e w4 ⟨v4,rfl,ho4,hk4⟩;have HO4:=hid ho4;have HK4:=hid (HK3.out.trans hk4);clear ho4 hk4 HCC;go_wp2_with fail;go_roundg k
     case measure=>omega
     case rel =>
      refine ⟨i+1,by omega,by go_num,?_,HK4⟩
      show TxtAt _ _ _ _
      rw [HStep.out,if_neg HI0.out]
      have:=HO4.out
      rw [←HT.out] at this
      simpa using this
def entTxt (e:Row × Int):List UInt8:=rowTxt e.1++(42::Lib.itoa e.2)
def bagIn:Nat→Bag→List UInt8
 | _,[]=>[]
 | i,e::es=>(if i=0 then [] else [59])++(entTxt e++bagIn (i+1) es)
def bagTxt (l:Bag):List UInt8:=bagIn 0 (canon l)
theorem bagIn_snoc (es:Bag) (e:Row × Int):∀ i,bagIn i (es++[e])=bagIn i es++((if i+es.length=0 then [] else [59])++entTxt e):=by
 induction es with
 | nil=>intro i;simp [bagIn]
 | cons x r ih=>intro i;simp [bagIn,ih,Nat.add_assoc,Nat.add_comm 1]
structure BWr (us:List Bool) (l:Bag):Prop where
 ty:∀ r,cnt l r≠0→ROk r∧r.map Mo.ty=us
 bd:∀ r,-3000000000000≤cnt l r∧cnt l r≤3000000000000
 len:(canon l).length≤100000000000
theorem BWr.nw {us:List Bool} {l:Bag} (h:BWr us l) (r:Row):wrap64 (cnt l r)=cnt l r:=by
 have:=h.bd r
 unfold wrap64;omega
theorem conv_by {ops:Array Oper} {rest:List Oper} {o:Oper} {a:Act} {w:World} {Q:Exit→Act→World→Prop} (t u:TypeId) (x:Operand) (ho:o.op=.convert t u x) (hgd:o.guard=none) (v:Value) (hx:a.eval x=v) (r:Value) (hr:(convert t u v).run Tryz.prog w=.ok r w)
 (h:wpList Tryz.prog ops Q rest (a.put o.dst r) w):wpList Tryz.prog ops Q (o::rest) a w:=by
 refine wpList_plain hgd fun _ hK=> ?_
 unfold Oper.wp execOp;simp only [ho,hx,Sem.run_bind,Sem.run_pure,Result.andThen_ok,hr];exact hK _ _ h
theorem push_all:∀ (t:List UInt8) (s:ByteArray),(t.map fun (b:UInt8)=>(b.toNat:Int)).foldl (fun (r:ByteArray) (n:Int)=>r.push (UInt8.ofNat n.toNat)) s=⟨(s.data.toList++t).toArray⟩
 | [],s=>by simp
 | c::t,s=>by
   show (t.map fun (b:UInt8)=>(b.toNat:Int)).foldl _ (s.push (UInt8.ofNat ((c.toNat:Int)).toNat))=_
   rw [push_all t]
   have:UInt8.ofNat ((c.toNat:Int)).toNat=c:=by simp
   rw [this]
   simp [ByteArray.push]
theorem txt_string {w:World} {B:Nat} {v:Value} {t:List UInt8} (h:TxtAt w B v t):(convert 149 9 v).run Tryz.prog w=.ok (.string ⟨t.toArray⟩) w:=by
 rcases h.2 with ⟨rfl,h0⟩ | ⟨g,cap,cur,rfl,_,hg,hc1,hc2,hc3,hc4⟩
 ·have:t=[]:=List.eq_nil_of_length_eq_zero h0
  subst this;rw [run_convert_bytes_string w 149 9 5 none 0 0 Tryz.underlying149 Tryz.underlying5 Tryz.underlying9]
  rfl
 ·rw [run_convert_bytes_string w 149 9 5 (some ⟨g,0,none⟩) t.length cap Tryz.underlying149 Tryz.underlying5 Tryz.underlying9]
  have hl:(loadCells ⟨g,0,none⟩ t.length).run Tryz.prog w=.ok ((t.map fun (b:UInt8)=>(b.toNat:Int)).map (Value.int .u8)).toArray w:=by
   have:=run_loadCells_list (P:=Tryz.prog) w ⟨g,0,none⟩ (Lib.byteCells t) (fun j x hx=>by
    have hadd:(⟨g,0,none⟩:Addr).add j=⟨g,j,none⟩:=by unfold Addr.add;split <;> simp_all
    rw [hadd,cell_of hg];rw [Nat.mul_one] at hc4;rw [←hc4,List.getElem?_take] at hx
    split at hx
    ·simpa using hx
    ·cases hx)
   have e1:(Lib.byteCells t).length=t.length:=by simp [Lib.byteCells]
   rw [e1] at this;rw [this]
   simp [Lib.byteCells]
  rw [run_bytesToString w ⟨g,0,none⟩ t.length cap _ hl,push_all]
  rfl
theorem entTxt_len {us:List Bool} {l:Bag} (hw:BWr us l) {e:Row × Int} (he:e∈canon l):(entTxt e).length≤160:=by
 have h1:=(Mo.canon_rise l).cnt_mem he;have h2:=(Mo.canon_rise l).nz he;rw [Mo.canon_cnt] at h1
 have hr:=(hw.ty e.1 (by omega)).1
 have hb:=hw.bd e.1;have h3:=rowIn_len hr e.1.length (Nat.le_refl _);rw [List.take_length] at h3
 have h4:=Lib.itoa_length_le e.2 (by omega) (by omega)
 have h5:=hr.1;unfold entTxt rowTxt;simp only [List.length_append,List.length_cons,List.length_nil];omega
theorem bagIn_take (l:Bag) (i:Nat) (e:Row × Int) (he:l[i]? =some e):bagIn 0 (l.take (i+1))=bagIn 0 (l.take i)++((if i=0 then [] else [59])++entTxt e):=by
 have hi:=(List.getElem?_eq_some_iff.1 he).1;rw [List.take_add_one,he]
 show bagIn 0 (l.take i++[e])=_
 rw [bagIn_snoc]
 have:(l.take i).length=i:=by rw [List.length_take];omega
 rw [this,Nat.zero_add]
theorem bagIn_len {us:List Bool} {l:Bag} (hw:BWr us l):∀ i,i≤(canon l).length→(bagIn 0 ((canon l).take i)).length≤161*i
 | 0,_=>by simp [bagIn]
 | i+1,hi=>by
   have ih:=bagIn_len hw i (by omega)
   obtain ⟨e,he⟩:∃ e,(canon l)[i]? =some e:=⟨_,List.getElem?_eq_getElem (by omega)⟩
   have h1:=entTxt_len hw (List.mem_of_getElem? he)
   rw [bagIn_take _ i e he];simp only [List.length_append]
   split
   ·simp;omega
   ·simp;omega
theorem run_load_row_at {w:World} {g k:Nat} {q:Row} (h:w.rangeAt g k (rowA q).toList):(loadVar 154 ⟨g,k,none⟩).run Tryz.prog w=.ok (.agg (rowA q)) w:=by
 have:=run_loadVar_mid w g k 154 (rowA q).toList _ h Tryz.underlying154 rfl (by rw [rowA_len];exact infoRow)
 simpa using this
theorem written_map {us:List Bool} (b:Nat) (l:Bag) (w:World) (h:BagAt w b l) (hw:BWr us l) (hE:Lib.TabIs Tryz.prog w "internal/strconv.uint64pow10" .u64 Lib.pow10Tab) :
 Calls Tryz.prog 42 #[.map (some b)] w fun e w'=>e=.returned (.string ⟨(bagTxt l).toArray⟩)∧Kept No w w':=by
 have HS:Hid (∀ (w1:World) (Bm:Nat),Kept No w w1→Bm<w1.heap.size→w1.cell? ⟨Bm,0,none⟩=some (.map (some b))→Calls Tryz.prog 68 #[.func (.func 119) #[] #[.pointer (some ⟨Bm,0,none⟩)],.func (.func 70) #[] #[]] w1 fun e w'=>∃ v,e=.returned v∧RowsAt w' v (rowsC l)∧Kept No w1 w') :=
  fun w1 Bm hk hB hc=>sorted_rows (us:=us) b l w1 (h.kept hk (fun e=>e)) (fun r hr=>by rw [hw.nw];exact hr) hw.ty hw.len Bm hB hc
 have HB:=hid h;have HW:=hid hw;have HE:=hid hE;clear h hw hE
 go_enter Tryz.func42,Tryz.ntmps42
 go_wp2_with fail;refine (keys_any _ _).mono ?_;rintro e w1 ⟨rfl,rfl⟩;have hkA:Kept No w (w.alloc (.cells #[.map (some b)] 83)):=(Kept.refl No w).alloc _
 have HSC:=hid (HS.out _ w.heap.size hkA (by simp) (by rw [cell_of (heap_alloc_last _ _)];rfl))
 clear HS;go_wp2_with fail;refine HSC.out.mono ?_;rintro e W2 ⟨v,rfl,hR,hk2⟩;have hkW:Kept No w W2:=hkA.seq hk2;have HK2:=hid hkW
 have HB2:=hid (HB.out.kept hkW (fun e=>e))
 have HE2:Hid (Lib.TabBelow Tryz.prog W2.heap.size W2 "internal/strconv.uint64pow10" .u64 Lib.pow10Tab):=Lib.tabBelow_of_tabIs (HE.out |> fun h=>(Lib.tabBelow_of_tabIs h) W2 ⟨hkW.os,hkW.tape,hkW.output,hkW.size,fun i hi=>hkW.block i hi (fun e=>e)⟩)
 have HR:=hid hR
 obtain ⟨va,vc,hva⟩:∃ a c,v=.slice a (rowsC l).length c:=by
  rcases hR with ⟨rfl,e⟩ | ⟨g,cap,rfl,_⟩
  ·rw [e];exact ⟨_,_,rfl⟩
  ·exact ⟨_,_,rfl⟩
 subst hva;obtain ⟨n,hn⟩:∃ n,(rowsC l).length=n:=⟨_,rfl⟩;have HN:=hid hn;rw [hn] at HR ⊢;obtain ⟨iu,hiu,hu0,hu1,hu2⟩:=info_parts infoU8;clear hR hk2 hkA hkW HSC HB HE hn;go_wp2_with fail
 go_loopg [3,10] n (fun k v3 v10 wr=>∃ i:Nat,i+k=n∧v10=.int .i64 (i:Int)∧Hid (TxtAt wr W2.heap.size v3 (bagIn 0 ((canon l).take i)))∧Hid (W8 W2.heap.size W2 wr))
 case atStart=>exact ⟨0,by omega,rfl,hid (World.ownsRow_nil _ _ _ _),hid (W8.refl _ _)⟩
 case round =>
  obtain ⟨i,hik,rfl,hO,hK⟩:=hrel
  cases gk with
  | zero =>
    have hx:¬(i:Int)<(n:Int):=by omega
    have HX:Hid ((canon l).take i=canon l):=List.take_of_length_le (by have:=HN.out;unfold rowsC at this;rw [List.length_map] at this;omega)
    have HRun:=hid (txt_string hO.out)
    have HKF:Hid (Kept No w wr):=HK2.out.seq ⟨hK.out.os,hK.out.tape,hK.out.output,hK.out.size,fun j hj _=>hK.out.block j hj (fun e=>by omega)⟩
    go_wp2_with (first
     | (refine conv_by 149 9 _ rfl rfl _ rfl _ HRun.out ?_)
     | fail)
    go_ret;refine ⟨?_,HKF.out⟩;unfold bagTxt;rw [HX.out]
    rfl
  | succ k =>
    have hx:(i:Int)<(n:Int):=by omega
    have hx0:(0:Int)≤(i:Int):=by omega
    have hcl:(canon l).length=n:=by have:=HN.out;unfold rowsC at this;rw [List.length_map] at this;exact this
    obtain ⟨e,he⟩:∃ e,(canon l)[i]? =some e:=⟨_,List.getElem?_eq_getElem (by omega)⟩
    have hem:=List.mem_of_getElem? he
    have hec:cnt l e.1=e.2:=by have:=(Mo.canon_rise l).cnt_mem hem;rw [Mo.canon_cnt] at this;exact this
    have henz:=(Mo.canon_rise l).nz hem;have hbd:=HW.out.bd e.1
    have hrok:=(HW.out.ty e.1 (by rw [hec];exact henz)).1
    obtain ⟨q,c⟩:=e;replace hec:cnt l q=c:=hec;replace henz:c≠0:=henz;rw [hec] at hbd
    have hri:(rowsC l)[i]? =some q:=by unfold rowsC;rw [List.getElem?_map,he];rfl
    rcases HR.out with ⟨_,e0⟩ | ⟨g,cap,e0,hg1,hg2,hg3,hg4⟩
    ·rw [e0] at hri;simp at hri
    injection e0 with e1 e2 e3
    subst e1 e3;obtain ⟨T,hT⟩:∃ T,bagIn 0 ((canon l).take i)=T:=⟨_,rfl⟩
    have hTl:T.length≤161*i:=by rw [←hT];exact bagIn_len HW.out i (by omega)
    have hn11:n≤100000000000:=by rw [←hcl];exact HW.out.len
    have HStep:=hid (bagIn_take (canon l) i (q,c) he);have HT:=hid hT;rw [hT] at hO;have HEN:=hid (entTxt_len HW.out hem)
    have hrl:(rowTxt q).length≤160:=by
     have:=HEN.out
     unfold entTxt at this;simp only [List.length_append,List.length_cons] at this;omega
    obtain ⟨m,hm⟩:∃ m,T.length=m:=⟨_,rfl⟩;have HM:=hid hm
    have hown:wr.ownsRow W2.heap.size 5 1 u3 m (Lib.byteCells T):=by rw [←hm];exact hO.out
    rw [hm] at hTl;have hszr:=hK.out.size;obtain ⟨B,hB⟩:∃ B,W2.heap.size=B:=⟨_,rfl⟩;have HBq:=hid hB
    have HLD:Hid ((loadVar 154 ⟨g,i*37,none⟩).run Tryz.prog wr=.ok (.agg (rowA q)) wr):=run_load_row_at fun j x hj=>by
     have hgb:¬(W2.heap.size≤g∧Is 5 W2 g):=fun e=>by omega
     rw [Kept.cell hK.out hg3 hgb];exact hg4 i q hri j x hj
    have HQ:=hid hrok
    have HLK:Hid ((bagM l q).getD (.int .i64 0)=.int .i64 c):=by
     show _=_
     have hwn:=HW.out.nw q;unfold bagM;rw [hwn,hec,if_neg henz];rfl
    clear hT hm he hem hg4 hri hg1 hg2 e2;rw [hB] at hown hO hK;rw [hB] at HE2 hszr;obtain ⟨wa,hwa⟩:∃ wa,wr.alloc (.cells (rowA q) 154)=wa:=⟨_,rfl⟩
    have hrowA:wa.heap[wr.heap.size]? =some (.cells (rowA q) 154 (0,0)):=by rw [←hwa];exact heap_alloc_last _ _
    have hKa:W8 B W2 wa:=hK.out.trans (by rw [←hwa];exact W8.kept ((Kept.refl No wr).alloc _))
    have hownA:wa.ownsRow B 5 1 u3 m (Lib.byteCells T):=by rw [←hwa];exact hown.alloc _
    have hsza:B≤wa.heap.size:=by rw [←hB];exact hKa.size
    have HRowA:=hid hrowA;have HKa:=hid hKa;have HWA:=hid hwa
    have REST:∀ (T2:List UInt8) (w3:World) (v3:Value),T2.length≤161*i+1→W8 B wa w3→TxtAt w3 B v3 T2→True:=fun _ _ _ _ _ _=>trivial
    clear hwa hrowA hKa hown REST
    by_cases hi0:i=0
    ·have hg0:¬(0:Int)<(i:Int):=by omega
     have HI0:=hid hi0;clear hi0
     have HRW:=hid (rowWr_any q HQ.out B u3 T wa (by show wa.ownsRow B _ 1 u3 T.length _;rw [HM.out];exact hownA) hsza (by rw [HM.out];omega) (HE2.out.on (HKa.out.below (by omega))))
     go_wp2_with (first
      | (refine load_by 154 _ rfl rfl g (i*37) rfl (.agg (rowA q)) HLD.out ?_)
      | (refine store_row_new _ _ _ rfl rfl wr _ rfl rfl rfl q rfl ?_;rw [HWA.out])
      | (refine load_row _ rfl rfl wr.heap.size rfl q HRowA.out ?_)
      | fail)
     have HK3:Hid (W8 B wa wa):=W8.refl _ _
     have HLT:Hid (T.length≤161*i+1):=by show _≤_;rw [HM.out];omega
     refine HRW.out.mono ?_;rintro e w4 ⟨v4,rfl,ho4,hk4⟩;have hK4:W8 B wa w4:=HK3.out.trans hk4;have hown4:w4.ownsRow B 5 1 v4 (T++rowTxt q).length (Lib.byteCells (T++rowTxt q)):=ho4;obtain ⟨m4,hm4⟩:∃ m4,(T++rowTxt q).length=m4:=⟨_,rfl⟩;have HM4:=hid hm4
     have hm4l:m4≤161*i+1+160:=by
      rw [←hm4,List.length_append]
      have:=HLT.out
      omega
     rw [hm4] at hown4;have hsz4:B≤w4.heap.size:=Nat.le_trans hsza hK4.size;have HK4:=hid hK4
     have hbB:b<B:=by rw [←HBq.out];exact HB2.out.lt
     clear hm4 ho4 hk4 HRW hK4
     go_wp2_with (first
      | (at_builtin;refine wpList_append_own_at _ rfl _ _ 149 rfl B 5 iu (.int .u8 0) 1 1 Tryz.underlying149 hiu hu0 hu1 hu2 rfl (by decide) _ _ _ rfl (hown4.alloc _) ⟨w4.heap.size,0,none⟩ 1 1 [.int .u8 42] rfl rfl (World.news_of_block (cs:=#[.int .u8 42]) (t:=5) (fr:=(0,0)) (heap_alloc_last w4 _)) (by intro u hu;simp at hu;subst hu;rfl) (by unfold maxLen;omega) (by omega) (by simp;omega) ?_;intro v5 w5 hownN hgN _ _;have HK5:Hid (W8 B wa w5):=(HK4.out.trans (W8.kept ((Kept.refl No w4).alloc _))).grown (hown4.alloc _) hgN;have HO5:Hid (TxtAt w5 B v5 (T++rowTxt q++[42])):=TxtAt.snoc hownN HM4.out;have HRow5:=hid (HK5.out.row HRowA.out);have HB5:Hid (BagAt w5 b l):=HB2.out.kept (HKa.out.trans HK5.out) (fun e=>by have:=e.1;omega);clear hownN hgN)
      | (refine load_row _ rfl rfl wr.heap.size rfl q HRow5.out ?_)
      | (at_lookup;refine wpList_lookup_map _ rowKE rfl _ _ 83 2 rfl Tryz.underlying83 (.int .i64 0) (zero64 _) b (bagM l) rfl HB5.out.2 q HQ.out rfl (.int .i64 c) HLK.out ?_)
      | fail)
     have hsz5:B≤w5.heap.size:=Nat.le_trans hsza HK5.out.size;obtain ⟨T5,hT5⟩:∃ T5:List UInt8,T++rowTxt q++[42]=T5:=⟨_,rfl⟩
     have hT5l:T5.length≤161*i+1+160+1:=by rw [←hT5,List.length_append,HM4.out];simp;omega
     rw [hT5] at HO5
     have HAI:=hid (Tryz.strconv_AppendInt_10 B T5.length c (by omega) (by omega) v5 (Lib.byteCells T5) w5 HO5.out hsz5 (by omega) (HE2.out.on ((HKa.out.trans HK5.out).below (by rw [HBq.out];exact Nat.le_refl _))))
     refine HAI.out.mono ?_;rintro e w6 ⟨v6,rfl,ho6,hb6,hoth6⟩
     have HO6:Hid (TxtAt w6 B v6 (T++entTxt (q,c))):=by
      have e6:T++entTxt (q,c)=T5++Lib.itoa c:=by rw [←hT5];unfold entTxt;simp
      show w6.ownsRow B _ 1 v6 (T++entTxt (q,c)).length (Lib.byteCells (T++entTxt (q,c)))
      rw [e6,List.length_append,Lib.byteCells_append];exact ho6
     have HK6:Hid (W8 B W2 w6):=(HKa.out.trans HK5.out).trans (W8.of hb6 hoth6);clear ho6 hb6 hoth6 HAI hown4 hT5;go_wp2_with fail;go_roundg k
     case measure=>omega
     case rel =>
      refine ⟨i+1,by omega,by go_num,?_,by rw [HBq.out];exact HK6⟩
      show TxtAt _ _ _ _
      rw [HBq.out,HStep.out];rw [if_pos HI0.out,List.nil_append,HT.out];exact HO6.out
    ·have hg0:(0:Int)<(i:Int):=by omega
     have HI0:=hid hi0;clear hi0
     go_wp2_with (first
      | (refine load_by 154 _ rfl rfl g (i*37) rfl (.agg (rowA q)) HLD.out ?_)
      | (refine store_row_new _ _ _ rfl rfl wr _ rfl rfl rfl q rfl ?_;rw [HWA.out])
      | (at_builtin;refine wpList_append_own_at _ rfl _ _ 149 rfl B 5 iu (.int .u8 0) 1 1 Tryz.underlying149 hiu hu0 hu1 hu2 rfl (by decide) _ _ _ rfl (hownA.alloc _) ⟨wa.heap.size,0,none⟩ 1 1 [.int .u8 59] rfl rfl (World.news_of_block (cs:=#[.int .u8 59]) (t:=5) (fr:=(0,0)) (heap_alloc_last wa _)) (by intro u hu;simp at hu;subst hu;rfl) (by unfold maxLen;omega) (by omega) (by simp;omega) ?_;intro v3 w3 hownN hgN _ _;have HK3:Hid (W8 B wa w3):=(W8.kept ((Kept.refl No wa).alloc _)).grown (hownA.alloc _) hgN;have HO3:Hid (TxtAt w3 B v3 (T++[59])):=TxtAt.snoc hownN HM.out;have HRow3:=hid (HK3.out.row HRowA.out);clear hownN hgN)
      | (refine load_row _ rfl rfl wr.heap.size rfl q HRow3.out ?_)
      | fail)
     have HLT:Hid ((T++[59]).length≤161*i+1):=by show _≤_;rw [List.length_append,HM.out];simp;omega
     have HRW:=hid (rowWr_any q HQ.out B v3 (T++[59]) w3 HO3.out (Nat.le_trans hsza HK3.out.size) (by have:=HLT.out;omega) (HE2.out.on ((HKa.out.trans HK3.out).below (by rw [HBq.out];exact Nat.le_refl _))))
     refine HRW.out.mono ?_;rintro e w4 ⟨v4,rfl,ho4,hk4⟩;have hK4:W8 B wa w4:=HK3.out.trans hk4;have hown4:w4.ownsRow B 5 1 v4 ((T++[59])++rowTxt q).length (Lib.byteCells ((T++[59])++rowTxt q)):=ho4;obtain ⟨m4,hm4⟩:∃ m4,((T++[59])++rowTxt q).length=m4:=⟨_,rfl⟩;have HM4:=hid hm4
     have hm4l:m4≤161*i+1+160:=by
      rw [←hm4,List.length_append]
      have:=HLT.out
      omega
     rw [hm4] at hown4;have hsz4:B≤w4.heap.size:=Nat.le_trans hsza hK4.size;have HK4:=hid hK4
     have hbB:b<B:=by rw [←HBq.out];exact HB2.out.lt
     clear hm4 ho4 hk4 HRW hK4
     go_wp2_with (first
      | (at_builtin;refine wpList_append_own_at _ rfl _ _ 149 rfl B 5 iu (.int .u8 0) 1 1 Tryz.underlying149 hiu hu0 hu1 hu2 rfl (by decide) _ _ _ rfl (hown4.alloc _) ⟨w4.heap.size,0,none⟩ 1 1 [.int .u8 42] rfl rfl (World.news_of_block (cs:=#[.int .u8 42]) (t:=5) (fr:=(0,0)) (heap_alloc_last w4 _)) (by intro u hu;simp at hu;subst hu;rfl) (by unfold maxLen;omega) (by omega) (by simp;omega) ?_;intro v5 w5 hownN hgN _ _;have HK5:Hid (W8 B wa w5):=(HK4.out.trans (W8.kept ((Kept.refl No w4).alloc _))).grown (hown4.alloc _) hgN;have HO5:Hid (TxtAt w5 B v5 ((T++[59])++rowTxt q++[42])):=TxtAt.snoc hownN HM4.out;have HRow5:=hid (HK5.out.row HRowA.out);have HB5:Hid (BagAt w5 b l):=HB2.out.kept (HKa.out.trans HK5.out) (fun e=>by have:=e.1;omega);clear hownN hgN)
      | (refine load_row _ rfl rfl wr.heap.size rfl q HRow5.out ?_)
      | (at_lookup;refine wpList_lookup_map _ rowKE rfl _ _ 83 2 rfl Tryz.underlying83 (.int .i64 0) (zero64 _) b (bagM l) rfl HB5.out.2 q HQ.out rfl (.int .i64 c) HLK.out ?_)
      | fail)
     have hsz5:B≤w5.heap.size:=Nat.le_trans hsza HK5.out.size;obtain ⟨T5,hT5⟩:∃ T5:List UInt8,(T++[59])++rowTxt q++[42]=T5:=⟨_,rfl⟩
     have hT5l:T5.length≤161*i+1+160+1:=by rw [←hT5,List.length_append,HM4.out];simp;omega
     rw [hT5] at HO5
     have HAI:=hid (Tryz.strconv_AppendInt_10 B T5.length c (by omega) (by omega) v5 (Lib.byteCells T5) w5 HO5.out hsz5 (by omega) (HE2.out.on ((HKa.out.trans HK5.out).below (by rw [HBq.out];exact Nat.le_refl _))))
     refine HAI.out.mono ?_;rintro e w6 ⟨v6,rfl,ho6,hb6,hoth6⟩
     have HO6:Hid (TxtAt w6 B v6 ((T++[59])++entTxt (q,c))):=by
      have e6:(T++[59])++entTxt (q,c)=T5++Lib.itoa c:=by rw [←hT5];unfold entTxt;simp
      show w6.ownsRow B _ 1 v6 ((T++[59])++entTxt (q,c)).length (Lib.byteCells ((T++[59])++entTxt (q,c)))
      rw [e6,List.length_append,Lib.byteCells_append];exact ho6
     have HK6:Hid (W8 B W2 w6):=(HKa.out.trans HK5.out).trans (W8.of hb6 hoth6);clear ho6 hb6 hoth6 HAI hown4 hT5;go_wp2_with fail;go_roundg k
     case measure=>omega
     case rel =>
      refine ⟨i+1,by omega,by go_num,?_,by rw [HBq.out];exact HK6⟩
      show TxtAt _ _ _ _
      rw [HBq.out,HStep.out];rw [if_neg HI0.out,HT.out]
      have:=HO6.out
      simpa using this
attribute [local go_sem] Oper.semAt_some in
theorem keys_nil (F:Fence) (n:Nat) (h14:F.fn 119) (hro:F.round=none) (Bm N:Nat) (w:World) (hBm:Bm<w.heap.size) (hm:w.cell? ⟨Bm,0,none⟩=some (.map none)) :
 SeqStopsK F n Tryz.prog 119 #[.pointer (some ⟨Bm,0,none⟩)] encQ KeepsWalks (fun xs=>xs=[]) (fun _=>True) N w:=fun l J Jx W hW hJ _ hY h0=>by
 have hc:W.cell? ⟨Bm,0,none⟩=some (.map none):=(hW.cell (p:=⟨Bm,0,none⟩) hBm).trans hm;have hrg:=run_range_nilMap (P:=Tryz.prog) W 83 154 2 Tryz.underlying83
 have hnx:∀ ty,(Instr.next (.pointer (some ⟨W.heap.size,0,none⟩)) false ty).run Tryz.prog (W.alloc (.mapIter none 0 #[] 0))=_:=fun ty=>run_next_nilMap W ty 0 0 #[]
 refine callsIn_of_wp Tryz.func119 rfl h14 ?_ hro;simp only [Tryz.ntmps119,List.size_toArray,List.length_cons,List.length_nil,Nat.reduceAdd,Nat.reduceSub,Array.replicate_succ,Array.replicate_zero,List.push_toArray,List.append_toArray,List.nil_append,List.cons_append]
 gi_wp2
 gi_loopw [6] (fun _ wr=>wr=W.alloc (.mapIter none 0 #[] 0)) (fun _ _=>0)
 case atStart=>rfl
 case round =>
  subst hrel
  gi_wp2
  go_end0
  exact ⟨⟨_,rfl⟩,.inl ⟨[],rfl,hJ [] W _ none h0 (World.grownBy_alloc W _ none) (fun r e=>by cases e)⟩⟩
theorem sorted_nil (w:World) (Bm:Nat) (hBm:Bm<w.heap.size) (hc:w.cell? ⟨Bm,0,none⟩=some (.map none)) :
 Calls Tryz.prog 68 #[.func (.func 119) #[] #[.pointer (some ⟨Bm,0,none⟩)],.func (.func 70) #[] #[]] w fun e w'=>e=.returned (.slice none 0 0)∧Kept No w w':=by
 have hseq:=keys_nil Fence.wide 9 trivial rfl Bm 0 w hBm hc
 have HCol:=hid (collect_any #[.pointer (some ⟨Bm,0,none⟩)] (fun xs=>xs=[]) 0 (by omega) w hseq)
 clear hseq hc
 go_enter Tryz.func68,Tryz.ntmps68
 go_wp2_with fail;refine HCol.out.mono ?_;rintro e w1 ⟨v,xs,rfl,hx,hrow,hnil,hbel⟩
 have HK1:Hid (Kept No w w1):=⟨hbel.os,hbel.tape,hbel.output,hbel.size,fun i hi _=>hbel.block i hi⟩
 obtain rfl:=hnil.2 hx;clear hrow hnil hbel hx HCol;go_wp2_with fail;refine (AnyF.slices_SortFunc_none Tryz.sortEnt none 0 _ _).mono ?_;rintro e w2 ⟨rfl,rfl⟩;go_wp2_with fail;go_ret;exact ⟨rfl,HK1.out⟩
theorem written_nil (w:World):Calls Tryz.prog 42 #[.map none] w fun e w'=>e=.returned (.string ⟨#[]⟩)∧Kept No w w':=by
 go_enter Tryz.func42,Tryz.ntmps42
 go_wp2_with fail;refine (keys_any _ _).mono ?_;rintro e w1 ⟨rfl,rfl⟩;have hkA:Kept No w (w.alloc (.cells #[.map none] 83)):=(Kept.refl No w).alloc _
 have HSC:=hid (sorted_nil (w.alloc (.cells #[.map none] 83)) w.heap.size (by simp) (by rw [cell_of (heap_alloc_last _ _)];rfl))
 have HKA:=hid hkA;clear hkA;go_wp2_with fail;refine HSC.out.mono ?_;rintro e w2 ⟨rfl,hk2⟩;have HK2:=hid (HKA.out.seq hk2)
 have HRun:Hid (∀ W:World,(convert 149 9 (.slice none 0 0)).run Tryz.prog W=.ok (.string ⟨#[]⟩) W):=fun W=>txt_string (B:=0) (t:=[]) (World.ownsRow_nil _ _ _ _)
 clear hk2 HSC;go_wp2_with fail;refine wp_loop_rounds 1 ?_;rw [rounds_succ]
 go_wp2_with (first
  | (refine conv_by 149 9 _ rfl rfl _ rfl _ (HRun.out _) ?_)
  | fail)
 go_ret;exact ⟨rfl,HK2.out⟩
theorem written_any {us:List Bool} (v:Value) (l:Bag) (w:World) (h:BagV w v l) (hw:BWr us l) (hE:Env w) :
 Calls Tryz.prog 42 #[v] w fun e w'=>e=.returned (.string ⟨(bagTxt l).toArray⟩)∧Kept No w w':=by
 rcases h with ⟨rfl,rfl⟩ | ⟨b,rfl,h⟩
 ·exact written_nil w
 ·exact written_map b l w h hw hE
open Mo (V Row Bag cnt canon Eqv OkB OkD neg)
theorem env_at:Tryz.prog.globalNamed "internal/strconv.uint64pow10"=some 1:=by kernel_rfl
theorem Env.block {w w':World} (h:Env w) (hb:w'.heap[1]? =w.heap[1]?):Env w':=by
 unfold Env Lib.TabIs World.var? at h ⊢
 rw [env_at] at h ⊢;simp only [Option.bind_some] at h ⊢;rw [hb];exact h
theorem Env.lt {w:World} (h:Env w):1<w.heap.size:=by
 unfold Env Lib.TabIs World.var? at h
 rw [env_at] at h;simp only [Option.bind_some] at h
 rcases Nat.lt_or_ge 1 w.heap.size with h' | h'
 ·exact h'
 ·rw [Array.getElem?_eq_none h'] at h;simp at h
theorem Env.kept {S:Nat→Prop} {w w':World} (h:Env w) (k:Kept S w w') (hS:¬S 1):Env w':=h.block (k.block _ h.lt hS)
theorem Env.keptNo {w w':World} (h:Env w) (k:Kept No w w'):Env w':=h.kept k (fun e=>e)
theorem bagTxt_eqv {l m:Bag} (h:Eqv l m):bagTxt l=bagTxt m:=by unfold bagTxt;rw [h.canon]
theorem tell_walk (v:Nat) (hv uv:Value) (t:ByteArray) (w:World) (Q:Ending→World→Prop) (hw:w.heap[v]? =some (.cells #[hv,uv] 87 (0,0)))
 (hR:Calls Tryz.prog 66 #[.pointer (some ⟨v,0,none⟩),uv] (w.setCell ⟨v,1,none⟩ (.map none)) fun e w1=>e=.returned (.tuple #[])∧Calls Tryz.prog 42 #[uv] w1 fun e w2=>e=.returned (.string t)∧Q e w2) :
 Calls Tryz.prog 40 #[.pointer (some ⟨v,0,none⟩)] w Q:=by
 have HR:=hid hR;have c0:w.cell? ⟨v,0,none⟩=some hv:=(cell_of hw 0).trans rfl;have c1:w.cell? ⟨v,1,none⟩=some uv:=(cell_of hw 1).trans rfl;have f0:w.frozen? ⟨v,1,none⟩=false:=frozen_of hw _;clear hR hw
 go_enter Tryz.func40,Tryz.ntmps40
 go_wp2_with fail;refine HR.out.mono ?_;rintro e w1 ⟨rfl,h1⟩;have H1:=hid h1;clear h1 HR;go_wp2_with fail;refine H1.out.mono ?_;rintro e w2 ⟨rfl,h2⟩;have H2:=hid h2;clear h2 H1;go_wp2_with fail;exact H2.out
def TellEnd (v:Nat) (told B:Bag) (w:World) (O:Ow) (e:Ending) (w':World):Prop :=
 e=.returned (.string ⟨(bagTxt (B++neg told)).toArray⟩)∧∃ O':Ow,(∀ k,k<w.heap.size→O' k=O k)∧Kept (fun k=>O k=v+2) w w'∧ViewAt w' O' v B B
theorem tell_any (v:Nat) {ts:List Bool} {told B:Bag} (w:World) (O:Ow) (h:ViewAt w O v told B) (ok1:OkB ts told) (ok2:OkB ts B) (hw:BWr ts (B++neg told)) (hE:Env w) (hO:O 1≠v+2) :
 Calls Tryz.prog 40 #[.pointer (some ⟨v,0,none⟩)] w (TellEnd v told B w O):=by
 obtain ⟨h0,hv,uv,h1,h2,h3,h4⟩:=h
 have hsum:Eqv (told++(B++neg told)) B:=fun r=>by rw [Mo.cnt_append,Mo.cnt_append,Mo.cnt_neg];omega
 have hd:OkD ts (B++neg told):=ok1.chg (ok2.eqv hsum.symm);refine tell_walk v hv uv ⟨(bagTxt (B++neg told)).toArray⟩ w _ h1 ?_;have hbl:=lt_of_heap h1;obtain ⟨W,hW⟩:∃ W,w.setCell ⟨v,1,none⟩ (.map none)=W:=⟨_,rfl⟩
 have hkW:Kept (·=v) w W:=by rw [←hW];exact (Kept.refl (·=v) w).setCell (g:=v) (.inr rfl) _
 have hb1:W.heap[v]? =some (.cells #[hv,.map none] 87 (0,0)):=by rw [←hW,heap_set h1];rfl
 rw [hW]
 have hOW:∀ k,k<w.heap.size→O k=O k:=fun _ _=>rfl
 have m2:MemAt W O v hv told:=⟨h2.1.of_block fun k e=>hkW.block k (h2.1.lt e) (fun e'=>h2.notCells e h1 e'.symm),h2.2⟩
 have m3:MemAt W O v uv (B++neg told):=⟨h3.1.of_block fun k e=>hkW.block k (h3.1.lt e) (fun e'=>h3.notCells e h1 e'.symm),h3.2⟩
 have el:∀ {b:Bag} {d:Bag},OkB ts b→OkB ts (b++d)→(canon d).length≤6000000000000:=fun h k=>(h.chg k).len
 have nilB:OkB ts []:=⟨fun r=>by simp [Mo.cnt],by show (0:Int)≤_;decide,by show (0:Int)≤_;decide,(fun e he=>by cases he),(fun e he=>by cases he),ok1.six⟩
 have e1:(canon told).length≤6000000000000:=el nilB (by simpa using ok1)
 have e2:=hd.len
 refine (remember_any v 0 #[hv,.map none] 87 hv uv (canon told) (canon (B++neg told)) W hb1 rfl m2.1 m3.1 (fun k e e'=>h4 k e' e) (by
  rw [Mo.canon_of_rise (Mo.canon_rise _),Mo.canon_of_rise (Mo.canon_rise _)]
  unfold maxLen;omega)).mono fun e w1 hE1=> ?_
 have hrok:∀ x∈canon (told++(B++neg told)),ROk x.1:=by
  rw [hsum.canon]
  exact (OkB.chg (b:=[]) (d:=B) nilB (by simpa using ok2)).rok
 obtain ⟨he,held',g1,g2,g3,g4⟩:=hE1.mem m2 hrok;refine ⟨he,?_⟩
 have hkX:Kept (fun k=>O k=v+2) w w1:=(hkW.mono fun k _ e=>by rw [e];exact h0).seq (g4.mono fun k _ e=>by
  rcases e with rfl | e
  ·exact h0
  ·exact h2.2 k e)
 have hu1:BagV w1 uv (canon (B++neg told)):=m3.1.of_block fun k e=>g4.block k (m3.1.lt e) (fun e'=>by
  rcases e' with e' | e'
  ·exact m3.notCells e hb1 e'.symm
  ·exact h4 k e e')
 have hEn:Env w1:=hE.kept hkX hO
 have hw':BWr ts (canon (B++neg told)):=⟨fun r hr=>hw.ty r (by rw [Mo.canon_cnt] at hr;exact hr),fun r=>by rw [Mo.canon_cnt];exact hw.bd r,by rw [Mo.canon_of_rise (Mo.canon_rise _)];exact hw.len⟩
 refine (written_any uv _ w1 hu1 hw' hEn).mono fun e w2 hE2=> ?_
 obtain ⟨he2,hk2⟩:=hE2;have et:bagTxt (canon (B++neg told))=bagTxt (B++neg told):=bagTxt_eqv (Mo.canon_eqv _);rw [et] at he2
 refine ⟨he2,he2,oB W O (v+2),fun k hk=>oB_old (Nat.lt_of_lt_of_le hk hkW.size),hkX.seq (hk2.mono fun _ _ e=>e.elim),?_⟩
 have hV1:ViewAt w1 (oB W O (v+2)) v B B:=by
  refine ⟨by rw [oB_old (lt_of_heap hb1)];exact h0,held',.map none,g1,g2.eqv hsum,?_,fun k e=>by cases e⟩
  exact (MemAt.nil w1 _ v).eqv fun r=>by rw [Mo.cnt_append,Mo.cnt_neg];simp [Mo.cnt];omega
 exact hV1.stab fun k hk _=>⟨hk2.block k hk (fun e=>e),rfl⟩
open Mo (V Row Bag cnt canon Eqv Nr nn)
structure BdP (p:Bag × Bag):Prop where
 n1:nn p.1
 c1:∀ r,cnt p.1 r≤1000000
 c2:∀ r,-1000000≤cnt p.2 r∧cnt p.2 r≤1000000
 r1: -1000000≤Nr p.1∧Nr p.1≤1000000
 r2: -1000000≤Nr p.2∧Nr p.2≤1000000
def covB (p:Bag × Bag):Bool:=p.2.all fun e=>decide (0≤cnt p.1 e.1+cnt p.2 e.1)
def bearP:List (Bag × Bag)→Int→Int
 | [],n=>if 60<n then 8 else 0
 | p::l,n=>if covB p=true then bearP l (n+(Nr p.1+Nr p.2)) else 7
theorem nw {a:Int} (h1: -2000000≤a) (h2:a≤2000000):wrap64 a=a:=by unfold wrap64;omega
theorem covB_iff {p:Bag × Bag} (h:BdP p) (ok:∀ e∈p.2,ROk e.1):covB p=true↔Bears p.1 p.2:=by
 have e0:∀ r,wrap64 (cnt p.2 r)=cnt p.2 r:=fun r=>nw (by have:=h.c2 r;omega) (by have:=h.c2 r;omega)
 have e1:∀ r,wrap64 (cnt p.1 r)=cnt p.1 r:=fun r=>nw (by have:=h.n1 r;omega) (by have:=h.c1 r;omega)
 have e2:∀ r,wrap64 (cnt p.1 r+cnt p.2 r)=cnt p.1 r+cnt p.2 r:=fun r=>nw (by have:=h.c2 r;have:=h.n1 r;omega) (by have:=h.c2 r;have:=h.c1 r;omega)
 unfold covB Bears;rw [List.all_eq_true]
 constructor
 ·intro hh r hr hne
  rw [e0] at hne;rw [e0,e1,e2];obtain ⟨x,hx,rfl⟩:=Mo.Rise.mem_of_cnt hne
  simpa using hh x hx
 ·intro hh e he
  by_cases hz:cnt p.2 e.1=0
  ·have:=h.n1 e.1
   simp;omega
  ·have:=hh e.1 (ok e he) (by rw [e0];exact hz)
   rw [e0,e1,e2] at this
   simpa using this
theorem rows_small {l es:Bag} (h:AllOf l es) (ok:∀ e∈l,ROk e.1) (hb:∀ r,-1000000≤cnt l r∧cnt l r≤1000000):tot es=Nr l:=by
 have he:Eqv es l:=fun r=>by rw [h.cnt ok,nw (by have:=hb r;omega) (by have:=hb r;omega)]
 exact he.lin _
def BearAt (w:World) (v cv:Value) (ps:List (Bag × Bag)):Prop:=∃ a cap g ccap,v=.slice a ps.length cap∧ps.length≤cap∧cap≤maxLen∧cv=.slice (some ⟨g,0,none⟩) ps.length ccap∧g<w.heap.size ∧
 ∀ i p,ps[i]? =some p→∃ b o blk hv c,a=some ⟨b,o,none⟩∧b<w.heap.size∧blk<w.heap.size∧w.cell? ⟨b,o+i,none⟩=some (.pointer (some ⟨blk,0,none⟩))∧w.cell? ⟨blk,1,none⟩=some hv∧BagV w hv p.1∧w.cell? ⟨g,i,none⟩=some (.map (some c))∧BagAt w c p.2
theorem BearAt.kept {w w':World} {v cv:Value} {ps:List (Bag × Bag)} (h:BearAt w v cv ps) (k:Kept No w w'):BearAt w' v cv ps:=by
 obtain ⟨a,cap,g,ccap,h1,h2,h3,h4,h5,h6⟩:=h
 refine ⟨a,cap,g,ccap,h1,h2,h3,h4,Nat.lt_of_lt_of_le h5 k.size,fun i p hp=> ?_⟩
 obtain ⟨b,o,blk,hv,c,e1,e2,e3,e4,e5,e6,e7,e8⟩:=h6 i p hp
 exact ⟨b,o,blk,hv,c,e1,Nat.lt_of_lt_of_le e2 k.size,Nat.lt_of_lt_of_le e3 k.size,(k.cell e2 (fun e=>e)).trans e4,(k.cell e3 (fun e=>e)).trans e5,e6.keptNo k,(k.cell h5 (fun e=>e)).trans e7,e8.kept k (fun e=>e)⟩
theorem bear_any (v cv:Value) (ps:List (Bag × Bag)) (w:World) (h:BearAt w v cv ps) (hl:ps.length≤100) (hb:∀ p∈ps,BdP p) :
 Calls Tryz.prog 46 #[v,cv] w fun e w'=>e=.returned (.int .i64 (bearP ps 0))∧Kept No w w':=by
 have H:=hid h;have HB:=hid hb;obtain ⟨a,cap,g,ccap,rfl,h2,h3,rfl,h5,-⟩:=h;obtain ⟨n,hn⟩:∃ n,ps.length=n:=⟨_,rfl⟩;have HN:=hid hn;rw [hn] at H h2 hl ⊢
 have hcap:cap≤9223372036854775807:=by unfold maxLen at h3;omega
 clear hb hn h3
 go_enter Tryz.func46,Tryz.ntmps46
 go_wp2_with fail
 go_loopg [5,10] n (fun k v5 v10 wr=>∃ (i:Nat) (R:Int),i+k=n∧v10=.int .i64 (i:Int)∧v5=.int .i64 R∧Hid (bearP (ps.drop i) R=bearP ps 0)∧Hid (-(2000000*(i:Int))≤R∧R≤2000000*(i:Int))∧Hid (Kept No w wr))
 case atStart=>exact ⟨0,0,by omega,rfl,rfl,hid rfl,hid (by omega),hid (Kept.refl _ _)⟩
 case round =>
  obtain ⟨i,R,hik,rfl,rfl,hP,hR,hK⟩:=hrel
  cases gk with
  | zero =>
    have hx:¬(i:Int)<(n:Int):=by omega
    have HP2:Hid (bearP ps 0=if 60<R then 8 else 0):=by
     show _=_
     rw [←hP.out,List.drop_eq_nil_of_le (by have:=HN.out;omega)];rfl
    by_cases h60:60<R
    ·have HF:Hid (bearP ps 0=8):=by show _=_;rw [HP2.out,if_pos h60]
     go_wp2_with fail;go_ret;exact ⟨ret_int HF.out.symm,hK.out⟩
    ·have HF:Hid (bearP ps 0=0):=by show _=_;rw [HP2.out,if_neg h60]
     go_wp2_with fail;go_ret;exact ⟨ret_int HF.out.symm,hK.out⟩
  | succ k =>
    have hx:(i:Int)<(n:Int):=by omega
    have hx0:(0:Int)≤(i:Int):=by omega
    obtain ⟨p,hp⟩:∃ p,ps[i]? =some p:=⟨_,List.getElem?_eq_getElem (by have:=HN.out;omega)⟩
    have hbd:=HB.out p (List.mem_of_getElem? hp)
    have hdr:ps.drop i=p::ps.drop (i+1):=by
     rw [List.drop_eq_getElem_cons (by have:=HN.out;omega)]
     have:=(List.getElem?_eq_some_iff.1 hp).2
     rw [this]
    have HD:Hid (bearP ps 0=if covB p=true then bearP (ps.drop (i+1)) (R+(Nr p.1+Nr p.2)) else 7):=by show _=_;rw [←hP.out,hdr];rfl
    have hBA:BearAt w (.slice a ps.length cap) (.slice (some ⟨g,0,none⟩) ps.length ccap) ps:=by have:=H.out;rw [←HN.out] at this;exact this
    obtain ⟨a',cap',g',ccap',e1,-,-,e2,-,h6⟩:=hBA.kept hK.out
    injection e1 with e1 _ e3
    subst e1 e3
    injection e2 with e2 _ e4
    injection e2 with e2
    injection e2 with e2
    subst e2 e4;obtain ⟨b,o,blk,hv,c,rfl,q1,q2,q3,q4,q5,q6,q7⟩:=h6 i p hp;obtain ⟨mv,rfl⟩:=q5.is;have hgl:g<wr.heap.size:=Nat.lt_of_lt_of_le h5 hK.out.size;have HBV:=hid q5;have HBA2:=hid q7
    have HCov:=hid (covers_any (.map mv) c p.1 p.2 wr.drew (q5.keptNo ((Kept.refl No wr).drew)) (q7.kept ((Kept.refl No wr).drew) (fun e=>e)))
    have HCI:=hid (covB_iff hbd q7.1);have HOk2:=hid q7.1;have HOk1:=hid q5.ok;have HBd:=hid hbd;clear hp hdr hBA h6 q5 q7 hbd;go_wp2_with fail
    go_region_held3 (fun w'=>w'.cell? ⟨blk,1,none⟩=some (.map mv)∧w'.cell? ⟨g,i,none⟩=some (.map (some c))) (go_keep)
     (first
       | (go_at_call 81
          refine HCov.out.mono ?_;rintro e w1 ⟨ok,hok,rfl,hk1⟩
          have f0:w1.cell? ⟨blk,1,none⟩=some (.map mv):=(hk1.cell q2 (fun z=>z)).trans q4
          have f1:w1.cell? ⟨g,i,none⟩=some (.map (some c)):=(hk1.cell hgl (fun z=>z)).trans q6
          have HK1:=hid (((Kept.refl No wr).drew).seq hk1);have HOK:=hid (hok.trans HCI.out.symm)
          clear hk1 hok))
    have hs1:=HK1.out.size;clear HCov HCI q3 q4 q6
    cases ok
    ·have HF:Hid (bearP ps 0=7):=by
      show _=_
      rw [HD.out,if_neg (fun e=>by have:=HOK.out.2 e;cases this)]
     clear f0 f1;go_wp2_with fail;go_ret;exact ⟨ret_int HF.out.symm,hK.out.seq HK1.out⟩
    ·have HD2:Hid (bearP (ps.drop (i+1)) (R+(Nr p.1+Nr p.2))=bearP ps 0):=by
      show _=_
      rw [HD.out,if_pos (HOK.out.1 rfl)]
     have HRA:Hid (∀ w',Kept No wr w'→Calls Tryz.prog 82 #[.map mv] w' fun e w''=>e=.returned (.int .i64 (Nr p.1))∧Kept No w' w''):=by
      refine hid ?_;intro w' hk;refine (rows_any (.map mv) p.1 w' (HBV.out.keptNo hk)).mono ?_;rintro e w'' ⟨es,h1,rfl,h2⟩
      have:=rows_small h1 HOk1.out (fun r=>⟨by have:=HBd.out.n1 r;omega,HBd.out.c1 r⟩)
      exact ⟨by rw [this,nw (by have:=HBd.out.r1;omega) (by have:=HBd.out.r1;omega)],h2⟩
     have HRB:Hid (∀ w',Kept No wr w'→Calls Tryz.prog 82 #[.map (some c)] w' fun e w''=>e=.returned (.int .i64 (Nr p.2))∧Kept No w' w''):=by
      refine hid ?_;intro w' hk
      refine (rows_any (.map (some c)) p.2 w' (.inr ⟨c,rfl,HBA2.out.kept hk (fun e=>e)⟩)).mono ?_
      rintro e w'' ⟨es,h1,rfl,h2⟩
      have:=rows_small h1 HOk2.out (fun r=>HBd.out.c2 r)
      exact ⟨by rw [this,nw (by have:=HBd.out.r2;omega) (by have:=HBd.out.r2;omega)],h2⟩
     have hr1:=HBd.out.r1;have hr2:=HBd.out.r2;have hRR:=hR.out;obtain ⟨n1,hn1⟩:∃ n1,Nr p.1=n1:=⟨_,rfl⟩;obtain ⟨n2,hn2⟩:∃ n2,Nr p.2=n2:=⟨_,rfl⟩;rw [hn1] at hr1 HRA HD2;rw [hn2] at hr2 HRB HD2
     have hz1:wrap64 (n1+n2)=n1+n2:=by unfold wrap64;omega
     have hz2:wrap64 (R+(n1+n2))=R+(n1+n2):=by unfold wrap64;omega
     have q2':=Nat.lt_of_lt_of_le q2 hs1;have hgl':=Nat.lt_of_lt_of_le hgl hs1;clear hn1 hn2 HD HOK;go_wp2_with fail
     go_region_held3 (fun w'=>w'.cell? ⟨blk,1,none⟩=some (.map mv)∧w'.cell? ⟨g,i,none⟩=some (.map (some c))) (go_keep)
      (first
        | (go_at_call 82
           refine (HRB.out _ HK2.out).mono ?_;rintro e w3 ⟨rfl,hk3⟩
           have k0:w3.cell? ⟨blk,1,none⟩=some (.map mv):=(hk3.cell (Nat.lt_of_lt_of_le q2' hs2) (fun z=>z)).trans g0
           have k1:w3.cell? ⟨g,i,none⟩=some (.map (some c)):=(hk3.cell (Nat.lt_of_lt_of_le hgl' hs2) (fun z=>z)).trans g1
           have HK3:=hid (HK2.out.seq hk3)
           clear hk3)
        | (go_at_call 82
           refine (HRA.out _ (HK1.out.drew)).mono ?_;rintro e w2 ⟨rfl,hk2⟩
           have g0:w2.cell? ⟨blk,1,none⟩=some (.map mv):=(hk2.cell q2' (fun z=>z)).trans f0
           have g1:w2.cell? ⟨g,i,none⟩=some (.map (some c)):=(hk2.cell hgl' (fun z=>z)).trans f1
           have HK2:=hid (HK1.out.drew.seq hk2);have hs2:=hk2.size
           clear hk2))
     clear f0 f1 g0 g1 k0 k1
     have HZ:Hid (IntKind.i64.wrap (R+IntKind.i64.wrap (n1+n2))=R+(n1+n2)):=by
      have e1:IntKind.i64.wrap (n1+n2)=n1+n2:=by rw [IntKind.wrap_i64];omega
      have e2:IntKind.i64.wrap (R+(n1+n2))=R+(n1+n2):=by rw [IntKind.wrap_i64];omega
      show _=_
      rw [e1,e2]
     have HRN:Hid (-(2000000*((i:Int)+1))≤R+(n1+n2)∧R+(n1+n2)≤2000000*((i:Int)+1)):=by
      show _∧_;omega
     clear hz1 hz2 hRR hr1 hr2;go_wp2_with fail;go_roundg k
     case measure=>omega
     case rel=>exact ⟨i+1,R+(n1+n2),by omega,by go_num,by rw [HZ.out],HD2,by push_cast;exact HRN,hid (hK.out.seq HK3.out)⟩
end Go.Proofs.YtdinjjmcmfjbfaaGreatDoor
