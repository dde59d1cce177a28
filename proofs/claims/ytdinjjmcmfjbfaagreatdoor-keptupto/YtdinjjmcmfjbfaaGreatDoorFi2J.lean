import Derived.Test.YtdinjjmcmfjbfaaGreatDoorBt2J
import Derived.Test.YtdinjjmcmfjbfaaGreatDoorOcJ
import Derived.WalkMore
set_option maxRecDepth 100000
set_option maxHeartbeats 4000000
namespace Go.Proofs.YtdinjjmcmfjbfaaGreatDoor
open Go.RowKit
open Mo (V Row)
theorem rowAt_of_owns {w:World} {base:Nat} {v:Value} {r:Row} (h:w.ownsRow base 133 6 v r.length (r.flatMap encV)) (hr:r≠[]):RowAt w v r:=by
 rcases h with ⟨_,⟨_,h0⟩ | ⟨g,cap,cur,rfl,_,hg,h1,h2,h3,h4⟩⟩
 ·exact absurd (List.eq_nil_of_length_eq_zero h0) hr
 ·refine ⟨g,0,cap,cur,(0,0),rfl,hg,h1,fun i v hv j x hx=> ?_⟩
  have:=enc_get r i v hv j x hx
  rw [←h4,List.getElem?_take] at this
  split at this
  ·rw [Nat.zero_add,←Array.getElem?_toList];exact this
  ·cases this
def ordC (x:Value × Ord):List Value:=[.string ⟨x.2.name.toArray⟩,x.1,.int .i64 x.2.t]
def OrdsAt (w:World) (base:Nat) (v:Value) (xs:List (Value × Ord)):Prop:=w.ownsRow base 164 3 v xs.length (xs.flatMap ordC)∧∀ x∈xs,RowAt w x.1 x.2.row
theorem ownsRow_keptT {S:Nat→Prop} {w w':World} {base:Nat} {e:TypeId} {size:Nat} {v:Value} {n:Nat} {xs:List Value} (h:w.ownsRow base e size v n xs) (k:Kept S w w') (hS:∀ i,S i→¬Is e w i):w'.ownsRow base e size v n xs:=by
 refine ⟨h.1,?_⟩
 rcases h.2 with hn | ⟨g,cap,cur,rfl,hb,hg,hrest⟩
 ·exact .inl hn
 ·exact .inr ⟨g,cap,cur,rfl,hb,(k.block g (lt_of_heap hg) (fun z=>hS g z ⟨cur,_,hg⟩)).trans hg,hrest⟩
theorem OrdsAt.kept {S:Nat→Prop} {w w':World} {base:Nat} {v:Value} {xs:List (Value × Ord)} (h:OrdsAt w base v xs) (k:Kept S w w') (hS:∀ i,S i→¬Is 164 w i∧¬Is 133 w i):OrdsAt w' base v xs :=
 ⟨ownsRow_keptT h.1 k (fun i z=>(hS i z).1),fun x hx=>(h.2 x hx).kept k (fun i z=>(hS i z).2)⟩
theorem cells_ne_own {w:World} {b:Nat} {c:Array Value} {t e:TypeId} {z:Nat × Nat} (hb:w.heap[b]? =some (.cells c t z)) (ht:t≠e) {base size n:Nat} {v:Value} {xs:List Value} (h:w.ownsRow base e size v n xs):some b≠v.ownBlock:=by
 rcases h.2 with ⟨rfl,_⟩ | ⟨g,cap,cur,rfl,_,hg,_⟩
 ·simp [Value.ownBlock]
 ·simp only [Value.ownBlock]
  intro e'
  injection e' with e'
  subst e';rw [hb] at hg
  injection hg with hg
  injection hg with _ h2
  exact ht h2
theorem kept_box {B P:Nat} {w wa w1:World} (h:Kept (·=B) w wa) (k:Kept (fun k=>k=B∨k=P) wa w1) (hP:w.heap.size≤P):Kept (·=B) w w1 :=
 h.trans k (fun _ e=>e) (fun i hi e=>by rcases e with e | e;exact e;omega)
theorem sign_spec {s:ByteArray} {a a1:Nat} {ok:Bool} (h:Pl.orP (Pl.tk s 43) (Pl.tk s 45) a=(ok,a1)):(ok=true↔(Pl.bt s a=43∨Pl.bt s a=45))∧(ok=true→a1=a+1):=by
 unfold Pl.orP Pl.tk at h
 by_cases h1:Pl.bt s a=43
 ·rw [if_pos h1] at h;simp at h;obtain ⟨rfl,rfl⟩:=h;simp [h1]
 ·rw [if_neg h1] at h
  simp only [Bool.false_eq_true,if_false] at h
  by_cases h2:Pl.bt s a=45
  ·rw [if_pos h2] at h;simp at h;obtain ⟨rfl,rfl⟩:=h;simp [h2]
  ·rw [if_neg h2] at h;simp at h;obtain ⟨rfl,rfl⟩:=h;simp [h1,h2]
theorem tk_spec {s:ByteArray} {c a a1:Nat} {ok:Bool} (h:Pl.tk s c a=(ok,a1)):(ok=true↔Pl.bt s a=c)∧a1=if ok=true then a+1 else a:=by
 unfold Pl.tk at h
 by_cases h1:Pl.bt s a=c
 ·rw [if_pos h1] at h;simp at h;obtain ⟨rfl,rfl⟩:=h;simp [h1]
 ·rw [if_neg h1] at h;simp at h;obtain ⟨rfl,rfl⟩:=h;simp [h1]
def BatchEnd (B:Nat) (w:World) (R:Option (List Ord)) (e:Ending) (w':World):Prop :=
 (R=none∧e=.returned (.tuple #[.slice none 0 0,.bool false])∨∃ v xs,R=some (xs.map (·.2))∧e=.returned (.tuple #[v,.bool true])∧OrdsAt w' w.heap.size v xs)∧Kept (·=B) w w'
theorem infoV6:(Tryz.prog.info? 133).map (fun i=>(i.zero,i.size,i.bytes))=some (some (.agg #[.int .i32 0,.int .u8 0,.int .u8 0,.int .u8 0,.int .u8 0,.int .i64 0]),6,16):=by kernel_rfl
theorem news_of {w:World} {t:TypeId} {cs:Array Value}:∀ j x,cs.toList[j]? =some x→(w.alloc (.cells cs t)).cell? ((⟨w.heap.size,0,none⟩:Addr).add j)=some x:=World.news_of_block (heap_alloc_last w _)
theorem infoO:(Tryz.prog.info? 164).map (fun i=>(i.zero,i.size,i.bytes))=some (some (.agg #[.string ⟨#[]⟩,.slice none 0 0,.int .i64 0]),3,48):=by kernel_rfl
theorem batch_any (B:Nat) (s:ByteArray) (w:World) (hs:s.size≤300) (h:RP B s 0 w) :
 Calls Tryz.prog 43 #[.pointer (some ⟨B,0,none⟩)] w (BatchEnd B w (batchP s)):=by
 have HH:=hid h;have hBl:=lt_of_heap h.2
 have hs':s.size≤1000:=by omega
 obtain ⟨iv,hiv,hv0,hv1,hv2⟩:=info_parts infoV6;obtain ⟨io,hio,ho0,ho1,ho2⟩:=info_parts infoO;clear h
 go_enter Tryz.func43,Tryz.ntmps43
 go_wp2_with fail
 go_step3
 go_wp2_with fail;refine (ended_any B s 0 _ HH.out).mono ?_;rintro e w0 ⟨rfl,hk0⟩;have HK0:=hid hk0
 by_cases hz:s.size=0
 ·have hz':decide (0=s.size)=true:=by simp [hz]
  rw [hz']
  have HB:Hid (batchP s=some []):=by show _=_;unfold batchP;rw [if_pos hz]
  clear hk0 hz;go_wp2_with fail
  try rw [Exit.noGoto_ret]
  go_ret2
  exact ⟨.inr ⟨_,[],HB.out,rfl,World.ownsRow_nil _ _ _ _,by simp⟩,HK0.out.any⟩
 have hz':decide (0=s.size)=false:=by simp;omega
 rw [hz']
 have HBP:Hid (ordersP s (s.size+1) 0 []=batchP s):=by show _=_;unfold batchP;rw [if_neg hz]
 have hr0:RP B s 0 w0:=⟨by omega,(hk0.block B hBl (fun z=>z)).trans HH.out.2⟩
 have HR0:=hid hr0;clear hk0 hz hr0;go_wp2_with fail
 go_step3
 go_wp2_with fail
 go_loopg [4] (s.size+1) (fun k v4 wr=>∃ (c:Nat) (xs:List (Value × Ord)),s.size+1≤c+k∧xs.length≤c∧Hid (RP B s c wr)∧Hid (OrdsAt wr w.heap.size v4 xs)∧Kept (·=B) w wr∧Hid (ordersP s k c (xs.map (·.2))=batchP s))
 case atStart=>exact ⟨0,[],by omega,by simp,HR0,hid ⟨World.ownsRow_nil _ _ _ _,by simp⟩,HK0.out.any,HBP⟩
 case round =>
  obtain ⟨c,xs,hck,hxc,hp,hO,hK,hS⟩:=hrel;have hc:=hp.out.1
  obtain ⟨k,rfl⟩:∃ k,gk=k+1:=⟨gk-1,by omega⟩
  have hBw:B<wr.heap.size:=lt_of_heap hp.out.2;have HK:=hid hK;clear hK;have hra:RP B s c (wr.alloc (.cells #[.string ⟨#[]⟩,.slice none 0 0,.int .i64 0] 164)):=⟨hc,(Below.heap_alloc _ _ _ hBw).trans hp.out.2⟩;have HRa:=hid hra;clear hra;have hna:(wr.alloc (.cells #[.string ⟨#[]⟩,.slice none 0 0,.int .i64 0] 164)).heap[wr.heap.size]? =some (.cells #[.string ⟨#[]⟩,.slice none 0 0,.int .i64 0] 164 (0,0)):=(MapKept.heap_alloc wr _).1;have HNa:=hid hna
  have HKa:Hid (Kept (·=B) wr (wr.alloc (.cells #[.string ⟨#[]⟩,.slice none 0 0,.int .i64 0] 164))):=(Kept.refl _ _).alloc _
  clear hna;go_wp2_with fail
  refine (sign_any B wr.heap.size 2 s c #[.string ⟨#[]⟩,.slice none 0 0,.int .i64 0] 164 _ hs' (by omega) HRa.out HNa.out (by simp)).mono ?_
  rintro e w1 ⟨ok1,a1,x1,rfl,p1,k1,c1⟩;obtain ⟨hsg,hsa⟩:=sign_spec x1;have P1:=hid p1;have C1:Hid (w1.heap[wr.heap.size]? =some (.cells #[.string ⟨#[]⟩,.slice none 0 0,.int .i64 (signT s c)] 164 (0,0))):=c1;have HK1:=hid (kept_box HKa.out k1 (Nat.le_refl _));clear x1 p1 k1 c1
  cases ok1
  ·have HX:Hid (batchP s=none):=by
    show _=_
    rw [←hS.out,ordersP,if_neg (fun z=>by have:=hsg.2 z;cases this)]
   clear hsg hsa;go_wp2_with fail
   try rw [Exit.noGoto_ret]
   go_ret2;exact ⟨.inl ⟨HX.out,rfl⟩,HK.out.seq HK1.out⟩
  obtain rfl:=hsa rfl;have hsg':=hsg.1 rfl;have HSg:=hid hsg'
  have hcl:c<s.size:=Pl.bt_lt (s:=s) (a:=c) (by omega)
  clear hsg hsg' hsa;go_wp2_with fail
  refine (word_any B wr.heap.size 0 4 4 s (c+1) #[.string ⟨#[]⟩,.slice none 0 0,.int .i64 (signT s c)] 164 _ hs' (by omega) rfl (by omega) P1.out C1.out (by simp)).mono ?_
  rintro e w2 ⟨ok2,a2,x2,rfl,p2,k2,c2⟩;have X2:Hid (Pl.let4 s (c+1)=(ok2,a2)):=x2;have P2:=hid p2;have HK2:=hid (kept_box HK1.out k2 (Nat.le_refl _));have C2:=hid c2
  have hle2:c+1≤a2:=by have:=Pl.many_le s 97 122 4 (c+1);unfold Pl.sev at x2;injection x2 with _ h2;omega
  clear x2 p2 k2 c2
  cases ok2
  ·have HX:Hid (batchP s=none):=by
    show _=_
    rw [←hS.out,ordersP,if_pos HSg.out,X2.out,if_neg (by simp)]
   go_wp2_with fail
   try rw [Exit.noGoto_ret]
   go_ret2;exact ⟨.inl ⟨HX.out,rfl⟩,HK.out.seq HK2.out⟩
  have C2':Hid (w2.heap[wr.heap.size]? =some (.cells #[.string (s.extract (c+1) a2),.slice none 0 0,.int .i64 (signT s c)] 164 (0,0))):=C2.out;clear C2;go_wp2_with fail
  refine (take_any B s a2 40 40 _ hs' (by omega) rfl P2.out).mono ?_
  rintro e w3 ⟨ok3,a3,x3,rfl,p3,k3⟩;obtain ⟨htk,hta⟩:=tk_spec x3;have P3:=hid p3
  have HK3:Hid (Kept (·=B) wr w3):=HK2.out.seq k3
  have C3:Hid (w3.heap[wr.heap.size]? =some (.cells #[.string (s.extract (c+1) a2),.slice none 0 0,.int .i64 (signT s c)] 164 (0,0))):=(k3.block _ (lt_of_heap C2'.out) (by omega)).trans C2'.out
  clear x3 p3 k3
  cases ok3
  ·have HX:Hid (batchP s=none):=by
    show _=_
    have:¬Pl.bt s a2=40:=fun z=>by have:=htk.2 z;cases this
    rw [←hS.out,ordersP,if_pos HSg.out,X2.out,if_pos rfl,if_neg this]
   clear htk hta;go_wp2_with fail
   try rw [Exit.noGoto_ret]
   go_ret2;exact ⟨.inl ⟨HX.out,rfl⟩,HK.out.seq HK3.out⟩
  have H40:Hid (Pl.bt s a2=40):=htk.1 rfl
  have ha3:a3=a2+1:=by rw [hta];simp
  subst ha3;have hl3:=P3.out.1;clear htk hta;obtain ⟨wo,rfl⟩:∃ wo:World,wo=wr:=⟨_,rfl⟩;obtain ⟨ko,hko⟩:∃ ko:Nat,ko=k:=⟨_,rfl⟩;rw [←hko] at hck hS;have HKo:=hid hko;clear hko;go_wp2_with fail
  go_loopg [4] (s.size+1) (fun kk v4 wi=>v4=u4∧∃ (cc:Nat) (r:Row) (rv:Value),s.size+1≤cc+kk∧r.length≤cc∧a2<cc∧Hid (RP B s cc wi)∧Hid (wi.heap[wo.heap.size]? =some (.cells #[.string (s.extract (c+1) a2),rv,.int .i64 (signT s c)] 164 (0,0)))∧Hid (wi.ownsRow wo.heap.size 133 6 rv r.length (r.flatMap encV))∧Kept (·=B) wo wi∧Hid (rowsP s kk cc r=rowsP s (s.size+1) (a2+1) []))
  case atStart=>exact ⟨rfl,a2+1,[],.slice none 0 0,by omega,by simp,by omega,P3,C3,hid (World.ownsRow_nil _ _ _ _),HK3.out,hid rfl⟩
  case round =>
   obtain ⟨rfl,cc,r,rv,hcc,hrc,hac,hpi,hoi,hri,hki,hSi⟩:=hrel;have hci:=hpi.out.1
   obtain ⟨kk,rfl⟩:∃ kk,gk=kk+1:=⟨gk-1,by omega⟩
   have hBi:B<wr.heap.size:=lt_of_heap hpi.out.2;have HKi:=hid hki;have hsi:=hki.size;clear hki;have HRv:Hid (RP B s cc (wr.alloc (.cells #[.int .i32 0,.int .u8 0,.int .u8 0,.int .u8 0,.int .u8 0,.int .i64 0] 133))):=⟨hci,(Below.heap_alloc _ _ _ hBi).trans hpi.out.2⟩;have HNv:Hid ((wr.alloc (.cells #[.int .i32 0,.int .u8 0,.int .u8 0,.int .u8 0,.int .u8 0,.int .i64 0] 133)).heap[wr.heap.size]? =some (.cells #[.int .i32 0,.int .u8 0,.int .u8 0,.int .u8 0,.int .u8 0,.int .i64 0] 133 (0,0))):=(MapKept.heap_alloc wr _).1
   have HKv:Hid (Kept (·=B) wr (wr.alloc (.cells #[.int .i32 0,.int .u8 0,.int .u8 0,.int .u8 0,.int .u8 0,.int .i64 0] 133))):=(Kept.refl _ _).alloc _
   go_wp2_with fail
   refine (value_any B wr.heap.size s cc #[.int .i32 0,.int .u8 0,.int .u8 0,.int .u8 0,.int .u8 0,.int .i64 0] _ hs' (by omega) HRv.out HNv.out rfl).mono ?_
   rintro e w4 ⟨ok4,a4,d4,x4,rfl,p4,k4,c4,e4⟩;have X4:=hid x4;have P4:=hid p4;have HK4:=hid (kept_box HKv.out k4 (Nat.le_refl _));have C4:=hid c4;have E4:=hid e4;clear x4 p4 k4 c4 e4
   cases ok4
   ·have HX:Hid (batchP s=none):=by
     show _=_
     have h1:rowsP s (s.size+1) (a2+1) []=none:=by rw [←hSi.out,rowsP,X4.out,if_neg (by simp)]
     rw [←hS.out,ordersP,if_pos HSg.out,X2.out,if_pos rfl,if_pos H40.out,h1]
    go_wp2_with fail
    try rw [Exit.noGoto_ret]
    go_ret2;exact ⟨.inl ⟨HX.out,rfl⟩,(HK.out.seq HKi.out).seq HK4.out⟩
   obtain ⟨vv,hvv⟩:∃ vv,valV s cc=vv:=⟨_,rfl⟩;have HVV:=hid hvv
   have hc4:w4.heap[wr.heap.size]? =some (.cells #[.int .i32 (kI vv),.int .u8 (tB vv 0),.int .u8 (tB vv 1),.int .u8 (tB vv 2),.int .u8 (tB vv 3),.int .i64 (nI vv)] 133 (0,0)):=by
    have:=C4.out
    rw [E4.out rfl,hvv] at this;exact this
   have d0:=cell_of hc4 0;have d1:=cell_of hc4 1;have d2:=cell_of hc4 2;have d3:=cell_of hc4 3;have d4:=cell_of hc4 4;have d5:=cell_of hc4 5;simp only [List.getElem?_toArray,List.getElem?_cons_zero,List.getElem?_cons_succ] at d0 d1 d2 d3 d4 d5
   have ho4:w4.heap[wo.heap.size]? =some (.cells #[.string (s.extract (c+1) a2),rv,.int .i64 (signT s c)] 164 (0,0)):=(HK4.out.block _ (lt_of_heap hoi.out) (by omega)).trans hoi.out
   have f1:=cell_of ho4 1;simp only [List.getElem?_toArray,List.getElem?_cons_zero,List.getElem?_cons_succ] at f1;have HO4:=hid ho4
   have hown4:w4.ownsRow wo.heap.size 133 6 rv r.length (r.flatMap encV):=ownsRow_keptT hri.out HK4.out (fun i z=>by subst z;rintro ⟨cx,zx,hx⟩;rw [hpi.out.2] at hx;injection hx with hx;injection hx with _ h2;exact absurd h2 (by decide))
   have HW4:=hid hown4
   have hml:r.length+1≤maxLen:=by unfold maxLen;omega
   have hb4:(r.length+1)*16≤140737488355328:=by omega
   have hs4:=HK4.out.size;clear hvv hc4 ho4 C4 E4 HRv HNv HKv;have hcn:=news_of (w:=w4) (t:=133) (cs:=#[.int .i32 (kI vv),.int .u8 (tB vv 0),.int .u8 (tB vv 1),.int .u8 (tB vv 2),.int .u8 (tB vv 3),.int .i64 (nI vv)])
   go_wp2_with (first
    | (at_builtin;refine wpList_append_own_at _ rfl _ _ 162 rfl wo.heap.size 133 iv (.agg #[.int .i32 0,.int .u8 0,.int .u8 0,.int .u8 0,.int .u8 0,.int .i64 0]) 6 16 Tryz.underlying162 hiv hv0 hv1 hv2 rfl (by decide) _ _ _ rfl (hown4.alloc _) ⟨w4.heap.size,0,none⟩ 1 1 [.int .i32 (kI vv),.int .u8 (tB vv 0),.int .u8 (tB vv 1),.int .u8 (tB vv 2),.int .u8 (tB vv 3),.int .i64 (nI vv)] rfl rfl hcn (by simp [Value.oneCell']) hml hb4 (by simp;omega) ?_;intro v' w5 hown5 hg5 _ _
       obtain ⟨g5,cap5,rfl⟩:∃ g cap,v'=.slice (some ⟨g,0,none⟩) (r.length+1) cap:=by rcases hown5.2 with ⟨_,h0⟩ | ⟨g,cap,_,rfl,_⟩;exact absurd h0 (by omega);exact ⟨g,cap,rfl⟩
       have ho5:w5.heap[wo.heap.size]? =some (.cells #[.string (s.extract (c+1) a2),rv,.int .i64 (signT s c)] 164 (0,0)):=(hg5.block _ (by have:=lt_of_heap HO4.out;simp;omega) (cells_ne_own HO4.out (by decide) hown4)).trans ((Below.heap_alloc _ _ _ (lt_of_heap HO4.out)).trans HO4.out)
       have f5:=cell_of ho5 1;have z5:=frozen_of ho5 1
       simp only [List.getElem?_toArray,List.getElem?_cons_zero,List.getElem?_cons_succ] at f5)
    | fail)
   obtain ⟨W6,hW6⟩:∃ W6,w5.setCell ⟨wo.heap.size,1,none⟩ (.slice (some ⟨g5,0,none⟩) (r.length+1) cap5)=W6:=⟨_,rfl⟩;rw [hW6]
   have hk56:Kept (·=wo.heap.size) w5 W6:=by rw [←hW6];exact (Kept.refl (·=wo.heap.size) w5).setCell (g:=wo.heap.size) (.inr rfl) _
   have hob:w5.heap[wo.heap.size]? =some (.cells #[.string (s.extract (c+1) a2),rv,.int .i64 (signT s c)] 164 (0,0)):=ho5
   have HO6:Hid (W6.heap[wo.heap.size]? =some (.cells #[.string (s.extract (c+1) a2),.slice (some ⟨g5,0,none⟩) (r.length+1) cap5,.int .i64 (signT s c)] 164 (0,0))):=by
    have:=heap_set hob 1 (.slice (some ⟨g5,0,none⟩) (r.length+1) cap5)
    rw [hW6] at this;exact this
   have HW6:Hid (W6.ownsRow wo.heap.size 133 6 (.slice (some ⟨g5,0,none⟩) (r.length+1) cap5) (r++[valV s cc]).length ((r++[valV s cc]).flatMap encV)):=by
    have h1:=ownsRow_keptT hown5 hk56 (fun i z=>by subst z;rintro ⟨cx,zx,hx⟩;rw [hob] at hx;injection hx with hx;injection hx with _ h2;exact absurd h2 (by decide))
    have e1:(r++[valV s cc]).flatMap encV=r.flatMap encV++[.int .i32 (kI vv),.int .u8 (tB vv 0),.int .u8 (tB vv 1),.int .u8 (tB vv 2),.int .u8 (tB vv 3),.int .i64 (nI vv)]:=by rw [List.flatMap_append,HVV.out];rfl
    have e2:(r++[valV s cc]).length=r.length+1:=by simp
    show World.ownsRow _ _ _ _ _ _ _
    rw [e1,e2];exact h1
   have hB4:B<w4.heap.size:=lt_of_heap P4.out.2
   have hB5:w5.heap[B]? =w4.heap[B]? :=(hg5.block B (by simp;omega) (cells_ne_own P4.out.2 (by decide) hown4)).trans (Below.heap_alloc _ _ _ hB4)
   have HP6:Hid (RP B s a4 W6):=⟨P4.out.1,(hk56.block B (by have:=hg5.size;simp at this;omega) (by omega)).trans (hB5.trans P4.out.2)⟩
   have HK6:Hid (Kept (·=B) wo W6):=by
    have h1:Kept (·=B) wo w5:=((HKi.out.seq HK4.out).alloc _).grown hg5 (fun x hx=>.inl (own_base hown4 x hx))
    exact h1.trans hk56 (fun _ e=>e) (fun i hi e=>by omega)
   clear hk56 hob hB5 hg5 hown5 ho5 f5 z5 hcn f1 d0 d1 d2 d3 d4 d5 hown4 hW6;have ha4:=P4.out.1
   have hcc4:cc<a4:=by
    have h1:=X4.out;unfold valP Pl.orP at h1
    by_cases hl:(Pl.let4 s cc).1=true
    ·rw [if_pos hl] at h1
     have h2:Pl.let4 s cc=(true,a4):=by
      have h3:(Pl.let4 s cc).2=a4:=by simpa using h1
      exact Prod.ext hl h3
     exact (sev_sub (by omega) hci h2).1
    ·rw [if_neg hl] at h1
     have h3:(Pl.let4 s cc).2=cc:=by
      unfold Pl.let4 Pl.sev at hl ⊢;have h3:=Pl.many_le s 97 122 4 cc
      have h4:¬cc<Pl.many s 97 122 4 cc:=by simpa using hl
      show Pl.many s 97 122 4 cc=cc;omega
     rw [h3] at h1;exact (numP_sub hci h1).1
   refine (take_any B s a4 44 44 _ hs' (by omega) rfl HP6.out).mono ?_
   rintro e w7 ⟨ok7,a7,x7,rfl,p7,k7⟩;obtain ⟨ht7,hta7⟩:=tk_spec x7;have P7:=hid p7
   have HK7:Hid (Kept (·=B) wo w7):=HK6.out.seq k7
   have hB6:∀ t,t≠93→∀ i,i=B→¬Is t W6 i:=fun t ht i z=>by subst z;rintro ⟨cx,zx,hx⟩;rw [HP6.out.2] at hx;injection hx with hx;injection hx with _ h2;exact ht h2.symm
   have HO7:Hid (w7.heap[wo.heap.size]? =some (.cells #[.string (s.extract (c+1) a2),.slice (some ⟨g5,0,none⟩) (r.length+1) cap5,.int .i64 (signT s c)] 164 (0,0))):=(k7.block _ (lt_of_heap HO6.out) (by omega)).trans HO6.out
   have HW7:Hid (w7.ownsRow wo.heap.size 133 6 (.slice (some ⟨g5,0,none⟩) (r.length+1) cap5) (r++[valV s cc]).length ((r++[valV s cc]).flatMap encV)):=ownsRow_keptT HW6.out k7 (hB6 _ (by decide))
   clear x7 p7 k7 hB6;have hl7:=P7.out.1
   cases ok7
   ·have H44:Hid (¬Pl.bt s a4=44):=fun z=>by have:=ht7.2 z;cases this
    obtain rfl:a7=a4:=by rw [hta7];simp
    clear ht7 hta7;go_wp2_with fail
    refine (take_any B s a7 41 41 _ hs' (by omega) rfl P7.out).mono ?_
    rintro e w8 ⟨ok8,a8,x8,rfl,p8,k8⟩;obtain ⟨ht8,hta8⟩:=tk_spec x8;have P8:=hid p8
    have HK8:Hid (Kept (·=B) wo w8):=HK7.out.seq k8
    have hB7:∀ t,t≠93→∀ i,i=B→¬Is t w7 i:=fun t ht i z=>by subst z;rintro ⟨cx,zx,hx⟩;rw [P7.out.2] at hx;injection hx with hx;injection hx with _ h2;exact ht h2.symm
    have ho8:w8.heap[wo.heap.size]? =some (.cells #[.string (s.extract (c+1) a2),.slice (some ⟨g5,0,none⟩) (r.length+1) cap5,.int .i64 (signT s c)] 164 (0,0)):=(k8.block _ (lt_of_heap HO7.out) (by omega)).trans HO7.out
    have HW8:Hid (w8.ownsRow wo.heap.size 133 6 (.slice (some ⟨g5,0,none⟩) (r.length+1) cap5) (r++[valV s cc]).length ((r++[valV s cc]).flatMap encV)):=ownsRow_keptT HW7.out k8 (hB7 _ (by decide))
    clear x8 p8 k8 hB7
    cases ok8
    ·have HX:Hid (batchP s=none):=by
      show _=_
      have hn:¬Pl.bt s a7=41:=fun z=>by have:=ht8.2 z;cases this
      have h1:rowsP s (s.size+1) (a2+1) []=none:=by rw [←hSi.out,rowsP,X4.out,if_pos rfl,if_neg H44.out,if_neg hn]
      rw [←hS.out,ordersP,if_pos HSg.out,X2.out,if_pos rfl,if_pos H40.out,h1]
     clear ht8 hta8 ho8;go_wp2_with fail
     try rw [Exit.noGoto_ret]
     go_ret2;exact ⟨.inl ⟨HX.out,rfl⟩,HK.out.seq HK8.out⟩
    have H41:Hid (Pl.bt s a7=41):=ht8.1 rfl
    obtain rfl:a8=a7+1:=by rw [hta8];simp
    have hl8:=P8.out.1;clear ht8 hta8
    have HRW:Hid (rowsP s (s.size+1) (a2+1) []=some (r++[valV s cc],a7+1)):=by
     show _=_
     rw [←hSi.out,rowsP,X4.out,if_pos rfl,if_neg H44.out,if_pos H41.out]
    have d0:=cell_of ho8 0;have d1:=cell_of ho8 1;have d2:=cell_of ho8 2;simp only [List.getElem?_toArray,List.getElem?_cons_zero,List.getElem?_cons_succ] at d0 d1 d2
    have hBo:∀ i,i=B→¬Is 164 wo i∧¬Is 133 wo i:=fun i z=>by
     subst z
     constructor <;> (rintro ⟨cx,zx,hx⟩;rw [hp.out.2] at hx;injection hx with hx;injection hx with _ h2;exact absurd h2 (by decide))
    have ho8':=hO.out.kept HK8.out hBo;have HOr8:=hid ho8';have hrow8:=ho8'.1
    have HRow8:Hid (RowAt w8 (.slice (some ⟨g5,0,none⟩) (r.length+1) cap5) (r++[valV s cc])):=rowAt_of_owns HW8.out (by simp)
    have hcn8:=news_of (w:=w8) (t:=164) (cs:=#[.string (s.extract (c+1) a2),.slice (some ⟨g5,0,none⟩) (r.length+1) cap5,.int .i64 (signT s c)])
    have hml8:xs.length+1≤maxLen:=by unfold maxLen;omega
    have hb8:(xs.length+1)*48≤140737488355328:=by omega
    have hs8:w.heap.size≤w8.heap.size:=Nat.le_trans HK.out.size HK8.out.size;clear ho8 ho8' hBo
    go_wp2_with (first
     | (at_builtin;refine wpList_append_own_at _ rfl _ _ 94 rfl w.heap.size 164 io (.agg #[.string ⟨#[]⟩,.slice none 0 0,.int .i64 0]) 3 48 Tryz.underlying94 hio ho0 ho1 ho2 rfl (by decide) _ _ _ rfl (hrow8.alloc _) ⟨w8.heap.size,0,none⟩ 1 1 [.string (s.extract (c+1) a2),.slice (some ⟨g5,0,none⟩) (r.length+1) cap5,.int .i64 (signT s c)] rfl rfl hcn8 (by simp [Value.oneCell']) hml8 hb8 (by simp;omega) ?_;intro v' w9 hown9 hg9 _ _)
     | fail)
    obtain ⟨od,hod⟩:∃ od:Ord,od=⟨sub s (c+1) a2,r++[valV s cc],signT s c⟩:=⟨_,rfl⟩
    have hka:Kept (fun j=>some j=u4.ownBlock) w8 w9:=((Kept.refl (fun j=>some j=u4.ownBlock) w8).alloc _).grown hg9 (fun x hx=>.inr hx.symm)
    have hkv:∀ i,some i=u4.ownBlock→¬Is 133 w8 i:=fun i z=>by
     rintro ⟨cx,zx,hx⟩
     exact cells_ne_own hx (by decide) hrow8 z
    have HO9:Hid (OrdsAt w9 w.heap.size v' (xs++[(.slice (some ⟨g5,0,none⟩) (r.length+1) cap5,od)])):=by
     refine ⟨?_,fun x hx=> ?_⟩
     ·have e1:(xs++[((.slice (some ⟨g5,0,none⟩) (r.length+1) cap5:Value),od)]).flatMap ordC=xs.flatMap ordC++[.string (s.extract (c+1) a2),.slice (some ⟨g5,0,none⟩) (r.length+1) cap5,.int .i64 (signT s c)]:=by
       rw [List.flatMap_append,hod];simp [ordC,sub_str]
      rw [e1,List.length_append];exact hown9
     ·rcases List.mem_append.1 hx with hx | hx
      ·exact (HOr8.out.2 x hx).kept hka hkv
      ·simp at hx;subst hx;rw [hod];exact HRow8.out.kept hka hkv
    have hB8:B<w8.heap.size:=lt_of_heap P8.out.2
    have HP9:Hid (RP B s (a7+1) w9):=⟨hl8,(hka.block B hB8 (cells_ne_own P8.out.2 (by decide) hrow8)).trans P8.out.2⟩
    have HK9:Hid (Kept (·=B) w w9):=((HK.out.seq HK8.out).alloc _).grown hg9 (fun x hx=>.inl (own_base hrow8 x hx))
    have HXS:Hid (((xs++[((.slice (some ⟨g5,0,none⟩) (r.length+1) cap5:Value),od)]).map (·.2))=xs.map (·.2)++[⟨sub s (c+1) a2,r++[valV s cc],signT s c⟩]):=by show _=_;rw [List.map_append,hod];rfl
    have HXL:Hid ((xs++[((.slice (some ⟨g5,0,none⟩) (r.length+1) cap5:Value),od)]).length=xs.length+1):=by show _=_;simp
    clear hka hkv hown9 hg9 hcn8 hrow8 d0 d1 d2 hod;generalize xs++[((.slice (some ⟨g5,0,none⟩) (r.length+1) cap5:Value),od)]=xs9 at HO9 HXS HXL;refine (ended_any B s (a7+1) _ HP9.out).mono ?_;rintro e wA ⟨rfl,hkA⟩
    have HPA:Hid (RP B s (a7+1) wA):=⟨hl8,(hkA.block B (lt_of_heap HP9.out.2) (fun z=>z)).trans HP9.out.2⟩
    have HOA:Hid (OrdsAt wA w.heap.size v' xs9):=HO9.out.kept hkA (fun i z=>z.elim)
    have HKA:Hid (Kept (·=B) w wA):=HK9.out.seqNo hkA
    clear hkA
    by_cases hend:a7+1=s.size
    ·have hd:decide (a7+1=s.size)=true:=by simp [hend]
     rw [hd]
     have HX:Hid (batchP s=some (xs9.map (·.2))):=by
      show _=_
      rw [←hS.out,ordersP,if_pos HSg.out,X2.out,if_pos rfl,if_pos H40.out,HRW.out,HXS.out];simp only [if_pos hend]
     clear hd hend;go_wp2_with fail
     try rw [Exit.noGoto_ret]
     go_ret2;exact ⟨.inr ⟨_,xs9,HX.out,rfl,HOA.out⟩,HKA.out⟩
    ·have hd:decide (a7+1=s.size)=false:=by simp [hend]
     rw [hd];have HEnd:=hid hend;clear hd hend;go_wp2_with fail
     refine (take_any B s (a7+1) 59 59 _ hs' (by omega) rfl HPA.out).mono ?_
     rintro e wC ⟨okC,aC,xC,rfl,pC,kC⟩;obtain ⟨htC,htaC⟩:=tk_spec xC;have PC:=hid pC
     have HKC:Hid (Kept (·=B) w wC):=HKA.out.seq kC
     have HOC:Hid (OrdsAt wC w.heap.size v' xs9):=HOA.out.kept kC (fun i z=>by
      subst z
      constructor <;> (rintro ⟨cx,zx,hx⟩;rw [HPA.out.2] at hx;injection hx with hx;injection hx with _ h2;exact absurd h2 (by decide)))
     clear xC pC kC
     cases okC
     ·have HX:Hid (batchP s=none):=by
       show _=_
       have hn:¬Pl.bt s (a7+1)=59:=fun z=>by have:=htC.2 z;cases this
       rw [←hS.out,ordersP,if_pos HSg.out,X2.out,if_pos rfl,if_pos H40.out,HRW.out];simp only [if_neg HEnd.out,if_neg hn]
      clear htC htaC;go_wp2_with fail
      try rw [Exit.noGoto_ret]
      go_ret2;exact ⟨.inl ⟨HX.out,rfl⟩,HKC.out⟩
     ·have H59:Hid (Pl.bt s (a7+1)=59):=htC.1 rfl
      obtain rfl:aC=a7+1+1:=by rw [htaC];simp
      have hlC:=PC.out.1
      have HS9:Hid (ordersP s ko (a7+1+1) (xs9.map (·.2))=batchP s):=by
       show _=_
       rw [←hS.out,ordersP,if_pos HSg.out,X2.out,if_pos rfl,if_pos H40.out,HRW.out,HXS.out];simp only [if_neg HEnd.out,if_pos H59.out]
      clear htC htaC;go_wp2_with fail;go_roundg ko
      case measure=>have:=HKo.out;omega
      case rel=>exact ⟨a7+1+1,xs9,by omega,by have:=HXL.out;omega,PC,HOC,HKC.out,HS9⟩
   ·have H44:Hid (Pl.bt s a4=44):=ht7.1 rfl
    obtain rfl:a7=a4+1:=by rw [hta7];simp
    have HS7:Hid (rowsP s kk (a4+1) (r++[valV s cc])=rowsP s (s.size+1) (a2+1) []):=by
     show _=_
     rw [←hSi.out,rowsP,X4.out,if_pos rfl,if_pos H44.out]
    clear ht7 hta7;go_wp2_with fail;go_roundg kk
    case measure=>omega
    case rel=>exact ⟨rfl,a4+1,r++[valV s cc],_,by omega,by simp;omega,by omega,P7,HO7,HW7,HK7.out,HS7⟩
open Go.RowKit Go.Shelf
open Mo (V Row ty)
theorem kI_tk (v:V) (t:Bool):(kI v == tkN t)=decide (ty v=t):=by rw [kI_ty,tkN_eq]
theorem areOf1_any (v:V) (t:Bool) (w:World):Calls Tryz.prog 128 #[aggV v,.int .i32 (tkN t)] w fun e w'=>e=.returned (.bool (decide (ty v=t)))∧Kept No w w':=by
 have HX:=hid (kI_tk v t)
 show Calls Tryz.prog 128 #[.agg #[.int .i32 (kI v),.int .u8 (tB v 0),.int .u8 (tB v 1),.int .u8 (tB v 2),.int .u8 (tB v 3),.int .i64 (nI v)],.int .i32 (tkN t)] w _
 generalize kI v=kv at HX;generalize tkN t=kt at HX
 go_enter Tryz.func128,Tryz.ntmps128
 go_wp2_with fail;go_ret;exact ⟨ret_bool HX.out,(Kept.refl _ _).alloc _⟩
theorem RowAt.run {w:World} {b o cap n:Nat} {r:Row} (h:RowAt w (.slice (some ⟨b,o,none⟩) n cap) r) {i:Nat} {v:V} (hi:r[i]? =some v):b<w.heap.size∧(loadVar 133 ⟨b,o+i*6,none⟩).run Tryz.prog w=.ok (aggV v) w:=by
 obtain ⟨b',o',cap',c,z,e,hb,_,hc⟩:=h
 injection e with e1 e2 e3
 injection e1 with e1
 injection e1 with e1 e4
 subst e1 e4
 exact ⟨lt_of_heap hb,run_load_val fun j x hx=>by rw [cell_of hb];exact hc i v hi j x hx⟩
theorem equalFunc_any (v1 v2:Value) (r:Row) (us:List Bool) (w:World) (hr:RowAt w v1 r) (ht:TyL w v2 us) (lr:r.length≤300) (lt:us.length≤300) :
 Calls Tryz.prog 127 #[v1,v2,.func (.func 128) #[] #[]] w fun e w'=>e=.returned (.bool (decide (r.map ty=us)))∧Kept No w w':=by
 have HR:=hid hr;have HT:=hid ht;obtain ⟨b1,o1,c1,cs1,z1,rfl,hb1,hc1,-⟩:=hr;obtain ⟨b2,o2,c2,rfl,hb2,hc2,hm2,hh2⟩:=ht;have H5:=hid hh2;replace hb1:=lt_of_heap hb1;replace hb2:=hb2.lt;obtain ⟨n,hn⟩:∃ n,r.length=n:=⟨_,rfl⟩;obtain ⟨m,hm⟩:∃ m,us.length=m:=⟨_,rfl⟩;have HN:=hid hn;have HM:=hid hm;rw [hn] at HR lr hc1 ⊢;rw [hm] at HT lt hc2 ⊢
 have hcap2:c2≤9223372036854775807:=by unfold maxLen at hm2;omega
 clear hn hm hh2 hm2
 have e9:∀ args w,(callFunc 128 args).run Tryz.prog w=.ok (.enter 128 args) w:=enters_of Tryz.func128 (by kernel_rfl) rfl
 by_cases hnm:n=m
 ·subst hnm
  go_enter Tryz.func127,Tryz.ntmps127
  go_wp2_with fail
  go_loopg [17] n (fun k v17 wr=>∃ i:Nat,i+k=n∧v17=.int .i64 (i:Int)∧Hid ((r.take i).map ty=us.take i)∧Hid (Kept No w wr))
  case atStart=>exact ⟨0,by omega,rfl,hid rfl,hid (Kept.refl _ _)⟩
  case round =>
   obtain ⟨i,hik,rfl,hS,hK⟩:=hrel
   cases gk with
   | zero =>
     have hx:¬(i:Int)<(n:Int):=by omega
     have HR2:Hid (decide (r.map ty=us)=true):=by
      have h1:=hS.out
      rw [List.take_of_length_le (by have:=HN.out;omega),List.take_of_length_le (by have:=HM.out;omega)] at h1
      show _=_;simp [h1]
     go_wp2_with fail;go_ret;exact ⟨ret_bool HR2.out.symm,hK.out⟩
   | succ k =>
     have hx:(i:Int)<(n:Int):=by omega
     have hx0:(0:Int)≤(i:Int):=by omega
     obtain ⟨x,hxv⟩:∃ v,r[i]? =some v:=⟨_,List.getElem?_eq_getElem (by have:=HN.out;omega)⟩
     obtain ⟨y,hyv⟩:∃ v,us[i]? =some v:=⟨_,List.getElem?_eq_getElem (by have:=HM.out;omega)⟩
     have HLD:Hid ((loadVar 133 ⟨b1,o1+i*6,none⟩).run Tryz.prog wr=.ok (.agg #[.int .i32 (kI x),.int .u8 (tB x 0),.int .u8 (tB x 1),.int .u8 (tB x 2),.int .u8 (tB x 3),.int .i64 (nI x)]) wr):=((HR.out.keptNo hK.out).run hxv).2
     have HA:Hid (∀ w',Calls Tryz.prog 128 #[.agg #[.int .i32 (kI x),.int .u8 (tB x 0),.int .u8 (tB x 1),.int .u8 (tB x 2),.int .u8 (tB x 3),.int .i64 (nI x)],.int .i32 (tkN y)] w' fun e w''=>e=.returned (.bool (decide (ty x=y)))∧Kept No w' w''):=fun w'=>areOf1_any x y w'
     have q0:wr.cell? ⟨b2,o2+i,none⟩=some (.int .i32 (tkN y)):=(hK.out.cell hb2 (fun e=>e)).trans (H5.out i y hyv)
     have hsz:=hK.out.size
     have r0:∀ o:Obj,(wr.alloc o).cell? ⟨b2,o2+i,none⟩=some (.int .i32 (tkN y)):=fun o=>(World.cell?_of_block (Below.heap_alloc wr o b2 (by omega))).trans q0
     have HX:=hid hxv;have HY:=hid hyv;clear hxv hyv q0
     go_wp2_with (first
      | (refine load_by 133 _ rfl rfl b1 (o1+i*6) rfl (.agg #[.int .i32 (kI x),.int .u8 (tB x 0),.int .u8 (tB x 1),.int .u8 (tB x 2),.int .u8 (tB x 3),.int .i64 (nI x)]) HLD.out ?_)
      | fail)
     refine (HA.out _).mono ?_;rintro e w1 ⟨rfl,hk1⟩;have HK1:Hid (Kept No w w1):=(hK.out.alloc _).seq hk1;clear hk1 r0 HA HLD
     by_cases hxy:ty x=y
     ·have hd:decide (ty x=y)=true:=by simp [hxy]
      rw [hd]
      have HS2:Hid ((r.take (i+1)).map ty=us.take (i+1)):=by
       show _=_
       rw [List.take_add_one,List.take_add_one,HX.out,HY.out,List.map_append,hS.out];simp [hxy]
      clear hd hxy;go_wp2_with fail;go_roundg k
      case measure=>omega
      case rel=>exact ⟨i+1,by omega,by go_num,HS2,HK1⟩
     ·have hd:decide (ty x=y)=false:=by simp [hxy]
      rw [hd]
      have HR2:Hid (decide (r.map ty=us)=false):=by
       show _=_
       rw [decide_eq_false_iff_not];intro e;apply hxy
       have:(r.map ty)[i]? =us[i]? :=by rw [e]
       rw [List.getElem?_map,HX.out,HY.out] at this;simpa using this
      clear hd hxy;go_wp2_with fail;go_ret;exact ⟨ret_bool HR2.out.symm,HK1.out⟩
 ·have hx1:((n:Int) != (m:Int))=true:=by simp;omega
  have HR2:Hid (decide (r.map ty=us)=false):=by
   show _=_
   rw [decide_eq_false_iff_not];intro e
   have:=congrArg List.length e
   rw [List.length_map,HN.out,HM.out] at this;omega
  go_enter Tryz.func127,Tryz.ntmps127
  go_wp2_with fail;go_ret;exact ⟨ret_bool HR2.out.symm,Kept.refl _ _⟩
theorem areOf_any (v1 v2:Value) (r:Row) (us:List Bool) (w:World) (hr:RowAt w v1 r) (ht:TyL w v2 us) (lr:r.length≤300) (lt:us.length≤300) :
 Calls Tryz.prog 78 #[v1,v2] w fun e w'=>e=.returned (.bool (decide (r.map ty=us)))∧Kept No w w':=by
 have HE:=hid (equalFunc_any v1 v2 r us w hr ht lr lt);clear hr ht
 go_enter Tryz.func78,Tryz.ntmps78
 go_wp2_with fail;refine HE.out.mono ?_;rintro e w1 ⟨rfl,hk1⟩;go_wp2_with fail;go_ret;exact ⟨rfl,hk1⟩
structure TRec where
 blk:Nat
 name:List UInt8
 tys:List Bool
def TRs (w:World) (v:Value) (trs:List TRec):Prop:=TNames w v (trs.map fun t=>(t.blk,t.name))∧∀ t∈trs,t.blk<w.heap.size∧t.tys.length≤300∧∃ tv,w.cell? ⟨t.blk,3,none⟩=some tv∧TyL w tv t.tys
theorem TRs.keptNo {w w':World} {v:Value} {trs:List TRec} (h:TRs w v trs) (k:Kept No w w'):TRs w' v trs :=
 ⟨h.1.kept k,fun t ht=>by obtain ⟨h1,h2,tv,h3,h4⟩:=h.2 t ht;exact ⟨Nat.lt_of_lt_of_le h1 k.size,h2,tv,(k.cell h1 (fun z=>z)).trans h3,h4.kept k⟩⟩
def tix (trs:List TRec) (nm:List UInt8):Int:=tfind (trs.map fun t=>(t.blk,t.name)) nm
theorem tfind_at:∀ (ts:List (Nat × List UInt8)) (nm:List UInt8) (i:Nat),tfind ts nm=i→∃ x,ts[i]? =some x∧x.2=nm
 | [],_,i,h=>by simp only [tfind] at h;omega
 | x::ts,nm,i,h=>by
   simp only [tfind] at h
   split at h
   ·rename_i hx
    obtain rfl:i=0:=by omega
    exact ⟨x,rfl,hx⟩
   ·split at h
    ·omega
    ·rename_i h1 h2
     have:=tfind_ge ts nm
     obtain ⟨j,rfl⟩:∃ j,i=j+1:=⟨i-1,by omega⟩
     obtain ⟨y,hy,hyn⟩:=tfind_at ts nm j (by omega)
     exact ⟨y,hy,hyn⟩
theorem tix_at {trs:List TRec} {nm:List UInt8} {i:Nat} (h:tix trs nm=i):∃ t,trs[i]? =some t∧t.name=nm:=by
 obtain ⟨x,hx,hn⟩:=tfind_at _ _ i h;rw [List.getElem?_map] at hx;obtain ⟨t,ht,rfl⟩:=Option.map_eq_some_iff.1 hx;exact ⟨t,ht,hn⟩
def tfits (trs:List TRec) (o:Ord):Bool:=match trs[(tix trs o.name).toNat]? with
 | some t=>decide (o.row.map ty=t.tys)
 | none=>false
def there (trs:List TRec) (o:Ord):Bool:=decide (0≤tix trs o.name)
def fitP (trs:List TRec) (os:List Ord):Int:=if os.all (there trs)=false then 5 else if os.all (tfits trs)=false then 6 else 0
theorem ord_get:∀ (xs:List (Value × Ord)) (i:Nat) (x:Value × Ord),xs[i]? =some x→∀ j y,(ordC x)[j]? =some y→(xs.flatMap ordC)[i*3+j]? =some y
 | [],i,x,h,_,_,_=>by simp at h
 | z::xs,0,x,h,j,y,hy=>by
   have:z=x:=by simpa using h
   subst this;rw [List.flatMap_cons,Nat.zero_mul,Nat.zero_add,List.getElem?_append_left (List.getElem?_eq_some_iff.1 hy).1];exact hy
 | z::xs,i+1,x,h,j,y,hy=>by
   have ih:=ord_get xs i x (by simpa using h) j y hy
   have e:(ordC z).length=3:=rfl
   rw [List.flatMap_cons,List.getElem?_append_right (by rw [e];omega),e,show (i+1)*3+j-3=i*3+j by omega];exact ih
def OrdsR (w:World) (v:Value) (xs:List (Value × Ord)):Prop:=∃ a cap,v=.slice a xs.length cap∧xs.length≤cap∧cap≤maxLen ∧
 ∀ i x,xs[i]? =some x→∃ g p n c,a=some ⟨g,0,none⟩∧g<w.heap.size∧x.1=.slice p n c∧w.cell? ⟨g,i*3,none⟩=some (.string ⟨x.2.name.toArray⟩)∧w.cell? ⟨g,i*3+1,none⟩=some (.slice p n c)∧w.cell? ⟨g,i*3+2,none⟩=some (.int .i64 x.2.t)∧RowAt w (.slice p n c) x.2.row
theorem OrdsAt.read {w:World} {base:Nat} {v:Value} {xs:List (Value × Ord)} (h:OrdsAt w base v xs):OrdsR w v xs:=by
 obtain ⟨⟨_,⟨rfl,h0⟩ | ⟨g,cap,cur,rfl,_,hg,h1,h2,h3,h4⟩⟩,hr⟩:=h
 ·have:xs=[]:=List.eq_nil_of_length_eq_zero h0
  subst this
  exact ⟨none,0,rfl,by simp,by simp,fun i x hx=>by simp at hx⟩
 ·refine ⟨some ⟨g,0,none⟩,cap,rfl,h1,h2,fun i x hx=> ?_⟩
  have key:∀ j y,(ordC x)[j]? =some y→w.cell? ⟨g,i*3+j,none⟩=some y:=fun j y hy=>by
   have:=ord_get xs i x hx j y hy
   rw [←h4,List.getElem?_take] at this
   split at this
   ·rw [cell_of hg,←Array.getElem?_toList];exact this
   ·cases this
  have hrow:=hr x (List.mem_of_getElem? hx)
  obtain ⟨b0,o0,cap0,_,_,e,_⟩:=id hrow;refine ⟨g,_,_,_,rfl,lt_of_heap hg,e,key 0 _ rfl,?_,key 2 _ rfl,e ▸ hrow⟩;rw [←e];exact key 1 _ rfl
theorem OrdsR.keptNo {w w':World} {v:Value} {xs:List (Value × Ord)} (h:OrdsR w v xs) (k:Kept No w w'):OrdsR w' v xs:=by
 obtain ⟨a,cap,e,h1,h2,h3⟩:=h
 refine ⟨a,cap,e,h1,h2,fun i x hx=> ?_⟩
 obtain ⟨g,p,n,c,e1,hg,e2,c0,c1,c2,hr⟩:=h3 i x hx
 exact ⟨g,p,n,c,e1,Nat.lt_of_lt_of_le hg k.size,e2,(k.cell hg (fun z=>z)).trans c0,(k.cell hg (fun z=>z)).trans c1,(k.cell hg (fun z=>z)).trans c2,hr.keptNo k⟩
theorem fit_any (v ov:Value) (trs:List TRec) (xs:List (Value × Ord)) (w:World) (h:TRs w v trs) (ho:OrdsR w ov xs) (hl:trs.length≤1000) (hx:xs.length≤1000) (hrow:∀ x∈xs,x.2.row.length≤300) :
 Calls Tryz.prog 44 #[v,ov] w fun e w'=>e=.returned (.int .i64 (fitP trs (xs.map (·.2))))∧Kept No w w':=by
 have H:=hid h;have HO:=hid ho;have HRow:=hid hrow;obtain ⟨⟨ta,tcap,rfl,htc,htm,-⟩,-⟩:=h;obtain ⟨oa,ocap,rfl,hoc,hom,-⟩:=ho;obtain ⟨n,hn⟩:∃ n,xs.length=n:=⟨_,rfl⟩
 obtain ⟨m,hm⟩:∃ m,(trs.map fun t=>(t.blk,t.name)).length=m:=⟨_,rfl⟩
 have HN:=hid hn;have HM:=hid hm;rw [hn] at HO hoc hx ⊢;rw [hm] at H htc ⊢
 have hml:m≤1000:=by rw [←hm];simpa using hl
 clear hn hm hrow hl
 have hoc3:ocap≤9223372036854775807:=by unfold maxLen at hom;omega
 have htc3:tcap≤9223372036854775807:=by unfold maxLen at htm;omega
 clear hom htm
 go_enter Tryz.func44,Tryz.ntmps44
 go_wp2_with fail
 go_loopg [11] n (fun k v11 wr=>∃ i:Nat,i+k=n∧v11=.int .i64 (i:Int)∧Hid (((xs.map (·.2)).take i).all (there trs)=true)∧Kept No w wr)
 case atStart=>exact ⟨0,by omega,rfl,hid rfl,Kept.refl _ _⟩
 case round =>
  obtain ⟨i,hik,rfl,hS,hK⟩:=hrel
  by_cases hk:gk=0
  ·subst hk
   have hx:¬(i:Int)<(n:Int):=by omega
   have HAll:Hid ((xs.map (·.2)).all (there trs)=true):=by
    have h1:=hS.out
    rw [show i=(xs.map (·.2)).length by rw [List.length_map,HN.out];omega,List.take_length] at h1
    exact h1
   have HK0:=hid hK;clear hK hS;go_wp2_with fail
   go_loopg [23] n (fun k v23 wi=>∃ i:Nat,i+k=n∧v23=.int .i64 (i:Int)∧Hid (((xs.map (·.2)).take i).all (tfits trs)=true)∧Kept No w wi)
   case atStart=>exact ⟨0,by omega,rfl,hid rfl,HK0.out⟩
   case round =>
    obtain ⟨j,hjk,rfl,hS,hK⟩:=hrel
    by_cases hk:gk=0
    ·subst hk
     have hx:¬(j:Int)<(n:Int):=by omega
     have HR:Hid (fitP trs (xs.map (·.2))=0):=by
      have h1:=hS.out
      rw [show j=(xs.map (·.2)).length by rw [List.length_map,HN.out];omega,List.take_length] at h1
      show _=_;unfold fitP;rw [HAll.out,h1];rfl
     have HK:=hid hK;clear hK;go_wp2_with fail;go_ret;exact ⟨ret_int HR.out.symm,HK.out⟩
    ·obtain ⟨k,rfl⟩:∃ k,gk=k+1:=⟨gk-1,by omega⟩
     have hx:(j:Int)<(n:Int):=by omega
     have hx0:(0:Int)≤(j:Int):=by omega
     obtain ⟨x,hxi⟩:∃ x,xs[j]? =some x:=⟨_,List.getElem?_eq_getElem (by have:=HN.out;omega)⟩
     have hO:OrdsR w (.slice oa xs.length ocap) xs:=by have:=HO.out;rw [←HN.out] at this;exact this
     obtain ⟨_,_,e0,_,_,hcells⟩:=hO.keptNo hK
     injection e0 with e1 e2 e3
     subst e1;obtain ⟨g,p,pn,pc,rfl,hg,hxe,c0,c1,c2,hr⟩:=hcells j x hxi
     have hth:0≤tix trs x.2.name:=by
      have:=List.all_eq_true.1 HAll.out x.2 (List.mem_map.2 ⟨x,List.mem_of_getElem? hxi,rfl⟩)
      simpa [there] using this
     obtain ⟨q,hq⟩:∃ q:Nat,tix trs x.2.name=q:=⟨(tix trs x.2.name).toNat,by omega⟩
     obtain ⟨t,htq,htn⟩:=tix_at hq;have HQ:=hid hq;have HTQ:=hid htq;have HXI:=hid hxi;have HK:=hid hK;have HR0:=hid hr;have hka:Kept No w (wr.alloc (.cells #[.string ⟨x.2.name.toArray⟩,.slice p pn pc,.int .i64 x.2.t] 164)):=HK.out.alloc _;have HKa:=hid hka
     have hrl:=HRow.out x (List.mem_of_getElem? hxi)
     clear hK hcells hO e2 e3 hka hth hq htq htn hxi hr;go_wp2_with fail;obtain ⟨W0,hW0⟩:∃ W0,wr.alloc (.cells #[.string ⟨x.2.name.toArray⟩,.slice p pn pc,.int .i64 x.2.t] 164)=W0:=⟨_,rfl⟩
     have hn0:W0.heap[wr.heap.size]? =some (.cells #[.string ⟨x.2.name.toArray⟩,.slice p pn pc,.int .i64 x.2.t] 164 (0,0)):=by rw [←hW0];exact (MapKept.heap_alloc wr _).1
     rw [hW0] at HKa;rw [hW0];have hT0:=H.out.keptNo HKa.out;obtain ⟨⟨ta',tcap',e0,_,_,htc0⟩,htt⟩:=hT0
     injection e0 with e1 e2 e3
     subst e1
     obtain ⟨tb,tof,rfl,htb,htblk,ct,_⟩:=htc0 q (t.blk,t.name) (by rw [List.getElem?_map,HTQ.out];rfl)
     obtain ⟨_,htl,tv,ctv,htys⟩:=htt t (List.mem_of_getElem? HTQ.out)
     have d0:=cell_of hn0 0;have d1:=cell_of hn0 1;simp only [List.getElem?_toArray,List.getElem?_cons_zero,List.getElem?_cons_succ] at d0 d1;have hBx:=lt_of_heap hn0
     have hqm:(q:Int)<(m:Int):=by
      have:=(List.getElem?_eq_some_iff.1 HTQ.out).1
      have h2:=HM.out;rw [List.length_map] at h2;omega
     have hq0:(0:Int)≤(q:Int):=by omega
     have HTys:=hid htys
     have HR1:Hid (RowAt W0 (.slice p pn pc) x.2.row):=by
      have hk:Kept No wr W0:=by rw [←hW0];exact (Kept.refl _ _).alloc _
      exact HR0.out.keptNo hk
     obtain ⟨tva,tvn,tvc,rfl⟩:∃ a n c,tv=.slice a n c:=by obtain ⟨b0,o0,cap0,e,_⟩:=htys;exact ⟨_,_,_,e⟩
     have HFit:Hid (tfits trs x.2=decide (x.2.row.map ty=t.tys)):=by
      show _=_;unfold tfits;rw [HQ.out];simp [HTQ.out]
     have hti:(tfind (trs.map fun t=>(t.blk,t.name)) x.2.name)=(q:Int):=HQ.out
     have HTI:=hid hti;clear e2 e3 htc0 htt htys hW0 hn0 hti
     go_region_held3 (fun w'=>w'.cell? ⟨wr.heap.size,0,none⟩=some (.string ⟨x.2.name.toArray⟩)∧w'.cell? ⟨wr.heap.size,1,none⟩=some (.slice p pn pc)∧w'.cell? ⟨tb,tof+q,none⟩=some (.pointer (some ⟨t.blk,0,none⟩))∧w'.cell? ⟨t.blk,3,none⟩=some (.slice tva tvn tvc)) (go_keep)
      (first
        | (go_at_call 60
           refine (find_any _ _ x.2.name _ (H.out.1.kept HKa.out.drew) (by rw [HM.out];exact hml)).mono ?_
           rintro e w1 ⟨he1,hk1⟩;rw [HTI.out] at he1;subst he1
           have f0:w1.cell? ⟨wr.heap.size,0,none⟩=some (.string ⟨x.2.name.toArray⟩):=(hk1.cell hBx (fun z=>z)).trans d0
           have f1:w1.cell? ⟨wr.heap.size,1,none⟩=some (.slice p pn pc):=(hk1.cell hBx (fun z=>z)).trans d1
           have f2:w1.cell? ⟨tb,tof+q,none⟩=some (.pointer (some ⟨t.blk,0,none⟩)):=(hk1.cell htb (fun z=>z)).trans ct
           have f3:w1.cell? ⟨t.blk,3,none⟩=some (.slice tva tvn tvc):=(hk1.cell htblk (fun z=>z)).trans ctv
           have HK1:=hid (((Kept.refl No W0).drew).seq hk1);have hs1:=hk1.size
           clear hk1)
        | (go_at_call 78
           refine (areOf_any _ _ x.2.row t.tys _ (HR1.out.keptNo HK1.out) (HTys.out.kept HK1.out) hrl htl).mono ?_;rintro e w2 ⟨rfl,hk2⟩
           have g0:w2.cell? ⟨wr.heap.size,0,none⟩=some (.string ⟨x.2.name.toArray⟩):=(hk2.cell (Nat.lt_of_lt_of_le hBx hs1) (fun z=>z)).trans f0
           have g1:w2.cell? ⟨wr.heap.size,1,none⟩=some (.slice p pn pc):=(hk2.cell (Nat.lt_of_lt_of_le hBx hs1) (fun z=>z)).trans f1
           have g2:w2.cell? ⟨tb,tof+q,none⟩=some (.pointer (some ⟨t.blk,0,none⟩)):=(hk2.cell (Nat.lt_of_lt_of_le htb hs1) (fun z=>z)).trans f2
           have g3:w2.cell? ⟨t.blk,3,none⟩=some (.slice tva tvn tvc):=(hk2.cell (Nat.lt_of_lt_of_le htblk hs1) (fun z=>z)).trans f3
           have HK2:=hid (HK1.out.seq hk2)
           clear hk2))
     have HK3:Hid (Kept No w w2):=HKa.out.seq HK2.out;clear d0 d1 ct ctv f0 f1 f2 f3 g0 g1 g2 g3
     by_cases hf:x.2.row.map ty=t.tys
     ·have hd:decide (x.2.row.map ty=t.tys)=true:=by simp [hf]
      rw [hd]
      have HS2:Hid (((xs.map (·.2)).take (j+1)).all (tfits trs)=true):=by
       show _=_
       rw [List.take_add_one,List.all_append,hS.out,List.getElem?_map,HXI.out]
       simp [HFit.out,hf]
      clear hf hd;go_wp2_with fail;go_roundg k
      case measure=>omega
      case rel=>exact ⟨j+1,by omega,by go_num,HS2,HK3.out⟩
     ·have hd:decide (x.2.row.map ty=t.tys)=false:=by simp [hf]
      rw [hd]
      have HR:Hid (fitP trs (xs.map (·.2))=6):=by
       have h1:(xs.map (·.2)).all (tfits trs)=false:=by
        rw [List.all_eq_false]
        exact ⟨x.2,List.mem_map.2 ⟨x,List.mem_of_getElem? HXI.out,rfl⟩,by rw [HFit.out];simp [hf]⟩
       show _=_;unfold fitP;rw [HAll.out,h1];rfl
      clear hf hd;go_wp2_with fail;go_ret;exact ⟨ret_int HR.out.symm,HK3.out⟩
  ·obtain ⟨k,rfl⟩:∃ k,gk=k+1:=⟨gk-1,by omega⟩
   have hx:(i:Int)<(n:Int):=by omega
   have hx0:(0:Int)≤(i:Int):=by omega
   obtain ⟨x,hxi⟩:∃ x,xs[i]? =some x:=⟨_,List.getElem?_eq_getElem (by have:=HN.out;omega)⟩
   have hO:OrdsR w (.slice oa xs.length ocap) xs:=by have:=HO.out;rw [←HN.out] at this;exact this
   obtain ⟨_,_,e0,_,_,hcells⟩:=hO.keptNo hK
   injection e0 with e1 e2 e3
   subst e1;obtain ⟨g,p,pn,pc,rfl,hg,hxe,c0,c1,c2,hr⟩:=hcells i x hxi;have HK:=hid hK;clear hK hcells hO e2 e3;have hka:Kept No w (wr.alloc (.cells #[.string ⟨x.2.name.toArray⟩,.slice p pn pc,.int .i64 x.2.t] 164)):=HK.out.alloc _;have HKa:=hid hka;clear hka;go_wp2_with fail
   refine (find_any _ _ x.2.name _ (H.out.1.kept HKa.out) (by rw [HM.out];exact hml)).mono ?_
   rintro e w1 ⟨rfl,hk1⟩
   change Kept No (wr.alloc _) w1 at hk1
   have HK1:Hid (Kept No w w1):=HKa.out.seq hk1;clear hk1
   by_cases hneg:tix trs x.2.name<0
   ·have hd:tfind (trs.map fun t=>(t.blk,t.name)) x.2.name<0:=hneg
    have HR:Hid (fitP trs (xs.map (·.2))=5):=by
     have h1:(xs.map (·.2)).all (there trs)=false:=by
      rw [List.all_eq_false]
      exact ⟨x.2,List.mem_map.2 ⟨x,List.mem_of_getElem? hxi,rfl⟩,by simp [there];omega⟩
     show _=_;unfold fitP;rw [h1];rfl
    clear hneg hxi;go_wp2_with fail;go_ret;exact ⟨ret_int HR.out.symm,HK1.out⟩
   ·have hd:¬tfind (trs.map fun t=>(t.blk,t.name)) x.2.name<0:=hneg
    have HS2:Hid (((xs.map (·.2)).take (i+1)).all (there trs)=true):=by
     show _=_
     rw [List.take_add_one,List.all_append,hS.out,List.getElem?_map,hxi]
     simp [there];omega
    clear hneg hxi;go_wp2_with fail;go_roundg k
    case measure=>omega
    case rel=>exact ⟨i+1,by omega,by go_num,HS2,HK1.out⟩
end Go.Proofs.YtdinjjmcmfjbfaaGreatDoor
