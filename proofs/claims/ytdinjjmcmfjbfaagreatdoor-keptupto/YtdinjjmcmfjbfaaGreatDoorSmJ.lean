import Derived.Test.YtdinjjmcmfjbfaaGreatDoorBeJ
import Derived.Laws.OwnMore
import Derived.Shelf.Strings.BuilderK
import Derived.Test.YtdinjjmcmfjbfaaGreatDoorProg
import Derived.RowKit
import Derived.Test.YtdinjjmcmfjbfaaGreatDoorLeJ
import Derived.Test.YtdinjjmcmfjbfaaGreatDoorDvJ
import Derived.Test.YtdinjjmcmfjbfaaGreatDoorTyJ
set_option maxRecDepth 100000
set_option maxHeartbeats 4000000
namespace Go.Proofs.YtdinjjmcmfjbfaaGreatDoor
open Go.RowKit Go.Shelf
open Mo (V Row ty)
def isNm (s:ByteArray):Bool:=(Pl.let4 s 0).1 && decide ((Pl.let4 s 0).2=s.size)
theorem let4_le (s:ByteArray):(Pl.let4 s 0).2≤4:=by
 have:=many_bound s 97 122 4 0
 unfold Pl.let4 Pl.sev
 show Pl.many s 97 122 4 0≤4
 omega
theorem readName_any (s:ByteArray) (w:World) :
 Calls Tryz.prog 58 #[.string s] w fun e w'=>(∃ nm,e=.returned (.tuple #[.string nm,.bool (isNm s)])∧(isNm s=true→nm=s))∧Kept No w w':=by
 by_cases hs:s.size≤4
 ·have hs':¬(4:Int)<(s.size:Int):=by omega
  have HR:Hid (RP (w.heap.size+1) s 0 ((w.alloc (.cells #[.string ⟨#[]⟩] 9)).alloc (.cells #[.string s,.int .i64 0] 93))):=⟨by omega,by have:=heap_alloc2_new w (.cells #[.string ⟨#[]⟩] 9) (.cells #[.string s,.int .i64 0] 93);exact this⟩
  have HN:Hid (((w.alloc (.cells #[.string ⟨#[]⟩] 9)).alloc (.cells #[.string s,.int .i64 0] 93)).heap[w.heap.size]? =some (.cells #[.string ⟨#[]⟩] 9 (0,0))):=heap_alloc2_old _ _ _
  go_enter Tryz.func58,Tryz.ntmps58
  go_wp2_with fail
  refine (word_any (w.heap.size+1) w.heap.size 0 4 4 s 0 #[.string ⟨#[]⟩] 9 _ (by omega) (by omega) rfl (by omega) HR.out HN.out (by simp)).mono ?_
  rintro e w1 ⟨ok1,a1,x1,rfl,p1,k1,c1⟩;have X1:Hid (Pl.let4 s 0=(ok1,a1)):=x1;have P1:=hid p1
  have K1:Hid (Kept No w w1):=(((Kept.refl No w).alloc _).alloc _).trans k1 (fun _ e=>e.elim) (fun i hi e=>by rcases e with e | e <;> omega)
  have C1:=hid c1;clear x1 p1 k1 c1
  cases ok1
  ·have HF:Hid (isNm s=false):=by show _=_;unfold isNm;rw [X1.out];rfl
   have c0:w1.cell? ⟨w.heap.size,0,none⟩=some (.string ⟨#[]⟩):=(cell_of C1.out 0).trans rfl;go_wp2_with fail;go_ret2;rw [HF.out]
   exact ⟨⟨_,rfl,fun e=>by cases e⟩,K1.out⟩
  ·have c0:w1.cell? ⟨w.heap.size,0,none⟩=some (.string (s.extract 0 a1)):=(cell_of C1.out 0).trans rfl
   go_wp2_with fail;refine (ended_any (w.heap.size+1) s a1 w1 P1.out).mono ?_;rintro e w2 ⟨rfl,hk2⟩
   have c1:w2.cell? ⟨w.heap.size,0,none⟩=some (.string (s.extract 0 a1)):=(hk2.cell (lt_of_heap C1.out) (fun e=>e)).trans c0
   have HF:Hid (isNm s=decide (a1=s.size)):=by show _=_;unfold isNm;rw [X1.out];rfl
   have K2:=hid (K1.out.seq hk2)
   have HEx:Hid (a1=s.size→s.extract 0 a1=s):=fun e=>by
    subst e;exact ByteArray.extract_zero_size
   generalize decide (a1=s.size)=dd at HF;clear hk2 c0;go_wp2_with fail;go_ret2
   refine ⟨⟨_,?_,fun e=>HEx.out ?_⟩,K2.out⟩
   ·rw [HF.out];rfl
   ·have:=X1.out
    unfold isNm at e;rw [this] at e
    simpa using e
 ·have hs':(4:Int)<(s.size:Int):=by omega
  have HF:Hid (isNm s=false):=by
   show _=_
   have:=let4_le s
   unfold isNm
   have:¬(Pl.let4 s 0).2=s.size:=by omega
   simp [this]
  go_enter Tryz.func58,Tryz.ntmps58
  go_wp2_with fail;go_ret2;rw [HF.out]
  exact ⟨⟨_,rfl,fun e=>by cases e⟩,Kept.refl _ _⟩
def tyB (c:UInt8):Option Bool:=if c=105 then some false else if c=116 then some true else none
def tysP:List UInt8→Option (List Bool)
 | []=>some []
 | c::l=>match tyB c with
   | none=>none
   | some b=>(tysP l).map (b::·)
def typesP (s:ByteArray):Option (List Bool):=if 1≤s.size∧s.size≤4 then tysP s.data.toList else none
theorem tysP_len:∀ {l:List UInt8} {us:List Bool},tysP l=some us→us.length=l.length
 | [],us,h=>by have:[]=us:=by simpa [tysP] using h
               subst this;rfl
 | c::l,us,h=>by
   unfold tysP at h
   cases hc:tyB c with
   | none=>rw [hc] at h;cases h
   | some b =>
     rw [hc] at h;obtain ⟨vs,hv,rfl⟩:=Option.map_eq_some_iff.1 h
     simp [tysP_len hv]
theorem tysP_none:∀ {l:List UInt8} {i:Nat} {c:UInt8},l[i]? =some c→tyB c=none→tysP l=none
 | [],i,c,h,_=>by simp at h
 | d::l,0,c,h,hc=>by have:d=c:=by simpa using h
                     subst this;unfold tysP;rw [hc]
 | d::l,i+1,c,h,hc=>by
   unfold tysP
   rw [tysP_none (l:=l) (by simpa using h) hc]
   cases tyB d <;> rfl
theorem tysP_all:∀ {l:List UInt8} {us:List Bool},us.length=l.length→(∀ (i:Nat) (c:UInt8) (b:Bool),l[i]? =some c→us[i]? =some b→tyB c=some b)→tysP l=some us
 | [],[],_,_=>rfl
 | c::l,b::us,h,ha=>by
   unfold tysP;rw [ha 0 c b rfl rfl]
   show (tysP l).map (b::·)=_
   rw [tysP_all (l:=l) (us:=us) (by simpa using h) (fun i c' b' h1 h2=>ha (i+1) c' b' (by simpa using h1) (by simpa using h2))]
   rfl
def TypesRd (r:Option (List Bool)) (w:World) (e:Ending) (w':World):Prop :=
 Kept No w w'∧((∃ us b cap,r=some us∧e=.returned (.tuple #[.slice (some ⟨b,0,none⟩) us.length cap,.bool true])∧w.heap.size≤b∧TyL w' (.slice (some ⟨b,0,none⟩) us.length cap) us)∨(r=none∧∃ v,e=.returned (.tuple #[v,.bool false])))
theorem readTypes_any (s:ByteArray) (w:World) :
 Calls Tryz.prog 59 #[.string s] w (TypesRd (typesP s) w):=by
 by_cases hs:1≤s.size∧s.size≤4
 ·have hs1:¬(s.size:Int)<1:=by omega
  have hs2:¬(4:Int)<(s.size:Int):=by omega
  obtain ⟨n,hn⟩:∃ n,s.size=n:=⟨_,rfl⟩;have HN:=hid hn
  have HTP:Hid (typesP s=tysP s.data.toList):=by show _=_;unfold typesP;rw [if_pos hs]
  rw [hn] at hs hs1 hs2;obtain ⟨ib,hib,hb0,hb1,hb2⟩:=info_parts infoVK
  obtain ⟨wm,hrun,hownm,hgm⟩:=run_make_full (P:=Tryz.prog) w w.heap.size 78 130 ib (.int .i32 0) 1 Tryz.underlying78 hib hb0 hb1 .i64 .i64 n (by rw [hb2];omega) (by unfold maxLen;omega) (Nat.le_refl _)
  go_enter Tryz.func59,Tryz.ntmps59
  obtain ⟨cm,hcm,hcs⟩:∃ c,wm.heap[w.heap.size]? =some (.cells c 130 (0,0))∧c.size=n:=by
   rcases hownm.2 with ⟨h',_⟩ | ⟨g',cap',cur,h',_,hg,_,_,h3,_⟩
   ·cases h'
   ·injection h' with e1 e2 e3
    injection e1 with e1
    injection e1 with e1
    subst e1
    exact ⟨cur,hg,by omega⟩
  have HCm:=hid hcm
  have HKm:Hid (Kept No w wm):=(Kept.refl _ _).grown hgm (fun r e=>by cases e)
  clear hownm hgm hcm;go_wp2_with fail
  go_loopg [19] n (fun k v19 wr=>∃ (i:Nat) (c:Array Value) (us:List Bool),i+k=n∧v19=.int .i64 (i:Int)∧us.length=i∧c.size=n∧Hid (wr.heap[w.heap.size]? =some (.cells c 130 (0,0)))∧Hid (∀ (j:Nat) (b:Bool),us[j]? =some b→c[j]? =some (.int .i32 (tkN b)))∧Hid (∀ (j:Nat) (ch:UInt8) (b:Bool),s.data.toList[j]? =some ch→us[j]? =some b→tyB ch=some b)∧Hid (Kept No w wr))
  case atStart=>exact ⟨0,cm,[],by omega,rfl,rfl,hcs,HCm,hid (by simp),hid (by simp),HKm⟩
  case round =>
   obtain ⟨i,c,us,hik,rfl,hul,hcs1,hC,hMs,hTs,hK⟩:=hrel
   cases gk with
   | zero =>
     have hx:¬(i:Int)<(n:Int):=by omega
     have HF:Hid (typesP s=some us):=by
      show _=_
      rw [HTP.out]
      exact tysP_all (by rw [hul,ba_len,HN.out];omega) hTs.out
     have HTL:Hid (TyL wr (.slice (some ⟨w.heap.size,0,none⟩) us.length n) us):=⟨w.heap.size,0,n,rfl,⟨_,_,hC.out⟩,by omega,by unfold maxLen;omega,fun j b hj=>by rw [cell_of hC.out,Nat.zero_add];exact hMs.out j b hj⟩
     have hun:Hid (us.length=n):=by show _=_;omega
     clear hul;go_wp2_with fail;go_ret2;refine ⟨hK.out,.inl ⟨us,w.heap.size,n,HF.out,?_,Nat.le_refl _,HTL.out⟩⟩;rw [hun.out];rfl
   | succ k =>
     have hx:(i:Int)<(n:Int):=by omega
     have hx0:(0:Int)≤(i:Int):=by omega
     have his:i<s.size:=by have:=HN.out;omega
     have hgl:=lt_of_heap hC.out
     have q0:wr.cell? ⟨w.heap.size,i,none⟩=some c[i]:=by rw [cell_of hC.out,Array.getElem?_eq_getElem (by omega)]
     have q1:wr.frozen? ⟨w.heap.size,i,none⟩=false:=frozen_of hC.out i
     have HSI:Hid (s.data.toList[i]? =some s[i]):=by show _=_;simp [his];rfl
     by_cases h1:s[i]=105
     ·have e1:((s[i].toNat:Int) == 105)=true:=by rw [h1];rfl
      have HTB:Hid (tyB s[i]=some false):=by show _=_;rw [h1];rfl
      clear h1;go_wp2_with fail;go_roundg k
      case measure=>omega
      case rel =>
       refine ⟨i+1,c.setIfInBounds i (.int .i32 (tkN false)),us++[false],by omega,by go_num,by simp [hul],by simp [hcs1],heap_set hC.out i _,?_,?_,hid (hK.out.setCell (.inl (Nat.le_refl _)) _)⟩
       ·refine hid ?_
        intro j b hj;rw [Array.getElem?_setIfInBounds]
        by_cases hji:j<us.length
        ·rw [List.getElem?_append_left hji] at hj
         rw [if_neg (by omega)];exact hMs.out j b hj
        ·rw [List.getElem?_append_right (by omega)] at hj
         have hl:=(List.getElem?_eq_some_iff.1 hj).1
         simp at hl
         have hj0:j=i:=by omega
         subst hj0
         have:false=b:=by simpa [hul] using hj
         subst this
         rw [if_pos rfl,if_pos (by omega)]
       ·refine hid ?_
        intro j ch b h1 h2
        by_cases hji:j<us.length
        ·rw [List.getElem?_append_left hji] at h2
         exact hTs.out j ch b h1 h2
        ·rw [List.getElem?_append_right (by omega)] at h2
         have hl:=(List.getElem?_eq_some_iff.1 h2).1
         simp at hl
         have hj0:j=i:=by omega
         subst hj0
         have hb:false=b:=by simpa [hul] using h2
         subst hb
         have:s[j]=ch:=by have:=HSI.out.symm.trans h1;simpa using this
         rw [←this];exact HTB.out
     ·by_cases h2:s[i]=116
      ·have e1:((s[i].toNat:Int) == 105)=false:=by rw [h2];rfl
       have e2:((s[i].toNat:Int) == 116)=true:=by rw [h2];rfl
       have HTB:Hid (tyB s[i]=some true):=by show _=_;rw [h2];rfl
       clear h1 h2;go_wp2_with fail;go_roundg k
       case measure=>omega
       case rel =>
        refine ⟨i+1,c.setIfInBounds i (.int .i32 (tkN true)),us++[true],by omega,by go_num,by simp [hul],by simp [hcs1],heap_set hC.out i _,?_,?_,hid (hK.out.setCell (.inl (Nat.le_refl _)) _)⟩
        ·refine hid ?_
         intro j b hj;rw [Array.getElem?_setIfInBounds]
         by_cases hji:j<us.length
         ·rw [List.getElem?_append_left hji] at hj
          rw [if_neg (by omega)];exact hMs.out j b hj
         ·rw [List.getElem?_append_right (by omega)] at hj
          have hl:=(List.getElem?_eq_some_iff.1 hj).1
          simp at hl
          have hj0:j=i:=by omega
          subst hj0
          have:true=b:=by simpa [hul] using hj
          subst this
          rw [if_pos rfl,if_pos (by omega)]
        ·refine hid ?_
         intro j ch b h1 h2
         by_cases hji:j<us.length
         ·rw [List.getElem?_append_left hji] at h2
          exact hTs.out j ch b h1 h2
         ·rw [List.getElem?_append_right (by omega)] at h2
          have hl:=(List.getElem?_eq_some_iff.1 h2).1
          simp at hl
          have hj0:j=i:=by omega
          subst hj0
          have hb:true=b:=by simpa [hul] using h2
          subst hb
          have:s[j]=ch:=by have:=HSI.out.symm.trans h1;simpa using this
          rw [←this];exact HTB.out
      ·have e1:((s[i].toNat:Int) == 105)=false:=by
        rw [beq_eq_false_iff_ne];intro e;exact h1 (UInt8.toNat_inj.1 (by rw [show (105:UInt8).toNat=105 from rfl];omega))
       have e2:((s[i].toNat:Int) == 116)=false:=by
        rw [beq_eq_false_iff_ne];intro e;exact h2 (UInt8.toNat_inj.1 (by rw [show (116:UInt8).toNat=116 from rfl];omega))
       have HF:Hid (typesP s=none):=by
        show _=_
        rw [HTP.out]
        exact tysP_none HSI.out (by unfold tyB;rw [if_neg h1,if_neg h2])
       clear h1 h2;go_wp2_with fail;go_ret2;exact ⟨hK.out,.inr ⟨HF.out,_,rfl⟩⟩
 ·have HF:Hid (typesP s=none):=by show _=_;unfold typesP;rw [if_neg hs]
  by_cases h1:s.size<1
  ·have hs1:(s.size:Int)<1:=by omega
   clear hs
   go_enter Tryz.func59,Tryz.ntmps59
   go_wp2_with fail;go_ret2;exact ⟨Kept.refl _ _,.inr ⟨HF.out,_,rfl⟩⟩
  ·have hs1:¬(s.size:Int)<1:=by omega
   have hs2:(4:Int)<(s.size:Int):=by omega
   clear hs
   go_enter Tryz.func59,Tryz.ntmps59
   go_wp2_with fail;go_ret2;exact ⟨Kept.refl _ _,.inr ⟨HF.out,_,rfl⟩⟩
end Go.Proofs.YtdinjjmcmfjbfaaGreatDoor
namespace Go.Proofs
open Go.Shelf Go.RowKit
def Tryz.bRen:Go.Shelf.Ren:=⟨fun | 240=>129 | 276=>164 | 167=>83 | 166=>84 | n=>n,fun | 0=>0 | 3=>3 | 4=>4 | 5=>5 | 9=>9 | 20=>20 | 37=>149 | 70=>177 | 72=>179 | 75=>181 | 80=>89 | 164=>306 | n=>n,fun | n=>n⟩
theorem Tryz.bLays166:Go.Proofs.Lays.n166 Tryz.prog Tryz.bRen:={
 mixed:=by kernel_rfl
 f166:=Tryz.func84.trans (congrArg some (by kernel_rfl))
 f240:=Tryz.func129.trans (congrArg some (by kernel_rfl))
 f276:=Tryz.func164.trans (congrArg some (by kernel_rfl))
 t0:=Tryz.underlying0
 a0:=Tryz.isAgg0
 z0:=Tryz.sizeOf0
 v0:=Tryz.zeroValue0
 t3:=Tryz.underlying3
 a3:=Tryz.isAgg3
 z3:=Tryz.sizeOf3
 v3:=Tryz.zeroValue3
 t4:=Tryz.underlying4
 a4:=Tryz.isAgg4
 z4:=Tryz.sizeOf4
 v4:=Tryz.zeroValue4
 t9:=Tryz.underlying9
 a9:=Tryz.isAgg9
 z9:=Tryz.sizeOf9
 v9:=Tryz.zeroValue9
 t20:=Tryz.underlying20
 a20:=Tryz.isAgg20
 z20:=Tryz.sizeOf20
 v20:=Tryz.zeroValue20
 t37:=Tryz.underlying149
 a37:=Tryz.isAgg149
 z37:=Tryz.sizeOf149
 v37:=Tryz.zeroValue149
 t70:=Tryz.underlying177
 a70:=Tryz.isAgg177
 z70:=Tryz.sizeOf177
 v70:=Tryz.zeroValue177
 t72:=Tryz.underlying179
 a72:=Tryz.isAgg179
 z72:=Tryz.sizeOf179
 v72:=Tryz.zeroValue179
 t75:=Tryz.underlying181
 a75:=Tryz.isAgg181
 z75:=Tryz.sizeOf181
 v75:=Tryz.zeroValue181
 t164:=Tryz.underlying306
 a164:=Tryz.isAgg306
 z164:=Tryz.sizeOf306
 v164:=Tryz.zeroValue306 }
theorem Tryz.bLays167:Go.Proofs.Lays.n167 Tryz.prog Tryz.bRen:={
 mixed:=by kernel_rfl
 f167:=Tryz.func83.trans (congrArg some (by kernel_rfl))
 f240:=Tryz.func129.trans (congrArg some (by kernel_rfl))
 f276:=Tryz.func164.trans (congrArg some (by kernel_rfl))
 t0:=Tryz.underlying0
 a0:=Tryz.isAgg0
 z0:=Tryz.sizeOf0
 v0:=Tryz.zeroValue0
 t4:=Tryz.underlying4
 a4:=Tryz.isAgg4
 z4:=Tryz.sizeOf4
 v4:=Tryz.zeroValue4
 t5:=Tryz.underlying5
 a5:=Tryz.isAgg5
 z5:=Tryz.sizeOf5
 v5:=Tryz.zeroValue5
 t9:=Tryz.underlying9
 a9:=Tryz.isAgg9
 z9:=Tryz.sizeOf9
 v9:=Tryz.zeroValue9
 t20:=Tryz.underlying20
 a20:=Tryz.isAgg20
 z20:=Tryz.sizeOf20
 v20:=Tryz.zeroValue20
 t37:=Tryz.underlying149
 a37:=Tryz.isAgg149
 z37:=Tryz.sizeOf149
 v37:=Tryz.zeroValue149
 t70:=Tryz.underlying177
 a70:=Tryz.isAgg177
 z70:=Tryz.sizeOf177
 v70:=Tryz.zeroValue177
 t72:=Tryz.underlying179
 a72:=Tryz.isAgg179
 z72:=Tryz.sizeOf179
 v72:=Tryz.zeroValue179
 t75:=Tryz.underlying181
 a75:=Tryz.isAgg181
 z75:=Tryz.sizeOf181
 v75:=Tryz.zeroValue181
 t164:=Tryz.underlying306
 a164:=Tryz.isAgg306
 z164:=Tryz.sizeOf306
 v164:=Tryz.zeroValue306 }
theorem Tryz.bExtra:Builder.Extra Tryz.prog Tryz.bRen:={
 sizeBuilder:=by kernel_rfl
 liesBuilder:=by kernel_rfl
 t5:=Tryz.underlying5
 a5:=Tryz.isAgg5
 z5:=Tryz.sizeOf5
 v5:=Tryz.zeroValue5
 infoByte:=by kernel_rfl
 cellsByte:=by kernel_rfl
 sizeByte:=by kernel_rfl
 neB5:=by decide }
theorem Tryz.bWriteByte (B b:Nat) (bs:List Value) (c:Int) (w:World) (h:Lib.IsBuilderF 179 5 B b bs w) (hlen:bs.length+1≤140737488355328) (hBw:B≤w.heap.size) :
 Calls Tryz.prog 83 #[.pointer (some ⟨b,0,none⟩),.int .u8 c] w fun e w'=>e=.returned .nilIface∧(Lib.BuilderAtF 179 5 B b (.pointer (some ⟨b,0,none⟩)) (bs++[.int .u8 c]) w'∧Below B w w'∧Lib.OthersKept 5 (some b) w w'):=Any.Builder_WriteByte_k Tryz.bLays167 Tryz.bExtra B b bs c w h hlen hBw
theorem Tryz.bWriteString (B b:Nat) (bs:List Value) (s:ByteArray) (w:World) (h:Lib.IsBuilderF 179 5 B b bs w) (hlen:bs.length+s.size≤140737488355328) (hBw:B≤w.heap.size) :
 Calls Tryz.prog 84 #[.pointer (some ⟨b,0,none⟩),.string s] w fun e w'=>e=.returned (.tuple #[.int .i64 s.size,.nilIface])∧(Lib.BuilderAtF 179 5 B b (.pointer (some ⟨b,0,none⟩)) (bs++Lib.strCells s) w'∧Below B w w'∧Lib.OthersKept 5 (some b) w w'):=Any.Builder_WriteString_k Tryz.bLays166 Tryz.bExtra B b bs s w h hlen hBw
def Tryz.sRen:Go.Shelf.Ren:=⟨fun | 169=>85 | n=>n,fun | 70=>177 | 9=>9 | 0=>0 | 72=>179 | 37=>149 | 127=>255 | 3=>3 | 5=>5 | n=>n,fun | n=>n⟩
theorem Tryz.sLays169:Go.Proofs.Lays.n169 Tryz.prog Tryz.sRen:={
 mixed:=by kernel_rfl
 f169:=Tryz.func85.trans (congrArg some (by kernel_rfl))
 t0:=Tryz.underlying0
 a0:=Tryz.isAgg0
 z0:=Tryz.sizeOf0
 v0:=Tryz.zeroValue0
 t3:=Tryz.underlying3
 a3:=Tryz.isAgg3
 z3:=Tryz.sizeOf3
 v3:=Tryz.zeroValue3
 t9:=Tryz.underlying9
 a9:=Tryz.isAgg9
 z9:=Tryz.sizeOf9
 v9:=Tryz.zeroValue9
 t37:=Tryz.underlying149
 a37:=Tryz.isAgg149
 z37:=Tryz.sizeOf149
 v37:=Tryz.zeroValue149
 t70:=Tryz.underlying177
 a70:=Tryz.isAgg177
 z70:=Tryz.sizeOf177
 v70:=Tryz.zeroValue177
 t72:=Tryz.underlying179
 a72:=Tryz.isAgg179
 z72:=Tryz.sizeOf179
 v72:=Tryz.zeroValue179
 t127:=Tryz.underlying255
 a127:=Tryz.isAgg255
 z127:=Tryz.sizeOf255
 v127:=Tryz.zeroValue255 }
theorem Tryz.sExtra:Builder.Extra Tryz.prog Tryz.sRen:={
 sizeBuilder:=by kernel_rfl
 liesBuilder:=by kernel_rfl
 t5:=Tryz.underlying5
 a5:=Tryz.isAgg5
 z5:=Tryz.sizeOf5
 v5:=Tryz.zeroValue5
 infoByte:=by kernel_rfl
 cellsByte:=by kernel_rfl
 sizeByte:=by kernel_rfl
 neB5:=by decide }
theorem Tryz.bString (B b:Nat) (l:List UInt8) (w:World) (h:Lib.IsBuilderF 179 5 B b (Lib.byteCells l) w) (hBw:B≤w.heap.size) :
 Calls Tryz.prog 85 #[.pointer (some ⟨b,0,none⟩)] w fun e w'=>e=.returned (.string ⟨l.toArray⟩)∧(Lib.IsBuilderF 179 5 B b (Lib.byteCells l) w'∧Below B w w'∧Lib.OthersKept 5 (some b) w w'):=Any.Builder_String_any_k Tryz.sLays169 Tryz.sExtra B b l w h hBw
end Go.Proofs
namespace Go.Proofs.YtdinjjmcmfjbfaaGreatDoor
open Go.RowKit Go.Shelf
open Mo (V Row Bag cnt canon Eqv OkB OkD neg)
def barFrom:Nat→List (List UInt8)→List UInt8
 | _,[]=>[]
 | i,t::ts=>(if i=0 then [] else [124])++(t++barFrom (i+1) ts)
def bars (ts:List (List UInt8)):List UInt8:=barFrom 0 ts
theorem barFrom_snoc (ts:List (List UInt8)) (t:List UInt8):∀ i,barFrom i (ts++[t])=barFrom i ts++((if i+ts.length=0 then [] else [124])++t):=by
 induction ts with
 | nil=>intro i;simp [barFrom]
 | cons x r ih=>intro i;simp [barFrom,ih,Nat.add_assoc,Nat.add_comm 1]
theorem bars_take (ts:List (List UInt8)) (i:Nat) (t:List UInt8) (ht:ts[i]? =some t):bars (ts.take (i+1))=bars (ts.take i)++((if i=0 then [] else [124])++t):=by
 have hi:=(List.getElem?_eq_some_iff.1 ht).1;rw [List.take_add_one,ht]
 show barFrom 0 (ts.take i++[t])=_
 rw [barFrom_snoc]
 have:(ts.take i).length=i:=by rw [List.length_take];omega
 rw [this,Nat.zero_add];rfl
theorem bars_len {ts:List (List UInt8)} {N:Nat} (h:∀ t∈ts,t.length≤N):∀ i,i≤ts.length→(bars (ts.take i)).length≤(N+1)*i
 | 0,_=>by simp [bars,barFrom]
 | i+1,hi=>by
   have ih:=bars_len h i (by omega)
   obtain ⟨t,ht⟩:∃ t,ts[i]? =some t:=⟨_,List.getElem?_eq_getElem (by omega)⟩
   have h1:=h t (List.mem_of_getElem? ht)
   rw [bars_take _ i t ht,Nat.mul_add];simp only [List.length_append]
   split
   ·simp;omega
   ·simp;omega
def WB (b:Nat) (w w':World):Prop:=Kept (fun k=>b≤k∧(k=b∨Is 5 w k)) w w'
theorem WB.of {b:Nat} {w w':World} (h:Below b w w') (k:Lib.OthersKept 5 (some b) w w'):WB b w w':=⟨h.os,h.tape,h.output,h.size,fun i hi hn=>by
 by_cases hb:i<b
 ·exact h.block i hb
 ·obtain ⟨o,ho⟩:∃ o,w.heap[i]? =some o:=⟨_,Array.getElem?_eq_getElem hi⟩
  rw [ho]
  refine k i o ho (fun e=>hn ⟨by omega,.inl (by simpa using e)⟩) fun c fz e=>hn ⟨by omega,.inr ⟨c,fz,by rw [ho,e]⟩⟩⟩
theorem builder_stays {T:TypeId} {B b:Nat} {bs:List Value} {w w':World} (h:Lib.IsBuilderF T 5 B b bs w) (hk:∀ k,k<w.heap.size→(k=b∨Is 5 w k)→w'.heap[k]? =w.heap[k]?):Lib.IsBuilderF T 5 B b bs w':=by
 have one:∀ p,Lib.BuilderAtF T 5 B b p bs w→Lib.BuilderAtF T 5 B b p bs w':=fun p ⟨h1,v,h2,h3,h4⟩=>by
  refine ⟨h1,v,(hk b (lt_of_heap h2) (.inl rfl)).trans h2,⟨h3.1,?_⟩,h4⟩
  rcases h3.2 with hn | ⟨g,cap,cur,fz,e,hb,hg,hrest⟩
  ·exact .inl hn
  ·exact .inr ⟨g,cap,cur,fz,e,hb,(hk g (lt_of_heap hg) (.inr ⟨_,_,hg⟩)).trans hg,hrest⟩
 exact h.imp (one _) (one _)
theorem wr_room {T t:List UInt8} (h:T.length+t.length≤140737488355328):(Lib.byteCells T).length+ByteArray.size ⟨t.toArray⟩≤140737488355328:=by
 have h1:(Lib.byteCells T).length=T.length:=by simp [Lib.byteCells]
 have h2:ByteArray.size ⟨t.toArray⟩=t.length:=by simp [ByteArray.size]
 rw [h1,h2];exact h
theorem byteCells_len (l:List UInt8):(Lib.byteCells l).length=l.length:=by simp [Lib.byteCells]
theorem sesTell_any (p n cap:Nat) (sa:Option Addr) (blk:Nat→Nat) (ts:List (List UInt8)) (I:Nat→World→Prop) (w:World) (hpl:p<w.heap.size) (hp:w.cell? ⟨p,1,none⟩=some (.slice sa n cap)) (hn:n≤6) (hts:ts.length=n) (hlen:∀ t∈ts,t.length≤20000000000000)
 (h0:I 0 w) (hstab:∀ i a c,I i a→w.heap.size≤a.heap.size→Kept (fun k=>w.heap.size≤k∧(k=w.heap.size∨Is 5 a k)) a c→I i c)
 (hcell:∀ i wr,I i wr→i<n→∃ g o,sa=some ⟨g,o,none⟩∧wr.cell? ⟨g,o+i,none⟩=some (.pointer (some ⟨blk i,0,none⟩)))
 (hstep:∀ i t wr,I i wr→w.heap.size<wr.heap.size→ts[i]? =some t→Calls Tryz.prog 40 #[.pointer (some ⟨blk i,0,none⟩)] wr fun e w'=>e=.returned (.string ⟨t.toArray⟩)∧I (i+1) w'∧Kept (fun k=>k≠w.heap.size∧¬Is 5 wr k) wr w') :
 Calls Tryz.prog 48 #[.pointer (some ⟨p,0,none⟩)] w fun e w'=>e=.returned (.string ⟨(bars ts).toArray⟩)∧I n w'∧w.heap.size≤w'.heap.size:=by
 have HC:=hid hcell;have HS:=hid hstep;have HB:=hid hstab;have HTS:=hid hts;have HL:=hid hlen;have H0:Hid (I 0 (w.alloc (.cells #[.pointer none,.slice none 0 0] 179))):=hstab 0 w _ h0 (Nat.le_refl _) ((Kept.refl _ w).alloc _);clear hcell hstep hstab h0 hts hlen
 go_enter Tryz.func48,Tryz.ntmps48
 go_wp2_with fail
 go_loopg [11] n (fun k v11 wr=>∃ i:Nat,i+k=n∧v11=.int .i64 (i:Int)∧Hid (Lib.IsBuilderF 179 5 w.heap.size w.heap.size (Lib.byteCells (bars (ts.take i))) wr)∧Hid (I i wr)∧Hid (w.heap.size<wr.heap.size))
 case atStart=>exact ⟨0,by omega,rfl,hid (Lib.IsBuilderF.of (Lib.fresh_isBuilder _ _ w)),H0,hid (by simp)⟩
 case round =>
  obtain ⟨i,hik,rfl,hB,hI,hZ⟩:=hrel
  have hlT:=bars_len (ts:=ts) (N:=20000000000000) HL.out i (by have:=HTS.out;omega)
  cases gk with
  | zero =>
    have hx:¬(i:Int)<(n:Int):=by omega
    have HX:Hid (ts.take i=ts):=List.take_of_length_le (by have:=HTS.out;omega)
    have HIN:Hid (i=n):=by show _=_;omega
    clear hlT hik;go_wp2_with fail;refine (Tryz.bString w.heap.size w.heap.size _ _ hB.out (Nat.le_of_lt hZ.out)).mono ?_;rintro e w3 ⟨rfl,-,hb3,ho3⟩
    have HI3:Hid (I n w3):=by rw [←HIN.out];exact HB.out i wr w3 hI.out (Nat.le_of_lt hZ.out) (WB.of hb3 ho3)
    have HZ3:Hid (w.heap.size≤w3.heap.size):=Nat.le_trans (Nat.le_of_lt hZ.out) hb3.size;clear hb3 ho3;go_wp2_with fail;go_ret
    exact ⟨by rw [HX.out];rfl,HI3.out,HZ3.out⟩
  | succ k =>
    have hx:(i:Int)<(n:Int):=by omega
    have hx0:(0:Int)≤(i:Int):=by omega
    obtain ⟨t,ht⟩:∃ t,ts[i]? =some t:=⟨_,List.getElem?_eq_getElem (by have:=HTS.out;omega)⟩
    have htl:=HL.out t (List.mem_of_getElem? ht)
    have HStep:=hid (bars_take ts i t ht);have HTI:=hid ht
    obtain ⟨g,o,rfl,hc⟩:=HC.out i wr hI.out (by omega)
    obtain ⟨T,hT⟩:∃ T,bars (ts.take i)=T:=⟨_,rfl⟩;have HT:=hid hT;rw [hT] at hB hlT;clear hT ht
    by_cases hi0:i=0
    ·have hg0:¬(0:Int)<(i:Int):=by omega
     have HI0:=hid hi0;have HSt:=hid (HS.out i t wr hI.out hZ.out HTI.out);clear hi0;go_wp2_with fail;refine HSt.out.mono ?_;rintro e w3 ⟨rfl,hI3,hk3⟩;have HI3:=hid hI3;have HZ3:Hid (w.heap.size<w3.heap.size):=Nat.lt_of_lt_of_le hZ.out hk3.size
     have HB3:Hid (Lib.IsBuilderF 179 5 w.heap.size w.heap.size (Lib.byteCells T) w3):=builder_stays hB.out fun k hk e=>hk3.block k hk (fun e'=>e.elim e'.1 e'.2)
     clear hI3 hk3 HSt hc;go_wp2_with fail
     refine (Tryz.bWriteString w.heap.size w.heap.size _ _ _ HB3.out (wr_room (by omega)) (Nat.le_of_lt HZ3.out)).mono ?_
     rintro e w4 ⟨rfl,hb4,hbe4,ho4⟩;have HI4:Hid (I (i+1) w4):=HB.out (i+1) w3 w4 HI3.out (Nat.le_of_lt HZ3.out) (WB.of hbe4 ho4);have HZ4:Hid (w.heap.size<w4.heap.size):=Nat.lt_of_lt_of_le HZ3.out hbe4.size
     have HB4:Hid (Lib.IsBuilderF 179 5 w.heap.size w.heap.size (Lib.byteCells (T++t)) w4):=by
      rw [Lib.byteCells_append];exact .inr hb4
     clear hb4 hbe4 ho4;go_wp2_with fail;go_roundg k
     case measure=>omega
     case rel =>
      refine ⟨i+1,by omega,by go_num,?_,HI4,HZ4⟩
      rw [HStep.out,HT.out,if_pos HI0.out,List.nil_append];exact HB4
    ·have hg0:(0:Int)<(i:Int):=by omega
     have HI0:=hid hi0;clear hi0;go_wp2_with fail
     refine (Tryz.bWriteByte w.heap.size w.heap.size _ 124 _ hB.out (by rw [byteCells_len];omega) (Nat.le_of_lt hZ.out)).mono ?_
     rintro e w2 ⟨rfl,hb2,hbe2,ho2⟩;have hI2:I i w2:=HB.out i wr w2 hI.out (Nat.le_of_lt hZ.out) (WB.of hbe2 ho2);have hZ2:w.heap.size<w2.heap.size:=Nat.lt_of_lt_of_le hZ.out hbe2.size
     have HB2:Hid (Lib.IsBuilderF 179 5 w.heap.size w.heap.size (Lib.byteCells (T++[124])) w2):=by
      rw [Lib.byteCells_append];exact .inr hb2
     have HSt:=hid (HS.out i t w2 hI2 hZ2 HTI.out);have HZ2:=hid hZ2;clear hI2 hb2 hbe2 ho2 hZ2 hc;go_wp2_with fail;refine HSt.out.mono ?_;rintro e w3 ⟨rfl,hI3,hk3⟩;have HI3:=hid hI3;have HZ3:Hid (w.heap.size<w3.heap.size):=Nat.lt_of_lt_of_le HZ2.out hk3.size
     have HB3:Hid (Lib.IsBuilderF 179 5 w.heap.size w.heap.size (Lib.byteCells (T++[124])) w3):=builder_stays HB2.out fun k hk e=>hk3.block k hk (fun e'=>e.elim e'.1 e'.2)
     clear hI3 hk3 HSt;go_wp2_with fail
     refine (Tryz.bWriteString w.heap.size w.heap.size _ _ _ HB3.out (wr_room (by rw [List.length_append];simp only [List.length_cons,List.length_nil];omega)) (Nat.le_of_lt HZ3.out)).mono ?_
     rintro e w4 ⟨rfl,hb4,hbe4,ho4⟩;have HI4:Hid (I (i+1) w4):=HB.out (i+1) w3 w4 HI3.out (Nat.le_of_lt HZ3.out) (WB.of hbe4 ho4);have HZ4:Hid (w.heap.size<w4.heap.size):=Nat.lt_of_lt_of_le HZ3.out hbe4.size
     have HB4:Hid (Lib.IsBuilderF 179 5 w.heap.size w.heap.size (Lib.byteCells (T++[124]++t)) w4):=by
      rw [Lib.byteCells_append];exact .inr hb4
     clear hb4 hbe4 ho4;go_wp2_with fail;go_roundg k
     case measure=>omega
     case rel =>
      refine ⟨i+1,by omega,by go_num,?_,HI4,HZ4⟩
      rw [HStep.out,HT.out,if_neg HI0.out,←List.append_assoc];exact HB4
open Go.RowKit
open Mo (V Row Q Opd leaves joins wf wfO TOk)
section
variable {s:ByteArray} {f g h:Nat→Bool × Nat} {a b:Nat}
theorem andP_inv (e:Pl.andP f g a=(true,b)):∃ c,f a=(true,c)∧g c=(true,b):=by
 unfold Pl.andP at e
 by_cases h1:(f a).1=true
 ·rw [if_pos h1] at e;exact ⟨(f a).2,Prod.ext h1 rfl,e⟩
 ·rw [if_neg h1] at e;cases e
theorem orP_inv (e:Pl.orP f g a=(true,b)):f a=(true,b)∨((f a).1=false∧g (f a).2=(true,b)):=by
 unfold Pl.orP at e
 by_cases h1:(f a).1=true
 ·rw [if_pos h1] at e;exact .inl (Prod.ext h1 (by simpa using e))
 ·rw [if_neg h1] at e;exact .inr ⟨by simpa using h1,e⟩
theorem ifP_inv (e:Pl.ifP f g h a=(true,b)):(∃ c,f a=(true,c)∧g c=(true,b))∨((f a).1=false∧h (f a).2=(true,b)):=by
 unfold Pl.ifP at e
 by_cases h1:(f a).1=true
 ·rw [if_pos h1] at e;exact .inl ⟨(f a).2,Prod.ext h1 rfl,e⟩
 ·rw [if_neg h1] at e;exact .inr ⟨by simpa using h1,e⟩
theorem tk_inv {c:Nat} (e:Pl.tk s c a=(true,b)):Pl.bt s a=c∧b=a+1:=by
 unfold Pl.tk at e
 by_cases h1:Pl.bt s a=c
 ·rw [if_pos h1] at e;exact ⟨h1,by simpa using e.symm⟩
 ·rw [if_neg h1] at e;cases e
theorem dig_inv (e:Pl.dig s a=(true,b)):b=a+1∧dgN s a<10:=by
 have h1:=dig_at e;refine ⟨h1,?_⟩
 by_cases h2:48≤Pl.bt s a∧Pl.bt s a≤57
 ·unfold dgN;omega
 ·unfold Pl.dig at e;rw [Pl.sev_no h2] at e;cases e
end
theorem let4_ok {s:ByteArray} {a b:Nat} (ha:a≤s.size) (e:Pl.let4 s a=(true,b)):TOk (.txt (sub s a b)):=by
 obtain ⟨h1,h2,h3,h4⟩:=sev_sub (by omega) ha e
 have hl:=sub_len (s:=s) (a:=a) h2
 exact ⟨by omega,by omega,h4⟩
theorem oper_ok {s:ByteArray} {a b:Nat} (e:Pl.operP s a=(true,b)):wfO (operV s a):=by
 unfold operV
 rcases ifP_inv e with ⟨c,h1,h2⟩ | ⟨h1,h2⟩
 ·obtain ⟨h3,rfl⟩:=tk_inv h1
  rw [if_pos h3]
  have hlt:=Pl.bt_lt (s:=s) (a:=a) (by omega)
  have h5:=(numP_sub (by omega) h2).2.2
  have h6:(Pl.numP s (a+1)).2=b:=by rw [h2]
  rw [h6];exact numOf_le h5
 ·have hn35:¬Pl.bt s a=35:=fun e'=>by rw [Pl.tk_in e'] at h1;cases h1
  have ha2:(Pl.tk s 35 a).2=a:=Pl.tk_stays s 35 a h1;rw [ha2] at h2;rw [if_neg hn35]
  rcases ifP_inv h2 with ⟨c,h3,h4⟩ | ⟨h3,h4⟩
  ·obtain ⟨h5,rfl⟩:=tk_inv h3
   rw [if_pos h5]
   have hlt:=Pl.bt_lt (s:=s) (a:=a) (by omega)
   have h6:(Pl.let4 s (a+1)).2=b:=by rw [h4]
   rw [h6]
   exact let4_ok (by omega) h4
  ·have hn36:¬Pl.bt s a=36:=fun e'=>by rw [Pl.tk_in e'] at h3;cases h3
   have ha3:(Pl.tk s 36 a).2=a:=Pl.tk_stays s 36 a h3;rw [ha3] at h4;rw [if_neg hn36];exact (dig_inv h4).2
theorem cols_ok {s:ByteArray}:∀ (k a b:Nat),Pl.colsP s k a=(true,b)→1≤(colsV s k a).length∧(colsV s k a).length≤k+1∧∀ c∈colsV s k a,c<10
 | 0,a,b,e=>by
   obtain ⟨c,h1,h2⟩:=andP_inv e
   have:=(dig_inv h1).2
   exact ⟨by simp [colsV],by simp [colsV],fun c hc=>by simp [colsV] at hc;omega⟩
 | k+1,a,b,e=>by
   obtain ⟨c,h1,h2⟩:=andP_inv e;obtain ⟨rfl,h3⟩:=dig_inv h1;unfold colsV
   rcases ifP_inv h2 with ⟨d,h4,h5⟩ | ⟨h4,h5⟩
   ·obtain ⟨h6,rfl⟩:=tk_inv h4
    rw [if_pos h6];obtain ⟨i1,i2,i3⟩:=cols_ok k (a+2) b h5
    refine ⟨by simp,by simp;omega,fun c hc=> ?_⟩
    rcases List.mem_cons.1 hc with rfl | hc
    ·exact h3
    ·exact i3 c hc
   ·have:¬Pl.bt s (a+1)=44:=fun e'=>by rw [Pl.tk_in e'] at h4;cases h4
    rw [if_neg this]
    exact ⟨by simp,by simp,fun c hc=>by simp at hc;omega⟩
theorem wf_one {s:ByteArray} {k a b:Nat} {q:Q} (hk:Pl.ins k=1) (h7:k≤7) (e:Pl.headP s k a=(true,b)) (hq:wf q):wf (mkQ (hdV s k a) (hcs s k a) [q]):=by
 rcases ins_one hk h7 with rfl | rfl | rfl | rfl
 ·have e':Pl.selP s a=(true,b):=e
  obtain ⟨c1,t1,e1⟩:=andP_inv e';obtain ⟨-,rfl⟩:=tk_inv t1;obtain ⟨c2,t2,e2⟩:=andP_inv e1;obtain ⟨-,rfl⟩:=tk_inv t2;obtain ⟨c3,t3,e3⟩:=andP_inv e2;obtain ⟨rfl,d3⟩:=dig_inv t3;obtain ⟨c4,t4,e4⟩:=andP_inv e3
  have hc4:c4=a+1+1+1+1:=by
   unfold Pl.oneOf at t4
   split at t4
   ·simpa using t4.symm
   ·cases t4
  subst hc4;obtain ⟨c5,t5,e5⟩:=andP_inv e4;exact ⟨d3,oper_ok t5,hq⟩
 ·have e':Pl.pickP s a=(true,b):=e
  obtain ⟨c1,t1,e1⟩:=andP_inv e';obtain ⟨-,rfl⟩:=tk_inv t1;obtain ⟨c2,t2,e2⟩:=andP_inv e1;obtain ⟨-,rfl⟩:=tk_inv t2;obtain ⟨i1,i2,i3⟩:=cols_ok 5 _ _ e2;exact ⟨i1,i2,i3,hq⟩
 ·exact hq
 ·have e':Pl.groupP s a=(true,b):=e
  obtain ⟨c1,t1,e1⟩:=andP_inv e';obtain ⟨-,rfl⟩:=tk_inv t1;obtain ⟨c2,t2,e2⟩:=andP_inv e1;obtain ⟨-,rfl⟩:=tk_inv t2;obtain ⟨c3,t3,e3⟩:=andP_inv e2
  have hg:grpB s a=c3:=by unfold grpB;rw [t3]
  obtain ⟨c4,t4,e4⟩:=andP_inv e3;obtain ⟨-,rfl⟩:=tk_inv t4
  have hw:∀ m,wS (wtV s (grpB s a+1))=some m→m<10:=fun m hm=>by
   rw [hg] at hm;unfold wtV at hm
   rcases ifP_inv e4 with ⟨d,h1,h2⟩ | ⟨h1,h2⟩
   ·obtain ⟨h3,rfl⟩:=tk_inv h1
    rw [if_pos h3] at hm;obtain ⟨c,h4,h5⟩:=andP_inv h2
    have:=(dig_inv h4).2
    have hm':dgN s (c3+1+1)=m:=by simpa [wS] using hm
    omega
   ·have:¬Pl.bt s (c3+1)=115:=fun e'=>by rw [Pl.tk_in e'] at h1;cases h1
    rw [if_neg this] at hm;cases hm
  have hcs:hcs s 7 a=if Pl.bt s (a+2)=93 then [] else colsV s 5 (a+2):=rfl
  show wf (.grp (Go.Proofs.YtdinjjmcmfjbfaaGreatDoor.hcs s 7 a) (wS (wtV s (grpB s a+1))) q)
  rw [hcs]
  rcases orP_inv t3 with h1 | ⟨h1,h2⟩
  ·have h3:=(tk_inv h1).1
   rw [if_pos h3]
   exact ⟨by simp,by simp,hw,hq⟩
  ·have hn:¬Pl.bt s (a+2)=93:=fun e'=>by rw [Pl.tk_in e'] at h1;cases h1
   have ha2:(Pl.tk s 93 (a+1+1)).2=a+2:=Pl.tk_stays s 93 _ h1;rw [ha2] at h2;rw [if_neg hn];obtain ⟨i1,i2,i3⟩:=cols_ok 5 _ _ h2;exact ⟨i2,i3,hw,hq⟩
theorem wf_two {s:ByteArray} {k a b:Nat} {q r:Q} (hk:Pl.ins k=2) (e:Pl.headP s k a=(true,b)) (hq:wf q) (hr:wf r):wf (mkQ (hdV s k a) (hcs s k a) [q,r]):=by
 rcases ins_two hk with rfl | rfl
 ·have e':Pl.joinP s a=(true,b):=e
  obtain ⟨c1,t1,e1⟩:=andP_inv e';obtain ⟨-,rfl⟩:=tk_inv t1;obtain ⟨c2,t2,e2⟩:=andP_inv e1;obtain ⟨-,rfl⟩:=tk_inv t2;obtain ⟨c3,t3,e3⟩:=andP_inv e2;obtain ⟨rfl,d3⟩:=dig_inv t3;obtain ⟨c4,t4,e4⟩:=andP_inv e3;obtain ⟨-,rfl⟩:=tk_inv t4;obtain ⟨c5,t5,e5⟩:=andP_inv e4;obtain ⟨rfl,d5⟩:=dig_inv t5;exact ⟨d3,d5,hq,hr⟩
 ·exact ⟨hq,hr⟩
theorem cj_mono (s:ByteArray):∀ {a b:Nat},a≤b→Pl.cj s a≤Pl.cj s b:=by
 intro a b h
 induction h with
 | refl=>exact Nat.le_refl _
 | step _ ih=>exact Nat.le_trans ih (by show _≤Pl.cj s _+_;omega)
theorem joins_one (h:Hd) (cs:List Nat) (q:Q):joins (mkQ h cs [q])=joins q:=by
 show joins (if h.k=2 then _ else if h.k=3 then _ else if h.k=6 then _ else _)=_
 by_cases h2:h.k=2
 ·rw [if_pos h2];rfl
 by_cases h3:h.k=3
 ·rw [if_neg h2,if_pos h3];rfl
 by_cases h6:h.k=6
 ·rw [if_neg h2,if_neg h3,if_pos h6];rfl
 ·rw [if_neg h2,if_neg h3,if_neg h6];rfl
theorem joins_two (h:Hd) (cs:List Nat) (q r:Q):joins (mkQ h cs [q,r])=joins q+joins r+if h.k=4 then 1 else 0:=by
 show joins (if h.k=4 then _ else _)=_
 by_cases h4:h.k=4
 ·rw [if_pos h4,if_pos h4];rfl
 ·rw [if_neg h4,if_neg h4];rfl
theorem leaves_one' (h:Hd) (cs:List Nat) (q:Q):leaves (mkQ h cs [q])=leaves q:=by
 show leaves (if h.k=2 then _ else if h.k=3 then _ else if h.k=6 then _ else _)=_
 by_cases h2:h.k=2
 ·rw [if_pos h2];rfl
 by_cases h3:h.k=3
 ·rw [if_neg h2,if_pos h3];rfl
 by_cases h6:h.k=6
 ·rw [if_neg h2,if_neg h3,if_pos h6];rfl
 ·rw [if_neg h2,if_neg h3,if_neg h6];rfl
theorem leaves_two' (h:Hd) (cs:List Nat) (q r:Q):leaves (mkQ h cs [q,r])=leaves q++leaves r:=by
 show leaves (if h.k=4 then _ else _)=_
 by_cases h4:h.k=4
 ·rw [if_pos h4];rfl
 ·rw [if_neg h4];rfl
theorem rq_facts {s:ByteArray} {f a b:Nat} {q:Q} (h:Rq s f a b q):a≤s.size→wf q∧a<b∧b≤s.size∧2*(leaves q).length≤b-a+1∧joins q+Pl.cj s a≤Pl.cj s b:=by
 induction h with
 | @tab f a b hk he =>
   intro ha;have hf:=Pl.headP_facts s 1 a;rw [he] at hf;obtain ⟨f1,f2,f3,f4⟩:=hf;have e4:Pl.let4 s a=(true,b):=he;refine ⟨?_,f3 rfl,f2 ha,?_,?_⟩
   ·have h6:(Pl.let4 s a).2=b:=by rw [e4]
    show TOk (.txt (sub s a (Pl.let4 s a).2))
    rw [h6];exact let4_ok ha e4
   ·have:=f3 rfl
    show 2*1≤_
    simp only at this
    omega
   ·have:=f4 rfl
    simp only at this
    show 0+_≤_
    omega
 | @one f a b c q hk he hb hq hc ih =>
   intro ha;have hf:=Pl.headP_facts s (Pl.kd (Pl.bt s a)) a;rw [he] at hf;obtain ⟨f1,f2,f3,f4⟩:=hf
   have hblt:=Pl.bt_lt (s:=s) (a:=b) (by omega)
   have hclt:=Pl.bt_lt (s:=s) (a:=c) (by omega)
   obtain ⟨i1,i2,i3,i4,i5⟩:=ih (by omega)
   have g3:=f3 rfl;have g4:=f4 rfl
   simp only at g3 g4
   have m1:=cj_mono s (show b≤b+1 by omega)
   have m2:=cj_mono s (show c≤c+1 by omega)
   refine ⟨wf_one hk (Pl.kd_le _) he i1,by omega,by omega,by rw [leaves_one'];omega,by rw [joins_one];omega⟩
 | @two f a b c d q r hk he hb hq hc hr hd ih1 ih2 =>
   intro ha;have hf:=Pl.headP_facts s (Pl.kd (Pl.bt s a)) a;rw [he] at hf;obtain ⟨f1,f2,f3,f4⟩:=hf
   have hblt:=Pl.bt_lt (s:=s) (a:=b) (by omega)
   have hclt:=Pl.bt_lt (s:=s) (a:=c) (by omega)
   have hdlt:=Pl.bt_lt (s:=s) (a:=d) (by omega)
   obtain ⟨i1,i2,i3,i4,i5⟩:=ih1 (by omega)
   obtain ⟨j1,j2,j3,j4,j5⟩:=ih2 (by omega)
   have g3:=f3 rfl;have g4:=f4 rfl
   simp only at g3 g4
   have m1:=cj_mono s (show b≤b+1 by omega)
   have m2:=cj_mono s (show c≤c+1 by omega)
   have m3:=cj_mono s (show d≤d+1 by omega)
   refine ⟨wf_two hk he i1 j1,by omega,by omega,by rw [leaves_two',List.length_append];omega,?_⟩
   rw [joins_two,hdV_k];omega
def rdQ (s:ByteArray):Nat→Nat→Option (Q × Nat)
 | 0,a=>if Pl.kd (Pl.bt s a)=1∧(Pl.headP s 1 a).1=true then some (mkQ (hdV s 1 a) (hcs s 1 a) [],(Pl.headP s 1 a).2) else none
 | f+1,a =>
   if Pl.kd (Pl.bt s a)=1 then (if (Pl.headP s 1 a).1=true then some (mkQ (hdV s 1 a) (hcs s 1 a) [],(Pl.headP s 1 a).2) else none)
   else if (Pl.headP s (Pl.kd (Pl.bt s a)) a).1=true then
    (match rdQ s f ((Pl.headP s (Pl.kd (Pl.bt s a)) a).2+1) with
     | none=>none
     | some (q,c) =>
       if Pl.ins (Pl.kd (Pl.bt s a))=1 then (if Pl.bt s c=41 then some (mkQ (hdV s (Pl.kd (Pl.bt s a)) a) (hcs s (Pl.kd (Pl.bt s a)) a) [q],c+1) else none)
       else (match rdQ s f (c+1) with
        | none=>none
        | some (r,d)=>if Pl.bt s d=41 then some (mkQ (hdV s (Pl.kd (Pl.bt s a)) a) (hcs s (Pl.kd (Pl.bt s a)) a) [q,r],d+1) else none))
   else none
theorem rdQ_of {s:ByteArray} {f a b:Nat} {q:Q} (h:Rq s f a b q):rdQ s f a=some (q,b):=by
 induction h with
 | @tab f a b hk he =>
   cases f with
   | zero=>unfold rdQ;rw [if_pos ⟨hk,by rw [he]⟩,he]
   | succ f=>unfold rdQ;rw [if_pos hk,if_pos (by rw [he]),he]
 | @one f a b c q hk he hb hq hc ih =>
   have hn:¬Pl.kd (Pl.bt s a)=1:=fun e=>by rw [e] at hk;exact absurd hk (by decide)
   unfold rdQ
   rw [if_neg hn,if_pos (by rw [he]),he]
   simp only [ih,if_pos hk,if_pos hc]
 | @two f a b c d q r hk he hb hq hc hr hd ih1 ih2 =>
   have hn:¬Pl.kd (Pl.bt s a)=1:=fun e=>by rw [e] at hk;exact absurd hk (by decide)
   have hn1:¬Pl.ins (Pl.kd (Pl.bt s a))=1:=by omega
   unfold rdQ
   rw [if_neg hn,if_pos (by rw [he]),he]
   simp only [ih1,if_neg hn1,ih2,if_pos hd]
end Go.Proofs.YtdinjjmcmfjbfaaGreatDoor
namespace Go.Proofs.YtdinjjmcmfjbfaaGreatDoor.Mo
structure Tab where
 nm:List UInt8
 ts:List Bool
 bag:Bag
structure Ses where
 tabs:List Tab
 views:List Q
def tabT (tb:List Tab) (nm:List UInt8):Option Tab:=tb.find? fun t=>decide (t.nm=nm)
def ftT (tb:List Tab) (nm:List UInt8):Option (List Bool):=(tabT tb nm).map Tab.ts
def bagN (tb:List Tab) (nm:List UInt8):Bag:=match tabT tb nm with
 | some t=>t.bag
 | none=>[]
def leafG (tb:List Tab) (q:Q):Nat→Bag:=fun j=>match (leaves q)[j]? with
 | some nm=>bagN tb nm
 | none=>[]
def bagS (tb:List Tab) (q:Q):Bag:=bagQ (leafG tb q) 0 q
structure TabGood (t:Tab):Prop where
 nn:nn t.bag
 rt:RT t.ts t.bag
 bt:BT t.bag
 num:∀ e∈t.bag,∀ v∈e.1,wv v≤9999
 len:1≤t.ts.length∧t.ts.length≤4
 name:TOk (.txt t.nm)
def rowsT (tb:List Tab):Int:=(tb.map fun t=>Nr t.bag).sum
structure TabsGood (tb:List Tab):Prop where
 each:∀ t∈tb,TabGood t
 nod:(tb.map Tab.nm).Nodup
 rows:rowsT tb≤60
 few:tb.length≤4
theorem tabT_some {tb:List Tab} {nm:List UInt8} {t:Tab} (h:tabT tb nm=some t):t∈tb∧t.nm=nm:=⟨List.mem_of_find?_eq_some h,by have:=List.find?_some h;simpa using this⟩
theorem tabT_of {tb:List Tab} (hn:(tb.map Tab.nm).Nodup) {t:Tab} (ht:t∈tb):tabT tb t.nm=some t:=by
 induction tb with
 | nil=>cases ht
 | cons x tb ih =>
   have hn':=List.nodup_cons.1 (by simpa using hn:(x.nm::tb.map Tab.nm).Nodup)
   unfold tabT;rw [List.find?_cons]
   rcases List.mem_cons.1 ht with rfl | ht
   ·simp
   ·have:¬x.nm=t.nm:=fun e=>hn'.1 (by rw [e];exact List.mem_map.2 ⟨t,ht,rfl⟩)
    simp only [this,decide_false];exact ih hn'.2 ht
theorem rowsT_ge {tb:List Tab} (h:∀ t∈tb,TabGood t):0≤rowsT tb:=by
 induction tb with
 | nil=>exact Int.le_refl _
 | cons x tb ih =>
   have h1:=Nr_nn (h x (by simp)).nn
   have h2:=ih fun t ht=>h t (by simp [ht])
   show 0≤Nr x.bag+rowsT tb
   omega
theorem rowsT_mem {tb:List Tab} (h:∀ t∈tb,TabGood t) {t:Tab} (ht:t∈tb):Nr t.bag≤rowsT tb:=by
 induction tb with
 | nil=>cases ht
 | cons x tb ih =>
   have h1:=Nr_nn (h x (by simp)).nn
   have h2:=rowsT_ge (tb:=tb) fun t ht=>h t (by simp [ht])
   show _≤Nr x.bag+rowsT tb
   rcases List.mem_cons.1 ht with rfl | ht
   ·omega
   ·have:=ih (fun t ht=>h t (by simp [ht])) ht
    omega
structure Fine (us:List Bool) (B:Bag):Prop where
 nn:nn B
 rows:Nr B≤60
 wts:Wt B≤10000*60
 rt:RT us B
 bt:BT B
theorem wts_of {B:Bag} (hn:nn B) (h:∀ e∈B,∀ v∈e.1,wv v≤9999) (hr:Nr B≤60):Wt B≤10000*60:=by
 have e1:lin B wt=lin B (fun r=>min (wt r) 10000):=lin_congr_fun B fun e he=>by
  have:=wt_le (r:=e.1) (b:=9999) (by omega) (h e he)
  omega
 have e2:lin B (fun r=>min (wt r) 10000)≤lin B (fun _=>10000*1):=lin_mono hn fun r=>by omega
 rw [lin_mul] at e2;unfold Wt;rw [e1];unfold Nr at hr;omega
theorem TabGood.fine {t:Tab} (h:TabGood t) (hr:Nr t.bag≤60):Fine t.ts t.bag:=⟨h.nn,hr,wts_of h.nn h.num hr,h.rt,h.bt⟩
theorem TabsGood.fine {tb:List Tab} (h:TabsGood tb) {t:Tab} (ht:t∈tb):Fine t.ts t.bag:=(h.each t ht).fine (Int.le_trans (rowsT_mem h.each ht) h.rows)
theorem nil_fine:nn ([]:Bag)∧Nr ([]:Bag)≤60∧Wt ([]:Bag)≤10000*60:=⟨fun r=>Int.le_refl _,by show (0:Int)≤60;decide,by show (0:Int)≤_;decide⟩
theorem small_of {G:Nat→Bag} (h:∀ j,nn (G j)∧Nr (G j)≤60∧Wt (G j)≤10000*60):Small G 60∧Small G 120 :=
 ⟨⟨fun i=>(h i).1,fun i=>(h i).2.1,fun i=>(h i).2.2⟩,⟨fun i=>(h i).1,fun i=>by have:=(h i).2.1;omega,fun i=>by have:=(h i).2.2;omega⟩⟩
theorem leafG_small {tb:List Tab} (h:TabsGood tb) (q:Q):Small (leafG tb q) 60∧Small (leafG tb q) 120:=small_of fun j=>by
 unfold leafG bagN
 cases (leaves q)[j]? with
 | none=>exact nil_fine
 | some nm =>
   simp only
   cases ht:tabT tb nm with
   | none=>exact nil_fine
   | some t=>exact ⟨(h.fine (tabT_some ht).1).nn,(h.fine (tabT_some ht).1).rows,(h.fine (tabT_some ht).1).wts⟩
theorem leafG_ty {tb:List Tab} (h:TabsGood tb) (q:Q):LeafT (ftT tb) q 0 (leafG tb q):=fun j nm us hj hu=>by
 unfold leafG bagN;rw [Nat.zero_add,hj]
 simp only
 obtain ⟨t,ht,rfl⟩:=Option.map_eq_some_iff.1 hu;rw [ht];exact ⟨(h.fine (tabT_some ht).1).rt,(h.fine (tabT_some ht).1).bt⟩
theorem ftT_len {tb:List Tab} (h:TabsGood tb) (nm:List UInt8) (us:List Bool) (hu:ftT tb nm=some us):1≤us.length∧us.length≤6:=by
 obtain ⟨t,ht,rfl⟩:=Option.map_eq_some_iff.1 hu
 have:=(h.each t (tabT_some ht).1).len
 omega
theorem bound60 (q:Q) (hl:(leaves q).length≤60) (hj:joins q≤2) {f:Nat→Bag} (h:Small f 60) (i:Nat):Nr (bagQ f i q)≤50000000000:=by
 have hp:pw 3600 (joins q)≤3600*3600:=by
  have:=pw_mono (B:=3600) (by omega) hj
  simpa [pw] using this
 have hp0:=pw_pos (B:=3600) (by omega) (joins q)
 have h1:=Int.le_trans (bagQ_bN h (by omega) q i) (bN_le (B:=3600) (by omega) q (by omega))
 have k1:((leaves q).length:Int)*60*pw 3600 (joins q)≤3600*(3600*3600):=mul_le (by omega) hp (by omega) (by omega)
 omega
end Go.Proofs.YtdinjjmcmfjbfaaGreatDoor.Mo
namespace Go.Proofs.YtdinjjmcmfjbfaaGreatDoor
open Go.RowKit Go.Shelf
open Mo (V Row Bag cnt canon Eqv OkB OkD neg Nr)
theorem bwr_of {ts:List Bool} {a b:Bag} (ha:OkB ts a) (hb:OkB ts b) (na:Nr a≤50000000000) (nb:Nr b≤50000000000):BWr ts (a++neg b):=by
 refine ⟨fun r hr=> ?_,fun r=> ?_,?_⟩
 ·have hg:Mo.Good ts r:=by
   rw [Mo.cnt_append,Mo.cnt_neg] at hr
   by_cases h0:cnt a r=0
   ·exact hb.good (by omega)
   ·exact ha.good h0
  exact ⟨good_ok hg ha.six,hg.1⟩
 ·have h1:=ha.bd r
  have h2:=hb.bd r;rw [Mo.cnt_append,Mo.cnt_neg];omega
 ·have e:Eqv (a++neg b) (neg (canon b)++a):=fun r=>by rw [Mo.cnt_append,Mo.cnt_neg,Mo.cnt_append,Mo.cnt_neg,Mo.canon_cnt];omega
  have h1:=Mo.canon_append_len (neg (canon b)) a
  have h2:(neg (canon b)).length=(canon b).length:=by simp [neg]
  have h3:=Mo.len_le_Nr ha.nn;have h4:=Mo.len_le_Nr hb.nn;rw [e.canon];omega
theorem bwr_one {ts:List Bool} {a:Bag} (ha:OkB ts a) (na:Nr a≤50000000000):BWr ts a:=by
 have:=bwr_of ha (OkB.nil ha.six) na (by show (0:Int)≤_;decide)
 simpa [neg] using this
end Go.Proofs.YtdinjjmcmfjbfaaGreatDoor
