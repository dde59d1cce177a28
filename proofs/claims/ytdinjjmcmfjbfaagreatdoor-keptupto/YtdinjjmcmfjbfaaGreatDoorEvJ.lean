import Derived.Test.YtdinjjmcmfjbfaaGreatDoorEjJ
import Derived.Test.YtdinjjmcmfjbfaaGreatDoorOcJ
import Derived.Laws.ResultCell
import Derived.Test.YtdinjjmcmfjbfaaGreatDoorEdJ
set_option maxRecDepth 100000
set_option maxHeartbeats 4000000
namespace Go.Proofs.YtdinjjmcmfjbfaaGreatDoor
set_option linter.unusedSimpArgs false
open Go.RowKit Go.Shelf
structure RowTx (R:List UInt8):Prop where
 star:∀ c∈R,c≠42
 len:3≤R.length
 fst:R[0]? =some 40
 lst:R[R.length-1]? =some 41
 few:R.length≤1000
theorem results_cell_row2 {fn:Func} {p u:Tmp} {ty:TypeId} (h:fn.results=#[.cell p ty,.tmp u]) (tmps:Array Value) (w:World) (g:Nat) (v:Value) (hp:tmps.getD p undef=.pointer (some ⟨g,0,none⟩)) (hl:(loadVar ty ⟨g,0,none⟩).run Tryz.prog w=.ok v w) :
 (results fn tmps).run Tryz.prog w=.ok (.tuple #[v,tmps.getD u undef]) w:=by
 rw [results_cell_tmp h,hp]
 simp [asAddr,hl,Result.andThen]
theorem infoEnS:(Tryz.prog.info? 45).map (·.size)=some 2:=by kernel_rfl
theorem one_any (R:List UInt8) (t:Int) (w:World) (hR:RowTx R) (h0:t≠0) (h1: -1000000000000000<t) (h2:t<1000000000000000):Calls Tryz.prog 41 #[.string ⟨(R++42::Lib.itoa t).toArray⟩] w fun e w'=>e=.returned (.tuple #[.agg #[.string ⟨R.toArray⟩,.int .i64 t],.bool true])∧Kept No w w':=by
 obtain ⟨S,hS⟩:∃ S:ByteArray,S=⟨(R++42::Lib.itoa t).toArray⟩:=⟨_,rfl⟩;obtain ⟨N,hN⟩:∃ N,R.length=N:=⟨_,rfl⟩;obtain ⟨M,hM⟩:∃ M,(Lib.itoa t).length=M:=⟨_,rfl⟩
 have hMl:=Lib.itoa_length_le t (by omega) (by omega)
 rw [hM] at hMl
 have hsz:S.size=N+1+M:=by rw [hS,←hN,←hM];show (R++42::Lib.itoa t).toArray.size=_;simp;omega
 have hget:∀ (i:Nat) (h:i<S.size) (c:UInt8),(R++42::Lib.itoa t)[i]? =some c→S[i]=c:=fun i h c hc=>by
  subst hS;obtain ⟨hl,e⟩:=List.getElem?_eq_some_iff.1 hc;rw [ba_get h hl,e]
 have hlen:=hR.len;have hfew:=hR.few;rw [hN] at hlen hfew
 have HG:Hid (∀ (i:Nat) (h:i<S.size),i<N→S[i].toNat≠42):=fun i h hi=>by
  have hil:i<R.length:=by omega
  rw [hget i h R[i] (by rw [List.getElem?_append_left hil];exact List.getElem?_eq_getElem hil)]
  exact fun e=>hR.star _ (List.getElem_mem hil) (UInt8.toNat_inj.1 e)
 have hNS:N<S.size:=by omega
 have hgN:S[N].toNat=42:=by
  rw [hget N hNS 42 (by rw [←hN,List.getElem?_append_right (Nat.le_refl _)];simp)];rfl
 have h0S:0<S.size:=by omega
 have hg0:S[0].toNat=40:=by rw [hget 0 h0S 40 (by rw [List.getElem?_append_left (by omega)];exact hR.fst)];rfl
 have hLS:N-1<S.size:=by omega
 have hgL:S[N-1].toNat=41:=by rw [hget (N-1) hLS 41 (by rw [List.getElem?_append_left (by omega),←hN];exact hR.lst)];rfl
 have HE1:Hid (S.extract 0 N=⟨R.toArray⟩):=by show _=_;rw [hS,ByteArray.extract_mk,←hN];simp
 have HE2:Hid (S.extract (N+1) (N+1+M)=⟨(Lib.itoa t).toArray⟩):=by
  show _=_
  rw [hS,ByteArray.extract_mk]
  have:(R++42::Lib.itoa t).drop (N+1)=Lib.itoa t:=by rw [←List.drop_drop,←hN,List.drop_append_of_le_length (Nat.le_refl _)];simp
  rw [this,←hM];simp
 have HNum:Hid (∀ w1,Calls Tryz.prog 67 #[.string ⟨(Lib.itoa t).toArray⟩] w1 fun e w'=>e=.returned (.tuple #[.int .i64 t,.bool true])∧w'=w1):=fun w1=>number_any t w1 h1 h2
 rw [←hS,←HE1.out];rw [←HE2.out] at HNum;have hne:¬t=0:=h0;clear hget hS hN hM hR h1 h2 HE1 HE2 h0
 obtain ⟨J,hJN⟩:∃ J,N=J+1:=⟨N-1,by omega⟩
 have hJl:J<S.size:=by omega
 have hgJ:S[J].toNat=41:=by
  subst hJN;exact hgL
 have hw2:IntKind.i64.wrap ((N:Int)-1)=(J:Int):=by rw [IntKind.wrap_i64];omega
 obtain ⟨Z,hZ⟩:∃ Z,Z=N+1+M:=⟨_,rfl⟩;rw [←hZ] at HNum hsz
 have hJ0:(0:Int)≤(J:Int):=by omega
 have hJS:(J:Int)<(Z:Int):=by omega
 have h2i:(2:Int)<(N:Int):=by omega
 have hNZ:(N:Int)<(Z:Int):=by omega
 have hNZ1:(N:Int)≤(Z:Int):=by omega
 have hNZ2:(N:Int)+1≤(Z:Int):=by omega
 have hZ0:(0:Int)<(Z:Int):=by omega
 have hZn:¬Z=0:=by omega
 have hZb:(Z:Int)≤2000:=by omega
 clear hgL hZ hJN hMl hLS;obtain ⟨W,hW⟩:∃ W,W=w.alloc (.cells #[.string ⟨#[]⟩,.int .i64 0] 45):=⟨_,rfl⟩
 have HK0:Hid (Kept No w W):=by rw [hW];exact (Kept.refl No w).alloc _
 have HB0:Hid (W.heap[w.heap.size]? =some (.cells #[.string ⟨#[]⟩,.int .i64 0] 45 (0,0))):=by rw [hW];exact heap_alloc_last _ _
 go_enter Tryz.func41,Tryz.ntmps41
 go_wp2_with fail;rw [←hW];clear hW;obtain ⟨B,hB⟩:∃ B,B=w.heap.size:=⟨_,rfl⟩;rw [←hB] at HB0 ⊢;have HBe:=hid hB;clear hB
 go_loopg [4] (N+1) (fun k v4 wr=>∃ (i:Nat),i+k=N+1∧1≤k∧v4=.int .i64 (i:Int)∧wr=W)
 case atStart=>exact ⟨0,by omega,by omega,rfl,rfl⟩
 case round =>
  obtain ⟨i,hik,hk1,rfl,rfl⟩:=hrel
  have hx0:(0:Int)≤(i:Int):=by omega
  have hx:(i:Int)<(Z:Int):=by omega
  have hiS:i<S.size:=by omega
  by_cases hiN:i=N
  ·subst hiN
   go_wp2_with fail;refine (HNum.out _).mono ?_;rintro e w2 ⟨rfl,rfl⟩;clear HNum;go_wp2_with fail
   refine wp_region_held_drew (S:=fun w'=>w'.heap[B]? =some (.cells #[.string ⟨#[]⟩,.int .i64 0] 45 (0,0))∨w'.heap[B]? =some (.cells #[.string (S.extract 0 i),.int .i64 t] 45 (0,0))) (by kernel_rfl) (.inl HB0.out) (fun hHeld=> ?_)
   refine tk_P 0 (.string S) hHeld ?_;try simp only [Act.put,n_1,n_2,n_3,n_4,n_5,n_6]
   refine tk_P 1 (.int .i64 (i:Int)) hHeld ?_;try simp only [Act.put,n_1,n_2,n_3,n_4,n_5,n_6]
   refine tk_P 2 (.string (S.extract 0 i)) hHeld ?_;try simp only [Act.put,n_1,n_2,n_3,n_4,n_5,n_6]
   refine tk_P 3 (.int .i64 t) hHeld ?_;try simp only [Act.put,n_1,n_2,n_3,n_4,n_5,n_6]
   refine tk_P 4 (.agg #[.string (S.extract 0 i),.int .i64 t]) hHeld ?_;try simp only [Act.put,n_1,n_2,n_3,n_4,n_5,n_6]
   refine tk_P 5 (.bool true) hHeld ?_;try simp only [Act.put,n_1,n_2,n_3,n_4,n_5,n_6]
   refine tk_P 6 (.bool true) hHeld ?_;try simp only [Act.put,n_1,n_2,n_3,n_4,n_5,n_6]
   refine tk_P 7 (.int .i64 t) hHeld ?_;try simp only [Act.put,n_1,n_2,n_3,n_4,n_5,n_6]
   refine tk_P 8 (.bool true) hHeld ?_;try simp only [Act.put,n_1,n_2,n_3,n_4,n_5,n_6]
   refine tk_P 9 (.bool true) hHeld ?_;try simp only [Act.put,n_1,n_2,n_3,n_4,n_5,n_6]
   refine tk_P 10 (.bool true) hHeld ?_;try simp only [Act.put,n_1,n_2,n_3,n_4,n_5,n_6]
   refine tk_P 11 (.int .i64 (i:Int)) hHeld ?_;try simp only [Act.put,n_1,n_2,n_3,n_4,n_5,n_6]
   refine tk_P 12 (.bool true) hHeld ?_;try simp only [Act.put,n_1,n_2,n_3,n_4,n_5,n_6]
   refine tk_P 13 (.bool true) hHeld ?_;try simp only [Act.put,n_1,n_2,n_3,n_4,n_5,n_6]
   refine tk_P 14 (.bool true) hHeld ?_;try simp only [Act.put,n_1,n_2,n_3,n_4,n_5,n_6]
   refine tk_P 15 (.string S) hHeld ?_;try simp only [Act.put,n_1,n_2,n_3,n_4,n_5,n_6]
   refine tk_P 16 (.int .u8 40) hHeld ?_;try simp only [Act.put,n_1,n_2,n_3,n_4,n_5,n_6]
   refine tk_P 17 (.bool true) hHeld ?_;try simp only [Act.put,n_1,n_2,n_3,n_4,n_5,n_6]
   refine tk_P 18 (.bool true) hHeld ?_;try simp only [Act.put,n_1,n_2,n_3,n_4,n_5,n_6]
   refine tk_P 19 (.bool true) hHeld ?_;try simp only [Act.put,n_1,n_2,n_3,n_4,n_5,n_6]
   refine tk_P 20 (.string S) hHeld ?_;try simp only [Act.put,n_1,n_2,n_3,n_4,n_5,n_6]
   refine tk_P 21 (.int .i64 (i:Int)) hHeld ?_;try simp only [Act.put,n_1,n_2,n_3,n_4,n_5,n_6]
   refine tk_P 22 (.int .i64 (J:Int)) hHeld ?_;try simp only [Act.put,n_1,n_2,n_3,n_4,n_5,n_6]
   refine tk_P 23 (.int .u8 41) hHeld ?_;try simp only [Act.put,n_1,n_2,n_3,n_4,n_5,n_6]
   refine tk_P 24 (.bool true) hHeld ?_;try simp only [Act.put,n_1,n_2,n_3,n_4,n_5,n_6]
   refine tk_P 25 (.bool true) hHeld ?_;try simp only [Act.put,n_1,n_2,n_3,n_4,n_5,n_6]
   refine tk_S 26 (fun K hK=> ?_)
   rw [if_pos (by kernel_rfl)]
   refine wp_store_row 45 (.tmp 2) (.tmp 29) (by kernel_rfl) B #[.string (S.extract 0 i),.int .i64 t] (by kernel_rfl) (by kernel_rfl) 45 _ HB0.out infoEnS rfl (by simp [Value.oneCell']) ?_
   have hB1:(w2.drew.setRow B #[.string (S.extract 0 i),.int .i64 t]).heap[B]? =some (.cells #[.string (S.extract 0 i),.int .i64 t] 45 (0,0)):=setRow_heap _ _ _ _ _ _ HB0.out
   have hK1:Kept No w (w2.drew.setRow B #[.string (S.extract 0 i),.int .i64 t]):=kept_setRow HK0.out.drew (.inl (by have:=HBe.out;omega)) _
   refine hK.out _ _ (.inr hB1) (fun hHeld=> ?_)
   clear hK K;have HB1:=hid hB1;have HK1:=hid hK1;clear hB1 hK1 HB0 HK0;generalize w2.drew.setRow B #[.string (S.extract 0 i),.int .i64 t]=w3 at HB1 HK1 hHeld ⊢;try simp only [Act.put,n_1,n_2,n_3,n_4,n_5,n_6]
   refine tk_P 27 (.bool true) hHeld ?_;try simp only [Act.put,n_1,n_2,n_3,n_4,n_5,n_6]
   refine wpAnyH_done (by kernel_rfl) ?_ _
   clear hHeld;try simp only [Act.put,n_1,n_2,n_3,n_4,n_5,n_6]
   go_wp2_with fail;refine bodyPost_ret (results_cell_row2 rfl _ _ B _ rfl (run_loadVar_row _ B 45 45 #[.string (S.extract 0 i),.int .i64 t] (0,0) _ HB1.out Tryz.underlying45 rfl infoEnS)) rfl ?_;exact ⟨rfl,HK1.out⟩
  ·have hb:=HG.out i hiS (by omega)
   go_wp2_with fail;go_roundg (gk-1)
   case measure=>omega
   case rel=>exact ⟨i+1,by omega,by omega,by go_num,rfl⟩
def OneIs (p:ByteArray) (e:En):Prop:=∀ w,Calls Tryz.prog 41 #[.string p] w fun x w'=>x=.returned (.tuple #[.agg #[.string e.1,.int .i64 e.2],.bool true])∧Kept No w w'
theorem entries_nil (w:World):Calls Tryz.prog 18 #[.string ⟨#[]⟩] w fun e w'=>e=.returned (.tuple #[.slice none 0 0,.bool true])∧w'=w:=by
 go_enter Tryz.func18,Tryz.ntmps18
 go_wp2_with fail;go_ret2;exact ⟨rfl,rfl⟩
theorem entries_any (s:ByteArray) (es:List En) (w:World) (hne:¬s=⟨#[]⟩) (hs:s.size≤140737488355327) (hl:es.length≤1000000000000) (hp:∀ (i:Nat) (p:ByteArray),(cutB 59 s)[i]? =some p→∃ e,es[i]? =some e∧OneIs p e) (hlen:(cutB 59 s).length=es.length) :
 Calls Tryz.prog 18 #[.string s] w fun e w'=>∃ v,e=.returned (.tuple #[v,.bool true])∧w'.ownsRow w.heap.size 45 2 v es.length (enVs es)∧Kept No w w':=by
 obtain ⟨iu,hiu,hu0,hu1,hu2⟩:=info_parts infoEn;have HP:=hid hp;have HL:=hid hlen
 have hnb:s.toList.isEmpty=false:=by
  rw [ByteArray.toList_eq]
  cases h:s.data.toList with
  | nil =>
    refine absurd ?_ hne
    cases s
    congr 1
    exact Array.ext' h
  | cons=>rfl
 obtain ⟨Z,hZ⟩:∃ Z,s.size=Z:=⟨_,rfl⟩;rw [hZ] at hs;clear hp hlen hne
 go_enter Tryz.func18,Tryz.ntmps18
 go_wp2_with fail;clear hnb
 go_loopg [4,5,6] (Z+1) (fun k v4 v5 v6 wr=>∃ (i c n:Nat) (d:List ByteArray),i+k=Z+1∧v6=.int .i64 (i:Int)∧v5=.int .i64 (c:Int)∧Hid (cutS 59 s i=(d,c))∧Hid (d.length=n)∧Hid (wr.ownsRow w.heap.size 45 2 v4 n (enVs (es.take n)))∧Hid (Kept No w wr))
 case atStart=>exact ⟨0,0,0,[],by omega,rfl,rfl,hid rfl,hid rfl,hid (World.ownsRow_nil _ _ _ _),hid (Kept.refl _ _)⟩
 case round =>
  obtain ⟨i,c,n,d,hik,rfl,rfl,hS,hD,hO,hK⟩:=hrel;have hle:=cutS_le 59 s i;have hle2:=cutS_mono 59 s i gk;have hdl:=hD.out
  rw [show i+gk=s.size+1 by omega] at hle2
  rw [hS.out] at hle hle2;have hci:c≤i:=hle.1
  have hdn:n≤es.length:=by
   have h1:d.length≤(cutB 59 s).length:=hle2;have h2:=HL.out;omega
  clear hle hle2 hdl
  have hx0:(0:Int)≤(i:Int):=by omega
  have hcI:(c:Int)≤(i:Int):=by omega
  have hc0:(0:Int)≤(c:Int):=by omega
  cases gk with
  | zero =>
    have hx:¬(i:Int)≤(Z:Int):=by omega
    have HB:Hid (n=es.length):=by
     show n=_
     have h1:cutB 59 s=d:=by
      unfold cutB
      rw [hZ,show Z+1=i by omega,hS.out]
     rw [←HL.out,h1,hD.out]
    go_wp2_with fail;go_ret2;refine ⟨_,rfl,?_,hK.out⟩
    have:=hO.out
    rw [HB.out,List.take_of_length_le (Nat.le_refl _)] at this;exact this
  | succ k =>
    have hx:(i:Int)≤(Z:Int):=by omega
    by_cases hcut:i=s.size∨Pl.bt s i=59
    ·have hN:cutS 59 s (i+1)=(d++[s.extract c i],i+1):=by
      unfold cutS;rw [if_pos hcut,hS.out]
     have hmono:=cutS_mono 59 s (i+1) k
     rw [show i+1+k=s.size+1 by omega,hN] at hmono
     have hget:(cutB 59 s)[n]? =some (s.extract c i):=by
      have hpre:=cutS_pre 59 s (i+1) k
      rw [show i+1+k=s.size+1 by omega,hN] at hpre
      obtain ⟨r,hr⟩:=hpre
      show (cutS 59 s (s.size+1)).1[n]? =_
      rw [hr,←hD.out]
      simp
     obtain ⟨⟨er,et⟩,hei,hone⟩:=HP.out n _ hget;have HN:=hid hN;have HOne:=hid (hone wr);have HEI:=hid hei;have hnl:n<es.length:=(List.getElem?_eq_some_iff.1 hei).1
     have HS:Hid (enVs (es.take (n+1))=enVs (es.take n)++[.string er,.int .i64 et]):=by
      show _=_
      rw [List.take_add_one,hei,enVs_append]
      rfl
     have hown:=hO.out;have hsz:=hK.out.size;clear hone hget hN hmono hei
     rcases Nat.lt_or_ge i s.size with hlt | hge
     ·have hx1:(i:Int)<(Z:Int):=by omega
      have hb:Pl.bt s i=59:=by rcases hcut with h | h;omega;exact h
      have hb':s[i].toNat=59:=by unfold Pl.bt at hb;rw [dif_pos hlt] at hb;exact hb
      clear hcut hb;go_wp2_with fail;refine HOne.out.mono ?_;rintro e w2 ⟨rfl,hk2⟩;have HK2:=hid (hK.out.seq hk2)
      have hown2:=ownsRow_kept hown hk2 (fun _ _ e=>e)
      have hsz2:=HK2.out.size;clear HOne hk2 hown
      go_wp2_with (first
       | (at_builtin;refine wpList_append_own_at _ rfl _ _ 34 rfl w.heap.size 45 iu (.agg #[.string ⟨#[]⟩,.int .i64 0]) 2 24 Tryz.underlying34 hiu hu0 hu1 hu2 rfl (by decide) _ _ _ rfl ((hown2.alloc _).alloc _) ⟨w2.heap.size+1,0,none⟩ 1 1 [.string er,.int .i64 et] rfl rfl (World.news_of_block (cs:=#[.string er,.int .i64 et]) (t:=45) (fr:=(0,0)) (heap_alloc2_new w2 _ _)) (by intro u hu;simp at hu;rcases hu with rfl | rfl <;> rfl) (by unfold maxLen;omega) (by omega) (by simp;omega) ?_;intro v' w5 hown5 hg5 _ _)
       | fail)
      go_roundg k
      case measure=>omega
      case rel =>
       have hg:((w2.alloc (.cells #[.string er,.int .i64 et] 45)).alloc (.cells #[.string er,.int .i64 et] 45)).grownBy w5 u4.ownBlock:=hg5
       refine ⟨i+1,i+1,n+1,d++[s.extract c i],by omega,by go_num,by go_num,HN,?_,?_,hid (((HK2.out.alloc _).alloc _).grown hg (fun x hx=>.inl (own_base hO.out x hx)))⟩
       ·show _=_
        rw [List.length_append,hD.out];rfl
       ·show w5.ownsRow _ _ _ _ _ _
        rw [HS.out];exact hown5
     ·have hx1:¬(i:Int)<(Z:Int):=by omega
      clear hcut hge;go_wp2_with fail;refine HOne.out.mono ?_;rintro e w2 ⟨rfl,hk2⟩;have HK2:=hid (hK.out.seq hk2)
      have hown2:=ownsRow_kept hown hk2 (fun _ _ e=>e)
      have hsz2:=HK2.out.size;clear HOne hk2 hown
      go_wp2_with (first
       | (at_builtin;refine wpList_append_own_at _ rfl _ _ 34 rfl w.heap.size 45 iu (.agg #[.string ⟨#[]⟩,.int .i64 0]) 2 24 Tryz.underlying34 hiu hu0 hu1 hu2 rfl (by decide) _ _ _ rfl ((hown2.alloc _).alloc _) ⟨w2.heap.size+1,0,none⟩ 1 1 [.string er,.int .i64 et] rfl rfl (World.news_of_block (cs:=#[.string er,.int .i64 et]) (t:=45) (fr:=(0,0)) (heap_alloc2_new w2 _ _)) (by intro u hu;simp at hu;rcases hu with rfl | rfl <;> rfl) (by unfold maxLen;omega) (by omega) (by simp;omega) ?_;intro v' w5 hown5 hg5 _ _)
       | fail)
      go_roundg k
      case measure=>omega
      case rel =>
       have hg:((w2.alloc (.cells #[.string er,.int .i64 et] 45)).alloc (.cells #[.string er,.int .i64 et] 45)).grownBy w5 u4.ownBlock:=hg5
       refine ⟨i+1,i+1,n+1,d++[s.extract c i],by omega,by go_num,by go_num,HN,?_,?_,hid (((HK2.out.alloc _).alloc _).grown hg (fun x hx=>.inl (own_base hO.out x hx)))⟩
       ·show _=_
        rw [List.length_append,hD.out];rfl
       ·show w5.ownsRow _ _ _ _ _ _
        rw [HS.out];exact hown5
    ·have HN:Hid (cutS 59 s (i+1)=(d,c)):=by
      show _=_
      unfold cutS;rw [if_neg hcut,hS.out]
     have hne':i≠s.size:=fun e=>hcut (.inl e)
     have hlt:i<s.size:=by omega
     have hx1:(i:Int)<(Z:Int):=by omega
     have hb':¬s[i].toNat=59:=fun e=>hcut (.inr (by unfold Pl.bt;rw [dif_pos hlt];exact e))
     clear hcut hne';go_wp2_with fail;go_roundg k
     case measure=>omega
     case rel=>exact ⟨i+1,c,n,d,by omega,by go_num,rfl,HN,hD,hO,hK⟩
open Go.RowKit Go.Shelf Go.Deep
open Mo (V Row Bag cnt canon Eqv OkB OkD neg Nr Q)
def rowB (r:Row):ByteArray:=⟨(rowTxt r).toArray⟩
def entB (e:Row × Int):ByteArray:=⟨(entTxt e).toArray⟩
def enB (l:Bag):List En:=(canon l).map fun e=>(rowB e.1,e.2)
theorem bagIn_append:∀ (a b:Bag) (i:Nat),bagIn i (a++b)=bagIn i a++bagIn (i+a.length) b
 | [],b,i=>by simp [bagIn]
 | e::a,b,i=>by
   have ih:=bagIn_append a b (i+1);simp only [List.cons_append,bagIn,ih,List.append_assoc,List.length_cons]
   rw [show i+1+a.length=i+(a.length+1) by omega]
theorem bag_cuts (es:Bag) (hV:∀ e∈es,∀ v∈e.1,VOk v):∀ j,j<es.length→∃ (e:Row × Int) (P:List UInt8),es[j]? =some e∧bagIn 0 (es.take (j+1))=P++entTxt e∧cutS 59 ⟨(bagIn 0 es).toArray⟩ (P.length+(entTxt e).length)=((es.take j).map entB,P.length)
 | 0,hj=>by
   obtain ⟨e,he⟩:∃ e,es[0]? =some e:=⟨_,List.getElem?_eq_getElem hj⟩
   obtain ⟨x,r,rfl⟩:∃ x r,es=x::r:=by
    cases es with
    | nil=>cases hj
    | cons x r=>exact ⟨x,r,rfl⟩
   obtain rfl:x=e:=by simpa using he
   refine ⟨x,[],rfl,by simp [bagIn],?_⟩
   have hb:bagIn 0 (x::r)=entTxt x++bagIn 1 r:=by simp [bagIn]
   have:=cutS_stay 59 ⟨(bagIn 0 (x::r)).toArray⟩ 0 (entTxt x).length fun k _ hk=>by
    have hk':k<(entTxt x).length:=by omega
    have hz:(⟨(bagIn 0 (x::r)).toArray⟩:ByteArray).size=(bagIn 0 (x::r)).length:=by show (bagIn 0 (x::r)).toArray.size=_;simp
    refine ⟨by rw [hz,hb,List.length_append];omega,?_⟩
    rw [bt_mk (c:=(entTxt x)[k]) (by rw [hb,List.getElem?_append_left hk'];exact List.getElem?_eq_getElem hk')]
    exact fun e=>(entTxt_bar (hV x (by simp)) _ (List.getElem_mem hk')).1 (UInt8.toNat_inj.1 e)
   rw [Nat.zero_add] at this;simp only [List.length_nil,Nat.zero_add,List.take_zero,List.map_nil];rw [this];rfl
 | j+1,hj=>by
   obtain ⟨e,P,he,hP,hc⟩:=bag_cuts es hV j (by omega)
   obtain ⟨x,hx⟩:∃ x,es[j+1]? =some x:=⟨_,List.getElem?_eq_getElem hj⟩
   have ht1:es.take (j+1+1)=es.take (j+1)++[x]:=by rw [List.take_add_one,hx];rfl
   have hbx:bagIn 0 (es.take (j+1+1))=(P++entTxt e++[59])++entTxt x:=by
    rw [ht1,bagIn_append,hP]
    have hlen:(es.take (j+1)).length=j+1:=by rw [List.length_take];omega
    simp [bagIn,hlen]
   have hall:∃ R,bagIn 0 es=(P++entTxt e++[59])++entTxt x++R:=by
    refine ⟨bagIn (0+(es.take (j+1+1)).length) (es.drop (j+1+1)),?_⟩;rw [←hbx,←bagIn_append,List.take_append_drop]
   obtain ⟨R,hR⟩:=hall;refine ⟨x,P++entTxt e++[59],hx,hbx,?_⟩;obtain ⟨s,hs⟩:∃ s:ByteArray,s=⟨(bagIn 0 es).toArray⟩:=⟨_,rfl⟩;rw [←hs] at hc ⊢
   have hz:s.size=(bagIn 0 es).length:=by rw [hs];show (bagIn 0 es).toArray.size=_;simp
   have hzl:(bagIn 0 es).length=P.length+(entTxt e).length+1+(entTxt x).length+R.length:=by rw [hR];simp;omega
   have hb:∀ i c,(bagIn 0 es)[i]? =some c→Pl.bt s i=c.toNat:=fun i c h=>by rw [hs];exact bt_mk h
   have hsemi:Pl.bt s (P.length+(entTxt e).length)=59:=by
    rw [hb _ 59 (by
     rw [hR,List.append_assoc,List.append_assoc,List.append_assoc,←List.append_assoc P,List.getElem?_append_right (by simp),List.length_append,Nat.sub_self]
     rfl)]
    rfl
   have hext:s.extract P.length (P.length+(entTxt e).length)=entB e:=by
    rw [hs,ByteArray.extract_mk];unfold entB
    have:(bagIn 0 es).drop P.length=entTxt e++([59]++entTxt x++R):=by rw [hR];simp [List.append_assoc]
    rw [this,Nat.add_sub_cancel_left]
    simp
   have h1:cutS 59 s (P.length+(entTxt e).length+1)=((es.take (j+1)).map entB,P.length+(entTxt e).length+1):=by
    rw [cutS,if_pos (.inr hsemi),hc]
    simp only
    rw [hext,List.take_add_one,he]
    simp
   have h2:=cutS_stay 59 s (P.length+(entTxt e).length+1) (entTxt x).length fun k hk1 hk2=>by
    refine ⟨by omega,?_⟩
    have hk':k-(P.length+(entTxt e).length+1)<(entTxt x).length:=by omega
    rw [hb k (entTxt x)[k-(P.length+(entTxt e).length+1)] (by
     rw [hR,List.append_assoc,List.getElem?_append_right (by simp;omega),List.getElem?_append_left (by simp;omega)]
     have e1:k-(P++entTxt e++[59]).length=k-(P.length+(entTxt e).length+1):=by simp;omega
     rw [e1]
     exact List.getElem?_eq_getElem hk')]
    exact fun e'=>(entTxt_bar (hV x (List.mem_of_getElem? hx)) _ (List.getElem_mem hk')).1 (UInt8.toNat_inj.1 e')
   have e3:(P++entTxt e++[59]).length=P.length+(entTxt e).length+1:=by simp;omega
   rw [e3,h2,h1]
theorem bag_pieces (es:Bag) (hV:∀ e∈es,∀ v∈e.1,VOk v) (hne:es≠[]):cutB 59 ⟨(bagIn 0 es).toArray⟩=es.map entB:=by
 obtain ⟨j,hj⟩:∃ j,es.length=j+1:=⟨es.length-1,by cases es with | nil=>exact absurd rfl hne | cons=>simp⟩
 obtain ⟨e,P,he,hP,hc⟩:=bag_cuts es hV j (by omega)
 rw [←hj,List.take_length] at hP;obtain ⟨s,hs⟩:∃ s:ByteArray,s=⟨(bagIn 0 es).toArray⟩:=⟨_,rfl⟩;rw [←hs] at hc ⊢
 have hz:s.size=P.length+(entTxt e).length:=by rw [hs];show (bagIn 0 es).toArray.size=_;rw [hP];simp
 have hext:s.extract P.length (P.length+(entTxt e).length)=entB e:=by
  rw [hs,ByteArray.extract_mk];unfold entB;rw [hP,Nat.add_sub_cancel_left]
  simp
 unfold cutB;rw [cutS,if_pos (.inl rfl),hz,hc]
 simp only
 rw [hext]
 have ht:es=es.take j++[e]:=by
  have:=List.take_add_one (l:=es) (i:=j)
  rw [he,←hj,List.take_length] at this;exact this
 conv=>rhs;rw [ht]
 simp
theorem row_tx {r:Row} (h:ROk r) (hne:r≠[]):RowTx (rowTxt r):=by
 obtain ⟨v,q,rfl⟩:∃ v q,r=v::q:=by
  cases r with
  | nil=>exact absurd rfl hne
  | cons v q=>exact ⟨v,q,rfl⟩
 have hv:=vText_ne (h.2 v (by simp))
 have hl:1≤(rowIn 0 (v::q)).length:=by
  unfold rowIn
  cases hc:vText v with
  | nil=>exact absurd hc hv
  | cons c t=>simp
 have hfew:∀ (q:Row) (i:Nat),(∀ v∈q,VOk v)→(rowIn i q).length≤22*q.length:=by
  intro q
  induction q with
  | nil=>intro i _;simp [rowIn]
  | cons u q ih =>
    intro i hu
    have h1:=ih (i+1) fun x hx=>hu x (by simp [hx])
    have h2:=vText_len (hu u (by simp))
    unfold rowIn
    split <;> simp <;> omega
 have hf:=hfew (v::q) 0 h.2;have h6:=h.1
 refine ⟨fun c hc=>(rowTxt_c h.2 c hc).ne.1,?_,rfl,?_,?_⟩
 ·unfold rowTxt;simp;omega
 ·unfold rowTxt
  simp
 ·unfold rowTxt;simp at hf ⊢;simp at h6;omega
theorem ent_one {r:Row} {t:Int} (h:ROk r) (hne:r≠[]) (h0:t≠0) (h1: -1000000000000000<t) (h2:t<1000000000000000):OneIs (entB (r,t)) (rowB r,t):=fun w=>one_any (rowTxt r) t w (row_tx h hne) h0 h1 h2
theorem entries_bag {us:List Bool} {l:Bag} (h:BWr us l) (hus:us≠[]) (w:World):Calls Tryz.prog 18 #[.string ⟨(bagTxt l).toArray⟩] w fun e w'=>∃ v,e=.returned (.tuple #[v,.bool true])∧EnAt w' v (enB l)∧Kept No w w':=by
 by_cases hc:canon l=[]
 ·have e1:bagTxt l=[]:=by unfold bagTxt;rw [hc];rfl
  have e2:enB l=[]:=by unfold enB;rw [hc];rfl
  rw [e1,e2]
  exact (entries_nil w).mono fun e w' ⟨a,b⟩=>⟨_,a,EnAt.of_owns (World.ownsRow_nil w' 0 _ _),b ▸ Kept.refl _ _⟩
 ·have hV:=h.allV
  have hcut:=bag_pieces (canon l) hV hc;have hlen:=bagTxt_len h
  have hne:¬(⟨(bagTxt l).toArray⟩:ByteArray)=⟨#[]⟩:=by
   intro e
   have e1:bagTxt l=[]:=by
    have:=congrArg (fun x:ByteArray=>x.data.toList) e
    simpa using this
   have e2:=congrArg List.length e1;unfold bagTxt at e2
   cases hcl:canon l with
   | nil=>exact hc hcl
   | cons x r =>
     rw [hcl] at e2
     simp [bagIn,entTxt,rowTxt] at e2
  refine (entries_any ⟨(bagTxt l).toArray⟩ (enB l) w hne (by show (bagTxt l).toArray.size≤_;simp;omega) (by unfold enB;rw [List.length_map];have:=h.len;omega) (fun i p hp=> ?_) (by show (cutB 59 ⟨(bagIn 0 (canon l)).toArray⟩).length=_;rw [hcut];simp [enB])).mono fun e w' ⟨v,a,b,c⟩=>⟨v,a,EnAt.of_owns b,c⟩
  have hp':(cutB 59 ⟨(bagIn 0 (canon l)).toArray⟩)[i]? =some p:=hp;rw [hcut,List.getElem?_map] at hp';obtain ⟨x,hx,rfl⟩:=Option.map_eq_some_iff.1 hp'
  have hm:=List.mem_of_getElem? hx
  have hcnt:=Mo.mem_canon_cnt hm;have hty:=h.ty x.1 hcnt;have hbd:=h.bd x.1
  have hxc:cnt l x.1=x.2:=by rw [←Mo.canon_cnt,(Mo.canon_rise l).cnt_mem hm]
  refine ⟨(rowB x.1,x.2),by unfold enB;rw [List.getElem?_map,hx];rfl,ent_one hty.1 (fun e=>hus ?_) (by rw [←hxc];exact hcnt) (by omega) (by omega)⟩
  rw [←hty.2,e];rfl
def tmF (row:ByteArray):Int→List En→Int
 | a,[]=>a
 | a,e::es=>tmF row (if e.1=row then wrap64 (a+e.2) else a) es
theorem tmI_F (es:List En) (row:ByteArray):∀ i,i≤es.length→tmI es row i=tmF row 0 (es.take i)
 | 0,_=>rfl
 | i+1,hi=>by
   have ih:=tmI_F es row i (by omega)
   obtain ⟨e,he⟩:∃ e,es[i]? =some e:=⟨_,List.getElem?_eq_getElem (by omega)⟩
   have key:∀ (l:List En) (a:Int),tmF row a (l++[e])=if e.1=row then wrap64 (tmF row a l+e.2) else tmF row a l:=by
    intro l
    induction l with
    | nil=>intro a;rfl
    | cons x l ih=>intro a;exact ih _
   rw [tmI_succ he,ih,List.take_add_one,he];exact (key _ _).symm
theorem tmW_F (es:List En) (row:ByteArray):tmW es row=tmF row 0 es:=by
 unfold tmW;rw [tmI_F es row _ (Nat.le_refl _),List.take_length]
theorem tmF_append (row:ByteArray):∀ (es fs:List En) (a:Int),tmF row a (es++fs)=tmF row (tmF row a es) fs
 | [],_,_=>rfl
 | _::es,fs,_=>tmF_append row es fs _
theorem rowB_inj {r q:Row} (hr:∀ v∈r,VOk v) (hq:∀ v∈q,VOk v) (h:rowB r=rowB q):r=q:=by
 refine rowTxt_inj hr hq ?_
 have:=congrArg (fun x:ByteArray=>x.data.toList) h
 simpa [rowB] using this
theorem tmF_rise {r:Row} (hr:∀ v∈r,VOk v):∀ (l:Bag) (a:Int),Mo.Rise l→AllV l→ -9223372036854775808≤a+cnt l r→a+cnt l r≤9223372036854775807→ -9223372036854775808≤a→a≤9223372036854775807→tmF (rowB r) a (l.map fun e=>(rowB e.1,e.2))=a+cnt l r
 | [],a,_,_,_,_,_,_=>by show a=a+0;omega
 | e::l,a,hR,hV,h1,h2,h3,h4=>by
   have hVl:AllV l:=fun x hx=>hV x (by simp [hx])
   show tmF (rowB r) (if rowB e.1=rowB r then wrap64 (a+e.2) else a) (l.map fun e=>(rowB e.1,e.2))=_
   have hcc:cnt (e::l) r=(if e.1=r then e.2 else 0)+cnt l r:=rfl
   by_cases he:e.1=r
   ·have hz:cnt l r=0:=Mo.cnt_none fun x hx e'=>Mo.rlt_sto.ne (hR.1 x hx) (by rw [he,e'])
    rw [hcc,if_pos he,hz] at h1 h2
    rw [hcc,if_pos he,if_pos (by rw [he])]
    have hw:wrap64 (a+e.2)=a+e.2:=by unfold wrap64;omega
    rw [hw,tmF_rise hr l _ hR.2.2 hVl (by omega) (by omega) (by omega) (by omega)]
    omega
   ·rw [hcc,if_neg he] at h1 h2
    rw [hcc,if_neg he,if_neg fun e'=>he (rowB_inj (hV e (by simp)) hr e')]
    rw [tmF_rise hr l _ hR.2.2 hVl (by omega) (by omega) h3 h4]
    omega
theorem tmF_bag {us:List Bool} {l:Bag} (h:BWr us l) {r:Row} (hr:∀ v∈r,VOk v) {a:Int} (h1: -9000000000000000000≤a) (h2:a≤9000000000000000000):tmF (rowB r) a (enB l)=a+cnt l r:=by
 have hb:=h.bd r;unfold enB
 rw [tmF_rise hr (canon l) a (Mo.canon_rise l) h.allV (by rw [Mo.canon_cnt];omega) (by rw [Mo.canon_cnt];omega) (by omega) (by omega),Mo.canon_cnt]
theorem enB_mem {us:List Bool} {l:Bag} (h:BWr us l) {e:En} (he:e∈enB l):∃ r,(∀ v∈r,VOk v)∧e.1=rowB r∧cnt l r=e.2:=by
 obtain ⟨x,hx,rfl⟩:=List.mem_map.1 he
 exact ⟨x.1,h.allV x hx,rfl,by rw [←Mo.canon_cnt,(Mo.canon_rise l).cnt_mem hx]⟩
open Mo (V Row Bag cnt canon Eqv OkB OkD neg Nr Q leaves bagQ tyQ wf joins TOk wv ty Tab)
theorem bars_one (x:List UInt8):bars [x]=x:=by simp [bars,barFrom]
theorem Mine.ok2 {w0 w:World} {p:Nat} {st:Mo.Ses} (h:Mine w0 w p st) {q:Q} (hq:q∈st.views):∃ ts,tyQ (Mo.ftT st.tabs) q=some ts∧OkB ts (Mo.bagS st.tabs q)∧Nr (Mo.bagS st.tabs q)≤50000000000∧ts≠[]:=by
 obtain ⟨X,⟨O,xs,vs,tv,vv,h,_⟩,_⟩:=h;rw [←h.vq] at hq;obtain ⟨V,hV,rfl⟩:=List.mem_map.1 hq
 have hl:=Mo.tyQ_len (fun nm us hu=>Mo.ftT_len h.good nm us hu) V.q V.ts (h.fx.fix V hV).wf (h.fx.fix V hV).ty
 exact ⟨V.ts,(h.fx.fix V hV).ty,(h.okS hV).1,(h.okS hV).2,fun e=>by rw [e] at hl;simp at hl⟩
end Go.Proofs.YtdinjjmcmfjbfaaGreatDoor
