/-
  The program's readQuery and Check.
-/
import Derived.Test.YtdinjjmcmfjbfaaDoorQy
namespace Go.Proofs.YtdinjjmcmfjbfaaDoor
open Go.RowKit
open Mo (V Row Opd Cmp Q)

theorem cj_count (s : ByteArray) : ∀ k, k ≤ s.size → Pl.cj s k = Lib.countByte (s.data.toList.take k) 74
  | 0, _ => by simp [Pl.cj, Lib.countByte]
  | k + 1, h => by
    have hk : k < s.data.toList.length := by simp; omega
    rw [Pl.cj, cj_count s k (by omega), List.take_succ_eq_append_getElem hk]
    unfold Lib.countByte
    rw [List.count_append, List.count_singleton]
    have e : Pl.bt s k = (s.data.toList[k]).toNat := by unfold Pl.bt; rw [dif_pos (by omega)]; rfl
    rw [e]
    by_cases hc : s.data.toList[k] = 74
    · rw [hc]; rfl
    · have h1 : ¬ (s.data.toList[k]).toNat = 74 := fun x => hc (UInt8.toNat_inj.1 (by rw [x]; rfl))
      rw [if_neg h1, if_neg (by simpa using hc)]
theorem cj_all (s : ByteArray) : (Lib.countByte s.data.toList 74 : Nat) = Pl.cj s s.size := by
  rw [cj_count s s.size (Nat.le_refl _), List.take_of_length_le (by simp)]
set_option maxHeartbeats 1000000 in
set_option maxRecDepth 100000 in
theorem count_one (s : ByteArray) (w : World) :
    Calls Tryd.prog 11 #[.string s, .string ⟨#[74]⟩] w fun e w' => e = .returned (.int .i64 (Pl.cj s s.size : Nat)) ∧ w' = w := by
  have HC := hid (cj_all s)
  go_enter Tryd.func11, Tryd.ntmps11
  go_wp2
  rw [run_callFunc_extern Tryd.func21 (by kernel_rfl) (by kernel_rfl) (by kernel_rfl) (e := Extern.BytealgCount.count) (by kernel_rfl), Lib.run_countString]
  simp only [Result.andThen]
  rw [Oper.upon_value]
  go_wp2
  go_ret
  exact ⟨ret_int (by rw [← HC.out]; rfl), rfl⟩
/-- How 'readQuery' ends. -/
def ReadEnd (s : ByteArray) (w : World) (e : Ending) (w' : World) : Prop :=
  Kept No w w' ∧
    ((Pl.chk s).1 ≠ 0 ∧ e = .returned (.tuple #[.pointer none, .int .i64 ((Pl.chk s).1 : Nat), .int .i64 ((Pl.chk s).2 : Nat)]) ∨
     Pl.chk s = (0, 0) ∧ ∃ p X q, e = .returned (.tuple #[.pointer (some ⟨p, 0, none⟩), .int .i64 0, .int .i64 0]) ∧ Tr w' X p q ∧ (∀ k, X k → w.heap.size ≤ k ∧ k < w'.heap.size) ∧ Rq s 6 0 s.size q ∧ s.size ≤ 120 ∧ Pl.cj s s.size ≤ 2)
theorem ReadEnd.bad {s : ByteArray} {w w' : World} {n a : Nat} (hn : n ≠ 0) (hw : Pl.chk s = (n, a)) (hk : Kept No w w') : ReadEnd s w (.returned (.tuple #[.pointer none, .int .i64 (n : Int), .int .i64 (a : Int)])) w' :=
  ⟨hk, .inl ⟨by rw [hw]; exact hn, by rw [hw]⟩⟩
set_option maxRecDepth 100000 in
set_option maxHeartbeats 2000000 in
theorem readQuery_any (s : ByteArray) (w : World) : Calls Tryd.prog 8 #[.string s] w (ReadEnd s w) := by
  by_cases hs : s.size ≤ 120
  · have hs' : ¬ (120 : Int) < (s.size : Int) := by omega
    have HP : Hid (RP w.heap.size s 0 (w.alloc (.cells #[.string s, .int .i64 0] 40))) := ⟨by omega, heap_alloc_new w _⟩
    have HSz := hid hs
    go_enter Tryd.func8, Tryd.ntmps8
    go_wp2_with fail
    refine (query_any w.heap.size s _ hs HP.out).mono ?_
    rintro e w1 ⟨p1, k1, hend⟩
    have HK : Hid (Kept No w w1) := ((Kept.refl No w).alloc _).trans k1 (fun _ e => e) (fun i hi e => by omega)
    have c1 := p1.c1
    have hsz : (w.alloc (.cells #[.string s, .int .i64 0] 40)).heap.size = w.heap.size + 1 := by simp
    rcases hend with ⟨hn, rfl⟩ | ⟨hz, p, X, q, rfl, ht, hX, hr⟩
    · have hx : (((Pl.whole s).1 : Int) != 0) = true := by simp; omega
      have HX : Hid (Pl.chk s = ((Pl.whole s).1, (Pl.whole s).2)) := by show _ = _; unfold Pl.chk; rw [if_neg (by omega), if_neg hn]
      have HN := hid hn
      clear p1 k1 hn hsz
      go_wp2_with fail
      go_quiet (fail)
      go_wp2_with fail
      go_ret3
      exact ReadEnd.bad HN.out HX.out (HK.out.drewN _)
    · have HT := hid ht
      have HXX : Hid (∀ k, X k → w.heap.size ≤ k ∧ k < w1.heap.size) := fun k hk => ⟨by have := (hX k hk).1; omega, (hX k hk).2⟩
      have HR := hid hr
      clear p1 k1 ht hX hr
      by_cases hj : 2 < Pl.cj s s.size
      · have hj' : (2 : Int) < (Pl.cj s s.size : Int) := by omega
        have HX : Hid (Pl.chk s = (4, 0)) := by show _ = _; unfold Pl.chk; rw [if_neg (by omega), if_pos hz, if_pos hj]
        clear hz hj
        go_wp2_with fail
        refine (count_one s _).mono ?_
        rintro e w2 ⟨rfl, rfl⟩
        go_wp2_with fail
        go_ret3
        exact ReadEnd.bad (n := 4) (a := 0) (by omega) HX.out HK.out
      · have hj' : ¬ (2 : Int) < (Pl.cj s s.size : Int) := by omega
        have HJ : Hid (Pl.cj s s.size ≤ 2) := Nat.le_of_not_lt hj
        have HX : Hid (Pl.chk s = (0, 0)) := by show _ = _; unfold Pl.chk; rw [if_neg (by omega), if_pos hz, if_neg hj]
        clear hz hj
        go_wp2_with fail
        refine (count_one s _).mono ?_
        rintro e w2 ⟨rfl, rfl⟩
        go_wp2_with fail
        go_ret3
        exact ⟨HK.out, .inr ⟨HX.out, p, X, q, rfl, HT.out, HXX.out, HR.out, HSz.out, HJ.out⟩⟩
  · have hs' : (120 : Int) < (s.size : Int) := by omega
    have HX : Hid (Pl.chk s = (1, 0)) := by show _ = _; unfold Pl.chk; rw [if_pos (by omega)]
    go_enter Tryd.func8, Tryd.ntmps8
    go_wp2_with fail
    go_ret3
    exact ReadEnd.bad (n := 1) (a := 0) (by omega) HX.out (Kept.refl _ _)

theorem ret_two {a b c d : Int} (h : a = c) (k : b = d) : Ending.returned (.tuple #[.int .i64 a, .int .i64 b]) = .returned (.tuple #[.int .i64 c, .int .i64 d]) := by rw [h, k]
set_option maxRecDepth 100000 in
set_option maxHeartbeats 1000000 in
theorem check_mine (s : ByteArray) (w : World) :
    Calls Tryd.prog 5 #[.string s] w fun e w' => e = .returned (.tuple #[.int .i64 ((Pl.chk s).1 : Nat), .int .i64 ((Pl.chk s).2 : Nat)]) ∧ Kept No w w' := by
  go_enter Tryd.func5, Tryd.ntmps5
  go_wp2_with fail
  refine (readQuery_any s _).mono ?_
  rintro e w1 ⟨hk, hend⟩
  have HK := hid hk
  clear hk
  rcases hend with ⟨hn, rfl⟩ | ⟨hz, p, X, q, rfl, _⟩
  · clear hn
    go_wp2_with fail
    go_ret2
    exact ⟨rfl, HK.out⟩
  · have HZ := hid hz
    clear hz
    go_wp2_with fail
    go_ret2
    exact ⟨ret_two (by rw [HZ.out]; rfl) (by rw [HZ.out]; rfl), HK.out⟩
end Go.Proofs.YtdinjjmcmfjbfaaDoor
