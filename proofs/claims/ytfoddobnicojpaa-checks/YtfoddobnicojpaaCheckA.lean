/-
  The program's Check answers what the plain function says, and turns no memory that was there.
-/
import Derived.Test.YtfoddobnicojpaaQuery
namespace Go.Proofs.Ytfoddobnicojpaa
open Go.RowKit

theorem cj_count (s : ByteArray) : ∀ k, k ≤ s.size → Pl.cj s k = Lib.countByte (s.data.toList.take k) 74
  | 0, _ => by simp [Pl.cj, Lib.countByte]
  | k + 1, h => by
    have hk : k < s.data.toList.length := by simp; omega
    rw [Pl.cj, cj_count s k (by omega), List.take_succ_eq_append_getElem hk]
    unfold Lib.countByte
    rw [List.count_append, List.count_singleton]
    have e : Pl.bt s k = (s.data.toList[k]).toNat := by unfold Pl.bt; rw [dif_pos (by omega)]; rfl
    rw [e]
    by_cases hc : s.data.toList[k] = 74
    · rw [hc]; rfl
    · have h1 : ¬ (s.data.toList[k]).toNat = 74 := fun x => hc (UInt8.toNat_inj.1 (by rw [x]; rfl))
      rw [if_neg h1, if_neg (by simpa using hc)]
theorem cj_all (s : ByteArray) : (Lib.countByte s.data.toList 74 : Nat) = Pl.cj s s.size := by
  rw [cj_count s s.size (Nat.le_refl _), List.take_of_length_le (by simp)]

set_option maxHeartbeats 1000000 in
set_option maxRecDepth 100000 in
theorem count_one (s : ByteArray) (w : World) :
    Calls Try.prog 9 #[.string s, .string ⟨#[74]⟩] w fun e w' => e = .returned (.int .i64 (Pl.cj s s.size : Nat)) ∧ w' = w := by
  have HC := hid (cj_all s)
  go_enter Try.func9, Try.ntmps9
  go_wp2
  rw [run_callFunc_extern Try.func17 (by kernel_rfl) (by kernel_rfl) (by kernel_rfl) (e := Extern.BytealgCount.count) (by kernel_rfl), Lib.run_countString]
  simp only [Result.andThen]
  rw [Oper.upon_value]
  go_wp2
  go_ret
  exact ⟨ret_int (by rw [← HC.out]; rfl), rfl⟩

theorem ret_two {a b c d : Int} (h : a = c) (k : b = d) : Ending.returned (.tuple #[.int .i64 a, .int .i64 b]) = .returned (.tuple #[.int .i64 c, .int .i64 d]) := by rw [h, k]

set_option maxHeartbeats 1000000 in
theorem check_mine (s : ByteArray) (w : World) :
    Calls Try.prog 5 #[.string s] w fun e w' => e = .returned (.tuple #[.int .i64 ((Pl.chk s).1 : Nat), .int .i64 ((Pl.chk s).2 : Nat)]) ∧ Below w.heap.size w w' := by
  by_cases hs : s.size ≤ 120
  · have hs' : ¬ (120 : Int) < (s.size : Int) := by omega
    have HP : Hid (RP w.heap.size s 0 (w.alloc (.cells #[.string s, .int .i64 0] 34))) := ⟨by omega, heap_alloc_new w _⟩
    have HB := hid (((Below.refl w.heap.size w).alloc (Nat.le_refl _) (.cells #[.string s, .int .i64 0] 34)))
    go_enter Try.func5, Try.ntmps5
    go_wp2_with fail
    refine (query_any w.heap.size s _ hs HP.out).mono ?_
    rintro e w1 ⟨rfl, p1, f1⟩
    have hb : Hid (Below w.heap.size w w1) := HB.out.trans (f1.below (Nat.le_refl _) (by simp) (by simp))
    have c1 := p1.c1
    clear p1 f1
    by_cases h0 : (Pl.whole s).1 = 0
    · have hx : (((Pl.whole s).1 : Int) != 0) = false := by simp [h0]
      by_cases hj : 2 < Pl.cj s s.size
      · have hj' : (2 : Int) < (Pl.cj s s.size : Int) := by omega
        have HX : Hid (Pl.chk s = (4, 0)) := by show _ = _; unfold Pl.chk; rw [if_neg (by omega), if_pos h0, if_pos hj]
        clear h0 hj
        go_wp2_with fail
        refine (count_one s _).mono ?_
        rintro e w2 ⟨rfl, rfl⟩
        go_wp2_with fail
        go_ret2
        exact ⟨ret_two (by rw [HX.out]; rfl) (by rw [HX.out]; rfl), hb.out⟩
      · have hj' : ¬ (2 : Int) < (Pl.cj s s.size : Int) := by omega
        have HX : Hid (Pl.chk s = (0, 0)) := by show _ = _; unfold Pl.chk; rw [if_neg (by omega), if_pos h0, if_neg hj]
        clear h0 hj
        go_wp2_with fail
        refine (count_one s _).mono ?_
        rintro e w2 ⟨rfl, rfl⟩
        go_wp2_with fail
        go_ret2
        exact ⟨ret_two (by rw [HX.out]; rfl) (by rw [HX.out]; rfl), hb.out⟩
    · have hx : (((Pl.whole s).1 : Int) != 0) = true := by simp; omega
      have HX : Hid (Pl.chk s = Pl.whole s) := by show _ = _; unfold Pl.chk; rw [if_neg (by omega), if_neg h0]
      clear h0
      go_wp2_with fail
      go_quiet (fail)
      go_wp2_with fail
      go_ret2
      exact ⟨ret_two (by rw [HX.out]) (by rw [HX.out]), ⟨hb.out.os, hb.out.tape, hb.out.output, hb.out.size, hb.out.block⟩⟩
  · have hs' : (120 : Int) < (s.size : Int) := by omega
    have HX : Hid (Pl.chk s = (1, 0)) := by show _ = _; unfold Pl.chk; rw [if_pos (by omega)]
    go_enter Try.func5, Try.ntmps5
    go_wp2_with fail
    go_ret2
    exact ⟨ret_two (by rw [HX.out]; rfl) (by rw [HX.out]; rfl), Below.refl _ _⟩
end Go.Proofs.Ytfoddobnicojpaa
