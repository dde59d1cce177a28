/-
  For every script, ripplelaw.Checks returns true, and the script reads behind the call as it read before: no condition. (The program's Check and the document's Check answer alike at every text.)
-/
import Derived.Test.YtdinjjmcmfjbfaaDoorRq
import Derived.Test.YtdinjjmcmfjbfaaDoorRbz
import Derived.ProofKit
import Derived.OpenShut
import Derived.ShutString
import Derived.ChangeOld
import Derived.Deep.Slices
namespace Go.Proofs.YtdinjjmcmfjbfaaDoor
open Go.ChangeShapes Go.WideShapes Go.ChangeAt Go.RowKit

set_option maxHeartbeats 400000 in
theorem check_ref (s : ByteArray) (w : World) :
    Calls Tryd.prog 6 #[.string s] w fun e w' => e = .returned (.tuple #[.int .i64 ((Pl.chk s).1 : Nat), .int .i64 ((Pl.chk s).2 : Nat)]) ∧ Below w.heap.size w w' := by
  go_enter Tryd.func6, Tryd.ntmps6
  go_wp2_with fail
  refine (parse_any s _).mono ?_
  rintro en w1 ⟨⟨ad, n, c, rfl⟩, hb⟩
  have HB := hid hb
  clear hb
  go_wp2_with fail
  go_ret2
  exact ⟨rfl, HB.out⟩

set_option maxHeartbeats 400000 in
theorem num_any (n : Int) (w : World) : Calls Tryd.prog 7 #[.int .i64 n] w fun e w' => e = .returned (.int .i64 n) ∧ w' = w := by
  go_enter Tryd.func7, Tryd.ntmps7
  go_wp2
  go_ret
  exact ⟨rfl, rfl⟩

set_option maxHeartbeats 400000 in
theorem checked_any (s : ByteArray) (w : World) : Calls Tryd.prog 4 #[.string s] w fun e w' => e = .returned (.bool true) ∧ Below w.heap.size w w' := by
  go_enter Tryd.func4, Tryd.ntmps4
  go_wp2_with fail
  refine (check_mine s _).mono ?_
  rintro en w1 ⟨rfl, hb1⟩
  have H1 := hid hb1.toBelow
  clear hb1
  go_wp2_with fail
  refine (check_ref s _).mono ?_
  rintro en w2 ⟨rfl, hb2⟩
  have H2 : Hid (Below w.heap.size w w2) := H1.out.trans (hb2.mono H1.out.size)
  clear hb2
  generalize ((Pl.chk s).1 : Nat) = x
  generalize ((Pl.chk s).2 : Nat) = y
  go_wp2_with fail
  refine (num_any _ _).mono ?_
  rintro en w3 ⟨rfl, rfl⟩
  go_wp2_with fail
  go_ret
  exact ⟨ret_bool (by simp), H2.out⟩

/-- A script that came in: it has no step, or each step's kind and text lie in their cells. -/
def IsOps (w : World) (a : Option Addr) (len cap : Nat) : Prop :=
  len = 0 ∨
  ∃ b off, a = some ⟨b, off, none⟩ ∧ len ≤ cap ∧ cap ≤ maxLen ∧ b < w.heap.size ∧ ∀ i, i < len → ∃ (k : Int) (s : ByteArray), w.cell? ⟨b, off + i * 5, none⟩ = some (.int .i64 k) ∧ w.cell? ⟨b, off + i * 5 + 3, none⟩ = some (.string s)

set_option maxHeartbeats 1000000 in
theorem checks_any (a : Option Addr) (len cap : Nat) (w : World) (h : IsOps w a len cap) :
    Calls Tryd.prog 3 #[.slice a len cap] w fun e w' => e = .returned (.bool true) ∧ Below w.heap.size w w' := by
  rcases h with rfl | ⟨b, off, rfl, hl, hm, hb, hc⟩
  · go_enter Tryd.func3, Tryd.ntmps3
    go_wp2_with fail
    go_loopg [3] 0 (fun _ v wr => v = .int .i64 0 ∧ wr = w)
    case atStart => exact ⟨rfl, rfl⟩
    case round =>
      obtain ⟨rfl, rfl⟩ := hrel
      go_wp2_with fail
      go_ret
      exact ⟨rfl, Below.refl _ _⟩
  · have HC := hid hc
    unfold maxLen at hm
    clear hc
    go_enter Tryd.func3, Tryd.ntmps3
    go_wp2_with fail
    go_loopg [3] len (fun k v wr => ∃ i : Nat, i + k = len ∧ v = .int .i64 (i : Int) ∧ Below w.heap.size w wr)
    case atStart => exact ⟨0, by omega, rfl, Below.refl _ _⟩
    case round =>
      obtain ⟨i, hik, rfl, hbel⟩ := hrel
      by_cases hk : gk = 0
      · subst hk
        have hx : ¬ (i : Int) < (len : Int) := by omega
        have HB := hid hbel
        clear hbel
        go_wp2_with fail
        go_ret
        exact ⟨rfl, HB.out⟩
      · obtain ⟨k, rfl⟩ : ∃ k, gk = k + 1 := ⟨gk - 1, by omega⟩
        have hx : (i : Int) < (len : Int) := by omega
        have hx0 : (0 : Int) ≤ (i : Int) := by omega
        obtain ⟨kk, st, h1, h2⟩ := HC.out i (by omega)
        have c1 : wr.cell? ⟨b, off + i * 5, none⟩ = some (.int .i64 kk) := (hbel.cell (p := ⟨b, off + i * 5, none⟩) hb).trans h1
        have c2 : wr.cell? ⟨b, off + i * 5 + 3, none⟩ = some (.string st) := (hbel.cell (p := ⟨b, off + i * 5 + 3, none⟩) hb).trans h2
        have HB := hid hbel
        have hbs := hbel.size
        clear hbel h1 h2
        by_cases hk1 : kk = 1
        · subst hk1
          go_wp2_with fail
          refine (checked_any st _).mono ?_
          rintro en w1 ⟨rfl, hb1⟩
          have H1 : Hid (Below w.heap.size w w1) := HB.out.trans (hb1.mono hbs)
          clear hb1
          go_wp2_with fail
          go_roundg k
          case measure => omega
          case rel => exact ⟨i + 1, by omega, by go_num, H1.out⟩
        · have hk2 : (kk == 1) = false := by simp; omega
          clear hk1
          go_wp2_with fail
          go_roundg k
          case measure => omega
          case rel => exact ⟨i + 1, by omega, by go_num, HB.out⟩
end Go.Proofs.YtdinjjmcmfjbfaaDoor
