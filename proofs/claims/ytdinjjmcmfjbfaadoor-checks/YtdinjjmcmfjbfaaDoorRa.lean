/-
  The document's reader: its small functions answer and move as the plain functions say.
-/
import Derived.Test.YtdinjjmcmfjbfaaDoorRb
import Derived.Deep.LoopGhost
namespace Go.Proofs.YtdinjjmcmfjbfaaDoor
open Go.RowKit

/-- The document's reader lies in block B. -/
def RR (B : Nat) (s : ByteArray) (a d e j : Nat) (pv : Value) (w : World) : Prop :=
  a ≤ s.size ∧ w.heap[B]? = some (.cells #[.string s, .int .i64 (a : Int), .int .i64 (d : Int), .int .i64 (e : Int), .int .i64 (j : Int), pv] 46 (0, 0))
section
variable {B : Nat} {s : ByteArray} {a d e j : Nat} {pv : Value} {w : World}
theorem RR.c0 (h : RR B s a d e j pv w) : w.cell? ⟨B, 0, none⟩ = some (.string s) := by rw [cell_of h.2]; rfl
theorem RR.c1 (h : RR B s a d e j pv w) : w.cell? ⟨B, 1, none⟩ = some (.int .i64 (a : Int)) := by rw [cell_of h.2]; rfl
theorem RR.c2 (h : RR B s a d e j pv w) : w.cell? ⟨B, 2, none⟩ = some (.int .i64 (d : Int)) := by rw [cell_of h.2]; rfl
theorem RR.c3 (h : RR B s a d e j pv w) : w.cell? ⟨B, 3, none⟩ = some (.int .i64 (e : Int)) := by rw [cell_of h.2]; rfl
theorem RR.c4 (h : RR B s a d e j pv w) : w.cell? ⟨B, 4, none⟩ = some (.int .i64 (j : Int)) := by rw [cell_of h.2]; rfl
theorem RR.c5 (h : RR B s a d e j pv w) : w.cell? ⟨B, 5, none⟩ = some pv := by rw [cell_of h.2]; rfl
theorem RR.f (h : RR B s a d e j pv w) (o : Nat) : w.frozen? ⟨B, o, none⟩ = false := frozen_of h.2 o
theorem RR.drewN (h : RR B s a d e j pv w) (n : Nat) : RR B s a d e j pv (w.drewN n) := h
theorem RR.setAt (h : RR B s a d e j pv w) {a' : Nat} (ha : a' ≤ s.size) : RR B s a' d e j pv (w.setCell ⟨B, 1, none⟩ (.int .i64 (a' : Int))) := ⟨ha, by rw [heap_set h.2]; rfl⟩
theorem RR.setD (h : RR B s a d e j pv w) (d' : Nat) : RR B s a d' e j pv (w.setCell ⟨B, 2, none⟩ (.int .i64 (d' : Int))) := ⟨h.1, by rw [heap_set h.2]; rfl⟩
theorem RR.setE (h : RR B s a d e j pv w) (e' : Nat) : RR B s a d e' j pv (w.setCell ⟨B, 3, none⟩ (.int .i64 (e' : Int))) := ⟨h.1, by rw [heap_set h.2]; rfl⟩
theorem RR.setJ (h : RR B s a d e j pv w) (j' : Nat) : RR B s a d e j' pv (w.setCell ⟨B, 4, none⟩ (.int .i64 (j' : Int))) := ⟨h.1, by rw [heap_set h.2]; rfl⟩
theorem RR.setP (h : RR B s a d e j pv w) (v : Value) : RR B s a d e j v (w.setCell ⟨B, 5, none⟩ v) := ⟨h.1, by rw [heap_set h.2]; rfl⟩
end

def sn (s : ByteArray) (e lo hi a : Nat) : Bool := decide (e = 0 ∧ lo ≤ Pl.bt s a ∧ Pl.bt s a ≤ hi)

set_option maxHeartbeats 1000000 in
theorem sees_any (B : Nat) (s : ByteArray) (a d e j lo hi : Nat) (li ui : Int) (pv : Value) (w : World) (_hs : s.size ≤ 120) (hlo : 0 < lo) (hli : li = (lo : Int)) (hui : ui = (hi : Int)) (h : RR B s a d e j pv w) :
    Calls Tryd.prog 37 #[.pointer (some ⟨B, 0, none⟩), .int .u8 li, .int .u8 ui] w fun en w' => en = .returned (.bool (sn s e lo hi a)) ∧ RR B s a d e j pv w' ∧ Fr B none w w' := by
  subst hli hui
  have h0 := h.c0
  have h1 := h.c1
  have h3 := h.c3
  have HH := hid h
  have ha := h.1
  have hi0 : (0 : Int) ≤ (a : Int) := by omega
  clear h
  by_cases he : e = 0
  · subst he
    by_cases hlt : a < s.size
    · have hi2 : (a : Int) < (s.size : Int) := by omega
      have hbt : Pl.bt s a = s[a].toNat := by unfold Pl.bt; rw [dif_pos hlt]
      by_cases h4 : lo ≤ s[a].toNat
      · have h4' : (lo : Int) ≤ (s[a].toNat : Int) := by omega
        by_cases h5 : s[a].toNat ≤ hi
        · have h5' : (s[a].toNat : Int) ≤ (hi : Int) := by omega
          have HX : Hid (sn s 0 lo hi a = true) := by show _ = _; unfold sn; rw [hbt]; simp [h4, h5]
          clear hbt
          go_enter Tryd.func37, Tryd.ntmps37
          go_wp2_with fail
          go_quiet (fail)
          go_wp2_with fail
          go_ret
          exact ⟨ret_bool (by rw [HX.out]), HH.out.drewN _, (Fr.refl _ _ _).drewN _⟩
        · have h5' : decide ((s[a].toNat : Int) ≤ (hi : Int)) = false := by simp; omega
          have HX : Hid (sn s 0 lo hi a = false) := by show _ = _; unfold sn; rw [hbt]; simp; omega
          clear hbt
          go_enter Tryd.func37, Tryd.ntmps37
          go_wp2_with fail
          go_quiet (fail)
          go_wp2_with fail
          go_ret
          exact ⟨ret_bool (by rw [HX.out]), HH.out.drewN _, (Fr.refl _ _ _).drewN _⟩
      · have h4' : decide ((lo : Int) ≤ (s[a].toNat : Int)) = false := by simp; omega
        have HX : Hid (sn s 0 lo hi a = false) := by show _ = _; unfold sn; rw [hbt]; simp; omega
        clear hbt
        go_enter Tryd.func37, Tryd.ntmps37
        go_wp2_with fail
        go_quiet (fail)
        go_wp2_with fail
        go_ret
        exact ⟨ret_bool (by rw [HX.out]), HH.out.drewN _, (Fr.refl _ _ _).drewN _⟩
    · have hbt : Pl.bt s a = 0 := by unfold Pl.bt; rw [dif_neg hlt]
      have h2' : decide ((a : Int) < (s.size : Int)) = false := by simp; omega
      have HX : Hid (sn s 0 lo hi a = false) := by show _ = _; unfold sn; rw [hbt]; simp; omega
      clear hbt
      go_enter Tryd.func37, Tryd.ntmps37
      go_wp2_with fail
      go_quiet (fail)
      go_wp2_with fail
      go_ret
      exact ⟨ret_bool (by rw [HX.out]), HH.out.drewN _, (Fr.refl _ _ _).drewN _⟩
  · have he' : ((e : Int) == 0) = false := by simp; omega
    have HX : Hid (sn s e lo hi a = false) := by show _ = _; unfold sn; simp [he]
    clear he
    go_enter Tryd.func37, Tryd.ntmps37
    go_wp2_with fail
    go_quiet (fail)
    go_wp2_with fail
    go_ret
    exact ⟨ret_bool (by rw [HX.out]), HH.out.drewN _, (Fr.refl _ _ _).drewN _⟩

theorem sn_true {s : ByteArray} {lo hi a : Nat} (h : sn s 0 lo hi a = true) : Pl.rng s lo hi a = (true, a + 1) := by unfold sn at h; unfold Pl.rng; rw [if_pos (by simpa using h)]
theorem sn_false {s : ByteArray} {lo hi a : Nat} (h : sn s 0 lo hi a = false) : Pl.rng s lo hi a = (false, a) := by unfold sn at h; unfold Pl.rng; rw [if_neg (by simpa using h)]
theorem sn_zero {s : ByteArray} {e lo hi a : Nat} (h : sn s e lo hi a = true) : e = 0 := by unfold sn at h; simp at h; exact h.1
theorem sn_bt {s : ByteArray} {e lo hi a : Nat} (h : sn s e lo hi a = true) : lo ≤ Pl.bt s a ∧ Pl.bt s a ≤ hi := by unfold sn at h; simp at h; exact h.2
/-- The reader behind a function: the outcome X, all else as it was. -/
def RQ (B : Nat) (s : ByteArray) (d j : Nat) (pv : Value) (w : World) (X : Nat × Nat) (w' : World) : Prop := ∃ e' a', X = (e', a') ∧ RR B s a' d e' j pv w' ∧ Fr B none w w'

/-- The first thing that is wrong. -/
def wrg (e k : Nat) : Nat := if e = 0 then k else e
set_option maxHeartbeats 1000000 in
theorem wrong_any (B : Nat) (s : ByteArray) (a d e j k : Nat) (ki : Int) (pv : Value) (w : World) (hki : ki = (k : Int)) (h : RR B s a d e j pv w) :
    Calls Tryd.prog 13 #[.pointer (some ⟨B, 0, none⟩), .int .i64 ki] w fun en w' => en = .returned (.tuple #[]) ∧ RR B s a d (wrg e k) j pv w' ∧ Fr B none w w' := by
  subst hki
  have h3 := h.c3
  have f3 := h.f 3
  have HH := hid h
  clear h
  by_cases he : e = 0
  · subst he
    go_enter Tryd.func13, Tryd.ntmps13
    go_wp2_with fail
    go_end0
    exact ⟨rfl, HH.out.setE k, (Fr.refl _ _ _).setCell _ _⟩
  · have he' : ((e : Int) == 0) = false := by simp; omega
    have HE : Hid (wrg e k = e) := by show _ = _; unfold wrg; rw [if_neg he]
    clear he
    go_enter Tryd.func13, Tryd.ntmps13
    go_wp2_with fail
    go_end0
    exact ⟨rfl, by rw [HE.out]; exact HH.out, Fr.refl _ _ _⟩

set_option maxHeartbeats 1000000 in
theorem rnext_any (B : Nat) (s : ByteArray) (a d e j lo hi : Nat) (li ui : Int) (pv : Value) (w : World) (hs : s.size ≤ 120) (hlo : 0 < lo) (hlh : lo ≤ hi) (hli : li = (lo : Int)) (hui : ui = (hi : Int)) (h : RR B s a d e j pv w) :
    Calls Tryd.prog 24 #[.pointer (some ⟨B, 0, none⟩), .int .u8 li, .int .u8 ui] w fun en w' => ∃ c : Nat, en = .returned (.int .u8 (c : Int)) ∧ lo ≤ c ∧ c ≤ hi ∧ (sn s e lo hi a = true → c = Pl.bt s a) ∧ RQ B s d j pv w (Pl.bE (e, a) (Pl.lf (Pl.rng s lo hi))) w' := by
  subst hli hui
  have HH := hid h
  have ha := h.1
  clear h
  go_enter Tryd.func24, Tryd.ntmps24
  go_wp2_with fail
  refine (sees_any B s a d e j lo hi _ _ pv _ hs hlo rfl rfl HH.out).mono ?_
  rintro en w1 ⟨rfl, p1, f1⟩
  cases hsn : sn s e lo hi a
  · have HSN := hid hsn
    have P1 := hid p1
    clear p1 hsn
    go_wp2_with fail
    refine (wrong_any B s a d e j 2 2 pv _ rfl P1.out).mono ?_
    rintro en w2 ⟨rfl, p2, f2⟩
    go_wp2_with fail
    go_ret
    refine ⟨lo, rfl, Nat.le_refl _, hlh, (fun x => by rw [HSN.out] at x; cases x), ⟨_, _, ?_, p2, f1.seq f2⟩⟩
    by_cases he : e = 0
    · subst he; rw [Pl.bE_zero, Pl.lf_false (sn_false HSN.out)]; rfl
    · rw [Pl.bE_err he]; unfold wrg; rw [if_neg he]
  · obtain rfl : e = 0 := sn_zero hsn
    have hb := sn_bt hsn
    have hl := Pl.bt_lt (s := s) (a := a) (by omega)
    have c0 := p1.c0
    have c1 := p1.c1
    have g1 := p1.f 1
    have HSN := hid hsn
    have P1 := hid p1
    have Hbt : Hid (Pl.bt s a = s[a].toNat) := by show _ = _; unfold Pl.bt; rw [dif_pos hl]
    have HB := hid hb
    clear p1 hsn hb
    have i1 : (0 : Int) ≤ (a : Int) := by omega
    have i2 : (a : Int) < (s.size : Int) := by omega
    go_wp2_with fail
    go_quiet (fail)
    go_wp2_with fail
    go_ret
    refine ⟨Pl.bt s a, ret_int (by rw [Hbt.out]), HB.out.1, HB.out.2, fun _ => rfl, ⟨0, a + 1, ?_, (P1.out.setAt (by omega)).drewN _, (f1.setCell _ _).drewN _⟩⟩
    rw [Pl.bE_zero, Pl.lf_true (sn_true HSN.out)]
end Go.Proofs.YtdinjjmcmfjbfaaDoor
