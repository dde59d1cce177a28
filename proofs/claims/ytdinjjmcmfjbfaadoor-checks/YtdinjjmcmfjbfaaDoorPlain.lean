/-
  Plain mathematics, on: one query of the document's, step by step.
-/
import Derived.Test.YtdinjjmcmfjbfaaDoorPure
namespace Go.Proofs.YtdinjjmcmfjbfaaDoor.Pl

def stepQ (s : ByteArray) (d : Nat) (q : Nat → Nat × Nat) (a : Nat) : Nat × Nat :=
  bE (lf (headP s (kd (bt s a))) a) fun b => if kd (bt s a) = 1 then (0, b) else bE (opn s d 0 b) fun c => bE (q c) (tailP s q (ins (kd (bt s a))))

theorem opn_err {s : ByteArray} {d e a : Nat} (h : e ≠ 0) : opn s d e a = (e, a) := by unfold opn; rw [if_neg (fun x => h x.1), bE_err h]
theorem opn_deep {s : ByteArray} {a : Nat} (h : bt s a = 40) : opn s 6 0 a = (3, a) := by unfold opn; rw [if_pos ⟨rfl, h, rfl⟩]
theorem opn_shut {s : ByteArray} {d a : Nat} (h : bt s a ≠ 40) : opn s d 0 a = (2, a) := by unfold opn; rw [if_neg (fun x => h x.2.1), bE_zero, lf_false (tk_out h)]
theorem opn_in {s : ByteArray} {d a : Nat} (h : bt s a = 40) (hd : d ≠ 6) : opn s d 0 a = (0, a + 1) := by unfold opn; rw [if_neg (fun x => hd x.2.2), bE_zero, lf_true (tk_in h)]
theorem opn_six {s : ByteArray} {e a e' a' : Nat} (h : opn s 6 e a = (e', a')) : e' ≠ 0 := by
  intro h0; subst h0
  by_cases he : e = 0
  · subst he
    by_cases hb : bt s a = 40
    · rw [opn_deep hb] at h; injection h with h; omega
    · rw [opn_shut hb] at h; injection h with h; omega
  · rw [opn_err he] at h; injection h with h; exact he h
theorem opn_ok {s : ByteArray} {d e a a' : Nat} (h : opn s d e a = (0, a')) : e = 0 ∧ cj s a' = cj s a := by
  by_cases he : e = 0
  · subst he
    refine ⟨rfl, ?_⟩
    unfold opn at h
    split at h
    · injection h with h; omega
    · rw [bE_zero] at h
      by_cases hb : bt s a = 40
      · rw [lf_true (tk_in hb)] at h; injection h with _ h; subst h; simp [cj, hb]
      · rw [lf_false (tk_out hb)] at h; injection h with h; omega
  · rw [opn_err he] at h; injection h with h; exact absurd h he
theorem bE_lf_ok {s : ByteArray} {p : Nat → Bool × Nat} (hp : Good s p) {e a a' : Nat} (h : bE (e, a) (lf p) = (0, a')) : e = 0 ∧ cj s a' = cj s a := by
  by_cases he : e = 0
  · subst he
    refine ⟨rfl, ?_⟩
    rw [bE_zero] at h
    have h1 : (p a).1 = true := lf_ok (by rw [h])
    have h2 : (p a).2 = a' := by have : (lf p a).2 = a' := by rw [h]
                                 exact this
    rw [← h2]; exact hp.noJ a h1
  · rw [bE_err he] at h; injection h with h; exact absurd h he
theorem cj_le (s : ByteArray) : ∀ a, cj s a ≤ a
  | 0 => Nat.le_refl _
  | a + 1 => by have := cj_le s a; unfold cj; split <;> omega

theorem stepQ_six (s : ByteArray) (q : Nat → Nat × Nat) : stepQ s 6 q = qP s 0 := by
  funext a; unfold stepQ; rw [qP]
  congr 1; funext b
  by_cases hk : kd (bt s a) = 1
  · rw [if_pos hk, if_pos hk]
  · rw [if_neg hk, if_neg hk]
    by_cases hb : bt s b = 40
    · rw [if_pos hb, opn_deep hb, bE_err (by omega)]
    · rw [if_neg hb, opn_shut hb, bE_err (by omega)]
theorem stepQ_more (s : ByteArray) (d f : Nat) (hd : d ≠ 6) : stepQ s d (qP s f) = qP s (f + 1) := by
  funext a; unfold stepQ; rw [qP]
  congr 1; funext b
  by_cases hk : kd (bt s a) = 1
  · rw [if_pos hk, if_pos hk]
  · rw [if_neg hk, if_neg hk]
    by_cases hb : bt s b = 40
    · rw [if_pos hb, opn_in hb hd, bE_zero]
    · rw [if_neg hb, opn_shut hb, bE_err (by omega)]

theorem step_one {s : ByteArray} {d a e1 a1 e2 a2 e3 a3 e4 a4 : Nat} {q : Nat → Nat × Nat} (hk : kd (bt s a) ≠ 1) (hi : ins (kd (bt s a)) = 1) (h1 : lf (headP s (kd (bt s a))) a = (e1, a1)) (h2 : opn s d e1 a1 = (e2, a2)) (h3 : bE (e2, a2) q = (e3, a3)) (h4 : bE (e3, a3) (lf (tk s 41)) = (e4, a4)) :
    stepQ s d q a = (e4, a4) := by
  unfold stepQ; rw [h1]
  by_cases z1 : e1 = 0
  · subst z1
    rw [bE_zero, if_neg hk, h2]
    by_cases z2 : e2 = 0
    · subst z2
      rw [bE_zero] at h3 ⊢
      rw [h3, ← h4]
      congr 1; funext x; unfold tailP; rw [hi, if_neg (by omega)]
    · rw [bE_err z2] at h3 ⊢; injection h3 with x y; subst x y; rw [bE_err z2] at h4; exact h4
  · rw [opn_err z1] at h2; injection h2 with x y; subst x y
    rw [bE_err z1] at h3 ⊢; injection h3 with x y; subst x y; rw [bE_err z1] at h4; exact h4
theorem step_two {s : ByteArray} {d a e1 a1 e2 a2 e3 a3 e4 a4 e5 a5 e6 a6 : Nat} {q : Nat → Nat × Nat} (hk : kd (bt s a) ≠ 1) (hi : ins (kd (bt s a)) = 2) (h1 : lf (headP s (kd (bt s a))) a = (e1, a1)) (h2 : opn s d e1 a1 = (e2, a2)) (h3 : bE (e2, a2) q = (e3, a3))
    (h4 : bE (e3, a3) (lf (tk s 44)) = (e4, a4)) (h5 : bE (e4, a4) q = (e5, a5)) (h6 : bE (e5, a5) (lf (tk s 41)) = (e6, a6)) :
    stepQ s d q a = (e6, a6) := by
  have errs : ∀ {e b : Nat}, e ≠ 0 → (e, b) = (e3, a3) → (e, b) = (e6, a6) := by
    intro e b he hx; injection hx with x y; subst x y
    rw [bE_err he] at h4; injection h4 with x y; subst x y
    rw [bE_err he] at h5; injection h5 with x y; subst x y
    rw [bE_err he] at h6; exact h6
  unfold stepQ; rw [h1]
  by_cases z1 : e1 = 0
  · subst z1
    rw [bE_zero, if_neg hk, h2]
    by_cases z2 : e2 = 0
    · subst z2
      rw [bE_zero] at h3 ⊢
      rw [h3]
      by_cases z3 : e3 = 0
      · subst z3
        rw [bE_zero] at h4 ⊢
        unfold tailP; rw [hi, if_pos rfl, h4]
        by_cases z4 : e4 = 0
        · subst z4; rw [bE_zero] at h5 ⊢; rw [h5]; exact h6
        · rw [bE_err z4] at h5 ⊢; injection h5 with x y; subst x y; rw [bE_err z4] at h6; exact h6
      · rw [bE_err z3]; exact errs z3 rfl
    · rw [bE_err z2] at h3 ⊢; exact errs z2 h3
  · rw [opn_err z1] at h2; injection h2 with x y; subst x y
    rw [bE_err z1] at h3 ⊢; exact errs z1 h3

theorem lf_tk {s : ByteArray} {c a : Nat} {g : Nat → Bool × Nat} (h : bt s a = c) : lf (andP (tk s c) g) a = lf g (a + 1) := by unfold lf; rw [andP_true (tk_in h)]
theorem bE_congr {x : Nat × Nat} {f g : Nat → Nat × Nat} (h : f x.2 = g x.2) : bE x f = bE x g := by unfold bE; rw [h]
theorem fold_eq (s : ByteArray) : foldP s = andP (tk s 91) (andP (ifP (tk s 115) (dig s) (tk s 110)) (tk s 93)) := by
  funext a; unfold foldP
  cases h : tk s 91 a with
  | mk o b =>
    cases o
    · rw [andP_false h, andP_false h]
    · rw [andP_true h, andP_true h]
      cases h2 : tk s 115 b with
      | mk o2 c =>
        cases o2
        · rw [ifP_false h2]; unfold andP; rw [ifP_false h2]
        · rw [ifP_true h2]; unfold andP; rw [ifP_true h2]
/-- A choice by a byte, as the document's reader makes it: the byte stands there ¦ it does not. -/
theorem or_yes {s : ByteArray} {c a : Nat} {g : Nat → Bool × Nat} (h : bt s a = c) : bE (0, a) (lf (orP (tk s c) g)) = (0, a + 1) := by rw [bE_zero, lf_true (orP_true (tk_in h))]
theorem or_no {s : ByteArray} {c e a : Nat} {g : Nat → Bool × Nat} (h : ¬ (e = 0 ∧ bt s a = c)) : bE (e, a) (lf (orP (tk s c) g)) = bE (e, a) (lf g) := by
  by_cases he : e = 0
  · subst he; apply bE_congr; show lf _ a = lf _ a; unfold lf; rw [orP_false (tk_out (fun x => h ⟨rfl, x⟩))]
  · rw [bE_err he, bE_err he]
theorem if_yes {s : ByteArray} {c a : Nat} {g k : Nat → Bool × Nat} (h : bt s a = c) : bE (0, a) (lf (ifP (tk s c) g k)) = bE (0, a + 1) (lf g) := by rw [bE_zero, bE_zero]; unfold lf; rw [ifP_true (tk_in h)]
theorem if_no {s : ByteArray} {c e a : Nat} {g k : Nat → Bool × Nat} (h : ¬ (e = 0 ∧ bt s a = c)) : bE (e, a) (lf (ifP (tk s c) g k)) = bE (e, a) (lf k) := by
  by_cases he : e = 0
  · subst he; apply bE_congr; show lf _ a = lf _ a; unfold lf; rw [ifP_false (tk_out (fun x => h ⟨rfl, x⟩))]
  · rw [bE_err he, bE_err he]
theorem oneOf_eq (s : ByteArray) : oneOf s = orP (tk s 60) (orP (tk s 61) (tk s 33)) := by
  funext a; unfold oneOf
  by_cases h1 : bt s a = 60
  · rw [if_pos (.inl h1), orP_true (tk_in h1)]
  · rw [orP_false (tk_out h1)]
    by_cases h2 : bt s a = 61
    · rw [if_pos (.inr (.inl h2)), orP_true (tk_in h2)]
    · rw [orP_false (tk_out h2)]
      by_cases h3 : bt s a = 33
      · rw [if_pos (.inr (.inr h3)), tk_in h3]
      · rw [if_neg (by omega), tk_out h3]
theorem kd_leaf {s : ByteArray} {a : Nat} (h : kd (bt s a) = 0 ∨ kd (bt s a) = 1) (d : Nat) (q : Nat → Nat × Nat) : stepQ s d q a = lf (let4 s) a := by
  unfold stepQ
  rcases h with h | h
  · rw [h]
    have hn : ¬ (97 ≤ bt s a ∧ bt s a ≤ 122) := by intro hx; unfold kd at h; repeat' split at h <;> try omega
    have e1 : headP s 0 a = (false, a) := rfl
    rw [lf_false e1, bE_err (by omega), lf_false (show let4 s a = (false, a) from sev_no hn)]
  · rw [h]
    have e1 : headP s 1 = let4 s := by funext x; rfl
    rw [e1]; unfold bE; split
    · rename_i hz; show (0, (lf (let4 s) a).2) = _; exact Prod.ext hz.symm rfl
    · rfl
end Go.Proofs.YtdinjjmcmfjbfaaDoor.Pl
