/-
  Queries and their bags, plainly: each operator's bag, that it does not depend on how a bag is listed, that no row is there less than no times, and how large counts and numbers can be.
-/
import Derived.Test.YtdinjjmcmfjbfaaDoorMo
namespace Go.Proofs.YtdinjjmcmfjbfaaDoor.Mo

/-! ### sums over bags -/
def nn (l : Bag) : Prop := ∀ r, 0 ≤ cnt l r
theorem nn_mem {l : Bag} (h : nn l) {e : Row × Int} (he : e ∈ canon l) : 1 ≤ e.2 := by
  have h1 := (canon_rise l).cnt_mem he
  have h2 := (canon_rise l).nz he
  have h3 := h e.1
  rw [canon_cnt] at h1
  omega
theorem lin_mono_pos {l : Bag} (h : ∀ e ∈ l, 0 ≤ e.2) {g k : Row → Int} (hg : ∀ e ∈ l, g e.1 ≤ k e.1) : lin l g ≤ lin l k := by
  induction l with
  | nil => exact Int.le_refl _
  | cons e l ih =>
    have h1 := Int.mul_le_mul_of_nonneg_left (hg e (by simp)) (h e (by simp))
    have h2 := ih (fun x hx => h x (by simp [hx])) (fun x hx => hg x (by simp [hx]))
    simp only [lin]; omega
theorem lin_mono {l : Bag} (h : nn l) {g k : Row → Int} (hg : ∀ r, g r ≤ k r) : lin l g ≤ lin l k := by
  rw [← canon_lin l g, ← canon_lin l k]
  exact lin_mono_pos (fun e he => by have := nn_mem h he; omega) (fun e _ => hg e.1)
theorem lin_nn {l : Bag} (h : nn l) {g : Row → Int} (hg : ∀ r, 0 ≤ g r) : 0 ≤ lin l g := by
  have := lin_mono h hg; rw [lin_zero] at this; exact this
theorem nn_of_lin {l : Bag} (h : ∀ g : Row → Int, (∀ r, 0 ≤ g r) → 0 ≤ lin l g) : nn l := fun r => by
  rw [cnt_eq_lin]; exact h _ (fun x => by split <;> omega)
theorem eqv_of_lin {l m : Bag} (h : ∀ g : Row → Int, lin l g = lin m g) : Eqv l m := fun r => by rw [cnt_eq_lin, cnt_eq_lin]; exact h _
theorem lin_term {l : Bag} (h : nn l) {g : Row → Int} (hg : ∀ r, 0 ≤ g r) {e : Row × Int} (he : e ∈ canon l) : g e.1 ≤ lin l g := by
  rw [← canon_lin l g]
  have key : ∀ {m : Bag}, (∀ x ∈ m, 1 ≤ x.2) → e ∈ m → g e.1 ≤ lin m g := by
    intro m hm hx
    induction m with
    | nil => cases hx
    | cons y m ih =>
      have hr : 0 ≤ lin m g := by
        have := lin_mono_pos (l := m) (fun x hx => by have := hm x (by simp [hx]); omega) (g := fun _ => 0) (k := g) (fun x _ => hg x.1)
        rw [lin_zero] at this; exact this
      have hy : g y.1 ≤ y.2 * g y.1 := by
        have := Int.mul_le_mul_of_nonneg_right (hm y (by simp)) (hg y.1)
        omega
      have hy0 := hg y.1
      simp only [lin]
      rcases List.mem_cons.1 hx with rfl | hx
      · omega
      · have := ih (fun x hx => hm x (by simp [hx])) hx; omega
  exact key (fun x hx => nn_mem h hx) he

/-! ### what the operators make of bags -/
inductive Cmp where
  | lt
  | eq
  | ne
  deriving DecidableEq
inductive Opd where
  | col (c : Nat)
  | val (v : V)
  deriving DecidableEq
def colR (r : Row) (c : Nat) : V := r.getD c (.num 0)
def cmpV : Cmp → V → V → Bool
  | .lt, a, b => vlt a b
  | .eq, a, b => decide (a = b)
  | .ne, a, b => !decide (a = b)
def opdR (x : Opd) (r : Row) : V := match x with
  | .col c => colR r c
  | .val v => v
def pickR (cs : List Nat) (r : Row) : Row := cs.map (colR r)
def numV : V → Int
  | .num n => n
  | .txt _ => 0
def sv (s : Option Nat) (r : Row) : Int := match s with
  | none => 1
  | some m => numV (colR r m)
def selB (p : Row → Bool) (l : Bag) : Bag := l.filter fun e => p e.1
def pickB (cs : List Nat) (l : Bag) : Bag := l.map fun e => (pickR cs e.1, e.2)
def joinB (n m : Nat) (a b : Bag) : Bag := a.flatMap fun x => (selB (fun y => decide (colR x.1 n = colR y m)) b).map fun y => (x.1 ++ y.1, x.2 * y.2)
def distB (l : Bag) : Bag := (canon l).map fun e => (e.1, 1)
def keysB (cs : List Nat) (l : Bag) : Bag := canon ((canon l).map fun e => (pickR cs e.1, 1))
def grpN (cs : List Nat) (s : Option Nat) (l : Bag) (k : Row) : Int := lin l (fun r => if pickR cs r = k then sv s r else 0)
def grpB (cs : List Nat) (s : Option Nat) (l : Bag) : Bag := (keysB cs l).map fun k => (k.1 ++ [.num (grpN cs s l k.1)], 1)

theorem selB_lin (p : Row → Bool) (l : Bag) (g : Row → Int) : lin (selB p l) g = lin l (fun r => if p r then g r else 0) := by
  induction l with
  | nil => rfl
  | cons e l ih =>
    have ih' : lin (List.filter (fun e => p e.1) l) g = _ := ih
    simp only [selB, List.filter_cons]
    by_cases h : p e.1 = true
    · rw [if_pos h]; simp only [lin, ih', h, if_true]
    · rw [if_neg h]; simp only [lin, ih']; rw [if_neg h]; omega
theorem map_lin (f : Row → Row) (l : Bag) (g : Row → Int) : lin (l.map fun e => (f e.1, e.2)) g = lin l (fun r => g (f r)) := by
  induction l with
  | nil => rfl
  | cons e l ih => simp only [List.map_cons, lin, ih]
theorem pickB_lin (cs : List Nat) (l : Bag) (g : Row → Int) : lin (pickB cs l) g = lin l (fun r => g (pickR cs r)) := map_lin _ l g
theorem scale_lin (t : Int) (f : Row → Row) (l : Bag) (g : Row → Int) : lin (l.map fun e => (f e.1, t * e.2)) g = t * lin l (fun r => g (f r)) := by
  induction l with
  | nil => simp [lin]
  | cons e l ih => simp only [List.map_cons, lin, ih, Int.mul_add, Int.mul_assoc]
theorem joinB_lin (n m : Nat) (a b : Bag) (g : Row → Int) : lin (joinB n m a b) g = lin a (fun x => lin b (fun y => if decide (colR x n = colR y m) then g (x ++ y) else 0)) := by
  induction a with
  | nil => rfl
  | cons e a ih =>
    have ih' : lin (List.flatMap (fun x => (selB (fun y => decide (colR x.1 n = colR y m)) b).map fun y => (x.1 ++ y.1, x.2 * y.2)) a) g = _ := ih
    simp only [joinB, List.flatMap_cons, lin_append, ih', lin]
    rw [scale_lin e.2 (fun y => e.1 ++ y), selB_lin]

/-! ### that the listing does not matter -/
theorem selB_eqv {p : Row → Bool} {l m : Bag} (h : Eqv l m) : Eqv (selB p l) (selB p m) := eqv_of_lin fun g => by rw [selB_lin, selB_lin, h.lin]
theorem pickB_eqv {cs : List Nat} {l m : Bag} (h : Eqv l m) : Eqv (pickB cs l) (pickB cs m) := eqv_of_lin fun g => by rw [pickB_lin, pickB_lin, h.lin]
theorem joinB_eqv {n m : Nat} {a a' b b' : Bag} (h : Eqv a a') (k : Eqv b b') : Eqv (joinB n m a b) (joinB n m a' b') := eqv_of_lin fun g => by
  rw [joinB_lin, joinB_lin, h.lin]
  exact lin_congr_fun _ fun e _ => k.lin _
theorem distB_eqv {l m : Bag} (h : Eqv l m) : distB l = distB m := by unfold distB; rw [h.canon]
theorem grpB_eqv {cs : List Nat} {s : Option Nat} {l m : Bag} (h : Eqv l m) : grpB cs s l = grpB cs s m := by
  unfold grpB keysB grpN; rw [h.canon]
  congr 1; funext k; rw [h.lin]

/-! ### changes of what is linear -/
theorem selB_append (p : Row → Bool) (l m : Bag) : selB p (l ++ m) = selB p l ++ selB p m := List.filter_append _ _
theorem pickB_append (cs : List Nat) (l m : Bag) : pickB cs (l ++ m) = pickB cs l ++ pickB cs m := List.map_append
theorem joinB_left (n m : Nat) (a b c : Bag) : joinB n m (a ++ b) c = joinB n m a c ++ joinB n m b c := List.flatMap_append
theorem joinB_right (n m : Nat) (a b c : Bag) : Eqv (joinB n m a (b ++ c)) (joinB n m a b ++ joinB n m a c) := eqv_of_lin fun g => by
  rw [lin_append, joinB_lin, joinB_lin, joinB_lin, ← lin_add]
  exact lin_congr_fun _ fun e _ => lin_append _ _ _

/-! ### never less than no times -/
theorem selB_nn {p : Row → Bool} {l : Bag} (h : nn l) : nn (selB p l) := nn_of_lin fun g hg => by
  rw [selB_lin]; exact lin_nn h fun r => by split; exact hg r; exact Int.le_refl _
theorem pickB_nn {cs : List Nat} {l : Bag} (h : nn l) : nn (pickB cs l) := nn_of_lin fun g hg => by rw [pickB_lin]; exact lin_nn h fun r => hg _
theorem joinB_nn {n m : Nat} {a b : Bag} (h : nn a) (k : nn b) : nn (joinB n m a b) := nn_of_lin fun g hg => by
  rw [joinB_lin]; exact lin_nn h fun x => lin_nn k fun y => by split; exact hg _; exact Int.le_refl _
theorem append_nn {a b : Bag} (h : nn a) (k : nn b) : nn (a ++ b) := fun r => by rw [cnt_append]; have := h r; have := k r; omega
theorem ones_nn {l : Bag} (f : Row × Int → Row) : nn (l.map fun e => (f e, 1)) := nn_of_lin fun g hg => by
  induction l with
  | nil => exact Int.le_refl _
  | cons e l ih => simp only [List.map_cons, lin]; have := hg (f e); omega
theorem distB_nn (l : Bag) : nn (distB l) := ones_nn _
theorem grpB_nn (cs : List Nat) (s : Option Nat) (l : Bag) : nn (grpB cs s l) := ones_nn _
end Go.Proofs.YtdinjjmcmfjbfaaDoor.Mo
