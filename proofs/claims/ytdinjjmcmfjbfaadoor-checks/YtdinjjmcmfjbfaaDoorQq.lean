/-
  Queries as trees: their bags by the bags of their leaves, their types, and what is small of them.
-/
import Derived.Test.YtdinjjmcmfjbfaaDoorQb
namespace Go.Proofs.YtdinjjmcmfjbfaaDoor.Mo

inductive Q where
  | tab (nm : List UInt8)
  | sel (c : Nat) (k : Cmp) (x : Opd) (q : Q)
  | pick (cs : List Nat) (q : Q)
  | join (n m : Nat) (q r : Q)
  | uni (q r : Q)
  | dist (q : Q)
  | grp (cs : List Nat) (s : Option Nat) (q : Q)
  deriving DecidableEq
/-- The names in it, from the left. -/
def leaves : Q → List (List UInt8)
  | .tab nm => [nm]
  | .sel _ _ _ q => leaves q
  | .pick _ q => leaves q
  | .join _ _ q r => leaves q ++ leaves r
  | .uni q r => leaves q ++ leaves r
  | .dist q => leaves q
  | .grp _ _ q => leaves q
def joins : Q → Nat
  | .tab _ => 0
  | .sel _ _ _ q => joins q
  | .pick _ q => joins q
  | .join _ _ q r => joins q + joins r + 1
  | .uni q r => joins q + joins r
  | .dist q => joins q
  | .grp _ _ q => joins q
def selR (c : Nat) (k : Cmp) (x : Opd) (r : Row) : Bool := cmpV k (colR r c) (opdR x r)
/-- The bag of a query by the bags at its leaves; the first leaf is number i. -/
def bagQ (f : Nat → Bag) : Nat → Q → Bag
  | i, .tab _ => f i
  | i, .sel c k x q => selB (selR c k x) (bagQ f i q)
  | i, .pick cs q => pickB cs (bagQ f i q)
  | i, .join n m q r => joinB n m (bagQ f i q) (bagQ f (i + (leaves q).length) r)
  | i, .uni q r => bagQ f i q ++ bagQ f (i + (leaves q).length) r
  | i, .dist q => distB (bagQ f i q)
  | i, .grp cs s q => grpB cs s (bagQ f i q)
theorem leaves_pos (q : Q) : 1 ≤ (leaves q).length := by
  induction q <;> simp only [leaves, List.length_append, List.length_singleton] <;> omega
/-- The bag of a query from tables. -/
def bagT (f : List UInt8 → Bag) : Q → Bag
  | .tab nm => f nm
  | .sel c k x q => selB (selR c k x) (bagT f q)
  | .pick cs q => pickB cs (bagT f q)
  | .join n m q r => joinB n m (bagT f q) (bagT f r)
  | .uni q r => bagT f q ++ bagT f r
  | .dist q => distB (bagT f q)
  | .grp cs s q => grpB cs s (bagT f q)
theorem bagQ_congr {f g : Nat → Bag} : ∀ (q : Q) (i : Nat), (∀ j, i ≤ j → j < i + (leaves q).length → Eqv (f j) (g j)) → Eqv (bagQ f i q) (bagQ g i q)
  | .tab _, i, h => h i (Nat.le_refl _) (by simp [leaves])
  | .sel _ _ _ q, i, h => selB_eqv (bagQ_congr q i h)
  | .pick _ q, i, h => pickB_eqv (bagQ_congr q i h)
  | .join _ _ q r, i, h => joinB_eqv (bagQ_congr q i fun j h1 h2 => h j h1 (by simp only [leaves, List.length_append]; omega)) (bagQ_congr r _ fun j h1 h2 => h j (by omega) (by simp only [leaves, List.length_append]; omega))
  | .uni q r, i, h => Eqv.append (bagQ_congr q i fun j h1 h2 => h j h1 (by simp only [leaves, List.length_append]; omega)) (bagQ_congr r _ fun j h1 h2 => h j (by omega) (by simp only [leaves, List.length_append]; omega))
  | .dist q, i, h => by simp only [bagQ]; rw [distB_eqv (bagQ_congr q i h)]; exact Eqv.refl _
  | .grp _ _ q, i, h => by simp only [bagQ]; rw [grpB_eqv (bagQ_congr q i h)]; exact Eqv.refl _
theorem bagT_congr {f g : List UInt8 → Bag} : ∀ (q : Q), (∀ nm ∈ leaves q, Eqv (f nm) (g nm)) → Eqv (bagT f q) (bagT g q)
  | .tab nm, h => h nm (by simp [leaves])
  | .sel _ _ _ q, h => selB_eqv (bagT_congr q h)
  | .pick _ q, h => pickB_eqv (bagT_congr q h)
  | .join _ _ q r, h => joinB_eqv (bagT_congr q fun j h1 => h j (by simp [leaves, h1])) (bagT_congr r fun j h1 => h j (by simp [leaves, h1]))
  | .uni q r, h => Eqv.append (bagT_congr q fun j h1 => h j (by simp [leaves, h1])) (bagT_congr r fun j h1 => h j (by simp [leaves, h1]))
  | .dist q, h => by simp only [bagT]; rw [distB_eqv (bagT_congr q h)]; exact Eqv.refl _
  | .grp _ _ q, h => by simp only [bagT]; rw [grpB_eqv (bagT_congr q h)]; exact Eqv.refl _
/-- If each leaf has its table's bag, the query's bag is that from the tables. -/
theorem bagQ_bagT {f : Nat → Bag} {g : List UInt8 → Bag} : ∀ (q : Q) (i : Nat), (∀ j nm, (leaves q)[j]? = some nm → Eqv (f (i + j)) (g nm)) → Eqv (bagQ f i q) (bagT g q)
  | .tab nm, i, h => h 0 nm rfl
  | .sel _ _ _ q, i, h => selB_eqv (bagQ_bagT q i h)
  | .pick _ q, i, h => pickB_eqv (bagQ_bagT q i h)
  | .join _ _ q r, i, h => joinB_eqv
      (bagQ_bagT q i fun j nm hj => h j nm (by simp only [leaves]; rw [List.getElem?_append_left (List.getElem?_eq_some_iff.1 hj).1]; exact hj))
      (bagQ_bagT r _ fun j nm hj => by have := h ((leaves q).length + j) nm (by simp only [leaves]; rw [List.getElem?_append_right (by omega), Nat.add_sub_cancel_left]; exact hj); rw [Nat.add_assoc]; exact this)
  | .uni q r, i, h => Eqv.append
      (bagQ_bagT q i fun j nm hj => h j nm (by simp only [leaves]; rw [List.getElem?_append_left (List.getElem?_eq_some_iff.1 hj).1]; exact hj))
      (bagQ_bagT r _ fun j nm hj => by have := h ((leaves q).length + j) nm (by simp only [leaves]; rw [List.getElem?_append_right (by omega), Nat.add_sub_cancel_left]; exact hj); rw [Nat.add_assoc]; exact this)
  | .dist q, i, h => by simp only [bagQ, bagT]; rw [distB_eqv (bagQ_bagT q i h)]; exact Eqv.refl _
  | .grp _ _ q, i, h => by simp only [bagQ, bagT]; rw [grpB_eqv (bagQ_bagT q i h)]; exact Eqv.refl _

/-! ### never less than no times, and how much there can be -/
theorem bagQ_nn {f : Nat → Bag} (hf : ∀ i, nn (f i)) : ∀ (q : Q) (i : Nat), nn (bagQ f i q)
  | .tab _, i => hf i
  | .sel _ _ _ q, i => selB_nn (bagQ_nn hf q i)
  | .pick _ q, i => pickB_nn (bagQ_nn hf q i)
  | .join _ _ q r, i => joinB_nn (bagQ_nn hf q i) (bagQ_nn hf r _)
  | .uni q r, i => append_nn (bagQ_nn hf q i) (bagQ_nn hf r _)
  | .dist _, _ => distB_nn _
  | .grp _ _ _, _ => grpB_nn _ _ _
def bN (T : Int) : Q → Int
  | .tab _ => T
  | .sel _ _ _ q => bN T q
  | .pick _ q => bN T q
  | .join _ _ q r => bN T q * bN T r
  | .uni q r => bN T q + bN T r
  | .dist q => bN T q
  | .grp _ _ q => bN T q
def bW (T : Int) : Q → Int
  | .tab _ => 10000 * T
  | .sel _ _ _ q => bW T q
  | .pick _ q => bW T q
  | .join _ _ q r => bN T r * bW T q + bN T q * bW T r
  | .uni q r => bW T q + bW T r
  | .dist q => bW T q
  | .grp _ _ q => bW T q
theorem bN_nn {T : Int} (hT : 0 ≤ T) : ∀ q, 0 ≤ bN T q
  | .tab _ => hT
  | .sel _ _ _ q => bN_nn hT q
  | .pick _ q => bN_nn hT q
  | .join _ _ q r => Int.mul_nonneg (bN_nn hT q) (bN_nn hT r)
  | .uni q r => Int.add_nonneg (bN_nn hT q) (bN_nn hT r)
  | .dist q => bN_nn hT q
  | .grp _ _ q => bN_nn hT q
theorem bW_nn {T : Int} (hT : 0 ≤ T) : ∀ q, 0 ≤ bW T q
  | .tab _ => by simp only [bW]; omega
  | .sel _ _ _ q => bW_nn hT q
  | .pick _ q => bW_nn hT q
  | .join _ _ q r => Int.add_nonneg (Int.mul_nonneg (bN_nn hT r) (bW_nn hT q)) (Int.mul_nonneg (bN_nn hT q) (bW_nn hT r))
  | .uni q r => Int.add_nonneg (bW_nn hT q) (bW_nn hT r)
  | .dist q => bW_nn hT q
  | .grp _ _ q => bW_nn hT q
theorem mul_le {a b c d : Int} (h : a ≤ c) (k : b ≤ d) (ha : 0 ≤ b) (hc : 0 ≤ c) : a * b ≤ c * d :=
  Int.le_trans (Int.mul_le_mul_of_nonneg_right h ha) (Int.mul_le_mul_of_nonneg_left k hc)
/-- Leaves that have at most T rows, of numbers of at most four digits. -/
structure Small (f : Nat → Bag) (T : Int) : Prop where
  nn : ∀ i, Mo.nn (f i)
  rows : ∀ i, Nr (f i) ≤ T
  wts : ∀ i, Wt (f i) ≤ 10000 * T
theorem bagQ_bN {f : Nat → Bag} {T : Int} (h : Small f T) (hT : 0 ≤ T) : ∀ (q : Q) (i : Nat), Nr (bagQ f i q) ≤ bN T q
  | .tab _, i => h.rows i
  | .sel _ _ _ q, i => Int.le_trans (selB_Nr (bagQ_nn h.nn q i)) (bagQ_bN h hT q i)
  | .pick _ q, i => by simp only [bagQ, pickB_Nr]; exact bagQ_bN h hT q i
  | .join _ _ q r, i => Int.le_trans (joinB_Nr (bagQ_nn h.nn q i) (bagQ_nn h.nn r _)) (mul_le (bagQ_bN h hT q i) (bagQ_bN h hT r _) (Nr_nn (bagQ_nn h.nn r _)) (bN_nn hT q))
  | .uni q r, i => by simp only [bagQ, append_Nr]; exact Int.add_le_add (bagQ_bN h hT q i) (bagQ_bN h hT r _)
  | .dist q, i => Int.le_trans (distB_Nr (bagQ_nn h.nn q i)) (bagQ_bN h hT q i)
  | .grp _ _ q, i => Int.le_trans (grpB_Nr (bagQ_nn h.nn q i)) (bagQ_bN h hT q i)
theorem bagQ_bW {f : Nat → Bag} {T : Int} (h : Small f T) (hT : 0 ≤ T) : ∀ (q : Q) (i : Nat), Wt (bagQ f i q) ≤ bW T q
  | .tab _, i => h.wts i
  | .sel _ _ _ q, i => Int.le_trans (selB_Wt (bagQ_nn h.nn q i)) (bagQ_bW h hT q i)
  | .pick _ q, i => Int.le_trans (pickB_Wt (bagQ_nn h.nn q i)) (bagQ_bW h hT q i)
  | .join _ _ q r, i => Int.le_trans (joinB_Wt (bagQ_nn h.nn q i) (bagQ_nn h.nn r _))
      (Int.add_le_add (mul_le (bagQ_bN h hT r _) (bagQ_bW h hT q i) (Wt_nn (bagQ_nn h.nn q i)) (bN_nn hT r)) (mul_le (bagQ_bN h hT q i) (bagQ_bW h hT r _) (Wt_nn (bagQ_nn h.nn r _)) (bN_nn hT q)))
  | .uni q r, i => by simp only [bagQ, append_Wt]; exact Int.add_le_add (bagQ_bW h hT q i) (bagQ_bW h hT r _)
  | .dist q, i => Int.le_trans (distB_Wt (bagQ_nn h.nn q i)) (bagQ_bW h hT q i)
  | .grp _ _ q, i => Int.le_trans (grpB_Wt (bagQ_nn h.nn q i)) (bagQ_bW h hT q i)

/-! ### the bounds, closed: B is at least 1, and T times the leaves is at most B -/
def pw (B : Int) : Nat → Int
  | 0 => 1
  | n + 1 => B * pw B n
theorem pw_pos {B : Int} (hB : 1 ≤ B) : ∀ n, 1 ≤ pw B n
  | 0 => Int.le_refl _
  | n + 1 => by
    have h1 := pw_pos hB n
    have h2 := Int.mul_le_mul_of_nonneg_right hB (show 0 ≤ pw B n by omega)
    simp only [pw]; omega
theorem pw_add (B : Int) (a b : Nat) : pw B (a + b) = pw B a * pw B b := by
  induction a with
  | zero => simp [pw]
  | succ a ih => rw [Nat.add_right_comm]; simp only [pw]; rw [ih, Int.mul_assoc]
theorem pw_mono {B : Int} (hB : 1 ≤ B) {a b : Nat} (h : a ≤ b) : pw B a ≤ pw B b := by
  obtain ⟨c, rfl⟩ := Nat.exists_eq_add_of_le h
  rw [pw_add]
  have h1 := pw_pos hB a
  have h2 := Int.mul_le_mul_of_nonneg_left (pw_pos hB c) (show 0 ≤ pw B a by omega)
  omega
/-- With T rows at each leaf: no more than the leaves' number times T, times B for each join. -/
theorem bN_le {T B : Int} (hT : 1 ≤ T) : ∀ (q : Q), T * (leaves q).length ≤ B → bN T q ≤ (leaves q).length * T * pw B (joins q)
  | .tab _, h => by simp [bN, leaves, joins, pw]
  | .sel _ _ _ q, h => bN_le hT q h
  | .pick _ q, h => bN_le hT q h
  | .dist q, h => bN_le hT q h
  | .grp _ _ q, h => bN_le hT q h
  | .uni q r, h => by
    have hB : 1 ≤ B := by
      have := leaves_pos (.uni q r)
      have h2 : T * 1 ≤ T * ((leaves (.uni q r)).length : Int) := Int.mul_le_mul_of_nonneg_left (by omega) (by omega)
      omega
    simp only [leaves, List.length_append, Int.natCast_add, Int.mul_add] at h
    have z1 : 0 ≤ T * ((leaves q).length : Int) := Int.mul_nonneg (by omega) (by omega)
    have z2 : 0 ≤ T * ((leaves r).length : Int) := Int.mul_nonneg (by omega) (by omega)
    have h1 := bN_le (B := B) hT q (by omega)
    have h2 := bN_le (B := B) hT r (by omega)
    have m1 : ((leaves q).length : Int) * T * pw B (joins q) ≤ ((leaves q).length : Int) * T * pw B (joins q + joins r) := Int.mul_le_mul_of_nonneg_left (pw_mono hB (by omega)) (by rw [Int.mul_comm]; exact z1)
    have m2 : ((leaves r).length : Int) * T * pw B (joins r) ≤ ((leaves r).length : Int) * T * pw B (joins q + joins r) := Int.mul_le_mul_of_nonneg_left (pw_mono hB (by omega)) (by rw [Int.mul_comm]; exact z2)
    simp only [bN, leaves, joins, List.length_append, Int.natCast_add, Int.add_mul]
    omega
  | .join n m q r, h => by
    have hB : 1 ≤ B := by
      have := leaves_pos (.join n m q r)
      have h2 : T * 1 ≤ T * ((leaves (.join n m q r)).length : Int) := Int.mul_le_mul_of_nonneg_left (by omega) (by omega)
      omega
    simp only [leaves, List.length_append, Int.natCast_add, Int.mul_add] at h
    have z1 : 0 ≤ T * ((leaves q).length : Int) := Int.mul_nonneg (by omega) (by omega)
    have z2 : 0 ≤ T * ((leaves r).length : Int) := Int.mul_nonneg (by omega) (by omega)
    have h1 := bN_le (B := B) hT q (by omega)
    have h2 := bN_le (B := B) hT r (by omega)
    have p1 := pw_pos hB (joins q)
    have p2 := pw_pos hB (joins r)
    have e1 : ((leaves q).length : Int) * T = T * (leaves q).length := Int.mul_comm _ _
    have e2 : ((leaves r).length : Int) * T = T * (leaves r).length := Int.mul_comm _ _
    -- the first side by its leaves, the second by B
    have h3 : bN T r ≤ B * pw B (joins r) := Int.le_trans h2 (Int.mul_le_mul_of_nonneg_right (by omega) (by omega))
    have h4 := mul_le h1 h3 (bN_nn (by omega) r) (Int.mul_nonneg (by omega) (by omega))
    have h5 : ((leaves q).length : Int) * T * pw B (joins q) * (B * pw B (joins r)) = ((leaves q).length : Int) * T * pw B (joins q + joins r + 1) := by
      have : pw B (joins q + joins r + 1) = B * (pw B (joins q) * pw B (joins r)) := by simp only [pw, pw_add]
      rw [this, Int.mul_assoc, Int.mul_assoc, Int.mul_left_comm (pw B (joins q)) B, Int.mul_assoc]
    have h6 : 0 ≤ ((leaves r).length : Int) * T * pw B (joins q + joins r + 1) := Int.mul_nonneg (by omega) (by have := pw_pos hB (joins q + joins r + 1); omega)
    simp only [bN, leaves, joins, List.length_append, Int.natCast_add, Int.add_mul]
    omega
theorem bW_le {T B : Int} (hT : 1 ≤ T) : ∀ (q : Q), T * (leaves q).length ≤ B → bW T q ≤ 10000 * ((joins q : Int) + 1) * ((leaves q).length * T * pw B (joins q))
  | .tab _, _ => by simp [bW, leaves, joins, pw]
  | .sel _ _ _ q, h => bW_le hT q h
  | .pick _ q, h => bW_le hT q h
  | .dist q, h => bW_le hT q h
  | .grp _ _ q, h => bW_le hT q h
  | .uni q r, h => by
    have hB : 1 ≤ B := by
      have := leaves_pos (.uni q r)
      have h2 : T * 1 ≤ T * ((leaves (.uni q r)).length : Int) := Int.mul_le_mul_of_nonneg_left (by omega) (by omega)
      omega
    simp only [leaves, List.length_append, Int.natCast_add, Int.mul_add] at h
    have z1 : 0 ≤ T * ((leaves q).length : Int) := Int.mul_nonneg (by omega) (by omega)
    have z2 : 0 ≤ T * ((leaves r).length : Int) := Int.mul_nonneg (by omega) (by omega)
    have h1 := bW_le (B := B) hT q (by omega)
    have h2 := bW_le (B := B) hT r (by omega)
    have m1 : ((leaves q).length : Int) * T * pw B (joins q) ≤ ((leaves q).length : Int) * T * pw B (joins q + joins r) := Int.mul_le_mul_of_nonneg_left (pw_mono hB (by omega)) (by rw [Int.mul_comm]; exact z1)
    have m2 : ((leaves r).length : Int) * T * pw B (joins r) ≤ ((leaves r).length : Int) * T * pw B (joins q + joins r) := Int.mul_le_mul_of_nonneg_left (pw_mono hB (by omega)) (by rw [Int.mul_comm]; exact z2)
    have p0 := pw_pos hB (joins q)
    have p1 := pw_pos hB (joins r)
    have y1 : 0 ≤ ((leaves q).length : Int) * T * pw B (joins q) := Int.mul_nonneg (by rw [Int.mul_comm]; exact z1) (by omega)
    have y2 : 0 ≤ ((leaves r).length : Int) * T * pw B (joins r) := Int.mul_nonneg (by rw [Int.mul_comm]; exact z2) (by omega)
    have k1 : bW T q ≤ 10000 * ((joins q + joins r : Int) + 1) * (((leaves q).length : Int) * T * pw B (joins q + joins r)) := Int.le_trans h1 (mul_le (by omega) m1 y1 (by omega))
    have k2 : bW T r ≤ 10000 * ((joins q + joins r : Int) + 1) * (((leaves r).length : Int) * T * pw B (joins q + joins r)) := Int.le_trans h2 (mul_le (by omega) m2 y2 (by omega))
    have e : 10000 * (((joins (.uni q r) : Nat) : Int) + 1) * (((leaves (.uni q r)).length : Int) * T * pw B (joins (.uni q r))) = 10000 * ((joins q + joins r : Int) + 1) * (((leaves q).length : Int) * T * pw B (joins q + joins r)) + 10000 * ((joins q + joins r : Int) + 1) * (((leaves r).length : Int) * T * pw B (joins q + joins r)) := by
      rw [← Int.mul_add, ← Int.add_mul, ← Int.add_mul]; simp only [leaves, joins, List.length_append, Int.natCast_add]
    rw [e]
    exact Int.add_le_add k1 k2
  | .join n m q r, h => by
    have hB : 1 ≤ B := by
      have := leaves_pos (.join n m q r)
      have h2 : T * 1 ≤ T * ((leaves (.join n m q r)).length : Int) := Int.mul_le_mul_of_nonneg_left (by omega) (by omega)
      omega
    simp only [leaves, List.length_append, Int.natCast_add, Int.mul_add] at h
    have z1 : 0 ≤ T * ((leaves q).length : Int) := Int.mul_nonneg (by omega) (by omega)
    have z2 : 0 ≤ T * ((leaves r).length : Int) := Int.mul_nonneg (by omega) (by omega)
    have h1 := bW_le (B := B) hT q (by omega)
    have h2 := bW_le (B := B) hT r (by omega)
    have n1 := bN_le (B := B) hT q (by omega)
    have n2 := bN_le (B := B) hT r (by omega)
    have p0 := pw_pos hB (joins q)
    have p1 := pw_pos hB (joins r)
    have e1 : ((leaves q).length : Int) * T = T * (leaves q).length := Int.mul_comm _ _
    have e2 : ((leaves r).length : Int) * T = T * (leaves r).length := Int.mul_comm _ _
    have b1 : bN T q ≤ B * pw B (joins q) := Int.le_trans n1 (Int.mul_le_mul_of_nonneg_right (by omega) (by omega))
    have b2 : bN T r ≤ B * pw B (joins r) := Int.le_trans n2 (Int.mul_le_mul_of_nonneg_right (by omega) (by omega))
    have k1 := mul_le b2 h1 (bW_nn (by omega) q) (Int.mul_nonneg (by omega) (by omega))
    have k2 := mul_le b1 h2 (bW_nn (by omega) r) (Int.mul_nonneg (by omega) (by omega))
    have s1 : B * pw B (joins r) * (10000 * ((joins q : Int) + 1) * ((leaves q).length * T * pw B (joins q))) = 10000 * ((joins q : Int) + 1) * ((leaves q).length * T * pw B (joins q + joins r + 1)) := by
      have : pw B (joins q + joins r + 1) = B * (pw B (joins q) * pw B (joins r)) := by simp only [pw, pw_add]
      rw [this]; ac_rfl
    have s2 : B * pw B (joins q) * (10000 * ((joins r : Int) + 1) * ((leaves r).length * T * pw B (joins r))) = 10000 * ((joins r : Int) + 1) * ((leaves r).length * T * pw B (joins q + joins r + 1)) := by
      have : pw B (joins q + joins r + 1) = B * (pw B (joins q) * pw B (joins r)) := by simp only [pw, pw_add]
      rw [this]; ac_rfl
    rw [s1] at k1
    rw [s2] at k2
    have p3 := pw_pos hB (joins q + joins r + 1)
    have y1 : 0 ≤ ((leaves q).length : Int) * T * pw B (joins q + joins r + 1) := Int.mul_nonneg (by omega) (by omega)
    have y2 : 0 ≤ ((leaves r).length : Int) * T * pw B (joins q + joins r + 1) := Int.mul_nonneg (by omega) (by omega)
    have k3 := Int.le_trans k1 (mul_le (c := 10000 * ((joins q + joins r + 1 : Int) + 1)) (by omega) (Int.le_refl _) y1 (by omega))
    have k4 := Int.le_trans k2 (mul_le (c := 10000 * ((joins q + joins r + 1 : Int) + 1)) (by omega) (Int.le_refl _) y2 (by omega))
    have e : 10000 * (((joins (.join n m q r) : Nat) : Int) + 1) * (((leaves (.join n m q r)).length : Int) * T * pw B (joins (.join n m q r))) = 10000 * ((joins q + joins r + 1 : Int) + 1) * (((leaves q).length : Int) * T * pw B (joins q + joins r + 1)) + 10000 * ((joins q + joins r + 1 : Int) + 1) * (((leaves r).length : Int) * T * pw B (joins q + joins r + 1)) := by
      rw [← Int.mul_add, ← Int.add_mul, ← Int.add_mul]; simp only [leaves, joins, List.length_append, Int.natCast_add, Int.natCast_one]
    rw [e]
    exact Int.add_le_add k3 k4
/-- A query that may be a view, of tables that have up to T (120) rows each while they change: everything is far from 2^63. -/
theorem bound (q : Q) (hl : (leaves q).length ≤ 120) (hj : joins q ≤ 2) {f : Nat → Bag} (h : Small f 120) (i : Nat) : Nr (bagQ f i q) ≤ 3000000000000 ∧ Wt (bagQ f i q) ≤ 90000000000000000 := by
  have hp : pw 14400 (joins q) ≤ 14400 * 14400 := by
    have := pw_mono (B := 14400) (by omega) hj
    simpa [pw] using this
  have hp0 := pw_pos (B := 14400) (by omega) (joins q)
  have h1 := Int.le_trans (bagQ_bN h (by omega) q i) (bN_le (B := 14400) (by omega) q (by omega))
  have h2 := Int.le_trans (bagQ_bW h (by omega) q i) (bW_le (B := 14400) (by omega) q (by omega))
  have k1 : ((leaves q).length : Int) * 120 * pw 14400 (joins q) ≤ 14400 * (14400 * 14400) := mul_le (by omega) hp (by omega) (by omega)
  have y1 : 0 ≤ ((leaves q).length : Int) * 120 * pw 14400 (joins q) := Int.mul_nonneg (by omega) (by omega)
  have k2 := mul_le (a := 10000 * ((joins q : Int) + 1)) (c := 30000) (by omega) k1 y1 (by omega)
  constructor
  · omega
  · omega
end Go.Proofs.YtdinjjmcmfjbfaaDoor.Mo
