/-
  Queries: their bags by leaves, their types; how large counts and numbers can be.
-/
import Derived.Test.YtdinjjmcmfjbfaaDoorQm
namespace Go.Proofs.YtdinjjmcmfjbfaaDoor.Mo

/-! ### the weight of a row: the largest number in it, at least 1 -/
def wv : V → Int
  | .num n => n.natAbs
  | .txt _ => 0
def wt : Row → Int
  | [] => 1
  | v :: r => max (wv v) (wt r)
theorem wv_nn (v : V) : 0 ≤ wv v := by cases v <;> simp [wv]
theorem wt_pos (r : Row) : 1 ≤ wt r := by
  induction r with
  | nil => exact Int.le_refl _
  | cons v r ih => simp only [wt]; omega
theorem wt_nn (r : Row) : 0 ≤ wt r := by have := wt_pos r; omega
theorem wv_le {v : V} {r : Row} (h : v ∈ r) : wv v ≤ wt r := by
  induction r with
  | nil => cases h
  | cons x r ih =>
    simp only [wt]
    rcases List.mem_cons.1 h with rfl | h
    · omega
    · have := ih h; omega
theorem wt_le {r : Row} {b : Int} (h1 : 1 ≤ b) (h : ∀ v ∈ r, wv v ≤ b) : wt r ≤ b := by
  induction r with
  | nil => exact h1
  | cons x r ih => simp only [wt]; have := h x (by simp); have := ih (fun v hv => h v (by simp [hv])); omega
theorem wt_append (r s : Row) : wt (r ++ s) ≤ wt r + wt s := by
  refine wt_le (by have := wt_pos r; have := wt_pos s; omega) fun v hv => ?_
  have := wt_pos r
  have := wt_pos s
  rcases List.mem_append.1 hv with h | h
  · have := wv_le h; omega
  · have := wv_le h; omega
theorem colR_wt (r : Row) (c : Nat) : wv (colR r c) ≤ wt r := by
  unfold colR
  rw [List.getD_eq_getElem?_getD]
  cases h : r[c]? with
  | none => have := wt_pos r; simp [wv]; omega
  | some v => simp; exact wv_le (List.mem_of_getElem? h)
theorem pickR_wt (cs : List Nat) (r : Row) : wt (pickR cs r) ≤ wt r := by
  refine wt_le (wt_pos r) fun v hv => ?_
  obtain ⟨c, _, rfl⟩ := List.mem_map.1 hv
  exact colR_wt r c
theorem sv_wt (s : Option Nat) (r : Row) : -wt r ≤ sv s r ∧ sv s r ≤ wt r := by
  have h1 := wt_pos r
  cases s with
  | none => simp only [sv]; omega
  | some m =>
    have h := colR_wt r m
    simp only [sv]
    cases hc : colR r m with
    | num n => rw [hc] at h; simp only [wv, numV] at *; omega
    | txt t => simp only [numV]; omega

/-! ### how many rows there are, and all weights together -/
def Nr (l : Bag) : Int := lin l (fun _ => 1)
def Wt (l : Bag) : Int := lin l wt
theorem Nr_nn {l : Bag} (h : nn l) : 0 ≤ Nr l := lin_nn h fun _ => by omega
theorem Wt_nn {l : Bag} (h : nn l) : 0 ≤ Wt l := lin_nn h wt_nn
theorem Nr_le_Wt {l : Bag} (h : nn l) : Nr l ≤ Wt l := lin_mono h wt_pos
theorem cnt_le_Nr {l : Bag} (h : nn l) (r : Row) : cnt l r ≤ Nr l := by rw [cnt_eq_lin]; exact lin_mono h fun x => by split <;> omega
theorem mem_le_Wt {l : Bag} (h : nn l) {e : Row × Int} (he : e ∈ canon l) {v : V} (hv : v ∈ e.1) : wv v ≤ Wt l :=
  Int.le_trans (wv_le hv) (lin_term h wt_nn he)
theorem len_le_Nr {l : Bag} (h : nn l) : ((canon l).length : Int) ≤ Nr l := by
  unfold Nr
  rw [← canon_lin]
  have key : ∀ {m : Bag}, (∀ x ∈ m, 1 ≤ x.2) → (m.length : Int) ≤ lin m (fun _ => 1) := by
    intro m hm
    induction m with
    | nil => exact Int.le_refl _
    | cons y m ih =>
      have := hm y (by simp)
      have := ih (fun x hx => hm x (by simp [hx]))
      simp only [lin, List.length_cons]; omega
  exact key fun x hx => nn_mem h hx
theorem Nr_eqv {l m : Bag} (h : Eqv l m) : Nr l = Nr m := h.lin _
theorem Wt_eqv {l m : Bag} (h : Eqv l m) : Wt l = Wt m := h.lin _
theorem selB_Nr {p : Row → Bool} {l : Bag} (h : nn l) : Nr (selB p l) ≤ Nr l := by unfold Nr; rw [selB_lin]; exact lin_mono h fun r => by split <;> omega
theorem selB_Wt {p : Row → Bool} {l : Bag} (h : nn l) : Wt (selB p l) ≤ Wt l := by
  unfold Wt; rw [selB_lin]; exact lin_mono h fun r => by have := wt_nn r; split <;> omega
theorem pickB_Nr (cs : List Nat) (l : Bag) : Nr (pickB cs l) = Nr l := pickB_lin _ _ _
theorem pickB_Wt {cs : List Nat} {l : Bag} (h : nn l) : Wt (pickB cs l) ≤ Wt l := by unfold Wt; rw [pickB_lin]; exact lin_mono h fun r => pickR_wt cs r
theorem append_Nr (a b : Bag) : Nr (a ++ b) = Nr a + Nr b := lin_append _ _ _
theorem append_Wt (a b : Bag) : Wt (a ++ b) = Wt a + Wt b := lin_append _ _ _
theorem lin_const (l : Bag) (c : Int) : lin l (fun _ => c) = c * Nr l := by
  have := lin_mul l c (fun _ => 1); simp only [Int.mul_one] at this; exact this
theorem joinB_Nr {n m : Nat} {a b : Bag} (h : nn a) (k : nn b) : Nr (joinB n m a b) ≤ Nr a * Nr b := by
  unfold Nr; rw [joinB_lin]
  have h1 : lin a (fun x => lin b (fun y => if decide (colR x n = colR y m) = true then 1 else 0)) ≤ lin a (fun _ => Nr b) := lin_mono h fun x => lin_mono k fun y => by split <;> omega
  rw [lin_const, Int.mul_comm] at h1; exact h1
theorem joinB_Wt {n m : Nat} {a b : Bag} (h : nn a) (k : nn b) : Wt (joinB n m a b) ≤ Nr b * Wt a + Nr a * Wt b := by
  unfold Wt; rw [joinB_lin]
  have h1 : lin a (fun x => lin b (fun y => if decide (colR x n = colR y m) = true then wt (x ++ y) else 0)) ≤ lin a (fun x => Nr b * wt x + Wt b) := by
    refine lin_mono h fun x => ?_
    have h2 : lin b (fun y => if decide (colR x n = colR y m) = true then wt (x ++ y) else 0) ≤ lin b (fun y => wt x + wt y) := lin_mono k fun y => by
      have := wt_append x y
      have := wt_nn x
      have := wt_nn y
      split <;> omega
    rw [lin_add, lin_const, Int.mul_comm] at h2
    exact h2
  rw [lin_add, lin_mul, lin_const, Int.mul_comm (Wt b)] at h1
  exact h1
theorem ones_le {l : Bag} (h : nn l) {g : Row → Int} (hg : ∀ r, 0 ≤ g r) : lin ((canon l).map fun e => (e.1, 1)) g ≤ lin l g := by
  rw [← canon_lin l g]
  have key : ∀ {m : Bag}, (∀ x ∈ m, 1 ≤ x.2) → lin (m.map fun e => (e.1, 1)) g ≤ lin m g := by
    intro m hm
    induction m with
    | nil => exact Int.le_refl _
    | cons y m ih =>
      have h1 := Int.mul_le_mul_of_nonneg_right (hm y (by simp)) (hg y.1)
      have h2 := ih (fun x hx => hm x (by simp [hx]))
      simp only [List.map_cons, lin]; omega
  exact key fun x hx => nn_mem h hx
theorem distB_Nr {l : Bag} (h : nn l) : Nr (distB l) ≤ Nr l := ones_le h fun _ => by omega
theorem distB_Wt {l : Bag} (h : nn l) : Wt (distB l) ≤ Wt l := ones_le h wt_nn

/-! ### groups -/
theorem Rise.nodup {l : Bag} (h : Rise l) : (l.map (·.1)).Nodup := by
  induction l with
  | nil => simp
  | cons e l ih =>
    rw [List.map_cons, List.nodup_cons]
    refine ⟨fun hm => ?_, ih h.2.2⟩
    obtain ⟨x, hx, he⟩ := List.mem_map.1 hm
    have := h.1 x hx
    rw [he, rlt_sto.irrefl] at this; cases this
theorem lin_pos_mem {l : Bag} {r : Row} (h : cnt l r ≠ 0) : ∃ x ∈ canon l, x.1 = r := by rw [← canon_cnt] at h; exact Rise.mem_of_cnt h
theorem ones_cnt_pos {l : Bag} (f : Row × Int → Row) {r : Row} (h : ∃ e ∈ l, f e = r) : 1 ≤ cnt (l.map fun e => (f e, (1 : Int))) r := by
  induction l with
  | nil => obtain ⟨_, h, _⟩ := h; cases h
  | cons y l ih =>
    have h0 := ones_nn (l := l) f r
    simp only [List.map_cons, cnt]
    obtain ⟨e, he, hr⟩ := h
    rcases List.mem_cons.1 he with rfl | he
    · rw [if_pos hr]; omega
    · have := ih ⟨e, he, hr⟩; split <;> omega
theorem mem_keys {cs : List Nat} {l : Bag} {k : Row × Int} (hk : k ∈ keysB cs l) : ∃ e ∈ canon l, pickR cs e.1 = k.1 := by
  have h1 := (canon_rise _).cnt_mem hk
  have h2 := (canon_rise _).nz hk
  rw [canon_cnt] at h1
  obtain ⟨x, hx, he⟩ := Rise.mem_of_cnt (l := (canon l).map fun e => (pickR cs e.1, (1 : Int))) (r := k.1) (by rw [h1]; exact h2)
  obtain ⟨e, he', rfl⟩ := List.mem_map.1 hx
  exact ⟨e, he', he⟩
theorem keys_mem {cs : List Nat} {l : Bag} {e : Row × Int} (he : e ∈ canon l) : ∃ k ∈ keysB cs l, k.1 = pickR cs e.1 := by
  refine lin_pos_mem ?_
  have := ones_cnt_pos (l := canon l) (fun e => pickR cs e.1) ⟨e, he, rfl⟩
  omega
theorem sum_zero {α : Type} : ∀ {ks : List α} {f : α → Int}, (∀ k ∈ ks, f k = 0) → (ks.map f).sum = 0
  | [], _, _ => rfl
  | k :: ks, f, h => by
    have h1 := h k (by simp)
    have h2 := sum_zero (ks := ks) (f := f) (fun x hx => h x (by simp [hx]))
    simp only [List.map_cons, List.sum_cons]; omega
/-- All groups together are all rows, at most. -/
theorem part_le {cs : List Nat} {l : Bag} (h : nn l) {g : Row → Int} (hg : ∀ r, 0 ≤ g r) : ∀ {ks : List Row}, ks.Nodup → (ks.map fun k => lin l (fun r => if pickR cs r = k then g r else 0)).sum ≤ lin l g := by
  intro ks hks
  have h1 : (ks.map fun k => lin l (fun r => if pickR cs r = k then g r else 0)).sum = lin l (fun r => (ks.map fun k => if pickR cs r = k then g r else 0).sum) := by
    clear hks
    induction ks with
    | nil => simp [lin_zero]
    | cons k ks ih => simp only [List.map_cons, List.sum_cons]; rw [lin_add, ih]
  rw [h1]
  refine lin_mono h fun r => ?_
  clear h1
  induction ks with
  | nil => simpa using hg r
  | cons k ks ih =>
    rw [List.nodup_cons] at hks
    simp only [List.map_cons, List.sum_cons]
    by_cases hr : pickR cs r = k
    · have hz : (ks.map fun k => if pickR cs r = k then g r else 0).sum = 0 := by
        have : ∀ x ∈ ks, (if pickR cs r = x then g r else 0) = 0 := fun x hx => by
          rw [if_neg]; intro e; rw [hr] at e; subst e; exact hks.1 hx
        exact sum_zero this
      rw [if_pos hr, hz]; omega
    · rw [if_neg hr]; have := ih hks.2; omega
theorem lin_ones_map (ks : Bag) (f : Row × Int → Row) (g : Row → Int) : lin (ks.map fun k => (f k, 1)) g = (ks.map fun k => g (f k)).sum := by
  induction ks with
  | nil => rfl
  | cons k ks ih => simp only [List.map_cons, lin, List.sum_cons, ih]; omega
theorem sum_le {α : Type} : ∀ {ks : List α} {f g : α → Int}, (∀ k ∈ ks, f k ≤ g k) → (ks.map f).sum ≤ (ks.map g).sum
  | [], _, _, _ => Int.le_refl _
  | k :: ks, f, g, h => by
    have h1 := h k (by simp)
    have h2 := sum_le (ks := ks) (f := f) (g := g) (fun x hx => h x (by simp [hx]))
    simp only [List.map_cons, List.sum_cons]; omega
theorem grp_bound {cs : List Nat} {s : Option Nat} {l : Bag} (h : nn l) {G g : Row → Int} (hg : ∀ r, 0 ≤ g r) (hG : ∀ k ∈ keysB cs l, G (k.1 ++ [.num (grpN cs s l k.1)]) ≤ lin l (fun r => if pickR cs r = k.1 then g r else 0)) : lin (grpB cs s l) G ≤ lin l g := by
  unfold grpB
  rw [lin_ones_map]
  refine Int.le_trans (sum_le hG) ?_
  have := part_le (cs := cs) h hg (canon_rise ((canon l).map fun e => (pickR cs e.1, (1 : Int)))).nodup
  rw [List.map_map] at this
  exact this
theorem grp_one {cs : List Nat} {l : Bag} (h : nn l) {g : Row → Int} (hg : ∀ r, 0 ≤ g r) {k : Row × Int} (hk : k ∈ keysB cs l) : ∃ r, pickR cs r = k.1 ∧ g r ≤ lin l (fun r => if pickR cs r = k.1 then g r else 0) := by
  obtain ⟨e, he, hp⟩ := mem_keys hk
  refine ⟨e.1, hp, ?_⟩
  have := lin_term h (g := fun r => if pickR cs r = k.1 then g r else 0) (fun r => by split; exact hg r; exact Int.le_refl _) he
  simp only [if_pos hp] at this
  exact this
theorem grpB_Nr {cs : List Nat} {s : Option Nat} {l : Bag} (h : nn l) : Nr (grpB cs s l) ≤ Nr l :=
  grp_bound h (fun _ => by omega) fun k hk => by obtain ⟨r, _, h1⟩ := grp_one (g := fun _ => 1) h (fun _ => by omega) hk; exact h1
theorem grpN_le {cs : List Nat} {s : Option Nat} {l : Bag} (h : nn l) (k : Row) : -lin l (fun r => if pickR cs r = k then wt r else 0) ≤ grpN cs s l k ∧ grpN cs s l k ≤ lin l (fun r => if pickR cs r = k then wt r else 0) := by
  constructor
  · have h1 := lin_mono h (g := fun r => (-1) * (if pickR cs r = k then wt r else 0)) (k := fun r => if pickR cs r = k then sv s r else 0) fun r => by have := sv_wt s r; split <;> omega
    rw [lin_mul] at h1
    unfold grpN; omega
  · exact lin_mono h fun r => by have := sv_wt s r; split <;> omega
theorem grpB_Wt {cs : List Nat} {s : Option Nat} {l : Bag} (h : nn l) : Wt (grpB cs s l) ≤ Wt l :=
  grp_bound h wt_nn fun k hk => by
    obtain ⟨r, hr, h1⟩ := grp_one (g := wt) h wt_nn hk
    have h2 := grpN_le (cs := cs) (s := s) h k.1
    have h3 := wt_pos r
    refine wt_le (by omega) fun v hv => ?_
    rcases List.mem_append.1 hv with hv | hv
    · rw [← hr] at hv
      exact Int.le_trans (Int.le_trans (wv_le hv) (pickR_wt cs r)) (hr ▸ h1)
    · simp at hv; subst hv
      simp only [wv]; omega
end Go.Proofs.YtdinjjmcmfjbfaaDoor.Mo
