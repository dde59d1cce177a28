/-
  The plain model: values, rows, and bags: lists of rows and numbers of times, told apart by each row's sum alone; and such a list in order.
-/
namespace Go.Proofs.YtdinjjmcmfjbfaaDoor.Mo

/-! ### strict total orders, and lists compared by their first parts that differ -/
structure STO {α : Type} (lt : α → α → Bool) : Prop where
  irrefl : ∀ a, lt a a = false
  trans : ∀ a b c, lt a b = true → lt b c = true → lt a c = true
  tri : ∀ a b, lt a b = false → lt b a = false → a = b

theorem STO.asymm {α : Type} {lt : α → α → Bool} (h : STO lt) {a b : α} (hab : lt a b = true) : lt b a = false := by
  cases hb : lt b a
  · rfl
  · have := h.trans a b a hab hb; rw [h.irrefl] at this; cases this
theorem STO.ne {α : Type} {lt : α → α → Bool} (h : STO lt) {a b : α} (hab : lt a b = true) : a ≠ b := by
  intro e; subst e; rw [h.irrefl] at hab; cases hab

def lexlt {α : Type} [DecidableEq α] (lt : α → α → Bool) : List α → List α → Bool
  | _, [] => false
  | [], _ :: _ => true
  | a :: s, b :: t => if a = b then lexlt lt s t else lt a b

theorem lexlt_sto {α : Type} [DecidableEq α] {lt : α → α → Bool} (h : STO lt) : STO (lexlt lt) := by
  refine ⟨fun l => ?_, fun a => ?_, fun a => ?_⟩
  · induction l with
    | nil => rfl
    | cons a s ih => simp [lexlt, ih]
  · induction a with
    | nil => intro b c hab hbc; cases b <;> cases c <;> simp_all [lexlt]
    | cons x s ih =>
      intro b c hab hbc
      cases b with
      | nil => simp [lexlt] at hab
      | cons y t =>
        cases c with
        | nil => simp [lexlt] at hbc
        | cons z u =>
          simp only [lexlt] at hab hbc ⊢
          by_cases hxy : x = y
          · subst hxy
            simp at hab
            by_cases hxz : x = z
            · subst hxz; simp at hbc ⊢; exact ih t u hab hbc
            · simp [hxz] at hbc ⊢; exact hbc
          · simp [hxy] at hab
            by_cases hyz : y = z
            · subst hyz; simp at hbc; simp [hxy, hab]
            · simp [hyz] at hbc
              have h3 := h.trans _ _ _ hab hbc
              have hxz : x ≠ z := h.ne h3
              simp [hxz, h3]
  · induction a with
    | nil => intro b h1 h2; cases b <;> simp_all [lexlt]
    | cons x s ih =>
      intro b h1 h2
      cases b with
      | nil => simp [lexlt] at h2
      | cons y t =>
        simp only [lexlt] at h1 h2
        by_cases hxy : x = y
        · subst hxy; simp at h1 h2; rw [ih t h1 h2]
        · have hyx : ¬ y = x := fun e => hxy e.symm
          simp [hxy] at h1; simp [hyx] at h2; exact absurd (h.tri _ _ h1 h2) hxy


/-- A value: a number, or a text. -/
inductive V where
  | num (n : Int)
  | txt (s : List UInt8)
  deriving DecidableEq
abbrev Row := List V
def blt (a b : UInt8) : Bool := decide (a.toNat < b.toNat)
theorem blt_sto : STO blt := ⟨fun a => by simp [blt], fun a b c h k => by simp [blt] at *; omega, fun a b h k => by simp only [blt, decide_eq_false_iff_not] at h k; exact UInt8.toNat_inj.1 (by omega)⟩
def vlt : V → V → Bool
  | .num a, .num b => decide (a < b)
  | .num _, .txt _ => true
  | .txt _, .num _ => false
  | .txt s, .txt t => lexlt blt s t
theorem vlt_sto : STO vlt := by
  have hb := lexlt_sto blt_sto
  refine ⟨fun a => ?_, fun a b c h k => ?_, fun a b h k => ?_⟩
  · cases a <;> simp [vlt, hb.irrefl]
  · cases a <;> cases b <;> cases c <;> simp_all [vlt]
    · omega
    · exact hb.trans _ _ _ h k
  · cases a <;> cases b <;> simp_all [vlt]
    · omega
    · exact hb.tri _ _ h k
def rlt : Row → Row → Bool := lexlt vlt
theorem rlt_sto : STO rlt := lexlt_sto vlt_sto
abbrev Bag := List (Row × Int)

/-! ### bags and changes: lists of rows and how many times each; what counts is each row's sum -/

def cnt (l : Bag) (r : Row) : Int := match l with
  | [] => 0
  | e :: l => (if e.1 = r then e.2 else 0) + cnt l r
def lin (l : Bag) (g : Row → Int) : Int := match l with
  | [] => 0
  | e :: l => e.2 * g e.1 + lin l g
/-- The same rows, each as many times. -/
def Eqv (l m : Bag) : Prop := ∀ r, cnt l r = cnt m r

theorem Eqv.refl (l : Bag) : Eqv l l := fun _ => rfl
theorem Eqv.symm {l m : Bag} (h : Eqv l m) : Eqv m l := fun r => (h r).symm
theorem Eqv.trans {l m n : Bag} (h : Eqv l m) (k : Eqv m n) : Eqv l n := fun r => (h r).trans (k r)

theorem cnt_append (l m : Bag) (r : Row) : cnt (l ++ m) r = cnt l r + cnt m r := by
  induction l with
  | nil => simp [cnt]
  | cons e l ih => simp [cnt, ih]; omega
theorem lin_append (l m : Bag) (g : Row → Int) : lin (l ++ m) g = lin l g + lin m g := by
  induction l with
  | nil => simp [lin]
  | cons e l ih => simp [lin, ih]; omega
theorem cnt_eq_lin (l : Bag) (r : Row) : cnt l r = lin l (fun x => if x = r then 1 else 0) := by
  induction l with
  | nil => rfl
  | cons e l ih => simp only [cnt, lin, ih]; split <;> simp
theorem Eqv.append {l l' m m' : Bag} (h : Eqv l l') (k : Eqv m m') : Eqv (l ++ m) (l' ++ m') := fun r => by rw [cnt_append, cnt_append, h r, k r]
def neg (l : Bag) : Bag := l.map fun e => (e.1, -e.2)
theorem cnt_neg (l : Bag) (r : Row) : cnt (neg l) r = - cnt l r := by
  induction l with
  | nil => rfl
  | cons e l ih =>
    have : cnt (neg (e :: l)) r = (if e.1 = r then -e.2 else 0) + cnt (neg l) r := rfl
    rw [this, ih]; simp only [cnt]; split <;> omega
theorem lin_neg (l : Bag) (g : Row → Int) : lin (neg l) g = - lin l g := by
  induction l with
  | nil => rfl
  | cons e l ih =>
    have : lin (neg (e :: l)) g = -e.2 * g e.1 + lin (neg l) g := rfl
    rw [this, ih]; simp only [lin, Int.neg_mul]; omega
theorem lin_add (l : Bag) (g h : Row → Int) : lin l (fun x => g x + h x) = lin l g + lin l h := by
  induction l with
  | nil => rfl
  | cons e l ih => simp only [lin, ih, Int.mul_add]; omega
theorem lin_mul (l : Bag) (c : Int) (g : Row → Int) : lin l (fun x => c * g x) = c * lin l g := by
  induction l with
  | nil => simp [lin]
  | cons e l ih => simp only [lin, ih, Int.mul_add]; rw [Int.mul_left_comm]
theorem lin_zero (l : Bag) : lin l (fun _ => 0) = 0 := by
  induction l with
  | nil => rfl
  | cons e l ih => simp [lin, ih]
theorem lin_congr_fun (l : Bag) {g h : Row → Int} (hgh : ∀ e ∈ l, g e.1 = h e.1) : lin l g = lin l h := by
  induction l with
  | nil => rfl
  | cons e l ih => simp only [lin]; rw [hgh e (by simp), ih fun x hx => hgh x (by simp [hx])]

/-! ### in order -/
/-- To a list that rises one row so many times more (as the document's own 'Add'). -/
def ins (r : Row) (t : Int) : Bag → Bag
  | [] => if t = 0 then [] else [(r, t)]
  | e :: l => if rlt r e.1 then (if t = 0 then e :: l else (r, t) :: e :: l)
      else if rlt e.1 r then e :: ins r t l
      else if e.2 + t = 0 then l else (e.1, e.2 + t) :: l
def canon : Bag → Bag
  | [] => []
  | e :: l => ins e.1 e.2 (canon l)
def Rise : Bag → Prop
  | [] => True
  | e :: l => (∀ x ∈ l, rlt e.1 x.1 = true) ∧ e.2 ≠ 0 ∧ Rise l

theorem ins_mem {r : Row} {t : Int} {l : Bag} {x : Row × Int} (hx : x ∈ ins r t l) : x.1 = r ∨ ∃ y ∈ l, y.1 = x.1 := by
  induction l with
  | nil => simp only [ins] at hx; split at hx <;> simp_all
  | cons e l ih =>
    simp only [ins] at hx
    split at hx
    · split at hx
      · exact .inr ⟨x, hx, rfl⟩
      · rcases List.mem_cons.1 hx with rfl | hx
        · exact .inl rfl
        · exact .inr ⟨x, hx, rfl⟩
    · split at hx
      · rcases List.mem_cons.1 hx with rfl | hx
        · exact .inr ⟨_, by simp, rfl⟩
        · rcases ih hx with h | ⟨y, hy, e'⟩
          · exact .inl h
          · exact .inr ⟨y, by simp [hy], e'⟩
      · split at hx
        · exact .inr ⟨x, by simp [hx], rfl⟩
        · rcases List.mem_cons.1 hx with rfl | hx
          · exact .inr ⟨e, by simp, rfl⟩
          · exact .inr ⟨x, by simp [hx], rfl⟩
theorem ins_rise (r : Row) (t : Int) {l : Bag} (hl : Rise l) : Rise (ins r t l) := by
  induction l with
  | nil => simp only [ins]; split <;> simp_all [Rise]
  | cons e l ih =>
    obtain ⟨h1, h2, h3⟩ := hl
    simp only [ins]
    split
    · rename_i hr
      split
      · exact ⟨h1, h2, h3⟩
      · rename_i ht
        refine ⟨fun x hx => ?_, ht, h1, h2, h3⟩
        rcases List.mem_cons.1 hx with rfl | hx
        · exact hr
        · exact rlt_sto.trans _ _ _ hr (h1 x hx)
    · split
      · rename_i he
        refine ⟨fun x hx => ?_, h2, ih h3⟩
        rcases ins_mem hx with e' | ⟨y, hy, e'⟩
        · rw [e']; exact he
        · rw [← e']; exact h1 y hy
      · split
        · exact h3
        · rename_i hs
          exact ⟨h1, hs, h3⟩
theorem ins_lin (r : Row) (t : Int) (l : Bag) (g : Row → Int) : lin (ins r t l) g = t * g r + lin l g := by
  induction l with
  | nil => simp only [ins]; split <;> simp_all [lin]
  | cons e l ih =>
    simp only [ins]
    split
    · split
      · rename_i ht; simp [lin, ht]
      · simp [lin]
    · split
      · simp only [lin, ih]; omega
      · rename_i h1 h2
        have hr : r = e.1 := rlt_sto.tri _ _ (by simpa using h1) (by simpa using h2)
        subst hr
        have hd : (e.2 + t) * g e.1 = e.2 * g e.1 + t * g e.1 := Int.add_mul _ _ _
        split
        · rename_i hz; rw [hz, Int.zero_mul] at hd; simp only [lin]; omega
        · simp only [lin]; omega
theorem ins_len (r : Row) (t : Int) (l : Bag) : (ins r t l).length ≤ l.length + 1 := by
  induction l with
  | nil => simp only [ins]; split <;> simp
  | cons e l ih => simp only [ins]; split <;> (try split) <;> (try split) <;> simp <;> omega
theorem canon_append_len (m l : Bag) : (canon (m ++ l)).length ≤ m.length + (canon l).length := by
  induction m with
  | nil => simp
  | cons e m ih => have := ins_len e.1 e.2 (canon (m ++ l)); simp only [List.cons_append, canon, List.length_cons]; omega
theorem canon_rise (l : Bag) : Rise (canon l) := by
  induction l with
  | nil => trivial
  | cons e l ih => exact ins_rise _ _ ih
theorem canon_lin (l : Bag) (g : Row → Int) : lin (canon l) g = lin l g := by
  induction l with
  | nil => rfl
  | cons e l ih => simp only [canon, ins_lin, ih, lin]
theorem canon_cnt (l : Bag) (r : Row) : cnt (canon l) r = cnt l r := by
  rw [cnt_eq_lin, cnt_eq_lin, canon_lin]
theorem canon_eqv (l : Bag) : Eqv (canon l) l := canon_cnt l
theorem cnt_none {l : Bag} {r : Row} (h : ∀ x ∈ l, x.1 ≠ r) : cnt l r = 0 := by
  induction l with
  | nil => rfl
  | cons e l ih => simp only [cnt]; rw [if_neg (h e (by simp)), ih fun x hx => h x (by simp [hx])]; rfl
theorem Rise.cnt_mem {l : Bag} (hl : Rise l) {x : Row × Int} (hx : x ∈ l) : cnt l x.1 = x.2 := by
  induction l with
  | nil => cases hx
  | cons e l ih =>
    obtain ⟨h1, h2, h3⟩ := hl
    simp only [cnt]
    rcases List.mem_cons.1 hx with rfl | hx
    · rw [if_pos rfl, cnt_none fun y hy e' => rlt_sto.ne (h1 y hy) e'.symm]; omega
    · rw [if_neg (rlt_sto.ne (h1 x hx)), ih h3 hx]; omega
theorem Rise.mem_of_cnt {l : Bag} {r : Row} (h : cnt l r ≠ 0) : ∃ x ∈ l, x.1 = r := by
  refine Classical.byContradiction fun hn => h (cnt_none fun x hx e => hn ⟨x, hx, e⟩)
theorem Rise.nz {l : Bag} (hl : Rise l) {x : Row × Int} (hx : x ∈ l) : x.2 ≠ 0 := by
  induction l with
  | nil => cases hx
  | cons e l ih =>
    obtain ⟨h1, h2, h3⟩ := hl
    rcases List.mem_cons.1 hx with rfl | hx
    · exact h2
    · exact ih h3 hx
/-- Two lists that rise, of the same rows as many times, are one. -/
theorem Rise.uniq {l m : Bag} (hl : Rise l) (hm : Rise m) (he : Eqv l m) : l = m := by
  induction l generalizing m with
  | nil =>
    cases m with
    | nil => rfl
    | cons y m =>
      have := he y.1
      rw [hm.cnt_mem (by simp)] at this
      exact absurd this.symm hm.2.1
  | cons x l ih =>
    cases m with
    | nil =>
      have := he x.1
      rw [hl.cnt_mem (by simp)] at this
      exact absurd this hl.2.1
    | cons y m =>
      have key : ∀ {a b : Row × Int} {l m : Bag}, Rise (a :: l) → Rise (b :: m) → Eqv (a :: l) (b :: m) → rlt a.1 b.1 = false := by
        intro a b l m ha hb hab
        cases hlt : rlt a.1 b.1
        · rfl
        · exfalso
          have h1 := hab a.1
          rw [ha.cnt_mem (by simp)] at h1
          have : cnt (b :: m) a.1 = 0 := cnt_none fun z hz e => by
            rcases List.mem_cons.1 hz with rfl | hz
            · exact rlt_sto.ne hlt e.symm
            · exact rlt_sto.ne (rlt_sto.trans _ _ _ hlt (hb.1 z hz)) e.symm
          rw [this] at h1; exact ha.2.1 h1
      have hxy : x.1 = y.1 := rlt_sto.tri _ _ (key hl hm he) (key hm hl he.symm)
      have h2 : x.2 = y.2 := by
        have := he x.1
        rw [hl.cnt_mem (by simp), hxy, hm.cnt_mem (by simp)] at this; exact this
      have hx : x = y := Prod.ext hxy h2
      subst hx
      congr 1
      refine ih hl.2.2 hm.2.2 fun r => ?_
      have := he r
      simp only [cnt] at this; omega
theorem Eqv.canon {l m : Bag} (he : Eqv l m) : canon l = canon m :=
  (canon_rise l).uniq (canon_rise m) (((canon_eqv l).trans he).trans (canon_eqv m).symm)
theorem canon_of_rise {l : Bag} (hl : Rise l) : Mo.canon l = l := (canon_rise l).uniq hl (canon_eqv l)
theorem eqv_of_canon {l m : Bag} (he : Mo.canon l = Mo.canon m) : Eqv l m := (canon_eqv l).symm.trans (he ▸ canon_eqv m)
theorem Eqv.lin {l m : Bag} (he : Eqv l m) (g : Row → Int) : lin l g = lin m g := by
  rw [← canon_lin l, ← canon_lin m, he.canon]
theorem Eqv.neg {l m : Bag} (he : Eqv l m) : Eqv (neg l) (Mo.neg m) := fun r => by rw [cnt_neg, cnt_neg, he r]
end Go.Proofs.YtdinjjmcmfjbfaaDoor.Mo
