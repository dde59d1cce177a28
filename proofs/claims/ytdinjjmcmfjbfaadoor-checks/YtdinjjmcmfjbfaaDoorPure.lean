/-
  Plain mathematics, no program in it: how the text of a query is read, place by place, and what the reading with a list of open brackets has to do with the reading by recursion.
-/
import Init
namespace Go.Proofs.YtdinjjmcmfjbfaaDoor.Pl

/-- The byte at place a; 0 behind the end. -/
def bt (s : ByteArray) (a : Nat) : Nat := if h : a < s.size then s[a].toNat else 0
/-- How many bytes J stand ahead of place a. -/
def cj (s : ByteArray) : Nat → Nat
  | 0 => 0
  | a + 1 => cj s a + if bt s a = 74 then 1 else 0

def tk (s : ByteArray) (c a : Nat) : Bool × Nat := if bt s a = c then (true, a + 1) else (false, a)
def rng (s : ByteArray) (lo hi a : Nat) : Bool × Nat := if lo ≤ bt s a ∧ bt s a ≤ hi then (true, a + 1) else (false, a)
def many (s : ByteArray) (lo hi : Nat) : Nat → Nat → Nat
  | 0, a => a
  | k + 1, a => if lo ≤ bt s a ∧ bt s a ≤ hi then many s lo hi k (a + 1) else a
def sev (s : ByteArray) (k lo hi a : Nat) : Bool × Nat := (decide (a < many s lo hi k a), many s lo hi k a)
def dig (s : ByteArray) (a : Nat) : Bool × Nat := sev s 1 48 57 a
def let4 (s : ByteArray) (a : Nat) : Bool × Nat := sev s 4 97 122 a
def andP (f g : Nat → Bool × Nat) (a : Nat) : Bool × Nat := if (f a).1 = true then g (f a).2 else (false, (f a).2)
def orP (f g : Nat → Bool × Nat) (a : Nat) : Bool × Nat := if (f a).1 = true then (true, (f a).2) else g (f a).2
def ifP (f g h : Nat → Bool × Nat) (a : Nat) : Bool × Nat := if (f a).1 = true then g (f a).2 else h (f a).2
def digs (s : ByteArray) (a : Nat) : Bool × Nat := if bt s a = 48 then (false, a) else sev s 4 48 57 a
def numP (s : ByteArray) (a : Nat) : Bool × Nat := ifP (tk s 45) (digs s) (orP (tk s 48) (digs s)) a
def oneOf (s : ByteArray) (a : Nat) : Bool × Nat := if bt s a = 60 ∨ bt s a = 61 ∨ bt s a = 33 then (true, a + 1) else (false, a)
def operP (s : ByteArray) (a : Nat) : Bool × Nat := ifP (tk s 35) (numP s) (ifP (tk s 36) (let4 s) (dig s)) a
def colsP (s : ByteArray) : Nat → Nat → Bool × Nat
  | 0, a => andP (dig s) (tk s 93) a
  | k + 1, a => andP (dig s) (ifP (tk s 44) (colsP s k) (tk s 93)) a
def foldP (s : ByteArray) (a : Nat) : Bool × Nat := andP (tk s 91) (ifP (tk s 115) (andP (dig s) (tk s 93)) (andP (tk s 110) (tk s 93))) a

/-- The kind of part that begins with byte c. -/
def kd (c : Nat) : Nat := if c = 83 then 2 else if c = 80 then 3 else if c = 74 then 4 else if c = 85 then 5 else if c = 68 then 6 else if c = 71 then 7 else if 97 ≤ c ∧ c ≤ 122 then 1 else 0
def ins (k : Nat) : Nat := if k = 0 ∨ k = 1 then 0 else if k = 4 ∨ k = 5 then 2 else 1
def selP (s : ByteArray) (a : Nat) : Bool × Nat := andP (tk s 83) (andP (tk s 91) (andP (dig s) (andP (oneOf s) (andP (operP s) (tk s 93))))) a
def pickP (s : ByteArray) (a : Nat) : Bool × Nat := andP (tk s 80) (andP (tk s 91) (colsP s 5)) a
def joinP (s : ByteArray) (a : Nat) : Bool × Nat := andP (tk s 74) (andP (tk s 91) (andP (dig s) (andP (tk s 61) (andP (dig s) (tk s 93))))) a
def groupP (s : ByteArray) (a : Nat) : Bool × Nat := andP (tk s 71) (andP (tk s 91) (andP (orP (tk s 93) (colsP s 5)) (foldP s))) a
def headP (s : ByteArray) (k a : Nat) : Bool × Nat :=
  if k = 1 then let4 s a else if k = 2 then selP s a else if k = 3 then pickP s a else if k = 4 then joinP s a else if k = 5 then tk s 85 a else if k = 6 then tk s 68 a else if k = 7 then groupP s a else (false, a)

/-- An outcome: the error's number (0: none) and the place. -/
def bE (x : Nat × Nat) (f : Nat → Nat × Nat) : Nat × Nat := if x.1 = 0 then f x.2 else x
def lf (p : Nat → Bool × Nat) (a : Nat) : Nat × Nat := (if (p a).1 = true then 0 else 2, (p a).2)
/-- What stands behind the first query within brackets: n: how many queries there are in them, from this one on. -/
def tailP (s : ByteArray) (q : Nat → Nat × Nat) (n c : Nat) : Nat × Nat := if n = 2 then bE (lf (tk s 44) c) (fun d => bE (q d) (lf (tk s 41))) else lf (tk s 41) c
/-- A query, from place a on; f: how many brackets more may be opened within one another. -/
def qP (s : ByteArray) : Nat → Nat → Nat × Nat
  | 0, a => bE (lf (headP s (kd (bt s a))) a) fun b => if kd (bt s a) = 1 then (0, b) else if bt s b = 40 then (3, b) else (2, b)
  | f + 1, a => bE (lf (headP s (kd (bt s a))) a) fun b => if kd (bt s a) = 1 then (0, b) else if bt s b = 40 then bE (qP s f (b + 1)) (fun c => tailP s (qP s f) (ins (kd (bt s a))) c) else (2, b)
/-- What is left to read when brackets stand open: of each how many queries are awaited in it, the innermost first. -/
def finP (s : ByteArray) : List Nat → Nat × Nat → Nat × Nat
  | [], x => x
  | n :: st, x => finP s st (bE x fun c => tailP s (qP s (5 - st.length)) n c)
/-- Behind the query the text must end. -/
def endP (s : ByteArray) (x : Nat × Nat) : Nat × Nat := bE x fun b => if b < s.size then (2, b) else (0, b)
def whole (s : ByteArray) : Nat × Nat := endP s (qP s 6 0)
/-- What Check answers. -/
def chk (s : ByteArray) : Nat × Nat :=
  if 120 < s.size then (1, 0) else if (whole s).1 = 0 then (if 2 < cj s s.size then (4, 0) else (0, 0)) else whole s

theorem andP_true {f g : Nat → Bool × Nat} {a b : Nat} (h : f a = (true, b)) : andP f g a = g b := by unfold andP; rw [h]; rfl
theorem andP_false {f g : Nat → Bool × Nat} {a b : Nat} (h : f a = (false, b)) : andP f g a = (false, b) := by unfold andP; rw [h]; rfl
theorem orP_true {f g : Nat → Bool × Nat} {a b : Nat} (h : f a = (true, b)) : orP f g a = (true, b) := by unfold orP; rw [h]; rfl
theorem orP_false {f g : Nat → Bool × Nat} {a b : Nat} (h : f a = (false, b)) : orP f g a = g b := by unfold orP; rw [h]; rfl
theorem ifP_true {f g k : Nat → Bool × Nat} {a b : Nat} (h : f a = (true, b)) : ifP f g k a = g b := by unfold ifP; rw [h]; rfl
theorem ifP_false {f g k : Nat → Bool × Nat} {a b : Nat} (h : f a = (false, b)) : ifP f g k a = k b := by unfold ifP; rw [h]; rfl
theorem bt_lt {s : ByteArray} {a : Nat} (h : bt s a ≠ 0) : a < s.size := by
  unfold bt at h; split at h
  · assumption
  · exact absurd rfl h
theorem bt_lt_256 (s : ByteArray) (a : Nat) : bt s a < 256 := by
  unfold bt; split
  · exact UInt8.toNat_lt _
  · omega

/-- p goes on to the right, not beyond the text's end, and reads no J. -/
structure Good (s : ByteArray) (p : Nat → Bool × Nat) : Prop where
  le : ∀ a, a ≤ (p a).2
  size : ∀ a, a ≤ s.size → (p a).2 ≤ s.size
  noJ : ∀ a, (p a).1 = true → cj s (p a).2 = cj s a

theorem tk_good {s : ByteArray} {c : Nat} (h0 : c ≠ 0) (hJ : c ≠ 74) : Good s (tk s c) := by
  refine ⟨fun a => ?_, fun a ha => ?_, fun a ha => ?_⟩ <;> unfold tk at * <;> by_cases h : bt s a = c
  · simp [h]
  · simp [h]
  · have := bt_lt (s := s) (a := a) (by omega)
    simp [h]; omega
  · simp [h, ha]
  · rw [if_pos h]; simp [cj, h, hJ]
  · rw [if_neg h] at ha; simp at ha
theorem many_in {s : ByteArray} {lo hi k a : Nat} (h : lo ≤ bt s a ∧ bt s a ≤ hi) : many s lo hi (k + 1) a = many s lo hi k (a + 1) := by rw [many, if_pos h]
theorem many_out {s : ByteArray} {lo hi k a : Nat} (h : ¬ (lo ≤ bt s a ∧ bt s a ≤ hi)) : many s lo hi (k + 1) a = a := by rw [many, if_neg h]
theorem many_le (s : ByteArray) (lo hi : Nat) : ∀ k a, a ≤ many s lo hi k a
  | 0, a => Nat.le_refl a
  | k + 1, a => by unfold many; split; exact Nat.le_trans (Nat.le_succ a) (many_le s lo hi k (a + 1)); exact Nat.le_refl a
theorem many_size {s : ByteArray} {lo hi : Nat} (h0 : 0 < lo) : ∀ k a, a ≤ s.size → many s lo hi k a ≤ s.size
  | 0, a, h => h
  | k + 1, a, h => by
    unfold many; split
    · rename_i hh; exact many_size h0 k (a + 1) (bt_lt (s := s) (by omega))
    · exact h
theorem many_noJ {s : ByteArray} {lo hi : Nat} (hJ : 74 < lo ∨ hi < 74) : ∀ k a, cj s (many s lo hi k a) = cj s a
  | 0, a => rfl
  | k + 1, a => by
    unfold many; split
    · rename_i hh; rw [many_noJ hJ k (a + 1)]; simp [cj]; omega
    · rfl
theorem sev_good {s : ByteArray} {k lo hi : Nat} (h0 : 0 < lo) (hJ : 74 < lo ∨ hi < 74) : Good s (sev s k lo hi) :=
  ⟨fun a => many_le s lo hi k a, fun a h => many_size h0 k a h, fun a _ => many_noJ hJ k a⟩
theorem dig_good (s : ByteArray) : Good s (dig s) := sev_good (by omega) (by omega)
theorem let4_good (s : ByteArray) : Good s (let4 s) := sev_good (by omega) (by omega)
theorem andP_good {s : ByteArray} {f g : Nat → Bool × Nat} (hf : Good s f) (hg : Good s g) : Good s (andP f g) := by
  refine ⟨fun a => ?_, fun a ha => ?_, fun a ha => ?_⟩
  · unfold andP; split; exact Nat.le_trans (hf.le a) (hg.le _); exact hf.le a
  · unfold andP; split; exact hg.size _ (hf.size a ha); exact hf.size a ha
  · unfold andP at ha ⊢
    by_cases h : (f a).1 = true
    · rw [if_pos h] at ha ⊢; rw [hg.noJ _ ha, hf.noJ _ h]
    · rw [if_neg h] at ha; simp at ha
/-- That a failing p has read no J either: where it is tried and let go. -/
theorem ifP_good {s : ByteArray} {f g k : Nat → Bool × Nat} (hf : Good s f) (hg : Good s g) (hk : Good s k) (hn : ∀ a, (f a).1 = false → (f a).2 = a) : Good s (ifP f g k) := by
  refine ⟨fun a => ?_, fun a ha => ?_, fun a ha => ?_⟩
  · unfold ifP; split; exact Nat.le_trans (hf.le a) (hg.le _); exact Nat.le_trans (hf.le a) (hk.le _)
  · unfold ifP; split; exact hg.size _ (hf.size a ha); exact hk.size _ (hf.size a ha)
  · unfold ifP at ha ⊢
    by_cases h : (f a).1 = true
    · rw [if_pos h] at ha ⊢; rw [hg.noJ _ ha, hf.noJ _ h]
    · rw [if_neg h] at ha ⊢; rw [hk.noJ _ ha, hn a (by simpa using h)]
theorem orP_good {s : ByteArray} {f g : Nat → Bool × Nat} (hf : Good s f) (hg : Good s g) (hn : ∀ a, (f a).1 = false → (f a).2 = a) : Good s (orP f g) := by
  refine ⟨fun a => ?_, fun a ha => ?_, fun a ha => ?_⟩
  · unfold orP; split; exact hf.le a; exact Nat.le_trans (hf.le a) (hg.le _)
  · unfold orP; split; exact hf.size a ha; exact hg.size _ (hf.size a ha)
  · unfold orP at ha ⊢
    by_cases h : (f a).1 = true
    · rw [if_pos h]; exact hf.noJ _ h
    · rw [if_neg h] at ha ⊢; rw [hg.noJ _ ha, hn a (by simpa using h)]
theorem tk_stays (s : ByteArray) (c a : Nat) (h : (tk s c a).1 = false) : (tk s c a).2 = a := by
  unfold tk at *; split at h; simp at h; rename_i hh; rw [if_neg hh]
theorem digs_good (s : ByteArray) : Good s (digs s) := by
  have h := sev_good (s := s) (k := 4) (lo := 48) (hi := 57) (by omega) (by omega)
  refine ⟨fun a => ?_, fun a ha => ?_, fun a ha => ?_⟩
  · unfold digs; split; exact Nat.le_refl _; exact h.le a
  · unfold digs; split; exact ha; exact h.size a ha
  · unfold digs at ha ⊢; split at ha
    · simp at ha
    · rename_i hh; rw [if_neg hh]; exact h.noJ a ha
theorem numP_good (s : ByteArray) : Good s (numP s) :=
  ifP_good (tk_good (by omega) (by omega)) (digs_good s) (orP_good (tk_good (by omega) (by omega)) (digs_good s) (tk_stays s _)) (tk_stays s _)
theorem oneOf_good (s : ByteArray) : Good s (oneOf s) := by
  refine ⟨fun a => ?_, fun a ha => ?_, fun a ha => ?_⟩ <;> unfold oneOf at * <;> by_cases h : bt s a = 60 ∨ bt s a = 61 ∨ bt s a = 33
  · rw [if_pos h]; simp
  · rw [if_neg h]; simp
  · rw [if_pos h]; exact bt_lt (s := s) (by omega)
  · rw [if_neg h]; exact ha
  · rw [if_pos h]; simp [cj]; omega
  · rw [if_neg h] at ha; simp at ha
theorem operP_good (s : ByteArray) : Good s (operP s) :=
  ifP_good (tk_good (by omega) (by omega)) (numP_good s) (ifP_good (tk_good (by omega) (by omega)) (let4_good s) (dig_good s) (tk_stays s _)) (tk_stays s _)
theorem colsP_good (s : ByteArray) : ∀ k, Good s (colsP s k)
  | 0 => andP_good (dig_good s) (tk_good (by omega) (by omega))
  | k + 1 => andP_good (dig_good s) (ifP_good (tk_good (by omega) (by omega)) (colsP_good s k) (tk_good (by omega) (by omega)) (tk_stays s _))
theorem foldP_good (s : ByteArray) : Good s (foldP s) :=
  andP_good (tk_good (by omega) (by omega)) (ifP_good (tk_good (by omega) (by omega)) (andP_good (dig_good s) (tk_good (by omega) (by omega))) (andP_good (tk_good (by omega) (by omega)) (tk_good (by omega) (by omega))) (tk_stays s _))

theorem kd_le (c : Nat) : kd c ≤ 7 := by unfold kd; repeat' split <;> try omega
/-- A head that is read goes at least one place on. -/
theorem andP_tk_lt {s : ByteArray} {c : Nat} {g : Nat → Bool × Nat} (hg : ∀ a, a ≤ (g a).2) {a : Nat} (h : (andP (tk s c) g a).1 = true) : a < (andP (tk s c) g a).2 := by
  unfold andP at *
  by_cases ht : bt s a = c
  · have e : tk s c a = (true, a + 1) := by unfold tk; rw [if_pos ht]
    rw [e]; have := hg (a + 1); simp; omega
  · have e : tk s c a = (false, a) := by unfold tk; rw [if_neg ht]
    rw [e] at h; simp at h
theorem headP_facts (s : ByteArray) (k a : Nat) : a ≤ (headP s k a).2 ∧ (a ≤ s.size → (headP s k a).2 ≤ s.size) ∧ ((headP s k a).1 = true → a < (headP s k a).2) ∧ ((headP s k a).1 = true → cj s (headP s k a).2 = cj s a + if k = 4 then 1 else 0) := by
  have g91 : ∀ (p : Nat → Bool × Nat), Good s p → Good s (andP (tk s 91) p) := fun p hp => andP_good (tk_good (by omega) (by omega)) hp
  have one : ∀ (c : Nat) (g : Nat → Bool × Nat), c ≠ 0 → c ≠ 74 → Good s g → a ≤ (andP (tk s c) g a).2 ∧ (a ≤ s.size → (andP (tk s c) g a).2 ≤ s.size) ∧ ((andP (tk s c) g a).1 = true → a < (andP (tk s c) g a).2) ∧ ((andP (tk s c) g a).1 = true → cj s (andP (tk s c) g a).2 = cj s a + 0) := by
    intro c g h0 hJ hg
    have h := andP_good (tk_good (s := s) h0 hJ) hg
    exact ⟨h.le a, h.size a, fun e => andP_tk_lt hg.le e, fun e => by rw [h.noJ a e]; rfl⟩
  have bare : ∀ c : Nat, c ≠ 0 → c ≠ 74 → a ≤ (tk s c a).2 ∧ (a ≤ s.size → (tk s c a).2 ≤ s.size) ∧ ((tk s c a).1 = true → a < (tk s c a).2) ∧ ((tk s c a).1 = true → cj s (tk s c a).2 = cj s a + 0) := by
    intro c h0 hJ
    have h := tk_good (s := s) h0 hJ
    refine ⟨h.le a, h.size a, fun e => ?_, fun e => by rw [h.noJ a e]; rfl⟩
    unfold tk at *; by_cases hc : bt s a = c
    · rw [if_pos hc]; simp
    · rw [if_neg hc] at e; simp at e
  have gd := dig_good s
  unfold headP
  by_cases h1 : k = 1
  · subst h1; rw [if_pos rfl]; have h := let4_good s
    refine ⟨h.le a, h.size a, fun e => ?_, fun e => by rw [h.noJ a e]; rfl⟩
    simpa [let4, sev] using e
  rw [if_neg h1]
  by_cases h2 : k = 2
  · subst h2; rw [if_pos rfl]; exact one 83 _ (by omega) (by omega) (g91 _ (andP_good gd (andP_good (oneOf_good s) (andP_good (operP_good s) (tk_good (by omega) (by omega))))))
  rw [if_neg h2]
  by_cases h3 : k = 3
  · subst h3; rw [if_pos rfl]; exact one 80 _ (by omega) (by omega) (g91 _ (colsP_good s 5))
  rw [if_neg h3]
  by_cases h4 : k = 4
  · subst h4; rw [if_pos rfl]
    have hg : Good s (andP (tk s 91) (andP (dig s) (andP (tk s 61) (andP (dig s) (tk s 93))))) := g91 _ (andP_good gd (andP_good (tk_good (by omega) (by omega)) (andP_good gd (tk_good (by omega) (by omega)))))
    unfold joinP
    by_cases hc : bt s a = 74
    · have e : tk s 74 a = (true, a + 1) := by unfold tk; rw [if_pos hc]
      have hl := bt_lt (s := s) (a := a) (by omega)
      rw [andP_true e]
      have q := hg.le (a + 1)
      refine ⟨by omega, fun _ => hg.size _ (by omega), fun _ => by omega, fun e1 => ?_⟩
      rw [hg.noJ _ e1]; simp [cj, hc]
    · have e : tk s 74 a = (false, a) := by unfold tk; rw [if_neg hc]
      rw [andP_false e]; simp
  rw [if_neg h4]
  by_cases h5 : k = 5
  · subst h5; rw [if_pos rfl]; exact bare 85 (by omega) (by omega)
  rw [if_neg h5]
  by_cases h6 : k = 6
  · subst h6; rw [if_pos rfl]; exact bare 68 (by omega) (by omega)
  rw [if_neg h6]
  by_cases h7 : k = 7
  · subst h7; rw [if_pos rfl]; exact one 71 _ (by omega) (by omega) (g91 _ (andP_good (orP_good (tk_good (by omega) (by omega)) (colsP_good s 5) (tk_stays s _)) (foldP_good s)))
  rw [if_neg h7]
  simp

theorem finP_err {s : ByteArray} : ∀ (st : List Nat) (x : Nat × Nat), x.1 ≠ 0 → finP s st x = x
  | [], _, _ => rfl
  | n :: st, x, h => by unfold finP bE; rw [if_neg h]; exact finP_err st x h

/-- An outcome whose place lies within the text. -/
theorem lf_size {s : ByteArray} {p : Nat → Bool × Nat} (h : Good s p) {a : Nat} (ha : a ≤ s.size) : (lf p a).2 ≤ s.size := h.size a ha
theorem bE_size {s : ByteArray} {x : Nat × Nat} {f : Nat → Nat × Nat} (hx : x.2 ≤ s.size) (hf : ∀ a, a ≤ s.size → (f a).2 ≤ s.size) : (bE x f).2 ≤ s.size := by
  unfold bE; split
  · exact hf _ hx
  · exact hx
theorem bE_ok {x : Nat × Nat} {f : Nat → Nat × Nat} (h : (bE x f).1 = 0) : x.1 = 0 ∧ bE x f = f x.2 := by
  unfold bE at *; by_cases e : x.1 = 0
  · exact ⟨e, by rw [if_pos e]⟩
  · rw [if_neg e] at h; exact absurd h e
theorem lf_ok {p : Nat → Bool × Nat} {a : Nat} (h : (lf p a).1 = 0) : (p a).1 = true := by
  unfold lf at h; simp at h; exact h

theorem qP_head_false {s : ByteArray} {f a b : Nat} (h : headP s (kd (bt s a)) a = (false, b)) : qP s f a = (2, b) := by cases f <;> simp [qP, lf, h, bE]
theorem qP_table {s : ByteArray} {f a b : Nat} (h : headP s (kd (bt s a)) a = (true, b)) (hk : kd (bt s a) = 1) : qP s f a = (0, b) := by rw [hk] at h; cases f <;> simp [qP, lf, h, bE, hk]
theorem qP_shut {s : ByteArray} {f a b : Nat} (h : headP s (kd (bt s a)) a = (true, b)) (hk : kd (bt s a) ≠ 1) (hb : bt s b ≠ 40) : qP s f a = (2, b) := by cases f <;> simp [qP, lf, h, bE, hk, hb]
theorem qP_deep {s : ByteArray} {a b : Nat} (h : headP s (kd (bt s a)) a = (true, b)) (hk : kd (bt s a) ≠ 1) (hb : bt s b = 40) : qP s 0 a = (3, b) := by simp [qP, lf, h, bE, hk, hb]
theorem qP_open {s : ByteArray} {f a b : Nat} (h : headP s (kd (bt s a)) a = (true, b)) (hk : kd (bt s a) ≠ 1) (hb : bt s b = 40) : qP s (f + 1) a = bE (qP s f (b + 1)) (fun c => tailP s (qP s f) (ins (kd (bt s a))) c) := by rw [qP]; simp [lf, h, bE, hk, hb]
theorem endP_err {s : ByteArray} {st : List Nat} {e b : Nat} (h : e ≠ 0) : endP s (finP s st (e, b)) = (e, b) := by rw [finP_err st _ h]; unfold endP bE; rw [if_neg h]
theorem finP_two_no {s : ByteArray} {st : List Nat} {c d : Nat} (h : tk s 44 c = (false, d)) : endP s (finP s (2 :: st) (0, c)) = (2, d) := by
  have : finP s (2 :: st) (0, c) = finP s st (2, d) := by simp [finP, bE, tailP, lf, h]
  rw [this, endP_err (by omega)]
theorem finP_two_yes {s : ByteArray} {st : List Nat} {c d : Nat} (h : tk s 44 c = (true, d)) : finP s (2 :: st) (0, c) = finP s (1 :: st) (qP s (5 - st.length) d) := by simp [finP, bE, tailP, lf, h]
theorem finP_one_no {s : ByteArray} {st : List Nat} {c d : Nat} (h : tk s 41 c = (false, d)) : endP s (finP s (1 :: st) (0, c)) = (2, d) := by
  have : finP s (1 :: st) (0, c) = finP s st (2, d) := by simp [finP, bE, tailP, lf, h]
  rw [this, endP_err (by omega)]
theorem finP_one_yes {s : ByteArray} {st : List Nat} {c d : Nat} (h : tk s 41 c = (true, d)) : finP s (1 :: st) (0, c) = finP s st (0, d) := by simp [finP, bE, tailP, lf, h]
theorem ins_two {k : Nat} (h0 : k ≠ 0) (h1 : k ≠ 1) : ins k = 1 ∨ ins k = 2 := by unfold ins; rw [if_neg (by omega)]; split; exact .inr rfl; exact .inl rfl

theorem rng_tk (s : ByteArray) (c : Nat) : rng s c c = tk s c := by
  funext a; unfold rng tk; by_cases h : bt s a = c
  · rw [if_pos (by omega), if_pos h]
  · rw [if_neg (by omega), if_neg h]
theorem rng_dig (s : ByteArray) : rng s 48 57 = dig s := by
  funext a; unfold rng dig sev; by_cases h : 48 ≤ bt s a ∧ bt s a ≤ 57
  · rw [if_pos h, many_in h]; simp [many]
  · rw [if_neg h, many_out h]; simp
theorem bE_zero (a : Nat) (f : Nat → Nat × Nat) : bE (0, a) f = f a := rfl
theorem bE_err {e a : Nat} (h : e ≠ 0) (f : Nat → Nat × Nat) : bE (e, a) f = (e, a) := by unfold bE; rw [if_neg h]
theorem lf_true {p : Nat → Bool × Nat} {a b : Nat} (h : p a = (true, b)) : lf p a = (0, b) := by unfold lf; rw [h]; rfl
theorem lf_false {p : Nat → Bool × Nat} {a b : Nat} (h : p a = (false, b)) : lf p a = (2, b) := by unfold lf; rw [h]; rfl
/-- Readers one behind the other. -/
theorem lf_and (f g : Nat → Bool × Nat) (a : Nat) : lf (andP f g) a = bE (lf f a) (lf g) := by
  cases h : f a with
  | mk o b => cases o
              · rw [lf_false h, lf_false (andP_false h)]; rfl
              · rw [lf_true h, bE_zero]; unfold lf; rw [andP_true h]
theorem bE_and (x : Nat × Nat) (f g : Nat → Bool × Nat) : bE x (lf (andP f g)) = bE (bE x (lf f)) (lf g) := by
  unfold bE; by_cases h : x.1 = 0
  · rw [if_pos h, if_pos h, lf_and]; rfl
  · rw [if_neg h, if_neg h, if_neg h]

theorem sev_yes {s : ByteArray} {k lo hi a : Nat} (h : lo ≤ bt s a ∧ bt s a ≤ hi) : sev s (k + 1) lo hi a = (true, many s lo hi k (a + 1)) := by
  unfold sev; rw [many_in h]; have := many_le s lo hi k (a + 1); simp; omega
theorem sev_no {s : ByteArray} {k lo hi a : Nat} (h : ¬ (lo ≤ bt s a ∧ bt s a ≤ hi)) : sev s (k + 1) lo hi a = (false, a) := by
  unfold sev; rw [many_out h]; simp
/-- 'sev_rng': a number of the document's: its first digit, then up to three. -/
def opn (s : ByteArray) (d e a : Nat) : Nat × Nat := if e = 0 ∧ bt s a = 40 ∧ d = 6 then (3, a) else bE (e, a) (lf (tk s 40))

/-- Where a number ends whose first digit was n. -/
def fin (s : ByteArray) (e n k c : Nat) : Nat := if e = 0 ∧ 0 < n then many s 48 57 k c else c
theorem rng_in {s : ByteArray} {lo hi a : Nat} (h : lo ≤ bt s a ∧ bt s a ≤ hi) : rng s lo hi a = (true, a + 1) := by unfold rng; rw [if_pos h]
theorem rng_out {s : ByteArray} {lo hi a : Nat} (h : ¬ (lo ≤ bt s a ∧ bt s a ≤ hi)) : rng s lo hi a = (false, a) := by unfold rng; rw [if_neg h]
theorem tk_in {s : ByteArray} {c a : Nat} (h : bt s a = c) : tk s c a = (true, a + 1) := by unfold tk; rw [if_pos h]
theorem tk_out {s : ByteArray} {c a : Nat} (h : bt s a ≠ c) : tk s c a = (false, a) := by unfold tk; rw [if_neg h]
theorem num_minus {s : ByteArray} {a e1 a1 v : Nat} (h : bt s a = 45) (hx : bE (0, a + 1) (lf (rng s 49 57)) = (e1, a1)) (hv : 49 ≤ v) : lf (numP s) a = (e1, fin s e1 (v - 48) 3 a1) := by
  have e0 : numP s a = digs s (a + 1) := ifP_true (tk_in h)
  rw [bE_zero] at hx
  unfold lf; rw [e0]; unfold digs
  by_cases h8 : bt s (a + 1) = 48
  · rw [lf_false (rng_out (by omega))] at hx; injection hx with h1 h2; subst h1 h2
    rw [if_pos h8]; simp [fin]
  · rw [if_neg h8]
    by_cases hr : 49 ≤ bt s (a + 1) ∧ bt s (a + 1) ≤ 57
    · rw [lf_true (rng_in hr)] at hx; injection hx with h1 h2; subst h1 h2
      rw [sev_yes ⟨by omega, hr.2⟩]; simp [fin]; intro; omega
    · rw [lf_false (rng_out hr)] at hx; injection hx with h1 h2; subst h1 h2
      rw [sev_no (by omega)]; simp [fin]
theorem num_plain {s : ByteArray} {a e e1 a1 v : Nat} (h : ¬ (e = 0 ∧ bt s a = 45)) (hx : bE (e, a) (lf (rng s 48 57)) = (e1, a1)) (hv : e = 0 → 48 ≤ bt s a ∧ bt s a ≤ 57 → v = bt s a) : bE (e, a) (lf (numP s)) = (e1, fin s e1 (v - 48) 3 a1) := by
  by_cases he : e = 0
  · subst he
    have h45 : bt s a ≠ 45 := fun x => h ⟨rfl, x⟩
    rw [bE_zero] at hx ⊢
    have e0 : numP s a = orP (tk s 48) (digs s) a := ifP_false (tk_out h45)
    unfold lf; rw [e0]
    by_cases h8 : bt s a = 48
    · rw [lf_true (rng_in (by omega))] at hx; injection hx with h1 h2; subst h1 h2
      have := hv rfl (by omega)
      rw [orP_true (tk_in h8)]; simp [fin]; intro; omega
    · rw [orP_false (tk_out h8)]; unfold digs; rw [if_neg h8]
      by_cases hr : 48 ≤ bt s a ∧ bt s a ≤ 57
      · rw [lf_true (rng_in hr)] at hx; injection hx with h1 h2; subst h1 h2
        have := hv rfl hr
        rw [sev_yes hr]; simp [fin]; intro; omega
      · rw [lf_false (rng_out hr)] at hx; injection hx with h1 h2; subst h1 h2
        rw [sev_no hr]; simp [fin]
  · rw [bE_err he] at hx ⊢; injection hx with h1 h2; subst h1 h2
    simp [fin, he]

/-- What stands behind a column: k: how many columns more there may be. -/
def restC (s : ByteArray) : Nat → Nat → Bool × Nat
  | 0 => tk s 93
  | k + 1 => ifP (tk s 44) (colsP s k) (tk s 93)
theorem colsP_eq (s : ByteArray) (k : Nat) : colsP s k = andP (dig s) (restC s k) := by cases k <;> rfl
theorem cols_start (s : ByteArray) (x : Nat × Nat) : bE x (lf (colsP s 5)) = bE (bE x (lf (dig s))) (lf (restC s 5)) := by rw [colsP_eq, bE_and]
theorem cols_more {s : ByteArray} {k c : Nat} (h : bt s c = 44) : bE (0, c) (lf (restC s (k + 1))) = bE (bE (0, c + 1) (lf (dig s))) (lf (restC s k)) := by
  rw [bE_zero, ← bE_and, ← colsP_eq, bE_zero]
  show lf (ifP (tk s 44) (colsP s k) (tk s 93)) c = _
  unfold lf; rw [ifP_true (tk_in h)]
theorem cols_last {s : ByteArray} {k e c : Nat} (h : ¬ (e = 0 ∧ bt s c = 44)) : bE (e, c) (lf (restC s k)) = bE (e, c) (lf (tk s 93)) := by
  by_cases he : e = 0
  · subst he
    cases k with
    | zero => rfl
    | succ k =>
      rw [bE_zero, bE_zero]
      show lf (ifP (tk s 44) (colsP s k) (tk s 93)) c = _
      unfold lf; rw [ifP_false (tk_out (fun x => h ⟨rfl, x⟩))]
  · rw [bE_err he, bE_err he]

#print axioms headP_facts
end Go.Proofs.YtdinjjmcmfjbfaaDoor.Pl
