/-
  Queries as they are read: which text says which query; parts in memory, finished ones as trees, open ones as a list of frames.
-/
import Derived.Test.YtdinjjmcmfjbfaaDoorHg
namespace Go.Proofs.YtdinjjmcmfjbfaaDoor
open Go.RowKit
open Mo (V Row Opd Cmp Q)

def cmpO : Nat → Cmp
  | 0 => .lt
  | 1 => .eq
  | _ => .ne
def wS : Opd → Option Nat
  | .col m => some m
  | .val _ => none
def mkQ (h : Hd) (cs : List Nat) : List Q → Q
  | [q] => if h.k = 2 then .sel (colI h.l) (cmpO h.cmp) h.r q else if h.k = 3 then .pick cs q else if h.k = 6 then .dist q else .grp cs (wS h.w) q
  | [q, r] => if h.k = 4 then .join (colI h.l) (colI h.r) q r else .uni q r
  | _ => .tab h.nm
/-- The text from place a to place b is the query q; f: how many brackets more may be opened. -/
inductive Rq (s : ByteArray) : Nat → Nat → Nat → Q → Prop
  | tab {f a b : Nat} : Pl.kd (Pl.bt s a) = 1 → Pl.headP s 1 a = (true, b) → Rq s f a b (mkQ (hdV s 1 a) (hcs s 1 a) [])
  | one {f a b c : Nat} {q : Q} : Pl.ins (Pl.kd (Pl.bt s a)) = 1 → Pl.headP s (Pl.kd (Pl.bt s a)) a = (true, b) → Pl.bt s b = 40 → Rq s f (b + 1) c q → Pl.bt s c = 41 →
      Rq s (f + 1) a (c + 1) (mkQ (hdV s (Pl.kd (Pl.bt s a)) a) (hcs s (Pl.kd (Pl.bt s a)) a) [q])
  | two {f a b c d : Nat} {q r : Q} : Pl.ins (Pl.kd (Pl.bt s a)) = 2 → Pl.headP s (Pl.kd (Pl.bt s a)) a = (true, b) → Pl.bt s b = 40 → Rq s f (b + 1) c q → Pl.bt s c = 44 → Rq s f (c + 1) d r → Pl.bt s d = 41 →
      Rq s (f + 1) a (d + 1) (mkQ (hdV s (Pl.kd (Pl.bt s a)) a) (hcs s (Pl.kd (Pl.bt s a)) a) [q, r])
def pV (p : Nat) : Value := .pointer (some ⟨p, 0, none⟩)
/-- A part in block p; X: the blocks that are the tree's. -/
def NdAt (w : World) (X : Nat → Prop) (p : Nat) (h : Hd) (cs ps : List Nat) : Prop :=
  X p ∧ ∃ lv iv, w.heap[p]? = some (.cells (partC h lv iv) 61 (0, 0)) ∧ w.ownsRow 0 3 1 lv cs.length (ints cs) ∧ w.ownsRow 0 33 1 iv ps.length (ps.map pV) ∧ (∀ b, lv.ownBlock = some b → X b) ∧ (∀ b, iv.ownBlock = some b → X b)
/-- The part in block p, with all below it, is the query q. -/
inductive Tr (w : World) (X : Nat → Prop) : Nat → Q → Prop
  | zero {p : Nat} {h : Hd} {cs : List Nat} : h.k = 1 → NdAt w X p h cs [] → Tr w X p (mkQ h cs [])
  | one {p p1 : Nat} {h : Hd} {cs : List Nat} {q : Q} : Pl.ins h.k = 1 → NdAt w X p h cs [p1] → Tr w X p1 q → Tr w X p (mkQ h cs [q])
  | two {p p1 p2 : Nat} {h : Hd} {cs : List Nat} {q r : Q} : Pl.ins h.k = 2 → NdAt w X p h cs [p1, p2] → Tr w X p1 q → Tr w X p2 r → Tr w X p (mkQ h cs [q, r])
theorem owns_lt {w : World} {base : Nat} {e : TypeId} {size n : Nat} {v : Value} {xs : List Value} (h : w.ownsRow base e size v n xs) : ∀ b, v.ownBlock = some b → b < w.heap.size := fun b hb => by
  obtain ⟨c, z, h1⟩ := own_is h b hb; exact lt_of_heap h1
theorem owns_weak {w : World} {base base' : Nat} {e : TypeId} {size n : Nat} {v : Value} {xs : List Value} (h : w.ownsRow base e size v n xs) (hb : base' ≤ base) : w.ownsRow base' e size v n xs :=
  ⟨h.1, h.2.imp id (fun ⟨g, cp, cu, e1, e2, e3⟩ => ⟨g, cp, cu, e1, by omega, e3⟩)⟩
theorem owns_block {w w' : World} {base : Nat} {e : TypeId} {size n : Nat} {v : Value} {xs : List Value} (h : w.ownsRow base e size v n xs) (hk : ∀ b, v.ownBlock = some b → w'.heap[b]? = w.heap[b]?) : w'.ownsRow base e size v n xs := by
  refine ⟨h.1, ?_⟩
  rcases h.2 with hn | ⟨g, cap, cur, rfl, hb, hg, hrest⟩
  · exact .inl hn
  · exact .inr ⟨g, cap, cur, rfl, hb, (hk g rfl).trans hg, hrest⟩
theorem NdAt.mono {w w' : World} {X Y : Nat → Prop} {p : Nat} {h : Hd} {cs ps : List Nat} (hn : NdAt w X p h cs ps) (hw : ∀ k, X k → w'.heap[k]? = w.heap[k]?) (hXY : ∀ k, X k → Y k) : NdAt w' Y p h cs ps := by
  obtain ⟨h1, lv, iv, h2, h3, h4, h5, h6⟩ := hn
  exact ⟨hXY _ h1, lv, iv, (hw p h1).trans h2, owns_block h3 (fun b hb => hw b (h5 b hb)), owns_block h4 (fun b hb => hw b (h6 b hb)), fun b hb => hXY _ (h5 b hb), fun b hb => hXY _ (h6 b hb)⟩
theorem Tr.mono {w w' : World} {X Y : Nat → Prop} {p : Nat} {q : Q} (h : Tr w X p q) (hw : ∀ k, X k → w'.heap[k]? = w.heap[k]?) (hXY : ∀ k, X k → Y k) : Tr w' Y p q := by
  induction h with
  | zero e h => exact .zero e (h.mono hw hXY)
  | one e h _ ih => exact .one e (h.mono hw hXY) ih
  | two e h _ _ ih1 ih2 => exact .two e (h.mono hw hXY) ih1 ih2
theorem Tr.own {w : World} {X : Nat → Prop} {p : Nat} {q : Q} (h : Tr w X p q) : X p := by
  cases h with
  | zero _ h => exact h.1
  | one _ h _ => exact h.1
  | two _ h _ _ => exact h.1

/-! ### open parts -/
structure Fq where
  P : Nat
  h : Hd
  cs : List Nat
  lv : Value
  iv : Value
  ps : List Nat
  qs : List Q
  a : Nat
  b : Nat
def FrAt (w : World) (N : Nat) (f : Fq) : Prop :=
  w.heap[f.P]? = some (.cells (partC f.h f.lv f.iv) 61 (0, 0)) ∧ N ≤ f.P ∧ w.ownsRow N 3 1 f.lv f.cs.length (ints f.cs) ∧ w.ownsRow N 33 1 f.iv f.ps.length (f.ps.map pV)
/-- Finished inputs. -/
inductive Trs (w : World) (X : Nat → Prop) : List Nat → List Q → Prop
  | nil : Trs w X [] []
  | cons {p : Nat} {q : Q} {ps : List Nat} {qs : List Q} : Tr w X p q → Trs w X ps qs → Trs w X (p :: ps) (q :: qs)
/-- An open part's reading: its next input begins at place c. -/
def FS (s : ByteArray) (fuel : Nat) (f : Fq) (c : Nat) : Prop :=
  f.h = hdV s (Pl.kd (Pl.bt s f.a)) f.a ∧ f.cs = hcs s (Pl.kd (Pl.bt s f.a)) f.a ∧ f.h.k = Pl.kd (Pl.bt s f.a) ∧ Pl.headP s (Pl.kd (Pl.bt s f.a)) f.a = (true, f.b) ∧ Pl.bt s f.b = 40 ∧
    (f.qs = [] ∧ c = f.b + 1 ∧ (Pl.ins f.h.k = 1 ∨ Pl.ins f.h.k = 2) ∨ ∃ q c1, f.qs = [q] ∧ Rq s fuel (f.b + 1) c1 q ∧ Pl.bt s c1 = 44 ∧ c = c1 + 1 ∧ Pl.ins f.h.k = 2)
/-- All open parts, the innermost first; the last is what holds the query. -/
def Stk (s : ByteArray) (w : World) (N : Nat) (X : Nat → Prop) : List Fq → Nat → List Nat → Prop
  | [], _, _ => False
  | [f], c, ex => FrAt w N f ∧ f.h = ⟨0, [], 0, zO, zO, zO⟩ ∧ f.ps = ex ∧ f.qs = [] ∧ c = 0
  | f :: g :: r, c, ex => FrAt w N f ∧ FS s (5 - r.length) f c ∧ (∃ dp, f.ps = dp ++ ex ∧ Trs w X dp f.qs) ∧ Stk s w N X (g :: r) f.a [f.P]
/-- No two of them have a block in common, and none is of X; ov: the list of them in memory. -/
structure Sep (X : Nat → Prop) (ov : Value) (fs : List Fq) : Prop where
  parts : (fs.map (·.P)).Nodup
  arrs : (ov.ownBlock :: fs.map (·.iv.ownBlock)).Pairwise (fun u v => ∀ b, u = some b → v ≠ some b)
  lvs : (fs.map (·.lv.ownBlock)).Pairwise (fun u v => ∀ b, u = some b → v ≠ some b)
  out : ∀ f ∈ fs, ¬ X f.P ∧ (∀ b, f.iv.ownBlock = some b → ¬ X b) ∧ (∀ b, f.lv.ownBlock = some b → ¬ X b)
  ovout : ∀ b, ov.ownBlock = some b → ¬ X b
/-- All together. -/
structure QI (s : ByteArray) (w : World) (N : Nat) (X : Nat → Prop) (ov : Value) (fs : List Fq) (c : Nat) (ex : List Nat) : Prop where
  stk : Stk s w N X fs c ex
  sep : Sep X ov fs
  list : w.ownsRow N 33 1 ov fs.length ((fs.map (·.P)).reverse.map pV)
  len : fs.length ≤ 7
  own : ∀ k, X k → N ≤ k ∧ k < w.heap.size
theorem FrAt.keep {w w' : World} {N : Nat} {f : Fq} {S : Nat → Prop} (h : FrAt w N f) (k : Kept S w w') (h1 : ¬ S f.P) (h2 : ∀ b, f.lv.ownBlock = some b → ¬ S b) (h3 : ∀ b, f.iv.ownBlock = some b → ¬ S b) : FrAt w' N f :=
  ⟨(k.block _ (lt_of_heap h.1) h1).trans h.1, h.2.1, ownsRow_kept h.2.2.1 k h2, ownsRow_kept h.2.2.2 k h3⟩
theorem Trs.mono {w w' : World} {X Y : Nat → Prop} {ps : List Nat} {qs : List Q} (h : Trs w X ps qs) (hw : ∀ k, X k → w'.heap[k]? = w.heap[k]?) (hXY : ∀ k, X k → Y k) : Trs w' Y ps qs := by
  induction h with
  | nil => exact .nil
  | cons h _ ih => exact .cons (h.mono hw hXY) ih
theorem Trs.len {w : World} {X : Nat → Prop} {ps : List Nat} {qs : List Q} (h : Trs w X ps qs) : ps.length = qs.length := by
  induction h with
  | nil => rfl
  | cons _ _ ih => simp [ih]
theorem Trs.snoc {w : World} {X : Nat → Prop} {ps : List Nat} {qs : List Q} (h : Trs w X ps qs) {p : Nat} {q : Q} (hp : Tr w X p q) : Trs w X (ps ++ [p]) (qs ++ [q]) := by
  induction h with
  | nil => exact .cons hp .nil
  | cons h _ ih => exact .cons h ih
theorem Stk.frames {s : ByteArray} {w : World} {N : Nat} {X : Nat → Prop} : ∀ {fs : List Fq} {c : Nat} {ex : List Nat}, Stk s w N X fs c ex → ∀ f ∈ fs, FrAt w N f
  | [], _, _, h, _, _ => h.elim
  | [f], c, ex, h, g, hg => by simp at hg; subst hg; exact h.1
  | f :: f2 :: r, c, ex, h, g, hg => by
    rcases List.mem_cons.1 hg with rfl | hg
    · exact h.1
    · exact Stk.frames h.2.2.2 g hg
theorem Stk.keep {s : ByteArray} {w w' : World} {N : Nat} {X Y : Nat → Prop} {S : Nat → Prop} (k : Kept S w w') (hX : ∀ j, X j → w'.heap[j]? = w.heap[j]?) (hXY : ∀ j, X j → Y j) : ∀ {fs : List Fq} {c : Nat} {ex : List Nat}, Stk s w N X fs c ex → (∀ f ∈ fs, ¬ S f.P ∧ (∀ b, f.lv.ownBlock = some b → ¬ S b) ∧ (∀ b, f.iv.ownBlock = some b → ¬ S b)) → Stk s w' N Y fs c ex
  | [], _, _, h, _ => h.elim
  | [f], c, ex, h, hf => by obtain ⟨h1, h2, h3⟩ := hf f (by simp); exact ⟨h.1.keep k h1 h2 h3, h.2⟩
  | f :: f2 :: r, c, ex, h, hf => by
    obtain ⟨h1, h2, h3⟩ := hf f (by simp)
    obtain ⟨dp, e, ht⟩ := h.2.2.1
    exact ⟨h.1.keep k h1 h2 h3, h.2.1, ⟨dp, e, ht.mono hX hXY⟩, Stk.keep k hX hXY h.2.2.2 (fun g hg => hf g (List.mem_cons_of_mem _ hg))⟩
/-- A store that meets neither the open parts nor the finished ones. -/
theorem QI.keep {s : ByteArray} {w w' : World} {N : Nat} {X : Nat → Prop} {ov : Value} {fs : List Fq} {c : Nat} {ex : List Nat} {S : Nat → Prop} (h : QI s w N X ov fs c ex) (k : Kept S w w') (hS : ∀ j, S j → j < N ∨ w.heap.size ≤ j) : QI s w' N X ov fs c ex := by
  have big : ∀ j, N ≤ j → j < w.heap.size → ¬ S j := fun j h1 h2 h3 => by rcases hS j h3 with h4 | h4 <;> omega
  have hX : ∀ j, X j → w'.heap[j]? = w.heap[j]? := fun j hj => k.block j (h.own j hj).2 (big j (h.own j hj).1 (h.own j hj).2)
  refine ⟨Stk.keep k hX (fun _ e => e) h.stk (fun f hf => ?_), h.sep, ownsRow_kept h.list k (fun b hb => big b (own_base h.list b hb) (owns_lt h.list b hb)), h.len, fun j hj => ⟨(h.own j hj).1, Nat.lt_of_lt_of_le (h.own j hj).2 k.size⟩⟩
  have hA := Stk.frames h.stk f hf
  exact ⟨big _ hA.2.1 (lt_of_heap hA.1), fun b hb => big b (own_base hA.2.2.1 b hb) (owns_lt hA.2.2.1 b hb), fun b hb => big b (own_base hA.2.2.2 b hb) (owns_lt hA.2.2.2 b hb)⟩

theorem no_share {w : World} {t u : TypeId} (htu : t ≠ u) {base size n base' size' n' : Nat} {v v' : Value} {xs xs' : List Value} (h : w.ownsRow base t size v n xs) (h' : w.ownsRow base' u size' v' n' xs') {b : Nat} (hb : v.ownBlock = some b) : v'.ownBlock ≠ some b := fun hb' => by
  obtain ⟨c, z, h1⟩ := own_is h b hb
  exact htu ((own_is h' b hb').ne h1).symm
theorem not_cells {w : World} {t u : TypeId} (htu : t ≠ u) {base size n : Nat} {v : Value} {xs : List Value} (h : w.ownsRow base t size v n xs) {p : Nat} {c : Array Value} {z : Nat × Nat} (hp : w.heap[p]? = some (.cells c u z)) : v.ownBlock ≠ some p := fun hb => htu ((own_is h p hb).ne hp)
theorem tPP : (33 : TypeId) ≠ 61 := by decide
theorem tIP : (3 : TypeId) ≠ 61 := by decide
theorem tIA : (3 : TypeId) ≠ 33 := by decide
/-- What the store into the innermost open part's list leaves. -/
def MS (f : Fq) (k : Nat) : Prop := k = f.P ∨ f.iv.ownBlock = some k
section
variable {s : ByteArray} {w w' : World} {N : Nat} {X : Nat → Prop} {ov ov' : Value} {f g : Fq} {r : List Fq} {c : Nat} {ex : List Nat}
theorem Stk.exTop {ex' : List Nat} (h : Stk s w N X (f :: r) c ex) (he : ex = []) (hf : FrAt w N { f with ps := f.ps ++ ex' }) : Stk s w N X ({ f with ps := f.ps ++ ex' } :: r) c ex' := by
  subst he
  cases r with
  | nil => obtain ⟨h1, h2, h3, h4⟩ := h; exact ⟨hf, h2, by rw [h3]; rfl, h4⟩
  | cons g r =>
    obtain ⟨h1, h2, ⟨dp, e, ht⟩, h4⟩ := h
    refine ⟨hf, h2, ⟨dp, ?_, ht⟩, h4⟩
    show f.ps ++ ex' = dp ++ ex'
    rw [e, List.append_nil]
theorem QI.app (h : QI s w N X ov (f :: r) c []) {P : Nat} {iv' : Value} (hk : Kept (MS f) w w') (hP : w'.heap[f.P]? = some (.cells (partC f.h f.lv iv') 61 (0, 0)))
    (ho : w'.ownsRow N 33 1 iv' (f.ps.length + 1) (f.ps.map pV ++ [pV P])) (hfr : ∀ b, iv'.ownBlock = some b → f.iv.ownBlock = some b ∨ w.heap.size ≤ b) : QI s w' N X ov ({ f with iv := iv', ps := f.ps ++ [P] } :: r) c [P] := by
  have hF := Stk.frames h.stk
  have hf := hF f (by simp)
  have hnd := h.sep.parts
  simp only [List.map_cons, List.nodup_cons] at hnd
  have harr := h.sep.arrs
  simp only [List.map_cons, List.pairwise_cons] at harr
  have hX : ∀ j, X j → w'.heap[j]? = w.heap[j]? := fun j hj => hk.block j (h.own j hj).2 (fun e => by
    rcases e with rfl | e
    · exact (h.sep.out f (by simp)).1 hj
    · exact (h.sep.out f (by simp)).2.1 j e hj)
  have hlvS : ∀ b, f.lv.ownBlock = some b → ¬ MS f b := fun b hb e => by
    rcases e with rfl | e
    · exact not_cells tIP hf.2.2.1 hf.1 hb
    · exact no_share tIA hf.2.2.1 hf.2.2.2 hb e
  have hr : ∀ g ∈ r, ¬ MS f g.P ∧ (∀ b, g.lv.ownBlock = some b → ¬ MS f b) ∧ (∀ b, g.iv.ownBlock = some b → ¬ MS f b) := fun g hg => by
    have hgF := hF g (by simp [hg])
    refine ⟨fun e => ?_, fun b hb e => ?_, fun b hb e => ?_⟩
    · rcases e with e | e
      · exact hnd.1 (List.mem_map.2 ⟨g, hg, e⟩)
      · exact not_cells tPP hf.2.2.2 hgF.1 e
    · rcases e with rfl | e
      · exact not_cells tIP hgF.2.2.1 hf.1 hb
      · exact no_share tIA hgF.2.2.1 hf.2.2.2 hb e
    · rcases e with rfl | e
      · exact not_cells tPP hgF.2.2.2 hf.1 hb
      · exact (harr.2.1 _ (List.mem_map.2 ⟨g, hg, rfl⟩)) b e hb
  have hov : ∀ b, ov.ownBlock = some b → ¬ MS f b := fun b hb e => by
    rcases e with rfl | e
    · exact not_cells tPP h.list hf.1 hb
    · exact harr.1 _ (List.mem_cons_self ..) b hb e
  have hfA : FrAt w' N { f with iv := iv', ps := f.ps ++ [P] } := ⟨hP, hf.2.1, ownsRow_kept hf.2.2.1 hk hlvS, by
    show w'.ownsRow N _ 1 iv' (f.ps ++ [P]).length ((f.ps ++ [P]).map pV)
    rw [List.length_append, List.map_append]; exact ho⟩
  refine ⟨?_, ⟨h.sep.parts, ?_, h.sep.lvs, ?_, h.sep.ovout⟩, ownsRow_kept h.list hk hov, h.len, fun j hj => ⟨(h.own j hj).1, Nat.lt_of_lt_of_le (h.own j hj).2 hk.size⟩⟩
  · cases r with
    | nil => obtain ⟨h1, h2, h3, h4⟩ := h.stk; exact ⟨hfA, h2, by show f.ps ++ [P] = _; rw [h3]; rfl, h4⟩
    | cons g r =>
      obtain ⟨h1, h2, ⟨dp, e, ht⟩, h4⟩ := h.stk
      exact ⟨hfA, h2, ⟨dp, by show f.ps ++ [P] = _; rw [e, List.append_nil], ht.mono hX (fun _ e => e)⟩, Stk.keep hk hX (fun _ e => e) h4 hr⟩
  · simp only [List.map_cons, List.pairwise_cons]
    refine ⟨fun u hu b hb => ?_, fun u hu b hb => ?_, harr.2.2⟩
    · rcases List.mem_cons.1 hu with rfl | hu
      · intro e
        rcases hfr b e with e | e
        · exact harr.1 _ (List.mem_cons_self ..) b hb e
        · have := owns_lt h.list b hb; omega
      · exact harr.1 _ (List.mem_cons_of_mem _ hu) b hb
    · rcases hfr b hb with e | e
      · exact harr.2.1 _ hu b e
      · intro e2
        subst e2
        obtain ⟨g, hg, hgu⟩ := List.mem_map.1 hu
        have := owns_lt (hF g (by simp [hg])).2.2.2 b hgu; omega
  · intro g hg
    rcases List.mem_cons.1 hg with rfl | hg
    · refine ⟨(h.sep.out f (by simp)).1, fun b hb hXb => ?_, (h.sep.out f (by simp)).2.2⟩
      rcases hfr b hb with e | e
      · exact (h.sep.out f (by simp)).2.1 b e hXb
      · have := (h.own b hXb).2; omega
    · exact h.sep.out g (by simp [hg])
/-- A part that has just been read. -/
structure NewP (w : World) (N : Nat) (X : Nat → Prop) (fs : List Fq) (P : Nat) (h : Hd) (cs : List Nat) (lv : Value) : Prop where
  cell : w.heap[P]? = some (.cells (partC h lv sN) 61 (0, 0))
  base : N ≤ P
  cols : w.ownsRow N 3 1 lv cs.length (ints cs)
  out : ¬ X P
  lout : ∀ b, lv.ownBlock = some b → ¬ X b
  ne : ∀ g ∈ fs, g.P ≠ P
  lne : ∀ g ∈ fs, ∀ b, lv.ownBlock = some b → g.lv.ownBlock ≠ some b
theorem NewP.keep {S : Nat → Prop} {fs : List Fq} {P : Nat} {h : Hd} {cs : List Nat} {lv : Value} (hn : NewP w N X fs P h cs lv) (k : Kept S w w') (h1 : ¬ S P) (h2 : ∀ b, lv.ownBlock = some b → ¬ S b) : NewP w' N X fs P h cs lv :=
  ⟨(k.block _ (lt_of_heap hn.cell) h1).trans hn.cell, hn.base, ownsRow_kept hn.cols k h2, hn.out, hn.lout, hn.ne, hn.lne⟩
theorem NewP.app {P : Nat} {hd : Hd} {cs : List Nat} {lv : Value} {iv' : Value} {ps' : List Nat} (hq : QI s w N X ov (f :: r) c ex) (hn : NewP w N X (f :: r) P hd cs lv) (k : Kept (MS f) w w') : NewP w' N X ({ f with iv := iv', ps := ps' } :: r) P hd cs lv := by
  have hf := Stk.frames hq.stk f (by simp)
  have h1 : ¬ MS f P := fun e => by
    rcases e with e | e
    · exact hn.ne f (by simp) e.symm
    · exact not_cells tPP hf.2.2.2 hn.cell e
  have h2 : ∀ b, lv.ownBlock = some b → ¬ MS f b := fun b hb e => by
    rcases e with rfl | e
    · exact not_cells tIP hn.cols hf.1 hb
    · exact no_share tIA hn.cols hf.2.2.2 hb e
  have := hn.keep k h1 h2
  refine ⟨this.cell, this.base, this.cols, this.out, this.lout, fun g hg => ?_, fun g hg => ?_⟩
  · rcases List.mem_cons.1 hg with rfl | hg
    · exact hn.ne f (by simp)
    · exact hn.ne g (by simp [hg])
  · rcases List.mem_cons.1 hg with rfl | hg
    · exact hn.lne f (by simp)
    · exact hn.lne g (by simp [hg])
/-- A part whose brackets are opened. -/
theorem QI.push {P b : Nat} {hd : Hd} {cs : List Nat} {lv : Value} (h : QI s w N X ov (f :: r) c [P]) (hn : NewP w N X (f :: r) P hd cs lv) (hk : Kept (fun k => ov.ownBlock = some k) w w')
    (ho : w'.ownsRow N 33 1 ov' (f :: r).length.succ (((f :: r).map (·.P)).reverse.map pV ++ [pV P])) (hfr : ∀ b, ov'.ownBlock = some b → ov.ownBlock = some b ∨ w.heap.size ≤ b)
    (hl : (f :: r).length ≤ 6) (hFS : FS s (5 - r.length) ⟨P, hd, cs, lv, sN, [], [], c, b⟩ (b + 1)) :
    QI s w' N X ov' (⟨P, hd, cs, lv, sN, [], [], c, b⟩ :: f :: r) (b + 1) [] := by
  have hF := Stk.frames h.stk
  have harr := h.sep.arrs
  simp only [List.pairwise_cons] at harr
  have hX : ∀ j, X j → w'.heap[j]? = w.heap[j]? := fun j hj => hk.block j (h.own j hj).2 (fun e => h.sep.ovout j e hj)
  have hr : ∀ g ∈ f :: r, ¬ (ov.ownBlock = some g.P) ∧ (∀ b, g.lv.ownBlock = some b → ¬ (ov.ownBlock = some b)) ∧ (∀ b, g.iv.ownBlock = some b → ¬ (ov.ownBlock = some b)) := fun g hg => by
    have hgF := hF g hg
    exact ⟨fun e => not_cells tPP h.list hgF.1 e, fun b hb e => no_share tIA hgF.2.2.1 h.list hb e, fun b hb e => harr.1 _ (List.mem_map.2 ⟨g, hg, rfl⟩) b e hb⟩
  refine ⟨⟨⟨?_, hn.base, ?_, World.ownsRow_nil _ _ _ _⟩, hFS, ⟨[], rfl, .nil⟩, Stk.keep hk hX (fun _ e => e) h.stk hr⟩, ⟨?_, ?_, ?_, ?_, ?_⟩, ?_, by simp only [List.length_cons] at hl ⊢; omega, fun j hj => ⟨(h.own j hj).1, Nat.lt_of_lt_of_le (h.own j hj).2 hk.size⟩⟩
  · exact (hk.block _ (lt_of_heap hn.cell) (fun e => not_cells tPP h.list hn.cell e)).trans hn.cell
  · exact ownsRow_kept hn.cols hk (fun b hb e => no_share tIA hn.cols h.list hb e)
  · rw [List.map_cons, List.nodup_cons]
    refine ⟨fun hm => ?_, h.sep.parts⟩
    obtain ⟨g, hg, e⟩ := List.mem_map.1 hm
    exact hn.ne g hg e
  · simp only [List.map_cons, List.pairwise_cons]
    refine ⟨fun u hu b hb => ?_, fun u hu b hb => by simp [Value.ownBlock] at hb, ?_⟩
    · rcases List.mem_cons.1 hu with rfl | hu
      · simp [Value.ownBlock]
      · intro e
        subst e
        rcases hfr b hb with e | e
        · exact harr.1 _ (by simpa using hu) b e rfl
        · have hu' : some b ∈ (f :: r).map (·.iv.ownBlock) := by simpa using hu
          obtain ⟨g, hg, hgu⟩ := List.mem_map.1 hu'
          have := owns_lt (hF g hg).2.2.2 b hgu; omega
    · have := harr.2; simpa using this
  · rw [List.map_cons, List.pairwise_cons]
    refine ⟨fun u hu b hb e => ?_, h.sep.lvs⟩
    subst e
    obtain ⟨g, hg, hgu⟩ := List.mem_map.1 hu
    exact hn.lne g hg b hb hgu
  · intro g hg
    rcases List.mem_cons.1 hg with rfl | hg
    · exact ⟨hn.out, fun b hb => by simp [Value.ownBlock] at hb, hn.lout⟩
    · exact h.sep.out g hg
  · intro b hb hXb
    rcases hfr b hb with e | e
    · exact h.sep.ovout b e hXb
    · have := (h.own b hXb).2; omega
  · have e : ((⟨P, hd, cs, lv, sN, [], [], c, b⟩ :: f :: r : List Fq).map (·.P)).reverse.map pV = ((f :: r).map (·.P)).reverse.map pV ++ [pV P] := by simp
    rw [e]; exact ho
end
end Go.Proofs.YtdinjjmcmfjbfaaDoor
