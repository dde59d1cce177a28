/-
  What the walks of this seat share: 'Fr': which memory a call may turn; 'RP': the program's reader in memory; small facts on cells.
-/
import Derived.Test.YtdinjjmcmfjbfaaDoorHk
import Derived.Test.YtdinjjmcmfjbfaaDoorPure
import Derived.WalkKit
import Derived.WalkSpells
import Derived.WalkLawsBesides
import Derived.Deep.QuietTactic
import Derived.BigQuiet
namespace Go.Proofs.YtdinjjmcmfjbfaaDoor
open Go.RowKit

/-- Of the blocks that were there, none but B and 'row' has turned; the streams are as they were; no block has gone. -/
structure Fr (B : Nat) (row : Option Nat) (w w' : World) : Prop where
  os : w'.os = w.os
  tape : w'.tape = w.tape
  output : w'.output = w.output
  size : w.heap.size ≤ w'.heap.size
  block : ∀ k, k < w.heap.size → k ≠ B → some k ≠ row → w'.heap[k]? = w.heap[k]?

theorem Fr.refl (B : Nat) (row : Option Nat) (w : World) : Fr B row w w := ⟨rfl, rfl, rfl, Nat.le_refl _, fun _ _ _ _ => rfl⟩
theorem Fr.trans {B : Nat} {row row' : Option Nat} {a b c : World} (h : Fr B row a b) (k : Fr B row' b c) (hr : row' = none ∨ row' = row ∨ ∀ x, row' = some x → a.heap.size ≤ x) : Fr B row a c := by
  refine ⟨k.os.trans h.os, k.tape.trans h.tape, k.output.trans h.output, Nat.le_trans h.size k.size, fun i hi hB hrow => ?_⟩
  refine (k.block i (Nat.lt_of_lt_of_le hi h.size) hB fun e => ?_).trans (h.block i hi hB hrow)
  rcases hr with hr | hr | hr
  · rw [hr] at e; cases e
  · rw [hr] at e; exact hrow e
  · have := hr i e.symm; omega
theorem Fr.seq {B : Nat} {row : Option Nat} {a b c : World} (h : Fr B row a b) (k : Fr B none b c) : Fr B row a c := h.trans k (.inl rfl)
theorem Fr.drewN {B : Nat} {row : Option Nat} {a w : World} (h : Fr B row a w) (n : Nat) : Fr B row a (w.drewN n) := ⟨h.os, h.tape, h.output, h.size, h.block⟩
theorem Fr.drew {B : Nat} {row : Option Nat} {a w : World} (h : Fr B row a w) : Fr B row a w.drew := ⟨h.os, h.tape, h.output, h.size, h.block⟩
theorem Fr.setCell {B : Nat} {row : Option Nat} {a w : World} (h : Fr B row a w) (o : Nat) (u : Value) : Fr B row a (w.setCell ⟨B, o, none⟩ u) :=
  ⟨h.os, h.tape, h.output, by simpa [World.setCell] using h.size, fun k hk hB hr => (Below.heap_setCell _ _ _ _ hB).trans (h.block k hk hB hr)⟩
/-- A store into a block that was not there when the call began. -/
theorem Fr.setNew {B : Nat} {row : Option Nat} {a w : World} (h : Fr B row a w) {g o : Nat} (hg : a.heap.size ≤ g) (u : Value) : Fr B row a (w.setCell ⟨g, o, none⟩ u) :=
  ⟨h.os, h.tape, h.output, by simpa [World.setCell] using h.size, fun k hk hB hr => (Below.heap_setCell _ _ _ _ (by show k ≠ g; omega)).trans (h.block k hk hB hr)⟩
theorem Fr.alloc {B : Nat} {row : Option Nat} {a w : World} (h : Fr B row a w) (o : Obj) : Fr B row a (w.alloc o) :=
  ⟨h.os, h.tape, h.output, Nat.le_trans h.size (by simp), fun k hk hB hr => (Below.heap_alloc _ _ _ (Nat.lt_of_lt_of_le hk h.size)).trans (h.block k hk hB hr)⟩
theorem Fr.weaken {B : Nat} {row : Option Nat} {a w : World} (h : Fr B none a w) : Fr B row a w := ⟨h.os, h.tape, h.output, h.size, fun k hk hB _ => h.block k hk hB (by simp)⟩
theorem Fr.below {B : Nat} {row : Option Nat} {a w : World} (h : Fr B row a w) {b : Nat} (hB : b ≤ B) (hs : b ≤ a.heap.size) (hr : ∀ x, row = some x → b ≤ x) : Below b a w :=
  ⟨h.os, h.tape, h.output, h.size, fun k hk => h.block k (by omega) (by omega) (fun e => by have := hr k e.symm; omega)⟩

end Go.Proofs.YtdinjjmcmfjbfaaDoor
