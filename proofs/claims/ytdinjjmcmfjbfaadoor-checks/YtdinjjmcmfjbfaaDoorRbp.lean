/-
  A part of a query as it lies in the document's memory, and the list of parts.
-/
import Derived.Test.YtdinjjmcmfjbfaaDoorRbc
namespace Go.Proofs.YtdinjjmcmfjbfaaDoor
open Go.RowKit

theorem infoOf60 : (Tryd.prog.info? 72).map (fun i => (i.zero, i.size, i.bytes)) = some (some (.agg #[.int .u8 0, .string ⟨#[]⟩, .slice none 0 0, .int .u8 0, .int .u8 0, .bool false, .int .i64 0, .string ⟨#[]⟩, .int .i64 0, .int .i64 0, .int .i64 0, .int .i64 0]), 12, 120) := by kernel_rfl

/-- A part under way lies in block g; its letter is vb. -/
def PB (g : Nat) (vb : Int) (w : World) : Prop := ∃ P : Array Value, w.heap[g]? = some (.cells P 72 (0, 0)) ∧ P.size = 12 ∧ P[0]? = some (.int .u8 vb) ∧ ∀ (i : Nat) (v : Value), P[i]? = some v → v.oneCell' = true
section
variable {g : Nat} {vb : Int} {w w' : World}
theorem PB.cell (h : PB g vb w) {i : Nat} (hi : i < 12) : ∃ v, w.cell? ⟨g, i, none⟩ = some v := by
  obtain ⟨P, h1, h2, _⟩ := h
  exact ⟨P[i], by rw [cell_of h1]; exact Array.getElem?_eq_getElem (by omega)⟩
theorem PB.verb (h : PB g vb w) : w.cell? ⟨g, 0, none⟩ = some (.int .u8 vb) := by
  obtain ⟨P, h1, _, h3, _⟩ := h
  rw [cell_of h1]; exact h3
theorem PB.fz (h : PB g vb w) (i : Nat) : w.frozen? ⟨g, i, none⟩ = false := by
  obtain ⟨P, h1, _⟩ := h
  exact frozen_of h1 i
theorem PB.lt (h : PB g vb w) : g < w.heap.size := by
  obtain ⟨P, h1, _⟩ := h
  exact lt_of_heap h1
theorem PB.set (h : PB g vb w) {i : Nat} (hi : 0 < i) {v : Value} (hv : v.oneCell' = true) : PB g vb (w.setCell ⟨g, i, none⟩ v) := by
  obtain ⟨P, h1, h2, h3, h4⟩ := h
  refine ⟨P.setIfInBounds i v, heap_set h1 i v, by simp [h2], ?_, fun k u hk => ?_⟩
  · rw [Array.getElem?_setIfInBounds, if_neg (by omega)]; exact h3
  · rw [Array.getElem?_setIfInBounds] at hk
    split at hk
    · split at hk
      · injection hk with hk; rw [← hk]; exact hv
      · cases hk
    · exact h4 k u hk
theorem PB.setVerb (h : PB g vb w) (vc : Int) : PB g vc (w.setCell ⟨g, 0, none⟩ (.int .u8 vc)) := by
  obtain ⟨P, h1, h2, h3, h4⟩ := h
  refine ⟨P.setIfInBounds 0 _, heap_set h1 0 _, by simp [h2], ?_, fun k u hk => ?_⟩
  · rw [Array.getElem?_setIfInBounds, if_pos rfl, if_pos (by omega)]
  · rw [Array.getElem?_setIfInBounds] at hk
    split at hk
    · split at hk
      · injection hk with hk; rw [← hk]; rfl
      · cases hk
    · exact h4 k u hk
theorem PB.keep (h : PB g vb w) (he : w'.heap[g]? = w.heap[g]?) : PB g vb w' := by
  obtain ⟨P, h1, h2⟩ := h
  exact ⟨P, he.trans h1, h2⟩
theorem PB.frame {B : Nat} {row : Option Nat} (h : PB g vb w) (hf : Fr B row w w') (hB : g ≠ B) (hr : some g ≠ row) : PB g vb w' := h.keep (hf.block g h.lt hB hr)
theorem PB.other (h : PB g vb w) {b o : Nat} (hb : g ≠ b) (v : Value) : PB g vb (w.setCell ⟨b, o, none⟩ v) := h.keep (Below.heap_setCell _ _ _ _ hb)
theorem PB.drew (h : PB g vb w) : PB g vb w.drew := h
/-- The part's twelve cells, written out. -/
theorem PB.cells (h : PB g vb w) : ∃ p1 p2 p3 p4 p5 p6 p7 p8 p9 p10 p11 : Value, w.heap[g]? = some (.cells #[.int .u8 vb, p1, p2, p3, p4, p5, p6, p7, p8, p9, p10, p11] 72 (0, 0)) ∧ ∀ u ∈ [.int .u8 vb, p1, p2, p3, p4, p5, p6, p7, p8, p9, p10, p11], u.oneCell' = true := by
  obtain ⟨⟨l⟩, h1, h2, h3, h4⟩ := h
  match l, h2, h3, h4, h1 with
  | [q0, p1, p2, p3, p4, p5, p6, p7, p8, p9, p10, p11], _, h3, h4, h1 =>
    simp at h3
    subst h3
    refine ⟨p1, p2, p3, p4, p5, p6, p7, p8, p9, p10, p11, h1, fun u hu => ?_⟩
    obtain ⟨i, hi⟩ := List.getElem?_of_mem hu
    exact h4 i u (by simpa using hi)
end
/-- The parts that are done: a slice of the document's own; m of them. -/
def PO (B : Nat) (pv : Value) (m : Nat) (w : World) : Prop := ∃ xs, w.ownsRow (B + 1) 72 12 pv m xs
theorem PO.frame {B : Nat} {pv : Value} {m : Nat} {w w' : World} {row : Option Nat} (h : PO B pv m w) (hf : Fr B row w w') (hr : row = none) : PO B pv m w' := by
  obtain ⟨xs, h⟩ := h
  subst hr
  refine ⟨xs, ownsRow_frame h hf (fun x => by have := (h.lt B x).1; omega) ?_⟩
  cases hv : pv.ownBlock
  · exact .inl rfl
  · exact .inr (by simp)
theorem PO.lt {B : Nat} {pv : Value} {m : Nat} {w : World} (h : PO B pv m w) : ∀ k, pv.ownBlock = some k → B + 1 ≤ k ∧ k < w.heap.size := by
  obtain ⟨xs, h⟩ := h
  exact h.lt
theorem PO.alloc {B : Nat} {pv : Value} {m : Nat} {w : World} (h : PO B pv m w) (o : Obj) : PO B pv m (w.alloc o) := by
  obtain ⟨xs, h⟩ := h
  exact ⟨xs, h.alloc o⟩
/-- A store into a block that is not the list's. -/
theorem PO.other {B : Nat} {pv : Value} {m : Nat} {w : World} (h : PO B pv m w) {b o : Nat} (hb : some b ≠ pv.ownBlock) (v : Value) : PO B pv m (w.setCell ⟨b, o, none⟩ v) := by
  obtain ⟨xs, h1, h2⟩ := h
  refine ⟨xs, h1, ?_⟩
  rcases h2 with h2 | ⟨g, cap, cur, hv, hg, hh, r⟩
  · exact .inl h2
  · exact .inr ⟨g, cap, cur, hv, hg, by rw [Below.heap_setCell _ _ _ _ (by show g ≠ b; intro x; apply hb; rw [hv, ← x]; rfl)]; exact hh, r⟩
/-- The list's value, for a slot. -/
theorem PO.form {B : Nat} {pv : Value} {m : Nat} {w : World} (h : PO B pv m w) : ∃ ad n c, pv = .slice ad n c := by
  obtain ⟨xs, _, h2⟩ := h
  rcases h2 with ⟨h2, _⟩ | ⟨g, cap, cur, hv, _⟩
  · exact ⟨_, _, _, h2⟩
  · exact ⟨_, _, _, hv⟩

theorem has_no (B : Nat) (s : ByteArray) (a d e j c : Nat) (ci : Int) (pv : Value) (w : World) (hs : s.size ≤ 120) (hc : 0 < c) (hci : ci = (c : Int)) (h : RR B s a d e j pv w) (hn : sn s e c c a = false) :
    Calls Tryd.prog 23 #[.pointer (some ⟨B, 0, none⟩), .int .u8 ci] w fun en w' => en = .returned (.bool false) ∧ RR B s a d e j pv w' ∧ Fr B none w w' := by
  refine (has_any B s a d e j c ci pv w hs hc hci h).mono ?_
  rintro en w1 ⟨ok, a1, rfl, h1, k1, p1, f1⟩
  have h1 := h1.out
  rw [hn] at h1
  subst h1
  rw [show a1 = a from k1] at p1
  exact ⟨rfl, p1, f1⟩
theorem has_yes (B : Nat) (s : ByteArray) (a d e j c : Nat) (ci : Int) (pv : Value) (w : World) (hs : s.size ≤ 120) (hc : 0 < c) (hci : ci = (c : Int)) (h : RR B s a d e j pv w) (hn : sn s e c c a = true) :
    Calls Tryd.prog 23 #[.pointer (some ⟨B, 0, none⟩), .int .u8 ci] w fun en w' => en = .returned (.bool true) ∧ RR B s (a + 1) d e j pv w' ∧ Fr B none w w' := by
  refine (has_any B s a d e j c ci pv w hs hc hci h).mono ?_
  rintro en w1 ⟨ok, a1, rfl, h1, k1, p1, f1⟩
  have h1 := h1.out
  rw [hn] at h1
  subst h1
  rw [show a1 = a + 1 from k1] at p1
  exact ⟨rfl, p1, f1⟩
end Go.Proofs.YtdinjjmcmfjbfaaDoor
