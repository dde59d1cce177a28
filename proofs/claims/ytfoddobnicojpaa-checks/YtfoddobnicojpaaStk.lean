/-
  The list of open brackets as it lies in the program's array of six: of each how many queries are awaited.
-/
import Derived.Test.YtfoddobnicojpaaHeads
namespace Go.Proofs.Ytfoddobnicojpaa
open Go.RowKit

def Stk (aw : Array Value) (st : List Nat) : Prop :=
  aw.size = 6 ∧ (∀ (i n : Nat), st.reverse[i]? = some n → aw[i]? = some (Value.int .i64 (n : Int))) ∧ ∀ n ∈ st, n = 1 ∨ n = 2

theorem Stk.nil {aw : Array Value} (h : aw.size = 6) : Stk aw [] := ⟨h, by simp, by simp⟩
theorem Stk.top {aw : Array Value} {st : List Nat} {n : Nat} (h : Stk aw (n :: st)) : aw[st.length]? = some (Value.int .i64 (n : Int)) := h.2.1 _ _ (by simp)
theorem Stk.pop {aw : Array Value} {st : List Nat} {n : Nat} (h : Stk aw (n :: st)) : Stk aw st := by
  refine ⟨h.1, fun i m hi => h.2.1 i m ?_, fun m hm => h.2.2 m (by simp [hm])⟩
  have hl := (List.getElem?_eq_some_iff.1 hi).1
  rw [List.reverse_cons, List.getElem?_append_left hl]; exact hi
theorem Stk.push {aw : Array Value} {st : List Nat} (h : Stk aw st) {n : Nat} (hn : n = 1 ∨ n = 2) (hl : st.length < 6) : Stk (aw.setIfInBounds st.length (Value.int .i64 (n : Int))) (n :: st) := by
  refine ⟨by simp [h.1], fun i m hi => ?_, fun m hm => ?_⟩
  · rw [List.reverse_cons] at hi
    by_cases hlt : i < st.length
    · rw [List.getElem?_append_left (by simpa using hlt)] at hi
      rw [Array.getElem?_setIfInBounds, if_neg (by omega)]; exact h.2.1 i m hi
    · rw [List.getElem?_append_right (by simpa using hlt)] at hi
      have hi' := (List.getElem?_eq_some_iff.1 hi).1
      simp at hi'
      have : i = st.length := by omega
      subst this
      simp at hi
      rw [Array.getElem?_setIfInBounds, if_pos rfl, if_pos (by rw [h.1]; exact hl), hi]
  · rcases List.mem_cons.1 hm with rfl | hm
    · exact hn
    · exact h.2.2 m hm
theorem Stk.change {aw : Array Value} {st : List Nat} {n m : Nat} (h : Stk aw (n :: st)) (hm : m = 1 ∨ m = 2) (hl : st.length < 6) : Stk (aw.setIfInBounds st.length (Value.int .i64 (m : Int))) (m :: st) := h.pop.push hm hl
/-- The innermost entry at 0: what is below it stays. -/
theorem Stk.drop {aw : Array Value} {st : List Nat} {n : Nat} {v : Value} (h : Stk aw (n :: st)) : Stk (aw.setIfInBounds st.length v) st := by
  refine ⟨by simp [h.1], fun i m hi => ?_, h.pop.2.2⟩
  have hl := (List.getElem?_eq_some_iff.1 hi).1
  simp at hl
  rw [Array.getElem?_setIfInBounds, if_neg (by omega)]; exact h.pop.2.1 i m hi
theorem Stk.some {aw : Array Value} {st : List Nat} (h : Stk aw st) {i : Nat} (hi : i < 6) : ∃ v, aw[i]? = some v := ⟨_, Array.getElem?_eq_getElem (by rw [h.1]; exact hi)⟩
end Go.Proofs.Ytfoddobnicojpaa
