/-
  The program's values as cells, and a slice of them in memory ('RowAt').
-/
import Derived.Test.YtdinjjmcmfjbfaaDoorHk
import Derived.Test.YtdinjjmcmfjbfaaDoorMo
namespace Go.Proofs.YtdinjjmcmfjbfaaDoor
open Go.RowKit
open Mo (V Row)

/-! ### values -/
def kI : V → Int
  | .num _ => 0
  | .txt _ => 1
def tB (v : V) (i : Nat) : Int := match v with
  | .num _ => 0
  | .txt s => ((s.getD i 0).toNat : Int)
def nI : V → Int
  | .num n => n
  | .txt _ => 0
def encV (v : V) : List Value := [.int .i32 (kI v), .int .u8 (tB v 0), .int .u8 (tB v 1), .int .u8 (tB v 2), .int .u8 (tB v 3), .int .i64 (nI v)]
def aggV (v : V) : Value := .agg (encV v).toArray
def VOk : V → Prop
  | .num n => -9223372036854775808 ≤ n ∧ n ≤ 9223372036854775807
  | .txt s => 1 ≤ s.length ∧ s.length ≤ 4 ∧ ∀ c ∈ s, 97 ≤ c.toNat ∧ c.toNat ≤ 122
theorem encV_len (v : V) : (encV v).length = 6 := rfl
theorem tB_range (v : V) (i : Nat) : 0 ≤ tB v i ∧ tB v i ≤ 255 := by
  cases v with
  | num n => simp [tB]
  | txt s => simp only [tB]; have := UInt8.toNat_lt (s.getD i 0); omega
theorem kI_range (v : V) : kI v = 0 ∨ kI v = 1 := by cases v <;> simp [kI]
theorem nI_range {v : V} (h : VOk v) : -9223372036854775808 ≤ nI v ∧ nI v ≤ 9223372036854775807 := by
  cases v with
  | num n => exact h
  | txt s => simp [nI]
/-- A text of no more than four letters, by its four bytes. -/
theorem txt_ext {s t : List UInt8} (hs : s.length ≤ 4) (ht : t.length ≤ 4) (ns : ∀ c ∈ s, 97 ≤ c.toNat) (nt : ∀ c ∈ t, 97 ≤ c.toNat) (h : ∀ i, i < 4 → tB (.txt s) i = tB (.txt t) i) : s = t := by
  refine List.ext_getElem? fun i => ?_
  by_cases hi : i < 4
  · have h1 := h i hi
    simp only [tB, List.getD_eq_getElem?_getD] at h1
    cases hs' : s[i]? with
    | none =>
      cases ht' : t[i]? with
      | none => rfl
      | some c =>
        rw [hs', ht'] at h1
        have := nt c (List.mem_of_getElem? ht')
        simp at h1; omega
    | some c =>
      cases ht' : t[i]? with
      | none =>
        rw [hs', ht'] at h1
        have := ns c (List.mem_of_getElem? hs')
        simp at h1; omega
      | some d =>
        rw [hs', ht'] at h1
        have : c.toNat = d.toNat := by simp at h1; omega
        rw [UInt8.toNat_inj.1 this]
  · rw [List.getElem?_eq_none (by omega), List.getElem?_eq_none (by omega)]
theorem encV_inj {v u : V} (hv : VOk v) (hu : VOk u) (h : encV v = encV u) : v = u := by
  simp only [encV, List.cons.injEq, Value.int.injEq, true_and, and_true] at h
  obtain ⟨hk, h0, h1, h2, h3, hn⟩ := h
  cases v with
  | num n => cases u with
    | num m => simp only [nI] at hn; rw [hn]
    | txt t => simp [kI] at hk
  | txt s => cases u with
    | num m => simp [kI] at hk
    | txt t =>
      rw [txt_ext hv.2.1 hu.2.1 (fun c hc => (hv.2.2 c hc).1) (fun c hc => (hu.2.2 c hc).1) (fun i hi => ?_)]
      match i, hi with
      | 0, _ => exact h0
      | 1, _ => exact h1
      | 2, _ => exact h2
      | 3, _ => exact h3
/-- A row lies at a slice of values. -/
def RowAt (w : World) (v : Value) (r : Row) : Prop := ∃ b o cap c z, v = .slice (some ⟨b, o, none⟩) r.length cap ∧ w.heap[b]? = some (.cells c 55 z) ∧ r.length ≤ cap ∧
  ∀ i v, r[i]? = some v → ∀ j x, (encV v)[j]? = some x → c[o + i * 6 + j]? = some x
theorem RowAt.kept {S : Nat → Prop} {w w' : World} {v : Value} {r : Row} (h : RowAt w v r) (k : Kept S w w') (hS : ∀ i, S i → ¬ Is 55 w i) : RowAt w' v r := by
  obtain ⟨b, o, cap, c, z, e, hb, hc⟩ := h
  exact ⟨b, o, cap, c, z, e, (k.block b (lt_of_heap hb) (fun hs => hS b hs ⟨c, z, hb⟩)).trans hb, hc⟩
theorem RowAt.keptNo {w w' : World} {v : Value} {r : Row} (h : RowAt w v r) (k : Kept No w w') : RowAt w' v r := h.kept k (fun _ e => e.elim)
end Go.Proofs.YtdinjjmcmfjbfaaDoor
