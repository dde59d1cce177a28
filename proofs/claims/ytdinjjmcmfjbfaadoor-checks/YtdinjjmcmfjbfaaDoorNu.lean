/-
  Numerals: what a number's text says.
-/

import Derived.Test.YtdinjjmcmfjbfaaDoorPure
import Derived.Lib.ParseIntBCases
namespace Go.Proofs.YtdinjjmcmfjbfaaDoor

def decVal : List UInt8 → Nat := fun l => l.foldl (fun a c => a * 10 + (c.toNat - 48)) 0

def isDig (c : UInt8) : Prop := 48 ≤ c.toNat ∧ c.toNat ≤ 57
/-- What a numeral's text says. -/
def numOf (l : List UInt8) : Int := match l with
  | [] => 0
  | c :: r => if c = 45 then -(decVal r : Int) else (decVal (c :: r) : Int)
theorem decVal_fold : ∀ (l : List UInt8) (acc : Nat), l.foldl (fun a c => a * 10 + (c.toNat - 48)) acc = acc * 10 ^ l.length + decVal l
  | [], acc => by simp [decVal]
  | c :: l, acc => by
    have h1 := decVal_fold l (acc * 10 + (c.toNat - 48))
    have h2 := decVal_fold l (c.toNat - 48)
    have h3 : decVal (c :: l) = l.foldl (fun a c => a * 10 + (c.toNat - 48)) (c.toNat - 48) := by simp [decVal]
    simp only [List.foldl_cons]
    rw [h1, h3, h2, List.length_cons, Nat.pow_succ, Nat.add_mul, Nat.mul_assoc, Nat.mul_comm 10]
    omega
theorem uint_digits : ∀ (l : List UInt8) (acc M : Nat), (∀ c ∈ l, isDig c) → M ≤ 18446744073709551615 → acc * 10 ^ l.length + decVal l ≤ M → Lib.parseUintM M acc l = .ok (acc * 10 ^ l.length + decVal l)
  | [], acc, M, _, _, _ => by simp [Lib.parseUintM, decVal]
  | c :: l, acc, M, hd, hM, h => by
    have hc : 48 ≤ c.toNat ∧ c.toNat ≤ 57 := hd c (by simp)
    have h3 : decVal (c :: l) = (c.toNat - 48) * 10 ^ l.length + decVal l := by
      have := decVal_fold l (c.toNat - 48)
      simp only [decVal, List.foldl_cons, Nat.zero_mul, Nat.zero_add] at this ⊢
      exact this
    have hp : 0 < 10 ^ l.length := Nat.pow_pos (by omega)
    have e1 : acc * 10 ^ (c :: l).length + decVal (c :: l) = (acc * 10 + (c.toNat - 48)) * 10 ^ l.length + decVal l := by
      rw [h3, List.length_cons, Nat.pow_succ, Nat.add_mul, Nat.mul_assoc, Nat.mul_comm 10]; omega
    rw [e1] at h ⊢
    have hle : acc * 10 + (c.toNat - 48) ≤ (acc * 10 + (c.toNat - 48)) * 10 ^ l.length := Nat.le_mul_of_pos_right _ hp
    rw [Lib.parseUintM, if_pos hc, if_neg (by omega), if_neg (by omega)]
    exact uint_digits l _ M (fun x hx => hd x (by simp [hx])) hM h
/-- One to four digits. -/
def Digs (l : List UInt8) : Prop := l ≠ [] ∧ l.length ≤ 4 ∧ ∀ c ∈ l, isDig c
theorem decVal_lt {l : List UInt8} (h : ∀ c ∈ l, isDig c) : decVal l < 10 ^ l.length := by
  induction l with
  | nil => simp [decVal]
  | cons c l ih =>
    have h3 : decVal (c :: l) = (c.toNat - 48) * 10 ^ l.length + decVal l := by
      have := decVal_fold l (c.toNat - 48)
      simp only [decVal, List.foldl_cons, Nat.zero_mul, Nat.zero_add] at this ⊢
      exact this
    have ih' := ih (fun x hx => h x (by simp [hx]))
    have hc := h c (by simp)
    unfold isDig at hc
    have hm : (c.toNat - 48) * 10 ^ l.length ≤ 9 * 10 ^ l.length := Nat.mul_le_mul_right _ (by omega)
    rw [h3, List.length_cons, Nat.pow_succ]; omega
theorem decVal_lt4 {l : List UInt8} (h : Digs l) : decVal l ≤ 9999 := by
  have h1 := decVal_lt h.2.2
  have h2 : 10 ^ l.length ≤ 10 ^ 4 := Nat.pow_le_pow_right (by omega) h.2.1
  omega
/-- What a number's text looks like. -/
def Numeral (l : List UInt8) : Prop := Digs l ∨ ∃ d, l = 45 :: d ∧ Digs d
theorem numOf_le {l : List UInt8} (h : Numeral l) : -9999 ≤ numOf l ∧ numOf l ≤ 9999 := by
  rcases h with h | ⟨d, rfl, h⟩
  · have := decVal_lt4 h
    cases l with
    | nil => exact absurd rfl h.1
    | cons c r =>
      have hc := h.2.2 c (by simp)
      have h45 : c ≠ 45 := fun e => by subst e; unfold isDig at hc; simp at hc
      simp only [numOf, if_neg h45]; omega
  · have := decVal_lt4 h
    simp only [numOf, if_pos]; omega
theorem parse_ok {l : List UInt8} (h : Numeral l) : Lib.parseIntB 64 l = .ok (numOf l) := by
  have hu : ∀ d, Digs d → Lib.parseUintB 64 d = .ok (decVal d) := fun d hd => by
    have := decVal_lt4 hd
    unfold Lib.parseUintB
    rw [if_neg hd.1, uint_digits d 0 (2 ^ 64 - 1) hd.2.2 (by decide) (by omega)]
    simp
  rcases h with h | ⟨d, rfl, h⟩
  · have hv := decVal_lt4 h
    have hu' := hu l h
    cases l with
    | nil => exact absurd rfl h.1
    | cons c r =>
      have hc := h.2.2 c (by simp)
      unfold isDig at hc
      have h45 : c ≠ 45 := fun e => by subst e; simp at hc
      rw [Lib.parseIntB, if_neg (by omega), hu']
      simp only [numOf, if_neg h45]
      rw [if_neg (by omega), if_neg (by omega), if_neg (by omega)]
  · have hv := decVal_lt4 h
    rw [Lib.parseIntB, if_pos (by simp), hu d h]
    have e45 : (45 : UInt8).toNat = 45 := rfl
    simp only [numOf, if_pos, e45]
    rw [if_neg (by simp), if_neg (by omega)]

/-! ### pieces of a text -/
def sub (s : ByteArray) (a b : Nat) : List UInt8 := (s.extract a b).data.toList
theorem sub_eq (s : ByteArray) (a b : Nat) : sub s a b = (s.data.toList.take b).drop a := by
  simp [sub, ByteArray.data_extract, Array.toList_extract, List.extract_eq_take_drop, List.drop_take]
theorem ba_len (s : ByteArray) : s.data.toList.length = s.size := by rw [Array.length_toList]; rfl
theorem bt_get (s : ByteArray) (i : Nat) : s.data.toList[i]?.map (·.toNat) = if i < s.size then some (Pl.bt s i) else none := by
  by_cases h : i < s.size
  · rw [if_pos h]
    have h' : i < s.data.toList.length := by rw [ba_len]; exact h
    rw [List.getElem?_eq_getElem h']
    simp only [Option.map_some, Option.some.injEq, Pl.bt, dif_pos h]
    rfl
  · rw [if_neg h, List.getElem?_eq_none (by rw [ba_len]; omega)]; rfl
theorem sub_len {s : ByteArray} {a b : Nat} (hb : b ≤ s.size) : (sub s a b).length = b - a := by
  rw [sub_eq, List.length_drop, List.length_take]
  have := ba_len s
  omega
theorem sub_get {s : ByteArray} {a b : Nat} (hb : b ≤ s.size) {i : Nat} {c : UInt8} (h : (sub s a b)[i]? = some c) : a + i < b ∧ c.toNat = Pl.bt s (a + i) := by
  have hi := (List.getElem?_eq_some_iff.1 h).1
  rw [sub_len hb] at hi
  refine ⟨by omega, ?_⟩
  rw [sub_eq, List.getElem?_drop, List.getElem?_take, if_pos (by omega)] at h
  have := bt_get s (a + i)
  rw [h, if_pos (by omega)] at this
  simpa using this
theorem sub_mem {s : ByteArray} {a b : Nat} (hb : b ≤ s.size) {c : UInt8} (h : c ∈ sub s a b) : ∃ i, a ≤ i ∧ i < b ∧ c.toNat = Pl.bt s i := by
  obtain ⟨i, hi⟩ := List.getElem?_of_mem h
  obtain ⟨h1, h2⟩ := sub_get hb hi
  exact ⟨a + i, by omega, h1, h2⟩
theorem many_range (s : ByteArray) (lo hi : Nat) : ∀ k a i, a ≤ i → i < Pl.many s lo hi k a → lo ≤ Pl.bt s i ∧ Pl.bt s i ≤ hi
  | 0, a, i, h1, h2 => by simp [Pl.many] at h2; omega
  | k + 1, a, i, h1, h2 => by
    by_cases h : lo ≤ Pl.bt s a ∧ Pl.bt s a ≤ hi
    · rw [Pl.many_in h] at h2
      by_cases e : i = a
      · subst e; exact h
      · exact many_range s lo hi k (a + 1) i (by omega) h2
    · rw [Pl.many_out h] at h2; omega
theorem many_bound (s : ByteArray) (lo hi : Nat) : ∀ k a, Pl.many s lo hi k a ≤ a + k
  | 0, a => by simp [Pl.many]
  | k + 1, a => by
    unfold Pl.many; split
    · have := many_bound s lo hi k (a + 1); omega
    · omega
theorem sev_sub {s : ByteArray} {k lo hi a a' : Nat} (h0 : 0 < lo) (ha : a ≤ s.size) (h : Pl.sev s k lo hi a = (true, a')) : a < a' ∧ a' ≤ s.size ∧ a' ≤ a + k ∧ ∀ c ∈ sub s a a', lo ≤ c.toNat ∧ c.toNat ≤ hi := by
  unfold Pl.sev at h
  injection h with h1 h2
  have hlt : a < Pl.many s lo hi k a := by simpa using h1
  subst h2
  have hsz := Pl.many_size (s := s) (lo := lo) (hi := hi) h0 k a ha
  refine ⟨hlt, hsz, many_bound s lo hi k a, fun c hc => ?_⟩
  obtain ⟨i, h1, h2, h3⟩ := sub_mem hsz hc
  rw [h3]; exact many_range s lo hi k a i h1 h2
end Go.Proofs.YtdinjjmcmfjbfaaDoor
