/-
  The program's reader of a part's head, by the part's kind: its answer and place, and what it leaves in the part.
-/
import Derived.Test.YtdinjjmcmfjbfaaDoorRc2
import Derived.Test.YtdinjjmcmfjbfaaDoorPlain
import Derived.Test.YtdinjjmcmfjbfaaDoorQq
namespace Go.Proofs.YtdinjjmcmfjbfaaDoor
open Go.RowKit
open Mo (V Row Opd)

def isC : Opd → Bool
  | .col _ => true
  | .val _ => false
def colI : Opd → Nat
  | .col c => c
  | .val _ => 0
def vO : Opd → V
  | .col _ => .num 0
  | .val v => v
/-- What a part has ahead of its brackets, but for its columns. -/
structure Hd where
  k : Nat
  nm : List UInt8
  cmp : Nat
  l : Opd
  r : Opd
  w : Opd
abbrev zO : Opd := .val (.num 0)
/-- A part's cells. -/
def partC (h : Hd) (cols ins : Value) : Array Value :=
  #[.int .i64 (h.k : Int), .string ⟨h.nm.toArray⟩, .int .i64 (h.cmp : Int),
    .bool (isC h.l), .int .i64 (colI h.l : Int), .int .i32 (kI (vO h.l)), .int .u8 (tB (vO h.l) 0), .int .u8 (tB (vO h.l) 1), .int .u8 (tB (vO h.l) 2), .int .u8 (tB (vO h.l) 3), .int .i64 (nI (vO h.l)),
    .bool (isC h.r), .int .i64 (colI h.r : Int), .int .i32 (kI (vO h.r)), .int .u8 (tB (vO h.r) 0), .int .u8 (tB (vO h.r) 1), .int .u8 (tB (vO h.r) 2), .int .u8 (tB (vO h.r) 3), .int .i64 (nI (vO h.r)),
    cols,
    .bool (isC h.w), .int .i64 (colI h.w : Int), .int .i32 (kI (vO h.w)), .int .u8 (tB (vO h.w) 0), .int .u8 (tB (vO h.w) 1), .int .u8 (tB (vO h.w) 2), .int .u8 (tB (vO h.w) 3), .int .i64 (nI (vO h.w)),
    ins]
theorem partC_size (h : Hd) (c i : Value) : (partC h c i).size = 29 := rfl
abbrev sN : Value := .slice none 0 0
def operV (s : ByteArray) (a : Nat) : Opd :=
  if Pl.bt s a = 35 then .val (.num (numOf (sub s (a + 1) (Pl.numP s (a + 1)).2)))
  else if Pl.bt s a = 36 then .val (.txt (sub s (a + 1) (Pl.let4 s (a + 1)).2)) else .col (dgN s a)
def wtV (s : ByteArray) (a : Nat) : Opd := if Pl.bt s a = 115 then .col (dgN s (a + 1)) else .val (.num 1)
/-- What stands behind a group's columns. -/
def grpB (s : ByteArray) (a : Nat) : Nat := (Pl.orP (Pl.tk s 93) (Pl.colsP s 5) (a + 2)).2
/-- The columns of a head. -/
def hcs (s : ByteArray) (k a : Nat) : List Nat :=
  if k = 3 then colsV s 5 (a + 2) else if k = 7 then (if Pl.bt s (a + 2) = 93 then [] else colsV s 5 (a + 2)) else []
def hdV (s : ByteArray) (k a : Nat) : Hd :=
  if k = 1 then ⟨1, sub s a (Pl.let4 s a).2, 0, zO, zO, zO⟩
  else if k = 2 then ⟨2, [], cmN s (a + 3), .col (dgN s (a + 2)), operV s (a + 4), zO⟩
  else if k = 4 then ⟨4, [], 0, .col (dgN s (a + 2)), .col (dgN s (a + 4)), zO⟩
  else if k = 7 then ⟨7, [], 0, zO, zO, wtV s (grpB s a + 1)⟩
  else ⟨k, [], 0, zO, zO, zO⟩
theorem opC_part (s : ByteArray) (k cm : Nat) (l : Opd) (cols ins : Value) (a : Nat) : opC s (partC ⟨k, [], cm, l, zO, zO⟩ cols ins) 11 a = partC ⟨k, [], cm, l, operV s a, zO⟩ cols ins := by
  unfold opC operV
  split
  · rfl
  · split <;> rfl
theorem wtC_part (s : ByteArray) (k : Nat) (cols ins : Value) (a : Nat) : wtC s (partC ⟨k, [], 0, zO, zO, zO⟩ cols ins) 20 a = partC ⟨k, [], 0, zO, zO, wtV s a⟩ cols ins := by
  unfold wtC wtV
  split <;> rfl
theorem sub_str (s : ByteArray) (a b : Nat) : (⟨(sub s a b).toArray⟩ : ByteArray) = s.extract a b := by
  show (⟨(s.extract a b).data.toList.toArray⟩ : ByteArray) = _
  rw [Array.toArray_toList]
theorem oneOf_at {s : ByteArray} {a a' : Nat} (h : Pl.oneOf s a = (true, a')) : a + 1 = a' := by
  unfold Pl.oneOf at h
  split at h
  · injection h
  · injection h with h; cases h
theorem dig_at2 {s : ByteArray} {a a' : Nat} (h : Pl.dig s a = (true, a')) : a + 1 = a' := (dig_at h).symm
theorem tk_at2 {s : ByteArray} {c a a' : Nat} (h : Pl.tk s c a = (true, a')) : a + 1 = a' := by
  rcases tk_at h with ⟨_, _, e⟩ | ⟨e, _⟩
  · exact e
  · cases e
/-- How 'head' ends. -/
def HeadEnd (B P : Nat) (s : ByteArray) (w : World) (k a : Nat) (e : Ending) (w' : World) : Prop :=
  ∃ ok a' d, Pl.headP s k a = (ok, a') ∧ e = .returned (.bool ok) ∧ RP B s a' w' ∧ Kept (fun k => k = B ∨ k = P) w w' ∧ w'.heap[P]? = some (.cells d 61 (0, 0)) ∧ d.size = 29 ∧
    (ok = true → ∃ lv, d = partC (hdV s k a) lv sN ∧ w'.ownsRow w.heap.size 3 1 lv (hcs s k a).length (ints (hcs s k a)))

set_option maxRecDepth 100000 in
set_option maxHeartbeats 4000000 in
theorem head2 (B P : Nat) (s : ByteArray) (a : Nat) (w : World) (hs : s.size ≤ 1000) (hne : P ≠ B) (h : RP B s a w) (hP : w.heap[P]? = some (.cells (partC ⟨2, [], 0, zO, zO, zO⟩ sN sN) 61 (0, 0))) :
    Calls Tryd.prog 16 #[.pointer (some ⟨B, 0, none⟩), .pointer (some ⟨P, 0, none⟩)] w (HeadEnd B P s w 2 a) := by
  have P0 := hid h
  have HP0 := hid hP
  have hl0 := lt_of_heap hP
  have kc : w.cell? ⟨P, 0, none⟩ = some (.int .i64 2) := by rw [cell_of hP]; rfl
  have K0 : Hid (Kept (fun k => k = B ∨ k = P) w w) := Kept.refl _ _
  clear h hP
  go_enter Tryd.func16, Tryd.ntmps16
  go_wp2_with fail
  refine (take_any B s (a) 83 83 _ hs (by omega) rfl P0.out).mono ?_
  rintro e w1 ⟨ok1, a1, x1, rfl, p1, f1⟩
  have HP1 := hid ((f1.block P hl0 hne).trans HP0.out)
  have K1 : Hid (Kept (fun k => k = B ∨ k = P) w w1) := K0.out.seq (f1.mono (fun _ _ e => .inl e))
  have P1 := hid p1
  have hl1 := lt_of_heap HP1.out
  have X1 := hid x1
  cases ok1
  · clear x1 p1 f1
    go_wp2_with fail
    go_ret
    exact ⟨false, a1, _, by show Pl.selP s a = _; unfold Pl.selP; rw [Pl.andP_false X1.out], rfl, P1.out, K1.out, HP1.out, rfl, by simp⟩
  obtain rfl := tk_at2 x1
  clear x1 p1 f1
  clear kc
  go_wp2_with fail
  refine (take_any B s (a + 1) 91 91 _ hs (by omega) rfl P1.out).mono ?_
  rintro e w2 ⟨ok2, a2, x2, rfl, p2, f2⟩
  have HP2 := hid ((f2.block P hl1 hne).trans HP1.out)
  have K2 : Hid (Kept (fun k => k = B ∨ k = P) w w2) := K1.out.seq (f2.mono (fun _ _ e => .inl e))
  have P2 := hid p2
  have hl2 := lt_of_heap HP2.out
  have X2 := hid x2
  cases ok2
  · clear x2 p2 f2
    go_wp2_with fail
    go_ret
    exact ⟨false, a2, _, by show Pl.selP s a = _; unfold Pl.selP; rw [Pl.andP_true X1.out, Pl.andP_false X2.out], rfl, P2.out, K2.out, HP2.out, rfl, by simp⟩
  obtain rfl := tk_at2 x2
  clear x2 p2 f2
  go_wp2_with fail
  refine (operandColumn_any B P 3 s (a + 1 + 1) (partC ⟨2, [], 0, zO, zO, zO⟩ sN sN) 61 _ hs hne P2.out HP2.out (by rw [partC_size]; omega)).mono ?_
  rintro e w3 ⟨ok3, a3, d3, x3, rfl, p3, k3, c3, hd3, he3⟩
  have K3 : Hid (Kept (fun k => k = B ∨ k = P) w w3) := K2.out.seq k3
  have P3 := hid p3
  have X3 := hid x3
  cases ok3
  · have HP3 := hid c3
    have HD3 := hid hd3
    clear x3 p3 k3 c3 hd3 he3
    go_wp2_with fail
    go_ret
    exact ⟨false, a3, d3, by show Pl.selP s a = _; unfold Pl.selP; rw [Pl.andP_true X1.out, Pl.andP_true X2.out, Pl.andP_false X3.out], rfl, P3.out, K3.out, HP3.out, HD3.out, by simp⟩
  have HP3 : Hid (w3.heap[P]? = some (.cells (partC ⟨2, [], 0, .col (dgN s (a + 1 + 1)), zO, zO⟩ sN sN) 61 (0, 0))) := by
    show _ = _
    rw [c3, he3 rfl]
    exact congrArg (fun z => some (Obj.cells z 61 (0, 0))) (rfl)
  have hl3 := lt_of_heap HP3.out
  obtain rfl := dig_at2 x3
  clear x3 p3 k3 c3 hd3 he3
  go_wp2_with fail
  refine (comparison_any B P 2 s (a + 1 + 1 + 1) (partC ⟨2, [], 0, .col (dgN s (a + 1 + 1)), zO, zO⟩ sN sN) 61 _ hs hne P3.out HP3.out (by rw [partC_size]; omega)).mono ?_
  rintro e w4 ⟨ok4, a4, d4, x4, rfl, p4, k4, c4, hd4, he4⟩
  have K4 : Hid (Kept (fun k => k = B ∨ k = P) w w4) := K3.out.seq k4
  have P4 := hid p4
  have X4 := hid x4
  cases ok4
  · have HP4 := hid c4
    have HD4 := hid hd4
    clear x4 p4 k4 c4 hd4 he4
    go_wp2_with fail
    go_ret
    exact ⟨false, a4, d4, by show Pl.selP s a = _; unfold Pl.selP; rw [Pl.andP_true X1.out, Pl.andP_true X2.out, Pl.andP_true X3.out, Pl.andP_false X4.out], rfl, P4.out, K4.out, HP4.out, HD4.out, by simp⟩
  have HP4 : Hid (w4.heap[P]? = some (.cells (partC ⟨2, [], cmN s (a + 1 + 1 + 1), .col (dgN s (a + 1 + 1)), zO, zO⟩ sN sN) 61 (0, 0))) := by
    show _ = _
    rw [c4, he4 rfl]
    exact congrArg (fun z => some (Obj.cells z 61 (0, 0))) (rfl)
  have hl4 := lt_of_heap HP4.out
  obtain rfl := oneOf_at x4
  clear x4 p4 k4 c4 hd4 he4
  go_wp2_with fail
  refine (operand_any B P 11 s (a + 1 + 1 + 1 + 1) (partC ⟨2, [], cmN s (a + 1 + 1 + 1), .col (dgN s (a + 1 + 1)), zO, zO⟩ sN sN) 61 _ hs hne P4.out HP4.out (by rw [partC_size]; omega)).mono ?_
  rintro e w5 ⟨ok5, a5, d5, x5, rfl, p5, k5, c5, hd5, he5⟩
  have K5 : Hid (Kept (fun k => k = B ∨ k = P) w w5) := K4.out.seq k5
  have P5 := hid p5
  have X5 := hid x5
  cases ok5
  · have HP5 := hid c5
    have HD5 := hid hd5
    clear x5 p5 k5 c5 hd5 he5
    go_wp2_with fail
    go_ret
    exact ⟨false, a5, d5, by show Pl.selP s a = _; unfold Pl.selP; rw [Pl.andP_true X1.out, Pl.andP_true X2.out, Pl.andP_true X3.out, Pl.andP_true X4.out, Pl.andP_false X5.out], rfl, P5.out, K5.out, HP5.out, HD5.out, by simp⟩
  have HP5 : Hid (w5.heap[P]? = some (.cells (partC ⟨2, [], cmN s (a + 1 + 1 + 1), .col (dgN s (a + 1 + 1)), operV s (a + 1 + 1 + 1 + 1), zO⟩ sN sN) 61 (0, 0))) := by
    show _ = _
    rw [c5, he5 rfl]
    exact congrArg (fun z => some (Obj.cells z 61 (0, 0))) (opC_part _ _ _ _ _ _ _)
  have hl5 := lt_of_heap HP5.out
  clear x5 p5 k5 c5 hd5 he5
  go_wp2_with fail
  refine (take_any B s (a5) 93 93 _ hs (by omega) rfl P5.out).mono ?_
  rintro e w6 ⟨ok6, a6, x6, rfl, p6, f6⟩
  have HP6 := hid ((f6.block P hl5 hne).trans HP5.out)
  have K6 : Hid (Kept (fun k => k = B ∨ k = P) w w6) := K5.out.seq (f6.mono (fun _ _ e => .inl e))
  have P6 := hid p6
  have hl6 := lt_of_heap HP6.out
  have X6 := hid x6
  go_wp2_with fail
  go_ret
  refine ⟨ok6, a6, _, by show Pl.selP s a = _; unfold Pl.selP; rw [Pl.andP_true X1.out, Pl.andP_true X2.out, Pl.andP_true X3.out, Pl.andP_true X4.out, Pl.andP_true X5.out]; exact X6.out, rfl, P6.out, K6.out, HP6.out, rfl, fun _ => ⟨sN, rfl, World.ownsRow_nil _ _ _ _⟩⟩

set_option maxRecDepth 100000 in
set_option maxHeartbeats 4000000 in
theorem head4 (B P : Nat) (s : ByteArray) (a : Nat) (w : World) (hs : s.size ≤ 1000) (hne : P ≠ B) (h : RP B s a w) (hP : w.heap[P]? = some (.cells (partC ⟨4, [], 0, zO, zO, zO⟩ sN sN) 61 (0, 0))) :
    Calls Tryd.prog 16 #[.pointer (some ⟨B, 0, none⟩), .pointer (some ⟨P, 0, none⟩)] w (HeadEnd B P s w 4 a) := by
  have P0 := hid h
  have HP0 := hid hP
  have hl0 := lt_of_heap hP
  have kc : w.cell? ⟨P, 0, none⟩ = some (.int .i64 4) := by rw [cell_of hP]; rfl
  have K0 : Hid (Kept (fun k => k = B ∨ k = P) w w) := Kept.refl _ _
  clear h hP
  go_enter Tryd.func16, Tryd.ntmps16
  go_wp2_with fail
  refine (take_any B s (a) 74 74 _ hs (by omega) rfl P0.out).mono ?_
  rintro e w1 ⟨ok1, a1, x1, rfl, p1, f1⟩
  have HP1 := hid ((f1.block P hl0 hne).trans HP0.out)
  have K1 : Hid (Kept (fun k => k = B ∨ k = P) w w1) := K0.out.seq (f1.mono (fun _ _ e => .inl e))
  have P1 := hid p1
  have hl1 := lt_of_heap HP1.out
  have X1 := hid x1
  cases ok1
  · clear x1 p1 f1
    go_wp2_with fail
    go_ret
    exact ⟨false, a1, _, by show Pl.joinP s a = _; unfold Pl.joinP; rw [Pl.andP_false X1.out], rfl, P1.out, K1.out, HP1.out, rfl, by simp⟩
  obtain rfl := tk_at2 x1
  clear x1 p1 f1
  clear kc
  go_wp2_with fail
  refine (take_any B s (a + 1) 91 91 _ hs (by omega) rfl P1.out).mono ?_
  rintro e w2 ⟨ok2, a2, x2, rfl, p2, f2⟩
  have HP2 := hid ((f2.block P hl1 hne).trans HP1.out)
  have K2 : Hid (Kept (fun k => k = B ∨ k = P) w w2) := K1.out.seq (f2.mono (fun _ _ e => .inl e))
  have P2 := hid p2
  have hl2 := lt_of_heap HP2.out
  have X2 := hid x2
  cases ok2
  · clear x2 p2 f2
    go_wp2_with fail
    go_ret
    exact ⟨false, a2, _, by show Pl.joinP s a = _; unfold Pl.joinP; rw [Pl.andP_true X1.out, Pl.andP_false X2.out], rfl, P2.out, K2.out, HP2.out, rfl, by simp⟩
  obtain rfl := tk_at2 x2
  clear x2 p2 f2
  go_wp2_with fail
  refine (operandColumn_any B P 3 s (a + 1 + 1) (partC ⟨4, [], 0, zO, zO, zO⟩ sN sN) 61 _ hs hne P2.out HP2.out (by rw [partC_size]; omega)).mono ?_
  rintro e w3 ⟨ok3, a3, d3, x3, rfl, p3, k3, c3, hd3, he3⟩
  have K3 : Hid (Kept (fun k => k = B ∨ k = P) w w3) := K2.out.seq k3
  have P3 := hid p3
  have X3 := hid x3
  cases ok3
  · have HP3 := hid c3
    have HD3 := hid hd3
    clear x3 p3 k3 c3 hd3 he3
    go_wp2_with fail
    go_ret
    exact ⟨false, a3, d3, by show Pl.joinP s a = _; unfold Pl.joinP; rw [Pl.andP_true X1.out, Pl.andP_true X2.out, Pl.andP_false X3.out], rfl, P3.out, K3.out, HP3.out, HD3.out, by simp⟩
  have HP3 : Hid (w3.heap[P]? = some (.cells (partC ⟨4, [], 0, .col (dgN s (a + 1 + 1)), zO, zO⟩ sN sN) 61 (0, 0))) := by
    show _ = _
    rw [c3, he3 rfl]
    exact congrArg (fun z => some (Obj.cells z 61 (0, 0))) (rfl)
  have hl3 := lt_of_heap HP3.out
  obtain rfl := dig_at2 x3
  clear x3 p3 k3 c3 hd3 he3
  go_wp2_with fail
  refine (take_any B s (a + 1 + 1 + 1) 61 61 _ hs (by omega) rfl P3.out).mono ?_
  rintro e w4 ⟨ok4, a4, x4, rfl, p4, f4⟩
  have HP4 := hid ((f4.block P hl3 hne).trans HP3.out)
  have K4 : Hid (Kept (fun k => k = B ∨ k = P) w w4) := K3.out.seq (f4.mono (fun _ _ e => .inl e))
  have P4 := hid p4
  have hl4 := lt_of_heap HP4.out
  have X4 := hid x4
  cases ok4
  · clear x4 p4 f4
    go_wp2_with fail
    go_ret
    exact ⟨false, a4, _, by show Pl.joinP s a = _; unfold Pl.joinP; rw [Pl.andP_true X1.out, Pl.andP_true X2.out, Pl.andP_true X3.out, Pl.andP_false X4.out], rfl, P4.out, K4.out, HP4.out, rfl, by simp⟩
  obtain rfl := tk_at2 x4
  clear x4 p4 f4
  go_wp2_with fail
  refine (operandColumn_any B P 11 s (a + 1 + 1 + 1 + 1) (partC ⟨4, [], 0, .col (dgN s (a + 1 + 1)), zO, zO⟩ sN sN) 61 _ hs hne P4.out HP4.out (by rw [partC_size]; omega)).mono ?_
  rintro e w5 ⟨ok5, a5, d5, x5, rfl, p5, k5, c5, hd5, he5⟩
  have K5 : Hid (Kept (fun k => k = B ∨ k = P) w w5) := K4.out.seq k5
  have P5 := hid p5
  have X5 := hid x5
  cases ok5
  · have HP5 := hid c5
    have HD5 := hid hd5
    clear x5 p5 k5 c5 hd5 he5
    go_wp2_with fail
    go_ret
    exact ⟨false, a5, d5, by show Pl.joinP s a = _; unfold Pl.joinP; rw [Pl.andP_true X1.out, Pl.andP_true X2.out, Pl.andP_true X3.out, Pl.andP_true X4.out, Pl.andP_false X5.out], rfl, P5.out, K5.out, HP5.out, HD5.out, by simp⟩
  have HP5 : Hid (w5.heap[P]? = some (.cells (partC ⟨4, [], 0, .col (dgN s (a + 1 + 1)), .col (dgN s (a + 1 + 1 + 1 + 1)), zO⟩ sN sN) 61 (0, 0))) := by
    show _ = _
    rw [c5, he5 rfl]
    exact congrArg (fun z => some (Obj.cells z 61 (0, 0))) (rfl)
  have hl5 := lt_of_heap HP5.out
  obtain rfl := dig_at2 x5
  clear x5 p5 k5 c5 hd5 he5
  go_wp2_with fail
  refine (take_any B s (a + 1 + 1 + 1 + 1 + 1) 93 93 _ hs (by omega) rfl P5.out).mono ?_
  rintro e w6 ⟨ok6, a6, x6, rfl, p6, f6⟩
  have HP6 := hid ((f6.block P hl5 hne).trans HP5.out)
  have K6 : Hid (Kept (fun k => k = B ∨ k = P) w w6) := K5.out.seq (f6.mono (fun _ _ e => .inl e))
  have P6 := hid p6
  have hl6 := lt_of_heap HP6.out
  have X6 := hid x6
  go_wp2_with fail
  go_ret
  refine ⟨ok6, a6, _, by show Pl.joinP s a = _; unfold Pl.joinP; rw [Pl.andP_true X1.out, Pl.andP_true X2.out, Pl.andP_true X3.out, Pl.andP_true X4.out, Pl.andP_true X5.out]; exact X6.out, rfl, P6.out, K6.out, HP6.out, rfl, fun _ => ⟨sN, rfl, World.ownsRow_nil _ _ _ _⟩⟩

set_option maxRecDepth 100000 in
set_option maxHeartbeats 4000000 in
theorem head5 (B P : Nat) (s : ByteArray) (a : Nat) (w : World) (hs : s.size ≤ 1000) (hne : P ≠ B) (h : RP B s a w) (hP : w.heap[P]? = some (.cells (partC ⟨5, [], 0, zO, zO, zO⟩ sN sN) 61 (0, 0))) :
    Calls Tryd.prog 16 #[.pointer (some ⟨B, 0, none⟩), .pointer (some ⟨P, 0, none⟩)] w (HeadEnd B P s w 5 a) := by
  have P0 := hid h
  have HP0 := hid hP
  have hl0 := lt_of_heap hP
  have kc : w.cell? ⟨P, 0, none⟩ = some (.int .i64 5) := by rw [cell_of hP]; rfl
  have K0 : Hid (Kept (fun k => k = B ∨ k = P) w w) := Kept.refl _ _
  clear h hP
  go_enter Tryd.func16, Tryd.ntmps16
  go_wp2_with fail
  refine (take_any B s (a) 85 85 _ hs (by omega) rfl P0.out).mono ?_
  rintro e w1 ⟨ok1, a1, x1, rfl, p1, f1⟩
  have HP1 := hid ((f1.block P hl0 hne).trans HP0.out)
  have K1 : Hid (Kept (fun k => k = B ∨ k = P) w w1) := K0.out.seq (f1.mono (fun _ _ e => .inl e))
  have P1 := hid p1
  have hl1 := lt_of_heap HP1.out
  have X1 := hid x1
  clear kc
  go_wp2_with fail
  go_ret
  exact ⟨ok1, a1, _, X1.out, rfl, P1.out, K1.out, HP1.out, rfl, fun _ => ⟨sN, rfl, World.ownsRow_nil _ _ _ _⟩⟩

set_option maxRecDepth 100000 in
set_option maxHeartbeats 4000000 in
theorem head6 (B P : Nat) (s : ByteArray) (a : Nat) (w : World) (hs : s.size ≤ 1000) (hne : P ≠ B) (h : RP B s a w) (hP : w.heap[P]? = some (.cells (partC ⟨6, [], 0, zO, zO, zO⟩ sN sN) 61 (0, 0))) :
    Calls Tryd.prog 16 #[.pointer (some ⟨B, 0, none⟩), .pointer (some ⟨P, 0, none⟩)] w (HeadEnd B P s w 6 a) := by
  have P0 := hid h
  have HP0 := hid hP
  have hl0 := lt_of_heap hP
  have kc : w.cell? ⟨P, 0, none⟩ = some (.int .i64 6) := by rw [cell_of hP]; rfl
  have K0 : Hid (Kept (fun k => k = B ∨ k = P) w w) := Kept.refl _ _
  clear h hP
  go_enter Tryd.func16, Tryd.ntmps16
  go_wp2_with fail
  refine (take_any B s (a) 68 68 _ hs (by omega) rfl P0.out).mono ?_
  rintro e w1 ⟨ok1, a1, x1, rfl, p1, f1⟩
  have HP1 := hid ((f1.block P hl0 hne).trans HP0.out)
  have K1 : Hid (Kept (fun k => k = B ∨ k = P) w w1) := K0.out.seq (f1.mono (fun _ _ e => .inl e))
  have P1 := hid p1
  have hl1 := lt_of_heap HP1.out
  have X1 := hid x1
  clear kc
  go_wp2_with fail
  go_ret
  exact ⟨ok1, a1, _, X1.out, rfl, P1.out, K1.out, HP1.out, rfl, fun _ => ⟨sN, rfl, World.ownsRow_nil _ _ _ _⟩⟩

set_option maxRecDepth 100000 in
set_option maxHeartbeats 4000000 in
theorem head3 (B P : Nat) (s : ByteArray) (a : Nat) (w : World) (hs : s.size ≤ 1000) (hne : P ≠ B) (h : RP B s a w) (hP : w.heap[P]? = some (.cells (partC ⟨3, [], 0, zO, zO, zO⟩ sN sN) 61 (0, 0))) :
    Calls Tryd.prog 16 #[.pointer (some ⟨B, 0, none⟩), .pointer (some ⟨P, 0, none⟩)] w (HeadEnd B P s w 3 a) := by
  have P0 := hid h
  have HP0 := hid hP
  have hl0 := lt_of_heap hP
  have kc : w.cell? ⟨P, 0, none⟩ = some (.int .i64 3) := by rw [cell_of hP]; rfl
  have K0 : Hid (Kept (fun k => k = B ∨ k = P) w w) := Kept.refl _ _
  clear h hP
  go_enter Tryd.func16, Tryd.ntmps16
  go_wp2_with fail
  refine (take_any B s (a) 80 80 _ hs (by omega) rfl P0.out).mono ?_
  rintro e w1 ⟨ok1, a1, x1, rfl, p1, f1⟩
  have HP1 := hid ((f1.block P hl0 hne).trans HP0.out)
  have K1 : Hid (Kept (fun k => k = B ∨ k = P) w w1) := K0.out.seq (f1.mono (fun _ _ e => .inl e))
  have P1 := hid p1
  have hl1 := lt_of_heap HP1.out
  have X1 := hid x1
  cases ok1
  · clear x1 p1 f1
    go_wp2_with fail
    go_ret
    exact ⟨false, a1, _, by show Pl.pickP s a = _; unfold Pl.pickP; rw [Pl.andP_false X1.out], rfl, P1.out, K1.out, HP1.out, rfl, by simp⟩
  obtain rfl := tk_at2 x1
  clear x1 p1 f1
  clear kc
  go_wp2_with fail
  refine (take_any B s (a + 1) 91 91 _ hs (by omega) rfl P1.out).mono ?_
  rintro e w2 ⟨ok2, a2, x2, rfl, p2, f2⟩
  have HP2 := hid ((f2.block P hl1 hne).trans HP1.out)
  have K2 : Hid (Kept (fun k => k = B ∨ k = P) w w2) := K1.out.seq (f2.mono (fun _ _ e => .inl e))
  have P2 := hid p2
  have hl2 := lt_of_heap HP2.out
  have X2 := hid x2
  cases ok2
  · clear x2 p2 f2
    go_wp2_with fail
    go_ret
    exact ⟨false, a2, _, by show Pl.pickP s a = _; unfold Pl.pickP; rw [Pl.andP_true X1.out, Pl.andP_false X2.out], rfl, P2.out, K2.out, HP2.out, rfl, by simp⟩
  obtain rfl := tk_at2 x2
  clear x2 p2 f2
  go_wp2_with fail
  refine (columns_any B P 19 s (a + 1 + 1) (partC ⟨3, [], 0, zO, zO, zO⟩ sN sN) 61 _ hs hne (by decide) P2.out HP2.out (by rw [partC_size]; omega) rfl).mono ?_
  rintro e w3 ⟨ok3, a3, d3, x3, rfl, p3, k3, c3, hd3, he3⟩
  have K3 : Hid (Kept (fun k => k = B ∨ k = P) w w3) := K2.out.seq k3
  have P3 := hid p3
  have X3 := hid x3
  have HP3 := hid c3
  have HD3 := hid (And.intro hd3 he3)
  have hz3 := K2.out.size
  clear x3 p3 k3 c3 hd3 he3
  go_wp2_with fail
  go_ret
  refine ⟨ok3, a3, d3, by show Pl.pickP s a = _; unfold Pl.pickP; rw [Pl.andP_true X1.out, Pl.andP_true X2.out]; exact X3.out, rfl, P3.out, K3.out, HP3.out, HD3.out.1, fun hk => ?_⟩
  obtain ⟨lv, h1, h2⟩ := HD3.out.2 hk
  exact ⟨lv, h1, ⟨h2.1, h2.2.imp id (fun ⟨g, cp, cu, e1, e2, e3⟩ => ⟨g, cp, cu, e1, by omega, e3⟩)⟩⟩

set_option maxRecDepth 100000 in
set_option maxHeartbeats 4000000 in
theorem head1 (B P : Nat) (s : ByteArray) (a : Nat) (w : World) (hs : s.size ≤ 1000) (hne : P ≠ B) (h : RP B s a w) (hP : w.heap[P]? = some (.cells (partC ⟨1, [], 0, zO, zO, zO⟩ sN sN) 61 (0, 0))) :
    Calls Tryd.prog 16 #[.pointer (some ⟨B, 0, none⟩), .pointer (some ⟨P, 0, none⟩)] w (HeadEnd B P s w 1 a) := by
  have P0 := hid h
  have HP0 := hid hP
  have hl0 := lt_of_heap hP
  have kc : w.cell? ⟨P, 0, none⟩ = some (.int .i64 1) := by rw [cell_of hP]; rfl
  have K0 : Hid (Kept (fun k => k = B ∨ k = P) w w) := Kept.refl _ _
  clear h hP
  go_enter Tryd.func16, Tryd.ntmps16
  go_wp2_with fail
  refine (word_any B P 1 4 4 s (a) (partC ⟨1, [], 0, zO, zO, zO⟩ sN sN) 61 _ hs (by omega) rfl hne P0.out HP0.out (by rw [partC_size]; omega)).mono ?_
  rintro e w1 ⟨ok1, a1, x1, rfl, p1, k1, c1⟩
  have K1 : Hid (Kept (fun k => k = B ∨ k = P) w w1) := K0.out.seq k1
  have P1 := hid p1
  have X1 := hid x1
  have HP1 := hid c1
  clear x1 p1 k1 c1
  clear kc
  go_wp2_with fail
  go_ret
  refine ⟨ok1, a1, _, X1.out, rfl, P1.out, K1.out, HP1.out, by split <;> rfl, fun hk => ⟨sN, ?_, World.ownsRow_nil _ _ _ _⟩⟩
  subst hk
  have h2 : (Pl.let4 s a).2 = a1 := by have := X1.out; unfold Pl.let4; rw [this]
  show (if true = true then _ else _) = partC ⟨1, sub s a (Pl.let4 s a).2, 0, zO, zO, zO⟩ sN sN
  rw [if_pos rfl, h2]
  unfold partC
  rw [sub_str]; rfl

set_option maxHeartbeats 1000000 in
theorem head0 (B P : Nat) (s : ByteArray) (a : Nat) (w : World) (_hs : s.size ≤ 1000) (_hne : P ≠ B) (h : RP B s a w) (hP : w.heap[P]? = some (.cells (partC ⟨0, [], 0, zO, zO, zO⟩ sN sN) 61 (0, 0))) :
    Calls Tryd.prog 16 #[.pointer (some ⟨B, 0, none⟩), .pointer (some ⟨P, 0, none⟩)] w (HeadEnd B P s w 0 a) := by
  have P0 := hid h
  have HP0 := hid hP
  have kc : w.cell? ⟨P, 0, none⟩ = some (.int .i64 0) := by rw [cell_of hP]; rfl
  clear h hP
  go_enter Tryd.func16, Tryd.ntmps16
  go_wp2_with fail
  go_ret
  exact ⟨false, a, _, rfl, rfl, P0.out, Kept.refl _ _, HP0.out, rfl, by simp⟩
end Go.Proofs.YtdinjjmcmfjbfaaDoor
