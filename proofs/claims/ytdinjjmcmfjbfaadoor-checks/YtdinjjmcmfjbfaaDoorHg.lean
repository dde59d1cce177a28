/-
  The program's reader of a part's head: G, and all kinds together.
-/
import Derived.Test.YtdinjjmcmfjbfaaDoorHd
namespace Go.Proofs.YtdinjjmcmfjbfaaDoor
open Go.RowKit
open Mo (V Row Opd)

set_option maxRecDepth 100000 in
set_option maxHeartbeats 4000000 in
theorem head7 (B P : Nat) (s : ByteArray) (a : Nat) (w : World) (hs : s.size ≤ 1000) (hne : P ≠ B) (h : RP B s a w) (hP : w.heap[P]? = some (.cells (partC ⟨7, [], 0, zO, zO, zO⟩ sN sN) 61 (0, 0))) :
    Calls Tryd.prog 16 #[.pointer (some ⟨B, 0, none⟩), .pointer (some ⟨P, 0, none⟩)] w (HeadEnd B P s w 7 a) := by
  have P0 := hid h
  have HP0 := hid hP
  have hl0 := lt_of_heap hP
  have hBl := lt_of_heap h.2
  have kc : w.cell? ⟨P, 0, none⟩ = some (.int .i64 7) := by rw [cell_of hP]; rfl
  have K0 : Hid (Kept (fun k => k = B ∨ k = P) w w) := Kept.refl _ _
  clear h hP
  go_enter Tryd.func16, Tryd.ntmps16
  go_wp2_with fail
  refine (take_any B s (a) 71 71 _ hs (by omega) rfl P0.out).mono ?_
  rintro e w1 ⟨ok1, a1, x1, rfl, p1, f1⟩
  have HP1 := hid ((f1.block P hl0 hne).trans HP0.out)
  have K1 : Hid (Kept (fun k => k = B ∨ k = P) w w1) := K0.out.seq (f1.mono (fun _ _ e => .inl e))
  have P1 := hid p1
  have hl1 := lt_of_heap HP1.out
  have X1 := hid x1
  cases ok1
  · clear x1 p1 f1
    go_wp2_with fail
    go_ret
    exact ⟨false, a1, _, by show Pl.groupP s a = _; unfold Pl.groupP; rw [Pl.andP_false X1.out], rfl, P1.out, K1.out, HP1.out, rfl, by simp⟩
  obtain rfl := tk_at2 x1
  clear x1 p1 f1
  clear kc
  go_wp2_with fail
  refine (take_any B s (a + 1) 91 91 _ hs (by omega) rfl P1.out).mono ?_
  rintro e w2 ⟨ok2, a2, x2, rfl, p2, f2⟩
  have HP2 := hid ((f2.block P hl1 hne).trans HP1.out)
  have K2 : Hid (Kept (fun k => k = B ∨ k = P) w w2) := K1.out.seq (f2.mono (fun _ _ e => .inl e))
  have P2 := hid p2
  have hl2 := lt_of_heap HP2.out
  have X2 := hid x2
  cases ok2
  · clear x2 p2 f2
    go_wp2_with fail
    go_ret
    exact ⟨false, a2, _, by show Pl.groupP s a = _; unfold Pl.groupP; rw [Pl.andP_true X1.out, Pl.andP_false X2.out], rfl, P2.out, K2.out, HP2.out, rfl, by simp⟩
  obtain rfl := tk_at2 x2
  clear x2 p2 f2
  go_wp2_with fail
  refine (take_any B s (a + 1 + 1) 93 93 _ hs (by omega) rfl P2.out).mono ?_
  rintro e w3 ⟨ok3, a3, x3, rfl, p3, f3⟩
  have HP3 := hid ((f3.block P hl2 hne).trans HP2.out)
  have K3 : Hid (Kept (fun k => k = B ∨ k = P) w w3) := K2.out.seq (f3.mono (fun _ _ e => .inl e))
  have P3 := hid p3
  have hl3 := lt_of_heap HP3.out
  have X3 := hid x3
  cases ok3
  · rcases tk_at x3 with ⟨e3, _⟩ | ⟨_, hb3, rfl⟩
    · cases e3
    have HB3 := hid hb3
    clear x3 p3 f3 hb3
    go_wp2_with fail
    refine (columns_any B P 19 s (a + 1 + 1) (partC ⟨7, [], 0, zO, zO, zO⟩ sN sN) 61 _ hs hne (by decide) P3.out HP3.out (by rw [partC_size]; omega) rfl).mono ?_
    rintro e w4 ⟨ok4, a4, d4, x4, rfl, p4, k4, c4, hd4, he4⟩
    have K4 : Hid (Kept (fun k => k = B ∨ k = P) w w4) := K3.out.seq k4
    have P4 := hid p4
    have X4 := hid x4
    have hz3 := K3.out.size
    cases ok4
    · have HP4 := hid c4
      have HD4 := hid hd4
      clear x4 p4 k4 c4 hd4 he4
      go_wp2_with fail
      go_ret
      have XO : Hid (Pl.orP (Pl.tk s 93) (Pl.colsP s 5) (a + 1 + 1) = (false, a4)) := by show _ = _; rw [Pl.orP_false X3.out]; exact X4.out
      exact ⟨false, a4, d4, by show Pl.groupP s a = _; unfold Pl.groupP; rw [Pl.andP_true X1.out, Pl.andP_true X2.out, Pl.andP_false XO.out], rfl, P4.out, K4.out, HP4.out, HD4.out, by simp⟩
    have XO : Hid (Pl.orP (Pl.tk s 93) (Pl.colsP s 5) (a + 1 + 1) = (true, a4)) := by show _ = _; rw [Pl.orP_false X3.out]; exact X4.out
    obtain ⟨lv, hd4e, hO4⟩ := he4 rfl
    have HO4 : Hid (w4.ownsRow w.heap.size 3 1 lv (colsV s 5 (a + 1 + 1)).length (ints (colsV s 5 (a + 1 + 1)))) := ⟨hO4.1, hO4.2.imp id (fun ⟨g, cp, cu, e1, e2, e3⟩ => ⟨g, cp, cu, e1, by omega, e3⟩)⟩
    have HP4 : Hid (w4.heap[P]? = some (.cells (partC ⟨7, [], 0, zO, zO, zO⟩ lv sN) 61 (0, 0))) := by
      show _ = _
      rw [c4, hd4e]; exact congrArg (fun z => some (Obj.cells z 61 (0, 0))) rfl
    have hl4 := lt_of_heap HP4.out
    clear x4 p4 k4 c4 hd4 he4 hd4e hO4
    go_wp2_with fail
    refine (take_any B s (a4) 91 91 _ hs (by omega) rfl P4.out).mono ?_
    rintro e w5 ⟨ok5, a5, x5, rfl, p5, f5⟩
    have HP5 := hid ((f5.block P hl4 hne).trans HP4.out)
    have K5 : Hid (Kept (fun k => k = B ∨ k = P) w w5) := K4.out.seq (f5.mono (fun _ _ e => .inl e))
    have P5 := hid p5
    have hl5 := lt_of_heap HP5.out
    have X5 := hid x5
    have HO5 := hid (ownsRow_kept HO4.out f5 (fun b hb z => by have := own_base HO4.out b hb; omega))
    cases ok5
    · clear x5 p5 f5
      go_wp2_with fail
      go_ret
      exact ⟨false, a5, _, by show Pl.groupP s a = _; unfold Pl.groupP; rw [Pl.andP_true X1.out, Pl.andP_true X2.out, Pl.andP_true XO.out, Pl.fold_eq, Pl.andP_false X5.out], rfl, P5.out, K5.out, HP5.out, rfl, by simp⟩
    obtain rfl := tk_at2 x5
    clear x5 p5 f5
    have hz5 := K5.out.size
    go_wp2_with fail
    refine (weight_any B P 20 s (a4 + 1) (partC ⟨7, [], 0, zO, zO, zO⟩ lv sN) 61 _ hs hne P5.out HP5.out (by rw [partC_size]; omega)).mono ?_
    rintro e w6 ⟨ok6, a6, d6, x6, rfl, p6, k6, c6, hd6, he6⟩
    have K6 : Hid (Kept (fun k => k = B ∨ k = P) w w6) := K5.out.seq k6
    have P6 := hid p6
    have X6 : Hid (Pl.ifP (Pl.tk s 115) (Pl.dig s) (Pl.tk s 110) (a4 + 1) = (ok6, a6)) := x6
    have HO6 := hid (ownsRow_kept HO5.out k6 (fun b hb z => by have := own_base HO5.out b hb; omega))
    cases ok6
    · have HP6 := hid c6
      have HD6 := hid hd6
      clear x6 p6 k6 c6 hd6 he6
      go_wp2_with fail
      go_ret
      exact ⟨false, a6, d6, by show Pl.groupP s a = _; unfold Pl.groupP; rw [Pl.andP_true X1.out, Pl.andP_true X2.out, Pl.andP_true XO.out, Pl.fold_eq, Pl.andP_true X5.out, Pl.andP_false X6.out], rfl, P6.out, K6.out, HP6.out, HD6.out, by simp⟩
    have HP6 : Hid (w6.heap[P]? = some (.cells (partC ⟨7, [], 0, zO, zO, wtV s (a4 + 1)⟩ lv sN) 61 (0, 0))) := by
      show _ = _
      rw [c6, he6 rfl]
      exact congrArg (fun z => some (Obj.cells z 61 (0, 0))) (wtC_part _ _ _ _ _)
    have hl6 := lt_of_heap HP6.out
    clear x6 p6 k6 c6 hd6 he6
    go_wp2_with fail
    refine (take_any B s (a6) 93 93 _ hs (by omega) rfl P6.out).mono ?_
    rintro e w7 ⟨ok7, a7, x7, rfl, p7, f7⟩
    have HP7 := hid ((f7.block P hl6 hne).trans HP6.out)
    have K7 : Hid (Kept (fun k => k = B ∨ k = P) w w7) := K6.out.seq (f7.mono (fun _ _ e => .inl e))
    have P7 := hid p7
    have hl7 := lt_of_heap HP7.out
    have X7 := hid x7
    have HO7 := hid (ownsRow_kept HO6.out f7 (fun b hb z => by have := own_base HO6.out b hb; omega))
    clear x7 p7 f7
    go_wp2_with fail
    go_ret
    refine ⟨ok7, a7, _, by show Pl.groupP s a = _; unfold Pl.groupP; rw [Pl.andP_true X1.out, Pl.andP_true X2.out, Pl.andP_true XO.out, Pl.fold_eq, Pl.andP_true X5.out, Pl.andP_true X6.out]; exact X7.out, rfl, P7.out, K7.out, HP7.out, rfl, fun _ => ⟨lv, ?_, ?_⟩⟩
    · have hg : grpB s a = a4 := by unfold grpB; rw [show a + 2 = a + 1 + 1 from rfl, XO.out]
      show _ = partC ⟨7, [], 0, zO, zO, wtV s (grpB s a + 1)⟩ _ _
      rw [hg]
    · have hc : hcs s 7 a = colsV s 5 (a + 1 + 1) := by show (if Pl.bt s (a + 1 + 1) = 93 then [] else colsV s 5 (a + 1 + 1)) = _; rw [if_neg HB3.out]
      rw [hc]
      exact HO7.out
  · rcases tk_at x3 with ⟨_, hb3, rfl⟩ | ⟨e3, _⟩
    case inr => cases e3
    have HB3 := hid hb3
    have XO : Hid (Pl.orP (Pl.tk s 93) (Pl.colsP s 5) (a + 1 + 1) = (true, a + 1 + 1 + 1)) := by show _ = _; rw [Pl.orP_true X3.out]
    have HO4 : Hid (w3.ownsRow w.heap.size 3 1 sN ([] : List Nat).length (ints [])) := World.ownsRow_nil _ _ _ _
    have P4 := P3
    have HP4 := HP3
    have K4 := K3
    have hl4 := hl3
    clear x3 p3 f3 hb3
    go_wp2_with fail
    refine (take_any B s (a + 1 + 1 + 1) 91 91 _ hs (by omega) rfl P4.out).mono ?_
    rintro e w5 ⟨ok5, a5, x5, rfl, p5, f5⟩
    have HP5 := hid ((f5.block P hl4 hne).trans HP4.out)
    have K5 : Hid (Kept (fun k => k = B ∨ k = P) w w5) := K4.out.seq (f5.mono (fun _ _ e => .inl e))
    have P5 := hid p5
    have hl5 := lt_of_heap HP5.out
    have X5 := hid x5
    have HO5 := hid (ownsRow_kept HO4.out f5 (fun b hb z => by have := own_base HO4.out b hb; omega))
    cases ok5
    · clear x5 p5 f5
      go_wp2_with fail
      go_ret
      exact ⟨false, a5, _, by show Pl.groupP s a = _; unfold Pl.groupP; rw [Pl.andP_true X1.out, Pl.andP_true X2.out, Pl.andP_true XO.out, Pl.fold_eq, Pl.andP_false X5.out], rfl, P5.out, K5.out, HP5.out, rfl, by simp⟩
    obtain rfl := tk_at2 x5
    clear x5 p5 f5
    have hz5 := K5.out.size
    go_wp2_with fail
    refine (weight_any B P 20 s (a + 1 + 1 + 1 + 1) (partC ⟨7, [], 0, zO, zO, zO⟩ sN sN) 61 _ hs hne P5.out HP5.out (by rw [partC_size]; omega)).mono ?_
    rintro e w6 ⟨ok6, a6, d6, x6, rfl, p6, k6, c6, hd6, he6⟩
    have K6 : Hid (Kept (fun k => k = B ∨ k = P) w w6) := K5.out.seq k6
    have P6 := hid p6
    have X6 : Hid (Pl.ifP (Pl.tk s 115) (Pl.dig s) (Pl.tk s 110) (a + 1 + 1 + 1 + 1) = (ok6, a6)) := x6
    have HO6 := hid (ownsRow_kept HO5.out k6 (fun b hb z => by have := own_base HO5.out b hb; omega))
    cases ok6
    · have HP6 := hid c6
      have HD6 := hid hd6
      clear x6 p6 k6 c6 hd6 he6
      go_wp2_with fail
      go_ret
      exact ⟨false, a6, d6, by show Pl.groupP s a = _; unfold Pl.groupP; rw [Pl.andP_true X1.out, Pl.andP_true X2.out, Pl.andP_true XO.out, Pl.fold_eq, Pl.andP_true X5.out, Pl.andP_false X6.out], rfl, P6.out, K6.out, HP6.out, HD6.out, by simp⟩
    have HP6 : Hid (w6.heap[P]? = some (.cells (partC ⟨7, [], 0, zO, zO, wtV s (a + 1 + 1 + 1 + 1)⟩ sN sN) 61 (0, 0))) := by
      show _ = _
      rw [c6, he6 rfl]
      exact congrArg (fun z => some (Obj.cells z 61 (0, 0))) (wtC_part _ _ _ _ _)
    have hl6 := lt_of_heap HP6.out
    clear x6 p6 k6 c6 hd6 he6
    go_wp2_with fail
    refine (take_any B s (a6) 93 93 _ hs (by omega) rfl P6.out).mono ?_
    rintro e w7 ⟨ok7, a7, x7, rfl, p7, f7⟩
    have HP7 := hid ((f7.block P hl6 hne).trans HP6.out)
    have K7 : Hid (Kept (fun k => k = B ∨ k = P) w w7) := K6.out.seq (f7.mono (fun _ _ e => .inl e))
    have P7 := hid p7
    have hl7 := lt_of_heap HP7.out
    have X7 := hid x7
    have HO7 := hid (ownsRow_kept HO6.out f7 (fun b hb z => by have := own_base HO6.out b hb; omega))
    clear x7 p7 f7
    go_wp2_with fail
    go_ret
    refine ⟨ok7, a7, _, by show Pl.groupP s a = _; unfold Pl.groupP; rw [Pl.andP_true X1.out, Pl.andP_true X2.out, Pl.andP_true XO.out, Pl.fold_eq, Pl.andP_true X5.out, Pl.andP_true X6.out]; exact X7.out, rfl, P7.out, K7.out, HP7.out, rfl, fun _ => ⟨sN, ?_, ?_⟩⟩
    · have hg : grpB s a = a + 1 + 1 + 1 := by unfold grpB; rw [show a + 2 = a + 1 + 1 from rfl, XO.out]
      show _ = partC ⟨7, [], 0, zO, zO, wtV s (grpB s a + 1)⟩ _ _
      rw [hg]
    · have hc : hcs s 7 a = [] := by show (if Pl.bt s (a + 1 + 1) = 93 then [] else colsV s 5 (a + 1 + 1)) = _; rw [if_pos HB3.out]
      rw [hc]
      exact HO7.out

theorem head_any (B P k : Nat) (hk : k ≤ 7) (s : ByteArray) (a : Nat) (w : World) (hs : s.size ≤ 1000) (hne : P ≠ B) (h : RP B s a w) (hP : w.heap[P]? = some (.cells (partC ⟨k, [], 0, zO, zO, zO⟩ sN sN) 61 (0, 0))) :
    Calls Tryd.prog 16 #[.pointer (some ⟨B, 0, none⟩), .pointer (some ⟨P, 0, none⟩)] w (HeadEnd B P s w k a) := by
  match k, hk, hP with
  | 0, _, hP => exact head0 B P s a w hs hne h hP
  | 1, _, hP => exact head1 B P s a w hs hne h hP
  | 2, _, hP => exact head2 B P s a w hs hne h hP
  | 3, _, hP => exact head3 B P s a w hs hne h hP
  | 4, _, hP => exact head4 B P s a w hs hne h hP
  | 5, _, hP => exact head5 B P s a w hs hne h hP
  | 6, _, hP => exact head6 B P s a w hs hne h hP
  | 7, _, hP => exact head7 B P s a w hs hne h hP

end Go.Proofs.YtdinjjmcmfjbfaaDoor
