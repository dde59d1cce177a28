/-
  The program's readers of columns, comparisons, operands and weights: what they leave behind the pointer that they are handed.
-/
import Derived.Test.YtdinjjmcmfjbfaaDoorRw
namespace Go.Proofs.YtdinjjmcmfjbfaaDoor
open Go.RowKit
open Mo (V Row)

/-- The digit at place a. -/
def dgN (s : ByteArray) (a : Nat) : Nat := Pl.bt s a - 48
/-- Which of the three comparisons. -/
def cmN (s : ByteArray) (a : Nat) : Nat := if Pl.bt s a = 60 then 0 else if Pl.bt s a = 61 then 1 else 2
/-- The reader's answer, and what lies behind the pointer if it is 'true'. -/
def WQ (B P : Nat) (s : ByteArray) (w : World) (r : Bool × Nat) (t : TypeId) (n : Nat) (c' : Array Value) (e : Ending) (w' : World) : Prop :=
  ∃ ok a' d, r = (ok, a') ∧ e = .returned (.bool ok) ∧ RP B s a' w' ∧ Kept (fun k => k = B ∨ k = P) w w' ∧ w'.heap[P]? = some (.cells d t (0, 0)) ∧ d.size = n ∧ (ok = true → d = c')

set_option maxHeartbeats 1000000 in
theorem column_any (B P o : Nat) (s : ByteArray) (a : Nat) (c : Array Value) (t : TypeId) (w : World) (hs : s.size ≤ 1000) (hne : P ≠ B) (h : RP B s a w) (hP : w.heap[P]? = some (.cells c t (0, 0))) (hoff : o < c.size) :
    Calls Tryd.prog 40 #[.pointer (some ⟨B, 0, none⟩), .pointer (some ⟨P, o, none⟩)] w (WQ B P s w (Pl.dig s a) t c.size (c.setIfInBounds o (.int .i64 (dgN s a : Nat)))) := by
  have h1 := h.c1
  have HH := hid h
  have HP := hid hP
  have hPl := lt_of_heap hP
  have ha := h.1
  clear h hP
  go_enter Tryd.func40, Tryd.ntmps40
  go_wp2_with fail
  refine (several_any B s a 1 48 57 1 48 57 _ hs (by omega) (by omega) rfl rfl rfl HH.out).mono ?_
  rintro e w1 ⟨ok, a1, x1, rfl, p1, f1⟩
  have HP1 : Hid (w1.heap[P]? = some (.cells c t (0, 0))) := (f1.block P hPl hne).trans HP.out
  have F1 : Hid (Kept (fun k => k = B ∨ k = P) w w1) := f1.mono (fun _ _ e => .inl e)
  have X1 := hid x1
  cases ok
  · have P1 := hid p1
    clear p1 f1 h1 x1
    go_wp2_with fail
    go_ret
    exact ⟨false, a1, c, X1.out, rfl, P1.out, F1.out, HP1.out, rfl, by simp⟩
  · have hr : 48 ≤ Pl.bt s a ∧ Pl.bt s a ≤ 57 := by
      have hz := x1
      unfold Pl.sev at hz
      injection hz with hz1 _
      have hlt : a < Pl.many s 48 57 1 a := by simpa using hz1
      exact many_range s 48 57 1 a a (Nat.le_refl _) hlt
    have hlt : a < s.size := Pl.bt_lt (by omega)
    have hb : Pl.bt s a = s[a].toNat := by unfold Pl.bt; rw [dif_pos hlt]
    have hg : Hid ((dgN s a : Int) = (s[a].toNat : Int) - 48) := by show _ = _; unfold dgN; rw [hb] at hr ⊢; omega
    have hi0 : (0 : Int) ≤ (a : Int) := by omega
    have hi1 : (a : Int) < (s.size : Int) := by omega
    have d0 := p1.c0
    have P1 := hid p1
    have q0 : w1.cell? ⟨P, o, none⟩ = some c[o] := by rw [cell_of HP1.out, Array.getElem?_eq_getElem hoff]
    have q1 : w1.frozen? ⟨P, o, none⟩ = false := frozen_of HP1.out o
    have hw1 : 0 ≤ (s[a].toNat : Int) - 48 := by rw [hb] at hr; omega
    have hw2 : (s[a].toNat : Int) - 48 ≤ 255 := by rw [hb] at hr; omega
    have hwr : IntKind.u8.wrap ((s[a].toNat : Int) - 48) = (s[a].toNat : Int) - 48 := by
      have e1 : IntKind.u8.wrap ((s[a].toNat : Int) - 48) = ((s[a].toNat : Int) - 48) % 256 := by simp [IntKind.wrap, IntKind.signed, IntKind.bits]
      rw [e1]; omega
    clear p1 f1 h1 x1 hb hr
    go_wp2_with fail
    go_ret
    refine ⟨true, a1, _, X1.out, rfl, ⟨P1.out.1, (Below.heap_setCell _ _ _ _ (fun e => hne e.symm)).trans P1.out.2⟩, F1.out.setCell (.inr (.inr rfl)) _, heap_set HP1.out o _, by simp, fun _ => ?_⟩
    rw [hg.out]

set_option maxHeartbeats 1000000 in
theorem operandColumn_any (B P o : Nat) (s : ByteArray) (a : Nat) (c : Array Value) (t : TypeId) (w : World) (hs : s.size ≤ 1000) (hne : P ≠ B) (h : RP B s a w) (hP : w.heap[P]? = some (.cells c t (0, 0))) (hoff : o + 1 < c.size) :
    Calls Tryd.prog 31 #[.pointer (some ⟨B, 0, none⟩), .pointer (some ⟨P, o, none⟩)] w (WQ B P s w (Pl.dig s a) t c.size ((c.setIfInBounds o (.bool true)).setIfInBounds (o + 1) (.int .i64 (dgN s a : Nat)))) := by
  have HH := hid h
  have q0 : w.cell? ⟨P, o, none⟩ = some c[o] := by rw [cell_of hP, Array.getElem?_eq_getElem (by omega)]
  have q1 : w.frozen? ⟨P, o, none⟩ = false := frozen_of hP o
  have hr1 : RP B s a (w.setCell ⟨P, o, none⟩ (.bool true)) := ⟨h.1, (Below.heap_setCell _ _ _ _ (fun e => hne e.symm)).trans h.2⟩
  have HC := hid (column_any B P (o + 1) s a (c.setIfInBounds o (.bool true)) t _ hs hne hr1 (heap_set hP o _) (by simpa using hoff))
  have HK : Hid (Kept (fun k => k = B ∨ k = P) w (w.setCell ⟨P, o, none⟩ (.bool true))) := (Kept.refl _ _).setCell (.inr (.inr rfl)) _
  clear h hP hr1
  go_enter Tryd.func31, Tryd.ntmps31
  go_wp2_with fail
  refine HC.out.mono ?_
  rintro e w1 ⟨ok, a1, d, x1, rfl, p1, k1, c1, hd, he⟩
  have X1 := hid x1
  have P1 := hid p1
  have K1 := hid k1
  have C1 := hid c1
  have HD : Hid (d.size = c.size ∧ (ok = true → d = (c.setIfInBounds o (.bool true)).setIfInBounds (o + 1) (.int .i64 (dgN s a : Nat)))) := ⟨by simpa using hd, he⟩
  clear x1 p1 k1 c1 hd he q0 q1
  go_wp2_with fail
  go_ret
  exact ⟨ok, a1, d, X1.out, rfl, P1.out, HK.out.seq K1.out, C1.out, HD.out.1, HD.out.2⟩

theorem firstIdx_all : ∀ n : Fin 256, Lib.indexByte [60, 61, 33] (n.val).toUInt8 = if n.val = 60 then 0 else if n.val = 61 then 1 else if n.val = 33 then 2 else -1 := by decide +kernel
theorem firstIdx_bt (s : ByteArray) (a : Nat) : Lib.indexByte [60, 61, 33] ((Pl.bt s a : Int)).toNat.toUInt8 = if Pl.bt s a = 60 then 0 else if Pl.bt s a = 61 then 1 else if Pl.bt s a = 33 then 2 else -1 := by
  rw [Int.toNat_natCast]; exact firstIdx_all ⟨Pl.bt s a, Pl.bt_lt_256 s a⟩

set_option maxHeartbeats 1000000 in
theorem comparison_any (B P o : Nat) (s : ByteArray) (a : Nat) (c : Array Value) (t : TypeId) (w : World) (hs : s.size ≤ 1000) (hne : P ≠ B) (h : RP B s a w) (hP : w.heap[P]? = some (.cells c t (0, 0))) (hoff : o < c.size) :
    Calls Tryd.prog 32 #[.pointer (some ⟨B, 0, none⟩), .pointer (some ⟨P, o, none⟩)] w (WQ B P s w (Pl.oneOf s a) t c.size (c.setIfInBounds o (.int .i64 (cmN s a : Nat)))) := by
  have HH := hid h
  have HP := hid hP
  have hPl := lt_of_heap hP
  clear h hP
  have hfi := firstIdx_bt s a
  go_enter Tryd.func32, Tryd.ntmps32
  go_wp2_with fail
  refine (next_any B s a _ hs HH.out).mono ?_
  rintro e w1 ⟨rfl, p1, f1⟩
  have HP1 : Hid (w1.heap[P]? = some (.cells c t (0, 0))) := (f1.block P hPl hne).trans HP.out
  have F1 : Hid (Kept (fun k => k = B ∨ k = P) w w1) := f1.mono (fun _ _ e => .inl e)
  have h1 := p1.c1
  have g1 := p1.f1
  have q0 : w1.cell? ⟨P, o, none⟩ = some c[o] := by rw [cell_of HP1.out, Array.getElem?_eq_getElem hoff]
  have q1 : w1.frozen? ⟨P, o, none⟩ = false := frozen_of HP1.out o
  have P1 := hid p1
  clear p1 f1
  go_wp2_with fail
  refine (Tryd.strings_IndexByte _ _ _).mono ?_
  rintro e w2 ⟨rfl, rfl⟩
  have hfi' : Lib.indexByte (⟨#[60, 61, 33]⟩ : ByteArray).data.toList ((Pl.bt s a : Int)).toNat.toUInt8 = if Pl.bt s a = 60 then 0 else if Pl.bt s a = 61 then 1 else if Pl.bt s a = 33 then 2 else -1 := hfi
  rw [hfi']
  clear hfi hfi'
  by_cases hb : Pl.bt s a = 60 ∨ Pl.bt s a = 61 ∨ Pl.bt s a = 33
  · have HX : Hid (Pl.oneOf s a = (true, a + 1)) := by show _ = _; unfold Pl.oneOf; rw [if_pos hb]
    have hl := Pl.bt_lt (s := s) (a := a) (by omega)
    have hv : (if Pl.bt s a = 60 then (0 : Int) else if Pl.bt s a = 61 then 1 else if Pl.bt s a = 33 then 2 else -1) = (cmN s a : Int) := by
      unfold cmN; rcases hb with hb | hb | hb <;> simp [hb]
    rw [hv]
    have hn : decide ((cmN s a : Int) < 0) = false := by simp
    generalize hcm : cmN s a = cm at *
    have HCM := hid hcm
    clear hb hv hcm
    go_wp2_with fail
    go_ret
    have hr : RP B s (a + 1) (w2.setCell ⟨B, 1, none⟩ (.int .i64 ((a : Int) + 1))) := P1.out.set (by omega)
    refine ⟨true, a + 1, _, HX.out, rfl, ⟨hr.1, (Below.heap_setCell _ _ _ _ (fun e => hne e.symm)).trans hr.2⟩, (F1.out.setCell (.inr (.inl rfl)) _).setCell (.inr (.inr rfl)) _, heap_set ((Below.heap_setCell _ _ _ _ hne).trans HP1.out) o _, by simp, fun _ => rfl⟩
  · have HX : Hid (Pl.oneOf s a = (false, a)) := by show _ = _; unfold Pl.oneOf; rw [if_neg hb]
    have hv : (if Pl.bt s a = 60 then (0 : Int) else if Pl.bt s a = 61 then 1 else if Pl.bt s a = 33 then 2 else -1) = -1 := by
      rw [if_neg (by omega), if_neg (by omega), if_neg (by omega)]
    rw [hv]
    clear hb hv
    go_wp2_with fail
    go_ret
    exact ⟨false, a, c, HX.out, rfl, P1.out, F1.out, HP1.out, rfl, by simp⟩

/-- What 'operand' leaves. -/
def opC (s : ByteArray) (c : Array Value) (o a : Nat) : Array Value :=
  if Pl.bt s a = 35 then set6 c (o + 2) (.num (numOf (sub s (a + 1) (Pl.numP s (a + 1)).2)))
  else if Pl.bt s a = 36 then set6 c (o + 2) (.txt (sub s (a + 1) (Pl.let4 s (a + 1)).2))
  else (c.setIfInBounds o (.bool true)).setIfInBounds (o + 1) (.int .i64 (dgN s a : Nat))
theorem tk_at {s : ByteArray} {c a a' : Nat} {ok : Bool} (h : Pl.tk s c a = (ok, a')) : (ok = true ∧ Pl.bt s a = c ∧ a + 1 = a') ∨ (ok = false ∧ Pl.bt s a ≠ c ∧ a = a') := by
  unfold Pl.tk at h
  by_cases hb : Pl.bt s a = c
  · rw [if_pos hb] at h; injection h with h1 h2; exact .inl ⟨h1.symm, hb, h2⟩
  · rw [if_neg hb] at h; injection h with h1 h2; exact .inr ⟨h1.symm, hb, h2⟩
set_option maxHeartbeats 1000000 in
theorem operand_any (B P o : Nat) (s : ByteArray) (a : Nat) (c : Array Value) (t : TypeId) (w : World) (hs : s.size ≤ 1000) (hne : P ≠ B) (h : RP B s a w) (hP : w.heap[P]? = some (.cells c t (0, 0))) (hoff : o + 7 < c.size) :
    Calls Tryd.prog 33 #[.pointer (some ⟨B, 0, none⟩), .pointer (some ⟨P, o, none⟩)] w (WQ B P s w (Pl.operP s a) t c.size (opC s c o a)) := by
  have HH := hid h
  have HP := hid hP
  have hPl := lt_of_heap hP
  clear h hP
  go_enter Tryd.func33, Tryd.ntmps33
  go_wp2_with fail
  refine (take_any B s a 35 35 _ hs (by omega) rfl HH.out).mono ?_
  rintro e w1 ⟨ok1, a1, x1, rfl, p1, f1⟩
  have HP1 : Hid (w1.heap[P]? = some (.cells c t (0, 0))) := (f1.block P hPl hne).trans HP.out
  have F1 : Hid (Kept (fun k => k = B ∨ k = P) w w1) := f1.mono (fun _ _ e => .inl e)
  have P1 := hid p1
  have hPl1 := lt_of_heap HP1.out
  have X1 := hid x1
  rcases tk_at x1 with ⟨rfl, hb, rfl⟩ | ⟨rfl, hb, rfl⟩
  · have HE : Hid (opC s c o a = set6 c (o + 2) (.num (numOf (sub s (a + 1) (Pl.numP s (a + 1)).2)))) := by show _ = _; unfold opC; rw [if_pos hb]
    clear p1 f1 x1 hb
    go_wp2_with fail
    refine (numberValue_any B P (o + 2) s (a + 1) c t _ hs hne P1.out HP1.out (by omega)).mono ?_
    rintro e w2 ⟨ok2, a2, x2, rfl, p2, k2, c2⟩
    have X2 := hid x2
    have P2 := hid p2
    have K2 := hid k2
    have C2 := hid c2
    clear x2 p2 k2 c2
    go_wp2_with fail
    go_ret
    refine ⟨ok2, a2, _, ?_, rfl, P2.out, F1.out.seq K2.out, C2.out, ?_, fun hk => ?_⟩
    · unfold Pl.operP; rw [Pl.ifP_true X1.out]; exact X2.out
    · unfold nvC; split
      · exact set6_size _ _ _
      · rfl
    · subst hk
      have h2 : (Pl.numP s (a + 1)).2 = a2 := by rw [X2.out]
      rw [HE.out, h2]; exact if_pos rfl
  · go_wp2_with fail
    refine (take_any B s a 36 36 _ hs (by omega) rfl P1.out).mono ?_
    rintro e w2 ⟨ok2, a2, x2, rfl, p2, f2⟩
    have HP2 : Hid (w2.heap[P]? = some (.cells c t (0, 0))) := (f2.block P hPl1 hne).trans HP1.out
    have F2 : Hid (Kept (fun k => k = B ∨ k = P) w w2) := F1.out.seq (f2.mono (fun _ _ e => .inl e))
    have P2 := hid p2
    have X2 := hid x2
    rcases tk_at x2 with ⟨rfl, hb2, rfl⟩ | ⟨rfl, hb2, rfl⟩
    · have HE : Hid (opC s c o a = set6 c (o + 2) (.txt (sub s (a + 1) (Pl.let4 s (a + 1)).2))) := by show _ = _; unfold opC; rw [if_neg hb, if_pos hb2]
      clear p1 f1 x1 hb p2 f2 x2 hb2
      go_wp2_with fail
      refine (textValue_any B P (o + 2) s (a + 1) c t _ hs hne P2.out HP2.out (by omega)).mono ?_
      rintro e w3 ⟨ok3, a3, x3, rfl, p3, k3, c3⟩
      have X3 := hid x3
      have P3 := hid p3
      have K3 := hid k3
      have C3 := hid c3
      clear x3 p3 k3 c3
      go_wp2_with fail
      go_ret
      refine ⟨ok3, a3, _, ?_, rfl, P3.out, F2.out.seq K3.out, C3.out, ?_, fun hk => ?_⟩
      · unfold Pl.operP; rw [Pl.ifP_false X1.out, Pl.ifP_true X2.out]; exact X3.out
      · unfold tvC; split <;> exact set6_size _ _ _
      · subst hk
        have h2 : (Pl.let4 s (a + 1)).2 = a3 := by rw [X3.out]
        rw [HE.out, h2]; exact if_pos rfl
    · have HE : Hid (opC s c o a = (c.setIfInBounds o (.bool true)).setIfInBounds (o + 1) (.int .i64 (dgN s a : Nat))) := by show _ = _; unfold opC; rw [if_neg hb, if_neg hb2]
      clear p1 f1 x1 hb p2 f2 x2 hb2
      go_wp2_with fail
      refine (operandColumn_any B P o s a c t _ hs hne P2.out HP2.out (by omega)).mono ?_
      rintro e w3 ⟨ok3, a3, d3, x3, rfl, p3, k3, c3, hd3, he3⟩
      have X3 := hid x3
      have P3 := hid p3
      have K3 := hid k3
      have C3 := hid c3
      have HD := hid (And.intro hd3 he3)
      clear x3 p3 k3 c3 hd3 he3
      go_wp2_with fail
      go_ret
      refine ⟨ok3, a3, d3, ?_, rfl, P3.out, F2.out.seq K3.out, C3.out, HD.out.1, fun hk => ?_⟩
      · unfold Pl.operP; rw [Pl.ifP_false X1.out, Pl.ifP_false X2.out]; exact X3.out
      · rw [HE.out]; exact HD.out.2 hk

/-- What 'weight' leaves. -/
def wtC (s : ByteArray) (c : Array Value) (o a : Nat) : Array Value :=
  if Pl.bt s a = 115 then (c.setIfInBounds o (.bool true)).setIfInBounds (o + 1) (.int .i64 (dgN s (a + 1) : Nat)) else set6 c (o + 2) (.num 1)
def wtP (s : ByteArray) (a : Nat) : Bool × Nat := Pl.ifP (Pl.tk s 115) (Pl.dig s) (Pl.tk s 110) a
set_option maxRecDepth 100000 in
set_option maxHeartbeats 1000000 in
theorem weight_any (B P o : Nat) (s : ByteArray) (a : Nat) (c : Array Value) (t : TypeId) (w : World) (hs : s.size ≤ 1000) (hne : P ≠ B) (h : RP B s a w) (hP : w.heap[P]? = some (.cells c t (0, 0))) (hoff : o + 7 < c.size) :
    Calls Tryd.prog 35 #[.pointer (some ⟨B, 0, none⟩), .pointer (some ⟨P, o, none⟩)] w (WQ B P s w (wtP s a) t c.size (wtC s c o a)) := by
  have HH := hid h
  have HP := hid hP
  have hPl := lt_of_heap hP
  clear h hP
  go_enter Tryd.func35, Tryd.ntmps35
  go_wp2_with fail
  refine (take_any B s a 115 115 _ hs (by omega) rfl HH.out).mono ?_
  rintro e w1 ⟨ok1, a1, x1, rfl, p1, f1⟩
  have HP1 : Hid (w1.heap[P]? = some (.cells c t (0, 0))) := (f1.block P hPl hne).trans HP.out
  have F1 : Hid (Kept (fun k => k = B ∨ k = P) w w1) := f1.mono (fun _ _ e => .inl e)
  have P1 := hid p1
  have hPl1 := lt_of_heap HP1.out
  have hBl1 : B < w1.heap.size := lt_of_heap p1.2
  have X1 := hid x1
  rcases tk_at x1 with ⟨rfl, hb, rfl⟩ | ⟨rfl, hb, rfl⟩
  · have HE : Hid (wtC s c o a = (c.setIfInBounds o (.bool true)).setIfInBounds (o + 1) (.int .i64 (dgN s (a + 1) : Nat))) := by show _ = _; unfold wtC; rw [if_pos hb]
    clear p1 f1 x1 hb
    go_wp2_with fail
    refine (operandColumn_any B P o s (a + 1) c t _ hs hne P1.out HP1.out (by omega)).mono ?_
    rintro e w3 ⟨ok3, a3, d3, x3, rfl, p3, k3, c3, hd3, he3⟩
    have X3 := hid x3
    have P3 := hid p3
    have K3 := hid k3
    have C3 := hid c3
    have HD := hid (And.intro hd3 he3)
    clear x3 p3 k3 c3 hd3 he3
    go_wp2_with fail
    go_ret
    refine ⟨ok3, a3, d3, ?_, rfl, P3.out, F1.out.seq K3.out, C3.out, HD.out.1, fun hk => ?_⟩
    · unfold wtP; rw [Pl.ifP_true X1.out]; exact X3.out
    · rw [HE.out]; exact HD.out.2 hk
  · have HE : Hid (wtC s c o a = set6 c (o + 2) (.num 1)) := by show _ = _; unfold wtC; rw [if_neg hb]
    clear p1 f1 x1 hb
    go_wp2_with fail
    refine (numberOf_any 1 _).mono ?_
    rintro e w3 ⟨rfl, hk3⟩
    have HP3 : Hid (w3.heap[P]? = some (.cells c t (0, 0))) := (hk3.block P hPl1 (fun z => z)).trans HP1.out
    have HR3 : Hid (RP B s a w3) := ⟨P1.out.1, (hk3.block B hBl1 (fun z => z)).trans P1.out.2⟩
    have HK3 : Hid (Kept (fun k => k = B ∨ k = P) w w3) := F1.out.seqNo hk3
    have q0 : w3.cell? ⟨P, o + 2, none⟩ = some c[o + 2] := by rw [cell_of HP3.out, Array.getElem?_eq_getElem (by omega)]
    have q1 : w3.cell? ⟨P, o + 2 + 1, none⟩ = some c[o + 2 + 1] := by rw [cell_of HP3.out, Array.getElem?_eq_getElem (by omega)]
    have q2 : w3.cell? ⟨P, o + 2 + 2, none⟩ = some c[o + 2 + 2] := by rw [cell_of HP3.out, Array.getElem?_eq_getElem (by omega)]
    have q3 : w3.cell? ⟨P, o + 2 + 3, none⟩ = some c[o + 2 + 3] := by rw [cell_of HP3.out, Array.getElem?_eq_getElem (by omega)]
    have q4 : w3.cell? ⟨P, o + 2 + 4, none⟩ = some c[o + 2 + 4] := by rw [cell_of HP3.out, Array.getElem?_eq_getElem (by omega)]
    have q5 : w3.cell? ⟨P, o + 2 + 5, none⟩ = some c[o + 2 + 5] := by rw [cell_of HP3.out, Array.getElem?_eq_getElem (by omega)]
    have g0 : w3.frozen? ⟨P, o + 2, none⟩ = false := frozen_of HP3.out _
    have g1 : w3.frozen? ⟨P, o + 2 + 1, none⟩ = false := frozen_of HP3.out _
    have g2 : w3.frozen? ⟨P, o + 2 + 2, none⟩ = false := frozen_of HP3.out _
    have g3 : w3.frozen? ⟨P, o + 2 + 3, none⟩ = false := frozen_of HP3.out _
    have g4 : w3.frozen? ⟨P, o + 2 + 4, none⟩ = false := frozen_of HP3.out _
    have g5 : w3.frozen? ⟨P, o + 2 + 5, none⟩ = false := frozen_of HP3.out _
    have HW : Hid (RP B s a (w6 w3 P (o + 2) (kI (.num 1)) (tB (.num 1) 0) (tB (.num 1) 1) (tB (.num 1) 2) (tB (.num 1) 3) (nI (.num 1)))) :=
      ⟨HR3.out.1, ((w6_kept (S := (· = P)) rfl (o + 2) _ _ _ _ _ _).block B (lt_of_heap HR3.out.2) (fun e => hne e.symm)).trans HR3.out.2⟩
    have HPW := hid (w6_heap HP3.out (o + 2) (.num 1))
    have HKW : Hid (Kept (fun k => k = B ∨ k = P) w (w6 w3 P (o + 2) (kI (.num 1)) (tB (.num 1) 0) (tB (.num 1) 1) (tB (.num 1) 2) (tB (.num 1) 3) (nI (.num 1)))) := HK3.out.seq (w6_kept (.inr rfl) (o + 2) _ _ _ _ _ _)
    clear hk3
    go_wp2_with fail
    refine (take_any B s a 110 110 _ hs (by omega) rfl HW.out).mono ?_
    rintro e w4 ⟨ok4, a4, x4, rfl, p4, f4⟩
    have C4 := hid ((f4.block P (lt_of_heap HPW.out) hne).trans HPW.out)
    have K4 : Hid (Kept (fun k => k = B ∨ k = P) w w4) := HKW.out.seq (f4.mono (fun _ _ e => .inl e))
    have P4 := hid p4
    have X4 := hid x4
    clear x4 p4 f4 q0 q1 q2 q3 q4 q5 g0 g1 g2 g3 g4 g5 HW HPW HKW
    go_wp2_with fail
    go_ret
    refine ⟨ok4, a4, _, ?_, rfl, P4.out, K4.out, C4.out, set6_size _ _ _, fun _ => HE.out.symm⟩
    unfold wtP; rw [Pl.ifP_false X1.out]; exact X4.out
end Go.Proofs.YtdinjjmcmfjbfaaDoor
