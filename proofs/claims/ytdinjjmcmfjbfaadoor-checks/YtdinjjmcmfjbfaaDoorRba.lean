/-
  The document's reader, on: has, digit, open, letters.
-/
import Derived.Test.YtdinjjmcmfjbfaaDoorRa
namespace Go.Proofs.YtdinjjmcmfjbfaaDoor
open Go.RowKit

/-- 'next' at one byte. -/
theorem rtake_any (B : Nat) (s : ByteArray) (a d e j c : Nat) (ci : Int) (pv : Value) (w : World) (hs : s.size ≤ 120) (hc : 0 < c) (hci : ci = (c : Int)) (h : RR B s a d e j pv w) :
    Calls Tryd.prog 24 #[.pointer (some ⟨B, 0, none⟩), .int .u8 ci, .int .u8 ci] w fun en w' => ∃ v : Nat, en = .returned (.int .u8 (v : Int)) ∧ RQ B s d j pv w (Pl.bE (e, a) (Pl.lf (Pl.tk s c))) w' := by
  refine (rnext_any B s a d e j c c ci ci pv w hs hc (Nat.le_refl _) hci hci h).mono ?_
  rintro en w1 ⟨v, rfl, _, _, _, hq⟩
  rw [Pl.rng_tk] at hq
  exact ⟨v, rfl, hq⟩

set_option maxHeartbeats 1000000 in
theorem has_any (B : Nat) (s : ByteArray) (a d e j c : Nat) (ci : Int) (pv : Value) (w : World) (hs : s.size ≤ 120) (hc : 0 < c) (hci : ci = (c : Int)) (h : RR B s a d e j pv w) :
    Calls Tryd.prog 23 #[.pointer (some ⟨B, 0, none⟩), .int .u8 ci] w fun en w' => ∃ (ok : Bool) (a' : Nat), en = .returned (.bool ok) ∧ Hid (sn s e c c a = ok) ∧ a' = (if ok = true then a + 1 else a) ∧ RR B s a' d e j pv w' ∧ Fr B none w w' := by
  subst hci
  have HH := hid h
  clear h
  go_enter Tryd.func23, Tryd.ntmps23
  go_wp2_with fail
  refine (sees_any B s a d e j c c _ _ pv _ hs hc rfl rfl HH.out).mono ?_
  rintro en w1 ⟨rfl, p1, f1⟩
  cases hsn : sn s e c c a
  · have HSN := hid hsn
    have P1 := hid p1
    clear p1 hsn
    go_wp2_with fail
    go_ret
    exact ⟨false, a, rfl, HSN, rfl, P1.out, f1⟩
  · have hb := sn_bt hsn
    have hl := Pl.bt_lt (s := s) (a := a) (by omega)
    have c1 := p1.c1
    have g1 := p1.f 1
    have HSN := hid hsn
    have P1 := hid p1
    clear p1 hsn hb
    go_wp2_with fail
    go_ret
    exact ⟨true, a + 1, rfl, HSN, rfl, P1.out.setAt (by omega), f1.setCell _ _⟩

set_option maxHeartbeats 1000000 in
theorem rdigit_any (B : Nat) (s : ByteArray) (a d e j : Nat) (pv : Value) (w : World) (hs : s.size ≤ 120) (h : RR B s a d e j pv w) :
    Calls Tryd.prog 25 #[.pointer (some ⟨B, 0, none⟩)] w fun en w' => ∃ n : Nat, en = .returned (.int .i64 (n : Int)) ∧ n ≤ 9 ∧ RQ B s d j pv w (Pl.bE (e, a) (Pl.lf (Pl.dig s))) w' := by
  have HH := hid h
  clear h
  go_enter Tryd.func25, Tryd.ntmps25
  go_wp2_with fail
  refine (rnext_any B s a d e j 48 57 48 57 pv _ hs (by omega) (by omega) rfl rfl HH.out).mono ?_
  rintro en w1 ⟨v, rfl, hv1, hv2, _, hq⟩
  rw [Pl.rng_dig] at hq
  have HQ := hid hq
  clear hq
  obtain ⟨n, rfl⟩ : ∃ n, v = n + 48 := ⟨v - 48, by omega⟩
  have hn : n ≤ 9 := by omega
  clear hv1 hv2
  have e1 : IntKind.u8.wrap ((n : Int) + 48 - 48) = (n : Int) := by rw [show (n : Int) + 48 - 48 = (n : Int) by omega]; simp [IntKind.wrap, IntKind.bits, IntKind.signed]; omega
  go_wp2_with fail
  go_ret
  refine ⟨n, ret_int ?_, hn, HQ.out⟩
  simp

set_option maxHeartbeats 1000000 in
theorem open_any (B : Nat) (s : ByteArray) (a d e j : Nat) (pv : Value) (w : World) (hs : s.size ≤ 120) (hd : d ≤ 100) (h : RR B s a d e j pv w) :
    Calls Tryd.prog 29 #[.pointer (some ⟨B, 0, none⟩)] w fun en w' => en = .returned (.tuple #[]) ∧ RQ B s (d + 1) j pv w (Pl.opn s d e a) w' := by
  have HH := hid h
  clear h
  go_enter Tryd.func29, Tryd.ntmps29
  go_wp2_with fail
  refine (sees_any B s a d e j 40 40 40 40 pv _ hs (by omega) rfl rfl HH.out).mono ?_
  rintro en w1 ⟨rfl, p1, f1⟩
  have c2 := p1.c2
  have P1 := hid p1
  clear p1
  cases hsn : sn s e 40 40 a
  · have HO : Hid (Pl.opn s d e a = Pl.bE (e, a) (Pl.lf (Pl.tk s 40))) := by
      show _ = _
      unfold Pl.opn; rw [if_neg]
      rintro ⟨h1, h2, _⟩
      unfold sn at hsn; simp at hsn; have := hsn h1; omega
    clear hsn
    go_wp2_with fail
    refine (rtake_any B s a d e j 40 40 pv _ hs (by omega) rfl P1.out).mono ?_
    rintro en w2 ⟨v, rfl, e2, a2, x2, p2, f2⟩
    have X2 := hid x2
    have d2 := p2.c2
    have g2 := p2.f 2
    have P2 := hid p2
    clear x2 p2
    go_wp2_with fail
    go_end0
    exact ⟨rfl, e2, a2, HO.out.trans X2.out, P2.out.setD (d + 1), (f1.seq f2).setCell _ _⟩
  · obtain rfl : e = 0 := sn_zero hsn
    have hb := sn_bt hsn
    clear hsn
    by_cases hd6 : d = 6
    · have hx : ((d : Int) == 6) = true := by simp; omega
      have HO : Hid (Pl.opn s d 0 a = (3, a)) := by show _ = _; unfold Pl.opn; rw [if_pos ⟨rfl, by omega, hd6⟩]
      clear hd6 hb
      go_wp2_with fail
      refine (wrong_any B s a d 0 j 3 3 pv _ rfl P1.out).mono ?_
      rintro en w2 ⟨rfl, p2, f2⟩
      have P2 : Hid (RR B s a d 3 j pv w2) := p2
      clear p2
      go_wp2_with fail
      refine (rtake_any B s a d 3 j 40 40 pv _ hs (by omega) rfl P2.out).mono ?_
      rintro en w3 ⟨v, rfl, e3, a3, x3, p3, f3⟩
      have X3 := hid x3
      have d2 := p3.c2
      have g2 := p3.f 2
      have P3 := hid p3
      clear x3 p3
      go_wp2_with fail
      go_end0
      exact ⟨rfl, e3, a3, HO.out.trans X3.out, P3.out.setD (d + 1), ((f1.seq f2).seq f3).setCell _ _⟩
    · have hx : ((d : Int) == 6) = false := by simp; omega
      have HO : Hid (Pl.opn s d 0 a = Pl.bE (0, a) (Pl.lf (Pl.tk s 40))) := by show _ = _; unfold Pl.opn; rw [if_neg (by omega)]
      clear hd6 hb
      go_wp2_with fail
      refine (rtake_any B s a d 0 j 40 40 pv _ hs (by omega) rfl P1.out).mono ?_
      rintro en w2 ⟨v, rfl, e2, a2, x2, p2, f2⟩
      have X2 := hid x2
      have d2 := p2.c2
      have g2 := p2.f 2
      have P2 := hid p2
      clear x2 p2
      go_wp2_with fail
      go_end0
      exact ⟨rfl, e2, a2, HO.out.trans X2.out, P2.out.setD (d + 1), (f1.seq f2).setCell _ _⟩

set_option maxHeartbeats 1000000 in
theorem rletters_any (B : Nat) (s : ByteArray) (a d e j : Nat) (pv : Value) (w : World) (hs : s.size ≤ 120) (h : RR B s a d e j pv w) :
    Calls Tryd.prog 27 #[.pointer (some ⟨B, 0, none⟩)] w fun en w' => ∃ t : ByteArray, en = .returned (.string t) ∧ RQ B s d j pv w (Pl.bE (e, a) (Pl.lf (Pl.let4 s))) w' := by
  have ha := h.1
  have h1 := h.c1
  have HH := hid h
  clear h
  by_cases hy : e = 0 ∧ 97 ≤ Pl.bt s a ∧ Pl.bt s a ≤ 122
  · obtain ⟨rfl, hb1, hb2⟩ := hy
    have HX : Hid (Pl.bE (0, a) (Pl.lf (Pl.let4 s)) = (0, Pl.many s 97 122 3 (a + 1))) := by show _ = _; rw [Pl.bE_zero, Pl.lf_true]; exact Pl.sev_yes ⟨hb1, hb2⟩
    have HN : Hid (Pl.bE (0, a) (Pl.lf (Pl.rng s 97 122)) = (0, a + 1)) := by show _ = _; rw [Pl.bE_zero, Pl.lf_true]; unfold Pl.rng; rw [if_pos ⟨hb1, hb2⟩]
    clear hb1 hb2
    go_enter Tryd.func27, Tryd.ntmps27
    go_wp2_with fail
    refine (rnext_any B s a d 0 j 97 122 97 122 pv _ hs (by omega) (by omega) rfl rfl HH.out).mono ?_
    rintro en w1 ⟨v, rfl, _, _, _, e1, a1, x1, p1, f1⟩
    rw [HN.out] at x1
    injection x1 with x1 x2
    subst x1 x2
    have P1 := hid p1
    clear p1
    go_wp2_with fail
    go_loopg [] 3 (fun k wr => ∃ c : Nat, c + k = a + 4 ∧ a + 1 ≤ c ∧ Hid (RR B s c d 0 j pv wr) ∧ Fr B none w wr ∧ Hid (Pl.many s 97 122 k c = Pl.many s 97 122 3 (a + 1)))
    case atStart => exact ⟨a + 1, rfl, Nat.le_refl _, P1, f1, rfl⟩
    case round =>
      obtain ⟨c, hck, hac, hp, hf, hm⟩ := hrel
      have hc := hp.out.1
      have c1 := hp.out.c1
      by_cases hk : gk = 0
      · subst hk
        have hd : decide ((c : Int) - (a : Int) < 4) = false := by simp; omega
        have c0 := hp.out.c0
        have c3 := hp.out.c3
        have i1 : (0 : Int) ≤ (a : Int) := by omega
        have i2 : (a : Int) ≤ (c : Int) := by omega
        have i3 : (c : Int) ≤ (s.size : Int) := by omega
        go_wp2_with fail
        go_quiet (fail)
        go_wp2_with fail
        go_ret
        exact ⟨_, rfl, 0, c, by rw [HX.out, ← hm.out]; rfl, hp.out.drewN _, hf.drewN _⟩
      · obtain ⟨k, rfl⟩ : ∃ k, gk = k + 1 := ⟨gk - 1, by omega⟩
        have hlt : (c : Int) - (a : Int) < 4 := by omega
        go_wp2_with fail
        refine (sees_any B s c d 0 j 97 122 97 122 pv _ hs (by omega) rfl rfl hp.out).mono ?_
        rintro en w2 ⟨rfl, p2, f2⟩
        cases hsn : sn s 0 97 122 c
        · have hm2 : Hid (c = Pl.many s 97 122 3 (a + 1)) := by
            have := hm.out; rw [Pl.many_out (by unfold sn at hsn; simpa using hsn)] at this; exact this
          have c0 := p2.c0
          have d1 := p2.c1
          have c3 := p2.c3
          have P2 := hid p2
          clear p2 hsn c1
          have i1 : (0 : Int) ≤ (a : Int) := by omega
          have i2 : (a : Int) ≤ (c : Int) := by omega
          have i3 : (c : Int) ≤ (s.size : Int) := by omega
          go_wp2_with fail
          go_quiet (fail)
          go_wp2_with fail
          go_ret
          exact ⟨_, rfl, 0, c, by rw [HX.out, ← hm2.out], P2.out.drewN _, (hf.seq f2).drewN _⟩
        · have hb := sn_bt hsn
          have hl := Pl.bt_lt (s := s) (a := c) (by omega)
          have hm2 : Hid (Pl.many s 97 122 k (c + 1) = Pl.many s 97 122 3 (a + 1)) := by
            have := hm.out; rw [Pl.many_in hb] at this; exact this
          have d1 := p2.c1
          have g1 := p2.f 1
          have P2 := hid p2
          clear p2 hsn hb c1
          go_wp2_with fail
          go_roundg k
          case measure => omega
          case rel => exact ⟨c + 1, by omega, by omega, P2.out.setAt (by omega), (hf.seq f2).setCell _ _, hm2⟩
  · have HX : Hid (Pl.bE (e, a) (Pl.lf (Pl.let4 s)) = (wrg e 2, a)) := by
      show _ = _
      by_cases he : e = 0
      · subst he; exact Pl.lf_false (show Pl.sev s 4 97 122 a = (false, a) from Pl.sev_no (by omega))
      · rw [Pl.bE_err he]; unfold wrg; rw [if_neg he]
    have HN : Hid (Pl.bE (e, a) (Pl.lf (Pl.rng s 97 122)) = (wrg e 2, a)) := by
      show _ = _
      by_cases he : e = 0
      · subst he; exact Pl.lf_false (show Pl.rng s 97 122 a = (false, a) by unfold Pl.rng; rw [if_neg (by omega)])
      · rw [Pl.bE_err he]; unfold wrg; rw [if_neg he]
    have hw : wrg e 2 ≠ 0 := by unfold wrg; split <;> omega
    have hw2 : ((wrg e 2 : Int) != 0) = true := by simp; omega
    have hsn : Hid (sn s (wrg e 2) 97 122 a = false) := by show _ = _; unfold sn; simp [hw]
    clear hy
    go_enter Tryd.func27, Tryd.ntmps27
    go_wp2_with fail
    refine (rnext_any B s a d e j 97 122 97 122 pv _ hs (by omega) (by omega) rfl rfl HH.out).mono ?_
    rintro en w1 ⟨v, rfl, _, _, _, e1, a1, x1, p1, f1⟩
    rw [HN.out] at x1
    injection x1 with x1 x2
    subst x1 x2
    have P1 := hid p1
    clear p1 h1
    go_wp2_with fail
    go_loopg [] 0 (fun _ wr => Hid (RR B s a d (wrg e 2) j pv wr) ∧ Fr B none w wr)
    case atStart => exact ⟨P1, f1⟩
    case round =>
      obtain ⟨hp, hf⟩ := hrel
      have c1 := hp.out.c1
      go_wp2_with fail
      refine (sees_any B s a d (wrg e 2) j 97 122 97 122 pv _ hs (by omega) rfl rfl hp.out).mono ?_
      rintro en w2 ⟨rfl, p2, f2⟩
      rw [hsn.out]
      have c3 := p2.c3
      have P2 := hid p2
      clear p2 c1
      go_wp2_with fail
      go_ret
      exact ⟨_, rfl, wrg e 2, a, HX.out, P2.out, hf.seq f2⟩
end Go.Proofs.YtdinjjmcmfjbfaaDoor
