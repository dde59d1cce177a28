/-
  The program's reading of a whole text, with its list of open brackets: its answer and its place are the plain function's.
-/
import Derived.Test.YtfoddobnicojpaaStk
import Derived.WalkMore
namespace Go.Proofs.Ytfoddobnicojpaa
open Go.RowKit
set_option maxHeartbeats 1000000 in
theorem query_any (B : Nat) (s : ByteArray) (w : World) (hs : s.size ≤ 120) (h : RP B s 0 w) :
    Calls Try.prog 8 #[.pointer (some ⟨B, 0, none⟩)] w fun e w' => e = .returned (.int .i64 ((Pl.whole s).1 : Nat)) ∧ RP B s (Pl.whole s).2 w' ∧ Fr B none w w' := by
  have HH := hid h
  have hBl := lt_of_heap h.2
  clear h
  go_enter Try.func8, Try.ntmps8
  go_wp2
  go_step3
  go_wp2
  go_step3
  go_wp2
  go_loopg [4] (s.size) (fun k v4 wr => ∃ (st : List Nat) (c : Nat) (aw : Array Value), k + c = s.size ∧ v4 = .int .i64 (st.length : Int) ∧ st.length ≤ 6 ∧ Hid (Stk aw st) ∧ Hid (wr.heap[w.heap.size]? = some (.cells aw 41 (0, 0))) ∧ Hid (RP B s c wr) ∧ Fr B none w wr ∧ Hid (Pl.endP s (Pl.finP s st (Pl.qP s (6 - st.length) c)) = Pl.whole s))
  case atStart => 
    refine ⟨[], 0, #[.int .i64 0, .int .i64 0, .int .i64 0, .int .i64 0, .int .i64 0, .int .i64 0], rfl, rfl, by simp, Stk.nil rfl, ?_, ?_, (Fr.refl _ _ _).alloc _, rfl⟩
    · exact heap_alloc_new w _
    · exact ⟨by omega, (Below.heap_alloc _ _ _ hBl).trans HH.out.2⟩
  case round =>
    obtain ⟨st, c, aw, hk, rfl, hst6, hstk, hG, hp, hf, hE⟩ := hrel
    go_wp2_with fail
    refine (next_any B s c _ hs hp.out).mono ?_
    rintro e w1 ⟨rfl, p1, f1⟩
    have P1 := hid p1
    clear p1
    go_wp2_with fail
    refine (kindOf_any (Pl.bt s c) _).mono ?_
    rintro e w2 ⟨rfl, rfl⟩
    have hkd := Pl.kd_le (Pl.bt s c)
    go_wp2_with fail
    refine (head_any B s c (Pl.kd (Pl.bt s c)) _ hs hkd P1.out).mono ?_
    rintro e w3 ⟨ok3, a3, x3, rfl, p3, f3⟩
    have hfacts := Pl.headP_facts s (Pl.kd (Pl.bt s c)) c
    rw [x3] at hfacts
    have X3 := hid x3
    have P3 := hid p3
    clear x3 p3
    cases ok3
    · have HX : Hid (Pl.whole s = (2, a3)) := by show _ = _; rw [← hE.out, Pl.qP_head_false X3.out, Pl.endP_err (by omega)]
      clear hfacts
      go_wp2_with fail
      try rw [Exit.noGoto_ret]
      go_ret
      exact ⟨by rw [HX.out]; rfl, by rw [HX.out]; exact P3.out, (hf.seq f1).seq f3⟩
    have hlt : c < a3 := hfacts.2.2.1 rfl
    clear hfacts
    have ha3 := P3.out.1
    by_cases hk1 : Pl.kd (Pl.bt s c) = 1
    · have hb1 : ((Pl.kd (Pl.bt s c) : Int) != 1) = false := by simp [hk1]
      have hE2 : Hid (Pl.endP s (Pl.finP s st (0, a3)) = Pl.whole s) := by show _ = _; rw [← hE.out, Pl.qP_table X3.out hk1]
      clear hE X3 hk1
      generalize hkk : Pl.kd (Pl.bt s c) = kk at *
      have hkk' := hid hkk
      clear hkk
      have hG3 : Hid (w3.heap[w.heap.size]? = some (.cells aw 41 (0, 0))) := by
        show _ = _
        have z0 : w.heap.size < wr.heap.size := lt_of_heap hG.out
        have z1 := f1.size
        rw [f3.block _ (by omega) (by omega) (by simp), f1.block _ (by omega) (by omega) (by simp)]; exact hG.out
      have hf3 := (hf.seq f1).seq f3
      clear f1 f3 hf hG
      obtain ⟨wo, rfl⟩ : ∃ wo : World, wo = wr := ⟨_, rfl⟩
      obtain ⟨gko, hgko⟩ : ∃ g : Nat, g = gk := ⟨_, rfl⟩
      rw [← hgko] at hk
      have Hgk := hid hgko
      clear hgko
      go_wp2_with fail
      go_loopg [4] (st.length) (fun k v4 wi => ∃ (st1 : List Nat) (c1 : Nat) (aw1 : Array Value), Hid (k = st1.length) ∧ v4 = .int .i64 (k : Int) ∧ k ≤ 6 ∧ c < c1 ∧ Hid (Stk aw1 st1) ∧ Hid (wi.heap[w.heap.size]? = some (.cells aw1 41 (0, 0))) ∧ Hid (RP B s c1 wi) ∧ Fr B none w wi ∧ Hid (Pl.endP s (Pl.finP s st1 (0, c1)) = Pl.whole s))
      case atStart => exact ⟨st, a3, aw, rfl, rfl, hst6, hlt, hstk, hG3, P3, hf3, hE2⟩
      case round =>
        obtain ⟨st1, c1, aw1, hL, rfl, hst1, hlt1, hstk1, hG1, hp1, hf1, hE1⟩ := hrel
        have hc1 := hp1.out.1
        have d0 := hp1.out.c0
        have d1 := hp1.out.c1
        cases st1 with
        | nil =>
          obtain rfl : gk = 0 := hL.out
          by_cases hend : c1 < s.size
          · have HX : Hid (Pl.whole s = (2, c1)) := by show _ = _; rw [← hE1.out]; simp [Pl.finP, Pl.endP, Pl.bE, hend]
            have hend' : (c1 : Int) < (s.size : Int) := by omega
            clear hend
            go_wp2_with fail
            go_quiet (fail)
            go_wp2_with fail
            try rw [Exit.noGoto_ret]
            go_ret
            exact ⟨by rw [HX.out]; rfl, by rw [HX.out]; exact hp1.out.drewN _, hf1.drewN _⟩
          · have HX : Hid (Pl.whole s = (0, c1)) := by show _ = _; rw [← hE1.out]; simp [Pl.finP, Pl.endP, Pl.bE, hend]
            go_wp2_with fail
            go_quiet (fail)
            go_wp2_with fail
            try rw [Exit.noGoto_ret]
            go_ret
            exact ⟨by rw [HX.out]; rfl, by rw [HX.out]; exact hp1.out.drewN _, hf1.drewN _⟩
        | cons n st2 =>
          obtain ⟨m, rfl⟩ : ∃ m, gk = m + 1 := ⟨st2.length, hL.out⟩
          have hm : Hid (m = st2.length) := by have := hL.out; simp at this; exact this
          have hn0 : ((m : Int) + 1 == 0) = false := by simp; omega
          have hl0 : (0 : Int) ≤ (m : Int) := by omega
          have hl6 : (m : Int) < 6 := by omega
          have cA : wr.cell? ⟨w.heap.size, m, none⟩ = some (.int .i64 (n : Int)) := by rw [cell_of hG1.out, hm.out]; exact hstk1.out.top
          have fA : wr.frozen? ⟨w.heap.size, m, none⟩ = false := frozen_of hG1.out _
          have hne : ¬ B = w.heap.size := by omega
          have hn := hstk1.out.2.2 n (by simp)
          have hn1 : (n : Int) - 1 ≤ 1 := by omega
          have hn2 : (0 : Int) ≤ (n : Int) - 1 := by omega
          by_cases h2 : n = 2
          · subst h2
            go_wp2_with fail
            refine (take_any B s c1 44 44 _ hs (by omega) rfl ?_).mono ?_
            · exact ⟨hp1.out.1, (Below.heap_setCell _ _ _ _ (by show B ≠ w.heap.size; omega)).trans hp1.out.2⟩
            rintro e w5 ⟨ok5, a5, x5, rfl, p5, f5⟩
            have hle : c1 ≤ a5 := by have hle := (Pl.tk_good (s := s) (c := 44) (by omega) (by omega)).le c1; rw [x5] at hle; exact hle
            have X5 := hid x5
            have P5 := hid p5
            clear x5 p5
            have hfr : Fr B none w w5 := (hf1.setNew (Nat.le_refl _) _).seq f5
            cases ok5
            · have HX : Hid (Pl.whole s = (2, a5)) := by show _ = _; rw [← hE1.out, Pl.finP_two_no X5.out]
              go_wp2_with fail
              try rw [Exit.noGoto_ret]
              go_ret
              exact ⟨by rw [HX.out]; rfl, by rw [HX.out]; exact P5.out, hfr⟩
            · have ha5 := P5.out.1
              go_wp2_with fail
              go_roundg (s.size - a5)
              case measure => have := Hgk.out; omega
              case rel =>
                refine ⟨1 :: st2, a5, aw1.setIfInBounds m (.int .i64 ((1 : Nat) : Int)), by omega, by rw [hm.out]; rfl, by have := hm.out; simp; omega, by rw [hm.out]; exact hstk1.out.change (.inl rfl) (by have := hm.out; omega), ?_, P5, hfr, ?_⟩
                · show _ = _
                  have z0 : w.heap.size < wr.heap.size := lt_of_heap hG1.out
                  rw [f5.block _ (by simp [World.setCell]; omega) (by omega) (by simp)]
                  exact heap_set hG1.out _ _
                · show _ = _
                  rw [← hE1.out, Pl.finP_two_yes X5.out, List.length_cons, show 6 - (st2.length + 1) = 5 - st2.length by omega]
          · obtain rfl : n = 1 := by omega
            go_wp2_with fail
            refine (take_any B s c1 41 41 _ hs (by omega) rfl ?_).mono ?_
            · exact ⟨hp1.out.1, (Below.heap_setCell _ _ _ _ (by show B ≠ w.heap.size; omega)).trans hp1.out.2⟩
            rintro e w5 ⟨ok5, a5, x5, rfl, p5, f5⟩
            have hle : c1 ≤ a5 := by have hle := (Pl.tk_good (s := s) (c := 41) (by omega) (by omega)).le c1; rw [x5] at hle; exact hle
            have X5 := hid x5
            have P5 := hid p5
            clear x5 p5
            have hfr : Fr B none w w5 := (hf1.setNew (Nat.le_refl _) _).seq f5
            cases ok5
            · have HX : Hid (Pl.whole s = (2, a5)) := by show _ = _; rw [← hE1.out, Pl.finP_one_no X5.out]
              go_wp2_with fail
              try rw [Exit.noGoto_ret]
              go_ret
              exact ⟨by rw [HX.out]; rfl, by rw [HX.out]; exact P5.out, hfr⟩
            · go_wp2_with fail
              go_roundg m
              case measure => omega
              case rel =>
                refine ⟨st2, a5, aw1.setIfInBounds m (.int .i64 0), hm, by go_num, by omega, by omega, by rw [hm.out]; exact hstk1.out.drop, ?_, P5, hfr, ?_⟩
                · show _ = _
                  have z0 : w.heap.size < wr.heap.size := lt_of_heap hG1.out
                  rw [f5.block _ (by simp [World.setCell]; omega) (by omega) (by simp)]
                  exact heap_set hG1.out _ _
                · show _ = _
                  rw [← hE1.out, Pl.finP_one_yes X5.out]
    · have hb1 : ((Pl.kd (Pl.bt s c) : Int) != 1) = true := by simp; omega
      go_wp2_with fail
      refine (next_any B s a3 _ hs P3.out).mono ?_
      rintro e w4 ⟨rfl, p4, f4⟩
      have P4 := hid p4
      clear p4
      by_cases hb : Pl.bt s a3 = 40
      · have hb2 : ((Pl.bt s a3 : Int) != 40) = false := by simp; omega
        have hl3 := Pl.bt_lt (s := s) (a := a3) (by omega)
        by_cases hd : st.length = 6
        · have hd2 : ((st.length : Int) == 6) = true := by simp; omega
          have HX : Hid (Pl.whole s = (3, a3)) := by show _ = _; rw [← hE.out, hd, Pl.qP_deep X3.out hk1 hb, Pl.endP_err (by omega)]
          clear hd hb hk1
          go_wp2_with fail
          try rw [Exit.noGoto_ret]
          go_ret
          exact ⟨by rw [HX.out]; rfl, by rw [HX.out]; exact P4.out, ((hf.seq f1).seq f3).seq f4⟩
        · have hd2 : ((st.length : Int) == 6) = false := by simp; omega
          have hk0 : Pl.kd (Pl.bt s c) ≠ 0 := fun e0 => by have := X3.out; rw [e0] at this; simp [Pl.headP] at this
          have hins := Pl.ins_two hk0 hk1
          have hE2 : Hid (Pl.endP s (Pl.finP s (Pl.ins (Pl.kd (Pl.bt s c)) :: st) (Pl.qP s (5 - st.length) (a3 + 1))) = Pl.whole s) := by
            show _ = _
            rw [← hE.out, show 6 - st.length = (5 - st.length) + 1 by omega, Pl.qP_open X3.out hk1 hb]; rfl
          have c1 := P4.out.c1
          have g1 := P4.out.f1
          clear hb hk1 hk0 hE
          have hG4 : Hid (w4.heap[w.heap.size]? = some (.cells aw 41 (0, 0))) := by
            show _ = _
            have z0 : w.heap.size < wr.heap.size := lt_of_heap hG.out
            have z1 := f1.size
            have z3 := f3.size
            rw [f4.block _ (by omega) (by omega) (by simp), f3.block _ (by omega) (by omega) (by simp), f1.block _ (by omega) (by omega) (by simp)]; exact hG.out
          obtain ⟨ov, hov⟩ := hstk.out.some (i := st.length) (by omega)
          have cA : w4.cell? ⟨w.heap.size, st.length, none⟩ = some ov := by rw [cell_of hG4.out]; exact hov
          have fA : w4.frozen? ⟨w.heap.size, st.length, none⟩ = false := frozen_of hG4.out _
          have hne : ¬ B = w.heap.size := by omega
          clear hov
          have hl0 : (0 : Int) ≤ (st.length : Int) := by omega
          have hl6 : (st.length : Int) < 6 := by omega
          go_wp2_with fail
          refine (inputs_any (Pl.kd (Pl.bt s c)) hkd _).mono ?_
          rintro e w5 ⟨rfl, rfl⟩
          go_wp2_with fail
          go_roundg (s.size - (a3 + 1))
          case measure => omega
          case rel =>
            refine ⟨Pl.ins (Pl.kd (Pl.bt s c)) :: st, a3 + 1, aw.setIfInBounds st.length (.int .i64 ((Pl.ins (Pl.kd (Pl.bt s c)) : Nat) : Int)), by omega, by simp, by simp; omega, hstk.out.push hins (by omega), ?_, ?_, ?_, by rw [List.length_cons, show 6 - (st.length + 1) = 5 - st.length by omega]; exact hE2⟩
            · exact heap_set (by rw [Below.heap_setCell _ _ _ _ (by show w.heap.size ≠ B; omega)]; exact hG4.out) _ _
            · exact ⟨by omega, by rw [Below.heap_setCell _ _ _ _ (by show B ≠ w.heap.size; omega)]; exact (P4.out.set (a' := a3 + 1) (by omega)).2⟩
            · exact ((((hf.seq f1).seq f3).seq f4).setCell _ _).setNew (Nat.le_refl _) _
      · have hb2 : ((Pl.bt s a3 : Int) != 40) = true := by simp; omega
        have HX : Hid (Pl.whole s = (2, a3)) := by show _ = _; rw [← hE.out, Pl.qP_shut X3.out hk1 hb, Pl.endP_err (by omega)]
        clear hb hk1
        go_wp2_with fail
        try rw [Exit.noGoto_ret]
        go_ret
        exact ⟨by rw [HX.out]; rfl, by rw [HX.out]; exact P4.out, ((hf.seq f1).seq f3).seq f4⟩
end Go.Proofs.Ytfoddobnicojpaa
