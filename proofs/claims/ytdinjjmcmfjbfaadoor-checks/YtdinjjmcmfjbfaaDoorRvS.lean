/-
  The document's query, by its letter: a selection.
-/
import Derived.Test.YtdinjjmcmfjbfaaDoorRbs
import Derived.Deep.RegionLaw
import Derived.Deep.DeepCutAuto
import Derived.Deep.CutBlock
import Derived.Deep.DrawnRows
namespace Go.Proofs.YtdinjjmcmfjbfaaDoor
open Go.RowKit
attribute [local go_sem ↓] Go.wp_at_zero Go.wp_at_succ

set_option maxRecDepth 100000 in
set_option maxHeartbeats 4000000 in
theorem verb_S (B : Nat) (s : ByteArray) (a d j Ki : Nat) (q : Nat → Nat × Nat) (pv : Value) (m : Nat) (w : World) (hs : s.size ≤ 120) (hd : d ≤ 6) (inner : Inner B s (d + 1) Ki q) (h : RR B s a d 0 j pv w) (ho : PO B pv m w) (hm : m + (1 + 2 * Ki) ≤ 1000) (hj : j = Pl.cj s a) (hc : Pl.bt s a = 83) :
    Calls Tryd.prog 12 #[.pointer (some ⟨B, 0, none⟩)] w (QR B s d pv m (1 + 2 * Ki) w (Pl.stepQ s d q a) (fun e' a' j' => e' = 0 → j' = Pl.cj s a')) := by
  have S0 : Hid (ST B s d j pv pv m w 0 0 a (w.alloc (.cells #[.int .u8 0, .string ⟨#[]⟩, .slice none 0 0, .int .u8 0, .int .u8 0, .bool false, .int .i64 0, .string ⟨#[]⟩, .int .i64 0, .int .i64 (-1), .int .i64 (-1), .int .i64 0] 72))) := ST.start h ho rfl rfl ones
  have hBl := lt_of_heap h.2
  have ha := h.1
  have HC := hid hc
  have HJ := hid hj
  have HI := hid inner
  have HK : Hid (Pl.kd (Pl.bt s a) = 2) := by show _ = _; rw [hc]; rfl
  clear h ho hc hj inner
  go_enter Tryd.func12, Tryd.ntmps12
  go_upto_block 0 with fail
  go_cut [] (fun wx => Hid (HD B s d a pv m w wx))
  case first =>
    go_wp2_with fail
    refine (has_yes B s a d 0 j 83 83 pv _ hs (by omega) rfl S0.out.rr (by unfold sn; rw [HC.out]; rfl)).mono ?_
    rintro en w1 ⟨rfl, p1, f1⟩
    have S1 := hid (S0.out.next p1 f1)
    clear p1 f1 S0
    obtain ⟨u0, hu0⟩ := S1.out.pb.cell (i := 0) (by omega)
    have z0 := S1.out.pb.fz 0
    have hcB : ¬ B = w.heap.size := by omega
    go_wp2_with fail
    refine (rtake_any B s (a + 1) d 0 j 91 91 pv _ hs (by omega) rfl ((S1.out.setVerb 83).rr)).mono ?_
    rintro en w2 ⟨v2, rfl, e2, a2, x2, p2, f2⟩
    have S2 := hid ((S1.out.setVerb 83).next p2 f2)
    have X2 := hid x2
    clear x2 p2 f2 S1
    go_wp2_with fail
    refine (rdigit_any B s a2 d e2 j pv _ hs (S2.out.rr)).mono ?_
    rintro en w3 ⟨n3, rfl, _, e3, a3, x3, p3, f3⟩
    have S3 := hid (S2.out.next p3 f3)
    have X3 := hid x3
    clear x3 p3 f3 S2
    obtain ⟨u3x11, hu3x11⟩ := S3.out.pb.cell (i := 11) (by omega)
    have z3x11 := S3.out.pb.fz 11
    go_wp2_with fail
    refine (has_any B s a3 d e3 j 60 60 pv _ hs (by omega) rfl ((S3.out.set (i := 11) (by omega) (by rfl)).rr)).mono ?_
    rintro en w4 ⟨ok4, b4, rfl, N4, k4, p4, f4⟩
    have s4 := (S3.out.set (i := 11) (by omega) (by rfl)).next p4 f4
    clear p4 f4 S3
    cases ok4
    · rw [show b4 = a3 from k4] at s4
      have S4 := hid s4
      have NN4 := hid (sn_no N4.out)
      clear s4 k4
      go_wp2_with fail
      refine (has_any B s a3 d e3 j 61 61 pv _ hs (by omega) rfl (S4.out.rr)).mono ?_
      rintro en w5 ⟨ok5, b5, rfl, N5, k5, p5, f5⟩
      have s5 := S4.out.next p5 f5
      clear p5 f5 S4
      cases ok5
      · rw [show b5 = a3 from k5] at s5
        have S5 := hid s5
        have NN5 := hid (sn_no N5.out)
        clear s5 k5
        go_wp2_with fail
        refine (rtake_any B s a3 d e3 j 33 33 pv _ hs (by omega) rfl (S5.out.rr)).mono ?_
        rintro en w6 ⟨v6, rfl, e6, a6, x6, p6, f6⟩
        have S6 := hid (S5.out.next p6 f6)
        have X6 := hid x6
        clear x6 p6 f6 S5
        have O : Hid (Pl.bE (e3, a3) (Pl.lf (Pl.oneOf s)) = (e6, a6)) := by
          show _ = _
          rw [Pl.oneOf_eq, Pl.or_no NN4.out, Pl.or_no NN5.out]; exact X6.out
        obtain ⟨u6x3, hu6x3⟩ := S6.out.pb.cell (i := 3) (by omega)
        have z6x3 := S6.out.pb.fz 3
        go_wp2_with fail
        refine (has_any B s a6 d e6 j 35 35 pv _ hs (by omega) rfl ((S6.out.set (i := 3) (by omega) (by rfl)).rr)).mono ?_
        rintro en w7 ⟨ok7, b7, rfl, N7, k7, p7, f7⟩
        have s7 := (S6.out.set (i := 3) (by omega) (by rfl)).next p7 f7
        clear p7 f7 S6
        cases ok7
        · rw [show b7 = a6 from k7] at s7
          have S7 := hid s7
          have NN7 := hid (sn_no N7.out)
          clear s7 k7
          go_wp2_with fail
          refine (has_any B s a6 d e6 j 36 36 pv _ hs (by omega) rfl (S7.out.rr)).mono ?_
          rintro en w8 ⟨ok8, b8, rfl, N8, k8, p8, f8⟩
          have s8 := S7.out.next p8 f8
          clear p8 f8 S7
          cases ok8
          · rw [show b8 = a6 from k8] at s8
            have S8 := hid s8
            have NN8 := hid (sn_no N8.out)
            clear s8 k8
            go_wp2_with fail
            refine (rdigit_any B s a6 d e6 j pv _ hs (S8.out.rr)).mono ?_
            rintro en w9 ⟨n9, rfl, _, e9, a9, x9, p9, f9⟩
            have S9 := hid (S8.out.next p9 f9)
            have X9 := hid x9
            clear x9 p9 f9 S8
            have I : Hid (Pl.bE (e6, a6) (Pl.lf (Pl.operP s)) = (e9, a9)) := by
              show _ = _
              show Pl.bE _ (Pl.lf (Pl.ifP (Pl.tk s 35) (Pl.numP s) (Pl.ifP (Pl.tk s 36) (Pl.let4 s) (Pl.dig s)))) = _
              rw [Pl.if_no NN7.out, Pl.if_no NN8.out]; exact X9.out
            obtain ⟨u9x8, hu9x8⟩ := S9.out.pb.cell (i := 8) (by omega)
            have z9x8 := S9.out.pb.fz 8
            go_wp2_with fail
            refine (rtake_any B s a9 d e9 j 93 93 pv _ hs (by omega) rfl ((S9.out.set (i := 8) (by omega) (by rfl)).rr)).mono ?_
            rintro en w10 ⟨v10, rfl, e10, a10, x10, p10, f10⟩
            have S10 := hid ((S9.out.set (i := 8) (by omega) (by rfl)).next p10 f10)
            have X10 := hid x10
            clear x10 p10 f10 S9
            go_wp2_with fail
            go_meet
            case rel =>
              have HP : Hid (Pl.lf (Pl.headP s (Pl.kd (Pl.bt s a))) a = (e10, a10)) := by
                show _ = _
                rw [HK.out]
                show Pl.lf (Pl.selP s) a = _
                unfold Pl.selP
                rw [Pl.lf_tk HC.out, Pl.lf_and, show Pl.lf (Pl.tk s 91) (a + 1) = _ from X2.out, Pl.bE_and, X3.out, Pl.bE_and, O.out, Pl.bE_and, I.out]
                exact X10.out
              refine ⟨e10, a10, j, HP.out, head_cj HK.out HJ.out HP.out, ?_⟩
              rw [show (Pl.bt s a : Int) = 83 by rw [HC.out]; rfl]; exact S10.out
          · rw [show b8 = a6 + 1 from k8] at s8
            have S8 := hid s8
            have NN8 := hid (sn_yes N8.out)
            clear s8 k8
            obtain ⟨u8x4, hu8x4⟩ := S8.out.pb.cell (i := 4) (by omega)
            have z8x4 := S8.out.pb.fz 4
            go_wp2_with fail
            refine (rletters_any B s (a6 + 1) d e6 j pv _ hs ((S8.out.set (i := 4) (by omega) (by rfl)).rr)).mono ?_
            rintro en w9 ⟨t9, rfl, e9, a9, x9, p9, f9⟩
            have S9 := hid ((S8.out.set (i := 4) (by omega) (by rfl)).next p9 f9)
            have X9 := hid x9
            clear x9 p9 f9 S8
            have I : Hid (Pl.bE (e6, a6) (Pl.lf (Pl.operP s)) = (e9, a9)) := by
              show _ = _
              show Pl.bE _ (Pl.lf (Pl.ifP (Pl.tk s 35) (Pl.numP s) (Pl.ifP (Pl.tk s 36) (Pl.let4 s) (Pl.dig s)))) = _
              rw [Pl.if_no NN7.out]; have x := X9.out; rw [NN8.out.1] at x ⊢; rw [Pl.if_yes NN8.out.2]; exact x
            obtain ⟨u9x5, hu9x5⟩ := S9.out.pb.cell (i := 5) (by omega)
            have z9x5 := S9.out.pb.fz 5
            obtain ⟨u9x6, hu9x6⟩ := S9.out.pb.cell (i := 6) (by omega)
            have z9x6 := S9.out.pb.fz 6
            obtain ⟨u9x7, hu9x7⟩ := S9.out.pb.cell (i := 7) (by omega)
            have z9x7 := S9.out.pb.fz 7
            go_wp2_with fail
            refine (rtake_any B s a9 d e9 j 93 93 pv _ hs (by omega) rfl ((((S9.out.set (i := 5) (by omega) (by rfl)).set (i := 6) (by omega) (by rfl)).set (i := 7) (by omega) (by rfl)).rr)).mono ?_
            rintro en w10 ⟨v10, rfl, e10, a10, x10, p10, f10⟩
            have S10 := hid ((((S9.out.set (i := 5) (by omega) (by rfl)).set (i := 6) (by omega) (by rfl)).set (i := 7) (by omega) (by rfl)).next p10 f10)
            have X10 := hid x10
            clear x10 p10 f10 S9
            go_wp2_with fail
            go_meet
            case rel =>
              have HP : Hid (Pl.lf (Pl.headP s (Pl.kd (Pl.bt s a))) a = (e10, a10)) := by
                show _ = _
                rw [HK.out]
                show Pl.lf (Pl.selP s) a = _
                unfold Pl.selP
                rw [Pl.lf_tk HC.out, Pl.lf_and, show Pl.lf (Pl.tk s 91) (a + 1) = _ from X2.out, Pl.bE_and, X3.out, Pl.bE_and, O.out, Pl.bE_and, I.out]
                exact X10.out
              refine ⟨e10, a10, j, HP.out, head_cj HK.out HJ.out HP.out, ?_⟩
              rw [show (Pl.bt s a : Int) = 83 by rw [HC.out]; rfl]; exact S10.out
        · rw [show b7 = a6 + 1 from k7] at s7
          have S7 := hid s7
          have NN7 := hid (sn_yes N7.out)
          clear s7 k7
          obtain ⟨u7x4, hu7x4⟩ := S7.out.pb.cell (i := 4) (by omega)
          have z7x4 := S7.out.pb.fz 4
          go_wp2_with fail
          refine (rnumber_any B s (a6 + 1) d e6 j pv _ hs ((S7.out.set (i := 4) (by omega) (by rfl)).rr)).mono ?_
          rintro en w8 ⟨n8, rfl, e8, a8, x8, p8, f8⟩
          have S8 := hid ((S7.out.set (i := 4) (by omega) (by rfl)).next p8 f8)
          have X8 := hid x8
          clear x8 p8 f8 S7
          have I : Hid (Pl.bE (e6, a6) (Pl.lf (Pl.operP s)) = (e8, a8)) := by
            show _ = _
            show Pl.bE _ (Pl.lf (Pl.ifP (Pl.tk s 35) (Pl.numP s) (Pl.ifP (Pl.tk s 36) (Pl.let4 s) (Pl.dig s)))) = _
            have x := X8.out; rw [NN7.out.1] at x ⊢; rw [Pl.if_yes NN7.out.2]; exact x
          obtain ⟨u8x5, hu8x5⟩ := S8.out.pb.cell (i := 5) (by omega)
          have z8x5 := S8.out.pb.fz 5
          obtain ⟨u8x6, hu8x6⟩ := S8.out.pb.cell (i := 6) (by omega)
          have z8x6 := S8.out.pb.fz 6
          obtain ⟨u8x7, hu8x7⟩ := S8.out.pb.cell (i := 7) (by omega)
          have z8x7 := S8.out.pb.fz 7
          go_wp2_with fail
          refine (rtake_any B s a8 d e8 j 93 93 pv _ hs (by omega) rfl ((((S8.out.set (i := 5) (by omega) (by rfl)).set (i := 6) (by omega) (by rfl)).set (i := 7) (by omega) (by rfl)).rr)).mono ?_
          rintro en w9 ⟨v9, rfl, e9, a9, x9, p9, f9⟩
          have S9 := hid ((((S8.out.set (i := 5) (by omega) (by rfl)).set (i := 6) (by omega) (by rfl)).set (i := 7) (by omega) (by rfl)).next p9 f9)
          have X9 := hid x9
          clear x9 p9 f9 S8
          go_wp2_with fail
          go_meet
          case rel =>
            have HP : Hid (Pl.lf (Pl.headP s (Pl.kd (Pl.bt s a))) a = (e9, a9)) := by
              show _ = _
              rw [HK.out]
              show Pl.lf (Pl.selP s) a = _
              unfold Pl.selP
              rw [Pl.lf_tk HC.out, Pl.lf_and, show Pl.lf (Pl.tk s 91) (a + 1) = _ from X2.out, Pl.bE_and, X3.out, Pl.bE_and, O.out, Pl.bE_and, I.out]
              exact X9.out
            refine ⟨e9, a9, j, HP.out, head_cj HK.out HJ.out HP.out, ?_⟩
            rw [show (Pl.bt s a : Int) = 83 by rw [HC.out]; rfl]; exact S9.out
      · rw [show b5 = a3 + 1 from k5] at s5
        have S5 := hid s5
        have NN5 := hid (sn_yes N5.out)
        clear s5 k5
        have O : Hid (Pl.bE (e3, a3) (Pl.lf (Pl.oneOf s)) = (e3, (a3 + 1))) := by
          show _ = _
          rw [Pl.oneOf_eq, Pl.or_no NN4.out, NN5.out.1, Pl.or_yes NN5.out.2]
        obtain ⟨u5x3, hu5x3⟩ := S5.out.pb.cell (i := 3) (by omega)
        have z5x3 := S5.out.pb.fz 3
        go_wp2_with fail
        refine (has_any B s (a3 + 1) d e3 j 35 35 pv _ hs (by omega) rfl ((S5.out.set (i := 3) (by omega) (by rfl)).rr)).mono ?_
        rintro en w6 ⟨ok6, b6, rfl, N6, k6, p6, f6⟩
        have s6 := (S5.out.set (i := 3) (by omega) (by rfl)).next p6 f6
        clear p6 f6 S5
        cases ok6
        · rw [show b6 = (a3 + 1) from k6] at s6
          have S6 := hid s6
          have NN6 := hid (sn_no N6.out)
          clear s6 k6
          go_wp2_with fail
          refine (has_any B s (a3 + 1) d e3 j 36 36 pv _ hs (by omega) rfl (S6.out.rr)).mono ?_
          rintro en w7 ⟨ok7, b7, rfl, N7, k7, p7, f7⟩
          have s7 := S6.out.next p7 f7
          clear p7 f7 S6
          cases ok7
          · rw [show b7 = (a3 + 1) from k7] at s7
            have S7 := hid s7
            have NN7 := hid (sn_no N7.out)
            clear s7 k7
            go_wp2_with fail
            refine (rdigit_any B s (a3 + 1) d e3 j pv _ hs (S7.out.rr)).mono ?_
            rintro en w8 ⟨n8, rfl, _, e8, a8, x8, p8, f8⟩
            have S8 := hid (S7.out.next p8 f8)
            have X8 := hid x8
            clear x8 p8 f8 S7
            have I : Hid (Pl.bE (e3, (a3 + 1)) (Pl.lf (Pl.operP s)) = (e8, a8)) := by
              show _ = _
              show Pl.bE _ (Pl.lf (Pl.ifP (Pl.tk s 35) (Pl.numP s) (Pl.ifP (Pl.tk s 36) (Pl.let4 s) (Pl.dig s)))) = _
              rw [Pl.if_no NN6.out, Pl.if_no NN7.out]; exact X8.out
            obtain ⟨u8x8, hu8x8⟩ := S8.out.pb.cell (i := 8) (by omega)
            have z8x8 := S8.out.pb.fz 8
            go_wp2_with fail
            refine (rtake_any B s a8 d e8 j 93 93 pv _ hs (by omega) rfl ((S8.out.set (i := 8) (by omega) (by rfl)).rr)).mono ?_
            rintro en w9 ⟨v9, rfl, e9, a9, x9, p9, f9⟩
            have S9 := hid ((S8.out.set (i := 8) (by omega) (by rfl)).next p9 f9)
            have X9 := hid x9
            clear x9 p9 f9 S8
            go_wp2_with fail
            go_meet
            case rel =>
              have HP : Hid (Pl.lf (Pl.headP s (Pl.kd (Pl.bt s a))) a = (e9, a9)) := by
                show _ = _
                rw [HK.out]
                show Pl.lf (Pl.selP s) a = _
                unfold Pl.selP
                rw [Pl.lf_tk HC.out, Pl.lf_and, show Pl.lf (Pl.tk s 91) (a + 1) = _ from X2.out, Pl.bE_and, X3.out, Pl.bE_and, O.out, Pl.bE_and, I.out]
                exact X9.out
              refine ⟨e9, a9, j, HP.out, head_cj HK.out HJ.out HP.out, ?_⟩
              rw [show (Pl.bt s a : Int) = 83 by rw [HC.out]; rfl]; exact S9.out
          · rw [show b7 = (a3 + 1) + 1 from k7] at s7
            have S7 := hid s7
            have NN7 := hid (sn_yes N7.out)
            clear s7 k7
            obtain ⟨u7x4, hu7x4⟩ := S7.out.pb.cell (i := 4) (by omega)
            have z7x4 := S7.out.pb.fz 4
            go_wp2_with fail
            refine (rletters_any B s ((a3 + 1) + 1) d e3 j pv _ hs ((S7.out.set (i := 4) (by omega) (by rfl)).rr)).mono ?_
            rintro en w8 ⟨t8, rfl, e8, a8, x8, p8, f8⟩
            have S8 := hid ((S7.out.set (i := 4) (by omega) (by rfl)).next p8 f8)
            have X8 := hid x8
            clear x8 p8 f8 S7
            have I : Hid (Pl.bE (e3, (a3 + 1)) (Pl.lf (Pl.operP s)) = (e8, a8)) := by
              show _ = _
              show Pl.bE _ (Pl.lf (Pl.ifP (Pl.tk s 35) (Pl.numP s) (Pl.ifP (Pl.tk s 36) (Pl.let4 s) (Pl.dig s)))) = _
              rw [Pl.if_no NN6.out]; have x := X8.out; rw [NN7.out.1] at x ⊢; rw [Pl.if_yes NN7.out.2]; exact x
            obtain ⟨u8x5, hu8x5⟩ := S8.out.pb.cell (i := 5) (by omega)
            have z8x5 := S8.out.pb.fz 5
            obtain ⟨u8x6, hu8x6⟩ := S8.out.pb.cell (i := 6) (by omega)
            have z8x6 := S8.out.pb.fz 6
            obtain ⟨u8x7, hu8x7⟩ := S8.out.pb.cell (i := 7) (by omega)
            have z8x7 := S8.out.pb.fz 7
            go_wp2_with fail
            refine (rtake_any B s a8 d e8 j 93 93 pv _ hs (by omega) rfl ((((S8.out.set (i := 5) (by omega) (by rfl)).set (i := 6) (by omega) (by rfl)).set (i := 7) (by omega) (by rfl)).rr)).mono ?_
            rintro en w9 ⟨v9, rfl, e9, a9, x9, p9, f9⟩
            have S9 := hid ((((S8.out.set (i := 5) (by omega) (by rfl)).set (i := 6) (by omega) (by rfl)).set (i := 7) (by omega) (by rfl)).next p9 f9)
            have X9 := hid x9
            clear x9 p9 f9 S8
            go_wp2_with fail
            go_meet
            case rel =>
              have HP : Hid (Pl.lf (Pl.headP s (Pl.kd (Pl.bt s a))) a = (e9, a9)) := by
                show _ = _
                rw [HK.out]
                show Pl.lf (Pl.selP s) a = _
                unfold Pl.selP
                rw [Pl.lf_tk HC.out, Pl.lf_and, show Pl.lf (Pl.tk s 91) (a + 1) = _ from X2.out, Pl.bE_and, X3.out, Pl.bE_and, O.out, Pl.bE_and, I.out]
                exact X9.out
              refine ⟨e9, a9, j, HP.out, head_cj HK.out HJ.out HP.out, ?_⟩
              rw [show (Pl.bt s a : Int) = 83 by rw [HC.out]; rfl]; exact S9.out
        · rw [show b6 = (a3 + 1) + 1 from k6] at s6
          have S6 := hid s6
          have NN6 := hid (sn_yes N6.out)
          clear s6 k6
          obtain ⟨u6x4, hu6x4⟩ := S6.out.pb.cell (i := 4) (by omega)
          have z6x4 := S6.out.pb.fz 4
          go_wp2_with fail
          refine (rnumber_any B s ((a3 + 1) + 1) d e3 j pv _ hs ((S6.out.set (i := 4) (by omega) (by rfl)).rr)).mono ?_
          rintro en w7 ⟨n7, rfl, e7, a7, x7, p7, f7⟩
          have S7 := hid ((S6.out.set (i := 4) (by omega) (by rfl)).next p7 f7)
          have X7 := hid x7
          clear x7 p7 f7 S6
          have I : Hid (Pl.bE (e3, (a3 + 1)) (Pl.lf (Pl.operP s)) = (e7, a7)) := by
            show _ = _
            show Pl.bE _ (Pl.lf (Pl.ifP (Pl.tk s 35) (Pl.numP s) (Pl.ifP (Pl.tk s 36) (Pl.let4 s) (Pl.dig s)))) = _
            have x := X7.out; rw [NN6.out.1] at x ⊢; rw [Pl.if_yes NN6.out.2]; exact x
          obtain ⟨u7x5, hu7x5⟩ := S7.out.pb.cell (i := 5) (by omega)
          have z7x5 := S7.out.pb.fz 5
          obtain ⟨u7x6, hu7x6⟩ := S7.out.pb.cell (i := 6) (by omega)
          have z7x6 := S7.out.pb.fz 6
          obtain ⟨u7x7, hu7x7⟩ := S7.out.pb.cell (i := 7) (by omega)
          have z7x7 := S7.out.pb.fz 7
          go_wp2_with fail
          refine (rtake_any B s a7 d e7 j 93 93 pv _ hs (by omega) rfl ((((S7.out.set (i := 5) (by omega) (by rfl)).set (i := 6) (by omega) (by rfl)).set (i := 7) (by omega) (by rfl)).rr)).mono ?_
          rintro en w8 ⟨v8, rfl, e8, a8, x8, p8, f8⟩
          have S8 := hid ((((S7.out.set (i := 5) (by omega) (by rfl)).set (i := 6) (by omega) (by rfl)).set (i := 7) (by omega) (by rfl)).next p8 f8)
          have X8 := hid x8
          clear x8 p8 f8 S7
          go_wp2_with fail
          go_meet
          case rel =>
            have HP : Hid (Pl.lf (Pl.headP s (Pl.kd (Pl.bt s a))) a = (e8, a8)) := by
              show _ = _
              rw [HK.out]
              show Pl.lf (Pl.selP s) a = _
              unfold Pl.selP
              rw [Pl.lf_tk HC.out, Pl.lf_and, show Pl.lf (Pl.tk s 91) (a + 1) = _ from X2.out, Pl.bE_and, X3.out, Pl.bE_and, O.out, Pl.bE_and, I.out]
              exact X8.out
            refine ⟨e8, a8, j, HP.out, head_cj HK.out HJ.out HP.out, ?_⟩
            rw [show (Pl.bt s a : Int) = 83 by rw [HC.out]; rfl]; exact S8.out
    · rw [show b4 = a3 + 1 from k4] at s4
      have S4 := hid s4
      have NN4 := hid (sn_yes N4.out)
      clear s4 k4
      have O : Hid (Pl.bE (e3, a3) (Pl.lf (Pl.oneOf s)) = (e3, (a3 + 1))) := by
        show _ = _
        rw [Pl.oneOf_eq, NN4.out.1, Pl.or_yes NN4.out.2]
      obtain ⟨u4x3, hu4x3⟩ := S4.out.pb.cell (i := 3) (by omega)
      have z4x3 := S4.out.pb.fz 3
      go_wp2_with fail
      refine (has_any B s (a3 + 1) d e3 j 35 35 pv _ hs (by omega) rfl ((S4.out.set (i := 3) (by omega) (by rfl)).rr)).mono ?_
      rintro en w5 ⟨ok5, b5, rfl, N5, k5, p5, f5⟩
      have s5 := (S4.out.set (i := 3) (by omega) (by rfl)).next p5 f5
      clear p5 f5 S4
      cases ok5
      · rw [show b5 = (a3 + 1) from k5] at s5
        have S5 := hid s5
        have NN5 := hid (sn_no N5.out)
        clear s5 k5
        go_wp2_with fail
        refine (has_any B s (a3 + 1) d e3 j 36 36 pv _ hs (by omega) rfl (S5.out.rr)).mono ?_
        rintro en w6 ⟨ok6, b6, rfl, N6, k6, p6, f6⟩
        have s6 := S5.out.next p6 f6
        clear p6 f6 S5
        cases ok6
        · rw [show b6 = (a3 + 1) from k6] at s6
          have S6 := hid s6
          have NN6 := hid (sn_no N6.out)
          clear s6 k6
          go_wp2_with fail
          refine (rdigit_any B s (a3 + 1) d e3 j pv _ hs (S6.out.rr)).mono ?_
          rintro en w7 ⟨n7, rfl, _, e7, a7, x7, p7, f7⟩
          have S7 := hid (S6.out.next p7 f7)
          have X7 := hid x7
          clear x7 p7 f7 S6
          have I : Hid (Pl.bE (e3, (a3 + 1)) (Pl.lf (Pl.operP s)) = (e7, a7)) := by
            show _ = _
            show Pl.bE _ (Pl.lf (Pl.ifP (Pl.tk s 35) (Pl.numP s) (Pl.ifP (Pl.tk s 36) (Pl.let4 s) (Pl.dig s)))) = _
            rw [Pl.if_no NN5.out, Pl.if_no NN6.out]; exact X7.out
          obtain ⟨u7x8, hu7x8⟩ := S7.out.pb.cell (i := 8) (by omega)
          have z7x8 := S7.out.pb.fz 8
          go_wp2_with fail
          refine (rtake_any B s a7 d e7 j 93 93 pv _ hs (by omega) rfl ((S7.out.set (i := 8) (by omega) (by rfl)).rr)).mono ?_
          rintro en w8 ⟨v8, rfl, e8, a8, x8, p8, f8⟩
          have S8 := hid ((S7.out.set (i := 8) (by omega) (by rfl)).next p8 f8)
          have X8 := hid x8
          clear x8 p8 f8 S7
          go_wp2_with fail
          go_meet
          case rel =>
            have HP : Hid (Pl.lf (Pl.headP s (Pl.kd (Pl.bt s a))) a = (e8, a8)) := by
              show _ = _
              rw [HK.out]
              show Pl.lf (Pl.selP s) a = _
              unfold Pl.selP
              rw [Pl.lf_tk HC.out, Pl.lf_and, show Pl.lf (Pl.tk s 91) (a + 1) = _ from X2.out, Pl.bE_and, X3.out, Pl.bE_and, O.out, Pl.bE_and, I.out]
              exact X8.out
            refine ⟨e8, a8, j, HP.out, head_cj HK.out HJ.out HP.out, ?_⟩
            rw [show (Pl.bt s a : Int) = 83 by rw [HC.out]; rfl]; exact S8.out
        · rw [show b6 = (a3 + 1) + 1 from k6] at s6
          have S6 := hid s6
          have NN6 := hid (sn_yes N6.out)
          clear s6 k6
          obtain ⟨u6x4, hu6x4⟩ := S6.out.pb.cell (i := 4) (by omega)
          have z6x4 := S6.out.pb.fz 4
          go_wp2_with fail
          refine (rletters_any B s ((a3 + 1) + 1) d e3 j pv _ hs ((S6.out.set (i := 4) (by omega) (by rfl)).rr)).mono ?_
          rintro en w7 ⟨t7, rfl, e7, a7, x7, p7, f7⟩
          have S7 := hid ((S6.out.set (i := 4) (by omega) (by rfl)).next p7 f7)
          have X7 := hid x7
          clear x7 p7 f7 S6
          have I : Hid (Pl.bE (e3, (a3 + 1)) (Pl.lf (Pl.operP s)) = (e7, a7)) := by
            show _ = _
            show Pl.bE _ (Pl.lf (Pl.ifP (Pl.tk s 35) (Pl.numP s) (Pl.ifP (Pl.tk s 36) (Pl.let4 s) (Pl.dig s)))) = _
            rw [Pl.if_no NN5.out]; have x := X7.out; rw [NN6.out.1] at x ⊢; rw [Pl.if_yes NN6.out.2]; exact x
          obtain ⟨u7x5, hu7x5⟩ := S7.out.pb.cell (i := 5) (by omega)
          have z7x5 := S7.out.pb.fz 5
          obtain ⟨u7x6, hu7x6⟩ := S7.out.pb.cell (i := 6) (by omega)
          have z7x6 := S7.out.pb.fz 6
          obtain ⟨u7x7, hu7x7⟩ := S7.out.pb.cell (i := 7) (by omega)
          have z7x7 := S7.out.pb.fz 7
          go_wp2_with fail
          refine (rtake_any B s a7 d e7 j 93 93 pv _ hs (by omega) rfl ((((S7.out.set (i := 5) (by omega) (by rfl)).set (i := 6) (by omega) (by rfl)).set (i := 7) (by omega) (by rfl)).rr)).mono ?_
          rintro en w8 ⟨v8, rfl, e8, a8, x8, p8, f8⟩
          have S8 := hid ((((S7.out.set (i := 5) (by omega) (by rfl)).set (i := 6) (by omega) (by rfl)).set (i := 7) (by omega) (by rfl)).next p8 f8)
          have X8 := hid x8
          clear x8 p8 f8 S7
          go_wp2_with fail
          go_meet
          case rel =>
            have HP : Hid (Pl.lf (Pl.headP s (Pl.kd (Pl.bt s a))) a = (e8, a8)) := by
              show _ = _
              rw [HK.out]
              show Pl.lf (Pl.selP s) a = _
              unfold Pl.selP
              rw [Pl.lf_tk HC.out, Pl.lf_and, show Pl.lf (Pl.tk s 91) (a + 1) = _ from X2.out, Pl.bE_and, X3.out, Pl.bE_and, O.out, Pl.bE_and, I.out]
              exact X8.out
            refine ⟨e8, a8, j, HP.out, head_cj HK.out HJ.out HP.out, ?_⟩
            rw [show (Pl.bt s a : Int) = 83 by rw [HC.out]; rfl]; exact S8.out
      · rw [show b5 = (a3 + 1) + 1 from k5] at s5
        have S5 := hid s5
        have NN5 := hid (sn_yes N5.out)
        clear s5 k5
        obtain ⟨u5x4, hu5x4⟩ := S5.out.pb.cell (i := 4) (by omega)
        have z5x4 := S5.out.pb.fz 4
        go_wp2_with fail
        refine (rnumber_any B s ((a3 + 1) + 1) d e3 j pv _ hs ((S5.out.set (i := 4) (by omega) (by rfl)).rr)).mono ?_
        rintro en w6 ⟨n6, rfl, e6, a6, x6, p6, f6⟩
        have S6 := hid ((S5.out.set (i := 4) (by omega) (by rfl)).next p6 f6)
        have X6 := hid x6
        clear x6 p6 f6 S5
        have I : Hid (Pl.bE (e3, (a3 + 1)) (Pl.lf (Pl.operP s)) = (e6, a6)) := by
          show _ = _
          show Pl.bE _ (Pl.lf (Pl.ifP (Pl.tk s 35) (Pl.numP s) (Pl.ifP (Pl.tk s 36) (Pl.let4 s) (Pl.dig s)))) = _
          have x := X6.out; rw [NN5.out.1] at x ⊢; rw [Pl.if_yes NN5.out.2]; exact x
        obtain ⟨u6x5, hu6x5⟩ := S6.out.pb.cell (i := 5) (by omega)
        have z6x5 := S6.out.pb.fz 5
        obtain ⟨u6x6, hu6x6⟩ := S6.out.pb.cell (i := 6) (by omega)
        have z6x6 := S6.out.pb.fz 6
        obtain ⟨u6x7, hu6x7⟩ := S6.out.pb.cell (i := 7) (by omega)
        have z6x7 := S6.out.pb.fz 7
        go_wp2_with fail
        refine (rtake_any B s a6 d e6 j 93 93 pv _ hs (by omega) rfl ((((S6.out.set (i := 5) (by omega) (by rfl)).set (i := 6) (by omega) (by rfl)).set (i := 7) (by omega) (by rfl)).rr)).mono ?_
        rintro en w7 ⟨v7, rfl, e7, a7, x7, p7, f7⟩
        have S7 := hid ((((S6.out.set (i := 5) (by omega) (by rfl)).set (i := 6) (by omega) (by rfl)).set (i := 7) (by omega) (by rfl)).next p7 f7)
        have X7 := hid x7
        clear x7 p7 f7 S6
        go_wp2_with fail
        go_meet
        case rel =>
          have HP : Hid (Pl.lf (Pl.headP s (Pl.kd (Pl.bt s a))) a = (e7, a7)) := by
            show _ = _
            rw [HK.out]
            show Pl.lf (Pl.selP s) a = _
            unfold Pl.selP
            rw [Pl.lf_tk HC.out, Pl.lf_and, show Pl.lf (Pl.tk s 91) (a + 1) = _ from X2.out, Pl.bE_and, X3.out, Pl.bE_and, O.out, Pl.bE_and, I.out]
            exact X7.out
          refine ⟨e7, a7, j, HP.out, head_cj HK.out HJ.out HP.out, ?_⟩
          rw [show (Pl.bt s a : Int) = 83 by rw [HC.out]; rfl]; exact S7.out
  case rest =>
    obtain ⟨e1, a1, j1, x1, hj1, s1⟩ := hcut.out
    rw [show (Pl.bt s a : Int) = 83 by rw [HC.out]; rfl] at s1
    have X1 := hid x1
    have J1 := hid hj1
    have S1 := hid s1
    clear x1 hj1 s1 hcut S0
    go_wp2_with fail
    refine (open_any B s a1 d e1 j1 pv _ hs (by omega) S1.out.rr).mono ?_
    rintro en w2 ⟨rfl, e2, a2, x2, p2, f2⟩
    have S2 := hid (S1.out.next p2 f2)
    have X2 := hid x2
    have J2 : Hid (e2 = 0 → j1 = Pl.cj s a2) := by intro z; subst z; have := Pl.opn_ok X2.out; rw [this.2]; exact J1.out this.1
    have D2 : Hid (7 ≤ d + 1 → e2 ≠ 0) := by
      intro z
      obtain rfl : d = 6 := by omega
      exact Pl.opn_six X2.out
    clear x2 p2 f2 J1 S1
    go_wp2_with fail
    refine (HI.out a2 e2 j1 pv m _ D2.out S2.out.rr S2.out.po (by omega) J2.out).mono ?_
    rintro en w3 ⟨⟨n3, rfl⟩, e3, a3, j3, pv3, m3, x3, p3, hj3, o3, hm3, f3, r3⟩
    have S3 := hid (S2.out.query p3 o3 f3 r3)
    have X3 := hid x3
    have J3 := hid hj3
    clear x3 p3 hj3 o3 f3 r3 S2 J2 D2
    obtain ⟨u9, hu9⟩ := S3.out.pb.cell (i := 9) (by omega)
    have z9 := S3.out.pb.fz 9
    have hv0 := S3.out.pb.verb
    go_wp2_with fail
    refine (rtake_any B s a3 (d + 1) e3 j3 41 41 pv3 _ hs (by omega) rfl (S3.out.set (i := 9) (by omega) (by rfl)).rr).mono ?_
    rintro en w4 ⟨v4, rfl, e4, a4, x4, p4, f4⟩
    have S4 := hid ((S3.out.set (i := 9) (by omega) (by rfl)).next p4 f4)
    have XX : Hid (Pl.stepQ s d q a = (e4, a4)) := Pl.step_one (by rw [HK.out]; omega) (by rw [HK.out]; rfl) X1.out X2.out X3.out x4
    have JJ : Hid (e4 = 0 → j3 = Pl.cj s a4) := by intro z; subst z; have := Pl.bE_lf_ok (Pl.tk_good (s := s) (by omega) (by omega)) x4; rw [this.2]; exact J3.out this.1
    have MM : Hid (m3 + 1 ≤ m + (1 + 2 * Ki)) := by show _ ≤ _; omega
    clear x4 p4 f4 S3 J3 hu9 z9 hv0 X1 X2 X3
    have c2 := S4.out.rr.c2
    have g2 := S4.out.rr.f 2
    go_wp2_with fail
    have SW : Hid (ST B s d j3 pv pv3 m3 w 83 e4 a4 (w4.setCell ⟨B, 2, none⟩ (.int .i64 (d : Int)))) := S4.out.setD d
    clear S4 c2 g2
    generalize w4.setCell ⟨B, 2, none⟩ (.int .i64 (d : Int)) = W at *
    obtain ⟨p1, p2, p3, p4, p5, p6, p7, p8, p9, p10, p11, hblk, hone⟩ := SW.out.pb.cells
    obtain ⟨xs, hown⟩ := SW.out.po
    obtain ⟨i0, hi0, hz0, hz1, hz2⟩ := info_parts infoOf60
    have q5 := SW.out.rr.c5
    have z5 := SW.out.rr.f 5
    have hB := lt_of_heap SW.out.rr.2
    have r0 := cell_of hblk 0
    have r1 := cell_of hblk 1
    have r2 := cell_of hblk 2
    have r3 := cell_of hblk 3
    have r4 := cell_of hblk 4
    have r5 := cell_of hblk 5
    have r6 := cell_of hblk 6
    have r7 := cell_of hblk 7
    have r8 := cell_of hblk 8
    have r9 := cell_of hblk 9
    have r10 := cell_of hblk 10
    have r11 := cell_of hblk 11
    simp at r0 r1 r2 r3 r4 r5 r6 r7 r8 r9 r10 r11
    have HONE := hid hone
    have HOWN := hid hown
    clear hone hblk hown
    have zA : ∀ o, (W.alloc o).frozen? ⟨B, 5, none⟩ = false := fun o => (World.frozen?_alloc_past _ _ _ hB).trans z5
    have hBo : some B ≠ pv3.ownBlock := SW.out.farB
    go_region_law
      ((refine step_append_lies _ (by rfl) _ _ _ (by rfl) (B + 1) 72 i0 _ 12 120 Tryd.underlying36 hi0 hz0 hz1 hz2 rfl (by omega) pv3 m3 xs (by rfl) ((HOWN.out.alloc _).drew) ⟨W.heap.size, 0, none⟩ 1 1 [.int .u8 83, p1, p2, p3, p4, p5, p6, p7, p8, p9, p10, p11] (by rfl) (by rfl) (World.news_of_block (cs := #[.int .u8 83, p1, p2, p3, p4, p5, p6, p7, p8, p9, p10, p11]) (t := 72) (fr := (0, 0)) (heap_alloc_new W _)) HONE.out (by omega) (by unfold maxLen; omega) (by omega) (by simp; omega) (W.heap.size + 1) (by simp) ?_; intro gg cap wz hown1 hgrow hat hlt; have s5 : wz.cell? ⟨B, 5, none⟩ = some pv3 := (hgrow.cell_far _ (by simp; omega) hBo).trans ((World.cell?_alloc_past _ _ _ hB).trans q5); have f5 : wz.frozen? ⟨B, 5, none⟩ = false := (hgrow.frozen_far _ (by simp; omega) hBo).trans (zA _)))
    all_goals
      obtain ⟨y1, y2, y3, y4⟩ := part_end (pv := pv) SW.out.rr SW.out.fr (SW.out.hr.imp id fun hh k hk => Nat.le_of_lt (hh k hk)) hBo hgrow hown1 hat
      have Y1 := hid y1
      have Y2 := hid y2
      have Y3 := hid y3
      have Y4 := hid y4
      clear y1 y2 y3 y4 hown1 hgrow hat hlt r0 r1 r2 r3 r4 r5 r6 r7 r8 r9 r10 r11 zA HONE HOWN SW
      go_wp2
      go_ret
      exact ⟨⟨_, rfl⟩, e4, a4, j3, _, m3 + 1, XX.out, Y1.out, JJ.out, Y2.out, MM.out, Y3.out, Y4.out⟩
end Go.Proofs.YtdinjjmcmfjbfaaDoor
