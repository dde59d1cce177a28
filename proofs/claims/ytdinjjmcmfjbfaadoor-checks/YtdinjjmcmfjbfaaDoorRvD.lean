/-
  The document's query, by its letter: a letter and no more.
-/
import Derived.Test.YtdinjjmcmfjbfaaDoorRbs
import Derived.Deep.RegionLaw
import Derived.Deep.DeepCutAuto
import Derived.Deep.CutBlock
import Derived.Deep.DrawnRows
namespace Go.Proofs.YtdinjjmcmfjbfaaDoor
open Go.RowKit
attribute [local go_sem ↓] Go.wp_at_zero Go.wp_at_succ

set_option maxRecDepth 100000 in
set_option maxHeartbeats 4000000 in
theorem verb_D (B : Nat) (s : ByteArray) (a d j Ki : Nat) (q : Nat → Nat × Nat) (pv : Value) (m : Nat) (w : World) (hs : s.size ≤ 120) (hd : d ≤ 6) (inner : Inner B s (d + 1) Ki q) (h : RR B s a d 0 j pv w) (ho : PO B pv m w) (hm : m + (1 + 2 * Ki) ≤ 1000) (hj : j = Pl.cj s a) (hc : Pl.bt s a = 68) :
    Calls Tryd.prog 12 #[.pointer (some ⟨B, 0, none⟩)] w (QR B s d pv m (1 + 2 * Ki) w (Pl.stepQ s d q a) (fun e' a' j' => e' = 0 → j' = Pl.cj s a')) := by
  have S0 : Hid (ST B s d j pv pv m w 0 0 a (w.alloc (.cells #[.int .u8 0, .string ⟨#[]⟩, .slice none 0 0, .int .u8 0, .int .u8 0, .bool false, .int .i64 0, .string ⟨#[]⟩, .int .i64 0, .int .i64 (-1), .int .i64 (-1), .int .i64 0] 72))) := ST.start h ho rfl rfl ones
  have hBl := lt_of_heap h.2
  have ha := h.1
  have HC := hid hc
  have HJ := hid hj
  have HI := hid inner
  have HK : Hid (Pl.kd (Pl.bt s a) = 6) := by show _ = _; rw [hc]; rfl
  clear h ho hc hj inner
  go_enter Tryd.func12, Tryd.ntmps12
  go_upto_block 0 with fail
  go_cut [] (fun wx => Hid (HD B s d a pv m w wx))
  case first =>
    go_wp2_with fail
    refine (has_no B s a d 0 j 83 83 pv _ hs (by omega) rfl S0.out.rr (by unfold sn; rw [HC.out]; rfl)).mono ?_
    rintro en w1 ⟨rfl, p1, f1⟩
    have S1 := hid (S0.out.next p1 f1)
    clear p1 f1 S0
    go_wp2_with fail
    refine (has_no B s a d 0 j 80 80 pv _ hs (by omega) rfl S1.out.rr (by unfold sn; rw [HC.out]; rfl)).mono ?_
    rintro en w2 ⟨rfl, p2, f2⟩
    have S2 := hid (S1.out.next p2 f2)
    clear p2 f2 S1
    go_wp2_with fail
    refine (has_no B s a d 0 j 74 74 pv _ hs (by omega) rfl S2.out.rr (by unfold sn; rw [HC.out]; rfl)).mono ?_
    rintro en w3 ⟨rfl, p3, f3⟩
    have S3 := hid (S2.out.next p3 f3)
    clear p3 f3 S2
    go_wp2_with fail
    refine (has_no B s a d 0 j 85 85 pv _ hs (by omega) rfl S3.out.rr (by unfold sn; rw [HC.out]; rfl)).mono ?_
    rintro en w4 ⟨rfl, p4, f4⟩
    have S4 := hid (S3.out.next p4 f4)
    clear p4 f4 S3
    go_wp2_with fail
    refine (has_yes B s a d 0 j 68 68 pv _ hs (by omega) rfl S4.out.rr (by unfold sn; rw [HC.out]; rfl)).mono ?_
    rintro en w5 ⟨rfl, p5, f5⟩
    have S5 := hid (S4.out.next p5 f5)
    clear p5 f5 S4
    obtain ⟨u0, hu0⟩ := S5.out.pb.cell (i := 0) (by omega)
    have z0 := S5.out.pb.fz 0
    have hcB : ¬ B = w.heap.size := by omega
    go_wp2_with fail
    go_meet
    case rel =>
      refine ⟨0, a + 1, j, ?_, ?_, ?_⟩
      · rw [HK.out]; exact Pl.lf_true (show Pl.tk s 68 a = _ from Pl.tk_in HC.out)
      · intro _; rw [HJ.out]; simp [Pl.cj, HC.out]
      · rw [show (Pl.bt s a : Int) = 68 by rw [HC.out]; rfl]; exact S5.out.setVerb 68
  case rest =>
    obtain ⟨e1, a1, j1, x1, hj1, s1⟩ := hcut.out
    rw [show (Pl.bt s a : Int) = 68 by rw [HC.out]; rfl] at s1
    have X1 := hid x1
    have J1 := hid hj1
    have S1 := hid s1
    clear x1 hj1 s1 hcut S0
    go_wp2_with fail
    refine (open_any B s a1 d e1 j1 pv _ hs (by omega) S1.out.rr).mono ?_
    rintro en w2 ⟨rfl, e2, a2, x2, p2, f2⟩
    have S2 := hid (S1.out.next p2 f2)
    have X2 := hid x2
    have J2 : Hid (e2 = 0 → j1 = Pl.cj s a2) := by intro z; subst z; have := Pl.opn_ok X2.out; rw [this.2]; exact J1.out this.1
    have D2 : Hid (7 ≤ d + 1 → e2 ≠ 0) := by
      intro z
      obtain rfl : d = 6 := by omega
      exact Pl.opn_six X2.out
    clear x2 p2 f2 J1 S1
    go_wp2_with fail
    refine (HI.out a2 e2 j1 pv m _ D2.out S2.out.rr S2.out.po (by omega) J2.out).mono ?_
    rintro en w3 ⟨⟨n3, rfl⟩, e3, a3, j3, pv3, m3, x3, p3, hj3, o3, hm3, f3, r3⟩
    have S3 := hid (S2.out.query p3 o3 f3 r3)
    have X3 := hid x3
    have J3 := hid hj3
    clear x3 p3 hj3 o3 f3 r3 S2 J2 D2
    obtain ⟨u9, hu9⟩ := S3.out.pb.cell (i := 9) (by omega)
    have z9 := S3.out.pb.fz 9
    have hv0 := S3.out.pb.verb
    go_wp2_with fail
    refine (rtake_any B s a3 (d + 1) e3 j3 41 41 pv3 _ hs (by omega) rfl (S3.out.set (i := 9) (by omega) (by rfl)).rr).mono ?_
    rintro en w4 ⟨v4, rfl, e4, a4, x4, p4, f4⟩
    have S4 := hid ((S3.out.set (i := 9) (by omega) (by rfl)).next p4 f4)
    have XX : Hid (Pl.stepQ s d q a = (e4, a4)) := Pl.step_one (by rw [HK.out]; omega) (by rw [HK.out]; rfl) X1.out X2.out X3.out x4
    have JJ : Hid (e4 = 0 → j3 = Pl.cj s a4) := by intro z; subst z; have := Pl.bE_lf_ok (Pl.tk_good (s := s) (by omega) (by omega)) x4; rw [this.2]; exact J3.out this.1
    have MM : Hid (m3 + 1 ≤ m + (1 + 2 * Ki)) := by show _ ≤ _; omega
    clear x4 p4 f4 S3 J3 hu9 z9 hv0 X1 X2 X3
    have c2 := S4.out.rr.c2
    have g2 := S4.out.rr.f 2
    go_wp2_with fail
    have SW : Hid (ST B s d j3 pv pv3 m3 w 68 e4 a4 (w4.setCell ⟨B, 2, none⟩ (.int .i64 (d : Int)))) := S4.out.setD d
    clear S4 c2 g2
    generalize w4.setCell ⟨B, 2, none⟩ (.int .i64 (d : Int)) = W at *
    obtain ⟨p1, p2, p3, p4, p5, p6, p7, p8, p9, p10, p11, hblk, hone⟩ := SW.out.pb.cells
    obtain ⟨xs, hown⟩ := SW.out.po
    obtain ⟨i0, hi0, hz0, hz1, hz2⟩ := info_parts infoOf60
    have q5 := SW.out.rr.c5
    have z5 := SW.out.rr.f 5
    have hB := lt_of_heap SW.out.rr.2
    have r0 := cell_of hblk 0
    have r1 := cell_of hblk 1
    have r2 := cell_of hblk 2
    have r3 := cell_of hblk 3
    have r4 := cell_of hblk 4
    have r5 := cell_of hblk 5
    have r6 := cell_of hblk 6
    have r7 := cell_of hblk 7
    have r8 := cell_of hblk 8
    have r9 := cell_of hblk 9
    have r10 := cell_of hblk 10
    have r11 := cell_of hblk 11
    simp at r0 r1 r2 r3 r4 r5 r6 r7 r8 r9 r10 r11
    have HONE := hid hone
    have HOWN := hid hown
    clear hone hblk hown
    have zA : ∀ o, (W.alloc o).frozen? ⟨B, 5, none⟩ = false := fun o => (World.frozen?_alloc_past _ _ _ hB).trans z5
    have hBo : some B ≠ pv3.ownBlock := SW.out.farB
    go_region_law
      ((refine step_append_lies _ (by rfl) _ _ _ (by rfl) (B + 1) 72 i0 _ 12 120 Tryd.underlying36 hi0 hz0 hz1 hz2 rfl (by omega) pv3 m3 xs (by rfl) ((HOWN.out.alloc _).drew) ⟨W.heap.size, 0, none⟩ 1 1 [.int .u8 68, p1, p2, p3, p4, p5, p6, p7, p8, p9, p10, p11] (by rfl) (by rfl) (World.news_of_block (cs := #[.int .u8 68, p1, p2, p3, p4, p5, p6, p7, p8, p9, p10, p11]) (t := 72) (fr := (0, 0)) (heap_alloc_new W _)) HONE.out (by omega) (by unfold maxLen; omega) (by omega) (by simp; omega) (W.heap.size + 1) (by simp) ?_; intro gg cap wz hown1 hgrow hat hlt; have s5 : wz.cell? ⟨B, 5, none⟩ = some pv3 := (hgrow.cell_far _ (by simp; omega) hBo).trans ((World.cell?_alloc_past _ _ _ hB).trans q5); have f5 : wz.frozen? ⟨B, 5, none⟩ = false := (hgrow.frozen_far _ (by simp; omega) hBo).trans (zA _)))
    all_goals
      obtain ⟨y1, y2, y3, y4⟩ := part_end (pv := pv) SW.out.rr SW.out.fr (SW.out.hr.imp id fun hh k hk => Nat.le_of_lt (hh k hk)) hBo hgrow hown1 hat
      have Y1 := hid y1
      have Y2 := hid y2
      have Y3 := hid y3
      have Y4 := hid y4
      clear y1 y2 y3 y4 hown1 hgrow hat hlt r0 r1 r2 r3 r4 r5 r6 r7 r8 r9 r10 r11 zA HONE HOWN SW
      go_wp2
      go_ret
      exact ⟨⟨_, rfl⟩, e4, a4, j3, _, m3 + 1, XX.out, Y1.out, JJ.out, Y2.out, MM.out, Y3.out, Y4.out⟩
end Go.Proofs.YtdinjjmcmfjbfaaDoor
