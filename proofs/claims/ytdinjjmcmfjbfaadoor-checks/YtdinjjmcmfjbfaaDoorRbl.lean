/-
  The document's query that is a name, or that is read behind a fault: one part more.
-/
import Derived.Test.YtdinjjmcmfjbfaaDoorRbp
import Derived.Deep.RegionLaw
import Derived.Deep.DrawnRows
namespace Go.Proofs.YtdinjjmcmfjbfaaDoor
open Go.RowKit
attribute [local go_sem ↓] Go.wp_at_zero Go.wp_at_succ

/-- Where a query is read: what holds behind it. -/
def QR (B : Nat) (s : ByteArray) (d : Nat) (pv : Value) (m K : Nat) (w : World) (X : Nat × Nat) (jn : Nat → Nat → Nat → Prop) (en : Ending) (w' : World) : Prop :=
  (∃ n : Int, en = .returned (.int .i64 n)) ∧ ∃ e' a' j' pv' m', X = (e', a') ∧ RR B s a' d e' j' pv' w' ∧ jn e' a' j' ∧ PO B pv' m' w' ∧ m' ≤ m + K ∧ Fr B pv.ownBlock w w' ∧ (pv'.ownBlock = pv.ownBlock ∨ ∀ k, pv'.ownBlock = some k → w.heap.size ≤ k)

/-- What is known when a part has been appended and the list stored back. -/
theorem part_end {B : Nat} {s : ByteArray} {a d e j : Nat} {pv pw : Value} {m : Nat} {w W w1 : World} {o : Obj} {gg cap : Nat} {ys : List Value} (PW : RR B s a d e j pw W) (FW : Fr B pv.ownBlock w W)
    (hr : pw.ownBlock = pv.ownBlock ∨ ∀ k, pw.ownBlock = some k → w.heap.size ≤ k) (hBo : some B ≠ pw.ownBlock) (hgrow : (W.alloc o).drew.grownBy w1 pw.ownBlock)
    (hown : w1.ownsRow (B + 1) 72 12 (.slice (some ⟨gg, 0, none⟩) (m + 1) cap) (m + 1) ys) (hat : pw.ownBlock = some gg ∨ gg = W.heap.size + 1) :
    RR B s a d e j (.slice (some ⟨gg, 0, none⟩) (m + 1) cap) (w1.setCell ⟨B, 5, none⟩ (.slice (some ⟨gg, 0, none⟩) (m + 1) cap)) ∧ PO B (.slice (some ⟨gg, 0, none⟩) (m + 1) cap) (m + 1) (w1.setCell ⟨B, 5, none⟩ (.slice (some ⟨gg, 0, none⟩) (m + 1) cap)) ∧
      Fr B pv.ownBlock w (w1.setCell ⟨B, 5, none⟩ (.slice (some ⟨gg, 0, none⟩) (m + 1) cap)) ∧ (Value.ownBlock (.slice (some ⟨gg, 0, none⟩) (m + 1) cap) = pv.ownBlock ∨ ∀ k, Value.ownBlock (.slice (some ⟨gg, 0, none⟩) (m + 1) cap) = some k → w.heap.size ≤ k) := by
  have hw := FW.size
  refine ⟨(RR.grown (w := (W.alloc o).drew) (PW.alloc o) hgrow hBo).setP _, PO.other ⟨_, hown⟩ (by have := (hown.lt gg rfl).1; simp [Value.ownBlock]; omega) _, (((FW.alloc o).drew).grown hgrow hr).setCell _ _, ?_⟩
  rcases hat with hat | hat
  · rcases hr with hr | hr
    · left; rw [← hr, hat]; rfl
    · right; intro k hk; exact hr k (by rw [hat, ← hk]; rfl)
  · right; intro k hk; simp [Value.ownBlock] at hk; omega

set_option maxRecDepth 100000 in
set_option maxHeartbeats 2000000 in
theorem query_leaf (B : Nat) (s : ByteArray) (a d e j : Nat) (pv : Value) (m : Nat) (w : World) (hs : s.size ≤ 120) (h : RR B s a d e j pv w) (ho : PO B pv m w) (hm : m ≤ 100000)
    (hn : ∀ c, c = 83 ∨ c = 80 ∨ c = 74 ∨ c = 85 ∨ c = 68 ∨ c = 71 → sn s e c c a = false) :
    Calls Tryd.prog 12 #[.pointer (some ⟨B, 0, none⟩)] w (QR B s d pv m 1 w (Pl.bE (e, a) (Pl.lf (Pl.let4 s))) (fun _ _ j' => j' = j)) := by
  have hBl := lt_of_heap h.2
  have HH : Hid (RR B s a d e j pv (w.alloc (.cells #[.int .u8 0, .string ⟨#[]⟩, .slice none 0 0, .int .u8 0, .int .u8 0, .bool false, .int .i64 0, .string ⟨#[]⟩, .int .i64 0, .int .i64 (-1), .int .i64 (-1), .int .i64 0] 72))) := h.alloc _
  have HO : Hid (PO B pv m (w.alloc (.cells #[.int .u8 0, .string ⟨#[]⟩, .slice none 0 0, .int .u8 0, .int .u8 0, .bool false, .int .i64 0, .string ⟨#[]⟩, .int .i64 0, .int .i64 (-1), .int .i64 (-1), .int .i64 0] 72))) := ho.alloc _
  have HN := hid hn
  have HL : Hid (∀ k, pv.ownBlock = some k → B + 1 ≤ k ∧ k < w.heap.size) := ho.lt
  have hGo : some w.heap.size ≠ pv.ownBlock := fun x => by have := (HL.out _ x.symm).2; omega
  clear h ho hn
  go_enter Tryd.func12, Tryd.ntmps12
  go_wp2_with fail
  refine (has_no B s a d e j 83 83 pv _ hs (by omega) rfl HH.out (HN.out 83 (by omega))).mono ?_
  rintro en w1 ⟨rfl, p1, f1⟩
  have P1 := hid p1
  clear p1
  go_wp2_with fail
  refine (has_no B s a d e j 80 80 pv _ hs (by omega) rfl P1.out (HN.out 80 (by omega))).mono ?_
  rintro en w2 ⟨rfl, p2, f2⟩
  have P2 := hid p2
  clear p2
  go_wp2_with fail
  refine (has_no B s a d e j 74 74 pv _ hs (by omega) rfl P2.out (HN.out 74 (by omega))).mono ?_
  rintro en w3 ⟨rfl, p3, f3⟩
  have P3 := hid p3
  clear p3
  go_wp2_with fail
  refine (has_no B s a d e j 85 85 pv _ hs (by omega) rfl P3.out (HN.out 85 (by omega))).mono ?_
  rintro en w4 ⟨rfl, p4, f4⟩
  have P4 := hid p4
  clear p4
  go_wp2_with fail
  refine (has_no B s a d e j 68 68 pv _ hs (by omega) rfl P4.out (HN.out 68 (by omega))).mono ?_
  rintro en w5 ⟨rfl, p5, f5⟩
  have P5 := hid p5
  clear p5
  go_wp2_with fail
  refine (has_no B s a d e j 71 71 pv _ hs (by omega) rfl P5.out (HN.out 71 (by omega))).mono ?_
  rintro en w6 ⟨rfl, p6, f6⟩
  have P6 := hid p6
  clear p6
  go_wp2_with fail
  refine (rletters_any B s a d e j pv _ hs P6.out).mono ?_
  rintro en w7 ⟨t, rfl, e7, a7, x7, p7, f7⟩
  have X7 := hid x7
  have P7 := hid p7
  clear p7 x7
  have F7 : Fr B none w w7 := (((((((Fr.refl B none w).alloc _).seq f1).seq f2).seq f3).seq f4).seq f5).seq f6 |>.seq f7
  have F7' := ((((((f1.seq f2).seq f3).seq f4).seq f5).seq f6).seq f7)
  have O7 : Hid (PO B pv m w7) := HO.out.frame F7' rfl
  have b7 : Hid (PB w.heap.size 0 w7) := PB.frame (w := w.alloc (.cells #[.int .u8 0, .string ⟨#[]⟩, .slice none 0 0, .int .u8 0, .int .u8 0, .bool false, .int .i64 0, .string ⟨#[]⟩, .int .i64 0, .int .i64 (-1), .int .i64 (-1), .int .i64 0] 72)) ⟨_, heap_alloc_new w _, rfl, rfl, by
    intro i v hv
    match i, hv with
    | 0, hv | 1, hv | 2, hv | 3, hv | 4, hv | 5, hv | 6, hv | 7, hv | 8, hv | 9, hv | 10, hv | 11, hv => simp at hv; subst hv; rfl⟩ F7' (by omega) (by simp)
  clear f1 f2 f3 f4 f5 f6 f7 F7' P1 P2 P3 P4 P5 P6 HH HO HN
  obtain ⟨u1, hu1⟩ := b7.out.cell (i := 1) (by omega)
  have z1 := b7.out.fz 1
  go_wp2_with fail
  have PW : Hid (RR B s a7 d e7 j pv (w7.setCell ⟨w.heap.size, 1, none⟩ (.string t))) := ⟨P7.out.1, (Below.heap_setCell _ _ _ _ (by show B ≠ w.heap.size; omega)).trans P7.out.2⟩
  have FW : Hid (Fr B none w (w7.setCell ⟨w.heap.size, 1, none⟩ (.string t))) := F7.setNew (Nat.le_refl _) _
  have OW : Hid (PO B pv m (w7.setCell ⟨w.heap.size, 1, none⟩ (.string t))) := O7.out.other (fun x => by have := (HL.out _ x.symm); omega) _
  have BW : Hid (PB w.heap.size 0 (w7.setCell ⟨w.heap.size, 1, none⟩ (.string t))) := b7.out.set (by omega) rfl
  clear F7 P7 O7 b7 hu1 z1
  generalize w7.setCell ⟨w.heap.size, 1, none⟩ (.string t) = W at *
  obtain ⟨p1, p2, p3, p4, p5, p6, p7, p8, p9, p10, p11, hblk, hone⟩ := BW.out.cells
  obtain ⟨xs, hown⟩ := OW.out
  obtain ⟨i0, hi0, hz0, hz1, hz2⟩ := info_parts infoOf60
  have q5 := PW.out.c5
  have z5 := PW.out.f 5
  have hB := lt_of_heap PW.out.2
  have hG := lt_of_heap hblk
  have r0 := cell_of hblk 0
  have r1 := cell_of hblk 1
  have r2 := cell_of hblk 2
  have r3 := cell_of hblk 3
  have r4 := cell_of hblk 4
  have r5 := cell_of hblk 5
  have r6 := cell_of hblk 6
  have r7 := cell_of hblk 7
  have r8 := cell_of hblk 8
  have r9 := cell_of hblk 9
  have r10 := cell_of hblk 10
  have r11 := cell_of hblk 11
  simp at r0 r1 r2 r3 r4 r5 r6 r7 r8 r9 r10 r11
  have HONE := hid hone
  have HBLK := hid hblk
  have HOWN := hid hown
  clear hone hblk hown
  have zA : ∀ o, (W.alloc o).frozen? ⟨B, 5, none⟩ = false := fun o => (World.frozen?_alloc_past _ _ _ hB).trans z5
  have hBo : some B ≠ pv.ownBlock := fun x => by have := HL.out _ x.symm; omega
  go_region_law
    ((refine step_append_lies _ (by rfl) _ _ _ (by rfl) (B + 1) 72 i0 _ 12 120 Tryd.underlying36 hi0 hz0 hz1 hz2 rfl (by omega) pv m xs (by rfl) ((HOWN.out.alloc _).drew)
        ⟨W.heap.size, 0, none⟩ 1 1 [.int .u8 0, p1, p2, p3, p4, p5, p6, p7, p8, p9, p10, p11] (by rfl) (by rfl) (World.news_of_block (cs := #[.int .u8 0, p1, p2, p3, p4, p5, p6, p7, p8, p9, p10, p11]) (t := 72) (fr := (0, 0)) (heap_alloc_new W _)) HONE.out
        (by omega) (by unfold maxLen; omega) (by omega) (by simp; omega) (W.heap.size + 1) (by simp) ?_; intro gg cap w1 hown1 hgrow hat hlt; have s5 : w1.cell? ⟨B, 5, none⟩ = some pv := (hgrow.cell_far _ (by simp; omega) hBo).trans ((World.cell?_alloc_past _ _ _ hB).trans q5); have f5 : w1.frozen? ⟨B, 5, none⟩ = false := (hgrow.frozen_far _ (by simp; omega) hBo).trans (zA _)))
  all_goals
    obtain ⟨e1, e2, e3, e4⟩ := part_end (pv := pv) PW.out FW.out.weaken (.inl rfl) hBo hgrow hown1 hat
    have E1 := hid e1
    have E2 := hid e2
    have E3 := hid e3
    have E4 := hid e4
    clear e1 e2 e3 e4 hown1 hgrow hat hlt r0 r1 r2 r3 r4 r5 r6 r7 r8 r9 r10 r11 zA HONE HBLK HOWN PW FW OW BW
    go_wp2
    go_ret
    exact ⟨⟨_, rfl⟩, e7, a7, j, _, m + 1, X7.out, E1.out, rfl, E2.out, Nat.le_refl _, E3.out, E4.out⟩
end Go.Proofs.YtdinjjmcmfjbfaaDoor
