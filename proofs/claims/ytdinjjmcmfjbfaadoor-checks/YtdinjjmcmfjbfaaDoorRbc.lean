/-
  The document's reader of columns: it gathers them in a slice of its own.
-/
import Derived.Test.YtdinjjmcmfjbfaaDoorRbn
import Derived.Deep.AppendLies
namespace Go.Proofs.YtdinjjmcmfjbfaaDoor
open Go.RowKit

theorem Fr.grown {B : Nat} {row : Option Nat} {a w w' : World} {r : Option Nat} (h : Fr B row a w) (hg : w.grownBy w' r) (hr : r = row ∨ ∀ k, r = some k → a.heap.size ≤ k) : Fr B row a w' :=
  ⟨hg.os.trans h.os, hg.tape.trans h.tape, hg.output.trans h.output, Nat.le_trans h.size hg.size, fun k hk hB hrow => (hg.block k (Nat.lt_of_lt_of_le hk h.size) (fun x => by
    rcases hr with hr | hr
    · rw [hr] at x; exact hrow x
    · have := hr k x.symm; omega)).trans (h.block k hk hB hrow)⟩
theorem RR.grown {B : Nat} {s : ByteArray} {a d e j : Nat} {pv : Value} {w w' : World} {r : Option Nat} (h : RR B s a d e j pv w) (hg : w.grownBy w' r) (hr : some B ≠ r) : RR B s a d e j pv w' :=
  ⟨h.1, (hg.block B (lt_of_heap h.2) hr).trans h.2⟩
theorem RR.alloc {B : Nat} {s : ByteArray} {a d e j : Nat} {pv : Value} {w : World} (h : RR B s a d e j pv w) (o : Obj) : RR B s a d e j pv (w.alloc o) := ⟨h.1, (Below.heap_alloc _ _ _ (lt_of_heap h.2)).trans h.2⟩
theorem infoOf3 : (Tryd.prog.info? 3).map (fun i => (i.zero, i.size, i.bytes)) = some (some (.int .i64 0), 1, 8) := by kernel_rfl
/-- A call ended with a slice. -/
def IsSlice (en : Ending) : Prop := ∃ ad n c, en = .returned (.slice ad n c)
theorem ownsRow_frame {B : Nat} {row : Option Nat} {w w' : World} {base : Nat} {e : TypeId} {size : Nat} {v : Value} {n : Nat} {xs : List Value} (h : w.ownsRow base e size v n xs) (hf : Fr B row w w') (hB : v.ownBlock ≠ some B) (hr : v.ownBlock = none ∨ v.ownBlock ≠ row) : w'.ownsRow base e size v n xs := by
  refine ⟨h.1, ?_⟩
  rcases h.2 with hn | ⟨g, cap, cur, rfl, hb, hgg, rest⟩
  · exact .inl hn
  · refine .inr ⟨g, cap, cur, rfl, hb, ?_, rest⟩
    rw [hf.block g (lt_of_heap hgg) (by intro x; exact hB (by rw [x]; rfl)) (by simpa [Value.ownBlock] using hr)]
    exact hgg
theorem one_new (w : World) (x : Value) (t : TypeId) : ∀ (j : Nat) (u : Value), [x][j]? = some u → (w.alloc (.cells #[x] t)).cell? ((⟨w.heap.size, 0, none⟩ : Addr).add j) = some u := World.news_of_block (heap_alloc_new w _)

set_option maxHeartbeats 2000000 in
theorem rcolumns_any (B : Nat) (s : ByteArray) (a d e j : Nat) (pv : Value) (w : World) (hs : s.size ≤ 120) (h : RR B s a d e j pv w) :
    Calls Tryd.prog 28 #[.pointer (some ⟨B, 0, none⟩)] w fun en w' => IsSlice en ∧ RQ B s d j pv w (Pl.bE (e, a) (Pl.lf (Pl.colsP s 5))) w' := by
  have HH := hid h
  have hBl := lt_of_heap h.2
  obtain ⟨i, hi, hz0, hz1, hz2⟩ := info_parts infoOf3
  have HX := hid (Pl.cols_start s (e, a))
  clear h
  go_enter Tryd.func28, Tryd.ntmps28
  go_wp2_with fail
  refine (rdigit_any B s a d e j pv _ hs HH.out).mono ?_
  rintro en w1 ⟨n1, rfl, hn1, e1, a1, x1, p1, f1⟩
  have X1 : Hid (Pl.bE (e1, a1) (Pl.lf (Pl.restC s 5)) = Pl.bE (e, a) (Pl.lf (Pl.colsP s 5))) := by show _ = _; rw [HX.out, x1]
  have P1 := hid p1
  clear x1 p1 hn1
  have hw1 := f1.size
  go_wp2_with (at_builtin; refine wpList_append_lies _ (by rfl) (.tmp 7) (.tmp 9) 58 (by rfl) w.heap.size 3 i (.int .i64 0) 1 8 Tryd.underlying58 hi hz0 hz1 hz2 rfl (by decide) (.slice none 0 0) 0 [] (by rfl) (World.ownsRow_nil _ _ _ _) ⟨w1.heap.size, 0, none⟩ 1 1 [.int .i64 (n1 : Int)] (by rfl) rfl (one_new w1 _ _) (by intro u hu; simp at hu; subst hu; rfl) (by decide) (by decide) (by decide) (by simp; omega) (w1.heap.size + 1) (by simp) ?_)
  intro g cap w2 hown hgrow hat hlt
  have HB2 : Hid (some B ≠ Value.ownBlock (.slice none 0 0)) := by show _ ≠ _; simp [Value.ownBlock]
  have P2 : Hid (RR B s a1 d e1 j pv w2) := (P1.out.alloc _).grown hgrow HB2.out
  have f2 : Fr B none w w2 := (f1.alloc _).grown hgrow (.inr (by simp [Value.ownBlock]))
  have OW : Hid (w2.ownsRow w.heap.size 3 1 (.slice (some ⟨g, 0, none⟩) (0 + 1) cap) (0 + 1) ([] ++ [.int .i64 (n1 : Int)])) := hown
  clear hown hgrow hat hlt P1 f1 HX HH
  go_wp2_with fail
  go_loopg [3] 5 (fun k v3 wr => ∃ (c e2 n g cap : Nat) (xs : List Value), n + k = 6 ∧ 1 ≤ n ∧ v3 = .slice (some ⟨g, 0, none⟩) n cap ∧ Hid (wr.ownsRow w.heap.size 3 1 (.slice (some ⟨g, 0, none⟩) n cap) n xs) ∧ Hid (RR B s c d e2 j pv wr) ∧ Fr B none w wr ∧ Hid (Pl.bE (e2, c) (Pl.lf (Pl.restC s k)) = Pl.bE (e, a) (Pl.lf (Pl.colsP s 5))))
  case atStart => exact ⟨a1, e1, 1, g, cap, _, rfl, Nat.le_refl _, rfl, OW, P2, f2, X1⟩
  case round =>
    obtain ⟨c, e2, n, g, cap, xs, hnk, hn1, rfl, hO, hp, hf, hX⟩ := hrel
    have fin : ∀ (wx : World), Hid (RR B s c d e2 j pv wx) → Fr B none w wx → Hid (Pl.bE (e2, c) (Pl.lf (Pl.tk s 93)) = Pl.bE (e, a) (Pl.lf (Pl.colsP s 5))) → True := fun _ _ _ _ => trivial
    clear fin
    by_cases hk : gk = 0
    · subst hk
      have hx : ¬ (n : Int) < 6 := by omega
      go_wp2_with fail
      refine (rtake_any B s c d e2 j 93 93 pv _ hs (by omega) rfl hp.out).mono ?_
      rintro en w4 ⟨v, rfl, e4, a4, x4, p4, f4⟩
      have X4 := hid x4
      clear x4
      go_wp2_with fail
      go_ret
      exact ⟨⟨_, _, _, rfl⟩, e4, a4, by rw [← hX.out]; exact X4.out, p4, hf.seq f4⟩
    · obtain ⟨k, rfl⟩ : ∃ k, gk = k + 1 := ⟨gk - 1, by omega⟩
      have hx : (n : Int) < 6 := by omega
      go_wp2_with fail
      refine (sees_any B s c d e2 j 44 44 44 44 pv _ hs (by omega) rfl rfl hp.out).mono ?_
      rintro en w3 ⟨rfl, p3, f3⟩
      have P3 := hid p3
      clear p3
      cases hsn : sn s e2 44 44 c
      · have hX2 : Hid (Pl.bE (e2, c) (Pl.lf (Pl.tk s 93)) = Pl.bE (e, a) (Pl.lf (Pl.colsP s 5))) := by
          show _ = _
          rw [← hX.out, Pl.cols_last]
          rintro ⟨h1, h2⟩; unfold sn at hsn; simp at hsn; have := hsn h1; omega
        clear hsn
        go_wp2_with fail
        refine (rtake_any B s c d e2 j 93 93 pv _ hs (by omega) rfl P3.out).mono ?_
        rintro en w4 ⟨v, rfl, e4, a4, x4, p4, f4⟩
        have X4 := hid x4
        clear x4
        go_wp2_with fail
        go_ret
        exact ⟨⟨_, _, _, rfl⟩, e4, a4, by rw [← hX2.out]; exact X4.out, p4, (hf.seq f3).seq f4⟩
      · obtain rfl : e2 = 0 := sn_zero hsn
        have hb := sn_bt hsn
        have hl := Pl.bt_lt (s := s) (a := c) (by omega)
        have hX2 : Hid (Pl.bE (Pl.bE (0, c + 1) (Pl.lf (Pl.dig s))) (Pl.lf (Pl.restC s k)) = Pl.bE (e, a) (Pl.lf (Pl.colsP s 5))) := by
          show _ = _
          rw [← hX.out, Pl.cols_more (by omega)]
        have c1 := P3.out.c1
        have g1 := P3.out.f 1
        have P3' : Hid (RR B s (c + 1) d 0 j pv (w3.setCell ⟨B, 1, none⟩ (.int .i64 ((c : Int) + 1)))) := P3.out.setAt (by omega)
        clear hsn hb
        go_wp2_with fail
        refine (rdigit_any B s (c + 1) d 0 j pv _ hs P3'.out).mono ?_
        rintro en w5 ⟨n5, rfl, hn5, e5, a5, x5, p5, f5⟩
        have X5 : Hid (Pl.bE (e5, a5) (Pl.lf (Pl.restC s k)) = Pl.bE (e, a) (Pl.lf (Pl.colsP s 5))) := by show _ = _; rw [← hX2.out, x5]
        have P5 := hid p5
        clear x5 p5 hn5
        have f5' : Fr B none w w5 := ((hf.seq f3).setCell _ _).seq f5
        have hgB : B ≠ g := fun x => by have := (hO.out.lt g rfl).1; omega
        have hO5 : Hid (w5.ownsRow w.heap.size 3 1 (.slice (some ⟨g, 0, none⟩) n cap) n xs) :=
          ownsRow_frame (ownsRow_frame hO.out ((f3.setCell 1 (.int .i64 ((c : Int) + 1)))) (by simp [Value.ownBlock]; omega) (.inr (by simp [Value.ownBlock]))) f5 (by simp [Value.ownBlock]; omega) (.inr (by simp [Value.ownBlock]))
        have hw5 := f5'.size
        have hgb := (hO.out.lt g rfl).1
        clear P3' c1 g1 hX hX2 f5 f3 hO
        go_wp2_with (at_builtin; refine wpList_append_lies _ (by rfl) (.tmp 27) (.tmp 29) 58 (by rfl) w.heap.size 3 i (.int .i64 0) 1 8 Tryd.underlying58 hi hz0 hz1 hz2 rfl (by decide) (.slice (some ⟨g, 0, none⟩) n cap) n xs (by rfl) (hO5.out.alloc _) ⟨w5.heap.size, 0, none⟩ 1 1 [.int .i64 (n5 : Int)] (by rfl) rfl (one_new w5 _ _) (by intro u hu; simp at hu; subst hu; rfl) (by decide) (by unfold maxLen; omega) (by omega) (by simp; omega) (w5.heap.size + 1) (by simp) ?_)
        intro g6 cap6 w6 hown hgrow hat hlt
        have HB6 : Hid (some B ≠ Value.ownBlock (.slice (some ⟨g, 0, none⟩) n cap)) := by show _ ≠ _; simp [Value.ownBlock]; omega
        have P6 : Hid (RR B s a5 d e5 j pv w6) := (P5.out.alloc _).grown hgrow HB6.out
        have f6 : Fr B none w w6 := (f5'.alloc _).grown hgrow (.inr (by simp [Value.ownBlock]; omega))
        have OW6 := hid hown
        clear hown hgrow hat hlt P5
        go_wp2_with fail
        go_roundg k
        case measure => omega
        case rel => exact ⟨a5, e5, n + 1, g6, cap6, _, by omega, by omega, rfl, OW6, P6, f6, X5⟩
end Go.Proofs.YtdinjjmcmfjbfaaDoor
