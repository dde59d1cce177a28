/-
  The document's query at every depth, its Parse and its Check: they answer what the plain functions say.
-/
import Derived.Test.YtdinjjmcmfjbfaaDoorRvS
import Derived.Test.YtdinjjmcmfjbfaaDoorRvP
import Derived.Test.YtdinjjmcmfjbfaaDoorRvJ
import Derived.Test.YtdinjjmcmfjbfaaDoorRvU
import Derived.Test.YtdinjjmcmfjbfaaDoorRvD
import Derived.Test.YtdinjjmcmfjbfaaDoorRvG
namespace Go.Proofs.YtdinjjmcmfjbfaaDoor
open Go.RowKit

theorem leaf_any (B : Nat) (s : ByteArray) (d K : Nat) (X : Nat × Nat) (hs : s.size ≤ 120) (hK : 1 ≤ K) (a e j : Nat) (pv : Value) (m : Nat) (w : World) (h : RR B s a d e j pv w) (ho : PO B pv m w) (hm : m + K ≤ 1000) (hj : e = 0 → j = Pl.cj s a)
    (hn : ∀ c, c = 83 ∨ c = 80 ∨ c = 74 ∨ c = 85 ∨ c = 68 ∨ c = 71 → sn s e c c a = false) (hX : Pl.bE (e, a) (Pl.lf (Pl.let4 s)) = X) :
    Calls Tryd.prog 12 #[.pointer (some ⟨B, 0, none⟩)] w (QR B s d pv m K w X (fun e' a' j' => e' = 0 → j' = Pl.cj s a')) := by
  refine (query_leaf B s a d e j pv m w hs h ho (by omega) hn).mono ?_
  rintro en w' ⟨hen, e', a', j', pv', m', hx, hr, hj', ho', hm', hf, hw⟩
  refine ⟨hen, e', a', j', pv', m', hX.symm.trans hx, hr, fun z => ?_, ho', by omega, hf, hw⟩
  subst z
  have := Pl.bE_lf_ok (Pl.let4_good s) hx
  have e2 : j' = j := hj'
  rw [e2, hj this.1, this.2]

theorem sn_err {s : ByteArray} {e c a : Nat} (h : e ≠ 0) : sn s e c c a = false := by unfold sn; simp [h]

theorem inner_err (B : Nat) (s : ByteArray) (q : Nat → Nat × Nat) (hs : s.size ≤ 120) : Inner B s 7 1 q := by
  intro a e j pv m w h7 h ho hm hj
  have he := h7 (Nat.le_refl _)
  exact leaf_any B s 7 1 _ hs (Nat.le_refl _) a e j pv m w h ho hm hj (fun c _ => sn_err he) (by rw [Pl.bE_err he, Pl.bE_err he])

theorem inner_step (B : Nat) (s : ByteArray) (d Ki : Nat) (q : Nat → Nat × Nat) (hs : s.size ≤ 120) (hd : d ≤ 6) (inner : Inner B s (d + 1) Ki q) : Inner B s d (1 + 2 * Ki) (Pl.stepQ s d q) := by
  intro a e j pv m w h7 h ho hm hj
  by_cases he : e = 0
  · subst he
    rw [Pl.bE_zero]
    by_cases c1 : Pl.bt s a = 83
    · exact verb_S B s a d j Ki q pv m w hs hd inner h ho hm (hj rfl) c1
    by_cases c2 : Pl.bt s a = 80
    · exact verb_P B s a d j Ki q pv m w hs hd inner h ho hm (hj rfl) c2
    by_cases c3 : Pl.bt s a = 74
    · exact verb_J B s a d j Ki q pv m w hs hd inner h ho hm (hj rfl) c3
    by_cases c4 : Pl.bt s a = 85
    · exact verb_U B s a d j Ki q pv m w hs hd inner h ho hm (hj rfl) c4
    by_cases c5 : Pl.bt s a = 68
    · exact verb_D B s a d j Ki q pv m w hs hd inner h ho hm (hj rfl) c5
    by_cases c6 : Pl.bt s a = 71
    · exact verb_G B s a d j Ki q pv m w hs hd inner h ho hm (hj rfl) c6
    refine leaf_any B s d _ _ hs (by omega) a 0 j pv m w h ho hm hj (fun c hc => ?_) ?_
    · unfold sn; simp; omega
    · rw [Pl.bE_zero]
      refine (Pl.kd_leaf ?_ d q).symm
      unfold Pl.kd
      rw [if_neg c1, if_neg c2, if_neg c3, if_neg c4, if_neg c5, if_neg c6]
      split
      · exact .inr rfl
      · exact .inl rfl
  · exact leaf_any B s d _ _ hs (by omega) a e j pv m w h ho hm hj (fun c _ => sn_err he) (by rw [Pl.bE_err he, Pl.bE_err he])

theorem inner_all (B : Nat) (s : ByteArray) (hs : s.size ≤ 120) : Inner B s 0 255 (Pl.qP s 6) := by
  have i6 : Inner B s 6 3 (Pl.qP s 0) := by have := inner_step B s 6 1 (Pl.qP s 0) hs (by omega) (inner_err B s _ hs); rw [Pl.stepQ_six] at this; exact this
  have i5 : Inner B s 5 7 (Pl.qP s 1) := by have := inner_step B s 5 3 (Pl.qP s 0) hs (by omega) i6; rw [Pl.stepQ_more s 5 0 (by omega)] at this; exact this
  have i4 : Inner B s 4 15 (Pl.qP s 2) := by have := inner_step B s 4 7 (Pl.qP s 1) hs (by omega) i5; rw [Pl.stepQ_more s 4 1 (by omega)] at this; exact this
  have i3 : Inner B s 3 31 (Pl.qP s 3) := by have := inner_step B s 3 15 (Pl.qP s 2) hs (by omega) i4; rw [Pl.stepQ_more s 3 2 (by omega)] at this; exact this
  have i2 : Inner B s 2 63 (Pl.qP s 4) := by have := inner_step B s 2 31 (Pl.qP s 3) hs (by omega) i3; rw [Pl.stepQ_more s 2 3 (by omega)] at this; exact this
  have i1 : Inner B s 1 127 (Pl.qP s 5) := by have := inner_step B s 1 63 (Pl.qP s 4) hs (by omega) i2; rw [Pl.stepQ_more s 1 4 (by omega)] at this; exact this
  have := inner_step B s 0 127 (Pl.qP s 5) hs (by omega) i1
  rw [Pl.stepQ_more s 0 5 (by omega)] at this
  exact this

/-- A call ended with a slice and two numbers. -/
def Is3 (x y : Nat) (en : Ending) : Prop := ∃ ad n c, en = .returned (.tuple #[.slice ad n c, .int .i64 (x : Int), .int .i64 (y : Int)])
theorem is3 {x y : Nat} {ad : Option Addr} {n c : Nat} {p q : Int} (h : p = (x : Int)) (k : q = (y : Int)) : Is3 x y (.returned (.tuple #[.slice ad n c, .int .i64 p, .int .i64 q])) := ⟨ad, n, c, by rw [h, k]⟩

set_option maxHeartbeats 2000000 in
theorem parse_any (s : ByteArray) (w : World) :
    Calls Tryd.prog 9 #[.string s] w fun en w' => Is3 (Pl.chk s).1 (Pl.chk s).2 en ∧ Below w.heap.size w w' := by
  by_cases hs : s.size ≤ 120
  · have hs' : ¬ (120 : Int) < (s.size : Int) := by omega
    have HR : Hid (RR w.heap.size s 0 0 0 0 (.slice none 0 0) (w.alloc (.cells #[.string s, .int .i64 0, .int .i64 0, .int .i64 0, .int .i64 0, .slice none 0 0] 46))) := ⟨by omega, heap_alloc_new w _⟩
    have HO : Hid (PO w.heap.size (.slice none 0 0) 0 (w.alloc (.cells #[.string s, .int .i64 0, .int .i64 0, .int .i64 0, .int .i64 0, .slice none 0 0] 46))) := ⟨[], World.ownsRow_nil _ _ _ _⟩
    have HB := hid ((Below.refl w.heap.size w).alloc (Nat.le_refl _) (.cells #[.string s, .int .i64 0, .int .i64 0, .int .i64 0, .int .i64 0, .slice none 0 0] 46))
    go_enter Tryd.func9, Tryd.ntmps9
    go_wp2_with fail
    refine (inner_all w.heap.size s hs 0 0 0 (.slice none 0 0) 0 _ (by omega) HR.out HO.out (by omega) (fun _ => rfl)).mono ?_
    rintro en w1 ⟨⟨n1, rfl⟩, e1, a1, j1, pv1, m1, x1, p1, hj1, o1, _, f1, _⟩
    have hb : Hid (Below w.heap.size w w1) := HB.out.trans (f1.below (Nat.le_refl _) (by simp) (by simp [Value.ownBlock]))
    have ha := p1.1
    have c1 := p1.c1
    have c3 := p1.c3
    have c4 := p1.c4
    have c5 := p1.c5
    obtain ⟨ad, ln, cp, hpv⟩ := o1.form
    rw [hpv] at c5
    have P1 := hid p1
    have J1 := hid hj1
    have X1 : Hid (Pl.qP s 6 0 = (e1, a1)) := x1
    clear p1 hj1 x1 f1 o1 hpv
    by_cases h0 : e1 = 0
    · subst h0
      have HJ : Hid (j1 = Pl.cj s a1) := J1.out rfl
      by_cases hend : a1 < s.size
      · have HX : Hid (Pl.chk s = (2, a1)) := by
          show _ = _
          have e2 : Pl.whole s = (2, a1) := by unfold Pl.whole Pl.endP; rw [X1.out, Pl.bE_zero, if_pos hend]
          unfold Pl.chk; rw [if_neg (by omega), e2]; rfl
        have hend' : (a1 : Int) < (s.size : Int) := by omega
        clear c1 c3 c4 c5
        have c1 := P1.out.c1
        have c3 := P1.out.c3
        go_wp2_with fail
        refine (wrong_any w.heap.size s a1 0 0 j1 2 2 pv1 _ rfl P1.out).mono ?_
        rintro en w2 ⟨rfl, p2, f2⟩
        have hb2 : Hid (Below w.heap.size w w2) := hb.out.trans (f2.below (Nat.le_refl _) hb.out.size (by simp))
        have p2 : RR w.heap.size s a1 0 2 j1 pv1 w2 := p2
        have d1 := p2.c1
        have d3 := p2.c3
        clear p2 f2 c1 c3
        go_wp2_with fail
        go_quiet (fail)
        go_wp2_with fail
        go_ret3
        exact ⟨is3 (by rw [HX.out]; rfl) (by rw [HX.out]), ⟨hb2.out.os, hb2.out.tape, hb2.out.output, hb2.out.size, hb2.out.block⟩⟩
      · have hA : a1 = s.size := by omega
        have HW : Hid (Pl.whole s = (0, a1)) := by show _ = _; unfold Pl.whole Pl.endP; rw [X1.out, Pl.bE_zero, if_neg hend]
        have hj3 : j1 ≤ 120 := by rw [HJ.out]; exact Nat.le_trans (Pl.cj_le s a1) (by omega)
        by_cases hjj : 2 < j1
        · have HX : Hid (Pl.chk s = (4, 0)) := by
            show _ = _
            unfold Pl.chk; rw [if_neg (by omega), HW.out, if_pos rfl, if_pos (by rw [← hA, ← HJ.out]; exact hjj)]
          have hj' : (2 : Int) < (j1 : Int) := by omega
          clear hA
          go_wp2_with fail
          go_ret3
          exact ⟨is3 (by rw [HX.out]; rfl) (by rw [HX.out]; rfl), hb.out⟩
        · have HX : Hid (Pl.chk s = (0, 0)) := by
            show _ = _
            unfold Pl.chk; rw [if_neg (by omega), HW.out, if_pos rfl, if_neg (by rw [← hA, ← HJ.out]; exact hjj)]
          have hj' : ¬ (2 : Int) < (j1 : Int) := by omega
          clear hA
          go_wp2_with fail
          go_ret3
          exact ⟨is3 (by rw [HX.out]; rfl) (by rw [HX.out]; rfl), hb.out⟩
    · have he' : ((e1 : Int) == 0) = false := by simp; omega
      have he2 : ((e1 : Int) != 0) = true := by simp; omega
      have HX : Hid (Pl.chk s = (e1, a1)) := by
        show _ = _
        have e2 : Pl.whole s = (e1, a1) := by unfold Pl.whole Pl.endP; rw [X1.out, Pl.bE_err h0]
        unfold Pl.chk; rw [if_neg (by omega), e2, if_neg h0]
      clear h0
      go_wp2_with fail
      go_quiet (fail)
      go_wp2_with fail
      go_ret3
      exact ⟨is3 (by rw [HX.out]) (by rw [HX.out]), ⟨hb.out.os, hb.out.tape, hb.out.output, hb.out.size, hb.out.block⟩⟩
  · have hs' : (120 : Int) < (s.size : Int) := by omega
    have HX : Hid (Pl.chk s = (1, 0)) := by show _ = _; unfold Pl.chk; rw [if_pos (by omega)]
    go_enter Tryd.func9, Tryd.ntmps9
    go_wp2_with fail
    go_ret3
    exact ⟨is3 (by rw [HX.out]; rfl) (by rw [HX.out]; rfl), Below.refl _ _⟩
end Go.Proofs.YtdinjjmcmfjbfaaDoor
