/-
  The program's reader, and its small readers: each answers and moves as its plain function says.
-/
import Derived.Test.YtdinjjmcmfjbfaaDoorPure
import Derived.Test.YtdinjjmcmfjbfaaDoorHk
import Derived.Deep.LoopGhost
import Derived.Deep.RegionHeld3
namespace Go.Proofs.YtdinjjmcmfjbfaaDoor
open Go.RowKit

/-- The program's reader lies in block B: its text, its place. -/
def RP (B : Nat) (s : ByteArray) (a : Nat) (w : World) : Prop := a ≤ s.size ∧ w.heap[B]? = some (.cells #[.string s, .int .i64 (a : Int)] 40 (0, 0))
theorem RP.c0 {B : Nat} {s : ByteArray} {a : Nat} {w : World} (h : RP B s a w) : w.cell? ⟨B, 0, none⟩ = some (.string s) := by rw [cell_of h.2]; rfl
theorem RP.c1 {B : Nat} {s : ByteArray} {a : Nat} {w : World} (h : RP B s a w) : w.cell? ⟨B, 1, none⟩ = some (.int .i64 (a : Int)) := by rw [cell_of h.2]; rfl
theorem RP.f1 {B : Nat} {s : ByteArray} {a : Nat} {w : World} (h : RP B s a w) : w.frozen? ⟨B, 1, none⟩ = false := frozen_of h.2 1
theorem RP.drewN {B : Nat} {s : ByteArray} {a : Nat} {w : World} (h : RP B s a w) (n : Nat) : RP B s a (w.drewN n) := h
theorem RP.set {B : Nat} {s : ByteArray} {a a' : Nat} {w : World} (h : RP B s a w) (ha : a' ≤ s.size) : RP B s a' (w.setCell ⟨B, 1, none⟩ (.int .i64 (a' : Int))) := ⟨ha, by rw [heap_set h.2]; rfl⟩
/-- A bool function of the program's reader ends so: its answer and its place are those of the plain function. -/
def PP (B : Nat) (s : ByteArray) (w : World) (r : Bool × Nat) (e : Ending) (w' : World) : Prop :=
  ∃ ok a', r = (ok, a') ∧ e = .returned (.bool ok) ∧ RP B s a' w' ∧ Kept (· = B) w w'


set_option maxHeartbeats 400000 in
theorem next_any (B : Nat) (s : ByteArray) (a : Nat) (w : World) (_hs : s.size ≤ 1000) (h : RP B s a w) :
    Calls Tryd.prog 15 #[.pointer (some ⟨B, 0, none⟩)] w fun e w' => e = .returned (.int .u8 (Pl.bt s a : Nat)) ∧ RP B s a w' ∧ Kept (· = B) w w' := by
  have h0 := h.c0
  have h1 := h.c1
  have HH := hid h
  have ha := h.1
  have hi : (0 : Int) ≤ (a : Int) := by omega
  clear h
  by_cases hlt : a < s.size
  · have hi2 : (a : Int) < (s.size : Int) := by omega
    have Hb : Hid (Pl.bt s a = s[a].toNat) := by show _ = _; unfold Pl.bt; rw [dif_pos hlt]
    go_enter Tryd.func15, Tryd.ntmps15
    go_wp2
    go_quiet (fail)
    go_wp2
    go_quiet (fail)
    go_wp2
    go_ret
    exact ⟨ret_int (by rw [Hb.out]), (HH.out.drewN _).drewN _, ((Kept.refl _ _).drewN _).drewN _⟩
  · have Hb : Hid (Pl.bt s a = 0) := by show _ = _; unfold Pl.bt; rw [dif_neg hlt]
    go_enter Tryd.func15, Tryd.ntmps15
    go_wp2
    go_quiet (fail)
    go_wp2
    go_ret
    exact ⟨ret_int (by rw [Hb.out]; rfl), (HH.out.drewN _), ((Kept.refl _ _).drewN _)⟩


set_option maxHeartbeats 400000 in
theorem take_any (B : Nat) (s : ByteArray) (a c : Nat) (ci : Int) (w : World) (hs : s.size ≤ 1000) (hc : 0 < c) (hci : ci = (c : Int)) (h : RP B s a w) :
    Calls Tryd.prog 18 #[.pointer (some ⟨B, 0, none⟩), .int .u8 ci] w (PP B s w (Pl.tk s c a)) := by
  subst hci
  have ha := h.1
  have HH := hid h
  clear h
  by_cases hb : Pl.bt s a = c
  · have hx : ((Pl.bt s a : Int) != (c : Int)) = false := by simp [hb]
    have HX : Hid (Pl.tk s c a = (true, a + 1)) := by show _ = _; unfold Pl.tk; rw [if_pos hb]
    have hl := Pl.bt_lt (s := s) (a := a) (by omega)
    clear hb
    go_enter Tryd.func18, Tryd.ntmps18
    go_wp2_with fail
    refine (next_any B s a _ hs HH.out).mono ?_
    rintro e w1 ⟨rfl, hp, hf⟩
    have h1 := hp.c1
    have f1 := hp.f1
    have HP := hid hp
    clear hp
    go_wp2
    go_ret
    exact ⟨true, a + 1, HX.out, rfl, HP.out.set (by omega), hf.setCell (.inr rfl) _⟩
  · have hx : ((Pl.bt s a : Int) != (c : Int)) = true := by simp; omega
    have HX : Hid (Pl.tk s c a = (false, a)) := by show _ = _; unfold Pl.tk; rw [if_neg hb]
    clear hb
    go_enter Tryd.func18, Tryd.ntmps18
    go_wp2_with fail
    refine (next_any B s a _ hs HH.out).mono ?_
    rintro e w1 ⟨rfl, hp, hf⟩
    go_wp2
    go_ret
    exact ⟨false, a, HX.out, rfl, hp, hf⟩


set_option maxHeartbeats 1000000 in
theorem several_any (B : Nat) (s : ByteArray) (a most lo hi : Nat) (mi li ui : Int) (w : World) (hs : s.size ≤ 1000) (hm : most ≤ 10) (hlo : 0 < lo) (hmi : mi = (most : Int)) (hli : li = (lo : Int)) (hui : ui = (hi : Int)) (h : RP B s a w) :
    Calls Tryd.prog 38 #[.pointer (some ⟨B, 0, none⟩), .int .i64 mi, .int .u8 li, .int .u8 ui] w (PP B s w (Pl.sev s most lo hi a)) := by
  subst hmi hli hui
  have ha := h.1
  have h1 := h.c1
  have HH := hid h
  clear h
  go_enter Tryd.func38, Tryd.ntmps38
  go_wp2_with fail
  go_loopg [] most (fun k wr => ∃ c : Nat, c + k = a + most ∧ a ≤ c ∧ Hid (RP B s c wr) ∧ Kept (· = B) w wr ∧ Hid (Pl.many s lo hi k c = Pl.many s lo hi most a))
  case atStart => exact ⟨a, rfl, Nat.le_refl _, HH, Kept.refl _ _, rfl⟩
  case round =>
    obtain ⟨c, e1, hac, hp, hf, hm1⟩ := hrel
    have hc := hp.out.1
    have c1 := hp.out.c1
    by_cases hk : gk = 0
    · subst hk
      have hd : decide ((c : Int) - (a : Int) < (most : Int)) = false := by simp; omega
      go_wp2_with fail
      go_ret
      have e2 : c = Pl.many s lo hi most a := hm1.out
      refine ⟨decide (a < c), c, ?_, ret_bool ?_, hp.out, hf⟩
      · unfold Pl.sev; rw [← e2]
      · simp
    · obtain ⟨k, rfl⟩ : ∃ k, gk = k + 1 := ⟨gk - 1, by omega⟩
      have hlt : (c : Int) - (a : Int) < (most : Int) := by omega
      by_cases hb : lo ≤ Pl.bt s c
      · by_cases hb2 : Pl.bt s c ≤ hi
        · have hb' : (lo : Int) ≤ (Pl.bt s c : Int) := by omega
          have hb2' : (Pl.bt s c : Int) ≤ (hi : Int) := by omega
          have hl := Pl.bt_lt (s := s) (a := c) (by omega)
          have e2 : Hid (Pl.many s lo hi k (c + 1) = Pl.many s lo hi most a) := by have := hm1.out; rw [Pl.many_in ⟨hb, hb2⟩] at this; exact this
          go_wp2_with fail
          refine (next_any B s c _ hs hp.out).mono ?_
          rintro e w1 ⟨rfl, hp1, hf1⟩
          have H1 := hid hp1
          clear hp1
          go_wp2_with fail
          refine (next_any B s c _ hs H1.out).mono ?_
          rintro e w2 ⟨rfl, hp2, hf2⟩
          have d1 := hp2.c1
          have g1 := hp2.f1
          have H2 := hid hp2
          clear hp2
          go_wp2_with fail
          go_roundg k
          case measure => omega
          case rel => exact ⟨c + 1, by omega, by omega, H2.out.set (by omega), ((hf.seq hf1).seq hf2).setCell (.inr rfl) _, e2⟩
        · have hb' : (lo : Int) ≤ (Pl.bt s c : Int) := by omega
          have hb2' : decide ((Pl.bt s c : Int) ≤ (hi : Int)) = false := by simp; omega
          have e2 : Hid (c = Pl.many s lo hi most a) := by have := hm1.out; rw [Pl.many_out (by omega)] at this; exact this
          go_wp2_with fail
          refine (next_any B s c _ hs hp.out).mono ?_
          rintro e w1 ⟨rfl, hp1, hf1⟩
          have H1 := hid hp1
          clear hp1
          go_wp2_with fail
          refine (next_any B s c _ hs H1.out).mono ?_
          rintro e w2 ⟨rfl, hp2, hf2⟩
          have d1 := hp2.c1
          have H2 := hid hp2
          clear hp2
          go_wp2_with fail
          go_ret
          refine ⟨decide (a < c), c, ?_, ret_bool ?_, H2.out, (hf.seq hf1).seq hf2⟩
          · unfold Pl.sev; rw [← e2.out]
          · simp
      · have hb' : decide ((lo : Int) ≤ (Pl.bt s c : Int)) = false := by simp; omega
        have e2 : Hid (c = Pl.many s lo hi most a) := by have := hm1.out; rw [Pl.many_out (by omega)] at this; exact this
        go_wp2_with fail
        refine (next_any B s c _ hs hp.out).mono ?_
        rintro e w1 ⟨rfl, hp1, hf1⟩
        have d1 := hp1.c1
        have H1 := hid hp1
        clear hp1
        go_wp2_with fail
        go_ret
        refine ⟨decide (a < c), c, ?_, ret_bool ?_, H1.out, hf.seq hf1⟩
        · unfold Pl.sev; rw [← e2.out]
        · simp


set_option maxHeartbeats 400000 in
theorem digits_any (B : Nat) (s : ByteArray) (a : Nat) (w : World) (hs : s.size ≤ 1000) (h : RP B s a w) :
    Calls Tryd.prog 55 #[.pointer (some ⟨B, 0, none⟩)] w (PP B s w (Pl.digs s a)) := by
  have HH := hid h
  clear h
  by_cases hb : Pl.bt s a = 48
  · have hx : ((Pl.bt s a : Int) == 48) = true := by simp; omega
    have HX : Hid (Pl.digs s a = (false, a)) := by show _ = _; unfold Pl.digs; rw [if_pos hb]
    clear hb
    go_enter Tryd.func55, Tryd.ntmps55
    go_wp2_with fail
    refine (next_any B s a _ hs HH.out).mono ?_
    rintro e w1 ⟨rfl, hp, hf⟩
    go_wp2_with fail
    go_ret
    exact ⟨false, a, HX.out, rfl, hp, hf⟩
  · have hx : ((Pl.bt s a : Int) == 48) = false := by simp; omega
    have HX : Hid (Pl.digs s a = Pl.sev s 4 48 57 a) := by show _ = _; unfold Pl.digs; rw [if_neg hb]
    clear hb
    go_enter Tryd.func55, Tryd.ntmps55
    go_wp2_with fail
    refine (next_any B s a _ hs HH.out).mono ?_
    rintro e w1 ⟨rfl, hp, hf⟩
    have HP := hid hp
    clear hp
    go_wp2_with fail
    refine (several_any B s a 4 48 57 4 48 57 _ hs (by omega) (by omega) rfl rfl rfl HP.out).mono ?_
    rintro e w2 ⟨ok, b, x, rfl, p, f⟩
    have X := hid x
    clear x
    go_wp2_with fail
    go_ret
    exact ⟨ok, b, HX.out.trans X.out, rfl, p, hf.seq f⟩


set_option maxHeartbeats 400000 in
theorem numeral_any (B : Nat) (s : ByteArray) (a : Nat) (w : World) (hs : s.size ≤ 1000) (h : RP B s a w) :
    Calls Tryd.prog 50 #[.pointer (some ⟨B, 0, none⟩)] w (PP B s w (Pl.numP s a)) := by
  have HH := hid h
  clear h
  go_enter Tryd.func50, Tryd.ntmps50
  go_wp2_with fail
  refine (take_any B s a 45 45 _ hs (by omega) rfl HH.out).mono ?_
  rintro e w1 ⟨ok1, a1, x1, rfl, p1, f1⟩
  have X1 := hid x1
  have P1 := hid p1
  clear x1 p1
  cases ok1
  · go_wp2_with fail
    refine (take_any B s a1 48 48 _ hs (by omega) rfl P1.out).mono ?_
    rintro e w2 ⟨ok2, a2, x2, rfl, p2, f2⟩
    have X2 := hid x2
    have P2 := hid p2
    clear x2 p2
    cases ok2
    · go_wp2_with fail
      refine (digits_any B s a2 _ hs P2.out).mono ?_
      rintro e w3 ⟨ok3, a3, x3, rfl, p3, f3⟩
      have X3 := hid x3
      clear x3
      go_wp2_with fail
      go_ret
      exact ⟨ok3, a3, by unfold Pl.numP; rw [Pl.ifP_false X1.out, Pl.orP_false X2.out]; exact X3.out, rfl, p3, (f1.seq f2).seq f3⟩
    · go_wp2_with fail
      go_ret
      exact ⟨true, a2, by unfold Pl.numP; rw [Pl.ifP_false X1.out, Pl.orP_true X2.out], rfl, P2.out, f1.seq f2⟩
  · go_wp2_with fail
    refine (digits_any B s a1 _ hs P1.out).mono ?_
    rintro e w3 ⟨ok3, a3, x3, rfl, p3, f3⟩
    have X3 := hid x3
    clear x3
    go_wp2_with fail
    go_ret
    exact ⟨ok3, a3, by unfold Pl.numP; rw [Pl.ifP_true X1.out]; exact X3.out, rfl, p3, f1.seq f3⟩

end Go.Proofs.YtdinjjmcmfjbfaaDoor
