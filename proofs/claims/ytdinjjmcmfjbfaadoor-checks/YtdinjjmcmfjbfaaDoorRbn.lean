/-
  The document's reader of a number.
-/
import Derived.Test.YtdinjjmcmfjbfaaDoorRba
namespace Go.Proofs.YtdinjjmcmfjbfaaDoor
open Go.RowKit

set_option maxHeartbeats 2000000 in
theorem rnumber_any (B : Nat) (s : ByteArray) (a d e j : Nat) (pv : Value) (w : World) (hs : s.size ≤ 120) (h : RR B s a d e j pv w) :
    Calls Tryd.prog 26 #[.pointer (some ⟨B, 0, none⟩)] w fun en w' => ∃ n : Int, en = .returned (.int .i64 n) ∧ RQ B s d j pv w (Pl.bE (e, a) (Pl.lf (Pl.numP s))) w' := by
  have HH := hid h
  clear h
  go_enter Tryd.func26, Tryd.ntmps26
  go_wp2_with fail
  refine (has_any B s a d e j 45 45 pv _ hs (by omega) rfl HH.out).mono ?_
  rintro en w0 ⟨ok, a0, rfl, HS, ha0, p0, f0⟩
  have P0 := hid p0
  clear p0
  cases ok
  · have ha0 : a0 = a := ha0
    go_wp2_with fail
    refine (rnext_any B s a0 d e j 48 57 48 57 pv _ hs (by omega) (by omega) rfl rfl P0.out).mono ?_
    rintro en w1 ⟨v, rfl, hv1, hv2, hv3, e1, a1, x1, p1, f1⟩
    obtain ⟨n0, hn0⟩ : ∃ n0, v = n0 + 48 := ⟨v - 48, by omega⟩
    have HF : Hid (Pl.bE (e, a) (Pl.lf (Pl.numP s)) = (e1, Pl.fin s e1 n0 3 a1)) := by
      show _ = _
      have ha0' : a0 = a := ha0
      rw [ha0'] at x1 hv3
      have := Pl.num_plain (s := s) (a := a) (e := e) (v := v) (by rintro ⟨h1, h2⟩; have hsn := HS.out; unfold sn at hsn; simp at hsn; have := hsn h1; omega) x1 (fun h1 h2 => hv3 (by unfold sn; simp [h1, h2]))
      rw [show v - 48 = n0 by omega] at this; exact this
    subst hn0
    have hn9 : n0 ≤ 9 := by omega
    have P1 := hid p1
    have f01 := f0.seq f1
    clear p1 hv1 hv2 hv3 x1 f0 f1 P0 HS ha0
    go_wp2_with fail
    go_loopg [6, 7] 3 (fun k v6 v7 wr => ∃ c nn kk : Nat, kk + k = 4 ∧ 1 ≤ kk ∧ nn < 10 ^ kk ∧ v6 = .int .i64 (nn : Int) ∧ v7 = .int .i64 (kk : Int) ∧ Hid (RR B s c d e1 j pv wr) ∧ Fr B none w wr ∧ Hid (Pl.fin s e1 nn k c = Pl.fin s e1 n0 3 a1))
    case atStart => exact ⟨a1, n0, 1, rfl, Nat.le_refl _, by omega, by simp, rfl, P1, f01, rfl⟩
    case round =>
      obtain ⟨c, nn, kk, hkk, hk1, hnn, rfl, rfl, hp, hf, hF⟩ := hrel
      have hn4 : nn < 10000 := Nat.lt_of_lt_of_le hnn (Nat.le_trans (Nat.pow_le_pow_right (by omega) (show kk ≤ 4 by omega)) (by decide))
      have HN := hid hnn
      clear hnn
      by_cases hk : gk = 0
      · subst hk
        have hx : ¬ (kk : Int) < 4 := by omega
        have HE : Hid (Pl.fin s e1 nn 0 c = c) := by show _ = _; unfold Pl.fin; split <;> rfl
        go_wp2_with fail
        go_ret
        have HR : RQ B s d j pv w (Pl.bE (e, a) (Pl.lf (Pl.numP s))) wr := ⟨e1, c, by rw [HF.out, ← hF.out, HE.out], hp.out, hf⟩
        first | exact ⟨_, rfl, HR⟩ | exact ⟨⟨_, rfl⟩, HR⟩
      · obtain ⟨k, rfl⟩ : ∃ k, gk = k + 1 := ⟨gk - 1, by omega⟩
        have hx : (kk : Int) < 4 := by omega
        by_cases hz : nn = 0
        · have hz' : ¬ (0 : Int) < (nn : Int) := by omega
          have HE : Hid (Pl.fin s e1 nn (k + 1) c = c) := by show _ = _; unfold Pl.fin; rw [if_neg (by omega)]
          clear hz
          go_wp2_with fail
          go_ret
          have HR : RQ B s d j pv w (Pl.bE (e, a) (Pl.lf (Pl.numP s))) wr := ⟨e1, c, by rw [HF.out, ← hF.out, HE.out], hp.out, hf⟩
          first | exact ⟨_, rfl, HR⟩ | exact ⟨⟨_, rfl⟩, HR⟩
        · have hz' : (0 : Int) < (nn : Int) := by omega
          go_wp2_with fail
          refine (sees_any B s c d e1 j 48 57 48 57 pv _ hs (by omega) rfl rfl hp.out).mono ?_
          rintro en w2 ⟨rfl, p2, f2⟩
          have P2 := hid p2
          clear p2
          cases hsn : sn s e1 48 57 c
          · have HE : Hid (Pl.fin s e1 nn (k + 1) c = c) := by
              show _ = _
              unfold Pl.fin; split
              · rename_i hh; obtain ⟨rfl, _⟩ := hh; exact Pl.many_out (by unfold sn at hsn; simpa using hsn)
              · rfl
            clear hsn hz
            go_wp2_with fail
            go_ret
            have HR : RQ B s d j pv w (Pl.bE (e, a) (Pl.lf (Pl.numP s))) w2 := ⟨e1, c, by rw [HF.out, ← hF.out, HE.out], P2.out, hf.seq f2⟩
            first | exact ⟨_, rfl, HR⟩ | exact ⟨⟨_, rfl⟩, HR⟩
          · obtain rfl : e1 = 0 := sn_zero hsn
            have hb := sn_bt hsn
            have hl := Pl.bt_lt (s := s) (a := c) (by omega)
            have HE : Hid (Pl.bE (0, c) (Pl.lf (Pl.dig s)) = (0, c + 1)) := by show _ = _; rw [Pl.bE_zero, ← Pl.rng_dig, Pl.lf_true (Pl.rng_in hb)]
            have hF2 : Hid (∀ dd, Pl.fin s 0 (10 * nn + dd) k (c + 1) = Pl.fin s 0 n0 3 a1) := by
              show ∀ dd, _ = _
              intro dd; rw [← hF.out]; unfold Pl.fin; rw [if_pos (by omega), if_pos (by omega), Pl.many_in hb]
            clear hsn hz hb
            go_wp2_with fail
            refine (rdigit_any B s c d 0 j pv _ hs P2.out).mono ?_
            rintro en w3 ⟨dd, rfl, hdd, e3, a3, x3, p3, f3⟩
            rw [HE.out] at x3
            injection x3 with x3 x4
            subst x3 x4
            have P3 := hid p3
            clear p3
            go_wp2_with fail
            go_roundg k
            case measure => omega
            case rel => exact ⟨c + 1, 10 * nn + dd, kk + 1, by omega, by omega, by have := HN.out; rw [Nat.pow_succ]; omega, by go_num, by go_num, P3, (hf.seq f2).seq f3, hF2.out dd⟩
  · have ha0 : a0 = a + 1 := ha0
    go_wp2_with fail
    refine (rnext_any B s a0 d e j 49 57 49 57 pv _ hs (by omega) (by omega) rfl rfl P0.out).mono ?_
    rintro en w1 ⟨v, rfl, hv1, hv2, hv3, e1, a1, x1, p1, f1⟩
    obtain ⟨n0, hn0⟩ : ∃ n0, v = n0 + 48 := ⟨v - 48, by omega⟩
    have HF : Hid (Pl.bE (e, a) (Pl.lf (Pl.numP s)) = (e1, Pl.fin s e1 n0 3 a1)) := by
      show _ = _
      have hsn := HS.out
      obtain rfl : e = 0 := sn_zero hsn
      have hb := sn_bt hsn
      have ha0' : a0 = a + 1 := ha0
      rw [ha0'] at x1
      have := Pl.num_minus (s := s) (a := a) (v := v) (by omega) x1 hv1
      rw [show v - 48 = n0 by omega] at this; exact this
    subst hn0
    have hn9 : n0 ≤ 9 := by omega
    have P1 := hid p1
    have f01 := f0.seq f1
    clear p1 hv1 hv2 hv3 x1 f0 f1 P0 HS ha0
    go_wp2_with fail
    go_loopg [6, 7] 3 (fun k v6 v7 wr => ∃ c nn kk : Nat, kk + k = 4 ∧ 1 ≤ kk ∧ nn < 10 ^ kk ∧ v6 = .int .i64 (nn : Int) ∧ v7 = .int .i64 (kk : Int) ∧ Hid (RR B s c d e1 j pv wr) ∧ Fr B none w wr ∧ Hid (Pl.fin s e1 nn k c = Pl.fin s e1 n0 3 a1))
    case atStart => exact ⟨a1, n0, 1, rfl, Nat.le_refl _, by omega, by simp, rfl, P1, f01, rfl⟩
    case round =>
      obtain ⟨c, nn, kk, hkk, hk1, hnn, rfl, rfl, hp, hf, hF⟩ := hrel
      have hn4 : nn < 10000 := Nat.lt_of_lt_of_le hnn (Nat.le_trans (Nat.pow_le_pow_right (by omega) (show kk ≤ 4 by omega)) (by decide))
      have HN := hid hnn
      clear hnn
      by_cases hk : gk = 0
      · subst hk
        have hx : ¬ (kk : Int) < 4 := by omega
        have HE : Hid (Pl.fin s e1 nn 0 c = c) := by show _ = _; unfold Pl.fin; split <;> rfl
        go_wp2_with fail
        go_ret
        have HR : RQ B s d j pv w (Pl.bE (e, a) (Pl.lf (Pl.numP s))) wr := ⟨e1, c, by rw [HF.out, ← hF.out, HE.out], hp.out, hf⟩
        first | exact ⟨_, rfl, HR⟩ | exact ⟨⟨_, rfl⟩, HR⟩
      · obtain ⟨k, rfl⟩ : ∃ k, gk = k + 1 := ⟨gk - 1, by omega⟩
        have hx : (kk : Int) < 4 := by omega
        by_cases hz : nn = 0
        · have hz' : ¬ (0 : Int) < (nn : Int) := by omega
          have HE : Hid (Pl.fin s e1 nn (k + 1) c = c) := by show _ = _; unfold Pl.fin; rw [if_neg (by omega)]
          clear hz
          go_wp2_with fail
          go_ret
          have HR : RQ B s d j pv w (Pl.bE (e, a) (Pl.lf (Pl.numP s))) wr := ⟨e1, c, by rw [HF.out, ← hF.out, HE.out], hp.out, hf⟩
          first | exact ⟨_, rfl, HR⟩ | exact ⟨⟨_, rfl⟩, HR⟩
        · have hz' : (0 : Int) < (nn : Int) := by omega
          go_wp2_with fail
          refine (sees_any B s c d e1 j 48 57 48 57 pv _ hs (by omega) rfl rfl hp.out).mono ?_
          rintro en w2 ⟨rfl, p2, f2⟩
          have P2 := hid p2
          clear p2
          cases hsn : sn s e1 48 57 c
          · have HE : Hid (Pl.fin s e1 nn (k + 1) c = c) := by
              show _ = _
              unfold Pl.fin; split
              · rename_i hh; obtain ⟨rfl, _⟩ := hh; exact Pl.many_out (by unfold sn at hsn; simpa using hsn)
              · rfl
            clear hsn hz
            go_wp2_with fail
            go_ret
            have HR : RQ B s d j pv w (Pl.bE (e, a) (Pl.lf (Pl.numP s))) w2 := ⟨e1, c, by rw [HF.out, ← hF.out, HE.out], P2.out, hf.seq f2⟩
            first | exact ⟨_, rfl, HR⟩ | exact ⟨⟨_, rfl⟩, HR⟩
          · obtain rfl : e1 = 0 := sn_zero hsn
            have hb := sn_bt hsn
            have hl := Pl.bt_lt (s := s) (a := c) (by omega)
            have HE : Hid (Pl.bE (0, c) (Pl.lf (Pl.dig s)) = (0, c + 1)) := by show _ = _; rw [Pl.bE_zero, ← Pl.rng_dig, Pl.lf_true (Pl.rng_in hb)]
            have hF2 : Hid (∀ dd, Pl.fin s 0 (10 * nn + dd) k (c + 1) = Pl.fin s 0 n0 3 a1) := by
              show ∀ dd, _ = _
              intro dd; rw [← hF.out]; unfold Pl.fin; rw [if_pos (by omega), if_pos (by omega), Pl.many_in hb]
            clear hsn hz hb
            go_wp2_with fail
            refine (rdigit_any B s c d 0 j pv _ hs P2.out).mono ?_
            rintro en w3 ⟨dd, rfl, hdd, e3, a3, x3, p3, f3⟩
            rw [HE.out] at x3
            injection x3 with x3 x4
            subst x3 x4
            have P3 := hid p3
            clear p3
            go_wp2_with fail
            go_roundg k
            case measure => omega
            case rel => exact ⟨c + 1, 10 * nn + dd, kk + 1, by omega, by omega, by have := HN.out; rw [Nat.pow_succ]; omega, by go_num, by go_num, P3, (hf.seq f2).seq f3, hF2.out dd⟩
end Go.Proofs.YtdinjjmcmfjbfaaDoor
