/-
  The program's reader of a list of columns.
-/
import Derived.Test.YtdinjjmcmfjbfaaDoorRh
import Derived.Deep.AppendLies
import Derived.Deep.LoopGhost
namespace Go.Proofs.YtdinjjmcmfjbfaaDoor
open Go.RowKit
open Mo (V Row)

def colsV (s : ByteArray) : Nat → Nat → List Nat
  | 0, a => [dgN s a]
  | k + 1, a => dgN s a :: (if Pl.bt s (a + 1) = 44 then colsV s k (a + 2) else [])
def ints (l : List Nat) : List Value := l.map fun (n : Nat) => Value.int .i64 (n : Int)
theorem infoI : (Tryd.prog.info? 3).map (fun i => (i.zero, i.size, i.bytes)) = some (some (.int .i64 0), 1, 8) := by kernel_rfl
def ColsEnd (B P : Nat) (s : ByteArray) (w : World) (t : TypeId) (c : Array Value) (o a : Nat) (e : Ending) (w' : World) : Prop :=
  ∃ ok a' d, Pl.colsP s 5 a = (ok, a') ∧ e = .returned (.bool ok) ∧ RP B s a' w' ∧ Kept (fun k => k = B ∨ k = P) w w' ∧ w'.heap[P]? = some (.cells d t (0, 0)) ∧ d.size = c.size ∧
    (ok = true → ∃ lv, d = c.setIfInBounds o lv ∧ w'.ownsRow w.heap.size 3 1 lv (colsV s 5 a).length (ints (colsV s 5 a)))
theorem dig_at {s : ByteArray} {a a' : Nat} (h : Pl.dig s a = (true, a')) : a' = a + 1 := by
  unfold Pl.dig Pl.sev at h
  injection h with h1 h2
  have h3 : a < Pl.many s 48 57 1 a := by simpa using h1
  have h4 := many_bound s 48 57 1 a
  omega
theorem ownsRow_kept {S : Nat → Prop} {w w' : World} {base : Nat} {e : TypeId} {size : Nat} {v : Value} {n : Nat} {xs : List Value} (h : w.ownsRow base e size v n xs) (k : Kept S w w') (hS : ∀ b, v.ownBlock = some b → ¬ S b) : w'.ownsRow base e size v n xs := by
  refine ⟨h.1, ?_⟩
  rcases h.2 with hn | ⟨g, cap, cur, rfl, hb, hg, hrest⟩
  · exact .inl hn
  · exact .inr ⟨g, cap, cur, rfl, hb, (k.block g (lt_of_heap hg) (hS g rfl)).trans hg, hrest⟩
theorem own_base {w : World} {base : Nat} {e : TypeId} {size n : Nat} {v : Value} {xs : List Value} (h : w.ownsRow base e size v n xs) : ∀ r, v.ownBlock = some r → base ≤ r := by
  rcases h.2 with ⟨rfl, _⟩ | ⟨g, cap, cur, rfl, hb, _⟩
  · intro r hr; simp [Value.ownBlock] at hr
  · intro r hr; simp [Value.ownBlock] at hr; omega
theorem own_is {w : World} {base : Nat} {e : TypeId} {size n : Nat} {v : Value} {xs : List Value} (h : w.ownsRow base e size v n xs) : ∀ r, v.ownBlock = some r → Is e w r := by
  rcases h.2 with ⟨rfl, _⟩ | ⟨g, cap, cur, rfl, hb, hg, _⟩
  · intro r hr; simp [Value.ownBlock] at hr
  · intro r hr; simp [Value.ownBlock] at hr; subst hr; exact ⟨_, _, hg⟩
theorem Is.ne {t u : TypeId} {w : World} {b : Nat} {c : Array Value} {z : Nat × Nat} (h : Is t w b) (hb : w.heap[b]? = some (.cells c u z)) : t = u := by
  obtain ⟨c', z', h'⟩ := h; rw [h'] at hb; injection hb with hb; injection hb

set_option maxRecDepth 100000 in
set_option maxHeartbeats 4000000 in
theorem columns_any (B P o : Nat) (s : ByteArray) (a : Nat) (c : Array Value) (t : TypeId) (w : World) (hs : s.size ≤ 1000) (hne : P ≠ B) (ht : t ≠ 3) (h : RP B s a w) (hP : w.heap[P]? = some (.cells c t (0, 0))) (hoff : o < c.size) (hnil : c[o]? = some (.slice none 0 0)) :
    Calls Tryd.prog 34 #[.pointer (some ⟨B, 0, none⟩), .pointer (some ⟨P, o, none⟩)] w (ColsEnd B P s w t c o a) := by
  have HH := hid h
  have HP := hid hP
  have hPl := lt_of_heap hP
  have hBl := lt_of_heap h.2
  have HN := hid hnil
  obtain ⟨i0, hi0, hz0, hz1, hz2⟩ := info_parts infoI
  clear h hP hnil
  go_enter Tryd.func34, Tryd.ntmps34
  go_wp2_with fail
  go_loopg [] 5 (fun k wr => ∃ (cs : List Nat) (c1 : Nat) (lv : Value) (dv : Int), cs.length + k = 5 ∧ Hid (RP B s c1 wr) ∧ Hid (wr.heap[P]? = some (.cells (c.setIfInBounds o lv) t (0, 0))) ∧ Hid (wr.heap[w.heap.size]? = some (.cells #[.int .i64 dv] 3 (0, 0))) ∧ Hid (wr.ownsRow (w.heap.size + 1) 3 1 lv cs.length (ints cs)) ∧ Hid (Kept (fun k => k = B ∨ k = P) w wr) ∧ Hid (Pl.colsP s k c1 = Pl.colsP s 5 a) ∧ Hid (cs ++ colsV s k c1 = colsV s 5 a))
  case atStart =>
    refine ⟨[], a, .slice none 0 0, 0, rfl, ⟨HH.out.1, (Below.heap_alloc _ _ _ hBl).trans HH.out.2⟩, ?_, heap_alloc_last w _, hid (World.ownsRow_nil _ _ _ _), hid ((Kept.refl _ _).alloc _), hid rfl, hid rfl⟩
    show _ = _
    rw [Below.heap_alloc _ _ _ hPl, HP.out]
    congr 2
    refine Array.ext_getElem? fun i => ?_
    rw [Array.getElem?_setIfInBounds]
    by_cases hi : o = i
    · subst hi; rw [if_pos rfl, if_pos hoff, HN.out]
    · rw [if_neg hi]
  case round =>
    obtain ⟨cs, c1, lv, dv, hck, hp, hP1, hD1, hO1, hK1, hE1, hV1⟩ := hrel
    have hPl1 := lt_of_heap hP1.out
    have hDl1 := lt_of_heap hD1.out
    have hPw : P ≠ w.heap.size := by omega
    have hBw : B ≠ w.heap.size := by omega
    go_wp2_with fail
    refine (column_any B w.heap.size 0 s c1 #[.int .i64 dv] 3 _ hs (fun e => hBw e.symm) hp.out hD1.out (by simp)).mono ?_
    rintro e w2 ⟨ok2, a2, d2, x2, rfl, p2, k2, c2, hd2, he2⟩
    have P2 := hid p2
    have X2 := hid x2
    have hP2 : Hid (w2.heap[P]? = some (.cells (c.setIfInBounds o lv) t (0, 0))) := (k2.block P hPl1 (by omega)).trans hP1.out
    have hK2 : Hid (Kept (fun k => k = B ∨ k = P) w w2) := hK1.out.trans k2 (fun _ e => e) (fun i hi e => by rcases e with e | e; exact .inl e; omega)
    cases ok2
    · clear p2 x2 k2 c2 hd2 he2
      go_wp2_with fail
      go_ret
      refine ⟨false, a2, _, ?_, rfl, P2.out, hK2.out, hP2.out, by simp, by simp⟩
      rw [← hE1.out]
      cases gk with
      | zero => show Pl.andP _ _ _ = _; rw [Pl.andP_false X2.out]
      | succ k => show Pl.andP _ _ _ = _; rw [Pl.andP_false X2.out]
    · obtain rfl := dig_at x2
      have hO2 : w2.ownsRow (w.heap.size + 1) 3 1 lv cs.length (ints cs) := ownsRow_kept hO1.out k2 (fun b hb z => by
        have h1 := own_base hO1.out b hb
        rcases z with rfl | rfl
        · omega
        · omega)
      have hc2 : w2.heap[w.heap.size]? = some (.cells #[.int .i64 (dgN s c1 : Nat)] 3 (0, 0)) := by rw [c2, he2 rfl]; rfl
      have d0 : w2.cell? ⟨w.heap.size, 0, none⟩ = some (.int .i64 (dgN s c1 : Nat)) := by rw [cell_of hc2]; rfl
      have q5 : w2.cell? ⟨P, o, none⟩ = some lv := by rw [cell_of hP2.out, Array.getElem?_setIfInBounds, if_pos rfl, if_pos hoff]
      have z5 : w2.frozen? ⟨P, o, none⟩ = false := frozen_of hP2.out _
      have hPl2 : P < w2.heap.size := lt_of_heap hP2.out
      have hBl2 : B < w2.heap.size := lt_of_heap p2.2
      have hwl2 : w.heap.size < w2.heap.size := lt_of_heap hc2
      have hc2s := hid hc2
      have HO2 := hid hO2
      have zA : ∀ ob, (w2.alloc ob).frozen? ⟨P, o, none⟩ = false := fun ob => (World.frozen?_alloc_past _ _ _ hPl2).trans z5
      have hPo : some P ≠ lv.ownBlock := fun x => by have := own_is hO2 P x.symm; exact ht (this.ne hP2.out).symm
      have hBo : some B ≠ lv.ownBlock := fun x => by have := own_is hO2 B x.symm; have := this.ne p2.2; exact absurd this (by decide)
      have hDo : some w.heap.size ≠ lv.ownBlock := fun x => by have := own_base hO2 _ x.symm; omega
      have HPo := hid hPo
      have HBo := hid hBo
      have HDo := hid hDo
      generalize hdn : dgN s c1 = dn at *
      have HDN := hid hdn
      clear p2 x2 k2 c2 hd2 he2 hO2 hc2 hdn hBo hDo
      go_wp2_with fail
      go_region_law
        ((refine step_append_lies _ (by rfl) _ _ _ (by rfl) (w.heap.size + 1) 3 i0 _ 1 8 Tryd.underlying58 hi0 hz0 hz1 hz2 rfl (by omega) lv cs.length (ints cs) (by rfl) ((HO2.out.alloc _).drew)
            ⟨w2.heap.size, 0, none⟩ 1 1 [.int .i64 (dn : Int)] (by rfl) (by rfl) (World.news_of_block (cs := #[.int .i64 (dn : Int)]) (t := 3) (fr := (0, 0)) (heap_alloc_last w2 _)) (by intro u hu; simp at hu; subst hu; rfl)
            (by omega) (by unfold maxLen; omega) (by omega) (by simp; omega) (w2.heap.size + 1) (by simp) ?_; intro gg cap w3 hown3 hgrow hat hlt; have s5 : w3.cell? ⟨P, o, none⟩ = some lv := (hgrow.cell_far _ (by simp; omega) hPo).trans ((World.cell?_alloc_past _ _ _ hPl2).trans q5); have f5 : w3.frozen? ⟨P, o, none⟩ = false := (hgrow.frozen_far _ (by simp; omega) hPo).trans (zA _)))
      all_goals
        have hkg : Kept (fun k => lv.ownBlock = some k) w2 w3 := ((((Kept.refl (fun k => lv.ownBlock = some k) w2).alloc _).drew).grown hgrow (fun r hr => .inr hr))
        have hP3 : w3.heap[P]? = some (.cells (c.setIfInBounds o lv) t (0, 0)) := (hkg.block P hPl2 (fun e => HPo.out e.symm)).trans hP2.out
        have hR3 : RP B s (c1 + 1) w3 := ⟨P2.out.1, (hkg.block B hBl2 (fun e => HBo.out e.symm)).trans P2.out.2⟩
        have hD3 : w3.heap[w.heap.size]? = some (.cells #[.int .i64 (dn : Int)] 3 (0, 0)) := (hkg.block _ hwl2 (fun e => HDo.out e.symm)).trans hc2s.out
        have hK3 : Kept (fun k => k = B ∨ k = P) w w3 := hK2.out.trans hkg (fun _ e => e) (fun i hi e => by have := own_base HO2.out i e; omega)
        have hgb : w.heap.size + 1 ≤ gg := by rcases hat with hat | hat; exact own_base HO2.out gg hat; omega
        have hgP : gg ≠ P := fun e => by subst e; have := own_is hown3 gg rfl; exact ht (this.ne hP3).symm
        obtain ⟨W4, hW4⟩ : ∃ W4, w3.setCell ⟨P, o, none⟩ (.slice (some ⟨gg, 0, none⟩) (cs.length + 1) cap) = W4 := ⟨_, rfl⟩
        have hk4 : Kept (· = P) w3 W4 := by rw [← hW4]; exact (Kept.refl (· = P) w3).setCell (g := P) (.inr rfl) _
        have hP4 : Hid (W4.heap[P]? = some (.cells (c.setIfInBounds o (.slice (some ⟨gg, 0, none⟩) (cs.length + 1) cap)) t (0, 0))) := by
          show _ = _
          rw [← hW4, heap_set hP3]
          congr 2
          simp
        have hR4 : Hid (RP B s (c1 + 1) W4) := ⟨hR3.1, (hk4.block B (lt_of_heap hR3.2) (fun e => hne e.symm)).trans hR3.2⟩
        have hD4 : Hid (W4.heap[w.heap.size]? = some (.cells #[.int .i64 (dn : Int)] 3 (0, 0))) := (hk4.block _ (lt_of_heap hD3) (fun e => hPw e.symm)).trans hD3
        have hO4 : Hid (W4.ownsRow (w.heap.size + 1) 3 1 (.slice (some ⟨gg, 0, none⟩) (cs.length + 1) cap) (cs ++ [dn]).length (ints (cs ++ [dn]))) := by
          have h1 := ownsRow_kept hown3 hk4 (fun b hb => by simp [Value.ownBlock] at hb; omega)
          have e1 : ints (cs ++ [dn]) = ints cs ++ [.int .i64 (dn : Int)] := by simp [ints]
          show W4.ownsRow _ _ _ _ _ _
          rw [e1, List.length_append]; exact h1
        have hK4 : Hid (Kept (fun k => k = B ∨ k = P) w W4) := hK3.seq (hk4.mono (fun _ _ e => .inr e))
        have s6 : W4.cell? ⟨P, o, none⟩ = some (.slice (some ⟨gg, 0, none⟩) (cs.length + 1) cap) := by rw [cell_of hP4.out, Array.getElem?_setIfInBounds, if_pos rfl, if_pos hoff]
        have hPl4 : P < W4.heap.size := lt_of_heap hP4.out
        rw [hW4]
        clear s5 f5 hat hlt hgrow hown3 hkg hP3 hR3 hD3 hK3 hgb hgP hW4 hk4 q5 z5 zA hPo d0 HPo HBo HDo hc2s HO2 hP2 hK2 P2
        cases gk with
        | zero =>
          have hl5 : cs.length = 5 := by omega
          have hl6 : ((cs.length : Int) + 1 == 6) = true := by simp; omega
          have HL5 := hid hl5
          clear hl5
          go_wp2_with fail
          refine (take_any B s (c1 + 1) 93 93 _ hs (by omega) rfl hR4.out).mono ?_
          rintro e w5 ⟨ok5, a5, x5, rfl, p5, f5⟩
          have X5 := hid x5
          have P5 := hid p5
          have hP5 := hid ((f5.block P hPl4 hne).trans hP4.out)
          have hK5 : Hid (Kept (fun k => k = B ∨ k = P) w w5) := hK4.out.seq (f5.mono (fun _ _ e => .inl e))
          have hO5 := hid (ownsRow_kept hO4.out f5 (fun b hb z => by have := own_base hO4.out b hb; omega))
          clear x5 p5 f5
          go_wp2_with fail
          go_ret
          have hcv : cs ++ [dn] = colsV s 5 a := by rw [← hV1.out]; show _ = cs ++ [dgN s c1]; rw [HDN.out]
          refine ⟨ok5, a5, _, ?_, rfl, P5.out, hK5.out, hP5.out, by simp, fun _ => ⟨_, rfl, ?_⟩⟩
          · rw [← hE1.out]; show Pl.andP _ _ _ = _; rw [Pl.andP_true X2.out]; exact X5.out
          · rw [← hcv]; exact ⟨hO5.out.1, hO5.out.2.imp id (fun ⟨g, cp, cu, h1, h2, h3⟩ => ⟨g, cp, cu, h1, by omega, h3⟩)⟩
        | succ k =>
          have hl6 : ((cs.length : Int) + 1 == 6) = false := by simp; omega
          go_wp2_with fail
          refine (take_any B s (c1 + 1) 44 44 _ hs (by omega) rfl hR4.out).mono ?_
          rintro e w5 ⟨ok5, a5, x5, rfl, p5, f5⟩
          have X5 := hid x5
          have P5 := hid p5
          have hP5 := hid ((f5.block P hPl4 hne).trans hP4.out)
          have hPl5 : P < w5.heap.size := lt_of_heap hP5.out
          have hD5 := hid ((f5.block _ (lt_of_heap hD4.out) (fun e => hBw e.symm)).trans hD4.out)
          have hK5 : Hid (Kept (fun k => k = B ∨ k = P) w w5) := hK4.out.seq (f5.mono (fun _ _ e => .inl e))
          have hO5 := hid (ownsRow_kept hO4.out f5 (fun b hb z => by have := own_base hO4.out b hb; omega))
          rcases tk_at x5 with ⟨rfl, hb5, rfl⟩ | ⟨rfl, hb5, rfl⟩
          · have HCV : Hid ((cs ++ [dn]) ++ colsV s k (c1 + 1 + 1) = colsV s 5 a) := by
              show _ = _
              rw [← hV1.out, colsV, if_pos hb5, HDN.out]; simp
            have HEV : Hid (Pl.colsP s k (c1 + 1 + 1) = Pl.colsP s 5 a) := by
              show _ = _
              rw [← hE1.out]; show _ = Pl.andP _ _ _; rw [Pl.andP_true X2.out, Pl.ifP_true X5.out]
            clear x5 p5 f5 hb5
            go_wp2_with fail
            go_roundg k
            case measure => omega
            case rel => exact ⟨cs ++ [dn], c1 + 1 + 1, _, dn, by simp; omega, P5, hP5, hD5, hO5, hK5, HEV, HCV⟩
          · have HCV : Hid (cs ++ [dn] = colsV s 5 a) := by
              show _ = _
              rw [← hV1.out, colsV, if_neg hb5, HDN.out]
            clear x5 p5 f5 hb5
            go_wp2_with fail
            refine (take_any B s (c1 + 1) 93 93 _ hs (by omega) rfl P5.out).mono ?_
            rintro e w7 ⟨ok7, a7, x7, rfl, p7, f7⟩
            have X7 := hid x7
            have P7 := hid p7
            have hP7 := hid ((f7.block P hPl5 hne).trans hP5.out)
            have hK7 : Hid (Kept (fun k => k = B ∨ k = P) w w7) := hK5.out.seq (f7.mono (fun _ _ e => .inl e))
            have hO7 := hid (ownsRow_kept hO5.out f7 (fun b hb z => by have := own_base hO5.out b hb; omega))
            clear x7 p7 f7
            go_wp2_with fail
            go_ret
            refine ⟨ok7, a7, _, ?_, rfl, P7.out, hK7.out, hP7.out, by simp, fun _ => ⟨_, rfl, ?_⟩⟩
            · rw [← hE1.out]; show Pl.andP _ _ _ = _; rw [Pl.andP_true X2.out, Pl.ifP_false X5.out]; exact X7.out
            · rw [← HCV.out]; exact ⟨hO7.out.1, hO7.out.2.imp id (fun ⟨g, cp, cu, h1, h2, h3⟩ => ⟨g, cp, cu, h1, by omega, h3⟩)⟩
end Go.Proofs.YtdinjjmcmfjbfaaDoor
