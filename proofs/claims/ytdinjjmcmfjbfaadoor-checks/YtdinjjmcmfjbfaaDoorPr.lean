/-
  Queries as they are read, on: a part that is finished, the next input, the first part.
-/
import Derived.Test.YtdinjjmcmfjbfaaDoorPq
namespace Go.Proofs.YtdinjjmcmfjbfaaDoor
open Go.RowKit
open Mo (V Row Opd Cmp Q)

section
variable {s : ByteArray} {w w' : World} {N : Nat} {X : Nat → Prop} {ov ov' : Value} {f g : Fq} {r : List Fq} {c : Nat} {ex : List Nat}
/-- A part with no brackets is finished. -/
def XT (X : Nat → Prop) (P : Nat) (lv : Value) (k : Nat) : Prop := X k ∨ k = P ∨ lv.ownBlock = some k
theorem QI.tab {P : Nat} {hd : Hd} {cs : List Nat} {lv : Value} (h : QI s w N X ov (f :: r) c [P]) (hn : NewP w N X (f :: r) P hd cs lv) (hk : hd.k = 1) :
    QI s w N (XT X P lv) ov (f :: r) c [P] ∧ Tr w (XT X P lv) P (mkQ hd cs []) := by
  have hF := Stk.frames h.stk
  refine ⟨⟨Stk.keep (Kept.refl No w) (fun _ _ => rfl) (fun _ e => .inl e) h.stk (fun _ _ => ⟨fun e => e, fun _ _ e => e, fun _ _ e => e⟩), ⟨h.sep.parts, h.sep.arrs, h.sep.lvs, fun g hg => ?_, fun b hb e => ?_⟩, h.list, h.len, fun j hj => ?_⟩, ?_⟩
  · have hgF := hF g hg
    have ho := h.sep.out g hg
    refine ⟨fun e => ?_, fun b hb e => ?_, fun b hb e => ?_⟩
    · rcases e with e | e | e
      · exact ho.1 e
      · exact hn.ne g hg e
      · exact not_cells tIP hn.cols hgF.1 e
    · rcases e with e | rfl | e
      · exact ho.2.1 b hb e
      · exact not_cells tPP hgF.2.2.2 hn.cell hb
      · exact no_share tIA hn.cols hgF.2.2.2 e hb
    · rcases e with e | rfl | e
      · exact ho.2.2 b hb e
      · exact not_cells tIP hgF.2.2.1 hn.cell hb
      · exact hn.lne g hg b e hb
  · rcases e with e | rfl | e
    · exact h.sep.ovout b hb e
    · exact not_cells tPP h.list hn.cell hb
    · exact no_share tIA hn.cols h.list e hb
  · rcases hj with hj | rfl | hj
    · exact h.own j hj
    · exact ⟨hn.base, lt_of_heap hn.cell⟩
    · exact ⟨own_base hn.cols j hj, owns_lt hn.cols j hj⟩
  · exact .zero hk ⟨.inr (.inl rfl), lv, sN, hn.cell, owns_weak hn.cols (Nat.zero_le _), World.ownsRow_nil _ _ _ _, fun b hb => .inr (.inr hb), fun b hb => by simp [Value.ownBlock] at hb⟩
/-- What belongs to a part that is finished. -/
def XP (X : Nat → Prop) (f : Fq) (k : Nat) : Prop := X k ∨ k = f.P ∨ f.lv.ownBlock = some k ∨ f.iv.ownBlock = some k
theorem FS.ends {fuel : Nat} {c' : Nat} {q : Q} (h : FS s fuel f c) (hr : Rq s fuel c c' q) (hb : Pl.bt s c' = 41) (hl : ¬ (f.qs.length + 1 < Pl.ins f.h.k)) :
    Rq s (fuel + 1) f.a (c' + 1) (mkQ f.h f.cs (f.qs ++ [q])) ∧ (f.qs = [] ∧ Pl.ins f.h.k = 1 ∨ (∃ q1, f.qs = [q1]) ∧ Pl.ins f.h.k = 2) := by
  obtain ⟨h1, h2, h3, h4, h5, h6⟩ := h
  rcases h6 with ⟨e, rfl, hi⟩ | ⟨q1, c1, e, hr1, hb1, rfl, hi⟩
  · have hi1 : Pl.ins f.h.k = 1 := by
      rw [e] at hl; simp at hl; rcases hi with hi | hi <;> omega
    refine ⟨?_, .inl ⟨e, hi1⟩⟩
    rw [e, h1, h2]
    exact .one (by rw [← h3]; exact hi1) h4 h5 hr hb
  · refine ⟨?_, .inr ⟨⟨q1, e⟩, hi⟩⟩
    rw [e, h1, h2]
    exact .two (by rw [← h3]; exact hi) h4 h5 hr1 hb1 hr hb
theorem QI.pop {p : Nat} {q : Q} (h : QI s w N X ov (f :: g :: r) c [p]) (ht : Tr w X p q) (hi : f.qs = [] ∧ Pl.ins f.h.k = 1 ∨ (∃ q1, f.qs = [q1]) ∧ Pl.ins f.h.k = 2)
    (ho : w.ownsRow N 33 1 ov' (g :: r).length (((g :: r).map (·.P)).reverse.map pV)) (he : ov'.ownBlock = ov.ownBlock) :
    QI s w N (XP X f) ov' (g :: r) f.a [f.P] ∧ Tr w (XP X f) f.P (mkQ f.h f.cs (f.qs ++ [q])) := by
  have hF := Stk.frames h.stk
  have hf := hF f (by simp)
  have harr := h.sep.arrs
  simp only [List.map_cons, List.pairwise_cons] at harr
  have hlv := h.sep.lvs
  rw [List.map_cons, List.pairwise_cons] at hlv
  have hnd := h.sep.parts
  rw [List.map_cons, List.nodup_cons] at hnd
  obtain ⟨hs1, hs2, ⟨dp, hdp, htr⟩, hs4⟩ := h.stk
  have mono : ∀ k, X k → XP X f k := fun _ e => .inl e
  have hT : ∀ {p' : Nat} {q' : Q}, Tr w X p' q' → Tr w (XP X f) p' q' := fun ht => ht.mono (fun _ _ => rfl) mono
  refine ⟨⟨Stk.keep (Kept.refl No w) (fun _ _ => rfl) mono hs4 (fun _ _ => ⟨fun e => e, fun _ _ e => e, fun _ _ e => e⟩), ⟨hnd.2, ?_, hlv.2, fun g' hg => ?_, fun b hb e => ?_⟩, ho, by have := h.len; simp only [List.length_cons] at this ⊢; omega, fun j hj => ?_⟩, ?_⟩
  · rw [he]
    simp only [List.map_cons, List.pairwise_cons]
    refine ⟨fun u hu => harr.1 u (List.mem_cons_of_mem _ (by simpa using hu)), ?_⟩
    have := harr.2.2
    simpa using this
  · have hgF := hF g' (List.mem_cons_of_mem _ hg)
    have ho' := h.sep.out g' (List.mem_cons_of_mem _ hg)
    refine ⟨fun e => ?_, fun b hb e => ?_, fun b hb e => ?_⟩
    · rcases e with e | e | e | e
      · exact ho'.1 e
      · exact hnd.1 (List.mem_map.2 ⟨g', hg, e⟩)
      · exact not_cells tIP hf.2.2.1 hgF.1 e
      · exact not_cells tPP hf.2.2.2 hgF.1 e
    · rcases e with e | rfl | e | e
      · exact ho'.2.1 b hb e
      · exact not_cells tPP hgF.2.2.2 hf.1 hb
      · exact no_share tIA hf.2.2.1 hgF.2.2.2 e hb
      · refine harr.2.1 (g'.iv.ownBlock) ?_ b e hb
        have : g'.iv.ownBlock ∈ (g :: r).map (·.iv.ownBlock) := List.mem_map.2 ⟨g', hg, rfl⟩
        simpa using this
    · rcases e with e | rfl | e | e
      · exact ho'.2.2 b hb e
      · exact not_cells tIP hgF.2.2.1 hf.1 hb
      · exact hlv.1 _ (List.mem_map.2 ⟨g', hg, rfl⟩) b e hb
      · exact no_share tIA hgF.2.2.1 hf.2.2.2 hb e
  · rw [he] at hb
    rcases e with e | rfl | e | e
    · exact h.sep.ovout b hb e
    · exact not_cells tPP h.list hf.1 hb
    · exact no_share tIA hf.2.2.1 h.list e hb
    · exact harr.1 _ (List.mem_cons_self ..) b hb e
  · rcases hj with hj | rfl | hj | hj
    · exact h.own j hj
    · exact ⟨hf.2.1, lt_of_heap hf.1⟩
    · exact ⟨own_base hf.2.2.1 j hj, owns_lt hf.2.2.1 j hj⟩
    · exact ⟨own_base hf.2.2.2 j hj, owns_lt hf.2.2.2 j hj⟩
  · have hN : NdAt w (XP X f) f.P f.h f.cs f.ps := ⟨.inr (.inl rfl), f.lv, f.iv, hf.1, owns_weak hf.2.2.1 (Nat.zero_le _), owns_weak hf.2.2.2 (Nat.zero_le _), fun b hb => .inr (.inr (.inl hb)), fun b hb => .inr (.inr (.inr hb))⟩
    rcases hi with ⟨e, hi1⟩ | ⟨⟨q1, e⟩, hi2⟩
    · rw [e] at htr ⊢
      have hl := htr.len
      obtain rfl : dp = [] := List.eq_nil_of_length_eq_zero (by simpa using hl)
      rw [hdp] at hN
      exact .one hi1 hN (hT ht)
    · rw [e] at htr ⊢
      cases htr with
      | cons h1 h2 =>
        cases h2
        rw [hdp] at hN
        exact .two hi2 hN (hT h1) (hT ht)
/-- The next input of the innermost open part. -/
theorem QI.comma {p c' : Nat} {q : Q} (h : QI s w N X ov (f :: g :: r) c [p]) (ht : Tr w X p q) (hr : Rq s (5 - r.length) c c' q) (hb : Pl.bt s c' = 44) (hl : f.qs.length + 1 < Pl.ins f.h.k) :
    QI s w N X ov ({ f with qs := f.qs ++ [q] } :: g :: r) (c' + 1) [] := by
  obtain ⟨hs1, hs2, ⟨dp, hdp, htr⟩, hs4⟩ := h.stk
  refine ⟨⟨hs1, ?_, ⟨dp ++ [p], by show f.ps = _; rw [hdp, List.append_nil], htr.snoc ht⟩, hs4⟩, ⟨h.sep.parts, h.sep.arrs, h.sep.lvs, fun g' hg => ?_, h.sep.ovout⟩, h.list, h.len, h.own⟩
  · obtain ⟨h1, h2, h3, h4, h5, h6⟩ := hs2
    rcases h6 with ⟨e, rfl, hi⟩ | ⟨q1, c1, e, hr1, hb1, rfl, hi⟩
    · refine ⟨h1, h2, h3, h4, h5, .inr ⟨q, c', by show f.qs ++ [q] = _; rw [e]; rfl, hr, hb, rfl, ?_⟩⟩
      rw [e] at hl
      rcases hi with hi | hi
      · simp at hl; omega
      · exact hi
    · rw [e] at hl; simp at hl; omega
  · rcases List.mem_cons.1 hg with rfl | hg
    · exact h.sep.out f (by simp)
    · exact h.sep.out g' (by simp [hg])
/-- At the start. -/
theorem QI.start (s : ByteArray) (w : World) : QI s ((w.alloc (.cells (partC ⟨0, [], 0, zO, zO, zO⟩ sN sN) 61)).alloc (.cells #[pV w.heap.size] 33)) w.heap.size (fun _ => False) (.slice (some ⟨w.heap.size + 1, 0, none⟩) 1 1)
    [⟨w.heap.size, ⟨0, [], 0, zO, zO, zO⟩, [], sN, sN, [], [], 0, 0⟩] 0 [] := by
  refine ⟨⟨⟨heap_alloc2_old _ _ _, Nat.le_refl _, World.ownsRow_nil _ _ _ _, World.ownsRow_nil _ _ _ _⟩, rfl, rfl, rfl, rfl⟩, ⟨by simp, ?_, by simp, fun f hf => ⟨fun e => e, fun _ _ e => e, fun _ _ e => e⟩, fun _ _ e => e⟩, ?_, by simp, fun _ e => e.elim⟩
  · simp only [List.map_cons, List.map_nil, List.pairwise_cons]
    refine ⟨fun u hu b _ => ?_, fun u hu => by simp at hu, List.Pairwise.nil⟩
    simp [Value.ownBlock] at hu; subst hu; simp
  · refine ⟨by simp, .inr ⟨w.heap.size + 1, 1, #[pV w.heap.size], rfl, by omega, ?_, ?_⟩⟩
    · exact heap_alloc2_new _ _ _
    · refine ⟨by simp, by decide, by simp, by simp⟩
end
end Go.Proofs.YtdinjjmcmfjbfaaDoor
