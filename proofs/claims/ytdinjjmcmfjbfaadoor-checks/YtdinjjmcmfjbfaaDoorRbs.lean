/-
  The state of the document's reader in the midst of a query: the reader, the part under way, the parts that are done, and what memory has turned.
-/
import Derived.Test.YtdinjjmcmfjbfaaDoorRbl
import Derived.Test.YtdinjjmcmfjbfaaDoorPlain
namespace Go.Proofs.YtdinjjmcmfjbfaaDoor
open Go.RowKit

structure ST (B : Nat) (s : ByteArray) (d j : Nat) (pv0 pv : Value) (m : Nat) (w0 : World) (vb : Int) (e a : Nat) (w : World) : Prop where
  rr : RR B s a d e j pv w
  pb : PB w0.heap.size vb w
  po : PO B pv m w
  fr : Fr B pv0.ownBlock w0 w
  hr : pv.ownBlock = pv0.ownBlock ∨ ∀ k, pv.ownBlock = some k → w0.heap.size < k
  lt : B < w0.heap.size
  far : some w0.heap.size ≠ pv0.ownBlock
section
variable {B : Nat} {s : ByteArray} {d j : Nat} {pv0 pv : Value} {m : Nat} {w0 : World} {vb : Int} {e a : Nat} {w : World}
theorem ST.far' (h : ST B s d j pv0 pv m w0 vb e a w) : some w0.heap.size ≠ pv.ownBlock := by
  rcases h.hr with hr | hr
  · rw [hr]; exact h.far
  · intro x; have := hr _ x.symm; omega
theorem ST.farB (h : ST B s d j pv0 pv m w0 vb e a w) : some B ≠ pv.ownBlock := fun x => by have := (h.po.lt B x.symm).1; omega
theorem ST.next {d' j' e' a' : Nat} {w' : World} (h : ST B s d j pv0 pv m w0 vb e a w) (p : RR B s a' d' e' j' pv w') (f : Fr B none w w') : ST B s d' j' pv0 pv m w0 vb e' a' w' :=
  ⟨p, h.pb.frame f (by have := h.lt; omega) (by simp), h.po.frame f rfl, h.fr.seq f, h.hr, h.lt, h.far⟩
theorem ST.set {i : Nat} {v : Value} (h : ST B s d j pv0 pv m w0 vb e a w) (hi : 0 < i) (hv : v.oneCell' = true) : ST B s d j pv0 pv m w0 vb e a (w.setCell ⟨w0.heap.size, i, none⟩ v) :=
  ⟨⟨h.rr.1, (Below.heap_setCell _ _ _ _ (by show B ≠ w0.heap.size; have := h.lt; omega)).trans h.rr.2⟩, h.pb.set hi hv, h.po.other h.far' _, h.fr.setNew (Nat.le_refl _) _, h.hr, h.lt, h.far⟩
theorem ST.setVerb (h : ST B s d j pv0 pv m w0 vb e a w) (vc : Int) : ST B s d j pv0 pv m w0 vc e a (w.setCell ⟨w0.heap.size, 0, none⟩ (.int .u8 vc)) :=
  ⟨⟨h.rr.1, (Below.heap_setCell _ _ _ _ (by show B ≠ w0.heap.size; have := h.lt; omega)).trans h.rr.2⟩, h.pb.setVerb vc, h.po.other h.far' _, h.fr.setNew (Nat.le_refl _) _, h.hr, h.lt, h.far⟩
theorem ST.setJ (h : ST B s d j pv0 pv m w0 vb e a w) (j' : Nat) : ST B s d j' pv0 pv m w0 vb e a (w.setCell ⟨B, 4, none⟩ (.int .i64 (j' : Int))) :=
  ⟨h.rr.setJ j', h.pb.other (by have := h.lt; omega) _, h.po.other h.farB _, h.fr.setCell _ _, h.hr, h.lt, h.far⟩
theorem ST.setD (h : ST B s d j pv0 pv m w0 vb e a w) (d' : Nat) : ST B s d' j pv0 pv m w0 vb e a (w.setCell ⟨B, 2, none⟩ (.int .i64 (d' : Int))) :=
  ⟨h.rr.setD d', h.pb.other (by have := h.lt; omega) _, h.po.other h.farB _, h.fr.setCell _ _, h.hr, h.lt, h.far⟩
theorem ST.query {d' j' m' e' a' : Nat} {pv' : Value} {w' : World} (h : ST B s d j pv0 pv m w0 vb e a w) (p : RR B s a' d' e' j' pv' w') (o : PO B pv' m' w') (f : Fr B pv.ownBlock w w') (hr' : pv'.ownBlock = pv.ownBlock ∨ ∀ k, pv'.ownBlock = some k → w.heap.size ≤ k) :
    ST B s d' j' pv0 pv' m' w0 vb e' a' w' := by
  have hl := h.pb.lt
  refine ⟨p, h.pb.frame f (by have := h.lt; omega) h.far', o, h.fr.trans f ?_, ?_, h.lt, h.far⟩
  · rcases h.hr with hr | hr
    · exact .inr (.inl hr)
    · exact .inr (.inr fun x hx => by have := hr x hx; omega)
  · rcases hr' with hr' | hr'
    · rw [hr']; exact h.hr
    · exact .inr fun k hk => by have := hr' k hk; omega
/-- At the beginning: the part has been laid. -/
theorem ST.start {K : Array Value} (hrr : RR B s a d e j pv w0) (hpo : PO B pv m w0) (hK : K.size = 12) (hv : K[0]? = some (.int .u8 0)) (h1 : ∀ (i : Nat) (v : Value), K[i]? = some v → v.oneCell' = true) :
    ST B s d j pv pv m w0 0 e a (w0.alloc (.cells K 72)) :=
  ⟨hrr.alloc _, ⟨K, heap_alloc_new w0 _, hK, hv, h1⟩, hpo.alloc _, (Fr.refl _ _ _).alloc _, .inl rfl, lt_of_heap hrr.2, fun x => by have := (hpo.lt _ x.symm).2; omega⟩
end
theorem ones : ∀ (i : Nat) (v : Value), (#[.int .u8 0, .string ⟨#[]⟩, .slice none 0 0, .int .u8 0, .int .u8 0, .bool false, .int .i64 0, .string ⟨#[]⟩, .int .i64 0, .int .i64 (-1), .int .i64 (-1), .int .i64 0] : Array Value)[i]? = some v → v.oneCell' = true := by
  intro i v hv
  match i, hv with
  | 0, hv | 1, hv | 2, hv | 3, hv | 4, hv | 5, hv | 6, hv | 7, hv | 8, hv | 9, hv | 10, hv | 11, hv => simp at hv; subst hv; rfl

/-- What a query does at depth d, its outcome by q: the contract by which it calls itself. -/
def Inner (B : Nat) (s : ByteArray) (d K : Nat) (q : Nat → Nat × Nat) : Prop :=
  ∀ (a e j : Nat) (pv : Value) (m : Nat) (w : World), (7 ≤ d → e ≠ 0) → RR B s a d e j pv w → PO B pv m w → m + K ≤ 1000 → (e = 0 → j = Pl.cj s a) →
    Calls Tryd.prog 12 #[.pointer (some ⟨B, 0, none⟩)] w (QR B s d pv m K w (Pl.bE (e, a) q) (fun e' a' j' => e' = 0 → j' = Pl.cj s a'))
/-- How far a head has come: what holds at the bracket behind it. -/
def HD (B : Nat) (s : ByteArray) (d a : Nat) (pv : Value) (m : Nat) (w : World) (w' : World) : Prop :=
  ∃ e1 a1 j1, Pl.lf (Pl.headP s (Pl.kd (Pl.bt s a))) a = (e1, a1) ∧ (e1 = 0 → j1 = Pl.cj s a1) ∧ ST B s d j1 pv pv m w (Pl.bt s a : Int) e1 a1 w'
theorem sn_yes {s : ByteArray} {e c a : Nat} (h : sn s e c c a = true) : e = 0 ∧ Pl.bt s a = c := ⟨sn_zero h, by have := sn_bt h; omega⟩
theorem sn_no {s : ByteArray} {e c a : Nat} (h : sn s e c c a = false) : ¬ (e = 0 ∧ Pl.bt s a = c) := by
  rintro ⟨h1, h2⟩; unfold sn at h; simp at h; have := h h1; omega
/-- The number of joins behind a head that is read. -/
theorem head_cj {s : ByteArray} {a k e1 a1 j : Nat} (hk : Pl.kd (Pl.bt s a) = k) (hj : j = Pl.cj s a) (h : Pl.lf (Pl.headP s (Pl.kd (Pl.bt s a))) a = (e1, a1)) : e1 = 0 → (if k = 4 then j + 1 else j) = Pl.cj s a1 := by
  intro z
  subst z
  have hf := (Pl.headP_facts s (Pl.kd (Pl.bt s a)) a).2.2.2
  have h1 : (Pl.headP s (Pl.kd (Pl.bt s a)) a).1 = true := Pl.lf_ok (by rw [h])
  have h2 : (Pl.headP s (Pl.kd (Pl.bt s a)) a).2 = a1 := by have : (Pl.lf (Pl.headP s (Pl.kd (Pl.bt s a))) a).2 = a1 := by rw [h]
                                                            exact this
  have h3 := hf h1
  rw [h2, hk] at h3
  rw [h3, hj]
  split <;> rfl
end Go.Proofs.YtdinjjmcmfjbfaaDoor
