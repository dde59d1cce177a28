/-
  The program's readers of words and values, which store what they read.
-/
import Derived.Test.YtdinjjmcmfjbfaaDoorRd
import Derived.Test.YtdinjjmcmfjbfaaDoorNu
import Derived.Test.YtdinjjmcmfjbfaaDoorTx
import Derived.Test.YtdinjjmcmfjbfaaDoorShelf
import Derived.Lib.ParseIntBMem
namespace Go.Proofs.YtdinjjmcmfjbfaaDoor
open Go.RowKit
open Mo (V Row)

theorem size_alloc1 (w : World) (o : Obj) : (w.alloc o).heap.size = w.heap.size + 1 := by simp
theorem clone_any (s : ByteArray) (w : World) (hs : s.size ≤ 1000) : Calls Tryd.prog 39 #[.string s] w fun e w' => e = .returned (.string s) ∧ Kept No w w' := by
  go_enter Tryd.func39, Tryd.ntmps39
  go_wp2_with fail
  refine (Tryd.stringslite_Clone s _ (by omega)).mono ?_
  rintro e w1 ⟨rfl, hb⟩
  go_wp2_with fail
  go_ret
  exact ⟨rfl, ⟨hb.os, hb.tape, hb.output, hb.size, fun i hi _ => hb.block i hi⟩⟩

/-- The reader's answer, and what lies behind a pointer that it was handed. -/
def WP (B P : Nat) (s : ByteArray) (w : World) (r : Bool × Nat) (t : TypeId) (c' : Bool → Nat → Array Value) (e : Ending) (w' : World) : Prop :=
  ∃ ok a', r = (ok, a') ∧ e = .returned (.bool ok) ∧ RP B s a' w' ∧ Kept (fun k => k = B ∨ k = P) w w' ∧ w'.heap[P]? = some (.cells (c' ok a') t (0, 0))

set_option maxRecDepth 100000 in
set_option maxHeartbeats 2000000 in
theorem word_any (B P off most : Nat) (mi : Int) (s : ByteArray) (a : Nat) (c : Array Value) (t : TypeId) (w : World) (hs : s.size ≤ 1000) (hm : most ≤ 10) (hmi : mi = (most : Int)) (hne : P ≠ B) (h : RP B s a w) (hP : w.heap[P]? = some (.cells c t (0, 0))) (hoff : off < c.size) :
    Calls Tryd.prog 30 #[.pointer (some ⟨B, 0, none⟩), .pointer (some ⟨P, off, none⟩), .int .i64 mi] w
      (WP B P s w (Pl.sev s most 97 122 a) t (fun ok a' => if ok = true then c.setIfInBounds off (.string (s.extract a a')) else c)) := by
  have h1 := h.c1
  have HH := hid h
  have HP := hid hP
  have hPl := lt_of_heap hP
  have ha := h.1
  subst hmi
  clear h hP
  go_enter Tryd.func30, Tryd.ntmps30
  go_wp2_with fail
  refine (several_any B s a most 97 122 (most : Int) 97 122 _ hs hm (by omega) rfl rfl rfl HH.out).mono ?_
  rintro e w1 ⟨ok, a1, x1, rfl, p1, f1⟩
  have HP1 : Hid (w1.heap[P]? = some (.cells c t (0, 0))) := (f1.block P hPl hne).trans HP.out
  have X1 := hid x1
  have F1 : Hid (Kept (fun k => k = B ∨ k = P) w w1) := f1.mono (fun _ _ e => .inl e)
  have hmono : a ≤ a1 := by
    have := Pl.many_le s 97 122 most a
    unfold Pl.sev at x1; injection x1 with _ x2; omega
  clear x1
  cases ok
  · have P1 := hid p1
    clear p1 f1 h1
    go_wp2_with fail
    go_ret
    exact ⟨false, a1, X1.out, rfl, P1.out, F1.out, HP1.out⟩
  · have d0 := p1.c0
    have d1 := p1.c1
    have ha1 := p1.1
    have P1 := hid p1
    have i1 : (0 : Int) ≤ (a : Int) := by omega
    have i2 : (a : Int) ≤ (a1 : Int) := by omega
    have i3 : (a1 : Int) ≤ (s.size : Int) := by omega
    have q0 : w1.cell? ⟨P, off, none⟩ = some c[off] := by rw [cell_of HP1.out, Array.getElem?_eq_getElem hoff]
    have q1 : w1.frozen? ⟨P, off, none⟩ = false := frozen_of HP1.out off
    have hBl : B < w1.heap.size := lt_of_heap P1.out.2
    have hPl1 : P < w1.heap.size := lt_of_heap HP1.out
    have hxs : (s.extract a a1).size ≤ 1000 := by simp; omega
    clear p1 f1 h1
    go_wp2_with fail
    go_region_held3 (fun w' => w'.cell? ⟨B, 0, none⟩ = some (.string s) ∧ w'.cell? ⟨B, 1, none⟩ = some (.int .i64 (a1 : Int))) (go_keep)
      (first
        | (go_at_call 39
           refine (clone_any (s.extract a a1) _ hxs).mono ?_
           rintro e w2 ⟨rfl, hk2⟩
           have e0 : w2.cell? ⟨B, 0, none⟩ = some (.string s) := (hk2.cell hBl (fun z => z)).trans d0
           have e1 : w2.cell? ⟨B, 1, none⟩ = some (.int .i64 (a1 : Int)) := (hk2.cell hBl (fun z => z)).trans d1
           have q2 : w2.cell? ⟨P, off, none⟩ = some c[off] := (hk2.cell hPl1 (fun z => z)).trans q0
           have q3 : w2.frozen? ⟨P, off, none⟩ = false := (World.frozen?_of_block (hk2.block P hPl1 (fun z => z))).trans q1
           have HK2 := hid hk2
           clear hk2))
    have hk12 : Kept No w1 w2 := ((Kept.refl No w1).drew).seq HK2.out
    have HK3 : Hid (Kept (fun k => k = B ∨ k = P) w1 (w2.setCell ⟨P, off, none⟩ (.string (s.extract a a1)))) := (hk12.any).setCell (.inr (.inr rfl)) _
    have HP2 : Hid (w2.heap[P]? = some (.cells c t (0, 0))) := (hk12.block P hPl1 (fun z => z)).trans HP1.out
    have HR2 : Hid (RP B s a1 (w2.setCell ⟨P, off, none⟩ (.string (s.extract a a1)))) :=
      ⟨ha1, (Below.heap_setCell _ _ _ _ (fun e => hne e.symm)).trans ((hk12.block B hBl (fun z => z)).trans P1.out.2)⟩
    clear d0 d1 e0 e1 q0 q1 q2 q3 hk12
    go_wp2_with fail
    go_ret
    exact ⟨true, a1, X1.out, rfl, HR2.out, F1.out.seq HK3.out, heap_set HP2.out off _⟩

/-- A value's six cells laid at place o. -/
def set6 (c : Array Value) (o : Nat) (v : V) : Array Value :=
  (((((c.setIfInBounds o (.int .i32 (kI v))).setIfInBounds (o + 1) (.int .u8 (tB v 0))).setIfInBounds (o + 2) (.int .u8 (tB v 1))).setIfInBounds (o + 3) (.int .u8 (tB v 2))).setIfInBounds (o + 4) (.int .u8 (tB v 3))).setIfInBounds (o + 5) (.int .i64 (nI v))
theorem set6_size (c : Array Value) (o : Nat) (v : V) : (set6 c o v).size = c.size := by simp [set6]
def w6 (w : World) (P o : Nat) (k t0 t1 t2 t3 n : Int) : World :=
  (((((w.setCell ⟨P, o, none⟩ (.int .i32 k)).setCell ⟨P, o + 1, none⟩ (.int .u8 t0)).setCell ⟨P, o + 2, none⟩ (.int .u8 t1)).setCell ⟨P, o + 3, none⟩ (.int .u8 t2)).setCell ⟨P, o + 4, none⟩ (.int .u8 t3)).setCell ⟨P, o + 5, none⟩ (.int .i64 n)
theorem w6_kept {S : Nat → Prop} {w : World} {P : Nat} (hS : S P) (o : Nat) (k t0 t1 t2 t3 n : Int) : Kept S w (w6 w P o k t0 t1 t2 t3 n) :=
  (((((((Kept.refl S w).setCell (.inr hS) _).setCell (.inr hS) _).setCell (.inr hS) _).setCell (.inr hS) _).setCell (.inr hS) _).setCell (.inr hS) _)
theorem w6_heap {w : World} {P : Nat} {c : Array Value} {t : TypeId} (h : w.heap[P]? = some (.cells c t (0, 0))) (o : Nat) (v : V) : (w6 w P o (kI v) (tB v 0) (tB v 1) (tB v 2) (tB v 3) (nI v)).heap[P]? = some (.cells (set6 c o v) t (0, 0)) :=
  heap_set (heap_set (heap_set (heap_set (heap_set (heap_set h _ _) _ _) _ _) _ _) _ _) _ _
/-- What 'textValue' leaves. -/
def tvC (s : ByteArray) (c : Array Value) (o a : Nat) (ok : Bool) (a' : Nat) : Array Value :=
  if ok = true then set6 c o (.txt (sub s a a')) else set6 c o (.txt [])
set_option maxRecDepth 100000 in
set_option maxHeartbeats 1000000 in
theorem textValue_any (B P o : Nat) (s : ByteArray) (a : Nat) (c : Array Value) (t : TypeId) (w : World) (hs : s.size ≤ 1000) (hne : P ≠ B) (h : RP B s a w) (hP : w.heap[P]? = some (.cells c t (0, 0))) (hoff : o + 5 < c.size) :
    Calls Tryd.prog 43 #[.pointer (some ⟨B, 0, none⟩), .pointer (some ⟨P, o, none⟩)] w (WP B P s w (Pl.let4 s a) t (tvC s c o a)) := by
  have HH := hid h
  have HP := hid hP
  have hPl := lt_of_heap hP
  have hBl := lt_of_heap h.2
  have hr1 : RP B s a (w.alloc (.cells #[.string ⟨#[]⟩] 9)) := ⟨h.1, (Below.heap_alloc _ _ _ hBl).trans h.2⟩
  have HC := hid (word_any B w.heap.size 0 4 4 s a #[.string ⟨#[]⟩] 9 _ hs (by omega) rfl (by omega) hr1 (heap_alloc_last w _) (by simp))
  clear h hP hr1
  go_enter Tryd.func43, Tryd.ntmps43
  go_wp2_with fail
  refine HC.out.mono ?_
  rintro e w2 ⟨ok, a2, x2, rfl, p2, k2, c2⟩
  have hk2 : Kept (fun k => k = B ∨ k = P) w w2 := ((Kept.refl No w).alloc _).any.trans k2 (fun _ e => e) (fun i hi e => by rcases e with e | e; exact .inl e; omega)
  have HP2 : Hid (w2.heap[P]? = some (.cells c t (0, 0))) := by
    refine (k2.block P (by rw [size_alloc1]; omega) (by omega)).trans ((Below.heap_alloc _ _ _ hPl).trans HP.out)
  have hls : ∃ z : ByteArray, w2.heap[w.heap.size]? = some (.cells #[.string z] 9 (0, 0)) ∧ z.size ≤ 4 ∧ (if ok = true then sub s a a2 else []) = z.data.toList := by
    cases ok
    · exact ⟨⟨#[]⟩, c2, by decide, rfl⟩
    · have hz := sev_sub (s := s) (k := 4) (lo := 97) (hi := 122) (by omega) HH.out.1 x2
      refine ⟨s.extract a a2, c2, ?_, rfl⟩
      simp; omega
  obtain ⟨z, c2', hz4, hzl⟩ := hls
  have d0 : w2.cell? ⟨w.heap.size, 0, none⟩ = some (.string z) := by rw [cell_of c2']; rfl
  have X2 := hid x2
  have P2 := hid p2
  have K2 := hid hk2
  have HZ := hid hzl
  have hBl2 : B < w2.heap.size := lt_of_heap p2.2
  have hPl2 : P < w2.heap.size := lt_of_heap HP2.out
  clear x2 p2 k2 c2 hk2 c2' hzl
  go_wp2_with fail
  refine (textOf_any z hz4 _).mono ?_
  rintro e w3 ⟨rfl, hk3⟩
  have HP3 : Hid (w3.heap[P]? = some (.cells c t (0, 0))) := (hk3.block P hPl2 (fun z => z)).trans HP2.out
  have HR3 : Hid (RP B s a2 w3) := ⟨P2.out.1, (hk3.block B hBl2 (fun z => z)).trans P2.out.2⟩
  have HK3 : Hid (Kept (fun k => k = B ∨ k = P) w w3) := K2.out.seqNo hk3
  have q0 : w3.cell? ⟨P, o, none⟩ = some c[o] := by rw [cell_of HP3.out, Array.getElem?_eq_getElem (by omega)]
  have q1 : w3.cell? ⟨P, o + 1, none⟩ = some c[o + 1] := by rw [cell_of HP3.out, Array.getElem?_eq_getElem (by omega)]
  have q2 : w3.cell? ⟨P, o + 2, none⟩ = some c[o + 2] := by rw [cell_of HP3.out, Array.getElem?_eq_getElem (by omega)]
  have q3 : w3.cell? ⟨P, o + 3, none⟩ = some c[o + 3] := by rw [cell_of HP3.out, Array.getElem?_eq_getElem (by omega)]
  have q4 : w3.cell? ⟨P, o + 4, none⟩ = some c[o + 4] := by rw [cell_of HP3.out, Array.getElem?_eq_getElem (by omega)]
  have q5 : w3.cell? ⟨P, o + 5, none⟩ = some c[o + 5] := by rw [cell_of HP3.out, Array.getElem?_eq_getElem (by omega)]
  have g0 : w3.frozen? ⟨P, o, none⟩ = false := frozen_of HP3.out _
  have g1 : w3.frozen? ⟨P, o + 1, none⟩ = false := frozen_of HP3.out _
  have g2 : w3.frozen? ⟨P, o + 2, none⟩ = false := frozen_of HP3.out _
  have g3 : w3.frozen? ⟨P, o + 3, none⟩ = false := frozen_of HP3.out _
  have g4 : w3.frozen? ⟨P, o + 4, none⟩ = false := frozen_of HP3.out _
  have g5 : w3.frozen? ⟨P, o + 5, none⟩ = false := frozen_of HP3.out _
  have HF : Hid (∀ v : V, v = .txt z.data.toList → WP B P s w (Pl.let4 s a) t (tvC s c o a) (.returned (.bool ok)) (w6 w3 P o (kI v) (tB v 0) (tB v 1) (tB v 2) (tB v 3) (nI v))) := by
    rintro v rfl
    refine ⟨ok, a2, X2.out, rfl, ⟨HR3.out.1, ((w6_kept (S := (· = P)) rfl o _ _ _ _ _ _).block B (lt_of_heap HR3.out.2) (fun e => hne e.symm)).trans HR3.out.2⟩, HK3.out.seq (w6_kept (.inr rfl) o _ _ _ _ _ _), ?_⟩
    have e : tvC s c o a ok a2 = set6 c o (.txt z.data.toList) := by
      rw [← HZ.out]
      cases ok
      · exact if_neg (by simp)
      · exact if_pos rfl
    rw [e]
    exact w6_heap HP3.out o _
  clear hk3 hz4
  generalize hv0 : tB (.txt z.data.toList) 0 = t0 at *
  generalize hv1 : tB (.txt z.data.toList) 1 = t1 at *
  generalize hv2 : tB (.txt z.data.toList) 2 = t2 at *
  generalize hv3 : tB (.txt z.data.toList) 3 = t3 at *
  have HV : Hid (tB (.txt z.data.toList) 0 = t0 ∧ tB (.txt z.data.toList) 1 = t1 ∧ tB (.txt z.data.toList) 2 = t2 ∧ tB (.txt z.data.toList) 3 = t3) := ⟨hv0, hv1, hv2, hv3⟩
  clear hv0 hv1 hv2 hv3
  go_wp2_with fail
  go_ret
  have := HF.out _ rfl
  rw [HV.out.1, HV.out.2.1, HV.out.2.2.1, HV.out.2.2.2] at this
  exact this

theorem kept_bytes (w : World) (e : TypeId) (t : ByteArray) : Kept No w (Lib.bytesWorld w e t) := ⟨rfl, rfl, rfl, by rw [Lib.bytesWorld_size]; omega, fun i hi _ => Lib.bytesWorld_at_old w e t i hi⟩

theorem sub_cons {s : ByteArray} {a b : Nat} (hb : b ≤ s.size) (h : a < b) : ∃ c, sub s a b = c :: sub s (a + 1) b ∧ c.toNat = Pl.bt s a := by
  have hl : a < (s.data.toList.take b).length := by rw [List.length_take, ba_len]; omega
  refine ⟨(s.data.toList.take b)[a], ?_, ?_⟩
  · rw [sub_eq, sub_eq, List.drop_eq_getElem_cons hl]
  · have h1 : (sub s a b)[0]? = some (s.data.toList.take b)[a] := by rw [sub_eq, List.drop_eq_getElem_cons hl]; rfl
    have := (sub_get hb h1).2
    simpa using this
theorem sub_nil (s : ByteArray) (a : Nat) : sub s a a = [] := by rw [sub_eq]; exact List.drop_eq_nil_of_le (by rw [List.length_take]; omega)
theorem digs_sub {s : ByteArray} {a a' : Nat} (ha : a ≤ s.size) (h : Pl.digs s a = (true, a')) : a < a' ∧ a' ≤ s.size ∧ Digs (sub s a a') := by
  unfold Pl.digs at h
  split at h
  · cases h
  · obtain ⟨h1, h2, h3, h4⟩ := sev_sub (by omega) ha h
    refine ⟨h1, h2, ?_, ?_, h4⟩
    · intro e; have := sub_len (s := s) (a := a) h2; rw [e] at this; simp at this; omega
    · rw [sub_len h2]; omega
theorem numP_sub {s : ByteArray} {a a' : Nat} (ha : a ≤ s.size) (h : Pl.numP s a = (true, a')) : a < a' ∧ a' ≤ s.size ∧ Numeral (sub s a a') := by
  unfold Pl.numP Pl.ifP at h
  by_cases h45 : Pl.bt s a = 45
  · have e : Pl.tk s 45 a = (true, a + 1) := by unfold Pl.tk; rw [if_pos h45]
    rw [e] at h
    have hl := Pl.bt_lt (s := s) (a := a) (by omega)
    obtain ⟨h1, h2, h3⟩ := digs_sub (by omega) (show Pl.digs s (a + 1) = (true, a') by simpa using h)
    obtain ⟨c, hc, hcn⟩ := sub_cons h2 (show a < a' by omega)
    refine ⟨by omega, h2, .inr ⟨_, ?_, h3⟩⟩
    rw [hc]
    have : c = 45 := UInt8.toNat_inj.1 (by rw [hcn, h45]; rfl)
    rw [this]
  · have e : Pl.tk s 45 a = (false, a) := by unfold Pl.tk; rw [if_neg h45]
    rw [e] at h
    have h' : Pl.orP (Pl.tk s 48) (Pl.digs s) a = (true, a') := by simpa using h
    unfold Pl.orP at h'
    by_cases h48 : Pl.bt s a = 48
    · have e2 : Pl.tk s 48 a = (true, a + 1) := by unfold Pl.tk; rw [if_pos h48]
      rw [e2] at h'
      have : a' = a + 1 := by simpa using h'.symm
      subst this
      have hl := Pl.bt_lt (s := s) (a := a) (by omega)
      obtain ⟨c, hc, hcn⟩ := sub_cons (s := s) (a := a) (b := a + 1) (by omega) (by omega)
      refine ⟨by omega, by omega, .inl ⟨?_, ?_, ?_⟩⟩
      · rw [hc]; simp
      · rw [hc, sub_nil]; simp
      · rw [hc, sub_nil]; intro x hx; simp at hx; subst hx; unfold isDig; omega
    · have e2 : Pl.tk s 48 a = (false, a) := by unfold Pl.tk; rw [if_neg h48]
      rw [e2] at h'
      obtain ⟨h1, h2, h3⟩ := digs_sub ha (show Pl.digs s a = (true, a') by simpa using h')
      exact ⟨h1, h2, .inl h3⟩

def nvC (s : ByteArray) (c : Array Value) (o a : Nat) (ok : Bool) (a' : Nat) : Array Value :=
  if ok = true then set6 c o (.num (numOf (sub s a a'))) else c
set_option maxRecDepth 100000 in
set_option maxHeartbeats 2000000 in
theorem numberValue_any (B P o : Nat) (s : ByteArray) (a : Nat) (c : Array Value) (t : TypeId) (w : World) (hs : s.size ≤ 1000) (hne : P ≠ B) (h : RP B s a w) (hP : w.heap[P]? = some (.cells c t (0, 0))) (hoff : o + 5 < c.size) :
    Calls Tryd.prog 42 #[.pointer (some ⟨B, 0, none⟩), .pointer (some ⟨P, o, none⟩)] w (WP B P s w (Pl.numP s a) t (nvC s c o a)) := by
  have h1 := h.c1
  have HH := hid h
  have HP := hid hP
  have hPl := lt_of_heap hP
  have ha := h.1
  clear h hP
  go_enter Tryd.func42, Tryd.ntmps42
  go_wp2_with fail
  refine (numeral_any B s a _ hs HH.out).mono ?_
  rintro e w1 ⟨ok, a1, x1, rfl, p1, f1⟩
  have HP1 : Hid (w1.heap[P]? = some (.cells c t (0, 0))) := (f1.block P hPl hne).trans HP.out
  have X1 := hid x1
  have F1 : Hid (Kept (fun k => k = B ∨ k = P) w w1) := f1.mono (fun _ _ e => .inl e)
  cases ok
  · have P1 := hid p1
    clear p1 f1 h1 x1
    go_wp2_with fail
    go_ret
    exact ⟨false, a1, X1.out, rfl, P1.out, F1.out, HP1.out⟩
  · obtain ⟨hm1, hm2, hnum⟩ := numP_sub ha x1
    have HNum := hid (parse_ok hnum)
    have d0 := p1.c0
    have d1 := p1.c1
    have P1 := hid p1
    have i1 : (0 : Int) ≤ (a : Int) := by omega
    have i2 : (a : Int) ≤ (a1 : Int) := by omega
    have i3 : (a1 : Int) ≤ (s.size : Int) := by omega
    have hBl : B < w1.heap.size := lt_of_heap P1.out.2
    have hPl1 : P < w1.heap.size := lt_of_heap HP1.out
    have hxs : (s.extract a a1).size ≤ 9223372036854775806 := by simp; omega
    clear p1 f1 h1 x1 hnum
    go_wp2_with fail
    go_region_held3 (fun w' => w'.cell? ⟨B, 0, none⟩ = some (.string s) ∧ w'.cell? ⟨B, 1, none⟩ = some (.int .i64 (a1 : Int))) (go_keep)
      (first
        | (go_at_call 51
           refine (Tryd.strconv_ParseInt_10_at64_ok (s.extract a a1) hxs (numOf (sub s a a1)) HNum.out _).mono ?_
           rintro e w2 ⟨rfl, hw2⟩
           have hk2 : Kept No w1 w2 := by
             rcases hw2 with rfl | ⟨t2, rfl⟩
             · exact (Kept.refl No w1).drew
             · exact ((Kept.refl No w1).drew).seq (kept_bytes _ _ _)
           have e0 : w2.cell? ⟨B, 0, none⟩ = some (.string s) := (hk2.cell hBl (fun z => z)).trans d0
           have e1 : w2.cell? ⟨B, 1, none⟩ = some (.int .i64 (a1 : Int)) := (hk2.cell hBl (fun z => z)).trans d1
           have HK2 := hid hk2
           clear hk2 hw2))
    have HP2 : Hid (w2.heap[P]? = some (.cells c t (0, 0))) := (HK2.out.block P hPl1 (fun z => z)).trans HP1.out
    have HR2 : Hid (RP B s a1 w2) := ⟨hm2, (HK2.out.block B hBl (fun z => z)).trans P1.out.2⟩
    clear d0 d1 e0 e1
    obtain ⟨nv, hnv⟩ : ∃ nv, numOf (sub s a a1) = nv := ⟨_, rfl⟩
    have HNV := hid hnv
    rw [hnv]
    clear hnv HNum
    have hPl2 : P < w2.heap.size := lt_of_heap HP2.out
    have hBl2 : B < w2.heap.size := lt_of_heap HR2.out.2
    go_wp2_with fail
    refine (numberOf_any nv _).mono ?_
    rintro e w3 ⟨rfl, hk3⟩
    have HP3 : Hid (w3.heap[P]? = some (.cells c t (0, 0))) := (hk3.block P hPl2 (fun z => z)).trans HP2.out
    have HR3 : Hid (RP B s a1 w3) := ⟨hm2, (hk3.block B hBl2 (fun z => z)).trans HR2.out.2⟩
    have HK3 : Hid (Kept (fun k => k = B ∨ k = P) w w3) := (F1.out.seqNo HK2.out).seqNo hk3
    have q0 : w3.cell? ⟨P, o, none⟩ = some c[o] := by rw [cell_of HP3.out, Array.getElem?_eq_getElem (by omega)]
    have q1 : w3.cell? ⟨P, o + 1, none⟩ = some c[o + 1] := by rw [cell_of HP3.out, Array.getElem?_eq_getElem (by omega)]
    have q2 : w3.cell? ⟨P, o + 2, none⟩ = some c[o + 2] := by rw [cell_of HP3.out, Array.getElem?_eq_getElem (by omega)]
    have q3 : w3.cell? ⟨P, o + 3, none⟩ = some c[o + 3] := by rw [cell_of HP3.out, Array.getElem?_eq_getElem (by omega)]
    have q4 : w3.cell? ⟨P, o + 4, none⟩ = some c[o + 4] := by rw [cell_of HP3.out, Array.getElem?_eq_getElem (by omega)]
    have q5 : w3.cell? ⟨P, o + 5, none⟩ = some c[o + 5] := by rw [cell_of HP3.out, Array.getElem?_eq_getElem (by omega)]
    have g0 : w3.frozen? ⟨P, o, none⟩ = false := frozen_of HP3.out _
    have g1 : w3.frozen? ⟨P, o + 1, none⟩ = false := frozen_of HP3.out _
    have g2 : w3.frozen? ⟨P, o + 2, none⟩ = false := frozen_of HP3.out _
    have g3 : w3.frozen? ⟨P, o + 3, none⟩ = false := frozen_of HP3.out _
    have g4 : w3.frozen? ⟨P, o + 4, none⟩ = false := frozen_of HP3.out _
    have g5 : w3.frozen? ⟨P, o + 5, none⟩ = false := frozen_of HP3.out _
    clear hk3
    go_wp2_with fail
    go_ret
    have hw : WP B P s w (Pl.numP s a) t (nvC s c o a) (.returned (.bool true)) (w6 w3 P o (kI (.num nv)) (tB (.num nv) 0) (tB (.num nv) 1) (tB (.num nv) 2) (tB (.num nv) 3) (nI (.num nv))) := by
      refine ⟨true, a1, X1.out, rfl, ⟨HR3.out.1, ((w6_kept (S := (· = P)) rfl o _ _ _ _ _ _).block B (lt_of_heap HR3.out.2) (fun e => hne e.symm)).trans HR3.out.2⟩, HK3.out.seq (w6_kept (.inr rfl) o _ _ _ _ _ _), ?_⟩
      rw [w6_heap HP3.out o]
      unfold nvC; rw [if_pos rfl, HNV.out]
    exact hw
end Go.Proofs.YtdinjjmcmfjbfaaDoor
