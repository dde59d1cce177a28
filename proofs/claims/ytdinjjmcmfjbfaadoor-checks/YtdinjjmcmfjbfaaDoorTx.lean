/-
  The program's values of a number and of letters.
-/
import Derived.Test.YtdinjjmcmfjbfaaDoorHv
import Derived.Lib.BufferWrite
import Derived.Laws.Rows
import Derived.Deep.WholeRow
import Derived.OwnWalk
namespace Go.Proofs.YtdinjjmcmfjbfaaDoor
open Go.RowKit
open Mo (V Row)

theorem infoVs : (Tryd.prog.info? 55).map (·.size) = some 6 := by kernel_rfl
theorem infoB : (Tryd.prog.info? 5).map (·.size) = some 1 := by kernel_rfl
theorem numberOf_any (n : Int) (w : World) : Calls Tryd.prog 44 #[.int .i64 n] w fun e w' => e = .returned (.agg #[.int .i32 0, .int .u8 0, .int .u8 0, .int .u8 0, .int .u8 0, .int .i64 n]) ∧ Kept No w w' := by
  go_enter Tryd.func44, Tryd.ntmps44
  go_wp2_with fail
  (try simp only [Exit.inBlock, Exit.then])
  refine bodyPost_ret (results_cell_row rfl _ _ w.heap.size 55 _ (0, 0) _ rfl (heap_alloc_last _ _) Tryd.underlying55 rfl infoVs) rfl ?_
  exact ⟨rfl, (Kept.refl _ _).alloc _⟩

theorem txt_cells (l : List UInt8) (h : l.length ≤ 4) :
    ([.int .i32 1, .int .u8 0, .int .u8 0, .int .u8 0, .int .u8 0, .int .i64 0] : List Value).take 1 ++ Lib.byteCells l ++ ([.int .i32 1, .int .u8 0, .int .u8 0, .int .u8 0, .int .u8 0, .int .i64 0] : List Value).drop (1 + l.length) = encV (.txt l) := by
  match l, h with
  | [], _ => rfl
  | [a], _ => rfl
  | [a, b], _ => rfl
  | [a, b, c], _ => rfl
  | [a, b, c, d], _ => rfl
theorem copy_txt (W : World) (g : Nat) (hg : g = W.heap.size) (s : ByteArray) (hs : s.size ≤ 4) :
    (Builtin.copy_ #[102, 9] 3 #[.slice (some ⟨g, 1, none⟩) 4 4, .string s]).run Tryd.prog (W.alloc (.cells #[.int .i32 1, .int .u8 0, .int .u8 0, .int .u8 0, .int .u8 0, .int .i64 0] 55)) =
      .ok (goInt s.size) (W.alloc (.cells #[.int .i32 1, .int .u8 (tB (.txt s.data.toList) 0), .int .u8 (tB (.txt s.data.toList) 1), .int .u8 (tB (.txt s.data.toList) 2), .int .u8 (tB (.txt s.data.toList) 3), .int .i64 0] 55)) := by
  subst hg
  have hl : s.data.toList.length = s.size := by rw [Array.length_toList]; rfl
  rw [Lib.run_copy_row_string _ _ _ _ 5 W.heap.size 1 4 4 s _ _ Tryd.underlying102 infoB (heap_alloc_last W _) hs (by simp; omega), World.setRow_alloc_new]
  have := txt_cells s.data.toList (by omega)
  rw [hl] at this
  simp only [this]
  rfl
set_option maxRecDepth 100000 in
set_option maxHeartbeats 1000000 in
theorem textOf_any (s : ByteArray) (hs : s.size ≤ 4) (w : World) : Calls Tryd.prog 52 #[.string s] w fun e w' => e = .returned (.agg #[.int .i32 1, .int .u8 (tB (.txt s.data.toList) 0), .int .u8 (tB (.txt s.data.toList) 1), .int .u8 (tB (.txt s.data.toList) 2), .int .u8 (tB (.txt s.data.toList) 3), .int .i64 0]) ∧ Kept No w w' := by
  have hc := copy_txt (w.alloc (.cells #[.int .i32 0, .int .u8 0, .int .u8 0, .int .u8 0, .int .u8 0, .int .i64 0] 55)) (w.heap.size + 1) (by simp) s hs
  generalize tB (.txt s.data.toList) 0 = t0 at *
  generalize tB (.txt s.data.toList) 1 = t1 at *
  generalize tB (.txt s.data.toList) 2 = t2 at *
  generalize tB (.txt s.data.toList) 3 = t3 at *
  go_enter Tryd.func52, Tryd.ntmps52
  go_wp2_with fail
  (try simp only [Exit.inBlock, Exit.then])
  refine bodyPost_ret (results_cell_row rfl _ _ w.heap.size 55 _ (0, 0) _ rfl (heap_alloc2_old _ _ _) Tryd.underlying55 rfl infoVs) rfl ?_
  exact ⟨rfl, ((Kept.refl _ _).alloc _).alloc _⟩
end Go.Proofs.YtdinjjmcmfjbfaaDoor
