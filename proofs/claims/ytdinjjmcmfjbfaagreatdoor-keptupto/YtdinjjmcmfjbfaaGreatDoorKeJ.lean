import Derived.Test.YtdinjjmcmfjbfaaGreatDoorFfeJ
set_option maxRecDepth 100000
set_option maxHeartbeats 4000000
namespace Go.Proofs.YtdinjjmcmfjbfaaGreatDoor
open Go.RowKit Go.Shelf Go.Deep
open Mo (V Row Bag cnt canon Eqv OkB OkD neg Nr Q leaves bagQ tyQ wf joins TOk wv ty Tab)
def pickM (c n:Int):Int:=if c<0 then (-(c+1)) % n else c % n
theorem pickM_range (c n:Int) (hn:0<n):0≤pickM c n∧pickM c n<n:=by
 unfold pickM;split
 ·exact ⟨Int.emod_nonneg _ (by omega),Int.emod_lt_of_pos _ hn⟩
 ·exact ⟨Int.emod_nonneg _ (by omega),Int.emod_lt_of_pos _ hn⟩
theorem kpick_any (c n:Int) (w:World) (hc: -9223372036854775808≤c∧c≤9223372036854775807) (hn:0<n∧n≤1000) :
 Calls Tryz.prog 25 #[.int .i64 c,.int .i64 n] w fun e w'=>e=.returned (.int .i64 (pickM c n))∧w'=w:=by
 have hz:n≠0:=by omega
 by_cases h:c<0
 ·have e0:IntKind.i64.wrap (c+1)=c+1:=IntWalk.i64_in _ (by omega)
  have e1:IntKind.i64.wrap (-(c+1))= -(c+1):=IntWalk.i64_in _ (by omega)
  have e2:pickM c n=(-(c+1)) % n:=by unfold pickM;rw [if_pos h]
  have e3:Int.tmod (-(c+1)) n=(-(c+1)) % n:=Int.tmod_eq_emod_of_nonneg (by omega)
  rw [e2]
  go_enter Tryz.func25,Tryz.ntmps25
  go_wp2_with fail;go_ret;exact ⟨rfl,rfl⟩
 ·have e2:pickM c n=c % n:=by unfold pickM;rw [if_neg h]
  have e3:Int.tmod c n=c % n:=Int.tmod_eq_emod_of_nonneg (by omega)
  rw [e2]
  go_enter Tryz.func25,Tryz.ntmps25
  go_wp2_with fail;go_ret;exact ⟨rfl,rfl⟩
def tw:Nat→ByteArray × ByteArray
 | 0=>(⟨#[85,40,114,44,113,41]⟩,⟨#[85,40,113,44,114,41]⟩)
 | 1=>(⟨#[83,91,48,60,35,51,93,40,85,40,114,44,113,41,41]⟩,⟨#[85,40,83,91,48,60,35,51,93,40,114,41,44,83,91,48,60,35,51,93,40,113,41,41]⟩)
 | 2=>(⟨#[80,91,49,44,48,93,40,80,91,49,44,48,93,40,114,41,41]⟩,⟨#[114]⟩)
 | 3=>(⟨#[80,91,49,93,40,85,40,114,44,113,41,41]⟩,⟨#[85,40,80,91,49,93,40,114,41,44,80,91,49,93,40,113,41,41]⟩)
 | 4=>(⟨#[83,91,48,60,35,51,93,40,83,91,49,33,36,98,93,40,114,41,41]⟩,⟨#[83,91,49,33,36,98,93,40,83,91,48,60,35,51,93,40,114,41,41]⟩)
 | 5=>(⟨#[85,40,83,91,48,60,35,50,93,40,114,41,44,83,91,48,61,35,50,93,40,114,41,41]⟩,⟨#[83,91,48,60,35,51,93,40,114,41]⟩)
 | 6=>(⟨#[85,40,83,91,49,61,36,97,98,93,40,114,41,44,83,91,49,33,36,97,98,93,40,114,41,41]⟩,⟨#[114]⟩)
 | 7=>(⟨#[80,91,49,44,48,93,40,114,41]⟩,⟨#[80,91,49,44,48,93,40,83,91,48,61,48,93,40,114,41,41]⟩)
 | 8=>(⟨#[85,40,85,40,114,44,113,41,44,114,41]⟩,⟨#[85,40,113,44,85,40,114,44,114,41,41]⟩)
 | 9=>(⟨#[80,91,48,44,48,93,40,115,41]⟩,⟨#[80,91,48,44,48,93,40,80,91,48,93,40,115,41,41]⟩)
 | 10=>(⟨#[85,40,80,91,49,44,48,93,40,114,41,44,115,41]⟩,⟨#[80,91,49,44,48,93,40,85,40,114,44,80,91,49,44,48,93,40,115,41,41,41]⟩)
 | 11=>(⟨#[83,91,48,33,48,93,40,114,41]⟩,⟨#[83,91,48,60,35,45,57,57,57,57,93,40,114,41]⟩)
 | 12=>(⟨#[83,91,50,60,51,93,40,80,91,48,44,49,44,48,44,48,93,40,114,41,41]⟩,⟨#[83,91,48,60,48,93,40,80,91,48,44,49,44,48,44,48,93,40,114,41,41]⟩)
 | 13=>(⟨#[83,91,49,60,36,98,93,40,114,41]⟩,⟨#[83,91,49,60,36,98,93,40,83,91,49,60,36,99,93,40,114,41,41]⟩)
 | 14=>(⟨#[68,40,68,40,114,41,41]⟩,⟨#[68,40,114,41]⟩)
 | 15=>(⟨#[68,40,85,40,114,44,114,41,41]⟩,⟨#[68,40,114,41]⟩)
 | 16=>(⟨#[74,91,49,61,48,93,40,85,40,114,44,113,41,44,115,41]⟩,⟨#[85,40,74,91,49,61,48,93,40,114,44,115,41,44,74,91,49,61,48,93,40,113,44,115,41,41]⟩)
 | 17=>(⟨#[80,91,50,44,51,44,48,44,49,93,40,74,91,49,61,48,93,40,114,44,115,41,41]⟩,⟨#[74,91,48,61,49,93,40,115,44,114,41]⟩)
 | 18=>(⟨#[74,91,49,61,48,93,40,83,91,48,60,35,51,93,40,114,41,44,115,41]⟩,⟨#[83,91,48,60,35,51,93,40,74,91,49,61,48,93,40,114,44,115,41,41]⟩)
 | 19=>(⟨#[71,91,49,93,91,110,93,40,85,40,114,44,114,41,41]⟩,⟨#[71,91,49,93,91,110,93,40,85,40,85,40,114,44,114,41,44,83,91,48,60,35,45,57,57,57,57,93,40,114,41,41,41]⟩)
 | 20=>(⟨#[80,91,48,93,40,71,91,48,93,91,110,93,40,114,41,41]⟩,⟨#[68,40,80,91,48,93,40,114,41,41]⟩)
 | 21=>(⟨#[68,40,74,91,49,61,48,93,40,114,44,115,41,41]⟩,⟨#[74,91,49,61,48,93,40,68,40,114,41,44,68,40,115,41,41]⟩)
 | 22=>(⟨#[71,91,48,93,91,115,49,93,40,80,91,49,44,48,93,40,114,41,41]⟩,⟨#[71,91,49,93,91,115,48,93,40,114,41]⟩)
 | 23=>(⟨#[83,91,48,61,36,98,93,40,71,91,49,93,91,115,48,93,40,114,41,41]⟩,⟨#[71,91,49,93,91,115,48,93,40,83,91,49,61,36,98,93,40,114,41,41]⟩)
 | 24=>(⟨#[71,91,93,91,110,93,40,114,41]⟩,⟨#[71,91,93,91,115,49,93,40,71,91,49,93,91,110,93,40,114,41,41]⟩)
 | 25=>(⟨#[71,91,93,91,115,48,93,40,114,41]⟩,⟨#[71,91,93,91,115,49,93,40,71,91,49,93,91,115,48,93,40,114,41,41]⟩)
 | 26=>(⟨#[74,91,48,61,48,93,40,114,44,74,91,49,61,48,93,40,113,44,115,41,41]⟩,⟨#[80,91,52,44,53,44,48,44,49,44,50,44,51,93,40,74,91,48,61,48,93,40,74,91,49,61,48,93,40,113,44,115,41,44,114,41,41]⟩)
 | 27=>(⟨#[80,91,48,44,49,44,51,93,40,74,91,49,61,49,93,40,114,44,113,41,41]⟩,⟨#[80,91,49,44,48,44,51,93,40,74,91,48,61,49,93,40,80,91,49,44,48,93,40,114,41,44,113,41,41]⟩)
 | 28=>(⟨#[71,91,49,93,91,110,93,40,114,41]⟩,⟨#[80,91,48,44,49,93,40,74,91,48,61,48,93,40,71,91,49,93,91,110,93,40,114,41,44,71,91,49,93,91,115,48,93,40,114,41,41,41]⟩)
 | _=>(⟨#[71,91,48,44,49,93,91,110,93,40,114,41]⟩,⟨#[71,91,48,44,49,93,91,110,93,40,80,91,48,44,49,44,49,93,40,83,91,48,61,48,93,40,114,41,41,41]⟩)
theorem twins0 (w:World):Calls Tryz.prog 24 #[.int .i64 0] w fun e w'=>e=.returned (.tuple #[.string (tw 0).1,.string (tw 0).2])∧w'=w:=by
 go_enter Tryz.func24,Tryz.ntmps24
 go_wp2_with fail;go_ret2;exact ⟨rfl,rfl⟩
theorem twins1 (w:World):Calls Tryz.prog 24 #[.int .i64 1] w fun e w'=>e=.returned (.tuple #[.string (tw 1).1,.string (tw 1).2])∧w'=w:=by
 go_enter Tryz.func24,Tryz.ntmps24
 go_wp2_with fail;go_ret2;exact ⟨rfl,rfl⟩
theorem twins2 (w:World):Calls Tryz.prog 24 #[.int .i64 2] w fun e w'=>e=.returned (.tuple #[.string (tw 2).1,.string (tw 2).2])∧w'=w:=by
 go_enter Tryz.func24,Tryz.ntmps24
 go_wp2_with fail;go_ret2;exact ⟨rfl,rfl⟩
theorem twins3 (w:World):Calls Tryz.prog 24 #[.int .i64 3] w fun e w'=>e=.returned (.tuple #[.string (tw 3).1,.string (tw 3).2])∧w'=w:=by
 go_enter Tryz.func24,Tryz.ntmps24
 go_wp2_with fail;go_ret2;exact ⟨rfl,rfl⟩
theorem twins4 (w:World):Calls Tryz.prog 24 #[.int .i64 4] w fun e w'=>e=.returned (.tuple #[.string (tw 4).1,.string (tw 4).2])∧w'=w:=by
 go_enter Tryz.func24,Tryz.ntmps24
 go_wp2_with fail;go_ret2;exact ⟨rfl,rfl⟩
theorem twins5 (w:World):Calls Tryz.prog 24 #[.int .i64 5] w fun e w'=>e=.returned (.tuple #[.string (tw 5).1,.string (tw 5).2])∧w'=w:=by
 go_enter Tryz.func24,Tryz.ntmps24
 go_wp2_with fail;go_ret2;exact ⟨rfl,rfl⟩
theorem twins6 (w:World):Calls Tryz.prog 24 #[.int .i64 6] w fun e w'=>e=.returned (.tuple #[.string (tw 6).1,.string (tw 6).2])∧w'=w:=by
 go_enter Tryz.func24,Tryz.ntmps24
 go_wp2_with fail;go_ret2;exact ⟨rfl,rfl⟩
theorem twins7 (w:World):Calls Tryz.prog 24 #[.int .i64 7] w fun e w'=>e=.returned (.tuple #[.string (tw 7).1,.string (tw 7).2])∧w'=w:=by
 go_enter Tryz.func24,Tryz.ntmps24
 go_wp2_with fail;go_ret2;exact ⟨rfl,rfl⟩
theorem twins8 (w:World):Calls Tryz.prog 24 #[.int .i64 8] w fun e w'=>e=.returned (.tuple #[.string (tw 8).1,.string (tw 8).2])∧w'=w:=by
 go_enter Tryz.func24,Tryz.ntmps24
 go_wp2_with fail;go_ret2;exact ⟨rfl,rfl⟩
theorem twins9 (w:World):Calls Tryz.prog 24 #[.int .i64 9] w fun e w'=>e=.returned (.tuple #[.string (tw 9).1,.string (tw 9).2])∧w'=w:=by
 go_enter Tryz.func24,Tryz.ntmps24
 go_wp2_with fail;go_ret2;exact ⟨rfl,rfl⟩
theorem twins10 (w:World):Calls Tryz.prog 24 #[.int .i64 10] w fun e w'=>e=.returned (.tuple #[.string (tw 10).1,.string (tw 10).2])∧w'=w:=by
 go_enter Tryz.func24,Tryz.ntmps24
 go_wp2_with fail;go_ret2;exact ⟨rfl,rfl⟩
theorem twins11 (w:World):Calls Tryz.prog 24 #[.int .i64 11] w fun e w'=>e=.returned (.tuple #[.string (tw 11).1,.string (tw 11).2])∧w'=w:=by
 go_enter Tryz.func24,Tryz.ntmps24
 go_wp2_with fail;go_ret2;exact ⟨rfl,rfl⟩
theorem twins12 (w:World):Calls Tryz.prog 24 #[.int .i64 12] w fun e w'=>e=.returned (.tuple #[.string (tw 12).1,.string (tw 12).2])∧w'=w:=by
 go_enter Tryz.func24,Tryz.ntmps24
 go_wp2_with fail;go_ret2;exact ⟨rfl,rfl⟩
theorem twins13 (w:World):Calls Tryz.prog 24 #[.int .i64 13] w fun e w'=>e=.returned (.tuple #[.string (tw 13).1,.string (tw 13).2])∧w'=w:=by
 go_enter Tryz.func24,Tryz.ntmps24
 go_wp2_with fail;go_ret2;exact ⟨rfl,rfl⟩
theorem twins14 (w:World):Calls Tryz.prog 24 #[.int .i64 14] w fun e w'=>e=.returned (.tuple #[.string (tw 14).1,.string (tw 14).2])∧w'=w:=by
 go_enter Tryz.func24,Tryz.ntmps24
 go_wp2_with fail;go_ret2;exact ⟨rfl,rfl⟩
theorem twins15 (w:World):Calls Tryz.prog 24 #[.int .i64 15] w fun e w'=>e=.returned (.tuple #[.string (tw 15).1,.string (tw 15).2])∧w'=w:=by
 go_enter Tryz.func24,Tryz.ntmps24
 go_wp2_with fail;go_ret2;exact ⟨rfl,rfl⟩
theorem twins16 (w:World):Calls Tryz.prog 24 #[.int .i64 16] w fun e w'=>e=.returned (.tuple #[.string (tw 16).1,.string (tw 16).2])∧w'=w:=by
 go_enter Tryz.func24,Tryz.ntmps24
 go_wp2_with fail;go_ret2;exact ⟨rfl,rfl⟩
theorem twins17 (w:World):Calls Tryz.prog 24 #[.int .i64 17] w fun e w'=>e=.returned (.tuple #[.string (tw 17).1,.string (tw 17).2])∧w'=w:=by
 go_enter Tryz.func24,Tryz.ntmps24
 go_wp2_with fail;go_ret2;exact ⟨rfl,rfl⟩
theorem twins18 (w:World):Calls Tryz.prog 24 #[.int .i64 18] w fun e w'=>e=.returned (.tuple #[.string (tw 18).1,.string (tw 18).2])∧w'=w:=by
 go_enter Tryz.func24,Tryz.ntmps24
 go_wp2_with fail;go_ret2;exact ⟨rfl,rfl⟩
theorem twins19 (w:World):Calls Tryz.prog 24 #[.int .i64 19] w fun e w'=>e=.returned (.tuple #[.string (tw 19).1,.string (tw 19).2])∧w'=w:=by
 go_enter Tryz.func24,Tryz.ntmps24
 go_wp2_with fail;go_ret2;exact ⟨rfl,rfl⟩
theorem twins20 (w:World):Calls Tryz.prog 24 #[.int .i64 20] w fun e w'=>e=.returned (.tuple #[.string (tw 20).1,.string (tw 20).2])∧w'=w:=by
 go_enter Tryz.func24,Tryz.ntmps24
 go_wp2_with fail;go_ret2;exact ⟨rfl,rfl⟩
theorem twins21 (w:World):Calls Tryz.prog 24 #[.int .i64 21] w fun e w'=>e=.returned (.tuple #[.string (tw 21).1,.string (tw 21).2])∧w'=w:=by
 go_enter Tryz.func24,Tryz.ntmps24
 go_wp2_with fail;go_ret2;exact ⟨rfl,rfl⟩
theorem twins22 (w:World):Calls Tryz.prog 24 #[.int .i64 22] w fun e w'=>e=.returned (.tuple #[.string (tw 22).1,.string (tw 22).2])∧w'=w:=by
 go_enter Tryz.func24,Tryz.ntmps24
 go_wp2_with fail;go_ret2;exact ⟨rfl,rfl⟩
theorem twins23 (w:World):Calls Tryz.prog 24 #[.int .i64 23] w fun e w'=>e=.returned (.tuple #[.string (tw 23).1,.string (tw 23).2])∧w'=w:=by
 go_enter Tryz.func24,Tryz.ntmps24
 go_wp2_with fail;go_ret2;exact ⟨rfl,rfl⟩
theorem twins24 (w:World):Calls Tryz.prog 24 #[.int .i64 24] w fun e w'=>e=.returned (.tuple #[.string (tw 24).1,.string (tw 24).2])∧w'=w:=by
 go_enter Tryz.func24,Tryz.ntmps24
 go_wp2_with fail;go_ret2;exact ⟨rfl,rfl⟩
theorem twins25 (w:World):Calls Tryz.prog 24 #[.int .i64 25] w fun e w'=>e=.returned (.tuple #[.string (tw 25).1,.string (tw 25).2])∧w'=w:=by
 go_enter Tryz.func24,Tryz.ntmps24
 go_wp2_with fail;go_ret2;exact ⟨rfl,rfl⟩
theorem twins26 (w:World):Calls Tryz.prog 24 #[.int .i64 26] w fun e w'=>e=.returned (.tuple #[.string (tw 26).1,.string (tw 26).2])∧w'=w:=by
 go_enter Tryz.func24,Tryz.ntmps24
 go_wp2_with fail;go_ret2;exact ⟨rfl,rfl⟩
theorem twins27 (w:World):Calls Tryz.prog 24 #[.int .i64 27] w fun e w'=>e=.returned (.tuple #[.string (tw 27).1,.string (tw 27).2])∧w'=w:=by
 go_enter Tryz.func24,Tryz.ntmps24
 go_wp2_with fail;go_ret2;exact ⟨rfl,rfl⟩
theorem twins28 (w:World):Calls Tryz.prog 24 #[.int .i64 28] w fun e w'=>e=.returned (.tuple #[.string (tw 28).1,.string (tw 28).2])∧w'=w:=by
 go_enter Tryz.func24,Tryz.ntmps24
 go_wp2_with fail;go_ret2;exact ⟨rfl,rfl⟩
theorem twins29 (w:World):Calls Tryz.prog 24 #[.int .i64 29] w fun e w'=>e=.returned (.tuple #[.string (tw 29).1,.string (tw 29).2])∧w'=w:=by
 go_enter Tryz.func24,Tryz.ntmps24
 go_wp2_with fail;go_ret2;exact ⟨rfl,rfl⟩
theorem twins_any (n:Nat) (hn:n<30) (w:World):Calls Tryz.prog 24 #[.int .i64 (n:Int)] w fun e w'=>e=.returned (.tuple #[.string (tw n).1,.string (tw n).2])∧w'=w:=by
 match n,hn with
 | 0,_=>exact twins0 w
 | 1,_=>exact twins1 w
 | 2,_=>exact twins2 w
 | 3,_=>exact twins3 w
 | 4,_=>exact twins4 w
 | 5,_=>exact twins5 w
 | 6,_=>exact twins6 w
 | 7,_=>exact twins7 w
 | 8,_=>exact twins8 w
 | 9,_=>exact twins9 w
 | 10,_=>exact twins10 w
 | 11,_=>exact twins11 w
 | 12,_=>exact twins12 w
 | 13,_=>exact twins13 w
 | 14,_=>exact twins14 w
 | 15,_=>exact twins15 w
 | 16,_=>exact twins16 w
 | 17,_=>exact twins17 w
 | 18,_=>exact twins18 w
 | 19,_=>exact twins19 w
 | 20,_=>exact twins20 w
 | 21,_=>exact twins21 w
 | 22,_=>exact twins22 w
 | 23,_=>exact twins23 w
 | 24,_=>exact twins24 w
 | 25,_=>exact twins25 w
 | 26,_=>exact twins26 w
 | 27,_=>exact twins27 w
 | 28,_=>exact twins28 w
 | 29,_=>exact twins29 w
 | n+30,h=>exact absurd h (by omega)
def Mine (w0 w:World) (p:Nat) (st:Mo.Ses):Prop:=∃ X,Sess w X p st∧(∀ k,X k→w0.heap.size≤k)∧Kept No w0 w
theorem Mine.kept {w0 w:World} {p:Nat} {st:Mo.Ses} (h:Mine w0 w p st):Kept No w0 w:=by obtain ⟨X,_,_,h⟩:=h;exact h
theorem Mine.env {w0 w:World} {p:Nat} {st:Mo.Ses} (h:Mine w0 w p st):Env w:=by obtain ⟨X,h,_⟩:=h;exact h.env
theorem Mine.stays {w0 w w':World} {p:Nat} {st:Mo.Ses} (h:Mine w0 w p st) (k:Kept No w w'):Mine w0 w' p st:=by
 obtain ⟨X,h1,h2,h3⟩:=h
 exact ⟨X,h1.stays k (fun _ e=>e.elim) (fun e=>e),h2,h3.seq k⟩
theorem Mine.step {w0 w w':World} {p:Nat} {st':Mo.Ses} {X X':Nat→Prop} (h2:∀ k,X k→w0.heap.size≤k) (h3:Kept No w0 w) (h:Sess w' X' p st') (hk:SKept X X' w w'):Mine w0 w' p st' :=
 ⟨X',h,fun k e=>(hk.2 k e).elim (h2 k) (fun e=>Nat.le_trans h3.size e),h3.trans hk.1 (fun _ e=>e) (fun k hl e=>by have:=h2 k e;omega)⟩
theorem new_go (w:World) (hE:Env w):Calls Tryz.prog 34 #[] w fun e w'=>e=.returned (.pointer (some ⟨w.heap.size,0,none⟩))∧Mine w w' w.heap.size ⟨[],[]⟩:=by
 refine (new_any w hE).mono ?_;rintro e w' ⟨a,b,c⟩;refine ⟨a,_,b,?_,c⟩;intro k e;exact Nat.le_of_eq e.symm
section
variable {w0 w:World} {p:Nat} {st:Mo.Ses}
theorem table_go (h:Mine w0 w p st) (nm tp:ByteArray):Calls Tryz.prog 35 #[.pointer (some ⟨p,0,none⟩),.string nm,.string tp] w fun e w'=>e=.returned (.int .i64 (tableM st nm tp).1)∧Mine w0 w' p (tableM st nm tp).2:=by
 obtain ⟨X,h1,h2,h3⟩:=h
 exact (table_any h1 nm tp).mono fun e w' ⟨a,X',b,c⟩=>⟨a,Mine.step h2 h3 b c⟩
theorem view_go (h:Mine w0 w p st) (s:ByteArray):Calls Tryz.prog 17 #[.pointer (some ⟨p,0,none⟩),.string s] w fun e w'=>e=.returned (view3 (viewM st s).1)∧Mine w0 w' p (viewM st s).2:=by
 obtain ⟨X,h1,h2,h3⟩:=h
 exact (view_any h1 s).mono fun e w' ⟨a,X',b,c⟩=>⟨a,Mine.step h2 h3 b c⟩
theorem feed_go (h:Mine w0 w p st) (s:ByteArray):Calls Tryz.prog 20 #[.pointer (some ⟨p,0,none⟩),.string s] w fun e w'=>e=.returned (two2 (feedM st s).1)∧Mine w0 w' p (feedM st s).2:=by
 obtain ⟨X,h1,h2,h3⟩:=h
 exact (feed_any h1 s).mono fun e w' ⟨a,X',b,c⟩=>⟨a,Mine.step h2 h3 b c⟩
theorem show_go (h:Mine w0 w p st) (i:Int):Calls Tryz.prog 19 #[.pointer (some ⟨p,0,none⟩),.int .i64 i] w fun e w'=>e=.returned (.tuple #[strL (showM st i).1,.int .i64 (showM st i).2])∧Mine w0 w' p st:=by
 have hm:=h;obtain ⟨X,h1,h2,h3⟩:=h
 exact (show_any h1 i).mono fun e w' ⟨a,_,c⟩=>⟨a,hm.stays c⟩
end
def aw1:Mo.Ses:=(tableM ⟨[],[]⟩ ⟨#[114]⟩ ⟨#[105,116]⟩).2
def aw2:Mo.Ses:=(viewM aw1 ⟨#[83,91,48,60,35,53,93,40,114,41]⟩).2
def aw3:Mo.Ses:=(viewM aw2 ⟨#[71,91,49,93,91,115,48,93,40,114,41]⟩).2
def aw4:Mo.Ses:=(feedM aw3 ⟨#[43,114,40,49,44,97,98,41,59,43,114,40,49,44,97,98,41,59,43,114,40,55,44,98,41]⟩).2
theorem aw_1:(tableM ⟨[],[]⟩ ⟨#[114]⟩ ⟨#[105,116]⟩).1=0:=by kernel_rfl
theorem aw_2:view3 (viewM aw1 ⟨#[83,91,48,60,35,53,93,40,114,41]⟩).1=.tuple #[.int .i64 0,.string ⟨#[]⟩,.int .i64 0]:=by kernel_rfl
theorem aw_3:view3 (viewM aw2 ⟨#[71,91,49,93,91,115,48,93,40,114,41]⟩).1=.tuple #[.int .i64 1,.string ⟨#[]⟩,.int .i64 0]:=by kernel_rfl
theorem aw_4:two2 (feedM aw3 ⟨#[43,114,40,49,44,97,98,41,59,43,114,40,49,44,97,98,41,59,43,114,40,55,44,98,41]⟩).1=.tuple #[.string ⟨#[40,49,44,97,98,41,42,50,124,40,97,98,44,50,41,42,49,59,40,98,44,55,41,42,49]⟩,.int .i64 0]:=by kernel_rfl
theorem aw_5:two2 (feedM aw4 ⟨#[45,114,40,49,44,97,98,41,59,43,114,40,51,44,98,41]⟩).1=.tuple #[.string ⟨#[40,49,44,97,98,41,42,45,49,59,40,51,44,98,41,42,49,124,40,97,98,44,49,41,42,49,59,40,97,98,44,50,41,42,45,49,59,40,98,44,55,41,42,45,49,59,40,98,44,49,48,41,42,49]⟩,.int .i64 0]:=by kernel_rfl
theorem awake_any (w:World) (hE:Env w):Calls Tryz.prog 13 #[] w fun e w'=>e=.returned (.bool true)∧Kept No w w':=by
 have HE:=hid hE;clear hE
 go_enter Tryz.func13,Tryz.ntmps13
 go_wp2_with fail;refine (new_go w HE.out).mono ?_;rintro e w1 ⟨rfl,h1⟩;have H1:=hid h1;clear h1;go_wp2_with fail;refine (table_go H1.out ⟨#[114]⟩ ⟨#[105,116]⟩).mono ?_;rintro e w2 ⟨he,h2⟩;rw [aw_1] at he;subst he;have H2:Hid (Mine w w2 w.heap.size aw1):=h2;clear h2 H1;go_wp2_with fail;refine (view_go H2.out ⟨#[83,91,48,60,35,53,93,40,114,41]⟩).mono ?_;rintro e w3 ⟨he,h3⟩;rw [aw_2] at he;subst he;have H3:Hid (Mine w w3 w.heap.size aw2):=h3;clear h3 H2;go_wp2_with fail;refine (view_go H3.out ⟨#[71,91,49,93,91,115,48,93,40,114,41]⟩).mono ?_;rintro e w4 ⟨he,h4⟩;rw [aw_3] at he;subst he;have H4:Hid (Mine w w4 w.heap.size aw3):=h4;clear h4 H3;go_wp2_with fail;refine (feed_go H4.out ⟨#[43,114,40,49,44,97,98,41,59,43,114,40,49,44,97,98,41,59,43,114,40,55,44,98,41]⟩).mono ?_;rintro e w5 ⟨he,h5⟩;rw [aw_4] at he;subst he;have H5:Hid (Mine w w5 w.heap.size aw4):=h5;clear h5 H4;go_wp2_with fail;refine (feed_go H5.out ⟨#[45,114,40,49,44,97,98,41,59,43,114,40,51,44,98,41]⟩).mono ?_
 rintro e w6 ⟨he,h6⟩;rw [aw_5] at he;subst he;have H6:=hid h6.kept;clear h6 H5;go_wp2_with fail;go_ret;exact ⟨rfl,H6.out⟩
def fr1:Mo.Ses:=(tableM ⟨[],[]⟩ ⟨#[114]⟩ ⟨#[105,116]⟩).2
def fr2:Mo.Ses:=(tableM fr1 ⟨#[113]⟩ ⟨#[105,116]⟩).2
def fr3:Mo.Ses:=(tableM fr2 ⟨#[115]⟩ ⟨#[116,105]⟩).2
theorem fr_1:(tableM ⟨[],[]⟩ ⟨#[114]⟩ ⟨#[105,116]⟩).1=0:=by kernel_rfl
theorem fr_2:(tableM fr1 ⟨#[113]⟩ ⟨#[105,116]⟩).1=0:=by kernel_rfl
theorem fr_3:(tableM fr2 ⟨#[115]⟩ ⟨#[116,105]⟩).1=0:=by kernel_rfl
theorem fresh_any (w:World) (hE:Env w):Calls Tryz.prog 15 #[] w fun e w'=>∃ p,e=.returned (.pointer (some ⟨p,0,none⟩))∧Mine w w' p fr3:=by
 have HE:=hid hE;clear hE
 go_enter Tryz.func15,Tryz.ntmps15
 go_wp2_with fail;refine (new_go w HE.out).mono ?_;rintro e w1 ⟨rfl,h1⟩;have H1:=hid h1;clear h1;go_wp2_with fail;refine (table_go H1.out ⟨#[114]⟩ ⟨#[105,116]⟩).mono ?_;rintro e w2 ⟨he,h2⟩;rw [fr_1] at he;subst he;have H2:Hid (Mine w w2 w.heap.size fr1):=h2;clear h2 H1;go_wp2_with fail;refine (table_go H2.out ⟨#[113]⟩ ⟨#[105,116]⟩).mono ?_;rintro e w3 ⟨he,h3⟩;rw [fr_2] at he;subst he;have H3:Hid (Mine w w3 w.heap.size fr2):=h3;clear h3 H2;go_wp2_with fail;refine (table_go H3.out ⟨#[115]⟩ ⟨#[116,105]⟩).mono ?_;rintro e w4 ⟨he,h4⟩;rw [fr_3] at he;subst he;have H4:Hid (Mine w w4 w.heap.size fr3):=h4;clear h4 H3;go_wp2_with fail;go_ret;exact ⟨_,rfl,H4.out⟩
def abS:Mo.Ses:=(feedM fr3 ⟨#[43,114,40,49,44,97,41,59,43,114,40,50,44,98,41,59,43,113,40,49,44,97,41,59,43,115,40,97,44,49,41]⟩).2
theorem ab_1:two2 (feedM fr3 ⟨#[43,114,40,49,44,97,41,59,43,114,40,50,44,98,41,59,43,113,40,49,44,97,41,59,43,115,40,97,44,49,41]⟩).1=.tuple #[.string ⟨#[]⟩,.int .i64 0]:=by kernel_rfl
def abN (n:Nat):Bool:=decide ((viewM abS (tw n).1).1.1=0) && decide ((viewM abS (tw n).1).1.2.2=0) && decide ((viewM (viewM abS (tw n).1).2 (tw n).2).1.1=1) && decide ((viewM (viewM abS (tw n).1).2 (tw n).2).1.2.2=0) && decide ((viewM (viewM abS (tw n).1).2 (tw n).2).1.2.1=(viewM abS (tw n).1).1.2.1)
theorem ab_all:(List.range 30).all abN=true:=by kernel_rfl
theorem ab_n {n:Nat} (h:n<30):∃ t:ByteArray,view3 (viewM abS (tw n).1).1=.tuple #[.int .i64 0,.string t,.int .i64 0]∧view3 (viewM (viewM abS (tw n).1).2 (tw n).2).1=.tuple #[.int .i64 1,.string t,.int .i64 0]:=by
 have:=List.all_eq_true.1 ab_all n (List.mem_range.2 h)
 unfold abN at this;simp only [Bool.and_eq_true,decide_eq_true_eq] at this;obtain ⟨⟨⟨⟨h1,h2⟩,h3⟩,h4⟩,h5⟩:=this;refine ⟨⟨(viewM abS (tw n).1).1.2.1.toArray⟩,?_,?_⟩
 ·unfold view3;rw [h1,h2];rfl
 ·unfold view3;rw [h3,h4,h5];rfl
theorem able_any (s:ByteArray) (w:World) (hE:Env w) (hs:s.size≤140737488355328):Calls Tryz.prog 14 #[.string s] w fun e w'=>e=.returned (.bool true)∧Kept No w w':=by
 have HE:=hid hE;clear hE
 go_enter Tryz.func14,Tryz.ntmps14
 go_wp2_with fail;refine (fresh_any w HE.out).mono ?_;rintro e w1 ⟨p,rfl,h1⟩;have H1:=hid h1;clear h1;go_wp2_with fail
 go_loopg [4,5] s.size (fun k v4 v5 wr=>∃ (i:Nat) (c:Int),i+k=s.size∧v4=.int .i64 c∧v5=.int .i64 (i:Int)∧0≤c∧c≤s.size+255*i∧wr=w1)
 case atStart=>exact ⟨0,s.size,by omega,rfl,rfl,by omega,by omega,rfl⟩
 case round =>
  obtain ⟨i,c,hik,rfl,rfl,hc0,hc1,rfl⟩:=hrel
  cases gk with
  | zero =>
    have hx:¬(i:Int)<(s.size:Int):=by omega
    have hpr:=pickM_range c 30 (by omega)
    obtain ⟨n,hn,hn3⟩:∃ n:Nat,pickM c 30=(n:Int)∧n<30:=⟨(pickM c 30).toNat,by omega,by omega⟩
    obtain ⟨t,ht1,ht2⟩:=ab_n hn3;have HT1:=hid ht1;have HT2:=hid ht2
    have HPk:=hid (kpick_any c 30 wr (by omega) (by omega))
    have HTw:=hid (twins_any n hn3 wr);rw [hn] at HPk;clear ht1 ht2 hpr hn;go_wp2_with fail;refine HPk.out.mono ?_;rintro e w2 ⟨rfl,rfl⟩;clear HPk;go_wp2_with fail;refine HTw.out.mono ?_;rintro e w2 ⟨rfl,rfl⟩;clear HTw;go_wp2_with fail;refine (feed_go H1.out _).mono ?_;rintro e w3 ⟨he,h3⟩;rw [ab_1] at he;subst he;have H3:Hid (Mine w w3 p abS):=h3;clear h3 H1;go_wp2_with fail;refine (view_go H3.out (tw n).1).mono ?_;rintro e w4 ⟨he,h4⟩;rw [HT1.out] at he;subst he;have H4:=hid h4;clear h4 H3;go_wp2_with fail;refine (view_go H4.out (tw n).2).mono ?_;rintro e w5 ⟨he,h5⟩;rw [HT2.out] at he;subst he;have H5:=hid h5.kept;clear h5 H4;go_wp2_with fail;go_ret;exact ⟨rfl,H5.out⟩
  | succ k =>
    have hx:(i:Int)<(s.size:Int):=by omega
    have hx0:(0:Int)≤(i:Int):=by omega
    have hil:i<s.size:=by omega
    have hb:s[i].toNat<256:=UInt8.toNat_lt _
    have HW1:Hid (wrap64 ((s[i].toNat:Nat):Int)=((s[i].toNat:Nat):Int)):=by show _=_;unfold wrap64;omega
    have HW2:Hid (wrap64 (c+((s[i].toNat:Nat):Int))=c+((s[i].toNat:Nat):Int)):=by show _=_;unfold wrap64;omega
    have HC:Hid (0≤c+((s[i].toNat:Nat):Int)∧c+((s[i].toNat:Nat):Int)≤s.size+255*((i+1:Nat):Int)):=by show _∧_;omega
    clear hb;go_wp2_with fail;go_roundg k
    case measure=>omega
    case rel=>exact ⟨i+1,c+((s[i].toNat:Nat):Int),by omega,by rw [HW1.out,HW2.out],by go_num,HC.out.1,HC.out.2,rfl⟩
def I64 (c:Int):Prop:= -9223372036854775808≤c∧c≤9223372036854775807
def sgB (goes:Bool):ByteArray:=if goes then ⟨#[45]⟩ else ⟨#[43]⟩
def dgB (d:Nat):ByteArray:=(⟨#[48,49,50,51,52,53,54,55,56,57]⟩:ByteArray).extract d (d+1)
def nuB (n:Int):ByteArray:=if pickM n 7=6 then ⟨#[45,55]⟩ else dgB (pickM n 5).toNat
def wdB (k:Int):ByteArray:=match (pickM k 4).toNat with
 | 0=>⟨#[97]⟩
 | 1=>⟨#[97,98]⟩
 | 2=>⟨#[98]⟩
 | _=>⟨#[122,122]⟩
def chX (goes:Bool) (u:Int) (N W:ByteArray):ByteArray:=if u=0 then sgB goes++⟨#[114,40]⟩++N++⟨#[44]⟩++W++⟨#[41]⟩ else if u=1 then sgB goes++⟨#[113,40]⟩++N++⟨#[44]⟩++W++⟨#[41]⟩ else sgB goes++⟨#[115,40]⟩++W++⟨#[44]⟩++N++⟨#[41]⟩
def chB (goes:Bool) (t n k:Int):ByteArray:=chX goes (pickM t 3) (nuB n) (wdB k)
theorem wdB_size (k:Int):(wdB k).size≤2:=by unfold wdB;split <;> decide
theorem dgB_size (d:Nat):(dgB d).size≤1:=by
 unfold dgB;rw [ByteArray.size_extract];omega
theorem nuB_size (n:Int):(nuB n).size≤2:=by
 unfold nuB;split
 ·decide
 ·have:=dgB_size (pickM n 5).toNat;omega
theorem chB_size (goes:Bool) (t n k:Int):(chB goes t n k).size≤9:=by
 have h1:=wdB_size k;have h2:=nuB_size n
 have h3:(sgB goes).size=1:=by cases goes <;> rfl
 unfold chB chX
 split
 ·simp only [ByteArray.size_append,h3]
  show 1+2+_+1+_+1≤9
  omega
 ·split
  ·simp only [ByteArray.size_append,h3]
   show 1+2+_+1+_+1≤9
   omega
  ·simp only [ByteArray.size_append,h3]
   show 1+2+_+1+_+1≤9
   omega
theorem change_c6 (g t n k m u:Int) (dn qn:Nat) (W D:ByteArray) (w:World) (hDe:(⟨#[48,49,50,51,52,53,54,55,56,57]⟩:ByteArray).extract dn (dn+1)=D) (_hDs:D.size≤1) (hd:dn<5) (hqn:qn<4) (hu:0≤u∧u<3) (hm:m=6) (hW:(#[Value.string ⟨#[97]⟩,Value.string ⟨#[97,98]⟩,Value.string ⟨#[98]⟩,Value.string ⟨#[122,122]⟩])[qn]? =some (.string W)) (hWs:W.size≤2)
 (H5:Hid (∀ w1,Calls Tryz.prog 25 #[.int .i64 n,.int .i64 5] w1 fun e w'=>e=.returned (.int .i64 (dn:Int))∧w'=w1)) (H7:Hid (∀ w1,Calls Tryz.prog 25 #[.int .i64 n,.int .i64 7] w1 fun e w'=>e=.returned (.int .i64 m)∧w'=w1)) (H4:Hid (∀ w1,Calls Tryz.prog 25 #[.int .i64 k,.int .i64 4] w1 fun e w'=>e=.returned (.int .i64 (qn:Int))∧w'=w1)) (H3:Hid (∀ w1,Calls Tryz.prog 25 #[.int .i64 t,.int .i64 3] w1 fun e w'=>e=.returned (.int .i64 u)∧w'=w1)) :
 Calls Tryz.prog 27 #[.agg #[.int .i64 g,.int .i64 t,.int .i64 n,.int .i64 k],.bool false] w fun e w'=>e=.returned (.string (chX false u ⟨#[45,55]⟩ W))∧Kept No w w':=by
 have f0:(0:Int)≤(qn:Int):=by omega
 have f1:(qn:Int)<4:=by omega
 have b0:(0:Int)≤(dn:Int):=by omega
 have b1:(dn:Int)≤(dn:Int)+1:=by omega
 have b2:(dn:Int)+1≤10:=by omega
 have b3:IntKind.i64.wrap ((dn:Int)+1)=(dn:Int)+1:=IntWalk.i64_in _ (by omega)
 have hw2:(w.alloc (.cells #[.int .i64 g,.int .i64 t,.int .i64 n,.int .i64 k] 55)).cell? ⟨w.heap.size,2,none⟩=some (.int .i64 n):=(cell_of (heap_alloc_new w _) 2).trans rfl
 have hq:(((w.alloc (.cells #[.int .i64 g,.int .i64 t,.int .i64 n,.int .i64 k] 55)).alloc (.cells #[.string ⟨#[97]⟩,.string ⟨#[97,98]⟩,.string ⟨#[98]⟩,.string ⟨#[122,122]⟩] 9)).drew).cell? ⟨w.heap.size+1,qn,none⟩=some (.string W):=(cell_of (show (((w.alloc _).alloc _).drew).heap[w.heap.size+1]? =_ from heap_alloc2_new _ _ _) qn).trans hW
 have HKp:Hid (Kept No w (((w.alloc (.cells #[.int .i64 g,.int .i64 t,.int .i64 n,.int .i64 k] 55)).alloc (.cells #[.string ⟨#[97]⟩,.string ⟨#[97,98]⟩,.string ⟨#[98]⟩,.string ⟨#[122,122]⟩] 9)).drew)):=(((Kept.refl No w).alloc _).alloc _).drew;clear hW hd hqn;subst hm
 go_enter Tryz.func27,Tryz.ntmps27
 go_wp2_with fail
 go_region_held3 (fun w'=>w'.cell? ⟨w.heap.size,2,none⟩=some (.int .i64 n)) (go_keep)
  (first
    | (go_at_call 25;refine (H5.out _).mono ?_;rintro e w1 ⟨rfl,rfl⟩)
    | fail)
 go_wp2_with fail;refine (H7.out _).mono ?_;rintro e w1 ⟨rfl,rfl⟩;go_wp2_with fail;refine (H4.out _).mono ?_;rintro e w1 ⟨rfl,rfl⟩;go_wp2_with fail;refine (H3.out _).mono ?_;rintro e w1 ⟨rfl,rfl⟩
 obtain rfl | rfl | rfl:u=0∨u=1∨u=2:=by omega
 ·go_wp2_with fail
  go_ret;exact ⟨rfl,HKp.out⟩
 ·go_wp2_with fail
  go_ret;exact ⟨rfl,HKp.out⟩
 ·go_wp2_with fail
  go_ret;exact ⟨rfl,HKp.out⟩
theorem change_cd (g t n k m u:Int) (dn qn:Nat) (W D:ByteArray) (w:World) (hDe:(⟨#[48,49,50,51,52,53,54,55,56,57]⟩:ByteArray).extract dn (dn+1)=D) (_hDs:D.size≤1) (hd:dn<5) (hqn:qn<4) (hu:0≤u∧u<3) (hm:((m:Int) == 6)=false) (hW:(#[Value.string ⟨#[97]⟩,Value.string ⟨#[97,98]⟩,Value.string ⟨#[98]⟩,Value.string ⟨#[122,122]⟩])[qn]? =some (.string W)) (hWs:W.size≤2)
 (H5:Hid (∀ w1,Calls Tryz.prog 25 #[.int .i64 n,.int .i64 5] w1 fun e w'=>e=.returned (.int .i64 (dn:Int))∧w'=w1)) (H7:Hid (∀ w1,Calls Tryz.prog 25 #[.int .i64 n,.int .i64 7] w1 fun e w'=>e=.returned (.int .i64 m)∧w'=w1)) (H4:Hid (∀ w1,Calls Tryz.prog 25 #[.int .i64 k,.int .i64 4] w1 fun e w'=>e=.returned (.int .i64 (qn:Int))∧w'=w1)) (H3:Hid (∀ w1,Calls Tryz.prog 25 #[.int .i64 t,.int .i64 3] w1 fun e w'=>e=.returned (.int .i64 u)∧w'=w1)) :
 Calls Tryz.prog 27 #[.agg #[.int .i64 g,.int .i64 t,.int .i64 n,.int .i64 k],.bool false] w fun e w'=>e=.returned (.string (chX false u D W))∧Kept No w w':=by
 have f0:(0:Int)≤(qn:Int):=by omega
 have f1:(qn:Int)<4:=by omega
 have b0:(0:Int)≤(dn:Int):=by omega
 have b1:(dn:Int)≤(dn:Int)+1:=by omega
 have b2:(dn:Int)+1≤10:=by omega
 have b3:IntKind.i64.wrap ((dn:Int)+1)=(dn:Int)+1:=IntWalk.i64_in _ (by omega)
 have hw2:(w.alloc (.cells #[.int .i64 g,.int .i64 t,.int .i64 n,.int .i64 k] 55)).cell? ⟨w.heap.size,2,none⟩=some (.int .i64 n):=(cell_of (heap_alloc_new w _) 2).trans rfl
 have hq:(((w.alloc (.cells #[.int .i64 g,.int .i64 t,.int .i64 n,.int .i64 k] 55)).alloc (.cells #[.string ⟨#[97]⟩,.string ⟨#[97,98]⟩,.string ⟨#[98]⟩,.string ⟨#[122,122]⟩] 9)).drew).cell? ⟨w.heap.size+1,qn,none⟩=some (.string W):=(cell_of (show (((w.alloc _).alloc _).drew).heap[w.heap.size+1]? =_ from heap_alloc2_new _ _ _) qn).trans hW
 have HKp:Hid (Kept No w (((w.alloc (.cells #[.int .i64 g,.int .i64 t,.int .i64 n,.int .i64 k] 55)).alloc (.cells #[.string ⟨#[97]⟩,.string ⟨#[97,98]⟩,.string ⟨#[98]⟩,.string ⟨#[122,122]⟩] 9)).drew)):=(((Kept.refl No w).alloc _).alloc _).drew;clear hW hd hqn
 go_enter Tryz.func27,Tryz.ntmps27
 go_wp2_with fail
 go_region_held3 (fun w'=>w'.cell? ⟨w.heap.size,2,none⟩=some (.int .i64 n)) (go_keep)
  (first
    | (go_at_call 25;refine (H5.out _).mono ?_;rintro e w1 ⟨rfl,rfl⟩)
    | fail)
 go_wp2_with fail;refine (H7.out _).mono ?_;rintro e w1 ⟨rfl,rfl⟩;go_wp2_with fail;refine (H4.out _).mono ?_;rintro e w1 ⟨rfl,rfl⟩;go_wp2_with fail;refine (H3.out _).mono ?_;rintro e w1 ⟨rfl,rfl⟩
 obtain rfl | rfl | rfl:u=0∨u=1∨u=2:=by omega
 ·go_wp2_with fail
  go_ret;exact ⟨rfl,HKp.out⟩
 ·go_wp2_with fail
  go_ret;exact ⟨rfl,HKp.out⟩
 ·go_wp2_with fail
  go_ret;exact ⟨rfl,HKp.out⟩
theorem change_g6 (g t n k m u:Int) (dn qn:Nat) (W D:ByteArray) (w:World) (hDe:(⟨#[48,49,50,51,52,53,54,55,56,57]⟩:ByteArray).extract dn (dn+1)=D) (_hDs:D.size≤1) (hd:dn<5) (hqn:qn<4) (hu:0≤u∧u<3) (hm:m=6) (hW:(#[Value.string ⟨#[97]⟩,Value.string ⟨#[97,98]⟩,Value.string ⟨#[98]⟩,Value.string ⟨#[122,122]⟩])[qn]? =some (.string W)) (hWs:W.size≤2)
 (H5:Hid (∀ w1,Calls Tryz.prog 25 #[.int .i64 n,.int .i64 5] w1 fun e w'=>e=.returned (.int .i64 (dn:Int))∧w'=w1)) (H7:Hid (∀ w1,Calls Tryz.prog 25 #[.int .i64 n,.int .i64 7] w1 fun e w'=>e=.returned (.int .i64 m)∧w'=w1)) (H4:Hid (∀ w1,Calls Tryz.prog 25 #[.int .i64 k,.int .i64 4] w1 fun e w'=>e=.returned (.int .i64 (qn:Int))∧w'=w1)) (H3:Hid (∀ w1,Calls Tryz.prog 25 #[.int .i64 t,.int .i64 3] w1 fun e w'=>e=.returned (.int .i64 u)∧w'=w1)) :
 Calls Tryz.prog 27 #[.agg #[.int .i64 g,.int .i64 t,.int .i64 n,.int .i64 k],.bool true] w fun e w'=>e=.returned (.string (chX true u ⟨#[45,55]⟩ W))∧Kept No w w':=by
 have f0:(0:Int)≤(qn:Int):=by omega
 have f1:(qn:Int)<4:=by omega
 have b0:(0:Int)≤(dn:Int):=by omega
 have b1:(dn:Int)≤(dn:Int)+1:=by omega
 have b2:(dn:Int)+1≤10:=by omega
 have b3:IntKind.i64.wrap ((dn:Int)+1)=(dn:Int)+1:=IntWalk.i64_in _ (by omega)
 have hw2:(w.alloc (.cells #[.int .i64 g,.int .i64 t,.int .i64 n,.int .i64 k] 55)).cell? ⟨w.heap.size,2,none⟩=some (.int .i64 n):=(cell_of (heap_alloc_new w _) 2).trans rfl
 have hq:(((w.alloc (.cells #[.int .i64 g,.int .i64 t,.int .i64 n,.int .i64 k] 55)).alloc (.cells #[.string ⟨#[97]⟩,.string ⟨#[97,98]⟩,.string ⟨#[98]⟩,.string ⟨#[122,122]⟩] 9)).drew).cell? ⟨w.heap.size+1,qn,none⟩=some (.string W):=(cell_of (show (((w.alloc _).alloc _).drew).heap[w.heap.size+1]? =_ from heap_alloc2_new _ _ _) qn).trans hW
 have HKp:Hid (Kept No w (((w.alloc (.cells #[.int .i64 g,.int .i64 t,.int .i64 n,.int .i64 k] 55)).alloc (.cells #[.string ⟨#[97]⟩,.string ⟨#[97,98]⟩,.string ⟨#[98]⟩,.string ⟨#[122,122]⟩] 9)).drew)):=(((Kept.refl No w).alloc _).alloc _).drew;clear hW hd hqn;subst hm
 go_enter Tryz.func27,Tryz.ntmps27
 go_wp2_with fail
 go_region_held3 (fun w'=>w'.cell? ⟨w.heap.size,2,none⟩=some (.int .i64 n)) (go_keep)
  (first
    | (go_at_call 25;refine (H5.out _).mono ?_;rintro e w1 ⟨rfl,rfl⟩)
    | fail)
 go_wp2_with fail;refine (H7.out _).mono ?_;rintro e w1 ⟨rfl,rfl⟩;go_wp2_with fail;refine (H4.out _).mono ?_;rintro e w1 ⟨rfl,rfl⟩;go_wp2_with fail;refine (H3.out _).mono ?_;rintro e w1 ⟨rfl,rfl⟩
 obtain rfl | rfl | rfl:u=0∨u=1∨u=2:=by omega
 ·go_wp2_with fail
  go_ret;exact ⟨rfl,HKp.out⟩
 ·go_wp2_with fail
  go_ret;exact ⟨rfl,HKp.out⟩
 ·go_wp2_with fail
  go_ret;exact ⟨rfl,HKp.out⟩
theorem change_gd (g t n k m u:Int) (dn qn:Nat) (W D:ByteArray) (w:World) (hDe:(⟨#[48,49,50,51,52,53,54,55,56,57]⟩:ByteArray).extract dn (dn+1)=D) (_hDs:D.size≤1) (hd:dn<5) (hqn:qn<4) (hu:0≤u∧u<3) (hm:((m:Int) == 6)=false) (hW:(#[Value.string ⟨#[97]⟩,Value.string ⟨#[97,98]⟩,Value.string ⟨#[98]⟩,Value.string ⟨#[122,122]⟩])[qn]? =some (.string W)) (hWs:W.size≤2)
 (H5:Hid (∀ w1,Calls Tryz.prog 25 #[.int .i64 n,.int .i64 5] w1 fun e w'=>e=.returned (.int .i64 (dn:Int))∧w'=w1)) (H7:Hid (∀ w1,Calls Tryz.prog 25 #[.int .i64 n,.int .i64 7] w1 fun e w'=>e=.returned (.int .i64 m)∧w'=w1)) (H4:Hid (∀ w1,Calls Tryz.prog 25 #[.int .i64 k,.int .i64 4] w1 fun e w'=>e=.returned (.int .i64 (qn:Int))∧w'=w1)) (H3:Hid (∀ w1,Calls Tryz.prog 25 #[.int .i64 t,.int .i64 3] w1 fun e w'=>e=.returned (.int .i64 u)∧w'=w1)) :
 Calls Tryz.prog 27 #[.agg #[.int .i64 g,.int .i64 t,.int .i64 n,.int .i64 k],.bool true] w fun e w'=>e=.returned (.string (chX true u D W))∧Kept No w w':=by
 have f0:(0:Int)≤(qn:Int):=by omega
 have f1:(qn:Int)<4:=by omega
 have b0:(0:Int)≤(dn:Int):=by omega
 have b1:(dn:Int)≤(dn:Int)+1:=by omega
 have b2:(dn:Int)+1≤10:=by omega
 have b3:IntKind.i64.wrap ((dn:Int)+1)=(dn:Int)+1:=IntWalk.i64_in _ (by omega)
 have hw2:(w.alloc (.cells #[.int .i64 g,.int .i64 t,.int .i64 n,.int .i64 k] 55)).cell? ⟨w.heap.size,2,none⟩=some (.int .i64 n):=(cell_of (heap_alloc_new w _) 2).trans rfl
 have hq:(((w.alloc (.cells #[.int .i64 g,.int .i64 t,.int .i64 n,.int .i64 k] 55)).alloc (.cells #[.string ⟨#[97]⟩,.string ⟨#[97,98]⟩,.string ⟨#[98]⟩,.string ⟨#[122,122]⟩] 9)).drew).cell? ⟨w.heap.size+1,qn,none⟩=some (.string W):=(cell_of (show (((w.alloc _).alloc _).drew).heap[w.heap.size+1]? =_ from heap_alloc2_new _ _ _) qn).trans hW
 have HKp:Hid (Kept No w (((w.alloc (.cells #[.int .i64 g,.int .i64 t,.int .i64 n,.int .i64 k] 55)).alloc (.cells #[.string ⟨#[97]⟩,.string ⟨#[97,98]⟩,.string ⟨#[98]⟩,.string ⟨#[122,122]⟩] 9)).drew)):=(((Kept.refl No w).alloc _).alloc _).drew;clear hW hd hqn
 go_enter Tryz.func27,Tryz.ntmps27
 go_wp2_with fail
 go_region_held3 (fun w'=>w'.cell? ⟨w.heap.size,2,none⟩=some (.int .i64 n)) (go_keep)
  (first
    | (go_at_call 25;refine (H5.out _).mono ?_;rintro e w1 ⟨rfl,rfl⟩)
    | fail)
 go_wp2_with fail;refine (H7.out _).mono ?_;rintro e w1 ⟨rfl,rfl⟩;go_wp2_with fail;refine (H4.out _).mono ?_;rintro e w1 ⟨rfl,rfl⟩;go_wp2_with fail;refine (H3.out _).mono ?_;rintro e w1 ⟨rfl,rfl⟩
 obtain rfl | rfl | rfl:u=0∨u=1∨u=2:=by omega
 ·go_wp2_with fail
  go_ret;exact ⟨rfl,HKp.out⟩
 ·go_wp2_with fail
  go_ret;exact ⟨rfl,HKp.out⟩
 ·go_wp2_with fail
  go_ret;exact ⟨rfl,HKp.out⟩
theorem change_any (g t n k:Int) (goes:Bool) (w:World) (ht:I64 t) (hn:I64 n) (hk:I64 k):Calls Tryz.prog 27 #[.agg #[.int .i64 g,.int .i64 t,.int .i64 n,.int .i64 k],.bool goes] w fun e w'=>e=.returned (.string (chB goes t n k))∧Kept No w w':=by
 have r5:=pickM_range n 5 (by omega)
 have r7:=pickM_range n 7 (by omega)
 have r4:=pickM_range k 4 (by omega)
 have r3:=pickM_range t 3 (by omega)
 obtain ⟨dn,hd⟩:∃ dn:Nat,pickM n 5=(dn:Int):=⟨(pickM n 5).toNat,by omega⟩
 obtain ⟨qn,hq⟩:∃ qn:Nat,pickM k 4=(qn:Int):=⟨(pickM k 4).toNat,by omega⟩
 have H5:Hid (∀ w1,Calls Tryz.prog 25 #[.int .i64 n,.int .i64 5] w1 fun e w'=>e=.returned (.int .i64 (dn:Int))∧w'=w1):=fun w1=>by rw [←hd];exact kpick_any n 5 w1 hn (by omega)
 have H7:Hid (∀ w1,Calls Tryz.prog 25 #[.int .i64 n,.int .i64 7] w1 fun e w'=>e=.returned (.int .i64 (pickM n 7))∧w'=w1):=fun w1=>kpick_any n 7 w1 hn (by omega)
 have H4:Hid (∀ w1,Calls Tryz.prog 25 #[.int .i64 k,.int .i64 4] w1 fun e w'=>e=.returned (.int .i64 (qn:Int))∧w'=w1):=fun w1=>by rw [←hq];exact kpick_any k 4 w1 hk (by omega)
 have H3:Hid (∀ w1,Calls Tryz.prog 25 #[.int .i64 t,.int .i64 3] w1 fun e w'=>e=.returned (.int .i64 (pickM t 3))∧w'=w1):=fun w1=>kpick_any t 3 w1 ht (by omega)
 have hW:(#[Value.string ⟨#[97]⟩,Value.string ⟨#[97,98]⟩,Value.string ⟨#[98]⟩,Value.string ⟨#[122,122]⟩])[qn]? =some (.string (wdB k)):=by
  have e:(pickM k 4).toNat=qn:=by omega
  unfold wdB;rw [e]
  have:qn<4:=by omega
  match qn,this with
  | 0,_=>rfl
  | 1,_=>rfl
  | 2,_=>rfl
  | 3,_=>rfl
  | n+4,h=>exact absurd h (by omega)
 have hWs:=wdB_size k;unfold chB
 by_cases hm:pickM n 7=6
 ·have hN:nuB n=⟨#[45,55]⟩:=by unfold nuB;rw [if_pos hm]
  rw [hN]
  cases goes
  ·exact change_c6 g t n k _ _ dn qn _ _ w rfl (dgB_size dn) (by omega) (by omega) r3 hm hW hWs H5 H7 H4 H3
  ·exact change_g6 g t n k _ _ dn qn _ _ w rfl (dgB_size dn) (by omega) (by omega) r3 hm hW hWs H5 H7 H4 H3
 ·have hN:nuB n=(⟨#[48,49,50,51,52,53,54,55,56,57]⟩:ByteArray).extract dn (dn+1):=by
   have e:(pickM n 5).toNat=dn:=by omega
   unfold nuB;rw [if_neg hm,e];rfl
  rw [hN]
  have hm':((pickM n 7:Int) == 6)=false:=by simp;omega
  cases goes
  ·exact change_cd g t n k _ _ dn qn _ _ w rfl (dgB_size dn) (by omega) (by omega) r3 hm' hW hWs H5 H7 H4 H3
  ·exact change_gd g t n k _ _ dn qn _ _ w rfl (dgB_size dn) (by omega) (by omega) r3 hm' hW hWs H5 H7 H4 H3
end Go.Proofs.YtdinjjmcmfjbfaaGreatDoor
