import Derived.Test.YtdinjjmcmfjbfaaGreatDoorPureJ
import Derived.Test.YtdinjjmcmfjbfaaGreatDoorRc2J
import Derived.Test.YtdinjjmcmfjbfaaGreatDoorOcJ
import Derived.Test.YtdinjjmcmfjbfaaGreatDoorNwJ
import Derived.OwnWalk
set_option maxRecDepth 100000
set_option maxHeartbeats 4000000
namespace Go.Proofs.YtdinjjmcmfjbfaaGreatDoor.Pl
theorem fold_eq (s:ByteArray):foldP s=andP (tk s 91) (andP (ifP (tk s 115) (dig s) (tk s 110)) (tk s 93)):=by
 funext a;unfold foldP
 cases h:tk s 91 a with
 | mk o b =>
   cases o
   ·rw [andP_false h,andP_false h]
   ·rw [andP_true h,andP_true h]
    cases h2:tk s 115 b with
    | mk o2 c =>
      cases o2
      ·rw [ifP_false h2];unfold andP;rw [ifP_false h2]
      ·rw [ifP_true h2];unfold andP;rw [ifP_true h2]
end Go.Proofs.YtdinjjmcmfjbfaaGreatDoor.Pl
namespace Go.Proofs.YtdinjjmcmfjbfaaGreatDoor
open Go.RowKit
open Mo (V Row Opd)
structure Hd where
 k:Nat
 nm:List UInt8
 cmp:Nat
 l:Opd
 r:Opd
 w:Opd
def partC (h:Hd) (cols ins:Value):Array Value :=
 #[.int .i64 (h.k:Int),.string ⟨h.nm.toArray⟩,.int .i64 (h.cmp:Int),
   .bool (isC h.l),.int .i64 (colI h.l:Int),.int .i32 (kI (vO h.l)),.int .u8 (tB (vO h.l) 0),.int .u8 (tB (vO h.l) 1),.int .u8 (tB (vO h.l) 2),.int .u8 (tB (vO h.l) 3),.int .i64 (nI (vO h.l)),
   .bool (isC h.r),.int .i64 (colI h.r:Int),.int .i32 (kI (vO h.r)),.int .u8 (tB (vO h.r) 0),.int .u8 (tB (vO h.r) 1),.int .u8 (tB (vO h.r) 2),.int .u8 (tB (vO h.r) 3),.int .i64 (nI (vO h.r)),
   cols,
   .bool (isC h.w),.int .i64 (colI h.w:Int),.int .i32 (kI (vO h.w)),.int .u8 (tB (vO h.w) 0),.int .u8 (tB (vO h.w) 1),.int .u8 (tB (vO h.w) 2),.int .u8 (tB (vO h.w) 3),.int .i64 (nI (vO h.w)),
   ins]
theorem partC_size (h:Hd) (c i:Value):(partC h c i).size=29:=rfl
abbrev sN:Value:=.slice none 0 0
def operV (s:ByteArray) (a:Nat):Opd :=
 if Pl.bt s a=35 then .val (.num (numOf (sub s (a+1) (Pl.numP s (a+1)).2)))
 else if Pl.bt s a=36 then .val (.txt (sub s (a+1) (Pl.let4 s (a+1)).2)) else .col (dgN s a)
def wtV (s:ByteArray) (a:Nat):Opd:=if Pl.bt s a=115 then .col (dgN s (a+1)) else .val (.num 1)
def grpB (s:ByteArray) (a:Nat):Nat:=(Pl.orP (Pl.tk s 93) (Pl.colsP s 5) (a+2)).2
def hcs (s:ByteArray) (k a:Nat):List Nat :=
 if k=3 then colsV s 5 (a+2) else if k=7 then (if Pl.bt s (a+2)=93 then [] else colsV s 5 (a+2)) else []
def hdV (s:ByteArray) (k a:Nat):Hd :=
 if k=1 then ⟨1,sub s a (Pl.let4 s a).2,0,zO,zO,zO⟩
 else if k=2 then ⟨2,[],cmN s (a+3),.col (dgN s (a+2)),operV s (a+4),zO⟩
 else if k=4 then ⟨4,[],0,.col (dgN s (a+2)),.col (dgN s (a+4)),zO⟩
 else if k=7 then ⟨7,[],0,zO,zO,wtV s (grpB s a+1)⟩
 else ⟨k,[],0,zO,zO,zO⟩
theorem opC_part (s:ByteArray) (k cm:Nat) (l:Opd) (cols ins:Value) (a:Nat):opC s (partC ⟨k,[],cm,l,zO,zO⟩ cols ins) 11 a=partC ⟨k,[],cm,l,operV s a,zO⟩ cols ins:=by
 unfold opC operV
 split
 ·rfl
 ·split <;> rfl
theorem wtC_part (s:ByteArray) (k:Nat) (cols ins:Value) (a:Nat):wtC s (partC ⟨k,[],0,zO,zO,zO⟩ cols ins) 20 a=partC ⟨k,[],0,zO,zO,wtV s a⟩ cols ins:=by
 unfold wtC wtV
 split <;> rfl
theorem sub_str (s:ByteArray) (a b:Nat):(⟨(sub s a b).toArray⟩:ByteArray)=s.extract a b:=by
 show (⟨(s.extract a b).data.toList.toArray⟩:ByteArray)=_
 rw [Array.toArray_toList]
theorem oneOf_at {s:ByteArray} {a a':Nat} (h:Pl.oneOf s a=(true,a')):a+1=a':=by
 unfold Pl.oneOf at h
 split at h
 ·injection h
 ·injection h with h;cases h
theorem dig_at2 {s:ByteArray} {a a':Nat} (h:Pl.dig s a=(true,a')):a+1=a':=(dig_at h).symm
theorem tk_at2 {s:ByteArray} {c a a':Nat} (h:Pl.tk s c a=(true,a')):a+1=a':=by
 rcases tk_at h with ⟨_,_,e⟩ | ⟨e,_⟩
 ·exact e
 ·cases e
def HeadEnd (B P:Nat) (s:ByteArray) (w:World) (k a:Nat) (e:Ending) (w':World):Prop :=
 ∃ ok a' d,Pl.headP s k a=(ok,a')∧e=.returned (.bool ok)∧RP B s a' w'∧Kept (fun k=>k=B∨k=P) w w'∧w'.heap[P]? =some (.cells d 139 (0,0))∧d.size=29 ∧
   (ok=true→∃ lv,d=partC (hdV s k a) lv sN∧w'.ownsRow w.heap.size 3 1 lv (hcs s k a).length (ints (hcs s k a)))
theorem head2 (B P:Nat) (s:ByteArray) (a:Nat) (w:World) (hs:s.size≤1000) (hne:P≠B) (h:RP B s a w) (hP:w.heap[P]? =some (.cells (partC ⟨2,[],0,zO,zO,zO⟩ sN sN) 139 (0,0))) :
 Calls Tryz.prog 102 #[.pointer (some ⟨B,0,none⟩),.pointer (some ⟨P,0,none⟩)] w (HeadEnd B P s w 2 a):=by
 have P0:=hid h;have HP0:=hid hP;have hl0:=lt_of_heap hP
 have kc:w.cell? ⟨P,0,none⟩=some (.int .i64 2):=by rw [cell_of hP];rfl
 have K0:Hid (Kept (fun k=>k=B∨k=P) w w):=Kept.refl _ _
 clear h hP
 go_enter Tryz.func102,Tryz.ntmps102
 go_wp2_with fail
 refine (take_any B s (a) 83 83 _ hs (by omega) rfl P0.out).mono ?_
 rintro e w1 ⟨ok1,a1,x1,rfl,p1,f1⟩;have HP1:=hid ((f1.block P hl0 hne).trans HP0.out)
 have K1:Hid (Kept (fun k=>k=B∨k=P) w w1):=K0.out.seq (f1.mono (fun _ _ e=>.inl e))
 have P1:=hid p1;have hl1:=lt_of_heap HP1.out;have X1:=hid x1
 cases ok1
 ·clear x1 p1 f1
  go_wp2_with fail;go_ret
  exact ⟨false,a1,_,by show Pl.selP s a=_;unfold Pl.selP;rw [Pl.andP_false X1.out],rfl,P1.out,K1.out,HP1.out,rfl,by simp⟩
 obtain rfl:=tk_at2 x1;clear x1 p1 f1;clear kc;go_wp2_with fail
 refine (take_any B s (a+1) 91 91 _ hs (by omega) rfl P1.out).mono ?_
 rintro e w2 ⟨ok2,a2,x2,rfl,p2,f2⟩;have HP2:=hid ((f2.block P hl1 hne).trans HP1.out)
 have K2:Hid (Kept (fun k=>k=B∨k=P) w w2):=K1.out.seq (f2.mono (fun _ _ e=>.inl e))
 have P2:=hid p2;have hl2:=lt_of_heap HP2.out;have X2:=hid x2
 cases ok2
 ·clear x2 p2 f2
  go_wp2_with fail;go_ret
  exact ⟨false,a2,_,by show Pl.selP s a=_;unfold Pl.selP;rw [Pl.andP_true X1.out,Pl.andP_false X2.out],rfl,P2.out,K2.out,HP2.out,rfl,by simp⟩
 obtain rfl:=tk_at2 x2;clear x2 p2 f2;go_wp2_with fail
 refine (operandColumn_any B P 3 s (a+1+1) (partC ⟨2,[],0,zO,zO,zO⟩ sN sN) 139 _ hs hne P2.out HP2.out (by rw [partC_size];omega)).mono ?_
 rintro e w3 ⟨ok3,a3,d3,x3,rfl,p3,k3,c3,hd3,he3⟩
 have K3:Hid (Kept (fun k=>k=B∨k=P) w w3):=K2.out.seq k3
 have P3:=hid p3;have X3:=hid x3
 cases ok3
 ·have HP3:=hid c3
  have HD3:=hid hd3;clear x3 p3 k3 c3 hd3 he3;go_wp2_with fail;go_ret
  exact ⟨false,a3,d3,by show Pl.selP s a=_;unfold Pl.selP;rw [Pl.andP_true X1.out,Pl.andP_true X2.out,Pl.andP_false X3.out],rfl,P3.out,K3.out,HP3.out,HD3.out,by simp⟩
 have HP3:Hid (w3.heap[P]? =some (.cells (partC ⟨2,[],0,.col (dgN s (a+1+1)),zO,zO⟩ sN sN) 139 (0,0))):=by
  show _=_
  rw [c3,he3 rfl]
  exact congrArg (fun z=>some (Obj.cells z 139 (0,0))) (rfl)
 have hl3:=lt_of_heap HP3.out;obtain rfl:=dig_at2 x3;clear x3 p3 k3 c3 hd3 he3;go_wp2_with fail
 refine (comparison_any B P 2 s (a+1+1+1) (partC ⟨2,[],0,.col (dgN s (a+1+1)),zO,zO⟩ sN sN) 139 _ hs hne P3.out HP3.out (by rw [partC_size];omega)).mono ?_
 rintro e w4 ⟨ok4,a4,d4,x4,rfl,p4,k4,c4,hd4,he4⟩
 have K4:Hid (Kept (fun k=>k=B∨k=P) w w4):=K3.out.seq k4
 have P4:=hid p4;have X4:=hid x4
 cases ok4
 ·have HP4:=hid c4
  have HD4:=hid hd4;clear x4 p4 k4 c4 hd4 he4;go_wp2_with fail;go_ret
  exact ⟨false,a4,d4,by show Pl.selP s a=_;unfold Pl.selP;rw [Pl.andP_true X1.out,Pl.andP_true X2.out,Pl.andP_true X3.out,Pl.andP_false X4.out],rfl,P4.out,K4.out,HP4.out,HD4.out,by simp⟩
 have HP4:Hid (w4.heap[P]? =some (.cells (partC ⟨2,[],cmN s (a+1+1+1),.col (dgN s (a+1+1)),zO,zO⟩ sN sN) 139 (0,0))):=by
  show _=_
  rw [c4,he4 rfl]
  exact congrArg (fun z=>some (Obj.cells z 139 (0,0))) (rfl)
 have hl4:=lt_of_heap HP4.out;obtain rfl:=oneOf_at x4;clear x4 p4 k4 c4 hd4 he4;go_wp2_with fail
 refine (operand_any B P 11 s (a+1+1+1+1) (partC ⟨2,[],cmN s (a+1+1+1),.col (dgN s (a+1+1)),zO,zO⟩ sN sN) 139 _ hs hne P4.out HP4.out (by rw [partC_size];omega)).mono ?_
 rintro e w5 ⟨ok5,a5,d5,x5,rfl,p5,k5,c5,hd5,he5⟩
 have K5:Hid (Kept (fun k=>k=B∨k=P) w w5):=K4.out.seq k5
 have P5:=hid p5;have X5:=hid x5
 cases ok5
 ·have HP5:=hid c5
  have HD5:=hid hd5;clear x5 p5 k5 c5 hd5 he5;go_wp2_with fail;go_ret
  exact ⟨false,a5,d5,by show Pl.selP s a=_;unfold Pl.selP;rw [Pl.andP_true X1.out,Pl.andP_true X2.out,Pl.andP_true X3.out,Pl.andP_true X4.out,Pl.andP_false X5.out],rfl,P5.out,K5.out,HP5.out,HD5.out,by simp⟩
 have HP5:Hid (w5.heap[P]? =some (.cells (partC ⟨2,[],cmN s (a+1+1+1),.col (dgN s (a+1+1)),operV s (a+1+1+1+1),zO⟩ sN sN) 139 (0,0))):=by
  show _=_
  rw [c5,he5 rfl]
  exact congrArg (fun z=>some (Obj.cells z 139 (0,0))) (opC_part _ _ _ _ _ _ _)
 have hl5:=lt_of_heap HP5.out;clear x5 p5 k5 c5 hd5 he5;go_wp2_with fail
 refine (take_any B s (a5) 93 93 _ hs (by omega) rfl P5.out).mono ?_
 rintro e w6 ⟨ok6,a6,x6,rfl,p6,f6⟩;have HP6:=hid ((f6.block P hl5 hne).trans HP5.out)
 have K6:Hid (Kept (fun k=>k=B∨k=P) w w6):=K5.out.seq (f6.mono (fun _ _ e=>.inl e))
 have P6:=hid p6;have hl6:=lt_of_heap HP6.out;have X6:=hid x6;go_wp2_with fail;go_ret
 refine ⟨ok6,a6,_,by show Pl.selP s a=_;unfold Pl.selP;rw [Pl.andP_true X1.out,Pl.andP_true X2.out,Pl.andP_true X3.out,Pl.andP_true X4.out,Pl.andP_true X5.out];exact X6.out,rfl,P6.out,K6.out,HP6.out,rfl,fun _=>⟨sN,rfl,World.ownsRow_nil _ _ _ _⟩⟩
theorem head4 (B P:Nat) (s:ByteArray) (a:Nat) (w:World) (hs:s.size≤1000) (hne:P≠B) (h:RP B s a w) (hP:w.heap[P]? =some (.cells (partC ⟨4,[],0,zO,zO,zO⟩ sN sN) 139 (0,0))) :
 Calls Tryz.prog 102 #[.pointer (some ⟨B,0,none⟩),.pointer (some ⟨P,0,none⟩)] w (HeadEnd B P s w 4 a):=by
 have P0:=hid h;have HP0:=hid hP;have hl0:=lt_of_heap hP
 have kc:w.cell? ⟨P,0,none⟩=some (.int .i64 4):=by rw [cell_of hP];rfl
 have K0:Hid (Kept (fun k=>k=B∨k=P) w w):=Kept.refl _ _
 clear h hP
 go_enter Tryz.func102,Tryz.ntmps102
 go_wp2_with fail
 refine (take_any B s (a) 74 74 _ hs (by omega) rfl P0.out).mono ?_
 rintro e w1 ⟨ok1,a1,x1,rfl,p1,f1⟩;have HP1:=hid ((f1.block P hl0 hne).trans HP0.out)
 have K1:Hid (Kept (fun k=>k=B∨k=P) w w1):=K0.out.seq (f1.mono (fun _ _ e=>.inl e))
 have P1:=hid p1;have hl1:=lt_of_heap HP1.out;have X1:=hid x1
 cases ok1
 ·clear x1 p1 f1
  go_wp2_with fail;go_ret
  exact ⟨false,a1,_,by show Pl.joinP s a=_;unfold Pl.joinP;rw [Pl.andP_false X1.out],rfl,P1.out,K1.out,HP1.out,rfl,by simp⟩
 obtain rfl:=tk_at2 x1;clear x1 p1 f1;clear kc;go_wp2_with fail
 refine (take_any B s (a+1) 91 91 _ hs (by omega) rfl P1.out).mono ?_
 rintro e w2 ⟨ok2,a2,x2,rfl,p2,f2⟩;have HP2:=hid ((f2.block P hl1 hne).trans HP1.out)
 have K2:Hid (Kept (fun k=>k=B∨k=P) w w2):=K1.out.seq (f2.mono (fun _ _ e=>.inl e))
 have P2:=hid p2;have hl2:=lt_of_heap HP2.out;have X2:=hid x2
 cases ok2
 ·clear x2 p2 f2
  go_wp2_with fail;go_ret
  exact ⟨false,a2,_,by show Pl.joinP s a=_;unfold Pl.joinP;rw [Pl.andP_true X1.out,Pl.andP_false X2.out],rfl,P2.out,K2.out,HP2.out,rfl,by simp⟩
 obtain rfl:=tk_at2 x2;clear x2 p2 f2;go_wp2_with fail
 refine (operandColumn_any B P 3 s (a+1+1) (partC ⟨4,[],0,zO,zO,zO⟩ sN sN) 139 _ hs hne P2.out HP2.out (by rw [partC_size];omega)).mono ?_
 rintro e w3 ⟨ok3,a3,d3,x3,rfl,p3,k3,c3,hd3,he3⟩
 have K3:Hid (Kept (fun k=>k=B∨k=P) w w3):=K2.out.seq k3
 have P3:=hid p3;have X3:=hid x3
 cases ok3
 ·have HP3:=hid c3
  have HD3:=hid hd3;clear x3 p3 k3 c3 hd3 he3;go_wp2_with fail;go_ret
  exact ⟨false,a3,d3,by show Pl.joinP s a=_;unfold Pl.joinP;rw [Pl.andP_true X1.out,Pl.andP_true X2.out,Pl.andP_false X3.out],rfl,P3.out,K3.out,HP3.out,HD3.out,by simp⟩
 have HP3:Hid (w3.heap[P]? =some (.cells (partC ⟨4,[],0,.col (dgN s (a+1+1)),zO,zO⟩ sN sN) 139 (0,0))):=by
  show _=_
  rw [c3,he3 rfl]
  exact congrArg (fun z=>some (Obj.cells z 139 (0,0))) (rfl)
 have hl3:=lt_of_heap HP3.out;obtain rfl:=dig_at2 x3;clear x3 p3 k3 c3 hd3 he3;go_wp2_with fail
 refine (take_any B s (a+1+1+1) 61 61 _ hs (by omega) rfl P3.out).mono ?_
 rintro e w4 ⟨ok4,a4,x4,rfl,p4,f4⟩;have HP4:=hid ((f4.block P hl3 hne).trans HP3.out)
 have K4:Hid (Kept (fun k=>k=B∨k=P) w w4):=K3.out.seq (f4.mono (fun _ _ e=>.inl e))
 have P4:=hid p4;have hl4:=lt_of_heap HP4.out;have X4:=hid x4
 cases ok4
 ·clear x4 p4 f4
  go_wp2_with fail;go_ret
  exact ⟨false,a4,_,by show Pl.joinP s a=_;unfold Pl.joinP;rw [Pl.andP_true X1.out,Pl.andP_true X2.out,Pl.andP_true X3.out,Pl.andP_false X4.out],rfl,P4.out,K4.out,HP4.out,rfl,by simp⟩
 obtain rfl:=tk_at2 x4;clear x4 p4 f4;go_wp2_with fail
 refine (operandColumn_any B P 11 s (a+1+1+1+1) (partC ⟨4,[],0,.col (dgN s (a+1+1)),zO,zO⟩ sN sN) 139 _ hs hne P4.out HP4.out (by rw [partC_size];omega)).mono ?_
 rintro e w5 ⟨ok5,a5,d5,x5,rfl,p5,k5,c5,hd5,he5⟩
 have K5:Hid (Kept (fun k=>k=B∨k=P) w w5):=K4.out.seq k5
 have P5:=hid p5;have X5:=hid x5
 cases ok5
 ·have HP5:=hid c5
  have HD5:=hid hd5;clear x5 p5 k5 c5 hd5 he5;go_wp2_with fail;go_ret
  exact ⟨false,a5,d5,by show Pl.joinP s a=_;unfold Pl.joinP;rw [Pl.andP_true X1.out,Pl.andP_true X2.out,Pl.andP_true X3.out,Pl.andP_true X4.out,Pl.andP_false X5.out],rfl,P5.out,K5.out,HP5.out,HD5.out,by simp⟩
 have HP5:Hid (w5.heap[P]? =some (.cells (partC ⟨4,[],0,.col (dgN s (a+1+1)),.col (dgN s (a+1+1+1+1)),zO⟩ sN sN) 139 (0,0))):=by
  show _=_
  rw [c5,he5 rfl]
  exact congrArg (fun z=>some (Obj.cells z 139 (0,0))) (rfl)
 have hl5:=lt_of_heap HP5.out;obtain rfl:=dig_at2 x5;clear x5 p5 k5 c5 hd5 he5;go_wp2_with fail
 refine (take_any B s (a+1+1+1+1+1) 93 93 _ hs (by omega) rfl P5.out).mono ?_
 rintro e w6 ⟨ok6,a6,x6,rfl,p6,f6⟩;have HP6:=hid ((f6.block P hl5 hne).trans HP5.out)
 have K6:Hid (Kept (fun k=>k=B∨k=P) w w6):=K5.out.seq (f6.mono (fun _ _ e=>.inl e))
 have P6:=hid p6;have hl6:=lt_of_heap HP6.out;have X6:=hid x6;go_wp2_with fail;go_ret
 refine ⟨ok6,a6,_,by show Pl.joinP s a=_;unfold Pl.joinP;rw [Pl.andP_true X1.out,Pl.andP_true X2.out,Pl.andP_true X3.out,Pl.andP_true X4.out,Pl.andP_true X5.out];exact X6.out,rfl,P6.out,K6.out,HP6.out,rfl,fun _=>⟨sN,rfl,World.ownsRow_nil _ _ _ _⟩⟩
theorem head5 (B P:Nat) (s:ByteArray) (a:Nat) (w:World) (hs:s.size≤1000) (hne:P≠B) (h:RP B s a w) (hP:w.heap[P]? =some (.cells (partC ⟨5,[],0,zO,zO,zO⟩ sN sN) 139 (0,0))) :
 Calls Tryz.prog 102 #[.pointer (some ⟨B,0,none⟩),.pointer (some ⟨P,0,none⟩)] w (HeadEnd B P s w 5 a):=by
 have P0:=hid h;have HP0:=hid hP;have hl0:=lt_of_heap hP
 have kc:w.cell? ⟨P,0,none⟩=some (.int .i64 5):=by rw [cell_of hP];rfl
 have K0:Hid (Kept (fun k=>k=B∨k=P) w w):=Kept.refl _ _
 clear h hP
 go_enter Tryz.func102,Tryz.ntmps102
 go_wp2_with fail
 refine (take_any B s (a) 85 85 _ hs (by omega) rfl P0.out).mono ?_
 rintro e w1 ⟨ok1,a1,x1,rfl,p1,f1⟩;have HP1:=hid ((f1.block P hl0 hne).trans HP0.out)
 have K1:Hid (Kept (fun k=>k=B∨k=P) w w1):=K0.out.seq (f1.mono (fun _ _ e=>.inl e))
 have P1:=hid p1;have hl1:=lt_of_heap HP1.out;have X1:=hid x1;clear kc;go_wp2_with fail;go_ret
 exact ⟨ok1,a1,_,X1.out,rfl,P1.out,K1.out,HP1.out,rfl,fun _=>⟨sN,rfl,World.ownsRow_nil _ _ _ _⟩⟩
theorem head6 (B P:Nat) (s:ByteArray) (a:Nat) (w:World) (hs:s.size≤1000) (hne:P≠B) (h:RP B s a w) (hP:w.heap[P]? =some (.cells (partC ⟨6,[],0,zO,zO,zO⟩ sN sN) 139 (0,0))) :
 Calls Tryz.prog 102 #[.pointer (some ⟨B,0,none⟩),.pointer (some ⟨P,0,none⟩)] w (HeadEnd B P s w 6 a):=by
 have P0:=hid h;have HP0:=hid hP;have hl0:=lt_of_heap hP
 have kc:w.cell? ⟨P,0,none⟩=some (.int .i64 6):=by rw [cell_of hP];rfl
 have K0:Hid (Kept (fun k=>k=B∨k=P) w w):=Kept.refl _ _
 clear h hP
 go_enter Tryz.func102,Tryz.ntmps102
 go_wp2_with fail
 refine (take_any B s (a) 68 68 _ hs (by omega) rfl P0.out).mono ?_
 rintro e w1 ⟨ok1,a1,x1,rfl,p1,f1⟩;have HP1:=hid ((f1.block P hl0 hne).trans HP0.out)
 have K1:Hid (Kept (fun k=>k=B∨k=P) w w1):=K0.out.seq (f1.mono (fun _ _ e=>.inl e))
 have P1:=hid p1;have hl1:=lt_of_heap HP1.out;have X1:=hid x1;clear kc;go_wp2_with fail;go_ret
 exact ⟨ok1,a1,_,X1.out,rfl,P1.out,K1.out,HP1.out,rfl,fun _=>⟨sN,rfl,World.ownsRow_nil _ _ _ _⟩⟩
theorem head3 (B P:Nat) (s:ByteArray) (a:Nat) (w:World) (hs:s.size≤1000) (hne:P≠B) (h:RP B s a w) (hP:w.heap[P]? =some (.cells (partC ⟨3,[],0,zO,zO,zO⟩ sN sN) 139 (0,0))) :
 Calls Tryz.prog 102 #[.pointer (some ⟨B,0,none⟩),.pointer (some ⟨P,0,none⟩)] w (HeadEnd B P s w 3 a):=by
 have P0:=hid h;have HP0:=hid hP;have hl0:=lt_of_heap hP
 have kc:w.cell? ⟨P,0,none⟩=some (.int .i64 3):=by rw [cell_of hP];rfl
 have K0:Hid (Kept (fun k=>k=B∨k=P) w w):=Kept.refl _ _
 clear h hP
 go_enter Tryz.func102,Tryz.ntmps102
 go_wp2_with fail
 refine (take_any B s (a) 80 80 _ hs (by omega) rfl P0.out).mono ?_
 rintro e w1 ⟨ok1,a1,x1,rfl,p1,f1⟩;have HP1:=hid ((f1.block P hl0 hne).trans HP0.out)
 have K1:Hid (Kept (fun k=>k=B∨k=P) w w1):=K0.out.seq (f1.mono (fun _ _ e=>.inl e))
 have P1:=hid p1;have hl1:=lt_of_heap HP1.out;have X1:=hid x1
 cases ok1
 ·clear x1 p1 f1
  go_wp2_with fail;go_ret
  exact ⟨false,a1,_,by show Pl.pickP s a=_;unfold Pl.pickP;rw [Pl.andP_false X1.out],rfl,P1.out,K1.out,HP1.out,rfl,by simp⟩
 obtain rfl:=tk_at2 x1;clear x1 p1 f1;clear kc;go_wp2_with fail
 refine (take_any B s (a+1) 91 91 _ hs (by omega) rfl P1.out).mono ?_
 rintro e w2 ⟨ok2,a2,x2,rfl,p2,f2⟩;have HP2:=hid ((f2.block P hl1 hne).trans HP1.out)
 have K2:Hid (Kept (fun k=>k=B∨k=P) w w2):=K1.out.seq (f2.mono (fun _ _ e=>.inl e))
 have P2:=hid p2;have hl2:=lt_of_heap HP2.out;have X2:=hid x2
 cases ok2
 ·clear x2 p2 f2
  go_wp2_with fail;go_ret
  exact ⟨false,a2,_,by show Pl.pickP s a=_;unfold Pl.pickP;rw [Pl.andP_true X1.out,Pl.andP_false X2.out],rfl,P2.out,K2.out,HP2.out,rfl,by simp⟩
 obtain rfl:=tk_at2 x2;clear x2 p2 f2;go_wp2_with fail
 refine (columns_any B P 19 s (a+1+1) (partC ⟨3,[],0,zO,zO,zO⟩ sN sN) 139 _ hs hne (by decide) P2.out HP2.out (by rw [partC_size];omega) rfl).mono ?_
 rintro e w3 ⟨ok3,a3,d3,x3,rfl,p3,k3,c3,hd3,he3⟩
 have K3:Hid (Kept (fun k=>k=B∨k=P) w w3):=K2.out.seq k3
 have P3:=hid p3;have X3:=hid x3;have HP3:=hid c3;have HD3:=hid (And.intro hd3 he3);have hz3:=K2.out.size;clear x3 p3 k3 c3 hd3 he3;go_wp2_with fail;go_ret
 refine ⟨ok3,a3,d3,by show Pl.pickP s a=_;unfold Pl.pickP;rw [Pl.andP_true X1.out,Pl.andP_true X2.out];exact X3.out,rfl,P3.out,K3.out,HP3.out,HD3.out.1,fun hk=> ?_⟩
 obtain ⟨lv,h1,h2⟩:=HD3.out.2 hk
 exact ⟨lv,h1,⟨h2.1,h2.2.imp id (fun ⟨g,cp,cu,e1,e2,e3⟩=>⟨g,cp,cu,e1,by omega,e3⟩)⟩⟩
theorem head1 (B P:Nat) (s:ByteArray) (a:Nat) (w:World) (hs:s.size≤1000) (hne:P≠B) (h:RP B s a w) (hP:w.heap[P]? =some (.cells (partC ⟨1,[],0,zO,zO,zO⟩ sN sN) 139 (0,0))) :
 Calls Tryz.prog 102 #[.pointer (some ⟨B,0,none⟩),.pointer (some ⟨P,0,none⟩)] w (HeadEnd B P s w 1 a):=by
 have P0:=hid h;have HP0:=hid hP;have hl0:=lt_of_heap hP
 have kc:w.cell? ⟨P,0,none⟩=some (.int .i64 1):=by rw [cell_of hP];rfl
 have K0:Hid (Kept (fun k=>k=B∨k=P) w w):=Kept.refl _ _
 clear h hP
 go_enter Tryz.func102,Tryz.ntmps102
 go_wp2_with fail
 refine (word_any B P 1 4 4 s (a) (partC ⟨1,[],0,zO,zO,zO⟩ sN sN) 139 _ hs (by omega) rfl hne P0.out HP0.out (by rw [partC_size];omega)).mono ?_
 rintro e w1 ⟨ok1,a1,x1,rfl,p1,k1,c1⟩
 have K1:Hid (Kept (fun k=>k=B∨k=P) w w1):=K0.out.seq k1
 have P1:=hid p1;have X1:=hid x1;have HP1:=hid c1;clear x1 p1 k1 c1;clear kc;go_wp2_with fail;go_ret
 refine ⟨ok1,a1,_,X1.out,rfl,P1.out,K1.out,HP1.out,by split <;> rfl,fun hk=>⟨sN,?_,World.ownsRow_nil _ _ _ _⟩⟩
 subst hk
 have h2:(Pl.let4 s a).2=a1:=by have:=X1.out;unfold Pl.let4;rw [this]
 show (if true=true then _ else _)=partC ⟨1,sub s a (Pl.let4 s a).2,0,zO,zO,zO⟩ sN sN
 rw [if_pos rfl,h2];unfold partC;rw [sub_str];rfl
theorem head0 (B P:Nat) (s:ByteArray) (a:Nat) (w:World) (_hs:s.size≤1000) (_hne:P≠B) (h:RP B s a w) (hP:w.heap[P]? =some (.cells (partC ⟨0,[],0,zO,zO,zO⟩ sN sN) 139 (0,0))) :
 Calls Tryz.prog 102 #[.pointer (some ⟨B,0,none⟩),.pointer (some ⟨P,0,none⟩)] w (HeadEnd B P s w 0 a):=by
 have P0:=hid h;have HP0:=hid hP
 have kc:w.cell? ⟨P,0,none⟩=some (.int .i64 0):=by rw [cell_of hP];rfl
 clear h hP
 go_enter Tryz.func102,Tryz.ntmps102
 go_wp2_with fail;go_ret
 exact ⟨false,a,_,rfl,rfl,P0.out,Kept.refl _ _,HP0.out,rfl,by simp⟩
open Go.RowKit Go.Shelf
def OpEnd (ty tb:TypeId) (c0:Array Value) (w:World) (e:Ending) (w':World):Prop :=
 e=.returned (.iface ty (.pointer (some ⟨w.heap.size,0,none⟩)))∧w'.heap[w.heap.size]? =some (.cells c0 tb (0,0))∧Kept No w w'
theorem part_cells {w:World} {P:Nat} {h:Hd} {lv iv:Value} (hP:w.heap[P]? =some (.cells (partC h lv iv) 139 (0,0))) :
 w.cell? ⟨P,0,none⟩=some (.int .i64 (h.k:Int))∧w.cell? ⟨P,2,none⟩=some (.int .i64 (h.cmp:Int))∧w.cell? ⟨P,19,none⟩=some lv∧w.rangeAt P 3 (opA h.l)∧w.rangeAt P 11 (opA h.r)∧w.rangeAt P 20 (opA h.w)∧w.cell? ⟨P,28,none⟩=some iv∧w.cell? ⟨P,1,none⟩=some (.string ⟨h.nm.toArray⟩):=by
 refine ⟨(cell_of hP 0).trans rfl,(cell_of hP 2).trans rfl,(cell_of hP 19).trans rfl,fun j v hv=> ?_,fun j v hv=> ?_,fun j v hv=> ?_,(cell_of hP 28).trans rfl,(cell_of hP 1).trans rfl⟩
 all_goals
  rw [cell_of hP];have hj:=(List.getElem?_eq_some_iff.1 hv).1
  match j,hj with
  | 0,_ | 1,_ | 2,_ | 3,_ | 4,_ | 5,_ | 6,_ | 7,_=>simpa [opA,partC] using hv
theorem operator_dist (P:Nat) (h:Hd) (hk:h.k=6) (lv iv:Value) (w:World) (hP:w.heap[P]? =some (.cells (partC h lv iv) 139 (0,0))) :
 Calls Tryz.prog 113 #[.pointer (some ⟨P,0,none⟩)] w (OpEnd 281 283 #[sN,.map none] w):=by
 have c0:=(part_cells hP).1;rw [hk] at c0;clear hP
 go_enter Tryz.func113,Tryz.ntmps113
 go_wp2_with fail;go_ret;exact ⟨rfl,heap_alloc_last _ _,(Kept.refl No w).alloc _⟩
theorem operator_uni (P:Nat) (h:Hd) (hk:h.k=5) (lv iv:Value) (w:World) (hP:w.heap[P]? =some (.cells (partC h lv iv) 139 (0,0))) :
 Calls Tryz.prog 113 #[.pointer (some ⟨P,0,none⟩)] w (OpEnd 287 289 #[sN] w):=by
 have c0:=(part_cells hP).1;rw [hk] at c0;clear hP
 go_enter Tryz.func113,Tryz.ntmps113
 go_wp2_with fail;go_ret;exact ⟨rfl,heap_alloc_last _ _,(Kept.refl No w).alloc _⟩
theorem operator_pick (P:Nat) (h:Hd) (hk:h.k=3) (la:Option Addr) (ln lc:Nat) (iv:Value) (w:World) (hP:w.heap[P]? =some (.cells (partC h (.slice la ln lc) iv) 139 (0,0))) :
 Calls Tryz.prog 113 #[.pointer (some ⟨P,0,none⟩)] w (OpEnd 278 280 #[sN,.slice la ln lc] w):=by
 have c0:=(part_cells hP).1;have c1:=(part_cells hP).2.2.1;rw [hk] at c0;clear hP
 go_enter Tryz.func113,Tryz.ntmps113
 go_wp2_with fail;go_ret;exact ⟨rfl,heap_alloc_last _ _,(Kept.refl No w).alloc _⟩
set_option linter.unusedSimpArgs false
theorem operator_sel (P:Nat) (h:Hd) (hk:h.k=2) (lv iv:Value) (w:World) (hP:w.heap[P]? =some (.cells (partC h lv iv) 139 (0,0))) :
 Calls Tryz.prog 113 #[.pointer (some ⟨P,0,none⟩)] w (OpEnd 275 277 (selC sN h.cmp h.l h.r) w):=by
 have c0:=(part_cells hP).1;rw [hk] at c0;have HP:=hid hP
 have HYL:Hid (∀ w:World,w.heap[P]? =some (.cells (partC h lv iv) 139 (0,0))→(loadVar 135 ⟨P,3,none⟩).run Tryz.prog w=.ok (.agg #[.bool (isC h.l),.int .i64 (colI h.l:Int),.int .i32 (kI (vO h.l)),.int .u8 (tB (vO h.l) 0),.int .u8 (tB (vO h.l) 1),.int .u8 (tB (vO h.l) 2),.int .u8 (tB (vO h.l) 3),.int .i64 (nI (vO h.l))]) w):=fun w hw=>run_loadVar_mid w P 3 135 (opA h.l) _ (part_cells hw).2.2.2.1 Tryz.underlying135 rfl infoOp
 have HYR:Hid (∀ w:World,w.heap[P]? =some (.cells (partC h lv iv) 139 (0,0))→(loadVar 135 ⟨P,11,none⟩).run Tryz.prog w=.ok (.agg #[.bool (isC h.r),.int .i64 (colI h.r:Int),.int .i32 (kI (vO h.r)),.int .u8 (tB (vO h.r) 0),.int .u8 (tB (vO h.r) 1),.int .u8 (tB (vO h.r) 2),.int .u8 (tB (vO h.r) 3),.int .i64 (nI (vO h.r))]) w):=fun w hw=>run_loadVar_mid w P 11 135 (opA h.r) _ (part_cells hw).2.2.2.2.1 Tryz.underlying135 rfl infoOp
 have HYC:Hid (∀ w:World,w.heap[P]? =some (.cells (partC h lv iv) 139 (0,0))→w.cell? ⟨P,2,none⟩=some (.int .i64 (h.cmp:Int))):=fun w hw=>(part_cells hw).2.1
 have hPl:=lt_of_heap hP;clear hP
 go_enter Tryz.func113,Tryz.ntmps113
 go_wp2_with fail;clear c0
 refine wp_region_held_drew (S:=fun w'=>w'.heap[P]? =some (.cells (partC h lv iv) 139 (0,0))) (by kernel_rfl) HP.out (fun hHeld=> ?_)
 refine tk_P 0 (.pointer (some ⟨P,0,none⟩)) hHeld ?_;try simp only [Act.put,n_1,n_2,n_3,n_4,n_5,n_6]
 refine tk_P 1 (.pointer (some ⟨P,0,none⟩)) hHeld ?_;try simp only [Act.put,n_1,n_2,n_3,n_4,n_5,n_6]
 refine tk_P 2 (.pointer (some ⟨P,2,none⟩)) hHeld ?_;try simp only [Act.put,n_1,n_2,n_3,n_4,n_5,n_6]
 refine tk_C 3 (.int .i64 (h.cmp:Int)) 129 (.tmp 11) (P) (2) (fun w h=>HYC.out w h) hHeld ?_
 try simp only [Act.put,n_1,n_2,n_3,n_4,n_5,n_6]
 refine tk_P 4 (.pointer (some ⟨P,0,none⟩)) hHeld ?_;try simp only [Act.put,n_1,n_2,n_3,n_4,n_5,n_6]
 refine tk_P 5 (.pointer (some ⟨P,0,none⟩)) hHeld ?_;try simp only [Act.put,n_1,n_2,n_3,n_4,n_5,n_6]
 refine tk_P 6 (.pointer (some ⟨P,3,none⟩)) hHeld ?_;try simp only [Act.put,n_1,n_2,n_3,n_4,n_5,n_6]
 refine tk_L 7 (.agg #[.bool (isC h.l),.int .i64 (colI h.l:Int),.int .i32 (kI (vO h.l)),.int .u8 (tB (vO h.l) 0),.int .u8 (tB (vO h.l) 1),.int .u8 (tB (vO h.l) 2),.int .u8 (tB (vO h.l) 3),.int .i64 (nI (vO h.l))]) 135 (.tmp 15) (P) (3) (fun w h=>HYL.out w h) hHeld ?_
 try simp only [Act.put,n_1,n_2,n_3,n_4,n_5,n_6]
 refine tk_P 8 (.pointer (some ⟨P,0,none⟩)) hHeld ?_;try simp only [Act.put,n_1,n_2,n_3,n_4,n_5,n_6]
 refine tk_P 9 (.pointer (some ⟨P,0,none⟩)) hHeld ?_;try simp only [Act.put,n_1,n_2,n_3,n_4,n_5,n_6]
 refine tk_P 10 (.pointer (some ⟨P,11,none⟩)) hHeld ?_;try simp only [Act.put,n_1,n_2,n_3,n_4,n_5,n_6]
 refine tk_L 11 (.agg #[.bool (isC h.r),.int .i64 (colI h.r:Int),.int .i32 (kI (vO h.r)),.int .u8 (tB (vO h.r) 0),.int .u8 (tB (vO h.r) 1),.int .u8 (tB (vO h.r) 2),.int .u8 (tB (vO h.r) 3),.int .i64 (nI (vO h.r))]) 135 (.tmp 19) (P) (11) (fun w h=>HYR.out w h) hHeld ?_
 try simp only [Act.put,n_1,n_2,n_3,n_4,n_5,n_6]
 refine tk_P 12 (.agg #[sN,.int .i64 (h.cmp:Int),.bool (isC h.l),.int .i64 (colI h.l:Int),.int .i32 (kI (vO h.l)),.int .u8 (tB (vO h.l) 0),.int .u8 (tB (vO h.l) 1),.int .u8 (tB (vO h.l) 2),.int .u8 (tB (vO h.l) 3),.int .i64 (nI (vO h.l)),.bool (isC h.r),.int .i64 (colI h.r:Int),.int .i32 (kI (vO h.r)),.int .u8 (tB (vO h.r) 0),.int .u8 (tB (vO h.r) 1),.int .u8 (tB (vO h.r) 2),.int .u8 (tB (vO h.r) 3),.int .i64 (nI (vO h.r))]) hHeld ?_;try simp only [Act.put,n_1,n_2,n_3,n_4,n_5,n_6]
 refine tk_S 13 (fun K hK=> ?_)
 go_simp;have hS5:((w.alloc (.cells #[sN,.int .i64 (h.cmp:Int),.bool (isC h.l),.int .i64 (colI h.l:Int),.int .i32 (kI (vO h.l)),.int .u8 (tB (vO h.l) 0),.int .u8 (tB (vO h.l) 1),.int .u8 (tB (vO h.l) 2),.int .u8 (tB (vO h.l) 3),.int .i64 (nI (vO h.l)),.bool (isC h.r),.int .i64 (colI h.r:Int),.int .i32 (kI (vO h.r)),.int .u8 (tB (vO h.r) 0),.int .u8 (tB (vO h.r) 1),.int .u8 (tB (vO h.r) 2),.int .u8 (tB (vO h.r) 3),.int .i64 (nI (vO h.r))] 277)).drew).heap[P]? =some (.cells (partC h lv iv) 139 (0,0)):=(Below.heap_alloc _ _ _ hPl).trans HP.out;have HE:Hid (((w.alloc (.cells #[sN,.int .i64 (h.cmp:Int),.bool (isC h.l),.int .i64 (colI h.l:Int),.int .i32 (kI (vO h.l)),.int .u8 (tB (vO h.l) 0),.int .u8 (tB (vO h.l) 1),.int .u8 (tB (vO h.l) 2),.int .u8 (tB (vO h.l) 3),.int .i64 (nI (vO h.l)),.bool (isC h.r),.int .i64 (colI h.r:Int),.int .i32 (kI (vO h.r)),.int .u8 (tB (vO h.r) 0),.int .u8 (tB (vO h.r) 1),.int .u8 (tB (vO h.r) 2),.int .u8 (tB (vO h.r) 3),.int .i64 (nI (vO h.r))] 277)).drew).heap[w.heap.size]? =some (.cells (selC sN h.cmp h.l h.r) 277 (0,0))):=heap_alloc_last _ _
 have HK:Hid (Kept No w ((w.alloc (.cells #[sN,.int .i64 (h.cmp:Int),.bool (isC h.l),.int .i64 (colI h.l:Int),.int .i32 (kI (vO h.l)),.int .u8 (tB (vO h.l) 0),.int .u8 (tB (vO h.l) 1),.int .u8 (tB (vO h.l) 2),.int .u8 (tB (vO h.l) 3),.int .i64 (nI (vO h.l)),.bool (isC h.r),.int .i64 (colI h.r:Int),.int .i32 (kI (vO h.r)),.int .u8 (tB (vO h.r) 0),.int .u8 (tB (vO h.r) 1),.int .u8 (tB (vO h.r) 2),.int .u8 (tB (vO h.r) 3),.int .i64 (nI (vO h.r))] 277)).drew)):=((Kept.refl No w).alloc _).drew
 refine hK.out _ _ hS5 (fun hHeld=> ?_)
 clear hK K;try simp only [Act.put,n_1,n_2,n_3,n_4,n_5,n_6]
 refine tk_P 14 (.iface 275 (.pointer (some ⟨w.heap.size,0,none⟩))) hHeld ?_;try simp only [Act.put,n_1,n_2,n_3,n_4,n_5,n_6]
 refine tk_P 15 (.iface 275 (.pointer (some ⟨w.heap.size,0,none⟩))) hHeld ?_;try simp only [Act.put,n_1,n_2,n_3,n_4,n_5,n_6]
 refine wpAnyH_done (by kernel_rfl) ?_ _
 clear hHeld HYL HYR HYC;try simp only [Act.put,n_1,n_2,n_3,n_4,n_5,n_6]
 generalize (w.alloc (.cells #[sN,.int .i64 (h.cmp:Int),.bool (isC h.l),.int .i64 (colI h.l:Int),.int .i32 (kI (vO h.l)),.int .u8 (tB (vO h.l) 0),.int .u8 (tB (vO h.l) 1),.int .u8 (tB (vO h.l) 2),.int .u8 (tB (vO h.l) 3),.int .i64 (nI (vO h.l)),.bool (isC h.r),.int .i64 (colI h.r:Int),.int .i32 (kI (vO h.r)),.int .u8 (tB (vO h.r) 0),.int .u8 (tB (vO h.r) 1),.int .u8 (tB (vO h.r) 2),.int .u8 (tB (vO h.r) 3),.int .i64 (nI (vO h.r))] 277)).drew=w5 at HE HK ⊢;go_wp2_with fail;go_ret;exact ⟨rfl,HE.out,HK.out⟩
theorem operator_grp (P:Nat) (h:Hd) (hk:h.k=7) (la:Option Addr) (ln lc:Nat) (iv:Value) (w:World) (hP:w.heap[P]? =some (.cells (partC h (.slice la ln lc) iv) 139 (0,0))) :
 Calls Tryz.prog 113 #[.pointer (some ⟨P,0,none⟩)] w (OpEnd 284 286 (grpC sN (.map none) (.map none) (.slice la ln lc) h.w) w):=by
 have c0:=(part_cells hP).1;rw [hk] at c0;have HP:=hid hP
 have HYW:Hid (∀ w:World,w.heap[P]? =some (.cells (partC h (.slice la ln lc) iv) 139 (0,0))→(loadVar 135 ⟨P,20,none⟩).run Tryz.prog w=.ok (.agg #[.bool (isC h.w),.int .i64 (colI h.w:Int),.int .i32 (kI (vO h.w)),.int .u8 (tB (vO h.w) 0),.int .u8 (tB (vO h.w) 1),.int .u8 (tB (vO h.w) 2),.int .u8 (tB (vO h.w) 3),.int .i64 (nI (vO h.w))]) w):=fun w hw=>run_loadVar_mid w P 20 135 (opA h.w) _ (part_cells hw).2.2.2.2.2.1 Tryz.underlying135 rfl infoOp
 have HYC:Hid (∀ w:World,w.heap[P]? =some (.cells (partC h (.slice la ln lc) iv) 139 (0,0))→w.cell? ⟨P,19,none⟩=some (.slice la ln lc)):=fun w hw=>(part_cells hw).2.2.1
 have hPl:=lt_of_heap hP;clear hP
 go_enter Tryz.func113,Tryz.ntmps113
 go_wp2_with fail;clear c0
 refine wp_region_held_drew (S:=fun w'=>w'.heap[P]? =some (.cells (partC h (.slice la ln lc) iv) 139 (0,0))) (by kernel_rfl) HP.out (fun hHeld=> ?_)
 refine tk_P 0 (.pointer (some ⟨P,0,none⟩)) hHeld ?_;try simp only [Act.put,n_1,n_2,n_3,n_4,n_5,n_6]
 refine tk_P 1 (.pointer (some ⟨P,0,none⟩)) hHeld ?_;try simp only [Act.put,n_1,n_2,n_3,n_4,n_5,n_6]
 refine tk_P 2 (.pointer (some ⟨P,19,none⟩)) hHeld ?_;try simp only [Act.put,n_1,n_2,n_3,n_4,n_5,n_6]
 refine tk_C 3 (.slice la ln lc) 136 (.tmp 42) (P) (19) (fun w h=>HYC.out w h) hHeld ?_
 try simp only [Act.put,n_1,n_2,n_3,n_4,n_5,n_6]
 refine tk_P 4 (.pointer (some ⟨P,0,none⟩)) hHeld ?_;try simp only [Act.put,n_1,n_2,n_3,n_4,n_5,n_6]
 refine tk_P 5 (.pointer (some ⟨P,0,none⟩)) hHeld ?_;try simp only [Act.put,n_1,n_2,n_3,n_4,n_5,n_6]
 refine tk_P 6 (.pointer (some ⟨P,20,none⟩)) hHeld ?_;try simp only [Act.put,n_1,n_2,n_3,n_4,n_5,n_6]
 refine tk_L 7 (.agg #[.bool (isC h.w),.int .i64 (colI h.w:Int),.int .i32 (kI (vO h.w)),.int .u8 (tB (vO h.w) 0),.int .u8 (tB (vO h.w) 1),.int .u8 (tB (vO h.w) 2),.int .u8 (tB (vO h.w) 3),.int .i64 (nI (vO h.w))]) 135 (.tmp 46) (P) (20) (fun w h=>HYW.out w h) hHeld ?_
 try simp only [Act.put,n_1,n_2,n_3,n_4,n_5,n_6]
 refine tk_P 8 (.agg #[sN,.map none,.map none,.slice la ln lc,.bool (isC h.w),.int .i64 (colI h.w:Int),.int .i32 (kI (vO h.w)),.int .u8 (tB (vO h.w) 0),.int .u8 (tB (vO h.w) 1),.int .u8 (tB (vO h.w) 2),.int .u8 (tB (vO h.w) 3),.int .i64 (nI (vO h.w))]) hHeld ?_;try simp only [Act.put,n_1,n_2,n_3,n_4,n_5,n_6]
 refine tk_S 9 (fun K hK=> ?_)
 go_simp;have hS5:((w.alloc (.cells #[sN,.map none,.map none,.slice la ln lc,.bool (isC h.w),.int .i64 (colI h.w:Int),.int .i32 (kI (vO h.w)),.int .u8 (tB (vO h.w) 0),.int .u8 (tB (vO h.w) 1),.int .u8 (tB (vO h.w) 2),.int .u8 (tB (vO h.w) 3),.int .i64 (nI (vO h.w))] 286)).drew).heap[P]? =some (.cells (partC h (.slice la ln lc) iv) 139 (0,0)):=(Below.heap_alloc _ _ _ hPl).trans HP.out;have HE:Hid (((w.alloc (.cells #[sN,.map none,.map none,.slice la ln lc,.bool (isC h.w),.int .i64 (colI h.w:Int),.int .i32 (kI (vO h.w)),.int .u8 (tB (vO h.w) 0),.int .u8 (tB (vO h.w) 1),.int .u8 (tB (vO h.w) 2),.int .u8 (tB (vO h.w) 3),.int .i64 (nI (vO h.w))] 286)).drew).heap[w.heap.size]? =some (.cells (grpC sN (.map none) (.map none) (.slice la ln lc) h.w) 286 (0,0))):=heap_alloc_last _ _;have HK:Hid (Kept No w ((w.alloc (.cells #[sN,.map none,.map none,.slice la ln lc,.bool (isC h.w),.int .i64 (colI h.w:Int),.int .i32 (kI (vO h.w)),.int .u8 (tB (vO h.w) 0),.int .u8 (tB (vO h.w) 1),.int .u8 (tB (vO h.w) 2),.int .u8 (tB (vO h.w) 3),.int .i64 (nI (vO h.w))] 286)).drew)):=((Kept.refl No w).alloc _).drew
 refine hK.out _ _ hS5 (fun hHeld=> ?_)
 clear hK K;try simp only [Act.put,n_1,n_2,n_3,n_4,n_5,n_6]
 refine tk_P 10 (.iface 284 (.pointer (some ⟨w.heap.size,0,none⟩))) hHeld ?_;try simp only [Act.put,n_1,n_2,n_3,n_4,n_5,n_6]
 refine tk_P 11 (.iface 284 (.pointer (some ⟨w.heap.size,0,none⟩))) hHeld ?_;try simp only [Act.put,n_1,n_2,n_3,n_4,n_5,n_6]
 refine wpAnyH_done (by kernel_rfl) ?_ _
 clear hHeld HYW HYC;try simp only [Act.put,n_1,n_2,n_3,n_4,n_5,n_6]
 generalize (w.alloc (.cells #[sN,.map none,.map none,.slice la ln lc,.bool (isC h.w),.int .i64 (colI h.w:Int),.int .i32 (kI (vO h.w)),.int .u8 (tB (vO h.w) 0),.int .u8 (tB (vO h.w) 1),.int .u8 (tB (vO h.w) 2),.int .u8 (tB (vO h.w) 3),.int .i64 (nI (vO h.w))] 286)).drew=w5 at HE HK ⊢;go_wp2_with fail;go_ret;exact ⟨rfl,HE.out,HK.out⟩
theorem newJoin_any (n m:Nat) (w:World) :
 Calls Tryz.prog 112 #[.int .i64 (n:Int),.int .i64 (m:Int)] w fun e w'=>e=.returned (.pointer (some ⟨w.heap.size,0,none⟩))∧w'.heap[w.heap.size]? =some (.cells (jC (.slice none 0 0) (.map none) (.map none) n m w.heap.size) 240 (0,0))∧Kept No w w':=by
 go_enter Tryz.func112,Tryz.ntmps112
 go_wp2_with fail;go_ret;exact ⟨rfl,heap_alloc_last _ _,(Kept.refl No w).alloc _⟩
theorem mul64_one (n:Nat) (hn:n=1∨n=2) (w:World) :
 Calls Tryz.prog 179 #[.int .u64 1,.int .u64 (n:Int)] w fun e w'=>e=.returned (.tuple #[.int .u64 0,.int .u64 (n:Int)])∧w'=w:=by
 rcases hn with rfl | rfl
 ·go_enter Tryz.func179,Tryz.ntmps179
  go_wp2
  go_ret2;exact ⟨rfl,rfl⟩
 ·go_enter Tryz.func179,Tryz.ntmps179
  go_wp2
  go_ret2;exact ⟨rfl,rfl⟩
theorem mul_one (n:Nat) (hn:n=1∨n=2) (w:World) :
 Calls Tryz.prog 150 #[.int .u64 1,.int .u64 (n:Int)] w fun e w'=>e=.returned (.tuple #[.int .u64 0,.int .u64 (n:Int)])∧w'=w:=by
 have H:=hid (mul64_one n hn);clear hn
 go_enter Tryz.func150,Tryz.ntmps150
 go_wp2_with fail;refine (H.out _).mono ?_;rintro e w1 ⟨rfl,rfl⟩;go_wp2_with fail;go_ret2;exact ⟨rfl,rfl⟩
theorem make_one (w:World):(Instr.makeSlice 121 (.int .i64 1) (.int .i64 1)).run Tryz.prog w=.ok (.slice (some ⟨w.heap.size,0,none⟩) 1 1) (w.alloc (.cells #[.nilIface] 143)):=by kernel_rfl
theorem make_two (w:World):(Instr.makeSlice 121 (.int .i64 2) (.int .i64 2)).run Tryz.prog w=.ok (.slice (some ⟨w.heap.size,0,none⟩) 2 2) (w.alloc (.cells #[.nilIface,.nilIface] 143)):=by kernel_rfl
theorem infoTk1:(Tryz.prog.info? 143).map (·.size)=some 1:=by kernel_rfl
theorem copy_tk (w:World) (d o dLen dCap s so sCap:Nat) (T:Value) (cur:Array Value) (t:TypeId) (hd:w.heap[d]? =some (.cells cur t (0,0))) (hs:w.cell? ⟨s,so,none⟩=some T) (h1:1≤dLen) (ho:o<cur.size) (hone:T.oneCell'=true) :
 (Builtin.copy_ #[121,121] 3 #[.slice (some ⟨d,o,none⟩) dLen dCap,.slice (some ⟨s,so,none⟩) 1 sCap]).run Tryz.prog w=.ok (.int .i64 1) (w.setRow d (cur.toList.take o++[T]++cur.toList.drop (o+1)).toArray):=by
 have hl:=run_loadCells_list (P:=Tryz.prog) w ⟨s,so,none⟩ [T] (fun j v hv=>by
  have hj:j=0:=by have:=(List.getElem?_eq_some_iff.1 hv).1;simp at this;exact this
  subst hj
  have hadd:(⟨s,so,none⟩:Addr).add 0=⟨s,so,none⟩:=by simp [Addr.add]
  rw [hadd,hs];simpa using hv)
 have hst:=run_storeCells_at Tryz.prog d o t [T] 0 cur w hd (by simp;omega) (by intro v hv;simp at hv;subst hv;exact hone)
 simp only [Nat.add_zero,List.length_singleton] at hst hl;have hmin:Nat.min 1 dLen=1:=Nat.min_eq_left h1
 cases hq:Tryz.prog.info? 143 with
 | none=>have:=infoTk1;simp [hq] at this
 | some i =>
   have hi:i.size=1:=by have:=infoTk1;simpa [hq] using this
   simp [Builtin.copy_,run_underlying Tryz.underlying121,Builtin.lenOf,Builtin.firstCells,sizeOf,typeInfo,hq,hi,hmin,hl,hst,goInt]
theorem repeat_one (g:Nat) (w:World) (tt:TypeId) (p:Addr) (hg:w.heap[g]? =some (.cells #[.iface tt (.pointer (some p))] 143 (0,0))) :
 Calls Tryz.prog 114 #[.slice (some ⟨g,0,none⟩) 1 1,.int .i64 1] w fun e w'=>e=.returned (.slice (some ⟨w.heap.size,0,none⟩) 1 1)∧w'.heap[w.heap.size]? =some (.cells #[.iface tt (.pointer (some p))] 143 (0,0))∧Kept No w w':=by
 have hmk:=make_one;have HM:=hid (mul_one 1 (.inl rfl));have hgl:=lt_of_heap hg;have c1:(w.alloc (.cells #[.nilIface] 143)).cell? ⟨g,0,none⟩=some (.iface tt (.pointer (some p))):=(World.cell?_of_block (Below.heap_alloc _ _ _ hgl)).trans ((cell_of hg 0).trans rfl)
 have hcp:=copy_tk (w.alloc (.cells #[.nilIface] 143)) w.heap.size 0 1 1 g 0 1 _ #[.nilIface] 143 (heap_alloc_last _ _) c1 (by omega) (by simp) rfl
 rw [World.setRow_alloc_new] at hcp;simp only [List.take_zero,List.nil_append,List.drop_succ_cons,List.drop_zero,List.append_nil] at hcp;clear hg c1
 go_enter Tryz.func114,Tryz.ntmps114
 go_wp2_with fail;refine (HM.out _).mono ?_;rintro e w1 ⟨rfl,hw1⟩;subst hw1;go_wp2_with fail;refine wp_loop_rounds 1 ?_;rw [rounds_succ];go_wp2_with fail;go_ret;exact ⟨rfl,heap_alloc_last _ _,(Kept.refl No _).alloc _⟩
theorem repeat_two (g:Nat) (w:World) (tt:TypeId) (p:Addr) (hg:w.heap[g]? =some (.cells #[.iface tt (.pointer (some p))] 143 (0,0))) :
 Calls Tryz.prog 114 #[.slice (some ⟨g,0,none⟩) 1 1,.int .i64 2] w fun e w'=>e=.returned (.slice (some ⟨w.heap.size,0,none⟩) 2 2)∧w'.heap[w.heap.size]? =some (.cells #[.iface tt (.pointer (some p)),.iface tt (.pointer (some p))] 143 (0,0))∧Kept No w w':=by
 have hmk:=make_two;have HM:=hid (mul_one 2 (.inr rfl));have hgl:=lt_of_heap hg;have c1:(w.alloc (.cells #[.nilIface,.nilIface] 143)).cell? ⟨g,0,none⟩=some (.iface tt (.pointer (some p))):=(World.cell?_of_block (Below.heap_alloc _ _ _ hgl)).trans ((cell_of hg 0).trans rfl)
 have hcp:=copy_tk (w.alloc (.cells #[.nilIface,.nilIface] 143)) w.heap.size 0 2 2 g 0 1 _ #[.nilIface,.nilIface] 143 (heap_alloc_last _ _) c1 (by omega) (by simp) rfl
 rw [World.setRow_alloc_new] at hcp;simp only [List.take_zero,List.nil_append,List.drop_succ_cons,List.drop_zero,List.singleton_append] at hcp;have c2:((w.alloc (.cells #[.iface tt (.pointer (some p)),.nilIface] 143)).drew).cell? ⟨w.heap.size,0,none⟩=some (.iface tt (.pointer (some p))):=(cell_of (heap_alloc_last _ _) 0).trans rfl
 obtain ⟨W5,hcp2,he5,hk5⟩:∃ W5,(Builtin.copy_ #[121,121] 3 #[.slice (some ⟨w.heap.size,1,none⟩) 1 1,.slice (some ⟨w.heap.size,0,none⟩) 1 2]).run Tryz.prog ((w.alloc (.cells #[.iface tt (.pointer (some p)),.nilIface] 143)).drew)=.ok (.int .i64 1) W5∧W5.heap[w.heap.size]? =some (.cells #[.iface tt (.pointer (some p)),.iface tt (.pointer (some p))] 143 (0,0))∧Kept No w W5 :=
  ⟨_,copy_tk ((w.alloc (.cells #[.iface tt (.pointer (some p)),.nilIface] 143)).drew) w.heap.size 1 1 1 w.heap.size 0 2 _ #[.iface tt (.pointer (some p)),.nilIface] 143 (heap_alloc_last _ _) c2 (by omega) (by simp) rfl,setRow_heap' (heap_alloc_last _ _),kept_setRow (((Kept.refl No w).alloc _).drew) (.inl (Nat.le_refl _)) _⟩
 have HCP2:=hid hcp2;have HE:=hid he5;have HK:=hid hk5;clear hcp2 he5 hk5;clear hg c1 c2
 go_enter Tryz.func114,Tryz.ntmps114
 go_wp2_with fail;refine (HM.out _).mono ?_;rintro e w1 ⟨rfl,hw1⟩;subst hw1;go_wp2_with fail;refine wp_loop_rounds 2 ?_;rw [rounds_succ];go_wp2_with fail
 refine wp_region_held_drew (S:=fun _=>True) (by kernel_rfl) trivial (fun hHeld=> ?_)
 refine tk_P 0 (.int .i64 1) hHeld ?_;try simp only [Act.put,n_1,n_2,n_3,n_4,n_5,n_6]
 refine tk_P 1 (.slice (some ⟨w1.heap.size,0,none⟩) 2 2) hHeld ?_;try simp only [Act.put,n_1,n_2,n_3,n_4,n_5,n_6]
 refine tk_P 2 (.int .i64 1) hHeld ?_;try simp only [Act.put,n_1,n_2,n_3,n_4,n_5,n_6]
 refine tk_P 3 (.slice (some ⟨w1.heap.size,1,none⟩) 1 1) hHeld ?_;try simp only [Act.put,n_1,n_2,n_3,n_4,n_5,n_6]
 refine tk_P 4 (.slice (some ⟨w1.heap.size,0,none⟩) 2 2) hHeld ?_;try simp only [Act.put,n_1,n_2,n_3,n_4,n_5,n_6]
 refine tk_P 5 (.int .i64 1) hHeld ?_;try simp only [Act.put,n_1,n_2,n_3,n_4,n_5,n_6]
 refine tk_P 6 (.slice (some ⟨w1.heap.size,0,none⟩) 1 2) hHeld ?_;try simp only [Act.put,n_1,n_2,n_3,n_4,n_5,n_6]
 refine tk_S 7 (fun K hK=> ?_)
 refine step_copy_run (by kernel_rfl) (.tmp 41) (.tmp 44) _ _ (by kernel_rfl) _ _ (by kernel_rfl) (by kernel_rfl) HCP2.out ?_
 refine hK.out _ _ trivial (fun hHeld=> ?_)
 clear hK K;try simp only [Act.put,n_1,n_2,n_3,n_4,n_5,n_6]
 have h22:IntKind.i64.wrap 2=2:=by decide
 refine tk_P 8 (.int .i64 2) hHeld ?_;try simp only [Act.put,n_1,n_2,n_3,n_4,n_5,n_6]
 refine tk_P 9 (.int .i64 2) hHeld ?_;try simp only [Act.put,n_1,n_2,n_3,n_4,n_5,n_6]
 refine wpAnyH_done (by kernel_rfl) ?_ _
 clear hHeld HCP2 hcp;try simp only [Act.put,n_1,n_2,n_3,n_4,n_5,n_6]
 go_wp2_with fail;rw [rounds_succ];go_wp2_with fail;go_ret;exact ⟨rfl,HE.out,HK.out⟩
end Go.Proofs.YtdinjjmcmfjbfaaGreatDoor
