import Derived.Test.YtdinjjmcmfjbfaaGreatDoorTxJ
import Derived.Test.YtdinjjmcmfjbfaaGreatDoorShelfJ
import Derived.Lib.ParseIntBMem
import Derived.Deep.AppendLies
import Derived.Deep.LoopGhost
set_option maxRecDepth 100000
set_option maxHeartbeats 4000000
namespace Go.Proofs.YtdinjjmcmfjbfaaGreatDoor
open Go.RowKit
open Mo (V Row)
theorem size_alloc1 (w:World) (o:Obj):(w.alloc o).heap.size=w.heap.size+1:=by simp
theorem clone_any (s:ByteArray) (w:World) (hs:s.size≤1000):Calls Tryz.prog 124 #[.string s] w fun e w'=>e=.returned (.string s)∧Kept No w w':=by
 go_enter Tryz.func124,Tryz.ntmps124
 go_wp2_with fail
 refine (Tryz.stringslite_Clone s _ (by omega)).mono ?_
 rintro e w1 ⟨rfl,hb⟩;go_wp2_with fail;go_ret
 exact ⟨rfl,⟨hb.os,hb.tape,hb.output,hb.size,fun i hi _=>hb.block i hi⟩⟩
def WP (B P:Nat) (s:ByteArray) (w:World) (r:Bool × Nat) (t:TypeId) (c':Bool→Nat→Array Value) (e:Ending) (w':World):Prop :=
 ∃ ok a',r=(ok,a')∧e=.returned (.bool ok)∧RP B s a' w'∧Kept (fun k=>k=B∨k=P) w w'∧w'.heap[P]? =some (.cells (c' ok a') t (0,0))
theorem word_any (B P off most:Nat) (mi:Int) (s:ByteArray) (a:Nat) (c:Array Value) (t:TypeId) (w:World) (hs:s.size≤1000) (hm:most≤10) (hmi:mi=(most:Int)) (hne:P≠B) (h:RP B s a w) (hP:w.heap[P]? =some (.cells c t (0,0))) (hoff:off<c.size) :
 Calls Tryz.prog 75 #[.pointer (some ⟨B,0,none⟩),.pointer (some ⟨P,off,none⟩),.int .i64 mi] w
  (WP B P s w (Pl.sev s most 97 122 a) t (fun ok a'=>if ok=true then c.setIfInBounds off (.string (s.extract a a')) else c)):=by
 have h1:=h.c1;have HH:=hid h;have HP:=hid hP;have hPl:=lt_of_heap hP;have ha:=h.1;subst hmi;clear h hP
 go_enter Tryz.func75,Tryz.ntmps75
 go_wp2_with fail
 refine (several_any B s a most 97 122 (most:Int) 97 122 _ hs hm (by omega) rfl rfl rfl HH.out).mono ?_
 rintro e w1 ⟨ok,a1,x1,rfl,p1,f1⟩;have HP1:Hid (w1.heap[P]? =some (.cells c t (0,0))):=(f1.block P hPl hne).trans HP.out;have X1:=hid x1
 have F1:Hid (Kept (fun k=>k=B∨k=P) w w1):=f1.mono (fun _ _ e=>.inl e)
 have hmono:a≤a1:=by
  have:=Pl.many_le s 97 122 most a
  unfold Pl.sev at x1;injection x1 with _ x2;omega
 clear x1
 cases ok
 ·have P1:=hid p1
  clear p1 f1 h1;go_wp2_with fail;go_ret;exact ⟨false,a1,X1.out,rfl,P1.out,F1.out,HP1.out⟩
 ·have d0:=p1.c0
  have d1:=p1.c1;have ha1:=p1.1;have P1:=hid p1
  have i1:(0:Int)≤(a:Int):=by omega
  have i2:(a:Int)≤(a1:Int):=by omega
  have i3:(a1:Int)≤(s.size:Int):=by omega
  have q0:w1.cell? ⟨P,off,none⟩=some c[off]:=by rw [cell_of HP1.out,Array.getElem?_eq_getElem hoff]
  have q1:w1.frozen? ⟨P,off,none⟩=false:=frozen_of HP1.out off;have hBl:B<w1.heap.size:=lt_of_heap P1.out.2;have hPl1:P<w1.heap.size:=lt_of_heap HP1.out
  have hxs:(s.extract a a1).size≤1000:=by simp;omega
  clear p1 f1 h1;go_wp2_with fail
  go_region_held3 (fun w'=>w'.cell? ⟨B,0,none⟩=some (.string s)∧w'.cell? ⟨B,1,none⟩=some (.int .i64 (a1:Int))) (go_keep)
   (first
     | (go_at_call 124
        refine (clone_any (s.extract a a1) _ hxs).mono ?_;rintro e w2 ⟨rfl,hk2⟩
        have e0:w2.cell? ⟨B,0,none⟩=some (.string s):=(hk2.cell hBl (fun z=>z)).trans d0
        have e1:w2.cell? ⟨B,1,none⟩=some (.int .i64 (a1:Int)):=(hk2.cell hBl (fun z=>z)).trans d1
        have q2:w2.cell? ⟨P,off,none⟩=some c[off]:=(hk2.cell hPl1 (fun z=>z)).trans q0
        have q3:w2.frozen? ⟨P,off,none⟩=false:=(World.frozen?_of_block (hk2.block P hPl1 (fun z=>z))).trans q1
        have HK2:=hid hk2
        clear hk2))
  have hk12:Kept No w1 w2:=((Kept.refl No w1).drew).seq HK2.out
  have HK3:Hid (Kept (fun k=>k=B∨k=P) w1 (w2.setCell ⟨P,off,none⟩ (.string (s.extract a a1)))):=(hk12.any).setCell (.inr (.inr rfl)) _
  have HP2:Hid (w2.heap[P]? =some (.cells c t (0,0))):=(hk12.block P hPl1 (fun z=>z)).trans HP1.out
  have HR2:Hid (RP B s a1 (w2.setCell ⟨P,off,none⟩ (.string (s.extract a a1)))) :=
   ⟨ha1,(Below.heap_setCell _ _ _ _ (fun e=>hne e.symm)).trans ((hk12.block B hBl (fun z=>z)).trans P1.out.2)⟩
  clear d0 d1 e0 e1 q0 q1 q2 q3 hk12;go_wp2_with fail;go_ret;exact ⟨true,a1,X1.out,rfl,HR2.out,F1.out.seq HK3.out,heap_set HP2.out off _⟩
def set6 (c:Array Value) (o:Nat) (v:V):Array Value :=
 (((((c.setIfInBounds o (.int .i32 (kI v))).setIfInBounds (o+1) (.int .u8 (tB v 0))).setIfInBounds (o+2) (.int .u8 (tB v 1))).setIfInBounds (o+3) (.int .u8 (tB v 2))).setIfInBounds (o+4) (.int .u8 (tB v 3))).setIfInBounds (o+5) (.int .i64 (nI v))
theorem set6_size (c:Array Value) (o:Nat) (v:V):(set6 c o v).size=c.size:=by simp [set6]
def w6 (w:World) (P o:Nat) (k t0 t1 t2 t3 n:Int):World :=
 (((((w.setCell ⟨P,o,none⟩ (.int .i32 k)).setCell ⟨P,o+1,none⟩ (.int .u8 t0)).setCell ⟨P,o+2,none⟩ (.int .u8 t1)).setCell ⟨P,o+3,none⟩ (.int .u8 t2)).setCell ⟨P,o+4,none⟩ (.int .u8 t3)).setCell ⟨P,o+5,none⟩ (.int .i64 n)
theorem w6_kept {S:Nat→Prop} {w:World} {P:Nat} (hS:S P) (o:Nat) (k t0 t1 t2 t3 n:Int):Kept S w (w6 w P o k t0 t1 t2 t3 n) :=
 (((((((Kept.refl S w).setCell (.inr hS) _).setCell (.inr hS) _).setCell (.inr hS) _).setCell (.inr hS) _).setCell (.inr hS) _).setCell (.inr hS) _)
theorem w6_heap {w:World} {P:Nat} {c:Array Value} {t:TypeId} (h:w.heap[P]? =some (.cells c t (0,0))) (o:Nat) (v:V):(w6 w P o (kI v) (tB v 0) (tB v 1) (tB v 2) (tB v 3) (nI v)).heap[P]? =some (.cells (set6 c o v) t (0,0)) :=
 heap_set (heap_set (heap_set (heap_set (heap_set (heap_set h _ _) _ _) _ _) _ _) _ _) _ _
def tvC (s:ByteArray) (c:Array Value) (o a:Nat) (ok:Bool) (a':Nat):Array Value :=
 if ok=true then set6 c o (.txt (sub s a a')) else set6 c o (.txt [])
theorem textValue_any (B P o:Nat) (s:ByteArray) (a:Nat) (c:Array Value) (t:TypeId) (w:World) (hs:s.size≤1000) (hne:P≠B) (h:RP B s a w) (hP:w.heap[P]? =some (.cells c t (0,0))) (hoff:o+5<c.size) :
 Calls Tryz.prog 125 #[.pointer (some ⟨B,0,none⟩),.pointer (some ⟨P,o,none⟩)] w (WP B P s w (Pl.let4 s a) t (tvC s c o a)):=by
 have HH:=hid h;have HP:=hid hP;have hPl:=lt_of_heap hP;have hBl:=lt_of_heap h.2;have hr1:RP B s a (w.alloc (.cells #[.string ⟨#[]⟩] 9)):=⟨h.1,(Below.heap_alloc _ _ _ hBl).trans h.2⟩
 have HC:=hid (word_any B w.heap.size 0 4 4 s a #[.string ⟨#[]⟩] 9 _ hs (by omega) rfl (by omega) hr1 (heap_alloc_last w _) (by simp))
 clear h hP hr1
 go_enter Tryz.func125,Tryz.ntmps125
 go_wp2_with fail;refine HC.out.mono ?_;rintro e w2 ⟨ok,a2,x2,rfl,p2,k2,c2⟩
 have hk2:Kept (fun k=>k=B∨k=P) w w2:=((Kept.refl No w).alloc _).any.trans k2 (fun _ e=>e) (fun i hi e=>by rcases e with e | e;exact .inl e;omega)
 have HP2:Hid (w2.heap[P]? =some (.cells c t (0,0))):=by
  refine (k2.block P (by rw [size_alloc1];omega) (by omega)).trans ((Below.heap_alloc _ _ _ hPl).trans HP.out)
 have hls:∃ z:ByteArray,w2.heap[w.heap.size]? =some (.cells #[.string z] 9 (0,0))∧z.size≤4∧(if ok=true then sub s a a2 else [])=z.data.toList:=by
  cases ok
  ·exact ⟨⟨#[]⟩,c2,by decide,rfl⟩
  ·have hz:=sev_sub (s:=s) (k:=4) (lo:=97) (hi:=122) (by omega) HH.out.1 x2
   refine ⟨s.extract a a2,c2,?_,rfl⟩
   simp;omega
 obtain ⟨z,c2',hz4,hzl⟩:=hls
 have d0:w2.cell? ⟨w.heap.size,0,none⟩=some (.string z):=by rw [cell_of c2'];rfl
 have X2:=hid x2;have P2:=hid p2;have K2:=hid hk2;have HZ:=hid hzl;have hBl2:B<w2.heap.size:=lt_of_heap p2.2;have hPl2:P<w2.heap.size:=lt_of_heap HP2.out;clear x2 p2 k2 c2 hk2 c2' hzl;go_wp2_with fail;refine (textOf_any z hz4 _).mono ?_;rintro e w3 ⟨rfl,hk3⟩
 have HP3:Hid (w3.heap[P]? =some (.cells c t (0,0))):=(hk3.block P hPl2 (fun z=>z)).trans HP2.out
 have HR3:Hid (RP B s a2 w3):=⟨P2.out.1,(hk3.block B hBl2 (fun z=>z)).trans P2.out.2⟩
 have HK3:Hid (Kept (fun k=>k=B∨k=P) w w3):=K2.out.seqNo hk3
 have q0:w3.cell? ⟨P,o,none⟩=some c[o]:=by rw [cell_of HP3.out,Array.getElem?_eq_getElem (by omega)]
 have q1:w3.cell? ⟨P,o+1,none⟩=some c[o+1]:=by rw [cell_of HP3.out,Array.getElem?_eq_getElem (by omega)]
 have q2:w3.cell? ⟨P,o+2,none⟩=some c[o+2]:=by rw [cell_of HP3.out,Array.getElem?_eq_getElem (by omega)]
 have q3:w3.cell? ⟨P,o+3,none⟩=some c[o+3]:=by rw [cell_of HP3.out,Array.getElem?_eq_getElem (by omega)]
 have q4:w3.cell? ⟨P,o+4,none⟩=some c[o+4]:=by rw [cell_of HP3.out,Array.getElem?_eq_getElem (by omega)]
 have q5:w3.cell? ⟨P,o+5,none⟩=some c[o+5]:=by rw [cell_of HP3.out,Array.getElem?_eq_getElem (by omega)]
 have g0:w3.frozen? ⟨P,o,none⟩=false:=frozen_of HP3.out _;have g1:w3.frozen? ⟨P,o+1,none⟩=false:=frozen_of HP3.out _;have g2:w3.frozen? ⟨P,o+2,none⟩=false:=frozen_of HP3.out _;have g3:w3.frozen? ⟨P,o+3,none⟩=false:=frozen_of HP3.out _;have g4:w3.frozen? ⟨P,o+4,none⟩=false:=frozen_of HP3.out _;have g5:w3.frozen? ⟨P,o+5,none⟩=false:=frozen_of HP3.out _
 have HF:Hid (∀ v:V,v=.txt z.data.toList→WP B P s w (Pl.let4 s a) t (tvC s c o a) (.returned (.bool ok)) (w6 w3 P o (kI v) (tB v 0) (tB v 1) (tB v 2) (tB v 3) (nI v))):=by
  rintro v rfl
  refine ⟨ok,a2,X2.out,rfl,⟨HR3.out.1,((w6_kept (S:=(·=P)) rfl o _ _ _ _ _ _).block B (lt_of_heap HR3.out.2) (fun e=>hne e.symm)).trans HR3.out.2⟩,HK3.out.seq (w6_kept (.inr rfl) o _ _ _ _ _ _),?_⟩
  have e:tvC s c o a ok a2=set6 c o (.txt z.data.toList):=by
   rw [←HZ.out]
   cases ok
   ·exact if_neg (by simp)
   ·exact if_pos rfl
  rw [e];exact w6_heap HP3.out o _
 clear hk3 hz4;generalize hv0:tB (.txt z.data.toList) 0=t0 at *;generalize hv1:tB (.txt z.data.toList) 1=t1 at *;generalize hv2:tB (.txt z.data.toList) 2=t2 at *;generalize hv3:tB (.txt z.data.toList) 3=t3 at *;have HV:Hid (tB (.txt z.data.toList) 0=t0∧tB (.txt z.data.toList) 1=t1∧tB (.txt z.data.toList) 2=t2∧tB (.txt z.data.toList) 3=t3):=⟨hv0,hv1,hv2,hv3⟩;clear hv0 hv1 hv2 hv3;go_wp2_with fail;go_ret
 have:=HF.out _ rfl
 rw [HV.out.1,HV.out.2.1,HV.out.2.2.1,HV.out.2.2.2] at this;exact this
theorem kept_bytes (w:World) (e:TypeId) (t:ByteArray):Kept No w (Lib.bytesWorld w e t):=⟨rfl,rfl,rfl,by rw [Lib.bytesWorld_size];omega,fun i hi _=>Lib.bytesWorld_at_old w e t i hi⟩
theorem sub_cons {s:ByteArray} {a b:Nat} (hb:b≤s.size) (h:a<b):∃ c,sub s a b=c::sub s (a+1) b∧c.toNat=Pl.bt s a:=by
 have hl:a<(s.data.toList.take b).length:=by rw [List.length_take,ba_len];omega
 refine ⟨(s.data.toList.take b)[a],?_,?_⟩
 ·rw [sub_eq,sub_eq,List.drop_eq_getElem_cons hl]
 ·have h1:(sub s a b)[0]? =some (s.data.toList.take b)[a]:=by rw [sub_eq,List.drop_eq_getElem_cons hl];rfl
  have:=(sub_get hb h1).2
  simpa using this
theorem sub_nil (s:ByteArray) (a:Nat):sub s a a=[]:=by rw [sub_eq];exact List.drop_eq_nil_of_le (by rw [List.length_take];omega)
theorem digs_sub {s:ByteArray} {a a':Nat} (ha:a≤s.size) (h:Pl.digs s a=(true,a')):a<a'∧a'≤s.size∧Digs (sub s a a'):=by
 unfold Pl.digs at h
 split at h
 ·cases h
 ·obtain ⟨h1,h2,h3,h4⟩:=sev_sub (by omega) ha h
  refine ⟨h1,h2,?_,?_,h4⟩
  ·intro e;have:=sub_len (s:=s) (a:=a) h2;rw [e] at this;simp at this;omega
  ·rw [sub_len h2];omega
theorem numP_sub {s:ByteArray} {a a':Nat} (ha:a≤s.size) (h:Pl.numP s a=(true,a')):a<a'∧a'≤s.size∧Numeral (sub s a a'):=by
 unfold Pl.numP Pl.ifP at h
 by_cases h45:Pl.bt s a=45
 ·have e:Pl.tk s 45 a=(true,a+1):=by unfold Pl.tk;rw [if_pos h45]
  rw [e] at h
  have hl:=Pl.bt_lt (s:=s) (a:=a) (by omega)
  obtain ⟨h1,h2,h3⟩:=digs_sub (by omega) (show Pl.digs s (a+1)=(true,a') by simpa using h)
  obtain ⟨c,hc,hcn⟩:=sub_cons h2 (show a<a' by omega)
  refine ⟨by omega,h2,.inr ⟨_,?_,h3⟩⟩
  rw [hc]
  have:c=45:=UInt8.toNat_inj.1 (by rw [hcn,h45];rfl)
  rw [this]
 ·have e:Pl.tk s 45 a=(false,a):=by unfold Pl.tk;rw [if_neg h45]
  rw [e] at h
  have h':Pl.orP (Pl.tk s 48) (Pl.digs s) a=(true,a'):=by simpa using h
  unfold Pl.orP at h'
  by_cases h48:Pl.bt s a=48
  ·have e2:Pl.tk s 48 a=(true,a+1):=by unfold Pl.tk;rw [if_pos h48]
   rw [e2] at h'
   have:a'=a+1:=by simpa using h'.symm
   subst this
   have hl:=Pl.bt_lt (s:=s) (a:=a) (by omega)
   obtain ⟨c,hc,hcn⟩:=sub_cons (s:=s) (a:=a) (b:=a+1) (by omega) (by omega)
   refine ⟨by omega,by omega,.inl ⟨?_,?_,?_⟩⟩
   ·rw [hc];simp
   ·rw [hc,sub_nil];simp
   ·rw [hc,sub_nil];intro x hx;simp at hx;subst hx;unfold isDig;omega
  ·have e2:Pl.tk s 48 a=(false,a):=by unfold Pl.tk;rw [if_neg h48]
   rw [e2] at h'
   obtain ⟨h1,h2,h3⟩:=digs_sub ha (show Pl.digs s a=(true,a') by simpa using h')
   exact ⟨h1,h2,.inl h3⟩
def nvC (s:ByteArray) (c:Array Value) (o a:Nat) (ok:Bool) (a':Nat):Array Value :=
 if ok=true then set6 c o (.num (numOf (sub s a a'))) else c
theorem numberValue_any (B P o:Nat) (s:ByteArray) (a:Nat) (c:Array Value) (t:TypeId) (w:World) (hs:s.size≤1000) (hne:P≠B) (h:RP B s a w) (hP:w.heap[P]? =some (.cells c t (0,0))) (hoff:o+5<c.size) :
 Calls Tryz.prog 126 #[.pointer (some ⟨B,0,none⟩),.pointer (some ⟨P,o,none⟩)] w (WP B P s w (Pl.numP s a) t (nvC s c o a)):=by
 have h1:=h.c1;have HH:=hid h;have HP:=hid hP;have hPl:=lt_of_heap hP;have ha:=h.1;clear h hP
 go_enter Tryz.func126,Tryz.ntmps126
 go_wp2_with fail;refine (numeral_any B s a _ hs HH.out).mono ?_;rintro e w1 ⟨ok,a1,x1,rfl,p1,f1⟩;have HP1:Hid (w1.heap[P]? =some (.cells c t (0,0))):=(f1.block P hPl hne).trans HP.out;have X1:=hid x1
 have F1:Hid (Kept (fun k=>k=B∨k=P) w w1):=f1.mono (fun _ _ e=>.inl e)
 cases ok
 ·have P1:=hid p1
  clear p1 f1 h1 x1;go_wp2_with fail;go_ret;exact ⟨false,a1,X1.out,rfl,P1.out,F1.out,HP1.out⟩
 ·obtain ⟨hm1,hm2,hnum⟩:=numP_sub ha x1
  have HNum:=hid (parse_ok hnum);have d0:=p1.c0;have d1:=p1.c1;have P1:=hid p1
  have i1:(0:Int)≤(a:Int):=by omega
  have i2:(a:Int)≤(a1:Int):=by omega
  have i3:(a1:Int)≤(s.size:Int):=by omega
  have hBl:B<w1.heap.size:=lt_of_heap P1.out.2;have hPl1:P<w1.heap.size:=lt_of_heap HP1.out
  have hxs:(s.extract a a1).size≤9223372036854775806:=by simp;omega
  clear p1 f1 h1 x1 hnum;go_wp2_with fail
  go_region_held3 (fun w'=>w'.cell? ⟨B,0,none⟩=some (.string s)∧w'.cell? ⟨B,1,none⟩=some (.int .i64 (a1:Int))) (go_keep)
   (first
     | (go_at_call 162
        refine (Tryz.strconv_ParseInt_10_at64_ok (s.extract a a1) hxs (numOf (sub s a a1)) HNum.out _).mono ?_;rintro e w2 ⟨rfl,hw2⟩
        have hk2:Kept No w1 w2:=by
         rcases hw2 with rfl | ⟨t2,rfl⟩
         ·exact (Kept.refl No w1).drew
         ·exact ((Kept.refl No w1).drew).seq (kept_bytes _ _ _)
        have e0:w2.cell? ⟨B,0,none⟩=some (.string s):=(hk2.cell hBl (fun z=>z)).trans d0
        have e1:w2.cell? ⟨B,1,none⟩=some (.int .i64 (a1:Int)):=(hk2.cell hBl (fun z=>z)).trans d1
        have HK2:=hid hk2
        clear hk2 hw2))
  have HP2:Hid (w2.heap[P]? =some (.cells c t (0,0))):=(HK2.out.block P hPl1 (fun z=>z)).trans HP1.out
  have HR2:Hid (RP B s a1 w2):=⟨hm2,(HK2.out.block B hBl (fun z=>z)).trans P1.out.2⟩
  clear d0 d1 e0 e1;obtain ⟨nv,hnv⟩:∃ nv,numOf (sub s a a1)=nv:=⟨_,rfl⟩;have HNV:=hid hnv;rw [hnv];clear hnv HNum;have hPl2:P<w2.heap.size:=lt_of_heap HP2.out;have hBl2:B<w2.heap.size:=lt_of_heap HR2.out.2;go_wp2_with fail;refine (numberOf_any nv _).mono ?_;rintro e w3 ⟨rfl,hk3⟩
  have HP3:Hid (w3.heap[P]? =some (.cells c t (0,0))):=(hk3.block P hPl2 (fun z=>z)).trans HP2.out
  have HR3:Hid (RP B s a1 w3):=⟨hm2,(hk3.block B hBl2 (fun z=>z)).trans HR2.out.2⟩
  have HK3:Hid (Kept (fun k=>k=B∨k=P) w w3):=(F1.out.seqNo HK2.out).seqNo hk3
  have q0:w3.cell? ⟨P,o,none⟩=some c[o]:=by rw [cell_of HP3.out,Array.getElem?_eq_getElem (by omega)]
  have q1:w3.cell? ⟨P,o+1,none⟩=some c[o+1]:=by rw [cell_of HP3.out,Array.getElem?_eq_getElem (by omega)]
  have q2:w3.cell? ⟨P,o+2,none⟩=some c[o+2]:=by rw [cell_of HP3.out,Array.getElem?_eq_getElem (by omega)]
  have q3:w3.cell? ⟨P,o+3,none⟩=some c[o+3]:=by rw [cell_of HP3.out,Array.getElem?_eq_getElem (by omega)]
  have q4:w3.cell? ⟨P,o+4,none⟩=some c[o+4]:=by rw [cell_of HP3.out,Array.getElem?_eq_getElem (by omega)]
  have q5:w3.cell? ⟨P,o+5,none⟩=some c[o+5]:=by rw [cell_of HP3.out,Array.getElem?_eq_getElem (by omega)]
  have g0:w3.frozen? ⟨P,o,none⟩=false:=frozen_of HP3.out _;have g1:w3.frozen? ⟨P,o+1,none⟩=false:=frozen_of HP3.out _;have g2:w3.frozen? ⟨P,o+2,none⟩=false:=frozen_of HP3.out _;have g3:w3.frozen? ⟨P,o+3,none⟩=false:=frozen_of HP3.out _;have g4:w3.frozen? ⟨P,o+4,none⟩=false:=frozen_of HP3.out _;have g5:w3.frozen? ⟨P,o+5,none⟩=false:=frozen_of HP3.out _;clear hk3;go_wp2_with fail;go_ret
  have hw:WP B P s w (Pl.numP s a) t (nvC s c o a) (.returned (.bool true)) (w6 w3 P o (kI (.num nv)) (tB (.num nv) 0) (tB (.num nv) 1) (tB (.num nv) 2) (tB (.num nv) 3) (nI (.num nv))):=by
   refine ⟨true,a1,X1.out,rfl,⟨HR3.out.1,((w6_kept (S:=(·=P)) rfl o _ _ _ _ _ _).block B (lt_of_heap HR3.out.2) (fun e=>hne e.symm)).trans HR3.out.2⟩,HK3.out.seq (w6_kept (.inr rfl) o _ _ _ _ _ _),?_⟩
   rw [w6_heap HP3.out o];unfold nvC;rw [if_pos rfl,HNV.out]
  exact hw
def dgN (s:ByteArray) (a:Nat):Nat:=Pl.bt s a-48
def cmN (s:ByteArray) (a:Nat):Nat:=if Pl.bt s a=60 then 0 else if Pl.bt s a=61 then 1 else 2
def WQ (B P:Nat) (s:ByteArray) (w:World) (r:Bool × Nat) (t:TypeId) (n:Nat) (c':Array Value) (e:Ending) (w':World):Prop :=
 ∃ ok a' d,r=(ok,a')∧e=.returned (.bool ok)∧RP B s a' w'∧Kept (fun k=>k=B∨k=P) w w'∧w'.heap[P]? =some (.cells d t (0,0))∧d.size=n∧(ok=true→d=c')
theorem column_any (B P o:Nat) (s:ByteArray) (a:Nat) (c:Array Value) (t:TypeId) (w:World) (hs:s.size≤1000) (hne:P≠B) (h:RP B s a w) (hP:w.heap[P]? =some (.cells c t (0,0))) (hoff:o<c.size) :
 Calls Tryz.prog 172 #[.pointer (some ⟨B,0,none⟩),.pointer (some ⟨P,o,none⟩)] w (WQ B P s w (Pl.dig s a) t c.size (c.setIfInBounds o (.int .i64 (dgN s a:Nat)))):=by
 have h1:=h.c1;have HH:=hid h;have HP:=hid hP;have hPl:=lt_of_heap hP;have ha:=h.1;clear h hP
 go_enter Tryz.func172,Tryz.ntmps172
 go_wp2_with fail
 refine (several_any B s a 1 48 57 1 48 57 _ hs (by omega) (by omega) rfl rfl rfl HH.out).mono ?_
 rintro e w1 ⟨ok,a1,x1,rfl,p1,f1⟩;have HP1:Hid (w1.heap[P]? =some (.cells c t (0,0))):=(f1.block P hPl hne).trans HP.out
 have F1:Hid (Kept (fun k=>k=B∨k=P) w w1):=f1.mono (fun _ _ e=>.inl e)
 have X1:=hid x1
 cases ok
 ·have P1:=hid p1
  clear p1 f1 h1 x1;go_wp2_with fail;go_ret
  exact ⟨false,a1,c,X1.out,rfl,P1.out,F1.out,HP1.out,rfl,by simp⟩
 ·have hr:48≤Pl.bt s a∧Pl.bt s a≤57:=by
   have hz:=x1;unfold Pl.sev at hz
   injection hz with hz1 _
   have hlt:a<Pl.many s 48 57 1 a:=by simpa using hz1
   exact many_range s 48 57 1 a a (Nat.le_refl _) hlt
  have hlt:a<s.size:=Pl.bt_lt (by omega)
  have hb:Pl.bt s a=s[a].toNat:=by unfold Pl.bt;rw [dif_pos hlt]
  have hg:Hid ((dgN s a:Int)=(s[a].toNat:Int)-48):=by show _=_;unfold dgN;rw [hb] at hr ⊢;omega
  have hi0:(0:Int)≤(a:Int):=by omega
  have hi1:(a:Int)<(s.size:Int):=by omega
  have d0:=p1.c0;have P1:=hid p1
  have q0:w1.cell? ⟨P,o,none⟩=some c[o]:=by rw [cell_of HP1.out,Array.getElem?_eq_getElem hoff]
  have q1:w1.frozen? ⟨P,o,none⟩=false:=frozen_of HP1.out o
  have hw1:0≤(s[a].toNat:Int)-48:=by rw [hb] at hr;omega
  have hw2:(s[a].toNat:Int)-48≤255:=by rw [hb] at hr;omega
  have hwr:IntKind.u8.wrap ((s[a].toNat:Int)-48)=(s[a].toNat:Int)-48:=by
   have e1:IntKind.u8.wrap ((s[a].toNat:Int)-48)=((s[a].toNat:Int)-48) % 256:=by simp [IntKind.wrap,IntKind.signed,IntKind.bits]
   rw [e1];omega
  clear p1 f1 h1 x1 hb hr;go_wp2_with fail;go_ret
  refine ⟨true,a1,_,X1.out,rfl,⟨P1.out.1,(Below.heap_setCell _ _ _ _ (fun e=>hne e.symm)).trans P1.out.2⟩,F1.out.setCell (.inr (.inr rfl)) _,heap_set HP1.out o _,by simp,fun _=> ?_⟩
  rw [hg.out]
theorem operandColumn_any (B P o:Nat) (s:ByteArray) (a:Nat) (c:Array Value) (t:TypeId) (w:World) (hs:s.size≤1000) (hne:P≠B) (h:RP B s a w) (hP:w.heap[P]? =some (.cells c t (0,0))) (hoff:o+1<c.size) :
 Calls Tryz.prog 143 #[.pointer (some ⟨B,0,none⟩),.pointer (some ⟨P,o,none⟩)] w (WQ B P s w (Pl.dig s a) t c.size ((c.setIfInBounds o (.bool true)).setIfInBounds (o+1) (.int .i64 (dgN s a:Nat)))):=by
 have HH:=hid h
 have q0:w.cell? ⟨P,o,none⟩=some c[o]:=by rw [cell_of hP,Array.getElem?_eq_getElem (by omega)]
 have q1:w.frozen? ⟨P,o,none⟩=false:=frozen_of hP o
 have hr1:RP B s a (w.setCell ⟨P,o,none⟩ (.bool true)):=⟨h.1,(Below.heap_setCell _ _ _ _ (fun e=>hne e.symm)).trans h.2⟩
 have HC:=hid (column_any B P (o+1) s a (c.setIfInBounds o (.bool true)) t _ hs hne hr1 (heap_set hP o _) (by simpa using hoff))
 have HK:Hid (Kept (fun k=>k=B∨k=P) w (w.setCell ⟨P,o,none⟩ (.bool true))):=(Kept.refl _ _).setCell (.inr (.inr rfl)) _
 clear h hP hr1
 go_enter Tryz.func143,Tryz.ntmps143
 go_wp2_with fail;refine HC.out.mono ?_;rintro e w1 ⟨ok,a1,d,x1,rfl,p1,k1,c1,hd,he⟩;have X1:=hid x1;have P1:=hid p1;have K1:=hid k1;have C1:=hid c1
 have HD:Hid (d.size=c.size∧(ok=true→d=(c.setIfInBounds o (.bool true)).setIfInBounds (o+1) (.int .i64 (dgN s a:Nat)))):=⟨by simpa using hd,he⟩
 clear x1 p1 k1 c1 hd he q0 q1;go_wp2_with fail;go_ret;exact ⟨ok,a1,d,X1.out,rfl,P1.out,HK.out.seq K1.out,C1.out,HD.out.1,HD.out.2⟩
theorem firstIdx_all:∀ n:Fin 256,Lib.indexByte [60,61,33] (n.val).toUInt8=if n.val=60 then 0 else if n.val=61 then 1 else if n.val=33 then 2 else -1:=by decide +kernel
theorem firstIdx_bt (s:ByteArray) (a:Nat):Lib.indexByte [60,61,33] ((Pl.bt s a:Int)).toNat.toUInt8=if Pl.bt s a=60 then 0 else if Pl.bt s a=61 then 1 else if Pl.bt s a=33 then 2 else -1:=by
 rw [Int.toNat_natCast];exact firstIdx_all ⟨Pl.bt s a,Pl.bt_lt_256 s a⟩
theorem comparison_any (B P o:Nat) (s:ByteArray) (a:Nat) (c:Array Value) (t:TypeId) (w:World) (hs:s.size≤1000) (hne:P≠B) (h:RP B s a w) (hP:w.heap[P]? =some (.cells c t (0,0))) (hoff:o<c.size) :
 Calls Tryz.prog 144 #[.pointer (some ⟨B,0,none⟩),.pointer (some ⟨P,o,none⟩)] w (WQ B P s w (Pl.oneOf s a) t c.size (c.setIfInBounds o (.int .i64 (cmN s a:Nat)))):=by
 have HH:=hid h;have HP:=hid hP;have hPl:=lt_of_heap hP;clear h hP;have hfi:=firstIdx_bt s a
 go_enter Tryz.func144,Tryz.ntmps144
 go_wp2_with fail;refine (next_any B s a _ hs HH.out).mono ?_;rintro e w1 ⟨rfl,p1,f1⟩;have HP1:Hid (w1.heap[P]? =some (.cells c t (0,0))):=(f1.block P hPl hne).trans HP.out
 have F1:Hid (Kept (fun k=>k=B∨k=P) w w1):=f1.mono (fun _ _ e=>.inl e)
 have h1:=p1.c1;have g1:=p1.f1
 have q0:w1.cell? ⟨P,o,none⟩=some c[o]:=by rw [cell_of HP1.out,Array.getElem?_eq_getElem hoff]
 have q1:w1.frozen? ⟨P,o,none⟩=false:=frozen_of HP1.out o;have P1:=hid p1;clear p1 f1;go_wp2_with fail;refine (Tryz.strings_IndexByte _ _ _).mono ?_;rintro e w2 ⟨rfl,rfl⟩
 have hfi':Lib.indexByte (⟨#[60,61,33]⟩:ByteArray).data.toList ((Pl.bt s a:Int)).toNat.toUInt8=if Pl.bt s a=60 then 0 else if Pl.bt s a=61 then 1 else if Pl.bt s a=33 then 2 else -1:=hfi
 rw [hfi'];clear hfi hfi'
 by_cases hb:Pl.bt s a=60∨Pl.bt s a=61∨Pl.bt s a=33
 ·have HX:Hid (Pl.oneOf s a=(true,a+1)):=by show _=_;unfold Pl.oneOf;rw [if_pos hb]
  have hl:=Pl.bt_lt (s:=s) (a:=a) (by omega)
  have hv:(if Pl.bt s a=60 then (0:Int) else if Pl.bt s a=61 then 1 else if Pl.bt s a=33 then 2 else -1)=(cmN s a:Int):=by
   unfold cmN;rcases hb with hb | hb | hb <;> simp [hb]
  rw [hv]
  have hn:decide ((cmN s a:Int)<0)=false:=by simp
  generalize hcm:cmN s a=cm at *;have HCM:=hid hcm;clear hb hv hcm;go_wp2_with fail;go_ret
  have hr:RP B s (a+1) (w2.setCell ⟨B,1,none⟩ (.int .i64 ((a:Int)+1))):=P1.out.set (by omega)
  refine ⟨true,a+1,_,HX.out,rfl,⟨hr.1,(Below.heap_setCell _ _ _ _ (fun e=>hne e.symm)).trans hr.2⟩,(F1.out.setCell (.inr (.inl rfl)) _).setCell (.inr (.inr rfl)) _,heap_set ((Below.heap_setCell _ _ _ _ hne).trans HP1.out) o _,by simp,fun _=>rfl⟩
 ·have HX:Hid (Pl.oneOf s a=(false,a)):=by show _=_;unfold Pl.oneOf;rw [if_neg hb]
  have hv:(if Pl.bt s a=60 then (0:Int) else if Pl.bt s a=61 then 1 else if Pl.bt s a=33 then 2 else -1)= -1:=by
   rw [if_neg (by omega),if_neg (by omega),if_neg (by omega)]
  rw [hv];clear hb hv;go_wp2_with fail;go_ret
  exact ⟨false,a,c,HX.out,rfl,P1.out,F1.out,HP1.out,rfl,by simp⟩
def opC (s:ByteArray) (c:Array Value) (o a:Nat):Array Value :=
 if Pl.bt s a=35 then set6 c (o+2) (.num (numOf (sub s (a+1) (Pl.numP s (a+1)).2)))
 else if Pl.bt s a=36 then set6 c (o+2) (.txt (sub s (a+1) (Pl.let4 s (a+1)).2))
 else (c.setIfInBounds o (.bool true)).setIfInBounds (o+1) (.int .i64 (dgN s a:Nat))
theorem tk_at {s:ByteArray} {c a a':Nat} {ok:Bool} (h:Pl.tk s c a=(ok,a')):(ok=true∧Pl.bt s a=c∧a+1=a')∨(ok=false∧Pl.bt s a≠c∧a=a'):=by
 unfold Pl.tk at h
 by_cases hb:Pl.bt s a=c
 ·rw [if_pos hb] at h;injection h with h1 h2;exact .inl ⟨h1.symm,hb,h2⟩
 ·rw [if_neg hb] at h;injection h with h1 h2;exact .inr ⟨h1.symm,hb,h2⟩
theorem operand_any (B P o:Nat) (s:ByteArray) (a:Nat) (c:Array Value) (t:TypeId) (w:World) (hs:s.size≤1000) (hne:P≠B) (h:RP B s a w) (hP:w.heap[P]? =some (.cells c t (0,0))) (hoff:o+7<c.size) :
 Calls Tryz.prog 145 #[.pointer (some ⟨B,0,none⟩),.pointer (some ⟨P,o,none⟩)] w (WQ B P s w (Pl.operP s a) t c.size (opC s c o a)):=by
 have HH:=hid h;have HP:=hid hP;have hPl:=lt_of_heap hP;clear h hP
 go_enter Tryz.func145,Tryz.ntmps145
 go_wp2_with fail
 refine (take_any B s a 35 35 _ hs (by omega) rfl HH.out).mono ?_
 rintro e w1 ⟨ok1,a1,x1,rfl,p1,f1⟩;have HP1:Hid (w1.heap[P]? =some (.cells c t (0,0))):=(f1.block P hPl hne).trans HP.out
 have F1:Hid (Kept (fun k=>k=B∨k=P) w w1):=f1.mono (fun _ _ e=>.inl e)
 have P1:=hid p1;have hPl1:=lt_of_heap HP1.out;have X1:=hid x1
 rcases tk_at x1 with ⟨rfl,hb,rfl⟩ | ⟨rfl,hb,rfl⟩
 ·have HE:Hid (opC s c o a=set6 c (o+2) (.num (numOf (sub s (a+1) (Pl.numP s (a+1)).2)))):=by show _=_;unfold opC;rw [if_pos hb]
  clear p1 f1 x1 hb;go_wp2_with fail
  refine (numberValue_any B P (o+2) s (a+1) c t _ hs hne P1.out HP1.out (by omega)).mono ?_
  rintro e w2 ⟨ok2,a2,x2,rfl,p2,k2,c2⟩;have X2:=hid x2;have P2:=hid p2;have K2:=hid k2;have C2:=hid c2;clear x2 p2 k2 c2;go_wp2_with fail;go_ret
  refine ⟨ok2,a2,_,?_,rfl,P2.out,F1.out.seq K2.out,C2.out,?_,fun hk=> ?_⟩
  ·unfold Pl.operP;rw [Pl.ifP_true X1.out];exact X2.out
  ·unfold nvC;split
   ·exact set6_size _ _ _
   ·rfl
  ·subst hk
   have h2:(Pl.numP s (a+1)).2=a2:=by rw [X2.out]
   rw [HE.out,h2];exact if_pos rfl
 ·go_wp2_with fail
  refine (take_any B s a 36 36 _ hs (by omega) rfl P1.out).mono ?_
  rintro e w2 ⟨ok2,a2,x2,rfl,p2,f2⟩;have HP2:Hid (w2.heap[P]? =some (.cells c t (0,0))):=(f2.block P hPl1 hne).trans HP1.out
  have F2:Hid (Kept (fun k=>k=B∨k=P) w w2):=F1.out.seq (f2.mono (fun _ _ e=>.inl e))
  have P2:=hid p2;have X2:=hid x2
  rcases tk_at x2 with ⟨rfl,hb2,rfl⟩ | ⟨rfl,hb2,rfl⟩
  ·have HE:Hid (opC s c o a=set6 c (o+2) (.txt (sub s (a+1) (Pl.let4 s (a+1)).2))):=by show _=_;unfold opC;rw [if_neg hb,if_pos hb2]
   clear p1 f1 x1 hb p2 f2 x2 hb2;go_wp2_with fail
   refine (textValue_any B P (o+2) s (a+1) c t _ hs hne P2.out HP2.out (by omega)).mono ?_
   rintro e w3 ⟨ok3,a3,x3,rfl,p3,k3,c3⟩;have X3:=hid x3;have P3:=hid p3;have K3:=hid k3;have C3:=hid c3;clear x3 p3 k3 c3;go_wp2_with fail;go_ret
   refine ⟨ok3,a3,_,?_,rfl,P3.out,F2.out.seq K3.out,C3.out,?_,fun hk=> ?_⟩
   ·unfold Pl.operP;rw [Pl.ifP_false X1.out,Pl.ifP_true X2.out];exact X3.out
   ·unfold tvC;split <;> exact set6_size _ _ _
   ·subst hk
    have h2:(Pl.let4 s (a+1)).2=a3:=by rw [X3.out]
    rw [HE.out,h2];exact if_pos rfl
  ·have HE:Hid (opC s c o a=(c.setIfInBounds o (.bool true)).setIfInBounds (o+1) (.int .i64 (dgN s a:Nat))):=by show _=_;unfold opC;rw [if_neg hb,if_neg hb2]
   clear p1 f1 x1 hb p2 f2 x2 hb2;go_wp2_with fail
   refine (operandColumn_any B P o s a c t _ hs hne P2.out HP2.out (by omega)).mono ?_
   rintro e w3 ⟨ok3,a3,d3,x3,rfl,p3,k3,c3,hd3,he3⟩;have X3:=hid x3;have P3:=hid p3;have K3:=hid k3;have C3:=hid c3;have HD:=hid (And.intro hd3 he3);clear x3 p3 k3 c3 hd3 he3;go_wp2_with fail;go_ret
   refine ⟨ok3,a3,d3,?_,rfl,P3.out,F2.out.seq K3.out,C3.out,HD.out.1,fun hk=> ?_⟩
   ·unfold Pl.operP;rw [Pl.ifP_false X1.out,Pl.ifP_false X2.out];exact X3.out
   ·rw [HE.out];exact HD.out.2 hk
def wtC (s:ByteArray) (c:Array Value) (o a:Nat):Array Value :=
 if Pl.bt s a=115 then (c.setIfInBounds o (.bool true)).setIfInBounds (o+1) (.int .i64 (dgN s (a+1):Nat)) else set6 c (o+2) (.num 1)
def wtP (s:ByteArray) (a:Nat):Bool × Nat:=Pl.ifP (Pl.tk s 115) (Pl.dig s) (Pl.tk s 110) a
theorem weight_any (B P o:Nat) (s:ByteArray) (a:Nat) (c:Array Value) (t:TypeId) (w:World) (hs:s.size≤1000) (hne:P≠B) (h:RP B s a w) (hP:w.heap[P]? =some (.cells c t (0,0))) (hoff:o+7<c.size) :
 Calls Tryz.prog 147 #[.pointer (some ⟨B,0,none⟩),.pointer (some ⟨P,o,none⟩)] w (WQ B P s w (wtP s a) t c.size (wtC s c o a)):=by
 have HH:=hid h;have HP:=hid hP;have hPl:=lt_of_heap hP;clear h hP
 go_enter Tryz.func147,Tryz.ntmps147
 go_wp2_with fail
 refine (take_any B s a 115 115 _ hs (by omega) rfl HH.out).mono ?_
 rintro e w1 ⟨ok1,a1,x1,rfl,p1,f1⟩;have HP1:Hid (w1.heap[P]? =some (.cells c t (0,0))):=(f1.block P hPl hne).trans HP.out
 have F1:Hid (Kept (fun k=>k=B∨k=P) w w1):=f1.mono (fun _ _ e=>.inl e)
 have P1:=hid p1;have hPl1:=lt_of_heap HP1.out;have hBl1:B<w1.heap.size:=lt_of_heap p1.2;have X1:=hid x1
 rcases tk_at x1 with ⟨rfl,hb,rfl⟩ | ⟨rfl,hb,rfl⟩
 ·have HE:Hid (wtC s c o a=(c.setIfInBounds o (.bool true)).setIfInBounds (o+1) (.int .i64 (dgN s (a+1):Nat))):=by show _=_;unfold wtC;rw [if_pos hb]
  clear p1 f1 x1 hb;go_wp2_with fail
  refine (operandColumn_any B P o s (a+1) c t _ hs hne P1.out HP1.out (by omega)).mono ?_
  rintro e w3 ⟨ok3,a3,d3,x3,rfl,p3,k3,c3,hd3,he3⟩;have X3:=hid x3;have P3:=hid p3;have K3:=hid k3;have C3:=hid c3;have HD:=hid (And.intro hd3 he3);clear x3 p3 k3 c3 hd3 he3;go_wp2_with fail;go_ret
  refine ⟨ok3,a3,d3,?_,rfl,P3.out,F1.out.seq K3.out,C3.out,HD.out.1,fun hk=> ?_⟩
  ·unfold wtP;rw [Pl.ifP_true X1.out];exact X3.out
  ·rw [HE.out];exact HD.out.2 hk
 ·have HE:Hid (wtC s c o a=set6 c (o+2) (.num 1)):=by show _=_;unfold wtC;rw [if_neg hb]
  clear p1 f1 x1 hb;go_wp2_with fail;refine (numberOf_any 1 _).mono ?_;rintro e w3 ⟨rfl,hk3⟩
  have HP3:Hid (w3.heap[P]? =some (.cells c t (0,0))):=(hk3.block P hPl1 (fun z=>z)).trans HP1.out
  have HR3:Hid (RP B s a w3):=⟨P1.out.1,(hk3.block B hBl1 (fun z=>z)).trans P1.out.2⟩
  have HK3:Hid (Kept (fun k=>k=B∨k=P) w w3):=F1.out.seqNo hk3
  have q0:w3.cell? ⟨P,o+2,none⟩=some c[o+2]:=by rw [cell_of HP3.out,Array.getElem?_eq_getElem (by omega)]
  have q1:w3.cell? ⟨P,o+2+1,none⟩=some c[o+2+1]:=by rw [cell_of HP3.out,Array.getElem?_eq_getElem (by omega)]
  have q2:w3.cell? ⟨P,o+2+2,none⟩=some c[o+2+2]:=by rw [cell_of HP3.out,Array.getElem?_eq_getElem (by omega)]
  have q3:w3.cell? ⟨P,o+2+3,none⟩=some c[o+2+3]:=by rw [cell_of HP3.out,Array.getElem?_eq_getElem (by omega)]
  have q4:w3.cell? ⟨P,o+2+4,none⟩=some c[o+2+4]:=by rw [cell_of HP3.out,Array.getElem?_eq_getElem (by omega)]
  have q5:w3.cell? ⟨P,o+2+5,none⟩=some c[o+2+5]:=by rw [cell_of HP3.out,Array.getElem?_eq_getElem (by omega)]
  have g0:w3.frozen? ⟨P,o+2,none⟩=false:=frozen_of HP3.out _;have g1:w3.frozen? ⟨P,o+2+1,none⟩=false:=frozen_of HP3.out _;have g2:w3.frozen? ⟨P,o+2+2,none⟩=false:=frozen_of HP3.out _;have g3:w3.frozen? ⟨P,o+2+3,none⟩=false:=frozen_of HP3.out _;have g4:w3.frozen? ⟨P,o+2+4,none⟩=false:=frozen_of HP3.out _;have g5:w3.frozen? ⟨P,o+2+5,none⟩=false:=frozen_of HP3.out _
  have HW:Hid (RP B s a (w6 w3 P (o+2) (kI (.num 1)) (tB (.num 1) 0) (tB (.num 1) 1) (tB (.num 1) 2) (tB (.num 1) 3) (nI (.num 1)))) :=
   ⟨HR3.out.1,((w6_kept (S:=(·=P)) rfl (o+2) _ _ _ _ _ _).block B (lt_of_heap HR3.out.2) (fun e=>hne e.symm)).trans HR3.out.2⟩
  have HPW:=hid (w6_heap HP3.out (o+2) (.num 1))
  have HKW:Hid (Kept (fun k=>k=B∨k=P) w (w6 w3 P (o+2) (kI (.num 1)) (tB (.num 1) 0) (tB (.num 1) 1) (tB (.num 1) 2) (tB (.num 1) 3) (nI (.num 1)))):=HK3.out.seq (w6_kept (.inr rfl) (o+2) _ _ _ _ _ _)
  clear hk3;go_wp2_with fail
  refine (take_any B s a 110 110 _ hs (by omega) rfl HW.out).mono ?_
  rintro e w4 ⟨ok4,a4,x4,rfl,p4,f4⟩;have C4:=hid ((f4.block P (lt_of_heap HPW.out) hne).trans HPW.out)
  have K4:Hid (Kept (fun k=>k=B∨k=P) w w4):=HKW.out.seq (f4.mono (fun _ _ e=>.inl e))
  have P4:=hid p4;have X4:=hid x4;clear x4 p4 f4 q0 q1 q2 q3 q4 q5 g0 g1 g2 g3 g4 g5 HW HPW HKW;go_wp2_with fail;go_ret
  refine ⟨ok4,a4,_,?_,rfl,P4.out,K4.out,C4.out,set6_size _ _ _,fun _=>HE.out.symm⟩
  unfold wtP;rw [Pl.ifP_false X1.out];exact X4.out
def colsV (s:ByteArray):Nat→Nat→List Nat
 | 0,a=>[dgN s a]
 | k+1,a=>dgN s a::(if Pl.bt s (a+1)=44 then colsV s k (a+2) else [])
def ints (l:List Nat):List Value:=l.map fun (n:Nat)=>Value.int .i64 (n:Int)
theorem infoI:(Tryz.prog.info? 3).map (fun i=>(i.zero,i.size,i.bytes))=some (some (.int .i64 0),1,8):=by kernel_rfl
def ColsEnd (B P:Nat) (s:ByteArray) (w:World) (t:TypeId) (c:Array Value) (o a:Nat) (e:Ending) (w':World):Prop :=
 ∃ ok a' d,Pl.colsP s 5 a=(ok,a')∧e=.returned (.bool ok)∧RP B s a' w'∧Kept (fun k=>k=B∨k=P) w w'∧w'.heap[P]? =some (.cells d t (0,0))∧d.size=c.size ∧
   (ok=true→∃ lv,d=c.setIfInBounds o lv∧w'.ownsRow w.heap.size 3 1 lv (colsV s 5 a).length (ints (colsV s 5 a)))
theorem dig_at {s:ByteArray} {a a':Nat} (h:Pl.dig s a=(true,a')):a'=a+1:=by
 unfold Pl.dig Pl.sev at h
 injection h with h1 h2
 have h3:a<Pl.many s 48 57 1 a:=by simpa using h1
 have h4:=many_bound s 48 57 1 a;omega
theorem ownsRow_kept {S:Nat→Prop} {w w':World} {base:Nat} {e:TypeId} {size:Nat} {v:Value} {n:Nat} {xs:List Value} (h:w.ownsRow base e size v n xs) (k:Kept S w w') (hS:∀ b,v.ownBlock=some b→¬S b):w'.ownsRow base e size v n xs:=by
 refine ⟨h.1,?_⟩
 rcases h.2 with hn | ⟨g,cap,cur,rfl,hb,hg,hrest⟩
 ·exact .inl hn
 ·exact .inr ⟨g,cap,cur,rfl,hb,(k.block g (lt_of_heap hg) (hS g rfl)).trans hg,hrest⟩
theorem own_base {w:World} {base:Nat} {e:TypeId} {size n:Nat} {v:Value} {xs:List Value} (h:w.ownsRow base e size v n xs):∀ r,v.ownBlock=some r→base≤r:=by
 rcases h.2 with ⟨rfl,_⟩ | ⟨g,cap,cur,rfl,hb,_⟩
 ·intro r hr;simp [Value.ownBlock] at hr
 ·intro r hr;simp [Value.ownBlock] at hr;omega
theorem own_is {w:World} {base:Nat} {e:TypeId} {size n:Nat} {v:Value} {xs:List Value} (h:w.ownsRow base e size v n xs):∀ r,v.ownBlock=some r→Is e w r:=by
 rcases h.2 with ⟨rfl,_⟩ | ⟨g,cap,cur,rfl,hb,hg,_⟩
 ·intro r hr;simp [Value.ownBlock] at hr
 ·intro r hr;simp [Value.ownBlock] at hr;subst hr;exact ⟨_,_,hg⟩
theorem Is.ne {t u:TypeId} {w:World} {b:Nat} {c:Array Value} {z:Nat × Nat} (h:Is t w b) (hb:w.heap[b]? =some (.cells c u z)):t=u:=by
 obtain ⟨c',z',h'⟩:=h;rw [h'] at hb;injection hb with hb;injection hb
theorem columns_any (B P o:Nat) (s:ByteArray) (a:Nat) (c:Array Value) (t:TypeId) (w:World) (hs:s.size≤1000) (hne:P≠B) (ht:t≠3) (h:RP B s a w) (hP:w.heap[P]? =some (.cells c t (0,0))) (hoff:o<c.size) (hnil:c[o]? =some (.slice none 0 0)) :
 Calls Tryz.prog 146 #[.pointer (some ⟨B,0,none⟩),.pointer (some ⟨P,o,none⟩)] w (ColsEnd B P s w t c o a):=by
 have HH:=hid h;have HP:=hid hP;have hPl:=lt_of_heap hP;have hBl:=lt_of_heap h.2;have HN:=hid hnil;obtain ⟨i0,hi0,hz0,hz1,hz2⟩:=info_parts infoI;clear h hP hnil
 go_enter Tryz.func146,Tryz.ntmps146
 go_wp2_with fail
 go_loopg [] 5 (fun k wr=>∃ (cs:List Nat) (c1:Nat) (lv:Value) (dv:Int),cs.length+k=5∧Hid (RP B s c1 wr)∧Hid (wr.heap[P]? =some (.cells (c.setIfInBounds o lv) t (0,0)))∧Hid (wr.heap[w.heap.size]? =some (.cells #[.int .i64 dv] 3 (0,0)))∧Hid (wr.ownsRow (w.heap.size+1) 3 1 lv cs.length (ints cs))∧Hid (Kept (fun k=>k=B∨k=P) w wr)∧Hid (Pl.colsP s k c1=Pl.colsP s 5 a)∧Hid (cs++colsV s k c1=colsV s 5 a))
 case atStart =>
  refine ⟨[],a,.slice none 0 0,0,rfl,⟨HH.out.1,(Below.heap_alloc _ _ _ hBl).trans HH.out.2⟩,?_,heap_alloc_last w _,hid (World.ownsRow_nil _ _ _ _),hid ((Kept.refl _ _).alloc _),hid rfl,hid rfl⟩
  show _=_
  rw [Below.heap_alloc _ _ _ hPl,HP.out]
  congr 2
  refine Array.ext_getElem? fun i=> ?_
  rw [Array.getElem?_setIfInBounds]
  by_cases hi:o=i
  ·subst hi;rw [if_pos rfl,if_pos hoff,HN.out]
  ·rw [if_neg hi]
 case round =>
  obtain ⟨cs,c1,lv,dv,hck,hp,hP1,hD1,hO1,hK1,hE1,hV1⟩:=hrel;have hPl1:=lt_of_heap hP1.out;have hDl1:=lt_of_heap hD1.out
  have hPw:P≠w.heap.size:=by omega
  have hBw:B≠w.heap.size:=by omega
  go_wp2_with fail
  refine (column_any B w.heap.size 0 s c1 #[.int .i64 dv] 3 _ hs (fun e=>hBw e.symm) hp.out hD1.out (by simp)).mono ?_
  rintro e w2 ⟨ok2,a2,d2,x2,rfl,p2,k2,c2,hd2,he2⟩;have P2:=hid p2;have X2:=hid x2
  have hP2:Hid (w2.heap[P]? =some (.cells (c.setIfInBounds o lv) t (0,0))):=(k2.block P hPl1 (by omega)).trans hP1.out
  have hK2:Hid (Kept (fun k=>k=B∨k=P) w w2):=hK1.out.trans k2 (fun _ e=>e) (fun i hi e=>by rcases e with e | e;exact .inl e;omega)
  cases ok2
  ·clear p2 x2 k2 c2 hd2 he2
   go_wp2_with fail;go_ret
   refine ⟨false,a2,_,?_,rfl,P2.out,hK2.out,hP2.out,by simp,by simp⟩
   rw [←hE1.out]
   cases gk with
   | zero=>show Pl.andP _ _ _=_;rw [Pl.andP_false X2.out]
   | succ k=>show Pl.andP _ _ _=_;rw [Pl.andP_false X2.out]
  ·obtain rfl:=dig_at x2
   have hO2:w2.ownsRow (w.heap.size+1) 3 1 lv cs.length (ints cs):=ownsRow_kept hO1.out k2 (fun b hb z=>by
    have h1:=own_base hO1.out b hb
    rcases z with rfl | rfl
    ·omega
    ·omega)
   have hc2:w2.heap[w.heap.size]? =some (.cells #[.int .i64 (dgN s c1:Nat)] 3 (0,0)):=by rw [c2,he2 rfl];rfl
   have d0:w2.cell? ⟨w.heap.size,0,none⟩=some (.int .i64 (dgN s c1:Nat)):=by rw [cell_of hc2];rfl
   have q5:w2.cell? ⟨P,o,none⟩=some lv:=by rw [cell_of hP2.out,Array.getElem?_setIfInBounds,if_pos rfl,if_pos hoff]
   have z5:w2.frozen? ⟨P,o,none⟩=false:=frozen_of hP2.out _;have hPl2:P<w2.heap.size:=lt_of_heap hP2.out;have hBl2:B<w2.heap.size:=lt_of_heap p2.2;have hwl2:w.heap.size<w2.heap.size:=lt_of_heap hc2;have hc2s:=hid hc2;have HO2:=hid hO2
   have zA:∀ ob,(w2.alloc ob).frozen? ⟨P,o,none⟩=false:=fun ob=>(World.frozen?_alloc_past _ _ _ hPl2).trans z5
   have hPo:some P≠lv.ownBlock:=fun x=>by have:=own_is hO2 P x.symm;exact ht (this.ne hP2.out).symm
   have hBo:some B≠lv.ownBlock:=fun x=>by have:=own_is hO2 B x.symm;have:=this.ne p2.2;exact absurd this (by decide)
   have hDo:some w.heap.size≠lv.ownBlock:=fun x=>by have:=own_base hO2 _ x.symm;omega
   have HPo:=hid hPo;have HBo:=hid hBo;have HDo:=hid hDo;generalize hdn:dgN s c1=dn at *;have HDN:=hid hdn;clear p2 x2 k2 c2 hd2 he2 hO2 hc2 hdn hBo hDo;go_wp2_with fail
   go_region_law
    ((refine step_append_lies _ (by rfl) _ _ _ (by rfl) (w.heap.size+1) 3 i0 _ 1 8 Tryz.underlying136 hi0 hz0 hz1 hz2 rfl (by omega) lv cs.length (ints cs) (by rfl) ((HO2.out.alloc _).drew)
       ⟨w2.heap.size,0,none⟩ 1 1 [.int .i64 (dn:Int)] (by rfl) (by rfl) (World.news_of_block (cs:=#[.int .i64 (dn:Int)]) (t:=3) (fr:=(0,0)) (heap_alloc_last w2 _)) (by intro u hu;simp at hu;subst hu;rfl)
       (by omega) (by unfold maxLen;omega) (by omega) (by simp;omega) (w2.heap.size+1) (by simp) ?_;intro gg cap w3 hown3 hgrow hat hlt;have s5:w3.cell? ⟨P,o,none⟩=some lv:=(hgrow.cell_far _ (by simp;omega) hPo).trans ((World.cell?_alloc_past _ _ _ hPl2).trans q5);have f5:w3.frozen? ⟨P,o,none⟩=false:=(hgrow.frozen_far _ (by simp;omega) hPo).trans (zA _)))
   all_goals
    have hkg:Kept (fun k=>lv.ownBlock=some k) w2 w3:=((((Kept.refl (fun k=>lv.ownBlock=some k) w2).alloc _).drew).grown hgrow (fun r hr=>.inr hr))
    have hP3:w3.heap[P]? =some (.cells (c.setIfInBounds o lv) t (0,0)):=(hkg.block P hPl2 (fun e=>HPo.out e.symm)).trans hP2.out
    have hR3:RP B s (c1+1) w3:=⟨P2.out.1,(hkg.block B hBl2 (fun e=>HBo.out e.symm)).trans P2.out.2⟩
    have hD3:w3.heap[w.heap.size]? =some (.cells #[.int .i64 (dn:Int)] 3 (0,0)):=(hkg.block _ hwl2 (fun e=>HDo.out e.symm)).trans hc2s.out
    have hK3:Kept (fun k=>k=B∨k=P) w w3:=hK2.out.trans hkg (fun _ e=>e) (fun i hi e=>by have:=own_base HO2.out i e;omega)
    have hgb:w.heap.size+1≤gg:=by rcases hat with hat | hat;exact own_base HO2.out gg hat;omega
    have hgP:gg≠P:=fun e=>by subst e;have:=own_is hown3 gg rfl;exact ht (this.ne hP3).symm
    obtain ⟨W4,hW4⟩:∃ W4,w3.setCell ⟨P,o,none⟩ (.slice (some ⟨gg,0,none⟩) (cs.length+1) cap)=W4:=⟨_,rfl⟩
    have hk4:Kept (·=P) w3 W4:=by rw [←hW4];exact (Kept.refl (·=P) w3).setCell (g:=P) (.inr rfl) _
    have hP4:Hid (W4.heap[P]? =some (.cells (c.setIfInBounds o (.slice (some ⟨gg,0,none⟩) (cs.length+1) cap)) t (0,0))):=by
     show _=_
     rw [←hW4,heap_set hP3]
     congr 2
     simp
    have hR4:Hid (RP B s (c1+1) W4):=⟨hR3.1,(hk4.block B (lt_of_heap hR3.2) (fun e=>hne e.symm)).trans hR3.2⟩
    have hD4:Hid (W4.heap[w.heap.size]? =some (.cells #[.int .i64 (dn:Int)] 3 (0,0))):=(hk4.block _ (lt_of_heap hD3) (fun e=>hPw e.symm)).trans hD3
    have hO4:Hid (W4.ownsRow (w.heap.size+1) 3 1 (.slice (some ⟨gg,0,none⟩) (cs.length+1) cap) (cs++[dn]).length (ints (cs++[dn]))):=by
     have h1:=ownsRow_kept hown3 hk4 (fun b hb=>by simp [Value.ownBlock] at hb;omega)
     have e1:ints (cs++[dn])=ints cs++[.int .i64 (dn:Int)]:=by simp [ints]
     show W4.ownsRow _ _ _ _ _ _
     rw [e1,List.length_append];exact h1
    have hK4:Hid (Kept (fun k=>k=B∨k=P) w W4):=hK3.seq (hk4.mono (fun _ _ e=>.inr e))
    have s6:W4.cell? ⟨P,o,none⟩=some (.slice (some ⟨gg,0,none⟩) (cs.length+1) cap):=by rw [cell_of hP4.out,Array.getElem?_setIfInBounds,if_pos rfl,if_pos hoff]
    have hPl4:P<W4.heap.size:=lt_of_heap hP4.out;rw [hW4];clear s5 f5 hat hlt hgrow hown3 hkg hP3 hR3 hD3 hK3 hgb hgP hW4 hk4 q5 z5 zA hPo d0 HPo HBo HDo hc2s HO2 hP2 hK2 P2
    cases gk with
    | zero =>
      have hl5:cs.length=5:=by omega
      have hl6:((cs.length:Int)+1 == 6)=true:=by simp;omega
      have HL5:=hid hl5;clear hl5;go_wp2_with fail
      refine (take_any B s (c1+1) 93 93 _ hs (by omega) rfl hR4.out).mono ?_
      rintro e w5 ⟨ok5,a5,x5,rfl,p5,f5⟩;have X5:=hid x5;have P5:=hid p5;have hP5:=hid ((f5.block P hPl4 hne).trans hP4.out)
      have hK5:Hid (Kept (fun k=>k=B∨k=P) w w5):=hK4.out.seq (f5.mono (fun _ _ e=>.inl e))
      have hO5:=hid (ownsRow_kept hO4.out f5 (fun b hb z=>by have:=own_base hO4.out b hb;omega))
      clear x5 p5 f5;go_wp2_with fail;go_ret
      have hcv:cs++[dn]=colsV s 5 a:=by rw [←hV1.out];show _=cs++[dgN s c1];rw [HDN.out]
      refine ⟨ok5,a5,_,?_,rfl,P5.out,hK5.out,hP5.out,by simp,fun _=>⟨_,rfl,?_⟩⟩
      ·rw [←hE1.out];show Pl.andP _ _ _=_;rw [Pl.andP_true X2.out];exact X5.out
      ·rw [←hcv];exact ⟨hO5.out.1,hO5.out.2.imp id (fun ⟨g,cp,cu,h1,h2,h3⟩=>⟨g,cp,cu,h1,by omega,h3⟩)⟩
    | succ k =>
      have hl6:((cs.length:Int)+1 == 6)=false:=by simp;omega
      go_wp2_with fail
      refine (take_any B s (c1+1) 44 44 _ hs (by omega) rfl hR4.out).mono ?_
      rintro e w5 ⟨ok5,a5,x5,rfl,p5,f5⟩;have X5:=hid x5;have P5:=hid p5;have hP5:=hid ((f5.block P hPl4 hne).trans hP4.out);have hPl5:P<w5.heap.size:=lt_of_heap hP5.out
      have hD5:=hid ((f5.block _ (lt_of_heap hD4.out) (fun e=>hBw e.symm)).trans hD4.out)
      have hK5:Hid (Kept (fun k=>k=B∨k=P) w w5):=hK4.out.seq (f5.mono (fun _ _ e=>.inl e))
      have hO5:=hid (ownsRow_kept hO4.out f5 (fun b hb z=>by have:=own_base hO4.out b hb;omega))
      rcases tk_at x5 with ⟨rfl,hb5,rfl⟩ | ⟨rfl,hb5,rfl⟩
      ·have HCV:Hid ((cs++[dn])++colsV s k (c1+1+1)=colsV s 5 a):=by
        show _=_
        rw [←hV1.out,colsV,if_pos hb5,HDN.out];simp
       have HEV:Hid (Pl.colsP s k (c1+1+1)=Pl.colsP s 5 a):=by
        show _=_
        rw [←hE1.out];show _=Pl.andP _ _ _;rw [Pl.andP_true X2.out,Pl.ifP_true X5.out]
       clear x5 p5 f5 hb5;go_wp2_with fail;go_roundg k
       case measure=>omega
       case rel=>exact ⟨cs++[dn],c1+1+1,_,dn,by simp;omega,P5,hP5,hD5,hO5,hK5,HEV,HCV⟩
      ·have HCV:Hid (cs++[dn]=colsV s 5 a):=by
        show _=_
        rw [←hV1.out,colsV,if_neg hb5,HDN.out]
       clear x5 p5 f5 hb5;go_wp2_with fail
       refine (take_any B s (c1+1) 93 93 _ hs (by omega) rfl P5.out).mono ?_
       rintro e w7 ⟨ok7,a7,x7,rfl,p7,f7⟩;have X7:=hid x7;have P7:=hid p7;have hP7:=hid ((f7.block P hPl5 hne).trans hP5.out)
       have hK7:Hid (Kept (fun k=>k=B∨k=P) w w7):=hK5.out.seq (f7.mono (fun _ _ e=>.inl e))
       have hO7:=hid (ownsRow_kept hO5.out f7 (fun b hb z=>by have:=own_base hO5.out b hb;omega))
       clear x7 p7 f7;go_wp2_with fail;go_ret
       refine ⟨ok7,a7,_,?_,rfl,P7.out,hK7.out,hP7.out,by simp,fun _=>⟨_,rfl,?_⟩⟩
       ·rw [←hE1.out];show Pl.andP _ _ _=_;rw [Pl.andP_true X2.out,Pl.ifP_false X5.out];exact X7.out
       ·rw [←HCV.out];exact ⟨hO7.out.1,hO7.out.2.imp id (fun ⟨g,cp,cu,h1,h2,h3⟩=>⟨g,cp,cu,h1,by omega,h3⟩)⟩
end Go.Proofs.YtdinjjmcmfjbfaaGreatDoor
