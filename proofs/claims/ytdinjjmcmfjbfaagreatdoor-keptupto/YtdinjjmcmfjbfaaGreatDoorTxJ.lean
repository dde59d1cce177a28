import Derived.Test.YtdinjjmcmfjbfaaGreatDoorPureJ
import Derived.Test.YtdinjjmcmfjbfaaGreatDoorQmJ
import Derived.Deep.LoopGhost
import Derived.Deep.RegionHeld3
import Derived.Lib.ParseIntBCases
import Derived.Lib.BufferWrite
import Derived.Laws.Rows
import Derived.Deep.WholeRow
import Derived.OwnWalk
set_option maxRecDepth 100000
set_option maxHeartbeats 4000000
namespace Go.Proofs.YtdinjjmcmfjbfaaGreatDoor
open Go.RowKit
def RP (B:Nat) (s:ByteArray) (a:Nat) (w:World):Prop:=a≤s.size∧w.heap[B]? =some (.cells #[.string s,.int .i64 (a:Int)] 93 (0,0))
theorem RP.c0 {B:Nat} {s:ByteArray} {a:Nat} {w:World} (h:RP B s a w):w.cell? ⟨B,0,none⟩=some (.string s):=by rw [cell_of h.2];rfl
theorem RP.c1 {B:Nat} {s:ByteArray} {a:Nat} {w:World} (h:RP B s a w):w.cell? ⟨B,1,none⟩=some (.int .i64 (a:Int)):=by rw [cell_of h.2];rfl
theorem RP.f1 {B:Nat} {s:ByteArray} {a:Nat} {w:World} (h:RP B s a w):w.frozen? ⟨B,1,none⟩=false:=frozen_of h.2 1
theorem RP.drewN {B:Nat} {s:ByteArray} {a:Nat} {w:World} (h:RP B s a w) (n:Nat):RP B s a (w.drewN n):=h
theorem RP.set {B:Nat} {s:ByteArray} {a a':Nat} {w:World} (h:RP B s a w) (ha:a'≤s.size):RP B s a' (w.setCell ⟨B,1,none⟩ (.int .i64 (a':Int))):=⟨ha,by rw [heap_set h.2];rfl⟩
def PP (B:Nat) (s:ByteArray) (w:World) (r:Bool × Nat) (e:Ending) (w':World):Prop :=
 ∃ ok a',r=(ok,a')∧e=.returned (.bool ok)∧RP B s a' w'∧Kept (·=B) w w'
theorem next_any (B:Nat) (s:ByteArray) (a:Nat) (w:World) (_hs:s.size≤1000) (h:RP B s a w) :
 Calls Tryz.prog 101 #[.pointer (some ⟨B,0,none⟩)] w fun e w'=>e=.returned (.int .u8 (Pl.bt s a:Nat))∧RP B s a w'∧Kept (·=B) w w':=by
 have h0:=h.c0;have h1:=h.c1;have HH:=hid h;have ha:=h.1
 have hi:(0:Int)≤(a:Int):=by omega
 clear h
 by_cases hlt:a<s.size
 ·have hi2:(a:Int)<(s.size:Int):=by omega
  have Hb:Hid (Pl.bt s a=s[a].toNat):=by show _=_;unfold Pl.bt;rw [dif_pos hlt]
  go_enter Tryz.func101,Tryz.ntmps101
  go_wp2
  go_quiet (fail)
  go_wp2
  go_quiet (fail)
  go_wp2
  go_ret
  exact ⟨ret_int (by rw [Hb.out]),(HH.out.drewN _).drewN _,((Kept.refl _ _).drewN _).drewN _⟩
 ·have Hb:Hid (Pl.bt s a=0):=by show _=_;unfold Pl.bt;rw [dif_neg hlt]
  go_enter Tryz.func101,Tryz.ntmps101
  go_wp2
  go_quiet (fail)
  go_wp2
  go_ret
  exact ⟨ret_int (by rw [Hb.out];rfl),(HH.out.drewN _),((Kept.refl _ _).drewN _)⟩
theorem take_any (B:Nat) (s:ByteArray) (a c:Nat) (ci:Int) (w:World) (hs:s.size≤1000) (hc:0<c) (hci:ci=(c:Int)) (h:RP B s a w) :
 Calls Tryz.prog 76 #[.pointer (some ⟨B,0,none⟩),.int .u8 ci] w (PP B s w (Pl.tk s c a)):=by
 subst hci;have ha:=h.1;have HH:=hid h;clear h
 by_cases hb:Pl.bt s a=c
 ·have hx:((Pl.bt s a:Int) != (c:Int))=false:=by simp [hb]
  have HX:Hid (Pl.tk s c a=(true,a+1)):=by show _=_;unfold Pl.tk;rw [if_pos hb]
  have hl:=Pl.bt_lt (s:=s) (a:=a) (by omega)
  clear hb
  go_enter Tryz.func76,Tryz.ntmps76
  go_wp2_with fail;refine (next_any B s a _ hs HH.out).mono ?_;rintro e w1 ⟨rfl,hp,hf⟩;have h1:=hp.c1;have f1:=hp.f1;have HP:=hid hp;clear hp
  go_wp2
  go_ret
  exact ⟨true,a+1,HX.out,rfl,HP.out.set (by omega),hf.setCell (.inr rfl) _⟩
 ·have hx:((Pl.bt s a:Int) != (c:Int))=true:=by simp;omega
  have HX:Hid (Pl.tk s c a=(false,a)):=by show _=_;unfold Pl.tk;rw [if_neg hb]
  clear hb
  go_enter Tryz.func76,Tryz.ntmps76
  go_wp2_with fail;refine (next_any B s a _ hs HH.out).mono ?_;rintro e w1 ⟨rfl,hp,hf⟩
  go_wp2
  go_ret;exact ⟨false,a,HX.out,rfl,hp,hf⟩
theorem several_any (B:Nat) (s:ByteArray) (a most lo hi:Nat) (mi li ui:Int) (w:World) (hs:s.size≤1000) (hm:most≤10) (hlo:0<lo) (hmi:mi=(most:Int)) (hli:li=(lo:Int)) (hui:ui=(hi:Int)) (h:RP B s a w) :
 Calls Tryz.prog 123 #[.pointer (some ⟨B,0,none⟩),.int .i64 mi,.int .u8 li,.int .u8 ui] w (PP B s w (Pl.sev s most lo hi a)):=by
 subst hmi hli hui;have ha:=h.1;have h1:=h.c1;have HH:=hid h;clear h
 go_enter Tryz.func123,Tryz.ntmps123
 go_wp2_with fail
 go_loopg [] most (fun k wr=>∃ c:Nat,c+k=a+most∧a≤c∧Hid (RP B s c wr)∧Kept (·=B) w wr∧Hid (Pl.many s lo hi k c=Pl.many s lo hi most a))
 case atStart=>exact ⟨a,rfl,Nat.le_refl _,HH,Kept.refl _ _,rfl⟩
 case round =>
  obtain ⟨c,e1,hac,hp,hf,hm1⟩:=hrel;have hc:=hp.out.1;have c1:=hp.out.c1
  by_cases hk:gk=0
  ·subst hk
   have hd:decide ((c:Int)-(a:Int)<(most:Int))=false:=by simp;omega
   go_wp2_with fail;go_ret;have e2:c=Pl.many s lo hi most a:=hm1.out;refine ⟨decide (a<c),c,?_,ret_bool ?_,hp.out,hf⟩
   ·unfold Pl.sev;rw [←e2]
   ·simp
  ·obtain ⟨k,rfl⟩:∃ k,gk=k+1:=⟨gk-1,by omega⟩
   have hlt:(c:Int)-(a:Int)<(most:Int):=by omega
   by_cases hb:lo≤Pl.bt s c
   ·by_cases hb2:Pl.bt s c≤hi
    ·have hb':(lo:Int)≤(Pl.bt s c:Int):=by omega
     have hb2':(Pl.bt s c:Int)≤(hi:Int):=by omega
     have hl:=Pl.bt_lt (s:=s) (a:=c) (by omega)
     have e2:Hid (Pl.many s lo hi k (c+1)=Pl.many s lo hi most a):=by have:=hm1.out;rw [Pl.many_in ⟨hb,hb2⟩] at this;exact this
     go_wp2_with fail;refine (next_any B s c _ hs hp.out).mono ?_;rintro e w1 ⟨rfl,hp1,hf1⟩;have H1:=hid hp1;clear hp1;go_wp2_with fail;refine (next_any B s c _ hs H1.out).mono ?_;rintro e w2 ⟨rfl,hp2,hf2⟩;have d1:=hp2.c1;have g1:=hp2.f1;have H2:=hid hp2;clear hp2;go_wp2_with fail;go_roundg k
     case measure=>omega
     case rel=>exact ⟨c+1,by omega,by omega,H2.out.set (by omega),((hf.seq hf1).seq hf2).setCell (.inr rfl) _,e2⟩
    ·have hb':(lo:Int)≤(Pl.bt s c:Int):=by omega
     have hb2':decide ((Pl.bt s c:Int)≤(hi:Int))=false:=by simp;omega
     have e2:Hid (c=Pl.many s lo hi most a):=by have:=hm1.out;rw [Pl.many_out (by omega)] at this;exact this
     go_wp2_with fail;refine (next_any B s c _ hs hp.out).mono ?_;rintro e w1 ⟨rfl,hp1,hf1⟩;have H1:=hid hp1;clear hp1;go_wp2_with fail;refine (next_any B s c _ hs H1.out).mono ?_;rintro e w2 ⟨rfl,hp2,hf2⟩;have d1:=hp2.c1;have H2:=hid hp2;clear hp2;go_wp2_with fail;go_ret;refine ⟨decide (a<c),c,?_,ret_bool ?_,H2.out,(hf.seq hf1).seq hf2⟩
     ·unfold Pl.sev;rw [←e2.out]
     ·simp
   ·have hb':decide ((lo:Int)≤(Pl.bt s c:Int))=false:=by simp;omega
    have e2:Hid (c=Pl.many s lo hi most a):=by have:=hm1.out;rw [Pl.many_out (by omega)] at this;exact this
    go_wp2_with fail;refine (next_any B s c _ hs hp.out).mono ?_;rintro e w1 ⟨rfl,hp1,hf1⟩;have d1:=hp1.c1;have H1:=hid hp1;clear hp1;go_wp2_with fail;go_ret;refine ⟨decide (a<c),c,?_,ret_bool ?_,H1.out,hf.seq hf1⟩
    ·unfold Pl.sev;rw [←e2.out]
    ·simp
theorem digits_any (B:Nat) (s:ByteArray) (a:Nat) (w:World) (hs:s.size≤1000) (h:RP B s a w) :
 Calls Tryz.prog 200 #[.pointer (some ⟨B,0,none⟩)] w (PP B s w (Pl.digs s a)):=by
 have HH:=hid h;clear h
 by_cases hb:Pl.bt s a=48
 ·have hx:((Pl.bt s a:Int) == 48)=true:=by simp;omega
  have HX:Hid (Pl.digs s a=(false,a)):=by show _=_;unfold Pl.digs;rw [if_pos hb]
  clear hb
  go_enter Tryz.func200,Tryz.ntmps200
  go_wp2_with fail;refine (next_any B s a _ hs HH.out).mono ?_;rintro e w1 ⟨rfl,hp,hf⟩;go_wp2_with fail;go_ret;exact ⟨false,a,HX.out,rfl,hp,hf⟩
 ·have hx:((Pl.bt s a:Int) == 48)=false:=by simp;omega
  have HX:Hid (Pl.digs s a=Pl.sev s 4 48 57 a):=by show _=_;unfold Pl.digs;rw [if_neg hb]
  clear hb
  go_enter Tryz.func200,Tryz.ntmps200
  go_wp2_with fail;refine (next_any B s a _ hs HH.out).mono ?_;rintro e w1 ⟨rfl,hp,hf⟩;have HP:=hid hp;clear hp;go_wp2_with fail
  refine (several_any B s a 4 48 57 4 48 57 _ hs (by omega) (by omega) rfl rfl rfl HP.out).mono ?_
  rintro e w2 ⟨ok,b,x,rfl,p,f⟩;have X:=hid x;clear x;go_wp2_with fail;go_ret;exact ⟨ok,b,HX.out.trans X.out,rfl,p,hf.seq f⟩
theorem numeral_any (B:Nat) (s:ByteArray) (a:Nat) (w:World) (hs:s.size≤1000) (h:RP B s a w) :
 Calls Tryz.prog 161 #[.pointer (some ⟨B,0,none⟩)] w (PP B s w (Pl.numP s a)):=by
 have HH:=hid h;clear h
 go_enter Tryz.func161,Tryz.ntmps161
 go_wp2_with fail
 refine (take_any B s a 45 45 _ hs (by omega) rfl HH.out).mono ?_
 rintro e w1 ⟨ok1,a1,x1,rfl,p1,f1⟩;have X1:=hid x1;have P1:=hid p1;clear x1 p1
 cases ok1
 ·go_wp2_with fail
  refine (take_any B s a1 48 48 _ hs (by omega) rfl P1.out).mono ?_
  rintro e w2 ⟨ok2,a2,x2,rfl,p2,f2⟩;have X2:=hid x2;have P2:=hid p2;clear x2 p2
  cases ok2
  ·go_wp2_with fail
   refine (digits_any B s a2 _ hs P2.out).mono ?_;rintro e w3 ⟨ok3,a3,x3,rfl,p3,f3⟩;have X3:=hid x3;clear x3;go_wp2_with fail;go_ret
   exact ⟨ok3,a3,by unfold Pl.numP;rw [Pl.ifP_false X1.out,Pl.orP_false X2.out];exact X3.out,rfl,p3,(f1.seq f2).seq f3⟩
  ·go_wp2_with fail
   go_ret
   exact ⟨true,a2,by unfold Pl.numP;rw [Pl.ifP_false X1.out,Pl.orP_true X2.out],rfl,P2.out,f1.seq f2⟩
 ·go_wp2_with fail
  refine (digits_any B s a1 _ hs P1.out).mono ?_;rintro e w3 ⟨ok3,a3,x3,rfl,p3,f3⟩;have X3:=hid x3;clear x3;go_wp2_with fail;go_ret
  exact ⟨ok3,a3,by unfold Pl.numP;rw [Pl.ifP_true X1.out];exact X3.out,rfl,p3,f1.seq f3⟩
def decVal:List UInt8→Nat:=fun l=>l.foldl (fun a c=>a*10+(c.toNat-48)) 0
def isDig (c:UInt8):Prop:=48≤c.toNat∧c.toNat≤57
def numOf (l:List UInt8):Int:=match l with
 | []=>0
 | c::r=>if c=45 then -(decVal r:Int) else (decVal (c::r):Int)
theorem decVal_fold:∀ (l:List UInt8) (acc:Nat),l.foldl (fun a c=>a*10+(c.toNat-48)) acc=acc*10 ^ l.length+decVal l
 | [],acc=>by simp [decVal]
 | c::l,acc=>by
   have h1:=decVal_fold l (acc*10+(c.toNat-48));have h2:=decVal_fold l (c.toNat-48)
   have h3:decVal (c::l)=l.foldl (fun a c=>a*10+(c.toNat-48)) (c.toNat-48):=by simp [decVal]
   simp only [List.foldl_cons];rw [h1,h3,h2,List.length_cons,Nat.pow_succ,Nat.add_mul,Nat.mul_assoc,Nat.mul_comm 10];omega
theorem uint_digits:∀ (l:List UInt8) (acc M:Nat),(∀ c∈l,isDig c)→M≤18446744073709551615→acc*10 ^ l.length+decVal l≤M→Lib.parseUintM M acc l=.ok (acc*10 ^ l.length+decVal l)
 | [],acc,M,_,_,_=>by simp [Lib.parseUintM,decVal]
 | c::l,acc,M,hd,hM,h=>by
   have hc:48≤c.toNat∧c.toNat≤57:=hd c (by simp)
   have h3:decVal (c::l)=(c.toNat-48)*10 ^ l.length+decVal l:=by
    have:=decVal_fold l (c.toNat-48)
    simp only [decVal,List.foldl_cons,Nat.zero_mul,Nat.zero_add] at this ⊢;exact this
   have hp:0<10 ^ l.length:=Nat.pow_pos (by omega)
   have e1:acc*10 ^ (c::l).length+decVal (c::l)=(acc*10+(c.toNat-48))*10 ^ l.length+decVal l:=by
    rw [h3,List.length_cons,Nat.pow_succ,Nat.add_mul,Nat.mul_assoc,Nat.mul_comm 10];omega
   rw [e1] at h ⊢;have hle:acc*10+(c.toNat-48)≤(acc*10+(c.toNat-48))*10 ^ l.length:=Nat.le_mul_of_pos_right _ hp
   rw [Lib.parseUintM,if_pos hc,if_neg (by omega),if_neg (by omega)]
   exact uint_digits l _ M (fun x hx=>hd x (by simp [hx])) hM h
def Digs (l:List UInt8):Prop:=l≠[]∧l.length≤4∧∀ c∈l,isDig c
theorem decVal_lt {l:List UInt8} (h:∀ c∈l,isDig c):decVal l<10 ^ l.length:=by
 induction l with
 | nil=>simp [decVal]
 | cons c l ih =>
   have h3:decVal (c::l)=(c.toNat-48)*10 ^ l.length+decVal l:=by
    have:=decVal_fold l (c.toNat-48)
    simp only [decVal,List.foldl_cons,Nat.zero_mul,Nat.zero_add] at this ⊢;exact this
   have ih':=ih (fun x hx=>h x (by simp [hx]))
   have hc:=h c (by simp)
   unfold isDig at hc
   have hm:(c.toNat-48)*10 ^ l.length≤9*10 ^ l.length:=Nat.mul_le_mul_right _ (by omega)
   rw [h3,List.length_cons,Nat.pow_succ];omega
theorem decVal_lt4 {l:List UInt8} (h:Digs l):decVal l≤9999:=by
 have h1:=decVal_lt h.2.2
 have h2:10 ^ l.length≤10 ^ 4:=Nat.pow_le_pow_right (by omega) h.2.1
 omega
def Numeral (l:List UInt8):Prop:=Digs l∨∃ d,l=45::d∧Digs d
theorem numOf_le {l:List UInt8} (h:Numeral l): -9999≤numOf l∧numOf l≤9999:=by
 rcases h with h | ⟨d,rfl,h⟩
 ·have:=decVal_lt4 h
  cases l with
  | nil=>exact absurd rfl h.1
  | cons c r =>
    have hc:=h.2.2 c (by simp)
    have h45:c≠45:=fun e=>by subst e;unfold isDig at hc;simp at hc
    simp only [numOf,if_neg h45];omega
 ·have:=decVal_lt4 h
  simp only [numOf,if_pos];omega
theorem parse_ok {l:List UInt8} (h:Numeral l):Lib.parseIntB 64 l=.ok (numOf l):=by
 have hu:∀ d,Digs d→Lib.parseUintB 64 d=.ok (decVal d):=fun d hd=>by
  have:=decVal_lt4 hd
  unfold Lib.parseUintB
  rw [if_neg hd.1,uint_digits d 0 (2 ^ 64-1) hd.2.2 (by decide) (by omega)]
  simp
 rcases h with h | ⟨d,rfl,h⟩
 ·have hv:=decVal_lt4 h
  have hu':=hu l h
  cases l with
  | nil=>exact absurd rfl h.1
  | cons c r =>
    have hc:=h.2.2 c (by simp)
    unfold isDig at hc
    have h45:c≠45:=fun e=>by subst e;simp at hc
    rw [Lib.parseIntB,if_neg (by omega),hu']
    simp only [numOf,if_neg h45]
    rw [if_neg (by omega),if_neg (by omega),if_neg (by omega)]
 ·have hv:=decVal_lt4 h
  rw [Lib.parseIntB,if_pos (by simp),hu d h]
  have e45:(45:UInt8).toNat=45:=rfl;simp only [numOf,if_pos,e45]
  rw [if_neg (by simp),if_neg (by omega)]
def sub (s:ByteArray) (a b:Nat):List UInt8:=(s.extract a b).data.toList
theorem sub_eq (s:ByteArray) (a b:Nat):sub s a b=(s.data.toList.take b).drop a:=by
 simp [sub,ByteArray.data_extract,Array.toList_extract,List.extract_eq_take_drop,List.drop_take]
theorem ba_len (s:ByteArray):s.data.toList.length=s.size:=by rw [Array.length_toList];rfl
theorem bt_get (s:ByteArray) (i:Nat):s.data.toList[i]?.map (·.toNat)=if i<s.size then some (Pl.bt s i) else none:=by
 by_cases h:i<s.size
 ·rw [if_pos h]
  have h':i<s.data.toList.length:=by rw [ba_len];exact h
  rw [List.getElem?_eq_getElem h'];simp only [Option.map_some,Option.some.injEq,Pl.bt,dif_pos h]
  rfl
 ·rw [if_neg h,List.getElem?_eq_none (by rw [ba_len];omega)];rfl
theorem sub_len {s:ByteArray} {a b:Nat} (hb:b≤s.size):(sub s a b).length=b-a:=by
 rw [sub_eq,List.length_drop,List.length_take]
 have:=ba_len s
 omega
theorem sub_get {s:ByteArray} {a b:Nat} (hb:b≤s.size) {i:Nat} {c:UInt8} (h:(sub s a b)[i]? =some c):a+i<b∧c.toNat=Pl.bt s (a+i):=by
 have hi:=(List.getElem?_eq_some_iff.1 h).1;rw [sub_len hb] at hi
 refine ⟨by omega,?_⟩
 rw [sub_eq,List.getElem?_drop,List.getElem?_take,if_pos (by omega)] at h
 have:=bt_get s (a+i)
 rw [h,if_pos (by omega)] at this
 simpa using this
theorem sub_mem {s:ByteArray} {a b:Nat} (hb:b≤s.size) {c:UInt8} (h:c∈sub s a b):∃ i,a≤i∧i<b∧c.toNat=Pl.bt s i:=by
 obtain ⟨i,hi⟩:=List.getElem?_of_mem h;obtain ⟨h1,h2⟩:=sub_get hb hi
 exact ⟨a+i,by omega,h1,h2⟩
theorem many_range (s:ByteArray) (lo hi:Nat):∀ k a i,a≤i→i<Pl.many s lo hi k a→lo≤Pl.bt s i∧Pl.bt s i≤hi
 | 0,a,i,h1,h2=>by simp [Pl.many] at h2;omega
 | k+1,a,i,h1,h2=>by
   by_cases h:lo≤Pl.bt s a∧Pl.bt s a≤hi
   ·rw [Pl.many_in h] at h2
    by_cases e:i=a
    ·subst e;exact h
    ·exact many_range s lo hi k (a+1) i (by omega) h2
   ·rw [Pl.many_out h] at h2;omega
theorem many_bound (s:ByteArray) (lo hi:Nat):∀ k a,Pl.many s lo hi k a≤a+k
 | 0,a=>by simp [Pl.many]
 | k+1,a=>by
   unfold Pl.many;split
   ·have:=many_bound s lo hi k (a+1);omega
   ·omega
theorem sev_sub {s:ByteArray} {k lo hi a a':Nat} (h0:0<lo) (ha:a≤s.size) (h:Pl.sev s k lo hi a=(true,a')):a<a'∧a'≤s.size∧a'≤a+k∧∀ c∈sub s a a',lo≤c.toNat∧c.toNat≤hi:=by
 unfold Pl.sev at h
 injection h with h1 h2
 have hlt:a<Pl.many s lo hi k a:=by simpa using h1
 subst h2;have hsz:=Pl.many_size (s:=s) (lo:=lo) (hi:=hi) h0 k a ha
 refine ⟨hlt,hsz,many_bound s lo hi k a,fun c hc=> ?_⟩
 obtain ⟨i,h1,h2,h3⟩:=sub_mem hsz hc;rw [h3];exact many_range s lo hi k a i h1 h2
open Mo (V Row)
theorem infoVs:(Tryz.prog.info? 133).map (·.size)=some 6:=by kernel_rfl
theorem infoB:(Tryz.prog.info? 5).map (·.size)=some 1:=by kernel_rfl
theorem numberOf_any (n:Int) (w:World):Calls Tryz.prog 163 #[.int .i64 n] w fun e w'=>e=.returned (.agg #[.int .i32 0,.int .u8 0,.int .u8 0,.int .u8 0,.int .u8 0,.int .i64 n])∧Kept No w w':=by
 go_enter Tryz.func163,Tryz.ntmps163
 go_wp2_with fail
 (try simp only [Exit.inBlock,Exit.then])
 refine bodyPost_ret (results_cell_row rfl _ _ w.heap.size 133 _ (0,0) _ rfl (heap_alloc_last _ _) Tryz.underlying133 rfl infoVs) rfl ?_;exact ⟨rfl,(Kept.refl _ _).alloc _⟩
theorem txt_cells (l:List UInt8) (h:l.length≤4) :
 ([.int .i32 1,.int .u8 0,.int .u8 0,.int .u8 0,.int .u8 0,.int .i64 0]:List Value).take 1++Lib.byteCells l++([.int .i32 1,.int .u8 0,.int .u8 0,.int .u8 0,.int .u8 0,.int .i64 0]:List Value).drop (1+l.length)=encV (.txt l):=by
 match l,h with
 | [],_=>rfl
 | [a],_=>rfl
 | [a,b],_=>rfl
 | [a,b,c],_=>rfl
 | [a,b,c,d],_=>rfl
theorem copy_txt (W:World) (g:Nat) (hg:g=W.heap.size) (s:ByteArray) (hs:s.size≤4) :
 (Builtin.copy_ #[149,9] 3 #[.slice (some ⟨g,1,none⟩) 4 4,.string s]).run Tryz.prog (W.alloc (.cells #[.int .i32 1,.int .u8 0,.int .u8 0,.int .u8 0,.int .u8 0,.int .i64 0] 133)) =
  .ok (goInt s.size) (W.alloc (.cells #[.int .i32 1,.int .u8 (tB (.txt s.data.toList) 0),.int .u8 (tB (.txt s.data.toList) 1),.int .u8 (tB (.txt s.data.toList) 2),.int .u8 (tB (.txt s.data.toList) 3),.int .i64 0] 133)):=by
 subst hg
 have hl:s.data.toList.length=s.size:=by rw [Array.length_toList];rfl
 rw [Lib.run_copy_row_string _ _ _ _ 5 W.heap.size 1 4 4 s _ _ Tryz.underlying149 infoB (heap_alloc_last W _) hs (by simp;omega),World.setRow_alloc_new]
 have:=txt_cells s.data.toList (by omega)
 rw [hl] at this;simp only [this]
 rfl
theorem textOf_any (s:ByteArray) (hs:s.size≤4) (w:World):Calls Tryz.prog 160 #[.string s] w fun e w'=>e=.returned (.agg #[.int .i32 1,.int .u8 (tB (.txt s.data.toList) 0),.int .u8 (tB (.txt s.data.toList) 1),.int .u8 (tB (.txt s.data.toList) 2),.int .u8 (tB (.txt s.data.toList) 3),.int .i64 0])∧Kept No w w':=by
 have hc:=copy_txt (w.alloc (.cells #[.int .i32 0,.int .u8 0,.int .u8 0,.int .u8 0,.int .u8 0,.int .i64 0] 133)) (w.heap.size+1) (by simp) s hs
 generalize tB (.txt s.data.toList) 0=t0 at *;generalize tB (.txt s.data.toList) 1=t1 at *;generalize tB (.txt s.data.toList) 2=t2 at *;generalize tB (.txt s.data.toList) 3=t3 at *
 go_enter Tryz.func160,Tryz.ntmps160
 go_wp2_with fail
 (try simp only [Exit.inBlock,Exit.then])
 refine bodyPost_ret (results_cell_row rfl _ _ w.heap.size 133 _ (0,0) _ rfl (heap_alloc2_old _ _ _) Tryz.underlying133 rfl infoVs) rfl ?_;exact ⟨rfl,((Kept.refl _ _).alloc _).alloc _⟩
end Go.Proofs.YtdinjjmcmfjbfaaGreatDoor
