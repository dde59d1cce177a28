import Derived.Test.YtdinjjmcmfjbfaaGreatDoorKeJ
import Derived.Test.YtdinjjmcmfjbfaaGreatDoorTie
import Derived.Test.YtdinjjmcmfjbfaaGreatDoorCards
import Derived.Lay
import Derived.Lib.LaidU8
import Derived.Lib.LaidTab
import Derived.Deep.Slices
import Derived.Handed
import Derived.ChangeAt
import Derived.ChangeAt2
import Derived.OpenShut
import Derived.ChangeMaps5
import Derived.Stop.Joined
import Derived.SevenTiedAt
set_option maxRecDepth 100000
set_option maxHeartbeats 4000000
namespace Go.Proofs.YtdinjjmcmfjbfaaGreatDoor
open Go.RowKit Go.Shelf Go.Deep
open Mo (V Row Bag cnt canon Eqv OkB OkD neg Nr Q leaves bagQ tyQ wf joins TOk wv ty Tab)
structure Rw4 where
 g:Int
 t:Int
 n:Int
 k:Int
def Rw4.ok (r:Rw4):Prop:=I64 r.g∧I64 r.t∧I64 r.n∧I64 r.k
def RawsAt (w:World) (v:Value) (rs:List Rw4):Prop:=∃ a cap,v=.slice a rs.length cap∧rs.length≤cap∧cap≤maxLen∧∀ (i:Nat) (r:Rw4),rs[i]? =some r→r.ok∧∃ b o,a=some ⟨b,o,none⟩∧b<w.heap.size∧w.cell? ⟨b,o+i*4,none⟩=some (.int .i64 r.g)∧w.cell? ⟨b,o+i*4+1,none⟩=some (.int .i64 r.t)∧w.cell? ⟨b,o+i*4+2,none⟩=some (.int .i64 r.n)∧w.cell? ⟨b,o+i*4+3,none⟩=some (.int .i64 r.k)
theorem RawsAt.kept {w w':World} {v:Value} {rs:List Rw4} (h:RawsAt w v rs) (k:Kept No w w'):RawsAt w' v rs:=by
 obtain ⟨a,cap,h1,h2,h3,h4⟩:=h
 refine ⟨a,cap,h1,h2,h3,fun i r hr=> ?_⟩
 obtain ⟨h5,b,o,e1,e2,e3,e4,e5,e6⟩:=h4 i r hr
 exact ⟨h5,b,o,e1,Nat.lt_of_lt_of_le e2 k.size,(k.cell e2 (fun e=>e)).trans e3,(k.cell e2 (fun e=>e)).trans e4,(k.cell e2 (fun e=>e)).trans e5,(k.cell e2 (fun e=>e)).trans e6⟩
def chR (r:Rw4):ByteArray:=chB (decide (pickM r.g 3=0)) r.t r.n r.k
def bat (rs:List Rw4):Nat→ByteArray
 | 0=>⟨#[]⟩
 | i+1=>(if i=0 then bat rs i else bat rs i++⟨#[59]⟩)++(match rs[i]? with
   | some r=>chR r
   | none=>⟨#[]⟩)
def batB (rs:List Rw4):ByteArray:=bat rs (min rs.length 12)
theorem bat_zero {rs:List Rw4} {r:Rw4} (h:rs[0]? =some r):bat rs 1=bat rs 0++chR r:=by
 show (if 0=0 then bat rs 0 else _)++(match rs[0]? with | some r=>chR r | none=>⟨#[]⟩)=_
 rw [h,if_pos rfl]
theorem bat_succ {rs:List Rw4} {r:Rw4} {i:Nat} (hi:i≠0) (h:rs[i]? =some r):bat rs (i+1)=bat rs i++⟨#[59]⟩++chR r:=by
 show (if i=0 then _ else bat rs i++⟨#[59]⟩)++(match rs[i]? with | some r=>chR r | none=>⟨#[]⟩)=_
 rw [h,if_neg hi]
theorem bat_size (rs:List Rw4):∀ i,(bat rs i).size≤10*i
 | 0=>Nat.le_refl _
 | i+1=>by
   have ih:=bat_size rs i
   show ((if i=0 then bat rs i else bat rs i++⟨#[59]⟩)++(match rs[i]? with | some r=>chR r | none=>⟨#[]⟩)).size≤_
   rw [ByteArray.size_append]
   have h1:(match rs[i]? with | some r=>chR r | none=>(⟨#[]⟩:ByteArray)).size≤9:=by
    split
    ·exact chB_size _ _ _ _
    ·exact Nat.zero_le _
   have h2:(if i=0 then bat rs i else bat rs i++⟨#[59]⟩).size≤(bat rs i).size+1:=by
    split
    ·omega
    ·rw [ByteArray.size_append];exact Nat.le_refl _
   omega
theorem kbatch_any (v:Value) (rs:List Rw4) (w:World) (h:RawsAt w v rs):Calls Tryz.prog 21 #[v] w fun e w'=>e=.returned (.string (batB rs))∧Kept No w w':=by
 obtain ⟨a,cap,rfl,h2,h3,h4⟩:=h;have H4:=hid h4
 have hcap:cap≤9223372036854775807:=by unfold maxLen at h3;omega
 obtain ⟨n,hn⟩:∃ n,rs.length=n:=⟨_,rfl⟩;have HN:=hid hn;rw [hn] at h2 ⊢;clear h4 h3 hn
 go_enter Tryz.func21,Tryz.ntmps21
 go_wp2_with fail
 go_loopg [3,4] (min n 12) (fun k v3 v4 wr=>∃ (i:Nat) (T:ByteArray),i+k=min n 12∧v3=.string T∧v4=.int .i64 (i:Int)∧Hid (T=bat rs i)∧T.size≤120∧Hid (Kept No w wr))
 case atStart=>exact ⟨0,⟨#[]⟩,by omega,rfl,rfl,rfl,by decide,hid (Kept.refl _ _)⟩
 case round =>
  obtain ⟨i,T,hik,rfl,rfl,HT,hTs,HK⟩:=hrel
  cases gk with
  | zero =>
    have HE:Hid (T=batB rs):=by
     show _=_
     rw [HT.out];unfold batB;rw [HN.out]
     have:i=min n 12:=by omega
     rw [this]
    by_cases hin:(i:Int)<(n:Int)
    ·have h12:¬(i:Int)<12:=by omega
     go_wp2_with fail;go_ret
     exact ⟨by rw [←HE.out];rfl,HK.out⟩
    ·go_wp2_with fail
     go_ret
     exact ⟨by rw [←HE.out];rfl,HK.out⟩
  | succ k =>
    have hin:(i:Int)<(n:Int):=by omega
    have h12:(i:Int)<12:=by omega
    have hi0:(0:Int)≤(i:Int):=by omega
    obtain ⟨r,hr⟩:∃ r,rs[i]? =some r:=⟨_,List.getElem?_eq_getElem (by have:=HN.out;omega)⟩
    obtain ⟨hok,b,o,rfl,hbl,c0,c1,c2,c3⟩:=H4.out i r hr;have HR:=hid hr
    have HPk:Hid (∀ w1,Calls Tryz.prog 25 #[.int .i64 r.g,.int .i64 3] w1 fun e w'=>e=.returned (.int .i64 (pickM r.g 3))∧w'=w1):=fun w1=>kpick_any r.g 3 w1 hok.1 (by omega)
    have HCh:Hid (∀ w1,Calls Tryz.prog 27 #[.agg #[.int .i64 r.g,.int .i64 r.t,.int .i64 r.n,.int .i64 r.k],.bool (pickM r.g 3 == 0)] w1 fun e w'=>e=.returned (.string (chR r))∧Kept No w1 w'):=fun w1=>change_any _ _ _ _ _ w1 hok.2.1 hok.2.2.1 hok.2.2.2
    have hcs:(chR r).size≤9:=chB_size _ _ _ _
    have d0:wr.cell? ⟨b,o+i*4,none⟩=some (.int .i64 r.g):=(HK.out.cell hbl (fun e=>e)).trans c0
    have d1:wr.cell? ⟨b,o+i*4+1,none⟩=some (.int .i64 r.t):=(HK.out.cell hbl (fun e=>e)).trans c1
    have d2:wr.cell? ⟨b,o+i*4+2,none⟩=some (.int .i64 r.n):=(HK.out.cell hbl (fun e=>e)).trans c2
    have d3:wr.cell? ⟨b,o+i*4+3,none⟩=some (.int .i64 r.k):=(HK.out.cell hbl (fun e=>e)).trans c3
    have hbw:b<wr.heap.size:=Nat.lt_of_lt_of_le hbl HK.out.size;clear hok c0 c1 c2 c3 hr
    by_cases hz:i=0
    ·have hg:¬(0:Int)<(i:Int):=by omega
     have HB:Hid (bat rs (i+1)=T++chR r):=by
      show _=_
      rw [HT.out];subst hz;exact bat_zero HR.out
     have HS:Hid ((T++chR r).size≤120):=by show _≤_;rw [←HB.out];have:=bat_size rs (i+1);omega
     clear hz;go_wp2_with fail
     have hct4:¬(IntKind.i64.max<((T.size+(chR r).size:Nat):Int)):=by show ¬((9223372036854775807:Int)<_);omega
     have hct5:((T.size+(chR r).size:Nat):Int)≤IntKind.i64.max:=by show _≤(9223372036854775807:Int);omega
     go_region_held (fun w'=>w'.cell? ⟨b,o+i*4,none⟩=some (.int .i64 r.g)∧w'.cell? ⟨b,o+i*4+1,none⟩=some (.int .i64 r.t)∧w'.cell? ⟨b,o+i*4+2,none⟩=some (.int .i64 r.n)∧w'.cell? ⟨b,o+i*4+3,none⟩=some (.int .i64 r.k)) (first | exact ⟨d0,d1,d2,d3⟩ | exact ⟨q0,q1,q2,q3⟩ | go_keep)
      (first
        | (go_at_call 25;refine (HPk.out _).mono ?_;rintro e w1 ⟨rfl,rfl⟩)
        | (go_at_call 27
           refine (HCh.out _).mono ?_;rintro e w2 ⟨rfl,hk2⟩;have HK2:Hid (Kept No w w2):=HK.out.drew.seq hk2
           have q0:w2.cell? ⟨b,o+i*4,none⟩=some (.int .i64 r.g):=(hk2.cell hbw (fun e=>e)).trans d0
           have q1:w2.cell? ⟨b,o+i*4+1,none⟩=some (.int .i64 r.t):=(hk2.cell hbw (fun e=>e)).trans d1
           have q2:w2.cell? ⟨b,o+i*4+2,none⟩=some (.int .i64 r.n):=(hk2.cell hbw (fun e=>e)).trans d2
           have q3:w2.cell? ⟨b,o+i*4+3,none⟩=some (.int .i64 r.k):=(hk2.cell hbw (fun e=>e)).trans d3
           clear hk2 d0 d1 d2 d3)
        | fail)
     go_wp2_with fail;go_roundg k
     case measure=>omega
     case rel=>exact ⟨i+1,_,by omega,rfl,by go_num,HB.out.symm,HS.out,HK2⟩
    ·have hg:(0:Int)<(i:Int):=by omega
     have HB:Hid (bat rs (i+1)=T++⟨#[59]⟩++chR r):=by
      show _=_
      rw [HT.out];exact bat_succ hz HR.out
     have HS:Hid ((T++⟨#[59]⟩++chR r).size≤120):=by show _≤_;rw [←HB.out];have:=bat_size rs (i+1);omega
     clear hz;go_wp2_with fail;obtain ⟨U,hU⟩:∃ U,T++(⟨#[59]⟩:ByteArray)=U:=⟨_,rfl⟩
     have hUs:U.size=T.size+1:=by rw [←hU,ByteArray.size_append];rfl
     rw [hU] at HB HS ⊢
     have hct4:¬(IntKind.i64.max<((U.size+(chR r).size:Nat):Int)):=by show ¬((9223372036854775807:Int)<_);omega
     have hct5:((U.size+(chR r).size:Nat):Int)≤IntKind.i64.max:=by show _≤(9223372036854775807:Int);omega
     go_region_held (fun w'=>w'.cell? ⟨b,o+i*4,none⟩=some (.int .i64 r.g)∧w'.cell? ⟨b,o+i*4+1,none⟩=some (.int .i64 r.t)∧w'.cell? ⟨b,o+i*4+2,none⟩=some (.int .i64 r.n)∧w'.cell? ⟨b,o+i*4+3,none⟩=some (.int .i64 r.k)) (first | exact ⟨d0,d1,d2,d3⟩ | exact ⟨q0,q1,q2,q3⟩ | go_keep)
      (first
        | (go_at_call 25;refine (HPk.out _).mono ?_;rintro e w1 ⟨rfl,rfl⟩)
        | (go_at_call 27
           refine (HCh.out _).mono ?_;rintro e w2 ⟨rfl,hk2⟩;have HK2:Hid (Kept No w w2):=HK.out.drew.seq hk2
           have q0:w2.cell? ⟨b,o+i*4,none⟩=some (.int .i64 r.g):=(hk2.cell hbw (fun e=>e)).trans d0
           have q1:w2.cell? ⟨b,o+i*4+1,none⟩=some (.int .i64 r.t):=(hk2.cell hbw (fun e=>e)).trans d1
           have q2:w2.cell? ⟨b,o+i*4+2,none⟩=some (.int .i64 r.n):=(hk2.cell hbw (fun e=>e)).trans d2
           have q3:w2.cell? ⟨b,o+i*4+3,none⟩=some (.int .i64 r.k):=(hk2.cell hbw (fun e=>e)).trans d3
           clear hk2 d0 d1 d2 d3)
        | fail)
     go_wp2_with fail;go_roundg k
     case measure=>omega
     case rel=>exact ⟨i+1,_,by omega,rfl,by go_num,HB.out.symm,HS.out,HK2⟩
def RawssAt (w:World) (v:Value) (rss:List (List Rw4)):Prop:=∃ a cap,v=.slice a rss.length cap∧rss.length≤cap∧cap≤maxLen∧∀ (i:Nat) (rs:List Rw4),rss[i]? =some rs→∃ b o sv,a=some ⟨b,o,none⟩∧b<w.heap.size∧w.cell? ⟨b,o+i,none⟩=some sv∧RawsAt w sv rs
theorem RawssAt.kept {w w':World} {v:Value} {rss:List (List Rw4)} (h:RawssAt w v rss) (k:Kept No w w'):RawssAt w' v rss:=by
 obtain ⟨a,cap,h1,h2,h3,h4⟩:=h
 refine ⟨a,cap,h1,h2,h3,fun i r hr=> ?_⟩
 obtain ⟨b,o,sv,e1,e2,e3,e4⟩:=h4 i r hr
 exact ⟨b,o,sv,e1,Nat.lt_of_lt_of_le e2 k.size,(k.cell e2 (fun e=>e)).trans e3,e4.kept k⟩
def fedM (st:Mo.Ses) (rss:List (List Rw4)):Mo.Ses:=rss.foldl (fun st rs=>(feedM st (batB rs)).2) st
theorem fedM_take {st:Mo.Ses} {rss:List (List Rw4)} {i:Nat} {rs:List Rw4} (h:rss[i]? =some rs):fedM st (rss.take (i+1))=(feedM (fedM st (rss.take i)) (batB rs)).2:=by
 unfold fedM;rw [List.take_add_one,h,List.foldl_append];rfl
theorem fed_any {w0:World} {p:Nat} {st:Mo.Ses} (v:Value) (rss:List (List Rw4)) (w:World) (hm:Mine w0 w p st) (h:RawssAt w0 v rss):Calls Tryz.prog 16 #[.pointer (some ⟨p,0,none⟩),v] w fun e w'=>e=.returned (.tuple #[])∧Mine w0 w' p (fedM st rss):=by
 obtain ⟨a,cap,rfl,h2,h3,h4⟩:=h;have H4:=hid h4;have HM:=hid hm
 have hcap:cap≤9223372036854775807:=by unfold maxLen at h3;omega
 obtain ⟨n,hn⟩:∃ n,rss.length=n:=⟨_,rfl⟩;have HN:=hid hn;rw [hn] at h2 ⊢;clear h4 h3 hn hm
 go_enter Tryz.func16,Tryz.ntmps16
 go_wp2_with fail
 go_loopg [4] n (fun k v2 wr=>∃ (i:Nat),i+k=n∧v2=.int .i64 (i:Int)∧Hid (Mine w0 wr p (fedM st (rss.take i))))
 case atStart=>exact ⟨0,by omega,rfl,HM⟩
 case round =>
  obtain ⟨i,hik,rfl,HI⟩:=hrel
  cases gk with
  | zero =>
    have hx:¬(i:Int)<(n:Int):=by omega
    have HE:Hid (Mine w0 wr p (fedM st rss)):=by
     have e:rss.take i=rss:=List.take_of_length_le (by have:=HN.out;omega)
     have:=HI.out
     rw [e] at this;exact this
    go_wp2_with fail;refine bodyPost_end (results_none rfl _ _ _) rfl ?_;exact ⟨rfl,HE.out⟩
  | succ k =>
    have hx:(i:Int)<(n:Int):=by omega
    have hx0:(0:Int)≤(i:Int):=by omega
    obtain ⟨rs,hr⟩:∃ rs,rss[i]? =some rs:=⟨_,List.getElem?_eq_getElem (by have:=HN.out;omega)⟩
    obtain ⟨b,o,sv,rfl,hbl,c0,hR⟩:=H4.out i rs hr;have HF:=hid (fedM_take (st:=st) hr)
    have d0:wr.cell? ⟨b,o+i,none⟩=some sv:=(HI.out.kept.cell hbl (fun e=>e)).trans c0
    have HB:=hid (kbatch_any sv rs wr (hR.kept HI.out.kept));clear c0 hR hr;go_wp2_with fail;refine HB.out.mono ?_;rintro e w2 ⟨rfl,hk2⟩;have HI2:=hid (HI.out.stays hk2);clear hk2 HB;go_wp2_with fail;refine (feed_go HI2.out (batB rs)).mono ?_;rintro e w3 ⟨rfl,h3⟩
    have HI3:Hid (Mine w0 w3 p (fedM st (rss.take (i+1)))):=by rw [HF.out];exact h3
    clear h3 HI2 HI;unfold two2;go_wp2_with fail;go_roundg k
    case measure=>omega
    case rel=>exact ⟨i+1,by omega,by go_num,HI3⟩
structure SameT (a b:Mo.Ses):Prop where
 nm:b.tabs.map Tab.nm=a.tabs.map Tab.nm
 ft:Mo.ftT b.tabs=Mo.ftT a.tabs
 vs:b.views=a.views
theorem SameT.refl (a:Mo.Ses):SameT a a:=⟨rfl,rfl,rfl⟩
theorem feed_same {a b:Mo.Ses} (hn:(a.tabs.map Tab.nm).Nodup) (h:SameT a b) (s:ByteArray):SameT a (feedM b s).2:=by
 unfold feedM
 split
 ·exact h
 ·split
  ·exact h
  ·next os _ =>
   by_cases h1:fitP (tr0 b.tabs) os≠0
   ·rw [if_pos h1];exact h
   ·rw [if_neg h1]
    by_cases h2:bearP (psM b.tabs (chg (tr0 b.tabs) os)) 0≠0
    ·rw [if_pos h2];exact h
    ·rw [if_neg h2]
     refine ⟨?_,?_,h.vs⟩
     ·show (newT b.tabs _).map Tab.nm=_
      rw [←newI_all,newI_nms];exact h.nm
     ·show Mo.ftT (newT b.tabs _)=_
      rw [←newI_all,newI_ft _ _ (by rw [h.nm];exact hn)];exact h.ft
theorem fed_same {a:Mo.Ses} (hn:(a.tabs.map Tab.nm).Nodup):∀ (rss:List (List Rw4)) (b:Mo.Ses),SameT a b→SameT a (fedM b rss)
 | [],_,h=>h
 | rs::rss,_,h=>fed_same hn rss _ (feed_same hn h (batB rs))
theorem some_ft (tb:List Tab) (nm:List UInt8):(Mo.tabT tb nm).isSome=(Mo.ftT tb nm).isSome:=by unfold Mo.ftT;rw [Option.isSome_map]
theorem view_code {a b:Mo.Ses} (hf:Mo.ftT b.tabs=Mo.ftT a.tabs) (ha:a.views.length≠6) (hb:b.views.length≠6) (s:ByteArray) :
 ((viewM a s).1.2.2≠0→(viewM b s).1.2.2=(viewM a s).1.2.2∧(viewM a s).2=a)∧((viewM a s).1.2.2=0→∃ q,viewM a s=(((a.views.length:Int),bagTxt (Mo.bagS a.tabs q),0),⟨a.tabs,a.views++[q]⟩)∧viewM b s=(((b.views.length:Int),bagTxt (Mo.bagS b.tabs q),0),⟨b.tabs,b.views++[q]⟩)):=by
 unfold viewM
 by_cases hc:(Pl.chk s).1≠0
 ·rw [if_pos hc,if_pos hc]
  refine ⟨fun _=>⟨rfl,rfl⟩,fun e=>absurd e ?_⟩
  show ¬((Pl.chk s).1:Int)=0
  omega
 ·rw [if_neg hc,if_neg hc,if_neg ha,if_neg hb]
  cases rdQ s 6 0 with
  | none=>exact ⟨fun _=>⟨rfl,rfl⟩,fun e=>absurd (show (3:Int)=0 from e) (by decide)⟩
  | some x =>
    obtain ⟨q,d⟩:=x
    simp only
    have e1:((leaves q).all fun nm=>(Mo.tabT b.tabs nm).isSome)=((leaves q).all fun nm=>(Mo.tabT a.tabs nm).isSome):=by
     simp only [some_ft,hf]
    rw [e1,hf]
    by_cases h1:((leaves q).all fun nm=>(Mo.tabT a.tabs nm).isSome)=true
    ·rw [if_pos h1,if_pos h1]
     cases tyQ (Mo.ftT a.tabs) q with
     | none=>exact ⟨fun _=>⟨rfl,rfl⟩,fun e=>absurd (show (6:Int)=0 from e) (by decide)⟩
     | some ts=>exact ⟨fun e=>absurd rfl e,fun _=>⟨q,rfl,rfl⟩⟩
    ·rw [if_neg h1,if_neg h1]
     exact ⟨fun _=>⟨rfl,rfl⟩,fun e=>absurd (show (5:Int)=0 from e) (by decide)⟩
theorem fr_nod:(fr3.tabs.map Tab.nm).Nodup:=by decide +kernel
theorem fr_vs:fr3.views=[]:=by kernel_rfl
theorem late_no (s:ByteArray) (l:List (List Rw4)) (h:(viewM fr3 s).1.2.2≠0):(viewM (fedM (viewM fr3 s).2 l) s).1.2.2=(viewM fr3 s).1.2.2:=by
 have h0:=(view_code (a:=fr3) (b:=fr3) rfl (by rw [fr_vs];decide) (by rw [fr_vs];decide) s).1 h
 rw [h0.2];have hS:=fed_same fr_nod l fr3 (SameT.refl _)
 exact ((view_code hS.ft (by rw [fr_vs];decide) (by rw [hS.vs,fr_vs];decide) s).1 h).1
theorem late_yes (s:ByteArray) (l:List (List Rw4)) (h:(viewM fr3 s).1.2.2=0):∃ t,(viewM (fedM (viewM fr3 s).2 l) s).1=(1,t,0)∧showM (viewM (fedM (viewM fr3 s).2 l) s).2 0=(t,0):=by
 obtain ⟨q,e1,-⟩:=(view_code (a:=fr3) (b:=fr3) rfl (by rw [fr_vs];decide) (by rw [fr_vs];decide) s).2 h
 have e2:(viewM fr3 s).2=⟨fr3.tabs,fr3.views++[q]⟩:=by rw [e1]
 rw [e2];have hS:=fed_same (a:=⟨fr3.tabs,fr3.views++[q]⟩) fr_nod l _ (SameT.refl _);generalize fedM ⟨fr3.tabs,fr3.views++[q]⟩ l=st at hS ⊢
 have hv:st.views=[q]:=by rw [hS.vs,fr_vs];rfl
 obtain ⟨q',e3,e4⟩:=(view_code (a:=fr3) (b:=st) hS.ft (by rw [fr_vs];decide) (by rw [hv];show 1≠6;decide) s).2 h
 have hq:q'=q:=by
  have:=congrArg (fun x:(Int × List UInt8 × Int) × Mo.Ses=>x.2.views) (e3.symm.trans e1)
  simp only [fr_vs,List.nil_append] at this
  simpa using this
 subst hq;refine ⟨bagTxt (Mo.bagS st.tabs q'),?_,?_⟩
 ·rw [e4,hv];rfl
 ·rw [e4,hv];rfl
theorem late_any (s:ByteArray) (v:Value) (l:List (List Rw4)) (w:World) (hE:Env w) (hs:s.size≤140737488355328) (hl:RawssAt w v l):Calls Tryz.prog 7 #[.string s,v] w fun e w'=>e=.returned (.bool true)∧Kept No w w':=by
 have HE:=hid hE;have HL:=hid hl
 obtain ⟨va,vn,vc,rfl⟩:∃ a n c,v=.slice a n c:=by obtain ⟨a,cap,e,_⟩:=hl;exact ⟨_,_,_,e⟩
 clear hE hl
 go_enter Tryz.func7,Tryz.ntmps7
 go_wp2_with fail;refine (awake_any w HE.out).mono ?_;rintro e w1 ⟨rfl,hk1⟩;have HK1:=hid hk1;clear hk1;go_wp2_with fail;refine (able_any s w1 (HE.out.keptNo HK1.out) hs).mono ?_;rintro e w2 ⟨rfl,hk2⟩;have HK2:=hid (HK1.out.seq hk2);clear hk2 HK1;go_wp2_with fail;refine (fresh_any w2 (HE.out.keptNo HK2.out)).mono ?_;rintro e w3 ⟨p,rfl,h3⟩;have H3:=hid h3;clear h3;go_wp2_with fail;refine (view_go H3.out s).mono ?_;rintro e w4 ⟨he,h4⟩;have H4:=hid h4;have HNo:=hid (late_no s l);have HYes:=hid (late_yes s l);obtain ⟨a1,t1,c1,st1,hv1⟩:∃ a1 t1 c1 st1,viewM fr3 s=((a1,t1,c1),st1):=⟨_,_,_,_,rfl⟩;rw [hv1] at he H4 HNo HYes;have he':e=.returned (.tuple #[.int .i64 a1,.string ⟨t1.toArray⟩,.int .i64 c1]):=he;subst he';clear he h4 H3 hv1;go_wp2_with fail;refine (fed_any _ l w4 H4.out (HL.out.kept HK2.out)).mono ?_;rintro e w5 ⟨rfl,h5⟩;have H5:=hid h5;clear h5 H4;go_wp2_with fail;refine (view_go H5.out s).mono ?_
 rintro e w6 ⟨he,h6⟩;have H6:=hid h6;clear h6 H5
 by_cases hc:c1=0
 ·subst hc
  obtain ⟨t,y1,y2⟩:=HYes.out rfl
  have he':e=.returned (.tuple #[.int .i64 1,.string ⟨t.toArray⟩,.int .i64 0]):=by rw [he,y1];rfl
  subst he';have HY2:=hid y2;clear he y1 y2 HYes HNo;go_wp2_with fail;refine (show_go H6.out 0).mono ?_;rintro e w7 ⟨he,h7⟩;rw [HY2.out] at he;have he':e=.returned (.tuple #[.string ⟨t.toArray⟩,.int .i64 0]):=he;subst he';have H7:=hid (HK2.out.seq h7.kept);clear he h7 H6 HY2;go_wp2_with fail;go_ret;exact ⟨rfl,H7.out⟩
 ·have hn:=HNo.out hc
  obtain ⟨a2,t2,c2,st2,hv2⟩:∃ a2 t2 c2 st2,viewM (fedM st1 l) s=((a2,t2,c2),st2):=⟨_,_,_,_,rfl⟩;rw [hv2] at he H6;have hn':(viewM (fedM st1 l) s).1.2.2=c1:=hn;rw [hv2] at hn';have hn'':c2=c1:=hn';subst hn'';have he':e=.returned (.tuple #[.int .i64 a2,.string ⟨t2.toArray⟩,.int .i64 c2]):=he;subst he';have H7:=hid (HK2.out.seq H6.out.kept)
  have hc':(c2 != 0)=true:=by simpa using hc
  clear he hn hn' hv2 H6 HYes HNo;go_wp2_with fail;go_ret;exact ⟨rfl,H7.out⟩
open Go.ChangeShapes Go.WideShapes Go.ChangeAt Go.RowKit Go.Deep
theorem Tryz.own:ownKnob Tryz.prog.godebug=none:=by kernel_rfl
theorem Tryz.laidOut:laidOutB Tryz.prog=true:=by kernel_rfl
theorem cellsRaw:Tryz.prog.cellsOf 55=4:=by kernel_rfl
theorem cellsRaws:Tryz.prog.cellsOf 41=1:=by kernel_rfl
theorem cellsInt:Tryz.prog.cellsOf 3=1:=by kernel_rfl
theorem wf_i64 {n:Int} (h:(Lit.int .i64 n).wf=true):I64 n:=by
 have:IntKind.i64.min≤n∧n≤IntKind.i64.max:=by simpa [Lit.wf] using h
 exact this
theorem list_of {α:Type} (P:Nat→α→Prop):∀ n:Nat,(∀ i,i<n→∃ a,P i a)→∃ l:List α,l.length=n∧∀ i a,l[i]? =some a→P i a
 | 0,_=>⟨[],rfl,fun i a h=>by simp at h⟩
 | n+1,h=>by
   obtain ⟨l,hl,hp⟩:=list_of P n fun i hi=>h i (by omega)
   obtain ⟨a,ha⟩:=h n (by omega)
   refine ⟨l++[a],by simp [hl],fun i b hb=> ?_⟩
   by_cases hi:i<l.length
   ·rw [List.getElem?_append_left hi] at hb;exact hp i b hb
   ·rw [List.getElem?_append_right (by omega)] at hb
    have h0:i-l.length=0:=by have:=(List.getElem?_eq_some_iff.1 hb).1;simp at this;omega
    rw [h0] at hb
    have e:a=b:=by simpa using hb
    have e2:i=n:=by omega
    rw [←e,e2];exact ha
theorem raws_of {H:Type} {enc:TypeId × Value→H} {W:World} {v:Value} {fuel:Nat} {x:DataW H × List MemPlace} (h:DataW.trod enc Tryz.prog W 0 (fun _=>true) true fuel 41 [v]=some x):∃ rs,RawsAt W v rs:=by
 rcases open_slice Tryz.underlying41 h with ⟨hcs,_⟩ | ⟨ad,l,c,m,n,D,Pl,hcs,_,hl,hm,hmm,_,hx⟩
 ·have e:v=.slice none 0 0:=by simpa using hcs
  exact ⟨[],none,0,e,Nat.le_refl _,Nat.zero_le _,fun i r hr=>by simp at hr⟩
 ·have e:v=.slice (some ad) l c:=by simpa using hcs
  subst e;rw [cellsRaw] at hx
  simp at hmm
  subst hmm
  obtain ⟨rs,hrl,hrs⟩:=list_of (fun i (r:Rw4)=>r.ok∧W.cell? ((ad.add (i*4)).add 0)=some (.int .i64 r.g)∧W.cell? ((ad.add (i*4)).add 1)=some (.int .i64 r.t)∧W.cell? ((ad.add (i*4)).add 2)=some (.int .i64 r.n)∧W.cell? ((ad.add (i*4)).add 3)=some (.int .i64 r.k)) l (fun i hi=>by
   obtain ⟨cs',h1,h2⟩:=hx i (by omega)
   obtain ⟨_,hl4,hcell⟩:=World.cells?_some h1;obtain ⟨ys,n',_,_,_,hxl,hfs⟩:=DataW.trod_struct Tryz.underlying55 h2;have f0:=hfs 0 _ rfl;have f1:=hfs 1 _ rfl;have f2:=hfs 2 _ rfl;have f3:=hfs 3 _ rfl
   simp at hxl
   rw [List.getElem?_eq_getElem (show 0<ys.length by omega)] at f0
   rw [List.getElem?_eq_getElem (show 1<ys.length by omega)] at f1
   rw [List.getElem?_eq_getElem (show 2<ys.length by omega)] at f2
   rw [List.getElem?_eq_getElem (show 3<ys.length by omega)] at f3
   obtain ⟨g,hg,_,wg⟩:=DataW.trod_int Tryz.underlying3 f0;obtain ⟨t,ht,_,wt⟩:=DataW.trod_int Tryz.underlying3 f1;obtain ⟨q,hq,_,wq⟩:=DataW.trod_int Tryz.underlying3 f2;obtain ⟨k,hk,_,wk⟩:=DataW.trod_int Tryz.underlying3 f3;have hg:(cs'.drop 0).take (Tryz.prog.cellsOf 3)=[.int .i64 g]:=hg;have ht:(cs'.drop 1).take (Tryz.prog.cellsOf 3)=[.int .i64 t]:=ht;have hq:(cs'.drop 2).take (Tryz.prog.cellsOf 3)=[.int .i64 q]:=hq;have hk:(cs'.drop 3).take (Tryz.prog.cellsOf 3)=[.int .i64 k]:=hk;rw [cellsInt] at hg ht hq hk;refine ⟨⟨g,t,q,k⟩,⟨wf_i64 wg,wf_i64 wt,wf_i64 wq,wf_i64 wk⟩,?_,?_,?_,?_⟩
   ·rw [hcell 0 (by omega)]
    match cs',hl4,hg with
    | [c0,c1,c2,c3],_,hg=>simpa using hg
   ·rw [hcell 1 (by omega)]
    match cs',hl4,ht with
    | [c0,c1,c2,c3],_,ht=>simpa using ht
   ·rw [hcell 2 (by omega)]
    match cs',hl4,hq with
    | [c0,c1,c2,c3],_,hq=>simpa using hq
   ·rw [hcell 3 (by omega)]
    match cs',hl4,hk with
    | [c0,c1,c2,c3],_,hk=>simpa using hk)
  refine ⟨rs,some ad,m,by rw [hrl],by rw [hrl];exact hl,hm,fun i r hr=> ?_⟩
  obtain ⟨hok,d0,d1,d2,d3⟩:=hrs i r hr;obtain ⟨b,off,spot⟩:=ad;obtain ⟨r0,hr0⟩:∃ r0,rs[0]? =some r0:=⟨_,List.getElem?_eq_getElem (Nat.lt_of_le_of_lt (Nat.zero_le i) (List.getElem?_eq_some_iff.1 hr).1)⟩
  have hspot:spot=none:=by simpa [Addr.add] using World.cell?_spot (hrs 0 r0 hr0).2.1
  subst hspot;rw [add_add,Addr.add_lit] at d0 d1 d2 d3
  exact ⟨hok,b,off,rfl,World.block_lt_of_cell? W _ d0,d0,by rw [Nat.add_assoc];exact d1,by rw [Nat.add_assoc];exact d2,by rw [Nat.add_assoc];exact d3⟩
theorem rawss_of {H:Type} {enc:TypeId × Value→H} {W:World} {v:Value} {fuel:Nat} {x:DataW H × List MemPlace} (h:DataW.trod enc Tryz.prog W 0 (fun _=>true) true fuel 25 [v]=some x):∃ rss,RawssAt W v rss:=by
 rcases open_slice1 Tryz.underlying25 cellsRaws h with ⟨hcs,_⟩ | ⟨ad,l,c,m,n,V,D,Pl,hcs,_,hl,hm,hmm,_,hx⟩
 ·have e:v=.slice none 0 0:=by simpa using hcs
  exact ⟨[],none,0,e,Nat.le_refl _,Nat.zero_le _,fun i r hr=>by simp at hr⟩
 ·have e:v=.slice (some ad) l c:=by simpa using hcs
  subst e
  simp at hmm
  subst hmm
  obtain ⟨rss,hrl,hrs⟩:=list_of (fun i (rs:List Rw4)=>W.cell? (ad.add i)=some (V i)∧RawsAt W (V i) rs) l (fun i hi=>by
   obtain ⟨h1,h2⟩:=hx i (by omega)
   obtain ⟨rs,hr⟩:=raws_of h2
   exact ⟨rs,h1,hr⟩)
  refine ⟨rss,some ad,m,by rw [hrl],by rw [hrl];exact hl,hm,fun i r hr=> ?_⟩
  obtain ⟨d0,d1⟩:=hrs i r hr;obtain ⟨b,off,spot⟩:=ad;obtain ⟨r0,hr0⟩:∃ r0,rss[0]? =some r0:=⟨_,List.getElem?_eq_getElem (Nat.lt_of_le_of_lt (Nat.zero_le i) (List.getElem?_eq_some_iff.1 hr).1)⟩
  have hspot:spot=none:=by simpa [Addr.add] using World.cell?_spot (hrs 0 r0 hr0).1
  subst hspot;rw [Addr.add_lit] at d0;exact ⟨b,off,V i,rfl,World.block_lt_of_cell? W _ d0,d0,d1⟩
theorem env_of {W:World} (h:laidMetH Tryz.prog Rows.lateRow.laid W):Env W:=by
 rw [MakeChecks.laidMetH_plain _ _ _ (by kernel_rfl)] at h
 obtain ⟨g,t,cs,fuel,p,hg,hty,hvar,hd⟩:=Lib.laidMet.reads h (n := "internal/strconv.uint64pow10") (d:=Rows.laid_internal_strconv_uint64pow10) (by simp [Rows.lateRow])
 have hg0:Tryz.prog.globalNamed "internal/strconv.uint64pow10"=some 1:=by kernel_rfl
 obtain rfl:=Option.some.inj (hg0.symm.trans hg)
 have hty0:(Tryz.prog.globals[1]?).map (·.type)=some 352:=by kernel_rfl
 obtain rfl:=Option.some.inj (hty0.symm.trans hty)
 have ed:(Rows.laid_internal_strconv_uint64pow10:DataW Unit)=Lib.tabData .u64 Lib.pow10Tab:=by kernel_rfl
 rw [ed] at hd
 show Lib.TabIs _ _ _ _ _
 unfold Lib.TabIs
 rw [hvar,←Lib.cells_of_tab Tryz.underlying352 Tryz.underlying300 (by kernel_rfl) (by kernel_rfl) hd]
end Go.Proofs.YtdinjjmcmfjbfaaGreatDoor
