/-
  For every number and all lists of batches, ripplekeep.Pairs returns true, and all three read behind the call as they read before: two queries with J, D or G that mean the same tell alike behind every batch, in Feed and in Show, and when one is made anew. Condition: the listed package-level variables of the library read as start-up lays them (the card ties them to the text).
-/
import Derived.Test.YtdinjjmcmfjbfaaGreatDoorEdJ
import Derived.Test.YtdinjjmcmfjbfaaGreatDoorLcJ
import Derived.SizedLaws
import Derived.Carry
set_option maxRecDepth 100000
set_option maxHeartbeats 4000000
namespace Go.Proofs.YtdinjjmcmfjbfaaGreatDoor
set_option linter.unusedSimpArgs false
open Go.RowKit Go.Shelf Go.Deep
open Mo (V Row Bag cnt canon Eqv OkB OkD neg Nr Q leaves bagQ tyQ wf joins TOk wv ty Tab)
structure AlSt (n:Nat) (st:Mo.Ses):Prop where
 ft:Mo.ftT st.tabs=Mo.ftT fr3.tabs
 nm:(st.tabs.map Tab.nm).Nodup
 vs:st.views=[(Mo.tq n).1,(Mo.tq n).2]
theorem AlSt.feed {n:Nat} {st:Mo.Ses} (h:AlSt n st) (s:ByteArray):AlSt n (feedM st s).2:=by
 have h1:=feed_same h.nm (SameT.refl st) s
 exact ⟨h1.ft.trans h.ft,by rw [h1.nm];exact h.nm,h1.vs.trans h.vs⟩
theorem AlSt.fed {n:Nat}:∀ (l:List (List Rw4)) {st:Mo.Ses},AlSt n st→AlSt n (fedM st l)
 | [],_,h=>h
 | rs::l,_,h=>AlSt.fed l (h.feed (batB rs))
theorem AlSt.show {n:Nat} {st:Mo.Ses} (h:AlSt n st) (hg:Mo.TabsGood st.tabs):showM st 0=(bagTxt (Mo.bagS st.tabs (Mo.tq n).1),0)∧showM st 1=(bagTxt (Mo.bagS st.tabs (Mo.tq n).1),0):=by
 have e:bagTxt (Mo.bagS st.tabs (Mo.tq n).2)=bagTxt (Mo.bagS st.tabs (Mo.tq n).1):=by
  unfold bagTxt;rw [(tq_bag hg h.ft n).canon]
 unfold showM;rw [h.vs];refine ⟨rfl,?_⟩
 show (bagTxt (Mo.bagS st.tabs (Mo.tq n).2),(0:Int))=_
 rw [e]
theorem AlSt.tells {n:Nat} {st:Mo.Ses} {w0 w w':World} {p:Nat} (h:AlSt n st) (s:ByteArray) (hm:Mine w0 w p st) (hm':Mine w0 w' p (feedM st s).2):∃ (t:List UInt8) (c:Int),(feedM st s).1=(t,c)∧t.length≤100000000000000∧(cutB 124 ⟨t.toArray⟩).length≤1000∧(c=0→∃ x:ByteArray,cutB 124 ⟨t.toArray⟩=[x,x]):=by
 by_cases hc:(feedM st s).1.2=0
 ·have e:=feed_code0 h.vs hc (tq_bag hm.good h.ft n) (tq_bag hm'.good (h.feed s).ft n)
  obtain ⟨ts,t1,o1,n1⟩:=hm.ok (q:=(Mo.tq n).1) (by rw [h.vs];simp)
  obtain ⟨us,t2,o2,n2⟩:=hm'.ok (q:=(Mo.tq n).1) (by rw [(h.feed s).vs];simp)
  have hts:us=ts:=by
   rw [(h.feed s).ft,←h.ft,t1] at t2
   injection t2 with t2;exact t2.symm
  subst hts;have hw:=bwr_of o2 o1 n2 n1;have hl:=bagTxt_len hw;have hb:=bagIn_bar _ 0 hw.allV;have hcut:=cut_two (x:=bagTxt (Mo.bagS (feedM st s).2.tabs (Mo.tq n).1++neg (Mo.bagS st.tabs (Mo.tq n).1))) (y:=bagTxt (Mo.bagS (feedM st s).2.tabs (Mo.tq n).1++neg (Mo.bagS st.tabs (Mo.tq n).1))) hb hb;rw [←e] at hcut
  refine ⟨_,_,rfl,?_,by rw [hcut];exact (by decide:(2:Nat)≤1000),fun _=>⟨_,hcut⟩⟩
  rw [e,List.length_append,List.length_cons];omega
 ·have e:=feed_ok.2 hc
  refine ⟨_,_,rfl,by rw [e.1];decide,?_,fun h=>absurd h hc⟩
  rw [e.1]
  show (cutB 124 ⟨#[]⟩).length≤1000
  have:(cutB 124 ⟨#[]⟩).length=1:=by kernel_rfl
  omega
theorem str_cells {w:World} {base:Nat} {v:Value} {x y:ByteArray} (h:w.ownsRow base 9 1 v 2 (strVs [x,y])):∃ b cap,v=.slice (some ⟨b,0,none⟩) 2 cap∧2≤cap∧w.cell? ⟨b,0,none⟩=some (.string x)∧w.cell? ⟨b,1,none⟩=some (.string y):=by
 rcases h.2 with ⟨_,h1⟩ | ⟨g,cap,cur,rfl,_,hg,hc1,hc2,hc3,hc4⟩
 ·cases h1
 ·have k:∀ (i:Nat) (z:Value),(strVs [x,y])[i]? =some z→w.cell? ⟨g,i,none⟩=some z:=fun i z hz=>by
   rw [Nat.mul_one] at hc4;rw [←hc4,List.getElem?_take] at hz;rw [cell_of hg]
   split at hz
   ·simpa using hz
   ·cases hz
  exact ⟨g,cap,rfl,hc1,k 0 _ rfl,k 1 _ rfl⟩
theorem tk_U {ops:Array Oper} {Q:Exit→Act→World→Prop} {md:Region.Mode} {S:World→Prop} {oi:Oper} {fuel:Nat} {listed:Array Bool} {a:Act} {w:World} (i:Nat) (hS:S w) (h:wpAnyH Tryz.prog md ops Q S fuel (listed.setIfInBounds i true) (a.put oi.dst undef) w) (hi:ops[i]? =some oi:=by exact rfl) (hs:Region.noSelect ops=true:=by kernel_rfl) (hf:Region.free md ops listed i=true:=by kernel_rfl) (hr:(Region.ready md ops listed).contains i=true:=by kernel_rfl) (hQ:∀ c a w,Q (.panic c) (a.put oi.dst undef) w→Q (.panic c) a w:=by exact fun _ _ _ h=>h)
 (hy:Region.wanted oi (yielded ops a.tmps)=false:=by kernel_rfl):wpAnyH Tryz.prog md ops Q S (fuel+1) listed a w :=
 wpAnyH_take hi hs hf hr hQ (.inr ⟨hy,rfl⟩) hS h
theorem alike_any (n:Nat) (hn:n<30) (v1 v2:Value) (l1 l2:List (List Rw4)) (w:World) (hE:Env w) (h1:RawssAt w v1 l1) (h2:RawssAt w v2 l2):Calls Tryz.prog 26 #[.string (tw n).1,.string (tw n).2,v1,v2] w fun e w'=>e=.returned (.bool true)∧Kept No w w':=by
 have HE:=hid hE;have HL1:=hid h1;have HL2:=hid h2
 obtain ⟨va1,vn1,vc1,rfl⟩:∃ a n c,v1=.slice a n c:=by obtain ⟨a,cap,e,_⟩:=h1;exact ⟨_,_,_,e⟩
 obtain ⟨a,cap,rfl,h22,h23,h24⟩:=h2;have H4:=hid h24
 have hcap:cap≤9223372036854775807:=by unfold maxLen at h23;omega
 obtain ⟨m,hm⟩:∃ m,l2.length=m:=⟨_,rfl⟩;have HN:=hid hm;rw [hm] at h22 ⊢;obtain ⟨t1,t2,t3,t4⟩:=tw_n hn;have HT1:=hid t1;have HT2:=hid t2;have HT3:=hid t3;have HT4:=hid t4;clear h24 h23 hm HL2 hE h1 t1 t2 t3 t4;generalize (tw n).1=sp at HT1 HT3 ⊢;generalize (tw n).2=sq at HT2 HT4 ⊢
 go_enter Tryz.func26,Tryz.ntmps26
 go_wp2_with fail;refine (awake_any w HE.out).mono ?_;rintro e w1 ⟨rfl,hk1⟩;have HK1:=hid hk1;clear hk1;go_wp2_with fail;refine (fresh_any w1 (HE.out.keptNo HK1.out)).mono ?_;rintro e w3 ⟨p,rfl,h3⟩;have H3:=hid h3;clear h3;go_wp2_with fail;refine (fed_any _ l1 w3 H3.out (HL1.out.kept HK1.out)).mono ?_;rintro e w4 ⟨rfl,h4⟩;have HS0:=hid (fed_same (a:=fr3) fr_nod l1 fr3 (SameT.refl _));have H4':=hid h4;clear h4 H3;generalize fedM fr3 l1=st0 at H4' HS0;have HV0:Hid (st0.views=[]):=HS0.out.vs.trans fr_vs
 have HA:=hid (view_is HT1.out HT3.out HS0.out.ft (by rw [HV0.out];decide))
 have HB:=hid (view_is (st:=⟨st0.tabs,st0.views++[(Mo.tq n).1]⟩) HT2.out HT4.out HS0.out.ft (by show (st0.views++[(Mo.tq n).1]).length≠6;rw [HV0.out];exact (by decide:(1:Nat)≠6)))
 go_wp2_with fail;refine (view_go H4'.out sp).mono ?_;rintro e w5 ⟨he,h5⟩;rw [HA.out,HV0.out] at he h5;have he':e=.returned (.tuple #[.int .i64 0,.string ⟨(bagTxt (Mo.bagS st0.tabs (Mo.tq n).1)).toArray⟩,.int .i64 0]):=he;subst he';have H5:=hid h5;have HG0:=hid H4'.out.good;clear he h5 H4' HA;go_wp2_with fail;rw [HV0.out] at HB;refine (view_go H5.out sq).mono ?_;rintro e w6 ⟨he,h6⟩;simp only [List.nil_append] at he h6;have HB':=HB.out;simp only [List.nil_append] at HB';rw [HB'] at he h6
 have hqq:bagTxt (Mo.bagS st0.tabs (Mo.tq n).2)=bagTxt (Mo.bagS st0.tabs (Mo.tq n).1):=by unfold bagTxt;rw [(tq_bag HG0.out HS0.out.ft n).canon]
 have he':e=.returned (.tuple #[.int .i64 1,.string ⟨(bagTxt (Mo.bagS st0.tabs (Mo.tq n).1)).toArray⟩,.int .i64 0]):=by rw [←hqq];exact he
 subst he'
 have HAl:Hid (AlSt n ⟨st0.tabs,[(Mo.tq n).1]++[(Mo.tq n).2]⟩):=⟨HS0.out.ft,by show (st0.tabs.map Tab.nm).Nodup;rw [HS0.out.nm];exact fr_nod,rfl⟩
 have H6:=hid h6;clear he h6 H5 HB HB' hqq;generalize (⟨st0.tabs,[(Mo.tq n).1]++[(Mo.tq n).2]⟩:Mo.Ses)=st1 at H6 HAl
 have HLast:=hid (fun (st:Mo.Ses) (h:AlSt n st)=>view_is (st:=st) HT1.out HT3.out h.ft (by rw [h.vs];exact (by decide:(2:Nat)≠6)))
 clear HT1 HT2 HT3 HT4 HS0 HV0 HG0;go_wp2_with fail
 go_loopg [17] m (fun k v17 wr=>∃ (i:Nat) (st:Mo.Ses),i+k=m∧v17=.int .i64 (i:Int)∧Hid (AlSt n st)∧Hid (Mine w1 wr p st))
 case atStart=>exact ⟨0,st1,by omega,rfl,HAl,H6⟩
 case round =>
  clear HAl H6;obtain ⟨i,st,hik,rfl,HAl,HI⟩:=hrel
  cases gk with
  | zero =>
    have hx:¬(i:Int)<(m:Int):=by omega
    have HV:=hid (HLast.out st HAl.out);go_wp2_with fail;refine (view_go HI.out sp).mono ?_;rintro e w7 ⟨he,h7⟩;rw [HV.out,HAl.out.vs] at he h7;have he':e=.returned (.tuple #[.int .i64 2,.string ⟨(bagTxt (Mo.bagS st.tabs (Mo.tq n).1)).toArray⟩,.int .i64 0]):=he;subst he';have H7:=hid h7;clear he h7 HV HLast;go_wp2_with fail;refine (show_go H7.out 0).mono ?_;rintro e w8 ⟨he,h8⟩;have he':e=.returned (.tuple #[.string ⟨(bagTxt (Mo.bagS st.tabs (Mo.tq n).1)).toArray⟩,.int .i64 0]):=he;subst he';have H8:=hid (HK1.out.seq h8.kept);clear he h8 H7;go_wp2_with fail;go_ret;exact ⟨rfl,H8.out⟩
  | succ k =>
    have hx:(i:Int)<(m:Int):=by omega
    have hx0:(0:Int)≤(i:Int):=by omega
    obtain ⟨rs,hr⟩:∃ rs,l2[i]? =some rs:=⟨_,List.getElem?_eq_getElem (by have:=HN.out;omega)⟩
    obtain ⟨b,o,sv,rfl,hbl,c0,hR⟩:=H4.out i rs hr;have HKi:=hid (HK1.out.seq HI.out.kept)
    have d0:wr.cell? ⟨b,o+i,none⟩=some sv:=(HKi.out.cell hbl (fun e=>e)).trans c0
    have HB:=hid (kbatch_any sv rs wr (hR.kept HKi.out));clear c0 hR hr;go_wp2_with fail;refine HB.out.mono ?_;rintro e w2 ⟨rfl,hk2⟩;have HI2:=hid (HI.out.stays hk2);clear hk2 HB HI HKi d0;generalize batB rs=bb;go_wp2_with fail;refine (feed_go HI2.out bb).mono ?_;rintro e w3 ⟨he,h3⟩;obtain ⟨t,c,ht,htl,htc,htx⟩:=HAl.out.tells bb HI2.out h3;rw [ht] at he;have he':e=.returned (.tuple #[.string ⟨t.toArray⟩,.int .i64 c]):=he;subst he';have HI3:=hid h3;have HAl3:=hid (HAl.out.feed bb)
    have HSh:=hid ((HAl.out.feed bb).show h3.good)
    have HX:=hid htx
    have HCut:=hid (cut_any ⟨t.toArray⟩ 2 w3 (by show t.toArray.size≤_;simp;omega) htc)
    clear he h3 HI2 HAl ht htx htc;generalize (feedM st bb).2=st2 at HI3 HAl3 HSh;go_wp2_with fail;refine HCut.out.mono ?_;rintro e w4 ⟨lv,rfl,hown,hk4⟩;have HI4:=hid (HI3.out.stays hk4);clear HCut hk4 HI3
    by_cases hc:c=0
    ·subst hc
     obtain ⟨x,hcx⟩:=HX.out rfl;rw [hcx] at hown ⊢;obtain ⟨lb,lcap,rfl,hl2,e0,e1⟩:=str_cells hown;clear hown hcx HX
     have hl3:(2:Int)≤(lcap:Int):=by omega
     go_wp2_with fail
     go_region_held (fun w'=>w'.cell? ⟨lb,0,none⟩=some (.string x)∧w'.cell? ⟨lb,1,none⟩=some (.string x)) (first | exact ⟨e0,e1⟩ | go_keep) (fail)
     have HI5:Hid (Mine w1 w4.drew p st2):=HI4.out.stays ((Kept.refl No w4).drew);go_wp2_with fail;refine (show_go HI5.out 0).mono ?_;rintro e w5 ⟨he,h5⟩;rw [HSh.out.1] at he;have he':e=.returned (.tuple #[.string ⟨(bagTxt (Mo.bagS st2.tabs (Mo.tq n).1)).toArray⟩,.int .i64 0]):=he;subst he';have HI6:=hid h5;clear he h5 HI5 HI4;go_wp2_with fail;refine (show_go HI6.out 1).mono ?_;rintro e w6 ⟨he,h6⟩;rw [HSh.out.2] at he;have he':e=.returned (.tuple #[.string ⟨(bagTxt (Mo.bagS st2.tabs (Mo.tq n).1)).toArray⟩,.int .i64 0]):=he;subst he';have HI7:=hid h6;clear he h6 HI6;go_wp2_with fail;go_roundg k
     case measure=>omega
     case rel=>exact ⟨i+1,st2,by omega,by go_num,HAl3,HI7⟩
    ·have hc':(c == 0)=false:=by simpa using hc
     obtain ⟨va,vcap,rfl⟩:=own_sl hown;generalize (cutB 124 ⟨t.toArray⟩).length=nl;clear hown HX hc;go_wp2_with fail
     refine wp_region_held_drew (S:=fun _=>True) (by kernel_rfl) trivial (fun hHeld=> ?_)
     refine tk_P 0 (.int .i64 c) hHeld ?_;try simp only [Act.put,n_1,n_2,n_3,n_4,n_5,n_6]
     refine tk_P 1 (.bool false) hHeld ?_;try simp only [Act.put,n_1,n_2,n_3,n_4,n_5,n_6]
     refine tk_P 2 (.bool false) hHeld ?_;try simp only [Act.put,n_1,n_2,n_3,n_4,n_5,n_6]
     refine tk_U 3 hHeld ?_;try simp only [Act.put,n_1,n_2,n_3,n_4,n_5,n_6]
     refine tk_U 4 hHeld ?_;try simp only [Act.put,n_1,n_2,n_3,n_4,n_5,n_6]
     refine tk_U 5 hHeld ?_;try simp only [Act.put,n_1,n_2,n_3,n_4,n_5,n_6]
     refine tk_U 6 hHeld ?_;try simp only [Act.put,n_1,n_2,n_3,n_4,n_5,n_6]
     refine tk_U 7 hHeld ?_;try simp only [Act.put,n_1,n_2,n_3,n_4,n_5,n_6]
     refine tk_U 8 hHeld ?_;try simp only [Act.put,n_1,n_2,n_3,n_4,n_5,n_6]
     refine tk_U 9 hHeld ?_;try simp only [Act.put,n_1,n_2,n_3,n_4,n_5,n_6]
     refine tk_U 10 hHeld ?_;try simp only [Act.put,n_1,n_2,n_3,n_4,n_5,n_6]
     refine tk_U 11 hHeld ?_;try simp only [Act.put,n_1,n_2,n_3,n_4,n_5,n_6]
     refine tk_U 12 hHeld ?_;try simp only [Act.put,n_1,n_2,n_3,n_4,n_5,n_6]
     refine tk_U 13 hHeld ?_;try simp only [Act.put,n_1,n_2,n_3,n_4,n_5,n_6]
     refine tk_P 14 (.bool false) hHeld ?_;try simp only [Act.put,n_1,n_2,n_3,n_4,n_5,n_6]
     refine wpAnyH_done (by kernel_rfl) ?_ _
     try simp only [Act.put,n_1,n_2,n_3,n_4,n_5,n_6]
     have HI5:Hid (Mine w1 w4.drew p st2):=HI4.out.stays ((Kept.refl No w4).drew);go_wp2_with fail;refine (show_go HI5.out 0).mono ?_;rintro e w5 ⟨he,h5⟩;rw [HSh.out.1] at he;have he':e=.returned (.tuple #[.string ⟨(bagTxt (Mo.bagS st2.tabs (Mo.tq n).1)).toArray⟩,.int .i64 0]):=he;subst he';have HI6:=hid h5;clear he h5 HI5 HI4;go_wp2_with fail;refine (show_go HI6.out 1).mono ?_;rintro e w6 ⟨he,h6⟩;rw [HSh.out.2] at he;have he':e=.returned (.tuple #[.string ⟨(bagTxt (Mo.bagS st2.tabs (Mo.tq n).1)).toArray⟩,.int .i64 0]):=he;subst he';have HI7:=hid h6;clear he h6 HI6;go_wp2_with fail;go_roundg k
     case measure=>omega
     case rel=>exact ⟨i+1,st2,by omega,by go_num,HAl3,HI7⟩
theorem twinsT_any (c:Int) (v1 v2:Value) (l1 l2:List (List Rw4)) (w:World) (hc:I64 c) (hE:Env w) (h1:RawssAt w v1 l1) (h2:RawssAt w v2 l2):Calls Tryz.prog 5 #[.int .i64 c,v1,v2] w fun e w'=>e=.returned (.bool true)∧Kept No w w':=by
 have hpr:=pickM_range c 14 (by omega)
 obtain ⟨n,hn,hn3⟩:∃ n:Nat,pickM c 14=(n:Int)∧n<14:=⟨(pickM c 14).toNat,by omega,by omega⟩
 have HPk:=hid (kpick_any c 14 w hc (by omega))
 have HTw:=hid (twins_any n (by omega) w)
 have HAl:=hid (alike_any n (by omega) v1 v2 l1 l2 w hE h1 h2)
 rw [hn] at HPk;clear hpr hn hc hE h1 h2
 go_enter Tryz.func5,Tryz.ntmps5
 go_wp2_with fail;refine HPk.out.mono ?_;rintro e w2 ⟨rfl,rfl⟩;clear HPk;go_wp2_with fail;refine HTw.out.mono ?_;rintro e w2 ⟨rfl,rfl⟩;clear HTw;go_wp2_with fail;refine HAl.out.mono ?_;rintro e w3 ⟨rfl,hk⟩;have HK:=hid hk;clear HAl hk;go_wp2_with fail;go_ret;exact ⟨rfl,HK.out⟩
theorem pairsT_any (c:Int) (v1 v2:Value) (l1 l2:List (List Rw4)) (w:World) (hc:I64 c) (hE:Env w) (h1:RawssAt w v1 l1) (h2:RawssAt w v2 l2):Calls Tryz.prog 6 #[.int .i64 c,v1,v2] w fun e w'=>e=.returned (.bool true)∧Kept No w w':=by
 have hpr:=pickM_range c 16 (by omega)
 obtain ⟨n,hn,hn3⟩:∃ n:Nat,pickM c 16=(n:Int)∧n<16:=⟨(pickM c 16).toNat,by omega,by omega⟩
 have HPk:=hid (kpick_any c 16 w hc (by omega))
 obtain ⟨m,hm⟩:∃ m,m=14+n:=⟨_,rfl⟩
 have HTw:=hid (twins_any m (by omega) w)
 have HAl:=hid (alike_any m (by omega) v1 v2 l1 l2 w hE h1 h2)
 have hw1:wrap64 (14+(n:Int))=(m:Int):=by unfold wrap64;omega
 have hw2:IntKind.i64.wrap (14+(n:Int))=(m:Int):=by rw [IntKind.wrap_i64];omega
 have hw3:(14:Int)+(n:Int)=(m:Int):=by omega
 have hb1:(0:Int)≤(n:Int):=by omega
 have hb2:(n:Int)<16:=by omega
 rw [hn] at HPk;clear hpr hn hc hE h1 h2 hm
 go_enter Tryz.func6,Tryz.ntmps6
 go_wp2_with fail;refine HPk.out.mono ?_;rintro e w2 ⟨rfl,rfl⟩;clear HPk;go_wp2_with fail;refine HTw.out.mono ?_;rintro e w2 ⟨rfl,rfl⟩;clear HTw;go_wp2_with fail;refine HAl.out.mono ?_;rintro e w3 ⟨rfl,hk⟩;have HK:=hid hk;clear HAl hk;go_wp2_with fail;go_ret;exact ⟨rfl,HK.out⟩
open Go.ChangeShapes Go.WideShapes Go.ChangeAt Go.RowKit Go.Deep
theorem env_pairs {W:World} (h:laidMetH Tryz.prog Rows.pairsRow.laid W):Env W:=by
 rw [MakeChecks.laidMetH_plain _ _ _ (by kernel_rfl)] at h
 obtain ⟨g,t,cs,fuel,p,hg,hty,hvar,hd⟩:=Lib.laidMet.reads h (n := "internal/strconv.uint64pow10") (d:=Rows.laid_internal_strconv_uint64pow10) (by simp [Rows.pairsRow])
 have hg0:Tryz.prog.globalNamed "internal/strconv.uint64pow10"=some 1:=by kernel_rfl
 obtain rfl:=Option.some.inj (hg0.symm.trans hg)
 have hty0:(Tryz.prog.globals[1]?).map (·.type)=some 352:=by kernel_rfl
 obtain rfl:=Option.some.inj (hty0.symm.trans hty)
 have ed:(Rows.laid_internal_strconv_uint64pow10:DataW Unit)=Lib.tabData .u64 Lib.pow10Tab:=by kernel_rfl
 rw [ed] at hd
 show Lib.TabIs _ _ _ _ _
 unfold Lib.TabIs
 rw [hvar,←Lib.cells_of_tab Tryz.underlying352 Tryz.underlying300 (by kernel_rfl) (by kernel_rfl) hd]
theorem pairs_lifted (os:Os) (started:os.Started) (H:Type) (enc:TypeId × Value→H) :
 ReturnsInHanded {} Tryz.checked os 6 .any (fun w args=>(Rows.pairsSpec.pre enc Tryz.prog Tryz.f6 [] false w args∧laidMetH Tryz.prog Rows.pairsRow.laid w)∧sizedMet enc Tryz.prog Tryz.f6 (OpenSpec.ofChange Rows.pairsSpec) false w args)
  (Rows.pairsSpec.post enc Tryz.prog Tryz.f6 false true false false):=by
 refine returnsInHanded_of_change_and (C:=Tryz.checked) (X:=fun w _=>laidMetH Tryz.prog Rows.pairsRow.laid w) (fun _ _ _ hh h=>h.of_heap hh) Tryz.own started (by kernel_rfl) Tryz.func6
  (ChangeSpec.witness_shaped (enc:=enc) (C:=Tryz.checked) (os:=os) (X:=fun w _=>laidMetH Tryz.prog Rows.pairsRow.laid w) false (World.laidAll Tryz.prog os Rows.pairsRow.laid) #[.int .i64 0,.slice none 0 0,.slice none 0 0] 8 (World.laidAll_os _ _ _)
   (World.shaped_of_ZipB (by kernel_rfl) (by kernel_rfl)) (by kernel_rfl) (by kernel_rfl) (by kernel_rfl)
   (by rw [MakeChecks.laidMetH_plain _ _ _ (by kernel_rfl)];exact laidMet_laidAll _ (by kernel_rfl) (by kernel_rfl))) ?_
 intro W base args ds gs before hval0 hW _ hZ hL _;have hval:∀ (j:Nat) t v,Tryz.f6.params[j]? =some t→args[j]? =some v→Value.okWide Tryz.prog W .any base t v:=hval0;have hW':=hW;obtain ⟨p,q,hA0,hV,rfl,hfz,hnd⟩:=hW
 have hA:DataW.TrodAll enc Tryz.prog W 0 (fun _=>true) true Tryz.f6.params.toList args.toList ds p:=hA0
 rw [Tryz.params6] at hA hval;obtain ⟨v0,v1,v2,d0,d1,d2,p0,p1,p2,rfl,rfl,rfl,h0,h1,h2⟩:=trodAll_three hA;obtain ⟨rfl,rfl⟩:=trodVars_none hV;obtain ⟨n0,rfl,rfl,rfl,hwf0⟩:=open_int Tryz.underlying3 (hval 0 3 v0 rfl rfl) h0;have k1:=h1
 have lt1:∀ x∈p1,x.block<W.heap.size:=by obtain ⟨m,hm⟩:=k1;exact DataW.trod_lt m _ _ _ hm
 obtain ⟨r1,hr1⟩:∃ rss,RawssAt W v1 rss:=by
  obtain ⟨a1,len1,cap1,rfl⟩:=okWide_slice Tryz.underlying25 (hval 1 25 v1 rfl rfl);obtain ⟨fuel,hf⟩:=h1
  exact rawss_of (by simpa [Value.cells] using hf)
 have k2:=h2
 have lt2:∀ x∈p2,x.block<W.heap.size:=by obtain ⟨m,hm⟩:=k2;exact DataW.trod_lt m _ _ _ hm
 obtain ⟨r2,hr2⟩:∃ rss,RawssAt W v2 rss:=by
  obtain ⟨a1,len1,cap1,rfl⟩:=okWide_slice Tryz.underlying25 (hval 2 25 v2 rfl rfl);obtain ⟨fuel,hf⟩:=h2
  exact rawss_of (by simpa [Value.cells] using hf)
 clear hA0 hval0
 refine (pairsT_any n0 v1 v2 r1 r2 W (wf_i64 hwf0) (env_pairs hL) hr1 hr2).mono fun e W' ⟨he,hk⟩=> ?_
 subst he;have bel:=hk.toBelow
 exact ⟨_,rfl,_,_,_,[],_,[],hW',trodAll_mk1 (shut_bool Tryz.underlying4 _),(trodAll_mk3 (Below.trod Tryz.laidOut (by kernel_rfl) (of_decide_eq_true (by kernel_rfl)) h0 bel (fun x hx=>by cases hx)) (Below.trod Tryz.laidOut (by kernel_rfl) (of_decide_eq_true (by kernel_rfl)) k1 bel lt1) (Below.trod Tryz.laidOut (by kernel_rfl) (of_decide_eq_true (by kernel_rfl)) k2 bel lt2)),rfl,bel.frame _,fun h=>by cases h⟩
theorem pairs_holds:Rows.PairsSaid :=
 OpenClaim.holds_of_wide 6 Tryz.f6 rfl rfl rfl rfl rfl rfl rfl ⟨rfl,rfl,rfl,rfl,rfl⟩ rfl rfl rfl rfl rfl (by kernel_rfl) Tryz.func6 (by kernel_rfl)
  (of_decide_eq_true (by kernel_rfl)) (by unfold Func.isWrapper;first | (rw [if_pos (by decide +kernel)];kernel_rfl) | (rw [if_neg (by decide +kernel)];exact ⟨rfl,rfl⟩))
  (fun os started H enc _=>pairs_lifted os started H enc)
theorem pairs_card:Rows.PairsCardSaid :=
 Claim7.holds_tied_plain_at .later [] [.data,.data,.data,.data,.sentinel,.sentinel,.pinned] true (true, "0d3c75a6b554341e587c90e6635eed0ee75e272e87a790cb3e947bc0305c5a0b") true
  pairs_holds (fun _ h=>by cases h) (by kernel_rfl) (fun _ h=>by cases h) pairs_row_tie rfl ⟨rfl,rfl⟩ (by kernel_rfl) rfl
  (fun f fn hf hfn=>by
    obtain rfl:f=6:=Option.some.inj ((show Tryz.prog.funcNamed "ripple/ripplekeep.Pairs"=some 6 by kernel_rfl).symm.trans hf) |>.symm
    obtain rfl:fn=Tryz.f6:=(Option.some.inj (Tryz.func6.symm.trans hfn)).symm
    exact ⟨by kernel_rfl,fun j t ht=>by
     rw [Tryz.params6] at ht
     have hm:t∈[3,25,25]:=by simpa using Array.mem_of_getElem? ht
     have hall:([3,25,25].all fun u=> !Tryz.prog.wantsStandIn u)=true:=by kernel_rfl
     exact (show Tryz.prog.wantsStandIn t=false by simpa using List.all_eq_true.1 hall t hm)⟩)
  (by kernel_rfl)
end Go.Proofs.YtdinjjmcmfjbfaaGreatDoor
