/-
  For every query text, every list of batches and every two batches, ripplekeep.Cut returns true, and all four read behind the call as they read before: a batch that is fed at once, and the same one cut in two, if both halves are taken, make the same of a view, and tell the same together. Condition: the listed package-level variables of the library read as start-up lays them (the card ties them to the text).
-/
import Derived.Test.YtdinjjmcmfjbfaaGreatDoorEvJ
import Derived.Test.YtdinjjmcmfjbfaaGreatDoorEdJ
import Derived.SizedLaws
import Derived.Carry
set_option maxRecDepth 100000
set_option maxHeartbeats 4000000
namespace Go.Proofs.YtdinjjmcmfjbfaaGreatDoor
open Go.RowKit Go.Shelf Go.Deep
open Mo (V Row Bag cnt canon Eqv OkB OkD neg Nr Q leaves bagQ tyQ wf joins TOk wv ty Tab)
def Two (w0 w:World) (p:Nat) (st:Mo.Ses) (q:Nat) (su:Mo.Ses):Prop:=∃ X Y,Sess w X p st∧Sess w Y q su∧(∀ k,X k→¬Y k)∧(∀ k,X k∨Y k→w0.heap.size≤k)∧Kept No w0 w
section
variable {w0 w w':World} {p q:Nat} {st su st' su':Mo.Ses}
theorem Two.swap (h:Two w0 w p st q su):Two w0 w q su p st:=by
 obtain ⟨X,Y,a,b,c,d,e⟩:=h
 exact ⟨Y,X,b,a,fun k h1 h2=>c k h2 h1,fun k h=>d k h.symm,e⟩
theorem Two.kept (h:Two w0 w p st q su):Kept No w0 w:=by obtain ⟨X,Y,a,b,c,d,e⟩:=h;exact e
theorem Two.stays (h:Two w0 w p st q su) (k:Kept No w w'):Two w0 w' p st q su:=by
 obtain ⟨X,Y,a,b,c,d,e⟩:=h
 exact ⟨X,Y,a.stays k (fun _ e=>e.elim) (fun e=>e),b.stays k (fun _ e=>e.elim) (fun e=>e),c,d,e.seq k⟩
theorem Two.one (h:Two w0 w p st q su):Mine w0 w p st:=by
 obtain ⟨X,Y,a,b,c,d,e⟩:=h
 exact ⟨X,a,fun k hk=>d k (.inl hk),e⟩
theorem Two.step {X X' Y:Nat→Prop} (a:Sess w X p st) (b:Sess w Y q su) (c:∀ k,X k→¬Y k) (d:∀ k,X k∨Y k→w0.heap.size≤k) (e:Kept No w0 w) (h:Sess w' X' p st') (hk:SKept X X' w w'):Two w0 w' p st' q su:=by
 refine ⟨X',Y,h,b.stays hk.1 c a.glb,fun k h1 h2=> ?_,fun k h1=> ?_,e.trans hk.1 (fun _ e=>e) (fun k hl e'=>by have:=d k (.inl e');omega)⟩
 ·rcases hk.2 k h1 with h3 | h3
  ·exact c k h3 h2
  ·have:=b.lt h2;omega
 ·rcases h1 with h1 | h1
  ·rcases hk.2 k h1 with h3 | h3
   ·exact d k (.inl h3)
   ·exact Nat.le_trans e.size h3
  ·exact d k (.inr h1)
theorem Two.made (h:Mine w0 w p st) (k:Mine w w' q su):Two w0 w' p st q su:=by
 obtain ⟨X,a,b,c⟩:=h;obtain ⟨Y,d,e,f⟩:=k
 refine ⟨X,Y,a.stays f (fun _ e=>e.elim) (fun e=>e),d,fun k h1 h2=> ?_,fun k h=> ?_,c.seq f⟩
 ·have:=a.lt h1;have:=e k h2;omega
 ·rcases h with h | h
  ·exact b k h
  ·exact Nat.le_trans c.size (e k h)
theorem feed_go2 (h:Two w0 w p st q su) (s:ByteArray):Calls Tryz.prog 20 #[.pointer (some ⟨p,0,none⟩),.string s] w fun e w'=>e=.returned (two2 (feedM st s).1)∧Two w0 w' p (feedM st s).2 q su:=by
 obtain ⟨X,Y,a,b,c,d,e⟩:=h
 exact (feed_any a s).mono fun _ w' ⟨g,X',i,j⟩=>⟨g,Two.step a b c d e i j⟩
theorem view_go2 (h:Two w0 w p st q su) (s:ByteArray):Calls Tryz.prog 17 #[.pointer (some ⟨p,0,none⟩),.string s] w fun e w'=>e=.returned (view3 (viewM st s).1)∧Two w0 w' p (viewM st s).2 q su:=by
 obtain ⟨X,Y,a,b,c,d,e⟩:=h
 exact (view_any a s).mono fun _ w' ⟨g,X',i,j⟩=>⟨g,Two.step a b c d e i j⟩
theorem show_go2 (h:Two w0 w p st q su) (i:Int):Calls Tryz.prog 19 #[.pointer (some ⟨p,0,none⟩),.int .i64 i] w fun e w'=>e=.returned (.tuple #[strL (showM st i).1,.int .i64 (showM st i).2])∧Two w0 w' p st q su:=by
 have hm:=h;obtain ⟨X,Y,a,b,c,d,e⟩:=h
 exact (show_any a i).mono fun _ w' ⟨g,_,j⟩=>⟨g,hm.stays j⟩
end
theorem fed_gen {w0:World} {p:Nat} (I:World→Mo.Ses→Prop) (hK:∀ w st,I w st→Kept No w0 w) (hS:∀ w w' st,I w st→Kept No w w'→I w' st)
 (hF:∀ w st s,I w st→Calls Tryz.prog 20 #[.pointer (some ⟨p,0,none⟩),.string s] w fun e w'=>e=.returned (two2 (feedM st s).1)∧I w' (feedM st s).2)
 (st:Mo.Ses) (v:Value) (rss:List (List Rw4)) (w:World) (hm:I w st) (h:RawssAt w0 v rss):Calls Tryz.prog 16 #[.pointer (some ⟨p,0,none⟩),v] w fun e w'=>e=.returned (.tuple #[])∧I w' (fedM st rss):=by
 obtain ⟨a,cap,rfl,h2,h3,h4⟩:=h;have H4:=hid h4;have HM:=hid hm;have HKp:=hid hK;have HSt:=hid hS;have HFd:=hid hF
 have hcap:cap≤9223372036854775807:=by unfold maxLen at h3;omega
 obtain ⟨n,hn⟩:∃ n,rss.length=n:=⟨_,rfl⟩;have HN:=hid hn;rw [hn] at h2 ⊢;clear h4 h3 hn hm hK hS hF
 go_enter Tryz.func16,Tryz.ntmps16
 go_wp2_with fail
 go_loopg [4] n (fun k v2 wr=>∃ (i:Nat),i+k=n∧v2=.int .i64 (i:Int)∧Hid (I wr (fedM st (rss.take i))))
 case atStart=>exact ⟨0,by omega,rfl,HM⟩
 case round =>
  obtain ⟨i,hik,rfl,HI⟩:=hrel
  cases gk with
  | zero =>
    have hx:¬(i:Int)<(n:Int):=by omega
    have HE:Hid (I wr (fedM st rss)):=by
     have e:rss.take i=rss:=List.take_of_length_le (by have:=HN.out;omega)
     have:=HI.out
     rw [e] at this;exact this
    go_wp2_with fail;refine bodyPost_end (results_none rfl _ _ _) rfl ?_;exact ⟨rfl,HE.out⟩
  | succ k =>
    have hx:(i:Int)<(n:Int):=by omega
    have hx0:(0:Int)≤(i:Int):=by omega
    obtain ⟨rs,hr⟩:∃ rs,rss[i]? =some rs:=⟨_,List.getElem?_eq_getElem (by have:=HN.out;omega)⟩
    obtain ⟨b,o,sv,rfl,hbl,c0,hR⟩:=H4.out i rs hr;have HF:=hid (fedM_take (st:=st) hr);have hki:=HKp.out _ _ HI.out
    have d0:wr.cell? ⟨b,o+i,none⟩=some sv:=(hki.cell hbl (fun e=>e)).trans c0
    have HB:=hid (kbatch_any sv rs wr (hR.kept hki));clear c0 hR hr hki;go_wp2_with fail;refine HB.out.mono ?_;rintro e w2 ⟨rfl,hk2⟩;have HI2:=hid (HSt.out _ _ _ HI.out hk2);clear hk2 HB;go_wp2_with fail;refine (HFd.out _ _ (batB rs) HI2.out).mono ?_;rintro e w3 ⟨rfl,h3⟩
    have HI3:Hid (I w3 (fedM st (rss.take (i+1)))):=by rw [HF.out];exact h3
    clear h3 HI2 HI;unfold two2;go_wp2_with fail;go_roundg k
    case measure=>omega
    case rel=>exact ⟨i+1,by omega,by go_num,HI3⟩
theorem feed_zero {st:Mo.Ses} {s:ByteArray} (h:(feedM st s).1.2=0):∃ os,batchP s=some os∧(feedM st s).2=⟨newT st.tabs (chg (tr0 st.tabs) os),st.views⟩:=by
 unfold feedM at h ⊢
 split at h
 ·exact absurd (show (1:Int)=0 from h) (by decide)
 ·next h0 =>
  rw [if_neg h0]
  cases hb:batchP s with
  | none=>rw [hb] at h;exact absurd (show (2:Int)=0 from h) (by decide)
  | some os =>
    rw [hb] at h
    simp only at h ⊢
    by_cases h1:fitP (tr0 st.tabs) os≠0
    ·rw [if_pos h1] at h;exact absurd h h1
    ·rw [if_neg h1] at h ⊢
     by_cases h2:bearP (psM st.tabs (chg (tr0 st.tabs) os)) 0≠0
     ·rw [if_pos h2] at h;exact absurd h h2
     ·rw [if_neg h2];exact ⟨os,rfl,rfl⟩
theorem ba_nil {x:ByteArray} (h:x.size=0):x=⟨#[]⟩:=by
 obtain ⟨d⟩:=x
 have:d.size=0:=h
 rw [Array.eq_empty_of_size_eq_zero this]
theorem ba_left (y:ByteArray):(⟨#[]⟩:ByteArray)++y=y:=ByteArray.ext (by rw [ByteArray.data_append];simp)
theorem ba_right (x:ByteArray):x++(⟨#[]⟩:ByteArray)=x:=ByteArray.ext (by rw [ByteArray.data_append];simp)
def both (x y:ByteArray):ByteArray:=if x.size≠0∧y.size≠0 then x++⟨#[59]⟩++y else x++y
theorem both_ords {x y:ByteArray} {o1 o2 o3:List Ord} (h1:batchP x=some o1) (h2:batchP y=some o2) (h3:batchP (both x y)=some o3):o3=o1++o2:=by
 have h0:batchP ⟨#[]⟩=some []:=by kernel_rfl
 unfold both at h3
 by_cases hx:x.size=0
 ·rw [if_neg (by simp [hx])] at h3
  have e:=ba_nil hx;subst e;rw [h0] at h1
  injection h1 with h1
  subst h1;rw [ba_left y,h2] at h3
  injection h3 with h3
  exact h3.symm
 ·by_cases hy:y.size=0
  ·rw [if_neg (by simp [hy])] at h3
   have e:=ba_nil hy;subst e;rw [h0] at h2
   injection h2 with h2
   subst h2;rw [ba_right x,h1] at h3
   injection h3 with h3
   rw [List.append_nil];exact h3.symm
  ·rw [if_pos ⟨hx,hy⟩,batch_join hx hy h1 h2] at h3
   injection h3 with h3
   exact h3.symm
theorem cut_math {T:List Tab} {q:Q} {x y:ByteArray} (h1:(feedM ⟨T,[q]⟩ x).1.2=0) (h2:(feedM (feedM ⟨T,[q]⟩ x).2 y).1.2=0) (h3:(feedM ⟨T,[q]⟩ (both x y)).1.2=0) :
 TEq (feedM ⟨T,[q]⟩ (both x y)).2.tabs (feedM (feedM ⟨T,[q]⟩ x).2 y).2.tabs:=by
 obtain ⟨o1,b1,e1⟩:=feed_zero h1;obtain ⟨o2,b2,e2⟩:=feed_zero h2;obtain ⟨o3,b3,e3⟩:=feed_zero h3;have ho:=both_ords b1 b2 b3;subst ho;rw [e3,e2,e1]
 have htr:tr0 (newT T (chg (tr0 T) o1))=tr0 T:=by
  unfold tr0 newT
  refine List.ext_getElem? fun i=> ?_
  rw [List.getElem?_map,List.getElem?_mapIdx,List.getElem?_map,Option.map_map]
  rfl
 show TEq (newT T (chg (tr0 T) (o1++o2))) (newT (newT T (chg (tr0 T) o1)) (chg (tr0 (newT T (chg (tr0 T) o1))) o2))
 rw [htr]
 exact newT_two fun i r=>chg_append _ _ _ i r
theorem ba_empty {x:ByteArray}:x.toList.isEmpty=decide (x.size=0):=by
 rw [ByteArray.toList_eq]
 by_cases h:x.size=0
 ·rw [decide_eq_true h,ba_nil h];rfl
 ·rw [decide_eq_false h]
  cases hl:x.data.toList with
  | nil=>exact absurd (by have:=ba_len x;rw [hl] at this;exact this.symm) h
  | cons=>rfl
theorem cut_tm {us:List Bool} {d1 d2 d3:Bag} (h1:BWr us d1) (h2:BWr us d2) (h3:BWr us d3) (h:∀ r,cnt d3 r=cnt d1 r+cnt d2 r) :
 (∀ e∈enB d1++enB d2,tmW (enB d1++enB d2) e.1=tmW (enB d3) e.1)∧(∀ e∈enB d3,tmW (enB d1++enB d2) e.1=tmW (enB d3) e.1):=by
 have key:∀ r:Row,(∀ v∈r,VOk v)→tmW (enB d1++enB d2) (rowB r)=tmW (enB d3) (rowB r):=fun r hr=>by
  have b1:=h1.bd r
  rw [tmW_F,tmW_F,tmF_append,tmF_bag h1 hr (by omega) (by omega),tmF_bag h2 hr (by omega) (by omega),tmF_bag h3 hr (by omega) (by omega),h r]
  omega
 refine ⟨fun e he=> ?_,fun e he=> ?_⟩
 ·rcases List.mem_append.1 he with he | he
  ·obtain ⟨r,hr,e1,_⟩:=enB_mem h1 he
   rw [e1];exact key r hr
  ·obtain ⟨r,hr,e1,_⟩:=enB_mem h2 he
   rw [e1];exact key r hr
 ·obtain ⟨r,hr,e1,_⟩:=enB_mem h3 he
  rw [e1];exact key r hr
theorem batB_size (rs:List Rw4):(batB rs).size≤120:=by
 have:=bat_size rs (min rs.length 12)
 unfold batB;omega
theorem told_one {st:Mo.Ses} {s:ByteArray} {q:Q} {t:List UInt8} {S:Mo.Ses} (hv:st.views=[q]) (h:feedM st s=((t,0),S)):t=bagTxt (Mo.bagS S.tabs q++neg (Mo.bagS st.tabs q))∧S.views=[q]:=by
 have h1:=(feed_ok (st:=st) (s:=s)).1 (by rw [h])
 obtain ⟨os,_,h2⟩:=feed_zero (st:=st) (s:=s) (by rw [h])
 rw [h] at h1 h2
 have h1':t=bars (st.views.map fun q=>bagTxt (Mo.bagS S.tabs q++neg (Mo.bagS st.tabs q))):=h1
 have h2':S=⟨newT st.tabs (chg (tr0 st.tabs) os),st.views⟩:=h2;refine ⟨?_,?_⟩
 ·rw [h1',hv]
  exact bars_one _
 ·rw [h2',←hv]
theorem same_ft {st:Mo.Ses} {s:ByteArray} {x:List UInt8 × Int} {S:Mo.Ses} (hn:(st.tabs.map Tab.nm).Nodup) (h:feedM st s=(x,S)):Mo.ftT S.tabs=Mo.ftT st.tabs:=by
 have:=feed_same hn (SameT.refl st) s
 rw [h] at this;exact this.ft
theorem cut_all {T:List Tab} {q:Q} {x y B:ByteArray} {tu tv tw:List UInt8} {Su Sv Sw:Mo.Ses} (hB:both x y=B) (hu:feedM ⟨T,[q]⟩ x=((tu,0),Su)) (hv:feedM Su y=((tv,0),Sv)) (hw:feedM ⟨T,[q]⟩ B=((tw,0),Sw))
 {w0 wa wb wc wd:World} {p p':Nat} (ha:Mine w0 wa p ⟨T,[q]⟩) (hb:Mine w0 wb p Su) (hc:Mine w0 wc p Sv) (hd:Mine w0 wd p' Sw) :
 ∃ (us:List Bool) (d1 d2 d3:Bag) (tx:List UInt8),us≠[]∧BWr us d1∧BWr us d2∧BWr us d3∧tu=bagTxt d1∧tv=bagTxt d2∧tw=bagTxt d3∧(∀ r,cnt d3 r=cnt d1 r+cnt d2 r)∧showM Sv 0=(tx,0)∧showM Sw 0=(tx,0):=by
 have hT:TEq Sw.tabs Sv.tabs:=by
  have:=cut_math (T:=T) (q:=q) (x:=x) (y:=y) (by rw [hu]) (by rw [hu];show (feedM Su y).1.2=0;rw [hv]) (by rw [hB,hw])
  rw [hB,hw,hu] at this;have h2:TEq Sw.tabs (feedM Su y).2.tabs:=this;rw [hv] at h2;exact h2
 obtain ⟨u1,u2⟩:=told_one (st:=⟨T,[q]⟩) rfl hu;obtain ⟨v1,v2⟩:=told_one u2 hv;obtain ⟨z1,z2⟩:=told_one (st:=⟨T,[q]⟩) rfl hw
 obtain ⟨ts,t1,k1,n1,hne⟩:=ha.ok2 (q:=q) (by simp)
 obtain ⟨ts2,t2,k2,n2,-⟩:=hb.ok2 (q:=q) (by rw [u2];simp)
 obtain ⟨ts3,t3,k3,n3,-⟩:=hc.ok2 (q:=q) (by rw [v2];simp)
 obtain ⟨ts4,t4,k4,n4,-⟩:=hd.ok2 (q:=q) (by rw [z2];simp)
 have f1:Mo.ftT Su.tabs=Mo.ftT T:=same_ft (st:=⟨T,[q]⟩) ha.good.nod hu;have f2:Mo.ftT Sv.tabs=Mo.ftT Su.tabs:=same_ft hb.good.nod hv;have f3:Mo.ftT Sw.tabs=Mo.ftT T:=same_ft (st:=⟨T,[q]⟩) ha.good.nod hw;have t1':tyQ (Mo.ftT T) q=some ts:=t1;rw [f1,t1'] at t2;rw [f2,f1,t1'] at t3;rw [f3,t1'] at t4
 injection t2 with t2
 injection t3 with t3
 injection t4 with t4
 subst t2 t3 t4;have hS:=bagS_teq hT q
 refine ⟨ts,_,_,_,bagTxt (Mo.bagS Sw.tabs q),hne,bwr_of k2 k1 n2 n1,bwr_of k3 k2 n3 n2,bwr_of k4 k1 n4 n1,u1,v1,z1,fun r=> ?_,?_,?_⟩
 ·show cnt (Mo.bagS Sw.tabs q++neg (Mo.bagS T q)) r=cnt (Mo.bagS Su.tabs q++neg (Mo.bagS T q)) r+cnt (Mo.bagS Sv.tabs q++neg (Mo.bagS Su.tabs q)) r
  rw [Mo.cnt_append,Mo.cnt_append,Mo.cnt_append,Mo.cnt_neg,Mo.cnt_neg,hS r];omega
 ·unfold showM
  rw [v2]
  show (bagTxt (Mo.bagS Sv.tabs q),(0:Int))=_
  unfold bagTxt;rw [hS.canon]
 ·unfold showM
  rw [z2]
  rfl
theorem cutT_any (s:ByteArray) (v va vb:Value) (l:List (List Rw4)) (ra rb:List Rw4) (w:World) (hE:Env w) (hs:s.size≤140737488355328) (hl:RawssAt w v l) (ha:RawsAt w va ra) (hb:RawsAt w vb rb):Calls Tryz.prog 8 #[.string s,v,va,vb] w fun e w'=>e=.returned (.bool true)∧Kept No w w':=by
 have HE:=hid hE;have HL:=hid hl;have HRa:=hid ha;have HRb:=hid hb
 obtain ⟨v1,v2,v3,rfl⟩:∃ a n c,v=.slice a n c:=by obtain ⟨a,cap,e,_⟩:=hl;exact ⟨_,_,_,e⟩
 obtain ⟨a1,a2,a3,rfl⟩:∃ a n c,va=.slice a n c:=by obtain ⟨a,cap,e,_⟩:=ha;exact ⟨_,_,_,e⟩
 obtain ⟨b1,b2,b3,rfl⟩:∃ a n c,vb=.slice a n c:=by obtain ⟨a,cap,e,_⟩:=hb;exact ⟨_,_,_,e⟩
 clear hE hl ha hb
 go_enter Tryz.func8,Tryz.ntmps8
 go_wp2_with fail;refine (awake_any w HE.out).mono ?_;rintro e w1 ⟨rfl,hk1⟩;have HK1:=hid hk1;clear hk1;go_wp2_with fail;refine (able_any s w1 (HE.out.keptNo HK1.out) hs).mono ?_;rintro e w2 ⟨rfl,hk2⟩;have HK2:=hid (HK1.out.seq hk2);clear hk2 HK1;go_wp2_with fail;refine (fresh_any w2 (HE.out.keptNo HK2.out)).mono ?_;rintro e w3 ⟨p,rfl,h3⟩;have H3:=hid h3;clear h3;go_wp2_with fail;refine (fresh_any w3 H3.out.env).mono ?_;rintro e w4 ⟨q,rfl,h4⟩;have H4:=hid (Two.made H3.out h4);clear h4 H3;go_wp2_with fail
 refine (fed_gen (w0:=w2) (p:=p) (fun w st=>Two w2 w p st q fr3) (fun w st h=>h.kept) (fun w w' st h k=>h.stays k) (fun w st s h=>feed_go2 h s) fr3 _ l w4 H4.out (HL.out.kept HK2.out)).mono ?_
 rintro e w5 ⟨rfl,h5⟩;have H5:=hid h5;clear h5 H4;go_wp2_with fail
 refine (fed_gen (w0:=w2) (p:=q) (fun w su=>Two w2 w p (fedM fr3 l) q su) (fun w st h=>h.kept) (fun w w' st h k=>h.stays k) (fun w st s h=>(feed_go2 h.swap s).mono fun e w' ⟨a,b⟩=>⟨a,b.swap⟩) fr3 _ l w5 H5.out (HL.out.kept HK2.out)).mono ?_
 rintro e w6 ⟨rfl,h6⟩;have HS0:=hid (fed_same (a:=fr3) fr_nod l fr3 (SameT.refl _));have H6:=hid h6;clear h6 H5 HL;generalize fedM fr3 l=st0 at H6 HS0;have HV0:Hid (st0.views=[]):=HS0.out.vs.trans fr_vs
 have HVC:=hid (view_code (a:=st0) (b:=st0) rfl (by rw [HV0.out];decide) (by rw [HV0.out];decide) s)
 obtain ⟨a1',t1',c1',st1',hv1⟩:∃ a1 t1 c1 st1,viewM st0 s=((a1,t1,c1),st1):=⟨_,_,_,_,rfl⟩;have HVV:=hid hv1;go_wp2_with fail;refine (view_go2 H6.out s).mono ?_;rintro e w7 ⟨he,h7⟩;rw [hv1] at he h7;have he':e=.returned (.tuple #[.int .i64 a1',.string ⟨t1'.toArray⟩,.int .i64 c1']):=he;subst he';have H7:=hid h7;clear he h7 H6 hv1;go_wp2_with fail;refine (view_go2 H7.out.swap s).mono ?_;rintro e w8 ⟨he,h8⟩;rw [HVV.out] at he h8;have he':e=.returned (.tuple #[.int .i64 a1',.string ⟨t1'.toArray⟩,.int .i64 c1']):=he;subst he';have H8:=hid h8.swap;clear he h8 H7
 by_cases hc:c1'=0
 ·obtain ⟨Q0,e1,-⟩:=HVC.out.2 (by rw [HVV.out];exact hc)
  rw [HV0.out,HVV.out] at e1
  have e2:st1'=⟨st0.tabs,[Q0]⟩:=by injection e1
  subst e2;subst hc
  have HNod:Hid ((st0.tabs.map Tab.nm).Nodup):=by show List.Nodup _;rw [HS0.out.nm];exact fr_nod
  clear HVC HVV HV0 e1 HS0;generalize st0.tabs=T at H8 HNod;go_wp2_with fail;refine (kbatch_any _ ra w8 (HRa.out.kept (HK2.out.seq H8.out.kept))).mono ?_;rintro e w9 ⟨rfl,hk9⟩;have H9:=hid (H8.out.stays hk9);clear hk9 H8;go_wp2_with fail;refine (kbatch_any _ rb w9 (HRb.out.kept (HK2.out.seq H9.out.kept))).mono ?_;rintro e wa ⟨rfl,hka⟩;have HA:=hid (H9.out.stays hka);clear hka H9 HRa HRb;have hsx:=batB_size ra;have hsy:=batB_size rb;generalize batB ra=x at hsx ⊢;generalize batB rb=y at hsy ⊢
  by_cases hx0:x.size=0
  ·have HB2:Hid (both x y=x++y):=by unfold both;exact if_neg fun h=>h.1 hx0
   have hxe:x.toList.isEmpty=true:=by rw [ba_empty];simpa using hx0
   clear hx0;go_wp2_with fail;refine (feed_go2 HA.out x).mono ?_;rintro e wb ⟨he,hb⟩;obtain ⟨tu,cu,Su,hvu⟩:∃ t c S,feedM ⟨T,[Q0]⟩ x=((t,c),S):=⟨_,_,_,rfl⟩;have HU:=hid hvu;rw [hvu] at he hb;have he':e=.returned (.tuple #[.string ⟨tu.toArray⟩,.int .i64 cu]):=he;subst he';have HB:=hid hb;have HA0:=hid HA.out.one;clear he hb hvu HA;go_wp2_with fail;refine (feed_go2 HB.out y).mono ?_;rintro e wc ⟨he,hc⟩;obtain ⟨tv,cv,Sv,hvv⟩:∃ t c S,feedM Su y=((t,c),S):=⟨_,_,_,rfl⟩;have HV:=hid hvv;rw [hvv] at he hc;have he':e=.returned (.tuple #[.string ⟨tv.toArray⟩,.int .i64 cv]):=he;subst he';have HC:=hid hc;have HB0:=hid HB.out.one;clear he hc hvv HB;go_wp2_with fail;obtain ⟨BB,hBB⟩:∃ B:ByteArray,B=(x++y):=⟨_,rfl⟩;rw [←hBB] at HB2 ⊢;clear hBB;refine (feed_go2 HC.out.swap BB).mono ?_;rintro e wd ⟨he,hd⟩;obtain ⟨tw',cw,Sw,hvw⟩:∃ t c S,feedM ⟨T,[Q0]⟩ BB=((t,c),S):=⟨_,_,_,rfl⟩;have HW:=hid hvw;rw [hvw] at he hd
   have he':e=.returned (.tuple #[.string ⟨tw'.toArray⟩,.int .i64 cw]):=he;subst he';have HD:=hid hd.swap;have HC0:=hid HC.out.one;have HD0:=hid hd.one;clear he hd hvw HC hxe;have HKd:=hid (HK2.out.seq HD.out.kept)
   by_cases hcu:cu=0
   case neg =>
    have hcu':(cu != 0)=true:=by simpa using hcu
    clear HU HV HW HD HA0 HB0 HC0 HD0 HB2;go_wp2_with fail;go_ret;exact ⟨rfl,HKd.out⟩
   by_cases hcv:cv=0
   case neg =>
    have hcv':(cv != 0)=true:=by simpa using hcv
    subst hcu;clear HU HV HW HD HA0 HB0 HC0 HD0 HB2;go_wp2_with fail;go_ret;exact ⟨rfl,HKd.out⟩
   by_cases hcw:cw=0
   case neg =>
    have hcw':(cw != 0)=true:=by simpa using hcw
    subst hcu hcv;clear HU HV HW HD HA0 HB0 HC0 HD0 HB2;go_wp2_with fail;go_ret;exact ⟨rfl,HKd.out⟩
   subst hcu hcv hcw;obtain ⟨us,d1,d2,d3,tx,hne,g1,g2,g3,rfl,rfl,rfl,hcnt,s1,s2⟩:=cut_all HB2.out HU.out HV.out HW.out HA0.out HB0.out HC0.out HD0.out;have HNe:=hid hne;have HW1:=hid g1;have HW2:=hid g2;have HW3:=hid g3;have HTm:=hid (cut_tm g1 g2 g3 hcnt);have HS1:=hid s1;have HS2:=hid s2;clear hne g1 g2 g3 hcnt s1 s2 HU HV HW HA0 HB0 HC0 HD0 HB2 HKd;go_wp2_with fail;refine (entries_bag HW1.out HNe.out wd).mono ?_;rintro e we ⟨y1,rfl,hy1,hke⟩;have HY1:=hid hy1;have HEe:=hid (HD.out.stays hke)
   obtain ⟨q1,qc1,rfl⟩:∃ a cap,y1=.slice a (enB d1).length cap:=by obtain ⟨a,cap,e,_⟩:=hy1;exact ⟨_,_,e⟩
   clear hy1 hke HD;generalize hm1:(enB d1).length=m1 at HY1 ⊢;have HM1:=hid hm1;clear hm1;go_wp2_with fail;refine (entries_bag HW2.out HNe.out we).mono ?_;rintro e wf ⟨y2,rfl,hy2,hkf⟩;have HY1f:=hid (HY1.out.kept hkf);have HY2:=hid hy2;have HF:=hid (HEe.out.stays hkf)
   obtain ⟨q2,qc2,rfl⟩:∃ a cap,y2=.slice a (enB d2).length cap:=by obtain ⟨a,cap,e,_⟩:=hy2;exact ⟨_,_,e⟩
   clear hy2 hkf HEe HY1;generalize hm2:(enB d2).length=m2 at HY2 ⊢;clear hm2;go_wp2_with fail;refine (entries_bag HW3.out HNe.out wf).mono ?_;rintro e wg ⟨y3,rfl,hy3,hkg⟩;have HY1g:=hid (HY1f.out.kept hkg);have HY2g:=hid (HY2.out.kept hkg);have HY3:=hid hy3;have HG:=hid (HF.out.stays hkg)
   obtain ⟨q3,qc3,rfl⟩:∃ a cap,y3=.slice a (enB d3).length cap:=by obtain ⟨a,cap,e,_⟩:=hy3;exact ⟨_,_,e⟩
   clear hy3 hkg HF HY1f HY2;generalize hm3:(enB d3).length=m3 at HY3 ⊢;clear hm3;go_wp2_with fail
   refine (added_any _ _ (enB d1) (enB d2) wg HY1g.out HY2g.out (by have:=enB_len HW1.out;have:=enB_len HW2.out;omega)).mono ?_
   rintro e wh ⟨y4,rfl,hy4,hkh⟩;have HY4:=hid (EnAt.of_owns hy4);have HY3h:=hid (HY3.out.kept hkh);have HH:=hid (HG.out.stays hkh)
   obtain ⟨q4,qc4,rfl⟩:∃ a cap,y4=.slice a (enB d1++enB d2).length cap:=by obtain ⟨a,cap,e,_⟩:=HY4.out;exact ⟨_,_,e⟩
   clear hy4 hkh HG HY1g HY2g HY3;generalize hm4:(enB d1++enB d2).length=m4 at HY4 ⊢;clear hm4;go_wp2_with fail;refine (equal_any _ _ (enB d1++enB d2) (enB d3) wh HY4.out HY3h.out HTm.out.1 HTm.out.2).mono ?_;rintro e wi ⟨rfl,hki⟩;have HI:=hid (HH.out.stays hki);clear hki HH HY4 HY3h HTm HW1 HW2 HW3 HNe HM1;go_wp2_with fail;refine (show_go2 HI.out 0).mono ?_;rintro e wj ⟨he,hj⟩;rw [HS1.out] at he;have he':e=.returned (.tuple #[.string ⟨tx.toArray⟩,.int .i64 0]):=he;subst he';have HJ:=hid hj;clear he hj HI;go_wp2_with fail;refine (show_go2 HJ.out.swap 0).mono ?_;rintro e wk ⟨he,hk⟩;rw [HS2.out] at he;have he':e=.returned (.tuple #[.string ⟨tx.toArray⟩,.int .i64 0]):=he;subst he';have HKk:=hid (HK2.out.seq hk.kept);clear he hk HJ;go_wp2_with fail;go_ret;exact ⟨rfl,HKk.out⟩
  ·by_cases hy0:y.size=0
   ·have HB2:Hid (both x y=x++y):=by unfold both;exact if_neg fun h=>h.2 hy0
    have hxe:x.toList.isEmpty=false:=by rw [ba_empty];simpa using hx0
    have hye:y.toList.isEmpty=true:=by rw [ba_empty];simpa using hy0
    clear hx0 hy0;go_wp2_with fail;refine (feed_go2 HA.out x).mono ?_;rintro e wb ⟨he,hb⟩;obtain ⟨tu,cu,Su,hvu⟩:∃ t c S,feedM ⟨T,[Q0]⟩ x=((t,c),S):=⟨_,_,_,rfl⟩;have HU:=hid hvu;rw [hvu] at he hb;have he':e=.returned (.tuple #[.string ⟨tu.toArray⟩,.int .i64 cu]):=he;subst he';have HB:=hid hb;have HA0:=hid HA.out.one;clear he hb hvu HA;go_wp2_with fail;refine (feed_go2 HB.out y).mono ?_;rintro e wc ⟨he,hc⟩;obtain ⟨tv,cv,Sv,hvv⟩:∃ t c S,feedM Su y=((t,c),S):=⟨_,_,_,rfl⟩;have HV:=hid hvv;rw [hvv] at he hc;have he':e=.returned (.tuple #[.string ⟨tv.toArray⟩,.int .i64 cv]):=he;subst he';have HC:=hid hc;have HB0:=hid HB.out.one;clear he hc hvv HB;go_wp2_with fail;obtain ⟨BB,hBB⟩:∃ B:ByteArray,B=(x++y):=⟨_,rfl⟩;rw [←hBB] at HB2 ⊢;clear hBB;refine (feed_go2 HC.out.swap BB).mono ?_;rintro e wd ⟨he,hd⟩;obtain ⟨tw',cw,Sw,hvw⟩:∃ t c S,feedM ⟨T,[Q0]⟩ BB=((t,c),S):=⟨_,_,_,rfl⟩;have HW:=hid hvw;rw [hvw] at he hd
    have he':e=.returned (.tuple #[.string ⟨tw'.toArray⟩,.int .i64 cw]):=he;subst he';have HD:=hid hd.swap;have HC0:=hid HC.out.one;have HD0:=hid hd.one;clear he hd hvw HC hxe;have HKd:=hid (HK2.out.seq HD.out.kept)
    by_cases hcu:cu=0
    case neg =>
     have hcu':(cu != 0)=true:=by simpa using hcu
     clear HU HV HW HD HA0 HB0 HC0 HD0 HB2;go_wp2_with fail;go_ret;exact ⟨rfl,HKd.out⟩
    by_cases hcv:cv=0
    case neg =>
     have hcv':(cv != 0)=true:=by simpa using hcv
     subst hcu;clear HU HV HW HD HA0 HB0 HC0 HD0 HB2;go_wp2_with fail;go_ret;exact ⟨rfl,HKd.out⟩
    by_cases hcw:cw=0
    case neg =>
     have hcw':(cw != 0)=true:=by simpa using hcw
     subst hcu hcv;clear HU HV HW HD HA0 HB0 HC0 HD0 HB2;go_wp2_with fail;go_ret;exact ⟨rfl,HKd.out⟩
    subst hcu hcv hcw;obtain ⟨us,d1,d2,d3,tx,hne,g1,g2,g3,rfl,rfl,rfl,hcnt,s1,s2⟩:=cut_all HB2.out HU.out HV.out HW.out HA0.out HB0.out HC0.out HD0.out;have HNe:=hid hne;have HW1:=hid g1;have HW2:=hid g2;have HW3:=hid g3;have HTm:=hid (cut_tm g1 g2 g3 hcnt);have HS1:=hid s1;have HS2:=hid s2;clear hne g1 g2 g3 hcnt s1 s2 HU HV HW HA0 HB0 HC0 HD0 HB2 HKd;go_wp2_with fail;refine (entries_bag HW1.out HNe.out wd).mono ?_;rintro e we ⟨y1,rfl,hy1,hke⟩;have HY1:=hid hy1;have HEe:=hid (HD.out.stays hke)
    obtain ⟨q1,qc1,rfl⟩:∃ a cap,y1=.slice a (enB d1).length cap:=by obtain ⟨a,cap,e,_⟩:=hy1;exact ⟨_,_,e⟩
    clear hy1 hke HD;generalize hm1:(enB d1).length=m1 at HY1 ⊢;have HM1:=hid hm1;clear hm1;go_wp2_with fail;refine (entries_bag HW2.out HNe.out we).mono ?_;rintro e wf ⟨y2,rfl,hy2,hkf⟩;have HY1f:=hid (HY1.out.kept hkf);have HY2:=hid hy2;have HF:=hid (HEe.out.stays hkf)
    obtain ⟨q2,qc2,rfl⟩:∃ a cap,y2=.slice a (enB d2).length cap:=by obtain ⟨a,cap,e,_⟩:=hy2;exact ⟨_,_,e⟩
    clear hy2 hkf HEe HY1;generalize hm2:(enB d2).length=m2 at HY2 ⊢;clear hm2;go_wp2_with fail;refine (entries_bag HW3.out HNe.out wf).mono ?_;rintro e wg ⟨y3,rfl,hy3,hkg⟩;have HY1g:=hid (HY1f.out.kept hkg);have HY2g:=hid (HY2.out.kept hkg);have HY3:=hid hy3;have HG:=hid (HF.out.stays hkg)
    obtain ⟨q3,qc3,rfl⟩:∃ a cap,y3=.slice a (enB d3).length cap:=by obtain ⟨a,cap,e,_⟩:=hy3;exact ⟨_,_,e⟩
    clear hy3 hkg HF HY1f HY2;generalize hm3:(enB d3).length=m3 at HY3 ⊢;clear hm3;go_wp2_with fail
    refine (added_any _ _ (enB d1) (enB d2) wg HY1g.out HY2g.out (by have:=enB_len HW1.out;have:=enB_len HW2.out;omega)).mono ?_
    rintro e wh ⟨y4,rfl,hy4,hkh⟩;have HY4:=hid (EnAt.of_owns hy4);have HY3h:=hid (HY3.out.kept hkh);have HH:=hid (HG.out.stays hkh)
    obtain ⟨q4,qc4,rfl⟩:∃ a cap,y4=.slice a (enB d1++enB d2).length cap:=by obtain ⟨a,cap,e,_⟩:=HY4.out;exact ⟨_,_,e⟩
    clear hy4 hkh HG HY1g HY2g HY3;generalize hm4:(enB d1++enB d2).length=m4 at HY4 ⊢;clear hm4;go_wp2_with fail;refine (equal_any _ _ (enB d1++enB d2) (enB d3) wh HY4.out HY3h.out HTm.out.1 HTm.out.2).mono ?_;rintro e wi ⟨rfl,hki⟩;have HI:=hid (HH.out.stays hki);clear hki HH HY4 HY3h HTm HW1 HW2 HW3 HNe HM1;go_wp2_with fail;refine (show_go2 HI.out 0).mono ?_;rintro e wj ⟨he,hj⟩;rw [HS1.out] at he;have he':e=.returned (.tuple #[.string ⟨tx.toArray⟩,.int .i64 0]):=he;subst he';have HJ:=hid hj;clear he hj HI;go_wp2_with fail;refine (show_go2 HJ.out.swap 0).mono ?_;rintro e wk ⟨he,hk⟩;rw [HS2.out] at he;have he':e=.returned (.tuple #[.string ⟨tx.toArray⟩,.int .i64 0]):=he;subst he';have HKk:=hid (HK2.out.seq hk.kept);clear he hk HJ;go_wp2_with fail;go_ret;exact ⟨rfl,HKk.out⟩
   ·have HB2:Hid (both x y=x++⟨#[59]⟩++y):=by unfold both;exact if_pos ⟨hx0,hy0⟩
    have hxe:x.toList.isEmpty=false:=by rw [ba_empty];simpa using hx0
    have hye:y.toList.isEmpty=false:=by rw [ba_empty];simpa using hy0
    clear hx0 hy0;go_wp2_with fail;refine (feed_go2 HA.out x).mono ?_;rintro e wb ⟨he,hb⟩;obtain ⟨tu,cu,Su,hvu⟩:∃ t c S,feedM ⟨T,[Q0]⟩ x=((t,c),S):=⟨_,_,_,rfl⟩;have HU:=hid hvu;rw [hvu] at he hb;have he':e=.returned (.tuple #[.string ⟨tu.toArray⟩,.int .i64 cu]):=he;subst he';have HB:=hid hb;have HA0:=hid HA.out.one;clear he hb hvu HA;go_wp2_with fail;refine (feed_go2 HB.out y).mono ?_;rintro e wc ⟨he,hc⟩;obtain ⟨tv,cv,Sv,hvv⟩:∃ t c S,feedM Su y=((t,c),S):=⟨_,_,_,rfl⟩;have HV:=hid hvv;rw [hvv] at he hc;have he':e=.returned (.tuple #[.string ⟨tv.toArray⟩,.int .i64 cv]):=he;subst he';have HC:=hid hc;have HB0:=hid HB.out.one;clear he hc hvv HB;go_wp2_with fail;obtain ⟨BB,hBB⟩:∃ B:ByteArray,B=(x++⟨#[59]⟩++y):=⟨_,rfl⟩;rw [←hBB] at HB2 ⊢;clear hBB;refine (feed_go2 HC.out.swap BB).mono ?_;rintro e wd ⟨he,hd⟩;obtain ⟨tw',cw,Sw,hvw⟩:∃ t c S,feedM ⟨T,[Q0]⟩ BB=((t,c),S):=⟨_,_,_,rfl⟩;have HW:=hid hvw
    rw [hvw] at he hd;have he':e=.returned (.tuple #[.string ⟨tw'.toArray⟩,.int .i64 cw]):=he;subst he';have HD:=hid hd.swap;have HC0:=hid HC.out.one;have HD0:=hid hd.one;clear he hd hvw HC hxe;have HKd:=hid (HK2.out.seq HD.out.kept)
    by_cases hcu:cu=0
    case neg =>
     have hcu':(cu != 0)=true:=by simpa using hcu
     clear HU HV HW HD HA0 HB0 HC0 HD0 HB2;go_wp2_with fail;go_ret;exact ⟨rfl,HKd.out⟩
    by_cases hcv:cv=0
    case neg =>
     have hcv':(cv != 0)=true:=by simpa using hcv
     subst hcu;clear HU HV HW HD HA0 HB0 HC0 HD0 HB2;go_wp2_with fail;go_ret;exact ⟨rfl,HKd.out⟩
    by_cases hcw:cw=0
    case neg =>
     have hcw':(cw != 0)=true:=by simpa using hcw
     subst hcu hcv;clear HU HV HW HD HA0 HB0 HC0 HD0 HB2;go_wp2_with fail;go_ret;exact ⟨rfl,HKd.out⟩
    subst hcu hcv hcw;obtain ⟨us,d1,d2,d3,tx,hne,g1,g2,g3,rfl,rfl,rfl,hcnt,s1,s2⟩:=cut_all HB2.out HU.out HV.out HW.out HA0.out HB0.out HC0.out HD0.out;have HNe:=hid hne;have HW1:=hid g1;have HW2:=hid g2;have HW3:=hid g3;have HTm:=hid (cut_tm g1 g2 g3 hcnt);have HS1:=hid s1;have HS2:=hid s2;clear hne g1 g2 g3 hcnt s1 s2 HU HV HW HA0 HB0 HC0 HD0 HB2 HKd;go_wp2_with fail;refine (entries_bag HW1.out HNe.out wd).mono ?_;rintro e we ⟨y1,rfl,hy1,hke⟩;have HY1:=hid hy1;have HEe:=hid (HD.out.stays hke)
    obtain ⟨q1,qc1,rfl⟩:∃ a cap,y1=.slice a (enB d1).length cap:=by obtain ⟨a,cap,e,_⟩:=hy1;exact ⟨_,_,e⟩
    clear hy1 hke HD;generalize hm1:(enB d1).length=m1 at HY1 ⊢;have HM1:=hid hm1;clear hm1;go_wp2_with fail;refine (entries_bag HW2.out HNe.out we).mono ?_;rintro e wf ⟨y2,rfl,hy2,hkf⟩;have HY1f:=hid (HY1.out.kept hkf);have HY2:=hid hy2;have HF:=hid (HEe.out.stays hkf)
    obtain ⟨q2,qc2,rfl⟩:∃ a cap,y2=.slice a (enB d2).length cap:=by obtain ⟨a,cap,e,_⟩:=hy2;exact ⟨_,_,e⟩
    clear hy2 hkf HEe HY1;generalize hm2:(enB d2).length=m2 at HY2 ⊢;clear hm2;go_wp2_with fail;refine (entries_bag HW3.out HNe.out wf).mono ?_;rintro e wg ⟨y3,rfl,hy3,hkg⟩;have HY1g:=hid (HY1f.out.kept hkg);have HY2g:=hid (HY2.out.kept hkg);have HY3:=hid hy3;have HG:=hid (HF.out.stays hkg)
    obtain ⟨q3,qc3,rfl⟩:∃ a cap,y3=.slice a (enB d3).length cap:=by obtain ⟨a,cap,e,_⟩:=hy3;exact ⟨_,_,e⟩
    clear hy3 hkg HF HY1f HY2;generalize hm3:(enB d3).length=m3 at HY3 ⊢;clear hm3;go_wp2_with fail
    refine (added_any _ _ (enB d1) (enB d2) wg HY1g.out HY2g.out (by have:=enB_len HW1.out;have:=enB_len HW2.out;omega)).mono ?_
    rintro e wh ⟨y4,rfl,hy4,hkh⟩;have HY4:=hid (EnAt.of_owns hy4);have HY3h:=hid (HY3.out.kept hkh);have HH:=hid (HG.out.stays hkh)
    obtain ⟨q4,qc4,rfl⟩:∃ a cap,y4=.slice a (enB d1++enB d2).length cap:=by obtain ⟨a,cap,e,_⟩:=HY4.out;exact ⟨_,_,e⟩
    clear hy4 hkh HG HY1g HY2g HY3;generalize hm4:(enB d1++enB d2).length=m4 at HY4 ⊢;clear hm4;go_wp2_with fail;refine (equal_any _ _ (enB d1++enB d2) (enB d3) wh HY4.out HY3h.out HTm.out.1 HTm.out.2).mono ?_;rintro e wi ⟨rfl,hki⟩;have HI:=hid (HH.out.stays hki);clear hki HH HY4 HY3h HTm HW1 HW2 HW3 HNe HM1;go_wp2_with fail;refine (show_go2 HI.out 0).mono ?_;rintro e wj ⟨he,hj⟩;rw [HS1.out] at he;have he':e=.returned (.tuple #[.string ⟨tx.toArray⟩,.int .i64 0]):=he;subst he';have HJ:=hid hj;clear he hj HI;go_wp2_with fail;refine (show_go2 HJ.out.swap 0).mono ?_;rintro e wk ⟨he,hk⟩;rw [HS2.out] at he;have he':e=.returned (.tuple #[.string ⟨tx.toArray⟩,.int .i64 0]):=he;subst he';have HKk:=hid (HK2.out.seq hk.kept);clear he hk HJ;go_wp2_with fail;go_ret;exact ⟨rfl,HKk.out⟩
 ·have H9:=hid (HK2.out.seq H8.out.kept)
  have hc':(c1' != 0)=true:=by simpa using hc
  clear HVC HVV HV0 HS0 H8 HRa HRb;go_wp2_with fail;go_ret;exact ⟨rfl,H9.out⟩
open Go.ChangeShapes Go.WideShapes Go.ChangeAt Go.RowKit Go.Deep
theorem env_cut {W:World} (h:laidMetH Tryz.prog Rows.cutRow.laid W):Env W:=by
 rw [MakeChecks.laidMetH_plain _ _ _ (by kernel_rfl)] at h
 obtain ⟨g,t,cs,fuel,p,hg,hty,hvar,hd⟩:=Lib.laidMet.reads h (n := "internal/strconv.uint64pow10") (d:=Rows.laid_internal_strconv_uint64pow10) (by simp [Rows.cutRow])
 have hg0:Tryz.prog.globalNamed "internal/strconv.uint64pow10"=some 1:=by kernel_rfl
 obtain rfl:=Option.some.inj (hg0.symm.trans hg)
 have hty0:(Tryz.prog.globals[1]?).map (·.type)=some 352:=by kernel_rfl
 obtain rfl:=Option.some.inj (hty0.symm.trans hty)
 have ed:(Rows.laid_internal_strconv_uint64pow10:DataW Unit)=Lib.tabData .u64 Lib.pow10Tab:=by kernel_rfl
 rw [ed] at hd
 show Lib.TabIs _ _ _ _ _
 unfold Lib.TabIs
 rw [hvar,←Lib.cells_of_tab Tryz.underlying352 Tryz.underlying300 (by kernel_rfl) (by kernel_rfl) hd]
theorem cut_lifted (os:Os) (started:os.Started) (H:Type) (enc:TypeId × Value→H) :
 ReturnsInHanded {} Tryz.checked os 8 .any (fun w args=>(Rows.cutSpec.pre enc Tryz.prog Tryz.f8 [] false w args∧laidMetH Tryz.prog Rows.cutRow.laid w)∧sizedMet enc Tryz.prog Tryz.f8 (OpenSpec.ofChange Rows.cutSpec) false w args)
  (Rows.cutSpec.post enc Tryz.prog Tryz.f8 false true false false):=by
 refine returnsInHanded_of_change_and (C:=Tryz.checked) (X:=fun w _=>laidMetH Tryz.prog Rows.cutRow.laid w) (fun _ _ _ hh h=>h.of_heap hh) Tryz.own started (by kernel_rfl) Tryz.func8
  (ChangeSpec.witness_shaped (enc:=enc) (C:=Tryz.checked) (os:=os) (X:=fun w _=>laidMetH Tryz.prog Rows.cutRow.laid w) false (World.laidAll Tryz.prog os Rows.cutRow.laid) #[.string ⟨#[]⟩,.slice none 0 0,.slice none 0 0,.slice none 0 0] 8 (World.laidAll_os _ _ _)
   (World.shaped_of_ZipB (by kernel_rfl) (by kernel_rfl)) (by kernel_rfl) (by kernel_rfl) (by kernel_rfl)
   (by rw [MakeChecks.laidMetH_plain _ _ _ (by kernel_rfl)];exact laidMet_laidAll _ (by kernel_rfl) (by kernel_rfl))) ?_
 intro W base args ds gs before hval0 hW _ hZ hL _;have hval:∀ (j:Nat) t v,Tryz.f8.params[j]? =some t→args[j]? =some v→Value.okWide Tryz.prog W .any base t v:=hval0;have hW':=hW;obtain ⟨p,q,hA0,hV,rfl,hfz,hnd⟩:=hW
 have hA:DataW.TrodAll enc Tryz.prog W 0 (fun _=>true) true Tryz.f8.params.toList args.toList ds p:=hA0
 rw [Tryz.params8] at hA hval;obtain ⟨v0,v1,v2,v3,d0,d1,d2,d3,p0,p1,p2,p3,rfl,rfl,rfl,h0,h1,h2,h3⟩:=trodAll_four hA;obtain ⟨rfl,rfl⟩:=trodVars_none hV;obtain ⟨s0,rfl,rfl,rfl,_⟩:=Go.ChangeMaps.open_string Tryz.underlying9 (hval 0 9 v0 rfl rfl) h0
 have hsz0:s0.size≤140737488355328:=by
  have:=sized_string hZ (j:=0) (t:=9) (bytes:=s0.data.toList) rfl rfl
  rw [ba_len] at this;unfold reachBytes at this;omega
 have k1:=h1
 have lt1:∀ x∈p1,x.block<W.heap.size:=by obtain ⟨m,hm⟩:=k1;exact DataW.trod_lt m _ _ _ hm
 obtain ⟨r1,hr1⟩:∃ rss,RawssAt W v1 rss:=by
  obtain ⟨a1,len1,cap1,rfl⟩:=okWide_slice Tryz.underlying25 (hval 1 25 v1 rfl rfl);obtain ⟨fuel,hf⟩:=h1
  exact rawss_of (by simpa [Value.cells] using hf)
 have k2:=h2
 have lt2:∀ x∈p2,x.block<W.heap.size:=by obtain ⟨m,hm⟩:=k2;exact DataW.trod_lt m _ _ _ hm
 obtain ⟨r2,hr2⟩:∃ rs,RawsAt W v2 rs:=by
  obtain ⟨a1,len1,cap1,rfl⟩:=okWide_slice Tryz.underlying41 (hval 2 41 v2 rfl rfl);obtain ⟨fuel,hf⟩:=h2
  exact raws_of (by simpa [Value.cells] using hf)
 have k3:=h3
 have lt3:∀ x∈p3,x.block<W.heap.size:=by obtain ⟨m,hm⟩:=k3;exact DataW.trod_lt m _ _ _ hm
 obtain ⟨r3,hr3⟩:∃ rs,RawsAt W v3 rs:=by
  obtain ⟨a1,len1,cap1,rfl⟩:=okWide_slice Tryz.underlying41 (hval 3 41 v3 rfl rfl);obtain ⟨fuel,hf⟩:=h3
  exact raws_of (by simpa [Value.cells] using hf)
 clear hA0 hval0
 refine (cutT_any s0 v1 v2 v3 r1 r2 r3 W (env_cut hL) hsz0 hr1 hr2 hr3).mono fun e W' ⟨he,hk⟩=> ?_
 subst he;have bel:=hk.toBelow
 exact ⟨_,rfl,_,_,_,[],_,[],hW',trodAll_mk1 (shut_bool Tryz.underlying4 _),(trodAll_mk4 (Below.trod Tryz.laidOut (by kernel_rfl) (of_decide_eq_true (by kernel_rfl)) h0 bel (fun x hx=>by cases hx)) (Below.trod Tryz.laidOut (by kernel_rfl) (of_decide_eq_true (by kernel_rfl)) k1 bel lt1) (Below.trod Tryz.laidOut (by kernel_rfl) (of_decide_eq_true (by kernel_rfl)) k2 bel lt2) (Below.trod Tryz.laidOut (by kernel_rfl) (of_decide_eq_true (by kernel_rfl)) k3 bel lt3)),rfl,bel.frame _,fun h=>by cases h⟩
theorem cut_holds:Rows.CutSaid :=
 OpenClaim.holds_of_wide 8 Tryz.f8 rfl rfl rfl rfl rfl rfl rfl ⟨rfl,rfl,rfl,rfl,rfl⟩ rfl rfl rfl rfl rfl (by kernel_rfl) Tryz.func8 (by kernel_rfl)
  (of_decide_eq_true (by kernel_rfl)) (by unfold Func.isWrapper;first | (rw [if_pos (by decide +kernel)];kernel_rfl) | (rw [if_neg (by decide +kernel)];exact ⟨rfl,rfl⟩))
  (fun os started H enc _=>cut_lifted os started H enc)
theorem cut_card:Rows.CutCardSaid :=
 Claim7.holds_tied_plain_at .later [] [.data,.data,.data,.data,.sentinel,.sentinel,.pinned] true (true, "0d3c75a6b554341e587c90e6635eed0ee75e272e87a790cb3e947bc0305c5a0b") true
  cut_holds (fun _ h=>by cases h) (by kernel_rfl) (fun _ h=>by cases h) cut_row_tie rfl ⟨rfl,rfl⟩ (by kernel_rfl) rfl
  (fun f fn hf hfn=>by
    obtain rfl:f=8:=Option.some.inj ((show Tryz.prog.funcNamed "ripple/ripplekeep.Cut"=some 8 by kernel_rfl).symm.trans hf) |>.symm
    obtain rfl:fn=Tryz.f8:=(Option.some.inj (Tryz.func8.symm.trans hfn)).symm
    exact ⟨by kernel_rfl,fun j t ht=>by
     rw [Tryz.params8] at ht
     have hm:t∈[9,25,41,41]:=by simpa using Array.mem_of_getElem? ht
     have hall:([9,25,41,41].all fun u=> !Tryz.prog.wantsStandIn u)=true:=by kernel_rfl
     exact (show Tryz.prog.wantsStandIn t=false by simpa using List.all_eq_true.1 hall t hm)⟩)
  (by kernel_rfl)
end Go.Proofs.YtdinjjmcmfjbfaaGreatDoor
