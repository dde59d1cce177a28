/-
  For every query text, every list of batches ahead, every list of batches behind it and every odd text, of bulk at most 1048576 together, ripplekeep.Kept returns true, and all read behind the call as they read before: what View and then each Feed have told, added up, is what Show tells, behind every batch; no row is there less than no times; a batch without a change, and one that is refused, change nothing. Condition: the listed package-level variables of the library read as start-up lays them (the card ties them to the text).
-/
import Derived.Test.YtdinjjmcmfjbfaaGreatDoorEsJ
import Derived.Test.YtdinjjmcmfjbfaaGreatDoorGaJ
import Derived.SizedLaws
import Derived.Carry
import Derived.JoinedCond
import Derived.Deep.DeepHandedRow
set_option maxRecDepth 100000
set_option maxHeartbeats 4000000
namespace Go.Proofs.YtdinjjmcmfjbfaaGreatDoor
open Go.RowKit Go.Shelf Go.Deep
open Mo (V Row Bag cnt canon Eqv OkB OkD neg Nr Q leaves bagQ tyQ wf joins TOk wv ty Tab)
theorem view_no {st:Mo.Ses} {s:ByteArray} (h:(viewM st s).1.2.2≠0):(viewM st s).1.2.1=[]∧(viewM st s).2=st:=by
 unfold viewM at h ⊢
 by_cases hc:(Pl.chk s).1≠0
 ·rw [if_pos hc];exact ⟨rfl,rfl⟩
 ·rw [if_neg hc] at h ⊢
  by_cases h6:st.views.length=6
  ·rw [if_pos h6];exact ⟨rfl,rfl⟩
  ·rw [if_neg h6] at h ⊢
   cases hrd:rdQ s 6 0 with
   | none=>exact ⟨rfl,rfl⟩
   | some x =>
     rw [hrd] at h
     simp only at h ⊢
     by_cases h1:((leaves x.1).all fun nm=>(Mo.tabT st.tabs nm).isSome)=true
     ·rw [if_pos h1] at h ⊢
      cases ht:tyQ (Mo.ftT st.tabs) x.1 with
      | none=>exact ⟨rfl,rfl⟩
      | some ts=>rw [ht] at h;exact absurd rfl h
     ·rw [if_neg h1];exact ⟨rfl,rfl⟩
theorem Mine.jn {w0 w:World} {p:Nat} {st:Mo.Ses} (h:Mine w0 w p st) {q:Q} (hq:q∈st.views):joins q≤2:=by
 obtain ⟨X,⟨O,xs,vs,tv,vv,h,_⟩,_⟩:=h;rw [←h.vq] at hq;obtain ⟨V,hV,rfl⟩:=List.mem_map.1 hq;exact (h.fx.fix V hV).jn
theorem EnAt.sl {w:World} {v:Value} {es:List En} (h:EnAt w v es):∃ a cap,v=.slice a es.length cap:=by obtain ⟨a,cap,e,_⟩:=h;exact ⟨_,_,e⟩
theorem kept_feed {w0 w w':World} {p:Nat} {T:List Tab} {q:Q} {us:List Bool} (rs:List Rw4) (hT:Raw3 T) (hm:Mine w0 w p ⟨T,[q]⟩) (hm':Mine w0 w' p (feedM ⟨T,[q]⟩ (batB rs)).2) (hd:dnQ q≤5451776) (ht:tyQ (Mo.ftT fr3.tabs) q=some us) :
 ∃ (d:Bag) (T':List Tab) (c:Int),feedM ⟨T,[q]⟩ (batB rs)=((bagTxt d,c),⟨T',[q]⟩)∧(c≠0→bagTxt d=[])∧BWr us d∧(∀ r,cnt (Mo.bagS T' q) r=cnt (Mo.bagS T q) r+cnt d r)∧(enB d).length≤cost rs∧Raw3 T'∧BWr us (Mo.bagS T q)∧BWr us (Mo.bagS T' q)∧Mo.nn (Mo.bagS T' q):=by
 have hR:=Raw3.feed (st:=⟨T,[q]⟩) hT rs;have hS:=feed_same (a:=⟨T,[q]⟩) (b:=⟨T,[q]⟩) hm.good.nod (SameT.refl _) (batB rs)
 obtain ⟨ts,a1,a2,a3⟩:=hm.ok (q:=q) (by simp)
 obtain ⟨vs,b1,b2,b3⟩:=hm'.ok (q:=q) (by rw [hS.vs];simp)
 have a1':tyQ (Mo.ftT T) q=some ts:=a1;rw [hT.ft,ht] at a1';rw [hR.ft,ht] at b1
 injection a1' with a1'
 injection b1 with b1
 subst a1' b1;obtain ⟨d,T',c,h1,h2,h3,h4,h5,h6,h7,h8⟩:=kept_step rs hT hm.good hd a2 a3 b2 b3;exact ⟨d,T',c,h1,h2,h3,h4,h5,h6,bwr_one a2 a3,bwr_one h7 h8,h7.nn⟩
def Off (X:Nat→Prop) (v:Value):Prop:=∀ b o n c,v=.slice (some ⟨b,o,none⟩) n c→¬X b
theorem EnAt.keptX {X:Nat→Prop} {w w':World} {v:Value} {es:List En} (h:EnAt w v es) (ho:Off X v) (k:Kept X w w'):EnAt w' v es:=by
 obtain ⟨a,cap,h1,h2,h3,h4⟩:=h;refine ⟨a,cap,h1,h2,h3,h4.imp id ?_⟩;rintro ⟨b,o,e1,e2,e3⟩
 have hb:¬X b:=ho b o _ _ (by rw [h1,e1])
 exact ⟨b,o,e1,Nat.lt_of_lt_of_le e2 k.size,fun i e hi=>⟨(k.cell e2 hb).trans (e3 i e hi).1,(k.cell e2 hb).trans (e3 i e hi).2⟩⟩
theorem EnAt.lt {w:World} {b o n c:Nat} {es:List En} (h:EnAt w (.slice (some ⟨b,o,none⟩) n c) es):b<w.heap.size:=by
 obtain ⟨a,cap,e1,_,_,h4⟩:=h
 injection e1 with e1 _ _
 rcases h4 with ⟨h5,_⟩ | ⟨b',o',h5,h6,_⟩
 ·rw [h5] at e1;cases e1
 ·rw [h5] at e1
  injection e1 with e1
  injection e1 with e1
  rw [e1];exact h6
theorem own_off {X:Nat→Prop} {w:World} {base:Nat} {v:Value} {es:List En} (h:w.ownsRow base 45 2 v es.length (enVs es)) (hx:∀ k,X k→k<base):Off X v:=by
 intro b o n c e hb
 rcases h.2 with ⟨e',_⟩ | ⟨g,cap,cur,e',hg,_⟩
 ·rw [e] at e';cases e'
 ·rw [e] at e'
  injection e' with e' _ _
  injection e' with e'
  injection e' with e'
  have:=hx b hb
  omega
def MineE (w0 w:World) (p:Nat) (st:Mo.Ses) (v:Value) (es:List En):Prop:=∃ X,Sess w X p st∧(∀ k,X k→w0.heap.size≤k)∧Kept No w0 w∧EnAt w v es∧Off X v
section
variable {w0 w w':World} {p:Nat} {st:Mo.Ses} {v:Value} {es:List En}
theorem MineE.mine (h:MineE w0 w p st v es):Mine w0 w p st:=by obtain ⟨X,a,b,c,_⟩:=h;exact ⟨X,a,b,c⟩
theorem MineE.en (h:MineE w0 w p st v es):EnAt w v es:=by obtain ⟨X,a,b,c,d,_⟩:=h;exact d
theorem MineE.stays (h:MineE w0 w p st v es) (k:Kept No w w'):MineE w0 w' p st v es:=by
 obtain ⟨X,a,b,c,d,e⟩:=h
 exact ⟨X,a.stays k (fun _ e=>e.elim) (fun e=>e),b,c.seq k,d.kept k,e⟩
theorem MineE.of (h:Mine w0 w p st) (k:Kept No w w') (ho:w'.ownsRow w.heap.size 45 2 v es.length (enVs es)):MineE w0 w' p st v es:=by
 obtain ⟨X,a,b,c⟩:=h
 exact ⟨X,a.stays k (fun _ e=>e.elim) (fun e=>e),b,c.seq k,EnAt.of_owns ho,own_off ho fun _ h=>a.lt h⟩
theorem feed_goE (h:MineE w0 w p st v es) (s:ByteArray):Calls Tryz.prog 20 #[.pointer (some ⟨p,0,none⟩),.string s] w fun e w'=>e=.returned (two2 (feedM st s).1)∧MineE w0 w' p (feedM st s).2 v es:=by
 obtain ⟨X,h1,h2,h3,h4,h5⟩:=h
 refine (feed_any h1 s).mono fun e w' ⟨a,X',b,c⟩=>⟨a,X',b,fun k e=>(c.2 k e).elim (h2 k) (fun e=>Nat.le_trans h3.size e),h3.trans c.1 (fun _ e=>e) (fun k hl e=>by have:=h2 k e;omega),h4.keptX h5 c.1,?_⟩
 intro b' o n c' e hb
 rcases c.2 b' hb with h6 | h6
 ·exact h5 b' o n c' e h6
 ·rw [e] at h4
  have:=h4.lt
  omega
theorem show_goE (h:MineE w0 w p st v es) (i:Int):Calls Tryz.prog 19 #[.pointer (some ⟨p,0,none⟩),.int .i64 i] w fun e w'=>e=.returned (.tuple #[strL (showM st i).1,.int .i64 (showM st i).2])∧MineE w0 w' p st v es:=by
 have hm:=h;obtain ⟨X,h1,_⟩:=h
 exact (show_any h1 i).mono fun e w' ⟨a,_,c⟩=>⟨a,hm.stays c⟩
end
theorem entries_own {us:List Bool} {l:Bag} (h:BWr us l) (hus:us≠[]) (w:World):Calls Tryz.prog 18 #[.string ⟨(bagTxt l).toArray⟩] w fun e w'=>∃ v,e=.returned (.tuple #[v,.bool true])∧w'.ownsRow w.heap.size 45 2 v (enB l).length (enVs (enB l))∧Kept No w w':=by
 by_cases hc:canon l=[]
 ·have e1:bagTxt l=[]:=by unfold bagTxt;rw [hc];rfl
  have e2:enB l=[]:=by unfold enB;rw [hc];rfl
  rw [e1,e2]
  exact (entries_nil w).mono fun e w' ⟨a,b⟩=>⟨_,a,World.ownsRow_nil w' _ _ _,b ▸ Kept.refl _ _⟩
 ·have hV:=h.allV
  have hcut:=bag_pieces (canon l) hV hc;have hlen:=bagTxt_len h
  have hne:¬(⟨(bagTxt l).toArray⟩:ByteArray)=⟨#[]⟩:=by
   intro e
   have e1:bagTxt l=[]:=by
    have:=congrArg (fun x:ByteArray=>x.data.toList) e
    simpa using this
   have e2:=congrArg List.length e1;unfold bagTxt at e2
   cases hcl:canon l with
   | nil=>exact hc hcl
   | cons x r =>
     rw [hcl] at e2
     simp [bagIn,entTxt,rowTxt] at e2
  refine (entries_any ⟨(bagTxt l).toArray⟩ (enB l) w hne (by show (bagTxt l).toArray.size≤_;simp;omega) (by unfold enB;rw [List.length_map];have:=h.len;omega) (fun i p hp=> ?_) (by show (cutB 59 ⟨(bagIn 0 (canon l)).toArray⟩).length=_;rw [hcut];simp [enB])).mono fun e w' ⟨v,a,b,c⟩=>⟨v,a,b,c⟩
  have hp':(cutB 59 ⟨(bagIn 0 (canon l)).toArray⟩)[i]? =some p:=hp;rw [hcut,List.getElem?_map] at hp';obtain ⟨x,hx,rfl⟩:=Option.map_eq_some_iff.1 hp'
  have hm:=List.mem_of_getElem? hx
  have hcnt:=Mo.mem_canon_cnt hm;have hty:=h.ty x.1 hcnt;have hbd:=h.bd x.1
  have hxc:cnt l x.1=x.2:=by rw [←Mo.canon_cnt,(Mo.canon_rise l).cnt_mem hm]
  refine ⟨(rowB x.1,x.2),by unfold enB;rw [List.getElem?_map,hx];rfl,ent_one hty.1 (fun e=>hus ?_) (by rw [←hxc];exact hcnt) (by omega) (by omega)⟩
  rw [←hty.2,e];rfl
theorem view_no0 {st:Mo.Ses} {s:ByteArray} (h:(viewM st s).1.2.2≠0):(viewM st s).1.1=0:=by
 unfold viewM at h ⊢
 by_cases hc:(Pl.chk s).1≠0
 ·rw [if_pos hc]
 ·rw [if_neg hc] at h ⊢
  by_cases h6:st.views.length=6
  ·rw [if_pos h6]
  ·rw [if_neg h6] at h ⊢
   cases hrd:rdQ s 6 0 with
   | none=>rfl
   | some x =>
     rw [hrd] at h
     simp only at h ⊢
     by_cases h1:((leaves x.1).all fun nm=>(Mo.tabT st.tabs nm).isSome)=true
     ·rw [if_pos h1] at h ⊢
      cases ht:tyQ (Mo.ftT st.tabs) x.1 with
      | none=>rfl
      | some ts=>rw [ht] at h;exact absurd rfl h
     ·rw [if_neg h1]
theorem kept_any (s:ByteArray) (v:Value) (l:List (List Rw4)) (u:Value) (l2:List (List Rw4)) (od:ByteArray) (w:World) (hE:Env w) (hs:s.size≤140737488355328) (hl:RawssAt w v l) (hl2:RawssAt w u l2) (hco:costs l2≤4000000000000) :
 Calls Tryz.prog 4 #[.string s,v,u,.string od] w fun e w'=>e=.returned (.bool true)∧Kept No w w':=by
 have HE:=hid hE;have HL:=hid hl;have HCo:=hid hco
 obtain ⟨va,vn,vc,rfl⟩:∃ a n c,v=.slice a n c:=by obtain ⟨a,cap,e,_⟩:=hl;exact ⟨_,_,_,e⟩
 obtain ⟨a,cap,rfl,h22,h23,h24⟩:=hl2;have H24:=hid h24
 have hcap:cap≤9223372036854775807:=by unfold maxLen at h23;omega
 obtain ⟨m,hm⟩:∃ m,l2.length=m:=⟨_,rfl⟩;have HN:=hid hm;rw [hm] at h22 ⊢;clear hE hl h24 h23 hm hco
 go_enter Tryz.func4,Tryz.ntmps4
 go_wp2_with fail;refine (awake_any w HE.out).mono ?_;rintro e w1 ⟨rfl,hk1⟩;have HK1:=hid hk1;clear hk1;go_wp2_with fail;refine (able_any s w1 (HE.out.keptNo HK1.out) hs).mono ?_;rintro e w2 ⟨rfl,hk2⟩;have HK2:=hid (HK1.out.seq hk2);clear hk2 HK1;go_wp2_with fail;refine (fresh_any w2 (HE.out.keptNo HK2.out)).mono ?_;rintro e w3 ⟨p,rfl,h3⟩;have H3:=hid h3;clear h3;go_wp2_with fail;refine (fed_any _ l w3 H3.out (HL.out.kept HK2.out)).mono ?_;rintro e w4 ⟨rfl,h4⟩;have HS0:=hid (fed_same (a:=fr3) fr_nod l fr3 (SameT.refl _));have HR0:=hid (raw3_fr.fed (st:=fr3) l);have H4:=hid h4;clear h4 H3 HL;generalize fedM fr3 l=st0 at H4 HS0 HR0;have HV0:Hid (st0.views=[]):=HS0.out.vs.trans fr_vs;go_wp2_with fail;refine (view_go H4.out s).mono ?_;rintro e w5 ⟨he,h5⟩
 by_cases hc:(viewM st0 s).1.2.2=0
 ·obtain ⟨q,hrq,hs120,e1⟩:=view_rq w hc
  rw [e1,HV0.out] at he h5;have he':e=.returned (.tuple #[.int .i64 0,.string ⟨(bagTxt (Mo.bagS st0.tabs q)).toArray⟩,.int .i64 0]):=he;subst he';have H5:Hid (Mine w2 w5 p ⟨st0.tabs,[q]⟩):=h5
  have HDn:Hid (dnQ q≤5451776):=by
   have h1:=rq_len hrq (Nat.zero_le _)
   exact dn_top (by omega) (h5.jn (q:=q) (by simp))
  obtain ⟨us,y1,k1,n1,hne⟩:=h5.ok2 (q:=q) (by simp)
  have HTy:Hid (tyQ (Mo.ftT fr3.tabs) q=some us):=by rw [←HR0.out.ft];exact y1
  have HW0:Hid (BWr us (Mo.bagS st0.tabs q)):=bwr_one k1 n1;have HNe:=hid hne;clear he h5 H4 HV0 HS0 hc e1 hrq k1 n1 hne hs hs120 y1;generalize st0.tabs=T0 at H5 HR0 HW0 ⊢;go_wp2_with fail;refine (entries_own HW0.out HNe.out w5).mono ?_;rintro e w6 ⟨y1,rfl,hy1,hk6⟩;have H6:=hid (MineE.of H5.out hk6 hy1);obtain ⟨q1,qc1,rfl⟩:=H6.out.en.sl;clear hy1 hk6 H5;generalize hm1:(enB (Mo.bagS T0 q)).length=m1 at H6 ⊢;have HM1:=hid hm1;clear hm1;go_wp2_with fail;refine (show_goE H6.out 0).mono ?_;rintro e w7 ⟨he,h7⟩;have he':e=.returned (.tuple #[.string ⟨(bagTxt (Mo.bagS T0 q)).toArray⟩,.int .i64 0]):=he;subst he';have H7:=hid h7;have HSm:=hid (sum_first HW0.out)
  have HLn:Hid (m1≤5451776+costs (l2.take 0)):=by
   show _≤_
   rw [←HM1.out];unfold enB;rw [List.length_map]
   have:=HR0.out.few.view HDn.out
   omega
  clear he h7 H6;have HB0:Hid (∃ es,SumIs (Mo.bagS T0 q) es∧es.length=m1∧MineE w2 w7 p ⟨T0,[q]⟩ (.slice q1 m1 qc1) es):=⟨_,HSm.out,HM1.out,H7.out⟩;clear HSm HM1 H7 HW0;go_wp2_with fail
  go_loopg [14,18] m (fun k v14 v18 wr=>∃ (i:Nat) (T:List Tab) (es:List En),i+k=m∧v18=.int .i64 (i:Int)∧Hid (SumIs (Mo.bagS T q) es)∧Hid (es.length≤5451776+costs (l2.take i))∧Hid (Raw3 T)∧Hid (MineE w2 wr p ⟨T,[q]⟩ v14 es))
  case atStart =>
   obtain ⟨es,h1,h2,h3⟩:=HB0.out
   exact ⟨0,T0,es,by omega,rfl,h1,by show _≤_;rw [h2];exact HLn.out,HR0,h3⟩
  case round =>
   clear HB0 HR0 HLn;obtain ⟨i,T,es,hik,rfl,HSm,HLn,HR,HI⟩:=hrel
   cases gk with
   | zero =>
     have hx:¬(i:Int)<(m:Int):=by omega
     obtain ⟨T2,hf2,ht2⟩:=feed_empty (st:=⟨T,[q]⟩) HI.out.mine.good rfl;have HF2:=hid hf2
     have HT2:Hid (bagTxt (Mo.bagS T2 q)=bagTxt (Mo.bagS T q)):=by
      show _=_
      unfold bagTxt;rw [(bagS_teq ht2 q).canon]
     have H7:=hid HI.out.mine;clear HI hf2 ht2 HSm HLn HR H24;go_wp2_with fail;refine (show_go H7.out 0).mono ?_;rintro e w8 ⟨he,h8⟩;have he':e=.returned (.tuple #[.string ⟨(bagTxt (Mo.bagS T q)).toArray⟩,.int .i64 0]):=he;subst he';have H8:=hid h8;clear he h8 H7;go_wp2_with fail;refine (feed_go H8.out ⟨#[]⟩).mono ?_;rintro e w9 ⟨he,h9⟩;rw [HF2.out] at he h9;have he':e=.returned (.tuple #[.string ⟨#[]⟩,.int .i64 0]):=he;subst he';have H9:Hid (Mine w2 w9 p ⟨T2,[q]⟩):=h9;clear he h9 H8 HF2;go_wp2_with fail;refine (show_go H9.out 0).mono ?_;rintro e wa ⟨he,ha⟩
     have he':e=.returned (.tuple #[.string ⟨(bagTxt (Mo.bagS T q)).toArray⟩,.int .i64 0]):=by rw [←HT2.out];exact he
     subst he';have HA:=hid ha;clear he ha H9;go_wp2_with fail;refine (feed_go HA.out od).mono ?_;rintro e wb ⟨he,hb⟩;obtain ⟨⟨t,c⟩,S,hfo⟩:∃ x S,feedM ⟨T2,[q]⟩ od=(x,S):=⟨_,_,rfl⟩;have hno:=(feed_ok (st:=⟨T2,[q]⟩) (s:=od)).2;rw [hfo] at he hb hno;have he':e=.returned (.tuple #[.string ⟨t.toArray⟩,.int .i64 c]):=he;subst he';have HB:=hid hb;have HNo:=hid hno;clear he hb hno hfo HA;go_wp2_with fail;refine (show_go HB.out 0).mono ?_;rintro e wc ⟨he,hc2⟩;obtain ⟨⟨t2,c2⟩,hsh⟩:∃ x,showM S 0=x:=⟨_,rfl⟩;have HKc:=hid (HK2.out.seq hc2.kept)
     by_cases hc0:c=0
     ·subst hc0
      rw [hsh] at he;have he':e=.returned (.tuple #[.string ⟨t2.toArray⟩,.int .i64 c2]):=he;subst he';clear he hc2 hsh HB HNo;go_wp2_with fail;go_ret
      exact ⟨by first | rfl | simp,HKc.out⟩
     ·obtain ⟨h1,h2⟩:=HNo.out hc0
      have h1':t=[]:=h1;have h2':S=⟨T2,[q]⟩:=h2;subst h1' h2'
      have he':e=.returned (.tuple #[.string ⟨(bagTxt (Mo.bagS T q)).toArray⟩,.int .i64 0]):=by rw [←HT2.out];exact he
      subst he'
      have hc':(c == 0)=false:=by simpa using hc0
      clear he hc2 hsh HB HNo h1 h2;go_wp2_with fail;go_ret
      exact ⟨by first | rfl | simp,HKc.out⟩
   | succ k =>
     have hx:(i:Int)<(m:Int):=by omega
     have hx0:(0:Int)≤(i:Int):=by omega
     obtain ⟨rs,hr⟩:∃ rs,l2[i]? =some rs:=⟨_,List.getElem?_eq_getElem (by have:=HN.out;omega)⟩
     obtain ⟨b,o,sv,rfl,hbl,c0,hR⟩:=H24.out i rs hr;have HKi:=hid (HK2.out.seq HI.out.mine.kept)
     have d0:wr.cell? ⟨b,o+i,none⟩=some sv:=(HKi.out.cell hbl (fun e=>e)).trans c0
     have HB:=hid (kbatch_any sv rs wr (hR.kept HKi.out));have HCi:=hid (costs_take hr);have HCl:=hid (costs_le l2 (i+1));obtain ⟨sa,sc,rfl⟩:=HI.out.en.sl;generalize hsn:es.length=sn at HI;have HSn:=hid hsn;clear c0 hR hr hsn;go_wp2_with fail;refine HB.out.mono ?_;rintro e w3 ⟨rfl,hk2⟩;have HI2:=hid (HI.out.stays hk2);clear hk2 HB HI HKi d0;go_wp2_with fail;refine (feed_goE HI2.out (batB rs)).mono ?_;rintro e w4 ⟨he,h4⟩;obtain ⟨d,T',c,hf,hcz,hWd,hcn,hdl,hR',hWT,hWT',hnn⟩:=kept_feed rs HR.out HI2.out.mine h4.mine HDn.out HTy.out;rw [hf] at he h4;have he':e=.returned (.tuple #[.string ⟨(bagTxt d).toArray⟩,.int .i64 c]):=he;subst he';have HI4:Hid (MineE w2 w4 p ⟨T',[q]⟩ (.slice sa sn sc) es):=h4;have HSm':=hid (sum_step HSm.out hWT hWd hcn);have HR4:=hid hR';have HWT:=hid hWT';have HNn:=hid (enB_nn hWT' hnn);have HDl:=hid hdl
     have HEn:=hid (fun w=>entries_bag hWd HNe.out w)
     clear he h4 hf hWd hcn hdl hR' hWT hWT' hnn HI2 HSm HR;generalize bagTxt d=tx at hcz HEn ⊢;go_wp2_with fail;refine (HEn.out w4).mono ?_;rintro e w5 ⟨y2,rfl,hy2,hk5⟩;have HI5:=hid (HI4.out.stays hk5);have HY2:=hid hy2;obtain ⟨q2,qc2,rfl⟩:=hy2.sl;generalize hm2:(enB d).length=m2 at HY2 HDl ⊢;have HM2:=hid hm2;clear hy2 hk5 HI4 hm2 HEn
     rcases Classical.em (c=0) with hc | hc
     case' inl =>
      subst hc;clear hcz;go_wp2_with fail
     case' inr =>
      have htx:=hcz hc;subst htx
      have hc':(c != 0)=true:=by simpa using hc
      clear hcz hc;go_wp2_with fail
     all_goals
      refine (added_any _ _ es (enB d) w5 HI5.out.en HY2.out (by have h1:=HLn.out;have h2:=HDl.out;have h3:=HM2.out;have h4:=HCi.out;have h5:=HCl.out;have h6:=HCo.out;omega)).mono ?_
      rintro e w6 ⟨y3,rfl,hy3,hk6⟩;have HI6:=hid (MineE.of HI5.out.mine hk6 hy3)
      have HLn6:Hid ((es++enB d).length≤5451776+costs (l2.take (i+1))):=by
       have h1:=HLn.out;have h2:=HDl.out;have h3:=HM2.out;have h4:=HCi.out
       show _≤_
       rw [List.length_append];omega
      have HEq:=hid (sum_equal HSm'.out HWT.out);obtain ⟨q3,qc3,rfl⟩:=HI6.out.en.sl;clear hy3 hk6 HI5 HY2 HLn HDl HM2 HCi HCl HSn;generalize es++enB d=fs at HSm' HI6 HLn6 HEq ⊢;generalize fs.length=m3 at HI6 ⊢;go_wp2_with fail;refine (show_goE HI6.out 0).mono ?_;rintro e w7 ⟨he,h7⟩;have he':e=.returned (.tuple #[.string ⟨(bagTxt (Mo.bagS T' q)).toArray⟩,.int .i64 0]):=he;subst he';have HI7:=hid h7;clear he h7 HI6;go_wp2_with fail;refine (entries_bag HWT.out HNe.out w7).mono ?_;rintro e w8 ⟨y4,rfl,hy4,hk8⟩;have HI8:=hid (HI7.out.stays hk8);have HY4:=hid hy4;obtain ⟨q4,qc4,rfl⟩:=hy4.sl;clear hy4 hk8 HI7;generalize hm4:(enB (Mo.bagS T' q)).length=m4 at HY4 ⊢;have HM4:=hid hm4;clear hm4;go_wp2_with fail;refine (equal_any _ _ fs (enB (Mo.bagS T' q)) w8 HI8.out.en HY4.out HEq.out.1 HEq.out.2).mono ?_;rintro e w9 ⟨rfl,hk9⟩;have HI9:=hid (HI8.out.stays hk9);have HY9:=hid (HY4.out.kept hk9)
      have hcapA:qc4≤9223372036854775807∧m4≤qc4:=by
       obtain ⟨a,cap,e,h1,h2,_⟩:=HY4.out
       injection e with e1 e2 e3
       have h3:=HM4.out;unfold maxLen at h2;omega
      have hcap4:=hcapA.1;have hcap5:=hcapA.2;clear hcapA hk9 HI8 HY4 HEq HWT;go_wp2_with fail
      go_loopg [28] m4 (fun k v28 wq=>∃ (j:Nat),j+k=m4∧v28=.int .i64 (j:Int)∧wq=w9)
      case atStart=>exact ⟨0,by omega,rfl,rfl⟩
      case round =>
       obtain ⟨j,hjk,rfl,rfl⟩:=hrel
       cases gk with
       | zero =>
         have hx2:¬(j:Int)<(m4:Int):=by omega
         go_wp2_with fail;go_roundg k
         case measure=>omega
         case rel=>exact ⟨i+1,T',fs,by omega,by go_num,HSm',HLn6,HR4,HI9⟩
       | succ k2 =>
         have hx2:(j:Int)<(m4:Int):=by omega
         have hx02:(0:Int)≤(j:Int):=by omega
         obtain ⟨⟨er,et⟩,hr⟩:∃ r,(enB (Mo.bagS T' q))[j]? =some r:=⟨_,List.getElem?_eq_getElem (by have:=HM4.out;omega)⟩
         obtain ⟨b4,o4,rfl,hbl4,c0,c1⟩:=HY9.out.get j _ hr
         have het:0≤et:=HNn.out _ (List.mem_of_getElem? hr)
         have het':¬et<0:=by omega
         clear hr c0 het;go_wp2_with fail;go_roundg k2
         case measure=>omega
         case rel=>exact ⟨j+1,by omega,by go_num,rfl⟩
 ·obtain ⟨e1,e2⟩:=view_no hc
  have e3:=view_no0 hc;obtain ⟨a1,t1,c1,st1,hv1⟩:∃ a1 t1 c1 st1,viewM st0 s=((a1,t1,c1),st1):=⟨_,_,_,_,rfl⟩;rw [hv1] at he h5 e1 hc e3;have e1':t1=[]:=e1;have e3':a1=0:=e3;subst e1' e3';have he':e=.returned (.tuple #[.int .i64 0,.string ⟨#[]⟩,.int .i64 c1]):=he;subst he';have H7:=hid (HK2.out.seq h5.kept);have hc0:¬c1=0:=hc
  have hc':(c1 != 0)=true:=by simpa using hc0
  clear he h5 hv1 H4 HV0 HS0 hc e1 e2 e3 HR0 H24;go_wp2_with fail;go_ret;exact ⟨rfl,H7.out⟩
open Go.ChangeShapes Go.WideShapes Go.ChangeAt Go.RowKit Go.Deep
theorem env_kept {W:World} (h:laidMetH Tryz.prog Rows.keptUptoRow.laid W):Env W:=by
 rw [MakeChecks.laidMetH_plain _ _ _ (by kernel_rfl)] at h
 obtain ⟨g,t,cs,fuel,p,hg,hty,hvar,hd⟩:=Lib.laidMet.reads h (n := "internal/strconv.uint64pow10") (d:=Rows.laid_internal_strconv_uint64pow10) (by simp [Rows.keptUptoRow])
 have hg0:Tryz.prog.globalNamed "internal/strconv.uint64pow10"=some 1:=by kernel_rfl
 obtain rfl:=Option.some.inj (hg0.symm.trans hg)
 have hty0:(Tryz.prog.globals[1]?).map (·.type)=some 352:=by kernel_rfl
 obtain rfl:=Option.some.inj (hty0.symm.trans hty)
 have ed:(Rows.laid_internal_strconv_uint64pow10:DataW Unit)=Lib.tabData .u64 Lib.pow10Tab:=by kernel_rfl
 rw [ed] at hd
 show Lib.TabIs _ _ _ _ _
 unfold Lib.TabIs
 rw [hvar,←Lib.cells_of_tab Tryz.underlying352 Tryz.underlying300 (by kernel_rfl) (by kernel_rfl) hd]
theorem kept_contract (H:Type) (enc:TypeId × Value→H) (W:World) (base:Nat) (args:Array Value) (ds gs:List (DataW H)) (before:List MemPlace)
 (hval:∀ (j:Nat) t v,Tryz.f4.params[j]? =some t→args[j]? =some v→Value.okWide Tryz.prog W .any base t v)
 (hW:DataW.Whole enc Tryz.prog Tryz.f4.params.toList Rows.keptSpec.vars false W args.toList ds gs before) (hL:laidMetH Tryz.prog Rows.keptUptoRow.laid W) (hk:Rows.uptoSmall H (ds++gs)=true) :
 Calls Tryz.prog 4 args W fun e W'=>∃ v,e=.returned v∧Rows.keptSpec.post enc Tryz.prog Tryz.f4 false true false false W args v W':=by
 have hW':=hW;obtain ⟨p,q,hA0,hV,rfl,hfz,hnd⟩:=hW
 have hA:DataW.TrodAll enc Tryz.prog W 0 (fun _=>true) true Tryz.f4.params.toList args.toList ds p:=hA0
 rw [Tryz.params4] at hA hval;obtain ⟨v0,v1,v2,v3,d0,d1,d2,d3,p0,p1,p2,p3,rfl,rfl,rfl,h0,h1,h2,h3⟩:=trodAll_four hA;obtain ⟨rfl,rfl⟩:=trodVars_none hV;obtain ⟨s0,rfl,rfl,rfl,_⟩:=Go.ChangeMaps.open_string Tryz.underlying9 (hval 0 9 v0 rfl rfl) h0;obtain ⟨s3,rfl,rfl,rfl,_⟩:=Go.ChangeMaps.open_string Tryz.underlying9 (hval 3 9 v3 rfl rfl) h3;have hb:Rows.uptoBulkAll _≤1048576:=of_decide_eq_true hk;simp only [List.cons_append,List.nil_append,Rows.uptoBulkAll,Rows.uptoBulk] at hb
 have hsz0:s0.size≤140737488355328:=by
  rw [ba_len] at hb;omega
 have k1:=h1
 have lt1:∀ x∈p1,x.block<W.heap.size:=by obtain ⟨m,hm⟩:=k1;exact DataW.trod_lt m _ _ _ hm
 obtain ⟨r1,hr1⟩:∃ rss,RawssAt W v1 rss:=by
  obtain ⟨a1,len1,cap1,rfl⟩:=okWide_slice Tryz.underlying25 (hval 1 25 v1 rfl rfl);obtain ⟨fuel,hf⟩:=h1
  exact rawss_of (by simpa [Value.cells] using hf)
 have k2:=h2
 have lt2:∀ x∈p2,x.block<W.heap.size:=by obtain ⟨m,hm⟩:=k2;exact DataW.trod_lt m _ _ _ hm
 obtain ⟨r2,hr2,hc2⟩:∃ rss,RawssAt W v2 rss∧3*costs rss≤10903552*Rows.uptoBulk d2:=by
  obtain ⟨a1,len1,cap1,rfl⟩:=okWide_slice Tryz.underlying25 (hval 2 25 v2 rfl rfl);obtain ⟨fuel,hf⟩:=h2
  exact rawss_cost (x:=(d2,p2)) (by simpa [Value.cells] using hf)
 have hco:costs r2≤4000000000000:=by omega
 clear hA0 hk hb hc2
 refine (kept_any s0 v1 r1 v2 r2 s3 W (env_kept hL) hsz0 hr1 hr2 hco).mono fun e W' ⟨he,hk⟩=> ?_
 subst he;have bel:=hk.toBelow
 exact ⟨_,rfl,_,_,_,[],_,[],hW',trodAll_mk1 (shut_bool Tryz.underlying4 _),(trodAll_mk4 (Below.trod Tryz.laidOut (by kernel_rfl) (of_decide_eq_true (by kernel_rfl)) h0 bel (fun x hx=>by cases hx)) (Below.trod Tryz.laidOut (by kernel_rfl) (of_decide_eq_true (by kernel_rfl)) k1 bel lt1) (Below.trod Tryz.laidOut (by kernel_rfl) (of_decide_eq_true (by kernel_rfl)) k2 bel lt2) (Below.trod Tryz.laidOut (by kernel_rfl) (of_decide_eq_true (by kernel_rfl)) h3 bel (fun x hx=>by cases hx))),rfl,bel.frame _,fun h=>by cases h⟩
theorem kept_assume (P:Program) (m:Machine):({}:Assume).holds P m:=by simp [Assume.holds]
theorem kept_reads (os:Os) {H:Type} (enc:TypeId × Value→H):∃ places,DataW.whole enc Tryz.prog ((World.laidAll Tryz.prog os Rows.keptUptoRow.laid).forCall (fun _ _=>0) ⟨#[],#[.string ⟨#[]⟩,.slice none 0 0,.slice none 0 0,.string ⟨#[]⟩],[]⟩).memory Tryz.f4.params.toList Rows.keptSpec.vars false #[Value.string ⟨#[]⟩,.slice none 0 0,.slice none 0 0,.string ⟨#[]⟩].toList 8=some ([.lit (.string []),.nil,.nil,.lit (.string [])],[],places) :=
 ⟨[],by kernel_rfl⟩
theorem kept_hok (os:Os):Input.okWideB Tryz.prog ((World.laidAll Tryz.prog os Rows.keptUptoRow.laid).forCall (fun _ _=>0) ⟨#[],#[.string ⟨#[]⟩,.slice none 0 0,.slice none 0 0,.string ⟨#[]⟩],[]⟩) 4 ⟨#[],#[.string ⟨#[]⟩,.slice none 0 0,.slice none 0 0,.string ⟨#[]⟩],[]⟩=true:=by kernel_rfl
theorem kept_lifted (os:Os) (started:os.Started) (H:Type) (enc:TypeId × Value→H) (F:Stop.Interp) :
 ReturnsInHanded {} Tryz.checked os 4 .any ((Rows.OpenSpec.upto Rows.keptSpec).preRow enc Tryz.prog Tryz.f4 Rows.keptUptoRow.domain false Rows.keptUptoRow.laid) (((Rows.OpenSpec.upto Rows.keptSpec).at F).post enc Tryz.prog Tryz.f4 false true false false):=by
 obtain ⟨places,hx⟩:=kept_reads os enc
 refine returnsInHanded_of_row (C:=Tryz.checked) (s:=Rows.OpenSpec.upto Rows.keptSpec) Tryz.own started (by kernel_rfl) Tryz.func4
  ⟨World.laidAll Tryz.prog os Rows.keptUptoRow.laid,fun _ _=>0,⟨#[],#[.string ⟨#[]⟩,.slice none 0 0,.slice none 0 0,.string ⟨#[]⟩],[]⟩,World.laidAll_os _ _ _,World.shaped_of_ZipB (by kernel_rfl) (by kernel_rfl),(Input.okWide_of_okWideB (base:=0) (kept_hok os)).1,(Input.okWide_of_okWideB (kept_hok os)).2,
   OpenSpec.preRow_of_cond 8 hx (by kernel_rfl) (fun k hk=>by cases hk;kernel_rfl) (by kernel_rfl) (by rw [MakeChecks.laidMetH_plain _ _ _ (by kernel_rfl)];exact laidMet_laidAll _ (by kernel_rfl) (by kernel_rfl)),
   kept_assume _ _⟩ ?_
 intro W base args ds gs before hval hW _ hcond _ hL _ _;exact kept_contract H enc W base args ds gs before hval hW hL (hcond _ rfl)
theorem kept_holds:Rows.KeptUptoSaid :=
 OpenClaim.holds_of_cond 4 Tryz.f4 rfl rfl rfl rfl rfl rfl rfl ⟨rfl,rfl,rfl,rfl,rfl⟩ rfl rfl rfl rfl rfl (by kernel_rfl) Tryz.func4 (by kernel_rfl)
  (of_decide_eq_true (by kernel_rfl)) (by unfold Func.isWrapper;first | (rw [if_pos (by decide +kernel)];kernel_rfl) | (rw [if_neg (by decide +kernel)];exact ⟨rfl,rfl⟩))
  (fun os started H enc _ F=>by rw [OpenClaim.pre_eq_preRow];exact kept_lifted os started H enc F)
theorem kept_card:Rows.KeptUptoCardSaid :=
 Claim7.holds_tied_plain_at .later [] [.data,.data,.data,.data,.sentinel,.sentinel,.pinned] true (true, "0d3c75a6b554341e587c90e6635eed0ee75e272e87a790cb3e947bc0305c5a0b") true
  kept_holds (fun _ h=>by cases h) (by kernel_rfl) (fun _ h=>by cases h) keptUpto_row_tie rfl ⟨rfl,rfl⟩ (by kernel_rfl) rfl
  (fun f fn hf hfn=>by
    obtain rfl:f=4:=Option.some.inj ((show Tryz.prog.funcNamed "ripple/ripplekeep.Kept"=some 4 by kernel_rfl).symm.trans hf) |>.symm
    obtain rfl:fn=Tryz.f4:=(Option.some.inj (Tryz.func4.symm.trans hfn)).symm
    exact ⟨by kernel_rfl,fun j t ht=>by
     rw [Tryz.params4] at ht
     have hm:t∈[9,25,25,9]:=by simpa using Array.mem_of_getElem? ht
     have hall:([9,25,25,9].all fun u=> !Tryz.prog.wantsStandIn u)=true:=by kernel_rfl
     exact (show Tryz.prog.wantsStandIn t=false by simpa using List.all_eq_true.1 hall t hm)⟩)
  (by kernel_rfl)
end Go.Proofs.YtdinjjmcmfjbfaaGreatDoor
