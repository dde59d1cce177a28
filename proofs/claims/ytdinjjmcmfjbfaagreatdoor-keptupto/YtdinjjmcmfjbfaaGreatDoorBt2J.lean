import Derived.Test.YtdinjjmcmfjbfaaGreatDoorTyJ
import Derived.Test.YtdinjjmcmfjbfaaGreatDoorLeJ
import Derived.Maps.AppendAt
import Derived.OwnWalk
set_option maxRecDepth 100000
set_option maxHeartbeats 4000000
namespace Go.Proofs.YtdinjjmcmfjbfaaGreatDoor
open Go.RowKit Go.Shelf
open Mo (V Row Bag Q Opd leaves tyO ty tyPick six)
def TTy (w:World) (ts:List (Nat × List UInt8)) (ft:List UInt8→Option (List Bool)):Prop:=∀ (i:Nat) (x:Nat × List UInt8),ts[i]? =some x→x.1<w.heap.size∧∃ us tv,ft x.2=some us∧w.cell? ⟨x.1,3,none⟩=some tv∧TyL w tv us
theorem TTy.kept {w w':World} {ts:List (Nat × List UInt8)} {ft:List UInt8→Option (List Bool)} (h:TTy w ts ft) (k:Kept No w w'):TTy w' ts ft:=fun i x hx=>by
 obtain ⟨h0,us,tv,h1,h2,h3⟩:=h i x hx
 exact ⟨Nat.lt_of_lt_of_le h0 k.size,us,tv,h1,(k.cell h0 (fun e=>e)).trans h2,h3.kept k⟩
theorem typesOf_leaf (P:Nat) (h:Hd) (hk:h.k=1) (lv iv v:Value) (ts:List (Nat × List UInt8)) (ft:List UInt8→Option (List Bool)) (w:World) (hP:w.heap[P]? =some (.cells (partC h lv iv) 139 (0,0))) (hN:TNames w v ts) (hT:TTy w ts ft) (hl:ts.length≤1000) (hf:0≤tfind ts h.nm) :
 Calls Tryz.prog 38 #[v,.pointer (some ⟨P,0,none⟩)] w (TypesEnd (ft h.nm) w):=by
 have k0:=(part_cells hP).1;rw [hk] at k0;have k1:=(part_cells hP).2.2.2.2.2.2.2;have HF:=hid (find_any v ts h.nm w hN hl)
 obtain ⟨i,hi⟩:∃ i:Nat,tfind ts h.nm=(i:Int):=⟨(tfind ts h.nm).toNat,by omega⟩
 rw [hi] at HF;obtain ⟨x,hx,hx2⟩:=tfind_get ts h.nm i hi;obtain ⟨h0,us,tv,t1,t2,t3⟩:=hT i x hx;rw [hx2] at t1;rw [t1];have hil:i<ts.length:=(List.getElem?_eq_some_iff.1 hx).1;obtain ⟨a,cap,rfl,hc1,hc2,hcells⟩:=hN;obtain ⟨b,o,rfl,hb1,hb2,hb3,hb4⟩:=hcells i _ hx
 have hc3:cap≤9223372036854775807:=by unfold maxLen at hc2;omega
 have hx0:(0:Int)≤(i:Int):=by omega
 have hx1:(i:Int)<(ts.length:Int):=by omega
 have HB3:=hid hb3;have HT2:=hid t2;have HT3:=hid t3;obtain ⟨tb,htb⟩:∃ tb,x.1=tb:=⟨_,rfl⟩;rw [htb] at HB3 HT2 h0 hb2;clear hP hf hi hcells hc2 hT t1 t2 t3 hx htb hb3 hb4
 go_enter Tryz.func38,Tryz.ntmps38
 go_wp2_with fail;refine HF.out.mono ?_;rintro e w1 ⟨rfl,hk1⟩
 have c1:w1.cell? ⟨b,o+i,none⟩=some (.pointer (some ⟨tb,0,none⟩)):=(hk1.cell hb1 (fun e=>e)).trans HB3.out
 have c2:w1.cell? ⟨tb,3,none⟩=some tv:=(hk1.cell h0 (fun e=>e)).trans HT2.out
 have HK:=hid hk1;clear hk1 k0 k1 HF;go_wp2_with fail;go_ret2;exact TypesEnd.of (b:=true) HK.out (HT3.out.kept HK.out)
theorem infoSVK:(Tryz.prog.info? 78).map (fun i=>(i.zero,i.size,i.bytes))=some (some (.slice none 0 0),1,24):=by kernel_rfl
theorem ret_tb {v:Value} {a b:Bool} (h:a=b):Ending.returned (.tuple #[v,.bool a])=.returned (.tuple #[v,.bool b]):=by rw [h]
def allS:List (Option (List Bool))→Option (List (List Bool))
 | []=>some []
 | none::_=>none
 | some u::l=>(allS l).map (u::·)
theorem allS_some:∀ (uss:List (List Bool)),allS (uss.map some)=some uss
 | []=>rfl
 | u::l=>by show (allS (l.map some)).map _=_;rw [allS_some l];rfl
theorem allS_none:∀ (rs:List (Option (List Bool))) (j:Nat),rs[j]? =some none→allS rs=none
 | [],j,h=>by simp at h
 | none::l,j,h=>rfl
 | some u::l,0,h=>by simp at h
 | some u::l,j+1,h=>by show (allS l).map _=_;rw [allS_none l j (by simpa using h)];rfl
def TyLs (w:World) (vs:List Value) (uss:List (List Bool)):Prop:=vs.length=uss.length∧∀ (j:Nat) (x:Value) (us:List Bool),vs[j]? =some x→uss[j]? =some us→TyL w x us
theorem TyLs.kept {w w':World} {vs:List Value} {uss:List (List Bool)} (h:TyLs w vs uss) (k:Kept No w w'):TyLs w' vs uss:=⟨h.1,fun j x us a b=>(h.2 j x us a b).kept k⟩
theorem TyLs.snoc {w:World} {vs:List Value} {uss:List (List Bool)} {x:Value} {us:List Bool} (h:TyLs w vs uss) (hx:TyL w x us):TyLs w (vs++[x]) (uss++[us]):=by
 refine ⟨by simp [h.1],fun j y u hy hu=> ?_⟩
 by_cases hj:j<vs.length
 ·rw [List.getElem?_append_left hj] at hy
  rw [List.getElem?_append_left (by rw [←h.1];exact hj)] at hu
  exact h.2 j y u hy hu
 ·rw [List.getElem?_append_right (by omega)] at hy
  rw [List.getElem?_append_right (by rw [←h.1];omega)] at hu
  have h0:j-vs.length=0:=by have:=(List.getElem?_eq_some_iff.1 hy).1;simp at this;omega
  rw [h0] at hy;rw [←h.1,h0] at hu
  have e1:x=y:=by simpa using hy
  have e2:us=u:=by simpa using hu
  subst e1 e2;exact hx
theorem typesOf_node (P:Nat) (h:Hd) (hk:h.k≠1) (lv iv v:Value) (ps:List Nat) (rs:List (Option (List Bool))) (T:List (List Bool)→Option (List Bool)) (w:World) (hP:w.heap[P]? =some (.cells (partC h lv iv) 139 (0,0))) (hI:InsAt w iv ps) (hlen:rs.length=ps.length) (hps:ps.length≤2) (hps1:1≤ps.length)
 (h1:∀ (j p:Nat) (r:Option (List Bool)),ps[j]? =some p→rs[j]? =some r→∀ w1,Kept No w w1→Calls Tryz.prog 38 #[v,pV p] w1 (TypesEnd r w1))
 (h2:∀ (uss:List (List Bool)) (w1:World) (b cap:Nat) (vs:List Value),rs=uss.map some→Kept No w w1→b<w1.heap.size→TyLs w1 vs uss→(∀ j x,vs[j]? =some x→w1.cell? ⟨b,j,none⟩=some x)→Calls Tryz.prog 63 #[.pointer (some ⟨P,0,none⟩),.slice (some ⟨b,0,none⟩) uss.length cap] w1 (TypesEnd (T uss) w1)) :
 Calls Tryz.prog 38 #[v,.pointer (some ⟨P,0,none⟩)] w (TypesEnd (((allS rs).bind T).bind six) w):=by
 have k0:=(part_cells hP).1
 have hk':((h.k:Int) == 1)=false:=by simp;omega
 have H1:=hid h1;have H2:=hid h2;have k1:=(part_cells hP).2.2.2.2.2.2.1;obtain ⟨gi,ci,csi,zi,rfl,hgi,hci⟩:=hI;obtain ⟨n,hnn⟩:∃ n,ps.length=n:=⟨_,rfl⟩;have HN:=hid hnn;rw [hnn] at k1 hps hps1 hlen;have HLen:=hid hlen;have HGI:=hid hgi;have HCI:=hid hci;have hgl:=lt_of_heap hgi;obtain ⟨iu,hiu,hu0,hu1,hu2⟩:=info_parts infoSVK;have HR:Hid (((allS rs).bind T).bind six=((allS rs).bind T).bind six):=rfl;generalize hres:((allS rs).bind T).bind six=res at HR ⊢;have HRes:=hid hres;clear hP hci hgi h1 h2 hnn hlen hres HR
 go_enter Tryz.func38,Tryz.ntmps38
 go_wp2_with fail
 go_loopg [6,35] n (fun k v6 v35 wr=>∃ (i:Nat) (uss:List (List Bool)) (vs:List Value),i+k=n∧v35=.int .i64 (i:Int)∧Hid (rs.take i=uss.map some)∧Hid (TyLs wr vs uss)∧Hid (vs.length=i)∧Hid (wr.ownsRow w.heap.size 78 1 v6 i vs)∧Hid (Kept No w wr))
 case atStart=>exact ⟨0,[],[],by omega,rfl,hid rfl,hid ⟨rfl,fun j x us hx=>by simp at hx⟩,hid rfl,hid (World.ownsRow_nil _ _ _ _),hid (Kept.refl _ _)⟩
 case round =>
  obtain ⟨i,uss,vs,hik,rfl,hR,hTs,hVl,hO,hK⟩:=hrel
  cases gk with
  | zero =>
    have hx:¬(i:Int)<(n:Int):=by omega
    obtain ⟨g,cap,hv6,hg,hcs⟩:∃ g cap,u6=.slice (some ⟨g,0,none⟩) n cap∧g<wr.heap.size∧∀ j x,vs[j]? =some x→wr.cell? ⟨g,j,none⟩=some x:=by
     have hin:i=n:=by omega
     rcases hO.out.2 with ⟨_,h0⟩ | ⟨g,cap,cur,e,_,hg,hc1,hc2,hc3,hc4⟩
     ·omega
     ·refine ⟨g,cap,by rw [e,hin],lt_of_heap hg,fun j x hx=> ?_⟩
      rw [←hc4,List.getElem?_take] at hx;rw [cell_of hg]
      split at hx
      ·simpa using hx
      ·cases hx
    subst hv6
    have hrs:rs=uss.map some:=by
     have h3:=hR.out
     rw [List.take_of_length_le (by have:=HLen.out;omega)] at h3
     exact h3
    have hul:uss.length=n:=by have h3:=congrArg List.length hrs;rw [List.length_map,HLen.out] at h3;exact h3.symm
    have HC:=hid (H2.out uss wr g cap vs hrs hK.out hg hTs.out hcs);rw [hul] at HC
    have HE:Hid (((allS rs).bind T).bind six=(T uss).bind six):=by show _=_;rw [hrs,allS_some];rfl
    clear hrs hul hg hcs H1 H2;go_wp2_with fail;refine HC.out.mono ?_
    rintro e w2 ⟨hk2,⟨ts,v2,hts,rfl,ht2⟩ | ⟨hts,v2,rfl⟩⟩
    ·have HT2:=hid ht2
     obtain ⟨b2,o2,cap2,rfl,hb2,hl2,hm2,_⟩:=ht2;have HK2:=hid (hK.out.seq hk2);have HTs:=hid hts;obtain ⟨m,hm⟩:∃ m,ts.length=m:=⟨_,rfl⟩;have HM:=hid hm;rw [hm] at hl2 HT2 ⊢
     have hcap2:cap2≤9223372036854775807:=by unfold maxLen at hm2;omega
     clear hk2 hts hm hm2 HC
     by_cases hm6:m≤6
     ·have hm7:(m:Int)≤6:=by omega
      go_wp2_with fail;go_ret2;refine ⟨HK2.out,.inl ⟨ts,_,?_,rfl,HT2.out⟩⟩;rw [←HRes.out,HE.out,HTs.out]
      show six ts=some ts
      unfold six
      rw [if_pos (by rw [HM.out];exact hm6)]
     ·have hm7:¬(m:Int)≤6:=by omega
      go_wp2_with fail;go_ret2
      refine ⟨HK2.out,.inr ⟨?_,_,ret_tb (decide_eq_false (by omega))⟩⟩
      rw [←HRes.out,HE.out,HTs.out]
      show six ts=none
      unfold six
      rw [if_neg (by rw [HM.out];exact hm6)]
    ·have HK2:=hid (hK.out.seq hk2)
     have HTs:=hid hts;clear hk2 hts HC;go_wp2_with fail;go_ret2;refine ⟨HK2.out,.inr ⟨?_,_,rfl⟩⟩;rw [←HRes.out,HE.out,HTs.out];rfl
  | succ k =>
    have hx:(i:Int)<(n:Int):=by omega
    have hx0:(0:Int)≤(i:Int):=by omega
    obtain ⟨p,hp⟩:∃ p,ps[i]? =some p:=⟨_,List.getElem?_eq_getElem (by have:=HN.out;omega)⟩
    obtain ⟨r,hr⟩:∃ r,rs[i]? =some r:=⟨_,List.getElem?_eq_getElem (by have:=HLen.out;omega)⟩
    have c1:wr.cell? ⟨gi,i,none⟩=some (.pointer (some ⟨p,0,none⟩)):=by
     rw [hK.out.cell hgl (fun e=>e),cell_of HGI.out];exact HCI.out i p hp
    have HC:=hid (H1.out i p r hp hr wr hK.out);have HRR:=hid hr;clear hp hr;go_wp2_with fail;refine Calls.mono HC.out ?_
    rintro e w1 ⟨hk1,⟨us,v1,rfl,rfl,ht⟩ | ⟨rfl,v1,rfl⟩⟩
    ·have HK1:=hid (hK.out.seq hk1)
     have HT:=hid ht;obtain ⟨b1,o1,cap1,rfl,-,-,-,-⟩:=ht;obtain ⟨m1,hm1⟩:∃ m1,us.length=m1:=⟨_,rfl⟩;rw [hm1] at HT ⊢;have hsz:=HK1.out.size
     have hown:w1.ownsRow w.heap.size 78 1 u6 i vs:=ownsRow_kept hO.out hk1 (fun _ _ e=>e)
     have HTs1:=hid (hTs.out.kept hk1);clear hk1 HC c1 hm1
     go_wp2_with (first
      | (at_builtin;refine wpList_append_own_at _ rfl _ _ 140 rfl w.heap.size 78 iu (.slice none 0 0) 1 24 Tryz.underlying140 hiu hu0 hu1 hu2 rfl (by decide) _ _ _ rfl (hown.alloc _) ⟨w1.heap.size,0,none⟩ 1 1 [.slice (some ⟨b1,o1,none⟩) m1 cap1] rfl rfl (World.news_of_block (cs:=#[.slice (some ⟨b1,o1,none⟩) m1 cap1]) (t:=78) (fr:=(0,0)) (heap_alloc_last w1 _)) (by intro u hu;simp at hu;subst hu;rfl) (by unfold maxLen;omega) (by omega) (by simp;omega) ?_;intro v' w5 hown5 hg5 _ _)
      | fail)
     go_roundg k
     case measure=>omega
     case rel =>
      have hg:(w1.alloc (.cells #[.slice (some ⟨b1,o1,none⟩) m1 cap1] 78)).grownBy w5 u6.ownBlock:=hg5
      have hK5:Kept No w w5:=(HK1.out.alloc _).grown hg (fun x hx=>.inl (own_base hown x hx))
      have hst:∀ b,Is 130 w1 b→w5.heap[b]? =w1.heap[b]? :=fun b hb=>by
       rw [hg.block b (by simp;have:=hb.lt;omega) (fun e=> ?_),Below.heap_alloc _ _ _ hb.lt]
       obtain ⟨c,z,hc⟩:=own_is hown b e.symm
       exact absurd (hb.ne hc) (by decide)
      refine ⟨i+1,uss++[us],vs++[.slice (some ⟨b1,o1,none⟩) m1 cap1],by omega,by go_num,?_,?_,?_,hid hown5,hid hK5⟩
      ·show _=_;rw [List.take_add_one,HRR.out,hR.out];simp
      ·have:=HTs1.out.snoc HT.out
       exact ⟨this.1,fun j x u hx hu=>(this.2 j x u hx hu).stays fun b _ hb=>hst b hb⟩
      ·show _=_;rw [List.length_append,hVl.out];rfl
    ·have HK1:=hid (hK.out.seq hk1)
     have HE:Hid (res=none):=by show _=_;rw [←HRes.out,allS_none rs i HRR.out];rfl
     clear hk1 HC c1;go_wp2_with fail;go_ret2;exact ⟨HK1.out,.inr ⟨HE.out,_,rfl⟩⟩
open Mo (V Row Bag Q Opd leaves tyO ty tyPick tyQ wf six)
theorem two_of {α:Type}:∀ {l:List α},l.length=2→∃ a b,l=[a,b]
 | [a,b],_=>⟨a,b,rfl⟩
 | [],h=>by cases h
 | [_],h=>by cases h
 | _::_::_::_,h=>by simp at h
theorem nd_ok {w:World} {X:Nat→Prop} {p:Nat} {h:Hd} {cs ps:List Nat} (hn:NdAt w X p h cs ps):HdOk h:=by
 obtain ⟨_,_,_,_,_,_,_,_,h7⟩:=hn;exact h7
theorem six_of {us:List Bool} (h:us.length≤6):six us=some us:=if_pos h
theorem sel_tyq {c:Nat} {x:Opd} {us:List Bool} (h:us.length≤6):(optT (cmpT (tyO us (.col c)) (tyO us x)) us).bind six=Mo.tySel c x us:=by
 unfold Mo.tySel
 show (optT (cmpT us[c]? (tyO us x)) us).bind six=_
 cases us[c]? with
 | none=>rfl
 | some a =>
   cases tyO us x with
   | none=>simp [cmpT,optT]
   | some b =>
     by_cases e:a=b
     ·subst e;simp [cmpT,optT,six_of h]
     ·have:¬b=a:=fun e'=>e e'.symm
      simp [cmpT,optT,e,this]
theorem pick_tyq {cs:List Nat} {us:List Bool} (h:cs.length≤6):(optT (allIn us cs) (pickT us cs)).bind six=tyPick cs us:=by
 unfold tyPick
 show (if allIn us cs=true then some (pickT us cs) else none).bind six=if allIn us cs=true then some (pickT us cs) else none
 cases allIn us cs
 ·rfl
 ·show six (pickT us cs)=_;rw [six_of (by rw [pickT_len];exact h)];rfl
theorem join_tyq {n m:Nat} {us vs:List Bool}:(optT (cmpT (tyO us (.col n)) (tyO vs (.col m))) (us++vs)).bind six=Mo.tyJoin n m us vs:=by
 unfold Mo.tyJoin
 show (optT (cmpT us[n]? vs[m]?) (us++vs)).bind six=_
 cases us[n]? with
 | none=>rfl
 | some a =>
   cases vs[m]? with
   | none=>simp [cmpT,optT]
   | some b =>
     by_cases e:a=b
     ·subst e;simp [cmpT,optT]
     ·have:¬b=a:=fun e'=>e e'.symm
      simp [cmpT,optT,e,this]
theorem grp_tyq {cs:List Nat} {x:Opd} {us:List Bool} (hx:x=.val (.num 1)∨∃ m,x=.col m):(optT (grpT us cs x) (pickT us cs++[false])).bind six=Mo.tyGrp cs (wS x) us:=by
 unfold Mo.tyGrp tyPick grpT
 show (optT (allIn us cs && decide (tyO us x=some false)) (pickT us cs++[false])).bind six=match (if allIn us cs=true then some (pickT us cs) else none) with
  | none=>none
  | some ks=>match wS x with
    | none=>six (ks++[false])
    | some m=>if us[m]? =some false then six (ks++[false]) else none
 cases allIn us cs
 ·rfl
 ·rcases hx with rfl | ⟨m,rfl⟩
  ·rfl
  ·by_cases e:us[m]? =some false
   ·have e':tyO us (.col m)=some false:=e
    simp [wS,e,e',optT]
   ·have e':¬tyO us (.col m)=some false:=e
    simp [wS,e,e',optT]
theorem leaf_have {ts:List (Nat × List UInt8)} {q r:Q} (h:leaves q=leaves r):haveQ ts q=haveQ ts r:=by unfold haveQ;rw [h]
section
variable {w0:World} {X:Nat→Prop} {v:Value} {ts:List (Nat × List UInt8)} {ft:List UInt8→Option (List Bool)}
def TOf (w0:World) (X:Nat→Prop) (v:Value) (ts:List (Nat × List UInt8)) (ft:List UInt8→Option (List Bool)) (p:Nat) (q:Q):Prop:=wf q→haveQ ts q=true→∀ w,(∀ k,X k→k<w.heap.size∧w.heap[k]? =w0.heap[k]?)→TNames w v ts→TTy w ts ft→Calls Tryz.prog 38 #[v,pV p] w (TypesEnd (tyQ ft q) w)
theorem ag_kept {w w1:World} (ha:∀ k,X k→k<w.heap.size∧w.heap[k]? =w0.heap[k]?) (hk:Kept No w w1):∀ k,X k→k<w1.heap.size∧w1.heap[k]? =w0.heap[k]? :=fun k hx=>⟨Nat.lt_of_lt_of_le (ha k hx).1 hk.size,(hk.block k (ha k hx).1 (fun e=>e)).trans (ha k hx).2⟩
theorem tof_one {p p1:Nat} {h:Hd} {cs:List Nat} {q Q1:Q} (hk1:h.k≠1) (T:List Bool→Option (List Bool)) (hn:NdAt w0 X p h cs [p1]) (hw:wf q) (hq:haveQ ts q=true) (ih:TOf w0 X v ts ft p1 q) (hT:((tyQ ft q).bind T).bind six=tyQ ft Q1) (w:World) (ha:∀ k,X k→k<w.heap.size∧w.heap[k]? =w0.heap[k]?) (hN:TNames w v ts) (hY:TTy w ts ft)
 (h2:∀ (us:List Bool) (w1:World) (lv iv:Value) (b cap:Nat) (v1:Value),tyQ ft q=some us→b<w1.heap.size→w1.heap[p]? =some (.cells (partC h lv iv) 139 (0,0))→IntsAt w1 lv cs→w1.cell? ⟨b,0,none⟩=some v1→TyL w1 v1 us→Calls Tryz.prog 63 #[.pointer (some ⟨p,0,none⟩),.slice (some ⟨b,0,none⟩) 1 cap] w1 (TypesEnd (T us) w1)) :
 Calls Tryz.prog 38 #[v,pV p] w (TypesEnd (tyQ ft Q1) w):=by
 obtain ⟨g1,lv,iv,g2,g3,g4,g5,g6,g7⟩:=hn.mono (w':=w) (fun k hk=>(ha k hk).2) (fun _ e=>e)
 have:=typesOf_node p h hk1 lv iv v [p1] [tyQ ft q] (fun uss=>match uss with | [us]=>T us | _=>none) w g2 (ins_at g4 (by simp)) rfl (by simp) (by simp)
  (fun j p' r hp hr w1 hk=>by
    have hj:j=0:=by have:=(List.getElem?_eq_some_iff.1 hp).1;simp at this;exact this
    subst hj
    have e1:p1=p':=by simpa using hp
    have e2:tyQ ft q=r:=by simpa using hr
    subst e1 e2
    exact ih hw hq w1 (ag_kept ha hk) (hN.kept hk) (hY.kept hk))
  (fun uss w1 b cap vs hu hk hb hTs hc=>by
    have hl:uss.length=1:=by have:=congrArg List.length hu;simpa using this.symm
    obtain ⟨us,rfl⟩:=List.length_eq_one_iff.1 hl
    have hus:tyQ ft q=some us:=by simpa using hu
    obtain ⟨x,rfl⟩:=List.length_eq_one_iff.1 (hTs.1.trans hl)
    exact h2 us w1 lv iv b cap x hus hb (part_kept hk g2) ((ints_at g3).kept hk (fun _ _ e=>e)) (hc 0 x rfl) (hTs.2 0 x us rfl rfl))
 have e:((allS [tyQ ft q]).bind (fun uss=>match uss with | [us]=>T us | _=>none)).bind six=tyQ ft Q1:=by
  rw [←hT]
  cases tyQ ft q with
  | none=>rfl
  | some us=>rfl
 rw [e] at this;exact this
theorem tof_two {p p1 p2:Nat} {h:Hd} {cs:List Nat} {q r Q1:Q} (hk1:h.k≠1) (T:List Bool→List Bool→Option (List Bool)) (hn:NdAt w0 X p h cs [p1,p2]) (hw:wf q) (hw2:wf r) (hq:haveQ ts q=true) (hr:haveQ ts r=true) (ih1:TOf w0 X v ts ft p1 q) (ih2:TOf w0 X v ts ft p2 r) (hT:((tyQ ft q).bind fun us=>(tyQ ft r).bind fun vs=>(T us vs).bind six)=tyQ ft Q1) (w:World) (ha:∀ k,X k→k<w.heap.size∧w.heap[k]? =w0.heap[k]?) (hN:TNames w v ts) (hY:TTy w ts ft)
 (h2:∀ (us vs:List Bool) (w1:World) (lv iv:Value) (b cap:Nat) (v1 v2:Value),tyQ ft q=some us→tyQ ft r=some vs→b<w1.heap.size→w1.heap[p]? =some (.cells (partC h lv iv) 139 (0,0))→w1.cell? ⟨b,0,none⟩=some v1→w1.cell? ⟨b,0+1,none⟩=some v2→TyL w1 v1 us→TyL w1 v2 vs→Calls Tryz.prog 63 #[.pointer (some ⟨p,0,none⟩),.slice (some ⟨b,0,none⟩) 2 cap] w1 (TypesEnd (T us vs) w1)) :
 Calls Tryz.prog 38 #[v,pV p] w (TypesEnd (tyQ ft Q1) w):=by
 obtain ⟨g1,lv,iv,g2,g3,g4,g5,g6,g7⟩:=hn.mono (w':=w) (fun k hk=>(ha k hk).2) (fun _ e=>e)
 have:=typesOf_node p h hk1 lv iv v [p1,p2] [tyQ ft q,tyQ ft r] (fun uss=>match uss with | [us,vs]=>T us vs | _=>none) w g2 (ins_at g4 (by simp)) rfl (by simp) (by simp)
  (fun j p' x hp hx w1 hk=>by
    have hj:j<2:=by have:=(List.getElem?_eq_some_iff.1 hp).1;simpa using this
    match j,hj with
    | 0,_ =>
      have e1:p1=p':=by simpa using hp
      have e2:tyQ ft q=x:=by simpa using hx
      subst e1 e2;exact ih1 hw hq w1 (ag_kept ha hk) (hN.kept hk) (hY.kept hk)
    | 1,_ =>
      have e1:p2=p':=by simpa using hp
      have e2:tyQ ft r=x:=by simpa using hx
      subst e1 e2
      exact ih2 hw2 hr w1 (ag_kept ha hk) (hN.kept hk) (hY.kept hk))
  (fun uss w1 b cap vs hu hk hb hTs hc=>by
    have hl:uss.length=2:=by have:=congrArg List.length hu;simpa using this.symm
    obtain ⟨us,us2,rfl⟩:=two_of hl
    have hus:tyQ ft q=some us∧tyQ ft r=some us2:=by simpa using hu
    obtain ⟨x,y,rfl⟩:=two_of (hTs.1.trans hl)
    exact h2 us us2 w1 lv iv b cap x y hus.1 hus.2 hb (part_kept hk g2) (hc 0 x rfl) (hc 1 y rfl) (hTs.2 0 x us rfl rfl) (hTs.2 1 y us2 rfl rfl))
 have e:((allS [tyQ ft q,tyQ ft r]).bind (fun uss=>match uss with | [us,vs]=>T us vs | _=>none)).bind six=tyQ ft Q1:=by
  rw [←hT]
  cases tyQ ft q with
  | none=>rfl
  | some us =>
    cases tyQ ft r with
    | none=>rfl
    | some vs=>rfl
 rw [e] at this;exact this
theorem typesOf_any (hf:∀ nm us,ft nm=some us→1≤us.length∧us.length≤6) (hl:ts.length≤1000) {p:Nat} {q:Q} (h:Tr w0 X p q):TOf w0 X v ts ft p q:=by
 induction h with
 | @zero p h cs e hn =>
   intro _ hq w ha hN hY
   obtain ⟨g1,lv,iv,g2,_⟩:=hn.mono (w':=w) (fun k hk=>(ha k hk).2) (fun _ e=>e)
   have e2:haveQ ts (mkQ h cs [])=decide (0≤tfind ts h.nm):=by simp [haveQ,mkQ,leaves]
   rw [e2] at hq
   exact typesOf_leaf p h e lv iv v ts ft w g2 hN hY hl (by simpa using hq)
 | @one p p1 h cs q hi hn _ ih =>
   intro hw hq w ha hN hY
   have hk1:h.k≠1:=fun e=>by rw [e] at hi;exact absurd hi (by decide)
   have hq':haveQ ts q=true:=by rw [←hq];exact leaf_have (leaves_one h cs q).symm
   have h7:HdOk h:=nd_ok hn
   rcases ins_one hi h7.2.2.2 with hk | hk | hk | hk
   ·have e:mkQ h cs [q]=.sel (colI h.l) (cmpO h.cmp) h.r q:=by show (if h.k=2 then _ else _)=_;rw [if_pos hk]
    rw [e] at hw ⊢;obtain ⟨c,hc⟩:=h7.1 hk
    have hcol:colI h.l=c:=by rw [hc];rfl
    rw [hcol] at hw ⊢
    refine tof_one hk1 (fun us=>optT (cmpT (tyO us h.l) (tyO us h.r)) us) hn hw.2.2 hq' ih ?_ w ha hN hY fun us w1 lv iv b cap v1 hu hb hP hI hc1 ht=>types_sel p h hk lv iv b 0 cap v1 us w1 hP (fun c' e=> ?_) (fun c' e=> ?_) hb hc1 ht
    ·show ((tyQ ft q).bind _).bind six=(tyQ ft q).bind (Mo.tySel c h.r)
     cases hu:tyQ ft q with
     | none=>rfl
     | some us=>show (optT (cmpT (tyO us h.l) (tyO us h.r)) us).bind six=_;rw [hc];exact sel_tyq (Mo.tyQ_len hf q us hw.2.2 hu).2
    ·rw [hc] at e;injection e with e;subst e;exact hw.1
    ·have:=hw.2.1;rw [e] at this;exact this
   ·have e:mkQ h cs [q]=.pick cs q:=by show (if h.k=2 then _ else if h.k=3 then _ else _)=_;rw [if_neg (by omega),if_pos hk]
    rw [e] at hw ⊢
    refine tof_one hk1 (fun us=>optT (allIn us cs) (pickT us cs)) hn hw.2.2.2 hq' ih ?_ w ha hN hY fun us w1 lv iv b cap v1 hu hb hP hI hc1 ht=>types_pick p h hk lv iv b 0 cap v1 us cs w1 hP hI hw.2.1 hw.1 hw.2.2.1 hc1 ht
    show ((tyQ ft q).bind _).bind six=(tyQ ft q).bind (tyPick cs)
    cases hu:tyQ ft q with
    | none=>rfl
    | some us=>exact pick_tyq hw.2.1
   ·have e:mkQ h cs [q]=.dist q:=by show (if h.k=2 then _ else if h.k=3 then _ else if h.k=6 then _ else _)=_;rw [if_neg (by omega),if_neg (by omega),if_pos hk]
    rw [e] at hw ⊢
    refine tof_one hk1 (fun us=>optT true us) hn hw hq' ih ?_ w ha hN hY fun us w1 lv iv b cap v1 hu hb hP hI hc1 ht=>types_dist p h hk lv iv b 0 cap v1 us w1 hP hc1 ht
    show ((tyQ ft q).bind _).bind six=tyQ ft q
    cases hu:tyQ ft q with
    | none=>rfl
    | some us=>exact six_of (Mo.tyQ_len hf q us hw hu).2
   ·have e:mkQ h cs [q]=.grp cs (wS h.w) q:=by show (if h.k=2 then _ else if h.k=3 then _ else if h.k=6 then _ else _)=_;rw [if_neg (by omega),if_neg (by omega),if_neg (by omega)]
    rw [e] at hw ⊢;have hx:=h7.2.2.1 hk
    refine tof_one hk1 (fun us=>optT (grpT us cs h.w) (pickT us cs++[false])) hn hw.2.2.2 hq' ih ?_ w ha hN hY fun us w1 lv iv b cap v1 hu hb hP hI hc1 ht=>types_grp p h hk lv iv b 0 cap v1 us cs w1 hP hI hw.1 hw.2.1 (fun c' e=>hw.2.2.1 c' (by rw [e];rfl)) hb hc1 ht
    show ((tyQ ft q).bind _).bind six=(tyQ ft q).bind (Mo.tyGrp cs (wS h.w))
    cases hu:tyQ ft q with
    | none=>rfl
    | some us=>exact grp_tyq hx
 | @two p p1 p2 h cs q r hi hn _ _ ih1 ih2 =>
   intro hw hq w ha hN hY
   have hk1:h.k≠1:=fun e=>by rw [e] at hi;exact absurd hi (by decide)
   have h7:HdOk h:=nd_ok hn
   have hqr:haveQ ts q=true∧haveQ ts r=true:=by
    have:haveQ ts (mkQ h cs [q,r])=(haveQ ts q && haveQ ts r):=by unfold haveQ;rw [leaves_two,List.all_append]
    rw [this] at hq;simpa using hq
   rcases ins_two hi with hk | hk
   ·have e:mkQ h cs [q,r]=.join (colI h.l) (colI h.r) q r:=by show (if h.k=4 then _ else _)=_;rw [if_pos hk]
    rw [e] at hw ⊢;obtain ⟨⟨c,hc⟩,⟨d,hd⟩⟩:=h7.2.1 hk
    have hcol:colI h.l=c:=by rw [hc];rfl
    have hcol2:colI h.r=d:=by rw [hd];rfl
    rw [hcol,hcol2] at hw ⊢
    refine tof_two hk1 (fun us vs=>optT (cmpT (tyO us h.l) (tyO vs h.r)) (us++vs)) hn hw.2.2.1 hw.2.2.2 hqr.1 hqr.2 ih1 ih2 ?_ w ha hN hY fun us vs w1 lv iv b cap v1 v2 hu hv hb hP hc1 hc2 ht1 ht2=>types_join p h hk lv iv b 0 cap v1 v2 us vs w1 hP (fun c' e=> ?_) (fun c' e=> ?_) hb hc1 hc2 ht1 ht2 (Mo.tyQ_len hf q us hw.2.2.1 hu).1 (Mo.tyQ_len hf q us hw.2.2.1 hu).2 (Mo.tyQ_len hf r vs hw.2.2.2 hv).2
    ·show ((tyQ ft q).bind fun us=>(tyQ ft r).bind fun vs=>_)=(tyQ ft q).bind fun us=>(tyQ ft r).bind fun vs=>Mo.tyJoin c d us vs
     congr 1;funext us;congr 1;funext vs
     rw [hc,hd];exact join_tyq
    ·rw [hc] at e;injection e with e;subst e;exact hw.1
    ·rw [hd] at e;injection e with e;subst e;exact hw.2.1
   ·have e:mkQ h cs [q,r]=.uni q r:=by show (if h.k=4 then _ else _)=_;rw [if_neg (by omega)]
    rw [e] at hw ⊢
    refine tof_two hk1 (fun us vs=>optT (decide (us=vs)) us) hn hw.1 hw.2 hqr.1 hqr.2 ih1 ih2 ?_ w ha hN hY fun us vs w1 lv iv b cap v1 v2 hu hv hb hP hc1 hc2 ht1 ht2=>types_uni p h hk lv iv b 0 cap v1 v2 us vs w1 hP hb hc1 hc2 ht1 ht2
    show _=(tyQ ft q).bind fun us=>(tyQ ft r).bind fun vs=>if us=vs then some us else none
    cases hu:tyQ ft q with
    | none=>rfl
    | some us =>
      cases tyQ ft r with
      | none=>rfl
      | some vs =>
        show (optT (decide (us=vs)) us).bind six=if us=vs then some us else none
        by_cases e:us=vs
        ·simp [optT,e,six_of (e ▸ (Mo.tyQ_len hf q us hw.1 hu).2)]
        ·simp [optT,e]
end
open Go.RowKit
open Mo (V Row)
structure Ord where
 name:List UInt8
 row:Row
 t:Int
def valP (s:ByteArray) (a:Nat):Bool × Nat:=Pl.orP (Pl.let4 s) (Pl.numP s) a
def valV (s:ByteArray) (a:Nat):V:=if (Pl.let4 s a).1=true then .txt (sub s a (Pl.let4 s a).2) else .num (numOf (sub s a (Pl.numP s a).2))
def rowsP (s:ByteArray):Nat→Nat→Row→Option (Row × Nat)
 | 0,_,_=>none
 | k+1,a,r=>if (valP s a).1=true then
    (if Pl.bt s (valP s a).2=44 then rowsP s k ((valP s a).2+1) (r++[valV s a])
     else if Pl.bt s (valP s a).2=41 then some (r++[valV s a],(valP s a).2+1) else none)
   else none
def signT (s:ByteArray) (a:Nat):Int:=if Pl.bt s a=43 then 1 else -1
def ordersP (s:ByteArray):Nat→Nat→List Ord→Option (List Ord)
 | 0,_,_=>none
 | k+1,a,l=>if Pl.bt s a=43∨Pl.bt s a=45 then
    (if (Pl.let4 s (a+1)).1=true then
      (if Pl.bt s (Pl.let4 s (a+1)).2=40 then
        (match rowsP s (s.size+1) ((Pl.let4 s (a+1)).2+1) [] with
         | none=>none
         | some (r,d)=>if d=s.size then some (l++[⟨sub s (a+1) (Pl.let4 s (a+1)).2,r,signT s a⟩])
           else if Pl.bt s d=59 then ordersP s k (d+1) (l++[⟨sub s (a+1) (Pl.let4 s (a+1)).2,r,signT s a⟩]) else none)
       else none)
     else none)
   else none
def batchP (s:ByteArray):Option (List Ord):=if s.size=0 then some [] else ordersP s (s.size+1) 0 []
theorem let4_no {s:ByteArray} {a:Nat} (h:¬(Pl.let4 s a).1=true):(Pl.let4 s a).2=a:=by
 unfold Pl.let4 Pl.sev at h ⊢;have h3:=Pl.many_le s 97 122 4 a
 have h4:¬a<Pl.many s 97 122 4 a:=by simpa using h
 show Pl.many s 97 122 4 a=a;omega
def ValEnd (B P:Nat) (s:ByteArray) (w:World) (a:Nat) (e:Ending) (w':World):Prop :=
 ∃ ok a' d,valP s a=(ok,a')∧e=.returned (.bool ok)∧RP B s a' w'∧Kept (fun k=>k=B∨k=P) w w'∧w'.heap[P]? =some (.cells d 133 (0,0))∧(ok=true→d=(encV (valV s a)).toArray)
theorem set6_enc (c:Array Value) (v:V) (hc:c.size=6):set6 c 0 v=(encV v).toArray:=by
 obtain ⟨l⟩:=c
 match l,hc with
 | [a0,a1,a2,a3,a4,a5],_=>rfl
theorem value_any (B P:Nat) (s:ByteArray) (a:Nat) (c:Array Value) (w:World) (hs:s.size≤1000) (hne:P≠B) (h:RP B s a w) (hP:w.heap[P]? =some (.cells c 133 (0,0))) (hc:c.size=6) :
 Calls Tryz.prog 77 #[.pointer (some ⟨B,0,none⟩),.pointer (some ⟨P,0,none⟩)] w (ValEnd B P s w a):=by
 have HH:=hid h;have HP:=hid hP;have HC:=hid hc;clear h hP
 go_enter Tryz.func77,Tryz.ntmps77
 go_wp2_with fail
 refine (textValue_any B P 0 s a c 133 _ hs hne HH.out HP.out (by omega)).mono ?_
 rintro e w1 ⟨ok1,a1,x1,rfl,p1,k1,c1⟩;have X1:=hid x1;have P1:=hid p1;have K1:=hid k1;have C1:=hid c1;clear x1 p1 k1 c1
 cases ok1
 ·have ha1:a1=a:=by have:=let4_no (s:=s) (a:=a) (by rw [X1.out];simp);rw [X1.out] at this;exact this
  subst ha1;go_wp2_with fail
  refine (numberValue_any B P 0 s a1 _ 133 _ hs hne P1.out C1.out (by unfold tvC;rw [if_neg (by simp),set6_size];have:=HC.out;omega)).mono ?_
  rintro e w2 ⟨ok2,a2,x2,rfl,p2,k2,c2⟩;have X2:=hid x2;have P2:=hid p2;have K2:=hid k2;have C2:=hid c2;clear x2 p2 k2 c2;go_wp2_with fail;go_ret
  refine ⟨ok2,a2,_,?_,rfl,P2.out,K1.out.seq K2.out,C2.out,fun hk=> ?_⟩
  ·unfold valP;rw [Pl.orP_false X1.out];exact X2.out
  ·subst hk
   unfold nvC tvC valV;rw [X1.out,X2.out];simp only [if_true,Bool.false_eq_true,if_false]
   exact set6_enc _ _ (by rw [set6_size];exact HC.out)
 ·go_wp2_with fail
  go_ret
  refine ⟨true,a1,_,?_,rfl,P1.out,K1.out,C1.out,fun _=> ?_⟩
  ·unfold valP;rw [Pl.orP_true X1.out]
  ·unfold tvC valV
   rw [X1.out];simp only [if_true];exact set6_enc _ _ HC.out
theorem sign_any (B P o:Nat) (s:ByteArray) (a:Nat) (c:Array Value) (t:TypeId) (w:World) (hs:s.size≤1000) (hne:P≠B) (h:RP B s a w) (hP:w.heap[P]? =some (.cells c t (0,0))) (hoff:o<c.size) :
 Calls Tryz.prog 74 #[.pointer (some ⟨B,0,none⟩),.pointer (some ⟨P,o,none⟩)] w (WP B P s w (Pl.orP (Pl.tk s 43) (Pl.tk s 45) a) t (fun _ _=>c.setIfInBounds o (.int .i64 (signT s a)))):=by
 have HH:=hid h;have HP:=hid hP;have hPl:=lt_of_heap hP;clear h hP
 go_enter Tryz.func74,Tryz.ntmps74
 go_wp2_with fail
 refine (take_any B s a 43 43 _ hs (by omega) rfl HH.out).mono ?_
 rintro e w1 ⟨ok,a1,x1,rfl,p1,f1⟩;have HP1:Hid (w1.heap[P]? =some (.cells c t (0,0))):=(f1.block P hPl hne).trans HP.out;have X1:=hid x1
 have F1:Hid (Kept (fun k=>k=B∨k=P) w w1):=f1.mono (fun _ _ e=>.inl e)
 have P1:=hid p1
 have q0:w1.cell? ⟨P,o,none⟩=some c[o]:=by rw [cell_of HP1.out,Array.getElem?_eq_getElem hoff]
 have q1:w1.frozen? ⟨P,o,none⟩=false:=frozen_of HP1.out o
 have hb:Hid (ok=decide (Pl.bt s a=43)):=by
  have:=x1;unfold Pl.tk at this;show _=_
  split at this
  ·rename_i hh;injection this with h1 _;rw [←h1];simp [hh]
  ·rename_i hh;injection this with h1 _;rw [←h1];simp [hh]
 clear x1 p1 f1
 have hset:∀ v,RP B s a1 (w1.setCell ⟨P,o,none⟩ v):=fun v=>⟨P1.out.1,(Below.heap_setCell _ _ _ _ (fun e=>hne e.symm)).trans P1.out.2⟩
 have HSet:=hid hset;clear hset
 cases ok
 ·have HSg:Hid (signT s a= -1):=by
   show _=_;have:=hb.out;unfold signT;rw [if_neg (by simpa using this.symm)]
  have ha1:Hid (a1=a):=by
   have:=X1.out;unfold Pl.tk at this;show _=_
   split at this
   ·cases this
   ·injection this with _ h2;exact h2.symm
  go_wp2_with fail
  refine (take_any B s a1 45 45 _ hs (by omega) rfl (HSet.out (.int .i64 (-1)))).mono ?_
  rintro e w2 ⟨ok2,a2,x2,rfl,p2,f2⟩;have X2:=hid x2;have P2:=hid p2;have F2:=hid f2;clear x2 p2 f2 q0 q1;go_wp2_with fail;go_ret;have hx1:=X1.out;have hx2:=X2.out;rw [ha1.out] at hx1 hx2
  have hk:Kept (fun k=>k=B∨k=P) w1 (w1.setCell ⟨P,o,none⟩ (.int .i64 (-1))):=(Kept.refl _ _).setCell (.inr (.inr rfl)) _
  refine ⟨ok2,a2,?_,rfl,P2.out,(F1.out.seq hk).seq (F2.out.mono (fun _ _ e=>.inl e)),?_⟩
  ·rw [Pl.orP_false hx1];exact hx2
  ·rw [HSg.out,F2.out.block P (by have:=lt_of_heap HP1.out;simpa [World.setCell] using this) hne]
   exact heap_set HP1.out o _
 ·have HSg:Hid (signT s a=1):=by
   show _=_;have:=hb.out;unfold signT;rw [if_pos (by simpa using this.symm)]
  go_wp2_with fail;go_ret
  have hk:Kept (fun k=>k=B∨k=P) w1 (w1.setCell ⟨P,o,none⟩ (.int .i64 1)):=(Kept.refl _ _).setCell (.inr (.inr rfl)) _
  refine ⟨true,a1,?_,rfl,HSet.out _,F1.out.seq hk,?_⟩
  ·rw [Pl.orP_true X1.out]
  ·rw [HSg.out];exact heap_set HP1.out o _
end Go.Proofs.YtdinjjmcmfjbfaaGreatDoor
