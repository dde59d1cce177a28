import Derived.Test.YtdinjjmcmfjbfaaGreatDoorDvJ
set_option maxRecDepth 100000
set_option maxHeartbeats 4000000
namespace Go.Proofs.YtdinjjmcmfjbfaaGreatDoor
open Go.RowKit Go.Shelf
open Mo (V Row Bag cnt canon Eqv OkB OkD Q Opd leaves bagQ tyQ wf OkQ Ok2 Small LeafT joins)
theorem Nodes.eqv {f g:Nat→Bag} {w:World} {O:Ow}:∀ (q:Q) (t:Nd) (T:Tk) (i:Nat),(∀ j,i≤j→j<i+(leaves q).length→Eqv (f j) (g j))→Nodes q t T i f w O→Nodes q t T i g w O
 | .tab _,.leaf,_,_,_,_=>trivial
 | .sel _ _ _ q,.one b t,T,i,h,hn=>⟨hn.1,Nodes.eqv q t _ i h hn.2⟩
 | .pick _ q,.one b t,T,i,h,hn=>⟨hn.1,Nodes.eqv q t _ i h hn.2⟩
 | .dist q,.one b t,T,i,h,hn=>⟨hn.1.eqv (Mo.bagQ_congr q i h),Nodes.eqv q t _ i h hn.2⟩
 | .grp _ _ q,.one b t,T,i,h,hn=>⟨hn.1.eqv (Mo.bagQ_congr q i h),Nodes.eqv q t _ i h hn.2⟩
 | .join _ _ q r,.two b t u,T,i,h,hn=>by
   have h1:∀ j,i≤j→j<i+(leaves q).length→Eqv (f j) (g j):=fun j a b=>h j a (by simp only [leaves,List.length_append];omega)
   have h2:∀ j,i+(leaves q).length≤j→j<i+(leaves q).length+(leaves r).length→Eqv (f j) (g j):=fun j a b=>h j (by omega) (by simp only [leaves,List.length_append];omega)
   exact ⟨((hn.1.eqv (Mo.bagQ_congr q i h1)).swap.eqv (Mo.bagQ_congr r _ h2)).swap,Nodes.eqv q t _ i h1 hn.2.1,Nodes.eqv r u _ _ h2 hn.2.2⟩
 | .uni q r,.two b t u,T,i,h,hn=>by
   have h1:∀ j,i≤j→j<i+(leaves q).length→Eqv (f j) (g j):=fun j a b=>h j a (by simp only [leaves,List.length_append];omega)
   have h2:∀ j,i+(leaves q).length≤j→j<i+(leaves q).length+(leaves r).length→Eqv (f j) (g j):=fun j a b=>h j (by omega) (by simp only [leaves,List.length_append];omega)
   exact ⟨hn.1,Nodes.eqv q t _ i h1 hn.2.1,Nodes.eqv r u _ _ h2 hn.2.2⟩
theorem VAt.eqv {V:VS} {G G':Nat→Bag} {w:World} {O:Ow} (h:VAt V G w O) (e:∀ j,j<(leaves V.q).length→Eqv (G j) (G' j)):VAt V G' w O :=
 have e':∀ j,0≤j→j<0+(leaves V.q).length→Eqv (G j) (G' j):=fun j _ hj=>e j (by omega)
 ⟨h.1.eqv (Mo.bagQ_congr V.q 0 e'),h.2.eqv V.q V.nd _ 0 e'⟩
def bump (xs:List TabS) (nm:List UInt8) (d:Bag):List TabS:=xs.map fun X=>if X.name=nm then { X with bag:=X.bag++d } else X
def gvN (nm:List UInt8) (d:Bag) (G:VS→Nat→Bag) (V:VS):Nat→Bag:=fun j=>if (leaves V.q)[j]? =some nm then G V j++d else G V j
theorem gv_all {vs:List VS} {nm:List UInt8} {d:Bag} {G:VS→Nat→Bag} {V:VS} (hV:V∈vs) (hn:(vs.map VS.blk).Nodup):gv (prs vs nm) d G V=gvN nm d G V:=by
 funext j
 show (if (V.blk,j)∈(prs vs nm).map keyP then _ else _)=if (leaves V.q)[j]? =some nm then _ else _
 have:((V.blk,j)∈(prs vs nm).map keyP)↔(leaves V.q)[j]? =some nm:=by
  constructor
  ·intro h
   obtain ⟨p,hp,e⟩:=List.mem_map.1 h;obtain ⟨h1,h2⟩:=mem_prs.1 hp;obtain ⟨e1,e2⟩:=Prod.mk.inj e
   have:p.1=V:=nodup_inj hn h1 hV e1
   rw [←this,←e2];exact h2
  ·intro h
   exact List.mem_map.2 ⟨(V,j),mem_prs.2 ⟨hV,h⟩,rfl⟩
 simp only [this]
structure Fx (ft:List UInt8→Option (List Bool)) (id0:Nat) (xs:List TabS) (vs:List VS):Prop where
 nm:(xs.map (·.name)).Nodup
 bl:(xs.map (·.blk)).Nodup
 vb:(vs.map VS.blk).Nodup
 dis:∀ V∈vs,∀ V'∈vs,V'.blk≠V.blk→∀ a,VA V a→¬VA V' a
 va:∀ V∈vs,∀ a,VA V a→2≤a∧a≠id0∧∀ X∈xs,a≠X.blk+2
 id:2≤id0∧∀ X∈xs,X.blk+2≠id0
 fix:∀ V∈vs,VFix ft V
 tks:∀ X∈xs,X.tks=(prs vs X.name).map tkP
 few:∀ X∈xs,X.tks.length≤1000000
theorem table_deliver {ft:List UInt8→Option (List Bool)} (hf:∀ nm us,ft nm=some us→1≤us.length∧us.length≤6) {id0:Nat} {xs:List TabS} {vs:List VS} (hx:Fx ft id0 xs vs) {X:TabS} (hX:X∈xs) {ts:List Bool} {d:Bag} (ok1:OkB ts X.bag) (ok2:OkB ts (X.bag++d)) {G:VS→Nat→Bag} (hG:∀ i,∀ V∈vs,GOk ft V (gv ((prs vs X.name).take i) d G V))
 {w:World} {O:Ow} {tv:Value} {c:Nat} (hT:TabsAt w O tv id0 xs) (hV:∀ V∈vs,VAt V (G V) w O) (hc:BagAt w c (canon d)) (hO:O c=0) :
 Calls Tryz.prog 47 #[.map (some c),.iface 101 (.pointer (some ⟨X.blk,0,none⟩))] w fun e w'=>e=.returned (.tuple #[])∧∃ O':Ow,(∀ k,k<w.heap.size→O' k=O k)∧Kept (fun k=>O k=X.blk+2∨∃ V∈vs,VA V (O k)) w w'∧TabsAt w' O' tv id0 (bump xs X.name d)∧∀ V∈vs,VAt V (gvN X.name d G V) w' O':=by
 have hd:=ok1.chg ok2;obtain ⟨hO0,v0,hv,hb,hown,hown0,hm⟩:=hT.tab X hX;have hbl:=lt_of_heap hb
 have fin:∀ (w':World) (O':Ow),w.heap.size≤w'.heap.size→(∀ k,k<w.heap.size→O' k=O k)→(∀ k,k<w.heap.size→O k≠X.blk+2→O k=id0∨(∃ Y∈xs,O k=Y.blk+2)→w'.heap[k]? =w.heap[k]?)→TabAt w' O' { X with bag:=X.bag++d }→TabsAt w' O' tv id0 (bump xs X.name d):=fun w' O' hsz hO' hfr hXt=>by
  obtain ⟨a,cap,h1,h2,h3,h4⟩:=hT.slc
  refine ⟨⟨a,cap,by unfold bump;rw [List.length_map];exact h1,by unfold bump;rw [List.length_map];exact h2,h3,fun j Z hZ=> ?_⟩,fun Z hZ=> ?_⟩
  ·unfold bump at hZ
   rw [List.getElem?_map] at hZ;obtain ⟨Z0,hZ0,rfl⟩:=Option.map_eq_some_iff.1 hZ;obtain ⟨b,o,e1,e2,e3,e4⟩:=h4 j Z0 hZ0
   have hkb:=hfr b e2 (by rw [e3];exact fun e=>hx.id.2 X hX e.symm) (.inl e3)
   refine ⟨b,o,e1,Nat.lt_of_lt_of_le e2 hsz,by rw [hO' b e2];exact e3,?_⟩
   rw [World.cell?_of_block hkb,e4]
   split <;> rfl
  ·unfold bump at hZ
   obtain ⟨Z0,hZ0,rfl⟩:=List.mem_map.1 hZ
   by_cases hn:Z0.name=X.name
   ·have:Z0=X:=nodup_inj hx.nm hZ0 hX hn
    subst this;rw [if_pos hn];exact hXt
   ·rw [if_neg hn]
    refine (hT.tab Z0 hZ0).stab fun k hk' e=>⟨hfr k hk' (fun e'=>hn ?_) (.inr ⟨Z0,hZ0,e⟩),hO' k hk'⟩
    have:Z0=X:=nodup_inj hx.bl hZ0 hX (by show Z0.blk=X.blk;omega)
    rw [this]
 refine deliver_any table_ty ⟨X.blk,0,none⟩ c ts d w _ hc hd (fun hd0=> ?_) (fun hd1=> ?_)
 ·have e0:∀ B:Bag,Eqv B (B++d):=fun B=>Mo.eqv_nil_append hd0
  refine ⟨rfl,O,fun _ _=>rfl,Kept.refl _ _,fin w O (Nat.le_refl _) (fun _ _=>rfl) (fun _ _ _ _=>rfl) ⟨hO0,v0,hv,hb,hown,hown0,hm.eqv (e0 _)⟩,fun V hv'=>(hV V hv').eqv fun j _=> ?_⟩
  unfold gvN;split
  ·exact e0 _
  ·exact Eqv.refl _
 ·refine table_walk X.blk c w _ ?_
  have hne:hv≠.map (some c):=fun e=>by have:=hm.2 c e;omega
  refine (remember_any X.blk 1 _ 125 hv (.map (some c)) (canon X.bag) (canon d) w hb rfl hm.1 (.inr ⟨c,rfl,hc⟩) (fun k e e'=>hne (e.trans e'.symm)) (by
   have e1:=(OkB.chg (b:=[]) (d:=X.bag) ⟨fun r=>by simp [Mo.cnt],by show (0:Int)≤_;decide,by show (0:Int)≤_;decide,(fun e he=>by cases he),(fun e he=>by cases he),ok1.six⟩ (by simpa using ok1)).len
   have e2:=hd.len;rw [Mo.canon_of_rise (Mo.canon_rise _),Mo.canon_of_rise (Mo.canon_rise _)]
   unfold maxLen;omega)).mono fun e w1 hE=> ?_
  have hrok:∀ x∈canon (X.bag++d),ROk x.1:=(OkB.chg (b:=[]) (d:=X.bag++d) ⟨fun r=>by simp [Mo.cnt],by show (0:Int)≤_;decide,by show (0:Int)≤_;decide,(fun e he=>by cases he),(fun e he=>by cases he),ok1.six⟩ (by simpa using ok2)).rok
  obtain ⟨he,held',g1,g2,g3,g4⟩:=hE.mem hm hrok;refine ⟨he,?_⟩
  have hO1:∀ k,k<w.heap.size→oB w O (X.blk+2) k=O k:=fun k hk=>oB_old hk
  have hkX:Kept (fun k=>O k=X.blk+2) w w1:=g4.mono fun i hi e=>by
   rcases e with rfl | e
   ·exact hO0
   ·exact hm.2 i e
  have hnV:∀ V∈vs,¬VA V (X.blk+2):=fun V hv' e=>(hx.va V hv' _ e).2.2 X hX rfl
  have hV1:∀ V∈vs,VAt V (G V) w1 (oB w O (X.blk+2)):=fun V hv'=>(hV V hv').stab g4.size fun k hk' e=>⟨hkX.block k hk' (fun e'=>by
   rw [e'] at e
   rcases e with e | e
   ·exact hnV V hv' e
   ·omega),hO1 k hk'⟩
  have hvb:∀ k,v0.ownBlock=some k→k<w.heap.size∧w1.heap[k]? =w.heap[k]? :=fun k e=>by
   obtain ⟨c0,z0,hc0⟩:=owns_mem hown e;refine ⟨lt_of_heap hc0,g4.block k (lt_of_heap hc0) ?_⟩
   rintro (rfl | e')
   ·rw [hb] at hc0;injection hc0 with hc0;injection hc0 with _ hc0;exact absurd hc0 (by decide)
   ·exact hm.notCells e' hc0 rfl
  have hcw:BagAt w1 c (canon d):=hc.kept g4 (fun e=>by
   rcases e with e | e
   ·rw [e] at hO;omega
   ·exact hne e)
  have hlen:(prs vs X.name).length=X.tks.length:=by rw [hx.tks X hX,List.length_map]
  have hOc:oB w O (X.blk+2) c=0:=by rw [hO1 c hc.lt];exact hO
  have hown1:=owns_blk hown fun k e=>(hvb k e).2
  obtain ⟨sa,cap,rfl,hcell⟩:∃ sa cap,v0=.slice sa X.tks.length cap∧∀ i T,(X.tks.map Tk.val)[i]? =some T→∃ g o,sa=some ⟨g,o,none⟩∧g<w1.heap.size∧(∀ V∈vs,¬VA V (oB w O (X.blk+2) g))∧w1.cell? ⟨g,o+i,none⟩=some T:=by
   rcases hown1.2 with ⟨e,hn⟩ | ⟨g,cap,cur,e,_,hg,hc1,hc2,hc3,hc4⟩
   ·refine ⟨none,0,by rw [e,hn],fun i T hT'=> ?_⟩
    have:=(List.getElem?_eq_some_iff.1 hT').1
    rw [List.length_map] at this;omega
   ·refine ⟨some ⟨g,0,none⟩,cap,e,fun i T hT'=>⟨g,0,rfl,lt_of_heap hg,fun V hv' ha=> ?_,?_⟩⟩
    ·have hgo:=hown0 g (by rw [e];rfl)
     rw [hO1 g (hvb g (by rw [e];rfl)).1,hgo] at ha
     exact hnV V hv' ha
    ·rw [Nat.mul_one] at hc4
     rw [←hc4,List.getElem?_take] at hT';rw [cell_of hg,Nat.zero_add]
     split at hT'
     ·simpa using hT'
     ·cases hT'
  have hb1:w1.cell? ⟨X.blk,0,none⟩=some (.slice sa (prs vs X.name).length cap):=by rw [hlen];exact (cell_of g1 0).trans rfl
  refine (give_all hf hx.fix hx.vb hx.dis (fun V hv' e=>by have:=(hx.va V hv' 1 e).1;omega) hG (by rw [hlen];exact hx.few X hX) hb1 (fun i T hT'=>hcell i T (by rw [hx.tks X hX,List.map_map];exact hT')) hV1 hcw (fun V hv' e=>by rw [hOc] at e;have:=(hx.va V hv' 0 e).1;omega)).mono fun e w2 hE2=> ?_
  obtain ⟨he2,O2,q1,q2,q3⟩:=hE2
  refine ⟨he2,he2,he2,O2,fun k hk=>(q1 k (Nat.lt_of_lt_of_le hk g4.size)).trans (hO1 k hk),?_,?_,fun V hv'=>by rw [←gv_all hv' hx.vb];exact q3 V hv'⟩
  ·refine (hkX.mono (fun k _ e=>.inl e)).trans q2 (fun _ e=>e) fun k hk e=>.inr ?_
   rw [hO1 k hk] at e;exact e
  ·refine fin w2 O2 (Nat.le_trans g4.size q2.size) (fun k hk=>(q1 k (Nat.lt_of_lt_of_le hk g4.size)).trans (hO1 k hk)) (fun k hk hn ho=> ?_) ?_
   ·rw [q2.block k (Nat.lt_of_lt_of_le hk g4.size) (fun ⟨V,hv',ha⟩=> ?_),hkX.block k hk hn]
    rw [hO1 k hk] at ha;have hh:=hx.va V hv' _ ha
    rcases ho with ho | ⟨Y,hY,ho⟩
    ·exact hh.2.1 ho
    ·exact hh.2.2 Y hY ho
   ·have hX1:TabAt w1 (oB w O (X.blk+2)) { X with bag:=X.bag++d }:=by
     refine ⟨by show oB w O (X.blk+2) X.blk=_;rw [hO1 _ hbl];exact hO0,_,held',g1,hown1,fun k e=> ?_,g2⟩
     rw [hO1 k (hvb k e).1];exact hown0 k e
    refine hX1.stab fun k hk e=>⟨q2.block k hk (fun ⟨V,hv',ha⟩=> ?_),q1 k hk⟩
    have e':oB w O (X.blk+2) k=X.blk+2:=e;rw [e'] at ha;exact hnV V hv' ha
open Mo (V Row Bag Q Opd leaves tyO ty tyPick)
def tyVs (us:List Bool):List Value:=us.map fun t=>Value.int .i32 (tkN t)
def pickT (us:List Bool) (cs:List Nat):List Bool:=cs.map fun c=>us.getD c false
theorem infoVK:(Tryz.prog.info? 130).map (fun i=>(i.zero,i.size,i.bytes))=some (some (.int .i32 0),1,4):=by kernel_rfl
theorem TyL.of_owns {w:World} {base:Nat} {v:Value} {us:List Bool} (h:w.ownsRow base 130 1 v us.length (tyVs us)) (hn:us≠[]):TyL w v us:=by
 rcases h.2 with ⟨_,h1⟩ | ⟨g,cap,cur,rfl,_,hg,hc1,hc2,hc3,hc4⟩
 ·exact absurd (List.eq_nil_of_length_eq_zero h1) hn
 ·refine ⟨g,0,cap,rfl,⟨_,_,hg⟩,hc1,hc2,fun i t hi=> ?_⟩
  have hl:i<us.length:=(List.getElem?_eq_some_iff.1 hi).1
  have h0:(cur.toList.take (us.length*1))[i]? =some (.int .i32 (tkN t)):=by rw [hc4];unfold tyVs;rw [List.getElem?_map,hi];rfl
  rw [List.getElem?_take,if_pos (by omega)] at h0
  rw [cell_of hg,Nat.zero_add]
  simpa using h0
theorem ints_at {w:World} {lv:Value} {cs:List Nat} (h:w.ownsRow 0 3 1 lv cs.length (ints cs)):IntsAt w lv cs:=by
 rcases h.2 with ⟨e,hn⟩ | ⟨g,cap,cur,rfl,_,hg,hc1,_,hc2,hc3⟩
 ·exact .inl ⟨e,List.eq_nil_of_length_eq_zero hn⟩
 ·refine .inr ⟨g,0,cap,rfl,lt_of_heap hg,fun i c hi=> ?_⟩
  have hl:i<cs.length:=(List.getElem?_eq_some_iff.1 hi).1
  have h0:(cur.toList.take (cs.length*1))[i]? =some (.int .i64 (c:Int)):=by rw [hc3];unfold ints;rw [List.getElem?_map,hi];rfl
  rw [List.getElem?_take,if_pos (by omega)] at h0
  rw [cell_of hg,Nat.zero_add]
  simpa using h0
def allIn (us:List Bool) (cs:List Nat):Bool:=cs.all fun c=>decide (c<us.length)
def PickedEnd (us:List Bool) (cs:List Nat) (w:World) (e:Ending) (w':World):Prop :=
 Kept No w w'∧(allIn us cs=true∧(∃ v,e=.returned (.tuple #[v,.bool true])∧w'.ownsRow w.heap.size 130 1 v (pickT us cs).length (tyVs (pickT us cs))) ∨
  allIn us cs=false∧e=.returned (.tuple #[.slice none 0 0,.bool false]))
theorem allIn_not {us:List Bool} {cs:List Nat} {i c:Nat} (h:cs[i]? =some c) (hc:us.length≤c):allIn us cs=false:=by
 rw [allIn,List.all_eq_false]
 exact ⟨c,List.mem_of_getElem? h,by simp;omega⟩
theorem pickT_len (us:List Bool) (cs:List Nat):(pickT us cs).length=cs.length:=by simp [pickT]
theorem picked_any (P:Nat) (h:Hd) (lv iv tv:Value) (us:List Bool) (cs:List Nat) (w:World) (hP:w.heap[P]? =some (.cells (partC h lv iv) 139 (0,0))) (hI:IntsAt w lv cs) (hl:cs.length≤6) (hc10:∀ c∈cs,c<10) (hT:TyL w tv us) :
 Calls Tryz.prog 108 #[.pointer (some ⟨P,0,none⟩),tv] w (PickedEnd us cs w):=by
 have k0:=(part_cells hP).2.2.1;obtain ⟨va,vc,rfl⟩:=hI.is;have HI:=hid hI;have HT:=hid hT;have H10:=hid hc10;obtain ⟨b,o,cap,rfl,hb,h3,h4,h5⟩:=hT;replace hb:=hb.lt;obtain ⟨n,hnn⟩:∃ n,cs.length=n:=⟨_,rfl⟩;have HN:=hid hnn;rw [hnn] at k0 HI hl;obtain ⟨m,hmm⟩:∃ m,us.length=m:=⟨_,rfl⟩;have HM:=hid hmm;rw [hmm] at HT h3 ⊢;obtain ⟨iu,hiu,hu0,hu1,hu2⟩:=info_parts infoVK
 have hcap:cap≤9223372036854775807:=by unfold maxLen at h4;omega
 have H5:=hid h5;clear hP hnn hmm hI h4 h5 hc10
 go_enter Tryz.func108,Tryz.ntmps108
 go_wp2_with fail
 go_loopg [6,14] n (fun k v6 v14 wr=>∃ i:Nat,i+k=n∧v14=.int .i64 (i:Int)∧Hid (wr.ownsRow w.heap.size 130 1 v6 (pickT us (cs.take i)).length (tyVs (pickT us (cs.take i))))∧Hid (allIn us (cs.take i)=true)∧Hid (Kept No w wr))
 case atStart=>exact ⟨0,by omega,rfl,hid (World.ownsRow_nil _ _ _ _),hid rfl,hid (Kept.refl _ _)⟩
 case round =>
  obtain ⟨i,hik,rfl,hO,hAll,hK⟩:=hrel
  cases gk with
  | zero =>
    have hx:¬(i:Int)<(n:Int):=by omega
    have HX:Hid (cs.take i=cs):=List.take_of_length_le (by have:=HN.out;omega)
    go_wp2_with fail;go_ret2
    refine ⟨hK.out,.inl ⟨by rw [←HX.out];exact hAll.out,_,rfl,?_⟩⟩
    have:=hO.out
    rw [HX.out] at this;exact this
  | succ k =>
    have hx:(i:Int)<(n:Int):=by omega
    have hx0:(0:Int)≤(i:Int):=by omega
    obtain ⟨c,hci⟩:∃ c,cs[i]? =some c:=⟨_,List.getElem?_eq_getElem (by have:=HN.out;omega)⟩
    have hc10:=H10.out c (List.mem_of_getElem? hci)
    have hc0:(0:Int)≤(c:Int):=by omega
    have HCI:=hid hci
    rcases HI.out with ⟨e1,e2⟩ | ⟨ib,io,icap,e,hib,hcell⟩
    ·rw [e2] at hci;simp at hci
    injection e with e1 e2 e3
    subst e1 e3
    have g0:wr.cell? ⟨ib,io+i,none⟩=some (.int .i64 (c:Int)):=(hK.out.cell hib (fun e=>e)).trans (hcell i c hci)
    clear hcell hci e2
    by_cases hcm:c<m
    ·have hc1:(c:Int)<(m:Int):=by omega
     have hc2:¬(m:Int)≤(c:Int):=by omega
     obtain ⟨t,ht⟩:∃ t,us[c]? =some t:=⟨_,List.getElem?_eq_getElem (by have:=HM.out;omega)⟩
     have d0:wr.cell? ⟨b,o+c,none⟩=some (.int .i32 (tkN t)):=(hK.out.cell hb (fun e=>e)).trans (H5.out c t ht)
     have hown:=hO.out
     have hlen:(pickT us (cs.take i)).length=i:=by rw [pickT_len,List.length_take];have:=HN.out;omega
     have HS:Hid (pickT us (cs.take (i+1))=pickT us (cs.take i)++[t]):=by
      show _=_
      rw [List.take_add_one,HCI.out];unfold pickT;rw [List.map_append]
      simp [ht]
     have HA2:Hid (allIn us (cs.take (i+1))=true):=by
      show _=_
      rw [List.take_add_one,HCI.out];unfold allIn;rw [List.all_append];have h1:=hAll.out;unfold allIn at h1;rw [h1]
      have:=HM.out
      simp;omega
     have hsz:=hK.out.size;rw [hlen] at hown;have HOwn:=hid hown;clear ht;obtain ⟨zt,hzt⟩:∃ z,tkN t=z:=⟨_,rfl⟩;have HZ:=hid hzt;rw [hzt] at d0;clear hzt
     go_wp2_with (first
      | (at_builtin;refine wpList_append_own_at _ rfl _ _ 78 rfl w.heap.size 130 iu (.int .i32 0) 1 4 Tryz.underlying78 hiu hu0 hu1 hu2 rfl (by decide) _ _ _ rfl (hown.alloc _) ⟨wr.heap.size,0,none⟩ 1 1 [.int .i32 zt] rfl rfl (World.news_of_block (cs:=#[.int .i32 zt]) (t:=130) (fr:=(0,0)) (heap_alloc_last wr _)) (by intro u hu;simp at hu;subst hu;rfl) (by unfold maxLen;omega) (by omega) (by simp;omega) ?_;intro v' w5 hown5 hg5 _ _)
      | fail)
     go_roundg k
     case measure=>omega
     case rel =>
      have hg:(wr.alloc (.cells #[.int .i32 zt] 130)).grownBy w5 u6.ownBlock:=hg5
      refine ⟨i+1,by omega,by go_num,?_,HA2,hid ((hK.out.alloc _).grown hg (fun x hx=>.inl (own_base HOwn.out x hx)))⟩
      show w5.ownsRow _ _ _ _ _ _
      rw [HS.out,List.length_append];unfold tyVs;rw [List.map_append,hlen]
      show w5.ownsRow _ _ _ _ (i+1) (_++[Value.int .i32 (tkN t)])
      rw [HZ.out];exact hown5
    ·have hc1:(m:Int)≤(c:Int):=by omega
     have HF:Hid (allIn us cs=false):=allIn_not HCI.out (by have:=HM.out;omega)
     go_wp2_with fail;go_ret2;exact ⟨hK.out,.inr ⟨HF.out,rfl⟩⟩
open Mo (V Row Bag Q Opd leaves tyO ty)
theorem tyEq_any (av bv:Value) (us vs:List Bool) (w:World) (ha:TyL w av us) (hb:TyL w bv vs) :
 Calls Tryz.prog 110 #[av,bv] w fun e w'=>e=.returned (.bool (decide (us=vs)))∧Kept No w w':=by
 have HA:=hid ha;have HB:=hid hb;obtain ⟨a,ao,ac,rfl,h1,h2,h3,h4⟩:=ha;obtain ⟨b,bo,bc,rfl,g1,g2,g3,g4⟩:=hb;replace h1:=h1.lt;replace g1:=g1.lt;have H4:=hid h4;have G4:=hid g4;obtain ⟨n,hnn⟩:∃ n,us.length=n:=⟨_,rfl⟩;obtain ⟨m,hmm⟩:∃ m,vs.length=m:=⟨_,rfl⟩;have HN:=hid hnn;have HM:=hid hmm;rw [hnn] at h2 ⊢;rw [hmm] at g2 ⊢
 have hac:ac≤9223372036854775807:=by unfold maxLen at h3;omega
 have hbc:bc≤9223372036854775807:=by unfold maxLen at g3;omega
 clear h3 g3 hnn hmm h4 g4 HA HB
 by_cases hx:n=m
 ·subst hx
  go_enter Tryz.func110,Tryz.ntmps110
  go_wp2_with fail
  go_loopg [13] n (fun k v13 wr=>∃ i:Nat,i+k=n∧v13=.int .i64 (i:Int)∧Hid (us.take i=vs.take i)∧Hid (Kept No w wr))
  case atStart=>exact ⟨0,by omega,rfl,hid rfl,hid (Kept.refl _ _)⟩
  case round =>
   obtain ⟨i,hik,rfl,hE,hK⟩:=hrel
   cases gk with
   | zero =>
     have hx:¬(i:Int)<(n:Int):=by omega
     have HT:Hid (decide (us=vs)=true):=by
      show _=_
      have h1:=hE.out
      rw [List.take_of_length_le (by have:=HN.out;omega),List.take_of_length_le (by have:=HM.out;omega)] at h1
      simp [h1]
     go_wp2_with fail;go_ret;exact ⟨ret_bool HT.out.symm,hK.out⟩
   | succ k =>
     have hx:(i:Int)<(n:Int):=by omega
     have hx0:(0:Int)≤(i:Int):=by omega
     obtain ⟨s,hs⟩:∃ s,us[i]? =some s:=⟨_,List.getElem?_eq_getElem (by have:=HN.out;omega)⟩
     obtain ⟨t,ht⟩:∃ t,vs[i]? =some t:=⟨_,List.getElem?_eq_getElem (by have:=HM.out;omega)⟩
     have d0:wr.cell? ⟨a,ao+i,none⟩=some (.int .i32 (tkN s)):=(hK.out.cell h1 (fun e=>e)).trans (H4.out i s hs)
     have d1:wr.cell? ⟨b,bo+i,none⟩=some (.int .i32 (tkN t)):=(hK.out.cell g1 (fun e=>e)).trans (G4.out i t ht)
     have HS:=hid hs;have HT:=hid ht;clear hs ht
     by_cases hst:s=t
     ·subst hst
      have HE2:Hid (us.take (i+1)=vs.take (i+1)):=by show _=_;rw [List.take_add_one,List.take_add_one,HS.out,HT.out,hE.out]
      generalize tkN s=z at d0 d1;go_wp2_with fail
      go_quiet (fail)
      go_wp2_with fail;go_roundg k
      case measure=>omega
      case rel=>exact ⟨i+1,by omega,by go_num,HE2,hid (hK.out.drewN _)⟩
     ·have hz:(tkN s != tkN t)=true:=by rw [bne,tkN_eq];simp [hst]
      have HF:Hid (decide (us=vs)=false):=by
       show _=_
       rw [decide_eq_false_iff_not];rintro rfl
       have:=HS.out.symm.trans HT.out
       exact hst (by simpa using this)
      generalize tkN s=z at d0 hz;generalize tkN t=z' at d1 hz;clear hst;go_wp2_with fail
      go_quiet (fail)
      go_wp2_with fail;go_ret;exact ⟨ret_bool HF.out.symm,hK.out.drewN _⟩
 ·have hx':((n:Int) != (m:Int))=true:=by simp;omega
  have HF:Hid (decide (us=vs)=false):=by
   show _=_
   rw [decide_eq_false_iff_not];rintro rfl;exact hx (HN.out.symm.trans HM.out)
  go_enter Tryz.func110,Tryz.ntmps110
  go_wp2_with fail;go_ret;exact ⟨ret_bool HF.out.symm,Kept.refl _ _⟩
theorem next_small (n:Nat) (h:n≤12):Builtin.nextslicecap n 0*4≤281474976710656:=by
 have:∀ n,n<13→Builtin.nextslicecap n 0*4≤281474976710656:=by decide
 exact this n (by omega)
def GrowEnd (w:World) (e:Ending) (w':World):Prop:=∃ v,e=.returned v∧w'.ownsRow w.heap.size 130 1 v 0 []∧Kept No w w'
theorem grow_ty (n:Nat) (h0:1≤n) (hn:n≤12) (w:World) :
 Calls Tryz.prog 149 #[.slice none 0 0,.int .i64 (n:Int)] w (GrowEnd w):=by
 have h1:¬(n:Int)<0:=by omega
 have h2:(0:Int)<(n:Int):=by omega
 have hy:Tryz.t130.bytes=4:=rfl
 have h3:¬(281474976710656:Int)<(n:Int)*(Tryz.t130.bytes:Int):=by rw [hy];omega
 go_enter Tryz.func149,Tryz.ntmps149
 go_wp2_with fail
 ·exact absurd (next_small n hn) (by omega)
 ·go_ret
  have hc1:n≤(Question.appendCap n 0 130).cut (w.tape w.drawn (Question.appendCap n 0 130)):=grownCap_ge w n 0 130
  have hc2:(Question.appendCap n 0 130).cut (w.tape w.drawn (Question.appendCap n 0 130))≤maxLen:=grownCap_le_maxLen w n 0 130 (by unfold maxLen;omega)
  generalize (Question.appendCap n 0 130).cut (w.tape w.drawn (Question.appendCap n 0 130))=cap at hc1 hc2;refine ⟨_,rfl,⟨rfl,.inr ⟨w.heap.size,cap,_,rfl,Nat.le_refl _,heap_alloc_last w _,Nat.zero_le _,hc2,?_,rfl⟩⟩,((Kept.refl No w).alloc _).drew⟩;simp only [Array.size_append,size_zeroCells]
  simp
  omega
def ConcEnd (us:List Bool) (w:World) (e:Ending) (w':World):Prop:=∃ v,e=.returned v∧w'.ownsRow w.heap.size 130 1 v us.length (tyVs us)∧Kept No w w'
theorem tyVs_get {us:List Bool} {w:World} {b o:Nat} (h:∀ (i:Nat) (t:Bool),us[i]? =some t→w.cell? ⟨b,o+i,none⟩=some (.int .i32 (tkN t))):∀ (j:Nat) (u:Value),(tyVs us)[j]? =some u→w.cell? (Addr.add ⟨b,o,none⟩ j)=some u:=fun j u hu=>by
 unfold tyVs at hu;rw [List.getElem?_map] at hu;obtain ⟨t,ht,rfl⟩:=Option.map_eq_some_iff.1 hu
 have:=h j t ht
 unfold Addr.add
 split
 ·next hj=>rw [hj] at this;exact this
 ·exact this
theorem concat_two (b o cap:Nat) (v1 v2:Value) (us vs:List Bool) (w:World) (hb:b<w.heap.size) (c1:w.cell? ⟨b,o,none⟩=some v1) (c2:w.cell? ⟨b,o+1,none⟩=some v2) (t1:TyL w v1 us) (t2:TyL w v2 vs) (h0:1≤us.length) (hl:us.length≤6) (hm:vs.length≤6) :
 Calls Tryz.prog 109 #[.slice (some ⟨b,o,none⟩) 2 cap] w (ConcEnd (us++vs) w):=by
 have HT1:=hid t1;have HT2:=hid t2;obtain ⟨a1,o1,k1,rfl,hb1,-,-,-⟩:=t1;obtain ⟨a2,o2,k2,rfl,hb2,-,-,-⟩:=t2;replace hb1:=hb1.lt;replace hb2:=hb2.lt;obtain ⟨n,hnn⟩:∃ n,us.length=n:=⟨_,rfl⟩;obtain ⟨m,hmm⟩:∃ m,vs.length=m:=⟨_,rfl⟩;have HN:=hid hnn;have HM:=hid hmm;have C1:=hid c1;have C2:=hid c2;rw [hnn] at c1 h0 hl HT1 C1;rw [hmm] at c2 hm HT2 C2;clear hnn hmm
 have HG:=hid (grow_ty (n+m) (by omega) (by omega) w)
 rw [Int.natCast_add] at HG
 have h1:¬(n:Int)<0:=by omega
 have h2:¬((n:Int)+m)<0:=by omega
 obtain ⟨iu,hiu,hu0,hu1,hu2⟩:=info_parts infoVK
 go_enter Tryz.func109,Tryz.ntmps109
 go_wp2_with fail;refine wp_loop_rounds 3 ?_;rw [rounds_succ];go_wp2_with fail;rw [rounds_succ];go_wp2_with fail;rw [rounds_succ];go_wp2_with fail;refine HG.out.mono ?_;rintro e w1 ⟨v,rfl,hO,hK⟩
 have c3:w1.cell? ⟨b,o,none⟩=some (.slice (some ⟨a1,o1,none⟩) n k1):=(hK.cell hb (fun e=>e)).trans C1.out
 have c4:w1.cell? ⟨b,o+1,none⟩=some (.slice (some ⟨a2,o2,none⟩) m k2):=(hK.cell hb (fun e=>e)).trans C2.out
 have HK:=hid hK;have hs1:=hK.size
 have N1:∀ (j:Nat) (u:Value),(tyVs us)[j]? =some u→w1.cell? (Addr.add ⟨a1,o1,none⟩ j)=some u:=by
  obtain ⟨x1,x2,x3,e,_,_,_,h5⟩:=HT1.out.kept hK
  injection e with e1 e2 e3
  injection e1 with e1
  injection e1 with e4 e5
  subst e4 e5;exact tyVs_get h5
 have L1:(tyVs us).length=n*1:=by rw [Nat.mul_one,←HN.out];simp [tyVs]
 have L2:(tyVs vs).length=m*1:=by rw [Nat.mul_one,←HM.out];simp [tyVs]
 have O1:∀ u∈tyVs us,u.oneCell'=true:=by intro u hu;unfold tyVs at hu;obtain ⟨t,_,rfl⟩:=List.mem_map.1 hu;rfl
 have O2:∀ u∈tyVs vs,u.oneCell'=true:=by intro u hu;unfold tyVs at hu;obtain ⟨t,_,rfl⟩:=List.mem_map.1 hu;rfl
 clear c1 c2 hK HG h1 h2;go_wp2_with fail;refine wp_loop_rounds 3 ?_;rw [rounds_succ]
 go_wp2_with (first
  | (at_builtin;refine wpList_append_own_at _ rfl _ _ 78 rfl w.heap.size 130 iu (.int .i32 0) 1 4 Tryz.underlying78 hiu hu0 hu1 hu2 rfl (by decide) _ _ _ rfl hO ⟨a1,o1,none⟩ n k1 (tyVs us) rfl L1 N1 O1 (by unfold maxLen;omega) (by omega) hs1 ?_;intro v' w5 hown5 hg5 _ _)
  | fail)
 have hg:w1.grownBy w5 v.ownBlock:=hg5
 have hK5:Kept No w w5:=HK.out.grown hg (fun x hx=>.inl (own_base hO x hx))
 have c5:w5.cell? ⟨b,o+1,none⟩=some (.slice (some ⟨a2,o2,none⟩) m k2):=(hK5.cell hb (fun e=>e)).trans C2.out
 have N2:∀ (j:Nat) (u:Value),(tyVs vs)[j]? =some u→w5.cell? (Addr.add ⟨a2,o2,none⟩ j)=some u:=by
  obtain ⟨x1,x2,x3,e,_,_,_,h5⟩:=HT2.out.kept hK5
  injection e with e1 e2 e3
  injection e1 with e1
  injection e1 with e4 e5
  subst e4 e5;exact tyVs_get h5
 have hs5:=hK5.size;have HK5:=hid hK5;have HO:=hid hO;rw [Nat.zero_add,List.nil_append] at hown5;clear hg5 hg hO c3 c4 hK5 hs1 N1
 rename_i xx1 xx2
 clear xx1 xx2;rw [rounds_succ]
 go_wp2_with (first
  | (at_builtin;refine wpList_append_own_at _ rfl _ _ 78 rfl w.heap.size 130 iu (.int .i32 0) 1 4 Tryz.underlying78 hiu hu0 hu1 hu2 rfl (by decide) _ _ _ rfl hown5 ⟨a2,o2,none⟩ m k2 (tyVs vs) rfl L2 N2 O2 (by unfold maxLen;omega) (by omega) hs5 ?_;intro v2 w7 hown7 hg7 _ _)
  | fail)
 have hg:w5.grownBy w7 v'.ownBlock:=hg7
 have HK7:Hid (Kept No w w7):=HK5.out.grown hg (fun x hx=>.inl (own_base hown5 x hx))
 have HO7:=hid hown7
 rename_i xx1 xx2
 clear xx1 xx2 hg7 hg hown7 hown5;rw [rounds_succ];go_wp2_with fail;go_ret;refine ⟨_,rfl,?_,HK7.out⟩
 have e:tyVs (us++vs)=tyVs us++tyVs vs:=by simp [tyVs]
 rw [e,List.length_append,HN.out,HM.out];exact HO7.out
set_option linter.unusedSimpArgs false
def optT (b:Bool) (us:List Bool):Option (List Bool):=if b=true then some us else none
def TypesEnd (r:Option (List Bool)) (w:World) (e:Ending) (w':World):Prop :=
 Kept No w w'∧((∃ ts v,r=some ts∧e=.returned (.tuple #[v,.bool true])∧TyL w' v ts)∨(r=none∧∃ v,e=.returned (.tuple #[v,.bool false])))
theorem TypesEnd.of {us:List Bool} {b:Bool} {v:Value} {w w':World} (hk:Kept No w w') (h:TyL w' v us):TypesEnd (optT b us) w (.returned (.tuple #[v,.bool b])) w':=by
 refine ⟨hk,?_⟩
 cases b
 ·exact .inr ⟨rfl,v,rfl⟩
 ·exact .inl ⟨us,v,rfl,rfl,h⟩
theorem part_kept {w w':World} {P:Nat} {c:Array Value} {t:TypeId} (hk:Kept No w w') (h:w.heap[P]? =some (.cells c t (0,0))):w'.heap[P]? =some (.cells c t (0,0)):=(hk.block P (lt_of_heap h) (fun e=>e)).trans h
theorem types_dist (P:Nat) (h:Hd) (hk:h.k=6) (lv iv:Value) (b o cap:Nat) (v1:Value) (us:List Bool) (w:World) (hP:w.heap[P]? =some (.cells (partC h lv iv) 139 (0,0))) (c1:w.cell? ⟨b,o,none⟩=some v1) (t1:TyL w v1 us) :
 Calls Tryz.prog 63 #[.pointer (some ⟨P,0,none⟩),.slice (some ⟨b,o,none⟩) 1 cap] w (TypesEnd (optT true us) w):=by
 have k0:=(part_cells hP).1;rw [hk] at k0;have HT:=hid t1;clear hP t1
 go_enter Tryz.func63,Tryz.ntmps63
 go_wp2_with fail;go_ret2;exact TypesEnd.of (Kept.refl No w) HT.out
theorem types_sel (P:Nat) (h:Hd) (hk:h.k=2) (lv iv:Value) (b o cap:Nat) (v1:Value) (us:List Bool) (w:World) (hP:w.heap[P]? =some (.cells (partC h lv iv) 139 (0,0))) (hc:∀ c,h.l=.col c→c<10) (hd:∀ c,h.r=.col c→c<10) (hb:b<w.heap.size) (c1:w.cell? ⟨b,o,none⟩=some v1) (t1:TyL w v1 us) :
 Calls Tryz.prog 63 #[.pointer (some ⟨P,0,none⟩),.slice (some ⟨b,o,none⟩) 1 cap] w (TypesEnd (optT (cmpT (tyO us h.l) (tyO us h.r)) us) w):=by
 have k0:=(part_cells hP).1;rw [hk] at k0
 have HC:Hid (∀ w',Kept No w w'→Calls Tryz.prog 107 #[.pointer (some ⟨P,0,none⟩),v1,v1] w' fun e w''=>e=.returned (.bool (cmpT (tyO us h.l) (tyO us h.r)))∧Kept No w' w''):=fun w' hk'=>compares_any P h lv iv v1 v1 us us w' (part_kept hk' hP) hc hd (t1.kept hk') (t1.kept hk')
 have HT:=hid t1;generalize cmpT (tyO us h.l) (tyO us h.r)=r at HC ⊢;clear hP hc hd t1
 go_enter Tryz.func63,Tryz.ntmps63
 go_wp2_with fail
 go_region_held3 (fun w'=>w'.cell? ⟨b,o,none⟩=some v1) (go_keep)
  (first
    | (go_at_call 107
       refine (HC.out _ ((Kept.refl No w).drew)).mono ?_;rintro e w2 ⟨rfl,hk2⟩
       have e0:w2.cell? ⟨b,o,none⟩=some v1:=(hk2.cell hb (fun z=>z)).trans c1
       have HK2:=hid hk2
       clear hk2))
 go_wp2_with fail;go_ret2;exact TypesEnd.of (((Kept.refl No w).drew).seq HK2.out) (HT.out.kept (((Kept.refl No w).drew).seq HK2.out))
theorem types_uni (P:Nat) (h:Hd) (hk:h.k=5) (lv iv:Value) (b o cap:Nat) (v1 v2:Value) (us vs:List Bool) (w:World) (hP:w.heap[P]? =some (.cells (partC h lv iv) 139 (0,0))) (hb:b<w.heap.size) (c1:w.cell? ⟨b,o,none⟩=some v1) (c2:w.cell? ⟨b,o+1,none⟩=some v2) (t1:TyL w v1 us) (t2:TyL w v2 vs) :
 Calls Tryz.prog 63 #[.pointer (some ⟨P,0,none⟩),.slice (some ⟨b,o,none⟩) 2 cap] w (TypesEnd (optT (decide (us=vs)) us) w):=by
 have k0:=(part_cells hP).1;rw [hk] at k0
 have HC:Hid (∀ w',Kept No w w'→Calls Tryz.prog 110 #[v1,v2] w' fun e w''=>e=.returned (.bool (decide (us=vs)))∧Kept No w' w''):=fun w' hk'=>tyEq_any v1 v2 us vs w' (t1.kept hk') (t2.kept hk')
 have HT:=hid t1;generalize decide (us=vs)=r at HC ⊢;clear hP t1 t2
 go_enter Tryz.func63,Tryz.ntmps63
 go_wp2_with fail
 go_region_held3 (fun w'=>w'.cell? ⟨b,o,none⟩=some v1∧w'.cell? ⟨b,o+1,none⟩=some v2) (go_keep)
  (first
    | (go_at_call 110
       refine (HC.out _ ((Kept.refl No w).drew)).mono ?_;rintro e w2 ⟨rfl,hk2⟩
       have e0:w2.cell? ⟨b,o,none⟩=some v1:=(hk2.cell hb (fun z=>z)).trans c1
       have e1:w2.cell? ⟨b,o+1,none⟩=some v2:=(hk2.cell hb (fun z=>z)).trans c2
       have HK2:=hid hk2
       clear hk2))
 go_wp2_with fail;go_ret2;exact TypesEnd.of (((Kept.refl No w).drew).seq HK2.out) (HT.out.kept (((Kept.refl No w).drew).seq HK2.out))
theorem cat_ne {us vs:List Bool} (h:1≤us.length):us++vs≠[]:=fun e=>by rw [(List.append_eq_nil_iff.1 e).1] at h;simp at h
theorem types_join (P:Nat) (h:Hd) (hk:h.k=4) (lv iv:Value) (b o cap:Nat) (v1 v2:Value) (us vs:List Bool) (w:World) (hP:w.heap[P]? =some (.cells (partC h lv iv) 139 (0,0))) (hc:∀ c,h.l=.col c→c<10) (hd:∀ c,h.r=.col c→c<10) (hb:b<w.heap.size) (c1:w.cell? ⟨b,o,none⟩=some v1) (c2:w.cell? ⟨b,o+1,none⟩=some v2) (t1:TyL w v1 us) (t2:TyL w v2 vs) (h0:1≤us.length) (hl:us.length≤6) (hm:vs.length≤6) :
 Calls Tryz.prog 63 #[.pointer (some ⟨P,0,none⟩),.slice (some ⟨b,o,none⟩) 2 cap] w (TypesEnd (optT (cmpT (tyO us h.l) (tyO vs h.r)) (us++vs)) w):=by
 have k0:=(part_cells hP).1;rw [hk] at k0
 have HC:Hid (∀ w',Kept No w w'→Calls Tryz.prog 107 #[.pointer (some ⟨P,0,none⟩),v1,v2] w' fun e w''=>e=.returned (.bool (cmpT (tyO us h.l) (tyO vs h.r)))∧Kept No w' w''):=fun w' hk'=>compares_any P h lv iv v1 v2 us vs w' (part_kept hk' hP) hc hd (t1.kept hk') (t2.kept hk')
 have HD:=hid (concat_two b o cap v1 v2 us vs w.drew hb c1 c2 (t1.kept ((Kept.refl No w).drew)) (t2.kept ((Kept.refl No w).drew)) h0 hl hm);have HNE:=hid (cat_ne (vs:=vs) h0);have HZ:Hid (w.drew.heap.size=w.heap.size):=rfl;generalize cmpT (tyO us h.l) (tyO vs h.r)=r at HC ⊢;clear hP hc hd t1 t2 h0 hl hm
 go_enter Tryz.func63,Tryz.ntmps63
 go_wp2_with fail
 go_region_held3 (fun w'=>w'.cell? ⟨b,o,none⟩=some v1∧w'.cell? ⟨b,o+1,none⟩=some v2) (go_keep)
  (first
    | (go_at_call 109
       refine (HD.out).mono ?_;rintro e w2 ⟨v,rfl,ho2,hk2⟩
       have e0:w2.cell? ⟨b,o,none⟩=some v1:=(hk2.cell hb (fun z=>z)).trans c1
       have e1:w2.cell? ⟨b,o+1,none⟩=some v2:=(hk2.cell hb (fun z=>z)).trans c2
       have HK2:=hid hk2;have HO2:=hid ho2
       clear hk2 ho2)
    | (go_at_call 107
       refine (HC.out _ (((Kept.refl No w).drew).seq HK2.out)).mono ?_;rintro e w3 ⟨rfl,hk3⟩
       have f0:w3.cell? ⟨b,o,none⟩=some v1:=(hk3.cell (Nat.lt_of_lt_of_le hb HK2.out.size) (fun z=>z)).trans e0
       have f1:w3.cell? ⟨b,o+1,none⟩=some v2:=(hk3.cell (Nat.lt_of_lt_of_le hb HK2.out.size) (fun z=>z)).trans e1
       have HK3:=hid hk3
       clear hk3))
 go_wp2_with fail;go_ret2;exact TypesEnd.of ((((Kept.refl No w).drew).seq HK2.out).seq HK3.out) ((TyL.of_owns HO2.out HNE.out).kept HK3.out)
theorem types_pick (P:Nat) (h:Hd) (hk:h.k=3) (lv iv:Value) (b o cap:Nat) (v1:Value) (us:List Bool) (cs:List Nat) (w:World) (hP:w.heap[P]? =some (.cells (partC h lv iv) 139 (0,0))) (hI:IntsAt w lv cs) (hl:cs.length≤6) (h1:1≤cs.length) (hc10:∀ c∈cs,c<10) (c1:w.cell? ⟨b,o,none⟩=some v1) (t1:TyL w v1 us) :
 Calls Tryz.prog 63 #[.pointer (some ⟨P,0,none⟩),.slice (some ⟨b,o,none⟩) 1 cap] w (TypesEnd (optT (allIn us cs) (pickT us cs)) w):=by
 have k0:=(part_cells hP).1;rw [hk] at k0;have HC:=hid (picked_any P h lv iv v1 us cs w hP hI hl hc10 t1)
 have HNE:Hid (pickT us cs≠[]):=fun e=>by have:=pickT_len us cs;rw [e] at this;simp at this;omega
 clear hP hI hl h1 hc10 t1
 go_enter Tryz.func63,Tryz.ntmps63
 go_wp2_with fail;refine HC.out.mono ?_
 rintro e w2 ⟨hk2,⟨ha,v,rfl,ho⟩ | ⟨ha,rfl⟩⟩
 ·have HK:=hid hk2
  have HA:=hid ha;have HO:=hid ho;clear hk2 ha ho HC;go_wp2_with fail;go_ret2;rw [HA.out];exact TypesEnd.of HK.out (TyL.of_owns HO.out HNE.out)
 ·have HK:=hid hk2
  have HA:=hid ha;clear hk2 ha HC;go_wp2_with fail;go_ret2;rw [HA.out];exact ⟨HK.out,.inr ⟨rfl,_,rfl⟩⟩
theorem PickedEnd.uni {us:List Bool} {cs:List Nat} {w:World} {e:Ending} {w':World} (h:PickedEnd us cs w e w') (hl:cs.length≤6):Kept No w w'∧∃ v xs,e=.returned (.tuple #[v,.bool (allIn us cs)])∧w'.ownsRow w.heap.size 130 1 v xs.length (tyVs xs)∧xs.length≤6∧(allIn us cs=true→xs=pickT us cs):=by
 obtain ⟨hk,⟨ha,v,rfl,ho⟩ | ⟨ha,rfl⟩⟩:=h
 ·exact ⟨hk,v,pickT us cs,by rw [ha],ho,by rw [pickT_len];exact hl,fun _=>rfl⟩
 ·exact ⟨hk,_,[],by rw [ha],World.ownsRow_nil _ _ _ _,by simp,fun e=>by rw [ha] at e;cases e⟩
def grpT (us:List Bool) (cs:List Nat) (x:Opd):Bool:=allIn us cs && decide (tyO us x=some false)
theorem types_grp (P:Nat) (h:Hd) (hk:h.k=7) (lv iv:Value) (b o cap:Nat) (v1:Value) (us:List Bool) (cs:List Nat) (w:World) (hP:w.heap[P]? =some (.cells (partC h lv iv) 139 (0,0))) (hI:IntsAt w lv cs) (hl:cs.length≤6) (hc10:∀ c∈cs,c<10) (hw:∀ c,h.w=.col c→c<10) (hb:b<w.heap.size) (c1:w.cell? ⟨b,o,none⟩=some v1) (t1:TyL w v1 us) :
 Calls Tryz.prog 63 #[.pointer (some ⟨P,0,none⟩),.slice (some ⟨b,o,none⟩) 1 cap] w (TypesEnd (optT (grpT us cs h.w) (pickT us cs++[false])) w):=by
 have k0:=(part_cells hP).1;rw [hk] at k0
 have HY:Hid (∀ w:World,w.heap[P]? =some (.cells (partC h lv iv) 139 (0,0))→(loadVar 135 ⟨P,20,none⟩).run Tryz.prog w=.ok (.agg (opA h.w).toArray) w):=fun w hw=>run_loadVar_mid w P 20 135 (opA h.w) _ (part_cells hw).2.2.2.2.2.1 Tryz.underlying135 rfl infoOp
 have HC:=hid (picked_any P h lv iv v1 us cs w hP hI hl hc10 t1);have HL:=hid hl
 have HW:Hid (∀ w1,Kept No w w1→Calls Tryz.prog 111 #[.agg (opA h.w).toArray,v1] w1 fun e w'=>e=.returned (tyR (tyO us h.w))∧Kept No w1 w'):=fun w1 hk1=>typeIn_any h.w us v1 w1 hw (t1.kept hk1)
 have HP:=hid hP;have HC1:=hid c1;obtain ⟨iu,hiu,hu0,hu1,hu2⟩:=info_parts infoVK;have HG:Hid (grpT us cs h.w=(allIn us cs && decide (tyO us h.w=some false))):=rfl;generalize grpT us cs h.w=gg at HG ⊢;generalize tyO us h.w=x at HW HG;generalize (opA h.w).toArray=vw at HW HY;clear hP hI hl hc10 t1 hw
 go_enter Tryz.func63,Tryz.ntmps63
 go_wp2_with fail;refine HC.out.mono ?_;intro e w2 hE;obtain ⟨hk2,v,xs,rfl,ho,hxl,hxs⟩:=hE.uni HL.out;have HK2:=hid hk2;have HO:=hid ho;have HXS:=hid hxs;have HP2:=hid (part_kept hk2 HP.out)
 have c2:w2.cell? ⟨b,o,none⟩=some v1:=(hk2.cell hb (fun e=>e)).trans HC1.out
 have HWC:=hid (fun w1 (hk1:Kept No w2 w1)=>HW.out w1 (hk2.seq hk1))
 generalize allIn us cs=aa at HG HXS;clear hk2 ho hxs HC hE HW c1;have hl2:=lt_of_heap HP2.out;have hb2:=Nat.lt_of_lt_of_le hb HK2.out.size
 have HWD:Hid (∀ (r:Value),tyR x=r→Calls Tryz.prog 111 #[.agg vw,v1] w2.drew fun e w'=>e=.returned r∧Kept No w2 w'):=fun r hr=>by
  subst hr
  exact (HWC.out w2.drew ((Kept.refl No w2).drew)).mono fun e w' ⟨h1,h2⟩=>⟨h1,((Kept.refl No w2).drew).seq h2⟩
 have hS:w2.heap[P]? =some (.cells (partC h lv iv) 139 (0,0))∧w2.cell? ⟨b,o,none⟩=some v1:=⟨HP2.out,c2⟩;have HSS:=hid hS;have HP0:Hid (w.heap[P]? =some (.cells (partC h lv iv) 139 (0,0))):=HP;clear hS HWC HP HP2 c2
 have HTD:∀ (w3:World),Hid (Kept No w2 w3)→Hid (w3.ownsRow w.heap.size 130 1 v xs.length (tyVs xs)∧w.heap.size≤w3.heap.size):=fun w3 hk3=>⟨ownsRow_kept HO.out hk3.out (fun _ _ e=>e),Nat.le_trans HK2.out.size hk3.out.size⟩
 cases x with
 | none =>
   have HWE:=hid (HWD.out (.tuple #[.int .i32 0,.bool false]) rfl);clear HWD;go_wp2_with fail
   refine wp_region_held_drew (S:=fun w'=>w'.heap[P]? =some (.cells (partC h lv iv) 139 (0,0))∧w'.cell? ⟨b,o,none⟩=some v1) (by kernel_rfl) HSS.out (fun hHeld=> ?_)
   refine tk_P 0 (.pointer (some ⟨P,0,none⟩)) hHeld ?_;try simp only [Act.put,n_1,n_2,n_3,n_4,n_5,n_6]
   refine tk_P 1 (.pointer (some ⟨P,0,none⟩)) hHeld ?_;try simp only [Act.put,n_1,n_2,n_3,n_4,n_5,n_6]
   refine tk_P 2 (.pointer (some ⟨P,20,none⟩)) hHeld ?_;try simp only [Act.put,n_1,n_2,n_3,n_4,n_5,n_6]
   refine tk_L 3 (.agg vw) 135 (.tmp 73) (P) (20) (fun w h=>HY.out w h.1) hHeld ?_
   try simp only [Act.put,n_1,n_2,n_3,n_4,n_5,n_6]
   refine tk_P 4 (.slice (some ⟨b,o,none⟩) 1 cap) hHeld ?_;try simp only [Act.put,n_1,n_2,n_3,n_4,n_5,n_6]
   refine tk_P 5 (.pointer (some ⟨b,o,none⟩)) hHeld ?_;try simp only [Act.put,n_1,n_2,n_3,n_4,n_5,n_6]
   refine tk_C 6 (v1) 78 (.tmp 76) (b) (o) (fun w h=>h.2) hHeld ?_
   try simp only [Act.put,n_1,n_2,n_3,n_4,n_5,n_6]
   refine tk_S 7 (fun K hK=> ?_)
   go_simp;refine HWE.out.mono ?_;rintro e w3 ⟨rfl,hk3⟩;have HK3:=hid hk3
   have hS3:w3.heap[P]? =some (.cells (partC h lv iv) 139 (0,0))∧w3.cell? ⟨b,o,none⟩=some v1:=⟨(hk3.block P hl2 (fun e=>e)).trans HSS.out.1,(hk3.cell hb2 (fun e=>e)).trans HSS.out.2⟩
   refine hK.out _ _ hS3 (fun hHeld=> ?_)
   clear hK K hk3;try simp only [Act.put,n_1,n_2,n_3,n_4,n_5,n_6]
   refine tk_P 8 ((.tuple #[.int .i32 0,.bool false])) hHeld ?_;try simp only [Act.put,n_1,n_2,n_3,n_4,n_5,n_6]
   refine tk_P 9 (.int .i32 0) hHeld ?_;try simp only [Act.put,n_1,n_2,n_3,n_4,n_5,n_6]
   refine tk_P 11 (.int .i32 0) hHeld ?_;try simp only [Act.put,n_1,n_2,n_3,n_4,n_5,n_6]
   refine tk_P 10 (.bool false) hHeld ?_;try simp only [Act.put,n_1,n_2,n_3,n_4,n_5,n_6]
   refine tk_P 12 (.bool false) hHeld ?_;try simp only [Act.put,n_1,n_2,n_3,n_4,n_5,n_6]
   refine wpAnyH_done (by kernel_rfl) ?_ _
   clear hHeld hS3 HWE HY HSS;try simp only [Act.put,n_1,n_2,n_3,n_4,n_5,n_6]
   obtain ⟨hown,hsz⟩:=(HTD w3 HK3).out;clear HTD
   cases aa
   ·
    go_wp2_with (first
     | (at_builtin;refine wpList_append_own_at _ rfl _ _ 78 rfl w.heap.size 130 iu (.int .i32 0) 1 4 Tryz.underlying78 hiu hu0 hu1 hu2 rfl (by decide) _ _ _ rfl (hown.alloc _) ⟨w3.heap.size,0,none⟩ 1 1 [.int .i32 0] rfl rfl (World.news_of_block (cs:=#[.int .i32 0]) (t:=130) (fr:=(0,0)) (heap_alloc_last w3 _)) (by intro u hu;simp at hu;subst hu;rfl) (by unfold maxLen;omega) (by omega) (by simp;omega) ?_;intro v' w5 hown5 hg5 _ _)
     | fail)
    have hg:(w3.alloc (.cells #[.int .i32 0] 130)).grownBy w5 v.ownBlock:=hg5
    have HK5:Hid (Kept No w w5):=(((HK2.out.seq HK3.out).alloc _).grown hg (fun x hx=>.inl (own_base hown x hx)))
    have HO5:=hid hown5;clear hg hg5 hown5;go_ret2;rw [HG.out];exact ⟨HK5.out,.inr ⟨rfl,_,rfl⟩⟩
   ·
    go_wp2_with (first
     | (at_builtin;refine wpList_append_own_at _ rfl _ _ 78 rfl w.heap.size 130 iu (.int .i32 0) 1 4 Tryz.underlying78 hiu hu0 hu1 hu2 rfl (by decide) _ _ _ rfl (hown.alloc _) ⟨w3.heap.size,0,none⟩ 1 1 [.int .i32 0] rfl rfl (World.news_of_block (cs:=#[.int .i32 0]) (t:=130) (fr:=(0,0)) (heap_alloc_last w3 _)) (by intro u hu;simp at hu;subst hu;rfl) (by unfold maxLen;omega) (by omega) (by simp;omega) ?_;intro v' w5 hown5 hg5 _ _)
     | fail)
    have hg:(w3.alloc (.cells #[.int .i32 0] 130)).grownBy w5 v.ownBlock:=hg5
    have HK5:Hid (Kept No w w5):=(((HK2.out.seq HK3.out).alloc _).grown hg (fun x hx=>.inl (own_base hown x hx)))
    have HO5:=hid hown5;clear hg hg5 hown5;go_ret2;rw [HG.out];exact ⟨HK5.out,.inr ⟨rfl,_,rfl⟩⟩
 | some t =>
   cases t
   ·have HWE:=hid (HWD.out (.tuple #[.int .i32 0,.bool true]) rfl)
    clear HWD;go_wp2_with fail
    refine wp_region_held_drew (S:=fun w'=>w'.heap[P]? =some (.cells (partC h lv iv) 139 (0,0))∧w'.cell? ⟨b,o,none⟩=some v1) (by kernel_rfl) HSS.out (fun hHeld=> ?_)
    refine tk_P 0 (.pointer (some ⟨P,0,none⟩)) hHeld ?_;try simp only [Act.put,n_1,n_2,n_3,n_4,n_5,n_6]
    refine tk_P 1 (.pointer (some ⟨P,0,none⟩)) hHeld ?_;try simp only [Act.put,n_1,n_2,n_3,n_4,n_5,n_6]
    refine tk_P 2 (.pointer (some ⟨P,20,none⟩)) hHeld ?_;try simp only [Act.put,n_1,n_2,n_3,n_4,n_5,n_6]
    refine tk_L 3 (.agg vw) 135 (.tmp 73) (P) (20) (fun w h=>HY.out w h.1) hHeld ?_
    try simp only [Act.put,n_1,n_2,n_3,n_4,n_5,n_6]
    refine tk_P 4 (.slice (some ⟨b,o,none⟩) 1 cap) hHeld ?_;try simp only [Act.put,n_1,n_2,n_3,n_4,n_5,n_6]
    refine tk_P 5 (.pointer (some ⟨b,o,none⟩)) hHeld ?_;try simp only [Act.put,n_1,n_2,n_3,n_4,n_5,n_6]
    refine tk_C 6 (v1) 78 (.tmp 76) (b) (o) (fun w h=>h.2) hHeld ?_
    try simp only [Act.put,n_1,n_2,n_3,n_4,n_5,n_6]
    refine tk_S 7 (fun K hK=> ?_)
    go_simp;refine HWE.out.mono ?_;rintro e w3 ⟨rfl,hk3⟩;have HK3:=hid hk3
    have hS3:w3.heap[P]? =some (.cells (partC h lv iv) 139 (0,0))∧w3.cell? ⟨b,o,none⟩=some v1:=⟨(hk3.block P hl2 (fun e=>e)).trans HSS.out.1,(hk3.cell hb2 (fun e=>e)).trans HSS.out.2⟩
    refine hK.out _ _ hS3 (fun hHeld=> ?_)
    clear hK K hk3;try simp only [Act.put,n_1,n_2,n_3,n_4,n_5,n_6]
    refine tk_P 8 ((.tuple #[.int .i32 0,.bool true])) hHeld ?_;try simp only [Act.put,n_1,n_2,n_3,n_4,n_5,n_6]
    refine tk_P 9 (.int .i32 0) hHeld ?_;try simp only [Act.put,n_1,n_2,n_3,n_4,n_5,n_6]
    refine tk_P 11 (.int .i32 0) hHeld ?_;try simp only [Act.put,n_1,n_2,n_3,n_4,n_5,n_6]
    refine tk_P 10 (.bool true) hHeld ?_;try simp only [Act.put,n_1,n_2,n_3,n_4,n_5,n_6]
    refine tk_P 12 (.bool true) hHeld ?_;try simp only [Act.put,n_1,n_2,n_3,n_4,n_5,n_6]
    refine wpAnyH_done (by kernel_rfl) ?_ _
    clear hHeld hS3 HWE HY HSS;try simp only [Act.put,n_1,n_2,n_3,n_4,n_5,n_6]
    obtain ⟨hown,hsz⟩:=(HTD w3 HK3).out;clear HTD
    cases aa
    ·
     go_wp2_with (first
      | (at_builtin;refine wpList_append_own_at _ rfl _ _ 78 rfl w.heap.size 130 iu (.int .i32 0) 1 4 Tryz.underlying78 hiu hu0 hu1 hu2 rfl (by decide) _ _ _ rfl (hown.alloc _) ⟨w3.heap.size,0,none⟩ 1 1 [.int .i32 0] rfl rfl (World.news_of_block (cs:=#[.int .i32 0]) (t:=130) (fr:=(0,0)) (heap_alloc_last w3 _)) (by intro u hu;simp at hu;subst hu;rfl) (by unfold maxLen;omega) (by omega) (by simp;omega) ?_;intro v' w5 hown5 hg5 _ _)
      | fail)
     have hg:(w3.alloc (.cells #[.int .i32 0] 130)).grownBy w5 v.ownBlock:=hg5
     have HK5:Hid (Kept No w w5):=(((HK2.out.seq HK3.out).alloc _).grown hg (fun x hx=>.inl (own_base hown x hx)))
     have HO5:=hid hown5;clear hg hg5 hown5;go_ret2;rw [HG.out];exact ⟨HK5.out,.inr ⟨rfl,_,rfl⟩⟩
    ·
     go_wp2_with (first
      | (at_builtin;refine wpList_append_own_at _ rfl _ _ 78 rfl w.heap.size 130 iu (.int .i32 0) 1 4 Tryz.underlying78 hiu hu0 hu1 hu2 rfl (by decide) _ _ _ rfl (hown.alloc _) ⟨w3.heap.size,0,none⟩ 1 1 [.int .i32 0] rfl rfl (World.news_of_block (cs:=#[.int .i32 0]) (t:=130) (fr:=(0,0)) (heap_alloc_last w3 _)) (by intro u hu;simp at hu;subst hu;rfl) (by unfold maxLen;omega) (by omega) (by simp;omega) ?_;intro v' w5 hown5 hg5 _ _)
      | fail)
     have hg:(w3.alloc (.cells #[.int .i32 0] 130)).grownBy w5 v.ownBlock:=hg5
     have HK5:Hid (Kept No w w5):=(((HK2.out.seq HK3.out).alloc _).grown hg (fun x hx=>.inl (own_base hown x hx)))
     have HO5:=hid hown5;clear hg hg5 hown5;go_ret2;rw [HG.out]
     obtain rfl:=HXS.out (by trivial)
     refine TypesEnd.of (b:=true) HK5.out (TyL.of_owns (base:=w.heap.size) ?_ (by simp))
     have:=HO5.out
     rw [List.length_append];unfold tyVs at this ⊢;rw [List.map_append];exact this
   ·have HWE:=hid (HWD.out (.tuple #[.int .i32 1,.bool true]) rfl)
    clear HWD;go_wp2_with fail
    refine wp_region_held_drew (S:=fun w'=>w'.heap[P]? =some (.cells (partC h lv iv) 139 (0,0))∧w'.cell? ⟨b,o,none⟩=some v1) (by kernel_rfl) HSS.out (fun hHeld=> ?_)
    refine tk_P 0 (.pointer (some ⟨P,0,none⟩)) hHeld ?_;try simp only [Act.put,n_1,n_2,n_3,n_4,n_5,n_6]
    refine tk_P 1 (.pointer (some ⟨P,0,none⟩)) hHeld ?_;try simp only [Act.put,n_1,n_2,n_3,n_4,n_5,n_6]
    refine tk_P 2 (.pointer (some ⟨P,20,none⟩)) hHeld ?_;try simp only [Act.put,n_1,n_2,n_3,n_4,n_5,n_6]
    refine tk_L 3 (.agg vw) 135 (.tmp 73) (P) (20) (fun w h=>HY.out w h.1) hHeld ?_
    try simp only [Act.put,n_1,n_2,n_3,n_4,n_5,n_6]
    refine tk_P 4 (.slice (some ⟨b,o,none⟩) 1 cap) hHeld ?_;try simp only [Act.put,n_1,n_2,n_3,n_4,n_5,n_6]
    refine tk_P 5 (.pointer (some ⟨b,o,none⟩)) hHeld ?_;try simp only [Act.put,n_1,n_2,n_3,n_4,n_5,n_6]
    refine tk_C 6 (v1) 78 (.tmp 76) (b) (o) (fun w h=>h.2) hHeld ?_
    try simp only [Act.put,n_1,n_2,n_3,n_4,n_5,n_6]
    refine tk_S 7 (fun K hK=> ?_)
    go_simp;refine HWE.out.mono ?_;rintro e w3 ⟨rfl,hk3⟩;have HK3:=hid hk3
    have hS3:w3.heap[P]? =some (.cells (partC h lv iv) 139 (0,0))∧w3.cell? ⟨b,o,none⟩=some v1:=⟨(hk3.block P hl2 (fun e=>e)).trans HSS.out.1,(hk3.cell hb2 (fun e=>e)).trans HSS.out.2⟩
    refine hK.out _ _ hS3 (fun hHeld=> ?_)
    clear hK K hk3;try simp only [Act.put,n_1,n_2,n_3,n_4,n_5,n_6]
    refine tk_P 8 ((.tuple #[.int .i32 1,.bool true])) hHeld ?_;try simp only [Act.put,n_1,n_2,n_3,n_4,n_5,n_6]
    refine tk_P 9 (.int .i32 1) hHeld ?_;try simp only [Act.put,n_1,n_2,n_3,n_4,n_5,n_6]
    refine tk_P 11 (.int .i32 1) hHeld ?_;try simp only [Act.put,n_1,n_2,n_3,n_4,n_5,n_6]
    refine tk_P 10 (.bool true) hHeld ?_;try simp only [Act.put,n_1,n_2,n_3,n_4,n_5,n_6]
    refine tk_P 12 (.bool true) hHeld ?_;try simp only [Act.put,n_1,n_2,n_3,n_4,n_5,n_6]
    refine wpAnyH_done (by kernel_rfl) ?_ _
    clear hHeld hS3 HWE HY HSS;try simp only [Act.put,n_1,n_2,n_3,n_4,n_5,n_6]
    obtain ⟨hown,hsz⟩:=(HTD w3 HK3).out;clear HTD
    cases aa
    ·
     go_wp2_with (first
      | (at_builtin;refine wpList_append_own_at _ rfl _ _ 78 rfl w.heap.size 130 iu (.int .i32 0) 1 4 Tryz.underlying78 hiu hu0 hu1 hu2 rfl (by decide) _ _ _ rfl (hown.alloc _) ⟨w3.heap.size,0,none⟩ 1 1 [.int .i32 0] rfl rfl (World.news_of_block (cs:=#[.int .i32 0]) (t:=130) (fr:=(0,0)) (heap_alloc_last w3 _)) (by intro u hu;simp at hu;subst hu;rfl) (by unfold maxLen;omega) (by omega) (by simp;omega) ?_;intro v' w5 hown5 hg5 _ _)
      | fail)
     have hg:(w3.alloc (.cells #[.int .i32 0] 130)).grownBy w5 v.ownBlock:=hg5
     have HK5:Hid (Kept No w w5):=(((HK2.out.seq HK3.out).alloc _).grown hg (fun x hx=>.inl (own_base hown x hx)))
     have HO5:=hid hown5;clear hg hg5 hown5;go_ret2;rw [HG.out];exact ⟨HK5.out,.inr ⟨rfl,_,rfl⟩⟩
    ·
     go_wp2_with (first
      | (at_builtin;refine wpList_append_own_at _ rfl _ _ 78 rfl w.heap.size 130 iu (.int .i32 0) 1 4 Tryz.underlying78 hiu hu0 hu1 hu2 rfl (by decide) _ _ _ rfl (hown.alloc _) ⟨w3.heap.size,0,none⟩ 1 1 [.int .i32 0] rfl rfl (World.news_of_block (cs:=#[.int .i32 0]) (t:=130) (fr:=(0,0)) (heap_alloc_last w3 _)) (by intro u hu;simp at hu;subst hu;rfl) (by unfold maxLen;omega) (by omega) (by simp;omega) ?_;intro v' w5 hown5 hg5 _ _)
      | fail)
     have hg:(w3.alloc (.cells #[.int .i32 0] 130)).grownBy w5 v.ownBlock:=hg5
     have HK5:Hid (Kept No w w5):=(((HK2.out.seq HK3.out).alloc _).grown hg (fun x hx=>.inl (own_base hown x hx)))
     have HO5:=hid hown5;clear hg hg5 hown5;go_ret2;rw [HG.out];exact ⟨HK5.out,.inr ⟨rfl,_,rfl⟩⟩
end Go.Proofs.YtdinjjmcmfjbfaaGreatDoor
