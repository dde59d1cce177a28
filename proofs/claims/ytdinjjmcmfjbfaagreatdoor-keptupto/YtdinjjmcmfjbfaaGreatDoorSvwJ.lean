import Derived.Test.YtdinjjmcmfjbfaaGreatDoorSmJ
import Derived.Deep.Heap
set_option maxRecDepth 100000
set_option maxHeartbeats 4000000
namespace Go.Proofs.YtdinjjmcmfjbfaaGreatDoor
open Go.RowKit Go.Shelf
open Mo (V Row Bag cnt canon Eqv OkB OkD neg Nr Q leaves bagQ tyQ wf joins)
abbrev gT:Nat:=1
structure SesAt (w:World) (O:Ow) (p:Nat) (st:Mo.Ses) (xs:List TabS) (vs:List VS) (tv vv:Value):Prop where
 obj:w.heap[p]? =some (.cells #[tv,vv] 76 (0,0))
 own:O p=p+2
 towns:w.ownsRow 0 101 1 tv xs.length (xs.map fun X=>pV X.blk)
 towner:∀ b,tv.ownBlock=some b→O b=p+2
 vowns:w.ownsRow 0 81 1 vv vs.length (vs.map fun V=>pV V.blk)
 vowner:∀ b,vv.ownBlock=some b→O b=p+2
 tab:∀ X∈xs,TabAt w O X
 fx:Fx (Mo.ftT st.tabs) (p+2) xs vs
 tb:xs.map (fun X=>(X.name,X.bag))=st.tabs.map (fun t=>(t.nm,t.bag))
 typ:∀ (i:Nat) (X:TabS) (t:Mo.Tab),xs[i]? =some X→st.tabs[i]? =some t→TyL w X.tv t.ts∧∀ b,X.tv.ownBlock=some b→O b=1
 vq:vs.map VS.q=st.views
 vat:∀ V∈vs,VAt V (Mo.leafG st.tabs V.q) w O
 told:∀ V∈vs,Eqv V.told (Mo.bagS st.tabs V.q)
 vlen:∀ V∈vs,(leaves V.q).length≤60
 vlt:∀ V∈vs,∀ a,VA V a→a<w.heap.size+2
 good:Mo.TabsGood st.tabs
 few:vs.length≤6
 old:∀ k,O k<w.heap.size+2
 out:∀ k,w.heap.size≤k→O k=0
 glb:O gT=0
 env:Env w
section
variable {w w':World} {O:Ow} {p:Nat} {st:Mo.Ses} {xs:List TabS} {vs:List VS} {tv vv:Value}
theorem SesAt.len (h:SesAt w O p st xs vs tv vv):xs.length=st.tabs.length:=by
 have:=congrArg List.length h.tb
 simpa using this
theorem SesAt.at (h:SesAt w O p st xs vs tv vv) {i:Nat} {X:TabS} (hX:xs[i]? =some X):∃ t,st.tabs[i]? =some t∧X.name=t.nm∧X.bag=t.bag:=by
 have h1:(xs.map fun X=>(X.name,X.bag))[i]? =some (X.name,X.bag):=by rw [List.getElem?_map,hX];rfl
 rw [h.tb,List.getElem?_map] at h1;obtain ⟨t,ht,e⟩:=Option.map_eq_some_iff.1 h1
 have:=Prod.mk.inj e
 exact ⟨t,ht,this.1.symm,this.2.symm⟩
theorem SesAt.atm (h:SesAt w O p st xs vs tv vv) {X:TabS} (hX:X∈xs):∃ t∈st.tabs,X.name=t.nm∧X.bag=t.bag:=by
 obtain ⟨i,hi⟩:=List.getElem?_of_mem hX;obtain ⟨t,ht,e⟩:=h.at hi
 exact ⟨t,List.mem_of_getElem? ht,e⟩
theorem own_cells {e:TypeId} {v:Value} {n:Nat} {ls:List Value} (h:w.ownsRow 0 e 1 v n ls):∃ a cap,v=.slice a n cap∧n≤cap∧cap≤maxLen∧∀ (i:Nat) (x:Value),ls[i]? =some x→∃ b o,a=some ⟨b,o,none⟩∧v.ownBlock=some b∧b<w.heap.size∧w.cell? ⟨b,o+i,none⟩=some x:=by
 have hl:=h.1
 rcases h.2 with ⟨e,hn⟩ | ⟨g,cap,cur,e,_,hg,hc1,hc2,hc3,hc4⟩
 ·refine ⟨none,0,by rw [e,hn],by omega,by unfold maxLen;omega,fun i x hx=> ?_⟩
  have:=(List.getElem?_eq_some_iff.1 hx).1
  omega
 ·refine ⟨some ⟨g,0,none⟩,cap,e,hc1,hc2,fun i x hx=>⟨g,0,rfl,by rw [e];rfl,lt_of_heap hg,?_⟩⟩
  rw [Nat.mul_one] at hc4;rw [←hc4,List.getElem?_take] at hx;rw [cell_of hg,Nat.zero_add]
  split at hx
  ·simpa using hx
  ·cases hx
theorem SesAt.tabs (h:SesAt w O p st xs vs tv vv):TabsAt w O tv (p+2) xs:=by
 obtain ⟨a,cap,h1,h2,h3,h4⟩:=own_cells h.towns
 refine ⟨⟨a,cap,h1,h2,h3,fun i X hX=> ?_⟩,h.tab⟩
 obtain ⟨b,o,e1,e2,e3,e4⟩:=h4 i (pV X.blk) (by rw [List.getElem?_map,hX];rfl)
 exact ⟨b,o,e1,e3,h.towner b e2,e4⟩
theorem SesAt.stays (h:SesAt w O p st xs vs tv vv) (hs:w.heap.size≤w'.heap.size) (hk:∀ k,k<w.heap.size→O k≠0→w'.heap[k]? =w.heap[k]?) (hE:Env w'):SesAt w' O p st xs vs tv vv where
 obj:=(hk p (lt_of_heap h.obj) (by rw [h.own];omega)).trans h.obj
 own:=h.own
 towns:=owns_blk h.towns fun b e=>by obtain ⟨c,z,hx⟩:=owns_mem h.towns e;exact hk b (lt_of_heap hx) (by rw [h.towner b e];omega)
 towner:=h.towner
 vowns:=owns_blk h.vowns fun b e=>by obtain ⟨c,z,hx⟩:=owns_mem h.vowns e;exact hk b (lt_of_heap hx) (by rw [h.vowner b e];omega)
 vowner:=h.vowner
 tab:=fun X hX=>(h.tab X hX).stab fun k hk' e=>⟨hk k hk' (by rw [e];omega),rfl⟩
 fx:=h.fx
 tb:=h.tb
 typ:=fun i X t hX ht=>⟨(h.typ i X t hX ht).1.stays fun b e hb=>hk b hb.lt (by rw [(h.typ i X t hX ht).2 b e];omega),(h.typ i X t hX ht).2⟩
 vq:=h.vq
 vat:=fun V hV=>(h.vat V hV).stab hs fun k hk' e=>⟨hk k hk' (by
  rcases e with e | e
  ·have:=(h.fx.va V hV _ e).1;omega
  ·omega),rfl⟩
 told:=h.told
 vlen:=h.vlen
 vlt:=fun V hV a ha=>by have:=h.vlt V hV a ha;omega
 good:=h.good
 few:=h.few
 old:=fun k=>by have:=h.old k;omega
 out:=fun k hk'=>h.out k (by omega)
 glb:=h.glb
 env:=hE
theorem SesAt.keep (h:SesAt w O p st xs vs tv vv) (k:Kept No w w'):SesAt w' O p st xs vs tv vv:=h.stays k.size (fun i hi _=>k.block i hi (fun e=>e)) (h.env.keptNo k)
end
def Sess (w:World) (X:Nat→Prop) (p:Nat) (st:Mo.Ses):Prop:=∃ O xs vs tv vv,SesAt w O p st xs vs tv vv∧∀ k,X k↔O k≠0
def SKept (X X':Nat→Prop) (w w':World):Prop:=Kept X w w'∧∀ k,X' k→X k∨w.heap.size≤k
theorem Sess.stays {w w':World} {X S:Nat→Prop} {p:Nat} {st:Mo.Ses} (h:Sess w X p st) (k:Kept S w w') (hS:∀ i,S i→¬X i) (hg:¬S gT):Sess w' X p st:=by
 obtain ⟨O,xs,vs,tv,vv,h1,h2⟩:=h
 exact ⟨O,xs,vs,tv,vv,h1.stays k.size (fun i hi hn=>k.block i hi fun e=>hS i e ((h2 i).2 hn)) (h1.env.kept k hg),h2⟩
theorem Sess.glb {w:World} {X:Nat→Prop} {p:Nat} {st:Mo.Ses} (h:Sess w X p st):¬X gT:=by
 obtain ⟨O,xs,vs,tv,vv,h1,h2⟩:=h
 exact fun e=>(h2 _).1 e h1.glb
theorem Sess.lt {w:World} {X:Nat→Prop} {p:Nat} {st:Mo.Ses} (h:Sess w X p st) {k:Nat} (hk:X k):k<w.heap.size:=by
 obtain ⟨O,xs,vs,tv,vv,h1,h2⟩:=h
 rcases Nat.lt_or_ge k w.heap.size with hl | hl
 ·exact hl
 ·exact absurd (h1.out k hl) ((h2 k).1 hk)
theorem Sess.env {w:World} {X:Nat→Prop} {p:Nat} {st:Mo.Ses} (h:Sess w X p st):Env w:=by
 obtain ⟨O,xs,vs,tv,vv,h1,h2⟩:=h;exact h1.env
theorem new_walk (w:World):Calls Tryz.prog 34 #[] w fun e w'=>e=.returned (pV w.heap.size)∧w'=w.alloc (.cells #[.slice none 0 0,.slice none 0 0] 76):=by
 go_enter Tryz.func34,Tryz.ntmps34
 go_wp2_with fail;go_ret;exact ⟨rfl,rfl⟩
theorem new_any (w:World) (hE:Env w):Calls Tryz.prog 34 #[] w fun e w'=>e=.returned (pV w.heap.size)∧Sess w' (fun k=>k=w.heap.size) w.heap.size ⟨[],[]⟩∧Kept No w w':=by
 refine (new_walk w).mono fun e w' ⟨h1,h2⟩=>⟨h1,?_,by rw [h2];exact (Kept.refl No w).alloc _⟩
 have hk:Kept No w w':=by rw [h2];exact (Kept.refl No w).alloc _
 have hsz:w'.heap.size=w.heap.size+1:=by rw [h2];simp
 refine ⟨fun k=>if k=w.heap.size then w.heap.size+2 else 0,[],[],.slice none 0 0,.slice none 0 0,?_,fun k=> ?_⟩
 ·refine ⟨by rw [h2];exact heap_alloc_last _ _,if_pos rfl,World.ownsRow_nil _ _ _ _,(fun b e=>by cases e),World.ownsRow_nil _ _ _ _,(fun b e=>by cases e),(fun X hX=>by cases hX),?_,rfl,(fun i X t hX=>by simp at hX),rfl,(fun V hV=>by cases hV),(fun V hV=>by cases hV),(fun V hV=>by cases hV),(fun V hV=>by cases hV),?_,by simp,fun k=> ?_,fun k hk'=> ?_,?_,hE.keptNo hk⟩
  ·exact ⟨List.nodup_nil,List.nodup_nil,List.nodup_nil,(fun V hV=>by cases hV),(fun V hV=>by cases hV),⟨by omega,fun X hX=>by cases hX⟩,(fun V hV=>by cases hV),(fun X hX=>by cases hX),(fun X hX=>by cases hX)⟩
  ·exact ⟨(fun t ht=>by cases ht),List.nodup_nil,by show (0:Int)≤60;decide,by simp⟩
  ·show (if k=w.heap.size then w.heap.size+2 else 0)<_
   split <;> omega
  ·show (if k=w.heap.size then w.heap.size+2 else 0)=0
   rw [if_neg (by omega)]
  ·show (if gT=w.heap.size then w.heap.size+2 else 0)=0
   rw [if_neg (by have:gT<w.heap.size:=hE.lt
                  omega)]
 ·show k=w.heap.size↔(if k=w.heap.size then w.heap.size+2 else 0)≠0
  split
  ·next h=>exact ⟨fun _=>by omega,fun _=>h⟩
  ·next h=>exact ⟨fun e=>absurd e h,fun e=>absurd rfl e⟩
def showM (st:Mo.Ses) (i:Int):List UInt8 × Int:=if 0≤i∧i<st.views.length then (match st.views[i.toNat]? with
 | some q=>bagTxt (Mo.bagS st.tabs q)
 | none=>[],0) else ([],9)
section
variable {w:World} {O:Ow} {p:Nat} {st:Mo.Ses} {xs:List TabS} {vs:List VS} {tv vv:Value}
theorem SesAt.okS (h:SesAt w O p st xs vs tv vv) {V:VS} (hV:V∈vs):OkB V.ts (Mo.bagS st.tabs V.q)∧Nr (Mo.bagS st.tabs V.q)≤50000000000:=by
 have hf:=h.fx.fix V hV;have hs:=Mo.leafG_small h.good V.q;exact ⟨Mo.okQ (Mo.ftT_len h.good) hs.2 V.q hf.wf hf.len hf.jn 0 (Mo.leafG_ty h.good V.q) hf.ty,Mo.bound60 V.q (h.vlen V hV) hf.jn hs.1 0⟩
end
theorem show_no (p n cap:Nat) (sa:Option Addr) (i:Int) (w:World) (hi:i<0∨(n:Int)≤i) (hp:w.cell? ⟨p,1,none⟩=some (.slice sa n cap)) :
 Calls Tryz.prog 19 #[pV p,.int .i64 i] w fun e w'=>e=.returned (.tuple #[.string ⟨#[]⟩,.int .i64 9])∧Kept No w w':=by
 show Calls Tryz.prog 19 #[.pointer (some ⟨p,0,none⟩),.int .i64 i] w _
 by_cases h0:i<0
 ·go_enter Tryz.func19,Tryz.ntmps19
  go_wp2_with fail;go_ret2;exact ⟨rfl,Kept.refl _ _⟩
 ·have h1:(n:Int)≤i:=by omega
  clear hi
  go_enter Tryz.func19,Tryz.ntmps19
  go_wp2_with fail;go_ret2;exact ⟨rfl,Kept.refl _ _⟩
theorem show_yes (p n cap b o blk:Nat) (i:Nat) (hv:Value) (t:ByteArray) (w:World) (hi:i<n) (_hc:n≤cap) (hm:cap≤maxLen) (hp:w.cell? ⟨p,1,none⟩=some (.slice (some ⟨b,o,none⟩) n cap)) (h1:w.cell? ⟨b,o+i,none⟩=some (.pointer (some ⟨blk,0,none⟩))) (h2:w.cell? ⟨blk,0,none⟩=some hv)
 (hW:∀ w1,Kept No w w1→Calls Tryz.prog 42 #[hv] w1 fun e w'=>e=.returned (.string t)∧Kept No w1 w') :
 Calls Tryz.prog 19 #[pV p,.int .i64 (i:Int)] w fun e w'=>e=.returned (.tuple #[.string t,.int .i64 0])∧Kept No w w':=by
 show Calls Tryz.prog 19 #[.pointer (some ⟨p,0,none⟩),.int .i64 (i:Int)] w _
 have hx0:¬(i:Int)<0:=by omega
 have hx1:¬(n:Int)≤(i:Int):=by omega
 have hx2:(i:Int)<(n:Int):=by omega
 have hcap:cap≤9223372036854775807:=by unfold maxLen at hm;omega
 have HW:=hid hW;clear hW hm
 go_enter Tryz.func19,Tryz.ntmps19
 go_wp2_with fail;refine (HW.out w (Kept.refl _ _)).mono ?_;rintro e w1 ⟨rfl,hk1⟩;have HK:=hid hk1;clear hk1 HW;go_wp2_with fail;go_ret2;exact ⟨rfl,HK.out⟩
def strL (t:List UInt8):Value:=.string ⟨t.toArray⟩
theorem show_any {w:World} {X:Nat→Prop} {p:Nat} {st:Mo.Ses} (h:Sess w X p st) (i:Int) :
 Calls Tryz.prog 19 #[pV p,.int .i64 i] w fun e w'=>e=.returned (.tuple #[strL (showM st i).1,.int .i64 (showM st i).2])∧Sess w' X p st∧Kept No w w':=by
 have hst:∀ w',Kept No w w'→Sess w' X p st:=fun w' hk=>h.stays hk (fun _ e=>e.elim) (fun e=>e)
 obtain ⟨O,xs,vs,tv,vv,h1,h2⟩:=h;obtain ⟨a,cap,e1,e2,e3,e4⟩:=own_cells h1.vowns;have c1:w.cell? ⟨p,1,none⟩=some vv:=(cell_of h1.obj 1).trans rfl
 have hlen:st.views.length=vs.length:=by rw [←h1.vq];simp
 by_cases hi:0≤i∧i<st.views.length
 ·obtain ⟨n,rfl⟩:∃ n:Nat,i=(n:Int):=⟨i.toNat,by omega⟩
  have hn:n<vs.length:=by omega
  obtain ⟨V,hV⟩:∃ V,vs[n]? =some V:=⟨_,List.getElem?_eq_getElem hn⟩
  have hVm:=List.mem_of_getElem? hV
  obtain ⟨b,o,f1,f2,f3,f4⟩:=e4 n (pV V.blk) (by rw [List.getElem?_map,hV];rfl)
  have hq:st.views[n]? =some V.q:=by rw [←h1.vq,List.getElem?_map,hV];rfl
  have hM:showM st (n:Int)=(bagTxt (Mo.bagS st.tabs V.q),0):=by unfold showM;rw [if_pos hi];simp [hq]
  rw [hM];obtain ⟨⟨v0,hv,uv,v1,v2,v3,v4⟩,_⟩:=h1.vat V hVm;obtain ⟨ok,nr⟩:=h1.okS hVm
  have hbw:BWr V.ts (canon V.told):=by
   have:=bwr_one ok nr
   have ee:=(h1.told V hVm).canon;rw [ee]
   exact ⟨fun r hr=>this.ty r (by rw [Mo.canon_cnt] at hr;exact hr),fun r=>by rw [Mo.canon_cnt];exact this.bd r,by rw [Mo.canon_of_rise (Mo.canon_rise _)];exact this.len⟩
  have et:bagTxt (canon V.told)=bagTxt (Mo.bagS st.tabs V.q):=bagTxt_eqv ((Mo.canon_eqv _).trans (h1.told V hVm));rw [e1,f1] at c1
  refine (show_yes p vs.length cap b o V.blk n hv ⟨(bagTxt (Mo.bagS st.tabs V.q)).toArray⟩ w hn e2 e3 c1 f4 ((cell_of v1 0).trans rfl) fun w1 hk1=> ?_).mono fun e w' ⟨g1,g2⟩=>⟨g1,hst w' g2,g2⟩
  rw [←et];exact written_any hv _ w1 (v2.1.keptNo hk1) hbw (h1.env.keptNo hk1)
 ·have hM:showM st i=([],9):=by unfold showM;rw [if_neg hi]
  rw [hM];rw [e1] at c1
  exact (show_no p vs.length cap a i w (by omega) c1).mono fun e w' ⟨g1,g2⟩=>⟨g1,hst w' g2,g2⟩
theorem infoPT:(Tryz.prog.info? 101).map (fun i=>(i.zero,i.size,i.bytes))=some (some (.pointer none),1,8):=by kernel_rfl
def TabMade (p n:Nat) (nm:ByteArray) (us:List Bool) (tv:Value) (ls:List Value) (w:World) (e:Ending) (w':World):Prop :=
 e=.returned (.int .i64 0)∧∃ w2 w5 b cap v',Kept No w w2∧w.heap.size≤b∧TyL w2 (.slice (some ⟨b,0,none⟩) us.length cap) us∧w5.ownsRow 0 101 1 v' (n+1) (ls++[pV w2.heap.size]) ∧
  ((w2.alloc (.cells #[.slice none 0 0,.map none,.string nm,.slice (some ⟨b,0,none⟩) us.length cap] 125)).alloc (.cells #[pV w2.heap.size] 101)).grownBy w5 tv.ownBlock∧(v'.ownBlock=tv.ownBlock∨v'.ownBlock=some (w2.heap.size+2))∧w'=w5.setCell ⟨p,0,none⟩ v'
theorem own_succ {w:World} {base:Nat} {e:TypeId} {v:Value} {n:Nat} {xs:List Value} (h:w.ownsRow base e 1 v (n+1) xs):∃ g cap,v=.slice (some ⟨g,0,none⟩) (n+1) cap:=by
 rcases h.2 with ⟨_,h0⟩ | ⟨g,cap,_,e,_⟩
 ·exact absurd h0 (by omega)
 ·exact ⟨g,cap,e⟩
theorem table_made (p n:Nat) (tv vv:Value) (ts:List (Nat × List UInt8)) (nm tp:ByteArray) (us:List Bool) (w:World) (ls:List Value) (hp:w.heap[p]? =some (.cells #[tv,vv] 76 (0,0))) (hO:w.ownsRow 0 101 1 tv n ls) (hN:TNames w tv ts) (hn:ts.length=n) (h4:n<4) (h1:isNm nm=true) (h2:typesP tp=some us) (h3:tfind ts nm.data.toList<0) :
 Calls Tryz.prog 35 #[pV p,.string nm,.string tp] w (TabMade p n nm us tv ls w):=by
 show Calls Tryz.prog 35 #[.pointer (some ⟨p,0,none⟩),.string nm,.string tp] w _
 have HRN:=hid (readName_any nm w)
 have HRT:Hid (∀ w1,Calls Tryz.prog 59 #[.string tp] w1 (TypesRd (typesP tp) w1)):=fun w1=>readTypes_any tp w1
 rw [h2] at HRT;rw [h1] at HRN;have HP:=hid hp;have HO:=hid hO;have HN:=hid hN;have hpl:=lt_of_heap hp
 obtain ⟨ta,tcap,rfl⟩:∃ a cap,tv=.slice a n cap:=by obtain ⟨a,cap,e,_⟩:=own_cells hO;exact ⟨a,cap,e⟩
 have hn4:((n:Int) == 4)=false:=by simp;omega
 obtain ⟨iu,hiu,hu0,hu1,hu2⟩:=info_parts infoPT;clear hp hO hN
 go_enter Tryz.func35,Tryz.ntmps35
 go_wp2_with fail;refine HRN.out.mono ?_;rintro e w1 ⟨⟨nm',rfl,hnm⟩,hk1⟩
 obtain rfl:=hnm (by trivial)
 have HK1:=hid hk1;clear hk1 HRN hnm;go_wp2_with fail;refine (HRT.out w1).mono ?_;rintro e w2 ⟨hk2,hend⟩
 obtain ⟨us',b,cap,he,rfl,hb,hty⟩:=hend.resolve_right (fun ⟨h,_⟩=>by cases h)
 obtain rfl:us=us':=by simpa using he
 have HK2:=hid (HK1.out.seq hk2);have HTy:=hid hty;have hwb:w.heap.size≤b:=Nat.le_trans HK1.out.size hb
 have c0:w2.cell? ⟨p,0,none⟩=some (.slice ta n tcap):=(HK2.out.cell hpl (fun e=>e)).trans ((cell_of HP.out 0).trans rfl)
 have HFD:=hid (find_any (.slice ta n tcap) ts nm'.data.toList w2 (HN.out.kept HK2.out) (by omega))
 have hnm:(⟨nm'.data.toList.toArray⟩:ByteArray)=nm':=by rw [Array.toArray_toList]
 rw [hnm] at HFD
 have h3':¬(0:Int)≤tfind ts nm'.data.toList:=by omega
 generalize tfind ts nm'.data.toList=ix at HFD h3 h3';clear hk2 he hty hb HRT hnm;go_wp2_with fail;refine HFD.out.mono ?_;rintro e w3 ⟨rfl,hk3⟩;have HK3:=hid (HK2.out.seq hk3);have HTy3:=hid (HTy.out.kept hk3)
 have hp3:w3.heap[p]? =some (.cells #[.slice ta n tcap,vv] 76 (0,0)):=(HK3.out.block p hpl (fun e=>e)).trans HP.out
 have c3:w3.cell? ⟨p,0,none⟩=some (.slice ta n tcap):=(cell_of hp3 0).trans rfl
 have hown3:w3.ownsRow 0 101 1 (.slice ta n tcap) n ls:=ownsRow_kept HO.out HK3.out (fun _ _ e=>e)
 have HP3:=hid hp3;have hpl3:=lt_of_heap hp3
 have hpo:some p≠(Value.slice ta n tcap).ownBlock:=fun e=>by have:=own_is hown3 p e.symm;exact absurd (this.ne hp3) (by decide)
 clear hk3 HFD c0 HTy hp3
 go_wp2_with (first
  | (at_builtin;refine wpList_append_own_at _ rfl _ _ 73 rfl 0 101 iu (.pointer none) 1 8 Tryz.underlying73 hiu hu0 hu1 hu2 rfl (by decide) _ _ _ rfl ((hown3.alloc _).alloc _) ⟨w3.heap.size+1,0,none⟩ 1 1 [.pointer (some ⟨w3.heap.size,0,none⟩)] rfl rfl (by have:=World.news_of_block (cs:=#[.pointer (some ⟨w3.heap.size,0,none⟩)]) (t:=101) (fr:=(0,0)) (heap_alloc_last (w3.alloc (.cells #[.slice none 0 0,.map none,.string nm',.slice (some ⟨b,0,none⟩) us.length cap] 125)) (.cells #[.pointer (some ⟨w3.heap.size,0,none⟩)] 101));simpa using this) (by intro u hu;simp at hu;subst hu;rfl) (by unfold maxLen;omega) (by omega) (by omega) ?_;intro v5 w5 hownN hgN _ hatN;obtain ⟨g5,cap5,rfl⟩:=own_succ hownN;have hg5:w5.heap[p]? =w3.heap[p]? :=(hgN.block p (by simp;omega) hpo).trans ((Below.heap_alloc _ _ _ (by simp;omega)).trans (Below.heap_alloc _ _ _ hpl3));have z5:w5.cell? ⟨p,0,none⟩=some (.slice ta n tcap):=(World.cell?_of_block hg5).trans c3;have f5:w5.frozen? ⟨p,0,none⟩=false:=(World.frozen?_of_block hg5).trans (frozen_of HP3.out 0))
  | fail)
 have hat':(Value.slice (some ⟨g5,0,none⟩) (n+1) cap5).ownBlock=(Value.slice ta n tcap).ownBlock∨(Value.slice (some ⟨g5,0,none⟩) (n+1) cap5).ownBlock=some (w3.heap.size+2):=by
  rcases hatN with h | h
  ·exact .inl h
  ·refine .inr (h.trans ?_)
   simp
 have HFin:Hid (TabMade p n nm' us (.slice ta n tcap) ls w (.returned (.int .i64 0)) (w5.setCell ⟨p,0,none⟩ (.slice (some ⟨g5,0,none⟩) (n+1) cap5))):=⟨rfl,w3,w5,b,cap,_,HK3.out,hwb,HTy3.out,hownN,hgN,hat',rfl⟩;go_ret;exact HFin.out
theorem table_name (p:Nat) (nm tp:ByteArray) (w:World) (h1:isNm nm=false) :
 Calls Tryz.prog 35 #[pV p,.string nm,.string tp] w fun e w'=>e=.returned (.int .i64 2)∧Kept No w w':=by
 show Calls Tryz.prog 35 #[.pointer (some ⟨p,0,none⟩),.string nm,.string tp] w _
 have HRN:=hid (readName_any nm w)
 have HRT:Hid (∀ w1,Calls Tryz.prog 59 #[.string tp] w1 (TypesRd (typesP tp) w1)):=fun w1=>readTypes_any tp w1
 rw [h1] at HRN
 go_enter Tryz.func35,Tryz.ntmps35
 go_wp2_with fail;refine HRN.out.mono ?_;rintro e w1 ⟨⟨nm',rfl,-⟩,hk1⟩;have HK1:=hid hk1;clear hk1 HRN;go_wp2_with fail;refine (HRT.out w1).mono ?_
 rintro e w2 ⟨hk2,⟨us',b,cap,he,rfl,hb,hty⟩ | ⟨he,v,rfl⟩⟩
 ·have HK2:=hid (HK1.out.seq hk2)
  clear hk2 he hty hb HRT;go_wp2_with fail;go_ret;exact ⟨rfl,HK2.out⟩
 ·have HK2:=hid (HK1.out.seq hk2)
  clear hk2 he HRT;go_wp2_with fail;go_ret;exact ⟨rfl,HK2.out⟩
theorem table_types (p:Nat) (nm tp:ByteArray) (w:World) (h1:isNm nm=true) (h2:typesP tp=none) :
 Calls Tryz.prog 35 #[pV p,.string nm,.string tp] w fun e w'=>e=.returned (.int .i64 2)∧Kept No w w':=by
 show Calls Tryz.prog 35 #[.pointer (some ⟨p,0,none⟩),.string nm,.string tp] w _
 have HRN:=hid (readName_any nm w)
 have HRT:Hid (∀ w1,Calls Tryz.prog 59 #[.string tp] w1 (TypesRd (typesP tp) w1)):=fun w1=>readTypes_any tp w1
 rw [h1] at HRN;rw [h2] at HRT
 go_enter Tryz.func35,Tryz.ntmps35
 go_wp2_with fail;refine HRN.out.mono ?_;rintro e w1 ⟨⟨nm',rfl,-⟩,hk1⟩;have HK1:=hid hk1;clear hk1 HRN;go_wp2_with fail;refine (HRT.out w1).mono ?_;rintro e w2 ⟨hk2,hend⟩
 obtain ⟨-,v,rfl⟩:=hend.resolve_left (fun ⟨_,_,_,h,_⟩=>by cases h)
 have HK2:=hid (HK1.out.seq hk2);clear hk2 hend HRT;go_wp2_with fail;go_ret;exact ⟨rfl,HK2.out⟩
theorem table_many (p n cap0:Nat) (ta:Option Addr) (nm tp:ByteArray) (us:List Bool) (w:World) (hpl:p<w.heap.size) (hp:w.cell? ⟨p,0,none⟩=some (.slice ta n cap0)) (h4:n=4) (h1:isNm nm=true) (h2:typesP tp=some us) :
 Calls Tryz.prog 35 #[pV p,.string nm,.string tp] w fun e w'=>e=.returned (.int .i64 4)∧Kept No w w':=by
 show Calls Tryz.prog 35 #[.pointer (some ⟨p,0,none⟩),.string nm,.string tp] w _
 have HRN:=hid (readName_any nm w)
 have HRT:Hid (∀ w1,Calls Tryz.prog 59 #[.string tp] w1 (TypesRd (typesP tp) w1)):=fun w1=>readTypes_any tp w1
 rw [h1] at HRN;rw [h2] at HRT;subst h4;have HP:=hid hp;clear hp
 go_enter Tryz.func35,Tryz.ntmps35
 go_wp2_with fail;refine HRN.out.mono ?_;rintro e w1 ⟨⟨nm',rfl,-⟩,hk1⟩;have HK1:=hid hk1;clear hk1 HRN;go_wp2_with fail;refine (HRT.out w1).mono ?_;rintro e w2 ⟨hk2,hend⟩
 obtain ⟨us',b,cap,he,rfl,hb,hty⟩:=hend.resolve_right (fun ⟨h,_⟩=>by cases h)
 have HK2:=hid (HK1.out.seq hk2)
 have c0:w2.cell? ⟨p,0,none⟩=some (.slice ta 4 cap0):=(HK2.out.cell hpl (fun e=>e)).trans HP.out
 clear hk2 hend he hb hty HRT;go_wp2_with fail;go_ret;exact ⟨rfl,HK2.out⟩
theorem table_there (p n cap0:Nat) (ta:Option Addr) (ts:List (Nat × List UInt8)) (nm tp:ByteArray) (us:List Bool) (w:World) (hpl:p<w.heap.size) (hp:w.cell? ⟨p,0,none⟩=some (.slice ta n cap0)) (hN:TNames w (.slice ta n cap0) ts) (hl:ts.length≤1000) (h4:n<4) (h1:isNm nm=true) (h2:typesP tp=some us) (h3:0≤tfind ts nm.data.toList) :
 Calls Tryz.prog 35 #[pV p,.string nm,.string tp] w fun e w'=>e=.returned (.int .i64 5)∧Kept No w w':=by
 show Calls Tryz.prog 35 #[.pointer (some ⟨p,0,none⟩),.string nm,.string tp] w _
 have HRN:=hid (readName_any nm w)
 have HRT:Hid (∀ w1,Calls Tryz.prog 59 #[.string tp] w1 (TypesRd (typesP tp) w1)):=fun w1=>readTypes_any tp w1
 rw [h1] at HRN;rw [h2] at HRT;have HP:=hid hp;have HN:=hid hN
 have hn4:((n:Int) == 4)=false:=by simp;omega
 clear hp hN
 go_enter Tryz.func35,Tryz.ntmps35
 go_wp2_with fail;refine HRN.out.mono ?_;rintro e w1 ⟨⟨nm',rfl,hnm⟩,hk1⟩
 obtain rfl:=hnm (by trivial)
 have HK1:=hid hk1;clear hk1 HRN hnm;go_wp2_with fail;refine (HRT.out w1).mono ?_;rintro e w2 ⟨hk2,hend⟩
 obtain ⟨us',b,cap,he,rfl,hb,hty⟩:=hend.resolve_right (fun ⟨h,_⟩=>by cases h)
 have HK2:=hid (HK1.out.seq hk2)
 have c0:w2.cell? ⟨p,0,none⟩=some (.slice ta n cap0):=(HK2.out.cell hpl (fun e=>e)).trans HP.out
 have HFD:=hid (find_any (.slice ta n cap0) ts nm'.data.toList w2 (HN.out.kept HK2.out) hl)
 have hnm:(⟨nm'.data.toList.toArray⟩:ByteArray)=nm':=by rw [Array.toArray_toList]
 rw [hnm] at HFD;generalize tfind ts nm'.data.toList=ix at HFD h3;clear hk2 hend he hb hty HRT hnm;go_wp2_with fail;refine HFD.out.mono ?_;rintro e w3 ⟨rfl,hk3⟩;have HK3:=hid (HK2.out.seq hk3);clear hk3 HFD;go_wp2_with fail;go_ret;exact ⟨rfl,HK3.out⟩
end Go.Proofs.YtdinjjmcmfjbfaaGreatDoor
namespace Go.Proofs.YtdinjjmcmfjbfaaGreatDoor.Mo
theorem tyQ_leaf {f:List UInt8→Option (List Bool)}:∀ (q:Q) (ts:List Bool),tyQ f q=some ts→∀ nm∈leaves q,∃ us,f nm=some us
 | .tab nm,ts,h,nm',hm=>by
   have:nm'=nm:=by simpa [leaves] using hm
   subst this;exact ⟨ts,h⟩
 | .sel c k x q,ts,h,nm,hm=>by obtain ⟨us,hu,_⟩:=Option.bind_eq_some_iff.1 h;exact tyQ_leaf q us hu nm hm
 | .pick cs q,ts,h,nm,hm=>by obtain ⟨us,hu,_⟩:=Option.bind_eq_some_iff.1 h;exact tyQ_leaf q us hu nm hm
 | .dist q,ts,h,nm,hm=>tyQ_leaf q ts h nm hm
 | .grp cs s q,ts,h,nm,hm=>by obtain ⟨us,hu,_⟩:=Option.bind_eq_some_iff.1 h;exact tyQ_leaf q us hu nm hm
 | .join n m q r,ts,h,nm,hm=>by
   obtain ⟨us,hu,h2⟩:=Option.bind_eq_some_iff.1 (show (tyQ f q).bind (fun ts=>(tyQ f r).bind fun us=>tyJoin n m ts us)=some ts from h)
   obtain ⟨vs,hv,_⟩:=Option.bind_eq_some_iff.1 h2
   rcases List.mem_append.1 (show nm∈leaves q++leaves r from hm) with hm | hm
   ·exact tyQ_leaf q us hu nm hm
   ·exact tyQ_leaf r vs hv nm hm
 | .uni q r,ts,h,nm,hm=>by
   obtain ⟨us,hu,h2⟩:=Option.bind_eq_some_iff.1 (show (tyQ f q).bind (fun ts=>(tyQ f r).bind fun us=>if ts=us then some ts else none)=some ts from h)
   obtain ⟨vs,hv,_⟩:=Option.bind_eq_some_iff.1 h2
   rcases List.mem_append.1 (show nm∈leaves q++leaves r from hm) with hm | hm
   ·exact tyQ_leaf q us hu nm hm
   ·exact tyQ_leaf r vs hv nm hm
theorem tyQ_ext {f g:List UInt8→Option (List Bool)}:∀ (q:Q),(∀ nm∈leaves q,f nm=g nm)→tyQ f q=tyQ g q
 | .tab nm,h=>h nm (by simp [leaves])
 | .sel c k x q,h=>by show (tyQ f q).bind _=(tyQ g q).bind _;rw [tyQ_ext q h]
 | .pick cs q,h=>by show (tyQ f q).bind _=(tyQ g q).bind _;rw [tyQ_ext q h]
 | .dist q,h=>tyQ_ext q h
 | .grp cs s q,h=>by show (tyQ f q).bind _=(tyQ g q).bind _;rw [tyQ_ext q h]
 | .join n m q r,h=>by
   show ((tyQ f q).bind fun ts=>(tyQ f r).bind fun us=>_)=(tyQ g q).bind fun ts=>(tyQ g r).bind fun us=>_
   rw [tyQ_ext q fun nm hm=>h nm (List.mem_append.2 (.inl hm)),tyQ_ext r fun nm hm=>h nm (List.mem_append.2 (.inr hm))]
 | .uni q r,h=>by
   show ((tyQ f q).bind fun ts=>(tyQ f r).bind fun us=>_)=(tyQ g q).bind fun ts=>(tyQ g r).bind fun us=>_
   rw [tyQ_ext q fun nm hm=>h nm (List.mem_append.2 (.inl hm)),tyQ_ext r fun nm hm=>h nm (List.mem_append.2 (.inr hm))]
theorem tabT_more {tb:List Tab} {x:Tab} {nm:List UInt8} {t:Tab} (h:tabT tb nm=some t):tabT (tb++[x]) nm=some t:=by
 unfold tabT at h ⊢;rw [List.find?_append,h];rfl
theorem ftT_some {tb:List Tab} {nm:List UInt8} {us:List Bool} (h:ftT tb nm=some us):∃ t,tabT tb nm=some t∧t.ts=us:=by
 obtain ⟨t,ht,e⟩:=Option.map_eq_some_iff.1 h;exact ⟨t,ht,e⟩
theorem more_ty {tb:List Tab} {x:Tab} {q:Q} {ts:List Bool} (h:tyQ (ftT tb) q=some ts):tyQ (ftT (tb++[x])) q=some ts:=by
 rw [←h]
 refine tyQ_ext q fun nm hm=> ?_
 obtain ⟨us,hu⟩:=tyQ_leaf q ts h nm hm;obtain ⟨t,ht,_⟩:=ftT_some hu;unfold ftT;rw [tabT_more ht,ht]
theorem more_leaf {tb:List Tab} {x:Tab} {q:Q} {ts:List Bool} (h:tyQ (ftT tb) q=some ts):leafG (tb++[x]) q=leafG tb q:=by
 funext j
 unfold leafG
 cases hj:(leaves q)[j]? with
 | none=>rfl
 | some nm =>
   obtain ⟨us,hu⟩:=tyQ_leaf q ts h nm (List.mem_of_getElem? hj)
   obtain ⟨t,ht,_⟩:=ftT_some hu
   simp only
   unfold bagN;rw [tabT_more ht,ht]
theorem more_bag {tb:List Tab} {x:Tab} {q:Q} {ts:List Bool} (h:tyQ (ftT tb) q=some ts):bagS (tb++[x]) q=bagS tb q:=by
 unfold bagS;rw [more_leaf h]
theorem tabT_none {tb:List Tab} {nm:List UInt8}:tabT tb nm=none↔∀ t∈tb,t.nm≠nm:=by
 unfold tabT;rw [List.find?_eq_none]
 simp
theorem more_good {tb:List Tab} (h:TabsGood tb) {nm:List UInt8} {us:List Bool} (hn:tabT tb nm=none) (h1:1≤us.length∧us.length≤4) (h2:TOk (.txt nm)) (h3:tb.length<4):TabsGood (tb++[⟨nm,us,[]⟩]):=by
 refine ⟨fun t ht=> ?_,?_,?_,by simp;omega⟩
 ·rcases List.mem_append.1 ht with ht | ht
  ·exact h.each t ht
  ·rw [List.mem_singleton] at ht
   subst ht
   exact ⟨fun r=>Int.le_refl _,(fun e he=>by cases he),(fun e he=>by cases he),(fun e he=>by cases he),h1,h2⟩
 ·rw [List.map_append,List.nodup_append]
  refine ⟨h.nod,by simp,fun a ha b hb e=> ?_⟩
  simp at hb
  subst e hb;obtain ⟨t,ht,e⟩:=List.mem_map.1 ha;exact tabT_none.1 hn t ht e
 ·have:=h.rows
  unfold rowsT at this ⊢;rw [List.map_append,List.sum_append]
  simp [Nr,lin]
  exact this
end Go.Proofs.YtdinjjmcmfjbfaaGreatDoor.Mo
namespace Go.Proofs.YtdinjjmcmfjbfaaGreatDoor
open Mo (TOk)
theorem isNm_ok {s:ByteArray} (h:isNm s=true):TOk (.txt s.data.toList):=by
 unfold isNm at h
 have h':(Pl.let4 s 0).1=true∧(Pl.let4 s 0).2=s.size:=by simpa using h
 have e:Pl.let4 s 0=(true,s.size):=Prod.ext h'.1 h'.2
 have:=let4_ok (by omega) e
 have hs:sub s 0 s.size=s.data.toList:=by rw [sub_eq,List.drop_zero];exact List.take_of_length_le (by rw [ba_len];exact Nat.le_refl _)
 rw [hs] at this;exact this
theorem typesP_len {s:ByteArray} {us:List Bool} (h:typesP s=some us):1≤us.length∧us.length≤4:=by
 unfold typesP at h
 by_cases hs:1≤s.size∧s.size≤4
 ·rw [if_pos hs] at h
  rw [tysP_len h,ba_len];exact hs
 ·rw [if_neg hs] at h;cases h
theorem tfind_iff:∀ (ts:List (Nat × List UInt8)) (nm:List UInt8),tfind ts nm<0↔∀ x∈ts,x.2≠nm
 | [],nm=>by simp [tfind]
 | x::ts,nm=>by
   simp only [tfind];have ih:=tfind_iff ts nm;have hg:=tfind_ge ts nm
   by_cases hx:x.2=nm
   ·rw [if_pos hx]
    exact ⟨fun h=>by omega,fun h=>absurd hx (h x (by simp))⟩
   ·rw [if_neg hx]
    by_cases hn:tfind ts nm= -1
    ·rw [if_pos hn]
     refine ⟨fun _ y hy=> ?_,fun _=>by omega⟩
     rcases List.mem_cons.1 hy with rfl | hy
     ·exact hx
     ·exact ih.1 (by omega) y hy
    ·rw [if_neg hn]
     refine ⟨fun h=>by omega,fun h=> ?_⟩
     have:=ih.2 fun y hy=>h y (by simp [hy])
     omega
open Go.RowKit Go.Shelf Go.Deep
open Mo (V Row Bag cnt canon Eqv OkB OkD neg Nr Q leaves bagQ tyQ wf joins)
def tableM (st:Mo.Ses) (nm tp:ByteArray):Int × Mo.Ses:=if isNm nm then (match typesP tp with
 | none=>(2,st)
 | some us=>if st.tabs.length=4 then (4,st) else if (Mo.tabT st.tabs nm.data.toList).isSome then (5,st) else (0,⟨st.tabs++[⟨nm.data.toList,us,[]⟩],st.views⟩)) else (2,st)
section
variable {w w':World} {O:Ow} {p:Nat} {st:Mo.Ses} {xs:List TabS} {vs:List VS} {tv vv:Value}
theorem SesAt.find (h:SesAt w O p st xs vs tv vv) (nm:List UInt8):tfind (xs.map fun X=>(X.blk,X.name)) nm<0↔Mo.tabT st.tabs nm=none:=by
 rw [tfind_iff,Mo.tabT_none]
 constructor
 ·intro hf t ht
  obtain ⟨i,hi⟩:=List.getElem?_of_mem ht
  obtain ⟨X,hX⟩:∃ X,xs[i]? =some X:=⟨_,List.getElem?_eq_getElem (by rw [h.len];exact (List.getElem?_eq_some_iff.1 hi).1)⟩
  obtain ⟨t',ht',e1,_⟩:=h.at hX;rw [hi] at ht'
  obtain rfl:t=t':=by simpa using ht'
  have:=hf (X.blk,X.name) (List.mem_map.2 ⟨X,List.mem_of_getElem? hX,rfl⟩)
  rw [←e1];exact this
 ·intro hf x hx
  obtain ⟨X,hX,rfl⟩:=List.mem_map.1 hx;obtain ⟨t,ht,e1,_⟩:=h.atm hX
  show X.name≠nm
  rw [e1];exact hf t ht
theorem SesAt.blk_lt (h:SesAt w O p st xs vs tv vv) {X:TabS} (hX:X∈xs):X.blk<w.heap.size:=by
 obtain ⟨_,v,hv,h1,_⟩:=h.tab X hX;exact lt_of_heap h1
theorem SesAt.more (h:SesAt w O p st xs vs tv vv) {nm:ByteArray} {us:List Bool} (h1:isNm nm=true) (h2:1≤us.length∧us.length≤4) (h3:Mo.tabT st.tabs nm.data.toList=none) (h4:st.tabs.length<4) {e:Ending}
 (hm:TabMade p xs.length nm us tv (xs.map fun X=>pV X.blk) w e w'):∃ O' xs' tv',SesAt w' O' p ⟨st.tabs++[⟨nm.data.toList,us,[]⟩],st.views⟩ xs' vs tv' vv∧Kept (fun k=>O k≠0) w w'∧∀ k,O' k≠0→O k≠0∨w.heap.size≤k:=by
 obtain ⟨-,w2,w5,b,cap,v',hk2,hb,hty,hown,hgr,hat,rfl⟩:=hm;have hp:=lt_of_heap h.obj;have hs2:=hk2.size
 have hbl:b<w2.heap.size:=by
  obtain ⟨b',o',cap',e,hb',_⟩:=hty
  injection e with e1;injection e1 with e1;injection e1 with e1
  rw [e1];exact hb'.lt
 have hs5:w2.heap.size+2≤w5.heap.size:=by have:=hgr.size;simpa using this
 have hs':(w5.setCell ⟨p,0,none⟩ v').heap.size=w5.heap.size:=nblk_setCell _ _ _
 have tlt:∀ k,tv.ownBlock=some k→k<w.heap.size∧k≠p:=fun k e=>by
  obtain ⟨c,z,hc⟩:=owns_mem h.towns e
  refine ⟨lt_of_heap hc,fun e'=> ?_⟩
  subst e';rw [h.obj] at hc
  injection hc with hc;injection hc with _ hc;exact absurd hc (by decide)
 have hpo:some p≠tv.ownBlock:=fun e=>(tlt p e.symm).2 rfl
 have blk2:∀ k,k<w2.heap.size→k≠p→some k≠tv.ownBlock→(w5.setCell ⟨p,0,none⟩ v').heap[k]? =w2.heap[k]? :=fun k hk hn ht=>by
  rw [blk_setCell_other _ _ _ _ hn,hgr.block k (by simp;omega) ht,Below.heap_alloc _ _ _ (by simp;omega),Below.heap_alloc _ _ _ hk]
 have blk:∀ k,k<w.heap.size→k≠p→some k≠tv.ownBlock→(w5.setCell ⟨p,0,none⟩ v').heap[k]? =w.heap[k]? :=fun k hk hn ht=>(blk2 k (by omega) hn ht).trans (hk2.block k hk (fun e=>e))
 have keep:∀ k,k<w.heap.size→O k≠p+2→(w5.setCell ⟨p,0,none⟩ v').heap[k]? =w.heap[k]? :=fun k hk hn=>blk k hk (fun e=>hn (by rw [e];exact h.own)) (fun e=>hn (h.towner k e.symm))
 have hobj5:w5.heap[p]? =some (.cells #[tv,vv] 76 (0,0)):=by
  rw [hgr.block p (by simp;omega) hpo,Below.heap_alloc _ _ _ (by simp;omega),Below.heap_alloc _ _ _ (by omega),hk2.block p hp (fun e=>e)]
  exact h.obj
 have hobj:(w5.setCell ⟨p,0,none⟩ v').heap[p]? =some (.cells #[v',vv] 76 (0,0)):=by rw [heap_set hobj5];rfl
 have htab:(w5.setCell ⟨p,0,none⟩ v').heap[w2.heap.size]? =some (.cells #[.slice none 0 0,.map none,.string nm,.slice (some ⟨b,0,none⟩) us.length cap] 125 (0,0)):=by
  rw [blk_setCell_other _ _ _ _ (by show w2.heap.size≠p;omega),hgr.block _ (by simp;omega) (fun e=>by have:=(tlt _ e.symm).1;omega),Below.heap_alloc _ _ _ (by simp)]
  exact heap_alloc_last _ _
 have hv'k:∀ k,v'.ownBlock=some k→k≠p∧(k<w.heap.size→O k=p+2)∧(w.heap.size≤k→k=w2.heap.size+2)∧k<w5.heap.size:=fun k e=>by
  obtain ⟨c,z,hc⟩:=owns_mem hown e
  rcases hat with h' | h'
  ·have:=tlt k (h'.symm.trans e)
   exact ⟨this.2,fun _=>h.towner k (h'.symm.trans e),fun _=>by omega,lt_of_heap hc⟩
  ·have:k=w2.heap.size+2:=by rw [e] at h';simpa using h'
   exact ⟨by omega,fun _=>by omega,fun _=>this,lt_of_heap hc⟩
 have hown':(w5.setCell ⟨p,0,none⟩ v').ownsRow 0 101 1 v' (xs.length+1) ((xs.map fun X=>pV X.blk)++[pV w2.heap.size]):=owns_blk hown fun k e=>blk_setCell_other _ _ _ _ (hv'k k e).1
 have hKept:Kept (fun k=>O k≠0) w (w5.setCell ⟨p,0,none⟩ v'):=by
  refine Kept.setCell (Kept.grown (((hk2.any (S:=fun k=>O k≠0)).alloc _).alloc _) hgr fun r e=>.inr (by show O r≠0;rw [h.towner r e];omega)) (.inr (by show O p≠0;rw [h.own];omega)) v'
 refine ⟨fun k=>if k<w.heap.size then O k else if k=b then 1 else if k=w2.heap.size then w2.heap.size+2 else if v'.ownBlock=some k then p+2 else 0,xs++[⟨w2.heap.size,nm.data.toList,[],[],.slice (some ⟨b,0,none⟩) us.length cap⟩],v',?_,hKept,fun k hk=> ?_⟩
 case refine_2 =>
  rcases Nat.lt_or_ge k w.heap.size with hl | hl
  ·exact .inl (by simpa [hl] using hk)
  ·exact .inr hl
 generalize hO':(fun k=>if k<w.heap.size then O k else if k=b then 1 else if k=w2.heap.size then w2.heap.size+2 else if v'.ownBlock=some k then p+2 else 0)=O'
 have o1:∀ k,k<w.heap.size→O' k=O k:=fun k hk=>by rw [←hO'];exact if_pos hk
 have o2:O' b=1:=by rw [←hO'];show (if b<_ then _ else if b=b then 1 else _)=1;rw [if_neg (by omega),if_pos rfl]
 have o3:O' w2.heap.size=w2.heap.size+2:=by rw [←hO'];show (if _<_ then _ else if _=b then 1 else if _=_ then _ else _)=_;rw [if_neg (by omega),if_neg (by omega),if_pos rfl]
 have o4:∀ k,v'.ownBlock=some k→O' k=p+2:=fun k e=>by
  obtain ⟨_,q2,q3,_⟩:=hv'k k e
  rcases Nat.lt_or_ge k w.heap.size with hl | hl
  ·rw [o1 k hl];exact q2 hl
  ·have:=q3 hl
   rw [←hO'];show (if _<_ then _ else if _=b then 1 else if _=_ then _ else if _ then _ else _)=_
   rw [if_neg (by omega),if_neg (by omega),if_neg (by omega),if_pos e]
 have o5:∀ k,w5.heap.size≤k→O' k=0:=fun k hk=>by
  rw [←hO'];show (if _<_ then _ else if _=b then 1 else if _=_ then _ else if _ then _ else _)=_
  rw [if_neg (by omega),if_neg (by omega),if_neg (by omega),if_neg (fun e=>by have:=(hv'k k e).2.2.2;omega)]
 have o6:∀ k,O' k<w5.heap.size+2:=fun k=>by
  have q0:=h.old k
  have q1:O k<w5.heap.size+2:=by omega
  have q2:1<w5.heap.size+2:=by omega
  have q3:w2.heap.size+2<w5.heap.size+2:=by omega
  have q4:p+2<w5.heap.size+2:=by omega
  have q5:0<w5.heap.size+2:=by omega
  rw [←hO'];show (if _<_ then _ else if _=b then 1 else if _=_ then _ else if _ then _ else _)<_
  split
  ·exact q1
  ·split
   ·exact q2
   ·split
    ·exact q3
    ·split
     ·exact q4
     ·exact q5
 have hgl:gT<w.heap.size:=h.env.lt
 have hno:∀ V∈vs,∀ j,(leaves V.q)[j]?≠some nm.data.toList:=fun V hV j hj=>by
  obtain ⟨us',hu⟩:=Mo.tyQ_leaf V.q V.ts (h.fx.fix V hV).ty _ (List.mem_of_getElem? hj)
  obtain ⟨t,ht,_⟩:=Mo.ftT_some hu
  rw [h3] at ht;cases ht
 have hprs:prs vs nm.data.toList=[]:=by
  refine List.eq_nil_iff_forall_not_mem.2 fun x hx=> ?_
  obtain ⟨q1,q2⟩:=mem_prs.1 hx;exact hno _ q1 _ q2
 have hmemn:∀ {X:TabS},X∈xs++[(⟨w2.heap.size,nm.data.toList,[],[],.slice (some ⟨b,0,none⟩) us.length cap⟩:TabS)]→X∈xs∨X=⟨w2.heap.size,nm.data.toList,[],[],.slice (some ⟨b,0,none⟩) us.length cap⟩:=fun hX=>(List.mem_append.1 hX).imp id List.mem_singleton.1
 have hbn:O' b≠p+2:=by rw [o2];omega
 refine ⟨hobj,by rw [o1 p hp];exact h.own,?_,o4,?_,?_,?_,?_,?_,?_,h.vq,?_,?_,h.vlen,?_,?_,h.few,?_,?_,?_,?_⟩
 ·rw [List.length_append,List.map_append];exact hown'
 ·exact owns_blk h.vowns fun k e=>by
   obtain ⟨c,z,hc⟩:=owns_mem h.vowns e
   refine blk k (lt_of_heap hc) (fun e'=> ?_) (fun e'=> ?_)
   ·subst e'
    rw [h.obj] at hc;injection hc with hc;injection hc with _ hc;exact absurd hc (by decide)
   ·obtain ⟨c',z',hc'⟩:=owns_mem h.towns e'.symm
    rw [hc] at hc';injection hc' with hc';injection hc' with _ hc';exact absurd hc' (by decide)
 ·intro k e
  obtain ⟨c,z,hc⟩:=owns_mem h.vowns e;rw [o1 k (lt_of_heap hc)];exact h.vowner k e
 ·intro X hX
  rcases hmemn hX with hX | rfl
  ·exact (h.tab X hX).stab fun k hk e=>⟨keep k hk (by rw [e];exact h.fx.id.2 X hX),o1 k hk⟩
  ·refine ⟨o3,.slice none 0 0,.map none,?_,World.ownsRow_nil _ _ _ _,(fun k e=>by cases e),.inl ⟨rfl,rfl⟩,(fun k e=>by cases e)⟩
   show (w5.setCell ⟨p,0,none⟩ v').heap[w2.heap.size]? =_
   rw [htab,Array.toArray_toList]
 ·have hx:=h.fx
  refine ⟨?_,?_,hx.vb,hx.dis,?_,⟨hx.id.1,?_⟩,?_,?_,?_⟩
  ·rw [List.map_append,List.nodup_append]
   refine ⟨hx.nm,by simp,fun a ha c hc e=> ?_⟩
   obtain ⟨X,hX,rfl⟩:=List.mem_map.1 ha;obtain ⟨t,ht,e1,_⟩:=h.atm hX
   have hc':c=nm.data.toList:=by simpa using hc
   exact Mo.tabT_none.1 h3 t ht (by rw [←e1,←hc'];exact e)
  ·rw [List.map_append,List.nodup_append]
   refine ⟨hx.bl,by simp,fun a ha c hc e=> ?_⟩
   obtain ⟨X,hX,rfl⟩:=List.mem_map.1 ha
   have hc':c=w2.heap.size:=by simpa using hc
   have:=h.blk_lt hX
   omega
  ·intro V hV a ha
   obtain ⟨q1,q2,q3⟩:=hx.va V hV a ha
   refine ⟨q1,q2,fun X hX=> ?_⟩
   rcases hmemn hX with hX | rfl
   ·exact q3 X hX
   ·have:=h.vlt V hV a ha
    show a≠w2.heap.size+2
    omega
  ·intro X hX
   rcases hmemn hX with hX | rfl
   ·exact hx.id.2 X hX
   ·show w2.heap.size+2≠p+2
    omega
  ·intro V hV
   have:=hx.fix V hV
   exact ⟨Mo.more_ty this.ty,this.wf,this.len,this.jn,this.shape,this.nod,this.own,this.told⟩
  ·intro X hX
   rcases hmemn hX with hX | rfl
   ·exact hx.tks X hX
   ·show []=_
    rw [hprs];rfl
  ·intro X hX
   rcases hmemn hX with hX | rfl
   ·exact hx.few X hX
   ·show 0≤_
    omega
 ·show List.map _ (xs++_)=List.map _ (st.tabs++_)
  rw [List.map_append,List.map_append,h.tb];rfl
 ·intro i X t hX ht
  rcases Nat.lt_or_ge i xs.length with hl | hl
  ·rw [List.getElem?_append_left hl] at hX
   rw [List.getElem?_append_left (by rw [←h.len];exact hl)] at ht
   obtain ⟨q1,q2⟩:=h.typ i X t hX ht
   exact ⟨q1.stays fun k e hi=>keep k hi.lt (by rw [q2 k e];omega),fun k e=>by
    have hk:k<w.heap.size:=by
     obtain ⟨b',o',cap',e',hb',_⟩:=q1;rw [e'] at e
     have:b'=k:=by simpa [Value.ownBlock] using e
     rw [←this];exact hb'.lt
    rw [o1 k hk];exact q2 k e⟩
  ·rw [List.getElem?_append_right hl] at hX
   rw [List.getElem?_append_right (by rw [←h.len];exact hl)] at ht
   have h0:i-xs.length=0:=by have:=(List.getElem?_eq_some_iff.1 hX).1;simp at this;omega
   rw [h0] at hX;rw [←h.len,h0] at ht
   cases hX
   cases ht
   refine ⟨hty.stays fun k e hi=>blk2 k hi.lt ?_ ?_,fun k e=> ?_⟩
   ·have:b=k:=by simpa [Value.ownBlock] using e
    omega
   ·have:b=k:=by simpa [Value.ownBlock] using e
    exact fun e'=>by have:=(tlt k e'.symm).1;omega
   ·have:b=k:=by simpa [Value.ownBlock] using e
    rw [←this];exact o2
 ·intro V hV
  show VAt V (Mo.leafG (st.tabs++_) V.q) _ _
  rw [Mo.more_leaf (h.fx.fix V hV).ty]
  exact (h.vat V hV).stab (by rw [hs'];omega) fun k hk e=>⟨keep k hk (by
   rcases e with e | e
   ·exact (h.fx.va V hV _ e).2.1
   ·omega),o1 k hk⟩
 ·intro V hV
  show Eqv V.told (Mo.bagS (st.tabs++_) V.q)
  rw [Mo.more_bag (h.fx.fix V hV).ty];exact h.told V hV
 ·intro V hV a ha
  have:=h.vlt V hV a ha
  rw [hs'];omega
 ·exact Mo.more_good h.good h3 h2 (isNm_ok h1) h4
 ·intro k
  rw [hs'];exact o6 k
 ·intro k hk
  rw [hs'] at hk;exact o5 k hk
 ·rw [o1 _ hgl];exact h.glb
 ·exact h.env.kept hKept (fun e=>e h.glb)
end
theorem table_any {w:World} {X:Nat→Prop} {p:Nat} {st:Mo.Ses} (h:Sess w X p st) (nm tp:ByteArray) :
 Calls Tryz.prog 35 #[pV p,.string nm,.string tp] w fun e w'=>e=.returned (.int .i64 (tableM st nm tp).1)∧∃ X',Sess w' X' p (tableM st nm tp).2∧SKept X X' w w':=by
 have hst:∀ w',Kept No w w'→∃ X',Sess w' X' p st∧SKept X X' w w':=fun w' hk=>⟨X,h.stays hk (fun _ e=>e.elim) (fun e=>e),hk.any,fun _ e=>.inl e⟩
 obtain ⟨O,xs,vs,tv,vv,h1,h2⟩:=h;unfold tableM
 by_cases hn:isNm nm=true
 ·rw [if_pos hn]
  cases ht:typesP tp with
  | none=>exact (table_types p nm tp w hn ht).mono fun e w' ⟨g1,g2⟩=>⟨g1,hst w' g2⟩
  | some us =>
    simp only
    obtain ⟨a,cap,e1,e2,e3,e4⟩:=own_cells h1.towns
    have c0:w.cell? ⟨p,0,none⟩=some (.slice a xs.length cap):=by rw [←e1];exact (cell_of h1.obj 0).trans rfl
    have hN:=h1.tabs.names;have hpl:=lt_of_heap h1.obj
    by_cases h4:st.tabs.length=4
    ·rw [if_pos h4]
     exact (table_many p xs.length cap a nm tp us w hpl c0 (by rw [h1.len];exact h4) hn ht).mono fun e w' ⟨g1,g2⟩=>⟨g1,hst w' g2⟩
    ·rw [if_neg h4]
     have hlt:st.tabs.length<4:=by have:=h1.good.few;omega
     by_cases hf:Mo.tabT st.tabs nm.data.toList=none
     ·rw [hf]
      have hmm:=table_made p xs.length tv vv (xs.map fun X=>(X.blk,X.name)) nm tp us w (xs.map fun X=>pV X.blk) h1.obj h1.towns hN (by simp) (by rw [h1.len];exact hlt) hn ht ((h1.find _).2 hf)
      refine hmm.mono fun e w' hm=>⟨hm.1,?_⟩
      obtain ⟨O',xs',tv',q1,q2,q3⟩:=h1.more hn (typesP_len ht) hf hlt hm
      exact ⟨fun k=>O' k≠0,⟨O',xs',vs,tv',vv,q1,fun _=>Iff.rfl⟩,q2.mono fun i _ e=>(h2 i).2 e,fun k e=>(q3 k e).imp (fun e=>(h2 k).2 e) id⟩
     ·have hs:(Mo.tabT st.tabs nm.data.toList).isSome=true:=Option.isSome_iff_ne_none.2 hf
      rw [hs]
      have hge:0≤tfind (xs.map fun X=>(X.blk,X.name)) nm.data.toList:=by
       rcases Int.lt_or_le (tfind (xs.map fun X=>(X.blk,X.name)) nm.data.toList) 0 with hl | hl
       ·exact absurd ((h1.find _).1 hl) hf
       ·exact hl
      rw [e1] at hN
      exact (table_there p xs.length cap a (xs.map fun X=>(X.blk,X.name)) nm tp us w hpl c0 hN (by rw [List.length_map,h1.len];omega) (by rw [h1.len];exact hlt) hn ht hge).mono fun e w' ⟨g1,g2⟩=>⟨g1,hst w' g2⟩
 ·rw [if_neg hn]
  exact (table_name p nm tp w (by simpa using hn)).mono fun e w' ⟨g1,g2⟩=>⟨g1,hst w' g2⟩
theorem infoPV:(Tryz.prog.info? 81).map (fun i=>(i.zero,i.size,i.bytes))=some (some (.pointer none),1,8):=by kernel_rfl
theorem view_made (p n:Nat) (tv vv:Value) (s:ByteArray) (w:World) (ls:List Value) (F:ByteArray→World→Prop) (hn:n<6)
 (hR:Calls Tryz.prog 36 #[.string s] w fun e w1=>∃ pp,e=.returned (.tuple #[.pointer (some ⟨pp,0,none⟩),.int .i64 0,.int .i64 0])∧w1.cell? ⟨p,0,none⟩=some tv∧(∃ a cap,vv=.slice a n cap)∧w1.cell? ⟨p,1,none⟩=some vv ∧
   Calls Tryz.prog 37 #[tv,pV pp] w1 fun e w2=>e=.returned (.bool true)∧w2.cell? ⟨p,0,none⟩=some tv ∧
    Calls Tryz.prog 38 #[tv,pV pp] w2 fun e w3=>∃ v,e=.returned (.tuple #[v,.bool true])∧w3.heap[p]? =some (.cells #[tv,vv] 76 (0,0)) ∧
     Calls Tryz.prog 39 #[tv,pV pp,.iface 81 (.pointer (some ⟨w3.heap.size,0,none⟩))] (w3.alloc (.cells #[.map none,.map none] 87)) fun e w4=>e=.returned (.tuple #[])∧w4.heap[p]? =some (.cells #[tv,vv] 76 (0,0))∧w4.ownsRow 0 81 1 vv n ls ∧
      ∀ v' w5,w5.ownsRow 0 81 1 v' (n+1) (ls++[pV w3.heap.size])→(w4.alloc (.cells #[pV w3.heap.size] 81)).grownBy w5 vv.ownBlock→(v'.ownBlock=vv.ownBlock∨v'.ownBlock=some (w4.heap.size+1)) →
        Calls Tryz.prog 40 #[.pointer (some ⟨w3.heap.size,0,none⟩)] (w5.setCell ⟨p,1,none⟩ v').drew fun e w'=>∃ t,e=.returned (.string t)∧w'.cell? ⟨p,1,none⟩=some v'∧F t w') :
 Calls Tryz.prog 17 #[pV p,.string s] w fun e w'=>∃ t,e=.returned (.tuple #[.int .i64 (n:Int),.string t,.int .i64 0])∧F t w':=by
 show Calls Tryz.prog 17 #[.pointer (some ⟨p,0,none⟩),.string s] w _
 have HR:=hid hR;obtain ⟨iu,hiu,hu0,hu1,hu2⟩:=info_parts infoPV
 have hn6:((n:Int) == 6)=false:=by simp;omega
 clear hR
 go_enter Tryz.func17,Tryz.ntmps17
 go_wp2_with fail;refine HR.out.mono ?_;rintro e w1 ⟨pp,rfl,c0,⟨va,vcap,rfl⟩,c1,hH⟩;have HH:=hid hH;clear hH HR;go_wp2_with fail;refine HH.out.mono ?_;rintro e w2 ⟨rfl,c2,hT⟩;have HT:=hid hT;clear hT HH;go_wp2_with fail;refine HT.out.mono ?_;rintro e w3 ⟨tyv,rfl,hp3,hL⟩;have HL:=hid hL;have hpl3:=lt_of_heap hp3;have c3:(w3.alloc (.cells #[.map none,.map none] 87)).cell? ⟨p,0,none⟩=some tv:=(World.cell?_of_block (Below.heap_alloc _ _ _ hpl3)).trans ((cell_of hp3 0).trans rfl);clear hL HT hp3;go_wp2_with fail;refine HL.out.mono ?_;rintro e w4 ⟨rfl,hp4,hown4,hF⟩;have HF:=hid hF;have HP4:=hid hp4;have hpl4:=lt_of_heap hp4;have c4:w4.cell? ⟨p,1,none⟩=some (.slice va n vcap):=(cell_of hp4 1).trans rfl
 have hpo:some p≠(Value.slice va n vcap).ownBlock:=fun e=>by have:=own_is hown4 p e.symm;exact absurd (this.ne hp4) (by decide)
 clear hF HL hp4
 go_wp2_with (first
  | (at_builtin;refine wpList_append_own_at _ rfl _ _ 74 rfl 0 81 iu (.pointer none) 1 8 Tryz.underlying74 hiu hu0 hu1 hu2 rfl (by decide) _ _ _ rfl (hown4.alloc _) ⟨w4.heap.size,0,none⟩ 1 1 [.pointer (some ⟨w3.heap.size,0,none⟩)] rfl rfl (by have:=World.news_of_block (cs:=#[.pointer (some ⟨w3.heap.size,0,none⟩)]) (t:=81) (fr:=(0,0)) (heap_alloc_last w4 (.cells #[.pointer (some ⟨w3.heap.size,0,none⟩)] 81));simpa using this) (by intro u hu;simp at hu;subst hu;rfl) (by unfold maxLen;omega) (by omega) (by omega) ?_;intro v5 w5 hownN hgN _ hatN;obtain ⟨g5,cap5,rfl⟩:=own_succ hownN;have hg5:w5.heap[p]? =w4.heap[p]? :=(hgN.block p (by simp;omega) hpo).trans (Below.heap_alloc _ _ _ hpl4);have z5:w5.cell? ⟨p,1,none⟩=some (.slice va n vcap):=(World.cell?_of_block hg5).trans c4;have f5:w5.frozen? ⟨p,1,none⟩=false:=(World.frozen?_of_block hg5).trans (frozen_of HP4.out 1))
  | fail)
 have hat':(Value.slice (some ⟨g5,0,none⟩) (n+1) cap5).ownBlock=(Value.slice va n vcap).ownBlock∨(Value.slice (some ⟨g5,0,none⟩) (n+1) cap5).ownBlock=some (w4.heap.size+1):=by
  rcases hatN with h | h
  ·exact .inl h
  ·refine .inr (h.trans ?_)
   simp
 have HT:=hid (HF.out _ _ hownN hgN hat')
 have z6:(w5.setCell ⟨p,1,none⟩ (.slice (some ⟨g5,0,none⟩) (n+1) cap5)).cell? ⟨p,1,none⟩=some (.slice (some ⟨g5,0,none⟩) (n+1) cap5):=by
  rw [cell_of (heap_set (hg5.trans HP4.out) 1 _)];rfl
 have hwr:IntKind.i64.wrap (n:Int)=n:=IntWalk.i64_in _ (by omega)
 clear hgN hownN hatN hat' HF hg5
 go_region_held3 (fun w'=>w'.cell? ⟨p,1,none⟩=some (.slice (some ⟨g5,0,none⟩) (n+1) cap5)) (go_keep)
  (first
    | (go_at_call 40
       refine HT.out.mono ?_;rintro e w6 ⟨t6,rfl,c6,hF6⟩;have HF6:=hid hF6
       clear hF6)
    | fail)
 go_wp2_with fail;go_ret3;exact ⟨t6,rfl,HF6.out⟩
theorem view_bad (p:Nat) (s:ByteArray) (c:Nat) (w:World) (hc:c≠0) (hR:Calls Tryz.prog 36 #[.string s] w fun e w1=>(∃ a b,e=.returned (.tuple #[a,.int .i64 (c:Int),b]))∧Kept No w w1) :
 Calls Tryz.prog 17 #[pV p,.string s] w fun e w'=>e=.returned (.tuple #[.int .i64 0,.string ⟨#[]⟩,.int .i64 (c:Int)])∧Kept No w w':=by
 show Calls Tryz.prog 17 #[.pointer (some ⟨p,0,none⟩),.string s] w _
 have HR:=hid hR
 have hc':(((c:Int)) != 0)=true:=by simp;omega
 clear hR
 go_enter Tryz.func17,Tryz.ntmps17
 go_wp2_with fail;refine HR.out.mono ?_;rintro e w1 ⟨⟨a,b,rfl⟩,hk⟩;have HK:=hid hk;clear hk HR;go_wp2_with fail;go_ret3;exact ⟨rfl,HK.out⟩
theorem view_many (p cap:Nat) (va:Option Addr) (s:ByteArray) (w:World) (hp:w.cell? ⟨p,1,none⟩=some (.slice va 6 cap)) (hpl:p<w.heap.size) (hR:Calls Tryz.prog 36 #[.string s] w fun e w1=>(∃ a b,e=.returned (.tuple #[a,.int .i64 0,b]))∧Kept No w w1) :
 Calls Tryz.prog 17 #[pV p,.string s] w fun e w'=>e=.returned (.tuple #[.int .i64 0,.string ⟨#[]⟩,.int .i64 4])∧Kept No w w':=by
 show Calls Tryz.prog 17 #[.pointer (some ⟨p,0,none⟩),.string s] w _
 have HR:=hid hR;clear hR
 go_enter Tryz.func17,Tryz.ntmps17
 go_wp2_with fail;refine HR.out.mono ?_;rintro e w1 ⟨⟨a,b,rfl⟩,hk⟩;have HK:=hid hk
 have c1:w1.cell? ⟨p,1,none⟩=some (.slice va 6 cap):=(hk.cell hpl (fun e=>e)).trans hp
 clear hk HR hp;go_wp2_with fail;go_ret3;exact ⟨rfl,HK.out⟩
theorem view_have (p n cap:Nat) (va:Option Addr) (tv:Value) (s:ByteArray) (w:World) (hn:n<6) (h0:w.cell? ⟨p,0,none⟩=some tv) (hp:w.cell? ⟨p,1,none⟩=some (.slice va n cap)) (hpl:p<w.heap.size)
 (hR:Calls Tryz.prog 36 #[.string s] w fun e w1=>∃ pp,e=.returned (.tuple #[.pointer (some ⟨pp,0,none⟩),.int .i64 0,.int .i64 0])∧Kept No w w1∧Calls Tryz.prog 37 #[tv,pV pp] w1 fun e w2=>e=.returned (.bool false)∧Kept No w1 w2) :
 Calls Tryz.prog 17 #[pV p,.string s] w fun e w'=>e=.returned (.tuple #[.int .i64 0,.string ⟨#[]⟩,.int .i64 5])∧Kept No w w':=by
 show Calls Tryz.prog 17 #[.pointer (some ⟨p,0,none⟩),.string s] w _
 have HR:=hid hR
 have hn6:((n:Int) == 6)=false:=by simp;omega
 clear hR
 go_enter Tryz.func17,Tryz.ntmps17
 go_wp2_with fail;refine HR.out.mono ?_;rintro e w1 ⟨pp,rfl,hk,hH⟩;have HK:=hid hk;have HH:=hid hH
 have c1:w1.cell? ⟨p,1,none⟩=some (.slice va n cap):=(hk.cell hpl (fun e=>e)).trans hp
 have c0:w1.cell? ⟨p,0,none⟩=some tv:=(hk.cell hpl (fun e=>e)).trans h0
 clear hk HR hp hH h0;go_wp2_with fail;refine HH.out.mono ?_;rintro e w2 ⟨rfl,hk2⟩;have HK2:=hid (HK.out.seq hk2);clear hk2 HH;go_wp2_with fail;go_ret3;exact ⟨rfl,HK2.out⟩
theorem view_type (p n cap:Nat) (va:Option Addr) (tv:Value) (s:ByteArray) (w:World) (hn:n<6) (h0:w.cell? ⟨p,0,none⟩=some tv) (hp:w.cell? ⟨p,1,none⟩=some (.slice va n cap)) (hpl:p<w.heap.size)
 (hR:Calls Tryz.prog 36 #[.string s] w fun e w1=>∃ pp,e=.returned (.tuple #[.pointer (some ⟨pp,0,none⟩),.int .i64 0,.int .i64 0])∧Kept No w w1∧Calls Tryz.prog 37 #[tv,pV pp] w1 fun e w2=>e=.returned (.bool true)∧Kept No w1 w2 ∧
   Calls Tryz.prog 38 #[tv,pV pp] w2 fun e w3=>(∃ v,e=.returned (.tuple #[v,.bool false]))∧Kept No w2 w3) :
 Calls Tryz.prog 17 #[pV p,.string s] w fun e w'=>e=.returned (.tuple #[.int .i64 0,.string ⟨#[]⟩,.int .i64 6])∧Kept No w w':=by
 show Calls Tryz.prog 17 #[.pointer (some ⟨p,0,none⟩),.string s] w _
 have HR:=hid hR
 have hn6:((n:Int) == 6)=false:=by simp;omega
 clear hR
 go_enter Tryz.func17,Tryz.ntmps17
 go_wp2_with fail;refine HR.out.mono ?_;rintro e w1 ⟨pp,rfl,hk,hH⟩;have HK:=hid hk;have HH:=hid hH
 have c1:w1.cell? ⟨p,1,none⟩=some (.slice va n cap):=(hk.cell hpl (fun e=>e)).trans hp
 have c0:w1.cell? ⟨p,0,none⟩=some tv:=(hk.cell hpl (fun e=>e)).trans h0
 clear hk HR hp hH;go_wp2_with fail;refine HH.out.mono ?_;rintro e w2 ⟨rfl,hk2,hT⟩;have HK2:=hid (HK.out.seq hk2);have HT:=hid hT
 have c2:w2.cell? ⟨p,0,none⟩=some tv:=(HK2.out.cell hpl (fun e=>e)).trans h0
 clear hk2 HH hT;go_wp2_with fail;refine HT.out.mono ?_;rintro e w3 ⟨⟨v,rfl⟩,hk3⟩;have HK3:=hid (HK2.out.seq hk3);clear hk3 HT;go_wp2_with fail;go_ret3;exact ⟨rfl,HK3.out⟩
end Go.Proofs.YtdinjjmcmfjbfaaGreatDoor
