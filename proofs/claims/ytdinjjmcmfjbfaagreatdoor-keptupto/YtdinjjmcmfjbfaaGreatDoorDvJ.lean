import Derived.Test.YtdinjjmcmfjbfaaGreatDoorLkJ
set_option maxRecDepth 100000
set_option maxHeartbeats 4000000
namespace Go.Proofs.YtdinjjmcmfjbfaaGreatDoor
open Go.RowKit Go.Shelf
open Mo (V Row Bag cnt canon Eqv OkB OkD Q Opd leaves bagQ tyQ wf OkQ Ok2 selB selR pickB distB joinB)
def pre (F:Nat→Bag) (n:Nat):Nat→Bag:=fun k=>if k<n then F k else []
theorem bagQ_nil:∀ (q:Q) (i:Nat) (f:Nat→Bag),(∀ j,i≤j→j<i+(leaves q).length→f j=[])→bagQ f i q=[]
 | .tab _,i,f,h=>h i (Nat.le_refl _) (by simp [leaves])
 | .sel c k x q,i,f,h=>by show selB _ (bagQ f i q)=[];rw [bagQ_nil q i f h];rfl
 | .pick cs q,i,f,h=>by show pickB _ (bagQ f i q)=[];rw [bagQ_nil q i f h];rfl
 | .dist q,i,f,h=>by show distB (bagQ f i q)=[];rw [bagQ_nil q i f h];rfl
 | .grp cs s q,i,f,h=>by show Mo.grpB cs s (bagQ f i q)=[];rw [bagQ_nil q i f h];rfl
 | .join n m q r,i,f,h=>by show joinB n m (bagQ f i q) _=[];rw [bagQ_nil q i f fun j h1 h2=>h j h1 (by simp only [leaves,List.length_append];omega)];rfl
 | .uni q r,i,f,h=>by
   show bagQ f i q++bagQ f (i+(leaves q).length) r=[]
   rw [bagQ_nil q i f fun j h1 h2=>h j h1 (by simp only [leaves,List.length_append];omega),bagQ_nil r _ f fun j h1 h2=>h j (by omega) (by simp only [leaves,List.length_append];omega)];rfl
def LdOk (ft:List UInt8→Option (List Bool)) (Gd:Bag→Prop) (q:Q) (i:Nat) (F:Nat→Bag):Prop:=∀ j,j≤(leaves q).length→Ok2 ft q i (pre F (i+j))∧Gd (bagQ (pre F (i+j)) i q)
section
variable {ft:List UInt8→Option (List Bool)} {Gd:Bag→Prop} {q r:Q} {i:Nat} {F:Nat→Bag} {us vs:List Bool}
theorem okq_at (h1:tyQ ft q=some us) {f:Nat→Bag} (h:OkQ ft q i f):OkB us (bagQ f i q):=by
 obtain ⟨us',a1,a2⟩:=h;rw [h1] at a1
 have:us'=us:=by simpa using a1.symm
 subst this;exact a2
theorem LdOk.un (h1:tyQ ft q=some us) {Q1:Q} (G:Bag→Bag) (hl:(leaves Q1).length=(leaves q).length) (hO:∀ f,Ok2 ft Q1 i f→OkQ ft q i f∧Ok2 ft q i f) (hG:∀ f,bagQ f i Q1=G (bagQ f i q)) (h:LdOk ft Gd Q1 i F):LdOk ft (fun B=>OkB us B∧Gd (G B)) q i F:=fun j hj=>by
 obtain ⟨a,b⟩:=h j (by omega)
 obtain ⟨a1,a2⟩:=hO _ a;rw [hG] at b;exact ⟨a2,okq_at h1 a1,b⟩
theorem pre_left (j:Nat) (hj:j≤(leaves q).length):bagQ (pre F (i+j)) (i+(leaves q).length) r=[]:=bagQ_nil r _ _ fun k h1 h2=>if_neg (by omega)
theorem pre_right (j:Nat):bagQ (pre F (i+((leaves q).length+j))) i q=bagQ F i q:=bagQ_ext q i fun k h1 h2=>if_pos (by omega)
theorem LdOk.left (h1:tyQ ft q=some us) (h2:tyQ ft r=some vs) {Q1:Q} (G:Bag→Bag→Bag) (hl:(leaves Q1).length=(leaves q).length+(leaves r).length) (hO:∀ f,Ok2 ft Q1 i f→(OkQ ft q i f∧OkQ ft r (i+(leaves q).length) f)∧Ok2 ft q i f∧Ok2 ft r (i+(leaves q).length) f) (hG:∀ f,bagQ f i Q1=G (bagQ f i q) (bagQ f (i+(leaves q).length) r)) (h:LdOk ft Gd Q1 i F):LdOk ft (fun B=>OkB us B∧OkB vs []∧Gd (G B [])) q i F:=fun j hj=>by
 obtain ⟨a,b⟩:=h j (by omega)
 obtain ⟨⟨a1,a2⟩,a3,a4⟩:=hO _ a;have a2':=okq_at h2 a2;rw [pre_left j hj] at a2';rw [hG,pre_left j hj] at b;exact ⟨a3,okq_at h1 a1,a2',b⟩
theorem LdOk.right (h1:tyQ ft q=some us) (h2:tyQ ft r=some vs) {Q1:Q} (G:Bag→Bag→Bag) (hl:(leaves Q1).length=(leaves q).length+(leaves r).length) (hO:∀ f,Ok2 ft Q1 i f→(OkQ ft q i f∧OkQ ft r (i+(leaves q).length) f)∧Ok2 ft q i f∧Ok2 ft r (i+(leaves q).length) f) (hG:∀ f,bagQ f i Q1=G (bagQ f i q) (bagQ f (i+(leaves q).length) r)) (h:LdOk ft Gd Q1 i F):LdOk ft (fun B=>OkB vs B∧OkB us (bagQ F i q)∧Gd (G (bagQ F i q) B)) r (i+(leaves q).length) F:=fun j hj=>by
 obtain ⟨a,b⟩:=h ((leaves q).length+j) (by omega)
 obtain ⟨⟨a1,a2⟩,a3,a4⟩:=hO _ a;have a1':=okq_at h1 a1;rw [pre_right] at a1';rw [hG,pre_right] at b;rw [←Nat.add_assoc] at a4 a2 b;exact ⟨a4,okq_at h2 a2,a1',b⟩
end
structure LPre (ft:List UInt8→Option (List Bool)) (X:Nat→Prop) (w0:World) (v:Value) (id0:Nat) (F:Nat→Bag) (xs:List TabS) (i:Nat) (q:Q) (T:Tk) (A:Nat→Prop) (ts:List Bool) (Gd:Bag→Prop) (R:World→Ow→Bag→Prop) (w:World) (O:Ow):Prop where
 agree:∀ k,X k→k<w.heap.size∧w.heap[k]? =w0.heap[k]?∧O k=1
 tk:TakesT T A ts Gd R
 ty:tyQ ft q=some ts
 wf:wf q
 ok:LdOk ft Gd q i F
 fit:∀ (j:Nat) (nm:List UInt8),(leaves q)[j]? =some nm→∃ Y∈xs,Y.name=nm∧F (i+j)=Y.bag
 r0:R w O []
 tabs:TabsAt w O v id0 xs
 tok:TabsOk A id0 xs
 tks:∀ Y∈xs,Y.tks.length+(leaves q).length≤1000000
 ab:∀ a,A a→a<w.heap.size+2
 old:Old w O
 id:id0<w.heap.size+2
theorem LPre.ag {ft:List UInt8→Option (List Bool)} {X:Nat→Prop} {w0:World} {v:Value} {id0:Nat} {F:Nat→Bag} {xs:List TabS} {i:Nat} {q:Q} {T:Tk} {A:Nat→Prop} {ts:List Bool} {Gd:Bag→Prop} {R:World→Ow→Bag→Prop} {w:World} {O:Ow} (hp:LPre ft X w0 v id0 F xs i q T A ts Gd R w O) {w1:World} {O1:Ow} (hs:w.heap.size≤w1.heap.size) (h:∀ k,k<w.heap.size→O k=1→w1.heap[k]? =w.heap[k]?) (hO:∀ k,k<w.heap.size→O1 k=O k):∀ k,X k→k<w1.heap.size∧w1.heap[k]? =w0.heap[k]?∧O1 k=1:=fun k hk=>by
 obtain ⟨h1,h2,h3⟩:=hp.agree k hk
 exact ⟨by omega,(h k h1 h3).trans h2,(hO k h1).trans h3⟩
theorem ins_at {w:World} {iv:Value} {ps:List Nat} (h:w.ownsRow 0 69 1 iv ps.length (ps.map pV)) (hn:ps≠[]):InsAt w iv ps:=by
 rcases h.2 with ⟨_,h1⟩ | ⟨g,cap,cur,rfl,_,hg,hc1,_,hc2,hc3⟩
 ·exact absurd (List.eq_nil_of_length_eq_zero h1) hn
 ·refine ⟨g,cap,cur,_,rfl,hg,fun i x hi=> ?_⟩
  have hl:i<ps.length:=(List.getElem?_eq_some_iff.1 hi).1
  have h0:(cur.toList.take (ps.length*1))[i]? =some (pV x):=by rw [hc3,List.getElem?_map,hi];rfl
  rw [List.getElem?_take,if_pos (by omega)] at h0
  simpa using h0
theorem ins_one {k:Nat} (h:Pl.ins k=1) (h7:k≤7):k=2∨k=3∨k=6∨k=7:=by
 unfold Pl.ins at h
 by_cases h1:k=0∨k=1
 ·rw [if_pos h1] at h;omega
 ·rw [if_neg h1] at h
  by_cases h2:k=4∨k=5
  ·rw [if_pos h2] at h;omega
  ·omega
theorem ins_two {k:Nat} (h:Pl.ins k=2):k=4∨k=5:=by
 unfold Pl.ins at h
 by_cases h1:k=0∨k=1
 ·rw [if_pos h1] at h;omega
 ·rw [if_neg h1] at h
  by_cases h2:k=4∨k=5
  ·exact h2
  ·rw [if_neg h2] at h;omega
section
variable {ft:List UInt8→Option (List Bool)} (hf:∀ nm us,ft nm=some us→1≤us.length∧us.length≤6)
variable {X:Nat→Prop} {w0:World} {v:Value} {id0:Nat} {F:Nat→Bag}
def Leads (ft:List UInt8→Option (List Bool)) (X:Nat→Prop) (w0:World) (v:Value) (id0:Nat) (F:Nat→Bag) (p:Nat) (q:Q):Prop :=
 ∀ {xs:List TabS} {i:Nat} {T:Tk} {A:Nat→Prop} {ts:List Bool} {Gd:Bag→Prop} {R:World→Ow→Bag→Prop} {w:World} {O:Ow},LPre ft X w0 v id0 F xs i q T A ts Gd R w O →
   Calls Tryz.prog 39 #[v,pV p,T.val] w (LeadEnd q T A R i F xs v id0 w O)
theorem leads_tab {p:Nat} {h:Hd} {cs:List Nat} (hk:h.k=1) (hn:NdAt w0 X p h cs []):Leads ft X w0 v id0 F p (.tab h.nm):=fun {xs i T A ts Gd R w O} hp=>by
 obtain ⟨h1,lv,iv,h2,h3,h4,h5,h6,h7⟩:=hn.mono (w':=w) (fun k hk=>(hp.agree k hk).2.1) (fun _ e=>e)
 obtain ⟨Y,hY,e1,e2⟩:=hp.fit 0 h.nm rfl
 have g0:=(hp.ok 0 (by simp [leaves])).2
 have g1:=(hp.ok 1 (by simp [leaves])).2
 have e3:bagQ (pre F (i+0)) i (.tab h.nm)=[]:=if_neg (by omega)
 have e4:bagQ (pre F (i+1)) i (.tab h.nm)=Y.bag:=(if_pos (by omega)).trans e2
 rw [e3] at g0;rw [e4] at g1;exact lead_tab hp.tk p h hk lv iv v i id0 F xs Y hY e1 e2 g0 g1 w O h2 hp.r0 hp.tabs hp.tok
theorem leads_dist {p p1:Nat} {h:Hd} {cs:List Nat} {q:Q} (hk:h.k=6) (hi:Pl.ins h.k=1) (hn:NdAt w0 X p h cs [p1]) (ih:Leads ft X w0 v id0 F p1 q):Leads ft X w0 v id0 F p (.dist q):=fun {xs i T A ts Gd R w O} hp=>by
 obtain ⟨h1,lv,iv,h2,h3,h4,h5,h6,h7⟩:=hn.mono (w':=w) (fun k hk=>(hp.agree k hk).2.1) (fun _ e=>e)
 have hL:=lead_one p h h7.2.2.2 (by omega) (.inl hi) lv iv 281 283 (by decide) give_dist #[sN,.map none] rfl T.ty T.p w h2 (operator_dist p h hk lv iv w h2)
 rw [hi] at hL;have hty:tyQ ft q=some ts:=hp.ty
 refine (lead_un hp.tk tDist distB (fun w O b B=>DistAt w O b T.val B) (us:=ts) (Gd1:=fun B=>OkB ts B∧Gd (distB B)) (fun b hb=>dist_takes hp.tk b ts hb) (Eqv.refl _) 281 (fun b=>⟨b,0,none⟩) (fun _=>rfl) 283 #[sN,.map none] p h (by omega) lv iv v p1 i id0 F xs q w O h2 (ins_at h4 (by simp)) hL
  (fun w1 O1 v' hb ho e1 e2 _ _=>dist_new ho e1 e2 hb) hp.r0 hp.tabs hp.tok hp.ab hp.old hp.id
  (fun w1 O1 hk1 hsz hold hOl hTk hR1 hTb1 hTo1=>ih ⟨hp.ag hk1.size (fun k hk _=>hk1.block k hk (fun e=>e)) hold,hTk,hty,hp.wf,LdOk.un (Q1:=.dist q) hty distB rfl (fun f e=>e) (fun f=>rfl) hp.ok,hp.fit,hR1,hTb1,hTo1,hp.tks,fun a ha=>by
    rcases ha with ha | ha
    ·have:=hp.ab a ha;omega
    ·omega,hOl,by have:=hp.id;omega⟩)).mono fun e w' hE=> ?_
 obtain ⟨he,t,O',g1,g2,g3,g4,g5,g6,g7,g8,g9⟩:=hE;exact ⟨he,.one w.heap.size t,O',g1,g2,g3,g4,⟨g5,g6⟩,g7,g8,g9⟩
include hf
theorem leads_sel {p p1:Nat} {h:Hd} {cs:List Nat} {q:Q} (hk:h.k=2) (hi:Pl.ins h.k=1) (hn:NdAt w0 X p h cs [p1]) (ih:Leads ft X w0 v id0 F p1 q) {c:Nat} (hc:h.l=.col c):Leads ft X w0 v id0 F p (.sel c (cmpO h.cmp) h.r q):=fun {xs i T A ts Gd R w O} hp=>by
 obtain ⟨h1,lv,iv,h2,h3,h4,h5,h6,h7⟩:=hn.mono (w':=w) (fun k hk=>(hp.agree k hk).2.1) (fun _ e=>e)
 obtain ⟨us,hty,hty2⟩:=Option.bind_eq_some_iff.1 (show (tyQ ft q).bind (Mo.tySel c h.r)=some ts from hp.ty)
 have hlen:=Mo.tyQ_len hf q us hp.wf.2.2 hty;obtain ⟨hus,hSO⟩:=sel_types hty2 hlen.2 hp.wf.2.1;subst hus
 have hL:=lead_one p h h7.2.2.2 (by omega) (.inl hi) _ iv 275 277 (by decide) give_sel (selC sN h.cmp h.l h.r) rfl T.ty T.p w h2 (operator_sel p h hk lv iv w h2)
 rw [hi] at hL
 refine (lead_un hp.tk tSel (selB (selR c (cmpO h.cmp) h.r)) (fun w O b _=>SelAt w O b T.val h.cmp (.col c) h.r) (us:=ts) (Gd1:=fun B=>OkB ts B∧Gd (selB (selR c (cmpO h.cmp) h.r) B)) (fun b hb=>sel_takes hp.tk b h.cmp (.col c) h.r ts hSO hb) (Eqv.refl _) 275 (fun b=>⟨b,0,none⟩) (fun _=>rfl) 277 (selC sN h.cmp h.l h.r) p h (by omega) _ iv v p1 i id0 F xs q w O h2 (ins_at h4 (by simp)) hL
  (fun w1 O1 v' hb ho e1 e2 hold hk1=>sel_new ho e1 e2 (by rw [hc] at hb;exact hb)) hp.r0 hp.tabs hp.tok hp.ab hp.old hp.id
  (fun w1 O1 hk1 hsz hold hOl hTk hR1 hTb1 hTo1=>ih ⟨hp.ag hk1.size (fun k hk _=>hk1.block k hk (fun e=>e)) hold,hTk,hty,hp.wf.2.2,LdOk.un (Q1:=.sel c (cmpO h.cmp) h.r q) hty (selB (selR c (cmpO h.cmp) h.r)) rfl (fun f e=>e) (fun f=>rfl) hp.ok,hp.fit,hR1,hTb1,hTo1,hp.tks,fun a ha=>by
    rcases ha with ha | ha
    ·have:=hp.ab a ha;omega
    ·omega,hOl,by have:=hp.id;omega⟩)).mono fun e w' hE=> ?_
 obtain ⟨he,t,O',g1,g2,g3,g4,g5,g6,g7,g8,g9⟩:=hE;exact ⟨he,.one w.heap.size t,O',g1,g2,g3,g4,⟨⟨h.cmp,rfl,g5⟩,g6⟩,g7,g8,g9⟩
theorem leads_pick {p p1:Nat} {h:Hd} {cs:List Nat} {q:Q} (hk:h.k=3) (hi:Pl.ins h.k=1) (hn:NdAt w0 X p h cs [p1]) (ih:Leads ft X w0 v id0 F p1 q):Leads ft X w0 v id0 F p (.pick cs q):=fun {xs i T A ts Gd R w O} hp=>by
 obtain ⟨h1,lv,iv,h2,h3,h4,h5,h6,h7⟩:=hn.mono (w':=w) (fun k hk=>(hp.agree k hk).2.1) (fun _ e=>e)
 obtain ⟨us,hty,hty2⟩:=Option.bind_eq_some_iff.1 (show (tyQ ft q).bind (Mo.tyPick cs)=some ts from hp.ty)
 have hlen:=Mo.tyQ_len hf q us hp.wf.2.2.2 hty;obtain ⟨la,ln,lc,rfl⟩:=owns_slice h3
 have hL:=lead_one p h h7.2.2.2 (by omega) (.inl hi) _ iv 278 280 (by decide) give_pick #[sN,.slice la ln lc] rfl T.ty T.p w h2 (operator_pick p h hk la ln lc iv w h2)
 rw [hi] at hL
 refine (lead_un hp.tk tPick (pickB cs) (fun w O b _=>PickAt w O b T.val cs) (us:=us) (Gd1:=fun B=>OkB us B∧Gd (pickB cs B)) (fun b hb=>pick_takes hp.tk b cs us (fun y hy=>by have:=(Mo.tyPick_some hty2).1 y hy;omega) hp.wf.2.1 (fun hq=>pick_rows hlen.2 hp.wf.2.1 hq) hb) (Eqv.refl _) 278 (fun b=>⟨b,0,none⟩) (fun _=>rfl) 280 #[sN,.slice la ln lc] p h (by omega) _ iv v p1 i id0 F xs q w O h2 (ins_at h4 (by simp)) hL
  (fun w1 O1 v' hb ho e1 e2 hold hk1=>pick_new ho e1 e2 hb (cols_at (X:=X) (owns_blk h3 fun k e=>hk1.block k (hp.agree k (h5 k e)).1 (fun e=>e)) h5 (fun k e=>(hold k (hp.agree k e).1).trans (hp.agree k e).2.2))) hp.r0 hp.tabs hp.tok hp.ab hp.old hp.id
  (fun w1 O1 hk1 hsz hold hOl hTk hR1 hTb1 hTo1=>ih ⟨hp.ag hk1.size (fun k hk _=>hk1.block k hk (fun e=>e)) hold,hTk,hty,hp.wf.2.2.2,LdOk.un (Q1:=.pick cs q) hty (pickB cs) rfl (fun f e=>e) (fun f=>rfl) hp.ok,hp.fit,hR1,hTb1,hTo1,hp.tks,fun a ha=>by
    rcases ha with ha | ha
    ·have:=hp.ab a ha;omega
    ·omega,hOl,by have:=hp.id;omega⟩)).mono fun e w' hE=> ?_
 obtain ⟨he,t,O',g1,g2,g3,g4,g5,g6,g7,g8,g9⟩:=hE;exact ⟨he,.one w.heap.size t,O',g1,g2,g3,g4,⟨g5,g6⟩,g7,g8,g9⟩
theorem leads_grp {p p1:Nat} {h:Hd} {cs:List Nat} {q:Q} (hk:h.k=7) (hi:Pl.ins h.k=1) (hn:NdAt w0 X p h cs [p1]) (ih:Leads ft X w0 v id0 F p1 q) {s:Option Nat} (hs:h.w=xS s):Leads ft X w0 v id0 F p (.grp cs s q):=fun {xs i T A ts Gd R w O} hp=>by
 obtain ⟨h1,lv,iv,h2,h3,h4,h5,h6,h7⟩:=hn.mono (w':=w) (fun k hk=>(hp.agree k hk).2.1) (fun _ e=>e)
 obtain ⟨us,hty,hty2⟩:=Option.bind_eq_some_iff.1 (show (tyQ ft q).bind (Mo.tyGrp cs s)=some ts from hp.ty)
 have hlen:=Mo.tyQ_len hf q us hp.wf.2.2.2 hty;obtain ⟨la,ln,lc,rfl⟩:=owns_slice h3
 have hL:=lead_one p h h7.2.2.2 (by omega) (.inl hi) _ iv 284 286 (by decide) give_grp (grpC sN (.map none) (.map none) (.slice la ln lc) h.w) rfl T.ty T.p w h2 (operator_grp p h hk la ln lc iv w h2)
 rw [hi] at hL
 refine (lead_un hp.tk tGrp (Mo.grpB cs s) (fun w O b B=>GrpAt w O b T.val cs s (xS s) B) (us:=us) (Gd1:=fun B=>OkB us B∧Gd (Mo.grpB cs s B)) (fun b hb=>grp_takes hp.tk b cs s (xS s) us (grp_types hty2 hlen.2) hb) (Eqv.refl _) 284 (fun b=>⟨b,0,none⟩) (fun _=>rfl) 286 (grpC sN (.map none) (.map none) (.slice la ln lc) h.w) p h (by omega) _ iv v p1 i id0 F xs q w O h2 (ins_at h4 (by simp)) hL
  (fun w1 O1 v' hb ho e1 e2 hold hk1=>grp_new ho e1 e2 (by rw [hs] at hb;exact hb) (cols_at (X:=X) (owns_blk h3 fun k e=>hk1.block k (hp.agree k (h5 k e)).1 (fun e=>e)) h5 (fun k e=>(hold k (hp.agree k e).1).trans (hp.agree k e).2.2))) hp.r0 hp.tabs hp.tok hp.ab hp.old hp.id
  (fun w1 O1 hk1 hsz hold hOl hTk hR1 hTb1 hTo1=>ih ⟨hp.ag hk1.size (fun k hk _=>hk1.block k hk (fun e=>e)) hold,hTk,hty,hp.wf.2.2.2,LdOk.un (Q1:=.grp cs s q) hty (Mo.grpB cs s) rfl (fun f e=>e) (fun f=>rfl) hp.ok,hp.fit,hR1,hTb1,hTo1,hp.tks,fun a ha=>by
    rcases ha with ha | ha
    ·have:=hp.ab a ha;omega
    ·omega,hOl,by have:=hp.id;omega⟩)).mono fun e w' hE=> ?_
 obtain ⟨he,t,O',g1,g2,g3,g4,g5,g6,g7,g8,g9⟩:=hE;exact ⟨he,.one w.heap.size t,O',g1,g2,g3,g4,⟨g5,g6⟩,g7,g8,g9⟩
end
section
variable {ft:List UInt8→Option (List Bool)} (hf:∀ nm us,ft nm=some us→1≤us.length∧us.length≤6)
variable {X:Nat→Prop} {w0:World} {v:Value} {id0:Nat} {F:Nat→Bag}
theorem fit_left {q r:Q} {xs:List TabS} {i:Nat} (h:∀ (j:Nat) (nm:List UInt8),(leaves q++leaves r)[j]? =some nm→∃ Y∈xs,Y.name=nm∧F (i+j)=Y.bag) (j:Nat) (nm:List UInt8) (hj:(leaves q)[j]? =some nm):∃ Y∈xs,Y.name=nm∧F (i+j)=Y.bag :=
 h j nm (by rw [List.getElem?_append_left (List.getElem?_eq_some_iff.1 hj).1];exact hj)
theorem fit_right {q r:Q} {xs:List TabS} {i:Nat} (h:∀ (j:Nat) (nm:List UInt8),(leaves q++leaves r)[j]? =some nm→∃ Y∈xs,Y.name=nm∧F (i+j)=Y.bag) (l:List (List UInt8 × Tk)) (j:Nat) (nm:List UInt8) (hj:(leaves r)[j]? =some nm):∃ Y∈addTks xs l,Y.name=nm∧F (i+(leaves q).length+j)=Y.bag:=by
 obtain ⟨Y,hY,e1,e2⟩:=h ((leaves q).length+j) nm (by rw [List.getElem?_append_right (by omega),Nat.add_sub_cancel_left];exact hj)
 obtain ⟨Z,hZ,f1,f2⟩:=addTks_in (l:=l) hY
 exact ⟨Z,hZ,f1.trans e1,by rw [Nat.add_assoc,e2,f2]⟩
theorem tks_right {q r:Q} {xs:List TabS} {l:List (List UInt8 × Tk)} (h:∀ Y∈xs,Y.tks.length+(leaves q++leaves r).length≤1000000) (hl:l.length=(leaves q).length):∀ Y∈addTks xs l,Y.tks.length+(leaves r).length≤1000000:=fun Y hY=>by
 obtain ⟨Z,hZ,_,_,_,e⟩:=addTks_of hY
 have:=h Z hZ
 rw [List.length_append] at this;omega
theorem leads_uni {p p1 p2:Nat} {h:Hd} {cs:List Nat} {q r:Q} (hk:h.k=5) (hi:Pl.ins h.k=2) (hn:NdAt w0 X p h cs [p1,p2]) (ih1:Leads ft X w0 v id0 F p1 q) (ih2:Leads ft X w0 v id0 F p2 r):Leads ft X w0 v id0 F p (.uni q r):=fun {xs i T A ts Gd R w O} hp=>by
 obtain ⟨h1,lv,iv,h2,h3,h4,h5,h6,h7⟩:=hn.mono (w':=w) (fun k hk=>(hp.agree k hk).2.1) (fun _ e=>e)
 obtain ⟨us,hty,hty2⟩:=Option.bind_eq_some_iff.1 (show (tyQ ft q).bind (fun ts=>(tyQ ft r).bind fun us=>if ts=us then some ts else none)=some ts from hp.ty)
 obtain ⟨vs,hty3,hty4⟩:=Option.bind_eq_some_iff.1 hty2
 have huv:us=vs∧us=ts:=by
  by_cases e:us=vs
  ·rw [if_pos e] at hty4;exact ⟨e,by simpa using hty4⟩
  ·rw [if_neg e] at hty4;cases hty4
 obtain ⟨rfl,rfl⟩:=huv
 have hL:=lead_one p h h7.2.2.2 (by omega) (.inr hi) _ iv 287 289 (by decide) give_uni #[sN] rfl T.ty T.p w h2 (operator_uni p h hk lv iv w h2)
 rw [hi] at hL
 have hll:∀ X∈xs,X.tks.length+((leaves q).length+(leaves r).length)≤1000000:=fun X hX=>by have:=hp.tks X hX;simp only [leaves,List.length_append] at this;exact this
 have hlv:(leaves (.uni q r)).length=(leaves q).length+(leaves r).length:=List.length_append ..
 refine (lead_bin hp.tk tUni tUni (fun B C=>B++C) (fun w O b _ _=>UniAt w O b T.val) (us1:=us) (us2:=us) (Gd1:=fun B=>OkB us B∧Gd (B++[])) (Gd2:=fun B=>OkB us B∧Gd (bagQ F i q++B)) i F q r
  (fun b hb=>uni_takes hp.tk b us (fun B=>B++[]) (fun B d x=>by simp only [Mo.cnt_append];omega) (fun e=>e.append (Eqv.refl _)) hb)
  (fun b hb=>uni_takes hp.tk b us (fun B=>bagQ F i q++B) (fun B d x=>by simp only [Mo.cnt_append];omega) (fun e=>(Eqv.refl _).append e) hb)
  (Eqv.refl _) 287 (fun b=>⟨b,0,none⟩) (fun b=>⟨b,0,none⟩) (fun _=>rfl) (fun _=>rfl) 289 #[sN] p h (by omega) lv iv v p1 p2 id0 xs w O h2 (ins_at h4 (by simp)) (fun g hg=>⟨(hp.agree g (h6 g hg)).1,(hp.agree g (h6 g hg)).2.2⟩) hL
  (fun w1 O1 v' hb ho e1 e2=>uni_new ho e1 e2 hb) hp.r0 hp.tabs hp.tok (fun X hX=>by have:=hll X hX;omega) hp.ab hp.old hp.id
  (fun w1 O1 hk1 hsz hold hOl hTk hR1 hTb1 hTo1=>ih1 ⟨hp.ag hk1.size (fun k hk _=>hk1.block k hk (fun e=>e)) hold,hTk,hty,hp.wf.1,fun j hj=>by
    obtain ⟨a,b1,_,b3⟩:=LdOk.left (Q1:=.uni q r) hty hty3 (fun B C=>B++C) hlv (fun f e=>e) (fun f=>rfl) hp.ok j hj
    exact ⟨a,b1,b3⟩,fit_left hp.fit,hR1,hTb1,hTo1,fun X hX=>by have:=hll X hX;omega,fun a ha=>by
    rcases ha with ha | ha
    ·have:=hp.ab a ha;omega
    ·omega,hOl,by have:=hp.id;omega⟩)
  (fun t w2 O2 hfr hsz hold hOl hab hTk hR2 hle hTb2 hTo2=>ih2 ⟨hp.ag (by omega) hfr hold,hTk,hty3,hp.wf.2,fun j hj=>by
    obtain ⟨a,b1,_,b3⟩:=LdOk.right (Q1:=.uni q r) hty hty3 (fun B C=>B++C) hlv (fun f e=>e) (fun f=>rfl) hp.ok j hj
    exact ⟨a,b1,b3⟩,fit_right hp.fit _,hR2,hTb2,hTo2,tks_right hp.tks hle,hab,hOl,by have:=hp.id;omega⟩)).mono fun e w' hE=> ?_
 obtain ⟨he,t,u,O',g1,g2,g3,g4,g5,g7,g8,g9⟩:=hE;exact ⟨he,.two w.heap.size t u,O',g1,g2,g3,g4,g5,g7,g8,g9⟩
include hf
theorem leads_join {p p1 p2:Nat} {h:Hd} {cs:List Nat} {q r:Q} (hk:h.k=4) (hn:NdAt w0 X p h cs [p1,p2]) (ih1:Leads ft X w0 v id0 F p1 q) (ih2:Leads ft X w0 v id0 F p2 r):Leads ft X w0 v id0 F p (.join (colI h.l) (colI h.r) q r):=fun {xs i T A ts Gd R w O} hp=>by
 obtain ⟨h1,lv,iv,h2,h3,h4,h5,h6,h7⟩:=hn.mono (w':=w) (fun k hk=>(hp.agree k hk).2.1) (fun _ e=>e)
 obtain ⟨us,hty,hty2⟩:=Option.bind_eq_some_iff.1 (show (tyQ ft q).bind (fun ts=>(tyQ ft r).bind fun us=>Mo.tyJoin (colI h.l) (colI h.r) ts us)=some ts from hp.ty)
 obtain ⟨vs,hty3,hty4⟩:=Option.bind_eq_some_iff.1 hty2;have hl1:=Mo.tyQ_len hf q us hp.wf.2.2.1 hty;have hl2:=Mo.tyQ_len hf r vs hp.wf.2.2.2 hty3;obtain ⟨jn,jm,jl⟩:=join_types hty4;have hL:=lead_join p h hk lv iv T.ty T.p w h2
 have hll:∀ X∈xs,X.tks.length+((leaves q).length+(leaves r).length)≤1000000:=fun X hX=>by have:=hp.tks X hX;simp only [leaves,List.length_append] at this;exact this
 have hlv:(leaves (.join (colI h.l) (colI h.r) q r)).length=(leaves q).length+(leaves r).length:=List.length_append ..
 refine (lead_bin hp.tk (fun b=>tSide b true) (fun b=>tSide b false) (fun B C=>joinB (colI h.l) (colI h.r) B C) (fun w O b B C=>JAt w O b T.val true (colI h.l) (colI h.r) B C) (us1:=us) (us2:=vs) (Gd1:=fun B=>OkB us B∧OkB vs []∧Gd (joinB (colI h.l) (colI h.r) B [])) (Gd2:=fun B=>OkB vs B∧OkB us (bagQ F i q)∧Gd (joinB (colI h.l) (colI h.r) (bagQ F i q) B)) i F q r
  (fun b hb=>side_takes hp.tk b true (colI h.l) (colI h.r) us vs [] (by omega) ⟨hl1.1,hl2.1,jl⟩ hb)
  (fun b hb=>by
    have hS:=side_takes hp.tk b false (colI h.r) (colI h.l) vs us (bagQ F i q) (by omega) ⟨hl2.1,hl1.1,by omega⟩ hb
    exact Takes.conv (T:=tSide b false) hS (fun _=>Iff.rfl) (fun e=>e) (fun e he=>hS.gde e he) (fun {w O B}=>⟨fun e=>⟨e.1,e.2.swap⟩,fun e=>⟨e.1,e.2.swap⟩⟩))
  (Eqv.refl _) 236 (fun b=>⟨b,1,none⟩) (fun b=>⟨b,6,none⟩) (fun _=>rfl) (fun _=>rfl) 240 (jC sN (.map none) (.map none) (colI h.l) (colI h.r) w.heap.size) p h (by omega) lv iv v p1 p2 id0 xs w O h2 (ins_at h4 (by simp)) (fun g hg=>⟨(hp.agree g (h6 g hg)).1,(hp.agree g (h6 g hg)).2.2⟩) hL
  (fun w1 O1 v' hb ho e1 e2=>join_new ho e1 e2 hb) hp.r0 hp.tabs hp.tok (fun X hX=>by have:=hll X hX;omega) hp.ab hp.old hp.id
  (fun w1 O1 hk1 hsz hold hOl hTk hR1 hTb1 hTo1=>ih1 ⟨hp.ag hk1.size (fun k hk _=>hk1.block k hk (fun e=>e)) hold,hTk,hty,hp.wf.2.2.1,LdOk.left (Q1:=.join (colI h.l) (colI h.r) q r) hty hty3 (fun B C=>joinB (colI h.l) (colI h.r) B C) hlv (fun f e=>e) (fun f=>rfl) hp.ok,fit_left hp.fit,hR1,hTb1,hTo1,fun X hX=>by have:=hll X hX;omega,fun a ha=>by
    rcases ha with ha | ha
    ·have:=hp.ab a ha;omega
    ·omega,hOl,by have:=hp.id;omega⟩)
  (fun t w2 O2 hfr hsz hold hOl hab hTk hR2 hle hTb2 hTo2=>ih2 ⟨hp.ag (by omega) hfr hold,hTk,hty3,hp.wf.2.2.2,LdOk.right (Q1:=.join (colI h.l) (colI h.r) q r) hty hty3 (fun B C=>joinB (colI h.l) (colI h.r) B C) hlv (fun f e=>e) (fun f=>rfl) hp.ok,fit_right hp.fit _,hR2,hTb2,hTo2,tks_right hp.tks hle,hab,hOl,by have:=hp.id;omega⟩)).mono fun e w' hE=> ?_
 obtain ⟨he,t,u,O',g1,g2,g3,g4,g5,g7,g8,g9⟩:=hE;exact ⟨he,.two w.heap.size t u,O',g1,g2,g3,g4,g5,g7,g8,g9⟩
theorem lead_any {p:Nat} {q:Q} (h:Tr w0 X p q):Leads ft X w0 v id0 F p q:=by
 induction h with
 | zero e hn=>exact leads_tab e hn
 | @one p p1 h cs q hi hn _ ih =>
   have hok:HdOk h:=by obtain ⟨_,_,_,_,_,_,_,_,h7⟩:=hn;exact h7
   rcases ins_one hi hok.2.2.2 with hk | hk | hk | hk
   ·obtain ⟨c,hc⟩:=hok.1 hk
    have e:mkQ h cs [q]=.sel c (cmpO h.cmp) h.r q:=by simp [mkQ,hk,hc,colI]
    rw [e];intro xs i T A ts Gd R w O hp;exact leads_sel hf hk hi hn ih hc hp
   ·have e:mkQ h cs [q]=.pick cs q:=by simp [mkQ,hk]
    rw [e];intro xs i T A ts Gd R w O hp;exact leads_pick hf hk hi hn ih hp
   ·have e:mkQ h cs [q]=.dist q:=by simp [mkQ,hk]
    rw [e];intro xs i T A ts Gd R w O hp;exact leads_dist hk hi hn ih hp
   ·have e:mkQ h cs [q]=.grp cs (wS h.w) q:=by simp [mkQ,hk]
    have hs:h.w=xS (wS h.w):=by
     rcases hok.2.2.1 hk with e | ⟨m,e⟩ <;> rw [e] <;> rfl
    rw [e];intro xs i T A ts Gd R w O hp;exact leads_grp hf hk hi hn ih hs hp
 | @two p p1 p2 h cs q r hi hn _ _ ih1 ih2 =>
   rcases ins_two hi with hk | hk
   ·have e:mkQ h cs [q,r]=.join (colI h.l) (colI h.r) q r:=by simp [mkQ,hk]
    rw [e];intro xs i T A ts Gd R w O hp;exact leads_join hf hk hn ih1 ih2 hp
   ·have e:mkQ h cs [q,r]=.uni q r:=by simp [mkQ,hk]
    rw [e];intro xs i T A ts Gd R w O hp;exact leads_uni hk hi hn ih1 ih2 hp
end
open Mo (V Row Bag cnt canon Eqv OkB OkD Q Opd leaves bagQ tyQ wf OkQ Ok2 Small LeafT joins)
theorem small_pre {F:Nat→Bag} (h:Small F 120) (n:Nat):Small (pre F n) 120:=by
 refine ⟨fun i=> ?_,fun i=> ?_,fun i=> ?_⟩
 ·unfold pre;split
  ·exact h.nn i
  ·intro e;simp [Mo.cnt]
 ·unfold pre;split
  ·exact h.rows i
  ·show (0:Int)≤120;decide
 ·unfold pre;split
  ·exact h.wts i
  ·show (0:Int)≤10000*120;decide
theorem leafT_pre {ft:List UInt8→Option (List Bool)} {q:Q} {i:Nat} {F:Nat→Bag} (h:LeafT ft q i F) (n:Nat):LeafT ft q i (pre F n):=fun j nm us hj hu=>by
 unfold pre;split
 ·exact h j nm us hj hu
 ·exact ⟨(fun e he=>by cases he),(fun e he=>by cases he)⟩
theorem ldOk_small {ft:List UInt8→Option (List Bool)} (hf:∀ nm us,ft nm=some us→1≤us.length∧us.length≤6) {q:Q} {i:Nat} {F:Nat→Bag} {ts:List Bool} (hs:Small F 120) (hw:wf q) (hl:(leaves q).length≤120) (hj:joins q≤2) (hT:LeafT ft q i F) (ht:tyQ ft q=some ts):LdOk ft (OkB ts) q i F:=fun _ _ =>
 ⟨Mo.ok2 hf (small_pre hs _) q hw hl hj i (leafT_pre hT _) ht,Mo.okQ hf (small_pre hs _) q hw hl hj i (leafT_pre hT _) ht⟩
open Mo (V Row Bag Q Opd leaves)
def HaveEnd (b:Bool) (w:World) (e:Ending) (w':World):Prop:=e=.returned (.bool b)∧Kept No w w'
theorem have_leaf (P:Nat) (h:Hd) (hk:h.k=1) (lv iv v:Value) (ts:List (Nat × List UInt8)) (w:World) (hP:w.heap[P]? =some (.cells (partC h lv iv) 139 (0,0))) (hN:TNames w v ts) (hl:ts.length≤1000) :
 Calls Tryz.prog 37 #[v,.pointer (some ⟨P,0,none⟩)] w (HaveEnd (decide (0≤tfind ts h.nm)) w):=by
 have k0:=(part_cells hP).1;rw [hk] at k0;have k1:=(part_cells hP).2.2.2.2.2.2.2;have HF:=hid (find_any v ts h.nm w hN hl);clear hP hN
 go_enter Tryz.func37,Tryz.ntmps37
 go_wp2_with fail;refine HF.out.mono ?_;rintro e w1 ⟨rfl,hk1⟩;have HK:=hid hk1;clear hk1 k0 k1 HF;go_wp2_with fail;go_ret;exact ⟨rfl,HK.out⟩
theorem have_node1 (P:Nat) (h:Hd) (hk:h.k≠1) (lv iv v:Value) (p1:Nat) (b:Bool) (w:World) (hP:w.heap[P]? =some (.cells (partC h lv iv) 139 (0,0))) (hI:InsAt w iv [p1])
 (h1:Calls Tryz.prog 37 #[v,pV p1] w (HaveEnd b w)) :
 Calls Tryz.prog 37 #[v,.pointer (some ⟨P,0,none⟩)] w (HaveEnd b w):=by
 have k0:=(part_cells hP).1
 have hk':((h.k:Int) == 1)=false:=by simp;omega
 have H1:=hid h1;have k1:=(part_cells hP).2.2.2.2.2.2.1;obtain ⟨gi,ci,csi,zi,rfl,hgi,hci⟩:=hI
 have k2:w.cell? ⟨gi,0,none⟩=some (.pointer (some ⟨p1,0,none⟩)):=by rw [cell_of hgi];exact hci 0 p1 rfl
 clear hP hci hgi h1
 go_enter Tryz.func37,Tryz.ntmps37
 go_wp2_with fail;refine wp_loop_rounds 2 ?_;rw [rounds_succ];go_wp2_with fail;refine Calls.mono H1.out ?_;rintro e w1 ⟨rfl,hk1⟩;have HK:=hid hk1;clear hk1 H1 k0 k1 k2
 cases b
 ·go_wp2_with fail
  go_ret;exact ⟨rfl,HK.out⟩
 ·go_wp2_with fail
  rw [rounds_succ];go_wp2_with fail;go_ret;exact ⟨rfl,HK.out⟩
theorem have_node2 (P:Nat) (h:Hd) (hk:h.k≠1) (lv iv v:Value) (p1 p2:Nat) (b c:Bool) (w:World) (hP:w.heap[P]? =some (.cells (partC h lv iv) 139 (0,0))) (hI:InsAt w iv [p1,p2])
 (h1:Calls Tryz.prog 37 #[v,pV p1] w (HaveEnd b w)) (h2:∀ w1,Kept No w w1→Calls Tryz.prog 37 #[v,pV p2] w1 (HaveEnd c w1)) :
 Calls Tryz.prog 37 #[v,.pointer (some ⟨P,0,none⟩)] w (HaveEnd (b && c) w):=by
 have k0:=(part_cells hP).1
 have hk':((h.k:Int) == 1)=false:=by simp;omega
 have H1:=hid h1;have H2:=hid h2;have k1:=(part_cells hP).2.2.2.2.2.2.1;obtain ⟨gi,ci,csi,zi,rfl,hgi,hci⟩:=hI
 have k2:w.cell? ⟨gi,0,none⟩=some (.pointer (some ⟨p1,0,none⟩)):=by rw [cell_of hgi];exact hci 0 p1 rfl
 have HK3:Hid (w.cell? ⟨gi,1,none⟩=some (.pointer (some ⟨p2,0,none⟩))):=by show _=_;rw [cell_of hgi];exact hci 1 p2 rfl
 have hgl:=lt_of_heap hgi;clear hP hci hgi h1 h2
 go_enter Tryz.func37,Tryz.ntmps37
 go_wp2_with fail;refine wp_loop_rounds 3 ?_;rw [rounds_succ];go_wp2_with fail;refine Calls.mono H1.out ?_;rintro e w1 ⟨rfl,hk1⟩;have HK:=hid hk1;have HC:=hid (H2.out w1 hk1)
 have k4:w1.cell? ⟨gi,1,none⟩=some (.pointer (some ⟨p2,0,none⟩)):=(hk1.cell hgl (fun e=>e)).trans HK3.out
 clear hk1 H1 H2 k0 k1 k2
 cases b
 ·go_wp2_with fail
  go_ret;exact ⟨rfl,HK.out⟩
 ·go_wp2_with fail
  rw [rounds_succ];go_wp2_with fail;refine Calls.mono HC.out ?_;rintro e w2 ⟨rfl,hk2⟩;have HK2:=hid hk2;clear hk2 HC k4
  cases c
  ·go_wp2_with fail
   go_ret;exact ⟨rfl,HK.out.seq HK2.out⟩
  ·go_wp2_with fail
   rw [rounds_succ];go_wp2_with fail;go_ret;exact ⟨rfl,HK.out.seq HK2.out⟩
def haveQ (ts:List (Nat × List UInt8)) (q:Q):Bool:=(leaves q).all fun nm=>decide (0≤tfind ts nm)
theorem leaves_one (h:Hd) (cs:List Nat) (q:Q):leaves (mkQ h cs [q])=leaves q:=by
 show leaves (if h.k=2 then _ else if h.k=3 then _ else if h.k=6 then _ else _)=_
 by_cases h2:h.k=2
 ·rw [if_pos h2];rfl
 by_cases h3:h.k=3
 ·rw [if_neg h2,if_pos h3];rfl
 by_cases h6:h.k=6
 ·rw [if_neg h2,if_neg h3,if_pos h6];rfl
 ·rw [if_neg h2,if_neg h3,if_neg h6];rfl
theorem leaves_two (h:Hd) (cs:List Nat) (q r:Q):leaves (mkQ h cs [q,r])=leaves q++leaves r:=by
 show leaves (if h.k=4 then _ else _)=_
 by_cases h4:h.k=4
 ·rw [if_pos h4];rfl
 ·rw [if_neg h4];rfl
theorem have_any {w0:World} {X:Nat→Prop} {v:Value} {ts:List (Nat × List UInt8)} (hl:ts.length≤1000) {p:Nat} {q:Q} (h:Tr w0 X p q):∀ w,(∀ k,X k→k<w.heap.size∧w.heap[k]? =w0.heap[k]?)→TNames w v ts→Calls Tryz.prog 37 #[v,pV p] w (HaveEnd (haveQ ts q) w):=by
 induction h with
 | @zero p h cs e hn =>
   intro w ha hN
   obtain ⟨h1,lv,iv,h2,h3,h4,h5,h6,h7⟩:=hn.mono (w':=w) (fun k hk=>(ha k hk).2) (fun _ e=>e)
   have:=have_leaf p h e lv iv v ts w h2 hN hl
   have e2:haveQ ts (mkQ h cs [])=decide (0≤tfind ts h.nm):=by simp [haveQ,mkQ,leaves]
   rw [e2];exact this
 | @one p p1 h cs q hi hn _ ih =>
   intro w ha hN
   obtain ⟨h1,lv,iv,h2,h3,h4,h5,h6,h7⟩:=hn.mono (w':=w) (fun k hk=>(ha k hk).2) (fun _ e=>e)
   have hk:h.k≠1:=fun e=>by rw [e] at hi;exact absurd hi (by decide)
   have e2:haveQ ts (mkQ h cs [q])=haveQ ts q:=by unfold haveQ;rw [leaves_one]
   rw [e2]
   exact have_node1 p h hk lv iv v p1 _ w h2 (ins_at h4 (by simp)) (ih w ha hN)
 | @two p p1 p2 h cs q r hi hn _ _ ih1 ih2 =>
   intro w ha hN
   obtain ⟨h1,lv,iv,h2,h3,h4,h5,h6,h7⟩:=hn.mono (w':=w) (fun k hk=>(ha k hk).2) (fun _ e=>e)
   have hk:h.k≠1:=fun e=>by rw [e] at hi;exact absurd hi (by decide)
   have e2:haveQ ts (mkQ h cs [q,r])=(haveQ ts q && haveQ ts r):=by unfold haveQ;rw [leaves_two,List.all_append]
   rw [e2]
   exact have_node2 p h hk lv iv v p1 p2 _ _ w h2 (ins_at h4 (by simp)) (ih1 w ha hN) fun w1 hk1=>ih2 w1 (fun k hk=>⟨Nat.lt_of_lt_of_le (ha k hk).1 hk1.size,(hk1.block k (ha k hk).1 (fun e=>e)).trans (ha k hk).2⟩) (hN.kept hk1)
open Mo (V Row Bag Q Opd leaves tyO ty)
def tkN (t:Bool):Int:=if t=true then 1 else 0
theorem kI_ty (v:V):kI v=tkN (ty v):=by cases v <;> rfl
def TyL (w:World) (v:Value) (us:List Bool):Prop:=∃ b o cap,v=.slice (some ⟨b,o,none⟩) us.length cap∧Is 130 w b∧us.length≤cap∧cap≤maxLen∧∀ (i:Nat) (t:Bool),us[i]? =some t→w.cell? ⟨b,o+i,none⟩=some (.int .i32 (tkN t))
theorem TyL.kept {w w':World} {v:Value} {us:List Bool} (h:TyL w v us) (k:Kept No w w'):TyL w' v us:=by
 obtain ⟨b,o,cap,h1,⟨c,z,h2⟩,h3,h4,h5⟩:=h
 exact ⟨b,o,cap,h1,⟨c,z,(k.block b (lt_of_heap h2) (fun e=>e)).trans h2⟩,h3,h4,fun i t hi=>(k.cell (lt_of_heap h2) (fun e=>e)).trans (h5 i t hi)⟩
theorem TyL.stays {w w':World} {v:Value} {us:List Bool} (h:TyL w v us) (k:∀ b,v.ownBlock=some b→Is 130 w b→w'.heap[b]? =w.heap[b]?):TyL w' v us:=by
 obtain ⟨b,o,cap,rfl,⟨c,z,h2⟩,h3,h4,h5⟩:=h;have e:=k b rfl ⟨c,z,h2⟩
 exact ⟨b,o,cap,rfl,⟨c,z,e.trans h2⟩,h3,h4,fun i t hi=>(World.cell?_of_block e).trans (h5 i t hi)⟩
theorem Is.lt {t:TypeId} {w:World} {b:Nat} (h:Is t w b):b<w.heap.size:=by obtain ⟨c,z,h⟩:=h;exact lt_of_heap h
def tyR:Option Bool→Value
 | some t=>.tuple #[.int .i32 (tkN t),.bool true]
 | none=>.tuple #[.int .i32 0,.bool false]
theorem typeIn_any (x:Opd) (us:List Bool) (tv:Value) (w:World) (hc:∀ c,x=.col c→c<10) (hT:TyL w tv us) :
 Calls Tryz.prog 111 #[.agg (opA x).toArray,tv] w fun e w'=>e=.returned (tyR (tyO us x))∧Kept No w w':=by
 cases x with
 | col c =>
   have hc10:=hc c rfl
   have hc0:(0:Int)≤(c:Int):=by omega
   clear hc
   change Calls Tryz.prog 111 #[.agg #[.bool true,.int .i64 (c:Int),.int .i32 0,.int .u8 0,.int .u8 0,.int .u8 0,.int .u8 0,.int .i64 0],tv] w fun e w'=>e=.returned (tyR us[c]?)∧Kept No w w'
   have hT1:=hT.kept ((Kept.refl No w).alloc (.cells #[.bool true,.int .i64 (c:Int),.int .i32 0,.int .u8 0,.int .u8 0,.int .u8 0,.int .u8 0,.int .i64 0] 135));clear hT;obtain ⟨b,o,cap,rfl,hb,h3,h4,h5⟩:=hT1;replace hb:=hb.lt
   have hcap:cap≤9223372036854775807:=by unfold maxLen at h4;omega
   by_cases hcl:c<us.length
   ·have hg:us[c]? =some us[c]:=List.getElem?_eq_getElem hcl
    have k1:=h5 c _ hg
    have hc1:(c:Int)<(us.length:Int):=by omega
    have hc2:¬((us.length:Int)≤(c:Int)):=by omega
    rw [hg];generalize us[c]=t at k1;clear h5 h4 hg
    go_enter Tryz.func111,Tryz.ntmps111
    go_wp2_with fail;go_ret2;exact ⟨rfl,(Kept.refl No w).alloc _⟩
   ·have hg:us[c]? =none:=List.getElem?_eq_none (by omega)
    have hc2:(us.length:Int)≤(c:Int):=by omega
    rw [hg];clear h5 h4 hg
    go_enter Tryz.func111,Tryz.ntmps111
    go_wp2_with fail;go_ret2;exact ⟨rfl,(Kept.refl No w).alloc _⟩
 | val v =>
   clear hc
   change Calls Tryz.prog 111 #[.agg #[.bool false,.int .i64 0,.int .i32 (kI v),.int .u8 (tB v 0),.int .u8 (tB v 1),.int .u8 (tB v 2),.int .u8 (tB v 3),.int .i64 (nI v)],tv] w fun e w'=>e=.returned (tyR (some (ty v)))∧Kept No w w'
   rw [show tyR (some (ty v))=.tuple #[.int .i32 (kI v),.bool true] by rw [kI_ty];rfl]
   obtain ⟨b,o,cap,rfl,_⟩:=hT
   go_enter Tryz.func111,Tryz.ntmps111
   go_wp2_with fail;go_ret2;exact ⟨rfl,(Kept.refl No w).alloc _⟩
def cmpT:Option Bool→Option Bool→Bool
 | some a,some b=>decide (a=b)
 | _,_=>false
theorem tkN_eq (a b:Bool):(tkN a == tkN b)=decide (a=b):=by cases a <;> cases b <;> rfl
theorem compares_any (P:Nat) (h:Hd) (lv iv tl tr:Value) (us vs:List Bool) (w:World) (hP:w.heap[P]? =some (.cells (partC h lv iv) 139 (0,0))) (hc:∀ c,h.l=.col c→c<10) (hd:∀ c,h.r=.col c→c<10) (hl:TyL w tl us) (hr:TyL w tr vs) :
 Calls Tryz.prog 107 #[.pointer (some ⟨P,0,none⟩),tl,tr] w fun e w'=>e=.returned (.bool (cmpT (tyO us h.l) (tyO vs h.r)))∧Kept No w w':=by
 have HYL:Hid (∀ w:World,w.heap[P]? =some (.cells (partC h lv iv) 139 (0,0))→(loadVar 135 ⟨P,3,none⟩).run Tryz.prog w=.ok (.agg (opA h.l).toArray) w):=fun w hw=>run_loadVar_mid w P 3 135 (opA h.l) _ (part_cells hw).2.2.2.1 Tryz.underlying135 rfl infoOp
 have HYR:Hid (∀ w:World,w.heap[P]? =some (.cells (partC h lv iv) 139 (0,0))→(loadVar 135 ⟨P,11,none⟩).run Tryz.prog w=.ok (.agg (opA h.r).toArray) w):=fun w hw=>run_loadVar_mid w P 11 135 (opA h.r) _ (part_cells hw).2.2.2.2.1 Tryz.underlying135 rfl infoOp
 have HL:=hid (typeIn_any h.l us tl w hc hl)
 have HR:Hid (∀ w1,Kept No w w1→Calls Tryz.prog 111 #[.agg (opA h.r).toArray,tr] w1 fun e w'=>e=.returned (tyR (tyO vs h.r))∧Kept No w1 w'):=fun w1 hk=>typeIn_any h.r vs tr w1 hd (hr.kept hk)
 have HP:=hid hP;have hPl:=lt_of_heap hP;clear hP hl hr hc hd;generalize tyO us h.l=x at HL ⊢;generalize tyO vs h.r=y at HR ⊢;generalize (opA h.l).toArray=vl at HL HYL;generalize (opA h.r).toArray=vr at HR HYR
 go_enter Tryz.func107,Tryz.ntmps107
 go_wp2_with (first
  | (refine load_by 135 _ rfl rfl P 3 rfl (.agg vl) (HYL.out _ HP.out) ?_)
  | fail)
 refine HL.out.mono ?_;rintro e w1 ⟨rfl,hk1⟩
 have HP1:Hid (w1.heap[P]? =some (.cells (partC h lv iv) 139 (0,0))):=(hk1.block P hPl (fun e=>e)).trans HP.out
 have HC:=hid (HR.out w1 hk1);have HK:=hid hk1;clear hk1 HL HR HYL
 cases x with
 | none =>
   simp only [tyR]
   go_wp2_with (first
    | (refine load_by 135 _ rfl rfl P 11 rfl (.agg vr) (HYR.out _ HP1.out) ?_)
    | fail)
   refine HC.out.mono ?_;rintro e w2 ⟨rfl,hk2⟩;have HK2:=hid hk2;clear hk2 HC HYR HP HP1
   cases y with
   | none=>simp only [tyR];go_wp2_with fail;go_ret;exact ⟨rfl,HK.out.seq HK2.out⟩
   | some b=>simp only [tyR];go_wp2_with fail;go_ret;exact ⟨rfl,HK.out.seq HK2.out⟩
 | some a =>
   simp only [tyR]
   go_wp2_with (first
    | (refine load_by 135 _ rfl rfl P 11 rfl (.agg vr) (HYR.out _ HP1.out) ?_)
    | fail)
   refine HC.out.mono ?_;rintro e w2 ⟨rfl,hk2⟩;have HK2:=hid hk2;clear hk2 HC HYR HP HP1
   cases y with
   | none=>simp only [tyR];go_wp2_with fail;go_ret;exact ⟨rfl,HK.out.seq HK2.out⟩
   | some b =>
     simp only [tyR];have HX:=hid (tkN_eq a b);generalize tkN a=ka at HX ⊢;generalize tkN b=kb at HX ⊢;go_wp2_with fail;go_ret;exact ⟨ret_bool HX.out,HK.out.seq HK2.out⟩
structure VS where
 q:Q
 nd:Nd
 blk:Nat
 told:Bag
 ts:List Bool
def tView (b:Nat):Tk:=⟨81,249,⟨b,0,none⟩⟩
def VA (V:VS) (a:Nat):Prop:=a=V.blk+2∨∃ b∈nds V.nd,a=b+2
def VAt (V:VS) (G:Nat→Bag) (w:World) (O:Ow):Prop:=ViewAt w O V.blk V.told (bagQ G 0 V.q)∧Nodes V.q V.nd (tView V.blk) 0 G w O
theorem VAt.stab {V:VS} {G:Nat→Bag} {w w':World} {O O':Ow} (h:VAt V G w O) (hs:w.heap.size≤w'.heap.size) (hk:∀ k,k<w.heap.size→VA V (O k)∨O k=1→w'.heap[k]? =w.heap[k]?∧O' k=O k):VAt V G w' O' :=
 ⟨h.1.stab fun k hk' e=>hk k hk' (.inl (.inl e)),h.2.stab hs V.q V.nd _ 0 fun k hk' e=>hk k hk' (e.imp .inr id)⟩
structure VFix (ft:List UInt8→Option (List Bool)) (V:VS):Prop where
 ty:tyQ ft V.q=some V.ts
 wf:wf V.q
 len:(leaves V.q).length≤120
 jn:joins V.q≤2
 shape:Shape V.q V.nd
 nod:(nds V.nd).Nodup
 own:∀ b∈nds V.nd,b≠V.blk
 told:OkB V.ts V.told
section
variable {ft:List UInt8→Option (List Bool)} {V:VS} {G:Nat→Bag}
theorem view_leaf (hf:∀ nm us,ft nm=some us→1≤us.length∧us.length≤6) (hV:VFix ft V) (G:Nat→Bag) {j:Nat} (hj:j<(leaves V.q).length) :
 ∃ us nm,(leaves V.q)[j]? =some nm∧ft nm=some us∧TakesT (leafT V.q V.nd (tView V.blk) j) (VA V) us (fun B=>Ok2 ft V.q 0 (updN G j B)∧OkB V.ts (bagQ (updN G j B) 0 V.q)) (fun w O B=>VAt V (updN G j B) w O):=by
 have h:=leaf_takes hf V.q V.nd (tView V.blk) (fun a=>a=V.blk+2) V.ts (OkB V.ts) (fun w O B=>ViewAt w O V.blk V.told B) 0 G j (view_takes V.blk V.ts V.told hV.told) hV.ty hV.wf hV.shape hV.nod (fun b hb e=>hV.own b hb (by omega)) hj
 obtain ⟨us,nm,h1,h2,h3⟩:=h;rw [Nat.zero_add] at h3;exact ⟨us,nm,h1,h2,h3⟩
def GOk (ft:List UInt8→Option (List Bool)) (V:VS) (G:Nat→Bag):Prop:=Small G 120∧LeafT ft V.q 0 G
theorem GOk.ok (hf:∀ nm us,ft nm=some us→1≤us.length∧us.length≤6) (hV:VFix ft V) (h:GOk ft V G):Ok2 ft V.q 0 G∧OkB V.ts (bagQ G 0 V.q) :=
 ⟨Mo.ok2 hf h.1 V.q hV.wf hV.len hV.jn 0 h.2 hV.ty,Mo.okQ hf h.1 V.q hV.wf hV.len hV.jn 0 h.2 hV.ty⟩
theorem updN_same (G:Nat→Bag) (j:Nat):updN G j (G j)=G:=by
 funext k;unfold updN;split
 ·next h=>rw [h]
 ·rfl
theorem deliver_leaf (hf:∀ nm us,ft nm=some us→1≤us.length∧us.length≤6) (hV:VFix ft V) {j:Nat} (hj:j<(leaves V.q).length) {d:Bag} {c:Nat} {w:World} {O:Ow} (h:VAt V G w O) (g1:GOk ft V G) (g2:GOk ft V (updN G j (G j++d))) (hc:BagAt w c (canon d)) (hA:¬VA V (O c)) :
 Calls Tryz.prog 47 #[.map (some c),(leafT V.q V.nd (tView V.blk) j).val] w (TakeEnd (VA V) (fun w O _=>VAt V (updN G j (G j++d)) w O) [] w O):=by
 obtain ⟨us,nm,h1,h2,h3⟩:=view_leaf hf hV G hj;have e:=updN_same G j
 refine (h3.deliver (B:=G j) (d:=d) (c:=c) (w:=w) (O:=O) (by show VAt V (updN G j (G j)) w O;rw [e];exact h) (by rw [e];exact g1.ok hf hV) (g2.ok hf hV) hc hA).mono fun e w' hE=> ?_
 obtain ⟨a1,O',a2,a3,a4⟩:=hE;exact ⟨a1,O',a2,a3,a4⟩
end
def prs (vs:List VS) (nm:List UInt8):List (VS × Nat):=vs.flatMap fun V=>((List.range (leaves V.q).length).filter fun j=>decide ((leaves V.q)[j]? =some nm)).map fun j=>(V,j)
def tkP (p:VS × Nat):Tk:=leafT p.1.q p.1.nd (tView p.1.blk) p.2
def keyP (p:VS × Nat):Nat × Nat:=(p.1.blk,p.2)
theorem mem_prs {vs:List VS} {nm:List UInt8} {p:VS × Nat}:p∈prs vs nm↔p.1∈vs∧(leaves p.1.q)[p.2]? =some nm:=by
 obtain ⟨V,j⟩:=p;unfold prs;simp only [List.mem_flatMap,List.mem_map,List.mem_filter,List.mem_range,decide_eq_true_eq,Prod.mk.injEq]
 constructor
 ·rintro ⟨V',h1,j',⟨h2,h3⟩,rfl,rfl⟩;exact ⟨h1,h3⟩
 ·rintro ⟨h1,h2⟩;exact ⟨V,h1,j,⟨(List.getElem?_eq_some_iff.1 h2).1,h2⟩,rfl,rfl⟩
theorem prs_nodup {nm:List UInt8}:∀ {vs:List VS},(vs.map VS.blk).Nodup→((prs vs nm).map keyP).Nodup
 | [],_=>List.nodup_nil
 | V::vs,h=>by
   have hn:=List.nodup_cons.1 (by simpa using h:(V.blk::vs.map VS.blk).Nodup)
   have e:prs (V::vs) nm=prs [V] nm++prs vs nm:=by simp [prs]
   rw [e,List.map_append,List.nodup_append]
   refine ⟨?_,prs_nodup hn.2,fun a ha b hb e=> ?_⟩
   ·have:(prs [V] nm).map keyP=((List.range (leaves V.q).length).filter fun j=>decide ((leaves V.q)[j]? =some nm)).map fun j=>(V.blk,j):=by simp [prs,keyP]
    rw [this]
    exact List.Pairwise.map (fun j=>(V.blk,j)) (fun a b (hab:a≠b) e=>hab (by simpa using e)) (List.nodup_range.filter _)
   ·subst e
    obtain ⟨p,hp,rfl⟩:=List.mem_map.1 ha;obtain ⟨q,hq,e⟩:=List.mem_map.1 hb;have h1:=(mem_prs.1 hp).1;have h2:=(mem_prs.1 hq).1;have h3:q.1.blk=p.1.blk:=(Prod.mk.inj e).1;rw [List.mem_singleton] at h1;rw [h1] at h3;exact hn.1 (List.mem_map.2 ⟨q.1,h2,h3⟩)
def gv (done:List (VS × Nat)) (d:Bag) (G:VS→Nat→Bag) (V:VS):Nat→Bag:=fun j=>if (V.blk,j)∈done.map keyP then G V j++d else G V j
theorem gv_nil (d:Bag) (G:VS→Nat→Bag) (V:VS):gv [] d G V=G V:=by funext j;simp [gv]
theorem gv_step {done:List (VS × Nat)} {d:Bag} {G:VS→Nat→Bag} {V:VS} {j:Nat} (h:(V.blk,j)∉done.map keyP):updN (gv done d G V) j (gv done d G V j++d)=gv (done++[(V,j)]) d G V:=by
 funext k
 unfold updN
 by_cases hk:k=j
 ·subst hk
  rw [if_pos rfl]
  show (if (V.blk,k)∈done.map keyP then _ else _)++d=if (V.blk,k)∈(done++[(V,k)]).map keyP then _ else _
  rw [if_neg h,if_pos (by simp [keyP])]
 ·rw [if_neg hk]
  show (if (V.blk,k)∈done.map keyP then _ else _)=if (V.blk,k)∈(done++[(V,j)]).map keyP then _ else _
  have:((V.blk,k)∈(done++[(V,j)]).map keyP)↔(V.blk,k)∈done.map keyP:=by
   rw [List.map_append,List.mem_append]
   simp [keyP,hk]
  simp only [this]
theorem gv_other {done:List (VS × Nat)} {d:Bag} {G:VS→Nat→Bag} {V V':VS} {j:Nat} (h:V'.blk≠V.blk):gv (done++[(V,j)]) d G V'=gv done d G V':=by
 funext k
 show (if (V'.blk,k)∈(done++[(V,j)]).map keyP then _ else _)=if (V'.blk,k)∈done.map keyP then _ else _
 have:((V'.blk,k)∈(done++[(V,j)]).map keyP)↔(V'.blk,k)∈done.map keyP:=by
  rw [List.map_append,List.mem_append]
  simp [keyP,h]
 simp only [this]
theorem give_all {ft:List UInt8→Option (List Bool)} (hf:∀ nm us,ft nm=some us→1≤us.length∧us.length≤6) {vs:List VS} (hV:∀ V∈vs,VFix ft V) (hn:(vs.map VS.blk).Nodup) (hD:∀ V∈vs,∀ V'∈vs,V'.blk≠V.blk→∀ a,VA V a→¬VA V' a) (h1:∀ V∈vs,¬VA V 1)
 {nm:List UInt8} {d:Bag} {G:VS→Nat→Bag} (hG:∀ i,∀ V∈vs,GOk ft V (gv ((prs vs nm).take i) d G V)) {b c cap:Nat} {sa:Option Addr} {w:World} {O:Ow} (hl:(prs vs nm).length≤1000000)
 (hb:w.cell? ⟨b,0,none⟩=some (.slice sa (prs vs nm).length cap)) (hcell:∀ i T,((prs vs nm).map fun p=>(tkP p).val)[i]? =some T→∃ g o,sa=some ⟨g,o,none⟩∧g<w.heap.size∧(∀ V∈vs,¬VA V (O g))∧w.cell? ⟨g,o+i,none⟩=some T)
 (h0:∀ V∈vs,VAt V (G V) w O) (hc:BagAt w c (canon d)) (hA:∀ V∈vs,¬VA V (O c)) :
 Calls Tryz.prog 250 #[.pointer (some ⟨b,0,none⟩),.map (some c)] w fun e w'=>e=.returned (.tuple #[])∧∃ O':Ow,(∀ k,k<w.heap.size→O' k=O k)∧Kept (fun k=>∃ V∈vs,VA V (O k)) w w'∧∀ V∈vs,VAt V (gv (prs vs nm) d G V) w' O':=by
 have hlm:((prs vs nm).map fun p=>(tkP p).val).length=(prs vs nm).length:=List.length_map _
 have:=give_any b c cap sa ((prs vs nm).map fun p=>(tkP p).val) w (fun i wr=>∃ O':Ow,(∀ k,k<w.heap.size→O' k=O k)∧Kept (fun k=>∃ V∈vs,VA V (O k)) w wr∧∀ V∈vs,VAt V (gv ((prs vs nm).take i) d G V) wr O')
  (by rw [hlm];exact hl) (by rw [hlm];exact hb) ⟨O,fun _ _=>rfl,Kept.refl _ _,fun V hv=>by rw [List.take_zero,gv_nil];exact h0 V hv⟩
  (fun i T wr hI hT=>by
    obtain ⟨O',_,hk,_⟩:=hI;obtain ⟨g,o,e1,e2,e3,e4⟩:=hcell i T hT
    exact ⟨g,o,e1,(hk.cell e2 (fun ⟨V,hv,ha⟩=>e3 V hv ha)).trans e4⟩)
  (fun i T wr hT hI=>by
    obtain ⟨O',hO,hk,hA0⟩:=hI;rw [List.getElem?_map] at hT;obtain ⟨p,hp,rfl⟩:=Option.map_eq_some_iff.1 hT;obtain ⟨V,j⟩:=p
    have hm:=mem_prs.1 (List.mem_of_getElem? hp)
    have hv:V∈vs:=hm.1;have hj:j<(leaves V.q).length:=(List.getElem?_eq_some_iff.1 hm.2).1
    have htk:(prs vs nm).take (i+1)=(prs vs nm).take i++[(V,j)]:=by rw [List.take_add_one,hp];rfl
    have hnot:(V.blk,j)∉((prs vs nm).take i).map keyP:=by
     have hnd:=prs_nodup (nm:=nm) hn
     have:((prs vs nm).take (i+1)).map keyP=((prs vs nm).take i).map keyP++[(V.blk,j)]:=by rw [htk,List.map_append];rfl
     have h2:(((prs vs nm).take (i+1)).map keyP).Nodup:=by rw [List.map_take];exact hnd.sublist (List.take_sublist _ _)
     rw [this,List.nodup_append] at h2;intro hx
     exact h2.2.2 _ hx _ (by simp) rfl
    have hst:=gv_step (d:=d) (G:=G) hnot
    have hOc:¬VA V (O' c):=by rw [hO c hc.lt];exact hA V hv
    have hc':BagAt wr c (canon d):=hc.of_block (hk.block c hc.lt fun ⟨V,hv,ha⟩=>hA V hv ha)
    refine (deliver_leaf hf (hV V hv) hj (d:=d) (c:=c) (hA0 V hv) (hG i V hv) (by rw [hst,←htk];exact hG (i+1) V hv) hc' hOc).mono fun e w' hE=> ?_
    obtain ⟨he,O2,q1,q2,q3⟩:=hE
    refine ⟨he,O2,fun k hk'=>(q1 k (Nat.lt_of_lt_of_le hk' hk.size)).trans (hO k hk'),hk.trans q2 (fun _ e=>e) (fun k hk' e=>⟨V,hv,by rw [hO k hk'] at e;exact e⟩),fun V' hv'=> ?_⟩
    rw [htk]
    by_cases hb':V'.blk=V.blk
    ·have:V'=V:=nodup_inj hn hv' hv hb'
     subst this;rw [←hst];exact q3
    ·rw [gv_other hb']
     refine (hA0 V' hv').stab q2.size fun k hk' e=>⟨q2.block k hk' fun ha=> ?_,q1 k hk'⟩
     rcases e with e | e
     ·exact hD V hv V' hv' hb' _ ha e
     ·rw [e] at ha;exact h1 V hv ha)
 refine this.mono fun e w' ⟨he,O',q1,q2,q3⟩=>⟨he,O',q1,q2,fun V hv=> ?_⟩
 have:=q3 V hv
 rw [hlm,List.take_length] at this;exact this
end Go.Proofs.YtdinjjmcmfjbfaaGreatDoor
