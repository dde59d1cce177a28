import Derived.Test.YtdinjjmcmfjbfaaGreatDoorKtJ
import Derived.Test.YtdinjjmcmfjbfaaGreatDoorKpJ
import Derived.Test.YtdinjjmcmfjbfaaGreatDoorNtJ
namespace Go.Proofs.YtdinjjmcmfjbfaaGreatDoor
open Go.RowKit Go.Shelf
open Mo (V Row Bag cnt canon Eqv OkB OkD colR selB)
def selV (c:Nat) (v:V) (S:Bag):Bag:=selB (fun r=>decide (colR r c=v)) S
theorem selV_append (c:Nat) (v:V) (S d:Bag):selV c v (S++d)=selV c v S++selV c v d:=Mo.selB_append _ _ _
theorem selV_eqv {c:Nat} {v:V} {S S':Bag} (e:Eqv S S'):Eqv (selV c v S) (selV c v S'):=Mo.selB_eqv e
theorem selV_snoc_ne {c:Nat} {v:V} {S:Bag} {q:Row} {t:Int} (h:colR q c≠v):selV c v (S++[(q,t)])=selV c v S:=by
 rw [selV_append];unfold selV selB;simp [h]
theorem selV_snoc {c:Nat} {S:Bag} {q:Row} {t:Int}:selV c (colR q c) (S++[(q,t)])=selV c (colR q c) S++[(q,t)]:=by
 rw [selV_append];unfold selV selB;simp
theorem cnt_selV (c:Nat) (v:V) (S:Bag) (r:Row):cnt (selV c v S) r=if colR r c=v then cnt S r else 0:=by
 unfold selV;rw [Mo.cnt_eq_lin,Mo.selB_lin,Mo.cnt_eq_lin]
 by_cases h:colR r c=v
 ·rw [if_pos h]
  refine Mo.lin_congr_fun S fun e _=> ?_
  by_cases he:e.1=r
  ·subst he;simp [h]
  ·simp [he]
 ·rw [if_neg h]
  have:(fun x:Row=>if decide (colR x c=v)=true then (if x=r then (1:Int) else 0) else 0)=fun _=>0:=by
   funext x
   by_cases hx:x=r
   ·subst hx;simp [h]
   ·simp [hx]
  rw [this,Mo.lin_zero]
def shM (f:V→Option Nat):V→Option Value:=fun v=>(f v).map fun b=>.map (some b)
def updF (f:V→Option Nat) (v:V) (x:Option Nat):V→Option Nat:=fun u=>if u=v then x else f u
theorem shM_upd (f:V→Option Nat) (v:V) (x:Option Nat):upd (shM f) v (x.map fun b=>.map (some b))=shM (updF f v x):=by
 funext u;unfold upd shM updF;by_cases h:u=v <;> simp [h]
structure ShOk (w:World) (O:Ow) (id m c:Nat) (L:Bag) (f:V→Option Nat):Prop where
 map:MapIs 133 aggV VOk w m (shM f)
 own:O m=id
 bag:∀ {v:V} {b:Nat},f v=some b→O b=id∧b≠m∧BagAt w b (canon (selV c v L))∧canon (selV c v L)≠[]
 no:∀ {v:V},VOk v→f v=none→canon (selV c v L)=[]
 inj:∀ {v u:V} {b:Nat},f v=some b→f u=some b→v=u
def ShB (hv:Value) (f:V→Option Nat) (k:Nat):Prop:=hv=.map (some k)∨∃ v,f v=some k
def ShAt (w:World) (O:Ow) (id:Nat) (hv:Value) (c:Nat) (S:Bag) (f:V→Option Nat):Prop:=(hv=.map none∧canon S=[]∧∀ v,f v=none)∨∃ m,hv=.map (some m)∧ShOk w O id m c S f
theorem ShOk.mk2 {w w':World} {O O':Ow} {id m c:Nat} {L:Bag} {f:V→Option Nat} (h:ShOk w O id m c L f) (hk:∀ k,k=m∨(∃ v,f v=some k)→w'.heap[k]? =w.heap[k]?∧O' k=O k):ShOk w' O' id m c L f :=
 ⟨h.map.of_block (hk m (.inl rfl)).1,(hk m (.inl rfl)).2.trans h.own,fun {v b} e=>⟨((hk b (.inr ⟨v,e⟩)).2).trans (h.bag e).1,(h.bag e).2.1,(h.bag e).2.2.1.of_block (hk b (.inr ⟨v,e⟩)).1,(h.bag e).2.2.2⟩,h.no,h.inj⟩
theorem ShOk.eqv {w:World} {O:Ow} {id m c:Nat} {L L':Bag} {f:V→Option Nat} (h:ShOk w O id m c L f) (e:Eqv L L'):ShOk w O id m c L' f:=by
 have he:∀ v,canon (selV c v L)=canon (selV c v L'):=fun v=>(selV_eqv e).canon
 exact ⟨h.map,h.own,fun {v b} hb=>by rw [←he];exact h.bag hb,fun {v} hv hf=>by rw [←he];exact h.no hv hf,h.inj⟩
theorem ShAt.eqv {w:World} {O:Ow} {id c:Nat} {hv:Value} {L L':Bag} {f:V→Option Nat} (h:ShAt w O id hv c L f) (e:Eqv L L'):ShAt w O id hv c L' f:=by
 rcases h with ⟨h1,h2,h3⟩ | ⟨m,h1,h2⟩
 ·exact .inl ⟨h1,by rw [←e.canon];exact h2,h3⟩
 ·exact .inr ⟨m,h1,h2.eqv e⟩
theorem ShAt.lt {w:World} {O:Ow} {id c:Nat} {hv:Value} {L:Bag} {f:V→Option Nat} (h:ShAt w O id hv c L f) {k:Nat} (hk:ShB hv f k):k<w.heap.size∧O k=id:=by
 rcases h with ⟨h1,h2,h3⟩ | ⟨m,h1,h2⟩
 ·rcases hk with e | ⟨v,e⟩
  ·rw [h1] at e;cases e
  ·rw [h3] at e;cases e
 ·rcases hk with e | ⟨v,e⟩
  ·rw [h1] at e
   have:m=k:=by simpa using e
   subst this;exact ⟨h2.map.lt,h2.own⟩
  ·exact ⟨(h2.bag e).2.2.1.lt,(h2.bag e).1⟩
theorem ShAt.mk2 {w w':World} {O O':Ow} {id c:Nat} {hv:Value} {L:Bag} {f:V→Option Nat} (h:ShAt w O id hv c L f) (hk:∀ k,ShB hv f k→w'.heap[k]? =w.heap[k]?∧O' k=O k):ShAt w' O' id hv c L f:=by
 rcases h with h | ⟨m,h1,h2⟩
 ·exact .inl h
 ·exact .inr ⟨m,h1,h2.mk2 fun k hk'=>hk k (by rcases hk' with rfl | e;exact .inl h1;exact .inr e)⟩
theorem ShAt.stab {w w':World} {O O':Ow} {id c:Nat} {hv:Value} {L:Bag} {f:V→Option Nat} (h:ShAt w O id hv c L f) (hk:∀ k,k<w.heap.size→O k=id→w'.heap[k]? =w.heap[k]?∧O' k=O k):ShAt w' O' id hv c L f :=
 h.mk2 fun k hB=>hk k (h.lt hB).1 (h.lt hB).2
theorem ShAt.is {w:World} {O:Ow} {id c:Nat} {hv:Value} {L:Bag} {f:V→Option Nat} (h:ShAt w O id hv c L f):∃ m,hv=.map m:=by
 rcases h with ⟨h1,_⟩ | ⟨m,h1,_⟩ <;> exact ⟨_,h1⟩
theorem ShOk.step {w w':World} {O:Ow} {id m c:Nat} {L:Bag} {f f2:V→Option Nat} {q:Row} {t:Int} (h:ShOk w O id m c L f) (hm:MapIs 133 aggV VOk w' m (shM f2)) (h2:∀ v,v≠colR q c→f2 v=f v) (hs:∀ v b,v≠colR q c→f v=some b→w'.heap[b]? =w.heap[b]?)
 (h0:∀ b,f2 (colR q c)=some b→O b=id∧b≠m∧BagAt w' b (canon (selV c (colR q c) (L++[(q,t)])))∧canon (selV c (colR q c) (L++[(q,t)]))≠[]∧∀ v,v≠colR q c→f v≠some b)
 (hn:f2 (colR q c)=none→canon (selV c (colR q c) (L++[(q,t)]))=[]):ShOk w' O id m c (L++[(q,t)]) f2:=by
 refine ⟨hm,h.own,fun {v b} e=> ?_,fun {v} hv e=> ?_,fun {v u b} e1 e2=> ?_⟩
 ·by_cases hv:v=colR q c
  ·subst hv;have:=h0 b e;exact ⟨this.1,this.2.1,this.2.2.1,this.2.2.2.1⟩
  ·rw [h2 v hv] at e
   rw [selV_snoc_ne (fun x=>hv x.symm)]
   have:=h.bag e
   exact ⟨this.1,this.2.1,this.2.2.1.of_block (hs v b hv e),this.2.2.2⟩
 ·by_cases hv':v=colR q c
  ·subst hv';exact hn e
  ·rw [h2 v hv'] at e
   rw [selV_snoc_ne (fun x=>hv' x.symm)];exact h.no hv e
 ·by_cases hv:v=colR q c
  ·by_cases hu:u=colR q c
   ·rw [hv,hu]
   ·rw [h2 u hu] at e2
    rw [hv] at e1;exact absurd e2 ((h0 b e1).2.2.2.2 u hu)
  ·by_cases hu:u=colR q c
   ·rw [h2 v hv] at e1
    rw [hu] at e2;exact absurd e1 ((h0 b e2).2.2.2.2 v hv)
   ·rw [h2 v hv] at e1
    rw [h2 u hu] at e2;exact h.inj e1 e2
theorem zeroBag (w:World):(zeroValue 83).run Tryz.prog w=.ok (.map none) w:=by kernel_rfl
theorem Ents.cnt_or {ts:List Bool} {d es:Bag} (h:Ents (canon d) es) (hd:OkD ts d) (r:Row):cnt es r=0∨cnt es r=cnt d r:=by
 by_cases hr:∃ e∈es,e.1=r
 ·obtain ⟨e,he,rfl⟩:=hr
  right;rw [cnt_of_nodup h.1 he,(h.2 e he).2.1,hd.w64]
 ·left;exact Mo.cnt_none fun e he e'=>hr ⟨e,he,e'⟩
theorem sh_cov {w:World} {O:Ow} {id m c:Nat} {L:Bag} {f:V→Option Nat} (h:ShOk w O id m c L f):Cov (shM f) (canon L).length:=by
 refine ⟨(canon L).map fun e=>colR e.1 c,by simp,fun v hv=> ?_⟩
 unfold shM at hv
 cases hf:f v with
 | none=>rw [hf] at hv;cases hv
 | some b =>
   obtain ⟨e,he⟩:=List.exists_mem_of_ne_nil _ (h.bag hf).2.2.2;have h1:=Mo.mem_canon_cnt he;rw [cnt_selV] at h1
   by_cases hc:colR e.1 c=v
   ·rw [if_pos hc] at h1
    obtain ⟨x,hx,hxe⟩:=Mo.lin_pos_mem h1
    exact List.mem_map.2 ⟨x,hx,by rw [hxe,hc]⟩
   ·rw [if_neg hc] at h1;exact absurd rfl h1
end Go.Proofs.YtdinjjmcmfjbfaaGreatDoor
namespace Go.Proofs.YtdinjjmcmfjbfaaGreatDoor.Mo
theorem cnt_wt_le {l:Bag} (h:nn l) (q:Row):cnt l q*wt q≤Wt l:=by
 have e:cnt l q*wt q=lin l (fun r=>if r=q then wt q else 0):=by
  rw [cnt_eq_lin,Int.mul_comm,←lin_mul]
  refine lin_congr_fun l fun e _=> ?_
  split <;> simp
 rw [e]
 exact lin_mono h fun r=>by split;(rename_i hr;rw [hr];exact Int.le_refl _);exact wt_nn r
theorem abs_le_mul {a b c d:Int} (ha:0≤a) (h1: -b≤c) (h2:c≤b) (hd:a*b≤d): -d≤a*c∧a*c≤d:=by
 have e1:=Int.mul_le_mul_of_nonneg_left h2 ha;have e2:=Int.mul_le_mul_of_nonneg_left h1 ha;rw [Int.mul_neg] at e2;omega
theorem cnt_sv {ts:List Bool} {b:Bag} (h:OkB ts b) (s:Option Nat) (q:Row): -90000000000000000≤cnt b q*sv s q∧cnt b q*sv s q≤90000000000000000:=by
 have h1:=cnt_wt_le h.nn q;have h2:=h.wts;have h3:=sv_wt s q
 exact abs_le_mul (h.nn q) h3.1 h3.2 (by omega)
theorem mul_bd {ts:List Bool} {b d:Bag} (h:OkB ts b) (k:OkB ts (b++d)) (s:Option Nat) (q:Row): -9223372036854775808≤cnt d q*sv s q∧cnt d q*sv s q≤9223372036854775807:=by
 have h1:=cnt_sv h s q;have h2:=cnt_sv k s q
 have e:cnt d q*sv s q=cnt (b++d) q*sv s q-cnt b q*sv s q:=by rw [cnt_append,Int.add_mul];omega
 omega
theorem tot_bd {ts:List Bool} {b:Bag} (h:OkB ts b) (cs:List Nat) (s:Option Nat) (k:Row): -90000000000000000≤cnt (totB cs s b) k∧cnt (totB cs s b) k≤90000000000000000:=by
 have h1:=grpN_le (cs:=cs) (s:=s) h.nn k
 have h2:lin b (fun r=>if pickR cs r=k then wt r else 0)≤Wt b:=lin_mono h.nn fun r=>by split;exact Int.le_refl _;exact wt_nn r
 have h3:=h.wts;rw [cnt_totB];omega
theorem pick_bd {ts:List Bool} {b:Bag} (h:OkB ts b) (cs:List Nat) (k:Row):0≤cnt (pickB cs b) k∧cnt (pickB cs b) k≤3000000000000:=by
 have h1:=pickB_nn (cs:=cs) h.nn;have h2:=cnt_le_Nr h1 k;rw [pickB_Nr] at h2;have h3:=h.rows
 exact ⟨h1 k,by omega⟩
theorem grows_eqv {cs:List Nat} {s:Option Nat} {l:Bag} {ks js:List Row} (h1:ks.Nodup) (h2:js.Nodup) (h:∀ k,k∈ks↔k∈js):Eqv (ks.flatMap (grow cs s l)) (js.flatMap (grow cs s l)):=fun r=>by
 rw [cnt_grows h1,cnt_grows h2]
 by_cases hm:r.dropLast∈ks
 ·rw [if_pos hm,if_pos ((h _).1 hm)]
 ·rw [if_neg hm,if_neg (fun e=>hm ((h _).2 e))]
theorem pick_row {cs:List Nat} {d:Bag} {k:Row} (h:cnt (pickB cs d) k≠0):k.length=cs.length:=by
 obtain ⟨x,hx,rfl⟩:=Rise.mem_of_cnt h;obtain ⟨y,_,rfl⟩:=List.mem_map.1 hx
 simp [pickR]
theorem tot_row {cs:List Nat} {s:Option Nat} {d:Bag} {k:Row} (h:cnt (totB cs s d) k≠0):k.length=cs.length:=by
 obtain ⟨x,hx,rfl⟩:=Rise.mem_of_cnt h;obtain ⟨y,_,rfl⟩:=List.mem_map.1 hx
 simp [pickR]
end Go.Proofs.YtdinjjmcmfjbfaaGreatDoor.Mo
namespace Go.Proofs.YtdinjjmcmfjbfaaGreatDoor
open Go.RowKit Go.Shelf
open Mo (V Row Bag cnt canon Eqv OkB OkD Opd opdR pickR pickB totB grow grpB neg)
def GrpAt (w:World) (O:Ow) (b:Nat) (T:Value) (cs:List Nat) (s:Option Nat) (x:Opd) (B:Bag):Prop :=
 O b=b+2∧∃ g cap hv tv cv,w.heap[b]? =some (.cells (grpC (tkS g cap) hv tv cv x) 286 (0,0))∧TkAt w O b g T∧MemAt w O b hv (pickB cs B)∧MemAt w O b tv (totB cs s B)∧ColsAt w O cv cs∧∀ k,tv=.map (some k)→hv≠.map (some k)
theorem GrpAt.stab {w w':World} {O O':Ow} {b:Nat} {T:Value} {cs:List Nat} {s:Option Nat} {x:Opd} {B:Bag} (h:GrpAt w O b T cs s x B) (hs:w.heap.size≤w'.heap.size) (hk:∀ k,k<w.heap.size→O k=b+2∨O k=1→w'.heap[k]? =w.heap[k]?∧O' k=O k):GrpAt w' O' b T cs s x B:=by
 obtain ⟨h0,g,cap,hv,tv,cv,h1,h2,h3,h4,h5,h6⟩:=h;have hb:=hk b (lt_of_heap h1) (.inl h0)
 exact ⟨hb.2.trans h0,g,cap,hv,tv,cv,hb.1.trans h1,h2.stab (hk g h2.lt (.inl h2.1)),h3.stab fun k hk' e=>hk k hk' (.inl e),h4.stab fun k hk' e=>hk k hk' (.inl e),h5.stab hs fun k hk' e=>hk k hk' (.inr e),h6⟩
theorem GrpAt.eqv {w:World} {O:Ow} {b:Nat} {T:Value} {cs:List Nat} {s:Option Nat} {x:Opd} {B B':Bag} (h:GrpAt w O b T cs s x B) (e:Eqv B B'):GrpAt w O b T cs s x B':=by
 obtain ⟨h0,g,cap,hv,tv,cv,h1,h2,h3,h4,h5,h6⟩:=h;exact ⟨h0,g,cap,hv,tv,cv,h1,h2,h3.eqv (Mo.pickB_eqv e),h4.eqv (Mo.totB_eqv e),h5,h6⟩
theorem BagAt.canon_of {w:World} {b:Nat} {l l':Bag} (h:BagAt w b l) (e:Eqv l l'):BagAt w b (canon l'):=by
 refine h.eqv (e.trans (Mo.canon_eqv _).symm) fun x hx=> ?_
 have:cnt l x.1≠0:=by rw [e];exact Mo.mem_canon_cnt hx
 obtain ⟨y,hy,hxy⟩:=Mo.Rise.mem_of_cnt this;rw [←hxy];exact h.1 y hy
theorem canon_append_ok {a b:Bag} (h:∀ x∈canon a,ROk x.1) (k:∀ x∈canon b,ROk x.1):∀ x∈canon (a++b),ROk x.1:=fun x hx=>by
 have h1:=Mo.mem_canon_cnt hx;rw [Mo.cnt_append] at h1
 by_cases ha:cnt a x.1=0
 ·have:cnt b x.1≠0:=by omega
  obtain ⟨y,hy,e⟩:=Mo.lin_pos_mem this;rw [←e];exact k y hy
 ·obtain ⟨y,hy,e⟩:=Mo.lin_pos_mem ha
  rw [←e];exact h y hy
theorem gB_grow {us:List Bool} {b:Bag} (h:OkB us b) (cs:List Nat) (s:Option Nat) (es:Bag):gB (canon (pickB cs b)) (canon (totB cs s b)) 1 es=(es.map (·.1)).flatMap (grow cs s b)∧gB (canon (pickB cs b)) (canon (totB cs s b)) (-1) es=neg ((es.map (·.1)).flatMap (grow cs s b)):=by
 have h1:∀ k,wrap64 (cnt (canon (pickB cs b)) k)=cnt (pickB cs b) k:=fun k=>by rw [Mo.canon_cnt,wrap64_id];have:=Mo.pick_bd h cs k;omega
 have h2:∀ k,wrap64 (cnt (canon (totB cs s b)) k)=cnt (totB cs s b) k:=fun k=>by rw [Mo.canon_cnt,wrap64_id];have:=Mo.tot_bd h cs s k;omega
 unfold gB gE;simp only [h1,h2]
 constructor
 ·rw [List.flatMap_map];rfl
 ·rw [List.flatMap_map]
  induction es with
  | nil=>rfl
  | cons e es ih =>
    rw [List.flatMap_cons,ih,List.flatMap_cons];unfold neg grow;rw [List.map_append]
    congr 1
    split <;> simp
theorem grp_ty:TyTake 284 262:=⟨fun _ _=>by kernel_rfl,fun _ _=>by kernel_rfl,enters_of Tryz.func262 (by kernel_rfl) rfl⟩
structure GrpOk0 (us:List Bool) (cs:List Nat) (s:Option Nat) (x:Opd):Prop where
 c6:∀ y∈cs,y<6
 l5:cs.length≤5
 x6:∀ c,x=.col c→c<6
 row:∀ {q:Row},Mo.Good us q→ROk (pickR cs q)
 sv:∀ q,Mo.sv s q=nI (opdR x q)
theorem grp_takes {ty:TypeId} {f:Nat} {p:Addr} {A:Nat→Prop} {ts:List Bool} {Gd:Bag→Prop} {R:World→Ow→Bag→Prop} (hT:Takes ty f p A ts Gd R) (b:Nat) (cs:List Nat) (s:Option Nat) (x:Opd) (us:List Bool) (hG:GrpOk0 us cs s x) (hA:¬A (b+2)) :
 Takes 284 262 ⟨b,0,none⟩ (fun a=>A a∨a=b+2) us (fun B=>OkB us B∧Gd (grpB cs s B)) (fun w O B=>R w O (grpB cs s B)∧GrpAt w O b (.iface ty (.pointer (some p))) cs s x B) where
 zero:=fun h=>h.elim hT.zero (by omega)
 one:=fun h=>h.elim hT.one (by omega)
 ok:=fun h=>h.1
 gde:=fun h e=>⟨h.1.eqv e,by rw [←Mo.grpB_eqv e];exact h.2⟩
 stab:=fun h hs hk=>⟨hT.stab h.1 hs fun k hk' ha=>hk k hk' (ha.imp .inl id),h.2.stab hs fun k hk' e=>hk k hk' (e.imp .inr id)⟩
 eqv:=fun h e=>⟨by rw [←Mo.grpB_eqv e];exact h.1,h.2.eqv e⟩
 met:=grp_ty
 run:=by
  rintro w O B d c ⟨hR,hS⟩ ⟨hB1,hB2⟩ ⟨hD1,hD2⟩ hc hAc;have hd:=hB1.chg hD1;obtain ⟨hO0,g,cap,hv,tv,cv,hb,hg,hm,htm,hcv,hdis⟩:=hS
  refine grp_loop b c (tkS g cap) hv tv cv cs s x us d ⟨hG.c6,by have:=hG.l5;omega,hG.x6,hG.row,hG.sv,Mo.mul_bd hB1 hD1 s⟩ w _ hb hcv.1 hd hc fun w3 es hall ha hta hk=> ?_
  have hes:=hall.eqv hd;have ha':BagAt w3 w.heap.size (canon (pickB cs d)):=ha.canon_of (Mo.pickB_eqv hes);have hta':BagAt w3 (w.heap.size+1) (canon (totB cs s d)):=hta.canon_of (Mo.totB_eqv hes);have hbl:=lt_of_heap hb
  have nP:(canon (pickB cs d)).length≤6000000000000:=by
   have h1:Eqv (pickB cs d) (pickB cs (canon d)):=Mo.pickB_eqv (Mo.canon_eqv d).symm;have h2:=Mo.canon_append_len (pickB cs (canon d)) [];have h3:(pickB cs (canon d)).length=(canon d).length:=List.length_map _;have h4:=hd.len;simp only [List.append_nil,Mo.canon,List.length_nil] at h2;rw [h1.canon];omega
  have nT:(canon (totB cs s d)).length≤6000000000000:=by
   have h1:Eqv (totB cs s d) (totB cs s (canon d)):=Mo.totB_eqv (Mo.canon_eqv d).symm;have h2:=Mo.canon_append_len (totB cs s (canon d)) [];have h3:(totB cs s (canon d)).length=(canon d).length:=List.length_map _;have h4:=hd.len;simp only [List.append_nil,Mo.canon,List.length_nil] at h2;rw [h1.canon];omega
  have nPB:(canon (pickB cs B)).length≤3000000000000:=by
   have h1:Eqv (pickB cs B) (pickB cs (canon B)):=Mo.pickB_eqv (Mo.canon_eqv B).symm;have h2:=Mo.canon_append_len (pickB cs (canon B)) [];have h3:(pickB cs (canon B)).length=(canon B).length:=List.length_map _;have h4:=hB1.len;simp only [List.append_nil,Mo.canon,List.length_nil] at h2;rw [h1.canon];omega
  have nTB:(canon (totB cs s B)).length≤3000000000000:=by
   have h1:Eqv (totB cs s B) (totB cs s (canon B)):=Mo.totB_eqv (Mo.canon_eqv B).symm;have h2:=Mo.canon_append_len (totB cs s (canon B)) [];have h3:(totB cs s (canon B)).length=(canon B).length:=List.length_map _;have h4:=hB1.len;simp only [List.append_nil,Mo.canon,List.length_nil] at h2;rw [h1.canon];omega
  have cc:∀ l:Bag,canon (canon l)=canon l:=fun l=>Mo.canon_of_rise (Mo.canon_rise l)
  have wP:∀ k,wrap64 (cnt (canon (pickB cs d)) k)=cnt (pickB cs d) k:=fun k=>by
   rw [Mo.canon_cnt,wrap64_id];have h1:=Mo.pick_bd hB1 cs k;have h2:=Mo.pick_bd hD1 cs k;rw [Mo.pickB_append,Mo.cnt_append] at h2;omega
  have wT:∀ k,wrap64 (cnt (canon (totB cs s d)) k)=cnt (totB cs s d) k:=fun k=>by
   rw [Mo.canon_cnt,wrap64_id];have h1:=Mo.tot_bd hB1 cs s k;have h2:=Mo.tot_bd hD1 cs s k;rw [Mo.totB_append,Mo.cnt_append] at h2;omega
  unfold GTail;refine (clone_bag (.map (some w.heap.size)) _ w3 (.inr ⟨_,rfl,ha'⟩)).mono ?_;rintro e w4 ⟨v',rfl,hv4,hv4',hs4,hk4⟩
  have hv4':v'=.map (some w3.heap.size):=hv4'.resolve_left fun h=>by cases h.2
  subst hv4'
  have h34:BagAt w4 w3.heap.size (canon (pickB cs d)):=by
   rcases hv4 with ⟨e,_⟩ | ⟨b',e,h⟩
   ·cases e
   ·have:w3.heap.size=b':=by simpa using e
    subst this;exact h
  refine ⟨w3.heap.size,rfl,?_⟩;have hc2l:=hta'.lt
  refine (copy_any w3.heap.size (w.heap.size+1) _ _ w4 h34 (hta'.kept hk4 (fun e=>e)) (by omega) (by rw [cc,cc];unfold maxLen;omega)).mono ?_
  rintro e w5 ⟨rfl,es2,hall2,h35,hk5⟩;refine ⟨rfl,?_⟩;obtain ⟨l3,hl3⟩:∃ l3,l3=mergeE (canon (pickB cs d)) es2:=⟨_,rfl⟩;rw [←hl3] at h35
  have hk05:Kept No w w5:=(hk.seq hk4).trans hk5 (fun _ e=>e) (fun i hi e=>by have:=hk.size;omega)
  have hl3c:∀ k,cnt l3 k=if k∈es2.map (·.1) then cnt es2 k else cnt (canon (pickB cs d)) k:=fun k=>by rw [hl3];exact cnt_mergeE _ _ k
  have hes2:∀ k,cnt es2 k=cnt (totB cs s d) k:=fun k=>by rw [hall2.cnt hta'.1 k,wT]
  have hin2:∀ k,k∈es2.map (·.1)→cnt (totB cs s d) k≠0:=fun k hk'=>by
   obtain ⟨e,he,rfl⟩:=List.mem_map.1 hk';have h1:=(hall2.1.2 e he).2;rw [wT] at h1;rw [←h1.1];exact h1.2
  have h5:∀ k,wrap64 (cnt l3 k)≠0→k.length≤5:=fun k hk'=>by
   have h0:cnt l3 k≠0:=fun e=>hk' (by rw [e];exact wrap64_zero)
   rw [hl3c] at h0
   have:=hG.l5
   split at h0
   ·rename_i hm';rw [Mo.tot_row (hin2 k hm')];exact this
   ·rw [Mo.canon_cnt] at h0;rw [Mo.pick_row h0];exact this
  have nl3:(canon l3).length≤12000000000000:=by
   have h1:=mergeE_len (canon (pickB cs d)) es2;have h2:=hall2.1.len;rw [cc] at h1 h2;rw [hl3];omega
  have hA0:BagAt (w5.alloc (.map #[] 0)) w5.heap.size []:=BagAt.made w5;have hka:Kept No w (w5.alloc (.map #[] 0)):=hk05.alloc _
  have hb5:(w5.alloc (.map #[] 0)).heap[b]? =some (.cells (grpC (tkS g cap) hv tv cv x) 286 (0,0)):=(hka.block b hbl (fun e=>e)).trans hb
  have hs5:w.heap.size+1<w5.heap.size:=by have:=hk5.size;have:=hk4.size;omega
  have hs3:w3.heap.size<w5.heap.size:=h35.lt
  have hnv:∀ k,hv=.map (some k)→k<w.heap.size:=fun k e=>hm.1.lt e
  have hnt:∀ k,tv=.map (some k)→k<w.heap.size:=fun k e=>htm.1.lt e
  refine (addGroups_any b w5.heap.size w3.heap.size (tkS g cap) hv tv cv x (canon (pickB cs B)) (canon (totB cs s B)) [] l3 (-1) _ hb5 (hm.1.keptNo hka) (htm.1.keptNo hka) hA0 (h35.of_block (Below.heap_alloc _ _ _ hs3)) (by omega)
   (fun e=>by have:=hnv _ e;omega) (fun e=>by have:=hnt _ e;omega) h5 (by simp only [Mo.canon,List.length_nil];unfold maxLen;omega)).mono ?_
  rintro e w6 ⟨rfl,es3,hall3,h46,hk6⟩;refine ⟨rfl,?_⟩
  have hk06:Kept No w w6:=hka.trans hk6 (fun _ e=>e) (fun i hi e=>by omega)
  have hsz6:w5.heap.size<w6.heap.size:=h46.lt
  have hb6:w6.heap[b]? =some (.cells (grpC (tkS g cap) hv tv cv x) 286 (0,0)):=(hk06.block b hbl (fun e=>e)).trans hb
  have h16:BagAt w6 w.heap.size (canon (pickB cs d)):=by
   have hkk:Kept (fun k=>k=w3.heap.size∨k=w5.heap.size) w3 w6:=hk4.trans (hk5.trans ((Kept.refl (fun k=>k=w5.heap.size) w5).alloc _ |>.seq hk6) (U:=fun k=>k=w3.heap.size∨k=w5.heap.size) (fun _ e=>.inl e) (fun _ _ e=>.inr e)) (fun _ e=>e.elim) (fun _ _ e=>e)
   exact ha'.kept hkk (by have:=ha'.lt;omega)
  have h26:BagAt w6 (w.heap.size+1) (canon (totB cs s d)):=by
   have hkk:Kept (fun k=>k=w3.heap.size∨k=w5.heap.size) w3 w6:=hk4.trans (hk5.trans ((Kept.refl (fun k=>k=w5.heap.size) w5).alloc _ |>.seq hk6) (U:=fun k=>k=w3.heap.size∨k=w5.heap.size) (fun _ e=>.inl e) (fun _ _ e=>.inr e)) (fun _ e=>e.elim) (fun _ _ e=>e)
   exact hta'.kept hkk (by omega)
  have h36:BagAt w6 w3.heap.size l3:=by
   have hkk:Kept (fun k=>k=w5.heap.size) w5 w6:=((Kept.refl (fun k=>k=w5.heap.size) w5).alloc _).seq hk6
   exact h35.kept hkk (by omega)
  have hm6:MemAt w6 (oN w O) b hv (pickB cs B):=hm.stab fun k hk' _=>⟨hk06.block k hk' (fun e=>e),oN_old hk'⟩
  have ht6:MemAt w6 (oN w O) b tv (totB cs s B):=htm.stab fun k hk' _=>⟨hk06.block k hk' (fun e=>e),oN_old hk'⟩
  refine (remember_any b 1 (grpC (tkS g cap) hv tv cv x) 286 hv (.map (some w.heap.size)) (canon (pickB cs B)) (canon (pickB cs d)) w6 hb6 rfl hm6.1 (.inr ⟨_,rfl,h16⟩) (fun k e e'=>by
   have:=hnv k e
   have:w.heap.size=k:=by simpa using e'
   omega) (by rw [cc,cc];unfold maxLen;omega)).mono fun e w7 hE=> ?_
  obtain ⟨he7,hv',g1,g2,g3,g4⟩:=hE.mem hm6 (canon_append_ok hm6.1.ok h16.1);refine ⟨he7,?_⟩;rw [←Mo.pickB_append] at g2;have hb7:w7.heap[b]? =some (.cells (grpC (tkS g cap) hv' tv cv x) 286 (0,0)):=g1;have hsz7:w6.heap.size≤w7.heap.size:=g4.size
  have hnb:∀ k,k<w.heap.size∨w5.heap.size≤k→True:=fun _ _=>trivial
  have g4':∀ k,w.heap.size≤k→k<w6.heap.size→w7.heap[k]? =w6.heap[k]? :=fun k h1 h2=>g4.block k h2 (by
   rintro (rfl | e)
   ·omega
   ·have:=hnv k e;omega)
  have ht7:MemAt w7 (oB w6 (oN w O) (b+2)) b tv (totB cs s B):=by
   refine ⟨ht6.1.kept g4 fun k e=> ?_,fun k e=>by rw [oB_old (ht6.1.lt e)];exact ht6.2 k e⟩
   rintro (rfl | e')
   ·exact ht6.notCells e hb6 rfl
   ·exact hdis k e e'
  have h27:BagAt w7 (w.heap.size+1) (canon (totB cs s d)):=h26.of_block (g4' _ (by omega) h26.lt)
  refine (remember_any b 2 (grpC (tkS g cap) hv' tv cv x) 286 tv (.map (some (w.heap.size+1))) (canon (totB cs s B)) (canon (totB cs s d)) w7 hb7 rfl ht7.1 (.inr ⟨_,rfl,h27⟩) (fun k e e'=>by
   have:=hnt k e
   have:w.heap.size+1=k:=by simpa using e'
   omega) (by rw [cc,cc];unfold maxLen;omega)).mono fun e w8 hE8=> ?_
  obtain ⟨he8,tv',f1,f2,f3,f4⟩:=hE8.mem ht7 (canon_append_ok ht7.1.ok h27.1);refine ⟨he8,?_⟩;rw [←Mo.totB_append] at f2;have hb8:w8.heap[b]? =some (.cells (grpC (tkS g cap) hv' tv' cv x) 286 (0,0)):=f1
  have f4':∀ k,w.heap.size≤k→k<w7.heap.size→w8.heap[k]? =w7.heap[k]? :=fun k h1 h2=>f4.block k h2 (by
   rintro (rfl | e)
   ·omega
   ·have:=hnt k e;omega)
  have hsz8:w7.heap.size≤w8.heap.size:=f4.size
  have hhv':∀ k,hv'=.map (some k)→k<w.heap.size∨w6.heap.size≤k:=fun k e=>by
   rcases g3 with rfl | g3
   ·exact .inl (hnv k e)
   ·exact .inr (g3 k e)
  have htv':∀ k,tv'=.map (some k)→k<w.heap.size∨w7.heap.size≤k:=fun k e=>by
   rcases f3 with rfl | f3
   ·exact .inl (hnt k e)
   ·exact .inr (f3 k e)
  have hm8:MemAt w8 (oB w7 (oB w6 (oN w O) (b+2)) (b+2)) b hv' (pickB cs (B++d)):=by
   refine ⟨g2.1.kept f4 fun k e=> ?_,fun k e=>by rw [oB_old (g2.1.lt e)];exact g2.2 k e⟩
   rintro (rfl | e')
   ·exact g2.notCells e hb7 rfl
   ·rcases g3 with rfl | g3
    ·exact hdis k e' e
    ·have:=g3 k e;have:=hnt k e';have:=hk06.size;omega
  have h48:BagAt w8 w5.heap.size (gB (canon (pickB cs B)) (canon (totB cs s B)) (-1) es3++[]):=(h46.of_block (g4' _ (by omega) hsz6)).of_block (f4' _ (by omega) (by omega))
  have h38:BagAt w8 w3.heap.size l3:=(h36.of_block (g4' _ hk.size h36.lt)).of_block (f4' _ hk.size (by omega))
  refine (addGroups_any b w5.heap.size w3.heap.size (tkS g cap) hv' tv' cv x (canon (pickB cs (B++d))) (canon (totB cs s (B++d))) _ l3 1 w8 hb8 hm8.1 f2.1 h48 h38 (by omega)
   (fun e=>by have:=hhv' _ e;omega) (fun e=>by have:=htv' _ e;omega) h5 (by
     have e1:=Mo.canon_append_len (gB (canon (pickB cs B)) (canon (totB cs s B)) (-1) es3) [];have e2:=gB_len (canon (pickB cs B)) (canon (totB cs s B)) (-1) es3;have e3:=hall3.1.len;simp only [Mo.canon,List.length_nil] at e1
     unfold maxLen;omega)).mono ?_
  rintro e w9 ⟨rfl,es4,hall4,h49,hk9⟩;refine ⟨rfl,?_⟩
  have rok3:∀ k,wrap64 (cnt l3 k)≠0→ROk k:=fun k hk'=>by
   have h0:cnt l3 k≠0:=fun e=>hk' (by rw [e];exact wrap64_zero)
   obtain ⟨y,hy,e⟩:=Mo.Rise.mem_of_cnt h0;rw [←e];exact h35.1 y hy
  have hmem:∀ k,k∈es4.map (·.1)↔k∈es3.map (·.1):=fun k=>by
   constructor
   ·intro hk'
    obtain ⟨e,he,rfl⟩:=List.mem_map.1 hk';have h1:=(hall4.1.2 e he).2
    have h2:wrap64 (cnt l3 e.1)≠0:=by rw [←h1.1];exact h1.2
    obtain ⟨y,hy,e'⟩:=hall3.2 e.1 (rok3 _ h2) h2;exact List.mem_map.2 ⟨y,hy,e'⟩
   ·intro hk'
    obtain ⟨e,he,rfl⟩:=List.mem_map.1 hk';have h1:=(hall3.1.2 e he).2
    have h2:wrap64 (cnt l3 e.1)≠0:=by rw [←h1.1];exact h1.2
    obtain ⟨y,hy,e'⟩:=hall4.2 e.1 (rok3 _ h2) h2;exact List.mem_map.2 ⟨y,hy,e'⟩
  have hks:∀ k,cnt (pickB cs d) k≠0∨cnt (totB cs s d) k≠0→k∈es4.map (·.1):=fun k hk'=>by
   have hne:wrap64 (cnt l3 k)≠0:=by
    rw [hl3c]
    by_cases hz:cnt (totB cs s d) k=0
    ·rw [if_neg (fun h=>hin2 k h hz),wP];exact hk'.resolve_right (fun h=>h hz)
    ·have:k∈es2.map (·.1):=by
      refine Classical.byContradiction fun hn=>hz ?_
      rw [←hes2];exact Mo.cnt_none fun x hx e=>hn (List.mem_map.2 ⟨x,hx,e⟩)
     rw [if_pos this,hes2,←Mo.canon_cnt,wT];exact hz
   obtain ⟨y,hy,e⟩:=hall4.2 k (rok3 k hne) hne;exact List.mem_map.2 ⟨y,hy,e⟩
  obtain ⟨D',hD'⟩:∃ D',D'=neg ((es3.map (·.1)).flatMap (grow cs s B))++(es4.map (·.1)).flatMap (grow cs s (B++d)):=⟨_,rfl⟩
  have hDe:Eqv (grpB cs s B++D') (grpB cs s (B++d)):=by
   refine Eqv.trans ?_ (Mo.grp_delta hB1.nn hD1.nn (ks:=es4.map (·.1)) hall4.1.1 hks)
   rw [hD']
   exact (Eqv.refl _).append ((Mo.grows_eqv hall3.1.1 hall4.1.1 (fun k=>(hmem k).symm)).neg.append (Eqv.refl _))
  have hD3:Gd (grpB cs s B++D'):=hT.gde hD2 hDe.symm;have hok:=(hT.ok hB2).chg (hT.ok hD3)
  have h49':BagAt w9 w5.heap.size (canon D'):=by
   refine h49.canon_of fun r=> ?_
   rw [(gB_grow hD1 cs s es4).1,(gB_grow hB1 cs s es3).2,hD'];simp only [Mo.cnt_append,cnt];omega
  have hO9:∀ k,k<w.heap.size→oB w7 (oB w6 (oN w O) (b+2)) (b+2) k=O k:=fun k hk'=>by
   have h6:=hk06.size
   rw [oB_old (by omega),oB_old (by omega),oN_old hk']
  have hk09:Kept (fun k=>O k=b+2) w w9:=by
   have k7:Kept (fun k=>O k=b+2) w w7:=hk06.trans g4 (fun _ e=>e.elim) (fun i hi e=>by
    rcases e with rfl | e
    ·exact hO0
    ·exact hm.2 i e)
   have k8:Kept (fun k=>O k=b+2) w w8:=k7.trans f4 (fun _ e=>e) (fun i hi e=>by
    rcases e with rfl | e
    ·exact hO0
    ·exact htm.2 i e)
   exact k8.trans hk9 (fun _ e=>e) (fun i hi e=>by omega)
  have hb9:w9.heap[b]? =some (.cells (grpC (tkS g cap) hv' tv' cv x) 286 (0,0)):=(hk9.block b (lt_of_heap hb8) (by omega)).trans hb8
  have hgl:=hg.lt
  have hgb:∀ k,k=b∨hv=.map (some k)∨tv=.map (some k)→g≠k:=by
   rintro k (rfl | e | e) rfl
   ·obtain ⟨_,cs',z,h1,_⟩:=hg
    rw [hb] at h1;injection h1 with h1;injection h1 with _ h1;exact absurd h1 (by decide)
   ·obtain ⟨_,cs',z,h1,_⟩:=hg
    exact hm.notCells e h1 rfl
   ·obtain ⟨_,cs',z,h1,_⟩:=hg
    exact htm.notCells e h1 rfl
  have hg9:TkAt w9 (oB w7 (oB w6 (oN w O) (b+2)) (b+2)) b g (.iface ty (.pointer (some p))):=by
   refine hg.stab ⟨?_,hO9 g hgl⟩;have h6:=hk06.size
   rw [hk9.block g (by omega) (by omega),f4.block g (by omega) (fun e=>by rcases e with e | e;exact hgb g (.inl e) rfl;exact hgb g (.inr (.inr e)) rfl),g4.block g (by omega) (fun e=>by rcases e with e | e;exact hgb g (.inl e) rfl;exact hgb g (.inr (.inl e)) rfl)]
   exact hk06.block g hgl (fun e=>e)
  have hm9:MemAt w9 (oB w7 (oB w6 (oN w O) (b+2)) (b+2)) b hv' (pickB cs (B++d)):=⟨hm8.1.kept hk9 fun k e e'=>by have:=hhv' k e;omega,hm8.2⟩
  have ht9:MemAt w9 (oB w7 (oB w6 (oN w O) (b+2)) (b+2)) b tv' (totB cs s (B++d)):=⟨f2.1.kept hk9 fun k e e'=>by have:=htv' k e;omega,f2.2⟩
  have hcv9:ColsAt w9 (oB w7 (oB w6 (oN w O) (b+2)) (b+2)) cv cs:=hcv.stab hk09.size fun k hk' e=>⟨hk09.block k hk' (by omega),hO9 k hk'⟩
  have hR9:R w9 (oB w7 (oB w6 (oN w O) (b+2)) (b+2)) (grpB cs s B):=hT.kept hR hk09 (fun k e=>⟨by rw [e];exact hA,by omega⟩) hO9
  have hO5:oB w7 (oB w6 (oN w O) (b+2)) (b+2) w5.heap.size=0:=by rw [oB_old (by omega),oB_old hsz6,oN_new (by omega)]
  refine (hT.give (b:=b) (c:=w5.heap.size) (g:=g) (o:=0) (cap:=cap) ((cell_of hb9 0).trans rfl) hg9.cell hR9 hB2 hD3 h49' (by rw [hO5];exact hT.zero)).mono fun e w10 h10=>⟨h10.1,?_⟩
  refine TakeEnd.up3 (b:=b) hO9 hk09 h10 fun O' h1 h2 h3=>⟨hT.eqv h3 hDe,?_⟩
  have hdis':∀ k,tv'=.map (some k)→hv'≠.map (some k):=fun k e e'=>by
   rcases f3 with rfl | f3
   ·rcases g3 with rfl | g3
    ·exact hdis k e e'
    ·have:=g3 k e';have:=hnt k e;have:=hk06.size;omega
   ·have:=f3 k e
    have:=g2.1.lt e'
    omega
  have hbb:∀ k,k<w9.heap.size→oB w7 (oB w6 (oN w O) (b+2)) (b+2) k=b+2∨oB w7 (oB w6 (oN w O) (b+2)) (b+2) k=1→w10.heap[k]? =w9.heap[k]?∧O' k=oB w7 (oB w6 (oN w O) (b+2)) (b+2) k:=fun k hk' e=>⟨h2.block k hk' (by rcases e with e | e <;> rw [e];exact hA;exact hT.one),h1 k hk'⟩
  exact GrpAt.stab ⟨by rw [hO9 b hbl];exact hO0,g,cap,hv',tv',cv,hb9,hg9,hm9,ht9,hcv9,hdis'⟩ h2.size hbb
end Go.Proofs.YtdinjjmcmfjbfaaGreatDoor
