import Derived.Test.YtdinjjmcmfjbfaaGreatDoorEvJ
namespace Go.Proofs.YtdinjjmcmfjbfaaGreatDoor
open Go.RowKit Go.Shelf Go.Deep
open Mo (V Row Bag cnt canon Eqv OkB OkD neg Nr Q leaves bagQ tyQ wf joins TOk wv ty Tab)
def Two (w0 w:World) (p:Nat) (st:Mo.Ses) (q:Nat) (su:Mo.Ses):Prop:=∃ X Y,Sess w X p st∧Sess w Y q su∧(∀ k,X k→¬Y k)∧(∀ k,X k∨Y k→w0.heap.size≤k)∧Kept No w0 w
section
variable {w0 w w':World} {p q:Nat} {st su st' su':Mo.Ses}
theorem Two.swap (h:Two w0 w p st q su):Two w0 w q su p st:=by
 obtain ⟨X,Y,a,b,c,d,e⟩:=h
 exact ⟨Y,X,b,a,fun k h1 h2=>c k h2 h1,fun k h=>d k h.symm,e⟩
theorem Two.kept (h:Two w0 w p st q su):Kept No w0 w:=by obtain ⟨X,Y,a,b,c,d,e⟩:=h;exact e
theorem Two.stays (h:Two w0 w p st q su) (k:Kept No w w'):Two w0 w' p st q su:=by
 obtain ⟨X,Y,a,b,c,d,e⟩:=h
 exact ⟨X,Y,a.stays k (fun _ e=>e.elim) (fun e=>e),b.stays k (fun _ e=>e.elim) (fun e=>e),c,d,e.seq k⟩
theorem Two.one (h:Two w0 w p st q su):Mine w0 w p st:=by
 obtain ⟨X,Y,a,b,c,d,e⟩:=h
 exact ⟨X,a,fun k hk=>d k (.inl hk),e⟩
theorem Two.step {X X' Y:Nat→Prop} (a:Sess w X p st) (b:Sess w Y q su) (c:∀ k,X k→¬Y k) (d:∀ k,X k∨Y k→w0.heap.size≤k) (e:Kept No w0 w) (h:Sess w' X' p st') (hk:SKept X X' w w'):Two w0 w' p st' q su:=by
 refine ⟨X',Y,h,b.stays hk.1 c a.glb,fun k h1 h2=> ?_,fun k h1=> ?_,e.trans hk.1 (fun _ e=>e) (fun k hl e'=>by have:=d k (.inl e');omega)⟩
 ·rcases hk.2 k h1 with h3 | h3
  ·exact c k h3 h2
  ·have:=b.lt h2;omega
 ·rcases h1 with h1 | h1
  ·rcases hk.2 k h1 with h3 | h3
   ·exact d k (.inl h3)
   ·exact Nat.le_trans e.size h3
  ·exact d k (.inr h1)
theorem Two.made (h:Mine w0 w p st) (k:Mine w w' q su):Two w0 w' p st q su:=by
 obtain ⟨X,a,b,c⟩:=h;obtain ⟨Y,d,e,f⟩:=k
 refine ⟨X,Y,a.stays f (fun _ e=>e.elim) (fun e=>e),d,fun k h1 h2=> ?_,fun k h=> ?_,c.seq f⟩
 ·have:=a.lt h1;have:=e k h2;omega
 ·rcases h with h | h
  ·exact b k h
  ·exact Nat.le_trans c.size (e k h)
end
theorem feed_zero {st:Mo.Ses} {s:ByteArray} (h:(feedM st s).1.2=0):∃ os,batchP s=some os∧(feedM st s).2=⟨newT st.tabs (chg (tr0 st.tabs) os),st.views⟩:=by
 unfold feedM at h ⊢
 split at h
 ·exact absurd (show (1:Int)=0 from h) (by decide)
 ·next h0 =>
  rw [if_neg h0]
  cases hb:batchP s with
  | none=>rw [hb] at h;exact absurd (show (2:Int)=0 from h) (by decide)
  | some os =>
    rw [hb] at h
    simp only at h ⊢
    by_cases h1:fitP (tr0 st.tabs) os≠0
    ·rw [if_pos h1] at h;exact absurd h h1
    ·rw [if_neg h1] at h ⊢
     by_cases h2:bearP (psM st.tabs (chg (tr0 st.tabs) os)) 0≠0
     ·rw [if_pos h2] at h;exact absurd h h2
     ·rw [if_neg h2];exact ⟨os,rfl,rfl⟩
theorem ba_nil {x:ByteArray} (h:x.size=0):x=⟨#[]⟩:=by
 obtain ⟨d⟩:=x
 have:d.size=0:=h
 rw [Array.eq_empty_of_size_eq_zero this]
theorem ba_left (y:ByteArray):(⟨#[]⟩:ByteArray)++y=y:=ByteArray.ext (by rw [ByteArray.data_append];simp)
def both (x y:ByteArray):ByteArray:=if x.size≠0∧y.size≠0 then x++⟨#[59]⟩++y else x++y
open Go.RowKit Go.Shelf
theorem join_len {s:ByteArray} {a b:Nat} (e:Pl.headP s 4 a=(true,b)):b=a+6:=by
 have e':Pl.joinP s a=(true,b):=e;obtain ⟨c1,t1,e1⟩:=andP_inv e';obtain ⟨-,rfl⟩:=tk_inv t1;obtain ⟨c2,t2,e2⟩:=andP_inv e1;obtain ⟨-,rfl⟩:=tk_inv t2;obtain ⟨c3,t3,e3⟩:=andP_inv e2;obtain ⟨rfl,d3⟩:=dig_inv t3;obtain ⟨c4,t4,e4⟩:=andP_inv e3;obtain ⟨-,rfl⟩:=tk_inv t4;obtain ⟨c5,t5,e5⟩:=andP_inv e4;obtain ⟨rfl,d5⟩:=dig_inv t5;obtain ⟨-,h⟩:=tk_inv e5;omega
theorem rq_len {s:ByteArray} {f a b:Nat} {q:Q} (h:Rq s f a b q):a≤s.size→5*(leaves q).length+5*joins q≤b-a+4:=by
 induction h with
 | @tab f a b hk he =>
   intro ha
   have:=(rq_facts (Rq.tab (f:=f) hk he) ha).2.1
   show 5*1+5*0≤_
   omega
 | @one f a b c q hk he hb hq hc ih =>
   intro ha
   have hblt:=Pl.bt_lt (s:=s) (a:=b) (by omega)
   have i4:=ih (by omega)
   have:=(rq_facts hq (by omega)).2.1
   have hf:=(Pl.headP_facts s (Pl.kd (Pl.bt s a)) a).2.2.1;rw [he] at hf;have g3:=hf rfl
   simp only at g3
   rw [leaves_one',joins_one];omega
 | @two f a b c d q r hk he hb hq hc hr hd ih1 ih2 =>
   intro ha
   have hblt:=Pl.bt_lt (s:=s) (a:=b) (by omega)
   have hclt:=Pl.bt_lt (s:=s) (a:=c) (by omega)
   have i4:=ih1 (by omega)
   have j4:=ih2 (by omega)
   have:=(rq_facts hq (by omega)).2.1
   have:=(rq_facts hr (by omega)).2.1
   have hf:=(Pl.headP_facts s (Pl.kd (Pl.bt s a)) a).2.2.1;have hj:=he;rw [he] at hf;have g3:=hf rfl
   simp only at g3
   rw [leaves_two',joins_two,hdV_k,List.length_append]
   by_cases h4:Pl.kd (Pl.bt s a)=4
   ·rw [h4] at hj
    have:=join_len hj
    rw [if_pos h4];omega
   ·rw [if_neg h4];omega
def dnQ:Q→Nat
 | .tab _=>24
 | .sel _ _ _ q=>dnQ q
 | .pick _ q=>dnQ q
 | .join _ _ q r=>dnQ q*dnQ r
 | .uni q r=>dnQ q+dnQ r
 | .dist q=>dnQ q
 | .grp _ _ q=>dnQ q
theorem join_length (n m:Nat) (b:Bag):∀ a:Bag,(Mo.joinB n m a b).length≤a.length*b.length
 | []=>Nat.zero_le _
 | x::a=>by
   have ih:=join_length n m b a;unfold Mo.joinB at ih ⊢;rw [List.flatMap_cons,List.length_append,List.length_map,List.length_cons,Nat.succ_mul]
   have:(Mo.selB (fun y=>decide (Mo.colR x.1 n=Mo.colR y m)) b).length≤b.length:=List.length_filter_le _ _
   omega
theorem canon_by {A B:Bag} (h:Eqv A B):(canon A).length≤B.length:=by rw [h.canon];exact canon_len B
theorem dn_le {f:Nat→Bag} (h:∀ i,(canon (f i)).length≤24):∀ (q:Q) (i:Nat),(canon (bagQ f i q)).length≤dnQ q
 | .tab _,i=>h i
 | .sel c k x q,i=>by
   refine Nat.le_trans (canon_by (Mo.selB_eqv (Mo.canon_eqv (bagQ f i q)).symm)) (Nat.le_trans ?_ (dn_le h q i));exact List.length_filter_le _ _
 | .pick cs q,i=>by
   refine Nat.le_trans (canon_by (Mo.pickB_eqv (Mo.canon_eqv (bagQ f i q)).symm)) (Nat.le_trans ?_ (dn_le h q i));unfold Mo.pickB;rw [List.length_map];exact Nat.le_refl _
 | .join n m q r,i=>by
   refine Nat.le_trans (canon_by (Mo.joinB_eqv (Mo.canon_eqv (bagQ f i q)).symm (Mo.canon_eqv (bagQ f (i+(leaves q).length) r)).symm)) (Nat.le_trans (join_length _ _ _ _) ?_);exact Nat.mul_le_mul (dn_le h q i) (dn_le h r _)
 | .uni q r,i=>by
   refine Nat.le_trans (canon_by (Eqv.append (Mo.canon_eqv (bagQ f i q)).symm (Mo.canon_eqv (bagQ f (i+(leaves q).length) r)).symm)) ?_;rw [List.length_append];exact Nat.add_le_add (dn_le h q i) (dn_le h r _)
 | .dist q,i=>by
   refine Nat.le_trans (canon_len _) (Nat.le_trans ?_ (dn_le h q i))
   show (Mo.distB _).length≤_
   unfold Mo.distB;rw [List.length_map];exact Nat.le_refl _
 | .grp cs s q,i=>by
   refine Nat.le_trans (canon_len _) (Nat.le_trans ?_ (dn_le h q i))
   show (Mo.grpB _ _ _).length≤_
   unfold Mo.grpB Mo.keysB;rw [List.length_map];refine Nat.le_trans (canon_len _) ?_;rw [List.length_map];exact Nat.le_refl _
def fq:Nat→Nat→Nat
 | 0,l=>24*l
 | 1,l=>144*l*l
 | _,l=>512*l*l*l
def fqU (i j a b:Nat):Bool:=decide (fq i a+fq j b≤fq (i+j) (a+b))
def fqJ (i j a b:Nat):Bool:=decide (fq i a*fq j b≤fq (i+j+1) (a+b))
theorem fq_U:((List.range 3).all fun i=>(List.range 3).all fun j=>(List.range 25).all fun a=>(List.range 25).all fun b=>a == 0 || b == 0 || decide (2<i+j) || fqU i j a b)=true:=by kernel_rfl
theorem fq_J:((List.range 2).all fun i=>(List.range 2).all fun j=>(List.range 25).all fun a=>(List.range 25).all fun b=>decide (1<i+j) || fqJ i j a b)=true:=by kernel_rfl
theorem fq_top:((List.range 3).all fun j=>(List.range 25).all fun l=>decide (124<5*l+5*j) || decide (fq j l≤5451776))=true:=by kernel_rfl
theorem leaves_pos:∀ q:Q,1≤(leaves q).length
 | .tab _=>Nat.le_refl _
 | .sel _ _ _ q=>leaves_pos q
 | .pick _ q=>leaves_pos q
 | .join _ _ q r=>by show 1≤(leaves q++leaves r).length;rw [List.length_append];have:=leaves_pos q;omega
 | .uni q r=>by show 1≤(leaves q++leaves r).length;rw [List.length_append];have:=leaves_pos q;omega
 | .dist q=>leaves_pos q
 | .grp _ _ q=>leaves_pos q
theorem dn_fq:∀ q:Q,(leaves q).length≤24→joins q≤2→dnQ q≤fq (joins q) (leaves q).length
 | .tab _,_,_=>Nat.le_refl _
 | .sel _ _ _ q,h,k=>dn_fq q h k
 | .pick _ q,h,k=>dn_fq q h k
 | .join _ _ q r,h,k=>by
   have h':(leaves q).length+(leaves r).length≤24:=by simpa [leaves] using h
   have k':joins q+joins r+1≤2:=k
   have h1:=dn_fq q (by omega) (by omega)
   have h2:=dn_fq r (by omega) (by omega)
   show dnQ q*dnQ r≤fq (joins q+joins r+1) (leaves q++leaves r).length
   rw [List.length_append];refine Nat.le_trans (Nat.mul_le_mul h1 h2) ?_
   have t:=List.all_eq_true.1 (List.all_eq_true.1 (List.all_eq_true.1 (List.all_eq_true.1 fq_J (joins q) (List.mem_range.2 (by omega))) (joins r) (List.mem_range.2 (by omega))) _ (List.mem_range.2 (show (leaves q).length<25 by omega))) _ (List.mem_range.2 (show (leaves r).length<25 by omega))
   rw [Bool.or_eq_true] at t
   rcases t with t | t
   ·have:=of_decide_eq_true t;omega
   ·exact of_decide_eq_true t
 | .uni q r,h,k=>by
   have h':(leaves q).length+(leaves r).length≤24:=by simpa [leaves] using h
   have k':joins q+joins r≤2:=k
   have h1:=dn_fq q (by omega) (by omega)
   have h2:=dn_fq r (by omega) (by omega)
   have p1:=leaves_pos q;have p2:=leaves_pos r
   show dnQ q+dnQ r≤fq (joins q+joins r) (leaves q++leaves r).length
   rw [List.length_append];refine Nat.le_trans (Nat.add_le_add h1 h2) ?_
   have t:=List.all_eq_true.1 (List.all_eq_true.1 (List.all_eq_true.1 (List.all_eq_true.1 fq_U (joins q) (List.mem_range.2 (by omega))) (joins r) (List.mem_range.2 (by omega))) _ (List.mem_range.2 (show (leaves q).length<25 by omega))) _ (List.mem_range.2 (show (leaves r).length<25 by omega))
   simp only [Bool.or_eq_true,beq_iff_eq,decide_eq_true_eq] at t
   rcases t with ((t | t) | t) | t
   ·omega
   ·omega
   ·omega
   ·exact of_decide_eq_true t
 | .dist q,h,k=>dn_fq q h k
 | .grp _ _ q,h,k=>dn_fq q h k
theorem dn_top {q:Q} (h:5*(leaves q).length+5*joins q≤124) (k:joins q≤2):dnQ q≤5451776:=by
 refine Nat.le_trans (dn_fq q (by omega) k) ?_
 have t:=List.all_eq_true.1 (List.all_eq_true.1 fq_top (joins q) (List.mem_range.2 (by omega))) _ (List.mem_range.2 (show (leaves q).length<25 by omega))
 simp only [Bool.or_eq_true,decide_eq_true_eq] at t
 rcases t with t | t
 ·omega
 ·exact t
theorem nodup_sub {α:Type} [BEq α] [LawfulBEq α]:∀ (l m:List α),l.Nodup→(∀ x∈l,x∈m)→l.length≤m.length
 | [],_,_,_=>Nat.zero_le _
 | x::l,m,h,k=>by
   have hx:=k x (by simp)
   have hn:=List.nodup_cons.1 h
   have ih:=nodup_sub l (m.erase x) hn.2 fun y hy=>(List.mem_erase_of_ne (fun e=>hn.1 (by rw [←e];exact hy))).2 (k y (by simp [hy]))
   rw [List.length_erase_of_mem hx] at ih
   have:=List.length_pos_of_mem hx
   simp only [List.length_cons];omega
theorem rise_nodup:∀ (l:Bag),Mo.Rise l→(l.map Prod.fst).Nodup
 | [],_=>List.nodup_nil
 | e::l,⟨h1,_,h3⟩=>by
   rw [List.map_cons,List.nodup_cons]
   refine ⟨fun hm=> ?_,rise_nodup l h3⟩
   obtain ⟨x,hx,ex⟩:=List.mem_map.1 hm
   first
   | exact Mo.rlt_sto.ne (h1 x hx) ex.symm
   | exact Mo.rlt_sto.ne (h1 x hx) ex
def rowsF (i:Nat):List Row:=(List.range 6).flatMap fun b=>(List.range 4).map fun c=>rowI i b c
theorem rowsF_len (i:Nat):(rowsF i).length=24:=by simp [rowsF,List.range_succ]
theorem rowsF_mem {i b c:Nat} (hb:b<6) (hc:c<4):rowI i b c∈rowsF i:=List.mem_flatMap.2 ⟨b,List.mem_range.2 hb,List.mem_map.2 ⟨c,List.mem_range.2 hc,rfl⟩⟩
def Few (tb:List Tab):Prop:=∀ (i:Nat) (t:Tab),tb[i]? =some t→∀ r,cnt t.bag r≠0→r∈rowsF i
theorem Few.len {tb:List Tab} (h:Few tb) {t:Tab} (ht:t∈tb):(canon t.bag).length≤24:=by
 obtain ⟨i,hi⟩:=List.getElem?_of_mem ht
 have:=nodup_sub ((canon t.bag).map Prod.fst) (rowsF i) (rise_nodup _ (Mo.canon_rise _)) fun r hr=>by
  obtain ⟨x,hx,rfl⟩:=List.mem_map.1 hr;exact h i t hi _ (Mo.mem_canon_cnt hx)
 rw [rowsF_len,List.length_map] at this;exact this
theorem Few.leaf {tb:List Tab} (h:Few tb) (q:Q) (j:Nat):(canon (Mo.leafG tb q j)).length≤24:=by
 unfold Mo.leafG Mo.bagN
 cases (leaves q)[j]? with
 | none=>exact Nat.zero_le _
 | some nm =>
   simp only
   cases ht:Mo.tabT tb nm with
   | none=>exact Nat.zero_le _
   | some t=>exact h.len (Mo.tabT_some ht).1
theorem Few.view {tb:List Tab} (h:Few tb) {q:Q} (k:dnQ q≤5451776):(canon (Mo.bagS tb q)).length≤5451776:=Nat.le_trans (dn_le (h.leaf q) q 0) k
def IsR (o:Ord):Prop:=∃ a b c,a<3∧b<6∧c<4∧o.name=nmI a∧o.row=rowI a b c
theorem chR_ord (r:Rw4):∃ o,batchP (chR r)=some [o]∧IsR o:=by
 obtain ⟨a,b,c,ha,hb,hc,e,_⟩:=chB_chI (decide (pickM r.g 3=0)) r.t r.n r.k
 exact ⟨_,by unfold chR;rw [e];exact (chI_ord _ ha hb hc).1,a,b,c,ha,hb,hc,rfl,rfl⟩
theorem ba_zero:batchP ⟨#[]⟩=some []:=by kernel_rfl
theorem chR_size (r:Rw4):(chR r).size≠0:=fun e=>by
 obtain ⟨o,h,_⟩:=chR_ord r;rw [ba_nil e,ba_zero] at h
 simp at h
theorem bat_ord (rs:List Rw4):∀ i,i≤rs.length→∃ os,batchP (bat rs i)=some os∧(∀ o∈os,IsR o)∧(i≠0→(bat rs i).size≠0)
 | 0,_=>⟨[],ba_zero,(fun o h=>by simp at h),fun h=>absurd rfl h⟩
 | i+1,h=>by
   obtain ⟨os,h1,h2,h3⟩:=bat_ord rs i (by omega)
   obtain ⟨r,hr⟩:∃ r,rs[i]? =some r:=⟨_,List.getElem?_eq_getElem (by omega)⟩
   obtain ⟨o,k1,k2⟩:=chR_ord r;have ks:=chR_size r
   by_cases hi:i=0
   ·subst hi
    rw [bat_zero hr];have e:bat rs 0++chR r=chR r:=ba_left _;rw [e]
    exact ⟨_,k1,fun x hx=>by rw [List.mem_singleton.1 hx];exact k2,fun _=>ks⟩
   ·rw [bat_succ hi hr]
    refine ⟨_,batch_join (h3 hi) ks h1 k1,fun x hx=> ?_,fun _=> ?_⟩
    ·rcases List.mem_append.1 hx with hx | hx
     ·exact h2 x hx
     ·rw [List.mem_singleton.1 hx];exact k2
    ·rw [ByteArray.size_append];omega
theorem batB_ord (rs:List Rw4):∃ os,batchP (batB rs)=some os∧∀ o∈os,IsR o:=by
 obtain ⟨os,h1,h2,_⟩:=bat_ord rs (min rs.length 12) (by omega)
 exact ⟨os,h1,h2⟩
theorem tix_fr:∀ a,a<3→tix (tr0 fr3.tabs) (nmI a)=(a:Int)
 | 0,_=>by kernel_rfl
 | 1,_=>by kernel_rfl
 | 2,_=>by kernel_rfl
structure Raw3 (tb:List Tab):Prop where
 nm:tb.map Tab.nm=fr3.tabs.map Tab.nm
 ft:Mo.ftT tb=Mo.ftT fr3.tabs
 few:Few tb
theorem raw3_fr:Raw3 fr3.tabs:=by
 refine ⟨rfl,rfl,fun i t ht r hr=>absurd ?_ hr⟩
 have:∀ t∈fr3.tabs,t.bag=[]:=by
  have h:(fr3.tabs.all fun t=>t.bag.isEmpty)=true:=by kernel_rfl
  intro t ht
  simpa using List.all_eq_true.1 h t ht
 rw [this t (List.mem_of_getElem? ht)];rfl
theorem Raw3.feed {st:Mo.Ses} (h:Raw3 st.tabs) (rs:List Rw4):Raw3 (feedM st (batB rs)).2.tabs:=by
 by_cases h0:(feedM st (batB rs)).1.2=0
 ·obtain ⟨os,e1,e2⟩:=feed_zero h0
  obtain ⟨os',e3,e4⟩:=batB_ord rs;rw [e1] at e3
  injection e3 with e3
  subst e3;rw [e2]
  have hn:(st.tabs.map Tab.nm).Nodup:=by rw [h.nm];exact fr_nod
  refine ⟨(newT_nm _ _).trans h.nm,(newT_ft _ hn).trans h.ft,fun i t ht r hr=> ?_⟩
  obtain ⟨t0,ht0,rfl⟩:=newT_get ht;have hr':cnt (t0.bag++chg (tr0 st.tabs) os i) r≠0:=hr;rw [Mo.cnt_append] at hr'
  by_cases hc:cnt t0.bag r=0
  ·have hd:cnt (chg (tr0 st.tabs) os i) r≠0:=by omega
   obtain ⟨x,hx,ex⟩:=Mo.Rise.mem_of_cnt hd;obtain ⟨o,ho,hi,eo⟩:=chg_mem hx;obtain ⟨a,b,c,ha,hb,hc',en,er⟩:=e4 o ho;rw [tr0_same h.nm h.ft,en,tix_fr a ha] at hi
   have:a=i:=by omega
   subst this
   have:r=rowI a b c:=by rw [←ex,eo,←er]
   rw [this];exact rowsF_mem hb hc'
  ·exact h.few i t0 ht0 r hc
 ·rw [(feed_ok.2 h0).2];exact h
theorem Raw3.fed {st:Mo.Ses} (h:Raw3 st.tabs):∀ rss:List (List Rw4),Raw3 (fedM st rss).tabs:=fun rss=>by
 induction rss generalizing st with
 | nil=>exact h
 | cons rs rss ih=>exact ih (st:=(feedM st (batB rs)).2) (h.feed rs)
theorem told_len {A B:Bag} (h:(canon A).length≤5451776) (k:(canon B).length≤5451776):(canon (A++neg B)).length≤10903552:=by
 have e:Eqv (A++neg B) (canon A++neg (canon B)):=Eqv.append (Mo.canon_eqv A).symm (Mo.canon_eqv B).symm.neg;have h1:=canon_by e
 have h2:(neg (canon B)).length=(canon B).length:=by simp [neg]
 rw [List.length_append] at h1;omega
theorem told_one {st:Mo.Ses} {s:ByteArray} {q:Q} {t:List UInt8} {S:Mo.Ses} (hv:st.views=[q]) (h:feedM st s=((t,0),S)):t=bagTxt (Mo.bagS S.tabs q++neg (Mo.bagS st.tabs q))∧S.views=[q]:=by
 have h1:=(feed_ok (st:=st) (s:=s)).1 (by rw [h])
 obtain ⟨os,_,h2⟩:=feed_zero (st:=st) (s:=s) (by rw [h])
 rw [h] at h1 h2
 have h1':t=bars (st.views.map fun q=>bagTxt (Mo.bagS S.tabs q++neg (Mo.bagS st.tabs q))):=h1
 have h2':S=⟨newT st.tabs (chg (tr0 st.tabs) os),st.views⟩:=h2;refine ⟨?_,?_⟩
 ·rw [h1',hv]
  exact bars_one _
 ·rw [h2',←hv]
structure SumIs (B:Bag) (es:List En):Prop where
 rows:∀ e∈es,∃ r,(∀ v∈r,VOk v)∧e.1=rowB r
 tms:∀ r,(∀ v∈r,VOk v)→tmF (rowB r) 0 es=cnt B r
theorem sum_first {us:List Bool} {B:Bag} (h:BWr us B):SumIs B (enB B) :=
 ⟨fun e he=>by obtain ⟨r,h1,h2,_⟩:=enB_mem h he;exact ⟨r,h1,h2⟩,fun r hr=>by rw [tmF_bag h hr (by omega) (by omega)];omega⟩
theorem sum_step {us vs:List Bool} {B B' d:Bag} {es:List En} (h:SumIs B es) (hB:BWr us B) (hd:BWr vs d) (e:∀ r,cnt B' r=cnt B r+cnt d r):SumIs B' (es++enB d):=by
 refine ⟨fun x hx=> ?_,fun r hr=> ?_⟩
 ·rcases List.mem_append.1 hx with hx | hx
  ·exact h.rows x hx
  ·obtain ⟨r,h1,h2,_⟩:=enB_mem hd hx;exact ⟨r,h1,h2⟩
 ·have:=hB.bd r
  rw [tmF_append,h.tms r hr,tmF_bag hd hr (by omega) (by omega),e r]
theorem sum_equal {us:List Bool} {B:Bag} {es:List En} (h:SumIs B es) (hB:BWr us B):(∀ e∈es,tmW es e.1=tmW (enB B) e.1)∧(∀ e∈enB B,tmW es e.1=tmW (enB B) e.1):=by
 have key:∀ r:Row,(∀ v∈r,VOk v)→tmW es (rowB r)=tmW (enB B) (rowB r):=fun r hr=>by
  rw [tmW_F,tmW_F,h.tms r hr,tmF_bag hB hr (by omega) (by omega)];omega
 refine ⟨fun e he=> ?_,fun e he=> ?_⟩
 ·obtain ⟨r,hr,e1⟩:=h.rows e he
  rw [e1];exact key r hr
 ·obtain ⟨r,hr,e1,_⟩:=enB_mem hB he
  rw [e1];exact key r hr
theorem enB_nn {us:List Bool} {B:Bag} (h:BWr us B) (hn:Mo.nn B):∀ e∈enB B,0≤e.2:=fun e he=>by
 obtain ⟨r,_,_,h3⟩:=enB_mem h he;rw [←h3];exact hn r
theorem bwr_nil (us:List Bool):BWr us []:=⟨fun r hr=>absurd rfl hr,fun r=>by show _≤(0:Int)∧(0:Int)≤_;omega,Nat.zero_le _⟩
theorem feed_empty {st:Mo.Ses} (hg:Mo.TabsGood st.tabs) {q:Q} (hv:st.views=[q]):∃ T,feedM st ⟨#[]⟩=((([]:List UInt8),0),⟨T,[q]⟩)∧TEq st.tabs T:=by
 have ht:TEq st.tabs (newT st.tabs (chg (tr0 st.tabs) [])):=newT_nought fun i r=>rfl
 have h:=feed_fits (st:=st) (s:=⟨#[]⟩) (os:=[]) (by decide) ba_zero rfl (nn_teq ht fun t h=>(hg.each t h).nn)
 rw [rowsT_teq _ _ ht,if_neg (by have:=hg.rows;omega),hv] at h
 have hc:canon (Mo.bagS (newT st.tabs (chg (tr0 st.tabs) [])) q++neg (Mo.bagS st.tabs q))=[]:=by
  rw [Mo.canon_nil_iff];intro r;rw [Mo.cnt_append,Mo.cnt_neg,←bagS_teq ht q r];omega
 have hb:bars ([q].map fun q=>bagTxt (Mo.bagS (newT st.tabs (chg (tr0 st.tabs) [])) q++neg (Mo.bagS st.tabs q)))=[]:=by
  refine (bars_one _).trans ?_
  show bagTxt (Mo.bagS (newT st.tabs (chg (tr0 st.tabs) [])) q++neg (Mo.bagS st.tabs q))=[]
  unfold bagTxt;rw [hc];rfl
 rw [hb] at h;exact ⟨_,h,ht⟩
def cost (rs:List Rw4):Nat:=if rs=[] then 0 else 10903552
def costs (rss:List (List Rw4)):Nat:=(rss.map cost).sum
theorem costs_take {rss:List (List Rw4)} {i:Nat} {rs:List Rw4} (h:rss[i]? =some rs):costs (rss.take (i+1))=costs (rss.take i)+cost rs:=by
 unfold costs;rw [List.take_add_one,h,List.map_append,List.sum_append];simp
theorem costs_le (rss:List (List Rw4)) (i:Nat):costs (rss.take i)≤costs rss:=by
 have h:rss.take i++rss.drop i=rss:=List.take_append_drop i rss
 have e:costs rss=costs (rss.take i)+costs (rss.drop i):=by
  unfold costs;rw [←List.sum_append,←List.map_append,h]
 omega
theorem kept_step {T:List Tab} {q:Q} {us:List Bool} (rs:List Rw4) (hT:Raw3 T) (hg:Mo.TabsGood T) (hd:dnQ q≤5451776) (ok:OkB us (Mo.bagS T q)) (nr:Nr (Mo.bagS T q)≤50000000000)
 (ok':OkB us (Mo.bagS (feedM ⟨T,[q]⟩ (batB rs)).2.tabs q)) (nr':Nr (Mo.bagS (feedM ⟨T,[q]⟩ (batB rs)).2.tabs q)≤50000000000) :
 ∃ (d:Bag) (T':List Tab) (c:Int),feedM ⟨T,[q]⟩ (batB rs)=((bagTxt d,c),⟨T',[q]⟩)∧(c≠0→bagTxt d=[])∧BWr us d∧(∀ r,cnt (Mo.bagS T' q) r=cnt (Mo.bagS T q) r+cnt d r)∧(enB d).length≤cost rs∧Raw3 T'∧OkB us (Mo.bagS T' q)∧Nr (Mo.bagS T' q)≤50000000000:=by
 have hR:=Raw3.feed (st:=⟨T,[q]⟩) hT rs;obtain ⟨⟨t,c⟩,S,hf⟩:∃ x S,feedM ⟨T,[q]⟩ (batB rs)=(x,S):=⟨_,_,rfl⟩
 by_cases h0:c=0
 ·subst h0
  obtain ⟨h1,h2⟩:=told_one (st:=⟨T,[q]⟩) rfl hf;rw [hf] at ok' nr' hR;obtain ⟨T',vs⟩:=S;have hvs:vs=[q]:=h2;subst hvs
  refine ⟨_,T',0,by rw [hf,h1],fun e=>absurd rfl e,bwr_of ok' ok nr' nr,fun r=> ?_,?_,hR,ok',nr'⟩
  ·rw [Mo.cnt_append,Mo.cnt_neg]
   show cnt (Mo.bagS T' q) r=cnt (Mo.bagS T q) r+(cnt (Mo.bagS T' q) r+ -cnt (Mo.bagS T q) r)
   omega
  ·unfold enB;rw [List.length_map]
   unfold cost
   by_cases hrs:rs=[]
   ·rw [if_pos hrs]
    subst hrs;obtain ⟨T2,h3,h4⟩:=feed_empty (st:=⟨T,[q]⟩) hg rfl;have e:feedM ⟨T,[q]⟩ (batB [])=feedM ⟨T,[q]⟩ ⟨#[]⟩:=rfl;rw [e,h3] at hf
    injection hf with _ hf
    injection hf with hf
    subst hf
    have hc:canon (Mo.bagS T2 q++neg (Mo.bagS T q))=[]:=by
     rw [Mo.canon_nil_iff];intro r;have h5:cnt (Mo.bagS T q) r=cnt (Mo.bagS T2 q) r:=bagS_teq h4 q r;rw [Mo.cnt_append,Mo.cnt_neg,←h5];omega
    show (canon (Mo.bagS T2 q++neg (Mo.bagS T q))).length≤0
    rw [hc];exact Nat.le_refl _
   ·rw [if_neg hrs]
    exact told_len (hR.few.view hd) (hT.few.view hd)
 ·obtain ⟨h1,h2⟩:=(feed_ok (st:=⟨T,[q]⟩) (s:=batB rs)).2 (by rw [hf];exact h0)
  rw [hf] at h1 h2;have h1':t=[]:=h1;have h2':S=⟨T,[q]⟩:=h2;subst h1' h2'
  exact ⟨[],T,c,by rw [hf];rfl,fun _=>rfl,bwr_nil us,fun r=>by show _=_+(0:Int);omega,Nat.zero_le _,hT,ok,nr⟩
end Go.Proofs.YtdinjjmcmfjbfaaGreatDoor
