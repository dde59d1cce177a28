import Derived.Test.YtdinjjmcmfjbfaaGreatDoorNwJ
import Derived.Maps.AppendAt
import Init
set_option maxRecDepth 100000
set_option maxHeartbeats 4000000
namespace Go.Proofs.YtdinjjmcmfjbfaaGreatDoor
open Go.RowKit Go.Shelf
open Mo (V Row Bag cnt canon Eqv OkB OkD Q Opd Cmp colR opdR pickR leaves bagQ tyQ wf OkQ Ok2 selB selR pickB joinB distB grpB)
def Shape:Q→Nd→Prop
 | .tab _,.leaf=>True
 | .sel _ _ _ q,.one _ t=>Shape q t
 | .pick _ q,.one _ t=>Shape q t
 | .dist q,.one _ t=>Shape q t
 | .grp _ _ q,.one _ t=>Shape q t
 | .join _ _ q r,.two _ t u=>Shape q t∧Shape r u
 | .uni q r,.two _ t u=>Shape q t∧Shape r u
 | _,_=>False
theorem Takes.ex {T:Tk} {A:Nat→Prop} {ts:List Bool} {Gd:Bag→Prop} {P:Nat→Prop} {R:Nat→World→Ow→Bag→Prop} (h:∀ n,P n→TakesT T A ts Gd (R n)) (h0:∃ n,P n):TakesT T A ts Gd (fun w O B=>∃ n,P n∧R n w O B):=by
 obtain ⟨n0,hn0⟩:=h0;have h1:=h n0 hn0;refine ⟨h1.zero,h1.one,h1.ok,h1.gde,?_,?_,h1.met,?_⟩
 ·rintro w w' O O' B ⟨n,hn,hr⟩ hs hk
  exact ⟨n,hn,(h n hn).stab hr hs hk⟩
 ·rintro w O B B' ⟨n,hn,hr⟩ e
  exact ⟨n,hn,(h n hn).eqv hr e⟩
 ·rintro w O B d c ⟨n,hn,hr⟩ g1 g2 hc hA
  refine ((h n hn).run w O B d c hr g1 g2 hc hA).mono fun e w' hE=> ?_
  obtain ⟨he,O',h2,h3,h4⟩:=hE;exact ⟨he,O',h2,h3,n,hn,h4⟩
theorem cmpO_surj (k:Cmp):∃ n,cmpO n=k:=by
 cases k
 ·exact ⟨0,rfl⟩
 ·exact ⟨1,rfl⟩
 ·exact ⟨2,rfl⟩
theorem selP_eq {n c:Nat} {k:Cmp} {x:Opd} (h:cmpO n=k):selP n (.col c) x=selR c k x:=by subst h;rfl
theorem good_col {us:List Bool} {q:Row} (h:Mo.Good us q) (hs:us.length≤6) (c:Nat):VOk (colR q c):=colR_ok (good_ok h hs) c
theorem sel_types {us ts:List Bool} {c:Nat} {x:Opd} (h:Mo.tySel c x us=some ts) (hs:us.length≤6) (hx:Mo.wfO x):ts=us∧SelOk us (.col c) x:=by
 have e:=Mo.tySel_some h;refine ⟨e,?_⟩;unfold Mo.tySel at h
 cases hc:us[c]? with
 | none=>rw [hc] at h;cases h
 | some a =>
   rw [hc] at h;have hcl:=(List.getElem?_eq_some_iff.1 hc).1
   have hto:Mo.tyO us x=some a:=by
    by_cases ht:Mo.tyO us x=some a
    ·exact ht
    ·simp [ht] at h
   have tcol:∀ {q:Row} {c':Nat} {a':Bool},Mo.Good us q→us[c']? =some a'→Mo.ty (colR q c')=a':=fun {q c' a'} hq hc'=>by
    have:=(Mo.colR_ty hq.1 (List.getElem?_eq_some_iff.1 hc').1).1
    rw [this,List.getD_eq_getElem?_getD,hc'];rfl
   refine ⟨fun c' e'=> ?_,fun c' e'=> ?_,fun {q} hq=> ?_⟩
   ·injection e' with e';omega
   ·subst e'
    have:=(List.getElem?_eq_some_iff.1 (show us[c']? =some a from hto)).1
    omega
   ·refine ⟨good_col hq hs c,?_,?_⟩
    ·cases x with
     | col c'=>exact good_col hq hs c'
     | val v=>cases v with
       | num n=>have: -9999≤n∧n≤9999:=hx
                show _∧_;omega
       | txt s=>exact hx
    ·have h1:Mo.ty (opdR (.col c) q)=a:=tcol hq hc
     rw [h1]
     cases x with
     | col c'=>exact (tcol hq hto).symm
     | val v=>have h5:some (Mo.ty v)=some a:=hto
              exact (Option.some.inj h5).symm
theorem pick_rows {us:List Bool} {cs:List Nat} (hs:us.length≤6) (hl:cs.length≤6) {q:Row} (h:Mo.Good us q):ROk (pickR cs q):=by
 refine ⟨by simp [pickR];omega,fun v hv=> ?_⟩
 obtain ⟨c,_,rfl⟩:=List.mem_map.1 hv;exact good_col h hs c
theorem grp_types {us ts:List Bool} {cs:List Nat} {s:Option Nat} (h:Mo.tyGrp cs s us=some ts) (hs:us.length≤6):GrpOk0 us cs s (xS s):=by
 obtain ⟨ks,h1,h2,h3⟩:=Mo.tyGrp_some h;obtain ⟨h4,h5⟩:=Mo.tyPick_some h1
 have hlen:cs.length≤5:=by
  rw [h2,h5] at h3
  simp at h3;omega
 refine ⟨fun y hy=>by have:=h4 y hy;omega,hlen,fun c e=> ?_,fun hq=>pick_rows hs (by omega) hq,xS_sv s⟩
 cases s with
 | none=>cases e
 | some m =>
   have:m=c:=by simpa [xS] using e
   subst this;unfold Mo.tyGrp at h;rw [h1] at h
   by_cases hm:us[m]? =some false
   ·have:=(List.getElem?_eq_some_iff.1 hm).1;omega
   ·simp [hm] at h
theorem join_types {us vs ts:List Bool} {n m:Nat} (h:Mo.tyJoin n m us vs=some ts):n<us.length∧m<vs.length∧us.length+vs.length≤6:=by
 have h1:=(Mo.tyJoin_some h).2;rw [List.length_append] at h1;unfold Mo.tyJoin at h
 cases hn:us[n]? with
 | none=>rw [hn] at h;cases h
 | some a =>
   rw [hn] at h
   have hm:vs[m]? =some a:=by
    by_cases hm:vs[m]? =some a
    ·exact hm
    ·simp [hm] at h
   exact ⟨(List.getElem?_eq_some_iff.1 hn).1,(List.getElem?_eq_some_iff.1 hm).1,h1⟩
theorem or_list {A:Nat→Prop} {b:Nat} {l:List Nat} (a:Nat):((A a∨a=b+2)∨∃ x∈l,a=x+2)↔(A a∨∃ x∈b::l,a=x+2):=by
 constructor
 ·rintro ((h | h) | ⟨x,hx,h⟩)
  ·exact .inl h
  ·exact .inr ⟨b,by simp,h⟩
  ·exact .inr ⟨x,by simp [hx],h⟩
 ·rintro (h | ⟨x,hx,h⟩)
  ·exact .inl (.inl h)
  ·rcases List.mem_cons.1 hx with rfl | hx
   ·exact .inl (.inr h)
   ·exact .inr ⟨x,hx,h⟩
theorem updN_out {f:Nat→Bag} {k j:Nat} {B:Bag} (h:j≠k):updN f k B j=f j:=if_neg h
theorem or_list2 {A:Nat→Prop} {b:Nat} {l m:List Nat} (a:Nat):(((A a∨a=b+2)∨∃ x∈m,a=x+2)∨∃ x∈l,a=x+2)↔(A a∨∃ x∈b::(l++m),a=x+2):=by
 constructor
 ·rintro (((h | h) | ⟨x,hx,h⟩) | ⟨x,hx,h⟩)
  ·exact .inl h
  ·exact .inr ⟨b,by simp,h⟩
  ·exact .inr ⟨x,by simp [hx],h⟩
  ·exact .inr ⟨x,by simp [hx],h⟩
 ·rintro (h | ⟨x,hx,h⟩)
  ·exact .inl (.inl (.inl h))
  ·simp only [List.mem_cons,List.mem_append] at hx
   rcases hx with rfl | hx | hx
   ·exact .inl (.inl (.inr h))
   ·exact .inr ⟨x,hx,h⟩
   ·exact .inl (.inr ⟨x,hx,h⟩)
theorem leaf_takes {ft:List UInt8→Option (List Bool)} (hf:∀ nm us,ft nm=some us→1≤us.length∧us.length≤6):∀ (q:Q) (t:Nd) (T:Tk) (A:Nat→Prop) (ts:List Bool) (Gd:Bag→Prop) (R:World→Ow→Bag→Prop) (i:Nat) (f:Nat→Bag) (j:Nat),
 TakesT T A ts Gd R→tyQ ft q=some ts→wf q→Shape q t→(nds t).Nodup→(∀ b∈nds t,¬A (b+2))→j<(leaves q).length →
 ∃ us nm,(leaves q)[j]? =some nm∧ft nm=some us∧TakesT (leafT q t T j) (fun a=>A a∨∃ b∈nds t,a=b+2) us (fun B=>Ok2 ft q i (updN f (i+j) B)∧Gd (bagQ (updN f (i+j) B) i q)) (fun w O B=>R w O (bagQ (updN f (i+j) B) i q)∧Nodes q t T i (updN f (i+j) B) w O)
 | .tab nm,.leaf,T,A,ts,Gd,R,i,f,j,hT,hty,_,_,_,_,hj=>by
   have hj0:j=0:=by simpa [leaves] using hj
   subst hj0;refine ⟨ts,nm,rfl,hty,?_⟩
   have e:∀ B,bagQ (updN f (i+0) B) i (.tab nm)=B:=fun B=>by simp [bagQ,updN]
   refine Takes.conv hT (fun a=>by simp [nds]) (fun h=>by have:=h.2;rwa [e] at this) (fun {B B'} h he=>⟨trivial,by rw [e];have:=h.2;rw [e] at this;exact hT.gde this he⟩) (fun {w O B}=>by rw [e];simp [Nodes])
 | .sel c k x q,.one b t,T,A,ts,Gd,R,i,f,j,hT,hty,hw,hsh,hnd,hA,hj=>by
   obtain ⟨us,h1,h2⟩:=Option.bind_eq_some_iff.1 (show (tyQ ft q).bind (Mo.tySel c x)=some ts from hty)
   have hlen:=Mo.tyQ_len hf q us hw.2.2 h1;obtain ⟨rfl,hO⟩:=sel_types h2 hlen.2 hw.2.1;have hn:=List.nodup_cons.1 hnd
   have hT1:TakesT (tSel b) (fun a=>A a∨a=b+2) ts (fun B=>OkB ts B∧Gd (selB (selR c k x) B)) (fun w O B=>∃ n,cmpO n=k∧(R w O (selB (selR c k x) B)∧SelAt w O b T.val n (.col c) x)) :=
    Takes.ex (P:=fun n=>cmpO n=k) (R:=fun n w O B=>R w O (selB (selR c k x) B)∧SelAt w O b T.val n (.col c) x) (fun n hn'=>by have:=sel_takes hT b n (.col c) x ts hO (hA b (by simp [nds]));rw [selP_eq hn'] at this;exact this) (cmpO_surj k)
   obtain ⟨vs,nm,l1,l2,l3⟩:=leaf_takes hf q t (tSel b) _ ts _ _ i f j hT1 h1 hw.2.2 hsh hn.2 (fun b' hb' h=>by
    rcases h with h | h
    ·exact hA b' (by simp [nds,hb']) h
    ·exact hn.1 (by have:b'=b:=by omega
                    rw [←this];exact hb')) hj
   refine ⟨vs,nm,l1,l2,Takes.conv l3 or_list (fun {B} h=> ?_) (fun {B B'} h he=> ?_) (fun {w O B}=> ?_)⟩
   ·obtain ⟨⟨us',a1,a2⟩,a3⟩:=h.1
    rw [h1] at a1
    have:us'=ts:=by simpa using a1.symm
    subst this;exact ⟨a3,a2,h.2⟩
   ·exact ⟨Ok2_congr (.sel c k x q) i (fun j' _ _=>updN_eqv he j') h.1,hT.gde h.2 (Mo.bagQ_congr (.sel c k x q) i fun j' _ _=>updN_eqv he j')⟩
   ·constructor
    ·rintro ⟨⟨n,a1,a2,a3⟩,a4⟩;exact ⟨a2,⟨n,a1,a3⟩,a4⟩
    ·rintro ⟨a2,⟨n,a1,a3⟩,a4⟩;exact ⟨⟨n,a1,a2,a3⟩,a4⟩
 | .pick cs q,.one b t,T,A,ts,Gd,R,i,f,j,hT,hty,hw,hsh,hnd,hA,hj=>by
   obtain ⟨us,h1,h2⟩:=Option.bind_eq_some_iff.1 (show (tyQ ft q).bind (Mo.tyPick cs)=some ts from hty)
   have hlen:=Mo.tyQ_len hf q us hw.2.2.2 h1;have hn:=List.nodup_cons.1 hnd
   have hT1:=pick_takes hT b cs us (fun y hy=>by have:=(Mo.tyPick_some h2).1 y hy;omega) hw.2.1 (fun hq=>pick_rows hlen.2 hw.2.1 hq) (hA b (by simp [nds]))
   obtain ⟨vs,nm,l1,l2,l3⟩:=leaf_takes hf q t (tPick b) _ us _ _ i f j hT1 h1 hw.2.2.2 hsh hn.2 (fun b' hb' h=>by
    rcases h with h | h
    ·exact hA b' (by simp [nds,hb']) h
    ·exact hn.1 (by have:b'=b:=by omega
                    rw [←this];exact hb')) hj
   refine ⟨vs,nm,l1,l2,Takes.conv l3 or_list (fun {B} h=> ?_) (fun {B B'} h he=> ?_) (fun {w O B}=> ?_)⟩
   ·obtain ⟨⟨us',a1,a2⟩,a3⟩:=h.1
    rw [h1] at a1
    have:us'=us:=by simpa using a1.symm
    subst this;exact ⟨a3,a2,h.2⟩
   ·exact ⟨Ok2_congr (.pick cs q) i (fun j' _ _=>updN_eqv he j') h.1,hT.gde h.2 (Mo.bagQ_congr (.pick cs q) i fun j' _ _=>updN_eqv he j')⟩
   ·constructor
    ·rintro ⟨⟨a1,a2⟩,a3⟩;exact ⟨a1,a2,a3⟩
    ·rintro ⟨a1,a2,a3⟩;exact ⟨⟨a1,a2⟩,a3⟩
 | .dist q,.one b t,T,A,ts,Gd,R,i,f,j,hT,hty,hw,hsh,hnd,hA,hj=>by
   have h1:tyQ ft q=some ts:=hty;have hn:=List.nodup_cons.1 hnd
   have hT1:=dist_takes hT b ts (hA b (by simp [nds]))
   obtain ⟨vs,nm,l1,l2,l3⟩:=leaf_takes hf q t (tDist b) _ ts _ _ i f j hT1 h1 hw hsh hn.2 (fun b' hb' h=>by
    rcases h with h | h
    ·exact hA b' (by simp [nds,hb']) h
    ·exact hn.1 (by have:b'=b:=by omega
                    rw [←this];exact hb')) hj
   refine ⟨vs,nm,l1,l2,Takes.conv l3 or_list (fun {B} h=> ?_) (fun {B B'} h he=> ?_) (fun {w O B}=> ?_)⟩
   ·obtain ⟨⟨us',a1,a2⟩,a3⟩:=h.1
    rw [h1] at a1
    have:us'=ts:=by simpa using a1.symm
    subst this;exact ⟨a3,a2,h.2⟩
   ·exact ⟨Ok2_congr (.dist q) i (fun j' _ _=>updN_eqv he j') h.1,hT.gde h.2 (Mo.bagQ_congr (.dist q) i fun j' _ _=>updN_eqv he j')⟩
   ·constructor
    ·rintro ⟨⟨a1,a2⟩,a3⟩;exact ⟨a1,a2,a3⟩
    ·rintro ⟨a1,a2,a3⟩;exact ⟨⟨a1,a2⟩,a3⟩
 | .grp cs s q,.one b t,T,A,ts,Gd,R,i,f,j,hT,hty,hw,hsh,hnd,hA,hj=>by
   obtain ⟨us,h1,h2⟩:=Option.bind_eq_some_iff.1 (show (tyQ ft q).bind (Mo.tyGrp cs s)=some ts from hty)
   have hlen:=Mo.tyQ_len hf q us hw.2.2.2 h1;have hn:=List.nodup_cons.1 hnd
   have hT1:=grp_takes hT b cs s (xS s) us (grp_types h2 hlen.2) (hA b (by simp [nds]))
   obtain ⟨vs,nm,l1,l2,l3⟩:=leaf_takes hf q t (tGrp b) _ us _ _ i f j hT1 h1 hw.2.2.2 hsh hn.2 (fun b' hb' h=>by
    rcases h with h | h
    ·exact hA b' (by simp [nds,hb']) h
    ·exact hn.1 (by have:b'=b:=by omega
                    rw [←this];exact hb')) hj
   refine ⟨vs,nm,l1,l2,Takes.conv l3 or_list (fun {B} h=> ?_) (fun {B B'} h he=> ?_) (fun {w O B}=> ?_)⟩
   ·obtain ⟨⟨us',a1,a2⟩,a3⟩:=h.1
    rw [h1] at a1
    have:us'=us:=by simpa using a1.symm
    subst this;exact ⟨a3,a2,h.2⟩
   ·exact ⟨Ok2_congr (.grp cs s q) i (fun j' _ _=>updN_eqv he j') h.1,hT.gde h.2 (Mo.bagQ_congr (.grp cs s q) i fun j' _ _=>updN_eqv he j')⟩
   ·constructor
    ·rintro ⟨⟨a1,a2⟩,a3⟩;exact ⟨a1,a2,a3⟩
    ·rintro ⟨a1,a2,a3⟩;exact ⟨⟨a1,a2⟩,a3⟩
 | .join n m q r,.two b t u,T,A,ts,Gd,R,i,f,j,hT,hty,hw,hsh,hnd,hA,hj=>by
   obtain ⟨us,h1,h2⟩:=Option.bind_eq_some_iff.1 (show (tyQ ft q).bind (fun ts=>(tyQ ft r).bind fun us=>Mo.tyJoin n m ts us)=some ts from hty)
   obtain ⟨vs,h3,h4⟩:=Option.bind_eq_some_iff.1 h2;have l1:=Mo.tyQ_len hf q us hw.2.2.1 h1;have l2:=Mo.tyQ_len hf r vs hw.2.2.2 h3;obtain ⟨jn,jm,jl⟩:=join_types h4;have hn:=List.nodup_cons.1 hnd;have hn2:=List.nodup_append.1 hn.2
   have hjl:j<(leaves q).length+(leaves r).length:=by simpa [leaves] using hj
   by_cases hjq:j<(leaves q).length
   ·have hS:=side_takes hT b true n m us vs (bagQ f (i+(leaves q).length) r) (by omega) ⟨l1.1,l2.1,jl⟩ (hA b (by simp [nds]))
    have hF:=Takes.frame (T:=tSide b true) hS (fun a=>∃ x∈nds u,a=x+2) (fun w O=>Nodes r u (tSide b false) (i+(leaves q).length) f w O) (fun ⟨x,_,e⟩=>by omega) (fun ⟨x,_,e⟩=>by omega) (fun a ha ⟨x,hx,e⟩=>by
     rcases ha with ha | ha
     ·rw [e] at ha;exact hA x (by simp [nds,hx]) ha
     ·exact hn.1 (by have:x=b:=by omega
                     rw [←this];simp [hx])) (fun hN hs hk=>Nodes.stab hs r u _ _ hk hN)
    obtain ⟨xs,nm,a1,a2,a3⟩:=leaf_takes hf q t (tSide b true) _ us _ _ i f j hF h1 hw.2.2.1 hsh.1 hn2.1 (fun b' hb' h=>by
     rcases h with (h | h) | ⟨x,hx,e⟩
     ·exact hA b' (by simp [nds,hb']) h
     ·exact hn.1 (by have:b'=b:=by omega
                     rw [←this];simp [hb'])
     ·exact hn2.2.2 b' hb' x hx (by omega)) hjq
    have eR:∀ B,bagQ (updN f (i+j) B) (i+(leaves q).length) r=bagQ f (i+(leaves q).length) r:=fun B=>bagQ_ext r _ fun j' h5 h6=>updN_out (by omega)
    refine ⟨xs,nm,by simp only [leaves];rw [List.getElem?_append_left hjq];exact a1,a2,?_⟩
    have eT:leafT (.join n m q r) (.two b t u) T j=leafT q t (tSide b true) j:=by simp [leafT,hjq]
    rw [eT]
    refine Takes.conv a3 or_list2 (fun {B} h=> ?_) (fun {B B'} h he=> ?_) (fun {w O B}=> ?_)
    ·obtain ⟨⟨⟨us',c1,c2⟩,⟨vs',d1,d2⟩⟩,e1,e2⟩:=h.1
     rw [h1] at c1
     have:us'=us:=by simpa using c1.symm
     subst this;rw [h3] at d1
     have:vs'=vs:=by simpa using d1.symm
     subst this;rw [eR] at d2;refine ⟨e1,c2,d2,?_⟩
     have:=h.2
     simp only [bagQ] at this;rw [eR] at this;exact this
    ·exact ⟨Ok2_congr (.join n m q r) i (fun j' _ _=>updN_eqv he j') h.1,hT.gde h.2 (Mo.bagQ_congr (.join n m q r) i fun j' _ _=>updN_eqv he j')⟩
    ·simp only [bagQ,Nodes]
     rw [eR]
     constructor
     ·rintro ⟨⟨⟨b1,b2⟩,b3⟩,b4⟩
      exact ⟨b1,b2,b4,Nodes.ext r u _ _ (fun j' h5 h6=>(updN_out (by omega)).symm) b3⟩
     ·rintro ⟨b1,b2,b4,b3⟩
      exact ⟨⟨⟨b1,b2⟩,Nodes.ext r u _ _ (fun j' h5 h6=>updN_out (by omega)) b3⟩,b4⟩
   ·have hS:=side_takes hT b false m n vs us (bagQ f i q) (by omega) ⟨l2.1,l1.1,by omega⟩ (hA b (by simp [nds]))
    have hF:=Takes.frame (T:=tSide b false) hS (fun a=>∃ x∈nds t,a=x+2) (fun w O=>Nodes q t (tSide b true) i f w O) (fun ⟨x,_,e⟩=>by omega) (fun ⟨x,_,e⟩=>by omega) (fun a ha ⟨x,hx,e⟩=>by
     rcases ha with ha | ha
     ·rw [e] at ha;exact hA x (by simp [nds,hx]) ha
     ·exact hn.1 (by have:x=b:=by omega
                     rw [←this];simp [hx])) (fun hN hs hk=>Nodes.stab hs q t _ _ hk hN)
    obtain ⟨xs,nm,a1,a2,a3⟩:=leaf_takes hf r u (tSide b false) _ vs _ _ (i+(leaves q).length) f (j-(leaves q).length) hF h3 hw.2.2.2 hsh.2 hn2.2.1 (fun b' hb' h=>by
     rcases h with (h | h) | ⟨x,hx,e⟩
     ·exact hA b' (by simp [nds,hb']) h
     ·exact hn.1 (by have:b'=b:=by omega
                     rw [←this];simp [hb'])
     ·exact hn2.2.2 x hx b' hb' (by omega)) (by omega)
    have ei:i+(leaves q).length+(j-(leaves q).length)=i+j:=by omega
    rw [ei] at a3
    have eR:∀ B,bagQ (updN f (i+j) B) i q=bagQ f i q:=fun B=>bagQ_ext q _ fun j' h5 h6=>updN_out (by omega)
    refine ⟨xs,nm,by simp only [leaves];rw [List.getElem?_append_right (by omega)];exact a1,a2,?_⟩
    have eT:leafT (.join n m q r) (.two b t u) T j=leafT r u (tSide b false) (j-(leaves q).length):=by simp [leafT,hjq]
    rw [eT]
    refine Takes.conv a3 (fun a=> ?_) (fun {B} h=> ?_) (fun {B B'} h he=> ?_) (fun {w O B}=> ?_)
    ·rw [or_list2]
     simp only [nds,List.mem_cons,List.mem_append]
     constructor
     ·rintro (h | ⟨x,h,e⟩)
      ·exact .inl h
      ·exact .inr ⟨x,h.imp id Or.symm,e⟩
     ·rintro (h | ⟨x,h,e⟩)
      ·exact .inl h
      ·exact .inr ⟨x,h.imp id Or.symm,e⟩
    ·obtain ⟨⟨⟨us',c1,c2⟩,⟨vs',d1,d2⟩⟩,e1,e2⟩:=h.1
     rw [h1] at c1
     have:us'=us:=by simpa using c1.symm
     subst this;rw [h3] at d1
     have:vs'=vs:=by simpa using d1.symm
     subst this;rw [eR] at c2;refine ⟨e2,d2,c2,?_⟩
     have:=h.2
     simp only [bagQ] at this;rw [eR] at this;exact this
    ·exact ⟨Ok2_congr (.join n m q r) i (fun j' _ _=>updN_eqv he j') h.1,hT.gde h.2 (Mo.bagQ_congr (.join n m q r) i fun j' _ _=>updN_eqv he j')⟩
    ·simp only [bagQ,Nodes]
     rw [eR]
     constructor
     ·rintro ⟨⟨⟨b1,b2⟩,b3⟩,b4⟩
      exact ⟨b1,b2.swap,Nodes.ext q t _ _ (fun j' h5 h6=>(updN_out (by omega)).symm) b3,b4⟩
     ·rintro ⟨b1,b2,b3,b4⟩
      exact ⟨⟨⟨b1,b2.swap⟩,Nodes.ext q t _ _ (fun j' h5 h6=>updN_out (by omega)) b3⟩,b4⟩
 | .uni q r,.two b t u,T,A,ts,Gd,R,i,f,j,hT,hty,hw,hsh,hnd,hA,hj=>by
   obtain ⟨us,h1,h2⟩:=Option.bind_eq_some_iff.1 (show (tyQ ft q).bind (fun ts=>(tyQ ft r).bind fun us=>if ts=us then some ts else none)=some ts from hty)
   obtain ⟨vs,h3,h4⟩:=Option.bind_eq_some_iff.1 h2
   have huv:us=vs∧us=ts:=by
    by_cases e:us=vs
    ·rw [if_pos e] at h4;exact ⟨e,by simpa using h4⟩
    ·rw [if_neg e] at h4;cases h4
   obtain ⟨rfl,rfl⟩:=huv;have hn:=List.nodup_cons.1 hnd;have hn2:=List.nodup_append.1 hn.2
   have hjl:j<(leaves q).length+(leaves r).length:=by simpa [leaves] using hj
   by_cases hjq:j<(leaves q).length
   ·have hS:=uni_takes hT b us (fun B=>B++bagQ f (i+(leaves q).length) r) (fun B d x=>by simp only [Mo.cnt_append];omega) (fun e=>e.append (Eqv.refl _)) (hA b (by simp [nds]))
    have hF:=Takes.frame (T:=tUni b) hS (fun a=>∃ x∈nds u,a=x+2) (fun w O=>Nodes r u (tUni b) (i+(leaves q).length) f w O) (fun ⟨x,_,e⟩=>by omega) (fun ⟨x,_,e⟩=>by omega) (fun a ha ⟨x,hx,e⟩=>by
     rcases ha with ha | ha
     ·rw [e] at ha;exact hA x (by simp [nds,hx]) ha
     ·exact hn.1 (by have:x=b:=by omega
                     rw [←this];simp [hx])) (fun hN hs hk=>Nodes.stab hs r u _ _ hk hN)
    obtain ⟨xs,nm,a1,a2,a3⟩:=leaf_takes hf q t (tUni b) _ us _ _ i f j hF h1 hw.1 hsh.1 hn2.1 (fun b' hb' h=>by
     rcases h with (h | h) | ⟨x,hx,e⟩
     ·exact hA b' (by simp [nds,hb']) h
     ·exact hn.1 (by have:b'=b:=by omega
                     rw [←this];simp [hb'])
     ·exact hn2.2.2 b' hb' x hx (by omega)) hjq
    have eR:∀ B,bagQ (updN f (i+j) B) (i+(leaves q).length) r=bagQ f (i+(leaves q).length) r:=fun B=>bagQ_ext r _ fun j' h5 h6=>updN_out (by omega)
    refine ⟨xs,nm,by simp only [leaves];rw [List.getElem?_append_left hjq];exact a1,a2,?_⟩
    have eT:leafT (.uni q r) (.two b t u) T j=leafT q t (tUni b) j:=by simp [leafT,hjq]
    rw [eT]
    refine Takes.conv a3 or_list2 (fun {B} h=> ?_) (fun {B B'} h he=> ?_) (fun {w O B}=> ?_)
    ·obtain ⟨⟨⟨us',c1,c2⟩,_⟩,e1,e2⟩:=h.1
     rw [h1] at c1
     have:us'=us:=by simpa using c1.symm
     subst this;refine ⟨e1,c2,?_⟩
     have:=h.2
     simp only [bagQ] at this;rw [eR] at this;exact this
    ·exact ⟨Ok2_congr (.uni q r) i (fun j' _ _=>updN_eqv he j') h.1,hT.gde h.2 (Mo.bagQ_congr (.uni q r) i fun j' _ _=>updN_eqv he j')⟩
    ·simp only [bagQ,Nodes]
     rw [eR]
     constructor
     ·rintro ⟨⟨⟨b1,b2⟩,b3⟩,b4⟩
      exact ⟨b1,b2,b4,Nodes.ext r u _ _ (fun j' h5 h6=>(updN_out (by omega)).symm) b3⟩
     ·rintro ⟨b1,b2,b4,b3⟩
      exact ⟨⟨⟨b1,b2⟩,Nodes.ext r u _ _ (fun j' h5 h6=>updN_out (by omega)) b3⟩,b4⟩
   ·have hS:=uni_takes hT b us (fun B=>bagQ f i q++B) (fun B d x=>by simp only [Mo.cnt_append];omega) (fun e=>(Eqv.refl _).append e) (hA b (by simp [nds]))
    have hF:=Takes.frame (T:=tUni b) hS (fun a=>∃ x∈nds t,a=x+2) (fun w O=>Nodes q t (tUni b) i f w O) (fun ⟨x,_,e⟩=>by omega) (fun ⟨x,_,e⟩=>by omega) (fun a ha ⟨x,hx,e⟩=>by
     rcases ha with ha | ha
     ·rw [e] at ha;exact hA x (by simp [nds,hx]) ha
     ·exact hn.1 (by have:x=b:=by omega
                     rw [←this];simp [hx])) (fun hN hs hk=>Nodes.stab hs q t _ _ hk hN)
    obtain ⟨xs,nm,a1,a2,a3⟩:=leaf_takes hf r u (tUni b) _ us _ _ (i+(leaves q).length) f (j-(leaves q).length) hF h3 hw.2 hsh.2 hn2.2.1 (fun b' hb' h=>by
     rcases h with (h | h) | ⟨x,hx,e⟩
     ·exact hA b' (by simp [nds,hb']) h
     ·exact hn.1 (by have:b'=b:=by omega
                     rw [←this];simp [hb'])
     ·exact hn2.2.2 x hx b' hb' (by omega)) (by omega)
    have ei:i+(leaves q).length+(j-(leaves q).length)=i+j:=by omega
    rw [ei] at a3
    have eR:∀ B,bagQ (updN f (i+j) B) i q=bagQ f i q:=fun B=>bagQ_ext q _ fun j' h5 h6=>updN_out (by omega)
    refine ⟨xs,nm,by simp only [leaves];rw [List.getElem?_append_right (by omega)];exact a1,a2,?_⟩
    have eT:leafT (.uni q r) (.two b t u) T j=leafT r u (tUni b) (j-(leaves q).length):=by simp [leafT,hjq]
    rw [eT]
    refine Takes.conv a3 (fun a=> ?_) (fun {B} h=> ?_) (fun {B B'} h he=> ?_) (fun {w O B}=> ?_)
    ·rw [or_list2]
     simp only [nds,List.mem_cons,List.mem_append]
     constructor
     ·rintro (h | ⟨x,h,e⟩)
      ·exact .inl h
      ·exact .inr ⟨x,h.imp id Or.symm,e⟩
     ·rintro (h | ⟨x,h,e⟩)
      ·exact .inl h
      ·exact .inr ⟨x,h.imp id Or.symm,e⟩
    ·obtain ⟨⟨_,⟨vs',d1,d2⟩⟩,e1,e2⟩:=h.1
     rw [h3] at d1
     have:vs'=us:=by simpa using d1.symm
     subst this;refine ⟨e2,d2,?_⟩
     have:=h.2
     simp only [bagQ] at this;rw [eR] at this;exact this
    ·exact ⟨Ok2_congr (.uni q r) i (fun j' _ _=>updN_eqv he j') h.1,hT.gde h.2 (Mo.bagQ_congr (.uni q r) i fun j' _ _=>updN_eqv he j')⟩
    ·simp only [bagQ,Nodes]
     rw [eR]
     constructor
     ·rintro ⟨⟨⟨b1,b2⟩,b3⟩,b4⟩
      exact ⟨b1,b2,Nodes.ext q t _ _ (fun j' h5 h6=>(updN_out (by omega)).symm) b3,b4⟩
     ·rintro ⟨b1,b2,b3,b4⟩
      exact ⟨⟨⟨b1,b2⟩,Nodes.ext q t _ _ (fun j' h5 h6=>updN_out (by omega)) b3⟩,b4⟩
theorem infoTk:(Tryz.prog.info? 143).map (fun i=>(i.zero,i.size,i.bytes))=some (some .nilIface,1,16):=by kernel_rfl
theorem owns_mem {w:World} {base:Nat} {e:TypeId} {size n:Nat} {v:Value} {xs:List Value} (h:w.ownsRow base e size v n xs) {b:Nat} (hb:v.ownBlock=some b):∃ c z,w.heap[b]? =some (.cells c e z):=by
 rcases h.2 with ⟨h1,_⟩ | ⟨g,cap,cur,rfl,_,hg,_⟩
 ·rw [h1] at hb;cases hb
 ·have:g=b:=by simpa [Value.ownBlock] using hb
  subst this;exact ⟨_,_,hg⟩
theorem owns_blk {w w':World} {base:Nat} {e:TypeId} {size n:Nat} {v:Value} {xs:List Value} (h:w.ownsRow base e size v n xs) (hk:∀ b,v.ownBlock=some b→w'.heap[b]? =w.heap[b]?):w'.ownsRow base e size v n xs:=by
 refine ⟨h.1,?_⟩
 rcases h.2 with hn | ⟨g,cap,cur,rfl,hb,hg,hrest⟩
 ·exact .inl hn
 ·exact .inr ⟨g,cap,cur,rfl,hb,(hk g rfl).trans hg,hrest⟩
theorem owns_slice {w:World} {base:Nat} {e:TypeId} {size n:Nat} {v:Value} {xs:List Value} (h:w.ownsRow base e size v n xs):∃ a n c,v=.slice a n c:=by
 rcases h.2 with ⟨h1,_⟩ | ⟨g,cap,cur,h1,_⟩
 ·exact ⟨_,_,_,h1⟩
 ·exact ⟨_,_,_,h1⟩
def GtEnd (b:Nat) (cs:Array Value) (ty:TypeId) (v:Value) (Ts:List Value) (w:World) (e:Ending) (w':World):Prop :=
 e=.returned (.tuple #[])∧∃ v',w'.heap[b]? =some (.cells (cs.setIfInBounds 0 v') ty (0,0))∧w'.ownsRow 0 143 1 v' Ts.length Ts∧(∀ k,v'.ownBlock=some k→v.ownBlock=some k∨w.heap.size≤k)∧Kept (fun k=>k=b∨v.ownBlock=some k) w w'
theorem giveTo_any (b:Nat) (cs:Array Value) (ty:TypeId) (hty:ty≠143) (v:Value) (Ts:List Value) (tt:TypeId) (p:Addr) (w:World) (hb:w.heap[b]? =some (.cells cs ty (0,0))) (h0:cs[0]? =some v) (hown:w.ownsRow 0 143 1 v Ts.length Ts) (hn:Ts.length≤1000000) :
 Calls Tryz.prog 64 #[.pointer (some ⟨b,0,none⟩),.iface tt (.pointer (some p))] w (GtEnd b cs ty v (Ts++[.iface tt (.pointer (some p))]) w):=by
 obtain ⟨i0,hi,hz0,hz1,hz2⟩:=info_parts infoTk;have hbl:=lt_of_heap hb
 have c0:w.cell? ⟨b,0,none⟩=some v:=by rw [cell_of hb];exact h0
 have hnb:∀ k,v.ownBlock=some k→k≠b:=by
  rintro k hk rfl;obtain ⟨c',z',hx⟩:=owns_mem hown hk
  rw [hb] at hx;injection hx with hx;injection hx with _ hx;exact hty hx
 have hsl:=owns_slice hown;have HB:=hid hb;have HOWN:=hid hown;have HNB:=hid hnb
 have hcn:∀ j x,[Value.iface tt (.pointer (some p))][j]? =some x→(w.alloc (.cells #[.iface tt (.pointer (some p))] 143)).cell? ((⟨w.heap.size,0,none⟩:Addr).add j)=some x:=by
  intro j x hx
  have hj:j=0:=by have:=(List.getElem?_eq_some_iff.1 hx).1;simp at this;exact this
  subst hj
  have hadd:(⟨w.heap.size,0,none⟩:Addr).add 0=⟨w.heap.size,0,none⟩:=by simp [Addr.add]
  rw [hadd,cell_of (heap_alloc_last _ _)]
  simpa using hx
 obtain ⟨va,vn,vc,rfl⟩:=hsl;have h0':=h0;clear hb h0 hown hnb
 go_enter Tryz.func64,Tryz.ntmps64
 go_wp2_with (first
  | (at_builtin;refine wpList_append_own_at _ rfl _ _ 121 rfl 0 143 i0 .nilIface 1 16 Tryz.underlying121 hi hz0 hz1 hz2 rfl (by decide) (.slice va vn vc) Ts.length Ts rfl (HOWN.out.alloc _) ⟨w.heap.size,0,none⟩ 1 1 [.iface tt (.pointer (some p))] rfl rfl hcn (by simp [Value.oneCell']) (by unfold maxLen;omega) (by omega) (by simp) ?_;intro v' w5 hown5 hg5 hx5 hy5;have hk5:Kept (fun k=>(Value.slice va vn vc).ownBlock=some k) w w5:=((Kept.refl _ w).alloc _).grown hg5 (fun r e=>.inr e);have hb5:=(hk5.block b hbl (fun e=>HNB.out b e rfl)).trans HB.out;have f5:=frozen_of hb5 0;have c5:=cell_of hb5 0;have hsl5:=owns_slice hown5;obtain ⟨xa,xn,xc,rfl⟩:=hsl5;have HO5:=hid hown5;have HK5:=hid hk5;have HB5:=hid hb5;have HY5:=hid hy5;rw [h0'] at c5;clear hown5 hg5 hx5 hy5 hk5 hb5)
  | fail)
 refine bodyPost_ret (results_none rfl _ _ _) rfl ?_
 refine ⟨rfl,.slice xa xn xc,heap_set HB5.out _ _,?_,?_,(HK5.out.mono fun i _ e=>.inr e).setCell (.inr (.inl rfl)) _⟩
 ·refine owns_blk (w:=w5) ?_ (fun k hk=>Below.heap_setCell _ _ _ _ ?_)
  ·have:=HO5.out
   rw [show (Ts++[Value.iface tt (.pointer (some p))]).length=Ts.length+1 by simp]
   exact this
  ·show k≠b
   rintro rfl;obtain ⟨c',z',hx⟩:=owns_mem HO5.out hk
   rw [HB5.out] at hx;injection hx with hx;injection hx with _ hx;exact hty hx
 ·intro k hk
  rcases HY5.out with e | e
  ·exact .inl (e ▸ hk)
  ·rw [e] at hk
   right
   have:(w.alloc (.cells #[Value.iface tt (.pointer (some p))] 143)).heap.size=k:=by simpa using hk
   simp at this;omega
end Go.Proofs.YtdinjjmcmfjbfaaGreatDoor
namespace Go.Proofs.YtdinjjmcmfjbfaaGreatDoor.Pl
def bt (s:ByteArray) (a:Nat):Nat:=if h:a<s.size then s[a].toNat else 0
def cj (s:ByteArray):Nat→Nat
 | 0=>0
 | a+1=>cj s a+if bt s a=74 then 1 else 0
def tk (s:ByteArray) (c a:Nat):Bool × Nat:=if bt s a=c then (true,a+1) else (false,a)
def rng (s:ByteArray) (lo hi a:Nat):Bool × Nat:=if lo≤bt s a∧bt s a≤hi then (true,a+1) else (false,a)
def many (s:ByteArray) (lo hi:Nat):Nat→Nat→Nat
 | 0,a=>a
 | k+1,a=>if lo≤bt s a∧bt s a≤hi then many s lo hi k (a+1) else a
def sev (s:ByteArray) (k lo hi a:Nat):Bool × Nat:=(decide (a<many s lo hi k a),many s lo hi k a)
def dig (s:ByteArray) (a:Nat):Bool × Nat:=sev s 1 48 57 a
def let4 (s:ByteArray) (a:Nat):Bool × Nat:=sev s 4 97 122 a
def andP (f g:Nat→Bool × Nat) (a:Nat):Bool × Nat:=if (f a).1=true then g (f a).2 else (false,(f a).2)
def orP (f g:Nat→Bool × Nat) (a:Nat):Bool × Nat:=if (f a).1=true then (true,(f a).2) else g (f a).2
def ifP (f g h:Nat→Bool × Nat) (a:Nat):Bool × Nat:=if (f a).1=true then g (f a).2 else h (f a).2
def digs (s:ByteArray) (a:Nat):Bool × Nat:=if bt s a=48 then (false,a) else sev s 4 48 57 a
def numP (s:ByteArray) (a:Nat):Bool × Nat:=ifP (tk s 45) (digs s) (orP (tk s 48) (digs s)) a
def oneOf (s:ByteArray) (a:Nat):Bool × Nat:=if bt s a=60∨bt s a=61∨bt s a=33 then (true,a+1) else (false,a)
def operP (s:ByteArray) (a:Nat):Bool × Nat:=ifP (tk s 35) (numP s) (ifP (tk s 36) (let4 s) (dig s)) a
def colsP (s:ByteArray):Nat→Nat→Bool × Nat
 | 0,a=>andP (dig s) (tk s 93) a
 | k+1,a=>andP (dig s) (ifP (tk s 44) (colsP s k) (tk s 93)) a
def foldP (s:ByteArray) (a:Nat):Bool × Nat:=andP (tk s 91) (ifP (tk s 115) (andP (dig s) (tk s 93)) (andP (tk s 110) (tk s 93))) a
def kd (c:Nat):Nat:=if c=83 then 2 else if c=80 then 3 else if c=74 then 4 else if c=85 then 5 else if c=68 then 6 else if c=71 then 7 else if 97≤c∧c≤122 then 1 else 0
def ins (k:Nat):Nat:=if k=0∨k=1 then 0 else if k=4∨k=5 then 2 else 1
def selP (s:ByteArray) (a:Nat):Bool × Nat:=andP (tk s 83) (andP (tk s 91) (andP (dig s) (andP (oneOf s) (andP (operP s) (tk s 93))))) a
def pickP (s:ByteArray) (a:Nat):Bool × Nat:=andP (tk s 80) (andP (tk s 91) (colsP s 5)) a
def joinP (s:ByteArray) (a:Nat):Bool × Nat:=andP (tk s 74) (andP (tk s 91) (andP (dig s) (andP (tk s 61) (andP (dig s) (tk s 93))))) a
def groupP (s:ByteArray) (a:Nat):Bool × Nat:=andP (tk s 71) (andP (tk s 91) (andP (orP (tk s 93) (colsP s 5)) (foldP s))) a
def headP (s:ByteArray) (k a:Nat):Bool × Nat :=
 if k=1 then let4 s a else if k=2 then selP s a else if k=3 then pickP s a else if k=4 then joinP s a else if k=5 then tk s 85 a else if k=6 then tk s 68 a else if k=7 then groupP s a else (false,a)
def bE (x:Nat × Nat) (f:Nat→Nat × Nat):Nat × Nat:=if x.1=0 then f x.2 else x
def lf (p:Nat→Bool × Nat) (a:Nat):Nat × Nat:=(if (p a).1=true then 0 else 2,(p a).2)
def tailP (s:ByteArray) (q:Nat→Nat × Nat) (n c:Nat):Nat × Nat:=if n=2 then bE (lf (tk s 44) c) (fun d=>bE (q d) (lf (tk s 41))) else lf (tk s 41) c
def qP (s:ByteArray):Nat→Nat→Nat × Nat
 | 0,a=>bE (lf (headP s (kd (bt s a))) a) fun b=>if kd (bt s a)=1 then (0,b) else if bt s b=40 then (3,b) else (2,b)
 | f+1,a=>bE (lf (headP s (kd (bt s a))) a) fun b=>if kd (bt s a)=1 then (0,b) else if bt s b=40 then bE (qP s f (b+1)) (fun c=>tailP s (qP s f) (ins (kd (bt s a))) c) else (2,b)
def finP (s:ByteArray):List Nat→Nat × Nat→Nat × Nat
 | [],x=>x
 | n::st,x=>finP s st (bE x fun c=>tailP s (qP s (5-st.length)) n c)
def endP (s:ByteArray) (x:Nat × Nat):Nat × Nat:=bE x fun b=>if b<s.size then (2,b) else (0,b)
def whole (s:ByteArray):Nat × Nat:=endP s (qP s 6 0)
def chk (s:ByteArray):Nat × Nat :=
 if 120<s.size then (1,0) else if (whole s).1=0 then (if 2<cj s s.size then (4,0) else (0,0)) else whole s
theorem andP_true {f g:Nat→Bool × Nat} {a b:Nat} (h:f a=(true,b)):andP f g a=g b:=by unfold andP;rw [h];rfl
theorem andP_false {f g:Nat→Bool × Nat} {a b:Nat} (h:f a=(false,b)):andP f g a=(false,b):=by unfold andP;rw [h];rfl
theorem orP_true {f g:Nat→Bool × Nat} {a b:Nat} (h:f a=(true,b)):orP f g a=(true,b):=by unfold orP;rw [h];rfl
theorem orP_false {f g:Nat→Bool × Nat} {a b:Nat} (h:f a=(false,b)):orP f g a=g b:=by unfold orP;rw [h];rfl
theorem ifP_true {f g k:Nat→Bool × Nat} {a b:Nat} (h:f a=(true,b)):ifP f g k a=g b:=by unfold ifP;rw [h];rfl
theorem ifP_false {f g k:Nat→Bool × Nat} {a b:Nat} (h:f a=(false,b)):ifP f g k a=k b:=by unfold ifP;rw [h];rfl
theorem bt_lt {s:ByteArray} {a:Nat} (h:bt s a≠0):a<s.size:=by
 unfold bt at h;split at h
 ·assumption
 ·exact absurd rfl h
theorem bt_lt_256 (s:ByteArray) (a:Nat):bt s a<256:=by
 unfold bt;split
 ·exact UInt8.toNat_lt _
 ·omega
structure Good (s:ByteArray) (p:Nat→Bool × Nat):Prop where
 le:∀ a,a≤(p a).2
 size:∀ a,a≤s.size→(p a).2≤s.size
 noJ:∀ a,(p a).1=true→cj s (p a).2=cj s a
theorem tk_good {s:ByteArray} {c:Nat} (h0:c≠0) (hJ:c≠74):Good s (tk s c):=by
 refine ⟨fun a=> ?_,fun a ha=> ?_,fun a ha=> ?_⟩ <;> unfold tk at* <;> by_cases h:bt s a=c
 ·simp [h]
 ·simp [h]
 ·have:=bt_lt (s:=s) (a:=a) (by omega)
  simp [h];omega
 ·simp [h,ha]
 ·rw [if_pos h];simp [cj,h,hJ]
 ·rw [if_neg h] at ha;simp at ha
theorem many_in {s:ByteArray} {lo hi k a:Nat} (h:lo≤bt s a∧bt s a≤hi):many s lo hi (k+1) a=many s lo hi k (a+1):=by rw [many,if_pos h]
theorem many_out {s:ByteArray} {lo hi k a:Nat} (h:¬(lo≤bt s a∧bt s a≤hi)):many s lo hi (k+1) a=a:=by rw [many,if_neg h]
theorem many_le (s:ByteArray) (lo hi:Nat):∀ k a,a≤many s lo hi k a
 | 0,a=>Nat.le_refl a
 | k+1,a=>by unfold many;split;exact Nat.le_trans (Nat.le_succ a) (many_le s lo hi k (a+1));exact Nat.le_refl a
theorem many_size {s:ByteArray} {lo hi:Nat} (h0:0<lo):∀ k a,a≤s.size→many s lo hi k a≤s.size
 | 0,a,h=>h
 | k+1,a,h=>by
   unfold many;split
   ·rename_i hh;exact many_size h0 k (a+1) (bt_lt (s:=s) (by omega))
   ·exact h
theorem many_noJ {s:ByteArray} {lo hi:Nat} (hJ:74<lo∨hi<74):∀ k a,cj s (many s lo hi k a)=cj s a
 | 0,a=>rfl
 | k+1,a=>by
   unfold many;split
   ·rename_i hh;rw [many_noJ hJ k (a+1)];simp [cj];omega
   ·rfl
theorem sev_good {s:ByteArray} {k lo hi:Nat} (h0:0<lo) (hJ:74<lo∨hi<74):Good s (sev s k lo hi) :=
 ⟨fun a=>many_le s lo hi k a,fun a h=>many_size h0 k a h,fun a _=>many_noJ hJ k a⟩
theorem dig_good (s:ByteArray):Good s (dig s):=sev_good (by omega) (by omega)
theorem let4_good (s:ByteArray):Good s (let4 s):=sev_good (by omega) (by omega)
theorem andP_good {s:ByteArray} {f g:Nat→Bool × Nat} (hf:Good s f) (hg:Good s g):Good s (andP f g):=by
 refine ⟨fun a=> ?_,fun a ha=> ?_,fun a ha=> ?_⟩
 ·unfold andP;split;exact Nat.le_trans (hf.le a) (hg.le _);exact hf.le a
 ·unfold andP;split;exact hg.size _ (hf.size a ha);exact hf.size a ha
 ·unfold andP at ha ⊢
  by_cases h:(f a).1=true
  ·rw [if_pos h] at ha ⊢;rw [hg.noJ _ ha,hf.noJ _ h]
  ·rw [if_neg h] at ha;simp at ha
theorem ifP_good {s:ByteArray} {f g k:Nat→Bool × Nat} (hf:Good s f) (hg:Good s g) (hk:Good s k) (hn:∀ a,(f a).1=false→(f a).2=a):Good s (ifP f g k):=by
 refine ⟨fun a=> ?_,fun a ha=> ?_,fun a ha=> ?_⟩
 ·unfold ifP;split;exact Nat.le_trans (hf.le a) (hg.le _);exact Nat.le_trans (hf.le a) (hk.le _)
 ·unfold ifP;split;exact hg.size _ (hf.size a ha);exact hk.size _ (hf.size a ha)
 ·unfold ifP at ha ⊢
  by_cases h:(f a).1=true
  ·rw [if_pos h] at ha ⊢;rw [hg.noJ _ ha,hf.noJ _ h]
  ·rw [if_neg h] at ha ⊢;rw [hk.noJ _ ha,hn a (by simpa using h)]
theorem orP_good {s:ByteArray} {f g:Nat→Bool × Nat} (hf:Good s f) (hg:Good s g) (hn:∀ a,(f a).1=false→(f a).2=a):Good s (orP f g):=by
 refine ⟨fun a=> ?_,fun a ha=> ?_,fun a ha=> ?_⟩
 ·unfold orP;split;exact hf.le a;exact Nat.le_trans (hf.le a) (hg.le _)
 ·unfold orP;split;exact hf.size a ha;exact hg.size _ (hf.size a ha)
 ·unfold orP at ha ⊢
  by_cases h:(f a).1=true
  ·rw [if_pos h];exact hf.noJ _ h
  ·rw [if_neg h] at ha ⊢;rw [hg.noJ _ ha,hn a (by simpa using h)]
theorem tk_stays (s:ByteArray) (c a:Nat) (h:(tk s c a).1=false):(tk s c a).2=a:=by
 unfold tk at *;split at h;simp at h;rename_i hh;rw [if_neg hh]
theorem digs_good (s:ByteArray):Good s (digs s):=by
 have h:=sev_good (s:=s) (k:=4) (lo:=48) (hi:=57) (by omega) (by omega)
 refine ⟨fun a=> ?_,fun a ha=> ?_,fun a ha=> ?_⟩
 ·unfold digs;split;exact Nat.le_refl _;exact h.le a
 ·unfold digs;split;exact ha;exact h.size a ha
 ·unfold digs at ha ⊢;split at ha
  ·simp at ha
  ·rename_i hh;rw [if_neg hh];exact h.noJ a ha
theorem numP_good (s:ByteArray):Good s (numP s) :=
 ifP_good (tk_good (by omega) (by omega)) (digs_good s) (orP_good (tk_good (by omega) (by omega)) (digs_good s) (tk_stays s _)) (tk_stays s _)
theorem oneOf_good (s:ByteArray):Good s (oneOf s):=by
 refine ⟨fun a=> ?_,fun a ha=> ?_,fun a ha=> ?_⟩ <;> unfold oneOf at* <;> by_cases h:bt s a=60∨bt s a=61∨bt s a=33
 ·rw [if_pos h];simp
 ·rw [if_neg h];simp
 ·rw [if_pos h];exact bt_lt (s:=s) (by omega)
 ·rw [if_neg h];exact ha
 ·rw [if_pos h];simp [cj];omega
 ·rw [if_neg h] at ha;simp at ha
theorem operP_good (s:ByteArray):Good s (operP s) :=
 ifP_good (tk_good (by omega) (by omega)) (numP_good s) (ifP_good (tk_good (by omega) (by omega)) (let4_good s) (dig_good s) (tk_stays s _)) (tk_stays s _)
theorem colsP_good (s:ByteArray):∀ k,Good s (colsP s k)
 | 0=>andP_good (dig_good s) (tk_good (by omega) (by omega))
 | k+1=>andP_good (dig_good s) (ifP_good (tk_good (by omega) (by omega)) (colsP_good s k) (tk_good (by omega) (by omega)) (tk_stays s _))
theorem foldP_good (s:ByteArray):Good s (foldP s) :=
 andP_good (tk_good (by omega) (by omega)) (ifP_good (tk_good (by omega) (by omega)) (andP_good (dig_good s) (tk_good (by omega) (by omega))) (andP_good (tk_good (by omega) (by omega)) (tk_good (by omega) (by omega))) (tk_stays s _))
theorem kd_le (c:Nat):kd c≤7:=by unfold kd;repeat' split <;> try omega
theorem andP_tk_lt {s:ByteArray} {c:Nat} {g:Nat→Bool × Nat} (hg:∀ a,a≤(g a).2) {a:Nat} (h:(andP (tk s c) g a).1=true):a<(andP (tk s c) g a).2:=by
 unfold andP at *
 by_cases ht:bt s a=c
 ·have e:tk s c a=(true,a+1):=by unfold tk;rw [if_pos ht]
  rw [e];have:=hg (a+1);simp;omega
 ·have e:tk s c a=(false,a):=by unfold tk;rw [if_neg ht]
  rw [e] at h;simp at h
theorem headP_facts (s:ByteArray) (k a:Nat):a≤(headP s k a).2∧(a≤s.size→(headP s k a).2≤s.size)∧((headP s k a).1=true→a<(headP s k a).2)∧((headP s k a).1=true→cj s (headP s k a).2=cj s a+if k=4 then 1 else 0):=by
 have g91:∀ (p:Nat→Bool × Nat),Good s p→Good s (andP (tk s 91) p):=fun p hp=>andP_good (tk_good (by omega) (by omega)) hp
 have one:∀ (c:Nat) (g:Nat→Bool × Nat),c≠0→c≠74→Good s g→a≤(andP (tk s c) g a).2∧(a≤s.size→(andP (tk s c) g a).2≤s.size)∧((andP (tk s c) g a).1=true→a<(andP (tk s c) g a).2)∧((andP (tk s c) g a).1=true→cj s (andP (tk s c) g a).2=cj s a+0):=by
  intro c g h0 hJ hg;have h:=andP_good (tk_good (s:=s) h0 hJ) hg
  exact ⟨h.le a,h.size a,fun e=>andP_tk_lt hg.le e,fun e=>by rw [h.noJ a e];rfl⟩
 have bare:∀ c:Nat,c≠0→c≠74→a≤(tk s c a).2∧(a≤s.size→(tk s c a).2≤s.size)∧((tk s c a).1=true→a<(tk s c a).2)∧((tk s c a).1=true→cj s (tk s c a).2=cj s a+0):=by
  intro c h0 hJ;have h:=tk_good (s:=s) h0 hJ
  refine ⟨h.le a,h.size a,fun e=> ?_,fun e=>by rw [h.noJ a e];rfl⟩
  unfold tk at *;by_cases hc:bt s a=c
  ·rw [if_pos hc];simp
  ·rw [if_neg hc] at e;simp at e
 have gd:=dig_good s;unfold headP
 by_cases h1:k=1
 ·subst h1;rw [if_pos rfl];have h:=let4_good s
  refine ⟨h.le a,h.size a,fun e=> ?_,fun e=>by rw [h.noJ a e];rfl⟩
  simpa [let4,sev] using e
 rw [if_neg h1]
 by_cases h2:k=2
 ·subst h2;rw [if_pos rfl];exact one 83 _ (by omega) (by omega) (g91 _ (andP_good gd (andP_good (oneOf_good s) (andP_good (operP_good s) (tk_good (by omega) (by omega))))))
 rw [if_neg h2]
 by_cases h3:k=3
 ·subst h3;rw [if_pos rfl];exact one 80 _ (by omega) (by omega) (g91 _ (colsP_good s 5))
 rw [if_neg h3]
 by_cases h4:k=4
 ·subst h4;rw [if_pos rfl]
  have hg:Good s (andP (tk s 91) (andP (dig s) (andP (tk s 61) (andP (dig s) (tk s 93))))):=g91 _ (andP_good gd (andP_good (tk_good (by omega) (by omega)) (andP_good gd (tk_good (by omega) (by omega)))))
  unfold joinP
  by_cases hc:bt s a=74
  ·have e:tk s 74 a=(true,a+1):=by unfold tk;rw [if_pos hc]
   have hl:=bt_lt (s:=s) (a:=a) (by omega)
   rw [andP_true e];have q:=hg.le (a+1)
   refine ⟨by omega,fun _=>hg.size _ (by omega),fun _=>by omega,fun e1=> ?_⟩
   rw [hg.noJ _ e1];simp [cj,hc]
  ·have e:tk s 74 a=(false,a):=by unfold tk;rw [if_neg hc]
   rw [andP_false e];simp
 rw [if_neg h4]
 by_cases h5:k=5
 ·subst h5;rw [if_pos rfl];exact bare 85 (by omega) (by omega)
 rw [if_neg h5]
 by_cases h6:k=6
 ·subst h6;rw [if_pos rfl];exact bare 68 (by omega) (by omega)
 rw [if_neg h6]
 by_cases h7:k=7
 ·subst h7;rw [if_pos rfl];exact one 71 _ (by omega) (by omega) (g91 _ (andP_good (orP_good (tk_good (by omega) (by omega)) (colsP_good s 5) (tk_stays s _)) (foldP_good s)))
 rw [if_neg h7]
 simp
theorem finP_err {s:ByteArray}:∀ (st:List Nat) (x:Nat × Nat),x.1≠0→finP s st x=x
 | [],_,_=>rfl
 | n::st,x,h=>by unfold finP bE;rw [if_neg h];exact finP_err st x h
theorem qP_head_false {s:ByteArray} {f a b:Nat} (h:headP s (kd (bt s a)) a=(false,b)):qP s f a=(2,b):=by cases f <;> simp [qP,lf,h,bE]
theorem qP_table {s:ByteArray} {f a b:Nat} (h:headP s (kd (bt s a)) a=(true,b)) (hk:kd (bt s a)=1):qP s f a=(0,b):=by rw [hk] at h;cases f <;> simp [qP,lf,h,bE,hk]
theorem qP_shut {s:ByteArray} {f a b:Nat} (h:headP s (kd (bt s a)) a=(true,b)) (hk:kd (bt s a)≠1) (hb:bt s b≠40):qP s f a=(2,b):=by cases f <;> simp [qP,lf,h,bE,hk,hb]
theorem qP_deep {s:ByteArray} {a b:Nat} (h:headP s (kd (bt s a)) a=(true,b)) (hk:kd (bt s a)≠1) (hb:bt s b=40):qP s 0 a=(3,b):=by simp [qP,lf,h,bE,hk,hb]
theorem qP_open {s:ByteArray} {f a b:Nat} (h:headP s (kd (bt s a)) a=(true,b)) (hk:kd (bt s a)≠1) (hb:bt s b=40):qP s (f+1) a=bE (qP s f (b+1)) (fun c=>tailP s (qP s f) (ins (kd (bt s a))) c):=by rw [qP];simp [lf,h,bE,hk,hb]
theorem endP_err {s:ByteArray} {st:List Nat} {e b:Nat} (h:e≠0):endP s (finP s st (e,b))=(e,b):=by rw [finP_err st _ h];unfold endP bE;rw [if_neg h]
theorem finP_two_no {s:ByteArray} {st:List Nat} {c d:Nat} (h:tk s 44 c=(false,d)):endP s (finP s (2::st) (0,c))=(2,d):=by
 have:finP s (2::st) (0,c)=finP s st (2,d):=by simp [finP,bE,tailP,lf,h]
 rw [this,endP_err (by omega)]
theorem finP_two_yes {s:ByteArray} {st:List Nat} {c d:Nat} (h:tk s 44 c=(true,d)):finP s (2::st) (0,c)=finP s (1::st) (qP s (5-st.length) d):=by simp [finP,bE,tailP,lf,h]
theorem finP_one_no {s:ByteArray} {st:List Nat} {c d:Nat} (h:tk s 41 c=(false,d)):endP s (finP s (1::st) (0,c))=(2,d):=by
 have:finP s (1::st) (0,c)=finP s st (2,d):=by simp [finP,bE,tailP,lf,h]
 rw [this,endP_err (by omega)]
theorem finP_one_yes {s:ByteArray} {st:List Nat} {c d:Nat} (h:tk s 41 c=(true,d)):finP s (1::st) (0,c)=finP s st (0,d):=by simp [finP,bE,tailP,lf,h]
theorem ins_two {k:Nat} (h0:k≠0) (h1:k≠1):ins k=1∨ins k=2:=by unfold ins;rw [if_neg (by omega)];split;exact .inr rfl;exact .inl rfl
theorem sev_no {s:ByteArray} {k lo hi a:Nat} (h:¬(lo≤bt s a∧bt s a≤hi)):sev s (k+1) lo hi a=(false,a):=by
 unfold sev;rw [many_out h];simp
def fin (s:ByteArray) (e n k c:Nat):Nat:=if e=0∧0<n then many s 48 57 k c else c
theorem tk_in {s:ByteArray} {c a:Nat} (h:bt s a=c):tk s c a=(true,a+1):=by unfold tk;rw [if_pos h]
end Go.Proofs.YtdinjjmcmfjbfaaGreatDoor.Pl
