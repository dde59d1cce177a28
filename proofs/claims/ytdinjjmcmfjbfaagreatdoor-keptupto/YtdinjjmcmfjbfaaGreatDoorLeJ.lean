import Derived.Test.YtdinjjmcmfjbfaaGreatDoorQzJ
import Derived.Test.YtdinjjmcmfjbfaaGreatDoorNjJ
set_option maxRecDepth 100000
set_option maxHeartbeats 4000000
namespace Go.Proofs.YtdinjjmcmfjbfaaGreatDoor
open Go.RowKit
open Mo (V Row Opd Cmp Q)
def lastP:Fq→List Fq→Nat
 | f,[]=>f.P
 | _,g::r=>lastP g r
theorem lastP_top (f:Fq) (r:List Fq) (iv:Value) (ps:List Nat) (qs:List Q):lastP ⟨f.P,f.h,f.cs,f.lv,iv,ps,qs,f.a,f.b⟩ r=lastP f r:=by cases r <;> rfl
theorem stOf_top (f:Fq) (r:List Fq) (iv:Value) (ps:List Nat):stOf (⟨f.P,f.h,f.cs,f.lv,iv,ps,f.qs,f.a,f.b⟩::r)=stOf (f::r):=by cases r <;> rfl
theorem QI.small {s:ByteArray} {w:World} {N:Nat} {X:Nat→Prop} {ov:Value} {f:Fq} {r:List Fq} {c:Nat} (h:QI s w N X ov (f::r) c []):f.ps.length≤1:=by
 cases r with
 | nil=>obtain ⟨_,_,h3,_⟩:=h.stk;rw [h3];simp
 | cons g r =>
   obtain ⟨_,h2,h3,h4⟩:=Stk.kind h.stk
   simp at h4;omega
theorem kept_own {B P:Nat} {w wa w1:World} (h:Kept (·=B) w wa) (k:Kept (fun k=>k=B∨k=P) wa w1) (hP:w.heap.size≤P):Kept (·=B) w w1 :=
 h.trans k (fun _ e=>e) (fun i hi e=>by rcases e with e | e;exact e;omega)
theorem app_step {B:Nat} {s:ByteArray} {w w3 w4:World} {X:Nat→Prop} {ov:Value} {f:Fq} {r:List Fq} {c a Pn:Nat} {hd:Hd} {cs:List Nat} {lv:Value} {ob:Obj} {gi capi:Nat} (hB:B<w.heap.size)
 (hQ:QI s w3 w.heap.size X ov (f::r) c []) (hN:NewP w3 w.heap.size X (f::r) Pn hd cs lv) (hP:RP B s a w3) (hK:Kept (·=B) w w3)
 (hown:w4.ownsRow w.heap.size 69 1 (.slice (some ⟨gi,0,none⟩) (f.ps.length+1) capi) (f.ps.length+1) (f.ps.map pV++[pV Pn])) (hg:(w3.alloc ob).grownBy w4 f.iv.ownBlock) (hat:f.iv.ownBlock=some gi∨gi=w3.heap.size+1) :
 ∃ f5,QI s (w4.setCell ⟨f.P,28,none⟩ (.slice (some ⟨gi,0,none⟩) (f.ps.length+1) capi)) w.heap.size X ov (f5::r) c [Pn]∧NewP (w4.setCell ⟨f.P,28,none⟩ (.slice (some ⟨gi,0,none⟩) (f.ps.length+1) capi)) w.heap.size X (f5::r) Pn hd cs lv ∧
   RP B s a (w4.setCell ⟨f.P,28,none⟩ (.slice (some ⟨gi,0,none⟩) (f.ps.length+1) capi))∧Kept (·=B) w (w4.setCell ⟨f.P,28,none⟩ (.slice (some ⟨gi,0,none⟩) (f.ps.length+1) capi))∧stOf (f5::r)=stOf (f::r)∧lastP f5 r=lastP f r:=by
 have hf:=Stk.frames hQ.stk f (by simp)
 have hfo:∀ b,f.iv.ownBlock=some b→w.heap.size≤b:=own_base hf.2.2.2
 have hk4:Kept (MS f) w3 w4:=((Kept.refl (MS f) w3).alloc _).grown hg (fun r hr=>.inr (.inr hr))
 have hk5:Kept (MS f) w3 (w4.setCell ⟨f.P,28,none⟩ (.slice (some ⟨gi,0,none⟩) (f.ps.length+1) capi)):=hk4.setCell (.inr (.inl rfl)) _
 have hP4:w4.heap[f.P]? =some (.cells (partC f.h f.lv f.iv) 139 (0,0)):=by
  refine (hg.block f.P (by have:=lt_of_heap hf.1;simp;omega) (fun e=>not_cells tPP hf.2.2.2 hf.1 e.symm)).trans ?_
  exact (Below.heap_alloc _ _ _ (lt_of_heap hf.1)).trans hf.1
 have hgP:gi≠f.P:=fun e=>by
  subst e;exact not_cells tPP hown hP4 rfl
 refine ⟨⟨f.P,f.h,f.cs,f.lv,.slice (some ⟨gi,0,none⟩) (f.ps.length+1) capi,f.ps++[Pn],f.qs,f.a,f.b⟩,?_,?_,⟨hP.1,?_⟩,?_,stOf_top _ _ _ _,lastP_top _ _ _ _ _⟩
 ·refine hQ.app hk5 ?_ ?_ ?_
  ·rw [heap_set hP4];rfl
  ·refine ownsRow_kept (S:=(fun k=>k=f.P)) hown ((Kept.refl (fun k=>k=f.P) w4).setCell (g:=f.P) (.inr rfl) _) (fun b hb=> ?_)
   simp [Value.ownBlock] at hb;omega
  ·intro b hb
   simp [Value.ownBlock] at hb
   subst hb
   rcases hat with e | e
   ·exact .inl e
   ·exact .inr (by omega)
 ·exact NewP.app hQ hN hk5
 ·refine (hk5.block B (lt_of_heap hP.2) (fun e=> ?_)).trans hP.2
  rcases e with e | e
  ·have:=hf.2.1;omega
  ·have:=hfo B e;omega
 ·refine hK.trans hk5 (fun _ e=>e) (fun i hi e=> ?_)
  rcases e with e | e
  ·have:=hf.2.1;omega
  ·have:=hfo i e;omega
theorem push_step {B:Nat} {s:ByteArray} {w w3 w4:World} {X:Nat→Prop} {ov:Value} {f:Fq} {r:List Fq} {c a b Pn:Nat} {hd:Hd} {cs:List Nat} {lv:Value} {ob:Obj} {gi capi:Nat} (hB:B<w.heap.size)
 (hQ:QI s w3 w.heap.size X ov (f::r) c [Pn]) (hN:NewP w3 w.heap.size X (f::r) Pn hd cs lv) (hP:RP B s a w3) (hK:Kept (·=B) w w3) (hl:r.length≤5) (hFS:FS s (5-r.length) ⟨Pn,hd,cs,lv,sN,[],[],c,b⟩ (b+1))
 (hown:w4.ownsRow w.heap.size 69 1 (.slice (some ⟨gi,0,none⟩) (r.length+1+1) capi) (r.length+1+1) (((f::r).map (·.P)).reverse.map pV++[pV Pn])) (hg:(w3.alloc ob).grownBy w4 ov.ownBlock) (hat:ov.ownBlock=some gi∨gi=w3.heap.size+1) :
 QI s w4 w.heap.size X (.slice (some ⟨gi,0,none⟩) (r.length+1+1) capi) (⟨Pn,hd,cs,lv,sN,[],[],c,b⟩::f::r) (b+1) []∧RP B s a w4∧Kept (·=B) w w4:=by
 have hov:∀ b,ov.ownBlock=some b→w.heap.size≤b:=own_base hQ.list
 have hk4:Kept (fun k=>ov.ownBlock=some k) w3 w4:=((Kept.refl _ w3).alloc _).grown hg (fun r hr=>.inr hr)
 refine ⟨hQ.push hN hk4 hown (fun b hb=> ?_) (by simp;omega) hFS,⟨hP.1,(hk4.block B (lt_of_heap hP.2) (fun e=> ?_)).trans hP.2⟩,hK.trans hk4 (fun _ e=>e) (fun i hi e=> ?_)⟩
 ·simp [Value.ownBlock] at hb
  subst hb
  rcases hat with e | e
  ·exact .inl e
  ·exact .inr (by omega)
 ·have:=hov B e;omega
 ·have:=hov i e;omega
theorem query_any (B:Nat) (s:ByteArray) (w:World) (hs:s.size≤120) (h:RP B s 0 w) :
 Calls Tryz.prog 61 #[.pointer (some ⟨B,0,none⟩)] w (QueryEnd B s w):=by
 have HH:=hid h;have hBl:=lt_of_heap h.2
 have hs':s.size≤1000:=by omega
 obtain ⟨ip,hip,hz0,hz1,hz2⟩:=info_parts infoP;clear h
 go_enter Tryz.func61,Tryz.ntmps61
 go_wp2_with fail
 try go_step3
 go_wp2_with fail
 try go_step3
 go_wp2_with fail
 go_loopg [5] (s.size) (fun k v5 wr=>∃ (f:Fq) (r:List Fq) (X:Nat→Prop) (c:Nat),k+c=s.size∧r.length≤6∧Hid (QI s wr w.heap.size X v5 (f::r) c [])∧Hid (RP B s c wr)∧Hid (Kept (·=B) w wr)∧Hid (Pl.endP s (Pl.finP s (stOf (f::r)) (Pl.qP s (6-r.length) c))=Pl.whole s)∧Hid (lastP f r=w.heap.size))
 case atStart =>
  refine ⟨_,[],_,0,rfl,by simp,QI.start s w,⟨by omega,?_⟩,((Kept.refl _ _).alloc _).alloc _,rfl,rfl⟩
  exact (Below.heap_alloc _ _ _ (by rw [size_alloc1];omega)).trans ((Below.heap_alloc _ _ _ hBl).trans HH.out.2)
 case round =>
  obtain ⟨f,r,X,c,hk,hr6,hQ,hp,hK,hE,hL⟩:=hrel;go_wp2_with fail;refine (next_any B s c _ hs' hp.out).mono ?_;rintro e w1 ⟨rfl,p1,f1⟩
  have Q1:Hid (QI s w1 w.heap.size X _ (f::r) c []):=hQ.out.keep f1 (fun j e=>.inl (by omega))
  have P1:=hid p1
  have K1:Hid (Kept (·=B) w w1):=hK.out.seq f1
  clear p1 f1;go_wp2_with fail;refine (kindOf_any (Pl.bt s c) _).mono ?_;rintro e w2 ⟨rfl,rfl⟩;have hkd:=Pl.kd_le (Pl.bt s c);have hN2:=K1.out.size;have hB2:B<w2.heap.size:=lt_of_heap P1.out.2;obtain ⟨kk,hkk⟩:∃ kk,Pl.kd (Pl.bt s c)=kk:=⟨_,rfl⟩;rw [hkk] at hkd;have HR2:Hid (RP B s c (w2.alloc (.cells (partC ⟨kk,[],0,zO,zO,zO⟩ sN sN) 139))):=⟨P1.out.1,(Below.heap_alloc _ _ _ hB2).trans P1.out.2⟩
  have HC:=hid (head_any B w2.heap.size kk hkd s c _ hs' (by omega) HR2.out (heap_alloc_last _ _))
  rw [hkk];have HKK:=hid hkk;clear hkk;go_wp2_with fail;refine HC.out.mono ?_;rintro e w3 ⟨ok3,a3,d3,x3,rfl,p3,k3,c3,hd3,he3⟩
  have hk23:Kept (fun k=>k=B∨k=w2.heap.size) w2 w3:=((Kept.refl _ w2).alloc _).seq k3
  have Q3:Hid (QI s w3 w.heap.size X _ (f::r) c []):=Q1.out.keep hk23 (fun j e=>by rcases e with e | e;exact .inl (by omega);exact .inr (by omega))
  have K3:Hid (Kept (·=B) w w3):=kept_own K1.out hk23 hN2
  have P3:=hid p3
  have X3:Hid (Pl.headP s (Pl.kd (Pl.bt s c)) c=(ok3,a3)):=by show _=_;rw [HKK.out];exact x3
  have hfacts:=Pl.headP_facts s kk c;rw [x3] at hfacts
  cases ok3
  ·have HX:Hid (Pl.whole s=(2,a3)):=by show _=_;rw [←hE.out,Pl.qP_head_false X3.out,Pl.endP_err (by omega)]
   clear x3 p3 k3 c3 hd3 he3 hfacts hk23 HC;go_wp2_with fail
   try rw [Exit.noGoto_ret]
   go_ret2
   exact QueryEnd.bad (n:=2) (by omega) HX.out P3.out K3.out
  obtain ⟨lv,hd3e,ho3⟩:=he3 rfl;have hlt:c<a3:=hfacts.2.2.1 rfl;have ha3:=p3.1
  have hn3:NewP w3 w.heap.size X (f::r) w2.heap.size (hdV s kk c) (hcs s kk c) lv:=by
   have hF2:=Stk.frames Q1.out.stk
   have hlvb:∀ b,lv.ownBlock=some b→w2.heap.size+1≤b:=fun b hb=>by have:=own_base ho3 b hb;rw [size_alloc1] at this;exact this
   refine ⟨by rw [c3,hd3e],hN2,owns_weak ho3 (by rw [size_alloc1];omega),fun e=> ?_,fun b hb e=> ?_,fun g hg e=> ?_,fun g hg b hb e=> ?_⟩
   ·have:=(Q1.out.own _ e).2;omega
   ·have:=(Q1.out.own _ e).2;have:=hlvb b hb;omega
   ·have:=lt_of_heap (hF2 g hg).1;omega
   ·have:=owns_lt (hF2 g hg).2.2.1 b e;have:=hlvb b hb;omega
  have N3:=hid hn3;clear x3 p3 k3 c3 hd3 he3 hfacts hk23 HC hn3 ho3 hd3e HR2;obtain ⟨gb,cap,cur,rfl,hgb,hcur,hcap,hNg⟩:=Q3.out.top
  have hf3:=Stk.frames Q3.out.stk f (by simp)
  have hsm:=Q3.out.small
  have o1:w3.cell? ⟨gb,r.length,none⟩=some (.pointer (some ⟨f.P,0,none⟩)):=by rw [cell_of hgb];exact hcur
  have o2:w3.cell? ⟨f.P,28,none⟩=some f.iv:=by rw [cell_of hf3.1];rfl
  have z2:w3.frozen? ⟨f.P,28,none⟩=false:=frozen_of hf3.1 _
  have hl0:(0:Int)≤(r.length:Int):=by omega
  have hl1:(r.length:Int)<(r.length:Int)+1:=by omega
  have hfP:f.P<w3.heap.size:=lt_of_heap hf3.1
  have hPf:some f.P≠f.iv.ownBlock:=fun e=>not_cells tPP hf3.2.2.2 hf3.1 e.symm
  have HO3:=hid hf3.2.2.2;have hw3:=K3.out.size;obtain ⟨fP,hfPe⟩:∃ fP,f.P=fP:=⟨_,rfl⟩;obtain ⟨fiv,hfive⟩:∃ fiv,f.iv=fiv:=⟨_,rfl⟩;have HF3:=hid hf3;rw [hfPe] at o1 o2 z2 hfP hPf;rw [hfive] at o2 hPf HO3;have HFP:=hid hfPe;have HFI:=hid hfive;obtain ⟨Pn,hPn⟩:∃ Pn,w2.heap.size=Pn:=⟨_,rfl⟩;have HPN:=hid hPn;rw [hPn];rw [hPn] at N3
  have o3:w3.cell? ⟨Pn,0,none⟩=some (.int .i64 (kk:Int)):=by rw [cell_of N3.out.cell];show some (Value.int .i64 ((hdV s kk c).k:Int))=_;rw [hdV_k]
  have hPl3:Pn<w3.heap.size:=lt_of_heap N3.out.cell
  have hPnI:some Pn≠fiv.ownBlock:=fun e=>not_cells tPP HO3.out N3.out.cell e.symm
  have hPnF:¬Pn=fP:=fun e=>N3.out.ne f (by simp) (HFP.out.trans e.symm)
  have step:Hid (∀ (gi capi:Nat) (w4:World),w4.ownsRow w.heap.size 69 1 (.slice (some ⟨gi,0,none⟩) (f.ps.length+1) capi) (f.ps.length+1) (f.ps.map pV++[pV Pn])→(w3.alloc (.cells #[pV Pn] 69)).grownBy w4 fiv.ownBlock→(fiv.ownBlock=some gi∨gi=w3.heap.size+1) →
   ∃ f5,QI s (w4.setCell ⟨fP,28,none⟩ (.slice (some ⟨gi,0,none⟩) (f.ps.length+1) capi)) w.heap.size X (.slice (some ⟨gb,0,none⟩) (r.length+1) cap) (f5::r) c [Pn]∧NewP (w4.setCell ⟨fP,28,none⟩ (.slice (some ⟨gi,0,none⟩) (f.ps.length+1) capi)) w.heap.size X (f5::r) Pn (hdV s kk c) (hcs s kk c) lv ∧
     RP B s a3 (w4.setCell ⟨fP,28,none⟩ (.slice (some ⟨gi,0,none⟩) (f.ps.length+1) capi))∧Kept (·=B) w (w4.setCell ⟨fP,28,none⟩ (.slice (some ⟨gi,0,none⟩) (f.ps.length+1) capi))∧stOf (f5::r)=stOf (f::r)∧lastP f5 r=lastP f r):=by
   intro gi capi w4 h1 h2 h3
   have:=app_step (gi:=gi) (capi:=capi) (w4:=w4) (ob:=.cells #[pV Pn] 69) hBl Q3.out N3.out P3.out K3.out h1 (by rw [HFI.out];exact h2) (by rw [HFI.out];exact h3)
   rw [HFP.out] at this;exact this
  obtain ⟨np,hnp⟩:∃ np,f.ps.length=np:=⟨_,rfl⟩
  have HOW:Hid (w3.ownsRow w.heap.size 69 1 fiv np (f.ps.map pV)):=by show World.ownsRow _ _ _ _ _ _ _;rw [←hnp];exact HO3.out
  have HNP:=hid hnp;rw [hnp] at hsm;rw [hnp] at step;clear hgb hcur hf3 hfPe hfive hPn hnp HO3 Q3 N3
  by_cases hk1:kk=1
  ·have hb1:((kk:Int) != 1)=false:=by simp [hk1]
   go_wp2_with (first | (at_builtin;refine wpList_append_lies _ (by rfl) _ _ _ (by rfl) w.heap.size 69 ip (.pointer none) 1 8 Tryz.underlying137 hip hz0 hz1 hz2 rfl (by decide) fiv np (f.ps.map pV) (by rfl) (HOW.out.alloc _) ⟨w3.heap.size,0,none⟩ 1 1 [pV Pn] (by rfl) rfl (World.news_of_block (cs:=#[pV Pn]) (heap_alloc_last w3 _)) (by intro u hu;simp at hu;subst hu;rfl) (by decide) (by unfold maxLen;omega) (by omega) (by rw [size_alloc1];omega) (w3.heap.size+1) (by simp) ?_;intro gi capi w4 hown4 hg4 hat4 hlt4;have s5:w4.cell? ⟨fP,28,none⟩=some fiv:=(hg4.cell_far _ (by simp;omega) hPf).trans ((World.cell?_alloc_past _ _ _ hfP).trans o2);have f5:w4.frozen? ⟨fP,28,none⟩=false:=(hg4.frozen_far _ (by simp;omega) hPf).trans ((World.frozen?_alloc_past _ _ _ hfP).trans z2);have s6:w4.cell? ⟨Pn,0,none⟩=some (.int .i64 (kk:Int)):=(hg4.cell_far _ (by simp;omega) hPnI).trans ((World.cell?_alloc_past _ _ _ hPl3).trans o3)) | fail)
   obtain ⟨f5x,Q5,N5,P5,K5,hst5,hla5⟩:=step.out gi capi w4 hown4 hg4 hat4;generalize w4.setCell ⟨fP,28,none⟩ (.slice (some ⟨gi,0,none⟩) (np+1) capi)=w5 at Q5 N5 P5 K5 ⊢
   obtain ⟨Q5t,T5⟩:=Q5.tab N5 (by rw [hdV_k];exact hk1)
   have HQ5:=hid Q5t;have HT5:=hid T5;have HP5:=hid P5;have HK5:=hid K5
   have hE2:Hid (Pl.endP s (Pl.finP s (stOf (f5x::r)) (0,a3))=Pl.whole s):=by show _=_;rw [hst5,←hE.out,Pl.qP_table X3.out (by rw [HKK.out];exact hk1)]
   have HL5:Hid (lastP f5x r=w.heap.size):=hla5.trans hL.out
   have HR5:Hid (Rq s (6-r.length) c a3 (mkQ (hdV s kk c) (hcs s kk c) [])):=by
    rw [hk1];have h1:=HKK.out;have h2:=X3.out;rw [h1,hk1] at h2;rw [hk1] at h1;exact .tab h1 h2
   clear s5 f5 s6 hown4 hg4 hat4 hlt4 step o1 o2 o3 z2 hPf hPnI Q5 N5 K5 P5 hst5 hla5 HOW Q5t T5 hE hL hb1 hk1;obtain ⟨gko,hgko⟩:∃ g:Nat,g=gk:=⟨_,rfl⟩;rw [←hgko] at hk;have Hgk:=hid hgko;clear hgko
   go_loopg [5] (r.length) (fun k v5 wi=>∃ (f1:Fq) (r1:List Fq) (X1:Nat→Prop) (cst c1 p1:Nat) (q1:Q),Hid (k=r1.length)∧c<c1∧r1.length≤6∧Hid (QI s wi w.heap.size X1 v5 (f1::r1) cst [p1])∧Hid (Tr wi X1 p1 q1)∧Hid (Rq s (6-r1.length) cst c1 q1)∧Hid (RP B s c1 wi)∧Hid (Kept (·=B) w wi)∧Hid (Pl.endP s (Pl.finP s (stOf (f1::r1)) (0,c1))=Pl.whole s)∧Hid (lastP f1 r1=w.heap.size))
   case atStart=>exact ⟨f5x,r,_,c,a3,Pn,_,rfl,hlt,hr6,HQ5,HT5,HR5,HP5,HK5,hE2,HL5⟩
   case round =>
    obtain ⟨f1,r1,X1,cst,c1,p1,q1,hkr,hlt1,hr1,hQ1,hT1,hR1,hp1,hK1,hE1,hL1⟩:=hrel;obtain ⟨gb1,cap1,cur1,rfl,hgb1,hcur1,hcap1,hNg1⟩:=hQ1.out.top;have hc1:=hp1.out.1
    cases r1 with
    | nil =>
      obtain ⟨hfA,hfh,hfp,hfq,rfl⟩:=hQ1.out.stk;have hfP1:Hid (f1.P=w.heap.size):=hL1.out
      have hiv:∃ gi ci cu,f1.iv=.slice (some ⟨gi,0,none⟩) 1 ci∧wr.heap[gi]? =some (.cells cu 69 (0,0))∧cu[0]? =some (pV p1):=by
       have ho:=hfA.2.2.2;rw [hfp] at ho
       rcases ho.2 with ⟨_,h0⟩ | ⟨gi,ci,cu,e,hb,hg,h1,h2,h3,h4⟩
       ·simp at h0
       ·refine ⟨gi,ci,cu,e,hg,?_⟩
        have h5:(List.map pV [p1])[0]? =some (pV p1):=rfl;rw [←h4,List.getElem?_take] at h5
        split at h5
        ·rw [←Array.getElem?_toList];exact h5
        ·cases h5
      obtain ⟨gi1,ci1,cu1,hive,hgi1,hcu1⟩:=hiv
      have o1:wr.cell? ⟨w.heap.size,28,none⟩=some (.slice (some ⟨gi1,0,none⟩) 1 ci1):=by rw [←hfP1.out,cell_of hfA.1];show some f1.iv=_;rw [hive]
      have o2:wr.cell? ⟨gi1,0,none⟩=some (.pointer (some ⟨p1,0,none⟩)):=by rw [cell_of hgi1];exact hcu1
      have l1:w.heap.size<wr.heap.size:=by rw [←hfP1.out];exact lt_of_heap hfA.1
      have l2:gi1<wr.heap.size:=lt_of_heap hgi1;have HQ1:=hid hQ1.out.own;clear hgb1 hcur1 hcap1 hfA hfh hfp hfq hive hgi1 hcu1;go_wp2_with fail;refine (ended_any B s c1 _ hp1.out).mono ?_;rintro e w7 ⟨rfl,hk7⟩
      have p7:w7.cell? ⟨w.heap.size,28,none⟩=some (.slice (some ⟨gi1,0,none⟩) 1 ci1):=(hk7.cell l1 (fun z=>z)).trans o1
      have p8:w7.cell? ⟨gi1,0,none⟩=some (.pointer (some ⟨p1,0,none⟩)):=(hk7.cell l2 (fun z=>z)).trans o2
      have HP7:Hid (RP B s c1 w7):=⟨hp1.out.1,(hk7.block B (lt_of_heap hp1.out.2) (fun z=>z)).trans hp1.out.2⟩
      have HK7:Hid (Kept (·=B) w w7):=hK1.out.seqNo hk7
      have HT7:Hid (Tr w7 X1 p1 q1):=hT1.out.mono (fun k hk=>hk7.block k (HQ1.out k hk).2 (fun z=>z)) (fun _ e=>e)
      have HX7:Hid (∀ k,X1 k→w.heap.size≤k∧k<w7.heap.size):=fun k hk=>⟨(HQ1.out k hk).1,Nat.lt_of_lt_of_le (HQ1.out k hk).2 hk7.size⟩
      clear o1 o2 hk7
      by_cases hend:c1=s.size
      ·have hd:decide (c1=s.size)=true:=by simp [hend]
       rw [hd]
       have HX:Hid (Pl.whole s=(0,c1)):=by show _=_;rw [←hE1.out];simp [stOf,Pl.finP,Pl.endP,Pl.bE,hend]
       have HC1:=hid hend;clear hend hd;go_wp2_with fail
       try rw [Exit.noGoto_ret]
       go_ret2
       refine ⟨by rw [HX.out];exact HP7.out,HK7.out,.inr ⟨by rw [HX.out],p1,X1,q1,rfl,HT7.out,HX7.out,?_⟩⟩
       have:=hR1.out
       rw [HC1.out] at this;exact this
      ·have hd:decide (c1=s.size)=false:=by simp [hend]
       rw [hd]
       have HX:Hid (Pl.whole s=(2,c1)):=by
        show _=_;rw [←hE1.out]
        have:c1<s.size:=by omega
        simp [stOf,Pl.finP,Pl.endP,Pl.bE,this]
       clear hend hd;go_wp2_with fail
       try rw [Exit.noGoto_ret]
       go_ret2
       exact QueryEnd.bad (n:=2) (by omega) HX.out HP7.out HK7.out
    | cons g1 r2 =>
      obtain ⟨hk7,hi12,hqi,hpl⟩:=Stk.kind hQ1.out.stk
      have hfA:=Stk.frames hQ1.out.stk f1 (by simp)
      have hlist:=hQ1.out.list;obtain ⟨gi1,hgi⟩:∃ v,f1.iv=v:=⟨_,rfl⟩
      have hsl:∃ ad ci,f1.iv=.slice ad f1.ps.length ci:=by
       rcases hfA.2.2.2.2 with ⟨e,h0⟩ | ⟨gi,ci,cu,e,_⟩
       ·rw [h0];exact ⟨_,_,e⟩
       ·exact ⟨_,_,e⟩
      obtain ⟨ad,ci,hive⟩:=hsl
      have o1:wr.cell? ⟨gb1,r2.length+1,none⟩=some (.pointer (some ⟨f1.P,0,none⟩)):=by rw [cell_of hgb1];exact hcur1
      have o2:wr.cell? ⟨f1.P,28,none⟩=some (.slice ad (f1.qs.length+1) ci):=by rw [cell_of hfA.1];show some f1.iv=_;rw [hive,hpl];rfl
      have o3:wr.cell? ⟨f1.P,0,none⟩=some (.int .i64 (f1.h.k:Int)):=by rw [cell_of hfA.1];rfl
      have hr2:r2.length≤5:=by simp only [List.length_cons] at hr1;omega
      obtain ⟨n2,hn2⟩:∃ n,r2.length+1=n:=⟨_,rfl⟩
      rw [show (g1::r2).length=n2 from hn2]
      rw [hn2] at o1;have HN2:=hid hn2
      have hn20:(0:Int)≤(n2:Int):=by omega
      have hn21:(n2:Int)<(n2:Int)+1:=by omega
      have hn22:((n2:Int) == 0)=false:=by simp;omega
      have hn23:(n2:Int)≤(cap1:Int):=by simp only [List.length_cons] at hcap1;omega
      have hn26:n2≤6:=by omega
      obtain ⟨fP1,hfP1⟩:∃ v,f1.P=v:=⟨_,rfl⟩;obtain ⟨kq,hkq⟩:∃ v,f1.h.k=v:=⟨_,rfl⟩;obtain ⟨nq,hnq⟩:∃ v,f1.qs.length=v:=⟨_,rfl⟩;rw [hfP1] at o1 o2 o3;rw [hkq] at o3 hk7 hi12 hqi;rw [hnq] at o2 hqi;have HF:=hid (And.intro hfP1 (And.intro hkq hnq));clear hgb1 hcur1 hcap1 hfA hive hgi gi1 hlist hfP1 hkq hnq hpl hn2;go_wp2_with fail
      go_region_held3 (fun w'=>w'.cell? ⟨gb1,n2,none⟩=some (.pointer (some ⟨fP1,0,none⟩))∧w'.cell? ⟨fP1,28,none⟩=some (.slice ad (nq+1) ci)∧w'.cell? ⟨fP1,0,none⟩=some (.int .i64 (kq:Int))) (go_keep)
       (first
         | (go_at_call 103
            refine (inputs_any kq hk7 _).mono ?_;rintro e w7 ⟨rfl,hw7⟩;subst hw7;have e1:wr.drew.cell? ⟨gb1,n2,none⟩=some (.pointer (some ⟨fP1,0,none⟩)):=o1;have e2:wr.drew.cell? ⟨fP1,28,none⟩=some (.slice ad (nq+1) ci):=o2
            have e3:wr.drew.cell? ⟨fP1,0,none⟩=some (.int .i64 (kq:Int)):=o3))
      obtain ⟨w7,hw7⟩:∃ w7,wr.drew=w7:=⟨_,rfl⟩;rw [hw7]
      have hk17:Kept No wr w7:=by rw [←hw7];exact (Kept.refl No wr).drew
      have HQ7:Hid (QI s w7 w.heap.size X1 (.slice (some ⟨gb1,0,none⟩) (r2.length+2) cap1) (f1::g1::r2) cst [p1]):=by
       have h1:=hQ1.out.keep hk17 (fun j e=>e.elim)
       have e2:(g1::r2).length+1=r2.length+2:=rfl;rw [e2] at h1;exact h1
      have HT7:Hid (Tr w7 X1 p1 q1):=hT1.out.mono (fun k hk=>hk17.block k (hQ1.out.own k hk).2 (fun z=>z)) (fun _ e=>e)
      have HP7:Hid (RP B s c1 w7):=⟨hp1.out.1,(hk17.block B (lt_of_heap hp1.out.2) (fun z=>z)).trans hp1.out.2⟩
      have HK7:Hid (Kept (·=B) w w7):=hK1.out.seqNo hk17
      have HR7:Hid (Rq s (5-r2.length) cst c1 q1):=by
       have h1:=hR1.out
       rw [show 6-(g1::r2).length=5-r2.length by simp only [List.length_cons];omega] at h1
       exact h1
      clear o1 o2 o3 e1 e2 e3 hk17 hw7 hQ1 hT1 hp1 hK1 hR1
      have hstc:Hid (stOf (f1::g1::r2)=(Pl.ins kq-nq)::stOf (g1::r2)):=by show _=_;simp only [stOf];rw [HF.out.2.1,HF.out.2.2]
      by_cases hcm:nq+1<Pl.ins kq
      ·have hcm':(nq:Int)+1<(Pl.ins kq:Int):=by omega
       have hst2:Hid (stOf (f1::g1::r2)=2::stOf (g1::r2)):=by show _=_;rw [hstc.out,show Pl.ins kq-nq=2 by omega]
       have HCM:Hid (f1.qs.length+1<Pl.ins f1.h.k):=by show _<_;rw [HF.out.2.1,HF.out.2.2];exact hcm
       clear hcm hstc;go_wp2_with fail
       refine (take_any B s c1 44 44 _ hs' (by omega) rfl HP7.out).mono ?_
       rintro e w8 ⟨ok8,a8,x8,rfl,p8,f8⟩;have P8:=hid p8;have X8:=hid x8
       have HK8:Hid (Kept (·=B) w w8):=HK7.out.seq f8
       cases ok8
       ·have HX:Hid (Pl.whole s=(2,a8)):=by show _=_;rw [←hE1.out,hst2.out,Pl.finP_two_no X8.out]
        clear x8 p8 f8;go_wp2_with fail
        try rw [Exit.noGoto_ret]
        go_ret2
        exact QueryEnd.bad (n:=2) (by omega) HX.out P8.out HK8.out
       ·rcases tk_at x8 with ⟨_,hb8,rfl⟩ | ⟨e,_⟩
        case inr=>cases e
        have HQ8:Hid (QI s w8 w.heap.size X1 (.slice (some ⟨gb1,0,none⟩) (r2.length+2) cap1) (f1::g1::r2) cst [p1]):=HQ7.out.keep f8 (fun j e=>.inl (by omega))
        have HT8:Hid (Tr w8 X1 p1 q1):=HT7.out.mono (fun k hk=>f8.block k (HQ7.out.own k hk).2 (fun z=>by have:=(HQ7.out.own k hk).1;omega)) (fun _ e=>e)
        have HQ9:=hid (HQ8.out.comma HT8.out HR7.out hb8 HCM.out);have ha8:=P8.out.1
        have HE8:Hid (Pl.endP s (Pl.finP s (1::stOf (g1::r2)) (Pl.qP s (5-r2.length) (c1+1)))=Pl.whole s):=by
         show _=_
         rw [←hE1.out,hst2.out,Pl.finP_two_yes X8.out,stOf_len]
        have hn22':r2.length+2=n2+1:=by have:=HN2.out;omega
        have HQA:Hid (QI s w8 w.heap.size X1 (.slice (some ⟨gb1,0,none⟩) (n2+1) cap1) ({ f1 with qs:=f1.qs++[q1] }::g1::r2) (c1+1) []):=by
         have h1:=HQ9.out;rw [hn22'] at h1;exact h1
        clear x8 p8 f8 hb8 HQ8 HT8 hn22' HQ9;go_wp2_with fail;go_roundg (s.size-(c1+1))
        case measure=>have:=Hgk.out;omega
        case rel =>
         refine ⟨{ f1 with qs:=f1.qs++[q1] },g1::r2,X1,c1+1,by omega,hr1,HQA,P8,HK8,?_,?_⟩
         ·show _=_
          rw [←HE8.out]
          have e1:Pl.ins f1.h.k-(f1.qs++[q1]).length=1:=by
           have h1:=hst2.out;simp only [stOf,List.cons.injEq] at h1;rw [List.length_append];simp only [List.length_cons,List.length_nil];omega
          simp only [stOf,e1,List.length_cons,show 6-(r2.length+1)=5-r2.length by omega]
         ·exact hL1.out
      ·have hcm':¬(nq:Int)+1<(Pl.ins kq:Int):=by omega
       have hst1:Hid (stOf (f1::g1::r2)=1::stOf (g1::r2)):=by show _=_;rw [hstc.out,show Pl.ins kq-nq=1 by omega]
       have HCM:Hid (¬(f1.qs.length+1<Pl.ins f1.h.k)):=by show ¬_;rw [HF.out.2.1,HF.out.2.2];exact hcm
       clear hcm hstc;go_wp2_with fail
       refine (take_any B s c1 41 41 _ hs' (by omega) rfl HP7.out).mono ?_
       rintro e w8 ⟨ok8,a8,x8,rfl,p8,f8⟩;have P8:=hid p8;have X8:=hid x8
       have HK8:Hid (Kept (·=B) w w8):=HK7.out.seq f8
       cases ok8
       ·have HX:Hid (Pl.whole s=(2,a8)):=by show _=_;rw [←hE1.out,hst1.out,Pl.finP_one_no X8.out]
        clear x8 p8 f8;go_wp2_with fail
        try rw [Exit.noGoto_ret]
        go_ret2
        exact QueryEnd.bad (n:=2) (by omega) HX.out P8.out HK8.out
       ·rcases tk_at x8 with ⟨_,hb8,rfl⟩ | ⟨e,_⟩
        case inr=>cases e
        have HQ8:Hid (QI s w8 w.heap.size X1 (.slice (some ⟨gb1,0,none⟩) (r2.length+2) cap1) (f1::g1::r2) cst [p1]):=HQ7.out.keep f8 (fun j e=>.inl (by omega))
        have HT8:Hid (Tr w8 X1 p1 q1):=HT7.out.mono (fun k hk=>f8.block k (HQ7.out.own k hk).2 (fun z=>by have:=(HQ7.out.own k hk).1;omega)) (fun _ e=>e)
        obtain ⟨hrd,hio⟩:=FS.ends HQ8.out.stk.2.1 HR7.out hb8 HCM.out;obtain ⟨hq9,ht9⟩:=HQ8.out.pop HT8.out hio HQ8.out.shrink rfl
        have HQ9:Hid (QI s w8 w.heap.size (XP X1 f1) (.slice (some ⟨gb1,0,none⟩) n2 cap1) (g1::r2) f1.a [f1.P]):=by
         have h1:=hq9;rw [HN2.out] at h1;exact h1
        have HT9:=hid ht9
        have HR9:Hid (Rq s (6-r2.length) f1.a (c1+1) (mkQ f1.h f1.cs (f1.qs++[q1]))):=by
         have h1:=hrd
         rw [show 5-r2.length+1=6-r2.length by omega] at h1;exact h1
        have HE9:Hid (Pl.endP s (Pl.finP s (stOf (g1::r2)) (0,c1+1))=Pl.whole s):=by show _=_;rw [←hE1.out,hst1.out,Pl.finP_one_yes X8.out]
        clear x8 p8 f8 hb8 HQ8 HT8 hrd hio hq9 ht9;go_wp2_with fail;go_roundg r2.length
        case measure=>have:=hkr.out;simp only [List.length_cons] at this;omega
        case rel=>exact ⟨g1,r2,_,f1.a,c1+1,f1.P,_,rfl,by omega,by omega,HQ9,HT9,HR9,P8,HK8,HE9,hL1⟩
  ·have hb1:((kk:Int) != 1)=true:=by simp;omega
   go_wp2_with (first | (at_builtin;refine wpList_append_lies _ (by rfl) _ _ _ (by rfl) w.heap.size 69 ip (.pointer none) 1 8 Tryz.underlying137 hip hz0 hz1 hz2 rfl (by decide) fiv np (f.ps.map pV) (by rfl) (HOW.out.alloc _) ⟨w3.heap.size,0,none⟩ 1 1 [pV Pn] (by rfl) rfl (World.news_of_block (cs:=#[pV Pn]) (heap_alloc_last w3 _)) (by intro u hu;simp at hu;subst hu;rfl) (by decide) (by unfold maxLen;omega) (by omega) (by rw [size_alloc1];omega) (w3.heap.size+1) (by simp) ?_;intro gi capi w4 hown4 hg4 hat4 hlt4;have s5:w4.cell? ⟨fP,28,none⟩=some fiv:=(hg4.cell_far _ (by simp;omega) hPf).trans ((World.cell?_alloc_past _ _ _ hfP).trans o2);have f5:w4.frozen? ⟨fP,28,none⟩=false:=(hg4.frozen_far _ (by simp;omega) hPf).trans ((World.frozen?_alloc_past _ _ _ hfP).trans z2);have s6:w4.cell? ⟨Pn,0,none⟩=some (.int .i64 (kk:Int)):=(hg4.cell_far _ (by simp;omega) hPnI).trans ((World.cell?_alloc_past _ _ _ hPl3).trans o3)) | fail)
   obtain ⟨f5x,Q5,N5,P5,K5,hst5,hla5⟩:=step.out gi capi w4 hown4 hg4 hat4;generalize w4.setCell ⟨fP,28,none⟩ (.slice (some ⟨gi,0,none⟩) (np+1) capi)=w5 at Q5 N5 P5 K5 ⊢;have HST:=hid (And.intro hst5 hla5);have HQ5:=hid Q5;have HN5:=hid N5;have HK5:=hid K5;clear s5 f5 s6 hown4 hg4 hat4 hlt4 step o1 o2 o3 z2 hPf hPnI Q5 N5 K5 hst5 hla5 HOW;refine (next_any B s a3 _ hs' P5).mono ?_;rintro e w6 ⟨rfl,p6,f6⟩
   have HQ6:Hid (QI s w6 w.heap.size X _ (f5x::r) c [Pn]):=HQ5.out.keep f6 (fun j e=>.inl (by omega))
   have HK6:Hid (Kept (·=B) w w6):=HK5.out.seq f6
   have HN6:Hid (NewP w6 w.heap.size X (f5x::r) Pn (hdV s kk c) (hcs s kk c) lv):=HN5.out.keep f6 (fun e=>by have:=HN5.out.base;omega) (fun b hb e=>by have:=own_base HN5.out.cols b hb;omega)
   have c6:=p6.c1;have g6:=p6.f1;have P6:=hid p6;have hb6:B<w6.heap.size:=lt_of_heap p6.2;clear p6 f6 P5 HQ5 HN5 HK5
   by_cases hb:Pl.bt s a3=40
   ·have hb2:((Pl.bt s a3:Int) != 40)=false:=by simp;omega
    have hl3:=Pl.bt_lt (s:=s) (a:=a3) (by omega)
    by_cases hd:r.length=6
    ·have hd2:(6:Int)<(r.length:Int)+1:=by omega
     have HX:Hid (Pl.whole s=(3,a3)):=by show _=_;rw [←hE.out,hd,Pl.qP_deep X3.out (by rw [HKK.out];exact hk1) hb,Pl.endP_err (by omega)]
     clear hd hb hk1;go_wp2_with fail
     try rw [Exit.noGoto_ret]
     go_ret2
     exact QueryEnd.bad (n:=3) (by omega) HX.out P6.out HK6.out
    ·have hd2:¬(6:Int)<(r.length:Int)+1:=by omega
     have hk0:kk≠0:=fun e0=>by have:=X3.out;rw [HKK.out,e0] at this;simp [Pl.headP] at this
     have hins:=Pl.ins_two hk0 hk1
     have hE2:Hid (Pl.endP s (Pl.finP s (Pl.ins kk::stOf (f::r)) (Pl.qP s (5-r.length) (a3+1)))=Pl.whole s):=by
      show _=_
      rw [←hE.out,show 6-r.length=(5-r.length)+1 by omega,Pl.qP_open X3.out (by rw [HKK.out];exact hk1) hb,HKK.out]
      simp only [Pl.finP,stOf_len]
     have hFS:Hid (FS s (5-r.length) ⟨Pn,hdV s kk c,hcs s kk c,lv,sN,[],[],c,a3⟩ (a3+1)):=by
      refine ⟨?_,?_,?_,X3.out,hb,.inl ⟨rfl,rfl,?_⟩⟩
      ·rw [HKK.out]
      ·rw [HKK.out]
      ·show (hdV s kk c).k=_;rw [hdV_k,HKK.out]
      ·show Pl.ins (hdV s kk c).k=1∨_;rw [hdV_k];exact hins
     have hpB:RP B s (a3+1) (w6.setCell ⟨B,1,none⟩ (.int .i64 ((a3:Int)+1))):=P6.out.set (a':=a3+1) (by omega)
     have hkB:Kept (·=B) w6 (w6.setCell ⟨B,1,none⟩ (.int .i64 ((a3:Int)+1))):=(Kept.refl (·=B) w6).setCell (g:=B) (.inr rfl) _
     have HQ7:Hid (QI s (w6.setCell ⟨B,1,none⟩ (.int .i64 ((a3:Int)+1))) w.heap.size X (.slice (some ⟨gb,0,none⟩) (r.length+1) cap) (f5x::r) c [Pn]):=HQ6.out.keep hkB (fun j e=>.inl (by omega))
     have HN7:Hid (NewP (w6.setCell ⟨B,1,none⟩ (.int .i64 ((a3:Int)+1))) w.heap.size X (f5x::r) Pn (hdV s kk c) (hcs s kk c) lv):=HN6.out.keep hkB (fun e=>by have:=HN6.out.base;omega) (fun b hb e=>by have:=own_base HN6.out.cols b hb;omega)
     have HK7:Hid (Kept (·=B) w (w6.setCell ⟨B,1,none⟩ (.int .i64 ((a3:Int)+1)))):=HK6.out.seq hkB
     have HP7:=hid hpB
     have hsz7:(w6.setCell ⟨B,1,none⟩ (.int .i64 ((a3:Int)+1))).heap.size=w6.heap.size:=by simp [World.setCell]
     have HOL:Hid ((w6.setCell ⟨B,1,none⟩ (.int .i64 ((a3:Int)+1))).ownsRow w.heap.size 69 1 (.slice (some ⟨gb,0,none⟩) (r.length+1) cap) (r.length+1) (((f5x::r).map (·.P)).reverse.map pV)):=HQ7.out.list
     have hsz6:=HK6.out.size;have HSZ:=hid hsz7;clear hb hk1 hk0 hE hpB hkB HQ6 HN6 HK6 P6 hsz7
     have hnew8:((w6.setCell ⟨B,1,none⟩ (.int .i64 ((a3:Int)+1))).alloc (.cells #[pV Pn] 69)).heap[w6.heap.size]? =some (.cells #[pV Pn] 69 (0,0)):=by rw [←HSZ.out];exact heap_alloc_last _ _
     have HNew8:=hid hnew8;clear hnew8
     go_wp2_with (first | (at_builtin;refine wpList_append_lies _ (by rfl) _ _ _ (by rfl) w.heap.size 69 ip (.pointer none) 1 8 Tryz.underlying137 hip hz0 hz1 hz2 rfl (by decide) (.slice (some ⟨gb,0,none⟩) (r.length+1) cap) (r.length+1) (((f5x::r).map (·.P)).reverse.map pV) (by rfl) (HOL.out.alloc _) ⟨w6.heap.size,0,none⟩ 1 1 [pV Pn] (by rfl) rfl (World.news_of_block (cs:=#[pV Pn]) HNew8.out) (by intro u hu;simp at hu;subst hu;rfl) (by decide) (by unfold maxLen;omega) (by omega) (by rw [size_alloc1,HSZ.out];omega) (w6.heap.size+1) (by rw [size_alloc1,HSZ.out]) ?_;intro gj capj w8 hown8 hg8 hat8 hlt8) | fail)
     obtain ⟨q8,p8,k8⟩:=push_step (b:=a3) hBl HQ7.out HN7.out HP7.out HK7.out (by omega) hFS.out hown8 hg8 (by rw [HSZ.out];exact hat8)
     have HQ8:=hid q8;have HP8:=hid p8;have HK8:=hid k8;clear q8 p8 k8 hown8 hg8 hat8 hlt8;go_roundg (s.size-(a3+1))
     case measure=>omega
     case rel =>
      refine ⟨_,f5x::r,X,a3+1,by omega,by simp only [List.length_cons];omega,HQ8,HP8,HK8,?_,?_⟩
      ·show _=_
       rw [←hE2.out,←HST.out.1]
       simp only [stOf,hdV_k,List.length_nil,Nat.sub_zero,List.length_cons,show 6-(r.length+1)=5-r.length by omega]
      ·show lastP f5x r=_
       rw [HST.out.2];exact hL.out
   ·have hb2:((Pl.bt s a3:Int) != 40)=true:=by simp;omega
    have HX:Hid (Pl.whole s=(2,a3)):=by show _=_;rw [←hE.out,Pl.qP_shut X3.out (by rw [HKK.out];exact hk1) hb,Pl.endP_err (by omega)]
    clear hb hk1;go_wp2_with fail
    try rw [Exit.noGoto_ret]
    go_ret2
    exact QueryEnd.bad (n:=2) (by omega) HX.out P6.out HK6.out
theorem cj_count (s:ByteArray):∀ k,k≤s.size→Pl.cj s k=Lib.countByte (s.data.toList.take k) 74
 | 0,_=>by simp [Pl.cj,Lib.countByte]
 | k+1,h=>by
   have hk:k<s.data.toList.length:=by simp;omega
   rw [Pl.cj,cj_count s k (by omega),List.take_succ_eq_append_getElem hk]
   unfold Lib.countByte;rw [List.count_append,List.count_singleton]
   have e:Pl.bt s k=(s.data.toList[k]).toNat:=by unfold Pl.bt;rw [dif_pos (by omega)];rfl
   rw [e]
   by_cases hc:s.data.toList[k]=74
   ·rw [hc];rfl
   ·have h1:¬(s.data.toList[k]).toNat=74:=fun x=>hc (UInt8.toNat_inj.1 (by rw [x];rfl))
    rw [if_neg h1,if_neg (by simpa using hc)]
theorem cj_all (s:ByteArray):(Lib.countByte s.data.toList 74:Nat)=Pl.cj s s.size:=by
 rw [cj_count s s.size (Nat.le_refl _),List.take_of_length_le (by simp)]
theorem count_one (s:ByteArray) (w:World) :
 Calls Tryz.prog 62 #[.string s,.string ⟨#[74]⟩] w fun e w'=>e=.returned (.int .i64 (Pl.cj s s.size:Nat))∧w'=w:=by
 have HC:=hid (cj_all s)
 go_enter Tryz.func62,Tryz.ntmps62
 go_wp2
 rw [run_callFunc_extern Tryz.func105 (by kernel_rfl) (by kernel_rfl) (by kernel_rfl) (e:=Extern.BytealgCount.count) (by kernel_rfl),Lib.run_countString]
 simp only [Result.andThen];rw [Oper.upon_value]
 go_wp2
 go_ret
 exact ⟨ret_int (by rw [←HC.out];rfl),rfl⟩
def ReadEnd (s:ByteArray) (w:World) (e:Ending) (w':World):Prop :=
 Kept No w w' ∧
  ((Pl.chk s).1≠0∧e=.returned (.tuple #[.pointer none,.int .i64 ((Pl.chk s).1:Nat),.int .i64 ((Pl.chk s).2:Nat)]) ∨
   Pl.chk s=(0,0)∧∃ p X q,e=.returned (.tuple #[.pointer (some ⟨p,0,none⟩),.int .i64 0,.int .i64 0])∧Tr w' X p q∧(∀ k,X k→w.heap.size≤k∧k<w'.heap.size)∧Rq s 6 0 s.size q∧s.size≤120∧Pl.cj s s.size≤2)
theorem ReadEnd.bad {s:ByteArray} {w w':World} {n a:Nat} (hn:n≠0) (hw:Pl.chk s=(n,a)) (hk:Kept No w w'):ReadEnd s w (.returned (.tuple #[.pointer none,.int .i64 (n:Int),.int .i64 (a:Int)])) w' :=
 ⟨hk,.inl ⟨by rw [hw];exact hn,by rw [hw]⟩⟩
theorem readQuery_any (s:ByteArray) (w:World):Calls Tryz.prog 36 #[.string s] w (ReadEnd s w):=by
 by_cases hs:s.size≤120
 ·have hs':¬(120:Int)<(s.size:Int):=by omega
  have HP:Hid (RP w.heap.size s 0 (w.alloc (.cells #[.string s,.int .i64 0] 93))):=⟨by omega,heap_alloc_new w _⟩
  have HSz:=hid hs
  go_enter Tryz.func36,Tryz.ntmps36
  go_wp2_with fail;refine (query_any w.heap.size s _ hs HP.out).mono ?_;rintro e w1 ⟨p1,k1,hend⟩
  have HK:Hid (Kept No w w1):=((Kept.refl No w).alloc _).trans k1 (fun _ e=>e) (fun i hi e=>by omega)
  have c1:=p1.c1
  have hsz:(w.alloc (.cells #[.string s,.int .i64 0] 93)).heap.size=w.heap.size+1:=by simp
  rcases hend with ⟨hn,rfl⟩ | ⟨hz,p,X,q,rfl,ht,hX,hr⟩
  ·have hx:(((Pl.whole s).1:Int) != 0)=true:=by simp;omega
   have HX:Hid (Pl.chk s=((Pl.whole s).1,(Pl.whole s).2)):=by show _=_;unfold Pl.chk;rw [if_neg (by omega),if_neg hn]
   have HN:=hid hn;clear p1 k1 hn hsz;go_wp2_with fail
   go_quiet (fail)
   go_wp2_with fail;go_ret3;exact ReadEnd.bad HN.out HX.out (HK.out.drewN _)
  ·have HT:=hid ht
   have HXX:Hid (∀ k,X k→w.heap.size≤k∧k<w1.heap.size):=fun k hk=>⟨by have:=(hX k hk).1;omega,(hX k hk).2⟩
   have HR:=hid hr;clear p1 k1 ht hX hr
   by_cases hj:2<Pl.cj s s.size
   ·have hj':(2:Int)<(Pl.cj s s.size:Int):=by omega
    have HX:Hid (Pl.chk s=(4,0)):=by show _=_;unfold Pl.chk;rw [if_neg (by omega),if_pos hz,if_pos hj]
    clear hz hj;go_wp2_with fail;refine (count_one s _).mono ?_;rintro e w2 ⟨rfl,rfl⟩;go_wp2_with fail;go_ret3
    exact ReadEnd.bad (n:=4) (a:=0) (by omega) HX.out HK.out
   ·have hj':¬(2:Int)<(Pl.cj s s.size:Int):=by omega
    have HJ:Hid (Pl.cj s s.size≤2):=Nat.le_of_not_lt hj
    have HX:Hid (Pl.chk s=(0,0)):=by show _=_;unfold Pl.chk;rw [if_neg (by omega),if_pos hz,if_neg hj]
    clear hz hj;go_wp2_with fail;refine (count_one s _).mono ?_;rintro e w2 ⟨rfl,rfl⟩;go_wp2_with fail;go_ret3;exact ⟨HK.out,.inr ⟨HX.out,p,X,q,rfl,HT.out,HXX.out,HR.out,HSz.out,HJ.out⟩⟩
 ·have hs':(120:Int)<(s.size:Int):=by omega
  have HX:Hid (Pl.chk s=(1,0)):=by show _=_;unfold Pl.chk;rw [if_pos (by omega)]
  go_enter Tryz.func36,Tryz.ntmps36
  go_wp2_with fail;go_ret3
  exact ReadEnd.bad (n:=1) (a:=0) (by omega) HX.out (Kept.refl _ _)
open Go.RowKit Go.Shelf
open Mo (V Row Opd Bag)
def TkSl (w:World) (sv:Value) (Ts:List Value):Prop:=∃ g cap cs z,sv=.slice (some ⟨g,0,none⟩) Ts.length cap∧w.heap[g]? =some (.cells cs 143 z)∧∀ (i:Nat) (T:Value),Ts[i]? =some T→cs[i]? =some T
def LdEnd (tb:TypeId) (c0:Array Value) (T:Value) (out:Nat→List Value) (w:World) (e:Ending) (w':World):Prop :=
 ∃ sv v',e=.returned sv∧w'.heap[w.heap.size]? =some (.cells (c0.setIfInBounds 0 v') tb (0,0))∧w'.ownsRow 0 143 1 v' 1 [T]∧(∀ k,v'.ownBlock=some k→w.heap.size<k)∧TkSl w' sv (out w.heap.size)∧(∀ g,sv.ownBlock=some g→w.heap.size<g∧v'.ownBlock≠some g)∧Kept No w w'
structure TyGive (tt:TypeId):Prop where
 nil:∀ (b:Nat) (w:World),(nilAhead 496 tt (.pointer (some ⟨b,0,none⟩)) "ripple/ripple.giveTo").run Tryz.prog w=.ok (some false) w
 met:∀ (b:Nat) (w:World),(method 496 tt (.pointer (some ⟨b,0,none⟩)) "ripple/ripple.giveTo").run Tryz.prog w=.ok (64,.pointer (some ⟨b,0,none⟩)) w
theorem give_sel:TyGive 275:=⟨fun _ _=>by kernel_rfl,fun _ _=>by kernel_rfl⟩
theorem give_pick:TyGive 278:=⟨fun _ _=>by kernel_rfl,fun _ _=>by kernel_rfl⟩
theorem give_dist:TyGive 281:=⟨fun _ _=>by kernel_rfl,fun _ _=>by kernel_rfl⟩
theorem give_grp:TyGive 284:=⟨fun _ _=>by kernel_rfl,fun _ _=>by kernel_rfl⟩
theorem give_uni:TyGive 287:=⟨fun _ _=>by kernel_rfl,fun _ _=>by kernel_rfl⟩
theorem lead_one (P:Nat) (h:Hd) (hk:h.k≤7) (hk4:h.k≠4) (hin:Pl.ins h.k=1∨Pl.ins h.k=2) (lv iv:Value) (tt tb:TypeId) (htb:tb≠143) (hG:TyGive tt) (c0:Array Value) (hc0:c0[0]? =some sN) (ty:TypeId) (p:Addr) (w:World) (hP:w.heap[P]? =some (.cells (partC h lv iv) 139 (0,0)))
 (hOp:Calls Tryz.prog 113 #[.pointer (some ⟨P,0,none⟩)] w (OpEnd tt tb c0 w)) :
 Calls Tryz.prog 65 #[.pointer (some ⟨P,0,none⟩),.iface ty (.pointer (some p))] w (LdEnd tb c0 (.iface ty (.pointer (some p))) (fun b=>List.replicate (Pl.ins h.k) (.iface tt (.pointer (some ⟨b,0,none⟩)))) w):=by
 have k0:=(part_cells hP).1
 have hk4':((h.k:Int) == 4)=false:=by simp;omega
 have HP:=hid hP;have hPl:=lt_of_heap hP;have HOp:=hid hOp;have hme:=hG.met;have HIN:=hid (inputs_any h.k hk);have hI:=hin;clear hP hOp hin
 go_enter Tryz.func65,Tryz.ntmps65
 go_wp2_with fail;refine HOp.out.mono ?_;rintro e w1 ⟨rfl,hb1,hk1⟩
 have HGT:=hid (giveTo_any w.heap.size c0 tb htb sN [] ty p w1 hb1 hc0 (World.ownsRow_nil _ _ _ _) (by simp))
 have HK1:=hid hk1;clear hb1 hk1;go_wp2_with fail;refine HGT.out.mono ?_;rintro e w2 ⟨rfl,v',hb2,ho2,hn2,hk2⟩
 have hk02:Kept No w w2:=HK1.out.trans hk2 (fun _ e=>e) (fun i hi e=>by
  rcases e with e | e
  ·omega
  ·cases e)
 have HK2:=hid hk02
 have hP2:w2.heap[P]? =some (.cells (partC h lv iv) 139 (0,0)):=(hk02.block P hPl (fun e=>e)).trans HP.out
 have k2:(w2.alloc (.cells #[.iface tt (.pointer (some ⟨w.heap.size,0,none⟩))] 143)).cell? ⟨P,0,none⟩=some (.int .i64 (h.k:Int)):=(World.cell?_of_block (Below.heap_alloc _ _ _ (lt_of_heap hP2))).trans (part_cells hP2).1;have HB2:=hid hb2;have HO2:=hid ho2
 have HN2:Hid (∀ k,v'.ownBlock=some k→w.heap.size<k):=fun k hk'=>by
  rcases hn2 k hk' with e | e
  ·cases e
  ·obtain ⟨c',z',hx⟩:=owns_mem ho2 hk'
   have h1:k≠w.heap.size:=by
    rintro rfl
    rw [hb2] at hx;injection hx with hx;injection hx with _ hx;exact htb hx
   have:=HK1.out.size
   omega
 have HA:Hid ((w2.alloc (.cells #[.iface tt (.pointer (some ⟨w.heap.size,0,none⟩))] 143)).heap[w2.heap.size]? =some (.cells #[.iface tt (.pointer (some ⟨w.heap.size,0,none⟩))] 143 (0,0))):=heap_alloc_last _ _;clear hb2 ho2 hn2 hk2 hk02 hP2 HGT k0;go_wp2_with fail;refine (HIN.out _).mono ?_;rintro e w3 ⟨rfl,hw3⟩;subst hw3
 rcases hI with hI | hI
 ·rw [hI]
  have HRP:=hid (repeat_one w2.heap.size _ tt ⟨w.heap.size,0,none⟩ HA.out);clear k2;go_wp2_with fail;refine HRP.out.mono ?_;rintro e w5 ⟨rfl,h5,hk5⟩
  have HF:Hid (LdEnd tb c0 (.iface ty (.pointer (some p))) (fun b=>List.replicate 1 (.iface tt (.pointer (some ⟨b,0,none⟩)))) w (.returned (.slice (some ⟨(w2.alloc (.cells #[.iface tt (.pointer (some ⟨w.heap.size,0,none⟩))] 143)).heap.size,0,none⟩) 1 1)) w5):=by
   have hk25:Kept No w2 w5:=((Kept.refl No w2).alloc _).seq hk5
   refine ⟨_,v',rfl,(hk25.block _ (lt_of_heap HB2.out) (fun e=>e)).trans HB2.out,owns_blk HO2.out (fun k hk'=> ?_),HN2.out,⟨_,1,_,_,rfl,h5,fun i T hT=> ?_⟩,(fun g hg=> ?_),HK2.out.seq hk25⟩
   ·obtain ⟨c',z',hx⟩:=owns_mem HO2.out hk'
    exact hk25.block k (lt_of_heap hx) (fun e=>e)
   ·simpa using hT
   ·have e:(w2.alloc (.cells #[.iface tt (.pointer (some ⟨w.heap.size,0,none⟩))] 143)).heap.size=g:=by simpa [Value.ownBlock] using hg
    have e2:w2.heap.size+1=g:=by simpa using e
    have hl2:=lt_of_heap HB2.out
    refine ⟨by omega,fun h3=> ?_⟩
    obtain ⟨c',z',hx⟩:=owns_mem HO2.out h3
    have:=lt_of_heap hx
    omega
  have hsz:(w2.alloc (.cells #[.iface tt (.pointer (some ⟨w.heap.size,0,none⟩))] 143)).heap.size=w2.heap.size+1:=by simp
  rw [hsz] at HF;have HI:=hid hI;clear h5 hk5 HRP HA HB2 HO2 HN2 hsz;go_wp2_with fail;go_ret;rw [HI.out];exact HF.out
 ·rw [hI]
  have HRP:=hid (repeat_two w2.heap.size _ tt ⟨w.heap.size,0,none⟩ HA.out);clear k2;go_wp2_with fail;refine HRP.out.mono ?_;rintro e w5 ⟨rfl,h5,hk5⟩
  have HF:Hid (LdEnd tb c0 (.iface ty (.pointer (some p))) (fun b=>List.replicate 2 (.iface tt (.pointer (some ⟨b,0,none⟩)))) w (.returned (.slice (some ⟨(w2.alloc (.cells #[.iface tt (.pointer (some ⟨w.heap.size,0,none⟩))] 143)).heap.size,0,none⟩) 2 2)) w5):=by
   have hk25:Kept No w2 w5:=((Kept.refl No w2).alloc _).seq hk5
   refine ⟨_,v',rfl,(hk25.block _ (lt_of_heap HB2.out) (fun e=>e)).trans HB2.out,owns_blk HO2.out (fun k hk'=> ?_),HN2.out,⟨_,2,_,_,rfl,h5,fun i T hT=> ?_⟩,(fun g hg=> ?_),HK2.out.seq hk25⟩
   ·obtain ⟨c',z',hx⟩:=owns_mem HO2.out hk'
    exact hk25.block k (lt_of_heap hx) (fun e=>e)
   ·simpa [List.replicate] using hT
   ·have e:(w2.alloc (.cells #[.iface tt (.pointer (some ⟨w.heap.size,0,none⟩))] 143)).heap.size=g:=by simpa [Value.ownBlock] using hg
    have e2:w2.heap.size+1=g:=by simpa using e
    have hl2:=lt_of_heap HB2.out
    refine ⟨by omega,fun h3=> ?_⟩
    obtain ⟨c',z',hx⟩:=owns_mem HO2.out h3
    have:=lt_of_heap hx
    omega
  have hsz:(w2.alloc (.cells #[.iface tt (.pointer (some ⟨w.heap.size,0,none⟩))] 143)).heap.size=w2.heap.size+1:=by simp
  rw [hsz] at HF;have HI:=hid hI;clear h5 hk5 HRP HA HB2 HO2 HN2 hsz;go_wp2_with fail;go_ret;rw [HI.out];exact HF.out
set_option linter.unusedSimpArgs false
def sideV (b o:Nat):Value:=.iface 236 (.pointer (some ⟨b,o,none⟩))
theorem lead_join (P:Nat) (h:Hd) (hk:h.k=4) (lv iv:Value) (ty:TypeId) (p:Addr) (w:World) (hP:w.heap[P]? =some (.cells (partC h lv iv) 139 (0,0))) :
 Calls Tryz.prog 65 #[.pointer (some ⟨P,0,none⟩),.iface ty (.pointer (some p))] w (LdEnd 240 (jC sN (.map none) (.map none) (colI h.l) (colI h.r) w.heap.size) (.iface ty (.pointer (some p))) (fun b=>[sideV b 1,sideV b 6]) w):=by
 have k0:=(part_cells hP).1;rw [hk] at k0;have HP:=hid hP;have hPl:=lt_of_heap hP
 have HYL:Hid (∀ w:World,w.heap[P]? =some (.cells (partC h lv iv) 139 (0,0))→w.cell? ⟨P,4,none⟩=some (.int .i64 (colI h.l:Int))):=fun w hw=>(cell_of hw 4).trans rfl
 have HYR:Hid (∀ w:World,w.heap[P]? =some (.cells (partC h lv iv) 139 (0,0))→w.cell? ⟨P,12,none⟩=some (.int .i64 (colI h.r:Int))):=fun w hw=>(cell_of hw 12).trans rfl
 clear hP;generalize colI h.l=n at HYL ⊢;generalize colI h.r=m at HYR ⊢
 go_enter Tryz.func65,Tryz.ntmps65
 go_wp2_with fail;clear k0
 refine wp_region_held_drew (S:=fun w'=>w'.heap[P]? =some (.cells (partC h lv iv) 139 (0,0))) (by kernel_rfl) HP.out (fun hHeld=> ?_)
 refine tk_P 0 (.pointer (some ⟨P,0,none⟩)) hHeld ?_;try simp only [Act.put,n_1,n_2,n_3,n_4,n_5,n_6]
 refine tk_P 1 (.pointer (some ⟨P,0,none⟩)) hHeld ?_;try simp only [Act.put,n_1,n_2,n_3,n_4,n_5,n_6]
 refine tk_P 2 (.pointer (some ⟨P,3,none⟩)) hHeld ?_;try simp only [Act.put,n_1,n_2,n_3,n_4,n_5,n_6]
 refine tk_P 3 (.pointer (some ⟨P,4,none⟩)) hHeld ?_;try simp only [Act.put,n_1,n_2,n_3,n_4,n_5,n_6]
 refine tk_C 4 (.int .i64 (n:Int)) 3 (.tmp 15) (P) (4) (fun w h=>HYL.out w h) hHeld ?_
 try simp only [Act.put,n_1,n_2,n_3,n_4,n_5,n_6]
 refine tk_P 5 (.pointer (some ⟨P,0,none⟩)) hHeld ?_;try simp only [Act.put,n_1,n_2,n_3,n_4,n_5,n_6]
 refine tk_P 6 (.pointer (some ⟨P,0,none⟩)) hHeld ?_;try simp only [Act.put,n_1,n_2,n_3,n_4,n_5,n_6]
 refine tk_P 7 (.pointer (some ⟨P,11,none⟩)) hHeld ?_;try simp only [Act.put,n_1,n_2,n_3,n_4,n_5,n_6]
 refine tk_P 8 (.pointer (some ⟨P,12,none⟩)) hHeld ?_;try simp only [Act.put,n_1,n_2,n_3,n_4,n_5,n_6]
 refine tk_C 9 (.int .i64 (m:Int)) 3 (.tmp 20) (P) (12) (fun w h=>HYR.out w h) hHeld ?_
 try simp only [Act.put,n_1,n_2,n_3,n_4,n_5,n_6]
 refine tk_S 10 (fun K hK=> ?_)
 go_simp;refine (newJoin_any n m _).mono ?_;rintro e w1 ⟨rfl,hb1,hk1⟩;have hk01:Kept No w w1:=((Kept.refl No w).drew).seq hk1;have HK1:=hid hk01;have HB1:Hid (w1.heap[w.heap.size]? =some (.cells (jC sN (.map none) (.map none) n m w.heap.size) 240 (0,0))):=hb1
 refine hK.out _ _ ((hk01.block P hPl (fun e=>e)).trans HP.out) (fun hHeld=> ?_)
 clear hK K hb1 hk1 hk01;try simp only [Act.put,n_1,n_2,n_3,n_4,n_5,n_6]
 refine tk_P 11 (.pointer (some ⟨w.heap.size,0,none⟩)) hHeld ?_;try simp only [Act.put,n_1,n_2,n_3,n_4,n_5,n_6]
 refine wpAnyH_done (by kernel_rfl) ?_ _
 clear hHeld HYL HYR;try simp only [Act.put,n_1,n_2,n_3,n_4,n_5,n_6]
 have HGT:=hid (giveTo_any w.heap.size _ 240 (by decide) sN [] ty p w1 HB1.out rfl (World.ownsRow_nil _ _ _ _) (by simp))
 clear HB1;go_wp2_with fail;refine HGT.out.mono ?_;rintro e w2 ⟨rfl,v',hb2,ho2,hn2,hk2⟩
 have hk02:Kept No w w2:=HK1.out.trans hk2 (fun _ e=>e) (fun i hi e=>by
  rcases e with e | e
  ·omega
  ·cases e)
 have HK2:=hid hk02;have HB2:=hid hb2;have HO2:=hid ho2
 have HN2:Hid (∀ k,v'.ownBlock=some k→w.heap.size<k):=fun k hk'=>by
  rcases hn2 k hk' with e | e
  ·cases e
  ·obtain ⟨c',z',hx⟩:=owns_mem ho2 hk'
   have h1:k≠w.heap.size:=by
    rintro rfl
    rw [hb2] at hx;injection hx with hx;injection hx with _ hx;exact absurd hx (by decide)
   have:=HK1.out.size
   omega
 clear hb2 ho2 hn2 hk2 hk02 HGT;go_wp2_with fail
 refine wp_region_held_drew (S:=fun _=>True) (by kernel_rfl) trivial (fun hHeld=> ?_)
 refine tk_P 0 (.pointer (some ⟨w.heap.size,0,none⟩)) hHeld ?_;try simp only [Act.put,n_1,n_2,n_3,n_4,n_5,n_6]
 refine tk_P 1 (.pointer (some ⟨w.heap.size,0,none⟩)) hHeld ?_;try simp only [Act.put,n_1,n_2,n_3,n_4,n_5,n_6]
 refine tk_P 2 (.pointer (some ⟨w.heap.size,1,none⟩)) hHeld ?_;try simp only [Act.put,n_1,n_2,n_3,n_4,n_5,n_6]
 refine tk_P 3 (.iface 236 (.pointer (some ⟨w.heap.size,1,none⟩))) hHeld ?_;try simp only [Act.put,n_1,n_2,n_3,n_4,n_5,n_6]
 refine tk_P 4 (.pointer (some ⟨w.heap.size,0,none⟩)) hHeld ?_;try simp only [Act.put,n_1,n_2,n_3,n_4,n_5,n_6]
 refine tk_P 5 (.pointer (some ⟨w.heap.size,0,none⟩)) hHeld ?_;try simp only [Act.put,n_1,n_2,n_3,n_4,n_5,n_6]
 refine tk_P 6 (.pointer (some ⟨w.heap.size,6,none⟩)) hHeld ?_;try simp only [Act.put,n_1,n_2,n_3,n_4,n_5,n_6]
 refine tk_P 7 (.iface 236 (.pointer (some ⟨w.heap.size,6,none⟩))) hHeld ?_;try simp only [Act.put,n_1,n_2,n_3,n_4,n_5,n_6]
 refine tk_S 8 (fun K hK=> ?_)
 go_simp
 refine hK.out _ _ trivial (fun hHeld=> ?_)
 clear hK K;try simp only [Act.put,n_1,n_2,n_3,n_4,n_5,n_6]
 have HF:Hid (LdEnd 240 (jC sN (.map none) (.map none) n m w.heap.size) (.iface ty (.pointer (some p))) (fun b=>[sideV b 1,sideV b 6]) w (.returned (.slice (some ⟨w2.heap.size,0,none⟩) 2 2)) ((w2.alloc (.cells #[.iface 236 (.pointer (some ⟨w.heap.size,1,none⟩)),.iface 236 (.pointer (some ⟨w.heap.size,6,none⟩))] 143)).drew)):=by
  have hk25:Kept No w2 ((w2.alloc (.cells #[.iface 236 (.pointer (some ⟨w.heap.size,1,none⟩)),.iface 236 (.pointer (some ⟨w.heap.size,6,none⟩))] 143)).drew):=((Kept.refl No w2).alloc _).drew
  refine ⟨_,v',rfl,(hk25.block _ (lt_of_heap HB2.out) (fun e=>e)).trans HB2.out,owns_blk HO2.out (fun k hk'=> ?_),HN2.out,⟨_,2,_,_,rfl,heap_alloc_last _ _,fun i T hT=> ?_⟩,(fun g hg=> ?_),HK2.out.seq hk25⟩
  ·obtain ⟨c',z',hx⟩:=owns_mem HO2.out hk'
   exact hk25.block k (lt_of_heap hx) (fun e=>e)
  ·simpa [sideV] using hT
  ·have e:w2.heap.size=g:=by simpa [Value.ownBlock] using hg
   have hl2:=lt_of_heap HB2.out
   refine ⟨by omega,fun h3=> ?_⟩
   obtain ⟨c',z',hx⟩:=owns_mem HO2.out h3
   have:=lt_of_heap hx
   omega
 refine tk_P 9 (.slice (some ⟨w2.heap.size,0,none⟩) 2 2) hHeld ?_;try simp only [Act.put,n_1,n_2,n_3,n_4,n_5,n_6]
 refine wpAnyH_done (by kernel_rfl) ?_ _
 clear hHeld HB2 HO2 HN2;try simp only [Act.put,n_1,n_2,n_3,n_4,n_5,n_6]
 go_wp2_with fail;go_ret;exact HF.out
end Go.Proofs.YtdinjjmcmfjbfaaGreatDoor
