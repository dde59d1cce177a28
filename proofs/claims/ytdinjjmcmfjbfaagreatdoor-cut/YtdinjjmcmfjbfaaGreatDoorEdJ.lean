import Derived.Test.YtdinjjmcmfjbfaaGreatDoorLcJ
import Derived.Test.YtdinjjmcmfjbfaaGreatDoorNtJ
import Derived.Test.YtdinjjmcmfjbfaaGreatDoorQmJ
import Derived.Lib.ItoaLen
import Derived.Test.YtdinjjmcmfjbfaaGreatDoorSmJ
import Derived.Test.YtdinjjmcmfjbfaaGreatDoorRc2J
import Derived.Test.YtdinjjmcmfjbfaaGreatDoorOcJ
import Derived.Test.YtdinjjmcmfjbfaaGreatDoorQbJ
import Derived.WalkMore
import Derived.Laws.Strings2
set_option maxRecDepth 100000
set_option maxHeartbeats 4000000
namespace Go.Proofs.YtdinjjmcmfjbfaaGreatDoor
open Go.ChangeShapes Go.WideShapes Go.ChangeAt Go.RowKit Go.Deep
end Go.Proofs.YtdinjjmcmfjbfaaGreatDoor
namespace Go.Proofs.YtdinjjmcmfjbfaaGreatDoor.Mo
set_option linter.unusedSimpArgs false
set_option linter.unusedVariables false
theorem lin_congr_cnt {l:Bag} {g h:Row→Int} (hgh:∀ x,cnt l x≠0→g x=h x):lin l g=lin l h:=by
 rw [←canon_lin l g,←canon_lin l h]
 exact lin_congr_fun _ fun e he=>hgh e.1 (mem_canon_cnt he)
theorem lin_only {l:Bag} {g:Row→Int} (x0:Row) (h:∀ x,cnt l x≠0→x≠x0→g x=0):lin l g=cnt l x0*g x0:=by
 have e1:lin l g=lin l (fun x=>g x0*(if x=x0 then 1 else 0)):=lin_congr_cnt fun x hx=>by
  by_cases e:x=x0
  ·rw [if_pos e,e];omega
  ·rw [if_neg e,h x hx e];omega
 rw [e1,lin_mul,←cnt_eq_lin,Int.mul_comm]
theorem cnt_pickB (cs:List Nat) (l:Bag) (k:Row):cnt (pickB cs l) k=lin l (fun r=>if pickR cs r=k then 1 else 0):=by rw [cnt_eq_lin,pickB_lin]
theorem cnt_totB' (cs:List Nat) (s:Option Nat) (l:Bag) (k:Row):cnt (totB cs s l) k=lin l (fun r=>if pickR cs r=k then sv s r else 0):=by rw [cnt_totB];rfl
theorem cnt_selB (p:Row→Bool) (l:Bag) (r:Row):cnt (selB p l) r=if p r then cnt l r else 0:=by
 rw [cnt_eq_lin,selB_lin]
 by_cases h:p r=true
 ·rw [if_pos h,cnt_eq_lin]
  exact lin_congr_cnt fun x _=>by
   by_cases e:x=r
   ·subst e;rw [if_pos h]
   ·rw [if_neg e];split <;> rfl
 ·rw [if_neg h]
  have:lin l (fun x=>if p x=true then (if x=r then 1 else 0) else 0)=lin l (fun _=>0):=lin_congr_cnt fun x _=>by
   by_cases e:x=r
   ·subst e;rw [if_neg h]
   ·rw [if_neg e];split <;> rfl
  rw [this,lin_zero]
theorem part_sum {cs:List Nat} {l:Bag} {g:Row→Int}:∀ {ks:List Row},ks.Nodup→(ks.map fun k=>lin l (fun r=>if pickR cs r=k then g r else 0)).sum=lin l (fun r=>if pickR cs r∈ks then g r else 0)
 | [],_=>by simp [lin_zero]
 | k::ks,h=>by
   have h':=List.nodup_cons.1 h;rw [List.map_cons,List.sum_cons,part_sum h'.2,←lin_add]
   refine lin_congr_cnt fun x _=> ?_
   by_cases e:pickR cs x=k
   ·rw [if_pos e,if_neg (by rw [e];exact h'.1),if_pos (by simp [e])];omega
   ·rw [if_neg e]
    by_cases e2:pickR cs x∈ks
    ·rw [if_pos e2,if_pos (by simp [e2])];omega
    ·rw [if_neg e2,if_neg (by simp [e,e2])];omega
theorem grp_sum (cs:List Nat) (s:Option Nat) (l:Bag) (g:Row→Int) (hg:∀ k n,(∃ x,cnt l x≠0∧pickR cs x=k)→g (k++[.num n])=n):lin (grpB cs s l) g=lin l (sv s):=by
 unfold grpB;rw [lin_ones_map]
 have e1:((keysB cs l).map fun k=>g (k.1++[.num (grpN cs s l k.1)]))=(((keysB cs l).map (·.1)).map fun k=>lin l (fun r=>if pickR cs r=k then sv s r else 0)):=by
  rw [List.map_map]
  refine List.map_congr_left fun k hk=> ?_
  obtain ⟨e,he,h1⟩:=mem_keys hk;exact hg _ _ ⟨e.1,mem_canon_cnt he,h1⟩
 rw [e1,part_sum (show ((keysB cs l).map (·.1)).Nodup from Rise.nodup (canon_rise _))]
 refine lin_congr_cnt fun x hx=> ?_
 obtain ⟨e,he,h1⟩:=lin_pos_mem hx;obtain ⟨k,hk,h2⟩:=keys_mem (cs:=cs) he
 rw [if_pos (List.mem_map.2 ⟨k,hk,by rw [h2,h1]⟩)]
theorem grp_same {cs ds:List Nat} {s u:Option Nat} {l m:Bag} (hl:nn l) (hm:nn m) (h1:∀ k,cnt (pickB cs l) k=cnt (pickB ds m) k) (h2:∀ k,cnt (totB cs s l) k=cnt (totB ds u m) k):Eqv (grpB cs s l) (grpB ds u m):=fun r=>by
 rw [cnt_grpB hl,cnt_grpB hm];unfold grow;rw [h1,h2]
theorem grp_row {cs:List Nat} {s:Option Nat} {l:Bag} (hl:nn l) {x:Row} (h:cnt (grpB cs s l) x≠0):0<cnt (pickB cs l) x.dropLast∧x=x.dropLast++[.num (cnt (totB cs s l) x.dropLast)]:=by
 rw [cnt_grpB hl] at h;unfold grow at h
 by_cases h0:0<cnt (pickB cs l) x.dropLast
 ·rw [if_pos h0] at h
  refine ⟨h0,Classical.byContradiction fun e=>h ?_⟩
  show (if _=x then (1:Int) else 0)+0=0
  rw [if_neg fun e'=>e e'.symm];rfl
 ·rw [if_neg h0] at h;exact absurd rfl h
theorem grp_cnt {cs:List Nat} {s:Option Nat} {l:Bag} (hl:nn l) (k:Row):cnt (grpB cs s l) (k++[.num (cnt (totB cs s l) k)])=if 0<cnt (pickB cs l) k then 1 else 0:=by
 rw [cnt_grpB hl,List.dropLast_concat];unfold grow
 by_cases h0:0<cnt (pickB cs l) k
 ·rw [if_pos h0,if_pos h0]
  show (if _=_ then (1:Int) else 0)+0=1
  rw [if_pos rfl];rfl
 ·rw [if_neg h0,if_neg h0];rfl
theorem pick_len {cs:List Nat} {l:Bag} {k:Row} (h:cnt (pickB cs l) k≠0):k.length=cs.length:=by
 refine Classical.byContradiction fun hn=>h ?_
 rw [cnt_pickB]
 have:lin l (fun r=>if pickR cs r=k then 1 else 0)=lin l (fun _=>0):=lin_congr_cnt fun x _=>if_neg fun e=>hn (by rw [←e];simp [pickR])
 rw [this,lin_zero]
theorem len1 {k:Row} (h:k.length=1):k=[colR k 0]:=by
 match k,h with
 | [v],_=>rfl
structure F3 (f:List UInt8→Bag):Prop where
 nr:nn (f [114])
 nq:nn (f [113])
 ns:nn (f [115])
 r:∀ e∈f [114],∃ n t,e.1=[.num n,.txt t]∧ -9999≤n
 q:∀ e∈f [113],∃ n t,e.1=[.num n,.txt t]
 s:∀ e∈f [115],∃ t n,e.1=[.txt t,.num n]
variable {f:List UInt8→Bag}
theorem F3.rc (h:F3 f) {x:Row} (hx:cnt (f [114]) x≠0):∃ n t,x=[.num n,.txt t]:=by
 obtain ⟨e,he,rfl⟩:=Rise.mem_of_cnt hx;obtain ⟨n,t,h1,_⟩:=h.r e he;exact ⟨n,t,h1⟩
theorem F3.lr (h:F3 f) {g k:Row→Int} (hk:∀ n t,-9999≤n→g [.num n,.txt t]=k [.num n,.txt t]):lin (f [114]) g=lin (f [114]) k:=lin_congr_fun _ fun e he=>by
 obtain ⟨n,t,h1,h2⟩:=h.r e he;rw [h1];exact hk n t h2
theorem F3.lq (h:F3 f) {g k:Row→Int} (hk:∀ n t,g [.num n,.txt t]=k [.num n,.txt t]):lin (f [113]) g=lin (f [113]) k:=lin_congr_fun _ fun e he=>by
 obtain ⟨n,t,h1⟩:=h.q e he;rw [h1];exact hk n t
theorem F3.ls (h:F3 f) {g k:Row→Int} (hk:∀ t n,g [.txt t,.num n]=k [.txt t,.num n]):lin (f [115]) g=lin (f [115]) k:=lin_congr_fun _ fun e he=>by
 obtain ⟨n,t,h1⟩:=h.s e he;rw [h1];exact hk n t
theorem Eqv.of_eq {l m:Bag} (h:l=m):Eqv l m:=h ▸ Eqv.refl _
theorem none9 (h:F3 f) (r:Row):cnt (selB (selR 0 .lt (.val (.num (-9999)))) (f [114])) r=0:=by
 rw [cnt_eq_lin,selB_lin]
 refine (h.lr (k:=fun _=>0) fun n t hn=> ?_).trans (lin_zero _)
 have e:¬selR 0 .lt (.val (.num (-9999))) [.num n,.txt t]=true:=by
  simp only [selR,cmpV,colR,opdR,vlt,List.getD_cons_zero,decide_eq_true_eq];omega
 rw [if_neg e]
theorem join_cnt {a b:Bag} (ha:∀ x,cnt a x≠0→x.length=2) (z:Row):cnt (joinB 1 0 a b) z=if colR (z.take 2) 1=colR (z.drop 2) 0 then cnt a (z.take 2)*cnt b (z.drop 2) else 0:=by
 rw [cnt_eq_lin,joinB_lin,lin_only (z.take 2)]
 ·by_cases h0:cnt a (z.take 2)=0
  ·rw [h0];split <;> omega
  ·have hl:=ha _ h0
   rw [lin_only (z.drop 2)]
   ·by_cases hc:colR (z.take 2) 1=colR (z.drop 2) 0
    ·rw [if_pos (decide_eq_true hc),if_pos (List.take_append_drop 2 z),if_pos hc,Int.mul_one]
    ·rw [if_neg (by simpa using hc),if_neg hc];omega
   ·intro y _ hy
    split
    ·exact if_neg fun e=>hy (by rw [←e];rw [List.drop_append_of_le_length (by rw [hl];exact Nat.le_refl _),List.drop_of_length_le (by rw [hl];exact Nat.le_refl _)];rfl)
    ·rfl
 ·intro x hx hne
  have hl:=ha x hx
  refine (lin_congr_cnt (h:=fun _=>0) fun y _=> ?_).trans (lin_zero _)
  split
  ·exact if_neg fun e=>hne (by rw [←e,List.take_append_of_le_length (by rw [hl];exact Nat.le_refl _),List.take_of_length_le (by rw [hl];exact Nat.le_refl _)])
  ·rfl
theorem Nr_pos {l:Bag} (hl:nn l) (h:canon l≠[]):0<Nr l:=by
 have h1:=len_le_Nr hl
 cases hc:canon l with
 | nil=>exact absurd hc h
 | cons e m=>rw [hc] at h1;simp only [List.length_cons] at h1;omega
theorem pick_nil (l:Bag) (k:Row):cnt (pickB [] l) k=if k=[] then Nr l else 0:=by
 rw [cnt_pickB]
 by_cases e:k=[]
 ·subst e;rw [if_pos rfl];rfl
 ·rw [if_neg e]
  exact (lin_congr_cnt (h:=fun _=>0) fun x _=>if_neg fun e'=>e (by rw [←e'];rfl)).trans (lin_zero _)
theorem tot_nil (s:Option Nat) (l:Bag) (k:Row):cnt (totB [] s l) k=if k=[] then lin l (sv s) else 0:=by
 rw [cnt_totB']
 by_cases e:k=[]
 ·subst e;rw [if_pos rfl];rfl
 ·rw [if_neg e]
  exact (lin_congr_cnt (h:=fun _=>0) fun x _=>if_neg fun e'=>e (by rw [←e'];rfl)).trans (lin_zero _)
theorem grp_all (h:F3 f) (s:Option Nat):Eqv (grpB [] s (f [114])) (grpB [] (some 1) (grpB [1] s (f [114]))):=by
 by_cases he:canon (f [114])=[]
 ·have e1:∀ cs s,grpB cs s (f [114])=[]:=fun cs s=>by unfold grpB keysB;rw [he];rfl
  rw [e1,e1];exact Eqv.refl _
 ·have h1:=Nr_pos h.nr he
  have h2:0<Nr (grpB [1] s (f [114])):=by
   refine Nr_pos (grpB_nn _ _ _) fun e=> ?_
   obtain ⟨x,m,hm⟩:∃ x m,canon (f [114])=x::m:=by
    cases hc:canon (f [114]) with
    | nil=>exact absurd hc he
    | cons x m=>exact ⟨x,m,rfl⟩
   have hx:x∈canon (f [114]):=by rw [hm];simp
   have hp:0<cnt (pickB [1] (f [114])) (pickR [1] x.1):=(key_pos h.nr _).1 (by obtain ⟨k,hk,e⟩:=keys_mem (cs:=[1]) hx;exact ⟨k,hk,e⟩)
   have:=grp_cnt (cs:=[1]) (s:=s) h.nr (pickR [1] x.1)
   rw [if_pos hp,canon_nil_iff.1 e] at this;omega
  intro r;rw [cnt_grpB h.nr,cnt_grpB (grpB_nn _ _ _)];unfold grow;rw [pick_nil,pick_nil,tot_nil,tot_nil]
  by_cases hr:r.dropLast=[]
  ·simp only [if_pos hr]
   rw [if_pos h1,if_pos h2,grp_sum [1] s (f [114]) (sv (some 1))];rintro k n ⟨x,_,rfl⟩
   rfl
  ·simp only [if_neg hr]
theorem pr0 (h:F3 f):Eqv (bagT f (.uni (.tab [114]) (.tab [113]))) (bagT f (.uni (.tab [113]) (.tab [114]))):=by
 refine eqv_of_lin fun g=> ?_
 simp only [bagT,selB_lin,pickB_lin,joinB_lin,lin_append];omega
theorem pr1 (h:F3 f):Eqv (bagT f (.sel 0 .lt (.val (.num 3)) (.uni (.tab [114]) (.tab [113])))) (bagT f (.uni (.sel 0 .lt (.val (.num 3)) (.tab [114])) (.sel 0 .lt (.val (.num 3)) (.tab [113])))):=by
 refine eqv_of_lin fun g=> ?_
 simp only [bagT,selB_lin,pickB_lin,joinB_lin,lin_append]
theorem pr2 (h:F3 f):Eqv (bagT f (.pick [1,0] (.pick [1,0] (.tab [114])))) (bagT f (.tab [114])):=by
 refine eqv_of_lin fun g=> ?_
 simp only [bagT,selB_lin,pickB_lin,joinB_lin,lin_append]
 exact h.lr fun n t _=>rfl
theorem pr3 (h:F3 f):Eqv (bagT f (.pick [1] (.uni (.tab [114]) (.tab [113])))) (bagT f (.uni (.pick [1] (.tab [114])) (.pick [1] (.tab [113])))):=by
 refine eqv_of_lin fun g=> ?_
 simp only [bagT,selB_lin,pickB_lin,joinB_lin,lin_append]
theorem pr4 (h:F3 f):Eqv (bagT f (.sel 0 .lt (.val (.num 3)) (.sel 1 .ne (.val (.txt [98])) (.tab [114])))) (bagT f (.sel 1 .ne (.val (.txt [98])) (.sel 0 .lt (.val (.num 3)) (.tab [114])))):=by
 refine eqv_of_lin fun g=> ?_
 simp only [bagT,selB_lin,pickB_lin,joinB_lin,lin_append]
 exact h.lr fun n t _=>by split <;> split <;> rfl
theorem pr5 (h:F3 f):Eqv (bagT f (.uni (.sel 0 .lt (.val (.num 2)) (.tab [114])) (.sel 0 .eq (.val (.num 2)) (.tab [114])))) (bagT f (.sel 0 .lt (.val (.num 3)) (.tab [114]))):=by
 refine eqv_of_lin fun g=> ?_
 simp only [bagT,selB_lin,pickB_lin,joinB_lin,lin_append];rw [←lin_add]
 refine h.lr fun n t _=> ?_
 simp only [selR,cmpV,colR,opdR,vlt,List.getD_cons_zero,V.num.injEq,decide_eq_true_eq]
 split <;> split <;> split <;> omega
theorem pr6 (h:F3 f):Eqv (bagT f (.uni (.sel 1 .eq (.val (.txt [97,98])) (.tab [114])) (.sel 1 .ne (.val (.txt [97,98])) (.tab [114])))) (bagT f (.tab [114])):=by
 refine eqv_of_lin fun g=> ?_
 simp only [bagT,selB_lin,pickB_lin,joinB_lin,lin_append];rw [←lin_add]
 refine h.lr fun n t _=> ?_
 simp only [selR,cmpV,colR,opdR,List.getD_cons_succ,List.getD_cons_zero,V.txt.injEq,decide_eq_true_eq,Bool.not_eq_true',decide_eq_false_iff_not]
 split <;> simp_all
theorem pr7 (h:F3 f):Eqv (bagT f (.pick [1,0] (.tab [114]))) (bagT f (.pick [1,0] (.sel 0 .eq (.col 0) (.tab [114])))):=by
 refine eqv_of_lin fun g=> ?_
 simp only [bagT,selB_lin,pickB_lin,joinB_lin,lin_append]
 refine h.lr fun n t _=> ?_
 simp [selR,cmpV,colR,opdR]
theorem pr8 (h:F3 f):Eqv (bagT f (.uni (.uni (.tab [114]) (.tab [113])) (.tab [114]))) (bagT f (.uni (.tab [113]) (.uni (.tab [114]) (.tab [114])))):=by
 refine eqv_of_lin fun g=> ?_
 simp only [bagT,selB_lin,pickB_lin,joinB_lin,lin_append];omega
theorem pr9 (h:F3 f):Eqv (bagT f (.pick [0,0] (.tab [115]))) (bagT f (.pick [0,0] (.pick [0] (.tab [115])))):=by
 refine eqv_of_lin fun g=> ?_
 simp only [bagT,selB_lin,pickB_lin,joinB_lin,lin_append]
 exact h.ls fun t n=>rfl
theorem pr10 (h:F3 f):Eqv (bagT f (.uni (.pick [1,0] (.tab [114])) (.tab [115]))) (bagT f (.pick [1,0] (.uni (.tab [114]) (.pick [1,0] (.tab [115]))))):=by
 refine eqv_of_lin fun g=> ?_
 simp only [bagT,selB_lin,pickB_lin,joinB_lin,lin_append]
 congr 1
 exact h.ls fun t n=>rfl
theorem pr11 (h:F3 f):Eqv (bagT f (.sel 0 .ne (.col 0) (.tab [114]))) (bagT f (.sel 0 .lt (.val (.num (-9999))) (.tab [114]))):=by
 refine eqv_of_lin fun g=> ?_
 simp only [bagT,selB_lin,pickB_lin,joinB_lin,lin_append]
 refine h.lr fun n t hn=> ?_
 simp only [selR,cmpV,colR,opdR,vlt,List.getD_cons_zero,decide_true,Bool.not_true,Bool.false_eq_true,if_false,decide_eq_true_eq]
 rw [if_neg (by omega)]
theorem pr12 (h:F3 f):Eqv (bagT f (.sel 2 .lt (.col 3) (.pick [0,1,0,0] (.tab [114])))) (bagT f (.sel 0 .lt (.col 0) (.pick [0,1,0,0] (.tab [114])))):=by
 refine eqv_of_lin fun g=> ?_
 simp only [bagT,selB_lin,pickB_lin,joinB_lin,lin_append]
 refine h.lr fun n t hn=> ?_
 simp [selR,cmpV,colR,opdR,vlt,pickR]
theorem pr13 (h:F3 f):Eqv (bagT f (.sel 1 .lt (.val (.txt [98])) (.tab [114]))) (bagT f (.sel 1 .lt (.val (.txt [98])) (.sel 1 .lt (.val (.txt [99])) (.tab [114])))):=by
 refine eqv_of_lin fun g=> ?_
 simp only [bagT,selB_lin,pickB_lin,joinB_lin,lin_append]
 refine h.lr fun n t hn=> ?_
 by_cases hb:selR 1 .lt (.val (.txt [98])) [.num n,.txt t]=true
 ·have hc:selR 1 .lt (.val (.txt [99])) [.num n,.txt t]=true:=vlt_sto.trans (.txt t) (.txt [98]) (.txt [99]) hb (by decide)
  rw [if_pos hb,if_pos hc]
 ·rw [if_neg hb];split <;> rfl
theorem pr14 (h:F3 f):Eqv (bagT f (.dist (.dist (.tab [114])))) (bagT f (.dist (.tab [114]))):=by
 intro r;simp only [bagT,cnt_distB]
 by_cases e:cnt (f [114]) r=0 <;> simp [e]
theorem pr15 (h:F3 f):Eqv (bagT f (.dist (.uni (.tab [114]) (.tab [114])))) (bagT f (.dist (.tab [114]))):=by
 intro r;simp only [bagT,cnt_distB,cnt_append]
 by_cases e:cnt (f [114]) r=0
 ·rw [if_pos e,if_pos (by omega)]
 ·rw [if_neg e,if_neg (by omega)]
theorem pr16 (h:F3 f):Eqv (bagT f (.join 1 0 (.uni (.tab [114]) (.tab [113])) (.tab [115]))) (bagT f (.uni (.join 1 0 (.tab [114]) (.tab [115])) (.join 1 0 (.tab [113]) (.tab [115])))):=by
 refine eqv_of_lin fun g=> ?_
 simp only [bagT,selB_lin,pickB_lin,joinB_lin,lin_append]
theorem pr17 (h:F3 f):Eqv (bagT f (.pick [2,3,0,1] (.join 1 0 (.tab [114]) (.tab [115])))) (bagT f (.join 0 1 (.tab [115]) (.tab [114]))):=by
 refine eqv_of_lin fun g=> ?_
 simp only [bagT,selB_lin,pickB_lin,joinB_lin,lin_append];rw [lin_swap]
 refine h.ls fun t n=>h.lr fun m u _=> ?_
 simp [colR,pickR,eq_comm]
theorem pr18 (h:F3 f):Eqv (bagT f (.join 1 0 (.sel 0 .lt (.val (.num 3)) (.tab [114])) (.tab [115]))) (bagT f (.sel 0 .lt (.val (.num 3)) (.join 1 0 (.tab [114]) (.tab [115])))):=by
 refine eqv_of_lin fun g=> ?_
 simp only [bagT,selB_lin,pickB_lin,joinB_lin,lin_append]
 refine h.lr fun m u _=> ?_
 by_cases e:selR 0 .lt (.val (.num 3)) [.num m,.txt u]=true
 ·rw [if_pos e]
  refine h.ls fun t n=> ?_
  have e':selR 0 .lt (.val (.num 3)) ([.num m,.txt u]++[.txt t,.num n])=true:=e;rw [if_pos e']
 ·rw [if_neg e]
  symm
  have:lin (f [115]) (fun y=>if decide (colR [V.num m,V.txt u] 1=colR y 0)=true then (if selR 0 .lt (.val (.num 3)) ([V.num m,V.txt u]++y)=true then g ([V.num m,V.txt u]++y) else 0) else 0)=lin (f [115]) (fun _=>0):=lin_congr_fun _ fun y _=>by
   have e':¬selR 0 .lt (.val (.num 3)) ([.num m,.txt u]++y.1)=true:=e
   rw [if_neg e'];split <;> rfl
  exact this.trans (lin_zero _)
theorem pr19 (h:F3 f):Eqv (bagT f (.grp [1] none (.uni (.tab [114]) (.tab [114])))) (bagT f (.grp [1] none (.uni (.uni (.tab [114]) (.tab [114])) (.sel 0 .lt (.val (.num (-9999))) (.tab [114]))))):=by
 simp only [bagT]
 refine (Eqv.of_eq (grpB_eqv fun r=> ?_))
 rw [cnt_append,cnt_append,cnt_append,none9 h];omega
theorem pr20 (h:F3 f):Eqv (bagT f (.pick [0] (.grp [0] none (.tab [114])))) (bagT f (.dist (.pick [0] (.tab [114])))):=by
 intro r;simp only [bagT];rw [cnt_distB,cnt_pickB [0] (grpB _ _ _),lin_only (r++[.num (cnt (totB [0] none (f [114])) r)]),grp_cnt h.nr]
 ·have hnn:=pickB_nn (cs:=[0]) h.nr r
  by_cases h0:cnt (pickB [0] (f [114])) r=0
  ·rw [if_pos h0,if_neg (by omega)];omega
  ·have hk:=len1 (pick_len h0)
   rw [if_neg h0,if_pos (by omega),hk,Int.one_mul]
   exact if_pos rfl
 ·intro x hx hne
  refine if_neg fun e=>hne ?_
  obtain ⟨h1,h2⟩:=grp_row h.nr hx;have hk:=len1 (pick_len (Int.ne_of_gt h1))
  have:x.dropLast=r:=by
   rw [←e,h2,List.dropLast_concat,hk];rfl
  rw [this] at h2;exact h2
theorem pr21 (h:F3 f):Eqv (bagT f (.dist (.join 1 0 (.tab [114]) (.tab [115])))) (bagT f (.join 1 0 (.dist (.tab [114])) (.dist (.tab [115])))):=by
 intro z;simp only [bagT]
 rw [cnt_distB,join_cnt (fun x hx=>by obtain ⟨n,t,rfl⟩:=h.rc hx;rfl),join_cnt (fun x hx=>by rw [cnt_distB] at hx;obtain ⟨n,t,rfl⟩:=h.rc (x:=x) (fun e=>hx (if_pos e));rfl),cnt_distB,cnt_distB]
 by_cases hc:colR (z.take 2) 1=colR (z.drop 2) 0
 ·rw [if_pos hc,if_pos hc]
  by_cases h1:cnt (f [114]) (z.take 2)=0
  ·rw [h1];simp
  ·by_cases h2:cnt (f [115]) (z.drop 2)=0
   ·rw [h2];simp
   ·rw [if_neg h1,if_neg h2,if_neg (Int.mul_ne_zero h1 h2)];rfl
 ·rw [if_neg hc,if_neg hc];rfl
theorem pr22 (h:F3 f):Eqv (bagT f (.grp [0] (some 1) (.pick [1,0] (.tab [114])))) (bagT f (.grp [1] (some 0) (.tab [114]))):=by
 simp only [bagT]
 refine grp_same (pickB_nn h.nr) h.nr (fun k=> ?_) (fun k=> ?_)
 ·simp only [cnt_pickB,pickB_lin,selB_lin]
  exact h.lr fun n t _=>rfl
 ·simp only [cnt_totB',pickB_lin,selB_lin]
  exact h.lr fun n t _=>rfl
theorem pr23 (h:F3 f):Eqv (bagT f (.sel 0 .eq (.val (.txt [98])) (.grp [1] (some 0) (.tab [114])))) (bagT f (.grp [1] (some 0) (.sel 1 .eq (.val (.txt [98])) (.tab [114])))):=by
 intro r;simp only [bagT];rw [cnt_selB,cnt_grpB h.nr,cnt_grpB (selB_nn h.nr)]
 have e1:∀ k,cnt (pickB [1] (selB (selR 1 .eq (.val (.txt [98]))) (f [114]))) k=if k=[.txt [98]] then cnt (pickB [1] (f [114])) k else 0:=fun k=>by
  simp only [cnt_pickB,selB_lin]
  by_cases e:k=[.txt [98]]
  ·rw [if_pos e]
   refine h.lr fun n t _=> ?_
   subst e;simp only [selR,cmpV,colR,opdR,pickR,List.map_cons,List.map_nil,List.getD_cons_succ,List.getD_cons_zero,decide_eq_true_eq,List.cons.injEq,and_true]
   split <;> rfl
  ·rw [if_neg e]
   refine (h.lr (k:=fun _=>0) fun n t _=> ?_).trans (lin_zero _)
   simp only [selR,cmpV,colR,opdR,pickR,List.map_cons,List.map_nil,List.getD_cons_succ,List.getD_cons_zero,decide_eq_true_eq]
   split
   ·next h1=>rw [if_neg fun h2=>e (by rw [←h2,h1])]
   ·rfl
 have e2:∀ k,k=[.txt [98]]→cnt (totB [1] (some 0) (selB (selR 1 .eq (.val (.txt [98]))) (f [114]))) k=cnt (totB [1] (some 0) (f [114])) k:=fun k e=>by
  simp only [cnt_totB',selB_lin]
  refine h.lr fun n t _=> ?_
  subst e;simp only [selR,cmpV,colR,opdR,pickR,List.map_cons,List.map_nil,List.getD_cons_succ,List.getD_cons_zero,decide_eq_true_eq,List.cons.injEq,and_true]
  split <;> rfl
 by_cases e:r.dropLast=[.txt [98]]
 ·have hr:selR 0 .eq (.val (.txt [98])) r=true:=by
   match r,e with
   | [a,b],e =>
     have:a=.txt [98]:=by simpa using e
     subst this;rfl
  rw [if_pos hr];unfold grow;rw [e1,if_pos e,e2 _ e]
 ·have h2:cnt (grow [1] (some 0) (selB (selR 1 .eq (.val (.txt [98]))) (f [114])) r.dropLast) r=0:=by
   unfold grow;rw [e1,if_neg e,if_neg (by omega)];rfl
  rw [h2]
  by_cases hr:selR 0 .eq (.val (.txt [98])) r=true
  ·rw [if_pos hr,←cnt_grpB h.nr]
   refine Classical.byContradiction fun hx=>e ?_
   obtain ⟨h3,h4⟩:=grp_row h.nr hx;have hk:=len1 (pick_len (Int.ne_of_gt h3));rw [hk] at h4 ⊢;rw [h4] at hr
   have hv:colR r.dropLast 0=.txt [98]:=by simpa [selR,cmpV,colR,opdR] using hr
   rw [hv]
  ·rw [if_neg hr]
theorem pr24 (h:F3 f):Eqv (bagT f (.grp [] none (.tab [114]))) (bagT f (.grp [] (some 1) (.grp [1] none (.tab [114])))):=by
 simp only [bagT];exact grp_all h none
theorem pr25 (h:F3 f):Eqv (bagT f (.grp [] (some 0) (.tab [114]))) (bagT f (.grp [] (some 1) (.grp [1] (some 0) (.tab [114])))):=by
 simp only [bagT];exact grp_all h (some 0)
theorem pr26 (h:F3 f):Eqv (bagT f (.join 0 0 (.tab [114]) (.join 1 0 (.tab [113]) (.tab [115])))) (bagT f (.pick [4,5,0,1,2,3] (.join 0 0 (.join 1 0 (.tab [113]) (.tab [115])) (.tab [114])))):=by
 refine eqv_of_lin fun g=> ?_
 simp only [bagT,selB_lin,pickB_lin,joinB_lin,lin_append];rw [lin_swap]
 refine h.lq fun m u=> ?_
 rw [lin_swap]
 refine h.ls fun t n=> ?_
 by_cases hc:decide (colR [V.num m,V.txt u] 1=colR [V.txt t,V.num n] 0)=true
 ·simp only [if_pos hc]
  refine h.lr fun a b _=> ?_
  have e:(decide (colR [V.num a,V.txt b] 0=colR ([V.num m,V.txt u]++[V.txt t,V.num n]) 0)=true)=(decide (colR ([V.num m,V.txt u]++[V.txt t,V.num n]) 0=colR [V.num a,V.txt b] 0)=true):=by
   simp only [decide_eq_true_eq,eq_comm]
  simp only [e]
  rfl
 ·simp only [if_neg hc,lin_zero]
theorem pr27 (h:F3 f):Eqv (bagT f (.pick [0,1,3] (.join 1 1 (.tab [114]) (.tab [113])))) (bagT f (.pick [1,0,3] (.join 0 1 (.pick [1,0] (.tab [114])) (.tab [113])))):=by
 refine eqv_of_lin fun g=> ?_
 simp only [bagT,selB_lin,pickB_lin,joinB_lin,lin_append]
 refine h.lr fun m u _=>h.lq fun a b=> ?_
 simp [colR,pickR]
theorem pr28 (h:F3 f):Eqv (bagT f (.grp [1] none (.tab [114]))) (bagT f (.pick [0,1] (.join 0 0 (.grp [1] none (.tab [114])) (.grp [1] (some 0) (.tab [114]))))):=by
 refine eqv_of_lin fun g=> ?_
 simp only [bagT,pickB_lin,joinB_lin]
 refine lin_congr_cnt fun x hx=> ?_
 obtain ⟨h1,h2⟩:=grp_row h.nr hx;have hk:=len1 (pick_len (Int.ne_of_gt h1))
 have hx0:colR x 0=colR x.dropLast 0:=by rw [h2,List.dropLast_concat,hk];rfl
 have hd:decide (colR x 0=colR (x.dropLast++[V.num (cnt (totB [1] (some 0) (f [114])) x.dropLast)]) 0)=true:=by
  rw [hx0,decide_eq_true_eq,hk];rfl
 rw [lin_only (x.dropLast++[.num (cnt (totB [1] (some 0) (f [114])) x.dropLast)]),grp_cnt h.nr,if_pos h1,if_pos hd,Int.one_mul]
 ·congr 1
  generalize cnt (totB [1] (some 0) (f [114])) x.dropLast=m;rw [h2,List.dropLast_concat];rw [hk];rfl
 ·intro y hy hne
  refine if_neg fun e=>hne ?_
  obtain ⟨h3,h4⟩:=grp_row h.nr hy;have hk2:=len1 (pick_len (Int.ne_of_gt h3))
  have hy0:colR y 0=colR y.dropLast 0:=by rw [h4,List.dropLast_concat,hk2];rfl
  have:y.dropLast=x.dropLast:=by
   rw [hk2,hk,←hy0,←hx0];have e':=of_decide_eq_true e;rw [e']
  rw [this] at h4;exact h4
theorem pr29 (h:F3 f):Eqv (bagT f (.grp [0,1] none (.tab [114]))) (bagT f (.grp [0,1] none (.pick [0,1,1] (.sel 0 .eq (.col 0) (.tab [114]))))):=by
 simp only [bagT]
 refine grp_same h.nr (pickB_nn (selB_nn h.nr)) (fun k=> ?_) (fun k=> ?_)
 ·simp only [cnt_pickB,pickB_lin,selB_lin]
  exact h.lr fun n t _=>by simp [selR,cmpV,colR,opdR,pickR]
 ·simp only [cnt_totB',pickB_lin,selB_lin]
  exact h.lr fun n t _=>by simp [selR,cmpV,colR,opdR,pickR,sv]
def tq:Nat→Q × Q
 | 0=>(.uni (.tab [114]) (.tab [113]),.uni (.tab [113]) (.tab [114]))
 | 1=>(.sel 0 .lt (.val (.num 3)) (.uni (.tab [114]) (.tab [113])),.uni (.sel 0 .lt (.val (.num 3)) (.tab [114])) (.sel 0 .lt (.val (.num 3)) (.tab [113])))
 | 2=>(.pick [1,0] (.pick [1,0] (.tab [114])),.tab [114])
 | 3=>(.pick [1] (.uni (.tab [114]) (.tab [113])),.uni (.pick [1] (.tab [114])) (.pick [1] (.tab [113])))
 | 4=>(.sel 0 .lt (.val (.num 3)) (.sel 1 .ne (.val (.txt [98])) (.tab [114])),.sel 1 .ne (.val (.txt [98])) (.sel 0 .lt (.val (.num 3)) (.tab [114])))
 | 5=>(.uni (.sel 0 .lt (.val (.num 2)) (.tab [114])) (.sel 0 .eq (.val (.num 2)) (.tab [114])),.sel 0 .lt (.val (.num 3)) (.tab [114]))
 | 6=>(.uni (.sel 1 .eq (.val (.txt [97,98])) (.tab [114])) (.sel 1 .ne (.val (.txt [97,98])) (.tab [114])),.tab [114])
 | 7=>(.pick [1,0] (.tab [114]),.pick [1,0] (.sel 0 .eq (.col 0) (.tab [114])))
 | 8=>(.uni (.uni (.tab [114]) (.tab [113])) (.tab [114]),.uni (.tab [113]) (.uni (.tab [114]) (.tab [114])))
 | 9=>(.pick [0,0] (.tab [115]),.pick [0,0] (.pick [0] (.tab [115])))
 | 10=>(.uni (.pick [1,0] (.tab [114])) (.tab [115]),.pick [1,0] (.uni (.tab [114]) (.pick [1,0] (.tab [115]))))
 | 11=>(.sel 0 .ne (.col 0) (.tab [114]),.sel 0 .lt (.val (.num (-9999))) (.tab [114]))
 | 12=>(.sel 2 .lt (.col 3) (.pick [0,1,0,0] (.tab [114])),.sel 0 .lt (.col 0) (.pick [0,1,0,0] (.tab [114])))
 | 13=>(.sel 1 .lt (.val (.txt [98])) (.tab [114]),.sel 1 .lt (.val (.txt [98])) (.sel 1 .lt (.val (.txt [99])) (.tab [114])))
 | 14=>(.dist (.dist (.tab [114])),.dist (.tab [114]))
 | 15=>(.dist (.uni (.tab [114]) (.tab [114])),.dist (.tab [114]))
 | 16=>(.join 1 0 (.uni (.tab [114]) (.tab [113])) (.tab [115]),.uni (.join 1 0 (.tab [114]) (.tab [115])) (.join 1 0 (.tab [113]) (.tab [115])))
 | 17=>(.pick [2,3,0,1] (.join 1 0 (.tab [114]) (.tab [115])),.join 0 1 (.tab [115]) (.tab [114]))
 | 18=>(.join 1 0 (.sel 0 .lt (.val (.num 3)) (.tab [114])) (.tab [115]),.sel 0 .lt (.val (.num 3)) (.join 1 0 (.tab [114]) (.tab [115])))
 | 19=>(.grp [1] none (.uni (.tab [114]) (.tab [114])),.grp [1] none (.uni (.uni (.tab [114]) (.tab [114])) (.sel 0 .lt (.val (.num (-9999))) (.tab [114]))))
 | 20=>(.pick [0] (.grp [0] none (.tab [114])),.dist (.pick [0] (.tab [114])))
 | 21=>(.dist (.join 1 0 (.tab [114]) (.tab [115])),.join 1 0 (.dist (.tab [114])) (.dist (.tab [115])))
 | 22=>(.grp [0] (some 1) (.pick [1,0] (.tab [114])),.grp [1] (some 0) (.tab [114]))
 | 23=>(.sel 0 .eq (.val (.txt [98])) (.grp [1] (some 0) (.tab [114])),.grp [1] (some 0) (.sel 1 .eq (.val (.txt [98])) (.tab [114])))
 | 24=>(.grp [] none (.tab [114]),.grp [] (some 1) (.grp [1] none (.tab [114])))
 | 25=>(.grp [] (some 0) (.tab [114]),.grp [] (some 1) (.grp [1] (some 0) (.tab [114])))
 | 26=>(.join 0 0 (.tab [114]) (.join 1 0 (.tab [113]) (.tab [115])),.pick [4,5,0,1,2,3] (.join 0 0 (.join 1 0 (.tab [113]) (.tab [115])) (.tab [114])))
 | 27=>(.pick [0,1,3] (.join 1 1 (.tab [114]) (.tab [113])),.pick [1,0,3] (.join 0 1 (.pick [1,0] (.tab [114])) (.tab [113])))
 | 28=>(.grp [1] none (.tab [114]),.pick [0,1] (.join 0 0 (.grp [1] none (.tab [114])) (.grp [1] (some 0) (.tab [114]))))
 | _=>(.grp [0,1] none (.tab [114]),.grp [0,1] none (.pick [0,1,1] (.sel 0 .eq (.col 0) (.tab [114]))))
theorem tq_eqv (h:F3 f) (n:Nat):Eqv (bagT f (tq n).1) (bagT f (tq n).2) :=
 match n with
 | 0=>pr0 h
 | 1=>pr1 h
 | 2=>pr2 h
 | 3=>pr3 h
 | 4=>pr4 h
 | 5=>pr5 h
 | 6=>pr6 h
 | 7=>pr7 h
 | 8=>pr8 h
 | 9=>pr9 h
 | 10=>pr10 h
 | 11=>pr11 h
 | 12=>pr12 h
 | 13=>pr13 h
 | 14=>pr14 h
 | 15=>pr15 h
 | 16=>pr16 h
 | 17=>pr17 h
 | 18=>pr18 h
 | 19=>pr19 h
 | 20=>pr20 h
 | 21=>pr21 h
 | 22=>pr22 h
 | 23=>pr23 h
 | 24=>pr24 h
 | 25=>pr25 h
 | 26=>pr26 h
 | 27=>pr27 h
 | 28=>pr28 h
 | _+29=>pr29 h
end Go.Proofs.YtdinjjmcmfjbfaaGreatDoor.Mo
namespace Go.Proofs.YtdinjjmcmfjbfaaGreatDoor
def decV (l:List UInt8):Nat:=l.foldl (fun n c=>n*10+(c.toNat-48)) 0
theorem decV_snoc (l:List UInt8) (c:UInt8):decV (l++[c])=decV l*10+(c.toNat-48):=by simp [decV,List.foldl_append]
theorem digit_toNat {d:Nat} (h:d<10):(UInt8.ofNat (48+d)).toNat=48+d:=by simp [UInt8.toNat_ofNat];omega
theorem dec_val (u:Nat):decV (Lib.decDigits u)=u:=by
 induction u using Nat.strongRecOn with
 | _ u ih =>
   rw [Lib.decDigits]
   split
   ·rename_i h;simp only [decV,List.foldl_cons,List.foldl_nil];rw [digit_toNat h];omega
   ·rename_i h;rw [decV_snoc,ih (u / 10) (by omega),digit_toNat (Nat.mod_lt _ (by omega))];omega
theorem dec_chars (u:Nat):∀ c∈Lib.decDigits u,48≤c.toNat∧c.toNat≤57:=by
 induction u using Nat.strongRecOn with
 | _ u ih =>
   rw [Lib.decDigits]
   split
   ·rename_i h;intro c hc;simp only [List.mem_singleton] at hc;subst hc;rw [digit_toNat h];omega
   ·rename_i h;intro c hc
    rcases List.mem_append.1 hc with hc | hc
    ·exact ih _ (by omega) c hc
    ·simp only [List.mem_singleton] at hc;subst hc;rw [digit_toNat (Nat.mod_lt _ (by omega))];omega
theorem dec_ne (u:Nat):Lib.decDigits u≠[]:=by rw [Lib.decDigits];split <;> simp
theorem itoa_chars (n:Int):∀ c∈Lib.itoa n,c.toNat=45∨(48≤c.toNat∧c.toNat≤57):=by
 intro c hc;unfold Lib.itoa at hc
 split at hc
 ·rcases List.mem_cons.1 hc with rfl | hc
  ·exact .inl rfl
  ·exact .inr (dec_chars _ c hc)
 ·exact .inr (dec_chars _ c hc)
theorem itoa_ne (n:Int):Lib.itoa n≠[]:=by unfold Lib.itoa;split;simp;exact dec_ne _
theorem itoa_inj {n m:Int} (h:Lib.itoa n=Lib.itoa m):n=m:=by
 have key:∀ (u v:Nat),(45:UInt8)::Lib.decDigits u≠Lib.decDigits v:=by
  intro u v e
  have:=dec_chars v 45 (by rw [←e];simp)
  have h2:(45:UInt8).toNat=45:=rfl;omega
 unfold Lib.itoa at h
 split at h <;> split at h
 ·injection h with _ h
  have:=congrArg decV h;rw [dec_val,dec_val] at this;omega
 ·exact absurd h (key _ _)
 ·exact absurd h.symm (key _ _)
 ·have:=congrArg decV h;rw [dec_val,dec_val] at this;omega
theorem dec_len (k u:Nat) (h:u<10 ^ k) (hk:1≤k):(Lib.decDigits u).length≤k:=by
 induction k generalizing u with
 | zero=>omega
 | succ k ih =>
   rw [Lib.decDigits]
   split
   ·simp
   ·rename_i h10
    rw [List.length_append]
    have h1:u / 10<10 ^ k:=by rw [Nat.pow_succ] at h;omega
    have hk1:1≤k:=by
     cases k with
     | zero=>simp at h1;omega
     | succ k=>omega
    have:=ih (u / 10) h1 hk1
    simp;omega
theorem dec_pos (u:Nat):1≤(Lib.decDigits u).length:=by
 have:=dec_ne u
 cases h:Lib.decDigits u with
 | nil=>exact absurd h this
 | cons=>simp
open Mo (V Row Bag cnt canon Eqv)
theorem vText_chars {v:V} (h:VOk v):∀ c∈vText v,c≠40∧c≠41∧c≠44:=by
 intro c hc
 have:c.toNat=45∨(48≤c.toNat∧c.toNat≤57)∨(97≤c.toNat∧c.toNat≤122):=by
  cases v with
  | num n=>rcases itoa_chars n c hc with h | h;exact .inl h;exact .inr (.inl h)
  | txt s=>exact .inr (.inr (h.2.2 c hc))
 refine ⟨?_,?_,?_⟩ <;> rintro rfl <;> simp at this
theorem vText_ne {v:V} (h:VOk v):vText v≠[]:=by
 cases v with
 | num n=>exact itoa_ne n
 | txt s=>intro e;have:=h.1;rw [show s=[] from e] at this;simp at this
theorem vText_inj {v u:V} (hv:VOk v) (hu:VOk u) (h:vText v=vText u):v=u:=by
 have key:∀ (n:Int) (s:List UInt8),VOk (.txt s)→Lib.itoa n≠s:=by
  intro n s hs e
  cases s with
  | nil=>exact absurd hs.1 (by simp)
  | cons c s =>
    have h1:=itoa_chars n c (by rw [e];simp)
    have h2:=hs.2.2 c (by simp)
    omega
 cases v with
 | num n=>cases u with
   | num m=>exact congrArg _ (itoa_inj h)
   | txt s=>exact absurd h (key n s hu)
 | txt s=>cases u with
   | num m=>exact absurd h.symm (key m s hv)
   | txt t=>exact congrArg _ h
theorem cut_at {P:UInt8→Prop}:∀ {a b s t:List UInt8} {x y:UInt8},(∀ c∈a,¬P c)→(∀ c∈b,¬P c)→P x→P y→a++x::s=b++y::t→a=b∧x::s=y::t
 | [],[],_,_,_,_,_,_,_,_,h=>⟨rfl,by simpa using h⟩
 | [],c::b,_,_,_,_,_,hb,hx,_,h=>by
   injection h with h1 _;exact absurd (h1 ▸ hx) (hb c (by simp))
 | c::a,[],_,_,_,_,ha,_,_,hy,h=>by
   injection h with h1 _;exact absurd (h1 ▸ hy) (ha c (by simp))
 | c::a,d::b,s,t,x,y,ha,hb,hx,hy,h=>by
   injection h with h1 h2
   obtain ⟨e1,e2⟩:=cut_at (fun z hz=>ha z (by simp [hz])) (fun z hz=>hb z (by simp [hz])) hx hy h2
   exact ⟨by rw [h1,e1],e2⟩
theorem rowIn_pos (r:Row):∀ i,rowIn (i+1) r=rowIn 1 r:=by
 induction r with
 | nil=>intro i;rfl
 | cons v r ih=>intro i;simp [rowIn,ih (i+1),ih 1]
def rowTail (r:Row):List UInt8:=rowIn 1 r++[41]
theorem rowTail_cons (v:V) (r:Row):rowTail (v::r)=44::(vText v++rowTail r):=by simp [rowTail,rowIn,rowIn_pos r 1]
theorem rowTxt_cons (v:V) (r:Row):rowTxt (v::r)=40::(vText v++rowTail r):=by simp [rowTxt,rowTail,rowIn]
theorem rowTail_head (r:Row):∃ x s,rowTail r=x::s∧(x=41∨x=44):=by
 cases r with
 | nil=>exact ⟨41,[],rfl,.inl rfl⟩
 | cons v r=>exact ⟨44,_,rowTail_cons v r,.inr rfl⟩
theorem split_val {v u:V} {a b:Row} (hv:VOk v) (hu:VOk u) (h:vText v++rowTail a=vText u++rowTail b):v=u∧rowTail a=rowTail b:=by
 obtain ⟨x,s,e1,hx⟩:=rowTail_head a;obtain ⟨y,t,e2,hy⟩:=rowTail_head b;rw [e1,e2] at h
 obtain ⟨h1,h2⟩:=cut_at (P:=fun c=>c=41∨c=44) (fun c hc=>by have:=vText_chars hv c hc;rintro (h | h);exact this.2.1 h;exact this.2.2 h) (fun c hc=>by have:=vText_chars hu c hc;rintro (h | h);exact this.2.1 h;exact this.2.2 h) hx hy h
 exact ⟨vText_inj hv hu h1,by rw [e1,e2,h2]⟩
theorem rowTail_inj:∀ {r q:Row},(∀ v∈r,VOk v)→(∀ v∈q,VOk v)→rowTail r=rowTail q→r=q
 | [],[],_,_,_=>rfl
 | [],v::q,_,_,h=>by rw [rowTail_cons] at h;injection h with h;cases h
 | v::r,[],_,_,h=>by rw [rowTail_cons] at h;injection h with h;cases h
 | v::r,u::q,hr,hq,h=>by
   rw [rowTail_cons,rowTail_cons] at h
   injection h with _ h
   obtain ⟨h1,h2⟩:=split_val (hr v (by simp)) (hq u (by simp)) h
   rw [h1,rowTail_inj (fun x hx=>hr x (by simp [hx])) (fun x hx=>hq x (by simp [hx])) h2]
theorem rowTxt_inj {r q:Row} (hr:∀ v∈r,VOk v) (hq:∀ v∈q,VOk v) (h:rowTxt r=rowTxt q):r=q:=by
 have e0:rowTxt []=[40,41]:=rfl
 cases r with
 | nil =>
   cases q with
   | nil=>rfl
   | cons u q =>
     rw [e0,rowTxt_cons] at h
     injection h with _ h
     obtain ⟨x,s,e1,hx⟩:=rowTail_head q
     have hn:vText u≠[]:=vText_ne (hq u (by simp))
     cases hv:vText u with
     | nil=>exact absurd hv hn
     | cons c t =>
       rw [hv] at h
       injection h with h _
       exact absurd h.symm (vText_chars (hq u (by simp)) c (by rw [hv];simp)).2.1
 | cons v r =>
   cases q with
   | nil =>
     rw [e0,rowTxt_cons] at h
     injection h with _ h
     have hn:vText v≠[]:=vText_ne (hr v (by simp))
     cases hv:vText v with
     | nil=>exact absurd hv hn
     | cons c t =>
       rw [hv] at h
       injection h with h _
       exact absurd h (vText_chars (hr v (by simp)) c (by rw [hv];simp)).2.1
   | cons u q =>
     rw [rowTxt_cons,rowTxt_cons] at h
     injection h with _ h
     obtain ⟨h1,h2⟩:=split_val (hr v (by simp)) (hq u (by simp)) h
     rw [h1,rowTail_inj (fun x hx=>hr x (by simp [hx])) (fun x hx=>hq x (by simp [hx])) h2]
def RowC (c:UInt8):Prop:=c=40∨c=41∨c=44∨c=45∨(48≤c.toNat∧c.toNat≤57)∨(97≤c.toNat∧c.toNat≤122)
theorem vText_c {v:V} (h:VOk v):∀ c∈vText v,RowC c:=by
 intro c hc
 cases v with
 | num n =>
   rcases itoa_chars n c hc with h | h
   ·exact .inr (.inr (.inr (.inl (UInt8.toNat_inj.1 h))))
   ·exact .inr (.inr (.inr (.inr (.inl h))))
 | txt s=>exact .inr (.inr (.inr (.inr (.inr (h.2.2 c hc)))))
theorem rowIn_c:∀ (r:Row) (i:Nat),(∀ v∈r,VOk v)→∀ c∈rowIn i r,RowC c
 | [],_,_,c,hc=>by cases hc
 | v::r,i,h,c,hc=>by
   have h1:=rowIn_c r (i+1) (fun x hx=>h x (by simp [hx])) c
   unfold rowIn at hc
   rcases List.mem_append.1 hc with hc | hc
   ·split at hc
    ·cases hc
    ·simp only [List.mem_singleton] at hc;exact .inr (.inr (.inl hc))
   ·rcases List.mem_append.1 hc with hc | hc
    ·exact vText_c (h v (by simp)) c hc
    ·exact h1 hc
theorem rowTxt_c {r:Row} (h:∀ v∈r,VOk v):∀ c∈rowTxt r,RowC c:=by
 intro c hc;unfold rowTxt at hc
 rcases List.mem_cons.1 hc with rfl | hc
 ·exact .inl rfl
 ·rcases List.mem_append.1 hc with hc | hc
  ·exact rowIn_c r 0 h c hc
  ·simp only [List.mem_singleton] at hc;exact .inr (.inl hc)
theorem RowC.ne {c:UInt8} (h:RowC c):c≠42∧c≠59∧c≠124:=by
 refine ⟨?_,?_,?_⟩ <;> rintro rfl <;> simp [RowC] at h
theorem itoa_c (n:Int):∀ c∈Lib.itoa n,RowC c:=fun c hc=>by
 rcases itoa_chars n c hc with h | h
 ·exact .inr (.inr (.inr (.inl (UInt8.toNat_inj.1 h))))
 ·exact .inr (.inr (.inr (.inr (.inl h))))
def AllV (l:Bag):Prop:=∀ e∈l,∀ v∈e.1,VOk v
theorem entTxt_bar {e:Row × Int} (h:∀ v∈e.1,VOk v):∀ c∈entTxt e,c≠59∧c≠124:=by
 intro c hc;unfold entTxt at hc
 rcases List.mem_append.1 hc with hc | hc
 ·exact (rowTxt_c h c hc).ne.2
 ·rcases List.mem_cons.1 hc with rfl | hc
  ·decide
  ·exact (itoa_c _ c hc).ne.2
theorem bagIn_bar:∀ (l:Bag) (i:Nat),AllV l→∀ c∈bagIn i l,c≠124
 | [],_,_,c,hc=>by cases hc
 | e::l,i,h,c,hc=>by
   unfold bagIn at hc
   rcases List.mem_append.1 hc with hc | hc
   ·split at hc
    ·cases hc
    ·simp only [List.mem_singleton] at hc;subst hc;decide
   ·rcases List.mem_append.1 hc with hc | hc
    ·exact (entTxt_bar (h e (by simp)) c hc).2
    ·exact bagIn_bar l (i+1) (fun x hx=>h x (by simp [hx])) c hc
open Go.RowKit Go.Shelf
def cutS (c:Nat) (s:ByteArray):Nat→List ByteArray × Nat
 | 0=>([],0)
 | i+1=>if i=s.size∨Pl.bt s i=c then ((cutS c s i).1++[s.extract (cutS c s i).2 i],i+1) else cutS c s i
def cutB (c:Nat) (s:ByteArray):List ByteArray:=(cutS c s (s.size+1)).1
theorem cutS_le (c:Nat) (s:ByteArray):∀ i,(cutS c s i).2≤i∧(cutS c s i).1.length≤i
 | 0=>⟨Nat.le_refl _,Nat.le_refl _⟩
 | i+1=>by
   have ih:=cutS_le c s i;unfold cutS
   split
   ·exact ⟨Nat.le_refl _,by simp;omega⟩
   ·omega
theorem cutS_mono (c:Nat) (s:ByteArray) (i:Nat):∀ k,(cutS c s i).1.length≤(cutS c s (i+k)).1.length
 | 0=>Nat.le_refl _
 | k+1=>by
   have ih:=cutS_mono c s i k
   show _≤(cutS c s ((i+k)+1)).1.length
   rw [cutS]
   split
   ·simp;omega
   ·exact ih
theorem cutS_pre (c:Nat) (s:ByteArray) (i:Nat):∀ k,∃ r,(cutS c s (i+k)).1=(cutS c s i).1++r
 | 0=>⟨[],by rw [List.append_nil];rfl⟩
 | k+1=>by
   obtain ⟨r,ih⟩:=cutS_pre c s i k
   show ∃ r,(cutS c s ((i+k)+1)).1=_
   rw [cutS]
   split
   ·exact ⟨r++[_],by rw [ih,List.append_assoc]⟩
   ·exact ⟨r,ih⟩
theorem own_sl {w:World} {base:Nat} {e:TypeId} {v:Value} {n:Nat} {ls:List Value} (h:w.ownsRow base e 1 v n ls):∃ a cap,v=.slice a n cap:=by
 rcases h.2 with ⟨e,hn⟩ | ⟨g,cap,cur,e,_⟩
 ·exact ⟨none,0,by rw [e,hn]⟩
 ·exact ⟨_,_,e⟩
def strVs (l:List ByteArray):List Value:=l.map .string
theorem infoStr:(Tryz.prog.info? 9).map (fun i=>(i.zero,i.size,i.bytes))=some (some (.string ⟨#[]⟩),1,16):=by kernel_rfl
theorem cut_any (s:ByteArray) (m:Int) (w:World) (hs:s.size≤140737488355327) (hn:(cutB 124 s).length≤1000):Calls Tryz.prog 49 #[.string s,.int .i64 m] w fun e w'=>∃ v,e=.returned (.tuple #[v,.bool (((cutB 124 s).length:Int) == m)])∧w'.ownsRow w.heap.size 9 1 v (cutB 124 s).length (strVs (cutB 124 s))∧Kept No w w':=by
 obtain ⟨iu,hiu,hu0,hu1,hu2⟩:=info_parts infoStr;have HN0:=hid hn;clear hn
 go_enter Tryz.func49,Tryz.ntmps49
 go_wp2_with fail
 go_loopg [6,7,8] (s.size+1) (fun k v6 v7 v8 wr=>∃ (i c:Nat) (d:List ByteArray),i+k=s.size+1∧v8=.int .i64 (i:Int)∧v7=.int .i64 (c:Int)∧Hid (cutS 124 s i=(d,c))∧Hid (wr.ownsRow w.heap.size 9 1 v6 d.length (strVs d))∧Hid (Kept No w wr))
 case atStart=>exact ⟨0,0,[],by omega,rfl,rfl,hid rfl,hid (World.ownsRow_nil _ _ _ _),hid (Kept.refl _ _)⟩
 case round =>
  obtain ⟨i,c,d,hik,rfl,rfl,hS,hO,hK⟩:=hrel;have hle:=cutS_le 124 s i;have hle2:=cutS_mono 124 s i (gk)
  rw [show i+gk=s.size+1 by omega] at hle2
  rw [hS.out] at hle hle2;have hdk:d.length≤1000:=Nat.le_trans hle2 HN0.out;have hci:c≤i:=hle.1;have hdl:d.length≤i:=hle.2;clear hle hle2
  cases gk with
  | zero =>
    have hx:¬(i:Int)≤(s.size:Int):=by omega
    have HB:Hid (cutB 124 s=d):=by
     show _=_
     unfold cutB
     rw [show s.size+1=i by omega,hS.out]
    obtain ⟨dn,hdn⟩:∃ n,n=d.length:=⟨_,rfl⟩;have HO:=hO.out;rw [←hdn] at HO;obtain ⟨va,vcap,rfl⟩:=own_sl HO;have HO':=hid HO;have HDN:=hid hdn;clear hO HO hdn;go_wp2_with fail;go_ret2;rw [HB.out,←HDN.out];exact ⟨_,rfl,HO'.out,hK.out⟩
  | succ k =>
    have hx:(i:Int)≤(s.size:Int):=by omega
    have hx0:(0:Int)≤(i:Int):=by omega
    by_cases hcut:i=s.size∨Pl.bt s i=124
    ·have HN:Hid (cutS 124 s (i+1)=(d++[s.extract c i],i+1)):=by
      show _=_
      unfold cutS;rw [if_pos hcut,hS.out]
     have hown:=hO.out;obtain ⟨dn,hdn⟩:∃ n,n=d.length:=⟨_,rfl⟩;rw [←hdn] at hown hdl hdk;have HDN:=hid hdn;have HOwn:=hid hown;have hsz:=hK.out.size;clear hdn
     have hcI:(c:Int)≤(i:Int):=by omega
     have hc0:(0:Int)≤(c:Int):=by omega
     rcases Nat.lt_or_ge i s.size with hlt | hge
     ·have hx1:(i:Int)<(s.size:Int):=by omega
      have hne:((i:Int) == (s.size:Int))=false:=by simp;omega
      have hb:Pl.bt s i=124:=by rcases hcut with h | h;omega;exact h
      have hb':s[i].toNat=124:=by unfold Pl.bt at hb;rw [dif_pos hlt] at hb;exact hb
      clear hcut hb
      go_wp2_with (first
       | (at_builtin;refine wpList_append_own_at _ rfl _ _ 103 rfl w.heap.size 9 iu (.string ⟨#[]⟩) 1 16 Tryz.underlying103 hiu hu0 hu1 hu2 rfl (by decide) _ _ _ rfl (hown.alloc _) ⟨wr.heap.size,0,none⟩ 1 1 [.string (s.extract c i)] rfl rfl (World.news_of_block (cs:=#[.string (s.extract c i)]) (t:=9) (fr:=(0,0)) (heap_alloc_last wr _)) (by intro u hu;simp at hu;subst hu;rfl) (by unfold maxLen;omega) (by omega) (by simp;omega) ?_;intro v' w5 hown5 hg5 _ _)
       | fail)
      go_roundg k
      case measure=>omega
      case rel =>
       have hg:(wr.alloc (.cells #[.string (s.extract c i)] 9)).grownBy w5 u6.ownBlock:=hg5
       refine ⟨i+1,i+1,d++[s.extract c i],by omega,by go_num,by go_num,HN,?_,hid ((hK.out.alloc _).grown hg (fun x hx=>.inl (own_base HOwn.out x hx)))⟩
       show w5.ownsRow _ _ _ _ _ _
       rw [List.length_append,←HDN.out];unfold strVs;rw [List.map_append];exact hown5
     ·have hie:((i:Int) == (s.size:Int))=true:=by simp;omega
      clear hcut hge
      go_wp2_with (first
       | (at_builtin;refine wpList_append_own_at _ rfl _ _ 103 rfl w.heap.size 9 iu (.string ⟨#[]⟩) 1 16 Tryz.underlying103 hiu hu0 hu1 hu2 rfl (by decide) _ _ _ rfl (hown.alloc _) ⟨wr.heap.size,0,none⟩ 1 1 [.string (s.extract c i)] rfl rfl (World.news_of_block (cs:=#[.string (s.extract c i)]) (t:=9) (fr:=(0,0)) (heap_alloc_last wr _)) (by intro u hu;simp at hu;subst hu;rfl) (by unfold maxLen;omega) (by omega) (by simp;omega) ?_;intro v' w5 hown5 hg5 _ _)
       | fail)
      go_roundg k
      case measure=>omega
      case rel =>
       have hg:(wr.alloc (.cells #[.string (s.extract c i)] 9)).grownBy w5 u6.ownBlock:=hg5
       refine ⟨i+1,i+1,d++[s.extract c i],by omega,by go_num,by go_num,HN,?_,hid ((hK.out.alloc _).grown hg (fun x hx=>.inl (own_base HOwn.out x hx)))⟩
       show w5.ownsRow _ _ _ _ _ _
       rw [List.length_append,←HDN.out];unfold strVs;rw [List.map_append];exact hown5
    ·have HN:Hid (cutS 124 s (i+1)=(d,c)):=by
      show _=_
      unfold cutS;rw [if_neg hcut,hS.out]
     have hne':i≠s.size:=fun e=>hcut (.inl e)
     have hlt:i<s.size:=by omega
     have hx1:(i:Int)<(s.size:Int):=by omega
     have hne:((i:Int) == (s.size:Int))=false:=by simp;omega
     have hb':¬s[i].toNat=124:=fun e=>hcut (.inr (by unfold Pl.bt;rw [dif_pos hlt];exact e))
     clear hcut hne';go_wp2_with fail;go_roundg k
     case measure=>omega
     case rel=>exact ⟨i+1,c,d,by omega,by go_num,rfl,HN,hO,hK⟩
open Go.RowKit Go.Shelf Go.Deep
open Mo (V Row Bag cnt canon Eqv OkB OkD neg Nr Q leaves bagQ tyQ wf joins TOk wv ty Tab)
theorem bt_mk {L:List UInt8} {j:Nat} {c:UInt8} (h:L[j]? =some c):Pl.bt ⟨L.toArray⟩ j=c.toNat:=by
 obtain ⟨hl,e⟩:=List.getElem?_eq_some_iff.1 h;unfold Pl.bt
 have hs:j<(⟨L.toArray⟩:ByteArray).size:=by show j<L.toArray.size;simpa using hl
 rw [dif_pos hs]
 show (L.toArray[j]'_).toNat=_
 simp [e]
theorem cutS_stay (c:Nat) (s:ByteArray) (i:Nat):∀ k,(∀ j,i≤j→j<i+k→j≠s.size∧Pl.bt s j≠c)→cutS c s (i+k)=cutS c s i
 | 0,_=>rfl
 | k+1,h=>by
   have ih:=cutS_stay c s i k fun j h1 h2=>h j h1 (by omega)
   have h1:=h (i+k) (by omega) (by omega)
   show cutS c s ((i+k)+1)=_
   rw [cutS,if_neg (by rintro (e | e);exact h1.1 e;exact h1.2 e),ih]
theorem cut_two {x y:List UInt8} (hx:∀ c∈x,c≠124) (hy:∀ c∈y,c≠124):cutB 124 ⟨(x++124::y).toArray⟩=[⟨x.toArray⟩,⟨y.toArray⟩]:=by
 obtain ⟨s,hs⟩:∃ s:ByteArray,s=⟨(x++124::y).toArray⟩:=⟨_,rfl⟩
 have hz:s.size=x.length+1+y.length:=by rw [hs];show (x++124::y).toArray.size=_;simp;omega
 have hb:∀ j c,(x++124::y)[j]? =some c→Pl.bt s j=c.toNat:=fun j c h=>by rw [hs];exact bt_mk h
 have n124:∀ c:UInt8,c≠124→c.toNat≠124:=fun c h e=>h (UInt8.toNat_inj.1 e)
 have s1:cutS 124 s (0+x.length)=cutS 124 s 0:=cutS_stay 124 s 0 _ fun j _ hj=>by
  refine ⟨by omega,?_⟩
  have hj':j<x.length:=by omega
  rw [hb j x[j] (by rw [List.getElem?_append_left hj'];exact List.getElem?_eq_getElem hj')]
  exact n124 _ (hx _ (List.getElem_mem _))
 have s2:cutS 124 s (x.length+1)=([s.extract 0 x.length],x.length+1):=by
  rw [cutS,if_pos (.inr (hb _ 124 (by rw [List.getElem?_append_right (Nat.le_refl _)];simp)))]
  rw [Nat.zero_add] at s1;rw [s1];rfl
 have s3:cutS 124 s (x.length+1+y.length)=cutS 124 s (x.length+1):=cutS_stay 124 s _ _ fun j h1 h2=>by
  refine ⟨by omega,?_⟩
  have hj':j-(x.length+1)<y.length:=by omega
  rw [hb j y[j-(x.length+1)] (by
   rw [List.getElem?_append_right (by omega),show j-x.length=(j-(x.length+1))+1 by omega,List.getElem?_cons_succ]
   exact List.getElem?_eq_getElem hj')]
  exact n124 _ (hy _ (List.getElem_mem _))
 rw [←hs];unfold cutB;rw [hz,cutS,if_pos (.inl hz.symm),s3,s2]
 have e1:s.extract 0 x.length=⟨x.toArray⟩:=by rw [hs,ByteArray.extract_mk];simp
 have e2:s.extract (x.length+1) (x.length+1+y.length)=⟨y.toArray⟩:=by
  rw [hs,ByteArray.extract_mk]
  have:(x++124::y).drop (x.length+1)=y:=by rw [←List.drop_drop,List.drop_append_of_le_length (Nat.le_refl _)];simp
  rw [this];simp
 simp only [e1,e2];rfl
theorem BWr.allV {us:List Bool} {l:Bag} (h:BWr us l):AllV (canon l):=fun e he=>(h.ty e.1 (Mo.mem_canon_cnt he)).1.2
theorem Mine.good {w0 w:World} {p:Nat} {st:Mo.Ses} (h:Mine w0 w p st):Mo.TabsGood st.tabs:=by
 obtain ⟨X,⟨O,xs,vs,tv,vv,h,_⟩,_⟩:=h;exact h.good
theorem Mine.ok {w0 w:World} {p:Nat} {st:Mo.Ses} (h:Mine w0 w p st) {q:Q} (hq:q∈st.views):∃ ts,tyQ (Mo.ftT st.tabs) q=some ts∧OkB ts (Mo.bagS st.tabs q)∧Nr (Mo.bagS st.tabs q)≤50000000000:=by
 obtain ⟨X,⟨O,xs,vs,tv,vv,h,_⟩,_⟩:=h;rw [←h.vq] at hq;obtain ⟨V,hV,rfl⟩:=List.mem_map.1 hq;exact ⟨V.ts,(h.fx.fix V hV).ty,h.okS hV⟩
theorem feed_ok {st:Mo.Ses} {s:ByteArray}:((feedM st s).1.2=0→(feedM st s).1.1=bars (st.views.map fun q=>bagTxt (Mo.bagS (feedM st s).2.tabs q++neg (Mo.bagS st.tabs q))))∧((feedM st s).1.2≠0→(feedM st s).1.1=[]∧(feedM st s).2=st):=by
 unfold feedM
 split
 ·exact ⟨fun e=>absurd (show (1:Int)=0 from e) (by decide),fun _=>⟨rfl,rfl⟩⟩
 ·split
  ·exact ⟨fun e=>absurd (show (2:Int)=0 from e) (by decide),fun _=>⟨rfl,rfl⟩⟩
  ·next os _ =>
   by_cases h1:fitP (tr0 st.tabs) os≠0
   ·rw [if_pos h1];exact ⟨fun e=>absurd e h1,fun _=>⟨rfl,rfl⟩⟩
   ·rw [if_neg h1]
    by_cases h2:bearP (psM st.tabs (chg (tr0 st.tabs) os)) 0≠0
    ·rw [if_pos h2];exact ⟨fun e=>absurd e h2,fun _=>⟨rfl,rfl⟩⟩
    ·rw [if_neg h2];exact ⟨fun _=>rfl,fun e=>absurd rfl e⟩
theorem bagS_bagT (tb:List Tab) (q:Q):Eqv (Mo.bagS tb q) (Mo.bagT (Mo.bagN tb) q):=Mo.bagQ_bagT q 0 fun j nm hj=>by
 unfold Mo.leafG;rw [Nat.zero_add,hj];exact Eqv.refl _
theorem fr_ft:Mo.ftT fr3.tabs [114]=some [false,true]∧Mo.ftT fr3.tabs [113]=some [false,true]∧Mo.ftT fr3.tabs [115]=some [true,false]:=⟨by kernel_rfl,by kernel_rfl,by kernel_rfl⟩
theorem ft_bag {tb:List Tab} (hg:Mo.TabsGood tb) {nm:List UInt8} {us:List Bool} (h:Mo.ftT tb nm=some us):Mo.nn (Mo.bagN tb nm)∧Mo.RT us (Mo.bagN tb nm)∧∀ e∈Mo.bagN tb nm,∀ v∈e.1,wv v≤9999:=by
 obtain ⟨t,ht,rfl⟩:=Option.map_eq_some_iff.1 h;unfold Mo.bagN;rw [ht]
 have:=hg.each t (Mo.tabT_some ht).1
 exact ⟨this.nn,this.rt,this.num⟩
theorem row_nt {r:Row} (h:r.map ty=[false,true]):∃ n t,r=[.num n,.txt t]:=by
 match r,h with
 | [.num n,.txt t],_=>exact ⟨n,t,rfl⟩
 | [.num n,.num t],h=>simp [ty] at h
 | [.txt n,_],h=>simp [ty] at h
theorem row_tn {r:Row} (h:r.map ty=[true,false]):∃ t n,r=[.txt t,.num n]:=by
 match r,h with
 | [.txt n,.num t],_=>exact ⟨n,t,rfl⟩
 | [.txt n,.txt t],h=>simp [ty] at h
 | [.num n,_],h=>simp [ty] at h
theorem f3_of {tb:List Tab} (hg:Mo.TabsGood tb) (hf:Mo.ftT tb=Mo.ftT fr3.tabs):Mo.F3 (Mo.bagN tb):=by
 obtain ⟨e1,e2,e3⟩:=fr_ft;rw [←hf] at e1 e2 e3;obtain ⟨a1,a2,a3⟩:=ft_bag hg e1;obtain ⟨b1,b2,b3⟩:=ft_bag hg e2;obtain ⟨c1,c2,c3⟩:=ft_bag hg e3
 refine ⟨a1,b1,c1,fun e he=> ?_,fun e he=>row_nt (b2 e he),fun e he=>row_tn (c2 e he)⟩
 obtain ⟨n,t,h⟩:=row_nt (a2 e he);refine ⟨n,t,h,?_⟩
 have:=a3 e he (.num n) (by rw [h];simp)
 have hw:wv (.num n)=(n.natAbs:Int):=rfl;omega
theorem tq_bag {tb:List Tab} (hg:Mo.TabsGood tb) (hf:Mo.ftT tb=Mo.ftT fr3.tabs) (n:Nat):Eqv (Mo.bagS tb (Mo.tq n).1) (Mo.bagS tb (Mo.tq n).2) :=
 ((bagS_bagT tb _).trans (Mo.tq_eqv (f3_of hg hf) n)).trans (bagS_bagT tb _).symm
def twN (n:Nat):Bool:=decide ((viewM fr3 (tw n).1).1.2.2=0) && decide ((viewM fr3 (tw n).2).1.2.2=0) && decide ((viewM fr3 (tw n).1).2.views=[(Mo.tq n).1]) && decide ((viewM fr3 (tw n).2).2.views=[(Mo.tq n).2])
theorem tw_all:(List.range 30).all twN=true:=by kernel_rfl
theorem tw_n {n:Nat} (h:n<30):(viewM fr3 (tw n).1).1.2.2=0∧(viewM fr3 (tw n).2).1.2.2=0∧(viewM fr3 (tw n).1).2.views=[(Mo.tq n).1]∧(viewM fr3 (tw n).2).2.views=[(Mo.tq n).2]:=by
 have:=List.all_eq_true.1 tw_all n (List.mem_range.2 h)
 unfold twN at this;simp only [Bool.and_eq_true,decide_eq_true_eq] at this;exact ⟨this.1.1.1,this.1.1.2,this.1.2,this.2⟩
theorem view_is {s:ByteArray} {q:Q} (h0:(viewM fr3 s).1.2.2=0) (hq:(viewM fr3 s).2.views=[q]) {st:Mo.Ses} (hf:Mo.ftT st.tabs=Mo.ftT fr3.tabs) (hl:st.views.length≠6):viewM st s=(((st.views.length:Int),bagTxt (Mo.bagS st.tabs q),0),⟨st.tabs,st.views++[q]⟩):=by
 obtain ⟨q',e3,e4⟩:=(view_code (a:=fr3) (b:=st) hf (by rw [fr_vs];decide) hl s).2 h0
 have:q'=q:=by
  rw [e3,fr_vs] at hq
  simpa using hq
 rw [←this];exact e4
theorem feed_code0 {st:Mo.Ses} {s:ByteArray} {p q:Q} (hv:st.views=[p,q]) (hc:(feedM st s).1.2=0) (hp:Eqv (Mo.bagS st.tabs p) (Mo.bagS st.tabs q)) (hn:Eqv (Mo.bagS (feedM st s).2.tabs p) (Mo.bagS (feedM st s).2.tabs q)) :
 (feedM st s).1.1=bagTxt (Mo.bagS (feedM st s).2.tabs p++neg (Mo.bagS st.tabs p))++124::bagTxt (Mo.bagS (feedM st s).2.tabs p++neg (Mo.bagS st.tabs p)):=by
 rw [(feed_ok.1 hc),hv]
 have e:bagTxt (Mo.bagS (feedM st s).2.tabs q++neg (Mo.bagS st.tabs q))=bagTxt (Mo.bagS (feedM st s).2.tabs p++neg (Mo.bagS st.tabs p)):=by
  unfold bagTxt;rw [(Eqv.append hn hp.neg).canon]
 simp only [List.map_cons,List.map_nil,e]
 simp [bars,barFrom]
end Go.Proofs.YtdinjjmcmfjbfaaGreatDoor
