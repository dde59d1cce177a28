import Derived.Test.YtdinjjmcmfjbfaaGreatDoorNtJ
import Derived.Deep.LoopGhost
import Derived.Test.YtdinjjmcmfjbfaaGreatDoorQbJ
import Derived.Laws.CopyRow
import Derived.Deep.RegionHeld3
import Derived.Deep.RegionLaw
import Derived.Deep.DrawnRows
import Derived.Test.YtdinjjmcmfjbfaaGreatDoorQmJ
import Derived.Deep.MidRow
import Derived.Lib.BytesEntry
import Derived.Sort.Grow
import Derived.Lib.Bytealg
import Derived.BigQuiet
set_option maxRecDepth 100000
set_option maxHeartbeats 4000000
namespace Go.Proofs.YtdinjjmcmfjbfaaGreatDoor
open Go.RowKit
open Mo (V Row Bag cnt canon Eqv OkB OkD)
theorem give_any (b c cap:Nat) (sa:Option Addr) (Ts:List Value) (w:World) (I:Nat→World→Prop) (hn:Ts.length≤1000000)
 (hb:w.cell? ⟨b,0,none⟩=some (.slice sa Ts.length cap)) (h0:I 0 w)
 (hcell:∀ i T wr,I i wr→Ts[i]? =some T→∃ g o,sa=some ⟨g,o,none⟩∧wr.cell? ⟨g,o+i,none⟩=some T)
 (hstep:∀ i T wr,Ts[i]? =some T→I i wr→Calls Tryz.prog 47 #[.map (some c),T] wr fun e w'=>e=.returned (.tuple #[])∧I (i+1) w') :
 Calls Tryz.prog 250 #[.pointer (some ⟨b,0,none⟩),.map (some c)] w fun e w'=>e=.returned (.tuple #[])∧I Ts.length w':=by
 have HC:=hid hcell;have HS:=hid hstep;have H0:=hid h0;clear hcell hstep h0;obtain ⟨n,hnn⟩:∃ n,Ts.length=n:=⟨_,rfl⟩;have HN:=hid hnn;rw [hnn] at hb hn ⊢;clear hnn
 go_enter Tryz.func250,Tryz.ntmps250
 go_wp2_with fail
 go_loopg [11] n (fun k v11 wr=>∃ i:Nat,i+k=n∧v11=.int .i64 (i:Int)∧Hid (I i wr))
 case atStart=>exact ⟨0,by omega,rfl,H0⟩
 case round =>
  obtain ⟨i,hik,rfl,hI⟩:=hrel
  cases gk with
  | zero =>
    have hx:¬(i:Int)<(n:Int):=by omega
    obtain rfl:i=n:=by omega
    go_wp2_with fail;go_end0;exact ⟨rfl,hI.out⟩
  | succ k =>
    have hx:(i:Int)<(n:Int):=by omega
    have hx0:(0:Int)≤(i:Int):=by omega
    obtain ⟨T,hT⟩:∃ T,Ts[i]? =some T:=⟨_,List.getElem?_eq_getElem (by have:=HN.out;omega)⟩
    obtain ⟨g,o,rfl,hc⟩:=HC.out i T wr hI.out hT;have HSt:=hid (HS.out i T wr hT hI.out);clear hT;go_wp2_with fail;refine HSt.out.mono ?_;rintro e w1 ⟨rfl,hI1⟩;have HI1:=hid hI1;clear hI1 hc;go_wp2_with fail;go_roundg k
    case measure=>omega
    case rel=>exact ⟨i+1,by omega,by go_num,HI1⟩
structure Takes (ty:TypeId) (f:Nat) (p:Addr) (A:Nat→Prop) (ts:List Bool) (Gd:Bag→Prop) (R:World→Ow→Bag→Prop):Prop where
 zero:¬A 0
 one:¬A 1
 ok:∀ {B:Bag},Gd B→OkB ts B
 gde:∀ {B B':Bag},Gd B→Eqv B B'→Gd B'
 stab:∀ {w w':World} {O O':Ow} {B:Bag},R w O B→w.heap.size≤w'.heap.size→(∀ k,k<w.heap.size→A (O k)∨O k=1→w'.heap[k]? =w.heap[k]?∧O' k=O k)→R w' O' B
 eqv:∀ {w:World} {O:Ow} {B B':Bag},R w O B→Eqv B B'→R w O B'
 met:TyTake ty f
 run:∀ (w:World) (O:Ow) (B d:Bag) (c:Nat),R w O B→Gd B→Gd (B++d)→BagAt w c (canon d)→¬A (O c)→Calls Tryz.prog f #[.pointer (some p),.map (some c)] w (TakeEnd A R (B++d) w O)
section
variable {ty:TypeId} {f:Nat} {p:Addr} {A:Nat→Prop} {ts:List Bool} {Gd:Bag→Prop} {R:World→Ow→Bag→Prop}
theorem Takes.kept (h:Takes ty f p A ts Gd R) {w w':World} {O O':Ow} {B:Bag} {S:Nat→Prop} (hR:R w O B) (hk:Kept S w w') (hS:∀ k,S k→¬A (O k)∧O k≠1) (hO:∀ k,k<w.heap.size→O' k=O k):R w' O' B :=
 h.stab hR hk.size fun k hk' hA=>⟨hk.block k hk' fun e=>hA.elim (hS k e).1 (hS k e).2,hO k hk'⟩
theorem Takes.deliver (h:Takes ty f p A ts Gd R) {w:World} {O:Ow} {B d:Bag} {c:Nat} (hR:R w O B) (h1:Gd B) (h2:Gd (B++d)) (hc:BagAt w c (canon d)) (hA:¬A (O c)) :
 Calls Tryz.prog 47 #[.map (some c),.iface ty (.pointer (some p))] w (TakeEnd A R (B++d) w O):=by
 refine deliver_any h.met p c ts d w _ hc ((h.ok h1).chg (h.ok h2)) (fun hd=> ?_) (fun hd=> ?_)
 ·exact ⟨rfl,O,fun _ _=>rfl,Kept.refl _ _,h.eqv hR (Mo.eqv_nil_append hd)⟩
 ·exact (h.run w O B d c hR h1 h2 hc hA).mono fun e w' he=>⟨he.1,he⟩
theorem Takes.give (h:Takes ty f p A ts Gd R) {w:World} {O:Ow} {B d:Bag} {b c g o cap:Nat} (hb:w.cell? ⟨b,0,none⟩=some (.slice (some ⟨g,o,none⟩) 1 cap)) (hg:w.cell? ⟨g,o,none⟩=some (.iface ty (.pointer (some p))))
 (hR:R w O B) (h1:Gd B) (h2:Gd (B++d)) (hc:BagAt w c (canon d)) (hA:¬A (O c)) :
 Calls Tryz.prog 250 #[.pointer (some ⟨b,0,none⟩),.map (some c)] w (TakeEnd A R (B++d) w O):=by
 have:=give_any b c cap (some ⟨g,o,none⟩) [.iface ty (.pointer (some p))] w (fun i wr=>if i=0 then wr=w else TakeEnd A R (B++d) w O (.returned (.tuple #[])) wr) (by simp) hb (by simp)
  (fun i T wr hI hT=>by
    have hi:i=0:=by have:=(List.getElem?_eq_some_iff.1 hT).1;simp at this;exact this
    subst hi
    have hI:wr=w:=by simpa using hI
    subst hI
    have:Value.iface ty (.pointer (some p))=T:=by simpa using hT
    subst this
    exact ⟨g,o,rfl,hg⟩)
  (fun i T wr hT hI=>by
    have hi:i=0:=by have:=(List.getElem?_eq_some_iff.1 hT).1;simp at this;exact this
    subst hi
    have hI:wr=w:=by simpa using hI
    subst hI
    have:Value.iface ty (.pointer (some p))=T:=by simpa using hT
    subst this
    exact (h.deliver hR h1 h2 hc hA).mono fun e w' he=>⟨he.1,by rw [if_neg (by omega)];exact ⟨rfl,he.2⟩⟩)
 refine this.mono fun e w' ⟨he,hI⟩=> ?_
 subst he
 simpa using hI
end
open Mo (V Row Bag cnt canon colR)
theorem enc_get:∀ (r:Row) (i:Nat) (v:V),r[i]? =some v→∀ j x,(encV v)[j]? =some x→(r.flatMap encV)[i*6+j]? =some x
 | [],i,v,h,_,_,_=>by simp at h
 | y::r,0,v,h,j,x,hx=>by
   have:y=v:=by simpa using h
   subst this;rw [List.flatMap_cons,Nat.zero_mul,Nat.zero_add,List.getElem?_append_left (List.getElem?_eq_some_iff.1 hx).1];exact hx
 | y::r,i+1,v,h,j,x,hx=>by
   have ih:=enc_get r i v (by simpa using h) j x hx
   rw [List.flatMap_cons,List.getElem?_append_right (by rw [encV_len];omega),encV_len,show (i+1)*6+j-6=i*6+j by omega];exact ih
theorem enc_len (r:Row):(r.flatMap encV).length=r.length*6:=by
 induction r with
 | nil=>rfl
 | cons v r ih=>rw [List.flatMap_cons,List.length_append,encV_len,ih,List.length_cons];omega
theorem enc_one (r:Row):∀ v∈r.flatMap encV,v.oneCell'=true:=by
 intro v hv;obtain ⟨x,_,hx⟩:=List.mem_flatMap.1 hv;simp only [encV,List.mem_cons,List.not_mem_nil,or_false] at hx
 rcases hx with h | h | h | h | h | h <;> subst h <;> rfl
def SrcAt (w:World) (v:Value) (q:Row):Prop:=∃ b o cap,v=.slice (some ⟨b,o,none⟩) q.length cap∧b<w.heap.size∧∀ i x,q[i]? =some x→∀ j y,(encV x)[j]? =some y→w.cell? ⟨b,o+i*6+j,none⟩=some y
theorem RowAt.src {w:World} {v:Value} {r:Row} (h:RowAt w v r):SrcAt w v r:=by
 obtain ⟨b,o,cap,c,z,e,hb,_,hc⟩:=h
 exact ⟨b,o,cap,e,lt_of_heap hb,fun i x hx j y hy=>by rw [cell_of hb];exact hc i x hx j y hy⟩
theorem SrcAt.kept {S:Nat→Prop} {w w':World} {v:Value} {q:Row} (h:SrcAt w v q) (k:Kept S w w') (hS:∀ b,v.ownBlock=some b→¬S b):SrcAt w' v q:=by
 obtain ⟨b,o,cap,rfl,hb,h1⟩:=h
 exact ⟨b,o,cap,rfl,Nat.lt_of_lt_of_le hb k.size,fun i x hx j y hy=>(k.cell hb (hS b rfl)).trans (h1 i x hx j y hy)⟩
theorem colR_append_left {r q:Row} {i:Nat} (h:i<r.length):colR (r++q) i=colR r i:=by
 unfold colR;rw [List.getD_eq_getElem?_getD,List.getD_eq_getElem?_getD,List.getElem?_append_left h]
theorem colR_append_right {r q:Row} {i:Nat} (h:r.length≤i):colR (r++q) i=colR q (i-r.length):=by
 unfold colR;rw [List.getD_eq_getElem?_getD,List.getD_eq_getElem?_getD,List.getElem?_append_right h]
theorem colR_out {r:Row} {i:Nat} (h:r.length≤i):colR r i=.num 0:=by
 unfold colR;rw [List.getD_eq_getElem?_getD,List.getElem?_eq_none h];rfl
theorem colR_get {r:Row} {i:Nat} (h:i<r.length):r[i]? =some (colR r i):=by
 unfold colR;rw [List.getD_eq_getElem?_getD,List.getElem?_eq_getElem h];rfl
theorem and_cells (r q:Row) (h:r.length+q.length≤6) :
 (((rowA r).toList.take (1+r.length*6)++q.flatMap encV++(rowA r).toList.drop (1+r.length*6+(q.flatMap encV).length)).toArray).setIfInBounds 0 (.int .i64 ((r++q).length:Int))=rowA (r++q):=by
 have hL:(rowA r).toList.length=37:=by rw [Array.length_toList];rfl
 have hE:=enc_len q
 refine Array.ext_getElem? fun n=> ?_
 rw [Array.getElem?_setIfInBounds]
 by_cases h0:0=n
 ·subst h0
  have hs:0<((rowA r).toList.take (1+r.length*6)++q.flatMap encV++(rowA r).toList.drop (1+r.length*6+(q.flatMap encV).length)).toArray.size:=by
   simp only [List.size_toArray,List.length_append,List.length_take,hL];omega
  rw [if_pos rfl,if_pos hs];rfl
 ·rw [if_neg h0,List.getElem?_toArray]
  by_cases hn:n<37
  ·obtain ⟨i,j,hi,hj,rfl⟩:∃ i j,i<6∧j<6∧n=1+i*6+j:=⟨(n-1) / 6,(n-1) % 6,by omega,by omega,by omega⟩
   rw [rowA_get (r++q) hi hj]
   by_cases h1:i<r.length
   ·rw [List.append_assoc,List.getElem?_append_left (by rw [List.length_take,hL];omega),List.getElem?_take,if_pos (by omega),Array.getElem?_toList,rowA_get r hi hj,colR_append_left h1]
   ·by_cases h2:i<r.length+q.length
    ·rw [List.getElem?_append_left (by rw [List.length_append,List.length_take,hL,hE];omega),List.getElem?_append_right (by rw [List.length_take,hL];omega),colR_append_right (by omega)]
     have e1:1+i*6+j-(List.take (1+r.length*6) (rowA r).toList).length=(i-r.length)*6+j:=by rw [List.length_take,hL];omega
     rw [e1]
     have hjl:j<(encV (colR q (i-r.length))).length:=by rw [encV_len];exact hj
     rw [enc_get q (i-r.length) _ (colR_get (by omega)) j _ (List.getElem?_eq_getElem hjl),List.getElem?_eq_getElem hjl]
    ·have e2:(List.take (1+r.length*6) (rowA r).toList++List.flatMap encV q).length=1+r.length*6+q.length*6:=by rw [List.length_append,List.length_take,hL,hE];omega
     rw [List.getElem?_append_right (by rw [e2];omega),List.getElem?_drop,e2,hE,show 1+r.length*6+q.length*6+(1+i*6+j-(1+r.length*6+q.length*6))=1+i*6+j by omega,Array.getElem?_toList,rowA_get r hi hj,colR_out (r:=r) (by omega),colR_out (r:=r++q) (by rw [List.length_append];omega)]
  ·rw [List.getElem?_eq_none (by simp only [List.length_append,List.length_take,List.length_drop,hL,hE];omega),Array.getElem?_eq_none (by rw [rowA_size];omega)]
theorem infoVs6:(Tryz.prog.info? 133).map (·.size)=some 6:=by kernel_rfl
theorem run_copy_vals (w:World) (g o dLen dCap:Nat) (b k sCap:Nat) (q:Row) (cur:Array Value) (t:TypeId) (hg:w.heap[g]? =some (.cells cur t (0,0))) (hle:q.length≤dLen)
 (hsrc:∀ i x,q[i]? =some x→∀ j y,(encV x)[j]? =some y→w.cell? ⟨b,k+i*6+j,none⟩=some y) (hfit:o+q.length*6≤cur.size) :
 (Builtin.copy_ #[162,162] 3 #[.slice (some ⟨g,o,none⟩) dLen dCap,.slice (some ⟨b,k,none⟩) q.length sCap]).run Tryz.prog w =
  .ok (goInt q.length) (w.setRow g (cur.toList.take o++q.flatMap encV++cur.toList.drop (o+(q.flatMap encV).length)).toArray):=by
 have hl:=run_loadCells_list (P:=Tryz.prog) w ⟨b,k,none⟩ (q.flatMap encV) (fun j v hv=>by
  have hj:=(List.getElem?_eq_some_iff.1 hv).1;rw [enc_len] at hj
  have hq:j / 6<q.length:=by omega
  have hjl:j % 6<(encV (colR q (j / 6))).length:=by rw [encV_len];omega
  have h1:=enc_get q (j / 6) _ (colR_get hq) (j % 6) _ (List.getElem?_eq_getElem hjl)
  rw [show j / 6*6+j % 6=j by omega,hv] at h1
  have hadd:(⟨b,k,none⟩:Addr).add j=⟨b,k+j,none⟩:=by unfold Addr.add;split <;> simp_all
  have h2:=hsrc (j / 6) _ (colR_get hq) (j % 6) _ (List.getElem?_eq_getElem hjl)
  rw [show k+j / 6*6+j % 6=k+j by omega,←h1] at h2
  rw [hadd];exact h2)
 have hst:=run_storeCells_at Tryz.prog g o t (q.flatMap encV) 0 cur w hg (by rw [enc_len];simpa using hfit) (enc_one q)
 rw [enc_len] at hl;simp only [Nat.add_zero] at hst;have hmin:Nat.min q.length dLen=q.length:=Nat.min_eq_left hle
 cases hq:Tryz.prog.info? 133 with
 | none=>have:=infoVs6;simp [hq] at this
 | some i =>
   have hi:i.size=6:=by have:=infoVs6;simpa [hq] using this
   simp [Builtin.copy_,run_underlying Tryz.underlying162,Builtin.lenOf,Builtin.firstCells,sizeOf,typeInfo,hq,hi,hmin,hl,hst]
theorem step_copy_run {P:Program} {w:World} {ops:Array Oper} {o:Oper} {a:Act} {K:Act→World→Prop} {Q:Exit→Act→World→Prop} {E:Prop} (hgd:o.guard=none) (d s:Operand) (t t':TypeId)
 (ho:o.op=.call { callee:=.builtin .copy,args:=#[d,s],argTypes:=#[t,t'] }) (v u:Value) (hd:a.eval d=v) (hs:a.eval s=u) {v':Value} {w':World}
 (hr:(Builtin.copy_ #[t,t'] o.type #[v,u]).run P w=.ok v' w') (h:K (a.put o.dst v') w'):if Region.wanted o (yielded ops a.tmps)=true then Oper.wp P o a w K Q else E:=by
 have hw:Region.wanted o (yielded ops a.tmps)=true:=by simp [Region.wanted,hgd]
 rw [if_pos hw];unfold Oper.wp execOp;simp only [ho,resolve,invoke,builtin,Sem.run_bind,Sem.run_pure,Result.andThen_ok,List.map_toArray,List.map_cons,List.map_nil,hd,hs,hr];exact h
theorem setRow_heap' {w:World} {g:Nat} {cur c:Array Value} {t:TypeId} {z:Nat × Nat} (hg:w.heap[g]? =some (.cells cur t z)):(w.setRow g c).heap[g]? =some (.cells c t z):=setRow_heap w g cur c t z hg
theorem kept_setRow {S:Nat→Prop} {a w:World} (h:Kept S a w) {g:Nat} (hg:a.heap.size≤g∨S g) (c:Array Value):Kept S a (w.setRow g c) :=
 ⟨h.os,h.tape,h.output,by simpa [World.setRow] using h.size,fun k hk hS=>by
  have:g≠k:=by rintro rfl;rcases hg with hg | hg;omega;exact hS hg
  refine Eq.trans ?_ (h.block k hk hS)
  simp [World.setRow,Array.getElem?_modify,this]⟩
theorem and_any (r q:Row) (v:Value) (w:World) (hq:SrcAt w v q) (hq1:1≤q.length) (hl:r.length+q.length≤6) :
 Calls Tryz.prog 80 #[.agg (rowA r),v] w fun e w'=>e=.returned (.agg (rowA (r++q)))∧Kept No w w':=by
 obtain ⟨b,o,cap,rfl,hb,hsrc⟩:=hq
 go_enter Tryz.func80,Tryz.ntmps80
 go_wp2_with fail;obtain ⟨W0,hW0⟩:∃ W0,((w.alloc (.cells (rowA r) 154)).alloc (.cells #[.int .i64 0,.int .i32 0,.int .u8 0,.int .u8 0,.int .u8 0,.int .u8 0,.int .i64 0,.int .i32 0,.int .u8 0,.int .u8 0,.int .u8 0,.int .u8 0,.int .i64 0,.int .i32 0,.int .u8 0,.int .u8 0,.int .u8 0,.int .u8 0,.int .i64 0,.int .i32 0,.int .u8 0,.int .u8 0,.int .u8 0,.int .u8 0,.int .i64 0,.int .i32 0,.int .u8 0,.int .u8 0,.int .u8 0,.int .u8 0,.int .i64 0,.int .i32 0,.int .u8 0,.int .u8 0,.int .u8 0,.int .u8 0,.int .i64 0] 154))=W0:=⟨_,rfl⟩;rw [hW0]
 have hk0:Kept No w W0:=by rw [←hW0];exact ((Kept.refl No w).alloc _).alloc _
 have hg0:W0.heap[w.heap.size]? =some (.cells (rowA r) 154 (0,0)):=by rw [←hW0];exact heap_alloc2_old _ _ _
 have hg1:∃ c,W0.heap[w.heap.size+1]? =some (.cells c 154 (0,0))∧c.size=37:=by rw [←hW0];exact ⟨_,heap_alloc2_new _ _ _,rfl⟩
 obtain ⟨c1,hg1,hc1⟩:=hg1
 have hsrc0:∀ i x,q[i]? =some x→∀ j y,(encV x)[j]? =some y→W0.drew.cell? ⟨b,o+i*6+j,none⟩=some y:=fun i x hx j y hy=>(hk0.cell hb (fun e=>e)).trans (hsrc i x hx j y hy)
 have hcp:=run_copy_vals W0.drew w.heap.size (1+r.length*6) (6-r.length) (6-r.length) b o cap q (rowA r) 154 hg0 (by omega) hsrc0 (by rw [rowA_size];omega)
 obtain ⟨X,hX⟩:∃ X,((rowA r).toList.take (1+r.length*6)++q.flatMap encV++(rowA r).toList.drop (1+r.length*6+(q.flatMap encV).length)).toArray=X:=⟨_,rfl⟩;rw [hX] at hcp
 have hX0:X[0]? =some (.int .i64 (r.length:Int)):=by
  rw [←hX,List.getElem?_toArray,List.append_assoc,List.getElem?_append_left (by rw [List.length_take,show (rowA r).toList.length=37 from rfl];omega),List.getElem?_take,if_pos (by omega),Array.getElem?_toList];exact rowA_width r
 have hXA:X.setIfInBounds 0 (.int .i64 ((r.length:Int)+(q.length:Int)))=rowA (r++q):=by
  have:=and_cells r q hl
  rw [hX,List.length_append] at this
  simpa using this
 obtain ⟨W1,hW1⟩:∃ W1,W0.drew.setRow w.heap.size X=W1:=⟨_,rfl⟩;rw [hW1] at hcp
 have hh1:W1.heap[w.heap.size]? =some (.cells X 154 (0,0)):=by rw [←hW1];exact setRow_heap' hg0
 have hk1:Kept (·=w.heap.size) W0 W1:=by rw [←hW1];exact kept_setRow ((Kept.refl (·=w.heap.size) W0).drew) (g:=w.heap.size) (.inr rfl) X
 have hg1':W1.heap[w.heap.size+1]? =some (.cells c1 154 (0,0)):=(hk1.block _ (lt_of_heap hg1) (by omega)).trans hg1
 have d0:W0.cell? ⟨w.heap.size,0,none⟩=some (.int .i64 (r.length:Int)):=by rw [cell_of hg0];exact rowA_width r
 have d1:W1.cell? ⟨w.heap.size,0,none⟩=some (.int .i64 (r.length:Int)):=by rw [cell_of hh1];exact hX0
 have z1:W1.frozen? ⟨w.heap.size,0,none⟩=false:=frozen_of hh1 _
 have i0:(0:Int)≤(r.length:Int):=by omega
 have i1:(r.length:Int)≤6:=by omega
 have i2:¬6=r.length:=by omega
 have i3:IntKind.i64.wrap ((r.length:Int)+(q.length:Int))=(r.length:Int)+(q.length:Int):=IntWalk.i64_in _ (by omega)
 have HCP:=hid hcp;have H1:=hid hh1;have HG1:=hid hg1';have HXA:=hid hXA
 have HKA:Hid (Kept No w W1):=hk0.trans hk1 (fun _ e=>e) (fun i hi e=>by omega)
 clear hcp hsrc hsrc0 hX hX0 hXA hW1 hh1 hk1 hg1' hg0 hg1 hk0 hW0
 go_region_law
  ((refine step_copy_run (by rfl) _ _ _ _ (by rfl) _ _ (by rfl) (by rfl) HCP.out ?_))
 all_goals
  try rw [i3]
  obtain ⟨W2,hW2⟩:∃ W2,W1.setCell ⟨w.heap.size,0,none⟩ (.int .i64 ((r.length:Int)+(q.length:Int)))=W2:=⟨_,rfl⟩;rw [hW2]
  have hh2:W2.heap[w.heap.size]? =some (.cells (rowA (r++q)) 154 (0,0)):=by rw [←hW2,heap_set H1.out,HXA.out]
  have hk2:Kept No w W2:=by rw [←hW2];exact HKA.out.setCell (.inl (Nat.le_refl _)) _
  have hg2:W2.heap[w.heap.size+1]? =some (.cells c1 154 (0,0)):=by rw [←hW2];exact (Below.heap_setCell _ _ _ _ (by show w.heap.size+1≠w.heap.size;omega)).trans HG1.out
  have H2:=hid hh2;have HK2:=hid hk2;have HG2:=hid hg2;clear hh2 hk2 hg2 hW2 d0 d1 z1 HCP H1 HG1 HXA HKA
  go_wp2_with (first
   | (refine load_row _ rfl rfl w.heap.size rfl (r++q) H2.out ?_)
   | (refine store_row _ _ rfl rfl (w.heap.size+1) rfl (r++q) rfl c1 hc1 HG2.out ?_)
   | fail)
  (try simp only [Exit.inBlock,Exit.then])
  refine bodyPost_ret (results_cell_row rfl _ _ (w.heap.size+1) 154 (rowA (r++q)) (0,0) _ rfl (setRow_heap' HG2.out) Tryz.underlying154 rfl (by rw [rowA_size];exact infoRow)) rfl ?_
  exact ⟨rfl,kept_setRow HK2.out (.inl (by omega)) _⟩
theorem yields_cell {ops:Array Oper} {S:World→Prop} {op:Oper} {a:Act} (hw:Region.wanted op (yielded ops a.tmps)=true) (t:TypeId) (x:Operand) (ho:op.op=.load t x) (g k:Nat) (hx:a.eval x=.pointer (some ⟨g,k,none⟩)) (v:Value)
 (hn:∀ w:World,w.cell? ⟨g,k,none⟩=some v→(loadVar t ⟨g,k,none⟩).run Tryz.prog w=.ok v w) (hS:∀ w,S w→w.cell? ⟨g,k,none⟩=some v):YieldsIf Tryz.prog ops S op v a :=
 .inl ⟨hw,fun w hw'=>by
  unfold execOp
  simp only [ho,hx,Instr.loadAt,Instr.sureAddr,Sem.run_bind,Sem.run_pure,Result.andThen_ok,hn w (hS w hw')]⟩
theorem yields_load {ops:Array Oper} {S:World→Prop} {op:Oper} {a:Act} (hw:Region.wanted op (yielded ops a.tmps)=true) (t:TypeId) (x:Operand) (ho:op.op=.load t x) (g k:Nat) (hx:a.eval x=.pointer (some ⟨g,k,none⟩)) (v:Value)
 (hS:∀ w,S w→(loadVar t ⟨g,k,none⟩).run Tryz.prog w=.ok v w):YieldsIf Tryz.prog ops S op v a :=
 .inl ⟨hw,fun w hw'=>by
  unfold execOp
  simp only [ho,hx,Instr.loadAt,Instr.sureAddr,Sem.run_bind,Sem.run_pure,Result.andThen_ok,hS w hw']⟩
section
variable {ops:Array Oper} {Q:Exit→Act→World→Prop} {md:Region.Mode} {S:World→Prop} {oi:Oper} {fuel:Nat} {listed:Array Bool} {a:Act} {w:World}
theorem tk_P (i:Nat) (v:Value) (hS:S w) (h:wpAnyH Tryz.prog md ops Q S fuel (listed.setIfInBounds i true) (a.put oi.dst v) w) (hi:ops[i]? =some oi:=by exact rfl) (hs:Region.noSelect ops=true:=by kernel_rfl) (hf:Region.free md ops listed i=true:=by kernel_rfl) (hr:(Region.ready md ops listed).contains i=true:=by kernel_rfl) (hQ:∀ c a w,Q (.panic c) (a.put oi.dst v) w→Q (.panic c) a w:=by exact fun _ _ _ h=>h)
 (hy:YieldsIf Tryz.prog ops S oi v a:=by exact Or.inl ⟨by kernel_rfl,by intro w hSw;go_simp⟩):wpAnyH Tryz.prog md ops Q S (fuel+1) listed a w :=
 wpAnyH_take hi hs hf hr hQ hy hS h
theorem tk_C (i:Nat) (v:Value) (t:TypeId) (x:Operand) (g k:Nat) (hc:∀ w,S w→w.cell? ⟨g,k,none⟩=some v) (hS:S w) (h:wpAnyH Tryz.prog md ops Q S fuel (listed.setIfInBounds i true) (a.put oi.dst v) w) (hi:ops[i]? =some oi:=by exact rfl) (hs:Region.noSelect ops=true:=by kernel_rfl) (hf:Region.free md ops listed i=true:=by kernel_rfl) (hr:(Region.ready md ops listed).contains i=true:=by kernel_rfl) (hQ:∀ c a w,Q (.panic c) (a.put oi.dst v) w→Q (.panic c) a w:=by exact fun _ _ _ h=>h)
 (hw:Region.wanted oi (yielded ops a.tmps)=true:=by kernel_rfl) (ho:oi.op=.load t x:=by kernel_rfl) (hx:a.eval x=.pointer (some ⟨g,k,none⟩):=by kernel_rfl) (hn:∀ w:World,w.cell? ⟨g,k,none⟩=some v→(loadVar t ⟨g,k,none⟩).run Tryz.prog w=.ok v w:=by exact fun w h=>by go_simp):wpAnyH Tryz.prog md ops Q S (fuel+1) listed a w :=
 wpAnyH_take hi hs hf hr hQ (yields_cell hw t x ho g k hx v hn hc) hS h
theorem tk_L (i:Nat) (v:Value) (t:TypeId) (x:Operand) (g k:Nat) (hl:∀ w,S w→(loadVar t ⟨g,k,none⟩).run Tryz.prog w=.ok v w) (hS:S w) (h:wpAnyH Tryz.prog md ops Q S fuel (listed.setIfInBounds i true) (a.put oi.dst v) w) (hi:ops[i]? =some oi:=by exact rfl) (hs:Region.noSelect ops=true:=by kernel_rfl) (hf:Region.free md ops listed i=true:=by kernel_rfl) (hr:(Region.ready md ops listed).contains i=true:=by kernel_rfl) (hQ:∀ c a w,Q (.panic c) (a.put oi.dst v) w→Q (.panic c) a w:=by exact fun _ _ _ h=>h)
 (hw:Region.wanted oi (yielded ops a.tmps)=true:=by kernel_rfl) (ho:oi.op=.load t x:=by kernel_rfl) (hx:a.eval x=.pointer (some ⟨g,k,none⟩):=by kernel_rfl):wpAnyH Tryz.prog md ops Q S (fuel+1) listed a w :=
 wpAnyH_take hi hs hf hr hQ (yields_load hw t x ho g k hx v hl) hS h
end
theorem tk_S {ops:Array Oper} {Q:Exit→Act→World→Prop} {md:Region.Mode} {S:World→Prop} {o:Oper} {fuel:Nat} {listed:Array Bool} {a:Act} {w:World} (i:Nat) (h:∀ K':Act→World→Prop,Shut (∀ a w,S w→(S w→wpAnyH Tryz.prog md ops Q S fuel (listed.setIfInBounds i true) a w)→K' a w)→if Region.wanted o (yielded ops a.tmps)=true then Oper.wp Tryz.prog o a w K' Q else K' (a.put o.dst undef) w) (ho:ops[i]? =some o:=by exact rfl) (hr:Region.ready md ops listed=[i]:=by kernel_rfl):wpAnyH Tryz.prog md ops Q S (fuel+1) listed a w :=
 wpAnyH_ready hr (by simp) (AllReadyH.cons ho h AllReadyH.nil)
theorem n_1 {α:Type _} {xs:List α} {i:Nat} (h:i<xs.toArray.size):xs.toArray[i]=xs[i]:=rfl
theorem n_2 {α:Type _} (a:α) (l:List α) (i:Nat) (h:i+1<(a::l).length):(a::l)[i+1]=l[i]'(Nat.lt_of_succ_lt_succ h):=rfl
theorem n_3 {α:Type _} (a:α) (l:List α) (h:0<(a::l).length):(a::l)[0]=a:=rfl
theorem n_4 {α:Type _} (l:List α) (i:Nat) (a:α):l.toArray.setIfInBounds i a=(l.set i a).toArray:=List.setIfInBounds_toArray ..
theorem n_5 {α:Type _} (a:α) (l:List α) (i:Nat) (b:α):(a::l).set (i+1) b=a::l.set i b:=rfl
theorem n_6 {α:Type _} (a:α) (l:List α) (b:α):(a::l).set 0 b=b::l:=rfl
set_option linter.unusedSimpArgs false
open Mo (V Row Bag cnt canon colR pickR)
def IntsAt (w:World) (v:Value) (cs:List Nat):Prop:=(v=.slice none 0 0∧cs=[])∨∃ b o cap,v=.slice (some ⟨b,o,none⟩) cs.length cap∧b<w.heap.size∧∀ (i c:Nat),cs[i]? =some c→w.cell? ⟨b,o+i,none⟩=some (.int .i64 (c:Int))
theorem IntsAt.kept {S:Nat→Prop} {w w':World} {v:Value} {cs:List Nat} (h:IntsAt w v cs) (k:Kept S w w') (hS:∀ b,v.ownBlock=some b→¬S b):IntsAt w' v cs:=by
 rcases h with h | ⟨b,o,cap,rfl,hb,h1⟩
 ·exact .inl h
 ·exact .inr ⟨b,o,cap,rfl,Nat.lt_of_lt_of_le hb k.size,fun i c hc=>(k.cell hb (hS b rfl)).trans (h1 i c hc)⟩
theorem IntsAt.is {w:World} {v:Value} {cs:List Nat} (h:IntsAt w v cs):∃ a cap,v=.slice a cs.length cap:=by
 rcases h with ⟨rfl,rfl⟩ | ⟨b,o,cap,rfl,_⟩
 ·exact ⟨_,_,rfl⟩
 ·exact ⟨_,_,rfl⟩
theorem row_cells {w:World} {P:Nat} {r:Row} (h:w.heap[P]? =some (.cells (rowA r) 154 (0,0))):w.cell? ⟨P,0,none⟩=some (.int .i64 ((r).length:Int))∧w.cell? ⟨P,1,none⟩=some (.int .i32 (kI (colR (r) 0)))∧w.cell? ⟨P,2,none⟩=some (.int .u8 (tB (colR (r) 0) 0))∧w.cell? ⟨P,3,none⟩=some (.int .u8 (tB (colR (r) 0) 1))∧w.cell? ⟨P,4,none⟩=some (.int .u8 (tB (colR (r) 0) 2))∧w.cell? ⟨P,5,none⟩=some (.int .u8 (tB (colR (r) 0) 3))∧w.cell? ⟨P,6,none⟩=some (.int .i64 (nI (colR (r) 0)))∧w.cell? ⟨P,7,none⟩=some (.int .i32 (kI (colR (r) 1)))∧w.cell? ⟨P,8,none⟩=some (.int .u8 (tB (colR (r) 1) 0))∧w.cell? ⟨P,9,none⟩=some (.int .u8 (tB (colR (r) 1) 1))∧w.cell? ⟨P,10,none⟩=some (.int .u8 (tB (colR (r) 1) 2))∧w.cell? ⟨P,11,none⟩=some (.int .u8 (tB (colR (r) 1) 3))∧w.cell? ⟨P,12,none⟩=some (.int .i64 (nI (colR (r) 1)))∧w.cell? ⟨P,13,none⟩=some (.int .i32 (kI (colR (r) 2)))∧w.cell? ⟨P,14,none⟩=some (.int .u8 (tB (colR (r) 2) 0))∧w.cell? ⟨P,15,none⟩=some (.int .u8 (tB (colR (r) 2) 1))∧w.cell? ⟨P,16,none⟩=some (.int .u8 (tB (colR (r) 2) 2))∧w.cell? ⟨P,17,none⟩=some (.int .u8 (tB (colR (r) 2) 3))∧w.cell? ⟨P,18,none⟩=some (.int .i64 (nI (colR (r) 2)))∧w.cell? ⟨P,19,none⟩=some (.int .i32 (kI (colR (r) 3)))∧w.cell? ⟨P,20,none⟩=some (.int .u8 (tB (colR (r) 3) 0))∧w.cell? ⟨P,21,none⟩=some (.int .u8 (tB (colR (r) 3) 1))∧w.cell? ⟨P,22,none⟩=some (.int .u8 (tB (colR (r) 3) 2))∧w.cell? ⟨P,23,none⟩=some (.int .u8 (tB (colR (r) 3) 3))∧w.cell? ⟨P,24,none⟩=some (.int .i64 (nI (colR (r) 3)))∧w.cell? ⟨P,25,none⟩=some (.int .i32 (kI (colR (r) 4)))∧w.cell? ⟨P,26,none⟩=some (.int .u8 (tB (colR (r) 4) 0))∧w.cell? ⟨P,27,none⟩=some (.int .u8 (tB (colR (r) 4) 1))∧w.cell? ⟨P,28,none⟩=some (.int .u8 (tB (colR (r) 4) 2))∧w.cell? ⟨P,29,none⟩=some (.int .u8 (tB (colR (r) 4) 3))∧w.cell? ⟨P,30,none⟩=some (.int .i64 (nI (colR (r) 4)))∧w.cell? ⟨P,31,none⟩=some (.int .i32 (kI (colR (r) 5)))∧w.cell? ⟨P,32,none⟩=some (.int .u8 (tB (colR (r) 5) 0))∧w.cell? ⟨P,33,none⟩=some (.int .u8 (tB (colR (r) 5) 1))∧w.cell? ⟨P,34,none⟩=some (.int .u8 (tB (colR (r) 5) 2))∧w.cell? ⟨P,35,none⟩=some (.int .u8 (tB (colR (r) 5) 3))∧w.cell? ⟨P,36,none⟩=some (.int .i64 (nI (colR (r) 5))):=by
 have e:∀ n,w.cell? ⟨P,n,none⟩=(rowA r)[n]? :=fun n=>cell_of h n
 simp only [e];exact ⟨rfl,rfl,rfl,rfl,rfl,rfl,rfl,rfl,rfl,rfl,rfl,rfl,rfl,rfl,rfl,rfl,rfl,rfl,rfl,rfl,rfl,rfl,rfl,rfl,rfl,rfl,rfl,rfl,rfl,rfl,rfl,rfl,rfl,rfl,rfl,rfl,rfl⟩
section
variable {ops:Array Oper} {S:World→Prop} {op:Oper} {a:Act}
theorem yields_val (hw:Region.wanted op (yielded ops a.tmps)=true) (x:Operand) (ho:op.op=.load 133 x) (g k:Nat) (hx:a.eval x=.pointer (some ⟨g,k,none⟩)) (v:V)
 (hS:∀ w,S w→∀ j y,(encV v)[j]? =some y→w.cell? ⟨g,k+j,none⟩=some y):YieldsIf Tryz.prog ops S op (aggV v) a :=
 .inl ⟨hw,fun w hw'=>by
  unfold execOp;simp only [ho,hx,Instr.loadAt,Instr.sureAddr,Sem.run_bind,Sem.run_pure,Result.andThen_ok,run_load_val (hS w hw')]
  rfl⟩
end
theorem pickR_snoc (cs:List Nat) (c:Nat) (r:Row):pickR (cs++[c]) r=pickR cs r++[colR r c]:=by simp [pickR]
theorem src_new (w:World) (v:V):SrcAt (w.alloc (.cells (encV v).toArray 133)) (.slice (some ⟨w.heap.size,0,none⟩) 1 1) [v]:=by
 refine ⟨w.heap.size,0,1,rfl,by simp,fun i x hx j y hy=> ?_⟩
 have hi:i=0:=by have:=(List.getElem?_eq_some_iff.1 hx).1;simp at this;exact this
 subst hi
 have:v=x:=by simpa using hx
 subst this;rw [cell_of (heap_alloc_last _ _),List.getElem?_toArray]
 simpa using hy
theorem pick_any (r:Row) (cs:List Nat) (v:Value) (w:World) (hv:IntsAt w v cs) (hc:∀ c∈cs,c<6) (hl:cs.length≤6) :
 Calls Tryz.prog 260 #[.agg (rowA r),v] w fun e w'=>e=.returned (.agg (rowA (pickR cs r)))∧Kept No w w':=by
 obtain ⟨va,vc,rfl⟩:=hv.is;have HV:=hid hv;have HC:=hid hc;clear hv hc
 go_enter Tryz.func260,Tryz.ntmps260
 go_wp2_with fail
 go_loopg [10] cs.length (fun k v10 wr=>∃ (i:Nat) (c1:Array Value),i+k=cs.length∧v10=.int .i64 (i:Int)∧c1.size=37∧Hid (wr.heap[w.heap.size]? =some (.cells (rowA r) 154 (0,0)))∧Hid (wr.heap[w.heap.size+1]? =some (.cells c1 154 (0,0)))∧Hid (wr.heap[w.heap.size+2]? =some (.cells (rowA (pickR (cs.take i) r)) 154 (0,0)))∧Hid (Kept No w wr))
 case atStart =>
  refine ⟨0,rowA [],by omega,rfl,rfl,?_,?_,?_,hid ((((Kept.refl No w).alloc _).alloc _).alloc _)⟩
  ·exact (Below.heap_alloc _ _ _ (by simp;omega)).trans (heap_alloc2_old _ _ _)
  ·exact (Below.heap_alloc _ _ _ (by simp)).trans (heap_alloc2_new _ _ _)
  ·have:=heap_alloc_last ((w.alloc (.cells (rowA r) 154)).alloc (.cells (rowA []) 154)) (.cells (rowA []) 154)
   have e:((w.alloc (.cells (rowA r) 154)).alloc (.cells (rowA []) 154)).heap.size=w.heap.size+2:=by simp
   rw [e] at this;exact this
 case round =>
  obtain ⟨i,c1,hik,rfl,hc1,h0,h1,h2,hK⟩:=hrel
  cases gk with
  | zero =>
    have hx:¬(i:Int)<(cs.length:Int):=by omega
    have hi:i=cs.length:=by omega
    have HI:=hid hi;clear hi
    go_wp2_with (first
     | (refine load_row _ rfl rfl (w.heap.size+2) rfl (pickR (cs.take i) r) h2.out ?_)
     | (refine store_row _ _ rfl rfl (w.heap.size+1) rfl (pickR (cs.take i) r) rfl c1 hc1 h1.out ?_)
     | fail)
    (try simp only [Exit.inBlock,Exit.then])
    refine bodyPost_ret (results_cell_row rfl _ _ (w.heap.size+1) 154 (rowA (pickR (cs.take i) r)) (0,0) _ rfl (setRow_heap' h1.out) Tryz.underlying154 rfl (by rw [rowA_size];exact infoRow)) rfl ?_
    exact ⟨by rw [HI.out,List.take_of_length_le (Nat.le_refl _)],kept_setRow hK.out (.inl (by omega)) _⟩
  | succ k =>
    have hx:(i:Int)<(cs.length:Int):=by omega
    have hx0:(0:Int)≤(i:Int):=by omega
    obtain ⟨c,hci⟩:∃ c,cs[i]? =some c:=⟨_,List.getElem?_eq_getElem (by omega)⟩
    have hc6:=HC.out c (List.mem_of_getElem? hci)
    rcases HV.out with ⟨e1,e2⟩ | ⟨b,o,cap,e,hb,hcell⟩
    ·rw [e2] at hci;simp at hci
    injection e with e1 e2 e3
    subst e1 e3
    have g0:wr.cell? ⟨b,o+i,none⟩=some (.int .i64 (c:Int)):=(hK.out.cell hb (fun e=>e)).trans (hcell i c hci)
    have hc0:(0:Int)≤(c:Int):=by omega
    have hc1':(c:Int)<6:=by omega
    have hsn:Hid (pickR (cs.take (i+1)) r=pickR (cs.take i) r++[colR r c]):=by
     show _=_
     rw [List.take_add_one,hci];exact pickR_snoc _ _ _
    have hln:(pickR (cs.take i) r).length=i:=by simp [pickR];omega
    obtain ⟨p,hp⟩:∃ p,pickR (cs.take i) r=p:=⟨_,rfl⟩;rw [hp] at h2 hln hsn;clear hcell hci hp;have hl0:=lt_of_heap h0.out;have hl2:=lt_of_heap h2.out;have hw:w.heap.size≤wr.heap.size:=hK.out.size;have rc:=row_cells h2.out;have vc:=cells_val h0.out hc6;obtain ⟨x,hx⟩:∃ x,colR r c=x:=⟨_,rfl⟩;rw [hx] at vc hsn;have v0:wr.cell? ⟨w.heap.size,1+c*6,none⟩=some (.int .i32 (kI x)):=vc 0 _ rfl;have v1:=vc 1 _ rfl;have v2:=vc 2 _ rfl;have v3:=vc 3 _ rfl;have v4:=vc 4 _ rfl;have v5:=vc 5 _ rfl;have HX:=hid hx;have HLN:=hid hln;clear hx vc rc v0 v1 v2 v3 v4 v5 hln;go_wp2_with fail
    refine wp_region_held_drew (S:=fun w'=>w'.heap[w.heap.size]? =some (.cells (rowA r) 154 (0,0))) (by kernel_rfl) h0.out (fun hHeld=> ?_)
    refine tk_P 1 (.int .i64 (c:Int)) hHeld ?_;try simp only [Act.put,n_1,n_2,n_3,n_4,n_5,n_6]
    refine tk_P 2 (.pointer (some ⟨w.heap.size,1,none⟩)) hHeld ?_;try simp only [Act.put,n_1,n_2,n_3,n_4,n_5,n_6]
    refine tk_P 3 (.pointer (some ⟨w.heap.size,1+c*6,none⟩)) hHeld ?_;try simp only [Act.put,n_1,n_2,n_3,n_4,n_5,n_6]
    refine wpAnyH_take (i:=4) (v:=.agg #[.int .i32 (kI x),.int .u8 (tB x 0),.int .u8 (tB x 1),.int .u8 (tB x 2),.int .u8 (tB x 3),.int .i64 (nI x)]) rfl (by kernel_rfl) (by kernel_rfl) (by kernel_rfl) (fun _ _ _ h=>h) (yields_val (by rfl) _ rfl w.heap.size (1+c*6) rfl x (fun w h=>by rw [←HX.out];exact cells_val h hc6)) hHeld ?_
    try simp only [Act.put,n_1,n_2,n_3,n_4,n_5,n_6]
    have HSRC:Hid (SrcAt (wr.alloc (.cells #[.int .i32 (kI x),.int .u8 (tB x 0),.int .u8 (tB x 1),.int .u8 (tB x 2),.int .u8 (tB x 3),.int .i64 (nI x)] 133)).drew (.slice (some ⟨wr.heap.size,0,none⟩) 1 1) [x]):=src_new wr x;have hA0:(wr.alloc (.cells #[.int .i32 (kI x),.int .u8 (tB x 0),.int .u8 (tB x 1),.int .u8 (tB x 2),.int .u8 (tB x 3),.int .i64 (nI x)] 133)).drew.heap[w.heap.size]? =some (.cells (rowA r) 154 (0,0)):=(Below.heap_alloc _ _ _ hl0).trans h0.out;have hA2:(wr.alloc (.cells #[.int .i32 (kI x),.int .u8 (tB x 0),.int .u8 (tB x 1),.int .u8 (tB x 2),.int .u8 (tB x 3),.int .i64 (nI x)] 133)).drew.heap[w.heap.size+2]? =some (.cells (rowA p) 154 (0,0)):=(Below.heap_alloc _ _ _ hl2).trans h2.out;have HKW:=hK;clear hK;have HA0:=hid hA0;have HA2:=hid hA2;clear hA0 hA2
    refine wpAnyH_ready (rs:=[0,5]) (by kernel_rfl) (by simp) ?_
    refine AllReadyH.cons rfl (fun K hK=> ?_) (AllReadyH.cons rfl (fun K hK=> ?_) AllReadyH.nil)
    ·rw [if_pos (by rfl)]
     refine wp_load_row 154 _ rfl (w.heap.size+2) rfl 154 (rowA p) (0,0) _ h2.out Tryz.underlying154 rfl (by rw [rowA_size];exact infoRow) ?_
     refine hK.out _ _ h0.out (fun hHeld=> ?_)
     clear hK K;try simp only [Act.put,n_1,n_2,n_3,n_4,n_5,n_6]
     refine tk_S 5 (fun K hK=> ?_)
     go_simp
     refine hK.out _ _ HA0.out (fun hHeld=> ?_)
     clear hK K;try simp only [Act.put,n_1,n_2,n_3,n_4,n_5,n_6]
     refine tk_S 6 (fun K hK=> ?_)
     go_simp
     refine (and_any p [x] _ _ HSRC.out (by simp) (by rw [HLN.out];simp;omega)).mono ?_
     rintro e w3 ⟨rfl,hk3⟩;have hkw3:Kept No wr w3:=(((Kept.refl No wr).alloc _).drew).seq hk3
     have h03:w3.heap[w.heap.size]? =some (.cells (rowA r) 154 (0,0)):=(hkw3.block _ hl0 (fun e=>e)).trans h0.out
     have h23:w3.heap[w.heap.size+2]? =some (.cells (rowA p) 154 (0,0)):=(hkw3.block _ hl2 (fun e=>e)).trans h2.out
     have h13:w3.heap[w.heap.size+1]? =some (.cells c1 154 (0,0)):=(hkw3.block _ (lt_of_heap h1.out) (fun e=>e)).trans h1.out
     have HK3:Hid (Kept No w w3):=HKW.out.seq hkw3
     refine hK.out _ _ h03 (fun hHeld=> ?_)
     clear hK K;try simp only [Act.put,n_1,n_2,n_3,n_4,n_5,n_6]
     refine tk_S 7 (fun K hK=> ?_)
     rw [if_pos (by rfl)]
     refine wp_store_row 154 _ _ rfl (w.heap.size+2) (rowA (p++[x])) rfl rfl 154 (rowA p) h23 (by rw [rowA_size];exact infoRow) rfl (rowA_one _) ?_
     have hks:=kept_setRow (Kept.refl (fun k=>k=w.heap.size+2) w3) (g:=w.heap.size+2) (.inr rfl) (rowA (p++[x]))
     have h04:(w3.setRow (w.heap.size+2) (rowA (p++[x]))).heap[w.heap.size]? =some (.cells (rowA r) 154 (0,0)):=(hks.block _ (lt_of_heap h03) (by omega)).trans h03
     have h14:(w3.setRow (w.heap.size+2) (rowA (p++[x]))).heap[w.heap.size+1]? =some (.cells c1 154 (0,0)):=(hks.block _ (lt_of_heap h13) (by omega)).trans h13
     have h24:=setRow_heap' (c:=rowA (p++[x])) h23
     have HK4:Hid (Kept No w (w3.setRow (w.heap.size+2) (rowA (p++[x])))):=kept_setRow HK3.out (.inl (by omega)) _
     have HH:=hid (And.intro h04 (And.intro h14 h24))
     refine hK.out _ _ h04 (fun hHeld=> ?_)
     clear hK K
     refine wpAnyH_done (by kernel_rfl) ?_ _
     clear hHeld h03 h23 h13 h04 h14 h24 hkw3 hk3 hks;generalize w3.setRow (w.heap.size+2) (rowA (p++[x]))=w4 at *;try simp only [Act.put,n_1,n_2,n_3,n_4,n_5,n_6]
     go_wp2_with fail;go_roundg k
     case measure=>omega
     case rel=>exact ⟨i+1,c1,by omega,by go_num,hc1,HH.out.1,HH.out.2.1,by show _=_;rw [hsn.out];exact HH.out.2.2,HK4⟩
    ·go_simp
     refine hK.out _ _ HA0.out (fun hHeld=> ?_)
     clear hK K;try simp only [Act.put,n_1,n_2,n_3,n_4,n_5,n_6]
     refine tk_S 0 (fun K hK=> ?_)
     rw [if_pos (by rfl)]
     refine wp_load_row 154 _ rfl (w.heap.size+2) rfl 154 (rowA p) (0,0) _ HA2.out Tryz.underlying154 rfl (by rw [rowA_size];exact infoRow) ?_
     refine hK.out _ _ HA0.out (fun hHeld=> ?_)
     clear hK K;try simp only [Act.put,n_1,n_2,n_3,n_4,n_5,n_6]
     refine tk_S 6 (fun K hK=> ?_)
     go_simp
     refine (and_any p [x] _ _ HSRC.out (by simp) (by rw [HLN.out];simp;omega)).mono ?_
     rintro e w3 ⟨rfl,hk3⟩;have hkw3:Kept No wr w3:=(((Kept.refl No wr).alloc _).drew).seq hk3
     have h03:w3.heap[w.heap.size]? =some (.cells (rowA r) 154 (0,0)):=(hkw3.block _ hl0 (fun e=>e)).trans h0.out
     have h23:w3.heap[w.heap.size+2]? =some (.cells (rowA p) 154 (0,0)):=(hkw3.block _ hl2 (fun e=>e)).trans h2.out
     have h13:w3.heap[w.heap.size+1]? =some (.cells c1 154 (0,0)):=(hkw3.block _ (lt_of_heap h1.out) (fun e=>e)).trans h1.out
     have HK3:Hid (Kept No w w3):=HKW.out.seq hkw3
     refine hK.out _ _ h03 (fun hHeld=> ?_)
     clear hK K;try simp only [Act.put,n_1,n_2,n_3,n_4,n_5,n_6]
     refine tk_S 7 (fun K hK=> ?_)
     rw [if_pos (by rfl)]
     refine wp_store_row 154 _ _ rfl (w.heap.size+2) (rowA (p++[x])) rfl rfl 154 (rowA p) h23 (by rw [rowA_size];exact infoRow) rfl (rowA_one _) ?_
     have hks:=kept_setRow (Kept.refl (fun k=>k=w.heap.size+2) w3) (g:=w.heap.size+2) (.inr rfl) (rowA (p++[x]))
     have h04:(w3.setRow (w.heap.size+2) (rowA (p++[x]))).heap[w.heap.size]? =some (.cells (rowA r) 154 (0,0)):=(hks.block _ (lt_of_heap h03) (by omega)).trans h03
     have h14:(w3.setRow (w.heap.size+2) (rowA (p++[x]))).heap[w.heap.size+1]? =some (.cells c1 154 (0,0)):=(hks.block _ (lt_of_heap h13) (by omega)).trans h13
     have h24:=setRow_heap' (c:=rowA (p++[x])) h23
     have HK4:Hid (Kept No w (w3.setRow (w.heap.size+2) (rowA (p++[x])))):=kept_setRow HK3.out (.inl (by omega)) _
     have HH:=hid (And.intro h04 (And.intro h14 h24))
     refine hK.out _ _ h04 (fun hHeld=> ?_)
     clear hK K
     refine wpAnyH_done (by kernel_rfl) ?_ _
     clear hHeld h03 h23 h13 h04 h14 h24 hkw3 hk3 hks;generalize w3.setRow (w.heap.size+2) (rowA (p++[x]))=w4 at *;try simp only [Act.put,n_1,n_2,n_3,n_4,n_5,n_6]
     go_wp2_with fail;go_roundg k
     case measure=>omega
     case rel=>exact ⟨i+1,c1,by omega,by go_num,hc1,HH.out.1,HH.out.2.1,by show _=_;rw [hsn.out];exact HH.out.2.2,HK4⟩
open Mo (V Row Bag cnt canon colR vlt rlt lexlt blt)
def Gr (w w':World):Prop:=∃ k os,w'=Sort.grow (w.drewN k) os
theorem Gr.refl (w:World):Gr w w:=⟨0,#[],by rw [Sort.grow_empty];rfl⟩
theorem Gr.trans {a b c:World} (h:Gr a b) (k:Gr b c):Gr a c:=by
 obtain ⟨n,os,rfl⟩:=h;obtain ⟨m,os',rfl⟩:=k
 exact ⟨n+m,os++os',by rw [←Sort.grow_grow,←World.drewN_drewN];rfl⟩
theorem Gr.drewN {a w:World} (h:Gr a w) (n:Nat):Gr a (w.drewN n):=h.trans ⟨n,#[],by rw [Sort.grow_empty]⟩
theorem Gr.drew {a w:World} (h:Gr a w):Gr a w.drew:=h.drewN 1
theorem Gr.alloc {a w:World} (h:Gr a w) (o:Obj):Gr a (w.alloc o):=h.trans ⟨0,#[o],rfl⟩
theorem Gr.kept {w w':World} (h:Gr w w'):Kept No w w':=by
 obtain ⟨k,os,rfl⟩:=h
 exact ⟨rfl,rfl,rfl,by simp,fun i hi _=>Sort.heap_grow_old _ os hi⟩
def cmpI (a b:Int):Int:=if a<b then -1 else if b<a then 1 else 0
theorem nanI_any (a:Int) (w:World):Calls Tryz.prog 191 #[.int .i64 a] w fun e w'=>e=.returned (.bool false)∧w'=w:=by
 go_enter Tryz.func191,Tryz.ntmps191
 go_wp2
 go_ret
 exact ⟨ret_bool (by simp),rfl⟩
theorem cmpI_any (a b:Int) (w:World):Calls Tryz.prog 156 #[.int .i64 a,.int .i64 b] w fun e w'=>e=.returned (.int .i64 (cmpI a b))∧w'=w:=by
 have H:Hid (cmpI a b=if a<b then -1 else if b<a then 1 else 0):=hid rfl
 by_cases h1:a<b
 ·rw [if_pos h1] at H
  go_enter Tryz.func156,Tryz.ntmps156
  go_wp2_with fail;refine (nanI_any a _).mono ?_;rintro e w1 ⟨rfl,rfl⟩;go_wp2_with fail;refine (nanI_any b _).mono ?_;rintro e w1 ⟨rfl,rfl⟩;go_wp2_with fail;go_ret;exact ⟨ret_int H.out.symm,rfl⟩
 ·rw [if_neg h1] at H
  have h1':decide (a<b)=false:=by simpa using h1
  by_cases h2:b<a
  ·rw [if_pos h2] at H
   clear h1
   go_enter Tryz.func156,Tryz.ntmps156
   go_wp2_with fail;refine (nanI_any a _).mono ?_;rintro e w1 ⟨rfl,rfl⟩;go_wp2_with fail;refine (nanI_any b _).mono ?_;rintro e w1 ⟨rfl,rfl⟩;go_wp2_with fail;go_ret;exact ⟨ret_int H.out.symm,rfl⟩
  ·rw [if_neg h2] at H
   have h2':decide (b<a)=false:=by simpa using h2
   go_enter Tryz.func156,Tryz.ntmps156
   go_wp2_with fail;refine (nanI_any a _).mono ?_;rintro e w1 ⟨rfl,rfl⟩;go_wp2_with fail;refine (nanI_any b _).mono ?_;rintro e w1 ⟨rfl,rfl⟩;go_wp2_with fail;go_ret;exact ⟨ret_int H.out.symm,rfl⟩
theorem run_compareSlices (l m:List UInt8) (b1 o1 c1 b2 o2 c2:Nat) (w:World) (h1:∀ j x,l[j]? =some x→w.cell? ⟨b1,o1+j,none⟩=some (.int .u8 x.toNat)) (h2:∀ j x,m[j]? =some x→w.cell? ⟨b2,o2+j,none⟩=some (.int .u8 x.toNat)) :
 (Extern.BytealgCompare.compare #[.slice (some ⟨b1,o1,none⟩) l.length c1,.slice (some ⟨b2,o2,none⟩) m.length c2]).run Tryz.prog w=.ok (.int .i64 (Lib.compareBytes l m)) w:=by
 have hadd:∀ b o j:Nat,(⟨b,o,none⟩:Addr).add j=⟨b,o+j,none⟩:=fun b o j=>by unfold Addr.add;split <;> simp_all
 have bo:∀ k:List UInt8,Lib.bytesOf (k.map fun x=>(x.toNat:Int))=k:=fun k=>by simp [Lib.bytesOf,Function.comp_def]
 have key:∀ (k:List UInt8) (b o:Nat),(∀ j x,k[j]? =some x→w.cell? ⟨b,o+j,none⟩=some (.int .u8 x.toNat))→(Extern.Bytes.loadBytes ⟨b,o,none⟩ k.length .empty).run Tryz.prog w=.ok ⟨k.toArray⟩ w:=fun k b o h=>by
  have:=Lib.run_loadBytesX (P:=Tryz.prog) w (k.map fun x=>(x.toNat:Int)) ⟨b,o,none⟩ .empty (fun j x hx=>by
   rw [List.getElem?_map] at hx;obtain ⟨y,hy,rfl⟩:=Option.map_eq_some_iff.1 hx
   rw [hadd];exact h j y hy)
  rw [List.length_map,bo] at this;rw [this]
  congr 1
  apply ByteArray.ext
  simp
 have r1:=key l b1 o1 h1;have r2:=key m b2 o2 h2
 change Sem.run Tryz.prog (do pure (goInt (Extern.BytealgCompare.cmp (←Extern.Bytes.bytesOf (.slice (some ⟨b1,o1,none⟩) l.length c1)) (←Extern.Bytes.bytesOf (.slice (some ⟨b2,o2,none⟩) m.length c2))))) w=_
 simp only [Extern.Bytes.bytesOf,Sem.run_bind,Sem.run_pure,Result.andThen,r1,r2];rw [Lib.cmp_eq]
 simp [goInt]
theorem bcmp_any (l m:List UInt8) (hl:l.length=4) (hm:m.length=4) (b1 o1 c1 b2 o2 c2:Nat) (w:World) (h1:∀ j x,l[j]? =some x→w.cell? ⟨b1,o1+j,none⟩=some (.int .u8 x.toNat)) (h2:∀ j x,m[j]? =some x→w.cell? ⟨b2,o2+j,none⟩=some (.int .u8 x.toNat)) :
 Calls Tryz.prog 155 #[.slice (some ⟨b1,o1,none⟩) 4 c1,.slice (some ⟨b2,o2,none⟩) 4 c2] w fun e w'=>e=.returned (.int .i64 (Lib.compareBytes l m))∧w'=w:=by
 have hr:=run_compareSlices l m b1 o1 c1 b2 o2 c2 w h1 h2;rw [hl,hm] at hr
 go_enter Tryz.func155,Tryz.ntmps155
 go_wp2
 rw [run_callFunc_extern Tryz.func190 (by kernel_rfl) (by kernel_rfl) (by kernel_rfl) (e:=Extern.BytealgCompare.compare) (by kernel_rfl),hr]
 simp only [Result.andThen];rw [Oper.upon_value]
 go_wp2
 go_ret;exact ⟨rfl,rfl⟩
def vcmp (a b:V):Int:=if vlt a b then -1 else if vlt b a then 1 else 0
def rcmp (a b:Row):Int:=if rlt a b then -1 else if rlt b a then 1 else 0
def pad4 (s:List UInt8):List UInt8:=[s.getD 0 0,s.getD 1 0,s.getD 2 0,s.getD 3 0]
theorem pad_cmp:∀ (n:Nat) (s t:List UInt8),s.length≤n→t.length≤n→(∀ c∈s,97≤c.toNat)→(∀ c∈t,97≤c.toNat) →
 Lib.compareBytes ((List.range n).map fun i=>s.getD i 0) ((List.range n).map fun i=>t.getD i 0)=if lexlt blt s t then -1 else if lexlt blt t s then 1 else 0
 | 0,s,t,hs,ht,_,_=>by
   have:s=[]:=List.eq_nil_of_length_eq_zero (by omega)
   have:t=[]:=List.eq_nil_of_length_eq_zero (by omega)
   subst s t;rfl
 | n+1,s,t,hs,ht,ls,lt=>by
   rw [List.range_succ_eq_map,List.map_cons,List.map_cons,List.map_map,List.map_map]
   have lu:∀ x y:UInt8,x<y↔x.toNat<y.toNat:=fun x y=>UInt8.lt_iff_toNat_lt
   cases s with
   | nil=>cases t with
     | nil =>
       have ih:=pad_cmp n [] [] (by simp) (by simp) (by simp) (by simp)
       simp only [Lib.compareBytes]
       simpa [Function.comp_def] using ih
     | cons y t =>
       have hy:=lt y (by simp)
       simp only [Lib.compareBytes]
       have:(0:UInt8)<y:=by rw [lu];simp;omega
       simp [lexlt,this]
   | cons x s=>cases t with
     | nil =>
       have hx:=ls x (by simp)
       simp only [Lib.compareBytes]
       have h1:(0:UInt8)<x:=by rw [lu];simp;omega
       have h2:¬x<(0:UInt8):=by rw [lu];simp
       simp [lexlt,h1,h2]
     | cons y t =>
       have ih:=pad_cmp n s t (by simpa using hs) (by simpa using ht) (fun c hc=>ls c (by simp [hc])) (fun c hc=>lt c (by simp [hc]))
       simp only [Lib.compareBytes];simp only [List.getD_cons_zero]
       by_cases h1:x<y
       ·have hne:x≠y:=by rintro rfl;rw [lu] at h1;omega
        have hb:blt x y=true:=by simp only [blt,decide_eq_true_eq];exact (lu x y).1 h1
        simp [h1,lexlt,hne,hb]
       ·by_cases h2:y<x
        ·have hne:¬x=y:=by rintro rfl;exact h1 h2
         have hne':¬y=x:=fun e=>hne e.symm
         have hb1:blt x y=false:=by simp only [blt,decide_eq_false_iff_not];intro h;exact h1 ((lu x y).2 h)
         have hb2:blt y x=true:=by simp only [blt,decide_eq_true_eq];exact (lu y x).1 h2
         simp [h1,h2,lexlt,hne,hne',hb1,hb2]
        ·have he:x=y:=by rw [lu] at h1 h2;exact UInt8.toNat_inj.1 (by omega)
         subst he;simp only [h1,if_false,lexlt,if_true]
         simpa [Function.comp_def] using ih
theorem pad4_cmp {s t:List UInt8} (hs:VOk (.txt s)) (ht:VOk (.txt t)):Lib.compareBytes (pad4 s) (pad4 t)=vcmp (.txt s) (.txt t) :=
 pad_cmp 4 s t hs.2.1 ht.2.1 (fun c hc=>(hs.2.2 c hc).1) (fun c hc=>(ht.2.2 c hc).1)
theorem num_cmp (a b:Int):cmpI a b=vcmp (.num a) (.num b):=by simp [cmpI,vcmp,vlt]
theorem pad4_cells {w:World} {b:Nat} {v:V} {s:List UInt8} (hv:v=.txt s) {o:Nat} (h:∀ j x,(encV v)[j]? =some x→w.cell? ⟨b,o+j,none⟩=some x):∀ j x,(pad4 s)[j]? =some x→w.cell? ⟨b,o+1+j,none⟩=some (.int .u8 x.toNat):=by
 subst hv;intro j x hx;have hj:=(List.getElem?_eq_some_iff.1 hx).1
 match j,hj with
 | 0,_=>have e:s.getD 0 0=x:=by simpa [pad4] using hx
        subst e;exact h 1 _ rfl
 | 1,_=>have e:s.getD 1 0=x:=by simpa [pad4] using hx
        subst e;exact h 2 _ rfl
 | 2,_=>have e:s.getD 2 0=x:=by simpa [pad4] using hx
        subst e;exact h 3 _ rfl
 | 3,_=>have e:s.getD 3 0=x:=by simpa [pad4] using hx
        subst e;exact h 4 _ rfl
theorem cmpV_any (a b:V) (ha:VOk a) (hb:VOk b) (hab:Mo.ty a=Mo.ty b) (w:World) :
 Calls Tryz.prog 120 #[aggV a,aggV b] w fun e w'=>e=.returned (.int .i64 (vcmp a b))∧Gr w w':=by
 cases a with
 | num n=>cases b with
   | txt t=>cases hab
   | num m =>
     have HE:=hid (num_cmp n m);clear ha hb hab
     change Calls Tryz.prog 120 #[.agg #[.int .i32 0,.int .u8 0,.int .u8 0,.int .u8 0,.int .u8 0,.int .i64 n],.agg #[.int .i32 0,.int .u8 0,.int .u8 0,.int .u8 0,.int .u8 0,.int .i64 m]] w _
     go_enter Tryz.func120,Tryz.ntmps120
     go_wp2_with fail;refine (cmpI_any n m _).mono ?_;rintro e w1 ⟨rfl,rfl⟩;go_wp2_with fail;go_ret;exact ⟨ret_int HE.out,((Gr.refl _).alloc _).alloc _⟩
 | txt s=>cases b with
   | num m=>cases hab
   | txt t =>
     have HE:=hid (pad4_cmp ha hb);clear ha hb hab
     have HB:Hid (Calls Tryz.prog 155 #[.slice (some ⟨w.heap.size,1,none⟩) 4 4,.slice (some ⟨w.heap.size+1,1,none⟩) 4 4] (((w.alloc (.cells #[.int .i32 1,.int .u8 (tB (.txt s) 0),.int .u8 (tB (.txt s) 1),.int .u8 (tB (.txt s) 2),.int .u8 (tB (.txt s) 3),.int .i64 0] 133)).alloc (.cells #[.int .i32 1,.int .u8 (tB (.txt t) 0),.int .u8 (tB (.txt t) 1),.int .u8 (tB (.txt t) 2),.int .u8 (tB (.txt t) 3),.int .i64 0] 133)).drew) fun e w'=>e=.returned (.int .i64 (vcmp (.txt s) (.txt t)))∧w'=((w.alloc (.cells #[.int .i32 1,.int .u8 (tB (.txt s) 0),.int .u8 (tB (.txt s) 1),.int .u8 (tB (.txt s) 2),.int .u8 (tB (.txt s) 3),.int .i64 0] 133)).alloc (.cells #[.int .i32 1,.int .u8 (tB (.txt t) 0),.int .u8 (tB (.txt t) 1),.int .u8 (tB (.txt t) 2),.int .u8 (tB (.txt t) 3),.int .i64 0] 133)).drew):=by
      show Calls _ _ _ _ _
      rw [←HE.out];refine bcmp_any (pad4 s) (pad4 t) rfl rfl _ _ _ _ _ _ _ ?_ ?_
      ·refine pad4_cells (v:=.txt s) (o:=0) rfl fun j x hx=> ?_
       rw [Nat.zero_add]
       exact (cell_of (show (((w.alloc _).alloc _).drew).heap[w.heap.size]? =_ from heap_alloc2_old _ _ _) j).trans (by simpa [encV,kI,nI] using hx)
      ·refine pad4_cells (v:=.txt t) (o:=0) rfl fun j x hx=> ?_
       rw [Nat.zero_add]
       exact (cell_of (show (((w.alloc _).alloc _).drew).heap[w.heap.size+1]? =_ from heap_alloc2_new _ _ _) j).trans (by simpa [encV,kI,nI] using hx)
     change Calls Tryz.prog 120 #[.agg #[.int .i32 1,.int .u8 (tB (.txt s) 0),.int .u8 (tB (.txt s) 1),.int .u8 (tB (.txt s) 2),.int .u8 (tB (.txt s) 3),.int .i64 0],.agg #[.int .i32 1,.int .u8 (tB (.txt t) 0),.int .u8 (tB (.txt t) 1),.int .u8 (tB (.txt t) 2),.int .u8 (tB (.txt t) 3),.int .i64 0]] w _
     go_enter Tryz.func120,Tryz.ntmps120
     go_wp2_with fail
     go_region_held3 (fun _=>True) (trivial) ((go_at_call 155;refine HB.out.mono ?_;rintro e w1 ⟨rfl,rfl⟩))
     go_wp2_with fail;go_ret;exact ⟨rfl,(((Gr.refl _).alloc _).alloc _).drew⟩
open Mo (V Row Opd Cmp)
def isC:Opd→Bool
 | .col _=>true
 | .val _=>false
def colI:Opd→Nat
 | .col c=>c
 | .val _=>0
def vO:Opd→V
 | .col _=>.num 0
 | .val v=>v
abbrev zO:Opd:=.val (.num 0)
def opA (x:Opd):List Value:=[.bool (isC x),.int .i64 (colI x:Int),.int .i32 (kI (vO x)),.int .u8 (tB (vO x) 0),.int .u8 (tB (vO x) 1),.int .u8 (tB (vO x) 2),.int .u8 (tB (vO x) 3),.int .i64 (nI (vO x))]
def cmpO:Nat→Cmp
 | 0=>.lt
 | 1=>.eq
 | _=>.ne
end Go.Proofs.YtdinjjmcmfjbfaaGreatDoor
