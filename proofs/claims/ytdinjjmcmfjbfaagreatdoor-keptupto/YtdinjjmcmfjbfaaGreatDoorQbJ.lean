import Derived.Test.YtdinjjmcmfjbfaaGreatDoorQmJ
import Derived.Laws.Rows
import Derived.Laws.Tables
import Derived.Deep.WholeRow
import Derived.OwnWalk
set_option maxRecDepth 100000
set_option maxHeartbeats 4000000
namespace Go.Proofs.YtdinjjmcmfjbfaaGreatDoor
open Go.RowKit
open Mo (V Row colR)
open Go.WideMaps (KeyLaw)
def encR (r:Row):List Value:=.int .i64 (r.length:Int)::(encV (colR r 0)++(encV (colR r 1)++(encV (colR r 2)++(encV (colR r 3)++(encV (colR r 4)++encV (colR r 5))))))
def aggR (r:Row):Value:=.agg (encR r).toArray
def ROk (r:Row):Prop:=r.length≤6∧∀ v∈r,VOk v
theorem encR_get (r:Row) {i j:Nat} (hi:i<6) (hj:j<6):(encR r)[1+i*6+j]? =(encV (colR r i))[j]? :=by
 match i,hi,j,hj with
 | 0,_,0,_ | 0,_,1,_ | 0,_,2,_ | 0,_,3,_ | 0,_,4,_ | 0,_,5,_=>rfl
 | 1,_,0,_ | 1,_,1,_ | 1,_,2,_ | 1,_,3,_ | 1,_,4,_ | 1,_,5,_=>rfl
 | 2,_,0,_ | 2,_,1,_ | 2,_,2,_ | 2,_,3,_ | 2,_,4,_ | 2,_,5,_=>rfl
 | 3,_,0,_ | 3,_,1,_ | 3,_,2,_ | 3,_,3,_ | 3,_,4,_ | 3,_,5,_=>rfl
 | 4,_,0,_ | 4,_,1,_ | 4,_,2,_ | 4,_,3,_ | 4,_,4,_ | 4,_,5,_=>rfl
 | 5,_,0,_ | 5,_,1,_ | 5,_,2,_ | 5,_,3,_ | 5,_,4,_ | 5,_,5,_=>rfl
theorem colR_ok {r:Row} (h:ROk r) (c:Nat):VOk (colR r c):=by
 unfold colR;rw [List.getD_eq_getElem?_getD]
 cases hc:r[c]? with
 | none=>simp [VOk]
 | some v=>exact h.2 v (List.mem_of_getElem? hc)
theorem encR_inj {r q:Row} (hr:ROk r) (hq:ROk q) (h:encR r=encR q):r=q:=by
 have hl:r.length=q.length:=by
  have:=congrArg (fun l=>l[0]?) h
  simp only [encR,List.getElem?_cons_zero,Option.some.injEq,Value.int.injEq,true_and] at this;omega
 have hc:∀ i,i<6→colR r i=colR q i:=fun i hi=>by
  refine encV_inj (colR_ok hr i) (colR_ok hq i) (List.ext_getElem? fun j=> ?_)
  by_cases hj:j<6
  ·rw [←encR_get r hi hj,←encR_get q hi hj,h]
  ·rw [List.getElem?_eq_none (by rw [encV_len];omega),List.getElem?_eq_none (by rw [encV_len];omega)]
 refine List.ext_getElem? fun i=> ?_
 by_cases hi:i<r.length
 ·have:=hc i (by have:=hr.1;omega)
  unfold colR at this;rw [List.getD_eq_getElem?_getD,List.getD_eq_getElem?_getD,List.getElem?_eq_getElem hi,List.getElem?_eq_getElem (hl ▸ hi)] at this;rw [List.getElem?_eq_getElem hi,List.getElem?_eq_getElem (hl ▸ hi)];exact congrArg some this
 ·rw [List.getElem?_eq_none (by omega),List.getElem?_eq_none (by omega)]
theorem laidOut:laidOutB Tryz.prog=true:=by kernel_rfl
theorem rowRow:(154:TypeId)<Tryz.prog.types.size:=of_decide_eq_true (by kernel_rfl)
theorem valRow:(133:TypeId)<Tryz.prog.types.size:=of_decide_eq_true (by kernel_rfl)
theorem rowLaw:KeyLaw Tryz.prog 154:=deep_law_laid laidOut (m:=9) (by omega) rowRow (by kernel_rfl) (by rw [Tryz.underlying154])
theorem valLaw:KeyLaw Tryz.prog 133:=deep_law_laid laidOut (m:=9) (by omega) valRow (by kernel_rfl) (by rw [Tryz.underlying133])
theorem cellsV:Tryz.prog.cellsOf 133=6:=by kernel_rfl
theorem cellsR:Tryz.prog.cellsOf 154=37:=by kernel_rfl
theorem cellsA:Tryz.prog.cellsOf 152=36:=by kernel_rfl
theorem cellsT:Tryz.prog.cellsOf 131=4:=by kernel_rfl
theorem cellsB:Tryz.prog.cellsOf 5=1:=by kernel_rfl
theorem cellsK:Tryz.prog.cellsOf 130=1:=by kernel_rfl
theorem cellsN:Tryz.prog.cellsOf 2=1:=by kernel_rfl
theorem cellsI:Tryz.prog.cellsOf 3=1:=by kernel_rfl
theorem keyV:Tryz.prog.keyType 133=true:=by kernel_rfl
theorem keyR:Tryz.prog.keyType 154=true:=by kernel_rfl
theorem wf32 {n:Int} (h:n=0∨n=1):(Lit.int .i32 n).wf=true:=by rcases h with rfl | rfl <;> decide
theorem wf8 {n:Int} (h:0≤n∧n≤255):(Lit.int .u8 n).wf=true:=by
 have h1:IntKind.u8.min=0:=rfl;have h2:IntKind.u8.max=255:=rfl;simp only [Lit.wf,h1,h2,Bool.and_eq_true,decide_eq_true_eq];exact h
theorem wf64 {n:Int} (h: -9223372036854775808≤n∧n≤9223372036854775807):(Lit.int .i64 n).wf=true:=by
 have h1:IntKind.i64.min= -9223372036854775808:=rfl;have h2:IntKind.i64.max=9223372036854775807:=rfl;simp only [Lit.wf,h1,h2,Bool.and_eq_true,decide_eq_true_eq];exact h
theorem lits8 (d:Nat) {n:Int} (h:0≤n∧n≤255):Tryz.prog.keyLits (d+1) 5 [.int .u8 n]=some [.int .u8 n]:=by
 unfold Program.keyLits;rw [Tryz.underlying5];simp [wf8 h]
theorem lits32 (d:Nat) {n:Int} (h:n=0∨n=1):Tryz.prog.keyLits (d+1) 130 [.int .i32 n]=some [.int .i32 n]:=by
 unfold Program.keyLits;rw [Tryz.underlying130];simp [wf32 h]
theorem lits64 (d:Nat) {n:Int} (h: -9223372036854775808≤n∧n≤9223372036854775807):Tryz.prog.keyLits (d+1) 2 [.int .i64 n]=some [.int .i64 n]:=by
 unfold Program.keyLits;rw [Tryz.underlying2];simp [wf64 h]
theorem litsInt (d:Nat) {n:Int} (h: -9223372036854775808≤n∧n≤9223372036854775807):Tryz.prog.keyLits (d+1) 3 [.int .i64 n]=some [.int .i64 n]:=by
 unfold Program.keyLits;rw [Tryz.underlying3];simp [wf64 h]
theorem range4:List.range 4=[0,1,2,3]:=rfl
theorem range6:List.range 6=[0,1,2,3,4,5]:=rfl
theorem litsT (d:Nat) {a b c e:Int} (h0:0≤a∧a≤255) (h1:0≤b∧b≤255) (h2:0≤c∧c≤255) (h3:0≤e∧e≤255) :
 Tryz.prog.keyLits (d+2) 131 [.int .u8 a,.int .u8 b,.int .u8 c,.int .u8 e]=some [.int .u8 a,.int .u8 b,.int .u8 c,.int .u8 e]:=by
 unfold Program.keyLits;rw [Tryz.underlying131]
 simp [cellsT,cellsB,range4,lits8 d h0,lits8 d h1,lits8 d h2,lits8 d h3]
def litV (v:V):List Lit:=[.int .i32 (kI v),.int .u8 (tB v 0),.int .u8 (tB v 1),.int .u8 (tB v 2),.int .u8 (tB v 3),.int .i64 (nI v)]
theorem litsV (d:Nat) {v:V} (h:VOk v):Tryz.prog.keyLits (d+3) 133 (encV v)=some (litV v):=by
 unfold Program.keyLits;rw [Tryz.underlying133];have e0:=lits32 (d+1) (kI_range v);have e1:=litsT d (tB_range v 0) (tB_range v 1) (tB_range v 2) (tB_range v 3);have e2:=lits64 (d+1) (nI_range h);simp only [encV]
 simp [cellsV,cellsK,cellsT,cellsN,e0,e1,e2,litV]
theorem key_val {v:V} (h:VOk v):∃ l,keyOf Tryz.prog 133 (aggV v)=some l:=by
 unfold keyOf;rw [Tryz.underlying133]
 have hf:(aggV v).formed Tryz.prog 133=true:=by simp [Value.formed,Tryz.underlying133,cellsV,aggV,encV]
 have hs:Tryz.prog.types.size+1=(Tryz.prog.types.size-2)+3:=by have h:2<Tryz.prog.types.size:=of_decide_eq_true (by kernel_rfl);omega
 have hc:(aggV v).cells.toList=encV v:=by simp [aggV,Value.cells]
 simp only [keyV,hf,Bool.and_self,if_true,hs,hc,litsV _ h,Option.map_some];exact ⟨_,rfl⟩
theorem litsA (d:Nat) {a b c e f g:V} (h0:VOk a) (h1:VOk b) (h2:VOk c) (h3:VOk e) (h4:VOk f) (h5:VOk g) :
 ∃ l,Tryz.prog.keyLits (d+4) 152 (encV a++(encV b++(encV c++(encV e++(encV f++encV g)))))=some l:=by
 unfold Program.keyLits;rw [Tryz.underlying152];have e0:=litsV d h0;have e1:=litsV d h1;have e2:=litsV d h2;have e3:=litsV d h3;have e4:=litsV d h4;have e5:=litsV d h5
 have dr:∀ (x:V) (l:List Value) (n:Nat),(encV x++l).drop (n+6)=l.drop n:=fun x l n=>rfl
 have tk:∀ (x:V) (l:List Value),(encV x++l).take 6=encV x:=fun x l=>rfl
 have tk0:∀ (x:V),(encV x).take 6=encV x:=fun x=>rfl
 refine ⟨[litV a,litV b,litV c,litV e,litV f,litV g].flatten,?_⟩;have hlen:(encV a++(encV b++(encV c++(encV e++(encV f++encV g))))).length=36:=rfl;have m0:((encV a++(encV b++(encV c++(encV e++(encV f++encV g))))).drop (0*6)).take 6=encV a:=rfl;have m1:((encV a++(encV b++(encV c++(encV e++(encV f++encV g))))).drop (1*6)).take 6=encV b:=rfl;have m2:((encV a++(encV b++(encV c++(encV e++(encV f++encV g))))).drop (2*6)).take 6=encV c:=rfl;have m3:((encV a++(encV b++(encV c++(encV e++(encV f++encV g))))).drop (3*6)).take 6=encV e:=rfl;have m4:((encV a++(encV b++(encV c++(encV e++(encV f++encV g))))).drop (4*6)).take 6=encV f:=rfl;have m5:((encV a++(encV b++(encV c++(encV e++(encV f++encV g))))).drop (5*6)).take 6=encV g:=rfl;simp only [cellsA,cellsV,hlen,if_true,range6,List.mapM_cons,List.mapM_nil,m0,m1,m2,m3,m4,m5,e0,e1,e2,e3,e4,e5]
 rfl
theorem key_row {r:Row} (h:ROk r):∃ l,keyOf Tryz.prog 154 (aggR r)=some l:=by
 unfold keyOf;rw [Tryz.underlying154]
 have hf:(aggR r).formed Tryz.prog 154=true:=by simp [Value.formed,Tryz.underlying154,cellsR,aggR,encR,encV]
 have hs:Tryz.prog.types.size+1=(Tryz.prog.types.size-4)+5:=by have h:4<Tryz.prog.types.size:=of_decide_eq_true (by kernel_rfl);omega
 have hc:(aggR r).cells.toList=encR r:=by simp [aggR,Value.cells]
 obtain ⟨l,hl⟩:=litsA (Tryz.prog.types.size-4) (colR_ok h 0) (colR_ok h 1) (colR_ok h 2) (colR_ok h 3) (colR_ok h 4) (colR_ok h 5)
 have e0:=litsInt (Tryz.prog.types.size-4+3) (n:=(r.length:Int)) (by have:=h.1;omega)
 have hk:Tryz.prog.keyLits ((Tryz.prog.types.size-4)+5) 154 (encR r)=some ([.int .i64 (r.length:Int)]++l):=by
  unfold Program.keyLits;rw [Tryz.underlying154];have hlen:(encR r).length=37:=rfl;have m0:((encR r).drop 0).take 1=[.int .i64 (r.length:Int)]:=rfl;have m1:((encR r).drop 1).take 36=encV (colR r 0)++(encV (colR r 1)++(encV (colR r 2)++(encV (colR r 3)++(encV (colR r 4)++encV (colR r 5))))):=rfl;simp only [cellsR,hlen];simp only [List.mapM_cons,List.mapM_nil,cellsI,cellsA,m0,m1,e0,hl]
  simp
 simp only [keyR,hf,Bool.and_self,if_true,hs,hc,hk,Option.map_some];exact ⟨_,rfl⟩
theorem aggR_inj {r q:Row} (hr:ROk r) (hq:ROk q) (h:aggR r=aggR q):r=q:=by
 unfold aggR at h
 injection h with h
 exact encR_inj hr hq (by simpa using congrArg Array.toList h)
theorem aggV_inj {v u:V} (hv:VOk v) (hu:VOk u) (h:aggV v=aggV u):v=u:=by
 unfold aggV at h
 injection h with h
 exact encV_inj hv hu (by simpa using congrArg Array.toList h)
theorem rowKE:KE 154 aggR ROk:=⟨rowLaw,fun h=>key_row h,fun h1 h2 e=>aggR_inj h1 h2 e⟩
theorem valKE:KE 133 aggV VOk:=⟨valLaw,fun h=>key_val h,fun h1 h2 e=>aggV_inj h1 h2 e⟩
theorem Kept.map {κ:Type} {K:TypeId} {enc:κ→Value} {ok:κ→Prop} {S:Nat→Prop} {w w':World} (h:Kept S w w') {b:Nat} {m:κ→Option Value} (hm:MapIs K enc ok w b m) (hS:¬S b):MapIs K enc ok w' b m:=hm.of_block (h.block b hm.lt hS)
theorem MapIs.notIs {κ:Type} {K:TypeId} {enc:κ→Value} {ok:κ→Prop} {w:World} {b:Nat} {m:κ→Option Value} (h:MapIs K enc ok w b m) (t:TypeId):¬Is t w b:=by
 rintro ⟨c,z,hc⟩;obtain ⟨es,k,he⟩:=h.obj;rw [he] at hc;cases hc
open Mo (V Row Bag cnt canon colR)
def rowA (r:Row):Array Value:=(encR r).toArray
theorem rowA_size (r:Row):(rowA r).size=37:=rfl
theorem infoRow:(Tryz.prog.info? 154).map (·.size)=some 37:=by kernel_rfl
theorem infoVal:(Tryz.prog.info? 133).map (·.size)=some 6:=by kernel_rfl
theorem rowA_one (r:Row):(rowA r).all (·.oneCell')=true:=by
 rw [Array.all_eq_true_iff_forall_mem];intro v hv
 have hv':v∈encR r:=by simpa [rowA] using hv
 simp only [encR,encV,List.mem_cons,List.mem_append,List.not_mem_nil,or_false] at hv'
 rcases hv' with h | h | h | h | h | h | h <;> (try (subst h;rfl)) <;> (rcases h with h | h | h | h | h | h <;> subst h <;> rfl)
theorem rowA_get (r:Row) {i j:Nat} (hi:i<6) (hj:j<6):(rowA r)[1+i*6+j]? =(encV (colR r i))[j]? :=by
 rw [rowA,List.getElem?_toArray];exact encR_get r hi hj
theorem rowA_width (r:Row):(rowA r)[0]? =some (.int .i64 (r.length:Int)):=rfl
section
variable {ops:Array Oper} {rest:List Oper} {o:Oper} {a:Act} {w:World} {Q:Exit→Act→World→Prop}
theorem load_row (x:Operand) (ho:o.op=.load 154 x) (hgd:o.guard=none) (g:Nat) (hx:a.eval x=.pointer (some ⟨g,0,none⟩)) (r:Row) (hg:w.heap[g]? =some (.cells (rowA r) 154 (0,0)))
 (h:wpList Tryz.prog ops Q rest (a.put o.dst (.agg (rowA r))) w):wpList Tryz.prog ops Q (o::rest) a w :=
 wpList_load_row hgd 154 x ho g hx 154 (rowA r) (0,0) _ hg Tryz.underlying154 rfl (by rw [rowA_size];exact infoRow) h
theorem store_row (x y:Operand) (ho:o.op=.store 154 x y) (hgd:o.guard=none) (g:Nat) (hx:a.eval x=.pointer (some ⟨g,0,none⟩)) (r:Row) (hy:a.eval y=.agg (rowA r)) (old:Array Value) (hs:old.size=37) (hg:w.heap[g]? =some (.cells old 154 (0,0)))
 (h:wpList Tryz.prog ops Q rest (a.put o.dst undef) (w.setRow g (rowA r))):wpList Tryz.prog ops Q (o::rest) a w :=
 wpList_store_row hgd 154 x y ho g (rowA r) hx hy 154 old hg (by rw [rowA_size];exact infoRow) (by rw [rowA_size];exact hs) (rowA_one r) h
theorem run_load_val {g k:Nat} {v:V} (hc:∀ j x,(encV v)[j]? =some x→w.cell? ⟨g,k+j,none⟩=some x):(loadVar 133 ⟨g,k,none⟩).run Tryz.prog w=.ok (.agg (encV v).toArray) w:=by
 have hl:(loadCells ⟨g,k,none⟩ (encV v).length).run Tryz.prog w=.ok (encV v).toArray w :=
  run_loadCells_list (P:=Tryz.prog) w ⟨g,k,none⟩ (encV v) (fun j x hx=>by
   have hadd:(⟨g,k,none⟩:Addr).add j=⟨g,k+j,none⟩:=by unfold Addr.add;split <;> simp_all
   rw [hadd];exact hc j x hx)
 cases hq:Tryz.prog.info? 133 with
 | none=>have:=infoVal;simp [hq] at this
 | some i =>
   have hs:i.size=6:=by have:=infoVal;simpa [hq] using this
   have hagg:(isAgg 133).run Tryz.prog w=.ok true w:=by
    unfold isAgg;rw [Sem.run_bind,run_underlying Tryz.underlying133 w]
    rfl
   rw [encV_len] at hl
   simp [loadVar,Sem.run_bind,hagg,sizeOf,typeInfo,hq,hs,hl]
theorem load_val (x:Operand) (ho:o.op=.load 133 x) (hgd:o.guard=none) (g k:Nat) (hx:a.eval x=.pointer (some ⟨g,k,none⟩)) (v:V) (hc:∀ j x,(encV v)[j]? =some x→w.cell? ⟨g,k+j,none⟩=some x)
 (h:wpList Tryz.prog ops Q rest (a.put o.dst (aggV v)) w):wpList Tryz.prog ops Q (o::rest) a w:=by
 refine wpList_plain hgd fun _ hK=> ?_
 unfold Oper.wp execOp;simp only [ho,hx,Instr.loadAt,Instr.sureAddr,Sem.run_bind,Sem.run_pure,Result.andThen_ok,run_load_val hc];exact hK _ _ h
end
theorem cells_val {w:World} {g:Nat} {r:Row} (hg:w.heap[g]? =some (.cells (rowA r) 154 (0,0))) {c:Nat} (hc:c<6):∀ j x,(encV (colR r c))[j]? =some x→w.cell? ⟨g,1+c*6+j,none⟩=some x:=fun j x hx=>by
 rw [cell_of hg,rowA_get r hc (by have:=(List.getElem?_eq_some_iff.1 hx).1;rw [encV_len] at this;exact this)];exact hx
theorem wrap64_add (a b:Int):wrap64 (wrap64 a+b)=wrap64 (a+b):=by unfold wrap64;omega
theorem wrap64_idem (a:Int):wrap64 (wrap64 a)=wrap64 a:=by unfold wrap64;omega
theorem wrap64_zero:wrap64 0=0:=by unfold wrap64;omega
theorem wrap64_id {a:Int} (h: -9223372036854775808≤a∧a≤9223372036854775807):wrap64 a=a:=by unfold wrap64;omega
def bagM (l:Bag):Row→Option Value:=fun r=>if wrap64 (cnt l r)=0 then none else some (.int .i64 (wrap64 (cnt l r)))
def BagAt (w:World) (b:Nat) (l:Bag):Prop:=(∀ e∈l,ROk e.1)∧MapIs 154 aggR ROk w b (bagM l)
theorem bagM_eqv {l l':Bag} (e:Mo.Eqv l l'):bagM l=bagM l':=by funext r;unfold bagM;rw [e r]
theorem BagAt.lt {w:World} {b:Nat} {l:Bag} (h:BagAt w b l):b<w.heap.size:=h.2.lt
theorem BagAt.obj {w:World} {b:Nat} {l:Bag} (h:BagAt w b l):∃ es c,w.heap[b]? =some (.map es c):=h.2.obj
theorem BagAt.of_block {w w':World} {b:Nat} {l:Bag} (h:BagAt w b l) (hb:w'.heap[b]? =w.heap[b]?):BagAt w' b l:=⟨h.1,h.2.of_block hb⟩
theorem BagAt.kept {S:Nat→Prop} {w w':World} {b:Nat} {l:Bag} (h:BagAt w b l) (k:Kept S w w') (hb:¬S b):BagAt w' b l:=h.of_block (k.block b h.lt hb)
theorem BagAt.notIs {w:World} {b:Nat} {l:Bag} (h:BagAt w b l) (t:TypeId):¬Is t w b:=h.2.notIs t
theorem BagAt.eqv {w:World} {b:Nat} {l l':Bag} (h:BagAt w b l) (e:Mo.Eqv l l') (hok:∀ x∈l',ROk x.1):BagAt w b l':=⟨hok,by rw [←bagM_eqv e];exact h.2⟩
theorem BagAt.made (w:World):BagAt (w.alloc (.map #[] 0)) w.heap.size []:=by
 refine ⟨by simp,?_⟩
 have e:bagM []=fun _=>none:=by funext r;unfold bagM;rw [if_pos (show wrap64 (cnt [] r)=0 from wrap64_zero)]
 rw [e];exact MapIs.made _ _ _ w
theorem bagM_cov (l:Bag):Cov (bagM l) (canon l).length:=by
 refine ⟨(canon l).map (·.1),by simp,fun r hr=> ?_⟩
 have hc:cnt (canon l) r≠0:=by
  intro e;rw [Mo.canon_cnt] at e;unfold bagM at hr
  rw [if_pos (by rw [e];exact wrap64_zero)] at hr;cases hr
 obtain ⟨x,hx,rfl⟩:=Mo.Rise.mem_of_cnt hc;exact List.mem_map.2 ⟨x,hx,rfl⟩
theorem bagM_put (l:Bag) (r:Row) (t:Int) (o:Option Value) (ho:o=if wrap64 (wrap64 (cnt l r)+t)=0 then none else some (.int .i64 (wrap64 (wrap64 (cnt l r)+t)))):upd (bagM l) r o=bagM ((r,t)::l):=by
 funext q
 by_cases h:q=r
 ·subst h
  have e:wrap64 (cnt ((q,t)::l) q)=wrap64 (wrap64 (cnt l q)+t):=by rw [wrap64_add];simp only [cnt,if_pos];rw [Int.add_comm]
  rw [upd_same,ho];unfold bagM;rw [e]
 ·have e:cnt ((r,t)::l) q=cnt l q:=by simp only [cnt];rw [if_neg (fun e=>h e.symm)];omega
  rw [upd_other _ _ h];unfold bagM;rw [e]
theorem bagM_get (l:Bag) (r:Row):(bagM l r).getD (.int .i64 0)=.int .i64 (wrap64 (cnt l r)):=by
 unfold bagM
 by_cases h:wrap64 (cnt l r)=0
 ·rw [if_pos h,h];rfl
 ·rw [if_neg h];rfl
theorem zero64 (w:World):(zeroValue 2).run Tryz.prog w=.ok (.int .i64 0) w:=by kernel_rfl
theorem add_any (b:Nat) (l:Bag) (r:Row) (t:Int) (w:World) (h:BagAt w b l) (hok:ROk r) (hn:(canon l).length<maxLen) :
 Calls Tryz.prog 79 #[.map (some b),.agg (rowA r),.int .i64 t] w fun e w'=>e=.returned (.tuple #[])∧BagAt w' b ((r,t)::l)∧Kept (·=b) w w':=by
 have HL:=hid h.1;have hm:MapIs 154 aggR ROk (w.alloc (.cells (rowA r) 154)) b (bagM l):=h.2.of_block (Below.heap_alloc _ _ _ h.lt);have HM:=hid hm;have HO:=hid hok;have HN:=hid hn;have hg:(w.alloc (.cells (rowA r) 154)).heap[w.heap.size]? =some (.cells (rowA r) 154 (0,0)):=heap_alloc_last _ _;have HG:=hid hg;clear hm h hok hn hg
 by_cases hz:wrap64 (wrap64 (cnt l r)+t)=0
 ·have hz':(wrap64 (wrap64 (cnt l r)+t) == 0)=true:=by simp [hz]
  have HZ:=hid hz;clear hz
  go_enter Tryz.func79,Tryz.ntmps79
  go_wp2_with (first
   | (refine load_row _ rfl rfl w.heap.size rfl r HG.out ?_)
   | (at_lookup;refine wpList_lookup_map _ rowKE rfl _ _ 83 2 rfl Tryz.underlying83 _ (zero64 _) b (bagM l) rfl HM.out r HO.out rfl _ (bagM_get l r) ?_)
   | (at_delete;refine wpList_delete_map _ rowKE rfl _ _ 83 2 rfl Tryz.underlying83 b (bagM l) rfl HM.out r HO.out rfl ?_;intro w2 hm2 ht2)
   | fail)
  refine bodyPost_ret (results_none rfl _ _ _) rfl ?_
  have hk2:Kept (·=b) w w2:=((Kept.refl (·=b) w).alloc _).grown ht2.grown (fun r e=>by cases e;exact .inr rfl)
  refine ⟨rfl,⟨fun e he=> ?_,?_⟩,hk2⟩
  ·rcases List.mem_cons.1 he with rfl | he
   ·exact HO.out
   ·exact HL.out e he
  ·rw [←bagM_put l r t none (by rw [if_pos HZ.out])];exact hm2
 ·have hz':(wrap64 (wrap64 (cnt l r)+t) == 0)=false:=by simp [hz]
  have HZ:=hid hz;clear hz
  go_enter Tryz.func79,Tryz.ntmps79
  go_wp2_with (first
   | (refine load_row _ rfl rfl w.heap.size rfl r HG.out ?_)
   | (at_lookup;refine wpList_lookup_map _ rowKE rfl _ _ 83 2 rfl Tryz.underlying83 _ (zero64 _) b (bagM l) rfl HM.out r HO.out rfl _ (bagM_get l r) ?_)
   | (at_mapUpdate;refine wpList_update_map _ rowKE rfl _ _ _ 83 2 rfl Tryz.underlying83 b (bagM l) _ rfl HM.out (bagM_cov l) HN.out r HO.out _ rfl rfl ?_;intro w2 hm2 ht2)
   | fail)
  go_end0
  have hk2:Kept (·=b) w w2:=((Kept.refl (·=b) w).alloc _).grown ht2.grown (fun r e=>by cases e;exact .inr rfl)
  refine ⟨rfl,⟨fun e he=> ?_,?_⟩,hk2⟩
  ·rcases List.mem_cons.1 he with rfl | he
   ·exact HO.out
   ·exact HL.out e he
  ·rw [←bagM_put l r t (some _) (by rw [if_neg HZ.out])];exact hm2
open Mo (V Row Bag cnt canon)
def Ents (l es:Bag):Prop:=(es.map (·.1)).Nodup∧∀ e∈es,ROk e.1∧e.2=wrap64 (cnt l e.1)∧e.2≠0
def AllOf (l es:Bag):Prop:=Ents l es∧∀ r,ROk r→wrap64 (cnt l r)≠0→∃ e∈es,e.1=r
theorem cnt_of_nodup {es:Bag} (h:(es.map (·.1)).Nodup) {e:Row × Int} (he:e∈es):cnt es e.1=e.2:=by
 induction es with
 | nil=>cases he
 | cons x es ih =>
   have hn:=List.nodup_cons.1 (by simpa using h:(x.1::es.map (·.1)).Nodup)
   rcases List.mem_cons.1 he with rfl | he
   ·simp only [cnt,if_pos]
    rw [Mo.cnt_none fun y hy e'=>hn.1 (List.mem_map.2 ⟨y,hy,e'⟩)];omega
   ·simp only [cnt]
    have hne:¬x.1=e.1:=fun e'=>hn.1 (by rw [e'];exact List.mem_map.2 ⟨e,he,rfl⟩)
    rw [if_neg hne,ih hn.2 he];omega
theorem AllOf.cnt {l es:Bag} (h:AllOf l es) (hl:∀ e∈l,ROk e.1) (r:Row):cnt es r=wrap64 (Mo.cnt l r):=by
 by_cases hr:∃ e∈es,e.1=r
 ·obtain ⟨e,he,rfl⟩:=hr
  rw [cnt_of_nodup h.1.1 he];exact (h.1.2 e he).2.1
 ·rw [Mo.cnt_none fun e he e'=>hr ⟨e,he,e'⟩]
  by_cases hz:wrap64 (Mo.cnt l r)=0
  ·exact hz.symm
  ·exfalso
   have:Mo.cnt l r≠0:=fun e=>hz (by rw [e];exact wrap64_zero)
   obtain ⟨x,hx,rfl⟩:=Mo.Rise.mem_of_cnt this;exact hr (h.2 x.1 (hl x hx) hz)
def BRng (w:World) (b it:Nat) (l es:Bag) (k:Nat):Prop:=(∀ e∈l,ROk e.1)∧Ents l es∧Rng 154 aggR ROk w b it (bagM l) (es.map fun e=>(e.1,Value.int .i64 e.2)) k
section
variable {w w':World} {b it:Nat} {l es:Bag} {k:Nat}
theorem BRng.at (h:BRng w b it l es k):BagAt w b l:=⟨h.1,h.2.2.owns⟩
theorem BRng.ne (h:BRng w b it l es k):it≠b:=h.2.2.ne
theorem BRng.lt (h:BRng w b it l es k):it<w.heap.size:=h.2.2.lt
theorem BRng.ents (h:BRng w b it l es k):Ents l es:=h.2.1
theorem BRng.of_blocks (h:BRng w b it l es k) (hb:w'.heap[b]? =w.heap[b]?) (hr:w'.heap[it]? =w.heap[it]?):BRng w' b it l es k:=⟨h.1,h.2.1,h.2.2.of_blocks hb hr⟩
theorem BRng.kept {S:Nat→Prop} (h:BRng w b it l es k) (kp:Kept S w w') (hb:¬S b) (hi:¬S it):BRng w' b it l es k:=h.of_blocks (kp.block b h.at.lt hb) (kp.block it h.lt hi)
theorem BRng.iter (h:BRng w b it l es k):∃ x y z u,w.heap[it]? =some (.mapIter x y z u):=by
 obtain ⟨_,_,⟨D,left,⟨_,_,_,_,_,_,_,_,_,hr5,_⟩,_⟩⟩:=h;exact ⟨_,_,_,_,hr5⟩
end
section
variable (w:World) {ops:Array Oper} {rest:List Oper} {o:Oper} {a:Act} {Q:Exit→Act→World→Prop}
theorem wpList_range_bag (hg:o.guard=none) (mo:Operand) (hop:o.op=Op.range 83 mo) (b:Nat) (l:Bag) (hm:a.eval mo=.map (some b)) (hown:BagAt w b l)
 (hK:∀ w' k,BRng w' b w.heap.size l [] k→Kept No w w'→w'.heap.size=w.heap.size+1→wpList Tryz.prog ops Q rest (a.put o.dst (.pointer (some ⟨w.heap.size,0,none⟩))) w'):wpList Tryz.prog ops Q (o::rest) a w:=by
 refine wpList_range_map w rowKE hg mo 83 2 hop Tryz.underlying83 b (bagM l) hm hown.2 ?_;intro w' k h1 h2 h3
 exact hK w' k ⟨hown.1,⟨by simp,by simp⟩,h1⟩ ((Kept.refl _ _).grown h2 (fun r e=>by cases e)) h3
theorem wpList_next_bag (hg:o.guard=none) (it:Operand) (hop:o.op=Op.next it false) (b r:Nat) (l es:Bag) (k:Nat) (hit:a.eval it=.pointer (some ⟨r,0,none⟩)) (h:BRng w b r l es k)
 (hDone:AllOf l es→wpList Tryz.prog ops Q rest (a.put o.dst (.tuple #[.bool false])) w)
 (hMore:∀ (t:Int) (q:Row) (w':World) (k':Nat),ROk q→t=wrap64 (cnt l q)→t≠0→BRng w' b r l (es++[(q,t)]) k'→k'<k→Kept (·=r) w w'→w'.heap.size=w.heap.size →
   (Instr.entry (.pointer (some ⟨r,0,none⟩))).run Tryz.prog w'=.ok (.tuple #[.agg (rowA q),.int .i64 t]) w'→wpList Tryz.prog ops Q rest (a.put o.dst (.tuple #[.bool true,.agg (rowA q),.int .i64 t])) w'):wpList Tryz.prog ops Q (o::rest) a w:=by
 obtain ⟨h1,h2,h3⟩:=h;refine wpList_next_map w rowKE hg it hop b r (bagM l) _ k hit h3 ?_ ?_
 ·intro hf
  refine hDone ⟨h2,fun q hq hc=> ?_⟩
  have hv:bagM l q=some (.int .i64 (wrap64 (cnt l q))):=by unfold bagM;rw [if_neg hc]
  have hmem:=(hf.2 _ _).2 hv;obtain ⟨e,he,e'⟩:=List.mem_map.1 hmem
  exact ⟨e,he,by injection e'⟩
 ·intro q v w' k' hq hv hnew h1' hlt hgr hsz hen
  have hkp:Kept (·=r) w w':=(Kept.refl _ _).grown hgr (fun x e=>by cases e;exact .inr rfl)
  have hne:wrap64 (cnt l q)≠0:=fun e=>by unfold bagM at hv;rw [if_pos e] at hv;cases hv
  have hvv:v=.int .i64 (wrap64 (cnt l q)):=by unfold bagM at hv;rw [if_neg hne] at hv;simpa using hv.symm
  subst hvv;refine hMore _ q w' k' hq rfl hne ⟨h1,⟨?_,?_⟩,?_⟩ hlt hkp hsz hen
  ·rw [List.map_append,List.nodup_append]
   refine ⟨h2.1,by simp,fun y hy z hz=> ?_⟩
   simp at hz;subst hz
   rintro rfl;obtain ⟨e,he,e'⟩:=List.mem_map.1 hy
   exact hnew (.int .i64 e.2) (List.mem_map.2 ⟨e,he,by rw [e']⟩)
  ·intro e he
   rcases List.mem_append.1 he with he | he
   ·exact h2.2 e he
   ·simp at he;subst he;exact ⟨hq,rfl,hne⟩
  ·rw [List.map_append];exact h1'
theorem store_row_new (x y:Operand) (ho:o.op=.store 154 x y) (hgd:o.guard=none) (w0:World) (old:Array Value) (hw:w=w0.alloc (.cells old 154)) (hs:old.size=37) (hx:a.eval x=.pointer (some ⟨w0.heap.size,0,none⟩)) (r:Row) (hy:a.eval y=.agg (rowA r))
 (h:wpList Tryz.prog ops Q rest (a.put o.dst undef) (w0.alloc (.cells (rowA r) 154))):wpList Tryz.prog ops Q (o::rest) a w:=by
 subst hw;refine store_row x y ho hgd w0.heap.size hx r hy old hs (heap_alloc_last _ _) ?_;rw [World.setRow_alloc_new];exact h
end
open Mo (V Row Bag cnt canon lin)
theorem Ents.len {l es:Bag} (h:Ents l es):es.length≤(canon l).length:=by
 have h1:=length_le_of_sub (m:=(canon l).map (·.1)) h.1 (fun r hr=>by
  obtain ⟨e,he,rfl⟩:=List.mem_map.1 hr;obtain ⟨_,h2,h3⟩:=h.2 e he
  have:cnt (canon l) e.1≠0:=by
   rw [Mo.canon_cnt];intro e';rw [e',wrap64_zero] at h2;exact h3 h2
  obtain ⟨x,hx,hx2⟩:=Mo.Rise.mem_of_cnt this
  exact List.mem_map.2 ⟨x,hx,hx2⟩)
 simpa using h1
def Weq (l m:Bag):Prop:=∀ r,wrap64 (cnt l r)=wrap64 (cnt m r)
theorem BagAt.weq {w:World} {b:Nat} {l l':Bag} (h:BagAt w b l) (e:Weq l l') (hok:∀ x∈l',ROk x.1):BagAt w b l':=by
 refine ⟨hok,?_⟩
 have:bagM l=bagM l':=by funext r;unfold bagM;rw [e r]
 rw [←this];exact h.2
theorem AllOf.weq {l es:Bag} (h:AllOf l es) (hl:∀ e∈l,ROk e.1) (m:Bag):Weq (es++m) (l++m):=fun r=>by
 rw [Mo.cnt_append,Mo.cnt_append,h.cnt hl r,wrap64_add]
theorem ok_append {l m:Bag} (h:∀ e∈l,ROk e.1) (k:∀ e∈m,ROk e.1):∀ e∈l++m,ROk e.1:=fun e he=>by
 rcases List.mem_append.1 he with he | he
 ·exact h e he
 ·exact k e he
theorem Ents.ok {l es:Bag} (h:Ents l es):∀ e∈es,ROk e.1:=fun e he=>(h.2 e he).1
theorem addAll_any (b1 b2:Nat) (l1 l2:Bag) (w:World) (h1:BagAt w b1 l1) (h2:BagAt w b2 l2) (hne:b1≠b2) (hn:(canon l1).length+(canon l2).length<maxLen) :
 Calls Tryz.prog 116 #[.map (some b1),.map (some b2)] w fun e w'=>e=.returned (.tuple #[])∧BagAt w' b1 (l2++l1)∧Kept (·=b1) w w':=by
 have H1:=hid h1;have H2:=hid h2;have HN:=hid hn;clear h1 h2 hn
 go_enter Tryz.func116,Tryz.ntmps116
 go_wp2_with (first
  | (at_range;refine wpList_range_bag _ rfl _ rfl b2 l2 rfl H2.out ?_;intro w1 k1 hr1 hk1 hs1)
  | fail)
 have HR1:=hid hr1
 have HA1:Hid (BagAt w1 b1 l1):=H1.out.kept hk1 (fun e=>e)
 have hk1':Kept (·=b1) w w1:=hk1.any
 have hb1:=H1.out.lt;clear hr1 hs1 hk1
 go_frame
 go_loopg [] k1 (fun k wr=>∃ es:Bag,Hid (BRng wr b2 w.heap.size l2 es k)∧Hid (BagAt wr b1 (es++l1))∧Kept (·=b1) w wr)
 case atStart=>exact ⟨[],HR1,HA1,hk1'⟩
 case round =>
  obtain ⟨es,hr,ha,hk⟩:=hrel;have HK:=hid hk;clear hk hk1'
  go_wp2_with (first
   | (at_next;refine wpList_next_bag _ rfl _ rfl b2 w.heap.size l2 es gk rfl hr.out ?_ ?_)
   | fail)
  ·intro hall
   go_wp2_with fail;go_end0;exact ⟨rfl,ha.out.weq (hall.weq H2.out.1 l1) (ok_append H2.out.1 H1.out.1),HK.out⟩
  ·intro t q w2 k2 hq ht htn hr2 hlt hk2 hsz hen
   have HQ:=hid hq;have HR2:=hid hr2;have HK2:=hid hk2
   have ha2:BagAt w2 b1 (es++l1):=ha.out.kept hk2 (fun e=>by omega)
   have HA2:Hid (BagAt (w2.alloc (.cells (rowA q) 154)) b1 (es++l1)):=ha2.of_block (Below.heap_alloc _ _ _ ha2.lt);have HG:Hid ((w2.alloc (.cells (rowA q) 154)).heap[w2.heap.size]? =some (.cells (rowA q) 154 (0,0))):=heap_alloc_last _ _
   have HL:Hid ((canon (es++l1)).length<maxLen):=by
    have e1:=HR2.out.ents.len;have e2:=Mo.canon_append_len es l1;have e3:=HN.out
    show _<_
    simp at e1;omega
   clear hq hr2 hk2 ht htn ha2 hsz
   go_wp2_with (first
    | (refine store_row_new _ _ _ rfl rfl w2 _ rfl rfl rfl q rfl ?_)
    | (refine load_row _ rfl rfl w2.heap.size rfl q HG.out ?_)
    | fail)
   refine (add_any b1 (es++l1) q t _ HA2.out HQ.out HL.out).mono ?_;rintro e w3 ⟨rfl,h3,k3⟩
   have hk3:Kept (·=b1) w2 w3:=((Kept.refl No w2).alloc _).noSeq k3
   have HR3:Hid (BRng w3 b2 w.heap.size l2 (es++[(q,t)]) k2):=HR2.out.kept hk3 (fun e=>hne e.symm) (fun e=>by omega)
   have HB3:Hid (BagAt w3 b1 ((es++[(q,t)])++l1)):=by
    refine h3.eqv (fun r=> ?_) (ok_append HR2.out.ents.ok H1.out.1)
    simp only [Mo.cnt_append,cnt];omega
   have HK3:Hid (Kept (·=b1) w w3):=by
    have h4:Kept (·=b1) w w2:=HK.out.trans HK2.out (fun _ e=>e) (fun i hi e=>by omega)
    exact h4.seq hk3
   clear h3 k3 hk3;go_wp2_with fail;go_roundg k2
   case measure=>exact hlt
   case rel=>exact ⟨es++[(q,t)],HR3,HB3,HK3.out⟩
def BagV (w:World) (v:Value) (l:Bag):Prop:=(v=.map none∧l=[])∨∃ b,v=.map (some b)∧BagAt w b l
theorem BagV.ok {w:World} {v:Value} {l:Bag} (h:BagV w v l):∀ e∈l,ROk e.1:=by
 rcases h with ⟨_,rfl⟩ | ⟨b,_,h⟩
 ·simp
 ·exact h.1
theorem BagV.of_block {w w':World} {v:Value} {l:Bag} (h:BagV w v l) (hb:∀ b,v=.map (some b)→w'.heap[b]? =w.heap[b]?):BagV w' v l:=by
 rcases h with h | ⟨b,rfl,h⟩
 ·exact .inl h
 ·exact .inr ⟨b,rfl,h.of_block (hb b rfl)⟩
theorem BagV.kept {S:Nat→Prop} {w w':World} {v:Value} {l:Bag} (h:BagV w v l) (k:Kept S w w') (hb:∀ b,v=.map (some b)→¬S b):BagV w' v l:=by
 rcases h with h | ⟨b,rfl,h⟩
 ·exact .inl h
 ·exact .inr ⟨b,rfl,h.kept k (hb b rfl)⟩
theorem BagV.keptNo {w w':World} {v:Value} {l:Bag} (h:BagV w v l) (k:Kept No w w'):BagV w' v l:=h.kept k (fun _ _ e=>e)
def tot (es:Bag):Int:=lin es fun _=>1
theorem tot_snoc (es:Bag) (r:Row) (t:Int):tot (es++[(r,t)])=tot es+t:=by simp [tot,Mo.lin_append,lin]
end Go.Proofs.YtdinjjmcmfjbfaaGreatDoor
namespace Go.Proofs.YtdinjjmcmfjbfaaGreatDoor.Mo
def wv:V→Int
 | .num n=>n.natAbs
 | .txt _=>0
def wt:Row→Int
 | []=>1
 | v::r=>max (wv v) (wt r)
theorem wt_pos (r:Row):1≤wt r:=by
 induction r with
 | nil=>exact Int.le_refl _
 | cons v r ih=>simp only [wt];omega
theorem wt_nn (r:Row):0≤wt r:=by have:=wt_pos r;omega
theorem wv_le {v:V} {r:Row} (h:v∈r):wv v≤wt r:=by
 induction r with
 | nil=>cases h
 | cons x r ih =>
   simp only [wt]
   rcases List.mem_cons.1 h with rfl | h
   ·omega
   ·have:=ih h;omega
theorem wt_le {r:Row} {b:Int} (h1:1≤b) (h:∀ v∈r,wv v≤b):wt r≤b:=by
 induction r with
 | nil=>exact h1
 | cons x r ih=>simp only [wt];have:=h x (by simp);have:=ih (fun v hv=>h v (by simp [hv]));omega
theorem wt_append (r s:Row):wt (r++s)≤wt r+wt s:=by
 refine wt_le (by have:=wt_pos r;have:=wt_pos s;omega) fun v hv=> ?_
 have:=wt_pos r
 have:=wt_pos s
 rcases List.mem_append.1 hv with h | h
 ·have:=wv_le h;omega
 ·have:=wv_le h;omega
theorem colR_wt (r:Row) (c:Nat):wv (colR r c)≤wt r:=by
 unfold colR;rw [List.getD_eq_getElem?_getD]
 cases h:r[c]? with
 | none=>have:=wt_pos r;simp [wv];omega
 | some v=>simp;exact wv_le (List.mem_of_getElem? h)
theorem pickR_wt (cs:List Nat) (r:Row):wt (pickR cs r)≤wt r:=by
 refine wt_le (wt_pos r) fun v hv=> ?_
 obtain ⟨c,_,rfl⟩:=List.mem_map.1 hv;exact colR_wt r c
theorem sv_wt (s:Option Nat) (r:Row): -wt r≤sv s r∧sv s r≤wt r:=by
 have h1:=wt_pos r
 cases s with
 | none=>simp only [sv];omega
 | some m =>
   have h:=colR_wt r m;simp only [sv]
   cases hc:colR r m with
   | num n=>rw [hc] at h;simp only [wv,numV] at *;omega
   | txt t=>simp only [numV];omega
def Nr (l:Bag):Int:=lin l (fun _=>1)
def Wt (l:Bag):Int:=lin l wt
theorem Nr_nn {l:Bag} (h:nn l):0≤Nr l:=lin_nn h fun _=>by omega
theorem Wt_nn {l:Bag} (h:nn l):0≤Wt l:=lin_nn h wt_nn
theorem cnt_le_Nr {l:Bag} (h:nn l) (r:Row):cnt l r≤Nr l:=by rw [cnt_eq_lin];exact lin_mono h fun x=>by split <;> omega
theorem mem_le_Wt {l:Bag} (h:nn l) {e:Row × Int} (he:e∈canon l) {v:V} (hv:v∈e.1):wv v≤Wt l :=
 Int.le_trans (wv_le hv) (lin_term h wt_nn he)
theorem len_le_Nr {l:Bag} (h:nn l):((canon l).length:Int)≤Nr l:=by
 unfold Nr;rw [←canon_lin]
 have key:∀ {m:Bag},(∀ x∈m,1≤x.2)→(m.length:Int)≤lin m (fun _=>1):=by
  intro m hm
  induction m with
  | nil=>exact Int.le_refl _
  | cons y m ih =>
    have:=hm y (by simp)
    have:=ih (fun x hx=>hm x (by simp [hx]))
    simp only [lin,List.length_cons];omega
 exact key fun x hx=>nn_mem h hx
theorem Nr_eqv {l m:Bag} (h:Eqv l m):Nr l=Nr m:=h.lin _
theorem Wt_eqv {l m:Bag} (h:Eqv l m):Wt l=Wt m:=h.lin _
theorem selB_Nr {p:Row→Bool} {l:Bag} (h:nn l):Nr (selB p l)≤Nr l:=by unfold Nr;rw [selB_lin];exact lin_mono h fun r=>by split <;> omega
theorem selB_Wt {p:Row→Bool} {l:Bag} (h:nn l):Wt (selB p l)≤Wt l:=by
 unfold Wt;rw [selB_lin];exact lin_mono h fun r=>by have:=wt_nn r;split <;> omega
theorem pickB_Nr (cs:List Nat) (l:Bag):Nr (pickB cs l)=Nr l:=pickB_lin _ _ _
theorem pickB_Wt {cs:List Nat} {l:Bag} (h:nn l):Wt (pickB cs l)≤Wt l:=by unfold Wt;rw [pickB_lin];exact lin_mono h fun r=>pickR_wt cs r
theorem append_Nr (a b:Bag):Nr (a++b)=Nr a+Nr b:=lin_append _ _ _
theorem append_Wt (a b:Bag):Wt (a++b)=Wt a+Wt b:=lin_append _ _ _
theorem lin_const (l:Bag) (c:Int):lin l (fun _=>c)=c*Nr l:=by
 have:=lin_mul l c (fun _=>1);simp only [Int.mul_one] at this;exact this
theorem joinB_Nr {n m:Nat} {a b:Bag} (h:nn a) (k:nn b):Nr (joinB n m a b)≤Nr a*Nr b:=by
 unfold Nr;rw [joinB_lin]
 have h1:lin a (fun x=>lin b (fun y=>if decide (colR x n=colR y m)=true then 1 else 0))≤lin a (fun _=>Nr b):=lin_mono h fun x=>lin_mono k fun y=>by split <;> omega
 rw [lin_const,Int.mul_comm] at h1;exact h1
theorem joinB_Wt {n m:Nat} {a b:Bag} (h:nn a) (k:nn b):Wt (joinB n m a b)≤Nr b*Wt a+Nr a*Wt b:=by
 unfold Wt;rw [joinB_lin]
 have h1:lin a (fun x=>lin b (fun y=>if decide (colR x n=colR y m)=true then wt (x++y) else 0))≤lin a (fun x=>Nr b*wt x+Wt b):=by
  refine lin_mono h fun x=> ?_
  have h2:lin b (fun y=>if decide (colR x n=colR y m)=true then wt (x++y) else 0)≤lin b (fun y=>wt x+wt y):=lin_mono k fun y=>by
   have:=wt_append x y
   have:=wt_nn x
   have:=wt_nn y
   split <;> omega
  rw [lin_add,lin_const,Int.mul_comm] at h2;exact h2
 rw [lin_add,lin_mul,lin_const,Int.mul_comm (Wt b)] at h1;exact h1
theorem ones_le {l:Bag} (h:nn l) {g:Row→Int} (hg:∀ r,0≤g r):lin ((canon l).map fun e=>(e.1,1)) g≤lin l g:=by
 rw [←canon_lin l g]
 have key:∀ {m:Bag},(∀ x∈m,1≤x.2)→lin (m.map fun e=>(e.1,1)) g≤lin m g:=by
  intro m hm
  induction m with
  | nil=>exact Int.le_refl _
  | cons y m ih =>
    have h1:=Int.mul_le_mul_of_nonneg_right (hm y (by simp)) (hg y.1)
    have h2:=ih (fun x hx=>hm x (by simp [hx]))
    simp only [List.map_cons,lin];omega
 exact key fun x hx=>nn_mem h hx
theorem distB_Nr {l:Bag} (h:nn l):Nr (distB l)≤Nr l:=ones_le h fun _=>by omega
theorem distB_Wt {l:Bag} (h:nn l):Wt (distB l)≤Wt l:=ones_le h wt_nn
theorem Rise.nodup {l:Bag} (h:Rise l):(l.map (·.1)).Nodup:=by
 induction l with
 | nil=>simp
 | cons e l ih =>
   rw [List.map_cons,List.nodup_cons]
   refine ⟨fun hm=> ?_,ih h.2.2⟩
   obtain ⟨x,hx,he⟩:=List.mem_map.1 hm
   have:=h.1 x hx
   rw [he,rlt_sto.irrefl] at this;cases this
theorem lin_pos_mem {l:Bag} {r:Row} (h:cnt l r≠0):∃ x∈canon l,x.1=r:=by rw [←canon_cnt] at h;exact Rise.mem_of_cnt h
theorem ones_cnt_pos {l:Bag} (f:Row × Int→Row) {r:Row} (h:∃ e∈l,f e=r):1≤cnt (l.map fun e=>(f e,(1:Int))) r:=by
 induction l with
 | nil=>obtain ⟨_,h,_⟩:=h;cases h
 | cons y l ih =>
   have h0:=ones_nn (l:=l) f r;simp only [List.map_cons,cnt];obtain ⟨e,he,hr⟩:=h
   rcases List.mem_cons.1 he with rfl | he
   ·rw [if_pos hr];omega
   ·have:=ih ⟨e,he,hr⟩;split <;> omega
theorem mem_keys {cs:List Nat} {l:Bag} {k:Row × Int} (hk:k∈keysB cs l):∃ e∈canon l,pickR cs e.1=k.1:=by
 have h1:=(canon_rise _).cnt_mem hk;have h2:=(canon_rise _).nz hk;rw [canon_cnt] at h1
 obtain ⟨x,hx,he⟩:=Rise.mem_of_cnt (l:=(canon l).map fun e=>(pickR cs e.1,(1:Int))) (r:=k.1) (by rw [h1];exact h2)
 obtain ⟨e,he',rfl⟩:=List.mem_map.1 hx;exact ⟨e,he',he⟩
theorem keys_mem {cs:List Nat} {l:Bag} {e:Row × Int} (he:e∈canon l):∃ k∈keysB cs l,k.1=pickR cs e.1:=by
 refine lin_pos_mem ?_
 have:=ones_cnt_pos (l:=canon l) (fun e=>pickR cs e.1) ⟨e,he,rfl⟩
 omega
theorem sum_zero {α:Type}:∀ {ks:List α} {f:α→Int},(∀ k∈ks,f k=0)→(ks.map f).sum=0
 | [],_,_=>rfl
 | k::ks,f,h=>by
   have h1:=h k (by simp)
   have h2:=sum_zero (ks:=ks) (f:=f) (fun x hx=>h x (by simp [hx]))
   simp only [List.map_cons,List.sum_cons];omega
theorem part_le {cs:List Nat} {l:Bag} (h:nn l) {g:Row→Int} (hg:∀ r,0≤g r):∀ {ks:List Row},ks.Nodup→(ks.map fun k=>lin l (fun r=>if pickR cs r=k then g r else 0)).sum≤lin l g:=by
 intro ks hks
 have h1:(ks.map fun k=>lin l (fun r=>if pickR cs r=k then g r else 0)).sum=lin l (fun r=>(ks.map fun k=>if pickR cs r=k then g r else 0).sum):=by
  clear hks
  induction ks with
  | nil=>simp [lin_zero]
  | cons k ks ih=>simp only [List.map_cons,List.sum_cons];rw [lin_add,ih]
 rw [h1]
 refine lin_mono h fun r=> ?_
 clear h1
 induction ks with
 | nil=>simpa using hg r
 | cons k ks ih =>
   rw [List.nodup_cons] at hks;simp only [List.map_cons,List.sum_cons]
   by_cases hr:pickR cs r=k
   ·have hz:(ks.map fun k=>if pickR cs r=k then g r else 0).sum=0:=by
     have:∀ x∈ks,(if pickR cs r=x then g r else 0)=0:=fun x hx=>by
      rw [if_neg];intro e;rw [hr] at e;subst e;exact hks.1 hx
     exact sum_zero this
    rw [if_pos hr,hz];omega
   ·rw [if_neg hr];have:=ih hks.2;omega
theorem lin_ones_map (ks:Bag) (f:Row × Int→Row) (g:Row→Int):lin (ks.map fun k=>(f k,1)) g=(ks.map fun k=>g (f k)).sum:=by
 induction ks with
 | nil=>rfl
 | cons k ks ih=>simp only [List.map_cons,lin,List.sum_cons,ih];omega
theorem sum_le {α:Type}:∀ {ks:List α} {f g:α→Int},(∀ k∈ks,f k≤g k)→(ks.map f).sum≤(ks.map g).sum
 | [],_,_,_=>Int.le_refl _
 | k::ks,f,g,h=>by
   have h1:=h k (by simp)
   have h2:=sum_le (ks:=ks) (f:=f) (g:=g) (fun x hx=>h x (by simp [hx]))
   simp only [List.map_cons,List.sum_cons];omega
theorem grp_bound {cs:List Nat} {s:Option Nat} {l:Bag} (h:nn l) {G g:Row→Int} (hg:∀ r,0≤g r) (hG:∀ k∈keysB cs l,G (k.1++[.num (grpN cs s l k.1)])≤lin l (fun r=>if pickR cs r=k.1 then g r else 0)):lin (grpB cs s l) G≤lin l g:=by
 unfold grpB;rw [lin_ones_map];refine Int.le_trans (sum_le hG) ?_
 have:=part_le (cs:=cs) h hg (canon_rise ((canon l).map fun e=>(pickR cs e.1,(1:Int)))).nodup
 rw [List.map_map] at this;exact this
theorem grp_one {cs:List Nat} {l:Bag} (h:nn l) {g:Row→Int} (hg:∀ r,0≤g r) {k:Row × Int} (hk:k∈keysB cs l):∃ r,pickR cs r=k.1∧g r≤lin l (fun r=>if pickR cs r=k.1 then g r else 0):=by
 obtain ⟨e,he,hp⟩:=mem_keys hk;refine ⟨e.1,hp,?_⟩
 have:=lin_term h (g:=fun r=>if pickR cs r=k.1 then g r else 0) (fun r=>by split;exact hg r;exact Int.le_refl _) he
 simp only [if_pos hp] at this;exact this
theorem grpB_Nr {cs:List Nat} {s:Option Nat} {l:Bag} (h:nn l):Nr (grpB cs s l)≤Nr l :=
 grp_bound h (fun _=>by omega) fun k hk=>by obtain ⟨r,_,h1⟩:=grp_one (g:=fun _=>1) h (fun _=>by omega) hk;exact h1
theorem grpN_le {cs:List Nat} {s:Option Nat} {l:Bag} (h:nn l) (k:Row): -lin l (fun r=>if pickR cs r=k then wt r else 0)≤grpN cs s l k∧grpN cs s l k≤lin l (fun r=>if pickR cs r=k then wt r else 0):=by
 constructor
 ·have h1:=lin_mono h (g:=fun r=>(-1)*(if pickR cs r=k then wt r else 0)) (k:=fun r=>if pickR cs r=k then sv s r else 0) fun r=>by have:=sv_wt s r;split <;> omega
  rw [lin_mul] at h1;unfold grpN;omega
 ·exact lin_mono h fun r=>by have:=sv_wt s r;split <;> omega
theorem grpB_Wt {cs:List Nat} {s:Option Nat} {l:Bag} (h:nn l):Wt (grpB cs s l)≤Wt l :=
 grp_bound h wt_nn fun k hk=>by
  obtain ⟨r,hr,h1⟩:=grp_one (g:=wt) h wt_nn hk;have h2:=grpN_le (cs:=cs) (s:=s) h k.1;have h3:=wt_pos r
  refine wt_le (by omega) fun v hv=> ?_
  rcases List.mem_append.1 hv with hv | hv
  ·rw [←hr] at hv
   exact Int.le_trans (Int.le_trans (wv_le hv) (pickR_wt cs r)) (hr ▸ h1)
  ·simp at hv;subst hv
   simp only [wv];omega
end Go.Proofs.YtdinjjmcmfjbfaaGreatDoor.Mo
