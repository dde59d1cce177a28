import Derived.Test.YtdinjjmcmfjbfaaGreatDoorOcJ
import Derived.Laws.Rows
import Derived.Deep.MidRow
import Derived.Shelf.Abstract
import Derived.Test.YtdinjjmcmfjbfaaGreatDoorQbJ
import Derived.Shelf.SlMaps.Clone
set_option maxRecDepth 100000
set_option maxHeartbeats 4000000
namespace Go.Proofs.YtdinjjmcmfjbfaaGreatDoor
open Go.RowKit
open Mo (V Row Bag cnt canon colR vlt rlt lexlt blt Opd Cmp cmpV opdR)
theorem vcmp_lt (a b:V):(vcmp a b<0)↔vlt a b=true:=by unfold vcmp;split <;> (try split) <;> simp_all
theorem vcmp_eq (a b:V):(vcmp a b=0)↔a=b:=by
 unfold vcmp
 constructor
 ·intro h
  split at h
  ·omega
  ·split at h
   ·omega
   ·exact Mo.vlt_sto.tri _ _ (by simpa using ‹¬vlt a b=true›) (by simpa using ‹¬vlt b a=true›)
 ·rintro rfl;rw [Mo.vlt_sto.irrefl];rfl
theorem holds_any (n:Nat) (a b:V) (ha:VOk a) (hb:VOk b) (hab:Mo.ty a=Mo.ty b) (w:World) :
 Calls Tryz.prog 252 #[.int .i64 (n:Int),aggV a,aggV b] w fun e w'=>e=.returned (.bool (cmpV (cmpO n) a b))∧Kept No w w':=by
 have HC:Hid (∀ w,Calls Tryz.prog 120 #[.agg #[.int .i32 (kI a),.int .u8 (tB a 0),.int .u8 (tB a 1),.int .u8 (tB a 2),.int .u8 (tB a 3),.int .i64 (nI a)],.agg #[.int .i32 (kI b),.int .u8 (tB b 0),.int .u8 (tB b 1),.int .u8 (tB b 2),.int .u8 (tB b 3),.int .i64 (nI b)]] w fun e w'=>e=.returned (.int .i64 (vcmp a b))∧Gr w w'):=fun w=>cmpV_any a b ha hb hab w
 clear ha hb hab
 change Calls Tryz.prog 252 #[.int .i64 (n:Int),.agg #[.int .i32 (kI a),.int .u8 (tB a 0),.int .u8 (tB a 1),.int .u8 (tB a 2),.int .u8 (tB a 3),.int .i64 (nI a)],.agg #[.int .i32 (kI b),.int .u8 (tB b 0),.int .u8 (tB b 1),.int .u8 (tB b 2),.int .u8 (tB b 3),.int .i64 (nI b)]] w _
 match n with
 | 0 =>
   have HE:Hid (cmpV (cmpO 0) a b=decide (vcmp a b<0)):=by show vlt a b=_;rw [Bool.eq_iff_iff];simp [vcmp_lt]
   rw [HE.out];clear HE
   go_enter Tryz.func252,Tryz.ntmps252
   go_wp2_with fail;refine (HC.out _).mono ?_;rintro e w1 ⟨rfl,hg⟩;have HG:Hid (Kept No w w1):=(((Kept.refl No w).alloc _).alloc _).seq hg.kept;clear hg;go_wp2_with fail;go_ret;exact ⟨rfl,HG.out⟩
 | 1 =>
   have HE:Hid (cmpV (cmpO 1) a b=(vcmp a b == 0)):=by show decide (a=b)=_;rw [Bool.eq_iff_iff];simp [vcmp_eq]
   rw [HE.out];clear HE
   go_enter Tryz.func252,Tryz.ntmps252
   go_wp2_with fail;refine (HC.out _).mono ?_;rintro e w1 ⟨rfl,hg⟩;have HG:Hid (Kept No w w1):=(((Kept.refl No w).alloc _).alloc _).seq hg.kept;clear hg;go_wp2_with fail;go_ret;exact ⟨rfl,HG.out⟩
 | n+2 =>
   have HE:Hid (cmpV (cmpO (n+2)) a b=(vcmp a b != 0)):=by show (!decide (a=b))=_;rw [Bool.eq_iff_iff];simp [vcmp_eq]
   rw [HE.out];clear HE
   have hn0:(((n+2:Nat):Int) == 0)=false:=by simp;omega
   have hn1:(((n+2:Nat):Int) == 1)=false:=by simp;omega
   generalize ((n+2:Nat):Int)=z at hn0 hn1 ⊢
   go_enter Tryz.func252,Tryz.ntmps252
   go_wp2_with fail;refine (HC.out _).mono ?_;rintro e w1 ⟨rfl,hg⟩;have HG:Hid (Kept No w w1):=(((Kept.refl No w).alloc _).alloc _).seq hg.kept;clear hg;go_wp2_with fail;go_ret;exact ⟨rfl,HG.out⟩
theorem encV_one (v:V):((encV v).toArray).all (·.oneCell')=true:=by
 rw [Array.all_eq_true_iff_forall_mem];intro x hx
 have hx':x∈encV v:=by simpa using hx
 simp only [encV,List.mem_cons,List.not_mem_nil,or_false] at hx'
 rcases hx' with h | h | h | h | h | h <;> subst h <;> rfl
section
variable {ops:Array Oper} {rest:List Oper} {o:Oper} {a:Act} {w:World} {Q:Exit→Act→World→Prop}
theorem store_val (x y:Operand) (ho:o.op=.store 133 x y) (hgd:o.guard=none) (g:Nat) (hx:a.eval x=.pointer (some ⟨g,0,none⟩)) (v:V) (hy:a.eval y=aggV v) (old:Array Value) (hs:old.size=6) (hg:w.heap[g]? =some (.cells old 133 (0,0)))
 (h:wpList Tryz.prog ops Q rest (a.put o.dst undef) (w.setRow g (encV v).toArray)):wpList Tryz.prog ops Q (o::rest) a w :=
 wpList_store_row hgd 133 x y ho g (encV v).toArray hx hy 133 old hg (by exact infoVal) (by rw [hs];rfl) (encV_one v) h
end
theorem in_any (x:Opd) (r:Row) (hc:∀ c,x=.col c→c<6) (w:World) :
 Calls Tryz.prog 253 #[.agg (opA x).toArray,.agg (rowA r)] w fun e w'=>e=.returned (aggV (opdR x r))∧Kept No w w':=by
 cases x with
 | col c =>
   have hc6:=hc c rfl
   have hc0:(0:Int)≤(c:Int):=by omega
   have hc1:(c:Int)<6:=by omega
   clear hc
   change Calls Tryz.prog 253 #[.agg #[.bool true,.int .i64 (c:Int),.int .i32 0,.int .u8 0,.int .u8 0,.int .u8 0,.int .u8 0,.int .i64 0],.agg (rowA r)] w fun e w'=>e=.returned (aggV (colR r c))∧Kept No w w'
   obtain ⟨ob,hob⟩:∃ ob:Obj,ob=.cells #[.bool true,.int .i64 (c:Int),.int .i32 0,.int .u8 0,.int .u8 0,.int .u8 0,.int .u8 0,.int .i64 0] 135:=⟨_,rfl⟩;obtain ⟨oz,hoz⟩:∃ oz:Obj,oz=.cells #[.int .i32 0,.int .u8 0,.int .u8 0,.int .u8 0,.int .u8 0,.int .i64 0] 133:=⟨_,rfl⟩
   have HR:Hid ((((w.alloc (.cells #[.bool true,.int .i64 (c:Int),.int .i32 0,.int .u8 0,.int .u8 0,.int .u8 0,.int .u8 0,.int .i64 0] 135)).alloc (.cells (rowA r) 154)).alloc (.cells #[.int .i32 0,.int .u8 0,.int .u8 0,.int .u8 0,.int .u8 0,.int .i64 0] 133)).heap[w.heap.size+1]? =some (.cells (rowA r) 154 (0,0))):=(Below.heap_alloc _ _ _ (by simp)).trans (heap_alloc2_new _ _ _)
   have HZ:Hid ((((w.alloc (.cells #[.bool true,.int .i64 (c:Int),.int .i32 0,.int .u8 0,.int .u8 0,.int .u8 0,.int .u8 0,.int .i64 0] 135)).alloc (.cells (rowA r) 154)).alloc (.cells #[.int .i32 0,.int .u8 0,.int .u8 0,.int .u8 0,.int .u8 0,.int .i64 0] 133)).heap[w.heap.size+2]? =some (.cells #[.int .i32 0,.int .u8 0,.int .u8 0,.int .u8 0,.int .u8 0,.int .i64 0] 133 (0,0))):=by
    have:=heap_alloc_last ((w.alloc (.cells #[.bool true,.int .i64 (c:Int),.int .i32 0,.int .u8 0,.int .u8 0,.int .u8 0,.int .u8 0,.int .i64 0] 135)).alloc (.cells (rowA r) 154)) (.cells #[.int .i32 0,.int .u8 0,.int .u8 0,.int .u8 0,.int .u8 0,.int .i64 0] 133)
    have e:((w.alloc (.cells #[.bool true,.int .i64 (c:Int),.int .i32 0,.int .u8 0,.int .u8 0,.int .u8 0,.int .u8 0,.int .i64 0] 135)).alloc (.cells (rowA r) 154)).heap.size=w.heap.size+2:=by simp
    rw [e] at this;exact this
   clear hob hoz oz ob
   go_enter Tryz.func253,Tryz.ntmps253
   go_wp2_with (first
    | (refine load_val _ rfl rfl (w.heap.size+1) (1+c*6) rfl (colR r c) (cells_val HR.out hc6) ?_)
    | (refine store_val _ _ rfl rfl (w.heap.size+2) rfl (colR r c) rfl _ rfl HZ.out ?_)
    | fail)
   (try simp only [Exit.inBlock,Exit.then])
   refine bodyPost_ret (results_cell_row rfl _ _ (w.heap.size+2) 133 (encV (colR r c)).toArray (0,0) _ rfl (setRow_heap' HZ.out) Tryz.underlying133 rfl (by exact infoVal)) rfl ?_
   exact ⟨rfl,kept_setRow ((((Kept.refl No w).alloc _).alloc _).alloc _) (.inl (by omega)) _⟩
 | val v =>
   clear hc
   change Calls Tryz.prog 253 #[.agg #[.bool false,.int .i64 0,.int .i32 (kI v),.int .u8 (tB v 0),.int .u8 (tB v 1),.int .u8 (tB v 2),.int .u8 (tB v 3),.int .i64 (nI v)],.agg (rowA r)] w fun e w'=>e=.returned (aggV v)∧Kept No w w'
   have HV:Hid (∀ j x,(encV v)[j]? =some x→(((w.alloc (.cells #[.bool false,.int .i64 0,.int .i32 (kI v),.int .u8 (tB v 0),.int .u8 (tB v 1),.int .u8 (tB v 2),.int .u8 (tB v 3),.int .i64 (nI v)] 135)).alloc (.cells (rowA r) 154)).alloc (.cells #[.int .i32 0,.int .u8 0,.int .u8 0,.int .u8 0,.int .u8 0,.int .i64 0] 133)).cell? ⟨w.heap.size,2+j,none⟩=some x):=by
    intro j x hx
    have h0:=(Below.heap_alloc ((w.alloc (.cells #[.bool false,.int .i64 0,.int .i32 (kI v),.int .u8 (tB v 0),.int .u8 (tB v 1),.int .u8 (tB v 2),.int .u8 (tB v 3),.int .i64 (nI v)] 135)).alloc (.cells (rowA r) 154)) (.cells #[.int .i32 0,.int .u8 0,.int .u8 0,.int .u8 0,.int .u8 0,.int .i64 0] 133) w.heap.size (by simp;omega)).trans (heap_alloc2_old _ _ _)
    rw [cell_of h0];have hj:=(List.getElem?_eq_some_iff.1 hx).1;rw [encV_len] at hj
    match j,hj with
    | 0,_ | 1,_ | 2,_ | 3,_ | 4,_ | 5,_=>simpa [encV] using hx
   have HZ:Hid ((((w.alloc (.cells #[.bool false,.int .i64 0,.int .i32 (kI v),.int .u8 (tB v 0),.int .u8 (tB v 1),.int .u8 (tB v 2),.int .u8 (tB v 3),.int .i64 (nI v)] 135)).alloc (.cells (rowA r) 154)).alloc (.cells #[.int .i32 0,.int .u8 0,.int .u8 0,.int .u8 0,.int .u8 0,.int .i64 0] 133)).heap[w.heap.size+2]? =some (.cells #[.int .i32 0,.int .u8 0,.int .u8 0,.int .u8 0,.int .u8 0,.int .i64 0] 133 (0,0))):=by
    have:=heap_alloc_last ((w.alloc (.cells #[.bool false,.int .i64 0,.int .i32 (kI v),.int .u8 (tB v 0),.int .u8 (tB v 1),.int .u8 (tB v 2),.int .u8 (tB v 3),.int .i64 (nI v)] 135)).alloc (.cells (rowA r) 154)) (.cells #[.int .i32 0,.int .u8 0,.int .u8 0,.int .u8 0,.int .u8 0,.int .i64 0] 133)
    have e:((w.alloc (.cells #[.bool false,.int .i64 0,.int .i32 (kI v),.int .u8 (tB v 0),.int .u8 (tB v 1),.int .u8 (tB v 2),.int .u8 (tB v 3),.int .i64 (nI v)] 135)).alloc (.cells (rowA r) 154)).heap.size=w.heap.size+2:=by simp
    rw [e] at this;exact this
   go_enter Tryz.func253,Tryz.ntmps253
   go_wp2_with (first
    | (refine load_val _ rfl rfl w.heap.size 2 rfl v HV.out ?_)
    | (refine store_val _ _ rfl rfl (w.heap.size+2) rfl v rfl _ rfl HZ.out ?_)
    | fail)
   (try simp only [Exit.inBlock,Exit.then])
   refine bodyPost_ret (results_cell_row rfl _ _ (w.heap.size+2) 133 (encV v).toArray (0,0) _ rfl (setRow_heap' HZ.out) Tryz.underlying133 rfl (by exact infoVal)) rfl ?_
   exact ⟨rfl,kept_setRow ((((Kept.refl No w).alloc _).alloc _).alloc _) (.inl (by omega)) _⟩
open Mo (V Row Bag cnt canon Eqv OkB OkD Opd)
def TkAt (w:World) (O:Ow) (b g:Nat) (T:Value):Prop:=O g=b+2∧∃ cs z,w.heap[g]? =some (.cells cs 143 z)∧cs[0]? =some T
theorem TkAt.cell {w:World} {O:Ow} {b g:Nat} {T:Value} (h:TkAt w O b g T):w.cell? ⟨g,0,none⟩=some T:=by
 obtain ⟨_,cs,z,h1,h2⟩:=h;rw [cell_of h1];exact h2
theorem TkAt.lt {w:World} {O:Ow} {b g:Nat} {T:Value} (h:TkAt w O b g T):g<w.heap.size:=by obtain ⟨_,cs,z,h1,_⟩:=h;exact lt_of_heap h1
theorem TkAt.stab {w w':World} {O O':Ow} {b g:Nat} {T:Value} (h:TkAt w O b g T) (hk:w'.heap[g]? =w.heap[g]?∧O' g=O g):TkAt w' O' b g T:=by
 obtain ⟨h0,cs,z,h1,h2⟩:=h;exact ⟨hk.2.trans h0,cs,z,hk.1.trans h1,h2⟩
abbrev tkS (g cap:Nat):Value:=.slice (some ⟨g,0,none⟩) 1 cap
def oN (w:World) (O:Ow):Ow:=fun k=>if k<w.heap.size then O k else 0
theorem oN_old {w:World} {O:Ow} {k:Nat} (h:k<w.heap.size):oN w O k=O k:=if_pos h
theorem oN_new {w:World} {O:Ow} {k:Nat} (h:w.heap.size≤k):oN w O k=0:=if_neg (by omega)
theorem AllOf.eqv {ts:List Bool} {d es:Bag} (h:AllOf (canon d) es) (hd:OkD ts d):Eqv es d:=fun r=>by
 rw [h.cnt hd.rok r,hd.w64]
theorem TakeEnd.up {A:Nat→Prop} {R R':World→Ow→Bag→Prop} {B B':Bag} {b:Nat} {w w3 w4:World} {O:Ow} {e:Ending} (hk:Kept (fun k=>O k=b+2) w w3) (h:TakeEnd A R B w3 (oN w O) e w4) (hR:∀ O':Ow,(∀ k,k<w3.heap.size→O' k=oN w O k)→Kept (fun k=>A (oN w O k)) w3 w4→R w4 O' B→R' w4 O' B') :
 TakeEnd (fun a=>A a∨a=b+2) R' B' w O e w4:=by
 obtain ⟨he,O',h1,h2,h3⟩:=h
 refine ⟨he,O',fun k hk'=>(h1 k (Nat.lt_of_lt_of_le hk' hk.size)).trans (oN_old hk'),?_,hR O' h1 h2 h3⟩
 exact hk.trans h2 (fun i e=>.inr e) (fun i hi e=>.inl (by rw [oN_old hi] at e;exact e))
theorem TakeEnd.up3 {A:Nat→Prop} {R R':World→Ow→Bag→Prop} {B B':Bag} {b:Nat} {w w3 w4:World} {O O3:Ow} {e:Ending} (hO:∀ k,k<w.heap.size→O3 k=O k) (hk:Kept (fun k=>O k=b+2) w w3) (h:TakeEnd A R B w3 O3 e w4) (hR:∀ O':Ow,(∀ k,k<w3.heap.size→O' k=O3 k)→Kept (fun k=>A (O3 k)) w3 w4→R w4 O' B→R' w4 O' B') :
 TakeEnd (fun a=>A a∨a=b+2) R' B' w O e w4:=by
 obtain ⟨he,O',h1,h2,h3⟩:=h
 refine ⟨he,O',fun k hk'=>(h1 k (Nat.lt_of_lt_of_le hk' hk.size)).trans (hO k hk'),?_,hR O' h1 h2 h3⟩
 exact hk.trans h2 (fun i e=>.inr e) (fun i hi e=>.inl (by rw [hO i hi] at e;exact e))
theorem wp_lookup_bag {o:Oper} {a:Act} {w:World} {K:Act→World→Prop} {Q:Exit→Act→World→Prop} (mo x:Operand) (hop:o.op=Op.lookup 83 mo x false) (v:Value) (l:Bag) (hm:a.eval mo=v) (h:BagV w v l) (q:Row) (hq:ROk q) (hx:a.eval x=.agg (rowA q))
 (hK:K (a.put o.dst (.int .i64 (wrap64 (cnt l q)))) w):o.wp Tryz.prog a w K Q:=by
 obtain ⟨kl,hkl⟩:=rowKE.key hq
 rcases h with ⟨rfl,rfl⟩ | ⟨b,rfl,hb⟩
 ·have hrun:=Maps.look_nil (w:=w) false (Maps.Keyed.of_law rowKE.law) Tryz.underlying83 (zero64 w) hkl
  have hx':a.eval x=aggR q:=hx;have hz:wrap64 (cnt [] q)=0:=wrap64_zero;rw [hz] at hK;unfold Oper.wp
  simp [execOp,hop,hm,hx',hrun,Result.andThen]
  exact hK
 ·obtain ⟨_,D,ho,hd⟩:=hb
  have hx':a.eval x=aggR q:=hx;obtain ⟨u,ps,hrun,hu⟩:=ho.lookup (Maps.Keyed.of_law rowKE.law) Tryz.underlying83 (zero64 w) (zd:=.held (.int .i64 0)) (zp:=[]) rfl hkl
  have:u=.int .i64 (wrap64 (cnt l q)):=by rw [hd.at hq hkl,bagM_get] at hu;simpa [tok] using (congrArg (fun y=>y.map Prod.fst) hu)
  subst this;unfold Oper.wp
  simp [execOp,hop,hm,hx',hrun,Result.andThen]
  exact hK
open Mo (V Row Bag cnt canon Eqv)
theorem mclone_any (b:Nat) (es:Array MapEntry) (clock:Nat) (w:World) (hb:w.heap[b]? =some (.map es clock)) :
 Calls Tryz.prog 115 #[.map (some b)] w fun e w'=>e=.returned (.map (some w.heap.size))∧w'=w.alloc (.map es clock):=by
 have hq:=fun w=>run_eql_map_nil_sl (P:=Tryz.prog) w 83 _ _ (some b) Tryz.underlying83
 go_enter Tryz.func115,Tryz.ntmps115
 go_wp2
 rw [run_callFunc_extern Tryz.func151 (by kernel_rfl) (by kernel_rfl) (by kernel_rfl) (e:=Extern.MapsClone.clone) (by kernel_rfl),run_maps_clone_sl w 83 hb]
 simp only [Result.andThen];rw [Oper.upon_value]
 go_wp2
 rw [run_typeAssert_map_sl _ 83 _ _ _ _ Tryz.underlying83];simp only [Result.andThen];rw [Oper.upon_value]
 go_wp2
 go_ret;exact ⟨rfl,rfl⟩
theorem clone_nil (w:World):Calls Tryz.prog 115 #[.map none] w fun e w'=>e=.returned (.map none)∧w'=w:=by
 have hq:=fun w=>run_eql_map_nil_sl (P:=Tryz.prog) w 83 _ _ none Tryz.underlying83
 go_enter Tryz.func115,Tryz.ntmps115
 go_wp2
 go_ret;exact ⟨rfl,rfl⟩
theorem clone_bag (v:Value) (l:Bag) (w:World) (h:BagV w v l) :
 Calls Tryz.prog 115 #[v] w fun e w'=>∃ v',e=.returned v'∧BagV w' v' l∧((v'=.map none∧v=.map none)∨v'=.map (some w.heap.size))∧w.heap.size≤w'.heap.size∧Kept No w w':=by
 rcases h with ⟨rfl,rfl⟩ | ⟨b,rfl,h⟩
 ·refine (clone_nil w).mono ?_
  rintro e w' ⟨rfl,rfl⟩;exact ⟨_,rfl,.inl ⟨rfl,rfl⟩,.inl ⟨rfl,rfl⟩,Nat.le_refl _,Kept.refl _ _⟩
 ·obtain ⟨hok,D,⟨es,ck,hb,hF⟩,hD⟩:=h
  refine (mclone_any b es ck w hb).mono ?_;rintro e w' ⟨rfl,rfl⟩
  refine ⟨_,rfl,.inr ⟨_,rfl,hok,D,⟨es,ck,heap_alloc_last _ _,hF⟩,hD⟩,.inr rfl,by simp,(Kept.refl _ _).alloc _⟩
theorem addAll_nil (b1:Nat) (w:World) :
 Calls Tryz.prog 116 #[.map (some b1),.map none] w fun e w'=>e=.returned (.tuple #[])∧Kept No w w':=by
 have hrg:=run_range_nilMap (P:=Tryz.prog) w 83 154 2 Tryz.underlying83
 have hnx:∀ ty,(Instr.next (.pointer (some ⟨w.heap.size,0,none⟩)) false ty).run Tryz.prog (w.alloc (.mapIter none 0 #[] 0))=_:=fun ty=>run_next_nilMap w ty 0 0 #[]
 go_enter Tryz.func116,Tryz.ntmps116
 go_wp2_with fail;refine wp_loop_rounds 1 ?_;rw [rounds_succ];go_wp2_with fail;go_end0;exact ⟨rfl,(Kept.refl _ _).alloc _⟩
theorem BagV.is {w:World} {v:Value} {l:Bag} (h:BagV w v l):∃ m,v=.map m:=by
 rcases h with ⟨rfl,_⟩ | ⟨b,rfl,_⟩ <;> exact ⟨_,rfl⟩
theorem BagV.eqv {w:World} {v:Value} {l l':Bag} (h:BagV w v l) (e:Eqv l l') (hl:l=[]→l'=[]) (hok:∀ x∈l',ROk x.1):BagV w v l':=by
 rcases h with ⟨rfl,h⟩ | ⟨b,rfl,h⟩
 ·exact .inl ⟨rfl,hl h⟩
 ·exact .inr ⟨b,rfl,h.eqv e hok⟩
def RemEnd (b o:Nat) (cs:Array Value) (ty:TypeId) (held:Value) (l:Bag) (w:World) (e:Ending) (w':World):Prop :=
 e=.returned (.tuple #[])∧∃ held',w'.heap[b]? =some (.cells (cs.setIfInBounds o held') ty (0,0))∧BagV w' held' l∧(held'=held∨∀ k,held'=.map (some k)→w.heap.size≤k)∧Kept (fun k=>k=b∨held=.map (some k)) w w'
theorem set_same {cs:Array Value} {o:Nat} {v:Value} (h:cs[o]? =some v):cs.setIfInBounds o v=cs:=by
 refine Array.ext_getElem? fun i=> ?_
 rw [Array.getElem?_setIfInBounds]
 by_cases hi:o=i
 ·subst hi;rw [if_pos rfl,if_pos (Array.getElem?_eq_some_iff.1 h).1,h]
 ·rw [if_neg hi]
theorem remember_any (b o:Nat) (cs:Array Value) (ty:TypeId) (held cv:Value) (B d:Bag) (w:World) (hb:w.heap[b]? =some (.cells cs ty (0,0))) (ho:cs[o]? =some held) (hh:BagV w held B) (hc:BagV w cv d)
 (hne:∀ k,held=.map (some k)→cv≠.map (some k)) (hl:(canon B).length+(canon d).length<maxLen) :
 Calls Tryz.prog 66 #[.pointer (some ⟨b,o,none⟩),cv] w (RemEnd b o cs ty held (d++B) w):=by
 have c0:w.cell? ⟨b,o,none⟩=some held:=by rw [cell_of hb];exact ho
 rcases hh with ⟨rfl,rfl⟩ | ⟨k,rfl,hh⟩
 ·have hq:=fun w=>run_eql_map_nil_sl (P:=Tryz.prog) w 83 _ _ none Tryz.underlying83
  have HC:=hid hc;have HB:=hid hb;obtain ⟨m,rfl⟩:=hc.is;clear hc hb hne
  go_enter Tryz.func66,Tryz.ntmps66
  go_wp2_with fail;refine (clone_bag _ d _ HC.out).mono ?_;rintro e w1 ⟨v',rfl,h1,h2,hsz,hk1⟩
  have hb1:w1.heap[b]? =some (.cells cs ty (0,0)):=(hk1.block b (lt_of_heap HB.out) (fun e=>e)).trans HB.out
  have f1:w1.frozen? ⟨b,o,none⟩=false:=frozen_of hb1 _
  have c1:w1.cell? ⟨b,o,none⟩=some (.map none):=by rw [cell_of hb1];exact ho
  obtain ⟨m',rfl⟩:=h1.is
  have HF:Hid (RemEnd b o cs ty (.map none) (d++[]) w (.returned (.tuple #[])) (w1.setCell ⟨b,o,none⟩ (.map m'))):=by
   refine ⟨rfl,.map m',heap_set hb1 _ _,?_,?_,?_⟩
   ·rw [List.append_nil]
    refine h1.of_block fun q hq=> ?_
    have hqb:q≠b:=by
     rintro rfl
     rcases h1 with ⟨e,_⟩ | ⟨b',e,hb'⟩
     ·rw [e] at hq;cases hq
     ·rw [e] at hq
      have:b'=q:=by simpa using hq
      subst this;obtain ⟨es,ck,hm⟩:=hb'.obj
      rw [hm] at hb1;cases hb1
    exact Below.heap_setCell _ _ _ _ hqb
   ·rcases h2 with ⟨e,_⟩ | e
    ·exact .inl e
    ·exact .inr fun q hq=>by rw [e] at hq;have:w.heap.size=q:=by simpa using hq
                             omega
   ·exact hk1.any.setCell (.inr (.inl rfl)) _
  clear hb1 h1 h2 hsz hk1 c0;go_wp2_with fail;refine bodyPost_ret (results_none rfl _ _ _) rfl ?_;exact HF.out
 ·have hq:=fun w=>run_eql_map_nil_sl (P:=Tryz.prog) w 83 _ _ (some k) Tryz.underlying83
  have HB:=hid hb;have HH:=hid hh
  have hbk:b≠k:=by
   rintro rfl;obtain ⟨es,ck,hm⟩:=hh.obj
   rw [hm] at hb;cases hb
  rcases hc with ⟨rfl,rfl⟩ | ⟨c,rfl,hc⟩
  ·clear hb hh hne
   go_enter Tryz.func66,Tryz.ntmps66
   go_wp2_with fail;refine (addAll_nil k _).mono ?_;rintro e w1 ⟨rfl,hk1⟩;have HK:=hid hk1;clear hk1;go_wp2_with fail;go_end0
   refine ⟨rfl,.map (some k),?_,.inr ⟨k,rfl,HH.out.kept HK.out (fun e=>e)⟩,.inl rfl,HK.out.any⟩
   rw [set_same ho];exact (HK.out.block b (lt_of_heap HB.out) (fun e=>e)).trans HB.out
  ·have HC:=hid hc
   have hkc:k≠c:=fun e=>hne k rfl (by rw [e])
   clear hb hh hne hc
   go_enter Tryz.func66,Tryz.ntmps66
   go_wp2_with fail;refine (addAll_any k c B d _ HH.out HC.out hkc hl).mono ?_;rintro e w1 ⟨rfl,h1,hk1⟩;have HK:=hid hk1;have H1:=hid h1;clear hk1 h1;go_wp2_with fail;go_end0
   refine ⟨rfl,.map (some k),?_,.inr ⟨k,rfl,H1.out⟩,.inl rfl,HK.out.mono fun i _ e=>.inr (by rw [e])⟩
   rw [set_same ho];exact (HK.out.block b (lt_of_heap HB.out) hbk).trans HB.out
open Go.RowKit Go.Shelf
open Mo (V Row Bag cnt canon Eqv OkB OkD neg)
def oB (w:World) (O:Ow) (id:Nat):Ow:=fun k=>if k<w.heap.size then O k else id
theorem oB_old {w:World} {O:Ow} {id k:Nat} (h:k<w.heap.size):oB w O id k=O k:=if_pos h
theorem oB_new {w:World} {O:Ow} {id k:Nat} (h:w.heap.size≤k):oB w O id k=id:=if_neg (by omega)
def MemAt (w:World) (O:Ow) (b:Nat) (mv:Value) (B:Bag):Prop:=BagV w mv (canon B)∧∀ k,mv=.map (some k)→O k=b+2
theorem BagV.lt {w:World} {v:Value} {l:Bag} (h:BagV w v l) {k:Nat} (hk:v=.map (some k)):k<w.heap.size:=by
 rcases h with ⟨rfl,_⟩ | ⟨b,rfl,h⟩
 ·cases hk
 ·have:b=k:=by simpa using hk
  subst this;exact h.lt
theorem MemAt.stab {w w':World} {O O':Ow} {b:Nat} {mv:Value} {B:Bag} (h:MemAt w O b mv B) (hk:∀ k,k<w.heap.size→O k=b+2→w'.heap[k]? =w.heap[k]?∧O' k=O k):MemAt w' O' b mv B :=
 ⟨h.1.of_block fun k e=>(hk k (h.1.lt e) (h.2 k e)).1,fun k e=>((hk k (h.1.lt e) (h.2 k e)).2).trans (h.2 k e)⟩
theorem MemAt.eqv {w:World} {O:Ow} {b:Nat} {mv:Value} {B B':Bag} (h:MemAt w O b mv B) (e:Eqv B B'):MemAt w O b mv B':=by
 unfold MemAt at *;rw [←e.canon];exact h
theorem MemAt.nil (w:World) (O:Ow) (b:Nat):MemAt w O b (.map none) []:=⟨.inl ⟨rfl,rfl⟩,fun k e=>by cases e⟩
theorem MemAt.notCells {w:World} {O:Ow} {b:Nat} {mv:Value} {B:Bag} (h:MemAt w O b mv B) {k:Nat} (hk:mv=.map (some k)) {c:Array Value} {t:TypeId} {z:Nat × Nat} {j:Nat} (hj:w.heap[j]? =some (.cells c t z)):j≠k:=by
 rintro rfl
 rcases h.1 with ⟨e,_⟩ | ⟨b',e,h'⟩
 ·rw [e] at hk;cases hk
 ·rw [e] at hk
  have:b'=j:=by simpa using hk
  subst this;obtain ⟨es,ck,hm⟩:=h'.obj
  rw [hm] at hj;cases hj
theorem RemEnd.mem {b o:Nat} {cs:Array Value} {ty:TypeId} {held:Value} {B d:Bag} {w w':World} {O:Ow} {e:Ending} (h:RemEnd b o cs ty held (canon d++canon B) w e w') (hm:MemAt w O b held B) (hok:∀ x∈canon (B++d),ROk x.1) :
 e=.returned (.tuple #[])∧∃ held',w'.heap[b]? =some (.cells (cs.setIfInBounds o held') ty (0,0))∧MemAt w' (oB w O (b+2)) b held' (B++d)∧(held'=held∨∀ k,held'=.map (some k)→w.heap.size≤k)∧Kept (fun k=>k=b∨held=.map (some k)) w w':=by
 obtain ⟨h0,held',h1,h2,h3,h4⟩:=h
 refine ⟨h0,held',h1,⟨h2.eqv (fun r=> ?_) (fun e=> ?_) hok,fun k e=> ?_⟩,h3,h4⟩
 ·rw [Mo.cnt_append,Mo.canon_cnt,Mo.canon_cnt,Mo.canon_cnt,Mo.cnt_append];omega
 ·rw [Mo.canon_nil_iff]
  intro r;have e1:canon d=[]:=(List.append_eq_nil_iff.1 e).1;have e2:canon B=[]:=(List.append_eq_nil_iff.1 e).2;rw [Mo.cnt_append,Mo.canon_nil_iff.1 e1 r,Mo.canon_nil_iff.1 e2 r];rfl
 ·rcases h3 with rfl | h3
  ·rw [oB_old (hm.1.lt e)];exact hm.2 k e
  ·exact oB_new (h3 k e)
def ViewAt (w:World) (O:Ow) (v:Nat) (told B:Bag):Prop:=O v=v+2∧∃ hv uv,w.heap[v]? =some (.cells #[hv,uv] 87 (0,0))∧MemAt w O v hv told∧MemAt w O v uv (B++neg told)∧∀ k,uv=.map (some k)→hv≠.map (some k)
theorem ViewAt.stab {w w':World} {O O':Ow} {v:Nat} {told B:Bag} (h:ViewAt w O v told B) (hk:∀ k,k<w.heap.size→O k=v+2→w'.heap[k]? =w.heap[k]?∧O' k=O k):ViewAt w' O' v told B:=by
 obtain ⟨h0,hv,uv,h1,h2,h3,h4⟩:=h;have hb:=hk v (lt_of_heap h1) h0;exact ⟨hb.2.trans h0,hv,uv,hb.1.trans h1,h2.stab hk,h3.stab hk,h4⟩
theorem ViewAt.eqv {w:World} {O:Ow} {v:Nat} {told B B':Bag} (h:ViewAt w O v told B) (e:Eqv B B'):ViewAt w O v told B':=by
 obtain ⟨h0,hv,uv,h1,h2,h3,h4⟩:=h;exact ⟨h0,hv,uv,h1,h2,h3.eqv (e.append (Eqv.refl _)),h4⟩
theorem view_ty:TyTake 81 249:=⟨fun _ _=>by kernel_rfl,fun _ _=>by kernel_rfl,enters_of Tryz.func249 (by kernel_rfl) rfl⟩
theorem view_walk (v c:Nat) (hv uv:Value) (B d:Bag) (w:World) (hw:w.heap[v]? =some (.cells #[hv,uv] 87 (0,0))) (hu:BagV w uv B) (hc:BagAt w c d) (hne:uv≠.map (some c)) (hl:(canon B).length+(canon d).length<maxLen) :
 Calls Tryz.prog 249 #[.pointer (some ⟨v,0,none⟩),.map (some c)] w (RemEnd v 1 #[hv,uv] 87 uv (d++B) w):=by
 have HR:=hid (remember_any v 1 #[hv,uv] 87 uv (.map (some c)) B d w hw rfl hu (.inr ⟨c,rfl,hc⟩) (fun k e e'=>hne (e.trans e'.symm)) hl)
 clear hw hu hc hne hl
 go_enter Tryz.func249,Tryz.ntmps249
 go_wp2_with fail;refine HR.out.mono ?_;rintro e w1 ⟨rfl,h1⟩;have H1:=hid h1;clear h1;go_wp2_with fail;go_end0;exact ⟨rfl,H1.out⟩
theorem view_takes (v:Nat) (ts:List Bool) (told:Bag) (ht:OkB ts told):Takes 81 249 ⟨v,0,none⟩ (fun a=>a=v+2) ts (OkB ts) (fun w O B=>ViewAt w O v told B) where
 zero:=by omega
 one:=by omega
 ok:=fun h=>h
 gde:=fun h e=>h.eqv e
 stab:=fun h _ hk=>h.stab fun k hk' e=>hk k hk' (.inl e)
 eqv:=fun h e=>h.eqv e
 met:=view_ty
 run:=by
  rintro w O B d c ⟨h0,hv,uv,h1,h2,h3,h4⟩ hB hD hc hA;have hd:=hB.chg hD
  have hun:OkD ts (B++neg told):=by
   have hX:Eqv (told++(B++neg told)) B:=fun r=>by rw [Mo.cnt_append,Mo.cnt_append,Mo.cnt_neg];omega
   exact ht.chg (hB.eqv hX.symm)
  have hun':OkD ts ((B++neg told)++d):=by
   have hX:Eqv (told++((B++neg told)++d)) (B++d):=fun r=>by simp only [Mo.cnt_append,Mo.cnt_neg];omega
   exact ht.chg (hD.eqv hX.symm)
  have hne:uv≠.map (some c):=fun e=>hA (h3.2 c e)
  refine (view_walk v c hv uv (canon (B++neg told)) (canon d) w h1 h3.1 hc hne (by
   have e1:=hun.len;have e2:=hd.len;rw [Mo.canon_of_rise (Mo.canon_rise _),Mo.canon_of_rise (Mo.canon_rise _)]
   unfold maxLen;omega)).mono fun e w' hE=> ?_
  obtain ⟨he,held',g1,g2,g3,g4⟩:=hE.mem h3 hun'.rok
  refine ⟨he,oB w O (v+2),fun k hk=>oB_old hk,g4.mono fun i hi e=> ?_,?_⟩
  ·rcases e with rfl | e
   ·exact h0
   ·exact h3.2 i e
  ·refine ⟨by rw [oB_old (lt_of_heap h1)];exact h0,hv,held',g1,?_,?_,?_⟩
   ·refine ⟨h2.1.kept g4 fun k e=> ?_,fun k e=>by rw [oB_old (h2.1.lt e)];exact h2.2 k e⟩
    rintro (rfl | e')
    ·exact h2.notCells e h1 rfl
    ·exact h4 k e' e
   ·exact g2.eqv fun r=>by simp only [Mo.cnt_append];omega
   ·intro k e e'
    rcases g3 with rfl | g3
    ·exact h4 k e e'
    ·have:=g3 k e
     have:=h2.1.lt e'
     omega
def UniAt (w:World) (O:Ow) (b:Nat) (T:Value):Prop:=O b=b+2∧∃ g cap,w.heap[b]? =some (.cells #[tkS g cap] 289 (0,0))∧TkAt w O b g T
theorem UniAt.stab {w w':World} {O O':Ow} {b:Nat} {T:Value} (h:UniAt w O b T) (hk:∀ k,k<w.heap.size→O k=b+2→w'.heap[k]? =w.heap[k]?∧O' k=O k):UniAt w' O' b T:=by
 obtain ⟨h0,g,cap,h1,h2⟩:=h;have hb:=hk b (lt_of_heap h1) h0;exact ⟨hb.2.trans h0,g,cap,hb.1.trans h1,h2.stab (hk g h2.lt h2.1)⟩
theorem uni_ty:TyTake 287 265:=⟨fun _ _=>by kernel_rfl,fun _ _=>by kernel_rfl,enters_of Tryz.func265 (by kernel_rfl) rfl⟩
theorem uni_walk (b c:Nat) (w:World) (Q:Ending→World→Prop) (hQ:Calls Tryz.prog 250 #[.pointer (some ⟨b,0,none⟩),.map (some c)] w fun e w'=>e=.returned (.tuple #[])∧Q e w') :
 Calls Tryz.prog 265 #[.pointer (some ⟨b,0,none⟩),.map (some c)] w Q:=by
 have HQ:=hid hQ;clear hQ
 go_enter Tryz.func265,Tryz.ntmps265
 go_wp2_with fail;refine HQ.out.mono ?_;rintro e w1 ⟨rfl,h1⟩;have H1:=hid h1;clear h1;go_wp2_with fail;go_end0;exact H1.out
theorem uni_takes {ty:TypeId} {f:Nat} {p:Addr} {A:Nat→Prop} {ts:List Bool} {Gd:Bag→Prop} {R:World→Ow→Bag→Prop} (hT:Takes ty f p A ts Gd R) (b:Nat) (us:List Bool) (F:Bag→Bag) (hF:∀ B d,Eqv (F B++d) (F (B++d))) (hE:∀ {B B':Bag},Eqv B B'→Eqv (F B) (F B')) (hA:¬A (b+2)) :
 Takes 287 265 ⟨b,0,none⟩ (fun a=>A a∨a=b+2) us (fun B=>OkB us B∧Gd (F B)) (fun w O B=>R w O (F B)∧UniAt w O b (.iface ty (.pointer (some p)))) where
 zero:=fun h=>h.elim hT.zero (by omega)
 one:=fun h=>h.elim hT.one (by omega)
 ok:=fun h=>h.1
 gde:=fun h e=>⟨h.1.eqv e,hT.gde h.2 (hE e)⟩
 stab:=fun h hs hk=>⟨hT.stab h.1 hs fun k hk' ha=>hk k hk' (ha.imp .inl id),h.2.stab fun k hk' e=>hk k hk' (.inl (.inr e))⟩
 eqv:=fun h e=>⟨hT.eqv h.1 (hE e),h.2⟩
 met:=uni_ty
 run:=by
  rintro w O B d c ⟨hR,hS⟩ ⟨_,hB2⟩ ⟨_,hD2⟩ hc hAc;obtain ⟨hO0,g,cap,hb,hg⟩:=hS;refine uni_walk b c w _ ?_
  refine (hT.give (b:=b) (c:=c) (g:=g) (o:=0) (cap:=cap) ((cell_of hb 0).trans rfl) hg.cell hR hB2 (hT.gde hD2 (hF B d).symm) hc (fun h=>hAc (.inl h))).mono fun e w4 h4=>⟨h4.1,?_⟩
  obtain ⟨he,O',h1,h2,h3⟩:=h4
  refine ⟨he,O',h1,h2.mono fun i _ e=>.inl e,hT.eqv h3 (hF B d),?_⟩
  exact UniAt.stab ⟨hO0,g,cap,hb,hg⟩ fun k hk' e=>⟨h2.block k hk' (by rw [e];exact hA),h1 k hk'⟩
set_option linter.unusedSimpArgs false
open Mo (V Row Bag cnt canon Eqv OkB OkD pickR pickB)
def ColsAt (w:World) (O:Ow) (cv:Value) (cs:List Nat):Prop:=IntsAt w cv cs∧∀ k,cv.ownBlock=some k→O k=1
theorem IntsAt.lt {w:World} {v:Value} {cs:List Nat} (h:IntsAt w v cs) {k:Nat} (hk:v.ownBlock=some k):k<w.heap.size:=by
 rcases h with ⟨rfl,_⟩ | ⟨b,o,cap,rfl,hb,_⟩
 ·cases hk
 ·have:b=k:=by simpa [Value.ownBlock] using hk
  subst this;exact hb
theorem ColsAt.stab {w w':World} {O O':Ow} {cv:Value} {cs:List Nat} (h:ColsAt w O cv cs) (hs:w.heap.size≤w'.heap.size) (hk:∀ k,k<w.heap.size→O k=1→w'.heap[k]? =w.heap[k]?∧O' k=O k):ColsAt w' O' cv cs:=by
 refine ⟨?_,fun k e=>((hk k (h.1.lt e) (h.2 k e)).2).trans (h.2 k e)⟩
 rcases h.1 with h1 | ⟨b,o,cap,rfl,hb,h1⟩
 ·exact .inl h1
 ·exact .inr ⟨b,o,cap,rfl,Nat.lt_of_lt_of_le hb hs,fun i c hc=>(World.cell?_of_block (hk b hb (h.2 b rfl)).1).trans (h1 i c hc)⟩
def PickAt (w:World) (O:Ow) (b:Nat) (T:Value) (cs:List Nat):Prop:=O b=b+2∧∃ g cap cv,w.heap[b]? =some (.cells #[tkS g cap,cv] 280 (0,0))∧TkAt w O b g T∧ColsAt w O cv cs
theorem PickAt.stab {w w':World} {O O':Ow} {b:Nat} {T:Value} {cs:List Nat} (h:PickAt w O b T cs) (hs:w.heap.size≤w'.heap.size) (hk:∀ k,k<w.heap.size→O k=b+2∨O k=1→w'.heap[k]? =w.heap[k]?∧O' k=O k):PickAt w' O' b T cs:=by
 obtain ⟨h0,g,cap,cv,h1,h2,h3⟩:=h;have hb:=hk b (lt_of_heap h1) (.inl h0)
 exact ⟨hb.2.trans h0,g,cap,cv,hb.1.trans h1,h2.stab (hk g h2.lt (.inl h2.1)),h3.stab hs fun k hk' e=>hk k hk' (.inr e)⟩
theorem pickB_snoc (cs:List Nat) (es:Bag) (q:Row) (t:Int):pickB cs (es++[(q,t)])=pickB cs es++[(pickR cs q,t)]:=by rw [Mo.pickB_append];rfl
theorem IntsAt.slc {w:World} {v:Value} {cs:List Nat} (h:IntsAt w v cs):∃ a n c,v=.slice a n c:=by obtain ⟨a,c,e⟩:=h.is;exact ⟨a,_,c,e⟩
theorem pick_loop (b c g cap:Nat) (cv:Value) (cs:List Nat) (us:List Bool) (h6:∀ x∈cs,x<6) (hl6:cs.length≤6) (hrow:∀ {q:Row},Mo.Good us q→ROk (pickR cs q)) (d:Bag) (w:World) (Q:Ending→World→Prop) (hb:w.heap[b]? =some (.cells #[tkS g cap,cv] 280 (0,0))) (hcv:IntsAt w cv cs) (hd:OkD us d) (hc:BagAt w c (canon d))
 (hQ:∀ w3 es,AllOf (canon d) es→BagAt w3 w.heap.size (pickB cs es)→Kept No w w3→Calls Tryz.prog 250 #[.pointer (some ⟨b,0,none⟩),.map (some w.heap.size)] w3 fun e w'=>e=.returned (.tuple #[])∧Q e w') :
 Calls Tryz.prog 259 #[.pointer (some ⟨b,0,none⟩),.map (some c)] w Q:=by
 have HC:Hid (BagAt (w.alloc (.map #[] 0)) c (canon d)):=hc.of_block (Below.heap_alloc _ _ _ hc.lt);have HN0:Hid (BagAt (w.alloc (.map #[] 0)) w.heap.size []):=BagAt.made w;obtain ⟨ca,cn,cc,rfl⟩:=hcv.slc;have HB:=hid hb;have HQ:=hid hQ;have HCV:=hid hcv;have H6:=hid h6;have HL6:=hid hl6
 have HRW:Hid (∀ q:Row,Mo.Good us q→ROk (pickR cs q)):=fun q hq=>hrow hq
 have HD:=hid hd;have hcl:=hc.lt;have hbl:=lt_of_heap hb;clear hc hb hQ hcv h6 hl6 hrow hd;have hmm:=@run_makeMap Tryz.prog
 go_enter Tryz.func259,Tryz.ntmps259
 go_wp2_with (first
  | (at_range;refine wpList_range_bag _ rfl _ rfl c (canon d) rfl HC.out ?_;intro w1 k1 hr1 hk1 hs1)
  | fail)
 have hsz:(w.alloc (.map #[] 0)).heap.size=w.heap.size+1:=by simp
 rw [hsz] at hr1 hs1 ⊢;have HR1:=hid hr1
 have HA1:Hid (BagAt w1 w.heap.size (pickB cs [])):=HN0.out.kept hk1 (fun e=>e)
 have hk1':Kept No w w1:=((Kept.refl No w).alloc _).seq hk1;have HK1:=hid hk1';clear hr1 hs1 hk1 hk1' HC HN0 hmm
 go_frame
 go_loopg [] k1 (fun k wr=>∃ es:Bag,Hid (BRng wr c (w.heap.size+1) (canon d) es k)∧Hid (BagAt wr w.heap.size (pickB cs es))∧Hid (Kept No w wr))
 case atStart=>exact ⟨[],HR1,HA1,HK1⟩
 case round =>
  obtain ⟨es,hr,ha,hK⟩:=hrel;clear HR1 HA1 HK1
  go_wp2_with (first
   | (at_next;refine wpList_next_bag _ rfl _ rfl c (w.heap.size+1) (canon d) es gk rfl hr.out ?_ ?_)
   | fail)
  ·intro hall
   have HG:=hid (HQ.out wr es hall ha.out hK.out);clear hall;go_wp2_with fail;refine HG.out.mono ?_;rintro e w4 ⟨rfl,hq⟩;have HQ4:=hid hq;clear hq;go_wp2_with fail;go_end0;exact HQ4.out
  ·intro t q w2 k2 hq ht htn hr2 hlt hk2 hsz2 hen
   have HR2:=hid hr2
   have HGQ:Hid (Mo.Good us q):=HD.out.good (by rw [←HD.out.w64,←ht];exact htn)
   have hk2':Kept No w w2:=hK.out.trans hk2 (fun _ e=>e) (fun i hi e=>by omega)
   have HK2:=hid hk2'
   have ha2:BagAt w2 w.heap.size (pickB cs es):=ha.out.kept hk2 (fun e=>by omega)
   have HA2:=hid ha2
   have HLen:Hid ((canon (pickB cs es)).length<maxLen):=by
    have e1:=HR2.out.ents.len;have e2:=HD.out.len;have e3:=Mo.canon_append_len (pickB cs es) [];have e4:(pickB cs es).length=es.length:=List.length_map _
    simp [Mo.canon] at e1 e3
    rw [Mo.canon_of_rise (Mo.canon_rise d)] at e1
    show _<_
    unfold maxLen;omega
   have hw2:w.heap.size≤w2.heap.size:=hk2'.size
   have hb2:w2.heap[b]? =some (.cells #[tkS g cap,.slice ca cn cc] 280 (0,0)):=(hk2'.block b hbl (fun e=>e)).trans HB.out
   have HB2:=hid hb2;clear hq hr2 hk2 ht htn ha2 hsz2 hk2' hb2
   go_wp2_with (first
    | (refine store_row_new _ _ _ rfl rfl w2 _ rfl rfl rfl q rfl ?_)
    | fail)
   have hSb:(w2.alloc (.cells (rowA q) 154)).heap[b]? =some (.cells #[tkS g cap,.slice ca cn cc] 280 (0,0)):=(Below.heap_alloc _ _ _ (lt_of_heap HB2.out)).trans HB2.out;have hSq:(w2.alloc (.cells (rowA q) 154)).heap[w2.heap.size]? =some (.cells (rowA q) 154 (0,0)):=heap_alloc_last _ _;have HSS:=hid (And.intro hSb hSq);have hKW:Kept No w2 (w2.alloc (.cells (rowA q) 154)):=(Kept.refl No w2).alloc _;have HKW:=hid hKW;clear hSb hSq hKW;generalize w2.alloc (.cells (rowA q) 154)=W at HSS HKW ⊢;obtain ⟨cb,hcb⟩:∃ cb,cb=#[tkS g cap,.slice ca cn cc]:=⟨_,rfl⟩;obtain ⟨cq,hcq⟩:∃ cq,cq=rowA q:=⟨_,rfl⟩;obtain ⟨cp,hcp⟩:∃ cp,cp=rowA (pickR cs q):=⟨_,rfl⟩
   have HPK:Hid (∀ w',Kept No W w'→Calls Tryz.prog 260 #[.agg cq,.slice ca cn cc] w' fun e w''=>e=.returned (.agg cp)∧Kept No w' w''):=by
    subst hcp hcq
    exact fun w' hk'=>pick_any q cs _ w' (HCV.out.kept ((HK2.out.seq HKW.out).seq hk') (fun _ _ e=>e)) H6.out HL6.out
   have HY3:Hid (∀ w:World,w.heap[w2.heap.size]? =some (.cells cq 154 (0,0))→(loadVar 154 ⟨w2.heap.size,0,none⟩).run Tryz.prog w=.ok (.agg cq) w):=by
    subst hcq
    exact fun w h=>run_loadVar_row w w2.heap.size 154 154 (rowA q) (0,0) _ h Tryz.underlying154 rfl (by rw [rowA_size];exact infoRow)
   have HY4:Hid (∀ w:World,w.heap[b]? =some (.cells cb 280 (0,0))→w.cell? ⟨b,1,none⟩=some (.slice ca cn cc)):=by
    subst hcb
    exact fun w h=>(cell_of h 1).trans rfl
   rw [←hcb,←hcq] at HSS
   have HADD:Hid (∀ w',Kept No w2 w'→Calls Tryz.prog 79 #[.map (some w.heap.size),.agg cp,.int .i64 t] w' fun e w''=>e=.returned (.tuple #[])∧BagAt w'' w.heap.size ((pickR cs q,t)::pickB cs es)∧Kept (·=w.heap.size) w' w''):=by
    subst hcp
    exact fun w' hk'=>add_any w.heap.size (pickB cs es) (pickR cs q) t w' (HA2.out.kept hk' (fun e=>e)) (HRW.out q HGQ.out) HLen.out
   have HROW:Hid (ROk (pickR cs q)):=HRW.out q HGQ.out;clear hcb hcp HGQ HB2 hcq
   refine wp_region_held_drew (S:=fun w'=>w'.heap[b]? =some (.cells cb 280 (0,0))∧w'.heap[w2.heap.size]? =some (.cells cq 154 (0,0))) (by kernel_rfl) HSS.out (fun hHeld=> ?_)
   refine tk_P 0 (.map (some w.heap.size)) hHeld ?_;try simp only [Act.put,n_1,n_2,n_3,n_4,n_5,n_6]
   refine tk_L 1 (.agg cq) 154 (.tmp 5) (w2.heap.size) (0) (fun w h=>HY3.out w h.2) hHeld ?_
   try simp only [Act.put,n_1,n_2,n_3,n_4,n_5,n_6]
   refine tk_P 2 (.pointer (some ⟨b,0,none⟩)) hHeld ?_;try simp only [Act.put,n_1,n_2,n_3,n_4,n_5,n_6]
   refine tk_P 3 (.pointer (some ⟨b,0,none⟩)) hHeld ?_;try simp only [Act.put,n_1,n_2,n_3,n_4,n_5,n_6]
   refine tk_P 4 (.pointer (some ⟨b,1,none⟩)) hHeld ?_;try simp only [Act.put,n_1,n_2,n_3,n_4,n_5,n_6]
   refine tk_C 5 (.slice ca cn cc) 136 (.tmp 19) (b) (1) (fun w h=>HY4.out w h.1) hHeld ?_
   try simp only [Act.put,n_1,n_2,n_3,n_4,n_5,n_6]
   refine tk_P 7 (.int .i64 t) hHeld ?_;try simp only [Act.put,n_1,n_2,n_3,n_4,n_5,n_6]
   have HKw:Hid (Kept No W W.drew):=(Kept.refl No W).drew
   refine tk_S 6 (fun K hK=> ?_)
   go_simp;refine (HPK.out _ HKw.out).mono ?_;rintro e w3 ⟨rfl,hk3⟩
   have hS3:w3.heap[b]? =some (.cells cb 280 (0,0))∧w3.heap[w2.heap.size]? =some (.cells cq 154 (0,0)):=⟨(hk3.block b (lt_of_heap hHeld.1) (fun e=>e)).trans hHeld.1,(hk3.block _ (lt_of_heap hHeld.2) (fun e=>e)).trans hHeld.2⟩
   have HK3:Hid (Kept No W w3):=HKw.out.seq hk3
   refine hK.out _ _ hS3 (fun hHeld=> ?_)
   clear hK K hk3;try simp only [Act.put,n_1,n_2,n_3,n_4,n_5,n_6]
   refine tk_S 8 (fun K hK=> ?_)
   go_simp;refine (HADD.out _ (HKW.out.seq HK3.out)).mono ?_;rintro e w5 ⟨rfl,ha5,hk5⟩
   have hS5:w5.heap[b]? =some (.cells cb 280 (0,0))∧w5.heap[w2.heap.size]? =some (.cells cq 154 (0,0)):=⟨(hk5.block b (lt_of_heap hHeld.1) (by omega)).trans hHeld.1,(hk5.block _ (lt_of_heap hHeld.2) (by have:=HA2.out.lt;omega)).trans hHeld.2⟩
   have HK5:Hid (Kept (·=w.heap.size) w2 w5):=(HKW.out.seq HK3.out).noSeq hk5
   refine hK.out _ _ hS5 (fun hHeld=> ?_)
   clear hK K hk5
   refine wpAnyH_done (by kernel_rfl) ?_ _
   clear hS3 hS5 HK3 HPK HADD HY3 HY4 hHeld HKW HKw HSS;try simp only [Act.put,n_1,n_2,n_3,n_4,n_5,n_6]
   have HR5:Hid (BRng w5 c (w.heap.size+1) (canon d) (es++[(q,t)]) k2):=HR2.out.kept HK5.out (fun e=>by omega) (fun e=>by omega)
   have HA5:Hid (BagAt w5 w.heap.size (pickB cs (es++[(q,t)]))):=by
    show BagAt _ _ _
    rw [pickB_snoc]
    refine ha5.eqv (fun x=> ?_) (fun x hx=> ?_)
    ·simp only [Mo.cnt_append,cnt];omega
    ·rcases List.mem_append.1 hx with hx | hx
     ·exact HA2.out.1 x hx
     ·simp at hx;subst hx;exact HROW.out
   have HK6:Hid (Kept No w w5):=HK2.out.trans HK5.out (fun _ e=>e) (fun i hi e=>by omega)
   clear ha5 HR2 HA2 HK2 HK5;go_wp2_with fail;go_roundg k2
   case measure=>exact hlt
   case rel=>exact ⟨es++[(q,t)],HR5,HA5,HK6⟩
theorem pick_ty:TyTake 278 259:=⟨fun _ _=>by kernel_rfl,fun _ _=>by kernel_rfl,enters_of Tryz.func259 (by kernel_rfl) rfl⟩
theorem pick_takes {ty:TypeId} {f:Nat} {p:Addr} {A:Nat→Prop} {ts:List Bool} {Gd:Bag→Prop} {R:World→Ow→Bag→Prop} (hT:Takes ty f p A ts Gd R) (b:Nat) (cs:List Nat) (us:List Bool) (h6:∀ x∈cs,x<6) (hl6:cs.length≤6) (hrow:∀ {q:Row},Mo.Good us q→ROk (pickR cs q)) (hA:¬A (b+2)) :
 Takes 278 259 ⟨b,0,none⟩ (fun a=>A a∨a=b+2) us (fun B=>OkB us B∧Gd (pickB cs B)) (fun w O B=>R w O (pickB cs B)∧PickAt w O b (.iface ty (.pointer (some p))) cs) where
 zero:=fun h=>h.elim hT.zero (by omega)
 one:=fun h=>h.elim hT.one (by omega)
 ok:=fun h=>h.1
 gde:=fun h e=>⟨h.1.eqv e,hT.gde h.2 (Mo.pickB_eqv e)⟩
 stab:=fun h hs hk=>⟨hT.stab h.1 hs fun k hk' ha=>hk k hk' (ha.imp .inl id),h.2.stab hs fun k hk' e=>hk k hk' (e.imp .inr id)⟩
 eqv:=fun h e=>⟨hT.eqv h.1 (Mo.pickB_eqv e),h.2⟩
 met:=pick_ty
 run:=by
  rintro w O B d c ⟨hR,hS⟩ ⟨hB1,hB2⟩ ⟨hD1,hD2⟩ hc hAc;have hd:=hB1.chg hD1;obtain ⟨hO0,g,cap,cv,hb,hg,hcv⟩:=hS
  refine pick_loop b c g cap cv cs us h6 hl6 hrow d w _ hb hcv.1 hd hc fun w3 es hall ha hk=> ?_
  have he:Eqv (pickB cs es) (pickB cs d):=Mo.pickB_eqv (hall.eqv hd);rw [Mo.pickB_append] at hD2;have hok:=(hT.ok hB2).chg (hT.ok hD2)
  have hb3:w3.heap[b]? =some (.cells #[tkS g cap,cv] 280 (0,0)):=(hk.block b (lt_of_heap hb) (fun e=>e)).trans hb
  have hg3:w3.heap[g]? =w.heap[g]? :=hk.block g hg.lt (fun e=>e)
  have hgt:TkAt w3 (oN w O) b g (.iface ty (.pointer (some p))):=hg.stab ⟨hg3,oN_old hg.lt⟩
  have hcv3:ColsAt w3 (oN w O) cv cs:=hcv.stab hk.size fun k hk' e=>⟨hk.block k hk' (fun e=>e),oN_old hk'⟩
  have hc3:BagAt w3 w.heap.size (canon (pickB cs d)):=ha.eqv (he.trans (Mo.canon_eqv _).symm) hok.rok
  have hR3:R w3 (oN w O) (pickB cs B):=hT.kept hR hk (fun _ e=>e.elim) (fun k hk'=>oN_old hk')
  refine (hT.give (b:=b) (c:=w.heap.size) (g:=g) (o:=0) (cap:=cap) ((cell_of hb3 0).trans rfl) hgt.cell hR3 hB2 hD2 hc3 (by rw [oN_new (Nat.le_refl _)];exact hT.zero)).mono fun e w4 h4=>⟨h4.1,?_⟩
  refine TakeEnd.up (b:=b) hk.any h4 fun O' h1 h2 h3=>⟨by rw [Mo.pickB_append];exact h3,?_⟩
  have hbb:∀ k,k<w3.heap.size→oN w O k=b+2∨oN w O k=1→w4.heap[k]? =w3.heap[k]?∧O' k=oN w O k:=fun k hk' e=>⟨h2.block k hk' (by rcases e with e | e <;> rw [e];exact hA;exact hT.one),h1 k hk'⟩
  exact PickAt.stab ⟨by rw [oN_old (lt_of_heap hb)];exact hO0,g,cap,cv,hb3,hgt,hcv3⟩ h2.size hbb
end Go.Proofs.YtdinjjmcmfjbfaaGreatDoor
