import Derived.Test.YtdinjjmcmfjbfaaGreatDoorCxJ
import Derived.Shelf.Abstract
import Derived.RangeFuncNested
import Derived.RangeFuncBound
import Derived.RangeFuncCalls
import Derived.RangeFuncLeaves
import Derived.RangeFuncBox
import Derived.Shelf.RegionOpen
import Derived.OwnWalkIn
import Derived.TacticsInMore
import Derived.LoopNIn
import Derived.LoopIn
import Derived.Maps.AppendAt
import Derived.Sort.MapsRangeIn
import Derived.Deep.AppendLies
import Derived.Shelf.SlSortCmp.NoneTotal
import Derived.Shelf.SlGeneric
import Derived.Ground.SlsfProg
set_option maxRecDepth 100000
set_option maxHeartbeats 4000000
namespace Go.Proofs.YtdinjjmcmfjbfaaGreatDoor
open Go.RowKit
open Mo (V Row Bag cnt Af Al vlt Kv Do Xq Cy L3 L5 Jf)
theorem TQ (v:V):((Au v).toArray).all (·.oneCell')=true:=by
 rw[nH]
 intro x b
 have a:x∈Au v:=by simpa using b
 simp only[Au,lQ,List.not_mem_nil,or_false] at a
 rcases a with h|h|h|h|h|h <;> subst h <;> rfl
section
variable {ops:Array Oper} {rest:List Oper} {o:Oper} {a:Act} {w:World} {Q:Exit→Act→World→Prop}
theorem Yl (x y:Operand)(ho:o.op=.store 133 x y)(b:o.guard=none)(g:Nat)(c:a.eval x=.pointer (some ⟨g,0,none⟩))(v:V)(d:a.eval y=J8 v)(old:Array Value)(e:old.size=6)(hg:w.heap[g]? =some (.cells old 133 (0,0)))
 (h:wpList Tryz.prog ops Q rest (a.put o.dst undef) (w.setRow g (Au v).toArray)):wpList Tryz.prog ops Q (o::rest) a w :=
 wpList_store_row b 133 x y ho g (Au v).toArray c d 133 old hg (by exact R5) (by rw[e];rfl) (TQ v) h
end
theorem TR (x:Cy)(r:Row)(b:∀c,x=.col c→c<6)(w:World) :
 Calls Tryz.prog 253 #[.agg (Vq x).toArray,.agg (An r)] w fun e w'=>e=.returned (J8 (Jf x r))∧Ab No w w':=by
 cases x with
 |col c =>
  have h:=b c rfl
  have o:(0:Int)≤(c:Int):=by omega
  have p:(c:Int)<6:=by omega
  clear b
  change Calls Tryz.prog 253 #[.agg #[.bool true,.int .i64 (c:Int),.int .i32 0,.int .u8 0,.int .u8 0,.int .u8 0,.int .u8 0,.int .i64 0],.agg (An r)] w fun e w'=>e=.returned (J8 (Al r c))∧Ab No w w'
  obtain⟨ob,i⟩:∃ob:Obj,ob=.cells #[.bool true,.int .i64 (c:Int),.int .i32 0,.int .u8 0,.int .u8 0,.int .u8 0,.int .u8 0,.int .i64 0] 135:=⟨_,rfl⟩
  obtain⟨d,k⟩:∃d:Obj,d=.cells #[.int .i32 0,.int .u8 0,.int .u8 0,.int .u8 0,.int .u8 0,.int .i64 0] 133:=⟨_,rfl⟩
  have l:oH ((((w.alloc (.cells #[.bool true,.int .i64 (c:Int),.int .i32 0,.int .u8 0,.int .u8 0,.int .u8 0,.int .u8 0,.int .i64 0] 135)).alloc (.cells (An r) 154)).alloc (.cells #[.int .i32 0,.int .u8 0,.int .u8 0,.int .u8 0,.int .u8 0,.int .i64 0] 133)).heap[w.heap.size+1]? =some (.cells (An r) 154 (0,0))):=(Below.heap_alloc _ _ _ (by simp)).trans (heap_alloc2_new _ _ _)
  have a:oH ((((w.alloc (.cells #[.bool true,.int .i64 (c:Int),.int .i32 0,.int .u8 0,.int .u8 0,.int .u8 0,.int .u8 0,.int .i64 0] 135)).alloc (.cells (An r) 154)).alloc (.cells #[.int .i32 0,.int .u8 0,.int .u8 0,.int .u8 0,.int .u8 0,.int .i64 0] 133)).heap[w.heap.size+2]? =some (.cells #[.int .i32 0,.int .u8 0,.int .u8 0,.int .u8 0,.int .u8 0,.int .i64 0] 133 (0,0))):=by
   have:=heap_alloc_last ((w.alloc (.cells #[.bool true,.int .i64 (c:Int),.int .i32 0,.int .u8 0,.int .u8 0,.int .u8 0,.int .u8 0,.int .i64 0] 135)).alloc (.cells (An r) 154)) (.cells #[.int .i32 0,.int .u8 0,.int .u8 0,.int .u8 0,.int .u8 0,.int .i64 0] 133)
   have e:((w.alloc (.cells #[.bool true,.int .i64 (c:Int),.int .i32 0,.int .u8 0,.int .u8 0,.int .u8 0,.int .u8 0,.int .i64 0] 135)).alloc (.cells (An r) 154)).heap.size=w.heap.size+2:=by simp
   rw[e] at this
   exact this
  clear i k d ob
  go_enter Tryz.func253,Tryz.ntmps253
  go_wp2_with (first
   |(refine CX _ rfl rfl (w.heap.size+1) (1+c*6) rfl (Al r c) (Jt l.o h) ?_)
   |(refine Yl _ _ rfl rfl (w.heap.size+2) rfl (Al r c) rfl _ rfl a.o ?_)
   |fail)
  (try simp only[Exit.inBlock,Exit.then])
  refine bodyPost_ret (results_cell_row rfl _ _ (w.heap.size+2) 133 (Au (Al r c)).toArray (0,0) _ rfl (D8 a.o) Tryz.underlying133 rfl (by exact R5)) rfl ?_
  exact⟨rfl,Dq ((((Ab.refl No w).alloc _).alloc _).alloc _) (.inl (by omega)) _⟩
 |val v =>
  clear b
  change Calls Tryz.prog 253 #[.agg #[.bool false,.int .i64 0,.int .i32 (kI v),.int .u8 (tB v 0),.int .u8 (tB v 1),.int .u8 (tB v 2),.int .u8 (tB v 3),.int .i64 (nI v)],.agg (An r)] w fun e w'=>e=.returned (J8 v)∧Ab No w w'
  have m:oH (∀j x,(Au v)[j]? =some x→(((w.alloc (.cells #[.bool false,.int .i64 0,.int .i32 (kI v),.int .u8 (tB v 0),.int .u8 (tB v 1),.int .u8 (tB v 2),.int .u8 (tB v 3),.int .i64 (nI v)] 135)).alloc (.cells (An r) 154)).alloc (.cells #[.int .i32 0,.int .u8 0,.int .u8 0,.int .u8 0,.int .u8 0,.int .i64 0] 133)).cell? ⟨w.heap.size,2+j,none⟩=some x):=by
   intro j x f
   have n:=(Below.heap_alloc ((w.alloc (.cells #[.bool false,.int .i64 0,.int .i32 (kI v),.int .u8 (tB v 0),.int .u8 (tB v 1),.int .u8 (tB v 2),.int .u8 (tB v 3),.int .i64 (nI v)] 135)).alloc (.cells (An r) 154)) (.cells #[.int .i32 0,.int .u8 0,.int .u8 0,.int .u8 0,.int .u8 0,.int .i64 0] 133) w.heap.size (by simp;omega)).trans (heap_alloc2_old _ _ _)
   rw[Ae n]
   have g:=(kS.1 f).1
   rw[Gl] at g
   match j,g with
   |0,_|1,_|2,_|3,_|4,_|5,_=>simpa [Au] using f
  have a:oH ((((w.alloc (.cells #[.bool false,.int .i64 0,.int .i32 (kI v),.int .u8 (tB v 0),.int .u8 (tB v 1),.int .u8 (tB v 2),.int .u8 (tB v 3),.int .i64 (nI v)] 135)).alloc (.cells (An r) 154)).alloc (.cells #[.int .i32 0,.int .u8 0,.int .u8 0,.int .u8 0,.int .u8 0,.int .i64 0] 133)).heap[w.heap.size+2]? =some (.cells #[.int .i32 0,.int .u8 0,.int .u8 0,.int .u8 0,.int .u8 0,.int .i64 0] 133 (0,0))):=by
   have:=heap_alloc_last ((w.alloc (.cells #[.bool false,.int .i64 0,.int .i32 (kI v),.int .u8 (tB v 0),.int .u8 (tB v 1),.int .u8 (tB v 2),.int .u8 (tB v 3),.int .i64 (nI v)] 135)).alloc (.cells (An r) 154)) (.cells #[.int .i32 0,.int .u8 0,.int .u8 0,.int .u8 0,.int .u8 0,.int .i64 0] 133)
   have e:((w.alloc (.cells #[.bool false,.int .i64 0,.int .i32 (kI v),.int .u8 (tB v 0),.int .u8 (tB v 1),.int .u8 (tB v 2),.int .u8 (tB v 3),.int .i64 (nI v)] 135)).alloc (.cells (An r) 154)).heap.size=w.heap.size+2:=by simp
   rw[e] at this
   exact this
  go_enter Tryz.func253,Tryz.ntmps253
  go_wp2_with (first
   |(refine CX _ rfl rfl w.heap.size 2 rfl v m.o ?_)
   |(refine Yl _ _ rfl rfl (w.heap.size+2) rfl v rfl _ rfl a.o ?_)
   |fail)
  (try simp only[Exit.inBlock,Exit.then])
  refine bodyPost_ret (results_cell_row rfl _ _ (w.heap.size+2) 133 (Au v).toArray (0,0) _ rfl (D8 a.o) Tryz.underlying133 rfl (by exact R5)) rfl ?_
  exact⟨rfl,Dq ((((Ab.refl No w).alloc _).alloc _).alloc _) (.inl (by omega)) _⟩
open Mo (V Row Bag cnt Af Be B0 Fw Cy)
def Qb (w:World)(O:Ow)(b g:Nat)(T:Value):Prop:=O g=b+2∧∃cs z,w.heap[g]? =some (.cells cs 143 z)∧cs[0]? =some T
theorem Qb.cell {w:World}{O:Ow}{b g:Nat}{T:Value}(h:Qb w O b g T):w.cell? ⟨g,0,none⟩=some T:=by
 obtain⟨_,cs,_,a,c⟩:=h
 rw[Ae a];exact c
theorem Qb.lt {w:World}{O:Ow}{b g:Nat}{T:Value}(h:Qb w O b g T):g<w.heap.size:=by obtain⟨_,cs,_,a,_⟩:=h;exact Aa a
theorem Qb.stab {w w':World}{O a:Ow}{b g:Nat}{T:Value}(h:Qb w O b g T)(c:w'.heap[g]? =w.heap[g]?∧a g=O g):Qb w' a b g T:=by
 obtain⟨d,cs,e,f,i⟩:=h
 exact⟨c.2.trans d,cs,e,c.1.trans f,i⟩
abbrev DK (g cap:Nat):Value:=.slice (some ⟨g,0,none⟩) 1 cap
def oN (w:World)(O:Ow):Ow:=fun k=>if k<w.heap.size then O k else 0
theorem M8 {w:World}{O:Ow}{k:Nat}(h:k<w.heap.size):oN w O k=O k:=if_pos h
theorem TT {w:World}{O:Ow}{k:Nat}(h:w.heap.size≤k):oN w O k=0:=if_neg (by omega)
theorem Nu.eqv {ts:List Bool}{d es:Bag}(h:Nu (Af d) es)(a:Fw ts d):Be es d:=fun r=>by
 rw[h.cnt a.cV r,a.iC]
theorem Il.up {A:Nat→Prop}{R R':World→Ow→Bag→Prop}{B d:Bag}{b:Nat}{w w3 w4:World}{O:Ow}{e:Ending}(f:Ab (fun k=>O k=b+2) w w3)(h:Il A R B w3 (oN w O) e w4)(m:∀c:Ow,(∀k,k<w3.heap.size→c k=oN w O k)→Ab (fun k=>A (oN w O k)) w3 w4→R w4 c B→R' w4 c d) :
 Il (fun a=>A a∨a=b+2) R' d w O e w4:=by
 obtain⟨n,c,g,j,o⟩:=h
 refine⟨n,c,fun k l=>(g k (kV l f.size)).trans (M8 l),?_,m c g j o⟩
 exact f.trans j (fun i e=>.inr e) (fun i hi e=>.inl (by rw[M8 hi] at e;exact e))
set_option linter.unusedSimpArgs false
open Go.RowKit Go.Shelf
open Mo (V Row Bag cnt Af Al vlt Kv Do)
theorem NV (x y:V)(s t:Row):Qz (x::s) (y::t)=if Kx x y=0 then Qz s t else Kx x y:=by
 unfold Qz Kv
 simp only[Do]
 by_cases h:x=y
 ·subst h
  have:Kx x x=0:=(U3 x x).2 rfl
  simp[this]
 ·have a:¬y=x:=fun e=>h e.symm
  have hv:¬Kx x y=0:=fun e=>h ((U3 x y).1 e)
  rw[if_neg hv]
  simp[h,a,Kx]
theorem NW {a b:Row}{i:Nat}(c:i<a.length)(d:i<b.length):Qz (a.drop i) (b.drop i)=if Kx (Al a i) (Al b i)=0 then Qz (a.drop (i+1)) (b.drop (i+1)) else Kx (Al a i) (Al b i):=by
 have e1:a[i]=Al a i:=by have:=Ke c;rw[kT c] at this;simpa using this
 have e:b[i]=Al b i:=by have:=Ke d;rw[kT d] at this;simpa using this
 rw[mC c,mC d,NV,e1,e]
theorem ZX {a b:Row}(h:a.map Mo.ty=b.map Mo.ty){i:Nat}(d:i<a.length):Mo.ty (Al a i)=Mo.ty (Al b i):=by
 have e:a.length=b.length:=by have:=congrArg List.length h;simpa using this
 have c:=congrArg (fun l=>l[i]?) h
 simp only[kX] at c
 rw[Ke d,Ke (by omega)] at c
 simpa using c
theorem DL (a b:Row)(s:G5 a)(B:G5 b)(t:a.map Mo.ty=b.map Mo.ty)(w:World) :
 Calls Tryz.prog 70 #[.agg (An a),.agg (An b)] w fun e w'=>e=.returned (.int .i64 (Qz a b))∧Gr w w':=by
 have O:a.length=b.length:=by have:=congrArg List.length t;simpa using this
 have P:=s.1
 obtain⟨W,j⟩:∃W,(w.alloc (.cells (An a) 154)).alloc (.cells (An b) 154)=W:=⟨_,rfl⟩
 have u:W.heap[w.heap.size]? =some (.cells (An a) 154 (0,0)):=by rw[←j];exact heap_alloc2_old _ _ _
 have C:W.heap[w.heap.size+1]? =some (.cells (An b) 154 (0,0)):=by rw[←j];exact heap_alloc2_new _ _ _
 have D:oH (Gr w W):=by rw[←j];exact ((Gr.refl w).alloc _).alloc _
 have Q:W.cell? ⟨w.heap.size,0,none⟩=some (.int .i64 (a.length:Int)):=by rw[Ae u];exact Qw a
 have R:=Ad s;have T:=Ad B;have U:=Ad t;have l:=Ad u;have m:=Ad C
 obtain⟨n,v⟩:∃n,a.length=n:=⟨_,rfl⟩
 have x:=Ad v
 have E:oH (b.length=n):=by show _=_;omega
 rw[v] at Q P
 clear s B t u C O v
 go_enter Tryz.func70,Tryz.ntmps70
 go_wp2_with (first
  |(rw[j])
  |fail)
 go_loopg [9] n (fun k V wr=>∃i:Nat,i+k=n∧V=.int .i64 (i:Int)∧oH (Qz a b=Qz (a.drop i) (b.drop i))∧oH (Gr W wr))
 case atStart=>exact⟨0,by omega,rfl,Ad rfl,Gr.refl _⟩
 case round =>
  obtain⟨i,_,rfl,y,hg⟩:=hrel
  cases gk with
  |zero =>
   have X:¬(i:Int)<(n:Int):=by omega
   have f:oH (Qz a b=0):=by
    show _=_
    rw[y.o,nO (by have:=x.o;omega),nO (by have:=E.o;omega)];rfl
   go_wp2_with fail;go_ret
   exact⟨Bb f.o.symm,D.o.trans hg.o⟩
  |succ k =>
   have X:(i:Int)<(n:Int):=by omega
   have aa:(0:Int)≤(i:Int):=by omega
   have ab:(i:Int)<6:=by omega
   have F:i<6:=by omega
   have G:wr.heap[w.heap.size]? =some (.cells (An a) 154 (0,0))∧wr.heap[w.heap.size+1]? =some (.cells (An b) 154 (0,0)):=⟨(hg.o.kept.block _ (Aa l.o) oI).trans l.o,(hg.o.kept.block _ (Aa m.o) oI).trans m.o⟩;have H:=Ad G
   have HD:=Ad (NW (a:=a) (b:=b) (i:=i) (by have:=x.o;omega) (by have:=E.o;omega))
   have o:oH (∀w',Calls Tryz.prog 120 #[J8 (Al a i),J8 (Al b i)] w' fun e Y=>e=.returned (.int .i64 (Kx (Al a i) (Al b i)))∧Gr w' Y):=fun w'=>DI _ _ (F0 R.o i) (F0 T.o i) (ZX U.o (by have:=x.o;omega)) w'
   obtain⟨p,z⟩:∃p,J8 (Al a i)=p:=⟨_,rfl⟩
   obtain⟨q,A⟩:∃q,J8 (Al b i)=q:=⟨_,rfl⟩
   have I:oH (∀w':World,w'.heap[w.heap.size]? =some (.cells (An a) 154 (0,0))→(loadVar 133 ⟨w.heap.size,1+i*6,none⟩).run Tryz.prog w'=.ok p w'):=by
    subst z
    exact fun w' h=>F4 (Jt h F)
   have J:oH (∀w':World,w'.heap[w.heap.size+1]? =some (.cells (An b) 154 (0,0))→(loadVar 133 ⟨w.heap.size+1,1+i*6,none⟩).run Tryz.prog w'=.ok q w'):=by
    subst A
    exact fun w' h=>F4 (Jt h F)
   rw[z,A] at o
   generalize Kx (Al a i) (Al b i)=g at o HD;clear G z A;go_wp2_with fail
   refine wp_region_held_drew (S:=fun w'=>w'.heap[w.heap.size]? =some (.cells (An a) 154 (0,0))∧w'.heap[w.heap.size+1]? =some (.cells (An b) 154 (0,0))) (by kernel_rfl) H.o (fun c=>?_)
   refine Bo 0 (.int .i64 (i:Int)) c ?_
   try simp only[Act.put,B6,B7,B8,B9,Ca,Cb]
   refine Bo 1 (.pointer (some ⟨w.heap.size,1,none⟩)) c ?_
   try simp only[Act.put,B6,B7,B8,B9,Ca,Cb]
   refine Bo 2 (.pointer (some ⟨w.heap.size,1+i*6,none⟩)) c ?_
   try simp only[Act.put,B6,B7,B8,B9,Ca,Cb]
   refine AD 3 (p) 133 (.tmp 14) (w.heap.size) (1+i*6) (fun w h=>I.o w h.1) c ?_
   try simp only[Act.put,B6,B7,B8,B9,Ca,Cb]
   refine Bo 4 (.int .i64 (i:Int)) c ?_
   try simp only[Act.put,B6,B7,B8,B9,Ca,Cb]
   refine Bo 5 (.pointer (some ⟨w.heap.size+1,1,none⟩)) c ?_
   try simp only[Act.put,B6,B7,B8,B9,Ca,Cb]
   refine Bo 6 (.pointer (some ⟨w.heap.size+1,1+i*6,none⟩)) c ?_
   try simp only[Act.put,B6,B7,B8,B9,Ca,Cb]
   refine AD 7 (q) 133 (.tmp 18) (w.heap.size+1) (1+i*6) (fun w h=>J.o w h.2) c ?_
   try simp only[Act.put,B6,B7,B8,B9,Ca,Cb]
   refine Kf 8 (fun K L=>?_)
   go_simp;refine (o.o _).mono ?_;rintro e w3 ⟨rfl,M⟩;have r:oH (Gr W w3):=(hg.o.drew).trans M;have N:w3.heap[w.heap.size]? =some (.cells (An a) 154 (0,0))∧w3.heap[w.heap.size+1]? =some (.cells (An b) 154 (0,0)):=⟨(r.o.kept.block _ (Aa l.o) oI).trans l.o,(r.o.kept.block _ (Aa m.o) oI).trans m.o⟩
   refine L.out _ _ N (fun c=>?_)
   clear L K M
   try simp only[Act.put,B6,B7,B8,B9,Ca,Cb]
   refine Bo 9 (.int .i64 g) c ?_
   try simp only[Act.put,B6,B7,B8,B9,Ca,Cb]
   refine wpAnyH_done (by kernel_rfl) ?_ _
   clear c N o I J H
   try simp only[Act.put,B6,B7,B8,B9,Ca,Cb]
   by_cases d:g=0
   ·have Z:(g != 0)=false:=by simp[d]
    have f:oH (Qz a b=Qz (a.drop (i+1)) (b.drop (i+1))):=by show _=_;rw[y.o,HD.o,if_pos d]
    clear d;go_wp2_with fail;go_roundg k
    case measure=>omega
    case rel=>exact⟨i+1,by omega,by go_num,f,r⟩
   ·have Z:(g != 0)=true:=by simp[d]
    have f:oH (Qz a b=g):=by show _=_;rw[y.o,HD.o,if_neg d]
    clear d;go_wp2_with fail;go_ret
    exact⟨Bb f.o.symm,D.o.trans r.o⟩
open Go.Maps (Keyed)
open Mo (V Row Bag cnt Af)
attribute [local go_sem] Oper.semAt_some
section
variable {F:Fence} {nF:Nat} (w:World) {ops:Array Oper} {rest:List Oper} {o:Oper} {a:Act} {Q:Exit→Act→World→Prop} {κ:Type} {K:TypeId} {enc:κ→Value} {ok:κ→Prop} (E:KE K enc ok)
include E
theorem Q4 (hg:o.guard=none)(c:Operand)(t e:TypeId)(d:o.op=Op.range t c)(f:Tryz.prog.underlying t=some (.map K e))(b:Nat)(m:κ→Option Value)(g:a.eval c=.map (some b))(h:Cz K enc ok w b m)
 (i:∀w' cnt,R0 K enc ok w' b w.heap.size m [] cnt→w.grownBy w' none→w'.heap.size=w.heap.size+1→wpListIn F nF Tryz.prog ops Q rest (a.put o.dst (.pointer (some ⟨w.heap.size,0,none⟩))) w'):wpListIn F nF Tryz.prog ops Q (o::rest) a w:=by
 obtain⟨D,ho,j⟩:=h
 refine wpListIn_range_own w hg c t d K e (Keyed.of_law E.law) f tok b _ D g ho ?_;intro w' k n p
 exact i w' _ ⟨D,_,k,j,⟨nJ,fun {v l} _ _=>by cases Maps.has D l <;> simp⟩,by simp⟩ n p
theorem Sc (hg:o.guard=none)(it:Operand)(N:o.op=Op.next it false)(b r:Nat)(m:κ→Option Value)(ps:List (κ×Value))(cnt:Nat)(hit:a.eval it=.pointer (some ⟨r,0,none⟩))(h:R0 K enc ok w b r m ps cnt)
 (O:dM m ps→wpListIn F nF Tryz.prog ops Q rest (a.put o.dst (.tuple #[.bool false])) w)
 (P:∀(k:κ) (v:Value) (w':World) (s:Nat),ok k→m k=some v→(∀u,(k,u)∉ps)→R0 K enc ok w' b r m (ps++[(k,v)]) s→s<cnt→w.grownBy w' (some r)→w'.heap.size=w.heap.size →
   (Instr.entry (.pointer (some ⟨r,0,none⟩))).run Tryz.prog w'=.ok (.tuple #[enc k,v]) w'→wpListIn F nF Tryz.prog ops Q rest (a.put o.dst (.tuple #[.bool true,enc k,v])) w'):wpListIn F nF Tryz.prog ops Q (o::rest) a w:=by
 obtain⟨D,left,hr,g,j,hv⟩:=h
 refine wpListIn_next_ranges w hg it N K (Keyed.of_law E.law) tok (id:Value→Value) id (fun key _ _=>⟨key,rfl⟩) (fun v _ _=>⟨v,rfl⟩) b r _ D left cnt hit hr ?_ ?_
 ·intro _ R
  refine O ⟨j.nodup,fun k v=>⟨fun n=>hv _ n,fun n=>?_⟩⟩
  have f:=g.dom n
  obtain⟨l,B⟩:=E.key f
  have z:Maps.has D l=true:=by rw[g.has f B,n];rfl
  obtain⟨p,c,rfl⟩:=lD.1 ((j.mem f B).2 ⟨z,R _⟩)
  have:=hv p c
  rw[n] at this
  have:v=p.2:=by simpa using this
  subst this;exact c
 ·intro S v i y w' s d T U C V W X Y Z
  have t:Maps.has D i=true:=Maps.has_true_of_atKey C
  obtain⟨k,f,aa⟩:=g.all t
  obtain rfl:S=enc k:=E.law.inj d aa;have d:keyOf Tryz.prog K (enc k)=some i:=d
  have ab:y=(.held v,[]):=by simpa [tok] using U.symm
  subst ab
  have G:m k=some v:=by
   cases H:m k with
   |none=>rw[g.has f d,H] at t;cases t
   |some u=>have z:=g.hit d H .nil;have I:=C .nil;rw[z] at I;simpa using I
  have J:k∉ps.map (·.1):=fun q=>by have:=((j.mem f d).1 q).2;rw[T] at this;cases this
  refine P k v w' s f G (fun u ac=>J (lD.2 ⟨_,ac,rfl⟩)) ⟨D,_,V,g,⟨?_,?_⟩,fun p c=>?_⟩ W X Y Z
  ·rw[lF]
   exact mO.2 ⟨j.nodup,by simp,fun a ad b L=>by simp at L;subst L;exact fun e=>J (e ▸ ad)⟩
  ·intro x l M q
   by_cases e:x=k
   ·subst e
    have e1:l=i:=by have:=q.symm.trans d;simpa using this
    subst e1
    simp[t,WideAt.sameKey_self ((Keyed.of_law E.law).key d)]
   ·have ae:l≠i:=fun af=>e (E.inj M f (E.law.inj q (af ▸ d)))
    have A:l.sameKey i=false:=by
     cases A:l.sameKey i
     ·rfl
     ·exact absurd (WideAt.sameKey_eq A) ae
    rw[lF,lC,j.mem M q]
    simp[A,e]
  ·rcases lC.1 c with c|c
   ·exact hv p c
   ·simp at c;subst c;simpa using G
end
section
variable {κ:Type} {K:TypeId} {enc:κ→Value} {ok:κ→Prop} {w w':World} {b r:Nat} {m:κ→Option Value} {ps:List (κ×Value)} {c:Nat}
theorem R0.walks (h:R0 K enc ok w b r m ps c)(k:KeepsWalks w w'):R0 K enc ok w' b r m ps c:=by
 obtain⟨D,left,a,d⟩:=h
 exact⟨D,left,a.of_walks k,d⟩
theorem R0.iter_walk (h:R0 K enc ok w b r m ps c):∃o:Obj,w.heap[r]? =some o∧o.isWalk=true:=by
 obtain⟨D,left,a,_⟩:=h
 exact a.iter_walk
theorem R0.left (h:R0 K enc ok w b r m ps c):w.rangeLeft b r=c:=by
 obtain⟨D,left,a,_⟩:=h
 exact a.left_eq
theorem R0.len [DecidableEq κ]{N:Nat}(h:R0 K enc ok w b r m ps c)(a:gE m N):ps.length≤N:=by
 obtain⟨D,left,_,_,d,hv⟩:=h
 obtain⟨ks,_,e⟩:=a
 have:=Em d.nodup (fun x f=>by obtain⟨p,g,rfl⟩:=lD.1 f;exact e _ (by rw[hv p g];rfl))
 simp at this;omega
end
abbrev NX (q:Row):Array Value:=#[.agg (An q)]
section
variable {F:Fence} {nF:Nat} {w:World} {ops:Array Oper} {rest:List Oper} {o:Oper} {a:Act} {Q:Exit→Act→World→Prop} {r:Row}
theorem Vy (x:Operand)(ho:o.op=.load 154 x)(b:o.guard=none)(g:Nat)(d:a.eval x=.pointer (some ⟨g,0,none⟩))(r:Row)(hg:w.heap[g]? =some (.cells (An r) 154 (0,0)))
 (h:wpListIn F nF Tryz.prog ops Q rest (a.put o.dst (.agg (An r))) w):wpListIn F nF Tryz.prog ops Q (o::rest) a w:=by
 refine wpListIn_plain b fun K e=>?_
 have hr:=run_loadVar_row w g 154 154 (An r) (0,0) _ hg Tryz.underlying154 rfl (by rw[Bz];exact F3)
 unfold Oper.wpIn
 refine⟨by simp[Oper.about,ho],?_⟩
 rw[Oper.semAt_plain F _ _ (by rw[ho];intro c f;cases f)]
 simp only[execOp,ho,d,Instr.loadAt,Instr.sureAddr,Sem.run_bind,Sem.run_pure,Result.andThen_ok,hr]
 exact e _ _ h
theorem Nv (x y:Operand)(ho:o.op=.store 154 x y)(b:o.guard=none)(w0:World)(old:Array Value)(d:w=w0.alloc (.cells old 154))(e:old.size=37)(f:a.eval x=.pointer (some ⟨w0.heap.size,0,none⟩))(r:Row)(g:a.eval y=.agg (An r))
 (h:wpListIn F nF Tryz.prog ops Q rest (a.put o.dst undef) (w0.alloc (.cells (An r) 154))):wpListIn F nF Tryz.prog ops Q (o::rest) a w:=by
 subst d
 refine wpListIn_plain b fun K i=>?_
 have hr:=run_storeVar_row (P:=Tryz.prog) (w0.alloc (.cells old 154)) w0.heap.size 154 154 old (An r) (heap_alloc_last _ _) (by rw[Bz];exact F3) (by rw[Bz];exact e) (Mb r)
 rw[World.setRow_alloc_new] at hr
 unfold Oper.wpIn
 refine⟨by simp[Oper.about,ho],?_⟩
 rw[Oper.semAt_plain F _ _ (by rw[ho];intro c j;cases j)]
 simp only[execOp,ho,f,g,Instr.storeAt,Instr.sureAddr,Sem.run_bind,Sem.run_pure,Result.andThen_ok,hr]
 exact i _ _ h
theorem DM (b:∀w:World,(Instr.buildSlice 150 1 #[(0,.agg (An r))]).run Tryz.prog w=.ok (.slice (some ⟨w.heap.size,0,none⟩) 1 1) (w.alloc (.cells (An r) 154)))(x:Operand)(ho:o.op=.buildSlice 150 1 #[(0,x)])(d:o.guard=none)(e:a.eval x=.agg (An r))
 (h:wpListIn F nF Tryz.prog ops Q rest (a.put o.dst (.slice (some ⟨w.heap.size,0,none⟩) 1 1)) (w.alloc (.cells (An r) 154))):wpListIn F nF Tryz.prog ops Q (o::rest) a w:=by
 refine wpListIn_plain d fun K f=>?_
 have hr:=b w;unfold Oper.wpIn
 refine⟨by simp[Oper.about,ho],?_⟩
 rw[Oper.semAt_plain F _ _ (by rw[ho];intro c g;cases g)]
 simp only[execOp,ho,List.map_toArray,lS,List.map_nil,e,Sem.run_bind,Result.andThen_ok,hr]
 exact f _ _ h
theorem Q6 (hg:o.guard=none)(it:Operand)(d:o.op=Op.next it false)(b r:Nat)(m:Row→Option Value)(ps:List (Row×Value))(cnt:Nat)(hit:a.eval it=.pointer (some ⟨r,0,none⟩))(h:R0 154 M5 G5 w b r m ps cnt)
 (e:dM m ps→wpListIn F nF Tryz.prog ops Q rest (a.put o.dst (.tuple #[.bool false])) w)
 (f:∀(k:Row) (v:Value) (w':World) (c:Nat),G5 k→m k=some v→R0 154 M5 G5 w' b r m (ps++[(k,v)]) c→c<cnt→w.grownBy w' (some r)→w'.heap.size=w.heap.size →
   (Instr.entry (.pointer (some ⟨r,0,none⟩))).run Tryz.prog w'=.ok (.tuple #[.agg (An k),v]) w'→wpListIn F nF Tryz.prog ops Q rest (a.put o.dst (.tuple #[.bool true,.agg (An k),v])) w'):wpListIn F nF Tryz.prog ops Q (o::rest) a w :=
 Sc w I8 hg it d b r m ps cnt hit h e fun k v w' g i j _ l n p q s=>f k v w' g i j l n p q s
end
theorem TU (F:Fence)(n:Nat)(z:F.fn 119)(A:F.round=none)(_:1≤n)(l j b N:Nat)(m:Row→Option Value)(B:gE m N)(a k:List Row→World→Prop)
 (C:∀Mf x W,a Mf W→Mf.length<N→YieldAt F (n-1) Tryz.prog l (NX x) W fun e f=>(e=.returned (.bool true)∧a (Mf++[x]) f∧KeepsWalks W f)∨(e=.returned (.bool false)∧k (Mf++[x]) f))
 (W:World) (h:AbidesFrom W.heap.size a) (_:W.cell? ⟨j,0,none⟩=some (.map (some b))) (D:Cz 154 M5 G5 W b m) (E:a [] W) :
 CallsIn F n Tryz.prog 119 #[.func (.yield l) #[] #[],.pointer (some ⟨j,0,none⟩)] W fun e f=>(∃v,e=.returned v) ∧
  ((∃xs:List Row,xs.Nodup∧(∀q,q∈xs↔(m q).isSome=true)∧a xs f)∨(∃Mf:List Row,True∧k Mf f)):=by
 refine callsIn_of_wp Tryz.func119 rfl z ?_ A
 simp only[Tryz.ntmps119,List.size_toArray,lN,nB,Nat.reduceAdd,Nat.reduceSub,Array.replicate_succ,Array.replicate_zero,List.push_toArray,List.append_toArray,mU,List.cons_append]
 gi_wp2_with (first
  |(gi_at_range;refine Q4 _ I8 rfl _ 83 2 rfl Tryz.underlying83 b m rfl D ?_;intro w0 G H I T)
  |gi_in)
 go_frame
 gi_loopw [6] (fun _ wr=>∃(c:Nat) (ps:List (Row×Value)),R0 154 M5 G5 wr b W.heap.size m ps c∧a (ps.map (·.1)) wr)
  (fun _ wr=>wr.rangeLeft b W.heap.size)
 case atStart=>exact⟨G,[],H,h [] W w0 none E I (fun r e=>by cases e)⟩
 case round =>
  obtain⟨c,ps,i,o⟩:=hrel
  gi_wp2_with (first
   |(gi_at_next;refine Q6 rfl _ rfl b W.heap.size m _ c rfl i ?_ ?_)
   |gi_in)
  ·intro hf
   gi_wp2
   go_end0
   exact⟨⟨_,rfl⟩,.inl ⟨ps.map (·.1),hf.1,fun q=>⟨fun g=>by obtain⟨e,J,rfl⟩:=lD.1 g;rw[(hf.2 e.1 e.2).1 J];rfl,fun g=>by obtain⟨v,hv⟩:=Option.isSome_iff_exists.1 g;exact lD.2 ⟨_,(hf.2 q v).2 hv,rfl⟩⟩,o⟩⟩
  ·intro q v d c2 g hv p K L M U
   have s:=p.len B
   simp only[kU,lN,nB] at s
   have t:a (ps.map (·.1)) d:=h _ wr d (some W.heap.size) o L (fun r e=>by cases e;exact⟨kZ _,i.iter_walk⟩)
   have u:a (ps.map (·.1)) (d.alloc (.cells (An q) 154)):=h _ d _ none t (World.grownBy_alloc d _ none) (fun r e=>by cases e)
   obtain⟨_,tmps,_,_,O,P⟩:=C (ps.map (·.1)) q _ u (by simp;omega)
   dsimp only[NX] at O
   clear M s t u hv
   gi_wp2_with (first
    |(refine Nv _ _ rfl rfl d _ rfl rfl rfl q rfl ?_)
    |(refine Vy _ rfl rfl d.heap.size rfl q (heap_alloc_last d _) ?_)
    |gi_in)
   refine P.mono ?_
   rintro e w (⟨rfl,Q,R⟩|⟨rfl,hJx4⟩)
   ·have y:R0 154 M5 G5 w b W.heap.size m (ps++[(q,v)]) c2:=(p.walks (KeepsWalks.alloc _ _)).walks R
    have S:a ((ps++[(q,v)]).map (·.1)) w:=by rw[lF];exact Q
    gi_wp2
    go_roundw
    case rel=>exact⟨c2,_,y,S⟩
    case measure=>rw[y.left,i.left];exact K
   ·gi_wp2
    refine bodyPost_ret (results_none rfl _ _ _) rfl ?_
    exact⟨⟨_,rfl⟩,.inr ⟨_,trivial,hJx4⟩⟩
def Ym (m:Row→Option Value)(xs:List Row):Prop:=xs.Nodup∧∀q,q∈xs↔(m q).isSome=true
theorem ID (F:Fence)(n:Nat)(g:F.fn 119)(h:F.round=none)(i:1≤n)(d b N:Nat)(m:Row→Option Value)(j:gE m N)(w:World)(k:d<w.heap.size)
 (o:w.cell? ⟨d,0,none⟩=some (.map (some b))) (e:Cz 154 M5 G5 w b m) :
 SeqStopsK F n Tryz.prog 119 #[.pointer (some ⟨d,0,none⟩)] NX KeepsWalks (Ym m) (fun _=>True) N w:=fun l q r W f s _ t u =>
 (TU F n g h i l d b N m j q r t W s ((f.cell (p:=⟨d,0,none⟩) k).trans o) (e.B2 (f.block b e.lt)) u).mono fun _ _ ⟨v,x⟩=>⟨v,x.imp (fun ⟨xs,a,b,c⟩=>⟨xs,⟨a,b⟩,c⟩) id⟩
theorem DN (a:Option Nat)(w:World):Calls Tryz.prog 69 #[.map a] w fun e w'=>e=.returned (.func (.func 119) #[] #[.pointer (some ⟨w.heap.size,0,none⟩)])∧w'=w.alloc (.cells #[.map a] 83):=by
 go_enter Tryz.func69,Tryz.ntmps69
 go_wp2
 go_ret
 exact⟨rfl,rfl⟩
def Le (xs:List Row):List Value:=xs.flatMap fun q=>(An q).toList
theorem IE (xs:List Row)(x:Row):Le (xs++[x])=Le xs++(An x).toList:=by simp[Le]
theorem Kg (q:Row):(An q).toList.length=37:=by simp[Bz]
theorem dX:(Tryz.prog.info? 154).map (fun i=>(i.zero,i.size,i.bytes))=some (some (.agg (An [])),37,104):=by kernel_rfl
theorem NY (r:Row)(w:World):(Instr.buildSlice 150 1 #[(0,.agg (An r))]).run Tryz.prog w=.ok (.slice (some ⟨w.heap.size,0,none⟩) 1 1) (w.alloc (.cells (An r) 154)):=by kernel_rfl
def IF (W:World)(B:Nat)(r:Row):Prop:=W.heap[B]? =some (.cells (An r) 154 (0,0))
theorem IF.lt {W:World}{B:Nat}{r:Row}(h:IF W B r):B<W.heap.size:=Aa h
theorem IF.new (W:World)(r:Row):IF (W.alloc (.cells (An r) 154)) W.heap.size r:=World.alloc_heap_new W _
theorem TV {β:Type}(B:Nat)(r:Row):Own (fun (_:β) W=>IF W B r):=fun _ X _ _ a hg b =>
 (hg.block B a.lt (fun c=>by obtain⟨o,ho,d⟩:=b B c.symm;rw[show X.heap[B]? =_ from a] at ho;cases ho;cases d)).trans a
theorem TW (k a:Nat)(N:Nat):OwnFrom N (fun (Mf:List Row) W=>∃v,Boxed W a 150 v∧W.ownsRow a 154 k v Mf.length (Le Mf)∧(v=.slice none 0 0↔Mf=[])) :=
 Own.from (holdsRow_own a a 150 154 k (fun Mf=>Mf.length) (fun Mf=>Le Mf) (fun Mf v=>v=.slice none 0 0↔Mf=[])) _
theorem ZY (w:World):OwnFrom (w.alloc (.cells #[.slice none 0 0] 150)).heap.size (fun (Mf:List Row) W=>(∃v,Boxed W w.heap.size 150 v∧W.ownsRow w.heap.size 154 37 v Mf.length (Le Mf)∧(v=.slice none 0 0↔Mf=[]))∧Below w.heap.size w W) :=
 OwnFrom.and (TW 37 w.heap.size _) (ownFrom_below (kZ _) (by simp))
theorem AG (F:Fence)(n:Nat)(s:F.fn 152)(u:F.fn 119)(j:F.round=none)(_:3≤n)(lb:Array Value)(S:List Row→Prop)(N:Nat)(_:N*104≤140737488355328)(w:World)
 (y:SeqStopsK F (n-1) Tryz.prog 119 lb NX KeepsWalks S (fun _=>True) N w) :
 CallsIn F n Tryz.prog 152 #[.slice none 0 0,.func (.func 119) #[] lb] w fun e k =>
  ∃v xs,e=.returned v∧S xs∧k.ownsRow w.heap.size 154 37 v xs.length (Le xs)∧(v=.slice none 0 0↔xs=[])∧Below w.heap.size w k:=by
 have g:1≤n:=by omega
 obtain⟨z,hi,A,B,C⟩:=info_parts dX
 refine callsIn_of_wp_marks Tryz.func152 rfl s ?_ j
 simp only[Tryz.ntmps152,List.size_toArray,lN,nB,Nat.reduceAdd,Nat.reduceSub,Array.replicate_succ,Array.replicate_zero,List.push_toArray,List.append_toArray,mU,List.cons_append]
 gi_wp2
 have E:=Boxed.new w 150 (.slice none 0 0);have m:Below w.heap.size w (w.alloc (.cells #[.slice none 0 0] 150)):=(Below.refl _ w).alloc (kZ _) _
 refine wpIn_rangeFunc_ownH j g (gf:=119) (lb:=lb) rfl u (enters_of Tryz.func119 (by kernel_rfl) rfl)
  y walksK_t walksK_b m (fun _=>rfl)
  (fun Mf W=>(∃v,Boxed W w.heap.size 150 v∧W.ownsRow w.heap.size 154 37 v Mf.length (Le Mf)∧(v=.slice none 0 0↔Mf=[]))∧Below w.heap.size w W)
  (fun _ _ _=>False)
  (ZY w)
  (fun _ _ _ _ _ i _ _=>i)
  ⟨⟨_,E,World.ownsRow_nil _ _ _ _,by simp⟩,m⟩
  (fun x a' W=>∃a,w.heap.size<a∧IF W a x∧a'={ tmps:=#[.slice none 0 0,.func (.func 119) #[] lb,.pointer (some ⟨w.heap.size,0,none⟩),undef,.slice none 0 0,.pointer (some ⟨a,0,none⟩),.func (.func 119) #[] lb,.agg (An x),undef,undef,undef,undef,undef],defers:=[] })
  (fun x a' _ X Y row i hg hr=>by obtain⟨a,g,G,H⟩:=i;exact⟨a,g,TV a x () X Y row G hg (fun r e=>(hr r e).2),H⟩)
  ?assign ?body ?done ?stop
 case assign =>
  rintro l Mf x W K ⟨⟨v,hv,b,f⟩,hB⟩ d
  gi_wp2_with (first
   |(refine Nv _ _ rfl rfl W _ rfl rfl rfl x rfl ?_)
   |gi_in)
  exact d _ _ ((KeepsOthers.alloc _ _).from _) (KeepsWalks.alloc _ _) ⟨⟨v,hv.alloc _,b.alloc _,f⟩,hB.alloc hB.size _⟩ ⟨W.heap.size,hv.lt,IF.new W _,rfl⟩
 case body =>
  rintro l Mf x a' W ab ⟨r,hr⟩ ⟨⟨v,hv,b,f⟩,hB⟩ ⟨a,_,I,rfl⟩ ac;have J:=hv.cell;have L:=World.news_of_block (cs:=An x) (t:=154) (fr:=(0,0)) (heap_alloc_last W _)
  have M:Mf.length+1≤maxLen:=by unfold maxLen;omega
  gi_wp2_with (first
   |(refine Vy _ rfl rfl a rfl x I ?_)
   |(refine DM (NY x) _ rfl rfl rfl ?_)
   |(gi_at_builtin;refine wpListIn_append_own _ rfl _ _ 150 rfl w.heap.size 154 z (.agg (An [])) 37 104 Tryz.underlying150 hi A B C rfl (by decide) _ _ _ rfl (b.alloc _) ⟨W.heap.size,0,none⟩ 1 1 (An x).toList rfl (Kg x) L (fun O P=>by have:=Mb x;rw[nH] at this;exact this O (by simpa using P)) M (by omega) (by have:=hB.size;simp;omega) ?_;intro v' ad o Q _;obtain⟨_,_,rfl⟩:=ownsRow_succ o;obtain⟨p,R,T,q,U⟩:=hv.appended (by decide) b hB.size (kZ _) o Q;have ae:=p.cell;have af:=p.frozen)
   |gi_in)
  exact⟨q.from _,q.walks,⟨_,R,by rw[IE,kU];exact T,by simp⟩,hB.trans U⟩
 case done =>
  rintro D V W Z aa ⟨⟨v,hv,b,f⟩,hB⟩ d;have J:=hv.cell
  gi_wp2
  refine⟨by simp,.inl ⟨_,_,rfl,run_takeDeferred d,?_⟩⟩
  exact⟨_,results_tmp rfl _ _ _,v,V,rfl,aa,ownsRow_putObj b _ d rfl,f,hB.trans (belowK_b (w:=w) (kZ _) W D _ _ (by simp at Z;omega) d rfl rfl)⟩
 case stop =>
  rintro D c Mf W _ _ h _;exact h.elim
theorem Ug (lb:Array Value)(S:List Row→Prop)(N:Nat)(c:N*104≤140737488355328)(w:World)(d:SeqStopsK Fence.wide 9 Tryz.prog 119 lb NX KeepsWalks S (fun _=>True) N w) :
 Calls Tryz.prog 117 #[.func (.func 119) #[] lb] w fun e a=>∃v xs,e=.returned v∧S xs∧a.ownsRow w.heap.size 154 37 v xs.length (Le xs)∧(v=.slice none 0 0↔xs=[])∧Below w.heap.size w a:=by
 have b:=callsIn_wide.1 (AG Fence.wide 10 trivial trivial rfl (by omega) lb S N c w d)
 have f:=Ad b;clear b
 go_enter Tryz.func117,Tryz.ntmps117
 go_wp2_with fail;refine f.o.mono ?_;rintro e k ⟨v,xs,rfl,g,h,i,j⟩;go_wp2_with fail;go_ret
 exact⟨v,xs,rfl,g,h,i,j⟩
end Go.Proofs.YtdinjjmcmfjbfaaGreatDoor
namespace Go.Proofs
open Go.Shelf
def Tryz.DO:Go.Shelf.Ren:=⟨fun|6=>118|15=>154|14=>153|28=>188|29=>189|20=>180|21=>181|22=>182|23=>183|24=>184|25=>185|26=>186|27=>187|46=>205|47=>206|48=>207|49=>208|50=>209|57=>222|n=>n,fun|22=>150|24=>154|25=>158|3=>3|39=>290|0=>0|53=>315|55=>300|4=>4|46=>322|45=>321|50=>147|5=>5|9=>9|66=>343|70=>313|76=>361|77=>192|n=>n,fun|n=>n⟩
theorem Tryz.AH:Go.Proofs.SlLaysF0.n6 Tryz.prog Tryz.DO:={
 mixed:=by kernel_rfl
 f6:=⟨Tryz.f118.name,by decide,Tryz.func118.trans (congrArg some (by kernel_rfl))⟩
 f14:=⟨Tryz.f153.name,by decide,Tryz.func153.trans (congrArg some (by kernel_rfl))⟩
 f15:=Tryz.func154.trans (congrArg some (by kernel_rfl))
 f20:=⟨Tryz.f180.name,by decide,Tryz.func180.trans (congrArg some (by kernel_rfl))⟩
 f21:=⟨Tryz.f181.name,by decide,Tryz.func181.trans (congrArg some (by kernel_rfl))⟩
 f22:=⟨Tryz.f182.name,by decide,Tryz.func182.trans (congrArg some (by kernel_rfl))⟩
 f23:=⟨Tryz.f183.name,by decide,Tryz.func183.trans (congrArg some (by kernel_rfl))⟩
 f24:=⟨Tryz.f184.name,by decide,Tryz.func184.trans (congrArg some (by kernel_rfl))⟩
 f25:=⟨Tryz.f185.name,by decide,Tryz.func185.trans (congrArg some (by kernel_rfl))⟩
 f26:=⟨Tryz.f186.name,by decide,Tryz.func186.trans (congrArg some (by kernel_rfl))⟩
 f27:=⟨Tryz.f187.name,by decide,Tryz.func187.trans (congrArg some (by kernel_rfl))⟩
 f28:=Tryz.func188.trans (congrArg some (by kernel_rfl))
 f29:=Tryz.func189.trans (congrArg some (by kernel_rfl))
 f46:=⟨Tryz.f205.name,by decide,Tryz.func205.trans (congrArg some (by kernel_rfl))⟩
 f47:=Tryz.func206.trans (congrArg some (by kernel_rfl))
 f48:=Tryz.func207.trans (congrArg some (by kernel_rfl))
 f49:=⟨Tryz.f208.name,by decide,Tryz.func208.trans (congrArg some (by kernel_rfl))⟩
 f50:=⟨Tryz.f209.name,by decide,Tryz.func209.trans (congrArg some (by kernel_rfl))⟩
 f57:=⟨Tryz.f222.name,by decide,Tryz.func222.trans (congrArg some (by kernel_rfl))⟩
 t0:=Tryz.underlying0
 a0:=Tryz.isAgg0
 z0:=Tryz.sizeOf0
 v0:=Tryz.zeroValue0
 t3:=Tryz.underlying3
 a3:=Tryz.isAgg3
 z3:=Tryz.sizeOf3
 v3:=Tryz.zeroValue3
 t4:=Tryz.underlying4
 a4:=Tryz.isAgg4
 z4:=Tryz.sizeOf4
 v4:=Tryz.zeroValue4
 t5:=Tryz.underlying5
 a5:=Tryz.isAgg5
 z5:=Tryz.sizeOf5
 v5:=Tryz.zeroValue5
 t9:=Tryz.underlying9
 a9:=Tryz.isAgg9
 z9:=Tryz.sizeOf9
 v9:=Tryz.zeroValue9
 t22:=Tryz.underlying150
 a22:=Tryz.isAgg150
 z22:=Tryz.sizeOf150
 v22:=Tryz.zeroValue150
 t25:=Tryz.underlying158
 a25:=Tryz.isAgg158
 z25:=Tryz.sizeOf158
 v25:=Tryz.zeroValue158
 t39:=Tryz.underlying290
 a39:=Tryz.isAgg290
 z39:=Tryz.sizeOf290
 v39:=Tryz.zeroValue290
 t45:=Tryz.underlying321
 a45:=Tryz.isAgg321
 z45:=Tryz.sizeOf321
 v45:=Tryz.zeroValue321
 t46:=Tryz.underlying322
 a46:=Tryz.isAgg322
 z46:=Tryz.sizeOf322
 v46:=Tryz.zeroValue322
 t50:=Tryz.underlying147
 a50:=Tryz.isAgg147
 z50:=Tryz.sizeOf147
 v50:=Tryz.zeroValue147
 t53:=Tryz.underlying315
 a53:=Tryz.isAgg315
 z53:=Tryz.sizeOf315
 v53:=Tryz.zeroValue315
 t55:=Tryz.underlying300
 a55:=Tryz.isAgg300
 z55:=Tryz.sizeOf300
 v55:=Tryz.zeroValue300
 t66:=Tryz.underlying343
 a66:=Tryz.isAgg343
 z66:=Tryz.sizeOf343
 v66:=Tryz.zeroValue343
 t70:=Tryz.underlying313
 a70:=Tryz.isAgg313
 z70:=Tryz.sizeOf313
 v70:=Tryz.zeroValue313
 t76:=Tryz.underlying361
 a76:=Tryz.isAgg361
 z76:=Tryz.sizeOf361
 v76:=Tryz.zeroValue361
 t77:=Tryz.underlying192
 a77:=Tryz.isAgg192
 z77:=Tryz.sizeOf192
 v77:=Tryz.zeroValue192 }
end Go.Proofs
