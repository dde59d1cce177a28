import Derived.Test.YtdinjjmcmfjbfaaGreatDoorCxJ
import Derived.Shelf.Abstract
import Derived.RangeFuncNested
import Derived.RangeFuncBound
import Derived.RangeFuncCalls
import Derived.RangeFuncLeaves
import Derived.RangeFuncBox
import Derived.Shelf.RegionOpen
import Derived.OwnWalkIn
import Derived.TacticsInMore
import Derived.LoopNIn
import Derived.LoopIn
import Derived.Maps.AppendAt
import Derived.Sort.MapsRangeIn
import Derived.Shelf.SlSortCmp.NoneTotal
import Derived.Shelf.SlGeneric
import Derived.Ground.SlsfProg
set_option maxRecDepth 100000
set_option maxHeartbeats 4000000
namespace Go.Proofs.YtdinjjmcmfjbfaaGreatDoor
open Go.RowKit Go.Shelf Mo Pl Tryz
open Go.Maps (Keyed)
theorem bI (v:V):((A2 v).toArray).all (·.oneCell')=true:=by
 rw[wQ];intro x b;have a:x∈A2 v:=by simpa using b
 simp only[A2,uP,List.not_mem_nil,or_false] at a;rcases a with h|h|h|h|h|h <;> subst h <;> rfl
section
variable {ops:Array Oper} {rest:List Oper} {o:Oper} {a:Act} {w:World} {Q:Exit→Act→World→Prop}
theorem Vh (x y:Operand)(ho:o.op=.store 133 x y)(b:o.guard=none)(g:Nat)(c:a.eval x=(C1 g))(v:V)(d:a.eval y=Ex v)(old:Array Value)(e:old.size=6)(hg:C2 w g old 133)
 (h:wpList prog ops Q rest (a.put o.dst undef) (w.setRow g (A2 v).toArray)):wpList prog ops Q (o::rest) a w :=
 wpList_store_row b 133 x y ho g (A2 v).toArray c d 133 old hg (by exact ZW) (by rw[e];rfl) (bI v) h
end
theorem NN (x:Dk)(r:Row)(b:∀c,x=.col c→c<6)(w:World) :
 Calls prog 253 #[.agg (Sh x).toArray,.agg (Ai r)] w fun e w'=>e=.returned (Ex (Iv x r))∧Ab No w w':=by
 cases x with
 |col c =>
  have h:=b c rfl;have o:=Bm c
  have p:(c:Int)<6:=by omega
  clear b;change Calls prog 253 #[.agg #[.bool true,.int .i64 (c:Int),D4,C4,C4,C4,C4,D2],.agg (Ai r)] w fun e w'=>e=.returned (Ex (Aj r c))∧Ab No w w';obtain⟨ob,i⟩:∃ob:Obj,ob=.cells #[.bool true,.int .i64 (c:Int),D4,C4,C4,C4,C4,D2] 135:=⟨_,rfl⟩;obtain⟨d,k⟩:∃d:Obj,d=.cells #[D4,C4,C4,C4,C4,D2] 133:=⟨_,rfl⟩;have l:xR (C2 (((w.alloc (.cells #[.bool true,.int .i64 (c:Int),D4,C4,C4,C4,C4,D2] 135)).alloc (.cells (Ai r) 154)).alloc (.cells #[D4,C4,C4,C4,C4,D2] 133)) (w.heap.size+1) (Ai r) 154):=(Below.heap_alloc _ _ _ (by simp)).trans (heap_alloc2_new _ _ _);have a:xR ((((w.alloc (.cells #[.bool true,.int .i64 (c:Int),D4,C4,C4,C4,C4,D2] 135)).alloc (.cells (Ai r) 154)).alloc (.cells #[D4,C4,C4,C4,C4,D2] 133)).heap[w.heap.size+2]? =some (.cells #[D4,C4,C4,C4,C4,D2] 133 (0,0))):=by have:=heap_alloc_last ((w.alloc (.cells #[.bool true,.int .i64 (c:Int),D4,C4,C4,C4,C4,D2] 135)).alloc (.cells (Ai r) 154)) (.cells #[D4,C4,C4,C4,C4,D2] 133);have e:((w.alloc (.cells #[.bool true,.int .i64 (c:Int),D4,C4,C4,C4,C4,D2] 135)).alloc (.cells (Ai r) 154)).heap.size=w.heap.size+2:=(by simp);rw[e] at this;exact this
  clear i k d ob;go_enter func253,ntmps253;go_wp2_with (first
   |(refine Yf _ rfl rfl (w.heap.size+1) (1+c*6) rfl (Aj r c) (Ih l.o h) ?_)
   |(refine Vh _ _ rfl rfl (w.heap.size+2) rfl (Aj r c) rfl _ rfl a.o ?_)
   |fail)
  (try simp only[Exit.inBlock,Exit.then])
  refine bodyPost_ret (results_cell_row rfl _ _ (w.heap.size+2) 133 (A2 (Aj r c)).toArray (0,0) _ rfl (Cj a.o) underlying133 rfl (by exact ZW)) rfl ?_;exact⟨rfl,Bs ((((Ab.refl No w).alloc _).alloc _).alloc _) (.inl (by omega)) _⟩
 |val v =>
  clear b;change Calls prog 253 #[.agg #[.bool false,.int .i64 0,.int .i32 (kI v),E1 v 0,E1 v 1,E1 v 2,E1 v 3,.int .i64 (nI v)],.agg (Ai r)] w fun e w'=>e=.returned (Ex v)∧Ab No w w';have m:xR (∀j x,(A2 v)[j]? =some x→(((w.alloc (.cells #[.bool false,.int .i64 0,.int .i32 (kI v),E1 v 0,E1 v 1,E1 v 2,E1 v 3,.int .i64 (nI v)] 135)).alloc (.cells (Ai r) 154)).alloc (.cells #[D4,C4,C4,C4,C4,D2] 133)).cell? ⟨w.heap.size,2+j,none⟩=some x):=by
   intro j x f;have n:=(Below.heap_alloc ((w.alloc (.cells #[.bool false,.int .i64 0,.int .i32 (kI v),E1 v 0,E1 v 1,E1 v 2,E1 v 3,.int .i64 (nI v)] 135)).alloc (.cells (Ai r) 154)) (.cells #[D4,C4,C4,C4,C4,D2] 133) w.heap.size (by simp;omega)).trans (heap_alloc2_old _ _ _);rw[Af n];have g:=(tR.1 f).1;rw[Gv] at g
   match j,g with
   |0,_|1,_|2,_|3,_|4,_|5,_=>simpa [A2] using f
  have a:xR ((((w.alloc (.cells #[.bool false,.int .i64 0,.int .i32 (kI v),E1 v 0,E1 v 1,E1 v 2,E1 v 3,.int .i64 (nI v)] 135)).alloc (.cells (Ai r) 154)).alloc (.cells #[D4,C4,C4,C4,C4,D2] 133)).heap[w.heap.size+2]? =some (.cells #[D4,C4,C4,C4,C4,D2] 133 (0,0))):=by have:=heap_alloc_last ((w.alloc (.cells #[.bool false,.int .i64 0,.int .i32 (kI v),E1 v 0,E1 v 1,E1 v 2,E1 v 3,.int .i64 (nI v)] 135)).alloc (.cells (Ai r) 154)) (.cells #[D4,C4,C4,C4,C4,D2] 133);have e:((w.alloc (.cells #[.bool false,.int .i64 0,.int .i32 (kI v),E1 v 0,E1 v 1,E1 v 2,E1 v 3,.int .i64 (nI v)] 135)).alloc (.cells (Ai r) 154)).heap.size=w.heap.size+2:=(by simp);rw[e] at this;exact this
  go_enter func253,ntmps253;go_wp2_with (first
   |(refine Yf _ rfl rfl w.heap.size 2 rfl v m.o ?_)
   |(refine Vh _ _ rfl rfl (w.heap.size+2) rfl v rfl _ rfl a.o ?_)
   |fail)
  (try simp only[Exit.inBlock,Exit.then])
  refine bodyPost_ret (results_cell_row rfl _ _ (w.heap.size+2) 133 (A2 v).toArray (0,0) _ rfl (Cj a.o) underlying133 rfl (by exact ZW)) rfl ?_;exact⟨rfl,Bs ((((Ab.refl No w).alloc _).alloc _).alloc _) (.inl (by omega)) _⟩
def O6 (w:World)(O:Ow)(b g:Nat)(T:Value):Prop:=O g=b+2∧∃cs z,w.heap[g]? =some (.cells cs 143 z)∧cs[0]? =some T
theorem O6.cell {w:World}{O:Ow}{b g:Nat}{T:Value}(h:O6 w O b g T):w.cell? ⟨g,0,none⟩=some T:=by
 obtain⟨_,cs,_,a,c⟩:=h;rw[Af a];exact c
theorem O6.lt {w:World}{O:Ow}{b g:Nat}{T:Value}(h:O6 w O b g T):g<w.heap.size:=by obtain⟨_,cs,_,a,_⟩:=h;exact Aa a
theorem O6.stab {w w':World}{O a:Ow}{b g:Nat}{T:Value}(h:O6 w O b g T)(c:w'.heap[g]? =w.heap[g]?∧a g=O g):O6 w' a b g T:=by
 obtain⟨d,cs,e,f,i⟩:=h;exact⟨c.2.trans d,cs,e,c.1.trans f,i⟩
abbrev Qc (g cap:Nat):Value:=.slice (some ⟨g,0,none⟩) 1 cap
def oN (w:World)(O:Ow):Ow:=fun k=>if k<w.heap.size then O k else 0
theorem Gx {w:World}{O:Ow}{k:Nat}(h:k<w.heap.size):oN w O k=O k:=if_pos h
theorem Yi {w:World}{O:Ow}{k:Nat}(h:w.heap.size≤k):oN w O k=0:=if_neg (by omega)
theorem J9.eqv {ts:List Bool}{d es:Bag}(h:J9 (Ad d) es)(a:Gf ts d):A9 es d:=fun r=>by
 rw[h.cnt a.gR r,a.gU]
theorem Fb.up {A:Nat→Prop}{R R':World→Ow→Bag→Prop}{B d:Bag}{b:Nat}{w w3 w4:World}{O:Ow}{e:Ending}(f:Ab (fun k=>O k=b+2) w w3)(h:Fb A R B w3 (oN w O) e w4)(m:∀c:Ow,(∀k,k<w3.heap.size→c k=oN w O k)→Ab (fun k=>A (oN w O k)) w3 w4→R w4 c B→R' w4 c d) :
 Fb (fun a=>A a∨a=b+2) R' d w O e w4:=by
 obtain⟨n,c,g,j,o⟩:=h;refine⟨n,c,fun k l=>(g k (tU l f.size)).trans (Gx l),?_,m c g j o⟩;exact f.trans j (fun i e=>.inr e) (fun i hi e=>.inl (by rw[Gx hi] at e;exact e))
theorem Fb.sA {A:Nat→Prop}{R R':World→Ow→Bag→Prop}{B f:Bag}{b:Nat}{w w3 w4:World}{O d:Ow}{e:Ending}(hO:∀k,k<w.heap.size→d k=O k)(g:Ab (fun k=>O k=b+2) w w3)(h:Fb A R B w3 d e w4)(n:∀c:Ow,(∀k,k<w3.heap.size→c k=d k)→Ab (fun k=>A (d k)) w3 w4→R w4 c B→R' w4 c f) :
 Fb (fun a=>A a∨a=b+2) R' f w O e w4:=by
 obtain⟨o,c,j,l,p⟩:=h;refine⟨o,c,fun k m=>(j k (tU m g.size)).trans (hO k m),?_,n c j l p⟩;exact g.trans l (fun i e=>.inr e) (fun i hi e=>.inl (by rw[hO i hi] at e;exact e))
theorem Na {o:Oper}{a:Act}{w:World}{K:Act→World→Prop}{Q:Exit→Act→World→Prop}(g x:Operand)(i:o.op=Op.lookup 83 g x false)(v:Value)(l:Bag)(j:a.eval g=v)(h:E6 w v l)(q:Row)(k:Ge q)(m:a.eval x=.agg (Ai q))
 (c:K (a.put o.dst (.int .i64 (wrap64 (cnt l q)))) w):o.wp prog a w K Q:=by
 obtain⟨_,d⟩:=Hk.key k;rcases h with ⟨rfl,rfl⟩|⟨b,rfl,hb⟩
 ·have e:=Maps.look_nil (w:=w) false (Maps.Keyed.of_law Hk.law) underlying83 (M8 w) d;have f:a.eval x=Mj q:=m;have p:wrap64 (cnt [] q)=0:=Cn;rw[p] at c;unfold Oper.wp;simp[execOp,i,j,f,e,Result.andThen];exact c
 obtain⟨_,D,ho,r⟩:=hb;have f:a.eval x=Mj q:=m;obtain⟨s,ps,e,n⟩:=ho.lookup (Maps.Keyed.of_law Hk.law) underlying83 (M8 w) (zd:=.held (.int .i64 0)) (zp:=[]) rfl d;have:s=.int .i64 (wrap64 (cnt l q)):=by rw[r.at k d,Qu] at n;simpa [tok] using (congrArg (fun y=>y.map Prod.fst) n)
 subst this;unfold Oper.wp;simp[execOp,i,j,f,e,Result.andThen];exact c
set_option linter.unusedSimpArgs false
theorem VB (x y:V)(s t:Row):Sx (x::s) (y::t)=if Mk x y=0 then Sx s t else Mk x y:=by
 unfold Sx Ju;simp only[Ef];by_cases h:x=y
 ·subst h;have:Mk x x=0:=(Wz x x).2 rfl;simp[this]
 have a:¬y=x:=fun e=>h e.symm;have hv:¬Mk x y=0:=fun e=>h ((Wz x y).1 e);rw[if_neg hv];simp[h,a,Mk]
theorem VC {a b:Row}{i:Nat}(c:i<a.length)(d:i<b.length):Sx (a.drop i) (b.drop i)=if Mk (Aj a i) (Aj b i)=0 then Sx (a.drop (i+1)) (b.drop (i+1)) else Mk (Aj a i) (Aj b i):=by
 have e1:a[i]=Aj a i:=by have:=Ka c;rw[tT c] at this;simpa using this
 have e2:b[i]=Aj b i:=by have:=Ka d;rw[tT d] at this;simpa using this
 rw[vF c,vF d,VB,e1,e2]
theorem iV {a b:Row}(h:a.map Mo.ty=b.map Mo.ty){i:Nat}(d:i<a.length):Mo.ty (Aj a i)=Mo.ty (Aj b i):=by
 have e:a.length=b.length:=by have:=congrArg List.length h;simpa using this
 have c:=congrArg (fun l=>l[i]?) h;simp only[tX] at c;rw[Ka d,Ka (by omega)] at c;simpa using c
theorem IZ (a b:Row)(s:Ge a)(B:Ge b)(t:a.map Mo.ty=b.map Mo.ty)(w:World) :
 Calls prog 70 #[.agg (Ai a),.agg (Ai b)] w fun e w'=>e=.returned (.int .i64 (Sx a b))∧Gr w w':=by
 have O:a.length=b.length:=by have:=congrArg List.length t;simpa using this
 have P:=s.1;obtain⟨W,j⟩:∃W,(w.alloc (.cells (Ai a) 154)).alloc (.cells (Ai b) 154)=W:=⟨_,rfl⟩;have u:W.heap[w.heap.size]? =some (.cells (Ai a) 154 (0,0)):=by rw[←j];exact heap_alloc2_old _ _ _
 have C:W.heap[w.heap.size+1]? =some (.cells (Ai b) 154 (0,0)):=by rw[←j];exact heap_alloc2_new _ _ _
 have D:xR (Gr w W):=by rw[←j];exact ((Gr.refl w).alloc _).alloc _
 have Q:W.cell? ⟨w.heap.size,0,none⟩=some (.int .i64 (a.length:Int)):=by rw[Af u];exact Ie a
 have R:=Ae s;have T:=Ae B;have U:=Ae t;have l:=Ae u;have m:=Ae C;obtain⟨n,v⟩:∃n,a.length=n:=⟨_,rfl⟩;have x:=Ae v;have E:xR (b.length=n):=by show _=_;omega
 rw[v] at Q P;clear s B t u C O v;go_enter func70,ntmps70;go_wp2_with (first
  |(rw[j])
  |fail)
 go_loopg [9] n (fun k V wr=>∃i:Nat,i+k=n∧V=.int .i64 (i:Int)∧xR (Sx a b=Sx (a.drop i) (b.drop i))∧xR (Gr W wr))
 case atStart=>exact⟨0,by omega,rfl,Ae rfl,Gr.refl _⟩
 obtain⟨i,_,rfl,y,hg⟩:=hrel;cases gk with
 |zero =>
  have X:¬(i:Int)<(n:Int):=by omega
  have f:xR (Sx a b=0):=by show _=_;rw[y.o,wY (by have:=x.o;omega),wY (by have:=E.o;omega)];rfl
  go_wp21;go_ret;exact⟨Bo f.o.symm,D.o.trans hg.o⟩
 |succ k =>
  have X:(i:Int)<(n:Int):=by omega
  have aa:=Bm i
  have ab:(i:Int)<6:=by omega
  have F:i<6:=by omega
  have G:C2 wr w.heap.size (Ai a) 154∧C2 wr (w.heap.size+1) (Ai b) 154:=⟨(hg.o.kept.block _ (Aa l.o) xT).trans l.o,(hg.o.kept.block _ (Aa m.o) xT).trans m.o⟩;have H:=Ae G;have HD:=Ae (VC (a:=a) (b:=b) (i:=i) (by have:=x.o;omega) (by have:=E.o;omega));have o:xR (∀w',Calls prog 120 #[Ex (Aj a i),Ex (Aj b i)] w' fun e Y=>e=.returned (.int .i64 (Mk (Aj a i) (Aj b i)))∧Gr w' Y):=fun w'=>IY _ _ (Fs R.o i) (Fs T.o i) (iV U.o (by have:=x.o;omega)) w';obtain⟨p,z⟩:∃p,Ex (Aj a i)=p:=⟨_,rfl⟩;obtain⟨q,A⟩:∃q,Ex (Aj b i)=q:=⟨_,rfl⟩;have I:xR (∀w':World,C2 w' w.heap.size (Ai a) 154→(loadVar 133 ⟨w.heap.size,1+i*6,none⟩).run prog w'=.ok p w'):=by subst z;exact fun w' h=>Ft (Ih h F)
  have J:xR (∀w':World,C2 w' (w.heap.size+1) (Ai b) 154→(loadVar 133 ⟨w.heap.size+1,1+i*6,none⟩).run prog w'=.ok q w'):=by subst A;exact fun w' h=>Ft (Ih h F)
  rw[z,A] at o;generalize Mk (Aj a i) (Aj b i)=g at o HD;clear G z A;go_wp21;refine wp_region_held_drew (S:=fun w'=>w'.heap[w.heap.size]? =some (.cells (Ai a) 154 (0,0))∧w'.heap[w.heap.size+1]? =some (.cells (Ai b) 154 (0,0))) (by kernel_rfl) H.o (fun c=>?_);refine An 0 (.int .i64 (i:Int)) c ?_;refine An 1 (.pointer (some ⟨w.heap.size,1,none⟩)) c ?_;refine An 2 (.pointer (some ⟨w.heap.size,1+i*6,none⟩)) c ?_;refine Ha 3 (p) 133 (.tmp 14) (w.heap.size) (1+i*6) (fun w h=>I.o w h.1) c ?_
  try simp only[Act.put,Ar,As,Au,Av,Aw,Ax]
  refine An 4 (.int .i64 (i:Int)) c ?_;refine An 5 (.pointer (some ⟨w.heap.size+1,1,none⟩)) c ?_;refine An 6 (.pointer (some ⟨w.heap.size+1,1+i*6,none⟩)) c ?_;refine Ha 7 (q) 133 (.tmp 18) (w.heap.size+1) (1+i*6) (fun w h=>J.o w h.2) c ?_
  try simp only[Act.put,Ar,As,Au,Av,Aw,Ax]
  refine C0 8 (fun K L=>?_);go_simp;go_call o.o _ as e w3 ⟨rfl,M⟩;have r:xR (Gr W w3):=(hg.o.drew).trans M;have N:C2 w3 w.heap.size (Ai a) 154∧C2 w3 (w.heap.size+1) (Ai b) 154:=⟨(r.o.kept.block _ (Aa l.o) xT).trans l.o,(r.o.kept.block _ (Aa m.o) xT).trans m.o⟩;refine L.out _ _ N (fun c=>?_);clear L K M
  refine An 9 (.int .i64 g) c ?_;refine wpAnyH_done (by kernel_rfl) ?_ _;clear c N o I J H
  try simp only[Act.put,Ar,As,Au,Av,Aw,Ax]
  by_cases d:g=0
  ·have Z:(g != 0)=false:=(by simp[d]);have f:xR (Sx a b=Sx (a.drop (i+1)) (b.drop (i+1))):=(by show _=_;rw[y.o,HD.o,if_pos d]);clear d;go_wp21;go_roundg k
   case measure=>omega
   exact⟨i+1,by omega,by go_num,f,r⟩
  have Z:(g != 0)=true:=by simp[d]
  have f:xR (Sx a b=g):=by show _=_;rw[y.o,HD.o,if_neg d]
  clear d;go_wp21;go_ret;exact⟨Bo f.o.symm,D.o.trans r.o⟩
attribute [local go_sem] Oper.semAt_some
section
variable {F:Fence} {nF:Nat} (w:World) {ops:Array Oper} {rest:List Oper} {o:Oper} {a:Act} {Q:Exit→Act→World→Prop} {κ:Type} {K:TypeId} {enc:κ→Value} {ok:κ→Prop} (E:KE K enc ok)
include E
theorem Sz (hg:o.guard=none)(c:Operand)(t e:TypeId)(d:o.op=Op.range t c)(f:prog.underlying t=some (.map K e))(b:Nat)(m:κ→Option Value)(g:a.eval c=.map (some b))(h:B9 K enc ok w b m)
 (i:∀w' cnt,Ti K enc ok w' b w.heap.size m [] cnt→w.grownBy w' none→w'.heap.size=w.heap.size+1→wpListIn F nF prog ops Q rest (a.put o.dst (C1 w.heap.size)) w'):wpListIn F nF prog ops Q (o::rest) a w:=by
 obtain⟨D,ho,j⟩:=h;refine wpListIn_range_own w hg c t d K e (Keyed.of_law E.law) f tok b _ D g ho ?_;intro w' k n p;exact i w' _ ⟨D,_,k,j,⟨wL,fun {v l} _ _=>by cases Maps.has D l <;> simp⟩,by simp⟩ n p
theorem Uf (hg:o.guard=none)(it:Operand)(M:o.op=Op.next it false)(b r:Nat)(m:κ→Option Value)(ps:List (κ×Value))(cnt:Nat)(hit:a.eval it=(C1 r))(h:Ti K enc ok w b r m ps cnt)
 (N:mS m ps→wpListIn F nF prog ops Q rest (a.put o.dst (.tuple #[.bool false])) w)
 (O:∀(k:κ) (v:Value) (w':World) (q:Nat),ok k→m k=some v→(∀t,(k,t)∉ps)→Ti K enc ok w' b r m (ps++[(k,v)]) q→q<cnt→w.grownBy w' (some r)→w'.heap.size=w.heap.size →
   (Instr.entry (C1 r)).run prog w'=.ok (.tuple #[enc k,v]) w'→wpListIn F nF prog ops Q rest (a.put o.dst (.tuple #[.bool true,enc k,v])) w'):wpListIn F nF prog ops Q (o::rest) a w:=by
 obtain⟨D,left,hr,f,i,hv⟩:=h;refine wpListIn_next_ranges w hg it M K (Keyed.of_law E.law) tok (id:Value→Value) id (fun key _ _=>⟨key,rfl⟩) (fun v _ _=>⟨v,rfl⟩) b r _ D left cnt hit hr ?_ ?_
 ·intro _ P;refine N ⟨i.nodup,fun k v=>⟨fun j=>hv _ j,fun j=>?_⟩⟩;have d:=f.dom j;obtain⟨l,A⟩:=E.key d;have u:Maps.has D l=true:=by rw[f.has d A,j];rfl
  obtain⟨p,hp,rfl⟩:=uA.1 ((i.mem d A).2 ⟨u,P _⟩);have:=hv p hp;rw[j] at this;have:v=p.2:=by simpa using this
  subst this;exact hp
 intro R v g y w' q c S T B U V W X Y;have s:Maps.has D g=true:=Maps.has_true_of_atKey B;obtain⟨k,d,Z⟩:=f.all s;obtain rfl:R=enc k:=E.law.inj c Z;have c:keyOf prog K (enc k)=some g:=c;have aa:y=(.held v,[]):=by simpa [tok] using T.symm
 subst aa;have C:m k=some v:=by
  cases G:m k with
  |none=>rw[f.has d c,G] at s;cases s
  |some t=>have u:=f.hit c G .nil;have H:=B .nil;rw[u] at H;simpa using H
 have I:k∉ps.map (·.1):=fun n=>by have:=((i.mem d c).1 n).2;rw[S] at this;cases this
 refine O k v w' q d C (fun t ab=>I (uA.2 ⟨_,ab,rfl⟩)) ⟨D,_,U,f,⟨?_,?_⟩,fun p hp=>?_⟩ V W X Y
 ·rw[uF];exact vP.2 ⟨i.nodup,by simp,fun a ac b J=>by simp at J;subst J;exact fun e=>I (e ▸ ac)⟩
 ·intro x l L n;by_cases e:x=k
  ·subst e;have e1:l=g:=(by have:=n.symm.trans c;simpa using this);subst e1;simp[s,WideAt.sameKey_self ((Keyed.of_law E.law).key c)]
  have ad:l≠g:=fun e2=>e (E.inj L d (E.law.inj n (e2 ▸ c)));have z:l.sameKey g=false:=by
   cases z:l.sameKey g
   ·rfl
   exact absurd (WideAt.sameKey_eq z) ad
  rw[uF,tW,i.mem L n];simp[z,e]
 rcases tW.1 hp with hp|hp
 ·exact hv p hp
 simp at hp;subst hp;simpa using C
end
section
variable {κ:Type} {K:TypeId} {enc:κ→Value} {ok:κ→Prop} {w w':World} {b r:Nat} {m:κ→Option Value} {ps:List (κ×Value)} {c:Nat}
theorem Ti.walks (h:Ti K enc ok w b r m ps c)(k:KeepsWalks w w'):Ti K enc ok w' b r m ps c:=by
 obtain⟨D,left,a,d⟩:=h;exact⟨D,left,a.of_walks k,d⟩
theorem Ti.iter_walk (h:Ti K enc ok w b r m ps c):∃o:Obj,w.heap[r]? =some o∧o.isWalk=true:=by
 obtain⟨D,left,a,_⟩:=h;exact a.iter_walk
theorem Ti.left (h:Ti K enc ok w b r m ps c):w.rangeLeft b r=c:=by
 obtain⟨D,left,a,_⟩:=h;exact a.left_eq
theorem Ti.len [DecidableEq κ]{N:Nat}(h:Ti K enc ok w b r m ps c)(a:lU m N):ps.length≤N:=by
 obtain⟨D,left,_,_,d,hv⟩:=h;obtain⟨ks,_,e⟩:=a;have:=Dl d.nodup (fun x f=>by obtain⟨p,hp,rfl⟩:=uA.1 f;exact e _ (by rw[hv p hp];rfl));simp at this;omega
end
abbrev VD (q:Row):Array Value:=#[.agg (Ai q)]
section
variable {F:Fence} {nF:Nat} {w:World} {ops:Array Oper} {rest:List Oper} {o:Oper} {a:Act} {Q:Exit→Act→World→Prop} {r:Row}
theorem Yj (x:Operand)(ho:o.op=.load 154 x)(b:o.guard=none)(g:Nat)(d:a.eval x=(C1 g))(r:Row)(hg:C2 w g (Ai r) 154)
 (h:wpListIn F nF prog ops Q rest (a.put o.dst (.agg (Ai r))) w):wpListIn F nF prog ops Q (o::rest) a w:=by
 refine wpListIn_plain b fun K e=>?_;have hr:=run_loadVar_row w g 154 154 (Ai r) (0,0) _ hg underlying154 rfl (by rw[Bd];exact Cp);unfold Oper.wpIn;refine⟨by simp[Oper.about,ho],?_⟩;rw[Oper.semAt_plain F _ _ (by rw[ho];intro c f;cases f)];simp only[execOp,ho,d,Instr.loadAt,Instr.sureAddr,Sem.run_bind,Sem.run_pure,Result.andThen_ok,hr];exact e _ _ h
theorem Pz (x y:Operand)(ho:o.op=.store 154 x y)(b:o.guard=none)(w0:World)(old:Array Value)(d:w=w0.alloc (.cells old 154))(e:old.size=37)(f:a.eval x=(C1 w0.heap.size))(r:Row)(g:a.eval y=.agg (Ai r))
 (h:wpListIn F nF prog ops Q rest (a.put o.dst undef) (w0.alloc (.cells (Ai r) 154))):wpListIn F nF prog ops Q (o::rest) a w:=by
 subst d;refine wpListIn_plain b fun K i=>?_;have hr:=run_storeVar_row (P:=prog) (w0.alloc (.cells old 154)) w0.heap.size 154 154 old (Ai r) (heap_alloc_last _ _) (by rw[Bd];exact Cp) (by rw[Bd];exact e) (Ht r);rw[World.setRow_alloc_new] at hr;unfold Oper.wpIn;refine⟨by simp[Oper.about,ho],?_⟩;rw[Oper.semAt_plain F _ _ (by rw[ho];intro c j;cases j)];simp only[execOp,ho,f,g,Instr.storeAt,Instr.sureAddr,Sem.run_bind,Sem.run_pure,Result.andThen_ok,hr];exact i _ _ h
theorem JA (b:∀w:World,(Instr.buildSlice 150 1 #[(0,.agg (Ai r))]).run prog w=.ok (.slice (some ⟨w.heap.size,0,none⟩) 1 1) (w.alloc (.cells (Ai r) 154)))(x:Operand)(ho:o.op=.buildSlice 150 1 #[(0,x)])(d:o.guard=none)(e:a.eval x=.agg (Ai r))
 (h:wpListIn F nF prog ops Q rest (a.put o.dst (.slice (some ⟨w.heap.size,0,none⟩) 1 1)) (w.alloc (.cells (Ai r) 154))):wpListIn F nF prog ops Q (o::rest) a w:=by
 refine wpListIn_plain d fun K f=>?_;have hr:=b w;unfold Oper.wpIn;refine⟨by simp[Oper.about,ho],?_⟩;rw[Oper.semAt_plain F _ _ (by rw[ho];intro c g;cases g)];simp only[execOp,ho,List.map_toArray,uT,List.map_nil,e,Sem.run_bind,Result.andThen_ok,hr];exact f _ _ h
theorem Ta (hg:o.guard=none)(it:Operand)(d:o.op=Op.next it false)(b r:Nat)(m:Row→Option Value)(ps:List (Row×Value))(cnt:Nat)(hit:a.eval it=(C1 r))(h:Ti 154 Mj Ge w b r m ps cnt)
 (e:mS m ps→wpListIn F nF prog ops Q rest (a.put o.dst (.tuple #[.bool false])) w)
 (f:∀(k:Row) (v:Value) (w':World) (c:Nat),Ge k→m k=some v→Ti 154 Mj Ge w' b r m (ps++[(k,v)]) c→c<cnt→w.grownBy w' (some r)→w'.heap.size=w.heap.size →
   (Instr.entry (C1 r)).run prog w'=.ok (.tuple #[.agg (Ai k),v]) w'→wpListIn F nF prog ops Q rest (a.put o.dst (.tuple #[.bool true,.agg (Ai k),v])) w'):wpListIn F nF prog ops Q (o::rest) a w :=
 Uf w Hk hg it d b r m ps cnt hit h e fun k v w' g i j _ l n p q s=>f k v w' g i j l n p q s
end
theorem bJ (F:Fence)(n:Nat)(z:F.fn 119)(A:F.round=none)(_:1≤n)(l j b N:Nat)(m:Row→Option Value)(B:lU m N)(a k:List Row→World→Prop)
 (C:∀Ob x W,a Ob W→Ob.length<N→YieldAt F (n-1) prog l (VD x) W fun e f=>(e=.returned (.bool true)∧a (Ob++[x]) f∧KeepsWalks W f)∨(e=.returned (.bool false)∧k (Ob++[x]) f))
 (W:World) (h:AbidesFrom W.heap.size a) (_:C3 W j 0 (.map (some b))) (D:B9 154 Mj Ge W b m) (E:a [] W) :
 CallsIn F n prog 119 #[.func (.yield l) #[] #[],C1 j] W fun e f=>(∃v,e=.returned v) ∧
  ((∃xs:List Row,xs.Nodup∧(∀q,q∈xs↔(m q).isSome=true)∧a xs f)∨(∃Ob:List Row,True∧k Ob f)):=by
 refine callsIn_of_wp func119 rfl z ?_ A;simp only[ntmps119,List.size_toArray,uO,vI,Nat.reduceAdd,Nat.reduceSub,Array.replicate_succ,Array.replicate_zero,List.push_toArray,List.append_toArray,vJ,List.cons_append]
 gi_wp2_with (first
  |(gi_at_range;refine Sz _ Hk rfl _ 83 2 rfl underlying83 b m rfl D ?_;intro w0 G H I T)
  |gi_in)
 go_frame
 gi_loopw [6] (fun _ wr=>∃(c:Nat) (ps:List (Row×Value)),Ti 154 Mj Ge wr b W.heap.size m ps c∧a (ps.map (·.1)) wr)
  (fun _ wr=>wr.rangeLeft b W.heap.size)
 case atStart=>exact⟨G,[],H,h [] W w0 none E I (fun r e=>by cases e)⟩
 obtain⟨c,ps,i,o⟩:=hrel
 gi_wp2_with (first
  |(gi_at_next;refine Ta rfl _ rfl b W.heap.size m _ c rfl i ?_ ?_)
  |gi_in)
 ·intro hf
  gi_wp2
  go_end0;exact⟨⟨_,rfl⟩,.inl ⟨ps.map (·.1),hf.1,fun q=>⟨fun g=>by obtain⟨e,J,rfl⟩:=uA.1 g;rw[(hf.2 e.1 e.2).1 J];rfl,fun g=>by obtain⟨v,hv⟩:=Option.isSome_iff_exists.1 g;exact uA.2 ⟨_,(hf.2 q v).2 hv,rfl⟩⟩,o⟩⟩
 intro q v d c2 g hv p K L M U;have s:=p.len B;simp only[tS,uO,vI] at s;have t:a (ps.map (·.1)) d:=h _ wr d (some W.heap.size) o L (fun r e=>by cases e;exact⟨tY _,i.iter_walk⟩);have u:a (ps.map (·.1)) (d.alloc (.cells (Ai q) 154)):=h _ d _ none t (World.grownBy_alloc d _ none) (fun r e=>by cases e);obtain⟨_,tmps,_,_,O,P⟩:=C (ps.map (·.1)) q _ u (by simp;omega);dsimp only[VD] at O;clear M s t u hv
 gi_wp2_with (first
  |(refine Pz _ _ rfl rfl d _ rfl rfl rfl q rfl ?_)
  |(refine Yj _ rfl rfl d.heap.size rfl q (heap_alloc_last d _) ?_)
  |gi_in)
 refine P.mono ?_;rintro e w (⟨rfl,Q,R⟩|⟨rfl,hJx4⟩)
 ·have y:Ti 154 Mj Ge w b W.heap.size m (ps++[(q,v)]) c2:=(p.walks (KeepsWalks.alloc _ _)).walks R;have S:a ((ps++[(q,v)]).map (·.1)) w:=by rw[uF];exact Q
  gi_wp2
  go_roundw
  case rel=>exact⟨c2,_,y,S⟩
  rw[y.left,i.left];exact K
 gi_wp2
 refine bodyPost_ret (results_none rfl _ _ _) rfl ?_;exact⟨⟨_,rfl⟩,.inr ⟨_,trivial,hJx4⟩⟩
def BH (m:Row→Option Value)(xs:List Row):Prop:=xs.Nodup∧∀q,q∈xs↔(m q).isSome=true
theorem NO (F:Fence)(n:Nat)(g:F.fn 119)(h:F.round=none)(i:1≤n)(d b N:Nat)(m:Row→Option Value)(j:lU m N)(w:World)(k:d<w.heap.size)
 (o:C3 w d 0 (.map (some b))) (e:B9 154 Mj Ge w b m) :
 SeqStopsK F n prog 119 #[C1 d] VD KeepsWalks (BH m) (fun _=>True) N w:=fun l q r W f s _ t u =>
 (bJ F n g h i l d b N m j q r t W s ((f.cell (p:=⟨d,0,none⟩) k).trans o) (e.A6 (f.block b e.lt)) u).mono fun _ _ ⟨v,x⟩=>⟨v,x.imp (fun ⟨xs,a,b,c⟩=>⟨xs,⟨a,b⟩,c⟩) id⟩
theorem JB (a:Option Nat)(w:World):Calls prog 69 #[.map a] w fun e w'=>e=.returned (.func (.func 119) #[] #[C1 w.heap.size])∧w'=w.alloc (.cells #[.map a] 83):=by
 go_enter func69,ntmps69;go_wp2;go_ret;exact⟨rfl,rfl⟩
def Mu (xs:List Row):List Value:=xs.flatMap fun q=>(Ai q).toList
theorem NP (xs:List Row)(x:Row):Mu (xs++[x])=Mu xs++(Ai x).toList:=by simp[Mu]
theorem Lt (q:Row):(Ai q).toList.length=37:=by simp[Bd]
theorem nH:(prog.info? 154).map (fun i=>(i.zero,i.size,i.bytes))=some (some (.agg (Ai [])),37,104):=by kernel_rfl
theorem VE (r:Row)(w:World):(Instr.buildSlice 150 1 #[(0,.agg (Ai r))]).run prog w=.ok (.slice (some ⟨w.heap.size,0,none⟩) 1 1) (w.alloc (.cells (Ai r) 154)):=by kernel_rfl
def NQ (W:World)(B:Nat)(r:Row):Prop:=W.heap[B]? =some (.cells (Ai r) 154 (0,0))
theorem NQ.lt {W:World}{B:Nat}{r:Row}(h:NQ W B r):B<W.heap.size:=Aa h
theorem NQ.new (W:World)(r:Row):NQ (W.alloc (.cells (Ai r) 154)) W.heap.size r:=World.alloc_heap_new W _
theorem bK {β:Type}(B:Nat)(r:Row):Own (fun (_:β) W=>NQ W B r):=fun _ X _ _ a hg b =>
 (hg.block B a.lt (fun c=>by obtain⟨o,ho,d⟩:=b B c.symm;rw[show X.heap[B]? =_ from a] at ho;cases ho;cases d)).trans a
theorem bL (k a:Nat)(N:Nat):OwnFrom N (fun (Ob:List Row) W=>∃v,Boxed W a 150 v∧W.ownsRow a 154 k v Ob.length (Mu Ob)∧(v=.slice none 0 0↔Ob=[])) :=
 Own.from (holdsRow_own a a 150 154 k (fun Ob=>Ob.length) (fun Ob=>Mu Ob) (fun Ob v=>v=.slice none 0 0↔Ob=[])) _
theorem iW (w:World):OwnFrom (w.alloc (.cells #[.slice none 0 0] 150)).heap.size (fun (Ob:List Row) W=>(∃v,Boxed W w.heap.size 150 v∧W.ownsRow w.heap.size 154 37 v Ob.length (Mu Ob)∧(v=.slice none 0 0↔Ob=[]))∧Below w.heap.size w W) :=
 OwnFrom.and (bL 37 w.heap.size _) (ownFrom_below (tY _) (by simp))
theorem EF (F:Fence)(n:Nat)(s:F.fn 152)(u:F.fn 119)(j:F.round=none)(_:3≤n)(lb:Array Value)(S:List Row→Prop)(N:Nat)(_:N*104≤140737488355328)(w:World)
 (y:SeqStopsK F (n-1) prog 119 lb VD KeepsWalks S (fun _=>True) N w) :
 CallsIn F n prog 152 #[.slice none 0 0,.func (.func 119) #[] lb] w fun e k =>
  ∃v xs,e=.returned v∧S xs∧k.ownsRow w.heap.size 154 37 v xs.length (Mu xs)∧(v=.slice none 0 0↔xs=[])∧Below w.heap.size w k:=by
 have g:1≤n:=by omega
 obtain⟨z,hi,A,B,C⟩:=info_parts nH;refine callsIn_of_wp_marks func152 rfl s ?_ j;simp only[ntmps152,List.size_toArray,uO,vI,Nat.reduceAdd,Nat.reduceSub,Array.replicate_succ,Array.replicate_zero,List.push_toArray,List.append_toArray,vJ,List.cons_append]
 gi_wp2
 have E:=Boxed.new w 150 (.slice none 0 0);have m:Below w.heap.size w (w.alloc (.cells #[.slice none 0 0] 150)):=(Below.refl _ w).alloc (tY _) _
 refine wpIn_rangeFunc_ownH j g (gf:=119) (lb:=lb) rfl u (enters_of func119 (by kernel_rfl) rfl)
  y walksK_t walksK_b m (fun _=>rfl)
  (fun Ob W=>(∃v,Boxed W w.heap.size 150 v∧W.ownsRow w.heap.size 154 37 v Ob.length (Mu Ob)∧(v=.slice none 0 0↔Ob=[]))∧Below w.heap.size w W)
  (fun _ _ _=>False)
  (iW w)
  (fun _ _ _ _ _ i _ _=>i)
  ⟨⟨_,E,World.ownsRow_nil _ _ _ _,by simp⟩,m⟩
  (fun x a' W=>∃a,w.heap.size<a∧NQ W a x∧a'={ tmps:=#[.slice none 0 0,.func (.func 119) #[] lb,C1 w.heap.size,undef,.slice none 0 0,C1 a,.func (.func 119) #[] lb,.agg (Ai x),undef,undef,undef,undef,undef],defers:=[] })
  (fun x a' _ X Y row i hg hr=>by obtain⟨a,g,G,H⟩:=i;exact⟨a,g,bK a x () X Y row G hg (fun r e=>(hr r e).2),H⟩)
  ?assign ?body ?done ?stop
 case assign =>
  rintro l Ob x W K ⟨⟨v,hv,b,f⟩,hB⟩ d
  gi_wp2_with (first
   |(refine Pz _ _ rfl rfl W _ rfl rfl rfl x rfl ?_)
   |gi_in)
  exact d _ _ ((KeepsOthers.alloc _ _).from _) (KeepsWalks.alloc _ _) ⟨⟨v,hv.alloc _,b.alloc _,f⟩,hB.alloc hB.size _⟩ ⟨W.heap.size,hv.lt,NQ.new W _,rfl⟩
 case body =>
  rintro l Ob x a' W ab ⟨r,hr⟩ ⟨⟨v,hv,b,f⟩,hB⟩ ⟨a,_,I,rfl⟩ ac;have J:=hv.cell;have L:=World.news_of_block (cs:=Ai x) (t:=154) (fr:=(0,0)) (heap_alloc_last W _);have M:Ob.length+1≤maxLen:=by unfold maxLen;omega
  gi_wp2_with (first
   |(refine Yj _ rfl rfl a rfl x I ?_)
   |(refine JA (VE x) _ rfl rfl rfl ?_)
   |(gi_at_builtin;refine wpListIn_append_own _ rfl _ _ 150 rfl w.heap.size 154 z (.agg (Ai [])) 37 104 underlying150 hi A B C rfl (by decide) _ _ _ rfl (b.alloc _) ⟨W.heap.size,0,none⟩ 1 1 (Ai x).toList rfl (Lt x) L (fun O P=>by have:=Ht x;rw[wQ] at this;exact this O (by simpa using P)) M (by omega) (by have:=hB.size;simp;omega) ?_;intro v' w1 o Q _;obtain⟨_,_,rfl⟩:=ownsRow_succ o;obtain⟨p,R,T,q,U⟩:=hv.appended (by decide) b hB.size (tY _) o Q;have ad:=p.cell;have ae:=p.frozen)
   |gi_in)
  exact⟨q.from _,q.walks,⟨_,R,by rw[NP,tS];exact T,by simp⟩,hB.trans U⟩
 case done =>
  rintro D V W Z aa ⟨⟨v,hv,b,f⟩,hB⟩ d;have J:=hv.cell
  gi_wp2
  refine⟨by simp,.inl ⟨_,_,rfl,run_takeDeferred d,?_⟩⟩;exact⟨_,results_tmp rfl _ _ _,v,V,rfl,aa,ownsRow_putObj b _ d rfl,f,hB.trans (belowK_b (w:=w) (tY _) W D _ _ (by simp at Z;omega) d rfl rfl)⟩
 rintro D c Ob W _ _ h _;exact h.elim
theorem V6 (lb:Array Value)(S:List Row→Prop)(N:Nat)(c:N*104≤140737488355328)(w:World)(d:SeqStopsK Fence.wide 9 prog 119 lb VD KeepsWalks S (fun _=>True) N w) :
 Calls prog 117 #[.func (.func 119) #[] lb] w fun e a=>∃v xs,e=.returned v∧S xs∧a.ownsRow w.heap.size 154 37 v xs.length (Mu xs)∧(v=.slice none 0 0↔xs=[])∧Below w.heap.size w a:=by
 have b:=callsIn_wide.1 (EF Fence.wide 10 trivial trivial rfl (by omega) lb S N c w d);have f:=Ae b;clear b;go_enter func117,ntmps117;go_wp21;go_call f.o as e w1 ⟨v,xs,rfl,g,h,i,j⟩;go_wp21;go_ret;exact⟨v,xs,rfl,g,h,i,j⟩
end Go.Proofs.YtdinjjmcmfjbfaaGreatDoor
namespace Go.Proofs
open Tryz
open Go.Shelf
theorem xTg{α:Type}{a:Option α}{b c:α}(h:a=some b)(e:b=c:=by kernel_rfl):a=some c:=h.trans (congrArg some e)
def Tryz.JC:Go.Shelf.Ren:=⟨fun|6=>118|15=>154|14=>153|28=>188|29=>189|20=>180|21=>181|22=>182|23=>183|24=>184|25=>185|26=>186|27=>187|46=>205|47=>206|48=>207|49=>208|50=>209|57=>222|n=>n,fun|22=>150|24=>154|25=>158|3=>3|39=>290|0=>0|53=>315|55=>300|4=>4|46=>322|45=>321|50=>147|5=>5|9=>9|66=>343|70=>313|76=>361|77=>192|n=>n,fun|n=>n⟩
theorem Tryz.EG:Go.Proofs.SlLaysF0.n6 prog Tryz.JC:=⟨by kernel_rfl,⟨Tryz.f118.name,by decide,xTg func118⟩,⟨Tryz.f153.name,by decide,xTg func153⟩,xTg func154,⟨Tryz.f180.name,by decide,xTg func180⟩,⟨Tryz.f181.name,by decide,xTg func181⟩,⟨Tryz.f182.name,by decide,xTg func182⟩,⟨Tryz.f183.name,by decide,xTg func183⟩,⟨Tryz.f184.name,by decide,xTg func184⟩,⟨Tryz.f185.name,by decide,xTg func185⟩,⟨Tryz.f186.name,by decide,xTg func186⟩,⟨Tryz.f187.name,by decide,xTg func187⟩,xTg func188,xTg func189,⟨Tryz.f205.name,by decide,xTg func205⟩,xTg func206,xTg func207,⟨Tryz.f208.name,by decide,xTg func208⟩,⟨Tryz.f209.name,by decide,xTg func209⟩,⟨Tryz.f222.name,by decide,xTg func222⟩,underlying0,isAgg0,sizeOf0,zeroValue0,underlying3,isAgg3,sizeOf3,zeroValue3,underlying4,isAgg4,sizeOf4,zeroValue4,underlying5,isAgg5,sizeOf5,zeroValue5,underlying9,isAgg9,sizeOf9,zeroValue9,underlying150,isAgg150,sizeOf150,zeroValue150,underlying158,isAgg158,sizeOf158,zeroValue158,underlying290,isAgg290,sizeOf290,zeroValue290,underlying321,isAgg321,sizeOf321,zeroValue321,underlying322,isAgg322,sizeOf322,zeroValue322,underlying147,isAgg147,sizeOf147,zeroValue147,underlying315,isAgg315,sizeOf315,zeroValue315,underlying300,isAgg300,sizeOf300,zeroValue300,underlying343,isAgg343,sizeOf343,zeroValue343,underlying313,isAgg313,sizeOf313,zeroValue313,underlying361,isAgg361,sizeOf361,zeroValue361,underlying192,isAgg192,sizeOf192,zeroValue192⟩
end Go.Proofs
