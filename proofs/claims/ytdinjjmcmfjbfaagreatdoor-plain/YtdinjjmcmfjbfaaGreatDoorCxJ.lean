import Derived.Laws.CopyRow
import Derived.Deep.RegionLaw
import Derived.Deep.DrawnRows
import Derived.Deep.MidRow
import Derived.Test.YtdinjjmcmfjbfaaGreatDoorGvJ
import Derived.Lib.BytesEntry
import Derived.Sort.Grow
import Derived.Lib.Bytealg
set_option maxRecDepth 100000
set_option maxHeartbeats 4000000
namespace Go.Proofs.YtdinjjmcmfjbfaaGreatDoor
open Go.RowKit
open Mo (V Row Bag cnt Af Al)
theorem U1:∀(r:Row) (i:Nat) (v:V),r[i]? =some v→∀j x,(Au v)[j]? =some x→(r.flatMap Au)[i*6+j]? =some x
 | [],i,v,h,_,_,_=>by simp at h
 |y::r,0,v,h,j,x,a=>by
  have:y=v:=by simpa using h
  subst this
  rw[mE,nZ,lK,lA (kS.1 a).1];exact a
 |y::r,i+1,v,h,j,x,a=>by
  have b:=U1 r i v (by simpa using h) j x a
  rw[mE,kY (by rw[Gl];omega),Gl,show (i+1)*6+j-6=i*6+j by omega];exact b
theorem U2 (r:Row):(r.flatMap Au).length=r.length*6:=by
 induction r with
 |nil=>rfl
 |cons v r a=>rw[mE,kU,Gl,a,lN];omega
theorem ZS (r:Row):∀v∈r.flatMap Au,v.oneCell'=true:=by
 intro v hv
 obtain⟨x,_,a⟩:=List.mem_flatMap.1 hv
 simp only[Au,lQ,List.not_mem_nil,or_false] at a
 rcases a with h|h|h|h|h|h <;> subst h <;> rfl
def Vx (w:World)(v:Value)(q:Row):Prop:=∃b o cap,v=.slice (some ⟨b,o,none⟩) q.length cap∧b<w.heap.size∧∀i x,q[i]? =some x→∀j y,(Au x)[j]? =some y→w.cell? ⟨b,o+i*6+j,none⟩=some y
theorem Hw.src {w:World}{v:Value}{r:Row}(h:Hw w v r):Vx w v r:=by
 obtain⟨b,o,cap,c,_,e,a,_,d⟩:=h
 exact⟨b,o,cap,e,Aa a,fun i x f j y g=>by rw[Ae a];exact d i x f j y g⟩
theorem Vx.kept {S:Nat→Prop}{w w':World}{v:Value}{q:Row}(h:Vx w v q)(k:Ab S w w')(c:∀b,v.ownBlock=some b→¬S b):Vx w' v q:=by
 obtain⟨b,o,cap,rfl,a,d⟩:=h
 exact⟨b,o,cap,rfl,kV a k.size,fun i x e j y f=>(k.cell a (c b rfl)).trans (d i x e j y f)⟩
theorem Tp {r q:Row}{i:Nat}(h:i<r.length):Al (r++q) i=Al r i:=by
 unfold Al;rw[lI,lI,lA h]
theorem Sa {r q:Row}{i:Nat}(h:r.length≤i):Al (r++q) i=Al q (i-r.length):=by
 unfold Al;rw[lI,lI,kY h]
theorem DE {r:Row}{i:Nat}(h:r.length≤i):Al r i=.num 0:=by
 unfold Al;rw[lI,mD h];rfl
theorem Ke {r:Row}{i:Nat}(h:i<r.length):r[i]? =some (Al r i):=by
 unfold Al;rw[lI,kT h];rfl
theorem NS (r q:Row)(h:r.length+q.length≤6) :
 (((An r).toList.take (1+r.length*6)++q.flatMap Au++(An r).toList.drop (1+r.length*6+(q.flatMap Au).length)).toArray).setIfInBounds 0 (.int .i64 ((r++q).length:Int))=An (r++q):=by
 have a:(An r).toList.length=37:=by rw[Array.length_toList];rfl
 have b:=U2 q
 refine Array.ext_getElem? fun n=>?_
 rw[lX]
 by_cases d:0=n
 ·subst d
  have g:0<((An r).toList.take (1+r.length*6)++q.flatMap Au++(An r).toList.drop (1+r.length*6+(q.flatMap Au).length)).toArray.size:=by
   simp only[List.size_toArray,kU,lV,a];omega
  rw[if_pos rfl,if_pos g];rfl
 ·rw[if_neg d,mL]
  by_cases l:n<37
  ·obtain⟨i,j,hi,c,rfl⟩:∃i j,i<6∧j<6∧n=1+i*6+j:=⟨(n-1) / 6,(n-1) % 6,by omega,by omega,by omega⟩
   rw[R6 (r++q) hi c]
   by_cases k:i<r.length
   ·rw[nE,lA (by rw[lV,a];omega),lM,if_pos (by omega),lU,R6 r hi c,Tp k]
   ·by_cases m:i<r.length+q.length
    ·rw[lA (by rw[kU,lV,a,b];omega),kY (by rw[lV,a];omega),Sa (by omega)]
     have e1:1+i*6+j-(List.take (1+r.length*6) (An r).toList).length=(i-r.length)*6+j:=by rw[lV,a];omega
     rw[e1]
     have e:j<(Au (Al q (i-r.length))).length:=by rw[Gl];exact c
     rw[U1 q (i-r.length) _ (Ke (by omega)) j _ (kT e),kT e]
    ·have f:(List.take (1+r.length*6) (An r).toList++List.flatMap Au q).length=1+r.length*6+q.length*6:=by rw[kU,lV,a,b];omega
     rw[kY (by rw[f];omega),List.getElem?_drop,f,b,show 1+r.length*6+q.length*6+(1+i*6+j-(1+r.length*6+q.length*6))=1+i*6+j by omega,lU,R6 r hi c,DE (r:=r) (by omega),DE (r:=r++q) (by rw[kU];omega)]
  ·rw[mD (by simp only[kU,lV,List.length_drop,a,b];omega),Array.getElem?_eq_none (by rw[Bz];omega)]
theorem LG:(Tryz.prog.info? 133).map (·.size)=some 6:=by kernel_rfl
theorem Xs (w:World)(g o d n:Nat)(b k p:Nat)(q:Row)(c:Array Value)(t:TypeId)(hg:w.heap[g]? =some (.cells c t (0,0)))(r:q.length≤d)
 (s:∀i x,q[i]? =some x→∀j y,(Au x)[j]? =some y→w.cell? ⟨b,k+i*6+j,none⟩=some y) (u:o+q.length*6≤c.size) :
 (Builtin.copy_ #[162,162] 3 #[.slice (some ⟨g,o,none⟩) d n,.slice (some ⟨b,k,none⟩) q.length p]).run Tryz.prog w =
  .ok (goInt q.length) (w.setRow g (c.toList.take o++q.flatMap Au++c.toList.drop (o+(q.flatMap Au).length)).toArray):=by
 have e:=run_loadCells_list (P:=Tryz.prog) w ⟨b,k,none⟩ (q.flatMap Au) (fun j v hv=>by
  have z:=(kS.1 hv).1
  rw[U2] at z
  have a:j / 6<q.length:=by omega
  have f:j % 6<(Au (Al q (j / 6))).length:=by rw[Gl];omega
  have h:=U1 q (j / 6) _ (Ke a) (j % 6) _ (kT f)
  rw[show j / 6*6+j % 6=j by omega,hv] at h
  have A:(⟨b,k,none⟩:Addr).add j=⟨b,k+j,none⟩:=by unfold Addr.add;split <;> simp_all
  have l:=s (j / 6) _ (Ke a) (j % 6) _ (kT f)
  rw[show k+j / 6*6+j % 6=k+j by omega,←h] at l
  rw[A];exact l)
 have m:=run_storeCells_at Tryz.prog g o t (q.flatMap Au) 0 c w hg (by rw[U2];simpa using u) (ZS q)
 rw[U2] at e
 simp only[Nat.add_zero] at m
 have B:Nat.min q.length d=q.length:=Nat.min_eq_left r
 cases a:Tryz.prog.info? 133 with
 |none=>have:=LG;simp[a] at this
 |some i =>
  have hi:i.size=6:=by have:=LG;simpa [a] using this
  simp[Builtin.copy_,run_underlying Tryz.underlying162,Builtin.lenOf,Builtin.firstCells,sizeOf,typeInfo,a,hi,B,e,m]
theorem Qj {P:Program}{w:World}{ops:Array Oper}{o:Oper}{a:Act}{K:Act→World→Prop}{Q:Exit→Act→World→Prop}{E:Prop}(e:o.guard=none)(d s:Operand)(t b:TypeId)
 (ho:o.op=.call { callee:=.builtin .copy,args:=#[d,s],argTypes:=#[t,b] }) (v c:Value) (f:a.eval d=v) (g:a.eval s=c) {v':Value} {w':World}
 (hr:(Builtin.copy_ #[t,b] o.type #[v,c]).run P w=.ok v' w') (h:K (a.put o.dst v') w'):if Region.wanted o (yielded ops a.tmps)=true then Oper.wp P o a w K Q else E:=by
 have i:Region.wanted o (yielded ops a.tmps)=true:=by simp[Region.wanted,e]
 rw[if_pos i]
 unfold Oper.wp execOp
 simp only[ho,resolve,invoke,builtin,Sem.run_bind,Sem.run_pure,Result.andThen_ok,List.map_toArray,lS,List.map_nil,f,g,hr]
 exact h
theorem D8 {w:World}{g:Nat}{b c:Array Value}{t:TypeId}{a:Nat×Nat}(hg:w.heap[g]? =some (.cells b t a)):(w.setRow g c).heap[g]? =some (.cells c t a):=setRow_heap w g b c t a hg
theorem Dq {S:Nat→Prop}{a w:World}(h:Ab S a w){g:Nat}(hg:a.heap.size≤g∨S g)(c:Array Value):Ab S a (w.setRow g c) :=
 ⟨h.os,h.tape,h.output,by simpa [World.setRow] using h.size,fun k d b=>by
  have:g≠k:=by rintro rfl;rcases hg with hg|hg;omega;exact b hg
  refine Eq.trans ?_ (h.block k d b)
  simp[World.setRow,Array.getElem?_modify,this]⟩
theorem AB (r q:Row)(v:Value)(w:World)(O:Vx w v q)(_:1≤q.length)(P:r.length+q.length≤6) :
 Calls Tryz.prog 80 #[.agg (An r),v] w fun e w'=>e=.returned (.agg (An (r++q)))∧Ab No w w':=by
 obtain⟨b,o,cap,rfl,Q,A⟩:=O
 go_enter Tryz.func80,Tryz.ntmps80
 go_wp2_with fail
 obtain⟨a,f⟩:∃a,((w.alloc (.cells (An r) 154)).alloc (.cells #[.int .i64 0,.int .i32 0,.int .u8 0,.int .u8 0,.int .u8 0,.int .u8 0,.int .i64 0,.int .i32 0,.int .u8 0,.int .u8 0,.int .u8 0,.int .u8 0,.int .i64 0,.int .i32 0,.int .u8 0,.int .u8 0,.int .u8 0,.int .u8 0,.int .i64 0,.int .i32 0,.int .u8 0,.int .u8 0,.int .u8 0,.int .u8 0,.int .i64 0,.int .i32 0,.int .u8 0,.int .u8 0,.int .u8 0,.int .u8 0,.int .i64 0,.int .i32 0,.int .u8 0,.int .u8 0,.int .u8 0,.int .u8 0,.int .i64 0] 154))=a:=⟨_,rfl⟩
 rw[f]
 have u:Ab No w a:=by rw[←f];exact ((Ab.refl No w).alloc _).alloc _
 have m:a.heap[w.heap.size]? =some (.cells (An r) 154 (0,0)):=by rw[←f];exact heap_alloc2_old _ _ _
 have h:∃c,a.heap[w.heap.size+1]? =some (.cells c 154 (0,0))∧c.size=37:=by rw[←f];exact⟨_,heap_alloc2_new _ _ _,rfl⟩
 obtain⟨c1,h,R⟩:=h
 have B:∀i x,q[i]? =some x→∀j y,(Au x)[j]? =some y→a.drew.cell? ⟨b,o+i*6+j,none⟩=some y:=fun i x S j y T=>(u.cell Q oI).trans (A i x S j y T)
 have n:=Xs a.drew w.heap.size (1+r.length*6) (6-r.length) (6-r.length) b o cap q (An r) 154 m (by omega) B (by rw[Bz];omega)
 obtain⟨X,p⟩:∃X,((An r).toList.take (1+r.length*6)++q.flatMap Au++(An r).toList.drop (1+r.length*6+(q.flatMap Au).length)).toArray=X:=⟨_,rfl⟩
 rw[p] at n
 have C:X[0]? =some (.int .i64 (r.length:Int)):=by
  rw[←p,mL,nE,lA (by rw[lV,show (An r).toList.length=37 from rfl];omega),lM,if_pos (by omega),lU];exact Qw r
 have D:X.setIfInBounds 0 (.int .i64 ((r.length:Int)+(q.length:Int)))=An (r++q):=by
  have:=NS r q P
  rw[p,kU] at this
  simpa using this
 obtain⟨d,s⟩:∃d,a.drew.setRow w.heap.size X=d:=⟨_,rfl⟩
 rw[s] at n
 have t:d.heap[w.heap.size]? =some (.cells X 154 (0,0)):=by rw[←s];exact D8 m
 have z:Ab (·=w.heap.size) a d:=by rw[←s];exact Dq ((Ab.refl (·=w.heap.size) a).drew) (g:=w.heap.size) (.inr rfl) X
 have E:d.heap[w.heap.size+1]? =some (.cells c1 154 (0,0)):=(z.block _ (Aa h) (by omega)).trans h
 have U:a.cell? ⟨w.heap.size,0,none⟩=some (.int .i64 (r.length:Int)):=by rw[Ae m];exact Qw r
 have V:d.cell? ⟨w.heap.size,0,none⟩=some (.int .i64 (r.length:Int)):=by rw[Ae t];exact C
 have W:d.frozen? ⟨w.heap.size,0,none⟩=false:=Aj t _
 have ab:(0:Int)≤(r.length:Int):=by omega
 have ac:(r.length:Int)≤6:=by omega
 have ad:¬6=r.length:=by omega
 have Y:IntKind.i64.wrap ((r.length:Int)+(q.length:Int))=(r.length:Int)+(q.length:Int):=IntWalk.i64_in _ (by omega)
 have F:=Ad n;have G:=Ad t;have H:=Ad E;have I:=Ad D
 have J:oH (Ab No w d):=u.trans z (fun _ e=>e) (fun i hi e=>by omega)
 clear n A B p C D s t z E m h u f
 go_region_law
  ((refine Qj (by rfl) _ _ _ _ (by rfl) _ _ (by rfl) (by rfl) F.o ?_))
 all_goals
  try rw[Y]
  obtain⟨k,l⟩:∃k,d.setCell ⟨w.heap.size,0,none⟩ (.int .i64 ((r.length:Int)+(q.length:Int)))=k:=⟨_,rfl⟩
  rw[l]
  have K:k.heap[w.heap.size]? =some (.cells (An (r++q)) 154 (0,0)):=by rw[←l,Ap G.o,I.o]
  have L:Ab No w k:=by rw[←l];exact J.o.setCell (.inl (kZ _)) _
  have M:k.heap[w.heap.size+1]? =some (.cells c1 154 (0,0)):=by rw[←l];exact (Below.heap_setCell _ _ _ _ (by show w.heap.size+1≠w.heap.size;omega)).trans H.o
  have Z:=Ad K;have aa:=Ad L;have N:=Ad M;clear K L M l U V W F G H I J
  go_wp2_with (first
   |(refine D7 _ rfl rfl w.heap.size rfl (r++q) Z.o ?_)
   |(refine To _ _ rfl rfl (w.heap.size+1) rfl (r++q) rfl c1 R N.o ?_)
   |fail)
  (try simp only[Exit.inBlock,Exit.then])
  refine bodyPost_ret (results_cell_row rfl _ _ (w.heap.size+1) 154 (An (r++q)) (0,0) _ rfl (D8 N.o) Tryz.underlying154 rfl (by rw[Bz];exact F3)) rfl ?_
  exact⟨rfl,Dq aa.o (.inl (by omega)) _⟩
theorem DF {ops:Array Oper}{S:World→Prop}{op:Oper}{a:Act}(b:Region.wanted op (yielded ops a.tmps)=true)(t:TypeId)(x:Operand)(ho:op.op=.load t x)(g k:Nat)(c:a.eval x=.pointer (some ⟨g,k,none⟩))(v:Value)
 (d:∀w:World,w.cell? ⟨g,k,none⟩=some v→(loadVar t ⟨g,k,none⟩).run Tryz.prog w=.ok v w) (e:∀w,S w→w.cell? ⟨g,k,none⟩=some v):YieldsIf Tryz.prog ops S op v a :=
 .inl ⟨b,fun w f=>by
  unfold execOp
  simp only[ho,c,Instr.loadAt,Instr.sureAddr,Sem.run_bind,Sem.run_pure,Result.andThen_ok,d w (e w f)]⟩
theorem DG {ops:Array Oper}{S:World→Prop}{op:Oper}{a:Act}(b:Region.wanted op (yielded ops a.tmps)=true)(t:TypeId)(x:Operand)(ho:op.op=.load t x)(g k:Nat)(c:a.eval x=.pointer (some ⟨g,k,none⟩))(v:Value)
 (d:∀w,S w→(loadVar t ⟨g,k,none⟩).run Tryz.prog w=.ok v w):YieldsIf Tryz.prog ops S op v a :=
 .inl ⟨b,fun w e=>by
  unfold execOp
  simp only[ho,c,Instr.loadAt,Instr.sureAddr,Sem.run_bind,Sem.run_pure,Result.andThen_ok,d w e]⟩
section
variable {ops:Array Oper} {Q:Exit→Act→World→Prop} {md:Region.Mode} {S:World→Prop} {oi:Oper} {fuel:Nat} {listed:Array Bool} {a:Act} {w:World}
theorem Bo (i:Nat)(v:Value)(b:S w)(h:wpAnyH Tryz.prog md ops Q S fuel (listed.setIfInBounds i true) (a.put oi.dst v) w)(hi:ops[i]? =some oi:=by exact rfl)(d:Region.noSelect ops=true:=by kernel_rfl)(hf:Region.free md ops listed i=true:=by kernel_rfl)(hr:(Region.ready md ops listed).contains i=true:=by kernel_rfl)(e:∀c a w,Q (.panic c) (a.put oi.dst v) w→Q (.panic c) a w:=by exact fun _ _ _ h=>h)
 (f:YieldsIf Tryz.prog ops S oi v a:=by exact Or.inl ⟨by kernel_rfl,by intro w g;go_simp⟩):wpAnyH Tryz.prog md ops Q S (fuel+1) listed a w :=
 wpAnyH_take hi d hf hr e f b h
theorem AC (i:Nat)(v:Value)(t:TypeId)(x:Operand)(g k:Nat)(b:∀w,S w→w.cell? ⟨g,k,none⟩=some v)(d:S w)(h:wpAnyH Tryz.prog md ops Q S fuel (listed.setIfInBounds i true) (a.put oi.dst v) w)(hi:ops[i]? =some oi:=by exact rfl)(e:Region.noSelect ops=true:=by kernel_rfl)(hf:Region.free md ops listed i=true:=by kernel_rfl)(hr:(Region.ready md ops listed).contains i=true:=by kernel_rfl)(f:∀c a w,Q (.panic c) (a.put oi.dst v) w→Q (.panic c) a w:=by exact fun _ _ _ h=>h)
 (j:Region.wanted oi (yielded ops a.tmps)=true:=by kernel_rfl) (ho:oi.op=.load t x:=by kernel_rfl) (l:a.eval x=.pointer (some ⟨g,k,none⟩):=by kernel_rfl) (m:∀w:World,w.cell? ⟨g,k,none⟩=some v→(loadVar t ⟨g,k,none⟩).run Tryz.prog w=.ok v w:=by exact fun w h=>by go_simp):wpAnyH Tryz.prog md ops Q S (fuel+1) listed a w :=
 wpAnyH_take hi e hf hr f (DF j t x ho g k l v m b) d h
theorem AD (i:Nat)(v:Value)(t:TypeId)(x:Operand)(g k:Nat)(b:∀w,S w→(loadVar t ⟨g,k,none⟩).run Tryz.prog w=.ok v w)(d:S w)(h:wpAnyH Tryz.prog md ops Q S fuel (listed.setIfInBounds i true) (a.put oi.dst v) w)(hi:ops[i]? =some oi:=by exact rfl)(e:Region.noSelect ops=true:=by kernel_rfl)(hf:Region.free md ops listed i=true:=by kernel_rfl)(hr:(Region.ready md ops listed).contains i=true:=by kernel_rfl)(f:∀c a w,Q (.panic c) (a.put oi.dst v) w→Q (.panic c) a w:=by exact fun _ _ _ h=>h)
 (j:Region.wanted oi (yielded ops a.tmps)=true:=by kernel_rfl) (ho:oi.op=.load t x:=by kernel_rfl) (l:a.eval x=.pointer (some ⟨g,k,none⟩):=by kernel_rfl):wpAnyH Tryz.prog md ops Q S (fuel+1) listed a w :=
 wpAnyH_take hi e hf hr f (DG j t x ho g k l v b) d h
end
theorem Kf {ops:Array Oper}{Q:Exit→Act→World→Prop}{md:Region.Mode}{S:World→Prop}{o:Oper}{fuel:Nat}{listed:Array Bool}{a:Act}{w:World}(i:Nat)(h:∀K':Act→World→Prop,Shut (∀a w,S w→(S w→wpAnyH Tryz.prog md ops Q S fuel (listed.setIfInBounds i true) a w)→K' a w)→if Region.wanted o (yielded ops a.tmps)=true then Oper.wp Tryz.prog o a w K' Q else K' (a.put o.dst undef) w)(ho:ops[i]? =some o:=by exact rfl)(hr:Region.ready md ops listed=[i]:=by kernel_rfl):wpAnyH Tryz.prog md ops Q S (fuel+1) listed a w :=
 wpAnyH_ready hr (by simp) (AllReadyH.cons ho h AllReadyH.nil)
theorem B6 {α:Type _}{xs:List α}{i:Nat}(h:i<xs.toArray.size):xs.toArray[i]=xs[i]:=rfl
theorem B7 {α:Type _}(a:α)(l:List α)(i:Nat)(h:i+1<(a::l).length):(a::l)[i+1]=l[i]'(Nat.lt_of_succ_lt_succ h):=rfl
theorem B8 {α:Type _}(a:α)(l:List α)(h:0<(a::l).length):(a::l)[0]=a:=rfl
theorem B9 {α:Type _}(l:List α)(i:Nat)(a:α):l.toArray.setIfInBounds i a=(l.set i a).toArray:=List.setIfInBounds_toArray ..
theorem Ca {α:Type _}(a:α)(l:List α)(i:Nat)(b:α):(a::l).set (i+1) b=a::l.set i b:=rfl
theorem Cb {α:Type _}(a:α)(l:List α)(b:α):(a::l).set 0 b=b::l:=rfl
set_option linter.unusedSimpArgs false
open Mo (V Row Bag cnt Af Al Ay)
def Gg (w:World)(v:Value)(cs:List Nat):Prop:=(v=.slice none 0 0∧cs=[])∨∃b o cap,v=.slice (some ⟨b,o,none⟩) cs.length cap∧b<w.heap.size∧∀(i c:Nat),cs[i]? =some c→w.cell? ⟨b,o+i,none⟩=some (.int .i64 (c:Int))
theorem Gg.kept {S:Nat→Prop}{w w':World}{v:Value}{cs:List Nat}(h:Gg w v cs)(k:Ab S w w')(d:∀b,v.ownBlock=some b→¬S b):Gg w' v cs:=by
 rcases h with h|⟨b,o,cap,rfl,a,e⟩
 ·exact .inl h
 ·exact .inr ⟨b,o,cap,rfl,kV a k.size,fun i c f=>(k.cell a (d b rfl)).trans (e i c f)⟩
theorem Gg.is {w:World}{v:Value}{cs:List Nat}(h:Gg w v cs):∃a cap,v=.slice a cs.length cap:=by
 rcases h with ⟨rfl,rfl⟩|⟨b,o,cap,rfl,_⟩
 ·exact⟨_,_,rfl⟩
 ·exact⟨_,_,rfl⟩
theorem NT {w:World}{P:Nat}{r:Row}(h:w.heap[P]? =some (.cells (An r) 154 (0,0))):w.cell? ⟨P,0,none⟩=some (.int .i64 ((r).length:Int))∧w.cell? ⟨P,1,none⟩=some (.int .i32 (kI (Al (r) 0)))∧w.cell? ⟨P,2,none⟩=some (.int .u8 (tB (Al (r) 0) 0))∧w.cell? ⟨P,3,none⟩=some (.int .u8 (tB (Al (r) 0) 1))∧w.cell? ⟨P,4,none⟩=some (.int .u8 (tB (Al (r) 0) 2))∧w.cell? ⟨P,5,none⟩=some (.int .u8 (tB (Al (r) 0) 3))∧w.cell? ⟨P,6,none⟩=some (.int .i64 (nI (Al (r) 0)))∧w.cell? ⟨P,7,none⟩=some (.int .i32 (kI (Al (r) 1)))∧w.cell? ⟨P,8,none⟩=some (.int .u8 (tB (Al (r) 1) 0))∧w.cell? ⟨P,9,none⟩=some (.int .u8 (tB (Al (r) 1) 1))∧w.cell? ⟨P,10,none⟩=some (.int .u8 (tB (Al (r) 1) 2))∧w.cell? ⟨P,11,none⟩=some (.int .u8 (tB (Al (r) 1) 3))∧w.cell? ⟨P,12,none⟩=some (.int .i64 (nI (Al (r) 1)))∧w.cell? ⟨P,13,none⟩=some (.int .i32 (kI (Al (r) 2)))∧w.cell? ⟨P,14,none⟩=some (.int .u8 (tB (Al (r) 2) 0))∧w.cell? ⟨P,15,none⟩=some (.int .u8 (tB (Al (r) 2) 1))∧w.cell? ⟨P,16,none⟩=some (.int .u8 (tB (Al (r) 2) 2))∧w.cell? ⟨P,17,none⟩=some (.int .u8 (tB (Al (r) 2) 3))∧w.cell? ⟨P,18,none⟩=some (.int .i64 (nI (Al (r) 2)))∧w.cell? ⟨P,19,none⟩=some (.int .i32 (kI (Al (r) 3)))∧w.cell? ⟨P,20,none⟩=some (.int .u8 (tB (Al (r) 3) 0))∧w.cell? ⟨P,21,none⟩=some (.int .u8 (tB (Al (r) 3) 1))∧w.cell? ⟨P,22,none⟩=some (.int .u8 (tB (Al (r) 3) 2))∧w.cell? ⟨P,23,none⟩=some (.int .u8 (tB (Al (r) 3) 3))∧w.cell? ⟨P,24,none⟩=some (.int .i64 (nI (Al (r) 3)))∧w.cell? ⟨P,25,none⟩=some (.int .i32 (kI (Al (r) 4)))∧w.cell? ⟨P,26,none⟩=some (.int .u8 (tB (Al (r) 4) 0))∧w.cell? ⟨P,27,none⟩=some (.int .u8 (tB (Al (r) 4) 1))∧w.cell? ⟨P,28,none⟩=some (.int .u8 (tB (Al (r) 4) 2))∧w.cell? ⟨P,29,none⟩=some (.int .u8 (tB (Al (r) 4) 3))∧w.cell? ⟨P,30,none⟩=some (.int .i64 (nI (Al (r) 4)))∧w.cell? ⟨P,31,none⟩=some (.int .i32 (kI (Al (r) 5)))∧w.cell? ⟨P,32,none⟩=some (.int .u8 (tB (Al (r) 5) 0))∧w.cell? ⟨P,33,none⟩=some (.int .u8 (tB (Al (r) 5) 1))∧w.cell? ⟨P,34,none⟩=some (.int .u8 (tB (Al (r) 5) 2))∧w.cell? ⟨P,35,none⟩=some (.int .u8 (tB (Al (r) 5) 3))∧w.cell? ⟨P,36,none⟩=some (.int .i64 (nI (Al (r) 5))):=by
 have e:∀n,w.cell? ⟨P,n,none⟩=(An r)[n]? :=fun n=>Ae h n
 simp only[e]
 exact⟨rfl,rfl,rfl,rfl,rfl,rfl,rfl,rfl,rfl,rfl,rfl,rfl,rfl,rfl,rfl,rfl,rfl,rfl,rfl,rfl,rfl,rfl,rfl,rfl,rfl,rfl,rfl,rfl,rfl,rfl,rfl,rfl,rfl,rfl,rfl,rfl,rfl⟩
section
variable {ops:Array Oper} {S:World→Prop} {op:Oper} {a:Act}
theorem IB (b:Region.wanted op (yielded ops a.tmps)=true)(x:Operand)(ho:op.op=.load 133 x)(g k:Nat)(c:a.eval x=.pointer (some ⟨g,k,none⟩))(v:V)
 (d:∀w,S w→∀j y,(Au v)[j]? =some y→w.cell? ⟨g,k+j,none⟩=some y):YieldsIf Tryz.prog ops S op (J8 v) a :=
 .inl ⟨b,fun w e=>by
  unfold execOp
  simp only[ho,c,Instr.loadAt,Instr.sureAddr,Sem.run_bind,Sem.run_pure,Result.andThen_ok,F4 (d w e)]
  rfl⟩
end
theorem IC (cs:List Nat)(c:Nat)(r:Row):Ay (cs++[c]) r=Ay cs r++[Al r c]:=by simp[Ay]
theorem ZT (w:World)(v:V):Vx (w.alloc (.cells (Au v).toArray 133)) (.slice (some ⟨w.heap.size,0,none⟩) 1 1) [v]:=by
 refine⟨w.heap.size,0,1,rfl,by simp,fun i x a j y b=>?_⟩
 have hi:i=0:=by have:=(kS.1 a).1;simp at this;exact this
 subst hi
 have:v=x:=by simpa using a
 subst this
 rw[Ae (heap_alloc_last _ _),mL]
 simpa using b
theorem TM (r:Row)(cs:List Nat)(v:Value)(w:World)(hv:Gg w v cs)(O:∀c∈cs,c<6)(_:cs.length≤6) :
 Calls Tryz.prog 260 #[.agg (An r),v] w fun e w'=>e=.returned (.agg (An (Ay cs r)))∧Ab No w w':=by
 obtain⟨va,j,rfl⟩:=hv.is
 have Y:=Ad hv;have Z:=Ad O;clear hv O
 go_enter Tryz.func260,Tryz.ntmps260
 go_wp2_with fail
 go_loopg [10] cs.length (fun k aa wr=>∃(i:Nat) (c1:Array Value),i+k=cs.length∧aa=.int .i64 (i:Int)∧c1.size=37∧oH (wr.heap[w.heap.size]? =some (.cells (An r) 154 (0,0)))∧oH (wr.heap[w.heap.size+1]? =some (.cells c1 154 (0,0)))∧oH (wr.heap[w.heap.size+2]? =some (.cells (An (Ay (cs.take i) r)) 154 (0,0)))∧oH (Ab No w wr))
 case atStart =>
  refine⟨0,An [],by omega,rfl,rfl,?_,?_,?_,Ad ((((Ab.refl No w).alloc _).alloc _).alloc _)⟩
  ·exact (Below.heap_alloc _ _ _ (by simp;omega)).trans (heap_alloc2_old _ _ _)
  ·exact (Below.heap_alloc _ _ _ (by simp)).trans (heap_alloc2_new _ _ _)
  ·have:=heap_alloc_last ((w.alloc (.cells (An r) 154)).alloc (.cells (An []) 154)) (.cells (An []) 154)
   have e:((w.alloc (.cells (An r) 154)).alloc (.cells (An []) 154)).heap.size=w.heap.size+2:=by simp
   rw[e] at this
   exact this
 case round =>
  obtain⟨i,c1,_,rfl,G,n,z,m,a⟩:=hrel
  cases gk with
  |zero =>
   have B:¬(i:Int)<(cs.length:Int):=by omega
   have hi:i=cs.length:=by omega
   have ab:=Ad hi;clear hi
   go_wp2_with (first
    |(refine D7 _ rfl rfl (w.heap.size+2) rfl (Ay (cs.take i) r) m.o ?_)
    |(refine To _ _ rfl rfl (w.heap.size+1) rfl (Ay (cs.take i) r) rfl c1 G z.o ?_)
    |fail)
   (try simp only[Exit.inBlock,Exit.then])
   refine bodyPost_ret (results_cell_row rfl _ _ (w.heap.size+1) 154 (An (Ay (cs.take i) r)) (0,0) _ rfl (D8 z.o) Tryz.underlying154 rfl (by rw[Bz];exact F3)) rfl ?_
   exact⟨by rw[ab.o,lT (kZ _)],Dq a.o (.inl (by omega)) _⟩
  |succ k =>
   have B:(i:Int)<(cs.length:Int):=by omega
   have am:(0:Int)≤(i:Int):=by omega
   obtain⟨c,A⟩:∃c,cs[i]? =some c:=⟨_,kT (by omega)⟩
   have P:=Z.o c (kW A)
   rcases Y.o with ⟨e1,Q⟩|⟨b,o,cap,e,hb,hcell⟩
   ·rw[Q] at A;simp at A
   injection e with e1 Q ac
   subst e1 ac;have g0:wr.cell? ⟨b,o+i,none⟩=some (.int .i64 (c:Int)):=(a.o.cell hb oI).trans (hcell i c A)
   have an:(0:Int)≤(c:Int):=by omega
   have ao:(c:Int)<6:=by omega
   have F:oH (Ay (cs.take (i+1)) r=Ay (cs.take i) r++[Al r c]):=by
    show _=_
    rw[lL,A];exact IC _ _ _
   have H:(Ay (cs.take i) r).length=i:=by simp[Ay];omega
   obtain⟨p,R⟩:∃p,Ay (cs.take i) r=p:=⟨_,rfl⟩
   rw[R] at m H F
   clear hcell A R;have I:=Aa n.o;have J:=Aa m.o;have ap:w.heap.size≤wr.heap.size:=a.o.size;have ad:=NT m.o;have j:=Jt n.o P
   obtain⟨x,B⟩:∃x,Al r c=x:=⟨_,rfl⟩
   rw[B] at j F
   have ae:wr.cell? ⟨w.heap.size,1+c*6,none⟩=some (.int .i32 (kI x)):=j 0 _ rfl;have af:=j 1 _ rfl;have ag:=j 2 _ rfl;have ah:=j 3 _ rfl;have ai:=j 4 _ rfl;have aj:=j 5 _ rfl;have ak:=Ad B;have T:=Ad H;clear B j ad ae af ag ah ai aj H;go_wp2_with fail
   refine wp_region_held_drew (S:=fun w'=>w'.heap[w.heap.size]? =some (.cells (An r) 154 (0,0))) (by kernel_rfl) n.o (fun d=>?_)
   refine Bo 1 (.int .i64 (c:Int)) d ?_
   try simp only[Act.put,B6,B7,B8,B9,Ca,Cb]
   refine Bo 2 (.pointer (some ⟨w.heap.size,1,none⟩)) d ?_
   try simp only[Act.put,B6,B7,B8,B9,Ca,Cb]
   refine Bo 3 (.pointer (some ⟨w.heap.size,1+c*6,none⟩)) d ?_
   try simp only[Act.put,B6,B7,B8,B9,Ca,Cb]
   refine wpAnyH_take (i:=4) (v:=.agg #[.int .i32 (kI x),.int .u8 (tB x 0),.int .u8 (tB x 1),.int .u8 (tB x 2),.int .u8 (tB x 3),.int .i64 (nI x)]) rfl (by kernel_rfl) (by kernel_rfl) (by kernel_rfl) (fun _ _ _ h=>h) (IB (by rfl) _ rfl w.heap.size (1+c*6) rfl x (fun w h=>by rw[←ak.o];exact Jt h P)) d ?_
   try simp only[Act.put,B6,B7,B8,B9,Ca,Cb]
   have U:oH (Vx (wr.alloc (.cells #[.int .i32 (kI x),.int .u8 (tB x 0),.int .u8 (tB x 1),.int .u8 (tB x 2),.int .u8 (tB x 3),.int .i64 (nI x)] 133)).drew (.slice (some ⟨wr.heap.size,0,none⟩) 1 1) [x]):=ZT wr x;have V:(wr.alloc (.cells #[.int .i32 (kI x),.int .u8 (tB x 0),.int .u8 (tB x 1),.int .u8 (tB x 2),.int .u8 (tB x 3),.int .i64 (nI x)] 133)).drew.heap[w.heap.size]? =some (.cells (An r) 154 (0,0)):=(Below.heap_alloc _ _ _ I).trans n.o;have W:(wr.alloc (.cells #[.int .i32 (kI x),.int .u8 (tB x 0),.int .u8 (tB x 1),.int .u8 (tB x 2),.int .u8 (tB x 3),.int .i64 (nI x)] 133)).drew.heap[w.heap.size+2]? =some (.cells (An p) 154 (0,0)):=(Below.heap_alloc _ _ _ J).trans m.o;have X:=a;clear a;have L:=Ad V;have al:=Ad W;clear V W
   refine wpAnyH_ready (rs:=[0,5]) (by kernel_rfl) (by simp) ?_
   refine AllReadyH.cons rfl (fun K a=>?_) (AllReadyH.cons rfl (fun K a=>?_) AllReadyH.nil)
   ·rw[if_pos (by rfl)]
    refine wp_load_row 154 _ rfl (w.heap.size+2) rfl 154 (An p) (0,0) _ m.o Tryz.underlying154 rfl (by rw[Bz];exact F3) ?_
    refine a.out _ _ n.o (fun d=>?_)
    clear a K
    try simp only[Act.put,B6,B7,B8,B9,Ca,Cb]
    refine Kf 5 (fun K a=>?_)
    go_simp
    refine a.out _ _ L.o (fun d=>?_)
    clear a K
    try simp only[Act.put,B6,B7,B8,B9,Ca,Cb]
    refine Kf 6 (fun K a=>?_)
    go_simp
    refine (AB p [x] _ _ U.o (by simp) (by rw[T.o];simp;omega)).mono ?_
    rintro e w3 ⟨rfl,C⟩;have f:Ab No wr w3:=(((Ab.refl No wr).alloc _).drew).seq C;have l:w3.heap[w.heap.size]? =some (.cells (An r) 154 (0,0)):=(f.block _ I oI).trans n.o;have q:w3.heap[w.heap.size+2]? =some (.cells (An p) 154 (0,0)):=(f.block _ J oI).trans m.o;have s:w3.heap[w.heap.size+1]? =some (.cells c1 154 (0,0)):=(f.block _ (Aa z.o) oI).trans z.o;have M:oH (Ab No w w3):=X.o.seq f
    refine a.out _ _ l (fun d=>?_)
    clear a K
    try simp only[Act.put,B6,B7,B8,B9,Ca,Cb]
    refine Kf 7 (fun K a=>?_)
    rw[if_pos (by rfl)]
    refine wp_store_row 154 _ _ rfl (w.heap.size+2) (An (p++[x])) rfl rfl 154 (An p) q (by rw[Bz];exact F3) rfl (Mb _) ?_
    have t:=Dq (Ab.refl (fun k=>k=w.heap.size+2) w3) (g:=w.heap.size+2) (.inr rfl) (An (p++[x]))
    have u:(w3.setRow (w.heap.size+2) (An (p++[x]))).heap[w.heap.size]? =some (.cells (An r) 154 (0,0)):=(t.block _ (Aa l) (by omega)).trans l
    have D:(w3.setRow (w.heap.size+2) (An (p++[x]))).heap[w.heap.size+1]? =some (.cells c1 154 (0,0)):=(t.block _ (Aa s) (by omega)).trans s
    have E:=D8 (c:=An (p++[x])) q
    have N:oH (Ab No w (w3.setRow (w.heap.size+2) (An (p++[x])))):=Dq M.o (.inl (by omega)) _
    have y:=Ad (And.intro u (And.intro D E))
    refine a.out _ _ u (fun d=>?_)
    clear a K
    refine wpAnyH_done (by kernel_rfl) ?_ _
    clear d l q s u D E f C t;generalize w3.setRow (w.heap.size+2) (An (p++[x]))=w4 at *
    try simp only[Act.put,B6,B7,B8,B9,Ca,Cb]
    go_wp2_with fail;go_roundg k
    case measure=>omega
    case rel=>exact⟨i+1,c1,by omega,by go_num,G,y.o.1,y.o.2.1,by show _=_;rw[F.o];exact y.o.2.2,N⟩
   ·go_simp
    refine a.out _ _ L.o (fun d=>?_)
    clear a K
    try simp only[Act.put,B6,B7,B8,B9,Ca,Cb]
    refine Kf 0 (fun K a=>?_)
    rw[if_pos (by rfl)]
    refine wp_load_row 154 _ rfl (w.heap.size+2) rfl 154 (An p) (0,0) _ al.o Tryz.underlying154 rfl (by rw[Bz];exact F3) ?_
    refine a.out _ _ L.o (fun d=>?_)
    clear a K
    try simp only[Act.put,B6,B7,B8,B9,Ca,Cb]
    refine Kf 6 (fun K a=>?_)
    go_simp
    refine (AB p [x] _ _ U.o (by simp) (by rw[T.o];simp;omega)).mono ?_
    rintro e w3 ⟨rfl,C⟩;have f:Ab No wr w3:=(((Ab.refl No wr).alloc _).drew).seq C;have l:w3.heap[w.heap.size]? =some (.cells (An r) 154 (0,0)):=(f.block _ I oI).trans n.o;have q:w3.heap[w.heap.size+2]? =some (.cells (An p) 154 (0,0)):=(f.block _ J oI).trans m.o;have s:w3.heap[w.heap.size+1]? =some (.cells c1 154 (0,0)):=(f.block _ (Aa z.o) oI).trans z.o;have M:oH (Ab No w w3):=X.o.seq f
    refine a.out _ _ l (fun d=>?_)
    clear a K
    try simp only[Act.put,B6,B7,B8,B9,Ca,Cb]
    refine Kf 7 (fun K a=>?_)
    rw[if_pos (by rfl)]
    refine wp_store_row 154 _ _ rfl (w.heap.size+2) (An (p++[x])) rfl rfl 154 (An p) q (by rw[Bz];exact F3) rfl (Mb _) ?_
    have t:=Dq (Ab.refl (fun k=>k=w.heap.size+2) w3) (g:=w.heap.size+2) (.inr rfl) (An (p++[x]))
    have u:(w3.setRow (w.heap.size+2) (An (p++[x]))).heap[w.heap.size]? =some (.cells (An r) 154 (0,0)):=(t.block _ (Aa l) (by omega)).trans l
    have D:(w3.setRow (w.heap.size+2) (An (p++[x]))).heap[w.heap.size+1]? =some (.cells c1 154 (0,0)):=(t.block _ (Aa s) (by omega)).trans s
    have E:=D8 (c:=An (p++[x])) q
    have N:oH (Ab No w (w3.setRow (w.heap.size+2) (An (p++[x])))):=Dq M.o (.inl (by omega)) _
    have y:=Ad (And.intro u (And.intro D E))
    refine a.out _ _ u (fun d=>?_)
    clear a K
    refine wpAnyH_done (by kernel_rfl) ?_ _
    clear d l q s u D E f C t;generalize w3.setRow (w.heap.size+2) (An (p++[x]))=w4 at *
    try simp only[Act.put,B6,B7,B8,B9,Ca,Cb]
    go_wp2_with fail;go_roundg k
    case measure=>omega
    case rel=>exact⟨i+1,c1,by omega,by go_num,G,y.o.1,y.o.2.1,by show _=_;rw[F.o];exact y.o.2.2,N⟩
open Mo (V Row Bag cnt Af Al vlt Kv Do Xq)
def Gr (w w':World):Prop:=∃k os,w'=Sort.grow (w.drewN k) os
theorem Gr.refl (w:World):Gr w w:=⟨0,#[],by rw[Sort.grow_empty];rfl⟩
theorem Gr.trans {a b c:World}(h:Gr a b)(k:Gr b c):Gr a c:=by
 obtain⟨n,os,rfl⟩:=h
 obtain⟨m,d,rfl⟩:=k
 exact⟨n+m,os++d,by rw[←Sort.grow_grow,←World.drewN_drewN];rfl⟩
theorem Gr.drewN {a w:World}(h:Gr a w)(n:Nat):Gr a (w.drewN n):=h.trans ⟨n,#[],by rw[Sort.grow_empty]⟩
theorem Gr.drew {a w:World}(h:Gr a w):Gr a w.drew:=h.drewN 1
theorem Gr.alloc {a w:World}(h:Gr a w)(o:Obj):Gr a (w.alloc o):=h.trans ⟨0,#[o],rfl⟩
theorem Gr.kept {w w':World}(h:Gr w w'):Ab No w w':=by
 obtain⟨k,os,rfl⟩:=h
 exact⟨rfl,rfl,rfl,by simp,fun i hi _=>Sort.heap_grow_old _ os hi⟩
def ZU (a b:Int):Int:=if a<b then -1 else if b<a then 1 else 0
theorem Me (a:Int)(w:World):Calls Tryz.prog 191 #[.int .i64 a] w fun e w'=>e=.returned (.bool false)∧w'=w:=by
 go_enter Tryz.func191,Tryz.ntmps191
 go_wp2
 go_ret
 exact⟨Az (by simp),rfl⟩
theorem TN (a b:Int)(w:World):Calls Tryz.prog 156 #[.int .i64 a,.int .i64 b] w fun e w'=>e=.returned (.int .i64 (ZU a b))∧w'=w:=by
 have c:oH (ZU a b=if a<b then -1 else if b<a then 1 else 0):=Ad rfl
 by_cases f:a<b
 ·rw[if_pos f] at c
  go_enter Tryz.func156,Tryz.ntmps156
  go_wp2_with fail;refine (Me a _).mono ?_;rintro e d ⟨rfl,rfl⟩;go_wp2_with fail;refine (Me b _).mono ?_;rintro e d ⟨rfl,rfl⟩;go_wp2_with fail;go_ret
  exact⟨Bb c.o.symm,rfl⟩
 ·rw[if_neg f] at c
  have h:decide (a<b)=false:=by simpa using f
  by_cases g:b<a
  ·rw[if_pos g] at c
   clear f
   go_enter Tryz.func156,Tryz.ntmps156
   go_wp2_with fail;refine (Me a _).mono ?_;rintro e d ⟨rfl,rfl⟩;go_wp2_with fail;refine (Me b _).mono ?_;rintro e d ⟨rfl,rfl⟩;go_wp2_with fail;go_ret
   exact⟨Bb c.o.symm,rfl⟩
  ·rw[if_neg g] at c
   have i:decide (b<a)=false:=by simpa using g
   go_enter Tryz.func156,Tryz.ntmps156
   go_wp2_with fail;refine (Me a _).mono ?_;rintro e d ⟨rfl,rfl⟩;go_wp2_with fail;refine (Me b _).mono ?_;rintro e d ⟨rfl,rfl⟩;go_wp2_with fail;go_ret
   exact⟨Bb c.o.symm,rfl⟩
theorem Sb (l m:List UInt8)(a c c1 d e c2:Nat)(w:World)(g:∀j x,l[j]? =some x→w.cell? ⟨a,c+j,none⟩=some (.int .u8 x.toNat))(i:∀j x,m[j]? =some x→w.cell? ⟨d,e+j,none⟩=some (.int .u8 x.toNat)) :
 (Extern.BytealgCompare.compare #[.slice (some ⟨a,c,none⟩) l.length c1,.slice (some ⟨d,e,none⟩) m.length c2]).run Tryz.prog w=.ok (.int .i64 (Lib.compareBytes l m)) w:=by
 have n:∀b o j:Nat,(⟨b,o,none⟩:Addr).add j=⟨b,o+j,none⟩:=fun b o j=>by unfold Addr.add;split <;> simp_all
 have p:∀k:List UInt8,Lib.bytesOf (k.map fun x=>(x.toNat:Int))=k:=fun k=>by simp[Lib.bytesOf,Function.comp_def]
 have key:∀(k:List UInt8) (b o:Nat),(∀j x,k[j]? =some x→w.cell? ⟨b,o+j,none⟩=some (.int .u8 x.toNat))→(Extern.Bytes.loadBytes ⟨b,o,none⟩ k.length .empty).run Tryz.prog w=.ok ⟨k.toArray⟩ w:=fun k b o h=>by
  have:=Lib.run_loadBytesX (P:=Tryz.prog) w (k.map fun x=>(x.toNat:Int)) ⟨b,o,none⟩ .empty (fun j x f=>by
   rw[kX] at f
   obtain⟨y,q,rfl⟩:=lJ.1 f
   rw[n];exact h j y q)
  rw[lB,p] at this
  rw[this]
  congr 1
  apply ByteArray.ext
  simp
 have r1:=key l a c g;have r2:=key m d e i
 change Sem.run Tryz.prog (do pure (goInt (Extern.BytealgCompare.cmp (←Extern.Bytes.bytesOf (.slice (some ⟨a,c,none⟩) l.length c1)) (←Extern.Bytes.bytesOf (.slice (some ⟨d,e,none⟩) m.length c2))))) w=_
 simp only[Extern.Bytes.bytesOf,Sem.run_bind,Sem.run_pure,Result.andThen,r1,r2]
 rw[Lib.cmp_eq]
 simp[goInt]
theorem TO (l m:List UInt8)(f:l.length=4)(g:m.length=4)(a b c1 c d c2:Nat)(w:World)(h:∀j x,l[j]? =some x→w.cell? ⟨a,b+j,none⟩=some (.int .u8 x.toNat))(i:∀j x,m[j]? =some x→w.cell? ⟨c,d+j,none⟩=some (.int .u8 x.toNat)) :
 Calls Tryz.prog 155 #[.slice (some ⟨a,b,none⟩) 4 c1,.slice (some ⟨c,d,none⟩) 4 c2] w fun e w'=>e=.returned (.int .i64 (Lib.compareBytes l m))∧w'=w:=by
 have hr:=Sb l m a b c1 c d c2 w h i
 rw[f,g] at hr
 go_enter Tryz.func155,Tryz.ntmps155
 go_wp2
 rw[run_callFunc_extern Tryz.func190 (by kernel_rfl) (by kernel_rfl) (by kernel_rfl) (e:=Extern.BytealgCompare.compare) (by kernel_rfl),hr]
 simp only[Result.andThen]
 rw[Oper.upon_value]
 go_wp2
 go_ret
 exact⟨rfl,rfl⟩
def Kx (a b:V):Int:=if vlt a b then -1 else if vlt b a then 1 else 0
def Qz (a b:Row):Int:=if Kv a b then -1 else if Kv b a then 1 else 0
def Us (s:List UInt8):List UInt8:=[s.getD 0 0,s.getD 1 0,s.getD 2 0,s.getD 3 0]
theorem AE:∀(n:Nat) (s t:List UInt8),s.length≤n→t.length≤n→(∀c∈s,97≤c.toNat)→(∀c∈t,97≤c.toNat) →
 Lib.compareBytes ((List.range n).map fun i=>s.getD i 0) ((List.range n).map fun i=>t.getD i 0)=if Do Xq s t then -1 else if Do Xq t s then 1 else 0
 |0,s,t,k,l,_,_=>by
  have:s=[]:=lP (by omega)
  have:t=[]:=lP (by omega)
  subst s t;rfl
 |n+1,s,t,k,l,m,lt=>by
  rw[List.range_succ_eq_map,lS,lS,mH,mH]
  have b:∀x y:UInt8,x<y↔x.toNat<y.toNat:=fun x y=>UInt8.lt_iff_toNat_lt
  cases s with
  |nil=>cases t with
   |nil =>
    have g:=AE n [] [] (by simp) (by simp) (by simp) (by simp)
    simp only[Lib.compareBytes]
    simpa [Function.comp_def] using g
   |cons y t =>
    have v:=lt y (by simp)
    simp only[Lib.compareBytes]
    have:(0:UInt8)<y:=by rw[b];simp;omega
    simp[Do,this]
  |cons x s=>cases t with
   |nil =>
    have w:=m x (by simp)
    simp only[Lib.compareBytes]
    have a:(0:UInt8)<x:=by rw[b];simp;omega
    have d:¬x<(0:UInt8):=by rw[b];simp
    simp[Do,a,d]
   |cons y t =>
    have g:=AE n s t (by simpa using k) (by simpa using l) (fun c j=>m c (by simp[j])) (fun c j=>lt c (by simp[j]))
    simp only[Lib.compareBytes]
    simp only[List.getD_cons_zero]
    by_cases a:x<y
    ·have f:x≠y:=by rintro rfl;rw[b] at a;omega
     have o:Xq x y=true:=by simp only[Xq,decide_eq_true_eq];exact (b x y).1 a
     simp[a,Do,f,o]
    ·by_cases d:y<x
     ·have f:¬x=y:=by rintro rfl;exact a d
      have p:¬y=x:=fun e=>f e.symm
      have q:Xq x y=false:=by simp only[Xq,decide_eq_false_iff_not];intro h;exact a ((b x y).2 h)
      have r:Xq y x=true:=by simp only[Xq,decide_eq_true_eq];exact (b y x).1 d
      simp[a,d,Do,f,p,q,r]
     ·have u:x=y:=by rw[b] at a d;exact nA.1 (by omega)
      subst u
      simp only[a,if_false,Do,if_true]
      simpa [Function.comp_def] using g
theorem TP {s t:List UInt8}(b:Rj (.txt s))(d:Rj (.txt t)):Lib.compareBytes (Us s) (Us t)=Kx (.txt s) (.txt t) :=
 AE 4 s t b.2.1 d.2.1 (fun c a=>(b.2.2 c a).1) (fun c a=>(d.2.2 c a).1)
theorem ZV (a b:Int):ZU a b=Kx (.num a) (.num b):=by simp[ZU,Kx,vlt]
theorem Q0 {w:World}{b:Nat}{v:V}{s:List UInt8}(hv:v=.txt s){o:Nat}(h:∀j x,(Au v)[j]? =some x→w.cell? ⟨b,o+j,none⟩=some x):∀j x,(Us s)[j]? =some x→w.cell? ⟨b,o+1+j,none⟩=some (.int .u8 x.toNat):=by
 subst hv;intro j x a;have c:=(kS.1 a).1
 match j,c with
 |0,_=>have e:s.getD 0 0=x:=by simpa [Us] using a
       subst e;exact h 1 _ rfl
 |1,_=>have e:s.getD 1 0=x:=by simpa [Us] using a
       subst e;exact h 2 _ rfl
 |2,_=>have e:s.getD 2 0=x:=by simpa [Us] using a
       subst e;exact h 3 _ rfl
 |3,_=>have e:s.getD 3 0=x:=by simpa [Us] using a
       subst e;exact h 4 _ rfl
theorem DI (a b:V)(d:Rj a)(f:Rj b)(c:Mo.ty a=Mo.ty b)(w:World) :
 Calls Tryz.prog 120 #[J8 a,J8 b] w fun e w'=>e=.returned (.int .i64 (Kx a b))∧Gr w w':=by
 cases a with
 |num n=>cases b with
  |txt t=>cases c
  |num m =>
   have g:=Ad (ZV n m);clear d f c
   change Calls Tryz.prog 120 #[.agg #[.int .i32 0,.int .u8 0,.int .u8 0,.int .u8 0,.int .u8 0,.int .i64 n],.agg #[.int .i32 0,.int .u8 0,.int .u8 0,.int .u8 0,.int .u8 0,.int .i64 m]] w _
   go_enter Tryz.func120,Tryz.ntmps120
   go_wp2_with fail;refine (TN n m _).mono ?_;rintro e i ⟨rfl,rfl⟩;go_wp2_with fail;go_ret
   exact⟨Bb g.o,((Gr.refl _).alloc _).alloc _⟩
 |txt s=>cases b with
  |num m=>cases c
  |txt t =>
   have g:=Ad (TP d f);clear d f c
   have k:oH (Calls Tryz.prog 155 #[.slice (some ⟨w.heap.size,1,none⟩) 4 4,.slice (some ⟨w.heap.size+1,1,none⟩) 4 4] (((w.alloc (.cells #[.int .i32 1,.int .u8 (tB (.txt s) 0),.int .u8 (tB (.txt s) 1),.int .u8 (tB (.txt s) 2),.int .u8 (tB (.txt s) 3),.int .i64 0] 133)).alloc (.cells #[.int .i32 1,.int .u8 (tB (.txt t) 0),.int .u8 (tB (.txt t) 1),.int .u8 (tB (.txt t) 2),.int .u8 (tB (.txt t) 3),.int .i64 0] 133)).drew) fun e w'=>e=.returned (.int .i64 (Kx (.txt s) (.txt t)))∧w'=((w.alloc (.cells #[.int .i32 1,.int .u8 (tB (.txt s) 0),.int .u8 (tB (.txt s) 1),.int .u8 (tB (.txt s) 2),.int .u8 (tB (.txt s) 3),.int .i64 0] 133)).alloc (.cells #[.int .i32 1,.int .u8 (tB (.txt t) 0),.int .u8 (tB (.txt t) 1),.int .u8 (tB (.txt t) 2),.int .u8 (tB (.txt t) 3),.int .i64 0] 133)).drew):=by
    show Calls _ _ _ _ _
    rw[←g.o]
    refine TO (Us s) (Us t) rfl rfl _ _ _ _ _ _ _ ?_ ?_
    ·refine Q0 (v:=.txt s) (o:=0) rfl fun j x h=>?_
     rw[lK]
     exact (Ae (show (((w.alloc _).alloc _).drew).heap[w.heap.size]? =_ from heap_alloc2_old _ _ _) j).trans (by simpa [Au,kI,nI] using h)
    ·refine Q0 (v:=.txt t) (o:=0) rfl fun j x h=>?_
     rw[lK]
     exact (Ae (show (((w.alloc _).alloc _).drew).heap[w.heap.size+1]? =_ from heap_alloc2_new _ _ _) j).trans (by simpa [Au,kI,nI] using h)
   change Calls Tryz.prog 120 #[.agg #[.int .i32 1,.int .u8 (tB (.txt s) 0),.int .u8 (tB (.txt s) 1),.int .u8 (tB (.txt s) 2),.int .u8 (tB (.txt s) 3),.int .i64 0],.agg #[.int .i32 1,.int .u8 (tB (.txt t) 0),.int .u8 (tB (.txt t) 1),.int .u8 (tB (.txt t) 2),.int .u8 (tB (.txt t) 3),.int .i64 0]] w _
   go_enter Tryz.func120,Tryz.ntmps120
   go_wp2_with fail
   go_region_held3 (fun _=>True) (trivial) ((go_at_call 155;refine k.o.mono ?_;rintro e i ⟨rfl,rfl⟩))
   go_wp2_with fail;go_ret
   exact⟨rfl,(((Gr.refl _).alloc _).alloc _).drew⟩
open Mo (V Row Bag cnt Af Al vlt Kv Do Xq Cy L3 L5 Jf)
theorem ZW (a b:V):(Kx a b<0)↔vlt a b=true:=by unfold Kx;split <;> (try split) <;> simp_all
theorem U3 (a b:V):(Kx a b=0)↔a=b:=by
 unfold Kx
 constructor
 ·intro h
  split at h
  ·omega
  ·split at h
   ·omega
   ·exact Mo.Pf.tri _ _ (by simpa using ‹¬vlt a b=true›) (by simpa using ‹¬vlt b a=true›)
 ·rintro rfl;rw[Mo.Pf.irrefl];rfl
theorem NU (n:Nat)(a b:V)(h:Rj a)(i:Rj b)(j:Mo.ty a=Mo.ty b)(w:World) :
 Calls Tryz.prog 252 #[.int .i64 (n:Int),J8 a,J8 b] w fun e w'=>e=.returned (.bool (L5 (Jh n) a b))∧Ab No w w':=by
 have g:oH (∀w,Calls Tryz.prog 120 #[.agg #[.int .i32 (kI a),.int .u8 (tB a 0),.int .u8 (tB a 1),.int .u8 (tB a 2),.int .u8 (tB a 3),.int .i64 (nI a)],.agg #[.int .i32 (kI b),.int .u8 (tB b 0),.int .u8 (tB b 1),.int .u8 (tB b 2),.int .u8 (tB b 3),.int .i64 (nI b)]] w fun e w'=>e=.returned (.int .i64 (Kx a b))∧Gr w w'):=fun w=>DI a b h i j w
 clear h i j
 change Calls Tryz.prog 252 #[.int .i64 (n:Int),.agg #[.int .i32 (kI a),.int .u8 (tB a 0),.int .u8 (tB a 1),.int .u8 (tB a 2),.int .u8 (tB a 3),.int .i64 (nI a)],.agg #[.int .i32 (kI b),.int .u8 (tB b 0),.int .u8 (tB b 1),.int .u8 (tB b 2),.int .u8 (tB b 3),.int .i64 (nI b)]] w _
 match n with
 |0 =>
  have c:oH (L5 (Jh 0) a b=decide (Kx a b<0)):=by show vlt a b=_;rw[Bool.eq_iff_iff];simp[ZW]
  rw[c.o]
  clear c
  go_enter Tryz.func252,Tryz.ntmps252
  go_wp2_with fail;refine (g.o _).mono ?_;rintro e d ⟨rfl,hg⟩;have f:oH (Ab No w d):=(((Ab.refl No w).alloc _).alloc _).seq hg.kept;clear hg;go_wp2_with fail;go_ret
  exact⟨rfl,f.o⟩
 |1 =>
  have c:oH (L5 (Jh 1) a b=(Kx a b == 0)):=by show decide (a=b)=_;rw[Bool.eq_iff_iff];simp[U3]
  rw[c.o]
  clear c
  go_enter Tryz.func252,Tryz.ntmps252
  go_wp2_with fail;refine (g.o _).mono ?_;rintro e d ⟨rfl,hg⟩;have f:oH (Ab No w d):=(((Ab.refl No w).alloc _).alloc _).seq hg.kept;clear hg;go_wp2_with fail;go_ret
  exact⟨rfl,f.o⟩
 |n+2 =>
  have c:oH (L5 (Jh (n+2)) a b=(Kx a b != 0)):=by show (!decide (a=b))=_;rw[Bool.eq_iff_iff];simp[U3]
  rw[c.o]
  clear c
  have k:(((n+2:Nat):Int) == 0)=false:=by simp;omega
  have l:(((n+2:Nat):Int) == 1)=false:=by simp;omega
  generalize ((n+2:Nat):Int)=m at k l⊢
  go_enter Tryz.func252,Tryz.ntmps252
  go_wp2_with fail;refine (g.o _).mono ?_;rintro e d ⟨rfl,hg⟩;have f:oH (Ab No w d):=(((Ab.refl No w).alloc _).alloc _).seq hg.kept;clear hg;go_wp2_with fail;go_ret
  exact⟨rfl,f.o⟩
end Go.Proofs.YtdinjjmcmfjbfaaGreatDoor
