import Derived.Laws.CopyRow
import Derived.Deep.RegionLaw
import Derived.Deep.DrawnRows
import Derived.Deep.MidRow
import Derived.Test.YtdinjjmcmfjbfaaGreatDoorGvJ
import Derived.Lib.BytesEntry
import Derived.Sort.Grow
import Derived.Lib.Bytealg
set_option maxRecDepth 100000
set_option maxHeartbeats 4000000
namespace Go.Proofs.YtdinjjmcmfjbfaaGreatDoor
open Go.RowKit Mo Pl Tryz
theorem Wx:∀(r:Row) (i:Nat) (v:V),r[i]? =some v→∀j x,(A2 v)[j]? =some x→(r.flatMap A2)[i*6+j]? =some x
 | [],i,v,h,_,_,_=>by simp at h
 |y::r,0,v,h,j,x,a=>by
  have:y=v:=by simpa using h
  subst this;rw[uX,xL,uL,uD (tR.1 a).1];exact a
 |y::r,i+1,v,h,j,x,a=>by have b:=Wx r i v (by simpa using h) j x a;rw[uX,uC (by rw[Gv];omega),Gv,show (i+1)*6+j-6=i*6+j by omega];exact b
theorem Wy (r:Row):(r.flatMap A2).length=r.length*6:=by
 induction r with
 |nil=>rfl
 |cons v r a=>rw[uX,tS,Gv,a,uO];omega
theorem iR (r:Row):∀v∈r.flatMap A2,v.oneCell'=true:=by
 intro v hv;obtain⟨x,_,a⟩:=xN.1 hv;simp only[A2,uP,List.not_mem_nil,or_false] at a;rcases a with h|h|h|h|h|h <;> subst h <;> rfl
def Qy (w:World)(v:Value)(q:Row):Prop:=∃b o cap,v=.slice (some ⟨b,o,none⟩) q.length cap∧b<w.heap.size∧∀i x,q[i]? =some x→∀j y,(A2 x)[j]? =some y→w.cell? ⟨b,o+i*6+j,none⟩=some y
theorem Jc.src {w:World}{v:Value}{r:Row}(h:Jc w v r):Qy w v r:=by
 obtain⟨b,o,cap,c,_,e,a,_,d⟩:=h;exact⟨b,o,cap,e,Aa a,fun i x f j y g=>by rw[Af a];exact d i x f j y g⟩
theorem Qy.kept {S:Nat→Prop}{w w':World}{v:Value}{q:Row}(h:Qy w v q)(k:Ab S w w')(c:∀b,v.ownBlock=some b→¬S b):Qy w' v q:=by
 obtain⟨b,o,cap,rfl,a,d⟩:=h;exact⟨b,o,cap,rfl,tU a k.size,fun i x e j y f=>(k.cell a (c b rfl)).trans (d i x e j y f)⟩
theorem Vg {r q:Row}{i:Nat}(h:i<r.length):Aj (r++q) i=Aj r i:=by
 unfold Aj;rw[uH,uH,uD h]
theorem Ud {r q:Row}{i:Nat}(h:r.length≤i):Aj (r++q) i=Aj q (i-r.length):=by
 unfold Aj;rw[uH,uH,uC h]
theorem IU {r:Row}{i:Nat}(h:r.length≤i):Aj r i=.num 0:=by
 unfold Aj;rw[uH,vK h];rfl
theorem Ka {r:Row}{i:Nat}(h:i<r.length):r[i]? =some (Aj r i):=by
 unfold Aj;rw[uH,tT h];rfl
theorem UX (r q:Row)(h:r.length+q.length≤6) :
 (((Ai r).toList.take (1+r.length*6)++q.flatMap A2++(Ai r).toList.drop (1+r.length*6+(q.flatMap A2).length)).toArray).setIfInBounds 0 (.int .i64 ((r++q).length:Int))=Ai (r++q):=by
 have a:(Ai r).toList.length=37:=by rw[Array.length_toList];rfl
 have b:=Wy q;refine Array.ext_getElem? fun n=>?_;rw[vB];by_cases d:0=n
 ·subst d;have f:0<((Ai r).toList.take (1+r.length*6)++q.flatMap A2++(Ai r).toList.drop (1+r.length*6+(q.flatMap A2).length)).toArray.size:=by simp only[List.size_toArray,tS,uV,a];omega
  rw[if_pos rfl,if_pos f];rfl
 rw[if_neg d,vV];by_cases k:n<37
 ·obtain⟨i,j,hi,c,rfl⟩:∃i j,i<6∧j<6∧n=1+i*6+j:=⟨(n-1) / 6,(n-1) % 6,by omega,by omega,by omega⟩;rw[Qt (r++q) hi c];by_cases g:i<r.length
  ·rw[wJ,uD (by rw[uV,a];omega),uQ,if_pos (by omega),uZ,Qt r hi c,Vg g]
  by_cases l:i<r.length+q.length
  ·rw[uD (by rw[tS,uV,a,b];omega),uC (by rw[uV,a];omega),Ud (by omega)];have e1:1+i*6+j-(List.take (1+r.length*6) (Ai r).toList).length=(i-r.length)*6+j:=(by rw[uV,a];omega);rw[e1];have e:j<(A2 (Aj q (i-r.length))).length:=(by rw[Gv];exact c);rw[Wx q (i-r.length) _ (Ka (by omega)) j _ (tT e),tT e]
  have e2:(List.take (1+r.length*6) (Ai r).toList++List.flatMap A2 q).length=1+r.length*6+q.length*6:=by rw[tS,uV,a,b];omega
  rw[uC (by rw[e2];omega),List.getElem?_drop,e2,b,show 1+r.length*6+q.length*6+(1+i*6+j-(1+r.length*6+q.length*6))=1+i*6+j by omega,uZ,Qt r hi c,IU (r:=r) (by omega),IU (r:=r++q) (by rw[tS];omega)]
 rw[vK (by simp only[tS,uV,List.length_drop,a,b];omega),Array.getElem?_eq_none (by rw[Bd];omega)]
theorem AH (w:World)(g o d n:Nat)(b k p:Nat)(q:Row)(c:Array Value)(t:TypeId)(hg:w.heap[g]? =some (.cells c t (0,0)))(r:q.length≤d)
 (s:∀i x,q[i]? =some x→∀j y,(A2 x)[j]? =some y→w.cell? ⟨b,k+i*6+j,none⟩=some y) (u:o+q.length*6≤c.size) :
 (Builtin.copy_ #[162,162] 3 #[.slice (some ⟨g,o,none⟩) d n,.slice (some ⟨b,k,none⟩) q.length p]).run prog w =
  .ok (goInt q.length) (w.setRow g (c.toList.take o++q.flatMap A2++c.toList.drop (o+(q.flatMap A2).length)).toArray):=by
 have e:=run_loadCells_list (P:=prog) w ⟨b,k,none⟩ (q.flatMap A2) (fun j v hv=>by
  have z:=(tR.1 hv).1;rw[Wy] at z;have a:j / 6<q.length:=by omega
  have f:j % 6<(A2 (Aj q (j / 6))).length:=by rw[Gv];omega
  have h:=Wx q (j / 6) _ (Ka a) (j % 6) _ (tT f);rw[show j / 6*6+j % 6=j by omega,hv] at h;have A:(⟨b,k,none⟩:Addr).add j=⟨b,k+j,none⟩:=by unfold Addr.add;split <;> simp_all
  have l:=s (j / 6) _ (Ka a) (j % 6) _ (tT f);rw[show k+j / 6*6+j % 6=k+j by omega,←h] at l;rw[A];exact l)
 have m:=run_storeCells_at prog g o t (q.flatMap A2) 0 c w hg (by rw[Wy];simpa using u) (iR q);rw[Wy] at e;simp only[Nat.add_zero] at m;have B:Nat.min q.length d=q.length:=Nat.min_eq_left r;cases a:prog.info? 133 with
 |none=>have:=ZW;simp[a] at this
 |some i =>
  have hi:i.size=6:=by have:=ZW;simpa [a] using this
  simp[Builtin.copy_,run_underlying underlying162,Builtin.lenOf,Builtin.firstCells,sizeOf,typeInfo,a,hi,B,e,m]
theorem Sj {P:Program}{w:World}{ops:Array Oper}{o:Oper}{a:Act}{K:Act→World→Prop}{Q:Exit→Act→World→Prop}{E:Prop}(e:o.guard=none)(d s:Operand)(t b:TypeId)
 (ho:o.op=.call { callee:=.builtin .copy,args:=#[d,s],argTypes:=#[t,b] }) (v c:Value) (f:a.eval d=v) (g:a.eval s=c) {v':Value} {w':World}
 (hr:(Builtin.copy_ #[t,b] o.type #[v,c]).run P w=.ok v' w') (h:K (a.put o.dst v') w'):if Region.wanted o (yielded ops a.tmps)=true then Oper.wp P o a w K Q else E:=by
 have i:Region.wanted o (yielded ops a.tmps)=true:=by simp[Region.wanted,e]
 rw[if_pos i];unfold Oper.wp execOp;simp only[ho,resolve,invoke,builtin,Sem.run_bind,Sem.run_pure,Result.andThen_ok,List.map_toArray,uT,List.map_nil,f,g,hr];exact h
theorem Cj {w:World}{g:Nat}{b c:Array Value}{t:TypeId}{a:Nat×Nat}(hg:w.heap[g]? =some (.cells b t a)):(w.setRow g c).heap[g]? =some (.cells c t a):=setRow_heap w g b c t a hg
theorem Bs {S:Nat→Prop}{a w:World}(h:Ab S a w){g:Nat}(hg:a.heap.size≤g∨S g)(c:Array Value):Ab S a (w.setRow g c) :=
 ⟨h.os,h.tape,h.output,by simpa [World.setRow] using h.size,fun k d b=>by
  have:g≠k:=by rintro rfl;rcases hg with hg|hg;omega;exact b hg
  refine Eq.trans ?_ (h.block k d b);simp[World.setRow,Array.getElem?_modify,this]⟩
theorem Rx (r q:Row)(v:Value)(w:World)(O:Qy w v q)(_:1≤q.length)(P:r.length+q.length≤6) :
 Calls prog 80 #[.agg (Ai r),v] w fun e w'=>e=.returned (.agg (Ai (r++q)))∧Ab No w w':=by
 obtain⟨b,o,cap,rfl,Q,A⟩:=O;go_enter func80,ntmps80;go_wp21;obtain⟨a,f⟩:∃a,((w.alloc (.cells (Ai r) 154)).alloc (.cells #[.int .i64 0,D4,C4,C4,C4,C4,D2,D4,C4,C4,C4,C4,D2,D4,C4,C4,C4,C4,D2,D4,C4,C4,C4,C4,D2,D4,C4,C4,C4,C4,D2,D4,C4,C4,C4,C4,D2] 154))=a:=⟨_,rfl⟩;rw[f];have u:Ab No w a:=by rw[←f];exact ((Ab.refl No w).alloc _).alloc _
 have m:a.heap[w.heap.size]? =some (.cells (Ai r) 154 (0,0)):=by rw[←f];exact heap_alloc2_old _ _ _
 have h:∃c,C2 a (w.heap.size+1) c 154∧c.size=37:=by rw[←f];exact⟨_,heap_alloc2_new _ _ _,rfl⟩
 obtain⟨c1,h,R⟩:=h;have B:∀i x,q[i]? =some x→∀j y,(A2 x)[j]? =some y→C3 a.drew b (o+i*6+j) y:=fun i x S j y T=>(u.cell Q xT).trans (A i x S j y T);have n:=AH a.drew w.heap.size (1+r.length*6) (6-r.length) (6-r.length) b o cap q (Ai r) 154 m (by omega) B (by rw[Bd];omega);obtain⟨X,p⟩:∃X,((Ai r).toList.take (1+r.length*6)++q.flatMap A2++(Ai r).toList.drop (1+r.length*6+(q.flatMap A2).length)).toArray=X:=⟨_,rfl⟩;rw[p] at n;have C:X[0]? =some (.int .i64 (r.length:Int)):=by rw[←p,vV,wJ,uD (by rw[uV,show (Ai r).toList.length=37 from rfl];omega),uQ,if_pos (by omega),uZ];exact Ie r
 have D:X.setIfInBounds 0 (.int .i64 ((r.length:Int)+(q.length:Int)))=Ai (r++q):=by have:=UX r q P;rw[p,tS] at this;simpa using this
 obtain⟨d,s⟩:∃d,a.drew.setRow w.heap.size X=d:=⟨_,rfl⟩;rw[s] at n;have t:d.heap[w.heap.size]? =some (.cells X 154 (0,0)):=by rw[←s];exact Cj m
 have z:Ab (·=w.heap.size) a d:=by rw[←s];exact Bs ((Ab.refl (·=w.heap.size) a).drew) (g:=w.heap.size) (.inr rfl) X
 have E:C2 d (w.heap.size+1) c1 154:=(z.block _ (Aa h) (by omega)).trans h;have U:a.cell? ⟨w.heap.size,0,none⟩=some (.int .i64 (r.length:Int)):=by rw[Af m];exact Ie r
 have V:d.cell? ⟨w.heap.size,0,none⟩=some (.int .i64 (r.length:Int)):=by rw[Af t];exact C
 have W:d.frozen? ⟨w.heap.size,0,none⟩=false:=Am t _;have ab:(0:Int)≤(r.length:Int):=by omega
 have ac:(r.length:Int)≤6:=by omega
 have ad:¬6=r.length:=by omega
 have Y:IntKind.i64.wrap ((r.length:Int)+(q.length:Int))=(r.length:Int)+(q.length:Int):=IntWalk.i64_in _ (by omega);have F:=Ae n;have G:=Ae t;have H:=Ae E;have I:=Ae D;have J:xR (Ab No w d):=u.trans z (fun _ e=>e) (fun i hi e=>by omega);clear n A B p C D s t z E m h u f
 go_region_law
  ((refine Sj (by rfl) _ _ _ _ (by rfl) _ _ (by rfl) (by rfl) F.o ?_))
 all_goals
  try rw[Y]
  obtain⟨k,l⟩:∃k,d.setCell ⟨w.heap.size,0,none⟩ (.int .i64 ((r.length:Int)+(q.length:Int)))=k:=⟨_,rfl⟩;rw[l];have K:k.heap[w.heap.size]? =some (.cells (Ai (r++q)) 154 (0,0)):=by rw[←l,A0 G.o,I.o]
  have L:Ab No w k:=by rw[←l];exact J.o.setCell (.inl (tY _)) _
  have M:k.heap[w.heap.size+1]? =some (.cells c1 154 (0,0)):=by rw[←l];exact (Below.heap_setCell _ _ _ _ (by show w.heap.size+1≠w.heap.size;omega)).trans H.o
  have Z:=Ae K;have aa:=Ae L;have N:=Ae M;clear K L M l U V W F G H I J;go_wp2_with (first
   |(refine C7 _ rfl rfl w.heap.size rfl (r++q) Z.o ?_)
   |(refine Ve _ _ rfl rfl (w.heap.size+1) rfl (r++q) rfl c1 R N.o ?_)
   |fail)
  (try simp only[Exit.inBlock,Exit.then])
  refine bodyPost_ret (results_cell_row rfl _ _ (w.heap.size+1) 154 (Ai (r++q)) (0,0) _ rfl (Cj N.o) underlying154 rfl (by rw[Bd];exact Cp)) rfl ?_;exact⟨rfl,Bs aa.o (.inl (by omega)) _⟩
theorem IV {ops:Array Oper}{S:World→Prop}{op:Oper}{a:Act}(b:Region.wanted op (yielded ops a.tmps)=true)(t:TypeId)(x:Operand)(ho:op.op=.load t x)(g k:Nat)(c:a.eval x=.pointer (some ⟨g,k,none⟩))(v:Value)
 (d:∀w:World,C3 w g k v→(loadVar t ⟨g,k,none⟩).run prog w=.ok v w) (e:∀w,S w→C3 w g k v):YieldsIf prog ops S op v a :=
 .inl ⟨b,fun w f=>by unfold execOp;simp only[ho,c,Instr.loadAt,Instr.sureAddr,Sem.run_bind,Sem.run_pure,Result.andThen_ok,d w (e w f)]⟩
theorem IW {ops:Array Oper}{S:World→Prop}{op:Oper}{a:Act}(b:Region.wanted op (yielded ops a.tmps)=true)(t:TypeId)(x:Operand)(ho:op.op=.load t x)(g k:Nat)(c:a.eval x=.pointer (some ⟨g,k,none⟩))(v:Value)
 (d:∀w,S w→(loadVar t ⟨g,k,none⟩).run prog w=.ok v w):YieldsIf prog ops S op v a :=
 .inl ⟨b,fun w e=>by unfold execOp;simp only[ho,c,Instr.loadAt,Instr.sureAddr,Sem.run_bind,Sem.run_pure,Result.andThen_ok,d w e]⟩
section
variable {ops:Array Oper} {Q:Exit→Act→World→Prop} {md:Region.Mode} {S:World→Prop} {oi:Oper} {fuel:Nat} {listed:Array Bool} {a:Act} {w:World}
theorem An (i:Nat)(v:Value)(b:S w)(h:wpAnyH prog md ops Q S fuel (listed.setIfInBounds i true) (a.put oi.dst v) w)(hi:ops[i]? =some oi:=by exact rfl)(d:Region.noSelect ops=true:=by kernel_rfl)(hf:Region.free md ops listed i=true:=by kernel_rfl)(hr:(Region.ready md ops listed).contains i=true:=by kernel_rfl)(e:∀c a w,Q (.panic c) (a.put oi.dst v) w→Q (.panic c) a w:=by exact fun _ _ _ h=>h)
 (f:YieldsIf prog ops S oi v a:=by exact Or.inl ⟨by kernel_rfl,by intro w g;go_simp⟩):wpAnyH prog md ops Q S (fuel+1) listed a w :=
 wpAnyH_take hi d hf hr e f b h
theorem Iq (i:Nat)(v:Value)(t:TypeId)(x:Operand)(g k:Nat)(b:∀w,S w→C3 w g k v)(d:S w)(h:wpAnyH prog md ops Q S fuel (listed.setIfInBounds i true) (a.put oi.dst v) w)(hi:ops[i]? =some oi:=by exact rfl)(e:Region.noSelect ops=true:=by kernel_rfl)(hf:Region.free md ops listed i=true:=by kernel_rfl)(hr:(Region.ready md ops listed).contains i=true:=by kernel_rfl)(f:∀c a w,Q (.panic c) (a.put oi.dst v) w→Q (.panic c) a w:=by exact fun _ _ _ h=>h)
 (j:Region.wanted oi (yielded ops a.tmps)=true:=by kernel_rfl) (ho:oi.op=.load t x:=by kernel_rfl) (l:a.eval x=.pointer (some ⟨g,k,none⟩):=by kernel_rfl) (m:∀w:World,C3 w g k v→(loadVar t ⟨g,k,none⟩).run prog w=.ok v w:=by exact fun w h=>by go_simp):wpAnyH prog md ops Q S (fuel+1) listed a w :=
 wpAnyH_take hi e hf hr f (IV j t x ho g k l v m b) d h
theorem Ha (i:Nat)(v:Value)(t:TypeId)(x:Operand)(g k:Nat)(b:∀w,S w→(loadVar t ⟨g,k,none⟩).run prog w=.ok v w)(d:S w)(h:wpAnyH prog md ops Q S fuel (listed.setIfInBounds i true) (a.put oi.dst v) w)(hi:ops[i]? =some oi:=by exact rfl)(e:Region.noSelect ops=true:=by kernel_rfl)(hf:Region.free md ops listed i=true:=by kernel_rfl)(hr:(Region.ready md ops listed).contains i=true:=by kernel_rfl)(f:∀c a w,Q (.panic c) (a.put oi.dst v) w→Q (.panic c) a w:=by exact fun _ _ _ h=>h)
 (j:Region.wanted oi (yielded ops a.tmps)=true:=by kernel_rfl) (ho:oi.op=.load t x:=by kernel_rfl) (l:a.eval x=.pointer (some ⟨g,k,none⟩):=by kernel_rfl):wpAnyH prog md ops Q S (fuel+1) listed a w :=
 wpAnyH_take hi e hf hr f (IW j t x ho g k l v b) d h
end
theorem C0 {ops:Array Oper}{Q:Exit→Act→World→Prop}{md:Region.Mode}{S:World→Prop}{o:Oper}{fuel:Nat}{listed:Array Bool}{a:Act}{w:World}(i:Nat)(h:∀K':Act→World→Prop,Shut (∀a w,S w→(S w→wpAnyH prog md ops Q S fuel (listed.setIfInBounds i true) a w)→K' a w)→if Region.wanted o (yielded ops a.tmps)=true then Oper.wp prog o a w K' Q else K' (a.put o.dst undef) w)(ho:ops[i]? =some o:=by exact rfl)(hr:Region.ready md ops listed=[i]:=by kernel_rfl):wpAnyH prog md ops Q S (fuel+1) listed a w :=
 wpAnyH_ready hr (by simp) (AllReadyH.cons ho h AllReadyH.nil)
theorem Ar {α:Type _}{xs:List α}{i:Nat}(h:i<xs.toArray.size):xs.toArray[i]=xs[i]:=rfl
theorem As {α:Type _}(a:α)(l:List α)(i:Nat)(h:i+1<(a::l).length):(a::l)[i+1]=l[i]'(Nat.lt_of_succ_lt_succ h):=rfl
theorem Au {α:Type _}(a:α)(l:List α)(h:0<(a::l).length):(a::l)[0]=a:=rfl
theorem Av {α:Type _}(l:List α)(i:Nat)(a:α):l.toArray.setIfInBounds i a=(l.set i a).toArray:=List.setIfInBounds_toArray ..
theorem Aw {α:Type _}(a:α)(l:List α)(i:Nat)(b:α):(a::l).set (i+1) b=a::l.set i b:=rfl
theorem Ax {α:Type _}(a:α)(l:List α)(b:α):(a::l).set 0 b=b::l:=rfl
set_option linter.unusedSimpArgs false
def Gg (w:World)(v:Value)(cs:List Nat):Prop:=(v=.slice none 0 0∧cs=[])∨∃b o cap,v=.slice (some ⟨b,o,none⟩) cs.length cap∧b<w.heap.size∧∀(i c:Nat),cs[i]? =some c→w.cell? ⟨b,o+i,none⟩=some (.int .i64 (c:Int))
theorem Gg.kept {S:Nat→Prop}{w w':World}{v:Value}{cs:List Nat}(h:Gg w v cs)(k:Ab S w w')(d:∀b,v.ownBlock=some b→¬S b):Gg w' v cs:=by
 rcases h with h|⟨b,o,cap,rfl,a,e⟩
 ·exact .inl h
 exact .inr ⟨b,o,cap,rfl,tU a k.size,fun i c f=>(k.cell a (d b rfl)).trans (e i c f)⟩
theorem Gg.is {w:World}{v:Value}{cs:List Nat}(h:Gg w v cs):∃a cap,v=.slice a cs.length cap:=by
 rcases h with ⟨rfl,rfl⟩|⟨b,o,cap,rfl,_⟩
 ·exact⟨_,_,rfl⟩
 exact⟨_,_,rfl⟩
theorem UY {w:World}{P:Nat}{r:Row}(h:w.heap[P]? =some (.cells (Ai r) 154 (0,0))):w.cell? ⟨P,0,none⟩=some (.int .i64 ((r).length:Int))∧w.cell? ⟨P,1,none⟩=some (.int .i32 (kI (Aj (r) 0)))∧w.cell? ⟨P,2,none⟩=some (.int .u8 (tB (Aj (r) 0) 0))∧w.cell? ⟨P,3,none⟩=some (.int .u8 (tB (Aj (r) 0) 1))∧w.cell? ⟨P,4,none⟩=some (.int .u8 (tB (Aj (r) 0) 2))∧w.cell? ⟨P,5,none⟩=some (.int .u8 (tB (Aj (r) 0) 3))∧w.cell? ⟨P,6,none⟩=some (.int .i64 (nI (Aj (r) 0)))∧w.cell? ⟨P,7,none⟩=some (.int .i32 (kI (Aj (r) 1)))∧w.cell? ⟨P,8,none⟩=some (.int .u8 (tB (Aj (r) 1) 0))∧w.cell? ⟨P,9,none⟩=some (.int .u8 (tB (Aj (r) 1) 1))∧w.cell? ⟨P,10,none⟩=some (.int .u8 (tB (Aj (r) 1) 2))∧w.cell? ⟨P,11,none⟩=some (.int .u8 (tB (Aj (r) 1) 3))∧w.cell? ⟨P,12,none⟩=some (.int .i64 (nI (Aj (r) 1)))∧w.cell? ⟨P,13,none⟩=some (.int .i32 (kI (Aj (r) 2)))∧w.cell? ⟨P,14,none⟩=some (.int .u8 (tB (Aj (r) 2) 0))∧w.cell? ⟨P,15,none⟩=some (.int .u8 (tB (Aj (r) 2) 1))∧w.cell? ⟨P,16,none⟩=some (.int .u8 (tB (Aj (r) 2) 2))∧w.cell? ⟨P,17,none⟩=some (.int .u8 (tB (Aj (r) 2) 3))∧w.cell? ⟨P,18,none⟩=some (.int .i64 (nI (Aj (r) 2)))∧w.cell? ⟨P,19,none⟩=some (.int .i32 (kI (Aj (r) 3)))∧w.cell? ⟨P,20,none⟩=some (.int .u8 (tB (Aj (r) 3) 0))∧w.cell? ⟨P,21,none⟩=some (.int .u8 (tB (Aj (r) 3) 1))∧w.cell? ⟨P,22,none⟩=some (.int .u8 (tB (Aj (r) 3) 2))∧w.cell? ⟨P,23,none⟩=some (.int .u8 (tB (Aj (r) 3) 3))∧w.cell? ⟨P,24,none⟩=some (.int .i64 (nI (Aj (r) 3)))∧w.cell? ⟨P,25,none⟩=some (.int .i32 (kI (Aj (r) 4)))∧w.cell? ⟨P,26,none⟩=some (.int .u8 (tB (Aj (r) 4) 0))∧w.cell? ⟨P,27,none⟩=some (.int .u8 (tB (Aj (r) 4) 1))∧w.cell? ⟨P,28,none⟩=some (.int .u8 (tB (Aj (r) 4) 2))∧w.cell? ⟨P,29,none⟩=some (.int .u8 (tB (Aj (r) 4) 3))∧w.cell? ⟨P,30,none⟩=some (.int .i64 (nI (Aj (r) 4)))∧w.cell? ⟨P,31,none⟩=some (.int .i32 (kI (Aj (r) 5)))∧w.cell? ⟨P,32,none⟩=some (.int .u8 (tB (Aj (r) 5) 0))∧w.cell? ⟨P,33,none⟩=some (.int .u8 (tB (Aj (r) 5) 1))∧w.cell? ⟨P,34,none⟩=some (.int .u8 (tB (Aj (r) 5) 2))∧w.cell? ⟨P,35,none⟩=some (.int .u8 (tB (Aj (r) 5) 3))∧w.cell? ⟨P,36,none⟩=some (.int .i64 (nI (Aj (r) 5))):=by
 have e:∀n,w.cell? ⟨P,n,none⟩=(Ai r)[n]? :=fun n=>Af h n;simp only[e];exact⟨rfl,rfl,rfl,rfl,rfl,rfl,rfl,rfl,rfl,rfl,rfl,rfl,rfl,rfl,rfl,rfl,rfl,rfl,rfl,rfl,rfl,rfl,rfl,rfl,rfl,rfl,rfl,rfl,rfl,rfl,rfl,rfl,rfl,rfl,rfl,rfl,rfl⟩
section
variable {ops:Array Oper} {S:World→Prop} {op:Oper} {a:Act}
theorem NL (b:Region.wanted op (yielded ops a.tmps)=true)(x:Operand)(ho:op.op=.load 133 x)(g k:Nat)(c:a.eval x=.pointer (some ⟨g,k,none⟩))(v:V)
 (d:∀w,S w→∀j y,(A2 v)[j]? =some y→C3 w g (k+j) y):YieldsIf prog ops S op (Ex v) a :=
 .inl ⟨b,fun w e=>by unfold execOp;simp only[ho,c,Instr.loadAt,Instr.sureAddr,Sem.run_bind,Sem.run_pure,Result.andThen_ok,Ft (d w e)];rfl⟩
end
theorem NM (cs:List Nat)(c:Nat)(r:Row):Ao (cs++[c]) r=Ao cs r++[Aj r c]:=by simp[Ao]
theorem SD (w:World)(v:V):Qy (w.alloc (.cells (A2 v).toArray 133)) (.slice (some ⟨w.heap.size,0,none⟩) 1 1) [v]:=by
 refine⟨w.heap.size,0,1,rfl,by simp,fun i x a j y b=>?_⟩;have hi:i=0:=by have:=(tR.1 a).1;simp at this;exact this
 subst hi;have:v=x:=by simpa using a
 subst this;rw[Af (heap_alloc_last _ _),vV];simpa using b
theorem IX (r:Row)(cs:List Nat)(v:Value)(w:World)(hv:Gg w v cs)(O:∀c∈cs,c<6)(_:cs.length≤6) :
 Calls prog 260 #[.agg (Ai r),v] w fun e w'=>e=.returned (.agg (Ai (Ao cs r)))∧Ab No w w':=by
 obtain⟨va,j,rfl⟩:=hv.is;have W:=Ae hv;have X:=Ae O;clear hv O;go_enter func260,ntmps260;go_wp21;go_loopg [10] cs.length (fun k Y wr=>∃(i:Nat) (c1:Array Value),i+k=cs.length∧Y=.int .i64 (i:Int)∧c1.size=37∧xR (C2 wr w.heap.size (Ai r) 154)∧xR (C2 wr (w.heap.size+1) c1 154)∧xR (C2 wr (w.heap.size+2) (Ai (Ao (cs.take i) r)) 154)∧xR (Ab No w wr))
 case atStart =>
  refine⟨0,Ai [],by omega,rfl,rfl,?_,?_,?_,Ae ((((Ab.refl No w).alloc _).alloc _).alloc _)⟩
  ·exact (Below.heap_alloc _ _ _ (by simp;omega)).trans (heap_alloc2_old _ _ _)
  ·exact (Below.heap_alloc _ _ _ (by simp)).trans (heap_alloc2_new _ _ _)
  have:=heap_alloc_last ((w.alloc (.cells (Ai r) 154)).alloc (.cells (Ai []) 154)) (.cells (Ai []) 154);have e:((w.alloc (.cells (Ai r) 154)).alloc (.cells (Ai []) 154)).heap.size=w.heap.size+2:=by simp
  rw[e] at this;exact this
 obtain⟨i,c1,_,rfl,G,n,z,m,a⟩:=hrel;cases gk with
 |zero =>
  have B:¬(i:Int)<(cs.length:Int):=by omega
  have hi:i=cs.length:=by omega
  have Z:=Ae hi;clear hi;go_wp2_with (first
   |(refine C7 _ rfl rfl (w.heap.size+2) rfl (Ao (cs.take i) r) m.o ?_)
   |(refine Ve _ _ rfl rfl (w.heap.size+1) rfl (Ao (cs.take i) r) rfl c1 G z.o ?_)
   |fail)
  (try simp only[Exit.inBlock,Exit.then])
  refine bodyPost_ret (results_cell_row rfl _ _ (w.heap.size+1) 154 (Ai (Ao (cs.take i) r)) (0,0) _ rfl (Cj z.o) underlying154 rfl (by rw[Bd];exact Cp)) rfl ?_;exact⟨by rw[Z.o,uW (tY _)],Bs a.o (.inl (by omega)) _⟩
 |succ k =>
  have B:(i:Int)<(cs.length:Int):=by omega
  have aj:=Bm i
  obtain⟨c,A⟩:∃c,cs[i]? =some c:=⟨_,tT (by omega)⟩;have P:=X.o c (tV A);rcases W.o with ⟨e1,e2⟩|⟨b,o,cap,e,hb,hcell⟩
  ·rw[e2] at A;simp at A
  injection e with e1 e2 e3;subst e1 e3;have g0:C3 wr b (o+i) (.int .i64 (c:Int)):=(a.o.cell hb xT).trans (hcell i c A);have ak:=Bm c
  have al:(c:Int)<6:=by omega
  have F:xR (Ao (cs.take (i+1)) r=Ao (cs.take i) r++[Aj r c]):=by show _=_;rw[uI,A];exact NM _ _ _
  have H:(Ao (cs.take i) r).length=i:=by simp[Ao];omega
  obtain⟨p,hp⟩:∃p,Ao (cs.take i) r=p:=⟨_,rfl⟩;rw[hp] at m H F;clear hcell A hp;have I:=Aa n.o;have J:=Aa m.o;have am:w.heap.size≤wr.heap.size:=a.o.size;have aa:=UY m.o;have j:=Ih n.o P;obtain⟨x,B⟩:∃x,Aj r c=x:=⟨_,rfl⟩;rw[B] at j F;have ab:C3 wr w.heap.size (1+c*6) (.int .i32 (kI x)):=j 0 _ rfl;have ac:=j 1 _ rfl;have ad:=j 2 _ rfl;have ae:=j 3 _ rfl;have af:=j 4 _ rfl;have ag:=j 5 _ rfl;have ah:=Ae B;have Q:=Ae H;clear B j aa ab ac ad ae af ag H;go_wp21;refine wp_region_held_drew (S:=fun w'=>w'.heap[w.heap.size]? =some (.cells (Ai r) 154 (0,0))) (by kernel_rfl) n.o (fun d=>?_);refine An 1 (.int .i64 (c:Int)) d ?_;refine An 2 (.pointer (some ⟨w.heap.size,1,none⟩)) d ?_;refine An 3 (.pointer (some ⟨w.heap.size,1+c*6,none⟩)) d ?_;refine wpAnyH_take (i:=4) (v:=.agg #[.int .i32 (kI x),E1 x 0,E1 x 1,E1 x 2,E1 x 3,.int .i64 (nI x)]) rfl (by kernel_rfl) (by kernel_rfl) (by kernel_rfl) (fun _ _ _ h=>h) (NL (by rfl) _ rfl w.heap.size (1+c*6) rfl x (fun w h=>by rw[←ah.o];exact Ih h P)) d ?_
  try simp only[Act.put,Ar,As,Au,Av,Aw,Ax]
  have R:xR (Qy (wr.alloc (.cells #[.int .i32 (kI x),E1 x 0,E1 x 1,E1 x 2,E1 x 3,.int .i64 (nI x)] 133)).drew (.slice (some ⟨wr.heap.size,0,none⟩) 1 1) [x]):=SD wr x;have T:C2 ((wr.alloc (.cells #[.int .i32 (kI x),E1 x 0,E1 x 1,E1 x 2,E1 x 3,.int .i64 (nI x)] 133)).drew) w.heap.size (Ai r) 154:=(Below.heap_alloc _ _ _ I).trans n.o;have U:C2 ((wr.alloc (.cells #[.int .i32 (kI x),E1 x 0,E1 x 1,E1 x 2,E1 x 3,.int .i64 (nI x)] 133)).drew) (w.heap.size+2) (Ai p) 154:=(Below.heap_alloc _ _ _ J).trans m.o;have V:=a;clear a;have L:=Ae T;have ai:=Ae U;clear T U;refine wpAnyH_ready (rs:=[0,5]) (by kernel_rfl) (by simp) ?_;refine AllReadyH.cons rfl (fun K a=>?_) (AllReadyH.cons rfl (fun K a=>?_) AllReadyH.nil)
  ·rw[if_pos (by rfl)];refine wp_load_row 154 _ rfl (w.heap.size+2) rfl 154 (Ai p) (0,0) _ m.o underlying154 rfl (by rw[Bd];exact Cp) ?_;refine a.out _ _ n.o (fun d=>?_);clear a K
   refine C0 5 (fun K a=>?_);go_simp;refine a.out _ _ L.o (fun d=>?_);clear a K
   refine C0 6 (fun K a=>?_);go_simp;go_call Rx p [x] _ _ R.o (by simp) (by rw[Q.o];simp;omega) as e w3 ⟨rfl,C⟩;have f:Ab No wr w3:=(((Ab.refl No wr).alloc _).drew).seq C;have l:C2 w3 w.heap.size (Ai r) 154:=(f.block _ I xT).trans n.o;have q:C2 w3 (w.heap.size+2) (Ai p) 154:=(f.block _ J xT).trans m.o;have s:C2 w3 (w.heap.size+1) c1 154:=(f.block _ (Aa z.o) xT).trans z.o;have M:xR (Ab No w w3):=V.o.seq f;refine a.out _ _ l (fun d=>?_);clear a K
   refine C0 7 (fun K a=>?_);rw[if_pos (by rfl)];refine wp_store_row 154 _ _ rfl (w.heap.size+2) (Ai (p++[x])) rfl rfl 154 (Ai p) q (by rw[Bd];exact Cp) rfl (Ht _) ?_;have t:=Bs (Ab.refl (fun k=>k=w.heap.size+2) w3) (g:=w.heap.size+2) (.inr rfl) (Ai (p++[x]));have u:C2 (w3.setRow (w.heap.size+2) (Ai (p++[x]))) w.heap.size (Ai r) 154:=(t.block _ (Aa l) (by omega)).trans l;have D:C2 (w3.setRow (w.heap.size+2) (Ai (p++[x]))) (w.heap.size+1) c1 154:=(t.block _ (Aa s) (by omega)).trans s;have E:=Cj (c:=Ai (p++[x])) q;have N:xR (Ab No w (w3.setRow (w.heap.size+2) (Ai (p++[x])))):=Bs M.o (.inl (by omega)) _;have y:=Ae (And.intro u (And.intro D E));refine a.out _ _ u (fun d=>?_);clear a K;refine wpAnyH_done (by kernel_rfl) ?_ _;clear d l q s u D E f C t;generalize w3.setRow (w.heap.size+2) (Ai (p++[x]))=w4 at *
   try simp only[Act.put,Ar,As,Au,Av,Aw,Ax]
   go_wp21;go_roundg k
   case measure=>omega
   exact⟨i+1,c1,by omega,by go_num,G,y.o.1,y.o.2.1,by show _=_;rw[F.o];exact y.o.2.2,N⟩
  go_simp;refine a.out _ _ L.o (fun d=>?_);clear a K
  refine C0 0 (fun K a=>?_);rw[if_pos (by rfl)];refine wp_load_row 154 _ rfl (w.heap.size+2) rfl 154 (Ai p) (0,0) _ ai.o underlying154 rfl (by rw[Bd];exact Cp) ?_;refine a.out _ _ L.o (fun d=>?_);clear a K
  refine C0 6 (fun K a=>?_);go_simp;go_call Rx p [x] _ _ R.o (by simp) (by rw[Q.o];simp;omega) as e w3 ⟨rfl,C⟩;have f:Ab No wr w3:=(((Ab.refl No wr).alloc _).drew).seq C;have l:C2 w3 w.heap.size (Ai r) 154:=(f.block _ I xT).trans n.o;have q:C2 w3 (w.heap.size+2) (Ai p) 154:=(f.block _ J xT).trans m.o;have s:C2 w3 (w.heap.size+1) c1 154:=(f.block _ (Aa z.o) xT).trans z.o;have M:xR (Ab No w w3):=V.o.seq f;refine a.out _ _ l (fun d=>?_);clear a K
  refine C0 7 (fun K a=>?_);rw[if_pos (by rfl)];refine wp_store_row 154 _ _ rfl (w.heap.size+2) (Ai (p++[x])) rfl rfl 154 (Ai p) q (by rw[Bd];exact Cp) rfl (Ht _) ?_;have t:=Bs (Ab.refl (fun k=>k=w.heap.size+2) w3) (g:=w.heap.size+2) (.inr rfl) (Ai (p++[x]));have u:C2 (w3.setRow (w.heap.size+2) (Ai (p++[x]))) w.heap.size (Ai r) 154:=(t.block _ (Aa l) (by omega)).trans l;have D:C2 (w3.setRow (w.heap.size+2) (Ai (p++[x]))) (w.heap.size+1) c1 154:=(t.block _ (Aa s) (by omega)).trans s;have E:=Cj (c:=Ai (p++[x])) q;have N:xR (Ab No w (w3.setRow (w.heap.size+2) (Ai (p++[x])))):=Bs M.o (.inl (by omega)) _;have y:=Ae (And.intro u (And.intro D E));refine a.out _ _ u (fun d=>?_);clear a K;refine wpAnyH_done (by kernel_rfl) ?_ _;clear d l q s u D E f C t;generalize w3.setRow (w.heap.size+2) (Ai (p++[x]))=w4 at *
  try simp only[Act.put,Ar,As,Au,Av,Aw,Ax]
  go_wp21;go_roundg k
  case measure=>omega
  exact⟨i+1,c1,by omega,by go_num,G,y.o.1,y.o.2.1,by show _=_;rw[F.o];exact y.o.2.2,N⟩
def Gr (w w':World):Prop:=∃k os,w'=Sort.grow (w.drewN k) os
theorem Gr.refl (w:World):Gr w w:=⟨0,#[],by rw[Sort.grow_empty];rfl⟩
theorem Gr.trans {a b c:World}(h:Gr a b)(k:Gr b c):Gr a c:=by
 obtain⟨n,os,rfl⟩:=h;obtain⟨m,d,rfl⟩:=k;exact⟨n+m,os++d,by rw[←Sort.grow_grow,←World.drewN_drewN];rfl⟩
theorem Gr.drewN {a w:World}(h:Gr a w)(n:Nat):Gr a (w.drewN n):=h.trans ⟨n,#[],by rw[Sort.grow_empty]⟩
theorem Gr.drew {a w:World}(h:Gr a w):Gr a w.drew:=h.drewN 1
theorem Gr.alloc {a w:World}(h:Gr a w)(o:Obj):Gr a (w.alloc o):=h.trans ⟨0,#[o],rfl⟩
theorem Gr.kept {w w':World}(h:Gr w w'):Ab No w w':=by
 obtain⟨k,os,rfl⟩:=h;exact⟨rfl,rfl,rfl,by simp,fun i hi _=>Sort.heap_grow_old _ os hi⟩
def iS (a b:Int):Int:=if a<b then -1 else if b<a then 1 else 0
theorem Oa (a:Int)(w:World):Calls prog 191 #[.int .i64 a] w fun e w'=>e=.returned (.bool false)∧w'=w:=by
 go_enter func191,ntmps191;go_wp2;go_ret;exact⟨A5 (by simp),rfl⟩
theorem bF (a b:Int)(w:World):Calls prog 156 #[.int .i64 a,.int .i64 b] w fun e w'=>e=.returned (.int .i64 (iS a b))∧w'=w:=by
 have c:xR (iS a b=if a<b then -1 else if b<a then 1 else 0):=Ae rfl;by_cases d:a<b
 ·rw[if_pos d] at c;go_enter func156,ntmps156;go_wp21;go_call Oa a _ as e w1 ⟨rfl,rfl⟩;go_wp21;go_call Oa b _ as e w1 ⟨rfl,rfl⟩;go_wp21;go_ret;exact⟨Bo c.o.symm,rfl⟩
 rw[if_neg d] at c;have g:decide (a<b)=false:=by simpa using d
 by_cases f:b<a
 ·rw[if_pos f] at c;clear d;go_enter func156,ntmps156;go_wp21;go_call Oa a _ as e w1 ⟨rfl,rfl⟩;go_wp21;go_call Oa b _ as e w1 ⟨rfl,rfl⟩;go_wp21;go_ret;exact⟨Bo c.o.symm,rfl⟩
 rw[if_neg f] at c;have h:decide (b<a)=false:=by simpa using f
 go_enter func156,ntmps156;go_wp21;go_call Oa a _ as e w1 ⟨rfl,rfl⟩;go_wp21;go_call Oa b _ as e w1 ⟨rfl,rfl⟩;go_wp21;go_ret;exact⟨Bo c.o.symm,rfl⟩
theorem Ue (l m:List UInt8)(a c c1 b2 d c2:Nat)(w:World)(f:∀j x,l[j]? =some x→C3 w a (c+j) (.int .u8 x.toNat))(g:∀j x,m[j]? =some x→C3 w b2 (d+j) (.int .u8 x.toNat)) :
 (Extern.BytealgCompare.compare #[.slice (some ⟨a,c,none⟩) l.length c1,.slice (some ⟨b2,d,none⟩) m.length c2]).run prog w=.ok (.int .i64 (Lib.compareBytes l m)) w:=by
 have i:∀b o j:Nat,(⟨b,o,none⟩:Addr).add j=⟨b,o+j,none⟩:=fun b o j=>by unfold Addr.add;split <;> simp_all
 have n:∀k:List UInt8,Lib.bytesOf (k.map fun x=>(x.toNat:Int))=k:=fun k=>by simp[Lib.bytesOf,Function.comp_def]
 have key:∀(k:List UInt8) (b o:Nat),(∀j x,k[j]? =some x→C3 w b (o+j) (.int .u8 x.toNat))→(Extern.Bytes.loadBytes ⟨b,o,none⟩ k.length .empty).run prog w=.ok ⟨k.toArray⟩ w:=fun k b o h=>by have:=Lib.run_loadBytesX (P:=prog) w (k.map fun x=>(x.toNat:Int)) ⟨b,o,none⟩ .empty (fun j x e=>by rw[tX] at e;obtain⟨y,p,rfl⟩:=uK.1 e;rw[i];exact h j y p);rw[tZ,n] at this;rw[this];congr 1;apply ByteArray.ext;simp
 have r1:=key l a c f;have r2:=key m b2 d g;change Sem.run prog (do pure (goInt (Extern.BytealgCompare.cmp (←Extern.Bytes.bytesOf (.slice (some ⟨a,c,none⟩) l.length c1)) (←Extern.Bytes.bytesOf (.slice (some ⟨b2,d,none⟩) m.length c2))))) w=_;simp only[Extern.Bytes.bytesOf,Sem.run_bind,Sem.run_pure,Result.andThen,r1,r2];rw[Lib.cmp_eq];simp[goInt]
theorem bG (l m:List UInt8)(d:l.length=4)(f:m.length=4)(a b c1 b2 c c2:Nat)(w:World)(g:∀j x,l[j]? =some x→C3 w a (b+j) (.int .u8 x.toNat))(h:∀j x,m[j]? =some x→C3 w b2 (c+j) (.int .u8 x.toNat)) :
 Calls prog 155 #[.slice (some ⟨a,b,none⟩) 4 c1,.slice (some ⟨b2,c,none⟩) 4 c2] w fun e w'=>e=.returned (.int .i64 (Lib.compareBytes l m))∧w'=w:=by
 have hr:=Ue l m a b c1 b2 c c2 w g h;rw[d,f] at hr;go_enter func155,ntmps155;go_wp2;rw[run_callFunc_extern func190 (by kernel_rfl) (by kernel_rfl) (by kernel_rfl) (e:=Extern.BytealgCompare.compare) (by kernel_rfl),hr];simp only[Result.andThen];rw[Oper.upon_value];go_wp2;go_ret;exact⟨rfl,rfl⟩
def Mk (a b:V):Int:=if vlt a b then -1 else if vlt b a then 1 else 0
def Sx (a b:Row):Int:=if Ju a b then -1 else if Ju b a then 1 else 0
def Wn (s:List UInt8):List UInt8:=[s.getD 0 0,s.getD 1 0,s.getD 2 0,s.getD 3 0]
theorem EE:∀(n:Nat) (s t:List UInt8),s.length≤n→t.length≤n→(∀c∈s,97≤c.toNat)→(∀c∈t,97≤c.toNat) →
 Lib.compareBytes ((List.range n).map fun i=>s.getD i 0) ((List.range n).map fun i=>t.getD i 0)=if Ef AG s t then -1 else if Ef AG t s then 1 else 0
 |0,s,t,k,l,_,_=>by have:s=[]:=uM (by omega);have:t=[]:=uM (by omega);subst s t;rfl
 |n+1,s,t,k,l,m,lt=>by
  rw[List.range_succ_eq_map,uT,uT,vS,vS];have b:∀x y:UInt8,x<y↔x.toNat<y.toNat:=fun x y=>UInt8.lt_iff_toNat_lt;cases s with
  |nil=>cases t with
   |nil =>have g:=EE n [] [] (by simp) (by simp) (by simp) (by simp);simp only[Lib.compareBytes];simpa [Function.comp_def] using g
   |cons y t =>have v:=lt y (by simp);simp only[Lib.compareBytes];have:(0:UInt8)<y:=(by rw[b];simp;omega);simp[Ef,this]
  |cons x s=>cases t with
   |nil =>have w:=m x (by simp);simp only[Lib.compareBytes];have a:(0:UInt8)<x:=(by rw[b];simp;omega);have d:¬x<(0:UInt8):=(by rw[b];simp);simp[Ef,a,d]
   |cons y t =>
    have g:=EE n s t (by simpa using k) (by simpa using l) (fun c j=>m c (by simp[j])) (fun c j=>lt c (by simp[j]));simp only[Lib.compareBytes];simp only[List.getD_cons_zero];by_cases a:x<y
    ·have f:x≠y:=(by rintro rfl;rw[b] at a;omega);have o:AG x y=true:=(by simp only[AG,decide_eq_true_eq];exact (b x y).1 a);simp[a,Ef,f,o]
    by_cases d:y<x
    ·have f:¬x=y:=(by rintro rfl;exact a d);have p:¬y=x:=fun e=>f e.symm;have q:AG x y=false:=(by simp only[AG,decide_eq_false_iff_not];intro h;exact a ((b x y).2 h));have r:AG y x=true:=(by simp only[AG,decide_eq_true_eq];exact (b y x).1 d);simp[a,d,Ef,f,p,q,r]
    have u:x=y:=(by rw[b] at a d;exact wK.1 (by omega));subst u;simp only[a,if_false,Ef,if_true];simpa [Function.comp_def] using g
theorem bH {s t:List UInt8}(b:Mh (.txt s))(d:Mh (.txt t)):Lib.compareBytes (Wn s) (Wn t)=Mk (.txt s) (.txt t) :=
 EE 4 s t b.2.1 d.2.1 (fun c a=>(b.2.2 c a).1) (fun c a=>(d.2.2 c a).1)
theorem iT (a b:Int):iS a b=Mk (.num a) (.num b):=by simp[iS,Mk,vlt]
theorem Sy {w:World}{b:Nat}{v:V}{s:List UInt8}(hv:v=.txt s){o:Nat}(h:∀j x,(A2 v)[j]? =some x→C3 w b (o+j) x):∀j x,(Wn s)[j]? =some x→w.cell? ⟨b,o+1+j,none⟩=some (.int .u8 x.toNat):=by
 subst hv;intro j x a;have c:=(tR.1 a).1
 match j,c with
 |0,_=>have e:s.getD 0 0=x:=by simpa [Wn] using a
       subst e;exact h 1 _ rfl
 |1,_=>have e:s.getD 1 0=x:=by simpa [Wn] using a
       subst e;exact h 2 _ rfl
 |2,_=>have e:s.getD 2 0=x:=by simpa [Wn] using a
       subst e;exact h 3 _ rfl
 |3,_=>have e:s.getD 3 0=x:=by simpa [Wn] using a
       subst e;exact h 4 _ rfl
theorem IY (a b:V)(d:Mh a)(f:Mh b)(c:Mo.ty a=Mo.ty b)(w:World) :
 Calls prog 120 #[Ex a,Ex b] w fun e w'=>e=.returned (.int .i64 (Mk a b))∧Gr w w':=by
 cases a with
 |num n=>cases b with
  |txt t=>cases c
  |num m =>have g:=Ae (iT n m);clear d f c;change Calls prog 120 #[.agg #[D4,C4,C4,C4,C4,.int .i64 n],.agg #[D4,C4,C4,C4,C4,.int .i64 m]] w _;go_enter func120,ntmps120;go_wp21;go_call bF n m _ as e w1 ⟨rfl,rfl⟩;go_wp21;go_ret;exact⟨Bo g.o,((Gr.refl _).alloc _).alloc _⟩
 |txt s=>cases b with
  |num m=>cases c
  |txt t =>
   have g:=Ae (bH d f);clear d f c;have i:xR (Calls prog 155 #[.slice (some ⟨w.heap.size,1,none⟩) 4 4,.slice (some ⟨w.heap.size+1,1,none⟩) 4 4] (((w.alloc (.cells #[.int .i32 1,E1 (.txt s) 0,E1 (.txt s) 1,E1 (.txt s) 2,E1 (.txt s) 3,.int .i64 0] 133)).alloc (.cells #[.int .i32 1,E1 (.txt t) 0,E1 (.txt t) 1,E1 (.txt t) 2,E1 (.txt t) 3,.int .i64 0] 133)).drew) fun e w'=>e=.returned (.int .i64 (Mk (.txt s) (.txt t)))∧w'=((w.alloc (.cells #[.int .i32 1,E1 (.txt s) 0,E1 (.txt s) 1,E1 (.txt s) 2,E1 (.txt s) 3,.int .i64 0] 133)).alloc (.cells #[.int .i32 1,E1 (.txt t) 0,E1 (.txt t) 1,E1 (.txt t) 2,E1 (.txt t) 3,.int .i64 0] 133)).drew):=by
    show Calls _ _ _ _ _;rw[←g.o];refine bG (Wn s) (Wn t) rfl rfl _ _ _ _ _ _ _ ?_ ?_
    ·refine Sy (v:=.txt s) (o:=0) rfl fun j x h=>?_;rw[uL];exact (Af (show (((w.alloc _).alloc _).drew).heap[w.heap.size]? =_ from heap_alloc2_old _ _ _) j).trans (by simpa [A2,kI,nI] using h)
    refine Sy (v:=.txt t) (o:=0) rfl fun j x h=>?_;rw[uL];exact (Af (show (((w.alloc _).alloc _).drew).heap[w.heap.size+1]? =_ from heap_alloc2_new _ _ _) j).trans (by simpa [A2,kI,nI] using h)
   change Calls prog 120 #[.agg #[.int .i32 1,E1 (.txt s) 0,E1 (.txt s) 1,E1 (.txt s) 2,E1 (.txt s) 3,.int .i64 0],.agg #[.int .i32 1,E1 (.txt t) 0,E1 (.txt t) 1,E1 (.txt t) 2,E1 (.txt t) 3,.int .i64 0]] w _;go_enter func120,ntmps120;go_wp21;go_region_held3 (fun _=>True) (trivial) ((go_at_call 155;go_call i.o as e w1 ⟨rfl,rfl⟩));go_wp21;go_ret;exact⟨rfl,(((Gr.refl _).alloc _).alloc _).drew⟩
theorem iU (a b:V):(Mk a b<0)↔vlt a b=true:=by unfold Mk;split <;> (try split) <;> simp_all
theorem Wz (a b:V):(Mk a b=0)↔a=b:=by
 unfold Mk;constructor
 ·intro h;split at h
  ·omega
  split at h
  ·omega
  exact Rp.tri _ _ (by simpa using ‹¬vlt a b=true›) (by simpa using ‹¬vlt b a=true›)
 rintro rfl;rw[Rp.irrefl];rfl
theorem UZ (n:Nat)(a b:V)(g:Mh a)(h:Mh b)(i:Mo.ty a=Mo.ty b)(w:World) :
 Calls prog 252 #[.int .i64 (n:Int),Ex a,Ex b] w fun e w'=>e=.returned (.bool (Nv (Mi n) a b))∧Ab No w w':=by
 have f:xR (∀w,Calls prog 120 #[.agg #[.int .i32 (kI a),E1 a 0,E1 a 1,E1 a 2,E1 a 3,.int .i64 (nI a)],.agg #[.int .i32 (kI b),E1 b 0,E1 b 1,E1 b 2,E1 b 3,.int .i64 (nI b)]] w fun e w'=>e=.returned (.int .i64 (Mk a b))∧Gr w w'):=fun w=>IY a b g h i w;clear g h i;change Calls prog 252 #[.int .i64 (n:Int),.agg #[.int .i32 (kI a),E1 a 0,E1 a 1,E1 a 2,E1 a 3,.int .i64 (nI a)],.agg #[.int .i32 (kI b),E1 b 0,E1 b 1,E1 b 2,E1 b 3,.int .i64 (nI b)]] w _
 match n with
 |0 =>
  have c:xR (Nv (Mi 0) a b=decide (Mk a b<0)):=by show vlt a b=_;rw[Bool.eq_iff_iff];simp[iU]
  rw[c.o];clear c;go_enter func252,ntmps252;go_wp21;go_call f.o _ as e w1 ⟨rfl,hg⟩;have d:xR (Ab No w w1):=(((Ab.refl No w).alloc _).alloc _).seq hg.kept;clear hg;go_wp21;go_ret;exact⟨rfl,d.o⟩
 |1 =>
  have c:xR (Nv (Mi 1) a b=(Mk a b == 0)):=by show decide (a=b)=_;rw[Bool.eq_iff_iff];simp[Wz]
  rw[c.o];clear c;go_enter func252,ntmps252;go_wp21;go_call f.o _ as e w1 ⟨rfl,hg⟩;have d:xR (Ab No w w1):=(((Ab.refl No w).alloc _).alloc _).seq hg.kept;clear hg;go_wp21;go_ret;exact⟨rfl,d.o⟩
 |n+2 =>
  have c:xR (Nv (Mi (n+2)) a b=(Mk a b != 0)):=by show (!decide (a=b))=_;rw[Bool.eq_iff_iff];simp[Wz]
  rw[c.o];clear c;have j:(((n+2:Nat):Int) == 0)=false:=by simp;omega
  have k:(((n+2:Nat):Int) == 1)=false:=by simp;omega
  generalize ((n+2:Nat):Int)=l at j k⊢;go_enter func252,ntmps252;go_wp21;go_call f.o _ as e w1 ⟨rfl,hg⟩;have d:xR (Ab No w w1):=(((Ab.refl No w).alloc _).alloc _).seq hg.kept;clear hg;go_wp21;go_ret;exact⟨rfl,d.o⟩
end Go.Proofs.YtdinjjmcmfjbfaaGreatDoor
