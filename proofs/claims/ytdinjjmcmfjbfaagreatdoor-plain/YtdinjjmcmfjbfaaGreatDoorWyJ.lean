import Derived.Test.YtdinjjmcmfjbfaaGreatDoorKsJ
import Derived.Lib.ItoaLen
set_option maxRecDepth 100000
set_option maxHeartbeats 4000000
namespace Go.Proofs.YtdinjjmcmfjbfaaGreatDoor
set_option linter.unusedSimpArgs false
open Go.RowKit Go.Shelf
open Mo (V Row Bag cnt Af Be B0 Fw Cy Jf Ay B1 Z8)
theorem Lf {ops:Array Oper}{rest:List Oper}{o:Oper}{a:Act}{w:World}{Q:Exit→Act→World→Prop}(t:TypeId)(x:Operand)(ho:o.op=.load t x)(b:o.guard=none)(g k:Nat)(c:a.eval x=.pointer (some ⟨g,k,none⟩))(v:Value)(hr:(loadVar t ⟨g,k,none⟩).run Tryz.prog w=.ok v w)
 (h:wpList Tryz.prog ops Q rest (a.put o.dst v) w):wpList Tryz.prog ops Q (o::rest) a w:=by
 refine wpList_plain b fun _ d=>?_
 unfold Oper.wp execOp
 simp only[ho,c,Instr.loadAt,Instr.sureAddr,Sem.run_bind,Sem.run_pure,Result.andThen_ok,hr]
 exact d _ _ h
structure jV (us:List Bool) (cs:List Nat) (s:Option Nat) (x:Cy) (d:Bag):Prop where
 c6:∀y∈cs,y<6
 l6:cs.length≤6
 x6:∀c,x=.col c→c<6
 row:∀{q:Row},Mo.Dr us q→G5 (Ay cs q)
 sv:∀q,Mo.sv s q=nI (Jf x q)
 mul:∀q,-9223372036854775808≤cnt d q*Mo.sv s q∧cnt d q*Mo.sv s q≤9223372036854775807
open Mo (V Row Bag cnt Af Al)
def Gs:Nat→Row→List UInt8
 |_,[]=>[]
 |i,v::r=>(if i=0 then [] else [44])++(I9 v++Gs (i+1) r)
def Dz (r:Row):List UInt8:=40::(Gs 0 r++[41])
theorem V4 (r:Row)(v:V):∀i,Gs i (r++[v])=Gs i r++((if i+r.length=0 then [] else [44])++I9 v):=by
 induction r with
 |nil=>intro i;simp[Gs]
 |cons x r a=>intro i;simp[Gs,a,Nat.add_assoc,Nat.add_comm 1]
theorem Dx.snoc {w:World}{B:Nat}{v:Value}{t:List UInt8}{n:Nat}{c:UInt8}(h:w.ownsRow B 5 1 v (n+1) (Lib.byteCells t++[.int .u8 (c.toNat:Int)]))(a:t.length=n):Dx w B v (t++[c]):=by
 show w.ownsRow B _ 1 v (t++[c]).length (Lib.byteCells (t++[c]))
 rw[kU,Lib.byteCells_append,a];exact h
theorem OG {v:V}(h:Rj v):(I9 v).length≤21:=by
 cases v with
 |num n=>exact Lib.itoa_length_le n h.1 h.2
 |txt s=>have:=h.2.1;show s.length≤21;omega
theorem V5 (r:Row)(i:Nat)(hi:i<r.length):Gs 0 (r.take (i+1))=Gs 0 (r.take i)++((if i=0 then [] else [44])++I9 (Al r i)):=by
 have e:r.take (i+1)=r.take i++[Al r i]:=by
  rw[lL,kT hi]
  unfold Al
  simp[hi]
 rw[e,V4]
 have:(r.take i).length=i:=by rw[lV];omega
 rw[this,lK]
theorem Tt {r:Row}(h:G5 r):∀i,i≤r.length→(Gs 0 (r.take i)).length≤22*i
 |0,_=>by simp[Gs]
 |i+1,hi=>by
  have a:=Tt h i (by omega)
  have hv:=OG (F0 h i)
  rw[V5 r i (by omega)]
  simp only[kU]
  split
  ·simp;omega
  ·simp;omega
theorem W8.row {B:Nat}{w w':World}{b:Nat}{r:Row}(h:W8 B w w')(a:w.heap[b]? =some (.cells (An r) 154 (0,0))):w'.heap[b]? =some (.cells (An r) 154 (0,0)) :=
 (h.block b (Aa a) fun e=>by have:=e.2.ne a;exact absurd this (by decide)).trans a
theorem Yq (r:Row)(hr:G5 r)(B:Nat)(sv:Value)(t:List UInt8)(w:World)(b:Dx w B sv t)(hB:B≤w.heap.size)(ai:t.length≤90000000000000)(aa:Lib.TabBelow Tryz.prog B w "internal/strconv.uint64pow10" .u64 Lib.pow10Tab) :
 Calls Tryz.prog 71 #[.agg (An r),sv] w (DR B t (Dz r) w):=by
 have ab:=Ad hr;have a2:=Ad b;have aj:=Ad aa
 obtain⟨J,K,L,M,N⟩:=info_parts II
 obtain⟨n,O⟩:∃n,r.length=n:=⟨_,rfl⟩
 have y:=Ad O
 have a3:n≤6:=by rw[←O];exact hr.1
 clear aa hr O;have j:=b.alloc (.cells (An r) 154)
 go_enter Tryz.func71,Tryz.ntmps71
 obtain⟨a,p⟩:∃a,w.alloc (.cells (An r) 154)=a:=⟨_,rfl⟩
 have P:a.heap[w.heap.size]? =some (.cells (An r) 154 (0,0)):=by rw[←p];exact heap_alloc_last _ _
 have ac:W8 B w a:=by rw[←p];exact W8.kept ((Ab.refl No w).alloc _)
 rw[p] at j
 obtain⟨z,A⟩:∃z,t.length=z:=⟨_,rfl⟩
 have ad:=Ad A
 replace j:a.ownsRow B 5 1 sv z (Lib.byteCells t):=by rw[←A];exact j
 rw[A] at ai
 have a4:w.heap.size<a.heap.size:=Aa P;have Q:=Ad P;have R:=Ad ac;have ak:=Ad p;clear p A P ac b
 go_wp2_with (first
  |(rw[ak.o])
  |(at_builtin;refine wpList_append_own_at _ rfl _ _ 149 rfl B 5 J (.int .u8 0) 1 1 Tryz.underlying149 K L M N rfl (by decide) _ _ _ rfl (j.alloc _) ⟨a.heap.size,0,none⟩ 1 1 [.int .u8 40] rfl rfl (World.news_of_block (cs:=#[.int .u8 40]) (t:=5) (fr:=(0,0)) (heap_alloc_last a _)) (by intro g c;simp at c;subst c;rfl) (by unfold maxLen;omega) (by omega) (by simp;omega) ?_;intro al C d f _ _;have D:W8 B a C:=(W8.kept ((Ab.refl No a).alloc _)).grown (j.alloc _) f;have am:W8 B w C:=R.o.trans D;have an:C.cell? ⟨w.heap.size,0,none⟩=some (.int .i64 (n:Int)):=by { rw[Ae (D.row Q.o)];rw[←y.o];rfl })
  |fail)
 have ao:oH (Dx C B al (t++[40])):=Dx.snoc d ad.o;have ap:=Ad D;clear d f am D j an
 go_loopg [1,11] n (fun k aq ar wr=>∃i:Nat,i+k=n∧ar=.int .i64 (i:Int)∧oH (Dx wr B aq (t++[40]++Gs 0 (r.take i)))∧oH (W8 B a wr))
 case atStart=>exact⟨0,by omega,rfl,by rw[List.take_zero];simpa [Gs] using ao,ap⟩
 case round =>
  obtain⟨i,_,rfl,hO,l⟩:=hrel
  obtain⟨T,E⟩:∃T,t++[40]++Gs 0 (r.take i)=T:=⟨_,rfl⟩
  have au:T.length≤z+1+22*i:=by
   rw[←E]
   have:=Tt ab.o i (by have:=y.o;omega)
   simp only[kU,ad.o]
   simp;omega
  have S:=Ad E
  rw[E] at hO
  obtain⟨m,F⟩:∃m,T.length=m:=⟨_,rfl⟩
  have U:=Ad F
  have b:wr.ownsRow B 5 1 u1 m (Lib.byteCells T):=by rw[←F];exact hO.o
  rw[F] at au
  have a5:=l.o.size;clear E F
  cases gk with
  |zero =>
   have av:¬(i:Int)<(n:Int):=by omega
   have aw:oH (r.take i=r):=lT (by have:=y.o;omega)
   go_wp2_with (first
    |(at_builtin;refine wpList_append_own_at _ rfl _ _ 149 rfl B 5 J (.int .u8 0) 1 1 Tryz.underlying149 K L M N rfl (by decide) _ _ _ rfl (b.alloc _) ⟨wr.heap.size,0,none⟩ 1 1 [.int .u8 41] rfl rfl (World.news_of_block (cs:=#[.int .u8 41]) (t:=5) (fr:=(0,0)) (heap_alloc_last wr _)) (by intro g c;simp at c;subst c;rfl) (by unfold maxLen;omega) (by omega) (by simp;omega) ?_;intro G w3 d f _ _)
    |fail)
   have V:oH (Dx w3 B G (T++[41])):=Dx.snoc d U.o;have q:oH (W8 B w w3):=((R.o.trans l.o).trans (W8.kept ((Ab.refl No wr).alloc _))).grown (b.alloc _) f;clear d f b;go_ret
   refine⟨_,rfl,?_,q.o⟩
   have:=V.o
   rw[←S.o,aw.o] at this
   unfold Dz
   simpa using this
  |succ k =>
   have av:(i:Int)<(n:Int):=by omega
   have a6:(0:Int)≤(i:Int):=by omega
   have a7:(i:Int)<6:=by omega
   obtain⟨o,W⟩:∃o,J8 (Al r i)=o:=⟨_,rfl⟩
   have ae:oH (∀w':World,w'.heap[w.heap.size]? =some (.cells (An r) 154 (0,0))→(loadVar 133 ⟨w.heap.size,1+i*6,none⟩).run Tryz.prog w'=.ok o w'):=by
    subst W
    exact fun w' h=>F4 (Jt h (by omega))
   have H:oH (∀(s:List UInt8) (w':World) (g:Value),W8 B a w'→Dx w' B g s→s.length≤100000000000000→Calls Tryz.prog 121 #[o,g] w' (DR B s (I9 (Al r i)) w')):=by
    subst W
    exact fun s w' g af ho ax=>NZ (Al r i) (F0 ab.o i) B g s w' ho (by have:=af.size;omega) ax (aj.o.on ((R.o.trans af).below hB))
   have ag:=Ad (V5 r i (by have:=y.o;omega))
   have ay:=Ad (l.o.row Q.o);have ah:T.length=m:=U.o;clear W
   by_cases I:i=0
   ·have az:¬(0:Int)<(i:Int):=by omega
    have u:=Ad (H.o T wr u1 l.o hO.o (by omega))
    have X:=Ad I;clear H I ah
    go_wp2_with (first
     |(refine Lf 133 _ rfl rfl w.heap.size (1+i*6) rfl o (ae.o _ ay.o) ?_)
     |fail)
    refine u.o.mono ?_;rintro e w4 ⟨a0,rfl,v,x⟩;have Y:=Ad v;have Z:=Ad (l.o.trans x);clear v x u;go_wp2_with fail;go_roundg k
    case measure=>omega
    case rel =>
     refine⟨i+1,by omega,by go_num,?_,Z⟩
     show Dx _ _ _ _
     rw[ag.o,if_pos X.o,mU,←nE,S.o]
     exact Y.o
   ·have az:(0:Int)<(i:Int):=by omega
    have X:=Ad I;clear I
    go_wp2_with (first
     |(at_builtin;refine wpList_append_own_at _ rfl _ _ 149 rfl B 5 J (.int .u8 0) 1 1 Tryz.underlying149 K L M N rfl (by decide) _ _ _ rfl (b.alloc _) ⟨wr.heap.size,0,none⟩ 1 1 [.int .u8 44] rfl rfl (World.news_of_block (cs:=#[.int .u8 44]) (t:=5) (fr:=(0,0)) (heap_alloc_last wr _)) (by intro g c;simp at c;subst c;rfl) (by unfold maxLen;omega) (by omega) (by simp;omega) ?_;intro G w3 d f _ _;have q:oH (W8 B a w3):=(l.o.trans (W8.kept ((Ab.refl No wr).alloc _))).grown (b.alloc _) f;have V:oH (Dx w3 B G (T++[44])):=Dx.snoc d U.o;have a1:=Ad (q.o.row Q.o);clear d f)
     |(refine Lf 133 _ rfl rfl w.heap.size (1+i*6) rfl o (ae.o _ a1.o) ?_)
     |fail)
    have u:=Ad (H.o (T++[44]) w3 G q.o V.o (by simp;omega))
    clear H ah;refine u.o.mono ?_;rintro e w4 ⟨a0,rfl,v,x⟩;have Y:=Ad v;have Z:=Ad (q.o.trans x);clear v x u;go_wp2_with fail;go_roundg k
    case measure=>omega
    case rel =>
     refine⟨i+1,by omega,by go_num,?_,Z⟩
     show Dx _ _ _ _
     rw[ag.o,if_neg X.o]
     have:=Y.o
     rw[←S.o] at this
     simpa using this
end Go.Proofs.YtdinjjmcmfjbfaaGreatDoor
