import Derived.Test.YtdinjjmcmfjbfaaGreatDoorNuJ
import Derived.Lib.BufferWrite
import Derived.Laws.Rows
import Derived.Deep.WholeRow
import Derived.OwnWalk
set_option maxRecDepth 100000
set_option maxHeartbeats 4000000
namespace Go.Proofs.YtdinjjmcmfjbfaaGreatDoor.Mo
structure mJ {α:Type} (lt:α→α→Bool):Prop where
 irrefl:∀a,lt a a=false
 trans:∀a b c,lt a b=true→lt b c=true→lt a c=true
 tri:∀a b,lt a b=false→lt b a=false→a=b
theorem mJ.ne {α:Type}{lt:α→α→Bool}(h:mJ lt){a b:α}(c:lt a b=true):a≠b:=by
 intro e;subst e;rw[h.irrefl] at c;cases c
def Ef {α:Type}[DecidableEq α](lt:α→α→Bool):List α→List α→Bool
 |_,[]=>false
 | [],_::_=>true
 |a::s,b::t=>if a=b then Ef lt s t else lt a b
theorem BA {α:Type}[DecidableEq α]{lt:α→α→Bool}(h:mJ lt):mJ (Ef lt):=by
 refine⟨fun l=>?_,fun a=>?_,fun a=>?_⟩
 ·induction l with
  |nil=>rfl
  |cons a s k=>simp[Ef,k]
 ·induction a with
  |nil=>intro b c f d;cases b <;> cases c <;> simp_all [Ef]
  |cons x s k =>
   intro b c f d;cases b with
   |nil=>simp[Ef] at f
   |cons y t =>
    cases c with
    |nil=>simp[Ef] at d
    |cons n q =>
     simp only[Ef] at f d⊢;by_cases g:x=y
     ·subst g;simp at f;by_cases m:x=n
      ·subst m;simp at d⊢;exact k t q f d
      simp[m] at d⊢;exact d
     simp[g] at f;by_cases o:y=n
     ·subst o;simp at d;simp[g,f]
     simp[o] at d;have p:=h.trans _ _ _ f d;have m:x≠n:=h.ne p;simp[m,p]
 induction a with
 |nil=>intro b j i;cases b <;> simp_all [Ef]
 |cons x s k =>
  intro b j i;cases b with
  |nil=>simp[Ef] at i
  |cons y t =>
   simp only[Ef] at j i;by_cases g:x=y
   ·subst g;simp at j i;rw[k t j i]
   have r:¬y=x:=fun e=>g e.symm;simp[g] at j;simp[r] at i;exact absurd (h.tri _ _ j i) g
inductive V where
 |num (n:Int)
 |txt (s:List UInt8)
 deriving DecidableEq
abbrev Row:=List V
def AG (a b:UInt8):Bool:=decide (a.toNat<b.toNat)
theorem iB:mJ AG:=⟨fun a=>by simp[AG],fun a b c h k=>by simp[AG] at *;omega,fun a b h k=>by simp only[AG,decide_eq_false_iff_not] at h k;exact wK.1 (by omega)⟩
def vlt:V→V→Bool
 | .num a,.num b=>decide (a<b)
 | .num _,.txt _=>true
 | .txt _,.num _=>false
 | .txt s,.txt t=>Ef AG s t
theorem Rp:mJ vlt:=by
 have d:=BA iB;refine⟨fun a=>?_,fun a b c h k=>?_,fun a b h k=>?_⟩
 ·cases a <;> simp[vlt,d.irrefl]
 ·cases a <;> cases b <;> cases c <;> simp_all [vlt]
  ·omega
  exact d.trans _ _ _ h k
 cases a <;> cases b <;> simp_all [vlt]
 ·omega
 exact d.tri _ _ h k
def Ju:Row→Row→Bool:=Ef vlt
theorem Do:mJ Ju:=BA Rp
abbrev Bag:=List (Row×Int)
def cnt (l:Bag)(r:Row):Int:=match l with
 | []=>0
 |e::l=>(if e.1=r then e.2 else 0)+cnt l r
def Ci (l:Bag)(g:Row→Int):Int:=match l with
 | []=>0
 |e::l=>e.2*g e.1+Ci l g
def A9 (l m:Bag):Prop:=∀r,cnt l r=cnt m r
theorem A9.refl (l:Bag):A9 l l:=fun _=>rfl
theorem A9.symm {l m:Bag}(h:A9 l m):A9 m l:=fun r=>(h r).symm
theorem A9.trans {l m n:Bag}(h:A9 l m)(k:A9 m n):A9 l n:=fun r=>(h r).trans (k r)
theorem Ah (l m:Bag)(r:Row):cnt (l++m) r=cnt l r+cnt m r:=by
 induction l with
 |nil=>simp[cnt]
 |cons e l a=>simp[cnt,a];omega
theorem D3 (l m:Bag)(g:Row→Int):Ci (l++m) g=Ci l g+Ci m g:=by
 induction l with
 |nil=>simp[Ci]
 |cons e l a=>simp[Ci,a];omega
theorem B1 (l:Bag)(r:Row):cnt l r=Ci l (fun x=>if x=r then 1 else 0):=by
 induction l with
 |nil=>rfl
 |cons e l a=>simp only[cnt,Ci,a];split <;> simp
theorem A9.append {l a m b:Bag}(h:A9 l a)(k:A9 m b):A9 (l++m) (a++b):=fun r=>by rw[Ah,Ah,h r,k r]
def neg (l:Bag):Bag:=l.map fun e=>(e.1,-e.2)
theorem Ew (l:Bag)(r:Row):cnt (neg l) r= -cnt l r:=by
 induction l with
 |nil=>rfl
 |cons e l a =>have:cnt (neg (e::l)) r=(if e.1=r then -e.2 else 0)+cnt (neg l) r:=rfl;rw[this,a];simp only[cnt];split <;> omega
theorem Tq (l:Bag)(g h:Row→Int):Ci l (fun x=>g x+h x)=Ci l g+Ci l h:=by
 induction l with
 |nil=>rfl
 |cons e l a=>simp only[Ci,a,wX];omega
theorem Ks (l:Bag)(c:Int)(g:Row→Int):Ci l (fun x=>c*g x)=c*Ci l g:=by
 induction l with
 |nil=>simp[Ci]
 |cons e l a=>simp only[Ci,a,wX];rw[Int.mul_left_comm]
theorem Nq (l:Bag):Ci l (fun _=>0)=0:=by
 induction l with
 |nil=>rfl
 |cons e l a=>simp[Ci,a]
theorem Eg (l:Bag){g h:Row→Int}(a:∀e∈l,g e.1=h e.1):Ci l g=Ci l h:=by
 induction l with
 |nil=>rfl
 |cons e l b=>simp only[Ci];rw[a e (by simp),b fun x c=>a x (by simp[c])]
def C5 (r:Row)(t:Int):Bag→Bag
 | []=>if t=0 then [] else [(r,t)]
 |e::l=>if Ju r e.1 then (if t=0 then e::l else (r,t)::e::l)
   else if Ju e.1 r then e::C5 r t l
   else if e.2+t=0 then l else (e.1,e.2+t)::l
def Ad:Bag→Bag
 | []=>[]
 |e::l=>C5 e.1 e.2 (Ad l)
def Ck:Bag→Prop
 | []=>True
 |e::l=>(∀x∈l,Ju e.1 x.1=true)∧e.2≠0∧Ck l
theorem DP {r:Row}{t:Int}{l:Bag}{x:Row×Int}(a:x∈C5 r t l):x.1=r∨∃y∈l,y.1=x.1:=by
 induction l with
 |nil=>simp only[C5] at a;split at a <;> simp_all
 |cons e l b =>
  simp only[C5] at a;split at a
  ·split at a
   ·exact .inr ⟨x,a,rfl⟩
   rcases uP.1 a with rfl|a
   ·exact .inl rfl
   exact .inr ⟨x,a,rfl⟩
  split at a
  ·rcases uP.1 a with rfl|a
   ·exact .inr ⟨_,by simp,rfl⟩
   rcases b a with h|⟨y,c,d⟩
   ·exact .inl h
   exact .inr ⟨y,by simp[c],d⟩
  split at a
  ·exact .inr ⟨x,by simp[a],rfl⟩
  rcases uP.1 a with rfl|a
  ·exact .inr ⟨e,by simp,rfl⟩
  exact .inr ⟨x,by simp[a],rfl⟩
theorem GL (r:Row)(t:Int){l:Bag}(g:Ck l):Ck (C5 r t l):=by
 induction l with
 |nil=>simp only[C5];split <;> simp_all [Ck]
 |cons e l h =>
  obtain⟨a,d,b⟩:=g;simp only[C5];split
  ·rename_i hr;split
   ·exact⟨a,d,b⟩
   rename_i i;refine⟨fun x c=>?_,i,a,d,b⟩;rcases uP.1 c with rfl|c
   ·exact hr
   exact Do.trans _ _ _ hr (a x c)
  split
  ·rename_i j;refine⟨fun x c=>?_,d,h b⟩;rcases DP c with f|⟨y,k,f⟩
   ·rw[f];exact j
   rw[←f];exact a y k
  split
  ·exact b
  rename_i m;exact⟨a,m,b⟩
theorem RE (r:Row)(t:Int)(l:Bag)(g:Row→Int):Ci (C5 r t l) g=t*g r+Ci l g:=by
 induction l with
 |nil=>simp only[C5];split <;> simp_all [Ci]
 |cons e l a =>
  simp only[C5];split
  ·split
   ·rename_i b;simp[Ci,b]
   simp[Ci]
  split
  ·simp only[Ci,a];omega
  rename_i c d;have hr:r=e.1:=Do.tri _ _ (by simpa using c) (by simpa using d);subst hr;have f:(e.2+t)*g e.1=e.2*g e.1+t*g e.1:=xG _ _ _;split
  ·rename_i h;rw[h,Int.zero_mul] at f;simp only[Ci];omega
  simp only[Ci];omega
theorem RF (r:Row)(t:Int)(l:Bag):(C5 r t l).length≤l.length+1:=by
 induction l with
 |nil=>simp only[C5];split <;> simp
 |cons e l a=>simp only[C5];split <;> (try split) <;> (try split) <;> simp <;> omega
theorem A3 (m l:Bag):(Ad (m++l)).length≤m.length+(Ad l).length:=by
 induction m with
 |nil=>simp
 |cons e m a=>have:=RF e.1 e.2 (Ad (m++l));simp only[List.cons_append,Ad,uO];omega
theorem Ap (l:Bag):Ck (Ad l):=by
 induction l with
 |nil=>trivial
 |cons e l a=>exact GL _ _ a
theorem F9 (l:Bag)(g:Row→Int):Ci (Ad l) g=Ci l g:=by
 induction l with
 |nil=>rfl
 |cons e l a=>simp only[Ad,RE,a,Ci]
theorem Aq (l:Bag)(r:Row):cnt (Ad l) r=cnt l r:=by
 rw[B1,B1,F9]
theorem Bc (l:Bag):A9 (Ad l) l:=Aq l
theorem Dq {l:Bag}{r:Row}(h:∀x∈l,x.1≠r):cnt l r=0:=by
 induction l with
 |nil=>rfl
 |cons e l a=>simp only[cnt];rw[if_neg (h e (by simp)),a fun x b=>h x (by simp[b])];rfl
theorem Ck.Df {l:Bag}(c:Ck l){x:Row×Int}(a:x∈l):cnt l x.1=x.2:=by
 induction l with
 |nil=>cases a
 |cons e l d =>
  obtain⟨b,_,f⟩:=c;simp only[cnt];rcases uP.1 a with rfl|a
  ·rw[if_pos rfl,Dq fun y g h=>Do.ne (b y g) h.symm];omega
  rw[if_neg (Do.ne (b x a)),d f a];omega
theorem Ck.Cq {l:Bag}{r:Row}(h:cnt l r≠0):∃x∈l,x.1=r:=by
 refine Classical.byContradiction fun a=>h (Dq fun x b e=>a ⟨x,b,e⟩)
theorem Ck.nz {l:Bag}(b:Ck l){x:Row×Int}(a:x∈l):x.2≠0:=by
 induction l with
 |nil=>cases a
 |cons e l c =>
  obtain⟨_,d,f⟩:=b;rcases uP.1 a with rfl|a
  ·exact d
  exact c f a
theorem Ck.uniq {l m:Bag}(c:Ck l)(d:Ck m)(f:A9 l m):l=m:=by
 induction l generalizing m with
 |nil =>
  cases m with
  |nil=>rfl
  |cons y m =>have:=f y.1;rw[d.Df (by simp)] at this;exact absurd this.symm d.2.1
 |cons x l n =>
  cases m with
  |nil =>have:=f x.1;rw[c.Df (by simp)] at this;exact absurd this c.2.1
  |cons y m =>
   have key:∀{a b:Row×Int} {l m:Bag},Ck (a::l)→Ck (b::m)→A9 (a::l) (b::m)→Ju a.1 b.1=false:=by
    intro a b l m i o p;cases j:Ju a.1 b.1
    ·rfl
    exfalso;have g:=p a.1;rw[i.Df (by simp)] at g;have:cnt (b::m) a.1=0:=Dq fun q h e=>by
     rcases uP.1 h with rfl|h
     ·exact Do.ne j e.symm
     exact Do.ne (Do.trans _ _ _ j (o.1 q h)) e.symm
    rw[this] at g;exact i.2.1 g
   have k:x.1=y.1:=Do.tri _ _ (key c d f) (key d c f.symm);have s:x.2=y.2:=(by have:=f x.1;rw[c.Df (by simp),k,d.Df (by simp)] at this;exact this);have t:x=y:=Prod.ext k s;subst t;congr 1;refine n c.2.2 d.2.2 fun r=>?_;have:=f r;simp only[cnt] at this;omega
theorem A9.canon {l m:Bag}(a:A9 l m):Ad l=Ad m :=
 (Ap l).uniq (Ap m) (((Bc l).trans a).trans (Bc m).symm)
theorem Bp {l:Bag}(a:Ck l):Ad l=l:=(Ap l).uniq a (Bc l)
theorem A9.lin {l m:Bag}(a:A9 l m)(g:Row→Int):Ci l g=Ci m g:=by
 rw[←F9 l,←F9 m,a.canon]
theorem A9.neg {l m:Bag}(a:A9 l m):A9 (neg l) (Mo.neg m):=fun r=>by rw[Ew,Ew,a r]
end Go.Proofs.YtdinjjmcmfjbfaaGreatDoor.Mo
namespace Go.Proofs.YtdinjjmcmfjbfaaGreatDoor
open Go.RowKit Mo Pl Tryz
def kI:V→Int
 | .num _=>0
 | .txt _=>1
def tB (v:V)(i:Nat):Int:=match v with
 | .num _=>0
 | .txt s=>((s.getD i 0).toNat:Int)
abbrev E1(v:V)(i:Nat):Value:=.int .u8 (tB v i)
def nI:V→Int
 | .num n=>n
 | .txt _=>0
def A2 (v:V):List Value:=[.int .i32 (kI v),.int .u8 (tB v 0),.int .u8 (tB v 1),.int .u8 (tB v 2),.int .u8 (tB v 3),.int .i64 (nI v)]
def Ex (v:V):Value:=.agg (A2 v).toArray
def Mh:V→Prop
 | .num n=> -9223372036854775808≤n∧n≤9223372036854775807
 | .txt s=>1≤s.length∧s.length≤4∧∀c∈s,97≤c.toNat∧c.toNat≤122
theorem Gv (v:V):(A2 v).length=6:=rfl
theorem Tt (v:V)(i:Nat):0≤tB v i∧tB v i≤255:=by
 cases v with
 |num n=>simp[tB]
 |txt s=>simp only[tB];have:=UInt8.toNat_lt (s.getD i 0);omega
theorem ZU (v:V):kI v=0∨kI v=1:=by cases v <;> simp[kI]
theorem ZV {v:V}(h:Mh v): -9223372036854775808≤nI v∧nI v≤9223372036854775807:=by
 cases v with
 |num n=>exact h
 |txt s=>simp[nI]
theorem iC {s t:List UInt8}(_:s.length≤4)(_:t.length≤4)(f:∀c∈s,97≤c.toNat)(g:∀c∈t,97≤c.toNat)(h:∀i,i<4→tB (.txt s) i=tB (.txt t) i):s=t:=by
 refine vN fun i=>?_;by_cases hi:i<4
 ·have a:=h i hi;simp only[tB,uH] at a;cases e:s[i]? with
  |none =>
   cases b:t[i]? with
   |none=>rfl
   |some c =>rw[e,b] at a;have:=g c (tV b);simp at a;omega
  |some c =>
   cases b:t[i]? with
   |none =>rw[e,b] at a;have:=f c (tV e);simp at a;omega
   |some d =>rw[e,b] at a;have:c.toNat=d.toNat:=(by simp at a;omega);rw[wK.1 this]
 rw[vK (by omega),vK (by omega)]
theorem GM {v a:V}(hv:Mh v)(d:Mh a)(h:A2 v=A2 a):v=a:=by
 simp only[A2,List.cons.injEq,Value.int.injEq,true_and,and_true] at h;obtain⟨e,g,j,k,l,f⟩:=h;cases v with
 |num n=>cases a with
  |num m=>simp only[nI] at f;rw[f]
  |txt t=>simp[kI] at e
 |txt s=>cases a with
  |num m=>simp[kI] at e
  |txt t =>
   rw[iC hv.2.1 d.2.1 (fun c b=>(hv.2.2 c b).1) (fun c b=>(d.2.2 c b).1) (fun i hi=>?_)]
   match i,hi with
   |0,_=>exact g
   |1,_=>exact j
   |2,_=>exact k
   |3,_=>exact l
def Jc (w:World)(v:Value)(r:Row):Prop:=∃b o cap c z,v=.slice (some ⟨b,o,none⟩) r.length cap∧w.heap[b]? =some (.cells c 133 z)∧r.length≤cap ∧
 ∀i v,r[i]? =some v→∀j x,(A2 v)[j]? =some x→c[o+i*6+j]? =some x
theorem Jc.kept {S:Nat→Prop}{w w':World}{v:Value}{r:Row}(h:Jc w v r)(k:Ab S w w')(f:∀i,S i→¬Is 133 w i):Jc w' v r:=by
 obtain⟨b,o,cap,c,d,e,a,g⟩:=h;exact⟨b,o,cap,c,d,e,(k.block b (Aa a) (fun j=>f b j ⟨c,d,a⟩)).trans a,g⟩
theorem Jc.Ag {w w':World}{v:Value}{r:Row}(h:Jc w v r)(k:Ab No w w'):Jc w' v r:=h.kept k (fun _ e=>e.elim)
theorem ZW:(prog.info? 133).map (·.size)=some 6:=by kernel_rfl
theorem qO:(prog.info? 5).map (·.size)=some 1:=by kernel_rfl
theorem Tu (n:Int)(w:World):Calls prog 163 #[.int .i64 n] w fun e w'=>e=.returned (.agg #[.int .i32 0,.int .u8 0,.int .u8 0,.int .u8 0,.int .u8 0,.int .i64 n])∧Ab No w w':=by
 go_enter func163,ntmps163;go_wp21
 (try simp only[Exit.inBlock,Exit.then])
 refine bodyPost_ret (results_cell_row rfl _ _ w.heap.size 133 _ (0,0) _ rfl (heap_alloc_last _ _) underlying133 rfl ZW) rfl ?_;exact⟨rfl,(Ab.refl _ _).alloc _⟩
theorem UI (l:List UInt8)(h:l.length≤4) :
 ([.int .i32 1,.int .u8 0,.int .u8 0,.int .u8 0,.int .u8 0,.int .i64 0]:List Value).take 1++Lib.byteCells l++([.int .i32 1,.int .u8 0,.int .u8 0,.int .u8 0,.int .u8 0,.int .i64 0]:List Value).drop (1+l.length)=A2 (.txt l):=by
 match l,h with
 | [],_=>rfl
 | [a],_=>rfl
 | [a,b],_=>rfl
 | [a,b,c],_=>rfl
 | [a,b,c,d],_=>rfl
theorem ZX (W:World)(g:Nat)(hg:g=W.heap.size)(s:ByteArray)(a:s.size≤4) :
 (Builtin.copy_ #[149,9] 3 #[.slice (some ⟨g,1,none⟩) 4 4,.string s]).run prog (W.alloc (.cells #[.int .i32 1,.int .u8 0,.int .u8 0,.int .u8 0,.int .u8 0,.int .i64 0] 133)) =
  .ok (goInt s.size) (W.alloc (.cells #[.int .i32 1,.int .u8 (tB (.txt s.data.toList) 0),.int .u8 (tB (.txt s.data.toList) 1),.int .u8 (tB (.txt s.data.toList) 2),.int .u8 (tB (.txt s.data.toList) 3),.int .i64 0] 133)):=by
 subst hg;have b:s.data.toList.length=s.size:=by rw[Array.length_toList];rfl
 rw[Lib.run_copy_row_string _ _ _ _ 5 W.heap.size 1 4 4 s _ _ underlying149 qO (heap_alloc_last W _) a (by simp;omega),World.setRow_alloc_new];have:=UI s.data.toList (by omega);rw[b] at this;simp only[this];rfl
theorem MT (s:ByteArray)(a:s.size≤4)(w:World):Calls prog 160 #[.string s] w fun e w'=>e=.returned (.agg #[.int .i32 1,.int .u8 (tB (.txt s.data.toList) 0),.int .u8 (tB (.txt s.data.toList) 1),.int .u8 (tB (.txt s.data.toList) 2),.int .u8 (tB (.txt s.data.toList) 3),.int .i64 0])∧Ab No w w':=by
 have b:=ZX (w.alloc (.cells #[D4,C4,C4,C4,C4,D2] 133)) (w.heap.size+1) (by simp) s a;generalize tB (.txt s.data.toList) 0=c at *;generalize tB (.txt s.data.toList) 1=d at *;generalize tB (.txt s.data.toList) 2=f at *;generalize tB (.txt s.data.toList) 3=g at *;go_enter func160,ntmps160;go_wp21
 (try simp only[Exit.inBlock,Exit.then])
 refine bodyPost_ret (results_cell_row rfl _ _ w.heap.size 133 _ (0,0) _ rfl (heap_alloc2_old _ _ _) underlying133 rfl ZW) rfl ?_;exact⟨rfl,((Ab.refl _ _).alloc _).alloc _⟩
end Go.Proofs.YtdinjjmcmfjbfaaGreatDoor
