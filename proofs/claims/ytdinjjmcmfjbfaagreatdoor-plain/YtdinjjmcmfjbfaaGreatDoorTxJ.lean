import Derived.Test.YtdinjjmcmfjbfaaGreatDoorNuJ
import Derived.Lib.BufferWrite
import Derived.Laws.Rows
import Derived.Deep.WholeRow
import Derived.OwnWalk
set_option maxRecDepth 100000
set_option maxHeartbeats 4000000
namespace Go.Proofs.YtdinjjmcmfjbfaaGreatDoor.Mo
structure dE {α:Type} (lt:α→α→Bool):Prop where
 irrefl:∀a,lt a a=false
 trans:∀a b c,lt a b=true→lt b c=true→lt a c=true
 tri:∀a b,lt a b=false→lt b a=false→a=b
theorem dE.ne {α:Type}{lt:α→α→Bool}(h:dE lt){a b:α}(c:lt a b=true):a≠b:=by
 intro e;subst e;rw[h.irrefl] at c;cases c
def Do {α:Type}[DecidableEq α](lt:α→α→Bool):List α→List α→Bool
 |_,[]=>false
 | [],_::_=>true
 |a::s,b::t=>if a=b then Do lt s t else lt a b
theorem Yd {α:Type}[DecidableEq α]{lt:α→α→Bool}(h:dE lt):dE (Do lt):=by
 refine⟨fun l=>?_,fun a=>?_,fun a=>?_⟩
 ·induction l with
  |nil=>rfl
  |cons a s k=>simp[Do,k]
 ·induction a with
  |nil=>intro b c f d;cases b <;> cases c <;> simp_all [Do]
  |cons x s k =>
   intro b c f d
   cases b with
   |nil=>simp[Do] at f
   |cons y t =>
    cases c with
    |nil=>simp[Do] at d
    |cons n q =>
     simp only[Do] at f d⊢
     by_cases g:x=y
     ·subst g
      simp at f
      by_cases m:x=n
      ·subst m;simp at d⊢;exact k t q f d
      ·simp[m] at d⊢;exact d
     ·simp[g] at f
      by_cases o:y=n
      ·subst o;simp at d;simp[g,f]
      ·simp[o] at d
       have p:=h.trans _ _ _ f d;have m:x≠n:=h.ne p
       simp[m,p]
 ·induction a with
  |nil=>intro b j i;cases b <;> simp_all [Do]
  |cons x s k =>
   intro b j i
   cases b with
   |nil=>simp[Do] at i
   |cons y t =>
    simp only[Do] at j i
    by_cases g:x=y
    ·subst g;simp at j i;rw[k t j i]
    ·have r:¬y=x:=fun e=>g e.symm
     simp[g] at j;simp[r] at i;exact absurd (h.tri _ _ j i) g
inductive V where
 |num (n:Int)
 |txt (s:List UInt8)
 deriving DecidableEq
abbrev Row:=List V
def Xq (a b:UInt8):Bool:=decide (a.toNat<b.toNat)
theorem YY:dE Xq:=⟨fun a=>by simp[Xq],fun a b c h k=>by simp[Xq] at *;omega,fun a b h k=>by simp only[Xq,decide_eq_false_iff_not] at h k;exact nA.1 (by omega)⟩
def vlt:V→V→Bool
 | .num a,.num b=>decide (a<b)
 | .num _,.txt _=>true
 | .txt _,.num _=>false
 | .txt s,.txt t=>Do Xq s t
theorem Pf:dE vlt:=by
 have d:=Yd YY
 refine⟨fun a=>?_,fun a b c h k=>?_,fun a b h k=>?_⟩
 ·cases a <;> simp[vlt,d.irrefl]
 ·cases a <;> cases b <;> cases c <;> simp_all [vlt]
  ·omega
  ·exact d.trans _ _ _ h k
 ·cases a <;> cases b <;> simp_all [vlt]
  ·omega
  ·exact d.tri _ _ h k
def Kv:Row→Row→Bool:=Do vlt
theorem D5:dE Kv:=Yd Pf
abbrev Bag:=List (Row×Int)
def cnt (l:Bag)(r:Row):Int:=match l with
 | []=>0
 |e::l=>(if e.1=r then e.2 else 0)+cnt l r
def Ce (l:Bag)(g:Row→Int):Int:=match l with
 | []=>0
 |e::l=>e.2*g e.1+Ce l g
def Be (l m:Bag):Prop:=∀r,cnt l r=cnt m r
theorem Be.refl (l:Bag):Be l l:=fun _=>rfl
theorem Be.symm {l m:Bag}(h:Be l m):Be m l:=fun r=>(h r).symm
theorem Be.trans {l m n:Bag}(h:Be l m)(k:Be m n):Be l n:=fun r=>(h r).trans (k r)
theorem Am (l m:Bag)(r:Row):cnt (l++m) r=cnt l r+cnt m r:=by
 induction l with
 |nil=>simp[cnt]
 |cons e l a=>simp[cnt,a];omega
theorem Gz (l m:Bag)(g:Row→Int):Ce (l++m) g=Ce l g+Ce m g:=by
 induction l with
 |nil=>simp[Ce]
 |cons e l a=>simp[Ce,a];omega
theorem Ev (l:Bag)(r:Row):cnt l r=Ce l (fun x=>if x=r then 1 else 0):=by
 induction l with
 |nil=>rfl
 |cons e l a=>simp only[cnt,Ce,a];split <;> simp
theorem Be.append {l a m b:Bag}(h:Be l a)(k:Be m b):Be (l++m) (a++b):=fun r=>by rw[Am,Am,h r,k r]
def neg (l:Bag):Bag:=l.map fun e=>(e.1,-e.2)
theorem Ej (l:Bag)(r:Row):cnt (neg l) r= -cnt l r:=by
 induction l with
 |nil=>rfl
 |cons e l a =>
  have:cnt (neg (e::l)) r=(if e.1=r then -e.2 else 0)+cnt (neg l) r:=rfl
  rw[this,a];simp only[cnt];split <;> omega
theorem Zt (l:Bag)(g h:Row→Int):Ce l (fun x=>g x+h x)=Ce l g+Ce l h:=by
 induction l with
 |nil=>rfl
 |cons e l a=>simp only[Ce,a,nV];omega
theorem Uy (l:Bag)(c:Int)(g:Row→Int):Ce l (fun x=>c*g x)=c*Ce l g:=by
 induction l with
 |nil=>simp[Ce]
 |cons e l a=>simp only[Ce,a,nV];rw[Int.mul_left_comm]
theorem Ro (l:Bag):Ce l (fun _=>0)=0:=by
 induction l with
 |nil=>rfl
 |cons e l a=>simp[Ce,a]
theorem Qg (l:Bag){g h:Row→Int}(a:∀e∈l,g e.1=h e.1):Ce l g=Ce l h:=by
 induction l with
 |nil=>rfl
 |cons e l b=>simp only[Ce];rw[a e (by simp),b fun x c=>a x (by simp[c])]
def Co (r:Row)(t:Int):Bag→Bag
 | []=>if t=0 then [] else [(r,t)]
 |e::l=>if Kv r e.1 then (if t=0 then e::l else (r,t)::e::l)
   else if Kv e.1 r then e::Co r t l
   else if e.2+t=0 then l else (e.1,e.2+t)::l
def Af:Bag→Bag
 | []=>[]
 |e::l=>Co e.1 e.2 (Af l)
def Cg:Bag→Prop
 | []=>True
 |e::l=>(∀x∈l,Kv e.1 x.1=true)∧e.2≠0∧Cg l
theorem Zu {r:Row}{t:Int}{l:Bag}{x:Row×Int}(a:x∈Co r t l):x.1=r∨∃y∈l,y.1=x.1:=by
 induction l with
 |nil=>simp only[Co] at a;split at a <;> simp_all
 |cons e l b =>
  simp only[Co] at a
  split at a
  ·split at a
   ·exact .inr ⟨x,a,rfl⟩
   ·rcases lQ.1 a with rfl|a
    ·exact .inl rfl
    ·exact .inr ⟨x,a,rfl⟩
  ·split at a
   ·rcases lQ.1 a with rfl|a
    ·exact .inr ⟨_,by simp,rfl⟩
    ·rcases b a with h|⟨y,c,d⟩
     ·exact .inl h
     ·exact .inr ⟨y,by simp[c],d⟩
   ·split at a
    ·exact .inr ⟨x,by simp[a],rfl⟩
    ·rcases lQ.1 a with rfl|a
     ·exact .inr ⟨e,by simp,rfl⟩
     ·exact .inr ⟨x,by simp[a],rfl⟩
theorem CD (r:Row)(t:Int){l:Bag}(g:Cg l):Cg (Co r t l):=by
 induction l with
 |nil=>simp only[Co];split <;> simp_all [Cg]
 |cons e l h =>
  obtain⟨a,d,b⟩:=g
  simp only[Co]
  split
  ·rename_i hr
   split
   ·exact⟨a,d,b⟩
   ·rename_i i
    refine⟨fun x c=>?_,i,a,d,b⟩
    rcases lQ.1 c with rfl|c
    ·exact hr
    ·exact D5.trans _ _ _ hr (a x c)
  ·split
   ·rename_i j
    refine⟨fun x c=>?_,d,h b⟩
    rcases Zu c with f|⟨y,k,f⟩
    ·rw[f];exact j
    ·rw[←f];exact a y k
   ·split
    ·exact b
    ·rename_i m
     exact⟨a,m,b⟩
theorem KT (r:Row)(t:Int)(l:Bag)(g:Row→Int):Ce (Co r t l) g=t*g r+Ce l g:=by
 induction l with
 |nil=>simp only[Co];split <;> simp_all [Ce]
 |cons e l a =>
  simp only[Co]
  split
  ·split
   ·rename_i b;simp[Ce,b]
   ·simp[Ce]
  ·split
   ·simp only[Ce,a];omega
   ·rename_i c d
    have hr:r=e.1:=D5.tri _ _ (by simpa using c) (by simpa using d)
    subst hr;have f:(e.2+t)*g e.1=e.2*g e.1+t*g e.1:=oD _ _ _
    split
    ·rename_i h;rw[h,Int.zero_mul] at f;simp only[Ce];omega
    ·simp only[Ce];omega
theorem KU (r:Row)(t:Int)(l:Bag):(Co r t l).length≤l.length+1:=by
 induction l with
 |nil=>simp only[Co];split <;> simp
 |cons e l a=>simp only[Co];split <;> (try split) <;> (try split) <;> simp <;> omega
theorem Cq (m l:Bag):(Af (m++l)).length≤m.length+(Af l).length:=by
 induction m with
 |nil=>simp
 |cons e m a=>have:=KU e.1 e.2 (Af (m++l));simp only[List.cons_append,Af,lN];omega
theorem Aq (l:Bag):Cg (Af l):=by
 induction l with
 |nil=>trivial
 |cons e l a=>exact CD _ _ a
theorem Fc (l:Bag)(g:Row→Int):Ce (Af l) g=Ce l g:=by
 induction l with
 |nil=>rfl
 |cons e l a=>simp only[Af,KT,a,Ce]
theorem As (l:Bag)(r:Row):cnt (Af l) r=cnt l r:=by
 rw[Ev,Ev,Fc]
theorem Bv (l:Bag):Be (Af l) l:=As l
theorem Lz {l:Bag}{r:Row}(h:∀x∈l,x.1≠r):cnt l r=0:=by
 induction l with
 |nil=>rfl
 |cons e l a=>simp only[cnt];rw[if_neg (h e (by simp)),a fun x b=>h x (by simp[b])];rfl
theorem Cg.Dl {l:Bag}(c:Cg l){x:Row×Int}(a:x∈l):cnt l x.1=x.2:=by
 induction l with
 |nil=>cases a
 |cons e l d =>
  obtain⟨b,_,f⟩:=c
  simp only[cnt]
  rcases lQ.1 a with rfl|a
  ·rw[if_pos rfl,Lz fun y g h=>D5.ne (b y g) h.symm];omega
  ·rw[if_neg (D5.ne (b x a)),d f a];omega
theorem Cg.Dd {l:Bag}{r:Row}(h:cnt l r≠0):∃x∈l,x.1=r:=by
 refine Classical.byContradiction fun a=>h (Lz fun x b e=>a ⟨x,b,e⟩)
theorem Cg.nz {l:Bag}(b:Cg l){x:Row×Int}(a:x∈l):x.2≠0:=by
 induction l with
 |nil=>cases a
 |cons e l c =>
  obtain⟨_,d,f⟩:=b
  rcases lQ.1 a with rfl|a
  ·exact d
  ·exact c f a
theorem Cg.uniq {l m:Bag}(c:Cg l)(d:Cg m)(f:Be l m):l=m:=by
 induction l generalizing m with
 |nil =>
  cases m with
  |nil=>rfl
  |cons y m =>
   have:=f y.1
   rw[d.Dl (by simp)] at this
   exact absurd this.symm d.2.1
 |cons x l n =>
  cases m with
  |nil =>
   have:=f x.1
   rw[c.Dl (by simp)] at this
   exact absurd this c.2.1
  |cons y m =>
   have key:∀{a b:Row×Int} {l m:Bag},Cg (a::l)→Cg (b::m)→Be (a::l) (b::m)→Kv a.1 b.1=false:=by
    intro a b l m i o p
    cases j:Kv a.1 b.1
    ·rfl
    ·exfalso
     have g:=p a.1
     rw[i.Dl (by simp)] at g
     have:cnt (b::m) a.1=0:=Lz fun q h e=>by
      rcases lQ.1 h with rfl|h
      ·exact D5.ne j e.symm
      ·exact D5.ne (D5.trans _ _ _ j (o.1 q h)) e.symm
     rw[this] at g;exact i.2.1 g
   have k:x.1=y.1:=D5.tri _ _ (key c d f) (key d c f.symm)
   have s:x.2=y.2:=by
    have:=f x.1
    rw[c.Dl (by simp),k,d.Dl (by simp)] at this;exact this
   have t:x=y:=Prod.ext k s;subst t
   congr 1
   refine n c.2.2 d.2.2 fun r=>?_
   have:=f r
   simp only[cnt] at this;omega
theorem Be.canon {l m:Bag}(a:Be l m):Af l=Af m :=
 (Aq l).uniq (Aq m) (((Bv l).trans a).trans (Bv m).symm)
theorem Ch {l:Bag}(a:Cg l):Mo.Af l=l:=(Aq l).uniq a (Bv l)
theorem Be.lin {l m:Bag}(a:Be l m)(g:Row→Int):Ce l g=Ce m g:=by
 rw[←Fc l,←Fc m,a.canon]
theorem Be.neg {l m:Bag}(a:Be l m):Be (neg l) (Mo.neg m):=fun r=>by rw[Ej,Ej,a r]
end Go.Proofs.YtdinjjmcmfjbfaaGreatDoor.Mo
namespace Go.Proofs.YtdinjjmcmfjbfaaGreatDoor
open Go.RowKit
open Mo (V Row)
def kI:V→Int
 | .num _=>0
 | .txt _=>1
def tB (v:V)(i:Nat):Int:=match v with
 | .num _=>0
 | .txt s=>((s.getD i 0).toNat:Int)
def nI:V→Int
 | .num n=>n
 | .txt _=>0
def Au (v:V):List Value:=[.int .i32 (kI v),.int .u8 (tB v 0),.int .u8 (tB v 1),.int .u8 (tB v 2),.int .u8 (tB v 3),.int .i64 (nI v)]
def J8 (v:V):Value:=.agg (Au v).toArray
def Rj:V→Prop
 | .num n=> -9223372036854775808≤n∧n≤9223372036854775807
 | .txt s=>1≤s.length∧s.length≤4∧∀c∈s,97≤c.toNat∧c.toNat≤122
theorem Gl (v:V):(Au v).length=6:=rfl
theorem Rp (v:V)(i:Nat):0≤tB v i∧tB v i≤255:=by
 cases v with
 |num n=>simp[tB]
 |txt s=>simp only[tB];have:=UInt8.toNat_lt (s.getD i 0);omega
theorem SF (v:V):kI v=0∨kI v=1:=by cases v <;> simp[kI]
theorem SG {v:V}(h:Rj v): -9223372036854775808≤nI v∧nI v≤9223372036854775807:=by
 cases v with
 |num n=>exact h
 |txt s=>simp[nI]
theorem YZ {s t:List UInt8}(_:s.length≤4)(_:t.length≤4)(f:∀c∈s,97≤c.toNat)(g:∀c∈t,97≤c.toNat)(h:∀i,i<4→tB (.txt s) i=tB (.txt t) i):s=t:=by
 refine mG fun i=>?_
 by_cases hi:i<4
 ·have a:=h i hi
  simp only[tB,lI] at a
  cases e:s[i]? with
  |none =>
   cases b:t[i]? with
   |none=>rfl
   |some c =>
    rw[e,b] at a
    have:=g c (kW b)
    simp at a;omega
  |some c =>
   cases b:t[i]? with
   |none =>
    rw[e,b] at a
    have:=f c (kW e)
    simp at a;omega
   |some d =>
    rw[e,b] at a
    have:c.toNat=d.toNat:=by simp at a;omega
    rw[nA.1 this]
 ·rw[mD (by omega),mD (by omega)]
theorem SH {v a:V}(hv:Rj v)(d:Rj a)(h:Au v=Au a):v=a:=by
 simp only[Au,List.cons.injEq,Value.int.injEq,true_and,and_true] at h
 obtain⟨e,g,j,k,l,f⟩:=h
 cases v with
 |num n=>cases a with
  |num m=>simp only[nI] at f;rw[f]
  |txt t=>simp[kI] at e
 |txt s=>cases a with
  |num m=>simp[kI] at e
  |txt t =>
   rw[YZ hv.2.1 d.2.1 (fun c b=>(hv.2.2 c b).1) (fun c b=>(d.2.2 c b).1) (fun i hi=>?_)]
   match i,hi with
   |0,_=>exact g
   |1,_=>exact j
   |2,_=>exact k
   |3,_=>exact l
def Hw (w:World)(v:Value)(r:Row):Prop:=∃b o cap c z,v=.slice (some ⟨b,o,none⟩) r.length cap∧w.heap[b]? =some (.cells c 133 z)∧r.length≤cap ∧
 ∀i v,r[i]? =some v→∀j x,(Au v)[j]? =some x→c[o+i*6+j]? =some x
theorem Hw.kept {S:Nat→Prop}{w w':World}{v:Value}{r:Row}(h:Hw w v r)(k:Ab S w w')(f:∀i,S i→¬Is 133 w i):Hw w' v r:=by
 obtain⟨b,o,cap,c,d,e,a,g⟩:=h
 exact⟨b,o,cap,c,d,e,(k.block b (Aa a) (fun j=>f b j ⟨c,d,a⟩)).trans a,g⟩
theorem Hw.Ah {w w':World}{v:Value}{r:Row}(h:Hw w v r)(k:Ab No w w'):Hw w' v r:=h.kept k (fun _ e=>e.elim)
theorem SI:(Tryz.prog.info? 133).map (·.size)=some 6:=by kernel_rfl
theorem gI:(Tryz.prog.info? 5).map (·.size)=some 1:=by kernel_rfl
theorem Rr (n:Int)(w:World):Calls Tryz.prog 163 #[.int .i64 n] w fun e w'=>e=.returned (.agg #[.int .i32 0,.int .u8 0,.int .u8 0,.int .u8 0,.int .u8 0,.int .i64 n])∧Ab No w w':=by
 go_enter Tryz.func163,Tryz.ntmps163
 go_wp2_with fail
 (try simp only[Exit.inBlock,Exit.then])
 refine bodyPost_ret (results_cell_row rfl _ _ w.heap.size 133 _ (0,0) _ rfl (heap_alloc_last _ _) Tryz.underlying133 rfl SI) rfl ?_
 exact⟨rfl,(Ab.refl _ _).alloc _⟩
theorem NF (l:List UInt8)(h:l.length≤4) :
 ([.int .i32 1,.int .u8 0,.int .u8 0,.int .u8 0,.int .u8 0,.int .i64 0]:List Value).take 1++Lib.byteCells l++([.int .i32 1,.int .u8 0,.int .u8 0,.int .u8 0,.int .u8 0,.int .i64 0]:List Value).drop (1+l.length)=Au (.txt l):=by
 match l,h with
 | [],_=>rfl
 | [a],_=>rfl
 | [a,b],_=>rfl
 | [a,b,c],_=>rfl
 | [a,b,c,d],_=>rfl
theorem SJ (W:World)(g:Nat)(hg:g=W.heap.size)(s:ByteArray)(a:s.size≤4) :
 (Builtin.copy_ #[149,9] 3 #[.slice (some ⟨g,1,none⟩) 4 4,.string s]).run Tryz.prog (W.alloc (.cells #[.int .i32 1,.int .u8 0,.int .u8 0,.int .u8 0,.int .u8 0,.int .i64 0] 133)) =
  .ok (goInt s.size) (W.alloc (.cells #[.int .i32 1,.int .u8 (tB (.txt s.data.toList) 0),.int .u8 (tB (.txt s.data.toList) 1),.int .u8 (tB (.txt s.data.toList) 2),.int .u8 (tB (.txt s.data.toList) 3),.int .i64 0] 133)):=by
 subst hg
 have b:s.data.toList.length=s.size:=by rw[Array.length_toList];rfl
 rw[Lib.run_copy_row_string _ _ _ _ 5 W.heap.size 1 4 4 s _ _ Tryz.underlying149 gI (heap_alloc_last W _) a (by simp;omega),World.setRow_alloc_new]
 have:=NF s.data.toList (by omega)
 rw[b] at this
 simp only[this]
 rfl
theorem GP (s:ByteArray)(a:s.size≤4)(w:World):Calls Tryz.prog 160 #[.string s] w fun e w'=>e=.returned (.agg #[.int .i32 1,.int .u8 (tB (.txt s.data.toList) 0),.int .u8 (tB (.txt s.data.toList) 1),.int .u8 (tB (.txt s.data.toList) 2),.int .u8 (tB (.txt s.data.toList) 3),.int .i64 0])∧Ab No w w':=by
 have b:=SJ (w.alloc (.cells #[.int .i32 0,.int .u8 0,.int .u8 0,.int .u8 0,.int .u8 0,.int .i64 0] 133)) (w.heap.size+1) (by simp) s a
 generalize tB (.txt s.data.toList) 0=c at *;generalize tB (.txt s.data.toList) 1=d at *;generalize tB (.txt s.data.toList) 2=f at *;generalize tB (.txt s.data.toList) 3=g at *
 go_enter Tryz.func160,Tryz.ntmps160
 go_wp2_with fail
 (try simp only[Exit.inBlock,Exit.then])
 refine bodyPost_ret (results_cell_row rfl _ _ w.heap.size 133 _ (0,0) _ rfl (heap_alloc2_old _ _ _) Tryz.underlying133 rfl SI) rfl ?_
 exact⟨rfl,((Ab.refl _ _).alloc _).alloc _⟩
end Go.Proofs.YtdinjjmcmfjbfaaGreatDoor
