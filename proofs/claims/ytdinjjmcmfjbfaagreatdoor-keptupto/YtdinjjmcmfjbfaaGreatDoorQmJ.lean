import Derived.Test.YtdinjjmcmfjbfaaGreatDoorProg
import Derived.RowKit
import Derived.WalkKit
import Derived.WalkSpells
import Derived.WalkLawsBesides
import Derived.Deep.QuietTactic
import Derived.BigQuiet
import Derived.Maps.OwnSet
import Derived.Maps.OwnOps
import Derived.Maps.RangeWalk
import Derived.DeepKeys4
import Derived.Deep.LoopGhost
namespace Go.Proofs.YtdinjjmcmfjbfaaGreatDoor
open Go.RowKit
structure Kept (S:Nat→Prop) (w w':World):Prop where
 os:w'.os=w.os
 tape:w'.tape=w.tape
 output:w'.output=w.output
 size:w.heap.size≤w'.heap.size
 block:∀ k,k<w.heap.size→¬S k→w'.heap[k]? =w.heap[k]?
def No:Nat→Prop:=fun _=>False
theorem Kept.refl (S:Nat→Prop) (w:World):Kept S w w:=⟨rfl,rfl,rfl,Nat.le_refl _,fun _ _ _=>rfl⟩
theorem Kept.trans {S T U:Nat→Prop} {a b c:World} (h:Kept S a b) (k:Kept T b c) (h1:∀ i,S i→U i) (h2:∀ i,i<a.heap.size→T i→U i):Kept U a c :=
 ⟨k.os.trans h.os,k.tape.trans h.tape,k.output.trans h.output,Nat.le_trans h.size k.size,fun i hi hU =>
  (k.block i (Nat.lt_of_lt_of_le hi h.size) (fun e=>hU (h2 i hi e))).trans (h.block i hi (fun e=>hU (h1 i e)))⟩
theorem Kept.seq {S:Nat→Prop} {a b c:World} (h:Kept S a b) (k:Kept S b c):Kept S a c:=h.trans k (fun _ e=>e) (fun _ _ e=>e)
theorem Kept.seqNo {S:Nat→Prop} {a b c:World} (h:Kept S a b) (k:Kept No b c):Kept S a c:=h.trans k (fun _ e=>e) (fun _ _ e=>e.elim)
theorem Kept.noSeq {S:Nat→Prop} {a b c:World} (h:Kept No a b) (k:Kept S b c):Kept S a c:=h.trans k (fun _ e=>e.elim) (fun _ _ e=>e)
theorem Kept.mono {S T:Nat→Prop} {a b:World} (h:Kept S a b) (hS:∀ i,i<a.heap.size→S i→T i):Kept T a b :=
 ⟨h.os,h.tape,h.output,h.size,fun i hi hT=>h.block i hi (fun e=>hT (hS i hi e))⟩
theorem Kept.any {S:Nat→Prop} {a b:World} (h:Kept No a b):Kept S a b:=h.mono fun _ _ e=>e.elim
theorem Kept.drewN {S:Nat→Prop} {a w:World} (h:Kept S a w) (n:Nat):Kept S a (w.drewN n):=⟨h.os,h.tape,h.output,h.size,h.block⟩
theorem Kept.drew {S:Nat→Prop} {a w:World} (h:Kept S a w):Kept S a w.drew:=⟨h.os,h.tape,h.output,h.size,h.block⟩
theorem Kept.setCell {S:Nat→Prop} {a w:World} (h:Kept S a w) {g o:Nat} (hg:a.heap.size≤g∨S g) (u:Value):Kept S a (w.setCell ⟨g,o,none⟩ u) :=
 ⟨h.os,h.tape,h.output,by simpa [World.setCell] using h.size,fun k hk hS=>(Below.heap_setCell _ _ _ _ (by show k≠g;rintro rfl;rcases hg with hg | hg;omega;exact hS hg)).trans (h.block k hk hS)⟩
theorem Kept.alloc {S:Nat→Prop} {a w:World} (h:Kept S a w) (o:Obj):Kept S a (w.alloc o) :=
 ⟨h.os,h.tape,h.output,Nat.le_trans h.size (by simp),fun k hk hS=>(Below.heap_alloc _ _ _ (Nat.lt_of_lt_of_le hk h.size)).trans (h.block k hk hS)⟩
theorem Kept.grown {S:Nat→Prop} {a w w':World} {row:Option Nat} (h:Kept S a w) (g:w.grownBy w' row) (hr:∀ r,row=some r→a.heap.size≤r∨S r):Kept S a w' :=
 ⟨g.os.trans h.os,g.tape.trans h.tape,g.output.trans h.output,Nat.le_trans h.size g.size,fun k hk hS =>
  (g.block k (Nat.lt_of_lt_of_le hk h.size) (fun e=>by rcases hr k e.symm with h1 | h1;omega;exact hS h1)).trans (h.block k hk hS)⟩
theorem Kept.below {S:Nat→Prop} {a w w':World} {B:Nat} (h:Kept S a w) (g:Below B w w') (hB:a.heap.size≤B):Kept S a w' :=
 ⟨g.os.trans h.os,g.tape.trans h.tape,g.output.trans h.output,Nat.le_trans h.size g.size,fun k hk hS=>(g.block k (by omega)).trans (h.block k hk hS)⟩
theorem Kept.toBelow {w w':World} (h:Kept No w w'):Below w.heap.size w w':=⟨h.os,h.tape,h.output,h.size,fun k hk=>h.block k hk (fun e=>e)⟩
theorem Kept.cell {S:Nat→Prop} {w w':World} (h:Kept S w w') {b o:Nat} (hb:b<w.heap.size) (hS:¬S b):w'.cell? ⟨b,o,none⟩=w.cell? ⟨b,o,none⟩:=World.cell?_of_block (h.block b hb hS)
theorem cell_of {w:World} {b:Nat} {c:Array Value} {t:TypeId} {z:Nat × Nat} (h:w.heap[b]? =some (.cells c t z)) (o:Nat):w.cell? ⟨b,o,none⟩=c[o]? :=by simp [World.cell?,h]
theorem frozen_of {w:World} {b:Nat} {c:Array Value} {t:TypeId} (h:w.heap[b]? =some (.cells c t (0,0))) (o:Nat):w.frozen? ⟨b,o,none⟩=false:=by simp [World.frozen?,h]
theorem heap_set {w:World} {b:Nat} {c:Array Value} {t:TypeId} {z:Nat × Nat} (h:w.heap[b]? =some (.cells c t z)) (o:Nat) (v:Value):(w.setCell ⟨b,o,none⟩ v).heap[b]? =some (.cells (c.setIfInBounds o v) t z):=by
 simp [World.setCell,Array.getElem?_modify,h]
theorem lt_of_heap {w:World} {b:Nat} {o:Obj} (h:w.heap[b]? =some o):b<w.heap.size:=(Array.getElem?_eq_some_iff.1 h).1
theorem hid {p:Prop} (h:p):Hid p:=h
theorem ret_int {k:IntKind} {a b:Int} (h:a=b):Ending.returned (.int k a)=.returned (.int k b):=by rw [h]
theorem ret_bool {a b:Bool} (h:a=b):Ending.returned (.bool a)=.returned (.bool b):=by rw [h]
def Is (t:TypeId) (w:World) (k:Nat):Prop:=∃ c z,w.heap[k]? =some (.cells c t z)
end Go.Proofs.YtdinjjmcmfjbfaaGreatDoor
namespace Go.Proofs.YtdinjjmcmfjbfaaGreatDoor.Mo
structure STO {α:Type} (lt:α→α→Bool):Prop where
 irrefl:∀ a,lt a a=false
 trans:∀ a b c,lt a b=true→lt b c=true→lt a c=true
 tri:∀ a b,lt a b=false→lt b a=false→a=b
theorem STO.ne {α:Type} {lt:α→α→Bool} (h:STO lt) {a b:α} (hab:lt a b=true):a≠b:=by
 intro e;subst e;rw [h.irrefl] at hab;cases hab
def lexlt {α:Type} [DecidableEq α] (lt:α→α→Bool):List α→List α→Bool
 | _,[]=>false
 | [],_::_=>true
 | a::s,b::t=>if a=b then lexlt lt s t else lt a b
theorem lexlt_sto {α:Type} [DecidableEq α] {lt:α→α→Bool} (h:STO lt):STO (lexlt lt):=by
 refine ⟨fun l=> ?_,fun a=> ?_,fun a=> ?_⟩
 ·induction l with
  | nil=>rfl
  | cons a s ih=>simp [lexlt,ih]
 ·induction a with
  | nil=>intro b c hab hbc;cases b <;> cases c <;> simp_all [lexlt]
  | cons x s ih =>
    intro b c hab hbc
    cases b with
    | nil=>simp [lexlt] at hab
    | cons y t =>
      cases c with
      | nil=>simp [lexlt] at hbc
      | cons z u =>
        simp only [lexlt] at hab hbc ⊢
        by_cases hxy:x=y
        ·subst hxy
         simp at hab
         by_cases hxz:x=z
         ·subst hxz;simp at hbc ⊢;exact ih t u hab hbc
         ·simp [hxz] at hbc ⊢;exact hbc
        ·simp [hxy] at hab
         by_cases hyz:y=z
         ·subst hyz;simp at hbc;simp [hxy,hab]
         ·simp [hyz] at hbc
          have h3:=h.trans _ _ _ hab hbc;have hxz:x≠z:=h.ne h3
          simp [hxz,h3]
 ·induction a with
  | nil=>intro b h1 h2;cases b <;> simp_all [lexlt]
  | cons x s ih =>
    intro b h1 h2
    cases b with
    | nil=>simp [lexlt] at h2
    | cons y t =>
      simp only [lexlt] at h1 h2
      by_cases hxy:x=y
      ·subst hxy;simp at h1 h2;rw [ih t h1 h2]
      ·have hyx:¬y=x:=fun e=>hxy e.symm
       simp [hxy] at h1;simp [hyx] at h2;exact absurd (h.tri _ _ h1 h2) hxy
inductive V where
 | num (n:Int)
 | txt (s:List UInt8)
 deriving DecidableEq
abbrev Row:=List V
def blt (a b:UInt8):Bool:=decide (a.toNat<b.toNat)
theorem blt_sto:STO blt:=⟨fun a=>by simp [blt],fun a b c h k=>by simp [blt] at *;omega,fun a b h k=>by simp only [blt,decide_eq_false_iff_not] at h k;exact UInt8.toNat_inj.1 (by omega)⟩
def vlt:V→V→Bool
 | .num a,.num b=>decide (a<b)
 | .num _,.txt _=>true
 | .txt _,.num _=>false
 | .txt s,.txt t=>lexlt blt s t
theorem vlt_sto:STO vlt:=by
 have hb:=lexlt_sto blt_sto
 refine ⟨fun a=> ?_,fun a b c h k=> ?_,fun a b h k=> ?_⟩
 ·cases a <;> simp [vlt,hb.irrefl]
 ·cases a <;> cases b <;> cases c <;> simp_all [vlt]
  ·omega
  ·exact hb.trans _ _ _ h k
 ·cases a <;> cases b <;> simp_all [vlt]
  ·omega
  ·exact hb.tri _ _ h k
def rlt:Row→Row→Bool:=lexlt vlt
theorem rlt_sto:STO rlt:=lexlt_sto vlt_sto
abbrev Bag:=List (Row × Int)
def cnt (l:Bag) (r:Row):Int:=match l with
 | []=>0
 | e::l=>(if e.1=r then e.2 else 0)+cnt l r
def lin (l:Bag) (g:Row→Int):Int:=match l with
 | []=>0
 | e::l=>e.2*g e.1+lin l g
def Eqv (l m:Bag):Prop:=∀ r,cnt l r=cnt m r
theorem Eqv.refl (l:Bag):Eqv l l:=fun _=>rfl
theorem Eqv.symm {l m:Bag} (h:Eqv l m):Eqv m l:=fun r=>(h r).symm
theorem Eqv.trans {l m n:Bag} (h:Eqv l m) (k:Eqv m n):Eqv l n:=fun r=>(h r).trans (k r)
theorem cnt_append (l m:Bag) (r:Row):cnt (l++m) r=cnt l r+cnt m r:=by
 induction l with
 | nil=>simp [cnt]
 | cons e l ih=>simp [cnt,ih];omega
theorem lin_append (l m:Bag) (g:Row→Int):lin (l++m) g=lin l g+lin m g:=by
 induction l with
 | nil=>simp [lin]
 | cons e l ih=>simp [lin,ih];omega
theorem cnt_eq_lin (l:Bag) (r:Row):cnt l r=lin l (fun x=>if x=r then 1 else 0):=by
 induction l with
 | nil=>rfl
 | cons e l ih=>simp only [cnt,lin,ih];split <;> simp
theorem Eqv.append {l l' m m':Bag} (h:Eqv l l') (k:Eqv m m'):Eqv (l++m) (l'++m'):=fun r=>by rw [cnt_append,cnt_append,h r,k r]
def neg (l:Bag):Bag:=l.map fun e=>(e.1,-e.2)
theorem cnt_neg (l:Bag) (r:Row):cnt (neg l) r= -cnt l r:=by
 induction l with
 | nil=>rfl
 | cons e l ih =>
   have:cnt (neg (e::l)) r=(if e.1=r then -e.2 else 0)+cnt (neg l) r:=rfl
   rw [this,ih];simp only [cnt];split <;> omega
theorem lin_add (l:Bag) (g h:Row→Int):lin l (fun x=>g x+h x)=lin l g+lin l h:=by
 induction l with
 | nil=>rfl
 | cons e l ih=>simp only [lin,ih,Int.mul_add];omega
theorem lin_mul (l:Bag) (c:Int) (g:Row→Int):lin l (fun x=>c*g x)=c*lin l g:=by
 induction l with
 | nil=>simp [lin]
 | cons e l ih=>simp only [lin,ih,Int.mul_add];rw [Int.mul_left_comm]
theorem lin_zero (l:Bag):lin l (fun _=>0)=0:=by
 induction l with
 | nil=>rfl
 | cons e l ih=>simp [lin,ih]
theorem lin_congr_fun (l:Bag) {g h:Row→Int} (hgh:∀ e∈l,g e.1=h e.1):lin l g=lin l h:=by
 induction l with
 | nil=>rfl
 | cons e l ih=>simp only [lin];rw [hgh e (by simp),ih fun x hx=>hgh x (by simp [hx])]
def ins (r:Row) (t:Int):Bag→Bag
 | []=>if t=0 then [] else [(r,t)]
 | e::l=>if rlt r e.1 then (if t=0 then e::l else (r,t)::e::l)
    else if rlt e.1 r then e::ins r t l
    else if e.2+t=0 then l else (e.1,e.2+t)::l
def canon:Bag→Bag
 | []=>[]
 | e::l=>ins e.1 e.2 (canon l)
def Rise:Bag→Prop
 | []=>True
 | e::l=>(∀ x∈l,rlt e.1 x.1=true)∧e.2≠0∧Rise l
theorem ins_mem {r:Row} {t:Int} {l:Bag} {x:Row × Int} (hx:x∈ins r t l):x.1=r∨∃ y∈l,y.1=x.1:=by
 induction l with
 | nil=>simp only [ins] at hx;split at hx <;> simp_all
 | cons e l ih =>
   simp only [ins] at hx
   split at hx
   ·split at hx
    ·exact .inr ⟨x,hx,rfl⟩
    ·rcases List.mem_cons.1 hx with rfl | hx
     ·exact .inl rfl
     ·exact .inr ⟨x,hx,rfl⟩
   ·split at hx
    ·rcases List.mem_cons.1 hx with rfl | hx
     ·exact .inr ⟨_,by simp,rfl⟩
     ·rcases ih hx with h | ⟨y,hy,e'⟩
      ·exact .inl h
      ·exact .inr ⟨y,by simp [hy],e'⟩
    ·split at hx
     ·exact .inr ⟨x,by simp [hx],rfl⟩
     ·rcases List.mem_cons.1 hx with rfl | hx
      ·exact .inr ⟨e,by simp,rfl⟩
      ·exact .inr ⟨x,by simp [hx],rfl⟩
theorem ins_rise (r:Row) (t:Int) {l:Bag} (hl:Rise l):Rise (ins r t l):=by
 induction l with
 | nil=>simp only [ins];split <;> simp_all [Rise]
 | cons e l ih =>
   obtain ⟨h1,h2,h3⟩:=hl;simp only [ins]
   split
   ·rename_i hr
    split
    ·exact ⟨h1,h2,h3⟩
    ·rename_i ht
     refine ⟨fun x hx=> ?_,ht,h1,h2,h3⟩
     rcases List.mem_cons.1 hx with rfl | hx
     ·exact hr
     ·exact rlt_sto.trans _ _ _ hr (h1 x hx)
   ·split
    ·rename_i he
     refine ⟨fun x hx=> ?_,h2,ih h3⟩
     rcases ins_mem hx with e' | ⟨y,hy,e'⟩
     ·rw [e'];exact he
     ·rw [←e'];exact h1 y hy
    ·split
     ·exact h3
     ·rename_i hs
      exact ⟨h1,hs,h3⟩
theorem ins_lin (r:Row) (t:Int) (l:Bag) (g:Row→Int):lin (ins r t l) g=t*g r+lin l g:=by
 induction l with
 | nil=>simp only [ins];split <;> simp_all [lin]
 | cons e l ih =>
   simp only [ins]
   split
   ·split
    ·rename_i ht;simp [lin,ht]
    ·simp [lin]
   ·split
    ·simp only [lin,ih];omega
    ·rename_i h1 h2
     have hr:r=e.1:=rlt_sto.tri _ _ (by simpa using h1) (by simpa using h2)
     subst hr;have hd:(e.2+t)*g e.1=e.2*g e.1+t*g e.1:=Int.add_mul _ _ _
     split
     ·rename_i hz;rw [hz,Int.zero_mul] at hd;simp only [lin];omega
     ·simp only [lin];omega
theorem ins_len (r:Row) (t:Int) (l:Bag):(ins r t l).length≤l.length+1:=by
 induction l with
 | nil=>simp only [ins];split <;> simp
 | cons e l ih=>simp only [ins];split <;> (try split) <;> (try split) <;> simp <;> omega
theorem canon_append_len (m l:Bag):(canon (m++l)).length≤m.length+(canon l).length:=by
 induction m with
 | nil=>simp
 | cons e m ih=>have:=ins_len e.1 e.2 (canon (m++l));simp only [List.cons_append,canon,List.length_cons];omega
theorem canon_rise (l:Bag):Rise (canon l):=by
 induction l with
 | nil=>trivial
 | cons e l ih=>exact ins_rise _ _ ih
theorem canon_lin (l:Bag) (g:Row→Int):lin (canon l) g=lin l g:=by
 induction l with
 | nil=>rfl
 | cons e l ih=>simp only [canon,ins_lin,ih,lin]
theorem canon_cnt (l:Bag) (r:Row):cnt (canon l) r=cnt l r:=by
 rw [cnt_eq_lin,cnt_eq_lin,canon_lin]
theorem canon_eqv (l:Bag):Eqv (canon l) l:=canon_cnt l
theorem cnt_none {l:Bag} {r:Row} (h:∀ x∈l,x.1≠r):cnt l r=0:=by
 induction l with
 | nil=>rfl
 | cons e l ih=>simp only [cnt];rw [if_neg (h e (by simp)),ih fun x hx=>h x (by simp [hx])];rfl
theorem Rise.cnt_mem {l:Bag} (hl:Rise l) {x:Row × Int} (hx:x∈l):cnt l x.1=x.2:=by
 induction l with
 | nil=>cases hx
 | cons e l ih =>
   obtain ⟨h1,h2,h3⟩:=hl;simp only [cnt]
   rcases List.mem_cons.1 hx with rfl | hx
   ·rw [if_pos rfl,cnt_none fun y hy e'=>rlt_sto.ne (h1 y hy) e'.symm];omega
   ·rw [if_neg (rlt_sto.ne (h1 x hx)),ih h3 hx];omega
theorem Rise.mem_of_cnt {l:Bag} {r:Row} (h:cnt l r≠0):∃ x∈l,x.1=r:=by
 refine Classical.byContradiction fun hn=>h (cnt_none fun x hx e=>hn ⟨x,hx,e⟩)
theorem Rise.nz {l:Bag} (hl:Rise l) {x:Row × Int} (hx:x∈l):x.2≠0:=by
 induction l with
 | nil=>cases hx
 | cons e l ih =>
   obtain ⟨h1,h2,h3⟩:=hl
   rcases List.mem_cons.1 hx with rfl | hx
   ·exact h2
   ·exact ih h3 hx
theorem Rise.uniq {l m:Bag} (hl:Rise l) (hm:Rise m) (he:Eqv l m):l=m:=by
 induction l generalizing m with
 | nil =>
   cases m with
   | nil=>rfl
   | cons y m =>
     have:=he y.1
     rw [hm.cnt_mem (by simp)] at this
     exact absurd this.symm hm.2.1
 | cons x l ih =>
   cases m with
   | nil =>
     have:=he x.1
     rw [hl.cnt_mem (by simp)] at this
     exact absurd this hl.2.1
   | cons y m =>
     have key:∀ {a b:Row × Int} {l m:Bag},Rise (a::l)→Rise (b::m)→Eqv (a::l) (b::m)→rlt a.1 b.1=false:=by
      intro a b l m ha hb hab
      cases hlt:rlt a.1 b.1
      ·rfl
      ·exfalso
       have h1:=hab a.1
       rw [ha.cnt_mem (by simp)] at h1
       have:cnt (b::m) a.1=0:=cnt_none fun z hz e=>by
        rcases List.mem_cons.1 hz with rfl | hz
        ·exact rlt_sto.ne hlt e.symm
        ·exact rlt_sto.ne (rlt_sto.trans _ _ _ hlt (hb.1 z hz)) e.symm
       rw [this] at h1;exact ha.2.1 h1
     have hxy:x.1=y.1:=rlt_sto.tri _ _ (key hl hm he) (key hm hl he.symm)
     have h2:x.2=y.2:=by
      have:=he x.1
      rw [hl.cnt_mem (by simp),hxy,hm.cnt_mem (by simp)] at this;exact this
     have hx:x=y:=Prod.ext hxy h2;subst hx
     congr 1
     refine ih hl.2.2 hm.2.2 fun r=> ?_
     have:=he r
     simp only [cnt] at this;omega
theorem Eqv.canon {l m:Bag} (he:Eqv l m):canon l=canon m :=
 (canon_rise l).uniq (canon_rise m) (((canon_eqv l).trans he).trans (canon_eqv m).symm)
theorem canon_of_rise {l:Bag} (hl:Rise l):Mo.canon l=l:=(canon_rise l).uniq hl (canon_eqv l)
theorem Eqv.lin {l m:Bag} (he:Eqv l m) (g:Row→Int):lin l g=lin m g:=by
 rw [←canon_lin l,←canon_lin m,he.canon]
theorem Eqv.neg {l m:Bag} (he:Eqv l m):Eqv (neg l) (Mo.neg m):=fun r=>by rw [cnt_neg,cnt_neg,he r]
end Go.Proofs.YtdinjjmcmfjbfaaGreatDoor.Mo
namespace Go.Proofs.YtdinjjmcmfjbfaaGreatDoor
open Go.RowKit
open Mo (V Row)
def kI:V→Int
 | .num _=>0
 | .txt _=>1
def tB (v:V) (i:Nat):Int:=match v with
 | .num _=>0
 | .txt s=>((s.getD i 0).toNat:Int)
def nI:V→Int
 | .num n=>n
 | .txt _=>0
def encV (v:V):List Value:=[.int .i32 (kI v),.int .u8 (tB v 0),.int .u8 (tB v 1),.int .u8 (tB v 2),.int .u8 (tB v 3),.int .i64 (nI v)]
def aggV (v:V):Value:=.agg (encV v).toArray
def VOk:V→Prop
 | .num n=> -9223372036854775808≤n∧n≤9223372036854775807
 | .txt s=>1≤s.length∧s.length≤4∧∀ c∈s,97≤c.toNat∧c.toNat≤122
theorem encV_len (v:V):(encV v).length=6:=rfl
theorem tB_range (v:V) (i:Nat):0≤tB v i∧tB v i≤255:=by
 cases v with
 | num n=>simp [tB]
 | txt s=>simp only [tB];have:=UInt8.toNat_lt (s.getD i 0);omega
theorem kI_range (v:V):kI v=0∨kI v=1:=by cases v <;> simp [kI]
theorem nI_range {v:V} (h:VOk v): -9223372036854775808≤nI v∧nI v≤9223372036854775807:=by
 cases v with
 | num n=>exact h
 | txt s=>simp [nI]
theorem txt_ext {s t:List UInt8} (hs:s.length≤4) (ht:t.length≤4) (ns:∀ c∈s,97≤c.toNat) (nt:∀ c∈t,97≤c.toNat) (h:∀ i,i<4→tB (.txt s) i=tB (.txt t) i):s=t:=by
 refine List.ext_getElem? fun i=> ?_
 by_cases hi:i<4
 ·have h1:=h i hi
  simp only [tB,List.getD_eq_getElem?_getD] at h1
  cases hs':s[i]? with
  | none =>
    cases ht':t[i]? with
    | none=>rfl
    | some c =>
      rw [hs',ht'] at h1
      have:=nt c (List.mem_of_getElem? ht')
      simp at h1;omega
  | some c =>
    cases ht':t[i]? with
    | none =>
      rw [hs',ht'] at h1
      have:=ns c (List.mem_of_getElem? hs')
      simp at h1;omega
    | some d =>
      rw [hs',ht'] at h1
      have:c.toNat=d.toNat:=by simp at h1;omega
      rw [UInt8.toNat_inj.1 this]
 ·rw [List.getElem?_eq_none (by omega),List.getElem?_eq_none (by omega)]
theorem encV_inj {v u:V} (hv:VOk v) (hu:VOk u) (h:encV v=encV u):v=u:=by
 simp only [encV,List.cons.injEq,Value.int.injEq,true_and,and_true] at h;obtain ⟨hk,h0,h1,h2,h3,hn⟩:=h
 cases v with
 | num n=>cases u with
   | num m=>simp only [nI] at hn;rw [hn]
   | txt t=>simp [kI] at hk
 | txt s=>cases u with
   | num m=>simp [kI] at hk
   | txt t =>
     rw [txt_ext hv.2.1 hu.2.1 (fun c hc=>(hv.2.2 c hc).1) (fun c hc=>(hu.2.2 c hc).1) (fun i hi=> ?_)]
     match i,hi with
     | 0,_=>exact h0
     | 1,_=>exact h1
     | 2,_=>exact h2
     | 3,_=>exact h3
def RowAt (w:World) (v:Value) (r:Row):Prop:=∃ b o cap c z,v=.slice (some ⟨b,o,none⟩) r.length cap∧w.heap[b]? =some (.cells c 133 z)∧r.length≤cap ∧
 ∀ i v,r[i]? =some v→∀ j x,(encV v)[j]? =some x→c[o+i*6+j]? =some x
theorem RowAt.kept {S:Nat→Prop} {w w':World} {v:Value} {r:Row} (h:RowAt w v r) (k:Kept S w w') (hS:∀ i,S i→¬Is 133 w i):RowAt w' v r:=by
 obtain ⟨b,o,cap,c,z,e,hb,hc⟩:=h
 exact ⟨b,o,cap,c,z,e,(k.block b (lt_of_heap hb) (fun hs=>hS b hs ⟨c,z,hb⟩)).trans hb,hc⟩
theorem RowAt.keptNo {w w':World} {v:Value} {r:Row} (h:RowAt w v r) (k:Kept No w w'):RowAt w' v r:=h.kept k (fun _ e=>e.elim)
open Go.Maps (Keyed)
open Go.WideMaps (KeyLaw)
def tok (v:Value):Option (DataW Value × List MemPlace):=some (.held v,[])
structure KE {κ:Type} (K:TypeId) (enc:κ→Value) (ok:κ→Prop):Prop where
 law:KeyLaw Tryz.prog K
 key:∀ {k:κ},ok k→∃ l,keyOf Tryz.prog K (enc k)=some l
 inj:∀ {k j:κ},ok k→ok j→enc k=enc j→k=j
structure DH {κ:Type} (K:TypeId) (enc:κ→Value) (ok:κ→Prop) (D:DataW Value) (m:κ→Option Value):Prop where
 hit:∀ {k:κ} {l:Lit} {x:Value},keyOf Tryz.prog K (enc k)=some l→m k=some x→∀ z,D.atKey l z=.held x
 miss:∀ {k:κ} {l:Lit},ok k→keyOf Tryz.prog K (enc k)=some l→m k=none→∀ z,D.atKey l z=z
 dom:∀ {k:κ} {x:Value},m k=some x→ok k
 all:∀ {l:Lit},Maps.has D l=true→∃ k,ok k∧keyOf Tryz.prog K (enc k)=some l
def upd {κ:Type} [DecidableEq κ] (m:κ→Option Value) (k:κ) (o:Option Value):κ→Option Value:=fun x=>if x=k then o else m x
section
variable {κ:Type} [DecidableEq κ] {K:TypeId} {enc:κ→Value} {ok:κ→Prop} {m:κ→Option Value} {D:DataW Value}
theorem upd_same (m:κ→Option Value) (k:κ) (o:Option Value):upd m k o k=o:=by simp [upd]
theorem upd_other (m:κ→Option Value) {k x:κ} (o:Option Value) (h:x≠k):upd m k o x=m x:=by simp [upd,h]
omit [DecidableEq κ] in
theorem KE.ne (E:KE K enc ok) {k j:κ} {l p:Lit} (hk:ok k) (hj:ok j) (h1:keyOf Tryz.prog K (enc k)=some l) (h2:keyOf Tryz.prog K (enc j)=some p) (hne:k≠j):l≠p :=
 fun e=>hne (E.inj hk hj (E.law.inj h1 (e ▸ h2)))
omit [DecidableEq κ] in
theorem DH.has (h:DH K enc ok D m) {k:κ} (ho:ok k) {l:Lit} (hl:keyOf Tryz.prog K (enc k)=some l):Maps.has D l=(m k).isSome:=by
 cases hm:m k with
 | none=>exact Maps.has_false_of_atKey (h.miss ho hl hm)
 | some x=>exact Maps.has_true_of_atKey (h.hit hl hm)
omit [DecidableEq κ] in
theorem DH.at (h:DH K enc ok D m) {k:κ} (ho:ok k) {l:Lit} (hl:keyOf Tryz.prog K (enc k)=some l) (z:Value):D.atKey l (.held z)=.held ((m k).getD z):=by
 cases hm:m k with
 | none=>exact h.miss ho hl hm _
 | some x=>exact h.hit hl hm _
theorem DH.put (E:KE K enc ok) (h:DH K enc ok D m) (hD:Maps.IsMap D) {k:κ} (ho:ok k) {kl:Lit} (hk:keyOf Tryz.prog K (enc k)=some kl) (x:Value):DH K enc ok (D.put kl (.held x)) (upd m k (some x)):=by
 have same:∀ z,(D.put kl (.held x)).atKey kl z=.held x:=fun z=>Maps.atKey_put_same hD ((Keyed.of_law E.law).key hk) _ _
 refine ⟨fun {v l y} hl hy z=> ?_,fun {v l} hv hl hn z=> ?_,fun {v y} hy=> ?_,fun {l} hl=> ?_⟩
 ·by_cases e:v=k
  ·subst e
   rw [upd_same] at hy
   have e1:l=kl:=by have:=hl.symm.trans hk;simpa using this
   have e2:x=y:=by simpa using hy
   subst e1 e2;exact same z
  ·rw [upd_other _ _ e] at hy
   rw [Maps.atKey_put_other (E.ne (h.dom hy) ho hl hk e)];exact h.hit hl hy z
 ·by_cases e:v=k
  ·subst e;rw [upd_same] at hn;cases hn
  ·rw [upd_other _ _ e] at hn
   rw [Maps.atKey_put_other (E.ne hv ho hl hk e)];exact h.miss hv hl hn z
 ·by_cases e:v=k
  ·subst e;exact ho
  ·rw [upd_other _ _ e] at hy;exact h.dom hy
 ·by_cases e:l=kl
  ·subst e;exact ⟨k,ho,hk⟩
  ·refine h.all ?_
   rw [←hl];exact (Maps.has_put_other e _).symm
theorem DH.del (E:KE K enc ok) (h:DH K enc ok D m) {k:κ} (ho:ok k) {kl:Lit} (hk:keyOf Tryz.prog K (enc k)=some kl):DH K enc ok (D.del kl) (upd m k none):=by
 refine ⟨fun {v l y} hl hy z=> ?_,fun {v l} hv hl hn z=> ?_,fun {v y} hy=> ?_,fun {l} hl=> ?_⟩
 ·by_cases e:v=k
  ·subst e;rw [upd_same] at hy;cases hy
  ·rw [upd_other _ _ e] at hy
   rw [Maps.atKey_del_other (E.ne (h.dom hy) ho hl hk e)];exact h.hit hl hy z
 ·by_cases e:v=k
  ·subst e
   have e1:l=kl:=by have:=hl.symm.trans hk;simpa using this
   subst e1;exact Maps.atKey_del_same z
  ·rw [upd_other _ _ e] at hn
   rw [Maps.atKey_del_other (E.ne hv ho hl hk e)];exact h.miss hv hl hn z
 ·by_cases e:v=k
  ·subst e;rw [upd_same] at hy;cases hy
  ·rw [upd_other _ _ e] at hy;exact h.dom hy
 ·by_cases e:l=kl
  ·subst e;exact ⟨k,ho,hk⟩
  ·refine h.all ?_
   rw [←hl];exact (Maps.has_del_other e).symm
end
def MapIs {κ:Type} (K:TypeId) (enc:κ→Value) (ok:κ→Prop) (w:World) (b:Nat) (m:κ→Option Value):Prop:=∃ D,w.ownsMap Tryz.prog K tok b (Maps.size D) D∧DH K enc ok D m
theorem owns_size {K:TypeId} {w:World} {b n:Nat} {D:DataW Value} (h:w.ownsMap Tryz.prog K tok b n D):w.ownsMap Tryz.prog K tok b (Maps.size D) D:=by
 obtain ⟨es,c,hb,F,_,hD⟩:=h;refine ⟨es,c,hb,F,?_,hD⟩;subst hD
 simp [Maps.size,length_sorted]
section
variable {κ:Type} {K:TypeId} {enc:κ→Value} {ok:κ→Prop} {w w':World} {b:Nat} {m:κ→Option Value}
theorem MapIs.lt (h:MapIs K enc ok w b m):b<w.heap.size:=by obtain ⟨D,h,_⟩:=h;exact h.lt
theorem MapIs.obj (h:MapIs K enc ok w b m):∃ es c,w.heap[b]? =some (.map es c):=by obtain ⟨D,⟨es,c,hb,_⟩,_⟩:=h;exact ⟨es,c,hb⟩
theorem MapIs.of_block (h:MapIs K enc ok w b m) (hb:w'.heap[b]? =w.heap[b]?):MapIs K enc ok w' b m:=by
 obtain ⟨D,⟨es,c,hb',F,hs,hD⟩,hd⟩:=h;exact ⟨D,⟨es,c,hb.trans hb',F,hs,hD⟩,hd⟩
theorem MapIs.made (K:TypeId) (enc:κ→Value) (ok:κ→Prop) (w:World):MapIs K enc ok (w.alloc (.map #[] 0)) w.heap.size (fun _=>none) :=
 ⟨.map [],World.ownsMap_made w _ _ _,⟨fun _ h=>(by cases h),fun _ _ _ _=>rfl,fun h=>(by cases h),fun h=>by simp [Maps.has_eq] at h⟩⟩
theorem MapIs.dom (h:MapIs K enc ok w b m) {k:κ} {x:Value} (hm:m k=some x):ok k:=by obtain ⟨_,_,hd⟩:=h;exact hd.dom hm
theorem pick_keys {es:List (Lit × DataW Value)} (h:∀ p∈es,∃ k,ok k∧keyOf Tryz.prog K (enc k)=some p.1):∃ ks:List κ,(∀ k∈ks,ok k)∧ks.map (fun k=>keyOf Tryz.prog K (enc k))=es.map (fun p=>some p.1):=by
 induction es with
 | nil=>exact ⟨[],by simp,rfl⟩
 | cons p es ih =>
   obtain ⟨v,ho,hv⟩:=h p (by simp)
   obtain ⟨ks,h1,hk⟩:=ih (fun q hq=>h q (by simp [hq]))
   exact ⟨v::ks,by intro k hk;rcases List.mem_cons.1 hk with rfl | hk;exact ho;exact h1 k hk,by simp [hv,hk]⟩
theorem nodup_of_map {α β:Type} (f:α→β):∀ {l:List α},(l.map f).Nodup→l.Nodup
 | [],_=>List.nodup_nil
 | a::l,h=>by
   simp only [List.map_cons,List.nodup_cons] at h ⊢
   exact ⟨fun hm=>h.1 (List.mem_map.2 ⟨a,hm,rfl⟩),nodup_of_map f h.2⟩
theorem MapIs.keys (E:KE K enc ok) (h:MapIs K enc ok w b m):∃ (D:DataW Value) (ks:List κ),w.ownsMap Tryz.prog K tok b (Maps.size D) D∧DH K enc ok D m∧ks.Nodup∧ks.length=Maps.size D∧∀ k,k∈ks↔(m k).isSome=true:=by
 obtain ⟨D,ho,hd⟩:=h;obtain ⟨es,hD,hpw,hkey⟩:=ho.entries (Keyed.of_law E.law)
 have hko:∀ p∈es,∃ k,ok k∧keyOf Tryz.prog K (enc k)=some p.1:=fun p hp=>by
  refine hd.all ?_;subst hD;rw [Maps.has_eq,List.any_eq_true];exact ⟨p,hp,WideAt.sameKey_self (hkey p hp)⟩
 obtain ⟨ks,hok,hks⟩:=pick_keys hko
 have hnd:ks.Nodup:=by
  refine nodup_of_map (fun k=>keyOf Tryz.prog K (enc k)) ?_
  rw [hks]
  exact List.pairwise_map.2 (hpw.imp fun hne e=>hne (by simpa using e))
 refine ⟨D,ks,ho,hd,hnd,?_,fun k=> ?_⟩
 ·subst hD
  have:=congrArg List.length hks
  simpa [Maps.size] using this
 ·constructor
  ·intro hk
   have h1:keyOf Tryz.prog K (enc k)∈ks.map (fun k=>keyOf Tryz.prog K (enc k)):=List.mem_map.2 ⟨k,hk,rfl⟩
   rw [hks] at h1;obtain ⟨p,hp,hpe⟩:=List.mem_map.1 h1;rw [←hd.has (hok k hk) hpe.symm];subst hD;rw [Maps.has_eq,List.any_eq_true];exact ⟨p,hp,WideAt.sameKey_self (hkey p hp)⟩
  ·intro hk
   obtain ⟨x,hx⟩:=Option.isSome_iff_exists.1 hk;obtain ⟨l,hl⟩:=E.key (hd.dom hx);have h1:=hd.has (hd.dom hx) hl;rw [hk] at h1;subst hD;rw [Maps.has_eq,List.any_eq_true] at h1;obtain ⟨p,hp,hs⟩:=h1
   have h2:some l∈ks.map (fun k=>keyOf Tryz.prog K (enc k)):=by rw [hks];exact List.mem_map.2 ⟨p,hp,by rw [WideAt.sameKey_eq hs]⟩
   obtain ⟨v,hv,hve⟩:=List.mem_map.1 h2;rw [E.inj (hd.dom hx) (hok v hv) (E.law.inj hl hve)];exact hv
end
def Cov {κ:Type} (m:κ→Option Value) (n:Nat):Prop:=∃ ks:List κ,ks.length≤n∧∀ k,(m k).isSome=true→k∈ks
theorem length_le_of_sub {α:Type} [DecidableEq α]:∀ {l m:List α},l.Nodup→(∀ x∈l,x∈m)→l.length≤m.length
 | [],_,_,_=>Nat.zero_le _
 | a::l,m,hn,hs=>by
   have hn':=List.nodup_cons.1 hn
   have h1:=length_le_of_sub (l:=l) (m:=m.erase a) hn'.2 (fun x hx=>by
    have:x≠a:=fun e=>hn'.1 (e ▸ hx)
    exact (List.mem_erase_of_ne this).2 (hs x (by simp [hx])))
   have h2:=List.length_erase_of_mem (hs a (by simp))
   have h3:0<m.length:=List.length_pos_of_mem (hs a (by simp))
   simp only [List.length_cons];omega
structure Coll {κ:Type} (K:TypeId) (enc:κ→Value) (ok:κ→Prop) (D:DataW Value) (left:Lit→Bool) (vs:List κ):Prop where
 nodup:vs.Nodup
 mem:∀ {k:κ} {l:Lit},ok k→keyOf Tryz.prog K (enc k)=some l→(k∈vs↔Maps.has D l=true∧left l=false)
def Rng {κ:Type} (K:TypeId) (enc:κ→Value) (ok:κ→Prop) (w:World) (b r:Nat) (m:κ→Option Value) (ps:List (κ × Value)) (cnt:Nat):Prop :=
 ∃ D left,w.ranges Tryz.prog K tok b r (Maps.size D) D left cnt∧DH K enc ok D m∧Coll K enc ok D left (ps.map (·.1))∧∀ p∈ps,m p.1=some p.2
def Full {κ:Type} (m:κ→Option Value) (ps:List (κ × Value)):Prop:=(ps.map (·.1)).Nodup∧∀ k v,(k,v)∈ps↔m k=some v
section
variable {κ:Type} {K:TypeId} {enc:κ→Value} {ok:κ→Prop} {w w':World} {b r:Nat} {m:κ→Option Value} {ps:List (κ × Value)} {cnt:Nat}
theorem Rng.owns (h:Rng K enc ok w b r m ps cnt):MapIs K enc ok w b m:=by obtain ⟨D,left,hr,hd,_⟩:=h;exact ⟨D,hr.owns,hd⟩
theorem Rng.ne (h:Rng K enc ok w b r m ps cnt):r≠b:=by obtain ⟨D,left,hr,_⟩:=h;exact hr.ne
theorem Rng.lt (h:Rng K enc ok w b r m ps cnt):r<w.heap.size:=by obtain ⟨D,left,hr,_⟩:=h;exact hr.lt
theorem Rng.of_blocks (h:Rng K enc ok w b r m ps cnt) (hb:w'.heap[b]? =w.heap[b]?) (hr:w'.heap[r]? =w.heap[r]?):Rng K enc ok w' b r m ps cnt:=by
 obtain ⟨D,left,⟨es,clock,since,seen,c0,h1,h2,h3,h4,h5,h6⟩,hd⟩:=h;exact ⟨D,left,⟨es,clock,since,seen,c0,hb.trans h1,h2,h3,h4,hr.trans h5,h6⟩,hd⟩
end
section
variable (w:World) {ops:Array Oper} {rest:List Oper} {o:Oper} {a:Act} {Q:Exit→Act→World→Prop} {κ:Type} [DecidableEq κ] {K:TypeId} {enc:κ→Value} {ok:κ→Prop} (E:KE K enc ok)
include E
omit [DecidableEq κ] in
theorem wpList_lookup_map (hg:o.guard=none) (mo x:Operand) (t e:TypeId) (hop:o.op=Op.lookup t mo x false) (ht:Tryz.prog.underlying t=some (.map K e)) (z:Value) (hz:(zeroValue e).run Tryz.prog w=.ok z w)
 (b:Nat) (m:κ→Option Value) (hm:a.eval mo=.map (some b)) (hown:MapIs K enc ok w b m) (k:κ) (hk:ok k) (hx:a.eval x=enc k) (v:Value) (hv:(m k).getD z=v)
 (hK:wpList Tryz.prog ops Q rest (a.put o.dst v) w):wpList Tryz.prog ops Q (o::rest) a w:=by
 refine wpList_plain hg fun K' hK'=> ?_
 obtain ⟨D,ho,hd⟩:=hown;obtain ⟨kl,hkl⟩:=E.key hk;obtain ⟨u,ps,hrun,hu⟩:=ho.lookup (Keyed.of_law E.law) ht hz (zd:=.held z) (zp:=[]) rfl hkl
 have:u=v:=by rw [hd.at hk hkl] at hu;rw [←hv];simpa [tok] using (congrArg (fun y=>y.map Prod.fst) hu)
 subst this;unfold Oper.wp
 simp [execOp,hop,hm,hx,hrun,Result.andThen]
 exact hK' _ _ hK
omit [DecidableEq κ] in
theorem wpList_lookup_nil (hg:o.guard=none) (mo x:Operand) (t e:TypeId) (hop:o.op=Op.lookup t mo x false) (ht:Tryz.prog.underlying t=some (.map K e)) (z:Value) (hz:(zeroValue e).run Tryz.prog w=.ok z w)
 (hm:a.eval mo=.map none) (k:κ) (hk:ok k) (hx:a.eval x=enc k)
 (hK:wpList Tryz.prog ops Q rest (a.put o.dst z) w):wpList Tryz.prog ops Q (o::rest) a w:=by
 refine wpList_plain hg fun K' hK'=> ?_
 obtain ⟨kl,hkl⟩:=E.key hk;have hrun:=Maps.look_nil (w:=w) false (Keyed.of_law E.law) ht hz hkl;unfold Oper.wp
 simp [execOp,hop,hm,hx,hrun,Result.andThen]
 exact hK' _ _ hK
theorem wpList_update_map (hg:o.guard=none) (mo x v:Operand) (t e:TypeId) (hop:o.op=Op.mapUpdate t mo x v) (ht:Tryz.prog.underlying t=some (.map K e))
 (b:Nat) (m:κ→Option Value) (n:Nat) (hm:a.eval mo=.map (some b)) (hown:MapIs K enc ok w b m) (hn:Cov m n) (hn2:n<maxLen) (k:κ) (hk:ok k) (val:Value) (hx:a.eval x=enc k) (hv:a.eval v=val)
 (hK:∀ w',MapIs K enc ok w' b (upd m k (some val))→w.mapTurned w' b→wpList Tryz.prog ops Q rest (a.put o.dst undef) w'):wpList Tryz.prog ops Q (o::rest) a w:=by
 obtain ⟨D,ks,ho,hd,hnd,hlen,hmem⟩:=hown.keys E;obtain ⟨ks',hl',hc'⟩:=hn
 have:=length_le_of_sub hnd (fun x hx=>hc' x ((hmem x).1 hx))
 obtain ⟨kl,hkl⟩:=E.key hk
 refine wpList_mapUpdate_in w hg mo x v t hop K e (Keyed.of_law E.law) ht tok b (Maps.size D) D hm ho (by omega) _ val _ hx hv hkl (.held val) [] rfl ?_
 intro w' h1 h2;exact hK w' ⟨_,owns_size h1,hd.put E ho.isMap hk hkl _⟩ h2
theorem wpList_delete_map (hg:o.guard=none) (mo x:Operand) (t e:TypeId) (hop:o.op=Op.call { callee:=Callee.builtin Builtin.delete,args:=#[mo,x],argTypes:=#[t,K] }) (ht:Tryz.prog.underlying t=some (.map K e))
 (b:Nat) (m:κ→Option Value) (hm:a.eval mo=.map (some b)) (hown:MapIs K enc ok w b m) (k:κ) (hk:ok k) (hx:a.eval x=enc k)
 (hK:∀ w',MapIs K enc ok w' b (upd m k none)→w.mapTurned w' b→wpList Tryz.prog ops Q rest (a.put o.dst (.tuple #[])) w'):wpList Tryz.prog ops Q (o::rest) a w:=by
 obtain ⟨D,ho,hd⟩:=hown;obtain ⟨kl,hkl⟩:=E.key hk;refine wpList_delete_own w hg mo x t K hop e (Keyed.of_law E.law) ht tok b _ D hm ho _ _ hx hkl ?_;intro w' h1 h2;exact hK w' ⟨_,owns_size h1,hd.del E hk hkl⟩ h2
omit [DecidableEq κ] in
theorem wpList_len_map (hg:o.guard=none) (mo:Operand) (t e:TypeId) (hop:o.op=Op.call { callee:=Callee.builtin Builtin.len,args:=#[mo],argTypes:=#[t] }) (ht:Tryz.prog.underlying t=some (.map K e))
 (b:Nat) (m:κ→Option Value) (hm:a.eval mo=.map (some b)) (hown:MapIs K enc ok w b m)
 (hK:∀ ks:List κ,ks.Nodup→(∀ k,k∈ks↔(m k).isSome=true)→wpList Tryz.prog ops Q rest (a.put o.dst (.int .i64 (ks.length:Nat))) w):wpList Tryz.prog ops Q (o::rest) a w:=by
 obtain ⟨D,ks,ho,hd,hnd,hlen,hmem⟩:=hown.keys E;refine wpList_len_own w hg mo t hop K e ht tok b _ D hm ho ?_;rw [←hlen];exact hK ks hnd hmem
omit [DecidableEq κ] in
theorem wpList_range_map (hg:o.guard=none) (mo:Operand) (t e:TypeId) (hop:o.op=Op.range t mo) (ht:Tryz.prog.underlying t=some (.map K e)) (b:Nat) (m:κ→Option Value) (hm:a.eval mo=.map (some b)) (hown:MapIs K enc ok w b m)
 (hK:∀ w' cnt,Rng K enc ok w' b w.heap.size m [] cnt→w.grownBy w' none→w'.heap.size=w.heap.size+1→wpList Tryz.prog ops Q rest (a.put o.dst (.pointer (some ⟨w.heap.size,0,none⟩))) w'):wpList Tryz.prog ops Q (o::rest) a w:=by
 obtain ⟨D,ho,hd⟩:=hown;refine wpList_range_own w hg mo t hop K e (Keyed.of_law E.law) ht tok b _ D hm ho ?_;intro w' h1 h2 h3
 exact hK w' _ ⟨D,_,h1,hd,⟨List.nodup_nil,fun {v l} _ _=>by cases Maps.has D l <;> simp⟩,by simp⟩ h2 h3
omit [DecidableEq κ] in
theorem wpList_next_map (hg:o.guard=none) (it:Operand) (hop:o.op=Op.next it false) (b r:Nat) (m:κ→Option Value) (ps:List (κ × Value)) (cnt:Nat) (hit:a.eval it=.pointer (some ⟨r,0,none⟩)) (h:Rng K enc ok w b r m ps cnt)
 (hDone:Full m ps→wpList Tryz.prog ops Q rest (a.put o.dst (.tuple #[.bool false])) w)
 (hMore:∀ (k:κ) (v:Value) (w':World) (cnt':Nat),ok k→m k=some v→(∀ u,(k,u)∉ps)→Rng K enc ok w' b r m (ps++[(k,v)]) cnt'→cnt'<cnt→w.grownBy w' (some r)→w'.heap.size=w.heap.size →
   (Instr.entry (.pointer (some ⟨r,0,none⟩))).run Tryz.prog w'=.ok (.tuple #[enc k,v]) w'→wpList Tryz.prog ops Q rest (a.put o.dst (.tuple #[.bool true,enc k,v])) w'):wpList Tryz.prog ops Q (o::rest) a w:=by
 obtain ⟨D,left,hr,hd,hC,hv⟩:=h
 refine wpList_next_ranges w hg it hop K (Keyed.of_law E.law) tok (id:Value→Value) id (fun key _ _=>⟨key,rfl⟩) (fun v _ _=>⟨v,rfl⟩) b r _ D left cnt hit hr ?_ ?_
 ·intro _ hl
  refine hDone ⟨hC.nodup,fun k v=>⟨fun hk=>hv _ hk,fun hk=> ?_⟩⟩
  have hok:=hd.dom hk;obtain ⟨l,hkl⟩:=E.key hok
  have h1:Maps.has D l=true:=by rw [hd.has hok hkl,hk];rfl
  obtain ⟨p,hp,rfl⟩:=List.mem_map.1 ((hC.mem hok hkl).2 ⟨h1,hl _⟩)
  have:=hv p hp
  rw [hk] at this
  have:v=p.2:=by simpa using this
  subst this;exact hp
 ·intro kv v kl y w' cnt' hkey hlk hR hat hrg hlt hgr hsz hen
  have hhas:Maps.has D kl=true:=Maps.has_true_of_atKey hat;obtain ⟨k,hok,hke⟩:=hd.all hhas;obtain rfl:kv=enc k:=E.law.inj hkey hke;have hkey:keyOf Tryz.prog K (enc k)=some kl:=hkey
  have hy:y=(.held v,[]):=by simpa [tok] using hR.symm
  subst hy
  have hmx:m k=some v:=by
   cases hm:m k with
   | none=>rw [hd.has hok hkey,hm] at hhas;cases hhas
   | some u=>have h1:=hd.hit hkey hm .nil;have h2:=hat .nil;rw [h1] at h2;simpa using h2
  have hnew:k∉ps.map (·.1):=fun hx=>by have:=((hC.mem hok hkey).1 hx).2;rw [hlk] at this;cases this
  refine hMore k v w' cnt' hok hmx (fun u hu=>hnew (List.mem_map.2 ⟨_,hu,rfl⟩)) ⟨D,_,hrg,hd,⟨?_,?_⟩,fun p hp=> ?_⟩ hlt hgr hsz hen
  ·rw [List.map_append]
   exact List.nodup_append.2 ⟨hC.nodup,by simp,fun a ha b hb=>by simp at hb;subst hb;exact fun e=>hnew (e ▸ ha)⟩
  ·intro x l hxo hx
   by_cases e:x=k
   ·subst e
    have e1:l=kl:=by have:=hx.symm.trans hkey;simpa using this
    subst e1
    simp [hhas,WideAt.sameKey_self ((Keyed.of_law E.law).key hkey)]
   ·have hne:l≠kl:=fun e2=>e (E.inj hxo hok (E.law.inj hx (e2 ▸ hkey)))
    have hs:l.sameKey kl=false:=by
     cases hs:l.sameKey kl
     ·rfl
     ·exact absurd (WideAt.sameKey_eq hs) hne
    rw [List.map_append,List.mem_append,hC.mem hxo hx]
    simp [hs,e]
  ·rcases List.mem_append.1 hp with hp | hp
   ·exact hv p hp
   ·simp at hp;subst hp;simpa using hmx
end
end Go.Proofs.YtdinjjmcmfjbfaaGreatDoor
namespace Go.Proofs.YtdinjjmcmfjbfaaGreatDoor.Mo
def nn (l:Bag):Prop:=∀ r,0≤cnt l r
theorem nn_mem {l:Bag} (h:nn l) {e:Row × Int} (he:e∈canon l):1≤e.2:=by
 have h1:=(canon_rise l).cnt_mem he;have h2:=(canon_rise l).nz he;have h3:=h e.1;rw [canon_cnt] at h1;omega
theorem lin_mono_pos {l:Bag} (h:∀ e∈l,0≤e.2) {g k:Row→Int} (hg:∀ e∈l,g e.1≤k e.1):lin l g≤lin l k:=by
 induction l with
 | nil=>exact Int.le_refl _
 | cons e l ih =>
   have h1:=Int.mul_le_mul_of_nonneg_left (hg e (by simp)) (h e (by simp))
   have h2:=ih (fun x hx=>h x (by simp [hx])) (fun x hx=>hg x (by simp [hx]))
   simp only [lin];omega
theorem lin_mono {l:Bag} (h:nn l) {g k:Row→Int} (hg:∀ r,g r≤k r):lin l g≤lin l k:=by
 rw [←canon_lin l g,←canon_lin l k]
 exact lin_mono_pos (fun e he=>by have:=nn_mem h he;omega) (fun e _=>hg e.1)
theorem lin_nn {l:Bag} (h:nn l) {g:Row→Int} (hg:∀ r,0≤g r):0≤lin l g:=by
 have:=lin_mono h hg;rw [lin_zero] at this;exact this
theorem nn_of_lin {l:Bag} (h:∀ g:Row→Int,(∀ r,0≤g r)→0≤lin l g):nn l:=fun r=>by
 rw [cnt_eq_lin];exact h _ (fun x=>by split <;> omega)
theorem eqv_of_lin {l m:Bag} (h:∀ g:Row→Int,lin l g=lin m g):Eqv l m:=fun r=>by rw [cnt_eq_lin,cnt_eq_lin];exact h _
theorem lin_term {l:Bag} (h:nn l) {g:Row→Int} (hg:∀ r,0≤g r) {e:Row × Int} (he:e∈canon l):g e.1≤lin l g:=by
 rw [←canon_lin l g]
 have key:∀ {m:Bag},(∀ x∈m,1≤x.2)→e∈m→g e.1≤lin m g:=by
  intro m hm hx
  induction m with
  | nil=>cases hx
  | cons y m ih =>
    have hr:0≤lin m g:=by
     have:=lin_mono_pos (l:=m) (fun x hx=>by have:=hm x (by simp [hx]);omega) (g:=fun _=>0) (k:=g) (fun x _=>hg x.1)
     rw [lin_zero] at this;exact this
    have hy:g y.1≤y.2*g y.1:=by
     have:=Int.mul_le_mul_of_nonneg_right (hm y (by simp)) (hg y.1)
     omega
    have hy0:=hg y.1;simp only [lin]
    rcases List.mem_cons.1 hx with rfl | hx
    ·omega
    ·have:=ih (fun x hx=>hm x (by simp [hx])) hx;omega
 exact key (fun x hx=>nn_mem h hx) he
inductive Cmp where
 | lt
 | eq
 | ne
 deriving DecidableEq
inductive Opd where
 | col (c:Nat)
 | val (v:V)
 deriving DecidableEq
def colR (r:Row) (c:Nat):V:=r.getD c (.num 0)
def cmpV:Cmp→V→V→Bool
 | .lt,a,b=>vlt a b
 | .eq,a,b=>decide (a=b)
 | .ne,a,b=> !decide (a=b)
def opdR (x:Opd) (r:Row):V:=match x with
 | .col c=>colR r c
 | .val v=>v
def pickR (cs:List Nat) (r:Row):Row:=cs.map (colR r)
def numV:V→Int
 | .num n=>n
 | .txt _=>0
def sv (s:Option Nat) (r:Row):Int:=match s with
 | none=>1
 | some m=>numV (colR r m)
def selB (p:Row→Bool) (l:Bag):Bag:=l.filter fun e=>p e.1
def pickB (cs:List Nat) (l:Bag):Bag:=l.map fun e=>(pickR cs e.1,e.2)
def joinB (n m:Nat) (a b:Bag):Bag:=a.flatMap fun x=>(selB (fun y=>decide (colR x.1 n=colR y m)) b).map fun y=>(x.1++y.1,x.2*y.2)
def distB (l:Bag):Bag:=(canon l).map fun e=>(e.1,1)
def keysB (cs:List Nat) (l:Bag):Bag:=canon ((canon l).map fun e=>(pickR cs e.1,1))
def grpN (cs:List Nat) (s:Option Nat) (l:Bag) (k:Row):Int:=lin l (fun r=>if pickR cs r=k then sv s r else 0)
def grpB (cs:List Nat) (s:Option Nat) (l:Bag):Bag:=(keysB cs l).map fun k=>(k.1++[.num (grpN cs s l k.1)],1)
theorem selB_lin (p:Row→Bool) (l:Bag) (g:Row→Int):lin (selB p l) g=lin l (fun r=>if p r then g r else 0):=by
 induction l with
 | nil=>rfl
 | cons e l ih =>
   have ih':lin (List.filter (fun e=>p e.1) l) g=_:=ih
   simp only [selB,List.filter_cons]
   by_cases h:p e.1=true
   ·rw [if_pos h];simp only [lin,ih',h,if_true]
   ·rw [if_neg h];simp only [lin,ih'];rw [if_neg h];omega
theorem map_lin (f:Row→Row) (l:Bag) (g:Row→Int):lin (l.map fun e=>(f e.1,e.2)) g=lin l (fun r=>g (f r)):=by
 induction l with
 | nil=>rfl
 | cons e l ih=>simp only [List.map_cons,lin,ih]
theorem pickB_lin (cs:List Nat) (l:Bag) (g:Row→Int):lin (pickB cs l) g=lin l (fun r=>g (pickR cs r)):=map_lin _ l g
theorem scale_lin (t:Int) (f:Row→Row) (l:Bag) (g:Row→Int):lin (l.map fun e=>(f e.1,t*e.2)) g=t*lin l (fun r=>g (f r)):=by
 induction l with
 | nil=>simp [lin]
 | cons e l ih=>simp only [List.map_cons,lin,ih,Int.mul_add,Int.mul_assoc]
theorem joinB_lin (n m:Nat) (a b:Bag) (g:Row→Int):lin (joinB n m a b) g=lin a (fun x=>lin b (fun y=>if decide (colR x n=colR y m) then g (x++y) else 0)):=by
 induction a with
 | nil=>rfl
 | cons e a ih =>
   have ih':lin (List.flatMap (fun x=>(selB (fun y=>decide (colR x.1 n=colR y m)) b).map fun y=>(x.1++y.1,x.2*y.2)) a) g=_:=ih
   simp only [joinB,List.flatMap_cons,lin_append,ih',lin]
   rw [scale_lin e.2 (fun y=>e.1++y),selB_lin]
theorem selB_eqv {p:Row→Bool} {l m:Bag} (h:Eqv l m):Eqv (selB p l) (selB p m):=eqv_of_lin fun g=>by rw [selB_lin,selB_lin,h.lin]
theorem pickB_eqv {cs:List Nat} {l m:Bag} (h:Eqv l m):Eqv (pickB cs l) (pickB cs m):=eqv_of_lin fun g=>by rw [pickB_lin,pickB_lin,h.lin]
theorem joinB_eqv {n m:Nat} {a a' b b':Bag} (h:Eqv a a') (k:Eqv b b'):Eqv (joinB n m a b) (joinB n m a' b'):=eqv_of_lin fun g=>by
 rw [joinB_lin,joinB_lin,h.lin]
 exact lin_congr_fun _ fun e _=>k.lin _
theorem distB_eqv {l m:Bag} (h:Eqv l m):distB l=distB m:=by unfold distB;rw [h.canon]
theorem grpB_eqv {cs:List Nat} {s:Option Nat} {l m:Bag} (h:Eqv l m):grpB cs s l=grpB cs s m:=by
 unfold grpB keysB grpN;rw [h.canon]
 congr 1;funext k;rw [h.lin]
theorem selB_append (p:Row→Bool) (l m:Bag):selB p (l++m)=selB p l++selB p m:=List.filter_append _ _
theorem pickB_append (cs:List Nat) (l m:Bag):pickB cs (l++m)=pickB cs l++pickB cs m:=List.map_append
theorem joinB_left (n m:Nat) (a b c:Bag):joinB n m (a++b) c=joinB n m a c++joinB n m b c:=List.flatMap_append
theorem joinB_right (n m:Nat) (a b c:Bag):Eqv (joinB n m a (b++c)) (joinB n m a b++joinB n m a c):=eqv_of_lin fun g=>by
 rw [lin_append,joinB_lin,joinB_lin,joinB_lin,←lin_add]
 exact lin_congr_fun _ fun e _=>lin_append _ _ _
theorem selB_nn {p:Row→Bool} {l:Bag} (h:nn l):nn (selB p l):=nn_of_lin fun g hg=>by
 rw [selB_lin];exact lin_nn h fun r=>by split;exact hg r;exact Int.le_refl _
theorem pickB_nn {cs:List Nat} {l:Bag} (h:nn l):nn (pickB cs l):=nn_of_lin fun g hg=>by rw [pickB_lin];exact lin_nn h fun r=>hg _
theorem joinB_nn {n m:Nat} {a b:Bag} (h:nn a) (k:nn b):nn (joinB n m a b):=nn_of_lin fun g hg=>by
 rw [joinB_lin];exact lin_nn h fun x=>lin_nn k fun y=>by split;exact hg _;exact Int.le_refl _
theorem append_nn {a b:Bag} (h:nn a) (k:nn b):nn (a++b):=fun r=>by rw [cnt_append];have:=h r;have:=k r;omega
theorem ones_nn {l:Bag} (f:Row × Int→Row):nn (l.map fun e=>(f e,1)):=nn_of_lin fun g hg=>by
 induction l with
 | nil=>exact Int.le_refl _
 | cons e l ih=>simp only [List.map_cons,lin];have:=hg (f e);omega
theorem distB_nn (l:Bag):nn (distB l):=ones_nn _
theorem grpB_nn (cs:List Nat) (s:Option Nat) (l:Bag):nn (grpB cs s l):=ones_nn _
end Go.Proofs.YtdinjjmcmfjbfaaGreatDoor.Mo
