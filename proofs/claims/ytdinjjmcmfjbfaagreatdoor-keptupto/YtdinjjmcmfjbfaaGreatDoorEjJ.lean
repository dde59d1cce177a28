import Derived.Test.YtdinjjmcmfjbfaaGreatDoorBt2J
import Derived.Test.YtdinjjmcmfjbfaaGreatDoorEdJ
import Derived.Laws.AppendOwnNone
import Derived.Test.YtdinjjmcmfjbfaaGreatDoorOcJ
import Derived.Laws.Strings2
set_option maxRecDepth 100000
set_option maxHeartbeats 4000000
namespace Go.Proofs.YtdinjjmcmfjbfaaGreatDoor
open Mo (V Row)
structure Win (s x:ByteArray) (m:Nat):Prop where
 at_:∀ j,j<x.size→Pl.bt s (m+j)=Pl.bt x j
 right:m+x.size≤s.size
section
variable {s x:ByteArray} {m:Nat}
theorem sub_win (h:Win s x m) {a b:Nat} (hb:b≤x.size):sub s (m+a) (m+b)=sub x a b:=by
 have hr:=h.right
 have l1:=sub_len (s:=s) (a:=m+a) (b:=m+b) (by omega)
 have l2:=sub_len (s:=x) (a:=a) (b:=b) hb
 refine List.ext_getElem (by omega) fun i h1 h2=> ?_
 have g1:=sub_get (s:=s) (by omega) (List.getElem?_eq_getElem h1)
 have g2:=sub_get (s:=x) hb (List.getElem?_eq_getElem h2);refine UInt8.toNat_inj.1 ?_
 rw [g1.2,g2.2,Nat.add_assoc,h.at_ (a+i) (by omega)]
theorem many_win (h:Win s x m) (lo hi:Nat):∀ k a,Pl.many x lo hi k a<x.size→Pl.many s lo hi k (m+a)=m+Pl.many x lo hi k a
 | 0,a,_=>rfl
 | k+1,a,hf=>by
   have ha:a<x.size:=Nat.lt_of_le_of_lt (Pl.many_le x lo hi (k+1) a) hf;have e:=h.at_ a ha;unfold Pl.many at hf ⊢;rw [e]
   by_cases hc:lo≤Pl.bt x a∧Pl.bt x a≤hi
   ·rw [if_pos hc] at hf
    rw [if_pos hc,if_pos hc];exact many_win h lo hi k (a+1) hf
   ·rw [if_neg hc,if_neg hc]
theorem sev_win (h:Win s x m) (k lo hi a:Nat) (hf:(Pl.sev x k lo hi a).2<x.size):Pl.sev s k lo hi (m+a)=((Pl.sev x k lo hi a).1,m+(Pl.sev x k lo hi a).2):=by
 unfold Pl.sev at hf ⊢;rw [many_win h lo hi k a hf]
 simp
theorem tk_win (h:Win s x m) (c a:Nat) (ha:a<x.size):Pl.tk s c (m+a)=((Pl.tk x c a).1,m+(Pl.tk x c a).2):=by
 unfold Pl.tk;rw [h.at_ a ha]
 split <;> rfl
theorem digs_win (h:Win s x m) (a:Nat) (hf:(Pl.digs x a).2<x.size):Pl.digs s (m+a)=((Pl.digs x a).1,m+(Pl.digs x a).2):=by
 have ha:a<x.size:=Nat.lt_of_le_of_lt ((Pl.digs_good x).le a) hf;unfold Pl.digs at hf ⊢;rw [h.at_ a ha]
 by_cases hc:Pl.bt x a=48
 ·rw [if_pos hc,if_pos hc]
 ·rw [if_neg hc] at hf
  rw [if_neg hc,if_neg hc];exact sev_win h 4 48 57 a hf
theorem numP_win (h:Win s x m) (a:Nat) (hf:(Pl.numP x a).2<x.size):Pl.numP s (m+a)=((Pl.numP x a).1,m+(Pl.numP x a).2):=by
 have ha:a<x.size:=Nat.lt_of_le_of_lt ((Pl.numP_good x).le a) hf;unfold Pl.numP Pl.ifP at hf ⊢;rw [tk_win h 45 a ha]
 simp only
 by_cases h1:(Pl.tk x 45 a).1=true
 ·rw [if_pos h1] at hf
  rw [if_pos h1,if_pos h1];exact digs_win h _ hf
 ·rw [if_neg h1] at hf
  rw [if_neg h1,if_neg h1]
  have e2:(Pl.tk x 45 a).2=a:=by unfold Pl.tk at h1 ⊢;split at h1;exact absurd rfl h1;rw [if_neg (by assumption)]
  rw [e2] at hf ⊢;unfold Pl.orP at hf ⊢;rw [tk_win h 48 a ha]
  simp only
  by_cases h3:(Pl.tk x 48 a).1=true
  ·rw [if_pos h3,if_pos h3]
  ·rw [if_neg h3] at hf
   rw [if_neg h3,if_neg h3];exact digs_win h _ hf
theorem let4_win (h:Win s x m) (a:Nat) (hf:(Pl.let4 x a).2<x.size):Pl.let4 s (m+a)=((Pl.let4 x a).1,m+(Pl.let4 x a).2):=sev_win h 4 97 122 a hf
theorem valP_le (x:ByteArray) (a:Nat):a≤(Pl.let4 x a).2∧(Pl.let4 x a).2≤(valP x a).2:=by
 refine ⟨(Pl.let4_good x).le a,?_⟩;unfold valP Pl.orP
 split
 ·exact Nat.le_refl _
 ·exact (Pl.numP_good x).le _
theorem valP_win (h:Win s x m) (a:Nat) (hf:(valP x a).2<x.size):valP s (m+a)=((valP x a).1,m+(valP x a).2)∧((valP x a).1=true→valV s (m+a)=valV x a):=by
 have hl:=let4_win h a (Nat.lt_of_le_of_lt (valP_le x a).2 hf)
 by_cases h1:(Pl.let4 x a).1=true
 ·have e1:valP x a=(true,(Pl.let4 x a).2):=by unfold valP Pl.orP;rw [if_pos h1]
  have e2:valP s (m+a)=(true,m+(Pl.let4 x a).2):=by unfold valP Pl.orP;rw [hl,if_pos h1]
  rw [e1] at hf
  refine ⟨by rw [e1,e2],fun _=> ?_⟩
  unfold valV;rw [hl,if_pos h1,if_pos h1,sub_win h (Nat.le_of_lt hf)]
 ·have e0:=let4_no h1
  have e1:valP x a=Pl.numP x a:=by unfold valP Pl.orP;rw [if_neg h1,e0]
  have hn:=numP_win h a (by rw [←e1];exact hf)
  have e2:valP s (m+a)=Pl.numP s (m+a):=by unfold valP Pl.orP;rw [hl,if_neg h1,e0]
  refine ⟨by rw [e1,e2,hn],fun _=> ?_⟩
  unfold valV
  rw [hl,if_neg h1,if_neg h1,hn,sub_win h (by rw [←e1];exact Nat.le_of_lt hf)]
theorem rowsP_lt:∀ (k a:Nat) (r r':Row) (d:Nat),rowsP x k a r=some (r',d)→(valP x a).2<d
 | 0,_,_,_,_,h=>by cases h
 | k+1,a,r,r',d,h=>by
   unfold rowsP at h
   split at h
   ·split at h
    ·have:=rowsP_lt k _ _ _ _ h
     have h2:=valP_le x ((valP x a).2+1);omega
    ·split at h
     ·injection h with h;injection h with _ h;omega
     ·cases h
   ·cases h
theorem rowsP_win (h:Win s x m):∀ (k k' a:Nat) (r r':Row) (d:Nat),k≤k'→rowsP x k a r=some (r',d)→d≤x.size→rowsP s k' (m+a) r=some (r',m+d)
 | 0,_,_,_,_,_,_,e,_=>by cases e
 | k+1,0,_,_,_,_,hk,_,_=>by omega
 | k+1,k'+1,a,r,r',d,hk,e,hd=>by
   have hlt:=rowsP_lt _ _ _ _ _ e
   have hv:=valP_win h a (by omega)
   have hb:=h.at_ (valP x a).2 (by omega)
   unfold rowsP at e ⊢;rw [hv.1]
   simp only
   rw [hb]
   by_cases h1:(valP x a).1=true
   ·rw [if_pos h1] at e ⊢
    rw [hv.2 h1]
    by_cases h2:Pl.bt x (valP x a).2=44
    ·rw [if_pos h2] at e ⊢
     exact rowsP_win h k k' _ _ _ _ (by omega) e hd
    ·rw [if_neg h2] at e ⊢
     by_cases h3:Pl.bt x (valP x a).2=41
     ·rw [if_pos h3] at e ⊢
      injection e with e
      injection e with e1 e2
      rw [e1,←e2];rfl
     ·rw [if_neg h3] at e;cases e
   ·rw [if_neg h1] at e;cases e
end
def stepP (s:ByteArray) (a:Nat):Option (Ord × Nat):=if Pl.bt s a=43∨Pl.bt s a=45 then
    (if (Pl.let4 s (a+1)).1=true then
      (if Pl.bt s (Pl.let4 s (a+1)).2=40 then
        (match rowsP s (s.size+1) ((Pl.let4 s (a+1)).2+1) [] with
         | none=>none
         | some (r,d)=>some (⟨sub s (a+1) (Pl.let4 s (a+1)).2,r,signT s a⟩,d))
       else none)
     else none)
 else none
theorem ordersP_step (s:ByteArray) (k a:Nat) (l:List Ord):ordersP s (k+1) a l=match stepP s a with
 | none=>none
 | some (o,d)=>if d=s.size then some (l++[o]) else if Pl.bt s d=59 then ordersP s k (d+1) (l++[o]) else none:=by
 rw [ordersP];unfold stepP
 by_cases h1:Pl.bt s a=43∨Pl.bt s a=45
 ·rw [if_pos h1,if_pos h1]
  by_cases h2:(Pl.let4 s (a+1)).1=true
  ·rw [if_pos h2,if_pos h2]
   by_cases h3:Pl.bt s (Pl.let4 s (a+1)).2=40
   ·rw [if_pos h3,if_pos h3]
    cases rowsP s (s.size+1) ((Pl.let4 s (a+1)).2+1) [] with
    | none=>rfl
    | some y=>rfl
   ·rw [if_neg h3,if_neg h3]
  ·rw [if_neg h2,if_neg h2]
 ·rw [if_neg h1,if_neg h1]
theorem stepP_lt {s:ByteArray} {a d:Nat} {o:Ord} (h:stepP s a=some (o,d)):a<d:=by
 unfold stepP at h
 split at h
 ·split at h
  ·split at h
   ·split at h
    ·cases h
    ·next r d' hr =>
     injection h with h
     injection h with _ h
     have h1:=rowsP_lt _ _ _ _ _ hr;have h2:=valP_le s ((Pl.let4 s (a+1)).2+1);have h3:=(Pl.let4_good s).le (a+1);omega
   ·cases h
  ·cases h
 ·cases h
theorem stepP_win {s x:ByteArray} {m:Nat} (h:Win s x m) {a d:Nat} {o:Ord} (e:stepP x a=some (o,d)) (hd:d≤x.size):stepP s (m+a)=some (o,m+d):=by
 have hlt:=stepP_lt e;unfold stepP at e ⊢
 rw [h.at_ a (by omega)]
 by_cases h1:Pl.bt x a=43∨Pl.bt x a=45
 ·rw [if_pos h1] at e ⊢
  by_cases h2:(Pl.let4 x (a+1)).1=true
  ·rw [if_pos h2] at e
   by_cases h3:Pl.bt x (Pl.let4 x (a+1)).2=40
   ·rw [if_pos h3] at e
    cases hr:rowsP x (x.size+1) ((Pl.let4 x (a+1)).2+1) [] with
    | none=>rw [hr] at e;cases e
    | some y =>
      obtain ⟨r,d'⟩:=y;rw [hr] at e;simp only [Option.some.injEq,Prod.mk.injEq] at e;obtain ⟨e1,rfl⟩:=e;have q1:=rowsP_lt _ _ _ _ _ hr;have q2:=valP_le x ((Pl.let4 x (a+1)).2+1)
      have hl:=let4_win h (a+1) (by omega)
      rw [←Nat.add_assoc] at hl;rw [hl]
      simp only
      rw [if_pos h2,h.at_ _ (by omega),if_pos h3]
      have hw:=rowsP_win h (x.size+1) (s.size+1) _ _ _ _ (by have:=h.right;omega) hr hd
      rw [←Nat.add_assoc] at hw;rw [hw]
      simp only
      rw [←e1]
      have hsg:signT s (m+a)=signT x a:=by unfold signT;rw [h.at_ a (by omega)]
      have hsb:=sub_win h (a:=a+1) (b:=(Pl.let4 x (a+1)).2) (by omega)
      rw [←Nat.add_assoc] at hsb;rw [hsg,hsb]
   ·rw [if_neg h3] at e;cases e
  ·rw [if_neg h2] at e;cases e
 ·rw [if_neg h1] at e;cases e
inductive OR (s:ByteArray):Nat→List Ord→Nat→Prop
 | one {a:Nat} {o:Ord} {d:Nat}:stepP s a=some (o,d)→OR s a [o] d
 | more {a:Nat} {o:Ord} {d:Nat} {os:List Ord} {e:Nat}:stepP s a=some (o,d)→d<s.size→Pl.bt s d=59→OR s (d+1) os e→OR s a (o::os) e
theorem OR.of:∀ {s:ByteArray} (k a:Nat) (l os:List Ord),ordersP s k a l=some os→∃ os',os=l++os'∧OR s a os' s.size
 | s,0,_,_,_,h=>by cases h
 | s,k+1,a,l,os,h=>by
   rw [ordersP_step] at h
   cases hs:stepP s a with
   | none=>rw [hs] at h;cases h
   | some y =>
     obtain ⟨o,d⟩:=y;rw [hs] at h
     simp only at h
     by_cases h1:d=s.size
     ·rw [if_pos h1] at h
      injection h with h
      exact ⟨[o],h.symm,h1 ▸ .one hs⟩
     ·rw [if_neg h1] at h
      by_cases h2:Pl.bt s d=59
      ·rw [if_pos h2] at h
       obtain ⟨os',e1,e2⟩:=OR.of k (d+1) _ _ h
       exact ⟨o::os',by rw [e1];simp,.more hs (Pl.bt_lt (by omega)) h2 e2⟩
      ·rw [if_neg h2] at h;cases h
theorem OR.to {s:ByteArray} {a e:Nat} {os:List Ord} (h:OR s a os e):e=s.size→∀ (k:Nat) (l:List Ord),s.size<a+k→ordersP s k a l=some (l++os):=by
 induction h with
 | @one a o d hs =>
   intro he k l hk;have hlt:=stepP_lt hs
   cases k with
   | zero=>omega
   | succ k =>
     rw [ordersP_step,hs]
     simp only
     rw [if_pos he]
 | @more a o d os e hs hd hb _ ih =>
   intro he k l hk;have hlt:=stepP_lt hs
   cases k with
   | zero=>omega
   | succ k =>
     rw [ordersP_step,hs]
     simp only
     rw [if_neg (by omega),if_pos hb,ih he k _ (by omega)]
     simp
theorem OR.win {s x:ByteArray} {m:Nat} (h:Win s x m) {a e:Nat} {os:List Ord} (k:OR x a os e):e≤x.size→OR s (m+a) os (m+e):=by
 induction k with
 | one hs=>exact fun he=>.one (stepP_win h hs he)
 | @more a o d os e hs hd hb _ ih =>
   intro he;have hr:=h.right
   exact .more (stepP_win h hs (by omega)) (by omega) ((h.at_ d hd).trans hb) (by rw [Nat.add_assoc];exact ih he)
theorem OR.join {s:ByteArray} {a d e:Nat} {os os':List Ord} (h:OR s a os d) (hd:d<s.size) (hb:Pl.bt s d=59) (k:OR s (d+1) os' e):OR s a (os++os') e:=by
 induction h with
 | one hs=>exact .more hs hd hb k
 | more hs h1 h2 _ ih=>exact .more hs h1 h2 (ih hd hb k)
theorem bt_append_left {x y:ByteArray} {j:Nat} (h:j<x.size):Pl.bt (x++y) j=Pl.bt x j:=by
 have h1:=bt_get (x++y) j;have h2:=bt_get x j
 rw [if_pos (by rw [ByteArray.size_append];omega)] at h1
 rw [if_pos h] at h2
 rw [ByteArray.data_append,Array.toList_append,List.getElem?_append_left (by rw [ba_len];exact h),h2] at h1
 injection h1 with h1;exact h1.symm
theorem bt_append_right {x y:ByteArray} {j:Nat} (h:j<y.size):Pl.bt (x++y) (x.size+j)=Pl.bt y j:=by
 have h1:=bt_get (x++y) (x.size+j);have h2:=bt_get y j
 rw [if_pos (by rw [ByteArray.size_append];omega)] at h1
 rw [if_pos h] at h2
 rw [ByteArray.data_append,Array.toList_append,List.getElem?_append_right (by rw [ba_len];omega),ba_len,Nat.add_sub_cancel_left,h2] at h1
 injection h1 with h1;exact h1.symm
theorem batch_join {x y:ByteArray} {os os':List Ord} (hx:x.size≠0) (hy:y.size≠0) (h:batchP x=some os) (k:batchP y=some os'):batchP (x++⟨#[59]⟩++y)=some (os++os'):=by
 unfold batchP at h k ⊢;rw [if_neg hx] at h;rw [if_neg hy] at k;obtain ⟨o1,e1,r1⟩:=OR.of _ _ _ _ h;obtain ⟨o2,e2,r2⟩:=OR.of _ _ _ _ k;rw [List.nil_append] at e1 e2;subst e1 e2
 have hs:(x++⟨#[59]⟩++y).size=x.size+1+y.size:=by rw [ByteArray.size_append,ByteArray.size_append];rfl
 have hs1:(x++(⟨#[59]⟩:ByteArray)).size=x.size+1:=by rw [ByteArray.size_append];rfl
 have w1:Win (x++⟨#[59]⟩++y) x 0:=⟨fun j hj=>by rw [Nat.zero_add,bt_append_left (by omega),bt_append_left hj],by omega⟩
 have w2:Win (x++⟨#[59]⟩++y) y (x.size+1):=⟨fun j hj=>by rw [←hs1,bt_append_right hj],by omega⟩
 have q1:=r1.win w1 (Nat.le_refl _);have q2:=r2.win w2 (Nat.le_refl _);rw [Nat.zero_add,Nat.zero_add] at q1
 have hb:Pl.bt (x++⟨#[59]⟩++y) x.size=59:=by
  rw [bt_append_left (by omega)]
  have:=bt_append_right (x:=x) (y:=⟨#[59]⟩) (j:=0) (by decide)
  rw [Nat.add_zero] at this;rw [this];rfl
 rw [if_neg (by omega)]
 have:=(q1.join (by omega) hb q2).to (by omega) ((x++⟨#[59]⟩++y).size+1) [] (by omega)
 simpa using this
open Go.RowKit Go.Shelf Go.Deep
open Mo (V Row Bag cnt canon Eqv OkB OkD neg Nr Q leaves bagQ tyQ wf joins TOk wv ty Tab)
def nuI:Nat→ByteArray
 | 0=>⟨#[48]⟩
 | 1=>⟨#[49]⟩
 | 2=>⟨#[50]⟩
 | 3=>⟨#[51]⟩
 | 4=>⟨#[52]⟩
 | _=>⟨#[45,55]⟩
def wdI:Nat→ByteArray
 | 0=>⟨#[97]⟩
 | 1=>⟨#[97,98]⟩
 | 2=>⟨#[98]⟩
 | _=>⟨#[122,122]⟩
def nmI:Nat→List UInt8
 | 0=>[114]
 | 1=>[113]
 | _=>[115]
def vnI:Nat→V
 | 5=>.num (-7)
 | b=>.num b
def rowI (a b c:Nat):Row:=if a=2 then [.txt (wdI c).data.toList,vnI b] else [vnI b,.txt (wdI c).data.toList]
def chI (goes:Bool) (a b c:Nat):ByteArray:=chX goes (a:Int) (nuI b) (wdI c)
def sgI (goes:Bool):Int:=if goes then -1 else 1
def chOk (goes:Bool) (a b c:Nat):Bool:=(match batchP (chI goes a b c) with
    | some [o]=>decide (o.name=nmI a) && decide (o.row=rowI a b c) && decide (o.t=sgI goes)
    | _=>false) && decide (fitP (tr0 fr3.tabs) [⟨nmI a,rowI a b c,1⟩]=0)
theorem ch_all:([true,false].all fun g=>(List.range 3).all fun a=>(List.range 6).all fun b=>(List.range 4).all fun c=>chOk g a b c)=true:=by kernel_rfl
theorem chI_ord (goes:Bool) {a b c:Nat} (ha:a<3) (hb:b<6) (hc:c<4):batchP (chI goes a b c)=some [⟨nmI a,rowI a b c,sgI goes⟩]∧fitP (tr0 fr3.tabs) [⟨nmI a,rowI a b c,1⟩]=0:=by
 have h:=List.all_eq_true.1 (List.all_eq_true.1 (List.all_eq_true.1 (List.all_eq_true.1 ch_all goes (by cases goes <;> simp)) a (List.mem_range.2 ha)) b (List.mem_range.2 hb)) c (List.mem_range.2 hc)
 unfold chOk at h;rw [Bool.and_eq_true,decide_eq_true_eq] at h;refine ⟨?_,h.2⟩;have h1:=h.1
 split at h1
 ·next o ho =>
  simp only [Bool.and_eq_true,decide_eq_true_eq] at h1;obtain ⟨⟨e1,e2⟩,e3⟩:=h1;rw [ho,←e1,←e2,←e3]
 ·cases h1
theorem dg_nu:∀ b,b<5→dgB b=nuI b
 | 0,_=>by kernel_rfl
 | 1,_=>by kernel_rfl
 | 2,_=>by kernel_rfl
 | 3,_=>by kernel_rfl
 | 4,_=>by kernel_rfl
theorem chB_chI (goes:Bool) (t n k:Int):∃ a b c,a<3∧b<6∧c<4∧chB goes t n k=chI goes a b c∧(∀ g',chB g' t n k=chI g' a b c):=by
 have h1:=pickM_range t 3 (by omega)
 have h2:=pickM_range n 5 (by omega)
 have h3:=pickM_range k 4 (by omega)
 obtain ⟨a,ha⟩:∃ a:Nat,pickM t 3=(a:Int):=⟨(pickM t 3).toNat,by omega⟩
 have hn:∃ b,b<6∧nuB n=nuI b:=by
  unfold nuB
  split
  ·exact ⟨5,by decide,rfl⟩
  ·obtain ⟨b,hb⟩:∃ b:Nat,(pickM n 5).toNat=b:=⟨_,rfl⟩
   rw [hb]
   have hb5:b<5:=by omega
   refine ⟨b,by omega,?_⟩
   exact dg_nu b hb5
 have hk:∃ c,c<4∧wdB k=wdI c:=by
  unfold wdB;obtain ⟨c,hc⟩:∃ c:Nat,(pickM k 4).toNat=c:=⟨_,rfl⟩;rw [hc]
  have hc4:c<4:=by omega
  refine ⟨c,hc4,?_⟩
  match c,hc4 with
  | 0,_ | 1,_ | 2,_ | 3,_=>rfl
 obtain ⟨b,hb,e1⟩:=hn;obtain ⟨c,hc,e2⟩:=hk
 have hg:∀ g',chB g' t n k=chI g' a b c:=fun g'=>by unfold chB chI;rw [ha,e1,e2]
 exact ⟨a,b,c,by omega,hb,hc,hg goes,hg⟩
structure TEq (tb tb':List Tab):Prop where
 nm:tb'.map Tab.nm=tb.map Tab.nm
 bag:∀ (i:Nat) (t t':Tab),tb[i]? =some t→tb'[i]? =some t'→Eqv t.bag t'.bag
theorem tabT_teq:∀ (tb tb':List Tab),TEq tb tb'→∀ nm,(Mo.tabT tb nm=none∧Mo.tabT tb' nm=none)∨∃ t t',Mo.tabT tb nm=some t∧Mo.tabT tb' nm=some t'∧Eqv t.bag t'.bag
 | [],[],_,_=>.inl ⟨rfl,rfl⟩
 | [],_::_,h,_=>by have:=h.nm;simp at this
 | _::_,[],h,_=>by have:=h.nm;simp at this
 | t::tb,t'::tb',h,nm=>by
   have hn:=h.nm;simp only [List.map_cons,List.cons.injEq] at hn
   have ih:=tabT_teq tb tb' ⟨hn.2,fun i x y hx hy=>h.bag (i+1) x y hx hy⟩ nm
   unfold Mo.tabT at ih ⊢;rw [List.find?_cons,List.find?_cons,hn.1]
   by_cases e:t.nm=nm
   ·simp only [e,decide_true]
    exact .inr ⟨t,t',rfl,rfl,h.bag 0 t t' rfl rfl⟩
   ·simp only [e,decide_false]
    exact ih
theorem bagN_teq {tb tb':List Tab} (h:TEq tb tb') (nm:List UInt8):Eqv (Mo.bagN tb nm) (Mo.bagN tb' nm):=by
 unfold Mo.bagN
 rcases tabT_teq tb tb' h nm with ⟨e1,e2⟩ | ⟨t,t',e1,e2,e3⟩
 ·rw [e1,e2];exact Eqv.refl _
 ·rw [e1,e2];exact e3
theorem bagT_cong {f g:List UInt8→Bag} (h:∀ nm,Eqv (f nm) (g nm)):∀ (q:Q),Eqv (Mo.bagT f q) (Mo.bagT g q)
 | .tab nm=>h nm
 | .sel _ _ _ q=>Mo.selB_eqv (bagT_cong h q)
 | .pick _ q=>Mo.pickB_eqv (bagT_cong h q)
 | .join _ _ q r=>Mo.joinB_eqv (bagT_cong h q) (bagT_cong h r)
 | .uni q r=>Eqv.append (bagT_cong h q) (bagT_cong h r)
 | .dist q=>by simp only [Mo.bagT];rw [Mo.distB_eqv (bagT_cong h q)];exact Eqv.refl _
 | .grp _ _ q=>by simp only [Mo.bagT];rw [Mo.grpB_eqv (bagT_cong h q)];exact Eqv.refl _
theorem bagS_teq {tb tb':List Tab} (h:TEq tb tb') (q:Q):Eqv (Mo.bagS tb q) (Mo.bagS tb' q) :=
 ((bagS_bagT tb q).trans (bagT_cong (fun nm=>bagN_teq h nm) q)).trans (bagS_bagT tb' q).symm
theorem rowsT_teq:∀ (tb tb':List Tab),TEq tb tb'→Mo.rowsT tb'=Mo.rowsT tb
 | [],[],_=>rfl
 | [],_::_,h=>by have:=h.nm;simp at this
 | _::_,[],h=>by have:=h.nm;simp at this
 | t::tb,t'::tb',h=>by
   have hn:=h.nm;simp only [List.map_cons,List.cons.injEq] at hn
   have ih:=rowsT_teq tb tb' ⟨hn.2,fun i x y hx hy=>h.bag (i+1) x y hx hy⟩
   show Nr t'.bag+Mo.rowsT tb'=Nr t.bag+Mo.rowsT tb
   rw [ih,Mo.Nr_eqv (h.bag 0 t t' rfl rfl)]
theorem newT_get {tb:List Tab} {D:Nat→Bag} {i:Nat} {t:Tab} (h:(newT tb D)[i]? =some t):∃ t0,tb[i]? =some t0∧t={ t0 with bag:=t0.bag++D i }:=by
 unfold newT at h;rw [List.getElem?_mapIdx] at h;obtain ⟨t0,h0,e⟩:=Option.map_eq_some_iff.1 h;exact ⟨t0,h0,e.symm⟩
theorem newT_nm (tb:List Tab) (D:Nat→Bag):(newT tb D).map Tab.nm=tb.map Tab.nm:=by rw [←newI_all,newI_nms]
theorem newT_nought {tb:List Tab} {D:Nat→Bag} (h:∀ i r,cnt (D i) r=0):TEq tb (newT tb D):=by
 refine ⟨newT_nm tb D,fun i t t' ht ht'=> ?_⟩
 obtain ⟨t0,h0,rfl⟩:=newT_get ht';rw [ht] at h0
 injection h0 with h0
 subst h0;intro r
 show _=cnt (t.bag++D i) r
 rw [Mo.cnt_append,h i r];omega
theorem bearP_sum:∀ (l:List (Bag × Bag)) (n:Int),(∀ p∈l,covB p=true)→bearP l n=if 60<n+(l.map fun p=>Nr p.1+Nr p.2).sum then 8 else 0
 | [],n,_=>by simp [bearP]
 | p::l,n,h=>by
   rw [bearP,if_pos (h p (by simp)),bearP_sum l _ fun x hx=>h x (by simp [hx])]
   simp only [List.map_cons,List.sum_cons]
   rw [show n+(Nr p.1+Nr p.2)+(l.map fun p=>Nr p.1+Nr p.2).sum=n+(Nr p.1+Nr p.2+(l.map fun p=>Nr p.1+Nr p.2).sum) by omega]
theorem psM_sum (tb:List Tab) (D:Nat→Bag):((psM tb D).map fun p=>Nr p.1+Nr p.2).sum=Mo.rowsT (newT tb D):=by
 unfold psM Mo.rowsT newT
 congr 1
 refine List.ext_getElem? fun i=> ?_
 rw [List.getElem?_map,List.getElem?_map,List.getElem?_mapIdx,List.getElem?_mapIdx,Option.map_map,Option.map_map]
 congr 1
 funext t
 show Nr (canon t.bag)+Nr (D i)=Nr (t.bag++D i)
 rw [Mo.append_Nr,Mo.Nr_eqv (Mo.canon_eqv t.bag)]
theorem feed_fits {st:Mo.Ses} {s:ByteArray} {os:List Ord} (hs:s.size≤300) (hb:batchP s=some os) (hf:fitP (tr0 st.tabs) os=0) (hn:∀ t∈newT st.tabs (chg (tr0 st.tabs) os),Mo.nn t.bag) :
 feedM st s=if 60<Mo.rowsT (newT st.tabs (chg (tr0 st.tabs) os)) then (([],8),st) else ((bars (st.views.map fun q=>bagTxt (Mo.bagS (newT st.tabs (chg (tr0 st.tabs) os)) q++neg (Mo.bagS st.tabs q))),0),⟨newT st.tabs (chg (tr0 st.tabs) os),st.views⟩):=by
 have hcov:∀ p∈psM st.tabs (chg (tr0 st.tabs) os),covB p=true:=by
  intro p hp;obtain ⟨i,hi⟩:=List.getElem?_of_mem hp;unfold psM at hi;rw [List.getElem?_mapIdx] at hi;obtain ⟨t,ht,rfl⟩:=Option.map_eq_some_iff.1 hi;unfold covB;rw [List.all_eq_true];intro e _
  have hm:({ t with bag:=t.bag++chg (tr0 st.tabs) os i }:Tab)∈newT st.tabs (chg (tr0 st.tabs) os):=by
   refine List.mem_of_getElem? (i:=i) ?_
   unfold newT;rw [List.getElem?_mapIdx,ht];rfl
  have:=hn _ hm e.1
  rw [decide_eq_true_eq,Mo.canon_cnt];have h2:cnt (t.bag++chg (tr0 st.tabs) os i) e.1=_:=Mo.cnt_append _ _ _;rw [h2] at this;exact this
 unfold feedM
 rw [if_neg (by omega),hb]
 simp only
 rw [if_neg (by rw [hf];simp),bearP_sum _ _ hcov,psM_sum,Int.zero_add]
 by_cases h60:60<Mo.rowsT (newT st.tabs (chg (tr0 st.tabs) os))
 ·simp [h60]
 ·simp [h60]
theorem tr0_same {tb:List Tab} (hn:tb.map Tab.nm=fr3.tabs.map Tab.nm) (hf:Mo.ftT tb=Mo.ftT fr3.tabs):tr0 tb=tr0 fr3.tabs:=by
 have key:∀ tb:List Tab,(tb.map Tab.nm).Nodup→tr0 tb=(tb.map Tab.nm).map fun nm=>⟨0,nm,(Mo.ftT tb nm).getD []⟩:=by
  intro tb hn;unfold tr0;rw [List.map_map]
  refine List.map_congr_left fun t ht=> ?_
  show _=(⟨0,t.nm,(Mo.ftT tb t.nm).getD []⟩:TRec)
  unfold Mo.ftT;rw [Mo.tabT_of hn ht];rfl
 rw [key _ (by rw [hn];exact fr_nod),key _ fr_nod,hn,hf]
theorem newT_ft {tb:List Tab} (D:Nat→Bag) (hn:(tb.map Tab.nm).Nodup):Mo.ftT (newT tb D)=Mo.ftT tb:=by rw [←newI_all,newI_ft _ _ hn]
theorem nn_teq {tb tb':List Tab} (h:TEq tb tb') (hn:∀ t∈tb,Mo.nn t.bag):∀ t∈tb',Mo.nn t.bag:=by
 intro t' ht';obtain ⟨i,hi⟩:=List.getElem?_of_mem ht'
 have hl:tb'.length=tb.length:=by have:=congrArg List.length h.nm;simpa using this
 have hil:=(List.getElem?_eq_some_iff.1 hi).1
 obtain ⟨t,ht⟩:∃ t,tb[i]? =some t:=⟨_,List.getElem?_eq_getElem (by omega)⟩
 intro r;rw [←h.bag i t t' ht hi r]
 exact hn t (List.mem_of_getElem? ht) r
open Go.RowKit Go.Shelf
theorem ba_ne {a b:ByteArray} (h:¬a=b):(a.toList == b.toList)=false:=by
 refine beq_false_of_ne fun e=>h ?_
 rw [ByteArray.toList_eq,ByteArray.toList_eq] at e
 cases a;cases b
 congr 1
 exact Array.ext' e
abbrev En:=ByteArray × Int
def EnAt (w:World) (v:Value) (es:List En):Prop:=∃ a cap,v=.slice a es.length cap∧es.length≤cap∧cap≤maxLen∧(a=none∧es=[]∧cap=0∨∃ b o,a=some ⟨b,o,none⟩∧b<w.heap.size∧∀ (i:Nat) (e:En),es[i]? =some e→w.cell? ⟨b,o+i*2,none⟩=some (.string e.1)∧w.cell? ⟨b,o+i*2+1,none⟩=some (.int .i64 e.2))
theorem EnAt.kept {w w':World} {v:Value} {es:List En} (h:EnAt w v es) (k:Kept No w w'):EnAt w' v es:=by
 obtain ⟨a,cap,h1,h2,h3,h4⟩:=h;refine ⟨a,cap,h1,h2,h3,h4.imp id ?_⟩;rintro ⟨b,o,e1,e2,e3⟩
 exact ⟨b,o,e1,Nat.lt_of_lt_of_le e2 k.size,fun i e hi=>⟨(k.cell e2 (fun e=>e)).trans (e3 i e hi).1,(k.cell e2 (fun e=>e)).trans (e3 i e hi).2⟩⟩
theorem EnAt.get {w:World} {a:Option Addr} {n cap:Nat} {es:List En} (h:EnAt w (.slice a n cap) es) (i:Nat) (e:En) (hi:es[i]? =some e):∃ b o,a=some ⟨b,o,none⟩∧b<w.heap.size∧w.cell? ⟨b,o+i*2,none⟩=some (.string e.1)∧w.cell? ⟨b,o+i*2+1,none⟩=some (.int .i64 e.2):=by
 obtain ⟨a',c',e1,_,_,h4⟩:=h
 injection e1 with e1 e2 e3
 subst e1
 rcases h4 with ⟨_,h5,_⟩ | ⟨b,o,e4,e5,e6⟩
 ·rw [h5] at hi;simp at hi
 ·exact ⟨b,o,e4,e5,e6 i e hi⟩
def tmI (es:List En) (row:ByteArray):Nat→Int
 | 0=>0
 | i+1=>match es[i]? with
   | some e=>if e.1=row then wrap64 (tmI es row i+e.2) else tmI es row i
   | none=>tmI es row i
def tmW (es:List En) (row:ByteArray):Int:=tmI es row es.length
theorem tmI_succ {es:List En} {row:ByteArray} {i:Nat} {e:En} (h:es[i]? =some e):tmI es row (i+1)=if e.1=row then wrap64 (tmI es row i+e.2) else tmI es row i:=by
 show (match es[i]? with | some e=>_ | none=>_)=_
 rw [h]
theorem times_any (v:Value) (es:List En) (row:ByteArray) (w:World) (h:EnAt w v es):Calls Tryz.prog 30 #[v,.string row] w fun e w'=>e=.returned (.int .i64 (tmW es row))∧w'=w:=by
 have h0:=h;obtain ⟨a,cap,rfl,h2,h3,-⟩:=h;have h4:=h0.get;have H4:=hid h4
 have hcap:cap≤9223372036854775807:=by unfold maxLen at h3;omega
 obtain ⟨n,hn⟩:∃ n,es.length=n:=⟨_,rfl⟩;have HN:=hid hn;rw [hn] at h2 ⊢;clear h4 h3 hn h0
 go_enter Tryz.func30,Tryz.ntmps30
 go_wp2_with fail
 go_loopg [5,6] n (fun k v3 v4 wr=>∃ (i:Nat) (t:Int),i+k=n∧v3=.int .i64 t∧v4=.int .i64 (i:Int)∧Hid (t=tmI es row i)∧wr=w)
 case atStart=>exact ⟨0,0,by omega,rfl,rfl,rfl,rfl⟩
 case round =>
  obtain ⟨i,t,hik,rfl,rfl,HT,rfl⟩:=hrel
  cases gk with
  | zero =>
    have hx:¬(i:Int)<(n:Int):=by omega
    have HE:Hid (t=tmW es row):=by
     show _=_
     rw [HT.out];unfold tmW;rw [HN.out]
     have:i=n:=by omega
     rw [this]
    go_wp2_with fail;go_ret
    exact ⟨by rw [←HE.out];rfl,rfl⟩
  | succ k =>
    have hx:(i:Int)<(n:Int):=by omega
    have hx0:(0:Int)≤(i:Int):=by omega
    obtain ⟨⟨er,et⟩,hr⟩:∃ r,es[i]? =some r:=⟨_,List.getElem?_eq_getElem (by have:=HN.out;omega)⟩
    obtain ⟨b,o,rfl,hbl,c0,c1⟩:=H4.out i _ hr;have HS:=hid (tmI_succ (row:=row) hr);clear hr
    by_cases hrow:er=row
    ·have HR:Hid (tmI es row (i+1)=wrap64 (t+et)):=by
      show _=_
      rw [HS.out,if_pos hrow,HT.out]
     subst hrow;clear HS;go_wp2_with fail;go_roundg k
     case measure=>omega
     case rel=>exact ⟨i+1,_,by omega,rfl,by go_num,HR.out.symm,rfl⟩
    ·have HR:Hid (tmI es row (i+1)=t):=by
      show _=_
      rw [HS.out,if_neg hrow,HT.out]
     have hrb:=ba_ne hrow;clear HS;go_wp2_with fail;go_roundg k
     case measure=>omega
     case rel=>exact ⟨i+1,_,by omega,rfl,by go_num,HR.out.symm,rfl⟩
theorem equal_any (v u:Value) (es fs:List En) (w:World) (h:EnAt w v es) (k:EnAt w u fs) (he:∀ e∈es,tmW es e.1=tmW fs e.1) (hf:∀ e∈fs,tmW es e.1=tmW fs e.1):Calls Tryz.prog 23 #[v,u] w fun e w'=>e=.returned (.bool true)∧Kept No w w':=by
 have HV:=hid h;have HU:=hid k;have HE:=hid he;have HF:=hid hf;obtain ⟨a,cap,rfl,h2,h3,-⟩:=h;obtain ⟨a',cap',rfl,k2,k3,-⟩:=k;have h4:=HV.out.get;have k4:=HU.out.get;have H4:=hid h4;have K4:=hid k4
 have hcap:cap≤9223372036854775807:=by unfold maxLen at h3;omega
 have hcap':cap'≤9223372036854775807:=by unfold maxLen at k3;omega
 obtain ⟨n,hn⟩:∃ n,es.length=n:=⟨_,rfl⟩;have HN:=hid hn;rw [hn] at h2 HV ⊢;obtain ⟨m,hm⟩:∃ m,fs.length=m:=⟨_,rfl⟩;have HM:=hid hm;rw [hm] at k2 HU ⊢;clear h4 h3 hn k4 k3 hm he hf
 go_enter Tryz.func23,Tryz.ntmps23
 go_wp2_with fail
 go_loopg [5] n (fun k v4 wr=>∃ (i:Nat),i+k=n∧v4=.int .i64 (i:Int)∧Hid (Kept No w wr))
 case atStart=>exact ⟨0,by omega,rfl,hid (Kept.refl _ _)⟩
 case round =>
  obtain ⟨i,hik,rfl,HK⟩:=hrel
  cases gk with
  | zero =>
    have hx:¬(i:Int)<(n:Int):=by omega
    go_wp2_with fail;clear hx hik
    go_loopg [6] m (fun k v4 wr=>∃ (i:Nat),i+k=m∧v4=.int .i64 (i:Int)∧Hid (Kept No w wr))
    case atStart=>exact ⟨0,by omega,rfl,HK⟩
    case round =>
     clear HK;obtain ⟨j,hik,rfl,HK⟩:=hrel
     cases gk with
     | zero =>
       have hx:¬(j:Int)<(m:Int):=by omega
       go_wp2_with fail;go_ret;exact ⟨rfl,HK.out⟩
     | succ k =>
       have hx:(j:Int)<(m:Int):=by omega
       have hx0:(0:Int)≤(j:Int):=by omega
       obtain ⟨⟨er,et⟩,hr⟩:∃ r,fs[j]? =some r:=⟨_,List.getElem?_eq_getElem (by have:=HM.out;omega)⟩
       obtain ⟨b,o,rfl,hbl,c0,c1⟩:=K4.out j _ hr
       have d0:wr.cell? ⟨b,o+j*2,none⟩=some (.string er):=(HK.out.cell hbl (fun e=>e)).trans c0
       have HEq:=hid (HF.out _ (List.mem_of_getElem? hr))
       have HT2:Hid (∀ w1,Kept No wr w1→Calls Tryz.prog 30 #[.slice (some ⟨b,o,none⟩) m cap',.string er] w1 fun e w'=>e=.returned (.int .i64 (tmW fs er))∧w'=w1):=fun w1 hk=>times_any _ fs er w1 ((HU.out.kept HK.out).kept hk)
       have HT1:Hid (∀ w1,Kept No wr w1→Calls Tryz.prog 30 #[.slice a n cap,.string er] w1 fun e w'=>e=.returned (.int .i64 (tmW es er))∧w'=w1):=fun w1 hk=>times_any _ es er w1 ((HV.out.kept HK.out).kept hk)
       rw [HEq.out] at HT1;have HK2:=hid HK.out.drew;clear c0 c1 hr;go_wp2_with fail
       go_region_held (fun w'=>w'.cell? ⟨b,o+j*2,none⟩=some (.string er)) (first | exact d0 | go_keep)
        (first
          | (go_at_call 30;refine (HT1.out _ (Kept.refl No wr).drew).mono ?_;rintro e w1 ⟨rfl,rfl⟩;clear HT1)
          | (go_at_call 30;refine (HT2.out _ (Kept.refl No wr).drew).mono ?_;rintro e w1 ⟨rfl,rfl⟩)
          | fail)
       go_wp2_with fail;go_roundg k
       case measure=>omega
       case rel=>exact ⟨j+1,by omega,by go_num,HK2⟩
  | succ k =>
    have hx:(i:Int)<(n:Int):=by omega
    have hx0:(0:Int)≤(i:Int):=by omega
    obtain ⟨⟨er,et⟩,hr⟩:∃ r,es[i]? =some r:=⟨_,List.getElem?_eq_getElem (by have:=HN.out;omega)⟩
    obtain ⟨b,o,rfl,hbl,c0,c1⟩:=H4.out i _ hr
    have d0:wr.cell? ⟨b,o+i*2,none⟩=some (.string er):=(HK.out.cell hbl (fun e=>e)).trans c0
    have HEq:=hid (HE.out _ (List.mem_of_getElem? hr))
    have HT1:Hid (∀ w1,Kept No wr w1→Calls Tryz.prog 30 #[.slice (some ⟨b,o,none⟩) n cap,.string er] w1 fun e w'=>e=.returned (.int .i64 (tmW es er))∧w'=w1):=fun w1 hk=>times_any _ es er w1 ((HV.out.kept HK.out).kept hk)
    have HT2:Hid (∀ w1,Kept No wr w1→Calls Tryz.prog 30 #[.slice a' m cap',.string er] w1 fun e w'=>e=.returned (.int .i64 (tmW fs er))∧w'=w1):=fun w1 hk=>times_any _ fs er w1 ((HU.out.kept HK.out).kept hk)
    rw [HEq.out] at HT1;have HK2:=hid HK.out.drew;clear c0 c1 hr;go_wp2_with fail
    go_region_held (fun w'=>w'.cell? ⟨b,o+i*2,none⟩=some (.string er)) (first | exact d0 | go_keep)
     (first
       | (go_at_call 30;refine (HT1.out _ (Kept.refl No wr).drew).mono ?_;rintro e w1 ⟨rfl,rfl⟩;clear HT1)
       | (go_at_call 30;refine (HT2.out _ (Kept.refl No wr).drew).mono ?_;rintro e w1 ⟨rfl,rfl⟩)
       | fail)
    go_wp2_with fail;go_roundg k
    case measure=>omega
    case rel=>exact ⟨i+1,by omega,by go_num,HK2⟩
def enC (e:En):List Value:=[.string e.1,.int .i64 e.2]
def enVs (es:List En):List Value:=es.flatMap enC
theorem enVs_len (es:List En):(enVs es).length=es.length*2:=by
 induction es with
 | nil=>rfl
 | cons e es ih=>show (enC e++enVs es).length=_;rw [List.length_append,ih];simp [enC];omega
theorem enVs_append (es fs:List En):enVs (es++fs)=enVs es++enVs fs:=by unfold enVs;rw [List.flatMap_append]
theorem enVs_get:∀ (es:List En) (j:Nat) (u:Value),(enVs es)[j]? =some u→∃ e,es[j / 2]? =some e∧(j % 2=0∧u=.string e.1∨j % 2=1∧u=.int .i64 e.2)
 | [],j,u,h=>by cases h
 | e::es,0,u,h=>⟨e,rfl,.inl ⟨rfl,by injection h with h;exact h.symm⟩⟩
 | e::es,1,u,h=>⟨e,rfl,.inr ⟨rfl,by injection h with h;exact h.symm⟩⟩
 | e::es,j+2,u,h=>by
   obtain ⟨x,h1,h2⟩:=enVs_get es j u h;refine ⟨x,?_,?_⟩
   ·rw [show (j+2) / 2=j / 2+1 by omega];exact h1
   ·rw [show (j+2) % 2=j % 2 by omega];exact h2
theorem enVs_at:∀ (es:List En) (i:Nat) (e:En),es[i]? =some e→(enVs es)[i*2]? =some (.string e.1)∧(enVs es)[i*2+1]? =some (.int .i64 e.2)
 | x::es,0,e,h=>by
   injection h with h
   subst h;exact ⟨rfl,rfl⟩
 | x::es,i+1,e,h=>by
   have:=enVs_at es i e h
   rw [show (i+1)*2=i*2+2 by omega]
   exact this
theorem infoEn:(Tryz.prog.info? 45).map (fun i=>(i.zero,i.size,i.bytes))=some (some (.agg #[.string ⟨#[]⟩,.int .i64 0]),2,24):=by kernel_rfl
theorem EnAt.of_owns {w:World} {base:Nat} {v:Value} {es:List En} (h:w.ownsRow base 45 2 v es.length (enVs es)):EnAt w v es:=by
 rcases h.2 with ⟨e,hn⟩ | ⟨g,cap,cur,rfl,_,hg,hc1,hc2,hc3,hc4⟩
 ·exact ⟨none,0,by rw [e,hn],by omega,by unfold maxLen;omega,.inl ⟨rfl,List.eq_nil_of_length_eq_zero hn,rfl⟩⟩
 ·refine ⟨some ⟨g,0,none⟩,cap,rfl,hc1,hc2,.inr ⟨g,0,rfl,lt_of_heap hg,fun i e hi=> ?_⟩⟩
  obtain ⟨k1,k2⟩:=enVs_at es i e hi;rw [←hc4,List.getElem?_take] at k1 k2;rw [cell_of hg,cell_of hg,Nat.zero_add]
  split at k1
  ·split at k2
   ·exact ⟨by simpa using k1,by simpa using k2⟩
   ·cases k2
  ·cases k1
theorem EnAt.news {w:World} {b o n cap:Nat} {es:List En} (h:EnAt w (.slice (some ⟨b,o,none⟩) n cap) es):∀ (j:Nat) (u:Value),(enVs es)[j]? =some u→w.cell? (Addr.add ⟨b,o,none⟩ j)=some u:=by
 intro j u hj;obtain ⟨x,h1,h2⟩:=enVs_get es j u hj;obtain ⟨b',o',e',hb,c0,c1⟩:=h.get _ _ h1
 injection e' with e'
 injection e' with e4 e5
 subst e4 e5
 have key:w.cell? ⟨b,o+j,none⟩=some u:=by
  rcases h2 with ⟨h3,rfl⟩ | ⟨h3,rfl⟩
  ·rw [show j / 2*2=j by omega] at c0;exact c0
  ·rw [show o+j / 2*2+1=o+j by omega] at c1;exact c1
 unfold Addr.add
 split
 ·next hj=>rw [hj] at key;exact key
 ·exact key
theorem enVs_one (es:List En):∀ u∈enVs es,u.oneCell'=true:=by
 intro u hu;unfold enVs at hu;obtain ⟨e,_,he⟩:=List.mem_flatMap.1 hu;simp only [enC,List.mem_cons,List.not_mem_nil,or_false] at he
 rcases he with rfl | rfl <;> rfl
theorem app_en {w:World} {ops:Array Oper} {rest:List Oper} {o:Oper} {a:Act} {Q:Exit→Act→World→Prop} (hgd:o.guard=none) (s x:Operand)
 (ho:o.op=.call { callee:=.builtin .append,args:=#[s,x],argTypes:=#[34,34] }) (base:Nat) (v:Value) (n:Nat) (xs:List Value) (hs:a.eval s=v) (hown:w.ownsRow base 45 2 v n xs)
 (u:Value) (fs:List En) (hx:a.eval x=u) (hu:EnAt w u fs) (hb:n+fs.length≤5000000000000) (hbase:base≤w.heap.size)
 (h:∀ v' w',w'.ownsRow base 45 2 v' (n+fs.length) (xs++enVs fs)→w.grownBy w' v.ownBlock→wpList Tryz.prog ops Q rest (a.put o.dst v') w'):wpList Tryz.prog ops Q (o::rest) a w:=by
 obtain ⟨iu,hiu,hu0,hu1,hu2⟩:=info_parts infoEn;have hu':=hu;obtain ⟨a',cap,rfl,h2,h3,h4⟩:=hu
 rcases h4 with ⟨rfl,rfl,rfl⟩ | ⟨b,o,rfl,-,-⟩
 ·refine wpList_append_own_none hgd s x 34 ho base 45 iu 2 Tryz.underlying34 hiu v n xs hs hown hx (h v w ?_ ⟨rfl,rfl,rfl,Nat.le_refl _,fun _ _ _=>rfl⟩)
  have e:enVs []=[]:=rfl;rw [e,List.append_nil];exact hown
 ·exact wpList_append_own_at w hgd s x 34 ho base 45 iu (.agg #[.string ⟨#[]⟩,.int .i64 0]) 2 24 Tryz.underlying34 hiu hu0 hu1 hu2 rfl (by decide) v n xs hs hown ⟨b,o,none⟩ fs.length cap (enVs fs) hx (enVs_len fs) hu'.news (enVs_one fs) (by unfold maxLen;omega) (by omega) hbase fun v' w' h1 h2 _ _=>h v' w' h1 h2
theorem added_any (v u:Value) (es fs:List En) (w:World) (h:EnAt w v es) (k:EnAt w u fs) (hl:es.length+fs.length≤5000000000000):Calls Tryz.prog 22 #[v,u] w fun e w'=>∃ r,e=.returned r∧w'.ownsRow w.heap.size 45 2 r (es++fs).length (enVs (es++fs))∧Kept No w w':=by
 have HV:=hid h;have HU:=hid k;clear h k
 go_enter Tryz.func22,Tryz.ntmps22
 go_wp2_with (first
  | (at_builtin;refine app_en rfl _ _ rfl w.heap.size _ _ _ rfl HO5.out u fs rfl HU5.out (by omega) hs5 ?_;intro v2 w7 hown7 hg7;have HO7:=hid hown7;have HK7:=hid (HK5.out.grown hg7 (fun x hx=>.inl (own_base HO5.out x hx)));clear hown7 hg7)
  | (at_builtin;refine app_en rfl _ _ rfl w.heap.size _ 0 [] rfl (World.ownsRow_nil _ _ _ _) v es rfl HV.out (by omega) (Nat.le_refl _) ?_;intro v' w5 hown5 hg5
     have hg5':w.grownBy w5 none:=hg5
     have HK5:Hid (Kept No w w5):=(Kept.refl No w).grown hg5' (fun x hx=>by cases hx)
     have HU5:=hid (HU.out.kept HK5.out);have hs5:=HK5.out.size;have HO5:=hid hown5
     clear hg5 hg5' hown5)
  | fail)
 go_ret;refine ⟨_,rfl,?_,HK7.out⟩
 have:=HO7.out
 rw [List.length_append,enVs_append,←Nat.zero_add es.length];exact this
set_option linter.unusedSimpArgs false
theorem ba_get {L:List UInt8} {j:Nat} (_:j<(⟨L.toArray⟩:ByteArray).size) (hl:j<L.length):(⟨L.toArray⟩:ByteArray)[j]=L[j]:=by
 show L.toArray[j]'_=_
 simp
theorem decV_take {ds:List UInt8} {i:Nat} {c:UInt8} (h:ds[i]? =some c):decV (ds.take (i+1))=decV (ds.take i)*10+(c.toNat-48):=by
 rw [List.take_add_one,h];exact decV_snoc _ _
theorem decV_lt {ds:List UInt8} (h:∀ c∈ds,48≤c.toNat∧c.toNat≤57):∀ i,i≤ds.length→decV (ds.take i)<10 ^ i
 | 0,_=>by simp [decV]
 | i+1,hi=>by
   have ih:=decV_lt h i (by omega)
   have hg:ds[i]? =some ds[i]:=List.getElem?_eq_getElem (by omega)
   have h2:=h ds[i] (List.getElem_mem _);rw [decV_take hg,Nat.pow_succ];omega
theorem number_any (t:Int) (w:World) (h1: -1000000000000000<t) (h2:t<1000000000000000):Calls Tryz.prog 67 #[.string ⟨(Lib.itoa t).toArray⟩] w fun e w'=>e=.returned (.tuple #[.int .i64 t,.bool true])∧w'=w:=by
 obtain ⟨u,hu⟩:∃ u,t.natAbs=u:=⟨_,rfl⟩
 have hlen:=dec_len 15 u (by omega) (by decide)
 have hpos:=dec_pos u;have hval:=dec_val u;have hch:=dec_chars u;obtain ⟨ds,hds⟩:∃ ds,Lib.decDigits u=ds:=⟨_,rfl⟩
 have hitoa:Lib.itoa t=if t<0 then 45::ds else ds:=by
  unfold Lib.itoa
  split
  ·rw [hu,hds]
  ·rw [←hds];congr 1;omega
 rw [hds] at hlen hpos hval hch;rw [hitoa]
 have HVal:Hid ((if t<0 then -((decV ds:Nat):Int) else ((decV ds:Nat):Int))=t):=by
  show _=_
  rw [hval];split <;> omega
 obtain ⟨S,hS⟩:∃ S:ByteArray,S=⟨ds.toArray⟩:=⟨_,rfl⟩;obtain ⟨N,hN⟩:∃ N,ds.length=N:=⟨_,rfl⟩
 have hsz:S.size=N:=by rw [hS,←hN];show ds.toArray.size=_;simp
 have HG:Hid (∀ (i:Nat) (h:i<S.size),48≤S[i].toNat∧S[i].toNat≤57∧decV (ds.take (i+1))=decV (ds.take i)*10+(S[i].toNat-48)):=fun i h=>by
  have hil:i<ds.length:=by omega
  have hc:=hch _ (List.getElem_mem hil)
  have e:S[i]=ds[i]:=by
   subst hS;exact ba_get h hil
  rw [e];exact ⟨hc.1,hc.2,decV_take (List.getElem?_eq_getElem hil)⟩
 have HL:Hid (∀ i,i≤N→decV (ds.take i)<10 ^ i):=fun i hi=>decV_lt hch i (by omega)
 have HT:Hid (ds.take N=ds):=List.take_of_length_le (by omega)
 rw [hN] at hlen hpos
 by_cases hn:t<0
 ·rw [if_pos hn] at HVal ⊢
  obtain ⟨Z,hZ⟩:∃ Z:ByteArray,Z=⟨(45::ds).toArray⟩:=⟨_,rfl⟩
  have hzz:Z.size=N+1:=by rw [hZ,←hN];show (45::ds).toArray.size=_;simp
  have hz0:(0:Int)<((N+1:Nat):Int):=by omega
  have hzl:0<Z.size:=by omega
  have hg0:Z[0].toNat=45:=by subst hZ;rfl
  have he:Z.extract 1 (N+1)=S:=by rw [hZ,hS,ByteArray.extract_mk,←hN];simp
  rw [←hZ];clear hZ hS hitoa hds hval hu h1 h2 hn hch hN
  go_enter Tryz.func67,Tryz.ntmps67
  go_wp2_with fail;clear hg0 he
  go_loopg [5,6] N (fun k v5 v6 wr=>∃ (i:Nat) (m:Int),i+k=N∧v5=.int .i64 m∧v6=.int .i64 (i:Int)∧Hid (m=((decV (ds.take i):Nat):Int))∧wr=w)
  case atStart=>exact ⟨0,0,by omega,rfl,rfl,rfl,rfl⟩
  case round =>
   obtain ⟨i,m,hik,rfl,rfl,HM,rfl⟩:=hrel
   cases gk with
   | zero =>
     have hx:¬(i:Int)<(N:Int):=by omega
     have HM2:Hid (m=((decV ds:Nat):Int)∧m<1000000000000000):=by
      have e:i=N:=by omega
      have h0:=HM.out;rw [e,HT.out] at h0;have h1:=HL.out N (Nat.le_refl _);rw [HT.out] at h1
      have h2:10 ^ N≤10 ^ 15:=Nat.pow_le_pow_right (by decide) hlen
      exact ⟨h0,by omega⟩
     go_wp2_with fail;go_ret2;refine ⟨?_,rfl⟩;have h0:=HM2.out;have hv:=HVal.out
     (have e2:wrap64 (-m)=t:=by unfold wrap64;omega);rw [←e2];rfl
   | succ k =>
     have hx:(i:Int)<(N:Int):=by omega
     have hx0:(0:Int)≤(i:Int):=by omega
     have hiS:i<S.size:=by omega
     have hc:=HG.out i hiS;have hc1:=hc.1;have hc2:=hc.2.1
     have HR:Hid (wrap64 (wrap64 (10*m)+(((S[i].toNat:Nat):Int)-48))=((decV (ds.take (i+1)):Nat):Int)):=by
      show _=_
      have h1:=HL.out i (by omega)
      have h2:10 ^ i≤10 ^ 14:=Nat.pow_le_pow_right (by decide) (by omega)
      have h3:=HM.out;rw [hc.2.2];unfold wrap64;omega
     clear hc;go_wp2_with fail;go_roundg k
     case measure=>omega
     case rel=>exact ⟨i+1,_,by omega,rfl,by go_num,HR,rfl⟩
 ·rw [if_neg hn] at HVal ⊢
  have hzl:0<S.size:=by omega
  have hg0:¬S[0].toNat=45:=by
   have:=HG.out 0 hzl
   omega
  rw [←hS];clear hS hitoa hds hval hu h1 h2 hn hch hN
  go_enter Tryz.func67,Tryz.ntmps67
  go_wp2_with fail;clear hg0
  go_loopg [5,6] N (fun k v5 v6 wr=>∃ (i:Nat) (m:Int),i+k=N∧v5=.int .i64 m∧v6=.int .i64 (i:Int)∧Hid (m=((decV (ds.take i):Nat):Int))∧wr=w)
  case atStart=>exact ⟨0,0,by omega,rfl,rfl,rfl,rfl⟩
  case round =>
   obtain ⟨i,m,hik,rfl,rfl,HM,rfl⟩:=hrel
   cases gk with
   | zero =>
     have hx:¬(i:Int)<(N:Int):=by omega
     have HM2:Hid (m=((decV ds:Nat):Int)∧m<1000000000000000):=by
      have e:i=N:=by omega
      have h0:=HM.out;rw [e,HT.out] at h0;have h1:=HL.out N (Nat.le_refl _);rw [HT.out] at h1
      have h2:10 ^ N≤10 ^ 15:=Nat.pow_le_pow_right (by decide) hlen
      exact ⟨h0,by omega⟩
     go_wp2_with fail;go_ret2;refine ⟨?_,rfl⟩;have h0:=HM2.out;have hv:=HVal.out
     (have e2:m=t:=by omega);rw [←e2];rfl
   | succ k =>
     have hx:(i:Int)<(N:Int):=by omega
     have hx0:(0:Int)≤(i:Int):=by omega
     have hiS:i<S.size:=by omega
     have hc:=HG.out i hiS;have hc1:=hc.1;have hc2:=hc.2.1
     have HR:Hid (wrap64 (wrap64 (10*m)+(((S[i].toNat:Nat):Int)-48))=((decV (ds.take (i+1)):Nat):Int)):=by
      show _=_
      have h1:=HL.out i (by omega)
      have h2:10 ^ i≤10 ^ 14:=Nat.pow_le_pow_right (by decide) (by omega)
      have h3:=HM.out;rw [hc.2.2];unfold wrap64;omega
     clear hc;go_wp2_with fail;go_roundg k
     case measure=>omega
     case rel=>exact ⟨i+1,_,by omega,rfl,by go_num,HR,rfl⟩
end Go.Proofs.YtdinjjmcmfjbfaaGreatDoor
