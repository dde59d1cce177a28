import Derived.Test.YtdinjjmcmfjbfaaGreatDoorLcJ
import Derived.Test.YtdinjjmcmfjbfaaGreatDoorBt2J
import Derived.Test.YtdinjjmcmfjbfaaGreatDoorSmJ
namespace Go.Proofs.YtdinjjmcmfjbfaaGreatDoor
open Go.ChangeShapes Go.WideShapes Go.ChangeAt Go.RowKit Go.Deep
open Mo (V Row)
structure Win (s x:ByteArray) (m:Nat):Prop where
 at_:∀ j,j<x.size→Pl.bt s (m+j)=Pl.bt x j
 right:m+x.size≤s.size
section
variable {s x:ByteArray} {m:Nat}
theorem sub_win (h:Win s x m) {a b:Nat} (hb:b≤x.size):sub s (m+a) (m+b)=sub x a b:=by
 have hr:=h.right
 have l1:=sub_len (s:=s) (a:=m+a) (b:=m+b) (by omega)
 have l2:=sub_len (s:=x) (a:=a) (b:=b) hb
 refine List.ext_getElem (by omega) fun i h1 h2=> ?_
 have g1:=sub_get (s:=s) (by omega) (List.getElem?_eq_getElem h1)
 have g2:=sub_get (s:=x) hb (List.getElem?_eq_getElem h2);refine UInt8.toNat_inj.1 ?_
 rw [g1.2,g2.2,Nat.add_assoc,h.at_ (a+i) (by omega)]
theorem many_win (h:Win s x m) (lo hi:Nat):∀ k a,Pl.many x lo hi k a<x.size→Pl.many s lo hi k (m+a)=m+Pl.many x lo hi k a
 | 0,a,_=>rfl
 | k+1,a,hf=>by
   have ha:a<x.size:=Nat.lt_of_le_of_lt (Pl.many_le x lo hi (k+1) a) hf;have e:=h.at_ a ha;unfold Pl.many at hf ⊢;rw [e]
   by_cases hc:lo≤Pl.bt x a∧Pl.bt x a≤hi
   ·rw [if_pos hc] at hf
    rw [if_pos hc,if_pos hc];exact many_win h lo hi k (a+1) hf
   ·rw [if_neg hc,if_neg hc]
theorem sev_win (h:Win s x m) (k lo hi a:Nat) (hf:(Pl.sev x k lo hi a).2<x.size):Pl.sev s k lo hi (m+a)=((Pl.sev x k lo hi a).1,m+(Pl.sev x k lo hi a).2):=by
 unfold Pl.sev at hf ⊢;rw [many_win h lo hi k a hf]
 simp
theorem tk_win (h:Win s x m) (c a:Nat) (ha:a<x.size):Pl.tk s c (m+a)=((Pl.tk x c a).1,m+(Pl.tk x c a).2):=by
 unfold Pl.tk;rw [h.at_ a ha]
 split <;> rfl
theorem digs_win (h:Win s x m) (a:Nat) (hf:(Pl.digs x a).2<x.size):Pl.digs s (m+a)=((Pl.digs x a).1,m+(Pl.digs x a).2):=by
 have ha:a<x.size:=Nat.lt_of_le_of_lt ((Pl.digs_good x).le a) hf;unfold Pl.digs at hf ⊢;rw [h.at_ a ha]
 by_cases hc:Pl.bt x a=48
 ·rw [if_pos hc,if_pos hc]
 ·rw [if_neg hc] at hf
  rw [if_neg hc,if_neg hc];exact sev_win h 4 48 57 a hf
theorem numP_win (h:Win s x m) (a:Nat) (hf:(Pl.numP x a).2<x.size):Pl.numP s (m+a)=((Pl.numP x a).1,m+(Pl.numP x a).2):=by
 have ha:a<x.size:=Nat.lt_of_le_of_lt ((Pl.numP_good x).le a) hf;unfold Pl.numP Pl.ifP at hf ⊢;rw [tk_win h 45 a ha]
 simp only
 by_cases h1:(Pl.tk x 45 a).1=true
 ·rw [if_pos h1] at hf
  rw [if_pos h1,if_pos h1];exact digs_win h _ hf
 ·rw [if_neg h1] at hf
  rw [if_neg h1,if_neg h1]
  have e2:(Pl.tk x 45 a).2=a:=by unfold Pl.tk at h1 ⊢;split at h1;exact absurd rfl h1;rw [if_neg (by assumption)]
  rw [e2] at hf ⊢;unfold Pl.orP at hf ⊢;rw [tk_win h 48 a ha]
  simp only
  by_cases h3:(Pl.tk x 48 a).1=true
  ·rw [if_pos h3,if_pos h3]
  ·rw [if_neg h3] at hf
   rw [if_neg h3,if_neg h3];exact digs_win h _ hf
theorem let4_win (h:Win s x m) (a:Nat) (hf:(Pl.let4 x a).2<x.size):Pl.let4 s (m+a)=((Pl.let4 x a).1,m+(Pl.let4 x a).2):=sev_win h 4 97 122 a hf
theorem valP_le (x:ByteArray) (a:Nat):a≤(Pl.let4 x a).2∧(Pl.let4 x a).2≤(valP x a).2:=by
 refine ⟨(Pl.let4_good x).le a,?_⟩;unfold valP Pl.orP
 split
 ·exact Nat.le_refl _
 ·exact (Pl.numP_good x).le _
theorem valP_win (h:Win s x m) (a:Nat) (hf:(valP x a).2<x.size):valP s (m+a)=((valP x a).1,m+(valP x a).2)∧((valP x a).1=true→valV s (m+a)=valV x a):=by
 have hl:=let4_win h a (Nat.lt_of_le_of_lt (valP_le x a).2 hf)
 by_cases h1:(Pl.let4 x a).1=true
 ·have e1:valP x a=(true,(Pl.let4 x a).2):=by unfold valP Pl.orP;rw [if_pos h1]
  have e2:valP s (m+a)=(true,m+(Pl.let4 x a).2):=by unfold valP Pl.orP;rw [hl,if_pos h1]
  rw [e1] at hf
  refine ⟨by rw [e1,e2],fun _=> ?_⟩
  unfold valV;rw [hl,if_pos h1,if_pos h1,sub_win h (Nat.le_of_lt hf)]
 ·have e0:=let4_no h1
  have e1:valP x a=Pl.numP x a:=by unfold valP Pl.orP;rw [if_neg h1,e0]
  have hn:=numP_win h a (by rw [←e1];exact hf)
  have e2:valP s (m+a)=Pl.numP s (m+a):=by unfold valP Pl.orP;rw [hl,if_neg h1,e0]
  refine ⟨by rw [e1,e2,hn],fun _=> ?_⟩
  unfold valV
  rw [hl,if_neg h1,if_neg h1,hn,sub_win h (by rw [←e1];exact Nat.le_of_lt hf)]
theorem rowsP_lt:∀ (k a:Nat) (r r':Row) (d:Nat),rowsP x k a r=some (r',d)→(valP x a).2<d
 | 0,_,_,_,_,h=>by cases h
 | k+1,a,r,r',d,h=>by
   unfold rowsP at h
   split at h
   ·split at h
    ·have:=rowsP_lt k _ _ _ _ h
     have h2:=valP_le x ((valP x a).2+1);omega
    ·split at h
     ·injection h with h;injection h with _ h;omega
     ·cases h
   ·cases h
theorem rowsP_win (h:Win s x m):∀ (k k' a:Nat) (r r':Row) (d:Nat),k≤k'→rowsP x k a r=some (r',d)→d≤x.size→rowsP s k' (m+a) r=some (r',m+d)
 | 0,_,_,_,_,_,_,e,_=>by cases e
 | k+1,0,_,_,_,_,hk,_,_=>by omega
 | k+1,k'+1,a,r,r',d,hk,e,hd=>by
   have hlt:=rowsP_lt _ _ _ _ _ e
   have hv:=valP_win h a (by omega)
   have hb:=h.at_ (valP x a).2 (by omega)
   unfold rowsP at e ⊢;rw [hv.1]
   simp only
   rw [hb]
   by_cases h1:(valP x a).1=true
   ·rw [if_pos h1] at e ⊢
    rw [hv.2 h1]
    by_cases h2:Pl.bt x (valP x a).2=44
    ·rw [if_pos h2] at e ⊢
     exact rowsP_win h k k' _ _ _ _ (by omega) e hd
    ·rw [if_neg h2] at e ⊢
     by_cases h3:Pl.bt x (valP x a).2=41
     ·rw [if_pos h3] at e ⊢
      injection e with e
      injection e with e1 e2
      rw [e1,←e2];rfl
     ·rw [if_neg h3] at e;cases e
   ·rw [if_neg h1] at e;cases e
end
def stepP (s:ByteArray) (a:Nat):Option (Ord × Nat):=if Pl.bt s a=43∨Pl.bt s a=45 then
    (if (Pl.let4 s (a+1)).1=true then
      (if Pl.bt s (Pl.let4 s (a+1)).2=40 then
        (match rowsP s (s.size+1) ((Pl.let4 s (a+1)).2+1) [] with
         | none=>none
         | some (r,d)=>some (⟨sub s (a+1) (Pl.let4 s (a+1)).2,r,signT s a⟩,d))
       else none)
     else none)
 else none
theorem ordersP_step (s:ByteArray) (k a:Nat) (l:List Ord):ordersP s (k+1) a l=match stepP s a with
 | none=>none
 | some (o,d)=>if d=s.size then some (l++[o]) else if Pl.bt s d=59 then ordersP s k (d+1) (l++[o]) else none:=by
 rw [ordersP];unfold stepP
 by_cases h1:Pl.bt s a=43∨Pl.bt s a=45
 ·rw [if_pos h1,if_pos h1]
  by_cases h2:(Pl.let4 s (a+1)).1=true
  ·rw [if_pos h2,if_pos h2]
   by_cases h3:Pl.bt s (Pl.let4 s (a+1)).2=40
   ·rw [if_pos h3,if_pos h3]
    cases rowsP s (s.size+1) ((Pl.let4 s (a+1)).2+1) [] with
    | none=>rfl
    | some y=>rfl
   ·rw [if_neg h3,if_neg h3]
  ·rw [if_neg h2,if_neg h2]
 ·rw [if_neg h1,if_neg h1]
theorem stepP_lt {s:ByteArray} {a d:Nat} {o:Ord} (h:stepP s a=some (o,d)):a<d:=by
 unfold stepP at h
 split at h
 ·split at h
  ·split at h
   ·split at h
    ·cases h
    ·next r d' hr =>
     injection h with h
     injection h with _ h
     have h1:=rowsP_lt _ _ _ _ _ hr;have h2:=valP_le s ((Pl.let4 s (a+1)).2+1);have h3:=(Pl.let4_good s).le (a+1);omega
   ·cases h
  ·cases h
 ·cases h
theorem stepP_win {s x:ByteArray} {m:Nat} (h:Win s x m) {a d:Nat} {o:Ord} (e:stepP x a=some (o,d)) (hd:d≤x.size):stepP s (m+a)=some (o,m+d):=by
 have hlt:=stepP_lt e;unfold stepP at e ⊢
 rw [h.at_ a (by omega)]
 by_cases h1:Pl.bt x a=43∨Pl.bt x a=45
 ·rw [if_pos h1] at e ⊢
  by_cases h2:(Pl.let4 x (a+1)).1=true
  ·rw [if_pos h2] at e
   by_cases h3:Pl.bt x (Pl.let4 x (a+1)).2=40
   ·rw [if_pos h3] at e
    cases hr:rowsP x (x.size+1) ((Pl.let4 x (a+1)).2+1) [] with
    | none=>rw [hr] at e;cases e
    | some y =>
      obtain ⟨r,d'⟩:=y;rw [hr] at e;simp only [Option.some.injEq,Prod.mk.injEq] at e;obtain ⟨e1,rfl⟩:=e;have q1:=rowsP_lt _ _ _ _ _ hr;have q2:=valP_le x ((Pl.let4 x (a+1)).2+1)
      have hl:=let4_win h (a+1) (by omega)
      rw [←Nat.add_assoc] at hl;rw [hl]
      simp only
      rw [if_pos h2,h.at_ _ (by omega),if_pos h3]
      have hw:=rowsP_win h (x.size+1) (s.size+1) _ _ _ _ (by have:=h.right;omega) hr hd
      rw [←Nat.add_assoc] at hw;rw [hw]
      simp only
      rw [←e1]
      have hsg:signT s (m+a)=signT x a:=by unfold signT;rw [h.at_ a (by omega)]
      have hsb:=sub_win h (a:=a+1) (b:=(Pl.let4 x (a+1)).2) (by omega)
      rw [←Nat.add_assoc] at hsb;rw [hsg,hsb]
   ·rw [if_neg h3] at e;cases e
  ·rw [if_neg h2] at e;cases e
 ·rw [if_neg h1] at e;cases e
inductive OR (s:ByteArray):Nat→List Ord→Nat→Prop
 | one {a:Nat} {o:Ord} {d:Nat}:stepP s a=some (o,d)→OR s a [o] d
 | more {a:Nat} {o:Ord} {d:Nat} {os:List Ord} {e:Nat}:stepP s a=some (o,d)→d<s.size→Pl.bt s d=59→OR s (d+1) os e→OR s a (o::os) e
theorem OR.of:∀ {s:ByteArray} (k a:Nat) (l os:List Ord),ordersP s k a l=some os→∃ os',os=l++os'∧OR s a os' s.size
 | s,0,_,_,_,h=>by cases h
 | s,k+1,a,l,os,h=>by
   rw [ordersP_step] at h
   cases hs:stepP s a with
   | none=>rw [hs] at h;cases h
   | some y =>
     obtain ⟨o,d⟩:=y;rw [hs] at h
     simp only at h
     by_cases h1:d=s.size
     ·rw [if_pos h1] at h
      injection h with h
      exact ⟨[o],h.symm,h1 ▸ .one hs⟩
     ·rw [if_neg h1] at h
      by_cases h2:Pl.bt s d=59
      ·rw [if_pos h2] at h
       obtain ⟨os',e1,e2⟩:=OR.of k (d+1) _ _ h
       exact ⟨o::os',by rw [e1];simp,.more hs (Pl.bt_lt (by omega)) h2 e2⟩
      ·rw [if_neg h2] at h;cases h
theorem OR.to {s:ByteArray} {a e:Nat} {os:List Ord} (h:OR s a os e):e=s.size→∀ (k:Nat) (l:List Ord),s.size<a+k→ordersP s k a l=some (l++os):=by
 induction h with
 | @one a o d hs =>
   intro he k l hk;have hlt:=stepP_lt hs
   cases k with
   | zero=>omega
   | succ k =>
     rw [ordersP_step,hs]
     simp only
     rw [if_pos he]
 | @more a o d os e hs hd hb _ ih =>
   intro he k l hk;have hlt:=stepP_lt hs
   cases k with
   | zero=>omega
   | succ k =>
     rw [ordersP_step,hs]
     simp only
     rw [if_neg (by omega),if_pos hb,ih he k _ (by omega)]
     simp
theorem OR.win {s x:ByteArray} {m:Nat} (h:Win s x m) {a e:Nat} {os:List Ord} (k:OR x a os e):e≤x.size→OR s (m+a) os (m+e):=by
 induction k with
 | one hs=>exact fun he=>.one (stepP_win h hs he)
 | @more a o d os e hs hd hb _ ih =>
   intro he;have hr:=h.right
   exact .more (stepP_win h hs (by omega)) (by omega) ((h.at_ d hd).trans hb) (by rw [Nat.add_assoc];exact ih he)
theorem OR.join {s:ByteArray} {a d e:Nat} {os os':List Ord} (h:OR s a os d) (hd:d<s.size) (hb:Pl.bt s d=59) (k:OR s (d+1) os' e):OR s a (os++os') e:=by
 induction h with
 | one hs=>exact .more hs hd hb k
 | more hs h1 h2 _ ih=>exact .more hs h1 h2 (ih hd hb k)
theorem bt_append_left {x y:ByteArray} {j:Nat} (h:j<x.size):Pl.bt (x++y) j=Pl.bt x j:=by
 have h1:=bt_get (x++y) j;have h2:=bt_get x j
 rw [if_pos (by rw [ByteArray.size_append];omega)] at h1
 rw [if_pos h] at h2
 rw [ByteArray.data_append,Array.toList_append,List.getElem?_append_left (by rw [ba_len];exact h),h2] at h1
 injection h1 with h1;exact h1.symm
theorem bt_append_right {x y:ByteArray} {j:Nat} (h:j<y.size):Pl.bt (x++y) (x.size+j)=Pl.bt y j:=by
 have h1:=bt_get (x++y) (x.size+j);have h2:=bt_get y j
 rw [if_pos (by rw [ByteArray.size_append];omega)] at h1
 rw [if_pos h] at h2
 rw [ByteArray.data_append,Array.toList_append,List.getElem?_append_right (by rw [ba_len];omega),ba_len,Nat.add_sub_cancel_left,h2] at h1
 injection h1 with h1;exact h1.symm
open Mo (V Row Q Opd)
theorem tk_ex {s:ByteArray} {c a:Nat} (h:Pl.bt s a≠c):Pl.tk s c a=(false,a):=by unfold Pl.tk;rw [if_neg h]
def WinF (x:ByteArray) (m:Nat) (p r:Nat→Bool × Nat):Prop:=∀ a,(r a).2<x.size→p (m+a)=((r a).1,m+(r a).2)
section
variable {s x:ByteArray} {m:Nat}
theorem WinF.and {p p' r r':Nat→Bool × Nat} (h:WinF x m p r) (h':WinF x m p' r') (hl:∀ a,a≤(r' a).2):WinF x m (Pl.andP p p') (Pl.andP r r'):=fun a ha=>by
 unfold Pl.andP at ha ⊢
 by_cases h1:(r a).1=true
 ·rw [if_pos h1] at ha
  have h2:=h a (Nat.lt_of_le_of_lt (hl _) ha);rw [h2];simp only [h1,if_true];exact h' _ ha
 ·rw [if_neg h1] at ha
  have h2:=h a ha;rw [h2]
  simp [h1]
theorem WinF.or {p p' r r':Nat→Bool × Nat} (h:WinF x m p r) (h':WinF x m p' r') (hl:∀ a,a≤(r' a).2):WinF x m (Pl.orP p p') (Pl.orP r r'):=fun a ha=>by
 unfold Pl.orP at ha ⊢
 by_cases h1:(r a).1=true
 ·rw [if_pos h1] at ha
  have h2:=h a ha;rw [h2]
  simp [h1]
 ·rw [if_neg h1] at ha
  have h2:=h a (Nat.lt_of_le_of_lt (hl _) ha);rw [h2];simp only [h1];exact h' _ ha
theorem WinF.ite {p p' p'' r r' r'':Nat→Bool × Nat} (h:WinF x m p r) (h':WinF x m p' r') (h'':WinF x m p'' r'') (hl:∀ a,a≤(r' a).2) (hl':∀ a,a≤(r'' a).2):WinF x m (Pl.ifP p p' p'') (Pl.ifP r r' r''):=fun a ha=>by
 unfold Pl.ifP at ha ⊢
 by_cases h1:(r a).1=true
 ·rw [if_pos h1] at ha
  have h2:=h a (Nat.lt_of_le_of_lt (hl _) ha);rw [h2];simp only [h1,if_true];exact h' _ ha
 ·rw [if_neg h1] at ha
  have h2:=h a (Nat.lt_of_le_of_lt (hl' _) ha);rw [h2];simp only [h1];exact h'' _ ha
theorem tk_le (s:ByteArray) (c a:Nat):a≤(Pl.tk s c a).2:=by unfold Pl.tk;split <;> simp
theorem tk_F (h:Win s x m) (c:Nat):WinF x m (Pl.tk s c) (Pl.tk x c):=fun a ha=>tk_win h c a (Nat.lt_of_le_of_lt (tk_le x c a) ha)
theorem dig_F (h:Win s x m):WinF x m (Pl.dig s) (Pl.dig x):=fun a ha=>sev_win h 1 48 57 a ha
theorem let4_F (h:Win s x m):WinF x m (Pl.let4 s) (Pl.let4 x):=fun a ha=>let4_win h a ha
theorem numP_F (h:Win s x m):WinF x m (Pl.numP s) (Pl.numP x):=fun a ha=>numP_win h a ha
theorem oneOf_F (h:Win s x m):WinF x m (Pl.oneOf s) (Pl.oneOf x):=fun a ha=>by
 have hl:a≤(Pl.oneOf x a).2:=(Pl.oneOf_good x).le a;unfold Pl.oneOf
 rw [h.at_ a (by omega)]
 split <;> rfl
theorem operP_F (h:Win s x m):WinF x m (Pl.operP s) (Pl.operP x) :=
 (tk_F h 35).ite (numP_F h) ((tk_F h 36).ite (let4_F h) (dig_F h) (Pl.let4_good x).le (Pl.dig_good x).le) (Pl.numP_good x).le (Pl.ifP_good (Pl.tk_good (by omega) (by omega)) (Pl.let4_good x) (Pl.dig_good x) (Pl.tk_stays x _)).le
theorem colsP_F (h:Win s x m):∀ k,WinF x m (Pl.colsP s k) (Pl.colsP x k)
 | 0=>(dig_F h).and (tk_F h 93) (tk_le x 93)
 | k+1=>(dig_F h).and ((tk_F h 44).ite (colsP_F h k) (tk_F h 93) (Pl.colsP_good x k).le (tk_le x 93)) (Pl.ifP_good (Pl.tk_good (by omega) (by omega)) (Pl.colsP_good x k) (Pl.tk_good (by omega) (by omega)) (Pl.tk_stays x _)).le
theorem foldP_F (h:Win s x m):WinF x m (Pl.foldP s) (Pl.foldP x) :=
 (tk_F h 91).and ((tk_F h 115).ite ((dig_F h).and (tk_F h 93) (tk_le x 93)) ((tk_F h 110).and (tk_F h 93) (tk_le x 93)) (Pl.andP_good (Pl.dig_good x) (Pl.tk_good (by omega) (by omega))).le (Pl.andP_good (Pl.tk_good (by omega) (by omega)) (Pl.tk_good (by omega) (by omega))).le)
   (Pl.ifP_good (Pl.tk_good (by omega) (by omega)) (Pl.andP_good (Pl.dig_good x) (Pl.tk_good (by omega) (by omega))) (Pl.andP_good (Pl.tk_good (by omega) (by omega)) (Pl.tk_good (by omega) (by omega))) (Pl.tk_stays x _)).le
theorem and_yes {f g:Nat→Bool × Nat} {a b:Nat} (h:Pl.andP f g a=(true,b)):∃ c,f a=(true,c)∧g c=(true,b):=by
 unfold Pl.andP at h
 by_cases h1:(f a).1=true
 ·rw [if_pos h1] at h
  exact ⟨(f a).2,Prod.ext h1 rfl,h⟩
 ·rw [if_neg h1] at h;injection h with h;cases h
theorem win_yes {p r:Nat→Bool × Nat} (h:WinF x m p r) {a b:Nat} (hr:r a=(true,b)) (hb:b<x.size):p (m+a)=(true,m+b):=by
 have:=h a (by rw [hr];exact hb)
 rw [this,hr]
theorem bt_add (h:Win s x m) {a k:Nat} (hk:a+k<x.size):Pl.bt s (m+a+k)=Pl.bt x (a+k):=by rw [Nat.add_assoc];exact h.at_ _ hk
theorem dg_add (h:Win s x m) {a k:Nat} (hk:a+k<x.size):dgN s (m+a+k)=dgN x (a+k):=by unfold dgN;rw [bt_add h hk]
theorem colsV_win (h:Win s x m):∀ (k a b:Nat),Pl.colsP x k a=(true,b)→b<x.size→colsV s k (m+a)=colsV x k a
 | 0,a,b,hc,hb=>by
   obtain ⟨c,h1,h2⟩:=and_yes hc;have e1:=dig_at h1;have e2:=(tk_le x 93 c);rw [h2] at e2;have e2':c≤b:=e2;unfold colsV dgN
   rw [h.at_ a (by omega)]
 | k+1,a,b,hc,hb=>by
   obtain ⟨c,h1,h2⟩:=and_yes hc;have e1:=dig_at h1;subst e1;unfold Pl.ifP at h2
   have hle:a+1≤b:=by
    have:=(Pl.ifP_good (Pl.tk_good (s:=x) (c:=44) (by omega) (by omega)) (Pl.colsP_good x k) (Pl.tk_good (c:=93) (by omega) (by omega)) (Pl.tk_stays x _)).le (a+1)
    unfold Pl.ifP at this;rw [h2] at this;exact this
   unfold colsV
   have hd:dgN s (m+a)=dgN x a:=by unfold dgN;rw [h.at_ a (by omega)]
   have hb1:=bt_add h (a:=a) (k:=1) (by omega)
   rw [hd,hb1]
   by_cases h44:Pl.bt x (a+1)=44
   ·rw [if_pos h44,if_pos h44]
    rw [Pl.tk_in h44] at h2;simp only [if_true] at h2
    congr 1
    have:=colsV_win h k (a+2) b h2 hb
    rw [←this,Nat.add_assoc]
   ·rw [if_neg h44,if_neg h44]
theorem le_and {f g:Nat→Bool × Nat} (hf:∀ a,a≤(f a).2) (hg:∀ a,a≤(g a).2) (a:Nat):a≤(Pl.andP f g a).2:=by
 unfold Pl.andP
 split
 ·exact Nat.le_trans (hf a) (hg _)
 ·exact hf a
theorem le_or {f g:Nat→Bool × Nat} (hf:∀ a,a≤(f a).2) (hg:∀ a,a≤(g a).2) (a:Nat):a≤(Pl.orP f g a).2:=by
 unfold Pl.orP
 split
 ·exact hf a
 ·exact Nat.le_trans (hf a) (hg _)
theorem selP_F (h:Win s x m):WinF x m (Pl.selP s) (Pl.selP x) :=
 have l5:=le_and (Pl.operP_good x).le (tk_le x 93);have l4:=le_and (Pl.oneOf_good x).le l5;have l3:=le_and (Pl.dig_good x).le l4
 (tk_F h 83).and ((tk_F h 91).and ((dig_F h).and ((oneOf_F h).and ((operP_F h).and (tk_F h 93) (tk_le x 93)) l5) l4) l3) (le_and (tk_le x 91) l3)
theorem pickP_F (h:Win s x m):WinF x m (Pl.pickP s) (Pl.pickP x) :=
 (tk_F h 80).and ((tk_F h 91).and (colsP_F h 5) (Pl.colsP_good x 5).le) (le_and (tk_le x 91) (Pl.colsP_good x 5).le)
theorem joinP_F (h:Win s x m):WinF x m (Pl.joinP s) (Pl.joinP x) :=
 have l5:=le_and (Pl.dig_good x).le (tk_le x 93);have l4:=le_and (tk_le x 61) l5;have l3:=le_and (Pl.dig_good x).le l4
 (tk_F h 74).and ((tk_F h 91).and ((dig_F h).and ((tk_F h 61).and ((dig_F h).and (tk_F h 93) (tk_le x 93)) l5) l4) l3) (le_and (tk_le x 91) l3)
theorem groupP_F (h:Win s x m):WinF x m (Pl.groupP s) (Pl.groupP x) :=
 have l3:=le_and (le_or (tk_le x 93) (Pl.colsP_good x 5).le) (Pl.foldP_good x).le
 (tk_F h 71).and ((tk_F h 91).and (((tk_F h 93).or (colsP_F h 5) (Pl.colsP_good x 5).le).and (foldP_F h) (Pl.foldP_good x).le) l3) (le_and (tk_le x 91) l3)
theorem headP_F (h:Win s x m) (k:Nat):WinF x m (Pl.headP s k) (Pl.headP x k):=fun a ha=>by
 unfold Pl.headP at ha ⊢
 by_cases k1:k=1
 ·rw [if_pos k1] at ha ⊢;rw [if_pos k1];exact let4_F h a ha
 rw [if_neg k1] at ha ⊢;rw [if_neg k1]
 by_cases k2:k=2
 ·rw [if_pos k2] at ha ⊢;rw [if_pos k2];exact selP_F h a ha
 rw [if_neg k2] at ha ⊢;rw [if_neg k2]
 by_cases k3:k=3
 ·rw [if_pos k3] at ha ⊢;rw [if_pos k3];exact pickP_F h a ha
 rw [if_neg k3] at ha ⊢;rw [if_neg k3]
 by_cases k4:k=4
 ·rw [if_pos k4] at ha ⊢;rw [if_pos k4];exact joinP_F h a ha
 rw [if_neg k4] at ha ⊢;rw [if_neg k4]
 by_cases k5:k=5
 ·rw [if_pos k5] at ha ⊢;rw [if_pos k5];exact tk_F h 85 a ha
 rw [if_neg k5] at ha ⊢;rw [if_neg k5]
 by_cases k6:k=6
 ·rw [if_pos k6] at ha ⊢;rw [if_pos k6];exact tk_F h 68 a ha
 rw [if_neg k6] at ha ⊢;rw [if_neg k6]
 by_cases k7:k=7
 ·rw [if_pos k7] at ha ⊢;rw [if_pos k7];exact groupP_F h a ha
 ·rw [if_neg k7];rw [if_neg k7]
theorem at_lt {f:Nat→Bool × Nat} {a b:Nat} (hf:∀ a,a≤(f a).2) (h:f a=(true,b)):a≤b:=by have:=hf a;rw [h] at this;exact this
theorem operV_win (h:Win s x m) {a c:Nat} (g:Pl.operP x a=(true,c)) (hc:c<x.size):operV s (m+a)=operV x a:=by
 have hl:=at_lt (Pl.operP_good x).le g;unfold operV
 rw [h.at_ a (by omega)]
 unfold Pl.operP Pl.ifP at g
 by_cases h1:Pl.bt x a=35
 ·rw [Pl.tk_in h1] at g
  simp only [if_true] at g
  rw [if_pos h1,if_pos h1,Nat.add_assoc,win_yes (numP_F h) g hc,g,sub_win h (by omega)]
 ·rw [tk_ex h1] at g
  rw [if_neg h1,if_neg h1]
  by_cases h2:Pl.bt x a=36
  ·simp only [Pl.tk_in h2,if_true] at g
   have g':Pl.let4 x (a+1)=(true,c):=by simpa using g
   rw [if_pos h2,if_pos h2,Nat.add_assoc,win_yes (let4_F h) g' hc,g',sub_win h (by omega)]
  ·rw [if_neg h2,if_neg h2]
   unfold dgN
   rw [h.at_ a (by omega)]
theorem head_win (h:Win s x m) {k a b:Nat} (hk:k≠1) (he:Pl.headP x k a=(true,b)) (hb:b<x.size):Pl.headP s k (m+a)=(true,m+b)∧hdV s k (m+a)=hdV x k a∧hcs s k (m+a)=hcs x k a:=by
 refine ⟨win_yes (headP_F h k) he hb,?_,?_⟩
 ·unfold hdV
  rw [if_neg hk,if_neg hk]
  by_cases k2:k=2
  ·rw [if_pos k2,if_pos k2]
   subst k2;have he':Pl.selP x a=(true,b):=he;obtain ⟨c1,g1,he1⟩:=and_yes he';obtain ⟨c2,g2,he2⟩:=and_yes he1;obtain ⟨c3,g3,he3⟩:=and_yes he2;obtain ⟨c4,g4,he4⟩:=and_yes he3;obtain ⟨c5,g5,g6⟩:=and_yes he4;have e1:=tk_at2 g1;have e2:=tk_at2 g2;have e3:=dig_at g3;have e4:=oneOf_at g4;have e6:=tk_at2 g6;have l5:=at_lt (Pl.operP_good x).le g5
   have e5:c4=a+4:=by omega
   rw [e5] at g5
   have hcm:cmN s (m+a+3)=cmN x (a+3):=by unfold cmN;rw [bt_add h (by omega)]
   have hop:operV s (m+a+4)=operV x (a+4):=by rw [Nat.add_assoc];exact operV_win h g5 (by omega)
   rw [hcm,dg_add h (by omega),hop]
  rw [if_neg k2,if_neg k2]
  by_cases k4:k=4
  ·rw [if_pos k4,if_pos k4]
   subst k4;have he':Pl.joinP x a=(true,b):=he;obtain ⟨c1,g1,he1⟩:=and_yes he';obtain ⟨c2,g2,he2⟩:=and_yes he1;obtain ⟨c3,g3,he3⟩:=and_yes he2;obtain ⟨c4,g4,he4⟩:=and_yes he3;obtain ⟨c5,g5,g6⟩:=and_yes he4;have e1:=tk_at2 g1;have e2:=tk_at2 g2;have e3:=dig_at g3;have e4:=tk_at2 g4;have e5:=dig_at g5;have e6:=tk_at2 g6
   rw [dg_add h (by omega),dg_add h (by omega)]
  rw [if_neg k4,if_neg k4]
  by_cases k7:k=7
  ·rw [if_pos k7,if_pos k7]
   subst k7;have he':Pl.groupP x a=(true,b):=he;obtain ⟨c1,g1,he1⟩:=and_yes he';obtain ⟨c2,g2,he2⟩:=and_yes he1;obtain ⟨c3,g3,g4⟩:=and_yes he2;have e1:=tk_at2 g1;have e2:=tk_at2 g2
   have e2':c2=a+2:=by omega
   rw [e2'] at g3;obtain ⟨d1,q1,q2⟩:=and_yes g4;have f1:=tk_at2 q1;have l3:=at_lt (le_or (tk_le x 93) (Pl.colsP_good x 5).le) g3
   have hG:grpB s (m+a)=m+grpB x a:=by
    unfold grpB
    rw [Nat.add_assoc,win_yes ((tk_F h 93).or (colsP_F h 5) (Pl.colsP_good x 5).le) g3 (by
     have:=at_lt (Pl.foldP_good x).le g4
     omega),g3]
   have hGx:grpB x a=c3:=by unfold grpB;rw [g3]
   have hbd:c3+3≤b:=by
    unfold Pl.ifP at q2
    by_cases h1:(Pl.tk x 115 d1).1=true
    ·rw [if_pos h1] at q2
     obtain ⟨y1,y2,y3⟩:=and_yes q2;have z1:=dig_at y2;have z2:=tk_at2 y3;have z3:=tk_le x 115 d1;omega
    ·rw [if_neg h1] at q2
     obtain ⟨y1,y2,y3⟩:=and_yes q2;have z1:=tk_at2 y2;have z2:=tk_at2 y3;have z3:=tk_le x 115 d1;omega
   have hw:wtV s (m+grpB x a+1)=wtV x (grpB x a+1):=by
    unfold wtV
    rw [hGx,bt_add h (by omega)]
    have:dgN s (m+c3+1+1)=dgN x (c3+1+1):=by
     have:=dg_add h (a:=c3) (k:=2) (by omega)
     exact this
    rw [this]
   rw [hG,hw]
  ·rw [if_neg k7,if_neg k7]
 ·unfold hcs
  by_cases k3:k=3
  ·rw [if_pos k3,if_pos k3]
   subst k3;have he':Pl.pickP x a=(true,b):=he;obtain ⟨c1,g1,he1⟩:=and_yes he';obtain ⟨c2,g2,g3⟩:=and_yes he1;have e1:=tk_at2 g1;have e2:=tk_at2 g2
   have e2':c2=a+2:=by omega
   rw [e2'] at g3;rw [Nat.add_assoc];exact colsV_win h 5 (a+2) b g3 hb
  rw [if_neg k3,if_neg k3]
  by_cases k7:k=7
  ·rw [if_pos k7,if_pos k7]
   subst k7;have he':Pl.groupP x a=(true,b):=he;obtain ⟨c1,g1,he1⟩:=and_yes he';obtain ⟨c2,g2,he2⟩:=and_yes he1;obtain ⟨c3,g3,g4⟩:=and_yes he2;have e1:=tk_at2 g1;have e2:=tk_at2 g2
   have e2':c2=a+2:=by omega
   rw [e2'] at g3;have l3:=at_lt (le_or (tk_le x 93) (Pl.colsP_good x 5).le) g3;have l4:=at_lt (Pl.foldP_good x).le g4
   rw [bt_add h (a:=a) (k:=2) (by omega)]
   by_cases h93:Pl.bt x (a+2)=93
   ·rw [if_pos h93,if_pos h93]
   ·rw [if_neg h93,if_neg h93]
    have g3':Pl.colsP x 5 (a+2)=(true,c3):=by
     unfold Pl.orP at g3;rw [tk_ex h93] at g3
     simpa using g3
    rw [Nat.add_assoc]
    exact colsV_win h 5 (a+2) c3 g3' (by omega)
  ·rw [if_neg k7,if_neg k7]
end
theorem let4_end {s x:ByteArray} {m:Nat} (h:Win s x m) {a b:Nat} (hb:b≤x.size) (hl:Pl.let4 x a=(true,b)) (hs:¬(97≤Pl.bt s (m+x.size)∧Pl.bt s (m+x.size)≤122)):Pl.let4 s (m+a)=(true,m+b):=by
 have key:∀ k a b,Pl.many x 97 122 k a=b→a≤x.size→b≤x.size→Pl.many s 97 122 k (m+a)=m+b:=by
  intro k
  induction k with
  | zero=>intro a b e _ _;rw [←e];rfl
  | succ k ih =>
    intro a b e ha hb;unfold Pl.many at e ⊢
    rcases Nat.lt_or_ge a x.size with hlt | hge
    ·rw [h.at_ a hlt]
     by_cases hc:97≤Pl.bt x a∧Pl.bt x a≤122
     ·rw [if_pos hc] at e ⊢
      exact ih (a+1) b e (by omega) hb
     ·rw [if_neg hc] at e ⊢
      rw [e]
    ·have hax:a=x.size:=by omega
     subst hax
     have h0:Pl.bt x x.size=0:=by unfold Pl.bt;rw [dif_neg (Nat.lt_irrefl _)]
     rw [if_neg (by omega)] at e
     rw [if_neg hs,e]
 unfold Pl.let4 Pl.sev at hl ⊢
 injection hl with h1 h2
 have hlt:a<Pl.many x 97 122 4 a:=by simpa using h1
 have:=key 4 a b h2 (by omega) hb
 rw [this]
 simp;omega
theorem kd_lt {x:ByteArray} {a:Nat} (h:Pl.kd (Pl.bt x a)≠0):a<x.size:=by
 refine Pl.bt_lt fun e=>h ?_
 rw [e];rfl
theorem Rq.lt {x:ByteArray} {f a b:Nat} {q:Q} (k:Rq x f a b q):a<x.size:=by
 cases k with
 | tab hk he=>exact kd_lt (by omega)
 | one hk he hb hq hc=>exact kd_lt fun e=>by rw [e] at hk;exact absurd hk (by decide)
 | two hk he hb hq hc hr hd=>exact kd_lt fun e=>by rw [e] at hk;exact absurd hk (by decide)
theorem mkQ_nil (h:Hd) (cs:List Nat):mkQ h cs []=.tab h.nm:=rfl
theorem Rq.win {s x:ByteArray} {m:Nat} (h:Win s x m) (hs:¬(97≤Pl.bt s (m+x.size)∧Pl.bt s (m+x.size)≤122)) {f a b:Nat} {q:Q} (k:Rq x f a b q):b≤x.size→Rq s f (m+a) (m+b) q:=by
 induction k with
 | @tab f a b hk he =>
   intro hb
   have ha:a<x.size:=kd_lt (by omega)
   have hl:Pl.let4 x a=(true,b):=he;have e1:=let4_end h hb hl hs;have e2:=h.at_ a ha
   have e3:(hdV s 1 (m+a)).nm=(hdV x 1 a).nm:=by
    show sub s (m+a) (Pl.let4 s (m+a)).2=sub x a (Pl.let4 x a).2
    rw [e1,hl];exact sub_win h hb
   rw [mkQ_nil,←e3,←mkQ_nil (hdV s 1 (m+a)) (hcs s 1 (m+a))]
   exact .tab (by rw [e2];exact hk) e1
 | @one f a b c q hk he hb40 hq hc ih =>
   intro hb
   have hk1:Pl.kd (Pl.bt x a)≠1:=fun e=>by rw [e] at hk;exact absurd hk (by decide)
   have ha:a<x.size:=kd_lt fun e=>by rw [e] at hk;exact absurd hk (by decide)
   have hbl:=Pl.bt_lt (s:=x) (a:=b) (by omega)
   have hcl:=Pl.bt_lt (s:=x) (a:=c) (by omega)
   have e2:=h.at_ a ha;obtain ⟨w1,w2,w3⟩:=head_win h hk1 he hbl
   have ih2:=ih (by omega)
   rw [←w2,←w3,←e2];rw [←e2] at hk w1
   have hz:m+(c+1)=(m+c)+1:=by omega
   have hz2:m+(b+1)=(m+b)+1:=by omega
   rw [hz2] at ih2;rw [hz];exact .one hk w1 ((h.at_ b hbl).trans hb40) ih2 ((h.at_ c hcl).trans hc)
 | @two f a b c d q r hk he hb40 hq hc hr hd ih1 ih2 =>
   intro hb
   have hk1:Pl.kd (Pl.bt x a)≠1:=fun e=>by rw [e] at hk;exact absurd hk (by decide)
   have ha:a<x.size:=kd_lt fun e=>by rw [e] at hk;exact absurd hk (by decide)
   have hbl:=Pl.bt_lt (s:=x) (a:=b) (by omega)
   have hcl:=Pl.bt_lt (s:=x) (a:=c) (by omega)
   have hdl:=Pl.bt_lt (s:=x) (a:=d) (by omega)
   have e2:=h.at_ a ha;obtain ⟨w1,w2,w3⟩:=head_win h hk1 he hbl
   have i1:=ih1 (by omega)
   have i2:=ih2 (by omega)
   rw [←w2,←w3,←e2];rw [←e2] at hk w1
   have hz:m+(d+1)=(m+d)+1:=by omega
   have hz2:m+(b+1)=(m+b)+1:=by omega
   have hz3:m+(c+1)=(m+c)+1:=by omega
   rw [hz2] at i1;rw [hz3] at i2;rw [hz];exact .two hk w1 ((h.at_ b hbl).trans hb40) i1 ((h.at_ c hcl).trans hc) i2 ((h.at_ d hdl).trans hd)
theorem Rq.same {s:ByteArray} {f a b:Nat} {q:Q} (h:Rq s f a b q):∀ {f' b':Nat} {q':Q},Rq s f' a b' q'→b'=b∧q'=q:=by
 induction h with
 | @tab f a b hk he =>
   intro f' b' q' k
   cases k with
   | tab hk' he'=>rw [he] at he';injection he' with _ e;exact ⟨e.symm,rfl⟩
   | one hk'=>rw [hk] at hk';exact absurd hk' (by decide)
   | two hk'=>rw [hk] at hk';exact absurd hk' (by decide)
 | @one f a b c q hk he hb hq hc ih =>
   intro f' b' q' k
   cases k with
   | tab hk'=>rw [hk'] at hk;exact absurd hk (by decide)
   | one hk' he' hb' hq' hc' =>
     rw [he] at he'
     injection he' with _ e
     subst e;obtain ⟨e1,e2⟩:=ih hq';subst e1 e2;exact ⟨rfl,rfl⟩
   | two hk'=>omega
 | @two f a b c d q r hk he hb hq hc hr hd ih1 ih2 =>
   intro f' b' q' k
   cases k with
   | tab hk'=>rw [hk'] at hk;exact absurd hk (by decide)
   | one hk'=>omega
   | two hk' he' hb' hq' hc' hr' hd' =>
     rw [he] at he'
     injection he' with _ e
     subst e;obtain ⟨e1,e2⟩:=ih1 hq';subst e1 e2;obtain ⟨e3,e4⟩:=ih2 hr';subst e3 e4;exact ⟨rfl,rfl⟩
end Go.Proofs.YtdinjjmcmfjbfaaGreatDoor
