import Derived.Test.YtdinjjmcmfjbfaaGreatDoorQbJ
set_option maxRecDepth 100000
set_option maxHeartbeats 4000000
namespace Go.Proofs.YtdinjjmcmfjbfaaGreatDoor.Mo
inductive Q where
 | tab (nm:List UInt8)
 | sel (c:Nat) (k:Cmp) (x:Opd) (q:Q)
 | pick (cs:List Nat) (q:Q)
 | join (n m:Nat) (q r:Q)
 | uni (q r:Q)
 | dist (q:Q)
 | grp (cs:List Nat) (s:Option Nat) (q:Q)
 deriving DecidableEq
def leaves:Q→List (List UInt8)
 | .tab nm=>[nm]
 | .sel _ _ _ q=>leaves q
 | .pick _ q=>leaves q
 | .join _ _ q r=>leaves q++leaves r
 | .uni q r=>leaves q++leaves r
 | .dist q=>leaves q
 | .grp _ _ q=>leaves q
def joins:Q→Nat
 | .tab _=>0
 | .sel _ _ _ q=>joins q
 | .pick _ q=>joins q
 | .join _ _ q r=>joins q+joins r+1
 | .uni q r=>joins q+joins r
 | .dist q=>joins q
 | .grp _ _ q=>joins q
def selR (c:Nat) (k:Cmp) (x:Opd) (r:Row):Bool:=cmpV k (colR r c) (opdR x r)
def bagQ (f:Nat→Bag):Nat→Q→Bag
 | i,.tab _=>f i
 | i,.sel c k x q=>selB (selR c k x) (bagQ f i q)
 | i,.pick cs q=>pickB cs (bagQ f i q)
 | i,.join n m q r=>joinB n m (bagQ f i q) (bagQ f (i+(leaves q).length) r)
 | i,.uni q r=>bagQ f i q++bagQ f (i+(leaves q).length) r
 | i,.dist q=>distB (bagQ f i q)
 | i,.grp cs s q=>grpB cs s (bagQ f i q)
theorem leaves_pos (q:Q):1≤(leaves q).length:=by
 induction q <;> simp only [leaves,List.length_append,List.length_singleton] <;> omega
def bagT (f:List UInt8→Bag):Q→Bag
 | .tab nm=>f nm
 | .sel c k x q=>selB (selR c k x) (bagT f q)
 | .pick cs q=>pickB cs (bagT f q)
 | .join n m q r=>joinB n m (bagT f q) (bagT f r)
 | .uni q r=>bagT f q++bagT f r
 | .dist q=>distB (bagT f q)
 | .grp cs s q=>grpB cs s (bagT f q)
theorem bagQ_congr {f g:Nat→Bag}:∀ (q:Q) (i:Nat),(∀ j,i≤j→j<i+(leaves q).length→Eqv (f j) (g j))→Eqv (bagQ f i q) (bagQ g i q)
 | .tab _,i,h=>h i (Nat.le_refl _) (by simp [leaves])
 | .sel _ _ _ q,i,h=>selB_eqv (bagQ_congr q i h)
 | .pick _ q,i,h=>pickB_eqv (bagQ_congr q i h)
 | .join _ _ q r,i,h=>joinB_eqv (bagQ_congr q i fun j h1 h2=>h j h1 (by simp only [leaves,List.length_append];omega)) (bagQ_congr r _ fun j h1 h2=>h j (by omega) (by simp only [leaves,List.length_append];omega))
 | .uni q r,i,h=>Eqv.append (bagQ_congr q i fun j h1 h2=>h j h1 (by simp only [leaves,List.length_append];omega)) (bagQ_congr r _ fun j h1 h2=>h j (by omega) (by simp only [leaves,List.length_append];omega))
 | .dist q,i,h=>by simp only [bagQ];rw [distB_eqv (bagQ_congr q i h)];exact Eqv.refl _
 | .grp _ _ q,i,h=>by simp only [bagQ];rw [grpB_eqv (bagQ_congr q i h)];exact Eqv.refl _
theorem bagQ_bagT {f:Nat→Bag} {g:List UInt8→Bag}:∀ (q:Q) (i:Nat),(∀ j nm,(leaves q)[j]? =some nm→Eqv (f (i+j)) (g nm))→Eqv (bagQ f i q) (bagT g q)
 | .tab nm,i,h=>h 0 nm rfl
 | .sel _ _ _ q,i,h=>selB_eqv (bagQ_bagT q i h)
 | .pick _ q,i,h=>pickB_eqv (bagQ_bagT q i h)
 | .join _ _ q r,i,h=>joinB_eqv
  (bagQ_bagT q i fun j nm hj=>h j nm (by simp only [leaves];rw [List.getElem?_append_left (List.getElem?_eq_some_iff.1 hj).1];exact hj))
  (bagQ_bagT r _ fun j nm hj=>by have:=h ((leaves q).length+j) nm (by simp only [leaves];rw [List.getElem?_append_right (by omega),Nat.add_sub_cancel_left];exact hj);rw [Nat.add_assoc];exact this)
 | .uni q r,i,h=>Eqv.append
  (bagQ_bagT q i fun j nm hj=>h j nm (by simp only [leaves];rw [List.getElem?_append_left (List.getElem?_eq_some_iff.1 hj).1];exact hj))
  (bagQ_bagT r _ fun j nm hj=>by have:=h ((leaves q).length+j) nm (by simp only [leaves];rw [List.getElem?_append_right (by omega),Nat.add_sub_cancel_left];exact hj);rw [Nat.add_assoc];exact this)
 | .dist q,i,h=>by simp only [bagQ,bagT];rw [distB_eqv (bagQ_bagT q i h)];exact Eqv.refl _
 | .grp _ _ q,i,h=>by simp only [bagQ,bagT];rw [grpB_eqv (bagQ_bagT q i h)];exact Eqv.refl _
theorem bagQ_nn {f:Nat→Bag} (hf:∀ i,nn (f i)):∀ (q:Q) (i:Nat),nn (bagQ f i q)
 | .tab _,i=>hf i
 | .sel _ _ _ q,i=>selB_nn (bagQ_nn hf q i)
 | .pick _ q,i=>pickB_nn (bagQ_nn hf q i)
 | .join _ _ q r,i=>joinB_nn (bagQ_nn hf q i) (bagQ_nn hf r _)
 | .uni q r,i=>append_nn (bagQ_nn hf q i) (bagQ_nn hf r _)
 | .dist _,_=>distB_nn _
 | .grp _ _ _,_=>grpB_nn _ _ _
def bN (T:Int):Q→Int
 | .tab _=>T
 | .sel _ _ _ q=>bN T q
 | .pick _ q=>bN T q
 | .join _ _ q r=>bN T q*bN T r
 | .uni q r=>bN T q+bN T r
 | .dist q=>bN T q
 | .grp _ _ q=>bN T q
def bW (T:Int):Q→Int
 | .tab _=>10000*T
 | .sel _ _ _ q=>bW T q
 | .pick _ q=>bW T q
 | .join _ _ q r=>bN T r*bW T q+bN T q*bW T r
 | .uni q r=>bW T q+bW T r
 | .dist q=>bW T q
 | .grp _ _ q=>bW T q
theorem bN_nn {T:Int} (hT:0≤T):∀ q,0≤bN T q
 | .tab _=>hT
 | .sel _ _ _ q=>bN_nn hT q
 | .pick _ q=>bN_nn hT q
 | .join _ _ q r=>Int.mul_nonneg (bN_nn hT q) (bN_nn hT r)
 | .uni q r=>Int.add_nonneg (bN_nn hT q) (bN_nn hT r)
 | .dist q=>bN_nn hT q
 | .grp _ _ q=>bN_nn hT q
theorem bW_nn {T:Int} (hT:0≤T):∀ q,0≤bW T q
 | .tab _=>by simp only [bW];omega
 | .sel _ _ _ q=>bW_nn hT q
 | .pick _ q=>bW_nn hT q
 | .join _ _ q r=>Int.add_nonneg (Int.mul_nonneg (bN_nn hT r) (bW_nn hT q)) (Int.mul_nonneg (bN_nn hT q) (bW_nn hT r))
 | .uni q r=>Int.add_nonneg (bW_nn hT q) (bW_nn hT r)
 | .dist q=>bW_nn hT q
 | .grp _ _ q=>bW_nn hT q
theorem mul_le {a b c d:Int} (h:a≤c) (k:b≤d) (ha:0≤b) (hc:0≤c):a*b≤c*d :=
 Int.le_trans (Int.mul_le_mul_of_nonneg_right h ha) (Int.mul_le_mul_of_nonneg_left k hc)
structure Small (f:Nat→Bag) (T:Int):Prop where
 nn:∀ i,Mo.nn (f i)
 rows:∀ i,Nr (f i)≤T
 wts:∀ i,Wt (f i)≤10000*T
theorem bagQ_bN {f:Nat→Bag} {T:Int} (h:Small f T) (hT:0≤T):∀ (q:Q) (i:Nat),Nr (bagQ f i q)≤bN T q
 | .tab _,i=>h.rows i
 | .sel _ _ _ q,i=>Int.le_trans (selB_Nr (bagQ_nn h.nn q i)) (bagQ_bN h hT q i)
 | .pick _ q,i=>by simp only [bagQ,pickB_Nr];exact bagQ_bN h hT q i
 | .join _ _ q r,i=>Int.le_trans (joinB_Nr (bagQ_nn h.nn q i) (bagQ_nn h.nn r _)) (mul_le (bagQ_bN h hT q i) (bagQ_bN h hT r _) (Nr_nn (bagQ_nn h.nn r _)) (bN_nn hT q))
 | .uni q r,i=>by simp only [bagQ,append_Nr];exact Int.add_le_add (bagQ_bN h hT q i) (bagQ_bN h hT r _)
 | .dist q,i=>Int.le_trans (distB_Nr (bagQ_nn h.nn q i)) (bagQ_bN h hT q i)
 | .grp _ _ q,i=>Int.le_trans (grpB_Nr (bagQ_nn h.nn q i)) (bagQ_bN h hT q i)
theorem bagQ_bW {f:Nat→Bag} {T:Int} (h:Small f T) (hT:0≤T):∀ (q:Q) (i:Nat),Wt (bagQ f i q)≤bW T q
 | .tab _,i=>h.wts i
 | .sel _ _ _ q,i=>Int.le_trans (selB_Wt (bagQ_nn h.nn q i)) (bagQ_bW h hT q i)
 | .pick _ q,i=>Int.le_trans (pickB_Wt (bagQ_nn h.nn q i)) (bagQ_bW h hT q i)
 | .join _ _ q r,i=>Int.le_trans (joinB_Wt (bagQ_nn h.nn q i) (bagQ_nn h.nn r _))
  (Int.add_le_add (mul_le (bagQ_bN h hT r _) (bagQ_bW h hT q i) (Wt_nn (bagQ_nn h.nn q i)) (bN_nn hT r)) (mul_le (bagQ_bN h hT q i) (bagQ_bW h hT r _) (Wt_nn (bagQ_nn h.nn r _)) (bN_nn hT q)))
 | .uni q r,i=>by simp only [bagQ,append_Wt];exact Int.add_le_add (bagQ_bW h hT q i) (bagQ_bW h hT r _)
 | .dist q,i=>Int.le_trans (distB_Wt (bagQ_nn h.nn q i)) (bagQ_bW h hT q i)
 | .grp _ _ q,i=>Int.le_trans (grpB_Wt (bagQ_nn h.nn q i)) (bagQ_bW h hT q i)
def pw (B:Int):Nat→Int
 | 0=>1
 | n+1=>B*pw B n
theorem pw_pos {B:Int} (hB:1≤B):∀ n,1≤pw B n
 | 0=>Int.le_refl _
 | n+1=>by
   have h1:=pw_pos hB n
   have h2:=Int.mul_le_mul_of_nonneg_right hB (show 0≤pw B n by omega)
   simp only [pw];omega
theorem pw_add (B:Int) (a b:Nat):pw B (a+b)=pw B a*pw B b:=by
 induction a with
 | zero=>simp [pw]
 | succ a ih=>rw [Nat.add_right_comm];simp only [pw];rw [ih,Int.mul_assoc]
theorem pw_mono {B:Int} (hB:1≤B) {a b:Nat} (h:a≤b):pw B a≤pw B b:=by
 obtain ⟨c,rfl⟩:=Nat.exists_eq_add_of_le h;rw [pw_add];have h1:=pw_pos hB a
 have h2:=Int.mul_le_mul_of_nonneg_left (pw_pos hB c) (show 0≤pw B a by omega)
 omega
theorem bN_le {T B:Int} (hT:1≤T):∀ (q:Q),T*(leaves q).length≤B→bN T q≤(leaves q).length*T*pw B (joins q)
 | .tab _,h=>by simp [bN,leaves,joins,pw]
 | .sel _ _ _ q,h=>bN_le hT q h
 | .pick _ q,h=>bN_le hT q h
 | .dist q,h=>bN_le hT q h
 | .grp _ _ q,h=>bN_le hT q h
 | .uni q r,h=>by
   have hB:1≤B:=by
    have:=leaves_pos (.uni q r)
    have h2:T*1≤T*((leaves (.uni q r)).length:Int):=Int.mul_le_mul_of_nonneg_left (by omega) (by omega)
    omega
   simp only [leaves,List.length_append,Int.natCast_add,Int.mul_add] at h
   have z1:0≤T*((leaves q).length:Int):=Int.mul_nonneg (by omega) (by omega)
   have z2:0≤T*((leaves r).length:Int):=Int.mul_nonneg (by omega) (by omega)
   have h1:=bN_le (B:=B) hT q (by omega)
   have h2:=bN_le (B:=B) hT r (by omega)
   have m1:((leaves q).length:Int)*T*pw B (joins q)≤((leaves q).length:Int)*T*pw B (joins q+joins r):=Int.mul_le_mul_of_nonneg_left (pw_mono hB (by omega)) (by rw [Int.mul_comm];exact z1)
   have m2:((leaves r).length:Int)*T*pw B (joins r)≤((leaves r).length:Int)*T*pw B (joins q+joins r):=Int.mul_le_mul_of_nonneg_left (pw_mono hB (by omega)) (by rw [Int.mul_comm];exact z2)
   simp only [bN,leaves,joins,List.length_append,Int.natCast_add,Int.add_mul];omega
 | .join n m q r,h=>by
   have hB:1≤B:=by
    have:=leaves_pos (.join n m q r)
    have h2:T*1≤T*((leaves (.join n m q r)).length:Int):=Int.mul_le_mul_of_nonneg_left (by omega) (by omega)
    omega
   simp only [leaves,List.length_append,Int.natCast_add,Int.mul_add] at h
   have z1:0≤T*((leaves q).length:Int):=Int.mul_nonneg (by omega) (by omega)
   have z2:0≤T*((leaves r).length:Int):=Int.mul_nonneg (by omega) (by omega)
   have h1:=bN_le (B:=B) hT q (by omega)
   have h2:=bN_le (B:=B) hT r (by omega)
   have p1:=pw_pos hB (joins q);have p2:=pw_pos hB (joins r);have e1:((leaves q).length:Int)*T=T*(leaves q).length:=Int.mul_comm _ _;have e2:((leaves r).length:Int)*T=T*(leaves r).length:=Int.mul_comm _ _
   have h3:bN T r≤B*pw B (joins r):=Int.le_trans h2 (Int.mul_le_mul_of_nonneg_right (by omega) (by omega))
   have h4:=mul_le h1 h3 (bN_nn (by omega) r) (Int.mul_nonneg (by omega) (by omega))
   have h5:((leaves q).length:Int)*T*pw B (joins q)*(B*pw B (joins r))=((leaves q).length:Int)*T*pw B (joins q+joins r+1):=by
    have:pw B (joins q+joins r+1)=B*(pw B (joins q)*pw B (joins r)):=by simp only [pw,pw_add]
    rw [this,Int.mul_assoc,Int.mul_assoc,Int.mul_left_comm (pw B (joins q)) B,Int.mul_assoc]
   have h6:0≤((leaves r).length:Int)*T*pw B (joins q+joins r+1):=Int.mul_nonneg (by omega) (by have:=pw_pos hB (joins q+joins r+1);omega)
   simp only [bN,leaves,joins,List.length_append,Int.natCast_add,Int.add_mul];omega
theorem bW_le {T B:Int} (hT:1≤T):∀ (q:Q),T*(leaves q).length≤B→bW T q≤10000*((joins q:Int)+1)*((leaves q).length*T*pw B (joins q))
 | .tab _,_=>by simp [bW,leaves,joins,pw]
 | .sel _ _ _ q,h=>bW_le hT q h
 | .pick _ q,h=>bW_le hT q h
 | .dist q,h=>bW_le hT q h
 | .grp _ _ q,h=>bW_le hT q h
 | .uni q r,h=>by
   have hB:1≤B:=by
    have:=leaves_pos (.uni q r)
    have h2:T*1≤T*((leaves (.uni q r)).length:Int):=Int.mul_le_mul_of_nonneg_left (by omega) (by omega)
    omega
   simp only [leaves,List.length_append,Int.natCast_add,Int.mul_add] at h
   have z1:0≤T*((leaves q).length:Int):=Int.mul_nonneg (by omega) (by omega)
   have z2:0≤T*((leaves r).length:Int):=Int.mul_nonneg (by omega) (by omega)
   have h1:=bW_le (B:=B) hT q (by omega)
   have h2:=bW_le (B:=B) hT r (by omega)
   have m1:((leaves q).length:Int)*T*pw B (joins q)≤((leaves q).length:Int)*T*pw B (joins q+joins r):=Int.mul_le_mul_of_nonneg_left (pw_mono hB (by omega)) (by rw [Int.mul_comm];exact z1)
   have m2:((leaves r).length:Int)*T*pw B (joins r)≤((leaves r).length:Int)*T*pw B (joins q+joins r):=Int.mul_le_mul_of_nonneg_left (pw_mono hB (by omega)) (by rw [Int.mul_comm];exact z2)
   have p0:=pw_pos hB (joins q);have p1:=pw_pos hB (joins r)
   have y1:0≤((leaves q).length:Int)*T*pw B (joins q):=Int.mul_nonneg (by rw [Int.mul_comm];exact z1) (by omega)
   have y2:0≤((leaves r).length:Int)*T*pw B (joins r):=Int.mul_nonneg (by rw [Int.mul_comm];exact z2) (by omega)
   have k1:bW T q≤10000*((joins q+joins r:Int)+1)*(((leaves q).length:Int)*T*pw B (joins q+joins r)):=Int.le_trans h1 (mul_le (by omega) m1 y1 (by omega))
   have k2:bW T r≤10000*((joins q+joins r:Int)+1)*(((leaves r).length:Int)*T*pw B (joins q+joins r)):=Int.le_trans h2 (mul_le (by omega) m2 y2 (by omega))
   have e:10000*(((joins (.uni q r):Nat):Int)+1)*(((leaves (.uni q r)).length:Int)*T*pw B (joins (.uni q r)))=10000*((joins q+joins r:Int)+1)*(((leaves q).length:Int)*T*pw B (joins q+joins r))+10000*((joins q+joins r:Int)+1)*(((leaves r).length:Int)*T*pw B (joins q+joins r)):=by
    rw [←Int.mul_add,←Int.add_mul,←Int.add_mul];simp only [leaves,joins,List.length_append,Int.natCast_add]
   rw [e];exact Int.add_le_add k1 k2
 | .join n m q r,h=>by
   have hB:1≤B:=by
    have:=leaves_pos (.join n m q r)
    have h2:T*1≤T*((leaves (.join n m q r)).length:Int):=Int.mul_le_mul_of_nonneg_left (by omega) (by omega)
    omega
   simp only [leaves,List.length_append,Int.natCast_add,Int.mul_add] at h
   have z1:0≤T*((leaves q).length:Int):=Int.mul_nonneg (by omega) (by omega)
   have z2:0≤T*((leaves r).length:Int):=Int.mul_nonneg (by omega) (by omega)
   have h1:=bW_le (B:=B) hT q (by omega)
   have h2:=bW_le (B:=B) hT r (by omega)
   have n1:=bN_le (B:=B) hT q (by omega)
   have n2:=bN_le (B:=B) hT r (by omega)
   have p0:=pw_pos hB (joins q);have p1:=pw_pos hB (joins r);have e1:((leaves q).length:Int)*T=T*(leaves q).length:=Int.mul_comm _ _;have e2:((leaves r).length:Int)*T=T*(leaves r).length:=Int.mul_comm _ _
   have b1:bN T q≤B*pw B (joins q):=Int.le_trans n1 (Int.mul_le_mul_of_nonneg_right (by omega) (by omega))
   have b2:bN T r≤B*pw B (joins r):=Int.le_trans n2 (Int.mul_le_mul_of_nonneg_right (by omega) (by omega))
   have k1:=mul_le b2 h1 (bW_nn (by omega) q) (Int.mul_nonneg (by omega) (by omega))
   have k2:=mul_le b1 h2 (bW_nn (by omega) r) (Int.mul_nonneg (by omega) (by omega))
   have s1:B*pw B (joins r)*(10000*((joins q:Int)+1)*((leaves q).length*T*pw B (joins q)))=10000*((joins q:Int)+1)*((leaves q).length*T*pw B (joins q+joins r+1)):=by
    have:pw B (joins q+joins r+1)=B*(pw B (joins q)*pw B (joins r)):=by simp only [pw,pw_add]
    rw [this];ac_rfl
   have s2:B*pw B (joins q)*(10000*((joins r:Int)+1)*((leaves r).length*T*pw B (joins r)))=10000*((joins r:Int)+1)*((leaves r).length*T*pw B (joins q+joins r+1)):=by
    have:pw B (joins q+joins r+1)=B*(pw B (joins q)*pw B (joins r)):=by simp only [pw,pw_add]
    rw [this];ac_rfl
   rw [s1] at k1;rw [s2] at k2;have p3:=pw_pos hB (joins q+joins r+1)
   have y1:0≤((leaves q).length:Int)*T*pw B (joins q+joins r+1):=Int.mul_nonneg (by omega) (by omega)
   have y2:0≤((leaves r).length:Int)*T*pw B (joins q+joins r+1):=Int.mul_nonneg (by omega) (by omega)
   have k3:=Int.le_trans k1 (mul_le (c:=10000*((joins q+joins r+1:Int)+1)) (by omega) (Int.le_refl _) y1 (by omega))
   have k4:=Int.le_trans k2 (mul_le (c:=10000*((joins q+joins r+1:Int)+1)) (by omega) (Int.le_refl _) y2 (by omega))
   have e:10000*(((joins (.join n m q r):Nat):Int)+1)*(((leaves (.join n m q r)).length:Int)*T*pw B (joins (.join n m q r)))=10000*((joins q+joins r+1:Int)+1)*(((leaves q).length:Int)*T*pw B (joins q+joins r+1))+10000*((joins q+joins r+1:Int)+1)*(((leaves r).length:Int)*T*pw B (joins q+joins r+1)):=by
    rw [←Int.mul_add,←Int.add_mul,←Int.add_mul];simp only [leaves,joins,List.length_append,Int.natCast_add,Int.natCast_one]
   rw [e];exact Int.add_le_add k3 k4
theorem bound (q:Q) (hl:(leaves q).length≤120) (hj:joins q≤2) {f:Nat→Bag} (h:Small f 120) (i:Nat):Nr (bagQ f i q)≤3000000000000∧Wt (bagQ f i q)≤90000000000000000:=by
 have hp:pw 14400 (joins q)≤14400*14400:=by
  have:=pw_mono (B:=14400) (by omega) hj
  simpa [pw] using this
 have hp0:=pw_pos (B:=14400) (by omega) (joins q)
 have h1:=Int.le_trans (bagQ_bN h (by omega) q i) (bN_le (B:=14400) (by omega) q (by omega))
 have h2:=Int.le_trans (bagQ_bW h (by omega) q i) (bW_le (B:=14400) (by omega) q (by omega))
 have k1:((leaves q).length:Int)*120*pw 14400 (joins q)≤14400*(14400*14400):=mul_le (by omega) hp (by omega) (by omega)
 have y1:0≤((leaves q).length:Int)*120*pw 14400 (joins q):=Int.mul_nonneg (by omega) (by omega)
 have k2:=mul_le (a:=10000*((joins q:Int)+1)) (c:=30000) (by omega) k1 y1 (by omega)
 constructor
 ·omega
 ·omega
def ty:V→Bool
 | .num _=>false
 | .txt _=>true
def tyO (ts:List Bool):Opd→Option Bool
 | .col c=>ts[c]?
 | .val v=>some (ty v)
def tySel (c:Nat) (x:Opd) (ts:List Bool):Option (List Bool):=match ts[c]? with
 | none=>none
 | some a=>if tyO ts x=some a then some ts else none
def tyPick (cs:List Nat) (ts:List Bool):Option (List Bool):=if cs.all (fun c=>decide (c<ts.length)) then some (cs.map fun c=>ts.getD c false) else none
def six (ts:List Bool):Option (List Bool):=if ts.length≤6 then some ts else none
def tyJoin (n m:Nat) (ts us:List Bool):Option (List Bool):=match ts[n]? with
 | none=>none
 | some a=>if us[m]? =some a then six (ts++us) else none
def tyGrp (cs:List Nat) (s:Option Nat) (ts:List Bool):Option (List Bool):=match tyPick cs ts with
 | none=>none
 | some ks=>match s with
   | none=>six (ks++[false])
   | some m=>if ts[m]? =some false then six (ks++[false]) else none
def tyQ (f:List UInt8→Option (List Bool)):Q→Option (List Bool)
 | .tab nm=>f nm
 | .sel c _ x q=>(tyQ f q).bind (tySel c x)
 | .pick cs q=>(tyQ f q).bind (tyPick cs)
 | .join n m q r=>(tyQ f q).bind fun ts=>(tyQ f r).bind fun us=>tyJoin n m ts us
 | .uni q r=>(tyQ f q).bind fun ts=>(tyQ f r).bind fun us=>if ts=us then some ts else none
 | .dist q=>tyQ f q
 | .grp cs s q=>(tyQ f q).bind (tyGrp cs s)
def RT (ts:List Bool) (l:Bag):Prop:=∀ e∈l,e.1.map ty=ts
def TOk:V→Prop
 | .num _=>True
 | .txt s=>1≤s.length∧s.length≤4∧∀ c∈s,97≤c.toNat∧c.toNat≤122
def BT (l:Bag):Prop:=∀ e∈l,∀ v∈e.1,TOk v
theorem canon_mem {l:Bag} {e:Row × Int} (h:e∈canon l):∃ x∈l,x.1=e.1:=by
 induction l generalizing e with
 | nil=>cases h
 | cons y l ih =>
   rcases ins_mem h with hr | ⟨z,hz,he⟩
   ·exact ⟨y,by simp,hr.symm⟩
   ·obtain ⟨x,hx,hxz⟩:=ih hz
    exact ⟨x,by simp [hx],hxz.trans he⟩
theorem RT.canon {ts:List Bool} {l:Bag} (h:RT ts l):RT ts (Mo.canon l):=fun e he=>by obtain ⟨x,hx,hxe⟩:=canon_mem he;rw [←hxe];exact h x hx
theorem BT.canon {l:Bag} (h:BT l):BT (Mo.canon l):=fun e he=>by obtain ⟨x,hx,hxe⟩:=canon_mem he;rw [←hxe];exact h x hx
theorem colR_ty {r:Row} {ts:List Bool} (h:r.map ty=ts) {c:Nat} (hc:c<ts.length):ty (colR r c)=ts.getD c false∧colR r c∈r:=by
 subst h;rw [List.length_map] at hc;have hr:r[c]? =some r[c]:=List.getElem?_eq_getElem hc;unfold colR;rw [List.getD_eq_getElem?_getD,List.getD_eq_getElem?_getD,List.getElem?_map,hr];exact ⟨rfl,List.getElem_mem _⟩
theorem tyPick_some {cs:List Nat} {ts us:List Bool} (h:tyPick cs ts=some us):(∀ c∈cs,c<ts.length)∧us=cs.map fun c=>ts.getD c false:=by
 unfold tyPick at h
 split at h
 ·rename_i hc
  injection h with h
  exact ⟨fun c hm=>by simpa using List.all_eq_true.1 hc c hm,h.symm⟩
 ·cases h
theorem pickR_ty {r:Row} {cs:List Nat} {ts us:List Bool} (h:r.map ty=ts) (hp:tyPick cs ts=some us):(pickR cs r).map ty=us∧∀ v∈pickR cs r,v∈r:=by
 obtain ⟨h1,rfl⟩:=tyPick_some hp
 refine ⟨?_,fun v hv=> ?_⟩
 ·unfold pickR;rw [List.map_map]
  exact List.map_congr_left fun c hc=>(colR_ty h (h1 c hc)).1
 ·obtain ⟨c,hc,rfl⟩:=List.mem_map.1 hv
  exact (colR_ty h (h1 c hc)).2
theorem six_some {ts us:List Bool} (h:six ts=some us):us=ts∧ts.length≤6:=by unfold six at h;split at h;injection h with h;exact ⟨h.symm,by assumption⟩;cases h
theorem tySel_some {c:Nat} {x:Opd} {ts us:List Bool} (h:tySel c x ts=some us):us=ts:=by
 unfold tySel at h
 split at h
 ·cases h
 ·split at h
  ·injection h with h;exact h.symm
  ·cases h
theorem tyJoin_some {n m:Nat} {ts us vs:List Bool} (h:tyJoin n m ts us=some vs):vs=ts++us∧(ts++us).length≤6:=by
 unfold tyJoin at h
 split at h
 ·cases h
 ·split at h
  ·exact six_some h
  ·cases h
theorem tyGrp_some {cs:List Nat} {s:Option Nat} {ts us:List Bool} (h:tyGrp cs s ts=some us):∃ ks,tyPick cs ts=some ks∧us=ks++[false]∧us.length≤6:=by
 unfold tyGrp at h
 cases hp:tyPick cs ts with
 | none=>rw [hp] at h;cases h
 | some ks =>
   rw [hp] at h
   cases s with
   | none=>obtain ⟨rfl,hl⟩:=six_some h;exact ⟨ks,rfl,rfl,hl⟩
   | some m =>
     simp only at h
     split at h
     ·obtain ⟨rfl,hl⟩:=six_some h;exact ⟨ks,rfl,rfl,hl⟩
     ·cases h
theorem grpB_mem {cs:List Nat} {s:Option Nat} {l:Bag} {e:Row × Int} (h:e∈grpB cs s l):∃ x∈l,∃ n,e.1=pickR cs x.1++[.num n]:=by
 obtain ⟨k,hk,rfl⟩:=List.mem_map.1 h;obtain ⟨y,hy,hp⟩:=mem_keys hk;obtain ⟨x,hx,hxy⟩:=canon_mem hy
 exact ⟨x,hx,_,by rw [hxy,hp]⟩
theorem joinB_mem {n m:Nat} {a b:Bag} {e:Row × Int} (h:e∈joinB n m a b):∃ x∈a,∃ y∈b,e.1=x.1++y.1:=by
 obtain ⟨x,hx,he⟩:=List.mem_flatMap.1 h;obtain ⟨y,hy,rfl⟩:=List.mem_map.1 he;exact ⟨x,hx,y,(List.mem_filter.1 hy).1,rfl⟩
theorem bagQ_RT {f:List UInt8→Option (List Bool)} {g:Nat→Bag}:∀ (q:Q) (i:Nat) (ts:List Bool),(∀ j nm us,(leaves q)[j]? =some nm→f nm=some us→RT us (g (i+j))∧BT (g (i+j)))→tyQ f q=some ts→RT ts (bagQ g i q)∧BT (bagQ g i q)
 | .tab nm,i,ts,h,ht=>h 0 nm ts rfl ht
 | .sel c k x q,i,ts,h,ht=>by
   obtain ⟨us,hu,hs⟩:=Option.bind_eq_some_iff.1 ht;obtain rfl:=tySel_some hs;obtain ⟨h1,h2⟩:=bagQ_RT q i ts h hu
   exact ⟨fun e he=>h1 e (List.mem_filter.1 he).1,fun e he=>h2 e (List.mem_filter.1 he).1⟩
 | .pick cs q,i,ts,h,ht=>by
   obtain ⟨us,hu,hs⟩:=Option.bind_eq_some_iff.1 ht;obtain ⟨h1,h2⟩:=bagQ_RT q i us h hu
   refine ⟨fun e he=> ?_,fun e he v hv=> ?_⟩
   ·obtain ⟨x,hx,rfl⟩:=List.mem_map.1 he
    exact (pickR_ty (h1 x hx) hs).1
   ·obtain ⟨x,hx,rfl⟩:=List.mem_map.1 he
    exact h2 x hx v ((pickR_ty (h1 x hx) hs).2 v hv)
 | .join n m q r,i,ts,h,ht=>by
   obtain ⟨us,hu,hs⟩:=Option.bind_eq_some_iff.1 ht;obtain ⟨vs,hv,hs⟩:=Option.bind_eq_some_iff.1 hs;obtain ⟨rfl,-⟩:=tyJoin_some hs
   obtain ⟨h1,h2⟩:=bagQ_RT q i us (fun j nm us hj=>h j nm us (by simp only [leaves];rw [List.getElem?_append_left (List.getElem?_eq_some_iff.1 hj).1];exact hj)) hu
   obtain ⟨h3,h4⟩:=bagQ_RT r (i+(leaves q).length) vs (fun j nm us hj=>by rw [Nat.add_assoc];exact h ((leaves q).length+j) nm us (by simp only [leaves];rw [List.getElem?_append_right (by omega),Nat.add_sub_cancel_left];exact hj)) hv
   refine ⟨fun e he=> ?_,fun e he v hv=> ?_⟩
   ·obtain ⟨x,hx,y,hy,hxy⟩:=joinB_mem he
    rw [hxy,List.map_append,h1 x hx,h3 y hy]
   ·obtain ⟨x,hx,y,hy,hxy⟩:=joinB_mem he
    rw [hxy] at hv
    rcases List.mem_append.1 hv with hv | hv
    ·exact h2 x hx v hv
    ·exact h4 y hy v hv
 | .uni q r,i,ts,h,ht=>by
   obtain ⟨us,hu,hs⟩:=Option.bind_eq_some_iff.1 ht;obtain ⟨vs,hv,hs⟩:=Option.bind_eq_some_iff.1 hs
   split at hs
   case isFalse=>cases hs
   rename_i he
   subst he
   injection hs with hs
   subst hs
   obtain ⟨h1,h2⟩:=bagQ_RT q i us (fun j nm us hj=>h j nm us (by simp only [leaves];rw [List.getElem?_append_left (List.getElem?_eq_some_iff.1 hj).1];exact hj)) hu
   obtain ⟨h3,h4⟩:=bagQ_RT r (i+(leaves q).length) us (fun j nm us hj=>by rw [Nat.add_assoc];exact h ((leaves q).length+j) nm us (by simp only [leaves];rw [List.getElem?_append_right (by omega),Nat.add_sub_cancel_left];exact hj)) hv
   exact ⟨fun e he=>by rcases List.mem_append.1 he with he | he;exact h1 e he;exact h3 e he,fun e he=>by rcases List.mem_append.1 he with he | he;exact h2 e he;exact h4 e he⟩
 | .dist q,i,ts,h,ht=>by
   obtain ⟨h1,h2⟩:=bagQ_RT q i ts h ht
   refine ⟨fun e he=> ?_,fun e he=> ?_⟩
   ·obtain ⟨x,hx,rfl⟩:=List.mem_map.1 he
    exact h1.canon x hx
   ·obtain ⟨x,hx,rfl⟩:=List.mem_map.1 he
    exact h2.canon x hx
 | .grp cs s q,i,ts,h,ht=>by
   obtain ⟨us,hu,hs⟩:=Option.bind_eq_some_iff.1 ht;obtain ⟨ks,hk,rfl,-⟩:=tyGrp_some hs;obtain ⟨h1,h2⟩:=bagQ_RT q i us h hu
   refine ⟨fun e he=> ?_,fun e he v hv=> ?_⟩
   ·obtain ⟨x,hx,n,hn⟩:=grpB_mem he
    rw [hn,List.map_append,(pickR_ty (h1 x hx) hk).1];rfl
   ·obtain ⟨x,hx,n,hn⟩:=grpB_mem he
    rw [hn] at hv
    rcases List.mem_append.1 hv with hv | hv
    ·exact h2 x hx v ((pickR_ty (h1 x hx) hk).2 v hv)
    ·simp at hv;subst hv;trivial
def wfO:Opd→Prop
 | .col c=>c<10
 | .val (.num n)=> -9999≤n∧n≤9999
 | .val (.txt s)=>TOk (.txt s)
def wf:Q→Prop
 | .tab nm=>TOk (.txt nm)
 | .sel c _ x q=>c<10∧wfO x∧wf q
 | .pick cs q=>1≤cs.length∧cs.length≤6∧(∀ c∈cs,c<10)∧wf q
 | .join n m q r=>n<10∧m<10∧wf q∧wf r
 | .uni q r=>wf q∧wf r
 | .dist q=>wf q
 | .grp cs s q=>cs.length≤6∧(∀ c∈cs,c<10)∧(∀ m,s=some m→m<10)∧wf q
theorem tyQ_len {f:List UInt8→Option (List Bool)} (hf:∀ nm us,f nm=some us→1≤us.length∧us.length≤6):∀ (q:Q) (ts:List Bool),wf q→tyQ f q=some ts→1≤ts.length∧ts.length≤6
 | .tab nm,ts,_,h=>hf nm ts h
 | .sel c _ x q,ts,hw,h=>by
   obtain ⟨us,hu,hs⟩:=Option.bind_eq_some_iff.1 h;obtain rfl:=tySel_some hs;exact tyQ_len hf q _ hw.2.2 hu
 | .pick cs q,ts,hw,h=>by
   obtain ⟨us,hu,hs⟩:=Option.bind_eq_some_iff.1 h;obtain ⟨_,rfl⟩:=tyPick_some hs
   have:=hw.1
   have:=hw.2.1
   simp;omega
 | .join n m q r,ts,hw,h=>by
   obtain ⟨us,hu,hs⟩:=Option.bind_eq_some_iff.1 h;obtain ⟨vs,hv,hs⟩:=Option.bind_eq_some_iff.1 hs;obtain ⟨rfl,h6⟩:=tyJoin_some hs
   have:=tyQ_len hf q _ hw.2.2.1 hu
   rw [List.length_append] at h6 ⊢;omega
 | .uni q r,ts,hw,h=>by
   obtain ⟨us,hu,hs⟩:=Option.bind_eq_some_iff.1 h;obtain ⟨vs,hv,hs⟩:=Option.bind_eq_some_iff.1 hs
   split at hs
   case isFalse=>cases hs
   injection hs with hs
   subst hs;exact tyQ_len hf q _ hw.1 hu
 | .dist q,ts,hw,h=>tyQ_len hf q ts hw h
 | .grp cs s q,ts,hw,h=>by
   obtain ⟨us,hu,hs⟩:=Option.bind_eq_some_iff.1 h;obtain ⟨ks,hk,rfl,hl⟩:=tyGrp_some hs
   simp at hl ⊢;omega
theorem lin_swap (a b:Bag) (h:Row→Row→Int):lin a (fun x=>lin b (fun y=>h x y))=lin b (fun y=>lin a (fun x=>h x y)):=by
 induction a with
 | nil=>simp only [lin];rw [lin_zero]
 | cons e a ih=>simp only [lin];rw [ih,lin_add,lin_mul]
def joinR (n m:Nat) (d s:Bag):Bag:=d.flatMap fun y=>(selB (fun x=>decide (colR x n=colR y.1 m)) s).map fun x=>(x.1++y.1,y.2*x.2)
theorem joinR_eqv (n m:Nat) (d s:Bag):Eqv (joinR n m d s) (joinB n m s d):=eqv_of_lin fun g=>by
 rw [joinB_lin,lin_swap]
 induction d with
 | nil=>rfl
 | cons e d ih =>
   have:joinR n m (e::d) s=((selB (fun x=>decide (colR x n=colR e.1 m)) s).map fun x=>(x.1++e.1,e.2*x.2))++joinR n m d s:=rfl
   rw [this,lin_append,scale_lin e.2 (fun r=>r++e.1),selB_lin,ih]
   simp only [lin]
def onceE (b:Bag) (e:Row × Int):Bag:=if cnt b e.1=0 then [(e.1,1)] else if cnt b e.1= -e.2 then [(e.1,-1)] else []
def onceB (b es:Bag):Bag:=es.flatMap (onceE b)
theorem cnt_distB (l:Bag) (r:Row):cnt (distB l) r=if cnt l r=0 then 0 else 1:=by
 have key:∀ m:Bag,Rise m→cnt (m.map fun e=>(e.1,(1:Int))) r=if cnt m r=0 then 0 else 1:=by
  intro m hm
  induction m with
  | nil=>simp [cnt]
  | cons e m ih =>
    have c1:cnt ((e::m).map fun e=>(e.1,(1:Int))) r=(if e.1=r then 1 else 0)+cnt (m.map fun e=>(e.1,(1:Int))) r:=rfl
    have c2:cnt (e::m) r=(if e.1=r then e.2 else 0)+cnt m r:=rfl
    rw [c1,c2,ih hm.2.2]
    by_cases he:e.1=r
    ·have h0:cnt m r=0:=cnt_none fun y hy e'=>rlt_sto.ne (hm.1 y hy) (he.trans e'.symm)
     have:=hm.2.1
     simp [he,h0,this]
    ·simp [he]
 unfold distB;rw [key _ (canon_rise l),canon_cnt]
theorem cnt_flat_nodup (f:Row × Int→Bag) (hf:∀ e,∀ x∈f e,x.1=e.1):∀ {es:Bag},(es.map (·.1)).Nodup→∀ r,cnt (es.flatMap f) r=match es.find? (fun e=>decide (e.1=r)) with | none=>0 | some e=>cnt (f e) r
 | [],_,r=>rfl
 | e::es,h,r=>by
   have hn:=List.nodup_cons.1 (by simpa using h:(e.1::es.map (·.1)).Nodup)
   rw [List.flatMap_cons,cnt_append,cnt_flat_nodup f hf hn.2 r,List.find?_cons]
   by_cases he:e.1=r
   ·have h2:es.find? (fun e=>decide (e.1=r))=none:=List.find?_eq_none.2 fun x hx e'=>hn.1 (List.mem_map.2 ⟨x,hx,by rw [he];simpa using e'⟩)
    rw [h2];simp [he]
   ·rw [cnt_none (l:=f e) fun x hx e'=>he ((hf e x hx).symm.trans e')];simp [he]
theorem cnt_find {es:Bag} (h:(es.map (·.1)).Nodup) (r:Row):cnt es r=match es.find? (fun e=>decide (e.1=r)) with | none=>0 | some e=>e.2:=by
 induction es with
 | nil=>rfl
 | cons e es ih =>
   have hn:=List.nodup_cons.1 (by simpa using h:(e.1::es.map (·.1)).Nodup)
   simp only [cnt,List.find?_cons]
   by_cases he:e.1=r
   ·rw [cnt_none fun x hx e'=>hn.1 (List.mem_map.2 ⟨x,hx,by rw [he];exact e'⟩)];simp [he]
   ·rw [ih hn.2];simp [he]
theorem once_delta {b d es:Bag} (hes:Eqv es d) (hn:(es.map (·.1)).Nodup) (hz:∀ e∈es,e.2≠0):Eqv (distB b++onceB b es) (distB (b++d)):=fun r=>by
 rw [cnt_append,cnt_distB,cnt_distB,cnt_append,←hes r];unfold onceB
 rw [cnt_flat_nodup (onceE b) (fun e x hx=>by unfold onceE at hx;split at hx;(simp at hx;rw [hx]);split at hx;(simp at hx;rw [hx]);cases hx) hn,cnt_find hn]
 cases hf:es.find? (fun e=>decide (e.1=r)) with
 | none=>simp
 | some e =>
   have he:e.1=r:=by have:=List.find?_some hf;simpa using this
   have he2:=hz e (List.mem_of_find?_eq_some hf);subst he;simp only [onceE]
   by_cases h0:cnt b e.1=0
   ·simp [h0,cnt,he2]
   ·by_cases h1:cnt b e.1= -e.2
    ·have h2:cnt b e.1+e.2=0:=by omega
     rw [if_neg h0,if_neg h0,if_pos h1,if_pos h2];simp [cnt]
    ·have h2:¬cnt b e.1+e.2=0:=by omega
     rw [if_neg h0,if_neg h0,if_neg h1,if_neg h2];simp [cnt]
def totB (cs:List Nat) (s:Option Nat) (l:Bag):Bag:=l.map fun e=>(pickR cs e.1,e.2*sv s e.1)
theorem totB_lin (cs:List Nat) (s:Option Nat) (l:Bag) (g:Row→Int):lin (totB cs s l) g=lin l (fun r=>sv s r*g (pickR cs r)):=by
 induction l with
 | nil=>rfl
 | cons e l ih =>
   have:totB cs s (e::l)=(pickR cs e.1,e.2*sv s e.1)::totB cs s l:=rfl
   rw [this];simp only [lin];rw [ih,Int.mul_assoc]
theorem totB_eqv {cs:List Nat} {s:Option Nat} {l m:Bag} (h:Eqv l m):Eqv (totB cs s l) (totB cs s m):=eqv_of_lin fun g=>by rw [totB_lin,totB_lin,h.lin]
theorem totB_append (cs:List Nat) (s:Option Nat) (l m:Bag):totB cs s (l++m)=totB cs s l++totB cs s m:=List.map_append
theorem cnt_totB (cs:List Nat) (s:Option Nat) (l:Bag) (k:Row):cnt (totB cs s l) k=grpN cs s l k:=by
 rw [cnt_eq_lin,totB_lin];unfold grpN
 refine lin_congr_fun l fun e _=> ?_
 split <;> simp
def grow (cs:List Nat) (s:Option Nat) (l:Bag) (k:Row):Bag:=if 0<cnt (pickB cs l) k then [(k++[.num (cnt (totB cs s l) k)],1)] else []
theorem grow_row {cs:List Nat} {s:Option Nat} {l:Bag} {k:Row} {x:Row × Int} (h:x∈grow cs s l k):x.1.dropLast=k:=by
 unfold grow at h;split at h
 ·simp at h;rw [h];simp
 ·cases h
theorem cnt_grow_ne {cs:List Nat} {s:Option Nat} {l:Bag} {k r:Row} (h:r.dropLast≠k):cnt (grow cs s l k) r=0:=cnt_none fun x hx e=>h (by rw [←e];exact grow_row hx)
theorem cnt_grows {cs:List Nat} {s:Option Nat} {l:Bag}:∀ {ks:List Row},ks.Nodup→∀ r,cnt (ks.flatMap (grow cs s l)) r=if r.dropLast∈ks then cnt (grow cs s l r.dropLast) r else 0
 | [],_,r=>by simp [cnt]
 | k::ks,h,r=>by
   have hn:=List.nodup_cons.1 h;rw [List.flatMap_cons,cnt_append,cnt_grows hn.2 r]
   by_cases hk:r.dropLast=k
   ·subst hk;rw [if_neg hn.1,if_pos (by simp)];omega
   ·rw [cnt_grow_ne hk]
    by_cases hm:r.dropLast∈ks
    ·rw [if_pos hm,if_pos (by simp [hm])];omega
    ·rw [if_neg hm,if_neg (by simp [hm,hk])];omega
theorem key_pos {cs:List Nat} {l:Bag} (h:nn l) (k:Row):(∃ x∈keysB cs l,x.1=k)↔0<cnt (pickB cs l) k:=by
 constructor
 ·rintro ⟨x,hx,rfl⟩
  obtain ⟨e,he,hek⟩:=mem_keys hx
  have h1:cnt l e.1≤cnt (pickB cs l) x.1:=by
   rw [cnt_eq_lin,cnt_eq_lin,pickB_lin]
   refine lin_mono h fun r=> ?_
   by_cases hr:r=e.1
   ·subst hr;simp [hek]
   ·rw [if_neg hr];split <;> omega
  have h2:=nn_mem h he;have h3:=(canon_rise l).cnt_mem he;rw [canon_cnt] at h3;omega
 ·intro hp
  have hne:cnt (pickB cs l) k≠0:=by omega
  have h1:∃ e∈canon l,pickR cs e.1=k:=by
   refine Classical.byContradiction fun hn=>hne ?_
   have he:Eqv (pickB cs l) (pickB cs (canon l)):=pickB_eqv (canon_eqv l).symm;rw [he k]
   refine cnt_none fun x hx e=> ?_
   obtain ⟨y,hy,rfl⟩:=List.mem_map.1 hx;exact hn ⟨y,hy,e⟩
  obtain ⟨e,he,rfl⟩:=h1;exact keys_mem he
theorem cnt_grpB {cs:List Nat} {s:Option Nat} {l:Bag} (h:nn l) (r:Row):cnt (grpB cs s l) r=cnt (grow cs s l r.dropLast) r:=by
 have e1:grpB cs s l=((keysB cs l).map (·.1)).flatMap (grow cs s l):=by
  unfold grpB;rw [List.flatMap_map]
  have:∀ ks:Bag,(∀ k∈ks,0<cnt (pickB cs l) k.1)→(ks.map fun k=>(k.1++[V.num (grpN cs s l k.1)],(1:Int)))=ks.flatMap fun k=>grow cs s l k.1:=by
   intro ks hk
   induction ks with
   | nil=>rfl
   | cons k ks ih =>
     rw [List.map_cons,List.flatMap_cons,ih fun x hx=>hk x (by simp [hx])]
     unfold grow
     rw [if_pos (hk k (by simp)),cnt_totB];rfl
  exact this _ fun k hk=>(key_pos h k.1).1 ⟨k,hk,rfl⟩
 have hnd:((keysB cs l).map (·.1)).Nodup:=Rise.nodup (canon_rise _)
 rw [e1,cnt_grows hnd]
 by_cases hm:r.dropLast∈(keysB cs l).map (·.1)
 ·rw [if_pos hm]
 ·rw [if_neg hm]
  have:¬0<cnt (pickB cs l) r.dropLast:=fun hp=>hm (by obtain ⟨x,hx,e⟩:=(key_pos h _).2 hp;exact List.mem_map.2 ⟨x,hx,e⟩)
  unfold grow;rw [if_neg this];rfl
theorem grp_delta {cs:List Nat} {s:Option Nat} {b d:Bag} (hb:nn b) (hd:nn (b++d)) {ks:List Row} (hn:ks.Nodup) (hks:∀ k,cnt (pickB cs d) k≠0∨cnt (totB cs s d) k≠0→k∈ks) :
 Eqv (grpB cs s b++(neg (ks.flatMap (grow cs s b))++ks.flatMap (grow cs s (b++d)))) (grpB cs s (b++d)):=fun r=>by
 rw [cnt_append,cnt_append,cnt_neg,cnt_grpB hb,cnt_grpB hd,cnt_grows hn,cnt_grows hn]
 by_cases hm:r.dropLast∈ks
 ·rw [if_pos hm,if_pos hm];omega
 ·rw [if_neg hm,if_neg hm]
  have h1:cnt (pickB cs d) r.dropLast=0:=Classical.byContradiction fun h=>hm (hks _ (.inl h))
  have h2:cnt (totB cs s d) r.dropLast=0:=Classical.byContradiction fun h=>hm (hks _ (.inr h))
  have h3:grow cs s (b++d) r.dropLast=grow cs s b r.dropLast:=by
   unfold grow;rw [pickB_append,totB_append,cnt_append,cnt_append,h1,h2,Int.add_zero,Int.add_zero]
  rw [h3];omega
def Good (ts:List Bool) (r:Row):Prop:=r.map ty=ts∧(∀ v∈r,TOk v)∧∀ v∈r,wv v≤90000000000000000
structure OkB (ts:List Bool) (b:Bag):Prop where
 nn:nn b
 rows:Nr b≤3000000000000
 wts:Wt b≤90000000000000000
 ty:RT ts (canon b)
 tx:BT (canon b)
 six:ts.length≤6
section
variable {ts:List Bool} {b b' d:Bag}
theorem OkB.eqv (h:OkB ts b) (e:Eqv b b'):OkB ts b' :=
 ⟨fun r=>by rw [←e r];exact h.nn r,by rw [←Nr_eqv e];exact h.rows,by rw [←Wt_eqv e];exact h.wts,by rw [←e.canon];exact h.ty,by rw [←e.canon];exact h.tx,h.six⟩
theorem OkB.good (h:OkB ts b) {r:Row} (hr:cnt b r≠0):Good ts r:=by
 obtain ⟨x,hx,rfl⟩:=lin_pos_mem hr
 exact ⟨h.ty x hx,h.tx x hx,fun v hv=>Int.le_trans (mem_le_Wt h.nn hx hv) h.wts⟩
theorem OkB.bd (h:OkB ts b) (r:Row):0≤cnt b r∧cnt b r≤3000000000000:=⟨h.nn r,Int.le_trans (cnt_le_Nr h.nn r) h.rows⟩
theorem OkB.len (h:OkB ts b):(canon b).length≤3000000000000:=by have h1:=len_le_Nr h.nn;have h2:=h.rows;omega
structure OkD (ts:List Bool) (d:Bag):Prop where
 good:∀ {r:Row},cnt d r≠0→Good ts r
 bd:∀ r,-3000000000000≤cnt d r∧cnt d r≤3000000000000
 len:(canon d).length≤6000000000000
 six:ts.length≤6
theorem OkD.eqv {d':Bag} (h:OkD ts d) (e:Eqv d d'):OkD ts d':=⟨fun hr=>h.good (by rw [e];exact hr),fun r=>by rw [←e r];exact h.bd r,by rw [←e.canon];exact h.len,h.six⟩
theorem OkB.chg (h:OkB ts b) (k:OkB ts (b++d)):OkD ts d:=by
 refine ⟨fun {r} hr=> ?_,fun r=> ?_,?_,h.six⟩
 ·by_cases hb:cnt b r=0
  ·exact k.good (by rw [cnt_append,hb];omega)
  ·exact h.good hb
 ·have h1:=h.bd r
  have h2:=k.bd r;rw [cnt_append] at h2;omega
 ·have e:Eqv d (neg (canon b)++(b++d)):=fun r=>by rw [cnt_append,cnt_neg,canon_cnt,cnt_append];omega
  have h1:=canon_append_len (neg (canon b)) (b++d)
  have h2:(neg (canon b)).length=(canon b).length:=by simp [neg]
  have h3:=h.len;have h4:=k.len;rw [e.canon];omega
theorem OkB.toD (h:OkB ts b):OkD ts b:=⟨fun hr=>h.good hr,fun r=>by have:=h.bd r;omega,by have:=h.len;omega,h.six⟩
theorem OkB.nil (h:ts.length≤6):OkB ts []:=⟨fun _=>Int.le_refl _,by simp [Nr,lin],by simp [Wt,lin],(fun e he=>absurd he (by simp [canon])),(fun e he=>absurd he (by simp [canon])),h⟩
theorem canon_nil_iff:canon d=[]↔∀ r,cnt d r=0:=by
 constructor
 ·intro h r;rw [←canon_cnt,h];rfl
 ·intro h
  have:Eqv d []:=fun r=>by rw [h r];rfl
  rw [this.canon];rfl
theorem eqv_nil_append (h:canon d=[]):Eqv b (b++d):=fun r=>by rw [cnt_append,canon_nil_iff.1 h r];omega
theorem mem_canon_cnt {e:Row × Int} (h:e∈canon d):cnt d e.1≠0:=by rw [←canon_cnt,(canon_rise d).cnt_mem h];exact (canon_rise d).nz h
theorem OkD.mem (h:OkD ts d) {e:Row × Int} (he:e∈canon d):Good ts e.1:=h.good (mem_canon_cnt he)
end
theorem Good.len {ts:List Bool} {r:Row} (h:Good ts r):r.length=ts.length:=by rw [←h.1];simp
def OkQ (ft:List UInt8→Option (List Bool)) (q:Q) (i:Nat) (f:Nat→Bag):Prop:=∃ ts,tyQ ft q=some ts∧OkB ts (bagQ f i q)
def Ok2 (ft:List UInt8→Option (List Bool)):Q→Nat→(Nat→Bag)→Prop
 | .tab _,_,_=>True
 | .sel _ _ _ q,i,f=>OkQ ft q i f∧Ok2 ft q i f
 | .pick _ q,i,f=>OkQ ft q i f∧Ok2 ft q i f
 | .join _ _ q r,i,f=>(OkQ ft q i f∧OkQ ft r (i+(leaves q).length) f)∧Ok2 ft q i f∧Ok2 ft r (i+(leaves q).length) f
 | .uni q r,i,f=>(OkQ ft q i f∧OkQ ft r (i+(leaves q).length) f)∧Ok2 ft q i f∧Ok2 ft r (i+(leaves q).length) f
 | .dist q,i,f=>OkQ ft q i f∧Ok2 ft q i f
 | .grp _ _ q,i,f=>OkQ ft q i f∧Ok2 ft q i f
def LeafT (ft:List UInt8→Option (List Bool)) (q:Q) (i:Nat) (f:Nat→Bag):Prop:=∀ j nm us,(leaves q)[j]? =some nm→ft nm=some us→RT us (f (i+j))∧BT (f (i+j))
section
variable {ft:List UInt8→Option (List Bool)} {f:Nat→Bag}
theorem LeafT.left {q:Q} {l:List (List UInt8)} {i:Nat} (h:∀ j nm us,(leaves q++l)[j]? =some nm→ft nm=some us→RT us (f (i+j))∧BT (f (i+j))):LeafT ft q i f:=fun j nm us hj hu =>
 h j nm us (by rw [List.getElem?_append_left (List.getElem?_eq_some_iff.1 hj).1];exact hj) hu
theorem LeafT.right {r:Q} {l:List (List UInt8)} {i:Nat} (h:∀ j nm us,(l++leaves r)[j]? =some nm→ft nm=some us→RT us (f (i+j))∧BT (f (i+j))):LeafT ft r (i+l.length) f:=fun j nm us hj hu=>by
 have:=h (l.length+j) nm us (by rw [List.getElem?_append_right (by omega),show l.length+j-l.length=j by omega];exact hj) hu
 rw [show i+(l.length+j)=i+l.length+j by omega] at this;exact this
theorem okQ (hf:∀ nm us,ft nm=some us→1≤us.length∧us.length≤6) (hs:Small f 120) (q:Q) (hw:wf q) (hl:(leaves q).length≤120) (hj:joins q≤2) (i:Nat) (hT:LeafT ft q i f) {ts:List Bool} (ht:tyQ ft q=some ts):OkB ts (bagQ f i q):=by
 have hb:=bound q hl hj hs i;have hr:=bagQ_RT q i ts hT ht;exact ⟨bagQ_nn hs.nn q i,hb.1,hb.2,hr.1.canon,hr.2.canon,(tyQ_len hf q ts hw ht).2⟩
theorem ok2 (hf:∀ nm us,ft nm=some us→1≤us.length∧us.length≤6) (hs:Small f 120):∀ (q:Q) (_:wf q) (_:(leaves q).length≤120) (_:joins q≤2) (i:Nat) (_:LeafT ft q i f) {ts:List Bool} (_:tyQ ft q=some ts),Ok2 ft q i f
 | .tab _,_,_,_,_,_,_,_=>trivial
 | .sel c k x q,hw,hl,hj,i,hT,ts,ht=>by
   obtain ⟨us,h1,_⟩:=Option.bind_eq_some_iff.1 (show (tyQ ft q).bind (tySel c x)=some ts from ht)
   exact ⟨⟨us,h1,okQ hf hs q hw.2.2 hl hj i hT h1⟩,ok2 hf hs q hw.2.2 hl hj i hT h1⟩
 | .pick cs q,hw,hl,hj,i,hT,ts,ht=>by
   obtain ⟨us,h1,_⟩:=Option.bind_eq_some_iff.1 (show (tyQ ft q).bind (tyPick cs)=some ts from ht)
   exact ⟨⟨us,h1,okQ hf hs q hw.2.2.2 hl hj i hT h1⟩,ok2 hf hs q hw.2.2.2 hl hj i hT h1⟩
 | .join n m q r,hw,hl,hj,i,hT,ts,ht=>by
   obtain ⟨us,h1,h2⟩:=Option.bind_eq_some_iff.1 (show (tyQ ft q).bind (fun ts=>(tyQ ft r).bind fun us=>tyJoin n m ts us)=some ts from ht)
   obtain ⟨vs,h3,_⟩:=Option.bind_eq_some_iff.1 h2
   have hl1:(leaves q).length+(leaves r).length≤120:=by simpa [leaves] using hl
   have hj1:joins q+joins r+1≤2:=hj;have t1:LeafT ft q i f:=LeafT.left (l:=leaves r) hT;have t2:LeafT ft r (i+(leaves q).length) f:=LeafT.right (l:=leaves q) hT
   exact ⟨⟨⟨us,h1,okQ hf hs q hw.2.2.1 (by omega) (by omega) i t1 h1⟩,⟨vs,h3,okQ hf hs r hw.2.2.2 (by omega) (by omega) _ t2 h3⟩⟩,ok2 hf hs q hw.2.2.1 (by omega) (by omega) i t1 h1,ok2 hf hs r hw.2.2.2 (by omega) (by omega) _ t2 h3⟩
 | .uni q r,hw,hl,hj,i,hT,ts,ht=>by
   obtain ⟨us,h1,h2⟩:=Option.bind_eq_some_iff.1 (show (tyQ ft q).bind (fun ts=>(tyQ ft r).bind fun us=>if ts=us then some ts else none)=some ts from ht)
   obtain ⟨vs,h3,_⟩:=Option.bind_eq_some_iff.1 h2
   have hl1:(leaves q).length+(leaves r).length≤120:=by simpa [leaves] using hl
   have hj1:joins q+joins r≤2:=hj;have t1:LeafT ft q i f:=LeafT.left (l:=leaves r) hT;have t2:LeafT ft r (i+(leaves q).length) f:=LeafT.right (l:=leaves q) hT
   exact ⟨⟨⟨us,h1,okQ hf hs q hw.1 (by omega) (by omega) i t1 h1⟩,⟨vs,h3,okQ hf hs r hw.2 (by omega) (by omega) _ t2 h3⟩⟩,ok2 hf hs q hw.1 (by omega) (by omega) i t1 h1,ok2 hf hs r hw.2 (by omega) (by omega) _ t2 h3⟩
 | .dist q,hw,hl,hj,i,hT,ts,ht=>⟨⟨ts,ht,okQ hf hs q hw hl hj i hT ht⟩,ok2 hf hs q hw hl hj i hT ht⟩
 | .grp cs s q,hw,hl,hj,i,hT,ts,ht=>by
   obtain ⟨us,h1,_⟩:=Option.bind_eq_some_iff.1 (show (tyQ ft q).bind (tyGrp cs s)=some ts from ht)
   exact ⟨⟨us,h1,okQ hf hs q hw.2.2.2 hl hj i hT h1⟩,ok2 hf hs q hw.2.2.2 hl hj i hT h1⟩
end
end Go.Proofs.YtdinjjmcmfjbfaaGreatDoor.Mo
namespace Go.Proofs.YtdinjjmcmfjbfaaGreatDoor
open Go.RowKit
open Mo (V Row Bag cnt canon Eqv OkB OkD)
abbrev Ow:=Nat→Nat
theorem good_ok {ts:List Bool} {r:Row} (h:Mo.Good ts r) (hs:ts.length≤6):ROk r:=by
 refine ⟨by rw [h.len];exact hs,fun v hv=> ?_⟩
 have h1:=h.2.1 v hv;have h2:=h.2.2 v hv
 cases v with
 | num n=>simp only [Mo.wv] at h2;simp only [VOk];omega
 | txt s=>exact h1
theorem Mo.OkD.rok {ts:List Bool} {d:Bag} (h:OkD ts d):∀ e∈canon d,ROk e.1:=fun _ he=>good_ok (h.mem he) h.six
theorem Mo.OkB.rok {ts:List Bool} {d:Bag} (h:OkB ts d):∀ e∈canon d,ROk e.1:=h.toD.rok
theorem Mo.OkD.w64 {ts:List Bool} {d:Bag} (h:OkD ts d) (r:Row):wrap64 (cnt (canon d) r)=cnt d r:=by
 rw [Mo.canon_cnt,wrap64_id];have:=h.bd r;omega
def TakeEnd (A:Nat→Prop) (R:World→Ow→Bag→Prop) (B:Bag) (w:World) (O:Ow) (e:Ending) (w':World):Prop :=
 e=.returned (.tuple #[])∧∃ O':Ow,(∀ k,k<w.heap.size→O' k=O k)∧Kept (fun k=>A (O k)) w w'∧R w' O' B
structure TyTake (ty:TypeId) (f:Nat):Prop where
 nil:∀ (a:Addr) (w:World),(nilAhead 496 ty (.pointer (some a)) "ripple/ripple.take").run Tryz.prog w=.ok (some false) w
 met:∀ (a:Addr) (w:World),(method 496 ty (.pointer (some a)) "ripple/ripple.take").run Tryz.prog w=.ok (f,.pointer (some a)) w
 ent:∀ args w,(callFunc f args).run Tryz.prog w=.ok (.enter f args) w
theorem deliver_any {ty:TypeId} {f:Nat} (hT:TyTake ty f) (a:Addr) (c:Nat) (ts:List Bool) (d:Bag) (w:World) (Q:Ending→World→Prop) (hc:BagAt w c (canon d)) (hok:OkD ts d)
 (h0:canon d=[]→Q (.returned (.tuple #[])) w) (h1:canon d≠[]→Calls Tryz.prog f #[.pointer (some a),.map (some c)] w fun e w'=>e=.returned (.tuple #[])∧Q e w') :
 Calls Tryz.prog 47 #[.map (some c),.iface ty (.pointer (some a))] w Q:=by
 have HC:=hid hc;have HT:=hid hT;have hm:=hT.met;have he:=hT.ent
 by_cases hd:canon d=[]
 ·have HQ:=hid (h0 hd)
  have hk:∀ ks:List Row,(∀ k,k∈ks↔(bagM (canon d) k).isSome=true)→ks=[]:=fun ks hks=>by
   cases ks with
   | nil=>rfl
   | cons k ks =>
     have:=(hks k).1 (by simp)
     unfold bagM at this;rw [hok.w64,Mo.canon_nil_iff.1 hd k,if_pos rfl] at this
     cases this
  have HK:=hid hk;clear h0 h1 hk hc hd
  go_enter Tryz.func47,Tryz.ntmps47
  go_wp2_with (first
   | (at_len;refine wpList_len_map _ rowKE rfl _ 83 2 rfl Tryz.underlying83 c (bagM (canon d)) rfl HC.out.2 ?_;intro ks hn hks;obtain rfl:=HK.out ks hks;clear hn hks)
   | fail)
  go_end0;exact HQ.out
 ·have HQ:=hid (h1 hd)
  have hk:∀ ks:List Row,(∀ k,k∈ks↔(bagM (canon d) k).isSome=true)→(0:Int)<(ks.length:Nat):=fun ks hks=>by
   obtain ⟨e,he⟩:=List.exists_mem_of_ne_nil _ hd
   have h3:e.1∈ks:=(hks _).2 (by unfold bagM;rw [hok.w64,if_neg (Mo.mem_canon_cnt he)];rfl)
   have:=List.length_pos_of_mem h3
   omega
  have HK:=hid hk;clear h0 h1 hk hc hd
  go_enter Tryz.func47,Tryz.ntmps47
  go_wp2_with (first
   | (at_len;refine wpList_len_map _ rowKE rfl _ 83 2 rfl Tryz.underlying83 c (bagM (canon d)) rfl HC.out.2 ?_;intro ks hn hks;have hpos:=HK.out ks hks;clear hn hks)
   | fail)
  refine HQ.out.mono ?_;rintro e w1 ⟨rfl,hq⟩;have HQ1:=hid hq;clear hq;go_wp2_with fail;go_end0;exact HQ1.out
end Go.Proofs.YtdinjjmcmfjbfaaGreatDoor
