import Derived.Test.YtdinjjmcmfjbfaaGreatDoorLcJ
import Derived.Test.YtdinjjmcmfjbfaaGreatDoorGaJ
import Derived.Test.YtdinjjmcmfjbfaaGreatDoorEjJ
import Derived.Test.YtdinjjmcmfjbfaaGreatDoorSmJ
import Derived.Test.YtdinjjmcmfjbfaaGreatDoorEvJ
import Derived.Test.YtdinjjmcmfjbfaaGreatDoorLeJ
set_option maxRecDepth 100000
set_option maxHeartbeats 4000000
namespace Go.Proofs.YtdinjjmcmfjbfaaGreatDoor
open Go.ChangeShapes Go.WideShapes Go.ChangeAt Go.RowKit Go.Deep
theorem bulk_one {H:Type} (d:DataW H):1≤Rows.uptoBulk d:=by
 cases d with
 | lit l=>cases l <;> simp [Rows.uptoBulk]
 | nil=>simp [Rows.uptoBulk]
 | ptr d=>simp [Rows.uptoBulk]
 | slice elems spare=>simp [Rows.uptoBulk]
 | agg parts=>simp [Rows.uptoBulk]
 | iface t d=>simp [Rows.uptoBulk]
 | map entries=>simp [Rows.uptoBulk]
 | held h=>simp [Rows.uptoBulk]
theorem bulk_len {H:Type} (l:List (DataW H)):l.length≤Rows.uptoBulkAll l:=by
 induction l with
 | nil=>simp [Rows.uptoBulkAll]
 | cons x r ih=>have:=bulk_one x;simp only [Rows.uptoBulkAll,List.length_cons];omega
theorem raws_cost {H:Type} {enc:TypeId × Value→H} {W:World} {v:Value} {fuel:Nat} {x:DataW H × List MemPlace} (h:DataW.trod enc Tryz.prog W 0 (fun _=>true) true fuel 41 [v]=some x):∃ rs,RawsAt W v rs∧3*cost rs≤10903552*Rows.uptoBulk x.1:=by
 obtain ⟨rs,hr⟩:=raws_of h;refine ⟨rs,hr,?_⟩;unfold cost
 by_cases h0:rs=[]
 ·rw [if_pos h0];omega
 ·rw [if_neg h0]
  have hl:0<rs.length:=List.length_pos_iff.2 h0
  have hrl:∃ a cap,v=.slice a rs.length cap:=by obtain ⟨a,cap,e,_⟩:=hr;exact ⟨_,_,e⟩
  obtain ⟨a',cap',e'⟩:=hrl
  rcases open_slice Tryz.underlying41 h with ⟨hcs,_⟩ | ⟨ad,l,c,m,n,D,Pl,hcs,_,hlc,hm,hmm,hxe,hx⟩
  ·have e:v=.slice none 0 0:=by simpa using hcs
   rw [e] at e'
   injection e' with _ e' _
   omega
  ·have e:v=.slice (some ad) l c:=by simpa using hcs
   rw [e] at e'
   injection e' with _ e' _
   simp at hmm
   subst hmm
   obtain ⟨cs',_,h2⟩:=hx 0 (by omega)
   obtain ⟨ys,n',_,hy,_,hxl,_⟩:=DataW.trod_struct Tryz.underlying55 h2
   simp at hxl
   have hD:D 0=.agg (ys.map (·.1)):=congrArg Prod.fst hy
   have hb:5≤Rows.uptoBulk (D 0):=by
    rw [hD]
    have:=bulk_len (ys.map (·.1))
    rw [List.length_map,hxl] at this;simp only [Rows.uptoBulk];omega
   have hx1:x.1=.slice ((List.range l).map D) ((List.range (m-l)).map fun j=>D (l+j)):=by rw [hxe]
   rw [hx1]
   obtain ⟨l',rfl⟩:∃ l',l=l'+1:=⟨l-1,by omega⟩
   rw [List.range_succ_eq_map,List.map_cons];simp only [Rows.uptoBulk,Rows.uptoBulkAll];omega
theorem costs_bulk {H:Type}:∀ (rss:List (List Rw4)) (ds:List (DataW H)),rss.length=ds.length→(∀ (i:Nat) rs d,rss[i]? =some rs→ds[i]? =some d→3*cost rs≤10903552*Rows.uptoBulk d)→3*costs rss≤10903552*Rows.uptoBulkAll ds
 | [],_,_,_=>Nat.zero_le _
 | _::_,[],h,_=>by cases h
 | rs::rss,d::ds,h,k=>by
   have h1:=k 0 rs d rfl rfl
   have h2:=costs_bulk rss ds (by simpa using h) fun i rs d hr hd=>k (i+1) rs d hr hd
   have e:costs (rs::rss)=cost rs+costs rss:=by unfold costs;rw [List.map_cons,List.sum_cons]
   rw [e];simp only [Rows.uptoBulkAll];omega
theorem rawss_cost {H:Type} {enc:TypeId × Value→H} {W:World} {v:Value} {fuel:Nat} {x:DataW H × List MemPlace} (h:DataW.trod enc Tryz.prog W 0 (fun _=>true) true fuel 25 [v]=some x):∃ rss,RawssAt W v rss∧3*costs rss≤10903552*Rows.uptoBulk x.1:=by
 rcases open_slice1 Tryz.underlying25 cellsRaws h with ⟨hcs,_⟩ | ⟨ad,l,c,m,n,V,D,Pl,hcs,_,hl,hm,hmm,hxe,hx⟩
 ·have e:v=.slice none 0 0:=by simpa using hcs
  exact ⟨[],⟨none,0,e,Nat.le_refl _,Nat.zero_le _,fun i r hr=>by simp at hr⟩,Nat.zero_le _⟩
 ·have e:v=.slice (some ad) l c:=by simpa using hcs
  subst e
  simp at hmm
  subst hmm
  obtain ⟨rss,hrl,hrs⟩:=list_of (fun i (rs:List Rw4)=>W.cell? (ad.add i)=some (V i)∧RawsAt W (V i) rs∧3*cost rs≤10903552*Rows.uptoBulk (D i)) l (fun i hi=>by
   obtain ⟨h1,h2⟩:=hx i (by omega)
   obtain ⟨rs,hr,hc⟩:=raws_cost h2
   exact ⟨rs,h1,hr,hc⟩)
  refine ⟨rss,⟨some ad,m,by rw [hrl],by rw [hrl];exact hl,hm,fun i r hr=> ?_⟩,?_⟩
  ·obtain ⟨d0,d1,_⟩:=hrs i r hr
   obtain ⟨b,off,spot⟩:=ad;obtain ⟨r0,hr0⟩:∃ r0,rss[0]? =some r0:=⟨_,List.getElem?_eq_getElem (Nat.lt_of_le_of_lt (Nat.zero_le i) (List.getElem?_eq_some_iff.1 hr).1)⟩
   have hspot:spot=none:=by simpa [Addr.add] using World.cell?_spot (hrs 0 r0 hr0).1
   subst hspot;rw [Addr.add_lit] at d0;exact ⟨b,off,V i,rfl,World.block_lt_of_cell? W _ d0,d0,d1⟩
  ·have hx1:x.1=.slice ((List.range l).map D) ((List.range (m-l)).map fun j=>D (l+j)):=by rw [hxe]
   have hb:=costs_bulk rss ((List.range l).map D) (by simp [hrl]) fun i rs d hr hd=>by
    rw [List.getElem?_map] at hd;obtain ⟨j,hj,rfl⟩:=Option.map_eq_some_iff.1 hd
    have:j=i:=by
     obtain ⟨h3,h4⟩:=List.getElem?_eq_some_iff.1 hj;rw [List.getElem_range] at h4;exact h4.symm
    subst this;exact (hrs _ rs hr).2.2
   rw [hx1];simp only [Rows.uptoBulk];omega
open Mo (V Row Q Opd)
theorem tk_ex {s:ByteArray} {c a:Nat} (h:Pl.bt s a≠c):Pl.tk s c a=(false,a):=by unfold Pl.tk;rw [if_neg h]
def WinF (x:ByteArray) (m:Nat) (p r:Nat→Bool × Nat):Prop:=∀ a,(r a).2<x.size→p (m+a)=((r a).1,m+(r a).2)
section
variable {s x:ByteArray} {m:Nat}
theorem WinF.and {p p' r r':Nat→Bool × Nat} (h:WinF x m p r) (h':WinF x m p' r') (hl:∀ a,a≤(r' a).2):WinF x m (Pl.andP p p') (Pl.andP r r'):=fun a ha=>by
 unfold Pl.andP at ha ⊢
 by_cases h1:(r a).1=true
 ·rw [if_pos h1] at ha
  have h2:=h a (Nat.lt_of_le_of_lt (hl _) ha);rw [h2];simp only [h1,if_true];exact h' _ ha
 ·rw [if_neg h1] at ha
  have h2:=h a ha;rw [h2]
  simp [h1]
theorem WinF.or {p p' r r':Nat→Bool × Nat} (h:WinF x m p r) (h':WinF x m p' r') (hl:∀ a,a≤(r' a).2):WinF x m (Pl.orP p p') (Pl.orP r r'):=fun a ha=>by
 unfold Pl.orP at ha ⊢
 by_cases h1:(r a).1=true
 ·rw [if_pos h1] at ha
  have h2:=h a ha;rw [h2]
  simp [h1]
 ·rw [if_neg h1] at ha
  have h2:=h a (Nat.lt_of_le_of_lt (hl _) ha);rw [h2];simp only [h1];exact h' _ ha
theorem WinF.ite {p p' p'' r r' r'':Nat→Bool × Nat} (h:WinF x m p r) (h':WinF x m p' r') (h'':WinF x m p'' r'') (hl:∀ a,a≤(r' a).2) (hl':∀ a,a≤(r'' a).2):WinF x m (Pl.ifP p p' p'') (Pl.ifP r r' r''):=fun a ha=>by
 unfold Pl.ifP at ha ⊢
 by_cases h1:(r a).1=true
 ·rw [if_pos h1] at ha
  have h2:=h a (Nat.lt_of_le_of_lt (hl _) ha);rw [h2];simp only [h1,if_true];exact h' _ ha
 ·rw [if_neg h1] at ha
  have h2:=h a (Nat.lt_of_le_of_lt (hl' _) ha);rw [h2];simp only [h1];exact h'' _ ha
theorem tk_le (s:ByteArray) (c a:Nat):a≤(Pl.tk s c a).2:=by unfold Pl.tk;split <;> simp
theorem tk_F (h:Win s x m) (c:Nat):WinF x m (Pl.tk s c) (Pl.tk x c):=fun a ha=>tk_win h c a (Nat.lt_of_le_of_lt (tk_le x c a) ha)
theorem dig_F (h:Win s x m):WinF x m (Pl.dig s) (Pl.dig x):=fun a ha=>sev_win h 1 48 57 a ha
theorem let4_F (h:Win s x m):WinF x m (Pl.let4 s) (Pl.let4 x):=fun a ha=>let4_win h a ha
theorem numP_F (h:Win s x m):WinF x m (Pl.numP s) (Pl.numP x):=fun a ha=>numP_win h a ha
theorem oneOf_F (h:Win s x m):WinF x m (Pl.oneOf s) (Pl.oneOf x):=fun a ha=>by
 have hl:a≤(Pl.oneOf x a).2:=(Pl.oneOf_good x).le a;unfold Pl.oneOf
 rw [h.at_ a (by omega)]
 split <;> rfl
theorem operP_F (h:Win s x m):WinF x m (Pl.operP s) (Pl.operP x) :=
 (tk_F h 35).ite (numP_F h) ((tk_F h 36).ite (let4_F h) (dig_F h) (Pl.let4_good x).le (Pl.dig_good x).le) (Pl.numP_good x).le (Pl.ifP_good (Pl.tk_good (by omega) (by omega)) (Pl.let4_good x) (Pl.dig_good x) (Pl.tk_stays x _)).le
theorem colsP_F (h:Win s x m):∀ k,WinF x m (Pl.colsP s k) (Pl.colsP x k)
 | 0=>(dig_F h).and (tk_F h 93) (tk_le x 93)
 | k+1=>(dig_F h).and ((tk_F h 44).ite (colsP_F h k) (tk_F h 93) (Pl.colsP_good x k).le (tk_le x 93)) (Pl.ifP_good (Pl.tk_good (by omega) (by omega)) (Pl.colsP_good x k) (Pl.tk_good (by omega) (by omega)) (Pl.tk_stays x _)).le
theorem foldP_F (h:Win s x m):WinF x m (Pl.foldP s) (Pl.foldP x) :=
 (tk_F h 91).and ((tk_F h 115).ite ((dig_F h).and (tk_F h 93) (tk_le x 93)) ((tk_F h 110).and (tk_F h 93) (tk_le x 93)) (Pl.andP_good (Pl.dig_good x) (Pl.tk_good (by omega) (by omega))).le (Pl.andP_good (Pl.tk_good (by omega) (by omega)) (Pl.tk_good (by omega) (by omega))).le)
   (Pl.ifP_good (Pl.tk_good (by omega) (by omega)) (Pl.andP_good (Pl.dig_good x) (Pl.tk_good (by omega) (by omega))) (Pl.andP_good (Pl.tk_good (by omega) (by omega)) (Pl.tk_good (by omega) (by omega))) (Pl.tk_stays x _)).le
theorem and_yes {f g:Nat→Bool × Nat} {a b:Nat} (h:Pl.andP f g a=(true,b)):∃ c,f a=(true,c)∧g c=(true,b):=by
 unfold Pl.andP at h
 by_cases h1:(f a).1=true
 ·rw [if_pos h1] at h
  exact ⟨(f a).2,Prod.ext h1 rfl,h⟩
 ·rw [if_neg h1] at h;injection h with h;cases h
theorem win_yes {p r:Nat→Bool × Nat} (h:WinF x m p r) {a b:Nat} (hr:r a=(true,b)) (hb:b<x.size):p (m+a)=(true,m+b):=by
 have:=h a (by rw [hr];exact hb)
 rw [this,hr]
theorem bt_add (h:Win s x m) {a k:Nat} (hk:a+k<x.size):Pl.bt s (m+a+k)=Pl.bt x (a+k):=by rw [Nat.add_assoc];exact h.at_ _ hk
theorem dg_add (h:Win s x m) {a k:Nat} (hk:a+k<x.size):dgN s (m+a+k)=dgN x (a+k):=by unfold dgN;rw [bt_add h hk]
theorem colsV_win (h:Win s x m):∀ (k a b:Nat),Pl.colsP x k a=(true,b)→b<x.size→colsV s k (m+a)=colsV x k a
 | 0,a,b,hc,hb=>by
   obtain ⟨c,h1,h2⟩:=and_yes hc;have e1:=dig_at h1;have e2:=(tk_le x 93 c);rw [h2] at e2;have e2':c≤b:=e2;unfold colsV dgN
   rw [h.at_ a (by omega)]
 | k+1,a,b,hc,hb=>by
   obtain ⟨c,h1,h2⟩:=and_yes hc;have e1:=dig_at h1;subst e1;unfold Pl.ifP at h2
   have hle:a+1≤b:=by
    have:=(Pl.ifP_good (Pl.tk_good (s:=x) (c:=44) (by omega) (by omega)) (Pl.colsP_good x k) (Pl.tk_good (c:=93) (by omega) (by omega)) (Pl.tk_stays x _)).le (a+1)
    unfold Pl.ifP at this;rw [h2] at this;exact this
   unfold colsV
   have hd:dgN s (m+a)=dgN x a:=by unfold dgN;rw [h.at_ a (by omega)]
   have hb1:=bt_add h (a:=a) (k:=1) (by omega)
   rw [hd,hb1]
   by_cases h44:Pl.bt x (a+1)=44
   ·rw [if_pos h44,if_pos h44]
    rw [Pl.tk_in h44] at h2;simp only [if_true] at h2
    congr 1
    have:=colsV_win h k (a+2) b h2 hb
    rw [←this,Nat.add_assoc]
   ·rw [if_neg h44,if_neg h44]
theorem le_and {f g:Nat→Bool × Nat} (hf:∀ a,a≤(f a).2) (hg:∀ a,a≤(g a).2) (a:Nat):a≤(Pl.andP f g a).2:=by
 unfold Pl.andP
 split
 ·exact Nat.le_trans (hf a) (hg _)
 ·exact hf a
theorem le_or {f g:Nat→Bool × Nat} (hf:∀ a,a≤(f a).2) (hg:∀ a,a≤(g a).2) (a:Nat):a≤(Pl.orP f g a).2:=by
 unfold Pl.orP
 split
 ·exact hf a
 ·exact Nat.le_trans (hf a) (hg _)
theorem selP_F (h:Win s x m):WinF x m (Pl.selP s) (Pl.selP x) :=
 have l5:=le_and (Pl.operP_good x).le (tk_le x 93);have l4:=le_and (Pl.oneOf_good x).le l5;have l3:=le_and (Pl.dig_good x).le l4
 (tk_F h 83).and ((tk_F h 91).and ((dig_F h).and ((oneOf_F h).and ((operP_F h).and (tk_F h 93) (tk_le x 93)) l5) l4) l3) (le_and (tk_le x 91) l3)
theorem pickP_F (h:Win s x m):WinF x m (Pl.pickP s) (Pl.pickP x) :=
 (tk_F h 80).and ((tk_F h 91).and (colsP_F h 5) (Pl.colsP_good x 5).le) (le_and (tk_le x 91) (Pl.colsP_good x 5).le)
theorem joinP_F (h:Win s x m):WinF x m (Pl.joinP s) (Pl.joinP x) :=
 have l5:=le_and (Pl.dig_good x).le (tk_le x 93);have l4:=le_and (tk_le x 61) l5;have l3:=le_and (Pl.dig_good x).le l4
 (tk_F h 74).and ((tk_F h 91).and ((dig_F h).and ((tk_F h 61).and ((dig_F h).and (tk_F h 93) (tk_le x 93)) l5) l4) l3) (le_and (tk_le x 91) l3)
theorem groupP_F (h:Win s x m):WinF x m (Pl.groupP s) (Pl.groupP x) :=
 have l3:=le_and (le_or (tk_le x 93) (Pl.colsP_good x 5).le) (Pl.foldP_good x).le
 (tk_F h 71).and ((tk_F h 91).and (((tk_F h 93).or (colsP_F h 5) (Pl.colsP_good x 5).le).and (foldP_F h) (Pl.foldP_good x).le) l3) (le_and (tk_le x 91) l3)
theorem headP_F (h:Win s x m) (k:Nat):WinF x m (Pl.headP s k) (Pl.headP x k):=fun a ha=>by
 unfold Pl.headP at ha ⊢
 by_cases k1:k=1
 ·rw [if_pos k1] at ha ⊢;rw [if_pos k1];exact let4_F h a ha
 rw [if_neg k1] at ha ⊢;rw [if_neg k1]
 by_cases k2:k=2
 ·rw [if_pos k2] at ha ⊢;rw [if_pos k2];exact selP_F h a ha
 rw [if_neg k2] at ha ⊢;rw [if_neg k2]
 by_cases k3:k=3
 ·rw [if_pos k3] at ha ⊢;rw [if_pos k3];exact pickP_F h a ha
 rw [if_neg k3] at ha ⊢;rw [if_neg k3]
 by_cases k4:k=4
 ·rw [if_pos k4] at ha ⊢;rw [if_pos k4];exact joinP_F h a ha
 rw [if_neg k4] at ha ⊢;rw [if_neg k4]
 by_cases k5:k=5
 ·rw [if_pos k5] at ha ⊢;rw [if_pos k5];exact tk_F h 85 a ha
 rw [if_neg k5] at ha ⊢;rw [if_neg k5]
 by_cases k6:k=6
 ·rw [if_pos k6] at ha ⊢;rw [if_pos k6];exact tk_F h 68 a ha
 rw [if_neg k6] at ha ⊢;rw [if_neg k6]
 by_cases k7:k=7
 ·rw [if_pos k7] at ha ⊢;rw [if_pos k7];exact groupP_F h a ha
 ·rw [if_neg k7];rw [if_neg k7]
theorem at_lt {f:Nat→Bool × Nat} {a b:Nat} (hf:∀ a,a≤(f a).2) (h:f a=(true,b)):a≤b:=by have:=hf a;rw [h] at this;exact this
theorem operV_win (h:Win s x m) {a c:Nat} (g:Pl.operP x a=(true,c)) (hc:c<x.size):operV s (m+a)=operV x a:=by
 have hl:=at_lt (Pl.operP_good x).le g;unfold operV
 rw [h.at_ a (by omega)]
 unfold Pl.operP Pl.ifP at g
 by_cases h1:Pl.bt x a=35
 ·rw [Pl.tk_in h1] at g
  simp only [if_true] at g
  rw [if_pos h1,if_pos h1,Nat.add_assoc,win_yes (numP_F h) g hc,g,sub_win h (by omega)]
 ·rw [tk_ex h1] at g
  rw [if_neg h1,if_neg h1]
  by_cases h2:Pl.bt x a=36
  ·simp only [Pl.tk_in h2,if_true] at g
   have g':Pl.let4 x (a+1)=(true,c):=by simpa using g
   rw [if_pos h2,if_pos h2,Nat.add_assoc,win_yes (let4_F h) g' hc,g',sub_win h (by omega)]
  ·rw [if_neg h2,if_neg h2]
   unfold dgN
   rw [h.at_ a (by omega)]
theorem head_win (h:Win s x m) {k a b:Nat} (hk:k≠1) (he:Pl.headP x k a=(true,b)) (hb:b<x.size):Pl.headP s k (m+a)=(true,m+b)∧hdV s k (m+a)=hdV x k a∧hcs s k (m+a)=hcs x k a:=by
 refine ⟨win_yes (headP_F h k) he hb,?_,?_⟩
 ·unfold hdV
  rw [if_neg hk,if_neg hk]
  by_cases k2:k=2
  ·rw [if_pos k2,if_pos k2]
   subst k2;have he':Pl.selP x a=(true,b):=he;obtain ⟨c1,g1,he1⟩:=and_yes he';obtain ⟨c2,g2,he2⟩:=and_yes he1;obtain ⟨c3,g3,he3⟩:=and_yes he2;obtain ⟨c4,g4,he4⟩:=and_yes he3;obtain ⟨c5,g5,g6⟩:=and_yes he4;have e1:=tk_at2 g1;have e2:=tk_at2 g2;have e3:=dig_at g3;have e4:=oneOf_at g4;have e6:=tk_at2 g6;have l5:=at_lt (Pl.operP_good x).le g5
   have e5:c4=a+4:=by omega
   rw [e5] at g5
   have hcm:cmN s (m+a+3)=cmN x (a+3):=by unfold cmN;rw [bt_add h (by omega)]
   have hop:operV s (m+a+4)=operV x (a+4):=by rw [Nat.add_assoc];exact operV_win h g5 (by omega)
   rw [hcm,dg_add h (by omega),hop]
  rw [if_neg k2,if_neg k2]
  by_cases k4:k=4
  ·rw [if_pos k4,if_pos k4]
   subst k4;have he':Pl.joinP x a=(true,b):=he;obtain ⟨c1,g1,he1⟩:=and_yes he';obtain ⟨c2,g2,he2⟩:=and_yes he1;obtain ⟨c3,g3,he3⟩:=and_yes he2;obtain ⟨c4,g4,he4⟩:=and_yes he3;obtain ⟨c5,g5,g6⟩:=and_yes he4;have e1:=tk_at2 g1;have e2:=tk_at2 g2;have e3:=dig_at g3;have e4:=tk_at2 g4;have e5:=dig_at g5;have e6:=tk_at2 g6
   rw [dg_add h (by omega),dg_add h (by omega)]
  rw [if_neg k4,if_neg k4]
  by_cases k7:k=7
  ·rw [if_pos k7,if_pos k7]
   subst k7;have he':Pl.groupP x a=(true,b):=he;obtain ⟨c1,g1,he1⟩:=and_yes he';obtain ⟨c2,g2,he2⟩:=and_yes he1;obtain ⟨c3,g3,g4⟩:=and_yes he2;have e1:=tk_at2 g1;have e2:=tk_at2 g2
   have e2':c2=a+2:=by omega
   rw [e2'] at g3;obtain ⟨d1,q1,q2⟩:=and_yes g4;have f1:=tk_at2 q1;have l3:=at_lt (le_or (tk_le x 93) (Pl.colsP_good x 5).le) g3
   have hG:grpB s (m+a)=m+grpB x a:=by
    unfold grpB
    rw [Nat.add_assoc,win_yes ((tk_F h 93).or (colsP_F h 5) (Pl.colsP_good x 5).le) g3 (by
     have:=at_lt (Pl.foldP_good x).le g4
     omega),g3]
   have hGx:grpB x a=c3:=by unfold grpB;rw [g3]
   have hbd:c3+3≤b:=by
    unfold Pl.ifP at q2
    by_cases h1:(Pl.tk x 115 d1).1=true
    ·rw [if_pos h1] at q2
     obtain ⟨y1,y2,y3⟩:=and_yes q2;have z1:=dig_at y2;have z2:=tk_at2 y3;have z3:=tk_le x 115 d1;omega
    ·rw [if_neg h1] at q2
     obtain ⟨y1,y2,y3⟩:=and_yes q2;have z1:=tk_at2 y2;have z2:=tk_at2 y3;have z3:=tk_le x 115 d1;omega
   have hw:wtV s (m+grpB x a+1)=wtV x (grpB x a+1):=by
    unfold wtV
    rw [hGx,bt_add h (by omega)]
    have:dgN s (m+c3+1+1)=dgN x (c3+1+1):=by
     have:=dg_add h (a:=c3) (k:=2) (by omega)
     exact this
    rw [this]
   rw [hG,hw]
  ·rw [if_neg k7,if_neg k7]
 ·unfold hcs
  by_cases k3:k=3
  ·rw [if_pos k3,if_pos k3]
   subst k3;have he':Pl.pickP x a=(true,b):=he;obtain ⟨c1,g1,he1⟩:=and_yes he';obtain ⟨c2,g2,g3⟩:=and_yes he1;have e1:=tk_at2 g1;have e2:=tk_at2 g2
   have e2':c2=a+2:=by omega
   rw [e2'] at g3;rw [Nat.add_assoc];exact colsV_win h 5 (a+2) b g3 hb
  rw [if_neg k3,if_neg k3]
  by_cases k7:k=7
  ·rw [if_pos k7,if_pos k7]
   subst k7;have he':Pl.groupP x a=(true,b):=he;obtain ⟨c1,g1,he1⟩:=and_yes he';obtain ⟨c2,g2,he2⟩:=and_yes he1;obtain ⟨c3,g3,g4⟩:=and_yes he2;have e1:=tk_at2 g1;have e2:=tk_at2 g2
   have e2':c2=a+2:=by omega
   rw [e2'] at g3;have l3:=at_lt (le_or (tk_le x 93) (Pl.colsP_good x 5).le) g3;have l4:=at_lt (Pl.foldP_good x).le g4
   rw [bt_add h (a:=a) (k:=2) (by omega)]
   by_cases h93:Pl.bt x (a+2)=93
   ·rw [if_pos h93,if_pos h93]
   ·rw [if_neg h93,if_neg h93]
    have g3':Pl.colsP x 5 (a+2)=(true,c3):=by
     unfold Pl.orP at g3;rw [tk_ex h93] at g3
     simpa using g3
    rw [Nat.add_assoc]
    exact colsV_win h 5 (a+2) c3 g3' (by omega)
  ·rw [if_neg k7,if_neg k7]
end
theorem let4_end {s x:ByteArray} {m:Nat} (h:Win s x m) {a b:Nat} (hb:b≤x.size) (hl:Pl.let4 x a=(true,b)) (hs:¬(97≤Pl.bt s (m+x.size)∧Pl.bt s (m+x.size)≤122)):Pl.let4 s (m+a)=(true,m+b):=by
 have key:∀ k a b,Pl.many x 97 122 k a=b→a≤x.size→b≤x.size→Pl.many s 97 122 k (m+a)=m+b:=by
  intro k
  induction k with
  | zero=>intro a b e _ _;rw [←e];rfl
  | succ k ih =>
    intro a b e ha hb;unfold Pl.many at e ⊢
    rcases Nat.lt_or_ge a x.size with hlt | hge
    ·rw [h.at_ a hlt]
     by_cases hc:97≤Pl.bt x a∧Pl.bt x a≤122
     ·rw [if_pos hc] at e ⊢
      exact ih (a+1) b e (by omega) hb
     ·rw [if_neg hc] at e ⊢
      rw [e]
    ·have hax:a=x.size:=by omega
     subst hax
     have h0:Pl.bt x x.size=0:=by unfold Pl.bt;rw [dif_neg (Nat.lt_irrefl _)]
     rw [if_neg (by omega)] at e
     rw [if_neg hs,e]
 unfold Pl.let4 Pl.sev at hl ⊢
 injection hl with h1 h2
 have hlt:a<Pl.many x 97 122 4 a:=by simpa using h1
 have:=key 4 a b h2 (by omega) hb
 rw [this]
 simp;omega
theorem kd_lt {x:ByteArray} {a:Nat} (h:Pl.kd (Pl.bt x a)≠0):a<x.size:=by
 refine Pl.bt_lt fun e=>h ?_
 rw [e];rfl
theorem Rq.lt {x:ByteArray} {f a b:Nat} {q:Q} (k:Rq x f a b q):a<x.size:=by
 cases k with
 | tab hk he=>exact kd_lt (by omega)
 | one hk he hb hq hc=>exact kd_lt fun e=>by rw [e] at hk;exact absurd hk (by decide)
 | two hk he hb hq hc hr hd=>exact kd_lt fun e=>by rw [e] at hk;exact absurd hk (by decide)
theorem mkQ_nil (h:Hd) (cs:List Nat):mkQ h cs []=.tab h.nm:=rfl
theorem Rq.win {s x:ByteArray} {m:Nat} (h:Win s x m) (hs:¬(97≤Pl.bt s (m+x.size)∧Pl.bt s (m+x.size)≤122)) {f a b:Nat} {q:Q} (k:Rq x f a b q):b≤x.size→Rq s f (m+a) (m+b) q:=by
 induction k with
 | @tab f a b hk he =>
   intro hb
   have ha:a<x.size:=kd_lt (by omega)
   have hl:Pl.let4 x a=(true,b):=he;have e1:=let4_end h hb hl hs;have e2:=h.at_ a ha
   have e3:(hdV s 1 (m+a)).nm=(hdV x 1 a).nm:=by
    show sub s (m+a) (Pl.let4 s (m+a)).2=sub x a (Pl.let4 x a).2
    rw [e1,hl];exact sub_win h hb
   rw [mkQ_nil,←e3,←mkQ_nil (hdV s 1 (m+a)) (hcs s 1 (m+a))]
   exact .tab (by rw [e2];exact hk) e1
 | @one f a b c q hk he hb40 hq hc ih =>
   intro hb
   have hk1:Pl.kd (Pl.bt x a)≠1:=fun e=>by rw [e] at hk;exact absurd hk (by decide)
   have ha:a<x.size:=kd_lt fun e=>by rw [e] at hk;exact absurd hk (by decide)
   have hbl:=Pl.bt_lt (s:=x) (a:=b) (by omega)
   have hcl:=Pl.bt_lt (s:=x) (a:=c) (by omega)
   have e2:=h.at_ a ha;obtain ⟨w1,w2,w3⟩:=head_win h hk1 he hbl
   have ih2:=ih (by omega)
   rw [←w2,←w3,←e2];rw [←e2] at hk w1
   have hz:m+(c+1)=(m+c)+1:=by omega
   have hz2:m+(b+1)=(m+b)+1:=by omega
   rw [hz2] at ih2;rw [hz];exact .one hk w1 ((h.at_ b hbl).trans hb40) ih2 ((h.at_ c hcl).trans hc)
 | @two f a b c d q r hk he hb40 hq hc hr hd ih1 ih2 =>
   intro hb
   have hk1:Pl.kd (Pl.bt x a)≠1:=fun e=>by rw [e] at hk;exact absurd hk (by decide)
   have ha:a<x.size:=kd_lt fun e=>by rw [e] at hk;exact absurd hk (by decide)
   have hbl:=Pl.bt_lt (s:=x) (a:=b) (by omega)
   have hcl:=Pl.bt_lt (s:=x) (a:=c) (by omega)
   have hdl:=Pl.bt_lt (s:=x) (a:=d) (by omega)
   have e2:=h.at_ a ha;obtain ⟨w1,w2,w3⟩:=head_win h hk1 he hbl
   have i1:=ih1 (by omega)
   have i2:=ih2 (by omega)
   rw [←w2,←w3,←e2];rw [←e2] at hk w1
   have hz:m+(d+1)=(m+d)+1:=by omega
   have hz2:m+(b+1)=(m+b)+1:=by omega
   have hz3:m+(c+1)=(m+c)+1:=by omega
   rw [hz2] at i1;rw [hz3] at i2;rw [hz];exact .two hk w1 ((h.at_ b hbl).trans hb40) i1 ((h.at_ c hcl).trans hc) i2 ((h.at_ d hdl).trans hd)
theorem Rq.same {s:ByteArray} {f a b:Nat} {q:Q} (h:Rq s f a b q):∀ {f' b':Nat} {q':Q},Rq s f' a b' q'→b'=b∧q'=q:=by
 induction h with
 | @tab f a b hk he =>
   intro f' b' q' k
   cases k with
   | tab hk' he'=>rw [he] at he';injection he' with _ e;exact ⟨e.symm,rfl⟩
   | one hk'=>rw [hk] at hk';exact absurd hk' (by decide)
   | two hk'=>rw [hk] at hk';exact absurd hk' (by decide)
 | @one f a b c q hk he hb hq hc ih =>
   intro f' b' q' k
   cases k with
   | tab hk'=>rw [hk'] at hk;exact absurd hk (by decide)
   | one hk' he' hb' hq' hc' =>
     rw [he] at he'
     injection he' with _ e
     subst e;obtain ⟨e1,e2⟩:=ih hq';subst e1 e2;exact ⟨rfl,rfl⟩
   | two hk'=>omega
 | @two f a b c d q r hk he hb hq hc hr hd ih1 ih2 =>
   intro f' b' q' k
   cases k with
   | tab hk'=>rw [hk'] at hk;exact absurd hk (by decide)
   | one hk'=>omega
   | two hk' he' hb' hq' hc' hr' hd' =>
     rw [he] at he'
     injection he' with _ e
     subst e;obtain ⟨e1,e2⟩:=ih1 hq';subst e1 e2;obtain ⟨e3,e4⟩:=ih2 hr';subst e3 e4;exact ⟨rfl,rfl⟩
open Go.RowKit Go.Shelf Go.Deep
open Mo (V Row Bag cnt canon Eqv OkB OkD neg Nr Q leaves bagQ tyQ wf joins TOk wv ty Tab)
theorem chk_rq (s:ByteArray) (w:World) (h:(Pl.chk s).1=0):∃ q,Rq s 6 0 s.size q∧s.size≤120:=by
 obtain ⟨e0,w0,_,⟨_,⟨hn,_⟩ | ⟨_,pp0,Y0,q,_,_,_,hr,hs1,_⟩⟩,_⟩:=readQuery_any s w []
 ·exact absurd h hn
 ·exact ⟨q,hr,hs1⟩
theorem view_rq {st:Mo.Ses} {s:ByteArray} (w:World) (h:(viewM st s).1.2.2=0):∃ q,Rq s 6 0 s.size q∧s.size≤120∧viewM st s=(((st.views.length:Int),bagTxt (Mo.bagS st.tabs q),0),⟨st.tabs,st.views++[q]⟩):=by
 unfold viewM at h ⊢
 by_cases hc:(Pl.chk s).1≠0
 ·rw [if_pos hc] at h
  exact absurd (show ((Pl.chk s).1:Int)=0 from h) (by omega)
 ·rw [if_neg hc] at h ⊢
  obtain ⟨q,hr,hs⟩:=chk_rq s w (by omega)
  by_cases h6:st.views.length=6
  ·rw [if_pos h6] at h;exact absurd (show (4:Int)=0 from h) (by decide)
  ·rw [if_neg h6] at h ⊢
   rw [rdQ_of hr] at h ⊢
   simp only at h ⊢
   by_cases h1:((leaves q).all fun nm=>(Mo.tabT st.tabs nm).isSome)=true
   ·rw [if_pos h1] at h ⊢
    cases ht:tyQ (Mo.ftT st.tabs) q with
    | none=>rw [ht] at h;exact absurd (show (6:Int)=0 from h) (by decide)
    | some ts=>exact ⟨q,hr,hs,rfl⟩
   ·rw [if_neg h1] at h;exact absurd (show (5:Int)=0 from h) (by decide)
theorem Win.more {s x:ByteArray} {m:Nat} (h:Win s x m) (y:ByteArray):Win (s++y) x m:=⟨fun j hj=>by rw [bt_append_left (by have:=h.right;omega)];exact h.at_ j hj,by have:=h.right;rw [ByteArray.size_append];omega⟩
open Go.RowKit
open Go.RowKit Go.Shelf
end Go.Proofs.YtdinjjmcmfjbfaaGreatDoor
