import Derived.Test.YtdinjjmcmfjbfaaGreatDoorGenJ
import Derived.Test.YtdinjjmcmfjbfaaGreatDoorRqJ
import Derived.Shelf.SlMaps.Clone
set_option maxRecDepth 100000
set_option maxHeartbeats 4000000
namespace Go.Proofs.YtdinjjmcmfjbfaaGreatDoor
open Go.RowKit Go.Shelf Mo Pl Tryz
theorem Yk {α:Type}[Inhabited α](enc:α→List Value)(k:Nat)(w:World)(blk a n:Nat)(d:Array α)(os:Array Obj){i:Nat}(hi:i<w.heap.size)(b:i≠blk):(sortWorldK enc k w blk a n d os).heap[i]? =w.heap[i]? :=by
 unfold sortWorldK;have c:(Sort.putRowK enc k (Sort.ahead w n) blk a d).heap.size=w.heap.size:=by simp[Sort.putRowK,Sort.putRow,Sort.mapBlock,Sort.ahead]
 rw[Sort.heap_grow_old _ _ (by rw[c];exact hi)];simp[Sort.putRowK,Sort.putRow,Sort.mapBlock,Sort.ahead,Array.getElem?_modify,Ne.symm b]
theorem Qz {α:Type}[Inhabited α](enc:α→List Value)(k:Nat)(w:World)(blk a n:Nat)(d:Array α)(os:Array Obj):w.heap.size≤(sortWorldK enc k w blk a n d os).heap.size:=by
 simp[sortWorldK,Sort.putRowK,Sort.putRow,Sort.mapBlock,Sort.ahead]
abbrev AJ (us:List Bool):={ r:Row // Ge r∧r.map Mo.ty=us }
def O9 {us:List Bool}(x:AJ us):List Value:=(Ai x.1).toList
def NR {us:List Bool}(x y:AJ us):Int:=Sx x.1 y.1
section
variable {us:List Bool}
theorem qY (x y:AJ us):ltOf NR x y=Ju x.1 y.1:=by
 show decide (Sx x.1 y.1<0)=Ju x.1 y.1;unfold Sx;cases hr:Ju x.1 y.1
 ·simp only[Bool.false_eq_true,if_false];split <;> rfl
 rfl
theorem iX:Sort.SWO (ltOf (NR (us:=us))) where
 irrefl x:=by rw[qY];exact Do.irrefl _
 trans x y z h1 h2:=by rw[qY] at *;exact Do.trans _ _ _ h1 h2
 ntrans x y z h1 h2:=by
  rw[qY] at *;cases hr:Ju x.1 z.1
  ·rfl
  exfalso;cases a:Ju y.1 x.1
  ·have e:=Do.tri _ _ h1 a;rw[e] at hr;rw[hr] at h2;cases h2
  have:=Do.trans _ _ _ a hr;rw[h2] at this;cases this
theorem sB (x y:AJ us)(a:ltOf NR x y=false)(b:ltOf NR y x=false):x=y:=by
 rw[qY] at a b;exact Subtype.ext (Do.tri _ _ a b)
def Lu (l:Bag):List Row:=(Ad l).map (·.1)
theorem Ug {l:Bag}(d b:List (AJ us))(i:BH (Cr l) (d.map (·.1)))(p:∀r,cnt l r≠0→wrap64 (cnt l r)≠0)(hp:b.Perm d)(q:b.Pairwise (fun x y=>(!(ltOf NR) y x)=true)):b.map (·.1)=Lu l:=by
 have s:d.Pairwise (fun x y=>x.1≠y.1):=List.pairwise_map.1 i.1;have t:b.Pairwise (fun x y=>x.1≠y.1):=(hp.pairwise_iff (fun {x y} u e=>u e.symm)).2 s;have v:b.Pairwise (fun x y=>Ju x.1 y.1=true):=by
  refine (q.and t).imp (fun {x y} ⟨f,w⟩=>?_);rw[qY] at f;cases hr:Ju x.1 y.1
  ·exact absurd (Do.tri _ _ hr (by simpa using f)) w
  rfl
 have z:∀r,(Cr l r).isSome=true→cnt l r≠0:=fun r h e=>by unfold Cr at h;rw[e] at h;simp[Cn] at h
 have A:∀y∈b,cnt l y.1≠0:=fun y a=>z _ ((i.2 y.1).1 (uA.2 ⟨y,hp.mem_iff.1 a,rfl⟩));have B:∀c:List (AJ us),(∀j∈c,cnt l j.1≠0)→c.Pairwise (fun x y=>Ju x.1 y.1=true)→Ck (c.map (fun y=>(y.1,cnt l y.1))):=by
  intro c;induction c with
  |nil=>intro _ _;trivial
  |cons j c C =>intro m g;have n:=vZ.1 g;exact⟨fun x k=>by obtain⟨y,a,rfl⟩:=uA.1 k;exact n.1 y a,m j (by simp),C (fun y a=>m y (by simp[a])) n.2⟩
 have o:=B b A v;have D:b.map (fun y=>(y.1,cnt l y.1))=Ad l:=by
  refine o.uniq (Ap l) (fun r=>?_);rw[Aq];by_cases hr:∃y∈b,y.1=r
  ·obtain⟨y,a,rfl⟩:=hr;exact o.Df (x:=(y.1,cnt l y.1)) (uA.2 ⟨y,a,rfl⟩)
  rw[Dq (fun x k e=>by obtain⟨y,a,rfl⟩:=uA.1 k;exact hr ⟨y,a,e⟩)];by_cases g:cnt l r=0
  ·exact g.symm
  exfalso;have f:(Cr l r).isSome=true:=by unfold Cr;rw[if_neg (p r g)];rfl
  obtain⟨y,a,e⟩:=uA.1 ((i.2 r).2 f);exact hr ⟨y,hp.mem_iff.2 a,e⟩
 unfold Lu;rw[←D,vS];rfl
end
def NS (w:World)(v:Value)(ys:List Row):Prop :=
 (v=.slice none 0 0∧ys=[])∨∃g cap,v=.slice (some ⟨g,0,none⟩) ys.length cap∧ys.length≤cap∧cap≤maxLen∧g<w.heap.size∧∀(i:Nat) (y:Row),ys[i]? =some y→w.rangeAt g (i*37) (Ai y).toList
theorem BI:∀(xs:List Row) (i:Nat) (x:Row),xs[i]? =some x→∀(j:Nat) (a:Value),(Ai x).toList[j]? =some a→(Mu xs)[i*37+j]? =some a
 | [],i,x,h=>by simp at h
 |y::xs,0,x,h=>fun j a b=>by
  have:y=x:=by simpa using h
  subst this;show ((Ai y).toList++Mu xs)[0*37+j]? =_;rw[xL,uL,uD (tR.1 b).1];exact b
 |y::xs,i+1,x,h=>fun j a b=>by have c:=BI xs i x (by simpa using h) j a b;show ((Ai y).toList++Mu xs)[(i+1)*37+j]? =_;rw[uC (by rw[Lt];omega),Lt,show (i+1)*37+j-37=i*37+j by omega];exact c
theorem EH {us:List Bool}[Inhabited (AJ us)]{w1:World}{g:Nat}{b:Array Value}{t:TypeId}(d:List (AJ us))(hg:C2 w1 g b t)(e:b.toList.take (d.length*37)=Mu (d.map (·.1))):Sort.HoldsK O9 37 w1 g 0 d.toArray:=by
 intro j c;rw[Sort.size_flatK] at c;have m:j<d.length*37:=by simpa using c
 refine⟨?_,Am hg _⟩;rw[Sort.get_flatK _ _ _ _ c,uL,Af hg];have hi:j / 37<d.length:=by omega
 have e1:d.toArray[j / 37]! =d[j / 37]:=by simp[hi]
 rw[e1];have e2:(d.map (·.1))[j / 37]? =some d[j / 37].1:=by simp[hi]
 have f:j % 37<(Ai d[j / 37].1).toList.length:=by rw[Lt];omega
 have a:=BI _ _ _ e2 (j % 37) _ (tT f);rw[←e,uQ] at a;have h:j / 37*37+j % 37<d.length*37:=by omega
 rw[if_pos h] at a;have i:j / 37*37+j % 37=j:=by omega
 rw[i] at a;have k:b[j]? =some (Ai d[j / 37].1).toList[j % 37]:=by rw[←uZ];exact a
 rw[k];have l:j % 37<(Ai d[j / 37].1).size:=by rw[Bd];omega
 simp[O9,Array.getElem?_eq_getElem l]
theorem JD {us:List Bool}(b:Nat)(l:Bag)(w:World)(h:Ak w b l)(T:∀r,cnt l r≠0→wrap64 (cnt l r)≠0)(U:∀r,cnt l r≠0→Ge r∧r.map Mo.ty=us)(_:(Ad l).length≤100000000000)(z:Nat)(an:z<w.heap.size)(V:C3 w z 0 (.map (some b))) :
 Calls prog 68 #[.func (.func 119) #[] #[C1 z],.func (.func 70) #[] #[]] w fun e w' =>
  ∃v,e=.returned v∧NS w' v (Lu l)∧Ab No w w':=by
 have L:lU (Cr l) (Ad l).length:=⟨Lu l,by simp[Lu],fun k q=>by
  have W:cnt l k≠0:=fun e=>by unfold Cr at q;rw[e] at q;simp[Cn] at q
  rw[←Aq] at W;obtain⟨x,f,rfl⟩:=Ck.Cq W;exact uA.2 ⟨x,f,rfl⟩⟩
 have X:=NO Fence.wide 9 trivial rfl (by omega) z b (Ad l).length (Cr l) L w an V h.2;have M:=Ae (V6 #[C1 z] (BH (Cr l)) (Ad l).length (by omega) w X);have Y:xR (∀xs,BH (Cr l) xs→xs.length≤100000000000):=fun xs f=>by obtain⟨ks,G,A⟩:=L;have B:=Dl f.1 (fun k q=>A _ ((f.2 k).1 q));omega
 have Z:xR (∀xs,BH (Cr l) xs→∀x∈xs,Ge x∧x.map Mo.ty=us):=fun xs f x C=>U x fun e=>by have q:=(f.2 x).1 C;unfold Cr at q;rw[e] at q;simp[Cn] at q
 have aa:=Ae T;clear X V L h U T;go_enter func68,ntmps68;go_wp21;go_call M.o as e w1 ⟨v,xs,rfl,f,ab,H,u⟩;have s:Ab No w w1:=⟨u.os,u.tape,u.output,u.size,fun i hi _=>u.block i hi⟩;have ao:=Ae s;have ap:=Ae f;cases xs with
 |nil =>obtain rfl:=H.2 rfl;have aq:xR (Lu l=[]):=(Ug (us:=us) [] [] f aa.o (List.Perm.refl _) List.Pairwise.nil).symm;clear ab H u s f M;go_wp21;go_call AnyF.slices_SortFunc_none Tryz.EG none 0 _ _ as e ar ⟨rfl,rfl⟩;go_wp21;go_ret;exact⟨_,rfl,.inl ⟨rfl,aq.o⟩,ao.o⟩
 |cons m t =>
  have N:∀x∈m::t,Ge x∧x.map Mo.ty=us:=Z.o _ f;obtain⟨d,I⟩:∃d:List (AJ us),d.map (·.1)=m::t:=⟨(m::t).pmap (fun x p=>⟨x,p⟩) N,by simp[List.map_pmap]⟩
  haveI:Inhabited (AJ us):=⟨⟨m,N m (by simp)⟩⟩
  have J:d.length=(m::t).length:=by rw[←I];simp
  rcases ab with ⟨_,⟨rfl,_⟩|⟨g,cap,au,rfl,av,hg,ac,ad,aw,ae⟩⟩
  ·exact absurd (H.1 rfl) (by simp)
  have af:au.toList.take (d.length*37)=Mu (d.map (·.1)):=by rw[J,I];exact ae
  have C:BH (Cr l) (d.map (·.1)):=by rw[I];exact f
  have O:Sort.HoldsK O9 37 w1 g 0 d.toArray:=EH d hg af;have P:=Aa hg;have ag:CmpLays prog 70 #[] (O9 (us:=us)) 37 NR g 0 d.toArray.size w1:=by intro k os ax ba x y;have G:=IZ x.1 y.1 x.2.1 y.2.1 (x.2.2.trans y.2.2.symm) (sortWorldK O9 37 w1 g 0 k ax os);have e1:(#[Value.agg (O9 x).toArray,.agg (O9 y).toArray]++#[]:Array Value)=#[.agg (Ai x.1),.agg (Ai y.1)]:=(by simp[O9]);rw[e1];exact G.mono fun e w' ⟨A,B⟩=>⟨A,B⟩
  have ay:d.length≤100000000000:=by have:=Y.o _ C;simpa using this
  have D:=AnyQ.slices_SortFunc_total Tryz.EG 37 isAgg154 sizeOf154 (O9 (us:=us)) (fun x=>Lt x.1) (fun x v hv=>by have:=Ht x.1;rw[wQ] at this;exact this v (by simpa [O9] using hv)) NR iX 70 #[] g 0 cap d.toArray w1
   (enters_of func70 (by kernel_rfl) rfl) ag O P (by simp;omega) sB
  change Calls prog 118 _ _ _ at D;have ah:d.toArray.size=(m::t).length:=by simpa using J
  rw[ah] at D;have E:(d.toArray.toList.mergeSort fun x y=> !(ltOf NR) y x).Perm d:=by simpa using List.mergeSort_perm d _
  have Q:(d.toArray.toList.mergeSort fun x y=> !(ltOf NR) y x).Pairwise (fun x y=>(!(ltOf NR) y x)=true):=by
   refine List.pairwise_mergeSort (fun a b c G A=>?_) (fun a b=>?_) _
   ·have az:ltOf NR b a=false:=(by simpa using G);have a0:ltOf NR c b=false:=(by simpa using A);simp[iX.ntrans c b a a0 az]
   cases a1:ltOf NR a b
   ·simp
   have:=iX.trans a b a a1;cases a2:ltOf NR b a
   ·simp
   have B:=this a2;rw[iX.irrefl] at B;cases B
  generalize (d.toArray.toList.mergeSort fun x y=> !(ltOf NR) y x)=o at D E Q;have ai:(m::t).length≤cap:=ac;have K:o.map (·.1)=Lu l:=Ug d o C aa.o E Q;have R:o.length=(m::t).length:=by rw[E.length_eq,J]
  have a3:xR (∀n os,NS (sortWorldK O9 37 w1 g 0 n o.toArray os) (.slice (some ⟨g,0,none⟩) (m::t).length cap) (Lu l)∧Ab No w (sortWorldK O9 37 w1 g 0 n o.toArray os)):=by
   refine Ae ?_;intro n os
   have a4:Ab No w (sortWorldK O9 37 w1 g 0 n o.toArray os) :=
    ⟨s.os,s.tape,s.output,uJ s.size (Qz _ _ _ _ _ _ _ _),fun i hi _=>(Yk _ _ _ _ _ _ _ _ (tU hi s.size) (by omega)).trans (s.block i hi xT)⟩
   have a5:Sort.HoldsK O9 37 (sortWorldK O9 37 w1 g 0 n o.toArray os) g 0 o.toArray:=by
    unfold sortWorldK;refine Sort.holdsK_grow O9 37 _ _ _ _ _ ?_ ?_
    ·simpa [Sort.putRowK,Sort.putRow,Sort.mapBlock,Sort.ahead] using P
    exact Sort.holdsK_putRowK O9 37 _ _ _ d.toArray _ (Sort.holdsK_ahead O9 37 _ _ _ _ _ O) (by simp[E.length_eq])
   refine⟨.inr ⟨g,cap,by rw[←K,tZ,R],by rw[←K,tZ,R];exact ai,ad,tU P (Qz _ _ _ _ _ _ _ _),fun i y S=>?_⟩,a4⟩;rw[←K] at S;obtain⟨F,aj,rfl⟩:∃F,o[i]? =some F∧F.1=y:=(by rw[tX] at S;exact uK.1 S);have hi:=(tR.1 aj).1;have e1:o.toArray[i]! =F:=(by simp[hi,(List.getElem?_eq_some_iff.1 aj).2]);intro j bb ak;have al:j<37:=(by have:=(tR.1 ak).1;rw[Lt] at this;exact this);have am:=(Sort.HoldsK.cell a5 (i:=i) (c:=j) (by simpa using hi) al).1;rw[e1,uL] at am;rw[am];have a6:j<(Ai F.1).size:=(by rw[Bd];exact al);obtain⟨_,rfl⟩:=tR.1 ak;simp[O9,Array.getElem?_eq_getElem a6]
  have a7:=Ae D;clear D ag O N I ae af aw H f C M E Q K R ah J ac ad ai ap ay Y u s hg av Z;generalize (m::t).length=nn at *;go_wp21;go_call a7.o as e ar ⟨rfl,n,os,rfl⟩;go_wp21;go_ret;obtain⟨a8,a9⟩:=a3.o n os;exact⟨_,rfl,a8,a9⟩
def Kn:V→List UInt8
 | .num n=>Lib.itoa n
 | .txt s=>s
def Uh (w:World):Prop:=Lib.TabIs prog w "internal/strconv.uint64pow10" .u64 Lib.pow10Tab
def Eo (w:World)(B:Nat)(v:Value)(t:List UInt8):Prop:=w.ownsRow B 5 1 v t.length (Lib.byteCells t)
theorem NT:(prog.info? 5).map (fun i=>(i.zero,i.size,i.bytes))=some (some (.int .u8 0),1,1):=by kernel_rfl
theorem Yl (s:List UInt8)(j:Nat)(a:j<4):(Wn s)[j]? =some (s.getD j 0):=by
 match j,a with
 |0,_|1,_|2,_|3,_=>rfl
theorem EI (b o cap:Nat)(s:List UInt8)(w:World)(q:s.length≤4)(g:∀c∈s,97≤c.toNat∧c.toNat≤122)(a:∀(j:Nat) (c:UInt8),(Wn s)[j]? =some c→C3 w b (o+j) (.int .u8 (c.toNat:Int)))(_:4≤cap)(_:cap≤1000) :
 Calls prog 192 #[.slice (some ⟨b,o,none⟩) 4 cap,.int .u8 0] w fun e w'=>e=.returned (.slice (some ⟨b,o,none⟩) s.length cap)∧Ab No w w':=by
 obtain⟨n,d⟩:∃n,s.length=n:=⟨_,rfl⟩;have h:=Ae d;have i:=Ae a;have r:=Ae g;rw[d] at q⊢;clear d a g;go_enter func192,ntmps192;go_wp21;go_loopg [0] (4-n) (fun k t wr=>∃m:Nat,m=n+k∧m≤4∧t=.slice (some ⟨b,o,none⟩) m cap∧wr=w)
 case atStart=>exact⟨4,by omega,by omega,rfl,rfl⟩
 obtain⟨m,f,_,rfl,rfl⟩:=hrel;cases gk with
 |zero =>
  obtain rfl:m=n:=by omega
  clear f;by_cases l:m=0
  ·subst l;go_wp21;go_ret;exact⟨rfl,Ab.refl _ _⟩
  obtain⟨m,rfl⟩:∃k,m=k+1:=⟨m-1,by omega⟩;obtain⟨c,a⟩:∃c,s[m]? =some c:=⟨_,tT (by have:=h.o;omega)⟩;have u:=r.o c (tV a);have p:C3 wr b (o+m) (.int .u8 (c.toNat:Int)):=i.o m c (by rw[Yl s m (by omega),uH,a];rfl);have e1:((c.toNat:Int) == 0)=false:=by simp;omega
  generalize (c.toNat:Int)=x at p e1;clear l u a;go_wp21;go_ret;exact⟨rfl,Ab.refl _ _⟩
 |succ k =>
  obtain⟨m,rfl⟩:∃j,m=j+1:=⟨m-1,by omega⟩;have p:C3 wr b (o+m) (.int .u8 0):=i.o m 0 (by rw[Yl s m (by omega),uH,vK (by have:=h.o;omega)];rfl);have y:(m:Int)≤(cap:Int):=by omega
  have v:=Ae f;clear f;go_wp21;go_roundg k
  case measure=>omega
  exact⟨m,by have:=v.o;omega,by omega,rfl,rfl⟩
theorem bM (b o cap:Nat)(s:List UInt8)(w:World)(g:s.length≤4)(a:∀c∈s,97≤c.toNat∧c.toNat≤122)(d:∀(j:Nat) (c:UInt8),(Wn s)[j]? =some c→C3 w b (o+j) (.int .u8 (c.toNat:Int)))(h:4≤cap)(i:cap≤1000) :
 Calls prog 157 #[.slice (some ⟨b,o,none⟩) 4 cap,.string ⟨#[0]⟩] w fun e w'=>e=.returned (.slice (some ⟨b,o,none⟩) s.length cap)∧Ab No w w':=by
 have k:=Ae (EI b o cap s w g a d h i);clear d a;go_enter func157,ntmps157;go_wp21;go_call k.o as e w1 ⟨rfl,f⟩;have l:=Ae f;clear f;go_wp21;go_ret;exact⟨rfl,l.o⟩
theorem JE (w:World)(v:V):∀j x,(A2 v)[j]? =some x→(w.alloc (.cells (A2 v).toArray 133)).cell? ⟨w.heap.size,0+j,none⟩=some x:=fun j x a=>by
 rw[uL,Af (heap_alloc_last _ _),vV];exact a
def W8 (B:Nat)(w w':World):Prop:=Ab (fun k=>B≤k∧Is 5 w k) w w'
section
variable {B:Nat} {a w w':World}
theorem W8.refl (B:Nat)(w:World):W8 B w w:=Ab.refl _ _
theorem W8.below (h:W8 B w w')(hB:B≤w.heap.size):Below B w w':=⟨h.os,h.tape,h.output,h.size,fun i hi=>h.block i (by omega) (fun e=>by omega)⟩
theorem W8.of (h:Below B w w')(k:Lib.OthersKept 5 none w w'):W8 B w w':=⟨h.os,h.tape,h.output,h.size,fun i hi a=>by
 by_cases b:i<B
 ·exact h.block i b
 obtain⟨o,ho⟩:∃o,w.heap[i]? =some o:=⟨_,uG hi⟩;rw[ho];refine k i o ho (fun e=>by cases e) fun c fz e=>a ⟨by omega,c,fz,by rw[ho,e]⟩⟩
theorem W8.trans (h:W8 B a w)(k:W8 B w w'):W8 B a w':=Ab.trans h k (fun _ e=>e) fun i hi e=>by
 refine⟨e.1,?_⟩;by_cases b:B≤i∧Is 5 a i
 ·exact b.2
 obtain⟨c,d,f⟩:=e.2;exact⟨c,d,(h.block i hi b).symm.trans f⟩
theorem W8.kept (h:Ab No w w'):W8 B w w':=h.mono fun _ _ e=>e.elim
theorem W8.grown (h:W8 B a w){sv:Value}{n:Nat}{xs:List Value}(ho:w.ownsRow B 5 1 sv n xs)(hg:w.grownBy w' sv.ownBlock):W8 B a w':=h.trans ((Ab.refl _ _).grown hg fun x b=>.inr ⟨Bk ho x b,Lo ho x b⟩)
end
def JF (B:Nat)(t u:List UInt8)(w:World)(e:Ending)(w':World):Prop:=∃v',e=.returned v'∧Eo w' B v' (t++u)∧W8 B w w'
theorem VF (v:V)(hv:Mh v)(B:Nat)(sv:Value)(t:List UInt8)(w:World)(f:Eo w B sv t)(hB:B≤w.heap.size)(_:t.length≤100000000000000)(h:Lib.TabBelow prog B w "internal/strconv.uint64pow10" .u64 Lib.pow10Tab) :
 Calls prog 121 #[Ex v,sv] w (JF B t (Kn v) w):=by
 cases v with
 |num n =>
  have x:xR (∀w1,Below B w w1→Eo w1 B sv t→B≤w1.heap.size→Calls prog 72 #[sv,.int .i64 n,.int .i64 10] w1 fun e w'=>∃v',e=.returned v'∧w'.ownsRow B 5 1 v' (t.length+(Lib.itoa n).length) (Lib.byteCells t++Lib.byteCells (Lib.itoa n))∧Below B w1 w'∧Lib.OthersKept 5 none w1 w') :=
   fun w1 g ho J=>Tryz.strconv_AppendInt_10 B t.length n hv.1 hv.2 sv (Lib.byteCells t) w1 ho J (by omega) (h.on g)
  have i:=Ae f;clear h f;show Calls prog 121 #[.agg #[D4,C4,C4,C4,C4,.int .i64 n],sv] w (JF B t (Lib.itoa n) w);go_enter func121,ntmps121;go_wp21;go_call x.o _ ((Below.refl B w).alloc hB _) (i.o.alloc _) (by simp;omega) as e w1 ⟨v',rfl,ho,g,y⟩;have K:xR (Eo w1 B v' (t++Lib.itoa n)):=by show w1.ownsRow B _ 1 v' (t++Lib.itoa n).length (Lib.byteCells (t++Lib.itoa n));rw[tS,Lib.byteCells_append];exact ho
  have k:xR (W8 B w w1):=(W8.kept ((Ab.refl No w).alloc _)).trans (W8.of g y);clear ho g y x;go_wp21;go_ret;exact⟨_,rfl,K.o,k.o⟩
 |txt s =>
  have z:=JE w (.txt s);have l:=Sy (v:=.txt s) rfl z;have m:=Ae (bM w.heap.size 1 4 s (w.alloc (.cells (A2 (.txt s)).toArray 133)) hv.2.1 hv.2.2 (fun j c o=>by have:=l j c o;rw[uL] at this;exact this) (by omega) (by omega));have i:=Ae f;have L:=Ae l;obtain⟨M,N,O,P,Q⟩:=info_parts NT;clear h f z l;show Calls prog 121 #[.agg #[.int .i32 1,E1 (.txt s) 0,E1 (.txt s) 1,E1 (.txt s) 2,E1 (.txt s) 3,.int .i64 0],sv] w (JF B t s w);change xR (Calls prog 157 #[.slice (some ⟨w.heap.size,1,none⟩) 4 4,.string ⟨#[0]⟩] (w.alloc (.cells #[.int .i32 1,E1 (.txt s) 0,E1 (.txt s) 1,E1 (.txt s) 2,E1 (.txt s) 3,.int .i64 0] 133)) _) at m;go_enter func121,ntmps121;go_wp21;go_call m.o as e w1 ⟨rfl,a⟩;have A:w.heap.size<(w.alloc (.cells #[.int .i32 1,E1 (.txt s) 0,E1 (.txt s) 1,E1 (.txt s) 2,E1 (.txt s) 3,.int .i64 0] 133)).heap.size:=by simp
  replace a:Ab No (w.alloc (.cells #[.int .i32 1,E1 (.txt s) 0,E1 (.txt s) 1,E1 (.txt s) 2,E1 (.txt s) 3,.int .i64 0] 133)) w1:=a;have Y:w.heap.size≤w1.heap.size:=by have:=a.size;omega
  have C:∀(j:Nat) (b:Value),(Lib.byteCells s)[j]? =some b→w1.cell? (Addr.add ⟨w.heap.size,1,none⟩ j)=some b:=fun j b d=>by
   unfold Lib.byteCells at d;rw[tX] at d;obtain⟨c,D,rfl⟩:=uK.1 d;have o:j<4:=(by have:=(tR.1 D).1;have:=hv.2.1;omega);have E:=L.o j c (by rw[Yl s j o,uH,D];rfl);have p:w1.cell? ⟨w.heap.size,1+j,none⟩=some (.int .u8 (c.toNat:Int)):=(by rw[a.cell A xT];rw[uL] at E;exact E);unfold Addr.add;split
   ·next R=>rw[R] at p;exact p
   exact p
  have F:W8 B w w1:=W8.kept (((Ab.refl No w).alloc _).seq a);have q:w1.ownsRow B 5 1 sv t.length (Lib.byteCells t):=Br (i.o.alloc _) a (fun _ _ e=>e);have k:=Ae F;have S:s.length≤4:=hv.2.1;have G:(Lib.byteCells s).length=s.length*1:=by simp[Lib.byteCells]
  have T:∀b∈Lib.byteCells s,b.oneCell'=true:=by intro b d;unfold Lib.byteCells at d;obtain⟨c,_,rfl⟩:=uA.1 d;rfl
  obtain⟨r,u⟩:∃r,s.length=r:=⟨_,rfl⟩;have U:=Ae u;rw[u] at G S⊢;clear a m A F u;go_wp2_with (first
   |(at_builtin;refine wpList_append_own_at _ rfl _ _ 149 rfl B 5 M (.int .u8 0) 1 1 underlying149 N O P Q rfl (by decide) _ _ _ rfl q ⟨w.heap.size,1,none⟩ r 4 (Lib.byteCells s) rfl G C T (by unfold maxLen;omega) (by omega) (by omega) ?_;intro v' w5 H I _ _)
   |fail)
  have hg:w1.grownBy w5 sv.ownBlock:=I;have W:xR (W8 B w w5):=k.o.grown q hg;have X:=Ae H;clear hg I H q C;go_ret;refine⟨_,rfl,?_,W.o⟩;show w5.ownsRow B _ 1 _ (t++s).length (Lib.byteCells (t++s));rw[tS,Lib.byteCells_append,U.o];exact X.o
theorem NU (b:Nat)(es:Array MapEntry)(a:Nat)(w:World)(c:w.heap[b]? =some (.map es a)) :
 Calls prog 115 #[.map (some b)] w fun e w'=>e=.returned (.map (some w.heap.size))∧w'=w.alloc (.map es a):=by
 have d:=fun w=>run_eql_map_nil_sl (P:=prog) w 83 _ _ (some b) underlying83;go_enter func115,ntmps115;go_wp2;rw[run_callFunc_extern func151 (by kernel_rfl) (by kernel_rfl) (by kernel_rfl) (e:=Extern.MapsClone.clone) (by kernel_rfl),run_maps_clone_sl w 83 c];simp only[Result.andThen];rw[Oper.upon_value];go_wp2;rw[run_typeAssert_map_sl _ 83 _ _ _ _ underlying83];simp only[Result.andThen];rw[Oper.upon_value];go_wp2;go_ret;exact⟨rfl,rfl⟩
theorem VH (w:World):Calls prog 115 #[.map none] w fun e w'=>e=.returned (.map none)∧w'=w:=by
 have a:=fun w=>run_eql_map_nil_sl (P:=prog) w 83 _ _ none underlying83;go_enter func115,ntmps115;go_wp2;go_ret;exact⟨rfl,rfl⟩
theorem BJ (v:Value)(l:Bag)(w:World)(h:E6 w v l) :
 Calls prog 115 #[v] w fun e w'=>∃v',e=.returned v'∧E6 w' v' l∧((v'=.map none∧v=.map none)∨v'=.map (some w.heap.size))∧w.heap.size≤w'.heap.size∧Ab No w w':=by
 rcases h with ⟨rfl,rfl⟩|⟨b,rfl,h⟩
 ·go_call VH w as e w' ⟨rfl,rfl⟩;exact⟨_,rfl,.inl ⟨rfl,rfl⟩,.inl ⟨rfl,rfl⟩,tY _,Ab.refl _ _⟩
 obtain⟨c,D,⟨es,a,d,f⟩,g⟩:=h;go_call NU b es a w d as e w' ⟨rfl,rfl⟩;refine⟨_,rfl,.inr ⟨_,rfl,c,D,⟨es,a,heap_alloc_last _ _,f⟩,g⟩,.inr rfl,by simp,(Ab.refl _ _).alloc _⟩
theorem NV (a:Nat)(w:World) :
 Calls prog 116 #[.map (some a),.map none] w fun e w'=>e=.returned (.tuple #[])∧Ab No w w':=by
 have b:=run_range_nilMap (P:=prog) w 83 154 2 underlying83;have c:∀ty,(Instr.next (C1 w.heap.size) false ty).run prog (w.alloc (.mapIter none 0 #[] 0))=_:=fun ty=>run_next_nilMap w ty 0 0 #[];go_enter func116,ntmps116;go_wp21;refine wp_loop_rounds 1 ?_;rw[rounds_succ];go_wp21;go_end0;exact⟨rfl,(Ab.refl _ _).alloc _⟩
theorem E6.is {w:World}{v:Value}{l:Bag}(h:E6 w v l):∃m,v=.map m:=by
 rcases h with ⟨rfl,_⟩|⟨b,rfl,_⟩ <;> exact⟨_,rfl⟩
theorem E6.eqv {w:World}{v:Value}{l a:Bag}(h:E6 w v l)(e:A9 l a)(c:l=[]→a=[])(d:∀x∈a,Ge x.1):E6 w v a:=by
 rcases h with ⟨rfl,h⟩|⟨b,rfl,h⟩
 ·exact .inl ⟨rfl,c h⟩
 exact .inr ⟨b,rfl,h.eqv e d⟩
def Ym (b o:Nat)(cs:Array Value)(ty:TypeId)(held:Value)(l:Bag)(w:World)(e:Ending)(w':World):Prop :=
 e=.returned (.tuple #[])∧∃held',w'.heap[b]? =some (.cells (cs.setIfInBounds o held') ty (0,0))∧E6 w' held' l∧(held'=held∨∀k,held'=.map (some k)→w.heap.size≤k)∧Ab (fun k=>k=b∨held=.map (some k)) w w'
theorem Yn {cs:Array Value}{o:Nat}{v:Value}(h:cs[o]? =some v):cs.setIfInBounds o v=cs:=by
 refine Array.ext_getElem? fun i=>?_;rw[vB];by_cases hi:o=i
 ·subst hi;rw[if_pos rfl,if_pos (Array.getElem?_eq_some_iff.1 h).1,h]
 rw[if_neg hi]
theorem Hc (b o:Nat)(cs:Array Value)(ty:TypeId)(held cv:Value)(B d:Bag)(w:World)(g:w.heap[b]? =some (.cells cs ty (0,0)))(ho:cs[o]? =some held)(n:E6 w held B)(h:E6 w cv d)
 (s:∀k,held=.map (some k)→cv≠.map (some k)) (z:(Ad B).length+(Ad d).length<maxLen) :
 Calls prog 66 #[.pointer (some ⟨b,o,none⟩),cv] w (Ym b o cs ty held (d++B) w):=by
 have A:w.cell? ⟨b,o,none⟩=some held:=by rw[Af g];exact ho
 rcases n with ⟨rfl,rfl⟩|⟨k,rfl,n⟩
 ·have a:=fun w=>run_eql_map_nil_sl (P:=prog) w 83 _ _ none underlying83;have t:=Ae h;have j:=Ae g;obtain⟨m,rfl⟩:=h.is;clear h g s;go_enter func66,ntmps66;go_wp21;go_call BJ _ d _ t.o as e w1 ⟨v',rfl,l,v,C,f⟩;have p:w1.heap[b]? =some (.cells cs ty (0,0)):=(f.block b (Aa j.o) xT).trans j.o;have J:w1.frozen? ⟨b,o,none⟩=false:=Am p _;have c1:w1.cell? ⟨b,o,none⟩=some (.map none):=by rw[Af p];exact ho
  obtain⟨x,rfl⟩:=l.is;have D:xR (Ym b o cs ty (.map none) (d++[]) w (.returned (.tuple #[])) (w1.setCell ⟨b,o,none⟩ (.map x))):=by
   refine⟨rfl,.map x,A0 p _ _,?_,?_,?_⟩
   ·rw[vT];refine l.A6 fun q a=>?_;have E:q≠b:=by
     rintro rfl;rcases l with ⟨e,_⟩|⟨b',e,hb'⟩
     ·rw[e] at a;cases a
     rw[e] at a;have:b'=q:=(by simpa using a);subst this;obtain⟨es,F,u⟩:=hb'.obj;rw[u] at p;cases p
    exact Below.heap_setCell _ _ _ _ E
   ·rcases v with ⟨e,_⟩|e
    ·exact .inl e
    exact .inr fun q a=>by rw[e] at a;have:w.heap.size=q:=by simpa using a
                           omega
   exact f.any.setCell (.inr (.inl rfl)) _
  clear p l v C f A;go_wp21;refine bodyPost_ret (results_none rfl _ _ _) rfl ?_;exact D.o
 have a:=fun w=>run_eql_map_nil_sl (P:=prog) w 83 _ _ (some k) underlying83;have j:=Ae g;have y:=Ae n;have G:b≠k:=by rintro rfl;obtain⟨es,F,u⟩:=n.obj;rw[u] at g;cases g
 rcases h with ⟨rfl,rfl⟩|⟨c,rfl,h⟩
 ·clear g n s;go_enter func66,ntmps66;go_wp21;go_call NV k _ as e w1 ⟨rfl,f⟩;have r:=Ae f;clear f;go_wp21;go_end0;refine⟨rfl,.map (some k),?_,.inr ⟨k,rfl,y.o.kept r.o xT⟩,.inl rfl,r.o.any⟩;rw[Yn ho];exact (r.o.block b (Aa j.o) xT).trans j.o
 have t:=Ae h;have H:k≠c:=fun e=>s k rfl (by rw[e]);clear g n s h;go_enter func66,ntmps66;go_wp21;go_call NI k c B d _ y.o t.o H z as e w1 ⟨rfl,l,f⟩;have r:=Ae f;have I:=Ae l;clear f l;go_wp21;go_end0;refine⟨rfl,.map (some k),?_,.inr ⟨k,rfl,I.o⟩,.inl rfl,r.o.mono fun i _ e=>.inr (by rw[e])⟩;rw[Yn ho];exact (r.o.block b (Aa j.o) G).trans j.o
def oB (w:World)(O:Ow)(id:Nat):Ow:=fun k=>if k<w.heap.size then O k else id
theorem Fu {w:World}{O:Ow}{id k:Nat}(h:k<w.heap.size):oB w O id k=O k:=if_pos h
theorem EJ {w:World}{O:Ow}{id k:Nat}(h:w.heap.size≤k):oB w O id k=id:=if_neg (by omega)
def Dr (w:World)(O:Ow)(b:Nat)(mv:Value)(B:Bag):Prop:=E6 w mv (Ad B)∧∀k,mv=.map (some k)→O k=b+2
theorem E6.lt {w:World}{v:Value}{l:Bag}(h:E6 w v l){k:Nat}(a:v=.map (some k)):k<w.heap.size:=by
 rcases h with ⟨rfl,_⟩|⟨b,rfl,h⟩
 ·cases a
 have:b=k:=by simpa using a
 subst this;exact h.lt
theorem Dr.stab {w w':World}{O a:Ow}{b:Nat}{c:Value}{B:Bag}(h:Dr w O b c B)(d:∀k,k<w.heap.size→O k=b+2→w'.heap[k]? =w.heap[k]?∧a k=O k):Dr w' a b c B :=
 ⟨h.1.A6 fun k e=>(d k (h.1.lt e) (h.2 k e)).1,fun k e=>((d k (h.1.lt e) (h.2 k e)).2).trans (h.2 k e)⟩
theorem Dr.eqv {w:World}{O:Ow}{b:Nat}{a:Value}{B c:Bag}(h:Dr w O b a B)(e:A9 B c):Dr w O b a c:=by
 unfold Dr at *;rw[←e.canon];exact h
theorem Dr.nil (w:World)(O:Ow)(b:Nat):Dr w O b (.map none) []:=⟨.inl ⟨rfl,rfl⟩,fun k e=>by cases e⟩
theorem Dr.F4 {w:World}{O:Ow}{b:Nat}{d:Value}{B:Bag}(h:Dr w O b d B){k:Nat}(a:d=.map (some k)){c:Array Value}{t:TypeId}{g:Nat×Nat}{j:Nat}(f:w.heap[j]? =some (.cells c t g)):j≠k:=by
 rintro rfl;rcases h.1 with ⟨e,_⟩|⟨b',e,h'⟩
 ·rw[e] at a;cases a
 rw[e] at a;have:b'=j:=by simpa using a
 subst this;obtain⟨es,_,i⟩:=h'.obj;rw[i] at f;cases f
theorem Ym.mem {b o:Nat}{cs:Array Value}{ty:TypeId}{held:Value}{B d:Bag}{w w':World}{O:Ow}{e:Ending}(h:Ym b o cs ty held (Ad d++Ad B) w e w')(f:Dr w O b held B)(g:∀x∈Ad (B++d),Ge x.1) :
 e=.returned (.tuple #[])∧∃a,C2 w' b (cs.setIfInBounds o a) ty∧Dr w' (oB w O (b+2)) b a (B++d)∧(a=held∨∀k,a=.map (some k)→w.heap.size≤k)∧Ab (fun k=>k=b∨held=.map (some k)) w w':=by
 obtain⟨i,a,j,l,c,m⟩:=h;refine⟨i,a,j,⟨l.eqv (fun r=>?_) (fun e=>?_) g,fun k e=>?_⟩,c,m⟩
 ·rw[Ah,Aq,Aq,Aq,Ah];omega
 ·rw[Dp];intro r;have e1:Ad d=[]:=(List.append_eq_nil_iff.1 e).1;have e2:Ad B=[]:=(List.append_eq_nil_iff.1 e).2;rw[Ah,Dp.1 e1 r,Dp.1 e2 r];rfl
 rcases c with rfl|c
 ·rw[Fu (f.1.lt e)];exact f.2 k e
 exact EJ (c k e)
def Er (w:World)(O:Ow)(v:Nat)(told B:Bag):Prop:=O v=v+2∧∃hv uv,w.heap[v]? =some (.cells #[hv,uv] 87 (0,0))∧Dr w O v hv told∧Dr w O v uv (B++neg told)∧∀k,uv=.map (some k)→hv≠.map (some k)
theorem Er.stab {w w':World}{O b:Ow}{v:Nat}{told B:Bag}(h:Er w O v told B)(a:∀k,k<w.heap.size→O k=v+2→w'.heap[k]? =w.heap[k]?∧b k=O k):Er w' b v told B:=by
 obtain⟨c,hv,f,d,g,i,j⟩:=h;have e:=a v (Aa d) c;exact⟨e.2.trans c,hv,f,e.1.trans d,g.stab a,i.stab a,j⟩
theorem Er.eqv {w:World}{O:Ow}{v:Nat}{told B a:Bag}(h:Er w O v told B)(e:A9 B a):Er w O v told a:=by
 obtain⟨b,hv,c,d,f,g,i⟩:=h;exact⟨b,hv,c,d,f,g.eqv (e.append (A9.refl _)),i⟩
theorem iY:M9 81 249:=⟨fun _ _=>by kernel_rfl,fun _ _=>by kernel_rfl,enters_of func249 (by kernel_rfl) rfl⟩
theorem VI (v c:Nat)(hv a:Value)(B d:Bag)(w:World)(b:C2 w v #[hv,a] 87)(f:E6 w a B)(g:Ak w c d)(h:a≠.map (some c))(i:(Ad B).length+(Ad d).length<maxLen) :
 Calls prog 249 #[C1 v,.map (some c)] w (Ym v 1 #[hv,a] 87 a (d++B) w):=by
 have l:=Ae (Hc v 1 #[hv,a] 87 a (.map (some c)) B d w b rfl f (.inr ⟨c,rfl,g⟩) (fun k e m=>h (e.trans m.symm)) i);clear b f g h i;go_enter func249,ntmps249;go_wp21;go_call l.o as e w1 ⟨rfl,j⟩;have n:=Ae j;clear j;go_wp21;go_end0;exact⟨rfl,n.o⟩
theorem Yo (v:Nat)(ts:List Bool)(told:Bag)(o:B2 ts told):C9 81 249 ⟨v,0,none⟩ (fun a=>a=v+2) ts (B2 ts) (fun w O B=>Er w O v told B) where
 zero:=by omega
 one:=by omega
 ok:=fun h=>h
 gde:=fun h e=>h.eqv e
 stab:=fun h _ j=>h.stab fun k x e=>j k x (.inl e)
 eqv:=fun h e=>h.eqv e
 met:=iY
 run:=by
  rintro w O B d c ⟨p,hv,q,l,b,f,s⟩ hB t y z;have A:=hB.chg t;have C:Gf ts (B++neg told):=by have m:A9 (told++(B++neg told)) B:=fun r=>(by rw[Ah,Ah,Ew];omega);exact o.chg (hB.eqv m.symm)
  have D:Gf ts ((B++neg told)++d):=by have m:A9 (told++((B++neg told)++d)) (B++d):=fun r=>(by simp only[Ah,Ew];omega);exact o.chg (t.eqv m.symm)
  have E:q≠.map (some c):=fun e=>z (f.2 c e);refine (VI v c hv q (Ad (B++neg told)) (Ad d) w l f.1 y E (by have e1:=C.len;have e2:=A.len;rw[Bp (Ap _),Bp (Ap _)];unfold maxLen;omega)).mono fun e w' F=>?_;obtain⟨G,H,I,J,n,u⟩:=F.mem f D.gR;refine⟨G,oB w O (v+2),fun k j=>Fu j,u.mono fun i hi e=>?_,?_⟩
  ·rcases e with rfl|e
   ·exact p
   exact f.2 i e
  refine⟨by rw[Fu (Aa l)];exact p,hv,H,I,?_,?_,?_⟩
  ·refine⟨b.1.kept u fun k e=>?_,fun k e=>by rw[Fu (b.1.lt e)];exact b.2 k e⟩;rintro (rfl|g)
   ·exact b.F4 e l rfl
   exact s k g e
  ·exact J.eqv fun r=>by simp only[Ah];omega
  intro k e g;rcases n with rfl|n
  ·exact s k e g
  have:=n k e;have:=b.1.lt g;omega
def V7 (w:World)(O:Ow)(b:Nat)(T:Value):Prop:=O b=b+2∧∃g cap,w.heap[b]? =some (.cells #[Qc g cap] 289 (0,0))∧O6 w O b g T
theorem V7.stab {w w':World}{O c:Ow}{b:Nat}{T:Value}(h:V7 w O b T)(d:∀k,k<w.heap.size→O k=b+2→w'.heap[k]? =w.heap[k]?∧c k=O k):V7 w' c b T:=by
 obtain⟨e,g,cap,f,a⟩:=h;have i:=d b (Aa f) e;exact⟨i.2.trans e,g,cap,i.1.trans f,a.stab (d g a.lt a.1)⟩
theorem nJ:M9 287 265:=⟨fun _ _=>by kernel_rfl,fun _ _=>by kernel_rfl,enters_of func265 (by kernel_rfl) rfl⟩
theorem bP (b c:Nat)(w:World)(Q:Ending→World→Prop)(a:Calls prog 250 #[C1 b,.map (some c)] w fun e w'=>e=.returned (.tuple #[])∧Q e w') :
 Calls prog 265 #[C1 b,.map (some c)] w Q:=by
 have f:=Ae a;clear a;go_enter func265,ntmps265;go_wp21;go_call f.o as e w1 ⟨rfl,d⟩;have g:=Ae d;clear d;go_wp21;go_end0;exact g.o
theorem Ry {ty:TypeId}{f:Nat}{p:Addr}{A:Nat→Prop}{ts:List Bool}{Gd:Bag→Prop}{R:World→Ow→Bag→Prop}(j:C9 ty f p A ts Gd R)(b:Nat)(us:List Bool)(F:Bag→Bag)(m:∀B d,A9 (F B++d) (F (B++d)))(n:∀{B q:Bag},A9 B q→A9 (F B) (F q))(x:¬A (b+2)) :
 C9 287 265 ⟨b,0,none⟩ (fun a=>A a∨a=b+2) us (fun B=>B2 us B∧Gd (F B)) (fun w O B=>R w O (F B)∧V7 w O b (.iface ty (.pointer (some p)))) where
 zero:=fun h=>h.elim j.zero (by omega)
 one:=fun h=>h.elim j.one (by omega)
 ok:=fun h=>h.1
 gde:=fun h e=>⟨h.1.eqv e,j.gde h.2 (n e)⟩
 stab:=fun h y r=>⟨j.stab h.1 y fun k l z=>r k l (z.imp .inl id),h.2.stab fun k l e=>r k l (.inl (.inr e))⟩
 eqv:=fun h e=>⟨j.eqv h.1 (n e),h.2⟩
 met:=nJ
 run:=by rintro w O B d c ⟨C,D⟩ ⟨_,E⟩ ⟨_,G⟩ H I;obtain⟨J,g,cap,s,hg⟩:=D;refine bP b c w _ ?_;refine (j.give (b:=b) (c:=c) (g:=g) (o:=0) (cap:=cap) ((Af s 0).trans rfl) hg.cell C E (j.gde G (m B d).symm) H (fun h=>I (.inl h))).mono fun e w4 t=>⟨t.1,?_⟩;obtain⟨K,L,u,v,M⟩:=t;refine⟨K,L,u,v.mono fun i _ e=>.inl e,j.eqv M (m B d),?_⟩;exact V7.stab ⟨J,g,cap,s,hg⟩ fun k l e=>⟨v.block k l (by rw[e];exact x),u k l⟩
set_option linter.unusedSimpArgs false
def Nb (w:World)(O:Ow)(cv:Value)(cs:List Nat):Prop:=Gg w cv cs∧∀k,cv.ownBlock=some k→O k=1
theorem Gg.lt {w:World}{v:Value}{cs:List Nat}(h:Gg w v cs){k:Nat}(a:v.ownBlock=some k):k<w.heap.size:=by
 rcases h with ⟨rfl,_⟩|⟨b,o,cap,rfl,hb,_⟩
 ·cases a
 have:b=k:=by simpa [Value.ownBlock] using a
 subst this;exact hb
theorem Nb.stab {w w':World}{O d:Ow}{cv:Value}{cs:List Nat}(h:Nb w O cv cs)(j:w.heap.size≤w'.heap.size)(f:∀k,k<w.heap.size→O k=1→w'.heap[k]? =w.heap[k]?∧d k=O k):Nb w' d cv cs:=by
 refine⟨?_,fun k e=>((f k (h.1.lt e) (h.2 k e)).2).trans (h.2 k e)⟩;rcases h.1 with a|⟨b,o,cap,rfl,g,a⟩
 ·exact .inl a
 exact .inr ⟨b,o,cap,rfl,tU g j,fun i c l=>(World.cell?_of_block (f b g (h.2 b rfl)).1).trans (a i c l)⟩
def Q0 (w:World)(O:Ow)(b:Nat)(T:Value)(cs:List Nat):Prop:=O b=b+2∧∃g cap cv,w.heap[b]? =some (.cells #[Qc g cap,cv] 280 (0,0))∧O6 w O b g T∧Nb w O cv cs
theorem Q0.stab {w w':World}{O d:Ow}{b:Nat}{T:Value}{cs:List Nat}(h:Q0 w O b T cs)(l:w.heap.size≤w'.heap.size)(a:∀k,k<w.heap.size→O k=b+2∨O k=1→w'.heap[k]? =w.heap[k]?∧d k=O k):Q0 w' d b T cs:=by
 obtain⟨f,g,cap,cv,i,c,m⟩:=h;have j:=a b (Aa i) (.inl f);exact⟨j.2.trans f,g,cap,cv,j.1.trans i,c.stab (a g c.lt (.inl c.1)),m.stab l fun k n e=>a k n (.inr e)⟩
theorem Tb (cs:List Nat)(es:Bag)(q:Row)(t:Int):Az cs (es++[(q,t)])=Az cs es++[(Ao cs q,t)]:=by rw[G7];rfl
theorem Gg.slc {w:World}{v:Value}{cs:List Nat}(h:Gg w v cs):∃a n c,v=.slice a n c:=by obtain⟨a,c,e⟩:=h.is;exact⟨a,_,c,e⟩
theorem VJ (b c g cap:Nat)(cv:Value)(cs:List Nat)(us:List Bool)(Z:∀x∈cs,x<6)(aa:cs.length≤6)(ab:∀{q:Row},Ei us q→Ge (Ao cs q))(d:Bag)(w:World)(Q:Ending→World→Prop)(G:C2 w b #[Qc g cap,cv] 280)(H:Gg w cv cs)(ac:Gf us d)(v:Ak w c (Ad d))
 (ad:∀w3 es,J9 (Ad d) es→Ak w3 w.heap.size (Az cs es)→Ab No w w3→Calls prog 250 #[C1 b,.map (some w.heap.size)] w3 fun e w'=>e=.returned (.tuple #[])∧Q e w') :
 Calls prog 259 #[C1 b,.map (some c)] w Q:=by
 have ae:xR (Ak (w.alloc (.map #[] 0)) c (Ad d)):=v.A6 (Below.heap_alloc _ _ _ v.lt);have af:xR (Ak (w.alloc (.map #[] 0)) w.heap.size []):=Ak.made w;obtain⟨m,n,o,rfl⟩:=H.slc;have a6:=Ae G;have a7:=Ae ad;have a8:=Ae H;have a9:=Ae Z;have ba:=Ae aa;have ag:xR (∀q:Row,Ei us q→Ge (Ao cs q)):=fun q p=>ab p;have HD:=Ae ac;have bo:=v.lt;have bb:=Aa G;clear v G ad H Z aa ab ac;have bc:=@run_makeMap prog;go_enter func259,ntmps259;go_wp2_with (first
  |(at_range;refine Bv _ rfl _ rfl c (Ad d) rfl ae.o ?_;intro w1 bd I J ah)
  |fail)
 have be:(w.alloc (.map #[] 0)).heap.size=w.heap.size+1:=by simp
 rw[be] at I ah⊢;have ai:=Ae I;have aj:xR (Ak w1 w.heap.size (Az cs [])):=af.o.kept J xT;have ak:Ab No w w1:=((Ab.refl No w).alloc _).seq J;have al:=Ae ak;clear I ah J ak ae af bc;go_frame;go_loopg [] bd (fun k wr=>∃es:Bag,xR (D5 wr c (w.heap.size+1) (Ad d) es k)∧xR (Ak wr w.heap.size (Az cs es))∧xR (Ab No w wr))
 case atStart=>exact⟨[],ai,aj,al⟩
 obtain⟨es,hr,am,l⟩:=hrel;clear ai aj al;go_wp2_with (first
  |(at_next;refine B0 _ rfl _ rfl c (w.heap.size+1) (Ad d) es gk rfl hr.o ?_ ?_)
  |fail)
 ·intro an;have bf:=Ae (a7.o wr es an am.o l.o);clear an;go_wp21;go_call bf.o as e w4 ⟨rfl,p⟩;have bg:=Ae p;clear p;go_wp21;go_end0;exact bg.o
 intro t q a ao p ap aq ar bh L bi bp;have M:=Ae ar;have N:xR (Ei us q):=HD.o.good (by rw[←HD.o.gU,←ap];exact aq);have y:Ab No w a:=l.o.trans L (fun _ e=>e) (fun i hi e=>by omega);have O:=Ae y;have au:Ak a w.heap.size (Az cs es):=am.o.kept L (fun e=>by omega);have z:=Ae au;have bj:xR ((Ad (Az cs es)).length<maxLen):=by have e1:=M.o.T9.len;have e2:=HD.o.len;have e3:=A3 (Az cs es) [];have e4:(Az cs es).length=es.length:=tZ _;simp[Ad] at e1 e3;rw[Bp (Ap d)] at e1;show _<_;unfold maxLen;omega
 have bq:w.heap.size≤a.heap.size:=y.size;have av:C2 a b #[Qc g cap,.slice m n o] 280:=(y.block b bb xT).trans a6.o;have P:=Ae av;clear p ar L ap aq au bi y av;go_wp2_with (first
  |(refine Bt _ _ _ rfl rfl a _ rfl rfl rfl q rfl ?_)
  |fail)
 have aw:C2 (a.alloc (.cells (Ai q) 154)) b #[Qc g cap,.slice m n o] 280:=(Below.heap_alloc _ _ _ (Aa P.o)).trans P.o;have ax:C2 (a.alloc (.cells (Ai q) 154)) a.heap.size (Ai q) 154:=heap_alloc_last _ _;have A:=Ae (And.intro aw ax);have ay:Ab No a (a.alloc (.cells (Ai q) 154)):=(Ab.refl No a).alloc _;have u:=Ae ay;clear aw ax ay;generalize a.alloc (.cells (Ai q) 154)=W at A u⊢;obtain⟨r,R⟩:∃r,r=#[Qc g cap,.slice m n o]:=⟨_,rfl⟩;obtain⟨j,B⟩:∃j,j=Ai q:=⟨_,rfl⟩;obtain⟨C,T⟩:∃C,C=Ai (Ao cs q):=⟨_,rfl⟩;have az:xR (∀w',Ab No W w'→Calls prog 260 #[.agg j,.slice m n o] w' fun e D=>e=.returned (.agg C)∧Ab No w' D):=by subst T B;exact fun w' U=>IX q cs _ w' (a8.o.kept ((O.o.seq u.o).seq U) (fun _ _ e=>e)) a9.o ba.o
 have a0:xR (∀w:World,C2 w a.heap.size j 154→(loadVar 154 ⟨a.heap.size,0,none⟩).run prog w=.ok (.agg j) w):=by subst B;exact fun w h=>run_loadVar_row w a.heap.size 154 154 (Ai q) (0,0) _ h underlying154 rfl (by rw[Bd];exact Cp)
 have a1:xR (∀w:World,C2 w b r 280→C3 w b 1 (.slice m n o)):=by subst R;exact fun w h=>(Af h 1).trans rfl
 rw[←R,←B] at A;have a2:xR (∀w',Ab No a w'→Calls prog 79 #[.map (some w.heap.size),.agg C,.int .i64 t] w' fun e D=>e=.returned (.tuple #[])∧Ak D w.heap.size ((Ao cs q,t)::Az cs es)∧Ab (·=w.heap.size) w' D):=by subst T;exact fun w' U=>G9 w.heap.size (Az cs es) (Ao cs q) t w' (z.o.kept U xT) (ag.o q N.o) bj.o
 have bk:xR (Ge (Ao cs q)):=ag.o q N.o;clear R T N P B;refine wp_region_held_drew (S:=fun w'=>w'.heap[b]? =some (.cells r 280 (0,0))∧w'.heap[a.heap.size]? =some (.cells j 154 (0,0))) (by kernel_rfl) A.o (fun f=>?_);refine An 0 (.map (some w.heap.size)) f ?_;refine Ha 1 (.agg j) 154 (.tmp 5) (a.heap.size) (0) (fun w h=>a0.o w h.2) f ?_;refine An 2 (C1 b) f ?_;refine An 3 (C1 b) f ?_
 try simp only[Act.put,Ar,As,Au,Av,Aw,Ax]
 refine An 4 (.pointer (some ⟨b,1,none⟩)) f ?_;refine Iq 5 (.slice m n o) 136 (.tmp 19) (b) (1) (fun w h=>a1.o w h.1) f ?_;refine An 7 (.int .i64 t) f ?_
 try simp only[Act.put,Ar,As,Au,Av,Aw,Ax]
 have V:xR (Ab No W W.drew):=(Ab.refl No W).drew;refine C0 6 (fun K l=>?_);go_simp;go_call az.o _ V.o as e w3 ⟨rfl,E⟩;have a3:C2 w3 b r 280∧C2 w3 a.heap.size j 154:=⟨(E.block b (Aa f.1) xT).trans f.1,(E.block _ (Aa f.2) xT).trans f.2⟩;have X:xR (Ab No W w3):=V.o.seq E;refine l.out _ _ a3 (fun f=>?_);clear l K E
 refine C0 8 (fun K l=>?_);go_simp;go_call a2.o _ (u.o.seq X.o) as e w5 ⟨rfl,a4,F⟩;have a5:C2 w5 b r 280∧C2 w5 a.heap.size j 154:=⟨(F.block b (Aa f.1) (by omega)).trans f.1,(F.block _ (Aa f.2) (by have:=z.o.lt;omega)).trans f.2⟩;have Y:xR (Ab (·=w.heap.size) a w5):=(u.o.seq X.o).Qk F;refine l.out _ _ a5 (fun f=>?_);clear l K F;refine wpAnyH_done (by kernel_rfl) ?_ _;clear a3 a5 X az a2 a0 a1 f u V A
 try simp only[Act.put,Ar,As,Au,Av,Aw,Ax]
 have bl:xR (D5 w5 c (w.heap.size+1) (Ad d) (es++[(q,t)]) ao):=M.o.kept Y.o (fun e=>by omega) (fun e=>by omega);have bm:xR (Ak w5 w.heap.size (Az cs (es++[(q,t)]))):=by
  show Ak _ _ _;rw[Tb];refine a4.eqv (fun x=>?_) (fun x s=>?_)
  ·simp only[Ah,cnt];omega
  rcases tW.1 s with s|s
  ·exact z.o.1 x s
  simp at s;subst s;exact bk.o
 have bn:xR (Ab No w w5):=O.o.trans Y.o (fun _ e=>e) (fun i hi e=>by omega);clear a4 M z O Y;go_wp21;go_roundg ao
 case measure=>exact bh
 exact⟨es++[(q,t)],bl,bm,bn⟩
theorem iZ:M9 278 259:=⟨fun _ _=>by kernel_rfl,fun _ _=>by kernel_rfl,enters_of func259 (by kernel_rfl) rfl⟩
theorem Yp {ty:TypeId}{f:Nat}{p:Addr}{A:Nat→Prop}{ts:List Bool}{Gd:Bag→Prop}{R:World→Ow→Bag→Prop}(i:C9 ty f p A ts Gd R)(b:Nat)(cs:List Nat)(us:List Bool)(E:∀x∈cs,x<6)(F:cs.length≤6)(G:∀{q:Row},Ei us q→Ge (Ao cs q))(H:¬A (b+2)) :
 C9 278 259 ⟨b,0,none⟩ (fun a=>A a∨a=b+2) us (fun B=>B2 us B∧Gd (Az cs B)) (fun w O B=>R w O (Az cs B)∧Q0 w O b (.iface ty (.pointer (some p))) cs) where
 zero:=fun h=>h.elim i.zero (by omega)
 one:=fun h=>h.elim i.one (by omega)
 ok:=fun h=>h.1
 gde:=fun h e=>⟨h.1.eqv e,i.gde h.2 (Ej e)⟩
 stab:=fun h s l=>⟨i.stab h.1 s fun k j n=>l k j (n.imp .inl id),h.2.stab s fun k j e=>l k j (e.imp .inr id)⟩
 eqv:=fun h e=>⟨i.eqv h.1 (Ej e),h.2⟩
 met:=iZ
 run:=by rintro w O B d c ⟨I,J⟩ ⟨K,t⟩ ⟨L,r⟩ M ab;have u:=K.chg L;obtain⟨N,g,cap,cv,m,hg,v⟩:=J;refine VJ b c g cap cv cs us E F G d w _ m v.1 u M fun w3 es P n l=>?_;have Q:A9 (Az cs es) (Az cs d):=Ej (P.eqv u);rw[G7] at r;have S:=(i.ok t).chg (i.ok r);have y:C2 w3 b #[Qc g cap,cv] 280:=(l.block b (Aa m) xT).trans m;have T:w3.heap[g]? =w.heap[g]? :=l.block g hg.lt xT;have z:O6 w3 (oN w O) b g (.iface ty (.pointer (some p))):=hg.stab ⟨T,Gx hg.lt⟩;have U:Nb w3 (oN w O) cv cs:=v.stab l.size fun k j e=>⟨l.block k j xT,Gx j⟩;have V:Ak w3 w.heap.size (Ad (Az cs d)):=n.eqv (Q.trans (Bc _).symm) S.gR;have W:R w3 (oN w O) (Az cs B):=i.kept I l (fun _ e=>e.elim) (fun k j=>Gx j);refine (i.give (b:=b) (c:=w.heap.size) (g:=g) (o:=0) (cap:=cap) ((Af y 0).trans rfl) z.cell W t r V (by rw[Yi (tY _)];exact i.zero)).mono fun e w4 C=>⟨C.1,?_⟩;refine Fb.up (b:=b) l.any C fun X Y D Z=>⟨by rw[G7];exact Z,?_⟩;have aa:∀k,k<w3.heap.size→oN w O k=b+2∨oN w O k=1→w4.heap[k]? =w3.heap[k]?∧X k=oN w O k:=fun k j e=>⟨D.block k j (by rcases e with e|e <;> rw[e];exact H;exact i.one),Y k j⟩;exact Q0.stab ⟨by rw[Gx (Aa m)];exact N,g,cap,cv,y,z,U⟩ D.size aa
end Go.Proofs.YtdinjjmcmfjbfaaGreatDoor
