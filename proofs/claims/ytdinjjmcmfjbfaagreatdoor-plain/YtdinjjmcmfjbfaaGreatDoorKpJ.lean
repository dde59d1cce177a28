import Derived.Test.YtdinjjmcmfjbfaaGreatDoorGenJ
import Derived.Test.YtdinjjmcmfjbfaaGreatDoorRqJ
import Derived.Shelf.SlMaps.Clone
set_option maxRecDepth 100000
set_option maxHeartbeats 4000000
namespace Go.Proofs.YtdinjjmcmfjbfaaGreatDoor
open Go.RowKit Go.Shelf
open Mo (V Row Bag cnt Af Kv Cg)
theorem Vz {α:Type}[Inhabited α](enc:α→List Value)(k:Nat)(w:World)(blk a n:Nat)(d:Array α)(os:Array Obj){i:Nat}(hi:i<w.heap.size)(b:i≠blk):(sortWorldK enc k w blk a n d os).heap[i]? =w.heap[i]? :=by
 unfold sortWorldK
 have c:(Sort.putRowK enc k (Sort.ahead w n) blk a d).heap.size=w.heap.size:=by simp[Sort.putRowK,Sort.putRow,Sort.mapBlock,Sort.ahead]
 rw[Sort.heap_grow_old _ _ (by rw[c];exact hi)]
 simp[Sort.putRowK,Sort.putRow,Sort.mapBlock,Sort.ahead,Array.getElem?_modify,Ne.symm b]
theorem Oi {α:Type}[Inhabited α](enc:α→List Value)(k:Nat)(w:World)(blk a n:Nat)(d:Array α)(os:Array Obj):w.heap.size≤(sortWorldK enc k w blk a n d os).heap.size:=by
 simp[sortWorldK,Sort.putRowK,Sort.putRow,Sort.mapBlock,Sort.ahead]
abbrev Xt (us:List Bool):={ r:Row // G5 r∧r.map Mo.ty=us }
def M9 {us:List Bool}(x:Xt us):List Value:=(An x.1).toList
def IG {us:List Bool}(x y:Xt us):Int:=Qz x.1 y.1
section
variable {us:List Bool}
theorem iD (x y:Xt us):ltOf IG x y=Kv x.1 y.1:=by
 show decide (Qz x.1 y.1<0)=Kv x.1 y.1
 unfold Qz
 cases hr:Kv x.1 y.1
 ·simp only[Bool.false_eq_true,if_false];split <;> rfl
 ·rfl
theorem aA:Sort.SWO (ltOf (IG (us:=us))) where
 irrefl x:=by rw[iD];exact Mo.D5.irrefl _
 trans x y z h1 h2:=by rw[iD] at *;exact Mo.D5.trans _ _ _ h1 h2
 ntrans x y z h1 h2:=by
  rw[iD] at *
  cases hr:Kv x.1 z.1
  ·rfl
  ·exfalso
   cases a:Kv y.1 x.1
   ·have e:=Mo.D5.tri _ _ h1 a
    rw[e] at hr;rw[hr] at h2;cases h2
   ·have:=Mo.D5.trans _ _ _ a hr
    rw[h2] at this;cases this
theorem jB (x y:Xt us)(a:ltOf IG x y=false)(b:ltOf IG y x=false):x=y:=by
 rw[iD] at a b
 exact Subtype.ext (Mo.D5.tri _ _ a b)
def Kh (l:Bag):List Row:=(Af l).map (·.1)
theorem Sd {l:Bag}(d b:List (Xt us))(i:Ym (Cs l) (d.map (·.1)))(q:∀r,cnt l r≠0→wrap64 (cnt l r)≠0)(j:b.Perm d)(s:b.Pairwise (fun x y=>(!(ltOf IG) y x)=true)):b.map (·.1)=Kh l:=by
 have t:d.Pairwise (fun x y=>x.1≠y.1):=List.pairwise_map.1 i.1
 have u:b.Pairwise (fun x y=>x.1≠y.1):=(j.pairwise_iff (fun {x y} v e=>v e.symm)).2 t
 have w:b.Pairwise (fun x y=>Kv x.1 y.1=true):=by
  refine (s.and u).imp (fun {x y} ⟨f,z⟩=>?_)
  rw[iD] at f
  cases hr:Kv x.1 y.1
  ·exact absurd (Mo.D5.tri _ _ hr (by simpa using f)) z
  ·rfl
 have A:∀r,(Cs l r).isSome=true→cnt l r≠0:=fun r h e=>by unfold Cs at h;rw[e] at h;simp[C0] at h
 have B:∀y∈b,cnt l y.1≠0:=fun y a=>A _ ((i.2 y.1).1 (lD.2 ⟨y,j.mem_iff.1 a,rfl⟩))
 have C:∀c:List (Xt us),(∀k∈c,cnt l k.1≠0)→c.Pairwise (fun x y=>Kv x.1 y.1=true)→Cg (c.map (fun y=>(y.1,cnt l y.1))):=by
  intro c
  induction c with
  |nil=>intro _ _;trivial
  |cons k c D =>
   intro n g;have o:=mQ.1 g
   exact⟨fun x m=>by obtain⟨y,a,rfl⟩:=lD.1 m;exact o.1 y a,n k (by simp),D (fun y a=>n y (by simp[a])) o.2⟩
 have p:=C b B w
 have E:b.map (fun y=>(y.1,cnt l y.1))=Af l:=by
  refine p.uniq (Mo.Aq l) (fun r=>?_)
  rw[Mo.As]
  by_cases hr:∃y∈b,y.1=r
  ·obtain⟨y,a,rfl⟩:=hr
   exact p.Dl (x:=(y.1,cnt l y.1)) (lD.2 ⟨y,a,rfl⟩)
  ·rw[Mo.Lz (fun x m e=>by obtain⟨y,a,rfl⟩:=lD.1 m;exact hr ⟨y,a,e⟩)]
   by_cases g:cnt l r=0
   ·exact g.symm
   ·exfalso
    have f:(Cs l r).isSome=true:=by unfold Cs;rw[if_neg (q r g)];rfl
    obtain⟨y,a,e⟩:=lD.1 ((i.2 r).2 f)
    exact hr ⟨y,j.mem_iff.2 a,e⟩
 unfold Kh
 rw[←E,mH]
 rfl
end
def IH (w:World)(v:Value)(ys:List Row):Prop :=
 (v=.slice none 0 0∧ys=[])∨∃g cap,v=.slice (some ⟨g,0,none⟩) ys.length cap∧ys.length≤cap∧cap≤maxLen∧g<w.heap.size∧∀(i:Nat) (y:Row),ys[i]? =some y→w.rangeAt g (i*37) (An y).toList
theorem Yn:∀(xs:List Row) (i:Nat) (x:Row),xs[i]? =some x→∀(j:Nat) (a:Value),(An x).toList[j]? =some a→(Le xs)[i*37+j]? =some a
 | [],i,x,h=>by simp at h
 |y::xs,0,x,h=>fun j a b=>by
  have:y=x:=by simpa using h
  subst this
  show ((An y).toList++Le xs)[0*37+j]? =_
  rw[nZ,lK,lA (kS.1 b).1];exact b
 |y::xs,i+1,x,h=>fun j a b=>by
  have c:=Yn xs i x (by simpa using h) j a b
  show ((An y).toList++Le xs)[(i+1)*37+j]? =_
  rw[kY (by rw[Kg];omega),Kg,show (i+1)*37+j-37=i*37+j by omega];exact c
theorem AJ {us:List Bool}[Inhabited (Xt us)]{e:World}{g:Nat}{b:Array Value}{t:TypeId}(d:List (Xt us))(hg:e.heap[g]? =some (.cells b t (0,0)))(f:b.toList.take (d.length*37)=Le (d.map (·.1))):Sort.HoldsK M9 37 e g 0 d.toArray:=by
 intro j c
 rw[Sort.size_flatK] at c
 have o:j<d.length*37:=by simpa using c
 refine⟨?_,Aj hg _⟩
 rw[Sort.get_flatK _ _ _ _ c,lK,Ae hg]
 have hi:j / 37<d.length:=by omega
 have e1:d.toArray[j / 37]! =d[j / 37]:=by simp[hi]
 rw[e1]
 have h:(d.map (·.1))[j / 37]? =some d[j / 37].1:=by simp[hi]
 have i:j % 37<(An d[j / 37].1).toList.length:=by rw[Kg];omega
 have a:=Yn _ _ _ h (j % 37) _ (kT i)
 rw[←f,lM] at a
 have k:j / 37*37+j % 37<d.length*37:=by omega
 rw[if_pos k] at a
 have l:j / 37*37+j % 37=j:=by omega
 rw[l] at a
 have m:b[j]? =some (An d[j / 37].1).toList[j % 37]:=by rw[←lU];exact a
 rw[m]
 have n:j % 37<(An d[j / 37].1).size:=by rw[Bz];omega
 simp[M9,Array.getElem?_eq_getElem n]
theorem DP {us:List Bool}(b:Nat)(l:Bag)(w:World)(h:Aw w b l)(U:∀r,cnt l r≠0→wrap64 (cnt l r)≠0)(V:∀r,cnt l r≠0→G5 r∧r.map Mo.ty=us)(_:(Af l).length≤100000000000)(A:Nat)(ao:A<w.heap.size)(W:w.cell? ⟨A,0,none⟩=some (.map (some b))) :
 Calls Tryz.prog 68 #[.func (.func 119) #[] #[.pointer (some ⟨A,0,none⟩)],.func (.func 70) #[] #[]] w fun e w' =>
  ∃v,e=.returned v∧IH w' v (Kh l)∧Ab No w w':=by
 have M:gE (Cs l) (Af l).length:=⟨Kh l,by simp[Kh],fun k q=>by
  have X:cnt l k≠0:=fun e=>by unfold Cs at q;rw[e] at q;simp[C0] at q
  rw[←Mo.As] at X
  obtain⟨x,f,rfl⟩:=Mo.Cg.Dd X
  exact lD.2 ⟨x,f,rfl⟩⟩
 have Y:=ID Fence.wide 9 trivial rfl (by omega) A b (Af l).length (Cs l) M w ao W h.2
 have N:=Ad (Ug #[.pointer (some ⟨A,0,none⟩)] (Ym (Cs l)) (Af l).length (by omega) w Y)
 have Z:oH (∀xs,Ym (Cs l) xs→xs.length≤100000000000):=fun xs f=>by
  obtain⟨ks,H,B⟩:=M
  have C:=Em f.1 (fun k q=>B _ ((f.2 k).1 q))
  omega
 have aa:oH (∀xs,Ym (Cs l) xs→∀x∈xs,G5 x∧x.map Mo.ty=us):=fun xs f x D=>V x fun e=>by
  have q:=(f.2 x).1 D;unfold Cs at q;rw[e] at q;simp[C0] at q
 have ab:=Ad U;clear Y W M h V U
 go_enter Tryz.func68,Tryz.ntmps68
 go_wp2_with fail;refine N.o.mono ?_;rintro e s ⟨v,xs,rfl,f,ac,I,z⟩
 have t:Ab No w s:=⟨z.os,z.tape,z.output,z.size,fun i hi _=>z.block i hi⟩
 have ap:=Ad t;have aq:=Ad f
 cases xs with
 |nil =>
  obtain rfl:=I.2 rfl;have ar:oH (Kh l=[]):=(Sd (us:=us) [] [] f ab.o (List.Perm.refl _) List.Pairwise.nil).symm;clear ac I z t f N;go_wp2_with fail;refine (AnyF.slices_SortFunc_none Tryz.AH none 0 _ _).mono ?_;rintro e au ⟨rfl,rfl⟩;go_wp2_with fail;go_ret
  exact⟨_,rfl,.inl ⟨rfl,ar.o⟩,ap.o⟩
 |cons m u =>
  have O:∀x∈m::u,G5 x∧x.map Mo.ty=us:=aa.o _ f
  obtain⟨d,J⟩:∃d:List (Xt us),d.map (·.1)=m::u:=⟨(m::u).pmap (fun x p=>⟨x,p⟩) O,by simp[List.map_pmap]⟩
  haveI:Inhabited (Xt us):=⟨⟨m,O m (by simp)⟩⟩
  have K:d.length=(m::u).length:=by rw[←J];simp
  rcases ac with ⟨_,⟨rfl,_⟩|⟨g,cap,av,rfl,aw,hg,ad,ae,ax,af⟩⟩
  ·exact absurd (I.1 rfl) (by simp)
  ·have ag:av.toList.take (d.length*37)=Le (d.map (·.1)):=by rw[K,J];exact af
   have D:Ym (Cs l) (d.map (·.1)):=by rw[J];exact f
   have P:Sort.HoldsK M9 37 s g 0 d.toArray:=AJ d hg ag;have Q:=Aa hg
   have ah:CmpLays Tryz.prog 70 #[] (M9 (us:=us)) 37 IG g 0 d.toArray.size s:=by
    intro k os ay bb x y;have H:=DL x.1 y.1 x.2.1 y.2.1 (x.2.2.trans y.2.2.symm) (sortWorldK M9 37 s g 0 k ay os)
    have e1:(#[Value.agg (M9 x).toArray,.agg (M9 y).toArray]++#[]:Array Value)=#[.agg (An x.1),.agg (An y.1)]:=by simp[M9]
    rw[e1]
    exact H.mono fun e w' ⟨B,C⟩=>⟨B,C⟩
   have az:d.length≤100000000000:=by have:=Z.o _ D;simpa using this
   have E:=AnyQ.slices_SortFunc_total Tryz.AH 37 Tryz.isAgg154 Tryz.sizeOf154 (M9 (us:=us)) (fun x=>Kg x.1) (fun x v hv=>by have:=Mb x.1;rw[nH] at this;exact this v (by simpa [M9] using hv)) IG aA 70 #[] g 0 cap d.toArray s
    (enters_of Tryz.func70 (by kernel_rfl) rfl) ah P Q (by simp;omega) jB
   change Calls Tryz.prog 118 _ _ _ at E
   have ai:d.toArray.size=(m::u).length:=by simpa using K
   rw[ai] at E
   have F:(d.toArray.toList.mergeSort fun x y=> !(ltOf IG) y x).Perm d:=by simpa using List.mergeSort_perm d _
   have R:(d.toArray.toList.mergeSort fun x y=> !(ltOf IG) y x).Pairwise (fun x y=>(!(ltOf IG) y x)=true):=by
    refine List.pairwise_mergeSort (fun a b c H B=>?_) (fun a b=>?_) _
    ·have a0:ltOf IG b a=false:=by simpa using H
     have a1:ltOf IG c b=false:=by simpa using B
     simp[aA.ntrans c b a a1 a0]
    ·cases a2:ltOf IG a b
     ·simp
     ·have:=aA.trans a b a a2
      cases a3:ltOf IG b a
      ·simp
      ·have C:=this a3;rw[aA.irrefl] at C;cases C
   generalize (d.toArray.toList.mergeSort fun x y=> !(ltOf IG) y x)=o at E F R
   have aj:(m::u).length≤cap:=ad
   have L:o.map (·.1)=Kh l:=Sd d o D ab.o F R
   have S:o.length=(m::u).length:=by rw[F.length_eq,K]
   have a4:oH (∀n os,IH (sortWorldK M9 37 s g 0 n o.toArray os) (.slice (some ⟨g,0,none⟩) (m::u).length cap) (Kh l)∧Ab No w (sortWorldK M9 37 s g 0 n o.toArray os)):=by
    refine Ad ?_;intro n os
    have a5:Ab No w (sortWorldK M9 37 s g 0 n o.toArray os) :=
     ⟨t.os,t.tape,t.output,lH t.size (Oi _ _ _ _ _ _ _ _),fun i hi _=>(Vz _ _ _ _ _ _ _ _ (kV hi t.size) (by omega)).trans (t.block i hi oI)⟩
    have a6:Sort.HoldsK M9 37 (sortWorldK M9 37 s g 0 n o.toArray os) g 0 o.toArray:=by
     unfold sortWorldK;refine Sort.holdsK_grow M9 37 _ _ _ _ _ ?_ ?_
     ·simpa [Sort.putRowK,Sort.putRow,Sort.mapBlock,Sort.ahead] using Q
     ·exact Sort.holdsK_putRowK M9 37 _ _ _ d.toArray _ (Sort.holdsK_ahead M9 37 _ _ _ _ _ P) (by simp[F.length_eq])
    refine⟨.inr ⟨g,cap,by rw[←L,lB,S],by rw[←L,lB,S];exact aj,ae,kV Q (Oi _ _ _ _ _ _ _ _),fun i y T=>?_⟩,a5⟩
    rw[←L] at T
    obtain⟨G,ak,rfl⟩:∃G,o[i]? =some G∧G.1=y:=by rw[kX] at T;exact lJ.1 T
    have hi:=(kS.1 ak).1
    have e1:o.toArray[i]! =G:=by simp[hi,(List.getElem?_eq_some_iff.1 ak).2]
    intro j bc al
    have am:j<37:=by have:=(kS.1 al).1;rw[Kg] at this;exact this
    have an:=(Sort.HoldsK.cell a6 (i:=i) (c:=j) (by simpa using hi) am).1
    rw[e1,lK] at an
    rw[an]
    have a7:j<(An G.1).size:=by rw[Bz];exact am
    obtain⟨_,rfl⟩:=kS.1 al
    simp[M9,Array.getElem?_eq_getElem a7]
   have a8:=Ad E;clear E ah P O J af ag ax I f D N F R L S ai K ad ae aj aq az Z z t hg aw aa;generalize (m::u).length=nn at *;go_wp2_with fail;refine a8.o.mono ?_;rintro e au ⟨rfl,n,os,rfl⟩;go_wp2_with fail;go_ret
   obtain⟨a9,ba⟩:=a4.o n os
   exact⟨_,rfl,a9,ba⟩
open Mo (V Row Bag cnt Af)
def I9:V→List UInt8
 | .num n=>Lib.itoa n
 | .txt s=>s
def Se (w:World):Prop:=Lib.TabIs Tryz.prog w "internal/strconv.uint64pow10" .u64 Lib.pow10Tab
def Dx (w:World)(B:Nat)(v:Value)(t:List UInt8):Prop:=w.ownsRow B 5 1 v t.length (Lib.byteCells t)
theorem II:(Tryz.prog.info? 5).map (fun i=>(i.zero,i.size,i.bytes))=some (some (.int .u8 0),1,1):=by kernel_rfl
theorem V0 (s:List UInt8)(j:Nat)(a:j<4):(Us s)[j]? =some (s.getD j 0):=by
 match j,a with
 |0,_|1,_|2,_|3,_=>rfl
theorem AK (b o cap:Nat)(s:List UInt8)(w:World)(q:s.length≤4)(g:∀c∈s,97≤c.toNat∧c.toNat≤122)(a:∀(j:Nat) (c:UInt8),(Us s)[j]? =some c→w.cell? ⟨b,o+j,none⟩=some (.int .u8 (c.toNat:Int)))(_:4≤cap)(_:cap≤1000) :
 Calls Tryz.prog 192 #[.slice (some ⟨b,o,none⟩) 4 cap,.int .u8 0] w fun e w'=>e=.returned (.slice (some ⟨b,o,none⟩) s.length cap)∧Ab No w w':=by
 obtain⟨n,d⟩:∃n,s.length=n:=⟨_,rfl⟩
 have h:=Ad d;have i:=Ad a;have r:=Ad g
 rw[d] at q⊢
 clear d a g
 go_enter Tryz.func192,Tryz.ntmps192
 go_wp2_with fail
 go_loopg [0] (4-n) (fun k t wr=>∃m:Nat,m=n+k∧m≤4∧t=.slice (some ⟨b,o,none⟩) m cap∧wr=w)
 case atStart=>exact⟨4,by omega,by omega,rfl,rfl⟩
 case round =>
  obtain⟨m,f,_,rfl,rfl⟩:=hrel
  cases gk with
  |zero =>
   obtain rfl:m=n:=by omega
   clear f
   by_cases l:m=0
   ·subst l
    go_wp2_with fail;go_ret
    exact⟨rfl,Ab.refl _ _⟩
   ·obtain⟨m,rfl⟩:∃k,m=k+1:=⟨m-1,by omega⟩
    obtain⟨c,a⟩:∃c,s[m]? =some c:=⟨_,kT (by have:=h.o;omega)⟩
    have u:=r.o c (kW a)
    have p:wr.cell? ⟨b,o+m,none⟩=some (.int .u8 (c.toNat:Int)):=i.o m c (by rw[V0 s m (by omega),lI,a];rfl)
    have e1:((c.toNat:Int) == 0)=false:=by simp;omega
    generalize (c.toNat:Int)=x at p e1;clear l u a;go_wp2_with fail;go_ret
    exact⟨rfl,Ab.refl _ _⟩
  |succ k =>
   obtain⟨m,rfl⟩:∃j,m=j+1:=⟨m-1,by omega⟩
   have p:wr.cell? ⟨b,o+m,none⟩=some (.int .u8 0):=i.o m 0 (by rw[V0 s m (by omega),lI,mD (by have:=h.o;omega)];rfl)
   have y:(m:Int)≤(cap:Int):=by omega
   have v:=Ad f;clear f;go_wp2_with fail;go_roundg k
   case measure=>omega
   case rel=>exact⟨m,by have:=v.o;omega,by omega,rfl,rfl⟩
theorem TY (b o cap:Nat)(s:List UInt8)(w:World)(g:s.length≤4)(a:∀c∈s,97≤c.toNat∧c.toNat≤122)(d:∀(j:Nat) (c:UInt8),(Us s)[j]? =some c→w.cell? ⟨b,o+j,none⟩=some (.int .u8 (c.toNat:Int)))(h:4≤cap)(i:cap≤1000) :
 Calls Tryz.prog 157 #[.slice (some ⟨b,o,none⟩) 4 cap,.string ⟨#[0]⟩] w fun e w'=>e=.returned (.slice (some ⟨b,o,none⟩) s.length cap)∧Ab No w w':=by
 have k:=Ad (AK b o cap s w g a d h i);clear d a
 go_enter Tryz.func157,Tryz.ntmps157
 go_wp2_with fail;refine k.o.mono ?_;rintro e m ⟨rfl,f⟩;have l:=Ad f;clear f;go_wp2_with fail;go_ret
 exact⟨rfl,l.o⟩
theorem DQ (w:World)(v:V):∀j x,(Au v)[j]? =some x→(w.alloc (.cells (Au v).toArray 133)).cell? ⟨w.heap.size,0+j,none⟩=some x:=fun j x a=>by
 rw[lK,Ae (heap_alloc_last _ _),mL];exact a
def W8 (B:Nat)(w w':World):Prop:=Ab (fun k=>B≤k∧Is 5 w k) w w'
section
variable {B:Nat} {a w w':World}
theorem W8.refl (B:Nat)(w:World):W8 B w w:=Ab.refl _ _
theorem W8.below (h:W8 B w w')(hB:B≤w.heap.size):Below B w w':=⟨h.os,h.tape,h.output,h.size,fun i hi=>h.block i (by omega) (fun e=>by omega)⟩
theorem W8.of (h:Below B w w')(k:Lib.OthersKept 5 none w w'):W8 B w w':=⟨h.os,h.tape,h.output,h.size,fun i hi a=>by
 by_cases b:i<B
 ·exact h.block i b
 ·obtain⟨o,ho⟩:∃o,w.heap[i]? =some o:=⟨_,lE hi⟩
  rw[ho]
  refine k i o ho (fun e=>by cases e) fun c fz e=>a ⟨by omega,c,fz,by rw[ho,e]⟩⟩
theorem W8.trans (h:W8 B a w)(k:W8 B w w'):W8 B a w':=Ab.trans h k (fun _ e=>e) fun i hi e=>by
 refine⟨e.1,?_⟩
 by_cases b:B≤i∧Is 5 a i
 ·exact b.2
 ·obtain⟨c,d,f⟩:=e.2
  exact⟨c,d,(h.block i hi b).symm.trans f⟩
theorem W8.kept (h:Ab No w w'):W8 B w w':=h.mono fun _ _ e=>e.elim
theorem W8.grown (h:W8 B a w){sv:Value}{n:Nat}{xs:List Value}(ho:w.ownsRow B 5 1 sv n xs)(hg:w.grownBy w' sv.ownBlock):W8 B a w':=h.trans ((Ab.refl _ _).grown hg fun x b=>.inr ⟨Bf ho x b,J9 ho x b⟩)
end
def DR (B:Nat)(t u:List UInt8)(w:World)(e:Ending)(w':World):Prop:=∃v',e=.returned v'∧Dx w' B v' (t++u)∧W8 B w w'
theorem NZ (v:V)(hv:Rj v)(B:Nat)(sv:Value)(t:List UInt8)(w:World)(g:Dx w B sv t)(hB:B≤w.heap.size)(_:t.length≤100000000000000)(i:Lib.TabBelow Tryz.prog B w "internal/strconv.uint64pow10" .u64 Lib.pow10Tab) :
 Calls Tryz.prog 121 #[J8 v,sv] w (DR B t (I9 v) w):=by
 cases v with
 |num n =>
  have y:oH (∀a,Below B w a→Dx a B sv t→B≤a.heap.size→Calls Tryz.prog 72 #[sv,.int .i64 n,.int .i64 10] a fun e w'=>∃v',e=.returned v'∧w'.ownsRow B 5 1 v' (t.length+(Lib.itoa n).length) (Lib.byteCells t++Lib.byteCells (Lib.itoa n))∧Below B a w'∧Lib.OthersKept 5 none a w') :=
   fun a h ho K=>Tryz.strconv_AppendInt_10 B t.length n hv.1 hv.2 sv (Lib.byteCells t) a ho K (by omega) (i.on h)
  have k:=Ad g;clear i g
  show Calls Tryz.prog 121 #[.agg #[.int .i32 0,.int .u8 0,.int .u8 0,.int .u8 0,.int .u8 0,.int .i64 n],sv] w (DR B t (Lib.itoa n) w)
  go_enter Tryz.func121,Tryz.ntmps121
  go_wp2_with fail
  refine (y.o _ ((Below.refl B w).alloc hB _) (k.o.alloc _) (by simp;omega)).mono ?_
  rintro e a ⟨v',rfl,ho,h,z⟩
  have L:oH (Dx a B v' (t++Lib.itoa n)):=by
   show a.ownsRow B _ 1 v' (t++Lib.itoa n).length (Lib.byteCells (t++Lib.itoa n))
   rw[kU,Lib.byteCells_append];exact ho
  have l:oH (W8 B w a):=(W8.kept ((Ab.refl No w).alloc _)).trans (W8.of h z);clear ho h z y;go_wp2_with fail;go_ret
  exact⟨_,rfl,L.o,l.o⟩
 |txt s =>
  have A:=DQ w (.txt s);have m:=Q0 (v:=.txt s) rfl A
  have o:=Ad (TY w.heap.size 1 4 s (w.alloc (.cells (Au (.txt s)).toArray 133)) hv.2.1 hv.2.2 (fun j c p=>by have:=m j c p;rw[lK] at this;exact this) (by omega) (by omega))
  have k:=Ad g;have M:=Ad m
  obtain⟨N,O,P,Q,R⟩:=info_parts II
  clear i g A m
  show Calls Tryz.prog 121 #[.agg #[.int .i32 1,.int .u8 (tB (.txt s) 0),.int .u8 (tB (.txt s) 1),.int .u8 (tB (.txt s) 2),.int .u8 (tB (.txt s) 3),.int .i64 0],sv] w (DR B t s w)
  change oH (Calls Tryz.prog 157 #[.slice (some ⟨w.heap.size,1,none⟩) 4 4,.string ⟨#[0]⟩] (w.alloc (.cells #[.int .i32 1,.int .u8 (tB (.txt s) 0),.int .u8 (tB (.txt s) 1),.int .u8 (tB (.txt s) 2),.int .u8 (tB (.txt s) 3),.int .i64 0] 133)) _) at o
  go_enter Tryz.func121,Tryz.ntmps121
  go_wp2_with fail;refine o.o.mono ?_;rintro e a ⟨rfl,b⟩
  have C:w.heap.size<(w.alloc (.cells #[.int .i32 1,.int .u8 (tB (.txt s) 0),.int .u8 (tB (.txt s) 1),.int .u8 (tB (.txt s) 2),.int .u8 (tB (.txt s) 3),.int .i64 0] 133)).heap.size:=by simp
  replace b:Ab No (w.alloc (.cells #[.int .i32 1,.int .u8 (tB (.txt s) 0),.int .u8 (tB (.txt s) 1),.int .u8 (tB (.txt s) 2),.int .u8 (tB (.txt s) 3),.int .i64 0] 133)) a:=b
  have Z:w.heap.size≤a.heap.size:=by have:=b.size;omega
  have D:∀(j:Nat) (d:Value),(Lib.byteCells s)[j]? =some d→a.cell? (Addr.add ⟨w.heap.size,1,none⟩ j)=some d:=fun j d f=>by
   unfold Lib.byteCells at f
   rw[kX] at f
   obtain⟨c,E,rfl⟩:=lJ.1 f
   have p:j<4:=by have:=(kS.1 E).1;have:=hv.2.1;omega
   have F:=M.o j c (by rw[V0 s j p,lI,E];rfl)
   have q:a.cell? ⟨w.heap.size,1+j,none⟩=some (.int .u8 (c.toNat:Int)):=by
    rw[b.cell C oI];rw[lK] at F;exact F
   unfold Addr.add
   split
   ·next S=>rw[S] at q;exact q
   ·exact q
  have G:W8 B w a:=W8.kept (((Ab.refl No w).alloc _).seq b)
  have r:a.ownsRow B 5 1 sv t.length (Lib.byteCells t):=A1 (k.o.alloc _) b (fun _ _ e=>e)
  have l:=Ad G;have T:s.length≤4:=hv.2.1
  have H:(Lib.byteCells s).length=s.length*1:=by simp[Lib.byteCells]
  have U:∀d∈Lib.byteCells s,d.oneCell'=true:=by intro d f;unfold Lib.byteCells at f;obtain⟨c,_,rfl⟩:=lD.1 f;rfl
  obtain⟨u,x⟩:∃u,s.length=u:=⟨_,rfl⟩
  have W:=Ad x
  rw[x] at H T⊢
  clear b o C G x
  go_wp2_with (first
   |(at_builtin;refine wpList_append_own_at _ rfl _ _ 149 rfl B 5 N (.int .u8 0) 1 1 Tryz.underlying149 O P Q R rfl (by decide) _ _ _ rfl r ⟨w.heap.size,1,none⟩ u 4 (Lib.byteCells s) rfl H D U (by unfold maxLen;omega) (by omega) (by omega) ?_;intro v' w5 I J _ _)
   |fail)
  have hg:a.grownBy w5 sv.ownBlock:=J;have X:oH (W8 B w w5):=l.o.grown r hg;have Y:=Ad I;clear hg J I r D;go_ret
  refine⟨_,rfl,?_,X.o⟩
  show w5.ownsRow B _ 1 _ (t++s).length (Lib.byteCells (t++s))
  rw[kU,Lib.byteCells_append,W.o];exact Y.o
open Go.RowKit
open Mo (V Row Bag cnt Af Be)
theorem IJ (b:Nat)(es:Array MapEntry)(a:Nat)(w:World)(c:w.heap[b]? =some (.map es a)) :
 Calls Tryz.prog 115 #[.map (some b)] w fun e w'=>e=.returned (.map (some w.heap.size))∧w'=w.alloc (.map es a):=by
 have d:=fun w=>run_eql_map_nil_sl (P:=Tryz.prog) w 83 _ _ (some b) Tryz.underlying83
 go_enter Tryz.func115,Tryz.ntmps115
 go_wp2
 rw[run_callFunc_extern Tryz.func151 (by kernel_rfl) (by kernel_rfl) (by kernel_rfl) (e:=Extern.MapsClone.clone) (by kernel_rfl),run_maps_clone_sl w 83 c]
 simp only[Result.andThen]
 rw[Oper.upon_value]
 go_wp2
 rw[run_typeAssert_map_sl _ 83 _ _ _ _ Tryz.underlying83]
 simp only[Result.andThen]
 rw[Oper.upon_value]
 go_wp2
 go_ret
 exact⟨rfl,rfl⟩
theorem OB (w:World):Calls Tryz.prog 115 #[.map none] w fun e w'=>e=.returned (.map none)∧w'=w:=by
 have a:=fun w=>run_eql_map_nil_sl (P:=Tryz.prog) w 83 _ _ none Tryz.underlying83
 go_enter Tryz.func115,Tryz.ntmps115
 go_wp2
 go_ret
 exact⟨rfl,rfl⟩
theorem OC (v:Value)(l:Bag)(w:World)(h:Gf w v l) :
 Calls Tryz.prog 115 #[v] w fun e w'=>∃v',e=.returned v'∧Gf w' v' l∧((v'=.map none∧v=.map none)∨v'=.map (some w.heap.size))∧w.heap.size≤w'.heap.size∧Ab No w w':=by
 rcases h with ⟨rfl,rfl⟩|⟨b,rfl,h⟩
 ·refine (OB w).mono ?_
  rintro e w' ⟨rfl,rfl⟩
  exact⟨_,rfl,.inl ⟨rfl,rfl⟩,.inl ⟨rfl,rfl⟩,kZ _,Ab.refl _ _⟩
 ·obtain⟨c,D,⟨es,a,d,f⟩,g⟩:=h
  refine (IJ b es a w d).mono ?_;rintro e w' ⟨rfl,rfl⟩
  refine⟨_,rfl,.inr ⟨_,rfl,c,D,⟨es,a,heap_alloc_last _ _,f⟩,g⟩,.inr rfl,by simp,(Ab.refl _ _).alloc _⟩
theorem IK (a:Nat)(w:World) :
 Calls Tryz.prog 116 #[.map (some a),.map none] w fun e w'=>e=.returned (.tuple #[])∧Ab No w w':=by
 have b:=run_range_nilMap (P:=Tryz.prog) w 83 154 2 Tryz.underlying83
 have c:∀ty,(Instr.next (.pointer (some ⟨w.heap.size,0,none⟩)) false ty).run Tryz.prog (w.alloc (.mapIter none 0 #[] 0))=_:=fun ty=>run_next_nilMap w ty 0 0 #[]
 go_enter Tryz.func116,Tryz.ntmps116
 go_wp2_with fail;refine wp_loop_rounds 1 ?_
 rw[rounds_succ]
 go_wp2_with fail;go_end0
 exact⟨rfl,(Ab.refl _ _).alloc _⟩
theorem Gf.is {w:World}{v:Value}{l:Bag}(h:Gf w v l):∃m,v=.map m:=by
 rcases h with ⟨rfl,_⟩|⟨b,rfl,_⟩ <;> exact⟨_,rfl⟩
theorem Gf.eqv {w:World}{v:Value}{l a:Bag}(h:Gf w v l)(e:Be l a)(c:l=[]→a=[])(d:∀x∈a,G5 x.1):Gf w v a:=by
 rcases h with ⟨rfl,h⟩|⟨b,rfl,h⟩
 ·exact .inl ⟨rfl,c h⟩
 ·exact .inr ⟨b,rfl,h.eqv e d⟩
def V1 (b o:Nat)(cs:Array Value)(ty:TypeId)(held:Value)(l:Bag)(w:World)(e:Ending)(w':World):Prop :=
 e=.returned (.tuple #[])∧∃held',w'.heap[b]? =some (.cells (cs.setIfInBounds o held') ty (0,0))∧Gf w' held' l∧(held'=held∨∀k,held'=.map (some k)→w.heap.size≤k)∧Ab (fun k=>k=b∨held=.map (some k)) w w'
theorem DS {cs:Array Value}{o:Nat}{v:Value}(h:cs[o]? =some v):cs.setIfInBounds o v=cs:=by
 refine Array.ext_getElem? fun i=>?_
 rw[lX]
 by_cases hi:o=i
 ·subst hi;rw[if_pos rfl,if_pos (Array.getElem?_eq_some_iff.1 h).1,h]
 ·rw[if_neg hi]
theorem Na (b o:Nat)(cs:Array Value)(ty:TypeId)(held cv:Value)(B d:Bag)(w:World)(g:w.heap[b]? =some (.cells cs ty (0,0)))(ho:cs[o]? =some held)(n:Gf w held B)(h:Gf w cv d)
 (t:∀k,held=.map (some k)→cv≠.map (some k)) (A:(Af B).length+(Af d).length<maxLen) :
 Calls Tryz.prog 66 #[.pointer (some ⟨b,o,none⟩),cv] w (V1 b o cs ty held (d++B) w):=by
 have C:w.cell? ⟨b,o,none⟩=some held:=by rw[Ae g];exact ho
 rcases n with ⟨rfl,rfl⟩|⟨k,rfl,n⟩
 ·have a:=fun w=>run_eql_map_nil_sl (P:=Tryz.prog) w 83 _ _ none Tryz.underlying83
  have u:=Ad h;have j:=Ad g
  obtain⟨m,rfl⟩:=h.is
  clear h g t
  go_enter Tryz.func66,Tryz.ntmps66
  go_wp2_with fail;refine (OC _ d _ u.o).mono ?_;rintro e p ⟨v',rfl,l,x,D,f⟩;have r:p.heap[b]? =some (.cells cs ty (0,0)):=(f.block b (Aa j.o) oI).trans j.o;have K:p.frozen? ⟨b,o,none⟩=false:=Aj r _
  have c1:p.cell? ⟨b,o,none⟩=some (.map none):=by rw[Ae r];exact ho
  obtain⟨y,rfl⟩:=l.is
  have E:oH (V1 b o cs ty (.map none) (d++[]) w (.returned (.tuple #[])) (p.setCell ⟨b,o,none⟩ (.map y))):=by
   refine⟨rfl,.map y,Ap r _ _,?_,?_,?_⟩
   ·rw[nR]
    refine l.B2 fun q a=>?_
    have F:q≠b:=by
     rintro rfl
     rcases l with ⟨e,_⟩|⟨b',e,hb'⟩
     ·rw[e] at a;cases a
     ·rw[e] at a
      have:b'=q:=by simpa using a
      subst this
      obtain⟨es,G,v⟩:=hb'.obj
      rw[v] at r;cases r
    exact Below.heap_setCell _ _ _ _ F
   ·rcases x with ⟨e,_⟩|e
    ·exact .inl e
    ·exact .inr fun q a=>by rw[e] at a;have:w.heap.size=q:=by simpa using a
                            omega
   ·exact f.any.setCell (.inr (.inl rfl)) _
  clear r l x D f C;go_wp2_with fail;refine bodyPost_ret (results_none rfl _ _ _) rfl ?_;exact E.o
 ·have a:=fun w=>run_eql_map_nil_sl (P:=Tryz.prog) w 83 _ _ (some k) Tryz.underlying83
  have j:=Ad g;have z:=Ad n
  have H:b≠k:=by
   rintro rfl
   obtain⟨es,G,v⟩:=n.obj
   rw[v] at g;cases g
  rcases h with ⟨rfl,rfl⟩|⟨c,rfl,h⟩
  ·clear g n t
   go_enter Tryz.func66,Tryz.ntmps66
   go_wp2_with fail;refine (IK k _).mono ?_;rintro e p ⟨rfl,f⟩;have s:=Ad f;clear f;go_wp2_with fail;go_end0
   refine⟨rfl,.map (some k),?_,.inr ⟨k,rfl,z.o.kept s.o oI⟩,.inl rfl,s.o.any⟩
   rw[DS ho];exact (s.o.block b (Aa j.o) oI).trans j.o
  ·have u:=Ad h
   have I:k≠c:=fun e=>t k rfl (by rw[e])
   clear g n t h
   go_enter Tryz.func66,Tryz.ntmps66
   go_wp2_with fail;refine (GY k c B d _ z.o u.o I A).mono ?_;rintro e p ⟨rfl,l,f⟩;have s:=Ad f;have J:=Ad l;clear f l;go_wp2_with fail;go_end0
   refine⟨rfl,.map (some k),?_,.inr ⟨k,rfl,J.o⟩,.inl rfl,s.o.mono fun i _ e=>.inr (by rw[e])⟩
   rw[DS ho];exact (s.o.block b (Aa j.o) H).trans j.o
open Mo (V Row Bag cnt Af Be B0 Fw neg)
def oB (w:World)(O:Ow)(id:Nat):Ow:=fun k=>if k<w.heap.size then O k else id
theorem Oj {w:World}{O:Ow}{id k:Nat}(h:k<w.heap.size):oB w O id k=O k:=if_pos h
theorem TZ {w:World}{O:Ow}{id k:Nat}(h:w.heap.size≤k):oB w O id k=id:=if_neg (by omega)
def E9 (w:World)(O:Ow)(b:Nat)(mv:Value)(B:Bag):Prop:=Gf w mv (Af B)∧∀k,mv=.map (some k)→O k=b+2
theorem Gf.lt {w:World}{v:Value}{l:Bag}(h:Gf w v l){k:Nat}(a:v=.map (some k)):k<w.heap.size:=by
 rcases h with ⟨rfl,_⟩|⟨b,rfl,h⟩
 ·cases a
 ·have:b=k:=by simpa using a
  subst this;exact h.lt
theorem E9.stab {w w':World}{O a:Ow}{b:Nat}{c:Value}{B:Bag}(h:E9 w O b c B)(d:∀k,k<w.heap.size→O k=b+2→w'.heap[k]? =w.heap[k]?∧a k=O k):E9 w' a b c B :=
 ⟨h.1.B2 fun k e=>(d k (h.1.lt e) (h.2 k e)).1,fun k e=>((d k (h.1.lt e) (h.2 k e)).2).trans (h.2 k e)⟩
theorem E9.eqv {w:World}{O:Ow}{b:Nat}{a:Value}{B c:Bag}(h:E9 w O b a B)(e:Be B c):E9 w O b a c:=by
 unfold E9 at *;rw[←e.canon];exact h
theorem E9.nil (w:World)(O:Ow)(b:Nat):E9 w O b (.map none) []:=⟨.inl ⟨rfl,rfl⟩,fun k e=>by cases e⟩
theorem E9.Kj {w:World}{O:Ow}{b:Nat}{d:Value}{B:Bag}(h:E9 w O b d B){k:Nat}(a:d=.map (some k)){c:Array Value}{t:TypeId}{g:Nat×Nat}{j:Nat}(f:w.heap[j]? =some (.cells c t g)):j≠k:=by
 rintro rfl
 rcases h.1 with ⟨e,_⟩|⟨b',e,h'⟩
 ·rw[e] at a;cases a
 ·rw[e] at a
  have:b'=j:=by simpa using a
  subst this
  obtain⟨es,_,i⟩:=h'.obj
  rw[i] at f;cases f
theorem V1.mem {b o:Nat}{cs:Array Value}{ty:TypeId}{held:Value}{B d:Bag}{w w':World}{O:Ow}{e:Ending}(h:V1 b o cs ty held (Af d++Af B) w e w')(f:E9 w O b held B)(g:∀x∈Af (B++d),G5 x.1) :
 e=.returned (.tuple #[])∧∃a,w'.heap[b]? =some (.cells (cs.setIfInBounds o a) ty (0,0))∧E9 w' (oB w O (b+2)) b a (B++d)∧(a=held∨∀k,a=.map (some k)→w.heap.size≤k)∧Ab (fun k=>k=b∨held=.map (some k)) w w':=by
 obtain⟨i,a,j,l,c,m⟩:=h
 refine⟨i,a,j,⟨l.eqv (fun r=>?_) (fun e=>?_) g,fun k e=>?_⟩,c,m⟩
 ·rw[Mo.Am,Mo.As,Mo.As,Mo.As,Mo.Am];omega
 ·rw[Mo.Gp]
  intro r;have e1:Af d=[]:=(List.append_eq_nil_iff.1 e).1;have n:Af B=[]:=(List.append_eq_nil_iff.1 e).2
  rw[Mo.Am,Mo.Gp.1 e1 r,Mo.Gp.1 n r];rfl
 ·rcases c with rfl|c
  ·rw[Oj (f.1.lt e)];exact f.2 k e
  ·exact TZ (c k e)
def Dy (w:World)(O:Ow)(v:Nat)(told B:Bag):Prop:=O v=v+2∧∃hv uv,w.heap[v]? =some (.cells #[hv,uv] 87 (0,0))∧E9 w O v hv told∧E9 w O v uv (B++neg told)∧∀k,uv=.map (some k)→hv≠.map (some k)
theorem Dy.stab {w w':World}{O b:Ow}{v:Nat}{told B:Bag}(h:Dy w O v told B)(a:∀k,k<w.heap.size→O k=v+2→w'.heap[k]? =w.heap[k]?∧b k=O k):Dy w' b v told B:=by
 obtain⟨c,hv,f,d,g,i,j⟩:=h
 have e:=a v (Aa d) c
 exact⟨e.2.trans c,hv,f,e.1.trans d,g.stab a,i.stab a,j⟩
theorem Dy.eqv {w:World}{O:Ow}{v:Nat}{told B a:Bag}(h:Dy w O v told B)(e:Be B a):Dy w O v told a:=by
 obtain⟨b,hv,c,d,f,g,i⟩:=h
 exact⟨b,hv,c,d,f,g.eqv (e.append (Be.refl _)),i⟩
theorem aB:Qy 81 249:=⟨fun _ _=>by kernel_rfl,fun _ _=>by kernel_rfl,enters_of Tryz.func249 (by kernel_rfl) rfl⟩
theorem OD (v c:Nat)(hv a:Value)(B d:Bag)(w:World)(b:w.heap[v]? =some (.cells #[hv,a] 87 (0,0)))(f:Gf w a B)(g:Aw w c d)(h:a≠.map (some c))(i:(Af B).length+(Af d).length<maxLen) :
 Calls Tryz.prog 249 #[.pointer (some ⟨v,0,none⟩),.map (some c)] w (V1 v 1 #[hv,a] 87 a (d++B) w):=by
 have l:=Ad (Na v 1 #[hv,a] 87 a (.map (some c)) B d w b rfl f (.inr ⟨c,rfl,g⟩) (fun k e m=>h (e.trans m.symm)) i)
 clear b f g h i
 go_enter Tryz.func249,Tryz.ntmps249
 go_wp2_with fail;refine l.o.mono ?_;rintro e o ⟨rfl,j⟩;have n:=Ad j;clear j;go_wp2_with fail;go_end0
 exact⟨rfl,n.o⟩
theorem V2 (v:Nat)(ts:List Bool)(told:Bag)(o:B0 ts told):Et 81 249 ⟨v,0,none⟩ (fun a=>a=v+2) ts (B0 ts) (fun w O B=>Dy w O v told B) where
 zero:=by omega
 one:=by omega
 ok:=fun h=>h
 gde:=fun h e=>h.eqv e
 stab:=fun h _ j=>h.stab fun k x e=>j k x (.inl e)
 eqv:=fun h e=>h.eqv e
 met:=aB
 run:=by
  rintro w O B d c ⟨p,hv,q,l,b,f,s⟩ hB t y z;have A:=hB.chg t
  have C:Fw ts (B++neg told):=by
   have m:Be (told++(B++neg told)) B:=fun r=>by rw[Mo.Am,Mo.Am,Mo.Ej];omega
   exact o.chg (hB.eqv m.symm)
  have D:Fw ts ((B++neg told)++d):=by
   have m:Be (told++((B++neg told)++d)) (B++d):=fun r=>by simp only[Mo.Am,Mo.Ej];omega
   exact o.chg (t.eqv m.symm)
  have E:q≠.map (some c):=fun e=>z (f.2 c e)
  refine (OD v c hv q (Af (B++neg told)) (Af d) w l f.1 y E (by
   have e1:=C.len;have K:=A.len
   rw[Mo.Ch (Mo.Aq _),Mo.Ch (Mo.Aq _)]
   unfold maxLen;omega)).mono fun e w' F=>?_
  obtain⟨G,H,I,J,n,u⟩:=F.mem f D.cV
  refine⟨G,oB w O (v+2),fun k j=>Oj j,u.mono fun i hi e=>?_,?_⟩
  ·rcases e with rfl|e
   ·exact p
   ·exact f.2 i e
  ·refine⟨by rw[Oj (Aa l)];exact p,hv,H,I,?_,?_,?_⟩
   ·refine⟨b.1.kept u fun k e=>?_,fun k e=>by rw[Oj (b.1.lt e)];exact b.2 k e⟩
    rintro (rfl|g)
    ·exact b.Kj e l rfl
    ·exact s k g e
   ·exact J.eqv fun r=>by simp only[Mo.Am];omega
   ·intro k e g
    rcases n with rfl|n
    ·exact s k e g
    ·have:=n k e
     have:=b.1.lt g
     omega
def Uh (w:World)(O:Ow)(b:Nat)(T:Value):Prop:=O b=b+2∧∃g cap,w.heap[b]? =some (.cells #[DK g cap] 289 (0,0))∧Qb w O b g T
theorem Uh.stab {w w':World}{O c:Ow}{b:Nat}{T:Value}(h:Uh w O b T)(d:∀k,k<w.heap.size→O k=b+2→w'.heap[k]? =w.heap[k]?∧c k=O k):Uh w' c b T:=by
 obtain⟨e,g,cap,f,a⟩:=h
 have i:=d b (Aa f) e
 exact⟨i.2.trans e,g,cap,i.1.trans f,a.stab (d g a.lt a.1)⟩
theorem dY:Qy 287 265:=⟨fun _ _=>by kernel_rfl,fun _ _=>by kernel_rfl,enters_of Tryz.func265 (by kernel_rfl) rfl⟩
theorem UA (b c:Nat)(w:World)(Q:Ending→World→Prop)(a:Calls Tryz.prog 250 #[.pointer (some ⟨b,0,none⟩),.map (some c)] w fun e w'=>e=.returned (.tuple #[])∧Q e w') :
 Calls Tryz.prog 265 #[.pointer (some ⟨b,0,none⟩),.map (some c)] w Q:=by
 have f:=Ad a;clear a
 go_enter Tryz.func265,Tryz.ntmps265
 go_wp2_with fail;refine f.o.mono ?_;rintro e h ⟨rfl,d⟩;have g:=Ad d;clear d;go_wp2_with fail;go_end0;exact g.o
theorem Pp {ty:TypeId}{f:Nat}{p:Addr}{A:Nat→Prop}{ts:List Bool}{Gd:Bag→Prop}{R:World→Ow→Bag→Prop}(j:Et ty f p A ts Gd R)(b:Nat)(us:List Bool)(F:Bag→Bag)(m:∀B d,Be (F B++d) (F (B++d)))(n:∀{B q:Bag},Be B q→Be (F B) (F q))(x:¬A (b+2)) :
 Et 287 265 ⟨b,0,none⟩ (fun a=>A a∨a=b+2) us (fun B=>B0 us B∧Gd (F B)) (fun w O B=>R w O (F B)∧Uh w O b (.iface ty (.pointer (some p)))) where
 zero:=fun h=>h.elim j.zero (by omega)
 one:=fun h=>h.elim j.one (by omega)
 ok:=fun h=>h.1
 gde:=fun h e=>⟨h.1.eqv e,j.gde h.2 (n e)⟩
 stab:=fun h y r=>⟨j.stab h.1 y fun k l z=>r k l (z.imp .inl id),h.2.stab fun k l e=>r k l (.inl (.inr e))⟩
 eqv:=fun h e=>⟨j.eqv h.1 (n e),h.2⟩
 met:=dY
 run:=by
  rintro w O B d c ⟨C,D⟩ ⟨_,E⟩ ⟨_,G⟩ H I
  obtain⟨J,g,cap,s,hg⟩:=D
  refine UA b c w _ ?_
  refine (j.give (b:=b) (c:=c) (g:=g) (o:=0) (cap:=cap) ((Ae s 0).trans rfl) hg.cell C E (j.gde G (m B d).symm) H (fun h=>I (.inl h))).mono fun e w4 t=>⟨t.1,?_⟩
  obtain⟨K,L,u,v,M⟩:=t
  refine⟨K,L,u,v.mono fun i _ e=>.inl e,j.eqv M (m B d),?_⟩
  exact Uh.stab ⟨J,g,cap,s,hg⟩ fun k l e=>⟨v.block k l (by rw[e];exact x),u k l⟩
set_option linter.unusedSimpArgs false
open Mo (V Row Bag cnt Af Be B0 Fw Ay B1)
def Ol (w:World)(O:Ow)(cv:Value)(cs:List Nat):Prop:=Gg w cv cs∧∀k,cv.ownBlock=some k→O k=1
theorem Gg.lt {w:World}{v:Value}{cs:List Nat}(h:Gg w v cs){k:Nat}(a:v.ownBlock=some k):k<w.heap.size:=by
 rcases h with ⟨rfl,_⟩|⟨b,o,cap,rfl,hb,_⟩
 ·cases a
 ·have:b=k:=by simpa [Value.ownBlock] using a
  subst this;exact hb
theorem Ol.stab {w w':World}{O d:Ow}{cv:Value}{cs:List Nat}(h:Ol w O cv cs)(j:w.heap.size≤w'.heap.size)(f:∀k,k<w.heap.size→O k=1→w'.heap[k]? =w.heap[k]?∧d k=O k):Ol w' d cv cs:=by
 refine⟨?_,fun k e=>((f k (h.1.lt e) (h.2 k e)).2).trans (h.2 k e)⟩
 rcases h.1 with a|⟨b,o,cap,rfl,g,a⟩
 ·exact .inl a
 ·exact .inr ⟨b,o,cap,rfl,kV g j,fun i c l=>(World.cell?_of_block (f b g (h.2 b rfl)).1).trans (a i c l)⟩
def Om (w:World)(O:Ow)(b:Nat)(T:Value)(cs:List Nat):Prop:=O b=b+2∧∃g cap cv,w.heap[b]? =some (.cells #[DK g cap,cv] 280 (0,0))∧Qb w O b g T∧Ol w O cv cs
theorem Om.stab {w w':World}{O d:Ow}{b:Nat}{T:Value}{cs:List Nat}(h:Om w O b T cs)(l:w.heap.size≤w'.heap.size)(a:∀k,k<w.heap.size→O k=b+2∨O k=1→w'.heap[k]? =w.heap[k]?∧d k=O k):Om w' d b T cs:=by
 obtain⟨f,g,cap,cv,i,c,m⟩:=h
 have j:=a b (Aa i) (.inl f)
 exact⟨j.2.trans f,g,cap,cv,j.1.trans i,c.stab (a g c.lt (.inl c.1)),m.stab l fun k n e=>a k n (.inr e)⟩
theorem IL (cs:List Nat)(es:Bag)(q:Row)(t:Int):B1 cs (es++[(q,t)])=B1 cs es++[(Ay cs q,t)]:=by rw[Mo.M2];rfl
theorem Gg.slc {w:World}{v:Value}{cs:List Nat}(h:Gg w v cs):∃a n c,v=.slice a n c:=by obtain⟨a,c,e⟩:=h.is;exact⟨a,_,c,e⟩
theorem OE (b c g cap:Nat)(cv:Value)(cs:List Nat)(us:List Bool)(Z:∀x∈cs,x<6)(aa:cs.length≤6)(ab:∀{q:Row},Mo.Dr us q→G5 (Ay cs q))(d:Bag)(w:World)(Q:Ending→World→Prop)(G:w.heap[b]? =some (.cells #[DK g cap,cv] 280 (0,0)))(H:Gg w cv cs)(ac:Fw us d)(v:Aw w c (Af d))
 (ad:∀w3 es,Nu (Af d) es→Aw w3 w.heap.size (B1 cs es)→Ab No w w3→Calls Tryz.prog 250 #[.pointer (some ⟨b,0,none⟩),.map (some w.heap.size)] w3 fun e w'=>e=.returned (.tuple #[])∧Q e w') :
 Calls Tryz.prog 259 #[.pointer (some ⟨b,0,none⟩),.map (some c)] w Q:=by
 have ae:oH (Aw (w.alloc (.map #[] 0)) c (Af d)):=v.B2 (Below.heap_alloc _ _ _ v.lt);have af:oH (Aw (w.alloc (.map #[] 0)) w.heap.size []):=Aw.made w
 obtain⟨m,n,o,rfl⟩:=H.slc
 have a7:=Ad G;have a8:=Ad ad;have a9:=Ad H;have ba:=Ad Z;have bb:=Ad aa
 have ag:oH (∀q:Row,Mo.Dr us q→G5 (Ay cs q)):=fun q p=>ab p
 have HD:=Ad ac;have bq:=v.lt;have bc:=Aa G;clear v G ad H Z aa ab ac;have bd:=@run_makeMap Tryz.prog
 go_enter Tryz.func259,Tryz.ntmps259
 go_wp2_with (first
  |(at_range;refine En _ rfl _ rfl c (Af d) rfl ae.o ?_;intro ah be I J ai)
  |fail)
 have bf:(w.alloc (.map #[] 0)).heap.size=w.heap.size+1:=by simp
 rw[bf] at I ai⊢
 have aj:=Ad I;have ak:oH (Aw ah w.heap.size (B1 cs [])):=af.o.kept J oI;have al:Ab No w ah:=((Ab.refl No w).alloc _).seq J;have am:=Ad al;clear I ai J al ae af bd
 go_frame
 go_loopg [] be (fun k wr=>∃es:Bag,oH (G1 wr c (w.heap.size+1) (Af d) es k)∧oH (Aw wr w.heap.size (B1 cs es))∧oH (Ab No w wr))
 case atStart=>exact⟨[],aj,ak,am⟩
 case round =>
  obtain⟨es,hr,an,l⟩:=hrel
  clear aj ak am
  go_wp2_with (first
   |(at_next;refine E8 _ rfl _ rfl c (w.heap.size+1) (Af d) es gk rfl hr.o ?_ ?_)
   |fail)
  ·intro ao
   have bg:=Ad (a8.o wr es ao an.o l.o);clear ao;go_wp2_with fail;refine bg.o.mono ?_;rintro e w4 ⟨rfl,p⟩;have bh:=Ad p;clear p;go_wp2_with fail;go_end0;exact bh.o
  ·intro t q a ap p aq ar au bi L bj br
   have M:=Ad au
   have N:oH (Mo.Dr us q):=HD.o.good (by rw[←HD.o.iC,←aq];exact ar)
   have y:Ab No w a:=l.o.trans L (fun _ e=>e) (fun i hi e=>by omega)
   have O:=Ad y
   have av:Aw a w.heap.size (B1 cs es):=an.o.kept L (fun e=>by omega)
   have z:=Ad av
   have bk:oH ((Af (B1 cs es)).length<maxLen):=by
    have e1:=M.o.ZR.len;have bs:=HD.o.len;have bl:=Mo.Cq (B1 cs es) [];have bt:(B1 cs es).length=es.length:=lB _
    simp[Mo.Af] at e1 bl
    rw[Mo.Ch (Mo.Aq d)] at e1
    show _<_
    unfold maxLen;omega
   have bu:w.heap.size≤a.heap.size:=y.size;have aw:a.heap[b]? =some (.cells #[DK g cap,.slice m n o] 280 (0,0)):=(y.block b bc oI).trans a7.o;have P:=Ad aw;clear p au L aq ar av bj y aw
   go_wp2_with (first
    |(refine Cw _ _ _ rfl rfl a _ rfl rfl rfl q rfl ?_)
    |fail)
   have ax:(a.alloc (.cells (An q) 154)).heap[b]? =some (.cells #[DK g cap,.slice m n o] 280 (0,0)):=(Below.heap_alloc _ _ _ (Aa P.o)).trans P.o;have ay:(a.alloc (.cells (An q) 154)).heap[a.heap.size]? =some (.cells (An q) 154 (0,0)):=heap_alloc_last _ _;have A:=Ad (And.intro ax ay);have az:Ab No a (a.alloc (.cells (An q) 154)):=(Ab.refl No a).alloc _;have u:=Ad az;clear ax ay az;generalize a.alloc (.cells (An q) 154)=W at A u⊢
   obtain⟨r,R⟩:∃r,r=#[DK g cap,.slice m n o]:=⟨_,rfl⟩
   obtain⟨j,B⟩:∃j,j=An q:=⟨_,rfl⟩
   obtain⟨C,T⟩:∃C,C=An (Ay cs q):=⟨_,rfl⟩
   have a0:oH (∀w',Ab No W w'→Calls Tryz.prog 260 #[.agg j,.slice m n o] w' fun e D=>e=.returned (.agg C)∧Ab No w' D):=by
    subst T B
    exact fun w' U=>TM q cs _ w' (a9.o.kept ((O.o.seq u.o).seq U) (fun _ _ e=>e)) ba.o bb.o
   have a1:oH (∀w:World,w.heap[a.heap.size]? =some (.cells j 154 (0,0))→(loadVar 154 ⟨a.heap.size,0,none⟩).run Tryz.prog w=.ok (.agg j) w):=by
    subst B
    exact fun w h=>run_loadVar_row w a.heap.size 154 154 (An q) (0,0) _ h Tryz.underlying154 rfl (by rw[Bz];exact F3)
   have a2:oH (∀w:World,w.heap[b]? =some (.cells r 280 (0,0))→w.cell? ⟨b,1,none⟩=some (.slice m n o)):=by
    subst R
    exact fun w h=>(Ae h 1).trans rfl
   rw[←R,←B] at A
   have a3:oH (∀w',Ab No a w'→Calls Tryz.prog 79 #[.map (some w.heap.size),.agg C,.int .i64 t] w' fun e D=>e=.returned (.tuple #[])∧Aw D w.heap.size ((Ay cs q,t)::B1 cs es)∧Ab (·=w.heap.size) w' D):=by
    subst T
    exact fun w' U=>U0 w.heap.size (B1 cs es) (Ay cs q) t w' (z.o.kept U oI) (ag.o q N.o) bk.o
   have bm:oH (G5 (Ay cs q)):=ag.o q N.o;clear R T N P B
   refine wp_region_held_drew (S:=fun w'=>w'.heap[b]? =some (.cells r 280 (0,0))∧w'.heap[a.heap.size]? =some (.cells j 154 (0,0))) (by kernel_rfl) A.o (fun f=>?_)
   refine Bo 0 (.map (some w.heap.size)) f ?_
   try simp only[Act.put,B6,B7,B8,B9,Ca,Cb]
   refine AD 1 (.agg j) 154 (.tmp 5) (a.heap.size) (0) (fun w h=>a1.o w h.2) f ?_
   try simp only[Act.put,B6,B7,B8,B9,Ca,Cb]
   refine Bo 2 (.pointer (some ⟨b,0,none⟩)) f ?_
   try simp only[Act.put,B6,B7,B8,B9,Ca,Cb]
   refine Bo 3 (.pointer (some ⟨b,0,none⟩)) f ?_
   try simp only[Act.put,B6,B7,B8,B9,Ca,Cb]
   refine Bo 4 (.pointer (some ⟨b,1,none⟩)) f ?_
   try simp only[Act.put,B6,B7,B8,B9,Ca,Cb]
   refine AC 5 (.slice m n o) 136 (.tmp 19) (b) (1) (fun w h=>a2.o w h.1) f ?_
   try simp only[Act.put,B6,B7,B8,B9,Ca,Cb]
   refine Bo 7 (.int .i64 t) f ?_
   try simp only[Act.put,B6,B7,B8,B9,Ca,Cb]
   have V:oH (Ab No W W.drew):=(Ab.refl No W).drew
   refine Kf 6 (fun K l=>?_)
   go_simp;refine (a0.o _ V.o).mono ?_;rintro e w3 ⟨rfl,E⟩;have a4:w3.heap[b]? =some (.cells r 280 (0,0))∧w3.heap[a.heap.size]? =some (.cells j 154 (0,0)):=⟨(E.block b (Aa f.1) oI).trans f.1,(E.block _ (Aa f.2) oI).trans f.2⟩;have X:oH (Ab No W w3):=V.o.seq E
   refine l.out _ _ a4 (fun f=>?_)
   clear l K E
   try simp only[Act.put,B6,B7,B8,B9,Ca,Cb]
   refine Kf 8 (fun K l=>?_)
   go_simp;refine (a3.o _ (u.o.seq X.o)).mono ?_;rintro e w5 ⟨rfl,a5,F⟩
   have a6:w5.heap[b]? =some (.cells r 280 (0,0))∧w5.heap[a.heap.size]? =some (.cells j 154 (0,0)):=⟨(F.block b (Aa f.1) (by omega)).trans f.1,(F.block _ (Aa f.2) (by have:=z.o.lt;omega)).trans f.2⟩
   have Y:oH (Ab (·=w.heap.size) a w5):=(u.o.seq X.o).SB F
   refine l.out _ _ a6 (fun f=>?_)
   clear l K F
   refine wpAnyH_done (by kernel_rfl) ?_ _
   clear a4 a6 X a0 a3 a1 a2 f u V A
   try simp only[Act.put,B6,B7,B8,B9,Ca,Cb]
   have bn:oH (G1 w5 c (w.heap.size+1) (Af d) (es++[(q,t)]) ap):=M.o.kept Y.o (fun e=>by omega) (fun e=>by omega)
   have bo:oH (Aw w5 w.heap.size (B1 cs (es++[(q,t)]))):=by
    show Aw _ _ _
    rw[IL]
    refine a5.eqv (fun x=>?_) (fun x s=>?_)
    ·simp only[Mo.Am,cnt];omega
    ·rcases lC.1 s with s|s
     ·exact z.o.1 x s
     ·simp at s;subst s;exact bm.o
   have bp:oH (Ab No w w5):=O.o.trans Y.o (fun _ e=>e) (fun i hi e=>by omega)
   clear a5 M z O Y;go_wp2_with fail;go_roundg ap
   case measure=>exact bi
   case rel=>exact⟨es++[(q,t)],bn,bo,bp⟩
theorem aD:Qy 278 259:=⟨fun _ _=>by kernel_rfl,fun _ _=>by kernel_rfl,enters_of Tryz.func259 (by kernel_rfl) rfl⟩
theorem V3 {ty:TypeId}{f:Nat}{p:Addr}{A:Nat→Prop}{ts:List Bool}{Gd:Bag→Prop}{R:World→Ow→Bag→Prop}(i:Et ty f p A ts Gd R)(b:Nat)(cs:List Nat)(us:List Bool)(E:∀x∈cs,x<6)(F:cs.length≤6)(G:∀{q:Row},Mo.Dr us q→G5 (Ay cs q))(H:¬A (b+2)) :
 Et 278 259 ⟨b,0,none⟩ (fun a=>A a∨a=b+2) us (fun B=>B0 us B∧Gd (B1 cs B)) (fun w O B=>R w O (B1 cs B)∧Om w O b (.iface ty (.pointer (some p))) cs) where
 zero:=fun h=>h.elim i.zero (by omega)
 one:=fun h=>h.elim i.one (by omega)
 ok:=fun h=>h.1
 gde:=fun h e=>⟨h.1.eqv e,i.gde h.2 (Mo.Fy e)⟩
 stab:=fun h s l=>⟨i.stab h.1 s fun k j n=>l k j (n.imp .inl id),h.2.stab s fun k j e=>l k j (e.imp .inr id)⟩
 eqv:=fun h e=>⟨i.eqv h.1 (Mo.Fy e),h.2⟩
 met:=aD
 run:=by
  rintro w O B d c ⟨I,J⟩ ⟨K,t⟩ ⟨L,r⟩ M ab;have u:=K.chg L
  obtain⟨N,g,cap,cv,m,hg,v⟩:=J
  refine OE b c g cap cv cs us E F G d w _ m v.1 u M fun w3 es P n l=>?_
  have Q:Be (B1 cs es) (B1 cs d):=Mo.Fy (P.eqv u)
  rw[Mo.M2] at r
  have S:=(i.ok t).chg (i.ok r);have y:w3.heap[b]? =some (.cells #[DK g cap,cv] 280 (0,0)):=(l.block b (Aa m) oI).trans m;have T:w3.heap[g]? =w.heap[g]? :=l.block g hg.lt oI;have z:Qb w3 (oN w O) b g (.iface ty (.pointer (some p))):=hg.stab ⟨T,M8 hg.lt⟩
  have U:Ol w3 (oN w O) cv cs:=v.stab l.size fun k j e=>⟨l.block k j oI,M8 j⟩
  have V:Aw w3 w.heap.size (Af (B1 cs d)):=n.eqv (Q.trans (Mo.Bv _).symm) S.cV
  have W:R w3 (oN w O) (B1 cs B):=i.kept I l (fun _ e=>e.elim) (fun k j=>M8 j)
  refine (i.give (b:=b) (c:=w.heap.size) (g:=g) (o:=0) (cap:=cap) ((Ae y 0).trans rfl) z.cell W t r V (by rw[TT (kZ _)];exact i.zero)).mono fun e w4 C=>⟨C.1,?_⟩
  refine Il.up (b:=b) l.any C fun X Y D Z=>⟨by rw[Mo.M2];exact Z,?_⟩
  have aa:∀k,k<w3.heap.size→oN w O k=b+2∨oN w O k=1→w4.heap[k]? =w3.heap[k]?∧X k=oN w O k:=fun k j e=>⟨D.block k j (by rcases e with e|e <;> rw[e];exact H;exact i.one),Y k j⟩
  exact Om.stab ⟨by rw[M8 (Aa m)];exact N,g,cap,cv,y,z,U⟩ D.size aa
end Go.Proofs.YtdinjjmcmfjbfaaGreatDoor
