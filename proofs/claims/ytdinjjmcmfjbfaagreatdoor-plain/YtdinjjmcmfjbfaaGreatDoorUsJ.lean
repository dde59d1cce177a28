import Derived.Test.YtdinjjmcmfjbfaaGreatDoorUgJ
import Derived.Laws.StructEq
set_option maxRecDepth 100000
set_option maxHeartbeats 4000000
namespace Go.Proofs.YtdinjjmcmfjbfaaGreatDoor
open Go.RowKit
open Mo (V Row Bag ty)
variable {Z:Nat→Prop}
def JY (ts:List Bool)(c:Nat):List UInt8:=match ts[c]? with
 |some b=>[RY b]
 |none=>[]
theorem bI {ts:List Bool}{c:Nat}{b:Bool}(h:ts[c]? =some b):(⟨(Ht ts).toArray⟩:ByteArray).extract c (c+1)=⟨[RY b].toArray⟩:=by
 apply ByteArray.ext
 rw[ByteArray.data_extract]
 have a:(Ht ts)[c]? =some (RY b):=by unfold Ht;rw[kX,h];rfl
 apply Array.ext'
 rw[Array.toList_extract]
 simp only[List.extract_eq_take_drop]
 rw[show c+1-c=1 by omega,mC (kS.1 a).1,(kS.1 a).2]
 simp
theorem Ww (ts:List Bool)(c:Nat)(w:World)(_:c≤1000) :
 Calls Tryz.prog 169 #[.string ⟨(Ht ts).toArray⟩,.int .i64 (c:Int)] w fun e w'=>e=.returned (.string ⟨(JY ts c).toArray⟩)∧w'=w:=by
 have a:=FA ts
 have h:=Ad (fun b=>bI (ts:=ts) (c:=c) (b:=b))
 obtain⟨S,i⟩:∃S,(⟨(Ht ts).toArray⟩:ByteArray)=S:=⟨_,rfl⟩
 rw[i] at a h⊢
 clear i
 have k:¬(c:Int)<0:=by omega
 by_cases d:c<ts.length
 ·obtain⟨b,f⟩:∃b,ts[c]? =some b:=⟨_,kT d⟩
  have g:oH (S.extract c (c+1)=⟨(JY ts c).toArray⟩):=by show _=_;rw[h.o b f];unfold JY;rw[f]
  have j:¬(S.size:Int)≤(c:Int):=by omega
  have l:(0:Int)≤(c:Int):=by omega
  have m:(c:Int)≤(c:Int)+1:=by omega
  have n:(c:Int)+1≤(S.size:Int):=by omega
  clear f d a
  go_enter Tryz.func169,Tryz.ntmps169
  go_wp2_with fail;go_ret
  exact⟨Gx g.o,rfl⟩
 ·have g:oH (JY ts c=[]):=by show _=_;unfold JY;rw[mD (by omega)]
  have j:(S.size:Int)≤(c:Int):=by omega
  clear d a
  go_enter Tryz.func169,Tryz.ntmps169
  go_wp2_with fail;go_ret
  exact⟨Gx (by rw[g.o]),rfl⟩
def fE (cs:List Nat)(ts:List Bool):List UInt8:=match Mo.Bt cs ts with
 |some us=>Ht us
 |none=>[]
def bJ (cs:List Nat)(ts:List Bool):List UInt8:=Ht (cs.map fun c=>ts.getD c false)
theorem WN {cs:List Nat}{ts:List Bool}{c:Nat}(a:c∈cs)(h:ts[c]? =none):fE cs ts=[]:=by
 unfold fE Mo.Bt
 rw[if_neg]
 intro b
 have:=lO.1 b c a
 simp at this
 rw[List.getElem?_eq_none_iff] at h
 omega
theorem bK {cs:List Nat}{ts:List Bool}(h:∀c∈cs,c<ts.length):fE cs ts=bJ cs ts:=by
 unfold fE Mo.Bt
 rw[if_pos (lO.2 fun c a=>by simpa using h c a)]
 rfl
theorem FB (ts:List Bool)(cv:Value)(cs:List Nat)(w:World)(l:I2 Z w cv cs)(C:cs.length≤1000)(Hg:∀c∈cs,c≤1000) :
 Calls Tryz.prog 170 #[.string ⟨(Ht ts).toArray⟩,cv] w fun e w'=>e=.returned (.string ⟨(fE cs ts).toArray⟩)∧Ab No w w':=by
 have r:=Ad l;have D:=Ad Hg
 obtain⟨_,E,rfl,F,g,-⟩:=l
 obtain⟨n,p⟩:∃n,cs.length=n:=⟨_,rfl⟩
 have s:=Ad p
 rw[p] at r F C⊢
 clear p Hg
 have R:E≤9223372036854775807:=by unfold maxLen at g;omega
 clear g
 have t:=Ad (fun c (l:c≤1000) w=>Ww ts c w l)
 obtain⟨S,u⟩:∃S,(⟨(Ht ts).toArray⟩:ByteArray)=S:=⟨_,rfl⟩
 rw[u] at t⊢
 clear u
 go_enter Tryz.func170,Tryz.ntmps170
 go_wp2_with fail
 go_loopg [5,6] n (fun k G H wr=>∃(i:Nat) (T:List UInt8),i+k=n∧H=.int .i64 (i:Int)∧G=.string ⟨T.toArray⟩∧T.length≤i∧oH (T=bJ (cs.take i) ts)∧oH (∀c∈cs.take i,c<ts.length)∧Ab No w wr)
 case atStart=>exact⟨0,[],by omega,rfl,rfl,by simp,Ad rfl,Ad (by simp),Ab.refl _ _⟩
 case round =>
  obtain⟨i,T,_,rfl,rfl,_,v,x,h⟩:=hrel
  by_cases I:gk=0
  ·subst I
   have J:¬(i:Int)<(n:Int):=by omega
   have q:oH (T=fE cs ts):=by
    show _=_
    have y:=v.o;have z:=x.o
    rw[show i=cs.length by rw[s.o];omega,mK] at y z
    rw[bK z];exact y
   have m:=Ad h;clear h;go_wp2_with fail;go_ret
   exact⟨Gx (by rw[q.o]),m.o⟩
  ·obtain⟨k,rfl⟩:∃k,gk=k+1:=⟨gk-1,by omega⟩
   have J:(i:Int)<(n:Int):=by omega
   have U:(0:Int)≤(i:Int):=by omega
   obtain⟨c,o⟩:∃c,cs[i]? =some c:=⟨_,kT (by have:=s.o;omega)⟩
   have g:=kW o;have K:=D.o c g
   obtain⟨_,_,L,_,_,A⟩:=r.o.Ah h
   injection L with e1 M N
   subst e1
   obtain⟨_,_,rfl,_,_⟩:=A i c o
   have m:=Ad h;have B:=Ad o;have O:=Ad g;clear h A M N o g;go_wp2_with fail;refine (t.o c K _).mono ?_;rintro e V ⟨rfl,rfl⟩
   cases a:ts[c]? with
   |none =>
    have j:JY ts c=[]:=by unfold JY;rw[a]
    have q:oH (fE cs ts=[]):=WN O.o a
    rw[j]
    clear j a;go_wp2_with fail;go_ret
    exact⟨Gx (by rw[q.o]),m.o⟩
   |some b =>
    have j:JY ts c=[RY b]:=by unfold JY;rw[a]
    have P:oH (T++[RY b]=bJ (cs.take (i+1)) ts):=by
     show _=_
     rw[lL,B.o,v.o]
     simp[bJ,Ht,List.getD_eq_getElem?_getD,a]
    have Q:oH (∀c∈cs.take (i+1),c<ts.length):=by
     intro d f
     rw[lL,B.o] at f
     rcases lC.1 f with f|f
     ·exact x.o d f
     ·simp at f;subst f;exact (kS.1 a).1
    rw[j]
    clear j a;go_wp2_with fail;go_roundg k
    case measure=>omega
    case rel=>exact⟨i+1,T++[RY b],by omega,by go_num,by rw[←Gh],by simp;omega,P,Q,m.o⟩
end Go.Proofs.YtdinjjmcmfjbfaaGreatDoor
namespace Go.Proofs.YtdinjjmcmfjbfaaGreatDoor
open Go.RowKit
def Sv (s:ByteArray):Bool:=decide ((∀i:Fin s.size,97≤s[i].toNat∧s[i].toNat≤122)∧1≤s.size∧s.size≤4)
theorem Ni (s:ByteArray)(w:World)(l:s.size≤maxLen) :
 Calls Tryz.prog 88 #[.string s] w fun e w'=>e=.returned (.bool (Sv s))∧w'=w:=by
 have y:s.size≤9223372036854775807:=by unfold maxLen at l;omega
 clear l
 go_enter Tryz.func88,Tryz.ntmps88
 go_wp2_with fail
 go_loopg [3] s.size (fun k q wr=>∃i:Nat,i+k=s.size∧q=.int .i64 (i:Int)∧oH (∀(j:Nat) (c:j<s.size),j<i→97≤s[j].toNat∧s[j].toNat≤122)∧wr=w)
 case atStart=>exact⟨0,by omega,rfl,Ad (fun j c h=>by omega),rfl⟩
 case round =>
  obtain⟨i,m,rfl,d,rfl⟩:=hrel
  by_cases r:gk=0
  ·subst r
   have t:¬(i:Int)<(s.size:Int):=by omega
   have b:oH (Sv s=(decide (1≤s.size) && decide (s.size≤4))):=by
    show _=_
    unfold Sv
    rw[←Bool.decide_and]
    apply decide_eq_decide.2
    exact⟨fun h=>h.2,fun h=>⟨fun j=>d.o j.1 j.2 (by have:=j.2;omega),h⟩⟩
   clear d
   by_cases a:1≤s.size
   ·have f:(1:Int)≤(s.size:Int):=by omega
    have g:oH (Sv s=decide (s.size≤4)):=by show _=_;rw[b.o];simp[a]
    clear a m;go_wp2_with fail;go_ret
    exact⟨Az (by rw[g.o];apply decide_eq_decide.2;omega),rfl⟩
   ·have f:¬(1:Int)≤(s.size:Int):=by omega
    have g:oH (Sv s=false):=by show _=_;rw[b.o];simp[a]
    clear a m;go_wp2_with fail;go_ret
    exact⟨Az g.o.symm,rfl⟩
  ·obtain⟨k,rfl⟩:∃k,gk=k+1:=⟨gk-1,by omega⟩
   have hi:i<s.size:=by omega
   have t:(i:Int)<(s.size:Int):=by omega
   have z:(0:Int)≤(i:Int):=by omega
   have n:¬(97≤s[i].toNat∧s[i].toNat≤122)→oH (Sv s=false):=fun h=>by
    show _=_
    unfold Sv
    rw[decide_eq_false_iff_not]
    intro e;exact h (e.1 ⟨i,hi⟩)
   have o:=Ad n;clear n
   by_cases a:s[i].toNat<97
   ·have f:(s[i].toNat:Int)<97:=by omega
    have b:=o.o (by omega)
    clear a;go_wp2_with fail;go_ret
    exact⟨Az b.o.symm,rfl⟩
   ·have f:¬(s[i].toNat:Int)<97:=by omega
    by_cases p:122<s[i].toNat
    ·have u:(122:Int)<(s[i].toNat:Int):=by omega
     have b:=o.o (by omega)
     clear a p;go_wp2_with fail;go_ret
     exact⟨Az b.o.symm,rfl⟩
    ·have u:¬(122:Int)<(s[i].toNat:Int):=by omega
     have v:oH (∀(j:Nat) (c:j<s.size),j<i+1→97≤s[j].toNat∧s[j].toNat≤122):=fun j c h=>by
      by_cases x:j<i
      ·exact d.o j c x
      ·obtain rfl:j=i:=by omega
       omega
     clear a p;go_wp2_with fail;go_roundg k
     case measure=>omega
     case rel=>exact⟨i+1,by omega,by go_num,v,rfl⟩
open Mo (V Row Bag ty vlt Kv L3 Cy Al Jf L5)
variable {Z:Nat→Prop}
def Jp:L3→Int
 | .lt=>60
 | .eq=>61
 | .ne=>33
def T4:Cy→Int
 | .col _=>0
 | .val (.num _)=>35
 | .val (.txt _)=>36
def Sw:Cy→V
 | .col _=>.txt []
 | .val v=>v
def Ie:Cy→Nat
 | .col c=>c
 | .val _=>0
theorem U9 (a b:V):Kv [a] [b]=vlt a b:=by
 show Mo.Do vlt [a] [b]=_
 simp only[Mo.Do]
 by_cases h:a=b
 ·subst h;rw[if_pos rfl,Mo.Pf.irrefl]
 ·rw[if_neg h]
theorem Ei.one (w:World)(v:V)(c:Ga Z w):Ei Z (w.alloc (.cells #[.bool (uB v),.int .i64 (uN v),.string ⟨(uS v).toArray⟩] 202)) (.slice (some ⟨w.heap.size,0,none⟩) 1 1) [v]:=by
 refine⟨_,1,rfl,by simp,⟨by unfold maxLen;omega,Oy (c.no (kZ _))⟩,fun _=>⟨w.heap.size,0,_,_,rfl,(MapKept.heap_alloc w _).1,fun i x a j y b=>?_⟩⟩
 cases i with
 |zero =>
  have:v=x:=by simpa using a
  subst this
  rw[Su] at b
  simpa using b
 |succ i=>simp at a
theorem FC (w:World)(c d:Obj)(a b:V)(e:Ga Z w) :
 Ei Z ((((w.alloc c).alloc d).alloc (.cells #[.bool (uB a),.int .i64 (uN a),.string ⟨(uS a).toArray⟩] 202)).alloc (.cells #[.bool (uB b),.int .i64 (uN b),.string ⟨(uS b).toArray⟩] 202)) (.slice (some ⟨w.heap.size+1+1,0,none⟩) 1 1) [a] ∧
 Ei Z ((((w.alloc c).alloc d).alloc (.cells #[.bool (uB a),.int .i64 (uN a),.string ⟨(uS a).toArray⟩] 202)).alloc (.cells #[.bool (uB b),.int .i64 (uN b),.string ⟨(uS b).toArray⟩] 202)) (.slice (some ⟨w.heap.size+1+1+1,0,none⟩) 1 1) [b]:=by
 have f:=Ei.one (Z:=Z) ((w.alloc c).alloc d) a (e.up (by simp;omega))
 have g:=Ei.one (((w.alloc c).alloc d).alloc (.cells #[.bool (uB a),.int .i64 (uN a),.string ⟨(uS a).toArray⟩] 202)) b (e.up (by simp;omega))
 rw[show ((w.alloc c).alloc d).heap.size=w.heap.size+1+1 by simp] at f
 rw[show ((((w.alloc c).alloc d).alloc (.cells #[.bool (uB a),.int .i64 (uN a),.string ⟨(uS a).toArray⟩] 202))).heap.size=w.heap.size+1+1+1 by simp] at g
 exact⟨f.Ah ((Ab.refl No _).alloc _),g⟩
theorem Zf (w:World)(cs:Array Value)(t:TypeId)(a c d:Obj)(i:Nat):((((w.alloc (.cells cs t)).alloc a).alloc c).alloc d).cell? ⟨w.heap.size,i,none⟩=cs[i]? :=by
 have e:(w.alloc (.cells cs t)).heap[w.heap.size]? =some (.cells cs t (0,0)):=(MapKept.heap_alloc w _).1;have f:=(((Ab.refl No (w.alloc (.cells cs t))).alloc a).alloc c).alloc d
 rw[f.cell (b:=w.heap.size) (by simp) oI,Ae e]
theorem JZ (a b:V):L5 .eq a b=(!vlt a b && !vlt b a):=by
 show decide (a=b)=_
 by_cases h:a=b
 ·subst h;simp[Mo.Pf.irrefl]
 ·rw[decide_eq_false h]
  cases c:vlt a b
  ·cases d:vlt b a
   ·exact absurd (Mo.Pf.tri _ _ c d) h
   ·rfl
  ·rfl
theorem WO (a b:V):L5 .ne a b=(vlt a b || vlt b a):=by
 have:=JZ a b
 show (!decide (a=b))=_
 have c:decide (a=b)=(!vlt a b && !vlt b a):=this
 rw[c];cases vlt a b <;> cases vlt b a <;> rfl
theorem KA (p0:Int)(p1:ByteArray)(f:Option Addr)(g h:Nat)(one two:Int)(c:Nat)(k:L3)(x:Cy)(W:Value)(r:Row)(w:World)(hr:Ei Z w W r)(R:c<r.length)(F:Ie x<r.length)(X:ty (Al r c)=ty (Jf x r))(Y:Ga Z w) :
 Calls Tryz.prog 136 #[.agg #[.int .u8 p0,.string p1,.slice f g h,.int .u8 (Jp k),.int .u8 (T4 x),.bool (uB (Sw x)),.int .i64 (uN (Sw x)),.string ⟨(uS (Sw x)).toArray⟩,.int .i64 (Ie x:Int),.int .i64 one,.int .i64 two,.int .i64 (c:Int)],W] w fun e w'=>e=.returned (.bool (Mo.Ls c k x r))∧Ab No w w':=by
 have S:=Ad hr;have aa:=Ad Y;clear Y;have P:=Ad X
 obtain⟨_,ac,rfl,ad,ab,-⟩:=hr
 have ai:ac≤9223372036854775807:=by unfold maxLen at ab;omega
 obtain⟨Q,ae⟩:∃n,r.length=n:=⟨_,rfl⟩
 obtain⟨a,T⟩:∃a,r[c]? =some a:=⟨_,kT R⟩
 have E:Al r c=a:=by unfold Mo.Al;rw[lI,T];rfl
 rw[ae] at S ad R F⊢
 have aj:(c:Int)<(Q:Int):=by omega
 have ak:(0:Int)≤(c:Int):=by omega
 obtain⟨vb,_,rfl,_,_,_,_⟩:=S.o.cells T
 clear ab X T R
 cases x with
 |col d =>
  have al:(d:Int)<(Q:Int):=by have:d<Q:=F;omega
  have am:(0:Int)≤(d:Int):=by omega
  obtain⟨b,U⟩:∃b,r[d]? =some b:=⟨_,kT (by have:d<Q:=F;omega)⟩
  have V:Al r d=b:=by unfold Mo.Al;rw[lI,U];rfl
  obtain⟨_,_,e1,_,g0,_,_⟩:=S.o.cells U
  injection e1 with e1
  injection e1 with e1 af
  subst e1 af
  have G:ty a=ty b:=by have:=P.o;rw[E] at this;rw[this];show ty (Al r d)=_;rw[V]
  have H:=Ad G
  have I:oH (∀k,Mo.Ls c k (.col d) r=L5 k a b):=by intro k;show L5 k (Al r c) (Al r d)=_;rw[E,V]
  simp only[T4,Sw,Ie,uB,uN,uS]
  clear U V E G P F
  go_enter Tryz.func136,Tryz.ntmps136
  go_wp2_with fail
  obtain⟨J,K⟩:=FC w (.cells #[.int .u8 p0,.string p1,.slice f g h,.int .u8 (Jp k),.int .u8 0,.bool false,.int .i64 0,.string ⟨#[]⟩,.int .i64 (d:Int),.int .i64 one,.int .i64 two,.int .i64 (c:Int)] 204) (.cells #[.bool (uB b),.int .i64 (uN b),.string ⟨(uS b).toArray⟩] 202) a b aa.o
  have L:=Zf w #[.int .u8 p0,.string p1,.slice f g h,.int .u8 (Jp k),.int .u8 0,.bool false,.int .i64 0,.string ⟨#[]⟩,.int .i64 (d:Int),.int .i64 one,.int .i64 two,.int .i64 (c:Int)] 204 (.cells #[.bool (uB b),.int .i64 (uN b),.string ⟨(uS b).toArray⟩] 202) (.cells #[.bool (uB a),.int .i64 (uN a),.string ⟨(uS a).toArray⟩] 202) (.cells #[.bool (uB b),.int .i64 (uN b),.string ⟨(uS b).toArray⟩] 202) 3;have q:oH (Ab No w ((((w.alloc (.cells #[.int .u8 p0,.string p1,.slice f g h,.int .u8 (Jp k),.int .u8 0,.bool false,.int .i64 0,.string ⟨#[]⟩,.int .i64 (d:Int),.int .i64 one,.int .i64 two,.int .i64 (c:Int)] 204)).alloc (.cells #[.bool (uB b),.int .i64 (uN b),.string ⟨(uS b).toArray⟩] 202)).alloc (.cells #[.bool (uB a),.int .i64 (uN a),.string ⟨(uS a).toArray⟩] 202)).alloc (.cells #[.bool (uB b),.int .i64 (uN b),.string ⟨(uS b).toArray⟩] 202))):=((((Ab.refl No w).alloc _).alloc _).alloc _).alloc _
  have M:w.heap.size<((((w.alloc (.cells #[.int .u8 p0,.string p1,.slice f g h,.int .u8 (Jp k),.int .u8 0,.bool false,.int .i64 0,.string ⟨#[]⟩,.int .i64 (d:Int),.int .i64 one,.int .i64 two,.int .i64 (c:Int)] 204)).alloc (.cells #[.bool (uB b),.int .i64 (uN b),.string ⟨(uS b).toArray⟩] 202)).alloc (.cells #[.bool (uB a),.int .i64 (uN a),.string ⟨(uS a).toArray⟩] 202)).alloc (.cells #[.bool (uB b),.int .i64 (uN b),.string ⟨(uS b).toArray⟩] 202)).heap.size:=by simp;omega
  have m:=Ad J;have o:=Ad K;have s:=Ad L;have t:=Ad M;clear J K L M
  obtain⟨u,y⟩:∃u,((((w.alloc (.cells #[.int .u8 p0,.string p1,.slice f g h,.int .u8 (Jp k),.int .u8 0,.bool false,.int .i64 0,.string ⟨#[]⟩,.int .i64 (d:Int),.int .i64 one,.int .i64 two,.int .i64 (c:Int)] 204)).alloc (.cells #[.bool (uB b),.int .i64 (uN b),.string ⟨(uS b).toArray⟩] 202)).alloc (.cells #[.bool (uB a),.int .i64 (uN a),.string ⟨(uS a).toArray⟩] 202)).alloc (.cells #[.bool (uB b),.int .i64 (uN b),.string ⟨(uS b).toArray⟩] 202))=u:=⟨_,rfl⟩
  rw[y] at m o s q t
  rw[y]
  clear y
  refine (Mn _ _ [a] [b] _ m.o o.o (by simp[H.o]) (by simp)).mono ?_
  rintro e ag ⟨rfl,N⟩;have p:=Ad N;clear N;go_wp2_with fail
  refine (Mn _ _ [b] [a] _ (o.o.Ah p.o) (m.o.Ah p.o) (by simp[H.o]) (by simp)).mono ?_
  rintro e z ⟨rfl,O⟩;have A:oH (Ab No u z):=p.o.seq O;clear O;have B:z.cell? ⟨w.heap.size,3,none⟩=some (.int .u8 (Jp k)):=(A.o.cell t.o oI).trans s.o;have C:oH (Ab No w z):=q.o.seq A.o;clear p A q s t m o
  rw[U9,U9]
  have D:=Ad (I.o k);clear I
  cases k with
  |lt =>
   simp only[Jp] at B⊢
   go_wp2_with fail;go_ret
   exact⟨Az (by rw[D.o];rfl),C.o⟩
  |eq =>
   simp only[Jp] at B⊢
   have i:oH (L5 .eq a b=(!vlt a b && !vlt b a)):=JZ a b
   cases j:vlt a b <;> cases l:vlt b a <;>
   ·rw[j,l] at i
    clear j l;go_wp2_with fail;go_ret
    exact⟨Az (by rw[D.o,i.o];rfl),C.o⟩
  |ne =>
   simp only[Jp] at B⊢
   have i:oH (L5 .ne a b=(vlt a b || vlt b a)):=WO a b
   cases j:vlt a b <;> cases l:vlt b a <;>
   ·rw[j,l] at i
    clear j l;go_wp2_with fail;go_ret
    exact⟨Az (by rw[D.o,i.o];rfl),C.o⟩
 |val v =>
  have G:ty a=ty v:=by have:=P.o;rw[E] at this;exact this
  have H:=Ad G
  have I:oH (∀k,Mo.Ls c k (.val v) r=L5 k a v):=by intro k;show L5 k (Al r c) v=_;rw[E]
  have ah:(T4 (.val v) == 0)=false:=by cases v <;> rfl
  simp only[Sw,Ie]
  generalize T4 (.val v)=mk at ah⊢;clear E G P F
  go_enter Tryz.func136,Tryz.ntmps136
  go_wp2_with fail
  obtain⟨J,K⟩:=FC w (.cells #[.int .u8 p0,.string p1,.slice f g h,.int .u8 (Jp k),.int .u8 mk,.bool (uB v),.int .i64 (uN v),.string ⟨(uS v).toArray⟩,.int .i64 0,.int .i64 one,.int .i64 two,.int .i64 (c:Int)] 204) (.cells #[.bool (uB v),.int .i64 (uN v),.string ⟨(uS v).toArray⟩] 202) a v aa.o
  have L:=Zf w #[.int .u8 p0,.string p1,.slice f g h,.int .u8 (Jp k),.int .u8 mk,.bool (uB v),.int .i64 (uN v),.string ⟨(uS v).toArray⟩,.int .i64 0,.int .i64 one,.int .i64 two,.int .i64 (c:Int)] 204 (.cells #[.bool (uB v),.int .i64 (uN v),.string ⟨(uS v).toArray⟩] 202) (.cells #[.bool (uB a),.int .i64 (uN a),.string ⟨(uS a).toArray⟩] 202) (.cells #[.bool (uB v),.int .i64 (uN v),.string ⟨(uS v).toArray⟩] 202) 3;have q:oH (Ab No w ((((w.alloc (.cells #[.int .u8 p0,.string p1,.slice f g h,.int .u8 (Jp k),.int .u8 mk,.bool (uB v),.int .i64 (uN v),.string ⟨(uS v).toArray⟩,.int .i64 0,.int .i64 one,.int .i64 two,.int .i64 (c:Int)] 204)).alloc (.cells #[.bool (uB v),.int .i64 (uN v),.string ⟨(uS v).toArray⟩] 202)).alloc (.cells #[.bool (uB a),.int .i64 (uN a),.string ⟨(uS a).toArray⟩] 202)).alloc (.cells #[.bool (uB v),.int .i64 (uN v),.string ⟨(uS v).toArray⟩] 202))):=((((Ab.refl No w).alloc _).alloc _).alloc _).alloc _
  have M:w.heap.size<((((w.alloc (.cells #[.int .u8 p0,.string p1,.slice f g h,.int .u8 (Jp k),.int .u8 mk,.bool (uB v),.int .i64 (uN v),.string ⟨(uS v).toArray⟩,.int .i64 0,.int .i64 one,.int .i64 two,.int .i64 (c:Int)] 204)).alloc (.cells #[.bool (uB v),.int .i64 (uN v),.string ⟨(uS v).toArray⟩] 202)).alloc (.cells #[.bool (uB a),.int .i64 (uN a),.string ⟨(uS a).toArray⟩] 202)).alloc (.cells #[.bool (uB v),.int .i64 (uN v),.string ⟨(uS v).toArray⟩] 202)).heap.size:=by simp;omega
  have m:=Ad J;have o:=Ad K;have s:=Ad L;have t:=Ad M;clear J K L M
  obtain⟨u,y⟩:∃u,((((w.alloc (.cells #[.int .u8 p0,.string p1,.slice f g h,.int .u8 (Jp k),.int .u8 mk,.bool (uB v),.int .i64 (uN v),.string ⟨(uS v).toArray⟩,.int .i64 0,.int .i64 one,.int .i64 two,.int .i64 (c:Int)] 204)).alloc (.cells #[.bool (uB v),.int .i64 (uN v),.string ⟨(uS v).toArray⟩] 202)).alloc (.cells #[.bool (uB a),.int .i64 (uN a),.string ⟨(uS a).toArray⟩] 202)).alloc (.cells #[.bool (uB v),.int .i64 (uN v),.string ⟨(uS v).toArray⟩] 202))=u:=⟨_,rfl⟩
  rw[y] at m o s q t
  rw[y]
  clear y
  refine (Mn _ _ [a] [v] _ m.o o.o (by simp[H.o]) (by simp)).mono ?_
  rintro e ag ⟨rfl,N⟩;have p:=Ad N;clear N;go_wp2_with fail
  refine (Mn _ _ [v] [a] _ (o.o.Ah p.o) (m.o.Ah p.o) (by simp[H.o]) (by simp)).mono ?_
  rintro e z ⟨rfl,O⟩;have A:oH (Ab No u z):=p.o.seq O;clear O;have B:z.cell? ⟨w.heap.size,3,none⟩=some (.int .u8 (Jp k)):=(A.o.cell t.o oI).trans s.o;have C:oH (Ab No w z):=q.o.seq A.o;clear p A q s t m o
  rw[U9,U9]
  have D:=Ad (I.o k);clear I
  cases k with
  |lt =>
   simp only[Jp] at B⊢
   go_wp2_with fail;go_ret
   exact⟨Az (by rw[D.o];rfl),C.o⟩
  |eq =>
   simp only[Jp] at B⊢
   have i:oH (L5 .eq a v=(!vlt a v && !vlt v a)):=JZ a v
   cases j:vlt a v <;> cases l:vlt v a <;>
   ·rw[j,l] at i
    clear j l;go_wp2_with fail;go_ret
    exact⟨Az (by rw[D.o,i.o];rfl),C.o⟩
  |ne =>
   simp only[Jp] at B⊢
   have i:oH (L5 .ne a v=(vlt a v || vlt v a)):=WO a v
   cases j:vlt a v <;> cases l:vlt v a <;>
   ·rw[j,l] at i
    clear j l;go_wp2_with fail;go_ret
    exact⟨Az (by rw[D.o,i.o];rfl),C.o⟩
end Go.Proofs.YtdinjjmcmfjbfaaGreatDoor
namespace Go.Proofs.YtdinjjmcmfjbfaaGreatDoor
open Go.RowKit
open Mo (V Row Bag Q L3 Cy ty A9)
variable {Z:Nat→Prop}
def Dv:Q→List Q
 | .tab nm=>[.tab nm]
 | .sel c k x q=>Dv q++[.sel c k x q]
 | .pick cs q=>Dv q++[.pick cs q]
 | .join n m q r=>Dv q++Dv r++[.join n m q r]
 | .uni q r=>Dv q++Dv r++[.uni q r]
 | .dist q=>Dv q++[.dist q]
 | .grp cs s q=>Dv q++[.grp cs s q]
theorem Pw (q:Q):(Dv q).getLast? =some q:=by cases q <;> simp[Dv]
structure UP where
 verb:Int
 name:ByteArray
 cols:List Nat
 sign:Int
 mark:Int
 wit:V
 sum:Nat
 one:Int
 two:Int
 col:Nat
def UP.cells (p:UP)(cv:Value):List Value:=[.int .u8 p.verb,.string p.name,cv,.int .u8 p.sign,.int .u8 p.mark,.bool (uB p.wit),.int .i64 (uN p.wit),.string ⟨(uS p.wit).toArray⟩,.int .i64 (p.sum:Int),.int .i64 p.one,.int .i64 p.two,.int .i64 (p.col:Int)]
def I3 (S:List Q)(i:Nat)(j:Int)(q:Q):Prop:=∃k:Nat,j=(k:Int)∧k<i∧S[k]? =some q
theorem I3.more {S T:List Q}{i:Nat}{j:Int}{q:Q}(h:I3 S i j q):I3 (S++T) i j q:=by
 obtain⟨k,e,b,a⟩:=h
 exact⟨k,e,b,by rw[lA (kS.1 a).1];exact a⟩
def Kq (S:List Q)(i:Nat)(p:UP):Q→Prop
 | .tab nm=>p.verb=0∧p.name=⟨nm.toArray⟩
 | .sel c k x q=>p.verb=83∧p.sign=Jp k∧p.mark=T4 x∧p.wit=Sw x∧p.sum=Ie x∧p.col=c∧I3 S i p.one q
 | .pick cs q=>p.verb=80∧p.cols=cs∧I3 S i p.one q
 | .join n m q r=>p.verb=74∧p.col=n∧p.sum=m∧I3 S i p.one q∧I3 S i p.two r
 | .uni q r=>p.verb=85∧I3 S i p.one q∧I3 S i p.two r
 | .dist q=>p.verb=68∧I3 S i p.one q
 | .grp cs s q=>p.verb=71∧p.cols=cs∧s=(if p.sign=115 then some p.sum else none)∧I3 S i p.one q
theorem Kq.more {S T:List Q}{i:Nat}{p:UP}{q:Q}(h:Kq S i p q):Kq (S++T) i p q:=by
 cases q with
 |tab nm=>exact h
 |sel c k x q=>obtain⟨a,d,e,b,f,j,g⟩:=h;exact⟨a,d,e,b,f,j,g.more⟩
 |pick cs q=>obtain⟨a,d,g⟩:=h;exact⟨a,d,g.more⟩
 |join n m q r=>obtain⟨a,d,e,b,f⟩:=h;exact⟨a,d,e,b.more,f.more⟩
 |uni q r=>obtain⟨a,b,f⟩:=h;exact⟨a,b.more,f.more⟩
 |dist q=>obtain⟨a,b⟩:=h;exact⟨a,b.more⟩
 |grp cs s q=>obtain⟨a,d,e,b⟩:=h;exact⟨a,d,e,b.more⟩
def Wx (p:UP):Prop:=p.sum≤9∧p.col≤9∧p.cols.length≤6∧∀c∈p.cols,c≤9
def Gi (Z:Nat→Prop)(w:World)(v:Value)(S:List Q):Prop:=∃a cap,v=.slice a S.length cap∧S.length≤cap∧(cap≤maxLen∧bG Z a S.length cap) ∧
 ∀i q,S[i]? =some q→∃b o p cv,a=some ⟨b,o,none⟩∧b<w.heap.size∧(∀j x,(UP.cells p cv)[j]? =some x→w.cell? ⟨b,o+i*12+j,none⟩=some x)∧I2 Z w cv p.cols∧Wx p∧Kq S i p q
theorem Gi.Ah {w w':World}{v:Value}{S:List Q}(h:Gi Z w v S)(k:Ab No w w'):Gi Z w' v S:=by
 obtain⟨a,cap,e,d,f,g⟩:=h
 refine⟨a,cap,e,d,f,fun i q l=>?_⟩
 obtain⟨b,o,p,cv,e1,c,m,n,r,s⟩:=g i q l
 exact⟨b,o,p,cv,e1,kV c k.size,fun j x t=>(k.cell c oI).trans (m j x t),n.Ah k,r,s⟩
def Jc (w:World)(v:Value)(ls:List (List UInt8)):Prop:=∃a cap,v=.slice a ls.length cap∧ls.length≤cap∧cap≤maxLen ∧
 ∀(i:Nat) (s:List UInt8),ls[i]? =some s→∃b o,a=some ⟨b,o,none⟩∧b<w.heap.size∧w.cell? ⟨b,o+i,none⟩=some (.string ⟨s.toArray⟩)
theorem Jc.Ah {w w':World}{v:Value}{c:List (List UInt8)}(h:Jc w v c)(k:Ab No w w'):Jc w' v c:=by
 obtain⟨a,cap,e,f,g,j⟩:=h
 refine⟨a,cap,e,f,g,fun i q l=>?_⟩
 obtain⟨b,o,e1,d,m⟩:=j i q l
 exact⟨b,o,e1,kV d k.size,(k.cell d oI).trans m⟩
def Xo (f:List UInt8→Option (List Bool))(q:Q):List UInt8:=match A9 f q with
 |some ts=>Ht ts
 |none=>[]
theorem Mp {f:List UInt8→Option (List Bool)}{q:Q}{ts:List Bool}(h:A9 f q=some ts):Xo f q=Ht ts:=by unfold Xo;rw[h]
theorem O5 {f:List UInt8→Option (List Bool)}{q:Q}(h:A9 f q=none):Xo f q=[]:=by unfold Xo;rw[h]
theorem Bq {w:World}{pv:Array Value}{i:Nat}{v:Value}(h:pv[i]? =some v):(w.alloc (.cells pv 204)).cell? ⟨w.heap.size,i,none⟩=some v:=(Ae (MapKept.heap_alloc w _).1 i).trans h
end Go.Proofs.YtdinjjmcmfjbfaaGreatDoor
namespace Go.Proofs.YtdinjjmcmfjbfaaGreatDoor
open Mo (V Row Bag Co Cg Af cnt Gm Al Cr nn Nr)
theorem WR {l:Bag}(h:∀e∈l,0≤e.2):nn l:=Mo.L2 fun g hg=>by
 have:=Mo.M0 h (g:=fun _=>0) (k:=g) (fun e _=>hg e.1)
 rw[Mo.Ro] at this;exact this
theorem WS {l m:Bag}(h:∀e∈m,0≤e.2)(a:l.Sublist m):Nr l≤Nr m:=by
 induction a with
 |slnil=>exact mP _
 |cons e a b =>
  have f:=h e (by simp)
  have d:=b fun x c=>h x (by simp[c])
  show Nr _≤e.2*1+Nr _
  omega
 |cons_cons e a b =>
  have d:=b fun x c=>h x (by simp[c])
  show e.2*1+Nr _≤e.2*1+Nr _
  omega
open Go.RowKit
open Mo (V Row Bag Co cnt Cg Af neg Ay sv Zz Ud Ce)
open Mo (V Row Bag Q L3 Cy ty A9 Dp Bt Md Hi B0 Nr Wt Af Cg nn cnt Bd Al Jf Ay sv Zz Ce RT)
theorem Er {ts:List Bool}{b:Bag}(h:B0 ts b):∀e∈Af b,e.1.map ty=ts∧1≤e.2∧e.2≤3000000000000:=fun e a =>
 ⟨h.ty e a,Mo.Vo h.nn a,by have:=(h.bd e.1).2;rw[←Mo.As,(Mo.Aq b).Dl a] at this;exact this⟩
theorem Wy {ts:List Bool}{b:Bag}(h:B0 ts b):∀e∈Af b,e.1.length=ts.length:=fun e a=>by rw[←(Er h e a).1,lB]
theorem Mq (b:Bag):Nr (Af b)=Nr b:=Mo.GS (Mo.Bv b)
theorem Wz {a m:Bag}(d:Cg a)(f:∀e∈a,0≤e.2)(g:∀e∈m,0≤e.2){M:Int}(_:Nr a+Nr m≤M):∀e∈B3 m a,-M≤e.2∧e.2≤M:=by
 intro e h;have i:=(Ft m d).Dl h
 rw[Nh m a e.1] at i
 have c:nn (a++m):=WR fun x b=>by
  rcases lC.1 b with b|b
  ·exact f x b
  ·exact g x b
 have j:=Mo.Pi c e.1;have k:=c e.1
 rw[Mo.Ye] at j
 omega
def dl (g:Row×Int→Option (Row×Int))(l:Bag)(i:Nat):Bag:=(l.take i).filterMap g
theorem ME (g:Row×Int→Option (Row×Int))(l:Bag):dl g l 0=[]:=rfl
theorem bL {g:Row×Int→Option (Row×Int)}{l:Bag}{i:Nat}{e x:Row×Int}(h:l[i]? =some e)(hg:g e=some x):dl g l (i+1)=dl g l i++[x]:=by
 unfold dl
 rw[lL,h,List.filterMap_append]
 simp[hg]
theorem bM {g:Row×Int→Option (Row×Int)}{l:Bag}{i:Nat}{e:Row×Int}(h:l[i]? =some e)(hg:g e=none):dl g l (i+1)=dl g l i:=by
 unfold dl
 rw[lL,h,List.filterMap_append]
 simp[hg]
theorem WT (g:Row×Int→Option (Row×Int))(l:Bag):dl g l l.length=l.filterMap g:=by unfold dl;rw[mK]
theorem fF (g:Row×Int→Option (Row×Int))(l:Bag)(i:Nat):(dl g l i).length≤i:=by
 unfold dl;have a:=List.length_filterMap_le g (l.take i)
 rw[lV] at a
 omega
theorem fG {g:Row×Int→Option (Row×Int)}{l:Bag}{i:Nat}{x:Row×Int}(h:x∈dl g l i):∃e∈l,g e=some x:=by
 obtain⟨e,a,hg⟩:=List.mem_filterMap.1 h
 exact⟨e,mY a,hg⟩
theorem WU (g:Row×Int→Option (Row×Int))(l:Bag)(i:Nat):(dl g l i).Sublist (l.filterMap g):=(List.take_sublist i l).filterMap g
theorem WV {g:Row×Int→Option (Row×Int)}{l:Bag}(f:∀e∈l,∀x,g e=some x→0≤x.2){M:Int}(_:Nr (l.filterMap g)≤M)(i:Nat):∀e∈B3 (dl g l i) [],-M≤e.2∧e.2≤M:=by
 have d:∀e∈l.filterMap g,0≤e.2:=fun x b=>by
  obtain⟨e,c,hg⟩:=List.mem_filterMap.1 b
  exact f e c x hg
 refine Wz (a:=[]) trivial (fun e c=>by cases c) (fun x b=>d x ((WU g l i).mem b)) ?_
 have h:=WS d (WU g l i);have j:Nr []=0:=rfl;omega
theorem KB (g:Row×Int→Option (Row×Int))(l:Bag)(i:Nat):(B3 (dl g l i) []).length≤i:=by
 have a:=Rf (dl g l i) [];have b:=fF g l i
 simp at a
 omega
theorem KC {g:Row×Int→Option (Row×Int)}{l:Bag}{i:Nat}{x:Row×Int}(h:x∈B3 (dl g l i) []):∃e∈l,∃y,g e=some y∧y.1=x.1:=by
 rcases Re h with ⟨y,a,_⟩|⟨y,a,e⟩
 ·cases a
 ·obtain⟨b,c,hg⟩:=fG a
  exact⟨b,c,y,hg,e⟩
def BI (c:Nat)(k:L3)(x:Cy)(e:Row×Int):Option (Row×Int):=if Mo.Ls c k x e.1=true then some e else none
def MF (cs:List Nat)(e:Row×Int):Option (Row×Int):=some (Ay cs e.1,e.2)
theorem FD (c:Nat)(k:L3)(x:Cy)(l:Bag):l.filterMap (BI c k x)=Mo.Cr (Mo.Ls c k x) l:=by
 unfold Mo.Cr
 induction l with
 |nil=>rfl
 |cons e l a =>
  simp only[List.filterMap_cons,List.filter_cons,BI]
  by_cases h:Mo.Ls c k x e.1=true
  ·rw[if_pos h,if_pos h,←a]
  ·rw[if_neg h,if_neg h,←a]
theorem Zg (cs:List Nat)(l:Bag):l.filterMap (MF cs)=Mo.B1 cs l:=by
 show l.filterMap (some ∘ fun e:Row×Int=>(Ay cs e.1,e.2))=_
 rw[List.filterMap_eq_map];rfl
structure kB (ft:List UInt8→Option (List Bool)) (f:List UInt8→Bag) (S:List Q):Prop where
 ok:∀q∈S,∃ts,A9 ft q=some ts∧B0 ts (Bd f q)∧(Af (Bd f q)).length≤400000000
 wf:∀q∈S,Mo.wf q
theorem QJ {us ts:List Bool}{b:Bag}{c:Nat}{x:Cy}(h:B0 us b)(f:Dp c x us=some ts):∀e∈Af b,c<e.1.length∧Ie x<e.1.length∧ty (Al e.1 c)=ty (Jf x e.1):=fun e j=>by
 have k:=(Er h e j).1;have q:=Wy h e j;unfold Mo.Dp at f
 cases g:us[c]? with
 |none=>rw[g] at f;cases f
 |some a =>
  rw[g] at f
  have l:(if Mo.Mc us x=some a then some us else none)=some ts:=f
  by_cases i:Mo.Mc us x=some a
  ·have p:=(kS.1 g).1
   have m:=(Mo.R9 k p).1
   rw[lI,g] at m
   refine⟨by omega,?_,?_⟩
   ·cases x with
    |col d=>have:=(kS.1 (show us[d]? =some a from i)).1;show d<_;omega
    |val v=>show 0<_;omega
   ·rw[m]
    cases x with
    |col d =>
     have n:us[d]? =some a:=i;have o:=(Mo.R9 k (kS.1 n).1).1
     rw[lI,n] at o
     exact o.symm
    |val v=>have:some (ty v)=some a:=i;injection this with this;exact this.symm
  ·rw[if_neg i] at l;cases l
theorem W7 {us ts:List Bool}{b:Bag}{cs:List Nat}(h:B0 us b)(a:Bt cs us=some ts):∀e∈Af b,(∀c∈cs,c<e.1.length)∧(Ay cs e.1).map ty=ts:=fun e d=>by
 have g:=Wy h e d
 exact⟨fun c f=>by have:=(Mo.Fo a).1 c f;omega,(Mo.Oh (Er h e d).1 a).1⟩
open Mo (V Row Bag ty Co Cg Af cnt Gm Al)
variable {Z:Nat→Prop}
theorem W9 (w:World):Dt Z w (.slice none 0 0) []:=⟨none,0,rfl,kZ _,⟨mB _,Ox _ _⟩,fun i x a=>by simp at a⟩
end Go.Proofs.YtdinjjmcmfjbfaaGreatDoor
namespace Go.Proofs.YtdinjjmcmfjbfaaGreatDoor
open Go.RowKit
open Mo (V Row Bag)
variable {Z:Nat→Prop}
theorem Ya (r:Row):(r.flatMap Ic).length=r.length*3:=by
 induction r with
 |nil=>rfl
 |cons v r a=>rw[mE,kU,St,a,lN];omega
theorem Ei.src {w:World}{b o n cap:Nat}{r:Row}(h:Ei Z w (.slice (some ⟨b,o,none⟩) n cap) r):∀j d,(r.flatMap Ic)[j]? =some d→w.cell? ((⟨b,o,none⟩:Addr).add j)=some d:=by
 intro j d f
 obtain⟨a',_,e,_,_,m⟩:=h
 injection e with e1 x y
 have g:=(kS.1 f).1
 rw[Ya] at g
 have p:r≠[]:=by rintro rfl;simp at g
 obtain⟨b',_,c,_,q,s,t⟩:=m p
 rw[q] at e1
 injection e1 with e1
 injection e1 with e1 e5
 subst e1 e5
 have hi:j / 3<r.length:=by omega
 have i:r[j / 3]? =some r[j / 3]:=kT hi
 have u:j % 3<(Ic r[j / 3]).length:=by rw[St];omega
 have k:(Ic r[j / 3])[j % 3]? =some (Ic r[j / 3])[j % 3]:=kT u;have a:=Wv r (j / 3) _ i (j % 3) _ k
 rw[show j / 3*3+j % 3=j by omega,f] at a
 injection a with a
 have l:=t (j / 3) _ i (j % 3) _ k
 rw[show o+j / 3*3+j % 3=o+j by omega,←a] at l
 have v:(⟨b,o,none⟩:Addr).add j=⟨b,o+j,none⟩:=by unfold Addr.add;split <;> simp_all
 rw[v,Ae s];exact l
end Go.Proofs.YtdinjjmcmfjbfaaGreatDoor
