import Derived.Test.YtdinjjmcmfjbfaaGreatDoorUgJ
import Derived.Laws.StructEq
set_option maxRecDepth 100000
set_option maxHeartbeats 4000000
namespace Go.Proofs.YtdinjjmcmfjbfaaGreatDoor
open Go.RowKit Mo Pl Tryz
section
variable {Z:Nat→Prop}
def PX (ts:List Bool)(c:Nat):List UInt8:=match ts[c]? with
 |some b=>[ZO b]
 |none=>[]
theorem kS {ts:List Bool}{c:Nat}{b:Bool}(h:ts[c]? =some b):(⟨(Fj ts).toArray⟩:ByteArray).extract c (c+1)=⟨[ZO b].toArray⟩:=by
 apply ByteArray.ext;rw[ByteArray.data_extract];have a:(Fj ts)[c]? =some (ZO b):=by unfold Fj;rw[tX,h];rfl
 apply Array.ext';rw[Array.toList_extract];simp only[List.extract_eq_take_drop];rw[show c+1-c=1 by omega,vF (tR.1 a).1,(tR.1 a).2];simp
theorem L6 (ts:List Bool)(c:Nat)(w:World)(_:c≤1000) :
 Calls prog 169 #[.string ⟨(Fj ts).toArray⟩,.int .i64 (c:Int)] w fun e w'=>e=.returned (.string ⟨(PX ts c).toArray⟩)∧w'=w:=by
 have a:=KY ts;have h:=Ae (fun b=>kS (ts:=ts) (c:=c) (b:=b));obtain⟨S,i⟩:∃S,(⟨(Fj ts).toArray⟩:ByteArray)=S:=⟨_,rfl⟩;rw[i] at a h⊢;clear i;have k:¬(c:Int)<0:=by omega
 by_cases d:c<ts.length
 ·obtain⟨b,f⟩:∃b,ts[c]? =some b:=⟨_,tT d⟩;have g:xR (S.extract c (c+1)=⟨(PX ts c).toArray⟩):=by show _=_;rw[h.o b f];unfold PX;rw[f]
  have j:¬(S.size:Int)≤(c:Int):=by omega
  have l:=Bm c
  have m:(c:Int)≤(c:Int)+1:=by omega
  have n:(c:Int)+1≤(S.size:Int):=by omega
  clear f d a;go_enter func169,ntmps169;go_wp21;go_ret;exact⟨El g.o,rfl⟩
 have g:xR (PX ts c=[]):=by show _=_;unfold PX;rw[vK (by omega)]
 have j:(S.size:Int)≤(c:Int):=by omega
 clear d a;go_enter func169,ntmps169;go_wp21;go_ret;exact⟨El (by rw[g.o]),rfl⟩
def PY (cs:List Nat)(ts:List Bool):List UInt8:=match Bq cs ts with
 |some us=>Fj us
 |none=>[]
def kT (cs:List Nat)(ts:List Bool):List UInt8:=Fj (cs.map fun c=>ts.getD c false)
theorem eF {cs:List Nat}{ts:List Bool}{c:Nat}(a:c∈cs)(h:ts[c]? =none):PY cs ts=[]:=by
 unfold PY Bq;rw[if_neg];intro b;have:=uR.1 b c a;simp at this;rw[List.getElem?_eq_none_iff] at h;omega
theorem kU {cs:List Nat}{ts:List Bool}(h:∀c∈cs,c<ts.length):PY cs ts=kT cs ts:=by
 unfold PY Bq;rw[if_pos (uR.2 fun c a=>by simpa using h c a)];rfl
theorem Wi (ts:List Bool)(cv:Value)(cs:List Nat)(w:World)(l:Ik Z w cv cs)(C:cs.length≤1000)(Gs:∀c∈cs,c≤1000) :
 Calls prog 170 #[.string ⟨(Fj ts).toArray⟩,cv] w fun e w'=>e=.returned (.string ⟨(PY cs ts).toArray⟩)∧Ab No w w':=by
 have r:=Ae l;have D:=Ae Gs;obtain⟨_,E,rfl,F,g,-⟩:=l;obtain⟨n,p⟩:∃n,cs.length=n:=⟨_,rfl⟩;have s:=Ae p;rw[p] at r F C⊢;clear p Gs;have P:=Bn g.1
 clear g;have t:=Ae (fun c (l:c≤1000) w=>L6 ts c w l);obtain⟨S,u⟩:∃S,(⟨(Fj ts).toArray⟩:ByteArray)=S:=⟨_,rfl⟩;rw[u] at t⊢;clear u;go_enter func170,ntmps170;go_wp21;go_loopg [5,6] n (fun k G H wr=>∃(i:Nat) (T:List UInt8),i+k=n∧H=.int .i64 (i:Int)∧G=.string ⟨T.toArray⟩∧T.length≤i∧xR (T=kT (cs.take i) ts)∧xR (∀c∈cs.take i,c<ts.length)∧Ab No w wr)
 case atStart=>exact⟨0,[],by omega,rfl,rfl,by simp,Ae rfl,Ae (by simp),Ab.refl _ _⟩
 obtain⟨i,T,_,rfl,rfl,_,v,x,h⟩:=hrel;by_cases I:gk=0
 ·subst I;have J:¬(i:Int)<(n:Int):=by omega
  have q:xR (T=PY cs ts):=by show _=_;have y:=v.o;have z:=x.o;rw[show i=cs.length by rw[s.o];omega,vH] at y z;rw[kU z];exact y
  have m:=Ae h;clear h;go_wp21;go_ret;exact⟨El (by rw[q.o]),m.o⟩
 obtain⟨k,rfl⟩:=Bx I;have J:(i:Int)<(n:Int):=by omega
 have Q:=Bm i
 obtain⟨c,o⟩:∃c,cs[i]? =some c:=⟨_,tT (by have:=s.o;omega)⟩;have g:=tV o;have K:=D.o c g;obtain⟨_,_,L,_,_,A⟩:=r.o.Ag h;injection L with e1 e2 e3;subst e1;obtain⟨_,_,rfl,_,_⟩:=A i c o;have m:=Ae h;have B:=Ae o;have M:=Ae g;clear h A e2 e3 o g;go_wp21;go_call t.o c K _ as e w1 ⟨rfl,rfl⟩;cases a:ts[c]? with
 |none =>
  have j:PX ts c=[]:=by unfold PX;rw[a]
  have q:xR (PY cs ts=[]):=eF M.o a;rw[j];clear j a;go_wp21;go_ret;exact⟨El (by rw[q.o]),m.o⟩
 |some b =>
  have j:PX ts c=[ZO b]:=by unfold PX;rw[a]
  have N:xR (T++[ZO b]=kT (cs.take (i+1)) ts):=by show _=_;rw[uI,B.o,v.o];simp[kT,Fj,List.getD_eq_getElem?_getD,a]
  have O:xR (∀c∈cs.take (i+1),c<ts.length):=by
   intro d f;rw[uI,B.o] at f;rcases tW.1 f with f|f
   ·exact x.o d f
   simp at f;subst f;exact (tR.1 a).1
  rw[j];clear j a;go_wp21;go_roundg k
  case measure=>omega
  exact⟨i+1,T++[ZO b],by omega,by go_num,by rw[←Gh],by simp;omega,N,O,m.o⟩
end
section
def U0 (s:ByteArray):Bool:=decide ((∀i:Fin s.size,97≤s[i].toNat∧s[i].toNat≤122)∧1≤s.size∧s.size≤4)
theorem Pj (s:ByteArray)(w:World)(l:s.size≤maxLen) :
 Calls prog 88 #[.string s] w fun e w'=>e=.returned (.bool (U0 s))∧w'=w:=by
 have x:=Bn l
 clear l;go_enter func88,ntmps88;go_wp21;go_loopg [3] s.size (fun k p wr=>∃i:Nat,i+k=s.size∧p=.int .i64 (i:Int)∧xR (∀(j:Nat) (c:j<s.size),j<i→97≤s[j].toNat∧s[j].toNat≤122)∧wr=w)
 case atStart=>exact⟨0,by omega,rfl,Ae (fun j c h=>by omega),rfl⟩
 obtain⟨i,m,rfl,d,rfl⟩:=hrel;by_cases q:gk=0
 ·subst q;have r:¬(i:Int)<(s.size:Int):=by omega
  have b:xR (U0 s=(decide (1≤s.size) && decide (s.size≤4))):=by show _=_;unfold U0;rw[←Bool.decide_and];apply decide_eq_decide.2;exact⟨fun h=>h.2,fun h=>⟨fun j=>d.o j.1 j.2 (by have:=j.2;omega),h⟩⟩
  clear d;by_cases a:1≤s.size
  ·have f:(1:Int)≤(s.size:Int):=(by omega);have g:xR (U0 s=decide (s.size≤4)):=(by show _=_;rw[b.o];simp[a]);clear a m;go_wp21;go_ret;exact⟨A5 (by rw[g.o];apply decide_eq_decide.2;omega),rfl⟩
  have f:¬(1:Int)≤(s.size:Int):=by omega
  have g:xR (U0 s=false):=by show _=_;rw[b.o];simp[a]
  clear a m;go_wp21;go_ret;exact⟨A5 g.o.symm,rfl⟩
 obtain⟨k,rfl⟩:=Bx q;have hi:i<s.size:=by omega
 have r:(i:Int)<(s.size:Int):=by omega
 have y:=Bm i
 have n:¬(97≤s[i].toNat∧s[i].toNat≤122)→xR (U0 s=false):=fun h=>by show _=_;unfold U0;rw[decide_eq_false_iff_not];intro e;exact h (e.1 ⟨i,hi⟩)
 have mP:=Ae n;clear n;by_cases a:s[i].toNat<97
 ·have f:(s[i].toNat:Int)<97:=by omega
  have b:=mP.o (by omega);clear a;go_wp21;go_ret;exact⟨A5 b.o.symm,rfl⟩
 have f:¬(s[i].toNat:Int)<97:=by omega
 by_cases o:122<s[i].toNat
 ·have t:(122:Int)<(s[i].toNat:Int):=by omega
  have b:=mP.o (by omega);clear a o;go_wp21;go_ret;exact⟨A5 b.o.symm,rfl⟩
 have t:¬(122:Int)<(s[i].toNat:Int):=by omega
 have u:xR (∀(j:Nat) (c:j<s.size),j<i+1→97≤s[j].toNat∧s[j].toNat≤122):=fun j c h=>by
  by_cases v:j<i
  ·exact d.o j c v
  obtain rfl:j=i:=by omega
  omega
 clear a o;go_wp21;go_roundg k
 case measure=>omega
 exact⟨i+1,by omega,by go_num,u,rfl⟩
variable {Z:Nat→Prop}
def K6:Qb→Int
 | .lt=>60
 | .eq=>61
 | .ne=>33
def Vt:Dk→Int
 | .col _=>0
 | .val (.num _)=>35
 | .val (.txt _)=>36
def U1:Dk→V
 | .col _=>.txt []
 | .val v=>v
def Pk:Dk→Nat
 | .col c=>c
 | .val _=>0
theorem Xi (a b:V):Ju [a] [b]=vlt a b:=by
 show Ef vlt [a] [b]=_;simp only[Ef];by_cases h:a=b
 ·subst h;rw[if_pos rfl,Rp.irrefl]
 rw[if_neg h]
theorem Ee.one (w:World)(v:V)(c:Gq Z w):Ee Z (w.alloc (.cells #[.bool (uB v),.int .i64 (uN v),.string ⟨(uS v).toArray⟩] 202)) (.slice (some ⟨w.heap.size,0,none⟩) 1 1) [v]:=by
 refine⟨_,1,rfl,by simp,⟨by unfold maxLen;omega,Rf (c.no (tY _))⟩,fun _=>⟨w.heap.size,0,_,_,rfl,(MapKept.heap_alloc w _).1,fun i x a j y b=>?_⟩⟩;cases i with
 |zero =>
  have:v=x:=by simpa using a
  subst this;rw[Uz] at b;simpa using b
 |succ i=>simp at a
theorem KZ (w:World)(c d:Obj)(a b:V)(e:Gq Z w) :
 Ee Z ((((w.alloc c).alloc d).alloc (.cells #[.bool (uB a),.int .i64 (uN a),.string ⟨(uS a).toArray⟩] 202)).alloc (.cells #[.bool (uB b),.int .i64 (uN b),.string ⟨(uS b).toArray⟩] 202)) (.slice (some ⟨w.heap.size+1+1,0,none⟩) 1 1) [a] ∧
 Ee Z ((((w.alloc c).alloc d).alloc (.cells #[.bool (uB a),.int .i64 (uN a),.string ⟨(uS a).toArray⟩] 202)).alloc (.cells #[.bool (uB b),.int .i64 (uN b),.string ⟨(uS b).toArray⟩] 202)) (.slice (some ⟨w.heap.size+1+1+1,0,none⟩) 1 1) [b]:=by
 have f:=Ee.one (Z:=Z) ((w.alloc c).alloc d) a (e.up (by simp;omega));have g:=Ee.one (((w.alloc c).alloc d).alloc (.cells #[.bool (uB a),.int .i64 (uN a),.string ⟨(uS a).toArray⟩] 202)) b (e.up (by simp;omega));rw[show ((w.alloc c).alloc d).heap.size=w.heap.size+1+1 by simp] at f;rw[show ((((w.alloc c).alloc d).alloc (.cells #[.bool (uB a),.int .i64 (uN a),.string ⟨(uS a).toArray⟩] 202))).heap.size=w.heap.size+1+1+1 by simp] at g;exact⟨f.Ag ((Ab.refl No _).alloc _),g⟩
theorem CS (w:World)(cs:Array Value)(t:TypeId)(a c d:Obj)(i:Nat):((((w.alloc (.cells cs t)).alloc a).alloc c).alloc d).cell? ⟨w.heap.size,i,none⟩=cs[i]? :=by
 have e:C2 (w.alloc (.cells cs t)) w.heap.size cs t:=(MapKept.heap_alloc w _).1;have f:=(((Ab.refl No (w.alloc (.cells cs t))).alloc a).alloc c).alloc d;rw[f.cell (b:=w.heap.size) (by simp) xT,Af e]
theorem PZ (a b:V):Nv .eq a b=(!vlt a b && !vlt b a):=by
 show decide (a=b)=_;by_cases h:a=b
 ·subst h;simp[Rp.irrefl]
 rw[decide_eq_false h];cases c:vlt a b
 ·cases d:vlt b a
  ·exact absurd (Rp.tri _ _ c d) h
  rfl
 rfl
theorem eG (a b:V):Nv .ne a b=(vlt a b || vlt b a):=by
 have:=PZ a b;show (!decide (a=b))=_;have c:decide (a=b)=(!vlt a b && !vlt b a):=this;rw[c];cases vlt a b <;> cases vlt b a <;> rfl
theorem QA (p0:Int)(p1:ByteArray)(f:Option Addr)(g h:Nat)(one two:Int)(c:Nat)(k:Qb)(x:Dk)(W:Value)(r:Row)(w:World)(hr:Ee Z w W r)(R:c<r.length)(F:Pk x<r.length)(X:ty (Aj r c)=ty (Iv x r))(Y:Gq Z w) :
 Calls prog 136 #[.agg #[.int .u8 p0,.string p1,.slice f g h,.int .u8 (K6 k),.int .u8 (Vt x),.bool (uB (U1 x)),.int .i64 (uN (U1 x)),.string ⟨(uS (U1 x)).toArray⟩,.int .i64 (Pk x:Int),.int .i64 one,.int .i64 two,.int .i64 (c:Int)],W] w fun e w'=>e=.returned (.bool (M6 c k x r))∧Ab No w w':=by
 have S:=Ae hr;have aa:=Ae Y;clear Y;have P:=Ae X;obtain⟨_,ac,rfl,ad,ab,-⟩:=hr;have ag:=Bn ab.1
 obtain⟨Q,ae⟩:∃n,r.length=n:=⟨_,rfl⟩;obtain⟨a,T⟩:∃a,r[c]? =some a:=⟨_,tT R⟩;have E:Aj r c=a:=by unfold Aj;rw[uH,T];rfl
 rw[ae] at S ad R F⊢;have ah:(c:Int)<(Q:Int):=by omega
 have ai:=Bm c
 obtain⟨vb,_,rfl,_,_,_,_⟩:=S.o.cells T;clear ab X T R;cases x with
 |col d =>
  have aj:(d:Int)<(Q:Int):=by have:d<Q:=F;omega
  have ak:=Bm d
  obtain⟨b,U⟩:∃b,r[d]? =some b:=⟨_,tT (by have:d<Q:=F;omega)⟩;have V:Aj r d=b:=by unfold Aj;rw[uH,U];rfl
  obtain⟨_,_,e1,_,g0,_,_⟩:=S.o.cells U;injection e1 with e1;injection e1 with e1 e2;subst e1 e2;have G:ty a=ty b:=by have:=P.o;rw[E] at this;rw[this];show ty (Aj r d)=_;rw[V]
  have H:=Ae G;have I:xR (∀k,M6 c k (.col d) r=Nv k a b):=by intro k;show Nv k (Aj r c) (Aj r d)=_;rw[E,V]
  simp only[Vt,U1,Pk,uB,uN,uS];clear U V E G P F;go_enter func136,ntmps136;go_wp21;obtain⟨J,K⟩:=KZ w (.cells #[.int .u8 p0,.string p1,.slice f g h,.int .u8 (K6 k),.int .u8 0,.bool false,.int .i64 0,.string ⟨#[]⟩,.int .i64 (d:Int),.int .i64 one,.int .i64 two,.int .i64 (c:Int)] 204) (.cells #[.bool (uB b),.int .i64 (uN b),.string ⟨(uS b).toArray⟩] 202) a b aa.o;have L:=CS w #[.int .u8 p0,.string p1,.slice f g h,.int .u8 (K6 k),.int .u8 0,.bool false,.int .i64 0,.string ⟨#[]⟩,.int .i64 (d:Int),.int .i64 one,.int .i64 two,.int .i64 (c:Int)] 204 (.cells #[.bool (uB b),.int .i64 (uN b),.string ⟨(uS b).toArray⟩] 202) (.cells #[.bool (uB a),.int .i64 (uN a),.string ⟨(uS a).toArray⟩] 202) (.cells #[.bool (uB b),.int .i64 (uN b),.string ⟨(uS b).toArray⟩] 202) 3;have q:xR (Ab No w ((((w.alloc (.cells #[.int .u8 p0,.string p1,.slice f g h,.int .u8 (K6 k),.int .u8 0,.bool false,.int .i64 0,.string ⟨#[]⟩,.int .i64 (d:Int),.int .i64 one,.int .i64 two,.int .i64 (c:Int)] 204)).alloc (.cells #[.bool (uB b),.int .i64 (uN b),.string ⟨(uS b).toArray⟩] 202)).alloc (.cells #[.bool (uB a),.int .i64 (uN a),.string ⟨(uS a).toArray⟩] 202)).alloc (.cells #[.bool (uB b),.int .i64 (uN b),.string ⟨(uS b).toArray⟩] 202))):=((((Ab.refl No w).alloc _).alloc _).alloc _).alloc _;have M:w.heap.size<((((w.alloc (.cells #[.int .u8 p0,.string p1,.slice f g h,.int .u8 (K6 k),.int .u8 0,.bool false,.int .i64 0,.string ⟨#[]⟩,.int .i64 (d:Int),.int .i64 one,.int .i64 two,.int .i64 (c:Int)] 204)).alloc (.cells #[.bool (uB b),.int .i64 (uN b),.string ⟨(uS b).toArray⟩] 202)).alloc (.cells #[.bool (uB a),.int .i64 (uN a),.string ⟨(uS a).toArray⟩] 202)).alloc (.cells #[.bool (uB b),.int .i64 (uN b),.string ⟨(uS b).toArray⟩] 202)).heap.size:=by simp;omega
  have m:=Ae J;have o:=Ae K;have s:=Ae L;have t:=Ae M;clear J K L M;obtain⟨u,y⟩:∃u,((((w.alloc (.cells #[.int .u8 p0,.string p1,.slice f g h,.int .u8 (K6 k),.int .u8 0,.bool false,.int .i64 0,.string ⟨#[]⟩,.int .i64 (d:Int),.int .i64 one,.int .i64 two,.int .i64 (c:Int)] 204)).alloc (.cells #[.bool (uB b),.int .i64 (uN b),.string ⟨(uS b).toArray⟩] 202)).alloc (.cells #[.bool (uB a),.int .i64 (uN a),.string ⟨(uS a).toArray⟩] 202)).alloc (.cells #[.bool (uB b),.int .i64 (uN b),.string ⟨(uS b).toArray⟩] 202))=u:=⟨_,rfl⟩;rw[y] at m o s q t;rw[y];clear y;go_call Kg _ _ [a] [b] _ m.o o.o (by simp[H.o]) (by simp) as e w1 ⟨rfl,N⟩;have p:=Ae N;clear N;go_wp21;go_call Kg _ _ [b] [a] _ (o.o.Ag p.o) (m.o.Ag p.o) (by simp[H.o]) (by simp) as e z ⟨rfl,O⟩;have A:xR (Ab No u z):=p.o.seq O;clear O;have B:C3 z w.heap.size 3 (.int .u8 (K6 k)):=(A.o.cell t.o xT).trans s.o;have C:xR (Ab No w z):=q.o.seq A.o;clear p A q s t m o;rw[Xi,Xi];have D:=Ae (I.o k);clear I;cases k with
  |lt =>simp only[K6] at B⊢;go_wp21;go_ret;exact⟨A5 (by rw[D.o];rfl),C.o⟩
  |eq =>
   simp only[K6] at B⊢;have i:xR (Nv .eq a b=(!vlt a b && !vlt b a)):=PZ a b;cases j:vlt a b <;> cases l:vlt b a <;>
   ·rw[j,l] at i;clear j l;go_wp21;go_ret;exact⟨A5 (by rw[D.o,i.o];rfl),C.o⟩
  |ne =>
   simp only[K6] at B⊢;have i:xR (Nv .ne a b=(vlt a b || vlt b a)):=eG a b;cases j:vlt a b <;> cases l:vlt b a <;>
   ·rw[j,l] at i;clear j l;go_wp21;go_ret;exact⟨A5 (by rw[D.o,i.o];rfl),C.o⟩
 |val v =>
  have G:ty a=ty v:=by have:=P.o;rw[E] at this;exact this
  have H:=Ae G;have I:xR (∀k,M6 c k (.val v) r=Nv k a v):=by intro k;show Nv k (Aj r c) v=_;rw[E]
  have af:(Vt (.val v) == 0)=false:=by cases v <;> rfl
  simp only[U1,Pk];generalize Vt (.val v)=mk at af⊢;clear E G P F;go_enter func136,ntmps136;go_wp21;obtain⟨J,K⟩:=KZ w (.cells #[.int .u8 p0,.string p1,.slice f g h,.int .u8 (K6 k),.int .u8 mk,.bool (uB v),.int .i64 (uN v),.string ⟨(uS v).toArray⟩,.int .i64 0,.int .i64 one,.int .i64 two,.int .i64 (c:Int)] 204) (.cells #[.bool (uB v),.int .i64 (uN v),.string ⟨(uS v).toArray⟩] 202) a v aa.o;have L:=CS w #[.int .u8 p0,.string p1,.slice f g h,.int .u8 (K6 k),.int .u8 mk,.bool (uB v),.int .i64 (uN v),.string ⟨(uS v).toArray⟩,.int .i64 0,.int .i64 one,.int .i64 two,.int .i64 (c:Int)] 204 (.cells #[.bool (uB v),.int .i64 (uN v),.string ⟨(uS v).toArray⟩] 202) (.cells #[.bool (uB a),.int .i64 (uN a),.string ⟨(uS a).toArray⟩] 202) (.cells #[.bool (uB v),.int .i64 (uN v),.string ⟨(uS v).toArray⟩] 202) 3;have q:xR (Ab No w ((((w.alloc (.cells #[.int .u8 p0,.string p1,.slice f g h,.int .u8 (K6 k),.int .u8 mk,.bool (uB v),.int .i64 (uN v),.string ⟨(uS v).toArray⟩,.int .i64 0,.int .i64 one,.int .i64 two,.int .i64 (c:Int)] 204)).alloc (.cells #[.bool (uB v),.int .i64 (uN v),.string ⟨(uS v).toArray⟩] 202)).alloc (.cells #[.bool (uB a),.int .i64 (uN a),.string ⟨(uS a).toArray⟩] 202)).alloc (.cells #[.bool (uB v),.int .i64 (uN v),.string ⟨(uS v).toArray⟩] 202))):=((((Ab.refl No w).alloc _).alloc _).alloc _).alloc _;have M:w.heap.size<((((w.alloc (.cells #[.int .u8 p0,.string p1,.slice f g h,.int .u8 (K6 k),.int .u8 mk,.bool (uB v),.int .i64 (uN v),.string ⟨(uS v).toArray⟩,.int .i64 0,.int .i64 one,.int .i64 two,.int .i64 (c:Int)] 204)).alloc (.cells #[.bool (uB v),.int .i64 (uN v),.string ⟨(uS v).toArray⟩] 202)).alloc (.cells #[.bool (uB a),.int .i64 (uN a),.string ⟨(uS a).toArray⟩] 202)).alloc (.cells #[.bool (uB v),.int .i64 (uN v),.string ⟨(uS v).toArray⟩] 202)).heap.size:=by simp;omega
  have m:=Ae J;have o:=Ae K;have s:=Ae L;have t:=Ae M;clear J K L M;obtain⟨u,y⟩:∃u,((((w.alloc (.cells #[.int .u8 p0,.string p1,.slice f g h,.int .u8 (K6 k),.int .u8 mk,.bool (uB v),.int .i64 (uN v),.string ⟨(uS v).toArray⟩,.int .i64 0,.int .i64 one,.int .i64 two,.int .i64 (c:Int)] 204)).alloc (.cells #[.bool (uB v),.int .i64 (uN v),.string ⟨(uS v).toArray⟩] 202)).alloc (.cells #[.bool (uB a),.int .i64 (uN a),.string ⟨(uS a).toArray⟩] 202)).alloc (.cells #[.bool (uB v),.int .i64 (uN v),.string ⟨(uS v).toArray⟩] 202))=u:=⟨_,rfl⟩;rw[y] at m o s q t;rw[y];clear y;go_call Kg _ _ [a] [v] _ m.o o.o (by simp[H.o]) (by simp) as e w1 ⟨rfl,N⟩;have p:=Ae N;clear N;go_wp21;go_call Kg _ _ [v] [a] _ (o.o.Ag p.o) (m.o.Ag p.o) (by simp[H.o]) (by simp) as e z ⟨rfl,O⟩;have A:xR (Ab No u z):=p.o.seq O;clear O;have B:C3 z w.heap.size 3 (.int .u8 (K6 k)):=(A.o.cell t.o xT).trans s.o;have C:xR (Ab No w z):=q.o.seq A.o;clear p A q s t m o;rw[Xi,Xi];have D:=Ae (I.o k);clear I;cases k with
  |lt =>simp only[K6] at B⊢;go_wp21;go_ret;exact⟨A5 (by rw[D.o];rfl),C.o⟩
  |eq =>
   simp only[K6] at B⊢;have i:xR (Nv .eq a v=(!vlt a v && !vlt v a)):=PZ a v;cases j:vlt a v <;> cases l:vlt v a <;>
   ·rw[j,l] at i;clear j l;go_wp21;go_ret;exact⟨A5 (by rw[D.o,i.o];rfl),C.o⟩
  |ne =>
   simp only[K6] at B⊢;have i:xR (Nv .ne a v=(vlt a v || vlt v a)):=eG a v;cases j:vlt a v <;> cases l:vlt v a <;>
   ·rw[j,l] at i;clear j l;go_wp21;go_ret;exact⟨A5 (by rw[D.o,i.o];rfl),C.o⟩
end
section
variable {Z:Nat→Prop}
def Ea:Q→List Q
 | .tab nm=>[.tab nm]
 | .sel c k x q=>Ea q++[.sel c k x q]
 | .pick cs q=>Ea q++[.pick cs q]
 | .join n m q r=>Ea q++Ea r++[.join n m q r]
 | .uni q r=>Ea q++Ea r++[.uni q r]
 | .dist q=>Ea q++[.dist q]
 | .grp cs s q=>Ea q++[.grp cs s q]
theorem R4 (q:Q):(Ea q).getLast? =some q:=by cases q <;> simp[Ea]
structure UP where
 verb:Int
 name:ByteArray
 cols:List Nat
 sign:Int
 mark:Int
 wit:V
 sum:Nat
 one:Int
 two:Int
 col:Nat
def UP.cells (p:UP)(cv:Value):List Value:=[.int .u8 p.verb,.string p.name,cv,.int .u8 p.sign,.int .u8 p.mark,.bool (uB p.wit),.int .i64 (uN p.wit),.string ⟨(uS p.wit).toArray⟩,.int .i64 (p.sum:Int),.int .i64 p.one,.int .i64 p.two,.int .i64 (p.col:Int)]
def I9 (S:List Q)(i:Nat)(j:Int)(q:Q):Prop:=∃k:Nat,j=(k:Int)∧k<i∧S[k]? =some q
theorem I9.more {S T:List Q}{i:Nat}{j:Int}{q:Q}(h:I9 S i j q):I9 (S++T) i j q:=by
 obtain⟨k,e,b,a⟩:=h;exact⟨k,e,b,by rw[uD (tR.1 a).1];exact a⟩
def L7 (S:List Q)(i:Nat)(p:UP):Q→Prop
 | .tab nm=>p.verb=0∧p.name=⟨nm.toArray⟩
 | .sel c k x q=>p.verb=83∧p.sign=K6 k∧p.mark=Vt x∧p.wit=U1 x∧p.sum=Pk x∧p.col=c∧I9 S i p.one q
 | .pick cs q=>p.verb=80∧p.cols=cs∧I9 S i p.one q
 | .join n m q r=>p.verb=74∧p.col=n∧p.sum=m∧I9 S i p.one q∧I9 S i p.two r
 | .uni q r=>p.verb=85∧I9 S i p.one q∧I9 S i p.two r
 | .dist q=>p.verb=68∧I9 S i p.one q
 | .grp cs s q=>p.verb=71∧p.cols=cs∧s=(if p.sign=115 then some p.sum else none)∧I9 S i p.one q
theorem L7.more {S T:List Q}{i:Nat}{p:UP}{q:Q}(h:L7 S i p q):L7 (S++T) i p q:=by
 cases q with
 |tab nm=>exact h
 |sel c k x q=>obtain⟨a,d,e,b,f,j,g⟩:=h;exact⟨a,d,e,b,f,j,g.more⟩
 |pick cs q=>obtain⟨a,d,g⟩:=h;exact⟨a,d,g.more⟩
 |join n m q r=>obtain⟨a,d,e,b,f⟩:=h;exact⟨a,d,e,b.more,f.more⟩
 |uni q r=>obtain⟨a,b,f⟩:=h;exact⟨a,b.more,f.more⟩
 |dist q=>obtain⟨a,b⟩:=h;exact⟨a,b.more⟩
 |grp cs s q=>obtain⟨a,d,e,b⟩:=h;exact⟨a,d,e,b.more⟩
def Zo (p:UP):Prop:=p.sum≤9∧p.col≤9∧p.cols.length≤6∧∀c∈p.cols,c≤9
def Hn (Z:Nat→Prop)(w:World)(v:Value)(S:List Q):Prop:=∃a cap,v=.slice a S.length cap∧S.length≤cap∧(cap≤maxLen∧kQ Z a S.length cap) ∧
 ∀i q,S[i]? =some q→∃b o p cv,a=some ⟨b,o,none⟩∧b<w.heap.size∧(∀j x,(UP.cells p cv)[j]? =some x→w.cell? ⟨b,o+i*12+j,none⟩=some x)∧Ik Z w cv p.cols∧Zo p∧L7 S i p q
theorem Hn.Ag {w w':World}{v:Value}{S:List Q}(h:Hn Z w v S)(k:Ab No w w'):Hn Z w' v S:=by
 obtain⟨a,cap,e,d,f,g⟩:=h;refine⟨a,cap,e,d,f,fun i q l=>?_⟩;obtain⟨b,o,p,cv,e1,c,m,n,hp,r⟩:=g i q l;exact⟨b,o,p,cv,e1,tU c k.size,fun j x s=>(k.cell c xT).trans (m j x s),n.Ag k,hp,r⟩
def I4 (w:World)(v:Value)(ls:List (List UInt8)):Prop:=∃a cap,v=.slice a ls.length cap∧ls.length≤cap∧cap≤maxLen ∧
 ∀(i:Nat) (s:List UInt8),ls[i]? =some s→∃b o,a=some ⟨b,o,none⟩∧b<w.heap.size∧w.cell? ⟨b,o+i,none⟩=some (.string ⟨s.toArray⟩)
theorem I4.Ag {w w':World}{v:Value}{c:List (List UInt8)}(h:I4 w v c)(k:Ab No w w'):I4 w' v c:=by
 obtain⟨a,cap,e,f,g,j⟩:=h;refine⟨a,cap,e,f,g,fun i q l=>?_⟩;obtain⟨b,o,e1,d,m⟩:=j i q l;exact⟨b,o,e1,tU d k.size,(k.cell d xT).trans m⟩
def AC (f:List UInt8→Option (List Bool))(q:Q):List UInt8:=match A7 f q with
 |some ts=>Fj ts
 |none=>[]
theorem G2 {f:List UInt8→Option (List Bool)}{q:Q}{ts:List Bool}(h:A7 f q=some ts):AC f q=Fj ts:=by unfold AC;rw[h]
theorem L8 {f:List UInt8→Option (List Bool)}{q:Q}(h:A7 f q=none):AC f q=[]:=by unfold AC;rw[h]
theorem Bi {w:World}{pv:Array Value}{i:Nat}{v:Value}(h:pv[i]? =some v):C3 (w.alloc (.cells pv 204)) w.heap.size i v:=(Af (MapKept.heap_alloc w _).1 i).trans h
end
section
def Zq (c d:Nat)(x:Row×Int)(b:Bag):Bag:=(Cw (fun y=>decide (Aj x.1 c=Aj y d)) b).map fun y=>(x.1++y.1,x.2*y.2)
def Ja (c d:Nat)(a b:Bag)(i k:Nat):Bag:=Bw c d (a.take i) b++(match a[i]? with|some x=>Zq c d x (b.take k)|none=>[])
theorem Ma (c d:Nat)(a b:Bag):Bw c d a b=a.flatMap fun x=>Zq c d x b:=rfl
theorem XX (c d:Nat)(a b:Bag):Ja c d a b 0 0=[]:=by
 unfold Ja;rw[xH,xH];cases a[0]? <;> rfl
theorem Zr (c d:Nat)(a b:Bag)(i:Nat):Ja c d a b i 0=Bw c d (a.take i) b:=by
 unfold Ja;rw[xH];cases a[i]? <;> simp[Zq,Cw]
theorem XY {c d:Nat}{a b:Bag}{i:Nat}{x:Row×Int}(h:a[i]? =some x):Ja c d a b i b.length=Ja c d a b (i+1) 0:=by
 rw[Zr];unfold Ja;rw[vH,uI,h,Ma,Ma,vR];simp
theorem eH {c d:Nat}{a b:Bag}{i k:Nat}{x y:Row×Int}(h:a[i]? =some x)(e:b[k]? =some y)(f:Aj x.1 c=Aj y.1 d):Ja c d a b i (k+1)=Ja c d a b i k++[(x.1++y.1,x.2*y.2)]:=by
 unfold Ja;rw[h,uI,e];simp[Zq,Cw,f]
theorem XZ {c d:Nat}{a b:Bag}{i k:Nat}{x y:Row×Int}(h:a[i]? =some x)(e:b[k]? =some y)(f:Aj x.1 c≠Aj y.1 d):Ja c d a b i (k+1)=Ja c d a b i k:=by
 unfold Ja;rw[h,uI,e];simp[Zq,Cw,f]
theorem eI (c d:Nat)(a b:Bag):Ja c d a b a.length 0=Bw c d a b:=by rw[Zr,vH]
theorem eJ {c d:Nat}{x:Row×Int}{b:Bag}(a:0≤x.2)(f:∀e∈b,0≤e.2):∀e∈Zq c d x b,0≤e.2:=fun e g=>by
 obtain⟨y,h,rfl⟩:=uA.1 g;exact vC a (f y (xD.1 h).1)
theorem CT {c d:Nat}{a b:Bag}(g:∀e∈a,0≤e.2)(h:∀e∈b,0≤e.2):∀e∈Bw c d a b,0≤e.2:=fun e f=>by
 rw[Ma] at f;obtain⟨x,i,f⟩:=xN.1 f;exact eJ (g x i) h e f
theorem Nh {l:Bag}(h:∀e∈l,0≤e.2):nn l:=Nu fun g hg=>by
 have:=Iu h (g:=fun _=>0) (k:=g) (fun e _=>hg e.1);rw[Nq] at this;exact this
theorem FM {l m:Bag}(h:∀e∈m,0≤e.2)(a:l.Sublist m):Nr l≤Nr m:=by
 induction a with
 |slnil=>exact vU _
 |cons e a b =>have f:=h e (by simp);have d:=b fun x c=>h x (by simp[c]);show Nr _≤e.2*1+Nr _;omega
 |cons_cons e a b =>have d:=b fun x c=>h x (by simp[c]);show e.2*1+Nr _≤e.2*1+Nr _;omega
theorem eK (c d:Nat)(x:Row×Int){b b':Bag}(h:b'.Sublist b):(Zq c d x b').Sublist (Zq c d x b):=(h.filter _).map _
theorem Rg (c d:Nat)(a b:Bag)(i k:Nat):(Ja c d a b i k).Sublist (Bw c d a b):=by
 unfold Ja;rw[Ma,Ma];have e:a.flatMap (fun x=>Zq c d x b)=(a.take i).flatMap (fun x=>Zq c d x b)++(a.drop i).flatMap (fun x=>Zq c d x b):=by rw[←vR,List.take_append_drop]
 rw[e];refine List.Sublist.append (List.Sublist.refl _) ?_;cases h:a[i]? with
 |none=>exact List.nil_sublist _
 |some x =>rw[vF (tR.1 h).1,(tR.1 h).2,uX];exact (eK c d x (List.take_sublist _ _)).trans (List.sublist_append_left _ _)
theorem QB {c d:Nat}{a b:Bag}(f:∀e∈a,0≤e.2)(g:∀e∈b,0≤e.2){M:Int}(_:Nr a*Nr b≤M)(i k:Nat):∀e∈Bu (Ja c d a b i k) [],-M≤e.2∧e.2≤M:=by
 intro e j;have h:=CT (c:=c) (d:=d) f g;have hp:∀x∈Ja c d a b i k,0≤x.2:=fun x l=>h x ((Rg c d a b i k).mem l);have o:=(Dd (Ja c d a b i k) (acc:=[]) trivial).Df j;rw[Jn,vJ] at o;have p:=Le (Nh hp) e.1;have q:=Nh hp e.1;have r:=FM h (Rg c d a b i k);have s:=Xy (n:=c) (m:=d) (Nh f) (Nh g);omega
def Om (cs:List Nat)(a:Bag)(i:Nat):Bag:=Bu ((a.take i).map fun e=>(Ao cs e.1,(1:Int))) []
theorem QC (cs:List Nat)(a:Bag):Om cs a 0=[]:=rfl
theorem QD {cs:List Nat}{a:Bag}{i:Nat}{e:Row×Int}(h:a[i]? =some e):Om cs a (i+1)=C5 (Ao cs e.1) 1 (Om cs a i):=by
 unfold Om;rw[uI,h,uF];exact Ij _ _ _
theorem Vu {cs:List Nat}{a:Bag}(h:Ck a):Om cs a a.length=Hr cs a:=by
 unfold Om;rw[vH,E5 _ (acc:=[]) trivial,vJ];unfold Hr;rw[Bp h]
theorem CU (cs:List Nat)(a:Bag)(i:Nat):(Om cs a i).length≤i:=by
 have h:=Jp ((a.take i).map fun e=>(Ao cs e.1,(1:Int))) [];rw[tZ,uV] at h;unfold Om;simp only[vI] at h;omega
theorem CV {cs:List Nat}{a:Bag}{i:Nat}{x:Row×Int}(h:x∈Om cs a i):∃e∈a,Ao cs e.1=x.1:=by
 rcases Jo h with ⟨y,b,_⟩|⟨y,b,e⟩
 ·cases b
 obtain⟨c,d,rfl⟩:=uA.1 b;exact⟨c,vY d,e⟩
theorem Zs {α:Type}(f:α→Row)(l:List α):∀x∈Bu (l.map fun e=>(f e,(1:Int))) [],0≤x.2∧x.2≤(l.length:Int):=by
 intro x a;have c:=(Dd (l.map fun e=>(f e,(1:Int))) (acc:=[]) trivial).Df a;have b:=Jn (l.map fun e=>(f e,(1:Int))) [] x.1;rw[vJ] at b;have key:∀(l:List α) (r:Row),0≤cnt (l.map fun e=>(f e,(1:Int))) r∧cnt (l.map fun e=>(f e,(1:Int))) r≤(l.length:Int):=by
  intro l r;induction l with
  |nil=>exact⟨vU _,vU _⟩
  |cons y l d =>show 0≤(if f y=r then (1:Int) else 0)+cnt (l.map fun e=>(f e,(1:Int))) r∧(if f y=r then (1:Int) else 0)+cnt (l.map fun e=>(f e,(1:Int))) r≤((y::l).length:Int);rw[uO];split <;> omega
 have g:=key l x.1;omega
theorem LA {cs:List Nat}{a:Bag}{i:Nat}:∀x∈Om cs a i,0≤x.2∧x.2≤(i:Int):=by
 intro x b;have c:=Zs (fun e:Row×Int=>Ao cs e.1) (a.take i) x b;have d:(a.take i).length≤i:=by rw[uV];omega
 omega
def Rh (cs:List Nat)(s:Option Nat)(a:Bag)(k:Row)(i:Nat):Int:=M5 cs s (a.take i) k
theorem YA (cs:List Nat)(s:Option Nat)(a:Bag)(k:Row):Rh cs s a k 0=0:=rfl
theorem CW {cs:List Nat}{s:Option Nat}{a:Bag}{k:Row}{i:Nat}{e:Row×Int}(h:a[i]? =some e):Rh cs s a k (i+1)=Rh cs s a k i+(if Ao cs e.1=k then sv s e.1*e.2 else 0):=by
 unfold Rh M5;rw[uI,h,D3];show _+(e.2*(if Ao cs e.1=k then sv s e.1 else 0)+0)=_;split
 ·rw[vW];omega
 rw[Int.mul_zero];omega
theorem eL (cs:List Nat)(s:Option Nat)(a:Bag)(k:Row):Rh cs s a k a.length=M5 cs s a k:=by unfold Rh;rw[vH]
def Vv (cs:List Nat)(s:Option Nat)(a:Bag)(ks:Bag)(k:Nat):Bag:=Bu ((ks.take k).map fun x=>(x.1++[.num (M5 cs s a x.1)],(1:Int))) []
theorem YB (cs:List Nat)(s:Option Nat)(a ks:Bag):Vv cs s a ks 0=[]:=rfl
theorem YC {cs:List Nat}{s:Option Nat}{a ks:Bag}{k:Nat}{x:Row×Int}(h:ks[k]? =some x):Vv cs s a ks (k+1)=C5 (x.1++[.num (M5 cs s a x.1)]) 1 (Vv cs s a ks k):=by
 unfold Vv;rw[uI,h,uF];exact Ij _ _ _
theorem eM (cs:List Nat)(s:Option Nat)(a:Bag):Vv cs s a (Hr cs a) (Hr cs a).length=Ad (yE cs s a):=by
 unfold Vv;rw[vH,E5 _ (acc:=[]) trivial,vJ];rfl
theorem eN (cs:List Nat)(s:Option Nat)(a ks:Bag)(k:Nat):(Vv cs s a ks k).length≤k:=by
 have h:=Jp ((ks.take k).map fun x=>(x.1++[.num (M5 cs s a x.1)],(1:Int))) [];rw[tZ,uV] at h;unfold Vv;simp only[vI] at h;omega
theorem QE {cs:List Nat}{s:Option Nat}{a ks:Bag}{k:Nat}:∀x∈Vv cs s a ks k,0≤x.2∧x.2≤(k:Int):=by
 intro x b;have c:=Zs (fun x:Row×Int=>x.1++[V.num (M5 cs s a x.1)]) (ks.take k) x b;have d:(ks.take k).length≤k:=by rw[uV];omega
 omega
theorem eO {cs:List Nat}{s:Option Nat}{a ks:Bag}{k:Nat}{x:Row×Int}(h:x∈Vv cs s a ks k):∃y∈ks,x.1=y.1++[.num (M5 cs s a y.1)]:=by
 rcases Jo h with ⟨y,b,_⟩|⟨y,b,e⟩
 ·cases b
 obtain⟨c,d,rfl⟩:=uA.1 b;exact⟨c,vY d,e.symm⟩
theorem Cg {ts:List Bool}{b:Bag}(h:B2 ts b):∀e∈Ad b,e.1.map ty=ts∧1≤e.2∧e.2≤3000000000000:=fun e a =>
 ⟨h.ty e a,Va h.nn a,by have:=(h.bd e.1).2;rw[←Aq,(Ap b).Df a] at this;exact this⟩
theorem Mb {ts:List Bool}{b:Bag}(h:B2 ts b):∀e∈Ad b,e.1.length=ts.length:=fun e a=>by rw[←(Cg h e a).1,tZ]
theorem Kh (b:Bag):Nr (Ad b)=Nr b:=Xw (Bc b)
theorem LB (b:Bag):Wt (Ad b)=Wt b:=aF (Bc b)
theorem Zt {a m:Bag}(c:Ck a)(d:∀e∈a,0≤e.2)(f:∀e∈m,0≤e.2){M:Int}(_:Nr a+Nr m≤M):∀e∈Bu m a,-M≤e.2∧e.2≤M:=by
 intro e g;have h:=(Dd m c).Df g;rw[Jn m a e.1] at h;have hp:nn (a++m):=Nh fun x b=>by
  rcases tW.1 b with b|b
  ·exact d x b
  exact f x b
 have i:=Le hp e.1;have j:=hp e.1;rw[BC] at i;omega
def dl (g:Row×Int→Option (Row×Int))(l:Bag)(i:Nat):Bag:=(l.take i).filterMap g
theorem FN (g:Row×Int→Option (Row×Int))(l:Bag):dl g l 0=[]:=rfl
theorem kV {g:Row×Int→Option (Row×Int)}{l:Bag}{i:Nat}{e x:Row×Int}(h:l[i]? =some e)(hg:g e=some x):dl g l (i+1)=dl g l i++[x]:=by
 unfold dl;rw[uI,h,List.filterMap_append];simp[hg]
theorem kW {g:Row×Int→Option (Row×Int)}{l:Bag}{i:Nat}{e:Row×Int}(h:l[i]? =some e)(hg:g e=none):dl g l (i+1)=dl g l i:=by
 unfold dl;rw[uI,h,List.filterMap_append];simp[hg]
theorem QF (g:Row×Int→Option (Row×Int))(l:Bag):dl g l l.length=l.filterMap g:=by unfold dl;rw[vH]
theorem oY (g:Row×Int→Option (Row×Int))(l:Bag)(i:Nat):(dl g l i).length≤i:=by
 unfold dl;have a:=List.length_filterMap_le g (l.take i);rw[uV] at a;omega
theorem oZ {g:Row×Int→Option (Row×Int)}{l:Bag}{i:Nat}{x:Row×Int}(h:x∈dl g l i):∃e∈l,g e=some x:=by
 obtain⟨e,a,hg⟩:=List.mem_filterMap.1 h;exact⟨e,vY a,hg⟩
theorem eP (g:Row×Int→Option (Row×Int))(l:Bag)(i:Nat):(dl g l i).Sublist (l.filterMap g):=(List.take_sublist i l).filterMap g
theorem eQ {g:Row×Int→Option (Row×Int)}{l:Bag}(hp:∀e∈l,∀x,g e=some x→0≤x.2){M:Int}(_:Nr (l.filterMap g)≤M)(i:Nat):∀e∈Bu (dl g l i) [],-M≤e.2∧e.2≤M:=by
 have d:∀e∈l.filterMap g,0≤e.2:=fun x b=>by obtain⟨e,c,hg⟩:=List.mem_filterMap.1 b;exact hp e c x hg
 refine Zt (a:=[]) trivial (fun e c=>by cases c) (fun x b=>d x ((eP g l i).mem b)) ?_;have f:=FM d (eP g l i);have h:Nr []=0:=rfl;omega
theorem QG (g:Row×Int→Option (Row×Int))(l:Bag)(i:Nat):(Bu (dl g l i) []).length≤i:=by
 have a:=Jp (dl g l i) [];have b:=oY g l i;simp at a;omega
theorem QH {g:Row×Int→Option (Row×Int)}{l:Bag}{i:Nat}{x:Row×Int}(h:x∈Bu (dl g l i) []):∃e∈l,∃y,g e=some y∧y.1=x.1:=by
 rcases Jo h with ⟨y,a,_⟩|⟨y,a,e⟩
 ·cases a
 obtain⟨b,c,hg⟩:=oZ a;exact⟨b,c,y,hg,e⟩
def FP (c:Nat)(k:Qb)(x:Dk)(e:Row×Int):Option (Row×Int):=if M6 c k x e.1=true then some e else none
def TG (cs:List Nat)(e:Row×Int):Option (Row×Int):=some (Ao cs e.1,e.2)
def TH (e:Row×Int):Option (Row×Int):=some (e.1,1)
theorem LC (c:Nat)(k:Qb)(x:Dk)(l:Bag):l.filterMap (FP c k x)=Cw (M6 c k x) l:=by
 unfold Cw;induction l with
 |nil=>rfl
 |cons e l a =>
  simp only[List.filterMap_cons,List.filter_cons,FP];by_cases h:M6 c k x e.1=true
  ·rw[if_pos h,if_pos h,←a]
  rw[if_neg h,if_neg h,←a]
theorem CX (cs:List Nat)(l:Bag):l.filterMap (TG cs)=Az cs l:=by
 show l.filterMap (some ∘ fun e:Row×Int=>(Ao cs e.1,e.2))=_;rw[List.filterMap_eq_map];rfl
theorem CY (b:Bag):(Ad b).filterMap TH=En b:=by
 show (Ad b).filterMap (some ∘ fun e:Row×Int=>(e.1,(1:Int)))=_;rw[List.filterMap_eq_map];rfl
theorem Zu {ts:List Bool}{b:Bag}(h:B2 ts b)(cs:List Nat)(s:Option Nat)(k:Row)(i:Nat): -1000000000000000000≤Rh cs s (Ad b) k i∧Rh cs s (Ad b) k i≤1000000000000000000:=by
 have hp:∀e∈(Ad b).take i,0≤e.2:=fun e a=>by have:=(Cg h e (vY a)).2.1;omega
 have f:Rh cs s (Ad b) k i≤Wt ((Ad b).take i):=Iu hp fun e _=>by have:=(BB s e.1).2;have:=Ny e.1;split <;> omega
 have j: -Wt ((Ad b).take i)≤Rh cs s (Ad b) k i:=by
  have c:=Iu hp (g:=fun r=>(-1)*xZ r) (k:=fun r=>if Ao cs r=k then sv s r else 0) fun e _=>by have:=(BB s e.1).1;have:=Ny e.1;split <;> omega
  rw[Ks] at c;have l:Ci ((Ad b).take i) xZ=Wt ((Ad b).take i):=rfl;have m:Rh cs s (Ad b) k i=Ci ((Ad b).take i) (fun r=>if Ao cs r=k then sv s r else 0):=rfl;omega
 have d:Wt ((Ad b).take i)≤Wt (Ad b):=by
  have n:Wt (Ad b)=Wt ((Ad b).take i)+Wt ((Ad b).drop i):=by unfold Wt;rw[←D3,List.take_append_drop]
  have o:0≤Wt ((Ad b).drop i):=RN (Nh fun e a=>by have:=(Cg h e (List.mem_of_mem_drop a)).2.1;omega);omega
 rw[LB] at d;have p:=h.wts;omega
theorem eS {ts:List Bool}{b:Bag}(h:B2 ts b)(s:Option Nat):∀e∈Ad b,-1000000000000000000≤sv s e.1*e.2∧sv s e.1*e.2≤1000000000000000000:=fun e c=>by
 have o:=Zu h [] s [];obtain⟨i,hi⟩:=uY c;have j:=CW (cs:=[]) (s:=s) (k:=[]) hi;rw[if_pos (show Ao [] e.1=[] from rfl)] at j;have f:=BB s e.1;have p:=(Cg h e c).2;have q:e.2*xZ e.1≤Wt b:=by
  rw[←LB];have hp:∀x∈Ad b,0≤x.2:=fun x a=>by have:=(Cg h x a).2.1;omega
  have key:∀{m:Bag},(∀x∈m,0≤x.2)→e∈m→e.2*xZ e.1≤Wt m:=by
   intro m d a;induction m with
   |nil=>cases a
   |cons y m l =>
    have hr:0≤Wt m:=RN (Nh fun x a=>d x (by simp[a]));have r:0≤y.2*xZ y.1:=vC (d y (by simp)) (Ny _);show _≤y.2*xZ y.1+Wt m;rcases uP.1 a with rfl|a
    ·omega
    have:=l (fun x a=>d x (by simp[a])) a;omega
  exact key hp c
 have t:=h.wts;have n:sv s e.1*e.2≤xZ e.1*e.2:=vQ f.2 (by omega);have g:(-xZ e.1)*e.2≤sv s e.1*e.2:=vQ f.1 (by omega);rw[Int.neg_mul] at g;rw[vW (xZ e.1)] at n g;omega
structure sX (ft:List UInt8→Option (List Bool)) (f:List UInt8→Bag) (S:List Q):Prop where
 ok:∀q∈S,∃ts,A7 ft q=some ts∧B2 ts (Bg f q)∧(Ad (Bg f q)).length≤400000000
 jn:∀c d q1 q2,.join c d q1 q2∈S→Nr (Bg f q1)*Nr (Bg f q2)≤1000000000000000000∧(Ad (Bg f q1)).length*(Ad (Bg f q2)).length≤1000000000
theorem YD {us ts:List Bool}{b:Bag}{c:Nat}{x:Dk}(h:B2 us b)(f:Eh c x us=some ts):∀e∈Ad b,c<e.1.length∧Pk x<e.1.length∧ty (Aj e.1 c)=ty (Iv x e.1):=fun e j=>by
 have k:=(Cg h e j).1;have q:=Mb h e j;unfold Eh at f;cases g:us[c]? with
 |none=>rw[g] at f;cases f
 |some a =>
  rw[g] at f;have l:(if I7 us x=some a then some us else none)=some ts:=f;by_cases i:I7 us x=some a
  ·have p:=(tR.1 g).1;have m:=(Ua k p).1;rw[uH,g] at m;refine⟨by omega,?_,?_⟩
   ·cases x with
    |col d=>have:=(tR.1 (show us[d]? =some a from i)).1;show d<_;omega
    |val v=>show 0<_;omega
   rw[m];cases x with
   |col d =>have n:us[d]? =some a:=i;have o:=(Ua k (tR.1 n).1).1;rw[uH,n] at o;exact o.symm
   |val v=>have:some (ty v)=some a:=i;injection this with this;exact this.symm
  rw[if_neg i] at l;cases l
theorem Pm {us ts:List Bool}{b:Bag}{cs:List Nat}(h:B2 us b)(a:Bq cs us=some ts):∀e∈Ad b,(∀c∈cs,c<e.1.length)∧(Ao cs e.1).map ty=ts:=fun e d=>by
 have g:=Mb h e d;exact⟨fun c f=>by have:=(Dc a).1 c f;omega,(Qv (Cg h e d).1 a).1⟩
variable {Z:Nat→Prop}
theorem pA {x y:V}(_:uB x=uB y)(_:uN x=uN y)(_:uS x=uS y):x=y:=by
 cases x <;> cases y <;> simp_all [uB,uN,uS]
theorem tO (x y:V)(w:World):(binOp .eql 202 (.agg #[.bool (uB x),.int .i64 (uN x),.string ⟨(uS x).toArray⟩]) (.agg #[.bool (uB y),.int .i64 (uN y),.string ⟨(uS y).toArray⟩])).run prog w=.ok (.bool (decide (x=y))) w:=by
 have g:=underlying4;have h:=underlying3;have i:=underlying9;have a1:=isAgg4;have a3:=isAgg3;have j:=isAgg9;have k:=sizeOf4;have l:=sizeOf3;have m:=sizeOf9;have f:prog.underlying 202=some (.struct (prog.fieldsOf 202)):=by kernel_rfl
 have hp:prog.stoodInHeld 202=false:=by kernel_rfl
 rw[run_eql_struct,show (10000:Nat)=9999+1 from rfl,run_equalIn_agg w 9999 202 _ _ f hp];simp only[Program.fieldsOf,underlying202];go_simp;by_cases a:uB x=uB y
 ·by_cases c:uN x=uN y
  ·by_cases d:uS x=uS y
   ·have:=pA a c d;subst this;simp
   have b:x≠y:=fun e=>d (by rw[e]);simp[a,c,d,b]
  have b:x≠y:=fun e=>c (by rw[e]);simp[a,c,b]
 have b:x≠y:=fun e=>a (by rw[e]);simp[a,b]
theorem sH:prog.eqGuardType prog.depth 202=false:=by kernel_rfl
theorem Mc (w:World):Ct Z w (.slice none 0 0) []:=⟨none,0,rfl,tY _,⟨vM _,Re _ _⟩,fun i x a=>by simp at a⟩
end
section
variable {Z:Nat→Prop}
theorem J0 (r:Row):(r.flatMap Ir).length=r.length*3:=by
 induction r with
 |nil=>rfl
 |cons v r a=>rw[uX,tS,Uy,a,uO];omega
theorem Ee.src {w:World}{b o n cap:Nat}{r:Row}(h:Ee Z w (.slice (some ⟨b,o,none⟩) n cap) r):∀j d,(r.flatMap Ir)[j]? =some d→w.cell? ((⟨b,o,none⟩:Addr).add j)=some d:=by
 intro j d f;obtain⟨a',_,e,_,_,m⟩:=h;injection e with e1 e2 e3;have g:=(tR.1 f).1;rw[J0] at g;have p:r≠[]:=by rintro rfl;simp at g
 obtain⟨b',_,c,_,e4,q,s⟩:=m p;rw[e4] at e1;injection e1 with e1;injection e1 with e1 e5;subst e1 e5;have hi:j / 3<r.length:=by omega
 have i:r[j / 3]? =some r[j / 3]:=tT hi;have t:j % 3<(Ir r[j / 3]).length:=by rw[Uy];omega
 have k:(Ir r[j / 3])[j % 3]? =some (Ir r[j / 3])[j % 3]:=tT t;have a:=Zn r (j / 3) _ i (j % 3) _ k;rw[show j / 3*3+j % 3=j by omega,f] at a;injection a with a;have l:=s (j / 3) _ i (j % 3) _ k;rw[show o+j / 3*3+j % 3=o+j by omega,←a] at l;have u:(⟨b,o,none⟩:Addr).add j=⟨b,o+j,none⟩:=by unfold Addr.add;split <;> simp_all
 rw[u,Af q];exact l
theorem Ee.sI {w:World}{b:Addr}{n cap:Nat}{r:Row}(h:Ee Z w (.slice (some b) n cap) r):∀j a,(r.flatMap Ir)[j]? =some a→w.cell? (b.add j)=some a:=by
 by_cases hr:r=[]
 ·subst hr;intro j a d;cases d
 obtain⟨a',_,e,_,_,f⟩:=id h;injection e with e1 e2 e3;obtain⟨b',_,c,_,e4,_,_⟩:=f hr;rw[e4] at e1;injection e1 with e1;subst e1;exact h.src
theorem Zv (r:Row):∀a∈r.flatMap Ir,a.oneCell'=true:=by
 intro a b;obtain⟨v,_,hv⟩:=xN.1 b;rw[Uz] at hv;simp at hv;rcases hv with rfl|rfl|rfl <;> rfl
end
end Go.Proofs.YtdinjjmcmfjbfaaGreatDoor
