import Derived.Test.YtdinjjmcmfjbfaaGreatDoorBaJ
set_option maxRecDepth 100000
set_option maxHeartbeats 4000000
namespace Go.Proofs.YtdinjjmcmfjbfaaGreatDoor
open Go.RowKit Mo Pl Tryz
theorem IK (v:Value)(l:Bag)(w:World)(h:E6 w v l) :
 Calls prog 82 #[v] w fun e w'=>∃es,J9 l es∧e=.returned (.int .i64 (wrap64 (lV es)))∧Ab No w w':=by
 rcases h with ⟨rfl,rfl⟩|⟨b,rfl,h⟩
 ·have I:=run_range_nilMap (P:=prog) w 83 154 2 underlying83;have J:∀ty,(Instr.next (C1 w.heap.size) false ty).run prog (w.alloc (.mapIter none 0 #[] 0))=_:=fun ty=>run_next_nilMap w ty 0 0 #[];go_enter func82,ntmps82;go_wp21;refine wp_loop_rounds 1 ?_;rw[rounds_succ];go_wp21;go_ret;exact⟨[],⟨⟨by simp,by simp⟩,fun r _ p=>absurd Cn p⟩,Bo (by unfold lV Ci;exact Cn.symm),(Ab.refl _ _).alloc _⟩
 have s:=Ae h;clear h;go_enter func82,ntmps82;go_wp2_with (first
  |(at_range;refine Bv _ rfl _ rfl b l rfl s.o ?_;intro w1 u a c x)
  |fail)
 have y:=Ae a;clear a x;go_frame;go_loopg [3] u (fun k z wr=>∃es:Bag,z=.int .i64 (wrap64 (lV es))∧xR (D5 wr b w.heap.size l es k)∧Ab No w wr)
 case atStart=>exact⟨[],by unfold lV Ci;rw[Cn],y,c⟩
 obtain⟨es,rfl,hr,d⟩:=hrel;have f:=Ae d;clear d c;go_wp2_with (first
  |(at_next;refine B0 _ rfl _ rfl b w.heap.size l es gk rfl hr.o ?_ ?_)
  |fail)
 ·intro A;go_wp21;go_ret;exact⟨es,A,rfl,f.o⟩
 intro t q B C D E F g G j H K;have m:=Ae g;have n:xR (Ab No w B):=f.o.trans j (fun _ e=>e) (fun i hi e=>by omega);have o:=Ae (aZ es q t);clear D g j E F H;go_wp21;go_roundg C
 case measure=>exact G
 case rel=>first
  |exact⟨es++[(q,t)],by rw[o.o,Oz],m,n.o⟩
  |exact⟨es++[(q,t)],by rw[o.o,Oz],m.o.kept ((Ab.refl No _).alloc _) xT xT,n.o.alloc _⟩
def RZ (l1 l2:Bag):Prop:=∀r,Ge r→wrap64 (cnt l2 r)≠0→0≤wrap64 (wrap64 (cnt l1 r)+wrap64 (cnt l2 r))
theorem NJ (v:Value)(b:Nat)(a d:Bag)(w:World)(o:E6 w v a)(z:Ak w b d) :
 Calls prog 81 #[v,.map (some b)] w fun e w'=>∃ok:Bool,(ok=true↔RZ a d)∧e=.returned (.bool ok)∧Ab No w w':=by
 have O:=Ae o;have P:=Ae z;obtain⟨p,rfl⟩:∃p,v=.map p:=by rcases o with ⟨rfl,_⟩|⟨b,rfl,_⟩ <;> exact⟨_,rfl⟩
 clear o z;go_enter func81,ntmps81;go_wp2_with (first
  |(at_range;refine Bv _ rfl _ rfl b d rfl P.o ?_;intro w1 Q A B R)
  |fail)
 have S:=Ae A;clear A R;go_frame;go_loopg [] Q (fun k wr=>∃es:Bag,xR (∀e∈es,0≤wrap64 (wrap64 (cnt a e.1)+wrap64 (cnt d e.1)))∧xR (D5 wr b w.heap.size d es k)∧Ab No w wr)
 case atStart=>exact⟨[],Ae (by simp),S,B⟩
 obtain⟨es,C,hr,D⟩:=hrel;have E:=Ae D;clear D B;go_wp2_with (first
  |(at_next;refine B0 _ rfl _ rfl b w.heap.size d es gk rfl hr.o ?_ ?_)
  |fail)
 ·intro F;have HD:=Ae F;clear F;go_wp21;go_ret;refine⟨true,⟨fun _ r hr T=>?_,fun _=>rfl⟩,rfl,E.o⟩;obtain⟨e,f,rfl⟩:=HD.o.2 r hr T;exact C.o e f
 intro t q c s G u H I J K U ac;have V:=Ae I;have l:xR (Ab No w c):=E.o.trans K (fun _ e=>e) (fun i hi e=>by omega);have m:=Ae G;have L:=Ae u;have W:xR (wrap64 (cnt d q)≠0):=by show _≠_;rw[←u];exact H
 have X:xR (E6 c (.map p) a):=O.o.Ag l.o;have x:xR (wrap64 (wrap64 (cnt a q)+t)<0→¬RZ a d):=fun j Y=>by have:=Y q m.o W.o;rw[←L.o] at this;omega
 have y:xR (0≤wrap64 (wrap64 (cnt a q)+t)→∀e∈es++[(q,t)],0≤wrap64 (wrap64 (cnt a e.1)+wrap64 (cnt d e.1))):=fun j e f=>by
  rcases tW.1 f with f|f
  ·exact C.o e f
  simp at f;subst f;rw[←L.o];exact j
 have M:xR (D5 (c.alloc (.cells (Ai q) 154)) b w.heap.size d (es++[(q,t)]) s):=V.o.kept ((Ab.refl No _).alloc _) xT xT;have n:xR (C2 (c.alloc (.cells (Ai q) 154)) c.heap.size (Ai q) 154):=heap_alloc_last _ _;clear G I K u H U;rcases X.o with ⟨e,Z⟩|⟨b1,e,hb1⟩
 ·injection e with e;subst e Z;have aa:wrap64 (cnt [] q)=0:=Cn;rw[aa,Int.zero_add] at x y;by_cases j:wrap64 t<0
  ·have g:=Ae (x.o j);go_wp2_with (first
    |(refine Bt _ _ _ rfl rfl c _ rfl rfl rfl q rfl ?_)
    |(refine C7 _ rfl rfl c.heap.size rfl q n.o ?_)
    |(at_lookup;refine Mr _ Hk rfl _ _ 83 2 rfl underlying83 _ (M8 _) rfl q m.o rfl ?_)
    |fail)
   go_ret;exact⟨false,⟨fun h=>(by cases h),fun h=>absurd h g.o⟩,rfl,l.o.alloc _⟩
  have g:=Ae (y.o (by omega));have ab:0≤wrap64 t:=by omega
  go_wp2_with (first
   |(refine Bt _ _ _ rfl rfl c _ rfl rfl rfl q rfl ?_)
   |(refine C7 _ rfl rfl c.heap.size rfl q n.o ?_)
   |(at_lookup;refine Mr _ Hk rfl _ _ 83 2 rfl underlying83 _ (M8 _) rfl q m.o rfl ?_)
   |fail)
  go_roundg s
  case measure=>exact J
  exact⟨es++[(q,t)],g,M,l.o.alloc _⟩
 injection e with e;subst e;have N:xR (B9 154 Mj Ge (c.alloc (.cells (Ai q) 154)) b1 (Cr a)):=hb1.2.A6 (Below.heap_alloc _ _ _ hb1.lt);clear hb1;by_cases j:wrap64 (wrap64 (cnt a q)+t)<0
 ·have g:=Ae (x.o j);go_wp2_with (first
   |(refine Bt _ _ _ rfl rfl c _ rfl rfl rfl q rfl ?_)
   |(refine C7 _ rfl rfl c.heap.size rfl q n.o ?_)
   |(at_lookup;refine Dy _ Hk rfl _ _ 83 2 rfl underlying83 _ (M8 _) b1 (Cr a) rfl N.o q m.o rfl _ (Qu a q) ?_)
   |fail)
  go_ret;exact⟨false,⟨fun h=>(by cases h),fun h=>absurd h g.o⟩,rfl,l.o.alloc _⟩
 have g:=Ae (y.o (by omega));have ab:0≤wrap64 (wrap64 (cnt a q)+t):=by omega
 go_wp2_with (first
  |(refine Bt _ _ _ rfl rfl c _ rfl rfl rfl q rfl ?_)
  |(refine C7 _ rfl rfl c.heap.size rfl q n.o ?_)
  |(at_lookup;refine Dy _ Hk rfl _ _ 83 2 rfl underlying83 _ (M8 _) b1 (Cr a) rfl N.o q m.o rfl _ (Qu a q) ?_)
  |fail)
 go_roundg s
 case measure=>exact J
 exact⟨es++[(q,t)],g,M,l.o.alloc _⟩
end Go.Proofs.YtdinjjmcmfjbfaaGreatDoor
namespace Go.Proofs.YtdinjjmcmfjbfaaGreatDoor.Mo
def ty:V→Bool
 | .num _=>false
 | .txt _=>true
def I7 (ts:List Bool):Dk→Option Bool
 | .col c=>ts[c]?
 | .val v=>some (ty v)
def Eh (c:Nat)(x:Dk)(ts:List Bool):Option (List Bool):=match ts[c]? with
 |none=>none
 |some a=>if I7 ts x=some a then some ts else none
def Bq (cs:List Nat)(ts:List Bool):Option (List Bool):=if cs.all (fun c=>decide (c<ts.length)) then some (cs.map fun c=>ts.getD c false) else none
def six (ts:List Bool):Option (List Bool):=if ts.length≤6 then some ts else none
def C8 (n m:Nat)(ts us:List Bool):Option (List Bool):=match ts[n]? with
 |none=>none
 |some a=>if us[m]? =some a then six (ts++us) else none
def Fe (cs:List Nat)(s:Option Nat)(ts:List Bool):Option (List Bool):=match Bq cs ts with
 |none=>none
 |some ks=>match s with
  |none=>six (ks++[false])
  |some m=>if ts[m]? =some false then six (ks++[false]) else none
def A7 (f:List UInt8→Option (List Bool)):Q→Option (List Bool)
 | .tab nm=>f nm
 | .sel c _ x q=>(A7 f q).bind (Eh c x)
 | .pick cs q=>(A7 f q).bind (Bq cs)
 | .join n m q r=>(A7 f q).bind fun ts=>(A7 f r).bind fun us=>C8 n m ts us
 | .uni q r=>(A7 f q).bind fun ts=>(A7 f r).bind fun us=>if ts=us then some ts else none
 | .dist q=>A7 f q
 | .grp cs s q=>(A7 f q).bind (Fe cs s)
def RT (ts:List Bool)(l:Bag):Prop:=∀e∈l,e.1.map ty=ts
def EC:V→Prop
 | .num _=>True
 | .txt s=>1≤s.length∧s.length≤4∧∀c∈s,97≤c.toNat∧c.toNat≤122
def BT (l:Bag):Prop:=∀e∈l,∀v∈e.1,EC v
theorem Jj {l:Bag}{e:Row×Int}(h:e∈Ad l):∃x∈l,x.1=e.1:=by
 induction l generalizing e with
 |nil=>cases h
 |cons y l a =>
  rcases DP h with hr|⟨_,b,c⟩
  ·exact⟨y,by simp,hr.symm⟩
  obtain⟨x,d,f⟩:=a b;exact⟨x,by simp[d],f.trans c⟩
theorem RT.canon {ts:List Bool}{l:Bag}(h:RT ts l):RT ts (Ad l):=fun e a=>by obtain⟨x,b,c⟩:=Jj a;rw[←c];exact h x b
theorem BT.canon {l:Bag}(h:BT l):BT (Ad l):=fun e a=>by obtain⟨x,b,c⟩:=Jj a;rw[←c];exact h x b
theorem Ua {r:Row}{ts:List Bool}(h:r.map ty=ts){c:Nat}(a:c<ts.length):ty (Aj r c)=ts.getD c false∧Aj r c∈r:=by
 subst h;rw[tZ] at a;have hr:r[c]? =some r[c]:=tT a;unfold Aj;rw[uH,uH,tX,hr];exact⟨rfl,List.getElem_mem _⟩
theorem Dc {cs:List Nat}{ts us:List Bool}(h:Bq cs ts=some us):(∀c∈cs,c<ts.length)∧us=cs.map fun c=>ts.getD c false:=by
 unfold Bq at h;split at h
 ·rename_i a;injection h with h;exact⟨fun c b=>by simpa using uR.1 a c b,h.symm⟩
 cases h
theorem Qv {r:Row}{cs:List Nat}{ts us:List Bool}(h:r.map ty=ts)(hp:Bq cs ts=some us):(Ao cs r).map ty=us∧∀v∈Ao cs r,v∈r:=by
 obtain⟨b,rfl⟩:=Dc hp;refine⟨?_,fun v hv=>?_⟩
 ·unfold Ao;rw[vS];exact wB fun c a=>(Ua h (b c a)).1
 obtain⟨c,a,rfl⟩:=uA.1 hv;exact (Ua h (b c a)).2
theorem Yg {ts us:List Bool}(h:six ts=some us):us=ts∧ts.length≤6:=by unfold six at h;split at h;injection h with h;exact⟨h.symm,by assumption⟩;cases h
theorem O5 {c:Nat}{x:Dk}{ts us:List Bool}(h:Eh c x ts=some us):us=ts:=by
 unfold Eh at h;split at h
 ·cases h
 split at h
 ·injection h with h;exact h.symm
 cases h
theorem Qw {n m:Nat}{ts us vs:List Bool}(h:C8 n m ts us=some vs):vs=ts++us∧(ts++us).length≤6:=by
 unfold C8 at h;split at h
 ·cases h
 split at h
 ·exact Yg h
 cases h
theorem Sv {cs:List Nat}{s:Option Nat}{ts us:List Bool}(h:Fe cs s ts=some us):∃ks,Bq cs ts=some ks∧us=ks++[false]∧us.length≤6:=by
 unfold Fe at h;cases hp:Bq cs ts with
 |none=>rw[hp] at h;cases h
 |some ks =>
  rw[hp] at h;cases s with
  |none=>obtain⟨rfl,a⟩:=Yg h;exact⟨ks,rfl,rfl,a⟩
  |some m =>
   simp only at h;split at h
   ·obtain⟨rfl,a⟩:=Yg h;exact⟨ks,rfl,rfl,a⟩
   cases h
theorem IL {cs:List Nat}{s:Option Nat}{l:Bag}{e:Row×Int}(h:e∈yE cs s l):∃x∈l,∃n,e.1=Ao cs x.1++[.num n]:=by
 obtain⟨k,a,rfl⟩:=uA.1 h;obtain⟨y,b,hp⟩:=Xz a;obtain⟨x,c,d⟩:=Jj b;exact⟨x,c,_,by rw[d,hp]⟩
theorem Vf {n m:Nat}{a b:Bag}{e:Row×Int}(h:e∈Bw n m a b):∃x∈a,∃y∈b,e.1=x.1++y.1:=by
 obtain⟨x,c,d⟩:=xN.1 h;obtain⟨y,f,rfl⟩:=uA.1 d;exact⟨x,c,y,(xD.1 f).1,rfl⟩
theorem Ku {f:List UInt8→Option (List Bool)}{g:Nat→Bag}:∀(q:Q) (i:Nat) (ts:List Bool),(∀j nm us,(Ac q)[j]? =some nm→f nm=some us→RT us (g (i+j))∧BT (g (i+j)))→A7 f q=some ts→RT ts (A1 g i q)∧BT (A1 g i q)
 | .tab nm,i,ts,h,l=>h 0 nm ts rfl l
 | .sel c k x q,i,ts,h,l=>by obtain⟨us,t,b⟩:=uE.1 l;obtain rfl:=O5 b;obtain⟨o,p⟩:=Ku q i ts h t;exact⟨fun e a=>o e (xD.1 a).1,fun e a=>p e (xD.1 a).1⟩
 | .pick cs q,i,ts,h,l=>by
   obtain⟨us,t,b⟩:=uE.1 l;obtain⟨o,p⟩:=Ku q i us h t;refine⟨fun e a=>?_,fun e a v hv=>?_⟩
   ·obtain⟨x,d,rfl⟩:=uA.1 a;exact (Qv (o x d) b).1
   obtain⟨x,d,rfl⟩:=uA.1 a;exact p x d v ((Qv (o x d) b).2 v hv)
 | .join n m q r,i,ts,h,l=>by
   obtain⟨us,t,b⟩:=uE.1 l;obtain⟨vs,hv,b⟩:=uE.1 b;obtain⟨rfl,-⟩:=Qw b;obtain⟨o,p⟩:=Ku q i us (fun j nm us u=>h j nm us (by simp only[Ac];rw[uD (tR.1 u).1];exact u)) t;obtain⟨w,z⟩:=Ku r (i+(Ac q).length) vs (fun j nm us u=>by rw[wD];exact h ((Ac q).length+j) nm us (by simp only[Ac];rw[uC (by omega),wF];exact u)) hv;refine⟨fun e a=>?_,fun e a v hv=>?_⟩
   ·obtain⟨x,d,y,A,B⟩:=Vf a;rw[B,uF,o x d,w y A]
   obtain⟨x,d,y,A,B⟩:=Vf a;rw[B] at hv;rcases tW.1 hv with hv|hv
   ·exact p x d v hv
   exact z y A v hv
 | .uni q r,i,ts,h,l=>by
   obtain⟨us,t,b⟩:=uE.1 l;obtain⟨vs,hv,b⟩:=uE.1 b;split at b
   case isFalse=>cases b
   rename_i a;subst a;injection b with b;subst b;obtain⟨o,p⟩:=Ku q i us (fun j nm us u=>h j nm us (by simp only[Ac];rw[uD (tR.1 u).1];exact u)) t;obtain⟨w,z⟩:=Ku r (i+(Ac q).length) us (fun j nm us u=>by rw[wD];exact h ((Ac q).length+j) nm us (by simp only[Ac];rw[uC (by omega),wF];exact u)) hv;exact⟨fun e a=>by rcases tW.1 a with a|a;exact o e a;exact w e a,fun e a=>by rcases tW.1 a with a|a;exact p e a;exact z e a⟩
 | .dist q,i,ts,h,l=>by
   obtain⟨o,p⟩:=Ku q i ts h l;refine⟨fun e a=>?_,fun e a=>?_⟩
   ·obtain⟨x,d,rfl⟩:=uA.1 a;exact o.canon x d
   obtain⟨x,d,rfl⟩:=uA.1 a;exact p.canon x d
 | .grp cs s q,i,ts,h,l=>by
   obtain⟨us,t,b⟩:=uE.1 l;obtain⟨ks,D,rfl,-⟩:=Sv b;obtain⟨o,p⟩:=Ku q i us h t;refine⟨fun e a=>?_,fun e a v hv=>?_⟩
   ·obtain⟨x,d,n,C⟩:=IL a;rw[C,uF,(Qv (o x d) D).1];rfl
   obtain⟨x,d,n,C⟩:=IL a;rw[C] at hv;rcases tW.1 hv with hv|hv
   ·exact p x d v ((Qv (o x d) D).2 v hv)
   simp at hv;subst hv;trivial
def rR:Dk→Prop
 | .col c=>c<10
 | .val (.num n)=> -9999≤n∧n≤9999
 | .val (.txt s)=>EC (.txt s)
def wf:Q→Prop
 | .tab nm=>EC (.txt nm)
 | .sel c _ x q=>c<10∧rR x∧wf q
 | .pick cs q=>1≤cs.length∧cs.length≤6∧(∀c∈cs,c<10)∧wf q
 | .join n m q r=>n<10∧m<10∧wf q∧wf r
 | .uni q r=>wf q∧wf r
 | .dist q=>wf q
 | .grp cs s q=>cs.length≤6∧(∀c∈cs,c<10)∧(∀m,s=some m→m<10)∧wf q
theorem Co {f:List UInt8→Option (List Bool)}(hf:∀nm us,f nm=some us→1≤us.length∧us.length≤6):∀(q:Q) (ts:List Bool),wf q→A7 f q=some ts→1≤ts.length∧ts.length≤6
 | .tab nm,ts,_,h=>hf nm ts h
 | .sel c _ x q,ts,b,h=>by obtain⟨us,d,a⟩:=uE.1 h;obtain rfl:=O5 a;exact Co hf q _ b.2.2 d
 | .pick cs q,ts,b,h=>by obtain⟨us,d,a⟩:=uE.1 h;obtain⟨_,rfl⟩:=Dc a;have:=b.1;have:=b.2.1;simp;omega
 | .join n m q r,ts,b,h=>by obtain⟨us,d,a⟩:=uE.1 h;obtain⟨vs,hv,a⟩:=uE.1 a;obtain⟨rfl,e⟩:=Qw a;have:=Co hf q _ b.2.2.1 d;rw[tS] at e⊢;omega
 | .uni q r,ts,b,h=>by
   obtain⟨us,d,a⟩:=uE.1 h;obtain⟨vs,hv,a⟩:=uE.1 a;split at a
   case isFalse=>cases a
   injection a with a;subst a;exact Co hf q _ b.1 d
 | .dist q,ts,b,h=>Co hf q ts b h
 | .grp cs s q,ts,b,h=>by obtain⟨us,d,a⟩:=uE.1 h;obtain⟨ks,_,rfl,g⟩:=Sv a;simp at g⊢;omega
theorem bA (a b:Bag)(h:Row→Row→Int):Ci a (fun x=>Ci b (fun y=>h x y))=Ci b (fun y=>Ci a (fun x=>h x y)):=by
 induction a with
 |nil=>simp only[Ci];rw[Nq]
 |cons e a c=>simp only[Ci];rw[c,Tq,Ks]
def bB (n m:Nat)(d s:Bag):Bag:=d.flatMap fun y=>(Cw (fun x=>decide (Aj x n=Aj y.1 m)) s).map fun x=>(x.1++y.1,y.2*x.2)
theorem UV (n m:Nat)(d s:Bag):A9 (bB n m d s) (Bw n m s d):=Ib fun g=>by
 rw[Fc,bA];induction d with
 |nil=>rfl
 |cons e d a =>have:bB n m (e::d) s=((Cw (fun x=>decide (Aj x n=Aj e.1 m)) s).map fun x=>(x.1++e.1,e.2*x.2))++bB n m d s:=rfl;rw[this,D3,Rs e.2 (fun r=>r++e.1),J7,a];simp only[Ci]
def N0 (b:Bag)(e:Row×Int):Bag:=if cnt b e.1=0 then [(e.1,1)] else if cnt b e.1= -e.2 then [(e.1,-1)] else []
def F3 (b es:Bag):Bag:=es.flatMap (N0 b)
theorem BG (l:Bag)(r:Row):cnt (En l) r=if cnt l r=0 then 0 else 1:=by
 have key:∀m:Bag,Ck m→cnt (m.map fun e=>(e.1,(1:Int))) r=if cnt m r=0 then 0 else 1:=by
  intro m a;induction m with
  |nil=>simp[cnt]
  |cons e m c =>
   have c1:cnt ((e::m).map fun e=>(e.1,(1:Int))) r=(if e.1=r then 1 else 0)+cnt (m.map fun e=>(e.1,(1:Int))) r:=rfl;have c2:cnt (e::m) r=(if e.1=r then e.2 else 0)+cnt m r:=rfl;rw[c1,c2,c a.2.2];by_cases b:e.1=r
   ·have d:cnt m r=0:=Dq fun y f g=>Do.ne (a.1 y f) (b.trans g.symm);have:=a.2.1;simp[b,d,this]
   simp[b]
 unfold En;rw[key _ (Ap l),Aq]
theorem Qx (f:Row×Int→Bag)(hf:∀e,∀x∈f e,x.1=e.1):∀{es:Bag},(es.map (·.1)).Nodup→∀r,cnt (es.flatMap f) r=match es.find? (fun e=>decide (e.1=r)) with|none=>0|some e=>cnt (f e) r
 | [],_,r=>rfl
 |e::es,h,r=>by
  have d:=vE.1 (by simpa using h:(e.1::es.map (·.1)).Nodup);rw[uX,Ah,Qx f hf d.2 r,List.find?_cons];by_cases a:e.1=r
  ·have g:es.find? (fun e=>decide (e.1=r))=none:=List.find?_eq_none.2 fun x b c=>d.1 (uA.2 ⟨x,b,by rw[a];simpa using c⟩);rw[g];simp[a]
  rw[Dq (l:=f e) fun x b c=>a ((hf e x b).symm.trans c)];simp[a]
theorem bC {es:Bag}(h:(es.map (·.1)).Nodup)(r:Row):cnt es r=match es.find? (fun e=>decide (e.1=r)) with|none=>0|some e=>e.2:=by
 induction es with
 |nil=>rfl
 |cons e es c =>
  have b:=vE.1 (by simpa using h:(e.1::es.map (·.1)).Nodup);simp only[cnt,List.find?_cons];by_cases a:e.1=r
  ·rw[Dq fun x d f=>b.1 (uA.2 ⟨x,d,by rw[a];exact f⟩)];simp[a]
  rw[c b.2];simp[a]
theorem NK {b d es:Bag}(i:A9 es d)(g:(es.map (·.1)).Nodup)(j:∀e∈es,e.2≠0):A9 (En b++F3 b es) (En (b++d)):=fun r=>by
 rw[Ah,BG,BG,Ah,←i r];unfold F3;rw[Qx (N0 b) (fun e x a=>by unfold N0 at a;split at a;(simp at a;rw[a]);split at a;(simp at a;rw[a]);cases a) g,bC g];cases hf:es.find? (fun e=>decide (e.1=r)) with
 |none=>simp
 |some e =>
  have k:e.1=r:=by have:=List.find?_some hf;simpa using this
  have l:=j e (List.mem_of_find?_eq_some hf);subst k;simp only[N0];by_cases c:cnt b e.1=0
  ·simp[c,cnt,l]
  by_cases h:cnt b e.1= -e.2
  ·have f:cnt b e.1+e.2=0:=(by omega);rw[if_neg c,if_neg c,if_pos h,if_pos f];simp[cnt]
  have f:¬cnt b e.1+e.2=0:=by omega
  rw[if_neg c,if_neg c,if_neg h,if_neg f];simp[cnt]
def Ch (cs:List Nat)(s:Option Nat)(l:Bag):Bag:=l.map fun e=>(Ao cs e.1,e.2*sv s e.1)
theorem Yh (cs:List Nat)(s:Option Nat)(l:Bag)(g:Row→Int):Ci (Ch cs s l) g=Ci l (fun r=>sv s r*g (Ao cs r)):=by
 induction l with
 |nil=>rfl
 |cons e l a =>have:Ch cs s (e::l)=(Ao cs e.1,e.2*sv s e.1)::Ch cs s l:=rfl;rw[this];simp only[Ci];rw[a,xO]
theorem Ub {cs:List Nat}{s:Option Nat}{l m:Bag}(h:A9 l m):A9 (Ch cs s l) (Ch cs s m):=Ib fun g=>by rw[Yh,Yh,h.lin]
theorem Mt (cs:List Nat)(s:Option Nat)(l m:Bag):Ch cs s (l++m)=Ch cs s l++Ch cs s m:=uF
theorem IM (cs:List Nat)(s:Option Nat)(l:Bag)(k:Row):cnt (Ch cs s l) k=M5 cs s l k:=by
 rw[B1,Yh];unfold M5;refine Eg l fun e _=>?_;split <;> simp
def Lr (cs:List Nat)(s:Option Nat)(l:Bag)(k:Row):Bag:=if 0<cnt (Az cs l) k then [(k++[.num (cnt (Ch cs s l) k)],1)] else []
theorem bD {cs:List Nat}{s:Option Nat}{l:Bag}{k:Row}{x:Row×Int}(h:x∈Lr cs s l k):x.1.dropLast=k:=by
 unfold Lr at h;split at h
 ·simp at h;rw[h];simp
 cases h
theorem IP {cs:List Nat}{s:Option Nat}{l:Bag}{k r:Row}(h:r.dropLast≠k):cnt (Lr cs s l k) r=0:=Dq fun x a e=>h (by rw[←e];exact bD a)
theorem Lf {cs:List Nat}{s:Option Nat}{l:Bag}:∀{ks:List Row},ks.Nodup→∀r,cnt (ks.flatMap (Lr cs s l)) r=if r.dropLast∈ks then cnt (Lr cs s l r.dropLast) r else 0
 | [],_,r=>by simp[cnt]
 |k::ks,h,r=>by
  have c:=vE.1 h;rw[uX,Ah,Lf c.2 r];by_cases b:r.dropLast=k
  ·subst b;rw[if_neg c.1,if_pos (by simp)];omega
  rw[IP b];by_cases a:r.dropLast∈ks
  ·rw[if_pos a,if_pos (by simp[a])];omega
  rw[if_neg a,if_neg (by simp[a,b])];omega
theorem SA {cs:List Nat}{l:Bag}(h:nn l)(k:Row):(∃x∈Hr cs l,x.1=k)↔0<cnt (Az cs l) k:=by
 constructor
 ·rintro⟨x,b,rfl⟩;obtain⟨e,a,d⟩:=Xz b;have c:cnt l e.1≤cnt (Az cs l) x.1:=by
   rw[B1,B1,Ld];refine Cv h fun r=>?_;by_cases hr:r=e.1
   ·subst hr;simp[d]
   rw[if_neg hr];split <;> omega
  have m:=Va h a;have f:=(Ap l).Df a;rw[Aq] at f;omega
 intro hp;have g:cnt (Az cs l) k≠0:=by omega
 have c:∃e∈Ad l,Ao cs e.1=k:=by refine Classical.byContradiction fun i=>g ?_;have a:A9 (Az cs l) (Az cs (Ad l)):=Ej (Bc l).symm;rw[a k];refine Dq fun x b e=>?_;obtain⟨y,j,rfl⟩:=uA.1 b;exact i ⟨y,j,e⟩
 obtain⟨e,a,rfl⟩:=c;exact aJ a
theorem IQ {cs:List Nat}{s:Option Nat}{l:Bag}(h:nn l)(r:Row):cnt (yE cs s l) r=cnt (Lr cs s l r.dropLast) r:=by
 have e1:yE cs s l=((Hr cs l).map (·.1)).flatMap (Lr cs s l):=by
  unfold yE;rw[List.flatMap_map];have:∀ks:Bag,(∀k∈ks,0<cnt (Az cs l) k.1)→(ks.map fun k=>(k.1++[V.num (M5 cs s l k.1)],(1:Int)))=ks.flatMap fun k=>Lr cs s l k.1:=by
   intro ks a;induction ks with
   |nil=>rfl
   |cons k ks d =>rw[uT,uX,d fun x b=>a x (by simp[b])];unfold Lr;rw[if_pos (a k (by simp)),IM];rfl
  exact this _ fun k a=>(SA h k.1).1 ⟨k,a,rfl⟩
 have f:((Hr cs l).map (·.1)).Nodup:=Ck.nodup (Ap _);rw[e1,Lf f];by_cases c:r.dropLast∈(Hr cs l).map (·.1)
 ·rw[if_pos c]
 rw[if_neg c];have:¬0<cnt (Az cs l) r.dropLast:=fun hp=>c (by obtain⟨x,b,e⟩:=(SA h _).2 hp;exact uA.2 ⟨x,b,e⟩);unfold Lr;rw[if_neg this];rfl
theorem UW {cs:List Nat}{s:Option Nat}{b d:Bag}(f:nn b)(g:nn (b++d)){ks:List Row}(c:ks.Nodup)(e:∀k,cnt (Az cs d) k≠0∨cnt (Ch cs s d) k≠0→k∈ks) :
 A9 (yE cs s b++(neg (ks.flatMap (Lr cs s b))++ks.flatMap (Lr cs s (b++d)))) (yE cs s (b++d)):=fun r=>by
 rw[Ah,Ah,Ew,IQ f,IQ g,Lf c,Lf c];by_cases a:r.dropLast∈ks
 ·rw[if_pos a,if_pos a];omega
 rw[if_neg a,if_neg a];have i:cnt (Az cs d) r.dropLast=0:=Classical.byContradiction fun h=>a (e _ (.inl h));have j:cnt (Ch cs s d) r.dropLast=0:=Classical.byContradiction fun h=>a (e _ (.inr h));have l:Lr cs s (b++d) r.dropLast=Lr cs s b r.dropLast:=by unfold Lr;rw[G7,Mt,Ah,Ah,i,j,Int.add_zero,Int.add_zero]
 rw[l];omega
def Ei (ts:List Bool)(r:Row):Prop:=r.map ty=ts∧(∀v∈r,EC v)∧∀v∈r,wv v≤90000000000000000
structure B2 (ts:List Bool) (b:Bag):Prop where
 nn:nn b
 rows:Nr b≤3000000000000
 wts:Wt b≤90000000000000000
 ty:RT ts (Ad b)
 tx:BT (Ad b)
 six:ts.length≤6
section
variable {ts:List Bool} {b b' d:Bag}
theorem B2.eqv (h:B2 ts b)(e:A9 b b'):B2 ts b' :=
 ⟨fun r=>by rw[←e r];exact h.nn r,by rw[←Xw e];exact h.rows,by rw[←aF e];exact h.wts,by rw[←e.canon];exact h.ty,by rw[←e.canon];exact h.tx,h.six⟩
theorem B2.good (h:B2 ts b){r:Row}(hr:cnt b r≠0):Ei ts r:=by
 obtain⟨x,a,rfl⟩:=Gw hr;exact⟨h.ty x a,h.tx x a,fun v hv=>vG (UN h.nn a hv) h.wts⟩
theorem B2.bd (h:B2 ts b)(r:Row):0≤cnt b r∧cnt b r≤3000000000000:=⟨h.nn r,vG (Le h.nn r) h.rows⟩
theorem B2.len (h:B2 ts b):(Ad b).length≤3000000000000:=by have a:=Jg h.nn;have c:=h.rows;omega
structure Gf (ts:List Bool) (d:Bag):Prop where
 good:∀{r:Row},cnt d r≠0→Ei ts r
 bd:∀r,-3000000000000≤cnt d r∧cnt d r≤3000000000000
 len:(Ad d).length≤6000000000000
 six:ts.length≤6
theorem Gf.eqv {d':Bag}(h:Gf ts d)(e:A9 d d'):Gf ts d':=⟨fun hr=>h.good (by rw[e];exact hr),fun r=>by rw[←e r];exact h.bd r,by rw[←e.canon];exact h.len,h.six⟩
theorem B2.chg (h:B2 ts b)(k:B2 ts (b++d)):Gf ts d:=by
 refine⟨fun {r} hr=>?_,fun r=>?_,?_,h.six⟩
 ·by_cases a:cnt b r=0
  ·exact k.good (by rw[Ah,a];omega)
  exact h.good a
 ·have f:=h.bd r;have c:=k.bd r;rw[Ah] at c;omega
 have e:A9 d (neg (Ad b)++(b++d)):=fun r=>by rw[Ah,Ew,Aq,Ah];omega
 have f:=A3 (neg (Ad b)) (b++d);have c:(neg (Ad b)).length=(Ad b).length:=by simp[neg]
 have g:=h.len;have i:=k.len;rw[e.canon];omega
theorem B2.tI (h:B2 ts b):Gf ts b:=⟨fun hr=>h.good hr,fun r=>by have:=h.bd r;omega,by have:=h.len;omega,h.six⟩
theorem B2.nil (h:ts.length≤6):B2 ts []:=⟨fun _=>vU _,by simp[Nr,Ci],by simp[Wt,Ci],(fun e a=>absurd a (by simp[Ad])),(fun e a=>absurd a (by simp[Ad])),h⟩
theorem Dp:Ad d=[]↔∀r,cnt d r=0:=by
 constructor
 ·intro h r;rw[←Aq,h];rfl
 intro h;have:A9 d []:=fun r=>by rw[h r];rfl
 rw[this.canon];rfl
theorem Ls (h:Ad d=[]):A9 b (b++d):=fun r=>by rw[Ah,Dp.1 h r];omega
theorem E7 {e:Row×Int}(h:e∈Ad d):cnt d e.1≠0:=by rw[←Aq,(Ap d).Df h];exact (Ap d).nz h
theorem Gf.mem (h:Gf ts d){e:Row×Int}(a:e∈Ad d):Ei ts e.1:=h.good (E7 a)
end
theorem Ei.len {ts:List Bool}{r:Row}(h:Ei ts r):r.length=ts.length:=by rw[←h.1];simp
def AA (ft:List UInt8→Option (List Bool))(q:Q)(i:Nat)(f:Nat→Bag):Prop:=∃ts,A7 ft q=some ts∧B2 ts (A1 f i q)
def Sw (ft:List UInt8→Option (List Bool)):Q→Nat→(Nat→Bag)→Prop
 | .tab _,_,_=>True
 | .sel _ _ _ q,i,f=>AA ft q i f∧Sw ft q i f
 | .pick _ q,i,f=>AA ft q i f∧Sw ft q i f
 | .join _ _ q r,i,f=>(AA ft q i f∧AA ft r (i+(Ac q).length) f)∧Sw ft q i f∧Sw ft r (i+(Ac q).length) f
 | .uni q r,i,f=>(AA ft q i f∧AA ft r (i+(Ac q).length) f)∧Sw ft q i f∧Sw ft r (i+(Ac q).length) f
 | .dist q,i,f=>AA ft q i f∧Sw ft q i f
 | .grp _ _ q,i,f=>AA ft q i f∧Sw ft q i f
def Hl (ft:List UInt8→Option (List Bool))(q:Q)(i:Nat)(f:Nat→Bag):Prop:=∀j nm us,(Ac q)[j]? =some nm→ft nm=some us→RT us (f (i+j))∧BT (f (i+j))
section
variable {ft:List UInt8→Option (List Bool)} {f:Nat→Bag}
theorem Hl.left {q:Q}{l:List (List UInt8)}{i:Nat}(h:∀j nm us,(Ac q++l)[j]? =some nm→ft nm=some us→RT us (f (i+j))∧BT (f (i+j))):Hl ft q i f:=fun j nm us a b =>
 h j nm us (by rw[uD (tR.1 a).1];exact a) b
theorem Hl.right {r:Q}{l:List (List UInt8)}{i:Nat}(h:∀j nm us,(l++Ac r)[j]? =some nm→ft nm=some us→RT us (f (i+j))∧BT (f (i+j))):Hl ft r (i+l.length) f:=fun j nm us a b=>by
 have:=h (l.length+j) nm us (by rw[uC (by omega),show l.length+j-l.length=j by omega];exact a) b;rw[show i+(l.length+j)=i+l.length+j by omega] at this;exact this
theorem SB (hf:∀nm us,ft nm=some us→1≤us.length∧us.length≤6)(a:J8 f 120)(q:Q)(d:wf q)(e:(Ac q).length≤120)(g:Al q≤2)(i:Nat)(h:Hl ft q i f){ts:List Bool}(b:A7 ft q=some ts):B2 ts (A1 f i q):=by
 have c:=qS q e g a i;have hr:=Ku q i ts h b;exact⟨Dg a.nn q i,c.1,c.2,hr.1.canon,hr.2.canon,(Co hf q ts d b).2⟩
theorem ok2 (hf:∀nm us,ft nm=some us→1≤us.length∧us.length≤6)(e:J8 f 120):∀(q:Q) (_:wf q) (_:(Ac q).length≤120) (_:Al q≤2) (i:Nat) (_:Hl ft q i f) {ts:List Bool} (_:A7 ft q=some ts),Sw ft q i f
 | .tab _,_,_,_,_,_,_,_=>trivial
 | .sel c k x q,a,g,h,i,d,ts,j=>by obtain⟨us,b,_⟩:=uE.1 (show (A7 ft q).bind (Eh c x)=some ts from j);exact⟨⟨us,b,SB hf e q a.2.2 g h i d b⟩,ok2 hf e q a.2.2 g h i d b⟩
 | .pick cs q,a,g,h,i,d,ts,j=>by obtain⟨us,b,_⟩:=uE.1 (show (A7 ft q).bind (Bq cs)=some ts from j);exact⟨⟨us,b,SB hf e q a.2.2.2 g h i d b⟩,ok2 hf e q a.2.2.2 g h i d b⟩
 | .join n m q r,a,g,h,i,d,ts,j=>by obtain⟨us,b,u⟩:=uE.1 (show (A7 ft q).bind (fun ts=>(A7 ft r).bind fun us=>C8 n m ts us)=some ts from j);obtain⟨vs,o,_⟩:=uE.1 u;have v:(Ac q).length+(Ac r).length≤120:=(by simpa [Ac] using g);have w:Al q+Al r+1≤2:=h;have p:Hl ft q i f:=Hl.left (l:=Ac r) d;have t:Hl ft r (i+(Ac q).length) f:=Hl.right (l:=Ac q) d;exact⟨⟨⟨us,b,SB hf e q a.2.2.1 (by omega) (by omega) i p b⟩,⟨vs,o,SB hf e r a.2.2.2 (by omega) (by omega) _ t o⟩⟩,ok2 hf e q a.2.2.1 (by omega) (by omega) i p b,ok2 hf e r a.2.2.2 (by omega) (by omega) _ t o⟩
 | .uni q r,a,g,h,i,d,ts,j=>by obtain⟨us,b,u⟩:=uE.1 (show (A7 ft q).bind (fun ts=>(A7 ft r).bind fun us=>if ts=us then some ts else none)=some ts from j);obtain⟨vs,o,_⟩:=uE.1 u;have v:(Ac q).length+(Ac r).length≤120:=(by simpa [Ac] using g);have w:Al q+Al r≤2:=h;have p:Hl ft q i f:=Hl.left (l:=Ac r) d;have t:Hl ft r (i+(Ac q).length) f:=Hl.right (l:=Ac q) d;exact⟨⟨⟨us,b,SB hf e q a.1 (by omega) (by omega) i p b⟩,⟨vs,o,SB hf e r a.2 (by omega) (by omega) _ t o⟩⟩,ok2 hf e q a.1 (by omega) (by omega) i p b,ok2 hf e r a.2 (by omega) (by omega) _ t o⟩
 | .dist q,a,g,h,i,d,ts,j=>⟨⟨ts,j,SB hf e q a g h i d j⟩,ok2 hf e q a g h i d j⟩
 | .grp cs s q,a,g,h,i,d,ts,j=>by obtain⟨us,b,_⟩:=uE.1 (show (A7 ft q).bind (Fe cs s)=some ts from j);exact⟨⟨us,b,SB hf e q a.2.2.2 g h i d b⟩,ok2 hf e q a.2.2.2 g h i d b⟩
end
end Go.Proofs.YtdinjjmcmfjbfaaGreatDoor.Mo
namespace Go.Proofs.YtdinjjmcmfjbfaaGreatDoor
open Go.RowKit Mo Pl Tryz
section
abbrev Ow:=Nat→Nat
theorem Uc {ts:List Bool}{r:Row}(h:Ei ts r)(a:ts.length≤6):Ge r:=by
 refine⟨by rw[h.len];exact a,fun v hv=>?_⟩;have b:=h.2.1 v hv;have c:=h.2.2 v hv;cases v with
 |num n=>simp only[Mo.wv] at c;simp only[Mh];omega
 |txt s=>exact b
theorem Mo.Gf.gR {ts:List Bool}{d:Bag}(h:Gf ts d):∀e∈Ad d,Ge e.1:=fun _ a=>Uc (h.mem a) h.six
theorem Mo.B2.gR {ts:List Bool}{d:Bag}(h:B2 ts d):∀e∈Ad d,Ge e.1:=h.tI.gR
theorem Mo.Gf.gU {ts:List Bool}{d:Bag}(h:Gf ts d)(r:Row):wrap64 (cnt (Ad d) r)=cnt d r:=by
 rw[Aq,Ga];have:=h.bd r;omega
def Fb (A:Nat→Prop)(R:World→Ow→Bag→Prop)(B:Bag)(w:World)(O:Ow)(e:Ending)(w':World):Prop :=
 e=.returned (.tuple #[])∧∃O':Ow,(∀k,k<w.heap.size→O' k=O k)∧Ab (fun k=>A (O k)) w w'∧R w' O' B
structure M9 (ty:TypeId) (f:Nat):Prop where
 nil:∀(a:Addr) (w:World),(nilAhead 496 ty (.pointer (some a)) "ripple/ripple.take").run prog w=.ok (some false) w
 met:∀(a:Addr) (w:World),(method 496 ty (.pointer (some a)) "ripple/ripple.take").run prog w=.ok (f,.pointer (some a)) w
 ent:∀args w,(callFunc f args).run prog w=.ok (.enter f args) w
theorem V5 {ty:TypeId}{f:Nat}(i:M9 ty f)(a:Addr)(c:Nat)(ts:List Bool)(d:Bag)(w:World)(Q:Ending→World→Prop)(j:Ak w c (Ad d))(q:Gf ts d)
 (l:Ad d=[]→Q (.returned (.tuple #[])) w) (m:Ad d≠[]→Calls prog f #[.pointer (some a),.map (some c)] w fun e w'=>e=.returned (.tuple #[])∧Q e w') :
 Calls prog 47 #[.map (some c),.iface ty (.pointer (some a))] w Q:=by
 have r:=Ae j;have x:=Ae i;have y:=i.met;have s:=i.ent;by_cases g:Ad d=[]
 ·have n:=Ae (l g);have h:∀ks:List Row,(∀k,k∈ks↔(Cr (Ad d) k).isSome=true)→ks=[]:=fun ks b=>by
   cases ks with
   |nil=>rfl
   |cons k ks =>have:=(b k).1 (by simp);unfold Cr at this;rw[q.gU,Dp.1 g k,if_pos rfl] at this;cases this
  have o:=Ae h;clear l m h j g;go_enter func47,ntmps47;go_wp2_with (first
   |(at_len;refine Qs _ Hk rfl _ 83 2 rfl underlying83 c (Cr (Ad d)) rfl r.o.2 ?_;intro ks p b;obtain rfl:=o.o ks b;clear p b)
   |fail)
  go_end0;exact n.o
 have n:=Ae (m g);have h:∀ks:List Row,(∀k,k∈ks↔(Cr (Ad d) k).isSome=true)→(0:Int)<(ks.length:Nat):=fun ks b=>by obtain⟨e,s⟩:=List.exists_mem_of_ne_nil _ g;have u:e.1∈ks:=(b _).2 (by unfold Cr;rw[q.gU,if_neg (E7 s)];rfl);have:=List.length_pos_of_mem u;omega
 have o:=Ae h;clear l m h j g;go_enter func47,ntmps47;go_wp2_with (first
  |(at_len;refine Qs _ Hk rfl _ 83 2 rfl underlying83 c (Cr (Ad d)) rfl r.o.2 ?_;intro ks p b;have z:=o.o ks b;clear p b)
  |fail)
 go_call n.o as e w1 ⟨rfl,t⟩;have v:=Ae t;clear t;go_wp21;go_end0;exact v.o
theorem IR (b c cap:Nat)(l:Option Addr)(a:List Value)(w:World)(d:Nat→World→Prop)(s:a.length≤1000000)
 (t:C3 w b 0 (.slice l a.length cap)) (m:d 0 w)
 (p:∀i T wr,d i wr→a[i]? =some T→∃g o,l=some ⟨g,o,none⟩∧C3 wr g (o+i) T)
 (q:∀i T wr,a[i]? =some T→d i wr→Calls prog 47 #[.map (some c),T] wr fun e w'=>e=.returned (.tuple #[])∧d (i+1) w') :
 Calls prog 250 #[C1 b,.map (some c)] w fun e w'=>e=.returned (.tuple #[])∧d a.length w':=by
 have u:=Ae p;have v:=Ae q;have x:=Ae m;clear p q m;obtain⟨n,f⟩:∃n,a.length=n:=⟨_,rfl⟩;have y:=Ae f;rw[f] at t s⊢;clear f;go_enter func250,ntmps250;go_wp21;go_loopg [11] n (fun k z wr=>∃i:Nat,i+k=n∧z=.int .i64 (i:Int)∧xR (d i wr))
 case atStart=>exact⟨0,by omega,rfl,x⟩
 obtain⟨i,_,rfl,h⟩:=hrel;cases gk with
 |zero =>
  have A:¬(i:Int)<(n:Int):=by omega
  obtain rfl:i=n:=by omega
  go_wp21;go_end0;exact⟨rfl,h.o⟩
 |succ k =>
  have A:(i:Int)<(n:Int):=by omega
  have D:=Bm i
  obtain⟨T,j⟩:∃T,a[i]? =some T:=⟨_,tT (by have:=y.o;omega)⟩;obtain⟨g,o,rfl,B⟩:=u.o i T wr h.o j;have Sb:=Ae (v.o i T wr j h.o);clear j;go_wp21;go_call Sb.o as e w1 ⟨rfl,r⟩;have C:=Ae r;clear r B;go_wp21;go_roundg k
  case measure=>omega
  exact⟨i+1,by omega,by go_num,C⟩
structure C9 (ty:TypeId) (f:Nat) (p:Addr) (A:Nat→Prop) (ts:List Bool) (Gd:Bag→Prop) (R:World→Ow→Bag→Prop):Prop where
 zero:¬A 0
 one:¬A 1
 ok:∀{B:Bag},Gd B→B2 ts B
 gde:∀{B B':Bag},Gd B→A9 B B'→Gd B'
 stab:∀{w w':World} {O O':Ow} {B:Bag},R w O B→w.heap.size≤w'.heap.size→(∀k,k<w.heap.size→A (O k)∨O k=1→w'.heap[k]? =w.heap[k]?∧O' k=O k)→R w' O' B
 eqv:∀{w:World} {O:Ow} {B B':Bag},R w O B→A9 B B'→R w O B'
 met:M9 ty f
 run:∀(w:World) (O:Ow) (B d:Bag) (c:Nat),R w O B→Gd B→Gd (B++d)→Ak w c (Ad d)→¬A (O c)→Calls prog f #[.pointer (some p),.map (some c)] w (Fb A R (B++d) w O)
section
variable {ty:TypeId} {f:Nat} {p:Addr} {A:Nat→Prop} {ts:List Bool} {Gd:Bag→Prop} {R:World→Ow→Bag→Prop}
theorem C9.kept (h:C9 ty f p A ts Gd R){w w':World}{O a:Ow}{B:Bag}{S:Nat→Prop}(g:R w O B)(b:Ab S w w')(c:∀k,S k→¬A (O k)∧O k≠1)(hO:∀k,k<w.heap.size→a k=O k):R w' a B :=
 h.stab g b.size fun k d i=>⟨b.block k d fun e=>i.elim (c k e).1 (c k e).2,hO k d⟩
theorem C9.ED (h:C9 ty f p A ts Gd R){w:World}{O:Ow}{B d:Bag}{c:Nat}(a:R w O B)(b:Gd B)(g:Gd (B++d))(i:Ak w c (Ad d))(l:¬A (O c)) :
 Calls prog 47 #[.map (some c),.iface ty (.pointer (some p))] w (Fb A R (B++d) w O):=by
 refine V5 h.met p c ts d w _ i ((h.ok b).chg (h.ok g)) (fun j=>?_) (fun j=>?_)
 ·exact⟨rfl,O,fun _ _=>rfl,Ab.refl _ _,h.eqv a (Ls j)⟩
 exact (h.run w O B d c a b g i l).mono fun e w' k=>⟨k.1,k⟩
theorem C9.give (h:C9 ty f p A ts Gd R){w:World}{O:Ow}{B d:Bag}{b c g o cap:Nat}(l:C3 w b 0 (.slice (some ⟨g,o,none⟩) 1 cap))(hg:C3 w g o (.iface ty (.pointer (some p))))
 (m:R w O B) (n:Gd B) (q:Gd (B++d)) (r:Ak w c (Ad d)) (s:¬A (O c)) :
 Calls prog 250 #[C1 b,.map (some c)] w (Fb A R (B++d) w O):=by
 have:=IR b c cap (some ⟨g,o,none⟩) [.iface ty (.pointer (some p))] w (fun i wr=>if i=0 then wr=w else Fb A R (B++d) w O (.returned (.tuple #[])) wr) (by simp) l (by simp)
  (fun i T wr a j=>by have hi:i=0:=(by have:=(tR.1 j).1;simp at this;exact this);subst hi;have a:wr=w:=(by simpa using a);subst a;have:Value.iface ty (.pointer (some p))=T:=(by simpa using j);subst this;exact⟨g,o,rfl,hg⟩)
  (fun i T wr j a=>by have hi:i=0:=(by have:=(tR.1 j).1;simp at this;exact this);subst hi;have a:wr=w:=(by simpa using a);subst a;have:Value.iface ty (.pointer (some p))=T:=(by simpa using j);subst this;exact (h.ED m n q r s).mono fun e w' k=>⟨k.1,by rw[if_neg (by omega)];exact⟨rfl,k.2⟩⟩)
 refine this.mono fun e w' ⟨k,a⟩=>?_;subst k;simpa using a
end
end
end Go.Proofs.YtdinjjmcmfjbfaaGreatDoor
