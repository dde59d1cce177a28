import Derived.Test.YtdinjjmcmfjbfaaGreatDoorBaJ
set_option maxRecDepth 100000
set_option maxHeartbeats 4000000
namespace Go.Proofs.YtdinjjmcmfjbfaaGreatDoor
open Go.RowKit
open Mo (V Row Bag cnt Af Ce)
theorem CZ (v:Value)(l:Bag)(w:World)(h:Gf w v l) :
 Calls Tryz.prog 82 #[v] w fun e w'=>∃es,Nu l es∧e=.returned (.int .i64 (wrap64 (cT es)))∧Ab No w w':=by
 rcases h with ⟨rfl,rfl⟩|⟨b,rfl,h⟩
 ·have I:=run_range_nilMap (P:=Tryz.prog) w 83 154 2 Tryz.underlying83
  have J:∀ty,(Instr.next (.pointer (some ⟨w.heap.size,0,none⟩)) false ty).run Tryz.prog (w.alloc (.mapIter none 0 #[] 0))=_:=fun ty=>run_next_nilMap w ty 0 0 #[]
  go_enter Tryz.func82,Tryz.ntmps82
  go_wp2_with fail;refine wp_loop_rounds 1 ?_
  rw[rounds_succ]
  go_wp2_with fail;go_ret
  exact⟨[],⟨⟨by simp,by simp⟩,fun r _ p=>absurd C0 p⟩,Bb (by unfold cT Ce;exact C0.symm),(Ab.refl _ _).alloc _⟩
 ·have s:=Ad h
  clear h
  go_enter Tryz.func82,Tryz.ntmps82
  go_wp2_with (first
   |(at_range;refine En _ rfl _ rfl b l rfl s.o ?_;intro K u a c x)
   |fail)
  have y:=Ad a;clear a x
  go_frame
  go_loopg [3] u (fun k z wr=>∃es:Bag,z=.int .i64 (wrap64 (cT es))∧oH (G1 wr b w.heap.size l es k)∧Ab No w wr)
  case atStart=>exact⟨[],by unfold cT Ce;rw[C0],y,c⟩
  case round =>
   obtain⟨es,rfl,hr,d⟩:=hrel
   have f:=Ad d;clear d c
   go_wp2_with (first
    |(at_next;refine E8 _ rfl _ rfl b w.heap.size l es gk rfl hr.o ?_ ?_)
    |fail)
   ·intro A
    go_wp2_with fail;go_ret
    exact⟨es,A,rfl,f.o⟩
   ·intro t q B C D E F g G j H L
    have m:=Ad g
    have n:oH (Ab No w B):=f.o.trans j (fun _ e=>e) (fun i hi e=>by omega)
    have o:=Ad (TK es q t);clear D g j E F H;go_wp2_with fail;go_roundg C
    case measure=>exact G
    case rel=>first
     |exact⟨es++[(q,t)],by rw[o.o,M6],m,n.o⟩
     |exact⟨es++[(q,t)],by rw[o.o,M6],m.o.kept ((Ab.refl No _).alloc _) oI oI,n.o.alloc _⟩
def LF (l1 l2:Bag):Prop:=∀r,G5 r→wrap64 (cnt l2 r)≠0→0≤wrap64 (wrap64 (cnt l1 r)+wrap64 (cnt l2 r))
theorem GZ (v:Value)(b:Nat)(a d:Bag)(w:World)(o:Gf w v a)(z:Aw w b d) :
 Calls Tryz.prog 81 #[v,.map (some b)] w fun e w'=>∃ok:Bool,(ok=true↔LF a d)∧e=.returned (.bool ok)∧Ab No w w':=by
 have O:=Ad o;have P:=Ad z
 obtain⟨p,rfl⟩:∃p,v=.map p:=by rcases o with ⟨rfl,_⟩|⟨b,rfl,_⟩ <;> exact⟨_,rfl⟩
 clear o z
 go_enter Tryz.func81,Tryz.ntmps81
 go_wp2_with (first
  |(at_range;refine En _ rfl _ rfl b d rfl P.o ?_;intro ac Q A B R)
  |fail)
 have S:=Ad A;clear A R
 go_frame
 go_loopg [] Q (fun k wr=>∃es:Bag,oH (∀e∈es,0≤wrap64 (wrap64 (cnt a e.1)+wrap64 (cnt d e.1)))∧oH (G1 wr b w.heap.size d es k)∧Ab No w wr)
 case atStart=>exact⟨[],Ad (by simp),S,B⟩
 case round =>
  obtain⟨es,C,hr,D⟩:=hrel
  have E:=Ad D;clear D B
  go_wp2_with (first
   |(at_next;refine E8 _ rfl _ rfl b w.heap.size d es gk rfl hr.o ?_ ?_)
   |fail)
  ·intro F
   have HD:=Ad F;clear F;go_wp2_with fail;go_ret
   refine⟨true,⟨fun _ r hr T=>?_,fun _=>rfl⟩,rfl,E.o⟩
   obtain⟨e,f,rfl⟩:=HD.o.2 r hr T
   exact C.o e f
  ·intro t q c s G u H I J K U ad
   have V:=Ad I
   have l:oH (Ab No w c):=E.o.trans K (fun _ e=>e) (fun i hi e=>by omega)
   have m:=Ad G;have L:=Ad u
   have W:oH (wrap64 (cnt d q)≠0):=by show _≠_;rw[←u];exact H
   have X:oH (Gf c (.map p) a):=O.o.Ah l.o
   have x:oH (wrap64 (wrap64 (cnt a q)+t)<0→¬LF a d):=fun j Y=>by
    have:=Y q m.o W.o
    rw[←L.o] at this;omega
   have y:oH (0≤wrap64 (wrap64 (cnt a q)+t)→∀e∈es++[(q,t)],0≤wrap64 (wrap64 (cnt a e.1)+wrap64 (cnt d e.1))):=fun j e f=>by
    rcases lC.1 f with f|f
    ·exact C.o e f
    ·simp at f;subst f;rw[←L.o];exact j
   have M:oH (G1 (c.alloc (.cells (An q) 154)) b w.heap.size d (es++[(q,t)]) s):=V.o.kept ((Ab.refl No _).alloc _) oI oI;have n:oH ((c.alloc (.cells (An q) 154)).heap[c.heap.size]? =some (.cells (An q) 154 (0,0))):=heap_alloc_last _ _;clear G I K u H U
   rcases X.o with ⟨e,Z⟩|⟨b1,e,hb1⟩
   ·injection e with e
    subst e Z;have aa:wrap64 (cnt [] q)=0:=C0
    rw[aa,Int.zero_add] at x y
    by_cases j:wrap64 t<0
    ·have g:=Ad (x.o j)
     go_wp2_with (first
      |(refine Cw _ _ _ rfl rfl c _ rfl rfl rfl q rfl ?_)
      |(refine D7 _ rfl rfl c.heap.size rfl q n.o ?_)
      |(at_lookup;refine Ld _ I8 rfl _ _ 83 2 rfl Tryz.underlying83 _ (Og _) rfl q m.o rfl ?_)
      |fail)
     go_ret
     exact⟨false,⟨fun h=>(by cases h),fun h=>absurd h g.o⟩,rfl,l.o.alloc _⟩
    ·have g:=Ad (y.o (by omega))
     have ab:0≤wrap64 t:=by omega
     go_wp2_with (first
      |(refine Cw _ _ _ rfl rfl c _ rfl rfl rfl q rfl ?_)
      |(refine D7 _ rfl rfl c.heap.size rfl q n.o ?_)
      |(at_lookup;refine Ld _ I8 rfl _ _ 83 2 rfl Tryz.underlying83 _ (Og _) rfl q m.o rfl ?_)
      |fail)
     go_roundg s
     case measure=>exact J
     case rel=>exact⟨es++[(q,t)],g,M,l.o.alloc _⟩
   ·injection e with e
    subst e;have N:oH (Cz 154 M5 G5 (c.alloc (.cells (An q) 154)) b1 (Cs a)):=hb1.2.B2 (Below.heap_alloc _ _ _ hb1.lt);clear hb1
    by_cases j:wrap64 (wrap64 (cnt a q)+t)<0
    ·have g:=Ad (x.o j)
     go_wp2_with (first
      |(refine Cw _ _ _ rfl rfl c _ rfl rfl rfl q rfl ?_)
      |(refine D7 _ rfl rfl c.heap.size rfl q n.o ?_)
      |(at_lookup;refine Db _ I8 rfl _ _ 83 2 rfl Tryz.underlying83 _ (Og _) b1 (Cs a) rfl N.o q m.o rfl _ (R8 a q) ?_)
      |fail)
     go_ret
     exact⟨false,⟨fun h=>(by cases h),fun h=>absurd h g.o⟩,rfl,l.o.alloc _⟩
    ·have g:=Ad (y.o (by omega))
     have ab:0≤wrap64 (wrap64 (cnt a q)+t):=by omega
     go_wp2_with (first
      |(refine Cw _ _ _ rfl rfl c _ rfl rfl rfl q rfl ?_)
      |(refine D7 _ rfl rfl c.heap.size rfl q n.o ?_)
      |(at_lookup;refine Db _ I8 rfl _ _ 83 2 rfl Tryz.underlying83 _ (Og _) b1 (Cs a) rfl N.o q m.o rfl _ (R8 a q) ?_)
      |fail)
     go_roundg s
     case measure=>exact J
     case rel=>exact⟨es++[(q,t)],g,M,l.o.alloc _⟩
end Go.Proofs.YtdinjjmcmfjbfaaGreatDoor
namespace Go.Proofs.YtdinjjmcmfjbfaaGreatDoor.Mo
def ty:V→Bool
 | .num _=>false
 | .txt _=>true
def Mc (ts:List Bool):Cy→Option Bool
 | .col c=>ts[c]?
 | .val v=>some (ty v)
def Dp (c:Nat)(x:Cy)(ts:List Bool):Option (List Bool):=match ts[c]? with
 |none=>none
 |some a=>if Mc ts x=some a then some ts else none
def Bt (cs:List Nat)(ts:List Bool):Option (List Bool):=if cs.all (fun c=>decide (c<ts.length)) then some (cs.map fun c=>ts.getD c false) else none
def six (ts:List Bool):Option (List Bool):=if ts.length≤6 then some ts else none
def Hi (n m:Nat)(ts us:List Bool):Option (List Bool):=match ts[n]? with
 |none=>none
 |some a=>if us[m]? =some a then six (ts++us) else none
def Md (cs:List Nat)(s:Option Nat)(ts:List Bool):Option (List Bool):=match Bt cs ts with
 |none=>none
 |some ks=>match s with
  |none=>six (ks++[false])
  |some m=>if ts[m]? =some false then six (ks++[false]) else none
def A9 (f:List UInt8→Option (List Bool)):Q→Option (List Bool)
 | .tab nm=>f nm
 | .sel c _ x q=>(A9 f q).bind (Dp c x)
 | .pick cs q=>(A9 f q).bind (Bt cs)
 | .join n m q r=>(A9 f q).bind fun ts=>(A9 f r).bind fun us=>Hi n m ts us
 | .uni q r=>(A9 f q).bind fun ts=>(A9 f r).bind fun us=>if ts=us then some ts else none
 | .dist q=>A9 f q
 | .grp cs s q=>(A9 f q).bind (Md cs s)
def RT (ts:List Bool)(l:Bag):Prop:=∀e∈l,e.1.map ty=ts
def Z7:V→Prop
 | .num _=>True
 | .txt s=>1≤s.length∧s.length≤4∧∀c∈s,97≤c.toNat∧c.toNat≤122
def BT (l:Bag):Prop:=∀e∈l,∀v∈e.1,Z7 v
theorem Ju {l:Bag}{e:Row×Int}(h:e∈Af l):∃x∈l,x.1=e.1:=by
 induction l generalizing e with
 |nil=>cases h
 |cons y l a =>
  rcases Zu h with hr|⟨_,b,c⟩
  ·exact⟨y,by simp,hr.symm⟩
  ·obtain⟨x,d,f⟩:=a b
   exact⟨x,by simp[d],f.trans c⟩
theorem RT.canon {ts:List Bool}{l:Bag}(h:RT ts l):RT ts (Mo.Af l):=fun e a=>by obtain⟨x,b,c⟩:=Ju a;rw[←c];exact h x b
theorem BT.canon {l:Bag}(h:BT l):BT (Mo.Af l):=fun e a=>by obtain⟨x,b,c⟩:=Ju a;rw[←c];exact h x b
theorem R9 {r:Row}{ts:List Bool}(h:r.map ty=ts){c:Nat}(a:c<ts.length):ty (Al r c)=ts.getD c false∧Al r c∈r:=by
 subst h
 rw[lB] at a
 have hr:r[c]? =some r[c]:=kT a;unfold Al
 rw[lI,lI,kX,hr]
 exact⟨rfl,List.getElem_mem _⟩
theorem Fo {cs:List Nat}{ts us:List Bool}(h:Bt cs ts=some us):(∀c∈cs,c<ts.length)∧us=cs.map fun c=>ts.getD c false:=by
 unfold Bt at h
 split at h
 ·rename_i a
  injection h with h
  exact⟨fun c b=>by simpa using lO.1 a c b,h.symm⟩
 ·cases h
theorem Oh {r:Row}{cs:List Nat}{ts us:List Bool}(h:r.map ty=ts)(d:Bt cs ts=some us):(Ay cs r).map ty=us∧∀v∈Ay cs r,v∈r:=by
 obtain⟨b,rfl⟩:=Fo d
 refine⟨?_,fun v hv=>?_⟩
 ·unfold Ay;rw[mH]
  exact mS fun c a=>(R9 h (b c a)).1
 ·obtain⟨c,a,rfl⟩:=lD.1 hv
  exact (R9 h (b c a)).2
theorem Vw {ts us:List Bool}(h:six ts=some us):us=ts∧ts.length≤6:=by unfold six at h;split at h;injection h with h;exact⟨h.symm,by assumption⟩;cases h
theorem M7 {c:Nat}{x:Cy}{ts us:List Bool}(h:Dp c x ts=some us):us=ts:=by
 unfold Dp at h
 split at h
 ·cases h
 ·split at h
  ·injection h with h;exact h.symm
  ·cases h
theorem DA {n m:Nat}{ts us vs:List Bool}(h:Hi n m ts us=some vs):vs=ts++us∧(ts++us).length≤6:=by
 unfold Hi at h
 split at h
 ·cases h
 ·split at h
  ·exact Vw h
  ·cases h
theorem IA {cs:List Nat}{s:Option Nat}{ts us:List Bool}(h:Md cs s ts=some us):∃ks,Bt cs ts=some ks∧us=ks++[false]∧us.length≤6:=by
 unfold Md at h
 cases b:Bt cs ts with
 |none=>rw[b] at h;cases h
 |some ks =>
  rw[b] at h
  cases s with
  |none=>obtain⟨rfl,a⟩:=Vw h;exact⟨ks,rfl,rfl,a⟩
  |some m =>
   simp only at h
   split at h
   ·obtain⟨rfl,a⟩:=Vw h;exact⟨ks,rfl,rfl,a⟩
   ·cases h
theorem DB {cs:List Nat}{s:Option Nat}{l:Bag}{e:Row×Int}(h:e∈Ir cs s l):∃x∈l,∃n,e.1=Ay cs x.1++[.num n]:=by
 obtain⟨k,a,rfl⟩:=lD.1 h
 obtain⟨y,b,c⟩:=CQ a
 obtain⟨x,d,f⟩:=Ju b
 exact⟨x,d,_,by rw[f,c]⟩
theorem Yk {n m:Nat}{a b:Bag}{e:Row×Int}(h:e∈Gm n m a b):∃x∈a,∃y∈b,e.1=x.1++y.1:=by
 obtain⟨x,c,d⟩:=List.mem_flatMap.1 h
 obtain⟨y,f,rfl⟩:=lD.1 d
 exact⟨x,c,y,(oE.1 f).1,rfl⟩
theorem Jj {f:List UInt8→Option (List Bool)}{g:Nat→Bag}:∀(q:Q) (i:Nat) (ts:List Bool),(∀j nm us,(Ac q)[j]? =some nm→f nm=some us→RT us (g (i+j))∧BT (g (i+j)))→A9 f q=some ts→RT ts (Av g i q)∧BT (Av g i q)
 | .tab nm,i,ts,h,l=>h 0 nm ts rfl l
 | .sel c k x q,i,ts,h,l=>by
   obtain⟨us,t,b⟩:=lG.1 l
   obtain rfl:=M7 b
   obtain⟨o,p⟩:=Jj q i ts h t
   exact⟨fun e a=>o e (oE.1 a).1,fun e a=>p e (oE.1 a).1⟩
 | .pick cs q,i,ts,h,l=>by
   obtain⟨us,t,b⟩:=lG.1 l
   obtain⟨o,p⟩:=Jj q i us h t
   refine⟨fun e a=>?_,fun e a v hv=>?_⟩
   ·obtain⟨x,d,rfl⟩:=lD.1 a
    exact (Oh (o x d) b).1
   ·obtain⟨x,d,rfl⟩:=lD.1 a
    exact p x d v ((Oh (o x d) b).2 v hv)
 | .join n m q r,i,ts,h,l=>by
   obtain⟨us,t,b⟩:=lG.1 l
   obtain⟨vs,hv,b⟩:=lG.1 b
   obtain⟨rfl,-⟩:=DA b
   obtain⟨o,p⟩:=Jj q i us (fun j nm us u=>h j nm us (by simp only[Ac];rw[lA (kS.1 u).1];exact u)) t
   obtain⟨w,z⟩:=Jj r (i+(Ac q).length) vs (fun j nm us u=>by rw[mT];exact h ((Ac q).length+j) nm us (by simp only[Ac];rw[kY (by omega),mV];exact u)) hv
   refine⟨fun e a=>?_,fun e a v hv=>?_⟩
   ·obtain⟨x,d,y,A,B⟩:=Yk a
    rw[B,lF,o x d,w y A]
   ·obtain⟨x,d,y,A,B⟩:=Yk a
    rw[B] at hv
    rcases lC.1 hv with hv|hv
    ·exact p x d v hv
    ·exact z y A v hv
 | .uni q r,i,ts,h,l=>by
   obtain⟨us,t,b⟩:=lG.1 l
   obtain⟨vs,hv,b⟩:=lG.1 b
   split at b
   case isFalse=>cases b
   rename_i a
   subst a
   injection b with b
   subst b
   obtain⟨o,p⟩:=Jj q i us (fun j nm us u=>h j nm us (by simp only[Ac];rw[lA (kS.1 u).1];exact u)) t
   obtain⟨w,z⟩:=Jj r (i+(Ac q).length) us (fun j nm us u=>by rw[mT];exact h ((Ac q).length+j) nm us (by simp only[Ac];rw[kY (by omega),mV];exact u)) hv
   exact⟨fun e a=>by rcases lC.1 a with a|a;exact o e a;exact w e a,fun e a=>by rcases lC.1 a with a|a;exact p e a;exact z e a⟩
 | .dist q,i,ts,h,l=>by
   obtain⟨o,p⟩:=Jj q i ts h l
   refine⟨fun e a=>?_,fun e a=>?_⟩
   ·obtain⟨x,d,rfl⟩:=lD.1 a
    exact o.canon x d
   ·obtain⟨x,d,rfl⟩:=lD.1 a
    exact p.canon x d
 | .grp cs s q,i,ts,h,l=>by
   obtain⟨us,t,b⟩:=lG.1 l
   obtain⟨ks,D,rfl,-⟩:=IA b
   obtain⟨o,p⟩:=Jj q i us h t
   refine⟨fun e a=>?_,fun e a v hv=>?_⟩
   ·obtain⟨x,d,n,C⟩:=DB a
    rw[C,lF,(Oh (o x d) D).1];rfl
   ·obtain⟨x,d,n,C⟩:=DB a
    rw[C] at hv
    rcases lC.1 hv with hv|hv
    ·exact p x d v ((Oh (o x d) D).2 v hv)
    ·simp at hv;subst hv;trivial
def iS:Cy→Prop
 | .col c=>c<10
 | .val (.num n)=> -9999≤n∧n≤9999
 | .val (.txt s)=>Z7 (.txt s)
def wf:Q→Prop
 | .tab nm=>Z7 (.txt nm)
 | .sel c _ x q=>c<10∧iS x∧wf q
 | .pick cs q=>1≤cs.length∧cs.length≤6∧(∀c∈cs,c<10)∧wf q
 | .join _ _ _ _=>False
 | .uni q r=>wf q∧wf r
 | .dist _=>False
 | .grp _ _ _=>False
theorem Fi {f:List UInt8→Option (List Bool)}(hf:∀nm us,f nm=some us→1≤us.length∧us.length≤6):∀(q:Q) (ts:List Bool),wf q→A9 f q=some ts→1≤ts.length∧ts.length≤6
 | .tab nm,ts,_,h=>hf nm ts h
 | .sel c _ x q,ts,a,h=>by
   obtain⟨us,d,b⟩:=lG.1 h
   obtain rfl:=M7 b;exact Fi hf q _ a.2.2 d
 | .pick cs q,ts,a,h=>by
   obtain⟨us,d,b⟩:=lG.1 h
   obtain⟨_,rfl⟩:=Fo b
   have:=a.1
   have:=a.2.1
   simp;omega
 | .join _ _ _ _,_,a,_=>a.elim
 | .uni q r,ts,a,h=>by
   obtain⟨us,d,b⟩:=lG.1 h
   obtain⟨vs,hv,b⟩:=lG.1 b
   split at b
   case isFalse=>cases b
   injection b with b
   subst b;exact Fi hf q _ a.1 d
 | .dist _,_,a,_=>a.elim
 | .grp _ _ _,_,a,_=>a.elim
def cU (b:Bag)(e:Row×Int):Bag:=if cnt b e.1=0 then [(e.1,1)] else if cnt b e.1= -e.2 then [(e.1,-1)] else []
def iB (b es:Bag):Bag:=es.flatMap (cU b)
def Z8 (cs:List Nat)(s:Option Nat)(l:Bag):Bag:=l.map fun e=>(Ay cs e.1,e.2*sv s e.1)
theorem DC (cs:List Nat)(s:Option Nat)(l:Bag)(g:Row→Int):Ce (Z8 cs s l) g=Ce l (fun r=>sv s r*g (Ay cs r)):=by
 induction l with
 |nil=>rfl
 |cons e l a =>
  have:Z8 cs s (e::l)=(Ay cs e.1,e.2*sv s e.1)::Z8 cs s l:=rfl
  rw[this];simp only[Ce];rw[a,oC]
theorem TL {cs:List Nat}{s:Option Nat}{l m:Bag}(h:Be l m):Be (Z8 cs s l) (Z8 cs s m):=M1 fun g=>by rw[DC,DC,h.lin]
def jA (cs:List Nat)(s:Option Nat)(l:Bag)(k:Row):Bag:=if 0<cnt (B1 cs l) k then [(k++[.num (cnt (Z8 cs s l) k)],1)] else []
def Dr (ts:List Bool)(r:Row):Prop:=r.map ty=ts∧(∀v∈r,Z7 v)∧∀v∈r,wv v≤90000000000000000
structure B0 (ts:List Bool) (b:Bag):Prop where
 nn:nn b
 rows:Nr b≤3000000000000
 wts:Wt b≤90000000000000000
 ty:RT ts (Af b)
 tx:BT (Af b)
 six:ts.length≤6
section
variable {ts:List Bool} {b b' d:Bag}
theorem B0.eqv (h:B0 ts b)(e:Be b b'):B0 ts b' :=
 ⟨fun r=>by rw[←e r];exact h.nn r,by rw[←GS e];exact h.rows,by rw[←dJ e];exact h.wts,by rw[←e.canon];exact h.ty,by rw[←e.canon];exact h.tx,h.six⟩
theorem B0.good (h:B0 ts b){r:Row}(hr:cnt b r≠0):Dr ts r:=by
 obtain⟨x,a,rfl⟩:=CP hr
 exact⟨h.ty x a,h.tx x a,fun v hv=>lZ (NL h.nn a hv) h.wts⟩
theorem B0.bd (h:B0 ts b)(r:Row):0≤cnt b r∧cnt b r≤3000000000000:=⟨h.nn r,lZ (Pi h.nn r) h.rows⟩
theorem B0.len (h:B0 ts b):(Af b).length≤3000000000000:=by have a:=Ma h.nn;have c:=h.rows;omega
structure Fw (ts:List Bool) (d:Bag):Prop where
 good:∀{r:Row},cnt d r≠0→Dr ts r
 bd:∀r,-3000000000000≤cnt d r∧cnt d r≤3000000000000
 len:(Af d).length≤6000000000000
 six:ts.length≤6
theorem Fw.eqv {a:Bag}(h:Fw ts d)(e:Be d a):Fw ts a:=⟨fun hr=>h.good (by rw[e];exact hr),fun r=>by rw[←e r];exact h.bd r,by rw[←e.canon];exact h.len,h.six⟩
theorem B0.chg (h:B0 ts b)(k:B0 ts (b++d)):Fw ts d:=by
 refine⟨fun {r} hr=>?_,fun r=>?_,?_,h.six⟩
 ·by_cases a:cnt b r=0
  ·exact k.good (by rw[Am,a];omega)
  ·exact h.good a
 ·have f:=h.bd r
  have c:=k.bd r
  rw[Am] at c;omega
 ·have e:Be d (neg (Af b)++(b++d)):=fun r=>by rw[Am,Ej,As,Am];omega
  have f:=Cq (neg (Af b)) (b++d)
  have c:(neg (Af b)).length=(Af b).length:=by simp[neg]
  have g:=h.len;have i:=k.len
  rw[e.canon];omega
theorem B0.kK (h:B0 ts b):Fw ts b:=⟨fun hr=>h.good hr,fun r=>by have:=h.bd r;omega,by have:=h.len;omega,h.six⟩
theorem B0.nil (h:ts.length≤6):B0 ts []:=⟨fun _=>mP _,by simp[Nr,Ce],by simp[Wt,Ce],(fun e a=>absurd a (by simp[Af])),(fun e a=>absurd a (by simp[Af])),h⟩
theorem Gp:Af d=[]↔∀r,cnt d r=0:=by
 constructor
 ·intro h r;rw[←As,h];rfl
 ·intro h
  have:Be d []:=fun r=>by rw[h r];rfl
  rw[this.canon];rfl
theorem Kd (h:Af d=[]):Be b (b++d):=fun r=>by rw[Am,Gp.1 h r];omega
theorem Gq {e:Row×Int}(h:e∈Af d):cnt d e.1≠0:=by rw[←As,(Aq d).Dl h];exact (Aq d).nz h
theorem Fw.mem (h:Fw ts d){e:Row×Int}(a:e∈Af d):Dr ts e.1:=h.good (Gq a)
end
theorem Dr.len {ts:List Bool}{r:Row}(h:Dr ts r):r.length=ts.length:=by rw[←h.1];simp
def Xm (ft:List UInt8→Option (List Bool))(q:Q)(i:Nat)(f:Nat→Bag):Prop:=∃ts,A9 ft q=some ts∧B0 ts (Av f i q)
def Qx (ft:List UInt8→Option (List Bool)):Q→Nat→(Nat→Bag)→Prop
 | .tab _,_,_=>True
 | .sel _ _ _ q,i,f=>Xm ft q i f∧Qx ft q i f
 | .pick _ q,i,f=>Xm ft q i f∧Qx ft q i f
 | .join _ _ q r,i,f=>(Xm ft q i f∧Xm ft r (i+(Ac q).length) f)∧Qx ft q i f∧Qx ft r (i+(Ac q).length) f
 | .uni q r,i,f=>(Xm ft q i f∧Xm ft r (i+(Ac q).length) f)∧Qx ft q i f∧Qx ft r (i+(Ac q).length) f
 | .dist q,i,f=>Xm ft q i f∧Qx ft q i f
 | .grp _ _ q,i,f=>Xm ft q i f∧Qx ft q i f
def Hx (ft:List UInt8→Option (List Bool))(q:Q)(i:Nat)(f:Nat→Bag):Prop:=∀j nm us,(Ac q)[j]? =some nm→ft nm=some us→RT us (f (i+j))∧BT (f (i+j))
section
variable {ft:List UInt8→Option (List Bool)} {f:Nat→Bag}
theorem Hx.left {q:Q}{l:List (List UInt8)}{i:Nat}(h:∀j nm us,(Ac q++l)[j]? =some nm→ft nm=some us→RT us (f (i+j))∧BT (f (i+j))):Hx ft q i f:=fun j nm us a b =>
 h j nm us (by rw[lA (kS.1 a).1];exact a) b
theorem Hx.right {r:Q}{l:List (List UInt8)}{i:Nat}(h:∀j nm us,(l++Ac r)[j]? =some nm→ft nm=some us→RT us (f (i+j))∧BT (f (i+j))):Hx ft r (i+l.length) f:=fun j nm us a b=>by
 have:=h (l.length+j) nm us (by rw[kY (by omega),show l.length+j-l.length=j by omega];exact a) b
 rw[show i+(l.length+j)=i+l.length+j by omega] at this;exact this
theorem YP (hf:∀nm us,ft nm=some us→1≤us.length∧us.length≤6)(a:It f 120)(q:Q)(d:wf q)(e:(Ac q).length≤120)(g:Ag q≤2)(i:Nat)(h:Hx ft q i f){ts:List Bool}(b:A9 ft q=some ts):B0 ts (Av f i q):=by
 have c:=gL q e g a i;have hr:=Jj q i ts h b
 exact⟨Cv a.nn q i,c.1,c.2,hr.1.canon,hr.2.canon,(Fi hf q ts d b).2⟩
theorem ok2 (hf:∀nm us,ft nm=some us→1≤us.length∧us.length≤6)(d:It f 120):∀(q:Q) (_:wf q) (_:(Ac q).length≤120) (_:Ag q≤2) (i:Nat) (_:Hx ft q i f) {ts:List Bool} (_:A9 ft q=some ts),Qx ft q i f
 | .tab _,_,_,_,_,_,_,_=>trivial
 | .sel c k x q,a,g,h,i,e,ts,j=>by
   obtain⟨us,b,_⟩:=lG.1 (show (A9 ft q).bind (Dp c x)=some ts from j)
   exact⟨⟨us,b,YP hf d q a.2.2 g h i e b⟩,ok2 hf d q a.2.2 g h i e b⟩
 | .pick cs q,a,g,h,i,e,ts,j=>by
   obtain⟨us,b,_⟩:=lG.1 (show (A9 ft q).bind (Bt cs)=some ts from j)
   exact⟨⟨us,b,YP hf d q a.2.2.2 g h i e b⟩,ok2 hf d q a.2.2.2 g h i e b⟩
 | .join _ _ _ _,a,_,_,_,_,_,_=>a.elim
 | .uni q r,a,g,h,i,e,ts,j=>by
   obtain⟨us,b,p⟩:=lG.1 (show (A9 ft q).bind (fun ts=>(A9 ft r).bind fun us=>if ts=us then some ts else none)=some ts from j)
   obtain⟨vs,m,_⟩:=lG.1 p
   have s:(Ac q).length+(Ac r).length≤120:=by simpa [Ac] using g
   have t:Ag q+Ag r≤2:=h;have n:Hx ft q i f:=Hx.left (l:=Ac r) e;have o:Hx ft r (i+(Ac q).length) f:=Hx.right (l:=Ac q) e
   exact⟨⟨⟨us,b,YP hf d q a.1 (by omega) (by omega) i n b⟩,⟨vs,m,YP hf d r a.2 (by omega) (by omega) _ o m⟩⟩,ok2 hf d q a.1 (by omega) (by omega) i n b,ok2 hf d r a.2 (by omega) (by omega) _ o m⟩
 | .dist _,a,_,_,_,_,_,_=>a.elim
 | .grp _ _ _,a,_,_,_,_,_,_=>a.elim
end
end Go.Proofs.YtdinjjmcmfjbfaaGreatDoor.Mo
namespace Go.Proofs.YtdinjjmcmfjbfaaGreatDoor
open Go.RowKit
open Mo (V Row Bag cnt Af Be B0 Fw)
abbrev Ow:=Nat→Nat
theorem Z9 {ts:List Bool}{r:Row}(h:Mo.Dr ts r)(a:ts.length≤6):G5 r:=by
 refine⟨by rw[h.len];exact a,fun v hv=>?_⟩
 have b:=h.2.1 v hv;have c:=h.2.2 v hv
 cases v with
 |num n=>simp only[Mo.wv] at c;simp only[Rj];omega
 |txt s=>exact b
theorem Mo.Fw.cV {ts:List Bool}{d:Bag}(h:Fw ts d):∀e∈Af d,G5 e.1:=fun _ a=>Z9 (h.mem a) h.six
theorem Mo.B0.cV {ts:List Bool}{d:Bag}(h:B0 ts d):∀e∈Af d,G5 e.1:=h.kK.cV
theorem Mo.Fw.iC {ts:List Bool}{d:Bag}(h:Fw ts d)(r:Row):wrap64 (cnt (Af d) r)=cnt d r:=by
 rw[Mo.As,NR];have:=h.bd r;omega
def Il (A:Nat→Prop)(R:World→Ow→Bag→Prop)(B:Bag)(w:World)(O:Ow)(e:Ending)(w':World):Prop :=
 e=.returned (.tuple #[])∧∃O':Ow,(∀k,k<w.heap.size→O' k=O k)∧Ab (fun k=>A (O k)) w w'∧R w' O' B
structure Qy (ty:TypeId) (f:Nat):Prop where
 nil:∀(a:Addr) (w:World),(nilAhead 496 ty (.pointer (some a)) "ripple/ripple.take").run Tryz.prog w=.ok (some false) w
 met:∀(a:Addr) (w:World),(method 496 ty (.pointer (some a)) "ripple/ripple.take").run Tryz.prog w=.ok (f,.pointer (some a)) w
 ent:∀args w,(callFunc f args).run Tryz.prog w=.ok (.enter f args) w
theorem Uf {ty:TypeId}{f:Nat}(i:Qy ty f)(a:Addr)(c:Nat)(ts:List Bool)(d:Bag)(w:World)(Q:Ending→World→Prop)(j:Aw w c (Af d))(q:Fw ts d)
 (l:Af d=[]→Q (.returned (.tuple #[])) w) (m:Af d≠[]→Calls Tryz.prog f #[.pointer (some a),.map (some c)] w fun e w'=>e=.returned (.tuple #[])∧Q e w') :
 Calls Tryz.prog 47 #[.map (some c),.iface ty (.pointer (some a))] w Q:=by
 have r:=Ad j;have x:=Ad i;have y:=i.met;have s:=i.ent
 by_cases g:Af d=[]
 ·have n:=Ad (l g)
  have h:∀ks:List Row,(∀k,k∈ks↔(Cs (Af d) k).isSome=true)→ks=[]:=fun ks b=>by
   cases ks with
   |nil=>rfl
   |cons k ks =>
    have:=(b k).1 (by simp)
    unfold Cs at this
    rw[q.iC,Mo.Gp.1 g k,if_pos rfl] at this
    cases this
  have o:=Ad h;clear l m h j g
  go_enter Tryz.func47,Tryz.ntmps47
  go_wp2_with (first
   |(at_len;refine Of _ I8 rfl _ 83 2 rfl Tryz.underlying83 c (Cs (Af d)) rfl r.o.2 ?_;intro ks p b;obtain rfl:=o.o ks b;clear p b)
   |fail)
  go_end0;exact n.o
 ·have n:=Ad (m g)
  have h:∀ks:List Row,(∀k,k∈ks↔(Cs (Af d) k).isSome=true)→(0:Int)<(ks.length:Nat):=fun ks b=>by
   obtain⟨e,s⟩:=List.exists_mem_of_ne_nil _ g
   have u:e.1∈ks:=(b _).2 (by unfold Cs;rw[q.iC,if_neg (Mo.Gq s)];rfl)
   have:=List.length_pos_of_mem u
   omega
  have o:=Ad h;clear l m h j g
  go_enter Tryz.func47,Tryz.ntmps47
  go_wp2_with (first
   |(at_len;refine Of _ I8 rfl _ 83 2 rfl Tryz.underlying83 c (Cs (Af d)) rfl r.o.2 ?_;intro ks p b;have z:=o.o ks b;clear p b)
   |fail)
  refine n.o.mono ?_;rintro e A ⟨rfl,t⟩;have v:=Ad t;clear t;go_wp2_with fail;go_end0;exact v.o
theorem DD (b c cap:Nat)(l:Option Addr)(a:List Value)(w:World)(d:Nat→World→Prop)(s:a.length≤1000000)
 (t:w.cell? ⟨b,0,none⟩=some (.slice l a.length cap)) (m:d 0 w)
 (p:∀i T wr,d i wr→a[i]? =some T→∃g o,l=some ⟨g,o,none⟩∧wr.cell? ⟨g,o+i,none⟩=some T)
 (q:∀i T wr,a[i]? =some T→d i wr→Calls Tryz.prog 47 #[.map (some c),T] wr fun e w'=>e=.returned (.tuple #[])∧d (i+1) w') :
 Calls Tryz.prog 250 #[.pointer (some ⟨b,0,none⟩),.map (some c)] w fun e w'=>e=.returned (.tuple #[])∧d a.length w':=by
 have u:=Ad p;have v:=Ad q;have x:=Ad m;clear p q m
 obtain⟨n,f⟩:∃n,a.length=n:=⟨_,rfl⟩
 have y:=Ad f
 rw[f] at t s⊢
 clear f
 go_enter Tryz.func250,Tryz.ntmps250
 go_wp2_with fail
 go_loopg [11] n (fun k z wr=>∃i:Nat,i+k=n∧z=.int .i64 (i:Int)∧oH (d i wr))
 case atStart=>exact⟨0,by omega,rfl,x⟩
 case round =>
  obtain⟨i,_,rfl,h⟩:=hrel
  cases gk with
  |zero =>
   have A:¬(i:Int)<(n:Int):=by omega
   obtain rfl:i=n:=by omega
   go_wp2_with fail;go_end0
   exact⟨rfl,h.o⟩
  |succ k =>
   have A:(i:Int)<(n:Int):=by omega
   have E:(0:Int)≤(i:Int):=by omega
   obtain⟨T,j⟩:∃T,a[i]? =some T:=⟨_,kT (by have:=y.o;omega)⟩
   obtain⟨g,o,rfl,B⟩:=u.o i T wr h.o j
   have C:=Ad (v.o i T wr j h.o);clear j;go_wp2_with fail;refine C.o.mono ?_;rintro e F ⟨rfl,r⟩;have D:=Ad r;clear r B;go_wp2_with fail;go_roundg k
   case measure=>omega
   case rel=>exact⟨i+1,by omega,by go_num,D⟩
structure Et (ty:TypeId) (f:Nat) (p:Addr) (A:Nat→Prop) (ts:List Bool) (Gd:Bag→Prop) (R:World→Ow→Bag→Prop):Prop where
 zero:¬A 0
 one:¬A 1
 ok:∀{B:Bag},Gd B→B0 ts B
 gde:∀{B B':Bag},Gd B→Be B B'→Gd B'
 stab:∀{w w':World} {O O':Ow} {B:Bag},R w O B→w.heap.size≤w'.heap.size→(∀k,k<w.heap.size→A (O k)∨O k=1→w'.heap[k]? =w.heap[k]?∧O' k=O k)→R w' O' B
 eqv:∀{w:World} {O:Ow} {B B':Bag},R w O B→Be B B'→R w O B'
 met:Qy ty f
 run:∀(w:World) (O:Ow) (B d:Bag) (c:Nat),R w O B→Gd B→Gd (B++d)→Aw w c (Af d)→¬A (O c)→Calls Tryz.prog f #[.pointer (some p),.map (some c)] w (Il A R (B++d) w O)
section
variable {ty:TypeId} {f:Nat} {p:Addr} {A:Nat→Prop} {ts:List Bool} {Gd:Bag→Prop} {R:World→Ow→Bag→Prop}
theorem Et.kept (h:Et ty f p A ts Gd R){w w':World}{O a:Ow}{B:Bag}{S:Nat→Prop}(g:R w O B)(b:Ab S w w')(c:∀k,S k→¬A (O k)∧O k≠1)(hO:∀k,k<w.heap.size→a k=O k):R w' a B :=
 h.stab g b.size fun k d i=>⟨b.block k d fun e=>i.elim (c k e).1 (c k e).2,hO k d⟩
theorem Et.AA (h:Et ty f p A ts Gd R){w:World}{O:Ow}{B d:Bag}{c:Nat}(a:R w O B)(b:Gd B)(g:Gd (B++d))(i:Aw w c (Af d))(l:¬A (O c)) :
 Calls Tryz.prog 47 #[.map (some c),.iface ty (.pointer (some p))] w (Il A R (B++d) w O):=by
 refine Uf h.met p c ts d w _ i ((h.ok b).chg (h.ok g)) (fun j=>?_) (fun j=>?_)
 ·exact⟨rfl,O,fun _ _=>rfl,Ab.refl _ _,h.eqv a (Mo.Kd j)⟩
 ·exact (h.run w O B d c a b g i l).mono fun e w' k=>⟨k.1,k⟩
theorem Et.give (h:Et ty f p A ts Gd R){w:World}{O:Ow}{B d:Bag}{b c g o cap:Nat}(l:w.cell? ⟨b,0,none⟩=some (.slice (some ⟨g,o,none⟩) 1 cap))(hg:w.cell? ⟨g,o,none⟩=some (.iface ty (.pointer (some p))))
 (m:R w O B) (n:Gd B) (q:Gd (B++d)) (r:Aw w c (Af d)) (s:¬A (O c)) :
 Calls Tryz.prog 250 #[.pointer (some ⟨b,0,none⟩),.map (some c)] w (Il A R (B++d) w O):=by
 have:=DD b c cap (some ⟨g,o,none⟩) [.iface ty (.pointer (some p))] w (fun i wr=>if i=0 then wr=w else Il A R (B++d) w O (.returned (.tuple #[])) wr) (by simp) l (by simp)
  (fun i T wr a j=>by
    have hi:i=0:=by have:=(kS.1 j).1;simp at this;exact this
    subst hi
    have a:wr=w:=by simpa using a
    subst a
    have:Value.iface ty (.pointer (some p))=T:=by simpa using j
    subst this
    exact⟨g,o,rfl,hg⟩)
  (fun i T wr j a=>by
    have hi:i=0:=by have:=(kS.1 j).1;simp at this;exact this
    subst hi
    have a:wr=w:=by simpa using a
    subst a
    have:Value.iface ty (.pointer (some p))=T:=by simpa using j
    subst this
    exact (h.AA m n q r s).mono fun e w' k=>⟨k.1,by rw[if_neg (by omega)];exact⟨rfl,k.2⟩⟩)
 refine this.mono fun e w' ⟨k,a⟩=>?_
 subst k
 simpa using a
end
end Go.Proofs.YtdinjjmcmfjbfaaGreatDoor
