import Derived.Test.YtdinjjmcmfjbfaaGreatDoorRbcJ
import Derived.Test.YtdinjjmcmfjbfaaGreatDoorVlJ
set_option maxRecDepth 100000
set_option maxHeartbeats 4000000
namespace Go.Proofs.YtdinjjmcmfjbfaaGreatDoor
open Go.RowKit Mo Pl Tryz
section
theorem LG {s:ByteArray}{a:Nat}(h:97≤bt s a∧bt s a≤122):Et s a=Bj s a∧(Bj s a).1=true:=by
 have b:Bj s a=(true,(Bj s a).2):=by have c:Bj s a=(true,Eb s 97 122 3 (a+1)):=Wu h;rw[c]
 refine⟨?_,by rw[b]⟩;unfold Et;rw[Ho b,←b]
theorem LH {s:ByteArray}{a:Nat}(h:¬(97≤bt s a∧bt s a≤122)):Et s a=D1 s a∧¬(Bj s a).1=true:=by
 have b:Bj s a=(false,a):=Qj h;refine⟨?_,by rw[b];simp⟩;unfold Et;rw[F8 b]
theorem TM:(prog.info? 202).map (fun i=>i.size)=some 3:=by kernel_rfl
theorem QN (B:Nat)(s:ByteArray)(a d e j:Nat)(pv:Value)(w:World)(y:s.size≤1000)(h:RR B s a d e j pv w) :
 Calls prog 141 #[C1 B] w fun r w'=>∃v:V,r=.returned (.agg #[.bool (uB v),.int .i64 (uN v),.string ⟨(uS v).toArray⟩])∧((xW (e,a) (xX (Et s))).1=0→v=Iz s a)∧RQ B s d j pv w (xW (e,a) (xX (Et s))) w':=by
 have hB:=Aa h.2;have L:=Ae (h.alloc (.cells #[.bool false,.int .i64 0,.string ⟨#[]⟩] 202));have H:xR (Fr B none w (w.alloc (.cells #[.bool false,.int .i64 0,.string ⟨#[]⟩] 202))):=(Fr.refl B none w).alloc _;have I:xR (C2 (w.alloc (.cells #[.bool false,.int .i64 0,.string ⟨#[]⟩] 202)) w.heap.size #[.bool false,.int .i64 0,.string ⟨#[]⟩] 202):=heap_alloc_new w _;clear h;go_enter func141,ntmps141;go_wp21;go_call I5 B s a d e j 97 122 97 122 pv _ y (by omega) rfl rfl L.o as r w1 ⟨rfl,p1,u⟩;have J:=Ae p1;clear p1;cases k:sn s e 97 122 a
 ·have c:xR (xW (e,a) (xX (Et s))=xW (e,a) (xX (D1 s))∧(e=0→¬(Bj s a).1=true)):=by
   by_cases x:e=0
   ·subst x;have M:¬(97≤bt s a∧bt s a≤122):=(by unfold sn at k;simpa using k);obtain⟨f,m⟩:=LH M;refine⟨?_,fun _=>m⟩;rw[Bf,Bf];unfold xX;rw[f]
   exact⟨by rw[B7 x,B7 x],fun N=>absurd N x⟩
  clear k;go_wp21;go_call Wj B s a d e j pv _ y J.o as r z ⟨n,rfl,hv,e2,a2,o,p2,p⟩;have A:=Ae hv;have C:=Ae o;have q:=Ae p2;have g:=u.seq p;have b:=(g.block w.heap.size (by simp) (by omega) (by simp)).trans I.o;have D:=Af b 0;have c1:=Af b 1;have c2:=Af b 2;simp at D c1 c2;have O:=Am b 0;have P:=Am b 1;have Q:=Am b 2;have E:=Ae (H.o.seq g);have F:=Ae b;clear hv o p2 b g u p;have G:xR (C2 (((z.setCell ⟨w.heap.size,0,none⟩ (.bool true)).setCell ⟨w.heap.size,1,none⟩ (.int .i64 n)).setCell ⟨w.heap.size,2,none⟩ (.string ⟨#[]⟩)) w.heap.size #[.bool true,.int .i64 n,.string ⟨#[]⟩] 202):=by show _=_;rw[A0 (A0 (A0 F.o 0 _) 1 _) 2 _];rfl
  go_wp21;refine bodyPost_ret (results_cell_row rfl _ _ w.heap.size 202 #[.bool true,.int .i64 n,.string ⟨#[]⟩] (0,0) _ rfl G.o underlying202 rfl (by exact TM)) rfl ?_;have i:B≠w.heap.size:=by omega
  refine⟨.num n,rfl,fun l=>?_,e2,a2,c.o.1.trans C.o,⟨q.o.1,((Below.heap_setCell _ _ _ _ i).trans ((Below.heap_setCell _ _ _ _ i).trans (Below.heap_setCell _ _ _ _ i))).trans q.o.2⟩,((E.o.Pp (tY _) _).Pp (tY _) _).Pp (tY _) _⟩;rw[c.o.1] at l;have f:=A.o l;have m:=(Fa l).1;unfold Iz;rw[if_neg (c.o.2 m),f]
 have K:=Mz k;obtain rfl:=K9 k;have c:xR (xW (0,a) (xX (Et s))=xW (0,a) (xX (Bj s))∧(Bj s a).1=true):=by obtain⟨f,m⟩:=LG K;refine⟨?_,m⟩;rw[Bf,Bf];unfold xX;rw[f]
 clear k K;go_wp21;go_call La B s a d 0 j pv _ y J.o as r z ⟨t,rfl,hv,e2,a2,o,p2,p⟩;have A:=Ae hv;have C:=Ae o;have q:=Ae p2;have g:=u.seq p;have b:=(g.block w.heap.size (by simp) (by omega) (by simp)).trans I.o;have D:=Af b 0;have c1:=Af b 1;have c2:=Af b 2;simp at D c1 c2;have O:=Am b 0;have P:=Am b 1;have Q:=Am b 2;have E:=Ae (H.o.seq g);have F:=Ae b;clear hv o p2 b g u p;have G:xR (C2 (((z.setCell ⟨w.heap.size,0,none⟩ (.bool false)).setCell ⟨w.heap.size,1,none⟩ (.int .i64 0)).setCell ⟨w.heap.size,2,none⟩ (.string t)) w.heap.size #[.bool false,.int .i64 0,.string t] 202):=by show _=_;rw[A0 (A0 (A0 F.o 0 _) 1 _) 2 _];rfl
 go_wp21;refine bodyPost_ret (results_cell_row rfl _ _ w.heap.size 202 #[.bool false,.int .i64 0,.string t] (0,0) _ rfl G.o underlying202 rfl (by exact TM)) rfl ?_;have i:B≠w.heap.size:=by omega
 refine⟨.txt t.data.toList,rfl,fun l=>?_,e2,a2,c.o.1.trans C.o,⟨q.o.1,((Below.heap_setCell _ _ _ _ i).trans ((Below.heap_setCell _ _ _ _ i).trans (Below.heap_setCell _ _ _ _ i))).trans q.o.2⟩,((E.o.Pp (tY _) _).Pp (tY _) _).Pp (tY _) _⟩;rw[c.o.1] at l;have f:=A.o l;unfold Iz;rw[if_pos c.o.2,f];rfl
variable {Z:Nat→Prop}
theorem Fr.kept {B:Nat}{w w':World}(h:Fr B none w w'):Ab (fun k=>k=B) w w':=⟨h.os,h.tape,h.output,h.size,fun k a b=>h.block k a b (by simp)⟩
def Rj (s:ByteArray)(R:Option (Row×Nat))(e a:Nat)(on:Bool)(r:Row)(k:Nat):Prop :=
 (e≠0→R=none)∧(e=0→on=true→s.size+1≤a+k∧Ep s k a r=R)∧(e=0→on=false→r≠[]∧R=if bt s a=41 then some (r,a+1) else none)
theorem Rj.start (s:ByteArray)(e a:Nat)(h:e≠0→False):Rj s (Ep s (s.size+1) a []) e a true [] (s.size+1):=⟨fun x=>(h x).elim,fun _ _=>⟨by omega,rfl⟩,fun _ x=>by cases x⟩
theorem LI {s:ByteArray}{k a:Nat}{r:Row}(h:¬(Et s a).1=true):Ep s k a r=none:=by
 cases k with
 |zero=>rfl
 |succ k=>unfold Ep;rw[if_neg h]
theorem TN {s:ByteArray}{k a:Nat}{r:Row}(h:(Et s a).1=true):Ep s (k+1) a r=if bt s (Et s a).2=44 then Ep s k ((Et s a).2+1) (r++[Iz s a]) else if bt s (Et s a).2=41 then some (r++[Iz s a],(Et s a).2+1) else none:=by
 rw[Ep,if_pos h]
theorem TO {s:ByteArray}{a:Nat}(h:(Et s a).1=true)(d:a≤s.size):a<(Et s a).2∧(Et s a).2≤s.size:=by
 by_cases e:97≤bt s a∧bt s a≤122
 ·obtain⟨b,f⟩:=LG e;rw[b];have c:Bj s a=(true,(Bj s a).2):=Prod.ext f rfl;have:=Ro (by omega) d c;exact⟨this.1,this.2.1⟩
 obtain⟨b,f⟩:=LH e;rw[b] at h⊢;have c:D1 s a=(true,(D1 s a).2):=Prod.ext h rfl;have:=Qm d c;exact⟨this.1,this.2.1⟩
theorem Rj.step {s:ByteArray}{R:Option (Row×Nat)}{a k e1 a1:Nat}{r:Row}{v:V}(h:Rj s R 0 a true r (k+1))(m:a≤s.size)(c:xW (0,a) (xX (Et s))=(e1,a1))(hv:e1=0→v=Iz s a) :
 ((sn s e1 44 44 a1=true)→Rj s R e1 (a1+1) true (r++[v]) k)∧((sn s e1 44 44 a1=false)→Rj s R e1 a1 false (r++[v]) k):=by
 obtain⟨_,n,_⟩:=h;obtain⟨_,d⟩:=n rfl rfl;by_cases e:e1=0
 ·subst e;obtain⟨_,o,g⟩:=Fa (show (xW (0,a) (xX (Et s))).1=0 by rw[c]);rw[c] at g;have p:a1=(Et s a).2:=g;have i:(Et s a).1=true:=by rw[o]
  have u:=TO i m;rw[TN i,←p,←hv rfl] at d;refine⟨fun f=>⟨(fun b=>absurd rfl b),fun _ _=>⟨by omega,?_⟩,fun _ b=>by cases b⟩,fun f=>⟨(fun b=>absurd rfl b),(fun _ b=>by cases b),fun _ _=>⟨by simp,?_⟩⟩⟩
  ·have j:=Mz f;rw[if_pos (by omega)] at d;exact d
  have j:¬bt s a1=44:=fun q=>by unfold sn at f;simp[q] at f
  rw[if_neg j] at d;exact d.symm
 have l:R=none:=by rw[←d];refine LI fun t=>e ?_;rw[Bf] at c;unfold xX at c;rw[if_pos t] at c;injection c with c _;exact c.symm
 exact⟨fun _=>⟨fun _=>l,(fun b=>absurd b e),fun b=>absurd b e⟩,fun _=>⟨fun _=>l,(fun b=>absurd b e),fun b=>absurd b e⟩⟩
theorem Rj.last {s:ByteArray}{R:Option (Row×Nat)}{e a k e3 a3:Nat}{on:Bool}{r:Row}(h:Rj s R e a on r k)(j:e=0→on=false)(b:xW (e,a) (xX (tk s 41))=(e3,a3)):(e3=0→r≠[]∧R=some (r,a3))∧(e3≠0→R=none):=by
 obtain⟨l,_,m⟩:=h;by_cases d:e=0
 ·subst d;obtain⟨n,f⟩:=m rfl (j rfl);rw[Bf] at b;unfold xX tk at b;by_cases g:bt s a=41
  ·rw[if_pos g] at b f;injection b with b i;refine⟨fun _=>⟨n,?_⟩,fun c=>absurd b.symm c⟩;rw[f,←i]
  rw[if_neg g] at b f;injection b with b i;exact⟨(fun c=>by rw[c] at b;cases b),fun _=>f⟩
 rw[B7 d] at b;injection b with b _;exact⟨fun c=>absurd (b.trans c) d,fun _=>l d⟩
theorem LJ {s:ByteArray}:∀{k a:Nat} {r0 r:Row} {d:Nat},Ep s k a r0=some (r,d)→a≤s.size→a<d∧d≤s.size
 |0,_,_,_,_,h,_=>by cases h
 |k+1,a,r0,r,d,h,e=>by
  by_cases hv:(Et s a).1=true
  ·rw[TN hv] at h;have f:=TO hv e;by_cases b:bt s (Et s a).2=44
   ·rw[if_pos b] at h;have:=Cu (s:=s) (a:=(Et s a).2) (by omega);have:=LJ h (by omega);omega
   rw[if_neg b] at h;by_cases c:bt s (Et s a).2=41
   ·rw[if_pos c] at h;have:=Cu (s:=s) (a:=(Et s a).2) (by omega);injection h with h;injection h with _ h;omega
   rw[if_neg c] at h;cases h
  rw[LI hv] at h;cases h
def Sq (s:ByteArray)(e a:Nat)(more:Bool)(os:List He)(k:Nat):Prop :=
 (e≠0→Da s=none)∧(more=true→e=0∧s.size+1≤a+k∧Ec s k a os=Da s)∧(e=0→more=false→Da s=if a=s.size then some os else none)
theorem Sq.start {s:ByteArray}(h:s.size≠0):Sq s 0 0 true [] (s.size+1):=⟨(fun x=>absurd rfl x),fun _=>⟨rfl,by omega,by unfold Da;rw[if_neg h]⟩,fun _ x=>by cases x⟩
theorem Sq.step {s:ByteArray}{a k e1 a1 e2 a2 e3 a3 e5 a5:Nat}{os:List He}{plus:Bool}{t:ByteArray}{r:Row}(h:Sq s 0 a true os (k+1))(hp:sn s 0 43 43 a=plus)(m:(plus=true→(e1,a1)=(0,a+1))∧(plus=false→xW (0,a) (xX (tk s 45))=(e1,a1)))
 (g:xW (e1,a1) (xX (Bj s))=(e2,a2)) (H:e2=0→t=s.extract a1 (Bj s a1).2) (i:xW (e2,a2) (xX (tk s 40))=(e3,a3)) (E:e3=0→(e5=0→r≠[]∧Ep s (s.size+1) a3 []=some (r,a5))∧(e5≠0→Ep s (s.size+1) a3 []=none)) (I:e3≠0→e5≠0) :
 ((sn s e5 59 59 a5=true)→Sq s e5 (a5+1) true (os++[⟨t.data.toList,r,if plus=true then 1 else -1⟩]) k)∧((sn s e5 59 59 a5=false)→Sq s e5 a5 false (os++[⟨t.data.toList,r,if plus=true then 1 else -1⟩]) k):=by
 obtain⟨_,v,_⟩:=h;obtain⟨_,_,n⟩:=v rfl;rw[Ec] at n;by_cases l:e5=0
 ·have J:e3=0:=Classical.byContradiction fun c=>I c l;subst J l;obtain⟨w,K,L⟩:e2=0∧bt s a2=40∧a3=a2+1:=by
   obtain⟨M,z,o⟩:=Fa (show (xW (e2,a2) (xX (tk s 40))).1=0 by rw[i]);rw[i] at o;unfold tk at z o;by_cases b:bt s a2=40
   ·rw[if_pos b] at o;exact⟨M,b,o⟩
   rw[if_neg b] at z;cases z
  subst w;obtain⟨A,F,G⟩:=Fa (show (xW (e1,a1) (xX (Bj s))).1=0 by rw[g]);rw[g] at G;subst A;have p:a2=(Bj s a1).2:=G;have N:a1=a+1∧(bt s a=43∨bt s a=45)∧D7 s a=if plus=true then 1 else -1:=by
   cases plus with
   |true =>have b:=Mz hp;have:=m.1 rfl;injection this with _ this;exact⟨this,.inl (by omega),by unfold D7;rw[if_pos (by omega)];rfl⟩
   |false =>
    have b:¬bt s a=43:=fun B=>(by unfold sn at hp;simp[B] at hp);have x:=m.2 rfl;rw[Bf] at x;unfold xX tk at x;by_cases C:bt s a=45
    ·rw[if_pos C] at x;injection x with _ x;exact⟨x.symm,.inr C,by unfold D7;rw[if_neg b];rfl⟩
    rw[if_neg C] at x;injection x with x _;cases x
  obtain⟨O,q,P⟩:=N;subst O;obtain⟨r1,r2⟩:=(E rfl).1 rfl;have Q:(Bj s (a+1)).1=true:=by rw[F]
  have R:Ia s (a+1) (Bj s (a+1)).2=t.data.toList:=by rw[H rfl];rfl
  rw[if_pos q,if_pos Q,←p,if_pos K,←L,r2] at n;have f:(if a5=s.size then some (os++[⟨Ia s (a+1) a2,r,D7 s a⟩]) else if bt s a5=59 then Ec s k (a5+1) (os++[⟨Ia s (a+1) a2,r,D7 s a⟩]) else none)=Da s:=n;rw[p,R,P] at f;have Z:=(Ro (by omega) (by have b:bt s a≠0:=(by omega);have:=Cu b;omega) (show Bj s (a+1)=(true,(Bj s (a+1)).2) from F)).1;refine⟨fun j=>⟨(fun d=>absurd rfl d),fun _=>⟨rfl,?_,?_⟩,fun _ d=>by cases d⟩,fun j=>⟨(fun d=>absurd rfl d),(fun d=>by cases d),fun _ _=>?_⟩⟩
  ·have aa:=LJ r2 (by have:=Cu (s:=s) (a:=a2) (by omega);omega);omega
  ·have b:=Mz j;have S:¬a5=s.size:=fun e=>(by have:=Cu (s:=s) (a:=a5) (by omega);omega);rw[if_neg S,if_pos (by omega)] at f;exact f
  by_cases u:a5=s.size
  ·rw[if_pos u] at f;rw[if_pos u];exact f.symm
  have b:¬bt s a5=59:=fun T=>by unfold sn at j;simp[T] at j
  rw[if_neg u,if_neg b] at f;rw[if_neg u];exact f.symm
 have U:Da s=none:=by
  rw[←n];by_cases q:bt s a=43∨bt s a=45
  ·rw[if_pos q];have A:e1=0∧a1=a+1:=by
    cases plus with
    |true=>have:=m.1 rfl;injection this with V v;exact⟨V,v⟩
    |false =>have b:¬bt s a=43:=fun B=>(by unfold sn at hp;simp[B] at hp);have x:=m.2 rfl;rw[Bf] at x;unfold xX tk at x;have W:bt s a=45:=(by omega);rw[if_pos W] at x;injection x with x y;exact⟨x.symm,y.symm⟩
   obtain⟨rfl,rfl⟩:=A;by_cases D:(Bj s (a+1)).1=true
   ·rw[if_pos D];rw[Bf] at g;unfold xX at g;rw[if_pos D] at g;injection g with w p;subst w p;by_cases b:bt s (Bj s (a+1)).2=40
    ·rw[if_pos b];rw[Bf] at i;unfold xX tk at i;rw[if_pos b] at i;injection i with X Y;subst X Y;rw[(E rfl).2 l]
    rw[if_neg b]
   rw[if_neg D]
  rw[if_neg q]
 exact⟨fun j=>absurd (K9 j) l,fun _=>⟨fun _=>U,(fun d=>by cases d),fun d=>absurd d l⟩⟩
end
section
variable {Z:Nat→Prop}
theorem pF:(prog.info? 213).map (fun i=>(i.zero,i.size,i.bytes))=some (some (.agg #[.bool false,.string ⟨#[]⟩,.slice none 0 0]),3,48):=by kernel_rfl
structure BS (B:Nat) (s:ByteArray) (g:Nat) (w0:World) (e a:Nat) (p0 p1 p2:Value) (w:World):Prop where
 rr:RR B s a 0 e 0 (.slice none 0 0) w
 blk:w.heap[g]? =some (.cells #[p0,p1,p2] 213 (0,0))
 kp:Ab (fun k=>k=B) w0 w
 hg:w0.heap.size≤g
 hB:B<w0.heap.size
section
variable {B:Nat} {s:ByteArray} {g:Nat} {w0:World} {e a:Nat} {p0 p1 p2:Value} {w w':World}
theorem BS.next {b a':Nat}(h:BS B s g w0 e a p0 p1 p2 w)(p:RR B s a' 0 b 0 (.slice none 0 0) w')(f:Fr B none w w'):BS B s g w0 b a' p0 p1 p2 w' :=
 ⟨p,(f.block g (Aa h.blk) (by have:=h.hg;have:=h.hB;omega) (by simp)).trans h.blk,h.kp.seq f.kept,h.hg,h.hB⟩
theorem BS.pG (h:BS B s g w0 e a p0 p1 p2 w)(i:Nat)(v:Value):Ab (fun k=>k=B) w0 (w.setCell ⟨g,i,none⟩ v):=by
 refine⟨h.kp.os,h.kp.tape,h.kp.output,?_,fun k b c=>?_⟩
 ·have:=h.kp.size;simpa [World.setCell] using this
 exact (Below.heap_setCell _ _ _ _ (by show k≠g;have:=h.hg;omega)).trans (h.kp.block k b c)
theorem BS.pH (h:BS B s g w0 e a p0 p1 p2 w)(i:Nat)(v:Value):RR B s a 0 e 0 (.slice none 0 0) (w.setCell ⟨g,i,none⟩ v):=⟨h.rr.1,(Below.heap_setCell _ _ _ _ (by show B≠g;have:=h.hg;have:=h.hB;omega)).trans h.rr.2⟩
theorem BS.pI (h:BS B s g w0 e a p0 p1 p2 w)(v:Value):BS B s g w0 e a v p1 p2 (w.setCell ⟨g,0,none⟩ v):=⟨h.pH 0 v,by rw[A0 h.blk];rfl,h.pG 0 v,h.hg,h.hB⟩
theorem BS.rK (h:BS B s g w0 e a p0 p1 p2 w)(v:Value):BS B s g w0 e a p0 v p2 (w.setCell ⟨g,1,none⟩ v):=⟨h.pH 1 v,by rw[A0 h.blk];rfl,h.pG 1 v,h.hg,h.hB⟩
theorem BS.rL (h:BS B s g w0 e a p0 p1 p2 w)(v:Value):BS B s g w0 e a p0 p1 v (w.setCell ⟨g,2,none⟩ v):=⟨h.pH 2 v,by rw[A0 h.blk];rfl,h.pG 2 v,h.hg,h.hB⟩
theorem BS.alloc (h:BS B s g w0 e a p0 p1 p2 w)(o:Obj):BS B s g w0 e a p0 p1 p2 (w.alloc o):=⟨h.rr.alloc o,(Below.heap_alloc _ _ _ (Aa h.blk)).trans h.blk,h.kp.alloc o,h.hg,h.hB⟩
theorem BS.grown {row:Option Nat}(h:BS B s g w0 e a p0 p1 p2 w)(b:w.grownBy w' row)(c:some B≠row)(d:some g≠row)(f:∀r,row=some r→w0.heap.size≤r):BS B s g w0 e a p0 p1 p2 w' :=
 ⟨h.rr.grown b c,(b.block g (Aa h.blk) d).trans h.blk,h.kp.grown b (fun r e=>.inl (f r e)),h.hg,h.hB⟩
end
def CL (base:Nat)(w:World)(xs:List Value)(os:List He):Prop:=∀i o,os[i]? =some o→∃p n c,xs[i*3]? =some (.bool (decide (o.t=1)))∧xs[i*3+1]? =some (.string ⟨o.name.toArray⟩)∧xs[i*3+2]? =some (.slice p n c)∧w.ownsRow base 202 3 (.slice p n c) o.row.length (o.row.flatMap Ir)
theorem YF {S:Nat→Prop}{w w':World}{base:Nat}{e:TypeId}{size:Nat}{v:Value}{n:Nat}{xs:List Value}(h:w.ownsRow base e size v n xs)(k:Ab S w w')(b:∀i,S i→¬Is e w i):w'.ownsRow base e size v n xs:=by
 refine⟨h.1,?_⟩;rcases h.2 with hn|⟨g,cap,a,rfl,c,hg,d⟩
 ·exact .inl hn
 exact .inr ⟨g,cap,a,rfl,c,(k.block g (Aa hg) (fun s=>b g s ⟨a,(0,0),hg⟩)).trans hg,d⟩
theorem CL.kept {S:Nat→Prop}{base:Nat}{w w':World}{xs:List Value}{os:List He}(h:CL base w xs os)(k:Ab S w w')(a:∀i,S i→¬Is 202 w i):CL base w' xs os:=fun i o ho=>by
 obtain⟨p,n,c,b,d,e,f⟩:=h i o ho;exact⟨p,n,c,b,d,e,YF f k a⟩
theorem CL.push {base:Nat}{w:World}{xs:List Value}{os:List He}(h:CL base w xs os)(d:xs.length=os.length*3){o:He}{p:Option Addr}{n c:Nat}(hr:w.ownsRow base 202 3 (.slice p n c) o.row.length (o.row.flatMap Ir)){b:Bool}(j:b=decide (o.t=1)){t:ByteArray}(k:t=⟨o.name.toArray⟩):CL base w (xs++[.bool b,.string t,.slice p n c]) (os++[o]):=fun i x a=>by
 by_cases hi:i<os.length
 ·rw[uD hi] at a;obtain⟨l,m,q,e,f,g,r⟩:=h i x a;refine⟨l,m,q,?_,?_,?_,r⟩
  ·rw[uD (tR.1 e).1];exact e
  ·rw[uD (tR.1 f).1];exact f
  rw[uD (tR.1 g).1];exact g
 rw[uC (by omega)] at a;have s:i-os.length=0:=by have:=(tR.1 a).1;simp at this;omega
 rw[s] at a;have u:o=x:=by simpa using a
 subst u;have v:i=os.length:=by omega
 subst v;refine⟨p,n,c,?_,?_,?_,hr⟩
 ·rw[uC (by omega),d,show os.length*3-os.length*3=0 by omega,j];rfl
 ·rw[uC (by omega),d,show os.length*3+1-os.length*3=1 by omega,k];rfl
 rw[uC (by omega),d,show os.length*3+2-os.length*3=2 by omega];rfl
def U2 (Z:Nat→Prop)(w:World)(v:Value)(os:List He):Prop:=∃a cap,v=.slice a os.length cap∧os.length≤cap∧cap≤maxLen ∧
 ∀i o,os[i]? =some o→∃b f p n c,a=some ⟨b,f,none⟩∧b<w.heap.size∧w.cell? ⟨b,f+i*3,none⟩=some (.bool (decide (o.t=1)))∧w.cell? ⟨b,f+i*3+1,none⟩=some (.string ⟨o.name.toArray⟩)∧w.cell? ⟨b,f+i*3+2,none⟩=some (.slice p n c)∧Ee Z w (.slice p n c) o.row
theorem U2.Ag {w w':World}{v:Value}{os:List He}(h:U2 Z w v os)(k:Ab No w w'):U2 Z w' v os:=by
 obtain⟨a,cap,e,g,j,l⟩:=h;refine⟨a,cap,e,g,j,fun i o ho=>?_⟩;obtain⟨b,f,p,n,c,e1,d,m,c1,c2,hr⟩:=l i o ho;exact⟨b,f,p,n,c,e1,tU d k.size,(k.cell d xT).trans m,(k.cell d xT).trans c1,(k.cell d xT).trans c2,hr.Ag k⟩
theorem eZ {base:Nat}{w:World}{v:Value}{n:Nat}{xs:List Value}{os:List He}(h:w.ownsRow base 213 3 v n xs)(e:n=os.length)(b:CL base w xs os)(f:∀k,Z k→k<base):U2 Z w v os:=by
 subst e;rcases h with ⟨_,⟨rfl,j⟩|⟨g,cap,_,rfl,_,hg,l,m,_,q⟩⟩
 ·have:os=[]:=uM j;subst this;exact⟨none,0,rfl,by simp,by simp,fun i c b=>by simp at b⟩
 refine⟨some ⟨g,0,none⟩,cap,rfl,l,m,fun i o ho=>?_⟩;obtain⟨p,n,c,e1,e2,e3,e4⟩:=b i o ho;have key:∀k d,xs[k]? =some d→C3 w g (0+k) d:=fun k d a=>by
  rw[←q,uQ] at a;split at a
  ·show _=_;rw[Af hg,uL,←uZ];exact a
  cases a
 exact⟨g,0,p,n,c,rfl,Aa hg,key _ _ e1,key _ _ e2,key _ _ e3,Ee.I1 f e4⟩
end
theorem Rk {w:World}{base:Nat}{e:TypeId}{size:Nat}{v:Value}{n:Nat}{xs:List Value}(h:w.ownsRow base e size v n xs)(_:0<n):∃a c,v=.slice a n c:=by
 rcases h.2 with ⟨_,_⟩|⟨g,cap,cur,e,_⟩
 ·omega
 exact⟨_,_,e⟩
theorem Wq (W:World)(o:Obj)(a v b:Value)(t:TypeId):∀j x,[a,v,b][j]? =some x→((W.alloc o).alloc (.cells #[a,v,b] t)).cell? ((⟨W.heap.size+1,0,none⟩:Addr).add j)=some x:=by
 have h:=Fi (W.alloc o) a v b t;rw[show (W.alloc o).heap.size=W.heap.size+1 by simp] at h;exact h
def Xj (s:ByteArray)(w:World)(v:Value)(ok:Bool)(w':World):Prop:=(Da s=none→ok=false)∧∀os,Da s=some os→ok=true∧∀Z,Gq Z w→U2 Z w' v os
theorem YG (s:ByteArray)(w:World)(_:s.size≤300) :
 Calls prog 94 #[.string s] w fun u w'=>∃bk n c ok,u=.returned (.tuple #[.slice bk n c,.bool ok])∧Xj s w (.slice bk n c) ok w'∧Ab No w w':=by
 by_cases F:s.size=0
 ·have bl:xR (Da s=some []):=by show _=_;unfold Da;rw[if_pos F]
  obtain rfl:s=⟨#[]⟩:=by apply ByteArray.ext;exact Array.eq_empty_of_size_eq_zero F
  clear F;go_enter func94,ntmps94;go_wp21;go_ret2;refine⟨none,0,0,true,rfl,?_,Ab.refl _ _⟩;refine⟨(fun e=>by rw[bl.o] at e;cases e),fun os e=>⟨rfl,fun Z _=>?_⟩⟩;rw[bl.o] at e;injection e with e;subst e;exact⟨none,0,rfl,by simp,by simp,fun i c ch=>by simp at ch⟩
 have ci:s.toList.isEmpty=false:=by rw[List.isEmpty_eq_false_iff,ByteArray.toList_eq];intro e;apply F;rw[←M4,e];rfl
 have aq:xR (RR w.heap.size s 0 0 0 0 (.slice none 0 0) (w.alloc (.cells #[.string s,.int .i64 0,.int .i64 0,.int .i64 0,.int .i64 0,.slice none 0 0] 258))):=⟨by omega,heap_alloc_new w _⟩;have bm:xR (Ab No w (w.alloc (.cells #[.string s,.int .i64 0,.int .i64 0,.int .i64 0,.int .i64 0,.slice none 0 0] 258))):=(Ab.refl No w).alloc _;have cj:xR (Sq s 0 0 true [] (s.size+1)):=Sq.start F;obtain⟨ck,cl,cm,cn,co⟩:=info_parts FL;obtain⟨cp,cq,cr,cs,ct⟩:=info_parts pF;have d4:=Ae F;clear F;go_enter func94,ntmps94;go_wp21;obtain⟨B,hB⟩:∃B,w.heap.size=B:=⟨_,rfl⟩;have d5:=hB;rw[hB] at aq⊢;obtain⟨ar,au⟩:∃ar,w.alloc (.cells #[.string s,.int .i64 0,.int .i64 0,.int .i64 0,.int .i64 0,.slice none 0 0] 258)=ar:=⟨_,rfl⟩;rw[au] at aq bm⊢;have d6:B<ar.heap.size:=by rw[←au,←hB];simp
 clear au hB ci;go_loopg [4,6] (s.size+1) (fun k bn bo wr=>∃(e a:Nat) (ag:Bool) (os:List He) (n:Nat) (xs:List Value) (va:Option Addr) (l:Nat),n+k≤s.size+1∧bo=.bool ag∧bn=.slice va n l∧xR (Sq s e a ag os k)∧xR (RR B s a 0 e 0 (.slice none 0 0) wr)∧xR (wr.ownsRow (B+1) 213 3 (.slice va n l) n xs)∧xR (e=0→n=os.length∧CL (B+1) wr xs os)∧xR (Ab No w wr))
 case atStart=>exact⟨0,0,true,[],0,[],none,0,by omega,rfl,rfl,cj,aq,World.ownsRow_nil _ _ _ _,Ae (fun _=>⟨rfl,fun i o ho=>by simp at ho⟩),bm⟩
 obtain⟨e,a,ag,os,n,xs,va,l,_,rfl,rfl,T,I,hO,av,z⟩:=hrel;cases ag with
 |false =>
  have c1:=I.o.c1;have d7:=I.o.c3;have d8:=I.o.1;by_cases U:e=0
  ·subst U;by_cases V:a=s.size
   ·have cu:((a:Int) == (s.size:Int))=true:=(by simp[V]);have X:xR (∀W,Ab No wr W→Xj s w (.slice va n l) true W):=(by intro W aw;have j:=T.o.2.2 rfl rfl;rw[if_pos V] at j;refine⟨(fun e=>by rw[j] at e;cases e),fun bp e=>⟨rfl,fun Z cv=>?_⟩⟩;rw[j] at e;injection e with e;subst e;exact (eZ hO.o (av.o rfl).1 (av.o rfl).2 (fun k d=>by have:=cv k d;omega)).Ag aw);clear V;go_wp21;go_quiet (fail);go_wp21;go_ret2;exact⟨_,_,_,true,rfl,X.o _ ((Ab.refl No wr).drewN _),z.o.drewN _⟩
   have cu:((a:Int) == (s.size:Int))=false:=(by simp;omega);have X:xR (∀W,Ab No wr W→Xj s w (.slice va n l) false W):=(by intro W aw;have j:=T.o.2.2 rfl rfl;rw[if_neg V] at j;exact⟨fun _=>rfl,fun bp e=>by rw[j] at e;cases e⟩);clear V;go_wp21;go_quiet (fail);go_wp21;go_ret2;exact⟨_,_,_,false,rfl,X.o _ ((Ab.refl No wr).drewN _),z.o.drewN _⟩
  have cw:((e:Int) == 0)=false:=by simp;omega
  have X:xR (∀W,Ab No wr W→Xj s w (.slice va n l) false W):=by intro W aw;have j:=T.o.1 U;exact⟨fun _=>rfl,fun bp e=>by rw[j] at e;cases e⟩
  clear U;go_wp21;go_quiet (fail);go_wp21;go_ret2;exact⟨_,_,_,false,rfl,X.o _ ((Ab.refl No wr).drewN _),z.o.drewN _⟩
 |true =>
  obtain⟨U,_,_⟩:=T.o.2.1 rfl;subst U;have cx:=Ae (av.o rfl);obtain⟨k,rfl⟩:∃k,gk=k+1:=⟨gk-1,by have:=I.o.1;omega⟩;obtain⟨f,cy⟩:∃f,f=wr:=⟨_,rfl⟩;subst cy;have cz:=Aa I.o.2;have ax:xR (BS B s f.heap.size f 0 a (.bool false) (.string ⟨#[]⟩) (.slice none 0 0) (f.alloc (.cells #[.bool false,.string ⟨#[]⟩,.slice none 0 0] 213))):=⟨I.o.alloc _,heap_alloc_new f _,(Ab.refl _ _).alloc _,tY _,cz⟩;have d9:¬B=f.heap.size:=by omega
  go_wp21;go_call R5 B s a 0 0 0 43 43 (.slice none 0 0) _ (by omega) (by omega) rfl ax.o.rr as u w1 ⟨plus,a1,rfl,c0,ah,p1,bq⟩;have G:=Ae (ax.o.next p1 bq);clear p1 bq ax;have ai:=Af G.o.blk 0;have J:=Af G.o.blk 1;have b2:=Af G.o.blk 2;simp at ai J b2;have ea:=Am G.o.blk 0;have A:(!plus)=false∨(!plus)=true:=by cases plus <;> simp
  rcases A with A|A
  focus
   obtain rfl:a1=a+1:=(by cases plus;cases A;exact ah);have aj:=Ae (G.o.pI (.bool plus));have ay:xR ((plus=true→((0:Nat),a+1)=(0,a+1))∧(plus=false→xW (0,a) (xX (tk s 45))=(0,a+1))):=⟨fun _=>rfl,fun d=>by rw[d] at A;cases A⟩;clear ah
  rotate_left
  focus
   obtain rfl:a1=a:=(by cases plus;exact ah;cases A);go_wp21;go_call Il B s a1 0 0 0 45 45 (.slice none 0 0) _ (by omega) (by omega) rfl (G.o.pI (.bool plus)).rr as u eb ⟨_,rfl,e2,a2,br,p2,bs⟩;have aj:=Ae ((G.o.pI (.bool plus)).next p2 bs);have ay:xR ((plus=true→(e2,a2)=(0,a1+1))∧(plus=false→xW (0,a1) (xX (tk s 45))=(e2,a2))):=⟨(fun d=>by rw[d] at A;cases A),fun _=>br⟩;clear br p2 bs ah
  all_goals
   clear G;go_wp21;go_call La B s _ 0 _ 0 (.slice none 0 0) _ (by omega) aj.o.rr as u w3 ⟨t,rfl,bt,e3,a3,bu,bv,bw⟩;have S3:=Ae (aj.o.next bv bw);have c2:=Ae bt;have bx:=Ae bu;clear bt bu bv bw aj;have J:=Af S3.o.blk 1;simp at J;have c3:=Am S3.o.blk 1;go_wp21;go_call Il B s a3 0 e3 0 40 40 (.slice none 0 0) _ (by omega) (by omega) rfl (S3.o.rK (.string t)).rr as u w4 ⟨bn,rfl,e4,a4,bz,b0,b1⟩;have c4:=Ae ((S3.o.rK (.string t)).next b0 b1);have c5:=Ae bz;have c6:xR (Rj s (if e4=0 then Ep s (s.size+1) a4 [] else none) e4 a4 true [] (s.size+1)):=(by refine⟨fun d=>if_neg d,fun d _=>⟨by omega,(if_pos d).symm⟩,fun _ d=>by cases d⟩);clear bz b0 b1 S3 J c3;go_wp21;go_loopg [8] (s.size+1) (fun Y az b3=>∃(e5 a5:Nat) (on:Bool) (r:Row) (rp:Option Addr) (C D:Nat),az=.bool on∧r.length+Y≤s.size+1∧xR (BS B s f.heap.size f e5 a5 (.bool plus) (.string t) (.slice rp C D) b3)∧xR (b3.ownsRow (f.heap.size+1) 202 3 (.slice rp C D) r.length (r.flatMap Ir))∧xR (Rj s (if e4=0 then Ep s (s.size+1) a4 [] else none) e5 a5 on r Y))
   case atStart=>exact⟨e4,a4,true,[],none,0,0,rfl,by simp,c4,World.ownsRow_nil _ _ _ _,c6⟩
   obtain⟨e5,a5,on,r,rp,C,D,rfl,_,S5,aa,ab⟩:=hrel;have c7:=S5.o.rr.c3;by_cases hg:on=true∧e5=0
   ·obtain⟨rfl,rfl⟩:=hg;obtain⟨Y,rfl⟩:∃k,gk=k+1:=⟨gk-1,by have:=(ab.o.2.1 rfl rfl).1;have:=S5.o.rr.1;omega⟩;have c8:=Ae ab.o;clear ab;go_wp21;go_call QN B s a5 0 0 0 (.slice none 0 0) _ (by omega) S5.o.rr as u w6 ⟨v,rfl,hv,p,E,x6,ac,K⟩;have h:=Ae (S5.o.next ac K);have O:=A4 aa.o K.kept (fun b m d=>by have:=Bl aa.o b m;omega);have c9:=Ae hv;have b4:=Ae x6;clear hv x6 ac K c7;have b2:=Af h.o.blk 2;simp at b2;have da:=Aa h.o.blk;have db:=Ae ((h.o.alloc (.cells #[.bool (uB v),.int .i64 (uN v),.string ⟨(uS v).toArray⟩] 202)).alloc (.cells #[.bool (uB v),.int .i64 (uN v),.string ⟨(uS v).toArray⟩] 202));have a0:∀q,Value.ownBlock (.slice rp C D)=some q→f.heap.size+1≤q:=fun q e=>Bl O q e;have dc:some B≠Value.ownBlock (.slice rp C D):=fun x=>(by have:=a0 B x.symm;omega);have dd:some f.heap.size≠Value.ownBlock (.slice rp C D):=fun x=>(by have:=a0 _ x.symm;omega);have a6:r.length+1≤maxLen:=(by unfold maxLen;omega);have a7:(r.length+1)*32≤140737488355328:=(by omega);have ec:=h.o.kp.size;go_wp2_with (first
     |(at_builtin;refine wpList_append_own_at _ rfl _ _ 211 rfl (f.heap.size+1) 202 ck (.agg #[.bool false,.int .i64 0,.string ⟨#[]⟩]) 3 32 underlying211 cl cm cn co rfl (by decide) _ _ _ rfl ((O.alloc _).alloc _) ⟨w6.heap.size+1,0,none⟩ 1 1 [.bool (uB v),.int .i64 (uN v),.string ⟨(uS v).toArray⟩] rfl rfl (Wq w6 _ _ _ _ _) (by simp[Value.oneCell']) a6 a7 (by simp;omega) ?_;intro az ad P b5 _ _;obtain⟨Q,R,rfl⟩:∃a c,az=.slice a (r.length+1) c:=Rk P (by omega);have ak:=Ae (db.o.grown b5 dc dd (fun q e=>by have:=a0 q e;omega));have b6:=Af ak.o.blk 2;simp at b6;have de:=Am ak.o.blk 2)
     |fail)
    have b7:(ad.setCell ⟨f.heap.size,2,none⟩ (.slice Q (r.length+1) R)).ownsRow (f.heap.size+1) 202 3 (.slice Q (r.length+1) R) (r.length+1) (r.flatMap Ir++[.bool (uB v),.int .i64 (uN v),.string ⟨(uS v).toArray⟩]):=by
     obtain⟨a8,L⟩:=P;refine⟨a8,?_⟩;rcases L with L|⟨g,cap,ae,e,b8,hg,a9⟩
     ·exact .inl L
     exact .inr ⟨g,cap,ae,e,b8,(Below.heap_setCell _ _ _ _ (by show g≠f.heap.size;omega)).trans hg,a9⟩
    have b9:=Ae b7;clear P b7 b5 O b2 da b6 de;go_call R5 B s E 0 p 0 44 44 (.slice none 0 0) _ (by omega) (by omega) rfl (ak.o.rL (.slice Q (r.length+1) R)).rr as u df ⟨ba,al,rfl,bb,bc,ca,bd⟩;have dg:=Ae ((ak.o.rL (.slice Q (r.length+1) R)).next ca bd);have dh:xR (df.ownsRow (f.heap.size+1) 202 3 (.slice Q (r.length+1) R) (r++[v]).length ((r++[v]).flatMap Ir)):=(by have j:=A4 b9.o bd.kept (fun b m d=>by have:=Bl b9.o b m;omega);rw[vR,tS];have e5:[v].flatMap Ir=[.bool (uB v),.int .i64 (uN v),.string ⟨(uS v).toArray⟩]:=(by simp[Uz]);rw[e5];exact j);have M:=c8.o.step (v:=v) S5.o.rr.1 b4.o (fun d=>c9.o (by rw[b4.o];exact d));have di:xR (Rj s (if e4=0 then Ep s (s.size+1) a4 [] else none) p al ba (r++[v]) Y):=by
     have af:=bb.o;cases ba with
     |true=>rw[show al=E+1 from bc];exact M.1 af
     |false=>rw[show al=E from bc];exact M.2 af
    clear M ca bd bc;go_wp21;go_roundg Y
    case measure=>omega
    exact⟨p,al,ba,r++[v],Q,r.length+1,R,rfl,by rw[tS,vD];omega,dg,dh,di⟩
   have cb:xR (e5=0→on=false):=fun d=>by
    cases on
    ·rfl
    exact absurd ⟨rfl,d⟩ hg
   clear hg;cases on
   focus
    go_wp21
   rotate_left
   focus
    have cw:((e5:Int) == 0)=false:=(by simp;intro d;have:=cb.o (by omega);cases this);go_wp21
   all_goals
    have dj:=S5.o;have cc:=Ae (ab.o);clear ab;go_call Il B s a5 0 e5 0 41 41 (.slice none 0 0) _ (by omega) (by omega) rfl S5.o.rr as u w6 ⟨bo,rfl,p,E,x6,ac,K⟩;have be:=Ae (cc.o.last (fun d=>by first|rfl|exact cb.o d) x6);have h:=Ae (S5.o.next ac K);have O:=Ae (A4 aa.o K.kept (fun b m d=>by have:=Bl aa.o b m;omega));clear x6 ac K dj S5 aa cc;have cd:=A4 hO.o h.o.kp (fun b m d=>by have:=Bl hO.o b m;omega);have ai:=Af h.o.blk 0;have J:=Af h.o.blk 1;have b2:=Af h.o.blk 2;simp at ai J b2;have a6:n+1≤maxLen:=(by unfold maxLen;omega);have a7:(n+1)*48≤140737488355328:=(by omega);have ed:=h.o.kp.size;go_wp2_with (first
     |(at_builtin;refine wpList_append_own_at _ rfl _ _ 208 rfl (B+1) 213 cp (.agg #[.bool false,.string ⟨#[]⟩,.slice none 0 0]) 3 48 underlying208 cq cr cs ct rfl (by decide) _ _ _ rfl (cd.alloc _) ⟨w6.heap.size,0,none⟩ 1 1 [.bool plus,.string t,.slice rp C D] rfl rfl (Fi w6 _ _ _ _) (by simp[Value.oneCell']) a6 a7 (by simp;omega) ?_;intro dk bf am an _ _)
     |fail)
    obtain⟨dl,dm,rfl⟩:∃a c,dk=.slice a (n+1) c:=by
     rcases am.2 with ⟨_,F⟩|⟨g,cap,ae,e,_⟩
     ·omega
     exact⟨_,_,e⟩
    have dn:some B≠Value.ownBlock (.slice va n l):=fun x=>(by have:=Bl hO.o B x.symm;omega);have dp:∀r,Value.ownBlock (.slice va n l)=some r→r<f.heap.size:=fun r x=>(hO.o.lt r x).2;have dq:xR (RR B s E 0 p 0 (.slice none 0 0) bf):=(h.o.rr.alloc _).grown an dn;have dr:xR (Ab (fun k=>k=B∨Value.ownBlock (.slice va n l)=some k) f bf):=(by have j:Ab (fun k=>k=B∨Value.ownBlock (.slice va n l)=some k) f w6:=⟨h.o.kp.os,h.o.kp.tape,h.o.kp.output,h.o.kp.size,fun k bg ao=>h.o.kp.block k bg (fun d=>ao (.inl d))⟩;exact (j.alloc _).grown an (fun r e=>.inr (.inr e)));have ce:xR (bf.ownsRow (f.heap.size+1) 202 3 (.slice rp C D) r.length (r.flatMap Ir)):=(by refine A4 (S:=fun k=>Value.ownBlock (.slice va n l)=some k) O.o (((Ab.refl _ w6).alloc _).grown an (fun r e=>.inr e)) (fun b m d=>?_);have:=Bl O.o b m;have:=dp b d;omega);clear an ai J b2 cd;go_wp21;go_call R5 B s E 0 p 0 59 59 (.slice none 0 0) _ (by omega) (by omega) rfl dq.o as u ad ⟨bh,ap,rfl,bb,bi,cf,H⟩;have P:=A4 am H.kept (fun b m d=>by have:=Bl am b m;omega);have cg:=A4 ce.o H.kept (fun b m d=>by have:=Bl ce.o b m;omega);have N:Ab (fun k=>k=B∨Value.ownBlock (.slice va n l)=some k) f ad:=dr.o.seq ⟨H.kept.os,H.kept.tape,H.kept.output,H.kept.size,fun k bg ao=>H.kept.block k bg (fun d=>ao (.inl d))⟩;have M:=T.o.step (plus:=plus) (t:=t) (r:=r) c0.o ⟨fun d=>by first|rfl|exact ay.o.1 d,ay.o.2⟩ bx.o (fun d=>c2.o (by rw[bx.o];exact d)) c5.o (e5:=p) (a5:=E) (fun d=>⟨fun y=>by have:=be.o.1 y;rw[if_pos d] at this;exact this,fun y=>by have:=be.o.2 y;rw[if_pos d] at this;exact this⟩) (fun d y=>by have:=(be.o.1 y).2;rw[if_neg d] at this;cases this);have ds:xR (Sq s p ap bh (os++[(⟨t.data.toList,r,if plus=true then 1 else -1⟩:He)]) k):=by
     have af:=bb.o;cases bh with
     |true=>rw[show ap=E+1 from bi];exact M.1 af
     |false=>rw[show ap=E from bi];exact M.2 af
    have dt:xR (p=0→n+1=(os++[(⟨t.data.toList,r,if plus=true then 1 else -1⟩:He)]).length∧CL (B+1) ad (xs++[.bool plus,.string t,.slice rp C D]) (os++[(⟨t.data.toList,r,if plus=true then 1 else -1⟩:He)])):=fun _=>by
     obtain⟨j,du⟩:=cx.o;refine⟨by simp[j],?_⟩;have dv:¬Is 202 f B:=fun ⟨dw,dx,bj⟩=>(by have:=I.o.2;rw[bj] at this;injection this with this;injection this with _ this _;exact absurd this (by decide));have dy:∀i,Value.ownBlock (.slice va n l)=some i→¬Is 202 f i:=fun i hi ⟨dw,dx,bj⟩=>by
      rcases hO.o.2 with ⟨e,_⟩|⟨g,cap,ae,e,_,hg,_⟩
      ·rw[e] at hi;simp[Value.ownBlock] at hi
      rw[e] at hi;simp[Value.ownBlock] at hi;subst hi;rw[bj] at hg;injection hg with hg;injection hg with _ hg _;exact absurd hg (by decide)
     have dz:=du.kept N (fun i hi=>by rcases hi with rfl|hi;exact dv;exact dy i hi);have d0:xs.length=os.length*3:=(by rw[←j];exact hO.o.1);refine dz.push d0 ?_ (by cases plus <;> rfl) rfl;rcases cg with ⟨a8,L⟩;refine⟨a8,?_⟩;rcases L with L|⟨g,cap,ae,e,b8,a9⟩
     ·exact .inl L
     exact .inr ⟨g,cap,ae,e,by omega,a9⟩
    have d1:xR (Ab No w ad):=by
     refine⟨N.os.trans z.o.os,N.tape.trans z.o.tape,N.output.trans z.o.output,uJ z.o.size N.size,fun i hi ao=>?_⟩;refine (N.block i (tU hi z.o.size) ?_).trans (z.o.block i hi xT);rintro (rfl|d)
     ·omega
     have:=Bl hO.o i d;omega
    have d2:=Ae cf;have d3:=Ae P;clear am P cg N M cf H bi;go_wp21;go_roundg k
    case measure=>omega
    exact⟨p,ap,bh,_,n+1,_,dl,dm,by omega,rfl,rfl,ds,d2,d3,dt,d1⟩
end Go.Proofs.YtdinjjmcmfjbfaaGreatDoor
