import Derived.Test.YtdinjjmcmfjbfaaGreatDoorRbcJ
import Derived.Test.YtdinjjmcmfjbfaaGreatDoorVlJ
set_option maxRecDepth 100000
set_option maxHeartbeats 4000000
namespace Go.Proofs.YtdinjjmcmfjbfaaGreatDoor
open Go.RowKit
open Mo (V Row)
theorem FF {s:ByteArray}{a:Nat}(h:97≤Pl.bt s a∧Pl.bt s a≤122):D0 s a=Pl.A5 s a∧(Pl.A5 s a).1=true:=by
 have b:Pl.A5 s a=(true,(Pl.A5 s a).2):=by
  have c:Pl.A5 s a=(true,Pl.Dk s 97 122 3 (a+1)):=Pl.Ux h
  rw[c]
 refine⟨?_,by rw[b]⟩
 unfold D0
 rw[Pl.G9 b,←b]
theorem FG {s:ByteArray}{a:Nat}(h:¬(97≤Pl.bt s a∧Pl.bt s a≤122)):D0 s a=Pl.Cl s a∧¬(Pl.A5 s a).1=true:=by
 have b:Pl.A5 s a=(false,a):=Pl.N2 h
 refine⟨?_,by rw[b];simp⟩
 unfold D0
 rw[Pl.Fb b]
theorem MJ:(Tryz.prog.info? 202).map (fun i=>i.size)=some 3:=by kernel_rfl
theorem Xe (B:Nat)(s:ByteArray)(a d e j:Nat)(pv:Value)(w:World)(y:s.size≤1000)(h:RR B s a d e j pv w) :
 Calls Tryz.prog 141 #[.pointer (some ⟨B,0,none⟩)] w fun r w'=>∃v:V,r=.returned (.agg #[.bool (uB v),.int .i64 (uN v),.string ⟨(uS v).toArray⟩])∧((Pl.bE (e,a) (Pl.lf (D0 s))).1=0→v=Hj s a)∧RQ B s d j pv w (Pl.bE (e,a) (Pl.lf (D0 s))) w':=by
 have hB:=Aa h.2;have N:=Ad (h.alloc (.cells #[.bool false,.int .i64 0,.string ⟨#[]⟩] 202));have J:oH (Fr B none w (w.alloc (.cells #[.bool false,.int .i64 0,.string ⟨#[]⟩] 202))):=(Fr.refl B none w).alloc _;have K:oH ((w.alloc (.cells #[.bool false,.int .i64 0,.string ⟨#[]⟩] 202)).heap[w.heap.size]? =some (.cells #[.bool false,.int .i64 0,.string ⟨#[]⟩] 202 (0,0))):=heap_alloc_new w _;clear h
 go_enter Tryz.func141,Tryz.ntmps141
 go_wp2_with fail
 refine (Ho B s a d e j 97 122 97 122 pv _ y (by omega) rfl rfl N.o).mono ?_
 rintro r T ⟨rfl,p1,u⟩;have L:=Ad p1;clear p1
 cases k:sn s e 97 122 a
 ·have c:oH (Pl.bE (e,a) (Pl.lf (D0 s))=Pl.bE (e,a) (Pl.lf (Pl.Cl s))∧(e=0→¬(Pl.A5 s a).1=true)):=by
   by_cases x:e=0
   ·subst x
    have O:¬(97≤Pl.bt s a∧Pl.bt s a≤122):=by unfold sn at k;simpa using k
    obtain⟨f,m⟩:=FG O
    refine⟨?_,fun _=>m⟩
    rw[Pl.A3,Pl.A3];unfold Pl.lf;rw[f]
   ·exact⟨by rw[Pl.Bi x,Pl.Bi x],fun P=>absurd P x⟩
  clear k;go_wp2_with fail;refine (Ll B s a d e j pv _ y L.o).mono ?_;rintro r z ⟨n,rfl,hv,A,C,o,p2,p⟩;have D:=Ad hv;have E:=Ad o;have q:=Ad p2;have g:=u.seq p
  have b:=(g.block w.heap.size (by simp) (by omega) (by simp)).trans K.o
  have F:=Ae b 0;have c1:=Ae b 1;have c2:=Ae b 2
  simp at F c1 c2
  have Q:=Aj b 0;have R:=Aj b 1;have S:=Aj b 2;have G:=Ad (J.o.seq g);have H:=Ad b;clear hv o p2 b g u p
  have I:oH ((((z.setCell ⟨w.heap.size,0,none⟩ (.bool true)).setCell ⟨w.heap.size,1,none⟩ (.int .i64 n)).setCell ⟨w.heap.size,2,none⟩ (.string ⟨#[]⟩)).heap[w.heap.size]? =some (.cells #[.bool true,.int .i64 n,.string ⟨#[]⟩] 202 (0,0))):=by
   show _=_
   rw[Ap (Ap (Ap H.o 0 _) 1 _) 2 _];rfl
  go_wp2_with fail
  refine bodyPost_ret (results_cell_row rfl _ _ w.heap.size 202 #[.bool true,.int .i64 n,.string ⟨#[]⟩] (0,0) _ rfl I.o Tryz.underlying202 rfl (by exact MJ)) rfl ?_
  have i:B≠w.heap.size:=by omega
  refine⟨.num n,rfl,fun l=>?_,A,C,c.o.1.trans E.o,⟨q.o.1,((Below.heap_setCell _ _ _ _ i).trans ((Below.heap_setCell _ _ _ _ i).trans (Below.heap_setCell _ _ _ _ i))).trans q.o.2⟩,((G.o.Nj (kZ _) _).Nj (kZ _) _).Nj (kZ _) _⟩
  rw[c.o.1] at l
  have f:=D.o l;have m:=(Ef l).1;unfold Hj
  rw[if_neg (c.o.2 m),f]
 ·have M:=Lk k
  obtain rfl:=Jq k
  have c:oH (Pl.bE (0,a) (Pl.lf (D0 s))=Pl.bE (0,a) (Pl.lf (Pl.A5 s))∧(Pl.A5 s a).1=true):=by
   obtain⟨f,m⟩:=FF M
   refine⟨?_,m⟩
   rw[Pl.A3,Pl.A3];unfold Pl.lf;rw[f]
  clear k M;go_wp2_with fail;refine (Ey B s a d 0 j pv _ y L.o).mono ?_;rintro r z ⟨t,rfl,hv,A,C,o,p2,p⟩;have D:=Ad hv;have E:=Ad o;have q:=Ad p2;have g:=u.seq p
  have b:=(g.block w.heap.size (by simp) (by omega) (by simp)).trans K.o
  have F:=Ae b 0;have c1:=Ae b 1;have c2:=Ae b 2
  simp at F c1 c2
  have Q:=Aj b 0;have R:=Aj b 1;have S:=Aj b 2;have G:=Ad (J.o.seq g);have H:=Ad b;clear hv o p2 b g u p
  have I:oH ((((z.setCell ⟨w.heap.size,0,none⟩ (.bool false)).setCell ⟨w.heap.size,1,none⟩ (.int .i64 0)).setCell ⟨w.heap.size,2,none⟩ (.string t)).heap[w.heap.size]? =some (.cells #[.bool false,.int .i64 0,.string t] 202 (0,0))):=by
   show _=_
   rw[Ap (Ap (Ap H.o 0 _) 1 _) 2 _];rfl
  go_wp2_with fail
  refine bodyPost_ret (results_cell_row rfl _ _ w.heap.size 202 #[.bool false,.int .i64 0,.string t] (0,0) _ rfl I.o Tryz.underlying202 rfl (by exact MJ)) rfl ?_
  have i:B≠w.heap.size:=by omega
  refine⟨.txt t.data.toList,rfl,fun l=>?_,A,C,c.o.1.trans E.o,⟨q.o.1,((Below.heap_setCell _ _ _ _ i).trans ((Below.heap_setCell _ _ _ _ i).trans (Below.heap_setCell _ _ _ _ i))).trans q.o.2⟩,((G.o.Nj (kZ _) _).Nj (kZ _) _).Nj (kZ _) _⟩
  rw[c.o.1] at l
  have f:=D.o l;unfold Hj
  rw[if_pos c.o.2,f];rfl
variable {Z:Nat→Prop}
theorem Fr.kept {B:Nat}{w w':World}(h:Fr B none w w'):Ab (fun k=>k=B) w w':=⟨h.os,h.tape,h.output,h.size,fun k a b=>h.block k a b (by simp)⟩
def Lm (s:ByteArray)(R:Option (Row×Nat))(e a:Nat)(on:Bool)(r:Row)(k:Nat):Prop :=
 (e≠0→R=none)∧(e=0→on=true→s.size+1≤a+k∧Dg s k a r=R)∧(e=0→on=false→r≠[]∧R=if Pl.bt s a=41 then some (r,a+1) else none)
theorem Lm.start (s:ByteArray)(e a:Nat)(h:e≠0→False):Lm s (Dg s (s.size+1) a []) e a true [] (s.size+1):=⟨fun x=>(h x).elim,fun _ _=>⟨by omega,rfl⟩,fun _ x=>by cases x⟩
theorem FH {s:ByteArray}{k a:Nat}{r:Row}(h:¬(D0 s a).1=true):Dg s k a r=none:=by
 cases k with
 |zero=>rfl
 |succ k=>unfold Dg;rw[if_neg h]
theorem MK {s:ByteArray}{k a:Nat}{r:Row}(h:(D0 s a).1=true):Dg s (k+1) a r=if Pl.bt s (D0 s a).2=44 then Dg s k ((D0 s a).2+1) (r++[Hj s a]) else if Pl.bt s (D0 s a).2=41 then some (r++[Hj s a],(D0 s a).2+1) else none:=by
 rw[Dg,if_pos h]
theorem ML {s:ByteArray}{a:Nat}(h:(D0 s a).1=true)(d:a≤s.size):a<(D0 s a).2∧(D0 s a).2≤s.size:=by
 by_cases e:97≤Pl.bt s a∧Pl.bt s a≤122
 ·obtain⟨b,f⟩:=FF e
  rw[b]
  have c:Pl.A5 s a=(true,(Pl.A5 s a).2):=Prod.ext f rfl
  have:=Pe (by omega) d c
  exact⟨this.1,this.2.1⟩
 ·obtain⟨b,f⟩:=FG e
  rw[b] at h⊢
  have c:Pl.Cl s a=(true,(Pl.Cl s a).2):=Prod.ext h rfl
  have:=Oa d c
  exact⟨this.1,this.2.1⟩
theorem Lm.step {s:ByteArray}{R:Option (Row×Nat)}{a k e1 a1:Nat}{r:Row}{v:V}(h:Lm s R 0 a true r (k+1))(m:a≤s.size)(c:Pl.bE (0,a) (Pl.lf (D0 s))=(e1,a1))(hv:e1=0→v=Hj s a) :
 ((sn s e1 44 44 a1=true)→Lm s R e1 (a1+1) true (r++[v]) k)∧((sn s e1 44 44 a1=false)→Lm s R e1 a1 false (r++[v]) k):=by
 obtain⟨_,n,_⟩:=h
 obtain⟨_,d⟩:=n rfl rfl
 by_cases e:e1=0
 ·subst e
  obtain⟨_,o,g⟩:=Ef (show (Pl.bE (0,a) (Pl.lf (D0 s))).1=0 by rw[c])
  rw[c] at g
  have p:a1=(D0 s a).2:=g
  have i:(D0 s a).1=true:=by rw[o]
  have u:=ML i m
  rw[MK i,←p,←hv rfl] at d
  refine⟨fun f=>⟨(fun b=>absurd rfl b),fun _ _=>⟨by omega,?_⟩,fun _ b=>by cases b⟩,fun f=>⟨(fun b=>absurd rfl b),(fun _ b=>by cases b),fun _ _=>⟨by simp,?_⟩⟩⟩
  ·have j:=Lk f
   rw[if_pos (by omega)] at d;exact d
  ·have j:¬Pl.bt s a1=44:=fun q=>by unfold sn at f;simp[q] at f
   rw[if_neg j] at d;exact d.symm
 ·have l:R=none:=by
   rw[←d]
   refine FH fun t=>e ?_
   rw[Pl.A3] at c
   unfold Pl.lf at c
   rw[if_pos t] at c
   injection c with c _;exact c.symm
  exact⟨fun _=>⟨fun _=>l,(fun b=>absurd b e),fun b=>absurd b e⟩,fun _=>⟨fun _=>l,(fun b=>absurd b e),fun b=>absurd b e⟩⟩
theorem Lm.last {s:ByteArray}{R:Option (Row×Nat)}{e a k g i:Nat}{on:Bool}{r:Row}(h:Lm s R e a on r k)(m:e=0→on=false)(b:Pl.bE (e,a) (Pl.lf (Pl.tk s 41))=(g,i)):(g=0→r≠[]∧R=some (r,i))∧(g≠0→R=none):=by
 obtain⟨n,_,o⟩:=h
 by_cases d:e=0
 ·subst d
  obtain⟨p,f⟩:=o rfl (m rfl)
  rw[Pl.A3] at b
  unfold Pl.lf Pl.tk at b
  by_cases j:Pl.bt s a=41
  ·rw[if_pos j] at b f
   injection b with b l
   refine⟨fun _=>⟨p,?_⟩,fun c=>absurd b.symm c⟩
   rw[f,←l]
  ·rw[if_neg j] at b f
   injection b with b l
   exact⟨(fun c=>by rw[c] at b;cases b),fun _=>f⟩
 ·rw[Pl.Bi d] at b
  injection b with b _
  exact⟨fun c=>absurd (b.trans c) d,fun _=>n d⟩
theorem FI {s:ByteArray}:∀{k a:Nat} {r0 r:Row} {d:Nat},Dg s k a r0=some (r,d)→a≤s.size→a<d∧d≤s.size
 |0,_,_,_,_,h,_=>by cases h
 |k+1,a,r0,r,d,h,e=>by
  by_cases hv:(D0 s a).1=true
  ·rw[MK hv] at h
   have f:=ML hv e
   by_cases b:Pl.bt s (D0 s a).2=44
   ·rw[if_pos b] at h
    have:=Pl.B4 (s:=s) (a:=(D0 s a).2) (by omega)
    have:=FI h (by omega)
    omega
   ·rw[if_neg b] at h
    by_cases c:Pl.bt s (D0 s a).2=41
    ·rw[if_pos c] at h
     have:=Pl.B4 (s:=s) (a:=(D0 s a).2) (by omega)
     injection h with h
     injection h with _ h
     omega
    ·rw[if_neg c] at h;cases h
  ·rw[FH hv] at h;cases h
def Ms (s:ByteArray)(e a:Nat)(more:Bool)(os:List E5)(k:Nat):Prop :=
 (e≠0→Ci s=none)∧(more=true→e=0∧s.size+1≤a+k∧Dm s k a os=Ci s)∧(e=0→more=false→Ci s=if a=s.size then some os else none)
theorem Ms.start {s:ByteArray}(h:s.size≠0):Ms s 0 0 true [] (s.size+1):=⟨(fun x=>absurd rfl x),fun _=>⟨rfl,by omega,by unfold Ci;rw[if_neg h]⟩,fun _ x=>by cases x⟩
theorem Ms.step {s:ByteArray}{a k e1 a1 m f p q e5 a5:Nat}{os:List E5}{plus:Bool}{t:ByteArray}{r:Row}(h:Ms s 0 a true os (k+1))(n:sn s 0 43 43 a=plus)(u:(plus=true→(e1,a1)=(0,a+1))∧(plus=false→Pl.bE (0,a) (Pl.lf (Pl.tk s 45))=(e1,a1)))
 (i:Pl.bE (e1,a1) (Pl.lf (Pl.A5 s))=(m,f)) (M:m=0→t=s.extract a1 (Pl.A5 s a1).2) (j:Pl.bE (m,f) (Pl.lf (Pl.tk s 40))=(p,q)) (J:p=0→(e5=0→r≠[]∧Dg s (s.size+1) q []=some (r,a5))∧(e5≠0→Dg s (s.size+1) q []=none)) (N:p≠0→e5≠0) :
 ((sn s e5 59 59 a5=true)→Ms s e5 (a5+1) true (os++[⟨t.data.toList,r,if plus=true then 1 else -1⟩]) k)∧((sn s e5 59 59 a5=false)→Ms s e5 a5 false (os++[⟨t.data.toList,r,if plus=true then 1 else -1⟩]) k):=by
 obtain⟨_,C,_⟩:=h
 obtain⟨_,_,v⟩:=C rfl
 rw[Dm] at v
 by_cases o:e5=0
 ·have O:p=0:=Classical.byContradiction fun c=>N c o
  subst O o
  obtain⟨D,P,Q⟩:m=0∧Pl.bt s f=40∧q=f+1:=by
   obtain⟨R,E,w⟩:=Ef (show (Pl.bE (m,f) (Pl.lf (Pl.tk s 40))).1=0 by rw[j])
   rw[j] at w
   unfold Pl.tk at E w
   by_cases b:Pl.bt s f=40
   ·rw[if_pos b] at w;exact⟨R,b,w⟩
   ·rw[if_neg b] at E;cases E
  subst D
  obtain⟨F,K,L⟩:=Ef (show (Pl.bE (e1,a1) (Pl.lf (Pl.A5 s))).1=0 by rw[i])
  rw[i] at L
  subst F;have z:f=(Pl.A5 s a1).2:=L
  have S:a1=a+1∧(Pl.bt s a=43∨Pl.bt s a=45)∧Dh s a=if plus=true then 1 else -1:=by
   cases plus with
   |true =>
    have b:=Lk n
    have:=u.1 rfl
    injection this with _ this
    exact⟨this,.inl (by omega),by unfold Dh;rw[if_pos (by omega)];rfl⟩
   |false =>
    have b:¬Pl.bt s a=43:=fun G=>by unfold sn at n;simp[G] at n
    have x:=u.2 rfl
    rw[Pl.A3] at x
    unfold Pl.lf Pl.tk at x
    by_cases H:Pl.bt s a=45
    ·rw[if_pos H] at x
     injection x with _ x
     exact⟨x.symm,.inr H,by unfold Dh;rw[if_neg b];rfl⟩
    ·rw[if_neg H] at x
     injection x with x _;cases x
  obtain⟨T,A,U⟩:=S
  subst T
  obtain⟨r1,r2⟩:=(J rfl).1 rfl
  have V:(Pl.A5 s (a+1)).1=true:=by rw[K]
  have W:G3 s (a+1) (Pl.A5 s (a+1)).2=t.data.toList:=by rw[M rfl];rfl
  rw[if_pos A,if_pos V,←z,if_pos P,←Q,r2] at v
  have g:(if a5=s.size then some (os++[⟨G3 s (a+1) f,r,Dh s a⟩]) else if Pl.bt s a5=59 then Dm s k (a5+1) (os++[⟨G3 s (a+1) f,r,Dh s a⟩]) else none)=Ci s:=v
  rw[z,W,U] at g
  have ae:=(Pe (by omega) (by
   have b:Pl.bt s a≠0:=by omega
   have:=Pl.B4 b;omega) (show Pl.A5 s (a+1)=(true,(Pl.A5 s (a+1)).2) from K)).1
  refine⟨fun l=>⟨(fun d=>absurd rfl d),fun _=>⟨rfl,?_,?_⟩,fun _ d=>by cases d⟩,fun l=>⟨(fun d=>absurd rfl d),(fun d=>by cases d),fun _ _=>?_⟩⟩
  ·have af:=FI r2 (by have:=Pl.B4 (s:=s) (a:=f) (by omega);omega)
   omega
  ·have b:=Lk l
   have X:¬a5=s.size:=fun e=>by
    have:=Pl.B4 (s:=s) (a:=a5) (by omega)
    omega
   rw[if_neg X,if_pos (by omega)] at g;exact g
  ·by_cases B:a5=s.size
   ·rw[if_pos B] at g;rw[if_pos B];exact g.symm
   ·have b:¬Pl.bt s a5=59:=fun Y=>by unfold sn at l;simp[Y] at l
    rw[if_neg B,if_neg b] at g;rw[if_neg B];exact g.symm
 ·have Z:Ci s=none:=by
   rw[←v]
   by_cases A:Pl.bt s a=43∨Pl.bt s a=45
   ·rw[if_pos A]
    have F:e1=0∧a1=a+1:=by
     cases plus with
     |true=>have:=u.1 rfl;injection this with aa C;exact⟨aa,C⟩
     |false =>
      have b:¬Pl.bt s a=43:=fun G=>by unfold sn at n;simp[G] at n
      have x:=u.2 rfl
      rw[Pl.A3] at x
      unfold Pl.lf Pl.tk at x
      have ab:Pl.bt s a=45:=by omega
      rw[if_pos ab] at x
      injection x with x y;exact⟨x.symm,y.symm⟩
    obtain⟨rfl,rfl⟩:=F
    by_cases I:(Pl.A5 s (a+1)).1=true
    ·rw[if_pos I]
     rw[Pl.A3] at i
     unfold Pl.lf at i
     rw[if_pos I] at i
     injection i with D z
     subst D z
     by_cases b:Pl.bt s (Pl.A5 s (a+1)).2=40
     ·rw[if_pos b]
      rw[Pl.A3] at j
      unfold Pl.lf Pl.tk at j
      rw[if_pos b] at j
      injection j with ac ad
      subst ac ad
      rw[(J rfl).2 o]
     ·rw[if_neg b]
    ·rw[if_neg I]
   ·rw[if_neg A]
  exact⟨fun l=>absurd (Jq l) o,fun _=>⟨fun _=>Z,(fun d=>by cases d),fun d=>absurd d o⟩⟩
end Go.Proofs.YtdinjjmcmfjbfaaGreatDoor
namespace Go.Proofs.YtdinjjmcmfjbfaaGreatDoor
open Go.RowKit
open Mo (V Row)
variable {Z:Nat→Prop}
theorem fJ:(Tryz.prog.info? 213).map (fun i=>(i.zero,i.size,i.bytes))=some (some (.agg #[.bool false,.string ⟨#[]⟩,.slice none 0 0]),3,48):=by kernel_rfl
structure BS (B:Nat) (s:ByteArray) (g:Nat) (w0:World) (e a:Nat) (p0 p1 p2:Value) (w:World):Prop where
 rr:RR B s a 0 e 0 (.slice none 0 0) w
 blk:w.heap[g]? =some (.cells #[p0,p1,p2] 213 (0,0))
 kp:Ab (fun k=>k=B) w0 w
 hg:w0.heap.size≤g
 hB:B<w0.heap.size
section
variable {B:Nat} {s:ByteArray} {g:Nat} {w0:World} {e a:Nat} {p0 p1 p2:Value} {w w':World}
theorem BS.next {b a':Nat}(h:BS B s g w0 e a p0 p1 p2 w)(p:RR B s a' 0 b 0 (.slice none 0 0) w')(f:Fr B none w w'):BS B s g w0 b a' p0 p1 p2 w' :=
 ⟨p,(f.block g (Aa h.blk) (by have:=h.hg;have:=h.hB;omega) (by simp)).trans h.blk,h.kp.seq f.kept,h.hg,h.hB⟩
theorem BS.fK (h:BS B s g w0 e a p0 p1 p2 w)(i:Nat)(v:Value):Ab (fun k=>k=B) w0 (w.setCell ⟨g,i,none⟩ v):=by
 refine⟨h.kp.os,h.kp.tape,h.kp.output,?_,fun k b c=>?_⟩
 ·have:=h.kp.size;simpa [World.setCell] using this
 ·exact (Below.heap_setCell _ _ _ _ (by show k≠g;have:=h.hg;omega)).trans (h.kp.block k b c)
theorem BS.fL (h:BS B s g w0 e a p0 p1 p2 w)(i:Nat)(v:Value):RR B s a 0 e 0 (.slice none 0 0) (w.setCell ⟨g,i,none⟩ v):=⟨h.rr.1,(Below.heap_setCell _ _ _ _ (by show B≠g;have:=h.hg;have:=h.hB;omega)).trans h.rr.2⟩
theorem BS.fM (h:BS B s g w0 e a p0 p1 p2 w)(v:Value):BS B s g w0 e a v p1 p2 (w.setCell ⟨g,0,none⟩ v):=⟨h.fL 0 v,by rw[Ap h.blk];rfl,h.fK 0 v,h.hg,h.hB⟩
theorem BS.bU (h:BS B s g w0 e a p0 p1 p2 w)(v:Value):BS B s g w0 e a p0 v p2 (w.setCell ⟨g,1,none⟩ v):=⟨h.fL 1 v,by rw[Ap h.blk];rfl,h.fK 1 v,h.hg,h.hB⟩
theorem BS.bV (h:BS B s g w0 e a p0 p1 p2 w)(v:Value):BS B s g w0 e a p0 p1 v (w.setCell ⟨g,2,none⟩ v):=⟨h.fL 2 v,by rw[Ap h.blk];rfl,h.fK 2 v,h.hg,h.hB⟩
theorem BS.alloc (h:BS B s g w0 e a p0 p1 p2 w)(o:Obj):BS B s g w0 e a p0 p1 p2 (w.alloc o):=⟨h.rr.alloc o,(Below.heap_alloc _ _ _ (Aa h.blk)).trans h.blk,h.kp.alloc o,h.hg,h.hB⟩
theorem BS.grown {row:Option Nat}(h:BS B s g w0 e a p0 p1 p2 w)(b:w.grownBy w' row)(c:some B≠row)(d:some g≠row)(f:∀r,row=some r→w0.heap.size≤r):BS B s g w0 e a p0 p1 p2 w' :=
 ⟨h.rr.grown b c,(b.block g (Aa h.blk) d).trans h.blk,h.kp.grown b (fun r e=>.inl (f r e)),h.hg,h.hB⟩
end
def CL (base:Nat)(w:World)(xs:List Value)(os:List E5):Prop:=∀i o,os[i]? =some o→∃p n c,xs[i*3]? =some (.bool (decide (o.t=1)))∧xs[i*3+1]? =some (.string ⟨o.name.toArray⟩)∧xs[i*3+2]? =some (.slice p n c)∧w.ownsRow base 202 3 (.slice p n c) o.row.length (o.row.flatMap Ic)
theorem QK {S:Nat→Prop}{w w':World}{base:Nat}{e:TypeId}{size:Nat}{v:Value}{n:Nat}{xs:List Value}(h:w.ownsRow base e size v n xs)(k:Ab S w w')(b:∀i,S i→¬Is e w i):w'.ownsRow base e size v n xs:=by
 refine⟨h.1,?_⟩
 rcases h.2 with hn|⟨g,cap,a,rfl,c,hg,d⟩
 ·exact .inl hn
 ·exact .inr ⟨g,cap,a,rfl,c,(k.block g (Aa hg) (fun s=>b g s ⟨a,(0,0),hg⟩)).trans hg,d⟩
theorem CL.kept {S:Nat→Prop}{base:Nat}{w w':World}{xs:List Value}{os:List E5}(h:CL base w xs os)(k:Ab S w w')(a:∀i,S i→¬Is 202 w i):CL base w' xs os:=fun i o ho=>by
 obtain⟨p,n,c,b,d,e,f⟩:=h i o ho
 exact⟨p,n,c,b,d,e,QK f k a⟩
theorem CL.push {base:Nat}{w:World}{xs:List Value}{os:List E5}(h:CL base w xs os)(d:xs.length=os.length*3){o:E5}{p:Option Addr}{n c:Nat}(hr:w.ownsRow base 202 3 (.slice p n c) o.row.length (o.row.flatMap Ic)){b:Bool}(j:b=decide (o.t=1)){t:ByteArray}(k:t=⟨o.name.toArray⟩):CL base w (xs++[.bool b,.string t,.slice p n c]) (os++[o]):=fun i x a=>by
 by_cases hi:i<os.length
 ·rw[lA hi] at a
  obtain⟨l,m,q,e,f,g,r⟩:=h i x a
  refine⟨l,m,q,?_,?_,?_,r⟩
  ·rw[lA (kS.1 e).1];exact e
  ·rw[lA (kS.1 f).1];exact f
  ·rw[lA (kS.1 g).1];exact g
 ·rw[kY (by omega)] at a
  have s:i-os.length=0:=by
   have:=(kS.1 a).1
   simp at this;omega
  rw[s] at a
  have u:o=x:=by simpa using a
  subst u
  have v:i=os.length:=by omega
  subst v
  refine⟨p,n,c,?_,?_,?_,hr⟩
  ·rw[kY (by omega),d,show os.length*3-os.length*3=0 by omega,j];rfl
  ·rw[kY (by omega),d,show os.length*3+1-os.length*3=1 by omega,k];rfl
  ·rw[kY (by omega),d,show os.length*3+2-os.length*3=2 by omega];rfl
def Sz (Z:Nat→Prop)(w:World)(v:Value)(os:List E5):Prop:=∃a cap,v=.slice a os.length cap∧os.length≤cap∧cap≤maxLen ∧
 ∀i o,os[i]? =some o→∃b f p n c,a=some ⟨b,f,none⟩∧b<w.heap.size∧w.cell? ⟨b,f+i*3,none⟩=some (.bool (decide (o.t=1)))∧w.cell? ⟨b,f+i*3+1,none⟩=some (.string ⟨o.name.toArray⟩)∧w.cell? ⟨b,f+i*3+2,none⟩=some (.slice p n c)∧Ei Z w (.slice p n c) o.row
theorem Sz.Ah {w w':World}{v:Value}{os:List E5}(h:Sz Z w v os)(k:Ab No w w'):Sz Z w' v os:=by
 obtain⟨a,cap,e,g,j,l⟩:=h
 refine⟨a,cap,e,g,j,fun i o ho=>?_⟩
 obtain⟨b,f,p,n,c,e1,d,m,c1,c2,hr⟩:=l i o ho
 exact⟨b,f,p,n,c,e1,kV d k.size,(k.cell d oI).trans m,(k.cell d oI).trans c1,(k.cell d oI).trans c2,hr.Ah k⟩
theorem XB {base:Nat}{w:World}{v:Value}{n:Nat}{xs:List Value}{os:List E5}(h:w.ownsRow base 213 3 v n xs)(e:n=os.length)(b:CL base w xs os)(f:∀k,Z k→k<base):Sz Z w v os:=by
 subst e
 rcases h with ⟨_,⟨rfl,j⟩|⟨g,cap,_,rfl,_,hg,l,m,_,q⟩⟩
 ·have:os=[]:=lP j
  subst this
  exact⟨none,0,rfl,by simp,by simp,fun i c b=>by simp at b⟩
 ·refine⟨some ⟨g,0,none⟩,cap,rfl,l,m,fun i o ho=>?_⟩
  obtain⟨p,n,c,e1,r,s,t⟩:=b i o ho
  have key:∀k d,xs[k]? =some d→w.cell? ⟨g,0+k,none⟩=some d:=fun k d a=>by
   rw[←q,lM] at a
   split at a
   ·rw[Ae hg,lK,←lU];exact a
   ·cases a
  exact⟨g,0,p,n,c,rfl,Aa hg,key _ _ e1,key _ _ r,key _ _ s,Ei.Nf f t⟩
end Go.Proofs.YtdinjjmcmfjbfaaGreatDoor
