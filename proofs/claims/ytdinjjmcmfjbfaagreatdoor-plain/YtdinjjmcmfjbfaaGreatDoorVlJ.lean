import Derived.Test.YtdinjjmcmfjbfaaGreatDoorUsJ
import Derived.Test.YtdinjjmcmfjbfaaGreatDoorTgJ
set_option maxRecDepth 100000
set_option maxHeartbeats 4000000
namespace Go.Proofs.YtdinjjmcmfjbfaaGreatDoor
open Go.RowKit
open Mo (V Row Bag ty Co Cg Af cnt Gm Al)
variable {Z:Nat→Prop}
end Go.Proofs.YtdinjjmcmfjbfaaGreatDoor
namespace Go.Proofs.YtdinjjmcmfjbfaaGreatDoor
open Go.RowKit
open Mo (V Row Bag Co cnt Cg Af neg Ay sv Zz Ud Ce Al ty)
variable {Z:Nat→Prop}
end Go.Proofs.YtdinjjmcmfjbfaaGreatDoor
namespace Go.Proofs.YtdinjjmcmfjbfaaGreatDoor
open Go.RowKit
open Mo (V Row Bag)
variable {Z:Nat→Prop}
structure UT where
 name:List UInt8
 tys:List UInt8
 rows:Bag
def Lj (Z:Nat→Prop)(w:World)(v:Value)(ts:List UT):Prop:=∃a cap,v=.slice a ts.length cap∧ts.length≤cap∧cap≤maxLen ∧
 ∀i t,ts[i]? =some t→∃b o p n c,a=some ⟨b,o,none⟩∧b<w.heap.size∧w.cell? ⟨b,o+i*3,none⟩=some (.string ⟨t.name.toArray⟩)∧w.cell? ⟨b,o+i*3+1,none⟩=some (.string ⟨t.tys.toArray⟩)∧w.cell? ⟨b,o+i*3+2,none⟩=some (.slice p n c)∧Dt Z w (.slice p n c) t.rows
theorem Lj.Ah {w w':World}{v:Value}{ts:List UT}(h:Lj Z w v ts)(k:Ab No w w'):Lj Z w' v ts:=by
 obtain⟨a,cap,e,f,g,j⟩:=h
 refine⟨a,cap,e,f,g,fun i t l=>?_⟩
 obtain⟨b,o,p,n,c,e1,d,m,c1,c2,hr⟩:=j i t l
 exact⟨b,o,p,n,c,e1,kV d k.size,(k.cell d oI).trans m,(k.cell d oI).trans c1,(k.cell d oI).trans c2,hr.Ah k⟩
def Zh (ts:List UT)(nm:List UInt8):Int:=Bh (ts.map fun t=>(0,t.name)) nm
theorem Ig (v:Value)(ts:List UT)(nm:List UInt8)(w:World)(h:Lj Z w v ts)(y:ts.length≤1000) :
 Calls Tryz.prog 89 #[v,.string ⟨nm.toArray⟩] w fun e w'=>e=.returned (.int .i64 (Zh ts nm))∧Ab No w w':=by
 have q:=Ad h
 obtain⟨a,cap,rfl,z,r,-⟩:=h
 obtain⟨n,c⟩:∃n,ts.length=n:=⟨_,rfl⟩
 have A:=Ad c
 have B:oH ((ts.map fun t=>((0:Nat),t.name)).length=n):=by show _=_;rw[lB];exact c
 rw[c] at z y
 rw[c] at q
 rw[c]
 clear c
 have K:cap≤9223372036854775807:=by unfold maxLen at r;omega
 clear r
 go_enter Tryz.func89,Tryz.ntmps89
 go_wp2_with fail
 go_loopg [5] n (fun k C wr=>∃i:Nat,i+k=n∧C=.int .i64 (i:Int)∧oH (Mj (ts.map fun t=>(0,t.name)) nm i=Zh ts nm)∧Ab No w wr)
 case atStart=>exact⟨0,by omega,rfl,Ad (Wg _ nm),Ab.refl _ _⟩
 case round =>
  obtain⟨i,_,rfl,j,f⟩:=hrel
  by_cases D:gk=0
  ·subst D
   have E:¬(i:Int)<(n:Int):=by omega
   have l:oH (Zh ts nm= -1):=by
    show _=_
    rw[←j.o,show i=(ts.map fun t=>((0:Nat),t.name)).length by rw[B.o];omega];exact Yv _ nm
   have g:=Ad f;clear f;go_wp2_with fail;go_ret
   exact⟨Bb l.o.symm,g.o⟩
  ·obtain⟨k,rfl⟩:∃k,gk=k+1:=⟨gk-1,by omega⟩
   have E:(i:Int)<(n:Int):=by omega
   have L:(0:Int)≤(i:Int):=by omega
   obtain⟨t,m⟩:∃t,ts[i]? =some t:=⟨_,kT (by have:=A.o;omega)⟩
   obtain⟨_,_,F,_,_,s⟩:=q.o.Ah f
   injection F with e1 G H
   subst e1
   obtain⟨b,o,p,_,_,rfl,_,_,c1,c2,-⟩:=s i t m
   have u:(ts.map fun t=>((0:Nat),t.name))[i]? =some (0,t.name):=by rw[kX,m];rfl
   have x:=Ad u;have g:=Ad f;clear f s G H m u c1 c2
   by_cases d:t.name=nm
   ·have I:(t.name == nm)=true:=by simp[d]
    have l:oH (Zh ts nm=i):=by show _=_;rw[←j.o];exact Yu x.o d
    clear d;go_wp2_with fail;go_ret
    exact⟨Bb l.o.symm,g.o⟩
   ·have I:(t.name == nm)=false:=by simp[d]
    have J:oH (Mj (ts.map fun t=>(0,t.name)) nm (i+1)=Zh ts nm):=by show _=_;rw[←j.o];exact (Wf x.o d).symm
    clear d;go_wp2_with fail;go_roundg k
    case measure=>omega
    case rel=>exact⟨i+1,by omega,by go_num,J,g.o⟩
end Go.Proofs.YtdinjjmcmfjbfaaGreatDoor
namespace Go.Proofs.YtdinjjmcmfjbfaaGreatDoor
open Go.RowKit
open Mo (V Row Bag Q)
variable {Z Z' S:Nat→Prop} {w w':World} {v:Value}
theorem bG.Lv {a:Option Addr}{n cap:Nat}(h:bG Z a n cap)(d:0<n→∀b o,a=some ⟨b,o,none⟩→Z' b→Z b):bG Z' a n cap:=⟨h.1,fun c b o e f=>h.2 c b o e (d c b o e f)⟩
theorem BJ {α:Type}{l:List α}{i:Nat}{x:α}(h:l[i]? =some x):0<l.length:=Nat.lt_of_le_of_lt (mB i) (kS.1 h).1
theorem BK {α:Type}{l:List α}(h:0<l.length):∃x,l[0]? =some x:=⟨_,kT h⟩
theorem Ei.Lv {r:Row}(h:Ei Z w v r)(g:∀k,k<w.heap.size→Z' k→Z k):Ei Z' w v r:=by
 obtain⟨a,cap,e,i,⟨j,l⟩,f⟩:=h
 refine⟨a,cap,e,i,⟨j,l.Lv fun m b o e1 n=>g b ?_ n⟩,f⟩
 obtain⟨b',_,c,_,d,p,_⟩:=f (List.length_pos_iff.1 m)
 rw[e1] at d;injection d with d;injection d with d _
 rw[d];exact Aa p
theorem Ei.Br {r:Row}(h:Ei Z w v r)(k:Ab S w w')(g:∀i,S i→Z i):Ei Z w' v r:=by
 obtain⟨a,cap,e,j,⟨l,d⟩,m⟩:=h
 refine⟨a,cap,e,j,⟨l,d⟩,fun hr=>?_⟩
 obtain⟨b,o,c,n,e1,f,p⟩:=m hr
 exact⟨b,o,c,n,e1,(k.block b (Aa f) (fun s=>d.2 (List.length_pos_iff.2 hr) b o e1 (g b s))).trans f,p⟩
theorem Dt.Lv {l:Bag}(h:Dt Z w v l)(j:∀k,k<w.heap.size→Z' k→Z k):Dt Z' w v l:=by
 obtain⟨a,cap,e,q,⟨r,s⟩,m⟩:=h
 refine⟨a,cap,e,q,⟨r,s.Lv fun t b o e1 u=>j b ?_ u⟩,fun i x f=>?_⟩
 ·obtain⟨x,f⟩:=BK t
  obtain⟨b',_,p,n,c,d,g,_⟩:=m 0 x f
  rw[e1] at d;injection d with d;injection d with d _
  rw[d];exact g
 obtain⟨b,o,p,n,c,e1,g,y,c1,hr⟩:=m i x f
 exact⟨b,o,p,n,c,e1,g,y,c1,hr.Lv j⟩
theorem Dt.Br {l:Bag}(h:Dt Z w v l)(k:Ab S w w')(f:∀i,S i→Z i):Dt Z w' v l:=by
 obtain⟨a,cap,e,m,⟨q,g⟩,r⟩:=h
 refine⟨a,cap,e,m,⟨q,g⟩,fun i x t=>?_⟩
 obtain⟨b,o,p,n,c,e1,d,u,c1,hr⟩:=r i x t
 have j:¬S b:=fun s=>g.2 (BJ (by assumption)) b o e1 (f b s)
 exact⟨b,o,p,n,c,e1,kV d k.size,(k.cell d j).trans u,(k.cell d j).trans c1,hr.Br k f⟩
theorem I2.Lv {cs:List Nat}(h:I2 Z w v cs)(f:∀k,k<w.heap.size→Z' k→Z k):I2 Z' w v cs:=by
 obtain⟨a,cap,e,g,⟨i,j⟩,d⟩:=h
 refine⟨a,cap,e,g,⟨i,j.Lv fun l b o e1 m=>f b ?_ m⟩,d⟩
 obtain⟨x,n⟩:=BK l
 obtain⟨b',_,c,p,_⟩:=d 0 x n
 rw[e1] at c;injection c with c;injection c with c _
 rw[c];exact p
theorem I2.Br {cs:List Nat}(h:I2 Z w v cs)(k:Ab S w w')(j:∀i,S i→Z i):I2 Z w' v cs:=by
 obtain⟨a,cap,e,l,⟨m,d⟩,n⟩:=h
 refine⟨a,cap,e,l,⟨m,d⟩,fun i c f=>?_⟩
 obtain⟨b,o,e1,g,p⟩:=n i c f
 exact⟨b,o,e1,kV g k.size,(k.cell g (fun s=>d.2 (BJ f) b o e1 (j b s))).trans p⟩
theorem Gi.Lv {T:List Q}(h:Gi Z w v T)(g:∀k,k<w.heap.size→Z' k→Z k):Gi Z' w v T:=by
 obtain⟨a,cap,e,l,⟨m,n⟩,j⟩:=h
 refine⟨a,cap,e,l,⟨m,n.Lv fun d b o e1 r=>g b ?_ r⟩,fun i q s=>?_⟩
 ·obtain⟨x,t⟩:=BK d
  obtain⟨b',_,p,cv,c,f,_⟩:=j 0 x t
  rw[e1] at c;injection c with c;injection c with c _
  rw[c];exact f
 obtain⟨b,o,p,cv,e1,f,u,y,d,z⟩:=j i q s
 exact⟨b,o,p,cv,e1,f,u,y.Lv g,d,z⟩
theorem Gi.Br {T:List Q}(h:Gi Z w v T)(k:Ab S w w')(c:∀i,S i→Z i):Gi Z w' v T:=by
 obtain⟨a,cap,e,g,⟨l,d⟩,m⟩:=h
 refine⟨a,cap,e,g,⟨l,d⟩,fun i q n=>?_⟩
 obtain⟨b,o,p,cv,e1,f,r,t,u,y⟩:=m i q n
 have z:¬S b:=fun s=>d.2 (BJ (by assumption)) b o e1 (c b s)
 exact⟨b,o,p,cv,e1,kV f k.size,fun j x A=>(k.cell f z).trans (r j x A),t.Br k c,u,y⟩
theorem Lj.Lv {ts:List UT}(h:Lj Z w v ts)(d:∀k,k<w.heap.size→Z' k→Z k):Lj Z' w v ts:=by
 obtain⟨a,cap,e,f,g,j⟩:=h
 refine⟨a,cap,e,f,g,fun i t l=>?_⟩
 obtain⟨b,o,p,n,c,e1,m,q,c1,c2,hr⟩:=j i t l
 exact⟨b,o,p,n,c,e1,m,q,c1,c2,hr.Lv d⟩
end Go.Proofs.YtdinjjmcmfjbfaaGreatDoor
namespace Go.Proofs.YtdinjjmcmfjbfaaGreatDoor
open Go.RowKit
open Mo (V Row Bag Q L3 Cy ty A9 Dp Bt Md Hi B0 Nr Af Cg Bd Ay)
variable {Z:Nat→Prop}
theorem WW:(Tryz.prog.info? 195).map (fun i=>(i.zero,i.size,i.bytes))=some (some (.slice none 0 0),1,24):=by kernel_rfl
def Cf (Z:Nat→Prop)(w:World)(vs:List Value)(ls:List Bag):Prop:=vs.length=ls.length∧∀(k:Nat) (l:Bag),ls[k]? =some l→∃p n c,vs[k]? =some (.slice p n c)∧Dt Z w (.slice p n c) l
theorem Cf.Ah {w w':World}{vs:List Value}{a:List Bag}(h:Cf Z w vs a)(k:Ab No w w'):Cf Z w' vs a:=⟨h.1,fun i l b=>by
 obtain⟨p,n,c,e,d⟩:=h.2 i l b
 exact⟨p,n,c,e,d.Ah k⟩⟩
theorem Cf.push {w:World}{vs:List Value}{d:List Bag}(h:Cf Z w vs d){v:Value}{l:Bag}(f:Dt Z w v l):Cf Z w (vs++[v]) (d++[l]):=by
 refine⟨by simp[h.1],fun k m b=>?_⟩
 by_cases g:k<d.length
 ·rw[lA g] at b
  obtain⟨p,n,c,e,f⟩:=h.2 k m b
  exact⟨p,n,c,by rw[lA (by rw[h.1];exact g)];exact e,f⟩
 ·rw[kY (by omega)] at b
  have i:k-d.length=0:=by
   have:=(kS.1 b).1
   simp at this;omega
  rw[i] at b
  have:l=m:=by simpa using b
  subst this
  obtain⟨a,cap,e,_⟩:=id f
  refine⟨a,l.length,cap,?_,e ▸ f⟩
  rw[kY (by rw[h.1];omega),h.1,i,e];rfl
theorem Zi {w:World}{base:Nat}{e:TypeId}{a:Option Addr}{n m c:Nat}{xs:List Value}(h:w.ownsRow base e 1 (.slice a m c) n xs){k:Nat}{d:Value}(b:xs[k]? =some d):∃g o,a=some ⟨g,o,none⟩∧g<w.heap.size∧k<n∧m=n∧n≤c∧c≤maxLen∧w.cell? ⟨g,o+k,none⟩=some d:=by
 rcases h with ⟨f,⟨i,j⟩|⟨g,cap,_,i,_,hg,l,p,_,q⟩⟩
 ·subst j
  have:=(kS.1 b).1
  rw[f] at this;omega
 ·injection i with e1 r s
  subst e1 r s
  refine⟨g,0,rfl,Aa hg,?_,rfl,l,p,?_⟩
  ·have:=(kS.1 b).1;rw[f] at this;omega
  ·rw[←q,lM] at b
   split at b
   ·rw[Ae hg,lK,←lU];exact b
   ·cases b
def Zp (Z:Nat→Prop)(v:Value):Nat→Prop:=fun k=>Z k∨v.ownBlock=some k
theorem Cf.Lv {Z':Nat→Prop}{w:World}{vs:List Value}{a:List Bag}(h:Cf Z w vs a)(b:∀k,k<w.heap.size→Z' k→Z k):Cf Z' w vs a:=⟨h.1,fun i l d=>by
 obtain⟨p,n,c,e,f⟩:=h.2 i l d
 exact⟨p,n,c,e,f.Lv b⟩⟩
theorem Cf.Br {S:Nat→Prop}{w w':World}{vs:List Value}{a:List Bag}(h:Cf Z w vs a)(k:Ab S w w')(b:∀i,S i→Z i):Cf Z w' vs a:=⟨h.1,fun i l d=>by
 obtain⟨p,n,c,e,f⟩:=h.2 i l d
 exact⟨p,n,c,e,f.Br k b⟩⟩
theorem WX {g:Row×Int→Option (Row×Int)}{A:Bag}{us:List Bool}(_:A.length≤400000000)(b:∀e∈A,∀x,g e=some x→x.1.map ty=us∧0≤x.2∧x.2≤3000000000000)(f:Nr (A.filterMap g)≤1000000000000000000)(_:us.length≤6){j:Nat}{e x:Row×Int}(c:A[j]? =some e)(a:g e=some x)(W:World)(ov d:Value)(ho:Dt Z W ov (B3 (dl g A j) []))(hr:Ei Z W d x.1)(h:Ga Z W) :
 Calls Tryz.prog 96 #[ov,d,.int .i64 x.2] W fun e w'=>∃v,e=.returned v∧Rc Z W (B3 (dl g A (j+1)) []) v w':=by
 have q:=(kS.1 c).1;have i:=b e (kW c) x a
 rw[bL c a,Oz]
 refine U8 ov d _ x.1 x.2 us W ho hr i.1 (fun y k=>?_) (by omega) (by have:=KB g A j;omega) (by omega) (WV (fun e l x a=>(b e l x a).2.1) f j) (Ft _ trivial) h
 obtain⟨m,n,o,p,e1⟩:=KC k
 rw[←e1];exact (b m n o p).1
theorem bP {A B:Bag}{us:List Bool}(_:A.length≤400000000)(hB:B.length≤400000000)(h:Cg A)(i:∀e∈A,e.1.map ty=us∧1≤e.2∧e.2≤3000000000000)(b:∀e∈B,e.1.map ty=us∧1≤e.2∧e.2≤3000000000000)(_:Nr A+Nr B≤1000000000000000000)(_:us.length≤6){j:Nat}{e:Row×Int}(c:B[j]? =some e)(W:World)(ov d:Value)(ho:Dt Z W ov (B3 (B.take j) A))(hr:Ei Z W d e.1)(k:Ga Z W) :
 Calls Tryz.prog 96 #[ov,d,.int .i64 e.2] W fun e w'=>∃v,e=.returned v∧Rc Z W (B3 (B.take (j+1)) A) v w':=by
 have o:=(kS.1 c).1;have l:=b e (kW c)
 rw[lL,c,show (some e).toList=[e] from rfl,Oz]
 refine U8 ov d _ e.1 e.2 us W ho hr l.1 (fun y n=>?_) (by omega) ?_ (by omega) ?_ (Ft _ h) k
 ·rcases Re n with ⟨f,g,e1⟩|⟨f,g,e1⟩
  ·rw[←e1];exact (i f g).1
  ·rw[←e1];exact (b f (mY g)).1
 ·have:=Rf (B.take j) A
  rw[lV] at this
  omega
 ·refine Wz h (fun e a=>by have:=(i e a).2.1;omega) (fun e a=>by have:=(b e (mY a)).2.1;omega) ?_
  have:=WS (m:=B) (fun e a=>by have:=(b e a).2.1;omega) (List.take_sublist j B)
  omega
theorem Sx (n m:Nat)(b:Bag):∀a:Bag,(Mo.Gm n m a b).length≤a.length*b.length
 | []=>mB _
 |x::a=>by
  have c:=Sx n m b a;unfold Mo.Gm at c⊢
  rw[mE,kU,lB,lN,Nat.succ_mul]
  have:(Mo.Cr (fun y=>decide (Mo.Al x.1 n=Mo.Al y m)) b).length≤b.length:=nK _ _
  omega
end Go.Proofs.YtdinjjmcmfjbfaaGreatDoor
