import Derived.Test.YtdinjjmcmfjbfaaGreatDoorPtJ
set_option maxRecDepth 100000
set_option maxHeartbeats 4000000
namespace Go.Proofs.YtdinjjmcmfjbfaaGreatDoor
open Go.RowKit Go.Shelf
open Mo (V Row Bag Q Cy Ac Mc ty)
theorem VC (av bv:Value)(us vs:List Bool)(w:World)(x:Pq w av us)(y:Pq w bv vs) :
 Calls Tryz.prog 110 #[av,bv] w fun e w'=>e=.returned (.bool (decide (us=vs)))∧Ab No w w':=by
 have I:=Ad x;have J:=Ad y
 obtain⟨a,K,L,rfl,c,M,z,A⟩:=x
 obtain⟨b,N,O,rfl,j,P,B,C⟩:=y
 replace c:=c.lt;replace j:=j.lt;have Q:=Ad A;have R:=Ad C
 obtain⟨n,l⟩:∃n,us.length=n:=⟨_,rfl⟩
 obtain⟨m,o⟩:∃m,vs.length=m:=⟨_,rfl⟩
 have p:=Ad l;have q:=Ad o
 rw[l] at M⊢
 rw[o] at P⊢
 have V:L≤9223372036854775807:=by unfold maxLen at z;omega
 have W:O≤9223372036854775807:=by unfold maxLen at B;omega
 clear z B l o A C I J
 by_cases f:n=m
 ·subst f
  go_enter Tryz.func110,Tryz.ntmps110
  go_wp2_with fail
  go_loopg [13] n (fun k S wr=>∃i:Nat,i+k=n∧S=.int .i64 (i:Int)∧oH (us.take i=vs.take i)∧oH (Ab No w wr))
  case atStart=>exact⟨0,by omega,rfl,Ad rfl,Ad (Ab.refl _ _)⟩
  case round =>
   obtain⟨i,_,rfl,D,d⟩:=hrel
   cases gk with
   |zero =>
    have f:¬(i:Int)<(n:Int):=by omega
    have g:oH (decide (us=vs)=true):=by
     show _=_
     have c:=D.o
     rw[lT (by have:=p.o;omega),lT (by have:=q.o;omega)] at c
     simp[c]
    go_wp2_with fail;go_ret
    exact⟨Az g.o.symm,d.o⟩
   |succ k =>
    have f:(i:Int)<(n:Int):=by omega
    have X:(0:Int)≤(i:Int):=by omega
    obtain⟨s,r⟩:∃s,us[i]? =some s:=⟨_,kT (by have:=p.o;omega)⟩
    obtain⟨t,u⟩:∃t,vs[i]? =some t:=⟨_,kT (by have:=q.o;omega)⟩
    have E:wr.cell? ⟨a,K+i,none⟩=some (.int .i32 (Sh s)):=(d.o.cell c oI).trans (Q.o i s r);have F:wr.cell? ⟨b,N+i,none⟩=some (.int .i32 (Sh t)):=(d.o.cell j oI).trans (R.o i t u);have G:=Ad r;have g:=Ad u;clear r u
    by_cases h:s=t
    ·subst h
     have T:oH (us.take (i+1)=vs.take (i+1)):=by show _=_;rw[lL,lL,G.o,g.o,D.o]
     generalize Sh s=U at E F;go_wp2_with fail
     go_quiet (fail)
     go_wp2_with fail;go_roundg k
     case measure=>omega
     case rel=>exact⟨i+1,by omega,by go_num,T,Ad (d.o.drewN _)⟩
    ·have H:(Sh s != Sh t)=true:=by rw[bne,JG];simp[h]
     have v:oH (decide (us=vs)=false):=by
      show _=_
      rw[decide_eq_false_iff_not];rintro rfl
      have:=G.o.symm.trans g.o
      exact h (by simpa using this)
     generalize Sh s=U at E H;generalize Sh t=Y at F H;clear h;go_wp2_with fail
     go_quiet (fail)
     go_wp2_with fail;go_ret
     exact⟨Az v.o.symm,d.o.drewN _⟩
 ·have Z:((n:Int) != (m:Int))=true:=by simp;omega
  have v:oH (decide (us=vs)=false):=by
   show _=_
   rw[decide_eq_false_iff_not];rintro rfl;exact f (p.o.symm.trans q.o)
  go_enter Tryz.func110,Tryz.ntmps110
  go_wp2_with fail;go_ret
  exact⟨Az v.o.symm,Ab.refl _ _⟩
set_option linter.unusedSimpArgs false
open Mo (V Row Bag Q Cy Ac Mc ty Bt)
def Oo (b:Bool)(us:List Bool):Option (List Bool):=if b=true then some us else none
def Cj (r:Option (List Bool))(w:World)(e:Ending)(w':World):Prop :=
 Ab No w w'∧((∃ts v,r=some ts∧e=.returned (.tuple #[v,.bool true])∧Pq w' v ts)∨(r=none∧∃v,e=.returned (.tuple #[v,.bool false])))
theorem Cj.of {us:List Bool}{b:Bool}{v:Value}{w w':World}(a:Ab No w w')(h:Pq w' v us):Cj (Oo b us) w (.returned (.tuple #[v,.bool b])) w':=by
 refine⟨a,?_⟩
 cases b
 ·exact .inr ⟨rfl,v,rfl⟩
 ·exact .inl ⟨us,v,rfl,rfl,h⟩
theorem Tx {w w':World}{P:Nat}{c:Array Value}{t:TypeId}(a:Ab No w w')(h:w.heap[P]? =some (.cells c t (0,0))):w'.heap[P]? =some (.cells c t (0,0)):=(a.block P (Aa h) oI).trans h
theorem PE (P:Nat)(h:Hd)(n:h.k=2)(lv iv:Value)(b o cap:Nat)(a:Value)(us:List Bool)(w:World)(f:w.heap[P]? =some (.cells (A0 h lv iv) 139 (0,0)))(j:∀c,h.l=.col c→c<10)(k:∀c,h.r=.col c→c<10)(p:b<w.heap.size)(c1:w.cell? ⟨b,o,none⟩=some a)(d:Pq w a us) :
 Calls Tryz.prog 63 #[.pointer (some ⟨P,0,none⟩),.slice (some ⟨b,o,none⟩) 1 cap] w (Cj (Oo (Wl (Mc us h.l) (Mc us h.r)) us) w):=by
 have q:=(Ax f).1
 rw[n] at q
 have l:oH (∀w',Ab No w w'→Calls Tryz.prog 107 #[.pointer (some ⟨P,0,none⟩),a,a] w' fun e s=>e=.returned (.bool (Wl (Mc us h.l) (Mc us h.r)))∧Ab No w' s):=fun w' g=>AR P h lv iv a a us us w' (Tx g f) j k (d.kept g) (d.kept g)
 have t:=Ad d;generalize Wl (Mc us h.l) (Mc us h.r)=r at l⊢;clear f j k d
 go_enter Tryz.func63,Tryz.ntmps63
 go_wp2_with fail
 go_region_held3 (fun w'=>w'.cell? ⟨b,o,none⟩=some a) (go_keep)
  (first
    |(go_at_call 107
      refine (l.o _ ((Ab.refl No w).drew)).mono ?_;rintro e u ⟨rfl,i⟩;have v:=(i.cell p oI).trans c1;have m:=Ad i
      clear i))
 go_wp2_with fail;go_ret2;exact Cj.of (((Ab.refl No w).drew).seq m.o) (t.o.kept (((Ab.refl No w).drew).seq m.o))
theorem PF (P:Nat)(h:Hd)(n:h.k=5)(lv iv:Value)(b o cap:Nat)(a c:Value)(us vs:List Bool)(w:World)(g:w.heap[P]? =some (.cells (A0 h lv iv) 139 (0,0)))(i:b<w.heap.size)(c1:w.cell? ⟨b,o,none⟩=some a)(c2:w.cell? ⟨b,o+1,none⟩=some c)(f:Pq w a us)(j:Pq w c vs) :
 Calls Tryz.prog 63 #[.pointer (some ⟨P,0,none⟩),.slice (some ⟨b,o,none⟩) 2 cap] w (Cj (Oo (decide (us=vs)) us) w):=by
 have p:=(Ax g).1
 rw[n] at p
 have k:oH (∀w',Ab No w w'→Calls Tryz.prog 110 #[a,c] w' fun e q=>e=.returned (.bool (decide (us=vs)))∧Ab No w' q):=fun w' l=>VC a c us vs w' (f.kept l) (j.kept l)
 have s:=Ad f;generalize decide (us=vs)=r at k⊢;clear g f j
 go_enter Tryz.func63,Tryz.ntmps63
 go_wp2_with fail
 go_region_held3 (fun w'=>w'.cell? ⟨b,o,none⟩=some a∧w'.cell? ⟨b,o+1,none⟩=some c) (go_keep)
  (first
    |(go_at_call 110
      refine (k.o _ ((Ab.refl No w).drew)).mono ?_;rintro e t ⟨rfl,d⟩;have u:=(d.cell i oI).trans c1;have e1:=(d.cell i oI).trans c2;have m:=Ad d
      clear d))
 go_wp2_with fail;go_ret2;exact Cj.of (((Ab.refl No w).drew).seq m.o) (s.o.kept (((Ab.refl No w).drew).seq m.o))
theorem JI (P:Nat)(h:Hd)(q:h.k=3)(lv iv:Value)(b o cap:Nat)(f:Value)(us:List Bool)(cs:List Nat)(w:World)(g:w.heap[P]? =some (.cells (A0 h lv iv) 139 (0,0)))(l:Gg w lv cs)(m:cs.length≤6)(r:1≤cs.length)(n:∀c∈cs,c<10)(c1:w.cell? ⟨b,o,none⟩=some f)(p:Pq w f us) :
 Calls Tryz.prog 63 #[.pointer (some ⟨P,0,none⟩),.slice (some ⟨b,o,none⟩) 1 cap] w (Cj (Oo (Ix us cs) (Hl us cs)) w):=by
 have s:=(Ax g).1
 rw[q] at s
 have i:=Ad (JH P h lv iv f us cs w g l m n p)
 have t:oH (Hl us cs≠[]):=fun e=>by have:=Ps us cs;rw[e] at this;simp at this;omega
 clear g l m r n p
 go_enter Tryz.func63,Tryz.ntmps63
 go_wp2_with fail;refine i.o.mono ?_
 rintro e x ⟨d,⟨a,v,rfl,ho⟩|⟨a,rfl⟩⟩
 ·have j:=Ad d
  have k:=Ad a;have u:=Ad ho;clear d a ho i;go_wp2_with fail;go_ret2
  rw[k.o]
  exact Cj.of j.o (Pq.Nf u.o t.o)
 ·have j:=Ad d
  have k:=Ad a;clear d a i;go_wp2_with fail;go_ret2
  rw[k.o]
  exact⟨j.o,.inr ⟨rfl,_,rfl⟩⟩
theorem Tw.uni {us:List Bool}{cs:List Nat}{w:World}{e:Ending}{w':World}(h:Tw us cs w e w')(c:cs.length≤6):Ab No w w'∧∃v xs,e=.returned (.tuple #[v,.bool (Ix us cs)])∧w'.ownsRow w.heap.size 130 1 v xs.length (PA xs)∧xs.length≤6∧(Ix us cs=true→xs=Hl us cs):=by
 obtain⟨b,⟨a,v,rfl,ho⟩|⟨a,rfl⟩⟩:=h
 ·exact⟨b,v,Hl us cs,by rw[a],ho,by rw[Ps];exact c,fun _=>rfl⟩
 ·exact⟨b,_,[],by rw[a],World.ownsRow_nil _ _ _ _,by simp,fun e=>by rw[a] at e;cases e⟩
open Mo (V Row Bag Q Cy Ac Mc ty Bt six)
def cY (w:World)(ts:List (Nat×List UInt8))(ft:List UInt8→Option (List Bool)):Prop:=∀(i:Nat) (x:Nat×List UInt8),ts[i]? =some x→x.1<w.heap.size∧∃us tv,ft x.2=some us∧w.cell? ⟨x.1,3,none⟩=some tv∧Pq w tv us
theorem cY.kept {w w':World}{ts:List (Nat×List UInt8)}{ft:List UInt8→Option (List Bool)}(h:cY w ts ft)(k:Ab No w w'):cY w' ts ft:=fun i x b=>by
 obtain⟨a,us,tv,c,d,e⟩:=h i x b
 exact⟨kV a k.size,us,tv,c,(k.cell a oI).trans d,e.kept k⟩
theorem AV (P:Nat)(h:Hd)(C:h.k=1)(lv iv v:Value)(ts:List (Nat×List UInt8))(ft:List UInt8→Option (List Bool))(w:World)(f:w.heap[P]? =some (.cells (A0 h lv iv) 139 (0,0)))(k:Fp w v ts)(l:cY w ts ft)(D:ts.length≤1000)(hf:0≤Bh ts h.nm) :
 Calls Tryz.prog 38 #[v,.pointer (some ⟨P,0,none⟩)] w (Cj (ft h.nm) w):=by
 have m:=(Ax f).1
 rw[C] at m
 have E:=(Ax f).2.2.2.2.2.2.2;have g:=Ad (Iv v ts h.nm w k D)
 obtain⟨i,hi⟩:∃i:Nat,Bh ts h.nm=(i:Int):=⟨(Bh ts h.nm).toNat,by omega⟩
 rw[hi] at g
 obtain⟨x,c,F⟩:=Tv ts h.nm i hi
 obtain⟨n,us,tv,j,p,q⟩:=l i x c
 rw[F] at j
 rw[j]
 have K:i<ts.length:=(kS.1 c).1
 obtain⟨a,cap,rfl,_,r,s⟩:=k
 obtain⟨b,o,rfl,G,H,t,I⟩:=s i _ c
 have L:cap≤9223372036854775807:=by unfold maxLen at r;omega
 have M:(0:Int)≤(i:Int):=by omega
 have N:(i:Int)<(ts.length:Int):=by omega
 have u:=Ad t;have y:=Ad p;have J:=Ad q
 obtain⟨tb,z⟩:∃tb,x.1=tb:=⟨_,rfl⟩
 rw[z] at u y n H
 clear f hf hi s r l j p q c z t I
 go_enter Tryz.func38,Tryz.ntmps38
 go_wp2_with fail;refine g.o.mono ?_;rintro e A ⟨rfl,d⟩;have c1:A.cell? ⟨b,o+i,none⟩=some (.pointer (some ⟨tb,0,none⟩)):=(d.cell G oI).trans u.o;have c2:A.cell? ⟨tb,3,none⟩=some tv:=(d.cell n oI).trans y.o;have B:=Ad d;clear d m E g;go_wp2_with fail;go_ret2;exact Cj.of (b:=true) B.o (J.o.kept B.o)
theorem aM:(Tryz.prog.info? 78).map (fun i=>(i.zero,i.size,i.bytes))=some (some (.slice none 0 0),1,24):=by kernel_rfl
theorem eG {v:Value}{a b:Bool}(h:a=b):Ending.returned (.tuple #[v,.bool a])=.returned (.tuple #[v,.bool b]):=by rw[h]
def Uv:List (Option (List Bool))→Option (List (List Bool))
 | []=>some []
 |none::_=>none
 |some u::l=>(Uv l).map (u::·)
theorem Y6:∀(a:List (List Bool)),Uv (a.map some)=some a
 | []=>rfl
 |u::l=>by show (Uv (l.map some)).map _=_;rw[Y6 l];rfl
theorem Y7:∀(rs:List (Option (List Bool))) (j:Nat),rs[j]? =some none→Uv rs=none
 | [],j,h=>by simp at h
 |none::l,j,h=>rfl
 |some a::l,0,h=>by simp at h
 |some a::l,j+1,h=>by show (Uv l).map _=_;rw[Y7 l j (by simpa using h)];rfl
def EC (w:World)(vs:List Value)(uss:List (List Bool)):Prop:=vs.length=uss.length∧∀(j:Nat) (x:Value) (us:List Bool),vs[j]? =some x→uss[j]? =some us→Pq w x us
theorem EC.kept {w w':World}{vs:List Value}{c:List (List Bool)}(h:EC w vs c)(k:Ab No w w'):EC w' vs c:=⟨h.1,fun j x us a b=>(h.2 j x us a b).kept k⟩
theorem EC.snoc {w:World}{vs:List Value}{c:List (List Bool)}{x:Value}{us:List Bool}(h:EC w vs c)(g:Pq w x us):EC w (vs++[x]) (c++[us]):=by
 refine⟨by simp[h.1],fun j y d a b=>?_⟩
 by_cases e:j<vs.length
 ·rw[lA e] at a
  rw[lA (by rw[←h.1];exact e)] at b
  exact h.2 j y d a b
 ·rw[kY (by omega)] at a
  rw[kY (by rw[←h.1];omega)] at b
  have f:j-vs.length=0:=by have:=(kS.1 a).1;simp at this;omega
  rw[f] at a
  rw[←h.1,f] at b
  have e1:x=y:=by simpa using a
  have i:us=d:=by simpa using b
  subst e1 i;exact g
theorem Si (P:Nat)(h:Hd)(_:h.k≠1)(lv iv v:Value)(ps:List Nat)(rs:List (Option (List Bool)))(T:List (List Bool)→Option (List Bool))(w:World)(L:w.heap[P]? =some (.cells (A0 h lv iv) 139 (0,0)))(ap:Uj w iv ps)(M:rs.length=ps.length)(aq:ps.length≤2)(ar:1≤ps.length)
 (V:∀(j p:Nat) (r:Option (List Bool)),ps[j]? =some p→rs[j]? =some r→∀a,Ab No w a→Calls Tryz.prog 38 #[v,pV p] a (Cj r a))
 (W:∀(d:List (List Bool)) (a:World) (b cap:Nat) (vs:List Value),rs=d.map some→Ab No w a→b<a.heap.size→EC a vs d→(∀j x,vs[j]? =some x→a.cell? ⟨b,j,none⟩=some x)→Calls Tryz.prog 63 #[.pointer (some ⟨P,0,none⟩),.slice (some ⟨b,0,none⟩) d.length cap] a (Cj (T d) a)) :
 Calls Tryz.prog 38 #[v,.pointer (some ⟨P,0,none⟩)] w (Cj (((Uv rs).bind T).bind six) w):=by
 have bl:=(Ax L).1
 have bm:((h.k:Int) == 1)=false:=by simp;omega
 have X:=Ad V;have Y:=Ad W;have au:=(Ax L).2.2.2.2.2.2.1
 obtain⟨gi,_,_,_,rfl,N,Z⟩:=ap
 obtain⟨n,O⟩:∃n,ps.length=n:=⟨_,rfl⟩
 have av:=Ad O
 rw[O] at au aq ar M
 have Q:=Ad M;have aw:=Ad N;have ax:=Ad Z;have ay:=Aa N
 obtain⟨az,a0,a1,a2,a3⟩:=info_parts aM
 have aa:oH (((Uv rs).bind T).bind six=((Uv rs).bind T).bind six):=rfl;generalize ab:((Uv rs).bind T).bind six=a4 at aa⊢;have B:=Ad ab;clear L Z N V W O M ab aa
 go_enter Tryz.func38,Tryz.ntmps38
 go_wp2_with fail
 go_loopg [6,35] n (fun k a5 a6 wr=>∃(i:Nat) (d:List (List Bool)) (vs:List Value),i+k=n∧a6=.int .i64 (i:Int)∧oH (rs.take i=d.map some)∧oH (EC wr vs d)∧oH (vs.length=i)∧oH (wr.ownsRow w.heap.size 78 1 a5 i vs)∧oH (Ab No w wr))
 case atStart=>exact⟨0,[],[],by omega,rfl,Ad rfl,Ad ⟨rfl,fun j x us f=>by simp at f⟩,Ad rfl,Ad (World.ownsRow_nil _ _ _ _),Ad (Ab.refl _ _)⟩
 case round =>
  obtain⟨i,d,vs,_,rfl,ac,ad,a7,hO,o⟩:=hrel
  cases gk with
  |zero =>
   have f:¬(i:Int)<(n:Int):=by omega
   obtain⟨g,cap,a8,hg,Hg⟩:∃g cap,u6=.slice (some ⟨g,0,none⟩) n cap∧g<wr.heap.size∧∀j x,vs[j]? =some x→wr.cell? ⟨g,j,none⟩=some x:=by
    have a9:i=n:=by omega
    rcases hO.o.2 with ⟨_,_⟩|⟨g,cap,cur,e,_,hg,hc1,hc2,hc3,hc4⟩
    ·omega
    ·refine⟨g,cap,by rw[e,a9],Aa hg,fun j x f=>?_⟩
     rw[←hc4,lM] at f
     rw[Ae hg]
     split at f
     ·simpa using f
     ·cases f
   subst a8
   have C:rs=d.map some:=by
    have u:=ac.o
    rw[lT (by have:=Q.o;omega)] at u
    exact u
   have ae:d.length=n:=by have u:=congrArg List.length C;rw[lB,Q.o] at u;exact u.symm
   have l:=Ad (Y.o d wr g cap vs C o.o hg ad.o Hg)
   rw[ae] at l
   have y:oH (((Uv rs).bind T).bind six=(T d).bind six):=by show _=_;rw[C,Y6];rfl
   clear C ae hg Hg X Y;go_wp2_with fail;refine l.o.mono ?_
   rintro e bn ⟨D,⟨ts,ba,z,rfl,af⟩|⟨z,ba,rfl⟩⟩
   ·have ag:=Ad af
    obtain⟨_,_,bb,rfl,_,bc,ah,_⟩:=af
    have E:=Ad (o.o.seq D);have F:=Ad z
    obtain⟨m,R⟩:∃m,ts.length=m:=⟨_,rfl⟩
    have ai:=Ad R
    rw[R] at bc ag⊢
    have bo:bb≤9223372036854775807:=by unfold maxLen at ah;omega
    clear D z R ah l
    by_cases aj:m≤6
    ·have bd:(m:Int)≤6:=by omega
     go_wp2_with fail;go_ret2
     refine⟨E.o,.inl ⟨ts,_,?_,rfl,ag.o⟩⟩
     rw[←B.o,y.o,F.o]
     show six ts=some ts
     unfold six
     rw[if_pos (by rw[ai.o];exact aj)]
    ·have bd:¬(m:Int)≤6:=by omega
     go_wp2_with fail;go_ret2
     refine⟨E.o,.inr ⟨?_,_,eG (decide_eq_false (by omega))⟩⟩
     rw[←B.o,y.o,F.o]
     show six ts=none
     unfold six
     rw[if_neg (by rw[ai.o];exact aj)]
   ·have E:=Ad (o.o.seq D)
    have F:=Ad z;clear D z l;go_wp2_with fail;go_ret2
    refine⟨E.o,.inr ⟨?_,_,rfl⟩⟩
    rw[←B.o,y.o,F.o];rfl
  |succ k =>
   have f:(i:Int)<(n:Int):=by omega
   have bp:(0:Int)≤(i:Int):=by omega
   obtain⟨p,S⟩:∃p,ps[i]? =some p:=⟨_,kT (by have:=av.o;omega)⟩
   obtain⟨r,hr⟩:∃r,rs[i]? =some r:=⟨_,kT (by have:=Q.o;omega)⟩
   have c1:wr.cell? ⟨gi,i,none⟩=some (.pointer (some ⟨p,0,none⟩)):=by
    rw[o.o.cell ay oI,Ae aw.o];exact ax.o i p S
   have l:=Ad (X.o i p r S hr wr o.o);have ak:=Ad hr;clear S hr;go_wp2_with fail;refine Calls.mono l.o ?_
   rintro e a ⟨q,⟨us,be,rfl,rfl,al⟩|⟨rfl,be,rfl⟩⟩
   ·have G:=Ad (o.o.seq q)
    have am:=Ad al
    obtain⟨H,I,J,rfl,-,-,-,-⟩:=al
    obtain⟨s,an⟩:∃s,us.length=s:=⟨_,rfl⟩
    rw[an] at am⊢
    have bq:=G.o.size
    have U:a.ownsRow w.heap.size 78 1 u6 i vs:=A1 hO.o q (fun _ _ e=>e)
    have bf:=Ad (ad.o.kept q);clear q l c1 an
    go_wp2_with (first
     |(at_builtin;refine wpList_append_own_at _ rfl _ _ 140 rfl w.heap.size 78 az (.slice none 0 0) 1 24 Tryz.underlying140 a0 a1 a2 a3 rfl (by decide) _ _ _ rfl (U.alloc _) ⟨a.heap.size,0,none⟩ 1 1 [.slice (some ⟨H,I,none⟩) s J] rfl rfl (World.news_of_block (cs:=#[.slice (some ⟨H,I,none⟩) s J]) (t:=78) (fr:=(0,0)) (heap_alloc_last a _)) (by intro ao K;simp at K;subst K;rfl) (by unfold maxLen;omega) (by omega) (by simp;omega) ?_;intro v' w5 bg bh _ _)
     |fail)
    go_roundg k
    case measure=>omega
    case rel =>
     have hg:(a.alloc (.cells #[.slice (some ⟨H,I,none⟩) s J] 78)).grownBy w5 u6.ownBlock:=bh
     have bi:Ab No w w5:=(G.o.alloc _).grown hg (fun x f=>.inl (Bf U x f))
     have bj:∀b,Is 130 a b→w5.heap[b]? =a.heap[b]? :=fun b A=>by
      rw[hg.block b (by simp;have:=A.lt;omega) (fun e=>?_),Below.heap_alloc _ _ _ A.lt]
      obtain⟨c,_,bk⟩:=J9 U b e.symm
      exact absurd (A.ne bk) (by decide)
     refine⟨i+1,d++[us],vs++[.slice (some ⟨H,I,none⟩) s J],by omega,by go_num,?_,?_,?_,Ad bg,Ad bi⟩
     ·show _=_;rw[lL,ak.o,ac.o];simp
     ·have:=bf.o.snoc am.o
      exact⟨this.1,fun j x ao f K=>(this.2 j x ao f K).stays fun b _ A=>bj b A⟩
     ·show _=_;rw[kU,a7.o];rfl
   ·have G:=Ad (o.o.seq q)
    have y:oH (a4=none):=by show _=_;rw[←B.o,Y7 rs i ak.o];rfl
    clear q l c1;go_wp2_with fail;go_ret2
    exact⟨G.o,.inr ⟨y.o,_,rfl⟩⟩
end Go.Proofs.YtdinjjmcmfjbfaaGreatDoor
