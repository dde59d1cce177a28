import Derived.Test.YtdinjjmcmfjbfaaGreatDoorNwJ
set_option maxRecDepth 100000
set_option maxHeartbeats 4000000
namespace Go.Proofs.YtdinjjmcmfjbfaaGreatDoor
open Go.RowKit Go.Shelf
open Mo (V Row Bag cnt Af Be B0 Fw Q Cy L3 Al Jf Ay Ac Av A9 wf Xm Qx Cr Ls B1 Gm I7 Ir)
def Hk:Q→Nd→Prop
 | .tab _,.leaf=>True
 | .sel _ _ _ q,.one _ t=>Hk q t
 | .pick _ q,.one _ t=>Hk q t
 | .dist q,.one _ t=>Hk q t
 | .grp _ _ q,.one _ t=>Hk q t
 | .join _ _ q r,.two _ t u=>Hk q t∧Hk r u
 | .uni q r,.two _ t u=>Hk q t∧Hk r u
 |_,_=>False
theorem Et.ex {T:Tk}{A:Nat→Prop}{ts:List Bool}{Gd:Bag→Prop}{P:Nat→Prop}{R:Nat→World→Ow→Bag→Prop}(h:∀n,P n→Ee T A ts Gd (R n))(g:∃n,P n):Ee T A ts Gd (fun w O B=>∃n,P n∧R n w O B):=by
 obtain⟨n0,i⟩:=g
 have b:=h n0 i
 refine⟨b.zero,b.one,b.ok,b.gde,?_,?_,b.met,?_⟩
 ·rintro w w' O f B ⟨n,a,hr⟩ j k
  exact⟨n,a,(h n a).stab hr j k⟩
 ·rintro w O B v ⟨n,a,hr⟩ e
  exact⟨n,a,(h n a).eqv hr e⟩
 ·rintro w O B d c ⟨n,a,hr⟩ l m o p
  refine ((h n a).run w O B d c hr l m o p).mono fun e w' q=>?_
  obtain⟨r,f,s,t,u⟩:=q
  exact⟨r,f,s,t,n,a,u⟩
theorem OJ (k:L3):∃n,Jh n=k:=by
 cases k
 ·exact⟨0,rfl⟩
 ·exact⟨1,rfl⟩
 ·exact⟨2,rfl⟩
theorem aF {n c:Nat}{k:L3}{x:Cy}(h:Jh n=k):C7 n (.col c) x=Ls c k x:=by subst h;rfl
theorem Wb {us:List Bool}{q:Row}(h:Mo.Dr us q)(a:us.length≤6)(c:Nat):Rj (Al q c):=F0 (Z9 h a) c
theorem Ys {us ts:List Bool}{c:Nat}{x:Cy}(h:Mo.Dp c x us=some ts)(j:us.length≤6)(k:Mo.iS x):ts=us∧UB us (.col c) x:=by
 have e:=Mo.M7 h
 refine⟨e,?_⟩
 unfold Mo.Dp at h
 cases f:us[c]? with
 |none=>rw[f] at h;cases h
 |some a =>
  rw[f] at h
  have t:=(kS.1 f).1
  have i:Mo.Mc us x=some a:=by
   by_cases l:Mo.Mc us x=some a
   ·exact l
   ·simp[l] at h
  have m:∀{q:Row} {b:Nat} {a':Bool},Mo.Dr us q→us[b]? =some a'→Mo.ty (Al q b)=a':=fun {q b a'} d o=>by
   have:=(Mo.R9 d.1 (kS.1 o).1).1
   rw[this,lI,o];rfl
  refine⟨fun b g=>?_,fun b g=>?_,fun {q} d=>?_⟩
  ·injection g with g;omega
  ·subst g
   have:=(kS.1 (show us[b]? =some a from i)).1
   omega
  ·refine⟨Wb d j c,?_,?_⟩
   ·cases x with
    |col b=>exact Wb d j b
    |val v=>cases v with
     |num n=>have: -9999≤n∧n≤9999:=k
             show _∧_;omega
     |txt s=>exact k
   ·have p:Mo.ty (Jf (.col c) q)=a:=m d f
    rw[p]
    cases x with
    |col b=>exact (m d i).symm
    |val v=>have r:some (Mo.ty v)=some a:=i
            exact (nM r).symm
theorem Yt {us:List Bool}{cs:List Nat}(a:us.length≤6)(_:cs.length≤6){q:Row}(h:Mo.Dr us q):G5 (Ay cs q):=by
 refine⟨by simp[Ay];omega,fun v hv=>?_⟩
 obtain⟨c,_,rfl⟩:=lD.1 hv
 exact Wb h a c
theorem LK {A:Nat→Prop}{b:Nat}{l:List Nat}(a:Nat):((A a∨a=b+2)∨∃x∈l,a=x+2)↔(A a∨∃x∈b::l,a=x+2):=by
 constructor
 ·rintro ((h|h)|⟨x,c,h⟩)
  ·exact .inl h
  ·exact .inr ⟨b,by simp,h⟩
  ·exact .inr ⟨x,by simp[c],h⟩
 ·rintro (h|⟨x,c,h⟩)
  ·exact .inl (.inl h)
  ·rcases lQ.1 c with rfl|c
   ·exact .inl (.inr h)
   ·exact .inr ⟨x,c,h⟩
theorem Mh {f:Nat→Bag}{k j:Nat}{B:Bag}(h:j≠k):Ky f k B j=f j:=if_neg h
theorem DY {A:Nat→Prop}{b:Nat}{l m:List Nat}(a:Nat):(((A a∨a=b+2)∨∃x∈m,a=x+2)∨∃x∈l,a=x+2)↔(A a∨∃x∈b::(l++m),a=x+2):=by
 constructor
 ·rintro (((h|h)|⟨x,c,h⟩)|⟨x,c,h⟩)
  ·exact .inl h
  ·exact .inr ⟨b,by simp,h⟩
  ·exact .inr ⟨x,by simp[c],h⟩
  ·exact .inr ⟨x,by simp[c],h⟩
 ·rintro (h|⟨x,c,h⟩)
  ·exact .inl (.inl (.inl h))
  ·simp only[lQ,lC] at c
   rcases c with rfl|c|c
   ·exact .inl (.inl (.inr h))
   ·exact .inr ⟨x,c,h⟩
   ·exact .inl (.inr ⟨x,c,h⟩)
theorem Kk {ft:List UInt8→Option (List Bool)}(hf:∀nm us,ft nm=some us→1≤us.length∧us.length≤6):∀(q:Q) (t:Nd) (T:Tk) (A:Nat→Prop) (ts:List Bool) (Gd:Bag→Prop) (R:World→Ow→Bag→Prop) (i:Nat) (f:Nat→Bag) (j:Nat),
 Ee T A ts Gd R→A9 ft q=some ts→wf q→Hk q t→(nds t).Nodup→(∀b∈nds t,¬A (b+2))→j<(Ac q).length →
 ∃us nm,(Ac q)[j]? =some nm∧ft nm=some us∧Ee (Eh q t T j) (fun a=>A a∨∃b∈nds t,a=b+2) us (fun B=>Qx ft q i (Ky f (i+j) B)∧Gd (Av (Ky f (i+j) B) i q)) (fun w O B=>R w O (Av (Ky f (i+j) B) i q)∧A8 q t T i (Ky f (i+j) B) w O)
 | .tab nm,.leaf,T,A,ts,Gd,R,i,f,j,p,G,_,_,_,_,H=>by
   have aq:j=0:=by simpa [Ac] using H
   subst aq
   refine⟨ts,nm,rfl,G,?_⟩
   have e:∀B,Av (Ky f (i+0) B) i (.tab nm)=B:=fun B=>by simp[Av,Ky]
   refine Et.conv p (fun a=>by simp[nds]) (fun h=>by have:=h.2;rwa [e] at this) (fun {B B'} h s=>⟨trivial,by rw[e];have:=h.2;rw[e] at this;exact p.gde this s⟩) (fun {w O B}=>by rw[e];simp[A8])
 | .sel c k x q,.one b t,T,A,ts,Gd,R,i,f,j,p,G,l,M,N,v,H=>by
   obtain⟨us,D,S⟩:=lG.1 (show (A9 ft q).bind (Mo.Dp c x)=some ts from G)
   have ab:=Mo.Fi hf q us l.2.2 D
   obtain⟨rfl,hO⟩:=Ys S ab.2 l.2.1
   have z:=mJ.1 N
   have ac:Ee (IU b) (fun a=>A a∨a=b+2) ts (fun B=>B0 ts B∧Gd (Cr (Ls c k x) B)) (fun w O B=>∃n,Jh n=k∧(R w O (Cr (Ls c k x) B)∧Qk w O b T.val n (.col c) x)) :=
    Et.ex (P:=fun n=>Jh n=k) (R:=fun n w O B=>R w O (Cr (Ls c k x) B)∧Qk w O b T.val n (.col c) x) (fun n ar=>by have:=Yp p b n (.col c) x ts hO (v b (by simp[nds]));rw[aF ar] at this;exact this) (OJ k)
   obtain⟨vs,nm,ad,ae,af⟩:=Kk hf q t (IU b) _ ts _ _ i f j ac D l.2.2 M z.2 (fun b' u h=>by
    rcases h with h|h
    ·exact v b' (by simp[nds,u]) h
    ·exact z.1 (by have:b'=b:=by omega
                   rw[←this];exact u)) H
   refine⟨vs,nm,ad,ae,Et.conv af LK (fun {B} h=>?_) (fun {B B'} h s=>?_) (fun {w O B}=>?_)⟩
   ·obtain⟨⟨U,a1,o⟩,m⟩:=h.1
    rw[D] at a1
    have:U=ts:=by simpa using a1.symm
    subst this
    exact⟨m,o,h.2⟩
   ·exact⟨D3 (.sel c k x q) i (fun g _ _=>Iu s g) h.1,p.gde h.2 (Mo.A7 (.sel c k x q) i fun g _ _=>Iu s g)⟩
   ·constructor
    ·rintro⟨⟨n,a1,o,m⟩,ag⟩;exact⟨o,⟨n,a1,m⟩,ag⟩
    ·rintro⟨o,⟨n,a1,m⟩,ag⟩;exact⟨⟨n,a1,o,m⟩,ag⟩
 | .pick cs q,.one b t,T,A,ts,Gd,R,i,f,j,p,G,l,M,N,v,H=>by
   obtain⟨us,D,S⟩:=lG.1 (show (A9 ft q).bind (Mo.Bt cs)=some ts from G)
   have ab:=Mo.Fi hf q us l.2.2.2 D;have z:=mJ.1 N
   have ac:=V3 p b cs us (fun y au=>by have:=(Mo.Fo S).1 y au;omega) l.2.1 (fun av=>Yt ab.2 l.2.1 av) (v b (by simp[nds]))
   obtain⟨vs,nm,ad,ae,af⟩:=Kk hf q t (Yr b) _ us _ _ i f j ac D l.2.2.2 M z.2 (fun b' u h=>by
    rcases h with h|h
    ·exact v b' (by simp[nds,u]) h
    ·exact z.1 (by have:b'=b:=by omega
                   rw[←this];exact u)) H
   refine⟨vs,nm,ad,ae,Et.conv af LK (fun {B} h=>?_) (fun {B B'} h s=>?_) (fun {w O B}=>?_)⟩
   ·obtain⟨⟨U,a1,o⟩,m⟩:=h.1
    rw[D] at a1
    have:U=us:=by simpa using a1.symm
    subst this
    exact⟨m,o,h.2⟩
   ·exact⟨D3 (.pick cs q) i (fun g _ _=>Iu s g) h.1,p.gde h.2 (Mo.A7 (.pick cs q) i fun g _ _=>Iu s g)⟩
   ·constructor
    ·rintro⟨⟨a1,o⟩,m⟩;exact⟨a1,o,m⟩
    ·rintro⟨a1,o,m⟩;exact⟨⟨a1,o⟩,m⟩
 | .dist _,.one _ _,_,_,_,_,_,_,_,_,_,_,l,_,_,_,_=>l.elim
 | .grp _ _ _,.one _ _,_,_,_,_,_,_,_,_,_,_,l,_,_,_,_=>l.elim
 | .join _ _ _ _,.two _ _ _,_,_,_,_,_,_,_,_,_,_,l,_,_,_,_=>l.elim
 | .uni q r,.two b t E,T,A,ts,Gd,R,i,f,j,p,G,l,M,N,v,H=>by
   obtain⟨us,D,S⟩:=lG.1 (show (A9 ft q).bind (fun ts=>(A9 ft r).bind fun us=>if ts=us then some ts else none)=some ts from G)
   obtain⟨vs,an,Y⟩:=lG.1 S
   have aw:us=vs∧us=ts:=by
    by_cases e:us=vs
    ·rw[if_pos e] at Y;exact⟨e,by simpa using Y⟩
    ·rw[if_neg e] at Y;cases Y
   obtain⟨rfl,rfl⟩:=aw
   have z:=mJ.1 N;have Z:=mO.1 z.2
   have a0:j<(Ac q).length+(Ac r).length:=by simpa [Ac] using H
   by_cases aa:j<(Ac q).length
   ·have ah:=Pp p b us (fun B=>B++Av f (i+(Ac q).length) r) (fun B d x=>by simp only[Mo.Am];omega) (fun e=>e.append (Be.refl _)) (v b (by simp[nds]))
    have ai:=Et.frame (T:=Mg b) ah (fun a=>∃x∈nds E,a=x+2) (fun w O=>A8 r E (Mg b) (i+(Ac q).length) f w O) (fun ⟨x,_,e⟩=>by omega) (fun ⟨x,_,e⟩=>by omega) (fun a C ⟨x,F,e⟩=>by
     rcases C with C|C
     ·rw[e] at C;exact v x (by simp[nds,F]) C
     ·exact z.1 (by have:x=b:=by omega
                    rw[←this];simp[F])) (fun aj ak al=>A8.stab ak r E _ _ al aj)
    obtain⟨xs,nm,a1,o,m⟩:=Kk hf q t (Mg b) _ us _ _ i f j ai D l.1 M.1 Z.1 (fun b' u h=>by
     rcases h with (h|h)|⟨x,F,e⟩
     ·exact v b' (by simp[nds,u]) h
     ·exact z.1 (by have:b'=b:=by omega
                    rw[←this];simp[u])
     ·exact Z.2.2 b' u x F (by omega)) aa
    have V:∀B,Av (Ky f (i+j) B) (i+(Ac q).length) r=Av f (i+(Ac q).length) r:=fun B=>Ds r _ fun g W X=>Mh (by omega)
    refine⟨xs,nm,by simp only[Ac];rw[lA aa];exact a1,o,?_⟩
    have am:Eh (.uni q r) (.two b t E) T j=Eh q t (Mg b) j:=by simp[Eh,aa]
    rw[am]
    refine Et.conv m DY (fun {B} h=>?_) (fun {B B'} h s=>?_) (fun {w O B}=>?_)
    ·obtain⟨⟨⟨U,c1,c2⟩,_⟩,e1,ao⟩:=h.1
     rw[D] at c1
     have:U=us:=by simpa using c1.symm
     subst this
     refine⟨e1,c2,?_⟩
     have:=h.2
     simp only[Av] at this
     rw[V] at this
     exact this
    ·exact⟨D3 (.uni q r) i (fun g _ _=>Iu s g) h.1,p.gde h.2 (Mo.A7 (.uni q r) i fun g _ _=>Iu s g)⟩
    ·simp only[Av,A8]
     rw[V]
     constructor
     ·rintro⟨⟨⟨I,J⟩,K⟩,L⟩
      exact⟨I,J,L,A8.ext r E _ _ (fun g W X=>(Mh (by omega)).symm) K⟩
     ·rintro⟨I,J,L,K⟩
      exact⟨⟨⟨I,J⟩,A8.ext r E _ _ (fun g W X=>Mh (by omega)) K⟩,L⟩
   ·have ah:=Pp p b us (fun B=>Av f i q++B) (fun B d x=>by simp only[Mo.Am];omega) (fun e=>(Be.refl _).append e) (v b (by simp[nds]))
    have ai:=Et.frame (T:=Mg b) ah (fun a=>∃x∈nds t,a=x+2) (fun w O=>A8 q t (Mg b) i f w O) (fun ⟨x,_,e⟩=>by omega) (fun ⟨x,_,e⟩=>by omega) (fun a C ⟨x,F,e⟩=>by
     rcases C with C|C
     ·rw[e] at C;exact v x (by simp[nds,F]) C
     ·exact z.1 (by have:x=b:=by omega
                    rw[←this];simp[F])) (fun aj ak al=>A8.stab ak q t _ _ al aj)
    obtain⟨xs,nm,a1,o,m⟩:=Kk hf r E (Mg b) _ us _ _ (i+(Ac q).length) f (j-(Ac q).length) ai an l.2 M.2 Z.2.1 (fun b' u h=>by
     rcases h with (h|h)|⟨x,F,e⟩
     ·exact v b' (by simp[nds,u]) h
     ·exact z.1 (by have:b'=b:=by omega
                    rw[←this];simp[u])
     ·exact Z.2.2 x F b' u (by omega)) (by omega)
    have ax:i+(Ac q).length+(j-(Ac q).length)=i+j:=by omega
    rw[ax] at m
    have V:∀B,Av (Ky f (i+j) B) i q=Av f i q:=fun B=>Ds q _ fun g W X=>Mh (by omega)
    refine⟨xs,nm,by simp only[Ac];rw[kY (by omega)];exact a1,o,?_⟩
    have am:Eh (.uni q r) (.two b t E) T j=Eh r E (Mg b) (j-(Ac q).length):=by simp[Eh,aa]
    rw[am]
    refine Et.conv m (fun a=>?_) (fun {B} h=>?_) (fun {B B'} h s=>?_) (fun {w O B}=>?_)
    ·rw[DY]
     simp only[nds,lQ,lC]
     constructor
     ·rintro (h|⟨x,h,e⟩)
      ·exact .inl h
      ·exact .inr ⟨x,h.imp id Or.symm,e⟩
     ·rintro (h|⟨x,h,e⟩)
      ·exact .inl h
      ·exact .inr ⟨x,h.imp id Or.symm,e⟩
    ·obtain⟨⟨_,⟨ay,ap,az⟩⟩,e1,ao⟩:=h.1
     rw[an] at ap
     have:ay=us:=by simpa using ap.symm
     subst this
     refine⟨ao,az,?_⟩
     have:=h.2
     simp only[Av] at this
     rw[V] at this
     exact this
    ·exact⟨D3 (.uni q r) i (fun g _ _=>Iu s g) h.1,p.gde h.2 (Mo.A7 (.uni q r) i fun g _ _=>Iu s g)⟩
    ·simp only[Av,A8]
     rw[V]
     constructor
     ·rintro⟨⟨⟨I,J⟩,K⟩,L⟩
      exact⟨I,J,A8.ext q t _ _ (fun g W X=>(Mh (by omega)).symm) K,L⟩
     ·rintro⟨I,J,K,L⟩
      exact⟨⟨⟨I,J⟩,A8.ext q t _ _ (fun g W X=>Mh (by omega)) K⟩,L⟩
theorem eC:(Tryz.prog.info? 143).map (fun i=>(i.zero,i.size,i.bytes))=some (some .nilIface,1,16):=by kernel_rfl
theorem Bc {w:World}{base:Nat}{e:TypeId}{size n:Nat}{v:Value}{xs:List Value}(h:w.ownsRow base e size v n xs){b:Nat}(a:v.ownBlock=some b):∃c d,w.heap[b]? =some (.cells c e d):=by
 rcases h.2 with ⟨f,_⟩|⟨g,cap,cur,rfl,_,hg,_⟩
 ·rw[f] at a;cases a
 ·have:g=b:=by simpa [Value.ownBlock] using a
  subst this;exact⟨_,_,hg⟩
theorem Cm {w w':World}{base:Nat}{e:TypeId}{size n:Nat}{v:Value}{xs:List Value}(h:w.ownsRow base e size v n xs)(a:∀b,v.ownBlock=some b→w'.heap[b]? =w.heap[b]?):w'.ownsRow base e size v n xs:=by
 refine⟨h.1,?_⟩
 rcases h.2 with hn|⟨g,cap,c,rfl,d,hg,f⟩
 ·exact .inl hn
 ·exact .inr ⟨g,cap,c,rfl,d,(a g rfl).trans hg,f⟩
theorem Q8 {w:World}{base:Nat}{e:TypeId}{size n:Nat}{v:Value}{xs:List Value}(h:w.ownsRow base e size v n xs):∃a n c,v=.slice a n c:=by
 rcases h.2 with ⟨b,_⟩|⟨g,cap,cur,b,_⟩
 ·exact⟨_,_,_,b⟩
 ·exact⟨_,_,_,b⟩
def iF (b:Nat)(cs:Array Value)(ty:TypeId)(v:Value)(Ts:List Value)(w:World)(e:Ending)(w':World):Prop :=
 e=.returned (.tuple #[])∧∃v',w'.heap[b]? =some (.cells (cs.setIfInBounds 0 v') ty (0,0))∧w'.ownsRow 0 143 1 v' Ts.length Ts∧(∀k,v'.ownBlock=some k→v.ownBlock=some k∨w.heap.size≤k)∧Ab (fun k=>k=b∨v.ownBlock=some k) w w'
theorem Wc (b:Nat)(cs:Array Value)(ty:TypeId)(q:ty≠143)(v:Value)(c:List Value)(d:TypeId)(p:Addr)(w:World)(g:w.heap[b]? =some (.cells cs ty (0,0)))(m:cs[0]? =some v)(h:w.ownsRow 0 143 1 v c.length c)(_:c.length≤1000000) :
 Calls Tryz.prog 64 #[.pointer (some ⟨b,0,none⟩),.iface d (.pointer (some p))] w (iF b cs ty v (c++[.iface d (.pointer (some p))]) w):=by
 obtain⟨C,hi,D,E,F⟩:=info_parts eC
 have G:=Aa g
 have Z:w.cell? ⟨b,0,none⟩=some v:=by rw[Ae g];exact m
 have s:∀k,v.ownBlock=some k→k≠b:=by
  rintro k f rfl
  obtain⟨H,I,a⟩:=Bc h f
  rw[g] at a;injection a with a;injection a with _ a;exact q a
 have J:=Q8 h;have K:=Ad g;have L:=Ad h;have M:=Ad s
 have N:∀j x,[Value.iface d (.pointer (some p))][j]? =some x→(w.alloc (.cells #[.iface d (.pointer (some p))] 143)).cell? ((⟨w.heap.size,0,none⟩:Addr).add j)=some x:=by
  intro j x a
  have O:j=0:=by have:=(kS.1 a).1;simp at this;exact this
  subst O
  have P:(⟨w.heap.size,0,none⟩:Addr).add 0=⟨w.heap.size,0,none⟩:=by simp[Addr.add]
  rw[P,Ae (heap_alloc_last _ _)]
  simpa using a
 obtain⟨va,t,u,rfl⟩:=J
 have Q:=m;clear g m h s
 go_enter Tryz.func64,Tryz.ntmps64
 go_wp2_with (first
  |(at_builtin;refine wpList_append_own_at _ rfl _ _ 121 rfl 0 143 C .nilIface 1 16 Tryz.underlying121 hi D E F rfl (by decide) (.slice va t u) c.length c rfl (L.o.alloc _) ⟨w.heap.size,0,none⟩ 1 1 [.iface d (.pointer (some p))] rfl rfl N (by simp[Value.oneCell']) (by unfold maxLen;omega) (by omega) (by simp) ?_;intro v' w5 n y R z;have o:Ab (fun k=>(Value.slice va t u).ownBlock=some k) w w5:=((Ab.refl _ w).alloc _).grown y (fun r e=>.inr e);have l:=(o.block b G (fun e=>M.o b e rfl)).trans K.o;have aa:=Aj l 0;have S:=Ae l 0;have T:=Q8 n;obtain⟨U,V,W,rfl⟩:=T;have A:=Ad n;have X:=Ad o;have B:=Ad l;have Y:=Ad z;rw[Q] at S;clear n y R z o l)
  |fail)
 refine bodyPost_ret (results_none rfl _ _ _) rfl ?_
 refine⟨rfl,.slice U V W,Ap B.o _ _,?_,?_,(X.o.mono fun i _ e=>.inr e).setCell (.inr (.inl rfl)) _⟩
 ·refine Cm (w:=w5) ?_ (fun k f=>Below.heap_setCell _ _ _ _ ?_)
  ·have:=A.o
   rw[show (c++[Value.iface d (.pointer (some p))]).length=c.length+1 by simp]
   exact this
  ·show k≠b
   rintro rfl
   obtain⟨H,I,a⟩:=Bc A.o f
   rw[B.o] at a;injection a with a;injection a with _ a;exact q a
 ·intro k f
  rcases Y.o with e|e
  ·exact .inl (e ▸ f)
  ·rw[e] at f
   right
   have:(w.alloc (.cells #[Value.iface d (.pointer (some p))] 143)).heap.size=k:=by simpa using f
   simp at this;omega
open Mo (V Row Cy)
def LL (ty tb:TypeId)(c0:Array Value)(w:World)(e:Ending)(w':World):Prop :=
 e=.returned (.iface ty (.pointer (some ⟨w.heap.size,0,none⟩)))∧w'.heap[w.heap.size]? =some (.cells c0 tb (0,0))∧Ab No w w'
theorem Ax {w:World}{P:Nat}{h:Hd}{lv iv:Value}(a:w.heap[P]? =some (.cells (A0 h lv iv) 139 (0,0))) :
 w.cell? ⟨P,0,none⟩=some (.int .i64 (h.k:Int))∧w.cell? ⟨P,2,none⟩=some (.int .i64 (h.cmp:Int))∧w.cell? ⟨P,19,none⟩=some lv∧w.rangeAt P 3 (Vq h.l)∧w.rangeAt P 11 (Vq h.r)∧w.rangeAt P 20 (Vq h.w)∧w.cell? ⟨P,28,none⟩=some iv∧w.cell? ⟨P,1,none⟩=some (.string ⟨h.nm.toArray⟩):=by
 refine⟨(Ae a 0).trans rfl,(Ae a 2).trans rfl,(Ae a 19).trans rfl,fun j v hv=>?_,fun j v hv=>?_,fun j v hv=>?_,(Ae a 28).trans rfl,(Ae a 1).trans rfl⟩
 all_goals
  rw[Ae a]
  have b:=(kS.1 hv).1
  match j,b with
  |0,_|1,_|2,_|3,_|4,_|5,_|6,_|7,_=>simpa [Vq,A0] using hv
theorem AM (P:Nat)(h:Hd)(b:h.k=5)(lv iv:Value)(w:World)(a:w.heap[P]? =some (.cells (A0 h lv iv) 139 (0,0))) :
 Calls Tryz.prog 113 #[.pointer (some ⟨P,0,none⟩)] w (LL 287 289 #[sN] w):=by
 have c:=(Ax a).1
 rw[b] at c
 clear a
 go_enter Tryz.func113,Tryz.ntmps113
 go_wp2_with fail;go_ret
 exact⟨rfl,heap_alloc_last _ _,(Ab.refl No w).alloc _⟩
theorem Xu (P:Nat)(h:Hd)(e:h.k=3)(b:Option Addr)(c d:Nat)(iv:Value)(w:World)(a:w.heap[P]? =some (.cells (A0 h (.slice b c d) iv) 139 (0,0))) :
 Calls Tryz.prog 113 #[.pointer (some ⟨P,0,none⟩)] w (LL 278 280 #[sN,.slice b c d] w):=by
 have f:=(Ax a).1;have c1:=(Ax a).2.2.1
 rw[e] at f
 clear a
 go_enter Tryz.func113,Tryz.ntmps113
 go_wp2_with fail;go_ret
 exact⟨rfl,heap_alloc_last _ _,(Ab.refl No w).alloc _⟩
set_option linter.unusedSimpArgs false
theorem AN (P:Nat)(h:Hd)(m:h.k=2)(lv iv:Value)(w:World)(c:w.heap[P]? =some (.cells (A0 h lv iv) 139 (0,0))) :
 Calls Tryz.prog 113 #[.pointer (some ⟨P,0,none⟩)] w (LL 275 277 (On sN h.cmp h.l h.r) w):=by
 have d:=(Ax c).1
 rw[m] at d
 have e:=Ad c
 have f:oH (∀w:World,w.heap[P]? =some (.cells (A0 h lv iv) 139 (0,0))→(loadVar 135 ⟨P,3,none⟩).run Tryz.prog w=.ok (.agg #[.bool (Xr h.l),.int .i64 (G0 h.l:Int),.int .i32 (kI (vO h.l)),.int .u8 (tB (vO h.l) 0),.int .u8 (tB (vO h.l) 1),.int .u8 (tB (vO h.l) 2),.int .u8 (tB (vO h.l) 3),.int .i64 (nI (vO h.l))]) w):=fun w b=>run_loadVar_mid w P 3 135 (Vq h.l) _ (Ax b).2.2.2.1 Tryz.underlying135 rfl Tq
 have g:oH (∀w:World,w.heap[P]? =some (.cells (A0 h lv iv) 139 (0,0))→(loadVar 135 ⟨P,11,none⟩).run Tryz.prog w=.ok (.agg #[.bool (Xr h.r),.int .i64 (G0 h.r:Int),.int .i32 (kI (vO h.r)),.int .u8 (tB (vO h.r) 0),.int .u8 (tB (vO h.r) 1),.int .u8 (tB (vO h.r) 2),.int .u8 (tB (vO h.r) 3),.int .i64 (nI (vO h.r))]) w):=fun w b=>run_loadVar_mid w P 11 135 (Vq h.r) _ (Ax b).2.2.2.2.1 Tryz.underlying135 rfl Tq
 have i:oH (∀w:World,w.heap[P]? =some (.cells (A0 h lv iv) 139 (0,0))→w.cell? ⟨P,2,none⟩=some (.int .i64 (h.cmp:Int))):=fun w b=>(Ax b).2.1
 have n:=Aa c;clear c
 go_enter Tryz.func113,Tryz.ntmps113
 go_wp2_with fail;clear d
 refine wp_region_held_drew (S:=fun w'=>w'.heap[P]? =some (.cells (A0 h lv iv) 139 (0,0))) (by kernel_rfl) e.o (fun a=>?_)
 refine Bo 0 (.pointer (some ⟨P,0,none⟩)) a ?_
 try simp only[Act.put,B6,B7,B8,B9,Ca,Cb]
 refine Bo 1 (.pointer (some ⟨P,0,none⟩)) a ?_
 try simp only[Act.put,B6,B7,B8,B9,Ca,Cb]
 refine Bo 2 (.pointer (some ⟨P,2,none⟩)) a ?_
 try simp only[Act.put,B6,B7,B8,B9,Ca,Cb]
 refine AC 3 (.int .i64 (h.cmp:Int)) 129 (.tmp 11) (P) (2) (fun w h=>i.o w h) a ?_
 try simp only[Act.put,B6,B7,B8,B9,Ca,Cb]
 refine Bo 4 (.pointer (some ⟨P,0,none⟩)) a ?_
 try simp only[Act.put,B6,B7,B8,B9,Ca,Cb]
 refine Bo 5 (.pointer (some ⟨P,0,none⟩)) a ?_
 try simp only[Act.put,B6,B7,B8,B9,Ca,Cb]
 refine Bo 6 (.pointer (some ⟨P,3,none⟩)) a ?_
 try simp only[Act.put,B6,B7,B8,B9,Ca,Cb]
 refine AD 7 (.agg #[.bool (Xr h.l),.int .i64 (G0 h.l:Int),.int .i32 (kI (vO h.l)),.int .u8 (tB (vO h.l) 0),.int .u8 (tB (vO h.l) 1),.int .u8 (tB (vO h.l) 2),.int .u8 (tB (vO h.l) 3),.int .i64 (nI (vO h.l))]) 135 (.tmp 15) (P) (3) (fun w h=>f.o w h) a ?_
 try simp only[Act.put,B6,B7,B8,B9,Ca,Cb]
 refine Bo 8 (.pointer (some ⟨P,0,none⟩)) a ?_
 try simp only[Act.put,B6,B7,B8,B9,Ca,Cb]
 refine Bo 9 (.pointer (some ⟨P,0,none⟩)) a ?_
 try simp only[Act.put,B6,B7,B8,B9,Ca,Cb]
 refine Bo 10 (.pointer (some ⟨P,11,none⟩)) a ?_
 try simp only[Act.put,B6,B7,B8,B9,Ca,Cb]
 refine AD 11 (.agg #[.bool (Xr h.r),.int .i64 (G0 h.r:Int),.int .i32 (kI (vO h.r)),.int .u8 (tB (vO h.r) 0),.int .u8 (tB (vO h.r) 1),.int .u8 (tB (vO h.r) 2),.int .u8 (tB (vO h.r) 3),.int .i64 (nI (vO h.r))]) 135 (.tmp 19) (P) (11) (fun w h=>g.o w h) a ?_
 try simp only[Act.put,B6,B7,B8,B9,Ca,Cb]
 refine Bo 12 (.agg #[sN,.int .i64 (h.cmp:Int),.bool (Xr h.l),.int .i64 (G0 h.l:Int),.int .i32 (kI (vO h.l)),.int .u8 (tB (vO h.l) 0),.int .u8 (tB (vO h.l) 1),.int .u8 (tB (vO h.l) 2),.int .u8 (tB (vO h.l) 3),.int .i64 (nI (vO h.l)),.bool (Xr h.r),.int .i64 (G0 h.r:Int),.int .i32 (kI (vO h.r)),.int .u8 (tB (vO h.r) 0),.int .u8 (tB (vO h.r) 1),.int .u8 (tB (vO h.r) 2),.int .u8 (tB (vO h.r) 3),.int .i64 (nI (vO h.r))]) a ?_
 try simp only[Act.put,B6,B7,B8,B9,Ca,Cb]
 refine Kf 13 (fun K j=>?_)
 go_simp;have o:((w.alloc (.cells #[sN,.int .i64 (h.cmp:Int),.bool (Xr h.l),.int .i64 (G0 h.l:Int),.int .i32 (kI (vO h.l)),.int .u8 (tB (vO h.l) 0),.int .u8 (tB (vO h.l) 1),.int .u8 (tB (vO h.l) 2),.int .u8 (tB (vO h.l) 3),.int .i64 (nI (vO h.l)),.bool (Xr h.r),.int .i64 (G0 h.r:Int),.int .i32 (kI (vO h.r)),.int .u8 (tB (vO h.r) 0),.int .u8 (tB (vO h.r) 1),.int .u8 (tB (vO h.r) 2),.int .u8 (tB (vO h.r) 3),.int .i64 (nI (vO h.r))] 277)).drew).heap[P]? =some (.cells (A0 h lv iv) 139 (0,0)):=(Below.heap_alloc _ _ _ n).trans e.o;have k:oH (((w.alloc (.cells #[sN,.int .i64 (h.cmp:Int),.bool (Xr h.l),.int .i64 (G0 h.l:Int),.int .i32 (kI (vO h.l)),.int .u8 (tB (vO h.l) 0),.int .u8 (tB (vO h.l) 1),.int .u8 (tB (vO h.l) 2),.int .u8 (tB (vO h.l) 3),.int .i64 (nI (vO h.l)),.bool (Xr h.r),.int .i64 (G0 h.r:Int),.int .i32 (kI (vO h.r)),.int .u8 (tB (vO h.r) 0),.int .u8 (tB (vO h.r) 1),.int .u8 (tB (vO h.r) 2),.int .u8 (tB (vO h.r) 3),.int .i64 (nI (vO h.r))] 277)).drew).heap[w.heap.size]? =some (.cells (On sN h.cmp h.l h.r) 277 (0,0))):=heap_alloc_last _ _
 have l:oH (Ab No w ((w.alloc (.cells #[sN,.int .i64 (h.cmp:Int),.bool (Xr h.l),.int .i64 (G0 h.l:Int),.int .i32 (kI (vO h.l)),.int .u8 (tB (vO h.l) 0),.int .u8 (tB (vO h.l) 1),.int .u8 (tB (vO h.l) 2),.int .u8 (tB (vO h.l) 3),.int .i64 (nI (vO h.l)),.bool (Xr h.r),.int .i64 (G0 h.r:Int),.int .i32 (kI (vO h.r)),.int .u8 (tB (vO h.r) 0),.int .u8 (tB (vO h.r) 1),.int .u8 (tB (vO h.r) 2),.int .u8 (tB (vO h.r) 3),.int .i64 (nI (vO h.r))] 277)).drew)):=((Ab.refl No w).alloc _).drew
 refine j.out _ _ o (fun a=>?_)
 clear j K
 try simp only[Act.put,B6,B7,B8,B9,Ca,Cb]
 refine Bo 14 (.iface 275 (.pointer (some ⟨w.heap.size,0,none⟩))) a ?_
 try simp only[Act.put,B6,B7,B8,B9,Ca,Cb]
 refine Bo 15 (.iface 275 (.pointer (some ⟨w.heap.size,0,none⟩))) a ?_
 try simp only[Act.put,B6,B7,B8,B9,Ca,Cb]
 refine wpAnyH_done (by kernel_rfl) ?_ _
 clear a f g i
 try simp only[Act.put,B6,B7,B8,B9,Ca,Cb]
 generalize (w.alloc (.cells #[sN,.int .i64 (h.cmp:Int),.bool (Xr h.l),.int .i64 (G0 h.l:Int),.int .i32 (kI (vO h.l)),.int .u8 (tB (vO h.l) 0),.int .u8 (tB (vO h.l) 1),.int .u8 (tB (vO h.l) 2),.int .u8 (tB (vO h.l) 3),.int .i64 (nI (vO h.l)),.bool (Xr h.r),.int .i64 (G0 h.r:Int),.int .i32 (kI (vO h.r)),.int .u8 (tB (vO h.r) 0),.int .u8 (tB (vO h.r) 1),.int .u8 (tB (vO h.r) 2),.int .u8 (tB (vO h.r) 3),.int .i64 (nI (vO h.r))] 277)).drew=w5 at k l⊢;go_wp2_with fail;go_ret
 exact⟨rfl,k.o,l.o⟩
theorem OK (n:Nat)(a:n=1∨n=2)(w:World) :
 Calls Tryz.prog 179 #[.int .u64 1,.int .u64 (n:Int)] w fun e w'=>e=.returned (.tuple #[.int .u64 0,.int .u64 (n:Int)])∧w'=w:=by
 rcases a with rfl|rfl
 ·go_enter Tryz.func179,Tryz.ntmps179
  go_wp2
  go_ret2
  exact⟨rfl,rfl⟩
 ·go_enter Tryz.func179,Tryz.ntmps179
  go_wp2
  go_ret2
  exact⟨rfl,rfl⟩
theorem LM (n:Nat)(a:n=1∨n=2)(w:World) :
 Calls Tryz.prog 150 #[.int .u64 1,.int .u64 (n:Int)] w fun e w'=>e=.returned (.tuple #[.int .u64 0,.int .u64 (n:Int)])∧w'=w:=by
 have b:=Ad (OK n a);clear a
 go_enter Tryz.func150,Tryz.ntmps150
 go_wp2_with fail;refine (b.o _).mono ?_;rintro e c ⟨rfl,rfl⟩;go_wp2_with fail;go_ret2
 exact⟨rfl,rfl⟩
theorem UI (w:World):(Instr.makeSlice 121 (.int .i64 1) (.int .i64 1)).run Tryz.prog w=.ok (.slice (some ⟨w.heap.size,0,none⟩) 1 1) (w.alloc (.cells #[.nilIface] 143)):=by kernel_rfl
theorem UJ (w:World):(Instr.makeSlice 121 (.int .i64 2) (.int .i64 2)).run Tryz.prog w=.ok (.slice (some ⟨w.heap.size,0,none⟩) 2 2) (w.alloc (.cells #[.nilIface,.nilIface] 143)):=by kernel_rfl
theorem LN:(Tryz.prog.info? 143).map (·.size)=some 1:=by kernel_rfl
theorem AO (w:World)(d o b g s so h:Nat)(T:Value)(a:Array Value)(t:TypeId)(k:w.heap[d]? =some (.cells a t (0,0)))(l:w.cell? ⟨s,so,none⟩=some T)(m:1≤b)(ho:o<a.size)(n:T.oneCell'=true) :
 (Builtin.copy_ #[121,121] 3 #[.slice (some ⟨d,o,none⟩) b g,.slice (some ⟨s,so,none⟩) 1 h]).run Tryz.prog w=.ok (.int .i64 1) (w.setRow d (a.toList.take o++[T]++a.toList.drop (o+1)).toArray):=by
 have e:=run_loadCells_list (P:=Tryz.prog) w ⟨s,so,none⟩ [T] (fun j v hv=>by
  have p:j=0:=by have:=(kS.1 hv).1;simp at this;exact this
  subst p
  have q:(⟨s,so,none⟩:Addr).add 0=⟨s,so,none⟩:=by simp[Addr.add]
  rw[q,l];simpa using hv)
 have f:=run_storeCells_at Tryz.prog d o t [T] 0 a w k (by simp;omega) (by intro v hv;simp at hv;subst hv;exact n)
 simp only[Nat.add_zero,lY] at f e
 have r:Nat.min 1 b=1:=Nat.min_eq_left m
 cases c:Tryz.prog.info? 143 with
 |none=>have:=LN;simp[c] at this
 |some i =>
  have hi:i.size=1:=by have:=LN;simpa [c] using this
  simp[Builtin.copy_,run_underlying Tryz.underlying121,Builtin.lenOf,Builtin.firstCells,sizeOf,typeInfo,c,hi,r,e,f,goInt]
theorem IV (g:Nat)(w:World)(a:TypeId)(p:Addr)(hg:w.heap[g]? =some (.cells #[.iface a (.pointer (some p))] 143 (0,0))) :
 Calls Tryz.prog 114 #[.slice (some ⟨g,0,none⟩) 1 1,.int .i64 1] w fun e w'=>e=.returned (.slice (some ⟨w.heap.size,0,none⟩) 1 1)∧w'.heap[w.heap.size]? =some (.cells #[.iface a (.pointer (some p))] 143 (0,0))∧Ab No w w':=by
 have h:=UI;have c:=Ad (LM 1 (.inl rfl));have d:=Aa hg;have c1:(w.alloc (.cells #[.nilIface] 143)).cell? ⟨g,0,none⟩=some (.iface a (.pointer (some p))):=(World.cell?_of_block (Below.heap_alloc _ _ _ d)).trans ((Ae hg 0).trans rfl)
 have b:=AO (w.alloc (.cells #[.nilIface] 143)) w.heap.size 0 1 1 g 0 1 _ #[.nilIface] 143 (heap_alloc_last _ _) c1 (by omega) (by simp) rfl
 rw[World.setRow_alloc_new] at b
 simp only[List.take_zero,mU,List.drop_succ_cons,List.drop_zero,nR] at b
 clear hg c1
 go_enter Tryz.func114,Tryz.ntmps114
 go_wp2_with fail;refine (c.o _).mono ?_;rintro e i ⟨rfl,f⟩;subst f;go_wp2_with fail;refine wp_loop_rounds 1 ?_
 rw[rounds_succ]
 go_wp2_with fail;go_ret
 exact⟨rfl,heap_alloc_last _ _,(Ab.refl No _).alloc _⟩
theorem IW (g:Nat)(w:World)(a:TypeId)(p:Addr)(hg:w.heap[g]? =some (.cells #[.iface a (.pointer (some p))] 143 (0,0))) :
 Calls Tryz.prog 114 #[.slice (some ⟨g,0,none⟩) 1 1,.int .i64 2] w fun e w'=>e=.returned (.slice (some ⟨w.heap.size,0,none⟩) 2 2)∧w'.heap[w.heap.size]? =some (.cells #[.iface a (.pointer (some p)),.iface a (.pointer (some p))] 143 (0,0))∧Ab No w w':=by
 have s:=UJ;have m:=Ad (LM 2 (.inr rfl));have n:=Aa hg;have c1:(w.alloc (.cells #[.nilIface,.nilIface] 143)).cell? ⟨g,0,none⟩=some (.iface a (.pointer (some p))):=(World.cell?_of_block (Below.heap_alloc _ _ _ n)).trans ((Ae hg 0).trans rfl)
 have f:=AO (w.alloc (.cells #[.nilIface,.nilIface] 143)) w.heap.size 0 2 2 g 0 1 _ #[.nilIface,.nilIface] 143 (heap_alloc_last _ _) c1 (by omega) (by simp) rfl
 rw[World.setRow_alloc_new] at f
 simp only[List.take_zero,mU,List.drop_succ_cons,List.drop_zero,List.singleton_append] at f
 have c2:((w.alloc (.cells #[.iface a (.pointer (some p)),.nilIface] 143)).drew).cell? ⟨w.heap.size,0,none⟩=some (.iface a (.pointer (some p))):=(Ae (heap_alloc_last _ _) 0).trans rfl
 obtain⟨c,h,i,j⟩:∃c,(Builtin.copy_ #[121,121] 3 #[.slice (some ⟨w.heap.size,1,none⟩) 1 1,.slice (some ⟨w.heap.size,0,none⟩) 1 2]).run Tryz.prog ((w.alloc (.cells #[.iface a (.pointer (some p)),.nilIface] 143)).drew)=.ok (.int .i64 1) c∧c.heap[w.heap.size]? =some (.cells #[.iface a (.pointer (some p)),.iface a (.pointer (some p))] 143 (0,0))∧Ab No w c :=
  ⟨_,AO ((w.alloc (.cells #[.iface a (.pointer (some p)),.nilIface] 143)).drew) w.heap.size 1 1 1 w.heap.size 0 2 _ #[.iface a (.pointer (some p)),.nilIface] 143 (heap_alloc_last _ _) c2 (by omega) (by simp) rfl,D8 (heap_alloc_last _ _),Dq (((Ab.refl No w).alloc _).drew) (.inl (kZ _)) _⟩
 have k:=Ad h;have o:=Ad i;have q:=Ad j;clear h i j;clear hg c1 c2
 go_enter Tryz.func114,Tryz.ntmps114
 go_wp2_with fail;refine (m.o _).mono ?_;rintro e d ⟨rfl,r⟩;subst r;go_wp2_with fail;refine wp_loop_rounds 2 ?_
 rw[rounds_succ]
 go_wp2_with fail
 refine wp_region_held_drew (S:=fun _=>True) (by kernel_rfl) trivial (fun b=>?_)
 refine Bo 0 (.int .i64 1) b ?_
 try simp only[Act.put,B6,B7,B8,B9,Ca,Cb]
 refine Bo 1 (.slice (some ⟨d.heap.size,0,none⟩) 2 2) b ?_
 try simp only[Act.put,B6,B7,B8,B9,Ca,Cb]
 refine Bo 2 (.int .i64 1) b ?_
 try simp only[Act.put,B6,B7,B8,B9,Ca,Cb]
 refine Bo 3 (.slice (some ⟨d.heap.size,1,none⟩) 1 1) b ?_
 try simp only[Act.put,B6,B7,B8,B9,Ca,Cb]
 refine Bo 4 (.slice (some ⟨d.heap.size,0,none⟩) 2 2) b ?_
 try simp only[Act.put,B6,B7,B8,B9,Ca,Cb]
 refine Bo 5 (.int .i64 1) b ?_
 try simp only[Act.put,B6,B7,B8,B9,Ca,Cb]
 refine Bo 6 (.slice (some ⟨d.heap.size,0,none⟩) 1 2) b ?_
 try simp only[Act.put,B6,B7,B8,B9,Ca,Cb]
 refine Kf 7 (fun K l=>?_)
 refine Qj (by kernel_rfl) (.tmp 41) (.tmp 44) _ _ (by kernel_rfl) _ _ (by kernel_rfl) (by kernel_rfl) k.o ?_
 refine l.out _ _ trivial (fun b=>?_)
 clear l K
 try simp only[Act.put,B6,B7,B8,B9,Ca,Cb]
 have t:IntKind.i64.wrap 2=2:=by decide
 refine Bo 8 (.int .i64 2) b ?_
 try simp only[Act.put,B6,B7,B8,B9,Ca,Cb]
 refine Bo 9 (.int .i64 2) b ?_
 try simp only[Act.put,B6,B7,B8,B9,Ca,Cb]
 refine wpAnyH_done (by kernel_rfl) ?_ _
 clear b k f
 try simp only[Act.put,B6,B7,B8,B9,Ca,Cb]
 go_wp2_with fail
 rw[rounds_succ]
 go_wp2_with fail;go_ret
 exact⟨rfl,o.o,q.o⟩
open Mo (V Row Cy Bag)
def jI (w:World)(sv:Value)(Ts:List Value):Prop:=∃g cap cs z,sv=.slice (some ⟨g,0,none⟩) Ts.length cap∧w.heap[g]? =some (.cells cs 143 z)∧∀(i:Nat) (T:Value),Ts[i]? =some T→cs[i]? =some T
def Wd (tb:TypeId)(c0:Array Value)(T:Value)(out:Nat→List Value)(w:World)(e:Ending)(w':World):Prop :=
 ∃sv v',e=.returned sv∧w'.heap[w.heap.size]? =some (.cells (c0.setIfInBounds 0 v') tb (0,0))∧w'.ownsRow 0 143 1 v' 1 [T]∧(∀k,v'.ownBlock=some k→w.heap.size<k)∧jI w' sv (out w.heap.size)∧(∀g,sv.ownBlock=some g→w.heap.size<g∧v'.ownBlock≠some g)∧Ab No w w'
structure AP (tt:TypeId):Prop where
 nil:∀(b:Nat) (w:World),(nilAhead 496 tt (.pointer (some ⟨b,0,none⟩)) "ripple/ripple.giveTo").run Tryz.prog w=.ok (some false) w
 met:∀(b:Nat) (w:World),(method 496 tt (.pointer (some ⟨b,0,none⟩)) "ripple/ripple.giveTo").run Tryz.prog w=.ok (64,.pointer (some ⟨b,0,none⟩)) w
theorem UK:AP 275:=⟨fun _ _=>by kernel_rfl,fun _ _=>by kernel_rfl⟩
theorem OL:AP 278:=⟨fun _ _=>by kernel_rfl,fun _ _=>by kernel_rfl⟩
theorem UL:AP 287:=⟨fun _ _=>by kernel_rfl,fun _ _=>by kernel_rfl⟩
theorem We (P:Nat)(h:Hd)(V:h.k≤7)(_:h.k≠4)(I:Pl.Co h.k=1∨Pl.Co h.k=2)(lv iv:Value)(c tb:TypeId)(J:tb≠143)(W:AP c)(n:Array Value)(X:n[0]? =some sN)(ty:TypeId)(p:Addr)(w:World)(v:w.heap[P]? =some (.cells (A0 h lv iv) 139 (0,0)))
 (K:Calls Tryz.prog 113 #[.pointer (some ⟨P,0,none⟩)] w (LL c tb n w)) :
 Calls Tryz.prog 65 #[.pointer (some ⟨P,0,none⟩),.iface ty (.pointer (some p))] w (Wd tb n (.iface ty (.pointer (some p))) (fun b=>List.replicate (Pl.Co h.k) (.iface c (.pointer (some ⟨b,0,none⟩)))) w):=by
 have Y:=(Ax v).1
 have ah:((h.k:Int) == 4)=false:=by simp;omega
 have Z:=Ad v;have aa:=Aa v;have ab:=Ad K;have ai:=W.met;have ac:=Ad (Vs h.k V);have l:=I;clear v K I
 go_enter Tryz.func65,Tryz.ntmps65
 go_wp2_with fail;refine ab.o.mono ?_;rintro e ad ⟨rfl,L,M⟩
 have N:=Ad (Wc w.heap.size n tb J sN [] ty p ad L X (World.ownsRow_nil _ _ _ _) (by simp))
 have O:=Ad M;clear L M;go_wp2_with fail;refine N.o.mono ?_;rintro e a ⟨rfl,v',B,C,Q,R⟩
 have D:Ab No w a:=O.o.trans R (fun _ e=>e) (fun i hi e=>by
  rcases e with e|e
  ·omega
  ·cases e)
 have S:=Ad D;have E:a.heap[P]? =some (.cells (A0 h lv iv) 139 (0,0)):=(D.block P aa oI).trans Z.o;have U:(a.alloc (.cells #[.iface c (.pointer (some ⟨w.heap.size,0,none⟩))] 143)).cell? ⟨P,0,none⟩=some (.int .i64 (h.k:Int)):=(World.cell?_of_block (Below.heap_alloc _ _ _ (Aa E))).trans (Ax E).1;have f:=Ad B;have j:=Ad C
 have x:oH (∀k,v'.ownBlock=some k→w.heap.size<k):=fun k o=>by
  rcases Q k o with e|e
  ·cases e
  ·obtain⟨y,z,d⟩:=Bc C o
   have aj:k≠w.heap.size:=by
    rintro rfl
    rw[B] at d;injection d with d;injection d with _ d;exact J d
   have:=O.o.size
   omega
 have A:oH ((a.alloc (.cells #[.iface c (.pointer (some ⟨w.heap.size,0,none⟩))] 143)).heap[a.heap.size]? =some (.cells #[.iface c (.pointer (some ⟨w.heap.size,0,none⟩))] 143 (0,0))):=heap_alloc_last _ _;clear B C Q R D E N Y;go_wp2_with fail;refine (ac.o _).mono ?_;rintro e w3 ⟨rfl,ae⟩;subst ae
 rcases l with l|l
 ·rw[l]
  have q:=Ad (IV a.heap.size _ c ⟨w.heap.size,0,none⟩ A.o);clear U;go_wp2_with fail;refine q.o.mono ?_;rintro e w5 ⟨rfl,r,s⟩
  have t:oH (Wd tb n (.iface ty (.pointer (some p))) (fun b=>List.replicate 1 (.iface c (.pointer (some ⟨b,0,none⟩)))) w (.returned (.slice (some ⟨(a.alloc (.cells #[.iface c (.pointer (some ⟨w.heap.size,0,none⟩))] 143)).heap.size,0,none⟩) 1 1)) w5):=by
   have m:Ab No a w5:=((Ab.refl No a).alloc _).seq s
   refine⟨_,v',rfl,(m.block _ (Aa f.o) oI).trans f.o,Cm j.o (fun k o=>?_),x.o,⟨_,1,_,_,rfl,r,fun i T F=>?_⟩,(fun g hg=>?_),S.o.seq m⟩
   ·obtain⟨y,z,d⟩:=Bc j.o o
    exact m.block k (Aa d) oI
   ·simpa using F
   ·have e:(a.alloc (.cells #[.iface c (.pointer (some ⟨w.heap.size,0,none⟩))] 143)).heap.size=g:=by simpa [Value.ownBlock] using hg
    have af:a.heap.size+1=g:=by simpa using e
    have ag:=Aa f.o
    refine⟨by omega,fun G=>?_⟩
    obtain⟨y,z,d⟩:=Bc j.o G
    have:=Aa d
    omega
  have u:(a.alloc (.cells #[.iface c (.pointer (some ⟨w.heap.size,0,none⟩))] 143)).heap.size=a.heap.size+1:=by simp
  rw[u] at t
  have H:=Ad l;clear r s q A f j x u;go_wp2_with fail;go_ret
  rw[H.o]
  exact t.o
 ·rw[l]
  have q:=Ad (IW a.heap.size _ c ⟨w.heap.size,0,none⟩ A.o);clear U;go_wp2_with fail;refine q.o.mono ?_;rintro e w5 ⟨rfl,r,s⟩
  have t:oH (Wd tb n (.iface ty (.pointer (some p))) (fun b=>List.replicate 2 (.iface c (.pointer (some ⟨b,0,none⟩)))) w (.returned (.slice (some ⟨(a.alloc (.cells #[.iface c (.pointer (some ⟨w.heap.size,0,none⟩))] 143)).heap.size,0,none⟩) 2 2)) w5):=by
   have m:Ab No a w5:=((Ab.refl No a).alloc _).seq s
   refine⟨_,v',rfl,(m.block _ (Aa f.o) oI).trans f.o,Cm j.o (fun k o=>?_),x.o,⟨_,2,_,_,rfl,r,fun i T F=>?_⟩,(fun g hg=>?_),S.o.seq m⟩
   ·obtain⟨y,z,d⟩:=Bc j.o o
    exact m.block k (Aa d) oI
   ·simpa [List.replicate] using F
   ·have e:(a.alloc (.cells #[.iface c (.pointer (some ⟨w.heap.size,0,none⟩))] 143)).heap.size=g:=by simpa [Value.ownBlock] using hg
    have af:a.heap.size+1=g:=by simpa using e
    have ag:=Aa f.o
    refine⟨by omega,fun G=>?_⟩
    obtain⟨y,z,d⟩:=Bc j.o G
    have:=Aa d
    omega
  have u:(a.alloc (.cells #[.iface c (.pointer (some ⟨w.heap.size,0,none⟩))] 143)).heap.size=a.heap.size+1:=by simp
  rw[u] at t
  have H:=Ad l;clear r s q A f j x u;go_wp2_with fail;go_ret
  rw[H.o]
  exact t.o
end Go.Proofs.YtdinjjmcmfjbfaaGreatDoor
