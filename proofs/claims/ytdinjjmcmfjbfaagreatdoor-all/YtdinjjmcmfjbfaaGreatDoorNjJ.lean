import Derived.Test.YtdinjjmcmfjbfaaGreatDoorNwJ
set_option maxRecDepth 100000
set_option maxHeartbeats 4000000
namespace Go.Proofs.YtdinjjmcmfjbfaaGreatDoor
open Go.RowKit Go.Shelf Mo Pl Tryz
def I0:Q→Nd→Prop
 | .tab _,.leaf=>True
 | .sel _ _ _ q,.one _ t=>I0 q t
 | .pick _ q,.one _ t=>I0 q t
 | .dist q,.one _ t=>I0 q t
 | .grp _ _ q,.one _ t=>I0 q t
 | .join _ _ q r,.two _ t u=>I0 q t∧I0 r u
 | .uni q r,.two _ t u=>I0 q t∧I0 r u
 |_,_=>False
theorem C9.ex {T:Tk}{A:Nat→Prop}{ts:List Bool}{Gd:Bag→Prop}{P:Nat→Prop}{R:Nat→World→Ow→Bag→Prop}(h:∀n,P n→E9 T A ts Gd (R n))(g:∃n,P n):E9 T A ts Gd (fun w O B=>∃n,P n∧R n w O B):=by
 obtain⟨n0,i⟩:=g;have b:=h n0 i;refine⟨b.zero,b.one,b.ok,b.gde,?_,?_,b.met,?_⟩
 ·rintro w w' O f B ⟨n,a,hr⟩ j k;exact⟨n,a,(h n a).stab hr j k⟩
 ·rintro w O B v ⟨n,a,hr⟩ e;exact⟨n,a,(h n a).eqv hr e⟩
 rintro w O B d c ⟨n,a,hr⟩ l m o p;refine ((h n a).run w O B d c hr l m o p).mono fun e w' q=>?_;obtain⟨r,f,s,t,u⟩:=q;exact⟨r,f,s,t,n,a,u⟩
theorem VW (k:Qb):∃n,Mi n=k:=by
 cases k
 ·exact⟨0,rfl⟩
 ·exact⟨1,rfl⟩
 exact⟨2,rfl⟩
theorem jI {n c:Nat}{k:Qb}{x:Dk}(h:Mi n=k):Kr n (.col c) x=M6 c k x:=by subst h;rfl
theorem Y6 {us:List Bool}{q:Row}(h:Ei us q)(a:us.length≤6)(c:Nat):Mh (Aj q c):=Fs (Uc h a) c
theorem BV {us ts:List Bool}{c:Nat}{x:Dk}(h:Eh c x us=some ts)(j:us.length≤6)(k:rR x):ts=us∧bR us (.col c) x:=by
 have e:=O5 h;refine⟨e,?_⟩;unfold Eh at h;cases f:us[c]? with
 |none=>rw[f] at h;cases h
 |some a =>
  rw[f] at h;have t:=(tR.1 f).1;have i:I7 us x=some a:=by
   by_cases l:I7 us x=some a
   ·exact l
   simp[l] at h
  have m:∀{q:Row} {b:Nat} {a':Bool},Ei us q→us[b]? =some a'→Mo.ty (Aj q b)=a':=fun {q b a'} d o=>by have:=(Ua d.1 (tR.1 o).1).1;rw[this,uH,o];rfl
  refine⟨fun b g=>?_,fun b g=>?_,fun {q} d=>?_⟩
  ·injection g with g;omega
  ·subst g;have:=(tR.1 (show us[b]? =some a from i)).1;omega
  refine⟨Y6 d j c,?_,?_⟩
  ·cases x with
   |col b=>exact Y6 d j b
   |val v=>cases v with
    |num n=>have: -9999≤n∧n≤9999:=k
            show _∧_;omega
    |txt s=>exact k
  have p:Mo.ty (Iv (.col c) q)=a:=m d f;rw[p];cases x with
  |col b=>exact (m d i).symm
  |val v=>have r:some (Mo.ty v)=some a:=i
          exact (wU r).symm
theorem Vk {us:List Bool}{cs:List Nat}(a:us.length≤6)(_:cs.length≤6){q:Row}(h:Ei us q):Ge (Ao cs q):=by
 refine⟨by simp[Ao];omega,fun v hv=>?_⟩;obtain⟨c,_,rfl⟩:=uA.1 hv;exact Y6 h a c
theorem BX {us ts:List Bool}{cs:List Nat}{s:Option Nat}(h:Fe cs s us=some ts)(f:us.length≤6):cD us cs s (xS s):=by
 obtain⟨ks,a,g,b⟩:=Sv h;obtain⟨i,j⟩:=Dc a;have k:cs.length≤5:=by rw[g,j] at b;simp at b;omega
 refine⟨fun y l=>by have:=i y l;omega,k,fun c e=>?_,fun n=>Vk f (by omega) n,rA s⟩;cases s with
 |none=>cases e
 |some m =>
  have:m=c:=by simpa [xS] using e
  subst this;unfold Fe at h;rw[a] at h;by_cases d:us[m]? =some false
  ·have:=(tR.1 d).1;omega
  simp[d] at h
theorem Y7 {us vs ts:List Bool}{n m:Nat}(h:C8 n m us vs=some ts):n<us.length∧m<vs.length∧us.length+vs.length≤6:=by
 have d:=(Qw h).2;rw[tS] at d;unfold C8 at h;cases c:us[n]? with
 |none=>rw[c] at h;cases h
 |some a =>
  rw[c] at h;have b:vs[m]? =some a:=by
   by_cases b:vs[m]? =some a
   ·exact b
   simp[b] at h
  exact⟨(tR.1 c).1,(tR.1 b).1,d⟩
theorem W9 {A:Nat→Prop}{b:Nat}{l:List Nat}(a:Nat):((A a∨a=b+2)∨∃x∈l,a=x+2)↔(A a∨∃x∈b::l,a=x+2):=by
 constructor
 ·rintro ((h|h)|⟨x,c,h⟩)
  ·exact .inl h
  ·exact .inr ⟨b,by simp,h⟩
  exact .inr ⟨x,by simp[c],h⟩
 rintro (h|⟨x,c,h⟩)
 ·exact .inl (.inl h)
 rcases uP.1 c with rfl|c
 ·exact .inl (.inr h)
 exact .inr ⟨x,c,h⟩
theorem F5 {f:Nat→Bag}{k j:Nat}{B:Bag}(h:j≠k):Kv f k B j=f j:=if_neg h
theorem Uk {A:Nat→Prop}{b:Nat}{l m:List Nat}(a:Nat):(((A a∨a=b+2)∨∃x∈m,a=x+2)∨∃x∈l,a=x+2)↔(A a∨∃x∈b::(l++m),a=x+2):=by
 constructor
 ·rintro (((h|h)|⟨x,c,h⟩)|⟨x,c,h⟩)
  ·exact .inl h
  ·exact .inr ⟨b,by simp,h⟩
  ·exact .inr ⟨x,by simp[c],h⟩
  exact .inr ⟨x,by simp[c],h⟩
 rintro (h|⟨x,c,h⟩)
 ·exact .inl (.inl (.inl h))
 simp only[uP,tW] at c;rcases c with rfl|c|c
 ·exact .inl (.inl (.inr h))
 ·exact .inr ⟨x,c,h⟩
 exact .inl (.inr ⟨x,c,h⟩)
theorem Fv {ft:List UInt8→Option (List Bool)}(hf:∀nm us,ft nm=some us→1≤us.length∧us.length≤6):∀(q:Q) (t:Nd) (T:Tk) (A:Nat→Prop) (ts:List Bool) (Gd:Bag→Prop) (R:World→Ow→Bag→Prop) (i:Nat) (f:Nat→Bag) (j:Nat),
 E9 T A ts Gd R→A7 ft q=some ts→wf q→I0 q t→(nds t).Nodup→(∀b∈nds t,¬A (b+2))→j<(Ac q).length →
 ∃us nm,(Ac q)[j]? =some nm∧ft nm=some us∧E9 (Dz q t T j) (fun a=>A a∨∃b∈nds t,a=b+2) us (fun B=>Sw ft q i (Kv f (i+j) B)∧Gd (A1 (Kv f (i+j) B) i q)) (fun w O B=>R w O (A1 (Kv f (i+j) B) i q)∧Ba q t T i (Kv f (i+j) B) w O)
 | .tab nm,.leaf,T,A,ts,Gd,R,i,f,j,u,J,_,_,_,_,K=>by have aq:j=0:=(by simpa [Ac] using K);subst aq;refine⟨ts,nm,rfl,J,?_⟩;have e:∀B,A1 (Kv f (i+0) B) i (.tab nm)=B:=fun B=>(by simp[A1,Kv]);refine C9.conv u (fun a=>by simp[nds]) (fun h=>by have:=h.2;rwa [e] at this) (fun {B B'} h o=>⟨trivial,by rw[e];have:=h.2;rw[e] at this;exact u.gde this o⟩) (fun {w O B}=>by rw[e];simp[Ba])
 | .sel c k x q,.one b t,T,A,ts,Gd,R,i,f,j,u,J,D,L,S,p,K=>by
   obtain⟨us,C,Y⟩:=uE.1 (show (A7 ft q).bind (Eh c x)=some ts from J);have an:=Co hf q us D.2.2 C;obtain⟨rfl,hO⟩:=BV Y an.2 D.2.1;have v:=vE.1 S
   have ac:E9 (OH b) (fun a=>A a∨a=b+2) ts (fun B=>B2 ts B∧Gd (Cw (M6 c k x) B)) (fun w O B=>∃n,Mi n=k∧(R w O (Cw (M6 c k x) B)∧Sl w O b T.val n (.col c) x)) :=
    C9.ex (P:=fun n=>Mi n=k) (R:=fun n w O B=>R w O (Cw (M6 c k x) B)∧Sl w O b T.val n (.col c) x) (fun n ar=>by have:=BM u b n (.col c) x ts hO (p b (by simp[nds]));rw[jI ar] at this;exact this) (VW k)
   obtain⟨vs,nm,W,X,ad⟩:=Fv hf q t (OH b) _ ts _ _ i f j ac C D.2.2 L v.2 (fun b' l h=>by
    rcases h with h|h
    ·exact p b' (by simp[nds,l]) h
    exact v.1 (by have:b'=b:=by omega
                  rw[←this];exact l)) K
   refine⟨vs,nm,W,X,C9.conv ad W9 (fun {B} h=>?_) (fun {B B'} h o=>?_) (fun {w O B}=>?_)⟩
   ·obtain⟨⟨M,a1,a2⟩,a3⟩:=h.1;rw[C] at a1;have:M=ts:=(by simpa using a1.symm);subst this;exact⟨a3,a2,h.2⟩
   ·exact⟨Db (.sel c k x q) i (fun g _ _=>D8 o g) h.1,u.gde h.2 (A8 (.sel c k x q) i fun g _ _=>D8 o g)⟩
   constructor
   ·rintro⟨⟨n,a1,a2,a3⟩,a4⟩;exact⟨a2,⟨n,a1,a3⟩,a4⟩
   rintro⟨a2,⟨n,a1,a3⟩,a4⟩;exact⟨⟨n,a1,a2,a3⟩,a4⟩
 | .pick cs q,.one b t,T,A,ts,Gd,R,i,f,j,u,J,D,L,S,p,K=>by
   obtain⟨us,C,Y⟩:=uE.1 (show (A7 ft q).bind (Bq cs)=some ts from J);have an:=Co hf q us D.2.2.2 C;have v:=vE.1 S;have ac:=Yp u b cs us (fun y au=>by have:=(Dc Y).1 y au;omega) D.2.1 (fun av=>Vk an.2 D.2.1 av) (p b (by simp[nds]));obtain⟨vs,nm,W,X,ad⟩:=Fv hf q t (BR b) _ us _ _ i f j ac C D.2.2.2 L v.2 (fun b' l h=>by
    rcases h with h|h
    ·exact p b' (by simp[nds,l]) h
    exact v.1 (by have:b'=b:=by omega
                  rw[←this];exact l)) K
   refine⟨vs,nm,W,X,C9.conv ad W9 (fun {B} h=>?_) (fun {B B'} h o=>?_) (fun {w O B}=>?_)⟩
   ·obtain⟨⟨M,a1,a2⟩,a3⟩:=h.1;rw[C] at a1;have:M=us:=(by simpa using a1.symm);subst this;exact⟨a3,a2,h.2⟩
   ·exact⟨Db (.pick cs q) i (fun g _ _=>D8 o g) h.1,u.gde h.2 (A8 (.pick cs q) i fun g _ _=>D8 o g)⟩
   constructor
   ·rintro⟨⟨a1,a2⟩,a3⟩;exact⟨a1,a2,a3⟩
   rintro⟨a1,a2,a3⟩;exact⟨⟨a1,a2⟩,a3⟩
 | .dist q,.one b t,T,A,ts,Gd,R,i,f,j,u,J,D,L,S,p,K=>by
   have C:A7 ft q=some ts:=J;have v:=vE.1 S;have ac:=Yq u b ts (p b (by simp[nds]));obtain⟨vs,nm,W,X,ad⟩:=Fv hf q t (BU b) _ ts _ _ i f j ac C D L v.2 (fun b' l h=>by
    rcases h with h|h
    ·exact p b' (by simp[nds,l]) h
    exact v.1 (by have:b'=b:=by omega
                  rw[←this];exact l)) K
   refine⟨vs,nm,W,X,C9.conv ad W9 (fun {B} h=>?_) (fun {B B'} h o=>?_) (fun {w O B}=>?_)⟩
   ·obtain⟨⟨M,a1,a2⟩,a3⟩:=h.1;rw[C] at a1;have:M=ts:=(by simpa using a1.symm);subst this;exact⟨a3,a2,h.2⟩
   ·exact⟨Db (.dist q) i (fun g _ _=>D8 o g) h.1,u.gde h.2 (A8 (.dist q) i fun g _ _=>D8 o g)⟩
   constructor
   ·rintro⟨⟨a1,a2⟩,a3⟩;exact⟨a1,a2,a3⟩
   rintro⟨a1,a2,a3⟩;exact⟨⟨a1,a2⟩,a3⟩
 | .grp cs s q,.one b t,T,A,ts,Gd,R,i,f,j,u,J,D,L,S,p,K=>by
   obtain⟨us,C,Y⟩:=uE.1 (show (A7 ft q).bind (Fe cs s)=some ts from J);have an:=Co hf q us D.2.2.2 C;have v:=vE.1 S;have ac:=BP u b cs s (xS s) us (BX Y an.2) (p b (by simp[nds]));obtain⟨vs,nm,W,X,ad⟩:=Fv hf q t (VV b) _ us _ _ i f j ac C D.2.2.2 L v.2 (fun b' l h=>by
    rcases h with h|h
    ·exact p b' (by simp[nds,l]) h
    exact v.1 (by have:b'=b:=by omega
                  rw[←this];exact l)) K
   refine⟨vs,nm,W,X,C9.conv ad W9 (fun {B} h=>?_) (fun {B B'} h o=>?_) (fun {w O B}=>?_)⟩
   ·obtain⟨⟨M,a1,a2⟩,a3⟩:=h.1;rw[C] at a1;have:M=us:=(by simpa using a1.symm);subst this;exact⟨a3,a2,h.2⟩
   ·exact⟨Db (.grp cs s q) i (fun g _ _=>D8 o g) h.1,u.gde h.2 (A8 (.grp cs s q) i fun g _ _=>D8 o g)⟩
   constructor
   ·rintro⟨⟨a1,a2⟩,a3⟩;exact⟨a1,a2,a3⟩
   rintro⟨a1,a2,a3⟩;exact⟨⟨a1,a2⟩,a3⟩
 | .join n m q r,.two b t E,T,A,ts,Gd,R,i,f,j,u,J,D,L,S,p,K=>by
   obtain⟨us,C,Y⟩:=uE.1 (show (A7 ft q).bind (fun ts=>(A7 ft r).bind fun us=>C8 n m ts us)=some ts from J);obtain⟨vs,ae,al⟩:=uE.1 Y;have W:=Co hf q us D.2.2.1 C;have X:=Co hf r vs D.2.2.2 ae;obtain⟨jn,_,aw⟩:=Y7 al;have v:=vE.1 S;have Z:=vP.1 v.2;have ax:j<(Ac q).length+(Ac r).length:=(by simpa [Ac] using K);by_cases aa:j<(Ac q).length
   ·have af:=Pd u b true n m us vs (A1 f (i+(Ac q).length) r) (by omega) ⟨W.1,X.1,aw⟩ (p b (by simp[nds]));have ag:=C9.frame (T:=Hw b true) af (fun a=>∃x∈nds E,a=x+2) (fun w O=>Ba r E (Hw b false) (i+(Ac q).length) f w O) (fun ⟨x,_,e⟩=>by omega) (fun ⟨x,_,e⟩=>by omega) (fun a z ⟨x,F,e⟩=>by
     rcases z with z|z
     ·rw[e] at z;exact p x (by simp[nds,F]) z
     exact v.1 (by have:x=b:=by omega
                   rw[←this];simp[F])) (fun ah ai aj=>Ba.stab ai r E _ _ aj ah)
    obtain⟨xs,nm,a1,a2,a3⟩:=Fv hf q t (Hw b true) _ us _ _ i f j ag C D.2.2.1 L.1 Z.1 (fun b' l h=>by
     rcases h with (h|h)|⟨x,F,e⟩
     ·exact p b' (by simp[nds,l]) h
     ·exact v.1 (by have:b'=b:=by omega
                    rw[←this];simp[l])
     exact Z.2.2 b' l x F (by omega)) aa
    have N:∀B,A1 (Kv f (i+j) B) (i+(Ac q).length) r=A1 f (i+(Ac q).length) r:=fun B=>Ds r _ fun g U V=>F5 (by omega);refine⟨xs,nm,by simp only[Ac];rw[uD aa];exact a1,a2,?_⟩;have ak:Dz (.join n m q r) (.two b t E) T j=Dz q t (Hw b true) j:=(by simp[Dz,aa]);rw[ak];refine C9.conv a3 Uk (fun {B} h=>?_) (fun {B B'} h o=>?_) (fun {w O B}=>?_)
    ·obtain⟨⟨⟨M,c1,c2⟩,⟨ao,ab,am⟩⟩,e1,e2⟩:=h.1;rw[C] at c1;have:M=us:=(by simpa using c1.symm);subst this;rw[ae] at ab;have:ao=vs:=(by simpa using ab.symm);subst this;rw[N] at am;refine⟨e1,c2,am,?_⟩;have:=h.2;simp only[A1] at this;rw[N] at this;exact this
    ·exact⟨Db (.join n m q r) i (fun g _ _=>D8 o g) h.1,u.gde h.2 (A8 (.join n m q r) i fun g _ _=>D8 o g)⟩
    simp only[A1,Ba];rw[N];constructor
    ·rintro⟨⟨⟨G,b2⟩,H⟩,I⟩;exact⟨G,b2,I,Ba.ext r E _ _ (fun g U V=>(F5 (by omega)).symm) H⟩
    rintro⟨G,b2,I,H⟩;exact⟨⟨⟨G,b2⟩,Ba.ext r E _ _ (fun g U V=>F5 (by omega)) H⟩,I⟩
   have af:=Pd u b false m n vs us (A1 f i q) (by omega) ⟨X.1,W.1,by omega⟩ (p b (by simp[nds]));have ag:=C9.frame (T:=Hw b false) af (fun a=>∃x∈nds t,a=x+2) (fun w O=>Ba q t (Hw b true) i f w O) (fun ⟨x,_,e⟩=>by omega) (fun ⟨x,_,e⟩=>by omega) (fun a z ⟨x,F,e⟩=>by
    rcases z with z|z
    ·rw[e] at z;exact p x (by simp[nds,F]) z
    exact v.1 (by have:x=b:=by omega
                  rw[←this];simp[F])) (fun ah ai aj=>Ba.stab ai q t _ _ aj ah)
   obtain⟨xs,nm,a1,a2,a3⟩:=Fv hf r E (Hw b false) _ vs _ _ (i+(Ac q).length) f (j-(Ac q).length) ag ae D.2.2.2 L.2 Z.2.1 (fun b' l h=>by
    rcases h with (h|h)|⟨x,F,e⟩
    ·exact p b' (by simp[nds,l]) h
    ·exact v.1 (by have:b'=b:=by omega
                   rw[←this];simp[l])
    exact Z.2.2 x F b' l (by omega)) (by omega)
   have ap:i+(Ac q).length+(j-(Ac q).length)=i+j:=(by omega);rw[ap] at a3;have N:∀B,A1 (Kv f (i+j) B) i q=A1 f i q:=fun B=>Ds q _ fun g U V=>F5 (by omega);refine⟨xs,nm,by simp only[Ac];rw[uC (by omega)];exact a1,a2,?_⟩;have ak:Dz (.join n m q r) (.two b t E) T j=Dz r E (Hw b false) (j-(Ac q).length):=(by simp[Dz,aa]);rw[ak];refine C9.conv a3 (fun a=>?_) (fun {B} h=>?_) (fun {B B'} h o=>?_) (fun {w O B}=>?_)
   ·rw[Uk];simp only[nds,uP,tW];constructor
    ·rintro (h|⟨x,h,e⟩)
     ·exact .inl h
     exact .inr ⟨x,h.imp id Or.symm,e⟩
    rintro (h|⟨x,h,e⟩)
    ·exact .inl h
    exact .inr ⟨x,h.imp id Or.symm,e⟩
   ·obtain⟨⟨⟨M,c1,c2⟩,⟨ao,ab,am⟩⟩,e1,e2⟩:=h.1;rw[C] at c1;have:M=us:=(by simpa using c1.symm);subst this;rw[ae] at ab;have:ao=vs:=(by simpa using ab.symm);subst this;rw[N] at c2;refine⟨e2,am,c2,?_⟩;have:=h.2;simp only[A1] at this;rw[N] at this;exact this
   ·exact⟨Db (.join n m q r) i (fun g _ _=>D8 o g) h.1,u.gde h.2 (A8 (.join n m q r) i fun g _ _=>D8 o g)⟩
   simp only[A1,Ba];rw[N];constructor
   ·rintro⟨⟨⟨G,b2⟩,H⟩,I⟩;exact⟨G,b2.swap,Ba.ext q t _ _ (fun g U V=>(F5 (by omega)).symm) H,I⟩
   rintro⟨G,b2,H,I⟩;exact⟨⟨⟨G,b2.swap⟩,Ba.ext q t _ _ (fun g U V=>F5 (by omega)) H⟩,I⟩
 | .uni q r,.two b t E,T,A,ts,Gd,R,i,f,j,u,J,D,L,S,p,K=>by
   obtain⟨us,C,Y⟩:=uE.1 (show (A7 ft q).bind (fun ts=>(A7 ft r).bind fun us=>if ts=us then some ts else none)=some ts from J);obtain⟨vs,ae,al⟩:=uE.1 Y;have ay:us=vs∧us=ts:=by
    by_cases e:us=vs
    ·rw[if_pos e] at al;exact⟨e,by simpa using al⟩
    rw[if_neg e] at al;cases al
   obtain⟨rfl,rfl⟩:=ay;have v:=vE.1 S;have Z:=vP.1 v.2;have ax:j<(Ac q).length+(Ac r).length:=(by simpa [Ac] using K);by_cases aa:j<(Ac q).length
   ·have af:=Ry u b us (fun B=>B++A1 f (i+(Ac q).length) r) (fun B d x=>by simp only[Ah];omega) (fun e=>e.append (A9.refl _)) (p b (by simp[nds]));have ag:=C9.frame (T:=Od b) af (fun a=>∃x∈nds E,a=x+2) (fun w O=>Ba r E (Od b) (i+(Ac q).length) f w O) (fun ⟨x,_,e⟩=>by omega) (fun ⟨x,_,e⟩=>by omega) (fun a z ⟨x,F,e⟩=>by
     rcases z with z|z
     ·rw[e] at z;exact p x (by simp[nds,F]) z
     exact v.1 (by have:x=b:=by omega
                   rw[←this];simp[F])) (fun ah ai aj=>Ba.stab ai r E _ _ aj ah)
    obtain⟨xs,nm,a1,a2,a3⟩:=Fv hf q t (Od b) _ us _ _ i f j ag C D.1 L.1 Z.1 (fun b' l h=>by
     rcases h with (h|h)|⟨x,F,e⟩
     ·exact p b' (by simp[nds,l]) h
     ·exact v.1 (by have:b'=b:=by omega
                    rw[←this];simp[l])
     exact Z.2.2 b' l x F (by omega)) aa
    have N:∀B,A1 (Kv f (i+j) B) (i+(Ac q).length) r=A1 f (i+(Ac q).length) r:=fun B=>Ds r _ fun g U V=>F5 (by omega);refine⟨xs,nm,by simp only[Ac];rw[uD aa];exact a1,a2,?_⟩;have ak:Dz (.uni q r) (.two b t E) T j=Dz q t (Od b) j:=(by simp[Dz,aa]);rw[ak];refine C9.conv a3 Uk (fun {B} h=>?_) (fun {B B'} h o=>?_) (fun {w O B}=>?_)
    ·obtain⟨⟨⟨M,c1,c2⟩,_⟩,e1,e2⟩:=h.1;rw[C] at c1;have:M=us:=(by simpa using c1.symm);subst this;refine⟨e1,c2,?_⟩;have:=h.2;simp only[A1] at this;rw[N] at this;exact this
    ·exact⟨Db (.uni q r) i (fun g _ _=>D8 o g) h.1,u.gde h.2 (A8 (.uni q r) i fun g _ _=>D8 o g)⟩
    simp only[A1,Ba];rw[N];constructor
    ·rintro⟨⟨⟨G,b2⟩,H⟩,I⟩;exact⟨G,b2,I,Ba.ext r E _ _ (fun g U V=>(F5 (by omega)).symm) H⟩
    rintro⟨G,b2,I,H⟩;exact⟨⟨⟨G,b2⟩,Ba.ext r E _ _ (fun g U V=>F5 (by omega)) H⟩,I⟩
   have af:=Ry u b us (fun B=>A1 f i q++B) (fun B d x=>by simp only[Ah];omega) (fun e=>(A9.refl _).append e) (p b (by simp[nds]));have ag:=C9.frame (T:=Od b) af (fun a=>∃x∈nds t,a=x+2) (fun w O=>Ba q t (Od b) i f w O) (fun ⟨x,_,e⟩=>by omega) (fun ⟨x,_,e⟩=>by omega) (fun a z ⟨x,F,e⟩=>by
    rcases z with z|z
    ·rw[e] at z;exact p x (by simp[nds,F]) z
    exact v.1 (by have:x=b:=by omega
                  rw[←this];simp[F])) (fun ah ai aj=>Ba.stab ai q t _ _ aj ah)
   obtain⟨xs,nm,a1,a2,a3⟩:=Fv hf r E (Od b) _ us _ _ (i+(Ac q).length) f (j-(Ac q).length) ag ae D.2 L.2 Z.2.1 (fun b' l h=>by
    rcases h with (h|h)|⟨x,F,e⟩
    ·exact p b' (by simp[nds,l]) h
    ·exact v.1 (by have:b'=b:=by omega
                   rw[←this];simp[l])
    exact Z.2.2 x F b' l (by omega)) (by omega)
   have ap:i+(Ac q).length+(j-(Ac q).length)=i+j:=(by omega);rw[ap] at a3;have N:∀B,A1 (Kv f (i+j) B) i q=A1 f i q:=fun B=>Ds q _ fun g U V=>F5 (by omega);refine⟨xs,nm,by simp only[Ac];rw[uC (by omega)];exact a1,a2,?_⟩;have ak:Dz (.uni q r) (.two b t E) T j=Dz r E (Od b) (j-(Ac q).length):=(by simp[Dz,aa]);rw[ak];refine C9.conv a3 (fun a=>?_) (fun {B} h=>?_) (fun {B B'} h o=>?_) (fun {w O B}=>?_)
   ·rw[Uk];simp only[nds,uP,tW];constructor
    ·rintro (h|⟨x,h,e⟩)
     ·exact .inl h
     exact .inr ⟨x,h.imp id Or.symm,e⟩
    rintro (h|⟨x,h,e⟩)
    ·exact .inl h
    exact .inr ⟨x,h.imp id Or.symm,e⟩
   ·obtain⟨⟨_,⟨ao,ab,am⟩⟩,e1,e2⟩:=h.1;rw[ae] at ab;have:ao=us:=(by simpa using ab.symm);subst this;refine⟨e2,am,?_⟩;have:=h.2;simp only[A1] at this;rw[N] at this;exact this
   ·exact⟨Db (.uni q r) i (fun g _ _=>D8 o g) h.1,u.gde h.2 (A8 (.uni q r) i fun g _ _=>D8 o g)⟩
   simp only[A1,Ba];rw[N];constructor
   ·rintro⟨⟨⟨G,b2⟩,H⟩,I⟩;exact⟨G,b2,Ba.ext q t _ _ (fun g U V=>(F5 (by omega)).symm) H,I⟩
   rintro⟨G,b2,H,I⟩;exact⟨⟨⟨G,b2⟩,Ba.ext q t _ _ (fun g U V=>F5 (by omega)) H⟩,I⟩
theorem nV:(prog.info? 143).map (fun i=>(i.zero,i.size,i.bytes))=some (some .nilIface,1,16):=by kernel_rfl
theorem Bh {w:World}{base:Nat}{e:TypeId}{size n:Nat}{v:Value}{xs:List Value}(h:w.ownsRow base e size v n xs){b:Nat}(a:v.ownBlock=some b):∃c d,w.heap[b]? =some (.cells c e d):=by
 rcases h.2 with ⟨f,_⟩|⟨g,cap,cur,rfl,_,hg,_⟩
 ·rw[f] at a;cases a
 have:g=b:=by simpa [Value.ownBlock] using a
 subst this;exact⟨_,_,hg⟩
theorem Pe {w:World}{base:Nat}{e:TypeId}{size n:Nat}{v:Value}{xs:List Value}(h:w.ownsRow base e size v n xs):∃a n c,v=.slice a n c:=by
 rcases h.2 with ⟨b,_⟩|⟨g,cap,cur,b,_⟩
 ·exact⟨_,_,_,b⟩
 exact⟨_,_,_,b⟩
def rB (b:Nat)(cs:Array Value)(ty:TypeId)(v:Value)(Ts:List Value)(w:World)(e:Ending)(w':World):Prop :=
 e=.returned (.tuple #[])∧∃v',w'.heap[b]? =some (.cells (cs.setIfInBounds 0 v') ty (0,0))∧w'.ownsRow 0 143 1 v' Ts.length Ts∧(∀k,v'.ownBlock=some k→v.ownBlock=some k∨w.heap.size≤k)∧Ab (fun k=>k=b∨v.ownBlock=some k) w w'
theorem Td (b:Nat)(cs:Array Value)(ty:TypeId)(q:ty≠143)(v:Value)(c:List Value)(d:TypeId)(p:Addr)(w:World)(g:C2 w b cs ty)(m:cs[0]? =some v)(h:w.ownsRow 0 143 1 v c.length c)(_:c.length≤1000000) :
 Calls prog 64 #[C1 b,.iface d (.pointer (some p))] w (rB b cs ty v (c++[.iface d (.pointer (some p))]) w):=by
 obtain⟨C,hi,D,E,F⟩:=info_parts nV;have G:=Aa g;have Z:w.cell? ⟨b,0,none⟩=some v:=by rw[Af g];exact m
 have s:∀k,v.ownBlock=some k→k≠b:=by rintro k f rfl;obtain⟨H,I,a⟩:=Bh h f;rw[g] at a;injection a with a;injection a with _ a;exact q a
 have J:=Pe h;have K:=Ae g;have L:=Ae h;have M:=Ae s;have N:∀j x,[Value.iface d (.pointer (some p))][j]? =some x→(w.alloc (.cells #[.iface d (.pointer (some p))] 143)).cell? ((⟨w.heap.size,0,none⟩:Addr).add j)=some x:=by
  intro j x a;have O:j=0:=by have:=(tR.1 a).1;simp at this;exact this
  subst O;have P:(⟨w.heap.size,0,none⟩:Addr).add 0=⟨w.heap.size,0,none⟩:=by simp[Addr.add]
  rw[P,Af (heap_alloc_last _ _)];simpa using a
 obtain⟨va,t,u,rfl⟩:=J;have Q:=m;clear g m h s;go_enter func64,ntmps64;go_wp2_with (first
  |(at_builtin;refine wpList_append_own_at _ rfl _ _ 121 rfl 0 143 C .nilIface 1 16 underlying121 hi D E F rfl (by decide) (.slice va t u) c.length c rfl (L.o.alloc _) ⟨w.heap.size,0,none⟩ 1 1 [.iface d (.pointer (some p))] rfl rfl N (by simp[Value.oneCell']) (by unfold maxLen;omega) (by omega) (by simp) ?_;intro v' w5 n y R z;have o:Ab (fun k=>(Value.slice va t u).ownBlock=some k) w w5:=((Ab.refl _ w).alloc _).grown y (fun r e=>.inr e);have l:=(o.block b G (fun e=>M.o b e rfl)).trans K.o;have aa:=Am l 0;have S:=Af l 0;have T:=Pe n;obtain⟨U,V,W,rfl⟩:=T;have A:=Ae n;have X:=Ae o;have B:=Ae l;have Y:=Ae z;rw[Q] at S;clear n y R z o l)
  |fail)
 refine bodyPost_ret (results_none rfl _ _ _) rfl ?_;refine⟨rfl,.slice U V W,A0 B.o _ _,?_,?_,(X.o.mono fun i _ e=>.inr e).setCell (.inr (.inl rfl)) _⟩
 ·refine X0 (w:=w5) ?_ (fun k f=>Below.heap_setCell _ _ _ _ ?_)
  ·have:=A.o;rw[show (c++[Value.iface d (.pointer (some p))]).length=c.length+1 by simp];exact this
  show k≠b;rintro rfl;obtain⟨H,I,a⟩:=Bh A.o f;rw[B.o] at a;injection a with a;injection a with _ a;exact q a
 intro k f;rcases Y.o with e|e
 ·exact .inl (e ▸ f)
 rw[e] at f;right;have:(w.alloc (.cells #[Value.iface d (.pointer (some p))] 143)).heap.size=k:=by simpa using f
 simp at this;omega
def BZ (ty tb:TypeId)(c0:Array Value)(w:World)(e:Ending)(w':World):Prop :=
 e=.returned (.iface ty (.pointer (some ⟨w.heap.size,0,none⟩)))∧w'.heap[w.heap.size]? =some (.cells c0 tb (0,0))∧Ab No w w'
theorem Ay {w:World}{P:Nat}{h:Hd}{lv iv:Value}(a:C2 w P (Bb h lv iv) 139) :
 C3 w P 0 (.int .i64 (h.k:Int))∧C3 w P 2 (.int .i64 (h.cmp:Int))∧C3 w P 19 lv∧w.rangeAt P 3 (Sh h.l)∧w.rangeAt P 11 (Sh h.r)∧w.rangeAt P 20 (Sh h.w)∧C3 w P 28 iv∧w.cell? ⟨P,1,none⟩=some (.string ⟨h.nm.toArray⟩):=by
 refine⟨(Af a 0).trans rfl,(Af a 2).trans rfl,(Af a 19).trans rfl,fun j v hv=>?_,fun j v hv=>?_,fun j v hv=>?_,(Af a 28).trans rfl,(Af a 1).trans rfl⟩
 all_goals
  rw[Af a];have b:=(tR.1 hv).1
  match j,b with
  |0,_|1,_|2,_|3,_|4,_|5,_|6,_|7,_=>simpa [Sh,Bb] using hv
theorem AO (P:Nat)(h:Hd)(b:h.k=6)(lv iv:Value)(w:World)(a:C2 w P (Bb h lv iv) 139) :
 Calls prog 113 #[C1 P] w (BZ 281 283 #[sN,.map none] w):=by
 have c:=(Ay a).1;rw[b] at c;clear a;go_enter func113,ntmps113;go_wp21;go_ret;exact⟨rfl,heap_alloc_last _ _,(Ab.refl No w).alloc _⟩
theorem EP (P:Nat)(h:Hd)(b:h.k=5)(lv iv:Value)(w:World)(a:C2 w P (Bb h lv iv) 139) :
 Calls prog 113 #[C1 P] w (BZ 287 289 #[sN] w):=by
 have c:=(Ay a).1;rw[b] at c;clear a;go_enter func113,ntmps113;go_wp21;go_ret;exact⟨rfl,heap_alloc_last _ _,(Ab.refl No w).alloc _⟩
theorem AP (P:Nat)(h:Hd)(e:h.k=3)(b:Option Addr)(c d:Nat)(iv:Value)(w:World)(a:C2 w P (Bb h (.slice b c d) iv) 139) :
 Calls prog 113 #[C1 P] w (BZ 278 280 #[sN,.slice b c d] w):=by
 have f:=(Ay a).1;have c1:=(Ay a).2.2.1;rw[e] at f;clear a;go_enter func113,ntmps113;go_wp21;go_ret;exact⟨rfl,heap_alloc_last _ _,(Ab.refl No w).alloc _⟩
set_option linter.unusedSimpArgs false
theorem ES (P:Nat)(h:Hd)(m:h.k=2)(lv iv:Value)(w:World)(c:C2 w P (Bb h lv iv) 139) :
 Calls prog 113 #[C1 P] w (BZ 275 277 (Nc sN h.cmp h.l h.r) w):=by
 have d:=(Ay c).1;rw[m] at d;have e:=Ae c;have f:xR (∀w:World,C2 w P (Bb h lv iv) 139→(loadVar 135 ⟨P,3,none⟩).run prog w=.ok (.agg #[.bool (U6 h.l),.int .i64 (Ce h.l:Int),.int .i32 (kI (vO h.l)),E1 (vO h.l) 0,E1 (vO h.l) 1,E1 (vO h.l) 2,E1 (vO h.l) 3,.int .i64 (nI (vO h.l))]) w):=fun w b=>run_loadVar_mid w P 3 135 (Sh h.l) _ (Ay b).2.2.2.1 underlying135 rfl Pb;have g:xR (∀w:World,C2 w P (Bb h lv iv) 139→(loadVar 135 ⟨P,11,none⟩).run prog w=.ok (.agg #[.bool (U6 h.r),.int .i64 (Ce h.r:Int),.int .i32 (kI (vO h.r)),E1 (vO h.r) 0,E1 (vO h.r) 1,E1 (vO h.r) 2,E1 (vO h.r) 3,.int .i64 (nI (vO h.r))]) w):=fun w b=>run_loadVar_mid w P 11 135 (Sh h.r) _ (Ay b).2.2.2.2.1 underlying135 rfl Pb;have i:xR (∀w:World,C2 w P (Bb h lv iv) 139→C3 w P 2 (.int .i64 (h.cmp:Int))):=fun w b=>(Ay b).2.1;have n:=Aa c;clear c;go_enter func113,ntmps113;go_wp21;clear d;refine wp_region_held_drew (S:=fun w'=>w'.heap[P]? =some (.cells (Bb h lv iv) 139 (0,0))) (by kernel_rfl) e.o (fun a=>?_);refine An 0 (C1 P) a ?_;refine An 1 (C1 P) a ?_;refine An 2 (.pointer (some ⟨P,2,none⟩)) a ?_;refine Iq 3 (.int .i64 (h.cmp:Int)) 129 (.tmp 11) (P) (2) (fun w h=>i.o w h) a ?_
 try simp only[Act.put,Ar,As,Au,Av,Aw,Ax]
 refine An 4 (C1 P) a ?_;refine An 5 (C1 P) a ?_;refine An 6 (.pointer (some ⟨P,3,none⟩)) a ?_;refine Ha 7 (.agg #[.bool (U6 h.l),.int .i64 (Ce h.l:Int),.int .i32 (kI (vO h.l)),E1 (vO h.l) 0,E1 (vO h.l) 1,E1 (vO h.l) 2,E1 (vO h.l) 3,.int .i64 (nI (vO h.l))]) 135 (.tmp 15) (P) (3) (fun w h=>f.o w h) a ?_
 try simp only[Act.put,Ar,As,Au,Av,Aw,Ax]
 refine An 8 (C1 P) a ?_;refine An 9 (C1 P) a ?_;refine An 10 (.pointer (some ⟨P,11,none⟩)) a ?_;refine Ha 11 (.agg #[.bool (U6 h.r),.int .i64 (Ce h.r:Int),.int .i32 (kI (vO h.r)),E1 (vO h.r) 0,E1 (vO h.r) 1,E1 (vO h.r) 2,E1 (vO h.r) 3,.int .i64 (nI (vO h.r))]) 135 (.tmp 19) (P) (11) (fun w h=>g.o w h) a ?_
 try simp only[Act.put,Ar,As,Au,Av,Aw,Ax]
 refine An 12 (.agg #[sN,.int .i64 (h.cmp:Int),.bool (U6 h.l),.int .i64 (Ce h.l:Int),.int .i32 (kI (vO h.l)),E1 (vO h.l) 0,E1 (vO h.l) 1,E1 (vO h.l) 2,E1 (vO h.l) 3,.int .i64 (nI (vO h.l)),.bool (U6 h.r),.int .i64 (Ce h.r:Int),.int .i32 (kI (vO h.r)),E1 (vO h.r) 0,E1 (vO h.r) 1,E1 (vO h.r) 2,E1 (vO h.r) 3,.int .i64 (nI (vO h.r))]) a ?_;refine C0 13 (fun K j=>?_);go_simp;have o:C2 ((w.alloc (.cells #[sN,.int .i64 (h.cmp:Int),.bool (U6 h.l),.int .i64 (Ce h.l:Int),.int .i32 (kI (vO h.l)),E1 (vO h.l) 0,E1 (vO h.l) 1,E1 (vO h.l) 2,E1 (vO h.l) 3,.int .i64 (nI (vO h.l)),.bool (U6 h.r),.int .i64 (Ce h.r:Int),.int .i32 (kI (vO h.r)),E1 (vO h.r) 0,E1 (vO h.r) 1,E1 (vO h.r) 2,E1 (vO h.r) 3,.int .i64 (nI (vO h.r))] 277)).drew) P (Bb h lv iv) 139:=(Below.heap_alloc _ _ _ n).trans e.o;have k:xR (C2 ((w.alloc (.cells #[sN,.int .i64 (h.cmp:Int),.bool (U6 h.l),.int .i64 (Ce h.l:Int),.int .i32 (kI (vO h.l)),E1 (vO h.l) 0,E1 (vO h.l) 1,E1 (vO h.l) 2,E1 (vO h.l) 3,.int .i64 (nI (vO h.l)),.bool (U6 h.r),.int .i64 (Ce h.r:Int),.int .i32 (kI (vO h.r)),E1 (vO h.r) 0,E1 (vO h.r) 1,E1 (vO h.r) 2,E1 (vO h.r) 3,.int .i64 (nI (vO h.r))] 277)).drew) w.heap.size (Nc sN h.cmp h.l h.r) 277):=heap_alloc_last _ _;have l:xR (Ab No w ((w.alloc (.cells #[sN,.int .i64 (h.cmp:Int),.bool (U6 h.l),.int .i64 (Ce h.l:Int),.int .i32 (kI (vO h.l)),E1 (vO h.l) 0,E1 (vO h.l) 1,E1 (vO h.l) 2,E1 (vO h.l) 3,.int .i64 (nI (vO h.l)),.bool (U6 h.r),.int .i64 (Ce h.r:Int),.int .i32 (kI (vO h.r)),E1 (vO h.r) 0,E1 (vO h.r) 1,E1 (vO h.r) 2,E1 (vO h.r) 3,.int .i64 (nI (vO h.r))] 277)).drew)):=((Ab.refl No w).alloc _).drew;refine j.out _ _ o (fun a=>?_);clear j K
 refine An 14 (.iface 275 (C1 w.heap.size)) a ?_;refine An 15 (.iface 275 (C1 w.heap.size)) a ?_
 try simp only[Act.put,Ar,As,Au,Av,Aw,Ax]
 refine wpAnyH_done (by kernel_rfl) ?_ _;clear a f g i
 try simp only[Act.put,Ar,As,Au,Av,Aw,Ax]
 generalize (w.alloc (.cells #[sN,.int .i64 (h.cmp:Int),.bool (U6 h.l),.int .i64 (Ce h.l:Int),.int .i32 (kI (vO h.l)),E1 (vO h.l) 0,E1 (vO h.l) 1,E1 (vO h.l) 2,E1 (vO h.l) 3,.int .i64 (nI (vO h.l)),.bool (U6 h.r),.int .i64 (Ce h.r:Int),.int .i32 (kI (vO h.r)),E1 (vO h.r) 0,E1 (vO h.r) 1,E1 (vO h.r) 2,E1 (vO h.r) 3,.int .i64 (nI (vO h.r))] 277)).drew=w5 at k l⊢;go_wp21;go_ret;exact⟨rfl,k.o,l.o⟩
theorem ET (P:Nat)(h:Hd)(o:h.k=7)(a:Option Addr)(b c:Nat)(iv:Value)(w:World)(e:C2 w P (Bb h (.slice a b c) iv) 139) :
 Calls prog 113 #[C1 P] w (BZ 284 286 (Lw sN (.map none) (.map none) (.slice a b c) h.w) w):=by
 have g:=(Ay e).1;rw[o] at g;have i:=Ae e;have j:xR (∀w:World,C2 w P (Bb h (.slice a b c) iv) 139→(loadVar 135 ⟨P,20,none⟩).run prog w=.ok (.agg #[.bool (U6 h.w),.int .i64 (Ce h.w:Int),.int .i32 (kI (vO h.w)),E1 (vO h.w) 0,E1 (vO h.w) 1,E1 (vO h.w) 2,E1 (vO h.w) 3,.int .i64 (nI (vO h.w))]) w):=fun w f=>run_loadVar_mid w P 20 135 (Sh h.w) _ (Ay f).2.2.2.2.2.1 underlying135 rfl Pb;have k:xR (∀w:World,C2 w P (Bb h (.slice a b c) iv) 139→C3 w P 19 (.slice a b c)):=fun w f=>(Ay f).2.2.1;have p:=Aa e;clear e;go_enter func113,ntmps113;go_wp21;clear g;refine wp_region_held_drew (S:=fun w'=>w'.heap[P]? =some (.cells (Bb h (.slice a b c) iv) 139 (0,0))) (by kernel_rfl) i.o (fun d=>?_);refine An 0 (C1 P) d ?_;refine An 1 (C1 P) d ?_;refine An 2 (.pointer (some ⟨P,19,none⟩)) d ?_;refine Iq 3 (.slice a b c) 136 (.tmp 42) (P) (19) (fun w h=>k.o w h) d ?_
 try simp only[Act.put,Ar,As,Au,Av,Aw,Ax]
 refine An 4 (C1 P) d ?_;refine An 5 (C1 P) d ?_;refine An 6 (.pointer (some ⟨P,20,none⟩)) d ?_;refine Ha 7 (.agg #[.bool (U6 h.w),.int .i64 (Ce h.w:Int),.int .i32 (kI (vO h.w)),E1 (vO h.w) 0,E1 (vO h.w) 1,E1 (vO h.w) 2,E1 (vO h.w) 3,.int .i64 (nI (vO h.w))]) 135 (.tmp 46) (P) (20) (fun w h=>j.o w h) d ?_
 try simp only[Act.put,Ar,As,Au,Av,Aw,Ax]
 refine An 8 (.agg #[sN,.map none,.map none,.slice a b c,.bool (U6 h.w),.int .i64 (Ce h.w:Int),.int .i32 (kI (vO h.w)),E1 (vO h.w) 0,E1 (vO h.w) 1,E1 (vO h.w) 2,E1 (vO h.w) 3,.int .i64 (nI (vO h.w))]) d ?_;refine C0 9 (fun K l=>?_);go_simp;have q:C2 ((w.alloc (.cells #[sN,.map none,.map none,.slice a b c,.bool (U6 h.w),.int .i64 (Ce h.w:Int),.int .i32 (kI (vO h.w)),E1 (vO h.w) 0,E1 (vO h.w) 1,E1 (vO h.w) 2,E1 (vO h.w) 3,.int .i64 (nI (vO h.w))] 286)).drew) P (Bb h (.slice a b c) iv) 139:=(Below.heap_alloc _ _ _ p).trans i.o;have m:xR (C2 ((w.alloc (.cells #[sN,.map none,.map none,.slice a b c,.bool (U6 h.w),.int .i64 (Ce h.w:Int),.int .i32 (kI (vO h.w)),E1 (vO h.w) 0,E1 (vO h.w) 1,E1 (vO h.w) 2,E1 (vO h.w) 3,.int .i64 (nI (vO h.w))] 286)).drew) w.heap.size (Lw sN (.map none) (.map none) (.slice a b c) h.w) 286):=heap_alloc_last _ _;have n:xR (Ab No w ((w.alloc (.cells #[sN,.map none,.map none,.slice a b c,.bool (U6 h.w),.int .i64 (Ce h.w:Int),.int .i32 (kI (vO h.w)),E1 (vO h.w) 0,E1 (vO h.w) 1,E1 (vO h.w) 2,E1 (vO h.w) 3,.int .i64 (nI (vO h.w))] 286)).drew)):=((Ab.refl No w).alloc _).drew;refine l.out _ _ q (fun d=>?_);clear l K
 refine An 10 (.iface 284 (C1 w.heap.size)) d ?_;refine An 11 (.iface 284 (C1 w.heap.size)) d ?_
 try simp only[Act.put,Ar,As,Au,Av,Aw,Ax]
 refine wpAnyH_done (by kernel_rfl) ?_ _;clear d j k
 try simp only[Act.put,Ar,As,Au,Av,Aw,Ax]
 generalize (w.alloc (.cells #[sN,.map none,.map none,.slice a b c,.bool (U6 h.w),.int .i64 (Ce h.w:Int),.int .i32 (kI (vO h.w)),E1 (vO h.w) 0,E1 (vO h.w) 1,E1 (vO h.w) 2,E1 (vO h.w) 3,.int .i64 (nI (vO h.w))] 286)).drew=w5 at m n⊢;go_wp21;go_ret;exact⟨rfl,m.o,n.o⟩
theorem JR (n m:Nat)(w:World) :
 Calls prog 112 #[.int .i64 (n:Int),.int .i64 (m:Int)] w fun e w'=>e=.returned (C1 w.heap.size)∧C2 w' w.heap.size (jC (.slice none 0 0) (.map none) (.map none) n m w.heap.size) 240∧Ab No w w':=by
 go_enter func112,ntmps112;go_wp21;go_ret;exact⟨rfl,heap_alloc_last _ _,(Ab.refl No w).alloc _⟩
theorem VX (n:Nat)(a:n=1∨n=2)(w:World) :
 Calls prog 179 #[.int .u64 1,.int .u64 (n:Int)] w fun e w'=>e=.returned (.tuple #[.int .u64 0,.int .u64 (n:Int)])∧w'=w:=by
 rcases a with rfl|rfl
 ·go_enter func179,ntmps179;go_wp2;go_ret2;exact⟨rfl,rfl⟩
 go_enter func179,ntmps179;go_wp2;go_ret2;exact⟨rfl,rfl⟩
theorem SP (n:Nat)(a:n=1∨n=2)(w:World) :
 Calls prog 150 #[.int .u64 1,.int .u64 (n:Int)] w fun e w'=>e=.returned (.tuple #[.int .u64 0,.int .u64 (n:Int)])∧w'=w:=by
 have b:=Ae (VX n a);clear a;go_enter func150,ntmps150;go_wp21;go_call b.o _ as e w1 ⟨rfl,rfl⟩;go_wp21;go_ret2;exact⟨rfl,rfl⟩
theorem cK (w:World):(Instr.makeSlice 121 (.int .i64 1) (.int .i64 1)).run prog w=.ok (.slice (some ⟨w.heap.size,0,none⟩) 1 1) (w.alloc (.cells #[.nilIface] 143)):=by kernel_rfl
theorem cL (w:World):(Instr.makeSlice 121 (.int .i64 2) (.int .i64 2)).run prog w=.ok (.slice (some ⟨w.heap.size,0,none⟩) 2 2) (w.alloc (.cells #[.nilIface,.nilIface] 143)):=by kernel_rfl
theorem SQ:(prog.info? 143).map (·.size)=some 1:=by kernel_rfl
theorem EU (w:World)(d o b g s so h:Nat)(T:Value)(a:Array Value)(t:TypeId)(k:C2 w d a t)(l:C3 w s so T)(m:1≤b)(ho:o<a.size)(n:T.oneCell'=true) :
 (Builtin.copy_ #[121,121] 3 #[.slice (some ⟨d,o,none⟩) b g,.slice (some ⟨s,so,none⟩) 1 h]).run prog w=.ok (.int .i64 1) (w.setRow d (a.toList.take o++[T]++a.toList.drop (o+1)).toArray):=by
 have e:=run_loadCells_list (P:=prog) w ⟨s,so,none⟩ [T] (fun j v hv=>by
  have p:j=0:=by have:=(tR.1 hv).1;simp at this;exact this
  subst p;have q:(⟨s,so,none⟩:Addr).add 0=⟨s,so,none⟩:=by simp[Addr.add]
  rw[q,l];simpa using hv)
 have f:=run_storeCells_at prog d o t [T] 0 a w k (by simp;omega) (by intro v hv;simp at hv;subst hv;exact n);simp only[Nat.add_zero,vD] at f e;have r:Nat.min 1 b=1:=Nat.min_eq_left m;cases c:prog.info? 143 with
 |none=>have:=SQ;simp[c] at this
 |some i =>
  have hi:i.size=1:=by have:=SQ;simpa [c] using this
  simp[Builtin.copy_,run_underlying underlying121,Builtin.lenOf,Builtin.firstCells,sizeOf,typeInfo,c,hi,r,e,f,goInt]
theorem OI (g:Nat)(w:World)(a:TypeId)(p:Addr)(hg:C2 w g #[.iface a (.pointer (some p))] 143) :
 Calls prog 114 #[.slice (some ⟨g,0,none⟩) 1 1,.int .i64 1] w fun e w'=>e=.returned (.slice (some ⟨w.heap.size,0,none⟩) 1 1)∧C2 w' w.heap.size #[.iface a (.pointer (some p))] 143∧Ab No w w':=by
 have h:=cK;have c:=Ae (SP 1 (.inl rfl));have d:=Aa hg;have c1:C3 (w.alloc (.cells #[.nilIface] 143)) g 0 (.iface a (.pointer (some p))):=(World.cell?_of_block (Below.heap_alloc _ _ _ d)).trans ((Af hg 0).trans rfl);have b:=EU (w.alloc (.cells #[.nilIface] 143)) w.heap.size 0 1 1 g 0 1 _ #[.nilIface] 143 (heap_alloc_last _ _) c1 (by omega) (by simp) rfl;rw[World.setRow_alloc_new] at b;simp only[xH,vJ,List.drop_succ_cons,List.drop_zero,vT] at b;clear hg c1;go_enter func114,ntmps114;go_wp21;go_call c.o _ as e w1 ⟨rfl,f⟩;subst f;go_wp21;refine wp_loop_rounds 1 ?_;rw[rounds_succ];go_wp21;go_ret;exact⟨rfl,heap_alloc_last _ _,(Ab.refl No _).alloc _⟩
theorem OJ (g:Nat)(w:World)(a:TypeId)(p:Addr)(hg:C2 w g #[.iface a (.pointer (some p))] 143) :
 Calls prog 114 #[.slice (some ⟨g,0,none⟩) 1 1,.int .i64 2] w fun e w'=>e=.returned (.slice (some ⟨w.heap.size,0,none⟩) 2 2)∧C2 w' w.heap.size #[.iface a (.pointer (some p)),.iface a (.pointer (some p))] 143∧Ab No w w':=by
 have r:=cL;have l:=Ae (SP 2 (.inr rfl));have m:=Aa hg;have c1:C3 (w.alloc (.cells #[.nilIface,.nilIface] 143)) g 0 (.iface a (.pointer (some p))):=(World.cell?_of_block (Below.heap_alloc _ _ _ m)).trans ((Af hg 0).trans rfl);have d:=EU (w.alloc (.cells #[.nilIface,.nilIface] 143)) w.heap.size 0 2 2 g 0 1 _ #[.nilIface,.nilIface] 143 (heap_alloc_last _ _) c1 (by omega) (by simp) rfl;rw[World.setRow_alloc_new] at d;simp only[xH,vJ,List.drop_succ_cons,List.drop_zero,List.singleton_append] at d;have c2:C3 ((w.alloc (.cells #[.iface a (.pointer (some p)),.nilIface] 143)).drew) w.heap.size 0 (.iface a (.pointer (some p))):=(Af (heap_alloc_last _ _) 0).trans rfl
 obtain⟨c,f,h,i⟩:∃c,(Builtin.copy_ #[121,121] 3 #[.slice (some ⟨w.heap.size,1,none⟩) 1 1,.slice (some ⟨w.heap.size,0,none⟩) 1 2]).run prog ((w.alloc (.cells #[.iface a (.pointer (some p)),.nilIface] 143)).drew)=.ok (.int .i64 1) c∧C2 c w.heap.size #[.iface a (.pointer (some p)),.iface a (.pointer (some p))] 143∧Ab No w c :=
  ⟨_,EU ((w.alloc (.cells #[.iface a (.pointer (some p)),.nilIface] 143)).drew) w.heap.size 1 1 1 w.heap.size 0 2 _ #[.iface a (.pointer (some p)),.nilIface] 143 (heap_alloc_last _ _) c2 (by omega) (by simp) rfl,Cj (heap_alloc_last _ _),Bs (((Ab.refl No w).alloc _).drew) (.inl (tY _)) _⟩
 have j:=Ae f;have n:=Ae h;have o:=Ae i;clear f h i;clear hg c1 c2;go_enter func114,ntmps114;go_wp21;go_call l.o _ as e w1 ⟨rfl,q⟩;subst q;go_wp21;refine wp_loop_rounds 2 ?_;rw[rounds_succ];go_wp21;refine wp_region_held_drew (S:=fun _=>True) (by kernel_rfl) trivial (fun b=>?_);refine An 0 (.int .i64 1) b ?_;refine An 1 (.slice (some ⟨w1.heap.size,0,none⟩) 2 2) b ?_;refine An 2 (.int .i64 1) b ?_;refine An 3 (.slice (some ⟨w1.heap.size,1,none⟩) 1 1) b ?_
 try simp only[Act.put,Ar,As,Au,Av,Aw,Ax]
 refine An 4 (.slice (some ⟨w1.heap.size,0,none⟩) 2 2) b ?_;refine An 5 (.int .i64 1) b ?_;refine An 6 (.slice (some ⟨w1.heap.size,0,none⟩) 1 2) b ?_;refine C0 7 (fun K k=>?_);refine Sj (by kernel_rfl) (.tmp 41) (.tmp 44) _ _ (by kernel_rfl) _ _ (by kernel_rfl) (by kernel_rfl) j.o ?_;refine k.out _ _ trivial (fun b=>?_);clear k K
 try simp only[Act.put,Ar,As,Au,Av,Aw,Ax]
 have s:IntKind.i64.wrap 2=2:=by decide
 refine An 8 (.int .i64 2) b ?_;refine An 9 (.int .i64 2) b ?_;refine wpAnyH_done (by kernel_rfl) ?_ _;clear b j d
 try simp only[Act.put,Ar,As,Au,Av,Aw,Ax]
 go_wp21;rw[rounds_succ];go_wp21;go_ret;exact⟨rfl,n.o,o.o⟩
end Go.Proofs.YtdinjjmcmfjbfaaGreatDoor
