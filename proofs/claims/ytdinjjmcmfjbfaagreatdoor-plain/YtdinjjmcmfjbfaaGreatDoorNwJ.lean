import Derived.Test.YtdinjjmcmfjbfaaGreatDoorJmJ
namespace Go.Proofs.YtdinjjmcmfjbfaaGreatDoor
set_option linter.unusedSimpArgs false
open Go.RowKit Go.Shelf
open Mo (V Row Bag cnt Af Be B0 Fw Al UH jL)
def eB (il:Bool)(c c2:Nat)(d S:Bag)(z:Row):Prop:=∃x y,z=UH il x y∧cnt d x≠0∧cnt S y≠0∧Al x c=Al y c2
structure jH (il:Bool) (c c2:Nat) (d S:Bag):Prop where
 len:∀l:Bag,(∀e∈l,eB il c c2 d S e.1)→(Af l).length<maxLen
 mul:∀x y,Al x c=Al y c2→ -9223372036854775808≤cnt d x*cnt S y∧cnt d x*cnt S y≤9223372036854775807
 row:∀x y,cnt d x≠0→cnt S y≠0→1≤x.length∧1≤y.length∧x.length+y.length≤6∧G5 (UH il x y)
 c6:c<6
structure jW (cs:Array Value) (b o o2 c:Nat) (il:Bool) (hv2:Value):Prop where
 col:cs[o]? =some (.int .i64 (c:Int))
 join:cs[o+2]? =some (.pointer (some ⟨b,0,none⟩))
 other:cs[o+3]? =some (.pointer (some ⟨b,o2,none⟩))
 left:cs[o+4]? =some (.bool il)
 held:cs[o2+1]? =some hv2
open Mo (V Row Bag cnt Af Be B0 Fw Al UH jL Gm)
def jC (sl hl hr:Value)(n m b:Nat):Array Value:=#[sl,.int .i64 (n:Int),hl,.pointer (some ⟨b,0,none⟩),.pointer (some ⟨b,6,none⟩),.bool true,.int .i64 (m:Int),hr,.pointer (some ⟨b,0,none⟩),.pointer (some ⟨b,1,none⟩),.bool false]
def jS (il:Bool)(sl hv hv2:Value)(c c2 b:Nat):Array Value:=if il then jC sl hv hv2 c c2 b else jC sl hv2 hv c2 c b
def jO (il:Bool):Nat:=if il then 1 else 6
def YQ (w:World)(O:Ow)(b:Nat)(T:Value)(il:Bool)(c c2:Nat)(B S:Bag):Prop :=
 O b=b+2∧∃g cap hv hv2 f f2,w.heap[b]? =some (.cells (jS il (DK g cap) hv hv2 c c2 b) 240 (0,0))∧Qb w O b g T∧Qc w O (b+2) hv c B f∧Qc w O (b+2) hv2 c2 S f2∧∀k,OI hv f k→¬OI hv2 f2 k
theorem YQ.swap {w:World}{O:Ow}{b:Nat}{T:Value}{a:Bool}{c c2:Nat}{B S:Bag}(h:YQ w O b T a c c2 B S):YQ w O b T (!a) c2 c S B:=by
 obtain⟨d,g,cap,hv,e,f,i,j,l,m,n,o⟩:=h
 refine⟨d,g,cap,e,hv,i,f,?_,l,n,m,fun k p q=>o k q p⟩
 cases a <;> exact j
theorem YQ.stab {w w':World}{O e:Ow}{b:Nat}{T:Value}{i:Bool}{c c2:Nat}{B S:Bag}(h:YQ w O b T i c c2 B S)(a:∀k,k<w.heap.size→O k=b+2→w'.heap[k]? =w.heap[k]?∧e k=O k):YQ w' e b T i c c2 B S:=by
 obtain⟨j,g,cap,hv,n,f,o,l,d,p,q,r⟩:=h
 have m:=a b (Aa l) j
 exact⟨m.2.trans j,g,cap,hv,n,f,o,m.1.trans l,d.stab (a g d.lt d.1),p.stab a,q.stab a,r⟩
theorem YQ.eqv {w:World}{O:Ow}{b:Nat}{T:Value}{a:Bool}{c c2:Nat}{B d S:Bag}(h:YQ w O b T a c c2 B S)(e:Be B d):YQ w O b T a c c2 d S:=by
 obtain⟨i,g,cap,hv,j,f,k,l,m,n,o,p⟩:=h
 exact⟨i,g,cap,hv,j,f,k,l,m,n.eqv e,o,p⟩
open Mo (V Row Bag cnt Af Be B0 Fw Q Cy Al Jf Ac Av A9 wf Xm Qx)
structure Tk where
 ty:TypeId
 f:Nat
 p:Addr
def Tk.val (T:Tk):Value:=.iface T.ty (.pointer (some T.p))
abbrev Ee (T:Tk)(A:Nat→Prop)(ts:List Bool)(Gd:Bag→Prop)(R:World→Ow→Bag→Prop):Prop:=Et T.ty T.f T.p A ts Gd R
def IU (b:Nat):Tk:=⟨275,258,⟨b,0,none⟩⟩
def Yr (b:Nat):Tk:=⟨278,259,⟨b,0,none⟩⟩
def Mg (b:Nat):Tk:=⟨287,265,⟨b,0,none⟩⟩
def LJ (b:Nat):Tk:=⟨281,261,⟨b,0,none⟩⟩
def aE (b:Nat):Tk:=⟨284,262,⟨b,0,none⟩⟩
def Ql (b:Nat)(il:Bool):Tk:=⟨236,256,⟨b,jO il,none⟩⟩
def xS:Option Nat→Cy
 |none=>.val (.num 1)
 |some m=>.col m
inductive Nd where
 |leaf
 |one (b:Nat) (t:Nd)
 |two (b:Nat) (t u:Nd)
def nds:Nd→List Nat
 | .leaf=>[]
 | .one b t=>b::nds t
 | .two b t u=>b::(nds t++nds u)
def A8:Q→Nd→Tk→Nat→(Nat→Bag)→World→Ow→Prop
 | .tab _,.leaf,_,_,_,_,_=>True
 | .sel c k x q,.one b t,T,i,f,w,O=>(∃n,Jh n=k∧Qk w O b T.val n (.col c) x)∧A8 q t (IU b) i f w O
 | .pick cs q,.one b t,T,i,f,w,O=>Om w O b T.val cs∧A8 q t (Yr b) i f w O
 | .join n m q r,.two b t u,T,i,f,w,O=>YQ w O b T.val true n m (Av f i q) (Av f (i+(Ac q).length) r)∧A8 q t (Ql b true) i f w O∧A8 r u (Ql b false) (i+(Ac q).length) f w O
 | .uni q r,.two b t u,T,i,f,w,O=>Uh w O b T.val∧A8 q t (Mg b) i f w O∧A8 r u (Mg b) (i+(Ac q).length) f w O
 | .dist q,.one b t,T,i,f,w,O=>Q7 w O b T.val (Av f i q)∧A8 q t (LJ b) i f w O
 | .grp cs s q,.one b t,T,i,f,w,O=>Wa w O b T.val cs s (xS s) (Av f i q)∧A8 q t (aE b) i f w O
 |_,_,_,_,_,_,_=>False
def Eh:Q→Nd→Tk→Nat→Tk
 | .sel _ _ _ q,.one b t,_,j=>Eh q t (IU b) j
 | .pick _ q,.one b t,_,j=>Eh q t (Yr b) j
 | .dist q,.one b t,_,j=>Eh q t (LJ b) j
 | .grp _ _ q,.one b t,_,j=>Eh q t (aE b) j
 | .join _ _ q r,.two b t u,_,j=>if j<(Ac q).length then Eh q t (Ql b true) j else Eh r u (Ql b false) (j-(Ac q).length)
 | .uni q r,.two b t u,_,j=>if j<(Ac q).length then Eh q t (Mg b) j else Eh r u (Mg b) (j-(Ac q).length)
 |_,_,T,_=>T
def Ky (f:Nat→Bag)(k:Nat)(B:Bag):Nat→Bag:=fun j=>if j=k then B else f j
theorem Ds {f g:Nat→Bag}:∀(q:Q) (i:Nat),(∀j,i≤j→j<i+(Ac q).length→f j=g j)→Av f i q=Av g i q
 | .tab _,i,h=>h i (kZ _) (by simp[Ac])
 | .sel _ _ _ q,i,h=>by simp only[Av];rw[Ds q i h]
 | .pick _ q,i,h=>by simp only[Av];rw[Ds q i h]
 | .join _ _ q r,i,h=>by
   simp only[Av]
   rw[Ds q i fun j a b=>h j a (by simp only[Ac,kU];omega),Ds r _ fun j a b=>h j (by omega) (by simp only[Ac,kU];omega)]
 | .uni q r,i,h=>by
   simp only[Av]
   rw[Ds q i fun j a b=>h j a (by simp only[Ac,kU];omega),Ds r _ fun j a b=>h j (by omega) (by simp only[Ac,kU];omega)]
 | .dist q,i,h=>by simp only[Av];rw[Ds q i h]
 | .grp _ _ q,i,h=>by simp only[Av];rw[Ds q i h]
theorem A8.ext {f g:Nat→Bag}{w:World}{O:Ow}:∀(q:Q) (t:Nd) (T:Tk) (i:Nat),(∀j,i≤j→j<i+(Ac q).length→f j=g j)→A8 q t T i f w O→A8 q t T i g w O
 | .tab _,.leaf,_,_,_,_=>trivial
 | .sel _ _ _ q,.one b t,T,i,h,c=>⟨c.1,A8.ext q t _ i h c.2⟩
 | .pick _ q,.one b t,T,i,h,c=>⟨c.1,A8.ext q t _ i h c.2⟩
 | .dist q,.one b t,T,i,h,c=>⟨by rw[←Ds q i h];exact c.1,A8.ext q t _ i h c.2⟩
 | .grp _ _ q,.one b t,T,i,h,c=>⟨by rw[←Ds q i h];exact c.1,A8.ext q t _ i h c.2⟩
 | .join _ _ q r,.two b t k,T,i,h,c=>by
   have d:∀j,i≤j→j<i+(Ac q).length→f j=g j:=fun j a b=>h j a (by simp only[Ac,kU];omega)
   have e:∀j,i+(Ac q).length≤j→j<i+(Ac q).length+(Ac r).length→f j=g j:=fun j a b=>h j (by omega) (by simp only[Ac,kU];omega)
   exact⟨by rw[←Ds q i d,←Ds r _ e];exact c.1,A8.ext q t _ i d c.2.1,A8.ext r k _ _ e c.2.2⟩
 | .uni q r,.two b t k,T,i,h,c=>by
   have d:∀j,i≤j→j<i+(Ac q).length→f j=g j:=fun j a b=>h j a (by simp only[Ac,kU];omega)
   have e:∀j,i+(Ac q).length≤j→j<i+(Ac q).length+(Ac r).length→f j=g j:=fun j a b=>h j (by omega) (by simp only[Ac,kU];omega)
   exact⟨c.1,A8.ext q t _ i d c.2.1,A8.ext r k _ _ e c.2.2⟩
theorem A8.stab {f:Nat→Bag}{w w':World}{O l:Ow}(g:w.heap.size≤w'.heap.size):∀(q:Q) (t:Nd) (T:Tk) (i:Nat),(∀k,k<w.heap.size→(∃b∈nds t,O k=b+2)∨O k=1→w'.heap[k]? =w.heap[k]?∧l k=O k)→A8 q t T i f w O→A8 q t T i f w' l
 | .tab _,.leaf,_,_,_,_=>trivial
 | .sel _ _ _ q,.one b t,T,i,h,c=>by
   obtain⟨⟨n,m,o⟩,p⟩:=c
   exact⟨⟨n,m,o.stab fun k a e=>h k a (.inl ⟨b,by simp[nds],e⟩)⟩,A8.stab g q t _ i (fun k a e=>h k a (e.imp (fun ⟨x,d,e⟩=>⟨x,by simp[nds,d],e⟩) id)) p⟩
 | .pick _ q,.one b t,T,i,h,c=>⟨c.1.stab g fun k a e=>h k a (e.imp (fun e=>⟨b,by simp[nds],e⟩) id),A8.stab g q t _ i (fun k a e=>h k a (e.imp (fun ⟨x,d,e⟩=>⟨x,by simp[nds,d],e⟩) id)) c.2⟩
 | .dist q,.one b t,T,i,h,c=>⟨c.1.stab fun k a e=>h k a (.inl ⟨b,by simp[nds],e⟩),A8.stab g q t _ i (fun k a e=>h k a (e.imp (fun ⟨x,d,e⟩=>⟨x,by simp[nds,d],e⟩) id)) c.2⟩
 | .grp _ _ q,.one b t,T,i,h,c=>⟨c.1.stab g fun k a e=>h k a (e.imp (fun e=>⟨b,by simp[nds],e⟩) id),A8.stab g q t _ i (fun k a e=>h k a (e.imp (fun ⟨x,d,e⟩=>⟨x,by simp[nds,d],e⟩) id)) c.2⟩
 | .join _ _ q r,.two b t j,T,i,h,c=>⟨c.1.stab fun k a e=>h k a (.inl ⟨b,by simp[nds],e⟩),A8.stab g q t _ i (fun k a e=>h k a (e.imp (fun ⟨x,d,e⟩=>⟨x,by simp[nds,d],e⟩) id)) c.2.1,A8.stab g r j _ _ (fun k a e=>h k a (e.imp (fun ⟨x,d,e⟩=>⟨x,by simp[nds,d],e⟩) id)) c.2.2⟩
 | .uni q r,.two b t j,T,i,h,c=>⟨c.1.stab fun k a e=>h k a (.inl ⟨b,by simp[nds],e⟩),A8.stab g q t _ i (fun k a e=>h k a (e.imp (fun ⟨x,d,e⟩=>⟨x,by simp[nds,d],e⟩) id)) c.2.1,A8.stab g r j _ _ (fun k a e=>h k a (e.imp (fun ⟨x,d,e⟩=>⟨x,by simp[nds,d],e⟩) id)) c.2.2⟩
theorem D3 {ft:List UInt8→Option (List Bool)}{f g:Nat→Bag}:∀(q:Q) (i:Nat),(∀j,i≤j→j<i+(Ac q).length→Be (f j) (g j))→Qx ft q i f→Qx ft q i g
 | .tab _,_,_,_=>trivial
 | .sel _ _ _ q,i,h,ho=>by obtain⟨⟨ts,c,d⟩,e⟩:=ho;exact⟨⟨ts,c,d.eqv (Mo.A7 q i h)⟩,D3 q i h e⟩
 | .pick _ q,i,h,ho=>by obtain⟨⟨ts,c,d⟩,e⟩:=ho;exact⟨⟨ts,c,d.eqv (Mo.A7 q i h)⟩,D3 q i h e⟩
 | .dist q,i,h,ho=>by obtain⟨⟨ts,c,d⟩,e⟩:=ho;exact⟨⟨ts,c,d.eqv (Mo.A7 q i h)⟩,D3 q i h e⟩
 | .grp _ _ q,i,h,ho=>by obtain⟨⟨ts,c,d⟩,e⟩:=ho;exact⟨⟨ts,c,d.eqv (Mo.A7 q i h)⟩,D3 q i h e⟩
 | .join _ _ q r,i,h,ho=>by
   have c:∀j,i≤j→j<i+(Ac q).length→Be (f j) (g j):=fun j a b=>h j a (by simp only[Ac,kU];omega)
   have d:∀j,i+(Ac q).length≤j→j<i+(Ac q).length+(Ac r).length→Be (f j) (g j):=fun j a b=>h j (by omega) (by simp only[Ac,kU];omega)
   obtain⟨⟨⟨ts,a1,k⟩,⟨us,l,m⟩⟩,e,n⟩:=ho
   exact⟨⟨⟨ts,a1,k.eqv (Mo.A7 q i c)⟩,⟨us,l,m.eqv (Mo.A7 r _ d)⟩⟩,D3 q i c e,D3 r _ d n⟩
 | .uni q r,i,h,ho=>by
   have c:∀j,i≤j→j<i+(Ac q).length→Be (f j) (g j):=fun j a b=>h j a (by simp only[Ac,kU];omega)
   have d:∀j,i+(Ac q).length≤j→j<i+(Ac q).length+(Ac r).length→Be (f j) (g j):=fun j a b=>h j (by omega) (by simp only[Ac,kU];omega)
   obtain⟨⟨⟨ts,a1,k⟩,⟨us,l,m⟩⟩,e,n⟩:=ho
   exact⟨⟨⟨ts,a1,k.eqv (Mo.A7 q i c)⟩,⟨us,l,m.eqv (Mo.A7 r _ d)⟩⟩,D3 q i c e,D3 r _ d n⟩
theorem Iu {f:Nat→Bag}{k:Nat}{B a:Bag}(e:Be B a)(j:Nat):Be (Ky f k B j) (Ky f k a j):=by
 unfold Ky;split;exact e;exact Be.refl _
section
variable {T:Tk} {A A':Nat→Prop} {ts:List Bool} {Gd Gd':Bag→Prop} {R R':World→Ow→Bag→Prop}
theorem Et.conv (h:Ee T A ts Gd R)(f:∀a,A a↔A' a)(b:∀{B},Gd' B→Gd B)(hg:∀{B e:Bag},Gd' B→Be B e→Gd' e)(i:∀{w O B},R w O B↔R' w O B):Ee T A' ts Gd' R':=by
 have e1:A=A':=funext fun a=>propext (f a)
 have j:R=R':=funext fun w=>funext fun O=>funext fun B=>propext i
 subst e1 j
 exact⟨h.zero,h.one,fun g=>h.ok (b g),hg,h.stab,h.eqv,h.met,fun w O B d c r k l=>h.run w O B d c r (b k) (b l)⟩
theorem Et.frame (h:Ee T A ts Gd R)(f:Nat→Prop)(F:World→Ow→Prop)(q:¬f 0)(r:¬f 1)(s:∀a,A a→¬f a)(m:∀{w w':World} {O g:Ow},F w O→w.heap.size≤w'.heap.size→(∀k,k<w.heap.size→f (O k)∨O k=1→w'.heap[k]? =w.heap[k]?∧g k=O k)→F w' g) :
 Ee T (fun a=>A a∨f a) ts Gd (fun w O B=>R w O B∧F w O) where
 zero:=fun e=>e.elim h.zero q
 one:=fun e=>e.elim h.one r
 ok:=h.ok
 gde:=h.gde
 stab:=fun hr n o=>⟨h.stab hr.1 n fun k b e=>o k b (e.imp .inl id),m hr.2 n fun k b e=>o k b (e.imp .inr id)⟩
 eqv:=fun hr e=>⟨h.eqv hr.1 e,hr.2⟩
 met:=h.met
 run:=fun w O B d c hr t u v x=>(h.run w O B d c hr.1 t u v (fun e=>x (.inl e))).mono fun e w' y=>by
  obtain⟨z,g,p,j,C⟩:=y
  refine⟨z,g,p,j.mono fun i _ e=>.inl e,C,m hr.2 j.size fun k b e=>⟨j.block k b fun l=>?_,p k b⟩⟩
  rcases e with e|e
  ·exact s _ l e
  ·rw[e] at l;exact h.one l
end
end Go.Proofs.YtdinjjmcmfjbfaaGreatDoor
