import Derived.Test.YtdinjjmcmfjbfaaGreatDoorSmJ
import Derived.Deep.Heap
set_option maxRecDepth 100000
set_option maxHeartbeats 4000000
namespace Go.Proofs.YtdinjjmcmfjbfaaGreatDoor
open Go.RowKit Go.Shelf Go.Deep Mo Pl Tryz
section
abbrev gT:Nat:=1
structure Be (w:World) (O:Ow) (p:Nat) (st:Ses) (xs:List TabS) (vs:List VS) (tv vv:Value):Prop where
 obj:w.heap[p]? =some (.cells #[tv,vv] 76 (0,0))
 own:O p=p+2
 towns:w.ownsRow 0 101 1 tv xs.length (xs.map fun X=>pV X.blk)
 towner:∀b,tv.ownBlock=some b→O b=p+2
 vowns:w.ownsRow 0 81 1 vv vs.length (vs.map fun V=>pV V.blk)
 vowner:∀b,vv.ownBlock=some b→O b=p+2
 tab:∀X∈xs,Wd w O X
 fx:Fx (Li st.tabs) (p+2) xs vs
 tb:xs.map (fun X=>(X.name,X.bag))=st.tabs.map (fun t=>(t.nm,t.bag))
 typ:∀(i:Nat) (X:TabS) (t:Mo.Tab),xs[i]? =some X→st.tabs[i]? =some t→Nl w X.tv t.ts∧∀b,X.tv.ownBlock=some b→O b=1
 vq:vs.map VS.q=st.views
 vat:∀V∈vs,AB V (D0 st.tabs V.q) w O
 told:∀V∈vs,A9 V.told (Cl st.tabs V.q)
 vlen:∀V∈vs,(Ac V.q).length≤60
 vlt:∀V∈vs,∀a,VA V a→a<w.heap.size+2
 good:B4 st.tabs
 few:vs.length≤6
 old:∀k,O k<w.heap.size+2
 o:∀k,w.heap.size≤k→O k=0
 glb:O gT=0
 env:Uh w
section
variable {w w':World} {O:Ow} {p:Nat} {st:Ses} {xs:List TabS} {vs:List VS} {tv vv:Value}
theorem Be.len (h:Be w O p st xs vs tv vv):xs.length=st.tabs.length:=by
 have:=congrArg List.length h.tb;simpa using this
theorem Be.at (h:Be w O p st xs vs tv vv){i:Nat}{X:TabS}(b:xs[i]? =some X):∃t,st.tabs[i]? =some t∧X.name=t.nm∧X.bag=t.bag:=by
 have a:(xs.map fun X=>(X.name,X.bag))[i]? =some (X.name,X.bag):=by rw[tX,b];rfl
 rw[h.tb,tX] at a;obtain⟨t,c,e⟩:=uK.1 a;have:=Prod.mk.inj e;exact⟨t,c,this.1.symm,this.2.symm⟩
theorem Be.sT (h:Be w O p st xs vs tv vv){X:TabS}(a:X∈xs):∃t∈st.tabs,X.name=t.nm∧X.bag=t.bag:=by
 obtain⟨i,hi⟩:=uY a;obtain⟨t,b,e⟩:=h.at hi;exact⟨t,tV b,e⟩
theorem Hi {e:TypeId}{v:Value}{n:Nat}{d:List Value}(h:w.ownsRow 0 e 1 v n d):∃a cap,v=.slice a n cap∧n≤cap∧cap≤maxLen∧∀(i:Nat) (x:Value),d[i]? =some x→∃b o,a=some ⟨b,o,none⟩∧v.ownBlock=some b∧b<w.heap.size∧w.cell? ⟨b,o+i,none⟩=some x:=by
 have j:=h.1;rcases h.2 with ⟨e,f⟩|⟨g,cap,cur,e,_,hg,hc1,hc2,hc3,hc4⟩
 ·refine⟨none,0,by rw[e,f],by omega,by unfold maxLen;omega,fun i x c=>?_⟩;have:=(tR.1 c).1;omega
 refine⟨some ⟨g,0,none⟩,cap,e,hc1,hc2,fun i x c=>⟨g,0,rfl,by rw[e];rfl,Aa hg,?_⟩⟩;rw[Nat.mul_one] at hc4;rw[←hc4,uQ] at c;rw[Af hg,uL];split at c
 ·simpa using c
 cases c
theorem Be.tabs (h:Be w O p st xs vs tv vv):Cs w O tv (p+2) xs:=by
 obtain⟨a,cap,c,d,e,f⟩:=Hi h.towns;refine⟨⟨a,cap,c,d,e,fun i X g=>?_⟩,h.tab⟩;obtain⟨b,o,e1,e2,e3,e4⟩:=f i (pV X.blk) (by rw[tX,g];rfl);exact⟨b,o,e1,e3,h.towner b e2,e4⟩
theorem Be.stays (h:Be w O p st xs vs tv vv)(n:w.heap.size≤w'.heap.size)(d:∀k,k<w.heap.size→O k≠0→w'.heap[k]? =w.heap[k]?)(o:Uh w'):Be w' O p st xs vs tv vv where
 obj:=(d p (Aa h.obj) (by rw[h.own];omega)).trans h.obj
 own:=h.own
 towns:=X0 h.towns fun b e=>by obtain⟨c,q,l⟩:=Bh h.towns e;exact d b (Aa l) (by rw[h.towner b e];omega)
 towner:=h.towner
 vowns:=X0 h.vowns fun b e=>by obtain⟨c,q,l⟩:=Bh h.vowns e;exact d b (Aa l) (by rw[h.vowner b e];omega)
 vowner:=h.vowner
 tab:=fun X f=>(h.tab X f).stab fun k g e=>⟨d k g (by rw[e];omega),rfl⟩
 fx:=h.fx
 tb:=h.tb
 typ:=fun i X t f m=>⟨(h.typ i X t f m).1.stays fun b e r=>d b r.lt (by rw[(h.typ i X t f m).2 b e];omega),(h.typ i X t f m).2⟩
 vq:=h.vq
 vat:=fun V j=>(h.vat V j).stab n fun k g e=>⟨d k g (by
  rcases e with e|e
  ·have:=(h.fx.va V j _ e).1;omega
  omega),rfl⟩
 told:=h.told
 vlen:=h.vlen
 vlt:=fun V j a s=>by have:=h.vlt V j a s;omega
 good:=h.good
 few:=h.few
 old:=fun k=>by have:=h.old k;omega
 o:=fun k g=>h.o k (by omega)
 glb:=h.glb
 env:=o
theorem Be.Cm (h:Be w O p st xs vs tv vv)(k:Ab No w w'):Be w' O p st xs vs tv vv:=h.stays k.size (fun i hi _=>k.block i hi xT) (h.env.Ag k)
end
def G1 (w:World)(X:Nat→Prop)(p:Nat)(st:Ses):Prop:=∃O xs vs tv vv,Be w O p st xs vs tv vv∧∀k,X k↔O k≠0
def Rc (X X':Nat→Prop)(w w':World):Prop:=Ab X w w'∧∀k,X' k→X k∨w.heap.size≤k
theorem G1.stays {w w':World}{X S:Nat→Prop}{p:Nat}{st:Ses}(h:G1 w X p st)(k:Ab S w w')(c:∀i,S i→¬X i)(hg:¬S gT):G1 w' X p st:=by
 obtain⟨O,xs,vs,tv,vv,a,b⟩:=h;exact⟨O,xs,vs,tv,vv,a.stays k.size (fun i hi d=>k.block i hi fun e=>c i e ((b i).2 d)) (a.env.kept k hg),b⟩
theorem G1.glb {w:World}{X:Nat→Prop}{p:Nat}{st:Ses}(h:G1 w X p st):¬X gT:=by
 obtain⟨O,xs,vs,tv,vv,a,b⟩:=h;exact fun e=>(b _).1 e a.glb
theorem G1.lt {w:World}{X:Nat→Prop}{p:Nat}{st:Ses}(h:G1 w X p st){k:Nat}(b:X k):k<w.heap.size:=by
 obtain⟨O,xs,vs,tv,vv,c,d⟩:=h;rcases wV k w.heap.size with a|a
 ·exact a
 exact absurd (c.o k a) ((d k).1 b)
theorem G1.env {w:World}{X:Nat→Prop}{p:Nat}{st:Ses}(h:G1 w X p st):Uh w:=by
 obtain⟨O,xs,vs,tv,vv,a,_⟩:=h;exact a.env
theorem dO (w:World):Calls prog 34 #[] w fun e w'=>e=.returned (pV w.heap.size)∧w'=w.alloc (.cells #[.slice none 0 0,.slice none 0 0] 76):=by
 go_enter func34,ntmps34;go_wp21;go_ret;exact⟨rfl,rfl⟩
theorem kG (w:World)(f:Uh w):Calls prog 34 #[] w fun e w'=>e=.returned (pV w.heap.size)∧G1 w' (fun k=>k=w.heap.size) w.heap.size ⟨[],[]⟩∧Ab No w w':=by
 refine (dO w).mono fun e w' ⟨g,d⟩=>⟨g,?_,by rw[d];exact (Ab.refl No w).alloc _⟩;have j:Ab No w w':=by rw[d];exact (Ab.refl No w).alloc _
 have m:w'.heap.size=w.heap.size+1:=by rw[d];simp
 refine⟨fun k=>if k=w.heap.size then w.heap.size+2 else 0,[],[],.slice none 0 0,.slice none 0 0,?_,fun k=>?_⟩
 ·refine⟨by rw[d];exact heap_alloc_last _ _,if_pos rfl,World.ownsRow_nil _ _ _ _,(fun b e=>by cases e),World.ownsRow_nil _ _ _ _,(fun b e=>by cases e),(fun X c=>by cases c),?_,rfl,(fun i X t c=>by simp at c),rfl,(fun V a=>by cases a),(fun V a=>by cases a),(fun V a=>by cases a),(fun V a=>by cases a),?_,by simp,fun k=>?_,fun k n=>?_,?_,f.Ag j⟩
  ·exact⟨wL,wL,wL,(fun V a=>by cases a),(fun V a=>by cases a),⟨by omega,fun X c=>by cases c⟩,(fun V a=>by cases a),(fun X c=>by cases c),(fun X c=>by cases c)⟩
  ·exact⟨(fun t l=>by cases l),wL,by show (0:Int)≤60;decide,by simp⟩
  ·show (if k=w.heap.size then w.heap.size+2 else 0)<_;split <;> omega
  ·show (if k=w.heap.size then w.heap.size+2 else 0)=0;rw[if_neg (by omega)]
  show (if gT=w.heap.size then w.heap.size+2 else 0)=0
  rw[if_neg (by have:gT<w.heap.size:=f.lt
                omega)]
 show k=w.heap.size↔(if k=w.heap.size then w.heap.size+2 else 0)≠0;split
 ·next h=>exact⟨fun _=>by omega,fun _=>h⟩
 next h=>exact⟨fun e=>absurd e h,fun e=>absurd rfl e⟩
def Us (st:Ses)(i:Int):List UInt8×Int:=if 0≤i∧i<st.views.length then (match st.views[i.toNat]? with
 |some q=>B8 (Cl st.tabs q)
 |none=>[],0) else ([],9)
section
variable {w:World} {O:Ow} {p:Nat} {st:Ses} {xs:List TabS} {vs:List VS} {tv vv:Value}
theorem Be.sU (h:Be w O p st xs vs tv vv){V:VS}(a:V∈vs):B2 V.ts (Cl st.tabs V.q)∧Nr (Cl st.tabs V.q)≤50000000000:=by
 have hf:=h.fx.fix V a;have b:=G0 h.good V.q;exact⟨SB (Hh h.good) b.2 V.q hf.wf hf.len hf.jn 0 (Rb h.good V.q) hf.ty,Xf V.q (h.vlen V a) hf.jn b.1 0⟩
end
theorem kH (p n cap:Nat)(a:Option Addr)(i:Int)(w:World)(hi:i<0∨(n:Int)≤i)(hp:C3 w p 1 (.slice a n cap)) :
 Calls prog 19 #[pV p,.int .i64 i] w fun e w'=>e=.returned (.tuple #[.string ⟨#[]⟩,.int .i64 9])∧Ab No w w':=by
 show Calls prog 19 #[C1 p,.int .i64 i] w _;by_cases b:i<0
 ·go_enter func19,ntmps19;go_wp21;go_ret2;exact⟨rfl,Ab.refl _ _⟩
 have c:(n:Int)≤i:=by omega
 clear hi;go_enter func19,ntmps19;go_wp21;go_ret2;exact⟨rfl,Ab.refl _ _⟩
theorem dP (p n cap b o blk:Nat)(i:Nat)(hv:Value)(t:ByteArray)(w:World)(hi:i<n)(_:n≤cap)(a:cap≤maxLen)(hp:C3 w p 1 (.slice (some ⟨b,o,none⟩) n cap))(_:C3 w b (o+i) (C1 blk))(_:C3 w blk 0 hv)
 (c:∀w1,Ab No w w1→Calls prog 42 #[hv] w1 fun e w'=>e=.returned (.string t)∧Ab No w1 w') :
 Calls prog 19 #[pV p,.int .i64 (i:Int)] w fun e w'=>e=.returned (.tuple #[.string t,.int .i64 0])∧Ab No w w':=by
 show Calls prog 19 #[C1 p,.int .i64 (i:Int)] w _;have h:¬(i:Int)<0:=by omega
 have j:¬(n:Int)≤(i:Int):=by omega
 have k:(i:Int)<(n:Int):=by omega
 have l:=Bn a
 have d:=Ae c;clear c a;go_enter func19,ntmps19;go_wp21;go_call d.o w (Ab.refl _ _) as e w1 ⟨rfl,f⟩;have g:=Ae f;clear f d;go_wp21;go_ret2;exact⟨rfl,g.o⟩
def PK (t:List UInt8):Value:=.string ⟨t.toArray⟩
theorem dQ {w:World}{X:Nat→Prop}{p:Nat}{st:Ses}(h:G1 w X p st)(i:Int) :
 Calls prog 19 #[pV p,.int .i64 i] w fun e w'=>e=.returned (.tuple #[PK (Us st i).1,.int .i64 (Us st i).2])∧G1 w' X p st∧Ab No w w':=by
 have l:∀w',Ab No w w'→G1 w' X p st:=fun w' s=>h.stays s (fun _ e=>e.elim) xT;obtain⟨O,xs,vs,tv,vv,c,_⟩:=h;obtain⟨a,cap,e1,e2,e3,e4⟩:=Hi c.vowns;have c1:C3 w p 1 vv:=(Af c.obj 1).trans rfl;have D:st.views.length=vs.length:=by rw[←c.vq];simp
 by_cases hi:0≤i∧i<st.views.length
 ·obtain⟨n,rfl⟩:∃n:Nat,i=(n:Int):=⟨i.toNat,by omega⟩;have m:n<vs.length:=by omega
  obtain⟨V,g⟩:∃V,vs[n]? =some V:=⟨_,tT m⟩;have f:=tV g;obtain⟨b,o,t,_,_,u⟩:=e4 n (pV V.blk) (by rw[tX,g];rfl);have v:st.views[n]? =some V.q:=by rw[←c.vq,tX,g];rfl
  have j:Us st (n:Int)=(B8 (Cl st.tabs V.q),0):=by unfold Us;rw[if_pos hi];simp[v]
  rw[j];obtain⟨⟨_,hv,_,x,y,_,_⟩,_⟩:=c.vat V f;obtain⟨ok,z⟩:=c.sU f;have A:OB V.ts (Ad V.told):=by have:=TA ok z;have B:=(c.told V f).canon;rw[B];exact⟨fun r hr=>this.ty r (by rw[Aq] at hr;exact hr),fun r=>by rw[Aq];exact this.bd r,by rw[Bp (Ap _)];exact this.len⟩
  have C:B8 (Ad V.told)=B8 (Cl st.tabs V.q):=Tf ((Bc _).trans (c.told V f));rw[e1,t] at c1;refine (dP p vs.length cap b o V.blk n hv ⟨(B8 (Cl st.tabs V.q)).toArray⟩ w m e2 e3 c1 u ((Af x 0).trans rfl) fun w1 q=>?_).mono fun e w' ⟨k,d⟩=>⟨k,l w' d,d⟩;rw[←C];exact Wa hv _ w1 (y.1.Ag q) A (c.env.Ag q)
 have j:Us st i=([],9):=by unfold Us;rw[if_neg hi]
 rw[j];rw[e1] at c1;exact (kH p vs.length cap a i w (by omega) c1).mono fun e w' ⟨k,d⟩=>⟨k,l w' d,d⟩
theorem oI:(prog.info? 101).map (fun i=>(i.zero,i.size,i.bytes))=some (some (.pointer none),1,8):=by kernel_rfl
def FF (p n:Nat)(nm:ByteArray)(us:List Bool)(tv:Value)(ls:List Value)(w:World)(e:Ending)(w':World):Prop :=
 e=.returned (.int .i64 0)∧∃w2 w5 b cap v',Ab No w w2∧w.heap.size≤b∧Nl w2 (.slice (some ⟨b,0,none⟩) us.length cap) us∧w5.ownsRow 0 101 1 v' (n+1) (ls++[pV w2.heap.size]) ∧
  ((w2.alloc (.cells #[.slice none 0 0,.map none,.string nm,.slice (some ⟨b,0,none⟩) us.length cap] 125)).alloc (.cells #[pV w2.heap.size] 101)).grownBy w5 tv.ownBlock∧(v'.ownBlock=tv.ownBlock∨v'.ownBlock=some (w2.heap.size+2))∧w'=w5.setCell ⟨p,0,none⟩ v'
theorem KO {w:World}{base:Nat}{e:TypeId}{v:Value}{n:Nat}{xs:List Value}(h:w.ownsRow base e 1 v (n+1) xs):∃g cap,v=.slice (some ⟨g,0,none⟩) (n+1) cap:=by
 rcases h.2 with ⟨_,a⟩|⟨g,cap,_,e,_⟩
 ·exact absurd a (by omega)
 exact⟨g,cap,e⟩
theorem PM (p n:Nat)(tv vv:Value)(ts:List (Nat×List UInt8))(nm g:ByteArray)(us:List Bool)(w:World)(k:List Value)(hp:C2 w p #[tv,vv] 76)(hO:w.ownsRow 0 101 1 tv n k)(x:Gy w tv ts)(_:ts.length=n)(_:n<4)(N:Lz nm=true)(O:Du g=some us)(P:Bz ts nm.data.toList<0) :
 Calls prog 35 #[pV p,.string nm,.string g] w (FF p n nm us tv k w):=by
 show Calls prog 35 #[C1 p,.string nm,.string g] w _;have m:=Ae (I2 nm w);have o:xR (∀w1,Calls prog 59 #[.string g] w1 (R1 (Du g) w1)):=fun w1=>Hz g w1;rw[O] at o;rw[N] at m;have y:=Ae hp;have Q:=Ae hO;have R:=Ae x;have z:=Aa hp;obtain⟨c,d,rfl⟩:∃a cap,tv=.slice a n cap:=by obtain⟨a,cap,e,_⟩:=Hi hO;exact⟨a,cap,e⟩
 have ak:((n:Int) == 4)=false:=by simp;omega
 obtain⟨S,T,U,V,W⟩:=info_parts oI;clear hp hO x;go_enter func35,ntmps35;go_wp21;go_call m.o as e w1 ⟨⟨f,rfl,i⟩,A⟩;obtain rfl:=i (by trivial);have B:=Ae A;clear A m i;go_wp21;go_call o.o w1 as e C ⟨D,X⟩;obtain⟨Y,b,cap,E,rfl,F,G⟩:=X.resolve_right (fun ⟨h,_⟩=>by cases h);obtain rfl:us=Y:=by simpa using E
 have q:=Ae (B.o.seq D);have H:=Ae G;have Z:w.heap.size≤b:=uJ B.o.size F;have aa:C3 C p 0 (.slice c n d):=(q.o.cell z xT).trans ((Af y.o 0).trans rfl);have l:=Ae (Kb (.slice c n d) ts f.data.toList C (R.o.kept q.o) (by omega));have i:(⟨f.data.toList.toArray⟩:ByteArray)=f:=by rw[xM]
 rw[i] at l;have ab:¬(0:Int)≤Bz ts f.data.toList:=by omega
 generalize Bz ts f.data.toList=al at l P ab;clear D E G F o i;go_wp21;go_call l.o as e w3 ⟨rfl,r⟩;have s:=Ae (q.o.seq r);have ac:=Ae (H.o.kept r);have j:C2 w3 p #[.slice c n d,vv] 76:=(s.o.block p z xT).trans y.o;have ad:C3 w3 p 0 (.slice c n d):=(Af j 0).trans rfl;have I:w3.ownsRow 0 101 1 (.slice c n d) n k:=Br Q.o s.o (fun _ _ e=>e);have ae:=Ae j;have af:=Aa j;have ag:some p≠(Value.slice c n d).ownBlock:=fun e=>by have:=Lo I p e.symm;exact absurd (this.ne j) (by decide)
 clear r l aa H j;go_wp2_with (first
  |(at_builtin;refine wpList_append_own_at _ rfl _ _ 73 rfl 0 101 S (.pointer none) 1 8 underlying73 T U V W rfl (by decide) _ _ _ rfl ((I.alloc _).alloc _) ⟨w3.heap.size+1,0,none⟩ 1 1 [C1 w3.heap.size] rfl rfl (by have:=World.news_of_block (cs:=#[C1 w3.heap.size]) (t:=101) (fr:=(0,0)) (heap_alloc_last (w3.alloc (.cells #[.slice none 0 0,.map none,.string f,.slice (some ⟨b,0,none⟩) us.length cap] 125)) (.cells #[C1 w3.heap.size] 101));simpa using this) (by intro am J;simp at J;subst J;rfl) (by unfold maxLen;omega) (by omega) (by omega) ?_;intro an w5 K L _ ah;obtain⟨u,v,rfl⟩:=KO K;have M:w5.heap[p]? =w3.heap[p]? :=(L.block p (by simp;omega) ag).trans ((Below.heap_alloc _ _ _ (by simp;omega)).trans (Below.heap_alloc _ _ _ af));have ao:C3 w5 p 0 (.slice c n d):=(World.cell?_of_block M).trans ad;have ap:w5.frozen? ⟨p,0,none⟩=false:=(World.frozen?_of_block M).trans (Am ae.o 0))
  |fail)
 have ai:(Value.slice (some ⟨u,0,none⟩) (n+1) v).ownBlock=(Value.slice c n d).ownBlock∨(Value.slice (some ⟨u,0,none⟩) (n+1) v).ownBlock=some (w3.heap.size+2):=by
  rcases ah with h|h
  ·exact .inl h
  refine .inr (h.trans ?_);simp
 have aj:xR (FF p n f us (.slice c n d) k w (.returned (.int .i64 0)) (w5.setCell ⟨p,0,none⟩ (.slice (some ⟨u,0,none⟩) (n+1) v))):=⟨rfl,w3,w5,b,cap,_,s.o,Z,ac.o,K,L,ai,rfl⟩;go_ret;exact aj.o
theorem PN (p:Nat)(nm a:ByteArray)(w:World)(k:Lz nm=false) :
 Calls prog 35 #[pV p,.string nm,.string a] w fun e w'=>e=.returned (.int .i64 2)∧Ab No w w':=by
 show Calls prog 35 #[C1 p,.string nm,.string a] w _;have d:=Ae (I2 nm w);have f:xR (∀w1,Calls prog 59 #[.string a] w1 (R1 (Du a) w1)):=fun w1=>Hz a w1;rw[k] at d;go_enter func35,ntmps35;go_wp21;go_call d.o as e w1 ⟨⟨_,rfl,-⟩,i⟩;have j:=Ae i;clear i d;go_wp21;go_call f.o w1 as e n ⟨c,⟨_,b,cap,g,rfl,l,m⟩|⟨g,v,rfl⟩⟩
 ·have h:=Ae (j.o.seq c);clear c g m l f;go_wp21;go_ret;exact⟨rfl,h.o⟩
 have h:=Ae (j.o.seq c);clear c g f;go_wp21;go_ret;exact⟨rfl,h.o⟩
theorem KP (p:Nat)(nm a:ByteArray)(w:World)(i:Lz nm=true)(j:Du a=none) :
 Calls prog 35 #[pV p,.string nm,.string a] w fun e w'=>e=.returned (.int .i64 2)∧Ab No w w':=by
 show Calls prog 35 #[C1 p,.string nm,.string a] w _;have b:=Ae (I2 nm w);have c:xR (∀w1,Calls prog 59 #[.string a] w1 (R1 (Du a) w1)):=fun w1=>Hz a w1;rw[i] at b;rw[j] at c;go_enter func35,ntmps35;go_wp21;go_call b.o as e w1 ⟨⟨_,rfl,-⟩,d⟩;have k:=Ae d;clear d b;go_wp21;go_call c.o w1 as e m ⟨f,g⟩;obtain⟨-,v,rfl⟩:=g.resolve_left (fun ⟨_,_,_,h,_⟩=>by cases h);have l:=Ae (k.o.seq f);clear f g c;go_wp21;go_ret;exact⟨rfl,l.o⟩
theorem PQ (p n f:Nat)(g:Option Addr)(nm a:ByteArray)(us:List Bool)(w:World)(m:p<w.heap.size)(hp:C3 w p 0 (.slice g n f))(o:n=4)(q:Lz nm=true)(r:Du a=some us) :
 Calls prog 35 #[pV p,.string nm,.string a] w fun e w'=>e=.returned (.int .i64 4)∧Ab No w w':=by
 show Calls prog 35 #[C1 p,.string nm,.string a] w _;have c:=Ae (I2 nm w);have d:xR (∀w1,Calls prog 59 #[.string a] w1 (R1 (Du a) w1)):=fun w1=>Hz a w1;rw[q] at c;rw[r] at d;subst o;have s:=Ae hp;clear hp;go_enter func35,ntmps35;go_wp21;go_call c.o as e w1 ⟨⟨_,rfl,-⟩,i⟩;have t:=Ae i;clear i c;go_wp21;go_call d.o w1 as e u ⟨j,k⟩;obtain⟨_,b,cap,v,rfl,x,y⟩:=k.resolve_right (fun ⟨h,_⟩=>by cases h);have l:=Ae (t.o.seq j);have z:C3 u p 0 (.slice g 4 f):=(l.o.cell m xT).trans s.o;clear j k v x y d;go_wp21;go_ret;exact⟨rfl,l.o⟩
theorem KQ (p n d:Nat)(f:Option Addr)(ts:List (Nat×List UInt8))(nm a:ByteArray)(us:List Bool)(w:World)(u:p<w.heap.size)(hp:C3 w p 0 (.slice f n d))(m:Gy w (.slice f n d) ts)(v:ts.length≤1000)(_:n<4)(x:Lz nm=true)(y:Du a=some us)(z:0≤Bz ts nm.data.toList) :
 Calls prog 35 #[pV p,.string nm,.string a] w fun e w'=>e=.returned (.int .i64 5)∧Ab No w w':=by
 show Calls prog 35 #[C1 p,.string nm,.string a] w _;have j:=Ae (I2 nm w);have k:xR (∀w1,Calls prog 59 #[.string a] w1 (R1 (Du a) w1)):=fun w1=>Hz a w1;rw[x] at j;rw[y] at k;have A:=Ae hp;have B:=Ae m;have H:((n:Int) == 4)=false:=by simp;omega
 clear hp m;go_enter func35,ntmps35;go_wp21;go_call j.o as e w1 ⟨⟨g,rfl,c⟩,o⟩;obtain rfl:=c (by trivial);have C:=Ae o;clear o j c;go_wp21;go_call k.o w1 as e q ⟨r,s⟩;obtain⟨_,b,cap,D,rfl,E,F⟩:=s.resolve_right (fun ⟨h,_⟩=>by cases h);have l:=Ae (C.o.seq r);have I:C3 q p 0 (.slice f n d):=(l.o.cell u xT).trans A.o;have i:=Ae (Kb (.slice f n d) ts g.data.toList q (B.o.kept l.o) v);have c:(⟨g.data.toList.toArray⟩:ByteArray)=g:=by rw[xM]
 rw[c] at i;generalize Bz ts g.data.toList=J at i z;clear r s D E F k c;go_wp21;go_call i.o as e w3 ⟨rfl,t⟩;have G:=Ae (l.o.seq t);clear t i;go_wp21;go_ret;exact⟨rfl,G.o⟩
end
end Go.Proofs.YtdinjjmcmfjbfaaGreatDoor
namespace Go.Proofs.YtdinjjmcmfjbfaaGreatDoor.Mo
theorem E0 {f:List UInt8→Option (List Bool)}:∀(q:Q) (ts:List Bool),A7 f q=some ts→∀nm∈Ac q,∃us,f nm=some us
 | .tab nm,ts,h,e,a=>by have:e=nm:=(by simpa [Ac] using a);subst this;exact⟨ts,h⟩
 | .sel c k x q,ts,h,nm,a=>by obtain⟨us,b,_⟩:=uE.1 h;exact E0 q us b nm a
 | .pick cs q,ts,h,nm,a=>by obtain⟨us,b,_⟩:=uE.1 h;exact E0 q us b nm a
 | .dist q,ts,h,nm,a=>E0 q ts h nm a
 | .grp cs s q,ts,h,nm,a=>by obtain⟨us,b,_⟩:=uE.1 h;exact E0 q us b nm a
 | .join n m q r,ts,h,nm,a=>by
   obtain⟨us,b,d⟩:=uE.1 (show (A7 f q).bind (fun ts=>(A7 f r).bind fun us=>C8 n m ts us)=some ts from h);obtain⟨vs,hv,_⟩:=uE.1 d;rcases tW.1 (show nm∈Ac q++Ac r from a) with a|a
   ·exact E0 q us b nm a
   exact E0 r vs hv nm a
 | .uni q r,ts,h,nm,a=>by
   obtain⟨us,b,d⟩:=uE.1 (show (A7 f q).bind (fun ts=>(A7 f r).bind fun us=>if ts=us then some ts else none)=some ts from h);obtain⟨vs,hv,_⟩:=uE.1 d;rcases tW.1 (show nm∈Ac q++Ac r from a) with a|a
   ·exact E0 q us b nm a
   exact E0 r vs hv nm a
theorem Jy {f g:List UInt8→Option (List Bool)}:∀(q:Q),(∀nm∈Ac q,f nm=g nm)→A7 f q=A7 g q
 | .tab nm,h=>h nm (by simp[Ac])
 | .sel c k x q,h=>by show (A7 f q).bind _=(A7 g q).bind _;rw[Jy q h]
 | .pick cs q,h=>by show (A7 f q).bind _=(A7 g q).bind _;rw[Jy q h]
 | .dist q,h=>Jy q h
 | .grp cs s q,h=>by show (A7 f q).bind _=(A7 g q).bind _;rw[Jy q h]
 | .join n m q r,h=>by show ((A7 f q).bind fun ts=>(A7 f r).bind fun us=>_)=(A7 g q).bind fun ts=>(A7 g r).bind fun us=>_;rw[Jy q fun nm a=>h nm (tW.2 (.inl a)),Jy r fun nm a=>h nm (tW.2 (.inr a))]
 | .uni q r,h=>by show ((A7 f q).bind fun ts=>(A7 f r).bind fun us=>_)=(A7 g q).bind fun ts=>(A7 g r).bind fun us=>_;rw[Jy q fun nm a=>h nm (tW.2 (.inl a)),Jy r fun nm a=>h nm (tW.2 (.inr a))]
theorem Lj {tb:List Tab}{x:Tab}{nm:List UInt8}{t:Tab}(h:Dw tb nm=some t):Dw (tb++[x]) nm=some t:=by
 unfold Dw at h⊢;rw[List.find?_append,h];rfl
theorem Oj {tb:List Tab}{nm:List UInt8}{us:List Bool}(h:Li tb nm=some us):∃t,Dw tb nm=some t∧t.ts=us:=by
 obtain⟨t,a,e⟩:=uK.1 h;exact⟨t,a,e⟩
theorem kJ {tb:List Tab}{x:Tab}{q:Q}{ts:List Bool}(h:A7 (Li tb) q=some ts):A7 (Li (tb++[x])) q=some ts:=by
 rw[←h];refine Jy q fun nm b=>?_;obtain⟨us,c⟩:=E0 q ts h nm b;obtain⟨t,a,_⟩:=Oj c;unfold Li;rw[Lj a,a]
theorem CP {tb:List Tab}{x:Tab}{q:Q}{ts:List Bool}(h:A7 (Li tb) q=some ts):D0 (tb++[x]) q=D0 tb q:=by
 funext j;unfold D0;cases b:(Ac q)[j]? with
 |none=>rfl
 |some nm =>obtain⟨us,c⟩:=E0 q ts h nm (tV b);obtain⟨t,a,_⟩:=Oj c;simp only;unfold Ed;rw[Lj a,a]
theorem dR {tb:List Tab}{x:Tab}{q:Q}{ts:List Bool}(h:A7 (Li tb) q=some ts):Cl (tb++[x]) q=Cl tb q:=by
 unfold Cl;rw[CP h]
theorem R3 {tb:List Tab}{nm:List UInt8}:Dw tb nm=none↔∀t∈tb,t.nm≠nm:=by
 unfold Dw;rw[List.find?_eq_none];simp
theorem XE {tb:List Tab}(h:B4 tb){nm:List UInt8}{us:List Bool}(g:Dw tb nm=none)(i:1≤us.length∧us.length≤4)(j:EC (.txt nm))(_:tb.length<4):B4 (tb++[⟨nm,us,[]⟩]):=by
 refine⟨fun t c=>?_,?_,?_,by simp;omega⟩
 ·rcases tW.1 c with c|c
  ·exact h.each t c
  rw[xA] at c;subst c;exact⟨fun r=>vU _,(fun e d=>by cases d),(fun e d=>by cases d),(fun e d=>by cases d),i,j⟩
 ·rw[uF,vP];refine⟨h.nod,by simp,fun a k b f e=>?_⟩;simp at f;subst e f;obtain⟨t,c,e⟩:=uA.1 k;exact R3.1 g t c e
 have:=h.rows;unfold Sn at this⊢;rw[uF,List.sum_append];simp[Nr,Ci];exact this
end Go.Proofs.YtdinjjmcmfjbfaaGreatDoor.Mo
namespace Go.Proofs.YtdinjjmcmfjbfaaGreatDoor
open Go.RowKit Go.Shelf Go.Deep Mo Pl Tryz
section
theorem kK {s:ByteArray}(h:Lz s=true):EC (.txt s.data.toList):=by
 unfold Lz at h;have a:(Bj s 0).1=true∧(Bj s 0).2=s.size:=by simpa using h
 have e:Bj s 0=(true,s.size):=Prod.ext a.1 a.2;have:=Xe (by omega) e;have b:Ia s 0 s.size=s.data.toList:=by rw[Oq,List.drop_zero];exact uW (by rw[M4];exact tY _)
 rw[b] at this;exact this
theorem PR {s:ByteArray}{us:List Bool}(h:Du s=some us):1≤us.length∧us.length≤4:=by
 unfold Du at h;by_cases a:1≤s.size∧s.size≤4
 ·rw[if_pos a] at h;rw[KH h,M4];exact a
 rw[if_neg a] at h;cases h
theorem CQ:∀(ts:List (Nat×List UInt8)) (nm:List UInt8),Bz ts nm<0↔∀x∈ts,x.2≠nm
 | [],nm=>by simp[Bz]
 |x::ts,nm=>by
  simp only[Bz];have c:=CQ ts nm;have hg:=Oe ts nm;by_cases b:x.2=nm
  ·rw[if_pos b];exact⟨fun h=>by omega,fun h=>absurd b (h x (by simp))⟩
  rw[if_neg b];by_cases d:Bz ts nm= -1
  ·rw[if_pos d];refine⟨fun _ y a=>?_,fun _=>by omega⟩;rcases uP.1 a with rfl|a
   ·exact b
   exact c.1 (by omega) y a
  rw[if_neg d];refine⟨fun h=>by omega,fun h=>?_⟩;have:=c.2 fun y a=>h y (by simp[a]);omega
def Fy (st:Ses)(nm tp:ByteArray):Int×Ses:=if Lz nm then (match Du tp with
 |none=>(2,st)
 |some us=>if st.tabs.length=4 then (4,st) else if (Dw st.tabs nm.data.toList).isSome then (5,st) else (0,⟨st.tabs++[⟨nm.data.toList,us,[]⟩],st.views⟩)) else (2,st)
section
variable {w w':World} {O:Ow} {p:Nat} {st:Ses} {xs:List TabS} {vs:List VS} {tv vv:Value}
theorem Be.find (h:Be w O p st xs vs tv vv)(nm:List UInt8):Bz (xs.map fun X=>(X.blk,X.name)) nm<0↔Dw st.tabs nm=none:=by
 rw[CQ,R3];constructor
 ·intro hf t b;obtain⟨i,hi⟩:=uY b;obtain⟨X,a⟩:∃X,xs[i]? =some X:=⟨_,tT (by rw[h.len];exact (tR.1 hi).1)⟩;obtain⟨d,c,e1,_⟩:=h.at a;rw[hi] at c;obtain rfl:t=d:=by simpa using c
  have:=hf (X.blk,X.name) (uA.2 ⟨X,tV a,rfl⟩);rw[←e1];exact this
 intro hf x e;obtain⟨X,a,rfl⟩:=uA.1 e;obtain⟨t,b,e1,_⟩:=h.sT a;show X.name≠nm;rw[e1];exact hf t b
theorem Be.Vr (h:Be w O p st xs vs tv vv){X:TabS}(a:X∈xs):X.blk<w.heap.size:=by
 obtain⟨_,v,hv,b,_⟩:=h.tab X a;exact Aa b
theorem Be.more (h:Be w O p st xs vs tv vv){nm:ByteArray}{us:List Bool}(aa:Lz nm=true)(ab:1≤us.length∧us.length≤4)(L:Dw st.tabs nm.data.toList=none)(ac:st.tabs.length<4){e:Ending}
 (ad:FF p xs.length nm us tv (xs.map fun X=>pV X.blk) w e w'):∃s ae af,Be w' s p ⟨st.tabs++[⟨nm.data.toList,us,[]⟩],st.views⟩ ae vs af vv∧Ab (fun k=>O k≠0) w w'∧∀k,s k≠0→O k≠0∨w.heap.size≤k:=by
 obtain⟨-,g,w5,b,cap,v',I,_,R,T,E,ag,rfl⟩:=ad;have hp:=Aa h.obj;have a1:=I.size;have a2:b<g.heap.size:=by obtain⟨b',ah,ai,e,M,_⟩:=R;injection e with e1;injection e1 with e1;injection e1 with e1;rw[e1];exact M.lt
 have a3:g.heap.size+2≤w5.heap.size:=by have:=E.size;simpa using this
 have J:(w5.setCell ⟨p,0,none⟩ v').heap.size=w5.heap.size:=nblk_setCell _ _ _;have K:∀k,tv.ownBlock=some k→k<w.heap.size∧k≠p:=fun k e=>by obtain⟨c,N,f⟩:=Bh h.towns e;refine⟨Aa f,fun v=>?_⟩;subst v;rw[h.obj] at f;injection f with f;injection f with _ f;exact absurd f (by decide)
 have aj:some p≠tv.ownBlock:=fun e=>(K p e.symm).2 rfl;have U:∀k,k<g.heap.size→k≠p→some k≠tv.ownBlock→(w5.setCell ⟨p,0,none⟩ v').heap[k]? =g.heap[k]? :=fun k l C n=>by rw[blk_setCell_other _ _ _ _ C,E.block k (by simp;omega) n,Below.heap_alloc _ _ _ (by simp;omega),Below.heap_alloc _ _ _ l]
 have blk:∀k,k<w.heap.size→k≠p→some k≠tv.ownBlock→(w5.setCell ⟨p,0,none⟩ v').heap[k]? =w.heap[k]? :=fun k l C n=>(U k (by omega) C n).trans (I.block k l xT);have P:∀k,k<w.heap.size→O k≠p+2→(w5.setCell ⟨p,0,none⟩ v').heap[k]? =w.heap[k]? :=fun k l C=>blk k l (fun e=>C (by rw[e];exact h.own)) (fun e=>C (h.towner k e.symm));have ak:w5.heap[p]? =some (.cells #[tv,vv] 76 (0,0)):=by rw[E.block p (by simp;omega) aj,Below.heap_alloc _ _ _ (by simp;omega),Below.heap_alloc _ _ _ (by omega),I.block p hp xT];exact h.obj
 have al:(w5.setCell ⟨p,0,none⟩ v').heap[p]? =some (.cells #[v',vv] 76 (0,0)):=by rw[A0 ak];rfl
 have am:(w5.setCell ⟨p,0,none⟩ v').heap[g.heap.size]? =some (.cells #[.slice none 0 0,.map none,.string nm,.slice (some ⟨b,0,none⟩) us.length cap] 125 (0,0)):=by rw[blk_setCell_other _ _ _ _ (by show g.heap.size≠p;omega),E.block _ (by simp;omega) (fun e=>by have:=(K _ e.symm).1;omega),Below.heap_alloc _ _ _ (by simp)];exact heap_alloc_last _ _
 have Q:∀k,v'.ownBlock=some k→k≠p∧(k<w.heap.size→O k=p+2)∧(w.heap.size≤k→k=g.heap.size+2)∧k<w5.heap.size:=fun k e=>by
  obtain⟨c,N,f⟩:=Bh T e;rcases ag with F|F
  ·have:=K k (F.symm.trans e);exact⟨this.2,fun _=>h.towner k (F.symm.trans e),fun _=>by omega,Aa f⟩
  have:k=g.heap.size+2:=by rw[e] at F;simpa using F
  exact⟨by omega,fun _=>by omega,fun _=>this,Aa f⟩
 have an:(w5.setCell ⟨p,0,none⟩ v').ownsRow 0 101 1 v' (xs.length+1) ((xs.map fun X=>pV X.blk)++[pV g.heap.size]):=X0 T fun k e=>blk_setCell_other _ _ _ _ (Q k e).1;have W:Ab (fun k=>O k≠0) w (w5.setCell ⟨p,0,none⟩ v'):=by refine Ab.setCell (Ab.grown (((I.any (S:=fun k=>O k≠0)).alloc _).alloc _) E fun r e=>.inr (by show O r≠0;rw[h.towner r e];omega)) (.inr (by show O p≠0;rw[h.own];omega)) v'
 refine⟨fun k=>if k<w.heap.size then O k else if k=b then 1 else if k=g.heap.size then g.heap.size+2 else if v'.ownBlock=some k then p+2 else 0,xs++[⟨g.heap.size,nm.data.toList,[],[],.slice (some ⟨b,0,none⟩) us.length cap⟩],v',?_,W,fun k l=>?_⟩
 case refine_2 =>
  rcases wV k w.heap.size with o|o
  ·exact .inl (by simpa [o] using l)
  exact .inr o
 generalize D:(fun k=>if k<w.heap.size then O k else if k=b then 1 else if k=g.heap.size then g.heap.size+2 else if v'.ownBlock=some k then p+2 else 0)=s;have B:∀k,k<w.heap.size→s k=O k:=fun k l=>by rw[←D];exact if_pos l
 have Y:s b=1:=by rw[←D];show (if b<_ then _ else if b=b then 1 else _)=1;rw[if_neg (by omega),if_pos rfl]
 have ao:s g.heap.size=g.heap.size+2:=by rw[←D];show (if _<_ then _ else if _=b then 1 else if _=_ then _ else _)=_;rw[if_neg (by omega),if_neg (by omega),if_pos rfl]
 have ap:∀k,v'.ownBlock=some k→s k=p+2:=fun k e=>by
  obtain⟨_,u,G,_⟩:=Q k e;rcases wV k w.heap.size with o|o
  ·rw[B k o];exact u o
  have:=G o;rw[←D];show (if _<_ then _ else if _=b then 1 else if _=_ then _ else if _ then _ else _)=_;rw[if_neg (by omega),if_neg (by omega),if_neg (by omega),if_pos e]
 have aq:∀k,w5.heap.size≤k→s k=0:=fun k l=>by rw[←D];show (if _<_ then _ else if _=b then 1 else if _=_ then _ else if _ then _ else _)=_;rw[if_neg (by omega),if_neg (by omega),if_neg (by omega),if_neg (fun e=>by have:=(Q k e).2.2.2;omega)]
 have ar:∀k,s k<w5.heap.size+2:=fun k=>by
  have a4:=h.old k;have z:O k<w5.heap.size+2:=by omega
  have u:1<w5.heap.size+2:=by omega
  have G:g.heap.size+2<w5.heap.size+2:=by omega
  have au:p+2<w5.heap.size+2:=by omega
  have av:0<w5.heap.size+2:=by omega
  rw[←D];show (if _<_ then _ else if _=b then 1 else if _=_ then _ else if _ then _ else _)<_;split
  ·exact z
  split
  ·exact u
  split
  ·exact G
  split
  ·exact au
  exact av
 have aw:gT<w.heap.size:=h.env.lt;have ax:∀V∈vs,∀j,(Ac V.q)[j]?≠some nm.data.toList:=fun V m j ay=>by obtain⟨_,az⟩:=E0 V.q V.ts (h.fx.fix V m).ty _ (tV ay);obtain⟨t,n,_⟩:=Oj az;rw[L] at n;cases n
 have a0:Kq vs nm.data.toList=[]:=by refine List.eq_nil_iff_forall_not_mem.2 fun x q=>?_;obtain⟨z,u⟩:=Pg.1 q;exact ax _ z _ u
 have H:∀{X:TabS},X∈xs++[(⟨g.heap.size,nm.data.toList,[],[],.slice (some ⟨b,0,none⟩) us.length cap⟩:TabS)]→X∈xs∨X=⟨g.heap.size,nm.data.toList,[],[],.slice (some ⟨b,0,none⟩) us.length cap⟩:=fun d=>(tW.1 d).imp id xA.1;have a5:s b≠p+2:=by rw[Y];omega
 refine⟨al,by rw[B p hp];exact h.own,?_,ap,?_,?_,?_,?_,?_,?_,h.vq,?_,?_,h.vlen,?_,?_,h.few,?_,?_,?_,?_⟩
 ·rw[tS,uF];exact an
 ·exact X0 h.vowns fun k e=>by
   obtain⟨c,N,f⟩:=Bh h.vowns e;refine blk k (Aa f) (fun v=>?_) (fun v=>?_)
   ·subst v;rw[h.obj] at f;injection f with f;injection f with _ f;exact absurd f (by decide)
   obtain⟨_,_,y⟩:=Bh h.towns v.symm;rw[f] at y;injection y with y;injection y with _ y;exact absurd y (by decide)
 ·intro k e;obtain⟨c,N,f⟩:=Bh h.vowns e;rw[B k (Aa f)];exact h.vowner k e
 ·intro X d;rcases H d with d|rfl
  ·exact (h.tab X d).stab fun k l e=>⟨P k l (by rw[e];exact h.fx.id.2 X d),B k l⟩
  refine⟨ao,.slice none 0 0,.map none,?_,World.ownsRow_nil _ _ _ _,(fun k e=>by cases e),.inl ⟨rfl,rfl⟩,(fun k e=>by cases e)⟩;show (w5.setCell ⟨p,0,none⟩ v').heap[g.heap.size]? =_;rw[am,xM]
 ·have q:=h.fx;refine⟨?_,?_,q.vb,q.dis,?_,⟨q.id.1,?_⟩,?_,?_,?_⟩
  ·rw[uF,vP];refine⟨q.nm,by simp,fun a A c f e=>?_⟩;obtain⟨X,d,rfl⟩:=uA.1 A;obtain⟨t,n,e1,_⟩:=h.sT d;have y:c=nm.data.toList:=(by simpa using f);exact R3.1 L t n (by rw[←e1,←y];exact e)
  ·rw[uF,vP];refine⟨q.bl,by simp,fun a A c f e=>?_⟩;obtain⟨X,d,rfl⟩:=uA.1 A;have y:c=g.heap.size:=(by simpa using f);have:=h.Vr d;omega
  ·intro V m a A;obtain⟨z,u,G⟩:=q.va V m a A;refine⟨z,u,fun X d=>?_⟩;rcases H d with d|rfl
   ·exact G X d
   have:=h.vlt V m a A;show a≠g.heap.size+2;omega
  ·intro X d;rcases H d with d|rfl
   ·exact q.id.2 X d
   show g.heap.size+2≠p+2;omega
  ·intro V m;have:=q.fix V m;exact⟨kJ this.ty,this.wf,this.len,this.jn,this.shape,this.nod,this.own,this.told⟩
  ·intro X d;rcases H d with d|rfl
   ·exact q.tks X d
   show []=_;rw[a0];rfl
  intro X d;rcases H d with d|rfl
  ·exact q.few X d
  show 0≤_;omega
 ·show List.map _ (xs++_)=List.map _ (st.tabs++_);rw[uF,uF,h.tb];rfl
 ·intro i X t d n;rcases wV i xs.length with o|o
  ·rw[uD o] at d;rw[uD (by rw[←h.len];exact o)] at n;obtain⟨z,u⟩:=h.typ i X t d n;exact⟨z.stays fun k e hi=>P k hi.lt (by rw[u k e];omega),fun k e=>by have l:k<w.heap.size:=(by obtain⟨b',ah,ai,v,M,_⟩:=z;rw[v] at e;have:b'=k:=(by simpa [Value.ownBlock] using e);rw[←this];exact M.lt);rw[B k l];exact u k e⟩
  rw[uC o] at d;rw[uC (by rw[←h.len];exact o)] at n;have Z:i-xs.length=0:=by have:=(tR.1 d).1;simp at this;omega
  rw[Z] at d;rw[←h.len,Z] at n;cases d;cases n;refine⟨R.stays fun k e hi=>U k hi.lt ?_ ?_,fun k e=>?_⟩
  ·have:b=k:=(by simpa [Value.ownBlock] using e);omega
  ·have:b=k:=(by simpa [Value.ownBlock] using e);exact fun v=>by have:=(K k v.symm).1;omega
  have:b=k:=by simpa [Value.ownBlock] using e
  rw[←this];exact Y
 ·intro V m;show AB V (D0 (st.tabs++_) V.q) _ _;rw[CP (h.fx.fix V m).ty];exact (h.vat V m).stab (by rw[J];omega) fun k l e=>⟨P k l (by
   rcases e with e|e
   ·exact (h.fx.va V m _ e).2.1
   omega),B k l⟩
 ·intro V m;show A9 V.told (Cl (st.tabs++_) V.q);rw[dR (h.fx.fix V m).ty];exact h.told V m
 ·intro V m a A;have:=h.vlt V m a A;rw[J];omega
 ·exact XE h.good L ab (kK aa) ac
 ·intro k;rw[J];exact ar k
 ·intro k l;rw[J] at l;exact aq k l
 ·rw[B _ aw];exact h.glb
 exact h.env.kept W (fun e=>e h.glb)
end
theorem XF {w:World}{X:Nat→Prop}{p:Nat}{st:Ses}(h:G1 w X p st)(nm c:ByteArray) :
 Calls prog 35 #[pV p,.string nm,.string c] w fun e w'=>e=.returned (.int .i64 (Fy st nm c).1)∧∃j,G1 w' j p (Fy st nm c).2∧Rc X j w w':=by
 have m:∀w',Ab No w w'→∃j,G1 w' j p st∧Rc X j w w':=fun w' s=>⟨X,h.stays s (fun _ e=>e.elim) xT,s.any,fun _ e=>.inl e⟩;obtain⟨O,xs,vs,tv,vv,b,t⟩:=h;unfold Fy;by_cases d:Lz nm=true
 ·rw[if_pos d];cases l:Du c with
  |none=>exact (KP p nm c w d l).mono fun e w' ⟨f,g⟩=>⟨f,m w' g⟩
  |some us =>
   simp only;obtain⟨a,cap,e1,e2,e3,e4⟩:=Hi b.towns;have u:w.cell? ⟨p,0,none⟩=some (.slice a xs.length cap):=(by rw[←e1];exact (Af b.obj 0).trans rfl);have n:=b.tabs.names;have v:=Aa b.obj;by_cases o:st.tabs.length=4
   ·rw[if_pos o];exact (PQ p xs.length cap a nm c us w v u (by rw[b.len];exact o) d l).mono fun e w' ⟨f,g⟩=>⟨f,m w' g⟩
   rw[if_neg o];have q:st.tabs.length<4:=(by have:=b.good.few;omega);by_cases hf:Dw st.tabs nm.data.toList=none
   ·rw[hf];have z:=PM p xs.length tv vv (xs.map fun X=>(X.blk,X.name)) nm c us w (xs.map fun X=>pV X.blk) b.obj b.towns n (by simp) (by rw[b.len];exact q) d l ((b.find _).2 hf);refine z.mono fun e w' x=>⟨x.1,?_⟩;obtain⟨y,A,B,C,D,E⟩:=b.more d (PR l) hf q x;exact⟨fun k=>y k≠0,⟨y,A,vs,B,vv,C,fun _=>Iff.rfl⟩,D.mono fun i _ e=>(t i).2 e,fun k e=>(E k e).imp (fun e=>(t k).2 e) id⟩
   have F:(Dw st.tabs nm.data.toList).isSome=true:=Option.isSome_iff_ne_none.2 hf;rw[F];have G:0≤Bz (xs.map fun X=>(X.blk,X.name)) nm.data.toList:=by
    rcases Int.lt_or_le (Bz (xs.map fun X=>(X.blk,X.name)) nm.data.toList) 0 with r|r
    ·exact absurd ((b.find _).1 r) hf
    exact r
   rw[e1] at n;exact (KQ p xs.length cap a (xs.map fun X=>(X.blk,X.name)) nm c us w v u n (by rw[tZ,b.len];omega) (by rw[b.len];exact q) d l G).mono fun e w' ⟨f,g⟩=>⟨f,m w' g⟩
 rw[if_neg d];exact (PN p nm c w (by simpa using d)).mono fun e w' ⟨f,g⟩=>⟨f,m w' g⟩
theorem oJ:(prog.info? 81).map (fun i=>(i.zero,i.size,i.bytes))=some (some (.pointer none),1,8):=by kernel_rfl
theorem XG (p n:Nat)(tv vv:Value)(s:ByteArray)(w:World)(q:List Value)(F:ByteArray→World→Prop)(_:n<6)
 (r:Calls prog 36 #[.string s] w fun e w1=>∃b,e=.returned (.tuple #[C1 b,.int .i64 0,.int .i64 0])∧C3 w1 p 0 tv∧(∃a cap,vv=.slice a n cap)∧C3 w1 p 1 vv ∧
   Calls prog 37 #[tv,pV b] w1 fun e k=>e=.returned (.bool true)∧C3 k p 0 tv ∧
    Calls prog 38 #[tv,pV b] k fun e w3=>∃v,e=.returned (.tuple #[v,.bool true])∧C2 w3 p #[tv,vv] 76 ∧
     Calls prog 39 #[tv,pV b,.iface 81 (C1 w3.heap.size)] (w3.alloc (.cells #[.map none,.map none] 87)) fun e w4=>e=.returned (.tuple #[])∧C2 w4 p #[tv,vv] 76∧w4.ownsRow 0 81 1 vv n q ∧
      ∀v' w5,w5.ownsRow 0 81 1 v' (n+1) (q++[pV w3.heap.size])→(w4.alloc (.cells #[pV w3.heap.size] 81)).grownBy w5 vv.ownBlock→(v'.ownBlock=vv.ownBlock∨v'.ownBlock=some (w4.heap.size+1)) →
       Calls prog 40 #[C1 w3.heap.size] (w5.setCell ⟨p,1,none⟩ v').drew fun e w'=>∃t,e=.returned (.string t)∧C3 w' p 1 v'∧F t w') :
 Calls prog 17 #[pV p,.string s] w fun e w'=>∃t,e=.returned (.tuple #[.int .i64 (n:Int),.string t,.int .i64 0])∧F t w':=by
 show Calls prog 17 #[C1 p,.string s] w _;have u:=Ae r;obtain⟨L,M,N,O,P⟩:=info_parts oJ;have W:((n:Int) == 6)=false:=by simp;omega
 clear r;go_enter func17,ntmps17;go_wp21;go_call u.o as e w1 ⟨b,rfl,_,⟨va,g,rfl⟩,c1,x⟩;have y:=Ae x;clear x u;go_wp21;go_call y.o as e k ⟨rfl,c2,z⟩;have i:=Ae z;clear z y;go_wp21;go_call i.o as e w3 ⟨_,rfl,l,A⟩;have B:=Ae A;have Q:=Aa l;have X:C3 (w3.alloc (.cells #[.map none,.map none] 87)) p 0 tv:=(World.cell?_of_block (Below.heap_alloc _ _ _ Q)).trans ((Af l 0).trans rfl);clear A i l;go_wp21;go_call B.o as e w4 ⟨rfl,c,C,D⟩;have E:=Ae D;have G:=Ae c;have R:=Aa c;have S:C3 w4 p 1 (.slice va n g):=(Af c 1).trans rfl;have T:some p≠(Value.slice va n g).ownBlock:=fun e=>by have:=Lo C p e.symm;exact absurd (this.ne c) (by decide)
 clear D B c;go_wp2_with (first
  |(at_builtin;refine wpList_append_own_at _ rfl _ _ 74 rfl 0 81 L (.pointer none) 1 8 underlying74 M N O P rfl (by decide) _ _ _ rfl (C.alloc _) ⟨w4.heap.size,0,none⟩ 1 1 [C1 w3.heap.size] rfl rfl (by have:=World.news_of_block (cs:=#[C1 w3.heap.size]) (t:=81) (fr:=(0,0)) (heap_alloc_last w4 (.cells #[C1 w3.heap.size] 81));simpa using this) (by intro Y H;simp at H;subst H;rfl) (by unfold maxLen;omega) (by omega) (by omega) ?_;intro Z w5 m o _ I;obtain⟨d,f,rfl⟩:=KO m;have j:w5.heap[p]? =w4.heap[p]? :=(o.block p (by simp;omega) T).trans (Below.heap_alloc _ _ _ R);have aa:C3 w5 p 1 (.slice va n g):=(World.cell?_of_block j).trans S;have ab:w5.frozen? ⟨p,1,none⟩=false:=(World.frozen?_of_block j).trans (Am G.o 1))
  |fail)
 have J:(Value.slice (some ⟨d,0,none⟩) (n+1) f).ownBlock=(Value.slice va n g).ownBlock∨(Value.slice (some ⟨d,0,none⟩) (n+1) f).ownBlock=some (w4.heap.size+1):=by
  rcases I with h|h
  ·exact .inl h
  refine .inr (h.trans ?_);simp
 have i:=Ae (E.o _ _ m o J);have ac:(w5.setCell ⟨p,1,none⟩ (.slice (some ⟨d,0,none⟩) (n+1) f)).cell? ⟨p,1,none⟩=some (.slice (some ⟨d,0,none⟩) (n+1) f):=by rw[Af (A0 (j.trans G.o) 1 _)];rfl
 have ad:IntKind.i64.wrap (n:Int)=n:=IntWalk.i64_in _ (by omega);clear o m I J E j
 go_region_held3 (fun w'=>w'.cell? ⟨p,1,none⟩=some (.slice (some ⟨d,0,none⟩) (n+1) f)) (go_keep)
  (first
    |(go_at_call 40
      go_call i.o as e w6 ⟨U,rfl,c6,K⟩;have V:=Ae K;clear K)
    |fail)
 go_wp21;go_ret3;exact⟨U,rfl,V.o⟩
theorem dS (p:Nat)(s:ByteArray)(c:Nat)(w:World)(_:c≠0)(d:Calls prog 36 #[.string s] w fun e w1=>(∃a b,e=.returned (.tuple #[a,.int .i64 (c:Int),b]))∧Ab No w w1) :
 Calls prog 17 #[pV p,.string s] w fun e w'=>e=.returned (.tuple #[.int .i64 0,.string ⟨#[]⟩,.int .i64 (c:Int)])∧Ab No w w':=by
 show Calls prog 17 #[C1 p,.string s] w _;have f:=Ae d;have i:(((c:Int)) != 0)=true:=by simp;omega
 clear d;go_enter func17,ntmps17;go_wp21;go_call f.o as e w1 ⟨⟨a,b,rfl⟩,g⟩;have h:=Ae g;clear g f;go_wp21;go_ret3;exact⟨rfl,h.o⟩
theorem XH (p cap:Nat)(va:Option Addr)(s:ByteArray)(w:World)(hp:C3 w p 1 (.slice va 6 cap))(g:p<w.heap.size)(d:Calls prog 36 #[.string s] w fun e w1=>(∃a b,e=.returned (.tuple #[a,.int .i64 0,b]))∧Ab No w w1) :
 Calls prog 17 #[pV p,.string s] w fun e w'=>e=.returned (.tuple #[.int .i64 0,.string ⟨#[]⟩,.int .i64 4])∧Ab No w w':=by
 show Calls prog 17 #[C1 p,.string s] w _;have f:=Ae d;clear d;go_enter func17,ntmps17;go_wp21;go_call f.o as e w1 ⟨⟨a,b,rfl⟩,c⟩;have h:=Ae c;have c1:=(c.cell g xT).trans hp;clear c f hp;go_wp21;go_ret3;exact⟨rfl,h.o⟩
theorem XI (p n cap:Nat)(va:Option Addr)(tv:Value)(s:ByteArray)(w:World)(_:n<6)(c:C3 w p 0 tv)(hp:C3 w p 1 (.slice va n cap))(d:p<w.heap.size)
 (f:Calls prog 36 #[.string s] w fun e w1=>∃b,e=.returned (.tuple #[C1 b,.int .i64 0,.int .i64 0])∧Ab No w w1∧Calls prog 37 #[tv,pV b] w1 fun e g=>e=.returned (.bool false)∧Ab No w1 g) :
 Calls prog 17 #[pV p,.string s] w fun e w'=>e=.returned (.tuple #[.int .i64 0,.string ⟨#[]⟩,.int .i64 5])∧Ab No w w':=by
 show Calls prog 17 #[C1 p,.string s] w _;have h:=Ae f;have o:((n:Int) == 6)=false:=by simp;omega
 clear f;go_enter func17,ntmps17;go_wp21;go_call h.o as e w1 ⟨b,rfl,a,i⟩;have l:=Ae a;have j:=Ae i;have c1:=(a.cell d xT).trans hp;have q:=(a.cell d xT).trans c;clear a h hp i c;go_wp21;go_call j.o as e g ⟨rfl,k⟩;have m:=Ae (l.o.seq k);clear k j;go_wp21;go_ret3;exact⟨rfl,m.o⟩
theorem XJ (p n cap:Nat)(va:Option Addr)(tv:Value)(s:ByteArray)(w:World)(_:n<6)(f:C3 w p 0 tv)(hp:C3 w p 1 (.slice va n cap))(d:p<w.heap.size)
 (g:Calls prog 36 #[.string s] w fun e w1=>∃a,e=.returned (.tuple #[C1 a,.int .i64 0,.int .i64 0])∧Ab No w w1∧Calls prog 37 #[tv,pV a] w1 fun e b=>e=.returned (.bool true)∧Ab No w1 b ∧
   Calls prog 38 #[tv,pV a] b fun e w3=>(∃v,e=.returned (.tuple #[v,.bool false]))∧Ab No b w3) :
 Calls prog 17 #[pV p,.string s] w fun e w'=>e=.returned (.tuple #[.int .i64 0,.string ⟨#[]⟩,.int .i64 6])∧Ab No w w':=by
 show Calls prog 17 #[C1 p,.string s] w _;have h:=Ae g;have u:((n:Int) == 6)=false:=by simp;omega
 clear g;go_enter func17,ntmps17;go_wp21;go_call h.o as e w1 ⟨a,rfl,c,i⟩;have r:=Ae c;have j:=Ae i;have c1:=(c.cell d xT).trans hp;have x:=(c.cell d xT).trans f;clear c h hp i;go_wp21;go_call j.o as e b ⟨rfl,k,l⟩;have m:=Ae (r.o.seq k);have o:=Ae l;have c2:=(m.o.cell d xT).trans f;clear k j l;go_wp21;go_call o.o as e w3 ⟨⟨v,rfl⟩,q⟩;have t:=Ae (m.o.seq q);clear q o;go_wp21;go_ret3;exact⟨rfl,t.o⟩
end
end Go.Proofs.YtdinjjmcmfjbfaaGreatDoor
