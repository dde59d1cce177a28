import Derived.Test.YtdinjjmcmfjbfaaGreatDoorSsJ
import Derived.Deep.Heap
set_option maxRecDepth 100000
set_option maxHeartbeats 4000000
namespace Go.Proofs.YtdinjjmcmfjbfaaGreatDoor
open Go.RowKit Go.Shelf
open Mo (V Row Bag cnt Af Be B0 Fw neg Nr Q Ac Av A9 wf Ag)
section
variable {w:World} {O:Ow} {p:Nat} {st:Mo.Ses} {xs:List TabS} {vs:List VS} {tv vv:Value}
theorem A2.jY (h:A2 w O p st xs vs tv vv){V:VS}(a:V∈vs):B0 V.ts (Mo.Cc st.tabs V.q)∧Nr (Mo.Cc st.tabs V.q)≤50000000000:=by
 have hf:=h.fx.fix V a;have b:=Mo.Iy h.good V.q
 exact⟨Mo.YP (Mo.F8 h.good) b.2 V.q hf.wf hf.len hf.jn 0 (Mo.Ou h.good V.q) hf.ty,Mo.BB V.q (h.vlen V a) hf.jn b.1 0⟩
end
theorem aX (p n cap:Nat)(a:Option Addr)(i:Int)(w:World)(hi:i<0∨(n:Int)≤i)(_:w.cell? ⟨p,1,none⟩=some (.slice a n cap)) :
 Calls Tryz.prog 19 #[pV p,.int .i64 i] w fun e w'=>e=.returned (.tuple #[.string ⟨#[]⟩,.int .i64 9])∧Ab No w w':=by
 show Calls Tryz.prog 19 #[.pointer (some ⟨p,0,none⟩),.int .i64 i] w _
 by_cases b:i<0
 ·go_enter Tryz.func19,Tryz.ntmps19
  go_wp2_with fail;go_ret2
  exact⟨rfl,Ab.refl _ _⟩
 ·have c:(n:Int)≤i:=by omega
  clear hi
  go_enter Tryz.func19,Tryz.ntmps19
  go_wp2_with fail;go_ret2
  exact⟨rfl,Ab.refl _ _⟩
theorem VT (p n cap b o blk:Nat)(i:Nat)(hv:Value)(t:ByteArray)(w:World)(hi:i<n)(_:n≤cap)(c:cap≤maxLen)(_:w.cell? ⟨p,1,none⟩=some (.slice (some ⟨b,o,none⟩) n cap))(_:w.cell? ⟨b,o+i,none⟩=some (.pointer (some ⟨blk,0,none⟩)))(_:w.cell? ⟨blk,0,none⟩=some hv)
 (d:∀a,Ab No w a→Calls Tryz.prog 42 #[hv] a fun e w'=>e=.returned (.string t)∧Ab No a w') :
 Calls Tryz.prog 19 #[pV p,.int .i64 (i:Int)] w fun e w'=>e=.returned (.tuple #[.string t,.int .i64 0])∧Ab No w w':=by
 show Calls Tryz.prog 19 #[.pointer (some ⟨p,0,none⟩),.int .i64 (i:Int)] w _
 have j:¬(i:Int)<0:=by omega
 have k:¬(n:Int)≤(i:Int):=by omega
 have l:(i:Int)<(n:Int):=by omega
 have m:cap≤9223372036854775807:=by unfold maxLen at c;omega
 have f:=Ad d;clear d c
 go_enter Tryz.func19,Tryz.ntmps19
 go_wp2_with fail;refine (f.o w (Ab.refl _ _)).mono ?_;rintro e a ⟨rfl,g⟩;have h:=Ad g;clear g f;go_wp2_with fail;go_ret2
 exact⟨rfl,h.o⟩
def JP (t:List UInt8):Value:=.string ⟨t.toArray⟩
theorem VU {w:World}{X:Nat→Prop}{p:Nat}{st:Mo.Ses}(h:Fs w X p st)(i:Int) :
 Calls Tryz.prog 19 #[pV p,.int .i64 i] w fun e w'=>e=.returned (.tuple #[JP (Sn st i).1,.int .i64 (Sn st i).2])∧Fs w' X p st∧Ab No w w':=by
 have l:∀w',Ab No w w'→Fs w' X p st:=fun w' s=>h.stays s (fun _ e=>e.elim) oI
 obtain⟨O,xs,vs,tv,vv,c,_⟩:=h
 obtain⟨a,cap,e1,t,u,v⟩:=F9 c.vowns
 have c1:w.cell? ⟨p,1,none⟩=some vv:=(Ae c.obj 1).trans rfl
 have H:st.views.length=vs.length:=by rw[←c.vq];simp
 by_cases hi:0≤i∧i<st.views.length
 ·obtain⟨n,rfl⟩:∃n:Nat,i=(n:Int):=⟨i.toNat,by omega⟩
  have m:n<vs.length:=by omega
  obtain⟨V,g⟩:∃V,vs[n]? =some V:=⟨_,kT m⟩
  have f:=kW g
  obtain⟨b,o,x,_,_,y⟩:=v n (pV V.blk) (by rw[kX,g];rfl)
  have z:st.views[n]? =some V.q:=by rw[←c.vq,kX,g];rfl
  have j:Sn st (n:Int)=(Bl (Mo.Cc st.tabs V.q),0):=by unfold Sn;rw[if_pos hi];simp[z]
  rw[j]
  obtain⟨⟨_,hv,_,A,B,_,_⟩,_⟩:=c.vat V f
  obtain⟨ok,C⟩:=c.jY f
  have D:IQ V.ts (Af V.told):=by
   have:=LY ok C
   have E:=(c.told V f).canon
   rw[E]
   exact⟨fun r hr=>this.ty r (by rw[Mo.As] at hr;exact hr),fun r=>by rw[Mo.As];exact this.bd r,by rw[Mo.Ch (Mo.Aq _)];exact this.len⟩
  have F:Bl (Af V.told)=Bl (Mo.Cc st.tabs V.q):=Rb ((Mo.Bv _).trans (c.told V f))
  rw[e1,x] at c1
  refine (VT p vs.length cap b o V.blk n hv ⟨(Bl (Mo.Cc st.tabs V.q)).toArray⟩ w m t u c1 y ((Ae A 0).trans rfl) fun G q=>?_).mono fun e w' ⟨k,d⟩=>⟨k,l w' d,d⟩
  rw[←F]
  exact Ui hv _ G (B.1.Ah q) D (c.env.Ah q)
 ·have j:Sn st i=([],9):=by unfold Sn;rw[if_neg hi]
  rw[j]
  rw[e1] at c1
  exact (aX p vs.length cap a i w (by omega) c1).mono fun e w' ⟨k,d⟩=>⟨k,l w' d,d⟩
theorem eO:(Tryz.prog.info? 101).map (fun i=>(i.zero,i.size,i.bytes))=some (some (.pointer none),1,8):=by kernel_rfl
def BC (p n:Nat)(nm:ByteArray)(us:List Bool)(tv:Value)(ls:List Value)(w:World)(e:Ending)(w':World):Prop :=
 e=.returned (.int .i64 0)∧∃w2 w5 b cap v',Ab No w w2∧w.heap.size≤b∧Pq w2 (.slice (some ⟨b,0,none⟩) us.length cap) us∧w5.ownsRow 0 101 1 v' (n+1) (ls++[pV w2.heap.size]) ∧
  ((w2.alloc (.cells #[.slice none 0 0,.map none,.string nm,.slice (some ⟨b,0,none⟩) us.length cap] 125)).alloc (.cells #[pV w2.heap.size] 101)).grownBy w5 tv.ownBlock∧(v'.ownBlock=tv.ownBlock∨v'.ownBlock=some (w2.heap.size+2))∧w'=w5.setCell ⟨p,0,none⟩ v'
theorem EP {w:World}{base:Nat}{e:TypeId}{v:Value}{n:Nat}{xs:List Value}(h:w.ownsRow base e 1 v (n+1) xs):∃g cap,v=.slice (some ⟨g,0,none⟩) (n+1) cap:=by
 rcases h.2 with ⟨_,a⟩|⟨g,cap,_,e,_⟩
 ·exact absurd a (by omega)
 ·exact⟨g,cap,e⟩
theorem JQ (p n:Nat)(tv vv:Value)(ts:List (Nat×List UInt8))(nm g:ByteArray)(us:List Bool)(w:World)(l:List Value)(o:w.heap[p]? =some (.cells #[tv,vv] 76 (0,0)))(hO:w.ownsRow 0 101 1 tv n l)(z:Fp w tv ts)(_:ts.length=n)(_:n<4)(P:Km nm=true)(Q:C6 g=some us)(R:Bh ts nm.data.toList<0) :
 Calls Tryz.prog 35 #[pV p,.string nm,.string g] w (BC p n nm us tv l w):=by
 show Calls Tryz.prog 35 #[.pointer (some ⟨p,0,none⟩),.string nm,.string g] w _
 have q:=Ad (Hm nm w)
 have r:oH (∀i,Calls Tryz.prog 59 #[.string g] i (Pt (C6 g) i)):=fun i=>Gu g i
 rw[Q] at r
 rw[P] at q
 have A:=Ad o;have S:=Ad hO;have T:=Ad z;have B:=Aa o
 obtain⟨c,d,rfl⟩:∃a cap,tv=.slice a n cap:=by obtain⟨a,cap,e,_⟩:=F9 hO;exact⟨a,cap,e⟩
 have am:((n:Int) == 4)=false:=by simp;omega
 obtain⟨U,V,W,X,Y⟩:=info_parts eO
 clear o hO z
 go_enter Tryz.func35,Tryz.ntmps35
 go_wp2_with fail;refine q.o.mono ?_;rintro e i ⟨⟨f,rfl,j⟩,C⟩
 obtain rfl:=j (by trivial)
 have D:=Ad C;clear C q j;go_wp2_with fail;refine (r.o i).mono ?_;rintro e E ⟨F,Z⟩
 obtain⟨aa,b,cap,G,rfl,H,I⟩:=Z.resolve_right (fun ⟨h,_⟩=>by cases h)
 obtain rfl:us=aa:=by simpa using G
 have s:=Ad (D.o.seq F);have J:=Ad I;have ab:w.heap.size≤b:=lH D.o.size H;have ac:E.cell? ⟨p,0,none⟩=some (.slice c n d):=(s.o.cell B oI).trans ((Ae A.o 0).trans rfl)
 have m:=Ad (Iv (.slice c n d) ts f.data.toList E (T.o.kept s.o) (by omega))
 have j:(⟨f.data.toList.toArray⟩:ByteArray)=f:=by rw[oA]
 rw[j] at m
 have ad:¬(0:Int)≤Bh ts f.data.toList:=by omega
 generalize Bh ts f.data.toList=an at m R ad;clear F G I H r j;go_wp2_with fail;refine m.o.mono ?_;rintro e w3 ⟨rfl,u⟩;have v:=Ad (s.o.seq u);have ae:=Ad (J.o.kept u);have k:w3.heap[p]? =some (.cells #[.slice c n d,vv] 76 (0,0)):=(v.o.block p B oI).trans A.o;have af:w3.cell? ⟨p,0,none⟩=some (.slice c n d):=(Ae k 0).trans rfl
 have K:w3.ownsRow 0 101 1 (.slice c n d) n l:=A1 S.o v.o (fun _ _ e=>e)
 have ag:=Ad k;have ah:=Aa k
 have ai:some p≠(Value.slice c n d).ownBlock:=fun e=>by have:=J9 K p e.symm;exact absurd (this.ne k) (by decide)
 clear u m ac J k
 go_wp2_with (first
  |(at_builtin;refine wpList_append_own_at _ rfl _ _ 73 rfl 0 101 U (.pointer none) 1 8 Tryz.underlying73 V W X Y rfl (by decide) _ _ _ rfl ((K.alloc _).alloc _) ⟨w3.heap.size+1,0,none⟩ 1 1 [.pointer (some ⟨w3.heap.size,0,none⟩)] rfl rfl (by have:=World.news_of_block (cs:=#[.pointer (some ⟨w3.heap.size,0,none⟩)]) (t:=101) (fr:=(0,0)) (heap_alloc_last (w3.alloc (.cells #[.slice none 0 0,.map none,.string f,.slice (some ⟨b,0,none⟩) us.length cap] 125)) (.cells #[.pointer (some ⟨w3.heap.size,0,none⟩)] 101));simpa using this) (by intro ao L;simp at L;subst L;rfl) (by unfold maxLen;omega) (by omega) (by omega) ?_;intro ap w5 M N _ aj;obtain⟨x,y,rfl⟩:=EP M;have O:w5.heap[p]? =w3.heap[p]? :=(N.block p (by simp;omega) ai).trans ((Below.heap_alloc _ _ _ (by simp;omega)).trans (Below.heap_alloc _ _ _ ah));have aq:w5.cell? ⟨p,0,none⟩=some (.slice c n d):=(World.cell?_of_block O).trans af;have ar:w5.frozen? ⟨p,0,none⟩=false:=(World.frozen?_of_block O).trans (Aj ag.o 0))
  |fail)
 have ak:(Value.slice (some ⟨x,0,none⟩) (n+1) y).ownBlock=(Value.slice c n d).ownBlock∨(Value.slice (some ⟨x,0,none⟩) (n+1) y).ownBlock=some (w3.heap.size+2):=by
  rcases aj with h|h
  ·exact .inl h
  ·refine .inr (h.trans ?_)
   simp
 have al:oH (BC p n f us (.slice c n d) l w (.returned (.int .i64 0)) (w5.setCell ⟨p,0,none⟩ (.slice (some ⟨x,0,none⟩) (n+1) y))):=⟨rfl,w3,w5,b,cap,_,v.o,ab,ae.o,M,N,ak,rfl⟩;go_ret;exact al.o
theorem JR (p:Nat)(nm c:ByteArray)(w:World)(l:Km nm=false) :
 Calls Tryz.prog 35 #[pV p,.string nm,.string c] w fun e w'=>e=.returned (.int .i64 2)∧Ab No w w':=by
 show Calls Tryz.prog 35 #[.pointer (some ⟨p,0,none⟩),.string nm,.string c] w _
 have f:=Ad (Hm nm w)
 have g:oH (∀a,Calls Tryz.prog 59 #[.string c] a (Pt (C6 c) a)):=fun a=>Gu c a
 rw[l] at f
 go_enter Tryz.func35,Tryz.ntmps35
 go_wp2_with fail;refine f.o.mono ?_;rintro e a ⟨⟨_,rfl,-⟩,j⟩;have k:=Ad j;clear j f;go_wp2_with fail;refine (g.o a).mono ?_
 rintro e o ⟨d,⟨_,b,cap,h,rfl,m,n⟩|⟨h,v,rfl⟩⟩
 ·have i:=Ad (k.o.seq d)
  clear d h n m g;go_wp2_with fail;go_ret
  exact⟨rfl,i.o⟩
 ·have i:=Ad (k.o.seq d)
  clear d h g;go_wp2_with fail;go_ret
  exact⟨rfl,i.o⟩
theorem ES (p:Nat)(nm a:ByteArray)(w:World)(j:Km nm=true)(k:C6 a=none) :
 Calls Tryz.prog 35 #[pV p,.string nm,.string a] w fun e w'=>e=.returned (.int .i64 2)∧Ab No w w':=by
 show Calls Tryz.prog 35 #[.pointer (some ⟨p,0,none⟩),.string nm,.string a] w _
 have c:=Ad (Hm nm w)
 have d:oH (∀b,Calls Tryz.prog 59 #[.string a] b (Pt (C6 a) b)):=fun b=>Gu a b
 rw[j] at c
 rw[k] at d
 go_enter Tryz.func35,Tryz.ntmps35
 go_wp2_with fail;refine c.o.mono ?_;rintro e b ⟨⟨_,rfl,-⟩,f⟩;have l:=Ad f;clear f c;go_wp2_with fail;refine (d.o b).mono ?_;rintro e n ⟨g,i⟩
 obtain⟨-,v,rfl⟩:=i.resolve_left (fun ⟨_,_,_,h,_⟩=>by cases h)
 have m:=Ad (l.o.seq g);clear g i d;go_wp2_with fail;go_ret
 exact⟨rfl,m.o⟩
theorem JS (p n g:Nat)(i:Option Addr)(nm a:ByteArray)(us:List Bool)(w:World)(q:p<w.heap.size)(j:w.cell? ⟨p,0,none⟩=some (.slice i n g))(r:n=4)(s:Km nm=true)(t:C6 a=some us) :
 Calls Tryz.prog 35 #[pV p,.string nm,.string a] w fun e w'=>e=.returned (.int .i64 4)∧Ab No w w':=by
 show Calls Tryz.prog 35 #[.pointer (some ⟨p,0,none⟩),.string nm,.string a] w _
 have d:=Ad (Hm nm w)
 have f:oH (∀c,Calls Tryz.prog 59 #[.string a] c (Pt (C6 a) c)):=fun c=>Gu a c
 rw[s] at d
 rw[t] at f
 subst r;have u:=Ad j;clear j
 go_enter Tryz.func35,Tryz.ntmps35
 go_wp2_with fail;refine d.o.mono ?_;rintro e c ⟨⟨_,rfl,-⟩,k⟩;have v:=Ad k;clear k d;go_wp2_with fail;refine (f.o c).mono ?_;rintro e x ⟨l,m⟩
 obtain⟨_,b,cap,y,rfl,z,A⟩:=m.resolve_right (fun ⟨h,_⟩=>by cases h)
 have o:=Ad (v.o.seq l);have B:x.cell? ⟨p,0,none⟩=some (.slice i 4 g):=(o.o.cell q oI).trans u.o;clear l m y z A f;go_wp2_with fail;go_ret
 exact⟨rfl,o.o⟩
theorem ET (p n f:Nat)(g:Option Addr)(ts:List (Nat×List UInt8))(nm a:ByteArray)(us:List Bool)(w:World)(x:p<w.heap.size)(o:w.cell? ⟨p,0,none⟩=some (.slice g n f))(q:Fp w (.slice g n f) ts)(y:ts.length≤1000)(_:n<4)(z:Km nm=true)(A:C6 a=some us)(B:0≤Bh ts nm.data.toList) :
 Calls Tryz.prog 35 #[pV p,.string nm,.string a] w fun e w'=>e=.returned (.int .i64 5)∧Ab No w w':=by
 show Calls Tryz.prog 35 #[.pointer (some ⟨p,0,none⟩),.string nm,.string a] w _
 have k:=Ad (Hm nm w)
 have l:oH (∀c,Calls Tryz.prog 59 #[.string a] c (Pt (C6 a) c)):=fun c=>Gu a c
 rw[z] at k
 rw[A] at l
 have C:=Ad o;have D:=Ad q
 have J:((n:Int) == 4)=false:=by simp;omega
 clear o q
 go_enter Tryz.func35,Tryz.ntmps35
 go_wp2_with fail;refine k.o.mono ?_;rintro e c ⟨⟨i,rfl,d⟩,r⟩
 obtain rfl:=d (by trivial)
 have E:=Ad r;clear r k d;go_wp2_with fail;refine (l.o c).mono ?_;rintro e s ⟨t,u⟩
 obtain⟨_,b,cap,F,rfl,G,H⟩:=u.resolve_right (fun ⟨h,_⟩=>by cases h)
 have m:=Ad (E.o.seq t);have K:s.cell? ⟨p,0,none⟩=some (.slice g n f):=(m.o.cell x oI).trans C.o;have j:=Ad (Iv (.slice g n f) ts i.data.toList s (D.o.kept m.o) y)
 have d:(⟨i.data.toList.toArray⟩:ByteArray)=i:=by rw[oA]
 rw[d] at j
 generalize Bh ts i.data.toList=L at j B;clear t u F G H l d;go_wp2_with fail;refine j.o.mono ?_;rintro e w3 ⟨rfl,v⟩;have I:=Ad (m.o.seq v);clear v j;go_wp2_with fail;go_ret
 exact⟨rfl,I.o⟩
end Go.Proofs.YtdinjjmcmfjbfaaGreatDoor
namespace Go.Proofs.YtdinjjmcmfjbfaaGreatDoor.Mo
theorem Eb {f:List UInt8→Option (List Bool)}:∀(q:Q) (ts:List Bool),A9 f q=some ts→∀nm∈Ac q,∃us,f nm=some us
 | .tab nm,ts,h,e,a=>by
   have:e=nm:=by simpa [Ac] using a
   subst this;exact⟨ts,h⟩
 | .sel c k x q,ts,h,nm,a=>by obtain⟨us,b,_⟩:=lG.1 h;exact Eb q us b nm a
 | .pick cs q,ts,h,nm,a=>by obtain⟨us,b,_⟩:=lG.1 h;exact Eb q us b nm a
 | .dist q,ts,h,nm,a=>Eb q ts h nm a
 | .grp cs s q,ts,h,nm,a=>by obtain⟨us,b,_⟩:=lG.1 h;exact Eb q us b nm a
 | .join n m q r,ts,h,nm,a=>by
   obtain⟨us,b,d⟩:=lG.1 (show (A9 f q).bind (fun ts=>(A9 f r).bind fun us=>Hi n m ts us)=some ts from h)
   obtain⟨vs,hv,_⟩:=lG.1 d
   rcases lC.1 (show nm∈Ac q++Ac r from a) with a|a
   ·exact Eb q us b nm a
   ·exact Eb r vs hv nm a
 | .uni q r,ts,h,nm,a=>by
   obtain⟨us,b,d⟩:=lG.1 (show (A9 f q).bind (fun ts=>(A9 f r).bind fun us=>if ts=us then some ts else none)=some ts from h)
   obtain⟨vs,hv,_⟩:=lG.1 d
   rcases lC.1 (show nm∈Ac q++Ac r from a) with a|a
   ·exact Eb q us b nm a
   ·exact Eb r vs hv nm a
theorem Im {f g:List UInt8→Option (List Bool)}:∀(q:Q),(∀nm∈Ac q,f nm=g nm)→A9 f q=A9 g q
 | .tab nm,h=>h nm (by simp[Ac])
 | .sel c k x q,h=>by show (A9 f q).bind _=(A9 g q).bind _;rw[Im q h]
 | .pick cs q,h=>by show (A9 f q).bind _=(A9 g q).bind _;rw[Im q h]
 | .dist q,h=>Im q h
 | .grp cs s q,h=>by show (A9 f q).bind _=(A9 g q).bind _;rw[Im q h]
 | .join n m q r,h=>by
   show ((A9 f q).bind fun ts=>(A9 f r).bind fun us=>_)=(A9 g q).bind fun ts=>(A9 g r).bind fun us=>_
   rw[Im q fun nm a=>h nm (lC.2 (.inl a)),Im r fun nm a=>h nm (lC.2 (.inr a))]
 | .uni q r,h=>by
   show ((A9 f q).bind fun ts=>(A9 f r).bind fun us=>_)=(A9 g q).bind fun ts=>(A9 g r).bind fun us=>_
   rw[Im q fun nm a=>h nm (lC.2 (.inl a)),Im r fun nm a=>h nm (lC.2 (.inr a))]
theorem Jz {tb:List Tab}{x:Tab}{nm:List UInt8}{t:Tab}(h:C8 tb nm=some t):C8 (tb++[x]) nm=some t:=by
 unfold C8 at h⊢
 rw[List.find?_append,h];rfl
theorem Ml {tb:List Tab}{nm:List UInt8}{us:List Bool}(h:Jy tb nm=some us):∃t,C8 tb nm=some t∧t.ts=us:=by
 obtain⟨t,a,e⟩:=lJ.1 h
 exact⟨t,a,e⟩
theorem aY {tb:List Tab}{x:Tab}{q:Q}{ts:List Bool}(h:A9 (Jy tb) q=some ts):A9 (Jy (tb++[x])) q=some ts:=by
 rw[←h]
 refine Im q fun nm b=>?_
 obtain⟨us,c⟩:=Eb q ts h nm b
 obtain⟨t,a,_⟩:=Ml c
 unfold Jy
 rw[Jz a,a]
theorem Zc {tb:List Tab}{x:Tab}{q:Q}{ts:List Bool}(h:A9 (Jy tb) q=some ts):Dc (tb++[x]) q=Dc tb q:=by
 funext j
 unfold Dc
 cases b:(Ac q)[j]? with
 |none=>rfl
 |some nm =>
  obtain⟨us,c⟩:=Eb q ts h nm (kW b)
  obtain⟨t,a,_⟩:=Ml c
  simp only
  unfold Dn
  rw[Jz a,a]
theorem VV {tb:List Tab}{x:Tab}{q:Q}{ts:List Bool}(h:A9 (Jy tb) q=some ts):Cc (tb++[x]) q=Cc tb q:=by
 unfold Cc;rw[Zc h]
theorem Pv {tb:List Tab}{nm:List UInt8}:C8 tb nm=none↔∀t∈tb,t.nm≠nm:=by
 unfold C8
 rw[List.find?_eq_none]
 simp
theorem PN {tb:List Tab}(h:Bj tb){nm:List UInt8}{us:List Bool}(g:C8 tb nm=none)(i:1≤us.length∧us.length≤4)(j:Z7 (.txt nm))(_:tb.length<4):Bj (tb++[⟨nm,us,[]⟩]):=by
 refine⟨fun t c=>?_,?_,?_,by simp;omega⟩
 ·rcases lC.1 c with c|c
  ·exact h.each t c
  ·rw[nQ] at c
   subst c
   exact⟨fun r=>mP _,(fun e d=>by cases d),(fun e d=>by cases d),(fun e d=>by cases d),i,j⟩
 ·rw[lF,mO]
  refine⟨h.nod,by simp,fun a k b f e=>?_⟩
  simp at f
  subst e f
  obtain⟨t,c,e⟩:=lD.1 k
  exact Pv.1 g t c e
 ·have:=h.rows
  unfold Qn at this⊢
  rw[lF,List.sum_append]
  simp[Nr,Ce]
  exact this
end Go.Proofs.YtdinjjmcmfjbfaaGreatDoor.Mo
namespace Go.Proofs.YtdinjjmcmfjbfaaGreatDoor
open Mo (Z7)
theorem aZ {s:ByteArray}(h:Km s=true):Z7 (.txt s.data.toList):=by
 unfold Km at h
 have a:(Pl.A5 s 0).1=true∧(Pl.A5 s 0).2=s.size:=by simpa using h
 have e:Pl.A5 s 0=(true,s.size):=Prod.ext a.1 a.2
 have:=U5 (by omega) e
 have b:G3 s 0 s.size=s.data.toList:=by rw[My,List.drop_zero];exact lT (by rw[Lr];exact kZ _)
 rw[b] at this;exact this
theorem JT {s:ByteArray}{us:List Bool}(h:C6 s=some us):1≤us.length∧us.length≤4:=by
 unfold C6 at h
 by_cases a:1≤s.size∧s.size≤4
 ·rw[if_pos a] at h
  rw[EJ h,Lr];exact a
 ·rw[if_neg a] at h;cases h
theorem Zd:∀(ts:List (Nat×List UInt8)) (nm:List UInt8),Bh ts nm<0↔∀x∈ts,x.2≠nm
 | [],nm=>by simp[Bh]
 |x::ts,nm=>by
  simp only[Bh]
  have c:=Zd ts nm;have hg:=Mi ts nm
  by_cases b:x.2=nm
  ·rw[if_pos b]
   exact⟨fun h=>by omega,fun h=>absurd b (h x (by simp))⟩
  ·rw[if_neg b]
   by_cases d:Bh ts nm= -1
   ·rw[if_pos d]
    refine⟨fun _ y a=>?_,fun _=>by omega⟩
    rcases lQ.1 a with rfl|a
    ·exact b
    ·exact c.1 (by omega) y a
   ·rw[if_neg d]
    refine⟨fun h=>by omega,fun h=>?_⟩
    have:=c.2 fun y a=>h y (by simp[a])
    omega
open Go.RowKit Go.Shelf Go.Deep
open Mo (V Row Bag cnt Af Be B0 Fw neg Nr Q Ac Av A9 wf Ag)
def Ex (st:Mo.Ses)(nm tp:ByteArray):Int×Mo.Ses:=if Km nm then (match C6 tp with
 |none=>(2,st)
 |some us=>if st.tabs.length=4 then (4,st) else if (Mo.C8 st.tabs nm.data.toList).isSome then (5,st) else (0,⟨st.tabs++[⟨nm.data.toList,us,[]⟩],st.views⟩)) else (2,st)
section
variable {w w':World} {O:Ow} {p:Nat} {st:Mo.Ses} {xs:List TabS} {vs:List VS} {tv vv:Value}
theorem A2.find (h:A2 w O p st xs vs tv vv)(nm:List UInt8):Bh (xs.map fun X=>(X.blk,X.name)) nm<0↔Mo.C8 st.tabs nm=none:=by
 rw[Zd,Mo.Pv]
 constructor
 ·intro hf t b
  obtain⟨i,hi⟩:=lW b
  obtain⟨X,a⟩:∃X,xs[i]? =some X:=⟨_,kT (by rw[h.len];exact (kS.1 hi).1)⟩
  obtain⟨d,c,e1,_⟩:=h.at a
  rw[hi] at c
  obtain rfl:t=d:=by simpa using c
  have:=hf (X.blk,X.name) (lD.2 ⟨X,kW a,rfl⟩)
  rw[←e1];exact this
 ·intro hf x e
  obtain⟨X,a,rfl⟩:=lD.1 e
  obtain⟨t,b,e1,_⟩:=h.jX a
  show X.name≠nm
  rw[e1];exact hf t b
theorem A2.T0 (h:A2 w O p st xs vs tv vv){X:TabS}(a:X∈xs):X.blk<w.heap.size:=by
 obtain⟨_,v,hv,b,_⟩:=h.tab X a
 exact Aa b
theorem A2.more (h:A2 w O p st xs vs tv vv){nm:ByteArray}{us:List Bool}(ab:Km nm=true)(ac:1≤us.length∧us.length≤4)(L:Mo.C8 st.tabs nm.data.toList=none)(ad:st.tabs.length<4){e:Ending}
 (ae:BC p xs.length nm us tv (xs.map fun X=>pV X.blk) w e w'):∃s af ag,A2 w' s p ⟨st.tabs++[⟨nm.data.toList,us,[]⟩],st.views⟩ af vs ag vv∧Ab (fun k=>O k≠0) w w'∧∀k,s k≠0→O k≠0∨w.heap.size≤k:=by
 obtain⟨-,g,w5,b,cap,v',I,_,R,T,E,ah,rfl⟩:=ae
 have U:=Aa h.obj;have a2:=I.size
 have a3:b<g.heap.size:=by
  obtain⟨b',ai,aj,e,M,_⟩:=R
  injection e with e1;injection e1 with e1;injection e1 with e1
  rw[e1];exact M.lt
 have a4:g.heap.size+2≤w5.heap.size:=by have:=E.size;simpa using this
 have J:(w5.setCell ⟨p,0,none⟩ v').heap.size=w5.heap.size:=nblk_setCell _ _ _
 have K:∀k,tv.ownBlock=some k→k<w.heap.size∧k≠p:=fun k e=>by
  obtain⟨c,N,f⟩:=Bc h.towns e
  refine⟨Aa f,fun v=>?_⟩
  subst v
  rw[h.obj] at f
  injection f with f;injection f with _ f;exact absurd f (by decide)
 have ak:some p≠tv.ownBlock:=fun e=>(K p e.symm).2 rfl
 have W:∀k,k<g.heap.size→k≠p→some k≠tv.ownBlock→(w5.setCell ⟨p,0,none⟩ v').heap[k]? =g.heap[k]? :=fun k l C n=>by
  rw[blk_setCell_other _ _ _ _ C,E.block k (by simp;omega) n,Below.heap_alloc _ _ _ (by simp;omega),Below.heap_alloc _ _ _ l]
 have blk:∀k,k<w.heap.size→k≠p→some k≠tv.ownBlock→(w5.setCell ⟨p,0,none⟩ v').heap[k]? =w.heap[k]? :=fun k l C n=>(W k (by omega) C n).trans (I.block k l oI)
 have P:∀k,k<w.heap.size→O k≠p+2→(w5.setCell ⟨p,0,none⟩ v').heap[k]? =w.heap[k]? :=fun k l C=>blk k l (fun e=>C (by rw[e];exact h.own)) (fun e=>C (h.towner k e.symm))
 have al:w5.heap[p]? =some (.cells #[tv,vv] 76 (0,0)):=by
  rw[E.block p (by simp;omega) ak,Below.heap_alloc _ _ _ (by simp;omega),Below.heap_alloc _ _ _ (by omega),I.block p U oI]
  exact h.obj
 have am:(w5.setCell ⟨p,0,none⟩ v').heap[p]? =some (.cells #[v',vv] 76 (0,0)):=by rw[Ap al];rfl
 have an:(w5.setCell ⟨p,0,none⟩ v').heap[g.heap.size]? =some (.cells #[.slice none 0 0,.map none,.string nm,.slice (some ⟨b,0,none⟩) us.length cap] 125 (0,0)):=by
  rw[blk_setCell_other _ _ _ _ (by show g.heap.size≠p;omega),E.block _ (by simp;omega) (fun e=>by have:=(K _ e.symm).1;omega),Below.heap_alloc _ _ _ (by simp)]
  exact heap_alloc_last _ _
 have Q:∀k,v'.ownBlock=some k→k≠p∧(k<w.heap.size→O k=p+2)∧(w.heap.size≤k→k=g.heap.size+2)∧k<w5.heap.size:=fun k e=>by
  obtain⟨c,N,f⟩:=Bc T e
  rcases ah with F|F
  ·have:=K k (F.symm.trans e)
   exact⟨this.2,fun _=>h.towner k (F.symm.trans e),fun _=>by omega,Aa f⟩
  ·have:k=g.heap.size+2:=by rw[e] at F;simpa using F
   exact⟨by omega,fun _=>by omega,fun _=>this,Aa f⟩
 have ao:(w5.setCell ⟨p,0,none⟩ v').ownsRow 0 101 1 v' (xs.length+1) ((xs.map fun X=>pV X.blk)++[pV g.heap.size]):=Cm T fun k e=>blk_setCell_other _ _ _ _ (Q k e).1
 have Y:Ab (fun k=>O k≠0) w (w5.setCell ⟨p,0,none⟩ v'):=by
  refine Ab.setCell (Ab.grown (((I.any (S:=fun k=>O k≠0)).alloc _).alloc _) E fun r e=>.inr (by show O r≠0;rw[h.towner r e];omega)) (.inr (by show O p≠0;rw[h.own];omega)) v'
 refine⟨fun k=>if k<w.heap.size then O k else if k=b then 1 else if k=g.heap.size then g.heap.size+2 else if v'.ownBlock=some k then p+2 else 0,xs++[⟨g.heap.size,nm.data.toList,[],[],.slice (some ⟨b,0,none⟩) us.length cap⟩],v',?_,Y,fun k l=>?_⟩
 case refine_2 =>
  rcases nN k w.heap.size with o|o
  ·exact .inl (by simpa [o] using l)
  ·exact .inr o
 generalize D:(fun k=>if k<w.heap.size then O k else if k=b then 1 else if k=g.heap.size then g.heap.size+2 else if v'.ownBlock=some k then p+2 else 0)=s
 have B:∀k,k<w.heap.size→s k=O k:=fun k l=>by rw[←D];exact if_pos l
 have Z:s b=1:=by rw[←D];show (if b<_ then _ else if b=b then 1 else _)=1;rw[if_neg (by omega),if_pos rfl]
 have ap:s g.heap.size=g.heap.size+2:=by rw[←D];show (if _<_ then _ else if _=b then 1 else if _=_ then _ else _)=_;rw[if_neg (by omega),if_neg (by omega),if_pos rfl]
 have aq:∀k,v'.ownBlock=some k→s k=p+2:=fun k e=>by
  obtain⟨_,u,G,_⟩:=Q k e
  rcases nN k w.heap.size with o|o
  ·rw[B k o];exact u o
  ·have:=G o
   rw[←D];show (if _<_ then _ else if _=b then 1 else if _=_ then _ else if _ then _ else _)=_
   rw[if_neg (by omega),if_neg (by omega),if_neg (by omega),if_pos e]
 have ar:∀k,w5.heap.size≤k→s k=0:=fun k l=>by
  rw[←D];show (if _<_ then _ else if _=b then 1 else if _=_ then _ else if _ then _ else _)=_
  rw[if_neg (by omega),if_neg (by omega),if_neg (by omega),if_neg (fun e=>by have:=(Q k e).2.2.2;omega)]
 have au:∀k,s k<w5.heap.size+2:=fun k=>by
  have a5:=h.old k
  have z:O k<w5.heap.size+2:=by omega
  have u:1<w5.heap.size+2:=by omega
  have G:g.heap.size+2<w5.heap.size+2:=by omega
  have av:p+2<w5.heap.size+2:=by omega
  have aw:0<w5.heap.size+2:=by omega
  rw[←D];show (if _<_ then _ else if _=b then 1 else if _=_ then _ else if _ then _ else _)<_
  split
  ·exact z
  ·split
   ·exact u
   ·split
    ·exact G
    ·split
     ·exact av
     ·exact aw
 have ax:gT<w.heap.size:=h.env.lt
 have ay:∀V∈vs,∀j,(Ac V.q)[j]?≠some nm.data.toList:=fun V m j az=>by
  obtain⟨_,a0⟩:=Mo.Eb V.q V.ts (h.fx.fix V m).ty _ (kW az)
  obtain⟨t,n,_⟩:=Mo.Ml a0
  rw[L] at n;cases n
 have a1:Jb vs nm.data.toList=[]:=by
  refine List.eq_nil_iff_forall_not_mem.2 fun x q=>?_
  obtain⟨z,u⟩:=Nc.1 q
  exact ay _ z _ u
 have H:∀{X:TabS},X∈xs++[(⟨g.heap.size,nm.data.toList,[],[],.slice (some ⟨b,0,none⟩) us.length cap⟩:TabS)]→X∈xs∨X=⟨g.heap.size,nm.data.toList,[],[],.slice (some ⟨b,0,none⟩) us.length cap⟩:=fun d=>(lC.1 d).imp id nQ.1
 have a6:s b≠p+2:=by rw[Z];omega
 refine⟨am,by rw[B p U];exact h.own,?_,aq,?_,?_,?_,?_,?_,?_,h.vq,?_,?_,h.vlen,?_,?_,h.few,?_,?_,?_,?_⟩
 ·rw[kU,lF];exact ao
 ·exact Cm h.vowns fun k e=>by
   obtain⟨c,N,f⟩:=Bc h.vowns e
   refine blk k (Aa f) (fun v=>?_) (fun v=>?_)
   ·subst v
    rw[h.obj] at f;injection f with f;injection f with _ f;exact absurd f (by decide)
   ·obtain⟨_,_,y⟩:=Bc h.towns v.symm
    rw[f] at y;injection y with y;injection y with _ y;exact absurd y (by decide)
 ·intro k e
  obtain⟨c,N,f⟩:=Bc h.vowns e
  rw[B k (Aa f)];exact h.vowner k e
 ·intro X d
  rcases H d with d|rfl
  ·exact (h.tab X d).stab fun k l e=>⟨P k l (by rw[e];exact h.fx.id.2 X d),B k l⟩
  ·refine⟨ap,.slice none 0 0,.map none,?_,World.ownsRow_nil _ _ _ _,(fun k e=>by cases e),.inl ⟨rfl,rfl⟩,(fun k e=>by cases e)⟩
   show (w5.setCell ⟨p,0,none⟩ v').heap[g.heap.size]? =_
   rw[an,oA]
 ·have q:=h.fx
  refine⟨?_,?_,q.vb,q.dis,?_,⟨q.id.1,?_⟩,?_,?_,?_⟩
  ·rw[lF,mO]
   refine⟨q.nm,by simp,fun a A c f e=>?_⟩
   obtain⟨X,d,rfl⟩:=lD.1 A
   obtain⟨t,n,e1,_⟩:=h.jX d
   have y:c=nm.data.toList:=by simpa using f
   exact Mo.Pv.1 L t n (by rw[←e1,←y];exact e)
  ·rw[lF,mO]
   refine⟨q.bl,by simp,fun a A c f e=>?_⟩
   obtain⟨X,d,rfl⟩:=lD.1 A
   have y:c=g.heap.size:=by simpa using f
   have:=h.T0 d
   omega
  ·intro V m a A
   obtain⟨z,u,G⟩:=q.va V m a A
   refine⟨z,u,fun X d=>?_⟩
   rcases H d with d|rfl
   ·exact G X d
   ·have:=h.vlt V m a A
    show a≠g.heap.size+2
    omega
  ·intro X d
   rcases H d with d|rfl
   ·exact q.id.2 X d
   ·show g.heap.size+2≠p+2
    omega
  ·intro V m
   have:=q.fix V m
   exact⟨Mo.aY this.ty,this.wf,this.len,this.jn,this.shape,this.nod,this.own,this.told⟩
  ·intro X d
   rcases H d with d|rfl
   ·exact q.tks X d
   ·show []=_
    rw[a1];rfl
  ·intro X d
   rcases H d with d|rfl
   ·exact q.few X d
   ·show 0≤_
    omega
 ·show List.map _ (xs++_)=List.map _ (st.tabs++_)
  rw[lF,lF,h.tb];rfl
 ·intro i X t d n
  rcases nN i xs.length with o|o
  ·rw[lA o] at d
   rw[lA (by rw[←h.len];exact o)] at n
   obtain⟨z,u⟩:=h.typ i X t d n
   exact⟨z.stays fun k e hi=>P k hi.lt (by rw[u k e];omega),fun k e=>by
    have l:k<w.heap.size:=by
     obtain⟨b',ai,aj,v,M,_⟩:=z
     rw[v] at e
     have:b'=k:=by simpa [Value.ownBlock] using e
     rw[←this];exact M.lt
    rw[B k l];exact u k e⟩
  ·rw[kY o] at d
   rw[kY (by rw[←h.len];exact o)] at n
   have aa:i-xs.length=0:=by have:=(kS.1 d).1;simp at this;omega
   rw[aa] at d
   rw[←h.len,aa] at n
   cases d
   cases n
   refine⟨R.stays fun k e hi=>W k hi.lt ?_ ?_,fun k e=>?_⟩
   ·have:b=k:=by simpa [Value.ownBlock] using e
    omega
   ·have:b=k:=by simpa [Value.ownBlock] using e
    exact fun v=>by have:=(K k v.symm).1;omega
   ·have:b=k:=by simpa [Value.ownBlock] using e
    rw[←this];exact Z
 ·intro V m
  show Xn V (Mo.Dc (st.tabs++_) V.q) _ _
  rw[Mo.Zc (h.fx.fix V m).ty]
  exact (h.vat V m).stab (by rw[J];omega) fun k l e=>⟨P k l (by
   rcases e with e|e
   ·exact (h.fx.va V m _ e).2.1
   ·omega),B k l⟩
 ·intro V m
  show Be V.told (Mo.Cc (st.tabs++_) V.q)
  rw[Mo.VV (h.fx.fix V m).ty]
  exact h.told V m
 ·intro V m a A
  have:=h.vlt V m a A
  rw[J];omega
 ·exact Mo.PN h.good L ac (aZ ab) ad
 ·intro k
  rw[J];exact au k
 ·intro k l
  rw[J] at l;exact ar k l
 ·rw[B _ ax];exact h.glb
 ·exact h.env.kept Y (fun e=>e h.glb)
end
theorem PQ {w:World}{X:Nat→Prop}{p:Nat}{st:Mo.Ses}(h:Fs w X p st)(nm c:ByteArray) :
 Calls Tryz.prog 35 #[pV p,.string nm,.string c] w fun e w'=>e=.returned (.int .i64 (Ex st nm c).1)∧∃j,Fs w' j p (Ex st nm c).2∧Ov X j w w':=by
 have m:∀w',Ab No w w'→∃j,Fs w' j p st∧Ov X j w w':=fun w' s=>⟨X,h.stays s (fun _ e=>e.elim) oI,s.any,fun _ e=>.inl e⟩
 obtain⟨O,xs,vs,tv,vv,b,t⟩:=h
 unfold Ex
 by_cases d:Km nm=true
 ·rw[if_pos d]
  cases l:C6 c with
  |none=>exact (ES p nm c w d l).mono fun e w' ⟨f,g⟩=>⟨f,m w' g⟩
  |some us =>
   simp only
   obtain⟨a,cap,e1,_,_,_⟩:=F9 b.towns
   have u:w.cell? ⟨p,0,none⟩=some (.slice a xs.length cap):=by rw[←e1];exact (Ae b.obj 0).trans rfl
   have n:=b.tabs.names;have v:=Aa b.obj
   by_cases o:st.tabs.length=4
   ·rw[if_pos o]
    exact (JS p xs.length cap a nm c us w v u (by rw[b.len];exact o) d l).mono fun e w' ⟨f,g⟩=>⟨f,m w' g⟩
   ·rw[if_neg o]
    have q:st.tabs.length<4:=by have:=b.good.few;omega
    by_cases hf:Mo.C8 st.tabs nm.data.toList=none
    ·rw[hf]
     have z:=JQ p xs.length tv vv (xs.map fun X=>(X.blk,X.name)) nm c us w (xs.map fun X=>pV X.blk) b.obj b.towns n (by simp) (by rw[b.len];exact q) d l ((b.find _).2 hf)
     refine z.mono fun e w' x=>⟨x.1,?_⟩
     obtain⟨y,A,B,C,D,E⟩:=b.more d (JT l) hf q x
     exact⟨fun k=>y k≠0,⟨y,A,vs,B,vv,C,fun _=>Iff.rfl⟩,D.mono fun i _ e=>(t i).2 e,fun k e=>(E k e).imp (fun e=>(t k).2 e) id⟩
    ·have F:(Mo.C8 st.tabs nm.data.toList).isSome=true:=Option.isSome_iff_ne_none.2 hf
     rw[F]
     have G:0≤Bh (xs.map fun X=>(X.blk,X.name)) nm.data.toList:=by
      rcases Int.lt_or_le (Bh (xs.map fun X=>(X.blk,X.name)) nm.data.toList) 0 with r|r
      ·exact absurd ((b.find _).1 r) hf
      ·exact r
     rw[e1] at n
     exact (ET p xs.length cap a (xs.map fun X=>(X.blk,X.name)) nm c us w v u n (by rw[lB,b.len];omega) (by rw[b.len];exact q) d l G).mono fun e w' ⟨f,g⟩=>⟨f,m w' g⟩
 ·rw[if_neg d]
  exact (JR p nm c w (by simpa using d)).mono fun e w' ⟨f,g⟩=>⟨f,m w' g⟩
theorem eP:(Tryz.prog.info? 81).map (fun i=>(i.zero,i.size,i.bytes))=some (some (.pointer none),1,8):=by kernel_rfl
theorem PR (p n:Nat)(tv vv:Value)(s:ByteArray)(w:World)(r:List Value)(F:ByteArray→World→Prop)(_:n<6)
 (u:Calls Tryz.prog 36 #[.string s] w fun e g=>∃b,e=.returned (.tuple #[.pointer (some ⟨b,0,none⟩),.int .i64 0,.int .i64 0])∧g.cell? ⟨p,0,none⟩=some tv∧(∃a cap,vv=.slice a n cap)∧g.cell? ⟨p,1,none⟩=some vv ∧
   Calls Tryz.prog 37 #[tv,pV b] g fun e l=>e=.returned (.bool true)∧l.cell? ⟨p,0,none⟩=some tv ∧
    Calls Tryz.prog 38 #[tv,pV b] l fun e w3=>∃v,e=.returned (.tuple #[v,.bool true])∧w3.heap[p]? =some (.cells #[tv,vv] 76 (0,0)) ∧
     Calls Tryz.prog 39 #[tv,pV b,.iface 81 (.pointer (some ⟨w3.heap.size,0,none⟩))] (w3.alloc (.cells #[.map none,.map none] 87)) fun e w4=>e=.returned (.tuple #[])∧w4.heap[p]? =some (.cells #[tv,vv] 76 (0,0))∧w4.ownsRow 0 81 1 vv n r ∧
      ∀v' w5,w5.ownsRow 0 81 1 v' (n+1) (r++[pV w3.heap.size])→(w4.alloc (.cells #[pV w3.heap.size] 81)).grownBy w5 vv.ownBlock→(v'.ownBlock=vv.ownBlock∨v'.ownBlock=some (w4.heap.size+1)) →
       Calls Tryz.prog 40 #[.pointer (some ⟨w3.heap.size,0,none⟩)] (w5.setCell ⟨p,1,none⟩ v').drew fun e w'=>∃t,e=.returned (.string t)∧w'.cell? ⟨p,1,none⟩=some v'∧F t w') :
 Calls Tryz.prog 17 #[pV p,.string s] w fun e w'=>∃t,e=.returned (.tuple #[.int .i64 (n:Int),.string t,.int .i64 0])∧F t w':=by
 show Calls Tryz.prog 17 #[.pointer (some ⟨p,0,none⟩),.string s] w _
 have x:=Ad u
 obtain⟨M,N,O,P,Q⟩:=info_parts eP
 have X:((n:Int) == 6)=false:=by simp;omega
 clear u
 go_enter Tryz.func17,Tryz.ntmps17
 go_wp2_with fail;refine x.o.mono ?_;rintro e g ⟨b,rfl,_,⟨va,i,rfl⟩,c1,y⟩;have z:=Ad y;clear y x;go_wp2_with fail;refine z.o.mono ?_;rintro e l ⟨rfl,c2,A⟩;have j:=Ad A;clear A z;go_wp2_with fail;refine j.o.mono ?_;rintro e w3 ⟨_,rfl,m,B⟩;have C:=Ad B;have R:=Aa m;have Y:(w3.alloc (.cells #[.map none,.map none] 87)).cell? ⟨p,0,none⟩=some tv:=(World.cell?_of_block (Below.heap_alloc _ _ _ R)).trans ((Ae m 0).trans rfl);clear B j m;go_wp2_with fail;refine C.o.mono ?_;rintro e w4 ⟨rfl,c,D,E⟩;have G:=Ad E;have H:=Ad c;have S:=Aa c;have T:w4.cell? ⟨p,1,none⟩=some (.slice va n i):=(Ae c 1).trans rfl
 have U:some p≠(Value.slice va n i).ownBlock:=fun e=>by have:=J9 D p e.symm;exact absurd (this.ne c) (by decide)
 clear E C c
 go_wp2_with (first
  |(at_builtin;refine wpList_append_own_at _ rfl _ _ 74 rfl 0 81 M (.pointer none) 1 8 Tryz.underlying74 N O P Q rfl (by decide) _ _ _ rfl (D.alloc _) ⟨w4.heap.size,0,none⟩ 1 1 [.pointer (some ⟨w3.heap.size,0,none⟩)] rfl rfl (by have:=World.news_of_block (cs:=#[.pointer (some ⟨w3.heap.size,0,none⟩)]) (t:=81) (fr:=(0,0)) (heap_alloc_last w4 (.cells #[.pointer (some ⟨w3.heap.size,0,none⟩)] 81));simpa using this) (by intro Z I;simp at I;subst I;rfl) (by unfold maxLen;omega) (by omega) (by omega) ?_;intro aa w5 o q _ J;obtain⟨d,f,rfl⟩:=EP o;have k:w5.heap[p]? =w4.heap[p]? :=(q.block p (by simp;omega) U).trans (Below.heap_alloc _ _ _ S);have ab:w5.cell? ⟨p,1,none⟩=some (.slice va n i):=(World.cell?_of_block k).trans T;have ac:w5.frozen? ⟨p,1,none⟩=false:=(World.frozen?_of_block k).trans (Aj H.o 1))
  |fail)
 have K:(Value.slice (some ⟨d,0,none⟩) (n+1) f).ownBlock=(Value.slice va n i).ownBlock∨(Value.slice (some ⟨d,0,none⟩) (n+1) f).ownBlock=some (w4.heap.size+1):=by
  rcases J with h|h
  ·exact .inl h
  ·refine .inr (h.trans ?_)
   simp
 have j:=Ad (G.o _ _ o q K)
 have ad:(w5.setCell ⟨p,1,none⟩ (.slice (some ⟨d,0,none⟩) (n+1) f)).cell? ⟨p,1,none⟩=some (.slice (some ⟨d,0,none⟩) (n+1) f):=by
  rw[Ae (Ap (k.trans H.o) 1 _)];rfl
 have ae:IntKind.i64.wrap (n:Int)=n:=IntWalk.i64_in _ (by omega)
 clear q o J K G k
 go_region_held3 (fun w'=>w'.cell? ⟨p,1,none⟩=some (.slice (some ⟨d,0,none⟩) (n+1) f)) (go_keep)
  (first
    |(go_at_call 40
      refine j.o.mono ?_;rintro e w6 ⟨V,rfl,c6,L⟩;have W:=Ad L
      clear L)
    |fail)
 go_wp2_with fail;go_ret3
 exact⟨V,rfl,W.o⟩
theorem VW (p:Nat)(s:ByteArray)(c:Nat)(w:World)(_:c≠0)(d:Calls Tryz.prog 36 #[.string s] w fun e f=>(∃a b,e=.returned (.tuple #[a,.int .i64 (c:Int),b]))∧Ab No w f) :
 Calls Tryz.prog 17 #[pV p,.string s] w fun e w'=>e=.returned (.tuple #[.int .i64 0,.string ⟨#[]⟩,.int .i64 (c:Int)])∧Ab No w w':=by
 show Calls Tryz.prog 17 #[.pointer (some ⟨p,0,none⟩),.string s] w _
 have g:=Ad d
 have j:(((c:Int)) != 0)=true:=by simp;omega
 clear d
 go_enter Tryz.func17,Tryz.ntmps17
 go_wp2_with fail;refine g.o.mono ?_;rintro e f ⟨⟨a,b,rfl⟩,h⟩;have i:=Ad h;clear h g;go_wp2_with fail;go_ret3
 exact⟨rfl,i.o⟩
theorem PS (p cap:Nat)(va:Option Addr)(s:ByteArray)(w:World)(d:w.cell? ⟨p,1,none⟩=some (.slice va 6 cap))(i:p<w.heap.size)(f:Calls Tryz.prog 36 #[.string s] w fun e g=>(∃a b,e=.returned (.tuple #[a,.int .i64 0,b]))∧Ab No w g) :
 Calls Tryz.prog 17 #[pV p,.string s] w fun e w'=>e=.returned (.tuple #[.int .i64 0,.string ⟨#[]⟩,.int .i64 4])∧Ab No w w':=by
 show Calls Tryz.prog 17 #[.pointer (some ⟨p,0,none⟩),.string s] w _
 have h:=Ad f;clear f
 go_enter Tryz.func17,Tryz.ntmps17
 go_wp2_with fail;refine h.o.mono ?_;rintro e g ⟨⟨a,b,rfl⟩,c⟩;have j:=Ad c;have c1:=(c.cell i oI).trans d;clear c h d;go_wp2_with fail;go_ret3
 exact⟨rfl,j.o⟩
theorem PT (p n cap:Nat)(va:Option Addr)(tv:Value)(s:ByteArray)(w:World)(_:n<6)(d:w.cell? ⟨p,0,none⟩=some tv)(f:w.cell? ⟨p,1,none⟩=some (.slice va n cap))(g:p<w.heap.size)
 (h:Calls Tryz.prog 36 #[.string s] w fun e a=>∃c,e=.returned (.tuple #[.pointer (some ⟨c,0,none⟩),.int .i64 0,.int .i64 0])∧Ab No w a∧Calls Tryz.prog 37 #[tv,pV c] a fun e i=>e=.returned (.bool false)∧Ab No a i) :
 Calls Tryz.prog 17 #[pV p,.string s] w fun e w'=>e=.returned (.tuple #[.int .i64 0,.string ⟨#[]⟩,.int .i64 5])∧Ab No w w':=by
 show Calls Tryz.prog 17 #[.pointer (some ⟨p,0,none⟩),.string s] w _
 have j:=Ad h
 have r:((n:Int) == 6)=false:=by simp;omega
 clear h
 go_enter Tryz.func17,Tryz.ntmps17
 go_wp2_with fail;refine j.o.mono ?_;rintro e a ⟨c,rfl,b,k⟩;have o:=Ad b;have l:=Ad k;have c1:=(b.cell g oI).trans f;have t:=(b.cell g oI).trans d;clear b j f k d;go_wp2_with fail;refine l.o.mono ?_;rintro e i ⟨rfl,m⟩;have q:=Ad (o.o.seq m);clear m l;go_wp2_with fail;go_ret3
 exact⟨rfl,q.o⟩
theorem PU (p n cap:Nat)(va:Option Addr)(tv:Value)(s:ByteArray)(w:World)(_:n<6)(g:w.cell? ⟨p,0,none⟩=some tv)(h:w.cell? ⟨p,1,none⟩=some (.slice va n cap))(f:p<w.heap.size)
 (i:Calls Tryz.prog 36 #[.string s] w fun e a=>∃b,e=.returned (.tuple #[.pointer (some ⟨b,0,none⟩),.int .i64 0,.int .i64 0])∧Ab No w a∧Calls Tryz.prog 37 #[tv,pV b] a fun e c=>e=.returned (.bool true)∧Ab No a c ∧
   Calls Tryz.prog 38 #[tv,pV b] c fun e w3=>(∃v,e=.returned (.tuple #[v,.bool false]))∧Ab No c w3) :
 Calls Tryz.prog 17 #[pV p,.string s] w fun e w'=>e=.returned (.tuple #[.int .i64 0,.string ⟨#[]⟩,.int .i64 6])∧Ab No w w':=by
 show Calls Tryz.prog 17 #[.pointer (some ⟨p,0,none⟩),.string s] w _
 have j:=Ad i
 have y:((n:Int) == 6)=false:=by simp;omega
 clear i
 go_enter Tryz.func17,Tryz.ntmps17
 go_wp2_with fail;refine j.o.mono ?_;rintro e a ⟨b,rfl,d,k⟩;have u:=Ad d;have l:=Ad k;have c1:=(d.cell f oI).trans h;have z:=(d.cell f oI).trans g;clear d j h k;go_wp2_with fail;refine l.o.mono ?_;rintro e c ⟨rfl,m,o⟩;have q:=Ad (u.o.seq m);have r:=Ad o;have c2:=(q.o.cell f oI).trans g;clear m l o;go_wp2_with fail;refine r.o.mono ?_;rintro e w3 ⟨⟨v,rfl⟩,t⟩;have x:=Ad (q.o.seq t);clear t r;go_wp2_with fail;go_ret3
 exact⟨rfl,x.o⟩
theorem Wq:∀(l:List (List UInt8×Tk)) (xs:List TabS),De xs l=xs.map fun X=>{ X with tks:=X.tks++(l.filter fun p=>decide (p.1=X.name)).map Prod.snd }
 | [],xs=>by simp[De]
 |x::l,xs=>by
  show De (Ja xs x.1 x.2) l=_
  rw[Wq l]
  unfold Ja
  rw[mH]
  refine mS fun X _=>?_
  show ({ (if X.name=x.1 then { X with tks:=X.tks++[x.2] } else X) with tks:=_ }:TabS)=_
  by_cases h:X.name=x.1
  ·simp[h]
  ·have a:¬x.1=X.name:=fun e=>h e.symm
   simp[h,a]
theorem Hn:∀(q:Q) (t:Nd) (T:Tk),Hk q t→C5 q t T=(List.range (Ac q).length).map fun j=>(((Ac q)[j]?).getD [],Eh q t T j)
 | .tab nm,.leaf,T,_=>by simp[C5,Ac,Eh]
 | .sel _ _ _ q,.one b t,T,h=>Hn q t _ h
 | .pick _ q,.one b t,T,h=>Hn q t _ h
 | .dist q,.one b t,T,h=>Hn q t _ h
 | .grp _ _ q,.one b t,T,h=>Hn q t _ h
 | .join n m q r,.two b t a,T,h=>by
   show C5 q t (Ql b true)++C5 r a (Ql b false)=(List.range (Ac q++Ac r).length).map fun j=>(((Ac q++Ac r)[j]?).getD [],if j<(Ac q).length then Eh q t (Ql b true) j else Eh r a (Ql b false) (j-(Ac q).length))
   rw[Hn q t _ h.1,Hn r a _ h.2,kU,List.range_add,lF,mH]
   congr 1
   ·refine mS fun j c=>?_
    rw[if_pos (mM.1 c),lA (mM.1 c)]
   ·refine mS fun j c=>?_
    show _=(((Ac q++Ac r)[(Ac q).length+j]?).getD [],if (Ac q).length+j<(Ac q).length then _ else Eh r a _ ((Ac q).length+j-(Ac q).length))
    rw[if_neg (by omega),kY (by omega),mV]
 | .uni q r,.two b t a,T,h=>by
   show C5 q t (Mg b)++C5 r a (Mg b)=(List.range (Ac q++Ac r).length).map fun j=>(((Ac q++Ac r)[j]?).getD [],if j<(Ac q).length then Eh q t (Mg b) j else Eh r a (Mg b) (j-(Ac q).length))
   rw[Hn q t _ h.1,Hn r a _ h.2,kU,List.range_add,lF,mH]
   congr 1
   ·refine mS fun j c=>?_
    rw[if_pos (mM.1 c),lA (mM.1 c)]
   ·refine mS fun j c=>?_
    show _=(((Ac q++Ac r)[(Ac q).length+j]?).getD [],if (Ac q).length+j<(Ac q).length then _ else Eh r a _ ((Ac q).length+j-(Ac q).length))
    rw[if_neg (by omega),kY (by omega),mV]
theorem VX (vs:List VS)(V:VS)(nm:List UInt8):Jb (vs++[V]) nm=Jb vs nm++((List.range (Ac V.q).length).filter fun j=>decide ((Ac V.q)[j]? =some nm)).map fun j=>(V,j):=by
 unfold Jb;simp
theorem EU {q:Q}{t:Nd}{T:Tk}(h:Hk q t)(nm:List UInt8):((C5 q t T).filter fun p=>decide (p.1=nm)).map Prod.snd=((List.range (Ac q).length).filter fun j=>decide ((Ac q)[j]? =some nm)).map (Eh q t T):=by
 rw[Hn q t T h,List.filter_map,mH]
 have e:(List.range (Ac q).length).filter ((fun p:List UInt8×Tk=>decide (p.1=nm)) ∘ fun j=>(((Ac q)[j]?).getD [],Eh q t T j))=(List.range (Ac q).length).filter fun j=>decide ((Ac q)[j]? =some nm):=by
  refine List.filter_congr fun j a=>?_
  have b:=mM.1 a
  simp[List.getElem?_eq_getElem b]
 rw[e];rfl
theorem LZ (nm:List UInt8):∀(vs:List VS),(∀V∈vs,(Ac V.q).length≤60)→(Jb vs nm).length≤vs.length*60
 | [],_=>by simp[Jb]
 |V::vs,h=>by
  have c:=LZ nm vs fun V a=>h V (by simp[a])
  have d:=h V (by simp)
  have e:Jb (V::vs) nm=(((List.range (Ac V.q).length).filter fun j=>decide ((Ac V.q)[j]? =some nm)).map fun j=>(V,j))++Jb vs nm:=by unfold Jb;simp
  have b:=nK (fun j=>decide ((Ac V.q)[j]? =some nm)) (List.range (Ac V.q).length)
  rw[List.length_range] at b
  rw[e,kU,lB,lN]
  omega
end Go.Proofs.YtdinjjmcmfjbfaaGreatDoor
