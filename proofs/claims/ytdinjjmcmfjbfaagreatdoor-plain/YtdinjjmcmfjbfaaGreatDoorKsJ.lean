import Derived.Test.YtdinjjmcmfjbfaaGreatDoorKpJ
set_option maxRecDepth 100000
set_option maxHeartbeats 4000000
namespace Go.Proofs.YtdinjjmcmfjbfaaGreatDoor
set_option linter.unusedSimpArgs false
open Go.RowKit Go.Shelf
open Mo (V Row Bag cnt Af Be B0 Fw cU iB I7)
def Q7 (w:World)(O:Ow)(b:Nat)(T:Value)(B:Bag):Prop:=O b=b+2∧∃g cap hv,w.heap[b]? =some (.cells #[DK g cap,hv] 283 (0,0))∧Qb w O b g T∧E9 w O b hv B
theorem Q7.stab {w w':World}{O d:Ow}{b:Nat}{T:Value}{B:Bag}(h:Q7 w O b T B)(a:∀k,k<w.heap.size→O k=b+2→w'.heap[k]? =w.heap[k]?∧d k=O k):Q7 w' d b T B:=by
 obtain⟨e,g,cap,hv,f,c,j⟩:=h
 have i:=a b (Aa f) e
 exact⟨i.2.trans e,g,cap,hv,i.1.trans f,c.stab (a g c.lt c.1),j.stab a⟩
theorem Q7.eqv {w:World}{O:Ow}{b:Nat}{T:Value}{B a:Bag}(h:Q7 w O b T B)(e:Be B a):Q7 w O b T a:=by
 obtain⟨c,g,cap,hv,d,f,i⟩:=h
 exact⟨c,g,cap,hv,d,f,i.eqv e⟩
open Mo (V Row Bag cnt Af Be B0 Fw Cy)
def jD (sl hv tv cv:Value)(x:Cy):Array Value:=#[sl,hv,tv,cv,.bool (Xr x),.int .i64 (G0 x:Int),.int .i32 (kI (vO x)),.int .u8 (tB (vO x) 0),.int .u8 (tB (vO x) 1),.int .u8 (tB (vO x) 2),.int .u8 (tB (vO x) 3),.int .i64 (nI (vO x))]
open Mo (V Row Bag cnt Af Be B0 Fw Cy L5 Jf Cr)
def On (sl:Value)(n:Nat)(l r:Cy):Array Value :=
 #[sl,.int .i64 (n:Int),.bool (Xr l),.int .i64 (G0 l:Int),.int .i32 (kI (vO l)),.int .u8 (tB (vO l) 0),.int .u8 (tB (vO l) 1),.int .u8 (tB (vO l) 2),.int .u8 (tB (vO l) 3),.int .i64 (nI (vO l)),
   .bool (Xr r),.int .i64 (G0 r:Int),.int .i32 (kI (vO r)),.int .u8 (tB (vO r) 0),.int .u8 (tB (vO r) 1),.int .u8 (tB (vO r) 2),.int .u8 (tB (vO r) 3),.int .i64 (nI (vO r))]
def Qk (w:World)(O:Ow)(b:Nat)(T:Value)(n:Nat)(l r:Cy):Prop:=O b=b+2∧∃g cap,w.heap[b]? =some (.cells (On (DK g cap) n l r) 277 (0,0))∧Qb w O b g T
def C7 (n:Nat)(l r:Cy):Row→Bool:=fun q=>L5 (Jh n) (Jf l q) (Jf r q)
theorem Qk.stab {w w':World}{O c:Ow}{b n:Nat}{T:Value}{l r:Cy}(h:Qk w O b T n l r)(d:∀k,k<w.heap.size→O k=b+2→w'.heap[k]? =w.heap[k]?∧c k=O k):Qk w' c b T n l r:=by
 obtain⟨e,g,cap,f,a⟩:=h
 have i:=d b (Aa f) e
 exact⟨i.2.trans e,g,cap,i.1.trans f,a.stab (d g a.lt a.1)⟩
theorem IM {w:World}{b n:Nat}{a:Value}{l r:Cy}(h:w.heap[b]? =some (.cells (On a n l r) 277 (0,0))):w.rangeAt b 2 (Vq l):=fun j v hv=>by
 rw[Ae h]
 have c:=(kS.1 hv).1
 match j,c with
 |0,_|1,_|2,_|3,_|4,_|5,_|6,_|7,_=>simpa [Vq,On] using hv
theorem IP {w:World}{b n:Nat}{a:Value}{l r:Cy}(h:w.heap[b]? =some (.cells (On a n l r) 277 (0,0))):w.rangeAt b 10 (Vq r):=fun j v hv=>by
 rw[Ae h]
 have c:=(kS.1 hv).1
 match j,c with
 |0,_|1,_|2,_|3,_|4,_|5,_|6,_|7,_=>simpa [Vq,On] using hv
theorem Tq:(Tryz.prog.info? 135).map (·.size)=some 8:=by kernel_rfl
theorem Yo (p:Row→Bool)(es:Bag)(q:Row)(t:Int):Cr p (es++[(q,t)])=Cr p es++(if p q then [(q,t)] else []):=by
 rw[Mo.Lb];congr 1;unfold Cr;by_cases h:p q <;> simp[h]
structure UB (us:List Bool) (l r:Cy):Prop where
 l6:∀c,l=.col c→c<6
 r6:∀c,r=.col c→c<6
 ok:∀{q:Row},Mo.Dr us q→Rj (Jf l q)∧Rj (Jf r q)∧Mo.ty (Jf l q)=Mo.ty (Jf r q)
theorem UC (b c n g cap:Nat)(l r:Cy)(us:List Bool)(hO:UB us l r)(d:Bag)(w:World)(Q:Ending→World→Prop)(M:w.heap[b]? =some (.cells (On (DK g cap) n l r) 277 (0,0)))(ag:Fw us d)(A:Aw w c (Af d))
 (ah:∀w3 es,Nu (Af d) es→Aw w3 w.heap.size (Cr (C7 n l r) es)→Ab No w w3→Calls Tryz.prog 250 #[.pointer (some ⟨b,0,none⟩),.map (some w.heap.size)] w3 fun e w'=>e=.returned (.tuple #[])∧Q e w') :
 Calls Tryz.prog 258 #[.pointer (some ⟨b,0,none⟩),.map (some c)] w Q:=by
 have ai:oH (Aw (w.alloc (.map #[] 0)) c (Af d)):=A.B2 (Below.heap_alloc _ _ _ A.lt);have aj:oH (Aw (w.alloc (.map #[] 0)) w.heap.size []):=Aw.made w;have bp:=Ad M;have bq:=Ad ah;have N:=Ad hO;have HD:=Ad ag;have b9:=A.lt;have br:=Aa M;clear A M ah hO ag;have bs:=@run_makeMap Tryz.prog
 go_enter Tryz.func258,Tryz.ntmps258
 go_wp2_with (first
  |(at_range;refine En _ rfl _ rfl c (Af d) rfl ai.o ?_;intro ak bt O P al)
  |fail)
 have bu:(w.alloc (.map #[] 0)).heap.size=w.heap.size+1:=by simp
 rw[bu] at O al⊢
 have am:=Ad O;have an:oH (Aw ak w.heap.size (Cr (C7 n l r) [])):=aj.o.kept P oI;have ao:Ab No w ak:=((Ab.refl No w).alloc _).seq P;have ap:=Ad ao;clear O al P ao ai aj bs
 go_frame
 go_loopg [] bt (fun k wr=>∃es:Bag,oH (G1 wr c (w.heap.size+1) (Af d) es k)∧oH (Aw wr w.heap.size (Cr (C7 n l r) es))∧oH (Ab No w wr))
 case atStart=>exact⟨[],am,an,ap⟩
 case round =>
  obtain⟨es,hr,aq,m⟩:=hrel
  clear am an ap
  go_wp2_with (first
   |(at_next;refine E8 _ rfl _ rfl c (w.heap.size+1) (Af d) es gk rfl hr.o ?_ ?_)
   |fail)
  ·intro ar
   have bv:=Ad (bq.o wr es ar aq.o m.o);clear ar;go_wp2_with fail;refine bv.o.mono ?_;rintro e w4 ⟨rfl,u⟩;have bw:=Ad u;clear u;go_wp2_with fail;go_end0;exact bw.o
  ·intro t q f B u au av aw ax R bx ca
   have ay:=Ad u;have T:=Ad aw
   have az:oH (Mo.Dr us q):=HD.o.good (by rw[←HD.o.iC,←au];exact av)
   have C:Ab No w f:=m.o.trans R (fun _ e=>e) (fun i hi e=>by omega)
   have a0:=Ad C
   have a1:Aw f w.heap.size (Cr (C7 n l r) es):=aq.o.kept R (fun e=>by omega)
   have a2:=Ad a1
   have bz:oH ((Af (Cr (C7 n l r) es)).length<maxLen):=by
    have e1:=T.o.ZR.len;have cb:=HD.o.len;have b0:=Mo.Cq (Cr (C7 n l r) es) [];have cc:(Cr (C7 n l r) es).length≤es.length:=nK _ _
    simp[Mo.Af] at e1 b0
    rw[Mo.Ch (Mo.Aq d)] at e1
    show _<_
    unfold maxLen;omega
   have cd:w.heap.size≤f.heap.size:=C.size;have a3:f.heap[b]? =some (.cells (On (DK g cap) n l r) 277 (0,0)):=(C.block b br oI).trans bp.o;have U:=Ad a3;clear u aw R au av a1 bx C a3
   go_wp2_with (first
    |(refine Cw _ _ _ rfl rfl f _ rfl rfl rfl q rfl ?_)
    |fail)
   have a4:(f.alloc (.cells (An q) 154)).heap[b]? =some (.cells (On (DK g cap) n l r) 277 (0,0)):=(Below.heap_alloc _ _ _ (Aa U.o)).trans U.o;have a5:(f.alloc (.cells (An q) 154)).heap[f.heap.size]? =some (.cells (An q) 154 (0,0)):=heap_alloc_last _ _;have D:=Ad (And.intro a4 a5);have a6:Ab No f (f.alloc (.cells (An q) 154)):=(Ab.refl No f).alloc _;have V:=Ad a6
   have b1:f.heap.size<(f.alloc (.cells (An q) 154)).heap.size:=by simp
   clear a4 a5 a6;generalize f.alloc (.cells (An q) 154)=W at D V b1⊢
   obtain⟨o,v⟩:∃o,o=On (DK g cap) n l r:=⟨_,rfl⟩
   obtain⟨j,p⟩:∃j,j=An q:=⟨_,rfl⟩
   obtain⟨y,X⟩:∃y,y=(Vq l).toArray:=⟨_,rfl⟩
   obtain⟨z,Y⟩:∃z,z=(Vq r).toArray:=⟨_,rfl⟩
   obtain⟨E,Z⟩:∃E,E=J8 (Jf l q):=⟨_,rfl⟩
   obtain⟨F,aa⟩:∃F,F=J8 (Jf r q):=⟨_,rfl⟩
   obtain⟨G,ab⟩:∃G,G=C7 n l r q:=⟨_,rfl⟩
   have a7:oH (∀w,Calls Tryz.prog 253 #[.agg y,.agg j] w fun e w'=>e=.returned E∧Ab No w w'):=by subst X p Z;exact fun w=>TR l q N.o.l6 w
   have a8:oH (∀w,Calls Tryz.prog 253 #[.agg z,.agg j] w fun e w'=>e=.returned F∧Ab No w w'):=by subst Y p aa;exact fun w=>TR r q N.o.r6 w
   have a9:oH (∀w,Calls Tryz.prog 252 #[.int .i64 (n:Int),E,F] w fun e w'=>e=.returned (.bool G)∧Ab No w w'):=by
    subst Z aa ab
    obtain⟨b2,b3,b4⟩:=N.o.ok az.o
    exact fun w=>NU n _ _ b2 b3 b4 w
   have ba:oH (∀w:World,w.heap[b]? =some (.cells o 277 (0,0))→(loadVar 135 ⟨b,2,none⟩).run Tryz.prog w=.ok (.agg y) w):=by
    subst v X
    exact fun w h=>run_loadVar_mid w b 2 135 (Vq l) _ (IM h) Tryz.underlying135 rfl Tq
   have bb:oH (∀w:World,w.heap[b]? =some (.cells o 277 (0,0))→(loadVar 135 ⟨b,10,none⟩).run Tryz.prog w=.ok (.agg z) w):=by
    subst v Y
    exact fun w h=>run_loadVar_mid w b 10 135 (Vq r) _ (IP h) Tryz.underlying135 rfl Tq
   have ac:oH (∀w:World,w.heap[f.heap.size]? =some (.cells j 154 (0,0))→(loadVar 154 ⟨f.heap.size,0,none⟩).run Tryz.prog w=.ok (.agg j) w):=by
    subst p
    exact fun w h=>run_loadVar_row w f.heap.size 154 154 (An q) (0,0) _ h Tryz.underlying154 rfl (by rw[Bz];exact F3)
   have bc:oH (∀w:World,w.heap[b]? =some (.cells o 277 (0,0))→w.cell? ⟨b,1,none⟩=some (.int .i64 (n:Int))):=by
    subst v
    exact fun w h=>(Ae h 1).trans rfl
   rw[←v,←p] at D
   have b5:=Ad p;have bd:=Ad ab;clear v X Y Z aa az U p ab
   refine wp_region_held_drew (S:=fun w'=>w'.heap[b]? =some (.cells o 277 (0,0))∧w'.heap[f.heap.size]? =some (.cells j 154 (0,0))) (by kernel_rfl) D.o (fun a=>?_)
   refine Bo 0 (.pointer (some ⟨b,0,none⟩)) a ?_
   try simp only[Act.put,B6,B7,B8,B9,Ca,Cb]
   refine Bo 1 (.pointer (some ⟨b,0,none⟩)) a ?_
   try simp only[Act.put,B6,B7,B8,B9,Ca,Cb]
   refine Bo 2 (.pointer (some ⟨b,1,none⟩)) a ?_
   try simp only[Act.put,B6,B7,B8,B9,Ca,Cb]
   refine AC 3 (.int .i64 (n:Int)) 129 (.tmp 17) (b) (1) (fun w h=>bc.o w h.1) a ?_
   try simp only[Act.put,B6,B7,B8,B9,Ca,Cb]
   refine Bo 4 (.pointer (some ⟨b,0,none⟩)) a ?_
   try simp only[Act.put,B6,B7,B8,B9,Ca,Cb]
   refine Bo 5 (.pointer (some ⟨b,0,none⟩)) a ?_
   try simp only[Act.put,B6,B7,B8,B9,Ca,Cb]
   refine Bo 6 (.pointer (some ⟨b,2,none⟩)) a ?_
   try simp only[Act.put,B6,B7,B8,B9,Ca,Cb]
   refine AD 7 (.agg y) 135 (.tmp 21) (b) (2) (fun w h=>ba.o w h.1) a ?_
   try simp only[Act.put,B6,B7,B8,B9,Ca,Cb]
   refine AD 8 (.agg j) 154 (.tmp 5) (f.heap.size) (0) (fun w h=>ac.o w h.2) a ?_
   try simp only[Act.put,B6,B7,B8,B9,Ca,Cb]
   refine Bo 10 (.pointer (some ⟨b,0,none⟩)) a ?_
   try simp only[Act.put,B6,B7,B8,B9,Ca,Cb]
   refine Bo 11 (.pointer (some ⟨b,0,none⟩)) a ?_
   try simp only[Act.put,B6,B7,B8,B9,Ca,Cb]
   refine Bo 12 (.pointer (some ⟨b,10,none⟩)) a ?_
   try simp only[Act.put,B6,B7,B8,B9,Ca,Cb]
   refine AD 13 (.agg z) 135 (.tmp 27) (b) (10) (fun w h=>bb.o w h.1) a ?_
   try simp only[Act.put,B6,B7,B8,B9,Ca,Cb]
   refine AD 14 (.agg j) 154 (.tmp 5) (f.heap.size) (0) (fun w h=>ac.o w h.2) a ?_
   try simp only[Act.put,B6,B7,B8,B9,Ca,Cb]
   have be:oH (Ab No W W.drew):=(Ab.refl No W).drew
   refine Kf 9 (fun K m=>?_)
   go_simp;refine (a7.o _).mono ?_;rintro e w3 ⟨rfl,H⟩;have bf:w3.heap[b]? =some (.cells o 277 (0,0))∧w3.heap[f.heap.size]? =some (.cells j 154 (0,0)):=⟨(H.block b (Aa a.1) oI).trans a.1,(H.block _ (Aa a.2) oI).trans a.2⟩;have bg:oH (Ab No W w3):=be.o.seq H
   refine m.out _ _ bf (fun a=>?_)
   clear m K H
   try simp only[Act.put,B6,B7,B8,B9,Ca,Cb]
   refine Kf 15 (fun K m=>?_)
   go_simp;refine (a8.o _).mono ?_;rintro e w4 ⟨rfl,I⟩;have bh:w4.heap[b]? =some (.cells o 277 (0,0))∧w4.heap[f.heap.size]? =some (.cells j 154 (0,0)):=⟨(I.block b (Aa a.1) oI).trans a.1,(I.block _ (Aa a.2) oI).trans a.2⟩;have bi:oH (Ab No W w4):=bg.o.seq I
   refine m.out _ _ bh (fun a=>?_)
   clear m K I
   try simp only[Act.put,B6,B7,B8,B9,Ca,Cb]
   refine Kf 16 (fun K m=>?_)
   go_simp;refine (a9.o _).mono ?_;rintro e w5 ⟨rfl,J⟩;have bj:w5.heap[b]? =some (.cells o 277 (0,0))∧w5.heap[f.heap.size]? =some (.cells j 154 (0,0)):=⟨(J.block b (Aa a.1) oI).trans a.1,(J.block _ (Aa a.2) oI).trans a.2⟩;have bk:oH (Ab No W w5):=bi.o.seq J
   refine m.out _ _ bj (fun a=>?_)
   clear m K J
   refine wpAnyH_done (by kernel_rfl) ?_ _
   clear bf bh bj bg bi a7 a8 a9 ba bb ac bc;have L:oH (Ab No f w5):=V.o.seq bk.o;have b6:=Ad a.2;clear a V bk be D
   try simp only[Act.put,B6,B7,B8,B9,Ca,Cb]
   have bl:oH (G1 w5 c (w.heap.size+1) (Af d) (es++[(q,t)]) B):=T.o.kept L.o oI oI;have ad:oH (Aw w5 w.heap.size (Cr (C7 n l r) es)):=a2.o.kept L.o oI;have bm:oH (Ab No w w5):=a0.o.seq L.o;clear L T a2 a0
   cases G with
   |false =>
    have ae:oH (Aw w5 w.heap.size (Cr (C7 n l r) (es++[(q,t)]))):=by show Aw _ _ _;rw[Yo,←bd.o];simpa using ad.o
    go_wp2_with fail;go_roundg B
    case measure=>exact ax
    case rel=>exact⟨es++[(q,t)],bl,ae,bm⟩
   |true =>
    have bn:=Ad (U0 w.heap.size (Cr (C7 n l r) es) q t w5 ad.o ay.o bz.o);have p:=b5.o;subst p
    go_wp2_with (first
     |(refine D7 _ rfl rfl f.heap.size rfl q b6.o ?_)
     |fail)
    refine bn.o.mono ?_;rintro e w6 ⟨rfl,bo,af⟩
    have ae:oH (Aw w6 w.heap.size (Cr (C7 n l r) (es++[(q,t)]))):=by
     show Aw _ _ _
     rw[Yo,←bd.o]
     refine bo.eqv (fun x=>?_) (fun x s=>?_)
     ·simp only[Mo.Am,if_true,cnt];omega
     ·rcases lC.1 s with s|s
      ·exact ad.o.1 x s
      ·simp at s;subst s;exact ay.o
    have b7:oH (G1 w6 c (w.heap.size+1) (Af d) (es++[(q,t)]) B):=bl.o.kept af (fun e=>by omega) (fun e=>by omega)
    have b8:oH (Ab No w w6):=bm.o.trans af (fun _ e=>e) (fun i hi e=>by omega)
    clear bo af bn;go_wp2_with fail;go_roundg B
    case measure=>exact ax
    case rel=>exact⟨es++[(q,t)],b7,ae,b8⟩
theorem dZ:Qy 275 258:=⟨fun _ _=>by kernel_rfl,fun _ _=>by kernel_rfl,enters_of Tryz.func258 (by kernel_rfl) rfl⟩
theorem Yp {ty:TypeId}{f:Nat}{p:Addr}{A:Nat→Prop}{ts:List Bool}{Gd:Bag→Prop}{R:World→Ow→Bag→Prop}(i:Et ty f p A ts Gd R)(b n:Nat)(l r:Cy)(us:List Bool)(hO:UB us l r)(C:¬A (b+2)) :
 Et 275 258 ⟨b,0,none⟩ (fun a=>A a∨a=b+2) us (fun B=>B0 us B∧Gd (Cr (C7 n l r) B)) (fun w O B=>R w O (Cr (C7 n l r) B)∧Qk w O b (.iface ty (.pointer (some p))) n l r) where
 zero:=fun h=>h.elim i.zero (by omega)
 one:=fun h=>h.elim i.one (by omega)
 ok:=fun h=>h.1
 gde:=fun h e=>⟨h.1.eqv e,i.gde h.2 (Mo.Hf e)⟩
 stab:=fun h D m=>⟨i.stab h.1 D fun k j s=>m k j (s.imp .inl id),h.2.stab fun k j e=>m k j (.inl (.inr e))⟩
 eqv:=fun h e=>⟨i.eqv h.1 (Mo.Hf e),h.2⟩
 met:=dZ
 run:=by
  rintro w O B d c ⟨E,F⟩ ⟨G,u⟩ ⟨H,t⟩ I X;have v:=G.chg H
  obtain⟨J,g,cap,q,hg⟩:=F
  refine UC b c n g cap l r us hO d w _ q v I fun w3 es K s m=>?_
  have L:Be (Cr (C7 n l r) es) (Cr (C7 n l r) d):=Mo.Hf (K.eqv v)
  rw[Mo.Lb] at t
  have M:=(i.ok u).chg (i.ok t);have x:w3.heap[b]? =some (.cells (On (DK g cap) n l r) 277 (0,0)):=(m.block b (Aa q) oI).trans q;have N:w3.heap[g]? =w.heap[g]? :=m.block g hg.lt oI;have y:Qb w3 (oN w O) b g (.iface ty (.pointer (some p))):=hg.stab ⟨N,M8 hg.lt⟩;have P:Aw w3 w.heap.size (Af (Cr (C7 n l r) d)):=s.eqv (L.trans (Mo.Bv _).symm) M.cV
  have Q:R w3 (oN w O) (Cr (C7 n l r) B):=i.kept E m (fun _ e=>e.elim) (fun k j=>M8 j)
  refine (i.give (b:=b) (c:=w.heap.size) (g:=g) (o:=0) (cap:=cap) ((Ae x 0).trans rfl) y.cell Q u t P (by rw[TT (kZ _)];exact i.zero)).mono fun e w4 z=>⟨z.1,?_⟩
  refine Il.up (b:=b) m.any z fun S T U V=>⟨by rw[Mo.Lb];exact V,?_⟩
  have W:∀k,k<w3.heap.size→oN w O k=b+2→w4.heap[k]? =w3.heap[k]?∧S k=oN w O k:=fun k j e=>⟨U.block k j (by rw[e];exact C),T k j⟩
  exact Qk.stab ⟨by rw[M8 (Aa q)];exact J,g,cap,x,y⟩ W
end Go.Proofs.YtdinjjmcmfjbfaaGreatDoor
