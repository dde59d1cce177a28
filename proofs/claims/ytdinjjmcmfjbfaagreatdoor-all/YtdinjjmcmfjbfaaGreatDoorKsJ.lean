import Derived.Test.YtdinjjmcmfjbfaaGreatDoorKpJ
set_option maxRecDepth 100000
set_option maxHeartbeats 4000000
namespace Go.Proofs.YtdinjjmcmfjbfaaGreatDoor
open Go.RowKit Go.Shelf Mo Pl Tryz
set_option linter.unusedSimpArgs false
def Lv (w:World)(O:Ow)(b:Nat)(T:Value)(B:Bag):Prop:=O b=b+2∧∃g cap hv,w.heap[b]? =some (.cells #[Qc g cap,hv] 283 (0,0))∧O6 w O b g T∧Dr w O b hv B
theorem Lv.stab {w w':World}{O d:Ow}{b:Nat}{T:Value}{B:Bag}(h:Lv w O b T B)(a:∀k,k<w.heap.size→O k=b+2→w'.heap[k]? =w.heap[k]?∧d k=O k):Lv w' d b T B:=by
 obtain⟨e,g,cap,hv,f,c,j⟩:=h;have i:=a b (Aa f) e;exact⟨i.2.trans e,g,cap,hv,i.1.trans f,c.stab (a g c.lt c.1),j.stab a⟩
theorem Lv.eqv {w:World}{O:Ow}{b:Nat}{T:Value}{B a:Bag}(h:Lv w O b T B)(e:A9 B a):Lv w O b T a:=by
 obtain⟨c,g,cap,hv,d,f,i⟩:=h;exact⟨c,g,cap,hv,d,f,i.eqv e⟩
theorem Tc (B es:Bag)(q:Row)(t:Int):F3 B (es++[(q,t)])=F3 B es++N0 B (q,t):=by unfold F3;rw[vR];simp
theorem VK (B:Bag)(e:Row×Int):(N0 B e).length≤1:=by unfold N0;split;simp;split <;> simp
theorem BK (B:Bag):∀es:Bag,(F3 B es).length≤es.length
 | []=>tY _
 |e::es=>by have a:=VK B e;have b:=BK B es;have:F3 B (e::es)=N0 B e++F3 B es:=rfl;rw[this,tS,uO];omega
theorem VL (b c g cap:Nat)(hv:Value)(us:List Bool)(B d:Bag)(w:World)(Q:Ending→World→Prop)(O:C2 w b #[Qc g cap,hv] 283)(P:E6 w hv (Ad B))(hB:B2 us B)(ai:Gf us d)(I:Ak w c (Ad d))
 (aj:∀w3 es,J9 (Ad d) es→Ak w3 w.heap.size (F3 B es)→Ab No w w3→Calls prog 66 #[.pointer (some ⟨b,1,none⟩),.map (some c)] w3 fun e w4=>e=.returned (.tuple #[])∧Calls prog 250 #[C1 b,.map (some w.heap.size)] w4 fun e w'=>e=.returned (.tuple #[])∧Q e w') :
 Calls prog 261 #[C1 b,.map (some c)] w Q:=by
 have ak:xR (Ak (w.alloc (.map #[] 0)) c (Ad d)):=I.A6 (Below.heap_alloc _ _ _ I.lt);have al:xR (Ak (w.alloc (.map #[] 0)) w.heap.size []):=Ak.made w;obtain⟨l,rfl⟩:=P.is;have bb:=Ae O;have bc:=Ae aj;have bd:=Ae P;have am:=Ae hB;have HD:=Ae ai;have bp:=I.lt;have be:=Aa O;clear I O aj P ai hB;have bf:=@run_makeMap prog;go_enter func261,ntmps261;go_wp2_with (first
  |(at_range;refine Bv _ rfl _ rfl c (Ad d) rfl ak.o ?_;intro w1 bg R T an)
  |fail)
 have bh:(w.alloc (.map #[] 0)).heap.size=w.heap.size+1:=by simp
 rw[bh] at R an⊢;have ao:=Ae R;have ap:xR (Ak w1 w.heap.size (F3 B [])):=al.o.kept T xT;have aq:Ab No w w1:=((Ab.refl No w).alloc _).seq T;have ar:=Ae aq;clear R an T aq ak al bf;go_frame;go_loopg [] bg (fun k wr=>∃es:Bag,xR (D5 wr c (w.heap.size+1) (Ad d) es k)∧xR (Ak wr w.heap.size (F3 B es))∧xR (Ab No w wr))
 case atStart=>exact⟨[],ao,ap,ar⟩
 obtain⟨es,hr,au,y⟩:=hrel;clear ao ap ar;go_wp2_with (first
  |(at_next;refine B0 _ rfl _ rfl c (w.heap.size+1) (Ad d) es gk rfl hr.o ?_ ?_)
  |fail)
 ·intro av;have aw:=Ae (bc.o wr es av au.o y.o);clear av;go_wp21;go_call aw.o as e w4 ⟨rfl,m⟩;have bi:=Ae m;clear m aw;go_wp21;go_call bi.o as e w5 ⟨rfl,m⟩;have bj:=Ae m;clear m;go_wp21;go_end0;exact bj.o
 intro t q a r m ax bk ay U V bl bq;have z:=Ae m;have X:=Ae ay;have az:xR (t=cnt d q):=by show _=_;rw[ax,HD.o.gU]
 have A:Ab No w a:=y.o.trans V (fun _ e=>e) (fun i hi e=>by omega);have a0:=Ae A;have a1:Ak a w.heap.size (F3 B es):=au.o.kept V (fun e=>by omega);have a2:=Ae a1;have a3:xR ((Ad (F3 B es)).length<maxLen):=by have e1:=X.o.T9.len;have e2:=HD.o.len;have e3:=A3 (F3 B es) [];have e4:(F3 B es).length≤es.length:=BK B es;simp[Ad] at e1 e3;rw[Bp (Ap d)] at e1;show _<_;unfold maxLen;omega
 have br:w.heap.size≤a.heap.size:=A.size;have a4:C2 a b #[Qc g cap,.map l] 283:=(A.block b be xT).trans bb.o;have Y:=Ae a4;have bm:xR (E6 a (.map l) (Ad B)):=bd.o.Ag A;clear m ay V ax bk a1 bl A a4;go_wp2_with (first
  |(refine Bt _ _ _ rfl rfl a _ rfl rfl rfl q rfl ?_)
  |fail)
 have a5:C2 (a.alloc (.cells (Ai q) 154)) b #[Qc g cap,.map l] 283:=(Below.heap_alloc _ _ _ (Aa Y.o)).trans Y.o;have a6:C2 (a.alloc (.cells (Ai q) 154)) a.heap.size (Ai q) 154:=heap_alloc_last _ _;have J:=Ae (And.intro a5 a6);have Z:Ab No a (a.alloc (.cells (Ai q) 154)):=(Ab.refl No a).alloc _;have aa:=Ae Z;have ab:xR (E6 (a.alloc (.cells (Ai q) 154)).drew (.map l) (Ad B)):=bm.o.Ag Z.drew;clear a5 a6 Z;generalize a.alloc (.cells (Ai q) 154)=W at J aa ab⊢;obtain⟨L,ac⟩:∃L,L=#[Qc g cap,.map l]:=⟨_,rfl⟩;obtain⟨s,u⟩:∃s,s=Ai q:=⟨_,rfl⟩;have a7:xR (∀w:World,C2 w a.heap.size s 154→(loadVar 154 ⟨a.heap.size,0,none⟩).run prog w=.ok (.agg s) w):=by subst u;exact fun w h=>run_loadVar_row w a.heap.size 154 154 (Ai q) (0,0) _ h underlying154 rfl (by rw[Bd];exact Cp)
 have a8:xR (∀w:World,C2 w b L 283→C3 w b 1 (.map l)):=by subst ac;exact fun w h=>(Af h 1).trans rfl
 have a9:=Ae u;rw[←ac,←u] at J;clear ac Y u;refine wp_region_held_drew (S:=fun w'=>w'.heap[b]? =some (.cells L 283 (0,0))∧w'.heap[a.heap.size]? =some (.cells s 154 (0,0))) (by kernel_rfl) J.o (fun j=>?_);refine An 0 (C1 b) j ?_;refine An 1 (C1 b) j ?_;refine An 2 (.pointer (some ⟨b,1,none⟩)) j ?_;refine An 3 (.pointer (some ⟨b,1,none⟩)) j ?_
 try simp only[Act.put,Ar,As,Au,Av,Aw,Ax]
 refine Iq 4 (.map l) 83 (.tmp 18) (b) (1) (fun w h=>a8.o w h.1) j ?_;refine Ha 5 (.agg s) 154 (.tmp 5) (a.heap.size) (0) (fun w h=>a7.o w h.2) j ?_
 try simp only[Act.put,Ar,As,Au,Av,Aw,Ax]
 refine C0 6 (fun K y=>?_);rw[if_pos (by kernel_rfl)];refine Na (.tmp 19) (.tmp 20) (by kernel_rfl) (.map l) (Ad B) (by kernel_rfl) ab.o q z.o (by rw[←a9.o];kernel_rfl) ?_;refine y.out _ _ j (fun j=>?_);clear y K;refine wpAnyH_done (by kernel_rfl) ?_ _;have ad:=Ae j.2;have C:xR (Ab No a W.drew):=aa.o.drew;clear j a7 a8 J ab aa;have ba:wrap64 (cnt (Ad B) q)=cnt B q:=by rw[Aq,Ga];have:=am.o.bd q;omega
 rw[ba];clear ba
 try simp only[Act.put,Ar,As,Au,Av,Aw,Ax]
 have M:=am.o.bd q;have N:=HD.o.bd q;rw[←az.o] at N;generalize W.drew=w5 at C ad⊢;have ae:xR (D5 w5 c (w.heap.size+1) (Ad d) (es++[(q,t)]) r):=X.o.kept C.o xT xT;have D:xR (Ak w5 w.heap.size (F3 B es)):=a2.o.kept C.o xT;have af:xR (Ab No w w5):=a0.o.seq C.o;have o:xR (N0 B (q,t)=if cnt B q=0 then [(q,1)] else if cnt B q= -t then [(q,-1)] else []):=Ae rfl;obtain⟨x,f⟩:∃x,cnt B q=x:=⟨_,rfl⟩;rw[f] at o M⊢;have u:=a9.o;subst u;clear f C X a2 a0 az;have bs:IntKind.i64.wrap (-t)= -t:=IntWalk.i64_in _ (by omega);by_cases n:x=0
 ·have bn:(x == 0)=true:=by simp[n]
  have E:=Ae (G9 w.heap.size (F3 B es) q 1 w5 D.o z.o a3.o);have F:xR (N0 B (q,t)=[(q,1)]):=by show _=_;rw[o.o,if_pos n]
  clear n M N o;go_wp2_with (first
   |(refine C7 _ rfl rfl a.heap.size rfl q ad.o ?_)
   |fail)
  go_call E.o as e w6 ⟨rfl,G,p⟩;have H:xR (Ak w6 w.heap.size (F3 B (es++[(q,t)]))):=by
   show Ak _ _ _;rw[Tc,F.o];refine G.eqv (fun x=>?_) (fun x f=>?_)
   ·simp only[Ah,cnt];omega
   rcases tW.1 f with f|f
   ·exact D.o.1 x f
   simp at f;subst f;exact z.o
  have ag:xR (D5 w6 c (w.heap.size+1) (Ad d) (es++[(q,t)]) r):=ae.o.kept p (fun e=>by omega) (fun e=>by omega);have ah:xR (Ab No w w6):=af.o.trans p (fun _ e=>e) (fun i hi e=>by omega);clear G p E;go_wp21;go_roundg r
  case measure=>exact U
  exact⟨es++[(q,t)],ag,H,ah⟩
 have bn:(x == 0)=false:=by simp[n]
 by_cases v:x= -t
 ·have bo:(x == -t)=true:=by simp[v]
  have E:=Ae (G9 w.heap.size (F3 B es) q (-1) w5 D.o z.o a3.o);have F:xR (N0 B (q,t)=[(q,-1)]):=by show _=_;rw[o.o,if_neg n,if_pos v]
  clear n v M N o;go_wp2_with (first
   |(refine C7 _ rfl rfl a.heap.size rfl q ad.o ?_)
   |fail)
  go_call E.o as e w6 ⟨rfl,G,p⟩;have H:xR (Ak w6 w.heap.size (F3 B (es++[(q,t)]))):=by
   show Ak _ _ _;rw[Tc,F.o];refine G.eqv (fun x=>?_) (fun x f=>?_)
   ·simp only[Ah,cnt];omega
   rcases tW.1 f with f|f
   ·exact D.o.1 x f
   simp at f;subst f;exact z.o
  have ag:xR (D5 w6 c (w.heap.size+1) (Ad d) (es++[(q,t)]) r):=ae.o.kept p (fun e=>by omega) (fun e=>by omega);have ah:xR (Ab No w w6):=af.o.trans p (fun _ e=>e) (fun i hi e=>by omega);clear G p E;go_wp21;go_roundg r
  case measure=>exact U
  exact⟨es++[(q,t)],ag,H,ah⟩
 have bo:(x == -t)=false:=by simp[v]
 have F:xR (N0 B (q,t)=[]):=by show _=_;rw[o.o,if_neg n,if_neg v]
 have H:xR (Ak w5 w.heap.size (F3 B (es++[(q,t)]))):=by show Ak _ _ _;rw[Tc,F.o,vT];exact D.o
 clear n v M N o;go_wp21;go_roundg r
 case measure=>exact U
 exact⟨es++[(q,t)],ae,H,af⟩
theorem jA:M9 281 261:=⟨fun _ _=>by kernel_rfl,fun _ _=>by kernel_rfl,enters_of func261 (by kernel_rfl) rfl⟩
theorem Yq {ty:TypeId}{f:Nat}{p:Addr}{A:Nat→Prop}{ts:List Bool}{Gd:Bag→Prop}{R:World→Ow→Bag→Prop}(l:C9 ty f p A ts Gd R)(b:Nat)(us:List Bool)(E:¬A (b+2)) :
 C9 281 261 ⟨b,0,none⟩ (fun a=>A a∨a=b+2) us (fun B=>B2 us B∧Gd (En B)) (fun w O B=>R w O (En B)∧Lv w O b (.iface ty (.pointer (some p))) B) where
 zero:=fun h=>h.elim l.zero (by omega)
 one:=fun h=>h.elim l.one (by omega)
 ok:=fun h=>h.1
 gde:=fun h e=>⟨h.1.eqv e,by rw[←Nw e];exact h.2⟩
 stab:=fun h Q m=>⟨l.stab h.1 Q fun k j s=>m k j (s.imp .inl id),h.2.stab fun k j e=>m k j (.inl (.inr e))⟩
 eqv:=fun h e=>⟨by rw[←Nw e];exact h.1,h.2.eqv e⟩
 met:=jA
 run:=by
  rintro w O B d c ⟨S,T⟩ ⟨v,F⟩ ⟨G,U⟩ H V;have x:=v.chg G;obtain⟨I,g,cap,hv,q,hg,r⟩:=T;have W:∀k,hv=.map (some k)→(.map (some c):Value)≠.map (some k):=fun k e X=>V (.inr (by have:c=k:=(by simpa using X);subst this;exact r.2 c e));refine VL b c g cap hv us B d w _ q r.1 v x H fun w3 es y s m=>?_;have t:A9 (En B++F3 B es) (En (B++d)):=NK (y.eqv x) y.1.1 (fun e t=>(y.1.2 e t).2.2);have J:Gd (En B++F3 B es):=l.gde U t.symm;have Y:=(l.ok F).chg (l.ok J);have Z:C2 w3 b #[Qc g cap,hv] 283:=(m.block b (Aa q) xT).trans q;have aa:Ak w3 c (Ad d):=H.kept m xT;have z:Dr w3 (oN w O) b hv B:=r.stab fun k j _=>⟨m.block k j xT,Gx j⟩;refine (Hc b 1 #[Qc g cap,hv] 283 hv (.map (some c)) (Ad B) (Ad d) w3 Z rfl z.1 (.inr ⟨c,rfl,aa⟩) W (by have e1:=v.len;have e2:=x.len;rw[Bp (Ap _),Bp (Ap _)];unfold maxLen;omega)).mono fun e w4 ab=>?_;obtain⟨ac,K,ad,ae,_,C⟩:=ab.mem z G.gR;have u:∀k,k<w.heap.size→oB w3 (oN w O) (b+2) k=O k:=fun k j=>(Fu (tU j m.size)).trans (Gx j);have L:Ab (fun k=>O k=b+2) w w4:=m.trans C (fun _ e=>e.elim) (fun i hi e=>by
   rcases e with rfl|e
   ·exact I
   rw[←Gx (O:=O) hi];exact z.2 i e)
  have M:O6 w4 (oB w3 (oN w O) (b+2)) b g (.iface ty (.pointer (some p))):=by
   have D:=hg.lt;refine hg.stab ⟨?_,u g D⟩;refine (C.block g (tU D m.size) ?_).trans (m.block g D xT);rintro (rfl|e)
   ·obtain⟨_,cs,af,n,_⟩:=hg;rw[q] at n;injection n with n;injection n with _ n;exact absurd n (by decide)
   obtain⟨_,cs,af,n,_⟩:=hg;exact r.F4 e n rfl
  have ag:Ak w4 w.heap.size (Ad (F3 B es)):=by
   refine (s.kept C ?_).eqv (Bc _).symm Y.gR;rintro (e|e)
   ·have:=Aa q;omega
   have:=r.1.lt e;omega
  have ah:R w4 (oB w3 (oN w O) (b+2)) (En B):=l.kept S L (fun k e=>⟨by rw[e];exact E,by omega⟩) u;have N:C2 w4 b #[Qc g cap,K] 283:=ad;refine⟨ac,(l.give (b:=b) (c:=w.heap.size) (g:=g) (o:=0) (cap:=cap) ((Af N 0).trans rfl) M.cell ah F J ag (by rw[Fu s.lt,Yi (tY _)];exact l.zero)).mono fun e w5 P=>⟨P.1,?_⟩⟩;refine Fb.sA (b:=b) u L P fun ai n aj ak=>⟨l.eqv ak t,?_⟩;have al:∀k,k<w4.heap.size→oB w3 (oN w O) (b+2) k=b+2→w5.heap[k]? =w4.heap[k]?∧ai k=oB w3 (oN w O) (b+2) k:=fun k j e=>⟨aj.block k j (by rw[e];exact E),n k j⟩;exact Lv.stab ⟨by rw[u b (Aa q)];exact I,g,cap,K,N,M,ae⟩ al
theorem JG (n:Int)(w:World):Calls prog 163 #[.int .i64 n] w fun e w'=>e=.returned (Ex (.num n))∧Ab No w w':=by
 change Calls prog 163 #[.int .i64 n] w fun e w'=>e=.returned (.agg #[D4,C4,C4,C4,C4,.int .i64 n])∧Ab No w w';go_enter func163,ntmps163;go_wp21
 (try simp only[Exit.inBlock,Exit.then])
 refine bodyPost_ret (results_cell_row rfl _ _ w.heap.size 133 #[D4,C4,C4,C4,C4,.int .i64 n] (0,0) _ rfl (heap_alloc_last _ _) underlying133 rfl (by exact ZW)) rfl ?_;exact⟨rfl,(Ab.refl No w).alloc _⟩
def Ff (l es:Bag):Bag:=l.filter (fun e=>decide (e.1∉es.map (·.1)))++es
theorem Q4 (l:Bag)(ks:List Row)(r:Row):cnt (l.filter (fun e=>decide (e.1∉ks))) r=if r∈ks then 0 else cnt l r:=by
 induction l with
 |nil=>simp[cnt]
 |cons e l b =>
  have c:cnt (e::l) r=(if e.1=r then e.2 else 0)+cnt l r:=rfl;rw[List.filter_cons];by_cases a:e.1∈ks
  ·rw[if_neg (by simpa using a),b,c];by_cases hr:e.1=r
   ·subst hr;rw[if_pos a,if_pos a]
   rw[if_neg hr];split <;> omega
  have d:∀m,cnt (e::m) r=(if e.1=r then e.2 else 0)+cnt m r:=fun _=>rfl;rw[if_pos (by simpa using a),d,b,c];by_cases hr:e.1=r
  ·subst hr;rw[if_neg a,if_neg a]
  rw[if_neg hr];split <;> omega
theorem Pa (l es:Bag)(r:Row):cnt (Ff l es) r=if r∈es.map (·.1) then cnt es r else cnt l r:=by
 unfold Ff;rw[Ah,Q4];by_cases h:r∈es.map (·.1)
 ·rw[if_pos h,if_pos h];omega
 rw[if_neg h,if_neg h,Dq fun x a e=>h (uA.2 ⟨x,a,e⟩)];omega
theorem NW (l:Bag):Ff l []=l:=by unfold Ff;simp
theorem JH {l es:Bag}{q:Row}{t:Int}(b:q∉es.map (·.1))(r:Row):cnt (Ff l (es++[(q,t)])) r=if r=q then t else cnt (Ff l es) r:=by
 rw[Pa,Pa];by_cases hr:r=q
 ·subst hr;rw[if_pos (by simp),if_pos rfl,Ah,Dq fun x a e=>b (uA.2 ⟨x,a,e⟩)];simp[cnt]
 have:cnt (es++[(q,t)]) r=cnt es r:=by rw[Ah];have:cnt [(q,t)] r=0:=Dq fun x a e=>hr (by simp at a;rw[a] at e;exact e.symm);omega
 rw[this,if_neg hr];by_cases h:r∈es.map (·.1)
 ·rw[if_pos h,if_pos (by simp at h⊢;exact .inl h)]
 rw[if_neg h,if_neg (by simp at h⊢;exact⟨h,hr⟩)]
theorem VM {l es:Bag}(b:∀e∈l,Ge e.1)(c:∀e∈es,Ge e.1):∀e∈Ff l es,Ge e.1:=fun e a=>by
 rcases tW.1 a with a|a
 ·exact b e (xD.1 a).1
 exact c e a
theorem Yr (l es:Bag):(Ad (Ff l es)).length≤(Ad l).length+es.length:=by
 have e:A9 (Ff l es) (es++(Ad l).filter (fun e=>decide (e.1∉es.map (·.1)))):=fun r=>by
  rw[Pa,Ah,Q4];by_cases h:r∈es.map (·.1)
  ·rw[if_pos h,if_pos h];omega
  rw[if_neg h,if_neg h,Aq,Dq (l:=es) fun x a e=>h (uA.2 ⟨x,a,e⟩)];omega
 rw[e.canon];have c:=A3 es ((Ad l).filter (fun e=>decide (e.1∉es.map (·.1))));have b:=A3 ((Ad l).filter (fun e=>decide (e.1∉es.map (·.1)))) [];have d:((Ad l).filter (fun e=>decide (e.1∉es.map (·.1)))).length≤(Ad l).length:=wE _ _;simp only[vT,Ad,vI] at b;omega
theorem bQ (a b2:Nat)(b d:Bag)(w:World)(j:Ak w a b)(o:Ak w b2 d)(J:a≠b2)(p:(Ad b).length+(Ad d).length<maxLen) :
 Calls prog 263 #[.map (some a),.map (some b2)] w fun e w'=>e=.returned (.tuple #[])∧∃es,J9 d es∧Ak w' a (Ff b es)∧Ab (·=a) w w':=by
 have s:=Ae j;have K:=Ae o;have L:=Ae p;have aa:=j.lt;clear j o p;go_enter func263,ntmps263;go_wp2_with (first
  |(at_range;refine Bv _ rfl _ rfl b2 d rfl K.o ?_;intro w1 M u l N)
  |fail)
 have v:=Ae u;have x:xR (Ak w1 a (Ff b [])):=by show Ak _ _ _;rw[NW];exact s.o.kept l xT
 have y:xR (Ab (·=a) w w1):=l.any;clear u N l;go_frame;go_loopg [] M (fun k wr=>∃es:Bag,xR (D5 wr b2 w.heap.size d es k)∧xR (Ak wr a (Ff b es))∧xR (Ab (·=a) w wr))
 case atStart=>exact⟨[],v,x,y⟩
 obtain⟨es,hr,z,A⟩:=hrel;clear v x y;go_wp2_with (first
  |(at_next;refine B0 _ rfl _ rfl b2 w.heap.size d es gk rfl hr.o ?_ ?_)
  |fail)
 ·intro O;go_wp21;go_end0;exact⟨rfl,es,O,z.o,A.o⟩
 intro t q c B C D E F P m Q ab;have R:=Ae C;have f:=Ae F;have G:xR (wrap64 t=t∧t≠0):=⟨by rw[D,IH],E⟩;have S:xR (Ab (·=a) w c):=A.o.trans m (fun _ e=>e) (fun i hi e=>by omega);have g:Ak c a (Ff b es):=z.o.kept m (fun e=>by omega);have ac:=Ae g;have T:xR (B9 154 Mj Ge (c.alloc (.cells (Ai q) 154)) a (Cr (Ff b es))):=g.2.A6 (Below.heap_alloc _ _ _ g.lt);have U:xR (C2 (c.alloc (.cells (Ai q) 154)) c.heap.size (Ai q) 154):=heap_alloc_last _ _;have V:xR ((Ad (Ff b es)).length<maxLen):=by have e1:=f.o.T9.len;have e2:=Yr b es;have e3:=L.o;show _<_;simp at e1;omega
 clear C F m D E g Q;go_wp2_with (first
  |(refine Bt _ _ _ rfl rfl c _ rfl rfl rfl q rfl ?_)
  |(refine C7 _ rfl rfl c.heap.size rfl q U.o ?_)
  |(at_mapUpdate;refine Ms _ Hk rfl _ _ _ 83 2 rfl underlying83 a (Cr (Ff b es)) _ rfl T.o (II _) V.o q R.o (.int .i64 t) rfl rfl ?_;intro w3 H I)
  |fail)
 have n:Ab (·=a) c w3:=((Ab.refl (·=a) c).alloc _).grown I.grown (fun r e=>by cases e;exact .inr rfl);have W:xR (D5 w3 b2 w.heap.size d (es++[(q,t)]) B):=f.o.kept n (fun e=>J e.symm) (fun e=>by omega);have X:xR (Ak w3 a (Ff b (es++[(q,t)]))):=by
  refine⟨VM s.o.1 f.o.T9.ok,?_⟩;have Y:q∉es.map (·.1):=by have:=f.o.T9.1;rw[uF,vP] at this;exact fun h=>this.2.2 q h q (by simp) rfl
  have:Cr (Ff b (es++[(q,t)]))=NG (Cr (Ff b es)) q (some (.int .i64 t)):=by
   funext r;unfold Cr NG;rw[JH Y];by_cases hr:r=q
   ·rw[if_pos hr,if_pos hr,G.o.1,if_neg G.o.2]
   rw[if_neg hr,if_neg hr]
  rw[this];exact H
 have Z:xR (Ab (·=a) w w3):=S.o.seq n;clear H I n;go_wp21;go_roundg B
 case measure=>exact P
 exact⟨es++[(q,t)],W,X,Z⟩
def Lw (sl hv tv cv:Value)(x:Dk):Array Value:=#[sl,hv,tv,cv,.bool (U6 x),.int .i64 (Ce x:Int),.int .i32 (kI (vO x)),.int .u8 (tB (vO x) 0),.int .u8 (tB (vO x) 1),.int .u8 (tB (vO x) 2),.int .u8 (tB (vO x) 3),.int .i64 (nI (vO x))]
def gE (H T:Bag)(t:Int)(k:Row):Bag:=if 0<wrap64 (cnt H k) then [(k++[.num (wrap64 (cnt T k))],t)] else []
def gB (H T:Bag)(t:Int)(es:Bag):Bag:=es.flatMap fun e=>gE H T t e.1
theorem SE (a T:Bag)(t:Int)(es:Bag)(q:Row)(x:Int):gB a T t (es++[(q,x)])=gB a T t es++gE a T t q:=by unfold gB;rw[vR];simp
theorem NX (a T:Bag)(t:Int):∀es:Bag,(gB a T t es).length≤es.length
 | []=>tY _
 |e::es=>by
  have b:=NX a T t es;have c:(gE a T t e.1).length≤1:=by unfold gE;split <;> simp
  have:gB a T t (e::es)=gE a T t e.1++gB a T t es:=rfl;rw[this,tS,uO];omega
theorem nK {k:Row}(h:Ge k)(_:k.length≤5)(a:Int):Ge (k++[.num (wrap64 a)]):=by
 refine⟨by rw[tS];simp;omega,fun v hv=>?_⟩;rcases tW.1 hv with hv|hv
 ·exact h.2 v hv
 simp at hv;subst hv;unfold Mh wrap64;omega
theorem jB (w:World)(a:Int):Qy (w.alloc (.cells #[.int .i32 0,.int .u8 0,.int .u8 0,.int .u8 0,.int .u8 0,.int .i64 a] 133)) (.slice (some ⟨w.heap.size,0,none⟩) 1 1) [.num a]:=SD w (.num a)
theorem Sk (b bt p:Nat)(F hv tv cv:Value)(x:Dk)(d T l o:Bag)(t:Int)(w:World)(B:w.heap[b]? =some (.cells (Lw F hv tv cv x) 286 (0,0)))(U:E6 w hv d)(V:E6 w tv T)(G:Ak w bt l)(hg:Ak w p o)
 (bq:bt≠p) (br:hv≠.map (some bt)) (bs:tv≠.map (some bt)) (av:∀k,wrap64 (cnt o k)≠0→k.length≤5) (aw:(Ad l).length+(Ad o).length<maxLen) :
 Calls prog 264 #[.pointer (some ⟨b,0,none⟩),.map (some bt),.map (some p),.int .i64 t] w fun e w'=>e=.returned (.tuple #[])∧∃es,J9 o es∧Ak w' bt (gB d T t es++l)∧Ab (·=bt) w w':=by
 obtain⟨r,rfl⟩:=U.is;obtain⟨s,rfl⟩:=V.is;have bu:=Ae G;have bv:=Ae hg;have bw:=Ae B;have bx:=Ae U;have bz:=Ae V;have b0:=Ae av;have b1:=Ae aw;have b2:=Aa B;have ck:=G.lt;have ax:b≠bt:=by rintro rfl;obtain⟨es,_,b3⟩:=G.obj;rw[b3] at B;cases B
 clear G hg B U V av aw;go_enter func264,ntmps264;go_wp2_with (first
  |(at_range;refine Bv _ rfl _ rfl p o rfl bv.o ?_;intro w1 b4 ay X b5)
  |fail)
 have az:=Ae ay;have a0:xR (Ak w1 bt (gB d T t []++l)):=bu.o.kept X xT;have a1:xR (Ab (·=bt) w w1):=X.any;clear ay b5 X;go_frame;go_loopg [] b4 (fun k wr=>∃es:Bag,xR (D5 wr p w.heap.size o es k)∧xR (Ak wr bt (gB d T t es++l))∧xR (Ab (·=bt) w wr))
 case atStart=>exact⟨[],az,a0,a1⟩
 obtain⟨es,hr,a2,f⟩:=hrel;clear az a0 a1;go_wp2_with (first
  |(at_next;refine B0 _ rfl _ rfl p w.heap.size o es gk rfl hr.o ?_ ?_)
  |fail)
 ·intro b6;go_wp21;go_end0;exact⟨rfl,es,b6,a2.o,f.o⟩
 intro u q c H a3 a4 a5 a6 a7 Y b7 cl;have Z:=Ae a3;have aa:=Ae a6;have a8:xR (q.length≤5):=b0.o q (by rw[←a4];exact a5);have v:Ab (·=bt) w c:=f.o.trans Y (fun _ e=>e) (fun i hi e=>by omega);have a9:=Ae v;have ba:Ak c bt (gB d T t es++l):=a2.o.kept Y (fun e=>by omega);have bb:=Ae ba;have b8:xR ((Ad (gB d T t es++l)).length<maxLen):=by have e1:=aa.o.T9.len;have e2:=b1.o;have e3:=A3 (gB d T t es) l;have e4:=NX d T t es;simp at e1;show _<_;omega
 have cm:w.heap.size≤c.heap.size:=v.size;have bc:c.heap[b]? =some (.cells (Lw F (.map r) (.map s) cv x) 286 (0,0)):=(v.block b b2 ax).trans bw.o;have ab:=Ae bc;have b9:xR (E6 c (.map r) d):=bx.o.kept v (fun k e ac=>br (by rw[e,ac]));have bd:xR (E6 c (.map s) T):=bz.o.kept v (fun k e ac=>bs (by rw[e,ac]));clear a3 a6 Y a4 a5 ba b7 v bc;go_wp2_with (first
  |(refine Bt _ _ _ rfl rfl c _ rfl rfl rfl q rfl ?_)
  |fail)
 have be:(c.alloc (.cells (Ai q) 154)).heap[b]? =some (.cells (Lw F (.map r) (.map s) cv x) 286 (0,0)):=(Below.heap_alloc _ _ _ (Aa ab.o)).trans ab.o;have bf:(c.alloc (.cells (Ai q) 154)).heap[c.heap.size]? =some (.cells (Ai q) 154 (0,0)):=heap_alloc_last _ _;have I:=Ae (And.intro be bf);have ad:Ab No c (c.alloc (.cells (Ai q) 154)):=(Ab.refl No c).alloc _;have ae:=Ae ad;have af:xR (E6 (c.alloc (.cells (Ai q) 154)).drew (.map r) d):=b9.o.Ag ad.drew;clear be bf ad;generalize c.alloc (.cells (Ai q) 154)=W at I ae af⊢;obtain⟨n,J⟩:∃n,n=Lw F (.map r) (.map s) cv x:=⟨_,rfl⟩;obtain⟨j,L⟩:∃j,j=Ai q:=⟨_,rfl⟩;have C:xR (∀w:World,w.heap[c.heap.size]? =some (.cells j 154 (0,0))→(loadVar 154 ⟨c.heap.size,0,none⟩).run prog w=.ok (.agg j) w):=by subst L;exact fun w h=>run_loadVar_row w c.heap.size 154 154 (Ai q) (0,0) _ h underlying154 rfl (by rw[Bd];exact Cp)
 have ag:xR (∀w:World,w.heap[b]? =some (.cells n 286 (0,0))→w.cell? ⟨b,1,none⟩=some (.map r)):=by subst J;exact fun w h=>(Af h 1).trans rfl
 have ah:xR (∀w:World,w.heap[b]? =some (.cells n 286 (0,0))→w.cell? ⟨b,2,none⟩=some (.map s)):=by subst J;exact fun w h=>(Af h 2).trans rfl
 have ai:=Ae L;rw[←J,←L] at I;clear J ab L;refine wp_region_held_drew (S:=fun w'=>w'.heap[b]? =some (.cells n 286 (0,0))∧w'.heap[c.heap.size]? =some (.cells j 154 (0,0))) (by kernel_rfl) I.o (fun a=>?_);refine An 0 (.pointer (some ⟨b,0,none⟩)) a ?_;refine An 1 (.pointer (some ⟨b,0,none⟩)) a ?_;refine An 2 (.pointer (some ⟨b,1,none⟩)) a ?_;refine An 3 (.pointer (some ⟨b,1,none⟩)) a ?_
 try simp only[Act.put,Ar,As,Au,Av,Aw,Ax]
 refine Iq 4 (.map r) 83 (.tmp 18) (b) (1) (fun w h=>ag.o w h.1) a ?_;refine Ha 5 (.agg j) 154 (.tmp 8) (c.heap.size) (0) (fun w h=>C.o w h.2) a ?_;refine C0 6 (fun K f=>?_);rw[if_pos (by kernel_rfl)];refine Na (.tmp 19) (.tmp 20) (by kernel_rfl) (.map r) d (by kernel_rfl) af.o q Z.o (by rw[←ai.o];kernel_rfl) ?_;refine f.out _ _ a (fun a=>?_);clear f K
 try simp only[Act.put,Ar,As,Au,Av,Aw,Ax]
 have D:xR (gE d T t q=if 0<wrap64 (cnt d q) then [(q++[.num (wrap64 (cnt T q))],t)] else []):=Ae rfl;generalize wrap64 (cnt d q)=m at D⊢;refine An 7 (.bool (decide (0<m))) a ?_;refine wpAnyH_done (by kernel_rfl) ?_ _;have y:xR (Ab No c W.drew):=ae.o.drew;have aj:=Ae a;clear a I af ae
 try simp only[Act.put,Ar,As,Au,Av,Aw,Ax]
 generalize W.drew=w5 at y aj⊢;have ak:xR (D5 w5 p w.heap.size o (es++[(q,u)]) H):=aa.o.kept y.o xT xT;have E:xR (Ak w5 bt (gB d T t es++l)):=bb.o.kept y.o xT;have al:xR (Ab (·=bt) w w5):=a9.o.V1 y.o;have ca:xR (E6 w5.drew (.map s) T):=bd.o.Ag y.o.drew;clear y aa bb a9 bd;by_cases bg:0<m
 ·have M:xR (gE d T t q=[(q++[.num (wrap64 (cnt T q))],t)]):=by show _=_;rw[D.o,if_pos bg]
  clear D;go_wp21;refine wp_region_held_drew (S:=fun w'=>w'.heap[b]? =some (.cells n 286 (0,0))∧w'.heap[c.heap.size]? =some (.cells j 154 (0,0))) (by kernel_rfl) aj.o (fun a=>?_);refine An 0 (.map (some bt)) a ?_;refine Ha 1 (.agg j) 154 (.tmp 8) (c.heap.size) (0) (fun w h=>C.o w h.2) a ?_;refine An 2 (.pointer (some ⟨b,0,none⟩)) a ?_;refine An 3 (.pointer (some ⟨b,0,none⟩)) a ?_
  try simp only[Act.put,Ar,As,Au,Av,Aw,Ax]
  refine An 4 (.pointer (some ⟨b,2,none⟩)) a ?_;refine An 5 (.pointer (some ⟨b,2,none⟩)) a ?_;refine Iq 6 (.map s) 83 (.tmp 28) (b) (2) (fun w h=>ah.o w h.1) a ?_;refine Ha 7 (.agg j) 154 (.tmp 8) (c.heap.size) (0) (fun w h=>C.o w h.2) a ?_
  try simp only[Act.put,Ar,As,Au,Av,Aw,Ax]
  refine An 12 (.int .i64 t) a ?_;refine C0 8 (fun K f=>?_);rw[if_pos (by kernel_rfl)];refine Na (.tmp 29) (.tmp 30) (by kernel_rfl) (.map s) T (by kernel_rfl) ca.o q Z.o (by rw[←ai.o];kernel_rfl) ?_;refine f.out _ _ a (fun a=>?_);clear f K
  try simp only[Act.put,Ar,As,Au,Av,Aw,Ax]
  have am:xR (Ge (q++[.num (wrap64 (cnt T q))])):=nK Z.o a8.o _;generalize wrap64 (cnt T q)=g at M am⊢;have bh:xR (∀w',Calls prog 163 #[.int .i64 g] w' fun e z=>e=.returned (.agg #[.int .i32 0,.int .u8 0,.int .u8 0,.int .u8 0,.int .u8 0,.int .i64 g])∧Ab No w' z):=fun w'=>JG g w';obtain⟨N,an⟩:∃N,N=Ai (q++[.num g]):=⟨_,rfl⟩;have bi:xR (∀w',Qy w' (.slice (some ⟨w'.heap.size-1,0,none⟩) 1 1) [.num g]→Calls prog 80 #[.agg j,.slice (some ⟨w'.heap.size-1,0,none⟩) 1 1] w' fun e z=>e=.returned (.agg N)∧Ab No w' z):=by subst an;rw[ai.o];exact fun w' cb=>Rx q [.num g] _ w' cb (by simp) (by have:=a8.o;simp;omega)
  have bj:xR (∀w',Ab No w5 w'→Calls prog 79 #[.map (some bt),.agg N,.int .i64 t] w' fun e z=>e=.returned (.tuple #[])∧Ak z bt ((q++[.num g],t)::(gB d T t es++l))∧Ab (·=bt) w' z):=by subst an;refine Ae ?_;intro w' cc;have cd:=E.o.kept cc xT;have ce:=am.o;exact G9 bt (gB d T t es++l) (q++[.num g]) t w' cd ce b8.o
  clear an;have bk:xR (Ab No w5 w5.drew):=(Ab.refl No w5).drew;refine C0 9 (fun K f=>?_);go_simp;go_call bh.o _ as e w6 ⟨rfl,O⟩;have bl:w6.heap[b]? =some (.cells n 286 (0,0))∧w6.heap[c.heap.size]? =some (.cells j 154 (0,0)):=⟨(O.block b (Aa a.1) xT).trans a.1,(O.block _ (Aa a.2) xT).trans a.2⟩;have bm:xR (Ab No w5 w6):=bk.o.seq O;refine f.out _ _ bl (fun a=>?_);clear f K O
  try simp only[Act.put,Ar,As,Au,Av,Aw,Ax]
  refine C0 10 (fun K f=>?_);go_simp;have cf:(w6.alloc (.cells #[.int .i32 0,.int .u8 0,.int .u8 0,.int .u8 0,.int .u8 0,.int .i64 g] 133)).heap[b]? =some (.cells n 286 (0,0))∧(w6.alloc (.cells #[.int .i32 0,.int .u8 0,.int .u8 0,.int .u8 0,.int .u8 0,.int .i64 g] 133)).heap[c.heap.size]? =some (.cells j 154 (0,0)):=⟨(Below.heap_alloc _ _ _ (Aa a.1)).trans a.1,(Below.heap_alloc _ _ _ (Aa a.2)).trans a.2⟩;have P:xR (Qy (w6.alloc (.cells #[.int .i32 0,.int .u8 0,.int .u8 0,.int .u8 0,.int .u8 0,.int .i64 g] 133)) (.slice (some ⟨w6.heap.size,0,none⟩) 1 1) [.num g]):=jB w6 g;have ao:xR (Ab No w5 (w6.alloc (.cells #[.int .i32 0,.int .u8 0,.int .u8 0,.int .u8 0,.int .u8 0,.int .i64 g] 133))):=bm.o.alloc _;have ap:w6.heap.size=(w6.alloc (.cells #[.int .i32 0,.int .u8 0,.int .u8 0,.int .u8 0,.int .u8 0,.int .i64 g] 133)).heap.size-1:=by simp
  refine f.out _ _ cf (fun a=>?_);clear f K bl
  try simp only[Act.put,Ar,As,Au,Av,Aw,Ax]
  rw[ap] at P;simp only[ap];clear ap;generalize w6.alloc (.cells #[.int .i32 0,.int .u8 0,.int .u8 0,.int .u8 0,.int .u8 0,.int .i64 g] 133)=cn at P ao a⊢;refine C0 11 (fun K f=>?_);go_simp;go_call bi.o _ P.o as e aq ⟨rfl,Q⟩;have bn:aq.heap[b]? =some (.cells n 286 (0,0))∧aq.heap[c.heap.size]? =some (.cells j 154 (0,0)):=⟨(Q.block b (Aa a.1) xT).trans a.1,(Q.block _ (Aa a.2) xT).trans a.2⟩;have ar:xR (Ab No w5 aq):=ao.o.seq Q;refine f.out _ _ bn (fun a=>?_);clear f K Q
  refine C0 13 (fun K f=>?_);go_simp;go_call bj.o _ ar.o as e A ⟨rfl,bo,R⟩;have bp:A.heap[b]? =some (.cells n 286 (0,0))∧A.heap[c.heap.size]? =some (.cells j 154 (0,0)):=⟨(R.block b (Aa a.1) ax).trans a.1,(R.block _ (Aa a.2) (by omega)).trans a.2⟩;have au:xR (Ab (·=bt) w5 A):=ar.o.Qk R;refine f.out _ _ bp (fun a=>?_);clear f K R;refine wpAnyH_done (by kernel_rfl) ?_ _;clear bn bp ar bm ao bi bj bh C ag ah a bk aj P
  try simp only[Act.put,Ar,As,Au,Av,Aw,Ax]
  have cg:xR (D5 A p w.heap.size o (es++[(q,u)]) H):=ak.o.kept au.o (fun e=>bq e.symm) (fun e=>by omega);have ch:xR (Ak A bt (gB d T t (es++[(q,u)])++l)):=by
   show Ak _ _ _;rw[SE,M.o];refine bo.eqv (fun x=>?_) (fun x m=>?_)
   ·simp only[Ah,cnt];omega
   rcases tW.1 m with m|m
   ·rcases tW.1 m with m|m
    ·exact E.o.1 x (tW.2 (.inl m))
    simp at m;subst m;exact am.o
   exact E.o.1 x (tW.2 (.inr m))
  have ci:xR (Ab (·=bt) w A):=al.o.seq au.o;clear bo au ak E al;go_wp21;go_roundg H
  case measure=>exact a7
  exact⟨es++[(q,u)],cg,ch,ci⟩
 have M:xR (gE d T t q=[]):=by show _=_;rw[D.o,if_neg bg]
 have co:m≤0:=by omega
 have cj:xR (Ak w5 bt (gB d T t (es++[(q,u)])++l)):=by show Ak _ _ _;rw[SE,M.o,vT];exact E.o
 clear D C ag ah;go_wp21;go_roundg H
 case measure=>exact a7
 exact⟨es++[(q,u)],ak,cj,al⟩
def Nc (sl:Value)(n:Nat)(l r:Dk):Array Value :=
 #[sl,.int .i64 (n:Int),.bool (U6 l),.int .i64 (Ce l:Int),.int .i32 (kI (vO l)),.int .u8 (tB (vO l) 0),.int .u8 (tB (vO l) 1),.int .u8 (tB (vO l) 2),.int .u8 (tB (vO l) 3),.int .i64 (nI (vO l)),
   .bool (U6 r),.int .i64 (Ce r:Int),.int .i32 (kI (vO r)),.int .u8 (tB (vO r) 0),.int .u8 (tB (vO r) 1),.int .u8 (tB (vO r) 2),.int .u8 (tB (vO r) 3),.int .i64 (nI (vO r))]
def Sl (w:World)(O:Ow)(b:Nat)(T:Value)(n:Nat)(l r:Dk):Prop:=O b=b+2∧∃g cap,w.heap[b]? =some (.cells (Nc (Qc g cap) n l r) 277 (0,0))∧O6 w O b g T
def Kr (n:Nat)(l r:Dk):Row→Bool:=fun q=>Nv (Mi n) (Iv l q) (Iv r q)
theorem Sl.stab {w w':World}{O c:Ow}{b n:Nat}{T:Value}{l r:Dk}(h:Sl w O b T n l r)(d:∀k,k<w.heap.size→O k=b+2→w'.heap[k]? =w.heap[k]?∧c k=O k):Sl w' c b T n l r:=by
 obtain⟨e,g,cap,f,a⟩:=h;have i:=d b (Aa f) e;exact⟨i.2.trans e,g,cap,i.1.trans f,a.stab (d g a.lt a.1)⟩
theorem NY {w:World}{b n:Nat}{a:Value}{l r:Dk}(h:C2 w b (Nc a n l r) 277):w.rangeAt b 2 (Sh l):=fun j v hv=>by
 rw[Af h];have c:=(tR.1 hv).1
 match j,c with
 |0,_|1,_|2,_|3,_|4,_|5,_|6,_|7,_=>simpa [Sh,Nc] using hv
theorem NZ {w:World}{b n:Nat}{a:Value}{l r:Dk}(h:C2 w b (Nc a n l r) 277):w.rangeAt b 10 (Sh r):=fun j v hv=>by
 rw[Af h];have c:=(tR.1 hv).1
 match j,c with
 |0,_|1,_|2,_|3,_|4,_|5,_|6,_|7,_=>simpa [Sh,Nc] using hv
theorem Pb:(prog.info? 135).map (·.size)=some 8:=by kernel_rfl
theorem BL (p:Row→Bool)(es:Bag)(q:Row)(t:Int):Cw p (es++[(q,t)])=Cw p es++(if p q then [(q,t)] else []):=by
 rw[Mq];congr 1;unfold Cw;by_cases h:p q <;> simp[h]
structure bR (us:List Bool) (l r:Dk):Prop where
 l6:∀c,l=.col c→c<6
 r6:∀c,r=.col c→c<6
 ok:∀{q:Row},Ei us q→Mh (Iv l q)∧Mh (Iv r q)∧Mo.ty (Iv l q)=Mo.ty (Iv r q)
theorem bS (b c n g cap:Nat)(l r:Dk)(us:List Bool)(hO:bR us l r)(d:Bag)(w:World)(Q:Ending→World→Prop)(M:C2 w b (Nc (Qc g cap) n l r) 277)(ag:Gf us d)(A:Ak w c (Ad d))
 (ah:∀w3 es,J9 (Ad d) es→Ak w3 w.heap.size (Cw (Kr n l r) es)→Ab No w w3→Calls prog 250 #[C1 b,.map (some w.heap.size)] w3 fun e w'=>e=.returned (.tuple #[])∧Q e w') :
 Calls prog 258 #[C1 b,.map (some c)] w Q:=by
 have ai:xR (Ak (w.alloc (.map #[] 0)) c (Ad d)):=A.A6 (Below.heap_alloc _ _ _ A.lt);have aj:xR (Ak (w.alloc (.map #[] 0)) w.heap.size []):=Ak.made w;have bo:=Ae M;have bp:=Ae ah;have N:=Ae hO;have HD:=Ae ag;have b7:=A.lt;have bq:=Aa M;clear A M ah hO ag;have br:=@run_makeMap prog;go_enter func258,ntmps258;go_wp2_with (first
  |(at_range;refine Bv _ rfl _ rfl c (Ad d) rfl ai.o ?_;intro w1 bs O P ak)
  |fail)
 have bt:(w.alloc (.map #[] 0)).heap.size=w.heap.size+1:=by simp
 rw[bt] at O ak⊢;have al:=Ae O;have am:xR (Ak w1 w.heap.size (Cw (Kr n l r) [])):=aj.o.kept P xT;have an:Ab No w w1:=((Ab.refl No w).alloc _).seq P;have ao:=Ae an;clear O ak P an ai aj br;go_frame;go_loopg [] bs (fun k wr=>∃es:Bag,xR (D5 wr c (w.heap.size+1) (Ad d) es k)∧xR (Ak wr w.heap.size (Cw (Kr n l r) es))∧xR (Ab No w wr))
 case atStart=>exact⟨[],al,am,ao⟩
 obtain⟨es,hr,ap,m⟩:=hrel;clear al am ao;go_wp2_with (first
  |(at_next;refine B0 _ rfl _ rfl c (w.heap.size+1) (Ad d) es gk rfl hr.o ?_ ?_)
  |fail)
 ·intro aq;have bu:=Ae (bp.o wr es aq ap.o m.o);clear aq;go_wp21;go_call bu.o as e w4 ⟨rfl,u⟩;have bv:=Ae u;clear u;go_wp21;go_end0;exact bv.o
 intro t q f B u ar au av aw R bw b8;have ax:=Ae u;have T:=Ae av;have ay:xR (Ei us q):=HD.o.good (by rw[←HD.o.gU,←ar];exact au);have C:Ab No w f:=m.o.trans R (fun _ e=>e) (fun i hi e=>by omega);have az:=Ae C;have a0:Ak f w.heap.size (Cw (Kr n l r) es):=ap.o.kept R (fun e=>by omega);have a1:=Ae a0;have bx:xR ((Ad (Cw (Kr n l r) es)).length<maxLen):=by have e1:=T.o.T9.len;have e2:=HD.o.len;have e3:=A3 (Cw (Kr n l r) es) [];have e4:(Cw (Kr n l r) es).length≤es.length:=wE _ _;simp[Ad] at e1 e3;rw[Bp (Ap d)] at e1;show _<_;unfold maxLen;omega
 have b9:w.heap.size≤f.heap.size:=C.size;have a2:C2 f b (Nc (Qc g cap) n l r) 277:=(C.block b bq xT).trans bo.o;have U:=Ae a2;clear u av R ar au a0 bw C a2;go_wp2_with (first
  |(refine Bt _ _ _ rfl rfl f _ rfl rfl rfl q rfl ?_)
  |fail)
 have a3:C2 (f.alloc (.cells (Ai q) 154)) b (Nc (Qc g cap) n l r) 277:=(Below.heap_alloc _ _ _ (Aa U.o)).trans U.o;have a4:C2 (f.alloc (.cells (Ai q) 154)) f.heap.size (Ai q) 154:=heap_alloc_last _ _;have D:=Ae (And.intro a3 a4);have a5:Ab No f (f.alloc (.cells (Ai q) 154)):=(Ab.refl No f).alloc _;have V:=Ae a5;have bz:f.heap.size<(f.alloc (.cells (Ai q) 154)).heap.size:=by simp
 clear a3 a4 a5;generalize f.alloc (.cells (Ai q) 154)=W at D V bz⊢;obtain⟨o,v⟩:∃o,o=Nc (Qc g cap) n l r:=⟨_,rfl⟩;obtain⟨j,p⟩:∃j,j=Ai q:=⟨_,rfl⟩;obtain⟨y,X⟩:∃y,y=(Sh l).toArray:=⟨_,rfl⟩;obtain⟨z,Y⟩:∃z,z=(Sh r).toArray:=⟨_,rfl⟩;obtain⟨E,Z⟩:∃E,E=Ex (Iv l q):=⟨_,rfl⟩;obtain⟨F,aa⟩:∃F,F=Ex (Iv r q):=⟨_,rfl⟩;obtain⟨G,ab⟩:∃G,G=Kr n l r q:=⟨_,rfl⟩;have a6:xR (∀w,Calls prog 253 #[.agg y,.agg j] w fun e w'=>e=.returned E∧Ab No w w'):=by subst X p Z;exact fun w=>NN l q N.o.l6 w
 have a7:xR (∀w,Calls prog 253 #[.agg z,.agg j] w fun e w'=>e=.returned F∧Ab No w w'):=by subst Y p aa;exact fun w=>NN r q N.o.r6 w
 have a8:xR (∀w,Calls prog 252 #[.int .i64 (n:Int),E,F] w fun e w'=>e=.returned (.bool G)∧Ab No w w'):=by subst Z aa ab;obtain⟨b0,b1,b2⟩:=N.o.ok ay.o;exact fun w=>UZ n _ _ b0 b1 b2 w
 have a9:xR (∀w:World,C2 w b o 277→(loadVar 135 ⟨b,2,none⟩).run prog w=.ok (.agg y) w):=by subst v X;exact fun w h=>run_loadVar_mid w b 2 135 (Sh l) _ (NY h) underlying135 rfl Pb
 have ba:xR (∀w:World,C2 w b o 277→(loadVar 135 ⟨b,10,none⟩).run prog w=.ok (.agg z) w):=by subst v Y;exact fun w h=>run_loadVar_mid w b 10 135 (Sh r) _ (NZ h) underlying135 rfl Pb
 have ac:xR (∀w:World,C2 w f.heap.size j 154→(loadVar 154 ⟨f.heap.size,0,none⟩).run prog w=.ok (.agg j) w):=by subst p;exact fun w h=>run_loadVar_row w f.heap.size 154 154 (Ai q) (0,0) _ h underlying154 rfl (by rw[Bd];exact Cp)
 have bb:xR (∀w:World,C2 w b o 277→C3 w b 1 (.int .i64 (n:Int))):=by subst v;exact fun w h=>(Af h 1).trans rfl
 rw[←v,←p] at D;have b3:=Ae p;have bc:=Ae ab;clear v X Y Z aa ay U p ab;refine wp_region_held_drew (S:=fun w'=>w'.heap[b]? =some (.cells o 277 (0,0))∧w'.heap[f.heap.size]? =some (.cells j 154 (0,0))) (by kernel_rfl) D.o (fun a=>?_);refine An 0 (C1 b) a ?_;refine An 1 (C1 b) a ?_;refine An 2 (.pointer (some ⟨b,1,none⟩)) a ?_;refine Iq 3 (.int .i64 (n:Int)) 129 (.tmp 17) (b) (1) (fun w h=>bb.o w h.1) a ?_
 try simp only[Act.put,Ar,As,Au,Av,Aw,Ax]
 refine An 4 (C1 b) a ?_;refine An 5 (C1 b) a ?_;refine An 6 (.pointer (some ⟨b,2,none⟩)) a ?_;refine Ha 7 (.agg y) 135 (.tmp 21) (b) (2) (fun w h=>a9.o w h.1) a ?_
 try simp only[Act.put,Ar,As,Au,Av,Aw,Ax]
 refine Ha 8 (.agg j) 154 (.tmp 5) (f.heap.size) (0) (fun w h=>ac.o w h.2) a ?_;refine An 10 (C1 b) a ?_;refine An 11 (C1 b) a ?_;refine An 12 (.pointer (some ⟨b,10,none⟩)) a ?_
 try simp only[Act.put,Ar,As,Au,Av,Aw,Ax]
 refine Ha 13 (.agg z) 135 (.tmp 27) (b) (10) (fun w h=>ba.o w h.1) a ?_;refine Ha 14 (.agg j) 154 (.tmp 5) (f.heap.size) (0) (fun w h=>ac.o w h.2) a ?_
 try simp only[Act.put,Ar,As,Au,Av,Aw,Ax]
 have bd:xR (Ab No W W.drew):=(Ab.refl No W).drew;refine C0 9 (fun K m=>?_);go_simp;go_call a6.o _ as e w3 ⟨rfl,H⟩;have be:C2 w3 b o 277∧C2 w3 f.heap.size j 154:=⟨(H.block b (Aa a.1) xT).trans a.1,(H.block _ (Aa a.2) xT).trans a.2⟩;have bf:xR (Ab No W w3):=bd.o.seq H;refine m.out _ _ be (fun a=>?_);clear m K H
 refine C0 15 (fun K m=>?_);go_simp;go_call a7.o _ as e w4 ⟨rfl,I⟩;have bg:C2 w4 b o 277∧C2 w4 f.heap.size j 154:=⟨(I.block b (Aa a.1) xT).trans a.1,(I.block _ (Aa a.2) xT).trans a.2⟩;have bh:xR (Ab No W w4):=bf.o.seq I;refine m.out _ _ bg (fun a=>?_);clear m K I
 refine C0 16 (fun K m=>?_);go_simp;go_call a8.o _ as e w5 ⟨rfl,J⟩;have bi:C2 w5 b o 277∧C2 w5 f.heap.size j 154:=⟨(J.block b (Aa a.1) xT).trans a.1,(J.block _ (Aa a.2) xT).trans a.2⟩;have bj:xR (Ab No W w5):=bh.o.seq J;refine m.out _ _ bi (fun a=>?_);clear m K J;refine wpAnyH_done (by kernel_rfl) ?_ _;clear be bg bi bf bh a6 a7 a8 a9 ba ac bb;have L:xR (Ab No f w5):=V.o.seq bj.o;have b4:=Ae a.2;clear a V bj bd D
 try simp only[Act.put,Ar,As,Au,Av,Aw,Ax]
 have bk:xR (D5 w5 c (w.heap.size+1) (Ad d) (es++[(q,t)]) B):=T.o.kept L.o xT xT;have ad:xR (Ak w5 w.heap.size (Cw (Kr n l r) es)):=a1.o.kept L.o xT;have bl:xR (Ab No w w5):=az.o.seq L.o;clear L T a1 az;cases G with
 |false =>
  have ae:xR (Ak w5 w.heap.size (Cw (Kr n l r) (es++[(q,t)]))):=by show Ak _ _ _;rw[BL,←bc.o];simpa using ad.o
  go_wp21;go_roundg B
  case measure=>exact aw
  exact⟨es++[(q,t)],bk,ae,bl⟩
 |true =>
  have bm:=Ae (G9 w.heap.size (Cw (Kr n l r) es) q t w5 ad.o ax.o bx.o);have p:=b3.o;subst p;go_wp2_with (first
   |(refine C7 _ rfl rfl f.heap.size rfl q b4.o ?_)
   |fail)
  go_call bm.o as e w6 ⟨rfl,bn,af⟩;have ae:xR (Ak w6 w.heap.size (Cw (Kr n l r) (es++[(q,t)]))):=by
   show Ak _ _ _;rw[BL,←bc.o];refine bn.eqv (fun x=>?_) (fun x s=>?_)
   ·simp only[Ah,if_true,cnt];omega
   rcases tW.1 s with s|s
   ·exact ad.o.1 x s
   simp at s;subst s;exact ax.o
  have b5:xR (D5 w6 c (w.heap.size+1) (Ad d) (es++[(q,t)]) B):=bk.o.kept af (fun e=>by omega) (fun e=>by omega);have b6:xR (Ab No w w6):=bl.o.trans af (fun _ e=>e) (fun i hi e=>by omega);clear bn af bm;go_wp21;go_roundg B
  case measure=>exact aw
  exact⟨es++[(q,t)],b5,ae,b6⟩
theorem nL:M9 275 258:=⟨fun _ _=>by kernel_rfl,fun _ _=>by kernel_rfl,enters_of func258 (by kernel_rfl) rfl⟩
theorem BM {ty:TypeId}{f:Nat}{p:Addr}{A:Nat→Prop}{ts:List Bool}{Gd:Bag→Prop}{R:World→Ow→Bag→Prop}(i:C9 ty f p A ts Gd R)(b n:Nat)(l r:Dk)(us:List Bool)(hO:bR us l r)(C:¬A (b+2)) :
 C9 275 258 ⟨b,0,none⟩ (fun a=>A a∨a=b+2) us (fun B=>B2 us B∧Gd (Cw (Kr n l r) B)) (fun w O B=>R w O (Cw (Kr n l r) B)∧Sl w O b (.iface ty (.pointer (some p))) n l r) where
 zero:=fun h=>h.elim i.zero (by omega)
 one:=fun h=>h.elim i.one (by omega)
 ok:=fun h=>h.1
 gde:=fun h e=>⟨h.1.eqv e,i.gde h.2 (Iw e)⟩
 stab:=fun h D m=>⟨i.stab h.1 D fun k j s=>m k j (s.imp .inl id),h.2.stab fun k j e=>m k j (.inl (.inr e))⟩
 eqv:=fun h e=>⟨i.eqv h.1 (Iw e),h.2⟩
 met:=nL
 run:=by rintro w O B d c ⟨E,F⟩ ⟨G,u⟩ ⟨H,t⟩ I X;have v:=G.chg H;obtain⟨J,g,cap,q,hg⟩:=F;refine bS b c n g cap l r us hO d w _ q v I fun w3 es K s m=>?_;have L:A9 (Cw (Kr n l r) es) (Cw (Kr n l r) d):=Iw (K.eqv v);rw[Mq] at t;have M:=(i.ok u).chg (i.ok t);have x:C2 w3 b (Nc (Qc g cap) n l r) 277:=(m.block b (Aa q) xT).trans q;have N:w3.heap[g]? =w.heap[g]? :=m.block g hg.lt xT;have y:O6 w3 (oN w O) b g (.iface ty (.pointer (some p))):=hg.stab ⟨N,Gx hg.lt⟩;have P:Ak w3 w.heap.size (Ad (Cw (Kr n l r) d)):=s.eqv (L.trans (Bc _).symm) M.gR;have Q:R w3 (oN w O) (Cw (Kr n l r) B):=i.kept E m (fun _ e=>e.elim) (fun k j=>Gx j);refine (i.give (b:=b) (c:=w.heap.size) (g:=g) (o:=0) (cap:=cap) ((Af x 0).trans rfl) y.cell Q u t P (by rw[Yi (tY _)];exact i.zero)).mono fun e w4 z=>⟨z.1,?_⟩;refine Fb.up (b:=b) m.any z fun S T U V=>⟨by rw[Mq];exact V,?_⟩;have W:∀k,k<w3.heap.size→oN w O k=b+2→w4.heap[k]? =w3.heap[k]?∧S k=oN w O k:=fun k j e=>⟨U.block k j (by rw[e];exact C),T k j⟩;exact Sl.stab ⟨by rw[Gx (Aa q)];exact J,g,cap,x,y⟩ W
end Go.Proofs.YtdinjjmcmfjbfaaGreatDoor
