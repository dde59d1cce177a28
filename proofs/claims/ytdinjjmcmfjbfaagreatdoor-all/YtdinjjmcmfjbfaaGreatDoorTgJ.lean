import Derived.Test.YtdinjjmcmfjbfaaGreatDoorNjJ
set_option maxRecDepth 100000
set_option maxHeartbeats 4000000
namespace Go.Proofs.YtdinjjmcmfjbfaaGreatDoor
open Go.RowKit Go.Shelf Mo Pl Tryz
def sC (w:World)(sv:Value)(Ts:List Value):Prop:=∃g cap cs z,sv=.slice (some ⟨g,0,none⟩) Ts.length cap∧w.heap[g]? =some (.cells cs 143 z)∧∀(i:Nat) (T:Value),Ts[i]? =some T→cs[i]? =some T
def Ul (tb:TypeId)(c0:Array Value)(T:Value)(out:Nat→List Value)(w:World)(e:Ending)(w':World):Prop :=
 ∃sv v',e=.returned sv∧w'.heap[w.heap.size]? =some (.cells (c0.setIfInBounds 0 v') tb (0,0))∧w'.ownsRow 0 143 1 v' 1 [T]∧(∀k,v'.ownBlock=some k→w.heap.size<k)∧sC w' sv (out w.heap.size)∧(∀g,sv.ownBlock=some g→w.heap.size<g∧v'.ownBlock≠some g)∧Ab No w w'
structure Vl (tt:TypeId):Prop where
 nil:∀(b:Nat) (w:World),(nilAhead 496 tt (.pointer (some ⟨b,0,none⟩)) "ripple/ripple.giveTo").run prog w=.ok (some false) w
 met:∀(b:Nat) (w:World),(method 496 tt (.pointer (some ⟨b,0,none⟩)) "ripple/ripple.giveTo").run prog w=.ok (64,.pointer (some ⟨b,0,none⟩)) w
theorem cM:Vl 275:=⟨fun _ _=>by kernel_rfl,fun _ _=>by kernel_rfl⟩
theorem VY:Vl 278:=⟨fun _ _=>by kernel_rfl,fun _ _=>by kernel_rfl⟩
theorem VZ:Vl 281:=⟨fun _ _=>by kernel_rfl,fun _ _=>by kernel_rfl⟩
theorem cN:Vl 284:=⟨fun _ _=>by kernel_rfl,fun _ _=>by kernel_rfl⟩
theorem cO:Vl 287:=⟨fun _ _=>by kernel_rfl,fun _ _=>by kernel_rfl⟩
theorem Q8 (P:Nat)(h:Hd)(V:h.k≤7)(_:h.k≠4)(I:yC h.k=1∨yC h.k=2)(lv iv:Value)(c tb:TypeId)(J:tb≠143)(W:Vl c)(n:Array Value)(X:n[0]? =some sN)(ty:TypeId)(p:Addr)(w:World)(v:C2 w P (Bb h lv iv) 139)
 (K:Calls prog 113 #[C1 P] w (BZ c tb n w)) :
 Calls prog 65 #[C1 P,.iface ty (.pointer (some p))] w (Ul tb n (.iface ty (.pointer (some p))) (fun b=>List.replicate (yC h.k) (.iface c (C1 b))) w):=by
 have Y:=(Ay v).1;have af:((h.k:Int) == 4)=false:=by simp;omega
 have Z:=Ae v;have aa:=Aa v;have ab:=Ae K;have ag:=W.met;have ac:=Ae (Ya h.k V);have l:=I;clear v K I;go_enter func65,ntmps65;go_wp21;go_call ab.o as e w1 ⟨rfl,L,M⟩;have N:=Ae (Td w.heap.size n tb J sN [] ty p w1 L X (World.ownsRow_nil _ _ _ _) (by simp));have O:=Ae M;clear L M;go_wp21;go_call N.o as e a ⟨rfl,v',B,C,Q,R⟩;have D:Ab No w a:=O.o.trans R (fun _ e=>e) (fun i hi e=>by
  rcases e with e|e
  ·omega
  cases e)
 have S:=Ae D;have E:C2 a P (Bb h lv iv) 139:=(D.block P aa xT).trans Z.o;have U:C3 (a.alloc (.cells #[.iface c (C1 w.heap.size)] 143)) P 0 (.int .i64 (h.k:Int)):=(World.cell?_of_block (Below.heap_alloc _ _ _ (Aa E))).trans (Ay E).1;have f:=Ae B;have j:=Ae C;have x:xR (∀k,v'.ownBlock=some k→w.heap.size<k):=fun k o=>by
  rcases Q k o with e|e
  ·cases e
  obtain⟨y,z,d⟩:=Bh C o;have ah:k≠w.heap.size:=by rintro rfl;rw[B] at d;injection d with d;injection d with _ d;exact J d
  have:=O.o.size;omega
 have A:xR (C2 (a.alloc (.cells #[.iface c (C1 w.heap.size)] 143)) a.heap.size #[.iface c (C1 w.heap.size)] 143):=heap_alloc_last _ _;clear B C Q R D E N Y;go_wp21;go_call ac.o _ as e w3 ⟨rfl,ad⟩;subst ad;rcases l with l|l
 ·rw[l];have q:=Ae (OI a.heap.size _ c ⟨w.heap.size,0,none⟩ A.o);clear U;go_wp21;go_call q.o as e w5 ⟨rfl,r,s⟩;have t:xR (Ul tb n (.iface ty (.pointer (some p))) (fun b=>List.replicate 1 (.iface c (C1 b))) w (.returned (.slice (some ⟨(a.alloc (.cells #[.iface c (C1 w.heap.size)] 143)).heap.size,0,none⟩) 1 1)) w5):=by
   have m:Ab No a w5:=((Ab.refl No a).alloc _).seq s;refine⟨_,v',rfl,(m.block _ (Aa f.o) xT).trans f.o,X0 j.o (fun k o=>?_),x.o,⟨_,1,_,_,rfl,r,fun i T F=>?_⟩,(fun g hg=>?_),S.o.seq m⟩
   ·obtain⟨y,z,d⟩:=Bh j.o o;exact m.block k (Aa d) xT
   ·simpa using F
   have e:(a.alloc (.cells #[.iface c (C1 w.heap.size)] 143)).heap.size=g:=(by simpa [Value.ownBlock] using hg);have e2:a.heap.size+1=g:=(by simpa using e);have ae:=Aa f.o;refine⟨by omega,fun G=>?_⟩;obtain⟨y,z,d⟩:=Bh j.o G;have:=Aa d;omega
  have u:(a.alloc (.cells #[.iface c (C1 w.heap.size)] 143)).heap.size=a.heap.size+1:=by simp
  rw[u] at t;have H:=Ae l;clear r s q A f j x u;go_wp21;go_ret;rw[H.o];exact t.o
 rw[l];have q:=Ae (OJ a.heap.size _ c ⟨w.heap.size,0,none⟩ A.o);clear U;go_wp21;go_call q.o as e w5 ⟨rfl,r,s⟩;have t:xR (Ul tb n (.iface ty (.pointer (some p))) (fun b=>List.replicate 2 (.iface c (C1 b))) w (.returned (.slice (some ⟨(a.alloc (.cells #[.iface c (C1 w.heap.size)] 143)).heap.size,0,none⟩) 2 2)) w5):=by
  have m:Ab No a w5:=((Ab.refl No a).alloc _).seq s;refine⟨_,v',rfl,(m.block _ (Aa f.o) xT).trans f.o,X0 j.o (fun k o=>?_),x.o,⟨_,2,_,_,rfl,r,fun i T F=>?_⟩,(fun g hg=>?_),S.o.seq m⟩
  ·obtain⟨y,z,d⟩:=Bh j.o o;exact m.block k (Aa d) xT
  ·simpa [List.replicate] using F
  have e:(a.alloc (.cells #[.iface c (C1 w.heap.size)] 143)).heap.size=g:=by simpa [Value.ownBlock] using hg
  have e2:a.heap.size+1=g:=by simpa using e
  have ae:=Aa f.o;refine⟨by omega,fun G=>?_⟩;obtain⟨y,z,d⟩:=Bh j.o G;have:=Aa d;omega
 have u:(a.alloc (.cells #[.iface c (C1 w.heap.size)] 143)).heap.size=a.heap.size+1:=by simp
 rw[u] at t;have H:=Ae l;clear r s q A f j x u;go_wp21;go_ret;rw[H.o];exact t.o
set_option linter.unusedSimpArgs false
def JS (b o:Nat):Value:=.iface 236 (.pointer (some ⟨b,o,none⟩))
theorem WC (P:Nat)(h:Hd)(N:h.k=4)(lv iv:Value)(ty:TypeId)(p:Addr)(w:World)(j:C2 w P (Bb h lv iv) 139) :
 Calls prog 65 #[C1 P,.iface ty (.pointer (some p))] w (Ul 240 (jC sN (.map none) (.map none) (Ce h.l) (Ce h.r) w.heap.size) (.iface ty (.pointer (some p))) (fun b=>[JS b 1,JS b 6]) w):=by
 have z:=(Ay j).1;rw[N] at z;have A:=Ae j;have O:=Aa j;have r:xR (∀w:World,C2 w P (Bb h lv iv) 139→C3 w P 4 (.int .i64 (Ce h.l:Int))):=fun w s=>(Af s 4).trans rfl;have t:xR (∀w:World,C2 w P (Bb h lv iv) 139→C3 w P 12 (.int .i64 (Ce h.r:Int))):=fun w s=>(Af s 12).trans rfl;clear j;generalize Ce h.l=n at r⊢;generalize Ce h.r=m at t⊢;go_enter func65,ntmps65;go_wp21;clear z;refine wp_region_held_drew (S:=fun w'=>w'.heap[P]? =some (.cells (Bb h lv iv) 139 (0,0))) (by kernel_rfl) A.o (fun a=>?_);refine An 0 (C1 P) a ?_;refine An 1 (C1 P) a ?_;refine An 2 (.pointer (some ⟨P,3,none⟩)) a ?_;refine An 3 (.pointer (some ⟨P,4,none⟩)) a ?_
 try simp only[Act.put,Ar,As,Au,Av,Aw,Ax]
 refine Iq 4 (.int .i64 (n:Int)) 3 (.tmp 15) (P) (4) (fun w h=>r.o w h) a ?_;refine An 5 (C1 P) a ?_;refine An 6 (C1 P) a ?_;refine An 7 (.pointer (some ⟨P,11,none⟩)) a ?_
 try simp only[Act.put,Ar,As,Au,Av,Aw,Ax]
 refine An 8 (.pointer (some ⟨P,12,none⟩)) a ?_;refine Iq 9 (.int .i64 (m:Int)) 3 (.tmp 20) (P) (12) (fun w h=>t.o w h) a ?_;refine C0 10 (fun K f=>?_);go_simp;go_call JR n m _ as e w1 ⟨rfl,B,C⟩;have u:Ab No w w1:=((Ab.refl No w).drew).seq C;have D:=Ae u;have E:xR (C2 w1 w.heap.size (jC sN (.map none) (.map none) n m w.heap.size) 240):=B;refine f.out _ _ ((u.block P O xT).trans A.o) (fun a=>?_);clear f K B C u
 refine An 11 (C1 w.heap.size) a ?_
 try simp only[Act.put,Ar,As,Au,Av,Aw,Ax]
 refine wpAnyH_done (by kernel_rfl) ?_ _;clear a r t
 try simp only[Act.put,Ar,As,Au,Av,Aw,Ax]
 have F:=Ae (Td w.heap.size _ 240 (by decide) sN [] ty p w1 E.o rfl (World.ownsRow_nil _ _ _ _) (by simp));clear E;go_wp21;go_call F.o as e d ⟨rfl,v',v,x,G,H⟩;have I:Ab No w d:=D.o.trans H (fun _ e=>e) (fun i hi e=>by
  rcases e with e|e
  ·omega
  cases e)
 have Q:=Ae I;have l:=Ae v;have o:=Ae x;have J:xR (∀k,v'.ownBlock=some k→w.heap.size<k):=fun k q=>by
  rcases G k q with e|e
  ·cases e
  obtain⟨L,M,c⟩:=Bh x q;have W:k≠w.heap.size:=by rintro rfl;rw[v] at c;injection c with c;injection c with _ c;exact absurd c (by decide)
  have:=D.o.size;omega
 clear v x G H I F;go_wp21;refine wp_region_held_drew (S:=fun _=>True) (by kernel_rfl) trivial (fun a=>?_);refine An 0 (C1 w.heap.size) a ?_;refine An 1 (C1 w.heap.size) a ?_;refine An 2 (.pointer (some ⟨w.heap.size,1,none⟩)) a ?_;refine An 3 (.iface 236 (.pointer (some ⟨w.heap.size,1,none⟩))) a ?_
 try simp only[Act.put,Ar,As,Au,Av,Aw,Ax]
 refine An 4 (C1 w.heap.size) a ?_;refine An 5 (C1 w.heap.size) a ?_;refine An 6 (.pointer (some ⟨w.heap.size,6,none⟩)) a ?_;refine An 7 (.iface 236 (.pointer (some ⟨w.heap.size,6,none⟩))) a ?_
 try simp only[Act.put,Ar,As,Au,Av,Aw,Ax]
 refine C0 8 (fun K f=>?_);go_simp;refine f.out _ _ trivial (fun a=>?_);clear f K
 try simp only[Act.put,Ar,As,Au,Av,Aw,Ax]
 have R:xR (Ul 240 (jC sN (.map none) (.map none) n m w.heap.size) (.iface ty (.pointer (some p))) (fun b=>[JS b 1,JS b 6]) w (.returned (.slice (some ⟨d.heap.size,0,none⟩) 2 2)) ((d.alloc (.cells #[.iface 236 (.pointer (some ⟨w.heap.size,1,none⟩)),.iface 236 (.pointer (some ⟨w.heap.size,6,none⟩))] 143)).drew)):=by
  have y:Ab No d ((d.alloc (.cells #[.iface 236 (.pointer (some ⟨w.heap.size,1,none⟩)),.iface 236 (.pointer (some ⟨w.heap.size,6,none⟩))] 143)).drew):=((Ab.refl No d).alloc _).drew;refine⟨_,v',rfl,(y.block _ (Aa l.o) xT).trans l.o,X0 o.o (fun k q=>?_),J.o,⟨_,2,_,_,rfl,heap_alloc_last _ _,fun i T U=>?_⟩,(fun g hg=>?_),Q.o.seq y⟩
  ·obtain⟨L,M,c⟩:=Bh o.o q;exact y.block k (Aa c) xT
  ·simpa [JS] using U
  have e:d.heap.size=g:=by simpa [Value.ownBlock] using hg
  have X:=Aa l.o;refine⟨by omega,fun V=>?_⟩;obtain⟨L,M,c⟩:=Bh o.o V;have:=Aa c;omega
 refine An 9 (.slice (some ⟨d.heap.size,0,none⟩) 2 2) a ?_;refine wpAnyH_done (by kernel_rfl) ?_ _;clear a l o J
 try simp only[Act.put,Ar,As,Au,Av,Aw,Ax]
 go_wp21;go_ret;exact R.o
def Gy (w:World)(v:Value)(ts:List (Nat×List UInt8)):Prop:=∃a cap,v=.slice a ts.length cap∧ts.length≤cap∧cap≤maxLen ∧
 ∀i x,ts[i]? =some x→∃b o,a=some ⟨b,o,none⟩∧b<w.heap.size∧x.1<w.heap.size∧w.cell? ⟨b,o+i,none⟩=some (.pointer (some ⟨x.1,0,none⟩))∧w.cell? ⟨x.1,2,none⟩=some (.string ⟨x.2.toArray⟩)
theorem Gy.kept {w w':World}{v:Value}{ts:List (Nat×List UInt8)}(h:Gy w v ts)(k:Ab No w w'):Gy w' v ts:=by
 obtain⟨a,cap,e,f,g,j⟩:=h;refine⟨a,cap,e,f,g,fun i x l=>?_⟩;obtain⟨b,o,e1,c,d,m,n⟩:=j i x l;exact⟨b,o,e1,tU c k.size,tU d k.size,(k.cell c xT).trans m,(k.cell d xT).trans n⟩
def Bz:List (Nat×List UInt8)→List UInt8→Int
 | [],_=> -1
 |x::ts,nm=>if x.2=nm then 0 else if Bz ts nm= -1 then -1 else Bz ts nm+1
theorem Oe:∀(ts:List (Nat×List UInt8)) (nm:List UInt8),-1≤Bz ts nm
 | [],_=>by simp[Bz]
 |x::ts,nm=>by have:=Oe ts nm;simp only[Bz];split <;> (try split) <;> omega
def Of (ts:List (Nat×List UInt8))(nm:List UInt8)(i:Nat):Int:=if Bz (ts.drop i) nm= -1 then -1 else Bz (ts.drop i) nm+i
theorem CA {ts:List (Nat×List UInt8)}{nm:List UInt8}{i:Nat}{x:Nat×List UInt8}(h:ts[i]? =some x)(a:x.2=nm):Of ts nm i=i:=by
 unfold Of;rw[vF (tR.1 h).1,(tR.1 h).2];simp[Bz,a]
theorem Y8 {ts:List (Nat×List UInt8)}{nm:List UInt8}{i:Nat}{x:Nat×List UInt8}(h:ts[i]? =some x)(b:x.2≠nm):Of ts nm i=Of ts nm (i+1):=by
 unfold Of;rw[vF (tR.1 h).1,(tR.1 h).2];have:=Oe (ts.drop (i+1)) nm;simp only[Bz,if_neg b];by_cases a:Bz (ts.drop (i+1)) nm= -1
 ·simp[a]
 rw[if_neg a,if_neg a,if_neg (by omega)];omega
theorem CB (ts:List (Nat×List UInt8))(nm:List UInt8):Of ts nm ts.length= -1:=by unfold Of;rw[List.drop_length];rfl
theorem Y9 (ts:List (Nat×List UInt8))(nm:List UInt8):Of ts nm 0=Bz ts nm:=by unfold Of;rw[List.drop_zero];split <;> omega
theorem CC (l:List UInt8):(⟨l.toArray⟩:ByteArray).toList=l:=by rw[ByteArray.toList_eq]
theorem WD (tb b:Nat)(a nm:ByteArray)(w:World)(_:C3 w tb 2 (.string a))(_:C3 w b 0 (.string nm)) :
 Calls prog 99 #[C1 tb,.pointer (some ⟨b,0,none⟩)] w fun e w'=>e=.returned (.bool (a.toList == nm.toList))∧Ab No w w':=by
 go_enter func99,ntmps99;go_wp21;go_quiet (fail);go_wp21;go_ret;exact⟨rfl,(Ab.refl _ _).drewN _⟩
theorem AQ (v:Value)(ts:List (Nat×List UInt8))(d:Nat)(nm:List UInt8)(w:World)(h:Gy w v ts)(C:ts.length≤1000)(hB:d<w.heap.size)(s:C3 w d 0 (.string ⟨nm.toArray⟩)) :
 Calls prog 98 #[v,.func (.func 99) #[] #[C1 d]] w fun e w'=>e=.returned (.int .i64 (Bz ts nm))∧Ab No w w':=by
 have t:=Ae h;obtain⟨a,cap,rfl,D,u,_⟩:=h;have E:=Ae s;obtain⟨n,f⟩:∃n,ts.length=n:=⟨_,rfl⟩;have j:=Ae f;rw[f] at D C;rw[f] at t;rw[f];clear f s;have L:=Bn u
 clear u;have M:∀args w,(callFunc 99 args).run prog w=.ok (.enter 99 args) w:=enters_of func99 (by kernel_rfl) rfl;go_enter func98,ntmps98;go_wp21;go_loopg [8] n (fun k F wr=>∃i:Nat,i+k=n∧F=.int .i64 (i:Int)∧xR (Of ts nm i=Bz ts nm)∧Ab No w wr)
 case atStart=>exact⟨0,by omega,rfl,Ae (Y9 ts nm),Ab.refl _ _⟩
 obtain⟨i,_,rfl,l,c⟩:=hrel;by_cases G:gk=0
 ·subst G;have H:¬(i:Int)<(n:Int):=by omega
  have m:xR (Bz ts nm= -1):=by show _=_;rw[←l.o,show i=ts.length by rw[j.o];omega];exact CB ts nm
  have p:=Ae c;clear c;go_wp21;go_ret;exact⟨Bo m.o.symm,p.o⟩
 obtain⟨k,rfl⟩:=Bx G;have H:(i:Int)<(n:Int):=by omega
 have N:=Bm i
 obtain⟨x,q⟩:∃x,ts[i]? =some x:=⟨_,tT (by have:=j.o;omega)⟩;have y:Gy w (.slice a ts.length cap) ts:=by have:=t.o;rw[←j.o] at this;exact this
 obtain⟨_,_,I,_,_,z⟩:=y.kept c;injection I with e1 e2 e3;subst e1;obtain⟨b,o,rfl,_,_,c1,c2⟩:=z i x q;have J:C3 wr d 0 (.string ⟨nm.toArray⟩):=(c.cell hB xT).trans E.o;have p:=Ae c;clear c z y e2 e3;go_wp21;go_call WD x.1 d _ _ _ c2 J as e w1 ⟨rfl,A⟩;have B:xR (Ab No w w1):=p.o.seq A;clear A;by_cases g:x.2=nm
 ·have r:((⟨x.2.toArray⟩:ByteArray).toList == (⟨nm.toArray⟩:ByteArray).toList)=true:=by rw[g];simp
  have m:xR (Bz ts nm=i):=by show _=_;rw[←l.o];exact CA q g
  rw[r];go_wp21;go_ret;exact⟨Bo m.o.symm,B.o⟩
 have r:((⟨x.2.toArray⟩:ByteArray).toList == (⟨nm.toArray⟩:ByteArray).toList)=false:=by rw[beq_eq_false_iff_ne];intro e;apply g;rw[CC,CC] at e;exact e
 have K:xR (Of ts nm (i+1)=Bz ts nm):=by show _=_;rw[←l.o,Y8 q g]
 rw[r];go_wp21;go_roundg k
 case measure=>omega
 exact⟨i+1,by omega,by go_num,K,B.o⟩
theorem Kb (v:Value)(ts:List (Nat×List UInt8))(nm:List UInt8)(w:World)(h:Gy w v ts)(b:ts.length≤1000) :
 Calls prog 60 #[v,.string ⟨nm.toArray⟩] w fun e w'=>e=.returned (.int .i64 (Bz ts nm))∧Ab No w w':=by
 have c:=Ae h;clear h;have a:Ab No w (w.alloc (.cells #[.string ⟨nm.toArray⟩] 9)):=(Ab.refl _ _).alloc _;have d:=Ae (AQ v ts w.heap.size nm _ (c.o.kept a) b (by simp) (by show _=_;rw[Af (MapKept.heap_alloc w _).1];rfl));have f:=Ae a;clear a;go_enter func60,ntmps60;go_wp21;go_call d.o as e w1 ⟨rfl,g⟩;go_wp21;go_ret;exact⟨rfl,f.o.seq g⟩
end Go.Proofs.YtdinjjmcmfjbfaaGreatDoor
