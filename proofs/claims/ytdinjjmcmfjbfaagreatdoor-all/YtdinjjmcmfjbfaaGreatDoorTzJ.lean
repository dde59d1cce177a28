import Derived.Test.YtdinjjmcmfjbfaaGreatDoorDwJ
set_option maxRecDepth 100000
set_option maxHeartbeats 4000000
namespace Go.Proofs.YtdinjjmcmfjbfaaGreatDoor
open Go.RowKit Go.Shelf Mo Pl Tryz
def Jm (us:List Bool):List Value:=us.map fun t=>Value.int .i32 (Tj t)
def Gm (us:List Bool)(cs:List Nat):List Bool:=cs.map fun c=>us.getD c false
theorem EX:(prog.info? 130).map (fun i=>(i.zero,i.size,i.bytes))=some (some (.int .i32 0),1,4):=by kernel_rfl
theorem Nl.I1 {w:World}{base:Nat}{v:Value}{us:List Bool}(h:w.ownsRow base 130 1 v us.length (Jm us))(b:us≠[]):Nl w v us:=by
 rcases h.2 with ⟨_,c⟩|⟨g,cap,cur,rfl,_,hg,hc1,hc2,hc3,hc4⟩
 ·exact absurd (uM c) b
 refine⟨g,0,cap,rfl,⟨_,_,hg⟩,hc1,hc2,fun i t hi=>?_⟩;have d:i<us.length:=(tR.1 hi).1;have a:(cur.toList.take (us.length*1))[i]? =some (.int .i32 (Tj t)):=by rw[hc4];unfold Jm;rw[tX,hi];rfl
 rw[uQ,if_pos (by omega)] at a;rw[Af hg,uL];simpa using a
theorem jQ {w:World}{lv:Value}{cs:List Nat}(h:w.ownsRow 0 3 1 lv cs.length (Gp cs)):Gg w lv cs:=by
 rcases h.2 with ⟨e,b⟩|⟨g,cap,cur,rfl,_,hg,hc1,_,hc2,hc3⟩
 ·exact .inl ⟨e,uM b⟩
 refine .inr ⟨g,0,cap,rfl,Aa hg,fun i c hi=>?_⟩;have d:i<cs.length:=(tR.1 hi).1;have a:(cur.toList.take (cs.length*1))[i]? =some (.int .i64 (c:Int)):=by rw[hc3];unfold Gp;rw[tX,hi];rfl
 rw[uQ,if_pos (by omega)] at a;rw[Af hg,uL];simpa using a
def Gz (us:List Bool)(cs:List Nat):Bool:=cs.all fun c=>decide (c<us.length)
def Vo (us:List Bool)(cs:List Nat)(w:World)(e:Ending)(w':World):Prop :=
 Ab No w w'∧(Gz us cs=true∧(∃v,e=.returned (.tuple #[v,.bool true])∧w'.ownsRow w.heap.size 130 1 v (Gm us cs).length (Jm (Gm us cs))) ∨
  Gz us cs=false∧e=.returned (.tuple #[.slice none 0 0,.bool false]))
theorem WT {us:List Bool}{cs:List Nat}{i c:Nat}(h:cs[i]? =some c)(_:us.length≤c):Gz us cs=false:=by
 rw[Gz,xK];exact⟨c,tV h,by simp;omega⟩
theorem R0 (us:List Bool)(cs:List Nat):(Gm us cs).length=cs.length:=by simp[Gm]
theorem Ze (P:Nat)(h:Hd)(lv iv tv:Value)(us:List Bool)(cs:List Nat)(w:World)(A:C2 w P (Bb h lv iv) 139)(f:Gg w lv cs)(K:cs.length≤6)(g:∀c∈cs,c<10)(B:Nl w tv us) :
 Calls prog 108 #[C1 P,tv] w (Vo us cs w):=by
 have L:=(Ay A).2.2.1;obtain⟨va,_,rfl⟩:=f.is;have C:=Ae f;have M:=Ae B;have N:=Ae g;obtain⟨b,o,cap,rfl,j,O,D,E⟩:=B;replace j:=j.lt;obtain⟨n,l⟩:∃n,cs.length=n:=⟨_,rfl⟩;have p:=Ae l;rw[l] at L C K;obtain⟨m,q⟩:∃m,us.length=m:=⟨_,rfl⟩;have r:=Ae q;rw[q] at M O⊢;obtain⟨Q,R,S,T,U⟩:=info_parts EX;have ai:=Bn D
 have V:=Ae E;clear A l q f D E g;go_enter func108,ntmps108;go_wp21;go_loopg [6,14] n (fun k W X wr=>∃i:Nat,i+k=n∧X=.int .i64 (i:Int)∧xR (wr.ownsRow w.heap.size 130 1 W (Gm us (cs.take i)).length (Jm (Gm us (cs.take i))))∧xR (Gz us (cs.take i)=true)∧xR (Ab No w wr))
 case atStart=>exact⟨0,by omega,rfl,Ae (World.ownsRow_nil _ _ _ _),Ae rfl,Ae (Ab.refl _ _)⟩
 obtain⟨i,_,rfl,hO,F,a⟩:=hrel;cases gk with
 |zero =>
  have s:¬(i:Int)<(n:Int):=by omega
  have G:xR (cs.take i=cs):=uW (by have:=p.o;omega);go_wp21;go_ret2;refine⟨a.o,.inl ⟨by rw[←G.o];exact F.o,_,rfl,?_⟩⟩;have:=hO.o;rw[G.o] at this;exact this
 |succ k =>
  have s:(i:Int)<(n:Int):=by omega
  have aj:=Bm i
  obtain⟨c,d⟩:∃c,cs[i]? =some c:=⟨_,tT (by have:=p.o;omega)⟩;have g:=N.o c (tV d);have ak:=Bm c
  have u:=Ae d;rcases C.o with ⟨e1,e2⟩|⟨ib,io,icap,e,hib,hcell⟩
  ·rw[e2] at d;simp at d
  injection e with e1 e2 e3;subst e1 e3;have g0:C3 wr ib (io+i) (.int .i64 (c:Int)):=(a.o.cell hib xT).trans (hcell i c d);clear hcell d e2;by_cases al:c<m
  ·have Y:(c:Int)<(m:Int):=(by omega);have am:¬(m:Int)≤(c:Int):=(by omega);obtain⟨t,v⟩:∃t,us[c]? =some t:=⟨_,tT (by have:=r.o;omega)⟩;have Z:C3 wr b (o+c) (.int .i32 (Tj t)):=(a.o.cell j xT).trans (V.o c t v);have y:=hO.o;have H:(Gm us (cs.take i)).length=i:=(by rw[R0,uV];have:=p.o;omega);have aa:xR (Gm us (cs.take (i+1))=Gm us (cs.take i)++[t]):=(by show _=_;rw[uI,u.o];unfold Gm;rw[uF];simp[v]);have ab:xR (Gz us (cs.take (i+1))=true):=(by show _=_;rw[uI,u.o];unfold Gz;rw[xP];have I:=F.o;unfold Gz at I;rw[I];have:=r.o;simp;omega);have an:=a.o.size;rw[H] at y;have ac:=Ae y;clear v;obtain⟨zt,z⟩:∃ad,Tj t=ad:=⟨_,rfl⟩;have ae:=Ae z;rw[z] at Z;clear z;go_wp2_with (first
    |(at_builtin;refine wpList_append_own_at _ rfl _ _ 78 rfl w.heap.size 130 Q (.int .i32 0) 1 4 underlying78 R S T U rfl (by decide) _ _ _ rfl (y.alloc _) ⟨wr.heap.size,0,none⟩ 1 1 [.int .i32 zt] rfl rfl (World.news_of_block (cs:=#[.int .i32 zt]) (t:=130) (fr:=(0,0)) (heap_alloc_last wr _)) (by intro ao J;simp at J;subst J;rfl) (by unfold maxLen;omega) (by omega) (by simp;omega) ?_;intro v' w5 af ag _ _)
    |fail)
   go_roundg k
   case measure=>omega
   have hg:(wr.alloc (.cells #[.int .i32 zt] 130)).grownBy w5 u6.ownBlock:=ag;refine⟨i+1,by omega,by go_num,?_,ab,Ae ((a.o.alloc _).grown hg (fun x s=>.inl (Bk ac.o x s)))⟩;show w5.ownsRow _ _ _ _ _ _;rw[aa.o,tS];unfold Jm;rw[uF,H];show w5.ownsRow _ _ _ _ (i+1) (_++[Value.int .i32 (Tj t)]);rw[ae.o];exact af
  have Y:(m:Int)≤(c:Int):=by omega
  have ah:xR (Gz us cs=false):=WT u.o (by have:=r.o;omega);go_wp21;go_ret2;exact⟨a.o,.inr ⟨ah.o,rfl⟩⟩
theorem dA (av bv:Value)(us vs:List Bool)(w:World)(x:Nl w av us)(y:Nl w bv vs) :
 Calls prog 110 #[av,bv] w fun e w'=>e=.returned (.bool (decide (us=vs)))∧Ab No w w':=by
 have I:=Ae x;have J:=Ae y;obtain⟨a,K,L,rfl,c,M,z,A⟩:=x;obtain⟨b,N,O,rfl,j,P,B,C⟩:=y;replace c:=c.lt;replace j:=j.lt;have Q:=Ae A;have R:=Ae C;obtain⟨n,l⟩:∃n,us.length=n:=⟨_,rfl⟩;obtain⟨m,o⟩:∃m,vs.length=m:=⟨_,rfl⟩;have p:=Ae l;have q:=Ae o;rw[l] at M⊢;rw[o] at P⊢;have V:=Bn z
 have W:=Bn B
 clear z B l o A C I J;by_cases f:n=m
 ·subst f;go_enter func110,ntmps110;go_wp21;go_loopg [13] n (fun k S wr=>∃i:Nat,i+k=n∧S=.int .i64 (i:Int)∧xR (us.take i=vs.take i)∧xR (Ab No w wr))
  case atStart=>exact⟨0,by omega,rfl,Ae rfl,Ae (Ab.refl _ _)⟩
  obtain⟨i,_,rfl,D,d⟩:=hrel;cases gk with
  |zero =>have f:¬(i:Int)<(n:Int):=(by omega);have g:xR (decide (us=vs)=true):=(by show _=_;have c:=D.o;rw[uW (by have:=p.o;omega),uW (by have:=q.o;omega)] at c;simp[c]);go_wp21;go_ret;exact⟨A5 g.o.symm,d.o⟩
  |succ k =>
   have f:(i:Int)<(n:Int):=(by omega);have X:=Bm i;obtain⟨s,r⟩:∃s,us[i]? =some s:=⟨_,tT (by have:=p.o;omega)⟩;obtain⟨t,u⟩:∃t,vs[i]? =some t:=⟨_,tT (by have:=q.o;omega)⟩;have E:C3 wr a (K+i) (.int .i32 (Tj s)):=(d.o.cell c xT).trans (Q.o i s r);have F:C3 wr b (N+i) (.int .i32 (Tj t)):=(d.o.cell j xT).trans (R.o i t u);have G:=Ae r;have g:=Ae u;clear r u;by_cases h:s=t
   ·subst h;have T:xR (us.take (i+1)=vs.take (i+1)):=(by show _=_;rw[uI,uI,G.o,g.o,D.o]);generalize Tj s=U at E F;go_wp21;go_quiet (fail);go_wp21;go_roundg k
    case measure=>omega
    exact⟨i+1,by omega,by go_num,T,Ae (d.o.drewN _)⟩
   have H:(Tj s != Tj t)=true:=(by rw[bne,OY];simp[h]);have v:xR (decide (us=vs)=false):=(by show _=_;rw[decide_eq_false_iff_not];rintro rfl;have:=G.o.symm.trans g.o;exact h (by simpa using this));generalize Tj s=U at E H;generalize Tj t=Y at F H;clear h;go_wp21;go_quiet (fail);go_wp21;go_ret;exact⟨A5 v.o.symm,d.o.drewN _⟩
 have Z:((n:Int) != (m:Int))=true:=by simp;omega
 have v:xR (decide (us=vs)=false):=by show _=_;rw[decide_eq_false_iff_not];rintro rfl;exact f (p.o.symm.trans q.o)
 go_enter func110,ntmps110;go_wp21;go_ret;exact⟨A5 v.o.symm,Ab.refl _ _⟩
theorem OZ (n:Nat)(h:n≤12):Builtin.nextslicecap n 0*4≤281474976710656:=by
 have:∀n,n<13→Builtin.nextslicecap n 0*4≤281474976710656:=by decide
 exact this n (by omega)
def jR (w:World)(e:Ending)(w':World):Prop:=∃v,e=.returned v∧w'.ownsRow w.heap.size 130 1 v 0 []∧Ab No w w'
theorem jT (n:Nat)(_:1≤n)(b:n≤12)(w:World) :
 Calls prog 149 #[.slice none 0 0,.int .i64 (n:Int)] w (jR w):=by
 have e:¬(n:Int)<0:=by omega
 have f:(0:Int)<(n:Int):=by omega
 have c:Tryz.t130.bytes=4:=rfl;have g:¬(281474976710656:Int)<(n:Int)*(Tryz.t130.bytes:Int):=by rw[c];omega
 go_enter func149,ntmps149;go_wp21
 ·exact absurd (OZ n b) (by omega)
 go_ret;have d:n≤(Question.appendCap n 0 130).cut (w.tape w.drawn (Question.appendCap n 0 130)):=grownCap_ge w n 0 130;have a:(Question.appendCap n 0 130).cut (w.tape w.drawn (Question.appendCap n 0 130))≤maxLen:=grownCap_le_maxLen w n 0 130 (by unfold maxLen;omega);generalize (Question.appendCap n 0 130).cut (w.tape w.drawn (Question.appendCap n 0 130))=cap at d a;refine⟨_,rfl,⟨rfl,.inr ⟨w.heap.size,cap,_,rfl,tY _,heap_alloc_last w _,vM _,a,?_,rfl⟩⟩,((Ab.refl No w).alloc _).drew⟩;simp only[Array.size_append,size_zeroCells];simp;omega
def jU (us:List Bool)(w:World)(e:Ending)(w':World):Prop:=∃v,e=.returned v∧w'.ownsRow w.heap.size 130 1 v us.length (Jm us)∧Ab No w w'
theorem JY {us:List Bool}{w:World}{b o:Nat}(h:∀(i:Nat) (t:Bool),us[i]? =some t→C3 w b (o+i) (.int .i32 (Tj t))):∀(j:Nat) (a:Value),(Jm us)[j]? =some a→w.cell? (Addr.add ⟨b,o,none⟩ j)=some a:=fun j a c=>by
 unfold Jm at c;rw[tX] at c;obtain⟨t,d,rfl⟩:=uK.1 c;have:=h j t d;unfold Addr.add;split
 ·next e=>rw[e] at this;exact this
 exact this
theorem PA (b o cap:Nat)(C i:Value)(us vs:List Bool)(w:World)(k:b<w.heap.size)(c1:C3 w b o C)(c2:C3 w b (o+1) i)(D:Nl w C us)(E:Nl w i vs)(Y:1≤us.length)(Z:us.length≤6)(aa:vs.length≤6) :
 Calls prog 109 #[.slice (some ⟨b,o,none⟩) 2 cap] w (jU (us++vs) w):=by
 have F:=Ae D;have G:=Ae E;obtain⟨a1,l,H,rfl,I,-,-,-⟩:=D;obtain⟨a2,g,p,rfl,J,-,-,-⟩:=E;replace I:=I.lt;replace J:=J.lt;obtain⟨n,q⟩:∃n,us.length=n:=⟨_,rfl⟩;obtain⟨m,r⟩:∃m,vs.length=m:=⟨_,rfl⟩;have K:=Ae q;have L:=Ae r;have M:=Ae c1;have s:=Ae c2;rw[q] at c1 Y Z F M;rw[r] at c2 aa G s;clear q r;have u:=Ae (jT (n+m) (by omega) (by omega) w);rw[wO] at u;have ab:¬(n:Int)<0:=by omega
 have ac:¬((n:Int)+m)<0:=by omega
 obtain⟨N,O,P,Q,R⟩:=info_parts EX;go_enter func109,ntmps109;go_wp21;refine wp_loop_rounds 3 ?_;rw[rounds_succ];go_wp21;rw[rounds_succ];go_wp21;rw[rounds_succ];go_wp21;go_call u.o as e w1 ⟨v,rfl,hO,c⟩;have ad:C3 w1 b o (.slice (some ⟨a1,l,none⟩) n H):=(c.cell k xT).trans M.o;have ae:C3 w1 b (o+1) (.slice (some ⟨a2,g,none⟩) m p):=(c.cell k xT).trans s.o;have af:=Ae c;have S:=c.size;have T:∀(j:Nat) (a:Value),(Jm us)[j]? =some a→w1.cell? (Addr.add ⟨a1,l,none⟩ j)=some a:=by obtain⟨ag,ah,ai,e,_,_,_,y⟩:=F.o.kept c;injection e with e1 e2 e3;injection e1 with e1;injection e1 with e4 e5;subst e4 e5;exact JY y
 have aj:(Jm us).length=n*1:=by rw[Nat.mul_one,←K.o];simp[Jm]
 have ak:(Jm vs).length=m*1:=by rw[Nat.mul_one,←L.o];simp[Jm]
 have al:∀a∈Jm us,a.oneCell'=true:=by intro a d;unfold Jm at d;obtain⟨t,_,rfl⟩:=uA.1 d;rfl
 have am:∀a∈Jm vs,a.oneCell'=true:=by intro a d;unfold Jm at d;obtain⟨t,_,rfl⟩:=uA.1 d;rfl
 clear c1 c2 c u ab ac;go_wp21;refine wp_loop_rounds 3 ?_;rw[rounds_succ];go_wp2_with (first
  |(at_builtin;refine wpList_append_own_at _ rfl _ _ 78 rfl w.heap.size 130 N (.int .i32 0) 1 4 underlying78 O P Q R rfl (by decide) _ _ _ rfl hO ⟨a1,l,none⟩ n H (Jm us) rfl aj T al (by unfold maxLen;omega) (by omega) S ?_;intro v' w5 h U _ _)
  |fail)
 have hg:w1.grownBy w5 v.ownBlock:=U;have f:Ab No w w5:=af.o.grown hg (fun x z=>.inl (Bk hO x z));have au:C3 w5 b (o+1) (.slice (some ⟨a2,g,none⟩) m p):=(f.cell k xT).trans s.o;have an:∀(j:Nat) (a:Value),(Jm vs)[j]? =some a→w5.cell? (Addr.add ⟨a2,g,none⟩ j)=some a:=by obtain⟨ag,ah,ai,e,_,_,_,y⟩:=G.o.kept f;injection e with e1 e2 e3;injection e1 with e1;injection e1 with e4 e5;subst e4 e5;exact JY y
 have ao:=f.size;have ap:=Ae f;have av:=Ae hO;rw[uL,vJ] at h;clear U hg hO ad ae f S T;rename_i A B;clear A B;rw[rounds_succ];go_wp2_with (first
  |(at_builtin;refine wpList_append_own_at _ rfl _ _ 78 rfl w.heap.size 130 N (.int .i32 0) 1 4 underlying78 O P Q R rfl (by decide) _ _ _ rfl h ⟨a2,g,none⟩ m p (Jm vs) rfl ak an am (by unfold maxLen;omega) (by omega) ao ?_;intro i V W X _ _)
  |fail)
 have hg:w5.grownBy V v'.ownBlock:=X;have aq:xR (Ab No w V):=ap.o.grown hg (fun x z=>.inl (Bk h x z));have ar:=Ae W;rename_i A B;clear A B X hg W h;rw[rounds_succ];go_wp21;go_ret;refine⟨_,rfl,?_,aq.o⟩;have e:Jm (us++vs)=Jm us++Jm vs:=by simp[Jm]
 rw[e,tS,K.o,L.o];exact ar.o
set_option linter.unusedSimpArgs false
def Hx (b:Bool)(us:List Bool):Option (List Bool):=if b=true then some us else none
def Ca (r:Option (List Bool))(w:World)(e:Ending)(w':World):Prop :=
 Ab No w w'∧((∃ts v,r=some ts∧e=.returned (.tuple #[v,.bool true])∧Nl w' v ts)∨(r=none∧∃v,e=.returned (.tuple #[v,.bool false])))
theorem Ca.of {us:List Bool}{b:Bool}{v:Value}{w w':World}(a:Ab No w w')(h:Nl w' v us):Ca (Hx b us) w (.returned (.tuple #[v,.bool b])) w':=by
 refine⟨a,?_⟩;cases b
 ·exact .inr ⟨rfl,v,rfl⟩
 exact .inl ⟨us,v,rfl,rfl,h⟩
theorem Oh {w w':World}{P:Nat}{c:Array Value}{t:TypeId}(a:Ab No w w')(h:C2 w P c t):C2 w' P c t:=(a.block P (Aa h) xT).trans h
theorem PD (P:Nat)(h:Hd)(e:h.k=6)(lv iv:Value)(b o cap:Nat)(a:Value)(us:List Bool)(w:World)(c:C2 w P (Bb h lv iv) 139)(c1:C3 w b o a)(d:Nl w a us) :
 Calls prog 63 #[C1 P,.slice (some ⟨b,o,none⟩) 1 cap] w (Ca (Hx true us) w):=by
 have f:=(Ay c).1;rw[e] at f;have g:=Ae d;clear c d;go_enter func63,ntmps63;go_wp21;go_ret2;exact Ca.of (Ab.refl No w) g.o
theorem WU (P:Nat)(h:Hd)(n:h.k=2)(lv iv:Value)(b o cap:Nat)(a:Value)(us:List Bool)(w:World)(f:C2 w P (Bb h lv iv) 139)(j:∀c,h.l=.col c→c<10)(k:∀c,h.r=.col c→c<10)(p:b<w.heap.size)(c1:C3 w b o a)(d:Nl w a us) :
 Calls prog 63 #[C1 P,.slice (some ⟨b,o,none⟩) 1 cap] w (Ca (Hx (Og (I7 us h.l) (I7 us h.r)) us) w):=by
 have q:=(Ay f).1;rw[n] at q;have l:xR (∀w',Ab No w w'→Calls prog 107 #[C1 P,a,a] w' fun e s=>e=.returned (.bool (Og (I7 us h.l) (I7 us h.r)))∧Ab No w' s):=fun w' g=>Um P h lv iv a a us us w' (Oh g f) j k (d.kept g) (d.kept g);have t:=Ae d;generalize Og (I7 us h.l) (I7 us h.r)=r at l⊢;clear f j k d;go_enter func63,ntmps63;go_wp21
 go_region_held3 (fun w'=>w'.cell? ⟨b,o,none⟩=some a) (go_keep)
  (first
    |(go_at_call 107
      go_call l.o _ ((Ab.refl No w).drew) as e u ⟨rfl,i⟩;have v:=(i.cell p xT).trans c1;have m:=Ae i;clear i))
 go_wp21;go_ret2;exact Ca.of (((Ab.refl No w).drew).seq m.o) (t.o.kept (((Ab.refl No w).drew).seq m.o))
theorem WV (P:Nat)(h:Hd)(n:h.k=5)(lv iv:Value)(b o cap:Nat)(a c:Value)(us vs:List Bool)(w:World)(g:C2 w P (Bb h lv iv) 139)(i:b<w.heap.size)(c1:C3 w b o a)(c2:C3 w b (o+1) c)(f:Nl w a us)(j:Nl w c vs) :
 Calls prog 63 #[C1 P,.slice (some ⟨b,o,none⟩) 2 cap] w (Ca (Hx (decide (us=vs)) us) w):=by
 have p:=(Ay g).1;rw[n] at p;have k:xR (∀w',Ab No w w'→Calls prog 110 #[a,c] w' fun e q=>e=.returned (.bool (decide (us=vs)))∧Ab No w' q):=fun w' l=>dA a c us vs w' (f.kept l) (j.kept l);have s:=Ae f;generalize decide (us=vs)=r at k⊢;clear g f j;go_enter func63,ntmps63;go_wp21
 go_region_held3 (fun w'=>w'.cell? ⟨b,o,none⟩=some a∧w'.cell? ⟨b,o+1,none⟩=some c) (go_keep)
  (first
    |(go_at_call 110
      go_call k.o _ ((Ab.refl No w).drew) as e t ⟨rfl,d⟩;have u:=(d.cell i xT).trans c1;have e1:=(d.cell i xT).trans c2;have m:=Ae d;clear d))
 go_wp21;go_ret2;exact Ca.of (((Ab.refl No w).drew).seq m.o) (s.o.kept (((Ab.refl No w).drew).seq m.o))
theorem nY {us vs:List Bool}(h:1≤us.length):us++vs≠[]:=fun e=>by rw[(List.append_eq_nil_iff.1 e).1] at h;simp at h
theorem PE (P:Nat)(h:Hd)(A:h.k=4)(lv iv:Value)(b o cap:Nat)(a d:Value)(us vs:List Bool)(w:World)(k:C2 w P (Bb h lv iv) 139)(q:∀c,h.l=.col c→c<10)(s:∀c,h.r=.col c→c<10)(f:b<w.heap.size)(c1:C3 w b o a)(c2:C3 w b (o+1) d)(l:Nl w a us)(m:Nl w d vs)(n:1≤us.length)(t:us.length≤6)(u:vs.length≤6) :
 Calls prog 63 #[C1 P,.slice (some ⟨b,o,none⟩) 2 cap] w (Ca (Hx (Og (I7 us h.l) (I7 vs h.r)) (us++vs)) w):=by
 have B:=(Ay k).1;rw[A] at B;have x:xR (∀w',Ab No w w'→Calls prog 107 #[C1 P,a,d] w' fun e C=>e=.returned (.bool (Og (I7 us h.l) (I7 vs h.r)))∧Ab No w' C):=fun w' p=>Um P h lv iv a d us vs w' (Oh p k) q s (l.kept p) (m.kept p);have HD:=Ae (PA b o cap a d us vs w.drew f c1 c2 (l.kept ((Ab.refl No w).drew)) (m.kept ((Ab.refl No w).drew)) n t u);have D:=Ae (nY (vs:=vs) n);have G:xR (w.drew.heap.size=w.heap.size):=rfl;generalize Og (I7 us h.l) (I7 vs h.r)=r at x⊢;clear k q s l m n t u;go_enter func63,ntmps63;go_wp21
 go_region_held3 (fun w'=>w'.cell? ⟨b,o,none⟩=some a∧w'.cell? ⟨b,o+1,none⟩=some d) (go_keep)
  (first
    |(go_at_call 109
      go_call HD.o as e H ⟨v,rfl,y,g⟩;have E:=(g.cell f xT).trans c1;have e1:=(g.cell f xT).trans c2;have i:=Ae g;have F:=Ae y;clear g y)
    |(go_at_call 107
      go_call x.o _ (((Ab.refl No w).drew).seq i.o) as e w3 ⟨rfl,j⟩;have I:=(j.cell (tU f i.o.size) xT).trans E;have J:=(j.cell (tU f i.o.size) xT).trans e1;have z:=Ae j;clear j))
 go_wp21;go_ret2;exact Ca.of ((((Ab.refl No w).drew).seq i.o).seq z.o) ((Nl.I1 F.o D.o).kept z.o)
theorem PF (P:Nat)(h:Hd)(q:h.k=3)(lv iv:Value)(b o cap:Nat)(f:Value)(us:List Bool)(cs:List Nat)(w:World)(g:C2 w P (Bb h lv iv) 139)(l:Gg w lv cs)(m:cs.length≤6)(r:1≤cs.length)(n:∀c∈cs,c<10)(c1:C3 w b o f)(p:Nl w f us) :
 Calls prog 63 #[C1 P,.slice (some ⟨b,o,none⟩) 1 cap] w (Ca (Hx (Gz us cs) (Gm us cs)) w):=by
 have s:=(Ay g).1;rw[q] at s;have i:=Ae (Ze P h lv iv f us cs w g l m n p);have t:xR (Gm us cs≠[]):=fun e=>by have:=R0 us cs;rw[e] at this;simp at this;omega
 clear g l m r n p;go_enter func63,ntmps63;go_wp21;go_call i.o as e x ⟨d,⟨a,v,rfl,ho⟩|⟨a,rfl⟩⟩
 ·have j:=Ae d;have k:=Ae a;have u:=Ae ho;clear d a ho i;go_wp21;go_ret2;rw[k.o];exact Ca.of j.o (Nl.I1 u.o t.o)
 have j:=Ae d;have k:=Ae a;clear d a i;go_wp21;go_ret2;rw[k.o];exact⟨j.o,.inr ⟨rfl,_,rfl⟩⟩
theorem Vo.uni {us:List Bool}{cs:List Nat}{w:World}{e:Ending}{w':World}(h:Vo us cs w e w')(c:cs.length≤6):Ab No w w'∧∃v xs,e=.returned (.tuple #[v,.bool (Gz us cs)])∧w'.ownsRow w.heap.size 130 1 v xs.length (Jm xs)∧xs.length≤6∧(Gz us cs=true→xs=Gm us cs):=by
 obtain⟨b,⟨a,v,rfl,ho⟩|⟨a,rfl⟩⟩:=h
 ·exact⟨b,v,Gm us cs,by rw[a],ho,by rw[R0];exact c,fun _=>rfl⟩
 exact⟨b,_,[],by rw[a],World.ownsRow_nil _ _ _ _,by simp,fun e=>by rw[a] at e;cases e⟩
def WW (us:List Bool)(cs:List Nat)(x:Dk):Bool:=Gz us cs && decide (I7 us x=some false)
theorem WX (P:Nat)(h:Hd)(al:h.k=7)(lv iv:Value)(b o cap:Nat)(d:Value)(us:List Bool)(cs:List Nat)(w:World)(N:C2 w P (Bb h lv iv) 139)(ab:Gg w lv cs)(T:cs.length≤6)(ac:∀c∈cs,c<10)(O:∀c,h.w=.col c→c<10)(ad:b<w.heap.size)(c1:C3 w b o d)(U:Nl w d us) :
 Calls prog 63 #[C1 P,.slice (some ⟨b,o,none⟩) 1 cap] w (Ca (Hx (WW us cs h.w) (Gm us cs++[false])) w):=by
 have am:=(Ay N).1;rw[al] at am;have B:xR (∀w:World,C2 w P (Bb h lv iv) 139→(loadVar 135 ⟨P,20,none⟩).run prog w=.ok (.agg (Sh h.w).toArray) w):=fun w O=>run_loadVar_mid w P 20 135 (Sh h.w) _ (Ay O).2.2.2.2.2.1 underlying135 rfl Pb;have ae:=Ae (Ze P h lv iv d us cs w N ab T ac U);have an:=Ae T;have Q:xR (∀w1,Ab No w w1→Calls prog 111 #[.agg (Sh h.w).toArray,d] w1 fun e w'=>e=.returned (WO (I7 us h.w))∧Ab No w1 w'):=fun w1 V=>Te h.w us d w1 O (U.kept V);have W:=Ae N;have ao:=Ae c1;obtain⟨C,D,E,F,G⟩:=info_parts EX;have s:xR (WW us cs h.w=(Gz us cs && decide (I7 us h.w=some false))):=rfl;generalize WW us cs h.w=au at s⊢;generalize I7 us h.w=x at Q s;generalize (Sh h.w).toArray=R at Q B;clear N ab T ac U O;go_enter func63,ntmps63;go_wp21;refine ae.o.mono ?_;intro e q af;obtain⟨L,v,xs,rfl,ho,_,ag⟩:=af.uni an.o;have u:=Ae L;have ap:=Ae ho;have ah:=Ae ag;have X:=Ae (Oh L W.o);have c2:C3 q b o d:=(L.cell ad xT).trans ao.o;have ai:=Ae (fun w1 (V:Ab No q w1)=>Q.o w1 (L.seq V));generalize Gz us cs=Y at s ah;clear L ho ag ae af Q c1;have Z:=Aa X.o;have aa:=tU ad u.o.size;have H:xR (∀(r:Value),WO x=r→Calls prog 111 #[.agg R,d] q.drew fun e w'=>e=.returned r∧Ab No q w'):=fun r hr=>by subst hr;exact (ai.o q.drew ((Ab.refl No q).drew)).mono fun e w' ⟨aq,ar⟩=>⟨aq,((Ab.refl No q).drew).seq ar⟩
 have aj:C2 q P (Bb h lv iv) 139∧C3 q b o d:=⟨X.o,c2⟩;have l:=Ae aj;have av:xR (C2 w P (Bb h lv iv) 139):=W;clear aj ai W X c2;have I:∀(w3:World),xR (Ab No q w3)→xR (w3.ownsRow w.heap.size 130 1 v xs.length (Jm xs)∧w.heap.size≤w3.heap.size):=fun w3 f=>⟨Br ap.o f.o (fun _ _ e=>e),uJ u.o.size f.o.size⟩;cases x with
 |none =>
  have y:=Ae (H.o (.tuple #[.int .i32 0,.bool false]) rfl);clear H;go_wp21;refine wp_region_held_drew (S:=fun w'=>w'.heap[P]? =some (.cells (Bb h lv iv) 139 (0,0))∧w'.cell? ⟨b,o,none⟩=some d) (by kernel_rfl) l.o (fun a=>?_);refine An 0 (C1 P) a ?_;refine An 1 (C1 P) a ?_;refine An 2 (.pointer (some ⟨P,20,none⟩)) a ?_;refine Ha 3 (.agg R) 135 (.tmp 73) (P) (20) (fun w h=>B.o w h.1) a ?_
  try simp only[Act.put,Ar,As,Au,Av,Aw,Ax]
  refine An 4 (.slice (some ⟨b,o,none⟩) 1 cap) a ?_;refine An 5 (.pointer (some ⟨b,o,none⟩)) a ?_;refine Iq 6 (d) 78 (.tmp 76) (b) (o) (fun w h=>h.2) a ?_;refine C0 7 (fun K z=>?_);go_simp;go_call y.o as e w3 ⟨rfl,f⟩;have m:=Ae f;have A:C2 w3 P (Bb h lv iv) 139∧C3 w3 b o d:=⟨(f.block P Z xT).trans l.o.1,(f.cell aa xT).trans l.o.2⟩;refine z.out _ _ A (fun a=>?_);clear z K f
  try simp only[Act.put,Ar,As,Au,Av,Aw,Ax]
  refine An 8 ((.tuple #[.int .i32 0,.bool false])) a ?_;refine An 9 (.int .i32 0) a ?_;refine An 11 (.int .i32 0) a ?_;refine An 10 (.bool false) a ?_
  try simp only[Act.put,Ar,As,Au,Av,Aw,Ax]
  refine An 12 (.bool false) a ?_;refine wpAnyH_done (by kernel_rfl) ?_ _;clear a A y B l
  try simp only[Act.put,Ar,As,Au,Av,Aw,Ax]
  obtain⟨k,ak⟩:=(I w3 m).o;clear I;cases Y
  ·
   go_wp2_with (first
    |(at_builtin;refine wpList_append_own_at _ rfl _ _ 78 rfl w.heap.size 130 C (.int .i32 0) 1 4 underlying78 D E F G rfl (by decide) _ _ _ rfl (k.alloc _) ⟨w3.heap.size,0,none⟩ 1 1 [.int .i32 0] rfl rfl (World.news_of_block (cs:=#[.int .i32 0]) (t:=130) (fr:=(0,0)) (heap_alloc_last w3 _)) (by intro M g;simp at g;subst g;rfl) (by unfold maxLen;omega) (by omega) (by simp;omega) ?_;intro v' w5 i j _ _)
    |fail)
   have hg:(w3.alloc (.cells #[.int .i32 0] 130)).grownBy w5 v.ownBlock:=j;have n:xR (Ab No w w5):=(((u.o.seq m.o).alloc _).grown hg (fun x p=>.inl (Bk k x p)));have J:=Ae i;clear hg j i;go_ret2;rw[s.o];exact⟨n.o,.inr ⟨rfl,_,rfl⟩⟩
  go_wp2_with (first
   |(at_builtin;refine wpList_append_own_at _ rfl _ _ 78 rfl w.heap.size 130 C (.int .i32 0) 1 4 underlying78 D E F G rfl (by decide) _ _ _ rfl (k.alloc _) ⟨w3.heap.size,0,none⟩ 1 1 [.int .i32 0] rfl rfl (World.news_of_block (cs:=#[.int .i32 0]) (t:=130) (fr:=(0,0)) (heap_alloc_last w3 _)) (by intro M g;simp at g;subst g;rfl) (by unfold maxLen;omega) (by omega) (by simp;omega) ?_;intro v' w5 i j _ _)
   |fail)
  have hg:(w3.alloc (.cells #[.int .i32 0] 130)).grownBy w5 v.ownBlock:=j;have n:xR (Ab No w w5):=(((u.o.seq m.o).alloc _).grown hg (fun x p=>.inl (Bk k x p)));have J:=Ae i;clear hg j i;go_ret2;rw[s.o];exact⟨n.o,.inr ⟨rfl,_,rfl⟩⟩
 |some t =>
  cases t
  ·have y:=Ae (H.o (.tuple #[.int .i32 0,.bool true]) rfl);clear H;go_wp21;refine wp_region_held_drew (S:=fun w'=>w'.heap[P]? =some (.cells (Bb h lv iv) 139 (0,0))∧w'.cell? ⟨b,o,none⟩=some d) (by kernel_rfl) l.o (fun a=>?_);refine An 0 (C1 P) a ?_
   refine An 1 (C1 P) a ?_;refine An 2 (.pointer (some ⟨P,20,none⟩)) a ?_;refine Ha 3 (.agg R) 135 (.tmp 73) (P) (20) (fun w h=>B.o w h.1) a ?_
   try simp only[Act.put,Ar,As,Au,Av,Aw,Ax]
   refine An 4 (.slice (some ⟨b,o,none⟩) 1 cap) a ?_;refine An 5 (.pointer (some ⟨b,o,none⟩)) a ?_;refine Iq 6 (d) 78 (.tmp 76) (b) (o) (fun w h=>h.2) a ?_;refine C0 7 (fun K z=>?_);go_simp;go_call y.o as e w3 ⟨rfl,f⟩;have m:=Ae f;have A:C2 w3 P (Bb h lv iv) 139∧C3 w3 b o d:=⟨(f.block P Z xT).trans l.o.1,(f.cell aa xT).trans l.o.2⟩;refine z.out _ _ A (fun a=>?_);clear z K f
   try simp only[Act.put,Ar,As,Au,Av,Aw,Ax]
   refine An 8 ((.tuple #[.int .i32 0,.bool true])) a ?_;refine An 9 (.int .i32 0) a ?_;refine An 11 (.int .i32 0) a ?_;refine An 10 (.bool true) a ?_
   try simp only[Act.put,Ar,As,Au,Av,Aw,Ax]
   refine An 12 (.bool true) a ?_;refine wpAnyH_done (by kernel_rfl) ?_ _;clear a A y B l
   try simp only[Act.put,Ar,As,Au,Av,Aw,Ax]
   obtain⟨k,ak⟩:=(I w3 m).o;clear I;cases Y
   ·
    go_wp2_with (first
     |(at_builtin;refine wpList_append_own_at _ rfl _ _ 78 rfl w.heap.size 130 C (.int .i32 0) 1 4 underlying78 D E F G rfl (by decide) _ _ _ rfl (k.alloc _) ⟨w3.heap.size,0,none⟩ 1 1 [.int .i32 0] rfl rfl (World.news_of_block (cs:=#[.int .i32 0]) (t:=130) (fr:=(0,0)) (heap_alloc_last w3 _)) (by intro M g;simp at g;subst g;rfl) (by unfold maxLen;omega) (by omega) (by simp;omega) ?_;intro v' w5 i j _ _)
     |fail)
    have hg:(w3.alloc (.cells #[.int .i32 0] 130)).grownBy w5 v.ownBlock:=j;have n:xR (Ab No w w5):=(((u.o.seq m.o).alloc _).grown hg (fun x p=>.inl (Bk k x p)));have J:=Ae i;clear hg j i;go_ret2;rw[s.o];exact⟨n.o,.inr ⟨rfl,_,rfl⟩⟩
   go_wp2_with (first
    |(at_builtin;refine wpList_append_own_at _ rfl _ _ 78 rfl w.heap.size 130 C (.int .i32 0) 1 4 underlying78 D E F G rfl (by decide) _ _ _ rfl (k.alloc _) ⟨w3.heap.size,0,none⟩ 1 1 [.int .i32 0] rfl rfl (World.news_of_block (cs:=#[.int .i32 0]) (t:=130) (fr:=(0,0)) (heap_alloc_last w3 _)) (by intro M g;simp at g;subst g;rfl) (by unfold maxLen;omega) (by omega) (by simp;omega) ?_;intro v' w5 i j _ _)
    |fail)
   have hg:(w3.alloc (.cells #[.int .i32 0] 130)).grownBy w5 v.ownBlock:=j;have n:xR (Ab No w w5):=(((u.o.seq m.o).alloc _).grown hg (fun x p=>.inl (Bk k x p)));have J:=Ae i;clear hg j i;go_ret2;rw[s.o];obtain rfl:=ah.o (by trivial);refine Ca.of (b:=true) n.o (Nl.I1 (base:=w.heap.size) ?_ (by simp));have:=J.o;rw[tS];unfold Jm at this⊢;rw[uF];exact this
  have y:=Ae (H.o (.tuple #[.int .i32 1,.bool true]) rfl);clear H;go_wp21;refine wp_region_held_drew (S:=fun w'=>w'.heap[P]? =some (.cells (Bb h lv iv) 139 (0,0))∧w'.cell? ⟨b,o,none⟩=some d) (by kernel_rfl) l.o (fun a=>?_);refine An 0 (C1 P) a ?_;refine An 1 (C1 P) a ?_;refine An 2 (.pointer (some ⟨P,20,none⟩)) a ?_;refine Ha 3 (.agg R) 135 (.tmp 73) (P) (20) (fun w h=>B.o w h.1) a ?_
  try simp only[Act.put,Ar,As,Au,Av,Aw,Ax]
  refine An 4 (.slice (some ⟨b,o,none⟩) 1 cap) a ?_;refine An 5 (.pointer (some ⟨b,o,none⟩)) a ?_;refine Iq 6 (d) 78 (.tmp 76) (b) (o) (fun w h=>h.2) a ?_;refine C0 7 (fun K z=>?_);go_simp;go_call y.o as e w3 ⟨rfl,f⟩;have m:=Ae f;have A:C2 w3 P (Bb h lv iv) 139∧C3 w3 b o d:=⟨(f.block P Z xT).trans l.o.1,(f.cell aa xT).trans l.o.2⟩;refine z.out _ _ A (fun a=>?_);clear z K f
  try simp only[Act.put,Ar,As,Au,Av,Aw,Ax]
  refine An 8 ((.tuple #[.int .i32 1,.bool true])) a ?_;refine An 9 (.int .i32 1) a ?_;refine An 11 (.int .i32 1) a ?_;refine An 10 (.bool true) a ?_
  try simp only[Act.put,Ar,As,Au,Av,Aw,Ax]
  refine An 12 (.bool true) a ?_;refine wpAnyH_done (by kernel_rfl) ?_ _;clear a A y B l
  try simp only[Act.put,Ar,As,Au,Av,Aw,Ax]
  obtain⟨k,ak⟩:=(I w3 m).o;clear I;cases Y
  ·
   go_wp2_with (first
    |(at_builtin;refine wpList_append_own_at _ rfl _ _ 78 rfl w.heap.size 130 C (.int .i32 0) 1 4 underlying78 D E F G rfl (by decide) _ _ _ rfl (k.alloc _) ⟨w3.heap.size,0,none⟩ 1 1 [.int .i32 0] rfl rfl (World.news_of_block (cs:=#[.int .i32 0]) (t:=130) (fr:=(0,0)) (heap_alloc_last w3 _)) (by intro M g;simp at g;subst g;rfl) (by unfold maxLen;omega) (by omega) (by simp;omega) ?_;intro v' w5 i j _ _)
    |fail)
   have hg:(w3.alloc (.cells #[.int .i32 0] 130)).grownBy w5 v.ownBlock:=j;have n:xR (Ab No w w5):=(((u.o.seq m.o).alloc _).grown hg (fun x p=>.inl (Bk k x p)));have J:=Ae i;clear hg j i;go_ret2;rw[s.o];exact⟨n.o,.inr ⟨rfl,_,rfl⟩⟩
  go_wp2_with (first
   |(at_builtin;refine wpList_append_own_at _ rfl _ _ 78 rfl w.heap.size 130 C (.int .i32 0) 1 4 underlying78 D E F G rfl (by decide) _ _ _ rfl (k.alloc _) ⟨w3.heap.size,0,none⟩ 1 1 [.int .i32 0] rfl rfl (World.news_of_block (cs:=#[.int .i32 0]) (t:=130) (fr:=(0,0)) (heap_alloc_last w3 _)) (by intro M g;simp at g;subst g;rfl) (by unfold maxLen;omega) (by omega) (by simp;omega) ?_;intro v' w5 i j _ _)
   |fail)
  have hg:(w3.alloc (.cells #[.int .i32 0] 130)).grownBy w5 v.ownBlock:=j;have n:xR (Ab No w w5):=(((u.o.seq m.o).alloc _).grown hg (fun x p=>.inl (Bk k x p)));have J:=Ae i;clear hg j i;go_ret2;rw[s.o];exact⟨n.o,.inr ⟨rfl,_,rfl⟩⟩
def mB (w:World)(ts:List (Nat×List UInt8))(ft:List UInt8→Option (List Bool)):Prop:=∀(i:Nat) (x:Nat×List UInt8),ts[i]? =some x→x.1<w.heap.size∧∃us tv,ft x.2=some us∧w.cell? ⟨x.1,3,none⟩=some tv∧Nl w tv us
theorem mB.kept {w w':World}{ts:List (Nat×List UInt8)}{ft:List UInt8→Option (List Bool)}(h:mB w ts ft)(k:Ab No w w'):mB w' ts ft:=fun i x b=>by
 obtain⟨a,us,tv,c,d,e⟩:=h i x b;exact⟨tU a k.size,us,tv,c,(k.cell a xT).trans d,e.kept k⟩
theorem EY (P:Nat)(h:Hd)(B:h.k=1)(lv iv v:Value)(ts:List (Nat×List UInt8))(ft:List UInt8→Option (List Bool))(w:World)(f:C2 w P (Bb h lv iv) 139)(k:Gy w v ts)(l:mB w ts ft)(C:ts.length≤1000)(hf:0≤Bz ts h.nm) :
 Calls prog 38 #[v,C1 P] w (Ca (ft h.nm) w):=by
 have m:=(Ay f).1;rw[B] at m;have D:=(Ay f).2.2.2.2.2.2.2;have g:=Ae (Kb v ts h.nm w k C);obtain⟨i,hi⟩:∃i:Nat,Bz ts h.nm=(i:Int):=⟨(Bz ts h.nm).toNat,by omega⟩;rw[hi] at g;obtain⟨x,c,E⟩:=Vm ts h.nm i hi;obtain⟨n,us,tv,j,p,q⟩:=l i x c;rw[E] at j;rw[j];have J:i<ts.length:=(tR.1 c).1;obtain⟨a,cap,rfl,_,r,s⟩:=k;obtain⟨b,o,rfl,F,G,t,H⟩:=s i _ c;have K:=Bn r
 have L:=Bm i
 have M:(i:Int)<(ts.length:Int):=by omega
 have u:=Ae t;have y:=Ae p;have I:=Ae q;obtain⟨tb,z⟩:∃tb,x.1=tb:=⟨_,rfl⟩;rw[z] at u y n G;clear f hf hi s r l j p q c z t H;go_enter func38,ntmps38;go_wp21;go_call g.o as e w1 ⟨rfl,d⟩;have c1:C3 w1 b (o+i) (C1 tb):=(d.cell F xT).trans u.o;have c2:C3 w1 tb 3 tv:=(d.cell n xT).trans y.o;have A:=Ae d;clear d m D g;go_wp21;go_ret2;exact Ca.of (b:=true) A.o (I.o.kept A.o)
theorem jV:(prog.info? 78).map (fun i=>(i.zero,i.size,i.bytes))=some (some (.slice none 0 0),1,24):=by kernel_rfl
theorem nZ {v:Value}{a b:Bool}(h:a=b):Ending.returned (.tuple #[v,.bool a])=.returned (.tuple #[v,.bool b]):=by rw[h]
def Wp:List (Option (List Bool))→Option (List (List Bool))
 | []=>some []
 |none::_=>none
 |some u::l=>(Wp l).map (u::·)
theorem CJ:∀(a:List (List Bool)),Wp (a.map some)=some a
 | []=>rfl
 |u::l=>by show (Wp (l.map some)).map _=_;rw[CJ l];rfl
theorem CK:∀(rs:List (Option (List Bool))) (j:Nat),rs[j]? =some none→Wp rs=none
 | [],j,h=>by simp at h
 |none::l,j,h=>rfl
 |some a::l,0,h=>by simp at h
 |some a::l,j+1,h=>by show (Wp l).map _=_;rw[CK l j (by simpa using h)];rfl
def JZ (w:World)(vs:List Value)(uss:List (List Bool)):Prop:=vs.length=uss.length∧∀(j:Nat) (x:Value) (us:List Bool),vs[j]? =some x→uss[j]? =some us→Nl w x us
theorem JZ.kept {w w':World}{vs:List Value}{c:List (List Bool)}(h:JZ w vs c)(k:Ab No w w'):JZ w' vs c:=⟨h.1,fun j x us a b=>(h.2 j x us a b).kept k⟩
theorem JZ.snoc {w:World}{vs:List Value}{c:List (List Bool)}{x:Value}{us:List Bool}(h:JZ w vs c)(g:Nl w x us):JZ w (vs++[x]) (c++[us]):=by
 refine⟨by simp[h.1],fun j y d a b=>?_⟩;by_cases e:j<vs.length
 ·rw[uD e] at a;rw[uD (by rw[←h.1];exact e)] at b;exact h.2 j y d a b
 rw[uC (by omega)] at a;rw[uC (by rw[←h.1];omega)] at b;have f:j-vs.length=0:=by have:=(tR.1 a).1;simp at this;omega
 rw[f] at a;rw[←h.1,f] at b;have e1:x=y:=by simpa using a
 have e2:us=d:=by simpa using b
 subst e1 e2;exact g
theorem Un (P:Nat)(h:Hd)(_:h.k≠1)(lv iv v:Value)(ps:List Nat)(rs:List (Option (List Bool)))(T:List (List Bool)→Option (List Bool))(w:World)(K:C2 w P (Bb h lv iv) 139)(an:Wc w iv ps)(L:rs.length=ps.length)(ao:ps.length≤2)(ap:1≤ps.length)
 (S:∀(j p:Nat) (r:Option (List Bool)),ps[j]? =some p→rs[j]? =some r→∀w1,Ab No w w1→Calls prog 38 #[v,pV p] w1 (Ca r w1))
 (U:∀(a:List (List Bool)) (w1:World) (b cap:Nat) (vs:List Value),rs=a.map some→Ab No w w1→b<w1.heap.size→JZ w1 vs a→(∀j x,vs[j]? =some x→C3 w1 b j x)→Calls prog 63 #[C1 P,.slice (some ⟨b,0,none⟩) a.length cap] w1 (Ca (T a) w1)) :
 Calls prog 38 #[v,C1 P] w (Ca (((Wp rs).bind T).bind six) w):=by
 have bj:=(Ay K).1;have bk:((h.k:Int) == 1)=false:=by simp;omega
 have V:=Ae S;have W:=Ae U;have aq:=(Ay K).2.2.2.2.2.2.1;obtain⟨gi,_,_,_,rfl,M,X⟩:=an;obtain⟨n,N⟩:∃n,ps.length=n:=⟨_,rfl⟩;have ar:=Ae N;rw[N] at aq ao ap L;have O:=Ae L;have au:=Ae M;have av:=Ae X;have aw:=Aa M;obtain⟨ax,ay,az,a0,a1⟩:=info_parts jV;have Y:xR (((Wp rs).bind T).bind six=((Wp rs).bind T).bind six):=rfl;generalize Z:((Wp rs).bind T).bind six=a2 at Y⊢;have A:=Ae Z;clear K X M S U N L Z Y;go_enter func38,ntmps38;go_wp21;go_loopg [6,35] n (fun k a3 a4 wr=>∃(i:Nat) (a:List (List Bool)) (vs:List Value),i+k=n∧a4=.int .i64 (i:Int)∧xR (rs.take i=a.map some)∧xR (JZ wr vs a)∧xR (vs.length=i)∧xR (wr.ownsRow w.heap.size 78 1 a3 i vs)∧xR (Ab No w wr))
 case atStart=>exact⟨0,[],[],by omega,rfl,Ae rfl,Ae ⟨rfl,fun j x us d=>by simp at d⟩,Ae rfl,Ae (World.ownsRow_nil _ _ _ _),Ae (Ab.refl _ _)⟩
 obtain⟨i,a,vs,_,rfl,aa,ab,a5,hO,l⟩:=hrel;cases gk with
 |zero =>
  have d:¬(i:Int)<(n:Int):=by omega
  obtain⟨g,cap,a6,hg,Gs⟩:∃g cap,u6=.slice (some ⟨g,0,none⟩) n cap∧g<wr.heap.size∧∀j x,vs[j]? =some x→wr.cell? ⟨g,j,none⟩=some x:=by
   have a7:i=n:=(by omega);rcases hO.o.2 with ⟨_,_⟩|⟨g,cap,cur,e,_,hg,hc1,hc2,hc3,hc4⟩
   ·omega
   refine⟨g,cap,by rw[e,a7],Aa hg,fun j x d=>?_⟩;rw[←hc4,uQ] at d;rw[Af hg];split at d
   ·simpa using d
   cases d
  subst a6;have B:rs=a.map some:=by have s:=aa.o;rw[uW (by have:=O.o;omega)] at s;exact s
  have ac:a.length=n:=by have s:=congrArg List.length B;rw[tZ,O.o] at s;exact s.symm
  have f:=Ae (W.o a wr g cap vs B l.o hg ab.o Gs);rw[ac] at f;have u:xR (((Wp rs).bind T).bind six=(T a).bind six):=by show _=_;rw[B,CJ];rfl
  clear B ac hg Gs V W;go_wp21;go_call f.o as e bl ⟨C,⟨ts,a8,y,rfl,ad⟩|⟨y,a8,rfl⟩⟩
  ·have ae:=Ae ad;obtain⟨b2,_,a9,rfl,_,ba,af,_⟩:=ad;have D:=Ae (l.o.seq C);have E:=Ae y;obtain⟨m,Q⟩:∃m,ts.length=m:=⟨_,rfl⟩;have ag:=Ae Q;rw[Q] at ba ae⊢;have bm:=Bn af;clear C y Q af f;by_cases ah:m≤6
   ·have bb:(m:Int)≤6:=(by omega);go_wp21;go_ret2;refine⟨D.o,.inl ⟨ts,_,?_,rfl,ae.o⟩⟩;rw[←A.o,u.o,E.o];show six ts=some ts;unfold six;rw[if_pos (by rw[ag.o];exact ah)]
   have bb:¬(m:Int)≤6:=(by omega);go_wp21;go_ret2;refine⟨D.o,.inr ⟨?_,_,nZ (decide_eq_false (by omega))⟩⟩;rw[←A.o,u.o,E.o];show six ts=none;unfold six;rw[if_neg (by rw[ag.o];exact ah)]
  have D:=Ae (l.o.seq C);have E:=Ae y;clear C y f;go_wp21;go_ret2;refine⟨D.o,.inr ⟨?_,_,rfl⟩⟩;rw[←A.o,u.o,E.o];rfl
 |succ k =>
  have d:(i:Int)<(n:Int):=by omega
  have bn:=Bm i
  obtain⟨p,hp⟩:∃p,ps[i]? =some p:=⟨_,tT (by have:=ar.o;omega)⟩;obtain⟨r,hr⟩:∃r,rs[i]? =some r:=⟨_,tT (by have:=O.o;omega)⟩;have c1:wr.cell? ⟨gi,i,none⟩=some (C1 p):=by rw[l.o.cell aw xT,Af au.o];exact av.o i p hp
  have f:=Ae (V.o i p r hp hr wr l.o);have ai:=Ae hr;clear hp hr;go_wp21;refine Calls.mono f.o ?_;rintro e w1 ⟨o,⟨us,bc,rfl,rfl,aj⟩|⟨rfl,bc,rfl⟩⟩
  ·have F:=Ae (l.o.seq o);have ak:=Ae aj;obtain⟨G,H,I,rfl,-,-,-,-⟩:=aj;obtain⟨q,al⟩:∃q,us.length=q:=⟨_,rfl⟩;rw[al] at ak⊢;have bo:=F.o.size;have R:w1.ownsRow w.heap.size 78 1 u6 i vs:=Br hO.o o (fun _ _ e=>e);have bd:=Ae (ab.o.kept o);clear o f c1 al;go_wp2_with (first
    |(at_builtin;refine wpList_append_own_at _ rfl _ _ 140 rfl w.heap.size 78 ax (.slice none 0 0) 1 24 underlying140 ay az a0 a1 rfl (by decide) _ _ _ rfl (R.alloc _) ⟨w1.heap.size,0,none⟩ 1 1 [.slice (some ⟨G,H,none⟩) q I] rfl rfl (World.news_of_block (cs:=#[.slice (some ⟨G,H,none⟩) q I]) (t:=78) (fr:=(0,0)) (heap_alloc_last w1 _)) (by intro am J;simp at J;subst J;rfl) (by unfold maxLen;omega) (by omega) (by simp;omega) ?_;intro v' w5 be bf _ _)
    |fail)
   go_roundg k
   case measure=>omega
   have hg:(w1.alloc (.cells #[.slice (some ⟨G,H,none⟩) q I] 78)).grownBy w5 u6.ownBlock:=bf;have bg:Ab No w w5:=(F.o.alloc _).grown hg (fun x d=>.inl (Bk R x d));have bh:∀b,Is 130 w1 b→w5.heap[b]? =w1.heap[b]? :=fun b z=>(by rw[hg.block b (by simp;have:=z.lt;omega) (fun e=>?_),Below.heap_alloc _ _ _ z.lt];obtain⟨c,_,bi⟩:=Lo R b e.symm;exact absurd (z.ne bi) (by decide));refine⟨i+1,a++[us],vs++[.slice (some ⟨G,H,none⟩) q I],by omega,by go_num,?_,?_,?_,Ae be,Ae bg⟩
   ·show _=_;rw[uI,ai.o,aa.o];simp
   ·have:=bd.o.snoc ak.o;exact⟨this.1,fun j x am d J=>(this.2 j x am d J).stays fun b _ z=>bh b z⟩
   show _=_;rw[tS,a5.o];rfl
  have F:=Ae (l.o.seq o);have u:xR (a2=none):=by show _=_;rw[←A.o,CK rs i ai.o];rfl
  clear o f c1;go_wp21;go_ret2;exact⟨F.o,.inr ⟨u.o,_,rfl⟩⟩
end Go.Proofs.YtdinjjmcmfjbfaaGreatDoor
