/-
  For every script, ripplelaw.All returns true, and the script reads behind the call as it read before: every call, in every order, on any number of sessions by turns, answers as the document's own session answers. Condition: the listed package-level variables of the library read as start-up lays them (the card ties them to the text).
-/
import Derived.Test.YtdinjjmcmfjbfaaGreatDoorVzJ
import Derived.Test.YtdinjjmcmfjbfaaGreatDoorTie
import Derived.Test.YtdinjjmcmfjbfaaGreatDoorCards
import Derived.Lay
import Derived.Lib.LaidU8
import Derived.Lib.LaidTab
import Derived.Deep.Slices
import Derived.Handed
import Derived.ChangeAt
import Derived.ChangeAt2
import Derived.OpenShut
import Derived.ChangeMaps5
import Derived.Stop.Joined
import Derived.SevenTiedAt
import Derived.SizedLaws
import Derived.Carry
set_option maxRecDepth 100000
set_option maxHeartbeats 4000000
namespace Go.Proofs.YtdinjjmcmfjbfaaGreatDoor
open Go.RowKit Classical Go.ChangeShapes Go.WideShapes Go.ChangeAt Go.Deep Mo Pl Go.Proofs.Tryz
theorem lO (s:ByteArray)(w:World)(h:(M2 s).1=0):∃q,Rq s 6 0 s.size q:=by
 obtain⟨_,w0,_,⟨_,⟨a,_⟩|⟨_,_,_,q,_,_,_,hr,_,_⟩⟩,_⟩:=M7 s w []
 ·exact absurd h a
 exact⟨q,hr⟩
theorem ZE {st:Ses}(h:lM st)(nm a:ByteArray):lM (Fy st nm a).2:=by
 unfold Fy;split
 ·split
  ·exact h
  split
  ·exact h
  split
  ·exact h
  exact fun q b=>(h q b).more _
 exact h
theorem gI {st:Ses}(w:World)(h:lM st)(s:ByteArray):lM (Kd st s).2:=by
 unfold Kd;by_cases d:(M2 s).1=0
 ·rw[if_neg (by omega)];obtain⟨q,hr⟩:=lO s w d;split
  ·exact h
  rw[FE hr];simp only;by_cases a:((Ac q).all fun nm=>(Dw st.tabs nm).isSome)=true
  ·rw[if_pos a];cases f:A7 (Li st.tabs) q with
   |none=>exact h
   |some us =>
    have b:=mI hr d;intro e g;rcases tW.1 g with c|c
    ·exact h e c
    have:e=q:=(by simpa using c);subst this;exact⟨b.1,fun nm i=>uR.1 a nm i,by rw[f];rfl,b.2.1,b.2.2⟩
  rw[if_neg a];exact h
 rw[if_pos (by omega)];exact h
theorem gJ {st:Ses}(h:lM st)(hg:B4 st.tabs)(s:ByteArray):lM (Ii st s).2:=by
 unfold Ii;split
 ·exact h
 split
 ·exact h
 split
 ·exact h
 split
 ·exact h
 exact fun q a=>(h q a).new hg.nod _
theorem Z9 {w0 w w1 g:World}{Z:Nat→Prop}{F:Nat→Nat}{ps:List Pr}{wb:Nat}{av:Value}{i:Nat}{pr:Pr}{d:Nat→Prop}{c:Ses}(h:LW w0 w Z F ps)(o:WA w F wb av ps)(p:∀q∈ps,q.a=q.b)(hp:ps[i]? =some pr)
 (r:G1 w1 d pr.p c) (l:Rc (fun k=>F k=2*i+2) d w w1) (s:U3 (fun k=>Z k∨d k) w1 (fun k=>Vz F (2*i+2) d k=2*i+3) pr.y c g) (hv:lM c):Km w0 wb ps.length g:=by
 have t:=h.prog hp r l;have u:∀k,d k→F k=2*i+2∨F k=0:=fun k x=>(l.2 k x).imp id h.new;have v:=(tR.1 hp).1;have m:(ps.set i { pr with a:=c })[i]? =some { pr with a:=c }:=by rw[wZ v]
 obtain⟨y,n,z,A,B⟩:=t.doc m s hv;have C:WA w1 (Vz F (2*i+2) d) wb av (ps.set i { pr with a:=c }):=o.Cm l.1 (fun j e=>by omega) (fun j e=>(G5 (by omega) (by omega) u j).2 e) (by simp) (TZ hp rfl rfl);have D:WA g n wb av ((ps.set i { pr with a:=c }).set i { pr with a:=c,b:=c }):=C.Cm B (fun j e=>by omega) A (by simp) (TZ m rfl rfl);refine⟨y,n,av,_,z,D,fun q E=>?_,by simp⟩;obtain⟨j,f⟩:=uY E;rcases M1 f with ⟨rfl,rfl⟩|⟨_,f⟩
 ·rfl
 rcases M1 f with ⟨rfl,rfl⟩|⟨_,f⟩
 ·exact absurd rfl ‹_›
 exact p q (tV f)
theorem LW.gK {w0 w w1:World}{Z:Nat→Prop}{F:Nat→Nat}{ps:List Pr}{i:Nat}{pr:Pr}{b:Nat→Prop}{c:Ses}(h:LW w0 w Z F ps)(hp:ps[i]? =some pr)
 (d:G1 w1 b pr.p c) (e:Rc (fun k=>F k=2*i+2) b w w1):Lb (fun k=>Z k∨b k) w1 (fun k=>Vz F (2*i+2) b k=2*i+3) pr.y pr.b:=by
 have f:=h.prog hp d e;have g:=(tR.1 hp).1;have j:(ps.set i { pr with a:=c })[i]? =some { pr with a:=c }:=by rw[wZ g]
 have l:=f.uses i _ j;exact l
theorem Km.mono {w0 w:World}{wb n m:Nat}(h:Km w0 wb n w)(_:n≤m):Km w0 wb m w:=by
 obtain⟨Z,F,av,ps,a,b,c,_⟩:=h;exact⟨Z,F,av,ps,a,b,c,by omega⟩
theorem Km.Cm {w0 w w':World}{wb n:Nat}(h:Km w0 wb n w)(k:Ab No w w'):Km w0 wb n w':=by
 obtain⟨Z,F,av,ps,a,b,c,d⟩:=h;exact⟨Z,F,av,ps,a.Cm k,b.Cm k (fun _ e=>e.elim) (fun _ e=>e) rfl rfl,c,d⟩
section
variable {w0 w:World} {Z:Nat→Prop} {F:Nat→Nat} {ps:List Pr} {wb:Nat} {av:Value} {i:Nat} {pr:Pr}
theorem ZF (h:LW w0 w Z F ps)(g:WA w F wb av ps)(c:∀q∈ps,q.a=q.b)(hp:ps[i]? =some pr)(s t:ByteArray)(j:s.size≤maxLen) :
 Calls prog 35 #[C1 pr.p,.string s,.string t] w fun e w1=>∃x,e=.returned (.int .i64 x)∧Ab (fun k=>F k=2*i+2) w w1 ∧
  Calls prog 53 #[C1 pr.y,.string s,.string t] w1 fun e d=>e=.returned (.int .i64 x)∧Km w0 wb ps.length d:=by
 have a:=h.ses i pr hp;have l:=c pr (tV hp);rw[l] at a;have hv:=h.vg i pr hp;go_call XF a s t as e w1 ⟨rfl,_,f,b⟩;refine⟨_,rfl,b.1,?_⟩;go_call QT (h.gK hp f b) hv a.good.1.few s t j as e d ⟨rfl,m⟩;exact⟨rfl,Z9 h g c hp f b m (ZE hv s t)⟩
theorem gL (h:LW w0 w Z F ps)(j:WA w F wb av ps)(c:∀q∈ps,q.a=q.b)(hp:ps[i]? =some pr)(s:ByteArray) :
 Calls prog 17 #[C1 pr.p,.string s] w fun e w1=>∃x B d,e=.returned (.tuple #[.int .i64 x,.string B,.int .i64 d])∧Ab (fun k=>F k=2*i+2) w w1 ∧
  Calls prog 55 #[C1 pr.y,.string s] w1 fun e f=>e=.returned (.tuple #[.int .i64 x,.string B,.int .i64 d])∧Km w0 wb ps.length f:=by
 have a:=h.ses i pr hp;have l:=c pr (tV hp);rw[l] at a;have hv:=h.vg i pr hp;go_call dV a s as e w1 ⟨rfl,_,g,b⟩;refine⟨_,_,_,rfl,b.1,?_⟩;go_call YV (h.gK hp g b) a.good.1 a.good.2 s as e f ⟨rfl,m⟩;exact⟨rfl,Z9 h j c hp g b m (gI w hv s)⟩
theorem gM (h:LW w0 w Z F ps)(j:WA w F wb av ps)(c:∀q∈ps,q.a=q.b)(hp:ps[i]? =some pr)(s:ByteArray) :
 Calls prog 20 #[C1 pr.p,.string s] w fun e w1=>∃B d,e=.returned (.tuple #[.string B,.int .i64 d])∧Ab (fun k=>F k=2*i+2) w w1 ∧
  Calls prog 56 #[C1 pr.y,.string s] w1 fun e f=>e=.returned (.tuple #[.string B,.int .i64 d])∧Km w0 wb ps.length f:=by
 have a:=h.ses i pr hp;have l:=c pr (tV hp);rw[l] at a;have hv:=h.vg i pr hp;go_call dZ a s as e w1 ⟨rfl,_,g,b⟩;refine⟨_,_,rfl,b.1,?_⟩;go_call ZD (h.gK hp g b) a.good.1 hv a.good.2 s as e f ⟨rfl,m⟩;exact⟨rfl,Z9 h j c hp g b m (gJ hv a.good.1 s)⟩
theorem gN (h:LW w0 w Z F ps)(g:WA w F wb av ps)(c:∀q∈ps,q.a=q.b)(hp:ps[i]? =some pr)(m:Int) :
 Calls prog 19 #[C1 pr.p,.int .i64 m] w fun e w1=>∃B d,e=.returned (.tuple #[.string B,.int .i64 d])∧Ab (fun k=>F k=2*i+2) w w1 ∧
  Calls prog 57 #[C1 pr.y,.int .i64 m] w1 fun e f=>e=.returned (.tuple #[.string B,.int .i64 d])∧Km w0 wb ps.length f:=by
 have a:=h.ses i pr hp;have j:=c pr (tV hp);rw[j] at a;have hv:=h.vg i pr hp;have l:Km w0 wb ps.length w:=⟨Z,F,av,ps,h,g,c,tY _⟩;go_call dQ a m as e w1 ⟨rfl,_,b⟩;refine⟨_,_,rfl,b.any,?_⟩;go_call YO ((h.uses i pr hp).Ag b) a.good.1 hv m as e f ⟨rfl,n⟩;exact⟨rfl,(l.Cm b).Cm n⟩
end
structure qE where
 k:Int
 c:Int
 n:Int
 s:ByteArray
 t:ByteArray
def qE.ok (o:qE):Prop:=(-9223372036854775808≤o.c∧o.c≤9223372036854775807)∧o.s.size≤maxLen
theorem gO {w0 w:World}{wb n:Nat}(h:Km w0 wb n w)(_:n≤4000000000000)(k c m:Int)(s t:ByteArray)(af: -9223372036854775808≤c∧c≤9223372036854775807)(ag:s.size≤maxLen) :
 Calls prog 33 #[pV wb,.agg #[.int .i64 k,.int .i64 c,.int .i64 m,.string s,.string t]] w fun e w'=>e=.returned (.bool true)∧Km w0 wb (n+1) w':=by
 have L:=Ae h;obtain⟨Z,F,av,ps,f,d,g,ah⟩:=h;by_cases M:k=1
 ·subst M;have ai:=Ae (fun W=>MG s W);unfold pV;clear f d g;go_enter func33,ntmps33;go_wp21;go_call ai.o _ as e w1 ⟨rfl,a⟩;have E:xR (Ab No w w1):=((Ab.refl No w).alloc _).seq a;clear a;go_wp21;go_ret;exact⟨rfl,(L.o.Cm E.o).mono (by omega)⟩
 have a:(k == 1)=false:=by simp;omega
 by_cases N:k=2
 ·subst N;have O:=Ae (fun W (k:Ab No w W)=>MJ (f.Cm k) (d.Cm k (fun _ e=>e.elim) (fun _ e=>e) rfl rfl) g (by omega));unfold pV at O⊢;clear f d g;go_enter func33,ntmps33;go_wp21;go_call O.o _ ((Ab.refl No w).alloc _) as e w1 ⟨rfl,a⟩;have E:=Ae a;clear a;go_wp21;go_ret;exact⟨rfl,E.o.mono (by omega)⟩
 have aj:(k == 2)=false:=by simp;omega
 have ak:=Aa d.obj;obtain⟨P,cap,rfl,G,o⟩:=Lk d.own;have Q:C3 w wb 0 (.slice P ps.length cap):=(Af d.obj 0).trans rfl;have aw:C3 (w.alloc (.cells #[.int .i64 k,.int .i64 c,.int .i64 m,.string s,.string t] 66)) wb 0 (.slice P ps.length cap):=(World.cell?_alloc_past _ _ _ ak).trans Q;have ax:=Bn o
 have r:xR (Km w0 wb (n+1) w):=L.o.mono (by omega);by_cases p:ps.length=0
 ·have al:((ps.length:Int) == 0)=true:=by rw[p];rfl
  unfold pV;clear f d g G o p;go_enter func33,ntmps33;go_wp21;go_ret;exact⟨rfl,r.o.Cm ((Ab.refl No w).alloc _)⟩
 have al:((ps.length:Int) == 0)=false:=beq_eq_false_iff_ne.2 (by omega);by_cases am:k<3
 ·unfold pV;clear f d g G o p;go_enter func33,ntmps33;go_wp21;go_ret;exact⟨rfl,r.o.Cm ((Ab.refl No w).alloc _)⟩
 by_cases an:6<k
 ·unfold pV;clear f d g G o p;go_enter func33,ntmps33;go_wp21;go_ret;exact⟨rfl,r.o.Cm ((Ab.refl No w).alloc _)⟩
 have R:(0:Int)<(ps.length:Int):=by omega
 have ao:=MH c ps.length R;obtain⟨i,hi⟩:∃i:Nat,Ss c ps.length=(i:Int):=⟨(Ss c ps.length).toNat,by omega⟩;have ap:xR (∀W,Calls prog 52 #[.int .i64 c,.int .i64 (ps.length:Int)] W fun e w'=>e=.returned (.int .i64 (i:Int))∧w'=W):=fun W=>by have:=ZB c ps.length W af ⟨R,by omega⟩;rw[hi] at this;exact this
 have S:i<ps.length:=by omega
 have ay:(i:Int)<(ps.length:Int):=by omega
 have az:=Bm i
 obtain⟨pr,hp⟩:∃pr,ps[i]? =some pr:=⟨_,tT S⟩;obtain⟨H,T⟩:=TY ps i pr hp;obtain⟨b,j,_,rfl,-,-,U,-,I⟩:=On d.own H;have c1:C3 w b (j+i*2) (C1 pr.p):=I _ _ H;have c2:C3 w b (j+i*2+1) (C1 pr.y):=I _ _ T;have a1:C3 (w.alloc (.cells #[.int .i64 k,.int .i64 c,.int .i64 m,.string s,.string t] 66)) b (j+i*2) (C1 pr.p):=(World.cell?_alloc_past _ _ _ U).trans c1;have a2:C3 (w.alloc (.cells #[.int .i64 k,.int .i64 c,.int .i64 m,.string s,.string t] 66)) b (j+i*2+1) (C1 pr.y):=(World.cell?_alloc_past _ _ _ U).trans c2;have a3:C3 (w.alloc (.cells #[.int .i64 k,.int .i64 c,.int .i64 m,.string s,.string t] 66)) w.heap.size 1 (.int .i64 c):=(Af (heap_alloc_new w _) 1).trans rfl;have u:=Ae (fun W (k:Ab No w W)=>f.Cm k);have v:=Ae (fun W (k:Ab No w W)=>d.Cm k (fun _ e=>e.elim) (fun _ e=>e) rfl rfl);have y:=Ae g;have V:=Ae (fun k (J:w.heap.size≤k)=>f.new J);have z:=Ae hp;have a0:=ah;have J:k=3∨k=4∨k=5∨k=6:=by omega
 unfold pV;clear f d g o p ao hi S H T I hp M N am an r;obtain⟨l,X⟩:∃l:Obj,l=.cells #[.int .i64 k,.int .i64 c,.int .i64 m,.string s,.string t] 66:=⟨_,rfl⟩;have Y:=Ae X;clear X;rcases J with rfl|rfl|rfl|rfl
 have HD:=Ae (fun W (k:Ab No w W)=>ZF (u.o W k) (v.o W k) y.o z.o s t ag);rotate_left;have HD:=Ae (fun W (k:Ab No w W)=>gL (u.o W k) (v.o W k) y.o z.o s);rotate_left;have HD:=Ae (fun W (k:Ab No w W)=>gM (u.o W k) (v.o W k) y.o z.o s);rotate_left;have HD:=Ae (fun W (k:Ab No w W)=>gN (u.o W k) (v.o W k) y.o z.o m);rotate_left
 all_goals
  clear a aj;go_enter func33,ntmps33;go_wp21
  go_region_held3 (fun w'=>w'.cell? ⟨wb,0,none⟩=some (.slice (some ⟨b,j,none⟩) ps.length cap)∧w'.cell? ⟨b,j+i*2,none⟩=some (.pointer (some ⟨pr.p,0,none⟩))∧w'.cell? ⟨b,j+i*2+1,none⟩=some (.pointer (some ⟨pr.y,0,none⟩))∧w'.cell? ⟨w.heap.size,1,none⟩=some (.int .i64 c)) (go_keep)
   (first
     |(go_at_call 52;go_call ap.o _ as e w1 ⟨rfl,aq⟩;subst aq))
  all_goals
   clear Q c1 c2;go_wp21;rw[←Y.o];obtain⟨W,q⟩:∃W,(((w.alloc l).alloc (.cells #[C1 pr.p,.pointer (some ⟨pr.y,0,none⟩)] 109)).drew)=W:=⟨_,rfl⟩;rw[q];have aa:Ab No w W:=(by rw[←q];exact (((Ab.refl No w).alloc _).alloc _).drew);have A:W.heap[w.heap.size]? =some l:=(by rw[←q];exact (Below.heap_alloc _ _ _ (by simp)).trans (heap_alloc_new w _));have K:W.heap[w.heap.size+1]? =some (.cells #[C1 pr.p,.pointer (some ⟨pr.y,0,none⟩)] 109 (0,0)):=(by rw[←q];have ab:=heap_alloc_new (w.alloc l) (.cells #[C1 pr.p,.pointer (some ⟨pr.y,0,none⟩)] 109);rw[show (w.alloc l).heap.size=w.heap.size+1 by simp] at ab;exact ab);rw[Y.o] at A;clear q;refine (HD.o _ aa).mono ?_
   first|rintro e w1 ⟨x,B,ar,rfl,a,C⟩|rintro e w1 ⟨x,ar,rfl,a,C⟩|rintro e w1 ⟨x,rfl,a,C⟩
   have D:=(a.block _ (Aa A) (by rw[V.o _ (tY _)];omega)).trans A;have ac:=(a.block _ (Aa K) (by rw[V.o _ (Nat.le_succ _)];omega)).trans K;have e2:C3 w1 w.heap.size 2 (.int .i64 m):=(Af D 2).trans rfl;have e3:C3 w1 w.heap.size 3 (.string s):=(Af D 3).trans rfl;have e4:C3 w1 w.heap.size 4 (.string t):=(Af D 4).trans rfl;have e5:C3 w1 (w.heap.size+1) 1 (C1 pr.y):=(Af ac 1).trans rfl;clear a D ac A K aa;have ad:=Ae C;clear C HD;go_wp21;go_call ad.o as e a4 ⟨rfl,ae⟩;have au:=Ae ae;clear ae ad;go_wp21;go_call U5 _ _ as e w3 ⟨rfl,rfl⟩;go_wp21;go_ret;exact⟨A5 (by simp),au.o.mono (by omega)⟩
def UA (w:World)(v:Value)(os:List qE):Prop:=∃a cap,v=.slice a os.length cap∧os.length≤cap∧cap≤maxLen∧∀(i:Nat) (o:qE),os[i]? =some o→o.ok∧∃b f,a=some ⟨b,f,none⟩∧b<w.heap.size ∧
 w.cell? ⟨b,f+i*5,none⟩=some (.int .i64 o.k)∧w.cell? ⟨b,f+i*5+1,none⟩=some (.int .i64 o.c)∧w.cell? ⟨b,f+i*5+2,none⟩=some (.int .i64 o.n)∧w.cell? ⟨b,f+i*5+3,none⟩=some (.string o.s)∧w.cell? ⟨b,f+i*5+4,none⟩=some (.string o.t)
theorem Km.start {w:World}(a:Uh w):∀(w1:World),w1=w.alloc (.cells #[.slice none 0 0] 64)→LW w w1 (fun k=>k=w.heap.size) (fun k=>if k=w.heap.size then 1 else 0) []∧WA w1 (fun k=>if k=w.heap.size then 1 else 0) w.heap.size (.slice none 0 0) []:=by
 rintro w1 rfl;have b:Ab No w (w.alloc (.cells #[.slice none 0 0] 64)):=(Ab.refl No w).alloc _;refine⟨⟨a.lt,b,a.Ag b,fun k e=>⟨by omega,by simp;omega⟩,fun k e=>?_,fun k=>by split <;> simp,(fun i pr h=>by simp at h),(fun i pr h=>by simp at h),(fun i pr h=>by simp at h)⟩,⟨heap_alloc_new w _,World.ownsRow_nil _ _ _ _,if_pos rfl,fun k e=>by simp[Value.ownBlock] at e⟩⟩;by_cases h:k=w.heap.size
 ·exact h
 rw[if_neg h] at e;exact absurd rfl e
theorem Km.kept {w0 w:World}{wb n:Nat}(h:Km w0 wb n w):Ab No w0 w:=by
 obtain⟨Z,F,av,ps,a,_⟩:=h;exact a.kp
theorem ZH (v:Value)(os:List qE)(F:Bool)(w:World)(R:Uh w)(h:UA w v os)(S:os.length≤3000000000000) :
 Calls prog 12 #[v,.bool F] w fun e w'=>e=.returned (.bool true)∧Ab No w w':=by
 have G:=Ae h;obtain⟨a,cap,rfl,T,H,-⟩:=h;obtain⟨n,m⟩:∃n,os.length=n:=⟨_,rfl⟩;have U:=Ae m;rw[m] at T S G;rw[m];have ah:=Bn H
 have Sb:=Ae (Km.start R);clear m H;go_enter func12,ntmps12;go_wp21;obtain⟨t,u⟩:∃t,w.alloc (.cells #[.slice none 0 0] 64)=t:=⟨_,rfl⟩;rw[u];obtain⟨I,J⟩:=Sb.o t u.symm;have x:=Ae (MJ I J (fun q V=>by cases V) (by simp));unfold pV at x;clear I J u Sb;go_call x.o as e X ⟨rfl,K⟩;have Y:xR (Km w w.heap.size 1 X):=K;clear K x;go_wp21;go_loopg [7] n (fun k Z wr=>∃i:Nat,i+k=n∧Z=.int .i64 (i:Int)∧xR (Km w w.heap.size (i+1) wr))
 case atStart=>exact⟨0,by omega,rfl,Y⟩
 obtain⟨i,_,rfl,g⟩:=hrel;by_cases aa:gk=0
 ·subst aa;have ab:¬(i:Int)<(n:Int):=by omega
  go_wp21;go_ret;exact⟨rfl,g.o.kept⟩
 obtain⟨k,rfl⟩:=Bx aa;have ab:(i:Int)<(n:Int):=by omega
 have ai:=Bm i
 obtain⟨o,L⟩:∃o,os[i]? =some o:=⟨_,tT (by have:=U.o;omega)⟩;obtain⟨_,_,ac,_,_,M⟩:=G.o;injection ac with e1 e2 e3;subst e1 e3;obtain⟨y,b,f,rfl,j,z,A,B,C,D⟩:=M i o L;obtain⟨ok,N,on,p,O⟩:=o;simp only at z A B C D;have d:=g.o.kept;have aj:=(d.cell j xT).trans z;have ak:=(d.cell j xT).trans A;have al:=(d.cell j xT).trans B;have am:=(d.cell j xT).trans C;have an:=(d.cell j xT).trans D;have E:p.size≤maxLen:=y.2;have P:=Ae (fun W=>ZC p W E);have r:=Ae (fun W (ad:Km w w.heap.size (i+1) W)=>gO ad (by omega) ok N on p O y.1 E);unfold pV at r;have ae:xR (Km w w.heap.size (i+1+1) wr):=g.o.mono (by omega);clear M e2 L y z A B C D d E;go_wp21;go_call P.o _ as e w3 ⟨⟨af,rfl⟩,ag⟩;subst ag;have s:xR (Km w w.heap.size (i+1) (wr.alloc (.cells #[.int .i64 ok,.int .i64 N,.int .i64 on,.string p,.string O] 66))):=g.o.Cm ((Ab.refl No wr).alloc _);clear g ae P;cases F with
 |false =>
  go_wp21;go_call r.o _ s.o as e w4 ⟨rfl,c⟩;have l:=Ae c;clear c;go_wp21;go_roundg k
  case measure=>omega
  exact⟨i+1,by omega,by go_num,l⟩
 |true =>
  by_cases Q:ok=4
  ·subst Q;cases af with
   |false =>
    go_wp21;go_roundg k
    case measure=>omega
    exact⟨i+1,by omega,by go_num,Ae (s.o.mono (by omega))⟩
   |true =>
    go_wp21;go_call r.o _ s.o as e w4 ⟨rfl,c⟩;have l:=Ae c;clear c;go_wp21;go_roundg k
    case measure=>omega
    exact⟨i+1,by omega,by go_num,l⟩
  have ao:(ok == 4)=false:=by simpa using Q
  go_wp21;go_call r.o _ s.o as e w4 ⟨rfl,c⟩;have l:=Ae c;clear c;go_wp21;go_roundg k
  case measure=>omega
  exact⟨i+1,by omega,by go_num,l⟩
theorem gP (v:Value)(os:List qE)(w:World)(a:Uh w)(h:UA w v os)(b:os.length≤3000000000000) :
 Calls prog 11 #[v] w fun e w'=>e=.returned (.bool true)∧Ab No w w':=by
 have d:=Ae (fun W (k:Ab No w W)=>ZH v os false w a h b);clear a h b;go_enter func11,ntmps11;go_wp21;go_call d.o _ (Ab.refl _ _) as e w1 ⟨rfl,c⟩;have f:=Ae c;clear c;go_wp21;go_ret;exact⟨rfl,f.o⟩
theorem Tryz.own:ownKnob prog.godebug=none:=by kernel_rfl
theorem Tryz.laidOut:laidOutB prog=true:=by kernel_rfl
theorem lP:prog.cellsOf 66=5:=by kernel_rfl
theorem lQ:prog.bytesOf 66=56:=by kernel_rfl
theorem ZJ:prog.cellsOf 9=1:=by kernel_rfl
theorem MK {α:Type}(P:Nat→α→Prop):∀n:Nat,(∀i,i<n→∃a,P i a)→∃l:List α,l.length=n∧∀i a,l[i]? =some a→P i a
 |0,_=>⟨[],rfl,fun i a h=>by simp at h⟩
 |n+1,h=>by
  obtain⟨l,d,hp⟩:=MK P n fun i hi=>h i (by omega);obtain⟨a,f⟩:=h n (by omega);refine⟨l++[a],by simp[d],fun i b c=>?_⟩;by_cases hi:i<l.length
  ·rw[uD hi] at c;exact hp i b c
  rw[uC (by omega)] at c;have g:i-l.length=0:=by have:=(tR.1 c).1;simp at this;omega
  rw[g] at c;have e:a=b:=by simpa using c
  have e2:i=n:=by omega
  rw[←e,e2];exact f
theorem qF {C:Type}{enc:TypeId×Value→C}{W:World}{v:Value}{fuel:Nat}{x:DataW C×List MemPlace}(h:DataW.trod enc prog W 0 (fun _=>true) true fuel 22 [v]=some x) :
 ∃os,UA W v os∧(os≠[]→∃es P,x.1=.slice es P∧es.length=os.length):=by
 rcases open_slice underlying22 h with ⟨Gs,_⟩|⟨ad,l,c,m,n,D,Pl,Gs,_,hl,hm,hmm,hxe,hx⟩
 ·have e:v=.slice none 0 0:=by simpa using Gs
  exact⟨[],⟨none,0,e,tY _,vM _,fun i r hr=>by simp at hr⟩,fun Q=>absurd rfl Q⟩
 have e:v=.slice (some ad) l c:=by simpa using Gs
 subst e;rw[lP] at hx;simp at hmm;subst hmm;obtain⟨rs,A,E⟩:=MK (fun i (r:qE)=>r.ok∧W.cell? ((ad.add (i*5)).add 0)=some (.int .i64 r.k)∧W.cell? ((ad.add (i*5)).add 1)=some (.int .i64 r.c)∧W.cell? ((ad.add (i*5)).add 2)=some (.int .i64 r.n)∧W.cell? ((ad.add (i*5)).add 3)=some (.string r.s)∧W.cell? ((ad.add (i*5)).add 4)=some (.string r.t)) l (fun i hi=>by
  obtain⟨a,R,S⟩:=hx i (by omega);obtain⟨_,p,s⟩:=World.cells?_some R;obtain⟨u,_,_,_,_,T,w⟩:=DataW.trod_struct underlying66 S;have F:=w 0 _ rfl;have G:=w 1 _ rfl;have H:=w 2 _ rfl;have I:=w 3 _ rfl;have J:=w 4 _ rfl;simp at T;rw[tT (show 0<u.length by omega)] at F;rw[tT (show 1<u.length by omega)] at G;rw[tT (show 2<u.length by omega)] at H;rw[tT (show 3<u.length by omega)] at I;rw[tT (show 4<u.length by omega)] at J;obtain⟨g,hg,_,_⟩:=DataW.trod_int underlying3 F;obtain⟨t,d,_,xZ⟩:=DataW.trod_int underlying3 G;obtain⟨q,f,_,_⟩:=DataW.trod_int underlying3 H;obtain⟨k,j,_,U⟩:=DataW.trod_string underlying9 I;obtain⟨K,o,_,_⟩:=DataW.trod_string underlying9 J;have hg:(a.drop 0).take (prog.cellsOf 3)=[.int .i64 g]:=hg;have d:(a.drop 1).take (prog.cellsOf 3)=[.int .i64 t]:=d;have f:(a.drop 2).take (prog.cellsOf 3)=[.int .i64 q]:=f;have j:(a.drop 3).take (prog.cellsOf 9)=[.string k]:=j;have o:(a.drop 4).take (prog.cellsOf 9)=[.string K]:=o;rw[nB] at hg d f;rw[ZJ] at j o;have V: -9223372036854775808≤t∧t≤9223372036854775807:=by have:IntKind.i64.min≤t∧t≤IntKind.i64.max:=(by simpa [Lit.wf] using xZ);exact this
  refine⟨⟨g,t,q,k,K⟩,⟨V,U⟩,?_,?_,?_,?_,?_⟩
  ·rw[s 0 (by omega)]
   match a,p,hg with
   | [c0,c1,c2,y,z],_,hg=>simpa using hg
  ·rw[s 1 (by omega)]
   match a,p,d with
   | [c0,c1,c2,y,z],_,d=>simpa using d
  ·rw[s 2 (by omega)]
   match a,p,f with
   | [c0,c1,c2,y,z],_,f=>simpa using f
  ·rw[s 3 (by omega)]
   match a,p,j with
   | [c0,c1,c2,y,z],_,j=>simpa using j
  rw[s 4 (by omega)]
  match a,p,o with
  | [c0,c1,c2,y,z],_,o=>simpa using o)
 refine⟨rs,⟨some ad,m,by rw[A],by rw[A];exact hl,hm,fun i r hr=>?_⟩,fun _=>⟨_,_,by rw[hxe],by simp[A]⟩⟩;obtain⟨X,B,L,M,N,O⟩:=E i r hr;obtain⟨b,Y,Z⟩:=ad;obtain⟨r0,aa⟩:∃r0,rs[0]? =some r0:=⟨_,tT (Nat.lt_of_le_of_lt (vM i) (tR.1 hr).1)⟩;have ab:Z=none:=by simpa [Addr.add] using World.cell?_spot (E 0 r0 aa).2.1
 subst ab;rw[add_add,Addr.add_lit] at B L M N O;exact⟨X,b,Y,rfl,World.block_lt_of_cell? W _ B,B,by rw[wD];exact L,by rw[wD];exact M,by rw[wD];exact N,by rw[wD];exact O⟩
theorem qG:Tryz.pinned.checked.prog.funcNamed Rows.allRow.func=some 11:=by kernel_rfl
theorem qH:joinedFacts Tryz.pinned.checked.prog 11 Tryz.f11 Rows.allSpec Rows.allRow=true:=by kernel_rfl
theorem qI:Tryz.f11.isWrapper Tryz.pinned.checked.prog Rows.allRow.wrapper Rows.allRow.mainSum:=by unfold Func.isWrapper;first|(rw[if_pos (by decide +kernel)];kernel_rfl)|(rw[if_neg (by decide +kernel)];exact⟨rfl,rfl⟩)
theorem qJ:Tryz.f11.isInstance Tryz.pinned.checked.prog Rows.allRow.origin Rows.allRow.targs:=of_decide_eq_true (by kernel_rfl)
theorem lR {W:World}(h:laidMetH prog Rows.allRow.laid W):Uh W:=by
 rw[MakeChecks.laidMetH_plain _ _ _ (by kernel_rfl)] at h;obtain⟨g,t,cs,fuel,p,hg,b,c,a⟩:=Lib.laidMet.reads h (n := "internal/strconv.uint64pow10") (d:=Rows.laid_internal_strconv_uint64pow10) (by simp[Rows.allRow]);have e:prog.globalNamed "internal/strconv.uint64pow10"=some 1:=by kernel_rfl
 obtain rfl:=wU (e.symm.trans hg);have f:(prog.globals[1]?).map (·.type)=some 352:=by kernel_rfl
 obtain rfl:=wU (f.symm.trans b);have i:(Rows.laid_internal_strconv_uint64pow10:DataW Unit)=Lib.tabData .u64 Lib.pow10Tab:=by kernel_rfl
 rw[i] at a;show Lib.TabIs _ _ _ _ _;unfold Lib.TabIs;rw[c,←Lib.cells_of_tab underlying352 underlying300 (by kernel_rfl) (by kernel_rfl) a]
theorem RA (os:Os)(u:os.Started)(y:Type)(enc:TypeId×Value→y) :
 ReturnsInHanded {} Tryz.checked os 11 .any (fun w args=>(Rows.allSpec.pre enc prog Tryz.f11 [] false w args∧laidMetH prog Rows.allRow.laid w)∧sizedMet enc prog Tryz.f11 (OpenSpec.ofChange Rows.allSpec) false w args)
  (Rows.allSpec.post enc prog Tryz.f11 false true false false):=by
 refine returnsInHanded_of_change_and (C:=Tryz.checked) (X:=fun w _=>laidMetH prog Rows.allRow.laid w) (fun _ _ _ z h=>h.of_heap z) Tryz.own u (by kernel_rfl) func11
  (ChangeSpec.witness_shaped (enc:=enc) (C:=Tryz.checked) (os:=os) (X:=fun w _=>laidMetH prog Rows.allRow.laid w) false (World.laidAll prog os Rows.allRow.laid) #[.slice none 0 0] 8 (World.laidAll_os _ _ _)
   (World.shaped_of_ZipB (by kernel_rfl) (by kernel_rfl)) (by kernel_rfl) (by kernel_rfl) (by kernel_rfl)
   (by rw[MakeChecks.laidMetH_plain _ _ _ (by kernel_rfl)];exact laidMet_laidAll _ (by kernel_rfl) (by kernel_rfl))) ?_
 intro W base args A N O c d _ B D _;have f:∀(j:Nat) t v,Tryz.f11.params[j]? =some t→args[j]? =some v→Value.okWide prog W .any base t v:=c;have E:=d;obtain⟨p,q,g,F,rfl,_,_⟩:=d;have i:DataW.TrodAll enc prog W 0 (fun _=>true) true Tryz.f11.params.toList args.toList A p:=g;rw[Tryz.params11] at i f;obtain⟨b,k,rfl,rfl,l⟩:=trodAll_one i;obtain⟨rfl,rfl⟩:=trodVars_none F;have n:=l;have G:∀x∈p,x.block<W.heap.size:=by obtain⟨m,H⟩:=n;exact DataW.trod_lt m _ _ _ H
 obtain⟨r0,I,J⟩:∃os,UA W b os∧(os≠[]→∃es a,k=.slice es a∧es.length=os.length):=by obtain⟨a1,_,_,rfl⟩:=okWide_slice underlying22 (f 0 22 b rfl rfl);obtain⟨fuel,hf⟩:=l;exact qF (x:=(k,p)) (by simpa [Value.cells] using hf)
 have K:r0.length≤3000000000000:=by
  by_cases o:r0=[]
  ·rw[o];simp
  obtain⟨es,a,rfl,_⟩:=J o;have r:(es.length+a.length)*prog.bytesOf 66≤reachBytes:=sized_slice B (j:=0) (t:=22) (e:=66) (elems:=es) (spare:=a) rfl rfl underlying22;rw[lQ] at r;unfold reachBytes at r;omega
 clear g c;refine (gP b r0 W (lR D) I K).mono fun e P ⟨L,M⟩=>?_;subst L;have s:=M.toBelow;exact⟨_,rfl,_,_,_,[],_,[],E,trodAll_mk1 (shut_bool underlying4 _),(trodAll_mk1 (Below.trod Tryz.laidOut (by kernel_rfl) (of_decide_eq_true (by kernel_rfl)) n s G)),rfl,s.frame _,fun h=>by cases h⟩
theorem ZK:Rows.AllSaid :=
 OpenClaim.holds_of_wide 11 Tryz.f11 rfl rfl rfl rfl rfl rfl rfl ⟨rfl,rfl,rfl,rfl,rfl⟩ rfl rfl rfl rfl rfl qG func11 qH qJ qI
  (fun os a b enc _=>RA os a b enc)
theorem all_card:Rows.AllCardSaid :=
 Claim7.holds_tied_plain_at .later [] [.data,.data,.data,.data,.sentinel,.sentinel,.pinned] true (true, "0d3c75a6b554341e587c90e6635eed0ee75e272e87a790cb3e947bc0305c5a0b") true
  ZK (fun _ h=>by cases h) (by kernel_rfl) (fun _ h=>by cases h) all_row_tie rfl ⟨rfl,rfl⟩ (by kernel_rfl) rfl
  (fun f b hf c=>by
    obtain rfl:f=11:=wU ((show prog.funcNamed "ripple/ripplelaw.All"=some 11 by kernel_rfl).symm.trans hf)|>.symm
    obtain rfl:b=Tryz.f11:=(wU (func11.symm.trans c)).symm;exact⟨by kernel_rfl,fun j t a=>by rw[Tryz.params11] at a;have d:t∈[22]:=(by simpa using Array.mem_of_getElem? a);have e:([22].all fun g=> !prog.wantsStandIn g)=true:=(by kernel_rfl);exact (show prog.wantsStandIn t=false by simpa using uR.1 e t d)⟩)
  (by kernel_rfl)
end Go.Proofs.YtdinjjmcmfjbfaaGreatDoor
