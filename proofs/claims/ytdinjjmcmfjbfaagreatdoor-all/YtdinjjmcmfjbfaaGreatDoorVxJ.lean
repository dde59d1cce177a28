import Derived.Test.YtdinjjmcmfjbfaaGreatDoorVgJ
import Derived.Test.YtdinjjmcmfjbfaaGreatDoorVjJ
import Derived.Test.YtdinjjmcmfjbfaaGreatDoorRbzJ
import Derived.Test.YtdinjjmcmfjbfaaGreatDoorFfeJ
set_option maxRecDepth 100000
set_option maxHeartbeats 4000000
namespace Go.Proofs.YtdinjjmcmfjbfaaGreatDoor
open Go.RowKit Mo Pl Tryz
section
variable {Z:Nat→Prop}
theorem lH:(prog.info? 9).map (fun i=>(i.zero,i.size,i.bytes))=some (some (.string ⟨#[]⟩),1,16):=by kernel_rfl
theorem I4.I1 {w:World}{base:Nat}{v:Value}{a:List (List UInt8)}(h:w.ownsRow base 9 1 v a.length (a.map fun s=>.string ⟨s.toArray⟩)):I4 w v a:=by
 rcases h with ⟨_,⟨rfl,d⟩|⟨g,cap,_,rfl,_,hg,e,f,_,j⟩⟩
 ·have:a=[]:=uM d;subst this;exact⟨none,0,rfl,by simp,by simp,fun i s c=>by simp at c⟩
 refine⟨some ⟨g,0,none⟩,cap,rfl,e,f,fun i s c=>⟨g,0,rfl,Aa hg,?_⟩⟩;have b:(a.map fun s=>(.string ⟨s.toArray⟩:Value))[i]? =some (.string ⟨s.toArray⟩):=by rw[tX,c];rfl
 rw[←j,uQ] at b;split at b
 ·rw[Af hg,uL,←uZ];exact b
 cases b
theorem YS (f:List UInt8→Option (List Bool))(S:List Q)(pv tv:Value)(ts:List UT)(w:World)(M:Hn Z w pv S)(az:S.length≤1000)(N:My Z w tv ts)(O:ts.length≤1000)
 (hf:∀nm,.tab nm∈S→∃(k:Nat) (t:UT) (us:List Bool),CZ ts nm=(k:Int)∧ts[k]? =some t∧t.tys=Fj us∧f nm=some us∧us.length≤6) (P:∀a0∈S,∀us,A7 f a0=some us→us≠[]∧us.length≤6) :
 Calls prog 91 #[pv,tv] w fun e w'=>∃v,e=.returned v∧I4 w' v (S.map (AC f))∧Ab No w w':=by
 have R:=Ae M;have U:=Ae N;have a1:=Ae hf;have a2:=Ae P;have a3:=Ae O;obtain⟨_,a4,rfl,a5,V,-⟩:=M;obtain⟨n,B⟩:∃n,S.length=n:=⟨_,rfl⟩;have C:=Ae B;rw[B] at R a5 az⊢;have bj:=Bn V.1
 obtain⟨a6,a7,rfl,a8,a9,-⟩:=N;obtain⟨ba,X⟩:∃n,ts.length=n:=⟨_,rfl⟩;rw[X] at U⊢;clear X O;obtain⟨Y,aa,ab,ac,ad⟩:=info_parts lH;clear B V hf P a9 a8;go_enter func91,ntmps91;go_wp21;go_loopg [5,6] n (fun k ae j wr=>∃(i:Nat) (va:Option Addr) (l:Nat),i+k=n∧j=.int .i64 (i:Int)∧ae=.slice va i l∧xR (wr.ownsRow w.heap.size 9 1 ae i (((S.take i).map (AC f)).map fun s=>.string ⟨s.toArray⟩))∧Ab No w wr)
 case atStart=>exact⟨0,none,0,by omega,rfl,rfl,World.ownsRow_nil _ _ _ _,Ab.refl _ _⟩
 obtain⟨i,va,l,_,rfl,rfl,hO,h⟩:=hrel;by_cases bb:gk=0
 ·subst bb;have bc:¬(i:Int)<(n:Int):=by omega
  have bd:xR (I4 wr (.slice va i l) (S.map (AC f))):=by have af:=hO.o;have hi:i=S.length:=(by rw[C.o];omega);rw[show S.take i=S by rw[hi,vH]] at af;refine I4.I1 (base:=w.heap.size) ?_;rw[tZ,←hi];exact af
  have D:=Ae h;clear h;go_wp21;go_ret;exact⟨_,rfl,bd.o,D.o⟩
 obtain⟨k,rfl⟩:=Bx bb;have bc:(i:Int)<(n:Int):=by omega
 have bk:=Bm i
 obtain⟨q,x⟩:∃q,S[i]? =some q:=⟨_,tT (by have:=C.o;omega)⟩;obtain⟨_,_,be,_,_,ag⟩:=R.o.Ag h;injection be with e1 e2 e3;subst e1;obtain⟨b,o,p,cv,rfl,_,d,E,ah,ai⟩:=ag i q x;have bf:((S.take i).map (AC f)).length=i:=by rw[tZ,uV,C.o];omega
 have aj:xR (I4 wr (.slice va i l) ((S.take i).map (AC f))):=by refine I4.I1 (base:=w.heap.size) ?_;rw[bf];exact hO.o
 have y:=Ae (fun W (F:Ab No wr W)=>YQ (Z:=Z) f S i q p cv (.slice va i l) (.slice a6 ba a7) ts W ai ah (E.Ag F) (aj.o.Ag F) ((U.o.Ag h).Ag F) a3.o (fun nm e=>a1.o nm (e ▸ tV x)) a2.o);have ak:C3 wr b (o+i*12) (.int .u8 p.verb):=d 0 _ rfl;have c1:=d 1 _ rfl;have c2:=d 2 _ rfl;have al:=d 3 _ rfl;have am:=d 4 _ rfl;have an:=d 5 _ rfl;have c6:=d 6 _ rfl;have ao:=d 7 _ rfl;have ap:=d 8 _ rfl;have aq:=d 9 _ rfl;have ar:=d 10 _ rfl;have au:=d 11 _ rfl;obtain⟨_,_,_,rfl⟩:∃a n c,cv=.slice a n c:=by obtain⟨a,c,e,_⟩:=E;exact⟨_,_,_,e⟩
 have D:=Ae h;have bg:=Ae x;clear h ag e2 e3 d E ah ai x;unfold UP.cells at y;obtain⟨verb,name,cols,sign,mark,wit,sum,one,two,col⟩:=p;simp only at ak c1 c2 al am an c6 ao ap aq ar au y;go_wp21;go_call y.o _ (Ab.refl _ _) as e w1 ⟨T,rfl,_,av,G⟩;have H:xR (Ab No w w1):=D.o.seq G;have z:=A4 hO.o G (fun _ _ bh=>bh.elim);have aw:i+1≤maxLen:=by unfold maxLen;omega
 have ax:(i+1)*16≤140737488355328:=by omega
 have bl:=H.o.size;have A:xR (((S.take (i+1)).map (AC f)).map (fun s=>(.string ⟨s.toArray⟩:Value))=((S.take i).map (AC f)).map (fun s=>(.string ⟨s.toArray⟩:Value))++[.string ⟨(U4 T).toArray⟩]):=by show _=_;rw[uI,bg.o,uF,uF,av];rfl
 clear G av y aj hO ak c1 c2 al am an c6 ao ap aq ar au;by_cases ay:6<T.length
 ·have m:U4 T=[]:=by unfold U4;rw[if_pos ay]
  rw[m] at A;clear m;go_wp2_with (first
   |(at_builtin;refine wpList_append_own_at _ rfl _ _ 103 rfl w.heap.size 9 Y (.string ⟨#[]⟩) 1 16 underlying103 aa ab ac ad rfl (by decide) _ _ _ rfl (z.alloc _) ⟨w1.heap.size,0,none⟩ 1 1 [.string ⟨#[]⟩] rfl rfl (cell_one_new _ _ _) (by simp[Value.oneCell']) aw ax (by simp;omega) ?_;intro j w6 u I _ _)
   |fail)
  obtain⟨J,K,rfl⟩:∃a c,j=.slice a (i+1) c:=by
   rcases u.2 with ⟨_,bi⟩|⟨g,cap,cur,e,_⟩
   ·omega
   exact⟨_,_,e⟩
  have L:xR (Ab No w w6):=(H.o.alloc _).grown I (fun r e=>.inl (Bl z r e));go_roundg k
  case measure=>omega
  exact⟨i+1,J,K,by omega,by go_num,rfl,Ae (by rw[A.o];exact u),L.o⟩
 have m:U4 T=T:=by unfold U4;rw[if_neg ay]
 rw[m] at A;clear m;go_wp2_with (first
  |(at_builtin;refine wpList_append_own_at _ rfl _ _ 103 rfl w.heap.size 9 Y (.string ⟨#[]⟩) 1 16 underlying103 aa ab ac ad rfl (by decide) _ _ _ rfl (z.alloc _) ⟨w1.heap.size,0,none⟩ 1 1 [.string ⟨T.toArray⟩] rfl rfl (cell_one_new _ _ _) (by simp[Value.oneCell']) aw ax (by simp;omega) ?_;intro j w6 u I _ _)
  |fail)
 obtain⟨J,K,rfl⟩:∃a c,j=.slice a (i+1) c:=by
  rcases u.2 with ⟨_,bi⟩|⟨g,cap,cur,e,_⟩
  ·omega
  exact⟨_,_,e⟩
 have L:xR (Ab No w w6):=(H.o.alloc _).grown I (fun r e=>.inl (Bl z r e));go_roundg k
 case measure=>omega
 exact⟨i+1,J,K,by omega,by go_num,rfl,Ae (by rw[A.o];exact u),L.o⟩
end
section
variable {Z:Nat→Prop}
theorem YT {w h w3:World}{Y:Nat→Prop}{y:Nat}{st:Ses}{tv vv bv d f:Value}{tcs vcs bvs:List Value}(c:Pt Z w y st tv vv bv tcs vcs bvs)(r:∀k,Y k↔Pu y tv vv bv k){q:Q}{s v:Option Addr}{t u x z:Nat}
 (l:Ab (fun k=>vv.ownBlock=some k) w h) (E:h.ownsRow 0 198 1 d (st.views.length+1) (vcs++[.slice s t u])) (M:d.ownBlock=vv.ownBlock∨∃b,d.ownBlock=some b∧w.heap.size≤b)
 (m:Ab (fun k=>bv.ownBlock=some k) (h.setCell ⟨y,1,none⟩ d) w3) (F:w3.ownsRow 0 195 1 f (st.views.length+1) (bvs++[.slice v x z])) (N:f.ownBlock=bv.ownBlock∨∃b,f.ownBlock=some b∧h.heap.size≤b)
 (O:Hn (fun k=>Z k∨Pu y tv d f k) (w3.setCell ⟨y,2,none⟩ f) (.slice s t u) (Ea q)) (P:(Ea q).length≤1000) (g:Ct (fun k=>Z k∨Pu y tv d f k) (w3.setCell ⟨y,2,none⟩ f) (.slice v x z) (Ad (Bg (Ed st.tabs) q))) :
 U3 Z w Y y ⟨st.tabs,st.views++[q]⟩ (w3.setCell ⟨y,2,none⟩ f):=by
 have R:=Aa c.obj;have T:tv.ownBlock≠some y:=Gj c.tow c.obj (by decide);have G:vv.ownBlock≠some y:=Gj c.vow c.obj (by decide);have H:bv.ownBlock≠some y:=Gj c.bow c.obj (by decide);have U:=J5 c.tow c.vow (by decide);have V:=J5 c.tow c.bow (by decide);have W:=J5 c.bow c.vow (by decide);have X:C2 h y #[tv,vv,bv] 189:=(l.block y R G).trans c.obj;have I:(h.setCell ⟨y,1,none⟩ d).heap[y]? =some (.cells #[tv,d,bv] 189 (0,0)):=by rw[A0 X];rfl
 have aa:C2 w3 y #[tv,d,bv] 189:=(m.block y (Aa I) H).trans I;have ab:Ab (fun k=>k=y∨vv.ownBlock=some k∨bv.ownBlock=some k) w (h.setCell ⟨y,1,none⟩ d):=Dj (S:=fun k=>k=y∨vv.ownBlock=some k∨bv.ownBlock=some k) ⟨l.os,l.tape,l.output,l.size,fun k p j=>l.block k p (fun a=>j (.inr (.inl a)))⟩ (.inl (.inl rfl)) d;have ac:Ab (fun k=>k=y∨vv.ownBlock=some k∨bv.ownBlock=some k) w w3:=ab.seq ⟨m.os,m.tape,m.output,m.size,fun k p j=>m.block k p (fun a=>j (.inr (.inr a)))⟩;have i:Ab (fun k=>k=y∨vv.ownBlock=some k∨bv.ownBlock=some k) w (w3.setCell ⟨y,2,none⟩ f):=Dj ac (.inl (.inl rfl)) f;have ah:w.heap.size≤h.heap.size:=l.size;have A:∀k,d.ownBlock=some k→vv.ownBlock=some k∨w.heap.size≤k:=fun k e=>by
  rcases M with n|⟨b,n,g⟩
  ·exact .inl (n ▸ e)
  rw[n] at e;injection e with e;exact .inr (by omega)
 have B:∀k,f.ownBlock=some k→bv.ownBlock=some k∨w.heap.size≤k:=fun k e=>by
  rcases N with n|⟨b,n,g⟩
  ·exact .inl (n ▸ e)
  rw[n] at e;injection e with e;exact .inr (by omega)
 have C:∀k,k<w.heap.size→(Z k∨Pu y tv d f k)→Z k:=fun k p a=>by
  rcases a with a|a|a|a|a
  ·exact a
  ·exact c.z (.inl a)
  ·exact c.zt k a
  ·rcases A k a with a|a
   ·exact c.zv k a
   omega
  rcases B k a with a|a
  ·exact c.zb k a
  omega
 have j:∀k,(k=y∨vv.ownBlock=some k∨bv.ownBlock=some k)→Z k∨Pu y tv d f k:=fun k a=>.inl (c.z (a.elim .inl fun a=>a.elim (fun a=>.inr (.inr (.inl a))) fun a=>.inr (.inr (.inr a))));have ad:=A4 c.tow i (fun b g a=>a.elim (fun a=>T (a ▸ g)) fun a=>a.elim (fun a=>U b g a) fun a=>V b g a);have D:d.ownBlock≠some y:=fun e=>by
  rcases A y e with a|a
  ·exact G a
  omega
 have J:f.ownBlock≠some y:=fun e=>by
  rcases B y e with a|a
  ·exact H a
  omega
 have ae:(h.setCell ⟨y,1,none⟩ d).ownsRow 0 198 1 d (st.views.length+1) (vcs++[.slice s t u]):=Lc E D d;have K:w3.ownsRow 0 198 1 d (st.views.length+1) (vcs++[.slice s t u]):=by refine A4 ae m (fun b g a=>?_);have af:h.ownsRow 0 195 1 bv st.views.length bvs:=A4 c.bow l (fun b g a=>W b g a);exact J5 E af (by decide) b g a
 have L:(st.views++[q]).length=st.views.length+1:=by simp
 refine⟨Pu y tv d f,⟨tv,d,f,tcs,vcs++[.slice s t u],bvs++[.slice v x z],⟨?_,ad,(c.tcs.Ni C).Cc i j,?_,?_,?_,?_,.inr (.inl rfl),(fun k e=>.inr (.inr (.inl e))),(fun k e=>.inr (.inr (.inr (.inl e)))),(fun k e=>.inr (.inr (.inr (.inr e)))),?_⟩,fun _=>Iff.rfl⟩,?_,?_⟩
 ·rw[A0 aa];rfl
 ·rw[L];exact Lc K D f
 ·exact ((c.vcs.Ni C).Cc i j).push (by rw[c.vow.1];omega) O P
 ·rw[L];exact Lc F J f
 ·have ag:=((c.bgs.Ni C).Cc i j).push g;show Cz _ _ _ ((st.views++[q]).map _);rw[uF];exact ag
 ·intro k a;have ai:=i.size;rcases a with a|a|a|a|a
  ·have:=c.old k a;omega
  ·omega
  ·have:=Kl c.tow k a;omega
  ·have:=Kl (Lc K (o:=2) D f) k a;exact this
  have:=Kl (Lc F (o:=2) J f) k a;exact this
 ·exact⟨i.os,i.tape,i.output,i.size,fun k p j=>i.block k p fun a=>j ((r k).2 (a.elim .inl fun a=>a.elim (fun a=>.inr (.inr (.inl a))) fun a=>.inr (.inr (.inr a))))⟩
 intro k a;rcases a with a|a|a|a
 ·exact .inl ((r k).2 (.inl a))
 ·exact .inl ((r k).2 (.inr (.inl a)))
 ·rcases A k a with a|a
  ·exact .inl ((r k).2 (.inr (.inr (.inl a))))
  exact .inr a
 rcases B k a with a|a
 ·exact .inl ((r k).2 (.inr (.inr (.inr a))))
 exact .inr a
theorem mI {s:ByteArray}{q:Q}(h:Rq s 6 0 s.size q)(a:(M2 s).1=0):Mo.wf q∧5*(Ac q).length+5*Al q≤124∧Al q≤2:=by
 obtain⟨d,_,_,_,_⟩:=Oi h (vM _);have f:=lC h (vM _);have g:s.size≤120:=by
  rcases wV 120 s.size with b|b
  ·unfold M2 at a;rw[if_pos b] at a;cases a
  exact b
 refine⟨d,by omega,?_⟩;unfold M2 at a;rw[if_neg (by omega)] at a;by_cases c:(Em s).1=0
 ·rw[if_pos c] at a;by_cases e:2<xU s s.size
  ·rw[if_pos e] at a;cases a
  omega
 rw[if_neg c] at a;exact absurd a c
end
section
variable {Z:Nat→Prop}
theorem YU {S:List Q}{i:Nat}{p:UP}{q:Q}(h:L7 S i p q):(∃nm,q=.tab nm∧p.verb=0∧p.name=⟨nm.toArray⟩)∨((∀nm,q≠.tab nm)∧(p.verb=83∨p.verb=80∨p.verb=74∨p.verb=85∨p.verb=68∨p.verb=71)):=by
 cases q with
 |tab nm=>exact .inl ⟨nm,rfl,h.1,h.2⟩
 |sel c k x q=>exact .inr ⟨(fun nm e=>by cases e),by rw[h.1];decide⟩
 |pick cs q=>exact .inr ⟨(fun nm e=>by cases e),by rw[h.1];decide⟩
 |join n m q r=>exact .inr ⟨(fun nm e=>by cases e),by rw[h.1];decide⟩
 |uni q r=>exact .inr ⟨(fun nm e=>by cases e),by rw[h.1];decide⟩
 |dist q=>exact .inr ⟨(fun nm e=>by cases e),by rw[h.1];decide⟩
 |grp cs s q=>exact .inr ⟨(fun nm e=>by cases e),by rw[h.1];decide⟩
theorem GB (w:World)(b o:Nat)(a x:Value)(t:TypeId):∀j v,[x][j]? =some v→((w.setCell ⟨b,o,none⟩ a).alloc (.cells #[x] t)).cell? ((⟨w.heap.size,0,none⟩:Addr).add j)=some v:=by
 have h:=cell_one_new (w.setCell ⟨b,o,none⟩ a) x t;rw[show (w.setCell ⟨b,o,none⟩ a).heap.size=w.heap.size by simp[World.setCell]] at h;exact h
theorem U3.Ag {w w' a:World}{Y:Nat→Prop}{y:Nat}{st:Ses}(h:U3 Z w Y y st w')(k:Ab No w' a):U3 Z w Y y st a:=by
 obtain⟨b,c,d,e⟩:=h;exact⟨b,c.Ag k,d.seq k.any,e⟩
theorem qA:(prog.info? 198).map (fun i=>(i.zero,i.size,i.bytes))=some (some (.slice none 0 0),1,24):=by kernel_rfl
theorem YV {w:World}{Y:Nat→Prop}{y:Nat}{st:Ses}(h:Lb Z w Y y st)(hg:B4 st.tabs)(_:st.views.length≤6)(s:ByteArray) :
 Calls prog 55 #[pV y,.string s] w fun e w'=>e=.returned (dU (Kd st s).1)∧U3 Z w Y y (Kd st s).2 w':=by
 have ay:=Ae h;have ak:=Ae hg;obtain⟨tv,vv,bv,tcs,vcs,bvs,v,az⟩:=h;have m:=Ae v;have dk:=Ae az;have ac:=Aa v.obj;have b8:=Ae v.obj;obtain⟨va,L,rfl⟩:∃a c,vv=.slice a st.views.length c:=by
  rcases v.vow.2 with ⟨e,al⟩|⟨g,cap,cur,e,_⟩
  ·exact⟨none,0,by rw[e,al]⟩
  exact⟨_,_,e⟩
 obtain⟨G,H,rfl⟩:∃a c,bv=.slice a st.views.length c:=by
  rcases v.bow.2 with ⟨e,al⟩|⟨g,cap,cur,e,_⟩
  ·exact⟨none,0,by rw[e,al]⟩
  exact⟨_,_,e⟩
 obtain⟨Q,R,rfl⟩:∃a c,tv=.slice a st.tabs.length c:=by
  rcases v.tow.2 with ⟨e,al⟩|⟨g,cap,cur,e,_⟩
  ·exact⟨none,0,by rw[e,al]⟩
  exact⟨_,_,e⟩
 have bg:=Ae (Rm v.tow v.tcs);have e5:st.tabs.length≤4:=hg.few;have b9:=Ae v.old;unfold pV dU PK;clear v az hg;go_enter func55,ntmps55;go_wp21;go_call DD s _ as e6 w1 ⟨⟨bh,C,a0,rfl,ca⟩,cb⟩;have l:xR (Ab No w w1):=(Ab.refl No w).below cb (tY _);have bi:=Ae ca;clear ca cb;have a1:=(l.o.block y ac xT).trans b8.o;have bj:C3 w1 y 0 (.slice Q st.tabs.length R):=(Af a1 0).trans rfl;have c1:C3 w1 y 1 (.slice va st.views.length L):=(Af a1 1).trans rfl;have c2:C3 w1 y 2 (.slice G st.views.length H):=(Af a1 2).trans rfl;clear a1;by_cases ad:(M2 s).1=0
 ·obtain⟨q,hr,bk,cc⟩:=bi.o ad;have am:=Ae (mI hr ad);have bl:=Ae (FE hr);have a2:=Ae ad;have bm:=cc Z b9.o;have an:=Ae bm;rw[ad];obtain⟨_,_,dl,cd,ce,-⟩:=id bm;injection dl with e1 e2 e3;subst e1 e3;clear hr cc bm ad bi;by_cases a3:st.views.length=6
  ·have dm:((st.views.length:Int) == 6)=true:=(by simp;omega);have u:xR (Kd st s=((0,[],4),st)):=(by show _=_;unfold Kd;rw[if_neg (by rw[a2.o];simp),if_pos a3]);clear a3;go_wp21;go_ret3;refine⟨?_,by rw[u.o];exact ay.o.same l.o⟩;rw[u.o];rfl
  have dm:((st.views.length:Int) == 6)=false:=by simp;omega
  have bn:=Ae a3;clear a3;obtain⟨S,bo⟩:∃S,Ea q=S:=⟨_,rfl⟩;have I:=Ae bo;rw[bo] at an bk e2 cd;obtain⟨n,M⟩:∃n,S.length=n:=⟨_,rfl⟩;have N:=Ae M;rw[M] at bk e2 cd;subst e2;have e7:a0≤9223372036854775807:=by unfold maxLen at ce;omega
  clear bo M ce;go_wp21;go_loopg [10] C (fun k dn wr=>∃i:Nat,i+k=C∧dn=.int .i64 (i:Int)∧xR (∀j nm,j<i→S[j]? =some (.tab nm)→(Dw st.tabs nm).isSome=true)∧Ab No w1 wr)
  case atStart=>exact⟨0,by omega,rfl,Ae (fun j nm h=>by omega),Ab.refl _ _⟩
  obtain⟨i,_,rfl,a4,D⟩:=hrel;have a5:=(D.cell (tU ac l.o.size) xT).trans bj;have cf:=(D.cell (tU ac l.o.size) xT).trans c1;have cg:=(D.cell (tU ac l.o.size) xT).trans c2;by_cases dp:gk=0
  ·subst dp;have dq:¬(i:Int)<(C:Int):=(by omega);have a6:xR (∀nm∈Ac q,(Dw st.tabs nm).isSome=true):=fun nm M=>(by obtain⟨j,ao⟩:=uY (I6 q nm M);rw[I.o] at ao;have e8:=(tR.1 ao).1;exact a4.o j nm (by have:=N.o;omega) ao);have ch:xR (∀nm,.tab nm∈S→∃(k:Nat) (t:Tab),Dw st.tabs nm=some t∧CZ (st.tabs.map Mf) nm=(k:Int)∧(st.tabs.map Mf)[k]? =some (Mf t)∧t∈st.tabs):=fun nm ap=>by
    have v:=a6.o nm (G3 q nm (by rw[I.o];exact ap));cases O:Dw st.tabs nm with
    |none=>rw[O] at v;cases v
    |some t =>obtain⟨k,az,ci⟩:=(Pv st.tabs nm).2 t O;exact⟨k,t,rfl,az,by rw[tX,ci];rfl,tV ci⟩
   have cj:=Ae (fun W (ag:Ab No wr W)=>YS (Z:=Z) (Li st.tabs) S (.slice bh C a0) (.slice Q st.tabs.length R) (st.tabs.map Mf) W ((an.o.Ag D).Ag ag) (by have:=N.o;omega) (((bg.o.Ag l.o).Ag D).Ag ag) (by rw[tZ];omega)
    (fun nm ap=>by obtain⟨k,t,e1,e2,e3,e4⟩:=ch.o nm ap;have B:=(ak.o.each t e4).len;exact⟨k,Mf t,t.ts,e2,e3,rfl,by unfold Li;rw[e1];rfl,by omega⟩)
    (fun ah a7 us dr=>by have B:=Co (Hh ak.o) ah us (Nj q ah am.o.1 (by rw[I.o];exact a7)).1 dr;exact⟨fun e=>by rw[e] at B;simp at B,B.2⟩))
   have e9:1≤C:=(by have B:=Zz q;rw[I.o,N.o] at B;omega);have ds:xR (S[C-1]? =some q):=(by show _=_;have B:=R4 q;rw[I.o,List.getLast?_eq_getElem?,N.o] at B;exact B);have E:=Ae D;have bp:y<w1.heap.size:=tU ac l.o.size;clear a4 D;go_wp21;go_call cj.o wr (Ab.refl _ _) as e ae ⟨sv,rfl,dt,U⟩;have z:xR (Ab No w1 ae):=E.o.seq U;obtain⟨_,du,rfl,dv,ck,cl⟩:=dt;have cm:(S.map (AC (Li st.tabs)))[C-1]? =some (AC (Li st.tabs) q):=(by rw[tX,ds.o];rfl);obtain⟨_,so,rfl,_,a8⟩:=cl _ _ cm;rw[tZ,N.o] at dv⊢;have dw:du≤9223372036854775807:=(by unfold maxLen at ck;omega);have g0:=(z.o.cell bp xT).trans bj;have dx:=(z.o.cell bp xT).trans c1;have dy:=(z.o.cell bp xT).trans c2;clear U cl cm ck cj a5 cf cg bj c1 c2;have fa:(0:Int)≤(C:Int)-1:=(by omega);cases V:A7 (Li st.tabs) q with
   |none =>have u:xR (Kd st s=((0,[],6),st)):=(by show _=_;unfold Kd;rw[if_neg (by rw[a2.o];simp),if_neg bn.o,bl.o];simp only;rw[if_pos (uR.2 fun nm M=>a6.o nm M),V]);rw[L8 V] at a8;clear V;go_wp21;go_ret3;refine⟨?_,by rw[u.o];exact ay.o.same (l.o.seq z.o)⟩;rw[u.o];rfl
   |some us =>
    have u:xR (Kd st s=(((st.views.length:Int),B8 (Cl st.tabs q),0),⟨st.tabs,st.views++[q]⟩)):=(by show _=_;unfold Kd;rw[if_neg (by rw[a2.o];simp),if_neg bn.o,bl.o];simp only;rw[if_pos (uR.2 fun nm M=>a6.o nm M),V]);have cn:xR (VG st.tabs q):=⟨am.o.1,a6.o,by rw[V];rfl,am.o.2.1,am.o.2.2⟩;have bq:=Co (Hh ak.o) q us am.o.1 V;rw[G2 V] at a8;have co:(Fj us).isEmpty=false:=Mg (fun e=>by rw[e] at bq;simp at bq);generalize Fj us=T at a8 co;have dz:xR (Gq Z ae):=b9.o.up (l.o.seq z.o).size
    have cp:=Ae (TI (Z:=Z) (Li st.tabs) (Ed st.tabs) S (.slice bh C a0) (.slice Q st.tabs.length R) (st.tabs.map Mf) ae (an.o.Ag z.o) (by have:=N.o;omega) (fun e=>by have:=N.o;rw[e] at this;simp at this;omega) ((bg.o.Ag l.o).Ag z.o) (by rw[tZ];omega)
     (fun nm ap=>by obtain⟨k,t,e1,e2,e3,e4⟩:=ch.o nm ap;refine⟨k,Mf t,e2,e3,?_⟩;show Ad t.bag=_;unfold Ed;rw[e1]) (by rw[←I.o];exact cn.o.tD ak.o) dz.o)
    obtain⟨d0,d1,d2,d3,d4⟩:=info_parts qA;obtain⟨d5,d6,d7,d8,d9⟩:=info_parts eU;clear V bq;go_wp21;go_call cp.o as e w3 ⟨ea,a9,cq,rfl,br,bs⟩;have eb:a9=q:=(by have B:=R4 q;rw[I.o,cq] at B;injection B);subst eb;obtain⟨cr,cs,rfl⟩:∃a c,ea=.slice a (Ad (Bg (Ed st.tabs) a9)).length c:=(by obtain⟨a,_,e,_⟩:=br;exact⟨_,_,e⟩);have bt:=Ae br;have aq:xR (Ab No w w3):=l.o.seq (z.o.seq bs);have ec:=Ae bs;have ar:=(aq.o.block y ac xT).trans b8.o;have ct:=Ae ar;have ed:C3 w3 y 1 (.slice va st.views.length L):=(Af ar 1).trans rfl;have ee:=Am ar 1;have cu:=A4 m.o.vow aq.o (fun _ _ d=>d.elim);have cw:=A4 m.o.bow aq.o (fun _ _ d=>d.elim);have ef:some y≠Value.ownBlock (.slice va st.views.length L):=fun x=>Gj m.o.vow m.o.obj (by decide) x.symm;have cx:some y≠Value.ownBlock (.slice G st.views.length H):=fun x=>Gj m.o.bow m.o.obj (by decide) x.symm;have eg:=J5 m.o.bow m.o.vow (by decide);have eh:=Aa ar;have ba:st.views.length+1≤maxLen:=(by unfold maxLen;omega);have cy:(st.views.length+1)*24≤140737488355328:=(by omega);generalize ei:(Ad (Bg (Ed st.tabs) a9)).length=cz at bt⊢;clear br bs ar cp g0 dx dy a8 co ei cq;go_wp2_with (first
     |(at_builtin;refine wpList_append_own_at _ rfl _ _ 186 rfl 0 198 d0 (.slice none 0 0) 1 24 underlying186 d1 d2 d3 d4 rfl (by decide) _ _ _ rfl (cu.alloc _) ⟨w3.heap.size,0,none⟩ 1 1 [.slice bh C a0] rfl rfl (cell_one_new _ _ _) (by simp[Value.oneCell']) ba cy (vM _) ?_;intro fb w4 bu ai _ c0;obtain⟨J,K,rfl⟩:=Rk bu (by omega);have au:=(ai.block y (by simp;omega) ef).trans ((Below.heap_alloc _ _ _ eh).trans ct.o);have ej:C3 w4 y 1 (.slice va st.views.length L):=(Af au 1).trans rfl;have ek:=Am au 1;have bb:(w4.setCell ⟨y,1,none⟩ (.slice J (st.views.length+1) K)).heap[y]? =some (.cells #[.slice Q st.tabs.length R,.slice J (st.views.length+1) K,.slice G st.views.length H] 189 (0,0)):=by (rw[A0 au];rfl)
       have el:C3 (w4.setCell ⟨y,1,none⟩ (.slice J (st.views.length+1) K)) y 2 (.slice G st.views.length H):=(Af bb 2).trans rfl;have c3:(w4.setCell ⟨y,1,none⟩ (.slice J (st.views.length+1) K)).ownsRow 0 195 1 (.slice G st.views.length H) st.views.length bvs:=Lc (A4 (S:=fun k=>Value.ownBlock (.slice va st.views.length L)=some k) cw (((Ab.refl _ w3).alloc _).grown ai (fun r e=>.inr e)) (fun b aj d=>eg b aj d)) (fun x=>cx x.symm) _;have c4:=Aa bb;have em:=Aa au)
     |(at_builtin;refine wpList_append_own_at _ rfl _ _ 187 rfl 0 195 d5 (.slice none 0 0) 1 24 underlying187 d6 d7 d8 d9 rfl (by decide) _ _ _ rfl (c3.alloc _) ⟨w4.heap.size,0,none⟩ 1 1 [.slice cr cz cs] rfl rfl (GB _ _ _ _ _ _) (by simp[Value.oneCell']) ba cy (vM _) ?_;intro fc w5 bw av _ c5;obtain⟨X,aa,rfl⟩:=Rk bw (by omega);have bc:=(av.block y (by simp;omega) cx).trans ((Below.heap_alloc _ _ _ c4).trans bb);have en:C3 w5 y 2 (.slice G st.views.length H):=(Af bc 2).trans rfl;have eo:=Am bc 2)
     |fail)
    have dw:=aq.o.size;have fd:w3.heap.size≤w4.heap.size:=(by have:=ai.size;simp at this;omega);have fe:w4.heap.size≤w5.heap.size:=(by have:=av.size;simp at this;omega);have bx:xR (Ab (fun k=>k=y∨Value.ownBlock (.slice va st.views.length L)=some k∨Value.ownBlock (.slice G st.views.length H)=some k) w3 (w5.setCell ⟨y,2,none⟩ (.slice X (st.views.length+1) aa))):=(by have ep:Ab (fun k=>k=y∨Value.ownBlock (.slice va st.views.length L)=some k∨Value.ownBlock (.slice G st.views.length H)=some k) w3 w4:=((Ab.refl _ w3).alloc _).grown ai (fun r e=>.inr (.inr (.inl e)));exact Dj (((Dj ep (.inl (.inl rfl)) _).alloc _).grown av (fun r e=>.inr (.inr (.inr e)))) (.inl (.inl rfl)) _);have bz:Value.ownBlock (.slice J (st.views.length+1) K)=Value.ownBlock (.slice va st.views.length L)∨∃b,Value.ownBlock (.slice J (st.views.length+1) K)=some b∧w3.heap.size≤b:=c0.imp id fun h=>⟨_,h,by simp⟩;have b0:Value.ownBlock (.slice X (st.views.length+1) aa)=Value.ownBlock (.slice G st.views.length H)∨∃b,Value.ownBlock (.slice X (st.views.length+1) aa)=some b∧w4.heap.size≤b:=c5.imp id fun h=>⟨_,h,by simp⟩;have b1:∀k,k<w3.heap.size→(Z k∨Pu y (.slice Q st.tabs.length R) (.slice J (st.views.length+1) K) (.slice X (st.views.length+1) aa) k)→Z k:=fun k c6 d=>by
     rcases d with d|d|d|d|d
     ·exact d
     ·exact m.o.z (.inl d)
     ·exact m.o.zt k d
     ·rcases bz with P|⟨b,P,c7⟩
      ·exact m.o.zv k (P ▸ d)
      rw[P] at d;injection d with d;omega
     rcases b0 with P|⟨b,P,c7⟩
     ·exact m.o.zb k (P ▸ d)
     rw[P] at d;injection d with d;omega
    have bd:∀k,(k=y∨Value.ownBlock (.slice va st.views.length L)=some k∨Value.ownBlock (.slice G st.views.length H)=some k)→Z k:=fun k d=>m.o.z (d.elim .inl fun d=>d.elim (fun d=>.inr (.inr (.inl d))) fun d=>.inr (.inr (.inr d)));have c8:xR (U3 Z w Y y ⟨st.tabs,st.views++[a9]⟩ (w5.setCell ⟨y,2,none⟩ (.slice X (st.views.length+1) aa))):=by
     refine YT m.o dk.o (((Ab.any aq.o).alloc _).grown ai (fun r e=>.inr e)) bu (bz.imp id fun ⟨b,P,c7⟩=>⟨b,P,by omega⟩) (((Ab.refl _ _).alloc _).grown av (fun r e=>.inr e)) bw b0 ?_ (by rw[I.o,N.o];exact bk) ?_
     ·rw[I.o];exact ((((an.o.Ag z.o).Ag ec.o).Ni b1).Cc bx.o (fun k d=>.inl (bd k d)))
     exact (bt.o.Ni b1).Cc bx.o (fun k d=>.inl (bd k d))
    have c9:=Ae (bt.o.Cc bx.o bd);have be:(w5.setCell ⟨y,2,none⟩ (.slice X (st.views.length+1) aa)).heap[y]? =some (.cells #[.slice Q st.tabs.length R,.slice J (st.views.length+1) K,.slice X (st.views.length+1) aa] 189 (0,0)):=(by rw[A0 bc];rfl);clear bu ai c0 au ej ek bb el c3 c4 em bw av c5 bc en eo bz b0 b1 bd cu cw ed ee ct;obtain⟨af,da⟩:∃af,w5.setCell ⟨y,2,none⟩ (.slice X (st.views.length+1) aa)=af:=⟨_,rfl⟩;rw[da] at c8 c9 be⊢;have db:C3 af y 1 (.slice J (st.views.length+1) K):=(Af be 1).trans rfl;have er:=Aa be;have es:=Ae (fun W (ag:Ab No af W)=>VG.tell ak.o cn.o (.slice cr cz cs) W (c9.o.Ag ag));clear da be
    go_region_held3 (fun w'=>w'.cell? ⟨y,1,none⟩=some (.slice J (st.views.length+1) K)) (go_keep)
     (first
       |(go_at_call 93;go_call es.o _ (Ab.refl No af).drew as e w6 ⟨rfl,dc⟩;have b2:Ab No af w6:=(Ab.refl No af).drew.seq dc;have aw:=(b2.cell er xT).trans db;have et:=Ae b2;clear dc b2))
    all_goals
     have dd:IntKind.i64.wrap (st.views.length:Int)=(st.views.length:Int):=IntWalk.i64_in _ (by omega);rw[dd];clear aw db dd;go_wp21;go_ret3;refine⟨?_,by rw[u.o];exact c8.o.Ag et.o⟩;rw[u.o];rfl
  obtain⟨k,rfl⟩:=Bx dp;have dq:(i:Int)<(C:Int):=by omega
  have ff:=Bm i
  obtain⟨ah,b3⟩:∃ah,S[i]? =some ah:=⟨_,tT (by have:=N.o;omega)⟩;obtain⟨_,_,eu,_,_,de⟩:=an.o.Ag D;injection eu with e1 e2 e3;subst e1;obtain⟨b,o,p,cv,rfl,aj,b4,ev,ew,df⟩:=de i ah b3;have p0:C3 wr b (o+i*12) (.int .u8 p.verb):=b4 0 _ rfl;have p1:C3 wr b (o+i*12+1) (.string p.name):=b4 1 _ rfl;have ex:=YU df;have E:=Ae D;have dg:=Ae b3;have dh:y<wr.heap.size:=tU (tU ac l.o.size) D.size;clear de e2 e3 b4 ev ew df D b3;rcases ex with ⟨nm,a7,f,di⟩|⟨hnt,f⟩
  ·rw[f] at p0;rw[di] at p1;have bf:=Ae (fun W (ag:Ab No wr W)=>Jq _ _ nm W (((bg.o.Ag l.o).Ag E.o).Ag ag) (by rw[tZ];omega));have dj:xR (S[i]? =some (.tab nm)):=(by rw[←a7];exact dg);clear f di a7;cases O:Dw st.tabs nm with
   |none =>
    have ax:=(Pv st.tabs nm).1 O;rw[ax] at bf;have u:xR (Kd st s=((0,[],5),st)):=(by show _=_;unfold Kd;rw[if_neg (by rw[a2.o];simp),if_neg bn.o,bl.o];simp only;rw[if_neg];intro ey;have ba:nm∈Ac q:=G3 q nm (by rw[I.o];exact tV dj.o);have:=uR.1 ey nm ba;rw[O] at this;cases this);clear O ax;have c6:(-1:Int)<0:=(by decide);go_wp21
    go_region_held3 (fun w'=>w'.cell? ⟨b,o+i*12,none⟩=some (.int .u8 0)∧w'.cell? ⟨b,o+i*12+1,none⟩=some (.string ⟨nm.toArray⟩)∧w'.cell? ⟨y,0,none⟩=some (.slice Q st.tabs.length R)) (go_keep)
     (first
       |(go_at_call 89;go_call bf.o _ (Ab.refl No wr).drew as e ae ⟨rfl,U⟩;have F:Ab No wr ae:=(Ab.refl No wr).drew.seq U;have aw:=(F.cell aj xT).trans p0;have b5:=(F.cell aj xT).trans p1;have b6:=(F.cell dh xT).trans a5;have z:=Ae F;clear U F))
    clear aw b5 b6;go_wp21;go_ret3;refine⟨?_,by rw[u.o];exact ay.o.same (l.o.seq (E.o.seq z.o))⟩;rw[u.o];rfl
   |some t =>
    obtain⟨ez,ax,_⟩:=(Pv st.tabs nm).2 t O;rw[ax] at bf;have ab:xR (∀j nm,j<i+1→S[j]? =some (.tab nm)→(Dw st.tabs nm).isSome=true):=fun j e0 ao A=>by
     by_cases b7:j=i
     ·subst b7;rw[dj.o] at A;injection A with A;injection A with A;rw[←A,O];rfl
     exact a4.o j e0 (by omega) A
    have c6:¬(ez:Int)<0:=(by omega);clear O ax;go_wp21
    go_region_held3 (fun w'=>w'.cell? ⟨b,o+i*12,none⟩=some (.int .u8 0)∧w'.cell? ⟨b,o+i*12+1,none⟩=some (.string ⟨nm.toArray⟩)∧w'.cell? ⟨y,0,none⟩=some (.slice Q st.tabs.length R)) (go_keep)
     (first
       |(go_at_call 89;go_call bf.o _ (Ab.refl No wr).drew as e ae ⟨rfl,U⟩;have F:Ab No wr ae:=(Ab.refl No wr).drew.seq U;have aw:=(F.cell aj xT).trans p0;have b5:=(F.cell aj xT).trans p1;have b6:=(F.cell dh xT).trans a5;have z:=Ae F;clear U F))
    clear aw b5 b6 p0 p1 a5 cf cg;go_wp21;go_roundg k
    case measure=>omega
    exact⟨i+1,by omega,by go_num,ab,E.o.seq z.o⟩
  have ab:xR (∀j nm,j<i+1→S[j]? =some (.tab nm)→(Dw st.tabs nm).isSome=true):=fun j nm ao A=>by
   by_cases b7:j=i
   ·subst b7;rw[dg.o] at A;injection A with A;exact absurd A (hnt nm)
   exact a4.o j nm (by omega) A
  clear hnt;rcases f with f|f|f|f|f|f
  ·rw[f] at p0;clear f;go_wp21;go_quiet (fail);go_wp21;go_roundg k
   case measure=>omega
   exact⟨i+1,by omega,by go_num,ab,E.o.drewN _⟩
  ·rw[f] at p0;clear f;go_wp21;go_quiet (fail);go_wp21;go_roundg k
   case measure=>omega
   exact⟨i+1,by omega,by go_num,ab,E.o.drewN _⟩
  ·rw[f] at p0;clear f;go_wp21;go_quiet (fail);go_wp21;go_roundg k
   case measure=>omega
   exact⟨i+1,by omega,by go_num,ab,E.o.drewN _⟩
  ·rw[f] at p0;clear f;go_wp21;go_quiet (fail);go_wp21;go_roundg k
   case measure=>omega
   exact⟨i+1,by omega,by go_num,ab,E.o.drewN _⟩
  ·rw[f] at p0;clear f;go_wp21;go_quiet (fail);go_wp21;go_roundg k
   case measure=>omega
   exact⟨i+1,by omega,by go_num,ab,E.o.drewN _⟩
  rw[f] at p0;clear f;go_wp21;go_quiet (fail);go_wp21;go_roundg k
  case measure=>omega
  exact⟨i+1,by omega,by go_num,ab,E.o.drewN _⟩
 have u:xR (Kd st s=((0,[],((M2 s).1:Int)),st)):=by show _=_;unfold Kd;rw[if_pos ad]
 have fg:(((M2 s).1:Int) != 0)=true:=by simp;omega
 clear ad bi;go_wp21;go_ret3;refine⟨?_,by rw[u.o];exact ay.o.same l.o⟩;rw[u.o];rfl
end
section
variable {Z:Nat→Prop} {w:World}
theorem Xm (tb:List Tab)(nm:List UInt8):CZ (tb.map Mf) nm=Tl (Cy tb) nm:=by
 unfold Tl CZ Cy;refine Mx _ _ nm ?_;simp[List.map_map,Mf,Function.comp_def]
def Ws (tb:List Tab)(os:List He)(i:Nat):List Tab:=Cb tb (Dn (Cy tb) (os.take i))
theorem MB (tb:List Tab)(os:List He)(i:Nat):(Ws tb os i).length=tb.length:=by unfold Ws Cb;simp
theorem Rn (tb:List Tab)(os:List He)(i k:Nat):(Ws tb os i)[k]? =tb[k]?.map fun t=>{ t with bag:=t.bag++Dn (Cy tb) (os.take i) k }:=by
 unfold Ws Cb;rw[uU]
theorem YW (tb:List Tab)(os:List He):Ws tb os 0=tb:=by
 refine vN fun k=>?_;rw[Rn];cases tb[k]? with
 |none=>rfl
 |some t=>simp[Dn]
theorem gF (tb:List Tab)(os:List He)(i:Nat)(nm:List UInt8):CZ ((Ws tb os i).map Mf) nm=Tl (Cy tb) nm:=by
 rw[←Xm];unfold CZ;refine Mx _ _ nm ?_;refine vN fun k=>?_;simp only[vS,tX,Rn,Option.map_map];rfl
theorem gG {tb:List Tab}{os:List He}{i k:Nat}{o:He}(ho:os[i]? =some o)(a:Tl (Cy tb) o.name=(k:Int))(b:Bag):Ad (b++Dn (Cy tb) (os.take (i+1)) k)=C5 o.row o.t (Ad (b++Dn (Cy tb) (os.take i) k)):=by
 rw[uI,ho];show Ad (b++Dn (Cy tb) (os.take i++[o]) k)=Ad ((o.row,o.t)::(b++Dn (Cy tb) (os.take i) k));rw[SX a];refine A9.canon fun r=>?_;simp only[Ah,Mo.cnt];omega
theorem YX {tb:List Tab}{os:List He}{i k:Nat}{o:He}(ho:os[i]? =some o)(a:Tl (Cy tb) o.name≠(k:Int)):Dn (Cy tb) (os.take (i+1)) k=Dn (Cy tb) (os.take i) k:=by
 rw[uI,ho];exact KD a
theorem DE.now {d:List Value}{tb:List Tab}{os:List He}{i k:Nat}{o:He}{t:Tab}{p:Option Addr}{n c:Nat}(h:DE Z w d (Ws tb os i))(ho:os[i]? =some o)(e:Tl (Cy tb) o.name=(k:Int))(u:tb[k]? =some t)(v:Ct Z w (.slice p n c) (C5 o.row o.t (Ad (t.bag++Dn (Cy tb) (os.take i) k)))):DE Z w (d.set (k*3+2) (.slice p n c)) (Ws tb os (i+1)):=fun j x f=>by
 rw[Rn] at f;obtain⟨b,a,rfl⟩:=uK.1 f;obtain⟨g,l,m,q,r,s,y⟩:=h j { b with bag:=b.bag++Dn (Cy tb) (os.take i) j } (by rw[Rn,a];rfl);by_cases z:j=k
 ·subst z;rw[u] at a;injection a with a;subst a;refine⟨p,n,c,?_,?_,?_,?_⟩
  ·rw[wM (by omega)];exact q
  ·rw[wM (by omega)];exact r
  ·rw[wZ (tR.1 s).1]
  show Ct Z w (.slice p n c) (Ad (t.bag++Dn (Cy tb) (os.take (i+1)) j));rw[gG ho e];exact v
 refine⟨g,l,m,?_,?_,?_,?_⟩
 ·rw[wM (by omega)];exact q
 ·rw[wM (by omega)];exact r
 ·rw[wM (by omega)];exact s
 show Ct Z w (.slice g l m) (Ad (b.bag++Dn (Cy tb) (os.take (i+1)) j));rw[YX ho (by rw[e];omega)];exact y
theorem Xn {base:Nat}{e:TypeId}{size:Nat}{g n cap:Nat}{xs:List Value}(h:w.ownsRow base e size (.slice (some ⟨g,0,none⟩) n cap) n xs)(j:Nat)(a:Value):(w.setCell ⟨g,j,none⟩ a).ownsRow base e size (.slice (some ⟨g,0,none⟩) n cap) n (xs.set j a):=by
 rcases h with ⟨c,⟨b,_⟩|⟨_,_,d,b,f,hg,i,k,l,m⟩⟩
 ·cases b
 injection b with e1 e2 e3;injection e1 with e1;injection e1 with e1;subst e1 e3;refine⟨by rw[List.length_set];exact c,.inr ⟨g,cap,d.setIfInBounds j a,rfl,f,?_,i,k,?_,?_⟩⟩
 ·rw[A0 hg]
 ·rw[Array.size_setIfInBounds];exact l
 rw[←m,Array.toList_setIfInBounds,List.take_set]
theorem Vy {tb:List Tab}{o:He}:Fh (Cy tb) o=true↔∃(k:Nat) (t:Tab),Tl (Cy tb) o.name=(k:Int)∧tb[k]? =some t:=by
 unfold Fh;rw[decide_eq_true_iff];constructor
 ·intro h;obtain⟨k,a⟩:∃k:Nat,Tl (Cy tb) o.name=(k:Int):=⟨_,(Int.toNat_of_nonneg h).symm⟩;obtain⟨t,b,_⟩:=PH a;unfold Cy at b;rw[tX] at b;obtain⟨c,d,_⟩:=uK.1 b;exact⟨k,c,a,d⟩
 rintro⟨k,t,a,_⟩;rw[a];omega
theorem MC {tb:List Tab}{o:He}{k:Nat}{t:Tab}(a:Tl (Cy tb) o.name=(k:Int))(b:tb[k]? =some t):Hm (Cy tb) o=decide (o.row.map ty=t.ts):=by
 unfold Hm;rw[a,Int.toNat_natCast];unfold Cy;rw[tX,b];rfl
end
end Go.Proofs.YtdinjjmcmfjbfaaGreatDoor
