import Derived.Test.YtdinjjmcmfjbfaaGreatDoorVgJ
import Derived.Test.YtdinjjmcmfjbfaaGreatDoorVjJ
import Derived.Test.YtdinjjmcmfjbfaaGreatDoorRbzJ
import Derived.Test.YtdinjjmcmfjbfaaGreatDoorFfeJ
set_option maxRecDepth 100000
set_option maxHeartbeats 4000000
namespace Go.Proofs.YtdinjjmcmfjbfaaGreatDoor
open Go.RowKit
open Mo (V Row Bag Q L3 Cy ty A9)
variable {Z:Nat→Prop}
theorem cG:(Tryz.prog.info? 9).map (fun i=>(i.zero,i.size,i.bytes))=some (some (.string ⟨#[]⟩),1,16):=by kernel_rfl
theorem Jc.Nf {w:World}{base:Nat}{v:Value}{a:List (List UInt8)}(h:w.ownsRow base 9 1 v a.length (a.map fun s=>.string ⟨s.toArray⟩)):Jc w v a:=by
 rcases h with ⟨_,⟨rfl,d⟩|⟨g,cap,_,rfl,_,hg,e,f,_,j⟩⟩
 ·have:a=[]:=lP d
  subst this
  exact⟨none,0,rfl,by simp,by simp,fun i s c=>by simp at c⟩
 ·refine⟨some ⟨g,0,none⟩,cap,rfl,e,f,fun i s c=>⟨g,0,rfl,Aa hg,?_⟩⟩
  have b:(a.map fun s=>(.string ⟨s.toArray⟩:Value))[i]? =some (.string ⟨s.toArray⟩):=by rw[kX,c];rfl
  rw[←j,lM] at b
  split at b
  ·rw[Ae hg,lK,←lU];exact b
  ·cases b
theorem QZ (f:List UInt8→Option (List Bool))(S:List Q)(pv tv:Value)(ts:List UT)(w:World)(N:Gi Z w pv S)(a1:S.length≤1000)(O:Lj Z w tv ts)(P:ts.length≤1000)
 (hf:∀nm,.tab nm∈S→∃(k:Nat) (t:UT) (us:List Bool),Zh ts nm=(k:Int)∧ts[k]? =some t∧t.tys=Ht us∧f nm=some us∧us.length≤6) (R:∀a2∈S,∀us,A9 f a2=some us→us≠[]∧us.length≤6) (U:∀q∈S,Mo.wf q) :
 Calls Tryz.prog 91 #[pv,tv] w fun e w'=>∃v,e=.returned v∧Jc w' v (S.map (Xo f))∧Ab No w w':=by
 have a3:=Ad U;clear U;have V:=Ad N;have X:=Ad O;have a4:=Ad hf;have a5:=Ad R;have a6:=Ad P
 obtain⟨_,a7,rfl,a8,Y,-⟩:=N
 obtain⟨n,B⟩:∃n,S.length=n:=⟨_,rfl⟩
 have C:=Ad B
 rw[B] at V a8 a1⊢
 have bo:a7≤9223372036854775807:=by unfold maxLen at Y;omega
 obtain⟨a9,ba,rfl,bb,bc,-⟩:=O
 obtain⟨bd,aa⟩:∃n,ts.length=n:=⟨_,rfl⟩
 rw[aa] at X⊢
 clear aa P
 obtain⟨ab,ac,ad,ae,af⟩:=info_parts cG
 clear B Y hf R bc bb
 go_enter Tryz.func91,Tryz.ntmps91
 go_wp2_with fail
 go_loopg [5,6] n (fun k ag j wr=>∃(i:Nat) (va:Option Addr) (l:Nat),i+k=n∧j=.int .i64 (i:Int)∧ag=.slice va i l∧oH (wr.ownsRow w.heap.size 9 1 ag i (((S.take i).map (Xo f)).map fun s=>.string ⟨s.toArray⟩))∧Ab No w wr)
 case atStart=>exact⟨0,none,0,by omega,rfl,rfl,World.ownsRow_nil _ _ _ _,Ab.refl _ _⟩
 case round =>
  obtain⟨i,va,l,_,rfl,rfl,hO,h⟩:=hrel
  by_cases be:gk=0
  ·subst be
   have bf:¬(i:Int)<(n:Int):=by omega
   have bg:oH (Jc wr (.slice va i l) (S.map (Xo f))):=by
    have ah:=hO.o
    have hi:i=S.length:=by rw[C.o];omega
    rw[show S.take i=S by rw[hi,mK]] at ah
    refine Jc.Nf (base:=w.heap.size) ?_
    rw[lB,←hi];exact ah
   have D:=Ad h;clear h;go_wp2_with fail;go_ret
   exact⟨_,rfl,bg.o,D.o⟩
  ·obtain⟨k,rfl⟩:∃k,gk=k+1:=⟨gk-1,by omega⟩
   have bf:(i:Int)<(n:Int):=by omega
   have bp:(0:Int)≤(i:Int):=by omega
   obtain⟨q,m⟩:∃q,S[i]? =some q:=⟨_,kT (by have:=C.o;omega)⟩
   obtain⟨_,_,bh,_,_,ai⟩:=V.o.Ah h
   injection bh with e1 bi bj
   subst e1
   obtain⟨b,o,p,cv,rfl,_,d,E,aj,ak⟩:=ai i q m
   have bk:((S.take i).map (Xo f)).length=i:=by rw[lB,lV,C.o];omega
   have al:oH (Jc wr (.slice va i l) ((S.take i).map (Xo f))):=by
    refine Jc.Nf (base:=w.heap.size) ?_
    rw[bk];exact hO.o
   have y:=Ad (fun W (F:Ab No wr W)=>QY (Z:=Z) f S i q p cv (.slice va i l) (.slice a9 bd ba) ts W ak (a3.o q (kW m)) aj (E.Ah F) (al.o.Ah F) ((X.o.Ah h).Ah F) a6.o (fun nm e=>a4.o nm (e ▸ kW m)) a5.o)
   have am:wr.cell? ⟨b,o+i*12,none⟩=some (.int .u8 p.verb):=d 0 _ rfl;have c1:=d 1 _ rfl;have c2:=d 2 _ rfl;have an:=d 3 _ rfl;have ao:=d 4 _ rfl;have ap:=d 5 _ rfl;have c6:=d 6 _ rfl;have aq:=d 7 _ rfl;have ar:=d 8 _ rfl;have au:=d 9 _ rfl;have av:=d 10 _ rfl;have aw:=d 11 _ rfl
   obtain⟨_,_,_,rfl⟩:∃a n c,cv=.slice a n c:=by obtain⟨a,c,e,_⟩:=E;exact⟨_,_,_,e⟩
   have D:=Ad h;have bl:=Ad m;clear h ai bi bj d E aj ak m;unfold UP.cells at y
   obtain⟨verb,name,cols,sign,mark,wit,sum,one,two,col⟩:=p
   simp only at am c1 c2 an ao ap c6 aq ar au av aw y
   go_wp2_with fail;refine (y.o _ (Ab.refl _ _)).mono ?_;rintro e G ⟨T,rfl,_,ax,H⟩;have I:oH (Ab No w G):=D.o.seq H
   have z:=Ak hO.o H (fun _ _ bm=>bm.elim)
   have ay:i+1≤maxLen:=by unfold maxLen;omega
   have az:(i+1)*16≤140737488355328:=by omega
   have bq:=I.o.size
   have A:oH (((S.take (i+1)).map (Xo f)).map (fun s=>(.string ⟨s.toArray⟩:Value))=((S.take i).map (Xo f)).map (fun s=>(.string ⟨s.toArray⟩:Value))++[.string ⟨(Yb T).toArray⟩]):=by
    show _=_
    rw[lL,bl.o,lF,lF,ax];rfl
   clear H ax y al hO am c1 c2 an ao ap c6 aq ar au av aw
   by_cases a0:6<T.length
   ·have u:Yb T=[]:=by unfold Yb;rw[if_pos a0]
    rw[u] at A
    clear u
    go_wp2_with (first
     |(at_builtin;refine wpList_append_own_at _ rfl _ _ 103 rfl w.heap.size 9 ab (.string ⟨#[]⟩) 1 16 Tryz.underlying103 ac ad ae af rfl (by decide) _ _ _ rfl (z.alloc _) ⟨G.heap.size,0,none⟩ 1 1 [.string ⟨#[]⟩] rfl rfl (cell_one_new _ _ _) (by simp[Value.oneCell']) ay az (by simp;omega) ?_;intro j w6 x J _ _)
     |fail)
    obtain⟨K,L,rfl⟩:∃a c,j=.slice a (i+1) c:=by
     rcases x.2 with ⟨_,bn⟩|⟨g,cap,cur,e,_⟩
     ·omega
     ·exact⟨_,_,e⟩
    have M:oH (Ab No w w6):=(I.o.alloc _).grown J (fun r e=>.inl (Ao z r e))
    go_roundg k
    case measure=>omega
    case rel=>exact⟨i+1,K,L,by omega,by go_num,rfl,Ad (by rw[A.o];exact x),M.o⟩
   ·have u:Yb T=T:=by unfold Yb;rw[if_neg a0]
    rw[u] at A
    clear u
    go_wp2_with (first
     |(at_builtin;refine wpList_append_own_at _ rfl _ _ 103 rfl w.heap.size 9 ab (.string ⟨#[]⟩) 1 16 Tryz.underlying103 ac ad ae af rfl (by decide) _ _ _ rfl (z.alloc _) ⟨G.heap.size,0,none⟩ 1 1 [.string ⟨T.toArray⟩] rfl rfl (cell_one_new _ _ _) (by simp[Value.oneCell']) ay az (by simp;omega) ?_;intro j w6 x J _ _)
     |fail)
    obtain⟨K,L,rfl⟩:∃a c,j=.slice a (i+1) c:=by
     rcases x.2 with ⟨_,bn⟩|⟨g,cap,cur,e,_⟩
     ·omega
     ·exact⟨_,_,e⟩
    have M:oH (Ab No w w6):=(I.o.alloc _).grown J (fun r e=>.inl (Ao z r e))
    go_roundg k
    case measure=>omega
    case rel=>exact⟨i+1,K,L,by omega,by go_num,rfl,Ad (by rw[A.o];exact x),M.o⟩
end Go.Proofs.YtdinjjmcmfjbfaaGreatDoor
namespace Go.Proofs.YtdinjjmcmfjbfaaGreatDoor
open Go.RowKit
open Mo (V Row Bag Q ty Af Bd Ac Tab B0 A9)
variable {Z:Nat→Prop}
theorem RA {w h w3:World}{Y:Nat→Prop}{y:Nat}{st:Mo.Ses}{tv vv bv d f:Value}{tcs vcs bvs:List Value}(c:Nn Z w y st tv vv bv tcs vcs bvs)(r:∀k,Y k↔Np y tv vv bv k){q:Q}{s v:Option Addr}{t u x z:Nat}
 (l:Ab (fun k=>vv.ownBlock=some k) w h) (E:h.ownsRow 0 198 1 d (st.views.length+1) (vcs++[.slice s t u])) (M:d.ownBlock=vv.ownBlock∨∃b,d.ownBlock=some b∧w.heap.size≤b)
 (m:Ab (fun k=>bv.ownBlock=some k) (h.setCell ⟨y,1,none⟩ d) w3) (F:w3.ownsRow 0 195 1 f (st.views.length+1) (bvs++[.slice v x z])) (N:f.ownBlock=bv.ownBlock∨∃b,f.ownBlock=some b∧h.heap.size≤b)
 (O:Gi (fun k=>Z k∨Np y tv d f k) (w3.setCell ⟨y,2,none⟩ f) (.slice s t u) (Dv q)) (P:(Dv q).length≤1000) (g:Dt (fun k=>Z k∨Np y tv d f k) (w3.setCell ⟨y,2,none⟩ f) (.slice v x z) (Af (Bd (Mo.Dn st.tabs) q))) :
 Td Z w Y y ⟨st.tabs,st.views++[q]⟩ (w3.setCell ⟨y,2,none⟩ f):=by
 have R:=Aa c.obj
 have T:tv.ownBlock≠some y:=Fg c.tow c.obj (by decide)
 have G:vv.ownBlock≠some y:=Fg c.vow c.obj (by decide)
 have H:bv.ownBlock≠some y:=Fg c.bow c.obj (by decide)
 have U:=Ip c.tow c.vow (by decide)
 have V:=Ip c.tow c.bow (by decide)
 have W:=Ip c.bow c.vow (by decide)
 have X:h.heap[y]? =some (.cells #[tv,vv,bv] 189 (0,0)):=(l.block y R G).trans c.obj
 have I:(h.setCell ⟨y,1,none⟩ d).heap[y]? =some (.cells #[tv,d,bv] 189 (0,0)):=by rw[Ap X];rfl
 have aa:w3.heap[y]? =some (.cells #[tv,d,bv] 189 (0,0)):=(m.block y (Aa I) H).trans I
 have ab:Ab (fun k=>k=y∨vv.ownBlock=some k∨bv.ownBlock=some k) w (h.setCell ⟨y,1,none⟩ d):=Cn (S:=fun k=>k=y∨vv.ownBlock=some k∨bv.ownBlock=some k) ⟨l.os,l.tape,l.output,l.size,fun k p j=>l.block k p (fun a=>j (.inr (.inl a)))⟩ (.inl (.inl rfl)) d
 have ac:Ab (fun k=>k=y∨vv.ownBlock=some k∨bv.ownBlock=some k) w w3:=ab.seq ⟨m.os,m.tape,m.output,m.size,fun k p j=>m.block k p (fun a=>j (.inr (.inr a)))⟩
 have i:Ab (fun k=>k=y∨vv.ownBlock=some k∨bv.ownBlock=some k) w (w3.setCell ⟨y,2,none⟩ f):=Cn ac (.inl (.inl rfl)) f
 have ah:w.heap.size≤h.heap.size:=l.size
 have A:∀k,d.ownBlock=some k→vv.ownBlock=some k∨w.heap.size≤k:=fun k e=>by
  rcases M with n|⟨b,n,g⟩
  ·exact .inl (n ▸ e)
  ·rw[n] at e;injection e with e;exact .inr (by omega)
 have B:∀k,f.ownBlock=some k→bv.ownBlock=some k∨w.heap.size≤k:=fun k e=>by
  rcases N with n|⟨b,n,g⟩
  ·exact .inl (n ▸ e)
  ·rw[n] at e;injection e with e;exact .inr (by omega)
 have C:∀k,k<w.heap.size→(Z k∨Np y tv d f k)→Z k:=fun k p a=>by
  rcases a with a|a|a|a|a
  ·exact a
  ·exact c.z (.inl a)
  ·exact c.zt k a
  ·rcases A k a with a|a
   ·exact c.zv k a
   ·omega
  ·rcases B k a with a|a
   ·exact c.zb k a
   ·omega
 have j:∀k,(k=y∨vv.ownBlock=some k∨bv.ownBlock=some k)→Z k∨Np y tv d f k:=fun k a=>.inl (c.z (a.elim .inl fun a=>a.elim (fun a=>.inr (.inr (.inl a))) fun a=>.inr (.inr (.inr a))))
 have ad:=Ak c.tow i (fun b g a=>a.elim (fun a=>T (a ▸ g)) fun a=>a.elim (fun a=>U b g a) fun a=>V b g a)
 have D:d.ownBlock≠some y:=fun e=>by
  rcases A y e with a|a
  ·exact G a
  ·omega
 have J:f.ownBlock≠some y:=fun e=>by
  rcases B y e with a|a
  ·exact H a
  ·omega
 have ae:(h.setCell ⟨y,1,none⟩ d).ownsRow 0 198 1 d (st.views.length+1) (vcs++[.slice s t u]):=Js E D d
 have K:w3.ownsRow 0 198 1 d (st.views.length+1) (vcs++[.slice s t u]):=by
  refine Ak ae m (fun b g a=>?_)
  have af:h.ownsRow 0 195 1 bv st.views.length bvs:=Ak c.bow l (fun b g a=>W b g a)
  exact Ip E af (by decide) b g a
 have L:(st.views++[q]).length=st.views.length+1:=by simp
 refine⟨Np y tv d f,⟨tv,d,f,tcs,vcs++[.slice s t u],bvs++[.slice v x z],⟨?_,ad,(c.tcs.Lv C).Br i j,?_,?_,?_,?_,.inr (.inl rfl),(fun k e=>.inr (.inr (.inl e))),(fun k e=>.inr (.inr (.inr (.inl e)))),(fun k e=>.inr (.inr (.inr (.inr e)))),?_⟩,fun _=>Iff.rfl⟩,?_,?_⟩
 ·rw[Ap aa];rfl
 ·rw[L];exact Js K D f
 ·exact ((c.vcs.Lv C).Br i j).push (by rw[c.vow.1];omega) O P
 ·rw[L];exact Js F J f
 ·have ag:=((c.bgs.Lv C).Br i j).push g
  show Cf _ _ _ ((st.views++[q]).map _)
  rw[lF];exact ag
 ·intro k a
  have ai:=i.size
  rcases a with a|a|a|a|a
  ·have:=c.old k a;omega
  ·omega
  ·have:=I4 c.tow k a;omega
  ·have:=I4 (Js K (o:=2) D f) k a;exact this
  ·have:=I4 (Js F (o:=2) J f) k a;exact this
 ·exact⟨i.os,i.tape,i.output,i.size,fun k p j=>i.block k p fun a=>j ((r k).2 (a.elim .inl fun a=>a.elim (fun a=>.inr (.inr (.inl a))) fun a=>.inr (.inr (.inr a))))⟩
 ·intro k a
  rcases a with a|a|a|a
  ·exact .inl ((r k).2 (.inl a))
  ·exact .inl ((r k).2 (.inr (.inl a)))
  ·rcases A k a with a|a
   ·exact .inl ((r k).2 (.inr (.inr (.inl a))))
   ·exact .inr a
  ·rcases B k a with a|a
   ·exact .inl ((r k).2 (.inr (.inr (.inr a))))
   ·exact .inr a
theorem dD {s:ByteArray}{q:Q}(h:Rq s 6 0 s.size q)(a:(Pl.Lp s).1=0)(d:VO s):Mo.wf q∧5*(Ac q).length+5*Mo.Ag q≤124∧Mo.Ag q≤2:=by
 obtain⟨e,_,_,_,_⟩:=Mk h (mB _)
 have g:=bY h (mB _)
 have i:s.size≤120:=by
  rcases nN 120 s.size with b|b
  ·unfold Pl.Lp at a;rw[if_pos b] at a;cases a
  ·exact b
 refine⟨e d,by omega,?_⟩
 unfold Pl.Lp at a
 rw[if_neg (by omega)] at a
 by_cases c:(Pl.Dw s).1=0
 ·rw[if_pos c] at a
  by_cases f:2<Pl.cj s s.size
  ·rw[if_pos f] at a;cases a
  ·omega
 ·rw[if_neg c] at a;exact absurd a c
end Go.Proofs.YtdinjjmcmfjbfaaGreatDoor
namespace Go.Proofs.YtdinjjmcmfjbfaaGreatDoor
open Go.RowKit
open Mo (V Row Bag Q ty Af Bd Ac Tab B0 A9)
variable {Z:Nat→Prop}
theorem RB {S:List Q}{i:Nat}{p:UP}{q:Q}(h:Kq S i p q):(∃nm,q=.tab nm∧p.verb=0∧p.name=⟨nm.toArray⟩)∨((∀nm,q≠.tab nm)∧(p.verb=83∨p.verb=80∨p.verb=74∨p.verb=85∨p.verb=68∨p.verb=71)):=by
 cases q with
 |tab nm=>exact .inl ⟨nm,rfl,h.1,h.2⟩
 |sel c k x q=>exact .inr ⟨(fun nm e=>by cases e),by rw[h.1];decide⟩
 |pick cs q=>exact .inr ⟨(fun nm e=>by cases e),by rw[h.1];decide⟩
 |join n m q r=>exact .inr ⟨(fun nm e=>by cases e),by rw[h.1];decide⟩
 |uni q r=>exact .inr ⟨(fun nm e=>by cases e),by rw[h.1];decide⟩
 |dist q=>exact .inr ⟨(fun nm e=>by cases e),by rw[h.1];decide⟩
 |grp cs s q=>exact .inr ⟨(fun nm e=>by cases e),by rw[h.1];decide⟩
theorem BN (w:World)(b o:Nat)(a x:Value)(t:TypeId):∀j v,[x][j]? =some v→((w.setCell ⟨b,o,none⟩ a).alloc (.cells #[x] t)).cell? ((⟨w.heap.size,0,none⟩:Addr).add j)=some v:=by
 have h:=cell_one_new (w.setCell ⟨b,o,none⟩ a) x t
 rw[show (w.setCell ⟨b,o,none⟩ a).heap.size=w.heap.size by simp[World.setCell]] at h
 exact h
theorem Td.Ah {w w' a:World}{Y:Nat→Prop}{y:Nat}{st:Mo.Ses}(h:Td Z w Y y st w')(k:Ab No w' a):Td Z w Y y st a:=by
 obtain⟨b,c,d,e⟩:=h
 exact⟨b,c.Ah k,d.seq k.any,e⟩
theorem fY:(Tryz.prog.info? 198).map (fun i=>(i.zero,i.size,i.bytes))=some (some (.slice none 0 0),1,24):=by kernel_rfl
theorem RC {w:World}{Y:Nat→Prop}{y:Nat}{st:Mo.Ses}(h:Jr Z w Y y st)(hg:Mo.Bj st.tabs)(_:st.views.length≤6)(s:ByteArray)(cb:VO s) :
 Calls Tryz.prog 55 #[pV y,.string s] w fun e w'=>e=.returned (VY (Iz st s).1)∧Td Z w Y y (Iz st s).2 w':=by
 have a2:=Ad h;have ap:=Ad hg;have dq:=Ad cb;clear cb
 obtain⟨tv,vv,bv,tcs,vcs,bvs,v,a3⟩:=h
 have m:=Ad v;have dr:=Ad a3;have ae:=Aa v.obj;have cc:=Ad v.obj
 obtain⟨va,L,rfl⟩:∃a c,vv=.slice a st.views.length c:=by
  rcases v.vow.2 with ⟨e,aq⟩|⟨g,cap,cur,e,_⟩
  ·exact⟨none,0,by rw[e,aq]⟩
  ·exact⟨_,_,e⟩
 obtain⟨H,I,rfl⟩:∃a c,bv=.slice a st.views.length c:=by
  rcases v.bow.2 with ⟨e,aq⟩|⟨g,cap,cur,e,_⟩
  ·exact⟨none,0,by rw[e,aq]⟩
  ·exact⟨_,_,e⟩
 obtain⟨R,U,rfl⟩:∃a c,tv=.slice a st.tabs.length c:=by
  rcases v.tow.2 with ⟨e,aq⟩|⟨g,cap,cur,e,_⟩
  ·exact⟨none,0,by rw[e,aq]⟩
  ·exact⟨_,_,e⟩
 have bj:=Ad (Pc v.tow v.tcs);have e8:st.tabs.length≤4:=hg.few;have cd:=Ad v.old;unfold pV VY JP;clear v a3 hg
 go_enter Tryz.func55,Tryz.ntmps55
 go_wp2_with fail;refine (Zj s _).mono ?_;rintro e9 af ⟨⟨bk,C,a4,rfl,ce⟩,cf⟩;have l:oH (Ab No w af):=(Ab.refl No w).below cf (kZ _);have bl:=Ad ce;clear ce cf;have a5:=(l.o.block y ae oI).trans cc.o;have bm:af.cell? ⟨y,0,none⟩=some (.slice R st.tabs.length U):=(Ae a5 0).trans rfl;have c1:af.cell? ⟨y,1,none⟩=some (.slice va st.views.length L):=(Ae a5 1).trans rfl;have c2:af.cell? ⟨y,2,none⟩=some (.slice H st.views.length I):=(Ae a5 2).trans rfl;clear a5
 by_cases ag:(Pl.Lp s).1=0
 ·obtain⟨q,hr,bn,cg⟩:=bl.o ag
  have ak:=Ad (dD hr ag dq.o);have bo:=Ad (BA hr);have a6:=Ad ag;have bp:=cg Z cd.o;have ar:=Ad bp
  rw[ag]
  obtain⟨_,_,ds,ch,ci,-⟩:=id bp
  injection ds with e1 M ah
  subst e1 ah;clear hr cg bp ag bl
  by_cases a7:st.views.length=6
  ·have dt:((st.views.length:Int) == 6)=true:=by simp;omega
   have u:oH (Iz st s=((0,[],4),st)):=by show _=_;unfold Iz;rw[if_neg (by rw[a6.o];simp),if_pos a7]
   clear a7;go_wp2_with fail;go_ret3
   refine⟨?_,by rw[u.o];exact a2.o.same l.o⟩
   rw[u.o];rfl
  ·have dt:((st.views.length:Int) == 6)=false:=by simp;omega
   have bq:=Ad a7;clear a7
   obtain⟨S,br⟩:∃S,Dv q=S:=⟨_,rfl⟩
   have D:=Ad br
   rw[br] at ar bn M ch
   obtain⟨n,N⟩:∃n,S.length=n:=⟨_,rfl⟩
   have O:=Ad N
   rw[N] at bn M ch
   subst M
   have fa:a4≤9223372036854775807:=by unfold maxLen at ci;omega
   clear br N ci;go_wp2_with fail
   go_loopg [10] C (fun k du wr=>∃i:Nat,i+k=C∧du=.int .i64 (i:Int)∧oH (∀j nm,j<i→S[j]? =some (.tab nm)→(Mo.C8 st.tabs nm).isSome=true)∧Ab No af wr)
   case atStart=>exact⟨0,by omega,rfl,Ad (fun j nm h=>by omega),Ab.refl _ _⟩
   case round =>
    obtain⟨i,_,rfl,a8,E⟩:=hrel
    have a9:=(E.cell (kV ae l.o.size) oI).trans bm;have cj:=(E.cell (kV ae l.o.size) oI).trans c1;have ck:=(E.cell (kV ae l.o.size) oI).trans c2
    by_cases dv:gk=0
    ·subst dv
     have dw:¬(i:Int)<(C:Int):=by omega
     have ba:oH (∀nm∈Ac q,(Mo.C8 st.tabs nm).isSome=true):=fun nm N=>by
      obtain⟨j,au⟩:=lW (Hq q nm N)
      rw[D.o] at au
      have fb:=(kS.1 au).1
      exact a8.o j nm (by have:=O.o;omega) au
     have cl:oH (∀nm,.tab nm∈S→∃(k:Nat) (t:Tab),Mo.C8 st.tabs nm=some t∧Zh (st.tabs.map Ku) nm=(k:Int)∧(st.tabs.map Ku)[k]? =some (Ku t)∧t∈st.tabs):=fun nm av=>by
      have v:=ba.o nm (Fu q nm (by rw[D.o];exact av))
      cases P:Mo.C8 st.tabs nm with
      |none=>rw[P] at v;cases v
      |some t =>
       obtain⟨k,a3,cm⟩:=(Nq st.tabs nm).2 t P
       exact⟨k,t,rfl,a3,by rw[kX,cm];rfl,kW cm⟩
     have cn:=Ad (fun W (al:Ab No wr W)=>QZ (Z:=Z) (Mo.Jy st.tabs) S (.slice bk C a4) (.slice R st.tabs.length U) (st.tabs.map Ku) W ((ar.o.Ah E).Ah al) (by have:=O.o;omega) (((bj.o.Ah l.o).Ah E).Ah al) (by rw[lB];omega)
      (fun nm av=>by
        obtain⟨k,t,e1,M,ah,co⟩:=cl.o nm av
        have B:=(ap.o.each t co).len
        exact⟨k,Ku t,t.ts,M,ah,rfl,by unfold Mo.Jy;rw[e1];rfl,by omega⟩)
      (fun V am us dx=>by
        have B:=Mo.Fi (Mo.F8 ap.o) V us (Rh q V ak.o.1 (by rw[D.o];exact am)).1 dx
        exact⟨fun e=>by rw[e] at B;simp at B,B.2⟩)
      (fun V am=>(Rh q V ak.o.1 (by rw[D.o];exact am)).1))
     have fc:1≤C:=by have B:=Xf q;rw[D.o,O.o] at B;omega
     have dy:oH (S[C-1]? =some q):=by
      show _=_
      have B:=Pw q
      rw[D.o,List.getLast?_eq_getElem?,O.o] at B;exact B
     have F:=Ad E;have bs:y<af.heap.size:=kV ae l.o.size;clear a8 E;go_wp2_with fail;refine (cn.o wr (Ab.refl _ _)).mono ?_;rintro e ai ⟨sv,rfl,dz,X⟩;have z:oH (Ab No af ai):=F.o.seq X
     obtain⟨_,d0,rfl,d1,cp,cq⟩:=dz
     have cr:(S.map (Xo (Mo.Jy st.tabs)))[C-1]? =some (Xo (Mo.Jy st.tabs) q):=by rw[kX,dy.o];rfl
     obtain⟨_,so,rfl,_,bb⟩:=cq _ _ cr
     rw[lB,O.o] at d1⊢
     have d2:d0≤9223372036854775807:=by unfold maxLen at cp;omega
     have g0:=(z.o.cell bs oI).trans bm;have d3:=(z.o.cell bs oI).trans c1;have d4:=(z.o.cell bs oI).trans c2;clear X cq cr cp cn a9 cj ck bm c1 c2
     have fd:(0:Int)≤(C:Int)-1:=by omega
     cases aa:A9 (Mo.Jy st.tabs) q with
     |none =>
      have u:oH (Iz st s=((0,[],6),st)):=by
       show _=_
       unfold Iz
       rw[if_neg (by rw[a6.o];simp),if_neg bq.o,bo.o]
       simp only
       rw[if_pos (lO.2 fun nm N=>ba.o nm N),aa]
      rw[O5 aa] at bb
      clear aa;go_wp2_with fail;go_ret3
      refine⟨?_,by rw[u.o];exact a2.o.same (l.o.seq z.o)⟩
      rw[u.o];rfl
     |some us =>
      have u:oH (Iz st s=(((st.views.length:Int),Bl (Mo.Cc st.tabs q),0),⟨st.tabs,st.views++[q]⟩)):=by
       show _=_
       unfold Iz
       rw[if_neg (by rw[a6.o];simp),if_neg bq.o,bo.o]
       simp only
       rw[if_pos (lO.2 fun nm N=>ba.o nm N),aa]
      have cs:oH (VG st.tabs q):=⟨ak.o.1,ba.o,by rw[aa];rfl,ak.o.2.1,ak.o.2.2⟩
      have bt:=Mo.Fi (Mo.F8 ap.o) q us ak.o.1 aa
      rw[Mp aa] at bb
      have ct:(Ht us).isEmpty=false:=T7 (fun e=>by rw[e] at bt;simp at bt)
      generalize Ht us=T at bb ct;have d5:oH (Ga Z ai):=cd.o.up (l.o.seq z.o).size
      have cu:=Ad (MG (Z:=Z) (Mo.Jy st.tabs) (Mo.Dn st.tabs) S (.slice bk C a4) (.slice R st.tabs.length U) (st.tabs.map Ku) ai (ar.o.Ah z.o) (by have:=O.o;omega) (fun e=>by have:=O.o;rw[e] at this;simp at this;omega) ((bj.o.Ah l.o).Ah z.o) (by rw[lB];omega)
       (fun nm av=>by
         obtain⟨k,t,e1,M,ah,co⟩:=cl.o nm av
         refine⟨k,Ku t,M,ah,?_⟩
         show Af t.bag=_
         unfold Mo.Dn;rw[e1]) (by rw[←D.o];exact cs.o.kF ap.o) d5.o)
      obtain⟨d6,d7,d8,d9,ea⟩:=info_parts fY
      obtain⟨eb,ec,ed,ee,ef⟩:=info_parts WW
      clear aa bt;go_wp2_with fail;refine cu.o.mono ?_;rintro e w3 ⟨eg,bc,cw,rfl,bu,bw⟩
      have eh:bc=q:=by have B:=Pw q;rw[D.o,cw] at B;injection B
      subst eh
      obtain⟨cx,cy,rfl⟩:∃a c,eg=.slice a (Af (Bd (Mo.Dn st.tabs) bc)).length c:=by obtain⟨a,_,e,_⟩:=bu;exact⟨_,_,e⟩
      have bx:=Ad bu;have aw:oH (Ab No w w3):=l.o.seq (z.o.seq bw);have ei:=Ad bw;have ax:=(aw.o.block y ae oI).trans cc.o;have cz:=Ad ax;have ej:w3.cell? ⟨y,1,none⟩=some (.slice va st.views.length L):=(Ae ax 1).trans rfl;have ek:=Aj ax 1
      have c0:=Ak m.o.vow aw.o (fun _ _ d=>d.elim)
      have c3:=Ak m.o.bow aw.o (fun _ _ d=>d.elim)
      have el:some y≠Value.ownBlock (.slice va st.views.length L):=fun x=>Fg m.o.vow m.o.obj (by decide) x.symm
      have c4:some y≠Value.ownBlock (.slice H st.views.length I):=fun x=>Fg m.o.bow m.o.obj (by decide) x.symm
      have em:=Ip m.o.bow m.o.vow (by decide)
      have en:=Aa ax
      have bd:st.views.length+1≤maxLen:=by unfold maxLen;omega
      have c5:(st.views.length+1)*24≤140737488355328:=by omega
      generalize eo:(Af (Bd (Mo.Dn st.tabs) bc)).length=c6 at bx⊢;clear bu bw ax cu g0 d3 d4 bb ct eo cw
      go_wp2_with (first
       |(at_builtin;refine wpList_append_own_at _ rfl _ _ 186 rfl 0 198 d6 (.slice none 0 0) 1 24 Tryz.underlying186 d7 d8 d9 ea rfl (by decide) _ _ _ rfl (c0.alloc _) ⟨w3.heap.size,0,none⟩ 1 1 [.slice bk C a4] rfl rfl (cell_one_new _ _ _) (by simp[Value.oneCell']) bd c5 (mB _) ?_;intro fe w4 bz an _ c7;obtain⟨J,K,rfl⟩:=Mt bz (by omega);have ay:=(an.block y (by simp;omega) el).trans ((Below.heap_alloc _ _ _ en).trans cz.o);have ep:w4.cell? ⟨y,1,none⟩=some (.slice va st.views.length L):=(Ae ay 1).trans rfl;have er:=Aj ay 1;have be:(w4.setCell ⟨y,1,none⟩ (.slice J (st.views.length+1) K)).heap[y]? =some (.cells #[.slice R st.tabs.length U,.slice J (st.views.length+1) K,.slice H st.views.length I] 189 (0,0)):=by (rw[Ap ay];rfl)
         have es:(w4.setCell ⟨y,1,none⟩ (.slice J (st.views.length+1) K)).cell? ⟨y,2,none⟩=some (.slice H st.views.length I):=(Ae be 2).trans rfl
         have c8:(w4.setCell ⟨y,1,none⟩ (.slice J (st.views.length+1) K)).ownsRow 0 195 1 (.slice H st.views.length I) st.views.length bvs:=Js (Ak (S:=fun k=>Value.ownBlock (.slice va st.views.length L)=some k) c3 (((Ab.refl _ w3).alloc _).grown an (fun r e=>.inr e)) (fun b ao d=>em b ao d)) (fun x=>c4 x.symm) _
         have c9:=Aa be
         have et:=Aa ay)
       |(at_builtin;refine wpList_append_own_at _ rfl _ _ 187 rfl 0 195 eb (.slice none 0 0) 1 24 Tryz.underlying187 ec ed ee ef rfl (by decide) _ _ _ rfl (c8.alloc _) ⟨w4.heap.size,0,none⟩ 1 1 [.slice cx c6 cy] rfl rfl (BN _ _ _ _ _ _) (by simp[Value.oneCell']) bd c5 (mB _) ?_;intro ff w5 b0 az _ da;obtain⟨ab,ac,rfl⟩:=Mt b0 (by omega);have bf:=(az.block y (by simp;omega) c4).trans ((Below.heap_alloc _ _ _ c9).trans be);have eu:w5.cell? ⟨y,2,none⟩=some (.slice H st.views.length I):=(Ae bf 2).trans rfl;have ev:=Aj bf 2)
       |fail)
      have d2:=aw.o.size
      have fg:w3.heap.size≤w4.heap.size:=by have:=an.size;simp at this;omega
      have fh:w4.heap.size≤w5.heap.size:=by have:=az.size;simp at this;omega
      have b1:oH (Ab (fun k=>k=y∨Value.ownBlock (.slice va st.views.length L)=some k∨Value.ownBlock (.slice H st.views.length I)=some k) w3 (w5.setCell ⟨y,2,none⟩ (.slice ab (st.views.length+1) ac))):=by
       have ew:Ab (fun k=>k=y∨Value.ownBlock (.slice va st.views.length L)=some k∨Value.ownBlock (.slice H st.views.length I)=some k) w3 w4:=((Ab.refl _ w3).alloc _).grown an (fun r e=>.inr (.inr (.inl e)))
       exact Cn (((Cn ew (.inl (.inl rfl)) _).alloc _).grown az (fun r e=>.inr (.inr (.inr e)))) (.inl (.inl rfl)) _
      have b2:Value.ownBlock (.slice J (st.views.length+1) K)=Value.ownBlock (.slice va st.views.length L)∨∃b,Value.ownBlock (.slice J (st.views.length+1) K)=some b∧w3.heap.size≤b:=c7.imp id fun h=>⟨_,h,by simp⟩
      have b3:Value.ownBlock (.slice ab (st.views.length+1) ac)=Value.ownBlock (.slice H st.views.length I)∨∃b,Value.ownBlock (.slice ab (st.views.length+1) ac)=some b∧w4.heap.size≤b:=da.imp id fun h=>⟨_,h,by simp⟩
      have b4:∀k,k<w3.heap.size→(Z k∨Np y (.slice R st.tabs.length U) (.slice J (st.views.length+1) K) (.slice ab (st.views.length+1) ac) k)→Z k:=fun k db d=>by
       rcases d with d|d|d|d|d
       ·exact d
       ·exact m.o.z (.inl d)
       ·exact m.o.zt k d
       ·rcases b2 with Q|⟨b,Q,dc⟩
        ·exact m.o.zv k (Q ▸ d)
        ·rw[Q] at d;injection d with d;omega
       ·rcases b3 with Q|⟨b,Q,dc⟩
        ·exact m.o.zb k (Q ▸ d)
        ·rw[Q] at d;injection d with d;omega
      have bg:∀k,(k=y∨Value.ownBlock (.slice va st.views.length L)=some k∨Value.ownBlock (.slice H st.views.length I)=some k)→Z k:=fun k d=>m.o.z (d.elim .inl fun d=>d.elim (fun d=>.inr (.inr (.inl d))) fun d=>.inr (.inr (.inr d)))
      have dd:oH (Td Z w Y y ⟨st.tabs,st.views++[bc]⟩ (w5.setCell ⟨y,2,none⟩ (.slice ab (st.views.length+1) ac))):=by
       refine RA m.o dr.o (((Ab.any aw.o).alloc _).grown an (fun r e=>.inr e)) bz (b2.imp id fun ⟨b,Q,dc⟩=>⟨b,Q,by omega⟩) (((Ab.refl _ _).alloc _).grown az (fun r e=>.inr e)) b0 b3 ?_ (by rw[D.o,O.o];exact bn) ?_
       ·rw[D.o]
        exact ((((ar.o.Ah z.o).Ah ei.o).Lv b4).Br b1.o (fun k d=>.inl (bg k d)))
       ·exact (bx.o.Lv b4).Br b1.o (fun k d=>.inl (bg k d))
      have de:=Ad (bx.o.Br b1.o bg)
      have bh:(w5.setCell ⟨y,2,none⟩ (.slice ab (st.views.length+1) ac)).heap[y]? =some (.cells #[.slice R st.tabs.length U,.slice J (st.views.length+1) K,.slice ab (st.views.length+1) ac] 189 (0,0)):=by rw[Ap bf];rfl
      clear bz an c7 ay ep er be es c8 c9 et b0 az da bf eu ev b2 b3 b4 bg c0 c3 ej ek cz
      obtain⟨aj,df⟩:∃aj,w5.setCell ⟨y,2,none⟩ (.slice ab (st.views.length+1) ac)=aj:=⟨_,rfl⟩
      rw[df] at dd de bh⊢
      have dg:aj.cell? ⟨y,1,none⟩=some (.slice J (st.views.length+1) K):=(Ae bh 1).trans rfl;have ex:=Aa bh
      have ey:=Ad (fun W (al:Ab No aj W)=>VG.tell ap.o cs.o (.slice cx c6 cy) W (de.o.Ah al))
      clear df bh
      go_region_held3 (fun w'=>w'.cell? ⟨y,1,none⟩=some (.slice J (st.views.length+1) K)) (go_keep)
       (first
         |(go_at_call 93;refine (ey.o _ (Ab.refl No aj).drew).mono ?_;rintro e w6 ⟨rfl,dh⟩;have b5:Ab No aj w6:=(Ab.refl No aj).drew.seq dh;have a0:=(b5.cell ex oI).trans dg;have ez:=Ad b5;clear dh b5))
      all_goals
       have di:IntKind.i64.wrap (st.views.length:Int)=(st.views.length:Int):=IntWalk.i64_in _ (by omega)
       rw[di]
       clear a0 dg di;go_wp2_with fail;go_ret3
       refine⟨?_,by rw[u.o];exact dd.o.Ah ez.o⟩
       rw[u.o];rfl
    ·obtain⟨k,rfl⟩:∃k,gk=k+1:=⟨gk-1,by omega⟩
     have dw:(i:Int)<(C:Int):=by omega
     have fi:(0:Int)≤(i:Int):=by omega
     obtain⟨V,b6⟩:∃V,S[i]? =some V:=⟨_,kT (by have:=O.o;omega)⟩
     obtain⟨_,_,e0,_,_,dj⟩:=ar.o.Ah E
     injection e0 with e1 M ah
     subst e1
     obtain⟨b,o,p,cv,rfl,ao,b7,e2,e3,dk⟩:=dj i V b6
     have p0:wr.cell? ⟨b,o+i*12,none⟩=some (.int .u8 p.verb):=b7 0 _ rfl;have p1:wr.cell? ⟨b,o+i*12+1,none⟩=some (.string p.name):=b7 1 _ rfl;have e4:=RB dk;have F:=Ad E;have dl:=Ad b6;have dm:y<wr.heap.size:=kV (kV ae l.o.size) E.size;clear dj M ah b7 e2 e3 dk E b6
     rcases e4 with ⟨nm,am,f,dn⟩|⟨hnt,f⟩
     ·rw[f] at p0
      rw[dn] at p1
      have bi:=Ad (fun W (al:Ab No wr W)=>Ig _ _ nm W (((bj.o.Ah l.o).Ah F.o).Ah al) (by rw[lB];omega))
      have dp:oH (S[i]? =some (.tab nm)):=by rw[←am];exact dl
      clear f dn am
      cases P:Mo.C8 st.tabs nm with
      |none =>
       have a1:=(Nq st.tabs nm).1 P
       rw[a1] at bi
       have u:oH (Iz st s=((0,[],5),st)):=by
        show _=_
        unfold Iz
        rw[if_neg (by rw[a6.o];simp),if_neg bq.o,bo.o]
        simp only
        rw[if_neg]
        intro e5
        have bd:nm∈Ac q:=Fu q nm (by rw[D.o];exact kW dp.o)
        have:=lO.1 e5 nm bd
        rw[P] at this;cases this
       clear P a1
       have db:(-1:Int)<0:=by decide
       go_wp2_with fail
       go_region_held3 (fun w'=>w'.cell? ⟨b,o+i*12,none⟩=some (.int .u8 0)∧w'.cell? ⟨b,o+i*12+1,none⟩=some (.string ⟨nm.toArray⟩)∧w'.cell? ⟨y,0,none⟩=some (.slice R st.tabs.length U)) (go_keep)
        (first
          |(go_at_call 89;refine (bi.o _ (Ab.refl No wr).drew).mono ?_;rintro e ai ⟨rfl,X⟩;have G:Ab No wr ai:=(Ab.refl No wr).drew.seq X;have a0:=(G.cell ao oI).trans p0;have b8:=(G.cell ao oI).trans p1;have b9:=(G.cell dm oI).trans a9;have z:=Ad G;clear X G))
       clear a0 b8 b9;go_wp2_with fail;go_ret3
       refine⟨?_,by rw[u.o];exact a2.o.same (l.o.seq (F.o.seq z.o))⟩
       rw[u.o];rfl
      |some t =>
       obtain⟨e6,a1,_⟩:=(Nq st.tabs nm).2 t P
       rw[a1] at bi
       have ad:oH (∀j nm,j<i+1→S[j]? =some (.tab nm)→(Mo.C8 st.tabs nm).isSome=true):=fun j e7 au A=>by
        by_cases ca:j=i
        ·subst ca
         rw[dp.o] at A
         injection A with A
         injection A with A
         rw[←A,P];rfl
        ·exact a8.o j e7 (by omega) A
       have db:¬(e6:Int)<0:=by omega
       clear P a1;go_wp2_with fail
       go_region_held3 (fun w'=>w'.cell? ⟨b,o+i*12,none⟩=some (.int .u8 0)∧w'.cell? ⟨b,o+i*12+1,none⟩=some (.string ⟨nm.toArray⟩)∧w'.cell? ⟨y,0,none⟩=some (.slice R st.tabs.length U)) (go_keep)
        (first
          |(go_at_call 89;refine (bi.o _ (Ab.refl No wr).drew).mono ?_;rintro e ai ⟨rfl,X⟩;have G:Ab No wr ai:=(Ab.refl No wr).drew.seq X;have a0:=(G.cell ao oI).trans p0;have b8:=(G.cell ao oI).trans p1;have b9:=(G.cell dm oI).trans a9;have z:=Ad G;clear X G))
       clear a0 b8 b9 p0 p1 a9 cj ck;go_wp2_with fail;go_roundg k
       case measure=>omega
       case rel=>exact⟨i+1,by omega,by go_num,ad,F.o.seq z.o⟩
     ·have ad:oH (∀j nm,j<i+1→S[j]? =some (.tab nm)→(Mo.C8 st.tabs nm).isSome=true):=fun j nm au A=>by
       by_cases ca:j=i
       ·subst ca
        rw[dl.o] at A
        injection A with A
        exact absurd A (hnt nm)
       ·exact a8.o j nm (by omega) A
      clear hnt
      rcases f with f|f|f|f|f|f
      ·rw[f] at p0
       clear f;go_wp2_with fail
       go_quiet (fail)
       go_wp2_with fail;go_roundg k
       case measure=>omega
       case rel=>exact⟨i+1,by omega,by go_num,ad,F.o.drewN _⟩
      ·rw[f] at p0
       clear f;go_wp2_with fail
       go_quiet (fail)
       go_wp2_with fail;go_roundg k
       case measure=>omega
       case rel=>exact⟨i+1,by omega,by go_num,ad,F.o.drewN _⟩
      ·rw[f] at p0
       clear f;go_wp2_with fail
       go_quiet (fail)
       go_wp2_with fail;go_roundg k
       case measure=>omega
       case rel=>exact⟨i+1,by omega,by go_num,ad,F.o.drewN _⟩
      ·rw[f] at p0
       clear f;go_wp2_with fail
       go_quiet (fail)
       go_wp2_with fail;go_roundg k
       case measure=>omega
       case rel=>exact⟨i+1,by omega,by go_num,ad,F.o.drewN _⟩
      ·rw[f] at p0
       clear f;go_wp2_with fail
       go_quiet (fail)
       go_wp2_with fail;go_roundg k
       case measure=>omega
       case rel=>exact⟨i+1,by omega,by go_num,ad,F.o.drewN _⟩
      ·rw[f] at p0
       clear f;go_wp2_with fail
       go_quiet (fail)
       go_wp2_with fail;go_roundg k
       case measure=>omega
       case rel=>exact⟨i+1,by omega,by go_num,ad,F.o.drewN _⟩
 ·have u:oH (Iz st s=((0,[],((Pl.Lp s).1:Int)),st)):=by show _=_;unfold Iz;rw[if_pos ag]
  have fj:(((Pl.Lp s).1:Int) != 0)=true:=by simp;omega
  clear ag bl;go_wp2_with fail;go_ret3
  refine⟨?_,by rw[u.o];exact a2.o.same l.o⟩
  rw[u.o];rfl
end Go.Proofs.YtdinjjmcmfjbfaaGreatDoor
namespace Go.Proofs.YtdinjjmcmfjbfaaGreatDoor
open Go.RowKit
open Mo (V Row Bag Q ty Af Bd Ac Tab B0 A9 cnt neg Nr)
variable {Z:Nat→Prop} {w:World}
theorem Vd (tb:List Tab)(nm:List UInt8):Zh (tb.map Ku) nm=Rk (Cd tb) nm:=by
 unfold Rk Zh Cd;refine Li _ _ nm ?_
 simp[List.map_map,Ku,Function.comp_def]
def Uw (tb:List Tab)(os:List E5)(i:Nat):List Tab:=Bp tb (Cu (Cd tb) (os.take i))
theorem FX (tb:List Tab)(os:List E5)(i:Nat):(Uw tb os i).length=tb.length:=by unfold Uw Bp;simp
theorem Pd (tb:List Tab)(os:List E5)(i k:Nat):(Uw tb os i)[k]? =tb[k]?.map fun t=>{ t with bag:=t.bag++Cu (Cd tb) (os.take i) k }:=by
 unfold Uw Bp;rw[lR]
theorem RD (tb:List Tab)(os:List E5):Uw tb os 0=tb:=by
 refine mG fun k=>?_
 rw[Pd]
 cases tb[k]? with
 |none=>rfl
 |some t=>simp[Cu]
theorem YA (tb:List Tab)(os:List E5)(i:Nat)(nm:List UInt8):Zh ((Uw tb os i).map Ku) nm=Rk (Cd tb) nm:=by
 rw[←Vd]
 unfold Zh;refine Li _ _ nm ?_
 refine mG fun k=>?_
 simp only[mH,kX,Pd,Option.map_map]
 rfl
theorem YB {tb:List Tab}{os:List E5}{i k:Nat}{o:E5}(ho:os[i]? =some o)(a:Rk (Cd tb) o.name=(k:Int))(b:Bag):Af (b++Cu (Cd tb) (os.take (i+1)) k)=Mo.Co o.row o.t (Af (b++Cu (Cd tb) (os.take i) k)):=by
 rw[lL,ho]
 show Af (b++Cu (Cd tb) (os.take i++[o]) k)=Af ((o.row,o.t)::(b++Cu (Cd tb) (os.take i) k))
 rw[LS a]
 refine Mo.Be.canon fun r=>?_
 simp only[Mo.Am,Mo.cnt]
 omega
theorem RE {tb:List Tab}{os:List E5}{i k:Nat}{o:E5}(ho:os[i]? =some o)(a:Rk (Cd tb) o.name≠(k:Int)):Cu (Cd tb) (os.take (i+1)) k=Cu (Cd tb) (os.take i) k:=by
 rw[lL,ho]
 exact EG a
theorem Zk.now {d:List Value}{tb:List Tab}{os:List E5}{i k:Nat}{o:E5}{t:Tab}{p:Option Addr}{n c:Nat}(h:Zk Z w d (Uw tb os i))(ho:os[i]? =some o)(e:Rk (Cd tb) o.name=(k:Int))(u:tb[k]? =some t)(v:Dt Z w (.slice p n c) (Mo.Co o.row o.t (Af (t.bag++Cu (Cd tb) (os.take i) k)))):Zk Z w (d.set (k*3+2) (.slice p n c)) (Uw tb os (i+1)):=fun j x f=>by
 rw[Pd] at f
 obtain⟨b,a,rfl⟩:=lJ.1 f
 obtain⟨g,l,m,q,r,s,y⟩:=h j { b with bag:=b.bag++Cu (Cd tb) (os.take i) j } (by rw[Pd,a];rfl)
 by_cases z:j=k
 ·subst z
  rw[u] at a
  injection a with a
  subst a
  refine⟨p,n,c,?_,?_,?_,?_⟩
  ·rw[nC (by omega)];exact q
  ·rw[nC (by omega)];exact r
  ·rw[nP (kS.1 s).1]
  ·show Dt Z w (.slice p n c) (Af (t.bag++Cu (Cd tb) (os.take (i+1)) j))
   rw[YB ho e];exact v
 ·refine⟨g,l,m,?_,?_,?_,?_⟩
  ·rw[nC (by omega)];exact q
  ·rw[nC (by omega)];exact r
  ·rw[nC (by omega)];exact s
  ·show Dt Z w (.slice g l m) (Af (b.bag++Cu (Cd tb) (os.take (i+1)) j))
   rw[RE ho (by rw[e];omega)];exact y
theorem Ve {base:Nat}{e:TypeId}{size:Nat}{g n cap:Nat}{xs:List Value}(h:w.ownsRow base e size (.slice (some ⟨g,0,none⟩) n cap) n xs)(j:Nat)(a:Value):(w.setCell ⟨g,j,none⟩ a).ownsRow base e size (.slice (some ⟨g,0,none⟩) n cap) n (xs.set j a):=by
 rcases h with ⟨c,⟨b,_⟩|⟨_,_,d,b,f,hg,i,k,l,m⟩⟩
 ·cases b
 ·injection b with e1 p o
  injection e1 with e1
  injection e1 with e1
  subst e1 o
  refine⟨by rw[List.length_set];exact c,.inr ⟨g,cap,d.setIfInBounds j a,rfl,f,?_,i,k,?_,?_⟩⟩
  ·rw[Ap hg]
  ·rw[Array.size_setIfInBounds];exact l
  ·rw[←m,Array.toList_setIfInBounds,List.take_set]
theorem T8 {tb:List Tab}{o:E5}:Ep (Cd tb) o=true↔∃(k:Nat) (t:Tab),Rk (Cd tb) o.name=(k:Int)∧tb[k]? =some t:=by
 unfold Ep
 rw[decide_eq_true_iff]
 constructor
 ·intro h
  obtain⟨k,a⟩:∃k:Nat,Rk (Cd tb) o.name=(k:Int):=⟨_,(Int.toNat_of_nonneg h).symm⟩
  obtain⟨t,b,_⟩:=JM a
  unfold Cd at b
  rw[kX] at b
  obtain⟨c,d,_⟩:=lJ.1 b
  exact⟨k,c,a,d⟩
 ·rintro⟨k,t,a,_⟩
  rw[a];omega
theorem FY {tb:List Tab}{o:E5}{k:Nat}{t:Tab}(a:Rk (Cd tb) o.name=(k:Int))(b:tb[k]? =some t):Gc (Cd tb) o=decide (o.row.map ty=t.ts):=by
 unfold Gc
 rw[a,Int.toNat_natCast]
 unfold Cd
 rw[kX,b]
 rfl
end Go.Proofs.YtdinjjmcmfjbfaaGreatDoor
