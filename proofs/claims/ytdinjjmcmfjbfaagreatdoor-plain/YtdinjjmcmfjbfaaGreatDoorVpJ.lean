import Derived.Test.YtdinjjmcmfjbfaaGreatDoorVoJ
set_option maxRecDepth 100000
set_option maxHeartbeats 4000000
namespace Go.Proofs.YtdinjjmcmfjbfaaGreatDoor
open Go.RowKit
open Mo (V Row)
theorem Mt {w:World}{base:Nat}{e:TypeId}{size:Nat}{v:Value}{n:Nat}{xs:List Value}(h:w.ownsRow base e size v n xs)(_:0<n):∃a c,v=.slice a n c:=by
 rcases h.2 with ⟨_,_⟩|⟨g,cap,cur,e,_⟩
 ·omega
 ·exact⟨_,_,e⟩
theorem Nx (W:World)(o:Obj)(a v b:Value)(t:TypeId):∀j x,[a,v,b][j]? =some x→((W.alloc o).alloc (.cells #[a,v,b] t)).cell? ((⟨W.heap.size+1,0,none⟩:Addr).add j)=some x:=by
 have h:=Du (W.alloc o) a v b t
 rw[show (W.alloc o).heap.size=W.heap.size+1 by simp] at h
 exact h
def Va (s:ByteArray)(w:World)(v:Value)(ok:Bool)(w':World):Prop:=(Ci s=none→ok=false)∧∀os,Ci s=some os→ok=true∧∀Z,Ga Z w→Sz Z w' v os
theorem QL (s:ByteArray)(w:World)(_:s.size≤300) :
 Calls Tryz.prog 94 #[.string s] w fun K w'=>∃dp n c ok,K=.returned (.tuple #[.slice dp n c,.bool ok])∧Va s w (.slice dp n c) ok w'∧Ab No w w':=by
 by_cases al:s.size=0
 ·have dq:oH (Ci s=some []):=by show _=_;unfold Ci;rw[if_pos al]
  obtain rfl:s=⟨#[]⟩:=by
   apply ByteArray.ext
   exact Array.eq_empty_of_size_eq_zero al
  clear al
  go_enter Tryz.func94,Tryz.ntmps94
  go_wp2_with fail;go_ret2
  refine⟨none,0,0,true,rfl,?_,Ab.refl _ _⟩
  refine⟨(fun e=>by rw[dq.o] at e;cases e),fun os e=>⟨rfl,fun Z _=>?_⟩⟩
  rw[dq.o] at e
  injection e with e
  subst e
  exact⟨none,0,rfl,by simp,by simp,fun i c d4=>by simp at d4⟩
 ·have d5:s.toList.isEmpty=false:=by
   rw[List.isEmpty_eq_false_iff,ByteArray.toList_eq]
   intro e
   apply al
   rw[←Lr,e];rfl
  have cv:oH (RR w.heap.size s 0 0 0 0 (.slice none 0 0) (w.alloc (.cells #[.string s,.int .i64 0,.int .i64 0,.int .i64 0,.int .i64 0,.slice none 0 0] 258))):=⟨by omega,heap_alloc_new w _⟩
  have dr:oH (Ab No w (w.alloc (.cells #[.string s,.int .i64 0,.int .i64 0,.int .i64 0,.int .i64 0,.slice none 0 0] 258))):=(Ab.refl No w).alloc _;have d6:oH (Ms s 0 0 true [] (s.size+1)):=Ms.start al
  obtain⟨ds,dt,du,dv,dw⟩:=info_parts WL
  obtain⟨cn,co,cp,cq,cr⟩:=info_parts fJ
  have ee:=Ad al;clear al
  go_enter Tryz.func94,Tryz.ntmps94
  go_wp2_with fail
  obtain⟨B,hB⟩:∃B,w.heap.size=B:=⟨_,rfl⟩
  have ef:=hB
  rw[hB] at cv⊢
  obtain⟨cw,cx⟩:∃cw,w.alloc (.cells #[.string s,.int .i64 0,.int .i64 0,.int .i64 0,.int .i64 0,.slice none 0 0] 258)=cw:=⟨_,rfl⟩
  rw[cx] at cv dr⊢
  have eg:B<cw.heap.size:=by rw[←cx,←hB];simp
  clear cx hB d5
  go_loopg [4,6] (s.size+1) (fun k cy b3 wr=>∃(e a:Nat) (cs:Bool) (os:List E5) (n:Nat) (xs:List Value) (va:Option Addr) (p:Nat),n+k≤s.size+1∧b3=.bool cs∧cy=.slice va n p∧oH (Ms s e a cs os k)∧oH (RR B s a 0 e 0 (.slice none 0 0) wr)∧oH (wr.ownsRow (B+1) 213 3 (.slice va n p) n xs)∧oH (e=0→n=os.length∧CL (B+1) wr xs os)∧oH (Ab No w wr))
  case atStart=>exact⟨0,0,true,[],0,[],none,0,by omega,rfl,rfl,d6,cv,World.ownsRow_nil _ _ _ _,Ad (fun _=>⟨rfl,fun i o ho=>by simp at ho⟩),dr⟩
  case round =>
   obtain⟨e,a,cs,os,n,xs,va,p,_,rfl,rfl,a9,a3,hO,cz,C⟩:=hrel
   cases cs with
   |false =>
    have c1:=a3.o.c1;have eh:=a3.o.c3;have ei:=a3.o.1
    by_cases b4:e=0
    ·subst b4
     by_cases b5:a=s.size
     ·have d7:((a:Int) == (s.size:Int))=true:=by simp[b5]
      have b6:oH (∀W,Ab No wr W→Va s w (.slice va n p) true W):=by
       intro W c0;have u:=a9.o.2.2 rfl rfl
       rw[if_pos b5] at u
       refine⟨(fun e=>by rw[u] at e;cases e),fun dx e=>⟨rfl,fun Z d8=>?_⟩⟩
       rw[u] at e
       injection e with e
       subst e
       exact (XB hO.o (cz.o rfl).1 (cz.o rfl).2 (fun k d=>by have:=d8 k d;omega)).Ah c0
      clear b5;go_wp2_with fail
      go_quiet (fail)
      go_wp2_with fail;go_ret2
      exact⟨_,_,_,true,rfl,b6.o _ ((Ab.refl No wr).drewN _),C.o.drewN _⟩
     ·have d7:((a:Int) == (s.size:Int))=false:=by simp;omega
      have b6:oH (∀W,Ab No wr W→Va s w (.slice va n p) false W):=by
       intro W c0;have u:=a9.o.2.2 rfl rfl
       rw[if_neg b5] at u
       exact⟨fun _=>rfl,fun dx e=>by rw[u] at e;cases e⟩
      clear b5;go_wp2_with fail
      go_quiet (fail)
      go_wp2_with fail;go_ret2
      exact⟨_,_,_,false,rfl,b6.o _ ((Ab.refl No wr).drewN _),C.o.drewN _⟩
    ·have dy:((e:Int) == 0)=false:=by simp;omega
     have b6:oH (∀W,Ab No wr W→Va s w (.slice va n p) false W):=by
      intro W c0;have u:=a9.o.1 b4
      exact⟨fun _=>rfl,fun dx e=>by rw[u] at e;cases e⟩
     clear b4;go_wp2_with fail
     go_quiet (fail)
     go_wp2_with fail;go_ret2
     exact⟨_,_,_,false,rfl,b6.o _ ((Ab.refl No wr).drewN _),C.o.drewN _⟩
   |true =>
    obtain⟨b4,_,_⟩:=a9.o.2.1 rfl
    subst b4;have ct:=Ad (cz.o rfl)
    obtain⟨k,rfl⟩:∃k,gk=k+1:=⟨gk-1,by have:=a3.o.1;omega⟩
    obtain⟨h,d9⟩:∃h,h=wr:=⟨_,rfl⟩
    subst d9;have ea:=Aa a3.o.2;have c2:oH (BS B s h.heap.size h 0 a (.bool false) (.string ⟨#[]⟩) (.slice none 0 0) (h.alloc (.cells #[.bool false,.string ⟨#[]⟩,.slice none 0 0] 213))):=⟨a3.o.alloc _,heap_alloc_new h _,(Ab.refl _ _).alloc _,kZ _,ea⟩
    have ej:¬B=h.heap.size:=by omega
    go_wp2_with fail
    refine (Cx B s a 0 0 0 43 43 (.slice none 0 0) _ (by omega) (by omega) rfl c2.o.rr).mono ?_
    rintro K ek ⟨plus,a1,rfl,cu,dz,p1,d0⟩;have a4:=Ad (c2.o.next p1 d0);clear p1 d0 c2;have ai:=Ae a4.o.blk 0;have L:=Ae a4.o.blk 1;have M:=Ae a4.o.blk 2
    simp at ai L M
    have el:=Aj a4.o.blk 0
    cases plus with
    |true =>
     obtain rfl:a1=a+1:=dz;have ba:=Ad (a4.o.fM (.bool true));clear a4;go_wp2_with fail
     refine (Ey B s (a+1) 0 0 0 (.slice none 0 0) _ (by omega) ba.o.rr).mono ?_
     rintro K w3 ⟨t,rfl,b7,c3,c4,b8,b9,ca⟩;have am:=Ad (ba.o.next b9 ca);have cb:=Ad b7;have a6:=Ad b8;clear b7 b8 b9 ca ba;have L:=Ae am.o.blk 1
     simp at L
     have c5:=Aj am.o.blk 1;go_wp2_with fail
     refine (Ar B s c4 0 c3 0 40 40 (.slice none 0 0) _ (by omega) (by omega) rfl (am.o.bU (.string t)).rr).mono ?_
     rintro K w4 ⟨cy,rfl,an,ao,cc,cd,ce⟩;have c6:=Ad ((am.o.bU (.string t)).next cd ce);have cf:=Ad cc
     have c7:oH (Lm s (if an=0 then Dg s (s.size+1) ao [] else none) an ao true [] (s.size+1)):=by
      refine⟨fun d=>if_neg d,fun d _=>⟨by omega,(if_pos d).symm⟩,fun _ d=>by cases d⟩
     clear cc cd ce am L c5;go_wp2_with fail
     go_loopg [8] (s.size+1) (fun ap bb cg=>∃(e5 a5:Nat) (on:Bool) (r:Row) (E:Option Addr) (F G:Nat),bb=.bool on∧r.length+ap≤s.size+1∧oH (BS B s h.heap.size h e5 a5 (.bool true) (.string t) (.slice E F G) cg)∧oH (cg.ownsRow (h.heap.size+1) 202 3 (.slice E F G) r.length (r.flatMap Ic))∧oH (Lm s (if an=0 then Dg s (s.size+1) ao [] else none) e5 a5 on r ap))
     case atStart=>exact⟨an,ao,true,[],none,0,0,rfl,by simp,c6,World.ownsRow_nil _ _ _ _,c7⟩
     case round =>
      obtain⟨e5,a5,on,r,E,F,G,rfl,eb,D,X,ab⟩:=hrel
      cases on with
      |false =>
       go_wp2_with fail;have bc:=D.o;have aq:=Ad (ab.o);clear ab
       refine (Ar B s a5 0 e5 0 41 41 (.slice none 0 0) _ (by omega) (by omega) rfl D.o.rr).mono ?_
       rintro K w6 ⟨b3,rfl,l,z,x6,Y,H⟩
       have ac:=Ad (aq.o.last (fun _=>rfl) x6)
       have f:=Ad (D.o.next Y H)
       have N:=Ad (Ak X.o H.kept (fun b j d=>by have:=Ao X.o b j;omega))
       clear x6 Y H bc D X aq
       have ar:=Ak hO.o f.o.kp (fun b j d=>by have:=Ao hO.o b j;omega)
       have ai:=Ae f.o.blk 0;have L:=Ae f.o.blk 1;have M:=Ae f.o.blk 2
       simp at ai L M
       have au:n+1≤maxLen:=by unfold maxLen;omega
       have av:(n+1)*48≤140737488355328:=by omega
       have c8:=f.o.kp.size
       go_wp2_with (first
        |(at_builtin;refine wpList_append_own_at _ rfl _ _ 208 rfl (B+1) 213 cn (.agg #[.bool false,.string ⟨#[]⟩,.slice none 0 0]) 3 48 Tryz.underlying208 co cp cq cr rfl (by decide) _ _ _ rfl (ar.alloc _) ⟨w6.heap.size,0,none⟩ 1 1 [.bool true,.string t,.slice E F G] rfl rfl (Du w6 _ _ _ _) (by simp[Value.oneCell']) au av (by simp;omega) ?_;intro bd ad O P _ _)
        |fail)
       obtain⟨be,bf,rfl⟩:∃a c,bd=.slice a (n+1) c:=by
        rcases O.2 with ⟨_,al⟩|⟨g,cap,Q,e,_⟩
        ·omega
        ·exact⟨_,_,e⟩
       have bg:some B≠Value.ownBlock (.slice va n p):=fun x=>by have:=Ao hO.o B x.symm;omega
       have bh:∀r,Value.ownBlock (.slice va n p)=some r→r<h.heap.size:=fun r x=>(hO.o.lt r x).2
       have bi:oH (RR B s z 0 l 0 (.slice none 0 0) ad):=(f.o.rr.alloc _).grown P bg
       have bj:oH (Ab (fun k=>k=B∨Value.ownBlock (.slice va n p)=some k) h ad):=by
        have u:Ab (fun k=>k=B∨Value.ownBlock (.slice va n p)=some k) h w6:=⟨f.o.kp.os,f.o.kp.tape,f.o.kp.output,f.o.kp.size,fun k ae R=>f.o.kp.block k ae (fun d=>R (.inl d))⟩
        exact (u.alloc _).grown P (fun r e=>.inr (.inr e))
       have aw:oH (ad.ownsRow (h.heap.size+1) 202 3 (.slice E F G) r.length (r.flatMap Ic)):=by
        refine Ak (S:=fun k=>Value.ownBlock (.slice va n p)=some k) N.o (((Ab.refl _ w6).alloc _).grown P (fun r e=>.inr e)) (fun b j d=>?_)
        have:=Ao N.o b j
        have:=bh b d
        omega
       clear P ai L M ar;go_wp2_with fail
       refine (Cx B s z 0 l 0 59 59 (.slice none 0 0) _ (by omega) (by omega) rfl bi.o).mono ?_
       rintro K T ⟨af,U,rfl,ax,ag,ay,m⟩
       have V:=Ak O m.kept (fun b j d=>by have:=Ao O b j;omega)
       have az:=Ak aw.o m.kept (fun b j d=>by have:=Ao aw.o b j;omega)
       have A:Ab (fun k=>k=B∨Value.ownBlock (.slice va n p)=some k) h T:=bj.o.seq ⟨m.kept.os,m.kept.tape,m.kept.output,m.kept.size,fun k ae R=>m.kept.block k ae (fun d=>R (.inl d))⟩
       have I:=a9.o.step (plus:=true) (t:=t) (r:=r) (e1:=0) (a1:=(a+1)) cu.o ⟨fun _=>rfl,fun d=>by cases d⟩ a6.o (fun d=>cb.o (by rw[a6.o];exact d)) cf.o (e5:=l) (a5:=z) (fun d=>⟨fun y=>by have:=ac.o.1 y;rw[if_pos d] at this;exact this,fun y=>by have:=ac.o.2 y;rw[if_pos d] at this;exact this⟩) (fun d y=>by have:=(ac.o.1 y).2;rw[if_neg d] at this;cases this)
       have bk:oH (Ms s l U af (os++[(⟨t.data.toList,r,if true=true then 1 else -1⟩:E5)]) k):=by
        have aa:=ax.o
        cases af with
        |true=>rw[show U=z+1 from ag];exact I.1 aa
        |false=>rw[show U=z from ag];exact I.2 aa
       have bl:oH (l=0→n+1=(os++[(⟨t.data.toList,r,if true=true then 1 else -1⟩:E5)]).length∧CL (B+1) T (xs++[.bool true,.string t,.slice E F G]) (os++[(⟨t.data.toList,r,if true=true then 1 else -1⟩:E5)])):=fun _=>by
        obtain⟨u,bm⟩:=ct.o
        refine⟨by simp[u],?_⟩
        have bn:¬Is 202 h B:=fun ⟨bo,bp,ah⟩=>by
         have:=a3.o.2
         rw[ah] at this
         injection this with this
         injection this with _ this _
         exact absurd this (by decide)
        have bq:∀i,Value.ownBlock (.slice va n p)=some i→¬Is 202 h i:=fun i hi ⟨bo,bp,ah⟩=>by
         rcases hO.o.2 with ⟨e,_⟩|⟨g,cap,Q,e,_,hg,_⟩
         ·rw[e] at hi;simp[Value.ownBlock] at hi
         ·rw[e] at hi
          simp[Value.ownBlock] at hi
          subst hi
          rw[ah] at hg
          injection hg with hg
          injection hg with _ hg _
          exact absurd hg (by decide)
        have br:=bm.kept A (fun i hi=>by rcases hi with rfl|hi;exact bn;exact bq i hi)
        have bs:xs.length=os.length*3:=by rw[←u];exact hO.o.1
        refine br.push bs ?_ (by first|rfl|decide) rfl
        rcases az with ⟨a0,J⟩
        refine⟨a0,?_⟩
        rcases J with J|⟨g,cap,Q,e,bt,a2⟩
        ·exact .inl J
        ·exact .inr ⟨g,cap,Q,e,by omega,a2⟩
       have bu:oH (Ab No w T):=by
        refine⟨A.os.trans C.o.os,A.tape.trans C.o.tape,A.output.trans C.o.output,lH C.o.size A.size,fun i hi R=>?_⟩
        refine (A.block i (kV hi C.o.size) ?_).trans (C.o.block i hi oI)
        rintro (rfl|d)
        ·omega
        ·have:=Ao hO.o i d;omega
       have bv:=Ad ay;have bw:=Ad V;clear O V az A I ay m ag;go_wp2_with fail;go_roundg k
       case measure=>omega
       case rel=>exact⟨l,U,af,_,n+1,_,be,bf,by omega,rfl,rfl,bk,bv,bw,bl,bu⟩
      |true =>
       have c9:=D.o.rr.c3
       by_cases bx:e5=0
       ·subst bx
        obtain⟨ap,rfl⟩:∃k,gk=k+1:=⟨gk-1,by have:=(ab.o.2.1 rfl rfl).1;have:=D.o.rr.1;omega⟩
        have da:=Ad ab.o;clear ab;go_wp2_with fail
        refine (Xe B s a5 0 0 0 (.slice none 0 0) _ (by omega) D.o.rr).mono ?_
        rintro K w6 ⟨v,rfl,hv,l,z,x6,Y,H⟩;have f:=Ad (D.o.next Y H)
        have N:=Ak X.o H.kept (fun b j d=>by have:=Ao X.o b j;omega)
        have db:=Ad hv;have ch:=Ad x6;clear hv x6 Y H c9;have M:=Ae f.o.blk 2
        simp at M
        have dc:=Aa f.o.blk;have dd:=Ad ((f.o.alloc (.cells #[.bool (uB v),.int .i64 (uN v),.string ⟨(uS v).toArray⟩] 202)).alloc (.cells #[.bool (uB v),.int .i64 (uN v),.string ⟨(uS v).toArray⟩] 202))
        have bz:∀q,Value.ownBlock (.slice E F G)=some q→h.heap.size+1≤q:=fun q e=>Ao N q e
        have de:some B≠Value.ownBlock (.slice E F G):=fun x=>by have:=bz B x.symm;omega
        have df:some h.heap.size≠Value.ownBlock (.slice E F G):=fun x=>by have:=bz _ x.symm;omega
        have au:r.length+1≤maxLen:=by unfold maxLen;omega
        have av:(r.length+1)*32≤140737488355328:=by omega
        have ec:=f.o.kp.size
        go_wp2_with (first
         |(at_builtin;refine wpList_append_own_at _ rfl _ _ 211 rfl (h.heap.size+1) 202 ds (.agg #[.bool false,.int .i64 0,.string ⟨#[]⟩]) 3 32 Tryz.underlying211 dt du dv dw rfl (by decide) _ _ _ rfl ((N.alloc _).alloc _) ⟨w6.heap.size+1,0,none⟩ 1 1 [.bool (uB v),.int .i64 (uN v),.string ⟨(uS v).toArray⟩] rfl rfl (Nx w6 _ _ _ _ _) (by simp[Value.oneCell']) au av (by simp;omega) ?_;intro bb T V ci _ _;obtain⟨aj,ak,rfl⟩:∃a c,bb=.slice a (r.length+1) c:=Mt V (by omega);have a7:=Ad (dd.o.grown ci de df (fun q e=>by have:=bz q e;omega));have cj:=Ae a7.o.blk 2;simp at cj;have dg:=Aj a7.o.blk 2)
         |fail)
        have ck:(T.setCell ⟨h.heap.size,2,none⟩ (.slice aj (r.length+1) ak)).ownsRow (h.heap.size+1) 202 3 (.slice aj (r.length+1) ak) (r.length+1) (r.flatMap Ic++[.bool (uB v),.int .i64 (uN v),.string ⟨(uS v).toArray⟩]):=by
         obtain⟨a0,J⟩:=V
         refine⟨a0,?_⟩
         rcases J with J|⟨g,cap,Q,e,bt,hg,a2⟩
         ·exact .inl J
         ·exact .inr ⟨g,cap,Q,e,bt,(Below.heap_setCell _ _ _ _ (by show g≠h.heap.size;omega)).trans hg,a2⟩
        have cl:=Ad ck;clear V ck ci N M dc cj dg
        refine (Cx B s z 0 l 0 44 44 (.slice none 0 0) _ (by omega) (by omega) rfl (a7.o.bV (.slice aj (r.length+1) ak)).rr).mono ?_
        rintro K dh ⟨b0,a8,rfl,ax,b1,cm,b2⟩;have di:=Ad ((a7.o.bV (.slice aj (r.length+1) ak)).next cm b2)
        have dj:oH (dh.ownsRow (h.heap.size+1) 202 3 (.slice aj (r.length+1) ak) (r++[v]).length ((r++[v]).flatMap Ic)):=by
         have u:=Ak cl.o b2.kept (fun b j d=>by have:=Ao cl.o b j;omega)
         rw[nG,kU]
         have e5:[v].flatMap Ic=[.bool (uB v),.int .i64 (uN v),.string ⟨(uS v).toArray⟩]:=by simp[Su]
         rw[e5];exact u
        have I:=da.o.step (v:=v) D.o.rr.1 ch.o (fun d=>db.o (by rw[ch.o];exact d))
        have dk:oH (Lm s (if an=0 then Dg s (s.size+1) ao [] else none) l a8 b0 (r++[v]) ap):=by
         have aa:=ax.o
         cases b0 with
         |true=>rw[show a8=z+1 from b1];exact I.1 aa
         |false=>rw[show a8=z from b1];exact I.2 aa
        clear I cm b2 b1;go_wp2_with fail;go_roundg ap
        case measure=>omega
        case rel=>exact⟨l,a8,b0,r++[v],aj,r.length+1,ak,rfl,by rw[kU,lY];omega,di,dj,dk⟩
       ·have dy:((e5:Int) == 0)=false:=by simp;omega
        have dl:=Ad bx;clear bx;go_wp2_with fail;have bc:=D.o;have aq:=Ad (ab.o);clear ab
        refine (Ar B s a5 0 e5 0 41 41 (.slice none 0 0) _ (by omega) (by omega) rfl D.o.rr).mono ?_
        rintro K w6 ⟨b3,rfl,l,z,x6,Y,H⟩
        have ac:=Ad (aq.o.last (fun d=>absurd d dl.o) x6)
        have f:=Ad (D.o.next Y H)
        have N:=Ad (Ak X.o H.kept (fun b j d=>by have:=Ao X.o b j;omega))
        clear x6 Y H bc D X aq
        have ar:=Ak hO.o f.o.kp (fun b j d=>by have:=Ao hO.o b j;omega)
        have ai:=Ae f.o.blk 0;have L:=Ae f.o.blk 1;have M:=Ae f.o.blk 2
        simp at ai L M
        have au:n+1≤maxLen:=by unfold maxLen;omega
        have av:(n+1)*48≤140737488355328:=by omega
        have c8:=f.o.kp.size
        go_wp2_with (first
         |(at_builtin;refine wpList_append_own_at _ rfl _ _ 208 rfl (B+1) 213 cn (.agg #[.bool false,.string ⟨#[]⟩,.slice none 0 0]) 3 48 Tryz.underlying208 co cp cq cr rfl (by decide) _ _ _ rfl (ar.alloc _) ⟨w6.heap.size,0,none⟩ 1 1 [.bool true,.string t,.slice E F G] rfl rfl (Du w6 _ _ _ _) (by simp[Value.oneCell']) au av (by simp;omega) ?_;intro bd ad O P _ _)
         |fail)
        obtain⟨be,bf,rfl⟩:∃a c,bd=.slice a (n+1) c:=by
         rcases O.2 with ⟨_,al⟩|⟨g,cap,Q,e,_⟩
         ·omega
         ·exact⟨_,_,e⟩
        have bg:some B≠Value.ownBlock (.slice va n p):=fun x=>by have:=Ao hO.o B x.symm;omega
        have bh:∀r,Value.ownBlock (.slice va n p)=some r→r<h.heap.size:=fun r x=>(hO.o.lt r x).2
        have bi:oH (RR B s z 0 l 0 (.slice none 0 0) ad):=(f.o.rr.alloc _).grown P bg
        have bj:oH (Ab (fun k=>k=B∨Value.ownBlock (.slice va n p)=some k) h ad):=by
         have u:Ab (fun k=>k=B∨Value.ownBlock (.slice va n p)=some k) h w6:=⟨f.o.kp.os,f.o.kp.tape,f.o.kp.output,f.o.kp.size,fun k ae R=>f.o.kp.block k ae (fun d=>R (.inl d))⟩
         exact (u.alloc _).grown P (fun r e=>.inr (.inr e))
        have aw:oH (ad.ownsRow (h.heap.size+1) 202 3 (.slice E F G) r.length (r.flatMap Ic)):=by
         refine Ak (S:=fun k=>Value.ownBlock (.slice va n p)=some k) N.o (((Ab.refl _ w6).alloc _).grown P (fun r e=>.inr e)) (fun b j d=>?_)
         have:=Ao N.o b j
         have:=bh b d
         omega
        clear P ai L M ar;go_wp2_with fail
        refine (Cx B s z 0 l 0 59 59 (.slice none 0 0) _ (by omega) (by omega) rfl bi.o).mono ?_
        rintro K T ⟨af,U,rfl,ax,ag,ay,m⟩
        have V:=Ak O m.kept (fun b j d=>by have:=Ao O b j;omega)
        have az:=Ak aw.o m.kept (fun b j d=>by have:=Ao aw.o b j;omega)
        have A:Ab (fun k=>k=B∨Value.ownBlock (.slice va n p)=some k) h T:=bj.o.seq ⟨m.kept.os,m.kept.tape,m.kept.output,m.kept.size,fun k ae R=>m.kept.block k ae (fun d=>R (.inl d))⟩
        have I:=a9.o.step (plus:=true) (t:=t) (r:=r) (e1:=0) (a1:=(a+1)) cu.o ⟨fun _=>rfl,fun d=>by cases d⟩ a6.o (fun d=>cb.o (by rw[a6.o];exact d)) cf.o (e5:=l) (a5:=z) (fun d=>⟨fun y=>by have:=ac.o.1 y;rw[if_pos d] at this;exact this,fun y=>by have:=ac.o.2 y;rw[if_pos d] at this;exact this⟩) (fun d y=>by have:=(ac.o.1 y).2;rw[if_neg d] at this;cases this)
        have bk:oH (Ms s l U af (os++[(⟨t.data.toList,r,if true=true then 1 else -1⟩:E5)]) k):=by
         have aa:=ax.o
         cases af with
         |true=>rw[show U=z+1 from ag];exact I.1 aa
         |false=>rw[show U=z from ag];exact I.2 aa
        have bl:oH (l=0→n+1=(os++[(⟨t.data.toList,r,if true=true then 1 else -1⟩:E5)]).length∧CL (B+1) T (xs++[.bool true,.string t,.slice E F G]) (os++[(⟨t.data.toList,r,if true=true then 1 else -1⟩:E5)])):=fun _=>by
         obtain⟨u,bm⟩:=ct.o
         refine⟨by simp[u],?_⟩
         have bn:¬Is 202 h B:=fun ⟨bo,bp,ah⟩=>by
          have:=a3.o.2
          rw[ah] at this
          injection this with this
          injection this with _ this _
          exact absurd this (by decide)
         have bq:∀i,Value.ownBlock (.slice va n p)=some i→¬Is 202 h i:=fun i hi ⟨bo,bp,ah⟩=>by
          rcases hO.o.2 with ⟨e,_⟩|⟨g,cap,Q,e,_,hg,_⟩
          ·rw[e] at hi;simp[Value.ownBlock] at hi
          ·rw[e] at hi
           simp[Value.ownBlock] at hi
           subst hi
           rw[ah] at hg
           injection hg with hg
           injection hg with _ hg _
           exact absurd hg (by decide)
         have br:=bm.kept A (fun i hi=>by rcases hi with rfl|hi;exact bn;exact bq i hi)
         have bs:xs.length=os.length*3:=by rw[←u];exact hO.o.1
         refine br.push bs ?_ (by first|rfl|decide) rfl
         rcases az with ⟨a0,J⟩
         refine⟨a0,?_⟩
         rcases J with J|⟨g,cap,Q,e,bt,a2⟩
         ·exact .inl J
         ·exact .inr ⟨g,cap,Q,e,by omega,a2⟩
        have bu:oH (Ab No w T):=by
         refine⟨A.os.trans C.o.os,A.tape.trans C.o.tape,A.output.trans C.o.output,lH C.o.size A.size,fun i hi R=>?_⟩
         refine (A.block i (kV hi C.o.size) ?_).trans (C.o.block i hi oI)
         rintro (rfl|d)
         ·omega
         ·have:=Ao hO.o i d;omega
        have bv:=Ad ay;have bw:=Ad V;clear O V az A I ay m ag;go_wp2_with fail;go_roundg k
        case measure=>omega
        case rel=>exact⟨l,U,af,_,n+1,_,be,bf,by omega,rfl,rfl,bk,bv,bw,bl,bu⟩
    |false =>
     obtain rfl:a1=a:=dz;have ed:(!false)=true:=rfl;go_wp2_with fail
     refine (Ar B s a1 0 0 0 45 45 (.slice none 0 0) _ (by omega) (by omega) rfl (a4.o.fM (.bool false)).rr).mono ?_
     rintro K em ⟨_,rfl,dm,dn,d1,p2,d2⟩;have ba:=Ad ((a4.o.fM (.bool false)).next p2 d2);have d3:=Ad d1;clear a4 d1 p2 d2 ed;go_wp2_with fail
     refine (Ey B s dn 0 dm 0 (.slice none 0 0) _ (by omega) ba.o.rr).mono ?_
     rintro K w3 ⟨t,rfl,b7,c3,c4,b8,b9,ca⟩;have am:=Ad (ba.o.next b9 ca);have cb:=Ad b7;have a6:=Ad b8;clear b7 b8 b9 ca ba;have L:=Ae am.o.blk 1
     simp at L
     have c5:=Aj am.o.blk 1;go_wp2_with fail
     refine (Ar B s c4 0 c3 0 40 40 (.slice none 0 0) _ (by omega) (by omega) rfl (am.o.bU (.string t)).rr).mono ?_
     rintro K w4 ⟨cy,rfl,an,ao,cc,cd,ce⟩;have c6:=Ad ((am.o.bU (.string t)).next cd ce);have cf:=Ad cc
     have c7:oH (Lm s (if an=0 then Dg s (s.size+1) ao [] else none) an ao true [] (s.size+1)):=by
      refine⟨fun d=>if_neg d,fun d _=>⟨by omega,(if_pos d).symm⟩,fun _ d=>by cases d⟩
     clear cc cd ce am L c5;go_wp2_with fail
     go_loopg [8] (s.size+1) (fun ap bb cg=>∃(e5 a5:Nat) (on:Bool) (r:Row) (E:Option Addr) (F G:Nat),bb=.bool on∧r.length+ap≤s.size+1∧oH (BS B s h.heap.size h e5 a5 (.bool false) (.string t) (.slice E F G) cg)∧oH (cg.ownsRow (h.heap.size+1) 202 3 (.slice E F G) r.length (r.flatMap Ic))∧oH (Lm s (if an=0 then Dg s (s.size+1) ao [] else none) e5 a5 on r ap))
     case atStart=>exact⟨an,ao,true,[],none,0,0,rfl,by simp,c6,World.ownsRow_nil _ _ _ _,c7⟩
     case round =>
      obtain⟨e5,a5,on,r,E,F,G,rfl,eb,D,X,ab⟩:=hrel
      cases on with
      |false =>
       go_wp2_with fail;have bc:=D.o;have aq:=Ad (ab.o);clear ab
       refine (Ar B s a5 0 e5 0 41 41 (.slice none 0 0) _ (by omega) (by omega) rfl D.o.rr).mono ?_
       rintro K w6 ⟨b3,rfl,l,z,x6,Y,H⟩
       have ac:=Ad (aq.o.last (fun _=>rfl) x6)
       have f:=Ad (D.o.next Y H)
       have N:=Ad (Ak X.o H.kept (fun b j d=>by have:=Ao X.o b j;omega))
       clear x6 Y H bc D X aq
       have ar:=Ak hO.o f.o.kp (fun b j d=>by have:=Ao hO.o b j;omega)
       have ai:=Ae f.o.blk 0;have L:=Ae f.o.blk 1;have M:=Ae f.o.blk 2
       simp at ai L M
       have au:n+1≤maxLen:=by unfold maxLen;omega
       have av:(n+1)*48≤140737488355328:=by omega
       have c8:=f.o.kp.size
       go_wp2_with (first
        |(at_builtin;refine wpList_append_own_at _ rfl _ _ 208 rfl (B+1) 213 cn (.agg #[.bool false,.string ⟨#[]⟩,.slice none 0 0]) 3 48 Tryz.underlying208 co cp cq cr rfl (by decide) _ _ _ rfl (ar.alloc _) ⟨w6.heap.size,0,none⟩ 1 1 [.bool false,.string t,.slice E F G] rfl rfl (Du w6 _ _ _ _) (by simp[Value.oneCell']) au av (by simp;omega) ?_;intro bd ad O P _ _)
        |fail)
       obtain⟨be,bf,rfl⟩:∃a c,bd=.slice a (n+1) c:=by
        rcases O.2 with ⟨_,al⟩|⟨g,cap,Q,e,_⟩
        ·omega
        ·exact⟨_,_,e⟩
       have bg:some B≠Value.ownBlock (.slice va n p):=fun x=>by have:=Ao hO.o B x.symm;omega
       have bh:∀r,Value.ownBlock (.slice va n p)=some r→r<h.heap.size:=fun r x=>(hO.o.lt r x).2
       have bi:oH (RR B s z 0 l 0 (.slice none 0 0) ad):=(f.o.rr.alloc _).grown P bg
       have bj:oH (Ab (fun k=>k=B∨Value.ownBlock (.slice va n p)=some k) h ad):=by
        have u:Ab (fun k=>k=B∨Value.ownBlock (.slice va n p)=some k) h w6:=⟨f.o.kp.os,f.o.kp.tape,f.o.kp.output,f.o.kp.size,fun k ae R=>f.o.kp.block k ae (fun d=>R (.inl d))⟩
        exact (u.alloc _).grown P (fun r e=>.inr (.inr e))
       have aw:oH (ad.ownsRow (h.heap.size+1) 202 3 (.slice E F G) r.length (r.flatMap Ic)):=by
        refine Ak (S:=fun k=>Value.ownBlock (.slice va n p)=some k) N.o (((Ab.refl _ w6).alloc _).grown P (fun r e=>.inr e)) (fun b j d=>?_)
        have:=Ao N.o b j
        have:=bh b d
        omega
       clear P ai L M ar;go_wp2_with fail
       refine (Cx B s z 0 l 0 59 59 (.slice none 0 0) _ (by omega) (by omega) rfl bi.o).mono ?_
       rintro K T ⟨af,U,rfl,ax,ag,ay,m⟩
       have V:=Ak O m.kept (fun b j d=>by have:=Ao O b j;omega)
       have az:=Ak aw.o m.kept (fun b j d=>by have:=Ao aw.o b j;omega)
       have A:Ab (fun k=>k=B∨Value.ownBlock (.slice va n p)=some k) h T:=bj.o.seq ⟨m.kept.os,m.kept.tape,m.kept.output,m.kept.size,fun k ae R=>m.kept.block k ae (fun d=>R (.inl d))⟩
       have I:=a9.o.step (plus:=false) (t:=t) (r:=r) (e1:=dm) (a1:=dn) cu.o ⟨(fun d=>by cases d),fun _=>d3.o⟩ a6.o (fun d=>cb.o (by rw[a6.o];exact d)) cf.o (e5:=l) (a5:=z) (fun d=>⟨fun y=>by have:=ac.o.1 y;rw[if_pos d] at this;exact this,fun y=>by have:=ac.o.2 y;rw[if_pos d] at this;exact this⟩) (fun d y=>by have:=(ac.o.1 y).2;rw[if_neg d] at this;cases this)
       have bk:oH (Ms s l U af (os++[(⟨t.data.toList,r,if false=true then 1 else -1⟩:E5)]) k):=by
        have aa:=ax.o
        cases af with
        |true=>rw[show U=z+1 from ag];exact I.1 aa
        |false=>rw[show U=z from ag];exact I.2 aa
       have bl:oH (l=0→n+1=(os++[(⟨t.data.toList,r,if false=true then 1 else -1⟩:E5)]).length∧CL (B+1) T (xs++[.bool false,.string t,.slice E F G]) (os++[(⟨t.data.toList,r,if false=true then 1 else -1⟩:E5)])):=fun _=>by
        obtain⟨u,bm⟩:=ct.o
        refine⟨by simp[u],?_⟩
        have bn:¬Is 202 h B:=fun ⟨bo,bp,ah⟩=>by
         have:=a3.o.2
         rw[ah] at this
         injection this with this
         injection this with _ this _
         exact absurd this (by decide)
        have bq:∀i,Value.ownBlock (.slice va n p)=some i→¬Is 202 h i:=fun i hi ⟨bo,bp,ah⟩=>by
         rcases hO.o.2 with ⟨e,_⟩|⟨g,cap,Q,e,_,hg,_⟩
         ·rw[e] at hi;simp[Value.ownBlock] at hi
         ·rw[e] at hi
          simp[Value.ownBlock] at hi
          subst hi
          rw[ah] at hg
          injection hg with hg
          injection hg with _ hg _
          exact absurd hg (by decide)
        have br:=bm.kept A (fun i hi=>by rcases hi with rfl|hi;exact bn;exact bq i hi)
        have bs:xs.length=os.length*3:=by rw[←u];exact hO.o.1
        refine br.push bs ?_ (by first|rfl|decide) rfl
        rcases az with ⟨a0,J⟩
        refine⟨a0,?_⟩
        rcases J with J|⟨g,cap,Q,e,bt,a2⟩
        ·exact .inl J
        ·exact .inr ⟨g,cap,Q,e,by omega,a2⟩
       have bu:oH (Ab No w T):=by
        refine⟨A.os.trans C.o.os,A.tape.trans C.o.tape,A.output.trans C.o.output,lH C.o.size A.size,fun i hi R=>?_⟩
        refine (A.block i (kV hi C.o.size) ?_).trans (C.o.block i hi oI)
        rintro (rfl|d)
        ·omega
        ·have:=Ao hO.o i d;omega
       have bv:=Ad ay;have bw:=Ad V;clear O V az A I ay m ag;go_wp2_with fail;go_roundg k
       case measure=>omega
       case rel=>exact⟨l,U,af,_,n+1,_,be,bf,by omega,rfl,rfl,bk,bv,bw,bl,bu⟩
      |true =>
       have c9:=D.o.rr.c3
       by_cases bx:e5=0
       ·subst bx
        obtain⟨ap,rfl⟩:∃k,gk=k+1:=⟨gk-1,by have:=(ab.o.2.1 rfl rfl).1;have:=D.o.rr.1;omega⟩
        have da:=Ad ab.o;clear ab;go_wp2_with fail
        refine (Xe B s a5 0 0 0 (.slice none 0 0) _ (by omega) D.o.rr).mono ?_
        rintro K w6 ⟨v,rfl,hv,l,z,x6,Y,H⟩;have f:=Ad (D.o.next Y H)
        have N:=Ak X.o H.kept (fun b j d=>by have:=Ao X.o b j;omega)
        have db:=Ad hv;have ch:=Ad x6;clear hv x6 Y H c9;have M:=Ae f.o.blk 2
        simp at M
        have dc:=Aa f.o.blk;have dd:=Ad ((f.o.alloc (.cells #[.bool (uB v),.int .i64 (uN v),.string ⟨(uS v).toArray⟩] 202)).alloc (.cells #[.bool (uB v),.int .i64 (uN v),.string ⟨(uS v).toArray⟩] 202))
        have bz:∀q,Value.ownBlock (.slice E F G)=some q→h.heap.size+1≤q:=fun q e=>Ao N q e
        have de:some B≠Value.ownBlock (.slice E F G):=fun x=>by have:=bz B x.symm;omega
        have df:some h.heap.size≠Value.ownBlock (.slice E F G):=fun x=>by have:=bz _ x.symm;omega
        have au:r.length+1≤maxLen:=by unfold maxLen;omega
        have av:(r.length+1)*32≤140737488355328:=by omega
        have ec:=f.o.kp.size
        go_wp2_with (first
         |(at_builtin;refine wpList_append_own_at _ rfl _ _ 211 rfl (h.heap.size+1) 202 ds (.agg #[.bool false,.int .i64 0,.string ⟨#[]⟩]) 3 32 Tryz.underlying211 dt du dv dw rfl (by decide) _ _ _ rfl ((N.alloc _).alloc _) ⟨w6.heap.size+1,0,none⟩ 1 1 [.bool (uB v),.int .i64 (uN v),.string ⟨(uS v).toArray⟩] rfl rfl (Nx w6 _ _ _ _ _) (by simp[Value.oneCell']) au av (by simp;omega) ?_;intro bb T V ci _ _;obtain⟨aj,ak,rfl⟩:∃a c,bb=.slice a (r.length+1) c:=Mt V (by omega);have a7:=Ad (dd.o.grown ci de df (fun q e=>by have:=bz q e;omega));have cj:=Ae a7.o.blk 2;simp at cj;have dg:=Aj a7.o.blk 2)
         |fail)
        have ck:(T.setCell ⟨h.heap.size,2,none⟩ (.slice aj (r.length+1) ak)).ownsRow (h.heap.size+1) 202 3 (.slice aj (r.length+1) ak) (r.length+1) (r.flatMap Ic++[.bool (uB v),.int .i64 (uN v),.string ⟨(uS v).toArray⟩]):=by
         obtain⟨a0,J⟩:=V
         refine⟨a0,?_⟩
         rcases J with J|⟨g,cap,Q,e,bt,hg,a2⟩
         ·exact .inl J
         ·exact .inr ⟨g,cap,Q,e,bt,(Below.heap_setCell _ _ _ _ (by show g≠h.heap.size;omega)).trans hg,a2⟩
        have cl:=Ad ck;clear V ck ci N M dc cj dg
        refine (Cx B s z 0 l 0 44 44 (.slice none 0 0) _ (by omega) (by omega) rfl (a7.o.bV (.slice aj (r.length+1) ak)).rr).mono ?_
        rintro K dh ⟨b0,a8,rfl,ax,b1,cm,b2⟩;have di:=Ad ((a7.o.bV (.slice aj (r.length+1) ak)).next cm b2)
        have dj:oH (dh.ownsRow (h.heap.size+1) 202 3 (.slice aj (r.length+1) ak) (r++[v]).length ((r++[v]).flatMap Ic)):=by
         have u:=Ak cl.o b2.kept (fun b j d=>by have:=Ao cl.o b j;omega)
         rw[nG,kU]
         have e5:[v].flatMap Ic=[.bool (uB v),.int .i64 (uN v),.string ⟨(uS v).toArray⟩]:=by simp[Su]
         rw[e5];exact u
        have I:=da.o.step (v:=v) D.o.rr.1 ch.o (fun d=>db.o (by rw[ch.o];exact d))
        have dk:oH (Lm s (if an=0 then Dg s (s.size+1) ao [] else none) l a8 b0 (r++[v]) ap):=by
         have aa:=ax.o
         cases b0 with
         |true=>rw[show a8=z+1 from b1];exact I.1 aa
         |false=>rw[show a8=z from b1];exact I.2 aa
        clear I cm b2 b1;go_wp2_with fail;go_roundg ap
        case measure=>omega
        case rel=>exact⟨l,a8,b0,r++[v],aj,r.length+1,ak,rfl,by rw[kU,lY];omega,di,dj,dk⟩
       ·have dy:((e5:Int) == 0)=false:=by simp;omega
        have dl:=Ad bx;clear bx;go_wp2_with fail;have bc:=D.o;have aq:=Ad (ab.o);clear ab
        refine (Ar B s a5 0 e5 0 41 41 (.slice none 0 0) _ (by omega) (by omega) rfl D.o.rr).mono ?_
        rintro K w6 ⟨b3,rfl,l,z,x6,Y,H⟩
        have ac:=Ad (aq.o.last (fun d=>absurd d dl.o) x6)
        have f:=Ad (D.o.next Y H)
        have N:=Ad (Ak X.o H.kept (fun b j d=>by have:=Ao X.o b j;omega))
        clear x6 Y H bc D X aq
        have ar:=Ak hO.o f.o.kp (fun b j d=>by have:=Ao hO.o b j;omega)
        have ai:=Ae f.o.blk 0;have L:=Ae f.o.blk 1;have M:=Ae f.o.blk 2
        simp at ai L M
        have au:n+1≤maxLen:=by unfold maxLen;omega
        have av:(n+1)*48≤140737488355328:=by omega
        have c8:=f.o.kp.size
        go_wp2_with (first
         |(at_builtin;refine wpList_append_own_at _ rfl _ _ 208 rfl (B+1) 213 cn (.agg #[.bool false,.string ⟨#[]⟩,.slice none 0 0]) 3 48 Tryz.underlying208 co cp cq cr rfl (by decide) _ _ _ rfl (ar.alloc _) ⟨w6.heap.size,0,none⟩ 1 1 [.bool false,.string t,.slice E F G] rfl rfl (Du w6 _ _ _ _) (by simp[Value.oneCell']) au av (by simp;omega) ?_;intro bd ad O P _ _)
         |fail)
        obtain⟨be,bf,rfl⟩:∃a c,bd=.slice a (n+1) c:=by
         rcases O.2 with ⟨_,al⟩|⟨g,cap,Q,e,_⟩
         ·omega
         ·exact⟨_,_,e⟩
        have bg:some B≠Value.ownBlock (.slice va n p):=fun x=>by have:=Ao hO.o B x.symm;omega
        have bh:∀r,Value.ownBlock (.slice va n p)=some r→r<h.heap.size:=fun r x=>(hO.o.lt r x).2
        have bi:oH (RR B s z 0 l 0 (.slice none 0 0) ad):=(f.o.rr.alloc _).grown P bg
        have bj:oH (Ab (fun k=>k=B∨Value.ownBlock (.slice va n p)=some k) h ad):=by
         have u:Ab (fun k=>k=B∨Value.ownBlock (.slice va n p)=some k) h w6:=⟨f.o.kp.os,f.o.kp.tape,f.o.kp.output,f.o.kp.size,fun k ae R=>f.o.kp.block k ae (fun d=>R (.inl d))⟩
         exact (u.alloc _).grown P (fun r e=>.inr (.inr e))
        have aw:oH (ad.ownsRow (h.heap.size+1) 202 3 (.slice E F G) r.length (r.flatMap Ic)):=by
         refine Ak (S:=fun k=>Value.ownBlock (.slice va n p)=some k) N.o (((Ab.refl _ w6).alloc _).grown P (fun r e=>.inr e)) (fun b j d=>?_)
         have:=Ao N.o b j
         have:=bh b d
         omega
        clear P ai L M ar;go_wp2_with fail
        refine (Cx B s z 0 l 0 59 59 (.slice none 0 0) _ (by omega) (by omega) rfl bi.o).mono ?_
        rintro K T ⟨af,U,rfl,ax,ag,ay,m⟩
        have V:=Ak O m.kept (fun b j d=>by have:=Ao O b j;omega)
        have az:=Ak aw.o m.kept (fun b j d=>by have:=Ao aw.o b j;omega)
        have A:Ab (fun k=>k=B∨Value.ownBlock (.slice va n p)=some k) h T:=bj.o.seq ⟨m.kept.os,m.kept.tape,m.kept.output,m.kept.size,fun k ae R=>m.kept.block k ae (fun d=>R (.inl d))⟩
        have I:=a9.o.step (plus:=false) (t:=t) (r:=r) (e1:=dm) (a1:=dn) cu.o ⟨(fun d=>by cases d),fun _=>d3.o⟩ a6.o (fun d=>cb.o (by rw[a6.o];exact d)) cf.o (e5:=l) (a5:=z) (fun d=>⟨fun y=>by have:=ac.o.1 y;rw[if_pos d] at this;exact this,fun y=>by have:=ac.o.2 y;rw[if_pos d] at this;exact this⟩) (fun d y=>by have:=(ac.o.1 y).2;rw[if_neg d] at this;cases this)
        have bk:oH (Ms s l U af (os++[(⟨t.data.toList,r,if false=true then 1 else -1⟩:E5)]) k):=by
         have aa:=ax.o
         cases af with
         |true=>rw[show U=z+1 from ag];exact I.1 aa
         |false=>rw[show U=z from ag];exact I.2 aa
        have bl:oH (l=0→n+1=(os++[(⟨t.data.toList,r,if false=true then 1 else -1⟩:E5)]).length∧CL (B+1) T (xs++[.bool false,.string t,.slice E F G]) (os++[(⟨t.data.toList,r,if false=true then 1 else -1⟩:E5)])):=fun _=>by
         obtain⟨u,bm⟩:=ct.o
         refine⟨by simp[u],?_⟩
         have bn:¬Is 202 h B:=fun ⟨bo,bp,ah⟩=>by
          have:=a3.o.2
          rw[ah] at this
          injection this with this
          injection this with _ this _
          exact absurd this (by decide)
         have bq:∀i,Value.ownBlock (.slice va n p)=some i→¬Is 202 h i:=fun i hi ⟨bo,bp,ah⟩=>by
          rcases hO.o.2 with ⟨e,_⟩|⟨g,cap,Q,e,_,hg,_⟩
          ·rw[e] at hi;simp[Value.ownBlock] at hi
          ·rw[e] at hi
           simp[Value.ownBlock] at hi
           subst hi
           rw[ah] at hg
           injection hg with hg
           injection hg with _ hg _
           exact absurd hg (by decide)
         have br:=bm.kept A (fun i hi=>by rcases hi with rfl|hi;exact bn;exact bq i hi)
         have bs:xs.length=os.length*3:=by rw[←u];exact hO.o.1
         refine br.push bs ?_ (by first|rfl|decide) rfl
         rcases az with ⟨a0,J⟩
         refine⟨a0,?_⟩
         rcases J with J|⟨g,cap,Q,e,bt,a2⟩
         ·exact .inl J
         ·exact .inr ⟨g,cap,Q,e,by omega,a2⟩
        have bu:oH (Ab No w T):=by
         refine⟨A.os.trans C.o.os,A.tape.trans C.o.tape,A.output.trans C.o.output,lH C.o.size A.size,fun i hi R=>?_⟩
         refine (A.block i (kV hi C.o.size) ?_).trans (C.o.block i hi oI)
         rintro (rfl|d)
         ·omega
         ·have:=Ao hO.o i d;omega
        have bv:=Ad ay;have bw:=Ad V;clear O V az A I ay m ag;go_wp2_with fail;go_roundg k
        case measure=>omega
        case rel=>exact⟨l,U,af,_,n+1,_,be,bf,by omega,rfl,rfl,bk,bv,bw,bl,bu⟩
end Go.Proofs.YtdinjjmcmfjbfaaGreatDoor
