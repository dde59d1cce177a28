import Derived.Test.YtdinjjmcmfjbfaaGreatDoorRvJJ
set_option maxRecDepth 100000
set_option maxHeartbeats 4000000
namespace Go.Proofs.YtdinjjmcmfjbfaaGreatDoor
open Go.RowKit
open Mo (V Q Cy L3)
attribute [local go_sem ↓] Go.wp_at_zero Go.wp_at_succ
theorem fT (B:Nat)(s:ByteArray)(a d j O:Nat)(q:Nat→Nat×Nat)(pv:Value)(m:Nat)(xs:List Value)(S:List Q)(w:World)(v:s.size≤1000)(ck:d≤6)(a0:Jd B s (d+1) O q)(h:RR B s a d 0 j pv w)(ho:PO B pv m xs w)(a2:PL B w xs S∧m=S.length)(_:m+(1+2*O)≤1000)(a3:j=Pl.cj s a)(aa:Pl.bt s a=85) :
 Calls Tryz.prog 130 #[.pointer (some ⟨B,0,none⟩)] w (QR B s d pv m (1+2*O) w S a (Pl.Fl s d q a) (fun cl a' cm=>cl=0→cm=Pl.cj s a')):=by
 have P:oH (ST B s d j pv pv m xs S True w w 0 #[.int .u8 0,.string ⟨#[]⟩,.slice none 0 0,.int .u8 0,.int .u8 0,.bool false,.int .i64 0,.string ⟨#[]⟩,.int .i64 0,.int .i64 (-1),.int .i64 (-1),.int .i64 0] 0 a (w.alloc (.cells #[.int .u8 0,.string ⟨#[]⟩,.slice none 0 0,.int .u8 0,.int .u8 0,.bool false,.int .i64 0,.string ⟨#[]⟩,.int .i64 0,.int .i64 (-1),.int .i64 (-1),.int .i64 0] 204))):=ST.start h ho (fun _=>a2) rfl rfl QM
 have d4:=Aa h.2;have d5:=h.1;have r:=Ad aa;have cn:=Ad a3;have a4:=Ad a0
 have y:oH (Pl.kd (Pl.bt s a)=5):=by show _=_;rw[aa];rfl
 clear h ho aa a3 a0 a2
 go_enter Tryz.func130,Tryz.ntmps130
 go_upto_block 0 with fail
 go_cut [] (fun co=>oH (HD B s d a pv m xs S w co))
 case first =>
  go_wp2_with fail
  refine (Eg B s a d 0 j 83 83 pv _ v (by omega) rfl P.o.rr (by unfold sn;rw[r.o];rfl)).mono ?_
  rintro u d6 ⟨rfl,p1,a6⟩;have z:=Ad (P.o.next p1 a6);clear p1 a6 P;go_wp2_with fail
  refine (Eg B s a d 0 j 80 80 pv _ v (by omega) rfl z.o.rr (by unfold sn;rw[r.o];rfl)).mono ?_
  rintro u cp ⟨rfl,p2,G⟩;have l:=Ad (z.o.next p2 G);clear p2 G z;go_wp2_with fail
  refine (Eg B s a d 0 j 74 74 pv _ v (by omega) rfl l.o.rr (by unfold sn;rw[r.o];rfl)).mono ?_
  rintro u w3 ⟨rfl,n,H⟩;have f:=Ad (l.o.next n H);clear n H l;go_wp2_with fail
  refine (Px B s a d 0 j 85 85 pv _ v (by omega) rfl f.o.rr (by unfold sn;rw[r.o];rfl)).mono ?_
  rintro u w4 ⟨rfl,p,I⟩;have g:=Ad (f.o.next p I);clear p I f
  obtain⟨_,_⟩:=g.o.pb.cell (i:=0) (by omega)
  have d7:=g.o.pb.fz 0
  have d8:¬B=w.heap.size:=by omega
  go_wp2_with fail
  go_meet
  case rel =>
   refine⟨0,a+1,j,_,85,_,by rw[r.o];rfl,?_,?_,g.o.Gy 85,fun _=>?_⟩
   ·rw[y.o];exact Pl.Fh (show Pl.tk s 85 a=_ from Pl.I6 r.o)
   ·intro _;rw[cn.o];simp[Pl.cj,r.o]
   ·rw[y.o];exact XD B s a _
 case rest =>
  obtain⟨e1,a1,ab,_,cq,_,a7,ac,a8,a9,ad⟩:=hcut.o
  obtain rfl:cq=85:=by rw[a7,r.o];rfl
  rw[y.o] at ac ad
  have cr:=Ad ad;have ae:=Ad ac;have ba:=Ad a8;have z:=Ad a9.Pa;clear ac a8 a9 hcut P ad a7
  obtain⟨_,ct⟩:∃x,x=wc:=⟨_,rfl⟩
  subst ct;go_wp2_with fail
  refine (Mr B s a1 d e1 ab pv _ v (by omega) z.o.rr).mono ?_
  rintro u cp ⟨rfl,af,ag,bb,p2,G⟩;have l:=Ad (z.o.next p2 G);have A:=Ad bb
  have bc:oH (af=0→ab=Pl.cj s ag):=by intro b;subst b;have:=Pl.Th A.o;rw[this.2];exact ba.o this.1
  have bd:oH (7≤d+1→af≠0):=by
   intro b
   obtain rfl:d=6:=by omega
   exact Pl.He A.o
  clear bb p2 G ba z;go_wp2_with fail
  refine (a4.o ag af ab pv m xs S _ bd.o l.o.rr l.o.po (fun _=>l.o.pl trivial) (by omega) bc.o).mono ?_
  rintro u w3 ⟨_,rfl,ah,ai,aj,be,bf,cu,bg,n,bh,bi,_,H,J,bj⟩
  obtain⟨bk,bl,bm⟩:=Mv.pl bj
  have f:=Ad (l.o.query n bi H J bl);have cv:=Ad bm;clear bl bm bj;have R:=Ad bg;have bn:=Ad bh;clear bg n bh bi H J l bc bd
  obtain⟨_,cw⟩:=f.o.pb.cell (i:=9) (by omega)
  have cx:=f.o.pb.fz 9;have cy:=f.o.pb.verb;go_wp2_with fail
  refine (Ar B s ai (d+1) ah aj 44 44 be _ v (by omega) rfl (f.o.set (i:=9) (by omega) (by rfl)).rr).mono ?_
  rintro u w4 ⟨_,rfl,ak,al,bo,p,I⟩
  have g:=Ad ((f.o.set (i:=9) (by omega) (by rfl)).next p I)
  have C:=Ad bo
  have bp:oH (ak=0→aj=Pl.cj s al):=by intro b;subst b;have:=Pl.Fm (Pl.Bu (s:=s) (by omega) (by omega)) C.o;rw[this.2];exact bn.o this.1
  have bq:oH (7≤d+1→ak≠0):=by
   intro b cz
   obtain rfl:d=6:=by omega
   subst cz
   have c0:=(Pl.Fm (Pl.Bu (s:=s) (by omega) (by omega)) C.o).1
   have T:=R.o
   rw[Pl.Bi (Pl.He A.o),c0] at T
   injection T with T _
   exact Pl.He A.o T
  clear bo p I f bn cw cx cy;go_wp2_with fail
  refine (a4.o al ak aj be bf cu bk _ bq.o g.o.rr g.o.po (fun b=>g.o.pl (by subst b;exact (E0 C.o).1)) (by omega) bp.o).mono ?_
  rintro u w5 ⟨_,rfl,e5,a5,am,U,D,br,bs,E,bt,bu,_,an,K,bv⟩
  obtain⟨_,bw,bx⟩:=Mv.pl bv
  have c1:oH (ah=0→bf=bk.length):=fun b=>(g.o.pl b).2
  have L:=Ad (g.o.query E bu an K bw);have c3:=Ad bx;clear bw bx bv;have ao:=Ad bs;have bz:=Ad bt;clear bs E bt bu an K g bp bq
  obtain⟨_,c4⟩:=L.o.pb.cell (i:=10) (by omega)
  have c5:=L.o.pb.fz 10;go_wp2_with fail
  refine (Ar B s a5 (d+1) e5 am 41 41 U _ v (by omega) rfl (L.o.set (i:=10) (by omega) (by rfl)).rr).mono ?_
  rintro u w6 ⟨_,rfl,M,N,x6,F,b0⟩
  have V:=Ad ((L.o.set (i:=10) (by omega) (by rfl)).next F b0)
  have c6:oH (Pl.Fl s d q a=(M,N)):=Pl.CI (by rw[y.o];omega) (by rw[y.o];rfl) (by rw[y.o];exact ae.o) A.o R.o C.o ao.o x6
  have c7:oH (M=0→am=Pl.cj s N):=by intro b;subst b;have:=Pl.Fm (Pl.Bu (s:=s) (by omega) (by omega)) x6;rw[this.2];exact bz.o this.1
  have c8:oH (M=0→e1=0∧ah=0∧e5=0∧Pl.Ba s _ a=(true,a1)∧Pl.bt s a1=40∧ag=a1+1∧Pl.bt s ai=44∧al=ai+1∧Pl.bt s a5=41∧N=a5+1∧d≤5):=fun b=>by subst b;exact FO ck ae.o A.o R.o C.o ao.o x6
  have c9:oH (D+1≤m+(1+2*O)):=by show _≤_;omega
  clear x6 F b0 L bz c4 c5 ae A R C ao;have c2:=V.o.rr.c2;have ap:=V.o.rr.f 2;go_wp2_with fail;have c:=Ad (V.o.Xa d);clear V c2 ap;generalize w6.setCell ⟨B,2,none⟩ (.int .i64 (d:Int))=W at *
  obtain⟨p1,p2,n,p,E,F,aq,ar,au,av,aw,X,e,b1⟩:=c.o.pb.cells
  have da:=Ad X;clear X;have b2:=c.o.po
  obtain⟨db,dc,dd,de,df⟩:=info_parts Kr
  have dg:=c.o.rr.c5;have Y:=c.o.rr.f 5;have hB:=Aa c.o.rr.2;have r0:=Ae e 0;have r1:=Ae e 1;have r2:=Ae e 2;have J:=Ae e 3;have b3:=Ae e 4;have K:=Ae e 5;have r6:=Ae e 6;have b4:=Ae e 7;have b5:=Ae e 8;have b6:=Ae e 9;have b7:=Ae e 10;have b8:=Ae e 11
  simp at r0 r1 r2 J b3 K r6 b4 b5 b6 b7 b8
  have b9:=Ad b1;have ca:=Ad b2;clear b1 e b2
  have cb:∀o,(W.alloc o).frozen? ⟨B,5,none⟩=false:=fun o=>(World.frozen?_alloc_past _ _ _ hB).trans Y
  have ax:some B≠U.ownBlock:=c.o.FJ
  go_region_law
   ((refine step_append_lies _ (by rfl) _ _ _ (by rfl) (B+1) 204 db _ 12 120 Tryz.underlying198 dc dd de df rfl (by omega) U D br (by rfl) ((ca.o.alloc _).drew) ⟨W.heap.size,0,none⟩ 1 1 [.int .u8 85,p1,p2,n,p,E,F,aq,ar,au,av,aw] (by rfl) (by rfl) (World.news_of_block (cs:=#[.int .u8 85,p1,p2,n,p,E,F,aq,ar,au,av,aw]) (t:=204) (fr:=(0,0)) (heap_alloc_new W _)) b9.o (by omega) (by unfold maxLen;omega) (by omega) (by simp;omega) (W.heap.size+1) (by simp) ?_;intro dh cap ay cc Z cd di;have d9:ay.cell? ⟨B,5,none⟩=some U:=(Z.cell_far _ (by simp;omega) ax).trans ((World.cell?_alloc_past _ _ _ hB).trans dg);have an:ay.frozen? ⟨B,5,none⟩=false:=(Z.frozen_far _ (by simp;omega) ax).trans (cb _)))
  all_goals
   obtain⟨ce,cf,cg,ch,ci⟩:=Ks (pv:=pv) c.o.rr c.o.fr (c.o.hr.imp id fun az k dj=>mR (az k dj)) ax Z cc cd
   have dk:=Ad ce;have dl:=Ad cf;have dm:=Ad cg;have dn:=Ad ch
   have dp:oH (M=0→Mv B s (6-d) a N S (D:Int) (D+1) (br++[.int .u8 85,p1,p2,n,p,E,F,aq,ar,au,av,aw]) (ay.setCell ⟨B,5,none⟩ (.slice (some ⟨dh,0,none⟩) (D+1) cap))):=fun b=>by
    obtain⟨dq,cj,Y,az,dr,ap,ds,dt,du,dv,_⟩:=c8.o b
    obtain⟨_,_,dw,dx,dy⟩:=cv.o cj
    obtain⟨_,_,dz,d0,d1⟩:=c3.o Y
    obtain⟨d2,d3⟩:=c.o.pl Y
    have ik:=ci c.o.po.O9;have X:=da.o
    rw[show 6-d=6-(d+1)+1 by omega]
    exact FM y.o rfl ((cr.o dq).Bw (c.o.ik.trans ik)) az dr (ap ▸ dx) ds (dt ▸ d0) du dv (d2.Bw ik) (c1.o cj) d3 dw dz dy d1 X
   clear ce cf cg ch ci cc Z cd di r0 r1 r2 J b3 K r6 b4 b5 b6 b7 b8 cb b9 ca c
   go_wp2
   go_ret
   exact⟨_,rfl,M,N,am,_,D+1,_,c6.o,dk.o,c7.o,dl.o,c9.o,dm.o,dn.o,dp.o⟩
attribute [local go_sem ↓] Go.wp_at_zero Go.wp_at_succ
theorem fU (B:Nat)(s:ByteArray)(a d j K:Nat)(q:Nat→Nat×Nat)(pv:Value)(m:Nat)(xs:List Value)(S:List Q)(w:World)(u:s.size≤1000)(bw:d≤6)(ap:Jd B s (d+1) K q)(h:RR B s a d 0 j pv w)(ho:PO B pv m xs w)(aq:PL B w xs S∧m=S.length)(_:m+(1+2*K)≤1000)(ar:j=Pl.cj s a)(R:Pl.bt s a=68) :
 Calls Tryz.prog 130 #[.pointer (some ⟨B,0,none⟩)] w (QR B s d pv m (1+2*K) w S a (Pl.Fl s d q a) (fun bx a' bz=>bx=0→bz=Pl.cj s a')):=by
 have L:oH (ST B s d j pv pv m xs S True w w 0 #[.int .u8 0,.string ⟨#[]⟩,.slice none 0 0,.int .u8 0,.int .u8 0,.bool false,.int .i64 0,.string ⟨#[]⟩,.int .i64 0,.int .i64 (-1),.int .i64 (-1),.int .i64 0] 0 a (w.alloc (.cells #[.int .u8 0,.string ⟨#[]⟩,.slice none 0 0,.int .u8 0,.int .u8 0,.bool false,.int .i64 0,.string ⟨#[]⟩,.int .i64 0,.int .i64 (-1),.int .i64 (-1),.int .i64 0] 204))):=ST.start h ho (fun _=>aq) rfl rfl QM
 have c6:=Aa h.2;have c7:=h.1;have f:=Ad R;have b0:=Ad ar;have b1:=Ad ap
 have v:oH (Pl.kd (Pl.bt s a)=6):=by show _=_;rw[R];rfl
 clear h ho R ar ap aq
 go_enter Tryz.func130,Tryz.ntmps130
 go_upto_block 0 with fail
 go_cut [] (fun b2=>oH (HD B s d a pv m xs S w b2))
 case first =>
  go_wp2_with fail
  refine (Eg B s a d 0 j 83 83 pv _ u (by omega) rfl L.o.rr (by unfold sn;rw[f.o];rfl)).mono ?_
  rintro y c8 ⟨rfl,p1,au⟩;have z:=Ad (L.o.next p1 au);clear p1 au L;go_wp2_with fail
  refine (Eg B s a d 0 j 80 80 pv _ u (by omega) rfl z.o.rr (by unfold sn;rw[f.o];rfl)).mono ?_
  rintro y b3 ⟨rfl,p2,D⟩;have g:=Ad (z.o.next p2 D);clear p2 D z;go_wp2_with fail
  refine (Eg B s a d 0 j 74 74 pv _ u (by omega) rfl g.o.rr (by unfold sn;rw[f.o];rfl)).mono ?_
  rintro y w3 ⟨rfl,l,E⟩;have e:=Ad (g.o.next l E);clear l E g;go_wp2_with fail
  refine (Eg B s a d 0 j 85 85 pv _ u (by omega) rfl e.o.rr (by unfold sn;rw[f.o];rfl)).mono ?_
  rintro y w4 ⟨rfl,n,F⟩;have p:=Ad (e.o.next n F);clear n F e;go_wp2_with fail
  refine (Px B s a d 0 j 68 68 pv _ u (by omega) rfl p.o.rr (by unfold sn;rw[f.o];rfl)).mono ?_
  rintro y w5 ⟨rfl,A,T⟩;have U:=Ad (p.o.next A T);clear A T p
  obtain⟨_,_⟩:=U.o.pb.cell (i:=0) (by omega)
  have c9:=U.o.pb.fz 0
  have da:¬B=w.heap.size:=by omega
  go_wp2_with fail
  go_meet
  case rel =>
   refine⟨0,a+1,j,_,68,_,by rw[f.o];rfl,?_,?_,U.o.Gy 68,fun _=>?_⟩
   ·rw[v.o];exact Pl.Fh (show Pl.tk s 68 a=_ from Pl.I6 f.o)
   ·intro _;rw[b0.o];simp[Pl.cj,f.o]
   ·rw[v.o];exact XE B s a _
 case rest =>
  obtain⟨e1,a1,V,_,b4,_,av,X,aw,ax,Y⟩:=hcut.o
  obtain rfl:b4=68:=by rw[av,f.o];rfl
  rw[v.o] at X Y
  have b5:=Ad Y;have Z:=Ad X;have ay:=Ad aw;have z:=Ad ax.Pa;clear X aw ax hcut L Y av
  obtain⟨_,b6⟩:∃x,x=wc:=⟨_,rfl⟩
  subst b6;go_wp2_with fail
  refine (Mr B s a1 d e1 V pv _ u (by omega) z.o.rr).mono ?_
  rintro y b3 ⟨rfl,aa,ab,az,p2,D⟩;have g:=Ad (z.o.next p2 D);have G:=Ad az
  have a0:oH (aa=0→V=Pl.cj s ab):=by intro r;subst r;have:=Pl.Th G.o;rw[this.2];exact ay.o this.1
  have a2:oH (7≤d+1→aa≠0):=by
   intro r
   obtain rfl:d=6:=by omega
   exact Pl.He G.o
  clear az p2 D ay z;go_wp2_with fail
  refine (b1.o ab aa V pv m xs S _ a2.o g.o.rr g.o.po (fun _=>g.o.pl trivial) (by omega) a0.o).mono ?_
  rintro y w3 ⟨_,rfl,a3,ac,ad,M,C,a4,a5,l,a6,a7,_,E,H,a8⟩
  obtain⟨_,a9,ba⟩:=Mv.pl a8
  have e:=Ad (g.o.query l a7 E H a9);have b7:=Ad ba;clear a9 ba a8;have ae:=Ad a5;have bb:=Ad a6;clear a5 l a6 a7 E H g a0 a2
  obtain⟨_,b8⟩:=e.o.pb.cell (i:=9) (by omega)
  have b9:=e.o.pb.fz 9;have ca:=e.o.pb.verb;go_wp2_with fail
  refine (Ar B s ac (d+1) a3 ad 41 41 M _ u (by omega) rfl (e.o.set (i:=9) (by omega) (by rfl)).rr).mono ?_
  rintro y w4 ⟨_,rfl,I,J,N,n,F⟩
  have p:=Ad ((e.o.set (i:=9) (by omega) (by rfl)).next n F)
  have cb:oH (Pl.Fl s d q a=(I,J)):=Pl.Rw (by rw[v.o];omega) (by rw[v.o];rfl) (by rw[v.o];exact Z.o) G.o ae.o N
  have cc:oH (I=0→ad=Pl.cj s J):=by intro r;subst r;have:=Pl.Fm (Pl.Bu (s:=s) (by omega) (by omega)) N;rw[this.2];exact bb.o this.1
  have cd:oH (I=0→e1=0∧a3=0∧Pl.Ba s _ a=(true,a1)∧Pl.bt s a1=40∧ab=a1+1∧Pl.bt s ac=41∧J=ac+1∧d≤5):=fun r=>by subst r;exact Tb bw Z.o G.o ae.o N
  have ce:oH (C+1≤m+(1+2*K)):=by show _≤_;omega
  clear N n F e bb b8 b9 ca Z G ae;have c2:=p.o.rr.c2;have af:=p.o.rr.f 2;go_wp2_with fail;have b:=Ad (p.o.Xa d);clear p c2 af;generalize w4.setCell ⟨B,2,none⟩ (.int .i64 (d:Int))=W at *
  obtain⟨p1,p2,l,n,A,ag,ah,ai,aj,ak,al,O,c,bc⟩:=b.o.pb.cells
  have cf:=Ad O;clear O;have bd:=b.o.po
  obtain⟨cg,ch,ci,cj,ck⟩:=info_parts Kr
  have cl:=b.o.rr.c5;have cm:=b.o.rr.f 5;have hB:=Aa b.o.rr.2;have r0:=Ae c 0;have r1:=Ae c 1;have r2:=Ae c 2;have H:=Ae c 3;have be:=Ae c 4;have bf:=Ae c 5;have r6:=Ae c 6;have bg:=Ae c 7;have bh:=Ae c 8;have bi:=Ae c 9;have bj:=Ae c 10;have bk:=Ae c 11
  simp at r0 r1 r2 H be bf r6 bg bh bi bj bk
  have bl:=Ad bc;have bm:=Ad bd;clear bc c bd
  have bn:∀o,(W.alloc o).frozen? ⟨B,5,none⟩=false:=fun o=>(World.frozen?_alloc_past _ _ _ hB).trans cm
  have am:some B≠M.ownBlock:=b.o.FJ
  go_region_law
   ((refine step_append_lies _ (by rfl) _ _ _ (by rfl) (B+1) 204 cg _ 12 120 Tryz.underlying198 ch ci cj ck rfl (by omega) M C a4 (by rfl) ((bm.o.alloc _).drew) ⟨W.heap.size,0,none⟩ 1 1 [.int .u8 68,p1,p2,l,n,A,ag,ah,ai,aj,ak,al] (by rfl) (by rfl) (World.news_of_block (cs:=#[.int .u8 68,p1,p2,l,n,A,ag,ah,ai,aj,ak,al]) (t:=204) (fr:=(0,0)) (heap_alloc_new W _)) bl.o (by omega) (by unfold maxLen;omega) (by omega) (by simp;omega) (W.heap.size+1) (by simp) ?_;intro cn cap an bo P bp co;have db:an.cell? ⟨B,5,none⟩=some M:=(P.cell_far _ (by simp;omega) am).trans ((World.cell?_alloc_past _ _ _ hB).trans cl);have T:an.frozen? ⟨B,5,none⟩=false:=(P.frozen_far _ (by simp;omega) am).trans (bn _)))
  all_goals
   obtain⟨bq,br,bs,bt,bu⟩:=Ks (pv:=pv) b.o.rr b.o.fr (b.o.hr.imp id fun ao k cp=>mR (ao k cp)) am P bo bp
   have cq:=Ad bq;have cr:=Ad br;have ct:=Ad bs;have cu:=Ad bt
   have cv:oH (I=0→Mv B s (6-d) a J S (C:Int) (C+1) (a4++[.int .u8 68,p1,p2,l,n,A,ag,ah,ai,aj,ak,al]) (an.setCell ⟨B,5,none⟩ (.slice (some ⟨cn,0,none⟩) (C+1) cap))):=fun r=>by
    obtain⟨cw,bv,ao,cx,af,cy,cz,_⟩:=cd.o r
    obtain⟨_,_,c0,c1,c3⟩:=b7.o bv
    obtain⟨c4,c5⟩:=b.o.pl bv
    have ik:=bu b.o.po.O9;have O:=cf.o
    rw[show 6-d=6-(d+1)+1 by omega]
    exact Ta v.o rfl ((b5.o cw).Bw (b.o.ik.trans ik)) ao cx (af ▸ c1) cy cz (c4.Bw ik) c5 c0 c3 O
   clear bq br bs bt bu bo P bp co r0 r1 r2 H be bf r6 bg bh bi bj bk bn bl bm b
   go_wp2
   go_ret
   exact⟨_,rfl,I,J,ad,_,C+1,_,cb.o,cq.o,cc.o,cr.o,ce.o,ct.o,cu.o,cv.o⟩
attribute [local go_sem ↓] Go.wp_at_zero Go.wp_at_succ
theorem fV (B:Nat)(s:ByteArray)(a d j bg:Nat)(q:Nat→Nat×Nat)(pv:Value)(m:Nat)(xs:List Value)(S:List Q)(w:World)(b:s.size≤1000)(ec:d≤6)(cc:Jd B s (d+1) bg q)(h:RR B s a d 0 j pv w)(ho:PO B pv m xs w)(cd:PL B w xs S∧m=S.length)(_:m+(1+2*bg)≤1000)(ce:j=Pl.cj s a)(bs:Pl.bt s a=71) :
 Calls Tryz.prog 130 #[.pointer (some ⟨B,0,none⟩)] w (QR B s d pv m (1+2*bg) w S a (Pl.Fl s d q a) (fun ed a' ee=>ed=0→ee=Pl.cj s a')):=by
 have bh:oH (ST B s d j pv pv m xs S True w w 0 #[.int .u8 0,.string ⟨#[]⟩,.slice none 0 0,.int .u8 0,.int .u8 0,.bool false,.int .i64 0,.string ⟨#[]⟩,.int .i64 0,.int .i64 (-1),.int .i64 (-1),.int .i64 0] 0 a (w.alloc (.cells #[.int .u8 0,.string ⟨#[]⟩,.slice none 0 0,.int .u8 0,.int .u8 0,.bool false,.int .i64 0,.string ⟨#[]⟩,.int .i64 0,.int .i64 (-1),.int .i64 (-1),.int .i64 0] 204))):=ST.start h ho (fun _=>cd) rfl rfl QM
 have fx:=Aa h.2;have fy:=h.1;have l:=Ad bs;have bi:=Ad ce;have ef:=Ad cc
 have g:oH (Pl.kd (Pl.bt s a)=7):=by show _=_;rw[bs];rfl
 clear h ho bs ce cc cd
 go_enter Tryz.func130,Tryz.ntmps130
 go_upto_block 0 with fail
 go_cut [] (fun eg=>oH (HD B s d a pv m xs S w eg))
 case first =>
  go_wp2_with fail
  refine (Eg B s a d 0 j 83 83 pv _ b (by omega) rfl bh.o.rr (by unfold sn;rw[l.o];rfl)).mono ?_
  rintro c fz ⟨rfl,p1,cf⟩;have ac:=Ad (bh.o.next p1 cf);clear p1 cf bh;go_wp2_with fail
  refine (Eg B s a d 0 j 80 80 pv _ b (by omega) rfl ac.o.rr (by unfold sn;rw[l.o];rfl)).mono ?_
  rintro c eh ⟨rfl,p2,aq⟩;have J:=Ad (ac.o.next p2 aq);clear p2 aq ac;go_wp2_with fail
  refine (Eg B s a d 0 j 74 74 pv _ b (by omega) rfl J.o.rr (by unfold sn;rw[l.o];rfl)).mono ?_
  rintro c w3 ⟨rfl,K,ar⟩;have G:=Ad (J.o.next K ar);clear K ar J;go_wp2_with fail
  refine (Eg B s a d 0 j 85 85 pv _ b (by omega) rfl G.o.rr (by unfold sn;rw[l.o];rfl)).mono ?_
  rintro c w4 ⟨rfl,M,au⟩;have T:=Ad (G.o.next M au);clear M au G;go_wp2_with fail
  refine (Eg B s a d 0 j 68 68 pv _ b (by omega) rfl T.o.rr (by unfold sn;rw[l.o];rfl)).mono ?_
  rintro c w5 ⟨rfl,af,bt⟩;have bu:=Ad (T.o.next af bt);clear af bt T;go_wp2_with fail
  refine (Px B s a d 0 j 71 71 pv _ b (by omega) rfl bu.o.rr (by unfold sn;rw[l.o];rfl)).mono ?_
  rintro c w6 ⟨rfl,ag,cg⟩;have av:=Ad (bu.o.next ag cg);clear ag cg bu
  obtain⟨_,_⟩:=av.o.pb.cell (i:=0) (by omega)
  have f0:=av.o.pb.fz 0
  have f1:¬B=w.heap.size:=by omega
  go_wp2_with fail
  refine (Ar B s (a+1) d 0 j 91 91 pv _ b (by omega) rfl ((av.o.Gy 71).rr)).mono ?_
  rintro c f2 ⟨_,rfl,ah,U,ch,ai,ci⟩;have bv:=Ad ((av.o.Gy 71).next ai ci);have V:=Ad ch;clear ch ai ci av;go_wp2_with fail
  refine (Cx B s U d ah j 93 93 pv _ b (by omega) rfl (bv.o.rr)).mono ?_
  rintro c f3 ⟨ei,cj,rfl,ck,bj,aj,cl⟩;have ak:=bv.o.next aj cl;clear aj cl bv
  cases ei
  ·rw[show cj=U from bj] at ak
   have X:=Ad ak;have Y:=Ad (Pb ck.o);clear ak bj;go_wp2_with fail;refine (Sy B s U d ah j pv _ b (X.o.rr)).mono ?_;rintro c cm ⟨⟨ej,ek,el,cn,rfl,co,cp,cq,cr⟩,Z,H,aw,N,ax⟩;have P:=Ad (X.o.next N ax).Pa;have ct:=Ad cr
   have cu:oH (cm.ownsRow (B+1) 3 1 (.slice ej ek el) cn.length (Fj cn)):=XC co (by have:=X.o.fr.size;omega)
   have cw:=Ad cq;clear cr co cq;have aa:=Ad aw;clear aw N ax X
   have O:oH (Pl.bE (ah,U) (Pl.lf (Pl.Qs (Pl.tk s 93) (Pl.C9 s 5)))=(Z,H)):=by
    show _=_
    rw[Pl.KV Y.o];exact aa.o
   obtain⟨_,_⟩:=P.o.pb.cell (i:=2) (by omega)
   have f4:=P.o.pb.fz 2;go_wp2_with fail
   refine (Ar B s H d Z j 91 91 pv _ b (by omega) rfl ((P.o.set (i:=2) (by omega) (by rfl)).rr)).mono ?_
   rintro c em ⟨_,rfl,ay,ad,cx,R,az⟩
   have n:=Ad ((P.o.set (i:=2) (by omega) (by rfl)).next R az)
   have bk:=Ad cx;clear cx R az P;go_wp2_with fail
   refine (Cx B s ad d ay j 115 115 pv _ b (by omega) rfl (n.o.rr)).mono ?_
   rintro c cy ⟨en,cz,rfl,c0,bl,v,ab⟩;have al:=n.o.next v ab;clear v ab n
   cases en
   ·rw[show cz=ad from bl] at al
    have e:=Ad al;have am:=Ad (Pb c0.o);clear al bl
    obtain⟨c1,c3⟩:=e.o.pb.cell (i:=3) (by omega)
    have c4:=e.o.pb.fz 3;go_wp2_with fail
    refine (Rg B s ad d ay j 110 110 pv _ b (by omega) rfl ((e.o.set (i:=3) (by omega) (by rfl)).rr)).mono ?_
    rintro c bw ⟨rfl,y,z,A,C,D⟩
    have p:=Ad ((e.o.set (i:=3) (by omega) (by rfl)).next C D)
    have I:=Ad A;clear A C D e
    have E:oH (Pl.bE (ay,ad) (Pl.lf (Pl.Je (Pl.tk s 115) (Pl.Hr s) (Pl.tk s 110)))=(y,z)):=by
     show _=_
     rw[Pl.Oc am.o];exact I.o
    obtain⟨_,_⟩:=p.o.pb.cell (i:=3) (by omega)
    have f5:=p.o.pb.fz 3;go_wp2_with fail
    refine (Ar B s z d y j 93 93 pv _ b (by omega) rfl ((p.o.set (i:=3) (by omega) (by rfl)).rr)).mono ?_
    rintro c eo ⟨ep,rfl,a0,a2,a3,a4,a5⟩
    have a6:=Ad ((p.o.set (i:=3) (by omega) (by rfl)).next a4 a5)
    have a7:=Ad a3;clear a3 a4 a5 p;go_wp2_with fail
    go_meet
    case rel =>
     have F:oH (Pl.lf (Pl.Ba s (Pl.kd (Pl.bt s a))) a=(a0,a2)):=by
      show _=_
      rw[g.o]
      show Pl.lf (Pl.Cp s) a=_
      unfold Pl.Cp
      rw[Pl.Ka l.o,Pl.Ge,show Pl.lf (Pl.tk s 91) (a+1)=_ from V.o,Pl.Bg,O.o,Pl.Ij,Pl.Bg,bk.o,Pl.Bg,E.o]
      exact a7.o
     refine⟨a0,a2,j,_,71,_,by rw[l.o];rfl,F.o,Ez g.o bi.o F.o,a6.o,fun ae=>?_⟩
     rw[g.o]
     subst ae
     exact Tc _ V.o O.o bk.o E.o a7.o (fun f a8=>by rw[if_neg (fun x=>Y.o ⟨f,x⟩)];exact ct.o (by rw[aa.o];exact a8)) (Mu cu.o a6.o.ik) cp cw.o (mB _) (fun f _=>by unfold GI;rw[if_neg (fun x=>am.o ⟨f,x⟩),if_neg (by decide)];rfl)
   ·rw[show cz=ad+1 from bl] at al
    have e:=Ad al;have am:=Ad (Kt c0.o);clear al bl
    obtain⟨c1,c3⟩:=e.o.pb.cell (i:=3) (by omega)
    have c4:=e.o.pb.fz 3;go_wp2_with fail
    refine (Df B s (ad+1) d ay j pv _ b ((e.o.set (i:=3) (by omega) (by rfl)).rr)).mono ?_
    rintro c bw ⟨_,rfl,c5,y,z,A,C,D⟩;have c6:=Ad c5;clear c5
    have p:=Ad ((e.o.set (i:=3) (by omega) (by rfl)).next C D)
    have I:=Ad A;clear A C D e
    have E:oH (Pl.bE (ay,ad) (Pl.lf (Pl.Je (Pl.tk s 115) (Pl.Hr s) (Pl.tk s 110)))=(y,z)):=by
     show _=_
     have x:=I.o;rw[am.o.1] at x⊢;rw[Pl.Ob am.o.2];exact x
    obtain⟨_,_⟩:=p.o.pb.cell (i:=8) (by omega)
    have f6:=p.o.pb.fz 8;go_wp2_with fail
    refine (Ar B s z d y j 93 93 pv _ b (by omega) rfl ((p.o.set (i:=8) (by omega) (by rfl)).rr)).mono ?_
    rintro c eo ⟨ep,rfl,a0,a2,a3,a4,a5⟩
    have a6:=Ad ((p.o.set (i:=8) (by omega) (by rfl)).next a4 a5)
    have a7:=Ad a3;clear a3 a4 a5 p;go_wp2_with fail
    go_meet
    case rel =>
     have F:oH (Pl.lf (Pl.Ba s (Pl.kd (Pl.bt s a))) a=(a0,a2)):=by
      show _=_
      rw[g.o]
      show Pl.lf (Pl.Cp s) a=_
      unfold Pl.Cp
      rw[Pl.Ka l.o,Pl.Ge,show Pl.lf (Pl.tk s 91) (a+1)=_ from V.o,Pl.Bg,O.o,Pl.Ij,Pl.Bg,bk.o,Pl.Bg,E.o]
      exact a7.o
     refine⟨a0,a2,j,_,71,_,by rw[l.o];rfl,F.o,Ez g.o bi.o F.o,a6.o,fun ae=>?_⟩
     rw[g.o]
     subst ae
     exact Tc _ V.o O.o bk.o E.o a7.o (fun f a8=>by rw[if_neg (fun x=>Y.o ⟨f,x⟩)];exact ct.o (by rw[aa.o];exact a8)) (Mu cu.o a6.o.ik) cp cw.o c6.o.1 (fun f bx=>by unfold GI;rw[if_pos am.o.2,if_pos rfl,c6.o.2 (by rw[I.o];exact bx)];rfl)
  ·rw[show cj=U+1 from bj] at ak
   have X:=Ad ak;have Y:=Ad (Kt ck.o);clear ak bj
   have O:oH (Pl.bE (ah,U) (Pl.lf (Pl.Qs (Pl.tk s 93) (Pl.C9 s 5)))=(ah,(U+1))):=by
    show _=_
    rw[Y.o.1,Pl.GR Y.o.2]
   go_wp2_with fail
   refine (Ar B s (U+1) d ah j 91 91 pv _ b (by omega) rfl (X.o.rr)).mono ?_
   rintro c cm ⟨_,rfl,Z,H,aw,N,ax⟩;have P:=Ad (X.o.next N ax);have aa:=Ad aw;clear aw N ax X;go_wp2_with fail
   refine (Cx B s H d Z j 115 115 pv _ b (by omega) rfl (P.o.rr)).mono ?_
   rintro c em ⟨er,c7,rfl,c8,bm,R,az⟩;have an:=P.o.next R az;clear R az P
   cases er
   ·rw[show c7=H from bm] at an
    have n:=Ad an;have ao:=Ad (Pb c8.o);clear an bm
    obtain⟨es,et⟩:=n.o.pb.cell (i:=3) (by omega)
    have eu:=n.o.pb.fz 3;go_wp2_with fail
    refine (Rg B s H d Z j 110 110 pv _ b (by omega) rfl ((n.o.set (i:=3) (by omega) (by rfl)).rr)).mono ?_
    rintro c cy ⟨rfl,a9,ba,bb,v,ab⟩
    have e:=Ad ((n.o.set (i:=3) (by omega) (by rfl)).next v ab)
    have bn:=Ad bb;clear bb v ab n
    have E:oH (Pl.bE (Z,H) (Pl.lf (Pl.Je (Pl.tk s 115) (Pl.Hr s) (Pl.tk s 110)))=(a9,ba)):=by
     show _=_
     rw[Pl.Oc ao.o];exact bn.o
    obtain⟨c1,c3⟩:=e.o.pb.cell (i:=3) (by omega)
    have c4:=e.o.pb.fz 3;go_wp2_with fail
    refine (Ar B s ba d a9 j 93 93 pv _ b (by omega) rfl ((e.o.set (i:=3) (by omega) (by rfl)).rr)).mono ?_
    rintro c bw ⟨ev,rfl,y,z,A,C,D⟩
    have p:=Ad ((e.o.set (i:=3) (by omega) (by rfl)).next C D)
    have I:=Ad A;clear A C D e;go_wp2_with fail
    go_meet
    case rel =>
     have F:oH (Pl.lf (Pl.Ba s (Pl.kd (Pl.bt s a))) a=(y,z)):=by
      show _=_
      rw[g.o]
      show Pl.lf (Pl.Cp s) a=_
      unfold Pl.Cp
      rw[Pl.Ka l.o,Pl.Ge,show Pl.lf (Pl.tk s 91) (a+1)=_ from V.o,Pl.Bg,O.o,Pl.Ij,Pl.Bg,aa.o,Pl.Bg,E.o]
      exact I.o
     refine⟨y,z,j,_,71,_,by rw[l.o];rfl,F.o,Ez g.o bi.o F.o,p.o,fun ae=>?_⟩
     rw[g.o]
     subst ae
     exact Tc (L:=[]) (cv:=.slice none 0 0) _ V.o O.o aa.o E.o I.o (fun _ _=>by rw[if_pos Y.o.2]) (World.ownsRow_nil _ _ _ _) (by simp) (by simp) (mB _) (fun f _=>by unfold GI;rw[if_neg (fun x=>ao.o ⟨f,x⟩),if_neg (by decide)];rfl)
   ·rw[show c7=H+1 from bm] at an
    have n:=Ad an;have ao:=Ad (Kt c8.o);clear an bm
    obtain⟨es,et⟩:=n.o.pb.cell (i:=3) (by omega)
    have eu:=n.o.pb.fz 3;go_wp2_with fail
    refine (Df B s (H+1) d Z j pv _ b ((n.o.set (i:=3) (by omega) (by rfl)).rr)).mono ?_
    rintro c cy ⟨_,rfl,c9,a9,ba,bb,v,ab⟩;have da:=Ad c9;clear c9
    have e:=Ad ((n.o.set (i:=3) (by omega) (by rfl)).next v ab)
    have bn:=Ad bb;clear bb v ab n
    have E:oH (Pl.bE (Z,H) (Pl.lf (Pl.Je (Pl.tk s 115) (Pl.Hr s) (Pl.tk s 110)))=(a9,ba)):=by
     show _=_
     have x:=bn.o;rw[ao.o.1] at x⊢;rw[Pl.Ob ao.o.2];exact x
    obtain⟨_,_⟩:=e.o.pb.cell (i:=8) (by omega)
    have f7:=e.o.pb.fz 8;go_wp2_with fail
    refine (Ar B s ba d a9 j 93 93 pv _ b (by omega) rfl ((e.o.set (i:=8) (by omega) (by rfl)).rr)).mono ?_
    rintro c bw ⟨ev,rfl,y,z,A,C,D⟩
    have p:=Ad ((e.o.set (i:=8) (by omega) (by rfl)).next C D)
    have I:=Ad A;clear A C D e;go_wp2_with fail
    go_meet
    case rel =>
     have F:oH (Pl.lf (Pl.Ba s (Pl.kd (Pl.bt s a))) a=(y,z)):=by
      show _=_
      rw[g.o]
      show Pl.lf (Pl.Cp s) a=_
      unfold Pl.Cp
      rw[Pl.Ka l.o,Pl.Ge,show Pl.lf (Pl.tk s 91) (a+1)=_ from V.o,Pl.Bg,O.o,Pl.Ij,Pl.Bg,aa.o,Pl.Bg,E.o]
      exact I.o
     refine⟨y,z,j,_,71,_,by rw[l.o];rfl,F.o,Ez g.o bi.o F.o,p.o,fun ae=>?_⟩
     rw[g.o]
     subst ae
     exact Tc (L:=[]) (cv:=.slice none 0 0) _ V.o O.o aa.o E.o I.o (fun _ _=>by rw[if_pos Y.o.2]) (World.ownsRow_nil _ _ _ _) (by simp) (by simp) da.o.1 (fun f bx=>by unfold GI;rw[if_pos ao.o.2,if_pos rfl,da.o.2 (by rw[bn.o];exact bx)];rfl)
 case rest =>
  obtain⟨e1,a1,bz,_,ew,_,db,b0,dc,dd,b1⟩:=hcut.o
  obtain rfl:ew=71:=by rw[db,l.o];rfl
  rw[g.o] at b0 b1
  have ex:=Ad b1;have b2:=Ad b0;have de:=Ad dc;have ac:=Ad dd.Pa;clear b0 dc dd hcut bh b1 db
  obtain⟨_,ey⟩:∃x,x=wc:=⟨_,rfl⟩
  subst ey;go_wp2_with fail
  refine (Mr B s a1 d e1 bz pv _ b (by omega) ac.o.rr).mono ?_
  rintro c eh ⟨rfl,b3,b4,df,p2,aq⟩;have J:=Ad (ac.o.next p2 aq);have bc:=Ad df
  have dg:oH (b3=0→bz=Pl.cj s b4):=by intro f;subst f;have:=Pl.Th bc.o;rw[this.2];exact de.o this.1
  have dh:oH (7≤d+1→b3≠0):=by
   intro f
   obtain rfl:d=6:=by omega
   exact Pl.He bc.o
  clear df p2 aq de ac;go_wp2_with fail
  refine (ef.o b4 b3 bz pv m xs S _ dh.o J.o.rr J.o.po (fun _=>J.o.pl trivial) (by omega) dg.o).mono ?_
  rintro c w3 ⟨_,rfl,di,b5,b6,bo,ap,dj,dk,K,dl,dm,_,ar,bd,dn⟩
  obtain⟨_,dp,dq⟩:=Mv.pl dn
  have G:=Ad (J.o.query K dm ar bd dp);have ez:=Ad dq;clear dp dq dn;have b7:=Ad dk;have dr:=Ad dl;clear dk K dl dm ar bd J dg dh
  obtain⟨_,e0⟩:=G.o.pb.cell (i:=9) (by omega)
  have a8:=G.o.pb.fz 9;have e2:=G.o.pb.verb;go_wp2_with fail
  refine (Ar B s b5 (d+1) di b6 41 41 bo _ b (by omega) rfl (G.o.set (i:=9) (by omega) (by rfl)).rr).mono ?_
  rintro c w4 ⟨_,rfl,be,bf,bp,M,au⟩
  have T:=Ad ((G.o.set (i:=9) (by omega) (by rfl)).next M au)
  have e3:oH (Pl.Fl s d q a=(be,bf)):=Pl.Rw (by rw[g.o];omega) (by rw[g.o];rfl) (by rw[g.o];exact b2.o) bc.o b7.o bp
  have e4:oH (be=0→b6=Pl.cj s bf):=by intro f;subst f;have:=Pl.Fm (Pl.Bu (s:=s) (by omega) (by omega)) bp;rw[this.2];exact dr.o this.1
  have e5:oH (be=0→e1=0∧di=0∧Pl.Ba s _ a=(true,a1)∧Pl.bt s a1=40∧b4=a1+1∧Pl.bt s b5=41∧bf=b5+1∧d≤5):=fun f=>by subst f;exact Tb ec b2.o bc.o b7.o bp
  have e6:oH (ap+1≤m+(1+2*bg)):=by show _≤_;omega
  clear bp M au G dr e0 a8 e2 b2 bc b7;have c2:=T.o.rr.c2;have b8:=T.o.rr.f 2;go_wp2_with fail;have r:=Ad (T.o.Xa d);clear T c2 b8;generalize w4.setCell ⟨B,2,none⟩ (.int .i64 (d:Int))=W at *
  obtain⟨p1,p2,K,M,af,ag,ai,aj,N,R,v,bq,u,ds⟩:=r.o.pb.cells
  have e7:=Ad bq;clear bq;have dt:=r.o.po
  obtain⟨e8,e9,fa,fb,fc⟩:=info_parts Kr
  have fd:=r.o.rr.c5;have fe:=r.o.rr.f 5;have hB:=Aa r.o.rr.2;have r0:=Ae u 0;have r1:=Ae u 1;have r2:=Ae u 2;have bd:=Ae u 3;have du:=Ae u 4;have dv:=Ae u 5;have r6:=Ae u 6;have dw:=Ae u 7;have dx:=Ae u 8;have dy:=Ae u 9;have dz:=Ae u 10;have d0:=Ae u 11
  simp at r0 r1 r2 bd du dv r6 dw dx dy dz d0
  have d1:=Ad ds;have d2:=Ad dt;clear ds u dt
  have d3:∀o,(W.alloc o).frozen? ⟨B,5,none⟩=false:=fun o=>(World.frozen?_alloc_past _ _ _ hB).trans fe
  have b9:some B≠bo.ownBlock:=r.o.FJ
  go_region_law
   ((refine step_append_lies _ (by rfl) _ _ _ (by rfl) (B+1) 204 e8 _ 12 120 Tryz.underlying198 e9 fa fb fc rfl (by omega) bo ap dj (by rfl) ((d2.o.alloc _).drew) ⟨W.heap.size,0,none⟩ 1 1 [.int .u8 71,p1,p2,K,M,af,ag,ai,aj,N,R,v] (by rfl) (by rfl) (World.news_of_block (cs:=#[.int .u8 71,p1,p2,K,M,af,ag,ai,aj,N,R,v]) (t:=204) (fr:=(0,0)) (heap_alloc_new W _)) d1.o (by omega) (by unfold maxLen;omega) (by omega) (by simp;omega) (W.heap.size+1) (by simp) ?_;intro ff cap ca d4 br d5 fg;have f8:ca.cell? ⟨B,5,none⟩=some bo:=(br.cell_far _ (by simp;omega) b9).trans ((World.cell?_alloc_past _ _ _ hB).trans fd);have bt:ca.frozen? ⟨B,5,none⟩=false:=(br.frozen_far _ (by simp;omega) b9).trans (d3 _)))
  all_goals
   obtain⟨d6,d7,d8,d9,ea⟩:=Ks (pv:=pv) r.o.rr r.o.fr (r.o.hr.imp id fun cb k fh=>mR (cb k fh)) b9 br d4 d5
   have fi:=Ad d6;have fj:=Ad d7;have fk:=Ad d8;have fl:=Ad d9
   have fm:oH (be=0→Mv B s (6-d) a bf S (ap:Int) (ap+1) (dj++[.int .u8 71,p1,p2,K,M,af,ag,ai,aj,N,R,v]) (ca.setCell ⟨B,5,none⟩ (.slice (some ⟨ff,0,none⟩) (ap+1) cap))):=fun f=>by
    obtain⟨fn,eb,cb,fo,b8,fp,fq,_⟩:=e5.o f
    obtain⟨_,_,fs,ft,fu⟩:=ez.o eb
    obtain⟨fv,fw⟩:=r.o.pl eb
    have ik:=ea r.o.po.O9;have bq:=e7.o
    rw[show 6-d=6-(d+1)+1 by omega]
    exact Ta g.o rfl ((ex.o fn).Bw (r.o.ik.trans ik)) cb fo (b8 ▸ ft) fp fq (fv.Bw ik) fw fs fu bq
   clear d6 d7 d8 d9 ea d4 br d5 fg r0 r1 r2 bd du dv r6 dw dx dy dz d0 d3 d1 d2 r
   go_wp2
   go_ret
   exact⟨_,rfl,be,bf,b6,_,ap+1,_,e3.o,fi.o,e4.o,fj.o,e6.o,fk.o,fl.o,fm.o⟩
open Mo (Q)
variable {Z:Nat→Prop}
theorem Xg (B:Nat)(s:ByteArray)(d K:Nat)(X:Nat×Nat)(i:s.size≤1000)(_:1≤K)(a e j:Nat)(pv:Value)(m:Nat)(xs:List Value)(S:List Q)(w:World)(h:RR B s a d e j pv w)(ho:PO B pv m xs w)(k:e=0→PL B w xs S∧m=S.length)(_:m+K≤1000)(l:e=0→j=Pl.cj s a)
 (o:∀c,c=83∨c=80∨c=74∨c=85∨c=68∨c=71→sn s e c c a=false) (p:Pl.bE (e,a) (Pl.lf (Pl.A5 s))=X) :
 Calls Tryz.prog 130 #[.pointer (some ⟨B,0,none⟩)] w (QR B s d pv m K w S a X (fun f a' b=>f=0→b=Pl.cj s a')):=by
 refine (KF B s a d e j pv m w xs S i h ho k (by omega) o).mono ?_
 rintro D w' ⟨n,q,f,a',b,r,t,u,g,hr,v,x,_,hf,y,z⟩
 refine⟨n,q,f,a',b,r,t,u,p.symm.trans g,hr,fun A=>?_,x,by omega,hf,y,z⟩
 subst A
 have:=Pl.Fm (Pl.Lx s) g
 have C:b=j:=v
 rw[C,l this.1,this.2]
theorem XL {s:ByteArray}{e c a:Nat}(h:e≠0):sn s e c c a=false:=by unfold sn;simp[h]
theorem QP (B:Nat)(s:ByteArray)(q:Nat→Nat×Nat)(d:s.size≤1000):Jd B s 7 1 q:=by
 intro a e j pv m xs S w f h ho g i k;have b:=f (kZ _)
 exact Xg B s 7 1 _ d (kZ _) a e j pv m xs S w h ho g i k (fun c _=>XL b) (by rw[Pl.Bi b,Pl.Bi b])
theorem G2 (B:Nat)(s:ByteArray)(d b:Nat)(q:Nat→Nat×Nat)(f:s.size≤1000)(l:d≤6)(n:Jd B s (d+1) b q):Jd B s d (1+2*b) (Pl.Fl s d q):=by
 intro a e j pv m xs S w u h ho g i k
 by_cases o:e=0
 ·subst o
  rw[Pl.A3]
  by_cases c1:Pl.bt s a=83
  ·exact fQ B s a d j b q pv m xs S w f l n h ho (g rfl) i (k rfl) c1
  by_cases c2:Pl.bt s a=80
  ·exact fR B s a d j b q pv m xs S w f l n h ho (g rfl) i (k rfl) c2
  by_cases p:Pl.bt s a=74
  ·exact fS B s a d j b q pv m xs S w f l n h ho (g rfl) i (k rfl) p
  by_cases r:Pl.bt s a=85
  ·exact fT B s a d j b q pv m xs S w f l n h ho (g rfl) i (k rfl) r
  by_cases t:Pl.bt s a=68
  ·exact fU B s a d j b q pv m xs S w f l n h ho (g rfl) i (k rfl) t
  by_cases c6:Pl.bt s a=71
  ·exact fV B s a d j b q pv m xs S w f l n h ho (g rfl) i (k rfl) c6
  refine Xg B s d _ _ f (by omega) a 0 j pv m xs S w h ho g i k (fun c v=>?_) ?_
  ·unfold sn;simp;omega
  ·rw[Pl.A3]
   refine (Pl.ZC ?_ d q).symm;unfold Pl.kd
   rw[if_neg c1,if_neg c2,if_neg p,if_neg r,if_neg t,if_neg c6]
   split
   ·exact .inr rfl
   ·exact .inl rfl
 ·exact Xg B s d _ _ f (by omega) a e j pv m xs S w h ho g i k (fun c _=>XL o) (by rw[Pl.Bi o,Pl.Bi o])
theorem QQ (B:Nat)(s:ByteArray)(a:s.size≤1000):Jd B s 0 255 (Pl.qP s 6):=by
 have b:Jd B s 6 3 (Pl.qP s 0):=by have:=G2 B s 6 1 (Pl.qP s 0) a (by omega) (QP B s _ a);rw[Pl.NH] at this;exact this
 have c:Jd B s 5 7 (Pl.qP s 1):=by have:=G2 B s 5 3 (Pl.qP s 0) a (by omega) b;rw[Pl.Hz s 5 0 (by omega)] at this;exact this
 have d:Jd B s 4 15 (Pl.qP s 2):=by have:=G2 B s 4 7 (Pl.qP s 1) a (by omega) c;rw[Pl.Hz s 4 1 (by omega)] at this;exact this
 have e:Jd B s 3 31 (Pl.qP s 3):=by have:=G2 B s 3 15 (Pl.qP s 2) a (by omega) d;rw[Pl.Hz s 3 2 (by omega)] at this;exact this
 have f:Jd B s 2 63 (Pl.qP s 4):=by have:=G2 B s 2 31 (Pl.qP s 3) a (by omega) e;rw[Pl.Hz s 2 3 (by omega)] at this;exact this
 have g:Jd B s 1 127 (Pl.qP s 5):=by have:=G2 B s 1 63 (Pl.qP s 4) a (by omega) f;rw[Pl.Hz s 1 4 (by omega)] at this;exact this
 have:=G2 B s 0 127 (Pl.qP s 5) a (by omega) g
 rw[Pl.Hz s 0 5 (by omega)] at this
 exact this
def BL (s:ByteArray)(w:World)(v:Value)(w':World):Prop:=∃q,Rq s 6 0 s.size q∧(Dv q).length≤1000∧∀Z,Ga Z w→Gi Z w' v (Dv q)
theorem QS {B:Nat}{pv:Value}{m:Nat}{xs:List Value}{S:List Q}{w w':World}(ho:PO B pv m xs w')(r:PL B w' xs S)(s:m=S.length)(hB:w.heap.size≤B)(t:Ga Z w):Gi Z w' pv S:=by
 subst s
 have o:∀k,B+1≤k→¬Z k:=fun k F=>t.no (by omega)
 have u:∀(cv:Value) (cs:List Nat),w'.ownsRow (B+1) 3 1 cv cs.length (Fj cs)→I2 Z w' cv cs:=by
  intro cv cs h
  rcases h with ⟨_,⟨rfl,d⟩|⟨g,cap,v,rfl,e,hg,f,l,y,n⟩⟩
  ·have:cs=[]:=lP d
   subst this
   exact⟨none,0,rfl,by simp,⟨by simp,Ox _ _⟩,fun i c b=>by simp at b⟩
  ·refine⟨some ⟨g,0,none⟩,cap,rfl,f,⟨l,Oy (o g e)⟩,fun i c b=>⟨g,0,rfl,Aa hg,?_⟩⟩
   have a:(Fj cs)[i]? =some (.int .i64 (c:Int)):=by unfold Fj;rw[kX,b];rfl
   rw[←n,lM] at a
   split at a
   ·rw[Ae hg,lK,←lU];exact a
   ·cases a
 rcases ho with ⟨_,⟨rfl,d⟩|⟨g,cap,v,rfl,e,hg,f,l,y,n⟩⟩
 ·have:S=[]:=lP d
  subst this
  exact⟨none,0,rfl,by simp,⟨by simp,Ox _ _⟩,fun i c b=>by simp at b⟩
 ·refine⟨some ⟨g,0,none⟩,cap,rfl,f,⟨l,Oy (o g e)⟩,fun i q z=>?_⟩
  obtain⟨p,cv,e1,A,C,D⟩:=r.2 i q z
  refine⟨g,0,p,cv,rfl,Aa hg,fun j x E=>?_,u cv p.cols A,C,D⟩
  have a:=e1 j x E
  rw[←n,lM] at a
  split at a
  ·rw[Ae hg,lK,←lU];exact a
  ·cases a
def kE (s:ByteArray)(w:World)(x y:Nat)(en:Ending)(w':World):Prop:=∃ad n c,en=.returned (.tuple #[.slice ad n c,.int .i64 (x:Int),.int .i64 (y:Int)])∧(x=0→BL s w (.slice ad n c) w')
theorem iO {s:ByteArray}{w w':World}{x y:Nat}{a:Option Addr}{n c:Nat}{p q:Int}(h:p=(x:Int))(k:q=(y:Int))(b:x=0→BL s w (.slice a n c) w'):kE s w x y (.returned (.tuple #[.slice a n c,.int .i64 p,.int .i64 q])) w':=⟨a,n,c,by rw[h,k],b⟩
theorem Zj (s:ByteArray)(w:World) :
 Calls Tryz.prog 90 #[.string s] w fun j w'=>kE s w (Pl.Lp s).1 (Pl.Lp s).2 j w'∧Below w.heap.size w w':=by
 by_cases aa:s.size≤120
 ·have J:¬(120:Int)<(s.size:Int):=by omega
  have K:oH (RR w.heap.size s 0 0 0 0 (.slice none 0 0) (w.alloc (.cells #[.string s,.int .i64 0,.int .i64 0,.int .i64 0,.int .i64 0,.slice none 0 0] 258))):=⟨by omega,heap_alloc_new w _⟩
  have L:oH (PO w.heap.size (.slice none 0 0) 0 [] (w.alloc (.cells #[.string s,.int .i64 0,.int .i64 0,.int .i64 0,.int .i64 0,.slice none 0 0] 258))):=World.ownsRow_nil _ _ _ _;have M:=Ad ((Below.refl w.heap.size w).alloc (kZ _) (.cells #[.string s,.int .i64 0,.int .i64 0,.int .i64 0,.int .i64 0,.slice none 0 0] 258))
  go_enter Tryz.func90,Tryz.ntmps90
  go_wp2_with fail
  refine (QQ w.heap.size s (by omega) 0 0 0 (.slice none 0 0) 0 [] [] _ (by omega) K.o L.o (fun _=>⟨⟨rfl,fun i q h=>by simp at h⟩,rfl⟩) (by omega) (fun _=>rfl)).mono ?_
  rintro j r ⟨n1,rfl,e1,a1,d,t,u,_,v,p1,x,k,N,y,_,z⟩;have O:=Ad z;have A:=Ad k
  have P:oH (u≤1000):=by show _≤_;omega
  clear z N
  have c:oH (Below w.heap.size w r):=M.o.trans (y.below (kZ _) (by simp) (by simp[Value.ownBlock]))
  have ab:=p1.1;have c1:=p1.c1;have l:=p1.c3;have Q:=p1.c4;have B:=p1.c5
  obtain⟨R,S,C⟩:=k.form
  rw[C] at B A
  have m:=Ad p1;have T:=Ad x;have n:oH (Pl.qP s 6 0=(e1,a1)):=v;clear p1 x v y k C
  by_cases e:e1=0
  ·subst e
   have o:oH (d=Pl.cj s a1):=T.o rfl
   by_cases D:a1<s.size
   ·have a:oH (Pl.Lp s=(2,a1)):=by
     show _=_
     have p:Pl.Dw s=(2,a1):=by unfold Pl.Dw Pl.P9;rw[n.o,Pl.A3,if_pos D]
     unfold Pl.Lp;rw[if_neg (by omega),p];rfl
    have ac:(a1:Int)<(s.size:Int):=by omega
    clear c1 l Q B;have c1:=m.o.c1;have l:=m.o.c3;go_wp2_with fail;refine (T6 w.heap.size s a1 0 0 d 2 2 t _ rfl m.o).mono ?_;rintro j E ⟨rfl,p2,F⟩
    have f:oH (Below w.heap.size w E):=c.o.trans (F.below (kZ _) c.o.size (by simp))
    have p2:RR w.heap.size s a1 0 2 d t E:=p2;have ad:=p2.c1;have ae:=p2.c3;clear p2 F c1 l;go_wp2_with fail
    go_quiet (fail)
    go_wp2_with fail;go_ret3
    exact⟨iO (by rw[a.o];rfl) (by rw[a.o]) (fun b=>by rw[a.o] at b;cases b),⟨f.o.os,f.o.tape,f.o.output,f.o.size,f.o.block⟩⟩
   ·have g:a1=s.size:=by omega
    have G:oH (Pl.Dw s=(0,a1)):=by show _=_;unfold Pl.Dw Pl.P9;rw[n.o,Pl.A3,if_neg D]
    have af:d≤120:=by rw[o.o];exact lH (Pl.SK s a1) (by omega)
    by_cases H:2<d
    ·have a:oH (Pl.Lp s=(4,0)):=by
      show _=_
      unfold Pl.Lp;rw[if_neg (by omega),G.o,if_pos rfl,if_pos (by rw[←g,←o.o];exact H)]
     have U:(2:Int)<(d:Int):=by omega
     clear g;go_wp2_with fail;go_ret3
     exact⟨iO (by rw[a.o];rfl) (by rw[a.o];rfl) (fun b=>by rw[a.o] at b;cases b),c.o⟩
    ·have a:oH (Pl.Lp s=(0,0)):=by
      show _=_
      unfold Pl.Lp;rw[if_neg (by omega),G.o,if_pos rfl,if_neg (by rw[←g,←o.o];exact H)]
     have U:¬(2:Int)<(d:Int):=by omega
     have V:oH (BL s w (.slice R u S) r):=by
      obtain⟨q,r1,I,_,W⟩:=O.o rfl
      rw[g] at r1
      exact⟨q,r1,by have:=P.o;rw[I] at this;exact this,fun Z X=>QS A.o W I (kZ _) X⟩
     clear g;go_wp2_with fail;go_ret3
     exact⟨iO (by rw[a.o];rfl) (by rw[a.o];rfl) (fun _=>V.o),c.o⟩
  ·have ag:((e1:Int) == 0)=false:=by simp;omega
   have ah:((e1:Int) != 0)=true:=by simp;omega
   have a:oH (Pl.Lp s=(e1,a1)):=by
    show _=_
    have p:Pl.Dw s=(e1,a1):=by unfold Pl.Dw Pl.P9;rw[n.o,Pl.Bi e]
    unfold Pl.Lp;rw[if_neg (by omega),p,if_neg e]
   have Y:=Ad e;clear e;go_wp2_with fail
   go_quiet (fail)
   go_wp2_with fail;go_ret3
   exact⟨iO (by rw[a.o]) (by rw[a.o]) (fun b=>by rw[a.o] at b;exact absurd b Y.o),⟨c.o.os,c.o.tape,c.o.output,c.o.size,c.o.block⟩⟩
 ·have J:(120:Int)<(s.size:Int):=by omega
  have a:oH (Pl.Lp s=(1,0)):=by show _=_;unfold Pl.Lp;rw[if_pos (by omega)]
  go_enter Tryz.func90,Tryz.ntmps90
  go_wp2_with fail;go_ret3
  exact⟨iO (by rw[a.o];rfl) (by rw[a.o];rfl) (fun b=>by rw[a.o] at b;cases b),Below.refl _ _⟩
end Go.Proofs.YtdinjjmcmfjbfaaGreatDoor
