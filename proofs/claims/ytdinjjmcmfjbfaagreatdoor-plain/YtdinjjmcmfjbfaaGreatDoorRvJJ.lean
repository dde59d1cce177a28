import Derived.Test.YtdinjjmcmfjbfaaGreatDoorRbsJ
import Derived.Deep.DeepCutAuto
import Derived.Deep.CutBlock
set_option maxRecDepth 100000
set_option maxHeartbeats 4000000
namespace Go.Proofs.YtdinjjmcmfjbfaaGreatDoor
open Go.RowKit
open Mo (V Q Cy L3)
attribute [local go_sem ↓] Go.wp_at_zero Go.wp_at_succ
theorem fQ (B:Nat)(s:ByteArray)(a d j b4:Nat)(q:Nat→Nat×Nat)(pv:Value)(m:Nat)(xs:List Value)(S:List Q)(w:World)(l:s.size≤1000)(ej:d≤6)(cw:Jd B s (d+1) b4 q)(h:RR B s a d 0 j pv w)(ho:PO B pv m xs w)(cx:PL B w xs S∧m=S.length)(_:m+(1+2*b4)≤1000)(cy:j=Pl.cj s a)(ce:Pl.bt s a=83) :
 Calls Tryz.prog 130 #[.pointer (some ⟨B,0,none⟩)] w (QR B s d pv m (1+2*b4) w S a (Pl.Fl s d q a) (fun ek a' el=>ek=0→el=Pl.cj s a')):=by
 have b5:oH (ST B s d j pv pv m xs S True w w 0 #[.int .u8 0,.string ⟨#[]⟩,.slice none 0 0,.int .u8 0,.int .u8 0,.bool false,.int .i64 0,.string ⟨#[]⟩,.int .i64 0,.int .i64 (-1),.int .i64 (-1),.int .i64 0] 0 a (w.alloc (.cells #[.int .u8 0,.string ⟨#[]⟩,.slice none 0 0,.int .u8 0,.int .u8 0,.bool false,.int .i64 0,.string ⟨#[]⟩,.int .i64 0,.int .i64 (-1),.int .i64 (-1),.int .i64 0] 204))):=ST.start h ho (fun _=>cx) rfl rfl QM
 have go:=Aa h.2;have gp:=h.1;have E:=Ad ce;have au:=Ad cy;have em:=Ad cw
 have n:oH (Pl.kd (Pl.bt s a)=2):=by show _=_;rw[ce];rfl
 clear h ho ce cy cw cx
 go_enter Tryz.func130,Tryz.ntmps130
 go_upto_block 0 with fail
 go_cut [] (fun en=>oH (HD B s d a pv m xs S w en))
 case first =>
  go_wp2_with fail
  refine (Px B s a d 0 j 83 83 pv _ l (by omega) rfl b5.o.rr (by unfold sn;rw[E.o];rfl)).mono ?_
  rintro p gq ⟨rfl,p1,cz⟩;have av:=Ad (b5.o.next p1 cz);clear p1 cz b5
  obtain⟨_,_⟩:=av.o.pb.cell (i:=0) (by omega)
  have gr:=av.o.pb.fz 0
  have gs:¬B=w.heap.size:=by omega
  go_wp2_with fail
  refine (Ar B s (a+1) d 0 j 91 91 pv _ l (by omega) rfl ((av.o.Gy 83).rr)).mono ?_
  rintro p eo ⟨_,rfl,bd,be,bf,p2,bg⟩;have aw:=Ad ((av.o.Gy 83).next p2 bg);have y:=Ad bf;clear bf p2 bg av;go_wp2_with fail;refine (Df B s be d bd j pv _ l (aw.o.rr)).mono ?_;rintro p w3 ⟨ep,rfl,c0,f,b,bh,ax,bi⟩;have ay:=Ad c0;clear c0;have am:=Ad (aw.o.next ax bi);have A:=Ad bh;clear bh ax bi aw
  obtain⟨_,_⟩:=am.o.pb.cell (i:=11) (by omega)
  have gu:=am.o.pb.fz 11;go_wp2_with fail
  refine (Cx B s b d f j 60 60 pv _ l (by omega) rfl ((am.o.set (i:=11) (by omega) (by rfl)).rr)).mono ?_
  rintro p w4 ⟨er,c1,rfl,c3,b6,az,bj⟩
  have a7:=(am.o.set (i:=11) (by omega) (by rfl)).next az bj
  clear az bj am
  cases er
  ·rw[show c1=b from b6] at a7
   have ab:=Ad a7;have a6:=Ad (Pb c3.o);clear a7 b6;go_wp2_with fail
   refine (Cx B s b d f j 61 61 pv _ l (by omega) rfl (ab.o.rr)).mono ?_
   rintro p w5 ⟨cf,bk,rfl,bl,a0,a2,a8⟩;have ac:=ab.o.next a2 a8;clear a2 a8 ab
   cases cf
   ·rw[show bk=b from a0] at ac
    have H:=Ad ac;have X:=Ad (Pb bl.o);clear ac a0;go_wp2_with fail
    refine (Rg B s b d f j 33 33 pv _ l (by omega) rfl (H.o.rr)).mono ?_
    rintro p w6 ⟨rfl,U,I,x6,Y,an⟩;have g:=Ad (H.o.next Y an);have b7:=Ad x6;clear x6 Y an H
    have O:oH (Pl.bE (f,b) (Pl.lf (Pl.Hu s))=(U,I)):=by
     show _=_
     rw[Pl.Vn,Pl.KV a6.o,Pl.KV X.o];exact b7.o
    have ao:oH (f=0→Jh (BP s b)=.ne):=fun r=>by unfold BP;rw[if_neg (fun x=>a6.o ⟨r,x⟩),if_neg (fun x=>X.o ⟨r,x⟩)];rfl
    obtain⟨_,_⟩:=g.o.pb.cell (i:=3) (by omega)
    have gv:=g.o.pb.fz 3;go_wp2_with fail
    refine (Cx B s I d U j 35 35 pv _ l (by omega) rfl ((g.o.set (i:=3) (by omega) (by rfl)).rr)).mono ?_
    rintro p bm ⟨cg,bn,rfl,bo,a3,C,L⟩
    have ai:=(g.o.set (i:=3) (by omega) (by rfl)).next C L
    clear C L g
    cases cg
    ·rw[show bn=I from a3] at ai
     have c:=Ad ai;have Z:=Ad (Pb bo.o);clear ai a3;go_wp2_with fail
     refine (Cx B s I d U j 36 36 pv _ l (by omega) rfl (c.o.rr)).mono ?_
     rintro p a9 ⟨es,c4,rfl,c5,b8,z,F⟩;have ba:=c.o.next z F;clear z F c
     cases es
     ·rw[show c4=I from b8] at ba
      have e:=Ad ba;have bb:=Ad (Pb c5.o);clear ba b8;go_wp2_with fail;refine (Df B s I d U j pv _ l (e.o.rr)).mono ?_;rintro p b9 ⟨c6,rfl,c7,V,ad,ae,K,af⟩;have c8:=Ad c7;clear c7;have D:=Ad (e.o.next K af);have ag:=Ad ae;clear ae K af e
      have u:oH (Pl.bE (U,I) (Pl.lf (Pl.Hv s))=(V,ad)):=by
       show _=_
       show Pl.bE _ (Pl.lf (Pl.Je (Pl.tk s 35) (Pl.Cl s) (Pl.Je (Pl.tk s 36) (Pl.A5 s) (Pl.Hr s))))=_
       rw[Pl.Oc Z.o,Pl.Oc bb.o];exact ag.o
      have M:oH (U=0→V=0→El s I=.col c6∧Ie (.col c6)≤9):=fun r J=>⟨by unfold El;rw[if_neg (fun x=>Z.o ⟨r,x⟩),if_neg (fun x=>bb.o ⟨r,x⟩),c8.o.2 (by rw[ag.o];exact J)],c8.o.1⟩
      obtain⟨_,_⟩:=D.o.pb.cell (i:=8) (by omega)
      have gw:=D.o.pb.fz 8;go_wp2_with fail
      refine (Ar B s ad d V j 93 93 pv _ l (by omega) rfl ((D.o.set (i:=8) (by omega) (by rfl)).rr)).mono ?_
      rintro p et ⟨eu,rfl,bp,bq,br,a4,bs⟩
      have ch:=Ad ((D.o.set (i:=8) (by omega) (by rfl)).next a4 bs)
      have bt:=Ad br;clear br a4 bs D;go_wp2_with fail
      go_meet
      case rel =>
       have v:oH (Pl.lf (Pl.Ba s (Pl.kd (Pl.bt s a))) a=(bp,bq)):=by
        show _=_
        rw[n.o]
        show Pl.lf (Pl.C7 s) a=_
        unfold Pl.C7
        rw[Pl.Ka E.o,Pl.Ge,show Pl.lf (Pl.tk s 91) (a+1)=_ from y.o,Pl.Bg,A.o,Pl.Bg,O.o,Pl.Bg,u.o]
        exact bt.o
       refine⟨bp,bq,j,_,83,_,by rw[E.o];rfl,v.o,Ez n.o au.o v.o,ch.o,fun N=>?_⟩
       rw[n.o]
       subst N;exact Hp _ y.o A.o O.o u.o bt.o ay.o ao.o M.o
     ·rw[show c4=I+1 from b8] at ba
      have e:=Ad ba;have bb:=Ad (Kt c5.o);clear ba b8
      obtain⟨_,_⟩:=e.o.pb.cell (i:=4) (by omega)
      have gx:=e.o.pb.fz 4;go_wp2_with fail
      refine (Ey B s (I+1) d U j pv _ l ((e.o.set (i:=4) (by omega) (by rfl)).rr)).mono ?_
      rintro p b9 ⟨c9,rfl,da,V,ad,ae,K,af⟩;have ev:=Ad da;clear da
      have D:=Ad ((e.o.set (i:=4) (by omega) (by rfl)).next K af)
      have ag:=Ad ae;clear ae K af e
      have u:oH (Pl.bE (U,I) (Pl.lf (Pl.Hv s))=(V,ad)):=by
       show _=_
       show Pl.bE _ (Pl.lf (Pl.Je (Pl.tk s 35) (Pl.Cl s) (Pl.Je (Pl.tk s 36) (Pl.A5 s) (Pl.Hr s))))=_
       rw[Pl.Oc Z.o];have x:=ag.o;rw[bb.o.1] at x⊢;rw[Pl.Ob bb.o.2];exact x
      have M:oH (U=0→V=0→El s I=.val (.txt c9.data.toList)∧Ie (.val (.txt c9.data.toList))≤9):=fun r J=>⟨by unfold El;rw[if_neg (fun x=>Z.o ⟨r,x⟩),if_pos bb.o.2,ev.o (by rw[ag.o];exact J)];rfl,mB _⟩
      obtain⟨_,_⟩:=D.o.pb.cell (i:=5) (by omega)
      have gy:=D.o.pb.fz 5
      obtain⟨_,_⟩:=D.o.pb.cell (i:=6) (by omega)
      have gz:=D.o.pb.fz 6
      obtain⟨_,_⟩:=D.o.pb.cell (i:=7) (by omega)
      have g0:=D.o.pb.fz 7;go_wp2_with fail
      refine (Ar B s ad d V j 93 93 pv _ l (by omega) rfl ((((D.o.set (i:=5) (by omega) (by rfl)).set (i:=6) (by omega) (by rfl)).set (i:=7) (by omega) (by rfl)).rr)).mono ?_
      rintro p et ⟨eu,rfl,bp,bq,br,a4,bs⟩
      have ch:=Ad ((((D.o.set (i:=5) (by omega) (by rfl)).set (i:=6) (by omega) (by rfl)).set (i:=7) (by omega) (by rfl)).next a4 bs)
      have bt:=Ad br;clear br a4 bs D;go_wp2_with fail
      go_meet
      case rel =>
       have v:oH (Pl.lf (Pl.Ba s (Pl.kd (Pl.bt s a))) a=(bp,bq)):=by
        show _=_
        rw[n.o]
        show Pl.lf (Pl.C7 s) a=_
        unfold Pl.C7
        rw[Pl.Ka E.o,Pl.Ge,show Pl.lf (Pl.tk s 91) (a+1)=_ from y.o,Pl.Bg,A.o,Pl.Bg,O.o,Pl.Bg,u.o]
        exact bt.o
       refine⟨bp,bq,j,_,83,_,by rw[E.o];rfl,v.o,Ez n.o au.o v.o,ch.o,fun N=>?_⟩
       rw[n.o]
       subst N;exact Hp _ y.o A.o O.o u.o bt.o ay.o ao.o M.o
    ·rw[show bn=I+1 from a3] at ai
     have c:=Ad ai;have Z:=Ad (Kt bo.o);clear ai a3
     obtain⟨ew,ex⟩:=c.o.pb.cell (i:=4) (by omega)
     have ey:=c.o.pb.fz 4;go_wp2_with fail
     refine (Ll B s (I+1) d U j pv _ l ((c.o.set (i:=4) (by omega) (by rfl)).rr)).mono ?_
     rintro p a9 ⟨bu,rfl,bv,G,P,R,z,F⟩;have ci:=Ad bv;clear bv
     have e:=Ad ((c.o.set (i:=4) (by omega) (by rfl)).next z F)
     have T:=Ad R;clear R z F c
     have u:oH (Pl.bE (U,I) (Pl.lf (Pl.Hv s))=(G,P)):=by
      show _=_
      show Pl.bE _ (Pl.lf (Pl.Je (Pl.tk s 35) (Pl.Cl s) (Pl.Je (Pl.tk s 36) (Pl.A5 s) (Pl.Hr s))))=_
      have x:=T.o;rw[Z.o.1] at x⊢;rw[Pl.Ob Z.o.2];exact x
     have M:oH (U=0→G=0→El s I=.val (.num bu)∧Ie (.val (.num bu))≤9):=fun r J=>⟨by unfold El;rw[if_pos Z.o.2,ci.o (by rw[T.o];exact J)],mB _⟩
     obtain⟨ez,e0⟩:=e.o.pb.cell (i:=5) (by omega)
     have e2:=e.o.pb.fz 5
     obtain⟨e3,e4⟩:=e.o.pb.cell (i:=6) (by omega)
     have e5:=e.o.pb.fz 6
     obtain⟨e6,e7⟩:=e.o.pb.cell (i:=7) (by omega)
     have e8:=e.o.pb.fz 7;go_wp2_with fail
     refine (Ar B s P d G j 93 93 pv _ l (by omega) rfl ((((e.o.set (i:=5) (by omega) (by rfl)).set (i:=6) (by omega) (by rfl)).set (i:=7) (by omega) (by rfl)).rr)).mono ?_
     rintro p b9 ⟨db,rfl,V,ad,ae,K,af⟩
     have D:=Ad ((((e.o.set (i:=5) (by omega) (by rfl)).set (i:=6) (by omega) (by rfl)).set (i:=7) (by omega) (by rfl)).next K af)
     have ag:=Ad ae;clear ae K af e;go_wp2_with fail
     go_meet
     case rel =>
      have v:oH (Pl.lf (Pl.Ba s (Pl.kd (Pl.bt s a))) a=(V,ad)):=by
       show _=_
       rw[n.o]
       show Pl.lf (Pl.C7 s) a=_
       unfold Pl.C7
       rw[Pl.Ka E.o,Pl.Ge,show Pl.lf (Pl.tk s 91) (a+1)=_ from y.o,Pl.Bg,A.o,Pl.Bg,O.o,Pl.Bg,u.o]
       exact ag.o
      refine⟨V,ad,j,_,83,_,by rw[E.o];rfl,v.o,Ez n.o au.o v.o,D.o,fun N=>?_⟩
      rw[n.o]
      subst N;exact Hp _ y.o A.o O.o u.o ag.o ay.o ao.o M.o
   ·rw[show bk=b+1 from a0] at ac
    have H:=Ad ac;have X:=Ad (Kt bl.o);clear ac a0
    have O:oH (Pl.bE (f,b) (Pl.lf (Pl.Hu s))=(f,(b+1))):=by
     show _=_
     rw[Pl.Vn,Pl.KV a6.o,X.o.1,Pl.GR X.o.2]
    have ao:oH (f=0→Jh (BP s b)=.eq):=fun r=>by unfold BP;rw[if_neg (fun x=>a6.o ⟨r,x⟩),if_pos X.o.2];rfl
    obtain⟨_,_⟩:=H.o.pb.cell (i:=3) (by omega)
    have g1:=H.o.pb.fz 3;go_wp2_with fail
    refine (Cx B s (b+1) d f j 35 35 pv _ l (by omega) rfl ((H.o.set (i:=3) (by omega) (by rfl)).rr)).mono ?_
    rintro p w6 ⟨cj,bw,rfl,bx,a5,Y,an⟩
    have aj:=(H.o.set (i:=3) (by omega) (by rfl)).next Y an
    clear Y an H
    cases cj
    ·rw[show bw=(b+1) from a5] at aj
     have g:=Ad aj;have aa:=Ad (Pb bx.o);clear aj a5;go_wp2_with fail
     refine (Cx B s (b+1) d f j 36 36 pv _ l (by omega) rfl (g.o.rr)).mono ?_
     rintro p bm ⟨cg,bn,rfl,bo,a3,C,L⟩;have ai:=g.o.next C L;clear C L g
     cases cg
     ·rw[show bn=(b+1) from a3] at ai
      have c:=Ad ai;have Z:=Ad (Pb bo.o);clear ai a3;go_wp2_with fail;refine (Df B s (b+1) d f j pv _ l (c.o.rr)).mono ?_;rintro p a9 ⟨bu,rfl,dc,G,P,R,z,F⟩;have dd:=Ad dc;clear dc;have e:=Ad (c.o.next z F);have T:=Ad R;clear R z F c
      have u:oH (Pl.bE (f,(b+1)) (Pl.lf (Pl.Hv s))=(G,P)):=by
       show _=_
       show Pl.bE _ (Pl.lf (Pl.Je (Pl.tk s 35) (Pl.Cl s) (Pl.Je (Pl.tk s 36) (Pl.A5 s) (Pl.Hr s))))=_
       rw[Pl.Oc aa.o,Pl.Oc Z.o];exact T.o
      have M:oH (f=0→G=0→El s (b+1)=.col bu∧Ie (.col bu)≤9):=fun r J=>⟨by unfold El;rw[if_neg (fun x=>aa.o ⟨r,x⟩),if_neg (fun x=>Z.o ⟨r,x⟩),dd.o.2 (by rw[T.o];exact J)],dd.o.1⟩
      obtain⟨_,_⟩:=e.o.pb.cell (i:=8) (by omega)
      have g2:=e.o.pb.fz 8;go_wp2_with fail
      refine (Ar B s P d G j 93 93 pv _ l (by omega) rfl ((e.o.set (i:=8) (by omega) (by rfl)).rr)).mono ?_
      rintro p b9 ⟨db,rfl,V,ad,ae,K,af⟩
      have D:=Ad ((e.o.set (i:=8) (by omega) (by rfl)).next K af)
      have ag:=Ad ae;clear ae K af e;go_wp2_with fail
      go_meet
      case rel =>
       have v:oH (Pl.lf (Pl.Ba s (Pl.kd (Pl.bt s a))) a=(V,ad)):=by
        show _=_
        rw[n.o]
        show Pl.lf (Pl.C7 s) a=_
        unfold Pl.C7
        rw[Pl.Ka E.o,Pl.Ge,show Pl.lf (Pl.tk s 91) (a+1)=_ from y.o,Pl.Bg,A.o,Pl.Bg,O.o,Pl.Bg,u.o]
        exact ag.o
       refine⟨V,ad,j,_,83,_,by rw[E.o];rfl,v.o,Ez n.o au.o v.o,D.o,fun N=>?_⟩
       rw[n.o]
       subst N;exact Hp _ y.o A.o O.o u.o ag.o ay.o ao.o M.o
     ·rw[show bn=(b+1)+1 from a3] at ai
      have c:=Ad ai;have Z:=Ad (Kt bo.o);clear ai a3
      obtain⟨ew,ex⟩:=c.o.pb.cell (i:=4) (by omega)
      have ey:=c.o.pb.fz 4;go_wp2_with fail
      refine (Ey B s ((b+1)+1) d f j pv _ l ((c.o.set (i:=4) (by omega) (by rfl)).rr)).mono ?_
      rintro p a9 ⟨de,rfl,bv,G,P,R,z,F⟩;have ci:=Ad bv;clear bv
      have e:=Ad ((c.o.set (i:=4) (by omega) (by rfl)).next z F)
      have T:=Ad R;clear R z F c
      have u:oH (Pl.bE (f,(b+1)) (Pl.lf (Pl.Hv s))=(G,P)):=by
       show _=_
       show Pl.bE _ (Pl.lf (Pl.Je (Pl.tk s 35) (Pl.Cl s) (Pl.Je (Pl.tk s 36) (Pl.A5 s) (Pl.Hr s))))=_
       rw[Pl.Oc aa.o];have x:=T.o;rw[Z.o.1] at x⊢;rw[Pl.Ob Z.o.2];exact x
      have M:oH (f=0→G=0→El s (b+1)=.val (.txt de.data.toList)∧Ie (.val (.txt de.data.toList))≤9):=fun r J=>⟨by unfold El;rw[if_neg (fun x=>aa.o ⟨r,x⟩),if_pos Z.o.2,ci.o (by rw[T.o];exact J)];rfl,mB _⟩
      obtain⟨ez,e0⟩:=e.o.pb.cell (i:=5) (by omega)
      have e2:=e.o.pb.fz 5
      obtain⟨e3,e4⟩:=e.o.pb.cell (i:=6) (by omega)
      have e5:=e.o.pb.fz 6
      obtain⟨e6,e7⟩:=e.o.pb.cell (i:=7) (by omega)
      have e8:=e.o.pb.fz 7;go_wp2_with fail
      refine (Ar B s P d G j 93 93 pv _ l (by omega) rfl ((((e.o.set (i:=5) (by omega) (by rfl)).set (i:=6) (by omega) (by rfl)).set (i:=7) (by omega) (by rfl)).rr)).mono ?_
      rintro p b9 ⟨db,rfl,V,ad,ae,K,af⟩
      have D:=Ad ((((e.o.set (i:=5) (by omega) (by rfl)).set (i:=6) (by omega) (by rfl)).set (i:=7) (by omega) (by rfl)).next K af)
      have ag:=Ad ae;clear ae K af e;go_wp2_with fail
      go_meet
      case rel =>
       have v:oH (Pl.lf (Pl.Ba s (Pl.kd (Pl.bt s a))) a=(V,ad)):=by
        show _=_
        rw[n.o]
        show Pl.lf (Pl.C7 s) a=_
        unfold Pl.C7
        rw[Pl.Ka E.o,Pl.Ge,show Pl.lf (Pl.tk s 91) (a+1)=_ from y.o,Pl.Bg,A.o,Pl.Bg,O.o,Pl.Bg,u.o]
        exact ag.o
       refine⟨V,ad,j,_,83,_,by rw[E.o];rfl,v.o,Ez n.o au.o v.o,D.o,fun N=>?_⟩
       rw[n.o]
       subst N;exact Hp _ y.o A.o O.o u.o ag.o ay.o ao.o M.o
    ·rw[show bw=(b+1)+1 from a5] at aj
     have g:=Ad aj;have aa:=Ad (Kt bx.o);clear aj a5
     obtain⟨e9,fa⟩:=g.o.pb.cell (i:=4) (by omega)
     have fb:=g.o.pb.fz 4;go_wp2_with fail
     refine (Ll B s ((b+1)+1) d f j pv _ l ((g.o.set (i:=4) (by omega) (by rfl)).rr)).mono ?_
     rintro p bm ⟨bz,rfl,b0,ah,ap,aq,C,L⟩;have ck:=Ad b0;clear b0
     have c:=Ad ((g.o.set (i:=4) (by omega) (by rfl)).next C L)
     have ar:=Ad aq;clear aq C L g
     have u:oH (Pl.bE (f,(b+1)) (Pl.lf (Pl.Hv s))=(ah,ap)):=by
      show _=_
      show Pl.bE _ (Pl.lf (Pl.Je (Pl.tk s 35) (Pl.Cl s) (Pl.Je (Pl.tk s 36) (Pl.A5 s) (Pl.Hr s))))=_
      have x:=ar.o;rw[aa.o.1] at x⊢;rw[Pl.Ob aa.o.2];exact x
     have M:oH (f=0→ah=0→El s (b+1)=.val (.num bz)∧Ie (.val (.num bz))≤9):=fun r J=>⟨by unfold El;rw[if_pos aa.o.2,ck.o (by rw[ar.o];exact J)],mB _⟩
     obtain⟨fc,fd⟩:=c.o.pb.cell (i:=5) (by omega)
     have fe:=c.o.pb.fz 5
     obtain⟨ff,fg⟩:=c.o.pb.cell (i:=6) (by omega)
     have fh:=c.o.pb.fz 6
     obtain⟨fi,fj⟩:=c.o.pb.cell (i:=7) (by omega)
     have fk:=c.o.pb.fz 7;go_wp2_with fail
     refine (Ar B s ap d ah j 93 93 pv _ l (by omega) rfl ((((c.o.set (i:=5) (by omega) (by rfl)).set (i:=6) (by omega) (by rfl)).set (i:=7) (by omega) (by rfl)).rr)).mono ?_
     rintro p a9 ⟨df,rfl,G,P,R,z,F⟩
     have e:=Ad ((((c.o.set (i:=5) (by omega) (by rfl)).set (i:=6) (by omega) (by rfl)).set (i:=7) (by omega) (by rfl)).next z F)
     have T:=Ad R;clear R z F c;go_wp2_with fail
     go_meet
     case rel =>
      have v:oH (Pl.lf (Pl.Ba s (Pl.kd (Pl.bt s a))) a=(G,P)):=by
       show _=_
       rw[n.o]
       show Pl.lf (Pl.C7 s) a=_
       unfold Pl.C7
       rw[Pl.Ka E.o,Pl.Ge,show Pl.lf (Pl.tk s 91) (a+1)=_ from y.o,Pl.Bg,A.o,Pl.Bg,O.o,Pl.Bg,u.o]
       exact T.o
      refine⟨G,P,j,_,83,_,by rw[E.o];rfl,v.o,Ez n.o au.o v.o,e.o,fun N=>?_⟩
      rw[n.o]
      subst N;exact Hp _ y.o A.o O.o u.o T.o ay.o ao.o M.o
  ·rw[show c1=b+1 from b6] at a7
   have ab:=Ad a7;have a6:=Ad (Kt c3.o);clear a7 b6
   have O:oH (Pl.bE (f,b) (Pl.lf (Pl.Hu s))=(f,(b+1))):=by
    show _=_
    rw[Pl.Vn,a6.o.1,Pl.GR a6.o.2]
   have ao:oH (f=0→Jh (BP s b)=.lt):=fun r=>by unfold BP;rw[if_pos a6.o.2];rfl
   obtain⟨_,_⟩:=ab.o.pb.cell (i:=3) (by omega)
   have g3:=ab.o.pb.fz 3;go_wp2_with fail
   refine (Cx B s (b+1) d f j 35 35 pv _ l (by omega) rfl ((ab.o.set (i:=3) (by omega) (by rfl)).rr)).mono ?_
   rintro p w5 ⟨cf,bk,rfl,bl,a0,a2,a8⟩
   have ac:=(ab.o.set (i:=3) (by omega) (by rfl)).next a2 a8
   clear a2 a8 ab
   cases cf
   ·rw[show bk=(b+1) from a0] at ac
    have H:=Ad ac;have X:=Ad (Pb bl.o);clear ac a0;go_wp2_with fail
    refine (Cx B s (b+1) d f j 36 36 pv _ l (by omega) rfl (H.o.rr)).mono ?_
    rintro p w6 ⟨cj,bw,rfl,bx,a5,Y,an⟩;have aj:=H.o.next Y an;clear Y an H
    cases cj
    ·rw[show bw=(b+1) from a5] at aj
     have g:=Ad aj;have aa:=Ad (Pb bx.o);clear aj a5;go_wp2_with fail;refine (Df B s (b+1) d f j pv _ l (g.o.rr)).mono ?_;rintro p bm ⟨bz,rfl,dg,ah,ap,aq,C,L⟩;have dh:=Ad dg;clear dg;have c:=Ad (g.o.next C L);have ar:=Ad aq;clear aq C L g
     have u:oH (Pl.bE (f,(b+1)) (Pl.lf (Pl.Hv s))=(ah,ap)):=by
      show _=_
      show Pl.bE _ (Pl.lf (Pl.Je (Pl.tk s 35) (Pl.Cl s) (Pl.Je (Pl.tk s 36) (Pl.A5 s) (Pl.Hr s))))=_
      rw[Pl.Oc X.o,Pl.Oc aa.o];exact ar.o
     have M:oH (f=0→ah=0→El s (b+1)=.col bz∧Ie (.col bz)≤9):=fun r J=>⟨by unfold El;rw[if_neg (fun x=>X.o ⟨r,x⟩),if_neg (fun x=>aa.o ⟨r,x⟩),dh.o.2 (by rw[ar.o];exact J)],dh.o.1⟩
     obtain⟨_,_⟩:=c.o.pb.cell (i:=8) (by omega)
     have g4:=c.o.pb.fz 8;go_wp2_with fail
     refine (Ar B s ap d ah j 93 93 pv _ l (by omega) rfl ((c.o.set (i:=8) (by omega) (by rfl)).rr)).mono ?_
     rintro p a9 ⟨df,rfl,G,P,R,z,F⟩
     have e:=Ad ((c.o.set (i:=8) (by omega) (by rfl)).next z F)
     have T:=Ad R;clear R z F c;go_wp2_with fail
     go_meet
     case rel =>
      have v:oH (Pl.lf (Pl.Ba s (Pl.kd (Pl.bt s a))) a=(G,P)):=by
       show _=_
       rw[n.o]
       show Pl.lf (Pl.C7 s) a=_
       unfold Pl.C7
       rw[Pl.Ka E.o,Pl.Ge,show Pl.lf (Pl.tk s 91) (a+1)=_ from y.o,Pl.Bg,A.o,Pl.Bg,O.o,Pl.Bg,u.o]
       exact T.o
      refine⟨G,P,j,_,83,_,by rw[E.o];rfl,v.o,Ez n.o au.o v.o,e.o,fun N=>?_⟩
      rw[n.o]
      subst N;exact Hp _ y.o A.o O.o u.o T.o ay.o ao.o M.o
    ·rw[show bw=(b+1)+1 from a5] at aj
     have g:=Ad aj;have aa:=Ad (Kt bx.o);clear aj a5
     obtain⟨e9,fa⟩:=g.o.pb.cell (i:=4) (by omega)
     have fb:=g.o.pb.fz 4;go_wp2_with fail
     refine (Ey B s ((b+1)+1) d f j pv _ l ((g.o.set (i:=4) (by omega) (by rfl)).rr)).mono ?_
     rintro p bm ⟨di,rfl,b0,ah,ap,aq,C,L⟩;have ck:=Ad b0;clear b0
     have c:=Ad ((g.o.set (i:=4) (by omega) (by rfl)).next C L)
     have ar:=Ad aq;clear aq C L g
     have u:oH (Pl.bE (f,(b+1)) (Pl.lf (Pl.Hv s))=(ah,ap)):=by
      show _=_
      show Pl.bE _ (Pl.lf (Pl.Je (Pl.tk s 35) (Pl.Cl s) (Pl.Je (Pl.tk s 36) (Pl.A5 s) (Pl.Hr s))))=_
      rw[Pl.Oc X.o];have x:=ar.o;rw[aa.o.1] at x⊢;rw[Pl.Ob aa.o.2];exact x
     have M:oH (f=0→ah=0→El s (b+1)=.val (.txt di.data.toList)∧Ie (.val (.txt di.data.toList))≤9):=fun r J=>⟨by unfold El;rw[if_neg (fun x=>X.o ⟨r,x⟩),if_pos aa.o.2,ck.o (by rw[ar.o];exact J)];rfl,mB _⟩
     obtain⟨fc,fd⟩:=c.o.pb.cell (i:=5) (by omega)
     have fe:=c.o.pb.fz 5
     obtain⟨ff,fg⟩:=c.o.pb.cell (i:=6) (by omega)
     have fh:=c.o.pb.fz 6
     obtain⟨fi,fj⟩:=c.o.pb.cell (i:=7) (by omega)
     have fk:=c.o.pb.fz 7;go_wp2_with fail
     refine (Ar B s ap d ah j 93 93 pv _ l (by omega) rfl ((((c.o.set (i:=5) (by omega) (by rfl)).set (i:=6) (by omega) (by rfl)).set (i:=7) (by omega) (by rfl)).rr)).mono ?_
     rintro p a9 ⟨df,rfl,G,P,R,z,F⟩
     have e:=Ad ((((c.o.set (i:=5) (by omega) (by rfl)).set (i:=6) (by omega) (by rfl)).set (i:=7) (by omega) (by rfl)).next z F)
     have T:=Ad R;clear R z F c;go_wp2_with fail
     go_meet
     case rel =>
      have v:oH (Pl.lf (Pl.Ba s (Pl.kd (Pl.bt s a))) a=(G,P)):=by
       show _=_
       rw[n.o]
       show Pl.lf (Pl.C7 s) a=_
       unfold Pl.C7
       rw[Pl.Ka E.o,Pl.Ge,show Pl.lf (Pl.tk s 91) (a+1)=_ from y.o,Pl.Bg,A.o,Pl.Bg,O.o,Pl.Bg,u.o]
       exact T.o
      refine⟨G,P,j,_,83,_,by rw[E.o];rfl,v.o,Ez n.o au.o v.o,e.o,fun N=>?_⟩
      rw[n.o]
      subst N;exact Hp _ y.o A.o O.o u.o T.o ay.o ao.o M.o
   ·rw[show bk=(b+1)+1 from a0] at ac
    have H:=Ad ac;have X:=Ad (Kt bl.o);clear ac a0
    obtain⟨_,_⟩:=H.o.pb.cell (i:=4) (by omega)
    have g5:=H.o.pb.fz 4;go_wp2_with fail
    refine (Ll B s ((b+1)+1) d f j pv _ l ((H.o.set (i:=4) (by omega) (by rfl)).rr)).mono ?_
    rintro p w6 ⟨dj,rfl,dk,U,I,x6,Y,an⟩;have fl:=Ad dk;clear dk
    have g:=Ad ((H.o.set (i:=4) (by omega) (by rfl)).next Y an)
    have b7:=Ad x6;clear x6 Y an H
    have u:oH (Pl.bE (f,(b+1)) (Pl.lf (Pl.Hv s))=(U,I)):=by
     show _=_
     show Pl.bE _ (Pl.lf (Pl.Je (Pl.tk s 35) (Pl.Cl s) (Pl.Je (Pl.tk s 36) (Pl.A5 s) (Pl.Hr s))))=_
     have x:=b7.o;rw[X.o.1] at x⊢;rw[Pl.Ob X.o.2];exact x
    have M:oH (f=0→U=0→El s (b+1)=.val (.num dj)∧Ie (.val (.num dj))≤9):=fun r J=>⟨by unfold El;rw[if_pos X.o.2,fl.o (by rw[b7.o];exact J)],mB _⟩
    obtain⟨_,_⟩:=g.o.pb.cell (i:=5) (by omega)
    have g6:=g.o.pb.fz 5
    obtain⟨_,_⟩:=g.o.pb.cell (i:=6) (by omega)
    have g7:=g.o.pb.fz 6
    obtain⟨_,_⟩:=g.o.pb.cell (i:=7) (by omega)
    have g8:=g.o.pb.fz 7;go_wp2_with fail
    refine (Ar B s I d U j 93 93 pv _ l (by omega) rfl ((((g.o.set (i:=5) (by omega) (by rfl)).set (i:=6) (by omega) (by rfl)).set (i:=7) (by omega) (by rfl)).rr)).mono ?_
    rintro p bm ⟨_,rfl,ah,ap,aq,C,L⟩
    have c:=Ad ((((g.o.set (i:=5) (by omega) (by rfl)).set (i:=6) (by omega) (by rfl)).set (i:=7) (by omega) (by rfl)).next C L)
    have ar:=Ad aq;clear aq C L g;go_wp2_with fail
    go_meet
    case rel =>
     have v:oH (Pl.lf (Pl.Ba s (Pl.kd (Pl.bt s a))) a=(ah,ap)):=by
      show _=_
      rw[n.o]
      show Pl.lf (Pl.C7 s) a=_
      unfold Pl.C7
      rw[Pl.Ka E.o,Pl.Ge,show Pl.lf (Pl.tk s 91) (a+1)=_ from y.o,Pl.Bg,A.o,Pl.Bg,O.o,Pl.Bg,u.o]
      exact ar.o
     refine⟨ah,ap,j,_,83,_,by rw[E.o];rfl,v.o,Ez n.o au.o v.o,c.o,fun N=>?_⟩
     rw[n.o]
     subst N;exact Hp _ y.o A.o O.o u.o ar.o ay.o ao.o M.o
 case rest =>
  obtain⟨e1,a1,cl,_,fm,_,dl,cm,dm,dn,cn⟩:=hcut.o
  obtain rfl:fm=83:=by rw[dl,E.o];rfl
  rw[n.o] at cm cn
  have fn:=Ad cn;have co:=Ad cm;have dp:=Ad dm;have av:=Ad dn.Pa;clear cm dm dn hcut b5 cn dl
  obtain⟨_,fo⟩:∃x,x=wc:=⟨_,rfl⟩
  subst fo;go_wp2_with fail
  refine (Mr B s a1 d e1 cl pv _ l (by omega) av.o.rr).mono ?_
  rintro p eo ⟨rfl,bd,be,bf,p2,bg⟩;have aw:=Ad (av.o.next p2 bg);have y:=Ad bf
  have dq:oH (bd=0→cl=Pl.cj s be):=by intro r;subst r;have:=Pl.Th y.o;rw[this.2];exact dp.o this.1
  have dr:oH (7≤d+1→bd≠0):=by
   intro r
   obtain rfl:d=6:=by omega
   exact Pl.He y.o
  clear bf p2 bg dp av;go_wp2_with fail
  refine (em.o be bd cl pv m xs S _ dr.o aw.o.rr aw.o.po (fun _=>aw.o.pl trivial) (by omega) dq.o).mono ?_
  rintro p w3 ⟨ep,rfl,f,b,cp,ca,bc,ds,bh,ax,dt,du,_,bi,b1,dv⟩
  obtain⟨_,dw,dx⟩:=Mv.pl dv
  have am:=Ad (aw.o.query ax du bi b1 dw);have fp:=Ad dx;clear dw dx dv;have A:=Ad bh;have dy:=Ad dt;clear bh ax dt du bi b1 aw dq dr
  obtain⟨_,fq⟩:=am.o.pb.cell (i:=9) (by omega)
  have J:=am.o.pb.fz 9;have fs:=am.o.pb.verb;go_wp2_with fail
  refine (Ar B s b (d+1) f cp 41 41 ca _ l (by omega) rfl (am.o.set (i:=9) (by omega) (by rfl)).rr).mono ?_
  rintro p w4 ⟨_,rfl,b2,b3,cb,az,bj⟩
  have ab:=Ad ((am.o.set (i:=9) (by omega) (by rfl)).next az bj)
  have ft:oH (Pl.Fl s d q a=(b2,b3)):=Pl.Rw (by rw[n.o];omega) (by rw[n.o];rfl) (by rw[n.o];exact co.o) y.o A.o cb
  have fu:oH (b2=0→cp=Pl.cj s b3):=by intro r;subst r;have:=Pl.Fm (Pl.Bu (s:=s) (by omega) (by omega)) cb;rw[this.2];exact dy.o this.1
  have fv:oH (b2=0→e1=0∧f=0∧Pl.Ba s _ a=(true,a1)∧Pl.bt s a1=40∧be=a1+1∧Pl.bt s b=41∧b3=b+1∧d≤5):=fun r=>by subst r;exact Tb ej co.o y.o A.o cb
  have fw:oH (bc+1≤m+(1+2*b4)):=by show _≤_;omega
  clear cb az bj am dy fq J fs co y A;have c2:=ab.o.rr.c2;have cq:=ab.o.rr.f 2;go_wp2_with fail;have ak:=Ad (ab.o.Xa d);clear ab c2 cq;generalize w4.setCell ⟨B,2,none⟩ (.int .i64 (d:Int))=W at *
  obtain⟨p1,p2,ax,az,a2,Y,C,z,K,a4,cr,cc,al,dz⟩:=ak.o.pb.cells
  have fx:=Ad cc;clear cc;have d0:=ak.o.po
  obtain⟨fy,fz,f0,f1,f2⟩:=info_parts Kr
  have f3:=ak.o.rr.c5;have f4:=ak.o.rr.f 5;have hB:=Aa ak.o.rr.2;have r0:=Ae al 0;have r1:=Ae al 1;have r2:=Ae al 2;have b1:=Ae al 3;have d1:=Ae al 4;have d2:=Ae al 5;have r6:=Ae al 6;have d3:=Ae al 7;have d4:=Ae al 8;have d5:=Ae al 9;have d6:=Ae al 10;have d7:=Ae al 11
  simp at r0 r1 r2 b1 d1 d2 r6 d3 d4 d5 d6 d7
  have d8:=Ad dz;have d9:=Ad d0;clear dz al d0
  have ea:∀o,(W.alloc o).frozen? ⟨B,5,none⟩=false:=fun o=>(World.frozen?_alloc_past _ _ _ hB).trans f4
  have ct:some B≠ca.ownBlock:=ak.o.FJ
  go_region_law
   ((refine step_append_lies _ (by rfl) _ _ _ (by rfl) (B+1) 204 fy _ 12 120 Tryz.underlying198 fz f0 f1 f2 rfl (by omega) ca bc ds (by rfl) ((d9.o.alloc _).drew) ⟨W.heap.size,0,none⟩ 1 1 [.int .u8 83,p1,p2,ax,az,a2,Y,C,z,K,a4,cr] (by rfl) (by rfl) (World.news_of_block (cs:=#[.int .u8 83,p1,p2,ax,az,a2,Y,C,z,K,a4,cr]) (t:=204) (fr:=(0,0)) (heap_alloc_new W _)) d8.o (by omega) (by unfold maxLen;omega) (by omega) (by simp;omega) (W.heap.size+1) (by simp) ?_;intro f5 cap cu eb cd ec f6;have ac:cu.cell? ⟨B,5,none⟩=some ca:=(cd.cell_far _ (by simp;omega) ct).trans ((World.cell?_alloc_past _ _ _ hB).trans f3);have a8:cu.frozen? ⟨B,5,none⟩=false:=(cd.frozen_far _ (by simp;omega) ct).trans (ea _)))
  all_goals
   obtain⟨ed,ee,ef,eg,eh⟩:=Ks (pv:=pv) ak.o.rr ak.o.fr (ak.o.hr.imp id fun cv k f7=>mR (cv k f7)) ct cd eb ec
   have f8:=Ad ed;have f9:=Ad ee;have ga:=Ad ef;have gb:=Ad eg
   have gc:oH (b2=0→Mv B s (6-d) a b3 S (bc:Int) (bc+1) (ds++[.int .u8 83,p1,p2,ax,az,a2,Y,C,z,K,a4,cr]) (cu.setCell ⟨B,5,none⟩ (.slice (some ⟨f5,0,none⟩) (bc+1) cap))):=fun r=>by
    obtain⟨gd,ei,cv,gf,cq,gg,gh,_⟩:=fv.o r
    obtain⟨_,_,gi,gj,gl⟩:=fp.o ei
    obtain⟨gm,gn⟩:=ak.o.pl ei
    have ik:=eh ak.o.po.O9;have cc:=fx.o
    rw[show 6-d=6-(d+1)+1 by omega]
    exact Ta n.o rfl ((fn.o gd).Bw (ak.o.ik.trans ik)) cv gf (cq ▸ gj) gg gh (gm.Bw ik) gn gi gl cc
   clear ed ee ef eg eh eb cd ec f6 r0 r1 r2 b1 d1 d2 r6 d3 d4 d5 d6 d7 ea d8 d9 ak
   go_wp2
   go_ret
   exact⟨_,rfl,b2,b3,cp,_,bc+1,_,ft.o,f8.o,fu.o,f9.o,fw.o,ga.o,gb.o,gc.o⟩
attribute [local go_sem ↓] Go.wp_at_zero Go.wp_at_succ
theorem fR (B:Nat)(s:ByteArray)(a d j O:Nat)(q:Nat→Nat×Nat)(pv:Value)(m:Nat)(xs:List Value)(S:List Q)(w:World)(C:s.size≤1000)(b5:d≤6)(aq:Jd B s (d+1) O q)(h:RR B s a d 0 j pv w)(ho:PO B pv m xs w)(ar:PL B w xs S∧m=S.length)(_:m+(1+2*O)≤1000)(au:j=Pl.cj s a)(X:Pl.bt s a=80) :
 Calls Tryz.prog 130 #[.pointer (some ⟨B,0,none⟩)] w (QR B s d pv m (1+2*O) w S a (Pl.Fl s d q a) (fun b6 a' b7=>b6=0→b7=Pl.cj s a')):=by
 have P:oH (ST B s d j pv pv m xs S True w w 0 #[.int .u8 0,.string ⟨#[]⟩,.slice none 0 0,.int .u8 0,.int .u8 0,.bool false,.int .i64 0,.string ⟨#[]⟩,.int .i64 0,.int .i64 (-1),.int .i64 (-1),.int .i64 0] 0 a (w.alloc (.cells #[.int .u8 0,.string ⟨#[]⟩,.slice none 0 0,.int .u8 0,.int .u8 0,.bool false,.int .i64 0,.string ⟨#[]⟩,.int .i64 0,.int .i64 (-1),.int .i64 (-1),.int .i64 0] 204))):=ST.start h ho (fun _=>ar) rfl rfl QM
 have dj:=Aa h.2;have dk:=h.1;have G:=Ad X;have b8:=Ad au;have b9:=Ad aq
 have p:oH (Pl.kd (Pl.bt s a)=3):=by show _=_;rw[X];rfl
 clear h ho X au aq ar
 go_enter Tryz.func130,Tryz.ntmps130
 go_upto_block 0 with fail
 go_cut [] (fun ca=>oH (HD B s d a pv m xs S w ca))
 case first =>
  go_wp2_with fail
  refine (Eg B s a d 0 j 83 83 pv _ C (by omega) rfl P.o.rr (by unfold sn;rw[G.o];rfl)).mono ?_
  rintro D dl ⟨rfl,p1,av⟩;have z:=Ad (P.o.next p1 av);clear p1 av P;go_wp2_with fail
  refine (Px B s a d 0 j 80 80 pv _ C (by omega) rfl z.o.rr (by unfold sn;rw[G.o];rfl)).mono ?_
  rintro D cb ⟨rfl,p2,H⟩;have e:=Ad (z.o.next p2 H);clear p2 H z
  obtain⟨_,_⟩:=e.o.pb.cell (i:=0) (by omega)
  have dm:=e.o.pb.fz 0
  have dn:¬B=w.heap.size:=by omega
  go_wp2_with fail
  refine (Ar B s (a+1) d 0 j 91 91 pv _ C (by omega) rfl ((e.o.Gy 80).rr)).mono ?_
  rintro D w3 ⟨_,rfl,R,I,J,g,K⟩;have f:=Ad ((e.o.Gy 80).next g K);have E:=Ad J;clear J g K e;go_wp2_with fail;refine (Sy B s I d R j pv _ C (f.o.rr)).mono ?_;rintro D w4 ⟨⟨aw,ax,ay,az,rfl,a0,cc,a2,a3⟩,r,u,A,l,L⟩;have n:=Ad (f.o.next l L).Pa;have cd:=Ad a3
  have ce:oH (w4.ownsRow (B+1) 3 1 (.slice aw ax ay) az.length (Fj az)):=XC a0 (by have:=f.o.fr.size;omega)
  have cf:=Ad a2;clear a3 a0 a2;have a4:=Ad A;clear A l L f
  obtain⟨_,_⟩:=n.o.pb.cell (i:=2) (by omega)
  have dp:=n.o.pb.fz 2;go_wp2_with fail
  go_meet
  case rel =>
   have a5:oH (Pl.lf (Pl.Ba s (Pl.kd (Pl.bt s a))) a=(r,u)):=by
    show _=_
    rw[p.o]
    show Pl.lf (Pl.Qe s) a=_
    unfold Pl.Qe
    rw[Pl.Ka G.o,Pl.Ge,show Pl.lf (Pl.tk s 91) (a+1)=_ from E.o]
    exact a4.o
   refine⟨r,u,j,_,80,_,by rw[G.o];rfl,a5.o,Ez p.o b8.o a5.o,n.o.set (i:=2) (by omega) (by rfl),fun cg=>?_⟩
   rw[p.o]
   subst cg
   exact XK _ E.o a4.o cd.o (Mu ce.o (n.o.set (i:=2) (v:=.slice aw ax ay) (by omega) (by rfl)).ik) cc cf.o
 case rest =>
  obtain⟨e1,a1,Y,_,ch,_,a6,Z,a7,a8,aa⟩:=hcut.o
  obtain rfl:ch=80:=by rw[a6,G.o];rfl
  rw[p.o] at Z aa
  have ci:=Ad aa;have ab:=Ad Z;have a9:=Ad a7;have z:=Ad a8.Pa;clear Z a7 a8 hcut P aa a6
  obtain⟨_,cj⟩:∃x,x=wc:=⟨_,rfl⟩
  subst cj;go_wp2_with fail
  refine (Mr B s a1 d e1 Y pv _ C (by omega) z.o.rr).mono ?_
  rintro D cb ⟨rfl,ac,ad,ba,p2,H⟩;have e:=Ad (z.o.next p2 H);have M:=Ad ba
  have bb:oH (ac=0→Y=Pl.cj s ad):=by intro y;subst y;have:=Pl.Th M.o;rw[this.2];exact a9.o this.1
  have bc:oH (7≤d+1→ac≠0):=by
   intro y
   obtain rfl:d=6:=by omega
   exact Pl.He M.o
  clear ba p2 H a9 z;go_wp2_with fail
  refine (b9.o ad ac Y pv m xs S _ bc.o e.o.rr e.o.po (fun _=>e.o.pl trivial) (by omega) bb.o).mono ?_
  rintro D w3 ⟨_,rfl,R,I,ae,T,F,bd,J,g,be,bf,_,K,N,bg⟩
  obtain⟨_,bh,bi⟩:=Mv.pl bg
  have f:=Ad (e.o.query g bf K N bh);have ck:=Ad bi;clear bh bi bg;have E:=Ad J;have bj:=Ad be;clear J g be bf K N e bb bc
  obtain⟨_,cl⟩:=f.o.pb.cell (i:=9) (by omega)
  have cm:=f.o.pb.fz 9;have cn:=f.o.pb.verb;go_wp2_with fail
  refine (Ar B s I (d+1) R ae 41 41 T _ C (by omega) rfl (f.o.set (i:=9) (by omega) (by rfl)).rr).mono ?_
  rintro D w4 ⟨_,rfl,r,u,A,l,L⟩
  have n:=Ad ((f.o.set (i:=9) (by omega) (by rfl)).next l L)
  have co:oH (Pl.Fl s d q a=(r,u)):=Pl.Rw (by rw[p.o];omega) (by rw[p.o];rfl) (by rw[p.o];exact ab.o) M.o E.o A
  have cp:oH (r=0→ae=Pl.cj s u):=by intro y;subst y;have:=Pl.Fm (Pl.Bu (s:=s) (by omega) (by omega)) A;rw[this.2];exact bj.o this.1
  have cq:oH (r=0→e1=0∧R=0∧Pl.Ba s _ a=(true,a1)∧Pl.bt s a1=40∧ad=a1+1∧Pl.bt s I=41∧u=I+1∧d≤5):=fun y=>by subst y;exact Tb b5 ab.o M.o E.o A
  have cr:oH (F+1≤m+(1+2*O)):=by show _≤_;omega
  clear A l L f bj cl cm cn ab M E;have c2:=n.o.rr.c2;have af:=n.o.rr.f 2;go_wp2_with fail;have b:=Ad (n.o.Xa d);clear n c2 af;generalize w4.setCell ⟨B,2,none⟩ (.int .i64 (d:Int))=W at *
  obtain⟨p1,p2,g,l,ag,ah,ai,aj,ak,al,am,U,c,bk⟩:=b.o.pb.cells
  have ct:=Ad U;clear U;have bl:=b.o.po
  obtain⟨cu,cv,cw,cx,cy⟩:=info_parts Kr
  have cz:=b.o.rr.c5;have c0:=b.o.rr.f 5;have hB:=Aa b.o.rr.2;have r0:=Ae c 0;have r1:=Ae c 1;have r2:=Ae c 2;have N:=Ae c 3;have bm:=Ae c 4;have bn:=Ae c 5;have r6:=Ae c 6;have bo:=Ae c 7;have bp:=Ae c 8;have bq:=Ae c 9;have br:=Ae c 10;have bs:=Ae c 11
  simp at r0 r1 r2 N bm bn r6 bo bp bq br bs
  have bt:=Ad bk;have bu:=Ad bl;clear bk c bl
  have bv:∀o,(W.alloc o).frozen? ⟨B,5,none⟩=false:=fun o=>(World.frozen?_alloc_past _ _ _ hB).trans c0
  have an:some B≠T.ownBlock:=b.o.FJ
  go_region_law
   ((refine step_append_lies _ (by rfl) _ _ _ (by rfl) (B+1) 204 cu _ 12 120 Tryz.underlying198 cv cw cx cy rfl (by omega) T F bd (by rfl) ((bu.o.alloc _).drew) ⟨W.heap.size,0,none⟩ 1 1 [.int .u8 80,p1,p2,g,l,ag,ah,ai,aj,ak,al,am] (by rfl) (by rfl) (World.news_of_block (cs:=#[.int .u8 80,p1,p2,g,l,ag,ah,ai,aj,ak,al,am]) (t:=204) (fr:=(0,0)) (heap_alloc_new W _)) bt.o (by omega) (by unfold maxLen;omega) (by omega) (by simp;omega) (W.heap.size+1) (by simp) ?_;intro c1 cap ao bw V bx c3;have dq:ao.cell? ⟨B,5,none⟩=some T:=(V.cell_far _ (by simp;omega) an).trans ((World.cell?_alloc_past _ _ _ hB).trans cz);have dr:ao.frozen? ⟨B,5,none⟩=false:=(V.frozen_far _ (by simp;omega) an).trans (bv _)))
  all_goals
   obtain⟨bz,b0,b1,b2,b3⟩:=Ks (pv:=pv) b.o.rr b.o.fr (b.o.hr.imp id fun ap k c4=>mR (ap k c4)) an V bw bx
   have c5:=Ad bz;have c6:=Ad b0;have c7:=Ad b1;have c8:=Ad b2
   have c9:oH (r=0→Mv B s (6-d) a u S (F:Int) (F+1) (bd++[.int .u8 80,p1,p2,g,l,ag,ah,ai,aj,ak,al,am]) (ao.setCell ⟨B,5,none⟩ (.slice (some ⟨c1,0,none⟩) (F+1) cap))):=fun y=>by
    obtain⟨da,b4,ap,db,af,dc,dd,_⟩:=cq.o y
    obtain⟨_,_,de,df,dg⟩:=ck.o b4
    obtain⟨dh,di⟩:=b.o.pl b4
    have ik:=b3 b.o.po.O9;have U:=ct.o
    rw[show 6-d=6-(d+1)+1 by omega]
    exact Ta p.o rfl ((ci.o da).Bw (b.o.ik.trans ik)) ap db (af ▸ df) dc dd (dh.Bw ik) di de dg U
   clear bz b0 b1 b2 b3 bw V bx c3 r0 r1 r2 N bm bn r6 bo bp bq br bs bv bt bu b
   go_wp2
   go_ret
   exact⟨_,rfl,r,u,ae,_,F+1,_,co.o,c5.o,cp.o,c6.o,cr.o,c7.o,c8.o,c9.o⟩
attribute [local go_sem ↓] Go.wp_at_zero Go.wp_at_succ
theorem fS (B:Nat)(s:ByteArray)(a d j ac:Nat)(q:Nat→Nat×Nat)(pv:Value)(m:Nat)(xs:List Value)(S:List Q)(w:World)(g:s.size≤1000)(c0:d≤6)(a6:Jd B s (d+1) ac q)(h:RR B s a d 0 j pv w)(ho:PO B pv m xs w)(a7:PL B w xs S∧m=S.length)(_:m+(1+2*ac)≤1000)(a8:j=Pl.cj s a)(ak:Pl.bt s a=74) :
 Calls Tryz.prog 130 #[.pointer (some ⟨B,0,none⟩)] w (QR B s d pv m (1+2*ac) w S a (Pl.Fl s d q a) (fun c1 a' c3=>c1=0→c3=Pl.cj s a')):=by
 have ad:oH (ST B s d j pv pv m xs S True w w 0 #[.int .u8 0,.string ⟨#[]⟩,.slice none 0 0,.int .u8 0,.int .u8 0,.bool false,.int .i64 0,.string ⟨#[]⟩,.int .i64 0,.int .i64 (-1),.int .i64 (-1),.int .i64 0] 0 a (w.alloc (.cells #[.int .u8 0,.string ⟨#[]⟩,.slice none 0 0,.int .u8 0,.int .u8 0,.bool false,.int .i64 0,.string ⟨#[]⟩,.int .i64 0,.int .i64 (-1),.int .i64 (-1),.int .i64 0] 204))):=ST.start h ho (fun _=>a7) rfl rfl QM
 have es:=Aa h.2;have c4:=h.1;have I:=Ad ak;have a9:=Ad a8;have ba:=Ad a6
 have C:oH (Pl.kd (Pl.bt s a)=4):=by show _=_;rw[ak];rfl
 clear h ho ak a8 a6 a7
 go_enter Tryz.func130,Tryz.ntmps130
 go_upto_block 0 with fail
 go_cut [] (fun c5=>oH (HD B s d a pv m xs S w c5))
 case first =>
  go_wp2_with fail
  refine (Eg B s a d 0 j 83 83 pv _ g (by omega) rfl ad.o.rr (by unfold sn;rw[I.o];rfl)).mono ?_
  rintro l et ⟨rfl,p1,bb⟩;have E:=Ad (ad.o.next p1 bb);clear p1 bb ad;go_wp2_with fail
  refine (Eg B s a d 0 j 80 80 pv _ g (by omega) rfl E.o.rr (by unfold sn;rw[I.o];rfl)).mono ?_
  rintro l c6 ⟨rfl,p2,O⟩;have r:=Ad (E.o.next p2 O);clear p2 O E;go_wp2_with fail
  refine (Px B s a d 0 j 74 74 pv _ g (by omega) rfl r.o.rr (by unfold sn;rw[I.o];rfl)).mono ?_
  rintro l w3 ⟨rfl,u,P⟩;have c:=Ad (r.o.next u P);clear u P r
  obtain⟨_,_⟩:=c.o.pb.cell (i:=0) (by omega)
  have eu:=c.o.pb.fz 0
  have ev:¬B=w.heap.size:=by omega
  have ew:=c.o.rr.c4;have bc:=c.o.rr.f 4
  have ex:j≤1000:=by rw[a9.o];exact lH (Pl.SK s a) (lH c4 g)
  go_wp2_with fail
  refine (Ar B s (a+1) d 0 (j+1) 91 91 pv _ g (by omega) rfl (((c.o.Gy 74).bQ (j+1)).rr)).mono ?_
  rintro l w4 ⟨c7,rfl,R,T,U,v,V⟩;have p:=Ad (((c.o.Gy 74).bQ (j+1)).next v V);have y:=Ad U;clear U v V c;go_wp2_with fail;refine (Df B s T d R (j+1) pv _ g (p.o.rr)).mono ?_;rintro l w5 ⟨c8,rfl,bd,e5,a5,X,z,J⟩;have c9:=Ad bd;clear bd;have n:=Ad (p.o.next z J);have K:=Ad X;clear X z J p
  obtain⟨_,_⟩:=n.o.pb.cell (i:=11) (by omega)
  have ey:=n.o.pb.fz 11;go_wp2_with fail
  refine (Ar B s a5 d e5 (j+1) 61 61 pv _ g (by omega) rfl ((n.o.set (i:=11) (by omega) (by rfl)).rr)).mono ?_
  rintro l w6 ⟨da,rfl,F,G,x6,A,Y⟩
  have D:=Ad ((n.o.set (i:=11) (by omega) (by rfl)).next A Y)
  have be:=Ad x6;clear x6 A Y n;go_wp2_with fail;refine (Df B s G d F (j+1) pv _ g (D.o.rr)).mono ?_;rintro l ez ⟨_,rfl,bf,db,dc,bg,L,bh⟩;have dd:=Ad bf;clear bf;have Z:=Ad (D.o.next L bh);have bi:=Ad bg;clear bg L bh D
  obtain⟨_,_⟩:=Z.o.pb.cell (i:=8) (by omega)
  have e0:=Z.o.pb.fz 8;go_wp2_with fail
  refine (Ar B s dc d db (j+1) 93 93 pv _ g (by omega) rfl ((Z.o.set (i:=8) (by omega) (by rfl)).rr)).mono ?_
  rintro l e2 ⟨_,rfl,bj,bk,bl,M,bm⟩
  have de:=Ad ((Z.o.set (i:=8) (by omega) (by rfl)).next M bm)
  have bn:=Ad bl;clear bl M bm Z;go_wp2_with fail
  go_meet
  case rel =>
   have bo:oH (Pl.lf (Pl.Ba s (Pl.kd (Pl.bt s a))) a=(bj,bk)):=by
    show _=_
    rw[C.o]
    show Pl.lf (Pl.Iq s) a=_
    unfold Pl.Iq
    rw[Pl.Ka I.o,Pl.Ge,show Pl.lf (Pl.tk s 91) (a+1)=_ from y.o,Pl.Bg,K.o,Pl.Bg,be.o,Pl.Bg,bi.o]
    exact bn.o
   refine⟨bj,bk,(j+1),_,74,_,by rw[I.o];rfl,bo.o,Ez C.o a9.o bo.o,de.o,fun df=>?_⟩
   rw[C.o]
   subst df;exact XJ _ y.o K.o be.o bi.o bn.o c9.o dd.o
 case rest =>
  obtain⟨e1,a1,al,_,dg,_,bp,am,bq,br,an⟩:=hcut.o
  obtain rfl:dg=74:=by rw[bp,I.o];rfl
  rw[C.o] at am an
  have dh:=Ad an;have ao:=Ad am;have bs:=Ad bq;have E:=Ad br.Pa;clear am bq br hcut ad an bp
  obtain⟨_,di⟩:∃x,x=wc:=⟨_,rfl⟩
  subst di;go_wp2_with fail
  refine (Mr B s a1 d e1 al pv _ g (by omega) E.o.rr).mono ?_
  rintro l c6 ⟨rfl,ap,aq,bt,p2,O⟩;have r:=Ad (E.o.next p2 O);have H:=Ad bt
  have bu:oH (ap=0→al=Pl.cj s aq):=by intro b;subst b;have:=Pl.Th H.o;rw[this.2];exact bs.o this.1
  have bv:oH (7≤d+1→ap≠0):=by
   intro b
   obtain rfl:d=6:=by omega
   exact Pl.He H.o
  clear bt p2 O bs E;go_wp2_with fail
  refine (ba.o aq ap al pv m xs S _ bv.o r.o.rr r.o.po (fun _=>r.o.pl trivial) (by omega) bu.o).mono ?_
  rintro l w3 ⟨_,rfl,ar,au,av,bw,bx,dj,bz,u,b0,b1,_,P,aa,b2⟩
  obtain⟨b3,b4,b5⟩:=Mv.pl b2
  have c:=Ad (r.o.query u b1 P aa b4);have dk:=Ad b5;clear b4 b5 b2;have ae:=Ad bz;have b6:=Ad b0;clear bz u b0 b1 P aa r bu bv
  obtain⟨_,dl⟩:=c.o.pb.cell (i:=9) (by omega)
  have dm:=c.o.pb.fz 9;have dn:=c.o.pb.verb;go_wp2_with fail
  refine (Ar B s au (d+1) ar av 44 44 bw _ g (by omega) rfl (c.o.set (i:=9) (by omega) (by rfl)).rr).mono ?_
  rintro l w4 ⟨c7,rfl,R,T,U,v,V⟩
  have p:=Ad ((c.o.set (i:=9) (by omega) (by rfl)).next v V)
  have y:=Ad U
  have b7:oH (R=0→av=Pl.cj s T):=by intro b;subst b;have:=Pl.Fm (Pl.Bu (s:=s) (by omega) (by omega)) y.o;rw[this.2];exact b6.o this.1
  have b8:oH (7≤d+1→R≠0):=by
   intro b dp
   obtain rfl:d=6:=by omega
   subst dp
   have dq:=(Pl.Fm (Pl.Bu (s:=s) (by omega) (by omega)) y.o).1
   have af:=ae.o
   rw[Pl.Bi (Pl.He H.o),dq] at af
   injection af with af _
   exact Pl.He H.o af
  clear U v V c b6 dl dm dn;go_wp2_with fail
  refine (ba.o T R av bw bx dj b3 _ b8.o p.o.rr p.o.po (fun b=>p.o.pl (by subst b;exact (E0 y.o).1)) (by omega) b7.o).mono ?_
  rintro l w5 ⟨c8,rfl,e5,a5,aw,ag,N,b9,X,z,ca,cb,_,J,ab,cc⟩
  obtain⟨_,cd,ce⟩:=Mv.pl cc
  have dr:oH (ar=0→bx=b3.length):=fun b=>(p.o.pl b).2
  have n:=Ad (p.o.query z cb J ab cd);have ds:=Ad ce;clear cd ce cc;have K:=Ad X;have cf:=Ad ca;clear X z ca cb J ab p b7 b8
  obtain⟨_,dt⟩:=n.o.pb.cell (i:=10) (by omega)
  have du:=n.o.pb.fz 10;go_wp2_with fail
  refine (Ar B s a5 (d+1) e5 aw 41 41 ag _ g (by omega) rfl (n.o.set (i:=10) (by omega) (by rfl)).rr).mono ?_
  rintro l w6 ⟨da,rfl,F,G,x6,A,Y⟩
  have D:=Ad ((n.o.set (i:=10) (by omega) (by rfl)).next A Y)
  have dv:oH (Pl.Fl s d q a=(F,G)):=Pl.CI (by rw[C.o];omega) (by rw[C.o];rfl) (by rw[C.o];exact ao.o) H.o ae.o y.o K.o x6
  have dw:oH (F=0→aw=Pl.cj s G):=by intro b;subst b;have:=Pl.Fm (Pl.Bu (s:=s) (by omega) (by omega)) x6;rw[this.2];exact cf.o this.1
  have dx:oH (F=0→e1=0∧ar=0∧e5=0∧Pl.Ba s _ a=(true,a1)∧Pl.bt s a1=40∧aq=a1+1∧Pl.bt s au=44∧T=au+1∧Pl.bt s a5=41∧G=a5+1∧d≤5):=fun b=>by subst b;exact FO c0 ao.o H.o ae.o y.o K.o x6
  have dy:oH (N+1≤m+(1+2*ac)):=by show _≤_;omega
  clear x6 A Y n cf dt du ao H ae y K;have c2:=D.o.rr.c2;have ax:=D.o.rr.f 2;go_wp2_with fail;have e:=Ad (D.o.Xa d);clear D c2 ax;generalize w6.setCell ⟨B,2,none⟩ (.int .i64 (d:Int))=W at *
  obtain⟨p1,p2,u,v,z,A,L,M,ay,az,a0,ah,f,cg⟩:=e.o.pb.cells
  have dz:=Ad ah;clear ah;have ch:=e.o.po
  obtain⟨d0,d1,d2,d3,d4⟩:=info_parts Kr
  have d5:=e.o.rr.c5;have ai:=e.o.rr.f 5;have hB:=Aa e.o.rr.2;have r0:=Ae f 0;have r1:=Ae f 1;have r2:=Ae f 2;have aa:=Ae f 3;have ci:=Ae f 4;have ab:=Ae f 5;have r6:=Ae f 6;have cj:=Ae f 7;have ck:=Ae f 8;have cl:=Ae f 9;have cm:=Ae f 10;have cn:=Ae f 11
  simp at r0 r1 r2 aa ci ab r6 cj ck cl cm cn
  have co:=Ad cg;have cp:=Ad ch;clear cg f ch
  have cq:∀o,(W.alloc o).frozen? ⟨B,5,none⟩=false:=fun o=>(World.frozen?_alloc_past _ _ _ hB).trans ai
  have a2:some B≠ag.ownBlock:=e.o.FJ
  go_region_law
   ((refine step_append_lies _ (by rfl) _ _ _ (by rfl) (B+1) 204 d0 _ 12 120 Tryz.underlying198 d1 d2 d3 d4 rfl (by omega) ag N b9 (by rfl) ((cp.o.alloc _).drew) ⟨W.heap.size,0,none⟩ 1 1 [.int .u8 74,p1,p2,u,v,z,A,L,M,ay,az,a0] (by rfl) (by rfl) (World.news_of_block (cs:=#[.int .u8 74,p1,p2,u,v,z,A,L,M,ay,az,a0]) (t:=204) (fr:=(0,0)) (heap_alloc_new W _)) co.o (by omega) (by unfold maxLen;omega) (by omega) (by simp;omega) (W.heap.size+1) (by simp) ?_;intro d6 cap a3 cr aj ct d7;have e3:a3.cell? ⟨B,5,none⟩=some ag:=(aj.cell_far _ (by simp;omega) a2).trans ((World.cell?_alloc_past _ _ _ hB).trans d5);have J:a3.frozen? ⟨B,5,none⟩=false:=(aj.frozen_far _ (by simp;omega) a2).trans (cq _)))
  all_goals
   obtain⟨cu,cv,cw,cx,cy⟩:=Ks (pv:=pv) e.o.rr e.o.fr (e.o.hr.imp id fun a4 k d8=>mR (a4 k d8)) a2 aj cr ct
   have d9:=Ad cu;have ea:=Ad cv;have eb:=Ad cw;have ec:=Ad cx
   have ed:oH (F=0→Mv B s (6-d) a G S (N:Int) (N+1) (b9++[.int .u8 74,p1,p2,u,v,z,A,L,M,ay,az,a0]) (a3.setCell ⟨B,5,none⟩ (.slice (some ⟨d6,0,none⟩) (N+1) cap))):=fun b=>by
    obtain⟨ee,cz,ai,a4,ef,ax,eg,bc,eh,ei,_⟩:=dx.o b
    obtain⟨_,_,ej,ek,el⟩:=dk.o cz
    obtain⟨_,_,em,en,eo⟩:=ds.o ai
    obtain⟨ep,er⟩:=e.o.pl ai
    have ik:=cy e.o.po.O9;have ah:=dz.o
    rw[show 6-d=6-(d+1)+1 by omega]
    exact FM C.o rfl ((dh.o ee).Bw (e.o.ik.trans ik)) a4 ef (ax ▸ ek) eg (bc ▸ en) eh ei (ep.Bw ik) (dr.o cz) er ej em el eo ah
   clear cu cv cw cx cy cr aj ct d7 r0 r1 r2 aa ci ab r6 cj ck cl cm cn cq co cp e
   go_wp2
   go_ret
   exact⟨_,rfl,F,G,aw,_,N+1,_,dv.o,d9.o,dw.o,ea.o,dy.o,eb.o,ec.o,ed.o⟩
end Go.Proofs.YtdinjjmcmfjbfaaGreatDoor
