import Derived.Test.YtdinjjmcmfjbfaaGreatDoorYbJ
set_option maxRecDepth 100000
set_option maxHeartbeats 4000000
namespace Go.Proofs.YtdinjjmcmfjbfaaGreatDoor
set_option linter.unusedSimpArgs false
open Go.RowKit
open Mo (V Row Bag Q ty Af Bd Ac Tab B0 A9 cnt neg Nr)
variable {Z:Nat→Prop}
theorem RK {w:World}{Y:Nat→Prop}{y:Nat}{st:Mo.Ses}(h:Jr Z w Y y st)(hg:Mo.Bj st.tabs)(hv:∀q∈st.views,VG st.tabs q)(_:st.views.length≤6)(s:ByteArray) :
 Calls Tryz.prog 56 #[pV y,.string s] w fun e w'=>e=.returned (fA (G6 st s).1)∧Td Z w Y y (G6 st s).2 w':=by
 have b3:=Ad h;have a7:=Ad hg;have fh:=Ad hv
 obtain⟨tv,vv,bv,tcs,vcs,bvs,az,fi⟩:=h
 have J:=Ad az;have hj:=Ad fi;have hk:=Aa az.obj;have hl:=Ad az.obj
 obtain⟨va,cd,rfl,_,fj⟩:=J0 az.vow
 obtain⟨ce,b4,rfl,_,fk⟩:=J0 az.bow
 obtain⟨c9,bh,rfl,_,fl⟩:=J0 az.tow
 have hm:=Ad (Pc az.tow az.tcs);have jk:st.tabs.length≤4:=hg.few;have d2:=Ad az.old
 have jl:bh≤9223372036854775807:=by unfold maxLen at fl;omega
 have jm:cd≤9223372036854775807:=by unfold maxLen at fj;omega
 have hn:b4≤9223372036854775807:=by unfold maxLen at fk;omega
 unfold pV fA JP;clear az fi hg hv fl fj fk
 by_cases da:300<s.size
 ·have ab:(300:Int)<(s.size:Int):=by omega
  have I:oH (G6 st s=(([],1),st)):=by show _=_;unfold G6;rw[if_pos da]
  clear da
  go_enter Tryz.func56,Tryz.ntmps56
  go_wp2_with fail;go_ret2
  refine⟨?_,by rw[I.o];exact b3.o.same (Ab.refl _ _)⟩
  rw[I.o];rfl
 ·have fm:s.size≤300:=by omega
  have ab:¬(300:Int)<(s.size:Int):=by omega
  have db:=Ad da;clear da
  go_enter Tryz.func56,Tryz.ntmps56
  go_wp2_with fail;refine (QL s _ fm).mono ?_;rintro hp aq ⟨hq,O,dc,ok,rfl,⟨d3,d4⟩,dd⟩;have am:=Ad dd;have de:=(dd.block y hk oI).trans hl.o;have d5:aq.cell? ⟨y,0,none⟩=some (.slice c9 st.tabs.length bh):=(Ae de 0).trans rfl;have cf:y<aq.heap.size:=Aa de;have hr:=Ad de;have d6:=Ad (hm.o.Ah dd);clear dd de ab
  cases bi:Ci s with
  |none =>
   obtain rfl:=d3 bi
   have I:oH (G6 st s=(([],2),st)):=by show _=_;unfold G6;rw[if_neg db.o,bi]
   clear d3 d4 bi d5;go_wp2_with fail;go_ret2
   refine⟨?_,by rw[I.o];exact b3.o.same am.o⟩
   rw[I.o];rfl
  |some os =>
   obtain⟨rfl,df⟩:=d4 os bi
   have d7:=df Z d2.o;have d8:=Ad d7;have bj:=Ad (Sp fm bi)
   obtain⟨_,_,hs,ht,fn,-⟩:=id d7
   injection hs with e1 Q ac
   subst e1 ac
   obtain⟨n0,d9⟩:∃n,os.length=n:=⟨_,rfl⟩
   have bk:=Ad d9
   rw[d9] at Q ht
   subst Q
   have jn:dc≤9223372036854775807:=by unfold maxLen at fn;omega
   have jo:O≤301:=by have:=bj.o.2;omega
   have ea:=Ad bi;clear d3 d4 bi d7 df fn d9;go_wp2_with fail
   go_loopg [8] O (fun k hu wr=>∃i:Nat,i+k=O∧hu=.int .i64 (i:Int)∧oH (∀j o,j<i→os[j]? =some o→Ep (Cd st.tabs) o=true)∧oH (Ab No aq wr))
   case atStart=>exact⟨0,by omega,rfl,Ad (fun j o h=>by omega),Ad (Ab.refl _ _)⟩
   case round =>
    obtain⟨i,a8,rfl,bl,d⟩:=hrel
    have ae:=(d.o.cell cf oI).trans d5
    by_cases an:gk=0
    ·subst an
     have ab:¬(i:Int)<(O:Int):=by omega
     have dg:oH (∀o∈os,Ep (Cd st.tabs) o=true):=fun o ho=>by
      obtain⟨j,bm⟩:=lW ho
      exact bl.o j o (by have:=(kS.1 bm).1;have:=bk.o;omega) bm
     clear bl;go_wp2_with fail
     go_loopg [9] O (fun k hw wr=>∃i:Nat,i+k=O∧hw=.int .i64 (i:Int)∧oH (∀j o,j<i→os[j]? =some o→Gc (Cd st.tabs) o=true)∧oH (Ab No aq wr))
     case atStart=>exact⟨0,by omega,rfl,Ad (fun j o h=>by omega),d⟩
     case round =>
      clear d ae a8 ab
      obtain⟨i,a8,rfl,bl,d⟩:=hrel
      have ae:=(d.o.cell cf oI).trans d5
      by_cases an:gk=0
      ·subst an
       have ab:¬(i:Int)<(O:Int):=by omega
       have cg:oH (os.all (Gc (Cd st.tabs))=true):=lO.2 fun o ho=>by
        obtain⟨j,bm⟩:=lW ho
        exact bl.o j o (by have:=(kS.1 bm).1;have:=bk.o;omega) bm
       have eb:oH (G6 st s=if Di (Ny st.tabs (Cu (Cd st.tabs) os)) 0≠0 then (([],Di (Ny st.tabs (Cu (Cd st.tabs) os)) 0),st) else ((Qd (st.views.map fun q=>Bl (Mo.Cc (Bp st.tabs (Cu (Cd st.tabs) os)) q++neg (Mo.Cc st.tabs q))),0),⟨Bp st.tabs (Cu (Cd st.tabs) os),st.views⟩)):=by
        show _=_
        have hx:Jm (Cd st.tabs) os=0:=by
         unfold Jm
         rw[if_neg (by rw[lO.2 dg.o];simp),if_neg (by rw[cg.o];simp)]
        unfold G6
        rw[if_neg db.o,ea.o]
        simp only
        rw[hx,if_neg (by decide)]
       clear bl
       have fo:=Ad (Ak J.o.tow (am.o.seq d.o) (fun _ _ l=>l.elim))
       have fp:=Ad (cJ J.o.tcs J.o.tow.1)
       go_wp2_with (first
        |(at_builtin;refine fZ rfl _ _ rfl rfl _ _ _ rfl fo.o fp.o (by omega) ?_;intro jp w5 fq fr;have fs:=Ad fr;have dh:=Ad fq;clear fq fr)
        |fail)
       obtain⟨na,z,rfl,_,ft⟩:=J0 dh.o
       have jq:z≤9223372036854775807:=by unfold maxLen at ft;omega
       have ec:oH (Ab No aq w5):=d.o.grown fs.o (fun r e=>by cases e)
       have di:oH (∀k,Value.ownBlock (.slice na st.tabs.length z)=some k→aq.heap.size≤k):=fun k e=>lH d.o.size (Bf dh.o k e)
       have hy:oH (Sz (Zb Z (.slice na st.tabs.length z)) aq (.slice hq O dc) os):=d8.o.Lv (fun k an l=>l.elim id fun l=>by have:=di.o k l;omega)
       have fu:oH (Zk (Zb Z (.slice na st.tabs.length z)) w5 tcs (Uw st.tabs os 0)):=by
        show Zk _ _ _ _
        rw[RD]
        exact (J.o.tcs.Lv (fun k an l=>l.elim id fun l=>by have:=di.o k l;have:=am.o.size;omega)).Br (am.o.seq ec.o) (fun _ l=>l.elim)
       have fv:=Ad (Zl dh.o d.o.size);clear ft ae d a8 ab dh fs fo fp
       go_loopg [12] O (fun k hz wr=>∃(i:Nat) (bn:List Value),i+k=O∧hz=.int .i64 (i:Int)∧oH (wr.ownsRow aq.heap.size 197 3 (.slice na st.tabs.length z) st.tabs.length bn)∧oH (Zk (Zb Z (.slice na st.tabs.length z)) wr bn (Uw st.tabs os i))∧oH (Ab No aq wr))
       case atStart=>exact⟨0,tcs,by omega,rfl,fv,fu,ec⟩
       case round =>
        clear fv fu ec
        obtain⟨i,bn,a8,rfl,hO,b5,d⟩:=hrel
        by_cases an:gk=0
        ·subst an
         have ab:¬(i:Int)<(O:Int):=by omega
         have ed:oH (Zk (Zb Z (.slice na st.tabs.length z)) wr bn (Bp st.tabs (Cu (Cd st.tabs) os))):=by
          have A:=b5.o;unfold Uw at A
          rw[lT (by have:=bk.o;omega)] at A
          exact A
         have dj:=d;clear b5 d a8
         obtain⟨b6,h0⟩:∃b6,b6=wr:=⟨_,rfl⟩
         subst h0;go_wp2_with fail
         go_loopg [15,16] st.tabs.length (fun k ee h1 wr=>∃(i:Nat) (R:Int),i+k=st.tabs.length∧h1=.int .i64 (i:Int)∧ee=.int .i64 R∧oH (Di ((Ny st.tabs (Cu (Cd st.tabs) os)).drop i) R=Di (Ny st.tabs (Cu (Cd st.tabs) os)) 0)∧(-(200000*(i:Int))≤R∧R≤200000*(i:Int))∧oH (Ab No b6 wr))
         case atStart=>exact⟨0,0,by omega,rfl,rfl,Ad rfl,by omega,Ad (Ab.refl _ _)⟩
         case round =>
          obtain⟨i,R,a8,rfl,rfl,ch,fw,d⟩:=hrel
          by_cases an:gk=0
          ·subst an
           have ab:¬(i:Int)<(st.tabs.length:Int):=by omega
           have dk:oH (Di (Ny st.tabs (Cu (Cd st.tabs) os)) 0=if 60<R then 8 else 0):=by
            show _=_
            rw[←ch.o,nO (by rw[cK];omega)];rfl
           by_cases fx:60<R
           ·have I:oH (G6 st s=(([],8),st)):=by
             show _=_
             rw[eb.o,dk.o,if_pos fx,if_pos (by decide)]
            clear dk ch fw;go_wp2_with fail;go_ret2
            refine⟨?_,by rw[I.o];exact b3.o.same (am.o.seq (dj.o.seq d.o))⟩
            rw[I.o];rfl
           ·have fy:oH (Di (Ny st.tabs (Cu (Cd st.tabs) os)) 0=0):=by show _=_;rw[dk.o,if_neg fx]
            have fz:oH (Mo.Bj (Bp st.tabs (Cu (Cd st.tabs) os))):=EW a7.o (BF bj.o.1 cg.o) fy.o
            have I:oH (G6 st s=((Qd (st.views.map fun q=>Bl (Mo.Cc (Bp st.tabs (Cu (Cd st.tabs) os)) q++neg (Mo.Cc st.tabs q))),0),⟨Bp st.tabs (Cu (Cd st.tabs) os),st.views⟩)):=by
             show _=_
             rw[eb.o,if_neg (by rw[fy.o];simp)]
            have ef:Ab No aq wr:=dj.o.seq d.o;have ci:=(ef.block y cf oI).trans hr.o;have cj:wr.cell? ⟨y,0,none⟩=some (.slice c9 st.tabs.length bh):=(Ae ci 0).trans rfl;have h2:=Aj ci 0;have dl:wr.cell? ⟨y,1,none⟩=some (.slice va st.views.length cd):=(Ae ci 1).trans rfl;have eg:=Ad ci;have f0:=Ad ef
            have eh:=Ad (Ak hO.o d.o (fun _ _ l=>l.elim))
            have f1:=Ad (ed.o.Br d.o (fun _ l=>l.elim))
            clear ci ef ch fw dk a8 d hO ed dj;go_wp2_with fail
            obtain⟨a9,b7⟩:∃a9,wr.setCell ⟨y,0,none⟩ (.slice na st.tabs.length z)=a9:=⟨_,rfl⟩
            have ei:a9.heap[y]? =some (.cells #[(.slice na st.tabs.length z),(.slice va st.views.length cd),(.slice ce st.views.length b4)] 189 (0,0)):=by rw[←b7,Ap eg.o];rfl
            have b8:oH (Ab (fun k=>k=y) w a9):=by
             show Ab _ _ _
             rw[←b7];exact Cn (S:=fun k=>k=y) ((am.o.seq f0.o).any) (.inl rfl) _
            have f2:oH (Ab (fun k=>k=y) wr a9):=by
             show Ab _ _ _
             rw[←b7];exact Cn (S:=fun k=>k=y) (Ab.refl _ _) (.inl rfl) _
            have f3:oH (a9.ownsRow 0 197 3 (.slice na st.tabs.length z) st.tabs.length bn):=by
             show World.ownsRow _ _ _ _ _ _ _
             rw[←b7];exact Js (Zl eh.o (mB _)) (Fg eh.o eg.o (by decide)) _
            have dm:∀k,k=y→Zb Z (.slice na st.tabs.length z) k:=fun k e=>.inl (J.o.z (.inl e))
            have ej:∀k,k<w.heap.size→Zb Z (.slice na st.tabs.length z) k→Z k:=fun k an l=>l.elim id fun l=>by have:=di.o k l;have:=am.o.size;omega
            have h3:=Ad (f1.o.Br f2.o dm)
            have f4:=Ad (Ak J.o.bow b8.o (fun b C e=>Fg J.o.bow J.o.obj (by decide) (e ▸ C)))
            have h4:=Ad (Ak J.o.vow b8.o (fun b C e=>Fg J.o.vow J.o.obj (by decide) (e ▸ C)))
            have h5:oH (Cf (Zb Z (.slice na st.tabs.length z)) a9 bvs (Ri st.tabs (Bp st.tabs (Cu (Cd st.tabs) os)) st.views 0)):=by
             show Cf _ _ _ _
             rw[RF];exact (J.o.bgs.Lv ej).Br b8.o dm
            have h6:=Ad ((J.o.vcs.Lv ej).Br b8.o dm);have h7:=Ad ei;have h8:=Aa ei
            rw[b7]
            clear ei dm ej f2 eh f1 eg cj h2 dl f0 b7
            go_loopg [18,19] st.views.length (fun k h9 ia wr=>∃(i:Nat) (T:List UInt8) (cs:List Value),i+k=st.views.length∧ia=.int .i64 (i:Int)∧h9=.string ⟨T.toArray⟩∧T.length≤i*128000000001∧oH (T=Qd ((st.views.map (fun q=>Bl (Mo.Cc (Bp st.tabs (Cu (Cd st.tabs) os)) q++neg (Mo.Cc st.tabs q)))).take i))∧oH (wr.ownsRow 0 195 1 (.slice ce st.views.length b4) st.views.length cs)∧oH (Cf (Zb Z (.slice na st.tabs.length z)) wr cs (Ri st.tabs (Bp st.tabs (Cu (Cd st.tabs) os)) st.views i))∧oH (Ab (fun k=>Value.ownBlock (.slice ce st.views.length b4)=some k) a9 wr))
            case atStart=>exact⟨0,[],bvs,by omega,rfl,rfl,by simp,Ad rfl,f4,h5,Ad (Ab.refl _ _)⟩
            case round =>
             obtain⟨i,T,cs,a8,rfl,rfl,ib,dn,ck,cl,d⟩:=hrel
             have b9:=(d.o.block y h8 (Fg J.o.bow J.o.obj (by decide))).trans h7.o
             have cj:wr.cell? ⟨y,0,none⟩=some (.slice na st.tabs.length z):=(Ae b9 0).trans rfl;have dl:wr.cell? ⟨y,1,none⟩=some (.slice va st.views.length cd):=(Ae b9 1).trans rfl;have ek:wr.cell? ⟨y,2,none⟩=some (.slice ce st.views.length b4):=(Ae b9 2).trans rfl;have dp:=Aa b9;have ic:=Ad b9
             have cm:∀k,Value.ownBlock (.slice ce st.views.length b4)=some k→Zb Z (.slice na st.tabs.length z) k:=fun k e=>.inl (J.o.zb k e)
             have el:=Ad (Ak f3.o d.o (fun b C e=>Ip f3.o f4.o (by decide) b C e))
             have f5:=Ad (h3.o.Br d.o cm);clear b9
             by_cases an:gk=0
             ·subst an
              have ab:¬(i:Int)<(st.views.length:Int):=by omega
              have f6:i=st.views.length:=by omega
              have ie:oH (T=Qd (st.views.map (fun q=>Bl (Mo.Cc (Bp st.tabs (Cu (Cd st.tabs) os)) q++neg (Mo.Cc st.tabs q))))):=by
               show _=_
               rw[dn.o,lT (by rw[lB];omega)]
              have ig:oH (Td Z w Y y ⟨(Bp st.tabs (Cu (Cd st.tabs) os)),st.views⟩ wr):=by
               have f7:=cl.o
               rw[f6,YC] at f7
               refine RG J.o hj.o ?_ ic.o ?_ (fun k e=>by have:=di.o k e;have:=am.o.size;omega) f5.o ck.o f7
               ·exact (b8.o.mono (fun _ _ e=>.inl e)).seq (d.o.mono (fun _ _ e=>.inr e))
               ·have em:(Bp st.tabs (Cu (Cd st.tabs) os)).length=st.tabs.length:=by unfold Bp;simp
                rw[em];exact el.o
              clear ib dn ck cl f6 cm cj ek;go_wp2_with fail;go_ret2
              refine⟨?_,by rw[I.o];exact ig.o⟩
              rw[I.o,←ie.o];rfl
             ·obtain⟨k,rfl⟩:∃k,gk=k+1:=⟨gk-1,by omega⟩
              have ab:(i:Int)<(st.views.length:Int):=by omega
              have dq:(0:Int)≤(i:Int):=by omega
              obtain⟨q,ca⟩:∃q,st.views[i]? =some q:=⟨_,kT (by omega)⟩
              have en:=kW ca
              obtain⟨eo,ep,pr,er,f8,f9⟩:=h6.o i q ca
              have ga:=Ak h4.o d.o (fun b C e=>Ip J.o.vow J.o.bow (by decide) b C e)
              obtain⟨ba,af,a1,es,gb⟩:=cl.o.2 i _ (cI ca)
              have gc:=f8.Br d.o cm
              have cn:Lj (Zb Z (.slice na st.tabs.length z)) wr (.slice na st.tabs.length z) ((Bp st.tabs (Cu (Cd st.tabs) os)).map Ku):=Pc (base:=0) (by
               have em:(Bp st.tabs (Cu (Cd st.tabs) os)).length=st.tabs.length:=by unfold Bp;simp
               rw[em];exact el.o) f5.o
              have et:VG (Bp st.tabs (Cu (Cd st.tabs) os)) q:=(fh.o q en).new a7.o.nod _
              have cb:Ga (Zb Z (.slice na st.tabs.length z)) wr:=fun k l=>l.elim (fun l=>kV (d2.o k l) (lH b8.o.size d.o.size)) fun l=>I4 el.o k l
              have gd:((Bp st.tabs (Cu (Cd st.tabs) os)).map Ku).length≤1000:=by rw[lB];unfold Bp;rw[List.length_mapIdx];omega
              have gf:=Ad (fun W (M:Ab No wr W)=>MG (Z:=Zb Z (.slice na st.tabs.length z)) (Mo.Jy (Bp st.tabs (Cu (Cd st.tabs) os))) (Mo.Dn (Bp st.tabs (Cu (Cd st.tabs) os))) (Dv q) (.slice eo ep pr) (.slice na st.tabs.length z) ((Bp st.tabs (Cu (Cd st.tabs) os)).map Ku) W (gc.Ah M) f9 (fun e=>by have:=Xf q;rw[e] at this;simp at this) (cn.Ah M) gd
               (fun nm co=>by
                 have cp:=et.lv nm (Fu q nm co)
                 cases eu:Mo.C8 (Bp st.tabs (Cu (Cd st.tabs) os)) nm with
                 |none=>rw[eu] at cp;cases cp
                 |some t =>
                  obtain⟨ih,ii,A⟩:=(Nq (Bp st.tabs (Cu (Cd st.tabs) os)) nm).2 t eu
                  refine⟨ih,Ku t,ii,by rw[kX,A];rfl,?_⟩
                  show Af t.bag=_
                  unfold Mo.Dn;rw[eu]) (et.kF fz.o) (cb.up M.size))
              obtain⟨us,dr⟩:=(fh.o q en).diff a7.o fz.o
              have ij:=Ad dr;have ik:=Ad cb;have il:=Ad gb;have gg:=Ad ca
              obtain⟨ag,ds⟩:∃ag,Bl (Mo.Cc (Bp st.tabs (Cu (Cd st.tabs) os)) q++neg (Mo.Cc st.tabs q))=ag:=⟨_,rfl⟩
              have jr:ag.length≤128000000000:=by rw[←ds];exact dr.txt
              have ev:=Ad (fun (W:World) (v:Value) (im:Dt (Zb Z (.slice na st.tabs.length z)) W v (Qq st.tabs (Bp st.tabs (Cu (Cd st.tabs) os)) q))=>dr.tell v W im)
              rw[ds] at ev
              have gh:(st.views.map (fun q=>Bl (Mo.Cc (Bp st.tabs (Cu (Cd st.tabs) os)) q++neg (Mo.Cc st.tabs q))))[i]? =some ag:=by rw[kX,ca];exact congrArg some ds
              have gi:=Ad (Tz _ i ag gh)
              obtain⟨vb,ew,_,rfl,-,-,io,-,gj⟩:=Mw ga er
              have c1:wr.cell? ⟨vb,ew+i,none⟩=some (.slice eo ep pr):=gj _ _ er
              obtain⟨ar,bo,_,rfl,gl,-,bb,a2,gm⟩:=Mw ck.o es
              have c2:wr.cell? ⟨ar,bo+i,none⟩=some (.slice ba af a1):=gm _ _ es;have gn:=Ad gl;have go:=Ad a2;clear ca en f8 gc ga gb cn et cb gd dr ds gh er es gj gm gl a2 f9;go_wp2_with fail
              go_region_held3 (fun w'=>w'.cell? ⟨y,0,none⟩=some (.slice na st.tabs.length z)∧w'.cell? ⟨y,1,none⟩=some (.slice (some ⟨vb,ew,none⟩) st.views.length cd)∧w'.cell? ⟨vb,ew+i,none⟩=some (.slice eo ep pr)) (go_keep)
               (first
                 |(go_at_call 92;refine (gf.o _ (Ab.refl No wr).drew).mono ?_;rintro e G ⟨ip,cc,gp,rfl,gq,H⟩;have B:Ab No wr G:=(Ab.refl No wr).drew.seq H;have iq:=(B.cell dp oI).trans cj;have a3:=(B.cell dp oI).trans dl;have a4:=(B.cell io oI).trans c1;have p:=Ad B;have dt:=Ad gq;have ir:=Ad gp;clear H B gq gp))
              obtain rfl:cc=q:=by have cp:=Pw q;rw[ir.o] at cp;injection cp
              obtain⟨ah,cq,bp,rfl⟩:∃a n c,ip=.slice a n c:=by obtain⟨a,gr,e,_⟩:=dt.o;exact⟨_,_,_,e⟩
              have Q:=(p.o.cell dp oI).trans ek;have ac:=(p.o.cell bb oI).trans c2;have gs:=kV dp p.o.size;have gu:=kV bb p.o.size
              have gv:=Ad (fun (W:World) (M:Ab No G W)=>ij.o.less (.slice ah cq bp) (.slice ba af a1) W (dt.o.Ah M) ((il.o.Ah p.o).Ah M) ((ik.o.up p.o.size).up M.size))
              clear iq a3 a4 cj dl ek c1 c2 gf
              by_cases du:i=0
              ·have it:¬(0:Int)<(i:Int):=by omega
               have ex:oH ((if i=0 then ([]:List UInt8) else [124])=[]):=if_pos du
               clear du;go_wp2_with fail;refine (gv.o _ (Ab.refl No G)).mono ?_;rintro e w3 ⟨cr,rfl,ct,P⟩;have ey:=Ad ct;have U:=Ad P;clear ct P;go_wp2_with fail;refine (ev.o _ _ ey.o).mono ?_;rintro e w4 ⟨rfl,cu⟩;have V:oH (Ab No G w4):=U.o.seq cu;have ai:=(V.o.cell gs oI).trans Q;have a5:=(V.o.cell gu oI).trans ac;have a6:=Aj (((p.o.seq V.o).block ar bb oI).trans go.o) (bo+i);clear cu Q ac
               have iu:(⟨T.toArray⟩:ByteArray).size=T.length:=by show T.toArray.size=_;simp
               have iv:(⟨ag.toArray⟩:ByteArray).size=ag.length:=by show ag.toArray.size=_;simp
               go_wp2_with fail;go_roundg k
               case measure=>omega
               case rel =>
                have cv:Ab (fun k=>k=ar) w4 (w4.setCell ⟨ar,bo+i,none⟩ (.slice ah cq bp)):=Cn (S:=fun k=>k=ar) (Ab.refl _ w4) (.inl rfl) _
                have cw:∀k,k=ar→Zb Z (.slice na st.tabs.length z) k:=fun k e=>cm k (by rw[e];rfl)
                refine⟨i+1,T++ag,cs.set i (.slice ah cq bp),by omega,by go_num,by rw[Gh],by simp;omega,?_,?_,?_,?_⟩
                ·refine Ad ?_
                 rw[gi.o,←dn.o,ex.o]
                 try simp
                ·have A:=Ak (Ak ck.o p.o (fun _ _ l=>l.elim)) V.o (fun _ _ l=>l.elim)
                 obtain rfl:bo=0:=gn.o
                 exact Ad (by rw[lK];exact Ve A _ _)
                ·have A:=(((cl.o.Br p.o (fun _ l=>l.elim)).Br V.o (fun _ l=>l.elim)).Br cv cw)
                 exact Ad (A.kG gg.o ((dt.o.Br V.o (fun _ l=>l.elim)).Br cv cw))
                ·exact Ad (Cn (d.o.seq (p.o.seq V.o).any) (.inl rfl) _)
              ·have it:(0:Int)<(i:Int):=by omega
               have ex:oH ((if i=0 then ([]:List UInt8) else [124])=[124]):=if_neg du
               clear du;go_wp2_with fail
               rw[Ln]
               refine (gv.o _ (Ab.refl No G)).mono ?_;rintro e w3 ⟨cr,rfl,ct,P⟩;have ey:=Ad ct;have U:=Ad P;clear ct P;go_wp2_with fail;refine (ev.o _ _ ey.o).mono ?_;rintro e w4 ⟨rfl,cu⟩;have V:oH (Ab No G w4):=U.o.seq cu;have ai:=(V.o.cell gs oI).trans Q;have a5:=(V.o.cell gu oI).trans ac;have a6:=Aj (((p.o.seq V.o).block ar bb oI).trans go.o) (bo+i);clear cu Q ac
               have iu:(⟨T.toArray⟩:ByteArray).size=T.length:=by show T.toArray.size=_;simp
               have iv:(⟨ag.toArray⟩:ByteArray).size=ag.length:=by show ag.toArray.size=_;simp
               go_wp2_with fail;go_roundg k
               case measure=>omega
               case rel =>
                have cv:Ab (fun k=>k=ar) w4 (w4.setCell ⟨ar,bo+i,none⟩ (.slice ah cq bp)):=Cn (S:=fun k=>k=ar) (Ab.refl _ w4) (.inl rfl) _
                have cw:∀k,k=ar→Zb Z (.slice na st.tabs.length z) k:=fun k e=>cm k (by rw[e];rfl)
                refine⟨i+1,T++([124]++ag),cs.set i (.slice ah cq bp),by omega,by go_num,by rw[Gh,nE],by simp;omega,?_,?_,?_,?_⟩
                ·refine Ad ?_
                 rw[gi.o,←dn.o,ex.o]
                 try simp
                ·have A:=Ak (Ak ck.o p.o (fun _ _ l=>l.elim)) V.o (fun _ _ l=>l.elim)
                 obtain rfl:bo=0:=gn.o
                 exact Ad (by rw[lK];exact Ve A _ _)
                ·have A:=(((cl.o.Br p.o (fun _ l=>l.elim)).Br V.o (fun _ l=>l.elim)).Br cv cw)
                 exact Ad (A.kG gg.o ((dt.o.Br V.o (fun _ l=>l.elim)).Br cv cw))
                ·exact Ad (Cn (d.o.seq (p.o.seq V.o).any) (.inl rfl) _)
          ·obtain⟨k,rfl⟩:∃k,gk=k+1:=⟨gk-1,by omega⟩
           have ab:(i:Int)<(st.tabs.length:Int):=by omega
           have dq:(0:Int)≤(i:Int):=by omega
           have js:i≤4:=by omega
           obtain⟨t,X⟩:∃t,st.tabs[i]? =some t:=⟨_,kT (by omega)⟩
           obtain⟨ba,af,a1,ez,e0,bq,cx⟩:=ed.o i { t with bag:=t.bag++(Cu (Cd st.tabs) os) i } (by unfold Bp;rw[lR,X];rfl)
           obtain⟨g,E,iw,rfl,dv,bb,bc,a2,cy⟩:=Mw hO.o bq
           have br:b6.cell? ⟨g,E+i*3+2,none⟩=some (.slice ba af a1):=cy _ _ bq;have a0:=FZ a7.o bj.o.1 bj.o.2 cg.o X O
           rw[lT (by have:=bk.o;omega)] at a0
           have gw:=(a7.o.Sm (kW X)).nn;have e2:=Ad (cH (b:=t.bag) (D:=(Cu (Cd st.tabs) os) i) gw)
           have gx:oH (Di (Ny st.tabs (Cu (Cd st.tabs) os)) 0=if Wn (Af t.bag,(Cu (Cd st.tabs) os) i)=true then Di ((Ny st.tabs (Cu (Cd st.tabs) os)).drop (i+1)) (R+(Nr (Af t.bag)+Nr ((Cu (Cd st.tabs) os) i))) else 7):=by
            show _=_
            rw[←ch.o,gA X];rfl
           have gy:oH (Nr (Af t.bag)+Nr ((Cu (Cd st.tabs) os) i)=Nr (Af (t.bag++(Cu (Cd st.tabs) os) i))):=by
            show _=_
            rw[Mq,Mq]
            unfold Nr
            rw[Mo.Gz]
           have gz:Dt (Zb Z (.slice (some ⟨g,E,none⟩) st.tabs.length z)) b6 (.slice ba af a1) (Af (t.bag++(Cu (Cd st.tabs) os) i)):=cx
           obtain⟨L,g0⟩:∃L,Af (t.bag++(Cu (Cd st.tabs) os) i)=L:=⟨_,rfl⟩
           rw[g0] at e2 gy a0 gz
           obtain⟨_,_,bs,ix,g1,g2⟩:=gz
           injection bs with e1 Q ac
           subst e1 ac
           obtain⟨m,co⟩:∃m,L.length=m:=⟨_,rfl⟩
           have g3:=Ad co
           rw[co] at Q ix
           subst Q
           have hn:a1≤9223372036854775807:=by have:=g1.1;unfold maxLen at this;omega
           have iy:=Ad g2;have iz:=Ad a0
           have jt:af≤400:=by have:=a0.2;omega
           have i0:g<wr.heap.size:=kV bc d.o.size;have g4:=(d.o.cell bc oI).trans br;clear a0 gw cx g0 g1 g2 ez e0 bq cy a2 ch co X dv;go_wp2_with fail
           go_loopg [15,17] af (fun k ee i1 wr=>∃(j:Nat) (aj:Int),j+k=af∧i1=.int .i64 (j:Int)∧ee=.int .i64 aj∧oH (aj=R+Nr (L.take j))∧oH (∀e∈L.take j,0≤e.2)∧(R-400*(j:Int)≤aj∧aj≤R+400*(j:Int))∧oH (Ab No b6 wr))
           case atStart=>exact⟨0,R,by omega,rfl,rfl,Ad (by simp[Nr,Mo.Ce]),Ad (fun e ao=>by simp at ao),by omega,d⟩
           case round =>
            clear g4 i0 d
            obtain⟨j,aj,_,rfl,rfl,cz,c0,_,d⟩:=hrel
            have g4:=(d.o.cell bc oI).trans br
            by_cases H:gk=0
            ·subst H
             have i2:¬(j:Int)<(af:Int):=by omega
             have i3:oH (Di ((Ny st.tabs (Cu (Cd st.tabs) os)).drop (i+1)) aj=Di (Ny st.tabs (Cu (Cd st.tabs) os)) 0):=by
              show _=_
              have A:=c0.o;have e3:=cz.o
              rw[lT (by have:=g3.o;omega)] at A e3
              rw[gx.o,if_pos (e2.o.2 A),e3,gy.o]
             have i4:oH (-(200000*((i:Int)+1))≤aj∧aj≤200000*((i:Int)+1)):=by show _∧_;omega
             clear c0 cz;go_wp2_with fail;go_roundg k
             case measure=>omega
             case rel=>exact⟨i+1,aj,by omega,by go_num,rfl,i3,by push_cast;exact i4.o,d⟩
            ·obtain⟨bp,rfl⟩:∃k,gk=k+1:=⟨gk-1,by omega⟩
             have i2:(j:Int)<(af:Int):=by omega
             have ju:(0:Int)≤(j:Int):=by omega
             obtain⟨e,bt⟩:∃e,L[j]? =some e:=⟨_,kT (by have:=g3.o;omega)⟩
             obtain⟨_,_,_,hp,_,rfl,i5,-,N,-⟩:=iy.o j e bt
             have i6:=(iz.o.1 e (kW bt)).2;have i7:=(d.o.cell i5 oI).trans N
             obtain⟨g5,bd⟩:=e
             simp only at i6 i7
             by_cases jv:bd<0
             ·have I:oH (G6 st s=(([],7),st)):=by
               show _=_
               have A:Di (Ny st.tabs (Cu (Cd st.tabs) os)) 0=7:=by
                rw[gx.o,if_neg]
                intro df
                have:=e2.o.1 df (g5,bd) (kW bt)
                simp only at this
                omega
               rw[eb.o,A,if_pos (by decide)]
              clear c0 cz bt N;go_wp2_with fail;go_ret2
              refine⟨?_,by rw[I.o];exact b3.o.same (am.o.seq (dj.o.seq d.o))⟩
              rw[I.o];rfl
             ·have i8:oH (aj+bd=R+Nr (L.take (j+1))):=by
               show _=_
               rw[cz.o,lL,bt]
               unfold Nr
               rw[Mo.Gz]
               simp[Mo.Ce]
               omega
              have i9:oH (∀e∈L.take (j+1),0≤e.2):=fun e ao=>by
               rw[lL,bt] at ao
               rcases lC.1 ao with ao|ao
               ·exact c0.o e ao
               ·have:e=(g5,bd):=by simpa using ao
                rw[this];show 0≤bd;omega
              have jw:oH (IntKind.i64.wrap (aj+bd)=aj+bd):=IntWalk.i64_in _ (by omega)
              clear c0 cz bt N;go_wp2_with fail;go_roundg bp
              case measure=>omega
              case rel=>exact⟨j+1,aj+bd,by omega,by go_num,rfl,i8,i9,by push_cast;omega,d⟩
        ·obtain⟨k,rfl⟩:∃k,gk=k+1:=⟨gk-1,by omega⟩
         have ab:(i:Int)<(O:Int):=by omega
         have dq:(0:Int)≤(i:Int):=by omega
         obtain⟨o,ak⟩:∃o,os[i]? =some o:=⟨_,kT (by have:=bk.o;omega)⟩
         obtain⟨_,_,bs,_,_,be⟩:=hy.o
         injection bs with e1 Q ac
         subst e1
         obtain⟨b,f,au,av,aw,rfl,dw,bf,g6,g7,g8⟩:=be i o ak
         have cc:=(d.o.cell dw oI).trans bf;have N:=(d.o.cell dw oI).trans g6;have ax:=(d.o.cell dw oI).trans g7;have c3:=g8.Ah d.o;have C:b<wr.heap.size:=kV dw d.o.size;clear bf g6 g7 g8;have dx:=kW ak
         obtain⟨x,t,ad,al⟩:=T8.1 (dg.o o dx)
         have g9:o.row.map ty=t.ts:=by
          have A:=lO.1 cg.o o dx
          rw[FY ad al] at A
          exact of_decide_eq_true A
         have cn:Lj (Zb Z (.slice na st.tabs.length z)) wr (.slice na st.tabs.length z) ((Uw st.tabs os i).map Ku):=Pc (base:=aq.heap.size) (by rw[FX];exact hO.o) b5.o
         have ap:=Ad (fun W (M:Ab No wr W)=>Ig _ _ o.name W (cn.Ah M) (by rw[lB,FX];omega))
         rw[YA,ad] at ap
         obtain⟨ba,af,a1,ez,e0,bq,cx⟩:=b5.o x { t with bag:=t.bag++Cu (Cd st.tabs) (os.take i) x } (by rw[Pd,al];rfl)
         have cb:Ga (Zb Z (.slice na st.tabs.length z)) wr:=fun k l=>l.elim (fun l=>kV (d2.o k l) (am.o.seq d.o).size) fun l=>I4 hO.o k l
         have a0:=FZ a7.o bj.o.1 bj.o.2 cg.o al i;have dy:=bj.o.1 o dx;have e4:=(a7.o.each t (kW al)).len
         have dz:=Ad (fun W (M:Ab No wr W)=>U8 (Z:=Zb Z (.slice na st.tabs.length z)) (.slice ba af a1) (.slice au av aw) (Af (t.bag++Cu (Cd st.tabs) (os.take i) x)) o.row o.t t.ts W (cx.Ah M) (c3.Ah M) g9 (fun e ao=>(a0.1 e ao).1) (by omega) (by have:=a0.2;omega) (by rcases dy.t with A|A <;> rw[A] <;> decide) (fun e ao=>by have:=(a0.1 e ao).2;omega) (Mo.Aq _) (cb.up M.size))
         obtain⟨g,E,iw,rfl,dv,bb,bc,a2,cy⟩:=Mw hO.o bq
         have br:wr.cell? ⟨g,E+x*3+2,none⟩=some (.slice ba af a1):=cy _ _ bq;have bg:=Ad ak;have ha:=Ad ad;have hb:=Ad al;have hc:=Ad dv
         have hd:b≠g:=by omega
         have ja:(x:Int)<(st.tabs.length:Int):=by have:=(kS.1 al).1;omega
         have jb:(0:Int)≤(x:Int):=by omega
         clear be Q ac ak dx ad al g9 cn ez e0 bq cx cb a0 e4 c3 cy dv
         rcases dy.t with X|X
         ·have bf:wr.cell? ⟨b,f+i*3,none⟩=some (.bool true):=by rw[cc,X];rfl
          have HAdd:=dz
          rw[X] at HAdd
          have e5:=Ad X;clear cc dz dy X;go_wp2_with fail;refine (ap.o _ (Ab.refl No wr)).mono ?_;rintro e G ⟨rfl,H⟩;have p:=Ad H;clear H;have e6:=(p.o.cell C oI).trans bf;have ah:=(p.o.cell C oI).trans ax;have c4:=(p.o.cell bc oI).trans br;have bu:=(p.o.block g bc oI).trans a2;have e7:=Ad bu;have c5:g<G.heap.size:=Aa bu;have e8:b<G.heap.size:=kV C p.o.size;clear N bf ax br a2 bu;go_wp2_with fail;have e9:=d;clear d
          refine wp_region_held_drew (S:=fun w'=>w'.cell? ⟨b,f+i*3+2,none⟩=some (.slice au av aw)) (by kernel_rfl) ah (fun u=>?_)
          refine Bo 0 (.slice (some ⟨g,E,none⟩) st.tabs.length z) u ?_
          try simp only[Act.put,B6,B7,B8,B9,Ca,Cb]
          refine Bo 1 (.int .i64 (x:Int)) u ?_
          try simp only[Act.put,B6,B7,B8,B9,Ca,Cb]
          refine Bo 2 (.slice (some ⟨g,E,none⟩) st.tabs.length z) u ?_
          try simp only[Act.put,B6,B7,B8,B9,Ca,Cb]
          refine Bo 3 (.int .i64 (x:Int)) u ?_
          try simp only[Act.put,B6,B7,B8,B9,Ca,Cb]
          refine Bo 4 (.pointer (some ⟨g,E+x*3,none⟩)) u ?_
          try simp only[Act.put,B6,B7,B8,B9,Ca,Cb]
          refine Bo 5 (.pointer (some ⟨g,E+x*3+2,none⟩)) u ?_
          try simp only[Act.put,B6,B7,B8,B9,Ca,Cb]
          refine Bo 7 (.slice (some ⟨b,f,none⟩) O dc) u ?_
          try simp only[Act.put,B6,B7,B8,B9,Ca,Cb]
          refine Bo 8 (.int .i64 (i:Int)) u ?_
          try simp only[Act.put,B6,B7,B8,B9,Ca,Cb]
          refine Bo 9 (.pointer (some ⟨b,f+i*3,none⟩)) u ?_
          try simp only[Act.put,B6,B7,B8,B9,Ca,Cb]
          refine Bo 10 (.pointer (some ⟨b,f+i*3+2,none⟩)) u ?_
          try simp only[Act.put,B6,B7,B8,B9,Ca,Cb]
          refine AC 11 (.slice au av aw) 211 (.tmp 114) (b) (f+i*3+2) (fun w h=>h) u ?_
          try simp only[Act.put,B6,B7,B8,B9,Ca,Cb]
          refine Bo 12 (.int .i64 1) u ?_
          try simp only[Act.put,B6,B7,B8,B9,Ca,Cb]
          refine Kf 6 (fun K d=>?_)
          go_simp
          refine d.out _ _ u (fun u=>?_)
          clear d K
          try simp only[Act.put,B6,B7,B8,B9,Ca,Cb]
          refine Kf 13 (fun K d=>?_)
          go_simp;refine (HAdd.o _ (p.o.drew)).mono ?_;rintro e w3 ⟨cr,rfl,bw,P⟩
          obtain⟨bx,bz,b0,rfl⟩:∃a n c,cr=.slice a n c:=by obtain⟨a,gr,e,_⟩:=bw;exact⟨_,_,_,e⟩
          have F:Ab No G w3:=(Ab.refl No G).drew.seq P;have ai:=(F.cell e8 oI).trans ah;have a5:=(F.cell c5 oI).trans c4;have a6:=Aj ((F.block g c5 oI).trans e7.o) (E+x*3+2)
          have c6:∀v,(w3.setCell ⟨g,E+x*3+2,none⟩ v).cell? ⟨b,f+i*3+2,none⟩=some (.slice au av aw):=fun v=>(World.cell?_setCell_other _ _ _ _ (by simp[hd])).trans ai
          have U:=Ad F;have fa:=Ad bw;clear P F bw
          refine d.out _ _ ai (fun u=>?_)
          clear d K
          try simp only[Act.put,B6,B7,B8,B9,Ca,Cb]
          refine Bo 14 (.pointer (some ⟨g,E+x*3,none⟩)) u ?_
          try simp only[Act.put,B6,B7,B8,B9,Ca,Cb]
          refine Bo 15 (.pointer (some ⟨g,E+x*3+2,none⟩)) u ?_
          try simp only[Act.put,B6,B7,B8,B9,Ca,Cb]
          refine Kf 16 (fun K d=>?_)
          go_simp
          refine d.out _ _ (c6 _) (fun u=>?_)
          clear d K u c6 ai a5 a6 e6 ah c4
          refine wpAnyH_done (by kernel_rfl) ?_ _
          try simp only[Act.put,B6,B7,B8,B9,Ca,Cb]
          go_wp2_with fail;go_roundg k
          case measure=>omega
          case rel =>
           refine⟨i+1,bn.set (x*3+2) (.slice bx bz b0),by omega,by go_num,?_,?_,?_⟩
           ·have A:=Ak (Ak hO.o p.o (fun _ _ l=>l.elim)) U.o (fun _ _ l=>l.elim)
            obtain rfl:E=0:=hc.o
            exact Ad (by rw[lK];exact Ve A _ _)
           ·have A:=((b5.o.Br p.o (fun _ l=>l.elim)).Br U.o (fun _ l=>l.elim)).Br (S:=fun k=>k=g) (Cn (S:=fun k=>k=g) (Ab.refl _ w3) (.inl rfl) (o:=E+x*3+2) (.slice bx bz b0)) (fun k e=>.inr (by rw[e];rfl))
            refine Ad (A.now bg.o ha.o hb.o ?_)
            rw[e5.o]
            exact fa.o.Br (S:=fun k=>k=g) (Cn (S:=fun k=>k=g) (Ab.refl _ w3) (.inl rfl) (o:=E+x*3+2) (.slice bx bz b0)) (fun k e=>.inr (by rw[e];rfl))
           ·exact Ad (Cn (e9.o.seq (p.o.seq U.o)) (.inr bb) _)
         ·have bf:wr.cell? ⟨b,f+i*3,none⟩=some (.bool false):=by rw[cc,X];rfl
          have HAdd:=dz
          rw[X] at HAdd
          have e5:=Ad X;clear cc dz dy X;go_wp2_with fail;refine (ap.o _ (Ab.refl No wr)).mono ?_;rintro e G ⟨rfl,H⟩;have p:=Ad H;clear H;have e6:=(p.o.cell C oI).trans bf;have ah:=(p.o.cell C oI).trans ax;have c4:=(p.o.cell bc oI).trans br;have bu:=(p.o.block g bc oI).trans a2;have e7:=Ad bu;have c5:g<G.heap.size:=Aa bu;have e8:b<G.heap.size:=kV C p.o.size;clear N bf ax br a2 bu;go_wp2_with fail;have e9:=d;clear d
          refine wp_region_held_drew (S:=fun w'=>w'.cell? ⟨b,f+i*3+2,none⟩=some (.slice au av aw)) (by kernel_rfl) ah (fun u=>?_)
          refine Bo 0 (.slice (some ⟨g,E,none⟩) st.tabs.length z) u ?_
          try simp only[Act.put,B6,B7,B8,B9,Ca,Cb]
          refine Bo 1 (.int .i64 (x:Int)) u ?_
          try simp only[Act.put,B6,B7,B8,B9,Ca,Cb]
          refine Bo 2 (.slice (some ⟨g,E,none⟩) st.tabs.length z) u ?_
          try simp only[Act.put,B6,B7,B8,B9,Ca,Cb]
          refine Bo 3 (.int .i64 (x:Int)) u ?_
          try simp only[Act.put,B6,B7,B8,B9,Ca,Cb]
          refine Bo 4 (.pointer (some ⟨g,E+x*3,none⟩)) u ?_
          try simp only[Act.put,B6,B7,B8,B9,Ca,Cb]
          refine Bo 5 (.pointer (some ⟨g,E+x*3+2,none⟩)) u ?_
          try simp only[Act.put,B6,B7,B8,B9,Ca,Cb]
          refine Bo 7 (.slice (some ⟨b,f,none⟩) O dc) u ?_
          try simp only[Act.put,B6,B7,B8,B9,Ca,Cb]
          refine Bo 8 (.int .i64 (i:Int)) u ?_
          try simp only[Act.put,B6,B7,B8,B9,Ca,Cb]
          refine Bo 9 (.pointer (some ⟨b,f+i*3,none⟩)) u ?_
          try simp only[Act.put,B6,B7,B8,B9,Ca,Cb]
          refine Bo 10 (.pointer (some ⟨b,f+i*3+2,none⟩)) u ?_
          try simp only[Act.put,B6,B7,B8,B9,Ca,Cb]
          refine AC 11 (.slice au av aw) 211 (.tmp 114) (b) (f+i*3+2) (fun w h=>h) u ?_
          try simp only[Act.put,B6,B7,B8,B9,Ca,Cb]
          refine Bo 12 (.int .i64 (-1)) u ?_
          try simp only[Act.put,B6,B7,B8,B9,Ca,Cb]
          refine Kf 6 (fun K d=>?_)
          go_simp
          refine d.out _ _ u (fun u=>?_)
          clear d K
          try simp only[Act.put,B6,B7,B8,B9,Ca,Cb]
          refine Kf 13 (fun K d=>?_)
          go_simp;refine (HAdd.o _ (p.o.drew)).mono ?_;rintro e w3 ⟨cr,rfl,bw,P⟩
          obtain⟨bx,bz,b0,rfl⟩:∃a n c,cr=.slice a n c:=by obtain⟨a,gr,e,_⟩:=bw;exact⟨_,_,_,e⟩
          have F:Ab No G w3:=(Ab.refl No G).drew.seq P;have ai:=(F.cell e8 oI).trans ah;have a5:=(F.cell c5 oI).trans c4;have a6:=Aj ((F.block g c5 oI).trans e7.o) (E+x*3+2)
          have c6:∀v,(w3.setCell ⟨g,E+x*3+2,none⟩ v).cell? ⟨b,f+i*3+2,none⟩=some (.slice au av aw):=fun v=>(World.cell?_setCell_other _ _ _ _ (by simp[hd])).trans ai
          have U:=Ad F;have fa:=Ad bw;clear P F bw
          refine d.out _ _ ai (fun u=>?_)
          clear d K
          try simp only[Act.put,B6,B7,B8,B9,Ca,Cb]
          refine Bo 14 (.pointer (some ⟨g,E+x*3,none⟩)) u ?_
          try simp only[Act.put,B6,B7,B8,B9,Ca,Cb]
          refine Bo 15 (.pointer (some ⟨g,E+x*3+2,none⟩)) u ?_
          try simp only[Act.put,B6,B7,B8,B9,Ca,Cb]
          refine Kf 16 (fun K d=>?_)
          go_simp
          refine d.out _ _ (c6 _) (fun u=>?_)
          clear d K u c6 ai a5 a6 e6 ah c4
          refine wpAnyH_done (by kernel_rfl) ?_ _
          try simp only[Act.put,B6,B7,B8,B9,Ca,Cb]
          go_wp2_with fail;go_roundg k
          case measure=>omega
          case rel =>
           refine⟨i+1,bn.set (x*3+2) (.slice bx bz b0),by omega,by go_num,?_,?_,?_⟩
           ·have A:=Ak (Ak hO.o p.o (fun _ _ l=>l.elim)) U.o (fun _ _ l=>l.elim)
            obtain rfl:E=0:=hc.o
            exact Ad (by rw[lK];exact Ve A _ _)
           ·have A:=((b5.o.Br p.o (fun _ l=>l.elim)).Br U.o (fun _ l=>l.elim)).Br (S:=fun k=>k=g) (Cn (S:=fun k=>k=g) (Ab.refl _ w3) (.inl rfl) (o:=E+x*3+2) (.slice bx bz b0)) (fun k e=>.inr (by rw[e];rfl))
            refine Ad (A.now bg.o ha.o hb.o ?_)
            rw[e5.o]
            exact fa.o.Br (S:=fun k=>k=g) (Cn (S:=fun k=>k=g) (Ab.refl _ w3) (.inl rfl) (o:=E+x*3+2) (.slice bx bz b0)) (fun k e=>.inr (by rw[e];rfl))
           ·exact Ad (Cn (e9.o.seq (p.o.seq U.o)) (.inr bb) _)
      ·obtain⟨k,rfl⟩:∃k,gk=k+1:=⟨gk-1,by omega⟩
       have ab:(i:Int)<(O:Int):=by omega
       have dq:(0:Int)≤(i:Int):=by omega
       obtain⟨o,ak⟩:∃o,os[i]? =some o:=⟨_,kT (by have:=bk.o;omega)⟩
       obtain⟨_,_,bs,_,_,be⟩:=d8.o.Ah d.o
       injection bs with e1 Q ac
       subst e1
       obtain⟨b,f,au,av,aw,rfl,C,-,N,ax,c3⟩:=be i o ak
       obtain⟨x,t,ad,al⟩:=T8.1 (dg.o o (kW ak))
       have ap:=Ad (fun W (M:Ab No wr W)=>Ig _ _ o.name W ((d6.o.Ah d.o).Ah M) (by rw[lB];omega))
       rw[Vd,ad] at ap
       obtain⟨_,_,jc,_,_,he⟩:=d6.o.Ah d.o
       injection jc with jd je jf
       subst jd
       obtain⟨tb,c7,_,_,_,rfl,d0,-,hf,-,-⟩:=he x (Ku t) (by rw[kX,al];rfl)
       have b1:wr.cell? ⟨tb,c7+x*3+1,none⟩=some (.string ⟨(Ht t.ts).toArray⟩):=hf;have e4:=(a7.o.each t (kW al)).len
       have c8:=Ad (fun W (M:Ab No wr W)=>WM _ o.row t.ts W (c3.Ah M) (by omega))
       have bg:=Ad ak;have hh:=Ad (FY ad al);have b2:y<wr.heap.size:=kV cf d.o.size
       have ja:(x:Int)<(st.tabs.length:Int):=by have:=(kS.1 al).1;omega
       have jb:(0:Int)≤(x:Int):=by omega
       obtain⟨d1,hi⟩:∃d1:ByteArray,d1=⟨(Ht t.ts).toArray⟩:=⟨_,rfl⟩
       rw[←hi] at c8 b1
       clear be Q ac ak he je jf hf c3 e4 ad al hi
       by_cases aa:o.row.map ty=t.ts
       ·rw[decide_eq_true aa] at c8
        have fb:oH (∀j o,j<i+1→os[j]? =some o→Gc (Cd st.tabs) o=true):=fun j fc bm ay=>by
         by_cases fd:j=i
         ·subst fd
          rw[bg.o] at ay
          injection ay with ay
          rw[←ay,hh.o];exact decide_eq_true aa
         ·exact bl.o j fc (by omega) ay
        clear aa;go_wp2_with fail
        go_region_held3 (fun w'=>w'.cell? ⟨b,f+i*3+1,none⟩=some (.string ⟨o.name.toArray⟩)∧w'.cell? ⟨b,f+i*3+2,none⟩=some (.slice au av aw)∧w'.cell? ⟨y,0,none⟩=some (.slice (some ⟨tb,c7,none⟩) st.tabs.length bh)∧w'.cell? ⟨tb,c7+x*3+1,none⟩=some (.string d1)) (go_keep)
         (first
           |(go_at_call 95;refine (c8.o _ p.o).mono ?_;rintro e w3 ⟨rfl,P⟩;have F:Ab No wr w3:=p.o.seq P;have ai:=(F.cell C oI).trans N;have a5:=(F.cell C oI).trans ax;have a6:=(F.cell b2 oI).trans ae;have fe:=(F.cell d0 oI).trans b1;have U:=Ad F;clear P F)
           |(go_at_call 89;refine (ap.o _ (Ab.refl No wr).drew).mono ?_;rintro e G ⟨rfl,H⟩;have B:Ab No wr G:=(Ab.refl No wr).drew.seq H;have a3:=(B.cell C oI).trans N;have a4:=(B.cell C oI).trans ax;have ff:=(B.cell b2 oI).trans ae;have fg:=(B.cell d0 oI).trans b1;have p:=Ad B;clear H B))
        clear ai a5 a6 fe a3 a4 ff fg N ax ae b1;go_wp2_with fail;go_roundg k
        case measure=>omega
        case rel=>exact⟨i+1,by omega,by go_num,fb,Ad (d.o.seq U.o)⟩
       ·rw[decide_eq_false aa] at c8
        have I:oH (G6 st s=(([],6),st)):=by
         show _=_
         have jg:Jm (Cd st.tabs) os=6:=by
          unfold Jm
          rw[if_neg (by rw[lO.2 dg.o];simp),if_pos]
          rw[nY]
          exact⟨o,kW bg.o,by rw[hh.o];simpa using aa⟩
         unfold G6
         rw[if_neg db.o,ea.o]
         simp only
         rw[jg,if_pos (by decide)]
        clear aa;go_wp2_with fail
        go_region_held3 (fun w'=>w'.cell? ⟨b,f+i*3+1,none⟩=some (.string ⟨o.name.toArray⟩)∧w'.cell? ⟨b,f+i*3+2,none⟩=some (.slice au av aw)∧w'.cell? ⟨y,0,none⟩=some (.slice (some ⟨tb,c7,none⟩) st.tabs.length bh)∧w'.cell? ⟨tb,c7+x*3+1,none⟩=some (.string d1)) (go_keep)
         (first
           |(go_at_call 95;refine (c8.o _ p.o).mono ?_;rintro e w3 ⟨rfl,P⟩;have F:Ab No wr w3:=p.o.seq P;have ai:=(F.cell C oI).trans N;have a5:=(F.cell C oI).trans ax;have a6:=(F.cell b2 oI).trans ae;have fe:=(F.cell d0 oI).trans b1;have U:=Ad F;clear P F)
           |(go_at_call 89;refine (ap.o _ (Ab.refl No wr).drew).mono ?_;rintro e G ⟨rfl,H⟩;have B:Ab No wr G:=(Ab.refl No wr).drew.seq H;have a3:=(B.cell C oI).trans N;have a4:=(B.cell C oI).trans ax;have ff:=(B.cell b2 oI).trans ae;have fg:=(B.cell d0 oI).trans b1;have p:=Ad B;clear H B))
        clear ai a5 a6 fe a3 a4 ff fg N ax ae b1;go_wp2_with fail;go_ret2
        refine⟨?_,by rw[I.o];exact b3.o.same (am.o.seq (d.o.seq U.o))⟩
        rw[I.o];rfl
    ·obtain⟨k,rfl⟩:∃k,gk=k+1:=⟨gk-1,by omega⟩
     have ab:(i:Int)<(O:Int):=by omega
     have dq:(0:Int)≤(i:Int):=by omega
     obtain⟨o,ak⟩:∃o,os[i]? =some o:=⟨_,kT (by have:=bk.o;omega)⟩
     obtain⟨_,_,bs,_,_,be⟩:=d8.o.Ah d.o
     injection bs with e1 Q ac
     subst e1
     obtain⟨b,f,au,av,aw,rfl,C,-,N,-,-⟩:=be i o ak
     have ap:=Ad (fun W (M:Ab No wr W)=>Ig _ _ o.name W ((d6.o.Ah d.o).Ah M) (by rw[lB];omega))
     have bg:=Ad ak;have b2:y<wr.heap.size:=kV cf d.o.size;clear be Q ac ak
     by_cases aa:Ep (Cd st.tabs) o=true
     ·obtain⟨x,t,ad,_⟩:=T8.1 aa
      rw[Vd,ad] at ap
      have fb:oH (∀j o,j<i+1→os[j]? =some o→Ep (Cd st.tabs) o=true):=fun j fc bm ay=>by
       by_cases fd:j=i
       ·subst fd
        rw[bg.o] at ay
        injection ay with ay
        rw[←ay];exact aa
       ·exact bl.o j fc (by omega) ay
      have jh:¬(x:Int)<0:=by omega
      clear aa ad;go_wp2_with fail
      go_region_held3 (fun w'=>w'.cell? ⟨b,f+i*3+1,none⟩=some (.string ⟨o.name.toArray⟩)∧w'.cell? ⟨y,0,none⟩=some (.slice c9 st.tabs.length bh)) (go_keep)
       (first
         |(go_at_call 89;refine (ap.o _ (Ab.refl No wr).drew).mono ?_;rintro e G ⟨rfl,H⟩;have B:Ab No wr G:=(Ab.refl No wr).drew.seq H;have a3:=(B.cell C oI).trans N;have a4:=(B.cell b2 oI).trans ae;have p:=Ad B;clear H B))
      clear a3 a4 N ae;go_wp2_with fail;go_roundg k
      case measure=>omega
      case rel=>exact⟨i+1,by omega,by go_num,fb,Ad (d.o.seq p.o)⟩
     ·have ji:Ep (Cd st.tabs) o=false:=by simpa using aa
      have ad:Zh (st.tabs.map Ku) o.name= -1:=by
       rw[Vd]
       unfold Ep at aa
       rw[decide_eq_true_iff] at aa
       have A:=Mi ((Cd st.tabs).map fun t=>(t.blk,t.name)) o.name
       have e3:Rk (Cd st.tabs) o.name=Bh ((Cd st.tabs).map fun t=>(t.blk,t.name)) o.name:=rfl
       omega
      rw[ad] at ap
      have I:oH (G6 st s=(([],5),st)):=by
       show _=_
       have jj:Jm (Cd st.tabs) os=5:=by
        unfold Jm
        rw[if_pos]
        rw[nY]
        exact⟨o,kW bg.o,aa⟩
       unfold G6
       rw[if_neg db.o,ea.o]
       simp only
       rw[jj,if_pos (by decide)]
      clear aa ji ad
      have jh:(-1:Int)<0:=by decide
      go_wp2_with fail
      go_region_held3 (fun w'=>w'.cell? ⟨b,f+i*3+1,none⟩=some (.string ⟨o.name.toArray⟩)∧w'.cell? ⟨y,0,none⟩=some (.slice c9 st.tabs.length bh)) (go_keep)
       (first
         |(go_at_call 89;refine (ap.o _ (Ab.refl No wr).drew).mono ?_;rintro e G ⟨rfl,H⟩;have B:Ab No wr G:=(Ab.refl No wr).drew.seq H;have a3:=(B.cell C oI).trans N;have a4:=(B.cell b2 oI).trans ae;have p:=Ad B;clear H B))
      clear a3 a4 N ae;go_wp2_with fail;go_ret2
      refine⟨?_,by rw[I.o];exact b3.o.same (am.o.seq (d.o.seq p.o))⟩
      rw[I.o];rfl
end Go.Proofs.YtdinjjmcmfjbfaaGreatDoor
