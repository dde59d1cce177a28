import Derived.Test.YtdinjjmcmfjbfaaGreatDoorYbJ
set_option maxRecDepth 100000
set_option maxHeartbeats 4000000
namespace Go.Proofs.YtdinjjmcmfjbfaaGreatDoor
open Go.RowKit Mo Pl Tryz
set_option linter.unusedSimpArgs false
variable {Z:Nat→Prop}
theorem ZD {w:World}{Y:Nat→Prop}{y:Nat}{st:Ses}(h:Lb Z w Y y st)(hg:B4 st.tabs)(hv:∀q∈st.views,VG st.tabs q)(_:st.views.length≤6)(s:ByteArray) :
 Calls prog 56 #[pV y,.string s] w fun e w'=>e=.returned (oU (Ii st s).1)∧U3 Z w Y y (Ii st s).2 w':=by
 have bz:=Ae h;have a3:=Ae hg;have ff:=Ae hv;obtain⟨tv,vv,bv,tcs,vcs,bvs,av,fg⟩:=h;have J:=Ae av;have hh:=Ae fg;have hi:=Aa av.obj;have hj:=Ae av.obj;obtain⟨va,b9,rfl,_,fh⟩:=Lk av.vow;obtain⟨ca,b0,rfl,_,fi⟩:=Lk av.bow;obtain⟨c5,bd,rfl,_,fj⟩:=Lk av.tow;have hk:=Ae (Rm av.tow av.tcs);have ji:st.tabs.length≤4:=hg.few;have dy:=Ae av.old;have jj:=Bn fj
 have jk:=Bn fh
 have hl:=Bn fi
 unfold pV oU PK;clear av fg hg hv fj fh fi;by_cases c6:300<s.size
 ·have aa:(300:Int)<(s.size:Int):=by omega
  have I:xR (Ii st s=(([],1),st)):=by show _=_;unfold Ii;rw[if_pos c6]
  clear c6;go_enter func56,ntmps56;go_wp21;go_ret2;refine⟨?_,by rw[I.o];exact bz.o.same (Ab.refl _ _)⟩;rw[I.o];rfl
 have fk:s.size≤300:=by omega
 have aa:¬(300:Int)<(s.size:Int):=by omega
 have c7:=Ae c6;clear c6;go_enter func56,ntmps56;go_wp21;go_call YG s _ fk as hm w1 ⟨hn,O,c8,ok,rfl,⟨dz,d0⟩,c9⟩;have ak:=Ae c9;have da:=(c9.block y hi xT).trans hj.o;have d1:C3 w1 y 0 (.slice c5 st.tabs.length bd):=(Af da 0).trans rfl;have cb:y<w1.heap.size:=Aa da;have hp:=Ae da;have d2:=Ae (hk.o.Ag c9);clear c9 da aa;cases be:Da s with
 |none =>
  obtain rfl:=dz be;have I:xR (Ii st s=(([],2),st)):=by show _=_;unfold Ii;rw[if_neg c7.o,be]
  clear dz d0 be d1;go_wp21;go_ret2;refine⟨?_,by rw[I.o];exact bz.o.same ak.o⟩;rw[I.o];rfl
 |some os =>
  obtain⟨rfl,db⟩:=d0 os be;have d3:=db Z dy.o;have d4:=Ae d3;have bf:=Ae (Uu fk be);obtain⟨_,_,hq,hr,fl,-⟩:=id d3;injection hq with e1 e2 e3;subst e1 e3;obtain⟨n0,d5⟩:∃n,os.length=n:=⟨_,rfl⟩;have bg:=Ae d5;rw[d5] at e2 hr;subst e2;have jl:=Bn fl
  have jm:O≤301:=by have:=bf.o.2;omega
  have d6:=Ae be;clear dz d0 be d3 db fl d5;go_wp21;go_loopg [8] O (fun k hs wr=>∃i:Nat,i+k=O∧hs=.int .i64 (i:Int)∧xR (∀j o,j<i→os[j]? =some o→Fh (Cy st.tabs) o=true)∧xR (Ab No w1 wr))
  case atStart=>exact⟨0,by omega,rfl,Ae (fun j o h=>by omega),Ae (Ab.refl _ _)⟩
  obtain⟨i,a4,rfl,bh,d⟩:=hrel;have ac:=(d.o.cell cb xT).trans d1;by_cases al:gk=0
  ·subst al;have aa:¬(i:Int)<(O:Int):=(by omega);have dc:xR (∀o∈os,Fh (Cy st.tabs) o=true):=fun o ho=>(by obtain⟨j,bi⟩:=uY ho;exact bh.o j o (by have:=(tR.1 bi).1;have:=bg.o;omega) bi);clear bh;go_wp21;go_loopg [9] O (fun k ht wr=>∃i:Nat,i+k=O∧ht=.int .i64 (i:Int)∧xR (∀j o,j<i→os[j]? =some o→Hm (Cy st.tabs) o=true)∧xR (Ab No w1 wr))
   case atStart=>exact⟨0,by omega,rfl,Ae (fun j o h=>by omega),d⟩
   clear d ac a4 aa;obtain⟨i,a4,rfl,bh,d⟩:=hrel;have ac:=(d.o.cell cb xT).trans d1;by_cases al:gk=0
   ·subst al;have aa:¬(i:Int)<(O:Int):=(by omega);have cc:xR (os.all (Hm (Cy st.tabs))=true):=uR.2 fun o ho=>(by obtain⟨j,bi⟩:=uY ho;exact bh.o j o (by have:=(tR.1 bi).1;have:=bg.o;omega) bi);have d7:xR (Ii st s=if D9 (Qf st.tabs (Dn (Cy st.tabs) os)) 0≠0 then (([],D9 (Qf st.tabs (Dn (Cy st.tabs) os)) 0),st) else ((Sd (st.views.map fun q=>B8 (Cl (Cb st.tabs (Dn (Cy st.tabs) os)) q++neg (Cl st.tabs q))),0),⟨Cb st.tabs (Dn (Cy st.tabs) os),st.views⟩)):=(by show _=_;have hu:Ky (Cy st.tabs) os=0:=(by unfold Ky;rw[if_neg (by rw[uR.2 dc.o];simp),if_neg (by rw[cc.o];simp)]);unfold Ii;rw[if_neg c7.o,d6.o];simp only;rw[hu,if_neg (by decide)]);clear bh;have fm:=Ae (A4 J.o.tow (ak.o.seq d.o) (fun _ _ l=>l.elim));have fn:=Ae (lK J.o.tcs J.o.tow.1);go_wp2_with (first
     |(at_builtin;refine qB rfl _ _ rfl rfl _ _ _ rfl fm.o fn.o (by omega) ?_;intro jn w5 fo fp;have fq:=Ae fp;have dd:=Ae fo;clear fo fp)
     |fail)
    obtain⟨na,z,rfl,_,fr⟩:=Lk dd.o;have jo:=Bn fr;have d8:xR (Ab No w1 w5):=d.o.grown fq.o (fun r e=>by cases e);have de:xR (∀k,Value.ownBlock (.slice na st.tabs.length z)=some k→w1.heap.size≤k):=fun k e=>uJ d.o.size (Bk dd.o k e);have hw:xR (U2 (Zb Z (.slice na st.tabs.length z)) w1 (.slice hn O c8) os):=d4.o.Ni (fun k al l=>l.elim id fun l=>by have:=de.o k l;omega);have fs:xR (DE (Zb Z (.slice na st.tabs.length z)) w5 tcs (Ws st.tabs os 0)):=(by show DE _ _ _ _;rw[YW];exact (J.o.tcs.Ni (fun k al l=>l.elim id fun l=>by have:=de.o k l;have:=ak.o.size;omega)).Cc (ak.o.seq d8.o) (fun _ l=>l.elim));have ft:=Ae (DF dd.o d.o.size);clear fr ac d a4 aa dd fq fm fn;go_loopg [12] O (fun k hx wr=>∃(i:Nat) (bj:List Value),i+k=O∧hx=.int .i64 (i:Int)∧xR (wr.ownsRow w1.heap.size 197 3 (.slice na st.tabs.length z) st.tabs.length bj)∧xR (DE (Zb Z (.slice na st.tabs.length z)) wr bj (Ws st.tabs os i))∧xR (Ab No w1 wr))
    case atStart=>exact⟨0,tcs,by omega,rfl,ft,fs,d8⟩
    clear ft fs d8;obtain⟨i,bj,a4,rfl,hO,b1,d⟩:=hrel;by_cases al:gk=0
    ·subst al;have aa:¬(i:Int)<(O:Int):=(by omega);have d9:xR (DE (Zb Z (.slice na st.tabs.length z)) wr bj (Cb st.tabs (Dn (Cy st.tabs) os))):=(by have A:=b1.o;unfold Ws at A;rw[uW (by have:=bg.o;omega)] at A;exact A);have df:=d;clear b1 d a4;obtain⟨b2,hy⟩:∃b2,b2=wr:=⟨_,rfl⟩;subst hy;go_wp21;go_loopg [15,16] st.tabs.length (fun k ea hz wr=>∃(i:Nat) (R:Int),i+k=st.tabs.length∧hz=.int .i64 (i:Int)∧ea=.int .i64 R∧xR (D9 ((Qf st.tabs (Dn (Cy st.tabs) os)).drop i) R=D9 (Qf st.tabs (Dn (Cy st.tabs) os)) 0)∧(-(200000*(i:Int))≤R∧R≤200000*(i:Int))∧xR (Ab No b2 wr))
     case atStart=>exact⟨0,0,by omega,rfl,rfl,Ae rfl,by omega,Ae (Ab.refl _ _)⟩
     obtain⟨i,R,a4,rfl,rfl,cd,fu,d⟩:=hrel;by_cases al:gk=0
     ·subst al;have aa:¬(i:Int)<(st.tabs.length:Int):=(by omega);have dg:xR (D9 (Qf st.tabs (Dn (Cy st.tabs) os)) 0=if 60<R then 8 else 0):=(by show _=_;rw[←cd.o,wY (by rw[lL];omega)];rfl);by_cases fv:60<R
      ·have I:xR (Ii st s=(([],8),st)):=(by show _=_;rw[d7.o,dg.o,if_pos fv,if_pos (by decide)]);clear dg cd fu;go_wp21;go_ret2;refine⟨?_,by rw[I.o];exact bz.o.same (ak.o.seq (df.o.seq d.o))⟩;rw[I.o];rfl
      have fw:xR (D9 (Qf st.tabs (Dn (Cy st.tabs) os)) 0=0):=(by show _=_;rw[dg.o,if_neg fv]);have fx:xR (B4 (Cb st.tabs (Dn (Cy st.tabs) os))):=KU a3.o (FI bf.o.1 cc.o) fw.o;have I:xR (Ii st s=((Sd (st.views.map fun q=>B8 (Cl (Cb st.tabs (Dn (Cy st.tabs) os)) q++neg (Cl st.tabs q))),0),⟨Cb st.tabs (Dn (Cy st.tabs) os),st.views⟩)):=(by show _=_;rw[d7.o,if_neg (by rw[fw.o];simp)]);have eb:Ab No w1 wr:=df.o.seq d.o;have ce:=(eb.block y cb xT).trans hp.o;have cf:C3 wr y 0 (.slice c5 st.tabs.length bd):=(Af ce 0).trans rfl;have h0:=Am ce 0;have dh:C3 wr y 1 (.slice va st.views.length b9):=(Af ce 1).trans rfl;have ec:=Ae ce;have fy:=Ae eb;have ed:=Ae (A4 hO.o d.o (fun _ _ l=>l.elim));have fz:=Ae (d9.o.Cc d.o (fun _ l=>l.elim));clear ce eb cd fu dg a4 d hO d9 df;go_wp21;obtain⟨a5,b3⟩:∃a5,wr.setCell ⟨y,0,none⟩ (.slice na st.tabs.length z)=a5:=⟨_,rfl⟩;have ee:a5.heap[y]? =some (.cells #[(.slice na st.tabs.length z),(.slice va st.views.length b9),(.slice ca st.views.length b0)] 189 (0,0)):=(by rw[←b3,A0 ec.o];rfl);have b4:xR (Ab (fun k=>k=y) w a5):=(by show Ab _ _ _;rw[←b3];exact Dj (S:=fun k=>k=y) ((ak.o.seq fy.o).any) (.inl rfl) _);have f0:xR (Ab (fun k=>k=y) wr a5):=(by show Ab _ _ _;rw[←b3];exact Dj (S:=fun k=>k=y) (Ab.refl _ _) (.inl rfl) _);have f1:xR (a5.ownsRow 0 197 3 (.slice na st.tabs.length z) st.tabs.length bj):=(by show World.ownsRow _ _ _ _ _ _ _;rw[←b3];exact Lc (DF ed.o (vM _)) (Gj ed.o ec.o (by decide)) _);have di:∀k,k=y→Zb Z (.slice na st.tabs.length z) k:=fun k e=>.inl (J.o.z (.inl e));have ef:∀k,k<w.heap.size→Zb Z (.slice na st.tabs.length z) k→Z k:=fun k al l=>l.elim id fun l=>(by have:=de.o k l;have:=ak.o.size;omega);have h1:=Ae (fz.o.Cc f0.o di);have f2:=Ae (A4 J.o.bow b4.o (fun b C e=>Gj J.o.bow J.o.obj (by decide) (e ▸ C)));have h2:=Ae (A4 J.o.vow b4.o (fun b C e=>Gj J.o.vow J.o.obj (by decide) (e ▸ C)));have h3:xR (Cz (Zb Z (.slice na st.tabs.length z)) a5 bvs (Th st.tabs (Cb st.tabs (Dn (Cy st.tabs) os)) st.views 0)):=(by show Cz _ _ _ _;rw[YY];exact (J.o.bgs.Ni ef).Cc b4.o di);have h4:=Ae ((J.o.vcs.Ni ef).Cc b4.o di);have h5:=Ae ee;have h6:=Aa ee;rw[b3];clear ee di ef f0 ed fz ec cf h0 dh fy b3;go_loopg [18,19] st.views.length (fun k h7 h8 wr=>∃(i:Nat) (T:List UInt8) (cs:List Value),i+k=st.views.length∧h8=.int .i64 (i:Int)∧h7=.string ⟨T.toArray⟩∧T.length≤i*128000000001∧xR (T=Sd ((st.views.map (fun q=>B8 (Cl (Cb st.tabs (Dn (Cy st.tabs) os)) q++neg (Cl st.tabs q)))).take i))∧xR (wr.ownsRow 0 195 1 (.slice ca st.views.length b0) st.views.length cs)∧xR (Cz (Zb Z (.slice na st.tabs.length z)) wr cs (Th st.tabs (Cb st.tabs (Dn (Cy st.tabs) os)) st.views i))∧xR (Ab (fun k=>Value.ownBlock (.slice ca st.views.length b0)=some k) a5 wr))
      case atStart=>exact⟨0,[],bvs,by omega,rfl,rfl,by simp,Ae rfl,f2,h3,Ae (Ab.refl _ _)⟩
      obtain⟨i,T,cs,a4,rfl,rfl,h9,dj,cg,ch,d⟩:=hrel;have b5:=(d.o.block y h6 (Gj J.o.bow J.o.obj (by decide))).trans h5.o;have cf:C3 wr y 0 (.slice na st.tabs.length z):=(Af b5 0).trans rfl;have dh:C3 wr y 1 (.slice va st.views.length b9):=(Af b5 1).trans rfl;have eg:C3 wr y 2 (.slice ca st.views.length b0):=(Af b5 2).trans rfl;have dk:=Aa b5;have ia:=Ae b5;have ci:∀k,Value.ownBlock (.slice ca st.views.length b0)=some k→Zb Z (.slice na st.tabs.length z) k:=fun k e=>.inl (J.o.zb k e);have eh:=Ae (A4 f1.o d.o (fun b C e=>J5 f1.o f2.o (by decide) b C e));have f3:=Ae (h1.o.Cc d.o ci);clear b5;by_cases al:gk=0
      ·subst al;have aa:¬(i:Int)<(st.views.length:Int):=(by omega);have f4:i=st.views.length:=(by omega);have ib:xR (T=Sd (st.views.map (fun q=>B8 (Cl (Cb st.tabs (Dn (Cy st.tabs) os)) q++neg (Cl st.tabs q))))):=(by show _=_;rw[dj.o,uW (by rw[tZ];omega)]);have ic:xR (U3 Z w Y y ⟨(Cb st.tabs (Dn (Cy st.tabs) os)),st.views⟩ wr):=by
        have f5:=ch.o;rw[f4,gH] at f5;refine YZ J.o hh.o ?_ ia.o ?_ (fun k e=>by have:=de.o k e;have:=ak.o.size;omega) f3.o cg.o f5
        ·exact (b4.o.mono (fun _ _ e=>.inl e)).seq (d.o.mono (fun _ _ e=>.inr e))
        have ei:(Cb st.tabs (Dn (Cy st.tabs) os)).length=st.tabs.length:=(by unfold Cb;simp);rw[ei];exact eh.o
       clear h9 dj cg ch f4 ci cf eg;go_wp21;go_ret2;refine⟨?_,by rw[I.o];exact ic.o⟩;rw[I.o,←ib.o];rfl
      obtain⟨k,rfl⟩:∃k,gk=k+1:=⟨gk-1,by omega⟩;have aa:(i:Int)<(st.views.length:Int):=(by omega);have dl:=Bm i;obtain⟨q,b6⟩:∃q,st.views[i]? =some q:=⟨_,tT (by omega)⟩;have ej:=tV b6;obtain⟨ek,el,pr,em,f6,f7⟩:=h4.o i q b6;have f8:=A4 h2.o d.o (fun b C e=>J5 J.o.vow J.o.bow (by decide) b C e);obtain⟨a6,ad,ax,en,f9⟩:=ch.o.2 i _ (lJ b6);have ga:=f6.Cc d.o ci;have cj:My (Zb Z (.slice na st.tabs.length z)) wr (.slice na st.tabs.length z) ((Cb st.tabs (Dn (Cy st.tabs) os)).map Mf):=Rm (base:=0) (by have ei:(Cb st.tabs (Dn (Cy st.tabs) os)).length=st.tabs.length:=(by unfold Cb;simp);rw[ei];exact eh.o) f3.o;have eo:VG (Cb st.tabs (Dn (Cy st.tabs) os)) q:=(ff.o q ej).new a3.o.nod _;have b7:Gq (Zb Z (.slice na st.tabs.length z)) wr:=fun k l=>l.elim (fun l=>tU (dy.o k l) (uJ b4.o.size d.o.size)) fun l=>Kl eh.o k l;have gb:((Cb st.tabs (Dn (Cy st.tabs) os)).map Mf).length≤1000:=by rw[tZ];unfold Cb;rw[List.length_mapIdx];omega
      have gc:=Ae (fun W (M:Ab No wr W)=>TI (Z:=Zb Z (.slice na st.tabs.length z)) (Li (Cb st.tabs (Dn (Cy st.tabs) os))) (Ed (Cb st.tabs (Dn (Cy st.tabs) os))) (Ea q) (.slice ek el pr) (.slice na st.tabs.length z) ((Cb st.tabs (Dn (Cy st.tabs) os)).map Mf) W (ga.Ag M) f7 (fun e=>by have:=Zz q;rw[e] at this;simp at this) (cj.Ag M) gb
       (fun nm ck=>by
         have cl:=eo.lv nm (G3 q nm ck);cases ep:Dw (Cb st.tabs (Dn (Cy st.tabs) os)) nm with
         |none=>rw[ep] at cl;cases cl
         |some t =>obtain⟨ie,ig,A⟩:=(Pv (Cb st.tabs (Dn (Cy st.tabs) os)) nm).2 t ep;refine⟨ie,Mf t,ig,by rw[tX,A];rfl,?_⟩;show Ad t.bag=_;unfold Ed;rw[ep]) (eo.tD fx.o) (b7.up M.size))
      obtain⟨us,dm⟩:=(ff.o q ej).diff a3.o fx.o;have ih:=Ae dm;have ii:=Ae b7;have ij:=Ae f9;have gd:=Ae b6;obtain⟨ae,dn⟩:∃ae,B8 (Cl (Cb st.tabs (Dn (Cy st.tabs) os)) q++neg (Cl st.tabs q))=ae:=⟨_,rfl⟩;have jp:ae.length≤128000000000:=(by rw[←dn];exact dm.txt);have er:=Ae (fun (W:World) (v:Value) (ik:Ct (Zb Z (.slice na st.tabs.length z)) W v (Sr st.tabs (Cb st.tabs (Dn (Cy st.tabs) os)) q))=>dm.tell v W ik);rw[dn] at er;have gf:(st.views.map (fun q=>B8 (Cl (Cb st.tabs (Dn (Cy st.tabs) os)) q++neg (Cl st.tabs q))))[i]? =some ae:=(by rw[tX,b6];exact congrArg some dn);have gg:=Ae (Vq _ i ae gf);obtain⟨vb,es,_,rfl,-,-,il,-,gh⟩:=On f8 em;have c1:C3 wr vb (es+i) (.slice ek el pr):=gh _ _ em;obtain⟨ao,bk,_,rfl,gi,-,a7,ay,gj⟩:=On cg.o en;have c2:C3 wr ao (bk+i) (.slice a6 ad ax):=gj _ _ en;have gl:=Ae gi;have gm:=Ae ay;clear b6 ej f6 ga f8 f9 cj eo b7 gb dm dn gf em en gh gj gi ay f7;go_wp21
      go_region_held3 (fun w'=>w'.cell? ⟨y,0,none⟩=some (.slice na st.tabs.length z)∧w'.cell? ⟨y,1,none⟩=some (.slice (some ⟨vb,es,none⟩) st.views.length b9)∧w'.cell? ⟨vb,es+i,none⟩=some (.slice ek el pr)) (go_keep)
       (first
         |(go_at_call 92;go_call gc.o _ (Ab.refl No wr).drew as e G ⟨im,b8,gn,rfl,go,H⟩;have B:Ab No wr G:=(Ab.refl No wr).drew.seq H;have io:=(B.cell dk xT).trans cf;have az:=(B.cell dk xT).trans dh;have a0:=(B.cell il xT).trans c1;have p:=Ae B;have dp:=Ae go;have ip:=Ae gn;clear H B go gn))
      obtain rfl:b8=q:=(by have cl:=R4 q;rw[ip.o] at cl;injection cl);obtain⟨af,cm,bl,rfl⟩:∃a n c,im=.slice a n c:=(by obtain⟨a,gp,e,_⟩:=dp.o;exact⟨_,_,_,e⟩);have e2:=(p.o.cell dk xT).trans eg;have e3:=(p.o.cell a7 xT).trans c2;have gq:=tU dk p.o.size;have gr:=tU a7 p.o.size;have gs:=Ae (fun (W:World) (M:Ab No G W)=>ih.o.less (.slice af cm bl) (.slice a6 ad ax) W (dp.o.Ag M) ((ij.o.Ag p.o).Ag M) ((ii.o.up p.o.size).up M.size));clear io az a0 cf dh eg c1 c2 gc;by_cases dq:i=0
      ·have iq:¬(0:Int)<(i:Int):=(by omega);have et:xR ((if i=0 then ([]:List UInt8) else [124])=[]):=if_pos dq;clear dq;go_wp21;go_call gs.o _ (Ab.refl No G) as e w3 ⟨cn,rfl,co,P⟩;have eu:=Ae co;have Q:=Ae P;clear co P;go_wp21;go_call er.o _ _ eu.o as e w4 ⟨rfl,cp⟩;have U:xR (Ab No G w4):=Q.o.seq cp;have ag:=(U.o.cell gq xT).trans e2;have a1:=(U.o.cell gr xT).trans e3;have a2:=Am (((p.o.seq U.o).block ao a7 xT).trans gm.o) (bk+i);clear cp e2 e3;have ir:(⟨T.toArray⟩:ByteArray).size=T.length:=(by show T.toArray.size=_;simp);have it:(⟨ae.toArray⟩:ByteArray).size=ae.length:=(by show ae.toArray.size=_;simp);go_wp21;go_roundg k
       case measure=>omega
       have cq:Ab (fun k=>k=ao) w4 (w4.setCell ⟨ao,bk+i,none⟩ (.slice af cm bl)):=Dj (S:=fun k=>k=ao) (Ab.refl _ w4) (.inl rfl) _;have cr:∀k,k=ao→Zb Z (.slice na st.tabs.length z) k:=fun k e=>ci k (by rw[e];rfl);refine⟨i+1,T++ae,cs.set i (.slice af cm bl),by omega,by go_num,by rw[Gh],by simp;omega,?_,?_,?_,?_⟩
       ·refine Ae ?_;rw[gg.o,←dj.o,et.o]
        try simp
       ·have A:=A4 (A4 cg.o p.o (fun _ _ l=>l.elim)) U.o (fun _ _ l=>l.elim);obtain rfl:bk=0:=gl.o;exact Ae (by rw[uL];exact Xn A _ _)
       ·have A:=(((ch.o.Cc p.o (fun _ l=>l.elim)).Cc U.o (fun _ l=>l.elim)).Cc cq cr);exact Ae (A.tE gd.o ((dp.o.Cc U.o (fun _ l=>l.elim)).Cc cq cr))
       exact Ae (Dj (d.o.seq (p.o.seq U.o).any) (.inl rfl) _)
      have iq:(0:Int)<(i:Int):=(by omega);have et:xR ((if i=0 then ([]:List UInt8) else [124])=[124]):=if_neg dq;clear dq;go_wp21;rw[M0];go_call gs.o _ (Ab.refl No G) as e w3 ⟨cn,rfl,co,P⟩;have eu:=Ae co;have Q:=Ae P;clear co P;go_wp21;go_call er.o _ _ eu.o as e w4 ⟨rfl,cp⟩;have U:xR (Ab No G w4):=Q.o.seq cp;have ag:=(U.o.cell gq xT).trans e2;have a1:=(U.o.cell gr xT).trans e3;have a2:=Am (((p.o.seq U.o).block ao a7 xT).trans gm.o) (bk+i);clear cp e2 e3;have ir:(⟨T.toArray⟩:ByteArray).size=T.length:=(by show T.toArray.size=_;simp);have it:(⟨ae.toArray⟩:ByteArray).size=ae.length:=(by show ae.toArray.size=_;simp);go_wp21;go_roundg k
      case measure=>omega
      have cq:Ab (fun k=>k=ao) w4 (w4.setCell ⟨ao,bk+i,none⟩ (.slice af cm bl)):=Dj (S:=fun k=>k=ao) (Ab.refl _ w4) (.inl rfl) _;have cr:∀k,k=ao→Zb Z (.slice na st.tabs.length z) k:=fun k e=>ci k (by rw[e];rfl);refine⟨i+1,T++([124]++ae),cs.set i (.slice af cm bl),by omega,by go_num,by rw[Gh,wJ],by simp;omega,?_,?_,?_,?_⟩
      ·refine Ae ?_;rw[gg.o,←dj.o,et.o]
       try simp
      ·have A:=A4 (A4 cg.o p.o (fun _ _ l=>l.elim)) U.o (fun _ _ l=>l.elim);obtain rfl:bk=0:=gl.o;exact Ae (by rw[uL];exact Xn A _ _)
      ·have A:=(((ch.o.Cc p.o (fun _ l=>l.elim)).Cc U.o (fun _ l=>l.elim)).Cc cq cr);exact Ae (A.tE gd.o ((dp.o.Cc U.o (fun _ l=>l.elim)).Cc cq cr))
      exact Ae (Dj (d.o.seq (p.o.seq U.o).any) (.inl rfl) _)
     obtain⟨k,rfl⟩:∃k,gk=k+1:=⟨gk-1,by omega⟩;have aa:(i:Int)<(st.tabs.length:Int):=(by omega);have dl:=Bm i;have jq:i≤4:=(by omega);obtain⟨t,V⟩:∃t,st.tabs[i]? =some t:=⟨_,tT (by omega)⟩;obtain⟨a6,ad,ax,ev,ew,bm,ct⟩:=d9.o i { t with bag:=t.bag++(Dn (Cy st.tabs) os) i } (by unfold Cb;rw[uU,V];rfl);obtain⟨g,E,iu,rfl,dr,a7,a8,ay,cu⟩:=On hO.o bm;have bn:C3 b2 g (E+i*3+2) (.slice a6 ad ax):=cu _ _ bm;have aw:=MD a3.o bf.o.1 bf.o.2 cc.o V O;rw[uW (by have:=bg.o;omega)] at aw;have gu:=(a3.o.Ur (tV V)).nn;have ex:=Ae (lI (b:=t.bag) (D:=(Dn (Cy st.tabs) os) i) gu);have gv:xR (D9 (Qf st.tabs (Dn (Cy st.tabs) os)) 0=if Zg (Ad t.bag,(Dn (Cy st.tabs) os) i)=true then D9 ((Qf st.tabs (Dn (Cy st.tabs) os)).drop (i+1)) (R+(Nr (Ad t.bag)+Nr ((Dn (Cy st.tabs) os) i))) else 7):=(by show _=_;rw[←cd.o,qC V];rfl);have gw:xR (Nr (Ad t.bag)+Nr ((Dn (Cy st.tabs) os) i)=Nr (Ad (t.bag++(Dn (Cy st.tabs) os) i))):=(by show _=_;rw[Kh,Kh];unfold Nr;rw[D3]);have gx:Ct (Zb Z (.slice (some ⟨g,E,none⟩) st.tabs.length z)) b2 (.slice a6 ad ax) (Ad (t.bag++(Dn (Cy st.tabs) os) i)):=ct;obtain⟨L,gy⟩:∃L,Ad (t.bag++(Dn (Cy st.tabs) os) i)=L:=⟨_,rfl⟩;rw[gy] at ex gw aw gx;obtain⟨_,_,bo,iv,gz,g0⟩:=gx;injection bo with e1 e2 e3;subst e1 e3;obtain⟨m,ck⟩:∃m,L.length=m:=⟨_,rfl⟩;have g1:=Ae ck;rw[ck] at e2 iv;subst e2;have hl:ax≤9223372036854775807:=(by have:=gz.1;unfold maxLen at this;omega);have iw:=Ae g0;have ix:=Ae aw;have jr:ad≤400:=(by have:=aw.2;omega);have iy:g<wr.heap.size:=tU a8 d.o.size;have g2:=(d.o.cell a8 xT).trans bn;clear aw gu ct gy gz g0 ev ew bm cu ay cd ck V dr;go_wp21;go_loopg [15,17] ad (fun k ea iz wr=>∃(j:Nat) (ah:Int),j+k=ad∧iz=.int .i64 (j:Int)∧ea=.int .i64 ah∧xR (ah=R+Nr (L.take j))∧xR (∀e∈L.take j,0≤e.2)∧(R-400*(j:Int)≤ah∧ah≤R+400*(j:Int))∧xR (Ab No b2 wr))
     case atStart=>exact⟨0,R,by omega,rfl,rfl,Ae (by simp[Nr,Ci]),Ae (fun e am=>by simp at am),by omega,d⟩
     clear g2 iy d;obtain⟨j,ah,_,rfl,rfl,cv,cw,_,d⟩:=hrel;have g2:=(d.o.cell a8 xT).trans bn;by_cases H:gk=0
     ·subst H;have i0:¬(j:Int)<(ad:Int):=(by omega);have i1:xR (D9 ((Qf st.tabs (Dn (Cy st.tabs) os)).drop (i+1)) ah=D9 (Qf st.tabs (Dn (Cy st.tabs) os)) 0):=(by show _=_;have A:=cw.o;have ey:=cv.o;rw[uW (by have:=g1.o;omega)] at A ey;rw[gv.o,if_pos (ex.o.2 A),ey,gw.o]);have i2:xR (-(200000*((i:Int)+1))≤ah∧ah≤200000*((i:Int)+1)):=(by show _∧_;omega);clear cw cv;go_wp21;go_roundg k
      case measure=>omega
      exact⟨i+1,ah,by omega,by go_num,rfl,i1,by push_cast;exact i2.o,d⟩
     obtain⟨bl,rfl⟩:∃k,gk=k+1:=⟨gk-1,by omega⟩;have i0:(j:Int)<(ad:Int):=(by omega);have js:=Bm j;obtain⟨e,bp⟩:∃e,L[j]? =some e:=⟨_,tT (by have:=g1.o;omega)⟩;obtain⟨_,_,_,hm,_,rfl,i3,-,N,-⟩:=iw.o j e bp;have i4:=(ix.o.1 e (tV bp)).2;have i5:=(d.o.cell i3 xT).trans N;obtain⟨g3,a9⟩:=e;simp only at i4 i5;by_cases jt:a9<0
     ·have I:xR (Ii st s=(([],7),st)):=(by show _=_;have A:D9 (Qf st.tabs (Dn (Cy st.tabs) os)) 0=7:=(by rw[gv.o,if_neg];intro db;have:=ex.o.1 db (g3,a9) (tV bp);simp only at this;omega);rw[d7.o,A,if_pos (by decide)]);clear cw cv bp N;go_wp21;go_ret2;refine⟨?_,by rw[I.o];exact bz.o.same (ak.o.seq (df.o.seq d.o))⟩;rw[I.o];rfl
     have i6:xR (ah+a9=R+Nr (L.take (j+1))):=(by show _=_;rw[cv.o,uI,bp];unfold Nr;rw[D3];simp[Ci];omega);have i7:xR (∀e∈L.take (j+1),0≤e.2):=fun e am=>by
      rw[uI,bp] at am;rcases tW.1 am with am|am
      ·exact cw.o e am
      have:e=(g3,a9):=(by simpa using am);rw[this];show 0≤a9;omega
     have ju:xR (IntKind.i64.wrap (ah+a9)=ah+a9):=IntWalk.i64_in _ (by omega);clear cw cv bp N;go_wp21;go_roundg bl
     case measure=>omega
     exact⟨j+1,ah+a9,by omega,by go_num,rfl,i6,i7,by push_cast;omega,d⟩
    obtain⟨k,rfl⟩:∃k,gk=k+1:=⟨gk-1,by omega⟩;have aa:(i:Int)<(O:Int):=(by omega);have dl:=Bm i;obtain⟨o,ai⟩:∃o,os[i]? =some o:=⟨_,tT (by have:=bg.o;omega)⟩;obtain⟨_,_,bo,_,_,ba⟩:=hw.o;injection bo with e1 e2 e3;subst e1;obtain⟨b,f,rp,ap,aq,rfl,ds,bb,g4,g5,g6⟩:=ba i o ai;have b8:=(d.o.cell ds xT).trans bb;have N:=(d.o.cell ds xT).trans g4;have ar:=(d.o.cell ds xT).trans g5;have cx:=g6.Ag d.o;have C:b<wr.heap.size:=tU ds d.o.size;clear bb g4 g5 g6;have dt:=tV ai;obtain⟨x,t,ab,aj⟩:=Vy.1 (dc.o o dt);have g7:o.row.map ty=t.ts:=(by have A:=uR.1 cc.o o dt;rw[MC ab aj] at A;exact of_decide_eq_true A);have cj:My (Zb Z (.slice na st.tabs.length z)) wr (.slice na st.tabs.length z) ((Ws st.tabs os i).map Mf):=Rm (base:=w1.heap.size) (by rw[MB];exact hO.o) b1.o;have an:=Ae (fun W (M:Ab No wr W)=>Jq _ _ o.name W (cj.Ag M) (by rw[tZ,MB];omega));rw[gF,ab] at an;obtain⟨a6,ad,ax,ev,ew,bm,ct⟩:=b1.o x { t with bag:=t.bag++Dn (Cy st.tabs) (os.take i) x } (by rw[Rn,aj];rfl);have b7:Gq (Zb Z (.slice na st.tabs.length z)) wr:=fun k l=>l.elim (fun l=>tU (dy.o k l) (ak.o.seq d.o).size) fun l=>Kl hO.o k l;have aw:=MD a3.o bf.o.1 bf.o.2 cc.o aj i;have du:=bf.o.1 o dt;have ez:=(a3.o.each t (tV aj)).len;have dv:=Ae (fun W (M:Ab No wr W)=>Pi (Z:=Zb Z (.slice na st.tabs.length z)) (.slice a6 ad ax) (.slice rp ap aq) (Ad (t.bag++Dn (Cy st.tabs) (os.take i) x)) o.row o.t t.ts W (ct.Ag M) (cx.Ag M) g7 (fun e am=>(aw.1 e am).1) (by omega) (by have:=aw.2;omega) (by rcases du.t with A|A <;> rw[A] <;> decide) (fun e am=>by have:=(aw.1 e am).2;omega) (Ap _) (b7.up M.size));obtain⟨g,E,iu,rfl,dr,a7,a8,ay,cu⟩:=On hO.o bm;have bn:C3 wr g (E+x*3+2) (.slice a6 ad ax):=cu _ _ bm;have bc:=Ae ai;have g8:=Ae ab;have g9:=Ae aj;have ha:=Ae dr;have hb:b≠g:=(by omega);have i8:(x:Int)<(st.tabs.length:Int):=(by have:=(tR.1 aj).1;omega);have i9:=Bm x;clear ba e2 e3 ai dt ab aj g7 cj ev ew bm ct b7 aw ez cx cu dr;rcases du.t with V|V
    ·have bb:wr.cell? ⟨b,f+i*3,none⟩=some (.bool true):=(by rw[b8,V];rfl);have HAdd:=dv;rw[V] at HAdd;have e0:=Ae V;clear b8 dv du V;go_wp21;go_call an.o _ (Ab.refl No wr) as e G ⟨rfl,H⟩;have p:=Ae H;clear H;have e4:=(p.o.cell C xT).trans bb;have af:=(p.o.cell C xT).trans ar;have cy:=(p.o.cell a8 xT).trans bn;have bq:=(p.o.block g a8 xT).trans ay;have e5:=Ae bq;have cz:g<G.heap.size:=Aa bq;have e6:b<G.heap.size:=tU C p.o.size;clear N bb ar bn ay bq;go_wp21;have e7:=d;clear d;refine wp_region_held_drew (S:=fun w'=>w'.cell? ⟨b,f+i*3+2,none⟩=some (.slice rp ap aq)) (by kernel_rfl) af (fun u=>?_);refine An 0 (.slice (some ⟨g,E,none⟩) st.tabs.length z) u ?_
     refine An 1 (.int .i64 (x:Int)) u ?_;refine An 2 (.slice (some ⟨g,E,none⟩) st.tabs.length z) u ?_;refine An 3 (.int .i64 (x:Int)) u ?_
     try simp only[Act.put,Ar,As,Au,Av,Aw,Ax]
     refine An 4 (.pointer (some ⟨g,E+x*3,none⟩)) u ?_;refine An 5 (.pointer (some ⟨g,E+x*3+2,none⟩)) u ?_;refine An 7 (.slice (some ⟨b,f,none⟩) O c8) u ?_;refine An 8 (.int .i64 (i:Int)) u ?_
     try simp only[Act.put,Ar,As,Au,Av,Aw,Ax]
     refine An 9 (.pointer (some ⟨b,f+i*3,none⟩)) u ?_;refine An 10 (.pointer (some ⟨b,f+i*3+2,none⟩)) u ?_;refine Iq 11 (.slice rp ap aq) 211 (.tmp 114) (b) (f+i*3+2) (fun w h=>h) u ?_;refine An 12 (.int .i64 1) u ?_
     try simp only[Act.put,Ar,As,Au,Av,Aw,Ax]
     refine C0 6 (fun K d=>?_);go_simp;refine d.out _ _ u (fun u=>?_);clear d K
     refine C0 13 (fun K d=>?_);go_simp;go_call HAdd.o _ (p.o.drew) as e w3 ⟨cn,rfl,br,P⟩;obtain⟨bs,bt,bu,rfl⟩:∃a n c,cn=.slice a n c:=(by obtain⟨a,gp,e,_⟩:=br;exact⟨_,_,_,e⟩);have F:Ab No G w3:=(Ab.refl No G).drew.seq P;have ag:=(F.cell e6 xT).trans af;have a1:=(F.cell cz xT).trans cy;have a2:=Am ((F.block g cz xT).trans e5.o) (E+x*3+2);have c0:∀v,C3 (w3.setCell ⟨g,E+x*3+2,none⟩ v) b (f+i*3+2) (.slice rp ap aq):=fun v=>(World.cell?_setCell_other _ _ _ _ (by simp[hb])).trans ag;have Q:=Ae F;have e8:=Ae br;clear P F br;refine d.out _ _ ag (fun u=>?_);clear d K
     refine An 14 (.pointer (some ⟨g,E+x*3,none⟩)) u ?_;refine An 15 (.pointer (some ⟨g,E+x*3+2,none⟩)) u ?_
     try simp only[Act.put,Ar,As,Au,Av,Aw,Ax]
     refine C0 16 (fun K d=>?_);go_simp;refine d.out _ _ (c0 _) (fun u=>?_);clear d K u c0 ag a1 a2 e4 af cy;refine wpAnyH_done (by kernel_rfl) ?_ _
     try simp only[Act.put,Ar,As,Au,Av,Aw,Ax]
     go_wp21;go_roundg k
     case measure=>omega
     refine⟨i+1,bj.set (x*3+2) (.slice bs bt bu),by omega,by go_num,?_,?_,?_⟩
     ·have A:=A4 (A4 hO.o p.o (fun _ _ l=>l.elim)) Q.o (fun _ _ l=>l.elim);obtain rfl:E=0:=ha.o;exact Ae (by rw[uL];exact Xn A _ _)
     ·have A:=((b1.o.Cc p.o (fun _ l=>l.elim)).Cc Q.o (fun _ l=>l.elim)).Cc (S:=fun k=>k=g) (Dj (S:=fun k=>k=g) (Ab.refl _ w3) (.inl rfl) (o:=E+x*3+2) (.slice bs bt bu)) (fun k e=>.inr (by rw[e];rfl));refine Ae (A.now bc.o g8.o g9.o ?_);rw[e0.o];exact e8.o.Cc (S:=fun k=>k=g) (Dj (S:=fun k=>k=g) (Ab.refl _ w3) (.inl rfl) (o:=E+x*3+2) (.slice bs bt bu)) (fun k e=>.inr (by rw[e];rfl))
     exact Ae (Dj (e7.o.seq (p.o.seq Q.o)) (.inr a7) _)
    have bb:wr.cell? ⟨b,f+i*3,none⟩=some (.bool false):=(by rw[b8,V];rfl);have HAdd:=dv;rw[V] at HAdd;have e0:=Ae V;clear b8 dv du V;go_wp21;go_call an.o _ (Ab.refl No wr) as e G ⟨rfl,H⟩;have p:=Ae H;clear H;have e4:=(p.o.cell C xT).trans bb;have af:=(p.o.cell C xT).trans ar;have cy:=(p.o.cell a8 xT).trans bn;have bq:=(p.o.block g a8 xT).trans ay;have e5:=Ae bq;have cz:g<G.heap.size:=Aa bq;have e6:b<G.heap.size:=tU C p.o.size;clear N bb ar bn ay bq;go_wp21;have e7:=d;clear d;refine wp_region_held_drew (S:=fun w'=>w'.cell? ⟨b,f+i*3+2,none⟩=some (.slice rp ap aq)) (by kernel_rfl) af (fun u=>?_);refine An 0 (.slice (some ⟨g,E,none⟩) st.tabs.length z) u ?_;refine An 1 (.int .i64 (x:Int)) u ?_;refine An 2 (.slice (some ⟨g,E,none⟩) st.tabs.length z) u ?_;refine An 3 (.int .i64 (x:Int)) u ?_
    try simp only[Act.put,Ar,As,Au,Av,Aw,Ax]
    refine An 4 (.pointer (some ⟨g,E+x*3,none⟩)) u ?_;refine An 5 (.pointer (some ⟨g,E+x*3+2,none⟩)) u ?_;refine An 7 (.slice (some ⟨b,f,none⟩) O c8) u ?_;refine An 8 (.int .i64 (i:Int)) u ?_
    try simp only[Act.put,Ar,As,Au,Av,Aw,Ax]
    refine An 9 (.pointer (some ⟨b,f+i*3,none⟩)) u ?_;refine An 10 (.pointer (some ⟨b,f+i*3+2,none⟩)) u ?_;refine Iq 11 (.slice rp ap aq) 211 (.tmp 114) (b) (f+i*3+2) (fun w h=>h) u ?_;refine An 12 (.int .i64 (-1)) u ?_
    try simp only[Act.put,Ar,As,Au,Av,Aw,Ax]
    refine C0 6 (fun K d=>?_);go_simp;refine d.out _ _ u (fun u=>?_);clear d K
    refine C0 13 (fun K d=>?_);go_simp;go_call HAdd.o _ (p.o.drew) as e w3 ⟨cn,rfl,br,P⟩;obtain⟨bs,bt,bu,rfl⟩:∃a n c,cn=.slice a n c:=(by obtain⟨a,gp,e,_⟩:=br;exact⟨_,_,_,e⟩);have F:Ab No G w3:=(Ab.refl No G).drew.seq P;have ag:=(F.cell e6 xT).trans af;have a1:=(F.cell cz xT).trans cy;have a2:=Am ((F.block g cz xT).trans e5.o) (E+x*3+2);have c0:∀v,C3 (w3.setCell ⟨g,E+x*3+2,none⟩ v) b (f+i*3+2) (.slice rp ap aq):=fun v=>(World.cell?_setCell_other _ _ _ _ (by simp[hb])).trans ag;have Q:=Ae F;have e8:=Ae br;clear P F br;refine d.out _ _ ag (fun u=>?_);clear d K
    refine An 14 (.pointer (some ⟨g,E+x*3,none⟩)) u ?_;refine An 15 (.pointer (some ⟨g,E+x*3+2,none⟩)) u ?_
    try simp only[Act.put,Ar,As,Au,Av,Aw,Ax]
    refine C0 16 (fun K d=>?_);go_simp;refine d.out _ _ (c0 _) (fun u=>?_);clear d K u c0 ag a1 a2 e4 af cy;refine wpAnyH_done (by kernel_rfl) ?_ _
    try simp only[Act.put,Ar,As,Au,Av,Aw,Ax]
    go_wp21;go_roundg k
    case measure=>omega
    refine⟨i+1,bj.set (x*3+2) (.slice bs bt bu),by omega,by go_num,?_,?_,?_⟩
    ·have A:=A4 (A4 hO.o p.o (fun _ _ l=>l.elim)) Q.o (fun _ _ l=>l.elim);obtain rfl:E=0:=ha.o;exact Ae (by rw[uL];exact Xn A _ _)
    ·have A:=((b1.o.Cc p.o (fun _ l=>l.elim)).Cc Q.o (fun _ l=>l.elim)).Cc (S:=fun k=>k=g) (Dj (S:=fun k=>k=g) (Ab.refl _ w3) (.inl rfl) (o:=E+x*3+2) (.slice bs bt bu)) (fun k e=>.inr (by rw[e];rfl));refine Ae (A.now bc.o g8.o g9.o ?_);rw[e0.o];exact e8.o.Cc (S:=fun k=>k=g) (Dj (S:=fun k=>k=g) (Ab.refl _ w3) (.inl rfl) (o:=E+x*3+2) (.slice bs bt bu)) (fun k e=>.inr (by rw[e];rfl))
    exact Ae (Dj (e7.o.seq (p.o.seq Q.o)) (.inr a7) _)
   obtain⟨k,rfl⟩:∃k,gk=k+1:=⟨gk-1,by omega⟩;have aa:(i:Int)<(O:Int):=(by omega);have dl:=Bm i;obtain⟨o,ai⟩:∃o,os[i]? =some o:=⟨_,tT (by have:=bg.o;omega)⟩;obtain⟨_,_,bo,_,_,ba⟩:=d4.o.Ag d.o;injection bo with e1 e2 e3;subst e1;obtain⟨b,f,rp,ap,aq,rfl,C,-,N,ar,cx⟩:=ba i o ai;obtain⟨x,t,ab,aj⟩:=Vy.1 (dc.o o (tV ai));have an:=Ae (fun W (M:Ab No wr W)=>Jq _ _ o.name W ((d2.o.Ag d.o).Ag M) (by rw[tZ];omega));rw[Xm,ab] at an;obtain⟨_,_,ja,_,_,hc⟩:=d2.o.Ag d.o;injection ja with jb jc jd;subst jb;obtain⟨tb,c3,_,_,_,rfl,dw,-,hd,-,-⟩:=hc x (Mf t) (by rw[tX,aj];rfl);have bw:C3 wr tb (c3+x*3+1) (.string ⟨(Fj t.ts).toArray⟩):=hd;have ez:=(a3.o.each t (tV aj)).len;have c4:=Ae (fun W (M:Ab No wr W)=>eE _ o.row t.ts W (cx.Ag M) (by omega));have bc:=Ae ai;have he:=Ae (MC ab aj);have bx:y<wr.heap.size:=tU cb d.o.size;have i8:(x:Int)<(st.tabs.length:Int):=(by have:=(tR.1 aj).1;omega);have i9:=Bm x;obtain⟨dx,hf⟩:∃dx:ByteArray,dx=⟨(Fj t.ts).toArray⟩:=⟨_,rfl⟩;rw[←hf] at c4 bw;clear ba e2 e3 ai hc jc jd hd cx ez ab aj hf;by_cases X:o.row.map ty=t.ts
   ·rw[decide_eq_true X] at c4;have e9:xR (∀j o,j<i+1→os[j]? =some o→Hm (Cy st.tabs) o=true):=fun j fa bi au=>by
     by_cases fb:j=i
     ·subst fb;rw[bc.o] at au;injection au with au;rw[←au,he.o];exact decide_eq_true X
     exact bh.o j fa (by omega) au
    clear X;go_wp21
    go_region_held3 (fun w'=>w'.cell? ⟨b,f+i*3+1,none⟩=some (.string ⟨o.name.toArray⟩)∧w'.cell? ⟨b,f+i*3+2,none⟩=some (.slice rp ap aq)∧w'.cell? ⟨y,0,none⟩=some (.slice (some ⟨tb,c3,none⟩) st.tabs.length bd)∧w'.cell? ⟨tb,c3+x*3+1,none⟩=some (.string dx)) (go_keep)
     (first
       |(go_at_call 95;go_call c4.o _ p.o as e w3 ⟨rfl,P⟩;have F:Ab No wr w3:=p.o.seq P;have ag:=(F.cell C xT).trans N;have a1:=(F.cell C xT).trans ar;have a2:=(F.cell bx xT).trans ac;have fc:=(F.cell dw xT).trans bw;have Q:=Ae F;clear P F)
       |(go_at_call 89;go_call an.o _ (Ab.refl No wr).drew as e G ⟨rfl,H⟩;have B:Ab No wr G:=(Ab.refl No wr).drew.seq H;have az:=(B.cell C xT).trans N;have a0:=(B.cell C xT).trans ar;have fd:=(B.cell bx xT).trans ac;have fe:=(B.cell dw xT).trans bw;have p:=Ae B;clear H B))
    clear ag a1 a2 fc az a0 fd fe N ar ac bw;go_wp21;go_roundg k
    case measure=>omega
    exact⟨i+1,by omega,by go_num,e9,Ae (d.o.seq Q.o)⟩
   rw[decide_eq_false X] at c4;have I:xR (Ii st s=(([],6),st)):=(by show _=_;have je:Ky (Cy st.tabs) os=6:=(by unfold Ky;rw[if_neg (by rw[uR.2 dc.o];simp),if_pos];rw[xK];exact⟨o,tV bc.o,by rw[he.o];simpa using X⟩);unfold Ii;rw[if_neg c7.o,d6.o];simp only;rw[je,if_pos (by decide)]);clear X;go_wp21
   go_region_held3 (fun w'=>w'.cell? ⟨b,f+i*3+1,none⟩=some (.string ⟨o.name.toArray⟩)∧w'.cell? ⟨b,f+i*3+2,none⟩=some (.slice rp ap aq)∧w'.cell? ⟨y,0,none⟩=some (.slice (some ⟨tb,c3,none⟩) st.tabs.length bd)∧w'.cell? ⟨tb,c3+x*3+1,none⟩=some (.string dx)) (go_keep)
    (first
      |(go_at_call 95;go_call c4.o _ p.o as e w3 ⟨rfl,P⟩;have F:Ab No wr w3:=p.o.seq P;have ag:=(F.cell C xT).trans N;have a1:=(F.cell C xT).trans ar;have a2:=(F.cell bx xT).trans ac;have fc:=(F.cell dw xT).trans bw;have Q:=Ae F;clear P F)
      |(go_at_call 89;go_call an.o _ (Ab.refl No wr).drew as e G ⟨rfl,H⟩;have B:Ab No wr G:=(Ab.refl No wr).drew.seq H;have az:=(B.cell C xT).trans N;have a0:=(B.cell C xT).trans ar;have fd:=(B.cell bx xT).trans ac;have fe:=(B.cell dw xT).trans bw;have p:=Ae B;clear H B))
   clear ag a1 a2 fc az a0 fd fe N ar ac bw;go_wp21;go_ret2;refine⟨?_,by rw[I.o];exact bz.o.same (ak.o.seq (d.o.seq Q.o))⟩;rw[I.o];rfl
  obtain⟨k,rfl⟩:∃k,gk=k+1:=⟨gk-1,by omega⟩;have aa:(i:Int)<(O:Int):=by omega
  have dl:=Bm i
  obtain⟨o,ai⟩:∃o,os[i]? =some o:=⟨_,tT (by have:=bg.o;omega)⟩;obtain⟨_,_,bo,_,_,ba⟩:=d4.o.Ag d.o;injection bo with e1 e2 e3;subst e1;obtain⟨b,f,rp,ap,aq,rfl,C,-,N,-,-⟩:=ba i o ai;have an:=Ae (fun W (M:Ab No wr W)=>Jq _ _ o.name W ((d2.o.Ag d.o).Ag M) (by rw[tZ];omega));have bc:=Ae ai;have bx:y<wr.heap.size:=tU cb d.o.size;clear ba e2 e3 ai;by_cases X:Fh (Cy st.tabs) o=true
  ·obtain⟨x,t,ab,_⟩:=Vy.1 X;rw[Xm,ab] at an;have e9:xR (∀j o,j<i+1→os[j]? =some o→Fh (Cy st.tabs) o=true):=fun j fa bi au=>by
    by_cases fb:j=i
    ·subst fb;rw[bc.o] at au;injection au with au;rw[←au];exact X
    exact bh.o j fa (by omega) au
   have jf:¬(x:Int)<0:=(by omega);clear X ab;go_wp21
   go_region_held3 (fun w'=>w'.cell? ⟨b,f+i*3+1,none⟩=some (.string ⟨o.name.toArray⟩)∧w'.cell? ⟨y,0,none⟩=some (.slice c5 st.tabs.length bd)) (go_keep)
    (first
      |(go_at_call 89;go_call an.o _ (Ab.refl No wr).drew as e G ⟨rfl,H⟩;have B:Ab No wr G:=(Ab.refl No wr).drew.seq H;have az:=(B.cell C xT).trans N;have a0:=(B.cell bx xT).trans ac;have p:=Ae B;clear H B))
   clear az a0 N ac;go_wp21;go_roundg k
   case measure=>omega
   exact⟨i+1,by omega,by go_num,e9,Ae (d.o.seq p.o)⟩
  have jg:Fh (Cy st.tabs) o=false:=by simpa using X
  have ab:CZ (st.tabs.map Mf) o.name= -1:=by rw[Xm];unfold Fh at X;rw[decide_eq_true_iff] at X;have A:=Oe ((Cy st.tabs).map fun t=>(t.blk,t.name)) o.name;have ey:Tl (Cy st.tabs) o.name=Bz ((Cy st.tabs).map fun t=>(t.blk,t.name)) o.name:=rfl;omega
  rw[ab] at an;have I:xR (Ii st s=(([],5),st)):=by show _=_;have jh:Ky (Cy st.tabs) os=5:=(by unfold Ky;rw[if_pos];rw[xK];exact⟨o,tV bc.o,X⟩);unfold Ii;rw[if_neg c7.o,d6.o];simp only;rw[jh,if_pos (by decide)]
  clear X jg ab;have jf:(-1:Int)<0:=by decide
  go_wp21
  go_region_held3 (fun w'=>w'.cell? ⟨b,f+i*3+1,none⟩=some (.string ⟨o.name.toArray⟩)∧w'.cell? ⟨y,0,none⟩=some (.slice c5 st.tabs.length bd)) (go_keep)
   (first
     |(go_at_call 89;go_call an.o _ (Ab.refl No wr).drew as e G ⟨rfl,H⟩;have B:Ab No wr G:=(Ab.refl No wr).drew.seq H;have az:=(B.cell C xT).trans N;have a0:=(B.cell bx xT).trans ac;have p:=Ae B;clear H B))
  clear az a0 N ac;go_wp21;go_ret2;refine⟨?_,by rw[I.o];exact bz.o.same (ak.o.seq (d.o.seq p.o))⟩;rw[I.o];rfl
end Go.Proofs.YtdinjjmcmfjbfaaGreatDoor
