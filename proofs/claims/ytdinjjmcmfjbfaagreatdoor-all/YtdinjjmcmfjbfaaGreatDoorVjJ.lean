import Derived.Test.YtdinjjmcmfjbfaaGreatDoorVlJ
import Derived.Deep.DeepCutAuto
import Derived.Deep.CutBlock
set_option maxRecDepth 100000
set_option maxHeartbeats 4000000
namespace Go.Proofs.YtdinjjmcmfjbfaaGreatDoor
open Go.RowKit Mo Pl Tryz
variable {Z:Nat→Prop}
theorem TI (ft:List UInt8→Option (List Bool))(f:List UInt8→Bag)(S:List Q)(pv tv:Value)(ts:List UT)(w:World)(e0:Hn Z w pv S)(go:S.length≤1000)(e6:S≠[])(e7:My Z w tv ts)(cz:ts.length≤1000)
 (hf:∀nm,.tab nm∈S→∃(k:Nat) (t:UT),CZ ts nm=(k:Int)∧ts[k]? =some t∧t.rows=Ad (f nm)) (hB:sX ft f S) (e8:Gq Z w) :
 Calls prog 92 #[pv,tv] w fun e w'=>∃v q,S.getLast? =some q∧e=.returned v∧L5 Z w (Ad (Bg f q)) v w':=by
 have e9:=Ae e0;have fa:=Ae e7;have gp:=Ae hf;have ae:=Ae hB;have gq:=Ae cz;have gr:=Ae e8;obtain⟨_,gs,rfl,gu,fb,-⟩:=e0;obtain⟨n,c0⟩:∃n,S.length=n:=⟨_,rfl⟩;have dj:=Ae c0;rw[c0] at e9 gu go⊢;have it:gs≤9223372036854775807:=by unfold maxLen at fb;omega
 obtain⟨_,gv,rfl,gw,fc,-⟩:=e7;obtain⟨fd,dk⟩:∃n,ts.length=n:=⟨_,rfl⟩;have gx:=Ae dk;rw[dk] at fa gw⊢;have iu:gv≤9223372036854775807:=by unfold maxLen at fc;omega
 clear dk cz;have iv:1≤n:=by rw[←c0];exact xI.2 e6
 obtain⟨gy,gz,g0,g1,g2⟩:=info_parts eU;clear c0 fb hf hB fc e8 e6;go_enter func92,ntmps92;go_wp21;go_loopg [5,6] n (fun k dm dn wr=>∃(i:Nat) (va:Option Addr) (ak:Nat) (vs:List Value),i+k=n∧dn=.int .i64 (i:Int)∧dm=.slice va i ak∧xR (wr.ownsRow w.heap.size 195 1 dm i vs)∧xR (Cz (Zp Z dm) wr vs ((S.take i).map fun q=>Ad (Bg f q)))∧Ab No w wr)
 case atStart=>exact⟨0,none,0,[],by omega,rfl,rfl,World.ownsRow_nil _ _ _ _,Ae ⟨rfl,fun k l cz=>by simp at cz⟩,Ab.refl _ _⟩
 obtain⟨i,va,ak,vs,_,rfl,rfl,hO,cd,bl⟩:=hrel;by_cases dp:gk=0
 ·subst dp;have g3:¬(i:Int)<(n:Int):=by omega
  obtain⟨q,dq⟩:∃q,S[n-1]? =some q:=⟨_,tT (by have:=dj.o;omega)⟩;have g4:xR (S.getLast? =some q):=by show _=_;rw[List.getLast?_eq_getElem?,dj.o];exact dq
  have fe:((S.take i).map fun q=>Ad (Bg f q))[n-1]? =some (Ad (Bg f q)):=by rw[tX,uQ,if_pos (by omega),dq];rfl
  obtain⟨bm,dr,a7,c3,b3⟩:=cd.o.2 _ _ fe;obtain⟨g,o,rfl,hg,_,-,ff,c4,b4⟩:=DA hO.o c3;have bn:xR (Ct Z wr (.slice bm dr a7) (Ad (Bg f q))):=b3.Ni fun _ _ H=>.inl H;have c5:=Ae bl;have iw:ak≤9223372036854775807:=by unfold maxLen at c4;omega
  rw[show n-1=i-1 by omega] at b4;clear bl b3 c3 dq fe c4;go_wp21;go_ret;exact⟨_,q,g4.o,rfl,bn.o,c5.o⟩
 obtain⟨k,rfl⟩:=Bx dp;have g3:(i:Int)<(n:Int):=by omega
 have ix:=Bm i
 obtain⟨q,ds⟩:∃q,S[i]? =some q:=⟨_,tT (by have:=dj.o;omega)⟩;obtain⟨O,ce⟩:∃O,Zp Z (.slice va i ak)=O:=⟨_,rfl⟩;have dt:∀k,k<w.heap.size→O k→Z k:=fun k dp H=>by
  rw[←ce] at H;rcases H with H|H
  ·exact H
  have:=Bl hO.o k H;omega
 have g5:xR (Gq O wr):=fun k H=>by
  rw[←ce] at H;rcases H with H|H
  ·exact gr.o.up bl.size k H
  exact (hO.o.lt k H).2
 rw[ce] at cd;have fg:=Ae ((fa.o.Ni dt).Ag bl);obtain⟨_,_,al,_,_,am⟩:=(e9.o.Ni dt).Ag bl;injection al with e1 e2 e3;subst e1;obtain⟨b,o,⟨verb,name,cols,sign,mark,wit,sum,one,two,col⟩,cv,rfl,_,V,du,cf,fh⟩:=am i q ds;obtain⟨an,ao,ap,rfl⟩:∃a n c,cv=.slice a n c:=by obtain⟨a,c,e,_⟩:=du;exact⟨_,_,_,e⟩
 have b4:wr.cell? ⟨b,o+i*12,none⟩=some (.int .u8 verb):=V 0 _ rfl;have c1:wr.cell? ⟨b,o+i*12+1,none⟩=some (.string name):=V 1 _ rfl;have c2:wr.cell? ⟨b,o+i*12+2,none⟩=some (.slice an ao ap):=V 2 _ rfl;have fi:wr.cell? ⟨b,o+i*12+3,none⟩=some (.int .u8 sign):=V 3 _ rfl;have fj:wr.cell? ⟨b,o+i*12+4,none⟩=some (.int .u8 mark):=V 4 _ rfl;have fk:wr.cell? ⟨b,o+i*12+5,none⟩=some (.bool (uB wit)):=V 5 _ rfl;have c6:wr.cell? ⟨b,o+i*12+6,none⟩=some (.int .i64 (uN wit)):=V 6 _ rfl;have fl:wr.cell? ⟨b,o+i*12+7,none⟩=some (.string ⟨(uS wit).toArray⟩):=V 7 _ rfl;have fm:wr.cell? ⟨b,o+i*12+8,none⟩=some (.int .i64 (sum:Int)):=V 8 _ rfl;have fn:wr.cell? ⟨b,o+i*12+9,none⟩=some (.int .i64 one):=V 9 _ rfl;have fo:wr.cell? ⟨b,o+i*12+10,none⟩=some (.int .i64 two):=V 10 _ rfl;have fp:wr.cell? ⟨b,o+i*12+11,none⟩=some (.int .i64 (col:Int)):=V 11 _ rfl;have fq:xR (Ik O wr (.slice an ao ap) cols):=du;have bo:=Ae fh;have c7:=Ae cf;have c5:=Ae bl;have bc:=Ae ds;have dv:=Ae ce;clear bl am e2 e3 V du cf fh ds dt ce;have g6:i+1≤maxLen:=by unfold maxLen;omega
 have g7:(i+1)*24≤140737488355328:=by omega
 have fr:xR ((S.take (i+1)).map (fun q=>Ad (Bg f q))=(S.take i).map (fun q=>Ad (Bg f q))++[Ad (Bg f q)]):=by show _=_;rw[uI,bc.o,uF];rfl
 go_upto_block 2 with fail;go_cut [8] (fun b5 fs=>∃a m c,b5=.slice a m c∧xR (Ct O fs b5 (Ad (Bg f q)))∧xR (Ab No wr fs))
 case rest =>
  obtain⟨b6,fu,b7,rfl,b3,c8⟩:=hcut;have af:=A4 hO.o c8.o (fun _ _ H=>H.elim);have iy:=c5.o.size;have iz:=c8.o.size;clear b4 c1 c2 fi fj fk c6 fl fm fn fo fp;go_wp2_with (first
   |(at_builtin;refine wpList_append_own_at _ rfl _ _ 187 rfl w.heap.size 195 gy (.slice none 0 0) 1 24 underlying187 gz g0 g1 g2 rfl (by decide) _ _ _ rfl (af.alloc _) ⟨wc.heap.size,0,none⟩ 1 1 [.slice b6 fu b7] rfl rfl (cell_one_new _ _ _) (by simp[Value.oneCell']) g6 g7 (by simp;omega) ?_;intro dn w6 fv fw _ g8)
   |fail)
  obtain⟨dw,dx,rfl⟩:∃a c,dn=.slice a (i+1) c:=by
   rcases fv.2 with ⟨_,_⟩|⟨g,cap,cur,e,_⟩
   ·omega
   exact⟨_,_,e⟩
  have g9:Ab (fun k=>Value.ownBlock (.slice va i ak)=some k) wc w6:=((Ab.refl _ wc).alloc _).grown fw (fun r e=>.inr e);have ha:xR (Ab No w w6):=(c5.o.seq (c8.o.alloc _)).grown fw (fun r e=>.inl (Bl af r e));have cg:xR (Cz (Zp Z (.slice dw (i+1) dx)) w6 (vs++[.slice b6 fu b7]) ((S.take (i+1)).map fun q=>Ad (Bg f q))):=by
   rw[fr.o];have C:=((cd.o.Ag c8.o).push b3.o).Ni (Z':=fun k=>O k∨Value.ownBlock (.slice dw (i+1) dx)=some k) fun k dp H=>by
    rcases H with H|H
    ·exact H
    rw[←dv.o];rcases g8 with dy|dy
    ·exact .inr (dy ▸ H)
    rw[dy] at H;injection H with H;simp at H;omega
   refine (C.Cc g9 fun k H=>.inl (by rw[←dv.o];exact .inr H)).Ni fun k _ H=>?_;rcases H with H|H
   ·exact .inl (by rw[←dv.o];exact .inl H)
   exact .inr H
  go_roundg k
  case measure=>omega
  exact⟨i+1,dw,dx,_,by omega,by go_num,rfl,fv,cg,ha.o⟩
 obtain⟨u,hb⟩:∃u,u=wr:=⟨_,rfl⟩;subst hb;have HSub:xR (∀j E,I9 S i j E→∃k:Nat,j=(k:Int)∧k<i∧∃p m c g o,va=some ⟨g,o,none⟩∧g<u.heap.size∧u.cell? ⟨g,o+k,none⟩=some (.slice p m c)∧Ct O u (.slice p m c) (Ad (Bg f E))∧i≤ak∧ak≤maxLen∧E∈S):=by
  intro j E b8;obtain⟨M,e1,a2,fx⟩:=b8;have C:((S.take i).map fun q=>Ad (Bg f q))[M]? =some (Ad (Bg f E)):=by rw[tX,uQ,if_pos a2,fx];rfl
  obtain⟨bm,dr,a7,c3,b3⟩:=cd.o.2 _ _ C;obtain⟨g,o,e2,hg,_,-,ff,c4,b4⟩:=DA hO.o c3;exact⟨M,e1,a2,bm,dr,a7,g,o,e2,hg,b4,b3,ff,c4,tV fx⟩
 obtain⟨pv0,aa⟩:∃x:Array Value,#[.int .u8 verb,.string name,.slice an ao ap,.int .u8 sign,.int .u8 mark,.bool (uB wit),.int .i64 (uN wit),.string ⟨(uS wit).toArray⟩,.int .i64 (sum:Int),.int .i64 one,.int .i64 two,.int .i64 (col:Int)]=x:=⟨_,rfl⟩;rw[aa];obtain⟨J,X⟩:∃J,u.alloc (.cells pv0 204)=J:=⟨_,rfl⟩;have N:xR (Ab No u J):=by rw[←X];exact (Ab.refl No u).alloc _
 have D:u.heap.size<J.heap.size:=by rw[←X];simp
 have r0:J.cell? ⟨u.heap.size,0,none⟩=some (.int .u8 verb):=by rw[←X];exact Bi (by rw[←aa];rfl)
 have r1:J.cell? ⟨u.heap.size,1,none⟩=some (.string name):=by rw[←X];exact Bi (by rw[←aa];rfl)
 have r2:J.cell? ⟨u.heap.size,2,none⟩=some (.slice an ao ap):=by rw[←X];exact Bi (by rw[←aa];rfl)
 have ch:J.cell? ⟨u.heap.size,3,none⟩=some (.int .u8 sign):=by rw[←X];exact Bi (by rw[←aa];rfl)
 have ci:J.cell? ⟨u.heap.size,4,none⟩=some (.int .u8 mark):=by rw[←X];exact Bi (by rw[←aa];rfl)
 have cj:J.cell? ⟨u.heap.size,5,none⟩=some (.bool (uB wit)):=by rw[←X];exact Bi (by rw[←aa];rfl)
 have r6:J.cell? ⟨u.heap.size,6,none⟩=some (.int .i64 (uN wit)):=by rw[←X];exact Bi (by rw[←aa];rfl)
 have ck:J.cell? ⟨u.heap.size,7,none⟩=some (.string ⟨(uS wit).toArray⟩):=by rw[←X];exact Bi (by rw[←aa];rfl)
 have cl:J.cell? ⟨u.heap.size,8,none⟩=some (.int .i64 (sum:Int)):=by rw[←X];exact Bi (by rw[←aa];rfl)
 have cm:J.cell? ⟨u.heap.size,9,none⟩=some (.int .i64 one):=by rw[←X];exact Bi (by rw[←aa];rfl)
 have b9:J.cell? ⟨u.heap.size,10,none⟩=some (.int .i64 two):=by rw[←X];exact Bi (by rw[←aa];rfl)
 have cn:J.cell? ⟨u.heap.size,11,none⟩=some (.int .i64 (col:Int)):=by rw[←X];exact Bi (by rw[←aa];rfl)
 rw[X];clear X aa b4 c1 c2 fi fj fk c6 fl fm fn fo fp fr cd;have bd:xR (Gq O J):=g5.o.up N.o.size;have fy:=Ae (fq.o.Ag N.o);have fz:=Ae (fg.o.Ag N.o);clear fq fg;cases q with
 |tab nm =>
  obtain⟨hv,dz⟩:=bo.o;replace hv:verb=0:=hv;replace dz:name=⟨nm.toArray⟩:=dz;subst hv dz;obtain⟨c9,t,f0,d0,f1⟩:=gp.o nm (tV bc.o);have f2:=Ae (Jq _ ts nm J fz.o gq.o);rw[f0] at f2;obtain⟨_,_,al,_,_,am⟩:=fz.o;injection al with e1 e2 e3;subst e1;obtain⟨tb,_,_,_,_,rfl,hc,hd,he,f3,d1⟩:=am c9 t d0;have i0:c9<fd:=by have:=(tR.1 d0).1;have:=gx.o;omega
  have i1:=Bm c9
  have i2:(c9:Int)<(fd:Int):=by omega
  rw[f1] at d1;have hh:=Ae d1;clear am e2 e3 d1 f0 d0 f1 hd he;go_wp2_with (first
   |(go_at_call 89;refine f2.o.mono ?_;rintro e w1 ⟨rfl,a2⟩;have f4:=Ae a2;have f3:=(a2.cell hc xT).trans f3;clear a2)
   |fail)
  go_meet;exact⟨_,_,_,rfl,Ae (hh.o.Ag f4.o),Ae (N.o.seq f4.o)⟩
 |join c d E U =>
  obtain⟨hv,bp,bq,a8,d2⟩:=bo.o;replace hv:verb=74:=hv;replace bp:c=col:=bp.symm;replace bq:d=sum:=bq.symm;subst hv bp bq;obtain⟨M,e1,a2,br,aq,be,g,bs,rfl,hg,ar,au,d3,av,bt⟩:=HSub.o _ _ a8;replace e1:one=(M:Int):=e1;subst e1;obtain⟨us,ac,aw,ag⟩:=ae.o.ok E bt;have bu:=(N.o.cell hg xT).trans ar;have bf:g<J.heap.size:=tU hg N.o.size;have ah:=Ae (au.Ag N.o);have d4:=Bm M
  have d5:(M:Int)<(i:Int):=by omega
  have d6:ak≤9223372036854775807:=by unfold maxLen at av;omega
  have K:=Ae aw;obtain⟨A,Y⟩:∃A,Ad (Bg f E)=A:=⟨_,rfl⟩;have I:=Ae Y;rw[Y] at ah ag;clear au av ar Y aw;obtain⟨P,e2,hi,bm,bg,a7,hj,hk,ax,hl,co,cp,d7,d8,d9⟩:=HSub.o _ _ d2;injection ax with ax;injection ax with ax ea;subst ax ea;replace e2:two=(P:Int):=e2;subst e2;obtain⟨us2,cq,cr,ct⟩:=ae.o.ok U d9;have da:=(N.o.cell hg xT).trans co;have ca:=Ae (cp.Ag N.o);have hm:=Bm P
  have hn:(P:Int)<(i:Int):=by omega
  have bv:=Ae cr;obtain⟨B,hB⟩:∃B,Ad (Bg f U)=B:=⟨_,rfl⟩;have a3:=Ae hB;rw[hB] at ca ct;clear cp d8 co hB cr d7;obtain⟨R,ab,a9,_⟩:=ae.o.ok _ (tV bc.o);have ai:xR (C8 c d us us2=some R):=by show _=_;have C:(A7 ft E).bind (fun ts=>(A7 ft U).bind fun us=>C8 c d ts us)=some R:=ab;rw[ac] at C;have ad:(A7 ft U).bind (fun eb=>C8 c d us eb)=some R:=C;rw[cq] at ad;exact ad
  clear ab a9 ac cq;have db:=ae.o.jn c d E U (tV bc.o);rw[I.o,a3.o] at db;obtain⟨ho,hq⟩:c<us.length∧d<us2.length:=by
   have C:=ai.o;unfold C8 at C;cases V:us[c]? with
   |none=>rw[V] at C;cases C
   |some a =>
    rw[V] at C;have ad:(if us2[d]? =some a then Mo.six (us++us2) else none)=some R:=C;by_cases bh:us2[d]? =some a
    ·exact⟨(tR.1 V).1,(tR.1 bh).1⟩
    rw[if_neg bh] at ad;cases ad
  have f5:=Ae (fun W (ay:Ab No J W)=>QJ (Z:=O) #[.int .u8 74,.string name,.slice an ao ap,.int .u8 sign,.int .u8 mark,.bool (uB wit),.int .i64 (uN wit),.string ⟨(uS wit).toArray⟩,.int .i64 (d:Int),.int .i64 (M:Int),.int .i64 (P:Int),.int .i64 (c:Int)] c d rfl rfl (.slice br aq be) (.slice bm bg a7) A B W (ah.o.Ag ay) (ca.o.Ag ay) (by omega) (by omega)
   (fun e F=>by have:=Mb K.o e (by rw[I.o];exact F);omega) (fun e F=>by have:=Mb bv.o e (by rw[a3.o];exact F);omega) us us2 (fun e F=>(Cg K.o e (by rw[I.o];exact F)).1) (fun e F=>(Cg bv.o e (by rw[a3.o];exact F)).1) (by have:=K.o.six;omega) (by have:=bv.o.six;omega)
   (fun e F=>by have:=(Cg K.o e (by rw[I.o];exact F)).2.1;omega) (fun e F=>by have:=(Cg bv.o e (by rw[a3.o];exact F)).2.1;omega) (by rw[←I.o,←a3.o,Kh,Kh];exact db.1) (uJ (Po c d B A) db.2) (bd.o.up ay.size))
  have ba:xR (Ad (Bw c d A B)=Ad (Bg f (.join c d E U))):=by show _=_;rw[←I.o,←a3.o];exact (G6 (Bc _) (Bc _)).canon
  rw[ba.o] at f5;clear db ho hq;go_wp21
  go_region_held3 (fun w'=>w'.cell? ⟨u.heap.size,0,none⟩=some (.int .u8 74)∧w'.cell? ⟨u.heap.size,1,none⟩=some (.string name)∧w'.cell? ⟨u.heap.size,2,none⟩=some (.slice an ao ap)∧w'.cell? ⟨u.heap.size,3,none⟩=some (.int .u8 sign)∧w'.cell? ⟨u.heap.size,4,none⟩=some (.int .u8 mark)∧w'.cell? ⟨u.heap.size,5,none⟩=some (.bool (uB wit))∧w'.cell? ⟨u.heap.size,6,none⟩=some (.int .i64 (uN wit))∧w'.cell? ⟨u.heap.size,7,none⟩=some (.string ⟨(uS wit).toArray⟩)∧w'.cell? ⟨u.heap.size,8,none⟩=some (.int .i64 (d:Int))∧w'.cell? ⟨u.heap.size,9,none⟩=some (.int .i64 (M:Int))∧w'.cell? ⟨u.heap.size,10,none⟩=some (.int .i64 (P:Int))∧w'.cell? ⟨u.heap.size,11,none⟩=some (.int .i64 (c:Int))∧w'.cell? ⟨g,bs+M,none⟩=some (.slice br aq be)∧w'.cell? ⟨g,bs+P,none⟩=some (.slice bm bg a7)) (go_keep)
   (first
     |(go_at_call 133
       refine (f5.o _ (Ab.refl No J).drew).mono ?_;rintro e w1 ⟨bw,rfl,T,z⟩;have ec:=(z.cell D xT).trans r0;have ed:=(z.cell D xT).trans r1;have ee:=(z.cell D xT).trans r2;have ef:=(z.cell D xT).trans ch;have hr:=(z.cell D xT).trans ci;have hs:=(z.cell D xT).trans cj;have ht:=(z.cell D xT).trans r6;have hu:=(z.cell D xT).trans ck;have hw:=(z.cell D xT).trans cl;have hx:=(z.cell D xT).trans cm;have hy:=(z.cell D xT).trans b9;have hz:=(z.cell D xT).trans cn;have h0:=(z.cell bf xT).trans bu;have i3:=(z.cell bf xT).trans da;obtain⟨b6,b7,rfl⟩:∃eg eh,bw=.slice eg (Ad (Bg f (.join c d E U))).length eh:=(by obtain⟨a,h1,e,_⟩:=T;exact⟨_,_,e⟩);have az:=Ae T;have a0:xR (Ab No u w1):=N.o.drew.seq z;clear T z))
  go_wp21;go_meet;exact⟨_,_,_,rfl,az,a0⟩
 |uni E U =>
  obtain⟨hv,a8,d2⟩:=bo.o;replace hv:verb=85:=hv;subst hv;obtain⟨M,e1,a2,br,aq,be,g,bs,rfl,hg,ar,au,d3,av,bt⟩:=HSub.o _ _ a8;replace e1:one=(M:Int):=e1;subst e1;obtain⟨us,ac,aw,ag⟩:=ae.o.ok E bt;have bu:=(N.o.cell hg xT).trans ar;have bf:g<J.heap.size:=tU hg N.o.size;have ah:=Ae (au.Ag N.o);have d4:=Bm M
  have d5:(M:Int)<(i:Int):=by omega
  have d6:ak≤9223372036854775807:=by unfold maxLen at av;omega
  have K:=Ae aw;obtain⟨A,Y⟩:∃A,Ad (Bg f E)=A:=⟨_,rfl⟩;have I:=Ae Y;rw[Y] at ah ag;clear au av ar Y aw;obtain⟨P,e2,hi,bm,bg,a7,hj,hk,ax,hl,co,cp,d7,d8,d9⟩:=HSub.o _ _ d2;injection ax with ax;injection ax with ax ea;subst ax ea;replace e2:two=(P:Int):=e2;subst e2;obtain⟨us2,cq,cr,ct⟩:=ae.o.ok U d9;have da:=(N.o.cell hg xT).trans co;have ca:=Ae (cp.Ag N.o);have hm:=Bm P
  have hn:(P:Int)<(i:Int):=by omega
  have bv:=Ae cr;obtain⟨B,hB⟩:∃B,Ad (Bg f U)=B:=⟨_,rfl⟩;have a3:=Ae hB;rw[hB] at ca ct;clear cp d8 co hB cr d7;obtain⟨R,ab,a9,_⟩:=ae.o.ok _ (tV bc.o);have ai:xR (us2=us):=by
   show _=_;have C:(A7 ft E).bind (fun ts=>(A7 ft U).bind fun us=>if ts=us then some ts else none)=some R:=ab;rw[ac] at C;have ad:(A7 ft U).bind (fun eb=>if us=eb then some us else none)=some R:=C;rw[cq] at ad;have f6:(if us=us2 then some us else none)=some R:=ad;by_cases bh:us=us2
   ·exact bh.symm
   rw[if_neg bh] at f6;cases f6
  have h2:=ai.o;subst h2;clear ab a9 ac cq ai;obtain⟨_,_,al,h3,f7,-⟩:=id ca.o;injection al with e4 e5 ei;subst e4 ei;obtain⟨_,dc⟩:∃n,B.length=n:=⟨_,rfl⟩;rw[dc] at e5;subst e5;have cg:=Ae dc;rw[dc] at ct h3;have i4:a7≤9223372036854775807:=by unfold maxLen at f7;omega
  clear f7 dc;have ba:xR (Ad (Bg f (.uni E U))=Bu B A):=by show _=_;rw[E5 _ (by rw[←I.o];exact Ap _),←I.o,←a3.o];exact (A9.append (Bc _).symm (Bc _).symm).canon
  have ej:=Ae b9;have h4:=Ae da;go_wp21;clear r0 r1 r2 ch ci cj r6 ck cl cm b9 cn bu da;go_loopg [8,9] bg (fun a4 b5 h5 cu=>∃j:Nat,j+a4=bg∧h5=.int .i64 (j:Int)∧xR (Ct O cu b5 (Bu (B.take j) A))∧Ab No J cu)
  case atStart=>exact⟨0,by omega,rfl,ah,Ab.refl _ _⟩
  obtain⟨j,h6,rfl,af,L⟩:=hrel;have cw:=(L.cell D xT).trans ej.o;have f8:=(L.cell bf xT).trans h4.o;by_cases ek:gk=0
  ·subst ek;have el:¬(j:Int)<(bg:Int):=(by omega);have bn:xR (Ct O wr u8 (Ad (Bg f (.uni E U)))):=(by have C:=af.o;rw[show j=B.length by rw[cg.o];omega,vH,←ba.o] at C;exact C);have em:=Ae (N.o.seq L);clear L af;obtain⟨b6,b7,rfl⟩:∃a c,u8=.slice a (Ad (Bg f (.uni E U))).length c:=(by obtain⟨a,c,e,_⟩:=bn.o;exact⟨_,_,e⟩);go_wp21;go_meet;exact⟨_,_,_,rfl,bn,em⟩
  obtain⟨a4,rfl⟩:=Bx ek;have el:(j:Int)<(bg:Int):=by omega
  have h7:=Bm j
  obtain⟨x,bx⟩:∃x,B[j]? =some x:=⟨_,tT (by have:=cg.o;omega)⟩;obtain⟨_,_,al,_,_,am⟩:=ca.o.Ag L;injection al with en e2 e3;subst en;obtain⟨dd,de,bz,b0,b1,rfl,eo,ep,er,cx⟩:=am j x bx;have bi:=Ae bx;have cb:=Ae cx;have a5:=Ae L;have es:u.heap.size<wr.heap.size:=tU D L.size;have h8:g<wr.heap.size:=tU bf L.size;have bj:=Ae (fun W (ay:Ab No wr W)=>kX (Z:=O) (A:=A) (B:=B) (us:=us2) ag (by rw[cg.o];exact ct) (by rw[←I.o];exact Ap _) (fun e F=>Cg K.o e (by rw[I.o];exact F)) (fun e F=>Cg bv.o e (by rw[a3.o];exact F)) (by rw[←I.o,←a3.o,Kh,Kh];have:=K.o.rows;have:=bv.o.rows;omega) K.o.six (j:=j) (e:=x) bi.o W u8 (.slice bz b0 b1) (af.o.Ag ay) (cb.o.Ag ay) (bd.o.up (a5.o.seq ay).size));clear L am e2 e3 cx bx;go_wp21
  go_region_held3 (fun w'=>w'.cell? ⟨u.heap.size,10,none⟩=some (.int .i64 (P:Int))∧w'.cell? ⟨g,bs+P,none⟩=some (.slice (some ⟨dd,de,none⟩) bg a7)∧w'.cell? ⟨dd,de+j*2,none⟩=some (.slice bz b0 b1)∧w'.cell? ⟨dd,de+j*2+1,none⟩=some (.int .i64 x.2)) (go_keep)
   (first
     |(go_at_call 96
       refine (bj.o _ (Ab.refl No wr).drew).mono ?_;rintro e b2 ⟨bw,rfl,T,z⟩;have ec:=(z.cell es xT).trans cw;have ed:=(z.cell h8 xT).trans f8;have ee:=(z.cell eo xT).trans ep;have ef:=(z.cell eo xT).trans er;have az:=Ae T;have a0:xR (Ab No J b2):=a5.o.drew.seq z;clear z T))
  clear cw f8 ep er ec ed ee ef;go_wp21;go_roundg a4
  case measure=>omega
  exact⟨j+1,by omega,by go_num,az,a0.o⟩
 |grp cs s E =>
  obtain⟨hv,Gs,b8,a8⟩:=bo.o;replace hv:verb=71:=hv;replace Gs:cs=cols:=Gs.symm;replace b8:s=if sign=115 then some sum else none:=b8
  subst hv Gs;have f9:=Ae b8;clear b8;obtain⟨M,e1,a2,br,aq,be,g,bs,rfl,hg,ar,au,d3,av,bt⟩:=HSub.o _ _ a8;replace e1:one=(M:Int):=e1;subst e1;obtain⟨us,ac,aw,ag⟩:=ae.o.ok E bt;have bu:=(N.o.cell hg xT).trans ar;have bf:g<J.heap.size:=tU hg N.o.size;have ah:=Ae (au.Ag N.o);have d4:=Bm M
  have d5:(M:Int)<(i:Int):=by omega
  have d6:ak≤9223372036854775807:=by unfold maxLen at av;omega
  have K:=Ae aw;obtain⟨A,Y⟩:∃A,Ad (Bg f E)=A:=⟨_,rfl⟩;have I:=Ae Y;rw[Y] at ah ag;clear au av ar Y aw;obtain⟨R,ab,a9,_⟩:=ae.o.ok _ (tV bc.o);have ai:xR (Fe cs s us=some R):=by show _=_;have C:(A7 ft E).bind (Fe cs s)=some R:=ab;rw[ac] at C;exact C
  clear ab a9 ac;obtain⟨ks,df,cf⟩:∃ks,Bq cs us=some ks∧(sign=115→sum<us.length):=by
   have C:=ai.o;unfold Fe at C;cases hp:Bq cs us with
   |none=>rw[hp] at C;cases C
   |some ks =>
    rw[hp] at C;refine⟨ks,rfl,fun h=>?_⟩;rw[f9.o,if_pos h] at C;have ad:(if us[sum]? =some false then Mo.six (ks++[false]) else none)=some R:=C;by_cases bh:us[sum]? =some false
    ·exact (tR.1 bh).1
    rw[if_neg bh] at ad;cases ad
  have bk:=Ae (fun W (ay:Ab No J W)=>LD (Z:=O) #[.int .u8 71,.string name,.slice an ao ap,.int .u8 sign,.int .u8 mark,.bool (uB wit),.int .i64 (uN wit),.string ⟨(uS wit).toArray⟩,.int .i64 (sum:Int),.int .i64 (M:Int),.int .i64 two,.int .i64 (col:Int)] cs sign sum an ao ap rfl rfl rfl s f9.o (.slice br aq be) A W (ah.o.Ag ay) (fy.o.Ag ay) (by omega) (fun e F=>(Pm K.o df e (by rw[I.o];exact F)).1) c7.o.2.2.1 us ks (fun e F=>(Cg K.o e (by rw[I.o];exact F)).1) (by have:=K.o.six;omega)
   (fun e F=>(Pm K.o df e (by rw[I.o];exact F)).2) (by rw[(Dc df).2,tZ];exact c7.o.2.2.1) (by rw[←I.o];exact Ap _) (fun h e F=>by have C:=Mb K.o e (by rw[I.o];exact F);have:=cf h;omega) (fun k i=>by rw[←I.o];exact Zu K.o cs s k i) (fun e F=>eS K.o s e (by rw[I.o];exact F)) (fun e F=>by have:=(Cg K.o e (by rw[I.o];exact F)).2;omega) (bd.o.up ay.size))
  have ba:xR (Ad (yE cs s A)=Ad (Bg f (.grp cs s E))):=by show _=_;rw[←I.o,Nx (Bc _)];rfl
  rw[ba.o] at bk;clear df cf;go_wp21
  go_region_held3 (fun w'=>w'.cell? ⟨u.heap.size,0,none⟩=some (.int .u8 71)∧w'.cell? ⟨u.heap.size,1,none⟩=some (.string name)∧w'.cell? ⟨u.heap.size,2,none⟩=some (.slice an ao ap)∧w'.cell? ⟨u.heap.size,3,none⟩=some (.int .u8 sign)∧w'.cell? ⟨u.heap.size,4,none⟩=some (.int .u8 mark)∧w'.cell? ⟨u.heap.size,5,none⟩=some (.bool (uB wit))∧w'.cell? ⟨u.heap.size,6,none⟩=some (.int .i64 (uN wit))∧w'.cell? ⟨u.heap.size,7,none⟩=some (.string ⟨(uS wit).toArray⟩)∧w'.cell? ⟨u.heap.size,8,none⟩=some (.int .i64 (sum:Int))∧w'.cell? ⟨u.heap.size,9,none⟩=some (.int .i64 (M:Int))∧w'.cell? ⟨u.heap.size,10,none⟩=some (.int .i64 two)∧w'.cell? ⟨u.heap.size,11,none⟩=some (.int .i64 (col:Int))∧w'.cell? ⟨g,bs+M,none⟩=some (.slice br aq be)) (go_keep)
   (first
     |(go_at_call 134
       refine (bk.o _ (Ab.refl No J).drew).mono ?_;rintro e w1 ⟨bw,rfl,T,z⟩;have ec:=(z.cell D xT).trans r0;have ed:=(z.cell D xT).trans r1;have ee:=(z.cell D xT).trans r2;have ef:=(z.cell D xT).trans ch;have hr:=(z.cell D xT).trans ci;have hs:=(z.cell D xT).trans cj;have ht:=(z.cell D xT).trans r6;have hu:=(z.cell D xT).trans ck;have hw:=(z.cell D xT).trans cl;have hx:=(z.cell D xT).trans cm;have hy:=(z.cell D xT).trans b9;have hz:=(z.cell D xT).trans cn;have h0:=(z.cell bf xT).trans bu;obtain⟨b6,b7,rfl⟩:∃eg eh,bw=.slice eg (Ad (Bg f (.grp cs s E))).length eh:=(by obtain⟨a,h1,e,_⟩:=T;exact⟨_,_,e⟩);have az:=Ae T;have a0:xR (Ab No u w1):=N.o.drew.seq z;clear T z))
  go_wp21;go_meet;exact⟨_,_,_,rfl,az,a0⟩
 |sel c P aj E=>?_
 |pick cs E=>?_
 |dist E=>?_
 focus
  obtain⟨hv,et,eu,ev,bq,bp,a8⟩:=bo.o;replace hv:verb=83:=hv;replace et:sign=K6 P:=et;replace eu:mark=Vt aj:=eu;replace ev:wit=U1 aj:=ev;replace bq:sum=Pk aj:=bq;replace bp:c=col:=bp.symm;subst hv et eu ev bq bp
 rotate_left
 focus
  obtain⟨hv,Gs,a8⟩:=bo.o;replace hv:verb=80:=hv;subst hv;replace Gs:cs=cols:=Gs.symm;subst Gs
 rotate_left
 focus
  obtain⟨hv,a8⟩:=bo.o;replace hv:verb=68:=hv;subst hv
 rotate_left
 all_goals
  obtain⟨M,e1,a2,br,aq,be,g,bs,rfl,hg,ar,au,d3,av,bt⟩:=HSub.o _ _ a8;replace e1:one=(M:Int):=e1;subst e1;obtain⟨us,ac,aw,ag⟩:=ae.o.ok E bt;have bu:=(N.o.cell hg xT).trans ar;have bf:g<J.heap.size:=tU hg N.o.size;have ah:=Ae (au.Ag N.o);have d4:=Bm M
  have d5:(M:Int)<(i:Int):=by omega
  have d6:ak≤9223372036854775807:=by unfold maxLen at av;omega
  have K:=Ae aw;obtain⟨A,Y⟩:∃A,Ad (Bg f E)=A:=⟨_,rfl⟩;have I:=Ae Y;rw[Y] at ah ag;clear au av ar Y aw;obtain⟨_,_,al,h9,ga,-⟩:=id ah.o;injection al with e4 e5 ei;subst e4 ei;obtain⟨_,dg⟩:∃n,A.length=n:=⟨_,rfl⟩;rw[dg] at e5;subst e5;have cy:=Ae dg;rw[dg] at ag h9;have i5:be≤9223372036854775807:=by unfold maxLen at ga;omega
  clear ga dg
 focus
  obtain⟨R,ab,a9,_⟩:=ae.o.ok _ (tV bc.o);have ai:xR (Eh c aj us=some R):=by show _=_;have C:(A7 ft E).bind (Eh c aj)=some R:=ab;rw[ac] at C;exact C
  clear ab a9 ac;obtain⟨G,a1⟩:∃G,G=FP c P aj:=⟨_,rfl⟩;have ba:xR (Ad (Bg f (.sel c P aj E))=Bu (dl G A A.length) []):=by subst a1;show _=_;rw[QF,E5 _ (acc:=[]) trivial,vJ,←I.o];rw[LC];exact (Iw (Bc _)).canon.symm
  have bk:=Ae a1;clear a1
 rotate_left
 focus
  obtain⟨R,ab,a9,_⟩:=ae.o.ok _ (tV bc.o);have ai:xR (Bq cs us=some R):=by show _=_;have C:(A7 ft E).bind (Bq cs)=some R:=ab;rw[ac] at C;exact C
  clear ab a9 ac;obtain⟨G,a1⟩:∃G,G=TG cs:=⟨_,rfl⟩;have ba:xR (Ad (Bg f (.pick cs E))=Bu (dl G A A.length) []):=by subst a1;show _=_;rw[QF,E5 _ (acc:=[]) trivial,vJ,←I.o];rw[CX];exact (Ej (Bc _)).canon.symm
  have bk:=Ae a1;clear a1
 rotate_left
 focus
  obtain⟨G,a1⟩:∃G,G=TH:=⟨_,rfl⟩;have ba:xR (Ad (Bg f (.dist E))=Bu (dl G A A.length) []):=by subst a1;show _=_;rw[QF,E5 _ (acc:=[]) trivial,vJ,←I.o];rw[CY];rfl
  have bk:=Ae a1;clear a1
 rotate_left
 all_goals
  have ia:=Ae cm;have ib:=Ae r0;have ic:=Ae r2;have ie:=Ae ch;have ig:=Ae ci;have ih:=Ae cj;have ii:=Ae r6;have ij:=Ae ck;have ik:=Ae cl;have ej:=Ae b9;have il:=Ae cn;have im:=Ae r1;go_wp21;clear r0 r1 r2 ch ci cj r6 ck cl cm b9 cn bu;go_loopg [8,11] aq (fun a4 b5 io cu=>∃j:Nat,j+a4=aq∧io=.int .i64 (j:Int)∧xR (Ct O cu b5 (Bu (dl G A j) []))∧Ab No J cu)
  case atStart=>exact⟨0,by omega,rfl,Ae (by rw[FN];exact Mc _),Ab.refl _ _⟩
  obtain⟨j,h6,rfl,af,L⟩:=hrel;by_cases ek:gk=0
  ·subst ek;have el:¬(j:Int)<(aq:Int):=(by omega);have C:=af.o;rw[show j=A.length by rw[cy.o];omega,←ba.o] at C;have bn:=Ae C;clear C;have em:=Ae (N.o.seq L);clear L af;obtain⟨b6,b7,rfl,_⟩:=id bn.o;go_wp21;go_meet;exact⟨_,_,_,rfl,bn,em⟩
  obtain⟨a4,rfl⟩:=Bx ek;have el:(j:Int)<(aq:Int):=by omega
  have h7:=Bm j
  obtain⟨x,bx⟩:∃x,A[j]? =some x:=⟨_,tT (by have:=cy.o;omega)⟩;obtain⟨_,_,al,_,_,am⟩:=ah.o.Ag L;injection al with en e2 e3;subst en;obtain⟨dd,de,bz,b0,b1,rfl,eo,ep,er,cx⟩:=am j x bx;have ew:=(L.cell D xT).trans ib.o;have gb:=(L.cell D xT).trans im.o;have U:=(L.cell D xT).trans ic.o;have gc:=(L.cell D xT).trans ie.o;have gd:=(L.cell D xT).trans ig.o;have gf:=(L.cell D xT).trans ih.o;have gg:=(L.cell D xT).trans ii.o;have gh:=(L.cell D xT).trans ij.o;have gi:=(L.cell D xT).trans ik.o;have gj:=(L.cell D xT).trans ia.o;have cw:=(L.cell D xT).trans ej.o;have gl:=(L.cell D xT).trans il.o;have bi:=Ae bx;have cb:=Ae cx;have a5:=Ae L;have es:u.heap.size<wr.heap.size:=tU D L.size;clear L am e2 e3 cx bx
 ·obtain rfl:=bk.o;have ex:=tV bi.o;have gm:=YD K.o ai.o x (by rw[I.o];exact ex);have ey:=Ae gm;clear gm;go_wp21;refine (QA (Z:=O) 83 name an ao ap (M:Int) two c P aj (.slice bz b0 b1) x.1 wr cb.o ey.o.1 ey.o.2.1 ey.o.2.2 (bd.o.up a5.o.size)).mono ?_;rintro e w5 ⟨rfl,bb⟩;have cc:xR (Ab No J w5):=a5.o.seq bb;have dh:=Ae (af.o.Ag bb);have ip:=Ae (cb.o.Ag bb);clear bb ew gb U gc gd gf gg gh gi gj cw gl;cases di:M6 c P aj x.1 with
  |true =>
   have bj:=Ae (QK (Z:=O) (g:=FP c P aj) (A:=A) (us:=us) (by rw[cy.o];exact ag) (fun e F y a6=>by
    have C:=Cg K.o e (by rw[I.o];exact F);unfold FP at a6;split at a6
    ·injection a6 with a6;rw[←a6];exact⟨C.1,by omega,by omega⟩
    cases a6) (by
    rw[←I.o,LC];have C:=RO (p:=M6 c P aj) (l:=Ad (Bg f E)) (Nh fun e F=>by have:=(Cg K.o e F).2.1;omega);rw[Kh] at C;have:=K.o.rows;omega) K.o.six (j:=j) (e:=x) (x:=x) bi.o (by unfold FP;rw[if_pos di]) w5 u8 (.slice bz b0 b1) dh.o ip.o (bd.o.up cc.o.size))
   clear di;go_wp21;refine bj.o.mono ?_;rintro e b2 ⟨bw,rfl,T,z⟩;have az:=Ae T;have a0:xR (Ab No J b2):=cc.o.seq z;clear T z;go_wp21;go_roundg a4
   case measure=>omega
   exact⟨j+1,by omega,by go_num,az,a0.o⟩
  |false =>
   have mP:xR (Ct O w5 u8 (Bu (dl (FP c P aj) A (j+1)) [])):=(by rw[kW bi.o (by unfold FP;rw[if_neg (by rw[di];simp)])];exact dh);clear di;go_wp21;go_roundg a4
   case measure=>omega
   exact⟨j+1,by omega,by go_num,mP,cc.o⟩
 ·obtain rfl:=bk.o;go_wp21;have ex:=tV bi.o;have gn:=Pm K.o ai.o x (by rw[I.o];exact ex);refine (Vs (Z:=O) (.slice bz b0 b1) (.slice an ao ap) x.1 cs wr cb.o (fy.o.Ag a5.o) gn.1 (by have:=c7.o.2.2.1;show cs.length≤1000;have i6:cs.length≤6:=this;omega) (bd.o.up a5.o.size)).mono ?_;rintro e w5 ⟨iq,rfl,ez,bb⟩;have cc:xR (Ab No J w5):=a5.o.seq bb;have dh:=Ae (af.o.Ag bb);have p0:=(bb.cell es xT).trans ew;have ir:=Ae ez;obtain⟨_,_,rfl⟩:∃a c,iq=.slice a (Ao cs x.1).length c:=by obtain⟨a,c,e,_⟩:=ez;exact⟨_,_,e⟩
  have bj:=Ae (QK (Z:=O) (g:=TG cs) (A:=A) (us:=R) (by rw[cy.o];exact ag) (fun e F y a6=>by have C:=Cg K.o e (by rw[I.o];exact F);have ad:=Pm K.o ai.o e (by rw[I.o];exact F);have:(Ao cs e.1,e.2)=y:=(by injection a6);rw[←this];exact⟨ad.2,by omega,by omega⟩) (by rw[←I.o,CX,Xx,Kh];have:=K.o.rows;omega) (by rw[(Dc ai.o).2,tZ];exact c7.o.2.2.1) (j:=j) (e:=x) (x:=(Ao cs x.1,x.2)) bi.o rfl w5 u8 _ dh.o ir.o (bd.o.up cc.o.size));generalize (Ao cs x.1).length=i7 at bj⊢;clear ez bb gn ew gb U gc gd gf gg gh gi gj cw gl;go_wp21;refine bj.o.mono ?_;rintro e b2 ⟨bw,rfl,T,z⟩;have az:=Ae T;have a0:xR (Ab No J b2):=cc.o.seq z;clear T z;go_wp21;go_roundg a4
  case measure=>omega
  exact⟨j+1,by omega,by go_num,az,a0.o⟩
 obtain rfl:=bk.o;go_wp21;have bj:=QK (Z:=O) (g:=TH) (A:=A) (us:=us) (by rw[cy.o];exact ag) (fun e F y a6=>by
  have C:=Cg K.o e (by rw[I.o];exact F);have:(e.1,(1:Int))=y:=by injection a6
  rw[←this];exact⟨C.1,by omega,by omega⟩) (by rw[←I.o,CY];have:=IA K.o.nn;have:=K.o.rows;omega) K.o.six (j:=j) (e:=x) (x:=(x.1,1)) bi.o rfl wr u8 (.slice bz b0 b1) af.o cb.o (bd.o.up a5.o.size)
 refine bj.mono ?_;rintro e b2 ⟨bw,rfl,T,z⟩;have az:=Ae T;have a0:xR (Ab No J b2):=a5.o.seq z;clear T z;go_wp21;go_roundg a4
 case measure=>omega
 exact⟨j+1,by omega,by go_num,az,a0.o⟩
end Go.Proofs.YtdinjjmcmfjbfaaGreatDoor
