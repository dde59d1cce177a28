import Derived.Test.YtdinjjmcmfjbfaaGreatDoorVlJ
import Derived.Deep.DeepCutAuto
import Derived.Deep.CutBlock
set_option maxRecDepth 100000
set_option maxHeartbeats 4000000
namespace Go.Proofs.YtdinjjmcmfjbfaaGreatDoor
open Go.RowKit
open Mo (V Row Bag Q L3 Cy ty A9 Dp Bt Md Hi B0 Nr Af Cg Bd Ay)
variable {Z:Nat→Prop}
theorem MG (ft:List UInt8→Option (List Bool))(f:List UInt8→Bag)(S:List Q)(pv tv:Value)(ts:List UT)(w:World)(eu:Gi Z w pv S)(gi:S.length≤1000)(ev:S≠[])(ew:Lj Z w tv ts)(ck:ts.length≤1000)
 (hf:∀nm,.tab nm∈S→∃(k:Nat) (t:UT),Zh ts nm=(k:Int)∧ts[k]? =some t∧t.rows=Af (f nm)) (hB:kB ft f S) (ex:Ga Z w) :
 Calls Tryz.prog 92 #[pv,tv] w fun e w'=>∃v q,S.getLast? =some q∧e=.returned v∧Rc Z w (Af (Bd f q)) v w':=by
 have ey:=Ad eu;have ez:=Ad ew;have gj:=Ad hf;have ad:=Ad hB;have gl:=Ad ck;have gm:=Ad ex
 obtain⟨_,gn,rfl,go,e0,-⟩:=eu
 obtain⟨n,cl⟩:∃n,S.length=n:=⟨_,rfl⟩
 have c9:=Ad cl
 rw[cl] at ey go gi⊢
 have h2:gn≤9223372036854775807:=by unfold maxLen at e0;omega
 obtain⟨_,gp,rfl,gq,e2,-⟩:=ew
 obtain⟨e3,da⟩:∃n,ts.length=n:=⟨_,rfl⟩
 have gr:=Ad da
 rw[da] at ez gq⊢
 have h3:gp≤9223372036854775807:=by unfold maxLen at e2;omega
 clear da ck
 have h4:1≤n:=by rw[←cl];exact List.length_pos_iff.2 ev
 obtain⟨gs,gu,gv,gw,gx⟩:=info_parts WW
 clear cl e0 hf hB e2 ex ev
 go_enter Tryz.func92,Tryz.ntmps92
 go_wp2_with fail
 go_loopg [5,6] n (fun k db dc wr=>∃(i:Nat) (va:Option Addr) (ae:Nat) (vs:List Value),i+k=n∧dc=.int .i64 (i:Int)∧db=.slice va i ae∧oH (wr.ownsRow w.heap.size 195 1 db i vs)∧oH (Cf (Zp Z db) wr vs ((S.take i).map fun q=>Af (Bd f q)))∧Ab No w wr)
 case atStart=>exact⟨0,none,0,[],by omega,rfl,rfl,World.ownsRow_nil _ _ _ _,Ad ⟨rfl,fun k l ck=>by simp at ck⟩,Ab.refl _ _⟩
 case round =>
  obtain⟨i,va,ae,vs,_,rfl,rfl,hO,bm,a6⟩:=hrel
  by_cases dd:gk=0
  ·subst dd
   have gy:¬(i:Int)<(n:Int):=by omega
   obtain⟨q,de⟩:∃q,S[n-1]? =some q:=⟨_,kT (by have:=c9.o;omega)⟩
   have gz:oH (S.getLast? =some q):=by show _=_;rw[List.getLast?_eq_getElem?,c9.o];exact de
   have e4:((S.take i).map fun q=>Af (Bd f q))[n-1]? =some (Af (Bd f q)):=by rw[kX,lM,if_pos (by omega),de];rfl
   obtain⟨cm,df,bb,cn,bc⟩:=bm.o.2 _ _ e4
   obtain⟨g,o,rfl,hg,_,-,e6,co,bd⟩:=Zi hO.o cn
   have af:oH (Dt Z wr (.slice cm df bb) (Af (Bd f q))):=bc.Lv fun _ _ u=>.inl u
   have cp:=Ad a6
   have h5:ae≤9223372036854775807:=by unfold maxLen at co;omega
   rw[show n-1=i-1 by omega] at bd
   clear a6 bc cn de e4 co;go_wp2_with fail;go_ret
   exact⟨_,q,gz.o,rfl,af.o,cp.o⟩
  ·obtain⟨k,rfl⟩:∃k,gk=k+1:=⟨gk-1,by omega⟩
   have gy:(i:Int)<(n:Int):=by omega
   have h6:(0:Int)≤(i:Int):=by omega
   obtain⟨q,dg⟩:∃q,S[i]? =some q:=⟨_,kT (by have:=c9.o;omega)⟩
   obtain⟨G,bn⟩:∃G,Zp Z (.slice va i ae)=G:=⟨_,rfl⟩
   have dh:∀k,k<w.heap.size→G k→Z k:=fun k dd u=>by
    rw[←bn] at u
    rcases u with u|u
    ·exact u
    ·have:=Ao hO.o k u;omega
   have g0:oH (Ga G wr):=fun k u=>by
    rw[←bn] at u
    rcases u with u|u
    ·exact gm.o.up a6.size k u
    ·exact (hO.o.lt k u).2
   rw[bn] at bm
   have e7:=Ad ((ez.o.Lv dh).Ah a6)
   obtain⟨_,_,L,_,_,P⟩:=(ey.o.Lv dh).Ah a6
   injection L with e1 M al
   subst e1
   obtain⟨b,o,⟨verb,name,cols,sign,mark,wit,sum,one,two,col⟩,cv,rfl,_,V,di,e8,e9⟩:=P i q dg
   obtain⟨be,bf,bg,rfl⟩:∃a n c,cv=.slice a n c:=by obtain⟨a,c,e,_⟩:=di;exact⟨_,_,_,e⟩
   have bd:wr.cell? ⟨b,o+i*12,none⟩=some (.int .u8 verb):=V 0 _ rfl;have c1:wr.cell? ⟨b,o+i*12+1,none⟩=some (.string name):=V 1 _ rfl;have c2:wr.cell? ⟨b,o+i*12+2,none⟩=some (.slice be bf bg):=V 2 _ rfl;have fa:wr.cell? ⟨b,o+i*12+3,none⟩=some (.int .u8 sign):=V 3 _ rfl;have fb:wr.cell? ⟨b,o+i*12+4,none⟩=some (.int .u8 mark):=V 4 _ rfl;have fc:wr.cell? ⟨b,o+i*12+5,none⟩=some (.bool (uB wit)):=V 5 _ rfl;have c6:wr.cell? ⟨b,o+i*12+6,none⟩=some (.int .i64 (uN wit)):=V 6 _ rfl;have fd:wr.cell? ⟨b,o+i*12+7,none⟩=some (.string ⟨(uS wit).toArray⟩):=V 7 _ rfl;have fe:wr.cell? ⟨b,o+i*12+8,none⟩=some (.int .i64 (sum:Int)):=V 8 _ rfl;have ff:wr.cell? ⟨b,o+i*12+9,none⟩=some (.int .i64 one):=V 9 _ rfl;have fg:wr.cell? ⟨b,o+i*12+10,none⟩=some (.int .i64 two):=V 10 _ rfl;have fh:wr.cell? ⟨b,o+i*12+11,none⟩=some (.int .i64 (col:Int)):=V 11 _ rfl;have fi:oH (I2 G wr (.slice be bf bg) cols):=di;have cq:=Ad e9
   have fj:=Ad e8;have cp:=Ad a6;have aq:=Ad dg;have dj:=Ad bn;clear a6 P M al V di e8 e9 dg dh bn
   have g1:i+1≤maxLen:=by unfold maxLen;omega
   have g2:(i+1)*24≤140737488355328:=by omega
   have fk:oH ((S.take (i+1)).map (fun q=>Af (Bd f q))=(S.take i).map (fun q=>Af (Bd f q))++[Af (Bd f q)]):=by
    show _=_
    rw[lL,aq.o,lF];rfl
   go_upto_block 2 with fail
   go_cut [8] (fun ar fl=>∃a m c,ar=.slice a m c∧oH (Dt G fl ar (Af (Bd f q)))∧oH (Ab No wr fl))
   case rest =>
    obtain⟨bo,fm,bp,rfl,bc,cr⟩:=hcut
    have R:=Ak hO.o cr.o (fun _ _ u=>u.elim)
    have h7:=cp.o.size;have h8:=cr.o.size;clear bd c1 c2 fa fb fc c6 fd fe ff fg fh
    go_wp2_with (first
     |(at_builtin;refine wpList_append_own_at _ rfl _ _ 187 rfl w.heap.size 195 gs (.slice none 0 0) 1 24 Tryz.underlying187 gu gv gw gx rfl (by decide) _ _ _ rfl (R.alloc _) ⟨wc.heap.size,0,none⟩ 1 1 [.slice bo fm bp] rfl rfl (cell_one_new _ _ _) (by simp[Value.oneCell']) g1 g2 (by simp;omega) ?_;intro dc w6 fn fo _ g3)
     |fail)
    obtain⟨dk,dm,rfl⟩:∃a c,dc=.slice a (i+1) c:=by
     rcases fn.2 with ⟨_,_⟩|⟨g,cap,cur,e,_⟩
     ·omega
     ·exact⟨_,_,e⟩
    have g4:Ab (fun k=>Value.ownBlock (.slice va i ae)=some k) wc w6:=((Ab.refl _ wc).alloc _).grown fo (fun r e=>.inr e)
    have g5:oH (Ab No w w6):=(cp.o.seq (cr.o.alloc _)).grown fo (fun r e=>.inl (Ao R r e))
    have bq:oH (Cf (Zp Z (.slice dk (i+1) dm)) w6 (vs++[.slice bo fm bp]) ((S.take (i+1)).map fun q=>Af (Bd f q))):=by
     rw[fk.o]
     have E:=((bm.o.Ah cr.o).push bc.o).Lv (Z':=fun k=>G k∨Value.ownBlock (.slice dk (i+1) dm)=some k) fun k dd u=>by
      rcases u with u|u
      ·exact u
      ·rw[←dj.o]
       rcases g3 with dn|dn
       ·exact .inr (dn ▸ u)
       ·rw[dn] at u;injection u with u;simp at u;omega
     refine (E.Br g4 fun k u=>.inl (by rw[←dj.o];exact .inr u)).Lv fun k _ u=>?_
     rcases u with u|u
     ·exact .inl (by rw[←dj.o];exact .inl u)
     ·exact .inr u
    go_roundg k
    case measure=>omega
    case rel=>exact⟨i+1,dk,dm,_,by omega,by go_num,rfl,fn,bq,g5.o⟩
   case first =>
    obtain⟨F,g6⟩:∃F,F=wr:=⟨_,rfl⟩
    subst g6
    have HSub:oH (∀j z,I3 S i j z→∃k:Nat,j=(k:Int)∧k<i∧∃p m c g o,va=some ⟨g,o,none⟩∧g<F.heap.size∧F.cell? ⟨g,o+k,none⟩=some (.slice p m c)∧Dt G F (.slice p m c) (Af (Bd f z))∧i≤ae∧ae≤maxLen∧z∈S):=by
     intro j z g7
     obtain⟨N,e1,am,fp⟩:=g7
     have E:((S.take i).map fun q=>Af (Bd f q))[N]? =some (Af (Bd f z)):=by rw[kX,lM,if_pos am,fp];rfl
     obtain⟨cm,df,bb,cn,bc⟩:=bm.o.2 _ _ E
     obtain⟨g,o,M,hg,_,-,e6,co,bd⟩:=Zi hO.o cn
     exact⟨N,e1,am,cm,df,bb,g,o,M,hg,bd,bc,e6,co,kW fp⟩
    obtain⟨pv0,T⟩:∃x:Array Value,#[.int .u8 verb,.string name,.slice be bf bg,.int .u8 sign,.int .u8 mark,.bool (uB wit),.int .i64 (uN wit),.string ⟨(uS wit).toArray⟩,.int .i64 (sum:Int),.int .i64 one,.int .i64 two,.int .i64 (col:Int)]=x:=⟨_,rfl⟩
    rw[T]
    obtain⟨C,J⟩:∃C,F.alloc (.cells pv0 204)=C:=⟨_,rfl⟩
    have H:oH (Ab No F C):=by rw[←J];exact (Ab.refl No F).alloc _
    have D:F.heap.size<C.heap.size:=by rw[←J];simp
    have r0:C.cell? ⟨F.heap.size,0,none⟩=some (.int .u8 verb):=by rw[←J];exact Bq (by rw[←T];rfl)
    have r1:C.cell? ⟨F.heap.size,1,none⟩=some (.string name):=by rw[←J];exact Bq (by rw[←T];rfl)
    have r2:C.cell? ⟨F.heap.size,2,none⟩=some (.slice be bf bg):=by rw[←J];exact Bq (by rw[←T];rfl)
    have br:C.cell? ⟨F.heap.size,3,none⟩=some (.int .u8 sign):=by rw[←J];exact Bq (by rw[←T];rfl)
    have bs:C.cell? ⟨F.heap.size,4,none⟩=some (.int .u8 mark):=by rw[←J];exact Bq (by rw[←T];rfl)
    have bt:C.cell? ⟨F.heap.size,5,none⟩=some (.bool (uB wit)):=by rw[←J];exact Bq (by rw[←T];rfl)
    have r6:C.cell? ⟨F.heap.size,6,none⟩=some (.int .i64 (uN wit)):=by rw[←J];exact Bq (by rw[←T];rfl)
    have bu:C.cell? ⟨F.heap.size,7,none⟩=some (.string ⟨(uS wit).toArray⟩):=by rw[←J];exact Bq (by rw[←T];rfl)
    have bv:C.cell? ⟨F.heap.size,8,none⟩=some (.int .i64 (sum:Int)):=by rw[←J];exact Bq (by rw[←T];rfl)
    have bw:C.cell? ⟨F.heap.size,9,none⟩=some (.int .i64 one):=by rw[←J];exact Bq (by rw[←T];rfl)
    have bh:C.cell? ⟨F.heap.size,10,none⟩=some (.int .i64 two):=by rw[←J];exact Bq (by rw[←T];rfl)
    have bx:C.cell? ⟨F.heap.size,11,none⟩=some (.int .i64 (col:Int)):=by rw[←J];exact Bq (by rw[←T];rfl)
    rw[J]
    clear J T bd c1 c2 fa fb fc c6 fd fe ff fg fh fk bm;have bz:oH (Ga G C):=g0.o.up H.o.size;have g8:=Ad (fi.o.Ah H.o);have fq:=Ad (e7.o.Ah H.o);clear fi e7
    cases q with
    |tab nm =>
     obtain⟨hv,dp⟩:=cq.o
     replace hv:verb=0:=hv;replace dp:name=⟨nm.toArray⟩:=dp;subst hv dp
     obtain⟨ct,t,fr,dq,fs⟩:=gj.o nm (kW aq.o)
     have fu:=Ad (Ig _ ts nm C fq.o gl.o)
     rw[fr] at fu
     obtain⟨_,_,L,_,_,P⟩:=fq.o
     injection L with e1 M al
     subst e1
     obtain⟨tb,_,_,_,_,rfl,g9,ha,hb,fv,dr⟩:=P ct t dq
     have h9:ct<e3:=by have:=(kS.1 dq).1;have:=gr.o;omega
     have ia:(0:Int)≤(ct:Int):=by omega
     have ib:(ct:Int)<(e3:Int):=by omega
     rw[fs] at dr
     have hc:=Ad dr;clear P M al dr fr dq fs ha hb
     go_wp2_with (first
      |(go_at_call 89;refine fu.o.mono ?_;rintro e ic ⟨rfl,am⟩;have fw:=Ad am;have fv:=(am.cell g9 oI).trans fv;clear am)
      |fail)
     go_meet
     case rel=>exact⟨_,_,_,rfl,Ad (hc.o.Ah fw.o),Ad (H.o.seq fw.o)⟩
    |sel c I O z =>
     obtain⟨hv,ds,dt,du,dv,dw,b0⟩:=cq.o
     replace hv:verb=83:=hv;replace ds:sign=Jp I:=ds;replace dt:mark=T4 O:=dt;replace du:wit=Sw O:=du;replace dv:sum=Ie O:=dv;replace dw:c=col:=dw.symm;subst hv ds dt du dv dw
     obtain⟨N,e1,am,fx,ag,cu,g,dx,rfl,hg,au,av,fy,aw,b1⟩:=HSub.o _ _ b0
     replace e1:one=(N:Int):=e1;subst e1
     obtain⟨us,ax,ay,ah⟩:=ad.o.ok z b1
     have b2:=(H.o.cell hg oI).trans au;have cw:g<C.heap.size:=kV hg H.o.size;have ai:=Ad (av.Ah H.o)
     have fz:(0:Int)≤(N:Int):=by omega
     have f0:(N:Int)<(i:Int):=by omega
     have f1:ae≤9223372036854775807:=by unfold maxLen at aw;omega
     have U:=Ad ay
     obtain⟨A,ab⟩:∃A,Af (Bd f z)=A:=⟨_,rfl⟩
     have K:=Ad ab
     rw[ab] at ai ah
     clear av aw au ab ay
     obtain⟨_,_,L,dy,b3,-⟩:=id ai.o
     injection L with b4 e5 b5
     subst b4 b5
     obtain⟨hd,an⟩:∃n,A.length=n:=⟨_,rfl⟩
     rw[an] at e5
     subst e5;have a7:=Ad an
     rw[an] at ah dy
     have he:cu≤9223372036854775807:=by unfold maxLen at b3;omega
     clear b3 an
     obtain⟨aj,az,b6,_⟩:=ad.o.ok _ (kW aq.o)
     have a0:oH (Dp c O us=some aj):=by
      show _=_
      have E:(A9 ft z).bind (Dp c O)=some aj:=az
      rw[ax] at E;exact E
     clear az b6 ax
     have b7:oH (Af (Bd f (.sel c I O z))=B3 (dl (BI c I O) A A.length) []):=by
      show _=_
      rw[WT,Jo _ (acc:=[]) trivial,mU,←K.o]
      rw[FD];exact (Mo.Hf (Mo.Bv _)).canon.symm
     have dz:=Ad bw;have d0:=Ad r0;have d1:=Ad r2;have d2:=Ad br;have d3:=Ad bs;have d4:=Ad bt;have d5:=Ad r6;have d6:=Ad bu;have d7:=Ad bv;have b8:=Ad bh;have d8:=Ad bx;have d9:=Ad r1;go_wp2_with fail;clear r0 r1 r2 br bs bt r6 bu bv bw bh bx b2
     go_loopg [8,11] ag (fun X ar ea a1=>∃j:Nat,j+X=ag∧ea=.int .i64 (j:Int)∧oH (Dt G a1 ar (B3 (dl (BI c I O) A j) []))∧Ab No C a1)
     case atStart=>exact⟨0,by omega,rfl,Ad (by rw[ME];exact W9 _),Ab.refl _ _⟩
     case round =>
      obtain⟨j,f2,rfl,R,h⟩:=hrel
      by_cases b9:gk=0
      ·subst b9
       have ca:¬(j:Int)<(ag:Int):=by omega
       have af:oH (Dt G wr u8 (Af (Bd f (.sel c I O z)))):=by
        have E:=R.o
        rw[show j=A.length by rw[a7.o];omega,←b7.o] at E
        exact E
       have cb:=Ad (H.o.seq h);clear h R
       obtain⟨bo,bp,rfl⟩:∃eb ec,u8=.slice eb (Af (Bd f (.sel c I O z))).length ec:=by obtain⟨a,hh,e,_⟩:=af.o;exact⟨_,_,e⟩
       go_wp2_with fail
       go_meet
       case rel=>exact⟨_,_,_,rfl,af,cb⟩
      ·obtain⟨X,rfl⟩:∃k,gk=k+1:=⟨gk-1,by omega⟩
       have ca:(j:Int)<(ag:Int):=by omega
       have f3:(0:Int)≤(j:Int):=by omega
       obtain⟨x,ac⟩:∃x,A[j]? =some x:=⟨_,kT (by have:=a7.o;omega)⟩
       obtain⟨_,_,L,_,_,P⟩:=ai.o.Ah h
       injection L with cc M al
       subst cc
       obtain⟨cd,ce,a8,a9,ba,rfl,cx,cy,cz,a2⟩:=P j x ac
       have c0:=(h.cell D oI).trans d0.o;have ed:=(h.cell D oI).trans d9.o;have Y:=(h.cell D oI).trans d1.o;have ee:=(h.cell D oI).trans d2.o;have ef:=(h.cell D oI).trans d3.o;have eg:=(h.cell D oI).trans d4.o;have eh:=(h.cell D oI).trans d5.o;have ei:=(h.cell D oI).trans d6.o;have ej:=(h.cell D oI).trans d7.o;have ek:=(h.cell D oI).trans dz.o;have bi:=(h.cell D oI).trans b8.o;have el:=(h.cell D oI).trans d8.o;have a3:=Ad ac;have bj:=Ad a2;have ao:=Ad h;have c3:F.heap.size<wr.heap.size:=kV D h.size;clear h P M al a2 ac;have em:=kW a3.o
       have f4:=QJ U.o a0.o x (by rw[K.o];exact em)
       have en:=Ad f4;clear f4;go_wp2_with fail;refine (KA (Z:=G) 83 name be bf bg (N:Int) two c I O (.slice a8 a9 ba) x.1 wr bj.o en.o.1 en.o.2.1 en.o.2.2 (bz.o.up ao.o.size)).mono ?_;rintro e w5 ⟨rfl,ap⟩;have bk:oH (Ab No C w5):=ao.o.seq ap;have c4:=Ad (R.o.Ah ap);have hi:=Ad (bj.o.Ah ap);clear ap c0 ed Y ee ef eg eh ei ej ek bi el
       cases c5:Mo.Ls c I O x.1 with
       |true =>
        have bl:=Ad (WX (Z:=G) (g:=BI c I O) (A:=A) (us:=us) (by rw[a7.o];exact ah) (fun e ak y a4=>by
         have E:=Er U.o e (by rw[K.o];exact ak)
         unfold BI at a4
         split at a4
         ·injection a4 with a4;rw[←a4];exact⟨E.1,by omega,by omega⟩
         ·cases a4) (by
          rw[←K.o,FD]
          have E:=Mo.LA (p:=Mo.Ls c I O) (l:=Af (Bd f z)) (WR fun e ak=>by have:=(Er U.o e ak).2.1;omega)
          rw[Mq] at E
          have:=U.o.rows
          omega) U.o.six (j:=j) (e:=x) (x:=x) a3.o (by unfold BI;rw[if_pos c5]) w5 u8 (.slice a8 a9 ba) c4.o hi.o (bz.o.up bk.o.size))
        clear c5;go_wp2_with fail;refine bl.o.mono ?_;rintro e cf ⟨f5,rfl,a5,aa⟩;have cg:=Ad a5;have ch:oH (Ab No C cf):=bk.o.seq aa;clear a5 aa;go_wp2_with fail;go_roundg X
        case measure=>omega
        case rel=>exact⟨j+1,by omega,by go_num,cg,ch.o⟩
       |false =>
        have hj:oH (Dt G w5 u8 (B3 (dl (BI c I O) A (j+1)) [])):=by
         rw[bM a3.o (by unfold BI;rw[if_neg (by rw[c5];simp)])];exact c4
        clear c5;go_wp2_with fail;go_roundg X
        case measure=>omega
        case rel=>exact⟨j+1,by omega,by go_num,hj,bk.o⟩
    |pick cs z =>
     obtain⟨hv,Hg,b0⟩:=cq.o
     replace hv:verb=80:=hv;subst hv;replace Hg:cs=cols:=Hg.symm;subst Hg
     obtain⟨N,e1,am,fx,ag,cu,g,dx,rfl,hg,au,av,fy,aw,b1⟩:=HSub.o _ _ b0
     replace e1:one=(N:Int):=e1;subst e1
     obtain⟨us,ax,ay,ah⟩:=ad.o.ok z b1
     have b2:=(H.o.cell hg oI).trans au;have cw:g<C.heap.size:=kV hg H.o.size;have ai:=Ad (av.Ah H.o)
     have fz:(0:Int)≤(N:Int):=by omega
     have f0:(N:Int)<(i:Int):=by omega
     have f1:ae≤9223372036854775807:=by unfold maxLen at aw;omega
     have U:=Ad ay
     obtain⟨A,ab⟩:∃A,Af (Bd f z)=A:=⟨_,rfl⟩
     have K:=Ad ab
     rw[ab] at ai ah
     clear av aw au ab ay
     obtain⟨_,_,L,dy,b3,-⟩:=id ai.o
     injection L with b4 e5 b5
     subst b4 b5
     obtain⟨hd,an⟩:∃n,A.length=n:=⟨_,rfl⟩
     rw[an] at e5
     subst e5;have a7:=Ad an
     rw[an] at ah dy
     have he:cu≤9223372036854775807:=by unfold maxLen at b3;omega
     clear b3 an
     obtain⟨aj,az,b6,_⟩:=ad.o.ok _ (kW aq.o)
     have a0:oH (Bt cs us=some aj):=by
      show _=_
      have E:(A9 ft z).bind (Bt cs)=some aj:=az
      rw[ax] at E;exact E
     clear az b6 ax
     have b7:oH (Af (Bd f (.pick cs z))=B3 (dl (MF cs) A A.length) []):=by
      show _=_
      rw[WT,Jo _ (acc:=[]) trivial,mU,←K.o]
      rw[Zg];exact (Mo.Fy (Mo.Bv _)).canon.symm
     have dz:=Ad bw;have d0:=Ad r0;have d1:=Ad r2;have d2:=Ad br;have d3:=Ad bs;have d4:=Ad bt;have d5:=Ad r6;have d6:=Ad bu;have d7:=Ad bv;have b8:=Ad bh;have d8:=Ad bx;have d9:=Ad r1;go_wp2_with fail;clear r0 r1 r2 br bs bt r6 bu bv bw bh bx b2
     go_loopg [8,11] ag (fun X ar ea a1=>∃j:Nat,j+X=ag∧ea=.int .i64 (j:Int)∧oH (Dt G a1 ar (B3 (dl (MF cs) A j) []))∧Ab No C a1)
     case atStart=>exact⟨0,by omega,rfl,Ad (by rw[ME];exact W9 _),Ab.refl _ _⟩
     case round =>
      obtain⟨j,f2,rfl,R,h⟩:=hrel
      by_cases b9:gk=0
      ·subst b9
       have ca:¬(j:Int)<(ag:Int):=by omega
       have af:oH (Dt G wr u8 (Af (Bd f (.pick cs z)))):=by
        have E:=R.o
        rw[show j=A.length by rw[a7.o];omega,←b7.o] at E
        exact E
       have cb:=Ad (H.o.seq h);clear h R
       obtain⟨bo,bp,rfl⟩:∃eb ec,u8=.slice eb (Af (Bd f (.pick cs z))).length ec:=by obtain⟨a,hh,e,_⟩:=af.o;exact⟨_,_,e⟩
       go_wp2_with fail
       go_meet
       case rel=>exact⟨_,_,_,rfl,af,cb⟩
      ·obtain⟨X,rfl⟩:∃k,gk=k+1:=⟨gk-1,by omega⟩
       have ca:(j:Int)<(ag:Int):=by omega
       have f3:(0:Int)≤(j:Int):=by omega
       obtain⟨x,ac⟩:∃x,A[j]? =some x:=⟨_,kT (by have:=a7.o;omega)⟩
       obtain⟨_,_,L,_,_,P⟩:=ai.o.Ah h
       injection L with cc M al
       subst cc
       obtain⟨cd,ce,a8,a9,ba,rfl,cx,cy,cz,a2⟩:=P j x ac
       have c0:=(h.cell D oI).trans d0.o;have ed:=(h.cell D oI).trans d9.o;have Y:=(h.cell D oI).trans d1.o;have ee:=(h.cell D oI).trans d2.o;have ef:=(h.cell D oI).trans d3.o;have eg:=(h.cell D oI).trans d4.o;have eh:=(h.cell D oI).trans d5.o;have ei:=(h.cell D oI).trans d6.o;have ej:=(h.cell D oI).trans d7.o;have ek:=(h.cell D oI).trans dz.o;have bi:=(h.cell D oI).trans b8.o;have el:=(h.cell D oI).trans d8.o;have a3:=Ad ac;have bj:=Ad a2;have ao:=Ad h;have c3:F.heap.size<wr.heap.size:=kV D h.size;clear h P M al a2 ac;go_wp2_with fail;have em:=kW a3.o
       have f6:=W7 U.o a0.o x (by rw[K.o];exact em)
       refine (QH (Z:=G) (.slice a8 a9 ba) (.slice be bf bg) x.1 cs wr bj.o (g8.o.Ah ao.o) f6.1 (by have:=fj.o.2.2.1;show cs.length≤1000;have ie:cs.length≤6:=this;omega) (bz.o.up ao.o.size)).mono ?_
       rintro e w5 ⟨hk,rfl,eo,ap⟩;have bk:oH (Ab No C w5):=ao.o.seq ap;have c4:=Ad (R.o.Ah ap);have p0:=(ap.cell c3 oI).trans c0;have hl:=Ad eo
       obtain⟨_,_,rfl⟩:∃a c,hk=.slice a (Ay cs x.1).length c:=by obtain⟨a,c,e,_⟩:=eo;exact⟨_,_,e⟩
       have bl:=Ad (WX (Z:=G) (g:=MF cs) (A:=A) (us:=aj) (by rw[a7.o];exact ah) (fun e ak y a4=>by
        have E:=Er U.o e (by rw[K.o];exact ak)
        have c7:=W7 U.o a0.o e (by rw[K.o];exact ak)
        have:(Ay cs e.1,e.2)=y:=by injection a4
        rw[←this];exact⟨c7.2,by omega,by omega⟩) (by rw[←K.o,Zg,Mo.CO,Mq];have:=U.o.rows;omega) (by rw[(Mo.Fo a0.o).2,lB];exact fj.o.2.2.1) (j:=j) (e:=x) (x:=(Ay cs x.1,x.2)) a3.o rfl w5 u8 _ c4.o hl.o (bz.o.up bk.o.size))
       generalize (Ay cs x.1).length=ig at bl⊢;clear eo ap f6 c0 ed Y ee ef eg eh ei ej ek bi el;go_wp2_with fail;refine bl.o.mono ?_;rintro e cf ⟨f5,rfl,a5,aa⟩;have cg:=Ad a5;have ch:oH (Ab No C cf):=bk.o.seq aa;clear a5 aa;go_wp2_with fail;go_roundg X
       case measure=>omega
       case rel=>exact⟨j+1,by omega,by go_num,cg,ch.o⟩
    |join c d z Y =>
     exact False.elim (ad.o.wf _ (kW aq.o))
    |uni z Y =>
     obtain⟨hv,b0,hm⟩:=cq.o
     replace hv:verb=85:=hv;subst hv
     obtain⟨N,e1,am,fx,ag,cu,g,dx,rfl,hg,au,av,fy,aw,b1⟩:=HSub.o _ _ b0
     replace e1:one=(N:Int):=e1;subst e1
     obtain⟨us,ax,ay,ah⟩:=ad.o.ok z b1
     have b2:=(H.o.cell hg oI).trans au;have cw:g<C.heap.size:=kV hg H.o.size;have ai:=Ad (av.Ah H.o)
     have fz:(0:Int)≤(N:Int):=by omega
     have f0:(N:Int)<(i:Int):=by omega
     have f1:ae≤9223372036854775807:=by unfold maxLen at aw;omega
     have U:=Ad ay
     obtain⟨A,ab⟩:∃A,Af (Bd f z)=A:=⟨_,rfl⟩
     have K:=Ad ab
     rw[ab] at ai ah
     clear av aw au ab ay
     obtain⟨I,M,_,cm,ci,bb,_,_,cj,_,f7,f8,hn,ho,hp⟩:=HSub.o _ _ hm
     injection cj with cj
     injection cj with cj hq
     subst cj hq;replace M:two=(I:Int):=M;subst M
     obtain⟨us2,f9,ga,ep⟩:=ad.o.ok Y hp
     have gb:=(H.o.cell hg oI).trans f7;have er:=Ad (f8.Ah H.o)
     have ih:(0:Int)≤(I:Int):=by omega
     have ii:(I:Int)<(i:Int):=by omega
     have gc:=Ad ga
     obtain⟨B,hB⟩:∃B,Af (Bd f Y)=B:=⟨_,rfl⟩
     have es:=Ad hB
     rw[hB] at er ep
     clear f8 ho f7 hB ga hn
     obtain⟨aj,az,b6,_⟩:=ad.o.ok _ (kW aq.o)
     have a0:oH (us2=us):=by
      show _=_
      have E:(A9 ft z).bind (fun ts=>(A9 ft Y).bind fun us=>if ts=us then some ts else none)=some aj:=az
      rw[ax] at E
      have c7:(A9 ft Y).bind (fun hr=>if us=hr then some us else none)=some aj:=E
      rw[f9] at c7
      have gd:(if us=us2 then some us else none)=some aj:=c7
      by_cases gf:us=us2
      ·exact gf.symm
      ·rw[if_neg gf] at gd;cases gd
     have hs:=a0.o;subst hs;clear az b6 ax f9 a0
     obtain⟨_,_,L,ht,gg,-⟩:=id er.o
     injection L with b4 e5 b5
     subst b4 b5
     obtain⟨_,c8⟩:∃n,B.length=n:=⟨_,rfl⟩
     rw[c8] at e5
     subst e5;have bq:=Ad c8
     rw[c8] at ep ht
     have ij:bb≤9223372036854775807:=by unfold maxLen at gg;omega
     clear gg c8
     have b7:oH (Af (Bd f (.uni z Y))=B3 B A):=by
      show _=_
      rw[Jo _ (by rw[←K.o];exact Mo.Aq _),←K.o,←es.o]
      exact (Mo.Be.append (Mo.Bv _).symm (Mo.Bv _).symm).canon
     have b8:=Ad bh;have hu:=Ad gb;go_wp2_with fail;clear r0 r1 r2 br bs bt r6 bu bv bw bh bx b2 gb
     go_loopg [8,9] ci (fun X ar hw a1=>∃j:Nat,j+X=ci∧hw=.int .i64 (j:Int)∧oH (Dt G a1 ar (B3 (B.take j) A))∧Ab No C a1)
     case atStart=>exact⟨0,by omega,rfl,ai,Ab.refl _ _⟩
     case round =>
      obtain⟨j,f2,rfl,R,h⟩:=hrel
      have bi:=(h.cell D oI).trans b8.o;have gh:=(h.cell cw oI).trans hu.o
      by_cases b9:gk=0
      ·subst b9
       have ca:¬(j:Int)<(ci:Int):=by omega
       have af:oH (Dt G wr u8 (Af (Bd f (.uni z Y)))):=by
        have E:=R.o
        rw[show j=B.length by rw[bq.o];omega,mK,←b7.o] at E
        exact E
       have cb:=Ad (H.o.seq h);clear h R
       obtain⟨bo,bp,rfl⟩:∃a c,u8=.slice a (Af (Bd f (.uni z Y))).length c:=by obtain⟨a,c,e,_⟩:=af.o;exact⟨_,_,e⟩
       go_wp2_with fail
       go_meet
       case rel=>exact⟨_,_,_,rfl,af,cb⟩
      ·obtain⟨X,rfl⟩:∃k,gk=k+1:=⟨gk-1,by omega⟩
       have ca:(j:Int)<(ci:Int):=by omega
       have f3:(0:Int)≤(j:Int):=by omega
       obtain⟨x,ac⟩:∃x,B[j]? =some x:=⟨_,kT (by have:=bq.o;omega)⟩
       obtain⟨_,_,L,_,_,P⟩:=er.o.Ah h
       injection L with cc M al
       subst cc
       obtain⟨cd,ce,a8,a9,ba,rfl,cx,cy,cz,a2⟩:=P j x ac
       have a3:=Ad ac;have bj:=Ad a2;have ao:=Ad h;have c3:F.heap.size<wr.heap.size:=kV D h.size;have hx:g<wr.heap.size:=kV cw h.size
       have bl:=Ad (fun W (et:Ab No wr W)=>bP (Z:=G) (A:=A) (B:=B) (us:=us2) ah (by rw[bq.o];exact ep) (by rw[←K.o];exact Mo.Aq _) (fun e ak=>Er U.o e (by rw[K.o];exact ak)) (fun e ak=>Er gc.o e (by rw[es.o];exact ak)) (by rw[←K.o,←es.o,Mq,Mq];have:=U.o.rows;have:=gc.o.rows;omega) U.o.six (j:=j) (e:=x) a3.o W u8 (.slice a8 a9 ba) (R.o.Ah et) (bj.o.Ah et) (bz.o.up (ao.o.seq et).size))
       clear h P M al a2 ac;go_wp2_with fail
       go_region_held3 (fun w'=>w'.cell? ⟨F.heap.size,10,none⟩=some (.int .i64 (I:Int))∧w'.cell? ⟨g,dx+I,none⟩=some (.slice (some ⟨cd,ce,none⟩) ci bb)∧w'.cell? ⟨cd,ce+j*2,none⟩=some (.slice a8 a9 ba)∧w'.cell? ⟨cd,ce+j*2+1,none⟩=some (.int .i64 x.2)) (go_keep)
        (first
          |(go_at_call 96
            refine (bl.o _ (Ab.refl No wr).drew).mono ?_;rintro e cf ⟨f5,rfl,a5,aa⟩;have hy:=(aa.cell c3 oI).trans bi;have hz:=(aa.cell hx oI).trans gh;have h0:=(aa.cell cx oI).trans cy;have h1:=(aa.cell cx oI).trans cz;have cg:=Ad a5;have ch:oH (Ab No C cf):=ao.o.drew.seq aa
            clear aa a5))
       clear bi gh cy cz hy hz h0 h1;go_wp2_with fail;go_roundg X
       case measure=>omega
       case rel=>exact⟨j+1,by omega,by go_num,cg,ch.o⟩
    |dist z =>
     exact False.elim (ad.o.wf _ (kW aq.o))
    |grp cs s z =>
     exact False.elim (ad.o.wf _ (kW aq.o))
end Go.Proofs.YtdinjjmcmfjbfaaGreatDoor
