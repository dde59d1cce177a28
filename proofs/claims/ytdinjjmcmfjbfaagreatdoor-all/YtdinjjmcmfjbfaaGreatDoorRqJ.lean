import Derived.Test.YtdinjjmcmfjbfaaGreatDoorQzJ
set_option maxRecDepth 100000
set_option maxHeartbeats 4000000
namespace Go.Proofs.YtdinjjmcmfjbfaaGreatDoor
open Go.RowKit Mo Pl Tryz
def Qq:Fq→List Fq→Nat
 |f,[]=>f.P
 |_,g::r=>Qq g r
theorem UQ (f:Fq)(r:List Fq)(iv:Value)(ps:List Nat)(qs:List Q):Qq ⟨f.P,f.h,f.cs,f.lv,iv,ps,qs,f.a,f.b⟩ r=Qq f r:=by cases r <;> rfl
theorem aO (f:Fq)(r:List Fq)(iv:Value)(ps:List Nat):Jh (⟨f.P,f.h,f.cs,f.lv,iv,ps,f.qs,f.a,f.b⟩::r)=Jh (f::r):=by cases r <;> rfl
theorem QI.small {s:ByteArray}{w:World}{N:Nat}{X:Nat→Prop}{ov:Value}{f:Fq}{r:List Fq}{c:Nat}(h:QI s w N X ov (f::r) c []):f.ps.length≤1:=by
 cases r with
 |nil=>obtain⟨_,_,a,_⟩:=h.stk;rw[a];simp
 |cons g r =>obtain⟨_,_,a,b⟩:=U7.kind h.stk;simp at b;omega
theorem aQ {B P:Nat}{w a w1:World}(h:Ab (·=B) w a)(k:Ab (fun k=>k=B∨k=P) a w1)(_:w.heap.size≤P):Ab (·=B) w w1 :=
 h.trans k (fun _ e=>e) (fun i hi e=>by rcases e with e|e;exact e;omega)
theorem aR {B:Nat}{s:ByteArray}{w w3 w4:World}{X:Nat→Prop}{ov:Value}{f:Fq}{r:List Fq}{c a d:Nat}{o:Hd}{cs:List Nat}{lv:Value}{ob:Obj}{gi capi:Nat}(hB:B<w.heap.size)
 (m:QI s w3 w.heap.size X ov (f::r) c []) (u:Sc w3 w.heap.size X (f::r) d o cs lv) (n:RP B s a w3) (v:Ab (·=B) w w3)
 (p:w4.ownsRow w.heap.size 69 1 (.slice (some ⟨gi,0,none⟩) (f.ps.length+1) capi) (f.ps.length+1) (f.ps.map pV++[pV d])) (hg:(w3.alloc ob).grownBy w4 f.iv.ownBlock) (x:f.iv.ownBlock=some gi∨gi=w3.heap.size+1) :
 ∃h,QI s (w4.setCell ⟨f.P,28,none⟩ (.slice (some ⟨gi,0,none⟩) (f.ps.length+1) capi)) w.heap.size X ov (h::r) c [d]∧Sc (w4.setCell ⟨f.P,28,none⟩ (.slice (some ⟨gi,0,none⟩) (f.ps.length+1) capi)) w.heap.size X (h::r) d o cs lv ∧
  RP B s a (w4.setCell ⟨f.P,28,none⟩ (.slice (some ⟨gi,0,none⟩) (f.ps.length+1) capi))∧Ab (·=B) w (w4.setCell ⟨f.P,28,none⟩ (.slice (some ⟨gi,0,none⟩) (f.ps.length+1) capi))∧Jh (h::r)=Jh (f::r)∧Qq h r=Qq f r:=by
 have hf:=U7.Lq m.stk f (by simp);have q:∀b,f.iv.ownBlock=some b→w.heap.size≤b:=Bk hf.2.2.2;have y:Ab (MS f) w3 w4:=((Ab.refl (MS f) w3).alloc _).grown hg (fun r hr=>.inr (.inr hr));have j:Ab (MS f) w3 (w4.setCell ⟨f.P,28,none⟩ (.slice (some ⟨gi,0,none⟩) (f.ps.length+1) capi)):=y.setCell (.inr (.inl rfl)) _;have t:w4.heap[f.P]? =some (.cells (Bb f.h f.lv f.iv) 139 (0,0)):=by refine (hg.block f.P (by have:=Aa hf.1;simp;omega) (fun e=>B5 NC hf.2.2.2 hf.1 e.symm)).trans ?_;exact (Below.heap_alloc _ _ _ (Aa hf.1)).trans hf.1
 have z:gi≠f.P:=fun e=>by subst e;exact B5 NC p t rfl
 refine⟨⟨f.P,f.h,f.cs,f.lv,.slice (some ⟨gi,0,none⟩) (f.ps.length+1) capi,f.ps++[d],f.qs,f.a,f.b⟩,?_,?_,⟨n.1,?_⟩,?_,aO _ _ _ _,UQ _ _ _ _ _⟩
 ·refine m.app j ?_ ?_ ?_
  ·show _=_;rw[A0 t];rfl
  ·refine Br (S:=(fun k=>k=f.P)) p ((Ab.refl (fun k=>k=f.P) w4).setCell (g:=f.P) (.inr rfl) _) (fun b l=>?_);simp[Value.ownBlock] at l;omega
  intro b l;simp[Value.ownBlock] at l;subst l;rcases x with e|e
  ·exact .inl e
  exact .inr (by omega)
 ·exact Sc.app m u j
 ·refine (j.block B (Aa n.2) (fun e=>?_)).trans n.2;rcases e with e|e
  ·have:=hf.2.1;omega
  have:=q B e;omega
 refine v.trans j (fun _ e=>e) (fun i hi e=>?_);rcases e with e|e
 ·have:=hf.2.1;omega
 have:=q i e;omega
theorem UR {B:Nat}{s:ByteArray}{w w3 w4:World}{X:Nat→Prop}{ov:Value}{f:Fq}{r:List Fq}{c a b d:Nat}{g:Hd}{cs:List Nat}{lv:Value}{ob:Obj}{gi capi:Nat}(hB:B<w.heap.size)
 (l:QI s w3 w.heap.size X ov (f::r) c [d]) (o:Sc w3 w.heap.size X (f::r) d g cs lv) (h:RP B s a w3) (p:Ab (·=B) w w3) (_:r.length≤5) (q:FS s (5-r.length) ⟨d,g,cs,lv,sN,[],[],c,b⟩ (b+1))
 (t:w4.ownsRow w.heap.size 69 1 (.slice (some ⟨gi,0,none⟩) (r.length+1+1) capi) (r.length+1+1) (((f::r).map (·.P)).reverse.map pV++[pV d])) (hg:(w3.alloc ob).grownBy w4 ov.ownBlock) (u:ov.ownBlock=some gi∨gi=w3.heap.size+1) :
 QI s w4 w.heap.size X (.slice (some ⟨gi,0,none⟩) (r.length+1+1) capi) (⟨d,g,cs,lv,sN,[],[],c,b⟩::f::r) (b+1) []∧RP B s a w4∧Ab (·=B) w w4:=by
 have m:∀b,ov.ownBlock=some b→w.heap.size≤b:=Bk l.list;have j:Ab (fun k=>ov.ownBlock=some k) w3 w4:=((Ab.refl _ w3).alloc _).grown hg (fun r hr=>.inr hr);refine⟨l.push o j t (fun b n=>?_) (by simp;omega) q,⟨h.1,(j.block B (Aa h.2) (fun e=>?_)).trans h.2⟩,p.trans j (fun _ e=>e) (fun i hi e=>?_)⟩
 ·simp[Value.ownBlock] at n;subst n;rcases u with e|e
  ·exact .inl e
  exact .inr (by omega)
 ·have:=m B e;omega
 have:=m i e;omega
theorem US (B:Nat)(s:ByteArray)(w:World)(_:s.size≤120)(h:RP B s 0 w) :
 Calls prog 61 #[C1 B] w (Iy B s w):=by
 have ev:=Ae h;have cf:=Aa h.2;have a1:s.size≤1000:=by omega
 obtain⟨cg,ch,ci,cj,ck⟩:=info_parts qU;clear h;go_enter func61,ntmps61;go_wp21
 try go_step3
 go_wp21
 try go_step3
 go_wp21;go_loopg [5] (s.size) (fun k cl wr=>∃(f:Fq) (r:List Fq) (X:Nat→Prop) (c:Nat),k+c=s.size∧r.length≤6∧xR (QI s wr w.heap.size X cl (f::r) c [])∧xR (RP B s c wr)∧xR (Ab (·=B) w wr)∧xR (Sa s (Je s (Jh (f::r)) (xY s (6-r.length) c))=Em s)∧xR (Qq f r=w.heap.size))
 case atStart =>refine⟨_,[],_,0,rfl,by simp,QI.start s w,⟨by omega,?_⟩,((Ab.refl _ _).alloc _).alloc _,rfl,rfl⟩;exact (Below.heap_alloc _ _ _ (by rw[Fk];omega)).trans ((Below.heap_alloc _ _ _ cf).trans ev.o.2)
 obtain⟨f,r,X,c,t,ew,ex,hp,ey,ah,cm⟩:=hrel;go_wp21;go_call F0 B s c _ a1 hp.o as e w1 ⟨rfl,p1,d⟩;have Q1:xR (QI s w1 w.heap.size X _ (f::r) c []):=ex.o.Cm d (fun j e=>.inl (by omega));have cn:=Ae p1;have dk:xR (Ab (·=B) w w1):=ey.o.seq d;clear p1 d;go_wp21;go_call ND (bt s c) _ as e O ⟨rfl,rfl⟩;have dl:=Pl.GE (bt s c);have dm:=dk.o.size;have ez:B<O.heap.size:=Aa cn.o.2;obtain⟨i,bp⟩:∃i,xV (bt s c)=i:=⟨_,rfl⟩;rw[bp] at dl;have dn:xR (RP B s c (O.alloc (.cells (Bb ⟨i,[],0,zO,zO,zO⟩ sN sN) 139))):=⟨cn.o.1,(Below.heap_alloc _ _ _ ez).trans cn.o.2⟩;have co:=Ae (aN B O.heap.size i dl s c _ a1 (by omega) dn.o (heap_alloc_last _ _));rw[bp];have F:=Ae bp;clear bp;go_wp21;go_call co.o as e w3 ⟨dp,a3,_,bq,rfl,br,cp,cq,dq,cr⟩;have bs:Ab (fun k=>k=B∨k=O.heap.size) O w3:=((Ab.refl _ O).alloc _).seq cp;have a2:xR (QI s w3 w.heap.size X _ (f::r) c []):=Q1.o.Cm bs (fun j e=>by rcases e with e|e;exact .inl (by omega);exact .inr (by omega));have ct:xR (Ab (·=B) w w3):=aQ dk.o bs dm;have dr:=Ae br;have Z:xR (B3 s (xV (bt s c)) c=(dp,a3)):=by show _=_;rw[F.o];exact bq
 have bu:=Gt s i c;rw[bq] at bu;cases dp
 ·have u:xR (Em s=(2,a3)):=by show _=_;rw[←ah.o,AE Z.o,Qi (by omega)]
  clear bq br cp cq dq cr bu bs co;go_wp21
  try rw[Exit.noGoto_ret]
  go_ret2;exact Iy.bad (n:=2) (by omega) u.o dr.o ct.o
 obtain⟨lv,ds,cu⟩:=cr rfl;have e0:c<a3:=bu.2.2.1 rfl;have f4:=br.1;have dt:Sc w3 w.heap.size X (f::r) O.heap.size (Si s i c) (Gs s i c) lv:=by
  have du:=U7.Lq Q1.o.stk;have dv:∀b,lv.ownBlock=some b→O.heap.size+1≤b:=fun b o=>by have:=Bk cu b o;rw[Fk] at this;exact this
  refine⟨by rw[cq,ds],dm,Rt cu (by rw[Fk];omega),fun e=>?_,fun b o e=>?_,fun g hg e=>?_,fun g hg b o e=>?_⟩
  ·have:=(Q1.o.own _ e).2;omega
  ·have:=(Q1.o.own _ e).2;have:=dv b o;omega
  ·have:=Aa (du g hg).1;omega
  have:=Jv (du g hg).2.2.1 b e;have:=dv b o;omega
 have ai:=Ae dt;clear bq br cp cq dq cr bu bs co dt cu ds dn;obtain⟨a4,cap,_,rfl,dw,dx,_,_⟩:=a2.o.top;have aa:=U7.Lq a2.o.stk f (by simp);have e4:=a2.o.small;have G:w3.cell? ⟨a4,r.length,none⟩=some (C1 f.P):=by rw[Af dw];exact dx
 have x:w3.cell? ⟨f.P,28,none⟩=some f.iv:=by rw[Af aa.1];rfl
 have a5:w3.frozen? ⟨f.P,28,none⟩=false:=Am aa.1 _;have f5:(0:Int)≤(r.length:Int):=by omega
 have f6:(r.length:Int)<(r.length:Int)+1:=by omega
 have a6:f.P<w3.heap.size:=Aa aa.1;have ab:some f.P≠f.iv.ownBlock:=fun e=>B5 NC aa.2.2.2 aa.1 e.symm;have bv:=Ae aa.2.2.2;have f7:=ct.o.size;obtain⟨z,cv⟩:∃z,f.P=z:=⟨_,rfl⟩;obtain⟨K,cw⟩:∃K,f.iv=K:=⟨_,rfl⟩;have f8:=Ae aa;rw[cv] at G x a5 a6 ab;rw[cw] at x ab bv;have dy:=Ae cv;have dz:=Ae cw;obtain⟨l,bw⟩:∃l,O.heap.size=l:=⟨_,rfl⟩;have f9:=Ae bw;rw[bw];rw[bw] at ai;have P:w3.cell? ⟨l,0,none⟩=some (.int .i64 (i:Int)):=by rw[Af ai.o.cell];show some (Value.int .i64 ((Si s i c).k:Int))=_;rw[Yc]
 have d0:l<w3.heap.size:=Aa ai.o.cell;have bx:some l≠K.ownBlock:=fun e=>B5 NC bv.o ai.o.cell e.symm;have ga:¬l=z:=fun e=>ai.o.ne f (by simp) (dy.o.trans e.symm)
 have a7:xR (∀(gi capi:Nat) (w4:World),w4.ownsRow w.heap.size 69 1 (.slice (some ⟨gi,0,none⟩) (f.ps.length+1) capi) (f.ps.length+1) (f.ps.map pV++[pV l])→(w3.alloc (.cells #[pV l] 69)).grownBy w4 K.ownBlock→(K.ownBlock=some gi∨gi=w3.heap.size+1) →
  ∃ac,QI s (w4.setCell ⟨z,28,none⟩ (.slice (some ⟨gi,0,none⟩) (f.ps.length+1) capi)) w.heap.size X (.slice (some ⟨a4,0,none⟩) (r.length+1) cap) (ac::r) c [l]∧Sc (w4.setCell ⟨z,28,none⟩ (.slice (some ⟨gi,0,none⟩) (f.ps.length+1) capi)) w.heap.size X (ac::r) l (Si s i c) (Gs s i c) lv ∧
   RP B s a3 (w4.setCell ⟨z,28,none⟩ (.slice (some ⟨gi,0,none⟩) (f.ps.length+1) capi))∧Ab (·=B) w (w4.setCell ⟨z,28,none⟩ (.slice (some ⟨gi,0,none⟩) (f.ps.length+1) capi))∧Jh (ac::r)=Jh (f::r)∧Qq ac r=Qq f r):=by
  intro gi capi w4 m a8 d1;have:=aR (gi:=gi) (capi:=capi) (w4:=w4) (ob:=.cells #[pV l] 69) cf a2.o ai.o dr.o ct.o m (by rw[dz.o];exact a8) (by rw[dz.o];exact d1);rw[dy.o] at this;exact this
 obtain⟨aj,a9⟩:∃aj,f.ps.length=aj:=⟨_,rfl⟩;have bz:xR (w3.ownsRow w.heap.size 69 1 K aj (f.ps.map pV)):=by show World.ownsRow _ _ _ _ _ _ _;rw[←a9];exact bv.o
 have gb:=Ae a9;rw[a9] at e4;rw[a9] at a7;clear dw dx aa cv cw bw a9 bv a2 ai;by_cases y:i=1
 ·have d2:((i:Int) != 1)=false:=by simp[y]
  go_wp2_with (first|(at_builtin;refine wpList_append_lies _ (by rfl) _ _ _ (by rfl) w.heap.size 69 cg (.pointer none) 1 8 underlying137 ch ci cj ck rfl (by decide) K aj (f.ps.map pV) (by rfl) (bz.o.alloc _) ⟨w3.heap.size,0,none⟩ 1 1 [pV l] (by rfl) rfl (World.news_of_block (cs:=#[pV l]) (heap_alloc_last w3 _)) (by intro d3 ad;simp at ad;subst ad;rfl) (by decide) (by unfold maxLen;omega) (by omega) (by rw[Fk];omega) (w3.heap.size+1) (by simp) ?_;intro gi capi w4 ba H bb cx;have cy:C3 w4 z 28 K:=(H.cell_far _ (by simp;omega) ab).trans ((World.cell?_alloc_past _ _ _ a6).trans x);have ac:w4.frozen? ⟨z,28,none⟩=false:=(H.frozen_far _ (by simp;omega) ab).trans ((World.frozen?_alloc_past _ _ _ a6).trans a5);have cz:C3 w4 l 0 (.int .i64 (i:Int)):=(H.cell_far _ (by simp;omega) bx).trans ((World.cell?_alloc_past _ _ _ d0).trans P))|fail);obtain⟨D,ak,al,am,an,bc,bd⟩:=a7.o gi capi w4 ba H bb;generalize w4.setCell ⟨z,28,none⟩ (.slice (some ⟨gi,0,none⟩) (aj+1) capi)=w5 at ak al am an⊢;obtain⟨d4,d5⟩:=ak.tab al (by rw[Yc];exact y);have b0:=Ae d4;have e5:=Ae d5;have e6:=Ae am;have b1:=Ae an;have c0:xR (Sa s (Je s (Jh (D::r)) (0,a3))=Em s):=by show _=_;rw[bc,←ah.o,ZP Z.o (by rw[F.o];exact y)]
  have e7:xR (Qq D r=w.heap.size):=bd.trans cm.o;have e8:xR (Rq s (6-r.length) c a3 (Ip (Si s i c) (Gs s i c) [])):=by rw[y];have m:=F.o;have a8:=Z.o;rw[m,y] at a8;rw[y] at m;exact .tab m a8
  clear cy ac cz ba H bb cx a7 G x P a5 ab bx ak al an am bc bd bz d4 d5 ah cm d2 y;obtain⟨_,c2⟩:∃g:Nat,g=gk:=⟨_,rfl⟩;rw[←c2] at t;have e9:=Ae c2;clear c2;go_loopg [5] (r.length) (fun k cl b2=>∃(d:Fq) (r1:List Fq) (q:Nat→Prop) (ao c1 p1:Nat) (A:Q),xR (k=r1.length)∧c<c1∧r1.length≤6∧xR (QI s b2 w.heap.size q cl (d::r1) ao [p1])∧xR (Tr b2 q p1 A)∧xR (Rq s (6-r1.length) ao c1 A)∧xR (RP B s c1 b2)∧xR (Ab (·=B) w b2)∧xR (Sa s (Je s (Jh (d::r1)) (0,c1))=Em s)∧xR (Qq d r1=w.heap.size))
  case atStart=>exact⟨D,r,_,c,a3,l,_,rfl,e0,ew,b0,e5,e8,e6,b1,c0,e7⟩
  obtain⟨d,r1,q,ao,c1,p1,A,fa,_,d6,R,c3,c4,S,c5,au,c7⟩:=hrel;obtain⟨ae,av,_,rfl,c8,c9,da,_⟩:=R.o.top;have gc:=S.o.1;cases r1 with
  |nil =>
   obtain⟨T,fb,d7,fc,rfl⟩:=R.o.stk;have aw:xR (d.P=w.heap.size):=c7.o;have fd:∃gi L be,d.iv=.slice (some ⟨gi,0,none⟩) 1 L∧C2 wr gi be 69∧be[0]? =some (pV p1):=by
    have ho:=T.2.2.2;rw[d7] at ho;rcases ho.2 with ⟨_,db⟩|⟨gi,L,be,e,o,hg,m,a8,d1,h4⟩
    ·simp at db
    refine⟨gi,L,be,e,hg,?_⟩;have b3:(List.map pV [p1])[0]? =some (pV p1):=rfl;rw[←h4,uQ] at b3;split at b3
    ·rw[←uZ];exact b3
    cases b3
   obtain⟨bf,fe,_,bg,dc,d8⟩:=fd;have G:wr.cell? ⟨w.heap.size,28,none⟩=some (.slice (some ⟨bf,0,none⟩) 1 fe):=(by rw[←aw.o,Af T.1];show some d.iv=_;rw[bg]);have x:wr.cell? ⟨bf,0,none⟩=some (C1 p1):=(by rw[Af dc];exact d8);have ff:w.heap.size<wr.heap.size:=(by rw[←aw.o];exact Aa T.1);have fg:bf<wr.heap.size:=Aa dc;have dd:=Ae R.o.own;clear c8 c9 da T fb d7 fc bg dc d8;go_wp21;go_call Ru B s c1 _ S.o as e C ⟨rfl,M⟩;have gd:=(M.cell ff xT).trans G;have I:=(M.cell fg xT).trans x;have ap:xR (RP B s c1 C):=⟨S.o.1,(M.block B (Aa S.o.2) xT).trans S.o.2⟩;have aq:xR (Ab (·=B) w C):=c5.o.V1 M;have b4:xR (Tr C q p1 A):=c3.o.mono (fun k t=>M.block k (dd.o k t).2 xT) (fun _ e=>e);have fh:xR (∀k,q k→w.heap.size≤k∧k<C.heap.size):=fun k t=>⟨(dd.o k t).1,tU (dd.o k t).2 M.size⟩;clear G x M;by_cases ax:c1=s.size
   ·have af:decide (c1=s.size)=true:=(by simp[ax]);rw[af];have u:xR (Em s=(0,c1)):=(by show _=_;rw[←au.o];simp[Jh,Je,Sa,xW,ax]);have fi:=Ae ax;clear ax af;go_wp21
    try rw[Exit.noGoto_ret]
    go_ret2;refine⟨by rw[u.o];exact ap.o,aq.o,.inr ⟨by rw[u.o],p1,q,A,rfl,b4.o,fh.o,?_⟩⟩;have:=c4.o;rw[fi.o] at this;exact this
   have af:decide (c1=s.size)=false:=(by simp[ax]);rw[af];have u:xR (Em s=(2,c1)):=(by show _=_;rw[←au.o];have:c1<s.size:=(by omega);simp[Jh,Je,Sa,xW,this]);clear ax af;go_wp21
   try rw[Exit.noGoto_ret]
   go_ret2;exact Iy.bad (n:=2) (by omega) u.o ap.o aq.o
  |cons p r2 =>
   obtain⟨M,fj,d9,ea⟩:=U7.kind R.o.stk;have T:=U7.Lq R.o.stk d (by simp);have fk:=R.o.list;obtain⟨bf,fl⟩:∃v,d.iv=v:=⟨_,rfl⟩;have fm:∃bh L,d.iv=.slice bh d.ps.length L:=by
    rcases T.2.2.2.2 with ⟨e,db⟩|⟨gi,L,be,e,_⟩
    ·rw[db];exact⟨_,_,e⟩
    exact⟨_,_,e⟩
   obtain⟨bh,L,bg⟩:=fm;have G:wr.cell? ⟨ae,r2.length+1,none⟩=some (C1 d.P):=(by rw[Af c8];exact c9);have x:wr.cell? ⟨d.P,28,none⟩=some (.slice bh (d.qs.length+1) L):=(by rw[Af T.1];show some d.iv=_;rw[bg,ea];rfl);have P:wr.cell? ⟨d.P,0,none⟩=some (.int .i64 (d.h.k:Int)):=(by rw[Af T.1];rfl);have gf:r2.length≤5:=(by simp only[uO] at d6;omega);obtain⟨E,b5⟩:∃n,r2.length+1=n:=⟨_,rfl⟩;rw[show (p::r2).length=E from b5];rw[b5] at G;have eb:=Ae b5;have gg:=Bm E;have gh:(E:Int)<(E:Int)+1:=(by omega);have gj:((E:Int) == 0)=false:=(by simp;omega);have gl:(E:Int)≤(av:Int):=(by simp only[uO] at da;omega);have gm:E≤6:=(by omega);obtain⟨ay,aw⟩:∃v,d.P=v:=⟨_,rfl⟩;obtain⟨U,de⟩:∃v,d.h.k=v:=⟨_,rfl⟩;obtain⟨ag,df⟩:∃v,d.qs.length=v:=⟨_,rfl⟩;rw[aw] at G x P;rw[de] at P M fj d9;rw[df] at x d9;have az:=Ae (And.intro aw (And.intro de df));clear c8 c9 da T bg fl bf fk aw de df ea b5;go_wp21
   go_region_held3 (fun w'=>w'.cell? ⟨ae,E,none⟩=some (.pointer (some ⟨ay,0,none⟩))∧w'.cell? ⟨ay,28,none⟩=some (.slice bh (ag+1) L)∧w'.cell? ⟨ay,0,none⟩=some (.int .i64 (U:Int))) (go_keep)
    (first
      |(go_at_call 103
        go_call Ya U M _ as e C ⟨rfl,bi⟩;subst bi;have e1:C3 wr.drew ae E (C1 ay):=G;have e2:C3 wr.drew ay 28 (.slice bh (ag+1) L):=x;have e3:C3 wr.drew ay 0 (.int .i64 (U:Int)):=P))
   obtain⟨C,bi⟩:∃C,wr.drew=C:=⟨_,rfl⟩;rw[bi];have bj:Ab No wr C:=(by rw[←bi];exact (Ab.refl No wr).drew);have V:xR (QI s C w.heap.size q (.slice (some ⟨ae,0,none⟩) (r2.length+2) av) (d::p::r2) ao [p1]):=(by have m:=R.o.Cm bj (fun j e=>e.elim);have e2:(p::r2).length+1=r2.length+2:=rfl;rw[e2] at m;exact m);have b4:xR (Tr C q p1 A):=c3.o.mono (fun k t=>bj.block k (R.o.own k t).2 xT) (fun _ e=>e);have ap:xR (RP B s c1 C):=⟨S.o.1,(bj.block B (Aa S.o.2) xT).trans S.o.2⟩;have aq:xR (Ab (·=B) w C):=c5.o.V1 bj;have ec:xR (Rq s (5-r2.length) ao c1 A):=(by have m:=c4.o;rw[show 6-(p::r2).length=5-r2.length by simp only[uO];omega] at m;exact m);clear G x P e1 e2 e3 bj bi R c3 S c5 c4;have b6:xR (Jh (d::p::r2)=(yC U-ag)::Jh (p::r2)):=(by show _=_;simp only[Jh];rw[az.o.2.1,az.o.2.2]);by_cases b7:ag+1<yC U
   ·have fn:(ag:Int)+1<(yC U:Int):=(by omega);have dg:xR (Jh (d::p::r2)=2::Jh (p::r2)):=(by show _=_;rw[b6.o,show yC U-ag=2 by omega]);have dh:xR (d.qs.length+1<yC d.h.k):=(by show _<_;rw[az.o.2.1,az.o.2.2];exact b7);clear b7 b6;go_wp21;go_call Di B s c1 44 44 _ a1 (by omega) rfl ap.o as e N ⟨di,dj,W,rfl,I,J⟩;have a0:=Ae I;have bk:=Ae W;have ar:xR (Ab (·=B) w N):=aq.o.seq J;cases di
    ·have u:xR (Em s=(2,dj)):=(by show _=_;rw[←au.o,dg.o,GG bk.o]);clear W I J;go_wp21
     try rw[Exit.noGoto_ret]
     go_ret2;exact Iy.bad (n:=2) (by omega) u.o a0.o ar.o
    rcases V3 W with ⟨_,bl,rfl⟩|⟨e,_⟩
    case inr=>cases e
    have Y:xR (QI s N w.heap.size q (.slice (some ⟨ae,0,none⟩) (r2.length+2) av) (d::p::r2) ao [p1]):=V.o.Cm J (fun j e=>.inl (by omega));have bm:xR (Tr N q p1 A):=b4.o.mono (fun k t=>J.block k (V.o.own k t).2 (fun fo=>by have:=(V.o.own k t).1;omega)) (fun _ e=>e);have b8:=Ae (Y.o.qT bm.o ec.o bl dh.o);have gn:=a0.o.1;have fp:xR (Sa s (Je s (1::Jh (p::r2)) (xY s (5-r2.length) (c1+1)))=Em s):=(by show _=_;rw[←au.o,dg.o,DK bk.o,Yb]);have ed:r2.length+2=E+1:=(by have:=eb.o;omega);have fq:xR (QI s N w.heap.size q (.slice (some ⟨ae,0,none⟩) (E+1) av) ({ d with qs:=d.qs++[A] }::p::r2) (c1+1) []):=(by have m:=b8.o;rw[ed] at m;exact m);clear W I J bl Y bm ed b8;go_wp21;go_roundg (s.size-(c1+1))
    case measure=>have:=e9.o;omega
    refine⟨{ d with qs:=d.qs++[A] },p::r2,q,c1+1,by omega,d6,fq,a0,ar,?_,?_⟩
    ·show _=_;rw[←fp.o];have e1:yC d.h.k-(d.qs++[A]).length=1:=(by have m:=dg.o;simp only[Jh,List.cons.injEq] at m;rw[tS];simp only[uO,vI];omega);simp only[Jh,e1,uO,show 6-(r2.length+1)=5-r2.length by omega]
    exact c7.o
   have fn:¬(ag:Int)+1<(yC U:Int):=(by omega);have ee:xR (Jh (d::p::r2)=1::Jh (p::r2)):=(by show _=_;rw[b6.o,show yC U-ag=1 by omega]);have dh:xR (¬(d.qs.length+1<yC d.h.k)):=(by show ¬_;rw[az.o.2.1,az.o.2.2];exact b7);clear b7 b6;go_wp21;go_call Di B s c1 41 41 _ a1 (by omega) rfl ap.o as e N ⟨di,dj,W,rfl,I,J⟩;have a0:=Ae I;have bk:=Ae W;have ar:xR (Ab (·=B) w N):=aq.o.seq J;cases di
   ·have u:xR (Em s=(2,dj)):=(by show _=_;rw[←au.o,ee.o,GH bk.o]);clear W I J;go_wp21
    try rw[Exit.noGoto_ret]
    go_ret2;exact Iy.bad (n:=2) (by omega) u.o a0.o ar.o
   rcases V3 W with ⟨_,bl,rfl⟩|⟨e,_⟩
   case inr=>cases e
   have Y:xR (QI s N w.heap.size q (.slice (some ⟨ae,0,none⟩) (r2.length+2) av) (d::p::r2) ao [p1]):=V.o.Cm J (fun j e=>.inl (by omega));have bm:xR (Tr N q p1 A):=b4.o.mono (fun k t=>J.block k (V.o.own k t).2 (fun fo=>by have:=(V.o.own k t).1;omega)) (fun _ e=>e);obtain⟨ef,eg⟩:=FS.ends Y.o.stk.2.1 ec.o bl dh.o;obtain⟨eh,ei⟩:=Y.o.pop bm.o eg Y.o.shrink rfl;have b8:xR (QI s N w.heap.size (XP q d) (.slice (some ⟨ae,0,none⟩) E av) (p::r2) d.a [d.P]):=(by have m:=eh;rw[eb.o] at m;exact m);have fr:=Ae ei;have fs:xR (Rq s (6-r2.length) d.a (c1+1) (Ip d.h d.cs (d.qs++[A]))):=(by have m:=ef;rw[show 5-r2.length+1=6-r2.length by omega] at m;exact m);have ft:xR (Sa s (Je s (Jh (p::r2)) (0,c1+1))=Em s):=(by show _=_;rw[←au.o,ee.o,DL bk.o]);clear W I J bl Y bm ef eg eh ei;go_wp21;go_roundg r2.length
   case measure=>have:=fa.o;simp only[uO] at this;omega
   exact⟨p,r2,_,d.a,c1+1,d.P,_,rfl,by omega,by omega,b8,fr,fs,a0,ar,ft,c7⟩
 have d2:((i:Int) != 1)=true:=by simp;omega
 go_wp2_with (first|(at_builtin;refine wpList_append_lies _ (by rfl) _ _ _ (by rfl) w.heap.size 69 cg (.pointer none) 1 8 underlying137 ch ci cj ck rfl (by decide) K aj (f.ps.map pV) (by rfl) (bz.o.alloc _) ⟨w3.heap.size,0,none⟩ 1 1 [pV l] (by rfl) rfl (World.news_of_block (cs:=#[pV l]) (heap_alloc_last w3 _)) (by intro d3 ad;simp at ad;subst ad;rfl) (by decide) (by unfold maxLen;omega) (by omega) (by rw[Fk];omega) (w3.heap.size+1) (by simp) ?_;intro gi capi w4 ba H bb cx;have cy:C3 w4 z 28 K:=(H.cell_far _ (by simp;omega) ab).trans ((World.cell?_alloc_past _ _ _ a6).trans x);have ac:w4.frozen? ⟨z,28,none⟩=false:=(H.frozen_far _ (by simp;omega) ab).trans ((World.frozen?_alloc_past _ _ _ a6).trans a5);have cz:C3 w4 l 0 (.int .i64 (i:Int)):=(H.cell_far _ (by simp;omega) bx).trans ((World.cell?_alloc_past _ _ _ d0).trans P))|fail);obtain⟨D,ak,al,am,an,bc,bd⟩:=a7.o gi capi w4 ba H bb;generalize w4.setCell ⟨z,28,none⟩ (.slice (some ⟨gi,0,none⟩) (aj+1) capi)=w5 at ak al am an⊢;have ej:=Ae (And.intro bc bd);have b0:=Ae ak;have b9:=Ae al;have b1:=Ae an;clear cy ac cz ba H bb cx a7 G x P a5 ab bx ak al an bc bd bz;go_call F0 B s a3 _ a1 am as e w6 ⟨rfl,bn,ca⟩;have ek:xR (QI s w6 w.heap.size X _ (D::r) c [l]):=b0.o.Cm ca (fun j e=>.inl (by omega));have bo:xR (Ab (·=B) w w6):=b1.o.seq ca;have cb:xR (Sc w6 w.heap.size X (D::r) l (Si s i c) (Gs s i c) lv):=b9.o.Cm ca (fun e=>by have:=b9.o.base;omega) (fun b o e=>by have:=Bk b9.o.cols b o;omega);have c6:=bn.c1;have go:=bn.f1;have cc:=Ae bn;have gp:B<w6.heap.size:=Aa bn.2;clear bn ca am b0 b9 b1;by_cases o:bt s a3=40
 ·have fu:((bt s a3:Int) != 40)=false:=by simp;omega
  have gq:=Cu (s:=s) (a:=a3) (by omega);by_cases af:r.length=6
  ·have fv:(6:Int)<(r.length:Int)+1:=(by omega);have u:xR (Em s=(3,a3)):=(by show _=_;rw[←ah.o,af,gY Z.o (by rw[F.o];exact y) o,Qi (by omega)]);clear af o y;go_wp21
   try rw[Exit.noGoto_ret]
   go_ret2;exact Iy.bad (n:=3) (by omega) u.o cc.o bo.o
  have fv:¬(6:Int)<(r.length:Int)+1:=by omega
  have el:i≠0:=fun fw=>by have:=Z.o;rw[F.o,fw] at this;simp[B3] at this
  have fx:=Pl.Tn el y;have c0:xR (Sa s (Je s (yC i::Jh (f::r)) (xY s (5-r.length) (a3+1)))=Em s):=by show _=_;rw[←ah.o,show 6-r.length=(5-r.length)+1 by omega,gZ Z.o (by rw[F.o];exact y) o,F.o];simp only[Je,Yb]
  have fy:xR (FS s (5-r.length) ⟨l,Si s i c,Gs s i c,lv,sN,[],[],c,a3⟩ (a3+1)):=by
   refine⟨?_,?_,?_,Z.o,o,.inl ⟨rfl,rfl,?_⟩⟩
   ·rw[F.o]
   ·rw[F.o]
   ·show (Si s i c).k=_;rw[Yc,F.o]
   show yC (Si s i c).k=1∨_;rw[Yc];exact fx
  have em:RP B s (a3+1) (w6.setCell ⟨B,1,none⟩ (.int .i64 ((a3:Int)+1))):=cc.o.set (a':=a3+1) (by omega);have cd:Ab (·=B) w6 (w6.setCell ⟨B,1,none⟩ (.int .i64 ((a3:Int)+1))):=(Ab.refl (·=B) w6).setCell (g:=B) (.inr rfl) _;have V:xR (QI s (w6.setCell ⟨B,1,none⟩ (.int .i64 ((a3:Int)+1))) w.heap.size X (.slice (some ⟨a4,0,none⟩) (r.length+1) cap) (D::r) c [l]):=ek.o.Cm cd (fun j e=>.inl (by omega));have fz:xR (Sc (w6.setCell ⟨B,1,none⟩ (.int .i64 ((a3:Int)+1))) w.heap.size X (D::r) l (Si s i c) (Gs s i c) lv):=cb.o.Cm cd (fun e=>by have:=cb.o.base;omega) (fun b o e=>by have:=Bk cb.o.cols b o;omega);have aq:xR (Ab (·=B) w (w6.setCell ⟨B,1,none⟩ (.int .i64 ((a3:Int)+1)))):=bo.o.seq cd;have ap:=Ae em;have en:(w6.setCell ⟨B,1,none⟩ (.int .i64 ((a3:Int)+1))).heap.size=w6.heap.size:=by simp[World.setCell]
  have f0:xR ((w6.setCell ⟨B,1,none⟩ (.int .i64 ((a3:Int)+1))).ownsRow w.heap.size 69 1 (.slice (some ⟨a4,0,none⟩) (r.length+1) cap) (r.length+1) (((D::r).map (·.P)).reverse.map pV)):=V.o.list;have gr:=bo.o.size;have ce:=Ae en;clear o y el ah em cd ek cb bo cc en;have eo:((w6.setCell ⟨B,1,none⟩ (.int .i64 ((a3:Int)+1))).alloc (.cells #[pV l] 69)).heap[w6.heap.size]? =some (.cells #[pV l] 69 (0,0)):=by rw[←ce.o];exact heap_alloc_last _ _
  have f1:=Ae eo;clear eo;go_wp2_with (first|(at_builtin;refine wpList_append_lies _ (by rfl) _ _ _ (by rfl) w.heap.size 69 cg (.pointer none) 1 8 underlying137 ch ci cj ck rfl (by decide) (.slice (some ⟨a4,0,none⟩) (r.length+1) cap) (r.length+1) (((D::r).map (·.P)).reverse.map pV) (by rfl) (f0.o.alloc _) ⟨w6.heap.size,0,none⟩ 1 1 [pV l] (by rfl) rfl (World.news_of_block (cs:=#[pV l]) f1.o) (by intro d3 ad;simp at ad;subst ad;rfl) (by decide) (by unfold maxLen;omega) (by omega) (by rw[Fk,ce.o];omega) (w6.heap.size+1) (by rw[Fk,ce.o]) ?_;intro gs gu N ep er es f2)|fail);obtain⟨et,I,eu⟩:=UR (b:=a3) cf V.o fz.o ap.o aq.o (by omega) fy.o ep er (by rw[ce.o];exact es);have Y:=Ae et;have f3:=Ae I;have ar:=Ae eu;clear et I eu ep er es f2;go_roundg (s.size-(a3+1))
  case measure=>omega
  refine⟨_,D::r,X,a3+1,by omega,by simp only[uO];omega,Y,f3,ar,?_,?_⟩
  ·show _=_;rw[←c0.o,←ej.o.1];simp only[Jh,Yc,vI,Nat.sub_zero,uO,show 6-(r.length+1)=5-r.length by omega]
  show Qq D r=_;rw[ej.o.2];exact cm.o
 have fu:((bt s a3:Int) != 40)=true:=by simp;omega
 have u:xR (Em s=(2,a3)):=by show _=_;rw[←ah.o,gX Z.o (by rw[F.o];exact y) o,Qi (by omega)]
 clear o y;go_wp21
 try rw[Exit.noGoto_ret]
 go_ret2;exact Iy.bad (n:=2) (by omega) u.o cc.o bo.o
theorem IE (s:ByteArray):∀k,k≤s.size→xU s k=Lib.countByte (s.data.toList.take k) 74
 |0,_=>by simp[xU,Lib.countByte]
 |k+1,h=>by
  have b:k<s.data.toList.length:=by simp;omega
  rw[xU,IE s k (by omega),List.take_succ_eq_append_getElem b];unfold Lib.countByte;rw[List.count_append,List.count_singleton];have e:bt s k=(s.data.toList[k]).toNat:=by unfold bt;rw[dif_pos (by omega)];rfl
  rw[e];by_cases a:s.data.toList[k]=74
  ·rw[a];rfl
  have c:¬(s.data.toList[k]).toNat=74:=fun x=>a (wK.1 (by rw[x];rfl));rw[if_neg c,if_neg (by simpa using a)]
theorem mR (s:ByteArray):(Lib.countByte s.data.toList 74:Nat)=xU s s.size:=by
 rw[IE s s.size (tY _),uW (by simp)]
theorem BE (s:ByteArray)(w:World) :
 Calls prog 62 #[.string s,.string ⟨#[74]⟩] w fun e w'=>e=.returned (.int .i64 (xU s s.size:Nat))∧w'=w:=by
 have a:=Ae (mR s);go_enter func62,ntmps62;go_wp2;rw[run_callFunc_extern func105 (by kernel_rfl) (by kernel_rfl) (by kernel_rfl) (e:=Extern.BytealgCount.count) (by kernel_rfl),Lib.run_countString];simp only[Result.andThen];rw[Oper.upon_value];go_wp2;go_ret;exact⟨Bo (by rw[←a.o];rfl),rfl⟩
def Rv (s:ByteArray)(w:World)(e:Ending)(w':World):Prop :=
 Ab No w w' ∧
  ((M2 s).1≠0∧e=.returned (.tuple #[.pointer none,.int .i64 ((M2 s).1:Nat),.int .i64 ((M2 s).2:Nat)]) ∨
   M2 s=(0,0)∧∃p X q,e=.returned (.tuple #[.pointer (some ⟨p,0,none⟩),.int .i64 0,.int .i64 0])∧Tr w' X p q∧(∀k,X k→w.heap.size≤k∧k<w'.heap.size)∧Rq s 6 0 s.size q∧s.size≤120∧xU s s.size≤2)
theorem Rv.bad {s:ByteArray}{w w':World}{n a:Nat}(c:n≠0)(b:M2 s=(n,a))(d:Ab No w w'):Rv s w (.returned (.tuple #[.pointer none,.int .i64 (n:Int),.int .i64 (a:Int)])) w' :=
 ⟨d,.inl ⟨by rw[b];exact c,by rw[b]⟩⟩
theorem M7 (s:ByteArray)(w:World):Calls prog 36 #[.string s] w (Rv s w):=by
 by_cases h:s.size≤120
 ·have l:¬(120:Int)<(s.size:Int):=by omega
  have m:xR (RP w.heap.size s 0 (w.alloc (.cells #[.string s,.int .i64 0] 93))):=⟨by omega,heap_alloc_new w _⟩;have o:=Ae h;go_enter func36,ntmps36;go_wp21;go_call US w.heap.size s _ h m.o as e w1 ⟨p1,d,r⟩;have f:xR (Ab No w w1):=((Ab.refl No w).alloc _).trans d (fun _ e=>e) (fun i hi e=>by omega);have c1:=p1.c1;have t:(w.alloc (.cells #[.string s,.int .i64 0] 93)).heap.size=w.heap.size+1:=by simp
  rcases r with ⟨g,rfl⟩|⟨hz,p,X,q,rfl,ht,hX,hr⟩
  ·have C:(((Em s).1:Int) != 0)=true:=(by simp;omega);have b:xR (M2 s=((Em s).1,(Em s).2)):=(by show _=_;unfold M2;rw[if_neg (by omega),if_neg g]);have u:=Ae g;clear p1 d g t;go_wp21;go_quiet (fail);go_wp21;go_ret3;exact Rv.bad u.o b.o (f.o.drewN _)
  have v:=Ae ht;have x:xR (∀k,X k→w.heap.size≤k∧k<w1.heap.size):=fun k j=>⟨by have:=(hX k j).1;omega,(hX k j).2⟩;have y:=Ae hr;clear p1 d ht hX hr;by_cases c:2<xU s s.size
  ·have z:(2:Int)<(xU s s.size:Int):=(by omega);have b:xR (M2 s=(4,0)):=(by show _=_;unfold M2;rw[if_neg (by omega),if_pos hz,if_pos c]);clear hz c;go_wp21;go_call BE s _ as e A ⟨rfl,rfl⟩;go_wp21;go_ret3;exact Rv.bad (n:=4) (a:=0) (by omega) b.o f.o
  have z:¬(2:Int)<(xU s s.size:Int):=by omega
  have B:xR (xU s s.size≤2):=Nat.le_of_not_lt c;have b:xR (M2 s=(0,0)):=by show _=_;unfold M2;rw[if_neg (by omega),if_pos hz,if_neg c]
  clear hz c;go_wp21;go_call BE s _ as e A ⟨rfl,rfl⟩;go_wp21;go_ret3;exact⟨f.o,.inr ⟨b.o,p,X,q,rfl,v.o,x.o,y.o,o.o,B.o⟩⟩
 have l:(120:Int)<(s.size:Int):=by omega
 have b:xR (M2 s=(1,0)):=by show _=_;unfold M2;rw[if_pos (by omega)]
 go_enter func36,ntmps36;go_wp21;go_ret3;exact Rv.bad (n:=1) (a:=0) (by omega) b.o (Ab.refl _ _)
theorem iN {a b c d:Int}(h:a=c)(k:b=d):Ending.returned (.tuple #[.int .i64 a,.int .i64 b])=.returned (.tuple #[.int .i64 c,.int .i64 d]):=by rw[h,k]
theorem NF (s:ByteArray)(w:World) :
 Calls prog 86 #[.string s] w fun e w'=>e=.returned (.tuple #[.int .i64 ((M2 s).1:Nat),.int .i64 ((M2 s).2:Nat)])∧Ab No w w':=by
 go_enter func86,ntmps86;go_wp21;go_call M7 s _ as e w1 ⟨a,d⟩;have b:=Ae a;clear a;rcases d with ⟨f,rfl⟩|⟨hz,p,X,q,rfl,_⟩
 ·clear f;go_wp21;go_ret2;exact⟨rfl,b.o⟩
 have c:=Ae hz;clear hz;go_wp21;go_ret2;exact⟨iN (by rw[c.o];rfl) (by rw[c.o];rfl),b.o⟩
end Go.Proofs.YtdinjjmcmfjbfaaGreatDoor
