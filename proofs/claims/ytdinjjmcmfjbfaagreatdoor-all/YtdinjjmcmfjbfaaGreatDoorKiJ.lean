import Derived.Test.YtdinjjmcmfjbfaaGreatDoorWyJ
namespace Go.Proofs.YtdinjjmcmfjbfaaGreatDoor.Mo
theorem VR {l:Bag}(h:nn l)(q:Row):cnt l q*xZ q≤Wt l:=by
 have e:cnt l q*xZ q=Ci l (fun r=>if r=q then xZ q else 0):=by rw[B1,vW,←Ks];refine Eg l fun e _=>?_;split <;> simp
 rw[e];exact Cv h fun r=>by split;(rename_i hr;rw[hr];exact vU _);exact Ny r
theorem OE {a b c d:Int}(e:0≤a)(f: -b≤c)(g:c≤b)(_:a*b≤d): -d≤a*c∧a*c≤d:=by
 have e1:=vA g e;have e2:=vA f e;rw[Int.mul_neg] at e2;omega
theorem bZ {ts:List Bool}{b:Bag}(h:B2 ts b)(s:Option Nat)(q:Row): -90000000000000000≤cnt b q*sv s q∧cnt b q*sv s q≤90000000000000000:=by
 have c:=VR h.nn q;have d:=h.wts;have a:=BB s q;exact OE (h.nn q) a.1 a.2 (by omega)
theorem nQ {ts:List Bool}{b d:Bag}(h:B2 ts b)(k:B2 ts (b++d))(s:Option Nat)(q:Row): -9223372036854775808≤cnt d q*sv s q∧cnt d q*sv s q≤9223372036854775807:=by
 have a:=bZ h s q;have c:=bZ k s q;have e:cnt d q*sv s q=cnt (b++d) q*sv s q-cnt b q*sv s q:=by rw[Ah,xG];omega
 omega
theorem OG {ts:List Bool}{b:Bag}(h:B2 ts b)(cs:List Nat)(s:Option Nat)(k:Row): -90000000000000000≤cnt (Ch cs s b) k∧cnt (Ch cs s b) k≤90000000000000000:=by
 have a:=RV (cs:=cs) (s:=s) h.nn k;have c:Ci b (fun r=>if Ao cs r=k then xZ r else 0)≤Wt b:=Cv h.nn fun r=>by split;exact vU _;exact Ny r
 have d:=h.wts;rw[IM];omega
theorem EM {ts:List Bool}{b:Bag}(h:B2 ts b)(cs:List Nat)(k:Row):0≤cnt (Az cs b) k∧cnt (Az cs b) k≤3000000000000:=by
 have a:=GW (cs:=cs) h.nn;have c:=Le a k;rw[Xx] at c;have d:=h.rows;exact⟨a k,by omega⟩
theorem VT {cs:List Nat}{s:Option Nat}{l:Bag}{ks b:List Row}(c:ks.Nodup)(d:b.Nodup)(h:∀k,k∈ks↔k∈b):A9 (ks.flatMap (Lr cs s l)) (b.flatMap (Lr cs s l)):=fun r=>by
 rw[Lf c,Lf d];by_cases a:r.dropLast∈ks
 ·rw[if_pos a,if_pos ((h _).1 a)]
 rw[if_neg a,if_neg (fun e=>a ((h _).2 e))]
theorem cC {cs:List Nat}{d:Bag}{k:Row}(h:cnt (Az cs d) k≠0):k.length=cs.length:=by
 obtain⟨x,a,rfl⟩:=Ck.Cq h;obtain⟨y,_,rfl⟩:=uA.1 a;simp[Ao]
theorem jD {cs:List Nat}{s:Option Nat}{d:Bag}{k:Row}(h:cnt (Ch cs s d) k≠0):k.length=cs.length:=by
 obtain⟨x,a,rfl⟩:=Ck.Cq h;obtain⟨y,_,rfl⟩:=uA.1 a;simp[Ao]
end Go.Proofs.YtdinjjmcmfjbfaaGreatDoor.Mo
namespace Go.Proofs.YtdinjjmcmfjbfaaGreatDoor
open Go.RowKit Go.Shelf Mo Pl Tryz
def Q6 (w:World)(O:Ow)(b:Nat)(T:Value)(cs:List Nat)(s:Option Nat)(x:Dk)(B:Bag):Prop :=
 O b=b+2∧∃g cap hv tv cv,w.heap[b]? =some (.cells (Lw (Qc g cap) hv tv cv x) 286 (0,0))∧O6 w O b g T∧Dr w O b hv (Az cs B)∧Dr w O b tv (Ch cs s B)∧Nb w O cv cs∧∀k,tv=.map (some k)→hv≠.map (some k)
theorem Q6.stab {w w':World}{O f:Ow}{b:Nat}{T:Value}{cs:List Nat}{s:Option Nat}{x:Dk}{B:Bag}(h:Q6 w O b T cs s x B)(m:w.heap.size≤w'.heap.size)(a:∀k,k<w.heap.size→O k=b+2∨O k=1→w'.heap[k]? =w.heap[k]?∧f k=O k):Q6 w' f b T cs s x B:=by
 obtain⟨i,g,cap,hv,tv,cv,j,d,n,o,p,q⟩:=h;have l:=a b (Aa j) (.inl i);exact⟨l.2.trans i,g,cap,hv,tv,cv,l.1.trans j,d.stab (a g d.lt (.inl d.1)),n.stab fun k c e=>a k c (.inl e),o.stab fun k c e=>a k c (.inl e),p.stab m fun k c e=>a k c (.inr e),q⟩
theorem Q6.eqv {w:World}{O:Ow}{b:Nat}{T:Value}{cs:List Nat}{s:Option Nat}{x:Dk}{B a:Bag}(h:Q6 w O b T cs s x B)(e:A9 B a):Q6 w O b T cs s x a:=by
 obtain⟨c,g,cap,hv,tv,cv,d,f,i,j,k,l⟩:=h;exact⟨c,g,cap,hv,tv,cv,d,f,i.eqv (Ej e),j.eqv (Ub e),k,l⟩
theorem Ak.Oc {w:World}{b:Nat}{l a:Bag}(h:Ak w b l)(e:A9 l a):Ak w b (Ad a):=by
 refine h.eqv (e.trans (Bc _).symm) fun x c=>?_;have:cnt l x.1≠0:=by rw[e];exact E7 c
 obtain⟨y,d,f⟩:=Ck.Cq this;rw[←f];exact h.1 y d
theorem P9 {a b:Bag}(h:∀x∈Ad a,Ge x.1)(k:∀x∈Ad b,Ge x.1):∀x∈Ad (a++b),Ge x.1:=fun x d=>by
 have f:=E7 d;rw[Ah] at f;by_cases g:cnt a x.1=0
 ·have:cnt b x.1≠0:=by omega
  obtain⟨y,c,e⟩:=Gw this;rw[←e];exact k y c
 obtain⟨y,c,e⟩:=Gw g;rw[←e];exact h y c
theorem SJ {us:List Bool}{b:Bag}(h:B2 us b)(cs:List Nat)(s:Option Nat)(es:Bag):gB (Ad (Az cs b)) (Ad (Ch cs s b)) 1 es=(es.map (·.1)).flatMap (Lr cs s b)∧gB (Ad (Az cs b)) (Ad (Ch cs s b)) (-1) es=neg ((es.map (·.1)).flatMap (Lr cs s b)):=by
 have a:∀k,wrap64 (cnt (Ad (Az cs b)) k)=cnt (Az cs b) k:=fun k=>by rw[Aq,Ga];have:=EM h cs k;omega
 have c:∀k,wrap64 (cnt (Ad (Ch cs s b)) k)=cnt (Ch cs s b) k:=fun k=>by rw[Aq,Ga];have:=OG h cs s k;omega
 unfold gB gE;simp only[a,c];constructor
 ·rw[List.flatMap_map];rfl
 rw[List.flatMap_map];induction es with
 |nil=>rfl
 |cons e es d =>rw[uX,d,uX];unfold neg Lr;rw[uF];congr 1;split <;> simp
theorem nR:M9 284 262:=⟨fun _ _=>by kernel_rfl,fun _ _=>by kernel_rfl,enters_of func262 (by kernel_rfl) rfl⟩
structure cD (us:List Bool) (cs:List Nat) (s:Option Nat) (x:Dk):Prop where
 c6:∀y∈cs,y<6
 l5:cs.length≤5
 x6:∀c,x=.col c→c<6
 row:∀{q:Row},Ei us q→Ge (Ao cs q)
 sv:∀q,Mo.sv s q=nI (Iv x q)
theorem BP {ty:TypeId}{f:Nat}{p:Addr}{A:Nat→Prop}{ts:List Bool}{Gd:Bag→Prop}{R:World→Ow→Bag→Prop}(v:C9 ty f p A ts Gd R)(b:Nat)(cs:List Nat)(s:Option Nat)(x:Dk)(us:List Bool)(M:cD us cs s x)(bf:¬A (b+2)) :
 C9 284 262 ⟨b,0,none⟩ (fun a=>A a∨a=b+2) us (fun B=>B2 us B∧Gd (yE cs s B)) (fun w O B=>R w O (yE cs s B)∧Q6 w O b (.iface ty (.pointer (some p))) cs s x B) where
 zero:=fun h=>h.elim v.zero (by omega)
 one:=fun h=>h.elim v.one (by omega)
 ok:=fun h=>h.1
 gde:=fun h e=>⟨h.1.eqv e,by rw[←Nx e];exact h.2⟩
 stab:=fun h bg H=>⟨v.stab h.1 bg fun k m az=>H k m (az.imp .inl id),h.2.stab bg fun k m e=>H k m (e.imp .inr id)⟩
 eqv:=fun h e=>⟨by rw[←Nx e];exact h.1,h.2.eqv e⟩
 met:=nR
 run:=by
  rintro w O B d c ⟨ca,cb⟩ ⟨F,bh⟩ ⟨N,cc⟩ cd dg;have al:=F.chg N;obtain⟨a0,g,cap,hv,tv,cv,W,hg,X,Y,bi,a1⟩:=cb;refine bU b c (Qc g cap) hv tv cv cs s x us d ⟨M.c6,by have:=M.l5;omega,M.x6,M.row,M.sv,nQ F N s⟩ w _ W bi.1 al cd fun w3 es ce az cf H=>?_;have bj:=ce.eqv al;have a2:Ak w3 w.heap.size (Ad (Az cs d)):=az.Oc (Ej bj);have am:Ak w3 (w.heap.size+1) (Ad (Ch cs s d)):=cf.Oc (Ub bj);have a3:=Aa W;have dh:(Ad (Az cs d)).length≤6000000000000:=by have j:A9 (Az cs d) (Az cs (Ad d)):=Ej (Bc d).symm;have n:=A3 (Az cs (Ad d)) [];have Z:(Az cs (Ad d)).length=(Ad d).length:=tZ _;have a4:=al.len;simp only[vT,Ad,vI] at n;rw[j.canon];omega
  have di:(Ad (Ch cs s d)).length≤6000000000000:=by have j:A9 (Ch cs s d) (Ch cs s (Ad d)):=Ub (Bc d).symm;have n:=A3 (Ch cs s (Ad d)) [];have Z:(Ch cs s (Ad d)).length=(Ad d).length:=tZ _;have a4:=al.len;simp only[vT,Ad,vI] at n;rw[j.canon];omega
  have dj:(Ad (Az cs B)).length≤3000000000000:=by have j:A9 (Az cs B) (Az cs (Ad B)):=Ej (Bc B).symm;have n:=A3 (Az cs (Ad B)) [];have Z:(Az cs (Ad B)).length=(Ad B).length:=tZ _;have a4:=F.len;simp only[vT,Ad,vI] at n;rw[j.canon];omega
  have dk:(Ad (Ch cs s B)).length≤3000000000000:=by have j:A9 (Ch cs s B) (Ch cs s (Ad B)):=Ub (Bc B).symm;have n:=A3 (Ch cs s (Ad B)) [];have Z:(Ch cs s (Ad B)).length=(Ad B).length:=tZ _;have a4:=F.len;simp only[vT,Ad,vI] at n;rw[j.canon];omega
  have I:∀l:Bag,Ad (Ad l)=Ad l:=fun l=>Bp (Ap l);have cg:∀k,wrap64 (cnt (Ad (Az cs d)) k)=cnt (Az cs d) k:=fun k=>by rw[Aq,Ga];have j:=EM F cs k;have n:=EM N cs k;rw[G7,Ah] at n;omega
  have a5:∀k,wrap64 (cnt (Ad (Ch cs s d)) k)=cnt (Ch cs s d) k:=fun k=>by rw[Aq,Ga];have j:=OG F cs s k;have n:=OG N cs s k;rw[Mt,Ah] at n;omega
  unfold bT;go_call BJ (.map (some w.heap.size)) _ w3 (.inr ⟨_,rfl,a2⟩) as e w4 ⟨v',rfl,ch,a6,_,aa⟩;have a6:v'=.map (some w3.heap.size):=a6.resolve_left fun h=>by cases h.2
  subst a6;have ci:Ak w4 w3.heap.size (Ad (Az cs d)):=by
   rcases ch with ⟨e,_⟩|⟨b',e,h⟩
   ·cases e
   have:w3.heap.size=b':=(by simpa using e);subst this;exact h
  refine⟨w3.heap.size,rfl,?_⟩;have dl:=am.lt;go_call bQ w3.heap.size (w.heap.size+1) _ _ w4 ci (am.kept aa xT) (by omega) (by rw[I,I];unfold maxLen;omega) as e w5 ⟨rfl,J,a7,ab,an⟩;refine⟨rfl,?_⟩;obtain⟨u,a8⟩:∃u,u=Ff (Ad (Az cs d)) J:=⟨_,rfl⟩;rw[←a8] at ab;have cj:Ab No w w5:=(H.seq aa).trans an (fun _ e=>e) (fun i hi e=>by have:=H.size;omega);have bk:∀k,cnt u k=if k∈J.map (·.1) then cnt J k else cnt (Ad (Az cs d)) k:=fun k=>by rw[a8];exact Pa _ _ k
  have bl:∀k,cnt J k=cnt (Ch cs s d) k:=fun k=>by rw[a7.cnt am.1 k,a5]
  have bm:∀k,k∈J.map (·.1)→cnt (Ch cs s d) k≠0:=fun k m=>by obtain⟨e,ac,rfl⟩:=uA.1 m;have j:=(a7.1.2 e ac).2;rw[a5] at j;rw[←j.1];exact j.2
  have bn:∀k,wrap64 (cnt u k)≠0→k.length≤5:=fun k m=>by
   have P:cnt u k≠0:=fun e=>m (by rw[e];exact Cn);rw[bk] at P;have:=M.l5;split at P
   ·rename_i ck;rw[jD (bm k ck)];exact this
   rw[Aq] at P;rw[cC P];exact this
  have dm:(Ad u).length≤12000000000000:=by have j:=Yr (Ad (Az cs d)) J;have n:=a7.1.len;rw[I] at j n;rw[a8];omega
  have cl:Ak (w5.alloc (.map #[] 0)) w5.heap.size []:=Ak.made w5;have ao:Ab No w (w5.alloc (.map #[] 0)):=cj.alloc _;have cm:C2 (w5.alloc (.map #[] 0)) b (Lw (Qc g cap) hv tv cv x) 286:=(ao.block b a3 xT).trans W;have dn:w.heap.size+1<w5.heap.size:=by have:=an.size;have:=aa.size;omega
  have cn:w3.heap.size<w5.heap.size:=ab.lt;have ap:∀k,hv=.map (some k)→k<w.heap.size:=fun k e=>X.1.lt e;have Q:∀k,tv=.map (some k)→k<w.heap.size:=fun k e=>Y.1.lt e
  refine (Sk b w5.heap.size w3.heap.size (Qc g cap) hv tv cv x (Ad (Az cs B)) (Ad (Ch cs s B)) [] u (-1) _ cm (X.1.Ag ao) (Y.1.Ag ao) cl (ab.A6 (Below.heap_alloc _ _ _ cn)) (by omega)
   (fun e=>by have:=ap _ e;omega) (fun e=>by have:=Q _ e;omega) bn (by simp only[Ad,vI];unfold maxLen;omega)).mono ?_
  rintro e w6 ⟨rfl,S,aq,bo,ar⟩;refine⟨rfl,?_⟩;have D:Ab No w w6:=ao.trans ar (fun _ e=>e) (fun i hi e=>by omega);have bp:w5.heap.size<w6.heap.size:=bo.lt;have bq:C2 w6 b (Lw (Qc g cap) hv tv cv x) 286:=(D.block b a3 xT).trans W;have br:Ak w6 w.heap.size (Ad (Az cs d)):=by have ad:Ab (fun k=>k=w3.heap.size∨k=w5.heap.size) w3 w6:=aa.trans (an.trans ((Ab.refl (fun k=>k=w5.heap.size) w5).alloc _|>.seq ar) (U:=fun k=>k=w3.heap.size∨k=w5.heap.size) (fun _ e=>.inl e) (fun _ _ e=>.inr e)) (fun _ e=>e.elim) (fun _ _ e=>e);exact a2.kept ad (by have:=a2.lt;omega)
  have bs:Ak w6 (w.heap.size+1) (Ad (Ch cs s d)):=by have ad:Ab (fun k=>k=w3.heap.size∨k=w5.heap.size) w3 w6:=aa.trans (an.trans ((Ab.refl (fun k=>k=w5.heap.size) w5).alloc _|>.seq ar) (U:=fun k=>k=w3.heap.size∨k=w5.heap.size) (fun _ e=>.inl e) (fun _ _ e=>.inr e)) (fun _ e=>e.elim) (fun _ _ e=>e);exact am.kept ad (by omega)
  have bt:Ak w6 w3.heap.size u:=by have ad:Ab (fun k=>k=w5.heap.size) w5 w6:=((Ab.refl (fun k=>k=w5.heap.size) w5).alloc _).seq ar;exact ab.kept ad (by omega)
  have a9:Dr w6 (oN w O) b hv (Az cs B):=X.stab fun k m _=>⟨D.block k m xT,Gx m⟩;have au:Dr w6 (oN w O) b tv (Ch cs s B):=Y.stab fun k m _=>⟨D.block k m xT,Gx m⟩;refine (Hc b 1 (Lw (Qc g cap) hv tv cv x) 286 hv (.map (some w.heap.size)) (Ad (Az cs B)) (Ad (Az cs d)) w6 bq rfl a9.1 (.inr ⟨_,rfl,br⟩) (fun k e t=>by have:=ap k e;have:w.heap.size=k:=(by simpa using t);omega) (by rw[I,I];unfold maxLen;omega)).mono fun e q co=>?_;obtain⟨cp,z,cq,T,E,ae⟩:=co.mem a9 (P9 a9.1.ok br.1);refine⟨cp,?_⟩;rw[←G7] at T;have bu:C2 q b (Lw (Qc g cap) z tv cv x) 286:=cq;have dp:w6.heap.size≤q.heap.size:=ae.size;have dq:∀k,k<w.heap.size∨w5.heap.size≤k→True:=fun _ _=>trivial;have ba:∀k,w.heap.size≤k→k<w6.heap.size→q.heap[k]? =w6.heap[k]? :=fun k j n=>ae.block k n (by
   rintro (rfl|e)
   ·omega
   have:=ap k e;omega)
  have bb:Dr q (oB w6 (oN w O) (b+2)) b tv (Ch cs s B):=by
   refine⟨au.1.kept ae fun k e=>?_,fun k e=>by rw[Fu (au.1.lt e)];exact au.2 k e⟩;rintro (rfl|t)
   ·exact au.F4 e bq rfl
   exact a1 k e t
  have bv:Ak q (w.heap.size+1) (Ad (Ch cs s d)):=bs.A6 (ba _ (by omega) bs.lt);refine (Hc b 2 (Lw (Qc g cap) z tv cv x) 286 tv (.map (some (w.heap.size+1))) (Ad (Ch cs s B)) (Ad (Ch cs s d)) q bu rfl bb.1 (.inr ⟨_,rfl,bv⟩) (fun k e t=>by have:=Q k e;have:w.heap.size+1=k:=(by simpa using t);omega) (by rw[I,I];unfold maxLen;omega)).mono fun e G cr=>?_;obtain⟨ct,K,cu,av,V,af⟩:=cr.mem bb (P9 bb.1.ok bv.1);refine⟨ct,?_⟩;rw[←Mt] at av;have bc:C2 G b (Lw (Qc g cap) z K cv x) 286:=cu;have bw:∀k,w.heap.size≤k→k<q.heap.size→G.heap[k]? =q.heap[k]? :=fun k j n=>af.block k n (by
   rintro (rfl|e)
   ·omega
   have:=Q k e;omega)
  have dr:q.heap.size≤G.heap.size:=af.size;have bx:∀k,z=.map (some k)→k<w.heap.size∨w6.heap.size≤k:=fun k e=>by
   rcases E with rfl|E
   ·exact .inl (ap k e)
   exact .inr (E k e)
  have bz:∀k,K=.map (some k)→k<w.heap.size∨q.heap.size≤k:=fun k e=>by
   rcases V with rfl|V
   ·exact .inl (Q k e)
   exact .inr (V k e)
  have bd:Dr G (oB q (oB w6 (oN w O) (b+2)) (b+2)) b z (Az cs (B++d)):=by
   refine⟨T.1.kept af fun k e=>?_,fun k e=>by rw[Fu (T.1.lt e)];exact T.2 k e⟩;rintro (rfl|t)
   ·exact T.F4 e bu rfl
   rcases E with rfl|E
   ·exact a1 k t e
   have:=E k e;have:=Q k t;have:=D.size;omega
  have cw:Ak G w5.heap.size (gB (Ad (Az cs B)) (Ad (Ch cs s B)) (-1) S++[]):=(bo.A6 (ba _ (by omega) bp)).A6 (bw _ (by omega) (by omega));have cx:Ak G w3.heap.size u:=(bt.A6 (ba _ H.size bt.lt)).A6 (bw _ H.size (by omega))
  refine (Sk b w5.heap.size w3.heap.size (Qc g cap) z K cv x (Ad (Az cs (B++d))) (Ad (Ch cs s (B++d))) _ u 1 G bc bd.1 av.1 cw cx (by omega)
   (fun e=>by have:=bx _ e;omega) (fun e=>by have:=bz _ e;omega) bn (by have e1:=A3 (gB (Ad (Az cs B)) (Ad (Ch cs s B)) (-1) S) [];have e2:=NX (Ad (Az cs B)) (Ad (Ch cs s B)) (-1) S;have e3:=aq.1.len;simp only[Ad,vI] at e1;unfold maxLen;omega)).mono ?_
  rintro e C ⟨rfl,ag,ah,cy,ai⟩;refine⟨rfl,?_⟩;have be:∀k,wrap64 (cnt u k)≠0→Ge k:=fun k m=>by have P:cnt u k≠0:=fun e=>m (by rw[e];exact Cn);obtain⟨y,L,e⟩:=Ck.Cq P;rw[←e];exact ab.1 y L
  have cz:∀k,k∈ag.map (·.1)↔k∈S.map (·.1):=fun k=>by
   constructor
   ·intro m;obtain⟨e,ac,rfl⟩:=uA.1 m;have j:=(ah.1.2 e ac).2;have n:wrap64 (cnt u e.1)≠0:=(by rw[←j.1];exact j.2);obtain⟨y,L,t⟩:=aq.2 e.1 (be _ n) n;exact uA.2 ⟨y,L,t⟩
   intro m;obtain⟨e,ac,rfl⟩:=uA.1 m;have j:=(aq.1.2 e ac).2;have n:wrap64 (cnt u e.1)≠0:=(by rw[←j.1];exact j.2);obtain⟨y,L,t⟩:=ah.2 e.1 (be _ n) n;exact uA.2 ⟨y,L,t⟩
  have c0:∀k,cnt (Az cs d) k≠0∨cnt (Ch cs s d) k≠0→k∈ag.map (·.1):=fun k m=>by
   have b0:wrap64 (cnt u k)≠0:=by
    rw[bk];by_cases aw:cnt (Ch cs s d) k=0
    ·rw[if_neg (fun h=>bm k h aw),cg];exact m.resolve_right (fun h=>h aw)
    have:k∈J.map (·.1):=(by refine Classical.byContradiction fun c1=>aw ?_;rw[←bl];exact Dq fun x c2 e=>c1 (uA.2 ⟨x,c2,e⟩));rw[if_pos this,bl,←Aq,a5];exact aw
   obtain⟨y,L,e⟩:=ah.2 k (be k b0) b0;exact uA.2 ⟨y,L,e⟩
  obtain⟨aj,b1⟩:∃aj,aj=neg ((S.map (·.1)).flatMap (Lr cs s B))++(ag.map (·.1)).flatMap (Lr cs s (B++d)):=⟨_,rfl⟩;have b2:A9 (yE cs s B++aj) (yE cs s (B++d)):=by refine A9.trans ?_ (UW F.nn N.nn (ks:=ag.map (·.1)) ah.1.1 c0);rw[b1];exact (A9.refl _).append ((VT aq.1.1 ah.1.1 (fun k=>(cz k).symm)).neg.append (A9.refl _))
  have b3:Gd (yE cs s B++aj):=v.gde cc b2.symm;have ds:=(v.ok bh).chg (v.ok b3);have c3:Ak C w5.heap.size (Ad aj):=by refine cy.Oc fun r=>?_;rw[(SJ N cs s ag).1,(SJ F cs s S).2,b1];simp only[Ah,cnt];omega
  have ak:∀k,k<w.heap.size→oB q (oB w6 (oN w O) (b+2)) (b+2) k=O k:=fun k m=>by have c4:=D.size;rw[Fu (by omega),Fu (by omega),Gx m]
  have ax:Ab (fun k=>O k=b+2) w C:=by
   have c5:Ab (fun k=>O k=b+2) w q:=D.trans ae (fun _ e=>e.elim) (fun i hi e=>by
    rcases e with rfl|e
    ·exact a0
    exact X.2 i e)
   have c6:Ab (fun k=>O k=b+2) w G:=c5.trans af (fun _ e=>e) (fun i hi e=>by
    rcases e with rfl|e
    ·exact a0
    exact Y.2 i e)
   exact c6.trans ai (fun _ e=>e) (fun i hi e=>by omega)
  have b4:C2 C b (Lw (Qc g cap) z K cv x) 286:=(ai.block b (Aa bc) (by omega)).trans bc;have b5:=hg.lt;have ay:∀k,k=b∨hv=.map (some k)∨tv=.map (some k)→g≠k:=by
   rintro k (rfl|e|e) rfl
   ·obtain⟨_,b6,b7,j,_⟩:=hg;rw[W] at j;injection j with j;injection j with _ j;exact absurd j (by decide)
   ·obtain⟨_,b6,b7,j,_⟩:=hg;exact X.F4 e j rfl
   obtain⟨_,b6,b7,j,_⟩:=hg;exact Y.F4 e j rfl
  have b8:O6 C (oB q (oB w6 (oN w O) (b+2)) (b+2)) b g (.iface ty (.pointer (some p))):=by refine hg.stab ⟨?_,ak g b5⟩;have c4:=D.size;rw[ai.block g (by omega) (by omega),af.block g (by omega) (fun e=>by rcases e with e|e;exact ay g (.inl e) rfl;exact ay g (.inr (.inr e)) rfl),ae.block g (by omega) (fun e=>by rcases e with e|e;exact ay g (.inl e) rfl;exact ay g (.inr (.inl e)) rfl)];exact D.block g b5 xT
  have c7:Dr C (oB q (oB w6 (oN w O) (b+2)) (b+2)) b z (Az cs (B++d)):=⟨bd.1.kept ai fun k e t=>by have:=bx k e;omega,bd.2⟩;have c8:Dr C (oB q (oB w6 (oN w O) (b+2)) (b+2)) b K (Ch cs s (B++d)):=⟨av.1.kept ai fun k e t=>by have:=bz k e;omega,av.2⟩;have c9:Nb C (oB q (oB w6 (oN w O) (b+2)) (b+2)) cv cs:=bi.stab ax.size fun k m e=>⟨ax.block k m (by omega),ak k m⟩;have da:R C (oB q (oB w6 (oN w O) (b+2)) (b+2)) (yE cs s B):=v.kept ca ax (fun k e=>⟨by rw[e];exact bf,by omega⟩) ak;have db:oB q (oB w6 (oN w O) (b+2)) (b+2) w5.heap.size=0:=by rw[Fu (by omega),Fu bp,Yi (by omega)]
  refine (v.give (b:=b) (c:=w5.heap.size) (g:=g) (o:=0) (cap:=cap) ((Af b4 0).trans rfl) b8.cell da bh b3 c3 (by rw[db];exact v.zero)).mono fun e dc b9=>⟨b9.1,?_⟩;refine Fb.sA (b:=b) ak ax b9 fun dd j n Z=>⟨v.eqv Z b2,?_⟩;have de:∀k,K=.map (some k)→z≠.map (some k):=fun k e t=>by
   rcases V with rfl|V
   ·rcases E with rfl|E
    ·exact a1 k e t
    have:=E k t;have:=Q k e;have:=D.size;omega
   have:=V k e;have:=T.1.lt t;omega
  have df:∀k,k<C.heap.size→oB q (oB w6 (oN w O) (b+2)) (b+2) k=b+2∨oB q (oB w6 (oN w O) (b+2)) (b+2) k=1→dc.heap[k]? =C.heap[k]?∧dd k=oB q (oB w6 (oN w O) (b+2)) (b+2) k:=fun k m e=>⟨n.block k m (by rcases e with e|e <;> rw[e];exact bf;exact v.one),j k m⟩;exact Q6.stab ⟨by rw[ak b a3];exact a0,g,cap,z,K,cv,b4,b8,c7,c8,c9,de⟩ n.size df
end Go.Proofs.YtdinjjmcmfjbfaaGreatDoor
