import Derived.Test.YtdinjjmcmfjbfaaGreatDoorRbcJ
import Derived.Test.YtdinjjmcmfjbfaaGreatDoorUsJ
import Derived.Test.YtdinjjmcmfjbfaaGreatDoorRqJ
set_option maxRecDepth 100000
set_option maxHeartbeats 4000000
namespace Go.Proofs.YtdinjjmcmfjbfaaGreatDoor
open Go.RowKit Mo Pl Tryz
theorem LK:(prog.info? 204).map (fun i=>(i.zero,i.size,i.bytes))=some (some (.agg #[.int .u8 0,.string ⟨#[]⟩,.slice none 0 0,.int .u8 0,.int .u8 0,.bool false,.int .i64 0,.string ⟨#[]⟩,.int .i64 0,.int .i64 0,.int .i64 0,.int .i64 0]),12,120):=by kernel_rfl
def PB (g:Nat)(vb:Int)(P:Array Value)(w:World):Prop:=w.heap[g]? =some (.cells P 204 (0,0))∧P.size=12∧P[0]? =some (.int .u8 vb)∧∀(i:Nat) (v:Value),P[i]? =some v→v.oneCell'=true
section
variable {g:Nat} {vb:Int} {P:Array Value} {w w':World}
theorem PB.cell (h:PB g vb P w){i:Nat}(hi:i<12):∃v,w.cell? ⟨g,i,none⟩=some v:=by
 obtain⟨a,_,_⟩:=h;exact⟨P[i],by rw[Af a];exact uG (by omega)⟩
theorem PB.verb (h:PB g vb P w):w.cell? ⟨g,0,none⟩=some (.int .u8 vb):=by
 obtain⟨a,_,b,_⟩:=h;rw[Af a];exact b
theorem PB.fz (h:PB g vb P w)(i:Nat):w.frozen? ⟨g,i,none⟩=false:=Am h.1 i
theorem PB.lt (h:PB g vb P w):g<w.heap.size:=Aa h.1
theorem PB.set (h:PB g vb P w){i:Nat}(hi:0<i){v:Value}(hv:v.oneCell'=true):PB g vb (P.setIfInBounds i v) (w.setCell ⟨g,i,none⟩ v):=by
 obtain⟨b,c,d,e⟩:=h;refine⟨A0 b i v,by simp[c],?_,fun k f a=>?_⟩
 ·rw[vB,if_neg (by omega)];exact d
 rw[vB] at a;split at a
 ·split at a
  ·injection a with a;rw[←a];exact hv
  cases a
 exact e k f a
theorem PB.FU (h:PB g vb P w)(b:Int):PB g b (P.setIfInBounds 0 (.int .u8 b)) (w.setCell ⟨g,0,none⟩ (.int .u8 b)):=by
 obtain⟨c,d,_,e⟩:=h;refine⟨A0 c 0 _,by simp[d],?_,fun k f a=>?_⟩
 ·rw[vB,if_pos rfl,if_pos (by omega)]
 rw[vB] at a;split at a
 ·split at a
  ·injection a with a;rw[←a];rfl
  cases a
 exact e k f a
theorem PB.Cm (h:PB g vb P w)(a:w'.heap[g]? =w.heap[g]?):PB g vb P w':=⟨a.trans h.1,h.2⟩
theorem PB.frame {B:Nat}{row:Option Nat}(h:PB g vb P w)(hf:Fr B row w w')(hB:g≠B)(hr:some g≠row):PB g vb P w':=h.Cm (hf.block g h.lt hB hr)
theorem PB.other (h:PB g vb P w){b o:Nat}(a:g≠b)(v:Value):PB g vb P (w.setCell ⟨b,o,none⟩ v):=h.Cm (Below.heap_setCell _ _ _ _ a)
theorem PB.cells (h:PB g vb P w):∃p1 p2 a b c d e f j k m:Value,P=#[.int .u8 vb,p1,p2,a,b,c,d,e,f,j,k,m]∧C2 w g #[.int .u8 vb,p1,p2,a,b,c,d,e,f,j,k,m] 204∧∀o∈[.int .u8 vb,p1,p2,a,b,c,d,e,f,j,k,m],o.oneCell'=true:=by
 obtain⟨p,r,n,q⟩:=h;obtain⟨l⟩:=P
 match l,r,n,q,p with
 | [q0,p1,p2,a,b,c,d,e,f,j,k,m],_,n,q,p =>simp at n;subst n;refine⟨p1,p2,a,b,c,d,e,f,j,k,m,rfl,p,fun o s=>?_⟩;obtain⟨i,hi⟩:=uY s;exact q i o (by simpa using hi)
end
def PO (B:Nat)(pv:Value)(m:Nat)(xs:List Value)(w:World):Prop:=w.ownsRow (B+1) 204 12 pv m xs
section
variable {B:Nat} {pv:Value} {m:Nat} {xs:List Value} {w w':World}
theorem PO.frame {row:Option Nat}(h:PO B pv m xs w)(hf:Fr B row w w')(hr:row=none):PO B pv m xs w':=by
 subst hr;refine Gc h hf (fun x=>by have:=(World.ownsRow.lt h B x).1;omega) ?_;cases hv:pv.ownBlock
 ·exact .inl rfl
 exact .inr (by simp)
theorem PO.lt (h:PO B pv m xs w):∀k,pv.ownBlock=some k→B+1≤k∧k<w.heap.size:=World.ownsRow.lt h
theorem PO.alloc (h:PO B pv m xs w)(o:Obj):PO B pv m xs (w.alloc o):=World.ownsRow.alloc h o
theorem PO.other (h:PO B pv m xs w){b o:Nat}(c:some b≠pv.ownBlock)(v:Value):PO B pv m xs (w.setCell ⟨b,o,none⟩ v):=by
 obtain⟨d,a⟩:=h;refine⟨d,?_⟩;rcases a with a|⟨g,cap,e,hv,hg,f,r⟩
 ·exact .inl a
 exact .inr ⟨g,cap,e,hv,hg,by rw[Below.heap_setCell _ _ _ _ (by show g≠b;intro x;apply c;rw[hv,←x];rfl)];exact f,r⟩
theorem PO.form (h:PO B pv m xs w):∃b c,pv=.slice b m c:=by
 obtain⟨_,a⟩:=h;rcases a with ⟨a,d⟩|⟨g,cap,cur,hv,_⟩
 ·subst d;exact⟨_,_,a⟩
 exact⟨_,_,hv⟩
end
def Dv (w w':World):Prop:=∀(k:Nat) (c:Array Value) (z:Nat×Nat),w.heap[k]? =some (.cells c 3 z)→w'.heap[k]? =w.heap[k]?
theorem Dv.refl (w:World):Dv w w:=fun _ _ _ _=>rfl
theorem Dv.trans {a b c:World}(h:Dv a b)(k:Dv b c):Dv a c:=fun i x d e=>(k i x d ((h i x d e).trans e)).trans (h i x d e)
theorem Dv.setCell {w:World}{b o:Nat}{c:Array Value}{t:TypeId}{a:Nat×Nat}(d:w.heap[b]? =some (.cells c t a))(f:t≠3)(v:Value):Dv w (w.setCell ⟨b,o,none⟩ v):=fun k x y e =>
 Below.heap_setCell _ _ _ _ (by show k≠b;rintro rfl;rw[d] at e;injection e with e;injection e with _ e _;exact f e)
theorem Dv.alloc (w:World)(o:Obj):Dv w (w.alloc o):=fun _ _ _ e=>Below.heap_alloc _ _ _ (Aa e)
theorem Dv.frame {B:Nat}{s:ByteArray}{a d e j:Nat}{pl:Value}{row:Option Nat}{w w':World}(h:RR B s a d e j pl w)(hf:Fr B row w w')(hr:∀g,row=some g→∃c i,w.heap[g]? =some (.cells c 204 i)):Dv w w':=fun k c i f=>by
 refine hf.block k (Aa f) (fun x=>?_) (fun x=>?_)
 ·subst x;have:=h.2;rw[f] at this;injection this with this;injection this with _ this _;exact absurd this (by decide)
 obtain⟨_,_,b⟩:=hr k x.symm;rw[f] at b;injection b with b;injection b with _ b _;exact absurd b (by decide)
theorem PO.QO {B:Nat}{pv:Value}{m:Nat}{xs:List Value}{w:World}(h:PO B pv m xs w):∀g,pv.ownBlock=some g→∃c b,w.heap[g]? =some (.cells c 204 b):=by
 rcases h.2 with ⟨rfl,_⟩|⟨g,cap,cur,rfl,_,hg,_⟩
 ·intro g hg;simp[Value.ownBlock] at hg
 intro d a;simp[Value.ownBlock] at a;subst a;exact⟨_,_,hg⟩
theorem R6 {base:Nat}{v:Value}{n:Nat}{xs:List Value}{w w':World}(h:w.ownsRow base 3 1 v n xs)(k:Dv w w'):w'.ownsRow base 3 1 v n xs:=by
 refine⟨h.1,?_⟩;rcases h.2 with hn|⟨g,cap,a,rfl,b,hg,c⟩
 ·exact .inl hn
 exact .inr ⟨g,cap,a,rfl,b,(k g _ _ hg).trans hg,c⟩
def PL (B:Nat)(w:World)(xs:List Value)(S:List Q):Prop:=xs.length=S.length*12∧∀i q,S[i]? =some q→∃p cv,(∀j x,(UP.cells p cv)[j]? =some x→xs[i*12+j]? =some x)∧w.ownsRow (B+1) 3 1 cv p.cols.length (Gp p.cols)∧Zo p∧L7 S i p q
theorem PL.Cm {B:Nat}{w w':World}{xs:List Value}{S:List Q}(h:PL B w xs S)(k:Dv w w'):PL B w' xs S:=⟨h.1,fun i q a=>by
 obtain⟨p,cv,b,c,d,e⟩:=h.2 i q a;exact⟨p,cv,b,R6 c k,d,e⟩⟩
theorem PL.push {B:Nat}{w:World}{xs a:List Value}{S:List Q}{p:UP}{cv:Value}{q:Q}(h:PL B w xs S)(c:a=p.cells cv)(ho:w.ownsRow (B+1) 3 1 cv p.cols.length (Gp p.cols))(hp:Zo p)(d:L7 S S.length p q):PL B w (xs++a) (S++[q]):=by
 have e:a.length=12:=by rw[c];rfl
 refine⟨by simp[h.1,e];omega,fun i r hr=>?_⟩;by_cases hi:i<S.length
 ·rw[uD hi] at hr;obtain⟨f,g,k,l,m,n⟩:=h.2 i r hr;refine⟨f,g,fun j x b=>?_,l,m,n.more⟩;have:=k j x b;rw[uD (tR.1 this).1];exact this
 rw[uC (by omega)] at hr;have o:i-S.length=0:=by have:=(tR.1 hr).1;simp at this;omega
 rw[o] at hr;have:q=r:=by simpa using hr
 subst this;have s:i=S.length:=by omega
 subst s;refine⟨p,cv,fun j x b=>?_,ho,hp,d.more⟩;rw[uC (by rw[h.1];omega),h.1,show S.length*12+j-S.length*12=j by omega,c];exact b
theorem pJ {b b':Nat}{e:TypeId}{k n:Nat}{v:Value}{xs:List Value}{w:World}(h:w.ownsRow b e k v n xs)(_:b'≤b):w.ownsRow b' e k v n xs:=by
 refine⟨h.1,?_⟩;rcases h.2 with hn|⟨g,cap,a,rfl,hg,r⟩
 ·exact .inl hn
 exact .inr ⟨g,cap,a,rfl,by omega,r⟩
theorem Vx (B:Nat)(s:ByteArray)(a d e j c:Nat)(f:Int)(pv:Value)(w:World)(i:s.size≤1000)(k:0<c)(l:f=(c:Int))(h:RR B s a d e j pv w)(m:sn s e c c a=false) :
 Calls prog 138 #[C1 B,.int .u8 f] w fun g w'=>g=.returned (.bool false)∧RR B s a d e j pv w'∧Fr B none w w':=by
 go_call R5 B s a d e j c f pv w i k l h as g w1 ⟨ok,a1,rfl,b,n,p1,o⟩;have b:=b.o;rw[m] at b;subst b;rw[show a1=a from n] at p1;exact⟨rfl,p1,o⟩
attribute [local go_sem ↓] Go.wp_at_zero Go.wp_at_succ
def FV (B:Nat)(s:ByteArray)(f a a':Nat)(S:List Q)(n:Int)(m':Nat)(xs':List Value)(w':World):Prop:=∃q,Rq s f a a' q∧m'=(S++Ea q).length∧n=(m':Int)-1∧PL B w' xs' (S++Ea q)
def QR (B:Nat)(s:ByteArray)(d:Nat)(pv:Value)(m K:Nat)(w:World)(S:List Q)(a:Nat)(X:Nat×Nat)(jn:Nat→Nat→Nat→Prop)(en:Ending)(w':World):Prop :=
 ∃n:Int,en=.returned (.int .i64 n)∧∃e' a' j' pv' m' xs',X=(e',a')∧RR B s a' d e' j' pv' w'∧jn e' a' j'∧PO B pv' m' xs' w'∧m'≤m+K∧Fr B pv.ownBlock w w'∧(pv'.ownBlock=pv.ownBlock∨∀k,pv'.ownBlock=some k→w.heap.size≤k)∧(e'=0→FV B s (6-d) a a' S n m' xs' w')
theorem LL {B:Nat}{s:ByteArray}{a d e j:Nat}{pv yB:Value}{m:Nat}{w W w1:World}{o:Obj}{b cap:Nat}{l:List Value}(n:RR B s a d e j yB W)(p:Fr B pv.ownBlock w W)
 (hr:yB.ownBlock=pv.ownBlock∨∀k,yB.ownBlock=some k→w.heap.size≤k) (r:some B≠yB.ownBlock) (h:(W.alloc o).drew.grownBy w1 yB.ownBlock)
 (q:w1.ownsRow (B+1) 204 12 (.slice (some ⟨b,0,none⟩) (m+1) cap) (m+1) l) (f:yB.ownBlock=some b∨b=W.heap.size+1) :
 RR B s a d e j (.slice (some ⟨b,0,none⟩) (m+1) cap) (w1.setCell ⟨B,5,none⟩ (.slice (some ⟨b,0,none⟩) (m+1) cap))∧PO B (.slice (some ⟨b,0,none⟩) (m+1) cap) (m+1) l (w1.setCell ⟨B,5,none⟩ (.slice (some ⟨b,0,none⟩) (m+1) cap)) ∧
  Fr B pv.ownBlock w (w1.setCell ⟨B,5,none⟩ (.slice (some ⟨b,0,none⟩) (m+1) cap))∧(Value.ownBlock (.slice (some ⟨b,0,none⟩) (m+1) cap)=pv.ownBlock∨∀k,Value.ownBlock (.slice (some ⟨b,0,none⟩) (m+1) cap)=some k→w.heap.size≤k)∧((∀g,yB.ownBlock=some g→∃c t,W.heap[g]? =some (.cells c 204 t))→Dv W (w1.setCell ⟨B,5,none⟩ (.slice (some ⟨b,0,none⟩) (m+1) cap))):=by
 have u:=p.size;refine⟨(RR.grown (w:=(W.alloc o).drew) (n.alloc o) h r).sK _,PO.other q (by have:=(q.lt b rfl).1;simp[Value.ownBlock];omega) _,(((p.alloc o).drew).grown h hr).setCell _ _,?_,fun hp=>Dv.frame n ((((Fr.refl B yB.ownBlock W).alloc o).drew.grown h (.inl rfl)).setCell _ _) hp⟩;rcases f with f|f
 ·rcases hr with hr|hr
  ·left;rw[←hr,f];rfl
  right;intro k i;exact hr k (by rw[f,←i];rfl)
 right;intro k i;simp[Value.ownBlock] at i;omega
theorem QP (B:Nat)(s:ByteArray)(a d e j:Nat)(pv:Value)(m:Nat)(w:World)(xs:List Value)(S:List Q)(g:s.size≤1000)(h:RR B s a d e j pv w)(ho:PO B pv m xs w)(ab:e=0→PL B w xs S∧m=S.length)(_:m≤100000)
 (ac:∀c,c=83∨c=80∨c=74∨c=85∨c=68∨c=71→sn s e c c a=false) :
 Calls prog 130 #[C1 B] w (QR B s d pv m 1 w S a (xW (e,a) (xX (Bj s))) (fun _ _ bd=>bd=j)):=by
 have ca:=Aa h.2;have ad:xR (RR B s a d e j pv (w.alloc (.cells #[.int .u8 0,.string ⟨#[]⟩,.slice none 0 0,.int .u8 0,.int .u8 0,.bool false,.int .i64 0,.string ⟨#[]⟩,.int .i64 0,.int .i64 (-1),.int .i64 (-1),.int .i64 0] 204))):=h.alloc _;have be:=Ae ab;have bf:=Ae h;have bg:=Ae ho;have ae:xR (PO B pv m xs (w.alloc (.cells #[.int .u8 0,.string ⟨#[]⟩,.slice none 0 0,.int .u8 0,.int .u8 0,.bool false,.int .i64 0,.string ⟨#[]⟩,.int .i64 0,.int .i64 (-1),.int .i64 (-1),.int .i64 0] 204))):=ho.alloc _;have l:=Ae ac;have H:xR (∀k,pv.ownBlock=some k→B+1≤k∧k<w.heap.size):=ho.lt;have cb:some w.heap.size≠pv.ownBlock:=fun x=>by have:=(H.o _ x.symm).2;omega
 clear h ho ac ab;go_enter func130,ntmps130;go_wp21;go_call Vx B s a d e j 83 83 pv _ g (by omega) rfl ad.o (l.o 83 (by omega)) as n w1 ⟨rfl,p1,I⟩;have af:=Ae p1;clear p1;go_wp21;go_call Vx B s a d e j 80 80 pv _ g (by omega) rfl af.o (l.o 80 (by omega)) as n cc ⟨rfl,p2,J⟩;have ag:=Ae p2;clear p2;go_wp21;go_call Vx B s a d e j 74 74 pv _ g (by omega) rfl ag.o (l.o 74 (by omega)) as n w3 ⟨rfl,q,K⟩;have ah:=Ae q;clear q;go_wp21;go_call Vx B s a d e j 85 85 pv _ g (by omega) rfl ah.o (l.o 85 (by omega)) as n w4 ⟨rfl,r,L⟩;have ai:=Ae r;clear r;go_wp21;go_call Vx B s a d e j 68 68 pv _ g (by omega) rfl ai.o (l.o 68 (by omega)) as n w5 ⟨rfl,u,C⟩;have aj:=Ae u;clear u;go_wp21;go_call Vx B s a d e j 71 71 pv _ g (by omega) rfl aj.o (l.o 71 (by omega)) as n w6 ⟨rfl,y,M⟩;have ak:=Ae y;clear y;go_wp21;go_call La B s a d e j pv _ g ak.o as n f ⟨t,rfl,al,N,D,am,z,O⟩;have bh:=Ae al;have an:=Ae am;have P:=Ae z;clear z am al;have ao:Fr B none w f:=(((((((Fr.refl B none w).alloc _).seq I).seq J).seq K).seq L).seq C).seq M|>.seq O
 have R:=((((((I.seq J).seq K).seq L).seq C).seq M).seq O);have ap:xR (PO B pv m xs f):=ae.o.frame R rfl;have E:xR (PB w.heap.size 0 #[.int .u8 0,.string ⟨#[]⟩,.slice none 0 0,.int .u8 0,.int .u8 0,.bool false,.int .i64 0,.string ⟨#[]⟩,.int .i64 0,.int .i64 (-1),.int .i64 (-1),.int .i64 0] f):=PB.frame (w:=w.alloc (.cells #[.int .u8 0,.string ⟨#[]⟩,.slice none 0 0,.int .u8 0,.int .u8 0,.bool false,.int .i64 0,.string ⟨#[]⟩,.int .i64 0,.int .i64 (-1),.int .i64 (-1),.int .i64 0] 204)) ⟨heap_alloc_new w _,rfl,rfl,by
  intro i v hv
  match i,hv with
  |0,hv|1,hv|2,hv|3,hv|4,hv|5,hv|6,hv|7,hv|8,hv|9,hv|10,hv|11,hv=>simp at hv;subst hv;rfl⟩ R (by omega) (by simp)
 clear I J K L C M O R af ag ah ai aj ak ad ae l;obtain⟨_,bi⟩:=E.o.cell (i:=1) (by omega);have bj:=E.o.fz 1;go_wp21;have A:xR (RR B s D d N j pv (f.setCell ⟨w.heap.size,1,none⟩ (.string t))):=⟨P.o.1,(Below.heap_setCell _ _ _ _ (by show B≠w.heap.size;omega)).trans P.o.2⟩;have aq:xR (Fr B none w (f.setCell ⟨w.heap.size,1,none⟩ (.string t))):=ao.Pp (tY _) _;have ar:xR (PO B pv m xs (f.setCell ⟨w.heap.size,1,none⟩ (.string t))):=ap.o.other (fun x=>by have:=(H.o _ x.symm);omega) _;have au:xR (PB w.heap.size 0 #[.int .u8 0,.string t,.slice none 0 0,.int .u8 0,.int .u8 0,.bool false,.int .i64 0,.string ⟨#[]⟩,.int .i64 0,.int .i64 (-1),.int .i64 (-1),.int .i64 0] (f.setCell ⟨w.heap.size,1,none⟩ (.string t))):=E.o.set (by omega) rfl;clear ao P ap E bi bj;generalize f.setCell ⟨w.heap.size,1,none⟩ (.string t)=W at *;obtain⟨p1,p2,q,r,u,y,z,T,U,V,X,av,b,aw⟩:=au.o.cells;have bk:=Ae av;clear av;have ax:=ar.o;obtain⟨bl,bm,bn,bo,bp⟩:=info_parts LK;have bq:=A.o.c5;have br:=A.o.f 5;have hB:=Aa A.o.2;have cd:=Aa b;have r0:=Af b 0;have r1:=Af b 1;have r2:=Af b 2;have ay:=Af b 3;have az:=Af b 4;have a0:=Af b 5;have r6:=Af b 6;have a1:=Af b 7;have a2:=Af b 8;have a3:=Af b 9;have a4:=Af b 10;have a5:=Af b 11;simp at r0 r1 r2 ay az a0 r6 a1 a2 a3 a4 a5;have a6:=Ae aw;have bs:=Ae b;have a7:=Ae ax;clear aw b ax;have a8:∀o,(W.alloc o).frozen? ⟨B,5,none⟩=false:=fun o=>(World.frozen?_alloc_past _ _ _ hB).trans br;have Y:some B≠pv.ownBlock:=fun x=>by have:=H.o _ x.symm;omega
 go_region_law
  ((refine step_append_lies _ (by rfl) _ _ _ (by rfl) (B+1) 204 bl _ 12 120 underlying198 bm bn bo bp rfl (by omega) pv m xs (by rfl) ((a7.o.alloc _).drew)
     ⟨W.heap.size,0,none⟩ 1 1 [.int .u8 0,p1,p2,q,r,u,y,z,T,U,V,X] (by rfl) (by rfl) (World.news_of_block (cs:=#[.int .u8 0,p1,p2,q,r,u,y,z,T,U,V,X]) (t:=204) (fr:=(0,0)) (heap_alloc_new W _)) a6.o
     (by omega) (by unfold maxLen;omega) (by omega) (by simp;omega) (W.heap.size+1) (by simp) ?_;intro bu cap w1 a9 F ba bv;have ce:C3 w1 B 5 pv:=(F.cell_far _ (by simp;omega) Y).trans ((World.cell?_alloc_past _ _ _ hB).trans bq);have C:w1.frozen? ⟨B,5,none⟩=false:=(F.frozen_far _ (by simp;omega) Y).trans (a8 _)))
 all_goals
  obtain⟨e1,e2,e3,e4,-⟩:=LL (pv:=pv) A.o aq.o.weaken (.inl rfl) Y F a9 ba;have bw:=Ae e1;have bx:=Ae e2;have bz:=Ae e3;have b0:=Ae e4;have b1:xR (N=0→FV B s (6-d) a D S (m:Int) (m+1) (xs++[.int .u8 0,p1,p2,q,r,u,y,z,T,U,V,X]) (w1.setCell ⟨B,5,none⟩ (.slice (some ⟨bu,0,none⟩) (m+1) cap))):=fun b2=>by
   have G:=an.o;rw[b2] at G;obtain⟨b3,Z,bb⟩:=Fa (show (xW (e,a) (xX (Bj s))).1=0 by rw[G]);rw[G] at bb;have b4:D=(Bj s a).2:=bb;have b5:97≤bt s a∧bt s a≤122:=by
    by_cases bc:97≤bt s a∧bt s a≤122
    ·exact bc
    have b6:Bj s a=(false,a):=Qj bc;rw[b6] at Z;cases Z
   obtain⟨b7,b8⟩:=be.o b3;have b9:t=⟨(Ia s a (Bj s a).2).toArray⟩:=(by rw[EA];exact bh.o (by rw[G]));have aa:=bk.o;injection aa with aa;have ik:=Dv.frame bf.o e3 bg.o.QO;refine⟨Ip (Si s 1 a) (Gs s 1 a) [],Rq.tab ?_ ?_,by rw[tS,b8];rfl,by simp,?_⟩
   ·unfold xV;rw[if_neg (by omega),if_neg (by omega),if_neg (by omega),if_neg (by omega),if_neg (by omega),if_neg (by omega),if_pos b5]
   ·show Bj s a=_;rw[Z,b4]
   rw[←aa];refine (b7.Cm ik).push (p:=⟨0,t,[],0,0,.txt [],0,-1,-1,0⟩) (cv:=.slice none 0 0) rfl (World.ownsRow_nil _ _ _ _) ⟨by simp,by simp,by simp,by simp⟩ ⟨rfl,?_⟩;exact b9
  clear e1 e2 e3 e4 a9 F ba bv r0 r1 r2 ay az a0 r6 a1 a2 a3 a4 a5 a8 a6 bs a7 A aq ar au;go_wp2;go_ret;exact⟨_,rfl,N,D,j,_,m+1,_,an.o,bw.o,rfl,bx.o,tY _,bz.o,b0.o,b1.o⟩
structure ST (B:Nat) (s:ByteArray) (d j:Nat) (pv0 pv:Value) (m:Nat) (xs:List Value) (S:List Q) (C:Prop) (w0 wI:World) (vb:Int) (P:Array Value) (e a:Nat) (w:World):Prop where
 rr:RR B s a d e j pv w
 pb:PB w0.heap.size vb P w
 po:PO B pv m xs w
 fr:Fr B pv0.ownBlock w0 w
 hr:pv.ownBlock=pv0.ownBlock∨∀k,pv.ownBlock=some k→w0.heap.size<k
 lt:B<w0.heap.size
 far:some w0.heap.size≠pv0.ownBlock
 pl:C→PL B w xs S∧m=S.length
 ik:Dv wI w
section
variable {B:Nat} {s:ByteArray} {d j:Nat} {pv0 pv:Value} {m:Nat} {xs:List Value} {S:List Q} {C:Prop} {w0 wI:World} {vb:Int} {P:Array Value} {e a:Nat} {w:World}
theorem ST.pK (h:ST B s d j pv0 pv m xs S C w0 wI vb P e a w):some w0.heap.size≠pv.ownBlock:=by
 rcases h.hr with hr|hr
 ·rw[hr];exact h.far
 intro x;have:=hr _ x.symm;omega
theorem ST.pL (h:ST B s d j pv0 pv m xs S C w0 wI vb P e a w):some B≠pv.ownBlock:=fun x=>by have:=(h.po.lt B x.symm).1;omega
theorem ST.sY (h:ST B s d j pv0 pv m xs S C w0 wI vb P e a w){w':World}(f:Fr B none w w'):Dv w w':=Dv.frame h.rr f (fun _ x=>by cases x)
theorem ST.next {d' b g a':Nat}{w':World}(h:ST B s d j pv0 pv m xs S C w0 wI vb P e a w)(p:RR B s a' d' g b pv w')(f:Fr B none w w'):ST B s d' b pv0 pv m xs S C w0 wI vb P g a' w' :=
 ⟨p,h.pb.frame f (by have:=h.lt;omega) (by simp),h.po.frame f rfl,h.fr.seq f,h.hr,h.lt,h.far,fun c=>⟨(h.pl c).1.Cm (h.sY f),(h.pl c).2⟩,h.ik.trans (h.sY f)⟩
theorem ST.set {i:Nat}{v:Value}(h:ST B s d j pv0 pv m xs S C w0 wI vb P e a w)(hi:0<i)(hv:v.oneCell'=true):ST B s d j pv0 pv m xs S C w0 wI vb (P.setIfInBounds i v) e a (w.setCell ⟨w0.heap.size,i,none⟩ v) :=
 ⟨⟨h.rr.1,(Below.heap_setCell _ _ _ _ (by show B≠w0.heap.size;have:=h.lt;omega)).trans h.rr.2⟩,h.pb.set hi hv,h.po.other h.pK _,h.fr.Pp (tY _) _,h.hr,h.lt,h.far,fun c=>⟨(h.pl c).1.Cm (Dv.setCell h.pb.1 (by decide) _),(h.pl c).2⟩,h.ik.trans (Dv.setCell h.pb.1 (by decide) _)⟩
theorem ST.FU (h:ST B s d j pv0 pv m xs S C w0 wI vb P e a w)(b:Int):ST B s d j pv0 pv m xs S C w0 wI b (P.setIfInBounds 0 (.int .u8 b)) e a (w.setCell ⟨w0.heap.size,0,none⟩ (.int .u8 b)) :=
 ⟨⟨h.rr.1,(Below.heap_setCell _ _ _ _ (by show B≠w0.heap.size;have:=h.lt;omega)).trans h.rr.2⟩,h.pb.FU b,h.po.other h.pK _,h.fr.Pp (tY _) _,h.hr,h.lt,h.far,fun c=>⟨(h.pl c).1.Cm (Dv.setCell h.pb.1 (by decide) _),(h.pl c).2⟩,h.ik.trans (Dv.setCell h.pb.1 (by decide) _)⟩
theorem ST.pB (h:ST B s d j pv0 pv m xs S C w0 wI vb P e a w)(b:Nat):ST B s d b pv0 pv m xs S C w0 wI vb P e a (w.setCell ⟨B,4,none⟩ (.int .i64 (b:Int))) :=
 ⟨h.rr.pB b,h.pb.other (by have:=h.lt;omega) _,h.po.other h.pL _,h.fr.setCell _ _,h.hr,h.lt,h.far,fun c=>⟨(h.pl c).1.Cm (Dv.setCell h.rr.2 (by decide) _),(h.pl c).2⟩,h.ik.trans (Dv.setCell h.rr.2 (by decide) _)⟩
theorem ST.YE (h:ST B s d j pv0 pv m xs S C w0 wI vb P e a w)(d':Nat):ST B s d' j pv0 pv m xs S C w0 wI vb P e a (w.setCell ⟨B,2,none⟩ (.int .i64 (d':Int))) :=
 ⟨h.rr.YE d',h.pb.other (by have:=h.lt;omega) _,h.po.other h.pL _,h.fr.setCell _ _,h.hr,h.lt,h.far,fun c=>⟨(h.pl c).1.Cm (Dv.setCell h.rr.2 (by decide) _),(h.pl c).2⟩,h.ik.trans (Dv.setCell h.rr.2 (by decide) _)⟩
theorem ST.query {d' n g q a':Nat}{b:Value}{i:List Value}{l:List Q}{r:Prop}{w':World}(h:ST B s d j pv0 pv m xs S C w0 wI vb P e a w)(p:RR B s a' d' q n b w')(o:PO B b g i w')(f:Fr B pv.ownBlock w w')(c:b.ownBlock=pv.ownBlock∨∀k,b.ownBlock=some k→w.heap.size≤k)(t:r→PL B w' i l∧g=l.length) :
 ST B s d' n pv0 b g i l r w0 wI vb P q a' w':=by
 have y:=h.pb.lt;refine⟨p,h.pb.frame f (by have:=h.lt;omega) h.pK,o,h.fr.trans f ?_,?_,h.lt,h.far,t,h.ik.trans (Dv.frame h.rr f h.po.QO)⟩
 ·rcases h.hr with hr|hr
  ·exact .inr (.inl hr)
  exact .inr (.inr fun x u=>by have:=hr x u;omega)
 rcases c with c|c
 ·rw[c];exact h.hr
 exact .inr fun k v=>by have:=c k v;omega
theorem ST.start {K:Array Value}(b:RR B s a d e j pv w0)(f:PO B pv m xs w0)(g:C→PL B w0 xs S∧m=S.length)(h:K.size=12)(hv:K[0]? =some (.int .u8 0))(k:∀(i:Nat) (v:Value),K[i]? =some v→v.oneCell'=true) :
 ST B s d j pv pv m xs S C w0 w0 0 K e a (w0.alloc (.cells K 204)) :=
 ⟨b.alloc _,⟨heap_alloc_new w0 _,h,hv,k⟩,f.alloc _,(Fr.refl _ _ _).alloc _,.inl rfl,Aa b.2,(fun x=>by have:=(f.lt _ x.symm).2;omega),fun c=>⟨(g c).1.Cm (Dv.alloc _ _),(g c).2⟩,Dv.alloc _ _⟩
theorem ST.fA (h:ST B s d j pv0 pv m xs S C w0 wI vb P e a w):ST B s d j pv0 pv m xs S C w0 w vb P e a w:=⟨h.rr,h.pb,h.po,h.fr,h.hr,h.lt,h.far,h.pl,Dv.refl _⟩
end
def Gi (B:Nat)(s:ByteArray)(k a:Nat)(P:Array Value)(w:World):Prop:=∃(p:UP) (cv:Value),P=(p.cells cv).toArray∧w.ownsRow (B+1) 3 1 cv p.cols.length (Gp p.cols)∧Zo p ∧
 (yC k=1→∀S i o q,I9 S i o q→L7 S i { p with one:=o } (Ip (Si s k a) (Gs s k a) [q])) ∧
 (yC k=2→∀S i o t q r,I9 S i o q→I9 S i t r→L7 S i { p with one:=o,two:=t } (Ip (Si s k a) (Gs s k a) [q,r]))
theorem Gi.Cm {B:Nat}{s:ByteArray}{k a:Nat}{P:Array Value}{w w':World}(h:Gi B s k a P w)(i:Dv w w'):Gi B s k a P w':=by
 obtain⟨p,cv,b,c,d⟩:=h;exact⟨p,cv,b,R6 c i,d⟩
theorem sL:∀(i:Nat) (v:Value),(#[.int .u8 0,.string ⟨#[]⟩,.slice none 0 0,.int .u8 0,.int .u8 0,.bool false,.int .i64 0,.string ⟨#[]⟩,.int .i64 0,.int .i64 (-1),.int .i64 (-1),.int .i64 0]:Array Value)[i]? =some v→v.oneCell'=true:=by
 intro i v hv
 match i,hv with
 |0,hv|1,hv|2,hv|3,hv|4,hv|5,hv|6,hv|7,hv|8,hv|9,hv|10,hv|11,hv=>simp at hv;subst hv;rfl
def Rl (B:Nat)(s:ByteArray)(d K:Nat)(q:Nat→Nat×Nat):Prop :=
 ∀(a e j:Nat) (pv:Value) (m:Nat) (xs:List Value) (S:List Q) (w:World),(7≤d→e≠0)→RR B s a d e j pv w→PO B pv m xs w→(e=0→PL B w xs S∧m=S.length)→m+K≤1000→(e=0→j=xU s a) →
  Calls prog 130 #[.pointer (some ⟨B,0,none⟩)] w (QR B s d pv m K w S a (xW (e,a) q) (fun e' a' j'=>e'=0→j'=xU s a'))
def HD (B:Nat)(s:ByteArray)(d a:Nat)(pv:Value)(m:Nat)(xs:List Value)(S:List Q)(w:World)(w':World):Prop :=
 ∃e1 a1 j1 P vb wI,vb=(bt s a:Int)∧xX (B3 s (xV (bt s a))) a=(e1,a1)∧(e1=0→j1=xU s a1)∧ST B s d j1 pv pv m xs S True w wI vb P e1 a1 w'∧(e1=0→Gi B s (xV (bt s a)) a P w')
theorem LM (h:Hd)(cs:List Nat)(q:Q):Ea (Ip h cs [q])=Ea q++[Ip h cs [q]]:=by
 unfold Ip;by_cases a:h.k=2
 ·simp only[if_pos a];rfl
 by_cases b:h.k=3
 ·simp only[if_neg a,if_pos b];rfl
 by_cases c:h.k=6
 ·simp only[if_neg a,if_neg b,if_pos c];rfl
 simp only[if_neg a,if_neg b,if_neg c];rfl
theorem LN (h:Hd)(cs:List Nat)(q r:Q):Ea (Ip h cs [q,r])=Ea q++Ea r++[Ip h cs [q,r]]:=by
 unfold Ip;by_cases a:h.k=4
 ·simp only[if_pos a];rfl
 simp only[if_neg a];rfl
theorem Zz (q:Q):0<(Ea q).length:=by cases q <;> simp[Ea] <;> omega
theorem FV.pl {B:Nat}{s:ByteArray}{f a a' e:Nat}{S:List Q}{n:Int}{b:Nat}{i:List Value}{w':World}(h:e=0→FV B s f a a' S n b i w'):∃c,(e=0→PL B w' i c∧b=c.length)∧(e=0→∃q T,(c=S++T∧T=Ea q)∧Rq s f a a' q∧I9 c b n q):=by
 by_cases g:e=0
 ·obtain⟨q,j,d,_,k⟩:=h g;have l:=Zz q;refine⟨S++Ea q,fun _=>⟨k,d⟩,fun _=>⟨q,Ea q,⟨rfl,rfl⟩,j,b-1,?_,?_,?_⟩⟩
  ·rw[d,tS] at *;omega
  ·rw[d,tS];omega
  rw[d,tS,uC (by omega),←R4 q,List.getLast?_eq_getElem?];congr 1;omega
 exact⟨[],(fun x=>absurd x g),fun x=>absurd x g⟩
theorem I9.up {S:List Q}{i a:Nat}{j:Int}{q:Q}(h:I9 S i j q)(hi:i≤a):I9 S a j q:=by
 obtain⟨k,e,_,b⟩:=h;exact⟨k,e,by omega,b⟩
theorem YH (p:UP)(cv:Value)(o:Int):((p.cells cv).toArray.setIfInBounds 9 (.int .i64 o))=(({ p with one:=o }:UP).cells cv).toArray:=rfl
theorem YI (p:UP)(cv:Value)(o t:Int):(((p.cells cv).toArray.setIfInBounds 9 (.int .i64 o)).setIfInBounds 10 (.int .i64 t))=(({ p with one:=o,two:=t }:UP).cells cv).toArray:=rfl
theorem fB {B:Nat}{s:ByteArray}{f a b c g k:Nat}{P:Array Value}{W:World}{xs:List Value}{S S3 T:List Q}{m3:Nat}{n3:Int}{q:Q}(e:xV (bt s a)=k)(hi:yC k=1)(l:Gi B s k a P W)(m:B3 s k a=(true,b))(n:bt s b=40)(o:Rq s f (b+1) c q)(r:bt s c=41)(t:g=c+1)
 (u:PL B W xs S3) (h:m3=S3.length) (v:S3=S++T∧T=Ea q) (i:I9 S3 m3 n3 q) {L:List Value} (d:P.setIfInBounds 9 (.int .i64 n3)=L.toArray):FV B s (f+1) a g S (m3:Int) (m3+1) (xs++L) W:=by
 subst t;obtain⟨p,cv,e1,e2,e3,e4,_⟩:=l;obtain⟨j,w⟩:=v;subst w;refine⟨Ip (Si s k a) (Gs s k a) [q],?_,by rw[LM,h,j];simp;omega,by omega,?_⟩
 ·have:=Rq.one (s:=s) (f:=f) (a:=a) (b:=b) (c:=c) (q:=q) (by rw[e];exact hi) (by rw[e];exact m) n o r;rw[e] at this;exact this
 rw[LM,←wJ,←j];rw[e1,YH] at d;injection d with d;refine u.push (p:={ p with one:=n3 }) (cv:=cv) d.symm e2 e3 (e4 hi _ _ _ _ ?_);rw[h] at i;exact i
theorem fC {B:Nat}{s:ByteArray}{f a b c d' i k:Nat}{P:Array Value}{W:World}{xs:List Value}{S S3 S5 T j:List Q}{m3 m5:Nat}{n3 n5:Int}{q r:Q}(g:xV (bt s a)=k)(hi:yC k=2)(o:Gi B s k a P W)(t:B3 s k a=(true,b))(u:bt s b=40)(v:Rq s f (b+1) c q)(w:bt s c=44)(hr:Rq s f (c+1) d' r)(x:bt s d'=41)(y:i=d'+1)
 (z:PL B W xs S5) (A:m3=S3.length) (l:m5=S5.length) (C:S3=S++T∧T=Ea q) (D:S5=S3++j∧j=Ea r) (E:I9 S3 m3 n3 q) (m:I9 S5 m5 n5 r) {L:List Value} (e:(P.setIfInBounds 9 (.int .i64 n3)).setIfInBounds 10 (.int .i64 n5)=L.toArray):FV B s (f+1) a i S (m5:Int) (m5+1) (xs++L) W:=by
 subst y;obtain⟨p,cv,e1,e2,e3,_,e4⟩:=o;obtain⟨n,F⟩:=C;obtain⟨h,G⟩:=D;subst F G;refine⟨Ip (Si s k a) (Gs s k a) [q,r],?_,by rw[LN,l,h,n];simp;omega,by omega,?_⟩
 ·have:=Rq.two (s:=s) (f:=f) (a:=a) (b:=b) (c:=c) (d:=d') (q:=q) (r:=r) (by rw[g];exact hi) (by rw[g];exact t) u v w hr x;rw[g] at this;exact this
 have H:S++Ea (Ip (Si s k a) (Gs s k a) [q,r])=S5++[Ip (Si s k a) (Gs s k a) [q,r]]:=by rw[LN,h,n];simp
 rw[H];rw[e1,YI] at e;injection e with e;refine z.push (p:={ p with one:=n3,two:=n5 }) (cv:=cv) e.symm e2 e3 (e4 hi _ _ _ _ _ _ ?_ ?_)
 ·rw[h];exact (E.more (T:=Ea r)).up (by rw[A,tS];omega)
 rw[l] at m;exact m
theorem pM {s:ByteArray}{e c a:Nat}(h:sn s e c c a=true):e=0∧bt s a=c:=⟨K9 h,by have:=Mz h;omega⟩
theorem rM {s:ByteArray}{e c a:Nat}(h:sn s e c c a=false):¬(e=0∧bt s a=c):=by
 rintro⟨b,_⟩;unfold sn at h;simp at h;have:=h b;omega
theorem Xk {s:ByteArray}{a k e1 a1 j:Nat}(c:xV (bt s a)=k)(d:j=xU s a)(h:xX (B3 s (xV (bt s a))) a=(e1,a1)):e1=0→(if k=4 then j+1 else j)=xU s a1:=by
 intro e;subst e;have hf:=(Gt s (xV (bt s a)) a).2.2.2;have f:(B3 s (xV (bt s a)) a).1=true:=lS (by rw[h])
 have g:(B3 s (xV (bt s a)) a).2=a1:=by have:(xX (B3 s (xV (bt s a))) a).2=a1:=by rw[h]
                                        exact this
 have b:=hf f;rw[g,c] at b;rw[b,d];split <;> rfl
theorem Gn {s:ByteArray}{c e a x:Nat}(h:xW (e,a) (xX (tk s c))=(0,x)):e=0∧bt s a=c∧x=a+1:=by
 obtain⟨g,d,b⟩:=Fa (show (xW (e,a) (xX (tk s c))).1=0 by rw[h]);rw[h] at b;unfold tk at d b;by_cases f:bt s a=c
 ·rw[if_pos f] at b;exact⟨g,f,b⟩
 rw[if_neg f] at d;cases d
theorem pN {q:Nat→Nat×Nat}{e a x:Nat}(h:xW (e,a) q=(0,x)):e=0:=by
 by_cases b:e=0
 ·exact b
 rw[B7 b] at h;injection h
theorem LO {s:ByteArray}{d e a x:Nat}(_:d≤6)(h:U9 s d e a=(0,x)):e=0∧bt s a=40∧x=a+1∧d≤5:=by
 have c:d≤5:=by
  rcases wV d 6 with b|b
  ·omega
  obtain rfl:d=6:=by omega
  exact absurd rfl (Ww h)
 unfold U9 at h;rw[if_neg (by omega)] at h;obtain⟨b,f,g⟩:=Gn h;exact⟨b,f,g,c⟩
theorem TP {p:Nat→Bool×Nat}{a x:Nat}(h:xX p a=(0,x)):p a=(true,x):=by
 have b:xW (0,a) (xX p)=(0,x):=by rw[Bf];exact h
 obtain⟨_,d,c⟩:=Fa (show (xW (0,a) (xX p)).1=0 by rw[b]);rw[b] at c;rw[d];exact congrArg _ c.symm
theorem fD {s:ByteArray}{d a e1 a1 e2 a2 e3 a3 a4 k:Nat}{q:Nat→Nat×Nat}(b:d≤6)(c:xX (B3 s k) a=(e1,a1))(e:U9 s d e1 a1=(e2,a2))(f:xW (e2,a2) q=(e3,a3))(g:xW (e3,a3) (xX (tk s 41))=(0,a4)) :
 e1=0∧e3=0∧B3 s k a=(true,a1)∧bt s a1=40∧a2=a1+1∧bt s a3=41∧a4=a3+1∧d≤5:=by
 obtain⟨h,i,j⟩:=Gn g;subst h;have l:=pN f;subst l;obtain⟨m,n,p1,o⟩:=LO b e;subst m;exact⟨rfl,rfl,TP c,n,p1,i,j,o⟩
theorem fE {s:ByteArray}{d a e1 a1 e2 a2 e3 a3 e4 a4 e5 a5 b k:Nat}{q:Nat→Nat×Nat}(c:d≤6)(e:xX (B3 s k) a=(e1,a1))(f:U9 s d e1 a1=(e2,a2))(g:xW (e2,a2) q=(e3,a3))(h:xW (e3,a3) (xX (tk s 44))=(e4,a4))(i:xW (e4,a4) q=(e5,a5))(j:xW (e5,a5) (xX (tk s 41))=(0,b)) :
 e1=0∧e3=0∧e5=0∧B3 s k a=(true,a1)∧bt s a1=40∧a2=a1+1∧bt s a3=44∧a4=a3+1∧bt s a5=41∧b=a5+1∧d≤5:=by
 obtain⟨l,m,n⟩:=Gn j;subst l;have o:=pN i;subst o;obtain⟨p,r,t⟩:=Gn h;subst p;have u:=pN g;subst u;obtain⟨v,w,p1,x⟩:=LO c f;subst v;exact⟨rfl,rfl,rfl,TP e,w,p1,r,t,m,n,x⟩
theorem fF (B:Nat)(s:ByteArray)(a:Nat)(w:World):Gi B s 5 a #[.int .u8 85,.string ⟨#[]⟩,.slice none 0 0,.int .u8 0,.int .u8 0,.bool false,.int .i64 0,.string ⟨#[]⟩,.int .i64 0,.int .i64 (-1),.int .i64 (-1),.int .i64 0] w :=
 ⟨⟨85,⟨#[]⟩,[],0,0,.txt [],0,-1,-1,0⟩,.slice none 0 0,rfl,World.ownsRow_nil _ _ _ _,⟨by simp,by simp,by simp,by simp⟩,(fun h=>by cases h),fun _ S i o t q r b c=>⟨rfl,b,c⟩⟩
theorem fG (B:Nat)(s:ByteArray)(a:Nat)(w:World):Gi B s 6 a #[.int .u8 68,.string ⟨#[]⟩,.slice none 0 0,.int .u8 0,.int .u8 0,.bool false,.int .i64 0,.string ⟨#[]⟩,.int .i64 0,.int .i64 (-1),.int .i64 (-1),.int .i64 0] w :=
 ⟨⟨68,⟨#[]⟩,[],0,0,.txt [],0,-1,-1,0⟩,.slice none 0 0,rfl,World.ownsRow_nil _ _ _ _,⟨by simp,by simp,by simp,by simp⟩,(fun _ S i o q b=>⟨rfl,b⟩),fun h=>by cases h⟩
theorem fH (B:Nat)(s:ByteArray)(a:Nat)(w:World){c d:Nat}(b:c=Nk s (a+2))(e:d=Nk s (a+4))(f:c≤9)(g:d≤9):Gi B s 4 a #[.int .u8 74,.string ⟨#[]⟩,.slice none 0 0,.int .u8 0,.int .u8 0,.bool false,.int .i64 0,.string ⟨#[]⟩,.int .i64 (d:Int),.int .i64 (-1),.int .i64 (-1),.int .i64 (c:Int)] w :=
 ⟨⟨74,⟨#[]⟩,[],0,0,.txt [],d,-1,-1,c⟩,.slice none 0 0,rfl,World.ownsRow_nil _ _ _ _,⟨g,f,by simp,by simp⟩,(fun h=>by cases h),fun _ S i o t q r j k=>⟨rfl,b,e,j,k⟩⟩
theorem fI (B:Nat)(s:ByteArray)(a:Nat)(w:World){L:List Nat}{cv:Value}(b:L=C6 s 5 (a+2))(ho:w.ownsRow (B+1) 3 1 cv L.length (Gp L))(c:L.length≤6)(d:∀x∈L,x≤9):Gi B s 3 a #[.int .u8 80,.string ⟨#[]⟩,cv,.int .u8 0,.int .u8 0,.bool false,.int .i64 0,.string ⟨#[]⟩,.int .i64 0,.int .i64 (-1),.int .i64 (-1),.int .i64 0] w :=
 ⟨⟨80,⟨#[]⟩,L,0,0,.txt [],0,-1,-1,0⟩,cv,rfl,ho,⟨by simp,by simp,c,d⟩,(fun _ S i o q e=>⟨rfl,b,e⟩),fun h=>by cases h⟩
theorem fJ (B:Nat)(s:ByteArray)(a:Nat)(w:World){L:List Nat}{cv:Value}{b:Int}{m:Nat}(c:L=Gs s 7 a)(ho:w.ownsRow (B+1) 3 1 cv L.length (Gp L))(d:L.length≤6)(e:∀x∈L,x≤9)(f:m≤9)(g:wS (NA s (Ek s a+1))=if b=115 then some m else none):Gi B s 7 a #[.int .u8 71,.string ⟨#[]⟩,cv,.int .u8 b,.int .u8 0,.bool false,.int .i64 0,.string ⟨#[]⟩,.int .i64 (m:Int),.int .i64 (-1),.int .i64 (-1),.int .i64 0] w :=
 ⟨⟨71,⟨#[]⟩,L,b,0,.txt [],m,-1,-1,0⟩,cv,rfl,ho,⟨f,by simp,d,e⟩,(fun _ S i o q j=>⟨rfl,c,g,j⟩),fun h=>by cases h⟩
theorem fK (B:Nat)(s:ByteArray)(a:Nat)(w:World){c:Nat}{k:Qb}{x:Dk}(b:c=Nk s (a+2))(d:Mi (RG s (a+3))=k)(e:Py s (a+4)=x)(f:c≤9)(g:Pk x≤9):Gi B s 2 a #[.int .u8 83,.string ⟨#[]⟩,.slice none 0 0,.int .u8 (K6 k),.int .u8 (Vt x),.bool (uB (U1 x)),.int .i64 (uN (U1 x)),.string ⟨(uS (U1 x)).toArray⟩,.int .i64 (Pk x:Int),.int .i64 (-1),.int .i64 (-1),.int .i64 (c:Int)] w :=
 ⟨⟨83,⟨#[]⟩,[],K6 k,Vt x,U1 x,Pk x,-1,-1,c⟩,.slice none 0 0,rfl,World.ownsRow_nil _ _ _ _,⟨g,f,by simp,by simp⟩,(fun _ S i o q j=>by show L7 S i _ (.sel (Nk s (a+2)) (Mi (RG s (a+3))) (Py s (a+4)) q);rw[d,e];exact⟨rfl,rfl,rfl,rfl,rfl,b,j⟩),fun h=>by cases h⟩
theorem fL {B:Nat}{s:ByteArray}{a a2 e2 a3 e3 b c e d j n3:Nat}{k:Qb}{x:Dk}(w:World)(l:xW (0,a+1) (xX (tk s 91))=(e2,a2))(f:xW (e2,a2) (xX (Jt s))=(e3,a3))(O:xW (e3,a3) (xX (J6 s))=(c,b))(m:xW (c,b) (xX (Pw s))=(d,e))(n:xW (d,e) (xX (tk s 93))=(0,j))
 (g:n3≤9∧((xW (e2,a2) (xX (Jt s))).1=0→n3=Nk s a2)) (o:e3=0→Mi (RG s a3)=k) (p:c=0→d=0→Py s b=x∧Pk x≤9) :
 Gi B s 2 a #[.int .u8 83,.string ⟨#[]⟩,.slice none 0 0,.int .u8 (K6 k),.int .u8 (Vt x),.bool (uB (U1 x)),.int .i64 (uN (U1 x)),.string ⟨(uS (U1 x)).toArray⟩,.int .i64 (Pk x:Int),.int .i64 (-1),.int .i64 (-1),.int .i64 (n3:Int)] w:=by
 obtain⟨q,_,_⟩:=Gn n;subst q;obtain⟨r,_,_⟩:=Fa (show (xW (c,b) (xX (Pw s))).1=0 by rw[m]);subst r;obtain⟨t,u,h⟩:=Fa (show (xW (e3,a3) (xX (J6 s))).1=0 by rw[O]);subst t;rw[O] at h;have v:b=a3+1:=h.trans (IC u).symm;have y:=g.2 (by rw[f]);obtain⟨z,A⟩:=Ri f;subst z;obtain⟨_,_,p2⟩:=Gn l;have i:=p rfl rfl;have C:=o rfl;subst v A p2;exact fK B s a w y C i.1 g.1 i.2
theorem fM {B:Nat}{s:ByteArray}{a b c f g d e i h l m:Nat}{L:List Nat}{cv:Value}{j:Int}(w:World)(n:xW (0,a+1) (xX (tk s 91))=(c,b))(O:xW (c,b) (xX (R9 (tk s 93) (Dh s 5)))=(g,f))(o:xW (g,f) (xX (tk s 91))=(e,d))(p:xW (e,d) (xX (Tm (tk s 115) (Jt s) (tk s 110)))=(h,i))(q:xW (h,i) (xX (tk s 93))=(0,l))
 (r:c=0→g=0→L=if bt s b=93 then [] else C6 s 5 b) (ho:w.ownsRow (B+1) 3 1 cv L.length (Gp L)) (t:L.length≤6) (u:∀x∈L,x≤9) (v:m≤9) (y:e=0→h=0→wS (NA s d)=if j=115 then some m else none) :
 Gi B s 7 a #[.int .u8 71,.string ⟨#[]⟩,cv,.int .u8 j,.int .u8 0,.bool false,.int .i64 0,.string ⟨#[]⟩,.int .i64 (m:Int),.int .i64 (-1),.int .i64 (-1),.int .i64 0] w:=by
 obtain⟨z,_,_⟩:=Gn q;subst z;obtain⟨A,_,_⟩:=Fa (show (xW (e,d) (xX (Tm (tk s 115) (Jt s) (tk s 110)))).1=0 by rw[p]);subst A;obtain⟨C,_,D⟩:=Gn o;subst C;obtain⟨E,_,k⟩:=Fa (show (xW (c,b) (xX (R9 (tk s 93) (Dh s 5)))).1=0 by rw[O]);subst E;rw[O] at k;obtain⟨_,_,F⟩:=Gn n;have G:=r rfl rfl;have H:=y rfl rfl;subst F;have hg:Ek s a=f:=k.symm;refine fJ B s a w G ho t u v ?_;rw[hg,←D];exact H
theorem fN {B:Nat}{s:ByteArray}{a a4 e4 a5 e5 b e f g l c d:Nat}(w:World)(m:xW (0,a+1) (xX (tk s 91))=(e4,a4))(h:xW (e4,a4) (xX (Jt s))=(e5,a5))(n:xW (e5,a5) (xX (tk s 61))=(e,b))(i:xW (e,b) (xX (Jt s))=(g,f))(o:xW (g,f) (xX (tk s 93))=(0,l))
 (j:c≤9∧((xW (e4,a4) (xX (Jt s))).1=0→c=Nk s a4)) (k:d≤9∧((xW (e,b) (xX (Jt s))).1=0→d=Nk s b)) :
 Gi B s 4 a #[.int .u8 74,.string ⟨#[]⟩,.slice none 0 0,.int .u8 0,.int .u8 0,.bool false,.int .i64 0,.string ⟨#[]⟩,.int .i64 (d:Int),.int .i64 (-1),.int .i64 (-1),.int .i64 (c:Int)] w:=by
 obtain⟨p,_,_⟩:=Gn o;subst p;have q:=k.2 (by rw[i]);obtain⟨r,_⟩:=Ri i;subst r;obtain⟨t,_,u⟩:=Gn n;subst t;have v:=j.2 (by rw[h]);obtain⟨x,y⟩:=Ri h;subst x;obtain⟨_,_,z⟩:=Gn m;subst u y z;exact fH B s a w v q j.1 k.1
theorem fO {B:Nat}{s:ByteArray}{a a4 e4 a5:Nat}{L:List Nat}{cv:Value}(w:World)(c:xW (0,a+1) (xX (tk s 91))=(e4,a4))(b:xW (e4,a4) (xX (Dh s 5))=(0,a5))(d:(xW (e4,a4) (xX (Dh s 5))).1=0→L=C6 s 5 a4)(ho:w.ownsRow (B+1) 3 1 cv L.length (Gp L))(e:L.length≤6)(f:∀x∈L,x≤9) :
 Gi B s 3 a #[.int .u8 80,.string ⟨#[]⟩,cv,.int .u8 0,.int .u8 0,.bool false,.int .i64 0,.string ⟨#[]⟩,.int .i64 0,.int .i64 (-1),.int .i64 (-1),.int .i64 0] w:=by
 have g:=d (by rw[b]);obtain⟨h,_,_⟩:=Fa (show (xW (e4,a4) (xX (Dh s 5))).1=0 by rw[b]);subst h;obtain⟨_,_,i⟩:=Gn c;subst i;exact fI B s a w g ho e f
end Go.Proofs.YtdinjjmcmfjbfaaGreatDoor
