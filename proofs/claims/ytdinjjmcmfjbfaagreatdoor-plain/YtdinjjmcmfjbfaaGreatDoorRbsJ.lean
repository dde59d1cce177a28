import Derived.Test.YtdinjjmcmfjbfaaGreatDoorRbcJ
import Derived.Test.YtdinjjmcmfjbfaaGreatDoorUsJ
import Derived.Test.YtdinjjmcmfjbfaaGreatDoorRqJ
set_option maxRecDepth 100000
set_option maxHeartbeats 4000000
namespace Go.Proofs.YtdinjjmcmfjbfaaGreatDoor
open Go.RowKit
open Mo (Q)
theorem Kr:(Tryz.prog.info? 204).map (fun i=>(i.zero,i.size,i.bytes))=some (some (.agg #[.int .u8 0,.string ⟨#[]⟩,.slice none 0 0,.int .u8 0,.int .u8 0,.bool false,.int .i64 0,.string ⟨#[]⟩,.int .i64 0,.int .i64 0,.int .i64 0,.int .i64 0]),12,120):=by kernel_rfl
def PB (g:Nat)(vb:Int)(P:Array Value)(w:World):Prop:=w.heap[g]? =some (.cells P 204 (0,0))∧P.size=12∧P[0]? =some (.int .u8 vb)∧∀(i:Nat) (v:Value),P[i]? =some v→v.oneCell'=true
section
variable {g:Nat} {vb:Int} {P:Array Value} {w w':World}
theorem PB.cell (h:PB g vb P w){i:Nat}(hi:i<12):∃v,w.cell? ⟨g,i,none⟩=some v:=by
 obtain⟨a,_,_⟩:=h
 exact⟨P[i],by rw[Ae a];exact lE (by omega)⟩
theorem PB.verb (h:PB g vb P w):w.cell? ⟨g,0,none⟩=some (.int .u8 vb):=by
 obtain⟨a,_,b,_⟩:=h
 rw[Ae a];exact b
theorem PB.fz (h:PB g vb P w)(i:Nat):w.frozen? ⟨g,i,none⟩=false:=Aj h.1 i
theorem PB.lt (h:PB g vb P w):g<w.heap.size:=Aa h.1
theorem PB.set (h:PB g vb P w){i:Nat}(hi:0<i){v:Value}(hv:v.oneCell'=true):PB g vb (P.setIfInBounds i v) (w.setCell ⟨g,i,none⟩ v):=by
 obtain⟨b,c,d,e⟩:=h
 refine⟨Ap b i v,by simp[c],?_,fun k f a=>?_⟩
 ·rw[lX,if_neg (by omega)];exact d
 ·rw[lX] at a
  split at a
  ·split at a
   ·injection a with a;rw[←a];exact hv
   ·cases a
  ·exact e k f a
theorem PB.Gy (h:PB g vb P w)(b:Int):PB g b (P.setIfInBounds 0 (.int .u8 b)) (w.setCell ⟨g,0,none⟩ (.int .u8 b)):=by
 obtain⟨c,d,_,e⟩:=h
 refine⟨Ap c 0 _,by simp[d],?_,fun k f a=>?_⟩
 ·rw[lX,if_pos rfl,if_pos (by omega)]
 ·rw[lX] at a
  split at a
  ·split at a
   ·injection a with a;rw[←a];rfl
   ·cases a
  ·exact e k f a
theorem PB.Bw (h:PB g vb P w)(a:w'.heap[g]? =w.heap[g]?):PB g vb P w':=⟨a.trans h.1,h.2⟩
theorem PB.frame {B:Nat}{row:Option Nat}(h:PB g vb P w)(hf:Fr B row w w')(hB:g≠B)(hr:some g≠row):PB g vb P w':=h.Bw (hf.block g h.lt hB hr)
theorem PB.other (h:PB g vb P w){b o:Nat}(a:g≠b)(v:Value):PB g vb P (w.setCell ⟨b,o,none⟩ v):=h.Bw (Below.heap_setCell _ _ _ _ a)
theorem PB.cells (h:PB g vb P w):∃p1 p2 a b c d e f j k m:Value,P=#[.int .u8 vb,p1,p2,a,b,c,d,e,f,j,k,m]∧w.heap[g]? =some (.cells #[.int .u8 vb,p1,p2,a,b,c,d,e,f,j,k,m] 204 (0,0))∧∀o∈[.int .u8 vb,p1,p2,a,b,c,d,e,f,j,k,m],o.oneCell'=true:=by
 obtain⟨p,r,n,q⟩:=h
 obtain⟨l⟩:=P
 match l,r,n,q,p with
 | [q0,p1,p2,a,b,c,d,e,f,j,k,m],_,n,q,p =>
   simp at n
   subst n
   refine⟨p1,p2,a,b,c,d,e,f,j,k,m,rfl,p,fun o s=>?_⟩
   obtain⟨i,hi⟩:=lW s
   exact q i o (by simpa using hi)
end
def PO (B:Nat)(pv:Value)(m:Nat)(xs:List Value)(w:World):Prop:=w.ownsRow (B+1) 204 12 pv m xs
section
variable {B:Nat} {pv:Value} {m:Nat} {xs:List Value} {w w':World}
theorem PO.frame {row:Option Nat}(h:PO B pv m xs w)(hf:Fr B row w w')(hr:row=none):PO B pv m xs w':=by
 subst hr
 refine Ff h hf (fun x=>by have:=(World.ownsRow.lt h B x).1;omega) ?_
 cases hv:pv.ownBlock
 ·exact .inl rfl
 ·exact .inr (by simp)
theorem PO.lt (h:PO B pv m xs w):∀k,pv.ownBlock=some k→B+1≤k∧k<w.heap.size:=World.ownsRow.lt h
theorem PO.alloc (h:PO B pv m xs w)(o:Obj):PO B pv m xs (w.alloc o):=World.ownsRow.alloc h o
theorem PO.other (h:PO B pv m xs w){b o:Nat}(c:some b≠pv.ownBlock)(v:Value):PO B pv m xs (w.setCell ⟨b,o,none⟩ v):=by
 obtain⟨d,a⟩:=h
 refine⟨d,?_⟩
 rcases a with a|⟨g,cap,e,hv,hg,f,r⟩
 ·exact .inl a
 ·exact .inr ⟨g,cap,e,hv,hg,by rw[Below.heap_setCell _ _ _ _ (by show g≠b;intro x;apply c;rw[hv,←x];rfl)];exact f,r⟩
theorem PO.form (h:PO B pv m xs w):∃b c,pv=.slice b m c:=by
 obtain⟨_,a⟩:=h
 rcases a with ⟨a,d⟩|⟨g,cap,cur,hv,_⟩
 ·subst d;exact⟨_,_,a⟩
 ·exact⟨_,_,hv⟩
end
def Dj (w w':World):Prop:=∀(k:Nat) (c:Array Value) (z:Nat×Nat),w.heap[k]? =some (.cells c 3 z)→w'.heap[k]? =w.heap[k]?
theorem Dj.refl (w:World):Dj w w:=fun _ _ _ _=>rfl
theorem Dj.trans {a b c:World}(h:Dj a b)(k:Dj b c):Dj a c:=fun i x d e=>(k i x d ((h i x d e).trans e)).trans (h i x d e)
theorem Dj.setCell {w:World}{b o:Nat}{c:Array Value}{t:TypeId}{a:Nat×Nat}(d:w.heap[b]? =some (.cells c t a))(f:t≠3)(v:Value):Dj w (w.setCell ⟨b,o,none⟩ v):=fun k x y e =>
 Below.heap_setCell _ _ _ _ (by show k≠b;rintro rfl;rw[d] at e;injection e with e;injection e with _ e _;exact f e)
theorem Dj.alloc (w:World)(o:Obj):Dj w (w.alloc o):=fun _ _ _ e=>Below.heap_alloc _ _ _ (Aa e)
theorem Dj.frame {B:Nat}{s:ByteArray}{a d e j:Nat}{pl:Value}{row:Option Nat}{w w':World}(h:RR B s a d e j pl w)(hf:Fr B row w w')(hr:∀g,row=some g→∃c i,w.heap[g]? =some (.cells c 204 i)):Dj w w':=fun k c i f=>by
 refine hf.block k (Aa f) (fun x=>?_) (fun x=>?_)
 ·subst x
  have:=h.2
  rw[f] at this
  injection this with this
  injection this with _ this _
  exact absurd this (by decide)
 ·obtain⟨_,_,b⟩:=hr k x.symm
  rw[f] at b
  injection b with b
  injection b with _ b _
  exact absurd b (by decide)
theorem PO.O9 {B:Nat}{pv:Value}{m:Nat}{xs:List Value}{w:World}(h:PO B pv m xs w):∀g,pv.ownBlock=some g→∃c b,w.heap[g]? =some (.cells c 204 b):=by
 rcases h.2 with ⟨rfl,_⟩|⟨g,cap,cur,rfl,_,hg,_⟩
 ·intro g hg;simp[Value.ownBlock] at hg
 ·intro d a;simp[Value.ownBlock] at a;subst a;exact⟨_,_,hg⟩
theorem Mu {base:Nat}{v:Value}{n:Nat}{xs:List Value}{w w':World}(h:w.ownsRow base 3 1 v n xs)(k:Dj w w'):w'.ownsRow base 3 1 v n xs:=by
 refine⟨h.1,?_⟩
 rcases h.2 with hn|⟨g,cap,a,rfl,b,hg,c⟩
 ·exact .inl hn
 ·exact .inr ⟨g,cap,a,rfl,b,(k g _ _ hg).trans hg,c⟩
def PL (B:Nat)(w:World)(xs:List Value)(S:List Q):Prop:=xs.length=S.length*12∧∀i q,S[i]? =some q→∃p cv,(∀j x,(UP.cells p cv)[j]? =some x→xs[i*12+j]? =some x)∧w.ownsRow (B+1) 3 1 cv p.cols.length (Fj p.cols)∧Wx p∧Kq S i p q
theorem PL.Bw {B:Nat}{w w':World}{xs:List Value}{S:List Q}(h:PL B w xs S)(k:Dj w w'):PL B w' xs S:=⟨h.1,fun i q a=>by
 obtain⟨p,cv,b,c,d,e⟩:=h.2 i q a
 exact⟨p,cv,b,Mu c k,d,e⟩⟩
theorem PL.push {B:Nat}{w:World}{xs a:List Value}{S:List Q}{p:UP}{cv:Value}{q:Q}(h:PL B w xs S)(c:a=p.cells cv)(ho:w.ownsRow (B+1) 3 1 cv p.cols.length (Fj p.cols))(d:Wx p)(e:Kq S S.length p q):PL B w (xs++a) (S++[q]):=by
 have f:a.length=12:=by rw[c];rfl
 refine⟨by simp[h.1,f];omega,fun i r hr=>?_⟩
 by_cases hi:i<S.length
 ·rw[lA hi] at hr
  obtain⟨g,k,l,m,n,o⟩:=h.2 i r hr
  refine⟨g,k,fun j x b=>?_,m,n,o.more⟩
  have:=l j x b
  rw[lA (kS.1 this).1];exact this
 ·rw[kY (by omega)] at hr
  have s:i-S.length=0:=by
   have:=(kS.1 hr).1
   simp at this;omega
  rw[s] at hr
  have:q=r:=by simpa using hr
  subst this
  have t:i=S.length:=by omega
  subst t
  refine⟨p,cv,fun j x b=>?_,ho,d,e.more⟩
  rw[kY (by rw[h.1];omega),h.1,show S.length*12+j-S.length*12=j by omega,c];exact b
theorem XC {b b':Nat}{e:TypeId}{k n:Nat}{v:Value}{xs:List Value}{w:World}(h:w.ownsRow b e k v n xs)(_:b'≤b):w.ownsRow b' e k v n xs:=by
 refine⟨h.1,?_⟩
 rcases h.2 with hn|⟨g,cap,a,rfl,hg,r⟩
 ·exact .inl hn
 ·exact .inr ⟨g,cap,a,rfl,by omega,r⟩
theorem Eg (B:Nat)(s:ByteArray)(a d e j c:Nat)(f:Int)(pv:Value)(w:World)(i:s.size≤1000)(k:0<c)(l:f=(c:Int))(h:RR B s a d e j pv w)(m:sn s e c c a=false) :
 Calls Tryz.prog 138 #[.pointer (some ⟨B,0,none⟩),.int .u8 f] w fun g w'=>g=.returned (.bool false)∧RR B s a d e j pv w'∧Fr B none w w':=by
 refine (Cx B s a d e j c f pv w i k l h).mono ?_;rintro g p ⟨ok,a1,rfl,b,n,p1,o⟩;have b:=b.o
 rw[m] at b
 subst b
 rw[show a1=a from n] at p1
 exact⟨rfl,p1,o⟩
theorem Px (B:Nat)(s:ByteArray)(a d e j c:Nat)(f:Int)(pv:Value)(w:World)(i:s.size≤1000)(k:0<c)(l:f=(c:Int))(h:RR B s a d e j pv w)(m:sn s e c c a=true) :
 Calls Tryz.prog 138 #[.pointer (some ⟨B,0,none⟩),.int .u8 f] w fun g w'=>g=.returned (.bool true)∧RR B s (a+1) d e j pv w'∧Fr B none w w':=by
 refine (Cx B s a d e j c f pv w i k l h).mono ?_;rintro g p ⟨ok,a1,rfl,b,n,p1,o⟩;have b:=b.o
 rw[m] at b
 subst b
 rw[show a1=a+1 from n] at p1
 exact⟨rfl,p1,o⟩
attribute [local go_sem ↓] Go.wp_at_zero Go.wp_at_succ
def Mv (B:Nat)(s:ByteArray)(f a a':Nat)(S:List Q)(n:Int)(m':Nat)(xs':List Value)(w':World):Prop:=∃q,Rq s f a a' q∧m'=(S++Dv q).length∧n=(m':Int)-1∧PL B w' xs' (S++Dv q)
def QR (B:Nat)(s:ByteArray)(d:Nat)(pv:Value)(m K:Nat)(w:World)(S:List Q)(a:Nat)(X:Nat×Nat)(jn:Nat→Nat→Nat→Prop)(en:Ending)(w':World):Prop :=
 ∃n:Int,en=.returned (.int .i64 n)∧∃e' a' j' pv' m' xs',X=(e',a')∧RR B s a' d e' j' pv' w'∧jn e' a' j'∧PO B pv' m' xs' w'∧m'≤m+K∧Fr B pv.ownBlock w w'∧(pv'.ownBlock=pv.ownBlock∨∀k,pv'.ownBlock=some k→w.heap.size≤k)∧(e'=0→Mv B s (6-d) a a' S n m' xs' w')
theorem Ks {B:Nat}{s:ByteArray}{a d e j:Nat}{pv pw:Value}{m:Nat}{w W f:World}{o:Obj}{b cap:Nat}{n:List Value}(p:RR B s a d e j pw W)(q:Fr B pv.ownBlock w W)
 (hr:pw.ownBlock=pv.ownBlock∨∀k,pw.ownBlock=some k→w.heap.size≤k) (t:some B≠pw.ownBlock) (i:(W.alloc o).drew.grownBy f pw.ownBlock)
 (r:f.ownsRow (B+1) 204 12 (.slice (some ⟨b,0,none⟩) (m+1) cap) (m+1) n) (h:pw.ownBlock=some b∨b=W.heap.size+1) :
 RR B s a d e j (.slice (some ⟨b,0,none⟩) (m+1) cap) (f.setCell ⟨B,5,none⟩ (.slice (some ⟨b,0,none⟩) (m+1) cap))∧PO B (.slice (some ⟨b,0,none⟩) (m+1) cap) (m+1) n (f.setCell ⟨B,5,none⟩ (.slice (some ⟨b,0,none⟩) (m+1) cap)) ∧
  Fr B pv.ownBlock w (f.setCell ⟨B,5,none⟩ (.slice (some ⟨b,0,none⟩) (m+1) cap))∧(Value.ownBlock (.slice (some ⟨b,0,none⟩) (m+1) cap)=pv.ownBlock∨∀k,Value.ownBlock (.slice (some ⟨b,0,none⟩) (m+1) cap)=some k→w.heap.size≤k)∧((∀g,pw.ownBlock=some g→∃c u,W.heap[g]? =some (.cells c 204 u))→Dj W (f.setCell ⟨B,5,none⟩ (.slice (some ⟨b,0,none⟩) (m+1) cap))):=by
 have x:=q.size
 refine⟨(RR.grown (w:=(W.alloc o).drew) (p.alloc o) i t).jQ _,PO.other r (by have:=(r.lt b rfl).1;simp[Value.ownBlock];omega) _,(((q.alloc o).drew).grown i hr).setCell _ _,?_,fun v=>Dj.frame p ((((Fr.refl B pw.ownBlock W).alloc o).drew.grown i (.inl rfl)).setCell _ _) v⟩
 rcases h with h|h
 ·rcases hr with hr|hr
  ·left;rw[←hr,h];rfl
  ·right;intro k l;exact hr k (by rw[h,←l];rfl)
 ·right;intro k l;simp[Value.ownBlock] at l;omega
theorem KF (B:Nat)(s:ByteArray)(a d e j:Nat)(pv:Value)(m:Nat)(w:World)(xs:List Value)(S:List Q)(g:s.size≤1000)(h:RR B s a d e j pv w)(ho:PO B pv m xs w)(ad:e=0→PL B w xs S∧m=S.length)(_:m≤100000)
 (ae:∀c,c=83∨c=80∨c=74∨c=85∨c=68∨c=71→sn s e c c a=false) :
 Calls Tryz.prog 130 #[.pointer (some ⟨B,0,none⟩)] w (QR B s d pv m 1 w S a (Pl.bE (e,a) (Pl.lf (Pl.A5 s))) (fun _ _ bh=>bh=j)):=by
 have cd:=Aa h.2;have af:oH (RR B s a d e j pv (w.alloc (.cells #[.int .u8 0,.string ⟨#[]⟩,.slice none 0 0,.int .u8 0,.int .u8 0,.bool false,.int .i64 0,.string ⟨#[]⟩,.int .i64 0,.int .i64 (-1),.int .i64 (-1),.int .i64 0] 204))):=h.alloc _;have bi:=Ad ad;have bj:=Ad h;have bk:=Ad ho;have ag:oH (PO B pv m xs (w.alloc (.cells #[.int .u8 0,.string ⟨#[]⟩,.slice none 0 0,.int .u8 0,.int .u8 0,.bool false,.int .i64 0,.string ⟨#[]⟩,.int .i64 0,.int .i64 (-1),.int .i64 (-1),.int .i64 0] 204))):=ho.alloc _;have l:=Ad ae;have I:oH (∀k,pv.ownBlock=some k→B+1≤k∧k<w.heap.size):=ho.lt
 have ce:some w.heap.size≠pv.ownBlock:=fun x=>by have:=(I.o _ x.symm).2;omega
 clear h ho ae ad
 go_enter Tryz.func130,Tryz.ntmps130
 go_wp2_with fail
 refine (Eg B s a d e j 83 83 pv _ g (by omega) rfl af.o (l.o 83 (by omega))).mono ?_
 rintro n C ⟨rfl,p1,J⟩;have ah:=Ad p1;clear p1;go_wp2_with fail
 refine (Eg B s a d e j 80 80 pv _ g (by omega) rfl ah.o (l.o 80 (by omega))).mono ?_
 rintro n cf ⟨rfl,p2,K⟩;have ai:=Ad p2;clear p2;go_wp2_with fail
 refine (Eg B s a d e j 74 74 pv _ g (by omega) rfl ai.o (l.o 74 (by omega))).mono ?_
 rintro n w3 ⟨rfl,q,L⟩;have aj:=Ad q;clear q;go_wp2_with fail
 refine (Eg B s a d e j 85 85 pv _ g (by omega) rfl aj.o (l.o 85 (by omega))).mono ?_
 rintro n w4 ⟨rfl,r,M⟩;have ak:=Ad r;clear r;go_wp2_with fail
 refine (Eg B s a d e j 68 68 pv _ g (by omega) rfl ak.o (l.o 68 (by omega))).mono ?_
 rintro n w5 ⟨rfl,u,D⟩;have al:=Ad u;clear u;go_wp2_with fail
 refine (Eg B s a d e j 71 71 pv _ g (by omega) rfl al.o (l.o 71 (by omega))).mono ?_
 rintro n w6 ⟨rfl,y,N⟩;have am:=Ad y;clear y;go_wp2_with fail;refine (Ey B s a d e j pv _ g am.o).mono ?_;rintro n f ⟨t,rfl,an,O,E,ao,z,P⟩;have bl:=Ad an;have ap:=Ad ao;have R:=Ad z;clear z ao an
 have aq:Fr B none w f:=(((((((Fr.refl B none w).alloc _).seq J).seq K).seq L).seq M).seq D).seq N|>.seq P
 have T:=((((((J.seq K).seq L).seq M).seq D).seq N).seq P);have ar:oH (PO B pv m xs f):=ag.o.frame T rfl
 have F:oH (PB w.heap.size 0 #[.int .u8 0,.string ⟨#[]⟩,.slice none 0 0,.int .u8 0,.int .u8 0,.bool false,.int .i64 0,.string ⟨#[]⟩,.int .i64 0,.int .i64 (-1),.int .i64 (-1),.int .i64 0] f):=PB.frame (w:=w.alloc (.cells #[.int .u8 0,.string ⟨#[]⟩,.slice none 0 0,.int .u8 0,.int .u8 0,.bool false,.int .i64 0,.string ⟨#[]⟩,.int .i64 0,.int .i64 (-1),.int .i64 (-1),.int .i64 0] 204)) ⟨heap_alloc_new w _,rfl,rfl,by
  intro i v hv
  match i,hv with
  |0,hv|1,hv|2,hv|3,hv|4,hv|5,hv|6,hv|7,hv|8,hv|9,hv|10,hv|11,hv=>simp at hv;subst hv;rfl⟩ T (by omega) (by simp)
 clear J K L M D N P T ah ai aj ak al am af ag l
 obtain⟨_,bm⟩:=F.o.cell (i:=1) (by omega)
 have bn:=F.o.fz 1;go_wp2_with fail
 have A:oH (RR B s E d O j pv (f.setCell ⟨w.heap.size,1,none⟩ (.string t))):=⟨R.o.1,(Below.heap_setCell _ _ _ _ (by show B≠w.heap.size;omega)).trans R.o.2⟩
 have au:oH (Fr B none w (f.setCell ⟨w.heap.size,1,none⟩ (.string t))):=aq.Nj (kZ _) _
 have av:oH (PO B pv m xs (f.setCell ⟨w.heap.size,1,none⟩ (.string t))):=ar.o.other (fun x=>by have:=(I.o _ x.symm);omega) _
 have aw:oH (PB w.heap.size 0 #[.int .u8 0,.string t,.slice none 0 0,.int .u8 0,.int .u8 0,.bool false,.int .i64 0,.string ⟨#[]⟩,.int .i64 0,.int .i64 (-1),.int .i64 (-1),.int .i64 0] (f.setCell ⟨w.heap.size,1,none⟩ (.string t))):=F.o.set (by omega) rfl
 clear aq R ar F bm bn;generalize f.setCell ⟨w.heap.size,1,none⟩ (.string t)=W at *
 obtain⟨p1,p2,q,r,u,y,z,U,V,X,Y,ax,b,ay⟩:=aw.o.cells
 have bo:=Ad ax;clear ax;have az:=av.o
 obtain⟨bp,bq,br,bs,bt⟩:=info_parts Kr
 have bu:=A.o.c5;have bv:=A.o.f 5;have hB:=Aa A.o.2;have cg:=Aa b;have r0:=Ae b 0;have r1:=Ae b 1;have r2:=Ae b 2;have a0:=Ae b 3;have a1:=Ae b 4;have a2:=Ae b 5;have r6:=Ae b 6;have a3:=Ae b 7;have a4:=Ae b 8;have a5:=Ae b 9;have a6:=Ae b 10;have a7:=Ae b 11
 simp at r0 r1 r2 a0 a1 a2 r6 a3 a4 a5 a6 a7
 have a8:=Ad ay;have bw:=Ad b;have a9:=Ad az;clear ay b az
 have ba:∀o,(W.alloc o).frozen? ⟨B,5,none⟩=false:=fun o=>(World.frozen?_alloc_past _ _ _ hB).trans bv
 have Z:some B≠pv.ownBlock:=fun x=>by have:=I.o _ x.symm;omega
 go_region_law
  ((refine step_append_lies _ (by rfl) _ _ _ (by rfl) (B+1) 204 bp _ 12 120 Tryz.underlying198 bq br bs bt rfl (by omega) pv m xs (by rfl) ((a9.o.alloc _).drew)
     ⟨W.heap.size,0,none⟩ 1 1 [.int .u8 0,p1,p2,q,r,u,y,z,U,V,X,Y] (by rfl) (by rfl) (World.news_of_block (cs:=#[.int .u8 0,p1,p2,q,r,u,y,z,U,V,X,Y]) (t:=204) (fr:=(0,0)) (heap_alloc_new W _)) a8.o
     (by omega) (by unfold maxLen;omega) (by omega) (by simp;omega) (W.heap.size+1) (by simp) ?_;intro bx cap C bb G bc bz;have ch:C.cell? ⟨B,5,none⟩=some pv:=(G.cell_far _ (by simp;omega) Z).trans ((World.cell?_alloc_past _ _ _ hB).trans bu);have D:C.frozen? ⟨B,5,none⟩=false:=(G.frozen_far _ (by simp;omega) Z).trans (ba _)))
 all_goals
  obtain⟨e1,bd,aa,be,-⟩:=Ks (pv:=pv) A.o au.o.weaken (.inl rfl) Z G bb bc
  have b0:=Ad e1;have b1:=Ad bd;have b2:=Ad aa;have b3:=Ad be
  have b4:oH (O=0→Mv B s (6-d) a E S (m:Int) (m+1) (xs++[.int .u8 0,p1,p2,q,r,u,y,z,U,V,X,Y]) (C.setCell ⟨B,5,none⟩ (.slice (some ⟨bx,0,none⟩) (m+1) cap))):=fun b5=>by
   have H:=ap.o
   rw[b5] at H
   obtain⟨b6,ab,bf⟩:=Ef (show (Pl.bE (e,a) (Pl.lf (Pl.A5 s))).1=0 by rw[H])
   rw[H] at bf
   have b7:E=(Pl.A5 s a).2:=bf
   have b8:97≤Pl.bt s a∧Pl.bt s a≤122:=by
    by_cases bg:97≤Pl.bt s a∧Pl.bt s a≤122
    ·exact bg
    ·have b9:Pl.A5 s a=(false,a):=Pl.N2 bg
     rw[b9] at ab;cases ab
   obtain⟨ca,cb⟩:=bi.o b6
   have cc:t=⟨(G3 s a (Pl.A5 s a).2).toArray⟩:=by rw[Z4];exact bl.o (by rw[H])
   have ac:=bo.o
   injection ac with ac
   have ik:=Dj.frame bj.o aa bk.o.O9
   refine⟨G8 (Qv s 1 a) (Hg s 1 a) [],Rq.tab ?_ ?_,by rw[kU,cb];rfl,by simp,?_⟩
   ·unfold Pl.kd
    rw[if_neg (by omega),if_neg (by omega),if_neg (by omega),if_neg (by omega),if_neg (by omega),if_neg (by omega),if_pos b8]
   ·show Pl.A5 s a=_
    rw[ab,b7]
   ·rw[←ac]
    refine (ca.Bw ik).push (p:=⟨0,t,[],0,0,.txt [],0,-1,-1,0⟩) (cv:=.slice none 0 0) rfl (World.ownsRow_nil _ _ _ _) ⟨by simp,by simp,by simp,by simp⟩ ⟨rfl,?_⟩
    exact cc
  clear e1 bd aa be bb G bc bz r0 r1 r2 a0 a1 a2 r6 a3 a4 a5 a6 a7 ba a8 bw a9 A au av aw
  go_wp2
  go_ret
  exact⟨_,rfl,O,E,j,_,m+1,_,ap.o,b0.o,rfl,b1.o,kZ _,b2.o,b3.o,b4.o⟩
open Mo (V Q Cy L3)
structure ST (B:Nat) (s:ByteArray) (d j:Nat) (pv0 pv:Value) (m:Nat) (xs:List Value) (S:List Q) (C:Prop) (w0 wI:World) (vb:Int) (P:Array Value) (e a:Nat) (w:World):Prop where
 rr:RR B s a d e j pv w
 pb:PB w0.heap.size vb P w
 po:PO B pv m xs w
 fr:Fr B pv0.ownBlock w0 w
 hr:pv.ownBlock=pv0.ownBlock∨∀k,pv.ownBlock=some k→w0.heap.size<k
 lt:B<w0.heap.size
 far:some w0.heap.size≠pv0.ownBlock
 pl:C→PL B w xs S∧m=S.length
 ik:Dj wI w
section
variable {B:Nat} {s:ByteArray} {d j:Nat} {pv0 pv:Value} {m:Nat} {xs:List Value} {S:List Q} {C:Prop} {w0 wI:World} {vb:Int} {P:Array Value} {e a:Nat} {w:World}
theorem ST.fN (h:ST B s d j pv0 pv m xs S C w0 wI vb P e a w):some w0.heap.size≠pv.ownBlock:=by
 rcases h.hr with hr|hr
 ·rw[hr];exact h.far
 ·intro x;have:=hr _ x.symm;omega
theorem ST.FJ (h:ST B s d j pv0 pv m xs S C w0 wI vb P e a w):some B≠pv.ownBlock:=fun x=>by have:=(h.po.lt B x.symm).1;omega
theorem ST.kD (h:ST B s d j pv0 pv m xs S C w0 wI vb P e a w){w':World}(f:Fr B none w w'):Dj w w':=Dj.frame h.rr f (fun _ x=>by cases x)
theorem ST.next {b g i a':Nat}{w':World}(h:ST B s d j pv0 pv m xs S C w0 wI vb P e a w)(p:RR B s a' b i g pv w')(f:Fr B none w w'):ST B s b g pv0 pv m xs S C w0 wI vb P i a' w' :=
 ⟨p,h.pb.frame f (by have:=h.lt;omega) (by simp),h.po.frame f rfl,h.fr.seq f,h.hr,h.lt,h.far,fun c=>⟨(h.pl c).1.Bw (h.kD f),(h.pl c).2⟩,h.ik.trans (h.kD f)⟩
theorem ST.set {i:Nat}{v:Value}(h:ST B s d j pv0 pv m xs S C w0 wI vb P e a w)(hi:0<i)(hv:v.oneCell'=true):ST B s d j pv0 pv m xs S C w0 wI vb (P.setIfInBounds i v) e a (w.setCell ⟨w0.heap.size,i,none⟩ v) :=
 ⟨⟨h.rr.1,(Below.heap_setCell _ _ _ _ (by show B≠w0.heap.size;have:=h.lt;omega)).trans h.rr.2⟩,h.pb.set hi hv,h.po.other h.fN _,h.fr.Nj (kZ _) _,h.hr,h.lt,h.far,fun c=>⟨(h.pl c).1.Bw (Dj.setCell h.pb.1 (by decide) _),(h.pl c).2⟩,h.ik.trans (Dj.setCell h.pb.1 (by decide) _)⟩
theorem ST.Gy (h:ST B s d j pv0 pv m xs S C w0 wI vb P e a w)(b:Int):ST B s d j pv0 pv m xs S C w0 wI b (P.setIfInBounds 0 (.int .u8 b)) e a (w.setCell ⟨w0.heap.size,0,none⟩ (.int .u8 b)) :=
 ⟨⟨h.rr.1,(Below.heap_setCell _ _ _ _ (by show B≠w0.heap.size;have:=h.lt;omega)).trans h.rr.2⟩,h.pb.Gy b,h.po.other h.fN _,h.fr.Nj (kZ _) _,h.hr,h.lt,h.far,fun c=>⟨(h.pl c).1.Bw (Dj.setCell h.pb.1 (by decide) _),(h.pl c).2⟩,h.ik.trans (Dj.setCell h.pb.1 (by decide) _)⟩
theorem ST.bQ (h:ST B s d j pv0 pv m xs S C w0 wI vb P e a w)(b:Nat):ST B s d b pv0 pv m xs S C w0 wI vb P e a (w.setCell ⟨B,4,none⟩ (.int .i64 (b:Int))) :=
 ⟨h.rr.bQ b,h.pb.other (by have:=h.lt;omega) _,h.po.other h.FJ _,h.fr.setCell _ _,h.hr,h.lt,h.far,fun c=>⟨(h.pl c).1.Bw (Dj.setCell h.rr.2 (by decide) _),(h.pl c).2⟩,h.ik.trans (Dj.setCell h.rr.2 (by decide) _)⟩
theorem ST.Xa (h:ST B s d j pv0 pv m xs S C w0 wI vb P e a w)(b:Nat):ST B s b j pv0 pv m xs S C w0 wI vb P e a (w.setCell ⟨B,2,none⟩ (.int .i64 (b:Int))) :=
 ⟨h.rr.Xa b,h.pb.other (by have:=h.lt;omega) _,h.po.other h.FJ _,h.fr.setCell _ _,h.hr,h.lt,h.far,fun c=>⟨(h.pl c).1.Bw (Dj.setCell h.rr.2 (by decide) _),(h.pl c).2⟩,h.ik.trans (Dj.setCell h.rr.2 (by decide) _)⟩
theorem ST.query {n q g r a':Nat}{b:Value}{i:List Value}{l:List Q}{t:Prop}{w':World}(h:ST B s d j pv0 pv m xs S C w0 wI vb P e a w)(p:RR B s a' n r q b w')(o:PO B b g i w')(f:Fr B pv.ownBlock w w')(c:b.ownBlock=pv.ownBlock∨∀k,b.ownBlock=some k→w.heap.size≤k)(u:t→PL B w' i l∧g=l.length) :
 ST B s n q pv0 b g i l t w0 wI vb P r a' w':=by
 have z:=h.pb.lt
 refine⟨p,h.pb.frame f (by have:=h.lt;omega) h.fN,o,h.fr.trans f ?_,?_,h.lt,h.far,u,h.ik.trans (Dj.frame h.rr f h.po.O9)⟩
 ·rcases h.hr with hr|hr
  ·exact .inr (.inl hr)
  ·exact .inr (.inr fun x v=>by have:=hr x v;omega)
 ·rcases c with c|c
  ·rw[c];exact h.hr
  ·exact .inr fun k y=>by have:=c k y;omega
theorem ST.start {K:Array Value}(b:RR B s a d e j pv w0)(f:PO B pv m xs w0)(g:C→PL B w0 xs S∧m=S.length)(h:K.size=12)(hv:K[0]? =some (.int .u8 0))(k:∀(i:Nat) (v:Value),K[i]? =some v→v.oneCell'=true) :
 ST B s d j pv pv m xs S C w0 w0 0 K e a (w0.alloc (.cells K 204)) :=
 ⟨b.alloc _,⟨heap_alloc_new w0 _,h,hv,k⟩,f.alloc _,(Fr.refl _ _ _).alloc _,.inl rfl,Aa b.2,(fun x=>by have:=(f.lt _ x.symm).2;omega),fun c=>⟨(g c).1.Bw (Dj.alloc _ _),(g c).2⟩,Dj.alloc _ _⟩
theorem ST.Pa (h:ST B s d j pv0 pv m xs S C w0 wI vb P e a w):ST B s d j pv0 pv m xs S C w0 w vb P e a w:=⟨h.rr,h.pb,h.po,h.fr,h.hr,h.lt,h.far,h.pl,Dj.refl _⟩
end
def Gj (B:Nat)(s:ByteArray)(k a:Nat)(P:Array Value)(w:World):Prop:=∃(p:UP) (cv:Value),P=(p.cells cv).toArray∧w.ownsRow (B+1) 3 1 cv p.cols.length (Fj p.cols)∧Wx p ∧
 (Pl.Co k=1→∀S i o q,I3 S i o q→Kq S i { p with one:=o } (G8 (Qv s k a) (Hg s k a) [q])) ∧
 (Pl.Co k=2→∀S i o t q r,I3 S i o q→I3 S i t r→Kq S i { p with one:=o,two:=t } (G8 (Qv s k a) (Hg s k a) [q,r]))
theorem Gj.Bw {B:Nat}{s:ByteArray}{k a:Nat}{P:Array Value}{w w':World}(h:Gj B s k a P w)(i:Dj w w'):Gj B s k a P w':=by
 obtain⟨p,cv,b,c,d⟩:=h
 exact⟨p,cv,b,Mu c i,d⟩
theorem QM:∀(i:Nat) (v:Value),(#[.int .u8 0,.string ⟨#[]⟩,.slice none 0 0,.int .u8 0,.int .u8 0,.bool false,.int .i64 0,.string ⟨#[]⟩,.int .i64 0,.int .i64 (-1),.int .i64 (-1),.int .i64 0]:Array Value)[i]? =some v→v.oneCell'=true:=by
 intro i v hv
 match i,hv with
 |0,hv|1,hv|2,hv|3,hv|4,hv|5,hv|6,hv|7,hv|8,hv|9,hv|10,hv|11,hv=>simp at hv;subst hv;rfl
def Jd (B:Nat)(s:ByteArray)(d K:Nat)(q:Nat→Nat×Nat):Prop :=
 ∀(a e j:Nat) (pv:Value) (m:Nat) (xs:List Value) (S:List Q) (w:World),(7≤d→e≠0)→RR B s a d e j pv w→PO B pv m xs w→(e=0→PL B w xs S∧m=S.length)→m+K≤1000→(e=0→j=Pl.cj s a) →
  Calls Tryz.prog 130 #[.pointer (some ⟨B,0,none⟩)] w (QR B s d pv m K w S a (Pl.bE (e,a) q) (fun e' a' j'=>e'=0→j'=Pl.cj s a'))
def HD (B:Nat)(s:ByteArray)(d a:Nat)(pv:Value)(m:Nat)(xs:List Value)(S:List Q)(w:World)(w':World):Prop :=
 ∃e1 a1 j1 P vb wI,vb=(Pl.bt s a:Int)∧Pl.lf (Pl.Ba s (Pl.kd (Pl.bt s a))) a=(e1,a1)∧(e1=0→j1=Pl.cj s a1)∧ST B s d j1 pv pv m xs S True w wI vb P e1 a1 w'∧(e1=0→Gj B s (Pl.kd (Pl.bt s a)) a P w')
theorem FK (h:Hd)(cs:List Nat)(q:Q):Dv (G8 h cs [q])=Dv q++[G8 h cs [q]]:=by
 unfold G8
 by_cases a:h.k=2
 ·simp only[if_pos a];rfl
 by_cases b:h.k=3
 ·simp only[if_neg a,if_pos b];rfl
 by_cases c:h.k=6
 ·simp only[if_neg a,if_neg b,if_pos c];rfl
 ·simp only[if_neg a,if_neg b,if_neg c];rfl
theorem FL (h:Hd)(cs:List Nat)(q r:Q):Dv (G8 h cs [q,r])=Dv q++Dv r++[G8 h cs [q,r]]:=by
 unfold G8
 by_cases a:h.k=4
 ·simp only[if_pos a];rfl
 ·simp only[if_neg a];rfl
theorem Xf (q:Q):0<(Dv q).length:=by cases q <;> simp[Dv] <;> omega
theorem Mv.pl {B:Nat}{s:ByteArray}{f a a' e:Nat}{S:List Q}{n:Int}{b:Nat}{i:List Value}{w':World}(h:e=0→Mv B s f a a' S n b i w'):∃c,(e=0→PL B w' i c∧b=c.length)∧(e=0→∃q T,(c=S++T∧T=Dv q)∧Rq s f a a' q∧I3 c b n q):=by
 by_cases g:e=0
 ·obtain⟨q,j,d,_,k⟩:=h g
  have l:=Xf q
  refine⟨S++Dv q,fun _=>⟨k,d⟩,fun _=>⟨q,Dv q,⟨rfl,rfl⟩,j,b-1,?_,?_,?_⟩⟩
  ·rw[d,kU] at *
   omega
  ·rw[d,kU];omega
  ·rw[d,kU,kY (by omega),←Pw q,List.getLast?_eq_getElem?]
   congr 1;omega
 ·exact⟨[],(fun x=>absurd x g),fun x=>absurd x g⟩
theorem I3.up {S:List Q}{i a:Nat}{j:Int}{q:Q}(h:I3 S i j q)(hi:i≤a):I3 S a j q:=by
 obtain⟨k,e,_,b⟩:=h
 exact⟨k,e,by omega,b⟩
theorem QN (p:UP)(cv:Value)(o:Int):((p.cells cv).toArray.setIfInBounds 9 (.int .i64 o))=(({ p with one:=o }:UP).cells cv).toArray:=rfl
theorem QO (p:UP)(cv:Value)(o t:Int):(((p.cells cv).toArray.setIfInBounds 9 (.int .i64 o)).setIfInBounds 10 (.int .i64 t))=(({ p with one:=o,two:=t }:UP).cells cv).toArray:=rfl
theorem Ta {B:Nat}{s:ByteArray}{f a b c j k:Nat}{P:Array Value}{W:World}{xs:List Value}{S d T:List Q}{e:Nat}{h:Int}{q:Q}(i:Pl.kd (Pl.bt s a)=k)(hi:Pl.Co k=1)(o:Gj B s k a P W)(r:Pl.Ba s k a=(true,b))(t:Pl.bt s b=40)(u:Rq s f (b+1) c q)(v:Pl.bt s c=41)(w:j=c+1)
 (x:PL B W xs d) (l:e=d.length) (y:d=S++T∧T=Dv q) (m:I3 d e h q) {L:List Value} (g:P.setIfInBounds 9 (.int .i64 h)=L.toArray):Mv B s (f+1) a j S (e:Int) (e+1) (xs++L) W:=by
 subst w
 obtain⟨p,cv,e1,z,A,C,_⟩:=o
 obtain⟨n,D⟩:=y
 subst D
 refine⟨G8 (Qv s k a) (Hg s k a) [q],?_,by rw[FK,l,n];simp;omega,by omega,?_⟩
 ·have:=Rq.one (s:=s) (f:=f) (a:=a) (b:=b) (c:=c) (q:=q) (by rw[i];exact hi) (by rw[i];exact r) t u v
  rw[i] at this;exact this
 ·rw[FK,←nE,←n]
  rw[e1,QN] at g
  injection g with g
  refine x.push (p:={ p with one:=h }) (cv:=cv) g.symm z A (C hi _ _ _ _ ?_)
  rw[l] at m;exact m
theorem FM {B:Nat}{s:ByteArray}{f a b c g t k:Nat}{P:Array Value}{W:World}{xs:List Value}{S h e T u:List Q}{v i:Nat}{l m:Int}{q r:Q}(n:Pl.kd (Pl.bt s a)=k)(hi:Pl.Co k=2)(z:Gj B s k a P W)(A:Pl.Ba s k a=(true,b))(C:Pl.bt s b=40)(D:Rq s f (b+1) c q)(E:Pl.bt s c=44)(hr:Rq s f (c+1) g r)(F:Pl.bt s g=41)(G:t=g+1)
 (H:PL B W xs e) (I:v=h.length) (w:i=e.length) (J:h=S++T∧T=Dv q) (K:e=h++u∧u=Dv r) (M:I3 h v l q) (x:I3 e i m r) {L:List Value} (j:(P.setIfInBounds 9 (.int .i64 l)).setIfInBounds 10 (.int .i64 m)=L.toArray):Mv B s (f+1) a t S (i:Int) (i+1) (xs++L) W:=by
 subst G
 obtain⟨p,cv,e1,N,O,_,R⟩:=z
 obtain⟨y,U⟩:=J
 obtain⟨o,V⟩:=K
 subst U V
 refine⟨G8 (Qv s k a) (Hg s k a) [q,r],?_,by rw[FL,w,o,y];simp;omega,by omega,?_⟩
 ·have:=Rq.two (s:=s) (f:=f) (a:=a) (b:=b) (c:=c) (d:=g) (q:=q) (r:=r) (by rw[n];exact hi) (by rw[n];exact A) C D E hr F
  rw[n] at this;exact this
 ·have X:S++Dv (G8 (Qv s k a) (Hg s k a) [q,r])=e++[G8 (Qv s k a) (Hg s k a) [q,r]]:=by rw[FL,o,y];simp
  rw[X]
  rw[e1,QO] at j
  injection j with j
  refine H.push (p:={ p with one:=l,two:=m }) (cv:=cv) j.symm N O (R hi _ _ _ _ _ _ ?_ ?_)
  ·rw[o]
   exact (M.more (T:=Dv r)).up (by rw[I,kU];omega)
  ·rw[w] at x;exact x
theorem Kt {s:ByteArray}{e c a:Nat}(h:sn s e c c a=true):e=0∧Pl.bt s a=c:=⟨Jq h,by have:=Lk h;omega⟩
theorem Pb {s:ByteArray}{e c a:Nat}(h:sn s e c c a=false):¬(e=0∧Pl.bt s a=c):=by
 rintro⟨b,_⟩;unfold sn at h;simp at h;have:=h b;omega
theorem Ez {s:ByteArray}{a k e1 a1 j:Nat}(c:Pl.kd (Pl.bt s a)=k)(d:j=Pl.cj s a)(h:Pl.lf (Pl.Ba s (Pl.kd (Pl.bt s a))) a=(e1,a1)):e1=0→(if k=4 then j+1 else j)=Pl.cj s a1:=by
 intro e;subst e;have hf:=(Pl.Fk s (Pl.kd (Pl.bt s a)) a).2.2.2
 have f:(Pl.Ba s (Pl.kd (Pl.bt s a)) a).1=true:=Pl.cQ (by rw[h])
 have g:(Pl.Ba s (Pl.kd (Pl.bt s a)) a).2=a1:=by have:(Pl.lf (Pl.Ba s (Pl.kd (Pl.bt s a))) a).2=a1:=by rw[h]
                                                 exact this
 have b:=hf f
 rw[g,c] at b
 rw[b,d]
 split <;> rfl
theorem E0 {s:ByteArray}{c e a x:Nat}(h:Pl.bE (e,a) (Pl.lf (Pl.tk s c))=(0,x)):e=0∧Pl.bt s a=c∧x=a+1:=by
 obtain⟨g,d,b⟩:=Ef (show (Pl.bE (e,a) (Pl.lf (Pl.tk s c))).1=0 by rw[h])
 rw[h] at b
 unfold Pl.tk at d b
 by_cases f:Pl.bt s a=c
 ·rw[if_pos f] at b;exact⟨g,f,b⟩
 ·rw[if_neg f] at d;cases d
theorem fO {q:Nat→Nat×Nat}{e a x:Nat}(h:Pl.bE (e,a) q=(0,x)):e=0:=by
 by_cases b:e=0
 ·exact b
 ·rw[Pl.Bi b] at h;injection h
theorem FN {s:ByteArray}{d e a x:Nat}(_:d≤6)(h:Pl.Up s d e a=(0,x)):e=0∧Pl.bt s a=40∧x=a+1∧d≤5:=by
 have c:d≤5:=by
  rcases nN d 6 with b|b
  ·omega
  ·obtain rfl:d=6:=by omega
   exact absurd rfl (Pl.He h)
 unfold Pl.Up at h
 rw[if_neg (by omega)] at h
 obtain⟨b,f,g⟩:=E0 h
 exact⟨b,f,g,c⟩
theorem MN {p:Nat→Bool×Nat}{a x:Nat}(h:Pl.lf p a=(0,x)):p a=(true,x):=by
 have b:Pl.bE (0,a) (Pl.lf p)=(0,x):=by rw[Pl.A3];exact h
 obtain⟨_,d,c⟩:=Ef (show (Pl.bE (0,a) (Pl.lf p)).1=0 by rw[b])
 rw[b] at c
 rw[d];exact congrArg _ c.symm
theorem Tb {s:ByteArray}{d a e1 a1 f c e b g k:Nat}{q:Nat→Nat×Nat}(h:d≤6)(i:Pl.lf (Pl.Ba s k) a=(e1,a1))(j:Pl.Up s d e1 a1=(f,c))(l:Pl.bE (f,c) q=(e,b))(m:Pl.bE (e,b) (Pl.lf (Pl.tk s 41))=(0,g)) :
 e1=0∧e=0∧Pl.Ba s k a=(true,a1)∧Pl.bt s a1=40∧c=a1+1∧Pl.bt s b=41∧g=b+1∧d≤5:=by
 obtain⟨n,o,p⟩:=E0 m
 subst n;have r:=fO l;subst r
 obtain⟨t,u,p1,v⟩:=FN h j
 subst t
 exact⟨rfl,rfl,MN i,u,p1,o,p,v⟩
theorem FO {s:ByteArray}{d a e1 a1 g c e b h f e5 a5 i k:Nat}{q:Nat→Nat×Nat}(j:d≤6)(l:Pl.lf (Pl.Ba s k) a=(e1,a1))(m:Pl.Up s d e1 a1=(g,c))(n:Pl.bE (g,c) q=(e,b))(o:Pl.bE (e,b) (Pl.lf (Pl.tk s 44))=(h,f))(p:Pl.bE (h,f) q=(e5,a5))(r:Pl.bE (e5,a5) (Pl.lf (Pl.tk s 41))=(0,i)) :
 e1=0∧e=0∧e5=0∧Pl.Ba s k a=(true,a1)∧Pl.bt s a1=40∧c=a1+1∧Pl.bt s b=44∧f=b+1∧Pl.bt s a5=41∧i=a5+1∧d≤5:=by
 obtain⟨t,u,v⟩:=E0 r
 subst t;have w:=fO p;subst w
 obtain⟨x,y,z⟩:=E0 o
 subst x;have A:=fO n;subst A
 obtain⟨B,C,p1,D⟩:=FN j m
 subst B
 exact⟨rfl,rfl,rfl,MN l,C,p1,y,z,u,v,D⟩
theorem XD (B:Nat)(s:ByteArray)(a:Nat)(w:World):Gj B s 5 a #[.int .u8 85,.string ⟨#[]⟩,.slice none 0 0,.int .u8 0,.int .u8 0,.bool false,.int .i64 0,.string ⟨#[]⟩,.int .i64 0,.int .i64 (-1),.int .i64 (-1),.int .i64 0] w :=
 ⟨⟨85,⟨#[]⟩,[],0,0,.txt [],0,-1,-1,0⟩,.slice none 0 0,rfl,World.ownsRow_nil _ _ _ _,⟨by simp,by simp,by simp,by simp⟩,(fun h=>by cases h),fun _ S i o t q r b c=>⟨rfl,b,c⟩⟩
theorem XE (B:Nat)(s:ByteArray)(a:Nat)(w:World):Gj B s 6 a #[.int .u8 68,.string ⟨#[]⟩,.slice none 0 0,.int .u8 0,.int .u8 0,.bool false,.int .i64 0,.string ⟨#[]⟩,.int .i64 0,.int .i64 (-1),.int .i64 (-1),.int .i64 0] w :=
 ⟨⟨68,⟨#[]⟩,[],0,0,.txt [],0,-1,-1,0⟩,.slice none 0 0,rfl,World.ownsRow_nil _ _ _ _,⟨by simp,by simp,by simp,by simp⟩,(fun _ S i o q b=>⟨rfl,b⟩),fun h=>by cases h⟩
theorem XF (B:Nat)(s:ByteArray)(a:Nat)(w:World){c d:Nat}(b:c=Kw s (a+2))(e:d=Kw s (a+4))(f:c≤9)(g:d≤9):Gj B s 4 a #[.int .u8 74,.string ⟨#[]⟩,.slice none 0 0,.int .u8 0,.int .u8 0,.bool false,.int .i64 0,.string ⟨#[]⟩,.int .i64 (d:Int),.int .i64 (-1),.int .i64 (-1),.int .i64 (c:Int)] w :=
 ⟨⟨74,⟨#[]⟩,[],0,0,.txt [],d,-1,-1,c⟩,.slice none 0 0,rfl,World.ownsRow_nil _ _ _ _,⟨g,f,by simp,by simp⟩,(fun h=>by cases h),fun _ S i o t q r j k=>⟨rfl,b,e,j,k⟩⟩
theorem XG (B:Nat)(s:ByteArray)(a:Nat)(w:World){L:List Nat}{cv:Value}(b:L=Ct s 5 (a+2))(ho:w.ownsRow (B+1) 3 1 cv L.length (Fj L))(c:L.length≤6)(d:∀x∈L,x≤9):Gj B s 3 a #[.int .u8 80,.string ⟨#[]⟩,cv,.int .u8 0,.int .u8 0,.bool false,.int .i64 0,.string ⟨#[]⟩,.int .i64 0,.int .i64 (-1),.int .i64 (-1),.int .i64 0] w :=
 ⟨⟨80,⟨#[]⟩,L,0,0,.txt [],0,-1,-1,0⟩,cv,rfl,ho,⟨by simp,by simp,c,d⟩,(fun _ S i o q e=>⟨rfl,b,e⟩),fun h=>by cases h⟩
theorem XH (B:Nat)(s:ByteArray)(a:Nat)(w:World){L:List Nat}{cv:Value}{b:Int}{m:Nat}(c:L=Hg s 7 a)(ho:w.ownsRow (B+1) 3 1 cv L.length (Fj L))(d:L.length≤6)(e:∀x∈L,x≤9)(f:m≤9)(g:wS (GI s (Ir s a+1))=if b=115 then some m else none):Gj B s 7 a #[.int .u8 71,.string ⟨#[]⟩,cv,.int .u8 b,.int .u8 0,.bool false,.int .i64 0,.string ⟨#[]⟩,.int .i64 (m:Int),.int .i64 (-1),.int .i64 (-1),.int .i64 0] w :=
 ⟨⟨71,⟨#[]⟩,L,b,0,.txt [],m,-1,-1,0⟩,cv,rfl,ho,⟨f,by simp,d,e⟩,(fun _ S i o q j=>⟨rfl,c,g,j⟩),fun h=>by cases h⟩
theorem XI (B:Nat)(s:ByteArray)(a:Nat)(w:World){c:Nat}{k:L3}{x:Cy}(b:c=Kw s (a+2))(d:Jh (BP s (a+3))=k)(e:El s (a+4)=x)(f:c≤9)(g:Ie x≤9):Gj B s 2 a #[.int .u8 83,.string ⟨#[]⟩,.slice none 0 0,.int .u8 (Jp k),.int .u8 (T4 x),.bool (uB (Sw x)),.int .i64 (uN (Sw x)),.string ⟨(uS (Sw x)).toArray⟩,.int .i64 (Ie x:Int),.int .i64 (-1),.int .i64 (-1),.int .i64 (c:Int)] w :=
 ⟨⟨83,⟨#[]⟩,[],Jp k,T4 x,Sw x,Ie x,-1,-1,c⟩,.slice none 0 0,rfl,World.ownsRow_nil _ _ _ _,⟨g,f,by simp,by simp⟩,(fun _ S i o q j=>by
   show Kq S i _ (.sel (Kw s (a+2)) (Jh (BP s (a+3))) (El s (a+4)) q)
   rw[d,e]
   exact⟨rfl,rfl,rfl,rfl,rfl,b,j⟩),fun h=>by cases h⟩
theorem Hp {B:Nat}{s:ByteArray}{a d g b e c f j h p i:Nat}{k:L3}{x:Cy}(w:World)(q:Pl.bE (0,a+1) (Pl.lf (Pl.tk s 91))=(g,d))(l:Pl.bE (g,d) (Pl.lf (Pl.Hr s))=(e,b))(O:Pl.bE (e,b) (Pl.lf (Pl.Hu s))=(f,c))(r:Pl.bE (f,c) (Pl.lf (Pl.Hv s))=(h,j))(t:Pl.bE (h,j) (Pl.lf (Pl.tk s 93))=(0,p))
 (m:i≤9∧((Pl.bE (g,d) (Pl.lf (Pl.Hr s))).1=0→i=Kw s d)) (u:e=0→Jh (BP s b)=k) (v:f=0→h=0→El s c=x∧Ie x≤9) :
 Gj B s 2 a #[.int .u8 83,.string ⟨#[]⟩,.slice none 0 0,.int .u8 (Jp k),.int .u8 (T4 x),.bool (uB (Sw x)),.int .i64 (uN (Sw x)),.string ⟨(uS (Sw x)).toArray⟩,.int .i64 (Ie x:Int),.int .i64 (-1),.int .i64 (-1),.int .i64 (i:Int)] w:=by
 obtain⟨y,_,_⟩:=E0 t
 subst y
 obtain⟨z,_,_⟩:=Ef (show (Pl.bE (f,c) (Pl.lf (Pl.Hv s))).1=0 by rw[r])
 subst z
 obtain⟨A,C,n⟩:=Ef (show (Pl.bE (e,b) (Pl.lf (Pl.Hu s))).1=0 by rw[O])
 subst A
 rw[O] at n
 have D:c=b+1:=n.trans (CT C).symm
 have E:=m.2 (by rw[l])
 obtain⟨F,G⟩:=O6 l
 subst F
 obtain⟨_,_,p2⟩:=E0 q
 have o:=v rfl rfl;have H:=u rfl;subst D G p2;exact XI B s a w E H o.1 m.1 o.2
theorem Tc {B:Nat}{s:ByteArray}{a b c f g d e i h l m:Nat}{L:List Nat}{cv:Value}{j:Int}(w:World)(n:Pl.bE (0,a+1) (Pl.lf (Pl.tk s 91))=(c,b))(O:Pl.bE (c,b) (Pl.lf (Pl.Qs (Pl.tk s 93) (Pl.C9 s 5)))=(g,f))(o:Pl.bE (g,f) (Pl.lf (Pl.tk s 91))=(e,d))(p:Pl.bE (e,d) (Pl.lf (Pl.Je (Pl.tk s 115) (Pl.Hr s) (Pl.tk s 110)))=(h,i))(q:Pl.bE (h,i) (Pl.lf (Pl.tk s 93))=(0,l))
 (r:c=0→g=0→L=if Pl.bt s b=93 then [] else Ct s 5 b) (ho:w.ownsRow (B+1) 3 1 cv L.length (Fj L)) (t:L.length≤6) (u:∀x∈L,x≤9) (v:m≤9) (y:e=0→h=0→wS (GI s d)=if j=115 then some m else none) :
 Gj B s 7 a #[.int .u8 71,.string ⟨#[]⟩,cv,.int .u8 j,.int .u8 0,.bool false,.int .i64 0,.string ⟨#[]⟩,.int .i64 (m:Int),.int .i64 (-1),.int .i64 (-1),.int .i64 0] w:=by
 obtain⟨z,_,_⟩:=E0 q
 subst z
 obtain⟨A,_,_⟩:=Ef (show (Pl.bE (e,d) (Pl.lf (Pl.Je (Pl.tk s 115) (Pl.Hr s) (Pl.tk s 110)))).1=0 by rw[p])
 subst A
 obtain⟨C,_,D⟩:=E0 o
 subst C
 obtain⟨E,_,k⟩:=Ef (show (Pl.bE (c,b) (Pl.lf (Pl.Qs (Pl.tk s 93) (Pl.C9 s 5)))).1=0 by rw[O])
 subst E
 rw[O] at k
 obtain⟨_,_,F⟩:=E0 n
 have G:=r rfl rfl;have H:=y rfl rfl;subst F;have hg:Ir s a=f:=k.symm;refine XH B s a w G ho t u v ?_
 rw[hg,←D];exact H
theorem XJ {B:Nat}{s:ByteArray}{a b f a5 e5 e g h i n c d:Nat}(w:World)(o:Pl.bE (0,a+1) (Pl.lf (Pl.tk s 91))=(f,b))(j:Pl.bE (f,b) (Pl.lf (Pl.Hr s))=(e5,a5))(p:Pl.bE (e5,a5) (Pl.lf (Pl.tk s 61))=(g,e))(k:Pl.bE (g,e) (Pl.lf (Pl.Hr s))=(i,h))(q:Pl.bE (i,h) (Pl.lf (Pl.tk s 93))=(0,n))
 (l:c≤9∧((Pl.bE (f,b) (Pl.lf (Pl.Hr s))).1=0→c=Kw s b)) (m:d≤9∧((Pl.bE (g,e) (Pl.lf (Pl.Hr s))).1=0→d=Kw s e)) :
 Gj B s 4 a #[.int .u8 74,.string ⟨#[]⟩,.slice none 0 0,.int .u8 0,.int .u8 0,.bool false,.int .i64 0,.string ⟨#[]⟩,.int .i64 (d:Int),.int .i64 (-1),.int .i64 (-1),.int .i64 (c:Int)] w:=by
 obtain⟨r,_,_⟩:=E0 q
 subst r
 have t:=m.2 (by rw[k])
 obtain⟨u,_⟩:=O6 k
 subst u
 obtain⟨v,_,x⟩:=E0 p
 subst v
 have y:=l.2 (by rw[j])
 obtain⟨z,A⟩:=O6 j
 subst z
 obtain⟨_,_,C⟩:=E0 o
 subst x A C;exact XF B s a w y t l.1 m.1
theorem XK {B:Nat}{s:ByteArray}{a b c a5:Nat}{L:List Nat}{cv:Value}(w:World)(e:Pl.bE (0,a+1) (Pl.lf (Pl.tk s 91))=(c,b))(d:Pl.bE (c,b) (Pl.lf (Pl.C9 s 5))=(0,a5))(f:(Pl.bE (c,b) (Pl.lf (Pl.C9 s 5))).1=0→L=Ct s 5 b)(ho:w.ownsRow (B+1) 3 1 cv L.length (Fj L))(g:L.length≤6)(h:∀x∈L,x≤9) :
 Gj B s 3 a #[.int .u8 80,.string ⟨#[]⟩,cv,.int .u8 0,.int .u8 0,.bool false,.int .i64 0,.string ⟨#[]⟩,.int .i64 0,.int .i64 (-1),.int .i64 (-1),.int .i64 0] w:=by
 have i:=f (by rw[d])
 obtain⟨j,_,_⟩:=Ef (show (Pl.bE (c,b) (Pl.lf (Pl.C9 s 5))).1=0 by rw[d])
 subst j
 obtain⟨_,_,k⟩:=E0 e
 subst k;exact XG B s a w i ho g h
end Go.Proofs.YtdinjjmcmfjbfaaGreatDoor
