import Derived.Test.YtdinjjmcmfjbfaaGreatDoorRbsJ
import Derived.Deep.DeepCutAuto
import Derived.Deep.CutBlock
set_option maxRecDepth 100000
set_option maxHeartbeats 4000000
namespace Go.Proofs.YtdinjjmcmfjbfaaGreatDoor
open Go.RowKit Mo Pl Tryz
attribute [local go_sem ↓] Go.wp_at_zero Go.wp_at_succ
section
variable {B:Nat} {s:ByteArray} {d j:Nat} {pv0 pv:Value} {m:Nat} {xs:List Value} {S:List Q} {C:Prop} {w0 wI:World} {vb:Int} {P:Array Value} {e a:Nat} {w:World}
theorem Kk (h:xR (ST B s d j pv0 pv m xs S C w0 wI vb P e a w))(i:Nat){v:Value}(hi:0<i:=by omega)(hv:v.oneCell'=true:=by rfl):xR (ST B s d j pv0 pv m xs S C w0 wI vb (P.setIfInBounds i v) e a (w.setCell ⟨w0.heap.size,i,none⟩ v)):=h.o.set hi hv
theorem DB (h:xR (ST B s d j pv0 pv m xs S C w0 wI vb P e a w))(b:Int):xR (ST B s d j pv0 pv m xs S C w0 wI b (P.setIfInBounds 0 (.int .u8 b)) e a (w.setCell ⟨w0.heap.size,0,none⟩ (.int .u8 b))):=h.o.FU b
theorem Fl (h:xR (ST B s d j pv0 pv m xs S C w0 wI vb P e a w))(i:Nat)(hi:i<12:=by omega):∃v,C3 w w0.heap.size i v∧w.frozen? ⟨w0.heap.size,i,none⟩=false:=by
 obtain⟨v,hv⟩:=h.o.pb.cell hi;exact⟨v,hv,h.o.pb.fz i⟩
theorem Wr (h:xR (ST B s d j pv0 pv m xs S C w0 wI vb P e a w))(l:s.size≤1000)(c:Nat)(g:Int)(n:g=(c:Int):=by rfl)(o:0<c:=by omega) :
 Calls prog 138 #[C1 B,.int .u8 g] w fun i w'=>(i=.returned (.bool true)∧xR (e=0∧bt s a=c)∧xR (ST B s d j pv0 pv m xs S C w0 wI vb P e (a+1) w'))∨(i=.returned (.bool false)∧xR (¬(e=0∧bt s a=c))∧xR (ST B s d j pv0 pv m xs S C w0 wI vb P e a w')):=by
 go_call R5 B s a d e j c g pv w l o n h.o.rr as i w1 ⟨ok,b,rfl,N,k,p,f⟩;cases ok
 ·obtain rfl:b=a:=k;exact .inr ⟨rfl,rM N.o,h.o.next p f⟩
 obtain rfl:b=a+1:=k;exact .inl ⟨rfl,pM N.o,h.o.next p f⟩
theorem Jd (h:xR (ST B s d j pv0 pv m xs S C w0 wI vb P e a w))(l:s.size≤1000)(c:Nat)(b:Int)(i:b=(c:Int):=by rfl)(n:0<c:=by omega) :
 Calls prog 139 #[C1 B,.int .u8 b,.int .u8 b] w fun k w'=>k=.returned (.int .u8 b)∧∃g a',xR (xW (e,a) (xX (tk s c))=(g,a'))∧xR (ST B s d j pv0 pv m xs S C w0 wI vb P g a' w'):=by
 go_call QM B s a d e j c b pv w l n i h.o.rr as k w1 ⟨rfl,g,a',x,p,f⟩;exact⟨by rw[i],g,a',x,h.o.next p f⟩
theorem Z1 (h:xR (ST B s d j pv0 pv m xs S C w0 wI vb P e a w))(g:s.size≤1000) :
 Calls prog 165 #[C1 B] w fun c w'=>∃n b a':Nat,c=.returned (.int .i64 (n:Int))∧xR (n≤9∧((xW (e,a) (xX (Jt s))).1=0→n=Nk s a))∧xR (xW (e,a) (xX (Jt s))=(b,a'))∧xR (ST B s d j pv0 pv m xs S C w0 wI vb P b a' w'):=by
 go_call Md B s a d e j pv w g h.o.rr as c w1 ⟨n,rfl,i,b,a',x,p,f⟩;exact⟨n,b,a',rfl,i,x,h.o.next p f⟩
theorem mF (h:xR (ST B s d j pv0 pv m xs S C w0 wI vb P e a w))(k:s.size≤1000) :
 Calls prog 167 #[C1 B] w fun i w'=>∃b n c L,i=.returned (.slice b n c)∧∃g a',xR (w'.ownsRow (B+1) 3 1 (.slice b n c) L.length (Gp L)∧L.length≤6∧(∀x∈L,x≤9)∧((xW (e,a) (xX (Dh s 5))).1=0→L=C6 s 5 a))∧xR (xW (e,a) (xX (Dh s 5))=(g,a'))∧xR (ST B s d j pv0 pv m xs S C w0 w' vb P g a' w'):=by
 go_call FT B s a d e j pv w k h.o.rr as i w1 ⟨⟨b,n,c,L,rfl,l,o⟩,g,a',x,p,f⟩;exact⟨b,n,c,L,rfl,g,a',⟨pJ l (by have:=h.o.fr.size;have:=h.o.lt;omega),o⟩,x,(h.o.next p f).fA⟩
def pO (s:ByteArray)(e a e' a':Nat)(k:Qb):Prop:=xW (e,a) (xX (J6 s))=(e',a')∧(e=0→Mi (RG s a)=k)
theorem pP (h:xR (e=0∧bt s a=60)):xR (pO s e a e (a+1) .lt):=by
 obtain⟨rfl,k⟩:=h.o;exact⟨by rw[Xv,MW k],fun _=>by unfold RG;rw[if_pos k];rfl⟩
theorem pQ (h:xR (¬(e=0∧bt s a=60)))(b:xR (e=0∧bt s a=61)):xR (pO s e a e (a+1) .eq):=by
 refine⟨by rw[Xv,RJ h.o,b.o.1,MW b.o.2],fun c=>?_⟩;unfold RG;rw[if_neg (fun x=>h.o ⟨c,x⟩),if_pos b.o.2];rfl
theorem pR {b a':Nat}(h:xR (¬(e=0∧bt s a=60)))(c:xR (¬(e=0∧bt s a=61)))(x:xR (xW (e,a) (xX (tk s 33))=(b,a'))):xR (pO s e a b a' .ne):=by
 refine⟨by rw[Xv,RJ h.o,RJ c.o];exact x.o,fun d=>?_⟩;unfold RG;rw[if_neg (fun x=>h.o ⟨d,x⟩),if_neg (fun x=>c.o ⟨d,x⟩)];rfl
def sM (s:ByteArray)(e a e' a':Nat)(x:Dk):Prop:=xW (e,a) (xX (Pw s))=(e',a')∧(e=0→e'=0→Py s a=x∧Pk x≤9)
theorem FX:Pw s=Tm (tk s 35) (D1 s) (Tm (tk s 36) (Bj s) (Jt s)):=rfl
theorem pS {b a':Nat}{n:Int}(h:xR (e=0∧bt s a=35))(x:xW (e,a+1) (xX (D1 s))=(b,a'))(c:(xW (e,a+1) (xX (D1 s))).1=0→n=Gu (Ia s (a+1) (D1 s (a+1)).2)):xR (sM s e a b a' (.val (.num n))):=by
 obtain⟨rfl,k⟩:=h.o;refine⟨by rw[FX,MX k];exact x,fun _ d=>⟨?_,vM _⟩⟩;unfold Py;rw[if_pos k,c (by rw[x];exact d)]
theorem pT {c a':Nat}{t:ByteArray}(h:xR (¬(e=0∧bt s a=35)))(b:xR (e=0∧bt s a=36))(x:xW (e,a+1) (xX (Bj s))=(c,a'))(d:(xW (e,a+1) (xX (Bj s))).1=0→t=s.extract (a+1) (Bj s (a+1)).2):xR (sM s e a c a' (.val (.txt t.data.toList))):=by
 refine⟨by rw[FX,RK h.o];rw[b.o.1] at x⊢;rw[MX b.o.2];exact x,fun f g=>⟨?_,vM _⟩⟩;unfold Py;rw[if_neg (fun x=>h.o ⟨f,x⟩),if_pos b.o.2,d (by rw[x];exact g)];rfl
theorem pU {b a' n:Nat}(h:xR (¬(e=0∧bt s a=35)))(c:xR (¬(e=0∧bt s a=36)))(x:xR (xW (e,a) (xX (Jt s))=(b,a')))(d:xR (n≤9∧((xW (e,a) (xX (Jt s))).1=0→n=Nk s a))):xR (sM s e a b a' (.col n)):=by
 refine⟨by rw[FX,RK h.o,RK c.o];exact x.o,fun f g=>⟨?_,d.o.1⟩⟩;unfold Py;rw[if_neg (fun x=>h.o ⟨f,x⟩),if_neg (fun x=>c.o ⟨f,x⟩),d.o.2 (by rw[x.o];exact g)]
def sZ (B:Nat)(s:ByteArray)(e a e' a':Nat)(wI:World)(cv:Value)(L:List Nat):Prop:=xW (e,a) (xX (R9 (tk s 93) (Dh s 5)))=(e',a')∧(e=0→e'=0→L=if bt s a=93 then [] else C6 s 5 a)∧(∀w',Dv wI w'→w'.ownsRow (B+1) 3 1 cv L.length (Gp L))∧L.length≤6∧∀x∈L,x≤9
theorem pW (h:xR (e=0∧bt s a=93)):xR (sZ B s e a e (a+1) wI (.slice none 0 0) []):=by
 obtain⟨rfl,k⟩:=h.o;exact⟨MW k,fun _ _=>by rw[if_pos k],fun _ _=>World.ownsRow_nil _ _ _ _,by simp,by simp⟩
theorem lB {b a':Nat}{cv:Value}{L:List Nat}(h:xR (¬(e=0∧bt s a=93)))(k:xR (w.ownsRow (B+1) 3 1 cv L.length (Gp L)∧L.length≤6∧(∀x∈L,x≤9)∧((xW (e,a) (xX (Dh s 5))).1=0→L=C6 s 5 a)))(x:xR (xW (e,a) (xX (Dh s 5))=(b,a'))):xR (sZ B s e a b a' w cv L):=by
 obtain⟨c,d,f,g⟩:=k.o;exact⟨by rw[RJ h.o];exact x.o,fun j l=>by rw[if_neg (fun x=>h.o ⟨j,x⟩)];exact g (by rw[x.o];exact l),fun _ i=>R6 c i,d,f⟩
def tA (s:ByteArray)(e a e' a':Nat)(sg:Int)(m:Nat):Prop:=xW (e,a) (xX (Tm (tk s 115) (Jt s) (tk s 110)))=(e',a')∧m≤9∧(e=0→e'=0→wS (NA s a)=if sg=115 then some m else none)
theorem sO {b a' n:Nat}(h:xR (e=0∧bt s a=115))(c:xR (n≤9∧((xW (e,a+1) (xX (Jt s))).1=0→n=Nk s (a+1))))(x:xR (xW (e,a+1) (xX (Jt s))=(b,a'))):xR (tA s e a b a' 115 n):=by
 obtain⟨rfl,k⟩:=h.o;exact⟨by rw[MX k];exact x.o,c.o.1,fun _ d=>by unfold NA;rw[if_pos k,if_pos rfl,c.o.2 (by rw[x.o];exact d)];rfl⟩
theorem sP {b a':Nat}(h:xR (¬(e=0∧bt s a=115)))(x:xR (xW (e,a) (xX (tk s 110))=(b,a'))):xR (tA s e a b a' 110 0) :=
 ⟨by rw[RK h.o];exact x.o,vM _,fun c _=>by unfold NA;rw[if_neg (fun x=>h.o ⟨c,x⟩),if_neg (by decide)];rfl⟩
end
theorem DC {c:Nat}{k:Nat}(h:c=83∧k=2∨c=80∧k=3∨c=74∧k=4∨c=85∧k=5∨c=68∧k=6∨c=71∧k=7):xR (xV c=k):=by
 show _=_;rcases h with ⟨rfl,rfl⟩|⟨rfl,rfl⟩|⟨rfl,rfl⟩|⟨rfl,rfl⟩|⟨rfl,rfl⟩|⟨rfl,rfl⟩ <;> rfl
def mG (B:Nat)(s:ByteArray)(d a:Nat)(q:Nat→Nat×Nat)(S:List Q)(wH:World)(e5 a5 m5:Nat)(xs5:List Value)(S5:List Q)(C:Prop)(P5:Array Value):Prop :=
 ∀e6 a6,xW (e5,a5) (xX (tk s 41))=(e6,a6)→Nt s d q a=(e6,a6)∧(e6=0→∀(W:World) (L:List Value),Dv wH W→(C→PL B W xs5 S5∧m5=S5.length)→P5=L.toArray→FV B s (6-d) a a6 S (m5:Int) (m5+1) (xs5++L) W)
section
variable {B:Nat} {s:ByteArray} {d a e1 a1 e2 a2 e3 a3 e4 a4 e5 a5 m3 m5:Nat} {q:Nat→Nat×Nat} {S S3 S5:List Q} {xs3 xs5:List Value} {P:Array Value} {wH:World} {n3 n5:Int}
theorem fQ (i:d≤6)(j:xV (bt s a)≠1)(hi:xR (yC (xV (bt s a))=1))(c:xR (xX (B3 s (xV (bt s a))) a=(e1,a1)))(e:xR (U9 s d e1 a1=(e2,a2)))(f:xR (xW (e2,a2) q=(e3,a3)))(k:xR (e1=0→Gi B s (xV (bt s a)) a P wH))(l:xR (e3=0→∃b T,(S3=S++T∧T=Ea b)∧Rq s (6-(d+1)) a2 a3 b∧I9 S3 m3 n3 b)):xR (mG B s d a q S wH e3 a3 m3 xs3 S3 (e3=0) (P.setIfInBounds 9 (.int .i64 n3))):=by
 intro e4 a4 g;refine⟨ZZ j hi.o c.o e.o f.o g,fun m W L ik n o=>?_⟩;subst m;obtain⟨p,h,r,t,u,v,w,_⟩:=fD i c.o e.o f.o g;obtain⟨_,_,x,y,z⟩:=l.o h;obtain⟨A,C⟩:=n h;rw[show 6-d=6-(d+1)+1 by omega];exact fB rfl hi.o ((k.o p).Cm ik) r t (u ▸ y) v w A C x z o
theorem fR (k:d≤6)(l:xV (bt s a)≠1)(hi:xR (yC (xV (bt s a))=2))(c:xR (xX (B3 s (xV (bt s a))) a=(e1,a1)))(e:xR (U9 s d e1 a1=(e2,a2)))(f:xR (xW (e2,a2) q=(e3,a3)))(g:xR (xW (e3,a3) (xX (tk s 44))=(e4,a4)))(h:xW (e4,a4) q=(e5,a5))(m:xR (e1=0→Gi B s (xV (bt s a)) a P wH))(n:e3=0→m3=S3.length)
 (o:xR (e3=0→∃b T,(S3=S++T∧T=Ea b)∧Rq s (6-(d+1)) a2 a3 b∧I9 S3 m3 n3 b)) (p:e5=0→∃b T,(S5=S3++T∧T=Ea b)∧Rq s (6-(d+1)) a4 a5 b∧I9 S5 m5 n5 b):xR (mG B s d a q S wH e5 a5 m5 xs5 S5 (e5=0) ((P.setIfInBounds 9 (.int .i64 n3)).setIfInBounds 10 (.int .i64 n5))):=by
 intro N O x6;refine⟨aA l hi.o c.o e.o f.o g.o h x6,fun r W L ik t u=>?_⟩;subst r;obtain⟨v,i,j,w,x,y,z,A,C,D,_⟩:=fE k c.o e.o f.o g.o h x6;obtain⟨_,_,E,F,G⟩:=o.o i;obtain⟨_,_,H,I,J⟩:=p j;obtain⟨K,M⟩:=t j;rw[show 6-d=6-(d+1)+1 by omega];exact fC rfl hi.o ((m.o v).Cm ik) w x (y ▸ F) z (A ▸ I) C D K (n i) M E H G J u
end
theorem pX {c:Nat}{v:Int}(h:c=83∨c=80∨c=74∨c=85∨c=68∨c=71)(hv:v=(c:Int)):xV c≠1∧(xR (yC (xV c)=1)∧(v == 74)=false∧(v == 85)=false∨xR (yC (xV c)=2)∧((v == 74)=true∨(v == 74)=false∧(v == 85)=true)):=by
 subst hv;rcases h with rfl|rfl|rfl|rfl|rfl|rfl <;> first|exact⟨by decide,.inl ⟨Ae rfl,rfl,rfl⟩⟩|exact⟨by decide,.inr ⟨Ae rfl,.inl rfl⟩⟩|exact⟨by decide,.inr ⟨Ae rfl,.inr ⟨rfl,rfl⟩⟩⟩
theorem fS (B:Nat)(s:ByteArray)(a d j an:Nat)(q:Nat→Nat×Nat)(pv:Value)(m:Nat)(xs:List Value)(S:List Q)(w:World)(b:s.size≤1000)(bf:d≤6)(bg:Rl B s (d+1) an q)(h:RR B s a d 0 j pv w)(ho:PO B pv m xs w)(bh:PL B w xs S∧m=S.length)(_:m+(1+2*an)≤1000)(bi:j=xU s a)(bj:bt s a=83∨bt s a=80∨bt s a=74∨bt s a=85∨bt s a=68∨bt s a=71) :
 Calls prog 130 #[C1 B] w (QR B s d pv m (1+2*an) w S a (Nt s d q a) (fun dk a' dl=>dk=0→dl=xU s a')):=by
 have ao:xR (ST B s d j pv pv m xs S True w w 0 #[.int .u8 0,.string ⟨#[]⟩,.slice none 0 0,.int .u8 0,.int .u8 0,.bool false,.int .i64 0,.string ⟨#[]⟩,.int .i64 0,.int .i64 (-1),.int .i64 (-1),.int .i64 0] 0 a (w.alloc (.cells #[.int .u8 0,.string ⟨#[]⟩,.slice none 0 0,.int .u8 0,.int .u8 0,.bool false,.int .i64 0,.string ⟨#[]⟩,.int .i64 0,.int .i64 (-1),.int .i64 (-1),.int .i64 0] 204))):=ST.start h ho (fun _=>bh) rfl rfl sL;have es:=Aa h.2;have dm:=h.1;have bk:=Ae bj;have J:=Ae bi;have bl:=Ae bg;have et:¬B=w.heap.size:=by omega
 clear h ho bj bi bg bh;go_enter func130,ntmps130;go_upto_block 0 with fail;go_cut [] (fun dn=>xR (HD B s d a pv m xs S w dn))
 case first =>
  go_wp21;go_call Wr ao b 83 83 as e w1 (⟨rfl,T,E⟩|⟨rfl,T,E⟩)
  ·clear ao;have f:=DC (k:=2) (.inl ⟨T.o.2,rfl⟩);obtain⟨_,_,_⟩:=Fl E 0;go_wp21;go_call Jd (DB E 83) b 91 91 as e bm ⟨rfl,e2,a2,K,n⟩;clear E;go_wp21;go_call Z1 n b as e w3 ⟨n3,e3,a3,rfl,L,G,S3⟩;clear n;obtain⟨_,_,_⟩:=Fl S3 11;go_wp21;go_call Wr (Kk S3 11) b 60 60 as e w4 (⟨rfl,C,i⟩|⟨rfl,C,g⟩);have U:=pP C;rotate_left
   focus
    go_wp21;go_call Wr g b 61 61 as e w5 (⟨rfl,A,i⟩|⟨rfl,A,S5⟩);have U:=pQ C A;rotate_left
    focus
     go_wp21;go_call Jd S5 b 33 33 as e w6 ⟨rfl,ap,aq,H,i⟩;have U:=pR C A H
   all_goals
    obtain⟨_,_,_⟩:=Fl i 3;clear S3;go_wp21;go_call Wr (Kk i 3) b 35 35 as e bn (⟨rfl,P,p⟩|⟨rfl,P,p⟩)
    focus
     obtain⟨_,_,_⟩:=Fl p 4;clear i;go_wp21;go_call Wj B s _ d _ j pv _ b (Kk p 4).o.rr as e ay ⟨_,rfl,bo,az,a0,V,I,X⟩;have Y:=pS P V bo;have l:=Ae ((Kk p 4).o.next I X);obtain⟨_,_,_⟩:=Fl l 5;obtain⟨_,_,_⟩:=Fl l 6;obtain⟨_,_,_⟩:=Fl l 7;clear I X V bo p;go_wp21;refine (Jd (Kk (Kk (Kk l 5) 6) 7) b 93 93).mono ?_
    rotate_left
    focus
     go_wp21;go_call Wr p b 36 36 as e ay (⟨rfl,M,r⟩|⟨rfl,M,r⟩)
     focus
      obtain⟨_,_,_⟩:=Fl r 4;clear p i;go_wp21;go_call La B s _ d _ j pv _ b (Kk r 4).o.rr as e bp ⟨_,rfl,bq,az,a0,V,I,X⟩;have Y:=pT P M V bq;have l:=Ae ((Kk r 4).o.next I X);obtain⟨_,_,_⟩:=Fl l 5;obtain⟨_,_,_⟩:=Fl l 6;obtain⟨_,_,_⟩:=Fl l 7;clear I X V bq r;go_wp21;refine (Jd (Kk (Kk (Kk l 5) 6) 7) b 93 93).mono ?_
     rotate_left
     focus
      go_wp21;go_call Z1 r b as e bp ⟨_,az,a0,rfl,dp,a6,l⟩;have Y:=pU P M a6 dp;obtain⟨_,_,_⟩:=Fl l 8;clear r p i;go_wp21;refine (Jd (Kk l 8) b 93 93).mono ?_
    all_goals
     rintro e dq ⟨rfl,a7,a8,Z,ar⟩;clear l;go_wp21;go_meet;have D:xR (xX (B3 s (xV (bt s a))) a=(a7,a8)):=(by show _=_;rw[f.o];show xX (Pl.Kr s) a=_;unfold Pl.Kr;rw[RH T.o.2,Xp,show xX (tk s 91) (a+1)=_ from K.o,Ll,G.o,Ll,U.o.1,Ll,Y.o.1];exact Z.o);refine⟨a7,a8,j,_,83,_,by rw[T.o.2];rfl,D.o,Xk f.o J.o D.o,ar.o,fun N=>?_⟩;rw[f.o];subst N;exact fL _ K.o G.o U.o.1 Y.o.1 Z.o L.o U.o.2 Y.o.2
  clear ao;go_wp21;go_call Wr E b 80 80 as e bm (⟨rfl,aa,n⟩|⟨rfl,aa,n⟩) <;> clear E
  ·have f:=DC (k:=3) (.inr (.inl ⟨aa.o.2,rfl⟩));obtain⟨_,_,_⟩:=Fl n 0;go_wp21;go_call Jd (DB n 80) b 91 91 as e w3 ⟨rfl,e3,a3,G,S3⟩;go_wp21;go_call mF S3 b as e w4 ⟨dr,ds,dt,_,rfl,e4,a4,au,F,g⟩;obtain⟨_,_,_⟩:=Fl g 2;clear n S3;go_wp21;go_meet;have D:xR (xX (B3 s (xV (bt s a))) a=(e4,a4)):=(by show _=_;rw[f.o];show xX (RC s) a=_;unfold RC;rw[RH aa.o.2,Xp,show xX (tk s 91) (a+1)=_ from G.o];exact F.o);refine⟨e4,a4,j,_,80,_,by rw[aa.o.2];rfl,D.o,Xk f.o J.o D.o,(Kk g 2).o,fun N=>?_⟩;rw[f.o];subst N;exact fO _ G.o F.o au.o.2.2.2 (R6 au.o.1 (Kk g 2 (v:=.slice dr ds dt)).o.ik) au.o.2.1 au.o.2.2.1
  go_wp21;go_call Wr n b 74 74 as e w3 (⟨rfl,L,S3⟩|⟨rfl,L,S3⟩) <;> clear n
  ·have f:=DC (k:=4) (.inr (.inr (.inl ⟨L.o.2,rfl⟩)));obtain⟨_,_,_⟩:=Fl S3 0;have du:=S3.o.rr.c4;have dv:=S3.o.rr.f 4;have eu:j≤1000:=(by rw[J.o];exact uJ (ZY s a) (uJ dm b));go_wp21;go_call Jd (Ae ((DB S3 74).o.pB (j+1))) b 91 91 as e w4 ⟨rfl,e4,a4,F,g⟩;clear S3 du dv;go_wp21;go_call Z1 g b as e w5 ⟨n5,e5,a5,rfl,A,br,S5⟩;obtain⟨_,_,_⟩:=Fl S5 11;clear g;go_wp21;go_call Jd (Kk S5 11) b 61 61 as e w6 ⟨rfl,ap,aq,H,i⟩;clear S5;go_wp21;go_call Z1 i b as e bn ⟨_,dw,dx,rfl,P,ab,p⟩;obtain⟨_,_,_⟩:=Fl p 8;clear i;go_wp21;go_call Jd (Kk p 8) b 93 93 as e ay ⟨rfl,bs,bu,bv,r⟩;clear p;go_wp21;go_meet;have D:xR (xX (B3 s (xV (bt s a))) a=(bs,bu)):=(by show _=_;rw[f.o];show xX (AY s) a=_;unfold AY;rw[RH L.o.2,Xp,show xX (tk s 91) (a+1)=_ from F.o,Ll,br.o,Ll,H.o,Ll,ab.o];exact bv.o);refine⟨bs,bu,(j+1),_,74,_,by rw[L.o.2];rfl,D.o,Xk f.o J.o D.o,r.o,fun N=>?_⟩;rw[f.o];subst N;exact fN _ F.o br.o H.o ab.o bv.o A.o P.o
  go_wp21;go_call Wr S3 b 85 85 as e w4 (⟨rfl,C,g⟩|⟨rfl,C,g⟩) <;> clear S3
  ·have f:=DC (k:=5) (.inr (.inr (.inr (.inl ⟨C.o.2,rfl⟩))));obtain⟨_,_,_⟩:=Fl g 0;go_wp21;go_meet;refine⟨0,a+1,j,_,85,_,by rw[C.o.2];rfl,?_,?_,(DB g 85).o,fun _=>?_⟩
   ·rw[f.o];exact Gk (show tk s 85 a=_ from Jb C.o.2)
   ·intro _;rw[J.o];simp[xU,C.o.2]
   rw[f.o];exact fF B s a _
  go_wp21;go_call Wr g b 68 68 as e w5 (⟨rfl,A,S5⟩|⟨rfl,A,S5⟩) <;> clear g
  ·have f:=DC (k:=6) (.inr (.inr (.inr (.inr (.inl ⟨A.o.2,rfl⟩)))));obtain⟨_,_,_⟩:=Fl S5 0;go_wp21;go_meet;refine⟨0,a+1,j,_,68,_,by rw[A.o.2];rfl,?_,?_,(DB S5 68).o,fun _=>?_⟩
   ·rw[f.o];exact Gk (show tk s 68 a=_ from Jb A.o.2)
   ·intro _;rw[J.o];simp[xU,A.o.2]
   rw[f.o];exact fG B s a _
  go_wp21;go_call Wr S5 b 71 71 as e w6 (⟨rfl,ac,i⟩|⟨rfl,ac,i⟩) <;> clear S5
  rotate_left
  ·rcases bk.o with k|k|k|k|k|k
   ·exact (T.o ⟨by simp,k⟩).elim
   ·exact (aa.o ⟨by simp,k⟩).elim
   ·exact (L.o ⟨by simp,k⟩).elim
   ·exact (C.o ⟨by simp,k⟩).elim
   ·exact (A.o ⟨by simp,k⟩).elim
   exact (ac.o ⟨by simp,k⟩).elim
  have f:=DC (k:=7) (.inr (.inr (.inr (.inr (.inr ⟨ac.o.2,rfl⟩)))));obtain⟨_,_,_⟩:=Fl i 0;go_wp21;go_call Jd (DB i 71) b 91 91 as e bn ⟨rfl,dw,dx,ab,p⟩;clear i;go_wp21;go_call Wr p b 93 93 as e ay (⟨rfl,M,r⟩|⟨rfl,M,r⟩) <;> clear p
  focus
   have O:=pW (B:=B) (wI:=w) M;go_wp21;refine (Jd r b 91 91).mono ?_
  rotate_left
  focus
   go_wp21;go_call mF r b as e bp ⟨_,_,_,_,rfl,az,a0,dy,a6,l⟩;have O:=lB M dy a6;obtain⟨_,_,_⟩:=Fl l 2;go_wp21;refine (Jd (Kk l 2) b 91 91).mono ?_
  all_goals
   rintro e dq ⟨rfl,a7,a8,Z,ar⟩;clear r;go_wp21;go_call Wr ar b 115 115 as e ev (⟨rfl,a9,ad⟩|⟨rfl,a9,ad⟩) <;> obtain⟨_,_,_⟩:=Fl ad 3 <;> clear ar
   focus
    go_wp21;go_call Z1 (Kk ad 3) b as e dz ⟨_,d0,d1,rfl,d2,ba,R⟩;have ae:=sO a9 d2 ba;obtain⟨_,_,_⟩:=Fl R 8;go_wp21;refine (Jd (Kk R 8) b 93 93).mono ?_
   rotate_left
   focus
    go_wp21;go_call Jd (Kk ad 3) b 110 110 as e dz ⟨rfl,d0,d1,ba,R⟩;have ae:=sP a9 ba;obtain⟨_,_,_⟩:=Fl R 3;go_wp21;refine (Jd (Kk R 3) b 93 93).mono ?_
   all_goals
    rintro e ew ⟨rfl,bw,bx,bz,b0⟩;clear ad R;go_wp21;go_meet;have D:xR (xX (B3 s (xV (bt s a))) a=(bw,bx)):=(by show _=_;rw[f.o];show xX (DI s) a=_;unfold DI;rw[RH ac.o.2,Xp,show xX (tk s 91) (a+1)=_ from ab.o,Ll,O.o.1,RI,Ll,Z.o,Ll,ae.o.1];exact bz.o);refine⟨bw,bx,j,_,71,_,by rw[ac.o.2];rfl,D.o,Xk f.o J.o D.o,b0.o,fun N=>?_⟩;rw[f.o];subst N;exact fM _ ab.o O.o.1 Z.o ae.o.1 bz.o O.o.2.1 (O.o.2.2.1 _ b0.o.ik) O.o.2.2.2.1 O.o.2.2.2.2 ae.o.2.1 ae.o.2.2
 obtain⟨e1,a1,bb,_,vb,_,b1,b2,b3,b4,b5⟩:=hcut.o;obtain⟨b6,af⟩:=pX bk.o b1;have b7:=Ae b5;have b8:=Ae b2;have E:=Ae b4.fA;clear b2 b4 hcut ao b5 b1;obtain⟨wH,d3⟩:∃x,x=wc:=⟨_,rfl⟩;subst d3;go_wp21;go_call eW B s a1 d e1 bb pv _ b (by omega) E.o.rr as e bm ⟨rfl,e2,a2,av,p2,b9⟩;have n:=Ae (E.o.next p2 b9);have K:=Ae av;have ca:xR (7≤d+1→e2≠0):=by
  intro y;obtain rfl:d=6:=by omega
  exact Ww av
 have cb:xR (e2=0→bb=xU s a2):=by intro y;subst y;have:=mN av;rw[this.2];exact b3 this.1
 clear av p2 b9 b3 E;go_wp21;go_call bl.o a2 e2 bb pv m xs S _ ca.o n.o.rr n.o.po (fun _=>n.o.pl trivial) (by omega) cb.o as e w3 ⟨n3,rfl,e3,a3,ag,ah,m3,xs3,cc,ai,cd,ce,_,cf,aj,cg⟩;obtain⟨d4,ch,ci⟩:=FV.pl cg;have S3:=Ae (n.o.query ai ce cf aj ch);have ck:=Ae ci;have G:=Ae cc;have ak:=Ae cd;clear ch ci cg cc ai cd ce cf aj n cb ca;obtain⟨_,_,_⟩:=Fl S3 9;have d5:=S3.o.pb.verb;rcases af with ⟨hi,n1,d6⟩|⟨hi,af⟩
 focus
  have bc:=fQ (xs3:=xs3) bf b6 hi b8 K G b7 ck;go_wp21;refine (Jd (Kk S3 9) b 41 41).mono ?_
 rotate_left
 focus
  rcases af with n1|⟨n1,d6⟩
  all_goals
   go_wp21;go_call Jd (Kk S3 9) b 44 44 as e w4 ⟨rfl,e4,a4,F,g⟩;have cl:xR (e4=0→ag=xU s a4):=(by intro y;subst y;have:=Ty (De (s:=s) (by omega) (by omega)) F.o;rw[this.2];exact ak.o this.1);have cm:xR (7≤d+1→e4≠0):=(by intro y d7;obtain rfl:d=6:=(by omega);subst d7;have d8:=(Ty (De (s:=s) (by omega) (by omega)) F.o).1;have aw:=G.o;rw[B7 (Ww K.o),d8] at aw;injection aw with aw _;exact Ww K.o aw);clear S3 ak d5;go_wp21;go_call bl.o a4 e4 ag ah m3 xs3 d4 _ cm.o g.o.rr g.o.po (fun y=>g.o.pl (by subst y;exact (Gn F.o).1)) (by omega) cl.o as e w5 ⟨n5,rfl,e3,a3,ag,ah,m3,xs3,cn,al,co,cp,_,bd,am,cq⟩;obtain⟨_,cr,ct⟩:=FV.pl cq;have S5:=Ae (g.o.query al cp bd am cr);have bc:=fR (xs5:=xs3) bf b6 hi b8 K G F cn b7 (fun y=>(g.o.pl y).2) ck ct;have ak:=Ae co;clear cr ct cq cn al co cp bd am g cl cm;obtain⟨_,_,_⟩:=Fl S5 10;go_wp21;refine (Jd (Kk S5 10) b 41 41).mono ?_
 all_goals
  rintro e w6 ⟨rfl,ap,aq,H,i⟩;have d9:xR (ap=0→ag=xU s aq):=by intro y;subst y;have:=Ty (De (s:=s) (by omega) (by omega)) H.o;rw[this.2];exact ak.o this.1
  have ea:xR (m3+1≤m+(1+2*an)):=by show _≤_;omega
  have c2:=i.o.rr.c2;have eb:=i.o.rr.f 2;clear ak;go_wp21;have u:=Ae (i.o.YE d);clear i c2 eb;generalize w6.setCell ⟨B,2,none⟩ (.int .i64 (d:Int))=W at *;obtain⟨p1,p2,ai,cu,al,cv,cw,cx,I,cy,cz,c0,z,c1⟩:=u.o.pb.cells;have ec:=Ae c0;clear c0;have c3:=Ae u.o.po;obtain⟨ed,ee,ef,eg,eh⟩:=info_parts LK;have ei:=u.o.rr.c5;have ej:=u.o.rr.f 5;have hB:=Aa u.o.rr.2;have r0:=Af z 0;have r1:=Af z 1;have r2:=Af z 2;have aj:=Af z 3;have c4:=Af z 4;have am:=Af z 5;have r6:=Af z 6;have c5:=Af z 7;have c6:=Af z 8;have c7:=Af z 9;have c8:=Af z 10;have c9:=Af z 11;simp at r0 r1 r2 aj c4 am r6 c5 c6 c7 c8 c9;have da:=Ae c1;clear c1 z;have db:∀o,(W.alloc o).frozen? ⟨B,5,none⟩=false:=fun o=>(World.frozen?_alloc_past _ _ _ hB).trans ej;have be:some B≠ah.ownBlock:=u.o.pL
  go_region_law
   ((refine step_append_lies _ (by rfl) _ _ _ (by rfl) (B+1) 204 ed _ 12 120 underlying198 ee ef eg eh rfl (by omega) ah m3 xs3 (by rfl) ((c3.o.alloc _).drew) ⟨W.heap.size,0,none⟩ 1 1 [.int .u8 vb,p1,p2,ai,cu,al,cv,cw,cx,I,cy,cz] (by rfl) (by rfl) (World.news_of_block (cs:=#[.int .u8 vb,p1,p2,ai,cu,al,cv,cw,cx,I,cy,cz]) (t:=204) (fr:=(0,0)) (heap_alloc_new W _)) da.o (by omega) (by unfold maxLen;omega) (by omega) (by simp;omega) (W.heap.size+1) (by simp) ?_;intro ex cap dc dd ax de ek;have ey:C3 dc B 5 ah:=(ax.cell_far _ (by simp;omega) be).trans ((World.cell?_alloc_past _ _ _ hB).trans ei);have bd:dc.frozen? ⟨B,5,none⟩=false:=(ax.frozen_far _ (by simp;omega) be).trans (db _)))
  all_goals
   obtain⟨df,dg,dh,di,dj⟩:=LL (pv:=pv) u.o.rr u.o.fr (u.o.hr.imp id fun el k af=>wW (el k af)) be ax dd de;have em:=Ae df;have en:=Ae dg;have eo:=Ae dh;have ep:=Ae di;have ik:=dj u.o.po.QO;have er:=Ae fun y=>(bc.o _ _ H.o).2 y _ _ (u.o.ik.trans ik) (fun c=>⟨(u.o.pl c).1.Cm ik,(u.o.pl c).2⟩) ec.o;clear df dg dh di dj ik dd ax de ek r0 r1 r2 aj c4 am r6 c5 c6 c7 c8 c9 db da c3 u;go_wp2;go_ret;exact⟨_,rfl,ap,aq,ag,_,m3+1,_,(bc.o _ _ H.o).1,em.o,d9.o,en.o,ea.o,eo.o,ep.o,er.o⟩
variable {Z:Nat→Prop}
theorem Z3 (B:Nat)(s:ByteArray)(d K:Nat)(X:Nat×Nat)(i:s.size≤1000)(_:1≤K)(a e j:Nat)(pv:Value)(m:Nat)(xs:List Value)(S:List Q)(w:World)(h:RR B s a d e j pv w)(ho:PO B pv m xs w)(k:e=0→PL B w xs S∧m=S.length)(_:m+K≤1000)(l:e=0→j=xU s a)
 (o:∀c,c=83∨c=80∨c=74∨c=85∨c=68∨c=71→sn s e c c a=false) (p:xW (e,a) (xX (Bj s))=X) :
 Calls prog 130 #[C1 B] w (QR B s d pv m K w S a X (fun f a' b=>f=0→b=xU s a')):=by
 go_call QP B s a d e j pv m w xs S i h ho k (by omega) o as C w' ⟨n,q,f,a',b,r,t,u,g,hr,v,x,_,hf,y,z⟩;refine⟨n,q,f,a',b,r,t,u,p.symm.trans g,hr,fun A=>?_,x,by omega,hf,y,z⟩;subst A;have:=Ty (Nn s) g;have e2:b=j:=v;rw[e2,l this.1,this.2]
theorem fT {s:ByteArray}{e c a:Nat}(h:e≠0):sn s e c c a=false:=by unfold sn;simp[h]
theorem YJ (B:Nat)(s:ByteArray)(q:Nat→Nat×Nat)(d:s.size≤1000):Rl B s 7 1 q:=by
 intro a e j pv m xs S w f h ho g i k;have b:=f (tY _);exact Z3 B s 7 1 _ d (tY _) a e j pv m xs S w h ho g i k (fun c _=>fT b) (by rw[B7 b,B7 b])
theorem Ig (B:Nat)(s:ByteArray)(d f:Nat)(q:Nat→Nat×Nat)(g:s.size≤1000)(o:d≤6)(p:Rl B s (d+1) f q):Rl B s d (1+2*f) (Nt s d q):=by
 intro a e j pv m xs S w r h ho i k l;by_cases b:e=0
 ·subst b;rw[Bf];by_cases n:bt s a=83∨bt s a=80∨bt s a=74∨bt s a=85∨bt s a=68∨bt s a=71
  ·exact fS B s a d j f q pv m xs S w g o p h ho (i rfl) k (l rfl) n
  refine Z3 B s d _ _ g (by omega) a 0 j pv m xs S w h ho i k l (fun c n=>?_) ?_
  ·unfold sn;simp;omega
  rw[Bf];refine (iF ?_ d q).symm;unfold xV;rw[if_neg (by omega),if_neg (by omega),if_neg (by omega),if_neg (by omega),if_neg (by omega),if_neg (by omega)];split
  ·exact .inr rfl
  exact .inl rfl
 exact Z3 B s d _ _ g (by omega) a e j pv m xs S w h ho i k l (fun c _=>fT b) (by rw[B7 b,B7 b])
theorem YK (B:Nat)(s:ByteArray)(a:s.size≤1000):Rl B s 0 255 (xY s 6):=by
 have b:Rl B s 6 3 (xY s 0):=by have:=Ig B s 6 1 (xY s 0) a (by omega) (YJ B s _ a);rw[UK] at this;exact this
 have c:Rl B s 5 7 (xY s 1):=by have:=Ig B s 5 3 (xY s 0) a (by omega) b;rw[Jf s 5 0 (by omega)] at this;exact this
 have d:Rl B s 4 15 (xY s 2):=by have:=Ig B s 4 7 (xY s 1) a (by omega) c;rw[Jf s 4 1 (by omega)] at this;exact this
 have e:Rl B s 3 31 (xY s 3):=by have:=Ig B s 3 15 (xY s 2) a (by omega) d;rw[Jf s 3 2 (by omega)] at this;exact this
 have f:Rl B s 2 63 (xY s 4):=by have:=Ig B s 2 31 (xY s 3) a (by omega) e;rw[Jf s 2 3 (by omega)] at this;exact this
 have g:Rl B s 1 127 (xY s 5):=by have:=Ig B s 1 63 (xY s 4) a (by omega) f;rw[Jf s 1 4 (by omega)] at this;exact this
 have:=Ig B s 0 127 (xY s 5) a (by omega) g;rw[Jf s 0 5 (by omega)] at this;exact this
def FY (s:ByteArray)(w:World)(v:Value)(w':World):Prop:=∃q,Rq s 6 0 s.size q∧(Ea q).length≤1000∧∀Z,Gq Z w→Hn Z w' v (Ea q)
theorem YL {B:Nat}{pv:Value}{m:Nat}{xs:List Value}{S:List Q}{w w':World}(ho:PO B pv m xs w')(r:PL B w' xs S)(s:m=S.length)(hB:w.heap.size≤B)(t:Gq Z w):Hn Z w' pv S:=by
 subst s;have o:∀k,B+1≤k→¬Z k:=fun k C=>t.no (by omega);have u:∀(cv:Value) (cs:List Nat),w'.ownsRow (B+1) 3 1 cv cs.length (Gp cs)→Ik Z w' cv cs:=by
  intro cv cs h;rcases h with ⟨_,⟨rfl,d⟩|⟨g,cap,v,rfl,e,hg,f,l,y,n⟩⟩
  ·have:cs=[]:=uM d;subst this;exact⟨none,0,rfl,by simp,⟨by simp,Re _ _⟩,fun i c b=>by simp at b⟩
  refine⟨some ⟨g,0,none⟩,cap,rfl,f,⟨l,Rf (o g e)⟩,fun i c b=>⟨g,0,rfl,Aa hg,?_⟩⟩;have a:(Gp cs)[i]? =some (.int .i64 (c:Int)):=by unfold Gp;rw[tX,b];rfl
  rw[←n,uQ] at a;split at a
  ·rw[Af hg,uL,←uZ];exact a
  cases a
 rcases ho with ⟨_,⟨rfl,d⟩|⟨g,cap,v,rfl,e,hg,f,l,y,n⟩⟩
 ·have:S=[]:=uM d;subst this;exact⟨none,0,rfl,by simp,⟨by simp,Re _ _⟩,fun i c b=>by simp at b⟩
 refine⟨some ⟨g,0,none⟩,cap,rfl,f,⟨l,Rf (o g e)⟩,fun i q z=>?_⟩;obtain⟨p,cv,e1,e2,e3,e4⟩:=r.2 i q z;refine⟨g,0,p,cv,rfl,Aa hg,fun j x A=>?_,u cv p.cols e2,e3,e4⟩;have a:=e1 j x A;rw[←n,uQ] at a;split at a
 ·rw[Af hg,uL,←uZ];exact a
 cases a
def tC (s:ByteArray)(w:World)(x y:Nat)(en:Ending)(w':World):Prop:=∃ad n c,en=.returned (.tuple #[.slice ad n c,.int .i64 (x:Int),.int .i64 (y:Int)])∧(x=0→FY s w (.slice ad n c) w')
theorem rN {s:ByteArray}{w w':World}{x y:Nat}{a:Option Addr}{n c:Nat}{p q:Int}(h:p=(x:Int))(k:q=(y:Int))(hp:x=0→FY s w (.slice a n c) w'):tC s w x y (.returned (.tuple #[.slice a n c,.int .i64 p,.int .i64 q])) w':=⟨a,n,c,by rw[h,k],hp⟩
theorem DD (s:ByteArray)(w:World) :
 Calls prog 90 #[.string s] w fun j w'=>tC s w (M2 s).1 (M2 s).2 j w'∧Below w.heap.size w w':=by
 by_cases X:s.size≤120
 ·have H:¬(120:Int)<(s.size:Int):=by omega
  have I:xR (RR w.heap.size s 0 0 0 0 (.slice none 0 0) (w.alloc (.cells #[.string s,.int .i64 0,.int .i64 0,.int .i64 0,.int .i64 0,.slice none 0 0] 258))):=⟨by omega,heap_alloc_new w _⟩;have J:xR (PO w.heap.size (.slice none 0 0) 0 [] (w.alloc (.cells #[.string s,.int .i64 0,.int .i64 0,.int .i64 0,.int .i64 0,.slice none 0 0] 258))):=World.ownsRow_nil _ _ _ _;have K:=Ae ((Below.refl w.heap.size w).alloc (tY _) (.cells #[.string s,.int .i64 0,.int .i64 0,.int .i64 0,.int .i64 0,.slice none 0 0] 258));go_enter func90,ntmps90;go_wp21;go_call YK w.heap.size s (by omega) 0 0 0 (.slice none 0 0) 0 [] [] _ (by omega) I.o J.o (fun _=>⟨⟨rfl,fun i q h=>by simp at h⟩,rfl⟩) (by omega) (fun _=>rfl) as j w1 ⟨n1,rfl,e1,a1,d,p,r,_,t,p1,u,k,L,v,_,x⟩;have M:=Ae x;have y:=Ae k;have N:xR (r≤1000):=by show _≤_;omega
  clear x L;have c:xR (Below w.heap.size w w1):=K.o.trans (v.below (tY _) (by simp) (by simp[Value.ownBlock]));have Y:=p1.1;have c1:=p1.c1;have l:=p1.c3;have O:=p1.c4;have z:=p1.c5;obtain⟨P,Q,A⟩:=k.form;rw[A] at z y;have m:=Ae p1;have R:=Ae u;have n:xR (xY s 6 0=(e1,a1)):=t;clear p1 u t v k A;by_cases e:e1=0
  ·subst e;have o:xR (d=xU s a1):=R.o rfl;by_cases B:a1<s.size
   ·have a:xR (M2 s=(2,a1)):=(by show _=_;have e2:Em s=(2,a1):=(by unfold Em Sa;rw[n.o,Bf,if_pos B]);unfold M2;rw[if_neg (by omega),e2];rfl);have aa:(a1:Int)<(s.size:Int):=(by omega);clear c1 l O z;have c1:=m.o.c1;have l:=m.o.c3;go_wp21;go_call Vw w.heap.size s a1 0 0 d 2 2 p _ rfl m.o as j C ⟨rfl,p2,D⟩;have f:xR (Below w.heap.size w C):=c.o.trans (D.below (tY _) c.o.size (by simp));have p2:RR w.heap.size s a1 0 2 d p C:=p2;have ab:=p2.c1;have ac:=p2.c3;clear p2 D c1 l;go_wp21;go_quiet (fail);go_wp21;go_ret3;exact⟨rN (by rw[a.o];rfl) (by rw[a.o]) (fun b=>by rw[a.o] at b;cases b),⟨f.o.os,f.o.tape,f.o.output,f.o.size,f.o.block⟩⟩
   have g:a1=s.size:=(by omega);have E:xR (Em s=(0,a1)):=(by show _=_;unfold Em Sa;rw[n.o,Bf,if_neg B]);have ad:d≤120:=(by rw[o.o];exact uJ (ZY s a1) (by omega));by_cases F:2<d
   ·have a:xR (M2 s=(4,0)):=(by show _=_;unfold M2;rw[if_neg (by omega),E.o,if_pos rfl,if_pos (by rw[←g,←o.o];exact F)]);have S:(2:Int)<(d:Int):=(by omega);clear g;go_wp21;go_ret3;exact⟨rN (by rw[a.o];rfl) (by rw[a.o];rfl) (fun b=>by rw[a.o] at b;cases b),c.o⟩
   have a:xR (M2 s=(0,0)):=(by show _=_;unfold M2;rw[if_neg (by omega),E.o,if_pos rfl,if_neg (by rw[←g,←o.o];exact F)]);have S:¬(2:Int)<(d:Int):=(by omega);have T:xR (FY s w (.slice P r Q) w1):=(by obtain⟨q,r1,G,_,U⟩:=M.o rfl;rw[g] at r1;exact⟨q,r1,by have:=N.o;rw[G] at this;exact this,fun Z V=>YL y.o U G (tY _) V⟩);clear g;go_wp21;go_ret3;exact⟨rN (by rw[a.o];rfl) (by rw[a.o];rfl) (fun _=>T.o),c.o⟩
  have ae:((e1:Int) == 0)=false:=by simp;omega
  have af:((e1:Int) != 0)=true:=by simp;omega
  have a:xR (M2 s=(e1,a1)):=by show _=_;have e2:Em s=(e1,a1):=(by unfold Em Sa;rw[n.o,B7 e]);unfold M2;rw[if_neg (by omega),e2,if_neg e]
  have W:=Ae e;clear e;go_wp21;go_quiet (fail);go_wp21;go_ret3;exact⟨rN (by rw[a.o]) (by rw[a.o]) (fun b=>by rw[a.o] at b;exact absurd b W.o),⟨c.o.os,c.o.tape,c.o.output,c.o.size,c.o.block⟩⟩
 have H:(120:Int)<(s.size:Int):=by omega
 have a:xR (M2 s=(1,0)):=by show _=_;unfold M2;rw[if_pos (by omega)]
 go_enter func90,ntmps90;go_wp21;go_ret3;exact⟨rN (by rw[a.o];rfl) (by rw[a.o];rfl) (fun b=>by rw[a.o] at b;cases b),Below.refl _ _⟩
end Go.Proofs.YtdinjjmcmfjbfaaGreatDoor
