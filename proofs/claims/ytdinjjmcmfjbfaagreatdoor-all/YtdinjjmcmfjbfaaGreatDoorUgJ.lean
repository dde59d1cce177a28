import Derived.Test.YtdinjjmcmfjbfaaGreatDoorCxJ
import Derived.Sort.Walk0
import Derived.Maps.AppendAt
import Derived.WalkMore
set_option maxRecDepth 100000
set_option maxHeartbeats 4000000
namespace Go.Proofs.YtdinjjmcmfjbfaaGreatDoor
open Go.RowKit Mo Pl Tryz
section
variable {Z:Nat→Prop}
def Ir:V→List Value
 | .num n=>[.bool true,.int .i64 n,.string ByteArray.empty]
 | .txt s=>[.bool false,.int .i64 0,.string ⟨s.toArray⟩]
theorem Uy (v:V):(Ir v).length=3:=by cases v <;> rfl
def uN:V→Int
 | .num n=>n
 | .txt _=>0
def uS:V→List UInt8
 | .num _=>[]
 | .txt s=>s
def uB:V→Bool
 | .num _=>true
 | .txt _=>false
theorem Uz (v:V):Ir v=[.bool (uB v),.int .i64 (uN v),.string ⟨(uS v).toArray⟩]:=by cases v <;> rfl
def kQ (Z:Nat→Prop)(a:Option Addr)(n cap:Nat):Prop:=(a=none→cap=0)∧(0<n→∀b o,a=some ⟨b,o,none⟩→¬Z b)
theorem Re (Z:Nat→Prop)(n:Nat):kQ Z none n 0:=⟨fun _=>rfl,fun _ _ _ e=>by cases e⟩
theorem Rf {Z:Nat→Prop}{b o n cap:Nat}(h:¬Z b):kQ Z (some ⟨b,o,none⟩) n cap:=⟨(fun e=>by cases e),fun _ _ _ e=>by injection e with e;injection e with e _;rw[←e];exact h⟩
def Gq (Z:Nat→Prop)(w:World):Prop:=∀k,Z k→k<w.heap.size
theorem Gq.no {Z:Nat→Prop}{w:World}(h:Gq Z w){k:Nat}(_:w.heap.size≤k):¬Z k:=fun a=>by have:=h k a;omega
theorem Gq.up {Z:Nat→Prop}{w w':World}(h:Gq Z w)(a:w.heap.size≤w'.heap.size):Gq Z w':=fun k b=>tU (h k b) a
def Ee (Z:Nat→Prop)(w:World)(v:Value)(r:Row):Prop:=∃a cap,v=.slice a r.length cap∧r.length≤cap∧(cap≤maxLen∧kQ Z a r.length cap) ∧
 (r≠[]→∃b o c z,a=some ⟨b,o,none⟩∧w.heap[b]? =some (.cells c 202 z)∧∀i v,r[i]? =some v→∀j x,(Ir v)[j]? =some x→c[o+i*3+j]? =some x)
theorem Ee.kept {S:Nat→Prop}{w w':World}{v:Value}{r:Row}(h:Ee Z w v r)(k:Ab S w w')(g:∀i,S i→¬Is 202 w i):Ee Z w' v r:=by
 obtain⟨a,cap,e,j,l,m⟩:=h;refine⟨a,cap,e,j,l,fun hr=>?_⟩;obtain⟨b,o,c,f,e1,d,n⟩:=m hr;exact⟨b,o,c,f,e1,(k.block b (Aa d) (fun p=>g b p ⟨c,f,d⟩)).trans d,n⟩
theorem Ee.Ag {w w':World}{v:Value}{r:Row}(h:Ee Z w v r)(k:Ab No w w'):Ee Z w' v r:=h.kept k (fun _ e=>e.elim)
theorem Ee.cells {w:World}{a:Option Addr}{n cap:Nat}{r:Row}(h:Ee Z w (.slice a n cap) r){i:Nat}{v:V}(hi:r[i]? =some v) :
 ∃b o,a=some ⟨b,o,none⟩∧b<w.heap.size∧C3 w b (o+i*3) (.bool (uB v))∧C3 w b (o+i*3+1) (.int .i64 (uN v))∧w.cell? ⟨b,o+i*3+2,none⟩=some (.string ⟨(uS v).toArray⟩):=by
 obtain⟨a',_,e,_,_,g⟩:=h;injection e with e1 e2 e3;subst e1;obtain⟨b,o,c,_,e1,d,j⟩:=g (by rintro rfl;cases hi);have f:=j i v hi;rw[Uz] at f;exact⟨b,o,e1,Aa d,(Af d _).trans (f 0 _ rfl),(Af d _).trans (f 1 _ rfl),(Af d _).trans (f 2 _ rfl)⟩
theorem Sp:∀(x y:List UInt8),Op.bytesLess x y=Ef AG x y
 | [],[]=>rfl
 |_::_,[]=>rfl
 | [],_::_=>rfl
 |a::x,b::y=>by
  rw[bytesLess_eq];rw[←bytesLess_eq,Op.bytesLess,Sp x y];simp only[Ef,AG];by_cases h:a=b
  ·subst h;simp
  rw[if_neg h];simp[h,UInt8.lt_iff_toNat_lt]
theorem eA {a b:Row}(j:a.map ty=b.map ty){i:Nat}{x y:V}(d:a[i]? =some x)(f:b[i]? =some y) :
 (uN x≠uN y→Ju (a.drop i) (b.drop i)=decide (uN x<uN y))∧(uN x=uN y→uS x≠uS y→Ju (a.drop i) (b.drop i)=Ef AG (uS x) (uS y))∧(uN x=uN y→uS x=uS y→Ju (a.drop i) (b.drop i)=Ju (a.drop (i+1)) (b.drop (i+1))):=by
 have g:ty x=ty y:=by
  have c:(a.map ty)[i]? =some (ty x):=by rw[tX,d];rfl
  have k:(b.map ty)[i]? =some (ty y):=by rw[tX,f];rfl
  rw[j,k] at c;injection c with c;exact c.symm
 have l:a.drop i=x::a.drop (i+1):=by rw[vF (tR.1 d).1,(tR.1 d).2]
 have o:b.drop i=y::b.drop (i+1):=by rw[vF (tR.1 f).1,(tR.1 f).2]
 rw[l,o];unfold Ju;simp only[Ef];cases x with
 |num n =>
  cases y with
  |num m =>
   simp only[uN,uS];refine⟨fun h=>?_,fun _ h=>absurd rfl h,fun h _=>?_⟩
   ·rw[if_neg (by intro e;injection e with e;exact h e)];rfl
   rw[h,if_pos rfl]
  |txt t=>cases g
 |txt s =>
  cases y with
  |num m=>cases g
  |txt t =>
   simp only[uN,uS];refine⟨fun h=>absurd rfl h,fun _ h=>?_,fun _ h=>?_⟩
   ·rw[if_neg (by intro e;injection e with e;exact h e)];rfl
   rw[h,if_pos rfl]
theorem Kg (av bv:Value)(a b:Row)(w:World)(z:Ee Z w av a)(A:Ee Z w bv b)(p:a.map ty=b.map ty)(I:a.length≤1000) :
 Calls prog 142 #[av,bv] w fun e w'=>e=.returned (.bool (Ju a b))∧Ab No w w':=by
 have B:=Ae z;have q:=Ae A;have J:=Ae p;have r:b.length=a.length:=by have:=congrArg List.length p;simpa using this.symm
 have C:=Ae r;obtain⟨_,K,rfl,L,D,-⟩:=z;obtain⟨_,M,rfl,E,F,-⟩:=A;obtain⟨n,s⟩:∃n,a.length=n:=⟨_,rfl⟩;have t:=Ae s;rw[r] at q E⊢;rw[s] at B q L E I⊢;clear s r p;have X:=Bn D.1
 have Y:=Bn F.1
 clear D F;go_enter func142,ntmps142;go_wp21;go_loopg [5] n (fun k N wr=>∃i:Nat,i+k=n∧N=.int .i64 (i:Int)∧xR (Ju (a.drop i) (b.drop i)=Ju a b)∧Ab No w wr)
 case atStart=>exact⟨0,by omega,rfl,Ae rfl,Ab.refl _ _⟩
 obtain⟨i,_,rfl,j,d⟩:=hrel;by_cases O:gk=0
 ·subst O;have P:¬(i:Int)<(n:Int):=by omega
  have g:xR (Ju a b=false):=by show _=_;rw[←j.o,show i=a.length by rw[t.o];omega,List.drop_length,←C.o,List.drop_length];rfl
  have h:=Ae d;clear d;go_wp21;go_ret;exact⟨A5 (by rw[g.o]),h.o⟩
 obtain⟨k,rfl⟩:=Bx O;have P:(i:Int)<(n:Int):=by omega
 have aa:=Bm i
 obtain⟨x,u⟩:∃x,a[i]? =some x:=⟨_,tT (by have:=t.o;omega)⟩;obtain⟨y,v⟩:∃y,b[i]? =some y:=⟨_,tT (by have:=t.o;have:=C.o;omega)⟩;obtain⟨l,m,o⟩:=eA J.o u v;have G:=B.o.Ag d;have H:=q.o.Ag d;obtain⟨_,_,rfl,_,Q,_,R⟩:=G.cells u;obtain⟨_,_,rfl,_,S,_,T⟩:=H.cells v;have h:=Ae d;clear d G H u v Q S;by_cases c:uN x=uN y
 ·have U:(uN x != uN y)=false:=by simp[c]
  by_cases f:uS x=uS y
  ·have V:(uS x == uS y)=true:=(by simp[f]);have W:xR (Ju (a.drop (i+1)) (b.drop (i+1))=Ju a b):=(by show _=_;rw[←j.o];exact (o c f).symm);clear l m o c f;go_wp21;go_quiet (fail);go_wp21;go_quiet (fail);go_wp21;go_roundg k
   case measure=>omega
   exact⟨i+1,by omega,by go_num,W,h.o.drewN _⟩
  have V:(uS x == uS y)=false:=by simpa using f
  have g:xR (Ju a b=Ef AG (uS x) (uS y)):=by show _=_;rw[←j.o];exact m c f
  clear l m o c f;go_wp21;go_quiet (fail);go_wp21;go_quiet (fail);go_wp21;go_quiet (fail);go_wp21;go_ret;exact⟨A5 (by rw[g.o];simp[Sp]),((h.o.drewN _).drewN _).drewN _⟩
 have U:(uN x != uN y)=true:=by simp[c]
 have g:xR (Ju a b=decide (uN x<uN y)):=by show _=_;rw[←j.o];exact l c
 clear l m o c R T;go_wp21;go_quiet (fail);go_wp21;go_quiet (fail);go_wp21;go_ret;exact⟨A5 g.o.symm,(h.o.drewN _).drewN _⟩
end
section
theorem A4 {S:Nat→Prop}{w w':World}{base:Nat}{e:TypeId}{size:Nat}{v:Value}{n:Nat}{xs:List Value}(h:w.ownsRow base e size v n xs)(k:Ab S w w')(a:∀b,v.ownBlock=some b→¬S b):w'.ownsRow base e size v n xs:=by
 refine⟨h.1,?_⟩;rcases h.2 with hn|⟨g,cap,c,rfl,d,hg,f⟩
 ·exact .inl hn
 exact .inr ⟨g,cap,c,rfl,d,(k.block g (Aa hg) (a g rfl)).trans hg,f⟩
theorem Bl {w:World}{base:Nat}{e:TypeId}{size n:Nat}{v:Value}{xs:List Value}(h:w.ownsRow base e size v n xs):∀r,v.ownBlock=some r→base≤r:=by
 rcases h.2 with ⟨rfl,_⟩|⟨g,cap,cur,rfl,hb,_⟩
 ·intro r hr;simp[Value.ownBlock] at hr
 intro r hr;simp[Value.ownBlock] at hr;omega
theorem El {a b:ByteArray}(h:a=b):Ending.returned (.string a)=.returned (.string b):=by rw[h]
theorem Gh (a b:List UInt8):(⟨a.toArray⟩:ByteArray)++⟨b.toArray⟩=⟨(a++b).toArray⟩:=by
 apply ByteArray.ext;rw[ByteArray.data_append];simp
variable {Z:Nat→Prop}
def H8 (e:Row×Int):Bag:=if e.2=0 then [] else [e]
def F6 (r:Row)(t:Int):Bag→Bool→Bag
 | [],true=>[]
 | [],false=>[(r,t)]
 |e::l,true=>H8 e++F6 r t l true
 |e::l,false=>if Ju r e.1 then (r,t)::(H8 e++F6 r t l true)
   else if Ju e.1 r then H8 e++F6 r t l false
   else H8 (e.1,e.2+t)++F6 r t l true
theorem CR (r:Row)(t:Int){l:Bag}(h:Ck l):F6 r t l true=l:=by
 induction l with
 |nil=>rfl
 |cons e l a=>simp only[F6,H8];rw[if_neg h.2.1,a h.2.2];rfl
theorem eB (r:Row)(t:Int){l:Bag}(h:Ck l):F6 r t l (decide (t=0))=C5 r t l:=by
 by_cases a:t=0
 ·subst a;rw[show decide ((0:Int)=0)=true from rfl,CR r 0 h];induction l with
  |nil=>rfl
  |cons e l b =>simp only[C5,if_pos,Int.add_zero];rw[if_neg h.2.1,←b h.2.2];simp
 rw[show decide (t=0)=false by simp[a]];induction l with
 |nil=>simp[F6,C5,a]
 |cons e l b =>
  simp only[F6,C5,H8,if_neg a,if_neg h.2.1];rw[CR r t h.2.2];split
  ·rfl
  split
  ·rw[b h.2.2];rfl
  split <;> rfl
def Ct (Z:Nat→Prop)(w:World)(v:Value)(l:Bag):Prop:=∃a cap,v=.slice a l.length cap∧l.length≤cap∧(cap≤maxLen∧kQ Z a l.length cap) ∧
 ∀i e,l[i]? =some e→∃b o p n c,a=some ⟨b,o,none⟩∧b<w.heap.size∧w.cell? ⟨b,o+i*2,none⟩=some (.slice p n c)∧w.cell? ⟨b,o+i*2+1,none⟩=some (.int .i64 e.2)∧Ee Z w (.slice p n c) e.1
theorem Ct.Ag {w w':World}{v:Value}{l:Bag}(h:Ct Z w v l)(k:Ab No w w'):Ct Z w' v l:=by
 obtain⟨a,cap,e,f,g,j⟩:=h;refine⟨a,cap,e,f,g,fun i x m=>?_⟩;obtain⟨b,o,p,n,c,e1,d,q,c1,hr⟩:=j i x m;exact⟨b,o,p,n,c,e1,tU d k.size,(k.cell d xT).trans q,(k.cell d xT).trans c1,hr.Ag k⟩
def KW (x:Value×(Row×Int)):List Value:=[x.1,.int .i64 x.2.2]
abbrev Mm (w:World)(base:Nat)(v:Value)(xs:List (Value×(Row×Int))):Prop:=w.ownsRow base 217 2 v xs.length (xs.flatMap KW)
def Wh (Z:Nat→Prop)(w:World)(xs:List (Value×(Row×Int))):Prop:=∀x∈xs,(∃p n c,x.1=.slice p n c)∧Ee Z w x.1 x.2.1
theorem Wh.Ag {w w':World}{xs:List (Value×(Row×Int))}(h:Wh Z w xs)(k:Ab No w w'):Wh Z w' xs:=fun x a=>⟨(h x a).1,(h x a).2.Ag k⟩
theorem Wh.push {w:World}{xs:List (Value×(Row×Int))}(h:Wh Z w xs){p:Option Addr}{n c:Nat}{r:Row}(hr:Ee Z w (.slice p n c) r)(t:Int):Wh Z w (xs++[(.slice p n c,(r,t))]):=fun x a=>by
 rcases tW.1 a with a|a
 ·exact h x a
 simp at a;subst a;exact⟨⟨_,_,_,rfl⟩,hr⟩
theorem TF:∀(xs:List (Value×(Row×Int))) (i:Nat) (x:Value×(Row×Int)),xs[i]? =some x→∀j y,(KW x)[j]? =some y→(xs.flatMap KW)[i*2+j]? =some y
 | [],i,x,h,_,_,_=>by simp at h
 |z::xs,0,x,h,j,y,a=>by
  have:z=x:=by simpa using h
  subst this;rw[uX,xL,uL,uD (tR.1 a).1];exact a
 |z::xs,i+1,x,h,j,y,a=>by have b:=TF xs i x (by simpa using h) j y a;have e:(KW z).length=2:=rfl;rw[uX,uC (by rw[e];omega),e,show (i+1)*2+j-2=i*2+j by omega];exact b
theorem Mm.read {w:World}{base:Nat}{v:Value}{xs:List (Value×(Row×Int))}(h:Mm w base v xs)(d:∀k,Z k→k<base)(hr:Wh Z w xs):Ct Z w v (xs.map (·.2)):=by
 obtain⟨_,⟨rfl,f⟩|⟨g,cap,_,rfl,_,hg,l,m,_,o⟩⟩:=h
 ·have:xs=[]:=uM f;subst this;exact⟨none,0,rfl,by simp,⟨by simp,Re _ _⟩,fun i x a=>by simp at a⟩
 refine⟨some ⟨g,0,none⟩,cap,by simp,by simpa using l,⟨m,Rf fun q=>by have:=d g q;omega⟩,fun i e b=>?_⟩;rw[tX] at b;obtain⟨x,a,rfl⟩:=uK.1 b;have key:∀j y,(KW x)[j]? =some y→w.cell? ⟨g,i*2+j,none⟩=some y:=fun j y r=>by
  have:=TF xs i x a j y r;rw[←o,uQ] at this;split at this
  ·rw[Af hg,←uZ];exact this
  cases this
 obtain⟨⟨p,n,c,e1⟩,s⟩:=hr x (tV a);refine⟨g,0,p,n,c,rfl,Aa hg,?_,?_,e1 ▸ s⟩
 ·rw[uL,←e1];exact key 0 _ rfl
 rw[uL];exact key 1 _ rfl
theorem Mm.put {w':World}{base:Nat}{v':Value}{xs:List (Value×(Row×Int))}{a:Value}{r:Row}{t:Int}(h:w'.ownsRow base 217 2 v' (xs.length+1) (xs.flatMap KW++[a,.int .i64 t])):Mm w' base v' (xs++[(a,(r,t))]):=by
 have e1:(xs++[(a,(r,t))]).flatMap KW=xs.flatMap KW++[a,.int .i64 t]:=by rw[vR];rfl
 unfold Mm;rw[e1,tS];exact h
theorem K0 (W:World)(a v:Value)(t:TypeId):∀j x,[a,v][j]? =some x→(W.alloc (.cells #[a,v] t)).cell? ((⟨W.heap.size,0,none⟩:Addr).add j)=some x:=by
 intro j x b;have c:(⟨W.heap.size,0,none⟩:Addr).add j=⟨W.heap.size,j,none⟩:=by unfold Addr.add;split <;> simp_all
 rw[c,Af (MapKept.heap_alloc W _).1];simpa using b
theorem Jz (W:World)(o:Obj)(a v:Value)(t:TypeId):∀j x,[a,v][j]? =some x→((W.alloc o).alloc (.cells #[a,v] t)).cell? ((⟨W.heap.size+1,0,none⟩:Addr).add j)=some x:=by
 have h:=K0 (W.alloc o) a v t;rw[show (W.alloc o).heap.size=W.heap.size+1 by simp] at h;exact h
theorem eC {k m:Nat}(h:k=m)(_:m≤10000000000):k+1≤maxLen:=by subst h;unfold maxLen;omega
theorem KX {k m:Nat}(h:k=m)(_:m≤10000000000):(k+1)*32≤140737488355328:=by subst h;omega
theorem oV:(prog.info? 217).map (fun i=>(i.zero,i.size,i.bytes))=some (some (.agg #[.slice none 0 0,.int .i64 0]),2,32):=by kernel_rfl
def L5 (Z:Nat→Prop)(w:World)(l:Bag)(rv:Value)(w':World):Prop:=Ct Z w' rv l∧Ab No w w'
theorem Pi (lv a3:Value)(l:Bag)(r:Row)(t:Int)(ts:List Bool)(w:World)(a4:Ct Z w lv l)(hr:Ee Z w a3 r)(ai:r.map ty=ts)(a5:∀e∈l,e.1.map ty=ts)(a6:ts.length≤1000)(br:l.length≤1000000000)
 (_: -1000000000000000000≤t∧t≤1000000000000000000) (a7:∀e∈l,-1000000000000000000≤e.2∧e.2≤1000000000000000000) (a8:Ck l) (a9:Gq Z w) :
 Calls prog 96 #[lv,a3,.int .i64 t] w fun e w'=>∃v,e=.returned v∧L5 Z w (C5 r t l) v w':=by
 have ba:=Ae a4;have bb:=Ae a9;have R:=Ae hr;have bs:=Ae a5;have bt:=Ae a7;have aj:=Ae ai;have bu:r.length≤1000:=by rw[←ai,tZ] at a6;exact a6
 have bv:=Ae (eB r t a8);obtain⟨_,bw,rfl,bx,bc,-⟩:=a4;obtain⟨s,u,rfl,bz,b0,-⟩:=hr;obtain⟨n,ak⟩:∃n,l.length=n:=⟨_,rfl⟩;have bd:=Ae ak;obtain⟨y,be⟩:∃n,r.length=n:=⟨_,rfl⟩;rw[ak] at ba bx br⊢;rw[be] at R bz bu⊢;obtain⟨G,H,I,J,K⟩:=info_parts oV;clear ak be ai a5 a7 a8 a9;have ce:=Bn bc.1
 clear bc b0;go_enter func96,ntmps96;go_wp21;go_loopg [7,8,9] n (fun k b1 b2 b3 wr=>∃(i:Nat) (xs:List (Value×(Row×Int))) (done:Bool),i+k=n∧b2=.bool done∧b3=.int .i64 (i:Int)∧xs.length≤2*i∧xR (Mm wr w.heap.size b1 xs)∧xR (Wh Z w xs)∧xR (xs.map (·.2)++F6 r t (l.drop i) done=C5 r t l)∧Ab No w wr)
 case atStart=>exact⟨0,[],decide (t=0),by omega,rfl,rfl,by simp,World.ownsRow_nil _ _ _ _,Ae (fun x h=>by cases h),bv,Ab.refl _ _⟩
 obtain⟨i,xs,done,_,rfl,rfl,_,hO,B,A,S⟩:=hrel;by_cases b4:gk=0
 ·subst b4;have h:¬(i:Int)<(n:Int):=by omega
  have al:=A.o;rw[show i=l.length by rw[bd.o];omega,List.drop_length] at al;have am:=Ae al;have C:=Ae S;clear S al A;cases done
  ·have an:=hO.o;have b5:=K0 wr (.slice s y u) (.int .i64 t) 217;have b6:xs.length+1≤maxLen:=(by unfold maxLen;omega);have z:(xs.length+1)*32≤140737488355328:=(by omega);have b7:=C.o.size;go_wp2_with (first|(at_builtin;refine wpList_append_own_at _ rfl _ _ 195 rfl w.heap.size 217 G (.agg #[.slice none 0 0,.int .i64 0]) 2 32 underlying195 H I J K rfl (by decide) _ _ _ rfl (an.alloc _) ⟨wr.heap.size,0,none⟩ 1 1 [.slice s y u,.int .i64 t] rfl rfl b5 (by simp[Value.oneCell']) b6 z (by simp;omega) ?_;intro v w5 an hg _ _)|fail);go_ret;refine⟨_,rfl,?_,(C.o.alloc _).grown hg (fun x h=>.inl (Bl hO.o x h))⟩;have b8:Ab No w w5:=(C.o.alloc _).grown hg (fun x h=>.inl (Bl hO.o x h));have:=(Mm.put (r:=r) an).read bb.o ((B.o.push R.o t).Ag b8);rw[uF] at this;rw[←am.o];exact this
  go_wp21;go_ret;refine⟨_,rfl,?_,C.o⟩;have:=hO.o.read bb.o (B.o.Ag C.o);rw[show F6 r t [] true=[] from rfl,vT] at am;rw[←am.o];exact this
 obtain⟨k,rfl⟩:=Bx b4;have h:(i:Int)<(n:Int):=by omega
 have cf:=Bm i
 obtain⟨e,V⟩:∃e,l[i]? =some e:=⟨_,tT (by have:=bd.o;omega)⟩;have bf:l.drop i=e::l.drop (i+1):=by rw[vF (tR.1 V).1,(tR.1 V).2]
 have ao:=tV V;have bg:=bt.o e ao;have bh:=bs.o e ao;obtain⟨_,_,b9,_,_,bi⟩:=id ba.o;injection b9 with e1 e2 e3;subst e1;obtain⟨b,o,p,d,f,rfl,z,ap,c1,bj⟩:=bi i e V;have E:=Ae bj;obtain⟨c,a⟩:=e;have aq:xR (c.map ty=ts):=bh;have bg: -1000000000000000000≤a∧a≤1000000000000000000:=bg;have c1:C3 w b (o+i*2+1) (.int .i64 a):=c1;have E:xR (Ee Z w (.slice p d f) c):=E;have ca:c.length≤1000:=by have:=congrArg List.length aq.o;rw[tZ] at this;omega
 have ar:=(S.cell z (o:=o+i*2) xT).trans ap;have a1:=(S.cell z (o:=o+i*2+1) xT).trans c1;have C:=Ae S;have ac:=Ae ap;have ad:=Ae c1;rw[bf] at A;clear S bi e2 e3 bj ao bh V bf ap c1;go_wp21;go_call Kg _ _ c r _ (E.o.Ag C.o) (R.o.Ag C.o) (aq.o.trans aj.o.symm) ca as e w1 ⟨rfl,au⟩;have T:xR (Ab No w w1):=C.o.seq au;have bk:xR (Mm w1 w.heap.size u7 xs):=A4 hO.o au (fun _ _ av=>av.elim);have ar:=(T.o.cell z (o:=o+i*2) xT).trans ac.o;have a1:=(T.o.cell z (o:=o+i*2+1) xT).trans ad.o;clear au hO;go_wp21;go_call Kg _ _ r c _ (R.o.Ag T.o) (E.o.Ag T.o) (aj.o.trans aq.o.symm) (by have:=congrArg List.length aj.o;rw[tZ] at this;omega) as e j ⟨rfl,aw⟩;have L:xR (Ab No w j):=T.o.seq aw;have ax:xR (Mm j w.heap.size u7 xs):=A4 bk.o aw (fun _ _ av=>av.elim);clear aw bk T C ar a1;have ar:=(L.o.cell z (o:=o+i*2) xT).trans ac.o;have a1:=(L.o.cell z (o:=o+i*2+1) xT).trans ad.o;have b7:=L.o.size;have ae:xR (Ab No w (j.alloc (.cells #[.slice p d f,.int .i64 a] 217))):=L.o.alloc _;have af:xR (Mm (j.alloc (.cells #[.slice p d f,.int .i64 a] 217)) w.heap.size u7 xs):=ax.o.alloc _;cases done
 ·by_cases W:Ju r c=true
  ·have bl:=K0 j (.slice s y u) (.int .i64 t) 217;have bm:xs.length+1≤maxLen:=(by unfold maxLen;omega);have bn:(xs.length+1)*32≤140737488355328:=(by omega);have ag:=ax.o;have ay:(xs++[((.slice s y u:Value),(r,t))]).length=xs.length+1:=(by rw[tS];rfl);have M:(xs++[((.slice s y u:Value),(r,t))]).length+1≤maxLen:=eC ay (by omega);have N:((xs++[((.slice s y u:Value),(r,t))]).length+1)*32≤140737488355328:=KX ay (by omega);clear ay;have bo:xR (F6 r t ((c,a)::l.drop (i+1)) false=(r,t)::(H8 (c,a)++F6 r t (l.drop (i+1)) true)):=(by show _=_;simp only[F6];rw[W];rfl);rw[W];clear W;by_cases g:a=0
   ·have O:(a != 0)=false:=(by simp[g]);have q:xR ((xs++[((.slice s y u:Value),(r,t))]).map (·.2)++F6 r t (l.drop (i+1)) true=C5 r t l):=(by show _=_;rw[←A.o,bo.o];simp[H8,g]);clear g;go_wp2_with (first|(at_builtin;refine wpList_append_own_at _ rfl _ _ 195 rfl w.heap.size 217 G (.agg #[.slice none 0 0,.int .i64 0]) 2 32 underlying195 H I J K rfl (by decide) _ _ _ rfl (ag.alloc _) ⟨j.heap.size,0,none⟩ 1 1 [.slice s y u,.int .i64 t] rfl rfl bl (by simp[Value.oneCell']) bm bn (by simp;omega) ?_;intro vq w5 X Y _ _;have D:xR (Ab No w w5):=(L.o.alloc _).grown Y (fun x h=>.inl (Bl ag x h));have cb:=(D.o.cell z (o:=o+i*2) xT).trans ac.o;have cc:=(D.o.cell z (o:=o+i*2+1) xT).trans ad.o;have ah:xR (Mm w5 w.heap.size vq (xs++[((.slice s y u:Value),(r,t))])):=Mm.put X;have cd:=D.o.size;clear X Y)|fail);go_roundg k
    case measure=>omega
    exact⟨i+1,(xs++[((.slice s y u:Value),(r,t))]),true,by omega,rfl,by go_num,by (repeat rw[tS,vD]);omega,ah.o.alloc _,B.o.push R.o t,q,D.o.alloc _⟩
   have O:(a != 0)=true:=(by simp[g]);have q:xR (((xs++[((.slice s y u:Value),(r,t))])++[((.slice p d f:Value),(c,a))]).map (·.2)++F6 r t (l.drop (i+1)) true=C5 r t l):=(by show _=_;rw[←A.o,bo.o];simp[H8,g]);clear g;go_wp2_with (first|(at_builtin;refine wpList_append_own_at _ rfl _ _ 195 rfl w.heap.size 217 G (.agg #[.slice none 0 0,.int .i64 0]) 2 32 underlying195 H I J K rfl (by decide) _ _ _ rfl (ag.alloc _) ⟨j.heap.size,0,none⟩ 1 1 [.slice s y u,.int .i64 t] rfl rfl bl (by simp[Value.oneCell']) bm bn (by simp;omega) ?_;intro vq w5 X Y _ _;have D:xR (Ab No w w5):=(L.o.alloc _).grown Y (fun x h=>.inl (Bl ag x h));have cb:=(D.o.cell z (o:=o+i*2) xT).trans ac.o;have cc:=(D.o.cell z (o:=o+i*2+1) xT).trans ad.o;have ah:xR (Mm w5 w.heap.size vq (xs++[((.slice s y u:Value),(r,t))])):=Mm.put X;have cd:=D.o.size;clear X Y)|(at_builtin;refine wpList_append_own_at _ rfl _ _ 195 rfl w.heap.size 217 G (.agg #[.slice none 0 0,.int .i64 0]) 2 32 underlying195 H I J K rfl (by decide) _ _ _ rfl ((ah.o.alloc (.cells #[.slice p d f,.int .i64 a] 217)).alloc _) ⟨w5.heap.size+1,0,none⟩ 1 1 [.slice p d f,.int .i64 a] rfl rfl (Jz w5 (.cells #[.slice p d f,.int .i64 a] 217) (.slice p d f) (.int .i64 a) 217) (by simp[Value.oneCell']) M N (by simp;omega) ?_;intro az a0 P Q _ _)|fail);go_roundg k
   case measure=>omega
   exact⟨i+1,(xs++[((.slice s y u:Value),(r,t))])++[((.slice p d f:Value),(c,a))],true,by omega,rfl,by go_num,by (repeat rw[tS,vD]);omega,Mm.put P,Ae ((B.o.push R.o t).push E.o _),q,((D.o.alloc _).alloc _).grown Q (fun x h=>.inl (Bl ah.o x h))⟩
  have U:Ju r c=false:=by simpa using W
  clear W;by_cases aa:Ju c r=true
  ·rw[U,aa];by_cases g:a=0
   ·have O:(a != 0)=false:=(by simp[g]);have q:xR (xs.map (·.2)++F6 r t (l.drop (i+1)) false=C5 r t l):=(by show _=_;rw[←A.o];rw[show F6 r t ((c,a)::l.drop (i+1)) false=H8 (c,a)++F6 r t (l.drop (i+1)) false by simp only[F6];rw[U,aa];rfl];simp[H8,g]);clear g;go_wp21;go_roundg k
    case measure=>omega
    exact⟨i+1,xs,false,by omega,rfl,by go_num,by (repeat rw[tS,vD]);omega,af,B,q,ae.o⟩
   have O:(a != 0)=true:=(by simp[g]);have q:xR ((xs++[((.slice p d f:Value),(c,a))]).map (·.2)++F6 r t (l.drop (i+1)) false=C5 r t l):=(by show _=_;rw[←A.o];rw[show F6 r t ((c,a)::l.drop (i+1)) false=H8 (c,a)++F6 r t (l.drop (i+1)) false by simp only[F6];rw[U,aa];rfl];simp[H8,g]);have ab:=Jz j ((.cells #[.slice p d f,.int .i64 a] 217)) (.slice p d f) (.int .i64 (a)) 217;have M:xs.length+1≤maxLen:=eC (m:=xs.length) rfl (by omega);have N:(xs.length+1)*32≤140737488355328:=KX (m:=xs.length) rfl (by omega);have F:Mm (j.alloc (.cells #[.slice p d f,.int .i64 a] 217)) w.heap.size _ xs:=af;clear g;go_wp2_with (first|(at_builtin;refine wpList_append_own_at _ rfl _ _ 195 rfl w.heap.size 217 G (.agg #[.slice none 0 0,.int .i64 0]) 2 32 underlying195 H I J K rfl (by decide) _ _ _ rfl (F.alloc _) ⟨j.heap.size+1,0,none⟩ 1 1 [.slice p d f,.int .i64 (a)] rfl rfl ab (by simp[Value.oneCell']) M N (by simp;omega) ?_;intro az a0 P Q _ _)|fail);go_roundg k
   case measure=>omega
   exact⟨i+1,xs++[((.slice p d f:Value),(c,a))],false,by omega,rfl,by go_num,by (repeat rw[tS,vD]);omega,Mm.put P,Ae ((B).o.push E.o _),q,(ae.o.alloc _).grown Q (fun x h=>.inl (Bl F x h))⟩
  have a2:Ju c r=false:=by simpa using aa
  clear aa;rw[U,a2];have cg: -9223372036854775808≤a+t:=by omega
  have ch:a+t≤9223372036854775807:=by omega
  have bp:xR (Ab No w (j.alloc (.cells #[.slice p d f,.int .i64 (a+t)] 217))):=L.o.alloc _;have bq:xR (Mm (j.alloc (.cells #[.slice p d f,.int .i64 (a+t)] 217)) w.heap.size u7 xs):=ax.o.alloc _;by_cases g:(a+t)=0
  ·have O:((a+t) != 0)=false:=(by simp[g]);have q:xR (xs.map (·.2)++F6 r t (l.drop (i+1)) true=C5 r t l):=(by show _=_;rw[←A.o];rw[show F6 r t ((c,a)::l.drop (i+1)) false=H8 (c,a+t)++F6 r t (l.drop (i+1)) true by simp only[F6];rw[U,a2];rfl];simp[H8,g]);clear g;go_wp21;go_roundg k
   case measure=>omega
   exact⟨i+1,xs,true,by omega,rfl,by go_num,by (repeat rw[tS,vD]);omega,bq,B,q,bp.o⟩
  have O:((a+t) != 0)=true:=by simp[g]
  have q:xR ((xs++[((.slice p d f:Value),(c,(a+t)))]).map (·.2)++F6 r t (l.drop (i+1)) true=C5 r t l):=by show _=_;rw[←A.o];rw[show F6 r t ((c,a)::l.drop (i+1)) false=H8 (c,a+t)++F6 r t (l.drop (i+1)) true by simp only[F6];rw[U,a2];rfl];simp[H8,g]
  have ab:=Jz j ((.cells #[.slice p d f,.int .i64 (a+t)] 217)) (.slice p d f) (.int .i64 ((a+t))) 217;have M:xs.length+1≤maxLen:=eC (m:=xs.length) rfl (by omega);have N:(xs.length+1)*32≤140737488355328:=KX (m:=xs.length) rfl (by omega);have F:Mm (j.alloc (.cells #[.slice p d f,.int .i64 (a+t)] 217)) w.heap.size _ xs:=bq;clear g;go_wp2_with (first|(at_builtin;refine wpList_append_own_at _ rfl _ _ 195 rfl w.heap.size 217 G (.agg #[.slice none 0 0,.int .i64 0]) 2 32 underlying195 H I J K rfl (by decide) _ _ _ rfl (F.alloc _) ⟨j.heap.size+1,0,none⟩ 1 1 [.slice p d f,.int .i64 ((a+t))] rfl rfl ab (by simp[Value.oneCell']) M N (by simp;omega) ?_;intro az a0 P Q _ _)|fail);go_roundg k
  case measure=>omega
  exact⟨i+1,xs++[((.slice p d f:Value),(c,(a+t)))],true,by omega,rfl,by go_num,by (repeat rw[tS,vD]);omega,Mm.put P,Ae ((B).o.push E.o _),q,(bp.o.alloc _).grown Q (fun x h=>.inl (Bl F x h))⟩
 skip
 by_cases g:a=0
 ·have O:(a != 0)=false:=by simp[g]
  have q:xR (xs.map (·.2)++F6 r t (l.drop (i+1)) true=C5 r t l):=by show _=_;rw[←A.o];rw[show F6 r t ((c,a)::l.drop (i+1)) true=H8 (c,a)++F6 r t (l.drop (i+1)) true from rfl];simp[H8,g]
  clear g;go_wp21;go_roundg k
  case measure=>omega
  exact⟨i+1,xs,true,by omega,rfl,by go_num,by (repeat rw[tS,vD]);omega,af,B,q,ae.o⟩
 have O:(a != 0)=true:=by simp[g]
 have q:xR ((xs++[((.slice p d f:Value),(c,a))]).map (·.2)++F6 r t (l.drop (i+1)) true=C5 r t l):=by show _=_;rw[←A.o];rw[show F6 r t ((c,a)::l.drop (i+1)) true=H8 (c,a)++F6 r t (l.drop (i+1)) true from rfl];simp[H8,g]
 have ab:=Jz j ((.cells #[.slice p d f,.int .i64 a] 217)) (.slice p d f) (.int .i64 (a)) 217;have M:xs.length+1≤maxLen:=eC (m:=xs.length) rfl (by omega);have N:(xs.length+1)*32≤140737488355328:=KX (m:=xs.length) rfl (by omega);have F:Mm (j.alloc (.cells #[.slice p d f,.int .i64 a] 217)) w.heap.size _ xs:=af;clear g;go_wp2_with (first|(at_builtin;refine wpList_append_own_at _ rfl _ _ 195 rfl w.heap.size 217 G (.agg #[.slice none 0 0,.int .i64 0]) 2 32 underlying195 H I J K rfl (by decide) _ _ _ rfl (F.alloc _) ⟨j.heap.size+1,0,none⟩ 1 1 [.slice p d f,.int .i64 (a)] rfl rfl ab (by simp[Value.oneCell']) M N (by simp;omega) ?_;intro az a0 P Q _ _)|fail);go_roundg k
 case measure=>omega
 exact⟨i+1,xs++[((.slice p d f:Value),(c,a))],true,by omega,rfl,by go_num,by (repeat rw[tS,vD]);omega,Mm.put P,Ae ((B).o.push E.o _),q,(ae.o.alloc _).grown Q (fun x h=>.inl (Bl F x h))⟩
end
section
variable {Z:Nat→Prop}
def Bu (l acc:Bag):Bag:=l.foldl (fun a e=>C5 e.1 e.2 a) acc
theorem Dd:∀(l:Bag) {acc:Bag},Ck acc→Ck (Bu l acc)
 | [],_,h=>h
 |e::l,_,h=>Dd l (GL e.1 e.2 h)
theorem kR (r:Row)(t:Int)(l:Bag)(q:Row):cnt (C5 r t l) q=(if r=q then t else 0)+cnt l q:=by
 rw[B1,RE,B1];split <;> simp
theorem Jn:∀(l acc:Bag),A9 (Bu l acc) (acc++l)
 | [],acc=>by simp[Bu];exact A9.refl _
 |e::l,acc=>fun q=>by show cnt (Bu l (C5 e.1 e.2 acc)) q=_;rw[Jn l _ q,Ah,kR,Ah];show _=cnt acc q+((if e.1=q then e.2 else 0)+cnt l q);omega
theorem E5 (l:Bag){acc:Bag}(h:Ck acc):Bu l acc=Ad (acc++l) :=
 (Dd l h).uniq (Ap _) ((Jn l acc).trans (Bc _).symm)
theorem XW {l:Bag}(h:Ck l)(i:Nat):Ck (l.take i):=by
 induction l generalizing i with
 |nil=>simp[Ck]
 |cons e l a =>
  cases i with
  |zero=>simp[Ck]
  |succ i=>exact⟨fun x b=>h.1 x (vY b),h.2.1,a h.2.2 i⟩
theorem Zm {l:Bag}(h:Ck l){M:Int}(_:0≤M)(b:∀e∈l,-M≤e.2∧e.2≤M)(r:Row): -M≤cnt l r∧cnt l r≤M:=by
 by_cases c:cnt l r=0
 ·omega
 obtain⟨x,a,rfl⟩:=Ck.Cq c;rw[h.Df a];exact b x a
theorem FK {a l:Bag}(b:Ck a)(d:Ck l){M:Int}(c:0≤M)(f:∀e∈a,-M≤e.2∧e.2≤M)(g:∀e∈l,-M≤e.2∧e.2≤M):∀e∈Bu (neg l) a,-(2*M)≤e.2∧e.2≤2*M:=by
 intro e h;have i:=(Dd (neg l) b).Df h;rw[Jn,Ah,Ew] at i;have j:=Zm b c f e.1;have k:=Zm d c g e.1;omega
theorem Jo {l acc:Bag}{e:Row×Int}(h:e∈Bu l acc):(∃x∈acc,x.1=e.1)∨∃x∈l,x.1=e.1:=by
 induction l generalizing acc with
 |nil=>exact .inl ⟨e,h,rfl⟩
 |cons y l c =>
  rcases c (acc:=C5 y.1 y.2 acc) h with ⟨x,b,a⟩|⟨x,b,a⟩
  ·rcases DP b with h1|⟨d,f,g⟩
   ·exact .inr ⟨y,by simp,h1.symm.trans a⟩
   exact .inl ⟨d,f,g.trans a⟩
  exact .inr ⟨x,by simp[b],a⟩
theorem Jp (l acc:Bag):(Bu l acc).length≤acc.length+l.length:=by
 induction l generalizing acc with
 |nil=>simp[Bu]
 |cons y l a=>have b:=a (C5 y.1 y.2 acc);have c:=RF y.1 y.2 acc;show (Bu l (C5 y.1 y.2 acc)).length≤_;simp only[uO];omega
theorem Ij (l acc:Bag)(e:Row×Int):Bu (l++[e]) acc=C5 e.1 e.2 (Bu l acc):=by unfold Bu;rw[List.foldl_append];rfl
theorem eD (av bv:Value)(a b:Bag)(ts:List Bool)(w:World)(E:Ct Z w av a)(F:Ct Z w bv b)(G:∀e∈a,e.1.map ty=ts)(H:∀e∈b,e.1.map ty=ts)(aa:ts.length≤1000)(_:a.length≤400000000)(ab:b.length≤400000000)
 (I:∀e∈a,-500000000000000000≤e.2∧e.2≤500000000000000000) (J:∀e∈b,-500000000000000000≤e.2∧e.2≤500000000000000000) (m:Ck a) (K:Ck b) (L:Gq Z w) :
 Calls prog 97 #[av,bv] w fun e w'=>∃v,e=.returned v∧L5 Z w (Ad (a++neg b)) v w':=by
 have N:=Ae F;have ac:=Ae L;clear L;have ad:=Ae G;have O:=Ae H;have ae:=Ae I;have P:=Ae J;have Q:=Ae m;have af:=Ae K;have HEq:=Ae (E5 (neg b) m);have ag:=Ae E;obtain⟨_,_,rfl,_,ah,-⟩:=E;obtain⟨_,ai,rfl,aj,R,-⟩:=F;obtain⟨n,q⟩:∃n,b.length=n:=⟨_,rfl⟩;have r:=Ae q;rw[q] at N aj ab⊢;have a1:=Bn R.1
 clear q R ah G H I J m K;go_enter func97,ntmps97;go_wp21;go_loopg [5,6] n (fun k ak al wr=>∃i:Nat,i+k=n∧al=.int .i64 (i:Int)∧xR (Ct Z wr ak (Bu (neg (b.take i)) a))∧Ab No w wr)
 case atStart=>exact⟨0,by omega,rfl,ag,Ab.refl _ _⟩
 obtain⟨i,_,rfl,hO,d⟩:=hrel;by_cases am:gk=0
 ·subst am;have f:¬(i:Int)<(n:Int):=by omega
  have an:xR (Ct Z wr u5 (Ad (a++neg b))):=by have s:=hO.o;rw[show i=b.length by rw[r.o];omega,vH,HEq.o] at s;exact s
  have h:=Ae d;clear d;go_wp21;go_ret;exact⟨_,rfl,an.o,h.o⟩
 obtain⟨k,rfl⟩:=Bx am;have f:(i:Int)<(n:Int):=by omega
 have a2:=Bm i
 obtain⟨e,j⟩:∃e,b[i]? =some e:=⟨_,tT (by have:=r.o;omega)⟩;have t:=tV j;have u:=P.o e t;obtain⟨_,_,ao,_,_,S⟩:=N.o.Ag d;injection ao with e1 e2 e3;subst e1;obtain⟨g,o,p,z,A,rfl,hg,T,c1,U⟩:=S i e j;have ap:xR (Bu (neg (b.take (i+1))) a=C5 e.1 (-e.2) (Bu (neg (b.take i)) a)):=by
  show _=_;rw[uI,j];have:neg (b.take i++(some e).toList)=neg (b.take i)++[(e.1,-e.2)]:=by unfold neg;rw[uF];rfl
  rw[this,Ij]
 have h:=Ae d;obtain⟨V,c⟩:=e;have c1:C3 wr g (o+i*2+1) (.int .i64 c):=c1;have a3: -500000000000000000≤c:=u.1;have a4:c≤500000000000000000:=u.2;have X:IntKind.i64.wrap (-c)= -c:=IntWalk.i64_in _ (by omega);have aq:xR (∀(W:World) (_:Ab No wr W),Calls prog 96 #[u5,.slice p z A,.int .i64 (IntKind.i64.wrap (-c))] W fun e w'=>∃v,e=.returned v∧L5 Z W (C5 V (-c) (Bu (neg (b.take i)) a)) v w'):=by
  intro W B;rw[X]
  exact Pi u5 (.slice p z A) (Bu (neg (b.take i)) a) V (-c) ts W (hO.o.Ag B) (U.Ag B) (O.o _ t)
   (fun x f=>by
     rcases Jo f with ⟨y,C,D⟩|⟨y,C,D⟩
     ·rw[←D];exact ad.o y C
     rw[←D];obtain⟨ar,au,rfl⟩:=uA.1 C;exact O.o ar (vY au)) aa
   (by have s:=Jp (neg (b.take i)) a;have a5:(neg (b.take i)).length≤b.length:=(by unfold neg;rw[tZ];exact List.length_take_le' _ _);have a6:=r.o;omega)
   (by omega)
   (fun x f=>by have:=FK Q.o (XW af.o i) (M:=500000000000000000) (by omega) ae.o (fun e aw=>P.o e (vY aw)) x f;omega)
   (Dd _ Q.o) ((ac.o.up h.o.size).up B.size)
 clear X;clear d S e2 e3 U t j u;go_wp21
 go_region_held3 (fun w'=>w'.cell? ⟨g,o+i*2,none⟩=some (.slice p z A)∧w'.cell? ⟨g,o+i*2+1,none⟩=some (.int .i64 c)) (go_keep)
  (first
    |(go_at_call 96
      go_call aq.o _ (Ab.refl No wr).drew as e w1 ⟨_,rfl,Y,l⟩;have ax:=(l.cell hg xT).trans T;have ay:=(l.cell hg xT).trans c1;have az:=Ae Y;have a0:xR (Ab No w w1):=h.o.drew.seq l;clear l Y))
 clear T c1 ax ay;go_wp21;go_roundg k
 case measure=>omega
 exact⟨i+1,by omega,by go_num,by rw[ap.o];exact az,a0.o⟩
end
section
variable {Z:Nat→Prop}
theorem Fi (W:World)(a v b:Value)(t:TypeId):∀j x,[a,v,b][j]? =some x→(W.alloc (.cells #[a,v,b] t)).cell? ((⟨W.heap.size,0,none⟩:Addr).add j)=some x:=by
 intro j x c;have d:(⟨W.heap.size,0,none⟩:Addr).add j=⟨W.heap.size,j,none⟩:=by unfold Addr.add;split <;> simp_all
 rw[d,Af (MapKept.heap_alloc W _).1];simpa using c
def Ik (Z:Nat→Prop)(w:World)(v:Value)(cs:List Nat):Prop:=∃a cap,v=.slice a cs.length cap∧cs.length≤cap∧(cap≤maxLen∧kQ Z a cs.length cap) ∧
 ∀(i c:Nat),cs[i]? =some c→∃b o,a=some ⟨b,o,none⟩∧b<w.heap.size∧w.cell? ⟨b,o+i,none⟩=some (.int .i64 (c:Int))
theorem Ik.Ag {w w':World}{v:Value}{cs:List Nat}(h:Ik Z w v cs)(k:Ab No w w'):Ik Z w' v cs:=by
 obtain⟨a,cap,e,f,g,j⟩:=h;refine⟨a,cap,e,f,g,fun i c l=>?_⟩;obtain⟨b,o,e1,d,m⟩:=j i c l;exact⟨b,o,e1,tU d k.size,(k.cell d xT).trans m⟩
theorem Zn:∀(r:Row) (i:Nat) (v:V),r[i]? =some v→∀j x,(Ir v)[j]? =some x→(r.flatMap Ir)[i*3+j]? =some x
 | [],i,v,h,_,_,_=>by simp at h
 |y::r,0,v,h,j,x,a=>by
  have:y=v:=by simpa using h
  subst this;rw[uX,xL,uL,uD (tR.1 a).1];exact a
 |y::r,i+1,v,h,j,x,a=>by have b:=Zn r i v (by simpa using h) j x a;rw[uX,uC (by rw[Uy];omega),Uy,show (i+1)*3+j-3=i*3+j by omega];exact b
theorem Ee.I1 {w:World}{base:Nat}{v:Value}{r:Row}(a:∀k,Z k→k<base)(h:w.ownsRow base 202 3 v r.length (r.flatMap Ir)):Ee Z w v r:=by
 rcases h with ⟨_,⟨rfl,b⟩|⟨g,cap,c,rfl,_,hg,d,e,_,f⟩⟩
 ·have:r=[]:=uM b;subst this;exact⟨none,0,rfl,by simp,⟨by simp,Re _ _⟩,fun h=>absurd rfl h⟩
 refine⟨some ⟨g,0,none⟩,cap,rfl,d,⟨e,Rf fun l=>by have:=a g l;omega⟩,fun _=>⟨g,0,c,(0,0),rfl,hg,fun i v hv j x m=>?_⟩⟩;have:=Zn r i v hv j x m;rw[←f,uQ] at this;split at this
 ·rw[uL,←uZ];exact this
 cases this
def oW (Z:Nat→Prop)(w:World)(r:Row)(v:Value)(w':World):Prop:=Ee Z w' v r∧Ab No w w'
theorem FL:(prog.info? 202).map (fun i=>(i.zero,i.size,i.bytes))=some (some (.agg #[.bool false,.int .i64 0,.string ⟨#[]⟩]),3,32):=by kernel_rfl
theorem Vs (o cv:Value)(r:Row)(cs:List Nat)(w:World)(hr:Ee Z w o r)(p:Ik Z w cv cs)(Gs:∀c∈cs,c<r.length)(E:cs.length≤1000)(q:Gq Z w) :
 Calls prog 135 #[o,cv] w fun e w'=>∃v,e=.returned v∧oW Z w (Ao cs r) v w':=by
 have s:=Ae hr;have t:=Ae p;have F:=Ae Gs;have G:=Ae q;clear q;obtain⟨_,H,rfl,I,u,-⟩:=hr;obtain⟨_,J,rfl,K,y,-⟩:=p;obtain⟨n,d⟩:∃n,cs.length=n:=⟨_,rfl⟩;have f:=Ae d;obtain⟨L,g⟩:∃n,r.length=n:=⟨_,rfl⟩;have M:=Ae g;rw[d] at t K E⊢;rw[g] at s I⊢;obtain⟨N,O,P,Q,R⟩:=info_parts FL;clear d g Gs;have ae:=Bn y.1
 have af:=Bn u.1
 clear y u;go_enter func135,ntmps135;go_wp21;go_loopg [5,6] n (fun k S T wr=>∃i:Nat,i+k=n∧T=.int .i64 (i:Int)∧xR (wr.ownsRow w.heap.size 202 3 S (Ao (cs.take i) r).length ((Ao (cs.take i) r).flatMap Ir))∧Ab No w wr)
 case atStart=>exact⟨0,by omega,rfl,World.ownsRow_nil _ _ _ _,Ab.refl _ _⟩
 obtain⟨i,_,rfl,hO,a⟩:=hrel;by_cases U:gk=0
 ·subst U;have h:¬(i:Int)<(n:Int):=by omega
  have V:xR (Ee Z wr u5 (Ao cs r)):=by have z:=Ee.I1 G.o hO.o;rw[show i=cs.length by rw[f.o];omega,vH] at z;exact z
  have j:=Ae a;clear a;go_wp21;go_ret;exact⟨_,rfl,V.o,j.o⟩
 obtain⟨k,rfl⟩:=Bx U;have h:(i:Int)<(n:Int):=by omega
 have ag:=Bm i
 obtain⟨c,b⟩:∃c,cs[i]? =some c:=⟨_,tT (by have:=f.o;omega)⟩;have A:=F.o c (tV b);have ah:(c:Int)<(L:Int):=by have:=M.o;omega
 have ai:=Bm c
 obtain⟨_,_,W,_,_,B⟩:=t.o.Ag a;injection W with e1 e2 e3;subst e1;obtain⟨_,_,rfl,_,_⟩:=B i c b;obtain⟨v,l⟩:∃v,r[c]? =some v:=⟨_,tT A⟩;have C:=s.o.Ag a;obtain⟨vb,_,rfl,_,_,_,_⟩:=C.cells l;have X:xR (Ao (cs.take (i+1)) r=Ao (cs.take i) r++[v]):=by
  show _=_;rw[uI,b];unfold Ao;rw[uF];have:Aj r c=v:=by unfold Aj;rw[uH,l];rfl
  simp[this]
 have m:(Ao (cs.take i) r).length=i:=by unfold Ao;rw[tZ,uV,f.o];omega
 have D:=hO.o;have Y:(Ao (cs.take i) r).length+1≤maxLen:=eC m (by omega);have aa:((Ao (cs.take i) r).length+1)*32≤140737488355328:=KX m (by omega);have ab:=Fi wr (.bool (uB v)) (.int .i64 (uN v)) (.string ⟨(uS v).toArray⟩) 202;have aj:=a.size;have j:=Ae a;clear a B e2 e3 b l C m A;go_wp2_with (first
  |(at_builtin;refine wpList_append_own_at _ rfl _ _ 211 rfl w.heap.size 202 N (.agg #[.bool false,.int .i64 0,.string ⟨#[]⟩]) 3 32 underlying211 O P Q R rfl (by decide) _ _ _ rfl (D.alloc _) ⟨wr.heap.size,0,none⟩ 1 1 [.bool (uB v),.int .i64 (uN v),.string ⟨(uS v).toArray⟩] rfl rfl ab (by simp[Value.oneCell']) Y aa (by simp;omega) ?_;intro v' w5 ac ad _ _)
  |fail)
 go_roundg k
 case measure=>omega
 refine⟨i+1,by omega,by go_num,?_,(j.o.alloc _).grown ad (fun x h=>.inl (Bl D x h))⟩;show w5.ownsRow _ _ _ _ _ _;rw[X.o,vR,tS];have e5:[v].flatMap Ir=[.bool (uB v),.int .i64 (uN v),.string ⟨(uS v).toArray⟩]:=by simp[Uz]
 rw[e5];exact ac
end
section
variable {Z:Nat→Prop}
def ZO (b:Bool):UInt8:=if b then 116 else 105
def Fj (ts:List Bool):List UInt8:=ts.map ZO
theorem oX {ts:List Bool}{i:Nat}{b:Bool}(h:ts[i]? =some b)(hi:i<(⟨(Fj ts).toArray⟩:ByteArray).size):(⟨(Fj ts).toArray⟩:ByteArray)[i].toNat=if b then 116 else 105:=by
 have e:(⟨(Fj ts).toArray⟩:ByteArray)[i]=ZO b:=by
  show (Fj ts).toArray[i]=_;rw[List.getElem_toArray];have a:(Fj ts)[i]? =some (ZO b):=by unfold Fj;rw[tX,h];rfl
  exact (tR.1 a).2
 rw[e];cases b <;> rfl
theorem KY (ts:List Bool):(⟨(Fj ts).toArray⟩:ByteArray).size=ts.length:=by simp[ByteArray.size,Fj]
theorem eE (z:Value)(r:Row)(ts:List Bool)(w:World)(hr:Ee Z w z r)(_:ts.length≤1000) :
 Calls prog 95 #[z,.string ⟨(Fj ts).toArray⟩] w fun e w'=>e=.returned (.bool (decide (r.map ty=ts)))∧Ab No w w':=by
 have A:=Ae hr;obtain⟨_,H,rfl,I,B,-⟩:=hr;have p:=KY ts;have q:=Ae (fun i b h hi=>oX (ts:=ts) (i:=i) (b:=b) h hi);obtain⟨S,s⟩:∃S,(⟨(Fj ts).toArray⟩:ByteArray)=S:=⟨_,rfl⟩;obtain⟨a,t⟩:∃n,r.length=n:=⟨_,rfl⟩;have j:=Ae t;rw[t] at A I⊢;rw[s] at p⊢;replace q:xR (∀i b,ts[i]? =some b→∀hi:i<S.size,S[i].toNat=if b then 116 else 105):=by subst s;exact q.o
 have R:=Bn B.1
 clear B s;have u:=Ae p;have T:S.size≤1000:=by omega
 clear p t;by_cases l:a=S.size
 ·have J:((a:Int) != (S.size:Int))=false:=by simp[l]
  have C:=Ae l;clear l;go_enter func95,ntmps95;go_wp21;go_loopg [5] a (fun k K wr=>∃i:Nat,i+k=a∧K=.int .i64 (i:Int)∧xR ((r.take i).map ty=ts.take i)∧Ab No w wr)
  case atStart=>exact⟨0,by omega,rfl,Ae rfl,Ab.refl _ _⟩
  obtain⟨i,_,rfl,D,f⟩:=hrel;by_cases L:gk=0
  ·subst L;have M:¬(i:Int)<(a:Int):=(by omega);have g:xR (decide (r.map ty=ts)=true):=(by show _=_;rw[decide_eq_true_iff];have c:=D.o;have N:=C.o;have U:=u.o;rw[show i=r.length by rw[j.o];omega,vH,show r.length=ts.length by rw[j.o];omega,vH] at c;exact c);have m:=Ae f;clear f;go_wp21;go_ret;exact⟨A5 g.o.symm,m.o⟩
  obtain⟨k,rfl⟩:=Bx L;have M:(i:Int)<(a:Int):=by omega
  have V:=Bm i
  have O:i<S.size:=by have:=C.o;omega
  have W:(i:Int)<(S.size:Int):=by omega
  obtain⟨v,x⟩:∃v,r[i]? =some v:=⟨_,tT (by have:=j.o;omega)⟩;obtain⟨b,y⟩:∃b,ts[i]? =some b:=⟨_,tT (by have:=u.o;omega)⟩;have o:=q.o i b y O;have E:=A.o.Ag f;obtain⟨vb,_,rfl,_,_,-,-⟩:=E.cells x;have m:=Ae f;have F:=Ae x;have G:=Ae y;clear f E x y;by_cases d:ty v=b
  ·have P:(uB v == ((S[i].toNat:Int) == 105))=true:=(by rw[o,←d];cases v <;> rfl);have Q:xR ((r.take (i+1)).map ty=ts.take (i+1)):=(by show _=_;rw[uI,uI,uF,D.o,F.o,G.o];simp[d]);clear o d;go_wp21;go_quiet (fail);go_wp21;go_roundg k
   case measure=>omega
   exact⟨i+1,by omega,by go_num,Q,m.o.drewN _⟩
  have P:(uB v == ((S[i].toNat:Int) == 105))=false:=by rw[o];cases v <;> cases b <;> first|rfl|exact absurd rfl d
  have g:xR (decide (r.map ty=ts)=false):=by show _=_;rw[decide_eq_false_iff_not];intro e;have c:(r.map ty)[i]? =some (ty v):=(by rw[tX,F.o];rfl);rw[e,G.o] at c;injection c with c;exact d c.symm
  clear o d;go_wp21;go_quiet (fail);go_wp21;go_ret;exact⟨A5 g.o.symm,m.o.drewN _⟩
 have J:((a:Int) != (S.size:Int))=true:=by simp;omega
 have g:xR (decide (r.map ty=ts)=false):=by show _=_;rw[decide_eq_false_iff_not];intro e;have:=congrArg List.length e;rw[tZ,j.o] at this;have N:=u.o;omega
 clear l;go_enter func95,ntmps95;go_wp21;go_ret;exact⟨A5 g.o.symm,Ab.refl _ _⟩
end
end Go.Proofs.YtdinjjmcmfjbfaaGreatDoor
