import Derived.Test.YtdinjjmcmfjbfaaGreatDoorCxJ
import Derived.Sort.Walk0
import Derived.Maps.AppendAt
import Derived.WalkMore
set_option maxRecDepth 100000
set_option maxHeartbeats 4000000
namespace Go.Proofs.YtdinjjmcmfjbfaaGreatDoor
open Go.RowKit
open Mo (V Row ty Kv vlt Do Xq)
variable {Z:Nat→Prop}
def Ic:V→List Value
 | .num n=>[.bool true,.int .i64 n,.string ByteArray.empty]
 | .txt s=>[.bool false,.int .i64 0,.string ⟨s.toArray⟩]
theorem St (v:V):(Ic v).length=3:=by cases v <;> rfl
def uN:V→Int
 | .num n=>n
 | .txt _=>0
def uS:V→List UInt8
 | .num _=>[]
 | .txt s=>s
def uB:V→Bool
 | .num _=>true
 | .txt _=>false
theorem Su (v:V):Ic v=[.bool (uB v),.int .i64 (uN v),.string ⟨(uS v).toArray⟩]:=by cases v <;> rfl
def bG (Z:Nat→Prop)(a:Option Addr)(n cap:Nat):Prop:=(a=none→cap=0)∧(0<n→∀b o,a=some ⟨b,o,none⟩→¬Z b)
theorem Ox (Z:Nat→Prop)(n:Nat):bG Z none n 0:=⟨fun _=>rfl,fun _ _ _ e=>by cases e⟩
theorem Oy {Z:Nat→Prop}{b o n cap:Nat}(h:¬Z b):bG Z (some ⟨b,o,none⟩) n cap:=⟨(fun e=>by cases e),fun _ _ _ e=>by injection e with e;injection e with e _;rw[←e];exact h⟩
def Ga (Z:Nat→Prop)(w:World):Prop:=∀k,Z k→k<w.heap.size
theorem Ga.no {Z:Nat→Prop}{w:World}(h:Ga Z w){k:Nat}(_:w.heap.size≤k):¬Z k:=fun a=>by have:=h k a;omega
theorem Ga.up {Z:Nat→Prop}{w w':World}(h:Ga Z w)(a:w.heap.size≤w'.heap.size):Ga Z w':=fun k b=>kV (h k b) a
def Ei (Z:Nat→Prop)(w:World)(v:Value)(r:Row):Prop:=∃a cap,v=.slice a r.length cap∧r.length≤cap∧(cap≤maxLen∧bG Z a r.length cap) ∧
 (r≠[]→∃b o c z,a=some ⟨b,o,none⟩∧w.heap[b]? =some (.cells c 202 z)∧∀i v,r[i]? =some v→∀j x,(Ic v)[j]? =some x→c[o+i*3+j]? =some x)
theorem Ei.kept {S:Nat→Prop}{w w':World}{v:Value}{r:Row}(h:Ei Z w v r)(k:Ab S w w')(g:∀i,S i→¬Is 202 w i):Ei Z w' v r:=by
 obtain⟨a,cap,e,j,l,m⟩:=h
 refine⟨a,cap,e,j,l,fun hr=>?_⟩
 obtain⟨b,o,c,f,e1,d,n⟩:=m hr
 exact⟨b,o,c,f,e1,(k.block b (Aa d) (fun p=>g b p ⟨c,f,d⟩)).trans d,n⟩
theorem Ei.Ah {w w':World}{v:Value}{r:Row}(h:Ei Z w v r)(k:Ab No w w'):Ei Z w' v r:=h.kept k (fun _ e=>e.elim)
theorem Ei.cells {w:World}{a:Option Addr}{n cap:Nat}{r:Row}(h:Ei Z w (.slice a n cap) r){i:Nat}{v:V}(hi:r[i]? =some v) :
 ∃b o,a=some ⟨b,o,none⟩∧b<w.heap.size∧w.cell? ⟨b,o+i*3,none⟩=some (.bool (uB v))∧w.cell? ⟨b,o+i*3+1,none⟩=some (.int .i64 (uN v))∧w.cell? ⟨b,o+i*3+2,none⟩=some (.string ⟨(uS v).toArray⟩):=by
 obtain⟨a',_,e,_,_,g⟩:=h
 injection e with e1 k l
 subst e1
 obtain⟨b,o,c,_,e1,d,j⟩:=g (by rintro rfl;cases hi)
 have f:=j i v hi
 rw[Su] at f
 exact⟨b,o,e1,Aa d,(Ae d _).trans (f 0 _ rfl),(Ae d _).trans (f 1 _ rfl),(Ae d _).trans (f 2 _ rfl)⟩
theorem Qp:∀(x y:List UInt8),Op.bytesLess x y=Do Xq x y
 | [],[]=>rfl
 |_::_,[]=>rfl
 | [],_::_=>rfl
 |a::x,b::y=>by
  rw[bytesLess_eq]
  rw[←bytesLess_eq,Op.bytesLess,Qp x y]
  simp only[Do,Xq]
  by_cases h:a=b
  ·subst h;simp
  ·rw[if_neg h];simp[h,UInt8.lt_iff_toNat_lt]
theorem WH {a b:Row}(j:a.map ty=b.map ty){i:Nat}{x y:V}(d:a[i]? =some x)(f:b[i]? =some y) :
 (uN x≠uN y→Kv (a.drop i) (b.drop i)=decide (uN x<uN y))∧(uN x=uN y→uS x≠uS y→Kv (a.drop i) (b.drop i)=Do Xq (uS x) (uS y))∧(uN x=uN y→uS x=uS y→Kv (a.drop i) (b.drop i)=Kv (a.drop (i+1)) (b.drop (i+1))):=by
 have g:ty x=ty y:=by
  have c:(a.map ty)[i]? =some (ty x):=by rw[kX,d];rfl
  have k:(b.map ty)[i]? =some (ty y):=by rw[kX,f];rfl
  rw[j,k] at c;injection c with c;exact c.symm
 have l:a.drop i=x::a.drop (i+1):=by rw[mC (kS.1 d).1,(kS.1 d).2]
 have o:b.drop i=y::b.drop (i+1):=by rw[mC (kS.1 f).1,(kS.1 f).2]
 rw[l,o]
 unfold Kv
 simp only[Do]
 cases x with
 |num n =>
  cases y with
  |num m =>
   simp only[uN,uS]
   refine⟨fun h=>?_,fun _ h=>absurd rfl h,fun h _=>?_⟩
   ·rw[if_neg (by intro e;injection e with e;exact h e)];rfl
   ·rw[h,if_pos rfl]
  |txt t=>cases g
 |txt s =>
  cases y with
  |num m=>cases g
  |txt t =>
   simp only[uN,uS]
   refine⟨fun h=>absurd rfl h,fun _ h=>?_,fun _ h=>?_⟩
   ·rw[if_neg (by intro e;injection e with e;exact h e)];rfl
   ·rw[h,if_pos rfl]
theorem Mn (av bv:Value)(a b:Row)(w:World)(z:Ei Z w av a)(A:Ei Z w bv b)(p:a.map ty=b.map ty)(I:a.length≤1000) :
 Calls Tryz.prog 142 #[av,bv] w fun e w'=>e=.returned (.bool (Kv a b))∧Ab No w w':=by
 have B:=Ad z;have q:=Ad A;have J:=Ad p
 have r:b.length=a.length:=by have:=congrArg List.length p;simpa using this.symm
 have C:=Ad r
 obtain⟨_,K,rfl,L,D,-⟩:=z
 obtain⟨_,M,rfl,E,F,-⟩:=A
 obtain⟨n,s⟩:∃n,a.length=n:=⟨_,rfl⟩
 have t:=Ad s
 rw[r] at q E⊢
 rw[s] at B q L E I⊢
 clear s r p
 have X:K≤9223372036854775807:=by unfold maxLen at D;omega
 have Y:M≤9223372036854775807:=by unfold maxLen at F;omega
 clear D F
 go_enter Tryz.func142,Tryz.ntmps142
 go_wp2_with fail
 go_loopg [5] n (fun k N wr=>∃i:Nat,i+k=n∧N=.int .i64 (i:Int)∧oH (Kv (a.drop i) (b.drop i)=Kv a b)∧Ab No w wr)
 case atStart=>exact⟨0,by omega,rfl,Ad rfl,Ab.refl _ _⟩
 case round =>
  obtain⟨i,_,rfl,j,d⟩:=hrel
  by_cases O:gk=0
  ·subst O
   have P:¬(i:Int)<(n:Int):=by omega
   have g:oH (Kv a b=false):=by
    show _=_
    rw[←j.o,show i=a.length by rw[t.o];omega,List.drop_length,←C.o,List.drop_length];rfl
   have h:=Ad d;clear d;go_wp2_with fail;go_ret
   exact⟨Az (by rw[g.o]),h.o⟩
  ·obtain⟨k,rfl⟩:∃k,gk=k+1:=⟨gk-1,by omega⟩
   have P:(i:Int)<(n:Int):=by omega
   have aa:(0:Int)≤(i:Int):=by omega
   obtain⟨x,u⟩:∃x,a[i]? =some x:=⟨_,kT (by have:=t.o;omega)⟩
   obtain⟨y,v⟩:∃y,b[i]? =some y:=⟨_,kT (by have:=t.o;have:=C.o;omega)⟩
   obtain⟨l,m,o⟩:=WH J.o u v
   have G:=B.o.Ah d;have H:=q.o.Ah d
   obtain⟨_,_,rfl,_,Q,_,R⟩:=G.cells u
   obtain⟨_,_,rfl,_,S,_,T⟩:=H.cells v
   have h:=Ad d;clear d G H u v Q S
   by_cases c:uN x=uN y
   ·have U:(uN x != uN y)=false:=by simp[c]
    by_cases f:uS x=uS y
    ·have V:(uS x == uS y)=true:=by simp[f]
     have W:oH (Kv (a.drop (i+1)) (b.drop (i+1))=Kv a b):=by show _=_;rw[←j.o];exact (o c f).symm
     clear l m o c f;go_wp2_with fail
     go_quiet (fail)
     go_wp2_with fail
     go_quiet (fail)
     go_wp2_with fail;go_roundg k
     case measure=>omega
     case rel=>exact⟨i+1,by omega,by go_num,W,h.o.drewN _⟩
    ·have V:(uS x == uS y)=false:=by simpa using f
     have g:oH (Kv a b=Do Xq (uS x) (uS y)):=by show _=_;rw[←j.o];exact m c f
     clear l m o c f;go_wp2_with fail
     go_quiet (fail)
     go_wp2_with fail
     go_quiet (fail)
     go_wp2_with fail
     go_quiet (fail)
     go_wp2_with fail;go_ret
     exact⟨Az (by rw[g.o];simp[Qp]),((h.o.drewN _).drewN _).drewN _⟩
   ·have U:(uN x != uN y)=true:=by simp[c]
    have g:oH (Kv a b=decide (uN x<uN y)):=by show _=_;rw[←j.o];exact l c
    clear l m o c R T;go_wp2_with fail
    go_quiet (fail)
    go_wp2_with fail
    go_quiet (fail)
    go_wp2_with fail;go_ret
    exact⟨Az g.o.symm,(h.o.drewN _).drewN _⟩
end Go.Proofs.YtdinjjmcmfjbfaaGreatDoor
namespace Go.Proofs.YtdinjjmcmfjbfaaGreatDoor
open Go.RowKit
theorem Ak {S:Nat→Prop}{w w':World}{base:Nat}{e:TypeId}{size:Nat}{v:Value}{n:Nat}{xs:List Value}(h:w.ownsRow base e size v n xs)(k:Ab S w w')(a:∀b,v.ownBlock=some b→¬S b):w'.ownsRow base e size v n xs:=by
 refine⟨h.1,?_⟩
 rcases h.2 with hn|⟨g,cap,c,rfl,d,hg,f⟩
 ·exact .inl hn
 ·exact .inr ⟨g,cap,c,rfl,d,(k.block g (Aa hg) (a g rfl)).trans hg,f⟩
theorem Ao {w:World}{base:Nat}{e:TypeId}{size n:Nat}{v:Value}{xs:List Value}(h:w.ownsRow base e size v n xs):∀r,v.ownBlock=some r→base≤r:=by
 rcases h.2 with ⟨rfl,_⟩|⟨g,cap,cur,rfl,hb,_⟩
 ·intro r hr;simp[Value.ownBlock] at hr
 ·intro r hr;simp[Value.ownBlock] at hr;omega
theorem Gx {a b:ByteArray}(h:a=b):Ending.returned (.string a)=.returned (.string b):=by rw[h]
theorem Gh (a b:List UInt8):(⟨a.toArray⟩:ByteArray)++⟨b.toArray⟩=⟨(a++b).toArray⟩:=by
 apply ByteArray.ext
 rw[ByteArray.data_append]
 simp
open Mo (V Row Bag ty Kv Co Cg D5)
variable {Z:Nat→Prop}
def Gv (e:Row×Int):Bag:=if e.2=0 then [] else [e]
def Fa (r:Row)(t:Int):Bag→Bool→Bag
 | [],true=>[]
 | [],false=>[(r,t)]
 |e::l,true=>Gv e++Fa r t l true
 |e::l,false=>if Kv r e.1 then (r,t)::(Gv e++Fa r t l true)
   else if Kv e.1 r then Gv e++Fa r t l false
   else Gv (e.1,e.2+t)++Fa r t l true
theorem Ze (r:Row)(t:Int){l:Bag}(h:Cg l):Fa r t l true=l:=by
 induction l with
 |nil=>rfl
 |cons e l a=>simp only[Fa,Gv];rw[if_neg h.2.1,a h.2.2];rfl
theorem WI (r:Row)(t:Int){l:Bag}(h:Cg l):Fa r t l (decide (t=0))=Co r t l:=by
 by_cases a:t=0
 ·subst a
  rw[show decide ((0:Int)=0)=true from rfl,Ze r 0 h]
  induction l with
  |nil=>rfl
  |cons e l b =>
   simp only[Co,if_pos,Int.add_zero]
   rw[if_neg h.2.1,←b h.2.2]
   simp
 ·rw[show decide (t=0)=false by simp[a]]
  induction l with
  |nil=>simp[Fa,Co,a]
  |cons e l b =>
   simp only[Fa,Co,Gv,if_neg a,if_neg h.2.1]
   rw[Ze r t h.2.2]
   split
   ·rfl
   ·split
    ·rw[b h.2.2];rfl
    ·split <;> rfl
def Dt (Z:Nat→Prop)(w:World)(v:Value)(l:Bag):Prop:=∃a cap,v=.slice a l.length cap∧l.length≤cap∧(cap≤maxLen∧bG Z a l.length cap) ∧
 ∀i e,l[i]? =some e→∃b o p n c,a=some ⟨b,o,none⟩∧b<w.heap.size∧w.cell? ⟨b,o+i*2,none⟩=some (.slice p n c)∧w.cell? ⟨b,o+i*2+1,none⟩=some (.int .i64 e.2)∧Ei Z w (.slice p n c) e.1
theorem Dt.Ah {w w':World}{v:Value}{l:Bag}(h:Dt Z w v l)(k:Ab No w w'):Dt Z w' v l:=by
 obtain⟨a,cap,e,f,g,j⟩:=h
 refine⟨a,cap,e,f,g,fun i x m=>?_⟩
 obtain⟨b,o,p,n,c,e1,d,q,c1,hr⟩:=j i x m
 exact⟨b,o,p,n,c,e1,kV d k.size,(k.cell d oI).trans q,(k.cell d oI).trans c1,hr.Ah k⟩
def EY (x:Value×(Row×Int)):List Value:=[x.1,.int .i64 x.2.2]
abbrev Kz (w:World)(base:Nat)(v:Value)(xs:List (Value×(Row×Int))):Prop:=w.ownsRow base 217 2 v xs.length (xs.flatMap EY)
def Uo (Z:Nat→Prop)(w:World)(xs:List (Value×(Row×Int))):Prop:=∀x∈xs,(∃p n c,x.1=.slice p n c)∧Ei Z w x.1 x.2.1
theorem Uo.Ah {w w':World}{xs:List (Value×(Row×Int))}(h:Uo Z w xs)(k:Ab No w w'):Uo Z w' xs:=fun x a=>⟨(h x a).1,(h x a).2.Ah k⟩
theorem Uo.push {w:World}{xs:List (Value×(Row×Int))}(h:Uo Z w xs){p:Option Addr}{n c:Nat}{r:Row}(hr:Ei Z w (.slice p n c) r)(t:Int):Uo Z w (xs++[(.slice p n c,(r,t))]):=fun x a=>by
 rcases lC.1 a with a|a
 ·exact h x a
 ·simp at a;subst a;exact⟨⟨_,_,_,rfl⟩,hr⟩
theorem MD:∀(xs:List (Value×(Row×Int))) (i:Nat) (x:Value×(Row×Int)),xs[i]? =some x→∀j y,(EY x)[j]? =some y→(xs.flatMap EY)[i*2+j]? =some y
 | [],i,x,h,_,_,_=>by simp at h
 |z::xs,0,x,h,j,y,a=>by
  have:z=x:=by simpa using h
  subst this
  rw[mE,nZ,lK,lA (kS.1 a).1];exact a
 |z::xs,i+1,x,h,j,y,a=>by
  have b:=MD xs i x (by simpa using h) j y a
  have e:(EY z).length=2:=rfl
  rw[mE,kY (by rw[e];omega),e,show (i+1)*2+j-2=i*2+j by omega];exact b
theorem Kz.read {w:World}{base:Nat}{v:Value}{xs:List (Value×(Row×Int))}(h:Kz w base v xs)(d:∀k,Z k→k<base)(hr:Uo Z w xs):Dt Z w v (xs.map (·.2)):=by
 obtain⟨_,⟨rfl,f⟩|⟨g,cap,_,rfl,_,hg,l,m,_,o⟩⟩:=h
 ·have:xs=[]:=lP f
  subst this
  exact⟨none,0,rfl,by simp,⟨by simp,Ox _ _⟩,fun i x a=>by simp at a⟩
 ·refine⟨some ⟨g,0,none⟩,cap,by simp,by simpa using l,⟨m,Oy fun q=>by have:=d g q;omega⟩,fun i e b=>?_⟩
  rw[kX] at b
  obtain⟨x,a,rfl⟩:=lJ.1 b
  have key:∀j y,(EY x)[j]? =some y→w.cell? ⟨g,i*2+j,none⟩=some y:=fun j y r=>by
   have:=MD xs i x a j y r
   rw[←o,lM] at this
   split at this
   ·rw[Ae hg,←lU];exact this
   ·cases this
  obtain⟨⟨p,n,c,e1⟩,s⟩:=hr x (kW a)
  refine⟨g,0,p,n,c,rfl,Aa hg,?_,?_,e1 ▸ s⟩
  ·rw[lK,←e1];exact key 0 _ rfl
  ·rw[lK];exact key 1 _ rfl
theorem Kz.put {w':World}{base:Nat}{v':Value}{xs:List (Value×(Row×Int))}{a:Value}{r:Row}{t:Int}(h:w'.ownsRow base 217 2 v' (xs.length+1) (xs.flatMap EY++[a,.int .i64 t])):Kz w' base v' (xs++[(a,(r,t))]):=by
 have e1:(xs++[(a,(r,t))]).flatMap EY=xs.flatMap EY++[a,.int .i64 t]:=by rw[nG];rfl
 unfold Kz
 rw[e1,kU];exact h
theorem Jn (W:World)(a v:Value)(t:TypeId):∀j x,[a,v][j]? =some x→(W.alloc (.cells #[a,v] t)).cell? ((⟨W.heap.size,0,none⟩:Addr).add j)=some x:=by
 intro j x b
 have c:(⟨W.heap.size,0,none⟩:Addr).add j=⟨W.heap.size,j,none⟩:=by unfold Addr.add;split <;> simp_all
 rw[c,Ae (MapKept.heap_alloc W _).1]
 simpa using b
theorem Io (W:World)(o:Obj)(a v:Value)(t:TypeId):∀j x,[a,v][j]? =some x→((W.alloc o).alloc (.cells #[a,v] t)).cell? ((⟨W.heap.size+1,0,none⟩:Addr).add j)=some x:=by
 have h:=Jn (W.alloc o) a v t
 rw[show (W.alloc o).heap.size=W.heap.size+1 by simp] at h
 exact h
theorem WJ {k m:Nat}(h:k=m)(_:m≤10000000000):k+1≤maxLen:=by subst h;unfold maxLen;omega
theorem EZ {k m:Nat}(h:k=m)(_:m≤10000000000):(k+1)*32≤140737488355328:=by subst h;omega
theorem fB:(Tryz.prog.info? 217).map (fun i=>(i.zero,i.size,i.bytes))=some (some (.agg #[.slice none 0 0,.int .i64 0]),2,32):=by kernel_rfl
def Rc (Z:Nat→Prop)(w:World)(l:Bag)(rv:Value)(w':World):Prop:=Dt Z w' rv l∧Ab No w w'
theorem U8 (lv a3:Value)(l:Bag)(r:Row)(t:Int)(ts:List Bool)(w:World)(a4:Dt Z w lv l)(hr:Ei Z w a3 r)(ai:r.map ty=ts)(a5:∀e∈l,e.1.map ty=ts)(a6:ts.length≤1000)(bs:l.length≤1000000000)
 (_: -1000000000000000000≤t∧t≤1000000000000000000) (a7:∀e∈l,-1000000000000000000≤e.2∧e.2≤1000000000000000000) (a8:Cg l) (a9:Ga Z w) :
 Calls Tryz.prog 96 #[lv,a3,.int .i64 t] w fun e w'=>∃v,e=.returned v∧Rc Z w (Co r t l) v w':=by
 have ba:=Ad a4;have bb:=Ad a9;have R:=Ad hr;have bt:=Ad a5;have bu:=Ad a7;have aj:=Ad ai
 have bv:r.length≤1000:=by rw[←ai,lB] at a6;exact a6
 have bw:=Ad (WI r t a8)
 obtain⟨_,bx,rfl,bz,bc,-⟩:=a4
 obtain⟨s,u,rfl,b0,b1,-⟩:=hr
 obtain⟨n,ak⟩:∃n,l.length=n:=⟨_,rfl⟩
 have bd:=Ad ak
 obtain⟨y,be⟩:∃n,r.length=n:=⟨_,rfl⟩
 rw[ak] at ba bz bs⊢
 rw[be] at R b0 bv⊢
 obtain⟨G,H,I,J,K⟩:=info_parts fB
 clear ak be ai a5 a7 a8 a9
 have ch:bx≤9223372036854775807:=by unfold maxLen at bc;omega
 clear bc b1
 go_enter Tryz.func96,Tryz.ntmps96
 go_wp2_with fail
 go_loopg [7,8,9] n (fun k b2 b3 b4 wr=>∃(i:Nat) (xs:List (Value×(Row×Int))) (done:Bool),i+k=n∧b3=.bool done∧b4=.int .i64 (i:Int)∧xs.length≤2*i∧oH (Kz wr w.heap.size b2 xs)∧oH (Uo Z w xs)∧oH (xs.map (·.2)++Fa r t (l.drop i) done=Co r t l)∧Ab No w wr)
 case atStart=>exact⟨0,[],decide (t=0),by omega,rfl,rfl,by simp,World.ownsRow_nil _ _ _ _,Ad (fun x h=>by cases h),bw,Ab.refl _ _⟩
 case round =>
  obtain⟨i,xs,done,_,rfl,rfl,_,hO,B,A,S⟩:=hrel
  by_cases b5:gk=0
  ·subst b5
   have h:¬(i:Int)<(n:Int):=by omega
   have al:=A.o
   rw[show i=l.length by rw[bd.o];omega,List.drop_length] at al
   have am:=Ad al;have C:=Ad S;clear S al A
   cases done
   ·have an:=hO.o
    have b6:=Jn wr (.slice s y u) (.int .i64 t) 217
    have b7:xs.length+1≤maxLen:=by unfold maxLen;omega
    have z:(xs.length+1)*32≤140737488355328:=by omega
    have b8:=C.o.size
    go_wp2_with (first|(at_builtin;refine wpList_append_own_at _ rfl _ _ 195 rfl w.heap.size 217 G (.agg #[.slice none 0 0,.int .i64 0]) 2 32 Tryz.underlying195 H I J K rfl (by decide) _ _ _ rfl (an.alloc _) ⟨wr.heap.size,0,none⟩ 1 1 [.slice s y u,.int .i64 t] rfl rfl b6 (by simp[Value.oneCell']) b7 z (by simp;omega) ?_;intro v w5 an hg _ _)|fail)
    go_ret
    refine⟨_,rfl,?_,(C.o.alloc _).grown hg (fun x h=>.inl (Ao hO.o x h))⟩
    have b9:Ab No w w5:=(C.o.alloc _).grown hg (fun x h=>.inl (Ao hO.o x h))
    have:=(Kz.put (r:=r) an).read bb.o ((B.o.push R.o t).Ah b9)
    rw[lF] at this
    rw[←am.o];exact this
   ·go_wp2_with fail
    go_ret
    refine⟨_,rfl,?_,C.o⟩
    have:=hO.o.read bb.o (B.o.Ah C.o)
    rw[show Fa r t [] true=[] from rfl,nR] at am
    rw[←am.o];exact this
  ·obtain⟨k,rfl⟩:∃k,gk=k+1:=⟨gk-1,by omega⟩
   have h:(i:Int)<(n:Int):=by omega
   have ci:(0:Int)≤(i:Int):=by omega
   obtain⟨e,V⟩:∃e,l[i]? =some e:=⟨_,kT (by have:=bd.o;omega)⟩
   have bf:l.drop i=e::l.drop (i+1):=by rw[mC (kS.1 V).1,(kS.1 V).2]
   have ao:=kW V;have bg:=bu.o e ao;have bh:=bt.o e ao
   obtain⟨_,_,ca,_,_,bi⟩:=id ba.o
   injection ca with e1 cb cc
   subst e1
   obtain⟨b,o,p,d,f,rfl,z,ap,c1,bj⟩:=bi i e V
   have E:=Ad bj
   obtain⟨c,a⟩:=e
   have aq:oH (c.map ty=ts):=bh;have bg: -1000000000000000000≤a∧a≤1000000000000000000:=bg;have c1:w.cell? ⟨b,o+i*2+1,none⟩=some (.int .i64 a):=c1;have E:oH (Ei Z w (.slice p d f) c):=E
   have cd:c.length≤1000:=by have:=congrArg List.length aq.o;rw[lB] at this;omega
   have ar:=(S.cell z (o:=o+i*2) oI).trans ap;have a1:=(S.cell z (o:=o+i*2+1) oI).trans c1;have C:=Ad S;have ac:=Ad ap;have ad:=Ad c1
   rw[bf] at A
   clear S bi cb cc bj ao bh V bf ap c1;go_wp2_with fail;refine (Mn _ _ c r _ (E.o.Ah C.o) (R.o.Ah C.o) (aq.o.trans aj.o.symm) cd).mono ?_;rintro e bk ⟨rfl,au⟩;have T:oH (Ab No w bk):=C.o.seq au
   have bl:oH (Kz bk w.heap.size u7 xs):=Ak hO.o au (fun _ _ av=>av.elim)
   have ar:=(T.o.cell z (o:=o+i*2) oI).trans ac.o;have a1:=(T.o.cell z (o:=o+i*2+1) oI).trans ad.o;clear au hO;go_wp2_with fail
   refine (Mn _ _ r c _ (R.o.Ah T.o) (E.o.Ah T.o) (aj.o.trans aq.o.symm) (by have:=congrArg List.length aj.o;rw[lB] at this;omega)).mono ?_
   rintro e j ⟨rfl,aw⟩;have L:oH (Ab No w j):=T.o.seq aw
   have ax:oH (Kz j w.heap.size u7 xs):=Ak bl.o aw (fun _ _ av=>av.elim)
   clear aw bl T C ar a1;have ar:=(L.o.cell z (o:=o+i*2) oI).trans ac.o;have a1:=(L.o.cell z (o:=o+i*2+1) oI).trans ad.o;have b8:=L.o.size;have ae:oH (Ab No w (j.alloc (.cells #[.slice p d f,.int .i64 a] 217))):=L.o.alloc _;have af:oH (Kz (j.alloc (.cells #[.slice p d f,.int .i64 a] 217)) w.heap.size u7 xs):=ax.o.alloc _
   cases done
   ·by_cases W:Kv r c=true
    ·have bm:=Jn j (.slice s y u) (.int .i64 t) 217
     have bn:xs.length+1≤maxLen:=by unfold maxLen;omega
     have bo:(xs.length+1)*32≤140737488355328:=by omega
     have ag:=ax.o
     have ay:(xs++[((.slice s y u:Value),(r,t))]).length=xs.length+1:=by rw[kU];rfl
     have M:(xs++[((.slice s y u:Value),(r,t))]).length+1≤maxLen:=WJ ay (by omega)
     have N:((xs++[((.slice s y u:Value),(r,t))]).length+1)*32≤140737488355328:=EZ ay (by omega)
     clear ay
     have bp:oH (Fa r t ((c,a)::l.drop (i+1)) false=(r,t)::(Gv (c,a)++Fa r t (l.drop (i+1)) true)):=by show _=_;simp only[Fa];rw[W];rfl
     rw[W]
     clear W
     by_cases g:a=0
     ·have O:(a != 0)=false:=by simp[g]
      have q:oH ((xs++[((.slice s y u:Value),(r,t))]).map (·.2)++Fa r t (l.drop (i+1)) true=Co r t l):=by show _=_;rw[←A.o,bp.o];simp[Gv,g]
      clear g
      go_wp2_with (first|(at_builtin;refine wpList_append_own_at _ rfl _ _ 195 rfl w.heap.size 217 G (.agg #[.slice none 0 0,.int .i64 0]) 2 32 Tryz.underlying195 H I J K rfl (by decide) _ _ _ rfl (ag.alloc _) ⟨j.heap.size,0,none⟩ 1 1 [.slice s y u,.int .i64 t] rfl rfl bm (by simp[Value.oneCell']) bn bo (by simp;omega) ?_;intro vq w5 X Y _ _;have D:oH (Ab No w w5):=(L.o.alloc _).grown Y (fun x h=>.inl (Ao ag x h));have ce:=(D.o.cell z (o:=o+i*2) oI).trans ac.o;have cf:=(D.o.cell z (o:=o+i*2+1) oI).trans ad.o;have ah:oH (Kz w5 w.heap.size vq (xs++[((.slice s y u:Value),(r,t))])):=Kz.put X;have cg:=D.o.size;clear X Y)|fail)
      go_roundg k
      case measure=>omega
      case rel=>exact⟨i+1,(xs++[((.slice s y u:Value),(r,t))]),true,by omega,rfl,by go_num,by (repeat rw[kU,lY]);omega,ah.o.alloc _,B.o.push R.o t,q,D.o.alloc _⟩
     ·have O:(a != 0)=true:=by simp[g]
      have q:oH (((xs++[((.slice s y u:Value),(r,t))])++[((.slice p d f:Value),(c,a))]).map (·.2)++Fa r t (l.drop (i+1)) true=Co r t l):=by show _=_;rw[←A.o,bp.o];simp[Gv,g]
      clear g
      go_wp2_with (first|(at_builtin;refine wpList_append_own_at _ rfl _ _ 195 rfl w.heap.size 217 G (.agg #[.slice none 0 0,.int .i64 0]) 2 32 Tryz.underlying195 H I J K rfl (by decide) _ _ _ rfl (ag.alloc _) ⟨j.heap.size,0,none⟩ 1 1 [.slice s y u,.int .i64 t] rfl rfl bm (by simp[Value.oneCell']) bn bo (by simp;omega) ?_;intro vq w5 X Y _ _;have D:oH (Ab No w w5):=(L.o.alloc _).grown Y (fun x h=>.inl (Ao ag x h));have ce:=(D.o.cell z (o:=o+i*2) oI).trans ac.o;have cf:=(D.o.cell z (o:=o+i*2+1) oI).trans ad.o;have ah:oH (Kz w5 w.heap.size vq (xs++[((.slice s y u:Value),(r,t))])):=Kz.put X;have cg:=D.o.size;clear X Y)|(at_builtin;refine wpList_append_own_at _ rfl _ _ 195 rfl w.heap.size 217 G (.agg #[.slice none 0 0,.int .i64 0]) 2 32 Tryz.underlying195 H I J K rfl (by decide) _ _ _ rfl ((ah.o.alloc (.cells #[.slice p d f,.int .i64 a] 217)).alloc _) ⟨w5.heap.size+1,0,none⟩ 1 1 [.slice p d f,.int .i64 a] rfl rfl (Io w5 (.cells #[.slice p d f,.int .i64 a] 217) (.slice p d f) (.int .i64 a) 217) (by simp[Value.oneCell']) M N (by simp;omega) ?_;intro az a0 P Q _ _)|fail)
      go_roundg k
      case measure=>omega
      case rel=>exact⟨i+1,(xs++[((.slice s y u:Value),(r,t))])++[((.slice p d f:Value),(c,a))],true,by omega,rfl,by go_num,by (repeat rw[kU,lY]);omega,Kz.put P,Ad ((B.o.push R.o t).push E.o _),q,((D.o.alloc _).alloc _).grown Q (fun x h=>.inl (Ao ah.o x h))⟩
    ·have U:Kv r c=false:=by simpa using W
     clear W
     by_cases aa:Kv c r=true
     ·rw[U,aa]
      by_cases g:a=0
      ·have O:(a != 0)=false:=by simp[g]
       have q:oH (xs.map (·.2)++Fa r t (l.drop (i+1)) false=Co r t l):=by show _=_;rw[←A.o];rw[show Fa r t ((c,a)::l.drop (i+1)) false=Gv (c,a)++Fa r t (l.drop (i+1)) false by simp only[Fa];rw[U,aa];rfl];simp[Gv,g]
       clear g;go_wp2_with fail;go_roundg k
       case measure=>omega
       case rel=>exact⟨i+1,xs,false,by omega,rfl,by go_num,by (repeat rw[kU,lY]);omega,af,B,q,ae.o⟩
      ·have O:(a != 0)=true:=by simp[g]
       have q:oH ((xs++[((.slice p d f:Value),(c,a))]).map (·.2)++Fa r t (l.drop (i+1)) false=Co r t l):=by show _=_;rw[←A.o];rw[show Fa r t ((c,a)::l.drop (i+1)) false=Gv (c,a)++Fa r t (l.drop (i+1)) false by simp only[Fa];rw[U,aa];rfl];simp[Gv,g]
       have ab:=Io j ((.cells #[.slice p d f,.int .i64 a] 217)) (.slice p d f) (.int .i64 (a)) 217
       have M:xs.length+1≤maxLen:=WJ (m:=xs.length) rfl (by omega)
       have N:(xs.length+1)*32≤140737488355328:=EZ (m:=xs.length) rfl (by omega)
       have F:Kz (j.alloc (.cells #[.slice p d f,.int .i64 a] 217)) w.heap.size _ xs:=af;clear g
       go_wp2_with (first|(at_builtin;refine wpList_append_own_at _ rfl _ _ 195 rfl w.heap.size 217 G (.agg #[.slice none 0 0,.int .i64 0]) 2 32 Tryz.underlying195 H I J K rfl (by decide) _ _ _ rfl (F.alloc _) ⟨j.heap.size+1,0,none⟩ 1 1 [.slice p d f,.int .i64 (a)] rfl rfl ab (by simp[Value.oneCell']) M N (by simp;omega) ?_;intro az a0 P Q _ _)|fail)
       go_roundg k
       case measure=>omega
       case rel=>exact⟨i+1,xs++[((.slice p d f:Value),(c,a))],false,by omega,rfl,by go_num,by (repeat rw[kU,lY]);omega,Kz.put P,Ad ((B).o.push E.o _),q,(ae.o.alloc _).grown Q (fun x h=>.inl (Ao F x h))⟩
     ·have a2:Kv c r=false:=by simpa using aa
      clear aa
      rw[U,a2]
      have cj: -9223372036854775808≤a+t:=by omega
      have ck:a+t≤9223372036854775807:=by omega
      have bq:oH (Ab No w (j.alloc (.cells #[.slice p d f,.int .i64 (a+t)] 217))):=L.o.alloc _;have br:oH (Kz (j.alloc (.cells #[.slice p d f,.int .i64 (a+t)] 217)) w.heap.size u7 xs):=ax.o.alloc _
      by_cases g:(a+t)=0
      ·have O:((a+t) != 0)=false:=by simp[g]
       have q:oH (xs.map (·.2)++Fa r t (l.drop (i+1)) true=Co r t l):=by show _=_;rw[←A.o];rw[show Fa r t ((c,a)::l.drop (i+1)) false=Gv (c,a+t)++Fa r t (l.drop (i+1)) true by simp only[Fa];rw[U,a2];rfl];simp[Gv,g]
       clear g;go_wp2_with fail;go_roundg k
       case measure=>omega
       case rel=>exact⟨i+1,xs,true,by omega,rfl,by go_num,by (repeat rw[kU,lY]);omega,br,B,q,bq.o⟩
      ·have O:((a+t) != 0)=true:=by simp[g]
       have q:oH ((xs++[((.slice p d f:Value),(c,(a+t)))]).map (·.2)++Fa r t (l.drop (i+1)) true=Co r t l):=by show _=_;rw[←A.o];rw[show Fa r t ((c,a)::l.drop (i+1)) false=Gv (c,a+t)++Fa r t (l.drop (i+1)) true by simp only[Fa];rw[U,a2];rfl];simp[Gv,g]
       have ab:=Io j ((.cells #[.slice p d f,.int .i64 (a+t)] 217)) (.slice p d f) (.int .i64 ((a+t))) 217
       have M:xs.length+1≤maxLen:=WJ (m:=xs.length) rfl (by omega)
       have N:(xs.length+1)*32≤140737488355328:=EZ (m:=xs.length) rfl (by omega)
       have F:Kz (j.alloc (.cells #[.slice p d f,.int .i64 (a+t)] 217)) w.heap.size _ xs:=br;clear g
       go_wp2_with (first|(at_builtin;refine wpList_append_own_at _ rfl _ _ 195 rfl w.heap.size 217 G (.agg #[.slice none 0 0,.int .i64 0]) 2 32 Tryz.underlying195 H I J K rfl (by decide) _ _ _ rfl (F.alloc _) ⟨j.heap.size+1,0,none⟩ 1 1 [.slice p d f,.int .i64 ((a+t))] rfl rfl ab (by simp[Value.oneCell']) M N (by simp;omega) ?_;intro az a0 P Q _ _)|fail)
       go_roundg k
       case measure=>omega
       case rel=>exact⟨i+1,xs++[((.slice p d f:Value),(c,(a+t)))],true,by omega,rfl,by go_num,by (repeat rw[kU,lY]);omega,Kz.put P,Ad ((B).o.push E.o _),q,(bq.o.alloc _).grown Q (fun x h=>.inl (Ao F x h))⟩
   ·skip
    by_cases g:a=0
    ·have O:(a != 0)=false:=by simp[g]
     have q:oH (xs.map (·.2)++Fa r t (l.drop (i+1)) true=Co r t l):=by show _=_;rw[←A.o];rw[show Fa r t ((c,a)::l.drop (i+1)) true=Gv (c,a)++Fa r t (l.drop (i+1)) true from rfl];simp[Gv,g]
     clear g;go_wp2_with fail;go_roundg k
     case measure=>omega
     case rel=>exact⟨i+1,xs,true,by omega,rfl,by go_num,by (repeat rw[kU,lY]);omega,af,B,q,ae.o⟩
    ·have O:(a != 0)=true:=by simp[g]
     have q:oH ((xs++[((.slice p d f:Value),(c,a))]).map (·.2)++Fa r t (l.drop (i+1)) true=Co r t l):=by show _=_;rw[←A.o];rw[show Fa r t ((c,a)::l.drop (i+1)) true=Gv (c,a)++Fa r t (l.drop (i+1)) true from rfl];simp[Gv,g]
     have ab:=Io j ((.cells #[.slice p d f,.int .i64 a] 217)) (.slice p d f) (.int .i64 (a)) 217
     have M:xs.length+1≤maxLen:=WJ (m:=xs.length) rfl (by omega)
     have N:(xs.length+1)*32≤140737488355328:=EZ (m:=xs.length) rfl (by omega)
     have F:Kz (j.alloc (.cells #[.slice p d f,.int .i64 a] 217)) w.heap.size _ xs:=af;clear g
     go_wp2_with (first|(at_builtin;refine wpList_append_own_at _ rfl _ _ 195 rfl w.heap.size 217 G (.agg #[.slice none 0 0,.int .i64 0]) 2 32 Tryz.underlying195 H I J K rfl (by decide) _ _ _ rfl (F.alloc _) ⟨j.heap.size+1,0,none⟩ 1 1 [.slice p d f,.int .i64 (a)] rfl rfl ab (by simp[Value.oneCell']) M N (by simp;omega) ?_;intro az a0 P Q _ _)|fail)
     go_roundg k
     case measure=>omega
     case rel=>exact⟨i+1,xs++[((.slice p d f:Value),(c,a))],true,by omega,rfl,by go_num,by (repeat rw[kU,lY]);omega,Kz.put P,Ad ((B).o.push E.o _),q,(ae.o.alloc _).grown Q (fun x h=>.inl (Ao F x h))⟩
end Go.Proofs.YtdinjjmcmfjbfaaGreatDoor
namespace Go.Proofs.YtdinjjmcmfjbfaaGreatDoor
open Go.RowKit
open Mo (V Row Bag ty Kv Co Cg D5 Af cnt neg)
variable {Z:Nat→Prop}
def B3 (l acc:Bag):Bag:=l.foldl (fun a e=>Co e.1 e.2 a) acc
theorem Ft:∀(l:Bag) {acc:Bag},Cg acc→Cg (B3 l acc)
 | [],_,h=>h
 |e::l,_,h=>Ft l (Mo.CD e.1 e.2 h)
theorem bH (r:Row)(t:Int)(l:Bag)(q:Row):cnt (Co r t l) q=(if r=q then t else 0)+cnt l q:=by
 rw[Mo.Ev,Mo.KT,Mo.Ev];split <;> simp
theorem Nh:∀(l acc:Bag),Mo.Be (B3 l acc) (acc++l)
 | [],acc=>by simp[B3];exact Mo.Be.refl _
 |e::l,acc=>fun q=>by
  show cnt (B3 l (Co e.1 e.2 acc)) q=_
  rw[Nh l _ q,Mo.Am,bH,Mo.Am]
  show _=cnt acc q+((if e.1=q then e.2 else 0)+cnt l q)
  omega
theorem Jo (l:Bag){acc:Bag}(h:Cg acc):B3 l acc=Af (acc++l) :=
 (Ft l h).uniq (Mo.Aq _) ((Nh l acc).trans (Mo.Bv _).symm)
theorem QG {l:Bag}(h:Cg l)(i:Nat):Cg (l.take i):=by
 induction l generalizing i with
 |nil=>simp[Cg]
 |cons e l a =>
  cases i with
  |zero=>simp[Cg]
  |succ i=>exact⟨fun x b=>h.1 x (mY b),h.2.1,a h.2.2 i⟩
theorem Wu {l:Bag}(h:Cg l){M:Int}(_:0≤M)(b:∀e∈l,-M≤e.2∧e.2≤M)(r:Row): -M≤cnt l r∧cnt l r≤M:=by
 by_cases c:cnt l r=0
 ·omega
 ·obtain⟨x,a,rfl⟩:=Mo.Cg.Dd c
  rw[h.Dl a];exact b x a
theorem BH {a l:Bag}(b:Cg a)(d:Cg l){M:Int}(c:0≤M)(f:∀e∈a,-M≤e.2∧e.2≤M)(g:∀e∈l,-M≤e.2∧e.2≤M):∀e∈B3 (neg l) a,-(2*M)≤e.2∧e.2≤2*M:=by
 intro e h;have i:=(Ft (neg l) b).Dl h
 rw[Nh,Mo.Am,Mo.Ej] at i
 have j:=Wu b c f e.1;have k:=Wu d c g e.1;omega
theorem Re {l acc:Bag}{e:Row×Int}(h:e∈B3 l acc):(∃x∈acc,x.1=e.1)∨∃x∈l,x.1=e.1:=by
 induction l generalizing acc with
 |nil=>exact .inl ⟨e,h,rfl⟩
 |cons y l c =>
  rcases c (acc:=Co y.1 y.2 acc) h with ⟨x,b,a⟩|⟨x,b,a⟩
  ·rcases Mo.Zu b with h1|⟨d,f,g⟩
   ·exact .inr ⟨y,by simp,h1.symm.trans a⟩
   ·exact .inl ⟨d,f,g.trans a⟩
  ·exact .inr ⟨x,by simp[b],a⟩
theorem Rf (l acc:Bag):(B3 l acc).length≤acc.length+l.length:=by
 induction l generalizing acc with
 |nil=>simp[B3]
 |cons y l a=>have b:=a (Co y.1 y.2 acc);have c:=Mo.KU y.1 y.2 acc;show (B3 l (Co y.1 y.2 acc)).length≤_;simp only[lN];omega
theorem Oz (l acc:Bag)(e:Row×Int):B3 (l++[e]) acc=Co e.1 e.2 (B3 l acc):=by unfold B3;rw[List.foldl_append];rfl
theorem WK (av bv:Value)(a b:Bag)(ts:List Bool)(w:World)(E:Dt Z w av a)(F:Dt Z w bv b)(G:∀e∈a,e.1.map ty=ts)(H:∀e∈b,e.1.map ty=ts)(aa:ts.length≤1000)(_:a.length≤400000000)(ab:b.length≤400000000)
 (I:∀e∈a,-500000000000000000≤e.2∧e.2≤500000000000000000) (J:∀e∈b,-500000000000000000≤e.2∧e.2≤500000000000000000) (m:Cg a) (K:Cg b) (L:Ga Z w) :
 Calls Tryz.prog 97 #[av,bv] w fun e w'=>∃v,e=.returned v∧Rc Z w (Af (a++neg b)) v w':=by
 have N:=Ad F;have ac:=Ad L;clear L;have ad:=Ad G;have O:=Ad H;have ae:=Ad I;have P:=Ad J;have Q:=Ad m;have af:=Ad K;have HEq:=Ad (Jo (neg b) m);have ag:=Ad E
 obtain⟨_,_,rfl,_,ah,-⟩:=E
 obtain⟨_,ai,rfl,aj,R,-⟩:=F
 obtain⟨n,q⟩:∃n,b.length=n:=⟨_,rfl⟩
 have r:=Ad q
 rw[q] at N aj ab⊢
 have a4:ai≤9223372036854775807:=by unfold maxLen at R;omega
 clear q R ah G H I J m K
 go_enter Tryz.func97,Tryz.ntmps97
 go_wp2_with fail
 go_loopg [5,6] n (fun k ak al wr=>∃i:Nat,i+k=n∧al=.int .i64 (i:Int)∧oH (Dt Z wr ak (B3 (neg (b.take i)) a))∧Ab No w wr)
 case atStart=>exact⟨0,by omega,rfl,ag,Ab.refl _ _⟩
 case round =>
  obtain⟨i,_,rfl,hO,d⟩:=hrel
  by_cases am:gk=0
  ·subst am
   have f:¬(i:Int)<(n:Int):=by omega
   have an:oH (Dt Z wr u5 (Af (a++neg b))):=by
    have s:=hO.o
    rw[show i=b.length by rw[r.o];omega,mK,HEq.o] at s
    exact s
   have h:=Ad d;clear d;go_wp2_with fail;go_ret
   exact⟨_,rfl,an.o,h.o⟩
  ·obtain⟨k,rfl⟩:∃k,gk=k+1:=⟨gk-1,by omega⟩
   have f:(i:Int)<(n:Int):=by omega
   have a5:(0:Int)≤(i:Int):=by omega
   obtain⟨e,j⟩:∃e,b[i]? =some e:=⟨_,kT (by have:=r.o;omega)⟩
   have t:=kW j;have u:=P.o e t
   obtain⟨_,_,ao,_,_,S⟩:=N.o.Ah d
   injection ao with e1 ap aq
   subst e1
   obtain⟨g,o,p,z,A,rfl,hg,T,c1,U⟩:=S i e j
   have ar:oH (B3 (neg (b.take (i+1))) a=Co e.1 (-e.2) (B3 (neg (b.take i)) a)):=by
    show _=_
    rw[lL,j]
    have:neg (b.take i++(some e).toList)=neg (b.take i)++[(e.1,-e.2)]:=by unfold neg;rw[lF];rfl
    rw[this,Oz]
   have h:=Ad d
   obtain⟨V,c⟩:=e
   have c1:wr.cell? ⟨g,o+i*2+1,none⟩=some (.int .i64 c):=c1;have a6: -500000000000000000≤c:=u.1;have a7:c≤500000000000000000:=u.2
   have X:IntKind.i64.wrap (-c)= -c:=IntWalk.i64_in _ (by omega)
   have au:oH (∀(W:World) (_:Ab No wr W),Calls Tryz.prog 96 #[u5,.slice p z A,.int .i64 (IntKind.i64.wrap (-c))] W fun e w'=>∃v,e=.returned v∧Rc Z W (Co V (-c) (B3 (neg (b.take i)) a)) v w'):=by
    intro W B
    rw[X]
    exact U8 u5 (.slice p z A) (B3 (neg (b.take i)) a) V (-c) ts W (hO.o.Ah B) (U.Ah B) (O.o _ t)
     (fun x f=>by
       rcases Re f with ⟨y,C,D⟩|⟨y,C,D⟩
       ·rw[←D];exact ad.o y C
       ·rw[←D]
        obtain⟨aw,ax,rfl⟩:=lD.1 C
        exact O.o aw (mY ax)) aa
     (by
       have s:=Rf (neg (b.take i)) a
       have a8:(neg (b.take i)).length≤b.length:=by unfold neg;rw[lB];exact List.length_take_le' _ _
       have a9:=r.o
       omega)
     (by omega)
     (fun x f=>by
       have:=BH Q.o (QG af.o i) (M:=500000000000000000) (by omega) ae.o (fun e ay=>P.o e (mY ay)) x f
       omega)
     (Ft _ Q.o) ((ac.o.up h.o.size).up B.size)
   clear X;clear d S ap aq U t j u;go_wp2_with fail
   go_region_held3 (fun w'=>w'.cell? ⟨g,o+i*2,none⟩=some (.slice p z A)∧w'.cell? ⟨g,o+i*2+1,none⟩=some (.int .i64 c)) (go_keep)
    (first
      |(go_at_call 96
        refine (au.o _ (Ab.refl No wr).drew).mono ?_;rintro e az ⟨_,rfl,Y,l⟩;have a0:=(l.cell hg oI).trans T;have a1:=(l.cell hg oI).trans c1;have a2:=Ad Y;have a3:oH (Ab No w az):=h.o.drew.seq l
        clear l Y))
   clear T c1 a0 a1;go_wp2_with fail;go_roundg k
   case measure=>omega
   case rel=>exact⟨i+1,by omega,by go_num,by rw[ar.o];exact a2,a3.o⟩
end Go.Proofs.YtdinjjmcmfjbfaaGreatDoor
namespace Go.Proofs.YtdinjjmcmfjbfaaGreatDoor
open Go.RowKit
open Mo (V Row Bag Ay Al)
variable {Z:Nat→Prop}
theorem Du (W:World)(a v b:Value)(t:TypeId):∀j x,[a,v,b][j]? =some x→(W.alloc (.cells #[a,v,b] t)).cell? ((⟨W.heap.size,0,none⟩:Addr).add j)=some x:=by
 intro j x c
 have d:(⟨W.heap.size,0,none⟩:Addr).add j=⟨W.heap.size,j,none⟩:=by unfold Addr.add;split <;> simp_all
 rw[d,Ae (MapKept.heap_alloc W _).1]
 simpa using c
def I2 (Z:Nat→Prop)(w:World)(v:Value)(cs:List Nat):Prop:=∃a cap,v=.slice a cs.length cap∧cs.length≤cap∧(cap≤maxLen∧bG Z a cs.length cap) ∧
 ∀(i c:Nat),cs[i]? =some c→∃b o,a=some ⟨b,o,none⟩∧b<w.heap.size∧w.cell? ⟨b,o+i,none⟩=some (.int .i64 (c:Int))
theorem I2.Ah {w w':World}{v:Value}{cs:List Nat}(h:I2 Z w v cs)(k:Ab No w w'):I2 Z w' v cs:=by
 obtain⟨a,cap,e,f,g,j⟩:=h
 refine⟨a,cap,e,f,g,fun i c l=>?_⟩
 obtain⟨b,o,e1,d,m⟩:=j i c l
 exact⟨b,o,e1,kV d k.size,(k.cell d oI).trans m⟩
theorem Wv:∀(r:Row) (i:Nat) (v:V),r[i]? =some v→∀j x,(Ic v)[j]? =some x→(r.flatMap Ic)[i*3+j]? =some x
 | [],i,v,h,_,_,_=>by simp at h
 |y::r,0,v,h,j,x,a=>by
  have:y=v:=by simpa using h
  subst this
  rw[mE,nZ,lK,lA (kS.1 a).1];exact a
 |y::r,i+1,v,h,j,x,a=>by
  have b:=Wv r i v (by simpa using h) j x a
  rw[mE,kY (by rw[St];omega),St,show (i+1)*3+j-3=i*3+j by omega];exact b
theorem Ei.Nf {w:World}{base:Nat}{v:Value}{r:Row}(a:∀k,Z k→k<base)(h:w.ownsRow base 202 3 v r.length (r.flatMap Ic)):Ei Z w v r:=by
 rcases h with ⟨_,⟨rfl,b⟩|⟨g,cap,c,rfl,_,hg,d,e,_,f⟩⟩
 ·have:r=[]:=lP b
  subst this
  exact⟨none,0,rfl,by simp,⟨by simp,Ox _ _⟩,fun h=>absurd rfl h⟩
 ·refine⟨some ⟨g,0,none⟩,cap,rfl,d,⟨e,Oy fun l=>by have:=a g l;omega⟩,fun _=>⟨g,0,c,(0,0),rfl,hg,fun i v hv j x m=>?_⟩⟩
  have:=Wv r i v hv j x m
  rw[←f,lM] at this
  split at this
  ·rw[lK,←lU];exact this
  ·cases this
def fC (Z:Nat→Prop)(w:World)(r:Row)(v:Value)(w':World):Prop:=Ei Z w' v r∧Ab No w w'
theorem WL:(Tryz.prog.info? 202).map (fun i=>(i.zero,i.size,i.bytes))=some (some (.agg #[.bool false,.int .i64 0,.string ⟨#[]⟩]),3,32):=by kernel_rfl
theorem QH (o cv:Value)(r:Row)(cs:List Nat)(w:World)(hr:Ei Z w o r)(p:I2 Z w cv cs)(Hg:∀c∈cs,c<r.length)(E:cs.length≤1000)(q:Ga Z w) :
 Calls Tryz.prog 135 #[o,cv] w fun e w'=>∃v,e=.returned v∧fC Z w (Ay cs r) v w':=by
 have s:=Ad hr;have t:=Ad p;have F:=Ad Hg;have G:=Ad q;clear q
 obtain⟨_,H,rfl,I,u,-⟩:=hr
 obtain⟨_,J,rfl,K,y,-⟩:=p
 obtain⟨n,d⟩:∃n,cs.length=n:=⟨_,rfl⟩
 have f:=Ad d
 obtain⟨L,g⟩:∃n,r.length=n:=⟨_,rfl⟩
 have M:=Ad g
 rw[d] at t K E⊢
 rw[g] at s I⊢
 obtain⟨N,O,P,Q,R⟩:=info_parts WL
 clear d g Hg
 have ag:J≤9223372036854775807:=by unfold maxLen at y;omega
 have ah:H≤9223372036854775807:=by unfold maxLen at u;omega
 clear y u
 go_enter Tryz.func135,Tryz.ntmps135
 go_wp2_with fail
 go_loopg [5,6] n (fun k S T wr=>∃i:Nat,i+k=n∧T=.int .i64 (i:Int)∧oH (wr.ownsRow w.heap.size 202 3 S (Ay (cs.take i) r).length ((Ay (cs.take i) r).flatMap Ic))∧Ab No w wr)
 case atStart=>exact⟨0,by omega,rfl,World.ownsRow_nil _ _ _ _,Ab.refl _ _⟩
 case round =>
  obtain⟨i,_,rfl,hO,a⟩:=hrel
  by_cases U:gk=0
  ·subst U
   have h:¬(i:Int)<(n:Int):=by omega
   have V:oH (Ei Z wr u5 (Ay cs r)):=by
    have z:=Ei.Nf G.o hO.o
    rw[show i=cs.length by rw[f.o];omega,mK] at z
    exact z
   have j:=Ad a;clear a;go_wp2_with fail;go_ret
   exact⟨_,rfl,V.o,j.o⟩
  ·obtain⟨k,rfl⟩:∃k,gk=k+1:=⟨gk-1,by omega⟩
   have h:(i:Int)<(n:Int):=by omega
   have ai:(0:Int)≤(i:Int):=by omega
   obtain⟨c,b⟩:∃c,cs[i]? =some c:=⟨_,kT (by have:=f.o;omega)⟩
   have A:=F.o c (kW b)
   have aj:(c:Int)<(L:Int):=by have:=M.o;omega
   have ak:(0:Int)≤(c:Int):=by omega
   obtain⟨_,_,W,_,_,B⟩:=t.o.Ah a
   injection W with e1 X Y
   subst e1
   obtain⟨_,_,rfl,_,_⟩:=B i c b
   obtain⟨v,l⟩:∃v,r[c]? =some v:=⟨_,kT A⟩
   have C:=s.o.Ah a
   obtain⟨vb,_,rfl,_,_,_,_⟩:=C.cells l
   have aa:oH (Ay (cs.take (i+1)) r=Ay (cs.take i) r++[v]):=by
    show _=_
    rw[lL,b]
    unfold Ay
    rw[lF]
    have:Al r c=v:=by unfold Al;rw[lI,l];rfl
    simp[this]
   have m:(Ay (cs.take i) r).length=i:=by unfold Ay;rw[lB,lV,f.o];omega
   have D:=hO.o
   have ab:(Ay (cs.take i) r).length+1≤maxLen:=WJ m (by omega)
   have ac:((Ay (cs.take i) r).length+1)*32≤140737488355328:=EZ m (by omega)
   have ad:=Du wr (.bool (uB v)) (.int .i64 (uN v)) (.string ⟨(uS v).toArray⟩) 202;have al:=a.size;have j:=Ad a;clear a B X Y b l C m A
   go_wp2_with (first
    |(at_builtin;refine wpList_append_own_at _ rfl _ _ 211 rfl w.heap.size 202 N (.agg #[.bool false,.int .i64 0,.string ⟨#[]⟩]) 3 32 Tryz.underlying211 O P Q R rfl (by decide) _ _ _ rfl (D.alloc _) ⟨wr.heap.size,0,none⟩ 1 1 [.bool (uB v),.int .i64 (uN v),.string ⟨(uS v).toArray⟩] rfl rfl ad (by simp[Value.oneCell']) ab ac (by simp;omega) ?_;intro v' w5 ae af _ _)
    |fail)
   go_roundg k
   case measure=>omega
   case rel =>
    refine⟨i+1,by omega,by go_num,?_,(j.o.alloc _).grown af (fun x h=>.inl (Ao D x h))⟩
    show w5.ownsRow _ _ _ _ _ _
    rw[aa.o,nG,kU]
    have e5:[v].flatMap Ic=[.bool (uB v),.int .i64 (uN v),.string ⟨(uS v).toArray⟩]:=by simp[Su]
    rw[e5];exact ae
end Go.Proofs.YtdinjjmcmfjbfaaGreatDoor
namespace Go.Proofs.YtdinjjmcmfjbfaaGreatDoor
open Go.RowKit
open Mo (V Row Bag ty)
variable {Z:Nat→Prop}
def RY (b:Bool):UInt8:=if b then 116 else 105
def Ht (ts:List Bool):List UInt8:=ts.map RY
theorem fD {ts:List Bool}{i:Nat}{b:Bool}(h:ts[i]? =some b)(hi:i<(⟨(Ht ts).toArray⟩:ByteArray).size):(⟨(Ht ts).toArray⟩:ByteArray)[i].toNat=if b then 116 else 105:=by
 have e:(⟨(Ht ts).toArray⟩:ByteArray)[i]=RY b:=by
  show (Ht ts).toArray[i]=_
  rw[List.getElem_toArray]
  have a:(Ht ts)[i]? =some (RY b):=by unfold Ht;rw[kX,h];rfl
  exact (kS.1 a).2
 rw[e];cases b <;> rfl
theorem FA (ts:List Bool):(⟨(Ht ts).toArray⟩:ByteArray).size=ts.length:=by simp[ByteArray.size,Ht]
theorem WM (z:Value)(r:Row)(ts:List Bool)(w:World)(hr:Ei Z w z r)(_:ts.length≤1000) :
 Calls Tryz.prog 95 #[z,.string ⟨(Ht ts).toArray⟩] w fun e w'=>e=.returned (.bool (decide (r.map ty=ts)))∧Ab No w w':=by
 have A:=Ad hr
 obtain⟨_,H,rfl,I,B,-⟩:=hr
 have p:=FA ts
 have q:=Ad (fun i b h hi=>fD (ts:=ts) (i:=i) (b:=b) h hi)
 obtain⟨S,s⟩:∃S,(⟨(Ht ts).toArray⟩:ByteArray)=S:=⟨_,rfl⟩
 obtain⟨a,t⟩:∃n,r.length=n:=⟨_,rfl⟩
 have j:=Ad t
 rw[t] at A I⊢
 rw[s] at p⊢
 replace q:oH (∀i b,ts[i]? =some b→∀hi:i<S.size,S[i].toNat=if b then 116 else 105):=by subst s;exact q.o
 have R:H≤9223372036854775807:=by unfold maxLen at B;omega
 clear B s;have u:=Ad p
 have T:S.size≤1000:=by omega
 clear p t
 by_cases l:a=S.size
 ·have J:((a:Int) != (S.size:Int))=false:=by simp[l]
  have C:=Ad l;clear l
  go_enter Tryz.func95,Tryz.ntmps95
  go_wp2_with fail
  go_loopg [5] a (fun k K wr=>∃i:Nat,i+k=a∧K=.int .i64 (i:Int)∧oH ((r.take i).map ty=ts.take i)∧Ab No w wr)
  case atStart=>exact⟨0,by omega,rfl,Ad rfl,Ab.refl _ _⟩
  case round =>
   obtain⟨i,_,rfl,D,f⟩:=hrel
   by_cases L:gk=0
   ·subst L
    have M:¬(i:Int)<(a:Int):=by omega
    have g:oH (decide (r.map ty=ts)=true):=by
     show _=_
     rw[decide_eq_true_iff]
     have c:=D.o;have N:=C.o;have U:=u.o
     rw[show i=r.length by rw[j.o];omega,mK,show r.length=ts.length by rw[j.o];omega,mK] at c
     exact c
    have m:=Ad f;clear f;go_wp2_with fail;go_ret
    exact⟨Az g.o.symm,m.o⟩
   ·obtain⟨k,rfl⟩:∃k,gk=k+1:=⟨gk-1,by omega⟩
    have M:(i:Int)<(a:Int):=by omega
    have V:(0:Int)≤(i:Int):=by omega
    have O:i<S.size:=by have:=C.o;omega
    have W:(i:Int)<(S.size:Int):=by omega
    obtain⟨v,x⟩:∃v,r[i]? =some v:=⟨_,kT (by have:=j.o;omega)⟩
    obtain⟨b,y⟩:∃b,ts[i]? =some b:=⟨_,kT (by have:=u.o;omega)⟩
    have o:=q.o i b y O;have E:=A.o.Ah f
    obtain⟨vb,_,rfl,_,_,-,-⟩:=E.cells x
    have m:=Ad f;have F:=Ad x;have G:=Ad y;clear f E x y
    by_cases d:ty v=b
    ·have P:(uB v == ((S[i].toNat:Int) == 105))=true:=by rw[o,←d];cases v <;> rfl
     have Q:oH ((r.take (i+1)).map ty=ts.take (i+1)):=by
      show _=_
      rw[lL,lL,lF,D.o,F.o,G.o]
      simp[d]
     clear o d;go_wp2_with fail
     go_quiet (fail)
     go_wp2_with fail;go_roundg k
     case measure=>omega
     case rel=>exact⟨i+1,by omega,by go_num,Q,m.o.drewN _⟩
    ·have P:(uB v == ((S[i].toNat:Int) == 105))=false:=by rw[o];cases v <;> cases b <;> first|rfl|exact absurd rfl d
     have g:oH (decide (r.map ty=ts)=false):=by
      show _=_
      rw[decide_eq_false_iff_not]
      intro e
      have c:(r.map ty)[i]? =some (ty v):=by rw[kX,F.o];rfl
      rw[e,G.o] at c
      injection c with c
      exact d c.symm
     clear o d;go_wp2_with fail
     go_quiet (fail)
     go_wp2_with fail;go_ret
     exact⟨Az g.o.symm,m.o.drewN _⟩
 ·have J:((a:Int) != (S.size:Int))=true:=by simp;omega
  have g:oH (decide (r.map ty=ts)=false):=by
   show _=_
   rw[decide_eq_false_iff_not]
   intro e
   have:=congrArg List.length e
   rw[lB,j.o] at this
   have N:=u.o;omega
  clear l
  go_enter Tryz.func95,Tryz.ntmps95
  go_wp2_with fail;go_ret
  exact⟨Az g.o.symm,Ab.refl _ _⟩
end Go.Proofs.YtdinjjmcmfjbfaaGreatDoor
