import Derived.Test.YtdinjjmcmfjbfaaGreatDoorTzJ
set_option maxRecDepth 100000
set_option maxHeartbeats 4000000
namespace Go.Proofs.YtdinjjmcmfjbfaaGreatDoor
open Go.RowKit Go.Shelf Mo Pl Tryz
theorem dB {α:Type}:∀{l:List α},l.length=2→∃a b,l=[a,b]
 | [a,b],_=>⟨a,b,rfl⟩
 | [],h=>by cases h
 | [_],h=>by cases h
 |_::_::_::_,h=>by simp at h
theorem mC {w:World}{X:Nat→Prop}{p:Nat}{h:Hd}{cs ps:List Nat}(a:Qp w X p h cs ps):Wk h:=by
 obtain⟨_,_,_,_,_,_,_,_,b⟩:=a;exact b
theorem EZ {us:List Bool}(h:us.length≤6):six us=some us:=if_pos h
theorem jW {c:Nat}{x:Dk}{us:List Bool}(h:us.length≤6):(Hx (Og (I7 us (.col c)) (I7 us x)) us).bind six=Eh c x us:=by
 unfold Eh;show (Hx (Og us[c]? (I7 us x)) us).bind six=_;cases us[c]? with
 |none=>rfl
 |some a =>
  cases I7 us x with
  |none=>simp[Og,Hx]
  |some b =>
   by_cases e:a=b
   ·subst e;simp[Og,Hx,EZ h]
   have:¬b=a:=fun d=>e d.symm;simp[Og,Hx,e,this]
theorem dC {cs:List Nat}{us:List Bool}(h:cs.length≤6):(Hx (Gz us cs) (Gm us cs)).bind six=Bq cs us:=by
 unfold Bq;show (if Gz us cs=true then some (Gm us cs) else none).bind six=if Gz us cs=true then some (Gm us cs) else none
 cases Gz us cs
 ·rfl
 show six (Gm us cs)=_;rw[EZ (by rw[R0];exact h)];rfl
theorem dD {n m:Nat}{us vs:List Bool}:(Hx (Og (I7 us (.col n)) (I7 vs (.col m))) (us++vs)).bind six=C8 n m us vs:=by
 unfold C8;show (Hx (Og us[n]? vs[m]?) (us++vs)).bind six=_;cases us[n]? with
 |none=>rfl
 |some a =>
  cases vs[m]? with
  |none=>simp[Og,Hx]
  |some b =>
   by_cases e:a=b
   ·subst e;simp[Og,Hx]
   have:¬b=a:=fun c=>e c.symm;simp[Og,Hx,e,this]
theorem jX {cs:List Nat}{x:Dk}{us:List Bool}(b:x=.val (.num 1)∨∃m,x=.col m):(Hx (WW us cs x) (Gm us cs++[false])).bind six=Fe cs (wS x) us:=by
 unfold Fe Bq WW
 show (Hx (Gz us cs && decide (I7 us x=some false)) (Gm us cs++[false])).bind six=match (if Gz us cs=true then some (Gm us cs) else none) with
  |none=>none
  |some ks=>match wS x with
   |none=>six (ks++[false])
   |some m=>if us[m]? =some false then six (ks++[false]) else none
 cases Gz us cs
 ·rfl
 rcases b with rfl|⟨m,rfl⟩
 ·rfl
 by_cases e:us[m]? =some false
 ·have a:I7 us (.col m)=some false:=e;simp[wS,e,a,Hx]
 have a:¬I7 us (.col m)=some false:=e;simp[wS,e,a,Hx]
theorem WY {ts:List (Nat×List UInt8)}{q r:Q}(h:Ac q=Ac r):Fg ts q=Fg ts r:=by unfold Fg;rw[h]
section
variable {w0:World} {X:Nat→Prop} {v:Value} {ts:List (Nat×List UInt8)} {ft:List UInt8→Option (List Bool)}
def rT (w0:World)(X:Nat→Prop)(v:Value)(ts:List (Nat×List UInt8))(ft:List UInt8→Option (List Bool))(p:Nat)(q:Q):Prop:=wf q→Fg ts q=true→∀w,(∀k,X k→k<w.heap.size∧w.heap[k]? =w0.heap[k]?)→Gy w v ts→mB w ts ft→Calls prog 38 #[v,pV p] w (Ca (A7 ft q) w)
theorem FA {w w1:World}(a:∀k,X k→k<w.heap.size∧w.heap[k]? =w0.heap[k]?)(c:Ab No w w1):∀k,X k→k<w1.heap.size∧w1.heap[k]? =w0.heap[k]? :=fun k b=>⟨tU (a k b).1 c.size,(c.block k (a k b).1 xT).trans (a k b).2⟩
theorem Xb {p p1:Nat}{h:Hd}{cs:List Nat}{q Q1:Q}(n:h.k≠1)(T:List Bool→Option (List Bool))(o:Qp w0 X p h cs [p1])(s:wf q)(t:Fg ts q=true)(u:rT w0 X v ts ft p1 q)(y:((A7 ft q).bind T).bind six=A7 ft Q1)(w:World)(d:∀k,X k→k<w.heap.size∧w.heap[k]? =w0.heap[k]?)(z:Gy w v ts)(A:mB w ts ft)
 (B:∀(us:List Bool) (w1:World) (lv iv:Value) (b cap:Nat) (f:Value),A7 ft q=some us→b<w1.heap.size→C2 w1 p (Bb h lv iv) 139→Gg w1 lv cs→C3 w1 b 0 f→Nl w1 f us→Calls prog 63 #[C1 p,.slice (some ⟨b,0,none⟩) 1 cap] w1 (Ca (T us) w1)) :
 Calls prog 38 #[v,pV p] w (Ca (A7 ft Q1) w):=by
 obtain⟨_,lv,iv,g,C,D,_,_,_⟩:=o.mono (w':=w) (fun k a=>(d k a).2) (fun _ e=>e)
 have:=Un p h n lv iv v [p1] [A7 ft q] (fun c=>match c with| [us]=>T us|_=>none) w g (Nf D (by simp)) rfl (by simp) (by simp)
  (fun j E r hp hr w1 a=>by have F:j=0:=(by have:=(tR.1 hp).1;simp at this;exact this);subst F;have e1:p1=E:=(by simpa using hp);have e2:A7 ft q=r:=(by simpa using hr);subst e1 e2;exact u s t w1 (FA d a) (z.kept a) (A.kept a))
  (fun c w1 b cap vs i a G l H=>by have m:c.length=1:=(by have:=congrArg List.length i;simpa using this.symm);obtain⟨us,rfl⟩:=List.length_eq_one_iff.1 m;have I:A7 ft q=some us:=(by simpa using i);obtain⟨x,rfl⟩:=List.length_eq_one_iff.1 (l.1.trans m);exact B us w1 lv iv b cap x I G (Oh a g) ((jQ C).kept a (fun _ _ e=>e)) (H 0 x rfl) (l.2 0 x us rfl rfl))
 have e:((Wp [A7 ft q]).bind (fun c=>match c with| [us]=>T us|_=>none)).bind six=A7 ft Q1:=by
  rw[←y];cases A7 ft q with
  |none=>rfl
  |some us=>rfl
 rw[e] at this;exact this
theorem SS {p p1 p2:Nat}{h:Hd}{cs:List Nat}{q r Q1:Q}(B:h.k≠1)(T:List Bool→List Bool→Option (List Bool))(C:Qp w0 X p h cs [p1,p2])(D:wf q)(E:wf r)(F:Fg ts q=true)(hr:Fg ts r=true)(G:rT w0 X v ts ft p1 q)(H:rT w0 X v ts ft p2 r)(I:((A7 ft q).bind fun us=>(A7 ft r).bind fun vs=>(T us vs).bind six)=A7 ft Q1)(w:World)(d:∀k,X k→k<w.heap.size∧w.heap[k]? =w0.heap[k]?)(g:Gy w v ts)(i:mB w ts ft)
 (J:∀(us vs:List Bool) (w1:World) (lv iv:Value) (b cap:Nat) (l m:Value),A7 ft q=some us→A7 ft r=some vs→b<w1.heap.size→C2 w1 p (Bb h lv iv) 139→C3 w1 b 0 l→C3 w1 b (0+1) m→Nl w1 l us→Nl w1 m vs→Calls prog 63 #[C1 p,.slice (some ⟨b,0,none⟩) 2 cap] w1 (Ca (T us vs) w1)) :
 Calls prog 38 #[v,pV p] w (Ca (A7 ft Q1) w):=by
 obtain⟨_,lv,iv,n,_,K,_,_,_⟩:=C.mono (w':=w) (fun k a=>(d k a).2) (fun _ e=>e)
 have:=Un p h B lv iv v [p1,p2] [A7 ft q,A7 ft r] (fun c=>match c with| [us,vs]=>T us vs|_=>none) w n (Nf K (by simp)) rfl (by simp) (by simp)
  (fun j o x hp s w1 a=>by
    have L:j<2:=by have:=(tR.1 hp).1;simpa using this
    match j,L with
    |0,_ =>have e1:p1=o:=(by simpa using hp);have e2:A7 ft q=x:=(by simpa using s);subst e1 e2;exact G D F w1 (FA d a) (g.kept a) (i.kept a)
    |1,_ =>have e1:p2=o:=(by simpa using hp);have e2:A7 ft r=x:=(by simpa using s);subst e1 e2;exact H E hr w1 (FA d a) (g.kept a) (i.kept a))
  (fun c w1 b cap vs t a M f u=>by have z:c.length=2:=(by have:=congrArg List.length t;simpa using this.symm);obtain⟨us,us2,rfl⟩:=dB z;have A:A7 ft q=some us∧A7 ft r=some us2:=(by simpa using t);obtain⟨x,y,rfl⟩:=dB (f.1.trans z);exact J us us2 w1 lv iv b cap x y A.1 A.2 M (Oh a n) (u 0 x rfl) (u 1 y rfl) (f.2 0 x us rfl rfl) (f.2 1 y us2 rfl rfl))
 have e:((Wp [A7 ft q,A7 ft r]).bind (fun c=>match c with| [us,vs]=>T us vs|_=>none)).bind six=A7 ft Q1:=by
  rw[←I];cases A7 ft q with
  |none=>rfl
  |some us =>
   cases A7 ft r with
   |none=>rfl
   |some vs=>rfl
 rw[e] at this;exact this
theorem KA (hf:∀nm us,ft nm=some us→1≤us.length∧us.length≤6)(O:ts.length≤1000){p:Nat}{q:Q}(h:Tr w0 X p q):rT w0 X v ts ft p q:=by
 induction h with
 | @zero p h cs e i =>intro _ u w n o s;obtain⟨_,lv,iv,P,_⟩:=i.mono (w':=w) (fun k f=>(n k f).2) (fun _ e=>e);have e2:Fg ts (Ip h cs [])=decide (0≤Bz ts h.nm):=(by simp[Fg,Ip,Ac]);rw[e2] at u;exact EY p h e lv iv v ts ft w P o s O (by simpa using u)
 | @one p p1 h cs q hi i _ D =>
   intro a u w n o s;have x:h.k≠1:=fun e=>(by rw[e] at hi;exact absurd hi (by decide));have E:Fg ts q=true:=(by rw[←u];exact WY (Zc h cs q).symm);have A:Wk h:=mC i;rcases EV hi A.2.2.2 with f|f|f|f
   ·have e:Ip h cs [q]=.sel (Ce h.l) (Mi h.cmp) h.r q:=(by show (if h.k=2 then _ else _)=_;rw[if_pos f]);rw[e] at a⊢;obtain⟨c,y⟩:=A.1 f;have G:Ce h.l=c:=(by rw[y];rfl);rw[G] at a⊢;refine Xb x (fun us=>Hx (Og (I7 us h.l) (I7 us h.r)) us) i a.2.2 E D ?_ w n o s fun us w1 lv iv b cap j g t l B m z=>WU p h f lv iv b 0 cap j us w1 l (fun C e=>?_) (fun C e=>?_) t m z
    ·show ((A7 ft q).bind _).bind six=(A7 ft q).bind (Eh c h.r);cases g:A7 ft q with
     |none=>rfl
     |some us=>show (Hx (Og (I7 us h.l) (I7 us h.r)) us).bind six=_;rw[y];exact jW (Co hf q us a.2.2 g).2
    ·rw[y] at e;injection e with e;subst e;exact a.1
    have:=a.2.1;rw[e] at this;exact this
   ·have e:Ip h cs [q]=.pick cs q:=(by show (if h.k=2 then _ else if h.k=3 then _ else _)=_;rw[if_neg (by omega),if_pos f]);rw[e] at a⊢;refine Xb x (fun us=>Hx (Gz us cs) (Gm us cs)) i a.2.2.2 E D ?_ w n o s fun us w1 lv iv b cap j g t l B m z=>PF p h f lv iv b 0 cap j us cs w1 l B a.2.1 a.1 a.2.2.1 m z;show ((A7 ft q).bind _).bind six=(A7 ft q).bind (Bq cs);cases g:A7 ft q with
    |none=>rfl
    |some us=>exact dC a.2.1
   ·have e:Ip h cs [q]=.dist q:=(by show (if h.k=2 then _ else if h.k=3 then _ else if h.k=6 then _ else _)=_;rw[if_neg (by omega),if_neg (by omega),if_pos f]);rw[e] at a⊢;refine Xb x (fun us=>Hx true us) i a E D ?_ w n o s fun us w1 lv iv b cap j g t l B m z=>PD p h f lv iv b 0 cap j us w1 l m z;show ((A7 ft q).bind _).bind six=A7 ft q;cases g:A7 ft q with
    |none=>rfl
    |some us=>exact EZ (Co hf q us a g).2
   have e:Ip h cs [q]=.grp cs (wS h.w) q:=(by show (if h.k=2 then _ else if h.k=3 then _ else if h.k=6 then _ else _)=_;rw[if_neg (by omega),if_neg (by omega),if_neg (by omega)]);rw[e] at a⊢;have R:=A.2.2.1 f;refine Xb x (fun us=>Hx (WW us cs h.w) (Gm us cs++[false])) i a.2.2.2 E D ?_ w n o s fun us w1 lv iv b cap j g t l B m z=>WX p h f lv iv b 0 cap j us cs w1 l B a.1 a.2.1 (fun C e=>a.2.2.1 C (by rw[e];rfl)) t m z;show ((A7 ft q).bind _).bind six=(A7 ft q).bind (Fe cs (wS h.w));cases g:A7 ft q with
   |none=>rfl
   |some us=>exact jX R
 | @two p p1 p2 h cs q r hi i _ _ M N =>
   intro a u w n o s;have x:h.k≠1:=fun e=>(by rw[e] at hi;exact absurd hi (by decide));have A:Wk h:=mC i;have F:Fg ts q=true∧Fg ts r=true:=(by have:Fg ts (Ip h cs [q,r])=(Fg ts q && Fg ts r):=(by unfold Fg;rw[Zd,xP]);rw[this] at u;simpa using u);rcases Tn hi with f|f
   ·have e:Ip h cs [q,r]=.join (Ce h.l) (Ce h.r) q r:=(by show (if h.k=4 then _ else _)=_;rw[if_pos f]);rw[e] at a⊢;obtain⟨⟨c,y⟩,⟨d,H⟩⟩:=A.2.1 f;have G:Ce h.l=c:=(by rw[y];rfl);have S:Ce h.r=d:=(by rw[H];rfl);rw[G,S] at a⊢;refine SS x (fun us vs=>Hx (Og (I7 us h.l) (I7 vs h.r)) (us++vs)) i a.2.2.1 a.2.2.2 F.1 F.2 M N ?_ w n o s fun us vs w1 lv iv b cap j I g hv t l m J K L=>PE p h f lv iv b 0 cap j I us vs w1 l (fun C e=>?_) (fun C e=>?_) t m J K L (Co hf q us a.2.2.1 g).1 (Co hf q us a.2.2.1 g).2 (Co hf r vs a.2.2.2 hv).2
    ·show ((A7 ft q).bind fun us=>(A7 ft r).bind fun vs=>_)=(A7 ft q).bind fun us=>(A7 ft r).bind fun vs=>C8 c d us vs;congr 1;funext us;congr 1;funext vs;rw[y,H];exact dD
    ·rw[y] at e;injection e with e;subst e;exact a.1
    rw[H] at e;injection e with e;subst e;exact a.2.1
   have e:Ip h cs [q,r]=.uni q r:=(by show (if h.k=4 then _ else _)=_;rw[if_neg (by omega)]);rw[e] at a⊢;refine SS x (fun us vs=>Hx (decide (us=vs)) us) i a.1 a.2 F.1 F.2 M N ?_ w n o s fun us vs w1 lv iv b cap j I g hv t l m J K L=>WV p h f lv iv b 0 cap j I us vs w1 l t m J K L;show _=(A7 ft q).bind fun us=>(A7 ft r).bind fun vs=>if us=vs then some us else none
   cases g:A7 ft q with
   |none=>rfl
   |some us =>
    cases A7 ft r with
    |none=>rfl
    |some vs =>
     show (Hx (decide (us=vs)) us).bind six=if us=vs then some us else none
     by_cases e:us=vs
     ·simp[Hx,e,EZ (e ▸ (Co hf q us a.1 g).2)]
     simp[Hx,e]
end
theorem AV {w:World}{base:Nat}{v:Value}{r:Row}(h:w.ownsRow base 133 6 v r.length (r.flatMap A2))(hr:r≠[]):Jc w v r:=by
 rcases h with ⟨_,⟨_,a⟩|⟨g,cap,b,rfl,_,hg,c,_,_,d⟩⟩
 ·exact absurd (uM a) hr
 refine⟨g,0,cap,b,(0,0),rfl,hg,c,fun i v hv j x e=>?_⟩;have:=Wx r i v hv j x e;rw[←d,uQ] at this;split at this
 ·rw[uL,←uZ];exact this
 cases this
def KB (x:Value×He):List Value:=[.string ⟨x.2.name.toArray⟩,x.1,.int .i64 x.2.t]
def Ng (w:World)(base:Nat)(v:Value)(xs:List (Value×He)):Prop:=w.ownsRow base 164 3 v xs.length (xs.flatMap KB)∧∀x∈xs,Jc w x.1 x.2.row
theorem Hy {S:Nat→Prop}{w w':World}{base:Nat}{e:TypeId}{size:Nat}{v:Value}{n:Nat}{xs:List Value}(h:w.ownsRow base e size v n xs)(k:Ab S w w')(b:∀i,S i→¬Is e w i):w'.ownsRow base e size v n xs:=by
 refine⟨h.1,?_⟩;rcases h.2 with hn|⟨g,cap,a,rfl,c,hg,d⟩
 ·exact .inl hn
 exact .inr ⟨g,cap,a,rfl,c,(k.block g (Aa hg) (fun f=>b g f ⟨a,_,hg⟩)).trans hg,d⟩
theorem Ng.kept {S:Nat→Prop}{w w':World}{base:Nat}{v:Value}{xs:List (Value×He)}(h:Ng w base v xs)(k:Ab S w w')(b:∀i,S i→¬Is 164 w i∧¬Is 133 w i):Ng w' base v xs :=
 ⟨Hy h.1 k (fun i a=>(b i a).1),fun x c=>(h.2 x c).kept k (fun i a=>(b i a).2)⟩
theorem Kx {w:World}{b:Nat}{c:Array Value}{t e:TypeId}{d:Nat×Nat}(f:w.heap[b]? =some (.cells c t d))(i:t≠e){base size n:Nat}{v:Value}{xs:List Value}(h:w.ownsRow base e size v n xs):some b≠v.ownBlock:=by
 rcases h.2 with ⟨rfl,_⟩|⟨g,cap,cur,rfl,_,hg,_⟩
 ·simp[Value.ownBlock]
 simp only[Value.ownBlock];intro a;injection a with a;subst a;rw[f] at hg;injection hg with hg;injection hg with _ j;exact i j
theorem WZ {s:ByteArray}{a a1:Nat}{ok:Bool}(h:R9 (tk s 43) (tk s 45) a=(ok,a1)):(ok=true↔(bt s a=43∨bt s a=45))∧(ok=true→a1=a+1):=by
 unfold R9 tk at h;by_cases b:bt s a=43
 ·rw[if_pos b] at h;simp at h;obtain⟨rfl,rfl⟩:=h;simp[b]
 rw[if_neg b] at h;simp only[Bool.false_eq_true,if_false] at h;by_cases c:bt s a=45
 ·rw[if_pos c] at h;simp at h;obtain⟨rfl,rfl⟩:=h;simp[c]
 rw[if_neg c] at h;simp at h;obtain⟨rfl,rfl⟩:=h;simp[b,c]
theorem Xc {s:ByteArray}{c a a1:Nat}{ok:Bool}(h:tk s c a=(ok,a1)):(ok=true↔bt s a=c)∧a1=if ok=true then a+1 else a:=by
 unfold tk at h;by_cases b:bt s a=c
 ·rw[if_pos b] at h;simp at h;obtain⟨rfl,rfl⟩:=h;simp[b]
 rw[if_neg b] at h;simp at h;obtain⟨rfl,rfl⟩:=h;simp[b]
def dE (B:Nat)(w:World)(R:Option (List He))(e:Ending)(w':World):Prop :=
 (R=none∧e=.returned (.tuple #[.slice none 0 0,.bool false])∨∃v xs,R=some (xs.map (·.2))∧e=.returned (.tuple #[v,.bool true])∧Ng w' w.heap.size v xs)∧Ab (·=B) w w'
theorem oA:(prog.info? 133).map (fun i=>(i.zero,i.size,i.bytes))=some (some (.agg #[.int .i32 0,.int .u8 0,.int .u8 0,.int .u8 0,.int .u8 0,.int .i64 0]),6,16):=by kernel_rfl
theorem SU {w:World}{t:TypeId}{cs:Array Value}:∀j x,cs.toList[j]? =some x→(w.alloc (.cells cs t)).cell? ((⟨w.heap.size,0,none⟩:Addr).add j)=some x:=World.news_of_block (heap_alloc_last w _)
theorem rE:(prog.info? 164).map (fun i=>(i.zero,i.size,i.bytes))=some (some (.agg #[.string ⟨#[]⟩,.slice none 0 0,.int .i64 0]),3,48):=by kernel_rfl
theorem XA (B:Nat)(s:ByteArray)(w:World)(_:s.size≤300)(h:RP B s 0 w) :
 Calls prog 43 #[C1 B] w (dE B w (Da s)):=by
 have b1:=Ae h;have dt:=Aa h.2;have A:s.size≤1000:=by omega
 obtain⟨iv,du,dv,dw,dx⟩:=info_parts oA;obtain⟨dy,dz,d0,d1,d2⟩:=info_parts rE;clear h;go_enter func43,ntmps43;go_wp21;go_step3;go_wp21;go_call Ru B s 0 _ b1.o as e w0 ⟨rfl,ab⟩;have b2:=Ae ab;by_cases O:s.size=0
 ·have a9:decide (0=s.size)=true:=by simp[O]
  rw[a9];have d3:xR (Da s=some []):=by show _=_;unfold Da;rw[if_pos O]
  clear ab O;go_wp21
  try rw[Exit.noGoto_ret]
  go_ret2;exact⟨.inr ⟨_,[],d3.o,rfl,World.ownsRow_nil _ _ _ _,by simp⟩,b2.o.any⟩
 have a9:decide (0=s.size)=false:=by simp;omega
 rw[a9];have d4:xR (Ec s (s.size+1) 0 []=Da s):=by show _=_;unfold Da;rw[if_neg O]
 have b3:RP B s 0 w0:=⟨by omega,(ab.block B dt xT).trans b1.o.2⟩;have d5:=Ae b3;clear ab O b3;go_wp21;go_step3;go_wp21;go_loopg [4] (s.size+1) (fun k ba wr=>∃(c:Nat) (xs:List (Value×He)),s.size+1≤c+k∧xs.length≤c∧xR (RP B s c wr)∧xR (Ng wr w.heap.size ba xs)∧Ab (·=B) w wr∧xR (Ec s k c (xs.map (·.2))=Da s))
 case atStart=>exact⟨0,[],by omega,by simp,d5,Ae ⟨World.ownsRow_nil _ _ _ _,by simp⟩,b2.o.any,d4⟩
 obtain⟨c,xs,d6,_,hp,hO,b4,y⟩:=hrel;have d7:=hp.o.1;obtain⟨k,rfl⟩:∃k,gk=k+1:=⟨gk-1,by omega⟩;have d8:B<wr.heap.size:=Aa hp.o.2;have C:=Ae b4;clear b4;have b5:RP B s c (wr.alloc (.cells #[.string ⟨#[]⟩,.slice none 0 0,.int .i64 0] 164)):=⟨d7,(Below.heap_alloc _ _ _ d8).trans hp.o.2⟩;have d9:=Ae b5;clear b5;have b6:C2 (wr.alloc (.cells #[.string ⟨#[]⟩,.slice none 0 0,.int .i64 0] 164)) wr.heap.size #[.string ⟨#[]⟩,.slice none 0 0,.int .i64 0] 164:=(MapKept.heap_alloc wr _).1;have ea:=Ae b6;have eb:xR (Ab (·=B) wr (wr.alloc (.cells #[.string ⟨#[]⟩,.slice none 0 0,.int .i64 0] 164))):=(Ab.refl _ _).alloc _;clear b6;go_wp21;go_call bY B wr.heap.size 2 s c #[.string ⟨#[]⟩,.slice none 0 0,.int .i64 0] 164 _ A (by omega) d9.o ea.o (by simp) as e w1 ⟨ok1,a1,b7,rfl,p1,b8,c1⟩;obtain⟨ac,bb⟩:=WZ b7;have ec:=Ae p1;have ed:xR (C2 w1 wr.heap.size #[.string ⟨#[]⟩,.slice none 0 0,.int .i64 (D7 s c)] 164):=c1;have b9:=Ae (aQ eb.o b8 (tY _));clear b7 p1 b8 c1;cases ok1
 ·have u:xR (Da s=none):=by show _=_;rw[←y.o,Ec,if_neg (fun l=>by have:=ac.2 l;cases this)]
  clear ac bb;go_wp21
  try rw[Exit.noGoto_ret]
  go_ret2;exact⟨.inl ⟨u.o,rfl⟩,C.o.seq b9.o⟩
 obtain rfl:=bb rfl;have ca:=ac.1 rfl;have D:=Ae ca;have fg:c<s.size:=Cu (s:=s) (a:=c) (by omega);clear ac ca bb;go_wp21;go_call Tv B wr.heap.size 0 4 4 s (c+1) #[.string ⟨#[]⟩,.slice none 0 0,.int .i64 (D7 s c)] 164 _ A (by omega) rfl (by omega) ec.o ed.o (by simp) as e ee ⟨ok2,a2,ad,rfl,p2,cb,c2⟩;have E:xR (Bj s (c+1)=(ok2,a2)):=ad;have ef:=Ae p2;have cc:=Ae (aQ b9.o cb (tY _));have cd:=Ae c2;have fh:c+1≤a2:=by have:=Oo s 97 122 4 (c+1);unfold V0 at ad;injection ad with _ p;omega
 clear ad p2 cb c2;cases ok2
 ·have u:xR (Da s=none):=by show _=_;rw[←y.o,Ec,if_pos D.o,E.o,if_neg (by simp)]
  go_wp21
  try rw[Exit.noGoto_ret]
  go_ret2;exact⟨.inl ⟨u.o,rfl⟩,C.o.seq cc.o⟩
 have ce:xR (C2 ee wr.heap.size #[.string (s.extract (c+1) a2),.slice none 0 0,.int .i64 (D7 s c)] 164):=cd.o;clear cd;go_wp21;go_call Di B s a2 40 40 _ A (by omega) rfl ef.o as e w3 ⟨eg,a3,cf,rfl,cg,bc⟩;obtain⟨ae,bd⟩:=Xc cf;have ch:=Ae cg;have ci:xR (Ab (·=B) wr w3):=cc.o.seq bc;have eh:xR (C2 w3 wr.heap.size #[.string (s.extract (c+1) a2),.slice none 0 0,.int .i64 (D7 s c)] 164):=(bc.block _ (Aa ce.o) (by omega)).trans ce.o;clear cf cg bc;cases eg
 ·have u:xR (Da s=none):=by show _=_;have:¬bt s a2=40:=fun l=>(by have:=ae.2 l;cases this);rw[←y.o,Ec,if_pos D.o,E.o,if_pos rfl,if_neg this]
  clear ae bd;go_wp21
  try rw[Exit.noGoto_ret]
  go_ret2;exact⟨.inl ⟨u.o,rfl⟩,C.o.seq ci.o⟩
 have P:xR (bt s a2=40):=ae.1 rfl;have ei:a3=a2+1:=by rw[bd];simp
 subst ei;have fi:=ch.o.1;clear ae bd;obtain⟨f,rfl⟩:∃f:World,f=wr:=⟨_,rfl⟩;obtain⟨af,be⟩:∃af:Nat,af=k:=⟨_,rfl⟩;rw[←be] at d6 y;have ej:=Ae be;clear be;go_wp21;go_loopg [4] (s.size+1) (fun F ba ag=>ba=u4∧∃(d:Nat) (r:Row) (G:Value),s.size+1≤d+F∧r.length≤d∧a2<d∧xR (RP B s d ag)∧xR (C2 ag f.heap.size #[.string (s.extract (c+1) a2),G,.int .i64 (D7 s c)] 164)∧xR (ag.ownsRow f.heap.size 133 6 G r.length (r.flatMap A2))∧Ab (·=B) f ag∧xR (Ep s F d r=Ep s (s.size+1) (a2+1) []))
 case atStart=>exact⟨rfl,a2+1,[],.slice none 0 0,by omega,by simp,by omega,ch,eh,Ae (World.ownsRow_nil _ _ _ _),ci.o,Ae rfl⟩
 obtain⟨rfl,d,r,G,_,_,_,ah,cj,ek,bf,ai⟩:=hrel;have bg:=ah.o.1;obtain⟨F,rfl⟩:∃F,gk=F+1:=⟨gk-1,by omega⟩;have el:B<wr.heap.size:=Aa ah.o.2;have ck:=Ae bf;have fj:=bf.size;clear bf;have cl:xR (RP B s d (wr.alloc (.cells #[D4,C4,C4,C4,C4,D2] 133))):=⟨bg,(Below.heap_alloc _ _ _ el).trans ah.o.2⟩;have cm:xR (C2 (wr.alloc (.cells #[D4,C4,C4,C4,C4,D2] 133)) wr.heap.size #[D4,C4,C4,C4,C4,D2] 133):=(MapKept.heap_alloc wr _).1;have cn:xR (Ab (·=B) wr (wr.alloc (.cells #[D4,C4,C4,C4,C4,D2] 133))):=(Ab.refl _ _).alloc _;go_wp21;go_call VP B wr.heap.size s d #[D4,C4,C4,C4,C4,D2] _ A (by omega) cl.o cm.o rfl as e w4 ⟨em,a4,bh,co,rfl,cp,cq,cr,e4⟩;have Q:=Ae co;have R:=Ae cp;have S:=Ae (aQ cn.o cq (tY _));have ct:=Ae cr;have cu:=Ae e4;clear co cp cq cr e4;cases em
 ·have u:xR (Da s=none):=by show _=_;have q:Ep s (s.size+1) (a2+1) []=none:=(by rw[←ai.o,Ep,Q.o,if_neg (by simp)]);rw[←y.o,Ec,if_pos D.o,E.o,if_pos rfl,if_pos P.o,q]
  go_wp21
  try rw[Exit.noGoto_ret]
  go_ret2;exact⟨.inl ⟨u.o,rfl⟩,(C.o.seq ck.o).seq S.o⟩
 obtain⟨vv,bi⟩:∃vv,Iz s d=vv:=⟨_,rfl⟩;have en:=Ae bi;have H:w4.heap[wr.heap.size]? =some (.cells #[.int .i32 (kI vv),E1 vv 0,E1 vv 1,E1 vv 2,E1 vv 3,.int .i64 (nI vv)] 133 (0,0)):=by have:=ct.o;rw[cu.o rfl,bi] at this;exact this
 have T:=Af H 0;have U:=Af H 1;have V:=Af H 2;have cv:=Af H 3;have bh:=Af H 4;have cw:=Af H 5;simp only[vV,wG,wN] at T U V cv bh cw;have bj:C2 w4 f.heap.size #[.string (s.extract (c+1) a2),G,.int .i64 (D7 s c)] 164:=(S.o.block _ (Aa cj.o) (by omega)).trans cj.o;have cx:=Af bj 1;simp only[vV,wG,wN] at cx;have aj:=Ae bj;have J:w4.ownsRow f.heap.size 133 6 G r.length (r.flatMap A2):=Hy ek.o S.o (fun i l=>by subst l;rintro⟨K,L,b⟩;rw[ah.o.2] at b;injection b with b;injection b with _ p;exact absurd p (by decide));have fk:=Ae J;have eo:r.length+1≤maxLen:=by unfold maxLen;omega
 have ep:(r.length+1)*16≤140737488355328:=by omega
 have fl:=S.o.size;clear bi H bj ct cu cl cm cn;have cy:=SU (w:=w4) (t:=133) (cs:=#[.int .i32 (kI vv),E1 vv 0,E1 vv 1,E1 vv 2,E1 vv 3,.int .i64 (nI vv)]);go_wp2_with (first
  |(at_builtin;refine wpList_append_own_at _ rfl _ _ 162 rfl f.heap.size 133 iv (.agg #[D4,C4,C4,C4,C4,D2]) 6 16 underlying162 du dv dw dx rfl (by decide) _ _ _ rfl (J.alloc _) ⟨w4.heap.size,0,none⟩ 1 1 [.int .i32 (kI vv),E1 vv 0,E1 vv 1,E1 vv 2,E1 vv 3,.int .i64 (nI vv)] rfl rfl cy (by simp[Value.oneCell']) eo ep (by simp;omega) ?_;intro v' w5 bk W _ _
    obtain⟨n,o,rfl⟩:∃g cap,v'=.slice (some ⟨g,0,none⟩) (r.length+1) cap:=(by rcases bk.2 with ⟨_,er⟩|⟨g,cap,_,rfl,_⟩;exact absurd er (by omega);exact⟨g,cap,rfl⟩);have ak:C2 w5 f.heap.size #[.string (s.extract (c+1) a2),G,.int .i64 (D7 s c)] 164:=(W.block _ (by have:=Aa aj.o;simp;omega) (Kx aj.o (by decide) J)).trans ((Below.heap_alloc _ _ _ (Aa aj.o)).trans aj.o);have cz:=Af ak 1;have es:=Am ak 1;simp only[vV,wG,wN] at cz)
  |fail)
 obtain⟨z,al⟩:∃z,w5.setCell ⟨f.heap.size,1,none⟩ (.slice (some ⟨n,0,none⟩) (r.length+1) o)=z:=⟨_,rfl⟩;rw[al];have am:Ab (·=f.heap.size) w5 z:=by rw[←al];exact (Ab.refl (·=f.heap.size) w5).setCell (g:=f.heap.size) (.inr rfl) _
 have bl:C2 w5 f.heap.size #[.string (s.extract (c+1) a2),G,.int .i64 (D7 s c)] 164:=ak;have c0:xR (z.heap[f.heap.size]? =some (.cells #[.string (s.extract (c+1) a2),.slice (some ⟨n,0,none⟩) (r.length+1) o,.int .i64 (D7 s c)] 164 (0,0))):=by have:=A0 bl 1 (.slice (some ⟨n,0,none⟩) (r.length+1) o);rw[al] at this;exact this
 have et:xR (z.ownsRow f.heap.size 133 6 (.slice (some ⟨n,0,none⟩) (r.length+1) o) (r++[Iz s d]).length ((r++[Iz s d]).flatMap A2)):=by
  have q:=Hy bk am (fun i l=>by subst l;rintro⟨K,L,b⟩;rw[bl] at b;injection b with b;injection b with _ p;exact absurd p (by decide));have e1:(r++[Iz s d]).flatMap A2=r.flatMap A2++[.int .i32 (kI vv),E1 vv 0,E1 vv 1,E1 vv 2,E1 vv 3,.int .i64 (nI vv)]:=by rw[vR,en.o];rfl
  have e2:(r++[Iz s d]).length=r.length+1:=by simp
  show World.ownsRow _ _ _ _ _ _ _;rw[e1,e2];exact q
 have eu:B<w4.heap.size:=Aa R.o.2;have c3:w5.heap[B]? =w4.heap[B]? :=(W.block B (by simp;omega) (Kx R.o.2 (by decide) J)).trans (Below.heap_alloc _ _ _ eu);have c4:xR (RP B s a4 z):=⟨R.o.1,(am.block B (by have:=W.size;simp at this;omega) (by omega)).trans (c3.trans R.o.2)⟩;have ev:xR (Ab (·=B) f z):=by have q:Ab (·=B) f w5:=((ck.o.seq S.o).alloc _).grown W (fun x b=>.inl (Bk J x b));exact q.trans am (fun _ e=>e) (fun i hi e=>by omega)
 clear am bl c3 W bk ak cz es cy cx T U V cv bh cw J al;have fm:=R.o.1;have fn:d<a4:=by
  have q:=Q.o;unfold Et R9 at q;by_cases X:(Bj s d).1=true
  ·rw[if_pos X] at q;have p:Bj s d=(true,a4):=(by have an:(Bj s d).2=a4:=(by simpa using q);exact Prod.ext X an);exact (Ro (by omega) bg p).1
  rw[if_neg X] at q;have an:(Bj s d).2=d:=by unfold Bj V0 at X⊢;have an:=Oo s 97 122 4 d;have fo:¬d<Eb s 97 122 4 d:=(by simpa using X);show Eb s 97 122 4 d=d;omega
  rw[an] at q;exact (Qm bg q).1
 go_call Di B s a4 44 44 _ A (by omega) rfl c4.o as e ao ⟨ew,m,c5,rfl,c6,ap⟩;obtain⟨aq,ar⟩:=Xc c5;have au:=Ae c6;have c7:xR (Ab (·=B) f ao):=ev.o.seq ap;have c8:∀t,t≠93→∀i,i=B→¬Is t z i:=fun t bm i l=>by subst l;rintro⟨K,L,b⟩;rw[c4.o.2] at b;injection b with b;injection b with _ p;exact bm p.symm
 have bn:xR (C2 ao f.heap.size #[.string (s.extract (c+1) a2),.slice (some ⟨n,0,none⟩) (r.length+1) o,.int .i64 (D7 s c)] 164):=(ap.block _ (Aa c0.o) (by omega)).trans c0.o;have c9:xR (ao.ownsRow f.heap.size 133 6 (.slice (some ⟨n,0,none⟩) (r.length+1) o) (r++[Iz s d]).length ((r++[Iz s d]).flatMap A2)):=Hy et.o ap (c8 _ (by decide));clear c5 c6 ap c8;have fp:=au.o.1;cases ew
 ·have av:xR (¬bt s a4=44):=fun l=>by have:=aq.2 l;cases this
  obtain rfl:m=a4:=by rw[ar];simp
  clear aq ar;go_wp21;go_call Di B s m 41 41 _ A (by omega) rfl au.o as e v ⟨ex,ey,da,rfl,db,aw⟩;obtain⟨ax,bo⟩:=Xc da;have ay:=Ae db;have az:xR (Ab (·=B) f v):=c7.o.seq aw;have dc:∀t,t≠93→∀i,i=B→¬Is t ao i:=fun t bm i l=>by subst l;rintro⟨K,L,b⟩;rw[au.o.2] at b;injection b with b;injection b with _ p;exact bm p.symm
  have Y:C2 v f.heap.size #[.string (s.extract (c+1) a2),.slice (some ⟨n,0,none⟩) (r.length+1) o,.int .i64 (D7 s c)] 164:=(aw.block _ (Aa bn.o) (by omega)).trans bn.o;have ez:xR (v.ownsRow f.heap.size 133 6 (.slice (some ⟨n,0,none⟩) (r.length+1) o) (r++[Iz s d]).length ((r++[Iz s d]).flatMap A2)):=Hy c9.o aw (dc _ (by decide));clear da db aw dc;cases ex
  ·have u:xR (Da s=none):=(by show _=_;have bp:¬bt s m=41:=fun l=>(by have:=ax.2 l;cases this);have q:Ep s (s.size+1) (a2+1) []=none:=(by rw[←ai.o,Ep,Q.o,if_pos rfl,if_neg av.o,if_neg bp]);rw[←y.o,Ec,if_pos D.o,E.o,if_pos rfl,if_pos P.o,q]);clear ax bo Y;go_wp21
   try rw[Exit.noGoto_ret]
   go_ret2;exact⟨.inl ⟨u.o,rfl⟩,C.o.seq az.o⟩
  have e0:xR (bt s m=41):=ax.1 rfl;obtain rfl:ey=m+1:=by rw[bo];simp
  have dd:=ay.o.1;clear ax bo;have bq:xR (Ep s (s.size+1) (a2+1) []=some (r++[Iz s d],m+1)):=by show _=_;rw[←ai.o,Ep,Q.o,if_pos rfl,if_neg av.o,if_pos e0.o]
  have T:=Af Y 0;have U:=Af Y 1;have V:=Af Y 2;simp only[vV,wG,wN] at T U V;have de:∀i,i=B→¬Is 164 f i∧¬Is 133 f i:=fun i l=>by subst l;constructor <;> (rintro⟨K,L,b⟩;rw[hp.o.2] at b;injection b with b;injection b with _ p;exact absurd p (by decide))
  have br:=hO.o.kept az.o de;have e3:=Ae br;have Z:=br.1;have e5:xR (Jc v (.slice (some ⟨n,0,none⟩) (r.length+1) o) (r++[Iz s d])):=AV ez.o (by simp);have df:=SU (w:=v) (t:=164) (cs:=#[.string (s.extract (c+1) a2),.slice (some ⟨n,0,none⟩) (r.length+1) o,.int .i64 (D7 s c)]);have e6:xs.length+1≤maxLen:=by unfold maxLen;omega
  have e7:(xs.length+1)*48≤140737488355328:=by omega
  have fq:w.heap.size≤v.heap.size:=uJ C.o.size az.o.size;clear Y br de;go_wp2_with (first
   |(at_builtin;refine wpList_append_own_at _ rfl _ _ 94 rfl w.heap.size 164 dy (.agg #[.string ⟨#[]⟩,.slice none 0 0,.int .i64 0]) 3 48 underlying94 dz d0 d1 d2 rfl (by decide) _ _ _ rfl (Z.alloc _) ⟨v.heap.size,0,none⟩ 1 1 [.string (s.extract (c+1) a2),.slice (some ⟨n,0,none⟩) (r.length+1) o,.int .i64 (D7 s c)] rfl rfl df (by simp[Value.oneCell']) e6 e7 (by simp;omega) ?_;intro v' a0 dg bs _ _)
   |fail)
  obtain⟨I,a5⟩:∃I:He,I=⟨Ia s (c+1) a2,r++[Iz s d],D7 s c⟩:=⟨_,rfl⟩;have a6:Ab (fun j=>some j=u4.ownBlock) v a0:=((Ab.refl (fun j=>some j=u4.ownBlock) v).alloc _).grown bs (fun x b=>.inr b.symm);have bu:∀i,some i=u4.ownBlock→¬Is 133 v i:=fun i l=>by rintro⟨K,L,b⟩;exact Kx b (by decide) Z l
  have dh:xR (Ng a0 w.heap.size v' (xs++[(.slice (some ⟨n,0,none⟩) (r.length+1) o,I)])):=by
   refine⟨?_,fun x b=>?_⟩
   ·have e1:(xs++[((.slice (some ⟨n,0,none⟩) (r.length+1) o:Value),I)]).flatMap KB=xs.flatMap KB++[.string (s.extract (c+1) a2),.slice (some ⟨n,0,none⟩) (r.length+1) o,.int .i64 (D7 s c)]:=(by rw[vR,a5];simp[KB,EA]);rw[e1,tS];exact dg
   rcases tW.1 b with b|b
   ·exact (e3.o.2 x b).kept a6 bu
   simp at b;subst b;rw[a5];exact e5.o.kept a6 bu
  have e8:B<v.heap.size:=Aa ay.o.2;have bv:xR (RP B s (m+1) a0):=⟨dd,(a6.block B e8 (Kx ay.o.2 (by decide) Z)).trans ay.o.2⟩;have e9:xR (Ab (·=B) w a0):=((C.o.seq az.o).alloc _).grown bs (fun x b=>.inl (Bk Z x b));have bw:xR (((xs++[((.slice (some ⟨n,0,none⟩) (r.length+1) o:Value),I)]).map (·.2))=xs.map (·.2)++[⟨Ia s (c+1) a2,r++[Iz s d],D7 s c⟩]):=by show _=_;rw[uF,a5];rfl
  have di:xR ((xs++[((.slice (some ⟨n,0,none⟩) (r.length+1) o:Value),I)]).length=xs.length+1):=by show _=_;simp
  clear a6 bu dg bs df Z T U V a5;generalize xs++[((.slice (some ⟨n,0,none⟩) (r.length+1) o:Value),I)]=M at dh bw di;go_call Ru B s (m+1) _ bv.o as e bx ⟨rfl,a7⟩;have dj:xR (RP B s (m+1) bx):=⟨dd,(a7.block B (Aa bv.o.2) xT).trans bv.o.2⟩;have dk:xR (Ng bx w.heap.size v' M):=dh.o.kept a7 (fun i l=>l.elim);have dl:xR (Ab (·=B) w bx):=e9.o.V1 a7;clear a7;by_cases N:m+1=s.size
  ·have aa:decide (m+1=s.size)=true:=(by simp[N]);rw[aa];have u:xR (Da s=some (M.map (·.2))):=(by show _=_;rw[←y.o,Ec,if_pos D.o,E.o,if_pos rfl,if_pos P.o,bq.o,bw.o];simp only[if_pos N]);clear aa N;go_wp21
   try rw[Exit.noGoto_ret]
   go_ret2;exact⟨.inr ⟨_,M,u.o,rfl,dk.o⟩,dl.o⟩
  have aa:decide (m+1=s.size)=false:=by simp[N]
  rw[aa];have dm:=Ae N;clear aa N;go_wp21;go_call Di B s (m+1) 59 59 _ A (by omega) rfl dj.o as e dn ⟨fa,fb,dp,rfl,dq,bz⟩;obtain⟨a8,b0⟩:=Xc dp;have dr:=Ae dq;have ds:xR (Ab (·=B) w dn):=dl.o.seq bz;have fc:xR (Ng dn w.heap.size v' M):=dk.o.kept bz (fun i l=>by subst l;constructor <;> (rintro⟨K,L,b⟩;rw[dj.o.2] at b;injection b with b;injection b with _ p;exact absurd p (by decide)));clear dp dq bz;cases fa
  ·have u:xR (Da s=none):=(by show _=_;have bp:¬bt s (m+1)=59:=fun l=>(by have:=a8.2 l;cases this);rw[←y.o,Ec,if_pos D.o,E.o,if_pos rfl,if_pos P.o,bq.o];simp only[if_neg dm.o,if_neg bp]);clear a8 b0;go_wp21
   try rw[Exit.noGoto_ret]
   go_ret2;exact⟨.inl ⟨u.o,rfl⟩,ds.o⟩
  have fd:xR (bt s (m+1)=59):=a8.1 rfl;obtain rfl:fb=m+1+1:=by rw[b0];simp
  have fr:=dr.o.1;have fe:xR (Ec s af (m+1+1) (M.map (·.2))=Da s):=by show _=_;rw[←y.o,Ec,if_pos D.o,E.o,if_pos rfl,if_pos P.o,bq.o,bw.o];simp only[if_neg dm.o,if_pos fd.o]
  clear a8 b0;go_wp21;go_roundg af
  case measure=>have:=ej.o;omega
  exact⟨m+1+1,M,by omega,by have:=di.o;omega,dr,fc,ds.o,fe⟩
 have av:xR (bt s a4=44):=aq.1 rfl;obtain rfl:m=a4+1:=by rw[ar];simp
 have ff:xR (Ep s F (a4+1) (r++[Iz s d])=Ep s (s.size+1) (a2+1) []):=by show _=_;rw[←ai.o,Ep,Q.o,if_pos rfl,if_pos av.o]
 clear aq ar;go_wp21;go_roundg F
 case measure=>omega
 exact⟨rfl,a4+1,r++[Iz s d],_,by omega,by simp;omega,by omega,au,bn,c9,c7.o,ff⟩
theorem rF (v:V)(t:Bool):(kI v == Tj t)=decide (ty v=t):=by rw[lZ,OY]
theorem PG (v:V)(t:Bool)(w:World):Calls prog 128 #[Ex v,.int .i32 (Tj t)] w fun e w'=>e=.returned (.bool (decide (ty v=t)))∧Ab No w w':=by
 have a:=Ae (rF v t);show Calls prog 128 #[.agg #[.int .i32 (kI v),E1 v 0,E1 v 1,E1 v 2,E1 v 3,.int .i64 (nI v)],.int .i32 (Tj t)] w _;generalize kI v=b at a;generalize Tj t=c at a;go_enter func128,ntmps128;go_wp21;go_ret;exact⟨A5 a.o,(Ab.refl _ _).alloc _⟩
theorem Jc.run {w:World}{b o cap n:Nat}{r:Row}(h:Jc w (.slice (some ⟨b,o,none⟩) n cap) r){i:Nat}{v:V}(hi:r[i]? =some v):b<w.heap.size∧(loadVar 133 ⟨b,o+i*6,none⟩).run prog w=.ok (Ex v) w:=by
 obtain⟨b',_,_,c,_,e,a,_,d⟩:=h;injection e with e1 e2 e3;injection e1 with e1;injection e1 with e1 e4;subst e1 e4;exact⟨Aa a,Ft fun j x f=>by show _=_;rw[Af a];exact d i v hi j x f⟩
theorem AW (s t:Value)(r:Row)(us:List Bool)(w:World)(hr:Jc w s r)(u:Nl w t us)(P:r.length≤300)(lt:us.length≤300) :
 Calls prog 127 #[s,t,.func (.func 128) #[] #[]] w fun e w'=>e=.returned (.bool (decide (r.map ty=us)))∧Ab No w w':=by
 have z:=Ae hr;have Q:=Ae u;obtain⟨A,B,c1,_,_,rfl,C,R,-⟩:=hr;obtain⟨b2,D,c2,rfl,f,S,E,F⟩:=u;have T:=Ae F;replace C:=Aa C;replace f:=f.lt;obtain⟨n,g⟩:∃n,r.length=n:=⟨_,rfl⟩;obtain⟨m,h⟩:∃m,us.length=m:=⟨_,rfl⟩;have j:=Ae g;have l:=Ae h;rw[g] at z P R⊢;rw[h] at Q lt S⊢;have Z:=Bn E
 clear g h F E;have aa:∀args w,(callFunc 128 args).run prog w=.ok (.enter 128 args) w:=enters_of func128 (by kernel_rfl) rfl;by_cases U:n=m
 ·subst U;go_enter func127,ntmps127;go_wp21;go_loopg [17] n (fun k V wr=>∃i:Nat,i+k=n∧V=.int .i64 (i:Int)∧xR ((r.take i).map ty=us.take i)∧xR (Ab No w wr))
  case atStart=>exact⟨0,by omega,rfl,Ae rfl,Ae (Ab.refl _ _)⟩
  obtain⟨i,_,rfl,G,b⟩:=hrel;cases gk with
  |zero =>have W:¬(i:Int)<(n:Int):=(by omega);have c:xR (decide (r.map ty=us)=true):=(by have H:=G.o;rw[uW (by have:=j.o;omega),uW (by have:=l.o;omega)] at H;show _=_;simp[H]);go_wp21;go_ret;exact⟨A5 c.o.symm,b.o⟩
  |succ k =>
   have W:(i:Int)<(n:Int):=(by omega);have ab:=Bm i;obtain⟨x,p⟩:∃v,r[i]? =some v:=⟨_,tT (by have:=j.o;omega)⟩;obtain⟨y,q⟩:∃v,us[i]? =some v:=⟨_,tT (by have:=l.o;omega)⟩;have I:xR ((loadVar 133 ⟨A,B+i*6,none⟩).run prog wr=.ok (.agg #[.int .i32 (kI x),E1 x 0,E1 x 1,E1 x 2,E1 x 3,.int .i64 (nI x)]) wr):=((z.o.Ag b.o).run p).2;have J:xR (∀w',Calls prog 128 #[.agg #[.int .i32 (kI x),E1 x 0,E1 x 1,E1 x 2,E1 x 3,.int .i64 (nI x)],.int .i32 (Tj y)] w' fun e X=>e=.returned (.bool (decide (ty x=y)))∧Ab No w' X):=fun w'=>PG x y w';have K:C3 wr b2 (D+i) (.int .i32 (Tj y)):=(b.o.cell f xT).trans (T.o i y q);have ac:=b.o.size;have r0:∀o:Obj,C3 (wr.alloc o) b2 (D+i) (.int .i32 (Tj y)):=fun o=>(World.cell?_of_block (Below.heap_alloc wr o b2 (by omega))).trans K;have L:=Ae p;have M:=Ae q;clear p q K;go_wp2_with (first
    |(refine Jw 133 _ rfl rfl A (B+i*6) rfl (.agg #[.int .i32 (kI x),E1 x 0,E1 x 1,E1 x 2,E1 x 3,.int .i64 (nI x)]) I.o ?_)
    |fail)
   go_call J.o _ as e w1 ⟨rfl,N⟩;have O:xR (Ab No w w1):=(b.o.alloc _).seq N;clear N r0 J I;by_cases a:ty x=y
   ·have d:decide (ty x=y)=true:=(by simp[a]);rw[d];have Y:xR ((r.take (i+1)).map ty=us.take (i+1)):=(by show _=_;rw[uI,uI,L.o,M.o,uF,G.o];simp[a]);clear d a;go_wp21;go_roundg k
    case measure=>omega
    exact⟨i+1,by omega,by go_num,Y,O⟩
   have d:decide (ty x=y)=false:=(by simp[a]);rw[d];have c:xR (decide (r.map ty=us)=false):=(by show _=_;rw[decide_eq_false_iff_not];intro e;apply a;have:(r.map ty)[i]? =us[i]? :=(by rw[e]);rw[tX,L.o,M.o] at this;simpa using this);clear d a;go_wp21;go_ret;exact⟨A5 c.o.symm,O.o⟩
 have ad:((n:Int) != (m:Int))=true:=by simp;omega
 have c:xR (decide (r.map ty=us)=false):=by show _=_;rw[decide_eq_false_iff_not];intro e;have:=congrArg List.length e;rw[tZ,j.o,l.o] at this;omega
 go_enter func127,ntmps127;go_wp21;go_ret;exact⟨A5 c.o.symm,Ab.refl _ _⟩
theorem XB (a b:Value)(r:Row)(us:List Bool)(w:World)(hr:Jc w a r)(c:Nl w b us)(d:r.length≤300)(lt:us.length≤300) :
 Calls prog 78 #[a,b] w fun e w'=>e=.returned (.bool (decide (r.map ty=us)))∧Ab No w w':=by
 have f:=Ae (AW a b r us w hr c d lt);clear hr c;go_enter func78,ntmps78;go_wp21;go_call f.o as e w1 ⟨rfl,g⟩;go_wp21;go_ret;exact⟨rfl,g⟩
end Go.Proofs.YtdinjjmcmfjbfaaGreatDoor
