import Derived.Test.YtdinjjmcmfjbfaaGreatDoorTzJ
set_option maxRecDepth 100000
set_option maxHeartbeats 4000000
namespace Go.Proofs.YtdinjjmcmfjbfaaGreatDoor
open Go.RowKit Go.Shelf
open Mo (V Row Bag Q Cy Ac Mc ty Bt A9 wf six)
theorem VD {α:Type}:∀{l:List α},l.length=2→∃a b,l=[a,b]
 | [a,b],_=>⟨a,b,rfl⟩
 | [],h=>by cases h
 | [_],h=>by cases h
 |_::_::_::_,h=>by simp at h
theorem cZ {w:World}{X:Nat→Prop}{p:Nat}{h:Hd}{cs ps:List Nat}(a:Ry w X p h cs ps):Uq h:=by
 obtain⟨_,_,_,_,_,_,_,_,b⟩:=a;exact b
theorem JK {us:List Bool}(h:us.length≤6):six us=some us:=if_pos h
theorem aN {c:Nat}{x:Cy}{us:List Bool}(h:us.length≤6):(Oo (Wl (Mc us (.col c)) (Mc us x)) us).bind six=Mo.Dp c x us:=by
 unfold Mo.Dp
 show (Oo (Wl us[c]? (Mc us x)) us).bind six=_
 cases us[c]? with
 |none=>rfl
 |some a =>
  cases Mc us x with
  |none=>simp[Wl,Oo]
  |some b =>
   by_cases e:a=b
   ·subst e;simp[Wl,Oo,JK h]
   ·have:¬b=a:=fun d=>e d.symm
    simp[Wl,Oo,e,this]
theorem VE {cs:List Nat}{us:List Bool}(h:cs.length≤6):(Oo (Ix us cs) (Hl us cs)).bind six=Bt cs us:=by
 unfold Bt
 show (if Ix us cs=true then some (Hl us cs) else none).bind six=if Ix us cs=true then some (Hl us cs) else none
 cases Ix us cs
 ·rfl
 ·show six (Hl us cs)=_;rw[JK (by rw[Ps];exact h)];rfl
theorem PG {ts:List (Nat×List UInt8)}{q r:Q}(h:Ac q=Ac r):Eo ts q=Eo ts r:=by unfold Eo;rw[h]
section
variable {w0:World} {X:Nat→Prop} {v:Value} {ts:List (Nat×List UInt8)} {ft:List UInt8→Option (List Bool)}
def iU (w0:World)(X:Nat→Prop)(v:Value)(ts:List (Nat×List UInt8))(ft:List UInt8→Option (List Bool))(p:Nat)(q:Q):Prop:=wf q→Eo ts q=true→∀w,(∀k,X k→k<w.heap.size∧w.heap[k]? =w0.heap[k]?)→Fp w v ts→cY w ts ft→Calls Tryz.prog 38 #[v,pV p] w (Cj (A9 ft q) w)
theorem AW {w a:World}(b:∀k,X k→k<w.heap.size∧w.heap[k]? =w0.heap[k]?)(d:Ab No w a):∀k,X k→k<a.heap.size∧a.heap[k]? =w0.heap[k]? :=fun k c=>⟨kV (b k c).1 d.size,(d.block k (b k c).1 oI).trans (b k c).2⟩
theorem LP {p p1:Nat}{h:Hd}{cs:List Nat}{q Q1:Q}(s:h.k≠1)(T:List Bool→Option (List Bool))(t:Ry w0 X p h cs [p1])(u:wf q)(y:Eo ts q=true)(z:iU w0 X v ts ft p1 q)(A:((A9 ft q).bind T).bind six=A9 ft Q1)(w:World)(f:∀k,X k→k<w.heap.size∧w.heap[k]? =w0.heap[k]?)(B:Fp w v ts)(C:cY w ts ft)
 (D:∀(us:List Bool) (a:World) (lv iv:Value) (b cap:Nat) (g:Value),A9 ft q=some us→b<a.heap.size→a.heap[p]? =some (.cells (A0 h lv iv) 139 (0,0))→Gg a lv cs→a.cell? ⟨b,0,none⟩=some g→Pq a g us→Calls Tryz.prog 63 #[.pointer (some ⟨p,0,none⟩),.slice (some ⟨b,0,none⟩) 1 cap] a (Cj (T us) a)) :
 Calls Tryz.prog 38 #[v,pV p] w (Cj (A9 ft Q1) w):=by
 obtain⟨_,lv,iv,i,E,F,_,_,_⟩:=t.mono (w':=w) (fun k c=>(f k c).2) (fun _ e=>e)
 have:=Si p h s lv iv v [p1] [A9 ft q] (fun d=>match d with| [us]=>T us|_=>none) w i (Ra F (by simp)) rfl (by simp) (by simp)
  (fun j G r l hr a c=>by
    have H:j=0:=by have:=(kS.1 l).1;simp at this;exact this
    subst H
    have e1:p1=G:=by simpa using l
    have I:A9 ft q=r:=by simpa using hr
    subst e1 I
    exact z u y a (AW f c) (B.kept c) (C.kept c))
  (fun d a b cap vs m c J n K=>by
    have o:d.length=1:=by have:=congrArg List.length m;simpa using this.symm
    obtain⟨us,rfl⟩:=List.length_eq_one_iff.1 o
    have L:A9 ft q=some us:=by simpa using m
    obtain⟨x,rfl⟩:=List.length_eq_one_iff.1 (n.1.trans o)
    exact D us a lv iv b cap x L J (Tx c i) ((aL E).kept c (fun _ _ e=>e)) (K 0 x rfl) (n.2 0 x us rfl rfl))
 have e:((Uv [A9 ft q]).bind (fun d=>match d with| [us]=>T us|_=>none)).bind six=A9 ft Q1:=by
  rw[←A]
  cases A9 ft q with
  |none=>rfl
  |some us=>rfl
 rw[e] at this
 exact this
theorem aO {p p1 p2:Nat}{h:Hd}{cs:List Nat}{q r Q1:Q}(E:h.k≠1)(T:List Bool→List Bool→Option (List Bool))(F:Ry w0 X p h cs [p1,p2])(G:wf q)(H:wf r)(I:Eo ts q=true)(hr:Eo ts r=true)(J:iU w0 X v ts ft p1 q)(K:iU w0 X v ts ft p2 r)(L:((A9 ft q).bind fun us=>(A9 ft r).bind fun vs=>(T us vs).bind six)=A9 ft Q1)(w:World)(f:∀k,X k→k<w.heap.size∧w.heap[k]? =w0.heap[k]?)(m:Fp w v ts)(n:cY w ts ft)
 (M:∀(us vs:List Bool) (a:World) (lv iv:Value) (b cap:Nat) (o s:Value),A9 ft q=some us→A9 ft r=some vs→b<a.heap.size→a.heap[p]? =some (.cells (A0 h lv iv) 139 (0,0))→a.cell? ⟨b,0,none⟩=some o→a.cell? ⟨b,0+1,none⟩=some s→Pq a o us→Pq a s vs→Calls Tryz.prog 63 #[.pointer (some ⟨p,0,none⟩),.slice (some ⟨b,0,none⟩) 2 cap] a (Cj (T us vs) a)) :
 Calls Tryz.prog 38 #[v,pV p] w (Cj (A9 ft Q1) w):=by
 obtain⟨_,lv,iv,t,_,N,_,_,_⟩:=F.mono (w':=w) (fun k c=>(f k c).2) (fun _ e=>e)
 have:=Si p h E lv iv v [p1,p2] [A9 ft q,A9 ft r] (fun d=>match d with| [us,vs]=>T us vs|_=>none) w t (Ra N (by simp)) rfl (by simp) (by simp)
  (fun j u x g z a c=>by
    have O:j<2:=by have:=(kS.1 g).1;simpa using this
    match j,O with
    |0,_ =>
     have e1:p1=u:=by simpa using g
     have i:A9 ft q=x:=by simpa using z
     subst e1 i;exact J G I a (AW f c) (m.kept c) (n.kept c)
    |1,_ =>
     have e1:p2=u:=by simpa using g
     have i:A9 ft r=x:=by simpa using z
     subst e1 i
     exact K H hr a (AW f c) (m.kept c) (n.kept c))
  (fun d a b cap vs A c P l B=>by
    have C:d.length=2:=by have:=congrArg List.length A;simpa using this.symm
    obtain⟨us,us2,rfl⟩:=VD C
    have D:A9 ft q=some us∧A9 ft r=some us2:=by simpa using A
    obtain⟨x,y,rfl⟩:=VD (l.1.trans C)
    exact M us us2 a lv iv b cap x y D.1 D.2 P (Tx c t) (B 0 x rfl) (B 1 y rfl) (l.2 0 x us rfl rfl) (l.2 1 y us2 rfl rfl))
 have e:((Uv [A9 ft q,A9 ft r]).bind (fun d=>match d with| [us,vs]=>T us vs|_=>none)).bind six=A9 ft Q1:=by
  rw[←L]
  cases A9 ft q with
  |none=>rfl
  |some us =>
   cases A9 ft r with
   |none=>rfl
   |some vs=>rfl
 rw[e] at this
 exact this
theorem ED (hf:∀nm us,ft nm=some us→1≤us.length∧us.length≤6)(F:ts.length≤1000){p:Nat}{q:Q}(h:Tr w0 X p q):iU w0 X v ts ft p q:=by
 induction h with
 | @zero p h cs e f =>
   intro _ g w j l m
   obtain⟨_,lv,iv,G,_⟩:=f.mono (w':=w) (fun k d=>(j k d).2) (fun _ e=>e)
   have H:Eo ts (G8 h cs [])=decide (0≤Bh ts h.nm):=by simp[Eo,G8,Ac]
   rw[H] at g
   exact AV p h e lv iv v ts ft w G l m F (by simpa using g)
 | @one p p1 h cs q hi f _ B =>
   intro a g w j l m
   have u:h.k≠1:=fun e=>by rw[e] at hi;exact absurd hi (by decide)
   have C:Eo ts q=true:=by rw[←g];exact PG (Wi h cs q).symm
   have y:Uq h:=cZ f
   rcases AQ hi y.2.2.2 with d|d|d|d
   ·have e:G8 h cs [q]=.sel (G0 h.l) (Jh h.cmp) h.r q:=by show (if h.k=2 then _ else _)=_;rw[if_pos d]
    rw[e] at a⊢
    obtain⟨c,z⟩:=y.1 d
    have I:G0 h.l=c:=by rw[z];rfl
    rw[I] at a⊢
    refine LP u (fun us=>Oo (Wl (Mc us h.l) (Mc us h.r)) us) f a.2.2 C B ?_ w j l m fun us n lv iv b cap o i x s D t A=>PE p h d lv iv b 0 cap o us n s (fun J e=>?_) (fun J e=>?_) x t A
    ·show ((A9 ft q).bind _).bind six=(A9 ft q).bind (Mo.Dp c h.r)
     cases i:A9 ft q with
     |none=>rfl
     |some us=>show (Oo (Wl (Mc us h.l) (Mc us h.r)) us).bind six=_;rw[z];exact aN (Mo.Fi hf q us a.2.2 i).2
    ·rw[z] at e;injection e with e;subst e;exact a.1
    ·have:=a.2.1;rw[e] at this;exact this
   ·have e:G8 h cs [q]=.pick cs q:=by show (if h.k=2 then _ else if h.k=3 then _ else _)=_;rw[if_neg (by omega),if_pos d]
    rw[e] at a⊢
    refine LP u (fun us=>Oo (Ix us cs) (Hl us cs)) f a.2.2.2 C B ?_ w j l m fun us n lv iv b cap o i x s D t A=>JI p h d lv iv b 0 cap o us cs n s D a.2.1 a.1 a.2.2.1 t A
    show ((A9 ft q).bind _).bind six=(A9 ft q).bind (Bt cs)
    cases i:A9 ft q with
    |none=>rfl
    |some us=>exact VE a.2.1
   ·have e:G8 h cs [q]=.dist q:=by show (if h.k=2 then _ else if h.k=3 then _ else if h.k=6 then _ else _)=_;rw[if_neg (by omega),if_neg (by omega),if_pos d]
    rw[e] at a⊢
    exact a.elim
   ·have e:G8 h cs [q]=.grp cs (wS h.w) q:=by show (if h.k=2 then _ else if h.k=3 then _ else if h.k=6 then _ else _)=_;rw[if_neg (by omega),if_neg (by omega),if_neg (by omega)]
    rw[e] at a⊢
    exact a.elim
 | @two p p1 p2 h cs q r hi f _ _ K L =>
   intro a g w j l m
   have u:h.k≠1:=fun e=>by rw[e] at hi;exact absurd hi (by decide)
   have y:Uq h:=cZ f
   have E:Eo ts q=true∧Eo ts r=true:=by
    have:Eo ts (G8 h cs [q,r])=(Eo ts q && Eo ts r):=by unfold Eo;rw[Wj,oF]
    rw[this] at g;simpa using g
   rcases Rl hi with d|d
   ·have e:G8 h cs [q,r]=.join (G0 h.l) (G0 h.r) q r:=by show (if h.k=4 then _ else _)=_;rw[if_pos d]
    rw[e] at a⊢
    exact a.elim
   ·have e:G8 h cs [q,r]=.uni q r:=by show (if h.k=4 then _ else _)=_;rw[if_neg (by omega)]
    rw[e] at a⊢
    refine aO u (fun us vs=>Oo (decide (us=vs)) us) f a.1 a.2 E.1 E.2 K L ?_ w j l m fun us vs n lv iv b cap o M i hv x s t N O P=>PF p h d lv iv b 0 cap o M us vs n s x t N O P
    show _=(A9 ft q).bind fun us=>(A9 ft r).bind fun vs=>if us=vs then some us else none
    cases i:A9 ft q with
    |none=>rfl
    |some us =>
     cases A9 ft r with
     |none=>rfl
     |some vs =>
      show (Oo (decide (us=vs)) us).bind six=if us=vs then some us else none
      by_cases e:us=vs
      ·simp[Oo,e,JK (e ▸ (Mo.Fi hf q us a.1 i).2)]
      ·simp[Oo,e]
end
open Go.RowKit
open Mo (V Row)
theorem Xy {w:World}{base:Nat}{v:Value}{r:Row}(h:w.ownsRow base 133 6 v r.length (r.flatMap Au))(hr:r≠[]):Hw w v r:=by
 rcases h with ⟨_,⟨_,a⟩|⟨g,cap,b,rfl,_,hg,c,_,_,d⟩⟩
 ·exact absurd (lP a) hr
 ·refine⟨g,0,cap,b,(0,0),rfl,hg,c,fun i v hv j x e=>?_⟩
  have:=U1 r i v hv j x e
  rw[←d,lM] at this
  split at this
  ·rw[lK,←lU];exact this
  ·cases this
def EE (x:Value×E5):List Value:=[.string ⟨x.2.name.toArray⟩,x.1,.int .i64 x.2.t]
def Lu (w:World)(base:Nat)(v:Value)(xs:List (Value×E5)):Prop:=w.ownsRow base 164 3 v xs.length (xs.flatMap EE)∧∀x∈xs,Hw w x.1 x.2.row
theorem Gt {S:Nat→Prop}{w w':World}{base:Nat}{e:TypeId}{size:Nat}{v:Value}{n:Nat}{xs:List Value}(h:w.ownsRow base e size v n xs)(k:Ab S w w')(b:∀i,S i→¬Is e w i):w'.ownsRow base e size v n xs:=by
 refine⟨h.1,?_⟩
 rcases h.2 with hn|⟨g,cap,a,rfl,c,hg,d⟩
 ·exact .inl hn
 ·exact .inr ⟨g,cap,a,rfl,c,(k.block g (Aa hg) (fun f=>b g f ⟨a,_,hg⟩)).trans hg,d⟩
theorem Lu.kept {S:Nat→Prop}{w w':World}{base:Nat}{v:Value}{xs:List (Value×E5)}(h:Lu w base v xs)(k:Ab S w w')(b:∀i,S i→¬Is 164 w i∧¬Is 133 w i):Lu w' base v xs :=
 ⟨Gt h.1 k (fun i a=>(b i a).1),fun x c=>(h.2 x c).kept k (fun i a=>(b i a).2)⟩
theorem Jl {w:World}{b:Nat}{c:Array Value}{t e:TypeId}{d:Nat×Nat}(f:w.heap[b]? =some (.cells c t d))(i:t≠e){base size n:Nat}{v:Value}{xs:List Value}(h:w.ownsRow base e size v n xs):some b≠v.ownBlock:=by
 rcases h.2 with ⟨rfl,_⟩|⟨g,cap,cur,rfl,_,hg,_⟩
 ·simp[Value.ownBlock]
 ·simp only[Value.ownBlock]
  intro a
  injection a with a
  subst a
  rw[f] at hg
  injection hg with hg
  injection hg with _ j
  exact i j
theorem Wm {B P:Nat}{w a b:World}(h:Ab (·=B) w a)(k:Ab (fun k=>k=B∨k=P) a b)(_:w.heap.size≤P):Ab (·=B) w b :=
 h.trans k (fun _ e=>e) (fun i hi e=>by rcases e with e|e;exact e;omega)
theorem PH {s:ByteArray}{a a1:Nat}{ok:Bool}(h:Pl.Qs (Pl.tk s 43) (Pl.tk s 45) a=(ok,a1)):(ok=true↔(Pl.bt s a=43∨Pl.bt s a=45))∧(ok=true→a1=a+1):=by
 unfold Pl.Qs Pl.tk at h
 by_cases b:Pl.bt s a=43
 ·rw[if_pos b] at h;simp at h;obtain⟨rfl,rfl⟩:=h;simp[b]
 ·rw[if_neg b] at h
  simp only[Bool.false_eq_true,if_false] at h
  by_cases c:Pl.bt s a=45
  ·rw[if_pos c] at h;simp at h;obtain⟨rfl,rfl⟩:=h;simp[c]
  ·rw[if_neg c] at h;simp at h;obtain⟨rfl,rfl⟩:=h;simp[b,c]
theorem U4 {s:ByteArray}{c a a1:Nat}{ok:Bool}(h:Pl.tk s c a=(ok,a1)):(ok=true↔Pl.bt s a=c)∧a1=if ok=true then a+1 else a:=by
 unfold Pl.tk at h
 by_cases b:Pl.bt s a=c
 ·rw[if_pos b] at h;simp at h;obtain⟨rfl,rfl⟩:=h;simp[b]
 ·rw[if_neg b] at h;simp at h;obtain⟨rfl,rfl⟩:=h;simp[b]
def VF (B:Nat)(w:World)(R:Option (List E5))(e:Ending)(w':World):Prop :=
 (R=none∧e=.returned (.tuple #[.slice none 0 0,.bool false])∨∃v xs,R=some (xs.map (·.2))∧e=.returned (.tuple #[v,.bool true])∧Lu w' w.heap.size v xs)∧Ab (·=B) w w'
theorem eH:(Tryz.prog.info? 133).map (fun i=>(i.zero,i.size,i.bytes))=some (some (.agg #[.int .i32 0,.int .u8 0,.int .u8 0,.int .u8 0,.int .u8 0,.int .i64 0]),6,16):=by kernel_rfl
theorem LQ {w:World}{t:TypeId}{cs:Array Value}:∀j x,cs.toList[j]? =some x→(w.alloc (.cells cs t)).cell? ((⟨w.heap.size,0,none⟩:Addr).add j)=some x:=World.news_of_block (heap_alloc_last w _)
theorem iI:(Tryz.prog.info? 164).map (fun i=>(i.zero,i.size,i.bytes))=some (some (.agg #[.string ⟨#[]⟩,.slice none 0 0,.int .i64 0]),3,48):=by kernel_rfl
theorem PI (B:Nat)(s:ByteArray)(w:World)(_:s.size≤300)(h:RP B s 0 w) :
 Calls Tryz.prog 43 #[.pointer (some ⟨B,0,none⟩)] w (VF B w (Ci s)):=by
 have b0:=Ad h;have dt:=Aa h.2
 have D:s.size≤1000:=by omega
 obtain⟨iv,du,dv,dw,dx⟩:=info_parts eH
 obtain⟨dy,dz,d0,d1,d2⟩:=info_parts iI
 clear h
 go_enter Tryz.func43,Tryz.ntmps43
 go_wp2_with fail
 go_step3
 go_wp2_with fail;refine (Pm B s 0 _ b0.o).mono ?_;rintro e w0 ⟨rfl,ad⟩;have b1:=Ad ad
 by_cases Q:s.size=0
 ·have a9:decide (0=s.size)=true:=by simp[Q]
  rw[a9]
  have d3:oH (Ci s=some []):=by show _=_;unfold Ci;rw[if_pos Q]
  clear ad Q;go_wp2_with fail
  try rw[Exit.noGoto_ret]
  go_ret2
  exact⟨.inr ⟨_,[],d3.o,rfl,World.ownsRow_nil _ _ _ _,by simp⟩,b1.o.any⟩
 have a9:decide (0=s.size)=false:=by simp;omega
 rw[a9]
 have d4:oH (Dm s (s.size+1) 0 []=Ci s):=by show _=_;unfold Ci;rw[if_neg Q]
 have b2:RP B s 0 w0:=⟨by omega,(ad.block B dt oI).trans b0.o.2⟩
 have d5:=Ad b2;clear ad Q b2;go_wp2_with fail
 go_step3
 go_wp2_with fail
 go_loopg [4] (s.size+1) (fun k ba wr=>∃(c:Nat) (xs:List (Value×E5)),s.size+1≤c+k∧xs.length≤c∧oH (RP B s c wr)∧oH (Lu wr w.heap.size ba xs)∧Ab (·=B) w wr∧oH (Dm s k c (xs.map (·.2))=Ci s))
 case atStart=>exact⟨0,[],by omega,by simp,d5,Ad ⟨World.ownsRow_nil _ _ _ _,by simp⟩,b1.o.any,d4⟩
 case round =>
  obtain⟨c,xs,d6,_,ae,hO,b3,A⟩:=hrel
  have d7:=ae.o.1
  obtain⟨k,rfl⟩:∃k,gk=k+1:=⟨gk-1,by omega⟩
  have d8:B<wr.heap.size:=Aa ae.o.2;have E:=Ad b3;clear b3;have b4:RP B s c (wr.alloc (.cells #[.string ⟨#[]⟩,.slice none 0 0,.int .i64 0] 164)):=⟨d7,(Below.heap_alloc _ _ _ d8).trans ae.o.2⟩;have d9:=Ad b4;clear b4;have b5:(wr.alloc (.cells #[.string ⟨#[]⟩,.slice none 0 0,.int .i64 0] 164)).heap[wr.heap.size]? =some (.cells #[.string ⟨#[]⟩,.slice none 0 0,.int .i64 0] 164 (0,0)):=(MapKept.heap_alloc wr _).1;have ea:=Ad b5
  have eb:oH (Ab (·=B) wr (wr.alloc (.cells #[.string ⟨#[]⟩,.slice none 0 0,.int .i64 0] 164))):=(Ab.refl _ _).alloc _
  clear b5;go_wp2_with fail
  refine (UE B wr.heap.size 2 s c #[.string ⟨#[]⟩,.slice none 0 0,.int .i64 0] 164 _ D (by omega) d9.o ea.o (by simp)).mono ?_
  rintro e ec ⟨ok1,a1,b6,rfl,p1,b7,c1⟩
  obtain⟨af,bb⟩:=PH b6
  have ed:=Ad p1;have ee:oH (ec.heap[wr.heap.size]? =some (.cells #[.string ⟨#[]⟩,.slice none 0 0,.int .i64 (Dh s c)] 164 (0,0))):=c1;have b8:=Ad (Wm eb.o b7 (kZ _));clear b6 p1 b7 c1
  cases ok1
  ·have v:oH (Ci s=none):=by
    show _=_
    rw[←A.o,Dm,if_neg (fun m=>by have:=af.2 m;cases this)]
   clear af bb;go_wp2_with fail
   try rw[Exit.noGoto_ret]
   go_ret2
   exact⟨.inl ⟨v.o,rfl⟩,E.o.seq b8.o⟩
  obtain rfl:=bb rfl;have b9:=af.1 rfl;have F:=Ad b9
  have fh:c<s.size:=Pl.B4 (s:=s) (a:=c) (by omega)
  clear af b9 bb;go_wp2_with fail
  refine (Rs B wr.heap.size 0 4 4 s (c+1) #[.string ⟨#[]⟩,.slice none 0 0,.int .i64 (Dh s c)] 164 _ D (by omega) rfl (by omega) ed.o ee.o (by simp)).mono ?_
  rintro e ef ⟨ok2,f,ag,rfl,p2,ca,c2⟩;have G:oH (Pl.A5 s (c+1)=(ok2,f)):=ag;have eg:=Ad p2;have cb:=Ad (Wm b8.o ca (kZ _));have cc:=Ad c2
  have fi:c+1≤f:=by have:=Pl.Mx s 97 122 4 (c+1);unfold Pl.Ua at ag;injection ag with _ q;omega
  clear ag p2 ca c2
  cases ok2
  ·have v:oH (Ci s=none):=by
    show _=_
    rw[←A.o,Dm,if_pos F.o,G.o,if_neg (by simp)]
   go_wp2_with fail
   try rw[Exit.noGoto_ret]
   go_ret2
   exact⟨.inl ⟨v.o,rfl⟩,E.o.seq cb.o⟩
  have cd:oH (ef.heap[wr.heap.size]? =some (.cells #[.string (s.extract (c+1) f),.slice none 0 0,.int .i64 (Dh s c)] 164 (0,0))):=cc.o;clear cc;go_wp2_with fail
  refine (A4 B s f 40 40 _ D (by omega) rfl eg.o).mono ?_
  rintro e w3 ⟨eh,ei,ce,rfl,cf,bc⟩
  obtain⟨ah,bd⟩:=U4 ce
  have cg:=Ad cf
  have ch:oH (Ab (·=B) wr w3):=cb.o.seq bc
  have ej:oH (w3.heap[wr.heap.size]? =some (.cells #[.string (s.extract (c+1) f),.slice none 0 0,.int .i64 (Dh s c)] 164 (0,0))):=(bc.block _ (Aa cd.o) (by omega)).trans cd.o
  clear ce cf bc
  cases eh
  ·have v:oH (Ci s=none):=by
    show _=_
    have:¬Pl.bt s f=40:=fun m=>by have:=ah.2 m;cases this
    rw[←A.o,Dm,if_pos F.o,G.o,if_pos rfl,if_neg this]
   clear ah bd;go_wp2_with fail
   try rw[Exit.noGoto_ret]
   go_ret2
   exact⟨.inl ⟨v.o,rfl⟩,E.o.seq ch.o⟩
  have R:oH (Pl.bt s f=40):=ah.1 rfl
  have ek:ei=f+1:=by rw[bd];simp
  subst ek;have fj:=cg.o.1;clear ah bd
  obtain⟨l,rfl⟩:∃l:World,l=wr:=⟨_,rfl⟩
  obtain⟨ai,be⟩:∃ai:Nat,ai=k:=⟨_,rfl⟩
  rw[←be] at d6 A
  have el:=Ad be;clear be;go_wp2_with fail
  go_loopg [4] (s.size+1) (fun H ba aj=>ba=u4∧∃(d:Nat) (r:Row) (I:Value),s.size+1≤d+H∧r.length≤d∧f<d∧oH (RP B s d aj)∧oH (aj.heap[l.heap.size]? =some (.cells #[.string (s.extract (c+1) f),I,.int .i64 (Dh s c)] 164 (0,0)))∧oH (aj.ownsRow l.heap.size 133 6 I r.length (r.flatMap Au))∧Ab (·=B) l aj∧oH (Dg s H d r=Dg s (s.size+1) (f+1) []))
  case atStart=>exact⟨rfl,f+1,[],.slice none 0 0,by omega,by simp,by omega,cg,ej,Ad (World.ownsRow_nil _ _ _ _),ch.o,Ad rfl⟩
  case round =>
   obtain⟨rfl,d,r,I,_,_,_,ak,ci,em,bf,al⟩:=hrel
   have bg:=ak.o.1
   obtain⟨H,rfl⟩:∃H,gk=H+1:=⟨gk-1,by omega⟩
   have en:B<wr.heap.size:=Aa ak.o.2;have cj:=Ad bf;have fk:=bf.size;clear bf;have ck:oH (RP B s d (wr.alloc (.cells #[.int .i32 0,.int .u8 0,.int .u8 0,.int .u8 0,.int .u8 0,.int .i64 0] 133))):=⟨bg,(Below.heap_alloc _ _ _ en).trans ak.o.2⟩;have cl:oH ((wr.alloc (.cells #[.int .i32 0,.int .u8 0,.int .u8 0,.int .u8 0,.int .u8 0,.int .i64 0] 133)).heap[wr.heap.size]? =some (.cells #[.int .i32 0,.int .u8 0,.int .u8 0,.int .u8 0,.int .u8 0,.int .i64 0] 133 (0,0))):=(MapKept.heap_alloc wr _).1
   have cm:oH (Ab (·=B) wr (wr.alloc (.cells #[.int .i32 0,.int .u8 0,.int .u8 0,.int .u8 0,.int .u8 0,.int .i64 0] 133))):=(Ab.refl _ _).alloc _
   go_wp2_with fail
   refine (OH B wr.heap.size s d #[.int .i32 0,.int .u8 0,.int .u8 0,.int .u8 0,.int .u8 0,.int .i64 0] _ D (by omega) ck.o cl.o rfl).mono ?_
   rintro e w4 ⟨eo,y,bh,cn,rfl,co,cp,cq,cr⟩;have S:=Ad cn;have T:=Ad co;have U:=Ad (Wm cm.o cp (kZ _));have ct:=Ad cq;have cu:=Ad cr;clear cn co cp cq cr
   cases eo
   ·have v:oH (Ci s=none):=by
     show _=_
     have u:Dg s (s.size+1) (f+1) []=none:=by rw[←al.o,Dg,S.o,if_neg (by simp)]
     rw[←A.o,Dm,if_pos F.o,G.o,if_pos rfl,if_pos R.o,u]
    go_wp2_with fail
    try rw[Exit.noGoto_ret]
    go_ret2
    exact⟨.inl ⟨v.o,rfl⟩,(E.o.seq cj.o).seq U.o⟩
   obtain⟨vv,bi⟩:∃vv,Hj s d=vv:=⟨_,rfl⟩
   have ep:=Ad bi
   have J:w4.heap[wr.heap.size]? =some (.cells #[.int .i32 (kI vv),.int .u8 (tB vv 0),.int .u8 (tB vv 1),.int .u8 (tB vv 2),.int .u8 (tB vv 3),.int .i64 (nI vv)] 133 (0,0)):=by
    have:=ct.o
    rw[cu.o rfl,bi] at this;exact this
   have V:=Ae J 0;have W:=Ae J 1;have X:=Ae J 2;have cv:=Ae J 3;have bh:=Ae J 4;have cw:=Ae J 5
   simp only[mL,mX,nD] at V W X cv bh cw
   have bj:w4.heap[l.heap.size]? =some (.cells #[.string (s.extract (c+1) f),I,.int .i64 (Dh s c)] 164 (0,0)):=(U.o.block _ (Aa ci.o) (by omega)).trans ci.o
   have cx:=Ae bj 1
   simp only[mL,mX,nD] at cx
   have am:=Ad bj
   have L:w4.ownsRow l.heap.size 133 6 I r.length (r.flatMap Au):=Gt em.o U.o (fun i m=>by subst m;rintro⟨M,N,b⟩;rw[ak.o.2] at b;injection b with b;injection b with _ q;exact absurd q (by decide))
   have fl:=Ad L
   have er:r.length+1≤maxLen:=by unfold maxLen;omega
   have es:(r.length+1)*16≤140737488355328:=by omega
   have fm:=U.o.size;clear bi J bj ct cu ck cl cm;have cy:=LQ (w:=w4) (t:=133) (cs:=#[.int .i32 (kI vv),.int .u8 (tB vv 0),.int .u8 (tB vv 1),.int .u8 (tB vv 2),.int .u8 (tB vv 3),.int .i64 (nI vv)])
   go_wp2_with (first
    |(at_builtin;refine wpList_append_own_at _ rfl _ _ 162 rfl l.heap.size 133 iv (.agg #[.int .i32 0,.int .u8 0,.int .u8 0,.int .u8 0,.int .u8 0,.int .i64 0]) 6 16 Tryz.underlying162 du dv dw dx rfl (by decide) _ _ _ rfl (L.alloc _) ⟨w4.heap.size,0,none⟩ 1 1 [.int .i32 (kI vv),.int .u8 (tB vv 0),.int .u8 (tB vv 1),.int .u8 (tB vv 2),.int .u8 (tB vv 3),.int .i64 (nI vv)] rfl rfl cy (by simp[Value.oneCell']) er es (by simp;omega) ?_;intro v' w5 bk Y _ _
      obtain⟨o,p,rfl⟩:∃g cap,v'=.slice (some ⟨g,0,none⟩) (r.length+1) cap:=by rcases bk.2 with ⟨_,et⟩|⟨g,cap,_,rfl,_⟩;exact absurd et (by omega);exact⟨g,cap,rfl⟩
      have an:w5.heap[l.heap.size]? =some (.cells #[.string (s.extract (c+1) f),I,.int .i64 (Dh s c)] 164 (0,0)):=(Y.block _ (by have:=Aa am.o;simp;omega) (Jl am.o (by decide) L)).trans ((Below.heap_alloc _ _ _ (Aa am.o)).trans am.o)
      have cz:=Ae an 1;have eu:=Aj an 1
      simp only[mL,mX,nD] at cz)
    |fail)
   obtain⟨C,ao⟩:∃C,w5.setCell ⟨l.heap.size,1,none⟩ (.slice (some ⟨o,0,none⟩) (r.length+1) p)=C:=⟨_,rfl⟩
   rw[ao]
   have ap:Ab (·=l.heap.size) w5 C:=by rw[←ao];exact (Ab.refl (·=l.heap.size) w5).setCell (g:=l.heap.size) (.inr rfl) _
   have bl:w5.heap[l.heap.size]? =some (.cells #[.string (s.extract (c+1) f),I,.int .i64 (Dh s c)] 164 (0,0)):=an
   have c0:oH (C.heap[l.heap.size]? =some (.cells #[.string (s.extract (c+1) f),.slice (some ⟨o,0,none⟩) (r.length+1) p,.int .i64 (Dh s c)] 164 (0,0))):=by
    have:=Ap bl 1 (.slice (some ⟨o,0,none⟩) (r.length+1) p)
    rw[ao] at this;exact this
   have ev:oH (C.ownsRow l.heap.size 133 6 (.slice (some ⟨o,0,none⟩) (r.length+1) p) (r++[Hj s d]).length ((r++[Hj s d]).flatMap Au)):=by
    have u:=Gt bk ap (fun i m=>by subst m;rintro⟨M,N,b⟩;rw[bl] at b;injection b with b;injection b with _ q;exact absurd q (by decide))
    have e1:(r++[Hj s d]).flatMap Au=r.flatMap Au++[.int .i32 (kI vv),.int .u8 (tB vv 0),.int .u8 (tB vv 1),.int .u8 (tB vv 2),.int .u8 (tB vv 3),.int .i64 (nI vv)]:=by rw[nG,ep.o];rfl
    have ew:(r++[Hj s d]).length=r.length+1:=by simp
    show World.ownsRow _ _ _ _ _ _ _
    rw[e1,ew];exact u
   have ex:B<w4.heap.size:=Aa T.o.2
   have c3:w5.heap[B]? =w4.heap[B]? :=(Y.block B (by simp;omega) (Jl T.o.2 (by decide) L)).trans (Below.heap_alloc _ _ _ ex)
   have c4:oH (RP B s y C):=⟨T.o.1,(ap.block B (by have:=Y.size;simp at this;omega) (by omega)).trans (c3.trans T.o.2)⟩
   have ey:oH (Ab (·=B) l C):=by
    have u:Ab (·=B) l w5:=((cj.o.seq U.o).alloc _).grown Y (fun x b=>.inl (Bf L x b))
    exact u.trans ap (fun _ e=>e) (fun i hi e=>by omega)
   clear ap bl c3 Y bk an cz eu cy cx V W X cv bh cw L ao;have fn:=T.o.1
   have fo:d<y:=by
    have u:=S.o;unfold D0 Pl.Qs at u
    by_cases Z:(Pl.A5 s d).1=true
    ·rw[if_pos Z] at u
     have q:Pl.A5 s d=(true,y):=by
      have aq:(Pl.A5 s d).2=y:=by simpa using u
      exact Prod.ext Z aq
     exact (Pe (by omega) bg q).1
    ·rw[if_neg Z] at u
     have aq:(Pl.A5 s d).2=d:=by
      unfold Pl.A5 Pl.Ua at Z⊢;have aq:=Pl.Mx s 97 122 4 d
      have fp:¬d<Pl.Dk s 97 122 4 d:=by simpa using Z
      show Pl.Dk s 97 122 4 d=d;omega
     rw[aq] at u
     exact (Oa bg u).1
   refine (A4 B s y 44 44 _ D (by omega) rfl c4.o).mono ?_
   rintro e ar ⟨ez,n,c5,rfl,c6,au⟩
   obtain⟨av,aw⟩:=U4 c5
   have ax:=Ad c6
   have c7:oH (Ab (·=B) l ar):=ey.o.seq au
   have c8:∀t,t≠93→∀i,i=B→¬Is t C i:=fun t bm i m=>by subst m;rintro⟨M,N,b⟩;rw[c4.o.2] at b;injection b with b;injection b with _ q;exact bm q.symm
   have bn:oH (ar.heap[l.heap.size]? =some (.cells #[.string (s.extract (c+1) f),.slice (some ⟨o,0,none⟩) (r.length+1) p,.int .i64 (Dh s c)] 164 (0,0))):=(au.block _ (Aa c0.o) (by omega)).trans c0.o
   have c9:oH (ar.ownsRow l.heap.size 133 6 (.slice (some ⟨o,0,none⟩) (r.length+1) p) (r++[Hj s d]).length ((r++[Hj s d]).flatMap Au)):=Gt ev.o au (c8 _ (by decide))
   clear c5 c6 au c8;have fq:=ax.o.1
   cases ez
   ·have ay:oH (¬Pl.bt s y=44):=fun m=>by have:=av.2 m;cases this
    obtain rfl:n=y:=by rw[aw];simp
    clear av aw;go_wp2_with fail
    refine (A4 B s n 41 41 _ D (by omega) rfl ax.o).mono ?_
    rintro e z ⟨e0,e2,da,rfl,db,az⟩
    obtain⟨a0,bo⟩:=U4 da
    have a2:=Ad db
    have a3:oH (Ab (·=B) l z):=c7.o.seq az
    have dc:∀t,t≠93→∀i,i=B→¬Is t ar i:=fun t bm i m=>by subst m;rintro⟨M,N,b⟩;rw[ax.o.2] at b;injection b with b;injection b with _ q;exact bm q.symm
    have aa:z.heap[l.heap.size]? =some (.cells #[.string (s.extract (c+1) f),.slice (some ⟨o,0,none⟩) (r.length+1) p,.int .i64 (Dh s c)] 164 (0,0)):=(az.block _ (Aa bn.o) (by omega)).trans bn.o
    have e3:oH (z.ownsRow l.heap.size 133 6 (.slice (some ⟨o,0,none⟩) (r.length+1) p) (r++[Hj s d]).length ((r++[Hj s d]).flatMap Au)):=Gt c9.o az (dc _ (by decide))
    clear da db az dc
    cases e0
    ·have v:oH (Ci s=none):=by
      show _=_
      have bp:¬Pl.bt s n=41:=fun m=>by have:=a0.2 m;cases this
      have u:Dg s (s.size+1) (f+1) []=none:=by rw[←al.o,Dg,S.o,if_pos rfl,if_neg ay.o,if_neg bp]
      rw[←A.o,Dm,if_pos F.o,G.o,if_pos rfl,if_pos R.o,u]
     clear a0 bo aa;go_wp2_with fail
     try rw[Exit.noGoto_ret]
     go_ret2
     exact⟨.inl ⟨v.o,rfl⟩,E.o.seq a3.o⟩
    have e4:oH (Pl.bt s n=41):=a0.1 rfl
    obtain rfl:e2=n+1:=by rw[bo];simp
    have dd:=a2.o.1;clear a0 bo
    have bq:oH (Dg s (s.size+1) (f+1) []=some (r++[Hj s d],n+1)):=by
     show _=_
     rw[←al.o,Dg,S.o,if_pos rfl,if_neg ay.o,if_pos e4.o]
    have V:=Ae aa 0;have W:=Ae aa 1;have X:=Ae aa 2
    simp only[mL,mX,nD] at V W X
    have de:∀i,i=B→¬Is 164 l i∧¬Is 133 l i:=fun i m=>by
     subst m
     constructor <;> (rintro⟨M,N,b⟩;rw[ae.o.2] at b;injection b with b;injection b with _ q;exact absurd q (by decide))
    have br:=hO.o.kept a3.o de;have e5:=Ad br;have ab:=br.1
    have e6:oH (Hw z (.slice (some ⟨o,0,none⟩) (r.length+1) p) (r++[Hj s d])):=Xy e3.o (by simp)
    have df:=LQ (w:=z) (t:=164) (cs:=#[.string (s.extract (c+1) f),.slice (some ⟨o,0,none⟩) (r.length+1) p,.int .i64 (Dh s c)])
    have e7:xs.length+1≤maxLen:=by unfold maxLen;omega
    have e8:(xs.length+1)*48≤140737488355328:=by omega
    have fr:w.heap.size≤z.heap.size:=lH E.o.size a3.o.size;clear aa br de
    go_wp2_with (first
     |(at_builtin;refine wpList_append_own_at _ rfl _ _ 94 rfl w.heap.size 164 dy (.agg #[.string ⟨#[]⟩,.slice none 0 0,.int .i64 0]) 3 48 Tryz.underlying94 dz d0 d1 d2 rfl (by decide) _ _ _ rfl (ab.alloc _) ⟨z.heap.size,0,none⟩ 1 1 [.string (s.extract (c+1) f),.slice (some ⟨o,0,none⟩) (r.length+1) p,.int .i64 (Dh s c)] rfl rfl df (by simp[Value.oneCell']) e7 e8 (by simp;omega) ?_;intro v' a4 dg bs _ _)
     |fail)
    obtain⟨K,a5⟩:∃K:E5,K=⟨G3 s (c+1) f,r++[Hj s d],Dh s c⟩:=⟨_,rfl⟩
    have a6:Ab (fun j=>some j=u4.ownBlock) z a4:=((Ab.refl (fun j=>some j=u4.ownBlock) z).alloc _).grown bs (fun x b=>.inr b.symm)
    have bt:∀i,some i=u4.ownBlock→¬Is 133 z i:=fun i m=>by
     rintro⟨M,N,b⟩
     exact Jl b (by decide) ab m
    have dh:oH (Lu a4 w.heap.size v' (xs++[(.slice (some ⟨o,0,none⟩) (r.length+1) p,K)])):=by
     refine⟨?_,fun x b=>?_⟩
     ·have e1:(xs++[((.slice (some ⟨o,0,none⟩) (r.length+1) p:Value),K)]).flatMap EE=xs.flatMap EE++[.string (s.extract (c+1) f),.slice (some ⟨o,0,none⟩) (r.length+1) p,.int .i64 (Dh s c)]:=by
       rw[nG,a5];simp[EE,Z4]
      rw[e1,kU];exact dg
     ·rcases lC.1 b with b|b
      ·exact (e5.o.2 x b).kept a6 bt
      ·simp at b;subst b;rw[a5];exact e6.o.kept a6 bt
    have e9:B<z.heap.size:=Aa a2.o.2
    have bu:oH (RP B s (n+1) a4):=⟨dd,(a6.block B e9 (Jl a2.o.2 (by decide) ab)).trans a2.o.2⟩
    have fa:oH (Ab (·=B) w a4):=((E.o.seq a3.o).alloc _).grown bs (fun x b=>.inl (Bf ab x b))
    have bv:oH (((xs++[((.slice (some ⟨o,0,none⟩) (r.length+1) p:Value),K)]).map (·.2))=xs.map (·.2)++[⟨G3 s (c+1) f,r++[Hj s d],Dh s c⟩]):=by show _=_;rw[lF,a5];rfl
    have di:oH ((xs++[((.slice (some ⟨o,0,none⟩) (r.length+1) p:Value),K)]).length=xs.length+1):=by show _=_;simp
    clear a6 bt dg bs df ab V W X a5;generalize xs++[((.slice (some ⟨o,0,none⟩) (r.length+1) p:Value),K)]=O at dh bv di;refine (Pm B s (n+1) _ bu.o).mono ?_;rintro e bw ⟨rfl,a7⟩;have dj:oH (RP B s (n+1) bw):=⟨dd,(a7.block B (Aa bu.o.2) oI).trans bu.o.2⟩
    have dk:oH (Lu bw w.heap.size v' O):=dh.o.kept a7 (fun i m=>m.elim)
    have dl:oH (Ab (·=B) w bw):=fa.o.Vg a7
    clear a7
    by_cases P:n+1=s.size
    ·have ac:decide (n+1=s.size)=true:=by simp[P]
     rw[ac]
     have v:oH (Ci s=some (O.map (·.2))):=by
      show _=_
      rw[←A.o,Dm,if_pos F.o,G.o,if_pos rfl,if_pos R.o,bq.o,bv.o]
      simp only[if_pos P]
     clear ac P;go_wp2_with fail
     try rw[Exit.noGoto_ret]
     go_ret2
     exact⟨.inr ⟨_,O,v.o,rfl,dk.o⟩,dl.o⟩
    ·have ac:decide (n+1=s.size)=false:=by simp[P]
     rw[ac]
     have dm:=Ad P;clear ac P;go_wp2_with fail
     refine (A4 B s (n+1) 59 59 _ D (by omega) rfl dj.o).mono ?_
     rintro e dn ⟨fb,fc,dp,rfl,dq,bx⟩
     obtain⟨a8,bz⟩:=U4 dp
     have dr:=Ad dq
     have ds:oH (Ab (·=B) w dn):=dl.o.seq bx
     have fd:oH (Lu dn w.heap.size v' O):=dk.o.kept bx (fun i m=>by
      subst m
      constructor <;> (rintro⟨M,N,b⟩;rw[dj.o.2] at b;injection b with b;injection b with _ q;exact absurd q (by decide)))
     clear dp dq bx
     cases fb
     ·have v:oH (Ci s=none):=by
       show _=_
       have bp:¬Pl.bt s (n+1)=59:=fun m=>by have:=a8.2 m;cases this
       rw[←A.o,Dm,if_pos F.o,G.o,if_pos rfl,if_pos R.o,bq.o]
       simp only[if_neg dm.o,if_neg bp]
      clear a8 bz;go_wp2_with fail
      try rw[Exit.noGoto_ret]
      go_ret2
      exact⟨.inl ⟨v.o,rfl⟩,ds.o⟩
     ·have fe:oH (Pl.bt s (n+1)=59):=a8.1 rfl
      obtain rfl:fc=n+1+1:=by rw[bz];simp
      have fs:=dr.o.1
      have ff:oH (Dm s ai (n+1+1) (O.map (·.2))=Ci s):=by
       show _=_
       rw[←A.o,Dm,if_pos F.o,G.o,if_pos rfl,if_pos R.o,bq.o,bv.o]
       simp only[if_neg dm.o,if_pos fe.o]
      clear a8 bz;go_wp2_with fail;go_roundg ai
      case measure=>have:=el.o;omega
      case rel=>exact⟨n+1+1,O,by omega,by have:=di.o;omega,dr,fd,ds.o,ff⟩
   ·have ay:oH (Pl.bt s y=44):=av.1 rfl
    obtain rfl:n=y+1:=by rw[aw];simp
    have fg:oH (Dg s H (y+1) (r++[Hj s d])=Dg s (s.size+1) (f+1) []):=by
     show _=_
     rw[←al.o,Dg,S.o,if_pos rfl,if_pos ay.o]
    clear av aw;go_wp2_with fail;go_roundg H
    case measure=>omega
    case rel=>exact⟨rfl,y+1,r++[Hj s d],_,by omega,by simp;omega,by omega,ax,bn,c9,c7.o,fg⟩
open Mo (V Row ty)
theorem iJ (v:V)(t:Bool):(kI v == Sh t)=decide (ty v=t):=by rw[cW,JG]
theorem JL (v:V)(t:Bool)(w:World):Calls Tryz.prog 128 #[J8 v,.int .i32 (Sh t)] w fun e w'=>e=.returned (.bool (decide (ty v=t)))∧Ab No w w':=by
 have a:=Ad (iJ v t)
 show Calls Tryz.prog 128 #[.agg #[.int .i32 (kI v),.int .u8 (tB v 0),.int .u8 (tB v 1),.int .u8 (tB v 2),.int .u8 (tB v 3),.int .i64 (nI v)],.int .i32 (Sh t)] w _
 generalize kI v=b at a;generalize Sh t=c at a
 go_enter Tryz.func128,Tryz.ntmps128
 go_wp2_with fail;go_ret
 exact⟨Az a.o,(Ab.refl _ _).alloc _⟩
theorem Hw.run {w:World}{b o cap n:Nat}{r:Row}(h:Hw w (.slice (some ⟨b,o,none⟩) n cap) r){i:Nat}{v:V}(hi:r[i]? =some v):b<w.heap.size∧(loadVar 133 ⟨b,o+i*6,none⟩).run Tryz.prog w=.ok (J8 v) w:=by
 obtain⟨b',_,_,c,_,e,a,_,d⟩:=h
 injection e with e1 k l
 injection e1 with e1
 injection e1 with e1 f
 subst e1 f
 exact⟨Aa a,F4 fun j x g=>by rw[Ae a];exact d i v hi j x g⟩
theorem Xz (t u:Value)(r:Row)(us:List Bool)(w:World)(hr:Hw w t r)(z:Pq w u us)(Q:r.length≤300)(lt:us.length≤300) :
 Calls Tryz.prog 127 #[t,u,.func (.func 128) #[] #[]] w fun e w'=>e=.returned (.bool (decide (r.map ty=us)))∧Ab No w w':=by
 have A:=Ad hr;have R:=Ad z
 obtain⟨B,C,c1,_,_,rfl,D,S,-⟩:=hr
 obtain⟨f,E,c2,rfl,g,T,F,G⟩:=z
 have U:=Ad G;replace D:=Aa D;replace g:=g.lt
 obtain⟨n,h⟩:∃n,r.length=n:=⟨_,rfl⟩
 obtain⟨m,j⟩:∃m,us.length=m:=⟨_,rfl⟩
 have l:=Ad h;have p:=Ad j
 rw[h] at A Q S⊢
 rw[j] at R lt T⊢
 have ab:c2≤9223372036854775807:=by unfold maxLen at F;omega
 clear h j G F
 have ac:∀args w,(callFunc 128 args).run Tryz.prog w=.ok (.enter 128 args) w:=enters_of Tryz.func128 (by kernel_rfl) rfl
 by_cases V:n=m
 ·subst V
  go_enter Tryz.func127,Tryz.ntmps127
  go_wp2_with fail
  go_loopg [17] n (fun k W wr=>∃i:Nat,i+k=n∧W=.int .i64 (i:Int)∧oH ((r.take i).map ty=us.take i)∧oH (Ab No w wr))
  case atStart=>exact⟨0,by omega,rfl,Ad rfl,Ad (Ab.refl _ _)⟩
  case round =>
   obtain⟨i,_,rfl,H,b⟩:=hrel
   cases gk with
   |zero =>
    have X:¬(i:Int)<(n:Int):=by omega
    have c:oH (decide (r.map ty=us)=true):=by
     have I:=H.o
     rw[lT (by have:=l.o;omega),lT (by have:=p.o;omega)] at I
     show _=_;simp[I]
    go_wp2_with fail;go_ret
    exact⟨Az c.o.symm,b.o⟩
   |succ k =>
    have X:(i:Int)<(n:Int):=by omega
    have ad:(0:Int)≤(i:Int):=by omega
    obtain⟨x,q⟩:∃v,r[i]? =some v:=⟨_,kT (by have:=l.o;omega)⟩
    obtain⟨y,s⟩:∃v,us[i]? =some v:=⟨_,kT (by have:=p.o;omega)⟩
    have J:oH ((loadVar 133 ⟨B,C+i*6,none⟩).run Tryz.prog wr=.ok (.agg #[.int .i32 (kI x),.int .u8 (tB x 0),.int .u8 (tB x 1),.int .u8 (tB x 2),.int .u8 (tB x 3),.int .i64 (nI x)]) wr):=((A.o.Ah b.o).run q).2
    have K:oH (∀w',Calls Tryz.prog 128 #[.agg #[.int .i32 (kI x),.int .u8 (tB x 0),.int .u8 (tB x 1),.int .u8 (tB x 2),.int .u8 (tB x 3),.int .i64 (nI x)],.int .i32 (Sh y)] w' fun e Y=>e=.returned (.bool (decide (ty x=y)))∧Ab No w' Y):=fun w'=>JL x y w'
    have L:wr.cell? ⟨f,E+i,none⟩=some (.int .i32 (Sh y)):=(b.o.cell g oI).trans (U.o i y s);have ae:=b.o.size
    have r0:∀o:Obj,(wr.alloc o).cell? ⟨f,E+i,none⟩=some (.int .i32 (Sh y)):=fun o=>(World.cell?_of_block (Below.heap_alloc wr o f (by omega))).trans L
    have M:=Ad q;have N:=Ad s;clear q s L
    go_wp2_with (first
     |(refine Lf 133 _ rfl rfl B (C+i*6) rfl (.agg #[.int .i32 (kI x),.int .u8 (tB x 0),.int .u8 (tB x 1),.int .u8 (tB x 2),.int .u8 (tB x 3),.int .i64 (nI x)]) J.o ?_)
     |fail)
    refine (K.o _).mono ?_;rintro e Z ⟨rfl,O⟩;have P:oH (Ab No w Z):=(b.o.alloc _).seq O;clear O r0 K J
    by_cases a:ty x=y
    ·have d:decide (ty x=y)=true:=by simp[a]
     rw[d]
     have aa:oH ((r.take (i+1)).map ty=us.take (i+1)):=by
      show _=_
      rw[lL,lL,M.o,N.o,lF,H.o];simp[a]
     clear d a;go_wp2_with fail;go_roundg k
     case measure=>omega
     case rel=>exact⟨i+1,by omega,by go_num,aa,P⟩
    ·have d:decide (ty x=y)=false:=by simp[a]
     rw[d]
     have c:oH (decide (r.map ty=us)=false):=by
      show _=_
      rw[decide_eq_false_iff_not];intro e;apply a
      have:(r.map ty)[i]? =us[i]? :=by rw[e]
      rw[kX,M.o,N.o] at this;simpa using this
     clear d a;go_wp2_with fail;go_ret
     exact⟨Az c.o.symm,P.o⟩
 ·have af:((n:Int) != (m:Int))=true:=by simp;omega
  have c:oH (decide (r.map ty=us)=false):=by
   show _=_
   rw[decide_eq_false_iff_not];intro e
   have:=congrArg List.length e
   rw[lB,l.o,p.o] at this;omega
  go_enter Tryz.func127,Tryz.ntmps127
  go_wp2_with fail;go_ret
  exact⟨Az c.o.symm,Ab.refl _ _⟩
theorem PJ (a b:Value)(r:Row)(us:List Bool)(w:World)(hr:Hw w a r)(c:Pq w b us)(d:r.length≤300)(lt:us.length≤300) :
 Calls Tryz.prog 78 #[a,b] w fun e w'=>e=.returned (.bool (decide (r.map ty=us)))∧Ab No w w':=by
 have f:=Ad (Xz a b r us w hr c d lt);clear hr c
 go_enter Tryz.func78,Tryz.ntmps78
 go_wp2_with fail;refine f.o.mono ?_;rintro e h ⟨rfl,g⟩;go_wp2_with fail;go_ret
 exact⟨rfl,g⟩
end Go.Proofs.YtdinjjmcmfjbfaaGreatDoor
