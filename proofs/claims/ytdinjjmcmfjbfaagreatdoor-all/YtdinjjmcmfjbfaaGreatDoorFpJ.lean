import Derived.Test.YtdinjjmcmfjbfaaGreatDoorSvwJ
set_option maxRecDepth 100000
set_option maxHeartbeats 4000000
namespace Go.Proofs.YtdinjjmcmfjbfaaGreatDoor
open Go.RowKit Go.Shelf Go.Deep Mo Pl Tryz
theorem Zj:∀(l:List (List UInt8×Tk)) (xs:List TabS),D6 xs l=xs.map fun X=>{ X with tks:=X.tks++(l.filter fun p=>decide (p.1=X.name)).map Prod.snd }
 | [],xs=>by simp[D6]
 |x::l,xs=>by
  show D6 (Ko xs x.1 x.2) l=_;rw[Zj l];unfold Ko;rw[vS];refine wB fun X _=>?_;show ({ (if X.name=x.1 then { X with tks:=X.tks++[x.2] } else X) with tks:=_ }:TabS)=_;by_cases h:X.name=x.1
  ·simp[h]
  have a:¬x.1=X.name:=fun e=>h e.symm;simp[h,a]
theorem I3:∀(q:Q) (t:Nd) (T:Tk),I0 q t→Dt q t T=(List.range (Ac q).length).map fun j=>(((Ac q)[j]?).getD [],Dz q t T j)
 | .tab nm,.leaf,T,_=>by simp[Dt,Ac,Dz]
 | .sel _ _ _ q,.one b t,T,h=>I3 q t _ h
 | .pick _ q,.one b t,T,h=>I3 q t _ h
 | .dist q,.one b t,T,h=>I3 q t _ h
 | .grp _ _ q,.one b t,T,h=>I3 q t _ h
 | .join n m q r,.two b t a,T,h=>by
   show Dt q t (Hw b true)++Dt r a (Hw b false)=(List.range (Ac q++Ac r).length).map fun j=>(((Ac q++Ac r)[j]?).getD [],if j<(Ac q).length then Dz q t (Hw b true) j else Dz r a (Hw b false) (j-(Ac q).length));rw[I3 q t _ h.1,I3 r a _ h.2,tS,List.range_add,uF,vS];congr 1
   ·refine wB fun j c=>?_;rw[if_pos (vX.1 c),uD (vX.1 c)]
   refine wB fun j c=>?_;show _=(((Ac q++Ac r)[(Ac q).length+j]?).getD [],if (Ac q).length+j<(Ac q).length then _ else Dz r a _ ((Ac q).length+j-(Ac q).length));rw[if_neg (by omega),uC (by omega),wF]
 | .uni q r,.two b t a,T,h=>by
   show Dt q t (Od b)++Dt r a (Od b)=(List.range (Ac q++Ac r).length).map fun j=>(((Ac q++Ac r)[j]?).getD [],if j<(Ac q).length then Dz q t (Od b) j else Dz r a (Od b) (j-(Ac q).length));rw[I3 q t _ h.1,I3 r a _ h.2,tS,List.range_add,uF,vS];congr 1
   ·refine wB fun j c=>?_;rw[if_pos (vX.1 c),uD (vX.1 c)]
   refine wB fun j c=>?_;show _=(((Ac q++Ac r)[(Ac q).length+j]?).getD [],if (Ac q).length+j<(Ac q).length then _ else Dz r a _ ((Ac q).length+j-(Ac q).length));rw[if_neg (by omega),uC (by omega),wF]
theorem dT (vs:List VS)(V:VS)(nm:List UInt8):Kq (vs++[V]) nm=Kq vs nm++((List.range (Ac V.q).length).filter fun j=>decide ((Ac V.q)[j]? =some nm)).map fun j=>(V,j):=by
 unfold Kq;simp
theorem KR {q:Q}{t:Nd}{T:Tk}(h:I0 q t)(nm:List UInt8):((Dt q t T).filter fun p=>decide (p.1=nm)).map Prod.snd=((List.range (Ac q).length).filter fun j=>decide ((Ac q)[j]? =some nm)).map (Dz q t T):=by
 rw[I3 q t T h,List.filter_map,vS];have e:(List.range (Ac q).length).filter ((fun p:List UInt8×Tk=>decide (p.1=nm)) ∘ fun j=>(((Ac q)[j]?).getD [],Dz q t T j))=(List.range (Ac q).length).filter fun j=>decide ((Ac q)[j]? =some nm):=by refine List.filter_congr fun j a=>?_;have b:=vX.1 a;simp[List.getElem?_eq_getElem b]
 rw[e];rfl
theorem TB (nm:List UInt8):∀(vs:List VS),(∀V∈vs,(Ac V.q).length≤60)→(Kq vs nm).length≤vs.length*60
 | [],_=>by simp[Kq]
 |V::vs,h=>by
  have c:=TB nm vs fun V a=>h V (by simp[a]);have d:=h V (by simp);have e:Kq (V::vs) nm=(((List.range (Ac V.q).length).filter fun j=>decide ((Ac V.q)[j]? =some nm)).map fun j=>(V,j))++Kq vs nm:=by unfold Kq;simp
  have b:=wE (fun j=>decide ((Ac V.q)[j]? =some nm)) (List.range (Ac V.q).length);rw[List.length_range] at b;rw[e,tS,tZ,uO];omega
section
variable {w w':World} {O:Ow} {p:Nat} {st:Ses} {xs:List TabS} {vs:List VS} {tv vv:Value}
theorem Be.ft (h:Be w O p st xs vs tv vv){i:Nat}{X:TabS}(b:xs[i]? =some X):∃t,st.tabs[i]? =some t∧X.name=t.nm∧X.bag=t.bag∧Dw st.tabs X.name=some t:=by
 obtain⟨t,a,e1,e2⟩:=h.at b;exact⟨t,a,e1,e2,by rw[e1];exact SZ h.good.nod (tV a)⟩
theorem Be.tJ (h:Be w O p st xs vs tv vv):mB w (xs.map fun X=>(X.blk,X.name)) (Li st.tabs):=fun i x b=>by
 rw[tX] at b;obtain⟨X,a,rfl⟩:=uK.1 b;obtain⟨t,d,e1,e2,e3⟩:=h.ft a;obtain⟨_,v,hv,c,_⟩:=h.tab X (tV a);exact⟨Aa c,t.ts,X.tv,by show Li st.tabs X.name=_;unfold Li;rw[e3];rfl,(Af c 3).trans rfl,(h.typ i X t a d).1⟩
theorem Be.there (h:Be w O p st xs vs tv vv)(nm:List UInt8):0≤Bz (xs.map fun X=>(X.blk,X.name)) nm↔(Dw st.tabs nm).isSome=true:=by
 have:=h.find nm;constructor
 ·intro a;refine Option.isSome_iff_ne_none.2 fun e=>?_;have:=this.2 e;omega
 intro a;rcases Int.lt_or_le (Bz (xs.map fun X=>(X.blk,X.name)) nm) 0 with b|b
 ·rw[this.1 b] at a;cases a
 exact b
theorem Be.haveQ (h:Be w O p st xs vs tv vv)(q:Q):Fg (xs.map fun X=>(X.blk,X.name)) q=(Ac q).all fun nm=>(Dw st.tabs nm).isSome:=by
 unfold Fg;rw[Bool.eq_iff_iff,uR,uR];refine⟨fun a nm b=>(h.there nm).1 (by simpa using a nm b),fun a nm b=>by simpa using (h.there nm).2 (a nm b)⟩
theorem Be.name (h:Be w O p st xs vs tv vv){nm:List UInt8}{t:Mo.Tab}(c:Dw st.tabs nm=some t):∃Y∈xs,Y.name=nm∧Y.bag=t.bag:=by
 obtain⟨d,e⟩:=Gb c;obtain⟨i,hi⟩:=uY d;obtain⟨X,a⟩:∃X,xs[i]? =some X:=⟨_,tT (by rw[h.len];exact (tR.1 hi).1)⟩;obtain⟨_,b,e1,e2⟩:=h.at a;rw[hi] at b;cases b;exact⟨X,tV a,e1.trans e,e2⟩
theorem Be.mD (h:Be w O p st xs vs tv vv){X:TabS}(a:X∈xs):X.tks.length≤360:=by
 have b:=TB X.name vs h.vlen;have c:=h.few;rw[h.fx.tks X a,tZ];omega
structure kL (X:Nat→Prop) (b:Nat) (O OA:Ow):Prop where
 inn:∀k,X k→OA k=1
 new:¬X b→OA b=b+2
 old:∀k,¬X k→k≠b→OA k=O k
open Classical in
theorem oK (X:Nat→Prop)(b:Nat)(O:Ow):∃OA,kL X b O OA :=
 ⟨fun k=>if X k then 1 else if k=b then b+2 else O k,fun _ e=>if_pos e,fun e=>(if_neg e).trans (if_pos rfl),fun _ e a=>(if_neg e).trans (if_neg a)⟩
structure mE (st:Ses) (q:Q) (ts:List Bool):Prop where
 ty:A7 (Li st.tabs) q=some ts
 wf:wf q
 len:(Ac q).length≤60
 jn:Al q≤2
theorem mE.six (h:Be w O p st xs vs tv vv){q:Q}{ts:List Bool}(a:mE st q ts):ts.length≤6:=(Co (Hh h.good) q ts a.wf a.ty).2
theorem mE.ok (h:Be w O p st xs vs tv vv){q:Q}{ts:List Bool}(a:mE st q ts):B2 ts (Cl st.tabs q)∧Nr (Cl st.tabs q)≤50000000000:=by
 have b:=G0 h.good q;exact⟨SB (Hh h.good) b.2 q a.wf (by have:=a.len;omega) a.jn 0 (Rb h.good q) a.ty,Xf q a.len a.jn b.1 0⟩
theorem Be.pre (h:Be w O p st xs vs tv vv){w1 w3:World}(l:Ab No w w3){X:Nat→Prop}{OA:Ow}(c:kL X w3.heap.size O OA)(i:∀k,X k→w.heap.size≤k∧k<w3.heap.size∧w3.heap[k]? =w1.heap[k]?){q:Q}{ts:List Bool}(b:mE st q ts) :
 jN (Li st.tabs) X w1 tv (p+2) (D0 st.tabs q) xs 0 q (Ly w3.heap.size) (fun a=>a=w3.heap.size+2) ts (B2 ts) (fun w O B=>Er w O w3.heap.size [] B) (w3.alloc (.cells #[.map none,.map none] 87)) OA:=by
 have r:=h.Cm l;have x:=l.size;have f:(w3.alloc (.cells #[.map none,.map none] 87)).heap.size=w3.heap.size+1:=by simp
 have hp:=Aa h.obj;have s:¬X w3.heap.size:=fun e=>by have:=(i _ e).2.1;omega
 have u:∀k,k<w3.heap.size→2≤O k→(w3.alloc (.cells #[.map none,.map none] 87)).heap[k]? =w3.heap[k]?∧OA k=O k:=fun k g ho=>⟨Below.heap_alloc _ _ _ g,c.old k (fun e=>by have:=h.o k (i k e).1;omega) (by omega)⟩;refine⟨fun k e=>?_,Yo _ ts [] (B2.nil (b.six h)),b.ty,b.wf,OU (Hh h.good) (G0 h.good q).2 b.wf (by have:=b.len;omega) b.jn (Rb h.good q) b.ty,fun j nm m=>?_,?_,?_,?_,fun Y d=>?_,fun a y=>?_,fun k g=>?_,?_⟩
 ·obtain⟨a1,a2,a3⟩:=i k e;exact⟨by rw[f];omega,(Below.heap_alloc _ _ _ a2).trans a3,c.inn k e⟩
 ·obtain⟨us,v⟩:=E0 q ts b.ty nm (tV m);obtain⟨t,n,_⟩:=Oj v;obtain⟨Y,d,e1,e2⟩:=h.name n;refine⟨Y,d,e1,?_⟩;unfold D0 Ed;rw[uL,m];simp only;rw[n];exact e2.symm
 ·exact⟨c.new s,.map none,.map none,heap_alloc_last _ _,⟨.inl ⟨rfl,rfl⟩,(fun k e=>by cases e)⟩,⟨.inl ⟨rfl,rfl⟩,(fun k e=>by cases e)⟩,(fun k e=>by cases e)⟩
 ·exact r.tabs.stab (by rw[f];omega) fun k g e=>u k g (by
   rcases e with e|⟨Y,_,e⟩
   ·rw[e];omega
   rw[e];omega)
 ·refine⟨h.fx.nm,h.fx.bl,fun Y d=>⟨fun e=>?_,h.fx.id.2 Y d⟩,⟨fun e=>?_,h.fx.id.1⟩,by rw[h.len];have:=h.good.few;omega,h.fx.few⟩
  ·have:=h.Vr d;omega
  omega
 ·have:=h.mD d;have:=b.len;omega
 ·rw[f];omega
 ·rw[f];by_cases e:X k
  ·rw[c.inn k e];omega
  by_cases o:k=w3.heap.size
  ·subst o;rw[c.new e];omega
  rw[c.old k e o];have:=h.old k;omega
 rw[f];omega
end
structure Ut (w3 w4:World) (OA:Ow) (p:Nat) (st:Ses) (xs:List TabS) (tv:Value) (q:Q) (t:Nd) (O4:Ow):Prop where
 shape:I0 q t
 nod:(nds t).Nodup
 nds:∀b∈nds t,w3.heap.size<b∧b<w4.heap.size
 view:Er w4 O4 w3.heap.size [] (Cl st.tabs q)
 nodes:Ba q t (Ly w3.heap.size) 0 (D0 st.tabs q) w4 O4
 tabs:Cs w4 O4 tv (p+2) (D6 xs (Dt q t (Ly w3.heap.size)))
 own:∀k,k≤w3.heap.size→O4 k=OA k
 kept:∀k,k≤w3.heap.size→OA k≠w3.heap.size+2→(∀Y∈xs,OA k≠Y.blk+2)→w4.heap[k]? =(w3.alloc (.cells #[.map none,.map none] 87)).heap[k]?
 os:w4.os=w3.os∧w4.tape=w3.tape∧w4.output=w3.output
 size:w3.heap.size+1≤w4.heap.size
 old:∀k,k<w4.heap.size→O4 k<w4.heap.size+2
section
variable {w w3 w4:World} {O:Ow} {p:Nat} {st:Ses} {xs:List TabS} {vs:List VS} {tv vv:Value} {X:Nat→Prop} {q:Q} {t:Nd} {O4 OA:Ow}
theorem Ut.of (h:Be w O p st xs vs tv vv){w1:World}(i:Ab No w w3)(j:kL X w3.heap.size O OA)(l:∀k,X k→w.heap.size≤k∧k<w3.heap.size∧w3.heap[k]? =w1.heap[k]?){ts:List Bool}(m:mE st q ts){e:Ending}
 (n:Kw q (Ly w3.heap.size) (fun a=>a=w3.heap.size+2) (fun w O B=>Er w O w3.heap.size [] B) 0 (D0 st.tabs q) xs tv (p+2) (w3.alloc (.cells #[.map none,.map none] 87)) OA e w4) :
 e=.returned (.tuple #[])∧∃t O4,Ut w3 w4 OA p st xs tv q t O4:=by
 have f:=h.pre i j l m;have c:(w3.alloc (.cells #[.map none,.map none] 87)).heap.size=w3.heap.size+1:=by simp
 obtain⟨o,t,O4,r,s,u,v,x,y,z,d,A⟩:=n.norm f.tk f.ab f.old f.id (fun Y g=>by have:=h.Vr g;have:=i.size;rw[c];omega);refine⟨o,t,O4,r,s,fun b C=>?_,v,x,y,fun k D=>z k (by rw[c];omega),fun k D e1 e2=>d.block k (by rw[c];omega) (fun e=>?_),⟨d.os,d.tape,d.output⟩,by have:=d.size;rw[c] at this;exact this,A⟩
 ·have:=u b C;rw[c] at this;omega
 rcases e with e|⟨Y,g,e⟩
 ·exact e1 e
 exact e2 Y g e
theorem Ut.at (h:Be w O p st xs vs tv vv)(a:Ab No w w3)(c:∀k,X k→w.heap.size≤k)(d:kL X w3.heap.size O OA)(b:Ut w3 w4 OA p st xs tv q t O4){k:Nat}(f:k<w.heap.size):O4 k=O k∧((∀Y∈xs,O k≠Y.blk+2)→w4.heap[k]? =w.heap[k]?):=by
 have i:=a.size;have e:OA k=O k:=d.old k (fun e=>by have:=c k e;omega) (by omega);refine⟨(b.own k (by omega)).trans e,fun g=>?_⟩;rw[b.kept k (by omega) (by rw[e];have:=h.old k;omega) (by rw[e];exact g),Below.heap_alloc _ _ _ (by omega)];exact a.block k f xT
theorem Ut.obj (h:Be w O p st xs vs tv vv)(a:Ab No w w3)(b:∀k,X k→w.heap.size≤k)(c:kL X w3.heap.size O OA)(d:Ut w3 w4 OA p st xs tv q t O4):C2 w4 p #[tv,vv] 76 :=
 ((Ut.at h a b c d (Aa h.obj)).2 fun Y f e=>h.fx.id.2 Y f (by rw[←e];exact h.own)).trans h.obj
theorem Ut.vowns (h:Be w O p st xs vs tv vv)(a:Ab No w w3)(b:∀k,X k→w.heap.size≤k)(d:kL X w3.heap.size O OA)(f:Ut w3 w4 OA p st xs tv q t O4):w4.ownsRow 0 81 1 vv vs.length (vs.map fun V=>pV V.blk):=X0 h.vowns fun k e=>by
 obtain⟨c,_,g⟩:=Bh h.vowns e;exact (Ut.at h a b d f (Aa g)).2 fun Y i j=>h.fx.id.2 Y i (by rw[←j];exact h.vowner k e)
theorem Ut.towns (h:Be w O p st xs vs tv vv)(a:Ab No w w3)(b:∀k,X k→w.heap.size≤k)(d:kL X w3.heap.size O OA)(f:Ut w3 w4 OA p st xs tv q t O4):w4.ownsRow 0 101 1 tv xs.length (xs.map fun X=>pV X.blk):=X0 h.towns fun k e=>by
 obtain⟨c,_,g⟩:=Bh h.towns e;exact (Ut.at h a b d f (Aa g)).2 fun Y i j=>h.fx.id.2 Y i (by rw[←j];exact h.towner k e)
def ZN (w4:World)(O4:Ow)(v':Value)(p:Nat):Ow:=fun k=>if k<w4.heap.size then O4 k else if v'.ownBlock=some k then p+2 else 0
structure qN (w3 w4 w5:World) (vs:List VS) (vv v':Value):Prop where
 owns:w5.ownsRow 0 81 1 v' (vs.length+1) ((vs.map fun V=>pV V.blk)++[pV w3.heap.size])
 grown:(w4.alloc (.cells #[pV w3.heap.size] 81)).grownBy w5 vv.ownBlock
 at':v'.ownBlock=vv.ownBlock∨v'.ownBlock=some (w4.heap.size+1)
variable {w5:World} {v':Value}
theorem qN.facts (h:Be w O p st xs vs tv vv)(b:Ab No w w3)(g:∀k,X k→w.heap.size≤k)(i:kL X w3.heap.size O OA)(d:Ut w3 w4 OA p st xs tv q t O4)(hv:qN w3 w4 w5 vs vv v') :
 w4.heap.size+1≤w5.heap.size∧(∀k,v'.ownBlock=some k→k≠p∧k<w5.heap.size∧ZN w4 O4 v' p k=p+2) ∧
 (∀k,k<w4.heap.size→k≠p→vv.ownBlock≠some k→(w5.setCell ⟨p,1,none⟩ v').drew.heap[k]? =w4.heap[k]?) ∧
 C2 ((w5.setCell ⟨p,1,none⟩ v').drew) p #[tv,v'] 76 ∧
 (∀k,k<w4.heap.size→O4 k≠p+2→(w5.setCell ⟨p,1,none⟩ v').drew.heap[k]? =w4.heap[k]?):=by
 have hp:=Aa h.obj;have x:=b.size;have y:=d.size;have n:w4.heap.size+1≤w5.heap.size:=by have:=hv.grown.size;simpa using this
 have vlt:∀k,vv.ownBlock=some k→k<w.heap.size∧k≠p:=fun k e=>by obtain⟨c,o,a⟩:=Bh h.vowns e;refine⟨Aa a,fun r=>?_⟩;subst r;rw[h.obj] at a;injection a with a;injection a with _ a;exact absurd a (by decide)
 have s:∀k,v'.ownBlock=some k→k≠p∧k<w5.heap.size∧ZN w4 O4 v' p k=p+2:=fun k e=>by
  obtain⟨c,o,a⟩:=Bh hv.owns e;rcases hv.at' with f|f
  ·have m:=vlt k (f.symm.trans e);refine⟨m.2,Aa a,?_⟩;show (if k<w4.heap.size then O4 k else _)=_;rw[if_pos (by omega),(Ut.at h b g i d m.1).1];exact h.vowner k (f.symm.trans e)
  have:k=w4.heap.size+1:=by rw[e] at f;simpa using f
  refine⟨by omega,Aa a,?_⟩;show (if k<w4.heap.size then O4 k else if v'.ownBlock=some k then _ else _)=_;rw[if_neg (by omega),if_pos e]
 have b2:∀k,k<w4.heap.size→k≠p→vv.ownBlock≠some k→(w5.setCell ⟨p,1,none⟩ v').drew.heap[k]? =w4.heap[k]? :=fun k l j u=>by show (w5.setCell ⟨p,1,none⟩ v').heap[k]? =_;rw[blk_setCell_other _ _ _ _ j,hv.grown.block k (by simp;omega) (fun e=>u e.symm),Below.heap_alloc _ _ _ l]
 have v:w5.heap[p]? =some (.cells #[tv,vv] 76 (0,0)):=by rw[hv.grown.block p (by simp;omega) (fun e=>(vlt p e.symm).2 rfl),Below.heap_alloc _ _ _ (by omega)];exact Ut.obj h b g i d
 refine⟨n,s,b2,by show (w5.setCell ⟨p,1,none⟩ v').heap[p]? =_;rw[A0 v];rfl,fun k l j=>b2 k l (fun e=>j ?_) (fun e=>j ?_)⟩
 ·rw[e,(Ut.at h b g i d hp).1];exact h.own
 rw[(Ut.at h b g i d (vlt k e).1).1];exact h.vowner k e
end
section
variable {w w3 w4 w5 w':World} {O:Ow} {p:Nat} {st:Ses} {xs:List TabS} {vs:List VS} {tv vv v':Value} {X:Nat→Prop} {q:Q} {t:Nd} {O4 OA:Ow}
theorem Be.oL (h:Be w O p st xs vs tv vv)(u:Ab No w w3)(am:∀k,X k→w.heap.size≤k∧k<w3.heap.size)(G:kL X w3.heap.size O OA)(n:Ut w3 w4 OA p st xs tv q t O4)(hv:qN w3 w4 w5 vs vv v'){ts:List Bool}(C:mE st q ts)(_:vs.length<6)
 {D:Ow} (W:∀k,k<w5.heap.size→D k=ZN w4 O4 v' p k) (A:Ab (fun k=>ZN w4 O4 v' p k=w3.heap.size+2) (w5.setCell ⟨p,1,none⟩ v').drew w') (an:Er w' D w3.heap.size (Cl st.tabs q) (Cl st.tabs q)) :
 (∃v ao,Be w' v p ⟨st.tabs,st.views++[q]⟩ ao (vs++[⟨q,t,w3.heap.size,Cl st.tabs q,ts⟩]) tv v'∧∀k,v k≠0→O k≠0∨w.heap.size≤k)∧Ab (fun k=>O k≠0) w w':=by
 have H:∀k,X k→w.heap.size≤k:=fun k e=>(am k e).1;obtain⟨_,ag,b2,ap,aq⟩:=qN.facts h u H G n hv;have hp:=Aa h.obj;have a6:=u.size;have a7:=n.size;have L:(w5.setCell ⟨p,1,none⟩ v').drew.heap.size=w5.heap.size:=nblk_setCell _ _ _;have a8:w5.heap.size≤w'.heap.size:=by have:=A.size;rw[L] at this;exact this
 have P:∀k,k<w4.heap.size→ZN w4 O4 v' p k=O4 k:=fun k f=>if_pos f;have ah:∀k,k<w4.heap.size→D k=O4 k:=fun k f=>(W k (by omega)).trans (P k f);obtain⟨v,aa⟩:∃v:Ow,∀k,v k=if k<w'.heap.size∧D k<w'.heap.size+2 then D k else 0:=⟨_,fun _=>rfl⟩
 have a1:∀k,k<w'.heap.size→D k<w'.heap.size+2→v k=D k:=fun k x y=>by rw[aa,if_pos ⟨x,y⟩]
 have a4:∀k,k<w4.heap.size→v k=O4 k:=fun k f=>by rw[←ah k f];exact a1 k (by omega) (by rw[ah k f];have:=n.old k f;omega)
 have I:∀k,k<w.heap.size→v k=O k:=fun k f=>(a4 k (by omega)).trans (Ut.at h u H G n f).1;have ab:∀k,k<w4.heap.size→O4 k≠p+2→O4 k≠w3.heap.size+2→w'.heap[k]? =w4.heap[k]? :=fun k f e1 e2=>by rw[A.block k (by rw[L];omega) (by show ZN w4 O4 v' p k≠_;rw[P k f];exact e2)];exact aq k f e1
 have ac:∀k,k<w.heap.size→O k≠p+2→(∀Y∈xs,O k≠Y.blk+2)→w'.heap[k]? =w.heap[k]? :=fun k f e1 e2=>by have ad:=Ut.at h u H G n f;rw[ab k (by omega) (by rw[ad.1];exact e1) (by rw[ad.1];have:=h.old k;omega)];exact ad.2 e2
 have ai:Ab (fun k=>O k≠0) w w':=by
  have ae:w'.os=w.os∧w'.tape=w.tape∧w'.output=w.output:=by have:=n.os;exact⟨A.os.trans (hv.grown.os.trans (this.1.trans u.os)),A.tape.trans (hv.grown.tape.trans (this.2.1.trans u.tape)),A.output.trans (hv.grown.output.trans (this.2.2.trans u.output))⟩
  refine⟨ae.1,ae.2.1,ae.2.2,by omega,fun k f e=>?_⟩;have J:O k=0:=by
   by_cases e1:O k=0
   ·exact e1
   exact absurd e1 e
  exact ac k f (by omega) (fun Y _=>by omega)
 refine⟨⟨v,D6 xs (Dt q t (Ly w3.heap.size)),?_,fun k f=>?_⟩,ai⟩
 case refine_2 =>
  rcases wV k w.heap.size with af|af
  ·exact .inl (by rw[←I k af];exact f)
  exact .inr af
 have ar:w'.heap[p]? =some (.cells #[tv,v'] 76 (0,0)):=by rw[A.block p (by rw[L];omega) (by show ZN w4 O4 v' p p≠_;rw[P p (by omega),(Ut.at h u H G n hp).1,h.own];omega)];exact ap
 have M:∀{β:Type} (g:TabS→β),(∀(X:TabS) (l:List Tk),g { X with tks:=l }=g X)→(D6 xs (Dt q t (Ly w3.heap.size))).map g=xs.map g:=fun g hg=>Jl g hg _ xs;have au:(D6 xs (Dt q t (Ly w3.heap.size))).length=xs.length:=by have:=congrArg List.length (M (fun X=>X.blk) (fun _ _=>rfl));simpa using this
 have aj:=Zj (Dt q t (Ly w3.heap.size)) xs;have K:∀{Y:TabS},Y∈D6 xs (Dt q t (Ly w3.heap.size))→∃Z∈xs,Y.blk=Z.blk∧Y.name=Z.name∧Y.tks=Z.tks++((Dt q t (Ly w3.heap.size)).filter fun p=>decide (p.1=Z.name)).map Prod.snd:=fun m=>by rw[aj] at m;obtain⟨Z,o,rfl⟩:=uA.1 m;exact⟨Z,o,rfl,rfl,rfl⟩
 have av:=C.ok h;have Q:∀a,VA ⟨q,t,w3.heap.size,Cl st.tabs q,ts⟩ a→w.heap.size+2≤a∧a<w4.heap.size+2:=fun a r=>by
  rcases r with r|⟨b,E,r⟩
  ·have R:a=w3.heap.size+2:=r;omega
  have:=n.nds b E;omega
 have B:∀{V:VS},V∈vs++[(⟨q,t,w3.heap.size,Cl st.tabs q,ts⟩:VS)]→V∈vs∨V=⟨q,t,w3.heap.size,Cl st.tabs q,ts⟩:=fun d=>(tW.1 d).imp id xA.1;refine⟨ar,?_,?_,?_,?_,?_,?_,?_,?_,?_,?_,?_,?_,?_,?_,h.good,?_,?_,?_,?_,?_⟩
 ·rw[I p hp];exact h.own
 ·rw[au,M (fun X=>pV X.blk) (fun _ _=>rfl)];refine X0 (Ut.towns h u H G n) fun k e=>?_;obtain⟨c,aw,s⟩:=Bh h.towns e;have ax:=Aa s;have hO:O4 k=p+2:=(Ut.at h u H G n ax).1.trans (h.towner k e);rw[A.block k (by rw[L];omega) (by show ZN w4 O4 v' p k≠_;rw[P k (by omega),hO];omega)];refine b2 k (by omega) (fun J=>?_) (fun J=>?_)
  ·subst J;rw[h.obj] at s;injection s with s;injection s with _ s;exact absurd s (by decide)
  obtain⟨_,_,F⟩:=Bh h.vowns J;rw[s] at F;injection F with F;injection F with _ F;exact absurd F (by decide)
 ·intro k e;obtain⟨c,aw,s⟩:=Bh h.towns e;rw[I k (Aa s)];exact h.towner k e
 ·rw[tS,uF];refine X0 hv.owns fun k e=>?_;obtain⟨c1,c2,S⟩:=ag k e;rw[A.block k (by rw[L];exact c2) (by show ZN w4 O4 v' p k≠_;rw[S];omega)];exact blk_setCell_other _ _ _ _ c1
 ·intro k e;obtain⟨c1,c2,S⟩:=ag k e;rw[a1 k (by omega) (by rw[W k c2,S];omega),W k c2];exact S
 ·intro Y m;obtain⟨Z,o,e1,_⟩:=K m;have a9:=h.Vr o;have ay:=h.fx.id.2 Z o;exact (n.tabs.tab Y m).stab fun k f e=>⟨ab k f (by rw[e,e1];exact ay) (by rw[e,e1];omega),a4 k f⟩
 ·have z:=h.fx;refine⟨by rw[M (fun X=>X.name) (fun _ _=>rfl)];exact z.nm,by rw[M (fun X=>X.blk) (fun _ _=>rfl)];exact z.bl,?_,?_,?_,⟨z.id.1,?_⟩,?_,?_,?_⟩
  ·rw[uF,vP];refine⟨z.vb,by simp,fun a r c s e=>?_⟩;obtain⟨V,d,rfl⟩:=uA.1 r;have F:c=w3.heap.size:=(by simpa using s);have:=h.vlt V d (V.blk+2) (.inl rfl);omega
  ·intro V d ak T al a r R;rcases B d with d|rfl <;> rcases B T with T|rfl
   ·exact z.dis V d ak T al a r R
   ·have:=h.vlt V d a r;have:=(Q a R).1;omega
   ·have:=h.vlt ak T a R;have:=(Q a r).1;omega
   exact al rfl
  ·intro V d a r;rcases B d with d|rfl
   ·obtain⟨U,N,az⟩:=z.va V d a r;refine⟨U,N,fun Y m=>?_⟩;obtain⟨Z,o,e1,_⟩:=K m;rw[e1];exact az Z o
   have:=Q a r;refine⟨by omega,by omega,fun Y m=>?_⟩;obtain⟨Z,o,e1,_⟩:=K m;have:=h.Vr o;rw[e1];omega
  ·intro Y m;obtain⟨Z,o,e1,_⟩:=K m;rw[e1];exact z.id.2 Z o
  ·intro V d;rcases B d with d|rfl
   ·exact z.fix V d
   exact⟨C.ty,C.wf,by have:=C.len;show (Ac q).length≤120;omega,C.jn,n.shape,n.nod,fun b E=>by have:=(n.nds b E).1;show b≠w3.heap.size;omega,av.1⟩
  ·intro Y m;obtain⟨Z,o,_,e2,e3⟩:=K m;rw[e3,e2,dT,uF,z.tks Z o,KR n.shape,vS];rfl
  intro Y m;obtain⟨Z,o,_,e2,e3⟩:=K m;rw[e3,tS,KR n.shape,tZ];have:=h.mD o;have a0:=wE (fun j=>decide ((Ac q)[j]? =some Z.name)) (List.range (Ac q).length);rw[List.length_range] at a0;have:=C.len;omega
 ·rw[M (fun X=>(X.name,X.bag)) (fun _ _=>rfl)];exact h.tb
 ·intro i Y a2 m a3;rw[aj,tX] at m;obtain⟨Z,o,rfl⟩:=uK.1 m;obtain⟨U,N⟩:=h.typ i Z a2 o a3;refine⟨U.stays fun k e hi=>ac k hi.lt (by rw[N k e];omega) (fun ba _=>by rw[N k e];omega),fun k e=>?_⟩;have f:k<w.heap.size:=by obtain⟨b',_,_,J,a5,_⟩:=U;have e:Z.tv.ownBlock=some k:=e;rw[J] at e;have:b'=k:=(by simpa [Value.ownBlock] using e);rw[←this];exact a5.lt
  rw[I k f];exact N k e
 ·rw[uF,h.vq];rfl
 ·intro V d;rcases B d with d|rfl
  ·exact (h.vat V d).stab (by omega) fun k f e=>⟨ac k f (by
    rcases e with e|e
    ·exact (h.fx.va V d _ e).2.1
    ·omega) (fun Y m=>by
    rcases e with e|e
    ·exact (h.fx.va V d _ e).2.2 Y m
    omega),I k f⟩
  refine⟨?_,?_⟩
  ·exact an.stab fun k f e=>⟨rfl,a1 k f (by rw[e];omega)⟩
  refine Ba.stab (by omega) q t _ 0 (fun k f e=>⟨ab k f ?_ ?_,a4 k f⟩) n.nodes
  ·rcases e with ⟨b,E,e⟩|e
   ·have:=(n.nds b E).1;omega
   omega
  rcases e with ⟨b,E,e⟩|e
  ·have:=(n.nds b E).1;omega
  omega
 ·intro V d;rcases B d with d|rfl
  ·exact h.told V d
  exact A9.refl _
 ·intro V d;rcases B d with d|rfl
  ·exact h.vlen V d
  exact C.len
 ·intro V d a r;rcases B d with d|rfl
  ·have:=h.vlt V d a r;omega
  have:=(Q a r).2;omega
 ·rw[tS];show vs.length+1≤6;omega
 ·intro k;rw[aa];split
  ·next e=>exact e.2
  exact Nat.succ_pos _
 ·intro k f;rw[aa,if_neg (fun e=>by have:=e.1;omega)]
 ·rw[I _ (show gT<_ from h.env.lt)];exact h.glb
 exact h.env.kept ai (fun e=>e h.glb)
end
def Kd (st:Ses)(s:ByteArray):(Int×List UInt8×Int)×Ses:=if (M2 s).1≠0 then ((0,[],(M2 s).1),st) else if st.views.length=6 then ((0,[],4),st) else match kF s 6 0 with
 |none=>((0,[],3),st)
 |some (q,_)=>if ((Ac q).all fun nm=>(Dw st.tabs nm).isSome)=true then (match A7 (Li st.tabs) q with
  |none=>((0,[],6),st)
  |some _=>((st.views.length,B8 (Cl st.tabs q),0),⟨st.tabs,st.views++[q]⟩)) else ((0,[],5),st)
def dU (r:Int×List UInt8×Int):Value:=.tuple #[.int .i64 r.1,PK r.2.1,.int .i64 r.2.2]
theorem dV {w:World}{X:Nat→Prop}{p:Nat}{st:Ses}(h:G1 w X p st)(s:ByteArray) :
 Calls prog 17 #[pV p,.string s] w fun e w'=>e=.returned (dU (Kd st s).1)∧∃u,G1 w' u p (Kd st s).2∧Rc X u w w':=by
 have I:∀w',Ab No w w'→∃u,G1 w' u p st∧Rc X u w w':=fun w' c=>⟨X,h.stays c (fun _ e=>e.elim) xT,c.any,fun _ e=>.inl e⟩;obtain⟨O,xs,vs,tv,vv,b,ab⟩:=h;have ac:=M7 s w;have x:=Aa b.obj;have ak:st.views.length=vs.length:=by rw[←b.vq];simp
 obtain⟨a,cap,e1,e2,e3,e4⟩:=Hi b.vowns;have J:C3 w p 0 tv:=(Af b.obj 0).trans rfl;have c1:w.cell? ⟨p,1,none⟩=some (.slice a vs.length cap):=by rw[←e1];exact (Af b.obj 1).trans rfl
 have ad:(xs.map fun X=>(X.blk,X.name)).length≤1000:=by rw[tZ,b.len];have:=b.good.few;omega
 unfold Kd;by_cases E:(M2 s).1≠0
 ·rw[if_pos E];refine (dS p s (M2 s).1 w E (ac.mono fun e w1 j=>?_)).mono fun e w' ⟨o,r⟩=>⟨o,I w' r⟩;obtain⟨c,⟨_,l⟩|⟨B,_⟩⟩:=j
  ·exact⟨⟨_,_,l⟩,c⟩
  exact absurd (by rw[B]) E
 rw[if_neg E];have P:Calls prog 36 #[.string s] w fun e w1=>Ab No w w1∧∃d Y q,e=.returned (.tuple #[C1 d,.int .i64 0,.int .i64 0])∧Tr w1 Y d q∧(∀k,Y k→w.heap.size≤k∧k<w1.heap.size)∧Rq s 6 0 s.size q∧s.size≤120∧xU s s.size≤2:=ac.mono fun e w1 j=>by
  obtain⟨c,⟨al,_⟩|⟨B,am⟩⟩:=j
  ·exact absurd al E
  exact⟨c,am⟩
 by_cases ae:st.views.length=6
 ·rw[if_pos ae];have an:vs.length=6:=by omega
  rw[an] at c1;refine (XH p cap a s w c1 x (P.mono fun e w1 j=>?_)).mono fun e w' ⟨o,r⟩=>⟨o,I w' r⟩;obtain⟨c,d,Y,q,l,_⟩:=j;exact⟨⟨_,_,l⟩,c⟩
 rw[if_neg ae];have K:vs.length<6:=by have:=b.few;omega
 obtain⟨_,w0,_,⟨_,_,_,q,_,_,_,hr,_,_⟩,_⟩:=P [];have af:kF s 6 0=some (q,s.size):=FE hr;have Q:Calls prog 36 #[.string s] w fun e w1=>Ab No w w1∧∃d Y,e=.returned (.tuple #[C1 d,.int .i64 0,.int .i64 0])∧Tr w1 Y d q∧(∀k,Y k→w.heap.size≤k∧k<w1.heap.size):=P.mono fun e w1 j=>by obtain⟨c,d,Y,ao,l,g,f,ap,_⟩:=j;have:=FE ap;rw[af] at this;have e:q=ao:=congrArg Prod.fst (wU this);subst e;exact⟨c,d,Y,l,g,f⟩
 have hf:=Oi hr (vM _);rw[af];simp only;have R:∀(d:Nat) (Y:Nat→Prop) (w1:World),Ab No w w1→Tr w1 Y d q→(∀k,Y k→w.heap.size≤k∧k<w1.heap.size)→Calls prog 37 #[tv,pV d] w1 (Mv ((Ac q).all fun nm=>(Dw st.tabs nm).isSome) w1):=fun d Y w1 c g f=>by rw[←b.haveQ q];exact cW ad g w1 (fun k e=>⟨(f k e).2,rfl⟩) (b.Cm c).tabs.names
 by_cases C:((Ac q).all fun nm=>(Dw st.tabs nm).isSome)=true
 ·rw[if_pos C];have L:∀(d:Nat) (Y:Nat→Prop) (w1 m:World),Ab No w w1→Ab No w1 m→Tr w1 Y d q→(∀k,Y k→w.heap.size≤k∧k<w1.heap.size)→Calls prog 38 #[tv,pV d] m (Ca (A7 (Li st.tabs) q) m):=fun d Y w1 m c i g f =>
   KA (Hh b.good) ad g hf.1 (by rw[b.haveQ q];exact C) m (fun k e=>⟨tU (f k e).2 i.size,i.block k (f k e).2 xT⟩) (b.Cm (c.seq i)).tabs.names (b.Cm (c.seq i)).tJ
  cases S:A7 (Li st.tabs) q with
  |none =>
   simp only;rw[S] at L;refine (XJ p vs.length cap a tv s w K J c1 x (Q.mono fun e w1 j=>?_)).mono fun e w' ⟨o,r⟩=>⟨o,I w' r⟩;obtain⟨c,d,Y,l,g,f⟩:=j;refine⟨d,l,c,(R d Y w1 c g f).mono fun e m F=>?_⟩;obtain⟨y,i⟩:=F;rw[C] at y;refine⟨y,i,(L d Y w1 m c i g f).mono fun e w3 T=>?_⟩;obtain⟨M,⟨_,_,B,_⟩|⟨_,v,U⟩⟩:=T
   ·cases B
   exact⟨⟨v,U⟩,M⟩
  |some ts =>
   simp only;rw[S] at L;have G:mE st q ts:=⟨S,hf.1,by have:=hf.2.2.2.1;omega,by have:=hf.2.2.2.2;omega⟩;have W:=G.ok b;have aq:=XG p vs.length tv vv s w (vs.map fun V=>pV V.blk) (fun t w'=>t=⟨(B8 (Cl st.tabs q)).toArray⟩∧∃u,G1 w' u p ⟨st.tabs,st.views++[q]⟩∧Rc X u w w') K (Q.mono fun e w1 j=>?_)
   ·refine aq.mono fun e w' ⟨t,o,r,ar⟩=>⟨?_,ar⟩;rw[o,r,ak];rfl
   obtain⟨c,d,Y,l,g,f⟩:=j;refine⟨d,l,(c.cell x xT).trans J,⟨a,cap,e1⟩,(c.cell x xT).trans (by rw[e1];exact c1),(R d Y w1 c g f).mono fun e m F=>?_⟩;obtain⟨y,i⟩:=F;rw[C] at y;refine⟨y,((c.seq i).cell x xT).trans J,(L d Y w1 m c i g f).mono fun e w3 T=>?_⟩;obtain⟨M,⟨_,v,_,U,_⟩|⟨B,_⟩⟩:=T
   case inr=>cases B
   have n:=(c.seq i).seq M;have N:∀k,Y k→w.heap.size≤k∧k<w3.heap.size∧w3.heap[k]? =w1.heap[k]? :=fun k e=>(by obtain⟨au,ag⟩:=f k e;have:=(i.seq M);exact⟨au,tU ag this.size,this.block k ag xT⟩);obtain⟨OA,z⟩:=oK Y w3.heap.size O;refine⟨v,U,(n.block p x xT).trans b.obj,(cV (Hh b.good) g (b.pre n z N G)).mono fun e w4 av=>?_⟩;obtain⟨aw,t,O4,A⟩:=Ut.of b n z N G av;have H:∀k,Y k→w.heap.size≤k:=fun k e=>(f k e).1;refine⟨aw,Ut.obj b n H z A,Ut.vowns b n H z A,fun v' w5 ax ay az=>?_⟩;have hv:qN w3 w4 w5 vs vv v':=⟨ax,ay,az⟩;obtain⟨_,_,b2,_,ah⟩:=qN.facts b n H z A hv;have bc:=n.size;have bd:=A.size;have Z:∀k,k<w4.heap.size→ZN w4 O4 v' p k=O4 k:=fun k D=>if_pos D;have a0:gT<w.heap.size:=b.env.lt;have aa:=Ut.at b n H z A a0;have a1:Er (w5.setCell ⟨p,1,none⟩ v').drew (ZN w4 O4 v' p) w3.heap.size [] (Cl st.tabs q):=A.view.stab fun k D e=>⟨ah k D (by rw[e];omega),Z k D⟩;have a2:OB ts (Cl st.tabs q++neg []):=(by have:=TA W.1 W.2;simpa [neg] using this);have a3:Uh (w5.setCell ⟨p,1,none⟩ v').drew:=b.env.block ((ah gT (by omega) (by rw[aa.1,b.glb];omega)).trans (aa.2 fun be _=>by rw[b.glb];omega));refine (KG w3.heap.size _ _ a1 (B2.nil (G.six b)) W.1 a2 a3 (by rw[Z _ (show gT<_ by omega),aa.1,b.glb];omega)).mono fun e w' a4=>?_;obtain⟨a5,_,r1,r2,a6⟩:=a4;have a7:(w5.setCell ⟨p,1,none⟩ v').drew.heap.size=w5.heap.size:=nblk_setCell _ _ _;have bf:(ZN w4 O4 v' p) p=p+2:=(by rw[Z p (by omega),(Ut.at b n H z A x).1];exact b.own);obtain⟨⟨ai,a8,aj,a9⟩,ba⟩:=b.oL n (fun k e=>⟨(N k e).1,(N k e).2.1⟩) z A hv G K (fun k D=>r1 k (by rw[a7];exact D)) r2 a6;refine⟨_,a5,?_,by simp[neg],fun k=>ai k≠0,⟨ai,a8,_,tv,v',aj,fun _=>Iff.rfl⟩,ba.mono fun k _ e=>(ab k).2 e,fun k e=>(a9 k e).imp (ab k).2 id⟩;exact (Af aj.obj 1).trans rfl
 rw[if_neg C];refine (XI p vs.length cap a tv s w K J c1 x (Q.mono fun e w1 j=>?_)).mono fun e w' ⟨o,r⟩=>⟨o,I w' r⟩;obtain⟨c,d,Y,l,g,f⟩:=j;refine⟨d,l,c,(R d Y w1 c g f).mono fun e m F=>?_⟩;obtain⟨y,i⟩:=F;have bb:((Ac q).all fun nm=>(Dw st.tabs nm).isSome)=false:=by simpa using C
 rw[bb] at y;exact⟨y,i⟩
theorem XK (p:Nat)(s:ByteArray)(w:World)(_:300<s.size) :
 Calls prog 20 #[pV p,.string s] w fun e w'=>e=.returned (.tuple #[.string ⟨#[]⟩,.int .i64 1])∧Ab No w w':=by
 show Calls prog 20 #[C1 p,.string s] w _;have a:(300:Int)<(s.size:Int):=by omega
 go_enter func20,ntmps20;go_wp21;go_ret2;exact⟨rfl,Ab.refl _ _⟩
theorem XL (p:Nat)(s:ByteArray)(w:World)(_:s.size≤300)(hB:Calls prog 43 #[C1 w.heap.size] (w.alloc (.cells #[.string s,.int .i64 0] 93)) fun e w1=>(∃v,e=.returned (.tuple #[v,.bool false]))∧Ab No w w1) :
 Calls prog 20 #[pV p,.string s] w fun e w'=>e=.returned (.tuple #[.string ⟨#[]⟩,.int .i64 2])∧Ab No w w':=by
 show Calls prog 20 #[C1 p,.string s] w _;have d:¬(300:Int)<(s.size:Int):=by omega
 have a:=Ae hB;clear hB;go_enter func20,ntmps20;go_wp21;go_call a.o as e w1 ⟨⟨v,rfl⟩,b⟩;have c:=Ae b;clear a b;go_wp21;go_ret2;exact⟨rfl,c.o⟩
theorem dW (p:Nat)(s:ByteArray)(tv:Value)(c:Int)(w:World)(_:s.size≤300)(_:(c != 0)=true)(hB:Calls prog 43 #[C1 w.heap.size] (w.alloc (.cells #[.string s,.int .i64 0] 93)) fun e w1=>∃ov,e=.returned (.tuple #[ov,.bool true])∧Ab No w w1∧C3 w1 p 0 tv ∧
 Calls prog 44 #[tv,ov] w1 fun e a=>e=.returned (.int .i64 c)∧Ab No w1 a) :
 Calls prog 20 #[pV p,.string s] w fun e w'=>e=.returned (.tuple #[.string ⟨#[]⟩,.int .i64 c])∧Ab No w w':=by
 show Calls prog 20 #[C1 p,.string s] w _;have k:¬(300:Int)<(s.size:Int):=by omega
 have b:=Ae hB;clear hB;go_enter func20,ntmps20;go_wp21;go_call b.o as e w1 ⟨ov,rfl,d,_,f⟩;have i:=Ae d;have g:=Ae f;clear b d f;go_wp21;go_call g.o as e a ⟨rfl,h⟩;have j:=Ae (i.o.seq h);clear g h;go_wp21;go_ret2;exact⟨rfl,j.o⟩
theorem XM (p:Nat)(s:ByteArray)(tv:Value)(c:Int)(w:World)(_:s.size≤300)(_:(c != 0)=true)(hB:Calls prog 43 #[C1 w.heap.size] (w.alloc (.cells #[.string s,.int .i64 0] 93)) fun e w1=>∃ov,e=.returned (.tuple #[ov,.bool true])∧Ab No w w1∧C3 w1 p 0 tv ∧
 Calls prog 44 #[tv,ov] w1 fun e a=>e=.returned (.int .i64 0)∧Ab No w1 a∧C3 a p 0 tv ∧
  Calls prog 45 #[tv,ov] a fun e w3=>∃b,e=.returned b∧Ab No a w3∧C3 w3 p 0 tv ∧
   Calls prog 46 #[tv,b] w3 fun e w4=>e=.returned (.int .i64 c)∧Ab No w3 w4) :
 Calls prog 20 #[pV p,.string s] w fun e w'=>e=.returned (.tuple #[.string ⟨#[]⟩,.int .i64 c])∧Ab No w w':=by
 show Calls prog 20 #[C1 p,.string s] w _;have u:¬(300:Int)<(s.size:Int):=by omega
 have d:=Ae hB;clear hB;go_enter func20,ntmps20;go_wp21;go_call d.o as e w1 ⟨ov,rfl,f,_,g⟩;have o:=Ae f;have h:=Ae g;clear d f g;go_wp21;go_call h.o as e a ⟨rfl,i,c2,j⟩;have q:=Ae (o.o.seq i);have k:=Ae j;clear h i j;go_wp21;go_call k.o as e w3 ⟨b,rfl,l,_,m⟩;have r:=Ae (q.o.seq l);have HD:=Ae m;clear k l m;go_wp21;go_call HD.o as e w4 ⟨rfl,n⟩;have t:=Ae (r.o.seq n);clear HD n;go_wp21;go_ret2;exact⟨rfl,t.o⟩
theorem XN (p n b:Nat)(s:ByteArray)(a:Option Addr)(blk:Nat→Nat)(t:ByteArray)(F:World→Prop)(w:World)(_:s.size≤300)(_:n≤4)(hB:Calls prog 43 #[C1 w.heap.size] (w.alloc (.cells #[.string s,.int .i64 0] 93)) fun e w1=>∃ov,e=.returned (.tuple #[ov,.bool true])∧C3 w1 p 0 (.slice a n b) ∧
 Calls prog 44 #[.slice a n b,ov] w1 fun e f=>e=.returned (.int .i64 0)∧C3 f p 0 (.slice a n b) ∧
  Calls prog 45 #[.slice a n b,ov] f fun e w3=>∃d h,e=.returned (.slice (some ⟨d,0,none⟩) n h)∧C3 w3 p 0 (.slice a n b) ∧
   Calls prog 46 #[.slice a n b,.slice (some ⟨d,0,none⟩) n h] w3 fun e w4=>e=.returned (.int .i64 0)∧C3 w4 p 0 (.slice a n b)∧∃(j:Nat→Nat) (c:Nat→World→Prop),c 0 w4 ∧
    (∀i wr,c i wr→i<n→∃g o,a=some ⟨g,o,none⟩∧C3 wr g (o+i) (C1 (blk i))∧C3 wr d i (.map (some (j i)))) ∧
    (∀i wr,c i wr→i<n→Calls prog 47 #[.map (some (j i)),.iface 101 (C1 (blk i))] wr fun e w'=>e=.returned (.tuple #[])∧c (i+1) w') ∧
    ∀wr,c n wr→Calls prog 48 #[C1 p] wr fun e w'=>e=.returned (.string t)∧F w') :
 Calls prog 20 #[pV p,.string s] w fun e w'=>e=.returned (.tuple #[.string t,.int .i64 0])∧F w':=by
 show Calls prog 20 #[C1 p,.string s] w _;have S:¬(300:Int)<(s.size:Int):=by omega
 have m:=Ae hB;clear hB;go_enter func20,ntmps20;go_wp21;go_call m.o as e w1 ⟨ov,rfl,_,q⟩;have r:=Ae q;clear m q;go_wp21;go_call r.o as e f ⟨rfl,c2,u⟩;have v:=Ae u;clear r u;go_wp21;go_call v.o as e w3 ⟨d,h,rfl,_,x⟩;have HD:=Ae x;clear v x;go_wp21;go_call HD.o as e w4 ⟨rfl,_,j,c,y,z,A,B⟩;have G:=Ae y;have H:=Ae z;have I:=Ae A;have J:=Ae B;clear HD y z A B;go_wp21;go_loopg [54] n (fun k K wr=>∃i:Nat,i+k=n∧K=.int .i64 (i:Int)∧xR (c i wr))
 case atStart=>exact⟨0,by omega,rfl,G⟩
 obtain⟨i,L,rfl,l⟩:=hrel;cases gk with
 |zero =>
  have M:¬(i:Int)<(n:Int):=by omega
  have N:xR (i=n):=by show _=_;omega
  have C:xR (Calls prog 48 #[C1 p] wr fun e w'=>e=.returned (.string t)∧F w'):=J.o wr (by rw[←N.o];exact l.o);clear L;go_wp21;go_call C.o as e w5 ⟨rfl,D⟩;have O:=Ae D;clear D C;go_wp21;go_ret2;exact⟨rfl,O.o⟩
 |succ k =>
  have M:(i:Int)<(n:Int):=by omega
  have T:=Bm i
  obtain⟨g,o,rfl,P,Q⟩:=H.o i wr l.o (by omega);have Sb:=Ae (I.o i wr l.o (by omega));go_wp21;go_call Sb.o as e w5 ⟨rfl,E⟩;have R:=Ae E;clear E Sb P Q;go_wp21;go_roundg k
  case measure=>omega
  exact⟨i+1,by omega,by go_num,R⟩
def oM (v:V):Prop:=EC v∧wv v≤9999
theorem PS {s:ByteArray}{a:Nat}(c:a≤s.size)(h:(Et s a).1=true):a<(Et s a).2∧(Et s a).2≤s.size∧oM (Iz s a):=by
 unfold Et R9 at h⊢;unfold Iz;by_cases b:(Bj s a).1=true
 ·rw[if_pos b,if_pos b];have e:Bj s a=(true,(Bj s a).2):=Prod.ext b rfl;have d:=Xe c e;have f:=(Nn s).size a c;refine⟨?_,f,d,by show (0:Int)≤9999;decide⟩;have:=d.1;rw[Tp f] at this;show a<(Bj s a).2;omega
 rw[if_neg b] at h⊢;rw[if_neg b];have g:(Bj s a).2=a:=SG b;rw[g] at h⊢;have e:D1 s a=(true,(D1 s a).2):=Prod.ext h rfl;obtain⟨i,j,k⟩:=Qm c e;have:=GK k;refine⟨i,j,trivial,?_⟩;show ((Gu (Ia s a (D1 s a).2)).natAbs:Int)≤9999;omega
theorem Wg (s:ByteArray):∀(k a:Nat) (r b:Row) (d:Nat),a≤s.size→Ep s k a r=some (b,d)→(∀v∈r,oM v)→(∀v∈b,oM v)∧d≤s.size∧r.length+1≤b.length∧2*b.length+a≤2*r.length+d
 |0,a,r,b,d,_,h,_=>by simp[Ep] at h
 |k+1,a,r,b,d,i,h,hr=>by
  unfold Ep at h;by_cases c:(Et s a).1=true
  ·rw[if_pos c] at h;obtain⟨_,_,j⟩:=PS i c;have e:∀v∈r++[Iz s a],oM v:=fun v hv=>by
    rcases tW.1 hv with hv|hv
    ·exact hr v hv
    rw[xA.1 hv];exact j
   by_cases f:bt s (Et s a).2=44
   ·rw[if_pos f] at h;have l:=Cu (s:=s) (a:=(Et s a).2) (by omega);obtain⟨m,n,o,p⟩:=Wg s k ((Et s a).2+1) _ b d (by omega) h e;rw[tS,vD] at o p;exact⟨m,n,by omega,by omega⟩
   rw[if_neg f] at h;by_cases g:bt s (Et s a).2=41
   ·rw[if_pos g] at h;have l:=Cu (s:=s) (a:=(Et s a).2) (by omega);cases h;rw[tS,vD];exact⟨e,by omega,by omega,by omega⟩
   rw[if_neg g] at h;cases h
  rw[if_neg c] at h;cases h
structure gV (o:He):Prop where
 val:∀v∈o.row,oM v
 len:1≤o.row.length∧o.row.length≤150
 t:o.t=1∨o.t= -1
theorem So (s:ByteArray)(p:s.size≤300):∀(k a:Nat) (l b:List He),a≤s.size→Ec s k a l=some b→(∀o∈l,gV o)→(∀o∈b,gV o)∧b.length≤l.length+k
 |0,a,l,b,_,h,_=>by simp[Ec] at h
 |k+1,a,l,b,_,h,q=>by
  unfold Ec at h;by_cases e:bt s a=43∨bt s a=45
  ·rw[if_pos e] at h;have z:=Cu (s:=s) (a:=a) (by omega);by_cases f:(Bj s (a+1)).1=true
   ·rw[if_pos f] at h;have A:=(Nn s).size (a+1) (by omega);by_cases g:bt s (Bj s (a+1)).2=40
    ·rw[if_pos g] at h;have B:=Cu (s:=s) (a:=(Bj s (a+1)).2) (by omega);cases hr:Ep s (s.size+1) ((Bj s (a+1)).2+1) [] with
     |none=>rw[hr] at h;cases h
     |some x =>
      obtain⟨r,d⟩:=x;rw[hr] at h;simp only at h;obtain⟨t,_,i,u⟩:=Wg s _ _ _ _ _ (by omega) hr (fun v hv=>by cases hv);have ho:gV ⟨Ia s (a+1) (Bj s (a+1)).2,r,D7 s a⟩:=⟨t,⟨by simp at i;exact i,by simp only[vI] at u;show r.length≤150;omega⟩,by show D7 s a=1∨D7 s a= -1;unfold D7;split;exact .inl rfl;exact .inr rfl⟩;have j:∀o∈l++[⟨Ia s (a+1) (Bj s (a+1)).2,r,D7 s a⟩],gV o:=fun o c=>by
       rcases tW.1 c with c|c
       ·exact q o c
       rw[xA.1 c];exact ho
      by_cases m:d=s.size
      ·rw[if_pos m] at h;cases h;exact⟨j,by rw[tS,vD];omega⟩
      rw[if_neg m] at h;by_cases n:bt s d=59
      ·rw[if_pos n] at h;have C:=Cu (s:=s) (a:=d) (by omega);obtain⟨w,y⟩:=So s p k (d+1) _ b (by omega) h j;rw[tS,vD] at y;exact⟨w,by omega⟩
      rw[if_neg n] at h;cases h
    rw[if_neg g] at h;cases h
   rw[if_neg f] at h;cases h
  rw[if_neg e] at h;cases h
theorem Uu {s:ByteArray}(d:s.size≤300){l:List He}(h:Da s=some l):(∀o∈l,gV o)∧l.length≤301:=by
 unfold Da at h;by_cases c:s.size=0
 ·rw[if_pos c] at h;cases h;exact⟨(fun o ho=>by cases ho),by simp⟩
 rw[if_neg c] at h;obtain⟨a,b⟩:=So s d _ _ _ _ (by omega) h (fun o ho=>by cases ho);simp only[vI] at b;exact⟨a,by omega⟩
theorem Mx:∀(a b:List (Nat×List UInt8)) (nm:List UInt8),a.map Prod.snd=b.map Prod.snd→Bz a nm=Bz b nm
 | [],[],_,_=>rfl
 | [],_::_,_,h=>by simp at h
 |_::_,[],_,h=>by simp at h
 |x::a,y::b,nm,h=>by
  have c:x.2=y.2∧a.map Prod.snd=b.map Prod.snd:=by simpa using h
  simp only[Bz,c.1,Mx a b nm c.2]
def Cy (tb:List Mo.Tab):List TRec:=tb.map fun t=>⟨0,t.nm,t.ts⟩
section
variable {a b:List TRec} (h:a.map (fun t=>(t.name,t.tys))=b.map fun t=>(t.name,t.tys))
include h
theorem FG (nm:List UInt8):Tl a nm=Tl b nm:=by
 refine Mx _ _ nm ?_;have:=congrArg (List.map Prod.fst) h;simpa [List.map_map,Function.comp_def] using this
theorem kM (o:He):Hm a o=Hm b o:=by
 unfold Hm;rw[FG h];have:=congrArg (fun l=>(l[(Tl b o.name).toNat]?).map Prod.snd) h;simp only[tX,Option.map_map,Function.comp_def] at this;cases d:a[(Tl b o.name).toNat]? with
 |none =>
  rw[d] at this;cases c:b[(Tl b o.name).toNat]? with
  |none=>rfl
  |some y=>rw[c] at this;cases this
 |some x =>
  rw[d] at this;cases c:b[(Tl b o.name).toNat]? with
  |none=>rw[c] at this;cases this
  |some y =>rw[c] at this;have e:x.tys=y.tys:=(by simpa using this);simp only[e]
theorem oO (os:List He):Ky a os=Ky b os:=by
 have e1:Fh a=Fh b:=by funext o;unfold Fh;rw[FG h]
 have e2:Hm a=Hm b:=by funext o;exact kM h o
 unfold Ky;rw[e1,e2]
theorem oQ (os:List He)(i:Nat):Dn a os i=Dn b os i:=by
 unfold Dn;simp only[FG h]
end
end Go.Proofs.YtdinjjmcmfjbfaaGreatDoor
