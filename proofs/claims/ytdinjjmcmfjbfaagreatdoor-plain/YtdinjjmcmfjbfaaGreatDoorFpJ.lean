import Derived.Test.YtdinjjmcmfjbfaaGreatDoorSvlJ
set_option maxRecDepth 100000
set_option maxHeartbeats 4000000
namespace Go.Proofs.YtdinjjmcmfjbfaaGreatDoor
open Go.RowKit Go.Shelf Go.Deep
open Mo (V Row Bag cnt Af Be B0 Fw neg Nr Q Ac Av A9 wf Ag)
section
variable {w w':World} {O:Ow} {p:Nat} {st:Mo.Ses} {xs:List TabS} {vs:List VS} {tv vv:Value}
theorem A2.ft (h:A2 w O p st xs vs tv vv){i:Nat}{X:TabS}(b:xs[i]? =some X):∃t,st.tabs[i]? =some t∧X.name=t.nm∧X.bag=t.bag∧Mo.C8 st.tabs X.name=some t:=by
 obtain⟨t,a,e1,c⟩:=h.at b
 exact⟨t,a,e1,c,by rw[e1];exact Mo.LX h.good.nod (kW a)⟩
theorem A2.kL (h:A2 w O p st xs vs tv vv):cY w (xs.map fun X=>(X.blk,X.name)) (Mo.Jy st.tabs):=fun i x b=>by
 rw[kX] at b
 obtain⟨X,a,rfl⟩:=lJ.1 b
 obtain⟨t,d,e1,_,e⟩:=h.ft a
 obtain⟨_,v,hv,c,_⟩:=h.tab X (kW a)
 exact⟨Aa c,t.ts,X.tv,by show Mo.Jy st.tabs X.name=_;unfold Mo.Jy;rw[e];rfl,(Ae c 3).trans rfl,(h.typ i X t a d).1⟩
theorem A2.there (h:A2 w O p st xs vs tv vv)(nm:List UInt8):0≤Bh (xs.map fun X=>(X.blk,X.name)) nm↔(Mo.C8 st.tabs nm).isSome=true:=by
 have:=h.find nm
 constructor
 ·intro a
  refine Option.isSome_iff_ne_none.2 fun e=>?_
  have:=this.2 e
  omega
 ·intro a
  rcases Int.lt_or_le (Bh (xs.map fun X=>(X.blk,X.name)) nm) 0 with b|b
  ·rw[this.1 b] at a;cases a
  ·exact b
theorem A2.haveQ (h:A2 w O p st xs vs tv vv)(q:Q):Eo (xs.map fun X=>(X.blk,X.name)) q=(Ac q).all fun nm=>(Mo.C8 st.tabs nm).isSome:=by
 unfold Go.Proofs.YtdinjjmcmfjbfaaGreatDoor.Eo
 rw[Bool.eq_iff_iff,lO,lO]
 refine⟨fun a nm b=>(h.there nm).1 (by simpa using a nm b),fun a nm b=>by simpa using (h.there nm).2 (a nm b)⟩
theorem A2.name (h:A2 w O p st xs vs tv vv){nm:List UInt8}{t:Mo.Tab}(c:Mo.C8 st.tabs nm=some t):∃Y∈xs,Y.name=nm∧Y.bag=t.bag:=by
 obtain⟨d,e⟩:=Mo.Fe c
 obtain⟨i,hi⟩:=lW d
 obtain⟨X,a⟩:∃X,xs[i]? =some X:=⟨_,kT (by rw[h.len];exact (kS.1 hi).1)⟩
 obtain⟨_,b,e1,f⟩:=h.at a
 rw[hi] at b
 cases b
 exact⟨X,kW a,e1.trans e,f⟩
theorem A2.dA (h:A2 w O p st xs vs tv vv){X:TabS}(a:X∈xs):X.tks.length≤360:=by
 have b:=LZ X.name vs h.vlen;have c:=h.few
 rw[h.fx.tks X a,lB]
 omega
structure bA (X:Nat→Prop) (b:Nat) (O OA:Ow):Prop where
 inn:∀k,X k→OA k=1
 new:¬X b→OA b=b+2
 old:∀k,¬X k→k≠b→OA k=O k
open Classical in
theorem eQ (X:Nat→Prop)(b:Nat)(O:Ow):∃OA,bA X b O OA :=
 ⟨fun k=>if X k then 1 else if k=b then b+2 else O k,fun _ e=>if_pos e,fun e=>(if_neg e).trans (if_pos rfl),fun _ e a=>(if_neg e).trans (if_neg a)⟩
structure dB (st:Mo.Ses) (q:Q) (ts:List Bool):Prop where
 ty:A9 (Mo.Jy st.tabs) q=some ts
 wf:wf q
 len:(Ac q).length≤60
 jn:Ag q≤2
theorem dB.six (h:A2 w O p st xs vs tv vv){q:Q}{ts:List Bool}(a:dB st q ts):ts.length≤6:=(Mo.Fi (Mo.F8 h.good) q ts a.wf a.ty).2
theorem dB.ok (h:A2 w O p st xs vs tv vv){q:Q}{ts:List Bool}(a:dB st q ts):B0 ts (Mo.Cc st.tabs q)∧Nr (Mo.Cc st.tabs q)≤50000000000:=by
 have b:=Mo.Iy h.good q
 exact⟨Mo.YP (Mo.F8 h.good) b.2 q a.wf (by have:=a.len;omega) a.jn 0 (Mo.Ou h.good q) a.ty,Mo.BB q a.len a.jn b.1 0⟩
theorem A2.pre (h:A2 w O p st xs vs tv vv){l w3:World}(m:Ab No w w3){X:Nat→Prop}{OA:Ow}(c:bA X w3.heap.size O OA)(i:∀k,X k→w.heap.size≤k∧k<w3.heap.size∧w3.heap[k]? =l.heap[k]?){q:Q}{ts:List Bool}(b:dB st q ts) :
 aJ (Mo.Jy st.tabs) X l tv (p+2) (Mo.Dc st.tabs q) xs 0 q (Kl w3.heap.size) (fun a=>a=w3.heap.size+2) ts (B0 ts) (fun w O B=>Dy w O w3.heap.size [] B) (w3.alloc (.cells #[.map none,.map none] 87)) OA:=by
 have s:=h.Bw m;have C:=m.size
 have f:(w3.alloc (.cells #[.map none,.map none] 87)).heap.size=w3.heap.size+1:=by simp
 have D:=Aa h.obj
 have u:¬X w3.heap.size:=fun e=>by have:=(i _ e).2.1;omega
 have v:∀k,k<w3.heap.size→2≤O k→(w3.alloc (.cells #[.map none,.map none] 87)).heap[k]? =w3.heap[k]?∧OA k=O k:=fun k g ho=>⟨Below.heap_alloc _ _ _ g,c.old k (fun e=>by have:=h.o k (i k e).1;omega) (by omega)⟩
 refine⟨fun k e=>?_,V2 _ ts [] (B0.nil (b.six h)),b.ty,b.wf,JD (Mo.F8 h.good) (Mo.Iy h.good q).2 b.wf (by have:=b.len;omega) b.jn (Mo.Ou h.good q) b.ty,fun j nm n=>?_,?_,?_,?_,fun Y d=>?_,fun a E=>?_,fun k g=>?_,?_⟩
 ·obtain⟨a1,x,y⟩:=i k e
  exact⟨by rw[f];omega,(Below.heap_alloc _ _ _ x).trans y,c.inn k e⟩
 ·obtain⟨us,z⟩:=Mo.Eb q ts b.ty nm (kW n)
  obtain⟨t,o,_⟩:=Mo.Ml z
  obtain⟨Y,d,e1,A⟩:=h.name o
  refine⟨Y,d,e1,?_⟩
  unfold Mo.Dc Mo.Dn
  rw[lK,n]
  simp only
  rw[o];exact A.symm
 ·exact⟨c.new u,.map none,.map none,heap_alloc_last _ _,⟨.inl ⟨rfl,rfl⟩,(fun k e=>by cases e)⟩,⟨.inl ⟨rfl,rfl⟩,(fun k e=>by cases e)⟩,(fun k e=>by cases e)⟩
 ·exact s.tabs.stab (by rw[f];omega) fun k g e=>v k g (by
   rcases e with e|⟨Y,_,e⟩
   ·rw[e];omega
   ·rw[e];omega)
 ·refine⟨h.fx.nm,h.fx.bl,fun Y d=>⟨fun e=>?_,h.fx.id.2 Y d⟩,⟨fun e=>?_,h.fx.id.1⟩,by rw[h.len];have:=h.good.few;omega,h.fx.few⟩
  ·have:=h.T0 d
   omega
  ·omega
 ·have:=h.dA d
  have:=b.len
  omega
 ·rw[f];omega
 ·rw[f]
  by_cases e:X k
  ·rw[c.inn k e];omega
  ·by_cases r:k=w3.heap.size
   ·subst r;rw[c.new e];omega
   ·rw[c.old k e r];have:=h.old k;omega
 ·rw[f];omega
end
structure So (w3 w4:World) (OA:Ow) (p:Nat) (st:Mo.Ses) (xs:List TabS) (tv:Value) (q:Q) (t:Nd) (O4:Ow):Prop where
 shape:Hk q t
 nod:(nds t).Nodup
 nds:∀b∈nds t,w3.heap.size<b∧b<w4.heap.size
 view:Dy w4 O4 w3.heap.size [] (Mo.Cc st.tabs q)
 nodes:A8 q t (Kl w3.heap.size) 0 (Mo.Dc st.tabs q) w4 O4
 tabs:B5 w4 O4 tv (p+2) (De xs (C5 q t (Kl w3.heap.size)))
 own:∀k,k≤w3.heap.size→O4 k=OA k
 kept:∀k,k≤w3.heap.size→OA k≠w3.heap.size+2→(∀Y∈xs,OA k≠Y.blk+2)→w4.heap[k]? =(w3.alloc (.cells #[.map none,.map none] 87)).heap[k]?
 os:w4.os=w3.os∧w4.tape=w3.tape∧w4.output=w3.output
 size:w3.heap.size+1≤w4.heap.size
 old:∀k,k<w4.heap.size→O4 k<w4.heap.size+2
section
variable {w w3 w4:World} {O:Ow} {p:Nat} {st:Mo.Ses} {xs:List TabS} {vs:List VS} {tv vv:Value} {X:Nat→Prop} {q:Q} {t:Nd} {O4 OA:Ow}
theorem So.of (h:A2 w O p st xs vs tv vv){j:World}(i:Ab No w w3)(l:bA X w3.heap.size O OA)(m:∀k,X k→w.heap.size≤k∧k<w3.heap.size∧w3.heap[k]? =j.heap[k]?){ts:List Bool}(n:dB st q ts){e:Ending}
 (o:Jk q (Kl w3.heap.size) (fun a=>a=w3.heap.size+2) (fun w O B=>Dy w O w3.heap.size [] B) 0 (Mo.Dc st.tabs q) xs tv (p+2) (w3.alloc (.cells #[.map none,.map none] 87)) OA e w4) :
 e=.returned (.tuple #[])∧∃t O4,So w3 w4 OA p st xs tv q t O4:=by
 have f:=h.pre i l m n
 have c:(w3.alloc (.cells #[.map none,.map none] 87)).heap.size=w3.heap.size+1:=by simp
 obtain⟨r,t,O4,s,u,v,x,y,z,A,d,C⟩:=o.norm f.tk f.ab f.old f.id (fun Y g=>by have:=h.T0 g;have:=i.size;rw[c];omega)
 refine⟨r,t,O4,s,u,fun b D=>?_,x,y,z,fun k E=>A k (by rw[c];omega),fun k E e1 F=>d.block k (by rw[c];omega) (fun e=>?_),⟨d.os,d.tape,d.output⟩,by have:=d.size;rw[c] at this;exact this,C⟩
 ·have:=v b D;rw[c] at this;omega
 ·rcases e with e|⟨Y,g,e⟩
  ·exact e1 e
  ·exact F Y g e
theorem So.at (h:A2 w O p st xs vs tv vv)(a:Ab No w w3)(c:∀k,X k→w.heap.size≤k)(d:bA X w3.heap.size O OA)(b:So w3 w4 OA p st xs tv q t O4){k:Nat}(f:k<w.heap.size):O4 k=O k∧((∀Y∈xs,O k≠Y.blk+2)→w4.heap[k]? =w.heap[k]?):=by
 have i:=a.size
 have e:OA k=O k:=d.old k (fun e=>by have:=c k e;omega) (by omega)
 refine⟨(b.own k (by omega)).trans e,fun g=>?_⟩
 rw[b.kept k (by omega) (by rw[e];have:=h.old k;omega) (by rw[e];exact g),Below.heap_alloc _ _ _ (by omega)]
 exact a.block k f oI
theorem So.obj (h:A2 w O p st xs vs tv vv)(a:Ab No w w3)(b:∀k,X k→w.heap.size≤k)(c:bA X w3.heap.size O OA)(d:So w3 w4 OA p st xs tv q t O4):w4.heap[p]? =some (.cells #[tv,vv] 76 (0,0)) :=
 ((So.at h a b c d (Aa h.obj)).2 fun Y f e=>h.fx.id.2 Y f (by rw[←e];exact h.own)).trans h.obj
theorem So.vowns (h:A2 w O p st xs vs tv vv)(a:Ab No w w3)(b:∀k,X k→w.heap.size≤k)(d:bA X w3.heap.size O OA)(f:So w3 w4 OA p st xs tv q t O4):w4.ownsRow 0 81 1 vv vs.length (vs.map fun V=>pV V.blk):=Cm h.vowns fun k e=>by
 obtain⟨c,_,g⟩:=Bc h.vowns e
 exact (So.at h a b d f (Aa g)).2 fun Y i j=>h.fx.id.2 Y i (by rw[←j];exact h.vowner k e)
theorem So.towns (h:A2 w O p st xs vs tv vv)(a:Ab No w w3)(b:∀k,X k→w.heap.size≤k)(d:bA X w3.heap.size O OA)(f:So w3 w4 OA p st xs tv q t O4):w4.ownsRow 0 101 1 tv xs.length (xs.map fun X=>pV X.blk):=Cm h.towns fun k e=>by
 obtain⟨c,_,g⟩:=Bc h.towns e
 exact (So.at h a b d f (Aa g)).2 fun Y i j=>h.fx.id.2 Y i (by rw[←j];exact h.towner k e)
def RX (w4:World)(O4:Ow)(v':Value)(p:Nat):Ow:=fun k=>if k<w4.heap.size then O4 k else if v'.ownBlock=some k then p+2 else 0
structure gH (w3 w4 w5:World) (vs:List VS) (vv v':Value):Prop where
 owns:w5.ownsRow 0 81 1 v' (vs.length+1) ((vs.map fun V=>pV V.blk)++[pV w3.heap.size])
 grown:(w4.alloc (.cells #[pV w3.heap.size] 81)).grownBy w5 vv.ownBlock
 at':v'.ownBlock=vv.ownBlock∨v'.ownBlock=some (w4.heap.size+1)
variable {w5:World} {v':Value}
theorem gH.facts (h:A2 w O p st xs vs tv vv)(b:Ab No w w3)(g:∀k,X k→w.heap.size≤k)(i:bA X w3.heap.size O OA)(d:So w3 w4 OA p st xs tv q t O4)(hv:gH w3 w4 w5 vs vv v') :
 w4.heap.size+1≤w5.heap.size∧(∀k,v'.ownBlock=some k→k≠p∧k<w5.heap.size∧RX w4 O4 v' p k=p+2) ∧
 (∀k,k<w4.heap.size→k≠p→vv.ownBlock≠some k→(w5.setCell ⟨p,1,none⟩ v').drew.heap[k]? =w4.heap[k]?) ∧
 (w5.setCell ⟨p,1,none⟩ v').drew.heap[p]? =some (.cells #[tv,v'] 76 (0,0)) ∧
 (∀k,k<w4.heap.size→O4 k≠p+2→(w5.setCell ⟨p,1,none⟩ v').drew.heap[k]? =w4.heap[k]?):=by
 have o:=Aa h.obj;have z:=b.size;have A:=d.size
 have r:w4.heap.size+1≤w5.heap.size:=by have:=hv.grown.size;simpa using this
 have vlt:∀k,vv.ownBlock=some k→k<w.heap.size∧k≠p:=fun k e=>by
  obtain⟨c,s,a⟩:=Bc h.vowns e
  refine⟨Aa a,fun u=>?_⟩
  subst u
  rw[h.obj] at a
  injection a with a;injection a with _ a;exact absurd a (by decide)
 have v:∀k,v'.ownBlock=some k→k≠p∧k<w5.heap.size∧RX w4 O4 v' p k=p+2:=fun k e=>by
  obtain⟨c,s,a⟩:=Bc hv.owns e
  rcases hv.at' with f|f
  ·have m:=vlt k (f.symm.trans e)
   refine⟨m.2,Aa a,?_⟩
   show (if k<w4.heap.size then O4 k else _)=_
   rw[if_pos (by omega),(So.at h b g i d m.1).1];exact h.vowner k (f.symm.trans e)
  ·have:k=w4.heap.size+1:=by rw[e] at f;simpa using f
   refine⟨by omega,Aa a,?_⟩
   show (if k<w4.heap.size then O4 k else if v'.ownBlock=some k then _ else _)=_
   rw[if_neg (by omega),if_pos e]
 have n:∀k,k<w4.heap.size→k≠p→vv.ownBlock≠some k→(w5.setCell ⟨p,1,none⟩ v').drew.heap[k]? =w4.heap[k]? :=fun k l j x=>by
  show (w5.setCell ⟨p,1,none⟩ v').heap[k]? =_
  rw[blk_setCell_other _ _ _ _ j,hv.grown.block k (by simp;omega) (fun e=>x e.symm),Below.heap_alloc _ _ _ l]
 have y:w5.heap[p]? =some (.cells #[tv,vv] 76 (0,0)):=by
  rw[hv.grown.block p (by simp;omega) (fun e=>(vlt p e.symm).2 rfl),Below.heap_alloc _ _ _ (by omega)]
  exact So.obj h b g i d
 refine⟨r,v,n,by show (w5.setCell ⟨p,1,none⟩ v').heap[p]? =_;rw[Ap y];rfl,fun k l j=>n k l (fun e=>j ?_) (fun e=>j ?_)⟩
 ·rw[e,(So.at h b g i d o).1];exact h.own
 ·rw[(So.at h b g i d (vlt k e).1).1];exact h.vowner k e
end
section
variable {w w3 w4 w5 w':World} {O:Ow} {p:Nat} {st:Mo.Ses} {xs:List TabS} {vs:List VS} {tv vv v':Value} {X:Nat→Prop} {q:Q} {t:Nd} {O4 OA:Ow}
theorem A2.eS (h:A2 w O p st xs vs tv vv)(u:Ab No w w3)(aq:∀k,X k→w.heap.size≤k∧k<w3.heap.size)(G:bA X w3.heap.size O OA)(n:So w3 w4 OA p st xs tv q t O4)(hv:gH w3 w4 w5 vs vv v'){ts:List Bool}(C:dB st q ts)(_:vs.length<6)
 {D:Ow} (aa:∀k,k<w5.heap.size→D k=RX w4 O4 v' p k) (A:Ab (fun k=>RX w4 O4 v' p k=w3.heap.size+2) (w5.setCell ⟨p,1,none⟩ v').drew w') (ar:Dy w' D w3.heap.size (Mo.Cc st.tabs q) (Mo.Cc st.tabs q)) :
 (∃v au,A2 w' v p ⟨st.tabs,st.views++[q]⟩ au (vs++[⟨q,t,w3.heap.size,Mo.Cc st.tabs q,ts⟩]) tv v'∧∀k,v k≠0→O k≠0∨w.heap.size≤k)∧Ab (fun k=>O k≠0) w w':=by
 have H:∀k,X k→w.heap.size≤k:=fun k e=>(aq k e).1
 obtain⟨_,aj,av,aw,ax⟩:=gH.facts h u H G n hv
 have ak:=Aa h.obj;have ba:=u.size;have bb:=n.size;have M:(w5.setCell ⟨p,1,none⟩ v').drew.heap.size=w5.heap.size:=nblk_setCell _ _ _
 have bc:w5.heap.size≤w'.heap.size:=by have:=A.size;rw[M] at this;exact this
 have Q:∀k,k<w4.heap.size→RX w4 O4 v' p k=O4 k:=fun k f=>if_pos f
 have al:∀k,k<w4.heap.size→D k=O4 k:=fun k f=>(aa k (by omega)).trans (Q k f)
 obtain⟨v,ab⟩:∃v:Ow,∀k,v k=if k<w'.heap.size∧D k<w'.heap.size+2 then D k else 0:=⟨_,fun _=>rfl⟩
 have a1:∀k,k<w'.heap.size→D k<w'.heap.size+2→v k=D k:=fun k x y=>by rw[ab,if_pos ⟨x,y⟩]
 have ac:∀k,k<w4.heap.size→v k=O4 k:=fun k f=>by
  rw[←al k f]
  exact a1 k (by omega) (by rw[al k f];have:=n.old k f;omega)
 have I:∀k,k<w.heap.size→v k=O k:=fun k f=>(ac k (by omega)).trans (So.at h u H G n f).1
 have ad:∀k,k<w4.heap.size→O4 k≠p+2→O4 k≠w3.heap.size+2→w'.heap[k]? =w4.heap[k]? :=fun k f e1 J=>by
  rw[A.block k (by rw[M];omega) (by show RX w4 O4 v' p k≠_;rw[Q k f];exact J)]
  exact ax k f e1
 have ae:∀k,k<w.heap.size→O k≠p+2→(∀Y∈xs,O k≠Y.blk+2)→w'.heap[k]? =w.heap[k]? :=fun k f e1 J=>by
  have af:=So.at h u H G n f
  rw[ad k (by omega) (by rw[af.1];exact e1) (by rw[af.1];have:=h.old k;omega)]
  exact af.2 J
 have am:Ab (fun k=>O k≠0) w w':=by
  have ag:w'.os=w.os∧w'.tape=w.tape∧w'.output=w.output:=by
   have:=n.os
   exact⟨A.os.trans (hv.grown.os.trans (this.1.trans u.os)),A.tape.trans (hv.grown.tape.trans (this.2.1.trans u.tape)),A.output.trans (hv.grown.output.trans (this.2.2.trans u.output))⟩
  refine⟨ag.1,ag.2.1,ag.2.2,by omega,fun k f e=>?_⟩
  have K:O k=0:=by
   by_cases e1:O k=0
   ·exact e1
   ·exact absurd e1 e
  exact ae k f (by omega) (fun Y _=>by omega)
 refine⟨⟨v,De xs (C5 q t (Kl w3.heap.size)),?_,fun k f=>?_⟩,am⟩
 case refine_2 =>
  rcases nN k w.heap.size with ah|ah
  ·exact .inl (by rw[←I k ah];exact f)
  ·exact .inr ah
 have ay:w'.heap[p]? =some (.cells #[tv,v'] 76 (0,0)):=by
  rw[A.block p (by rw[M];omega) (by show RX w4 O4 v' p p≠_;rw[Q p (by omega),(So.at h u H G n ak).1,h.own];omega)]
  exact aw
 have N:∀{β:Type} (g:TabS→β),(∀(X:TabS) (l:List Tk),g { X with tks:=l }=g X)→(De xs (C5 q t (Kl w3.heap.size))).map g=xs.map g:=fun g hg=>Ib g hg _ xs
 have az:(De xs (C5 q t (Kl w3.heap.size))).length=xs.length:=by have:=congrArg List.length (N (fun X=>X.blk) (fun _ _=>rfl));simpa using this
 have an:=Wq (C5 q t (Kl w3.heap.size)) xs
 have L:∀{Y:TabS},Y∈De xs (C5 q t (Kl w3.heap.size))→∃Z∈xs,Y.blk=Z.blk∧Y.name=Z.name∧Y.tks=Z.tks++((C5 q t (Kl w3.heap.size)).filter fun p=>decide (p.1=Z.name)).map Prod.snd:=fun m=>by
  rw[an] at m
  obtain⟨Z,o,rfl⟩:=lD.1 m
  exact⟨Z,o,rfl,rfl,rfl⟩
 have a0:=C.ok h
 have R:∀a,VA ⟨q,t,w3.heap.size,Mo.Cc st.tabs q,ts⟩ a→w.heap.size+2≤a∧a<w4.heap.size+2:=fun a r=>by
  rcases r with r|⟨b,E,r⟩
  ·have S:a=w3.heap.size+2:=r
   omega
  ·have:=n.nds b E
   omega
 have B:∀{V:VS},V∈vs++[(⟨q,t,w3.heap.size,Mo.Cc st.tabs q,ts⟩:VS)]→V∈vs∨V=⟨q,t,w3.heap.size,Mo.Cc st.tabs q,ts⟩:=fun d=>(lC.1 d).imp id nQ.1
 refine⟨ay,?_,?_,?_,?_,?_,?_,?_,?_,?_,?_,?_,?_,?_,?_,h.good,?_,?_,?_,?_,?_⟩
 ·rw[I p ak];exact h.own
 ·rw[az,N (fun X=>pV X.blk) (fun _ _=>rfl)]
  refine Cm (So.towns h u H G n) fun k e=>?_
  obtain⟨c,a2,s⟩:=Bc h.towns e
  have a3:=Aa s;have hO:O4 k=p+2:=(So.at h u H G n a3).1.trans (h.towner k e)
  rw[A.block k (by rw[M];omega) (by show RX w4 O4 v' p k≠_;rw[Q k (by omega),hO];omega)]
  refine av k (by omega) (fun K=>?_) (fun K=>?_)
  ·subst K
   rw[h.obj] at s;injection s with s;injection s with _ s;exact absurd s (by decide)
  ·obtain⟨_,_,F⟩:=Bc h.vowns K
   rw[s] at F;injection F with F;injection F with _ F;exact absurd F (by decide)
 ·intro k e
  obtain⟨c,a2,s⟩:=Bc h.towns e
  rw[I k (Aa s)];exact h.towner k e
 ·rw[kU,lF]
  refine Cm hv.owns fun k e=>?_
  obtain⟨c1,c2,T⟩:=aj k e
  rw[A.block k (by rw[M];exact c2) (by show RX w4 O4 v' p k≠_;rw[T];omega)]
  exact blk_setCell_other _ _ _ _ c1
 ·intro k e
  obtain⟨c1,c2,T⟩:=aj k e
  rw[a1 k (by omega) (by rw[aa k c2,T];omega),aa k c2];exact T
 ·intro Y m
  obtain⟨Z,o,e1,_⟩:=L m
  have bd:=h.T0 o;have a4:=h.fx.id.2 Z o
  exact (n.tabs.tab Y m).stab fun k f e=>⟨ad k f (by rw[e,e1];exact a4) (by rw[e,e1];omega),ac k f⟩
 ·have z:=h.fx
  refine⟨by rw[N (fun X=>X.name) (fun _ _=>rfl)];exact z.nm,by rw[N (fun X=>X.blk) (fun _ _=>rfl)];exact z.bl,?_,?_,?_,⟨z.id.1,?_⟩,?_,?_,?_⟩
  ·rw[lF,mO]
   refine⟨z.vb,by simp,fun a r c s e=>?_⟩
   obtain⟨V,d,rfl⟩:=lD.1 r
   have F:c=w3.heap.size:=by simpa using s
   have:=h.vlt V d (V.blk+2) (.inl rfl)
   omega
  ·intro V d ao U ap a r S
   rcases B d with d|rfl <;> rcases B U with U|rfl
   ·exact z.dis V d ao U ap a r S
   ·have:=h.vlt V d a r
    have:=(R a S).1
    omega
   ·have:=h.vlt ao U a S
    have:=(R a r).1
    omega
   ·exact ap rfl
  ·intro V d a r
   rcases B d with d|rfl
   ·obtain⟨W,P,a5⟩:=z.va V d a r
    refine⟨W,P,fun Y m=>?_⟩
    obtain⟨Z,o,e1,_⟩:=L m
    rw[e1];exact a5 Z o
   ·have:=R a r
    refine⟨by omega,by omega,fun Y m=>?_⟩
    obtain⟨Z,o,e1,_⟩:=L m
    have:=h.T0 o
    rw[e1];omega
  ·intro Y m
   obtain⟨Z,o,e1,_⟩:=L m
   rw[e1];exact z.id.2 Z o
  ·intro V d
   rcases B d with d|rfl
   ·exact z.fix V d
   ·exact⟨C.ty,C.wf,by have:=C.len;show (Ac q).length≤120;omega,C.jn,n.shape,n.nod,fun b E=>by have:=(n.nds b E).1;show b≠w3.heap.size;omega,a0.1⟩
  ·intro Y m
   obtain⟨Z,o,_,J,ai⟩:=L m
   rw[ai,J,VX,lF,z.tks Z o,EU n.shape,mH]
   rfl
  ·intro Y m
   obtain⟨Z,o,_,J,ai⟩:=L m
   rw[ai,kU,EU n.shape,lB]
   have:=h.dA o
   have a6:=nK (fun j=>decide ((Ac q)[j]? =some Z.name)) (List.range (Ac q).length)
   rw[List.length_range] at a6
   have:=C.len
   omega
 ·rw[N (fun X=>(X.name,X.bag)) (fun _ _=>rfl)];exact h.tb
 ·intro i Y a7 m a8
  rw[an,kX] at m
  obtain⟨Z,o,rfl⟩:=lJ.1 m
  obtain⟨W,P⟩:=h.typ i Z a7 o a8
  refine⟨W.stays fun k e hi=>ae k hi.lt (by rw[P k e];omega) (fun be _=>by rw[P k e];omega),fun k e=>?_⟩
  have f:k<w.heap.size:=by
   obtain⟨b',_,_,K,a9,_⟩:=W
   have e:Z.tv.ownBlock=some k:=e
   rw[K] at e
   have:b'=k:=by simpa [Value.ownBlock] using e
   rw[←this];exact a9.lt
  rw[I k f];exact P k e
 ·rw[lF,h.vq];rfl
 ·intro V d
  rcases B d with d|rfl
  ·exact (h.vat V d).stab (by omega) fun k f e=>⟨ae k f (by
    rcases e with e|e
    ·exact (h.fx.va V d _ e).2.1
    ·omega) (fun Y m=>by
    rcases e with e|e
    ·exact (h.fx.va V d _ e).2.2 Y m
    ·omega),I k f⟩
  ·refine⟨?_,?_⟩
   ·exact ar.stab fun k f e=>⟨rfl,a1 k f (by rw[e];omega)⟩
   ·refine A8.stab (by omega) q t _ 0 (fun k f e=>⟨ad k f ?_ ?_,ac k f⟩) n.nodes
    ·rcases e with ⟨b,E,e⟩|e
     ·have:=(n.nds b E).1;omega
     ·omega
    ·rcases e with ⟨b,E,e⟩|e
     ·have:=(n.nds b E).1;omega
     ·omega
 ·intro V d
  rcases B d with d|rfl
  ·exact h.told V d
  ·exact Be.refl _
 ·intro V d
  rcases B d with d|rfl
  ·exact h.vlen V d
  ·exact C.len
 ·intro V d a r
  rcases B d with d|rfl
  ·have:=h.vlt V d a r;omega
  ·have:=(R a r).2;omega
 ·rw[kU];show vs.length+1≤6;omega
 ·intro k
  rw[ab]
  split
  ·next e=>exact e.2
  ·exact Nat.succ_pos _
 ·intro k f
  rw[ab,if_neg (fun e=>by have:=e.1;omega)]
 ·rw[I _ (show gT<_ from h.env.lt)];exact h.glb
 ·exact h.env.kept am (fun e=>e h.glb)
end
def Iz (st:Mo.Ses)(s:ByteArray):(Int×List UInt8×Int)×Mo.Ses:=if (Pl.Lp s).1≠0 then ((0,[],(Pl.Lp s).1),st) else if st.views.length=6 then ((0,[],4),st) else match aV s 6 0 with
 |none=>((0,[],3),st)
 |some (q,_)=>if ((Ac q).all fun nm=>(Mo.C8 st.tabs nm).isSome)=true then (match A9 (Mo.Jy st.tabs) q with
  |none=>((0,[],6),st)
  |some _=>((st.views.length,Bl (Mo.Cc st.tabs q),0),⟨st.tabs,st.views++[q]⟩)) else ((0,[],5),st)
def VY (r:Int×List UInt8×Int):Value:=.tuple #[.int .i64 r.1,JP r.2.1,.int .i64 r.2.2]
theorem VZ {w:World}{X:Nat→Prop}{p:Nat}{st:Mo.Ses}(h:Fs w X p st)(s:ByteArray)(am:VO s) :
 Calls Tryz.prog 17 #[pV p,.string s] w fun e w'=>e=.returned (VY (Iz st s).1)∧∃x,Fs w' x p (Iz st s).2∧Ov X x w w':=by
 have J:∀w',Ab No w w'→∃x,Fs w' x p st∧Ov X x w w':=fun w' d=>⟨X,h.stays d (fun _ e=>e.elim) oI,d.any,fun _ e=>.inl e⟩
 obtain⟨O,xs,vs,tv,vv,c,ac⟩:=h
 have ad:=Lt s w;have y:=Aa c.obj
 have an:st.views.length=vs.length:=by rw[←c.vq];simp
 obtain⟨a,cap,e1,_,_,_⟩:=F9 c.vowns
 have K:w.cell? ⟨p,0,none⟩=some tv:=(Ae c.obj 0).trans rfl
 have c1:w.cell? ⟨p,1,none⟩=some (.slice a vs.length cap):=by rw[←e1];exact (Ae c.obj 1).trans rfl
 have ae:(xs.map fun X=>(X.blk,X.name)).length≤1000:=by rw[lB,c.len];have:=c.good.few;omega
 unfold Iz
 by_cases F:(Pl.Lp s).1≠0
 ·rw[if_pos F]
  refine (VW p s (Pl.Lp s).1 w F (ad.mono fun e b l=>?_)).mono fun e w' ⟨r,u⟩=>⟨r,J w' u⟩
  obtain⟨d,⟨_,m⟩|⟨C,_⟩⟩:=l
  ·exact⟨⟨_,_,m⟩,d⟩
  ·exact absurd (by rw[C]) F
 ·rw[if_neg F]
  have Q:Calls Tryz.prog 36 #[.string s] w fun e b=>Ab No w b∧∃f Y q,e=.returned (.tuple #[.pointer (some ⟨f,0,none⟩),.int .i64 0,.int .i64 0])∧Tr b Y f q∧(∀k,Y k→w.heap.size≤k∧k<b.heap.size)∧Rq s 6 0 s.size q∧s.size≤120∧Pl.cj s s.size≤2:=ad.mono fun e b l=>by
   obtain⟨d,⟨ao,_⟩|⟨C,ap⟩⟩:=l
   ·exact absurd ao F
   ·exact⟨d,ap⟩
  by_cases af:st.views.length=6
  ·rw[if_pos af]
   have aq:vs.length=6:=by omega
   rw[aq] at c1
   refine (PS p cap a s w c1 y (Q.mono fun e b l=>?_)).mono fun e w' ⟨r,u⟩=>⟨r,J w' u⟩
   obtain⟨d,f,Y,q,m,_⟩:=l
   exact⟨⟨_,_,m⟩,d⟩
  ·rw[if_neg af]
   have L:vs.length<6:=by have:=c.few;omega
   obtain⟨_,w0,_,⟨_,_,_,q,_,_,_,hr,_,_⟩,_⟩:=Q []
   have ag:aV s 6 0=some (q,s.size):=BA hr
   have R:Calls Tryz.prog 36 #[.string s] w fun e b=>Ab No w b∧∃f Y,e=.returned (.tuple #[.pointer (some ⟨f,0,none⟩),.int .i64 0,.int .i64 0])∧Tr b Y f q∧(∀k,Y k→w.heap.size≤k∧k<b.heap.size):=Q.mono fun e b l=>by
    obtain⟨d,f,Y,ar,m,i,g,au,_⟩:=l
    have:=BA au
    rw[ag] at this
    have e:q=ar:=congrArg Prod.fst (nM this);subst e
    exact⟨d,f,Y,m,i,g⟩
   have ah:=Mk hr (mB _);have hf:=And.intro (ah.1 am) ah.2
   rw[ag]
   simp only
   have S:∀(f:Nat) (Y:Nat→Prop) (b:World),Ab No w b→Tr b Y f q→(∀k,Y k→w.heap.size≤k∧k<b.heap.size)→Calls Tryz.prog 37 #[tv,pV f] b (Lg ((Ac q).all fun nm=>(Mo.C8 st.tabs nm).isSome) b):=fun f Y b d i g=>by
    rw[←c.haveQ q]
    exact UV ae i b (fun k e=>⟨(g k e).2,rfl⟩) (c.Bw d).tabs.names
   by_cases D:((Ac q).all fun nm=>(Mo.C8 st.tabs nm).isSome)=true
   ·rw[if_pos D]
    have M:∀(f:Nat) (Y:Nat→Prop) (b n:World),Ab No w b→Ab No b n→Tr b Y f q→(∀k,Y k→w.heap.size≤k∧k<b.heap.size)→Calls Tryz.prog 38 #[tv,pV f] n (Cj (A9 (Mo.Jy st.tabs) q) n):=fun f Y b n d j i g =>
     ED (Mo.F8 c.good) ae i hf.1 (by rw[c.haveQ q];exact D) n (fun k e=>⟨kV (g k e).2 j.size,j.block k (g k e).2 oI⟩) (c.Bw (d.seq j)).tabs.names (c.Bw (d.seq j)).kL
    cases T:A9 (Mo.Jy st.tabs) q with
    |none =>
     simp only
     rw[T] at M
     refine (PU p vs.length cap a tv s w L K c1 y (R.mono fun e b l=>?_)).mono fun e w' ⟨r,u⟩=>⟨r,J w' u⟩
     obtain⟨d,f,Y,m,i,g⟩:=l
     refine⟨f,m,d,(S f Y b d i g).mono fun e n G=>?_⟩
     obtain⟨z,j⟩:=G
     rw[D] at z
     refine⟨z,j,(M f Y b n d j i g).mono fun e w3 U=>?_⟩
     obtain⟨N,⟨_,_,C,_⟩|⟨_,v,W⟩⟩:=U
     ·cases C
     ·exact⟨⟨v,W⟩,N⟩
    |some ts =>
     simp only
     rw[T] at M
     have H:dB st q ts:=⟨T,hf.1,by have:=hf.2.2.2.1;omega,by have:=hf.2.2.2.2;omega⟩
     have Z:=H.ok c
     have av:=PR p vs.length tv vv s w (vs.map fun V=>pV V.blk) (fun t w'=>t=⟨(Bl (Mo.Cc st.tabs q)).toArray⟩∧∃x,Fs w' x p ⟨st.tabs,st.views++[q]⟩∧Ov X x w w') L (R.mono fun e b l=>?_)
     ·refine av.mono fun e w' ⟨t,r,u,aw⟩=>⟨?_,aw⟩
      rw[r,u,an];rfl
     obtain⟨d,f,Y,m,i,g⟩:=l
     refine⟨f,m,(d.cell y oI).trans K,⟨a,cap,e1⟩,(d.cell y oI).trans (by rw[e1];exact c1),(S f Y b d i g).mono fun e n G=>?_⟩
     obtain⟨z,j⟩:=G
     rw[D] at z
     refine⟨z,((d.seq j).cell y oI).trans K,(M f Y b n d j i g).mono fun e w3 U=>?_⟩
     obtain⟨N,⟨_,v,_,W,_⟩|⟨C,_⟩⟩:=U
     case inr=>cases C
     have o:=(d.seq j).seq N
     have P:∀k,Y k→w.heap.size≤k∧k<w3.heap.size∧w3.heap[k]? =b.heap[k]? :=fun k e=>by
      obtain⟨ax,ai⟩:=g k e
      have:=(j.seq N)
      exact⟨ax,kV ai this.size,this.block k ai oI⟩
     obtain⟨OA,A⟩:=eQ Y w3.heap.size O
     refine⟨v,W,(o.block p y oI).trans c.obj,(UU (Mo.F8 c.good) i (c.pre o A P H)).mono fun e w4 ay=>?_⟩
     obtain⟨az,t,O4,B⟩:=So.of c o A P H ay
     have I:∀k,Y k→w.heap.size≤k:=fun k e=>(g k e).1
     refine⟨az,So.obj c o I A B,So.vowns c o I A B,fun v' w5 a0 a1 a2=>?_⟩
     have hv:gH w3 w4 w5 vs vv v':=⟨a0,a1,a2⟩
     obtain⟨_,_,_,_,aj⟩:=gH.facts c o I A B hv
     have bf:=o.size;have bg:=B.size
     have aa:∀k,k<w4.heap.size→RX w4 O4 v' p k=O4 k:=fun k E=>if_pos E
     have a3:gT<w.heap.size:=c.env.lt;have ab:=So.at c o I A B a3
     have a4:Dy (w5.setCell ⟨p,1,none⟩ v').drew (RX w4 O4 v' p) w3.heap.size [] (Mo.Cc st.tabs q):=B.view.stab fun k E e=>⟨aj k E (by rw[e];omega),aa k E⟩
     have a5:IQ ts (Mo.Cc st.tabs q++neg []):=by
      have:=LY Z.1 Z.2
      simpa [neg] using this
     have a6:Se (w5.setCell ⟨p,1,none⟩ v').drew:=c.env.block ((aj gT (by omega) (by rw[ab.1,c.glb];omega)).trans (ab.2 fun bh _=>by rw[c.glb];omega))
     refine (EI w3.heap.size _ _ a4 (B0.nil (H.six c)) Z.1 a5 a6 (by rw[aa _ (show gT<_ by omega),ab.1,c.glb];omega)).mono fun e w' a7=>?_
     obtain⟨a8,_,r1,r2,a9⟩:=a7
     have ba:(w5.setCell ⟨p,1,none⟩ v').drew.heap.size=w5.heap.size:=nblk_setCell _ _ _
     have bi:(RX w4 O4 v' p) p=p+2:=by rw[aa p (by omega),(So.at c o I A B y).1];exact c.own
     obtain⟨⟨ak,bb,al,bc⟩,bd⟩:=c.eS o (fun k e=>⟨(P k e).1,(P k e).2.1⟩) A B hv H L (fun k E=>r1 k (by rw[ba];exact E)) r2 a9
     refine⟨_,a8,?_,by simp[neg],fun k=>ak k≠0,⟨ak,bb,_,tv,v',al,fun _=>Iff.rfl⟩,bd.mono fun k _ e=>(ac k).2 e,fun k e=>(bc k e).imp (ac k).2 id⟩
     exact (Ae al.obj 1).trans rfl
   ·rw[if_neg D]
    refine (PT p vs.length cap a tv s w L K c1 y (R.mono fun e b l=>?_)).mono fun e w' ⟨r,u⟩=>⟨r,J w' u⟩
    obtain⟨d,f,Y,m,i,g⟩:=l
    refine⟨f,m,d,(S f Y b d i g).mono fun e n G=>?_⟩
    obtain⟨z,j⟩:=G
    have be:((Ac q).all fun nm=>(Mo.C8 st.tabs nm).isSome)=false:=by simpa using D
    rw[be] at z
    exact⟨z,j⟩
theorem PV (p:Nat)(s:ByteArray)(w:World)(_:300<s.size) :
 Calls Tryz.prog 20 #[pV p,.string s] w fun e w'=>e=.returned (.tuple #[.string ⟨#[]⟩,.int .i64 1])∧Ab No w w':=by
 show Calls Tryz.prog 20 #[.pointer (some ⟨p,0,none⟩),.string s] w _
 have a:(300:Int)<(s.size:Int):=by omega
 go_enter Tryz.func20,Tryz.ntmps20
 go_wp2_with fail;go_ret2
 exact⟨rfl,Ab.refl _ _⟩
theorem PX (p:Nat)(s:ByteArray)(w:World)(_:s.size≤300)(hB:Calls Tryz.prog 43 #[.pointer (some ⟨w.heap.size,0,none⟩)] (w.alloc (.cells #[.string s,.int .i64 0] 93)) fun e a=>(∃v,e=.returned (.tuple #[v,.bool false]))∧Ab No w a) :
 Calls Tryz.prog 20 #[pV p,.string s] w fun e w'=>e=.returned (.tuple #[.string ⟨#[]⟩,.int .i64 2])∧Ab No w w':=by
 show Calls Tryz.prog 20 #[.pointer (some ⟨p,0,none⟩),.string s] w _
 have f:¬(300:Int)<(s.size:Int):=by omega
 have b:=Ad hB;clear hB
 go_enter Tryz.func20,Tryz.ntmps20
 go_wp2_with fail;refine b.o.mono ?_;rintro e a ⟨⟨v,rfl⟩,c⟩;have d:=Ad c;clear b c;go_wp2_with fail;go_ret2
 exact⟨rfl,d.o⟩
theorem WC (p:Nat)(s:ByteArray)(tv:Value)(c:Int)(w:World)(_:s.size≤300)(_:(c != 0)=true)(hB:Calls Tryz.prog 43 #[.pointer (some ⟨w.heap.size,0,none⟩)] (w.alloc (.cells #[.string s,.int .i64 0] 93)) fun e a=>∃ov,e=.returned (.tuple #[ov,.bool true])∧Ab No w a∧a.cell? ⟨p,0,none⟩=some tv ∧
 Calls Tryz.prog 44 #[tv,ov] a fun e b=>e=.returned (.int .i64 c)∧Ab No a b) :
 Calls Tryz.prog 20 #[pV p,.string s] w fun e w'=>e=.returned (.tuple #[.string ⟨#[]⟩,.int .i64 c])∧Ab No w w':=by
 show Calls Tryz.prog 20 #[.pointer (some ⟨p,0,none⟩),.string s] w _
 have l:¬(300:Int)<(s.size:Int):=by omega
 have d:=Ad hB;clear hB
 go_enter Tryz.func20,Tryz.ntmps20
 go_wp2_with fail;refine d.o.mono ?_;rintro e a ⟨ov,rfl,f,_,g⟩;have j:=Ad f;have h:=Ad g;clear d f g;go_wp2_with fail;refine h.o.mono ?_;rintro e b ⟨rfl,i⟩;have k:=Ad (j.o.seq i);clear h i;go_wp2_with fail;go_ret2
 exact⟨rfl,k.o⟩
theorem PY (p:Nat)(s:ByteArray)(tv:Value)(c:Int)(w:World)(_:s.size≤300)(_:(c != 0)=true)(hB:Calls Tryz.prog 43 #[.pointer (some ⟨w.heap.size,0,none⟩)] (w.alloc (.cells #[.string s,.int .i64 0] 93)) fun e a=>∃ov,e=.returned (.tuple #[ov,.bool true])∧Ab No w a∧a.cell? ⟨p,0,none⟩=some tv ∧
 Calls Tryz.prog 44 #[tv,ov] a fun e b=>e=.returned (.int .i64 0)∧Ab No a b∧b.cell? ⟨p,0,none⟩=some tv ∧
  Calls Tryz.prog 45 #[tv,ov] b fun e w3=>∃d,e=.returned d∧Ab No b w3∧w3.cell? ⟨p,0,none⟩=some tv ∧
   Calls Tryz.prog 46 #[tv,d] w3 fun e w4=>e=.returned (.int .i64 c)∧Ab No w3 w4) :
 Calls Tryz.prog 20 #[pV p,.string s] w fun e w'=>e=.returned (.tuple #[.string ⟨#[]⟩,.int .i64 c])∧Ab No w w':=by
 show Calls Tryz.prog 20 #[.pointer (some ⟨p,0,none⟩),.string s] w _
 have v:¬(300:Int)<(s.size:Int):=by omega
 have f:=Ad hB;clear hB
 go_enter Tryz.func20,Tryz.ntmps20
 go_wp2_with fail;refine f.o.mono ?_;rintro e a ⟨ov,rfl,g,_,h⟩;have q:=Ad g;have i:=Ad h;clear f g h;go_wp2_with fail;refine i.o.mono ?_;rintro e b ⟨rfl,j,c2,k⟩;have r:=Ad (q.o.seq j);have l:=Ad k;clear i j k;go_wp2_with fail;refine l.o.mono ?_;rintro e w3 ⟨d,rfl,m,_,n⟩;have t:=Ad (r.o.seq m);have HD:=Ad n;clear l m n;go_wp2_with fail;refine HD.o.mono ?_;rintro e w4 ⟨rfl,o⟩;have u:=Ad (t.o.seq o);clear HD o;go_wp2_with fail;go_ret2
 exact⟨rfl,u.o⟩
theorem PZ (p n b:Nat)(s:ByteArray)(a:Option Addr)(blk:Nat→Nat)(t:ByteArray)(F:World→Prop)(w:World)(_:s.size≤300)(_:n≤4)(hB:Calls Tryz.prog 43 #[.pointer (some ⟨w.heap.size,0,none⟩)] (w.alloc (.cells #[.string s,.int .i64 0] 93)) fun e f=>∃ov,e=.returned (.tuple #[ov,.bool true])∧f.cell? ⟨p,0,none⟩=some (.slice a n b) ∧
 Calls Tryz.prog 44 #[.slice a n b,ov] f fun e h=>e=.returned (.int .i64 0)∧h.cell? ⟨p,0,none⟩=some (.slice a n b) ∧
  Calls Tryz.prog 45 #[.slice a n b,ov] h fun e w3=>∃d j,e=.returned (.slice (some ⟨d,0,none⟩) n j)∧w3.cell? ⟨p,0,none⟩=some (.slice a n b) ∧
   Calls Tryz.prog 46 #[.slice a n b,.slice (some ⟨d,0,none⟩) n j] w3 fun e w4=>e=.returned (.int .i64 0)∧w4.cell? ⟨p,0,none⟩=some (.slice a n b)∧∃(l:Nat→Nat) (c:Nat→World→Prop),c 0 w4 ∧
    (∀i wr,c i wr→i<n→∃g o,a=some ⟨g,o,none⟩∧wr.cell? ⟨g,o+i,none⟩=some (.pointer (some ⟨blk i,0,none⟩))∧wr.cell? ⟨d,i,none⟩=some (.map (some (l i)))) ∧
    (∀i wr,c i wr→i<n→Calls Tryz.prog 47 #[.map (some (l i)),.iface 101 (.pointer (some ⟨blk i,0,none⟩))] wr fun e w'=>e=.returned (.tuple #[])∧c (i+1) w') ∧
    ∀wr,c n wr→Calls Tryz.prog 48 #[.pointer (some ⟨p,0,none⟩)] wr fun e w'=>e=.returned (.string t)∧F w') :
 Calls Tryz.prog 20 #[pV p,.string s] w fun e w'=>e=.returned (.tuple #[.string t,.int .i64 0])∧F w':=by
 show Calls Tryz.prog 20 #[.pointer (some ⟨p,0,none⟩),.string s] w _
 have U:¬(300:Int)<(s.size:Int):=by omega
 have q:=Ad hB;clear hB
 go_enter Tryz.func20,Tryz.ntmps20
 go_wp2_with fail;refine q.o.mono ?_;rintro e f ⟨ov,rfl,_,r⟩;have u:=Ad r;clear q r;go_wp2_with fail;refine u.o.mono ?_;rintro e h ⟨rfl,c2,v⟩;have x:=Ad v;clear u v;go_wp2_with fail;refine x.o.mono ?_;rintro e w3 ⟨d,j,rfl,_,y⟩;have HD:=Ad y;clear x y;go_wp2_with fail;refine HD.o.mono ?_;rintro e w4 ⟨rfl,_,l,c,z,A,B,C⟩;have I:=Ad z;have J:=Ad A;have K:=Ad B;have L:=Ad C;clear HD z A B C;go_wp2_with fail
 go_loopg [54] n (fun k M wr=>∃i:Nat,i+k=n∧M=.int .i64 (i:Int)∧oH (c i wr))
 case atStart=>exact⟨0,by omega,rfl,I⟩
 case round =>
  obtain⟨i,N,rfl,m⟩:=hrel
  cases gk with
  |zero =>
   have O:¬(i:Int)<(n:Int):=by omega
   have P:oH (i=n):=by show _=_;omega
   have D:oH (Calls Tryz.prog 48 #[.pointer (some ⟨p,0,none⟩)] wr fun e w'=>e=.returned (.string t)∧F w'):=L.o wr (by rw[←P.o];exact m.o)
   clear N;go_wp2_with fail;refine D.o.mono ?_;rintro e w5 ⟨rfl,E⟩;have Q:=Ad E;clear E D;go_wp2_with fail;go_ret2
   exact⟨rfl,Q.o⟩
  |succ k =>
   have O:(i:Int)<(n:Int):=by omega
   have V:(0:Int)≤(i:Int):=by omega
   obtain⟨g,o,rfl,R,S⟩:=J.o i wr m.o (by omega)
   have G:=Ad (K.o i wr m.o (by omega))
   go_wp2_with fail;refine G.o.mono ?_;rintro e w5 ⟨rfl,H⟩;have T:=Ad H;clear H G R S;go_wp2_with fail;go_roundg k
   case measure=>omega
   case rel=>exact⟨i+1,by omega,by go_num,T⟩
open Mo (V Row Bag cnt Af Be B0 Fw neg Nr Q Ac Av A9 wf Ag Z7 wv ty)
def eU (v:V):Prop:=Z7 v∧wv v≤9999
theorem JU {s:ByteArray}{a:Nat}(c:a≤s.size)(h:(D0 s a).1=true):a<(D0 s a).2∧(D0 s a).2≤s.size∧eU (Hj s a):=by
 unfold D0 Pl.Qs at h⊢;unfold Hj
 by_cases b:(Pl.A5 s a).1=true
 ·rw[if_pos b,if_pos b]
  have e:Pl.A5 s a=(true,(Pl.A5 s a).2):=Prod.ext b rfl;have d:=U5 c e;have f:=(Pl.Lx s).size a c
  refine⟨?_,f,d,by show (0:Int)≤9999;decide⟩
  have:=d.1
  rw[Rn f] at this
  show a<(Pl.A5 s a).2
  omega
 ·rw[if_neg b] at h⊢
  rw[if_neg b]
  have g:(Pl.A5 s a).2=a:=LI b
  rw[g] at h⊢
  have e:Pl.Cl s a=(true,(Pl.Cl s a).2):=Prod.ext h rfl
  obtain⟨i,j,k⟩:=Oa c e
  have:=CC k
  refine⟨i,j,trivial,?_⟩
  show ((Gb (G3 s a (Pl.Cl s a).2)).natAbs:Int)≤9999
  omega
theorem Un (s:ByteArray):∀(k a:Nat) (r b:Row) (d:Nat),a≤s.size→Dg s k a r=some (b,d)→(∀v∈r,eU v)→(∀v∈b,eU v)∧d≤s.size∧r.length+1≤b.length∧2*b.length+a≤2*r.length+d
 |0,a,r,b,d,_,h,_=>by simp[Dg] at h
 |k+1,a,r,b,d,i,h,hr=>by
  unfold Dg at h
  by_cases c:(D0 s a).1=true
  ·rw[if_pos c] at h
   obtain⟨_,_,j⟩:=JU i c
   have e:∀v∈r++[Hj s a],eU v:=fun v hv=>by
    rcases lC.1 hv with hv|hv
    ·exact hr v hv
    ·rw[nQ.1 hv];exact j
   by_cases f:Pl.bt s (D0 s a).2=44
   ·rw[if_pos f] at h
    have l:=Pl.B4 (s:=s) (a:=(D0 s a).2) (by omega)
    obtain⟨m,n,o,p⟩:=Un s k ((D0 s a).2+1) _ b d (by omega) h e
    rw[kU,lY] at o p
    exact⟨m,n,by omega,by omega⟩
   ·rw[if_neg f] at h
    by_cases g:Pl.bt s (D0 s a).2=41
    ·rw[if_pos g] at h
     have l:=Pl.B4 (s:=s) (a:=(D0 s a).2) (by omega)
     cases h
     rw[kU,lY]
     exact⟨e,by omega,by omega,by omega⟩
    ·rw[if_neg g] at h;cases h
  ·rw[if_neg c] at h;cases h
structure YS (o:E5):Prop where
 val:∀v∈o.row,eU v
 len:1≤o.row.length∧o.row.length≤150
 t:o.t=1∨o.t= -1
theorem Qo (s:ByteArray)(p:s.size≤300):∀(k a:Nat) (l b:List E5),a≤s.size→Dm s k a l=some b→(∀o∈l,YS o)→(∀o∈b,YS o)∧b.length≤l.length+k
 |0,a,l,b,_,h,_=>by simp[Dm] at h
 |k+1,a,l,b,_,h,q=>by
  unfold Dm at h
  by_cases e:Pl.bt s a=43∨Pl.bt s a=45
  ·rw[if_pos e] at h
   have z:=Pl.B4 (s:=s) (a:=a) (by omega)
   by_cases f:(Pl.A5 s (a+1)).1=true
   ·rw[if_pos f] at h
    have A:=(Pl.Lx s).size (a+1) (by omega)
    by_cases g:Pl.bt s (Pl.A5 s (a+1)).2=40
    ·rw[if_pos g] at h
     have B:=Pl.B4 (s:=s) (a:=(Pl.A5 s (a+1)).2) (by omega)
     cases hr:Dg s (s.size+1) ((Pl.A5 s (a+1)).2+1) [] with
     |none=>rw[hr] at h;cases h
     |some x =>
      obtain⟨r,d⟩:=x
      rw[hr] at h
      simp only at h
      obtain⟨t,_,i,u⟩:=Un s _ _ _ _ _ (by omega) hr (fun v hv=>by cases hv)
      have ho:YS ⟨G3 s (a+1) (Pl.A5 s (a+1)).2,r,Dh s a⟩:=⟨t,⟨by simp at i;exact i,by simp only[nB] at u;show r.length≤150;omega⟩,by show Dh s a=1∨Dh s a= -1;unfold Dh;split;exact .inl rfl;exact .inr rfl⟩
      have j:∀o∈l++[⟨G3 s (a+1) (Pl.A5 s (a+1)).2,r,Dh s a⟩],YS o:=fun o c=>by
       rcases lC.1 c with c|c
       ·exact q o c
       ·rw[nQ.1 c];exact ho
      by_cases m:d=s.size
      ·rw[if_pos m] at h
       cases h
       exact⟨j,by rw[kU,lY];omega⟩
      ·rw[if_neg m] at h
       by_cases n:Pl.bt s d=59
       ·rw[if_pos n] at h
        have C:=Pl.B4 (s:=s) (a:=d) (by omega)
        obtain⟨w,y⟩:=Qo s p k (d+1) _ b (by omega) h j
        rw[kU,lY] at y
        exact⟨w,by omega⟩
       ·rw[if_neg n] at h;cases h
    ·rw[if_neg g] at h;cases h
   ·rw[if_neg f] at h;cases h
  ·rw[if_neg e] at h;cases h
theorem Sp {s:ByteArray}(d:s.size≤300){l:List E5}(h:Ci s=some l):(∀o∈l,YS o)∧l.length≤301:=by
 unfold Ci at h
 by_cases c:s.size=0
 ·rw[if_pos c] at h;cases h;exact⟨(fun o ho=>by cases ho),by simp⟩
 ·rw[if_neg c] at h
  obtain⟨a,b⟩:=Qo s d _ _ _ _ (by omega) h (fun o ho=>by cases ho)
  simp only[nB] at b
  exact⟨a,by omega⟩
theorem Li:∀(a b:List (Nat×List UInt8)) (nm:List UInt8),a.map Prod.snd=b.map Prod.snd→Bh a nm=Bh b nm
 | [],[],_,_=>rfl
 | [],_::_,_,h=>by simp at h
 |_::_,[],_,h=>by simp at h
 |x::a,y::b,nm,h=>by
  have c:x.2=y.2∧a.map Prod.snd=b.map Prod.snd:=by simpa using h
  simp only[Bh,c.1,Li a b nm c.2]
def Cd (tb:List Mo.Tab):List TRec:=tb.map fun t=>⟨0,t.nm,t.ts⟩
section
variable {a b:List TRec} (h:a.map (fun t=>(t.name,t.tys))=b.map fun t=>(t.name,t.tys))
include h
theorem BD (nm:List UInt8):Rk a nm=Rk b nm:=by
 refine Li _ _ nm ?_
 have:=congrArg (List.map Prod.fst) h
 simpa [List.map_map,Function.comp_def] using this
theorem bB (o:E5):Gc a o=Gc b o:=by
 unfold Gc
 rw[BD h]
 have:=congrArg (fun l=>(l[(Rk b o.name).toNat]?).map Prod.snd) h
 simp only[kX,Option.map_map,Function.comp_def] at this
 cases d:a[(Rk b o.name).toNat]? with
 |none =>
  rw[d] at this
  cases c:b[(Rk b o.name).toNat]? with
  |none=>rfl
  |some y=>rw[c] at this;cases this
 |some x =>
  rw[d] at this
  cases c:b[(Rk b o.name).toNat]? with
  |none=>rw[c] at this;cases this
  |some y =>
   rw[c] at this
   have e:x.tys=y.tys:=by simpa using this
   simp only[e]
theorem eV (os:List E5):Jm a os=Jm b os:=by
 have e1:Ep a=Ep b:=by funext o;unfold Ep;rw[BD h]
 have c:Gc a=Gc b:=by funext o;exact bB h o
 unfold Jm;rw[e1,c]
theorem eW (os:List E5)(i:Nat):Cu a os i=Cu b os i:=by
 unfold Cu;simp only[BD h]
end
end Go.Proofs.YtdinjjmcmfjbfaaGreatDoor
