import Derived.Test.YtdinjjmcmfjbfaaGreatDoorTi2J
import Derived.Laws.OwnMore
set_option maxRecDepth 100000
set_option maxHeartbeats 4000000
namespace Go.Proofs.YtdinjjmcmfjbfaaGreatDoor
open Go.RowKit Go.Shelf
open Mo (V Row ty)
structure TRec where
 blk:Nat
 name:List UInt8
 tys:List Bool
def gG (w:World)(v:Value)(trs:List TRec):Prop:=Fp w v (trs.map fun t=>(t.blk,t.name))∧∀t∈trs,t.blk<w.heap.size∧t.tys.length≤300∧∃tv,w.cell? ⟨t.blk,3,none⟩=some tv∧Pq w tv t.tys
theorem gG.Ah {w w':World}{v:Value}{trs:List TRec}(h:gG w v trs)(k:Ab No w w'):gG w' v trs :=
 ⟨h.1.kept k,fun t b=>by obtain⟨a,c,tv,d,e⟩:=h.2 t b;exact⟨kV a k.size,c,tv,(k.cell a oI).trans d,e.kept k⟩⟩
def Rk (trs:List TRec)(nm:List UInt8):Int:=Bh (trs.map fun t=>(t.blk,t.name)) nm
theorem EF:∀(ts:List (Nat×List UInt8)) (nm:List UInt8) (i:Nat),Bh ts nm=i→∃x,ts[i]? =some x∧x.2=nm
 | [],_,i,h=>by simp only[Bh] at h;omega
 |x::ts,nm,i,h=>by
  simp only[Bh] at h
  split at h
  ·rename_i a
   obtain rfl:i=0:=by omega
   exact⟨x,rfl,a⟩
  ·split at h
   ·omega
   ·rename_i d e
    have:=Mi ts nm
    obtain⟨j,rfl⟩:∃j,i=j+1:=⟨i-1,by omega⟩
    obtain⟨y,b,c⟩:=EF ts nm j (by omega)
    exact⟨y,b,c⟩
theorem JM {trs:List TRec}{nm:List UInt8}{i:Nat}(h:Rk trs nm=i):∃t,trs[i]? =some t∧t.name=nm:=by
 obtain⟨x,a,b⟩:=EF _ _ i h
 rw[kX] at a
 obtain⟨t,c,rfl⟩:=lJ.1 a
 exact⟨t,c,b⟩
def Gc (trs:List TRec)(o:E5):Bool:=match trs[(Rk trs o.name).toNat]? with
 |some t=>decide (o.row.map ty=t.tys)
 |none=>false
def Ep (trs:List TRec)(o:E5):Bool:=decide (0≤Rk trs o.name)
def Jm (trs:List TRec)(os:List E5):Int:=if os.all (Ep trs)=false then 5 else if os.all (Gc trs)=false then 6 else 0
theorem LR:∀(xs:List (Value×E5)) (i:Nat) (x:Value×E5),xs[i]? =some x→∀j y,(EE x)[j]? =some y→(xs.flatMap EE)[i*3+j]? =some y
 | [],i,x,h,_,_,_=>by simp at h
 |z::xs,0,x,h,j,y,a=>by
  have:z=x:=by simpa using h
  subst this
  rw[mE,nZ,lK,lA (kS.1 a).1];exact a
 |z::xs,i+1,x,h,j,y,a=>by
  have b:=LR xs i x (by simpa using h) j y a
  have e:(EE z).length=3:=rfl
  rw[mE,kY (by rw[e];omega),e,show (i+1)*3+j-3=i*3+j by omega];exact b
def Nw (w:World)(v:Value)(xs:List (Value×E5)):Prop:=∃a cap,v=.slice a xs.length cap∧xs.length≤cap∧cap≤maxLen ∧
 ∀i x,xs[i]? =some x→∃g p n c,a=some ⟨g,0,none⟩∧g<w.heap.size∧x.1=.slice p n c∧w.cell? ⟨g,i*3,none⟩=some (.string ⟨x.2.name.toArray⟩)∧w.cell? ⟨g,i*3+1,none⟩=some (.slice p n c)∧w.cell? ⟨g,i*3+2,none⟩=some (.int .i64 x.2.t)∧Hw w (.slice p n c) x.2.row
theorem Lu.read {w:World}{base:Nat}{v:Value}{xs:List (Value×E5)}(h:Lu w base v xs):Nw w v xs:=by
 obtain⟨⟨_,⟨rfl,c⟩|⟨g,cap,_,rfl,_,hg,d,f,_,k⟩⟩,hr⟩:=h
 ·have:xs=[]:=lP c
  subst this
  exact⟨none,0,rfl,by simp,by simp,fun i x a=>by simp at a⟩
 ·refine⟨some ⟨g,0,none⟩,cap,rfl,d,f,fun i x a=>?_⟩
  have key:∀j y,(EE x)[j]? =some y→w.cell? ⟨g,i*3+j,none⟩=some y:=fun j y l=>by
   have:=LR xs i x a j y l
   rw[←k,lM] at this
   split at this
   ·rw[Ae hg,←lU];exact this
   ·cases this
  have b:=hr x (kW a)
  obtain⟨_,_,_,_,_,e,_⟩:=id b
  refine⟨g,_,_,_,rfl,Aa hg,e,key 0 _ rfl,?_,key 2 _ rfl,e ▸ b⟩
  rw[←e];exact key 1 _ rfl
theorem Nw.Ah {w w':World}{v:Value}{xs:List (Value×E5)}(h:Nw w v xs)(k:Ab No w w'):Nw w' v xs:=by
 obtain⟨a,cap,e,b,d,f⟩:=h
 refine⟨a,cap,e,b,d,fun i x j=>?_⟩
 obtain⟨g,p,n,c,e1,hg,l,m,c1,c2,hr⟩:=f i x j
 exact⟨g,p,n,c,e1,kV hg k.size,l,(k.cell hg oI).trans m,(k.cell hg oI).trans c1,(k.cell hg oI).trans c2,hr.Ah k⟩
theorem aQ (v ov:Value)(trs:List TRec)(xs:List (Value×E5))(w:World)(h:gG w v trs)(ho:Nw w ov xs)(af:trs.length≤1000)(D:xs.length≤1000)(ag:∀x∈xs,x.2.row.length≤300) :
 Calls Tryz.prog 44 #[v,ov] w fun e w'=>e=.returned (.int .i64 (Jm trs (xs.map (·.2))))∧Ab No w w':=by
 have N:=Ad h;have U:=Ad ho;have a4:=Ad ag
 obtain⟨⟨_,a5,rfl,a6,ah,-⟩,-⟩:=h
 obtain⟨ai,V,rfl,a7,aj,-⟩:=ho
 obtain⟨n,W⟩:∃n,xs.length=n:=⟨_,rfl⟩
 obtain⟨m,O⟩:∃m,(trs.map fun t=>(t.blk,t.name)).length=m:=⟨_,rfl⟩
 have y:=Ad W;have X:=Ad O
 rw[W] at U a7 D⊢
 rw[O] at N a6⊢
 have ak:m≤1000:=by rw[←O];simpa using af
 clear W O ag af
 have bz:V≤9223372036854775807:=by unfold maxLen at aj;omega
 have b0:a5≤9223372036854775807:=by unfold maxLen at ah;omega
 clear aj ah
 go_enter Tryz.func44,Tryz.ntmps44
 go_wp2_with fail
 go_loopg [11] n (fun k a8 wr=>∃i:Nat,i+k=n∧a8=.int .i64 (i:Int)∧oH (((xs.map (·.2)).take i).all (Ep trs)=true)∧Ab No w wr)
 case atStart=>exact⟨0,by omega,rfl,Ad rfl,Ab.refl _ _⟩
 case round =>
  obtain⟨i,_,rfl,z,b⟩:=hrel
  by_cases E:gk=0
  ·subst E
   have D:¬(i:Int)<(n:Int):=by omega
   have Y:oH ((xs.map (·.2)).all (Ep trs)=true):=by
    have l:=z.o
    rw[show i=(xs.map (·.2)).length by rw[lB,y.o];omega,mK] at l
    exact l
   have a9:=Ad b;clear b z;go_wp2_with fail
   go_loopg [23] n (fun k ba bb=>∃i:Nat,i+k=n∧ba=.int .i64 (i:Int)∧oH (((xs.map (·.2)).take i).all (Gc trs)=true)∧Ab No w bb)
   case atStart=>exact⟨0,by omega,rfl,Ad rfl,a9.o⟩
   case round =>
    obtain⟨j,_,rfl,z,b⟩:=hrel
    by_cases E:gk=0
    ·subst E
     have D:¬(j:Int)<(n:Int):=by omega
     have F:oH (Jm trs (xs.map (·.2))=0):=by
      have l:=z.o
      rw[show j=(xs.map (·.2)).length by rw[lB,y.o];omega,mK] at l
      show _=_;unfold Jm;rw[Y.o,l];rfl
     have G:=Ad b;clear b;go_wp2_with fail;go_ret
     exact⟨Bb F.o.symm,G.o⟩
    ·obtain⟨k,rfl⟩:∃k,gk=k+1:=⟨gk-1,by omega⟩
     have D:(j:Int)<(n:Int):=by omega
     have bc:(0:Int)≤(j:Int):=by omega
     obtain⟨x,d⟩:∃x,xs[j]? =some x:=⟨_,kT (by have:=y.o;omega)⟩
     have hO:Nw w (.slice ai xs.length V) xs:=by have:=U.o;rw[←y.o] at this;exact this
     obtain⟨_,_,H,_,_,I⟩:=hO.Ah b
     injection H with e1 J K
     subst e1
     obtain⟨g,p,o,r,rfl,hg,bd,be,c1,c2,hr⟩:=I j x d
     have bf:0≤Rk trs x.2.name:=by
      have:=lO.1 Y.o x.2 (lD.2 ⟨x,kW d,rfl⟩)
      simpa [Ep] using this
     obtain⟨q,Z⟩:∃q:Nat,Rk trs x.2.name=q:=⟨(Rk trs x.2.name).toNat,by omega⟩
     obtain⟨t,al,bg⟩:=JM Z
     have am:=Ad Z;have P:=Ad al;have an:=Ad d;have G:=Ad b;have bh:=Ad hr;have L:Ab No w (wr.alloc (.cells #[.string ⟨x.2.name.toArray⟩,.slice p o r,.int .i64 x.2.t] 164)):=G.o.alloc _;have s:=Ad L;have bi:=a4.o x (kW d);clear b I hO J K L bf Z al bg d hr;go_wp2_with fail
     obtain⟨A,M⟩:∃A,wr.alloc (.cells #[.string ⟨x.2.name.toArray⟩,.slice p o r,.int .i64 x.2.t] 164)=A:=⟨_,rfl⟩
     have Q:A.heap[wr.heap.size]? =some (.cells #[.string ⟨x.2.name.toArray⟩,.slice p o r,.int .i64 x.2.t] 164 (0,0)):=by rw[←M];exact (MapKept.heap_alloc wr _).1
     rw[M] at s
     rw[M]
     have bj:=N.o.Ah s.o
     obtain⟨⟨_,_,H,_,_,ao⟩,ap⟩:=bj
     injection H with e1 J K
     subst e1
     obtain⟨tb,bk,rfl,aq,ar,au,_⟩:=ao q (t.blk,t.name) (by rw[kX,P.o];rfl)
     obtain⟨_,bl,tv,av,aa⟩:=ap t (kW P.o)
     have ab:=Ae Q 0;have ac:=Ae Q 1
     simp only[mL,mX,nD] at ab ac
     have R:=Aa Q
     have b1:(q:Int)<(m:Int):=by
      have:=(kS.1 P.o).1
      have bm:=X.o
      rw[lB] at bm;omega
     have b2:(0:Int)≤(q:Int):=by omega
     have bn:=Ad aa
     have bo:oH (Hw A (.slice p o r) x.2.row):=by
      have E:Ab No wr A:=by rw[←M];exact (Ab.refl _ _).alloc _
      exact bh.o.Ah E
     obtain⟨bp,bq,br,rfl⟩:∃a n c,tv=.slice a n c:=by obtain⟨_,_,_,e,_⟩:=aa;exact⟨_,_,_,e⟩
     have aw:oH (Gc trs x.2=decide (x.2.row.map ty=t.tys)):=by
      show _=_;unfold Gc;rw[am.o];simp[P.o]
     have ax:(Bh (trs.map fun t=>(t.blk,t.name)) x.2.name)=(q:Int):=am.o
     have bs:=Ad ax;clear J K ao ap aa M Q ax
     go_region_held3 (fun w'=>w'.cell? ⟨wr.heap.size,0,none⟩=some (.string ⟨x.2.name.toArray⟩)∧w'.cell? ⟨wr.heap.size,1,none⟩=some (.slice p o r)∧w'.cell? ⟨tb,bk+q,none⟩=some (.pointer (some ⟨t.blk,0,none⟩))∧w'.cell? ⟨t.blk,3,none⟩=some (.slice bp bq br)) (go_keep)
      (first
        |(go_at_call 60
          refine (Iv _ _ x.2.name _ (N.o.1.kept s.o.drew) (by rw[X.o];exact ak)).mono ?_
          rintro e ad ⟨ay,f⟩
          rw[bs.o] at ay
          subst ay;have az:=(f.cell R oI).trans ab;have a0:=(f.cell R oI).trans ac;have a1:=(f.cell aq oI).trans au;have a2:=(f.cell ar oI).trans av;have B:=Ad (((Ab.refl No A).drew).seq f);have S:=f.size
          clear f)
        |(go_at_call 78
          refine (PJ _ _ x.2.row t.tys _ (bo.o.Ah B.o) (bn.o.kept B.o) bi bl).mono ?_;rintro e bt ⟨rfl,C⟩;have g0:=(C.cell (kV R S) oI).trans az;have bu:=(C.cell (kV R S) oI).trans a0;have bv:=(C.cell (kV aq S) oI).trans a1;have bw:=(C.cell (kV ar S) oI).trans a2;have bx:=Ad (B.o.seq C)
          clear C))
     have a3:oH (Ab No w bt):=s.o.seq bx.o;clear ab ac au av az a0 a1 a2 g0 bu bv bw
     by_cases hf:x.2.row.map ty=t.tys
     ·have u:decide (x.2.row.map ty=t.tys)=true:=by simp[hf]
      rw[u]
      have ae:oH (((xs.map (·.2)).take (j+1)).all (Gc trs)=true):=by
       show _=_
       rw[lL,oF,z.o,kX,an.o]
       simp[aw.o,hf]
      clear hf u;go_wp2_with fail;go_roundg k
      case measure=>omega
      case rel=>exact⟨j+1,by omega,by go_num,ae,a3.o⟩
     ·have u:decide (x.2.row.map ty=t.tys)=false:=by simp[hf]
      rw[u]
      have F:oH (Jm trs (xs.map (·.2))=6):=by
       have l:(xs.map (·.2)).all (Gc trs)=false:=by
        rw[nY]
        exact⟨x.2,lD.2 ⟨x,kW an.o,rfl⟩,by rw[aw.o];simp[hf]⟩
       show _=_;unfold Jm;rw[Y.o,l];rfl
      clear hf u;go_wp2_with fail;go_ret
      exact⟨Bb F.o.symm,a3.o⟩
  ·obtain⟨k,rfl⟩:∃k,gk=k+1:=⟨gk-1,by omega⟩
   have D:(i:Int)<(n:Int):=by omega
   have bc:(0:Int)≤(i:Int):=by omega
   obtain⟨x,d⟩:∃x,xs[i]? =some x:=⟨_,kT (by have:=y.o;omega)⟩
   have hO:Nw w (.slice ai xs.length V) xs:=by have:=U.o;rw[←y.o] at this;exact this
   obtain⟨_,_,H,_,_,I⟩:=hO.Ah b
   injection H with e1 J K
   subst e1
   obtain⟨g,p,o,r,rfl,hg,bd,be,c1,c2,hr⟩:=I i x d
   have G:=Ad b;clear b I hO J K;have L:Ab No w (wr.alloc (.cells #[.string ⟨x.2.name.toArray⟩,.slice p o r,.int .i64 x.2.t] 164)):=G.o.alloc _;have s:=Ad L;clear L;go_wp2_with fail
   refine (Iv _ _ x.2.name _ (N.o.1.kept s.o) (by rw[X.o];exact ak)).mono ?_
   rintro e ad ⟨rfl,f⟩
   change Ab No (wr.alloc _) ad at f
   have B:oH (Ab No w ad):=s.o.seq f;clear f
   by_cases T:Rk trs x.2.name<0
   ·have u:Bh (trs.map fun t=>(t.blk,t.name)) x.2.name<0:=T
    have F:oH (Jm trs (xs.map (·.2))=5):=by
     have l:(xs.map (·.2)).all (Ep trs)=false:=by
      rw[nY]
      exact⟨x.2,lD.2 ⟨x,kW d,rfl⟩,by simp[Ep];omega⟩
     show _=_;unfold Jm;rw[l];rfl
    clear T d;go_wp2_with fail;go_ret
    exact⟨Bb F.o.symm,B.o⟩
   ·have u:¬Bh (trs.map fun t=>(t.blk,t.name)) x.2.name<0:=T
    have ae:oH (((xs.map (·.2)).take (i+1)).all (Ep trs)=true):=by
     show _=_
     rw[lL,oF,z.o,kX,d]
     simp[Ep];omega
    clear T d;go_wp2_with fail;go_roundg k
    case measure=>omega
    case rel=>exact⟨i+1,by omega,by go_num,ae,B.o⟩
set_option linter.unusedSimpArgs false
open Mo (V Row Bag cnt Af ty)
def Cu (trs:List TRec)(os:List E5)(i:Nat):Bag:=((os.filter fun o=>decide (Rk trs o.name=(i:Int))).map fun o=>(o.row,o.t)).reverse
theorem LS {trs:List TRec}{os:List E5}{o:E5}{i:Nat}(h:Rk trs o.name=(i:Int)):Cu trs (os++[o]) i=(o.row,o.t)::Cu trs os i:=by simp[Cu,h]
theorem EG {trs:List TRec}{os:List E5}{o:E5}{i:Nat}(h:Rk trs o.name≠(i:Int)):Cu trs (os++[o]) i=Cu trs os i:=by simp[Cu,h]
theorem AX (trs:List TRec)(os:List E5)(i:Nat):(Cu trs os i).length≤os.length:=by
 simp only[Cu,List.length_reverse,lB];exact nK _ _
theorem Jw (l:Bag):(Af l).length≤l.length:=by have:=Mo.Cq l [];simpa [Mo.Af] using this
structure Oq (w:World) (v:Value) (base:Nat) (ms:List Nat) (f:Nat→Bag):Prop where
 at_:∃g,v=.slice (some ⟨g,0,none⟩) ms.length ms.length∧base≤g∧(∃c,w.heap[g]? =some (.cells c 83 (0,0))∧c.size=ms.length∧∀(i b:Nat),ms[i]? =some b→c[i]? =some (Value.map (some b)))
 nodup:ms.Nodup
 ge:∀b∈ms,base≤b
 bag:∀(i b:Nat),ms[i]? =some b→Aw w b (f i)
def iK (w:World)(trs:List TRec)(os:List E5)(rv:Value)(w':World):Prop:=∃ms:List Nat,ms.length=trs.length∧Oq w' rv w.heap.size ms (Cu trs os)∧Ab No w w'
theorem Ot {α:Type}:∀{l:List α} {i j:Nat} {x:α},l.Nodup→l[i]? =some x→l[j]? =some x→i=j:=by
 intro l i j x h hi e
 obtain⟨b,e1⟩:=kS.1 hi
 obtain⟨c,d⟩:=kS.1 e
 rcases Nat.lt_trichotomy i j with a|a|a
 ·exact absurd (e1.trans d.symm) (List.pairwise_iff_getElem.1 h i j b c a)
 ·exact a
 ·exact absurd (d.trans e1.symm) (List.pairwise_iff_getElem.1 h j i c b a)
theorem eI:(Tryz.prog.info? 83).map (fun i=>(i.zero,i.size,i.bytes))=some (some (.map none),1,8):=by kernel_rfl
theorem EH (v ov:Value)(trs:List TRec)(xs:List (Value×E5))(w:World)(h:gG w v trs)(ho:Nw w ov xs)(ad:trs.length≤1000)(B:xs.length≤1000)(U:∀x∈xs,G5 x.2.row∧1≤x.2.row.length)(ae:(xs.map (·.2)).all (Ep trs)=true) :
 Calls Tryz.prog 45 #[v,ov] w fun e w'=>∃be,e=.returned be∧iK w trs (xs.map (·.2)) be w':=by
 have bf:=Ad h;have bg:=Ad ho;have cd:=Ad U;have ce:=Ad ae
 obtain⟨⟨cf,bh,rfl,cg,bi,-⟩,-⟩:=h
 obtain⟨ch,bj,rfl,ci,bk,-⟩:=ho
 obtain⟨n,an⟩:∃n,xs.length=n:=⟨_,rfl⟩
 obtain⟨m,af⟩:∃m,(trs.map fun t=>(t.blk,t.name)).length=m:=⟨_,rfl⟩
 have ao:=Ad an;have ap:=Ad af
 rw[an] at bg ci B⊢
 rw[af] at bf cg⊢
 have cj:m≤1000:=by rw[←af];simpa using ad
 clear an af U ad ae
 have ds:bj≤9223372036854775807:=by unfold maxLen at bk;omega
 have dt:bh≤9223372036854775807:=by unfold maxLen at bi;omega
 clear bk bi
 obtain⟨ck,cl,cm,cn,co⟩:=info_parts eI
 obtain⟨bl,_,bm,bn⟩:=run_make_full (P:=Tryz.prog) w w.heap.size 98 83 ck (.map none) 1 Tryz.underlying98 cl cm cn .i64 .i64 m (by rw[co];omega) (by unfold maxLen;omega) (kZ _)
 obtain⟨cp,bo,Hg⟩:∃c,bl.heap[w.heap.size]? =some (.cells c 83 (0,0))∧c.size=m:=by
  rcases bm.2 with ⟨aq,_⟩|⟨g',cap',cur,aq,_,hg,_,_,ar,_⟩
  ·cases aq
  ·injection aq with e1 bp bq
   injection e1 with e1
   injection e1 with e1
   subst e1
   exact⟨cur,hg,by omega⟩
 have cq:=Ad bo
 have cr:oH (Ab No w bl):=(Ab.refl _ _).grown bn (fun r e=>by cases e)
 have du:=@run_makeMap Tryz.prog;clear bm bn bo
 go_enter Tryz.func45,Tryz.ntmps45
 go_wp2_with fail
 go_loopg [14] m (fun k cs wr=>∃(i:Nat) (c:Array Value) (d:List Nat),i+k=m∧cs=.int .i64 (i:Int)∧d.length=i∧c.size=m∧oH (wr.heap[w.heap.size]? =some (.cells c 83 (0,0)))∧oH (∀(j b:Nat),d[j]? =some b→c[j]? =some (Value.map (some b)))∧oH (d.Nodup∧∀b∈d,w.heap.size≤b∧Aw wr b [])∧Ab No w wr)
 case atStart=>exact⟨0,cp,[],by omega,rfl,rfl,Hg,cq,Ad (by simp),Ad (by simp),cr.o⟩
 case round =>
  obtain⟨i,c,d,ct,rfl,au,br,D,av,E,a⟩:=hrel
  by_cases F:gk=0
  ·subst F
   have cu:m=i:=by omega
   subst cu;clear ct
   have B:¬(m:Int)<(m:Int):=by omega
   have cv:oH (Oq wr (.slice (some ⟨w.heap.size,0,none⟩) m m) w.heap.size d (Cu trs ((xs.map (·.2)).take 0))):=by
    have V:d.length=m:=by omega
    refine⟨⟨w.heap.size,by rw[V],kZ _,c,D.o,by omega,av.o⟩,E.o.1,fun b l=>(E.o.2 b l).1,fun j b G=>(E.o.2 b (kW G)).2⟩
   have V:oH (d.length=m):=by show _=_;omega
   have cw:=Ad a;clear a D av E au br Hg;go_wp2_with fail;clear B
   go_loopg [24] n (fun k cx bs=>∃i:Nat,i+k=n∧cx=.int .i64 (i:Int)∧oH (Oq bs (.slice (some ⟨w.heap.size,0,none⟩) m m) w.heap.size d (Cu trs ((xs.map (·.2)).take i)))∧Ab No w bs)
   case atStart=>exact⟨0,by omega,rfl,cv,cw.o⟩
   case round =>
    obtain⟨j,_,rfl,bt,a⟩:=hrel
    by_cases F:gk=0
    ·subst F
     have B:¬(j:Int)<(n:Int):=by omega
     have cy:oH (Oq wr (.slice (some ⟨w.heap.size,0,none⟩) m m) w.heap.size d (Cu trs (xs.map (·.2)))):=by
      have L:=bt.o
      rw[show j=(xs.map (·.2)).length by rw[lB,ao.o];omega,mK] at L
      exact L
     have W:=Ad a;clear a;go_wp2_with fail;go_ret
     exact⟨_,rfl,d,by rw[V.o,←ap.o];simp,cy.o,W.o⟩
    ·obtain⟨k,rfl⟩:∃k,gk=k+1:=⟨gk-1,by omega⟩
     have B:(j:Int)<(n:Int):=by omega
     have cz:(0:Int)≤(j:Int):=by omega
     obtain⟨x,X⟩:∃x,xs[j]? =some x:=⟨_,kT (by have:=ao.o;omega)⟩
     have hO:Nw w (.slice ch xs.length bj) xs:=by have:=bg.o;rw[←ao.o] at this;exact this
     obtain⟨_,_,c0,_,_,bu⟩:=hO.Ah a
     injection c0 with e1 bp bq
     subst e1
     obtain⟨g,p,s,u,rfl,hg,_,_,c1,c2,hr⟩:=bu j x X
     have ae:0≤Rk trs x.2.name:=by
      have:=lO.1 ce.o x.2 (lD.2 ⟨x,kW X,rfl⟩)
      simpa [Ep] using this
     obtain⟨q,aw⟩:∃q:Nat,Rk trs x.2.name=q:=⟨(Rk trs x.2.name).toNat,by omega⟩
     obtain⟨t,ax,c3⟩:=JM aw
     have dv:(q:Int)<(m:Int):=by
      have:=(kS.1 ax).1
      have Y:=ap.o
      rw[lB] at Y;omega
     have dw:(0:Int)≤(q:Int):=by omega
     have U:=cd.o x (kW X);have ay:=Ad aw;have dx:=Ad ax;have c4:=Ad X;have W:=Ad a;have c5:=Ad hr;have az:=Ad U;have a0:oH (Ab No w (wr.alloc (.cells #[.string ⟨x.2.name.toArray⟩,.slice p s u,.int .i64 x.2.t] 164))):=W.o.alloc _;have ag:oH (Ab No wr (wr.alloc (.cells #[.string ⟨x.2.name.toArray⟩,.slice p s u,.int .i64 x.2.t] 164))):=(Ab.refl _ _).alloc _;clear a bu hO bp bq ae aw ax c3 X hr U;go_wp2_with fail
     obtain⟨f,ah⟩:∃f,wr.alloc (.cells #[.string ⟨x.2.name.toArray⟩,.slice p s u,.int .i64 x.2.t] 164)=f:=⟨_,rfl⟩
     have M:f.heap[wr.heap.size]? =some (.cells #[.string ⟨x.2.name.toArray⟩,.slice p s u,.int .i64 x.2.t] 164 (0,0)):=by rw[←ah];exact (MapKept.heap_alloc wr _).1
     rw[ah] at a0 ag
     rw[ah]
     obtain⟨⟨g0,ge,c6,bv,a1,bw,a2⟩,bx,a3,bz⟩:=bt.o
     injection ge with ge c7 c8
     injection ge with ge
     injection ge with ge
     subst ge;clear c7 c8
     obtain⟨b,l⟩:∃b,d[q]? =some b:=⟨_,kT (by have:=V.o;omega)⟩
     have Z:oH (∀(i b:Nat),d[i]? =some b→Aw f b (Cu trs ((xs.map (·.2)).take j) i)):=fun i b h=>(bz i b h).kept ag.o oI
     have aa:f.heap[w.heap.size]? =some (.cells bv 83 (0,0)):=(ag.o.block _ (Aa a1) oI).trans a1;have c9:=Ad aa;have da:=Ad a2;have db:=Ad bw;have b0:=Ad bx;have dc:=Ad a3;have a4:=Ad l;have dd:oH (w.heap.size≤b):=a3 b (kW l);have a5:=Ae M 0;have a6:=Ae M 1;have a7:=Ae M 2
     simp only[mL,mX,nD] at a5 a6 a7
     have b1:f.cell? ⟨w.heap.size,q,none⟩=some (.map (some b)):=(Ae aa q).trans (a2 q b l);have z:=Aa M;have ai:=Aa aa;have de:oH (Hw f (.slice p s u) x.2.row):=c5.o.Ah ag.o
     have df:oH (Bh (trs.map fun t=>(t.blk,t.name)) x.2.name=(q:Int)):=ay.o
     have dy:oH (b<f.heap.size):=(Z.o q b l).lt
     have b2:b≠w.heap.size:=by rintro rfl;exact (Z.o q _ l).CW 83 ⟨_,_,aa⟩
     have a8:b≠wr.heap.size:=by rintro rfl;exact (Z.o q _ l).CW 164 ⟨_,_,M⟩
     have dg:oH ((Af (Cu trs ((xs.map (·.2)).take j) q)).length<maxLen):=by
      show _<_
      have L:=Jw (Cu trs ((xs.map (·.2)).take j) q)
      have Y:=AX trs ((xs.map (·.2)).take j) q
      have ar:((xs.map (·.2)).take j).length≤j:=List.length_take_le _ _
      unfold maxLen;omega
     obtain⟨aj,a9⟩:∃aj,An x.2.row=aj:=⟨_,rfl⟩
     have b3:oH (∀w',Ab No f w'→Calls Tryz.prog 80 #[.agg #[.int .i64 0,.int .i32 0,.int .u8 0,.int .u8 0,.int .u8 0,.int .u8 0,.int .i64 0,.int .i32 0,.int .u8 0,.int .u8 0,.int .u8 0,.int .u8 0,.int .i64 0,.int .i32 0,.int .u8 0,.int .u8 0,.int .u8 0,.int .u8 0,.int .i64 0,.int .i32 0,.int .u8 0,.int .u8 0,.int .u8 0,.int .u8 0,.int .i64 0,.int .i32 0,.int .u8 0,.int .u8 0,.int .u8 0,.int .u8 0,.int .i64 0,.int .i32 0,.int .u8 0,.int .u8 0,.int .u8 0,.int .u8 0,.int .i64 0],.slice p s u] w' fun e ak=>e=.returned (.agg aj)∧Ab No w' ak):=by
      refine Ad ?_;intro w' F;subst a9
      exact AB [] x.2.row (.slice p s u) w' (de.o.Ah F).src az.o.2 (by have:=az.o.1.1;simp;omega)
     have b4:oH (∀w',Ab No f w'→Calls Tryz.prog 79 #[.map (some b),.agg aj,.int .i64 x.2.t] w' fun e ak=>e=.returned (.tuple #[])∧Aw ak b ((x.2.row,x.2.t)::Cu trs ((xs.map (·.2)).take j) q)∧Ab (·=b) w' ak):=by
      refine Ad ?_;intro w' F;subst a9;exact U0 b _ x.2.row x.2.t w' ((Z.o q b a4.o).kept F oI) az.o.1 dg.o
     clear c6 a1 bw a2 bx a3 bz aa ah M l a9;have b5:f.cell? ⟨wr.heap.size,0,none⟩=some (.string ⟨x.2.name.toArray⟩)∧f.cell? ⟨wr.heap.size,1,none⟩=some (.slice p s u)∧f.cell? ⟨wr.heap.size,2,none⟩=some (.int .i64 x.2.t)∧f.cell? ⟨w.heap.size,q,none⟩=some (.map (some b)):=⟨a5,a6,a7,b1⟩;have N:=Ad b5
     have ba:=Ad (Iv _ _ x.2.name _ (bf.o.1.kept a0.o.drew) (by rw[ap.o];exact cj))
     rw[df.o] at ba
     clear b5 a5 a6 a7 b1
     refine wp_region_held_drew (S:=fun w'=>w'.cell? ⟨wr.heap.size,0,none⟩=some (.string ⟨x.2.name.toArray⟩)∧w'.cell? ⟨wr.heap.size,1,none⟩=some (.slice p s u)∧w'.cell? ⟨wr.heap.size,2,none⟩=some (.int .i64 x.2.t)∧w'.cell? ⟨w.heap.size,q,none⟩=some (.map (some b))) (by kernel_rfl) N.o (fun o=>?_)
     refine Bo 0 (.slice (some ⟨w.heap.size,0,none⟩) m m) o ?_
     try simp only[Act.put,B6,B7,B8,B9,Ca,Cb]
     refine Bo 1 (.slice cf m bh) o ?_
     try simp only[Act.put,B6,B7,B8,B9,Ca,Cb]
     refine Bo 2 (.pointer (some ⟨wr.heap.size,0,none⟩)) o ?_
     try simp only[Act.put,B6,B7,B8,B9,Ca,Cb]
     refine AC 3 (.string ⟨x.2.name.toArray⟩) 9 (.tmp 30) (wr.heap.size) (0) (fun w h=>h.1) o ?_
     try simp only[Act.put,B6,B7,B8,B9,Ca,Cb]
     refine Bo 7 (.agg #[.int .i64 0,.int .i32 0,.int .u8 0,.int .u8 0,.int .u8 0,.int .u8 0,.int .i64 0,.int .i32 0,.int .u8 0,.int .u8 0,.int .u8 0,.int .u8 0,.int .i64 0,.int .i32 0,.int .u8 0,.int .u8 0,.int .u8 0,.int .u8 0,.int .i64 0,.int .i32 0,.int .u8 0,.int .u8 0,.int .u8 0,.int .u8 0,.int .i64 0,.int .i32 0,.int .u8 0,.int .u8 0,.int .u8 0,.int .u8 0,.int .i64 0,.int .i32 0,.int .u8 0,.int .u8 0,.int .u8 0,.int .u8 0,.int .i64 0]) o ?_
     try simp only[Act.put,B6,B7,B8,B9,Ca,Cb]
     refine Bo 8 (.pointer (some ⟨wr.heap.size,1,none⟩)) o ?_
     try simp only[Act.put,B6,B7,B8,B9,Ca,Cb]
     refine AC 9 (.slice p s u) 162 (.tmp 36) (wr.heap.size) (1) (fun w h=>h.2.1) o ?_
     try simp only[Act.put,B6,B7,B8,B9,Ca,Cb]
     refine Bo 11 (.pointer (some ⟨wr.heap.size,2,none⟩)) o ?_
     try simp only[Act.put,B6,B7,B8,B9,Ca,Cb]
     refine AC 12 (.int .i64 x.2.t) 2 (.tmp 39) (wr.heap.size) (2) (fun w h=>h.2.2.1) o ?_
     try simp only[Act.put,B6,B7,B8,B9,Ca,Cb]
     refine Kf 4 (fun K a=>?_)
     go_simp;refine ba.o.mono ?_;rintro e O ⟨rfl,A⟩;have Q:O.cell? ⟨wr.heap.size,0,none⟩=some (.string ⟨x.2.name.toArray⟩)∧O.cell? ⟨wr.heap.size,1,none⟩=some (.slice p s u)∧O.cell? ⟨wr.heap.size,2,none⟩=some (.int .i64 x.2.t)∧O.cell? ⟨w.heap.size,q,none⟩=some (.map (some b)):=⟨(A.cell z oI).trans N.o.1,(A.cell z oI).trans N.o.2.1,(A.cell z oI).trans N.o.2.2.1,(A.cell ai oI).trans N.o.2.2.2⟩;have bb:=Ad (((Ab.refl No f).drew).seq A);have C:f.heap.size≤O.heap.size:=A.size
     refine a.out _ _ Q (fun o=>?_)
     clear a K A ba
     try simp only[Act.put,B6,B7,B8,B9,Ca,Cb]
     refine Bo 5 (.pointer (some ⟨w.heap.size,q,none⟩)) o ?_
     try simp only[Act.put,B6,B7,B8,B9,Ca,Cb]
     refine AC 6 (.map (some b)) 83 (.tmp 33) (w.heap.size) (q) (fun w h=>h.2.2.2) o ?_
     try simp only[Act.put,B6,B7,B8,B9,Ca,Cb]
     refine Kf 10 (fun K a=>?_)
     go_simp;refine (b3.o _ bb.o).mono ?_;rintro e ab ⟨rfl,H⟩;have R:ab.cell? ⟨wr.heap.size,0,none⟩=some (.string ⟨x.2.name.toArray⟩)∧ab.cell? ⟨wr.heap.size,1,none⟩=some (.slice p s u)∧ab.cell? ⟨wr.heap.size,2,none⟩=some (.int .i64 x.2.t)∧ab.cell? ⟨w.heap.size,q,none⟩=some (.map (some b)):=⟨(H.cell (kV z C) oI).trans Q.1,(H.cell (kV z C) oI).trans Q.2.1,(H.cell (kV z C) oI).trans Q.2.2.1,(H.cell (kV ai C) oI).trans Q.2.2.2⟩;have al:=Ad (bb.o.seq H);have am:O.heap.size≤ab.heap.size:=H.size
     refine a.out _ _ R (fun o=>?_)
     clear a K H b3
     try simp only[Act.put,B6,B7,B8,B9,Ca,Cb]
     refine Kf 13 (fun K a=>?_)
     go_simp;refine (b4.o _ al.o).mono ?_;rintro e I ⟨rfl,b6,T⟩;have b7:I.cell? ⟨wr.heap.size,0,none⟩=some (.string ⟨x.2.name.toArray⟩)∧I.cell? ⟨wr.heap.size,1,none⟩=some (.slice p s u)∧I.cell? ⟨wr.heap.size,2,none⟩=some (.int .i64 x.2.t)∧I.cell? ⟨w.heap.size,q,none⟩=some (.map (some b)):=⟨(T.cell (kV (kV z C) am) (Ne.symm a8)).trans R.1,(T.cell (kV (kV z C) am) (Ne.symm a8)).trans R.2.1,(T.cell (kV (kV z C) am) (Ne.symm a8)).trans R.2.2.1,(T.cell (kV (kV ai C) am) (Ne.symm b2)).trans R.2.2.2⟩;have b8:=Ad b6;have bc:=Ad T
     refine a.out _ _ b7 (fun o=>?_)
     clear a K T b6 b4
     try simp only[Act.put,B6,B7,B8,B9,Ca,Cb]
     refine wpAnyH_done (by kernel_rfl) ?_ _
     clear o Q R b7 N
     try simp only[Act.put,B6,B7,B8,B9,Ca,Cb]
     have dh:oH (Oq I (.slice (some ⟨w.heap.size,0,none⟩) m m) w.heap.size d (Cu trs ((xs.map (·.2)).take (j+1)))):=by
      have di:(xs.map (·.2)).take (j+1)=(xs.map (·.2)).take j++[x.2]:=by rw[lL,kX,c4.o];rfl
      have b9:Ab (·=b) f I:=al.o.SB bc.o
      have dj:d.length=m:=V.o
      refine⟨⟨w.heap.size,by rw[dj],kZ _,bv,(b9.block _ ai (Ne.symm b2)).trans c9.o,?_,da.o⟩,b0.o,dc.o,fun i b' hi=>?_⟩
      ·exact db.o
      ·rw[di]
       by_cases ca:i=q
       ·subst ca
        have dk:b'=b:=by have:=hi.symm.trans a4.o;injection this
        subst dk
        rw[LS ay.o];exact b8.o
       ·rw[EG (by rw[ay.o];omega)]
        refine (Z.o i b' hi).kept b9 ?_;rintro rfl;exact ca (Ot b0.o hi a4.o)
     have dl:oH (Ab No w I):=by
      refine (a0.o.seq al.o).trans bc.o (fun _ bd=>bd) (fun i hi bd=>?_)
      subst bd
      have:=dd.o
      omega
     clear bb al bc b8;go_wp2_with fail;go_roundg k
     case measure=>omega
     case rel=>exact⟨j+1,by omega,by go_num,dh,dl.o⟩
  ·obtain⟨k,rfl⟩:∃k,gk=k+1:=⟨gk-1,by omega⟩
   have B:(i:Int)<(m:Int):=by omega
   have cz:(0:Int)≤(i:Int):=by omega
   have W:=Ad a;have cb:=Aa D.o
   have dz:(wr.alloc (.map #[] 0)).cell? ⟨w.heap.size,i,none⟩=some c[i]:=by rw[Ae ((Below.heap_alloc _ _ _ cb).trans D.o),lE (by omega)]
   have d0:(wr.alloc (.map #[] 0)).frozen? ⟨w.heap.size,i,none⟩=false:=Aj ((Below.heap_alloc _ _ _ cb).trans D.o) i;have dm:=a.size;clear a;go_wp2_with fail;go_roundg k
   case measure=>omega
   case rel =>
    obtain⟨J,ac⟩:∃J,wr.setCell ⟨w.heap.size,i,none⟩ (.map (some wr.heap.size))=J:=⟨_,rfl⟩
    have dn:J.heap.size=wr.heap.size:=by rw[←ac];simp[World.setCell]
    have L:J.heap[w.heap.size]? =some (.cells (c.setIfInBounds i (.map (some wr.heap.size))) 83 (0,0)):=by rw[←ac];exact Ap D.o i _
    have A:Ab (·=w.heap.size) wr J:=by rw[←ac];exact (Ab.refl (·=w.heap.size) wr).setCell (g:=w.heap.size) (.inr rfl) _
    have dp:Ab No w J:=by rw[←ac];exact W.o.setCell (.inl (kZ _)) _
    rw[ac]
    refine⟨i+1,c.setIfInBounds i (.map (some wr.heap.size)),d++[wr.heap.size],by omega,by go_num,by simp[au],by simp[br],(Below.heap_alloc _ _ _ (Aa L)).trans L,?_,?_,dp.alloc _⟩
    ·intro j b G
     rw[lX]
     by_cases dq:j<d.length
     ·rw[lA dq] at G
      rw[if_neg (by omega)];exact av.o j b G
     ·rw[kY (by omega)] at G
      have ad:=(kS.1 G).1
      simp at ad
      have dr:j=i:=by omega
      subst dr
      have:b=wr.heap.size:=by simpa [au] using G.symm
      rw[if_pos rfl,if_pos (by omega),this]
    ·refine⟨?_,fun b l=>?_⟩
     ·rw[mO]
      refine⟨E.o.1,by simp,fun x B y cc=>?_⟩
      simp at cc;subst cc
      have:=(E.o.2 x B).2.lt
      omega
     ·rcases lC.1 l with l|l
      ·obtain⟨ar,Y⟩:=E.o.2 b l
       refine⟨ar,Y.kept (A.alloc _) ?_⟩
       rintro rfl;exact Y.CW 83 ⟨c,_,D.o⟩
      ·simp at l;subst l
       refine⟨dm,?_⟩
       have:=Aw.made J
       rw[dn] at this
       exact this
open Mo (V Row Bag cnt Af Be B0 Fw neg)
theorem VH:Tryz.prog.globalNamed "internal/strconv.uint64pow10"=some 1:=by kernel_rfl
theorem Se.block {w w':World}(h:Se w)(a:w'.heap[1]? =w.heap[1]?):Se w':=by
 unfold Se Lib.TabIs World.var? at h⊢
 rw[VH] at h⊢
 simp only[Option.bind_some] at h⊢
 rw[a];exact h
theorem Se.lt {w:World}(h:Se w):1<w.heap.size:=by
 unfold Se Lib.TabIs World.var? at h
 rw[VH] at h
 simp only[Option.bind_some] at h
 rcases nN 1 w.heap.size with a|a
 ·exact a
 ·rw[Array.getElem?_eq_none a] at h;simp at h
theorem Se.kept {S:Nat→Prop}{w w':World}(h:Se w)(k:Ab S w w')(a:¬S 1):Se w':=h.block (k.block _ h.lt a)
theorem Se.Ah {w w':World}(h:Se w)(k:Ab No w w'):Se w':=h.kept k oI
theorem Rb {l m:Bag}(h:Be l m):Bl l=Bl m:=by unfold Bl;rw[h.canon]
theorem PK (v:Nat)(hv a:Value)(t:ByteArray)(w:World)(Q:Ending→World→Prop)(b:w.heap[v]? =some (.cells #[hv,a] 87 (0,0)))
 (c:Calls Tryz.prog 66 #[.pointer (some ⟨v,0,none⟩),a] (w.setCell ⟨v,1,none⟩ (.map none)) fun e d=>e=.returned (.tuple #[])∧Calls Tryz.prog 42 #[a] d fun e f=>e=.returned (.string t)∧Q e f) :
 Calls Tryz.prog 40 #[.pointer (some ⟨v,0,none⟩)] w Q:=by
 have g:=Ad c;have l:w.cell? ⟨v,0,none⟩=some hv:=(Ae b 0).trans rfl;have c1:w.cell? ⟨v,1,none⟩=some a:=(Ae b 1).trans rfl;have m:w.frozen? ⟨v,1,none⟩=false:=Aj b _;clear c b
 go_enter Tryz.func40,Tryz.ntmps40
 go_wp2_with fail;refine g.o.mono ?_;rintro e d ⟨rfl,h⟩;have i:=Ad h;clear h g;go_wp2_with fail;refine i.o.mono ?_;rintro e f ⟨rfl,j⟩;have k:=Ad j;clear j i;go_wp2_with fail;exact k.o
def aR (v:Nat)(told B:Bag)(w:World)(O:Ow)(e:Ending)(w':World):Prop :=
 e=.returned (.string ⟨(Bl (B++neg told)).toArray⟩)∧∃O':Ow,(∀k,k<w.heap.size→O' k=O k)∧Ab (fun k=>O k=v+2) w w'∧Dy w' O' v B B
theorem EI (v:Nat){ts:List Bool}{told B:Bag}(w:World)(O:Ow)(h:Dy w O v told B)(ok1:B0 ts told)(ok2:B0 ts B)(p:IQ ts (B++neg told))(H:Se w)(hO:O 1≠v+2) :
 Calls Tryz.prog 40 #[.pointer (some ⟨v,0,none⟩)] w (aR v told B w O):=by
 obtain⟨q,hv,f,i,j,m,A⟩:=h
 have s:Be (told++(B++neg told)) B:=fun r=>by rw[Mo.Am,Mo.Am,Mo.Ej];omega
 have I:Fw ts (B++neg told):=ok1.chg (ok2.eqv s.symm);refine PK v hv f ⟨(Bl (B++neg told)).toArray⟩ w _ i ?_;have X:=Aa i
 obtain⟨W,t⟩:∃W,w.setCell ⟨v,1,none⟩ (.map none)=W:=⟨_,rfl⟩
 have n:Ab (·=v) w W:=by rw[←t];exact (Ab.refl (·=v) w).setCell (g:=v) (.inr rfl) _
 have u:W.heap[v]? =some (.cells #[hv,.map none] 87 (0,0)):=by rw[←t,Ap i];rfl
 rw[t]
 have Y:∀k,k<w.heap.size→O k=O k:=fun _ _=>rfl
 have C:E9 W O v hv told:=⟨j.1.B2 fun k e=>n.block k (j.1.lt e) (fun a=>j.Kj e i a.symm),j.2⟩
 have o:E9 W O v f (B++neg told):=⟨m.1.B2 fun k e=>n.block k (m.1.lt e) (fun a=>m.Kj e i a.symm),m.2⟩
 have J:∀{b:Bag} {d:Bag},B0 ts b→B0 ts (b++d)→(Af d).length≤6000000000000:=fun h k=>(h.chg k).len
 have D:B0 ts []:=⟨fun r=>by simp[Mo.cnt],by show (0:Int)≤_;decide,by show (0:Int)≤_;decide,(fun e l=>by cases l),(fun e l=>by cases l),ok1.six⟩
 have e1:(Af told).length≤6000000000000:=J D (by simpa using ok1)
 have Z:=I.len
 refine (Na v 0 #[hv,.map none] 87 hv f (Af told) (Af (B++neg told)) W u rfl C.1 o.1 (fun k e a=>A k a e) (by
  rw[Mo.Ch (Mo.Aq _),Mo.Ch (Mo.Aq _)]
  unfold maxLen;omega)).mono fun e c K=>?_
 have L:∀x∈Af (told++(B++neg told)),G5 x.1:=by
  rw[s.canon]
  exact (B0.chg (b:=[]) (d:=B) D (by simpa using ok2)).cV
 obtain⟨l,M,N,P,_,E⟩:=K.mem C L
 refine⟨l,?_⟩
 have F:Ab (fun k=>O k=v+2) w c:=(n.mono fun k _ e=>by rw[e];exact q).seq (E.mono fun k _ e=>by
  rcases e with rfl|e
  ·exact q
  ·exact j.2 k e)
 have Q:Gf c f (Af (B++neg told)):=o.1.B2 fun k e=>E.block k (o.1.lt e) (fun a=>by
  rcases a with a|a
  ·exact o.Kj e u a.symm
  ·exact A k e a)
 have R:Se c:=H.kept F hO
 have S:IQ ts (Af (B++neg told)):=⟨fun r hr=>p.ty r (by rw[Mo.As] at hr;exact hr),fun r=>by rw[Mo.As];exact p.bd r,by rw[Mo.Ch (Mo.Aq _)];exact p.len⟩
 refine (Ui f _ c Q S R).mono fun e aa T=>?_
 obtain⟨y,G⟩:=T
 have U:Bl (Af (B++neg told))=Bl (B++neg told):=Rb (Mo.Bv _)
 rw[U] at y
 refine⟨y,y,oB W O (v+2),fun k z=>Oj (kV z n.size),F.seq (G.mono fun _ _ e=>e.elim),?_⟩
 have V:Dy c (oB W O (v+2)) v B B:=by
  refine⟨by rw[Oj (Aa u)];exact q,M,.map none,N,P.eqv s,?_,fun k e=>by cases e⟩
  exact (E9.nil c _ v).eqv fun r=>by rw[Mo.Am,Mo.Ej];simp[Mo.cnt];omega
 exact V.stab fun k z _=>⟨G.block k z oI,rfl⟩
open Mo (V Row Bag cnt Af Be Nr nn)
structure jM (p:Bag×Bag):Prop where
 n1:nn p.1
 c1:∀r,cnt p.1 r≤1000000
 c2:∀r,-1000000≤cnt p.2 r∧cnt p.2 r≤1000000
 r1: -1000000≤Nr p.1∧Nr p.1≤1000000
 r2: -1000000≤Nr p.2∧Nr p.2≤1000000
def Wn (p:Bag×Bag):Bool:=p.2.all fun e=>decide (0≤cnt p.1 e.1+cnt p.2 e.1)
def Di:List (Bag×Bag)→Int→Int
 | [],n=>if 60<n then 8 else 0
 |p::l,n=>if Wn p=true then Di l (n+(Nr p.1+Nr p.2)) else 7
theorem nw {a:Int}(_: -2000000≤a)(_:a≤2000000):wrap64 a=a:=by unfold wrap64;omega
theorem VI {p:Bag×Bag}(h:jM p)(ok:∀e∈p.2,G5 e.1):Wn p=true↔LF p.1 p.2:=by
 have a:∀r,wrap64 (cnt p.2 r)=cnt p.2 r:=fun r=>nw (by have:=h.c2 r;omega) (by have:=h.c2 r;omega)
 have e1:∀r,wrap64 (cnt p.1 r)=cnt p.1 r:=fun r=>nw (by have:=h.n1 r;omega) (by have:=h.c1 r;omega)
 have c:∀r,wrap64 (cnt p.1 r+cnt p.2 r)=cnt p.1 r+cnt p.2 r:=fun r=>nw (by have:=h.c2 r;have:=h.n1 r;omega) (by have:=h.c2 r;have:=h.c1 r;omega)
 unfold Wn LF
 rw[lO]
 constructor
 ·intro b r hr d
  rw[a] at d
  rw[a,e1,c]
  obtain⟨x,f,rfl⟩:=Mo.Cg.Dd d
  simpa using b x f
 ·intro b e g
  by_cases i:cnt p.2 e.1=0
  ·have:=h.n1 e.1
   simp;omega
  ·have:=b e.1 (ok e g) (by rw[a];exact i)
   rw[a,e1,c] at this
   simpa using this
theorem Wo {l es:Bag}(h:Nu l es)(ok:∀e∈l,G5 e.1)(a:∀r,-1000000≤cnt l r∧cnt l r≤1000000):cT es=Nr l:=by
 have b:Be es l:=fun r=>by rw[h.cnt ok,nw (by have:=a r;omega) (by have:=a r;omega)]
 exact b.lin _
def Ty (w:World)(v cv:Value)(ps:List (Bag×Bag)):Prop:=∃a cap g ccap,v=.slice a ps.length cap∧ps.length≤cap∧cap≤maxLen∧cv=.slice (some ⟨g,0,none⟩) ps.length ccap∧g<w.heap.size ∧
 ∀i p,ps[i]? =some p→∃b o blk hv c,a=some ⟨b,o,none⟩∧b<w.heap.size∧blk<w.heap.size∧w.cell? ⟨b,o+i,none⟩=some (.pointer (some ⟨blk,0,none⟩))∧w.cell? ⟨blk,1,none⟩=some hv∧Gf w hv p.1∧w.cell? ⟨g,i,none⟩=some (.map (some c))∧Aw w c p.2
theorem Ty.kept {w w':World}{v cv:Value}{ps:List (Bag×Bag)}(h:Ty w v cv ps)(k:Ab No w w'):Ty w' v cv ps:=by
 obtain⟨a,cap,g,j,l,m,n,q,d,r⟩:=h
 refine⟨a,cap,g,j,l,m,n,q,kV d k.size,fun i p s=>?_⟩
 obtain⟨b,o,blk,hv,c,e1,e,f,t,e5,u,x,y⟩:=r i p s
 exact⟨b,o,blk,hv,c,e1,kV e k.size,kV f k.size,(k.cell e oI).trans t,(k.cell f oI).trans e5,u.Ah k,(k.cell d oI).trans x,y.kept k oI⟩
theorem VJ (v cv:Value)(ps:List (Bag×Bag))(w:World)(h:Ty w v cv ps)(ap:ps.length≤100)(M:∀p∈ps,jM p) :
 Calls Tryz.prog 46 #[v,cv] w fun e w'=>e=.returned (.int .i64 (Di ps 0))∧Ab No w w':=by
 have N:=Ad h;have aq:=Ad M
 obtain⟨a,cap,g,ar,rfl,m,O,rfl,au,-⟩:=h
 obtain⟨n,E⟩:∃n,ps.length=n:=⟨_,rfl⟩
 have z:=Ad E
 rw[E] at N m ap⊢
 have be:cap≤9223372036854775807:=by unfold maxLen at O;omega
 clear M E O
 go_enter Tryz.func46,Tryz.ntmps46
 go_wp2_with fail
 go_loopg [5,10] n (fun k av aw wr=>∃(i:Nat) (R:Int),i+k=n∧aw=.int .i64 (i:Int)∧av=.int .i64 R∧oH (Di (ps.drop i) R=Di ps 0)∧oH (-(2000000*(i:Int))≤R∧R≤2000000*(i:Int))∧oH (Ab No w wr))
 case atStart=>exact⟨0,0,by omega,rfl,rfl,Ad rfl,Ad (by omega),Ad (Ab.refl _ _)⟩
 case round =>
  obtain⟨i,R,_,rfl,rfl,P,ax,l⟩:=hrel
  cases gk with
  |zero =>
   have ay:¬(i:Int)<(n:Int):=by omega
   have Q:oH (Di ps 0=if 60<R then 8 else 0):=by
    show _=_
    rw[←P.o,nO (by have:=z.o;omega)];rfl
   by_cases S:60<R
   ·have q:oH (Di ps 0=8):=by show _=_;rw[Q.o,if_pos S]
    go_wp2_with fail;go_ret
    exact⟨Bb q.o.symm,l.o⟩
   ·have q:oH (Di ps 0=0):=by show _=_;rw[Q.o,if_neg S]
    go_wp2_with fail;go_ret
    exact⟨Bb q.o.symm,l.o⟩
  |succ k =>
   have ay:(i:Int)<(n:Int):=by omega
   have bf:(0:Int)≤(i:Int):=by omega
   obtain⟨p,A⟩:∃p,ps[i]? =some p:=⟨_,kT (by have:=z.o;omega)⟩
   have F:=aq.o p (kW A)
   have T:ps.drop i=p::ps.drop (i+1):=by
    rw[mC (by have:=z.o;omega)]
    have:=(kS.1 A).2
    rw[this]
   have HD:oH (Di ps 0=if Wn p=true then Di (ps.drop (i+1)) (R+(Nr p.1+Nr p.2)) else 7):=by show _=_;rw[←P.o,T];rfl
   have U:Ty w (.slice a ps.length cap) (.slice (some ⟨g,0,none⟩) ps.length ar) ps:=by have:=N.o;rw[←z.o] at this;exact this
   obtain⟨a',_,_,_,e1,-,-,f,-,V⟩:=U.kept l.o
   injection e1 with e1 _ az
   subst e1 az
   injection f with f _ a0
   injection f with f
   injection f with f
   subst f a0
   obtain⟨b,o,blk,hv,c,rfl,_,W,a1,X,s,Y,t⟩:=V i p A
   obtain⟨u,rfl⟩:=s.is
   have Z:g<wr.heap.size:=kV au l.o.size;have a2:=Ad s;have a3:=Ad t;have aa:=Ad (GZ (.map u) c p.1 p.2 wr.drew (s.Ah ((Ab.refl No wr).drew)) (t.kept ((Ab.refl No wr).drew) oI));have ab:=Ad (VI F t.1);have a4:=Ad t.1;have a5:=Ad s.ok;have j:=Ad F;clear A T U V s t F;go_wp2_with fail
   go_region_held3 (fun w'=>w'.cell? ⟨blk,1,none⟩=some (.map u)∧w'.cell? ⟨g,i,none⟩=some (.map (some c))) (go_keep)
    (first
      |(go_at_call 81
        refine aa.o.mono ?_;rintro e bg ⟨ok,ac,rfl,B⟩;have G:=(B.cell W oI).trans X;have H:=(B.cell Z oI).trans Y;have C:=Ad (((Ab.refl No wr).drew).seq B);have I:=Ad (ac.trans ab.o.symm)
        clear B ac))
   have ad:=C.o.size;clear aa ab a1 X Y
   cases ok
   ·have q:oH (Di ps 0=7):=by
     show _=_
     rw[HD.o,if_neg (fun e=>by have:=I.o.2 e;cases this)]
    clear G H;go_wp2_with fail;go_ret
    exact⟨Bb q.o.symm,l.o.seq C.o⟩
   ·have J:oH (Di (ps.drop (i+1)) (R+(Nr p.1+Nr p.2))=Di ps 0):=by
     show _=_
     rw[HD.o,if_pos (I.o.1 rfl)]
    have ae:oH (∀w',Ab No wr w'→Calls Tryz.prog 82 #[.map u] w' fun e x=>e=.returned (.int .i64 (Nr p.1))∧Ab No w' x):=by
     refine Ad ?_;intro w' K;refine (CZ (.map u) p.1 w' (a2.o.Ah K)).mono ?_;rintro e x ⟨es,L,rfl,m⟩
     have:=Wo L a5.o (fun r=>⟨by have:=j.o.n1 r;omega,j.o.c1 r⟩)
     exact⟨by rw[this,nw (by have:=j.o.r1;omega) (by have:=j.o.r1;omega)],m⟩
    have af:oH (∀w',Ab No wr w'→Calls Tryz.prog 82 #[.map (some c)] w' fun e x=>e=.returned (.int .i64 (Nr p.2))∧Ab No w' x):=by
     refine Ad ?_;intro w' K;refine (CZ (.map (some c)) p.2 w' (.inr ⟨c,rfl,a3.o.kept K oI⟩)).mono ?_;rintro e x ⟨es,L,rfl,m⟩
     have:=Wo L a4.o (fun r=>j.o.c2 r)
     exact⟨by rw[this,nw (by have:=j.o.r2;omega) (by have:=j.o.r2;omega)],m⟩
    have ag:=j.o.r1;have ah:=j.o.r2;have a6:=ax.o
    obtain⟨n1,ai⟩:∃n1,Nr p.1=n1:=⟨_,rfl⟩
    obtain⟨d,aj⟩:∃d,Nr p.2=d:=⟨_,rfl⟩
    rw[ai] at ag ae J
    rw[aj] at ah af J
    have a7:wrap64 (n1+d)=n1+d:=by unfold wrap64;omega
    have a8:wrap64 (R+(n1+d))=R+(n1+d):=by unfold wrap64;omega
    have ak:=kV W ad;have al:=kV Z ad;clear ai aj HD I;go_wp2_with fail
    go_region_held3 (fun w'=>w'.cell? ⟨blk,1,none⟩=some (.map u)∧w'.cell? ⟨g,i,none⟩=some (.map (some c))) (go_keep)
     (first
       |(go_at_call 82
         refine (af.o _ am.o).mono ?_;rintro e w3 ⟨rfl,D⟩;have a9:=(D.cell (kV ak an) oI).trans g0;have ba:=(D.cell (kV al an) oI).trans ao;have bb:=Ad (am.o.seq D)
         clear D)
       |(go_at_call 82
         refine (ae.o _ (C.o.drew)).mono ?_;rintro e bh ⟨rfl,y⟩;have g0:=(y.cell ak oI).trans G;have ao:=(y.cell al oI).trans H;have am:=Ad (C.o.drew.seq y);have an:=y.size
         clear y))
    clear G H g0 ao a9 ba
    have bc:oH (IntKind.i64.wrap (R+IntKind.i64.wrap (n1+d))=R+(n1+d)):=by
     have e1:IntKind.i64.wrap (n1+d)=n1+d:=by rw[IntKind.wrap_i64];omega
     have f:IntKind.i64.wrap (R+(n1+d))=R+(n1+d):=by rw[IntKind.wrap_i64];omega
     show _=_
     rw[e1,f]
    have bd:oH (-(2000000*((i:Int)+1))≤R+(n1+d)∧R+(n1+d)≤2000000*((i:Int)+1)):=by
     show _∧_;omega
    clear a7 a8 a6 ag ah;go_wp2_with fail;go_roundg k
    case measure=>omega
    case rel=>exact⟨i+1,R+(n1+d),by omega,by go_num,by rw[bc.o],J,by push_cast;exact bd,Ad (l.o.seq bb.o)⟩
end Go.Proofs.YtdinjjmcmfjbfaaGreatDoor
