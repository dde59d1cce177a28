import Derived.Test.YtdinjjmcmfjbfaaGreatDoorTi2J
import Derived.Laws.OwnMore
set_option maxRecDepth 100000
set_option maxHeartbeats 4000000
namespace Go.Proofs.YtdinjjmcmfjbfaaGreatDoor
open Go.RowKit Go.Shelf Mo Pl Tryz
structure TRec where
 blk:Nat
 name:List UInt8
 tys:List Bool
def qM (w:World)(v:Value)(trs:List TRec):Prop:=Gy w v (trs.map fun t=>(t.blk,t.name))∧∀t∈trs,t.blk<w.heap.size∧t.tys.length≤300∧∃tv,w.cell? ⟨t.blk,3,none⟩=some tv∧Nl w tv t.tys
theorem qM.Ag {w w':World}{v:Value}{trs:List TRec}(h:qM w v trs)(k:Ab No w w'):qM w' v trs :=
 ⟨h.1.kept k,fun t b=>by obtain⟨a,c,tv,d,e⟩:=h.2 t b;exact⟨tU a k.size,c,tv,(k.cell a xT).trans d,e.kept k⟩⟩
def Tl (trs:List TRec)(nm:List UInt8):Int:=Bz (trs.map fun t=>(t.blk,t.name)) nm
theorem KC:∀(ts:List (Nat×List UInt8)) (nm:List UInt8) (i:Nat),Bz ts nm=i→∃x,ts[i]? =some x∧x.2=nm
 | [],_,i,h=>by simp only[Bz] at h;omega
 |x::ts,nm,i,h=>by
  simp only[Bz] at h;split at h
  ·rename_i a;obtain rfl:i=0:=(by omega);exact⟨x,rfl,a⟩
  split at h
  ·omega
  rename_i d e;have:=Oe ts nm;obtain⟨j,rfl⟩:∃j,i=j+1:=⟨i-1,by omega⟩;obtain⟨y,b,c⟩:=KC ts nm j (by omega);exact⟨y,b,c⟩
theorem PH {trs:List TRec}{nm:List UInt8}{i:Nat}(h:Tl trs nm=i):∃t,trs[i]? =some t∧t.name=nm:=by
 obtain⟨x,a,b⟩:=KC _ _ i h;rw[tX] at a;obtain⟨t,c,rfl⟩:=uK.1 a;exact⟨t,c,b⟩
def Hm (trs:List TRec)(o:He):Bool:=match trs[(Tl trs o.name).toNat]? with
 |some t=>decide (o.row.map ty=t.tys)
 |none=>false
def Fh (trs:List TRec)(o:He):Bool:=decide (0≤Tl trs o.name)
def Ky (trs:List TRec)(os:List He):Int:=if os.all (Fh trs)=false then 5 else if os.all (Hm trs)=false then 6 else 0
theorem SV:∀(xs:List (Value×He)) (i:Nat) (x:Value×He),xs[i]? =some x→∀j y,(KB x)[j]? =some y→(xs.flatMap KB)[i*3+j]? =some y
 | [],i,x,h,_,_,_=>by simp at h
 |z::xs,0,x,h,j,y,a=>by
  have:z=x:=by simpa using h
  subst this;rw[uX,xL,uL,uD (tR.1 a).1];exact a
 |z::xs,i+1,x,h,j,y,a=>by have b:=SV xs i x (by simpa using h) j y a;have e:(KB z).length=3:=rfl;rw[uX,uC (by rw[e];omega),e,show (i+1)*3+j-3=i*3+j by omega];exact b
def Qa (w:World)(v:Value)(xs:List (Value×He)):Prop:=∃a cap,v=.slice a xs.length cap∧xs.length≤cap∧cap≤maxLen ∧
 ∀i x,xs[i]? =some x→∃g p n c,a=some ⟨g,0,none⟩∧g<w.heap.size∧x.1=.slice p n c∧w.cell? ⟨g,i*3,none⟩=some (.string ⟨x.2.name.toArray⟩)∧w.cell? ⟨g,i*3+1,none⟩=some (.slice p n c)∧w.cell? ⟨g,i*3+2,none⟩=some (.int .i64 x.2.t)∧Jc w (.slice p n c) x.2.row
theorem Ng.read {w:World}{base:Nat}{v:Value}{xs:List (Value×He)}(h:Ng w base v xs):Qa w v xs:=by
 obtain⟨⟨_,⟨rfl,c⟩|⟨g,cap,_,rfl,_,hg,d,f,_,k⟩⟩,hr⟩:=h
 ·have:xs=[]:=uM c;subst this;exact⟨none,0,rfl,by simp,by simp,fun i x a=>by simp at a⟩
 refine⟨some ⟨g,0,none⟩,cap,rfl,d,f,fun i x a=>?_⟩;have key:∀j y,(KB x)[j]? =some y→C3 w g (i*3+j) y:=fun j y l=>by
  have:=SV xs i x a j y l;rw[←k,uQ] at this;split at this
  ·show _=_;rw[Af hg,←uZ];exact this
  cases this
 have b:=hr x (tV a);obtain⟨_,_,_,_,_,e,_⟩:=id b;refine⟨g,_,_,_,rfl,Aa hg,e,key 0 _ rfl,?_,key 2 _ rfl,e ▸ b⟩;rw[←e];exact key 1 _ rfl
theorem Qa.Ag {w w':World}{v:Value}{xs:List (Value×He)}(h:Qa w v xs)(k:Ab No w w'):Qa w' v xs:=by
 obtain⟨a,cap,e,b,d,f⟩:=h;refine⟨a,cap,e,b,d,fun i x j=>?_⟩;obtain⟨g,p,n,c,e1,hg,e2,l,c1,c2,hr⟩:=f i x j;exact⟨g,p,n,c,e1,tU hg k.size,e2,(k.cell hg xT).trans l,(k.cell hg xT).trans c1,(k.cell hg xT).trans c2,hr.Ag k⟩
theorem jY (v ov:Value)(trs:List TRec)(xs:List (Value×He))(w:World)(h:qM w v trs)(ho:Qa w ov xs)(ac:trs.length≤1000)(D:xs.length≤1000)(ad:∀x∈xs,x.2.row.length≤300) :
 Calls prog 44 #[v,ov] w fun e w'=>e=.returned (.int .i64 (Ky trs (xs.map (·.2))))∧Ab No w w':=by
 have L:=Ae h;have S:=Ae ho;have a1:=Ae ad;obtain⟨⟨_,a2,rfl,a3,ae,-⟩,-⟩:=h;obtain⟨af,T,rfl,a4,ag,-⟩:=ho;obtain⟨n,U⟩:∃n,xs.length=n:=⟨_,rfl⟩;obtain⟨m,M⟩:∃m,(trs.map fun t=>(t.blk,t.name)).length=m:=⟨_,rfl⟩;have y:=Ae U;have V:=Ae M;rw[U] at S a4 D⊢;rw[M] at L a3⊢;have ah:m≤1000:=by rw[←M];simpa using ac
 clear U M ad ac;have bv:=Bn ag
 have bw:=Bn ae
 clear ag ae;go_enter func44,ntmps44;go_wp21;go_loopg [11] n (fun k a5 wr=>∃i:Nat,i+k=n∧a5=.int .i64 (i:Int)∧xR (((xs.map (·.2)).take i).all (Fh trs)=true)∧Ab No w wr)
 case atStart=>exact⟨0,by omega,rfl,Ae rfl,Ab.refl _ _⟩
 obtain⟨i,_,rfl,z,b⟩:=hrel;by_cases E:gk=0
 ·subst E;have D:¬(i:Int)<(n:Int):=by omega
  have W:xR ((xs.map (·.2)).all (Fh trs)=true):=by have l:=z.o;rw[show i=(xs.map (·.2)).length by rw[tZ,y.o];omega,vH] at l;exact l
  have a6:=Ae b;clear b z;go_wp21;go_loopg [23] n (fun k a7 a8=>∃i:Nat,i+k=n∧a7=.int .i64 (i:Int)∧xR (((xs.map (·.2)).take i).all (Hm trs)=true)∧Ab No w a8)
  case atStart=>exact⟨0,by omega,rfl,Ae rfl,a6.o⟩
  obtain⟨j,_,rfl,z,b⟩:=hrel;by_cases E:gk=0
  ·subst E;have D:¬(j:Int)<(n:Int):=(by omega);have F:xR (Ky trs (xs.map (·.2))=0):=(by have l:=z.o;rw[show j=(xs.map (·.2)).length by rw[tZ,y.o];omega,vH] at l;show _=_;unfold Ky;rw[W.o,l];rfl);have G:=Ae b;clear b;go_wp21;go_ret;exact⟨Bo F.o.symm,G.o⟩
  obtain⟨k,rfl⟩:=Bx E;have D:(j:Int)<(n:Int):=by omega
  have a9:=Bm j
  obtain⟨x,d⟩:∃x,xs[j]? =some x:=⟨_,tT (by have:=y.o;omega)⟩;have hO:Qa w (.slice af xs.length T) xs:=by have:=S.o;rw[←y.o] at this;exact this
  obtain⟨_,_,H,_,_,I⟩:=hO.Ag b;injection H with e1 e2 e3;subst e1;obtain⟨g,p,o,r,rfl,hg,ba,bb,c1,c2,hr⟩:=I j x d;have bc:0≤Tl trs x.2.name:=by have:=uR.1 W.o x.2 (uA.2 ⟨x,tV d,rfl⟩);simpa [Fh] using this
  obtain⟨q,X⟩:∃q:Nat,Tl trs x.2.name=q:=⟨(Tl trs x.2.name).toNat,by omega⟩;obtain⟨t,ai,bd⟩:=PH X;have aj:=Ae X;have N:=Ae ai;have ak:=Ae d;have G:=Ae b;have be:=Ae hr;have J:Ab No w (wr.alloc (.cells #[.string ⟨x.2.name.toArray⟩,.slice p o r,.int .i64 x.2.t] 164)):=G.o.alloc _;have s:=Ae J;have bf:=a1.o x (tV d);clear b I hO e2 e3 J bc X ai bd d hr;go_wp21;obtain⟨A,K⟩:∃A,wr.alloc (.cells #[.string ⟨x.2.name.toArray⟩,.slice p o r,.int .i64 x.2.t] 164)=A:=⟨_,rfl⟩;have O:A.heap[wr.heap.size]? =some (.cells #[.string ⟨x.2.name.toArray⟩,.slice p o r,.int .i64 x.2.t] 164 (0,0)):=by rw[←K];exact (MapKept.heap_alloc wr _).1
  rw[K] at s;rw[K];have bg:=L.o.Ag s.o;obtain⟨⟨_,_,H,_,_,al⟩,am⟩:=bg;injection H with e1 e2 e3;subst e1;obtain⟨tb,bh,rfl,an,ao,ap,_⟩:=al q (t.blk,t.name) (by rw[tX,N.o];rfl);obtain⟨_,bi,tv,aq,Y⟩:=am t (tV N.o);have Z:=Af O 0;have aa:=Af O 1;simp only[vV,wG,wN] at Z aa;have P:=Aa O;have bx:(q:Int)<(m:Int):=by have:=(tR.1 N.o).1;have bj:=V.o;rw[tZ] at bj;omega
  have bz:=Bm q
  have bk:=Ae Y;have bl:xR (Jc A (.slice p o r) x.2.row):=by have E:Ab No wr A:=(by rw[←K];exact (Ab.refl _ _).alloc _);exact be.o.Ag E
  obtain⟨bm,bn,bo,rfl⟩:∃a n c,tv=.slice a n c:=by obtain⟨_,_,_,e,_⟩:=Y;exact⟨_,_,_,e⟩
  have ar:xR (Hm trs x.2=decide (x.2.row.map ty=t.tys)):=by show _=_;unfold Hm;rw[aj.o];simp[N.o]
  have au:(Bz (trs.map fun t=>(t.blk,t.name)) x.2.name)=(q:Int):=aj.o;have bp:=Ae au;clear e2 e3 al am Y K O au
  go_region_held3 (fun w'=>w'.cell? ⟨wr.heap.size,0,none⟩=some (.string ⟨x.2.name.toArray⟩)∧w'.cell? ⟨wr.heap.size,1,none⟩=some (.slice p o r)∧w'.cell? ⟨tb,bh+q,none⟩=some (.pointer (some ⟨t.blk,0,none⟩))∧w'.cell? ⟨t.blk,3,none⟩=some (.slice bm bn bo)) (go_keep)
   (first
     |(go_at_call 60
       go_call Kb _ _ x.2.name _ (L.o.1.kept s.o.drew) (by rw[V.o];exact ah) as e w1 ⟨av,f⟩;rw[bp.o] at av;subst av;have aw:=(f.cell P xT).trans Z;have ax:=(f.cell P xT).trans aa;have ay:=(f.cell an xT).trans ap;have az:=(f.cell ao xT).trans aq;have B:=Ae (((Ab.refl No A).drew).seq f);have Q:=f.size;clear f)
     |(go_at_call 78
       go_call XB _ _ x.2.row t.tys _ (bl.o.Ag B.o) (bk.o.kept B.o) bf bi as e bq ⟨rfl,C⟩;have g0:=(C.cell (tU P Q) xT).trans aw;have br:=(C.cell (tU P Q) xT).trans ax;have bs:=(C.cell (tU an Q) xT).trans ay;have bt:=(C.cell (tU ao Q) xT).trans az;have bu:=Ae (B.o.seq C);clear C))
  have a0:xR (Ab No w bq):=s.o.seq bu.o;clear Z aa ap aq aw ax ay az g0 br bs bt;by_cases hf:x.2.row.map ty=t.tys
  ·have u:decide (x.2.row.map ty=t.tys)=true:=(by simp[hf]);rw[u];have ab:xR (((xs.map (·.2)).take (j+1)).all (Hm trs)=true):=(by show _=_;rw[uI,xP,z.o,tX,ak.o];simp[ar.o,hf]);clear hf u;go_wp21;go_roundg k
   case measure=>omega
   exact⟨j+1,by omega,by go_num,ab,a0.o⟩
  have u:decide (x.2.row.map ty=t.tys)=false:=by simp[hf]
  rw[u];have F:xR (Ky trs (xs.map (·.2))=6):=by have l:(xs.map (·.2)).all (Hm trs)=false:=(by rw[xK];exact⟨x.2,uA.2 ⟨x,tV ak.o,rfl⟩,by rw[ar.o];simp[hf]⟩);show _=_;unfold Ky;rw[W.o,l];rfl
  clear hf u;go_wp21;go_ret;exact⟨Bo F.o.symm,a0.o⟩
 obtain⟨k,rfl⟩:=Bx E;have D:(i:Int)<(n:Int):=by omega
 have a9:=Bm i
 obtain⟨x,d⟩:∃x,xs[i]? =some x:=⟨_,tT (by have:=y.o;omega)⟩;have hO:Qa w (.slice af xs.length T) xs:=by have:=S.o;rw[←y.o] at this;exact this
 obtain⟨_,_,H,_,_,I⟩:=hO.Ag b;injection H with e1 e2 e3;subst e1;obtain⟨g,p,o,r,rfl,hg,ba,bb,c1,c2,hr⟩:=I i x d;have G:=Ae b;clear b I hO e2 e3;have J:Ab No w (wr.alloc (.cells #[.string ⟨x.2.name.toArray⟩,.slice p o r,.int .i64 x.2.t] 164)):=G.o.alloc _;have s:=Ae J;clear J;go_wp21;go_call Kb _ _ x.2.name _ (L.o.1.kept s.o) (by rw[V.o];exact ah) as e w1 ⟨rfl,f⟩;change Ab No (wr.alloc _) w1 at f;have B:xR (Ab No w w1):=s.o.seq f;clear f;by_cases R:Tl trs x.2.name<0
 ·have u:Bz (trs.map fun t=>(t.blk,t.name)) x.2.name<0:=R;have F:xR (Ky trs (xs.map (·.2))=5):=by have l:(xs.map (·.2)).all (Fh trs)=false:=(by rw[xK];exact⟨x.2,uA.2 ⟨x,tV d,rfl⟩,by simp[Fh];omega⟩);show _=_;unfold Ky;rw[l];rfl
  clear R d;go_wp21;go_ret;exact⟨Bo F.o.symm,B.o⟩
 have u:¬Bz (trs.map fun t=>(t.blk,t.name)) x.2.name<0:=R;have ab:xR (((xs.map (·.2)).take (i+1)).all (Fh trs)=true):=by show _=_;rw[uI,xP,z.o,tX,d];simp[Fh];omega
 clear R d;go_wp21;go_roundg k
 case measure=>omega
 exact⟨i+1,by omega,by go_num,ab,B.o⟩
set_option linter.unusedSimpArgs false
def Dn (trs:List TRec)(os:List He)(i:Nat):Bag:=((os.filter fun o=>decide (Tl trs o.name=(i:Int))).map fun o=>(o.row,o.t)).reverse
theorem SX {trs:List TRec}{os:List He}{o:He}{i:Nat}(h:Tl trs o.name=(i:Int)):Dn trs (os++[o]) i=(o.row,o.t)::Dn trs os i:=by simp[Dn,h]
theorem KD {trs:List TRec}{os:List He}{o:He}{i:Nat}(h:Tl trs o.name≠(i:Int)):Dn trs (os++[o]) i=Dn trs os i:=by simp[Dn,h]
theorem FB (trs:List TRec)(os:List He)(i:Nat):(Dn trs os i).length≤os.length:=by
 simp only[Dn,List.length_reverse,tZ];exact wE _ _
theorem Lh (l:Bag):(Ad l).length≤l.length:=by have:=A3 l [];simpa [Ad] using this
structure Q9 (w:World) (v:Value) (base:Nat) (ms:List Nat) (f:Nat→Bag):Prop where
 at_:∃g,v=.slice (some ⟨g,0,none⟩) ms.length ms.length∧base≤g∧(∃c,w.heap[g]? =some (.cells c 83 (0,0))∧c.size=ms.length∧∀(i b:Nat),ms[i]? =some b→c[i]? =some (Value.map (some b)))
 nodup:ms.Nodup
 ge:∀b∈ms,base≤b
 bag:∀(i b:Nat),ms[i]? =some b→Ak w b (f i)
def rG (w:World)(trs:List TRec)(os:List He)(rv:Value)(w':World):Prop:=∃ms:List Nat,ms.length=trs.length∧Q9 w' rv w.heap.size ms (Dn trs os)∧Ab No w w'
theorem Ra {α:Type}:∀{l:List α} {i j:Nat} {x:α},l.Nodup→l[i]? =some x→l[j]? =some x→i=j:=by
 intro l i j x h hi d;obtain⟨b,e1⟩:=tR.1 hi;obtain⟨c,e2⟩:=tR.1 d;rcases Nat.lt_trichotomy i j with a|a|a
 ·exact absurd (e1.trans e2.symm) (List.pairwise_iff_getElem.1 h i j b c a)
 ·exact a
 exact absurd (e2.trans e1.symm) (List.pairwise_iff_getElem.1 h j i c b a)
theorem oC:(prog.info? 83).map (fun i=>(i.zero,i.size,i.bytes))=some (some (.map none),1,8):=by kernel_rfl
theorem KF (v ov:Value)(trs:List TRec)(xs:List (Value×He))(w:World)(h:qM w v trs)(ho:Qa w ov xs)(ac:trs.length≤1000)(B:xs.length≤1000)(T:∀x∈xs,Ge x.2.row∧1≤x.2.row.length)(ad:(xs.map (·.2)).all (Fh trs)=true) :
 Calls prog 45 #[v,ov] w fun e w'=>∃bd,e=.returned bd∧rG w trs (xs.map (·.2)) bd w':=by
 have be:=Ae h;have bf:=Ae ho;have ca:=Ae T;have cb:=Ae ad;obtain⟨⟨cc,bg,rfl,cd,bh,-⟩,-⟩:=h;obtain⟨ce,bi,rfl,cf,bj,-⟩:=ho;obtain⟨n,am⟩:∃n,xs.length=n:=⟨_,rfl⟩;obtain⟨m,ae⟩:∃m,(trs.map fun t=>(t.blk,t.name)).length=m:=⟨_,rfl⟩;have an:=Ae am;have ao:=Ae ae;rw[am] at bf cf B⊢;rw[ae] at be cd⊢;have cg:m≤1000:=by rw[←ae];simpa using ac
 clear am ae T ac ad;have dp:=Bn bj
 have dq:=Bn bh
 clear bj bh;obtain⟨ch,ci,cj,ck,cl⟩:=info_parts oC;obtain⟨bk,_,bl,bm⟩:=run_make_full (P:=prog) w w.heap.size 98 83 ch (.map none) 1 underlying98 ci cj ck .i64 .i64 m (by rw[cl];omega) (by unfold maxLen;omega) (tY _);obtain⟨cm,bn,Gs⟩:∃c,C2 bk w.heap.size c 83∧c.size=m:=by
  rcases bl.2 with ⟨ap,_⟩|⟨g',cap',cur,ap,_,hg,_,_,aq,_⟩
  ·cases ap
  injection ap with e1 e2 e3;injection e1 with e1;injection e1 with e1;subst e1;exact⟨cur,hg,by omega⟩
 have cn:=Ae bn;have co:xR (Ab No w bk):=(Ab.refl _ _).grown bm (fun r e=>by cases e);have dr:=@run_makeMap prog;clear bl bm bn;go_enter func45,ntmps45;go_wp21;go_loopg [14] m (fun k cp wr=>∃(i:Nat) (c:Array Value) (d:List Nat),i+k=m∧cp=.int .i64 (i:Int)∧d.length=i∧c.size=m∧xR (C2 wr w.heap.size c 83)∧xR (∀(j b:Nat),d[j]? =some b→c[j]? =some (Value.map (some b)))∧xR (d.Nodup∧∀b∈d,w.heap.size≤b∧Ak wr b [])∧Ab No w wr)
 case atStart=>exact⟨0,cm,[],by omega,rfl,rfl,Gs,cn,Ae (by simp),Ae (by simp),co.o⟩
 obtain⟨i,c,d,cq,rfl,ar,bo,D,au,E,a⟩:=hrel;by_cases F:gk=0
 ·subst F;have cr:m=i:=by omega
  subst cr;clear cq;have B:¬(m:Int)<(m:Int):=by omega
  have cs:xR (Q9 wr (.slice (some ⟨w.heap.size,0,none⟩) m m) w.heap.size d (Dn trs ((xs.map (·.2)).take 0))):=by have U:d.length=m:=(by omega);refine⟨⟨w.heap.size,by rw[U],tY _,c,D.o,by omega,au.o⟩,E.o.1,fun b l=>(E.o.2 b l).1,fun j b G=>(E.o.2 b (tV G)).2⟩
  have U:xR (d.length=m):=by show _=_;omega
  have ct:=Ae a;clear a D au E ar bo Gs;go_wp21;clear B;go_loopg [24] n (fun k cu bp=>∃i:Nat,i+k=n∧cu=.int .i64 (i:Int)∧xR (Q9 bp (.slice (some ⟨w.heap.size,0,none⟩) m m) w.heap.size d (Dn trs ((xs.map (·.2)).take i)))∧Ab No w bp)
  case atStart=>exact⟨0,by omega,rfl,cs,ct.o⟩
  obtain⟨j,_,rfl,bq,a⟩:=hrel;by_cases F:gk=0
  ·subst F;have B:¬(j:Int)<(n:Int):=(by omega);have cv:xR (Q9 wr (.slice (some ⟨w.heap.size,0,none⟩) m m) w.heap.size d (Dn trs (xs.map (·.2)))):=(by have L:=bq.o;rw[show j=(xs.map (·.2)).length by rw[tZ,an.o];omega,vH] at L;exact L);have V:=Ae a;clear a;go_wp21;go_ret;exact⟨_,rfl,d,by rw[U.o,←ao.o];simp,cv.o,V.o⟩
  obtain⟨k,rfl⟩:=Bx F;have B:(j:Int)<(n:Int):=by omega
  have cw:=Bm j
  obtain⟨x,W⟩:∃x,xs[j]? =some x:=⟨_,tT (by have:=an.o;omega)⟩;have hO:Qa w (.slice ce xs.length bi) xs:=by have:=bf.o;rw[←an.o] at this;exact this
  obtain⟨_,_,cx,_,_,br⟩:=hO.Ag a;injection cx with e1 e2 e3;subst e1;obtain⟨g,p,s,u,rfl,hg,_,_,c1,c2,hr⟩:=br j x W;have ad:0≤Tl trs x.2.name:=by have:=uR.1 cb.o x.2 (uA.2 ⟨x,tV W,rfl⟩);simpa [Fh] using this
  obtain⟨q,av⟩:∃q:Nat,Tl trs x.2.name=q:=⟨(Tl trs x.2.name).toNat,by omega⟩;obtain⟨t,aw,cy⟩:=PH av;have ds:(q:Int)<(m:Int):=by have:=(tR.1 aw).1;have X:=ao.o;rw[tZ] at X;omega
  have dt:=Bm q
  have T:=ca.o x (tV W);have ax:=Ae av;have du:=Ae aw;have cz:=Ae W;have V:=Ae a;have c0:=Ae hr;have ay:=Ae T;have az:xR (Ab No w (wr.alloc (.cells #[.string ⟨x.2.name.toArray⟩,.slice p s u,.int .i64 x.2.t] 164))):=V.o.alloc _;have af:xR (Ab No wr (wr.alloc (.cells #[.string ⟨x.2.name.toArray⟩,.slice p s u,.int .i64 x.2.t] 164))):=(Ab.refl _ _).alloc _;clear a br hO e2 e3 ad av aw cy W hr T;go_wp21;obtain⟨f,ag⟩:∃f,wr.alloc (.cells #[.string ⟨x.2.name.toArray⟩,.slice p s u,.int .i64 x.2.t] 164)=f:=⟨_,rfl⟩;have M:f.heap[wr.heap.size]? =some (.cells #[.string ⟨x.2.name.toArray⟩,.slice p s u,.int .i64 x.2.t] 164 (0,0)):=by rw[←ag];exact (MapKept.heap_alloc wr _).1
  rw[ag] at az af;rw[ag];obtain⟨⟨g0,ge,c3,bs,a0,bt,a1⟩,bu,a2,bv⟩:=bq.o;injection ge with ge c4 c5;injection ge with ge;injection ge with ge;subst ge;clear c4 c5;obtain⟨b,l⟩:∃b,d[q]? =some b:=⟨_,tT (by have:=U.o;omega)⟩;have Y:xR (∀(i b:Nat),d[i]? =some b→Ak f b (Dn trs ((xs.map (·.2)).take j) i)):=fun i b h=>(bv i b h).kept af.o xT;have Z:C2 f w.heap.size bs 83:=(af.o.block _ (Aa a0) xT).trans a0;have c6:=Ae Z;have c7:=Ae a1;have c8:=Ae bt;have bw:=Ae bu;have c9:=Ae a2;have a3:=Ae l;have da:xR (w.heap.size≤b):=a2 b (tV l);have a4:=Af M 0;have a5:=Af M 1;have a6:=Af M 2;simp only[vV,wG,wN] at a4 a5 a6;have bx:C3 f w.heap.size q (.map (some b)):=(Af Z q).trans (a1 q b l);have z:=Aa M;have ah:=Aa Z;have db:xR (Jc f (.slice p s u) x.2.row):=c0.o.Ag af.o;have dc:xR (Bz (trs.map fun t=>(t.blk,t.name)) x.2.name=(q:Int)):=ax.o;have dv:xR (b<f.heap.size):=(Y.o q b l).lt;have bz:b≠w.heap.size:=by rintro rfl;exact (Y.o q _ l).IG 83 ⟨_,_,Z⟩
  have a7:b≠wr.heap.size:=by rintro rfl;exact (Y.o q _ l).IG 164 ⟨_,_,M⟩
  have dd:xR ((Ad (Dn trs ((xs.map (·.2)).take j) q)).length<maxLen):=by show _<_;have L:=Lh (Dn trs ((xs.map (·.2)).take j) q);have X:=FB trs ((xs.map (·.2)).take j) q;have aq:((xs.map (·.2)).take j).length≤j:=List.length_take_le _ _;unfold maxLen;omega
  obtain⟨ai,a8⟩:∃ai,Ai x.2.row=ai:=⟨_,rfl⟩;have b0:xR (∀w',Ab No f w'→Calls prog 80 #[.agg #[.int .i64 0,D4,C4,C4,C4,C4,D2,D4,C4,C4,C4,C4,D2,D4,C4,C4,C4,C4,D2,D4,C4,C4,C4,C4,D2,D4,C4,C4,C4,C4,D2,D4,C4,C4,C4,C4,D2],.slice p s u] w' fun e aj=>e=.returned (.agg ai)∧Ab No w' aj):=by refine Ae ?_;intro w' F;subst a8;exact Rx [] x.2.row (.slice p s u) w' (db.o.Ag F).src ay.o.2 (by have:=ay.o.1.1;simp;omega)
  have b1:xR (∀w',Ab No f w'→Calls prog 79 #[.map (some b),.agg ai,.int .i64 x.2.t] w' fun e aj=>e=.returned (.tuple #[])∧Ak aj b ((x.2.row,x.2.t)::Dn trs ((xs.map (·.2)).take j) q)∧Ab (·=b) w' aj):=by refine Ae ?_;intro w' F;subst a8;exact G9 b _ x.2.row x.2.t w' ((Y.o q b a3.o).kept F xT) ay.o.1 dd.o
  clear c3 a0 bt a1 bu a2 bv Z ag M l a8;have b2:C3 f wr.heap.size 0 (.string ⟨x.2.name.toArray⟩)∧C3 f wr.heap.size 1 (.slice p s u)∧C3 f wr.heap.size 2 (.int .i64 x.2.t)∧C3 f w.heap.size q (.map (some b)):=⟨a4,a5,a6,bx⟩;have N:=Ae b2;have a9:=Ae (Kb _ _ x.2.name _ (be.o.1.kept az.o.drew) (by rw[ao.o];exact cg));rw[dc.o] at a9;clear b2 a4 a5 a6 bx;refine wp_region_held_drew (S:=fun w'=>w'.cell? ⟨wr.heap.size,0,none⟩=some (.string ⟨x.2.name.toArray⟩)∧w'.cell? ⟨wr.heap.size,1,none⟩=some (.slice p s u)∧w'.cell? ⟨wr.heap.size,2,none⟩=some (.int .i64 x.2.t)∧w'.cell? ⟨w.heap.size,q,none⟩=some (.map (some b))) (by kernel_rfl) N.o (fun o=>?_);refine An 0 (.slice (some ⟨w.heap.size,0,none⟩) m m) o ?_;refine An 1 (.slice cc m bg) o ?_;refine An 2 (C1 wr.heap.size) o ?_;refine Iq 3 (.string ⟨x.2.name.toArray⟩) 9 (.tmp 30) (wr.heap.size) (0) (fun w h=>h.1) o ?_
  try simp only[Act.put,Ar,As,Au,Av,Aw,Ax]
  refine An 7 (.agg #[.int .i64 0,D4,C4,C4,C4,C4,D2,D4,C4,C4,C4,C4,D2,D4,C4,C4,C4,C4,D2,D4,C4,C4,C4,C4,D2,D4,C4,C4,C4,C4,D2,D4,C4,C4,C4,C4,D2]) o ?_;refine An 8 (.pointer (some ⟨wr.heap.size,1,none⟩)) o ?_;refine Iq 9 (.slice p s u) 162 (.tmp 36) (wr.heap.size) (1) (fun w h=>h.2.1) o ?_;refine An 11 (.pointer (some ⟨wr.heap.size,2,none⟩)) o ?_
  try simp only[Act.put,Ar,As,Au,Av,Aw,Ax]
  refine Iq 12 (.int .i64 x.2.t) 2 (.tmp 39) (wr.heap.size) (2) (fun w h=>h.2.2.1) o ?_;refine C0 4 (fun K a=>?_);go_simp;go_call a9.o as e w1 ⟨rfl,A⟩;have O:C3 w1 wr.heap.size 0 (.string ⟨x.2.name.toArray⟩)∧C3 w1 wr.heap.size 1 (.slice p s u)∧C3 w1 wr.heap.size 2 (.int .i64 x.2.t)∧C3 w1 w.heap.size q (.map (some b)):=⟨(A.cell z xT).trans N.o.1,(A.cell z xT).trans N.o.2.1,(A.cell z xT).trans N.o.2.2.1,(A.cell ah xT).trans N.o.2.2.2⟩;have ba:=Ae (((Ab.refl No f).drew).seq A);have C:f.heap.size≤w1.heap.size:=A.size;refine a.out _ _ O (fun o=>?_);clear a K A a9
  refine An 5 (.pointer (some ⟨w.heap.size,q,none⟩)) o ?_;refine Iq 6 (.map (some b)) 83 (.tmp 33) (w.heap.size) (q) (fun w h=>h.2.2.2) o ?_
  try simp only[Act.put,Ar,As,Au,Av,Aw,Ax]
  refine C0 10 (fun K a=>?_);go_simp;go_call b0.o _ ba.o as e aa ⟨rfl,H⟩;have Q:C3 aa wr.heap.size 0 (.string ⟨x.2.name.toArray⟩)∧C3 aa wr.heap.size 1 (.slice p s u)∧C3 aa wr.heap.size 2 (.int .i64 x.2.t)∧C3 aa w.heap.size q (.map (some b)):=⟨(H.cell (tU z C) xT).trans O.1,(H.cell (tU z C) xT).trans O.2.1,(H.cell (tU z C) xT).trans O.2.2.1,(H.cell (tU ah C) xT).trans O.2.2.2⟩;have ak:=Ae (ba.o.seq H);have al:w1.heap.size≤aa.heap.size:=H.size;refine a.out _ _ Q (fun o=>?_);clear a K H b0
  refine C0 13 (fun K a=>?_);go_simp;go_call b1.o _ ak.o as e I ⟨rfl,b3,R⟩;have b4:C3 I wr.heap.size 0 (.string ⟨x.2.name.toArray⟩)∧C3 I wr.heap.size 1 (.slice p s u)∧C3 I wr.heap.size 2 (.int .i64 x.2.t)∧C3 I w.heap.size q (.map (some b)):=⟨(R.cell (tU (tU z C) al) (Ne.symm a7)).trans Q.1,(R.cell (tU (tU z C) al) (Ne.symm a7)).trans Q.2.1,(R.cell (tU (tU z C) al) (Ne.symm a7)).trans Q.2.2.1,(R.cell (tU (tU ah C) al) (Ne.symm bz)).trans Q.2.2.2⟩;have b5:=Ae b3;have bb:=Ae R;refine a.out _ _ b4 (fun o=>?_);clear a K R b3 b1
  refine wpAnyH_done (by kernel_rfl) ?_ _;clear o O Q b4 N
  try simp only[Act.put,Ar,As,Au,Av,Aw,Ax]
  have de:xR (Q9 I (.slice (some ⟨w.heap.size,0,none⟩) m m) w.heap.size d (Dn trs ((xs.map (·.2)).take (j+1)))):=by
   have df:(xs.map (·.2)).take (j+1)=(xs.map (·.2)).take j++[x.2]:=(by rw[uI,tX,cz.o];rfl);have b6:Ab (·=b) f I:=ak.o.Qk bb.o;have dg:d.length=m:=U.o;refine⟨⟨w.heap.size,by rw[dg],tY _,bs,(b6.block _ ah (Ne.symm bz)).trans c6.o,?_,c7.o⟩,bw.o,c9.o,fun i b' hi=>?_⟩
   ·exact c8.o
   rw[df];by_cases b7:i=q
   ·subst b7;have dh:b'=b:=(by have:=hi.symm.trans a3.o;injection this);subst dh;rw[SX ax.o];exact b5.o
   rw[KD (by rw[ax.o];omega)];refine (Y.o i b' hi).kept b6 ?_;rintro rfl;exact b7 (Ra bw.o hi a3.o)
  have di:xR (Ab No w I):=by refine (az.o.seq ak.o).trans bb.o (fun _ bc=>bc) (fun i hi bc=>?_);subst bc;have:=da.o;omega
  clear ba ak bb b5;go_wp21;go_roundg k
  case measure=>omega
  exact⟨j+1,by omega,by go_num,de,di.o⟩
 obtain⟨k,rfl⟩:=Bx F;have B:(i:Int)<(m:Int):=by omega
 have cw:=Bm i
 have V:=Ae a;have b8:=Aa D.o;have dw:(wr.alloc (.map #[] 0)).cell? ⟨w.heap.size,i,none⟩=some c[i]:=by rw[Af ((Below.heap_alloc _ _ _ b8).trans D.o),uG (by omega)]
 have dx:(wr.alloc (.map #[] 0)).frozen? ⟨w.heap.size,i,none⟩=false:=Am ((Below.heap_alloc _ _ _ b8).trans D.o) i;have dj:=a.size;clear a;go_wp21;go_roundg k
 case measure=>omega
 obtain⟨J,ab⟩:∃J,wr.setCell ⟨w.heap.size,i,none⟩ (.map (some wr.heap.size))=J:=⟨_,rfl⟩;have dk:J.heap.size=wr.heap.size:=by rw[←ab];simp[World.setCell]
 have L:J.heap[w.heap.size]? =some (.cells (c.setIfInBounds i (.map (some wr.heap.size))) 83 (0,0)):=by rw[←ab];exact A0 D.o i _
 have A:Ab (·=w.heap.size) wr J:=by rw[←ab];exact (Ab.refl (·=w.heap.size) wr).setCell (g:=w.heap.size) (.inr rfl) _
 have dl:Ab No w J:=by rw[←ab];exact V.o.setCell (.inl (tY _)) _
 rw[ab];refine⟨i+1,c.setIfInBounds i (.map (some wr.heap.size)),d++[wr.heap.size],by omega,by go_num,by simp[ar],by simp[bo],(Below.heap_alloc _ _ _ (Aa L)).trans L,?_,?_,dl.alloc _⟩
 ·intro j b G;rw[vB];by_cases dm:j<d.length
  ·rw[uD dm] at G;rw[if_neg (by omega)];exact au.o j b G
  rw[uC (by omega)] at G;have ac:=(tR.1 G).1;simp at ac;have dn:j=i:=by omega
  subst dn;have:b=wr.heap.size:=by simpa [ar] using G.symm
  rw[if_pos rfl,if_pos (by omega),this]
 refine⟨?_,fun b l=>?_⟩
 ·rw[vP];refine⟨E.o.1,by simp,fun x B y b9=>?_⟩;simp at b9;subst b9;have:=(E.o.2 x B).2.lt;omega
 rcases tW.1 l with l|l
 ·obtain⟨aq,X⟩:=E.o.2 b l;refine⟨aq,X.kept (A.alloc _) ?_⟩;rintro rfl;exact X.IG 83 ⟨c,_,D.o⟩
 simp at l;subst l;refine⟨dj,?_⟩;have:=Ak.made J;rw[dk] at this;exact this
theorem dF:prog.globalNamed "internal/strconv.uint64pow10"=some 1:=by kernel_rfl
theorem Uh.block {w w':World}(h:Uh w)(a:w'.heap[1]? =w.heap[1]?):Uh w':=by
 unfold Uh Lib.TabIs World.var? at h⊢;rw[dF] at h⊢;simp only[Option.bind_some] at h⊢;rw[a];exact h
theorem Uh.lt {w:World}(h:Uh w):1<w.heap.size:=by
 unfold Uh Lib.TabIs World.var? at h;rw[dF] at h;simp only[Option.bind_some] at h;rcases wV 1 w.heap.size with a|a
 ·exact a
 rw[Array.getElem?_eq_none a] at h;simp at h
theorem Uh.kept {S:Nat→Prop}{w w':World}(h:Uh w)(k:Ab S w w')(a:¬S 1):Uh w':=h.block (k.block _ h.lt a)
theorem Uh.Ag {w w':World}(h:Uh w)(k:Ab No w w'):Uh w':=h.kept k xT
theorem Tf {l m:Bag}(h:A9 l m):B8 l=B8 m:=by unfold B8;rw[h.canon]
theorem XC (v:Nat)(hv a:Value)(t:ByteArray)(w:World)(Q:Ending→World→Prop)(b:C2 w v #[hv,a] 87)
 (c:Calls prog 66 #[C1 v,a] (w.setCell ⟨v,1,none⟩ (.map none)) fun e w1=>e=.returned (.tuple #[])∧Calls prog 42 #[a] w1 fun e d=>e=.returned (.string t)∧Q e d) :
 Calls prog 40 #[C1 v] w Q:=by
 have f:=Ae c;have k:C3 w v 0 hv:=(Af b 0).trans rfl;have c1:C3 w v 1 a:=(Af b 1).trans rfl;have l:w.frozen? ⟨v,1,none⟩=false:=Am b _;clear c b;go_enter func40,ntmps40;go_wp2_with fail;go_call f.o as e w1 ⟨rfl,g⟩;have h:=Ae g;clear g f;go_wp2_with fail;go_call h.o as e d ⟨rfl,i⟩;have j:=Ae i;clear i h;go_wp2_with fail;exact j.o
def jZ (v:Nat)(told B:Bag)(w:World)(O:Ow)(e:Ending)(w':World):Prop :=
 e=.returned (.string ⟨(B8 (B++neg told)).toArray⟩)∧∃O':Ow,(∀k,k<w.heap.size→O' k=O k)∧Ab (fun k=>O k=v+2) w w'∧Er w' O' v B B
theorem KG (v:Nat){ts:List Bool}{told B:Bag}(w:World)(O:Ow)(h:Er w O v told B)(ok1:B2 ts told)(ok2:B2 ts B)(n:OB ts (B++neg told))(F:Uh w)(hO:O 1≠v+2) :
 Calls prog 40 #[C1 v] w (jZ v told B w O):=by
 obtain⟨o,hv,c,f,i,l,y⟩:=h;have p:A9 (told++(B++neg told)) B:=fun r=>by rw[Ah,Ah,Ew];omega
 have G:Gf ts (B++neg told):=ok1.chg (ok2.eqv p.symm);refine XC v hv c ⟨(B8 (B++neg told)).toArray⟩ w _ f ?_;have U:=Aa f;obtain⟨W,q⟩:∃W,w.setCell ⟨v,1,none⟩ (.map none)=W:=⟨_,rfl⟩;have m:Ab (·=v) w W:=by rw[←q];exact (Ab.refl (·=v) w).setCell (g:=v) (.inr rfl) _
 have s:W.heap[v]? =some (.cells #[hv,.map none] 87 (0,0)):=by rw[←q,A0 f];rfl
 rw[q];have V:∀k,k<w.heap.size→O k=O k:=fun _ _=>rfl;have z:Dr W O v hv told:=⟨i.1.A6 fun k e=>m.block k (i.1.lt e) (fun a=>i.F4 e f a.symm),i.2⟩;have m3:Dr W O v c (B++neg told):=⟨l.1.A6 fun k e=>m.block k (l.1.lt e) (fun a=>l.F4 e f a.symm),l.2⟩;have H:∀{b:Bag} {d:Bag},B2 ts b→B2 ts (b++d)→(Ad d).length≤6000000000000:=fun h k=>(h.chg k).len;have A:B2 ts []:=⟨fun r=>by simp[Mo.cnt],by show (0:Int)≤_;decide,by show (0:Int)≤_;decide,(fun e j=>by cases j),(fun e j=>by cases j),ok1.six⟩;have e1:(Ad told).length≤6000000000000:=H A (by simpa using ok1);have e2:=G.len;refine (Hc v 0 #[hv,.map none] 87 hv c (Ad told) (Ad (B++neg told)) W s rfl z.1 m3.1 (fun k e a=>y k a e) (by rw[Bp (Ap _),Bp (Ap _)];unfold maxLen;omega)).mono fun e w1 I=>?_;have J:∀x∈Ad (told++(B++neg told)),Ge x.1:=by rw[p.canon];exact (B2.chg (b:=[]) (d:=B) A (by simpa using ok2)).gR
 obtain⟨j,K,L,M,_,C⟩:=I.mem z J;refine⟨j,?_⟩;have D:Ab (fun k=>O k=v+2) w w1:=(m.mono fun k _ e=>by rw[e];exact o).seq (C.mono fun k _ e=>by
  rcases e with rfl|e
  ·exact o
  exact i.2 k e)
 have N:E6 w1 c (Ad (B++neg told)):=m3.1.A6 fun k e=>C.block k (m3.1.lt e) (fun a=>by
  rcases a with a|a
  ·exact m3.F4 e s a.symm
  exact y k e a)
 have P:Uh w1:=F.kept D hO;have Q:OB ts (Ad (B++neg told)):=⟨fun r hr=>n.ty r (by rw[Aq] at hr;exact hr),fun r=>by rw[Aq];exact n.bd r,by rw[Bp (Ap _)];exact n.len⟩;refine (Wa c _ w1 N Q P).mono fun e X R=>?_;obtain⟨t,E⟩:=R;have S:B8 (Ad (B++neg told))=B8 (B++neg told):=Tf (Bc _);rw[S] at t;refine⟨t,t,oB W O (v+2),fun k u=>Fu (tU u m.size),D.seq (E.mono fun _ _ e=>e.elim),?_⟩;have T:Er w1 (oB W O (v+2)) v B B:=by refine⟨by rw[Fu (Aa s)];exact o,K,.map none,L,M.eqv p,?_,fun k e=>by cases e⟩;exact (Dr.nil w1 _ v).eqv fun r=>by rw[Ah,Ew];simp[Mo.cnt];omega
 exact T.stab fun k u _=>⟨E.block k u xT,rfl⟩
structure sF (p:Bag×Bag):Prop where
 n1:nn p.1
 c1:∀r,cnt p.1 r≤1000000
 c2:∀r,-1000000≤cnt p.2 r∧cnt p.2 r≤1000000
 r1: -1000000≤Nr p.1∧Nr p.1≤1000000
 r2: -1000000≤Nr p.2∧Nr p.2≤1000000
def Zg (p:Bag×Bag):Bool:=p.2.all fun e=>decide (0≤cnt p.1 e.1+cnt p.2 e.1)
def D9:List (Bag×Bag)→Int→Int
 | [],n=>if 60<n then 8 else 0
 |p::l,n=>if Zg p=true then D9 l (n+(Nr p.1+Nr p.2)) else 7
theorem nw {a:Int}(_: -2000000≤a)(_:a≤2000000):wrap64 a=a:=by unfold wrap64;omega
theorem dG {p:Bag×Bag}(h:sF p)(ok:∀e∈p.2,Ge e.1):Zg p=true↔RZ p.1 p.2:=by
 have a:∀r,wrap64 (cnt p.2 r)=cnt p.2 r:=fun r=>nw (by have:=h.c2 r;omega) (by have:=h.c2 r;omega);have e1:∀r,wrap64 (cnt p.1 r)=cnt p.1 r:=fun r=>nw (by have:=h.n1 r;omega) (by have:=h.c1 r;omega);have e2:∀r,wrap64 (cnt p.1 r+cnt p.2 r)=cnt p.1 r+cnt p.2 r:=fun r=>nw (by have:=h.c2 r;have:=h.n1 r;omega) (by have:=h.c2 r;have:=h.c1 r;omega);unfold Zg RZ;rw[uR];constructor
 ·intro b r hr c;rw[a] at c;rw[a,e1,e2];obtain⟨x,d,rfl⟩:=Ck.Cq c;simpa using b x d
 intro b e f;by_cases g:cnt p.2 e.1=0
 ·have:=h.n1 e.1;simp;omega
 have:=b e.1 (ok e f) (by rw[a];exact g);rw[a,e1,e2] at this;simpa using this
theorem Zh {l es:Bag}(h:J9 l es)(ok:∀e∈l,Ge e.1)(a:∀r,-1000000≤cnt l r∧cnt l r≤1000000):lV es=Nr l:=by
 have b:A9 es l:=fun r=>by rw[h.cnt ok,nw (by have:=a r;omega) (by have:=a r;omega)]
 exact b.lin _
def Vp (w:World)(v cv:Value)(ps:List (Bag×Bag)):Prop:=∃a cap g ccap,v=.slice a ps.length cap∧ps.length≤cap∧cap≤maxLen∧cv=.slice (some ⟨g,0,none⟩) ps.length ccap∧g<w.heap.size ∧
 ∀i p,ps[i]? =some p→∃b o blk hv c,a=some ⟨b,o,none⟩∧b<w.heap.size∧blk<w.heap.size∧w.cell? ⟨b,o+i,none⟩=some (.pointer (some ⟨blk,0,none⟩))∧w.cell? ⟨blk,1,none⟩=some hv∧E6 w hv p.1∧w.cell? ⟨g,i,none⟩=some (.map (some c))∧Ak w c p.2
theorem Vp.kept {w w':World}{v cv:Value}{ps:List (Bag×Bag)}(h:Vp w v cv ps)(k:Ab No w w'):Vp w' v cv ps:=by
 obtain⟨a,cap,g,e,f,j,l,m,d,n⟩:=h;refine⟨a,cap,g,e,f,j,l,m,tU d k.size,fun i p hp=>?_⟩;obtain⟨b,o,blk,hv,c,e1,e2,e3,e4,e5,q,r,s⟩:=n i p hp;exact⟨b,o,blk,hv,c,e1,tU e2 k.size,tU e3 k.size,(k.cell e2 xT).trans e4,(k.cell e3 xT).trans e5,q.Ag k,(k.cell d xT).trans r,s.kept k xT⟩
theorem dH (v cv:Value)(ps:List (Bag×Bag))(w:World)(h:Vp w v cv ps)(an:ps.length≤100)(K:∀p∈ps,sF p) :
 Calls prog 46 #[v,cv] w fun e w'=>e=.returned (.int .i64 (D9 ps 0))∧Ab No w w':=by
 have L:=Ae h;have ao:=Ae K;obtain⟨a,cap,g,ap,rfl,l,M,rfl,aq,-⟩:=h;obtain⟨n,C⟩:∃n,ps.length=n:=⟨_,rfl⟩;have y:=Ae C;rw[C] at L l an⊢;have ba:=Bn M
 clear K C M;go_enter func46,ntmps46;go_wp21;go_loopg [5,10] n (fun k ar au wr=>∃(i:Nat) (R:Int),i+k=n∧au=.int .i64 (i:Int)∧ar=.int .i64 R∧xR (D9 (ps.drop i) R=D9 ps 0)∧xR (-(2000000*(i:Int))≤R∧R≤2000000*(i:Int))∧xR (Ab No w wr))
 case atStart=>exact⟨0,0,by omega,rfl,rfl,Ae rfl,Ae (by omega),Ae (Ab.refl _ _)⟩
 obtain⟨i,R,_,rfl,rfl,N,av,j⟩:=hrel;cases gk with
 |zero =>
  have aw:¬(i:Int)<(n:Int):=by omega
  have O:xR (D9 ps 0=if 60<R then 8 else 0):=by show _=_;rw[←N.o,wY (by have:=y.o;omega)];rfl
  by_cases P:60<R
  ·have m:xR (D9 ps 0=8):=(by show _=_;rw[O.o,if_pos P]);go_wp21;go_ret;exact⟨Bo m.o.symm,j.o⟩
  have m:xR (D9 ps 0=0):=by show _=_;rw[O.o,if_neg P]
  go_wp21;go_ret;exact⟨Bo m.o.symm,j.o⟩
 |succ k =>
  have aw:(i:Int)<(n:Int):=by omega
  have bb:=Bm i
  obtain⟨p,hp⟩:∃p,ps[i]? =some p:=⟨_,tT (by have:=y.o;omega)⟩;have D:=ao.o p (tV hp);have Q:ps.drop i=p::ps.drop (i+1):=by rw[vF (by have:=y.o;omega)];have:=(tR.1 hp).2;rw[this]
  have HD:xR (D9 ps 0=if Zg p=true then D9 (ps.drop (i+1)) (R+(Nr p.1+Nr p.2)) else 7):=by show _=_;rw[←N.o,Q];rfl
  have S:Vp w (.slice a ps.length cap) (.slice (some ⟨g,0,none⟩) ps.length ap) ps:=by have:=L.o;rw[←y.o] at this;exact this
  obtain⟨a',_,_,_,e1,-,-,e2,-,T⟩:=S.kept j.o;injection e1 with e1 _ e3;subst e1 e3;injection e2 with e2 _ e4;injection e2 with e2;injection e2 with e2;subst e2 e4;obtain⟨b,o,blk,hv,c,rfl,_,U,ax,V,q,W,s⟩:=T i p hp;obtain⟨t,rfl⟩:=q.is;have X:g<wr.heap.size:=tU aq j.o.size;have ay:=Ae q;have az:=Ae s;have Y:=Ae (NJ (.map t) c p.1 p.2 wr.drew (q.Ag ((Ab.refl No wr).drew)) (s.kept ((Ab.refl No wr).drew) xT));have Z:=Ae (dG D s.1);have a0:=Ae s.1;have a1:=Ae q.ok;have f:=Ae D;clear hp Q S T q s D;go_wp21
  go_region_held3 (fun w'=>w'.cell? ⟨blk,1,none⟩=some (.map t)∧w'.cell? ⟨g,i,none⟩=some (.map (some c))) (go_keep)
   (first
     |(go_at_call 81
       go_call Y.o as e w1 ⟨ok,aa,rfl,z⟩;have E:=(z.cell U xT).trans V;have F:=(z.cell X xT).trans W;have A:=Ae (((Ab.refl No wr).drew).seq z);have G:=Ae (aa.trans Z.o.symm);clear z aa))
  have ab:=A.o.size;clear Y Z ax V W;cases ok
  ·have m:xR (D9 ps 0=7):=(by show _=_;rw[HD.o,if_neg (fun e=>by have:=G.o.2 e;cases this)]);clear E F;go_wp21;go_ret;exact⟨Bo m.o.symm,j.o.seq A.o⟩
  have H:xR (D9 (ps.drop (i+1)) (R+(Nr p.1+Nr p.2))=D9 ps 0):=by show _=_;rw[HD.o,if_pos (G.o.1 rfl)]
  have ac:xR (∀w',Ab No wr w'→Calls prog 82 #[.map t] w' fun e u=>e=.returned (.int .i64 (Nr p.1))∧Ab No w' u):=by refine Ae ?_;intro w' I;go_call IK (.map t) p.1 w' (ay.o.Ag I) as e u ⟨es,J,rfl,l⟩;have:=Zh J a1.o (fun r=>⟨by have:=f.o.n1 r;omega,f.o.c1 r⟩);exact⟨by rw[this,nw (by have:=f.o.r1;omega) (by have:=f.o.r1;omega)],l⟩
  have ad:xR (∀w',Ab No wr w'→Calls prog 82 #[.map (some c)] w' fun e u=>e=.returned (.int .i64 (Nr p.2))∧Ab No w' u):=by refine Ae ?_;intro w' I;go_call IK (.map (some c)) p.2 w' (.inr ⟨c,rfl,az.o.kept I xT⟩) as e u ⟨es,J,rfl,l⟩;have:=Zh J a0.o (fun r=>f.o.c2 r);exact⟨by rw[this,nw (by have:=f.o.r2;omega) (by have:=f.o.r2;omega)],l⟩
  have ae:=f.o.r1;have af:=f.o.r2;have a2:=av.o;obtain⟨n1,ag⟩:∃n1,Nr p.1=n1:=⟨_,rfl⟩;obtain⟨d,ah⟩:∃d,Nr p.2=d:=⟨_,rfl⟩;rw[ag] at ae ac H;rw[ah] at af ad H;have a3:wrap64 (n1+d)=n1+d:=by unfold wrap64;omega
  have a4:wrap64 (R+(n1+d))=R+(n1+d):=by unfold wrap64;omega
  have ai:=tU U ab;have aj:=tU X ab;clear ag ah HD G;go_wp21
  go_region_held3 (fun w'=>w'.cell? ⟨blk,1,none⟩=some (.map t)∧w'.cell? ⟨g,i,none⟩=some (.map (some c))) (go_keep)
   (first
     |(go_at_call 82
       go_call ad.o _ ak.o as e w3 ⟨rfl,B⟩;have a5:=(B.cell (tU ai al) xT).trans g0;have a6:=(B.cell (tU aj al) xT).trans am;have a7:=Ae (ak.o.seq B);clear B)
     |(go_at_call 82
       go_call ac.o _ (A.o.drew) as e bc ⟨rfl,x⟩;have g0:=(x.cell ai xT).trans E;have am:=(x.cell aj xT).trans F;have ak:=Ae (A.o.drew.seq x);have al:=x.size;clear x))
  clear E F g0 am a5 a6;have a8:xR (IntKind.i64.wrap (R+IntKind.i64.wrap (n1+d))=R+(n1+d)):=by have e1:IntKind.i64.wrap (n1+d)=n1+d:=(by rw[IntKind.wrap_i64];omega);have e2:IntKind.i64.wrap (R+(n1+d))=R+(n1+d):=(by rw[IntKind.wrap_i64];omega);show _=_;rw[e1,e2]
  have a9:xR (-(2000000*((i:Int)+1))≤R+(n1+d)∧R+(n1+d)≤2000000*((i:Int)+1)):=by show _∧_;omega
  clear a3 a4 a2 ae af;go_wp21;go_roundg k
  case measure=>omega
  exact⟨i+1,R+(n1+d),by omega,by go_num,by rw[a8.o],H,by push_cast;exact a9,Ae (j.o.seq a7.o)⟩
end Go.Proofs.YtdinjjmcmfjbfaaGreatDoor
