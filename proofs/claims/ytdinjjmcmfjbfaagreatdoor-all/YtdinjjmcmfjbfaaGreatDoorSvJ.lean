import Derived.Test.YtdinjjmcmfjbfaaGreatDoorWyJ
import Derived.Laws.BytesString
set_option maxRecDepth 100000
set_option maxHeartbeats 4000000
namespace Go.Proofs.YtdinjjmcmfjbfaaGreatDoor
open Go.RowKit Go.Shelf Mo Pl Tryz
open Go.Maps (Keyed)
def E8 (e:Row×Int):List UInt8:=Es e.1++(42::Lib.itoa e.2)
def Ez:Nat→Bag→List UInt8
 |_,[]=>[]
 |i,e::es=>(if i=0 then [] else [59])++(E8 e++Ez (i+1) es)
def B8 (l:Bag):List UInt8:=Ez 0 (Ad l)
theorem Yu (es:Bag)(e:Row×Int):∀i,Ez i (es++[e])=Ez i es++((if i+es.length=0 then [] else [59])++E8 e):=by
 induction es with
 |nil=>intro i;simp[Ez]
 |cons x r a=>intro i;simp[Ez,a,Nat.add_assoc,Nat.add_comm 1]
structure OB (us:List Bool) (l:Bag):Prop where
 ty:∀r,cnt l r≠0→Ge r∧r.map Mo.ty=us
 bd:∀r,-3000000000000≤cnt l r∧cnt l r≤3000000000000
 len:(Ad l).length≤100000000000
theorem OB.nw {us:List Bool}{l:Bag}(h:OB us l)(r:Row):wrap64 (cnt l r)=cnt l r:=by
 have:=h.bd r;unfold wrap64;omega
theorem SF {ops:Array Oper}{rest:List Oper}{o:Oper}{a:Act}{w:World}{Q:Exit→Act→World→Prop}(t b:TypeId)(x:Operand)(ho:o.op=.convert t b x)(c:o.guard=none)(v:Value)(d:a.eval x=v)(r:Value)(hr:(convert t b v).run prog w=.ok r w)
 (h:wpList prog ops Q rest (a.put o.dst r) w):wpList prog ops Q (o::rest) a w:=by
 refine wpList_plain c fun _ e=>?_;unfold Oper.wp execOp;simp only[ho,d,Sem.run_bind,Sem.run_pure,Result.andThen_ok,hr];exact e _ _ h
theorem JI:∀(t:List UInt8) (s:ByteArray),(t.map fun (b:UInt8)=>(b.toNat:Int)).foldl (fun (r:ByteArray) (n:Int)=>r.push (UInt8.ofNat n.toNat)) s=⟨(s.data.toList++t).toArray⟩
 | [],s=>by simp
 |c::t,s=>by
  show (t.map fun (b:UInt8)=>(b.toNat:Int)).foldl _ (s.push (UInt8.ofNat ((c.toNat:Int)).toNat))=_;rw[JI t];have:UInt8.ofNat ((c.toNat:Int)).toNat=c:=by simp
  rw[this];simp[ByteArray.push]
theorem Yv {w:World}{B:Nat}{v:Value}{t:List UInt8}(h:Eo w B v t):(convert 149 9 v).run prog w=.ok (.string ⟨t.toArray⟩) w:=by
 rcases h.2 with ⟨rfl,c⟩|⟨g,cap,cur,rfl,_,hg,hc1,hc2,hc3,hc4⟩
 ·have:t=[]:=uM c;subst this;rw[run_convert_bytes_string w 149 9 5 none 0 0 underlying149 underlying5 underlying9];rfl
 rw[run_convert_bytes_string w 149 9 5 (some ⟨g,0,none⟩) t.length cap underlying149 underlying5 underlying9];have d:(loadCells ⟨g,0,none⟩ t.length).run prog w=.ok ((t.map fun (b:UInt8)=>(b.toNat:Int)).map (Value.int .u8)).toArray w:=by
  have:=run_loadCells_list (P:=prog) w ⟨g,0,none⟩ (Lib.byteCells t) (fun j x a=>by
   have e:(⟨g,0,none⟩:Addr).add j=⟨g,j,none⟩:=(by unfold Addr.add;split <;> simp_all);rw[e,Af hg];rw[Nat.mul_one] at hc4;rw[←hc4,uQ] at a;split at a
   ·simpa using a
   cases a)
  have e1:(Lib.byteCells t).length=t.length:=by simp[Lib.byteCells]
  rw[e1] at this;rw[this];simp[Lib.byteCells]
 rw[run_bytesToString w ⟨g,0,none⟩ t.length cap _ d,JI];rfl
theorem Yw {us:List Bool}{l:Bag}(a:OB us l){e:Row×Int}(b:e∈Ad l):(E8 e).length≤160:=by
 have c:=(Ap l).Df b;have f:=(Ap l).nz b;rw[Aq] at c;have hr:=(a.ty e.1 (by omega)).1;have g:=a.bd e.1;have d:=Vi hr e.1.length (tY _);rw[vH] at d;have h:=Lib.itoa_length_le e.2 (by omega) (by omega);have i:=hr.1;unfold E8 Es;simp only[tS,uO,vI];omega
theorem Yx (l:Bag)(i:Nat)(e:Row×Int)(a:l[i]? =some e):Ez 0 (l.take (i+1))=Ez 0 (l.take i)++((if i=0 then [] else [59])++E8 e):=by
 have hi:=(tR.1 a).1;rw[uI,a];show Ez 0 (l.take i++[e])=_;rw[Yu];have:(l.take i).length=i:=by rw[uV];omega
 rw[this,uL]
theorem Vj {us:List Bool}{l:Bag}(a:OB us l):∀i,i≤(Ad l).length→(Ez 0 ((Ad l).take i)).length≤161*i
 |0,_=>by simp[Ez]
 |i+1,hi=>by
  have c:=Vj a i (by omega);obtain⟨e,b⟩:∃e,(Ad l)[i]? =some e:=⟨_,tT (by omega)⟩;have d:=Yw a (tV b);rw[Yx _ i e b];simp only[tS];split
  ·simp;omega
  simp;omega
theorem Wo {w:World}{g k:Nat}{q:Row}(h:w.rangeAt g k (Ai q).toList):(loadVar 154 ⟨g,k,none⟩).run prog w=.ok (.agg (Ai q)) w:=by
 have:=run_loadVar_mid w g k 154 (Ai q).toList _ h underlying154 rfl (by rw[Lt];exact Cp);simpa using this
theorem JK {us:List Bool}(b:Nat)(l:Bag)(w:World)(h:Ak w b l)(N:OB us l)(be:Lib.TabIs prog w "internal/strconv.uint64pow10" .u64 Lib.pow10Tab) :
 Calls prog 42 #[.map (some b)] w fun e w'=>e=.returned (.string ⟨(B8 l).toArray⟩)∧Ab No w w':=by
 have bf:xR (∀(w1:World) (O:Nat),Ab No w w1→O<w1.heap.size→w1.cell? ⟨O,0,none⟩=some (.map (some b))→Calls prog 68 #[.func (.func 119) #[] #[C1 O],.func (.func 70) #[] #[]] w1 fun e w'=>∃v,e=.returned v∧NS w' v (Lu l)∧Ab No w1 w') :=
  fun w1 O bu hB bv=>JD (us:=us) b l w1 (h.kept bu xT) (fun r hr=>by rw[N.nw];exact hr) N.ty N.len O hB bv
 have bg:=Ae h;have J:=Ae N;have bh:=Ae be;clear h N be;go_enter func42,ntmps42;go_wp21;go_call JB _ _ as e w1 ⟨rfl,rfl⟩;have aq:Ab No w (w.alloc (.cells #[.map (some b)] 83)):=(Ab.refl No w).alloc _;have bi:=Ae (bf.o _ w.heap.size aq (by simp) (by rw[Af (heap_alloc_last _ _)];rfl));clear bf;go_wp21;go_call bi.o as e f ⟨v,rfl,ar,bj⟩;have C:Ab No w f:=aq.seq bj;have bw:=Ae C;have af:=Ae (bg.o.kept C xT);have P:xR (Lib.TabBelow prog f.heap.size f "internal/strconv.uint64pow10" .u64 Lib.pow10Tab):=Lib.tabBelow_of_tabIs (bh.o|> fun h=>(Lib.tabBelow_of_tabIs h) f ⟨C.os,C.tape,C.output,C.size,fun i hi=>C.block i hi xT⟩);have bk:=Ae ar;obtain⟨va,_,bx⟩:∃a c,v=.slice a (Lu l).length c:=by
  rcases ar with ⟨rfl,e⟩|⟨g,cap,rfl,_⟩
  ·rw[e];exact⟨_,_,rfl⟩
  exact⟨_,_,rfl⟩
 subst bx;obtain⟨n,au⟩:∃n,(Lu l).length=n:=⟨_,rfl⟩;have bl:=Ae au;rw[au] at bk⊢;obtain⟨av,aw,ax,ay,az⟩:=info_parts NT;clear ar bj aq C bi bg bh au;go_wp21;go_loopg [3,10] n (fun k K bz wr=>∃i:Nat,i+k=n∧bz=.int .i64 (i:Int)∧xR (Eo wr f.heap.size K (Ez 0 ((Ad l).take i)))∧xR (W8 f.heap.size f wr))
 case atStart=>exact⟨0,by omega,rfl,Ae (World.ownsRow_nil _ _ _ _),Ae (W8.refl _ _)⟩
 obtain⟨i,_,rfl,hO,s⟩:=hrel;cases gk with
 |zero =>
  have b0:¬(i:Int)<(n:Int):=by omega
  have b1:xR ((Ad l).take i=Ad l):=uW (by have:=bl.o;unfold Lu at this;rw[tZ] at this;omega);have b2:=Ae (Yv hO.o);have b3:xR (Ab No w wr):=bw.o.seq ⟨s.o.os,s.o.tape,s.o.output,s.o.size,fun j a0 _=>s.o.block j a0 (fun e=>by omega)⟩;go_wp2_with (first
   |(refine SF 149 9 _ rfl rfl _ rfl _ b2.o ?_)
   |fail)
  go_ret;refine⟨?_,b3.o⟩;unfold B8;rw[b1.o];rfl
 |succ k =>
  have b0:(i:Int)<(n:Int):=by omega
  have ck:=Bm i
  have b4:(Ad l).length=n:=by have:=bl.o;unfold Lu at this;rw[tZ] at this;exact this
  obtain⟨e,ag⟩:∃e,(Ad l)[i]? =some e:=⟨_,tT (by omega)⟩;have ah:=tV ag;have Q:cnt l e.1=e.2:=by have:=(Ap l).Df ah;rw[Aq] at this;exact this
  have ai:=(Ap l).nz ah;have b5:=J.o.bd e.1;have b6:=(J.o.ty e.1 (by rw[Q];exact ai)).1;obtain⟨q,c⟩:=e;replace Q:cnt l q=c:=Q;replace ai:c≠0:=ai;rw[Q] at b5;have aj:(Lu l)[i]? =some q:=by unfold Lu;rw[tX,ag];rfl
  rcases bk.o with ⟨_,a1⟩|⟨g,cap,a1,hg1,hg2,hg3,hg4⟩
  ·rw[a1] at aj;simp at aj
  injection a1 with e1 e2 e3;subst e1 e3;obtain⟨T,ak⟩:∃T,Ez 0 ((Ad l).take i)=T:=⟨_,rfl⟩;have b7:T.length≤161*i:=by rw[←ak];exact Vj J.o i (by omega)
  have cl:n≤100000000000:=by rw[←b4];exact J.o.len
  have bm:=Ae (Yx (Ad l) i (q,c) ag);have bn:=Ae ak;rw[ak] at hO;have b8:=Ae (Yw J.o ah);have cm:(Es q).length≤160:=by have:=b8.o;unfold E8 at this;simp only[tS,uO] at this;omega
  obtain⟨m,al⟩:∃m,T.length=m:=⟨_,rfl⟩;have R:=Ae al;have a2:wr.ownsRow f.heap.size 5 1 u3 m (Lib.byteCells T):=by rw[←al];exact hO.o
  rw[al] at b7;have b9:=s.o.size;obtain⟨B,hB⟩:∃B,f.heap.size=B:=⟨_,rfl⟩;have u:=Ae hB;have bo:xR ((loadVar 154 ⟨g,i*37,none⟩).run prog wr=.ok (.agg (Ai q)) wr):=Wo fun j x a0=>by have ca:¬(f.heap.size≤g∧Is 5 f g):=fun e=>(by omega);rw[Ab.cell s.o hg3 ca];exact hg4 i q aj j x a0
  have am:=Ae b6;have bp:xR ((Cr l q).getD (.int .i64 0)=.int .i64 c):=by show _=_;have cb:=J.o.nw q;unfold Cr;rw[cb,Q,if_neg ai];rfl
  clear ak al ag ah hg4 aj hg1 hg2 e2;rw[hB] at a2 hO s;rw[hB] at P b9;obtain⟨d,S⟩:∃d,wr.alloc (.cells (Ai q) 154)=d:=⟨_,rfl⟩;have bq:d.heap[wr.heap.size]? =some (.cells (Ai q) 154 (0,0)):=by rw[←S];exact heap_alloc_last _ _
  have a3:W8 B f d:=s.o.trans (by rw[←S];exact W8.kept ((Ab.refl No wr).alloc _));have a4:d.ownsRow B 5 1 u3 m (Lib.byteCells T):=by rw[←S];exact a2.alloc _
  have L:B≤d.heap.size:=by rw[←hB];exact a3.size
  have an:=Ae bq;have D:=Ae a3;have br:=Ae S;have cc:∀(bs:List UInt8) (w3:World) (K:Value),bs.length≤161*i+1→W8 B d w3→Eo w3 B K bs→True:=fun _ _ _ _ _ _=>trivial;clear S bq a3 a2 cc;by_cases ao:i=0
  ·have cd:¬(0:Int)<(i:Int):=(by omega);have a5:=Ae ao;clear ao;have U:=Ae (BO q am.o B u3 T d (by show d.ownsRow B _ 1 u3 T.length _;rw[R.o];exact a4) L (by rw[R.o];omega) (P.o.on (D.o.below (by omega))));go_wp2_with (first
    |(refine Jw 154 _ rfl rfl g (i*37) rfl (.agg (Ai q)) bo.o ?_)
    |(refine Bt _ _ _ rfl rfl wr _ rfl rfl rfl q rfl ?_;rw[br.o])
    |(refine C7 _ rfl rfl wr.heap.size rfl q an.o ?_)
    |fail)
   have M:xR (W8 B d d):=W8.refl _ _;have ap:xR (T.length≤161*i+1):=(by show _≤_;rw[R.o];omega);go_call U.o as e w4 ⟨a6,rfl,V,W⟩;have H:W8 B d w4:=M.o.trans W;have y:w4.ownsRow B 5 1 a6 (T++Es q).length (Lib.byteCells (T++Es q)):=V;obtain⟨I,z⟩:∃I,(T++Es q).length=I:=⟨_,rfl⟩;have X:=Ae z;have ce:I≤161*i+1+160:=(by rw[←z,tS];have:=ap.o;omega);rw[z] at y;have cf:B≤w4.heap.size:=uJ L H.size;have a7:=Ae H;have cg:b<B:=(by rw[←u.o];exact af.o.lt);clear z V W U H;go_wp2_with (first
    |(at_builtin;refine wpList_append_own_at _ rfl _ _ 149 rfl B 5 av (.int .u8 0) 1 1 underlying149 aw ax ay az rfl (by decide) _ _ _ rfl (y.alloc _) ⟨w4.heap.size,0,none⟩ 1 1 [.int .u8 42] rfl rfl (World.news_of_block (cs:=#[.int .u8 42]) (t:=5) (fr:=(0,0)) (heap_alloc_last w4 _)) (by intro bt E;simp at E;subst E;rfl) (by unfold maxLen;omega) (by omega) (by simp;omega) ?_;intro Y w5 F G _ _;have p:xR (W8 B d w5):=(a7.o.trans (W8.kept ((Ab.refl No w4).alloc _))).grown (y.alloc _) G;have Z:xR (Eo w5 B Y (T++Es q++[42])):=Eo.snoc F X.o;have a8:=Ae (p.o.row an.o);have a9:xR (Ak w5 b l):=af.o.kept (D.o.trans p.o) (fun e=>by have:=e.1;omega);clear F G)
    |(refine C7 _ rfl rfl wr.heap.size rfl q a8.o ?_)
    |(at_lookup;refine Dy _ Hk rfl _ _ 83 2 rfl underlying83 (.int .i64 0) (M8 _) b (Cr l) rfl a9.o.2 q am.o rfl (.int .i64 c) bp.o ?_)
    |fail)
   have ba:B≤w5.heap.size:=uJ L p.o.size;obtain⟨o,A⟩:∃o:List UInt8,T++Es q++[42]=o:=⟨_,rfl⟩;have ch:o.length≤161*i+1+160+1:=(by rw[←A,tS,X.o];simp;omega);rw[A] at Z;have aa:=Ae (Tryz.strconv_AppendInt_10 B o.length c (by omega) (by omega) Y (Lib.byteCells o) w5 Z.o ba (by omega) (P.o.on ((D.o.trans p.o).below (by rw[u.o];exact tY _))));go_call aa.o as e w6 ⟨ab,rfl,ac,ad,ae⟩;have bb:xR (Eo w6 B ab (T++E8 (q,c))):=(by have bc:T++E8 (q,c)=o++Lib.itoa c:=(by rw[←A];unfold E8;simp);show w6.ownsRow B _ 1 ab (T++E8 (q,c)).length (Lib.byteCells (T++E8 (q,c)));rw[bc,tS,Lib.byteCells_append];exact ac);have bd:xR (W8 B f w6):=(D.o.trans p.o).trans (W8.of ad ae);clear ac ad ae aa y A;go_wp21;go_roundg k
   case measure=>omega
   refine⟨i+1,by omega,by go_num,?_,by rw[u.o];exact bd⟩;show Eo _ _ _ _;rw[u.o,bm.o];rw[if_pos a5.o,vJ,bn.o];exact bb.o
  have cd:(0:Int)<(i:Int):=by omega
  have a5:=Ae ao;clear ao;go_wp2_with (first
   |(refine Jw 154 _ rfl rfl g (i*37) rfl (.agg (Ai q)) bo.o ?_)
   |(refine Bt _ _ _ rfl rfl wr _ rfl rfl rfl q rfl ?_;rw[br.o])
   |(at_builtin;refine wpList_append_own_at _ rfl _ _ 149 rfl B 5 av (.int .u8 0) 1 1 underlying149 aw ax ay az rfl (by decide) _ _ _ rfl (a4.alloc _) ⟨d.heap.size,0,none⟩ 1 1 [.int .u8 59] rfl rfl (World.news_of_block (cs:=#[.int .u8 59]) (t:=5) (fr:=(0,0)) (heap_alloc_last d _)) (by intro bt E;simp at E;subst E;rfl) (by unfold maxLen;omega) (by omega) (by simp;omega) ?_;intro K w3 F G _ _;have M:xR (W8 B d w3):=(W8.kept ((Ab.refl No d).alloc _)).grown (a4.alloc _) G;have ci:xR (Eo w3 B K (T++[59])):=Eo.snoc F R.o;have cj:=Ae (M.o.row an.o);clear F G)
   |(refine C7 _ rfl rfl wr.heap.size rfl q cj.o ?_)
   |fail)
  have ap:xR ((T++[59]).length≤161*i+1):=by show _≤_;rw[tS,R.o];simp;omega
  have U:=Ae (BO q am.o B K (T++[59]) w3 ci.o (uJ L M.o.size) (by have:=ap.o;omega) (P.o.on ((D.o.trans M.o).below (by rw[u.o];exact tY _))));go_call U.o as e w4 ⟨a6,rfl,V,W⟩;have H:W8 B d w4:=M.o.trans W;have y:w4.ownsRow B 5 1 a6 ((T++[59])++Es q).length (Lib.byteCells ((T++[59])++Es q)):=V;obtain⟨I,z⟩:∃I,((T++[59])++Es q).length=I:=⟨_,rfl⟩;have X:=Ae z;have ce:I≤161*i+1+160:=by rw[←z,tS];have:=ap.o;omega
  rw[z] at y;have cf:B≤w4.heap.size:=uJ L H.size;have a7:=Ae H;have cg:b<B:=by rw[←u.o];exact af.o.lt
  clear z V W U H;go_wp2_with (first
   |(at_builtin;refine wpList_append_own_at _ rfl _ _ 149 rfl B 5 av (.int .u8 0) 1 1 underlying149 aw ax ay az rfl (by decide) _ _ _ rfl (y.alloc _) ⟨w4.heap.size,0,none⟩ 1 1 [.int .u8 42] rfl rfl (World.news_of_block (cs:=#[.int .u8 42]) (t:=5) (fr:=(0,0)) (heap_alloc_last w4 _)) (by intro bt E;simp at E;subst E;rfl) (by unfold maxLen;omega) (by omega) (by simp;omega) ?_;intro Y w5 F G _ _;have p:xR (W8 B d w5):=(a7.o.trans (W8.kept ((Ab.refl No w4).alloc _))).grown (y.alloc _) G;have Z:xR (Eo w5 B Y ((T++[59])++Es q++[42])):=Eo.snoc F X.o;have a8:=Ae (p.o.row an.o);have a9:xR (Ak w5 b l):=af.o.kept (D.o.trans p.o) (fun e=>by have:=e.1;omega);clear F G)
   |(refine C7 _ rfl rfl wr.heap.size rfl q a8.o ?_)
   |(at_lookup;refine Dy _ Hk rfl _ _ 83 2 rfl underlying83 (.int .i64 0) (M8 _) b (Cr l) rfl a9.o.2 q am.o rfl (.int .i64 c) bp.o ?_)
   |fail)
  have ba:B≤w5.heap.size:=uJ L p.o.size;obtain⟨o,A⟩:∃o:List UInt8,(T++[59])++Es q++[42]=o:=⟨_,rfl⟩;have ch:o.length≤161*i+1+160+1:=by rw[←A,tS,X.o];simp;omega
  rw[A] at Z;have aa:=Ae (Tryz.strconv_AppendInt_10 B o.length c (by omega) (by omega) Y (Lib.byteCells o) w5 Z.o ba (by omega) (P.o.on ((D.o.trans p.o).below (by rw[u.o];exact tY _))));go_call aa.o as e w6 ⟨ab,rfl,ac,ad,ae⟩;have bb:xR (Eo w6 B ab ((T++[59])++E8 (q,c))):=by have bc:(T++[59])++E8 (q,c)=o++Lib.itoa c:=(by rw[←A];unfold E8;simp);show w6.ownsRow B _ 1 ab ((T++[59])++E8 (q,c)).length (Lib.byteCells ((T++[59])++E8 (q,c)));rw[bc,tS,Lib.byteCells_append];exact ac
  have bd:xR (W8 B f w6):=(D.o.trans p.o).trans (W8.of ad ae);clear ac ad ae aa y A;go_wp21;go_roundg k
  case measure=>omega
  refine⟨i+1,by omega,by go_num,?_,by rw[u.o];exact bd⟩;show Eo _ _ _ _;rw[u.o,bm.o];rw[if_neg a5.o,bn.o];have:=bb.o;simpa using this
attribute [local go_sem] Oper.semAt_some in
theorem bV (F:Fence)(n:Nat)(b:F.fn 119)(c:F.round=none)(a N:Nat)(w:World)(d:a<w.heap.size)(f:C3 w a 0 (.map none)) :
 SeqStopsK F n prog 119 #[C1 a] VD KeepsWalks (fun xs=>xs=[]) (fun _=>True) N w:=fun l j k W g h _ m i=>by
 have o:C3 W a 0 (.map none):=(g.cell (p:=⟨a,0,none⟩) d).trans f;have q:=run_range_nilMap (P:=prog) W 83 154 2 underlying83;have s:∀ty,(Instr.next (C1 W.heap.size) false ty).run prog (W.alloc (.mapIter none 0 #[] 0))=_:=fun ty=>run_next_nilMap W ty 0 0 #[];refine callsIn_of_wp func119 rfl b ?_ c;simp only[ntmps119,List.size_toArray,uO,vI,Nat.reduceAdd,Nat.reduceSub,Array.replicate_succ,Array.replicate_zero,List.push_toArray,List.append_toArray,vJ,List.cons_append]
 gi_wp2
 gi_loopw [6] (fun _ wr=>wr=W.alloc (.mapIter none 0 #[] 0)) (fun _ _=>0)
 case atStart=>rfl
 subst hrel
 gi_wp2
 go_end0;exact⟨⟨_,rfl⟩,.inl ⟨[],rfl,h [] W _ none i (World.grownBy_alloc W _ none) (fun r e=>by cases e)⟩⟩
theorem OC (w:World)(b:Nat)(j:b<w.heap.size)(c:C3 w b 0 (.map none)) :
 Calls prog 68 #[.func (.func 119) #[] #[C1 b],.func (.func 70) #[] #[]] w fun e w'=>e=.returned (.slice none 0 0)∧Ab No w w':=by
 have d:=bV Fence.wide 9 trivial rfl b 0 w j c;have f:=Ae (V6 #[C1 b] (fun xs=>xs=[]) 0 (by omega) w d);clear d c;go_enter func68,ntmps68;go_wp21;go_call f.o as e w1 ⟨v,xs,rfl,g,k,h,a⟩;have l:xR (Ab No w w1):=⟨a.os,a.tape,a.output,a.size,fun i hi _=>a.block i hi⟩;obtain rfl:=h.2 g;clear k h a g f;go_wp21;go_call AnyF.slices_SortFunc_none Tryz.EG none 0 _ _ as e m ⟨rfl,rfl⟩;go_wp21;go_ret;exact⟨rfl,l.o⟩
theorem JL (w:World):Calls prog 42 #[.map none] w fun e w'=>e=.returned (.string ⟨#[]⟩)∧Ab No w w':=by
 go_enter func42,ntmps42;go_wp21;go_call JB _ _ as e w1 ⟨rfl,rfl⟩;have a:Ab No w (w.alloc (.cells #[.map none] 83)):=(Ab.refl No w).alloc _;have b:=Ae (OC (w.alloc (.cells #[.map none] 83)) w.heap.size (by simp) (by show _=_;rw[Af (heap_alloc_last _ _)];rfl));have d:=Ae a;clear a;go_wp21;go_call b.o as e h ⟨rfl,c⟩;have f:=Ae (d.o.seq c);have g:xR (∀W:World,(convert 149 9 (.slice none 0 0)).run prog W=.ok (.string ⟨#[]⟩) W):=fun W=>Yv (B:=0) (t:=[]) (World.ownsRow_nil _ _ _ _);clear c b;go_wp21;refine wp_loop_rounds 1 ?_;rw[rounds_succ];go_wp2_with (first
  |(refine SF 149 9 _ rfl rfl _ rfl _ (g.o _) ?_)
  |fail)
 go_ret;exact⟨rfl,f.o⟩
theorem Wa {us:List Bool}(v:Value)(l:Bag)(w:World)(h:E6 w v l)(a:OB us l)(c:Uh w) :
 Calls prog 42 #[v] w fun e w'=>e=.returned (.string ⟨(B8 l).toArray⟩)∧Ab No w w':=by
 rcases h with ⟨rfl,rfl⟩|⟨b,rfl,h⟩
 ·exact JL w
 exact JK b l w h a c
structure He where
 name:List UInt8
 row:Row
 t:Int
def Et (s:ByteArray)(a:Nat):Bool×Nat:=R9 (Bj s) (D1 s) a
def Iz (s:ByteArray)(a:Nat):V:=if (Bj s a).1=true then .txt (Ia s a (Bj s a).2) else .num (Gu (Ia s a (D1 s a).2))
def Ep (s:ByteArray):Nat→Nat→Row→Option (Row×Nat)
 |0,_,_=>none
 |k+1,a,r=>if (Et s a).1=true then
   (if bt s (Et s a).2=44 then Ep s k ((Et s a).2+1) (r++[Iz s a])
    else if bt s (Et s a).2=41 then some (r++[Iz s a],(Et s a).2+1) else none)
  else none
def D7 (s:ByteArray)(a:Nat):Int:=if bt s a=43 then 1 else -1
def Ec (s:ByteArray):Nat→Nat→List He→Option (List He)
 |0,_,_=>none
 |k+1,a,l=>if bt s a=43∨bt s a=45 then
   (if (Bj s (a+1)).1=true then
     (if bt s (Bj s (a+1)).2=40 then
       (match Ep s (s.size+1) ((Bj s (a+1)).2+1) [] with
        |none=>none
        |some (r,d)=>if d=s.size then some (l++[⟨Ia s (a+1) (Bj s (a+1)).2,r,D7 s a⟩])
         else if bt s d=59 then Ec s k (d+1) (l++[⟨Ia s (a+1) (Bj s (a+1)).2,r,D7 s a⟩]) else none)
      else none)
    else none)
  else none
def Da (s:ByteArray):Option (List He):=if s.size=0 then some [] else Ec s (s.size+1) 0 []
theorem SG {s:ByteArray}{a:Nat}(h:¬(Bj s a).1=true):(Bj s a).2=a:=by
 unfold Bj V0 at h⊢;have b:=Oo s 97 122 4 a;have c:¬a<Eb s 97 122 4 a:=by simpa using h
 show Eb s 97 122 4 a=a;omega
def nM (B P:Nat)(s:ByteArray)(w:World)(a:Nat)(e:Ending)(w':World):Prop :=
 ∃ok a' d,Et s a=(ok,a')∧e=.returned (.bool ok)∧RP B s a' w'∧Ab (fun k=>k=B∨k=P) w w'∧w'.heap[P]? =some (.cells d 133 (0,0))∧(ok=true→d=(A2 (Iz s a)).toArray)
theorem JM (c:Array Value)(v:V)(a:c.size=6):Tw c 0 v=(A2 v).toArray:=by
 obtain⟨l⟩:=c
 match l,a with
 | [a0,a1,a2,a3,a4,a5],_=>rfl
theorem VP (B P:Nat)(s:ByteArray)(a:Nat)(c:Array Value)(w:World)(f:s.size≤1000)(g:P≠B)(h:RP B s a w)(i:C2 w P c 133)(r:c.size=6) :
 Calls prog 77 #[C1 B,.pointer (some ⟨P,0,none⟩)] w (nM B P s w a):=by
 have t:=Ae h;have u:=Ae i;have d:=Ae r;clear h i;go_enter func77,ntmps77;go_wp21;go_call Sf B P 0 s a c 133 _ f g t.o u.o (by omega) as e w1 ⟨ok1,a1,j,rfl,p1,k,c1⟩;have b:=Ae j;have l:=Ae p1;have m:=Ae k;have n:=Ae c1;clear j p1 k c1;cases ok1
 ·have v:a1=a:=by have:=SG (s:=s) (a:=a) (by rw[b.o];simp);rw[b.o] at this;exact this
  subst v;go_wp21;go_call Px B P 0 s a1 _ 133 _ f g l.o n.o (by unfold mK;rw[if_neg (by simp),Ns];have:=d.o;omega) as e C ⟨ok2,a2,o,rfl,p2,p,c2⟩;have q:=Ae o;have x:=Ae p2;have y:=Ae p;have z:=Ae c2;clear o p2 p c2;go_wp21;go_ret;refine⟨ok2,a2,_,?_,rfl,x.o,m.o.seq y.o,z.o,fun A=>?_⟩
  ·unfold Et;rw[F8 b.o];exact q.o
  subst A;unfold qQ mK Iz;rw[b.o,q.o];simp only[if_true,Bool.false_eq_true,if_false];exact JM _ _ (by rw[Ns];exact d.o)
 go_wp21;go_ret;refine⟨true,a1,_,?_,rfl,l.o,m.o,n.o,fun _=>?_⟩
 ·unfold Et;rw[Ho b.o]
 unfold mK Iz;rw[b.o];simp only[if_true];exact JM _ _ d.o
theorem bY (B P o:Nat)(s:ByteArray)(a:Nat)(c:Array Value)(t:TypeId)(w:World)(q:s.size≤1000)(d:P≠B)(h:RP B s a w)(f:C2 w P c t)(G:o<c.size) :
 Calls prog 74 #[C1 B,.pointer (some ⟨P,o,none⟩)] w (WP B P s w (R9 (tk s 43) (tk s 45) a) t (fun _ _=>c.setIfInBounds o (.int .i64 (D7 s a)))):=by
 have H:=Ae h;have I:=Ae f;have J:=Aa f;clear h f;go_enter func74,ntmps74;go_wp21;go_call Di B s a 43 43 _ q (by omega) rfl H.o as e w1 ⟨ok,a1,g,rfl,p1,i⟩;have b:xR (C2 w1 P c t):=(i.block P J d).trans I.o;have j:=Ae g;have r:xR (Ab (fun k=>k=B∨k=P) w w1):=i.mono (fun _ _ e=>.inl e);have u:=Ae p1;have K:w1.cell? ⟨P,o,none⟩=some c[o]:=by rw[Af b.o,uG G]
 have L:w1.frozen? ⟨P,o,none⟩=false:=Am b.o o;have x:xR (ok=decide (bt s a=43)):=by
  have:=g;unfold tk at this;show _=_;split at this
  ·rename_i l;injection this with m _;rw[←m];simp[l]
  rename_i l;injection this with m _;rw[←m];simp[l]
 clear g p1 i;have y:∀v,RP B s a1 (w1.setCell ⟨P,o,none⟩ v):=fun v=>⟨u.o.1,(Below.heap_setCell _ _ _ _ (fun e=>d e.symm)).trans u.o.2⟩;have z:=Ae y;clear y;cases ok
 ·have n:xR (D7 s a= -1):=by show _=_;have:=x.o;unfold D7;rw[if_neg (by simpa using this.symm)]
  have M:xR (a1=a):=by
   have:=j.o;unfold tk at this;show _=_;split at this
   ·cases this
   injection this with _ N;exact N.symm
  go_wp21;go_call Di B s a1 45 45 _ q (by omega) rfl (z.o (.int .i64 (-1))) as e R ⟨ok2,a2,A,rfl,p2,C⟩;have O:=Ae A;have Q:=Ae p2;have D:=Ae C;clear A p2 C K L;go_wp21;go_ret;have E:=j.o;have F:=O.o;rw[M.o] at E F;have p:Ab (fun k=>k=B∨k=P) w1 (w1.setCell ⟨P,o,none⟩ (.int .i64 (-1))):=(Ab.refl _ _).setCell (.inr (.inr rfl)) _;refine⟨ok2,a2,?_,rfl,Q.o,(r.o.seq p).seq (D.o.mono (fun _ _ e=>.inl e)),?_⟩
  ·rw[F8 E];exact F
  rw[n.o,D.o.block P (by have:=Aa b.o;simpa [World.setCell] using this) d];exact A0 b.o o _
 have n:xR (D7 s a=1):=by show _=_;have:=x.o;unfold D7;rw[if_pos (by simpa using this.symm)]
 go_wp21;go_ret;have p:Ab (fun k=>k=B∨k=P) w1 (w1.setCell ⟨P,o,none⟩ (.int .i64 1)):=(Ab.refl _ _).setCell (.inr (.inr rfl)) _;refine⟨true,a1,?_,rfl,z.o _,r.o.seq p,?_⟩
 ·rw[Ho j.o]
 rw[n.o];exact A0 b.o o _
section
variable {w:World} {o:Oper} {a:Act} {K':Act→World→Prop} {Q:Exit→Act→World→Prop} {κ:Type} [DecidableEq κ] {K:TypeId} {enc:κ→Value} {ok:κ→Prop} (E:KE K enc ok)
include E
omit [DecidableEq κ] in
theorem Hv (d x:Operand)(t e:TypeId)(i:o.op=Op.lookup t d x false)(j:prog.underlying t=some (.map K e))(c:Value)(l:(zeroValue e).run prog w=.ok c w)
 (b:Nat) (m:κ→Option Value) (n:a.eval d=.map (some b)) (p:B9 K enc ok w b m) (k:κ) (f:ok k) (q:a.eval x=enc k) (v:Value) (hv:(m k).getD c=v)
 (r:K' (a.put o.dst v) w):o.wp prog a w K' Q:=by
 obtain⟨D,ho,s⟩:=p;obtain⟨_,g⟩:=E.key f;obtain⟨u,ps,z,h⟩:=ho.lookup (Keyed.of_law E.law) j l (zd:=.held c) (zp:=[]) rfl g;have:u=v:=by rw[s.at f g] at h;rw[←hv];simpa [tok] using (congrArg (fun y=>y.map Prod.fst) h)
 subst this;unfold Oper.wp;simp[execOp,i,n,q,z,Result.andThen];exact r
omit [DecidableEq κ] in
theorem Yy (b x:Operand)(t e:TypeId)(d:o.op=Op.lookup t b x false)(f:prog.underlying t=some (.map K e))(c:Value)(g:(zeroValue e).run prog w=.ok c w)
 (h:a.eval b=.map none) (k:κ) (i:ok k) (j:a.eval x=enc k) (l:K' (a.put o.dst c) w):o.wp prog a w K' Q:=by
 obtain⟨_,m⟩:=E.key i;have n:=Maps.look_nil (w:=w) false (Keyed.of_law E.law) f g m;unfold Oper.wp;simp[execOp,d,h,j,n,Result.andThen];exact l
theorem AK (d x v:Operand)(t e:TypeId)(h:o.op=Op.mapUpdate t d x v)(i:prog.underlying t=some (.map K e))
 (b:Nat) (m:κ→Option Value) (n:Nat) (j:a.eval d=.map (some b)) (l:B9 K enc ok w b m) (p:lU m n) (_:n<maxLen) (k:κ) (f:ok k) (val:Value) (c:a.eval x=enc k) (hv:a.eval v=val)
 (q:∀w',B9 K enc ok w' b (NG m k (some val))→w.mapTurned w' b→K' (a.put o.dst undef) w'):o.wp prog a w K' Q:=by
 obtain⟨D,ks,ho,r,s,_,u⟩:=l.keys E;obtain⟨_,_,y⟩:=p;have:=Dl s (fun x c=>y x ((u x).1 c));obtain⟨_,g⟩:=E.key f;obtain⟨w',z,r1,r2⟩:=ho.store (Keyed.of_law E.law) i (by omega) g (show tok val=some (.held val,[]) from rfl);unfold Oper.wp;simp[execOp,h,j,c,hv,z,Result.andThen];exact q w' ⟨_,Rw r1,r.put E ho.isMap f g _⟩ r2
theorem AL (c x:Operand)(t e:TypeId)(g:o.op=Op.call { callee:=Callee.builtin Builtin.delete,args:=#[c,x],argTypes:=#[t,K] })(h:prog.underlying t=some (.map K e))
 (b:Nat) (m:κ→Option Value) (i:a.eval c=.map (some b)) (j:B9 K enc ok w b m) (k:κ) (d:ok k) (l:a.eval x=enc k)
 (n:∀w',B9 K enc ok w' b (NG m k none)→w.mapTurned w' b→K' (a.put o.dst (.tuple #[])) w'):o.wp prog a w K' Q:=by
 obtain⟨D,ho,p⟩:=j;obtain⟨_,f⟩:=E.key d;obtain⟨w',q,r1,r2⟩:=ho.drop (Keyed.of_law E.law) h f o.type;unfold Oper.wp;simp[execOp,g,resolve,invoke,builtin,i,l,q,Result.andThen];exact n w' ⟨_,Rw r1,p.del E d f⟩ r2
omit [DecidableEq κ] in
theorem OD (c:Operand)(t e:TypeId)(d:o.op=Op.call { callee:=Callee.builtin Builtin.len,args:=#[c],argTypes:=#[t] })(f:prog.underlying t=some (.map K e))
 (b:Nat) (m:κ→Option Value) (g:a.eval c=.map (some b)) (i:B9 K enc ok w b m)
 (j:∀ks:List κ,ks.Nodup→(∀k,k∈ks↔(m k).isSome=true)→K' (a.put o.dst (.int .i64 (ks.length:Nat))) w):o.wp prog a w K' Q:=by
 obtain⟨D,ks,ho,_,l,n,p⟩:=i.keys E;have h:=j ks l p;rw[n] at h;unfold Oper.wp;simp[execOp,d,resolve,invoke,builtin,g,ho.len f o.type,Result.andThen];exact h
omit [DecidableEq κ] in
theorem EK (c:Operand)(t e:TypeId)(d:o.op=Op.range t c)(f:prog.underlying t=some (.map K e))(b:Nat)(m:κ→Option Value)(g:a.eval c=.map (some b))(h:B9 K enc ok w b m)
 (i:∀w' cnt,Ti K enc ok w' b w.heap.size m [] cnt→w.grownBy w' none→w'.heap.size=w.heap.size+1→K' (a.put o.dst (C1 w.heap.size)) w'):o.wp prog a w K' Q:=by
 obtain⟨D,ho,j⟩:=h;obtain⟨w',k,r1,r2,n⟩:=ho.range (Keyed.of_law E.law) f;unfold Oper.wp;simp[execOp,d,g,k,Result.andThen];exact i w' _ ⟨D,_,r1,j,⟨wL,fun {v l} _ _=>by cases Maps.has D l <;> simp⟩,by simp⟩ r2 n
end
set_option linter.unusedSimpArgs false
theorem SH {w:World}{g:Nat}{r:Row}(h:C2 w g (Ai r) 154)(_:r.length≤6):Qy w (.slice (some ⟨g,1,none⟩) r.length 6) r:=by
 refine⟨g,1,6,rfl,Aa h,fun i x a j y b=>?_⟩;have hi:=(tR.1 a).1;have c:=(tR.1 b).1;rw[Gv] at c;rw[Af h,Qt r (by omega) c];have:Aj r i=x:=by have:=Ka hi;rw[a] at this;exact (by simpa using this.symm)
 rw[this];exact b
theorem EL (b o:Nat)(il:Bool)(q r:Row)(w:World)(M:b<w.heap.size)(D:w.cell? ⟨b,o+4,none⟩=some (.bool il))(N:1≤q.length)(hr:1≤r.length)(O:q.length+r.length≤6) :
 Calls prog 257 #[.pointer (some ⟨b,o,none⟩),.agg (Ai q),.agg (Ai r)] w fun e w'=>e=.returned (.agg (Ai (if il then q++r else r++q)))∧Ab No w w':=by
 obtain⟨W,p⟩:∃W,((w.alloc (.cells (Ai q) 154)).alloc (.cells (Ai r) 154)).alloc (.cells #[.int .i64 0,D4,C4,C4,C4,C4,D2,D4,C4,C4,C4,C4,D2,D4,C4,C4,C4,C4,D2,D4,C4,C4,C4,C4,D2,D4,C4,C4,C4,C4,D2,D4,C4,C4,C4,C4,D2] 154)=W:=⟨_,rfl⟩;have z:W.heap[w.heap.size]? =some (.cells (Ai q) 154 (0,0)):=by rw[←p];exact (Below.heap_alloc _ _ _ (by simp;omega)).trans (heap_alloc2_old _ _ _)
 have i:W.heap[w.heap.size+1]? =some (.cells (Ai r) 154 (0,0)):=by rw[←p];exact (Below.heap_alloc _ _ _ (by simp)).trans (heap_alloc2_new _ _ _)
 have j:∃s:Array Value,W.heap[w.heap.size+2]? =some (.cells s 154 (0,0))∧s.size=37:=by
  have:=heap_alloc_last ((w.alloc (.cells (Ai q) 154)).alloc (.cells (Ai r) 154)) (.cells #[.int .i64 0,D4,C4,C4,C4,C4,D2,D4,C4,C4,C4,C4,D2,D4,C4,C4,C4,C4,D2,D4,C4,C4,C4,C4,D2,D4,C4,C4,C4,C4,D2,D4,C4,C4,C4,C4,D2] 154);have e:((w.alloc (.cells (Ai q) 154)).alloc (.cells (Ai r) 154)).heap.size=w.heap.size+2:=by simp
  rw[e,p] at this;exact⟨_,this,rfl⟩
 obtain⟨s,j,E⟩:=j;have A:Ab No w W:=by rw[←p];exact (((Ab.refl No w).alloc _).alloc _).alloc _
 have X:=(A.cell M xT).trans D;have F:=Ae z;have G:=Ae i;have H:=Ae j;have I:=Ae A;have P:W.cell? ⟨w.heap.size,0,none⟩=some (.int .i64 (q.length:Int)):=by rw[Af z];exact Ie q
 have Q:W.cell? ⟨w.heap.size+1,0,none⟩=some (.int .i64 (r.length:Int)):=by rw[Af i];exact Ie r
 have R:xR (∀w':World,w'.heap[w.heap.size]? =some (.cells (Ai q) 154 (0,0))→w'.cell? ⟨w.heap.size,0,none⟩=some (.int .i64 (q.length:Int))):=fun w' h=>by rw[Af h];exact Ie q
 have T:xR (∀w':World,w'.heap[w.heap.size+1]? =some (.cells (Ai r) 154 (0,0))→w'.cell? ⟨w.heap.size+1,0,none⟩=some (.int .i64 (r.length:Int))):=fun w' h=>by rw[Af h];exact Ie r
 have U:=Ae N;have V:=Ae hr;have J:=Ae O;have L:xR (∀(g:Nat) (x:Row) (w:World),w.heap[g]? =some (.cells (Ai x) 154 (0,0))→(loadVar 154 ⟨g,0,none⟩).run prog w=.ok (.agg (Ai x)) w):=fun g x w h=>run_loadVar_row w g 154 154 (Ai x) (0,0) _ h underlying154 rfl (by rw[Bd];exact Cp);clear z i j A D P Q;have a1:(0:Int)≤(q.length:Int):=by omega
 have a2:(q.length:Int)≤6:=by omega
 have a3:(0:Int)≤(r.length:Int):=by omega
 have a4:(r.length:Int)≤6:=by omega
 cases il with
 |true =>
  change Calls prog 257 #[.pointer (some ⟨b,o,none⟩),.agg (Ai q),.agg (Ai r)] w fun e w'=>e=.returned (.agg (Ai (q++r)))∧Ab No w w';go_enter func257,ntmps257;go_wp2_with (first
   |(rw[p])
   |fail)
  refine wp_region_held_drew (S:=fun w'=>w'.heap[w.heap.size]? =some (.cells (Ai q) 154 (0,0))∧w'.heap[w.heap.size+1]? =some (.cells (Ai r) 154 (0,0))∧∃c1:Array Value,w'.heap[w.heap.size+2]? =some (.cells c1 154 (0,0))∧c1.size=37) (by kernel_rfl) ⟨F.o,G.o,s,H.o,E⟩ (fun a=>?_);refine Ha 0 (.agg (Ai q)) 154 (.tmp 4) (w.heap.size) (0) (fun w h=>L.o _ _ w h.1) a ?_;refine An 1 (.pointer (some ⟨w.heap.size+1,1,none⟩)) a ?_;refine An 2 (C1 (w.heap.size+1)) a ?_;refine Iq 3 (.int .i64 (r.length:Int)) 3 (.tmp 13) (w.heap.size+1) (0) (fun w h=>T.o w h.2.1) a ?_
  try simp only[Act.put,Ar,As,Au,Av,Aw,Ax]
  refine An 4 (.slice (some ⟨w.heap.size+1,1,none⟩) r.length 6) a ?_;refine C0 5 (fun K d=>?_);go_simp;go_call Rx q r _ _ (SH a.2.1 (by omega)) V.o (by have:=J.o;omega) as e w3 ⟨rfl,f⟩;have t:w3.heap[w.heap.size]? =some (.cells (Ai q) 154 (0,0))∧w3.heap[w.heap.size+1]? =some (.cells (Ai r) 154 (0,0))∧∃c1:Array Value,w3.heap[w.heap.size+2]? =some (.cells c1 154 (0,0))∧c1.size=37:=⟨(f.block _ (Aa a.1) xT).trans a.1,(f.block _ (Aa a.2.1) xT).trans a.2.1,by obtain⟨c1,i,j⟩:=a.2.2;exact⟨c1,(f.block _ (Aa i) xT).trans i,j⟩⟩;have B:xR (Ab No w w3):=I.o.seq (((Ab.refl No W).drew).seq f);refine d.out _ _ t (fun a=>?_);clear d K f
  refine C0 6 (fun K d=>?_);rw[if_pos (by kernel_rfl)];obtain⟨c1,l,C⟩:=a.2.2;refine wp_store_row 154 (.tmp 6) (.tmp 16) (by kernel_rfl) (w.heap.size+2) (Ai (q++r)) (by kernel_rfl) (by kernel_rfl) 154 c1 l (by rw[Bd];exact Cp) (by rw[C];rfl) (Ht _) ?_;have m:=Bs (Ab.refl (fun k=>k=w.heap.size+2) w3) (g:=w.heap.size+2) (.inr rfl) (Ai (q++r));have n:=Cj (c:=Ai (q++r)) l;have u:=Ae n;have v:xR (Ab No w (w3.setRow (w.heap.size+2) (Ai (q++r)))):=Bs B.o (.inl (by omega)) _;have y:(w3.setRow (w.heap.size+2) (Ai (q++r))).heap[w.heap.size]? =some (.cells (Ai q) 154 (0,0))∧(w3.setRow (w.heap.size+2) (Ai (q++r))).heap[w.heap.size+1]? =some (.cells (Ai r) 154 (0,0))∧∃c1:Array Value,(w3.setRow (w.heap.size+2) (Ai (q++r))).heap[w.heap.size+2]? =some (.cells c1 154 (0,0))∧c1.size=37:=⟨(m.block _ (Aa a.1) (by omega)).trans a.1,(m.block _ (Aa a.2.1) (by omega)).trans a.2.1,_,n,rfl⟩;refine d.out _ _ y (fun a=>?_);clear d K y t m n a l;refine wpAnyH_done (by kernel_rfl) ?_ _;generalize w3.setRow (w.heap.size+2) (Ai (q++r))=w4 at u v⊢
  try simp only[Act.put,Ar,As,Au,Av,Aw,Ax]
  go_wp21
  (try simp only[Exit.inBlock,Exit.then])
  refine bodyPost_ret (results_cell_row rfl _ _ (w.heap.size+2) 154 (Ai (q++r)) (0,0) _ rfl u.o underlying154 rfl (by rw[Bd];exact Cp)) rfl ?_;exact⟨rfl,v.o⟩
 |false =>
  change Calls prog 257 #[.pointer (some ⟨b,o,none⟩),.agg (Ai q),.agg (Ai r)] w fun e w'=>e=.returned (.agg (Ai (r++q)))∧Ab No w w';go_enter func257,ntmps257;go_wp2_with (first
   |(rw[p])
   |fail)
  refine wp_region_held_drew (S:=fun w'=>w'.heap[w.heap.size]? =some (.cells (Ai q) 154 (0,0))∧w'.heap[w.heap.size+1]? =some (.cells (Ai r) 154 (0,0))∧∃c1:Array Value,w'.heap[w.heap.size+2]? =some (.cells c1 154 (0,0))∧c1.size=37) (by kernel_rfl) ⟨F.o,G.o,s,H.o,E⟩ (fun a=>?_);refine Ha 0 (.agg (Ai r)) 154 (.tmp 5) (w.heap.size+1) (0) (fun w h=>L.o _ _ w h.2.1) a ?_;refine An 1 (.pointer (some ⟨w.heap.size,1,none⟩)) a ?_;refine An 2 (C1 w.heap.size) a ?_;refine Iq 3 (.int .i64 (q.length:Int)) 3 (.tmp 19) (w.heap.size) (0) (fun w h=>R.o w h.1) a ?_
  try simp only[Act.put,Ar,As,Au,Av,Aw,Ax]
  refine An 4 (.slice (some ⟨w.heap.size,1,none⟩) q.length 6) a ?_;refine C0 5 (fun K d=>?_);go_simp;go_call Rx r q _ _ (SH a.1 (by omega)) U.o (by have:=J.o;omega) as e w3 ⟨rfl,f⟩;have t:w3.heap[w.heap.size]? =some (.cells (Ai q) 154 (0,0))∧w3.heap[w.heap.size+1]? =some (.cells (Ai r) 154 (0,0))∧∃c1:Array Value,w3.heap[w.heap.size+2]? =some (.cells c1 154 (0,0))∧c1.size=37:=⟨(f.block _ (Aa a.1) xT).trans a.1,(f.block _ (Aa a.2.1) xT).trans a.2.1,by obtain⟨c1,i,j⟩:=a.2.2;exact⟨c1,(f.block _ (Aa i) xT).trans i,j⟩⟩;have B:xR (Ab No w w3):=I.o.seq (((Ab.refl No W).drew).seq f);refine d.out _ _ t (fun a=>?_);clear d K f
  refine C0 6 (fun K d=>?_);rw[if_pos (by kernel_rfl)];obtain⟨c1,l,C⟩:=a.2.2;refine wp_store_row 154 (.tmp 6) (.tmp 22) (by kernel_rfl) (w.heap.size+2) (Ai (r++q)) (by kernel_rfl) (by kernel_rfl) 154 c1 l (by rw[Bd];exact Cp) (by rw[C];rfl) (Ht _) ?_;have m:=Bs (Ab.refl (fun k=>k=w.heap.size+2) w3) (g:=w.heap.size+2) (.inr rfl) (Ai (r++q));have n:=Cj (c:=Ai (r++q)) l;have u:=Ae n;have v:xR (Ab No w (w3.setRow (w.heap.size+2) (Ai (r++q)))):=Bs B.o (.inl (by omega)) _;have y:(w3.setRow (w.heap.size+2) (Ai (r++q))).heap[w.heap.size]? =some (.cells (Ai q) 154 (0,0))∧(w3.setRow (w.heap.size+2) (Ai (r++q))).heap[w.heap.size+1]? =some (.cells (Ai r) 154 (0,0))∧∃c1:Array Value,(w3.setRow (w.heap.size+2) (Ai (r++q))).heap[w.heap.size+2]? =some (.cells c1 154 (0,0))∧c1.size=37:=⟨(m.block _ (Aa a.1) (by omega)).trans a.1,(m.block _ (Aa a.2.1) (by omega)).trans a.2.1,_,n,rfl⟩;refine d.out _ _ y (fun a=>?_);clear d K y t m n a l;refine wpAnyH_done (by kernel_rfl) ?_ _;generalize w3.setRow (w.heap.size+2) (Ai (r++q))=w4 at u v⊢
  try simp only[Act.put,Ar,As,Au,Av,Aw,Ax]
  go_wp21
  (try simp only[Exit.inBlock,Exit.then])
  refine bodyPost_ret (results_cell_row rfl _ _ (w.heap.size+2) 154 (Ai (r++q)) (0,0) _ rfl u.o underlying154 rfl (by rw[Bd];exact Cp)) rfl ?_;exact⟨rfl,v.o⟩
def Dm (c:Nat)(v:V)(S:Bag):Bag:=Cw (fun r=>decide (Aj r c=v)) S
theorem Wb (c:Nat)(v:V)(S d:Bag):Dm c v (S++d)=Dm c v S++Dm c v d:=Mq _ _ _
theorem JN {c:Nat}{v:V}{S a:Bag}(e:A9 S a):A9 (Dm c v S) (Dm c v a):=Iw e
theorem Ui {c:Nat}{v:V}{S:Bag}{q:Row}{t:Int}(h:Aj q c≠v):Dm c v (S++[(q,t)])=Dm c v S:=by
 rw[Wb];unfold Dm Cw;simp[h]
theorem VQ {c:Nat}{S:Bag}{q:Row}{t:Int}:Dm c (Aj q c) (S++[(q,t)])=Dm c (Aj q c) S++[(q,t)]:=by
 rw[Wb];unfold Dm Cw;simp
theorem Lx (c:Nat)(v:V)(S:Bag)(r:Row):cnt (Dm c v S) r=if Aj r c=v then cnt S r else 0:=by
 unfold Dm;rw[B1,J7,B1];by_cases h:Aj r c=v
 ·rw[if_pos h];refine Eg S fun e _=>?_;by_cases a:e.1=r
  ·subst a;simp[h]
  simp[a]
 rw[if_neg h];have:(fun x:Row=>if decide (Aj x c=v)=true then (if x=r then (1:Int) else 0) else 0)=fun _=>0:=by
  funext x;by_cases b:x=r
  ·subst b;simp[h]
  simp[b]
 rw[this,Nq]
def Qe (f:V→Option Nat):V→Option Value:=fun v=>(f v).map fun b=>.map (some b)
def JO (f:V→Option Nat)(v:V)(x:Option Nat):V→Option Nat:=fun u=>if u=v then x else f u
theorem SI (f:V→Option Nat)(v:V)(x:Option Nat):NG (Qe f) v (x.map fun b=>.map (some b))=Qe (JO f v x):=by
 funext u;unfold NG Qe JO;by_cases h:u=v <;> simp[h]
structure Qd (w:World) (O:Ow) (id m c:Nat) (L:Bag) (f:V→Option Nat):Prop where
 map:B9 133 Ex Mh w m (Qe f)
 own:O m=id
 bag:∀{v:V} {b:Nat},f v=some b→O b=id∧b≠m∧Ak w b (Ad (Dm c v L))∧Ad (Dm c v L)≠[]
 no:∀{v:V},Mh v→f v=none→Ad (Dm c v L)=[]
 inj:∀{v u:V} {b:Nat},f v=some b→f u=some b→v=u
def AM (hv:Value)(f:V→Option Nat)(k:Nat):Prop:=hv=.map (some k)∨∃v,f v=some k
def Ml (w:World)(O:Ow)(id:Nat)(hv:Value)(c:Nat)(S:Bag)(f:V→Option Nat):Prop:=(hv=.map none∧Ad S=[]∧∀v,f v=none)∨∃m,hv=.map (some m)∧Qd w O id m c S f
theorem Qd.lW {w w':World}{O d:Ow}{id m c:Nat}{L:Bag}{f:V→Option Nat}(h:Qd w O id m c L f)(a:∀k,k=m∨(∃v,f v=some k)→w'.heap[k]? =w.heap[k]?∧d k=O k):Qd w' d id m c L f :=
 ⟨h.map.A6 (a m (.inl rfl)).1,(a m (.inl rfl)).2.trans h.own,fun {v b} e=>⟨((a b (.inr ⟨v,e⟩)).2).trans (h.bag e).1,(h.bag e).2.1,(h.bag e).2.2.1.A6 (a b (.inr ⟨v,e⟩)).1,(h.bag e).2.2.2⟩,h.no,h.inj⟩
theorem Qd.eqv {w:World}{O:Ow}{id m c:Nat}{L a:Bag}{f:V→Option Nat}(h:Qd w O id m c L f)(e:A9 L a):Qd w O id m c a f:=by
 have d:∀v,Ad (Dm c v L)=Ad (Dm c v a):=fun v=>(JN e).canon;exact⟨h.map,h.own,fun {v b} g=>by rw[←d];exact h.bag g,fun {v} hv hf=>by rw[←d];exact h.no hv hf,h.inj⟩
theorem Ml.eqv {w:World}{O:Ow}{id c:Nat}{hv:Value}{L d:Bag}{f:V→Option Nat}(h:Ml w O id hv c L f)(e:A9 L d):Ml w O id hv c d f:=by
 rcases h with ⟨a,b,g⟩|⟨m,a,b⟩
 ·exact .inl ⟨a,by rw[←e.canon];exact b,g⟩
 exact .inr ⟨m,a,b.eqv e⟩
theorem Ml.lt {w:World}{O:Ow}{id c:Nat}{hv:Value}{L:Bag}{f:V→Option Nat}(h:Ml w O id hv c L f){k:Nat}(d:AM hv f k):k<w.heap.size∧O k=id:=by
 rcases h with ⟨b,a,g⟩|⟨m,b,a⟩
 ·rcases d with e|⟨v,e⟩
  ·rw[b] at e;cases e
  rw[g] at e;cases e
 rcases d with e|⟨v,e⟩
 ·rw[b] at e;have:m=k:=by simpa using e
  subst this;exact⟨a.map.lt,a.own⟩
 exact⟨(a.bag e).2.2.1.lt,(a.bag e).1⟩
theorem Ml.lW {w w':World}{O a:Ow}{id c:Nat}{hv:Value}{L:Bag}{f:V→Option Nat}(h:Ml w O id hv c L f)(d:∀k,AM hv f k→w'.heap[k]? =w.heap[k]?∧a k=O k):Ml w' a id hv c L f:=by
 rcases h with h|⟨m,b,g⟩
 ·exact .inl h
 exact .inr ⟨m,b,g.lW fun k i=>d k (by rcases i with rfl|e;exact .inl b;exact .inr e)⟩
theorem Ml.stab {w w':World}{O a:Ow}{id c:Nat}{hv:Value}{L:Bag}{f:V→Option Nat}(h:Ml w O id hv c L f)(b:∀k,k<w.heap.size→O k=id→w'.heap[k]? =w.heap[k]?∧a k=O k):Ml w' a id hv c L f :=
 h.lW fun k hB=>b k (h.lt hB).1 (h.lt hB).2
theorem Ml.is {w:World}{O:Ow}{id c:Nat}{hv:Value}{L:Bag}{f:V→Option Nat}(h:Ml w O id hv c L f):∃m,hv=.map m:=by
 rcases h with ⟨a,_⟩|⟨m,a,_⟩ <;> exact⟨_,a⟩
theorem Qd.step {w w':World}{O:Ow}{id m c:Nat}{L:Bag}{f g:V→Option Nat}{q:Row}{t:Int}(h:Qd w O id m c L f)(k:B9 133 Ex Mh w' m (Qe g))(a:∀v,v≠Aj q c→g v=f v)(l:∀v b,v≠Aj q c→f v=some b→w'.heap[b]? =w.heap[b]?)
 (i:∀b,g (Aj q c)=some b→O b=id∧b≠m∧Ak w' b (Ad (Dm c (Aj q c) (L++[(q,t)])))∧Ad (Dm c (Aj q c) (L++[(q,t)]))≠[]∧∀v,v≠Aj q c→f v≠some b)
 (n:g (Aj q c)=none→Ad (Dm c (Aj q c) (L++[(q,t)]))=[]):Qd w' O id m c (L++[(q,t)]) g:=by
 refine⟨k,h.own,fun {v b} e=>?_,fun {v} hv e=>?_,fun {v u b} e1 e2=>?_⟩
 ·by_cases hv:v=Aj q c
  ·subst hv;have:=i b e;exact⟨this.1,this.2.1,this.2.2.1,this.2.2.2.1⟩
  rw[a v hv] at e;rw[Ui (fun x=>hv x.symm)];have:=h.bag e;exact⟨this.1,this.2.1,this.2.2.1.A6 (l v b hv e),this.2.2.2⟩
 ·by_cases j:v=Aj q c
  ·subst j;exact n e
  rw[a v j] at e;rw[Ui (fun x=>j x.symm)];exact h.no hv e
 by_cases hv:v=Aj q c
 ·by_cases d:u=Aj q c
  ·rw[hv,d]
  rw[a u d] at e2;rw[hv] at e1;exact absurd e2 ((i b e1).2.2.2.2 u d)
 by_cases d:u=Aj q c
 ·rw[a v hv] at e1;rw[d] at e2;exact absurd e1 ((i b e2).2.2.2.2 v hv)
 rw[a v hv] at e1;rw[a u d] at e2;exact h.inj e1 e2
theorem Rz (w:World):(zeroValue 83).run prog w=.ok (.map none) w:=by kernel_rfl
theorem Wm.nN {ts:List Bool}{d es:Bag}(h:Wm (Ad d) es)(b:Gf ts d)(r:Row):cnt es r=0∨cnt es r=cnt d r:=by
 by_cases hr:∃e∈es,e.1=r
 ·obtain⟨e,a,rfl⟩:=hr;right;rw[T8 h.1 a,(h.2 e a).2.1,b.gU]
 left;exact Dq fun e a c=>hr ⟨e,a,c⟩
theorem nO {w:World}{O:Ow}{id m c:Nat}{L:Bag}{f:V→Option Nat}(h:Qd w O id m c L f):lU (Qe f) (Ad L).length:=by
 refine⟨(Ad L).map fun e=>Aj e.1 c,by simp,fun v hv=>?_⟩;unfold Qe at hv;cases hf:f v with
 |none=>rw[hf] at hv;cases hv
 |some b =>
  obtain⟨e,g⟩:=List.exists_mem_of_ne_nil _ (h.bag hf).2.2.2;have a:=E7 g;rw[Lx] at a;by_cases d:Aj e.1 c=v
  ·rw[if_pos d] at a;obtain⟨x,i,j⟩:=Gw a;exact uA.2 ⟨x,i,by rw[j,d]⟩
  rw[if_neg d] at a;exact absurd rfl a
end Go.Proofs.YtdinjjmcmfjbfaaGreatDoor
