import Derived.Test.YtdinjjmcmfjbfaaGreatDoorWyJ
import Derived.Laws.BytesString
set_option maxRecDepth 100000
set_option maxHeartbeats 4000000
namespace Go.Proofs.YtdinjjmcmfjbfaaGreatDoor
open Go.RowKit Go.Shelf
open Mo (V Row Bag cnt Af Al)
def Ed (e:Row×Int):List UInt8:=Dz e.1++(42::Lib.itoa e.2)
def D9:Nat→Bag→List UInt8
 |_,[]=>[]
 |i,e::es=>(if i=0 then [] else [59])++(Ed e++D9 (i+1) es)
def Bl (l:Bag):List UInt8:=D9 0 (Af l)
theorem V6 (es:Bag)(e:Row×Int):∀i,D9 i (es++[e])=D9 i es++((if i+es.length=0 then [] else [59])++Ed e):=by
 induction es with
 |nil=>intro i;simp[D9]
 |cons x r a=>intro i;simp[D9,a,Nat.add_assoc,Nat.add_comm 1]
structure IQ (us:List Bool) (l:Bag):Prop where
 ty:∀r,cnt l r≠0→G5 r∧r.map Mo.ty=us
 bd:∀r,-3000000000000≤cnt l r∧cnt l r≤3000000000000
 len:(Af l).length≤100000000000
theorem IQ.nw {us:List Bool}{l:Bag}(h:IQ us l)(r:Row):wrap64 (cnt l r)=cnt l r:=by
 have:=h.bd r
 unfold wrap64;omega
theorem LH {ops:Array Oper}{rest:List Oper}{o:Oper}{a:Act}{w:World}{Q:Exit→Act→World→Prop}(t b:TypeId)(x:Operand)(ho:o.op=.convert t b x)(c:o.guard=none)(v:Value)(d:a.eval x=v)(r:Value)(hr:(convert t b v).run Tryz.prog w=.ok r w)
 (h:wpList Tryz.prog ops Q rest (a.put o.dst r) w):wpList Tryz.prog ops Q (o::rest) a w:=by
 refine wpList_plain c fun _ e=>?_
 unfold Oper.wp execOp
 simp only[ho,d,Sem.run_bind,Sem.run_pure,Result.andThen_ok,hr]
 exact e _ _ h
theorem DT:∀(t:List UInt8) (s:ByteArray),(t.map fun (b:UInt8)=>(b.toNat:Int)).foldl (fun (r:ByteArray) (n:Int)=>r.push (UInt8.ofNat n.toNat)) s=⟨(s.data.toList++t).toArray⟩
 | [],s=>by simp
 |c::t,s=>by
  show (t.map fun (b:UInt8)=>(b.toNat:Int)).foldl _ (s.push (UInt8.ofNat ((c.toNat:Int)).toNat))=_
  rw[DT t]
  have:UInt8.ofNat ((c.toNat:Int)).toNat=c:=by simp
  rw[this]
  simp[ByteArray.push]
theorem V7 {w:World}{B:Nat}{v:Value}{t:List UInt8}(h:Dx w B v t):(convert 149 9 v).run Tryz.prog w=.ok (.string ⟨t.toArray⟩) w:=by
 rcases h.2 with ⟨rfl,c⟩|⟨g,cap,cur,rfl,_,hg,hc1,hc2,hc3,hc4⟩
 ·have:t=[]:=lP c
  subst this
  rw[run_convert_bytes_string w 149 9 5 none 0 0 Tryz.underlying149 Tryz.underlying5 Tryz.underlying9]
  rfl
 ·rw[run_convert_bytes_string w 149 9 5 (some ⟨g,0,none⟩) t.length cap Tryz.underlying149 Tryz.underlying5 Tryz.underlying9]
  have d:(loadCells ⟨g,0,none⟩ t.length).run Tryz.prog w=.ok ((t.map fun (b:UInt8)=>(b.toNat:Int)).map (Value.int .u8)).toArray w:=by
   have:=run_loadCells_list (P:=Tryz.prog) w ⟨g,0,none⟩ (Lib.byteCells t) (fun j x a=>by
    have e:(⟨g,0,none⟩:Addr).add j=⟨g,j,none⟩:=by unfold Addr.add;split <;> simp_all
    rw[e,Ae hg]
    rw[Nat.mul_one] at hc4
    rw[←hc4,lM] at a
    split at a
    ·simpa using a
    ·cases a)
   have e1:(Lib.byteCells t).length=t.length:=by simp[Lib.byteCells]
   rw[e1] at this
   rw[this]
   simp[Lib.byteCells]
  rw[run_bytesToString w ⟨g,0,none⟩ t.length cap _ d,DT]
  rfl
theorem V8 {us:List Bool}{l:Bag}(a:IQ us l){e:Row×Int}(b:e∈Af l):(Ed e).length≤160:=by
 have c:=(Mo.Aq l).Dl b;have f:=(Mo.Aq l).nz b
 rw[Mo.As] at c
 have hr:=(a.ty e.1 (by omega)).1
 have g:=a.bd e.1;have d:=Tt hr e.1.length (kZ _)
 rw[mK] at d
 have h:=Lib.itoa_length_le e.2 (by omega) (by omega)
 have i:=hr.1;unfold Ed Dz
 simp only[kU,lN,nB]
 omega
theorem V9 (l:Bag)(i:Nat)(e:Row×Int)(a:l[i]? =some e):D9 0 (l.take (i+1))=D9 0 (l.take i)++((if i=0 then [] else [59])++Ed e):=by
 have hi:=(kS.1 a).1
 rw[lL,a]
 show D9 0 (l.take i++[e])=_
 rw[V6]
 have:(l.take i).length=i:=by rw[lV];omega
 rw[this,lK]
theorem Tu {us:List Bool}{l:Bag}(a:IQ us l):∀i,i≤(Af l).length→(D9 0 ((Af l).take i)).length≤161*i
 |0,_=>by simp[D9]
 |i+1,hi=>by
  have c:=Tu a i (by omega)
  obtain⟨e,b⟩:∃e,(Af l)[i]? =some e:=⟨_,kT (by omega)⟩
  have d:=V8 a (kW b)
  rw[V9 _ i e b]
  simp only[kU]
  split
  ·simp;omega
  ·simp;omega
theorem Ut {w:World}{g k:Nat}{q:Row}(h:w.rangeAt g k (An q).toList):(loadVar 154 ⟨g,k,none⟩).run Tryz.prog w=.ok (.agg (An q)) w:=by
 have:=run_loadVar_mid w g k 154 (An q).toList _ h Tryz.underlying154 rfl (by rw[Kg];exact F3)
 simpa using this
theorem DU {us:List Bool}(b:Nat)(l:Bag)(w:World)(h:Aw w b l)(O:IQ us l)(bf:Lib.TabIs Tryz.prog w "internal/strconv.uint64pow10" .u64 Lib.pow10Tab) :
 Calls Tryz.prog 42 #[.map (some b)] w fun e w'=>e=.returned (.string ⟨(Bl l).toArray⟩)∧Ab No w w':=by
 have bg:oH (∀(C:World) (P:Nat),Ab No w C→P<C.heap.size→C.cell? ⟨P,0,none⟩=some (.map (some b))→Calls Tryz.prog 68 #[.func (.func 119) #[] #[.pointer (some ⟨P,0,none⟩)],.func (.func 70) #[] #[]] C fun e w'=>∃v,e=.returned v∧IH w' v (Kh l)∧Ab No C w') :=
  fun C P bv hB bw=>DP (us:=us) b l C (h.kept bv oI) (fun r hr=>by rw[O.nw];exact hr) O.ty O.len P hB bw
 have bh:=Ad h;have K:=Ad O;have bi:=Ad bf;clear h O bf
 go_enter Tryz.func42,Tryz.ntmps42
 go_wp2_with fail;refine (DN _ _).mono ?_;rintro e C ⟨rfl,rfl⟩;have ar:Ab No w (w.alloc (.cells #[.map (some b)] 83)):=(Ab.refl No w).alloc _
 have bj:=Ad (bg.o _ w.heap.size ar (by simp) (by rw[Ae (heap_alloc_last _ _)];rfl))
 clear bg;go_wp2_with fail;refine bj.o.mono ?_;rintro e f ⟨v,rfl,au,bk⟩;have D:Ab No w f:=ar.seq bk;have bx:=Ad D;have ag:=Ad (bh.o.kept D oI)
 have Q:oH (Lib.TabBelow Tryz.prog f.heap.size f "internal/strconv.uint64pow10" .u64 Lib.pow10Tab):=Lib.tabBelow_of_tabIs (bi.o|> fun h=>(Lib.tabBelow_of_tabIs h) f ⟨D.os,D.tape,D.output,D.size,fun i hi=>D.block i hi oI⟩)
 have bl:=Ad au
 obtain⟨va,_,bz⟩:∃a c,v=.slice a (Kh l).length c:=by
  rcases au with ⟨rfl,e⟩|⟨g,cap,rfl,_⟩
  ·rw[e];exact⟨_,_,rfl⟩
  ·exact⟨_,_,rfl⟩
 subst bz
 obtain⟨n,av⟩:∃n,(Kh l).length=n:=⟨_,rfl⟩
 have bm:=Ad av
 rw[av] at bl⊢
 obtain⟨aw,ax,ay,az,a0⟩:=info_parts II
 clear au bk ar D bj bh bi av;go_wp2_with fail
 go_loopg [3,10] n (fun k L b0 wr=>∃i:Nat,i+k=n∧b0=.int .i64 (i:Int)∧oH (Dx wr f.heap.size L (D9 0 ((Af l).take i)))∧oH (W8 f.heap.size f wr))
 case atStart=>exact⟨0,by omega,rfl,Ad (World.ownsRow_nil _ _ _ _),Ad (W8.refl _ _)⟩
 case round =>
  obtain⟨i,_,rfl,hO,s⟩:=hrel
  cases gk with
  |zero =>
   have b1:¬(i:Int)<(n:Int):=by omega
   have b2:oH ((Af l).take i=Af l):=lT (by have:=bm.o;unfold Kh at this;rw[lB] at this;omega)
   have b3:=Ad (V7 hO.o)
   have b4:oH (Ab No w wr):=bx.o.seq ⟨s.o.os,s.o.tape,s.o.output,s.o.size,fun j a1 _=>s.o.block j a1 (fun e=>by omega)⟩
   go_wp2_with (first
    |(refine LH 149 9 _ rfl rfl _ rfl _ b3.o ?_)
    |fail)
   go_ret
   refine⟨?_,b4.o⟩
   unfold Bl
   rw[b2.o]
   rfl
  |succ k =>
   have b1:(i:Int)<(n:Int):=by omega
   have cn:(0:Int)≤(i:Int):=by omega
   have b5:(Af l).length=n:=by have:=bm.o;unfold Kh at this;rw[lB] at this;exact this
   obtain⟨e,ah⟩:∃e,(Af l)[i]? =some e:=⟨_,kT (by omega)⟩
   have ai:=kW ah
   have R:cnt l e.1=e.2:=by have:=(Mo.Aq l).Dl ai;rw[Mo.As] at this;exact this
   have aj:=(Mo.Aq l).nz ai;have b6:=K.o.bd e.1
   have b7:=(K.o.ty e.1 (by rw[R];exact aj)).1
   obtain⟨q,c⟩:=e
   replace R:cnt l q=c:=R;replace aj:c≠0:=aj
   rw[R] at b6
   have ak:(Kh l)[i]? =some q:=by unfold Kh;rw[kX,ah];rfl
   rcases bl.o with ⟨_,a2⟩|⟨g,cap,a2,hg1,hg2,hg3,hg4⟩
   ·rw[a2] at ak;simp at ak
   injection a2 with e1 b8 b9
   subst e1 b9
   obtain⟨T,al⟩:∃T,D9 0 ((Af l).take i)=T:=⟨_,rfl⟩
   have ca:T.length≤161*i:=by rw[←al];exact Tu K.o i (by omega)
   have co:n≤100000000000:=by rw[←b5];exact K.o.len
   have bn:=Ad (V9 (Af l) i (q,c) ah);have bo:=Ad al
   rw[al] at hO
   have cb:=Ad (V8 K.o ai)
   have cp:(Dz q).length≤160:=by
    have:=cb.o
    unfold Ed at this
    simp only[kU,lN] at this
    omega
   obtain⟨m,am⟩:∃m,T.length=m:=⟨_,rfl⟩
   have S:=Ad am
   have a3:wr.ownsRow f.heap.size 5 1 u3 m (Lib.byteCells T):=by rw[←am];exact hO.o
   rw[am] at ca
   have cc:=s.o.size
   obtain⟨B,hB⟩:∃B,f.heap.size=B:=⟨_,rfl⟩
   have u:=Ad hB
   have bp:oH ((loadVar 154 ⟨g,i*37,none⟩).run Tryz.prog wr=.ok (.agg (An q)) wr):=Ut fun j x a1=>by
    have cd:¬(f.heap.size≤g∧Is 5 f g):=fun e=>by omega
    rw[Ab.cell s.o hg3 cd]
    exact hg4 i q ak j x a1
   have an:=Ad b7
   have bq:oH ((Cs l q).getD (.int .i64 0)=.int .i64 c):=by
    show _=_
    have ce:=K.o.nw q;unfold Cs
    rw[ce,R,if_neg aj];rfl
   clear al am ah ai hg4 ak hg1 hg2 b8
   rw[hB] at a3 hO s
   rw[hB] at Q cc
   obtain⟨d,U⟩:∃d,wr.alloc (.cells (An q) 154)=d:=⟨_,rfl⟩
   have br:d.heap[wr.heap.size]? =some (.cells (An q) 154 (0,0)):=by rw[←U];exact heap_alloc_last _ _
   have a4:W8 B f d:=s.o.trans (by rw[←U];exact W8.kept ((Ab.refl No wr).alloc _))
   have a5:d.ownsRow B 5 1 u3 m (Lib.byteCells T):=by rw[←U];exact a3.alloc _
   have M:B≤d.heap.size:=by rw[←hB];exact a4.size
   have ao:=Ad br;have E:=Ad a4;have bs:=Ad U
   have cf:∀(bt:List UInt8) (w3:World) (L:Value),bt.length≤161*i+1→W8 B d w3→Dx w3 B L bt→True:=fun _ _ _ _ _ _=>trivial
   clear U br a4 a3 cf
   by_cases ap:i=0
   ·have cg:¬(0:Int)<(i:Int):=by omega
    have a6:=Ad ap;clear ap
    have V:=Ad (Yq q an.o B u3 T d (by show d.ownsRow B _ 1 u3 T.length _;rw[S.o];exact a5) M (by rw[S.o];omega) (Q.o.on (E.o.below (by omega))))
    go_wp2_with (first
     |(refine Lf 154 _ rfl rfl g (i*37) rfl (.agg (An q)) bp.o ?_)
     |(refine Cw _ _ _ rfl rfl wr _ rfl rfl rfl q rfl ?_;rw[bs.o])
     |(refine D7 _ rfl rfl wr.heap.size rfl q ao.o ?_)
     |fail)
    have N:oH (W8 B d d):=W8.refl _ _
    have aq:oH (T.length≤161*i+1):=by show _≤_;rw[S.o];omega
    refine V.o.mono ?_;rintro e w4 ⟨a7,rfl,W,X⟩;have I:W8 B d w4:=N.o.trans X;have y:w4.ownsRow B 5 1 a7 (T++Dz q).length (Lib.byteCells (T++Dz q)):=W
    obtain⟨J,z⟩:∃J,(T++Dz q).length=J:=⟨_,rfl⟩
    have Y:=Ad z
    have ch:J≤161*i+1+160:=by
     rw[←z,kU]
     have:=aq.o
     omega
    rw[z] at y
    have ci:B≤w4.heap.size:=lH M I.size;have a8:=Ad I
    have cj:b<B:=by rw[←u.o];exact ag.o.lt
    clear z W X V I
    go_wp2_with (first
     |(at_builtin;refine wpList_append_own_at _ rfl _ _ 149 rfl B 5 aw (.int .u8 0) 1 1 Tryz.underlying149 ax ay az a0 rfl (by decide) _ _ _ rfl (y.alloc _) ⟨w4.heap.size,0,none⟩ 1 1 [.int .u8 42] rfl rfl (World.news_of_block (cs:=#[.int .u8 42]) (t:=5) (fr:=(0,0)) (heap_alloc_last w4 _)) (by intro bu F;simp at F;subst F;rfl) (by unfold maxLen;omega) (by omega) (by simp;omega) ?_;intro Z w5 G H _ _;have p:oH (W8 B d w5):=(a8.o.trans (W8.kept ((Ab.refl No w4).alloc _))).grown (y.alloc _) H;have aa:oH (Dx w5 B Z (T++Dz q++[42])):=Dx.snoc G Y.o;have a9:=Ad (p.o.row ao.o);have ba:oH (Aw w5 b l):=ag.o.kept (E.o.trans p.o) (fun e=>by have:=e.1;omega);clear G H)
     |(refine D7 _ rfl rfl wr.heap.size rfl q a9.o ?_)
     |(at_lookup;refine Db _ I8 rfl _ _ 83 2 rfl Tryz.underlying83 (.int .i64 0) (Og _) b (Cs l) rfl ba.o.2 q an.o rfl (.int .i64 c) bq.o ?_)
     |fail)
    have bb:B≤w5.heap.size:=lH M p.o.size
    obtain⟨o,A⟩:∃o:List UInt8,T++Dz q++[42]=o:=⟨_,rfl⟩
    have ck:o.length≤161*i+1+160+1:=by rw[←A,kU,Y.o];simp;omega
    rw[A] at aa
    have ab:=Ad (Tryz.strconv_AppendInt_10 B o.length c (by omega) (by omega) Z (Lib.byteCells o) w5 aa.o bb (by omega) (Q.o.on ((E.o.trans p.o).below (by rw[u.o];exact kZ _))))
    refine ab.o.mono ?_;rintro e w6 ⟨ac,rfl,ad,ae,af⟩
    have bc:oH (Dx w6 B ac (T++Ed (q,c))):=by
     have bd:T++Ed (q,c)=o++Lib.itoa c:=by rw[←A];unfold Ed;simp
     show w6.ownsRow B _ 1 ac (T++Ed (q,c)).length (Lib.byteCells (T++Ed (q,c)))
     rw[bd,kU,Lib.byteCells_append];exact ad
    have be:oH (W8 B f w6):=(E.o.trans p.o).trans (W8.of ae af);clear ad ae af ab y A;go_wp2_with fail;go_roundg k
    case measure=>omega
    case rel =>
     refine⟨i+1,by omega,by go_num,?_,by rw[u.o];exact be⟩
     show Dx _ _ _ _
     rw[u.o,bn.o]
     rw[if_pos a6.o,mU,bo.o]
     exact bc.o
   ·have cg:(0:Int)<(i:Int):=by omega
    have a6:=Ad ap;clear ap
    go_wp2_with (first
     |(refine Lf 154 _ rfl rfl g (i*37) rfl (.agg (An q)) bp.o ?_)
     |(refine Cw _ _ _ rfl rfl wr _ rfl rfl rfl q rfl ?_;rw[bs.o])
     |(at_builtin;refine wpList_append_own_at _ rfl _ _ 149 rfl B 5 aw (.int .u8 0) 1 1 Tryz.underlying149 ax ay az a0 rfl (by decide) _ _ _ rfl (a5.alloc _) ⟨d.heap.size,0,none⟩ 1 1 [.int .u8 59] rfl rfl (World.news_of_block (cs:=#[.int .u8 59]) (t:=5) (fr:=(0,0)) (heap_alloc_last d _)) (by intro bu F;simp at F;subst F;rfl) (by unfold maxLen;omega) (by omega) (by simp;omega) ?_;intro L w3 G H _ _;have N:oH (W8 B d w3):=(W8.kept ((Ab.refl No d).alloc _)).grown (a5.alloc _) H;have cl:oH (Dx w3 B L (T++[59])):=Dx.snoc G S.o;have cm:=Ad (N.o.row ao.o);clear G H)
     |(refine D7 _ rfl rfl wr.heap.size rfl q cm.o ?_)
     |fail)
    have aq:oH ((T++[59]).length≤161*i+1):=by show _≤_;rw[kU,S.o];simp;omega
    have V:=Ad (Yq q an.o B L (T++[59]) w3 cl.o (lH M N.o.size) (by have:=aq.o;omega) (Q.o.on ((E.o.trans N.o).below (by rw[u.o];exact kZ _))))
    refine V.o.mono ?_;rintro e w4 ⟨a7,rfl,W,X⟩;have I:W8 B d w4:=N.o.trans X;have y:w4.ownsRow B 5 1 a7 ((T++[59])++Dz q).length (Lib.byteCells ((T++[59])++Dz q)):=W
    obtain⟨J,z⟩:∃J,((T++[59])++Dz q).length=J:=⟨_,rfl⟩
    have Y:=Ad z
    have ch:J≤161*i+1+160:=by
     rw[←z,kU]
     have:=aq.o
     omega
    rw[z] at y
    have ci:B≤w4.heap.size:=lH M I.size;have a8:=Ad I
    have cj:b<B:=by rw[←u.o];exact ag.o.lt
    clear z W X V I
    go_wp2_with (first
     |(at_builtin;refine wpList_append_own_at _ rfl _ _ 149 rfl B 5 aw (.int .u8 0) 1 1 Tryz.underlying149 ax ay az a0 rfl (by decide) _ _ _ rfl (y.alloc _) ⟨w4.heap.size,0,none⟩ 1 1 [.int .u8 42] rfl rfl (World.news_of_block (cs:=#[.int .u8 42]) (t:=5) (fr:=(0,0)) (heap_alloc_last w4 _)) (by intro bu F;simp at F;subst F;rfl) (by unfold maxLen;omega) (by omega) (by simp;omega) ?_;intro Z w5 G H _ _;have p:oH (W8 B d w5):=(a8.o.trans (W8.kept ((Ab.refl No w4).alloc _))).grown (y.alloc _) H;have aa:oH (Dx w5 B Z ((T++[59])++Dz q++[42])):=Dx.snoc G Y.o;have a9:=Ad (p.o.row ao.o);have ba:oH (Aw w5 b l):=ag.o.kept (E.o.trans p.o) (fun e=>by have:=e.1;omega);clear G H)
     |(refine D7 _ rfl rfl wr.heap.size rfl q a9.o ?_)
     |(at_lookup;refine Db _ I8 rfl _ _ 83 2 rfl Tryz.underlying83 (.int .i64 0) (Og _) b (Cs l) rfl ba.o.2 q an.o rfl (.int .i64 c) bq.o ?_)
     |fail)
    have bb:B≤w5.heap.size:=lH M p.o.size
    obtain⟨o,A⟩:∃o:List UInt8,(T++[59])++Dz q++[42]=o:=⟨_,rfl⟩
    have ck:o.length≤161*i+1+160+1:=by rw[←A,kU,Y.o];simp;omega
    rw[A] at aa
    have ab:=Ad (Tryz.strconv_AppendInt_10 B o.length c (by omega) (by omega) Z (Lib.byteCells o) w5 aa.o bb (by omega) (Q.o.on ((E.o.trans p.o).below (by rw[u.o];exact kZ _))))
    refine ab.o.mono ?_;rintro e w6 ⟨ac,rfl,ad,ae,af⟩
    have bc:oH (Dx w6 B ac ((T++[59])++Ed (q,c))):=by
     have bd:(T++[59])++Ed (q,c)=o++Lib.itoa c:=by rw[←A];unfold Ed;simp
     show w6.ownsRow B _ 1 ac ((T++[59])++Ed (q,c)).length (Lib.byteCells ((T++[59])++Ed (q,c)))
     rw[bd,kU,Lib.byteCells_append];exact ad
    have be:oH (W8 B f w6):=(E.o.trans p.o).trans (W8.of ae af);clear ad ae af ab y A;go_wp2_with fail;go_roundg k
    case measure=>omega
    case rel =>
     refine⟨i+1,by omega,by go_num,?_,by rw[u.o];exact be⟩
     show Dx _ _ _ _
     rw[u.o,bn.o]
     rw[if_neg a6.o,bo.o]
     have:=bc.o
     simpa using this
attribute [local go_sem] Oper.semAt_some in
theorem UD (F:Fence)(n:Nat)(b:F.fn 119)(c:F.round=none)(a N:Nat)(w:World)(d:a<w.heap.size)(f:w.cell? ⟨a,0,none⟩=some (.map none)) :
 SeqStopsK F n Tryz.prog 119 #[.pointer (some ⟨a,0,none⟩)] NX KeepsWalks (fun xs=>xs=[]) (fun _=>True) N w:=fun l j k W g h _ m i=>by
 have o:W.cell? ⟨a,0,none⟩=some (.map none):=(g.cell (p:=⟨a,0,none⟩) d).trans f;have q:=run_range_nilMap (P:=Tryz.prog) W 83 154 2 Tryz.underlying83
 have s:∀ty,(Instr.next (.pointer (some ⟨W.heap.size,0,none⟩)) false ty).run Tryz.prog (W.alloc (.mapIter none 0 #[] 0))=_:=fun ty=>run_next_nilMap W ty 0 0 #[]
 refine callsIn_of_wp Tryz.func119 rfl b ?_ c
 simp only[Tryz.ntmps119,List.size_toArray,lN,nB,Nat.reduceAdd,Nat.reduceSub,Array.replicate_succ,Array.replicate_zero,List.push_toArray,List.append_toArray,mU,List.cons_append]
 gi_wp2
 gi_loopw [6] (fun _ wr=>wr=W.alloc (.mapIter none 0 #[] 0)) (fun _ _=>0)
 case atStart=>rfl
 case round =>
  subst hrel
  gi_wp2
  go_end0
  exact⟨⟨_,rfl⟩,.inl ⟨[],rfl,h [] W _ none i (World.grownBy_alloc W _ none) (fun r e=>by cases e)⟩⟩
theorem IR (w:World)(b:Nat)(j:b<w.heap.size)(c:w.cell? ⟨b,0,none⟩=some (.map none)) :
 Calls Tryz.prog 68 #[.func (.func 119) #[] #[.pointer (some ⟨b,0,none⟩)],.func (.func 70) #[] #[]] w fun e w'=>e=.returned (.slice none 0 0)∧Ab No w w':=by
 have d:=UD Fence.wide 9 trivial rfl b 0 w j c
 have f:=Ad (Ug #[.pointer (some ⟨b,0,none⟩)] (fun xs=>xs=[]) 0 (by omega) w d)
 clear d c
 go_enter Tryz.func68,Tryz.ntmps68
 go_wp2_with fail;refine f.o.mono ?_;rintro e k ⟨v,xs,rfl,g,l,h,a⟩
 have m:oH (Ab No w k):=⟨a.os,a.tape,a.output,a.size,fun i hi _=>a.block i hi⟩
 obtain rfl:=h.2 g;clear l h a g f;go_wp2_with fail;refine (AnyF.slices_SortFunc_none Tryz.AH none 0 _ _).mono ?_;rintro e n ⟨rfl,rfl⟩;go_wp2_with fail;go_ret
 exact⟨rfl,m.o⟩
theorem DV (w:World):Calls Tryz.prog 42 #[.map none] w fun e w'=>e=.returned (.string ⟨#[]⟩)∧Ab No w w':=by
 go_enter Tryz.func42,Tryz.ntmps42
 go_wp2_with fail;refine (DN _ _).mono ?_;rintro e h ⟨rfl,rfl⟩;have a:Ab No w (w.alloc (.cells #[.map none] 83)):=(Ab.refl No w).alloc _
 have b:=Ad (IR (w.alloc (.cells #[.map none] 83)) w.heap.size (by simp) (by rw[Ae (heap_alloc_last _ _)];rfl))
 have d:=Ad a;clear a;go_wp2_with fail;refine b.o.mono ?_;rintro e i ⟨rfl,c⟩;have f:=Ad (d.o.seq c)
 have g:oH (∀W:World,(convert 149 9 (.slice none 0 0)).run Tryz.prog W=.ok (.string ⟨#[]⟩) W):=fun W=>V7 (B:=0) (t:=[]) (World.ownsRow_nil _ _ _ _)
 clear c b;go_wp2_with fail;refine wp_loop_rounds 1 ?_
 rw[rounds_succ]
 go_wp2_with (first
  |(refine LH 149 9 _ rfl rfl _ rfl _ (g.o _) ?_)
  |fail)
 go_ret
 exact⟨rfl,f.o⟩
theorem Ui {us:List Bool}(v:Value)(l:Bag)(w:World)(h:Gf w v l)(a:IQ us l)(c:Se w) :
 Calls Tryz.prog 42 #[v] w fun e w'=>e=.returned (.string ⟨(Bl l).toArray⟩)∧Ab No w w':=by
 rcases h with ⟨rfl,rfl⟩|⟨b,rfl,h⟩
 ·exact DV w
 ·exact DU b l w h a c
open Go.RowKit
open Mo (V Row)
structure E5 where
 name:List UInt8
 row:Row
 t:Int
def D0 (s:ByteArray)(a:Nat):Bool×Nat:=Pl.Qs (Pl.A5 s) (Pl.Cl s) a
def Hj (s:ByteArray)(a:Nat):V:=if (Pl.A5 s a).1=true then .txt (G3 s a (Pl.A5 s a).2) else .num (Gb (G3 s a (Pl.Cl s a).2))
def Dg (s:ByteArray):Nat→Nat→Row→Option (Row×Nat)
 |0,_,_=>none
 |k+1,a,r=>if (D0 s a).1=true then
   (if Pl.bt s (D0 s a).2=44 then Dg s k ((D0 s a).2+1) (r++[Hj s a])
    else if Pl.bt s (D0 s a).2=41 then some (r++[Hj s a],(D0 s a).2+1) else none)
  else none
def Dh (s:ByteArray)(a:Nat):Int:=if Pl.bt s a=43 then 1 else -1
def Dm (s:ByteArray):Nat→Nat→List E5→Option (List E5)
 |0,_,_=>none
 |k+1,a,l=>if Pl.bt s a=43∨Pl.bt s a=45 then
   (if (Pl.A5 s (a+1)).1=true then
     (if Pl.bt s (Pl.A5 s (a+1)).2=40 then
       (match Dg s (s.size+1) ((Pl.A5 s (a+1)).2+1) [] with
        |none=>none
        |some (r,d)=>if d=s.size then some (l++[⟨G3 s (a+1) (Pl.A5 s (a+1)).2,r,Dh s a⟩])
         else if Pl.bt s d=59 then Dm s k (d+1) (l++[⟨G3 s (a+1) (Pl.A5 s (a+1)).2,r,Dh s a⟩]) else none)
      else none)
    else none)
  else none
def Ci (s:ByteArray):Option (List E5):=if s.size=0 then some [] else Dm s (s.size+1) 0 []
theorem LI {s:ByteArray}{a:Nat}(h:¬(Pl.A5 s a).1=true):(Pl.A5 s a).2=a:=by
 unfold Pl.A5 Pl.Ua at h⊢;have b:=Pl.Mx s 97 122 4 a
 have c:¬a<Pl.Dk s 97 122 4 a:=by simpa using h
 show Pl.Dk s 97 122 4 a=a;omega
def eA (B P:Nat)(s:ByteArray)(w:World)(a:Nat)(e:Ending)(w':World):Prop :=
 ∃ok a' d,D0 s a=(ok,a')∧e=.returned (.bool ok)∧RP B s a' w'∧Ab (fun k=>k=B∨k=P) w w'∧w'.heap[P]? =some (.cells d 133 (0,0))∧(ok=true→d=(Au (Hj s a)).toArray)
theorem DW (c:Array Value)(v:V)(a:c.size=6):Rt c 0 v=(Au v).toArray:=by
 obtain⟨l⟩:=c
 match l,a with
 | [a0,a1,_,_,_,a5],_=>rfl
theorem OH (B P:Nat)(s:ByteArray)(a:Nat)(c:Array Value)(w:World)(f:s.size≤1000)(g:P≠B)(h:RP B s a w)(i:w.heap[P]? =some (.cells c 133 (0,0)))(r:c.size=6) :
 Calls Tryz.prog 77 #[.pointer (some ⟨B,0,none⟩),.pointer (some ⟨P,0,none⟩)] w (eA B P s w a):=by
 have t:=Ad h;have u:=Ad i;have d:=Ad r;clear h i
 go_enter Tryz.func77,Tryz.ntmps77
 go_wp2_with fail
 refine (Qh B P 0 s a c 133 _ f g t.o u.o (by omega)).mono ?_
 rintro e D ⟨ok1,a1,j,rfl,p1,k,c1⟩;have b:=Ad j;have l:=Ad p1;have m:=Ad k;have n:=Ad c1;clear j p1 k c1
 cases ok1
 ·have v:a1=a:=by have:=LI (s:=s) (a:=a) (by rw[b.o];simp);rw[b.o] at this;exact this
  subst v;go_wp2_with fail
  refine (Ns B P 0 s a1 _ 133 _ f g l.o n.o (by unfold dF;rw[if_neg (by simp),L0];have:=d.o;omega)).mono ?_
  rintro e E ⟨ok2,x,o,rfl,p2,p,c2⟩;have q:=Ad o;have y:=Ad p2;have z:=Ad p;have A:=Ad c2;clear o p2 p c2;go_wp2_with fail;go_ret
  refine⟨ok2,x,_,?_,rfl,y.o,m.o.seq z.o,A.o,fun C=>?_⟩
  ·unfold D0;rw[Pl.Fb b.o];exact q.o
  ·subst C
   unfold gJ dF Hj
   rw[b.o,q.o]
   simp only[if_true,Bool.false_eq_true,if_false]
   exact DW _ _ (by rw[L0];exact d.o)
 ·go_wp2_with fail
  go_ret
  refine⟨true,a1,_,?_,rfl,l.o,m.o,n.o,fun _=>?_⟩
  ·unfold D0;rw[Pl.G9 b.o]
  ·unfold dF Hj
   rw[b.o]
   simp only[if_true]
   exact DW _ _ d.o
theorem UE (B P o:Nat)(s:ByteArray)(a:Nat)(c:Array Value)(t:TypeId)(w:World)(r:s.size≤1000)(f:P≠B)(h:RP B s a w)(g:w.heap[P]? =some (.cells c t (0,0)))(H:o<c.size) :
 Calls Tryz.prog 74 #[.pointer (some ⟨B,0,none⟩),.pointer (some ⟨P,o,none⟩)] w (WP B P s w (Pl.Qs (Pl.tk s 43) (Pl.tk s 45) a) t (fun _ _=>c.setIfInBounds o (.int .i64 (Dh s a)))):=by
 have I:=Ad h;have J:=Ad g;have K:=Aa g;clear h g
 go_enter Tryz.func74,Tryz.ntmps74
 go_wp2_with fail
 refine (A4 B s a 43 43 _ r (by omega) rfl I.o).mono ?_
 rintro e b ⟨ok,a1,i,rfl,p1,j⟩;have d:oH (b.heap[P]? =some (.cells c t (0,0))):=(j.block P K f).trans J.o;have l:=Ad i
 have u:oH (Ab (fun k=>k=B∨k=P) w b):=j.mono (fun _ _ e=>.inl e)
 have x:=Ad p1
 have L:b.cell? ⟨P,o,none⟩=some c[o]:=by rw[Ae d.o,lE H]
 have M:b.frozen? ⟨P,o,none⟩=false:=Aj d.o o
 have y:oH (ok=decide (Pl.bt s a=43)):=by
  have:=i;unfold Pl.tk at this;show _=_
  split at this
  ·rename_i m;injection this with n _;rw[←n];simp[m]
  ·rename_i m;injection this with n _;rw[←n];simp[m]
 clear i p1 j
 have z:∀v,RP B s a1 (b.setCell ⟨P,o,none⟩ v):=fun v=>⟨x.o.1,(Below.heap_setCell _ _ _ _ (fun e=>f e.symm)).trans x.o.2⟩
 have A:=Ad z;clear z
 cases ok
 ·have p:oH (Dh s a= -1):=by
   show _=_;have:=y.o;unfold Dh;rw[if_neg (by simpa using this.symm)]
  have N:oH (a1=a):=by
   have:=l.o;unfold Pl.tk at this;show _=_
   split at this
   ·cases this
   ·injection this with _ O;exact O.symm
  go_wp2_with fail
  refine (A4 B s a1 45 45 _ r (by omega) rfl (A.o (.int .i64 (-1)))).mono ?_
  rintro e T ⟨ok2,Q,C,rfl,p2,D⟩;have R:=Ad C;have S:=Ad p2;have E:=Ad D;clear C p2 D L M;go_wp2_with fail;go_ret;have F:=l.o;have G:=R.o
  rw[N.o] at F G
  have q:Ab (fun k=>k=B∨k=P) b (b.setCell ⟨P,o,none⟩ (.int .i64 (-1))):=(Ab.refl _ _).setCell (.inr (.inr rfl)) _
  refine⟨ok2,Q,?_,rfl,S.o,(u.o.seq q).seq (E.o.mono (fun _ _ e=>.inl e)),?_⟩
  ·rw[Pl.Fb F];exact G
  ·rw[p.o,E.o.block P (by have:=Aa d.o;simpa [World.setCell] using this) f]
   exact Ap d.o o _
 ·have p:oH (Dh s a=1):=by
   show _=_;have:=y.o;unfold Dh;rw[if_pos (by simpa using this.symm)]
  go_wp2_with fail;go_ret
  have q:Ab (fun k=>k=B∨k=P) b (b.setCell ⟨P,o,none⟩ (.int .i64 1)):=(Ab.refl _ _).setCell (.inr (.inr rfl)) _
  refine⟨true,a1,?_,rfl,A.o _,u.o.seq q,?_⟩
  ·rw[Pl.G9 l.o]
  ·rw[p.o];exact Ap d.o o _
open Go.Maps (Keyed)
section
variable {w:World} {o:Oper} {a:Act} {K':Act→World→Prop} {Q:Exit→Act→World→Prop} {κ:Type} [DecidableEq κ] {K:TypeId} {enc:κ→Value} {ok:κ→Prop} (E:KE K enc ok)
include E
omit [DecidableEq κ] in
omit [DecidableEq κ] in
omit [DecidableEq κ] in
omit [DecidableEq κ] in
end
set_option linter.unusedSimpArgs false
open Mo (V Row Bag cnt Af Be B0 Fw Al)
open Mo (V Row Bag cnt Af Be B0 Fw Al Cr)
def Nb (c:Nat)(v:V)(S:Bag):Bag:=Cr (fun r=>decide (Al r c=v)) S
theorem DX (c:Nat)(v:V)(S d:Bag):Nb c v (S++d)=Nb c v S++Nb c v d:=Mo.Lb _ _ _
theorem UF {c:Nat}{v:V}{S a:Bag}(e:Be S a):Be (Nb c v S) (Nb c v a):=Mo.Hf e
theorem Sf {c:Nat}{v:V}{S:Bag}{q:Row}{t:Int}(h:Al q c≠v):Nb c v (S++[(q,t)])=Nb c v S:=by
 rw[DX];unfold Nb Cr;simp[h]
def jE (f:V→Option Nat):V→Option Value:=fun v=>(f v).map fun b=>.map (some b)
structure Uu (w:World) (O:Ow) (id m c:Nat) (L:Bag) (f:V→Option Nat):Prop where
 map:Cz 133 J8 Rj w m (jE f)
 own:O m=id
 bag:∀{v:V} {b:Nat},f v=some b→O b=id∧b≠m∧Aw w b (Af (Nb c v L))∧Af (Nb c v L)≠[]
 no:∀{v:V},Rj v→f v=none→Af (Nb c v L)=[]
 inj:∀{v u:V} {b:Nat},f v=some b→f u=some b→v=u
def OI (hv:Value)(f:V→Option Nat)(k:Nat):Prop:=hv=.map (some k)∨∃v,f v=some k
def Qc (w:World)(O:Ow)(id:Nat)(hv:Value)(c:Nat)(S:Bag)(f:V→Option Nat):Prop:=(hv=.map none∧Af S=[]∧∀v,f v=none)∨∃m,hv=.map (some m)∧Uu w O id m c S f
theorem Uu.jF {w w':World}{O d:Ow}{id m c:Nat}{L:Bag}{f:V→Option Nat}(h:Uu w O id m c L f)(a:∀k,k=m∨(∃v,f v=some k)→w'.heap[k]? =w.heap[k]?∧d k=O k):Uu w' d id m c L f :=
 ⟨h.map.B2 (a m (.inl rfl)).1,(a m (.inl rfl)).2.trans h.own,fun {v b} e=>⟨((a b (.inr ⟨v,e⟩)).2).trans (h.bag e).1,(h.bag e).2.1,(h.bag e).2.2.1.B2 (a b (.inr ⟨v,e⟩)).1,(h.bag e).2.2.2⟩,h.no,h.inj⟩
theorem Uu.eqv {w:World}{O:Ow}{id m c:Nat}{L a:Bag}{f:V→Option Nat}(h:Uu w O id m c L f)(e:Be L a):Uu w O id m c a f:=by
 have d:∀v,Af (Nb c v L)=Af (Nb c v a):=fun v=>(UF e).canon
 exact⟨h.map,h.own,fun {v b} g=>by rw[←d];exact h.bag g,fun {v} hv hf=>by rw[←d];exact h.no hv hf,h.inj⟩
theorem Qc.eqv {w:World}{O:Ow}{id c:Nat}{hv:Value}{L d:Bag}{f:V→Option Nat}(h:Qc w O id hv c L f)(e:Be L d):Qc w O id hv c d f:=by
 rcases h with ⟨a,b,g⟩|⟨m,a,b⟩
 ·exact .inl ⟨a,by rw[←e.canon];exact b,g⟩
 ·exact .inr ⟨m,a,b.eqv e⟩
theorem Qc.lt {w:World}{O:Ow}{id c:Nat}{hv:Value}{L:Bag}{f:V→Option Nat}(h:Qc w O id hv c L f){k:Nat}(d:OI hv f k):k<w.heap.size∧O k=id:=by
 rcases h with ⟨b,a,g⟩|⟨m,b,a⟩
 ·rcases d with e|⟨v,e⟩
  ·rw[b] at e;cases e
  ·rw[g] at e;cases e
 ·rcases d with e|⟨v,e⟩
  ·rw[b] at e
   have:m=k:=by simpa using e
   subst this;exact⟨a.map.lt,a.own⟩
  ·exact⟨(a.bag e).2.2.1.lt,(a.bag e).1⟩
theorem Qc.jF {w w':World}{O a:Ow}{id c:Nat}{hv:Value}{L:Bag}{f:V→Option Nat}(h:Qc w O id hv c L f)(d:∀k,OI hv f k→w'.heap[k]? =w.heap[k]?∧a k=O k):Qc w' a id hv c L f:=by
 rcases h with h|⟨m,b,g⟩
 ·exact .inl h
 ·exact .inr ⟨m,b,g.jF fun k i=>d k (by rcases i with rfl|e;exact .inl b;exact .inr e)⟩
theorem Qc.stab {w w':World}{O a:Ow}{id c:Nat}{hv:Value}{L:Bag}{f:V→Option Nat}(h:Qc w O id hv c L f)(b:∀k,k<w.heap.size→O k=id→w'.heap[k]? =w.heap[k]?∧a k=O k):Qc w' a id hv c L f :=
 h.jF fun k hB=>b k (h.lt hB).1 (h.lt hB).2
theorem Qc.is {w:World}{O:Ow}{id c:Nat}{hv:Value}{L:Bag}{f:V→Option Nat}(h:Qc w O id hv c L f):∃m,hv=.map m:=by
 rcases h with ⟨a,_⟩|⟨m,a,_⟩ <;> exact⟨_,a⟩
theorem Uu.step {w w':World}{O:Ow}{id m c:Nat}{L:Bag}{f i:V→Option Nat}{q:Row}{t:Int}(h:Uu w O id m c L f)(l:Cz 133 J8 Rj w' m (jE i))(a:∀v,v≠Al q c→i v=f v)(n:∀v b,v≠Al q c→f v=some b→w'.heap[b]? =w.heap[b]?)
 (j:∀b,i (Al q c)=some b→O b=id∧b≠m∧Aw w' b (Af (Nb c (Al q c) (L++[(q,t)])))∧Af (Nb c (Al q c) (L++[(q,t)]))≠[]∧∀v,v≠Al q c→f v≠some b)
 (o:i (Al q c)=none→Af (Nb c (Al q c) (L++[(q,t)]))=[]):Uu w' O id m c (L++[(q,t)]) i:=by
 refine⟨l,h.own,fun {v b} e=>?_,fun {v} hv e=>?_,fun {v u b} e1 d=>?_⟩
 ·by_cases hv:v=Al q c
  ·subst hv;have:=j b e;exact⟨this.1,this.2.1,this.2.2.1,this.2.2.2.1⟩
  ·rw[a v hv] at e
   rw[Sf (fun x=>hv x.symm)]
   have:=h.bag e
   exact⟨this.1,this.2.1,this.2.2.1.B2 (n v b hv e),this.2.2.2⟩
 ·by_cases k:v=Al q c
  ·subst k;exact o e
  ·rw[a v k] at e
   rw[Sf (fun x=>k x.symm)];exact h.no hv e
 ·by_cases hv:v=Al q c
  ·by_cases g:u=Al q c
   ·rw[hv,g]
   ·rw[a u g] at d
    rw[hv] at e1
    exact absurd d ((j b e1).2.2.2.2 u g)
  ·by_cases g:u=Al q c
   ·rw[a v hv] at e1
    rw[g] at d
    exact absurd e1 ((j b d).2.2.2.2 v hv)
   ·rw[a v hv] at e1
    rw[a u g] at d
    exact h.inj e1 d
end Go.Proofs.YtdinjjmcmfjbfaaGreatDoor
