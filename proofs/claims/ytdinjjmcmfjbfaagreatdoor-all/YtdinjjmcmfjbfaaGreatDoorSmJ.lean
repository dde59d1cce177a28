import Derived.Test.YtdinjjmcmfjbfaaGreatDoorBeJ
set_option maxRecDepth 100000
set_option maxHeartbeats 4000000
namespace Go.Proofs.YtdinjjmcmfjbfaaGreatDoor
open Go.RowKit Go.Shelf Mo Pl Tryz
def Lz (s:ByteArray):Bool:=(Bj s 0).1 && decide ((Bj s 0).2=s.size)
theorem kA (s:ByteArray):(Bj s 0).2≤4:=by
 have:=Ln s 97 122 4 0;unfold Bj V0;show Eb s 97 122 4 0≤4;omega
theorem I2 (s:ByteArray)(w:World) :
 Calls prog 58 #[.string s] w fun e w'=>(∃nm,e=.returned (.tuple #[.string nm,.bool (Lz s)])∧(Lz s=true→nm=s))∧Ab No w w':=by
 by_cases q:s.size≤4
 ·have k:¬(4:Int)<(s.size:Int):=by omega
  have l:xR (RP (w.heap.size+1) s 0 ((w.alloc (.cells #[.string ⟨#[]⟩] 9)).alloc (.cells #[.string s,.int .i64 0] 93))):=⟨by omega,by have:=heap_alloc2_new w (.cells #[.string ⟨#[]⟩] 9) (.cells #[.string s,.int .i64 0] 93);exact this⟩;have m:xR (C2 ((w.alloc (.cells #[.string ⟨#[]⟩] 9)).alloc (.cells #[.string s,.int .i64 0] 93)) w.heap.size #[.string ⟨#[]⟩] 9):=heap_alloc2_old _ _ _;go_enter func58,ntmps58;go_wp21;go_call Tv (w.heap.size+1) w.heap.size 0 4 4 s 0 #[.string ⟨#[]⟩] 9 _ (by omega) (by omega) rfl (by omega) l.o m.o (by simp) as e w1 ⟨ok1,a1,g,rfl,p1,h,c1⟩;have b:xR (Bj s 0=(ok1,a1)):=g;have n:=Ae p1;have j:xR (Ab No w w1):=(((Ab.refl No w).alloc _).alloc _).trans h (fun _ e=>e.elim) (fun i hi e=>by rcases e with e|e <;> omega);have c:=Ae c1;clear g p1 h c1;cases ok1
  ·have a:xR (Lz s=false):=(by show _=_;unfold Lz;rw[b.o];rfl);have d:C3 w1 w.heap.size 0 (.string ⟨#[]⟩):=(Af c.o 0).trans rfl;go_wp21;go_ret2;rw[a.o];exact⟨⟨_,rfl,fun e=>by cases e⟩,j.o⟩
  have d:C3 w1 w.heap.size 0 (.string (s.extract 0 a1)):=(Af c.o 0).trans rfl;go_wp21;go_call Ru (w.heap.size+1) s a1 w1 n.o as e r ⟨rfl,f⟩;have c1:=(f.cell (Aa c.o) xT).trans d;have a:xR (Lz s=decide (a1=s.size)):=by show _=_;unfold Lz;rw[b.o];rfl
  have o:=Ae (j.o.seq f);have p:xR (a1=s.size→s.extract 0 a1=s):=fun e=>by subst e;exact ByteArray.extract_zero_size
  generalize decide (a1=s.size)=dd at a;clear f d;go_wp21;go_ret2;refine⟨⟨_,?_,fun e=>p.o ?_⟩,o.o⟩
  ·rw[a.o];rfl
  have:=b.o;unfold Lz at e;rw[this] at e;simpa using e
 have k:(4:Int)<(s.size:Int):=by omega
 have a:xR (Lz s=false):=by
  show _=_;have:=kA s;unfold Lz;have:¬(Bj s 0).2=s.size:=by omega
  simp[this]
 go_enter func58,ntmps58;go_wp21;go_ret2;rw[a.o];exact⟨⟨_,rfl,fun e=>by cases e⟩,Ab.refl _ _⟩
def PI (c:UInt8):Option Bool:=if c=105 then some false else if c=116 then some true else none
def L0:List UInt8→Option (List Bool)
 | []=>some []
 |c::l=>match PI c with
  |none=>none
  |some b=>(L0 l).map (b::·)
def Du (s:ByteArray):Option (List Bool):=if 1≤s.size∧s.size≤4 then L0 s.data.toList else none
theorem KH:∀{l:List UInt8} {us:List Bool},L0 l=some us→us.length=l.length
 | [],us,h=>by have:[]=us:=by simpa [L0] using h
               subst this;rfl
 |c::l,us,h=>by
  unfold L0 at h;cases a:PI c with
  |none=>rw[a] at h;cases h
  |some b =>rw[a] at h;obtain⟨vs,hv,rfl⟩:=uK.1 h;simp[KH hv]
theorem CM:∀{l:List UInt8} {i:Nat} {c:UInt8},l[i]? =some c→PI c=none→L0 l=none
 | [],i,c,h,_=>by simp at h
 |d::l,0,c,h,a=>by have:d=c:=by simpa using h
                   subst this;unfold L0;rw[a]
 |d::l,i+1,c,h,a=>by unfold L0;rw[CM (l:=l) (by simpa using h) a];cases PI d <;> rfl
theorem KI:∀{l:List UInt8} {us:List Bool},us.length=l.length→(∀(i:Nat) (c:UInt8) (b:Bool),l[i]? =some c→us[i]? =some b→PI c=some b)→L0 l=some us
 | [],[],_,_=>rfl
 |c::l,b::us,h,a=>by unfold L0;rw[a 0 c b rfl rfl];show (L0 l).map (b::·)=_;rw[KI (l:=l) (us:=us) (by simpa using h) (fun i d b' e f=>a (i+1) d b' (by simpa using e) (by simpa using f))];rfl
def R1 (r:Option (List Bool))(w:World)(e:Ending)(w':World):Prop :=
 Ab No w w'∧((∃us b cap,r=some us∧e=.returned (.tuple #[.slice (some ⟨b,0,none⟩) us.length cap,.bool true])∧w.heap.size≤b∧Nl w' (.slice (some ⟨b,0,none⟩) us.length cap) us)∨(r=none∧∃v,e=.returned (.tuple #[v,.bool false])))
theorem Hz (s:ByteArray)(w:World) :
 Calls prog 59 #[.string s] w (R1 (Du s) w):=by
 by_cases t:1≤s.size∧s.size≤4
 ·have v:¬(s.size:Int)<1:=by omega
  have D:¬(4:Int)<(s.size:Int):=by omega
  obtain⟨n,E⟩:∃n,s.size=n:=⟨_,rfl⟩;have F:=Ae E;have G:xR (Du s=L0 s.data.toList):=by show _=_;unfold Du;rw[if_pos t]
  rw[E] at t v D;obtain⟨M,N,O,Q,R⟩:=info_parts EX;obtain⟨H,_,I,J⟩:=run_make_full (P:=prog) w w.heap.size 78 130 M (.int .i32 0) 1 underlying78 N O Q .i64 .i64 n (by rw[R];omega) (by unfold maxLen;omega) (tY _);go_enter func59,ntmps59;obtain⟨S,K,Gs⟩:∃c,C2 H w.heap.size c 130∧c.size=n:=by
   rcases I.2 with ⟨x,_⟩|⟨g',cap',cur,x,_,hg,_,_,h3,_⟩
   ·cases x
   injection x with e1 e2 e3;injection e1 with e1;injection e1 with e1;subst e1;exact⟨cur,hg,by omega⟩
  have T:=Ae K;have U:xR (Ab No w H):=(Ab.refl _ _).grown J (fun r e=>by cases e);clear I J K;go_wp21;go_loopg [19] n (fun k V wr=>∃(i:Nat) (c:Array Value) (us:List Bool),i+k=n∧V=.int .i64 (i:Int)∧us.length=i∧c.size=n∧xR (C2 wr w.heap.size c 130)∧xR (∀(j:Nat) (b:Bool),us[j]? =some b→c[j]? =some (.int .i32 (Tj b)))∧xR (∀(j:Nat) (g:UInt8) (b:Bool),s.data.toList[j]? =some g→us[j]? =some b→PI g=some b)∧xR (Ab No w wr))
  case atStart=>exact⟨0,S,[],by omega,rfl,rfl,Gs,T,Ae (by simp),Ae (by simp),U⟩
  obtain⟨i,c,us,_,rfl,h,L,l,y,z,u⟩:=hrel;cases gk with
  |zero =>have W:¬(i:Int)<(n:Int):=(by omega);have q:xR (Du s=some us):=(by show _=_;rw[G.o];exact KI (by rw[h,M4,F.o];omega) z.o);have X:xR (Nl wr (.slice (some ⟨w.heap.size,0,none⟩) us.length n) us):=⟨w.heap.size,0,n,rfl,⟨_,_,l.o⟩,by omega,by unfold maxLen;omega,fun j b f=>by rw[Af l.o,uL];exact y.o j b f⟩;have Y:xR (us.length=n):=(by show _=_;omega);clear h;go_wp21;go_ret2;refine⟨u.o,.inl ⟨us,w.heap.size,n,q.o,?_,tY _,X.o⟩⟩;rw[Y.o];rfl
  |succ k =>
   have W:(i:Int)<(n:Int):=(by omega);have aa:=Bm i;have Z:i<s.size:=(by have:=F.o;omega);have ab:=Aa l.o;have ac:wr.cell? ⟨w.heap.size,i,none⟩=some c[i]:=(by rw[Af l.o,uG (by omega)]);have ad:wr.frozen? ⟨w.heap.size,i,none⟩=false:=Am l.o i;have A:xR (s.data.toList[i]? =some s[i]):=(by show _=_;simp[Z];rfl);by_cases d:s[i]=105
   ·have e1:((s[i].toNat:Int) == 105)=true:=(by rw[d];rfl);have B:xR (PI s[i]=some false):=(by show _=_;rw[d];rfl);clear d;go_wp21;go_roundg k
    case measure=>omega
    refine⟨i+1,c.setIfInBounds i (.int .i32 (Tj false)),us++[false],by omega,by go_num,by simp[h],by simp[L],A0 l.o i _,?_,?_,Ae (u.o.setCell (.inl (tY _)) _)⟩
    ·refine Ae ?_;intro j b f;rw[vB];by_cases m:j<us.length
     ·rw[uD m] at f;rw[if_neg (by omega)];exact y.o j b f
     rw[uC (by omega)] at f;have o:=(tR.1 f).1;simp at o;have p:j=i:=(by omega);subst p;have:false=b:=(by simpa [h] using f);subst this;rw[if_pos rfl,if_pos (by omega)]
    refine Ae ?_;intro j g b d a;by_cases m:j<us.length
    ·rw[uD m] at a;exact z.o j g b d a
    rw[uC (by omega)] at a;have o:=(tR.1 a).1;simp at o;have p:j=i:=(by omega);subst p;have C:false=b:=(by simpa [h] using a);subst C;have:s[j]=g:=(by have:=A.o.symm.trans d;simpa using this);rw[←this];exact B.o
   by_cases a:s[i]=116
   ·have e1:((s[i].toNat:Int) == 105)=false:=(by rw[a];rfl);have e2:((s[i].toNat:Int) == 116)=true:=(by rw[a];rfl);have B:xR (PI s[i]=some true):=(by show _=_;rw[a];rfl);clear d a;go_wp21;go_roundg k
    case measure=>omega
    refine⟨i+1,c.setIfInBounds i (.int .i32 (Tj true)),us++[true],by omega,by go_num,by simp[h],by simp[L],A0 l.o i _,?_,?_,Ae (u.o.setCell (.inl (tY _)) _)⟩
    ·refine Ae ?_;intro j b f;rw[vB];by_cases m:j<us.length
     ·rw[uD m] at f;rw[if_neg (by omega)];exact y.o j b f
     rw[uC (by omega)] at f;have o:=(tR.1 f).1;simp at o;have p:j=i:=(by omega);subst p;have:true=b:=(by simpa [h] using f);subst this;rw[if_pos rfl,if_pos (by omega)]
    refine Ae ?_;intro j g b d a;by_cases m:j<us.length
    ·rw[uD m] at a;exact z.o j g b d a
    rw[uC (by omega)] at a;have o:=(tR.1 a).1;simp at o;have p:j=i:=(by omega);subst p;have C:true=b:=(by simpa [h] using a);subst C;have:s[j]=g:=(by have:=A.o.symm.trans d;simpa using this);rw[←this];exact B.o
   have e1:((s[i].toNat:Int) == 105)=false:=(by rw[beq_eq_false_iff_ne];intro e;exact d (wK.1 (by rw[show (105:UInt8).toNat=105 from rfl];omega)));have e2:((s[i].toNat:Int) == 116)=false:=(by rw[beq_eq_false_iff_ne];intro e;exact a (wK.1 (by rw[show (116:UInt8).toNat=116 from rfl];omega)));have q:xR (Du s=none):=(by show _=_;rw[G.o];exact CM A.o (by unfold PI;rw[if_neg d,if_neg a]));clear d a;go_wp21;go_ret2;exact⟨u.o,.inr ⟨q.o,_,rfl⟩⟩
 have q:xR (Du s=none):=by show _=_;unfold Du;rw[if_neg t]
 by_cases d:s.size<1
 ·have v:(s.size:Int)<1:=by omega
  clear t;go_enter func59,ntmps59;go_wp21;go_ret2;exact⟨Ab.refl _ _,.inr ⟨q.o,_,rfl⟩⟩
 have v:¬(s.size:Int)<1:=by omega
 have D:(4:Int)<(s.size:Int):=by omega
 clear t;go_enter func59,ntmps59;go_wp21;go_ret2;exact⟨Ab.refl _ _,.inr ⟨q.o,_,rfl⟩⟩
end Go.Proofs.YtdinjjmcmfjbfaaGreatDoor
namespace Go.Proofs
open Tryz
open Go.Shelf Go.RowKit
theorem xTm{α:Type}{a:Option α}{b c:α}(h:a=some b)(e:b=c:=by kernel_rfl):a=some c:=h.trans (congrArg some e)
def Tryz.oD:Go.Shelf.Ren:=⟨fun|240=>129|276=>164|167=>83|166=>84|n=>n,fun|0=>0|3=>3|4=>4|5=>5|9=>9|20=>20|37=>149|70=>177|72=>179|75=>181|80=>89|164=>306|n=>n,fun|n=>n⟩
theorem Tryz.dI:Go.Proofs.Lays.n166 prog Tryz.oD:=⟨by kernel_rfl,xTm func84,xTm func129,xTm func164,underlying0,isAgg0,sizeOf0,zeroValue0,underlying3,isAgg3,sizeOf3,zeroValue3,underlying4,isAgg4,sizeOf4,zeroValue4,underlying9,isAgg9,sizeOf9,zeroValue9,underlying20,isAgg20,sizeOf20,zeroValue20,underlying149,isAgg149,sizeOf149,zeroValue149,underlying177,isAgg177,sizeOf177,zeroValue177,underlying179,isAgg179,sizeOf179,zeroValue179,underlying181,isAgg181,sizeOf181,zeroValue181,underlying306,isAgg306,sizeOf306,zeroValue306⟩
theorem Tryz.dJ:Go.Proofs.Lays.n167 prog Tryz.oD:=⟨by kernel_rfl,xTm func83,xTm func129,xTm func164,underlying0,isAgg0,sizeOf0,zeroValue0,underlying4,isAgg4,sizeOf4,zeroValue4,underlying5,isAgg5,sizeOf5,zeroValue5,underlying9,isAgg9,sizeOf9,zeroValue9,underlying20,isAgg20,sizeOf20,zeroValue20,underlying149,isAgg149,sizeOf149,zeroValue149,underlying177,isAgg177,sizeOf177,zeroValue177,underlying179,isAgg179,sizeOf179,zeroValue179,underlying181,isAgg181,sizeOf181,zeroValue181,underlying306,isAgg306,sizeOf306,zeroValue306⟩
theorem Tryz.dK:Builder.Extra prog Tryz.oD:={sizeBuilder:=by kernel_rfl,liesBuilder:=by kernel_rfl,t5:=underlying5,a5:=isAgg5,z5:=sizeOf5,v5:=zeroValue5,infoByte:=by kernel_rfl,cellsByte:=by kernel_rfl,sizeByte:=by kernel_rfl,neB5:=by decide}
theorem Tryz.PJ (B b:Nat)(a:List Value)(c:Int)(w:World)(h:Lib.IsBuilderF 179 5 B b a w)(d:a.length+1≤140737488355328)(f:B≤w.heap.size) :
 Calls prog 83 #[.pointer (some ⟨b,0,none⟩),.int .u8 c] w fun e w'=>e=.returned .nilIface∧(Lib.BuilderAtF 179 5 B b (.pointer (some ⟨b,0,none⟩)) (a++[.int .u8 c]) w'∧Below B w w'∧Lib.OthersKept 5 (some b) w w'):=Any.Builder_WriteByte_k Tryz.dJ Tryz.dK B b a c w h d f
theorem Tryz.Uo (B b:Nat)(a:List Value)(s:ByteArray)(w:World)(h:Lib.IsBuilderF 179 5 B b a w)(c:a.length+s.size≤140737488355328)(d:B≤w.heap.size) :
 Calls prog 84 #[.pointer (some ⟨b,0,none⟩),.string s] w fun e w'=>e=.returned (.tuple #[.int .i64 s.size,.nilIface])∧(Lib.BuilderAtF 179 5 B b (.pointer (some ⟨b,0,none⟩)) (a++Lib.strCells s) w'∧Below B w w'∧Lib.OthersKept 5 (some b) w w'):=Any.Builder_WriteString_k Tryz.dI Tryz.dK B b a s w h c d
def Tryz.rH:Go.Shelf.Ren:=⟨fun|169=>85|n=>n,fun|70=>177|9=>9|0=>0|72=>179|37=>149|127=>255|3=>3|5=>5|n=>n,fun|n=>n⟩
theorem Tryz.dL:Go.Proofs.Lays.n169 prog Tryz.rH:=⟨by kernel_rfl,xTm func85,underlying0,isAgg0,sizeOf0,zeroValue0,underlying3,isAgg3,sizeOf3,zeroValue3,underlying9,isAgg9,sizeOf9,zeroValue9,underlying149,isAgg149,sizeOf149,zeroValue149,underlying177,isAgg177,sizeOf177,zeroValue177,underlying179,isAgg179,sizeOf179,zeroValue179,underlying255,isAgg255,sizeOf255,zeroValue255⟩
theorem Tryz.oE:Builder.Extra prog Tryz.rH:={sizeBuilder:=by kernel_rfl,liesBuilder:=by kernel_rfl,t5:=underlying5,a5:=isAgg5,z5:=sizeOf5,v5:=zeroValue5,infoByte:=by kernel_rfl,cellsByte:=by kernel_rfl,sizeByte:=by kernel_rfl,neB5:=by decide}
theorem Tryz.kB (B b:Nat)(l:List UInt8)(w:World)(h:Lib.IsBuilderF 179 5 B b (Lib.byteCells l) w)(a:B≤w.heap.size) :
 Calls prog 85 #[.pointer (some ⟨b,0,none⟩)] w fun e w'=>e=.returned (.string ⟨l.toArray⟩)∧(Lib.IsBuilderF 179 5 B b (Lib.byteCells l) w'∧Below B w w'∧Lib.OthersKept 5 (some b) w w'):=Any.Builder_String_any_k Tryz.dL Tryz.oE B b l w h a
end Go.Proofs
namespace Go.Proofs.YtdinjjmcmfjbfaaGreatDoor
open Go.RowKit Go.Shelf Mo Pl Tryz
section
def Mw:Nat→List (List UInt8)→List UInt8
 |_,[]=>[]
 |i,t::ts=>(if i=0 then [] else [124])++(t++Mw (i+1) ts)
def Sd (ts:List (List UInt8)):List UInt8:=Mw 0 ts
theorem FC (ts:List (List UInt8))(t:List UInt8):∀i,Mw i (ts++[t])=Mw i ts++((if i+ts.length=0 then [] else [124])++t):=by
 induction ts with
 |nil=>intro i;simp[Mw]
 |cons x r a=>intro i;simp[Mw,a,Nat.add_assoc,Nat.add_comm 1]
theorem Vq (ts:List (List UInt8))(i:Nat)(t:List UInt8)(a:ts[i]? =some t):Sd (ts.take (i+1))=Sd (ts.take i)++((if i=0 then [] else [124])++t):=by
 have hi:=(tR.1 a).1;rw[uI,a];show Mw 0 (ts.take i++[t])=_;rw[FC];have:(ts.take i).length=i:=by rw[uV];omega
 rw[this,uL];rfl
theorem KJ {ts:List (List UInt8)}{N:Nat}(h:∀t∈ts,t.length≤N):∀i,i≤ts.length→(Sd (ts.take i)).length≤(N+1)*i
 |0,_=>by simp[Sd,Mw]
 |i+1,hi=>by
  have b:=KJ h i (by omega);obtain⟨t,a⟩:∃t,ts[i]? =some t:=⟨_,tT (by omega)⟩;have c:=h t (tV a);rw[Vq _ i t a,Nat.mul_add];simp only[tS];split
  ·simp;omega
  simp;omega
def WB (b:Nat)(w w':World):Prop:=Ab (fun k=>b≤k∧(k=b∨Is 5 w k)) w w'
theorem WB.of {b:Nat}{w w':World}(h:Below b w w')(k:Lib.OthersKept 5 (some b) w w'):WB b w w':=⟨h.os,h.tape,h.output,h.size,fun i hi a=>by
 by_cases d:i<b
 ·exact h.block i d
 obtain⟨o,ho⟩:∃o,w.heap[i]? =some o:=⟨_,uG hi⟩;rw[ho];refine k i o ho (fun e=>a ⟨by omega,.inl (by simpa using e)⟩) fun c fz e=>a ⟨by omega,.inr ⟨c,fz,by rw[ho,e]⟩⟩⟩
theorem Sm {T:TypeId}{B b:Nat}{a:List Value}{w w':World}(h:Lib.IsBuilderF T 5 B b a w)(c:∀k,k<w.heap.size→(k=b∨Is 5 w k)→w'.heap[k]? =w.heap[k]?):Lib.IsBuilderF T 5 B b a w':=by
 have one:∀p,Lib.BuilderAtF T 5 B b p a w→Lib.BuilderAtF T 5 B b p a w':=fun p ⟨i,v,d,f,j⟩=>by
  refine⟨i,v,(c b (Aa d) (.inl rfl)).trans d,⟨f.1,?_⟩,j⟩;rcases f.2 with hn|⟨g,cap,l,fz,e,m,hg,n⟩
  ·exact .inl hn
  exact .inr ⟨g,cap,l,fz,e,m,(c g (Aa hg) (.inr ⟨_,_,hg⟩)).trans hg,n⟩
 exact h.imp (one _) (one _)
theorem SY {T t:List UInt8}(h:T.length+t.length≤140737488355328):(Lib.byteCells T).length+ByteArray.size ⟨t.toArray⟩≤140737488355328:=by
 have a:(Lib.byteCells T).length=T.length:=by simp[Lib.byteCells]
 have b:ByteArray.size ⟨t.toArray⟩=t.length:=by simp[ByteArray.size]
 rw[a,b];exact h
theorem AX (l:List UInt8):(Lib.byteCells l).length=l.length:=by simp[Lib.byteCells]
theorem KL (p n cap:Nat)(M:Option Addr)(blk:Nat→Nat)(ts:List (List UInt8))(b:Nat→World→Prop)(w:World)(_:p<w.heap.size)(hp:C3 w p 1 (.slice M n cap))(_:n≤6)(O:ts.length=n)(P:∀t∈ts,t.length≤20000000000000)
 (Q:b 0 w) (A:∀i a c,b i a→w.heap.size≤a.heap.size→Ab (fun k=>w.heap.size≤k∧(k=w.heap.size∨Is 5 a k)) a c→b i c)
 (R:∀i wr,b i wr→i<n→∃g o,M=some ⟨g,o,none⟩∧C3 wr g (o+i) (C1 (blk i)))
 (S:∀i t wr,b i wr→w.heap.size<wr.heap.size→ts[i]? =some t→Calls prog 40 #[C1 (blk i)] wr fun e w'=>e=.returned (.string ⟨t.toArray⟩)∧b (i+1) w'∧Ab (fun k=>k≠w.heap.size∧¬Is 5 wr k) wr w') :
 Calls prog 48 #[C1 p] w fun e w'=>e=.returned (.string ⟨(Sd ts).toArray⟩)∧b n w'∧w.heap.size≤w'.heap.size:=by
 have af:=Ae R;have U:=Ae S;have v:=Ae A;have B:=Ae O;have V:=Ae P;have ag:xR (b 0 (w.alloc (.cells #[.pointer none,.slice none 0 0] 179))):=A 0 w _ Q (tY _) ((Ab.refl _ w).alloc _);clear R S A Q O P;go_enter func48,ntmps48;go_wp21;go_loopg [11] n (fun k ah wr=>∃i:Nat,i+k=n∧ah=.int .i64 (i:Int)∧xR (Lib.IsBuilderF 179 5 w.heap.size w.heap.size (Lib.byteCells (Sd (ts.take i))) wr)∧xR (b i wr)∧xR (w.heap.size<wr.heap.size))
 case atStart=>exact⟨0,by omega,rfl,Ae (Lib.IsBuilderF.of (Lib.fresh_isBuilder _ _ w)),ag,Ae (by simp)⟩
 obtain⟨i,ai,rfl,hB,x,f⟩:=hrel;have W:=KJ (ts:=ts) (N:=20000000000000) V.o i (by have:=B.o;omega);cases gk with
 |zero =>
  have aj:¬(i:Int)<(n:Int):=by omega
  have ak:xR (ts.take i=ts):=uW (by have:=B.o;omega);have al:xR (i=n):=by show _=_;omega
  clear W ai;go_wp21;go_call Tryz.kB w.heap.size w.heap.size _ _ hB.o (wW f.o) as e w3 ⟨rfl,-,C,X⟩;have l:xR (b n w3):=by rw[←al.o];exact v.o i wr w3 x.o (wW f.o) (WB.of C X)
  have d:xR (w.heap.size≤w3.heap.size):=uJ (wW f.o) C.size;clear C X;go_wp21;go_ret;exact⟨by rw[ak.o];rfl,l.o,d.o⟩
 |succ k =>
  have aj:(i:Int)<(n:Int):=by omega
  have ap:=Bm i
  obtain⟨t,y⟩:∃t,ts[i]? =some t:=⟨_,tT (by have:=B.o;omega)⟩;have aq:=V.o t (tV y);have Y:=Ae (Vq ts i t y);have Z:=Ae y;obtain⟨g,o,rfl,aa⟩:=af.o i wr x.o (by omega);obtain⟨T,D⟩:∃T,Sd (ts.take i)=T:=⟨_,rfl⟩;have ab:=Ae D;rw[D] at hB W;clear D y;by_cases z:i=0
  ·have am:¬(0:Int)<(i:Int):=(by omega);have E:=Ae z;have Sb:=Ae (U.o i t wr x.o f.o Z.o);clear z;go_wp21;go_call Sb.o as e w3 ⟨rfl,m,h⟩;have l:=Ae m;have d:xR (w.heap.size<w3.heap.size):=tU f.o h.size;have F:xR (Lib.IsBuilderF 179 5 w.heap.size w.heap.size (Lib.byteCells T) w3):=Sm hB.o fun k G e=>h.block k G (fun q=>e.elim q.1 q.2);clear m h Sb aa;go_wp21;go_call Tryz.Uo w.heap.size w.heap.size _ _ _ F.o (SY (by omega)) (wW d.o) as e w4 ⟨rfl,r,j,s⟩;have H:xR (b (i+1) w4):=v.o (i+1) w3 w4 l.o (wW d.o) (WB.of j s);have I:xR (w.heap.size<w4.heap.size):=tU d.o j.size;have J:xR (Lib.IsBuilderF 179 5 w.heap.size w.heap.size (Lib.byteCells (T++t)) w4):=(by rw[Lib.byteCells_append];exact .inr r);clear r j s;go_wp21;go_roundg k
   case measure=>omega
   refine⟨i+1,by omega,by go_num,?_,H,I⟩;rw[Y.o,ab.o,if_pos E.o,vJ];exact J
  have am:(0:Int)<(i:Int):=by omega
  have E:=Ae z;clear z;go_wp21;go_call Tryz.PJ w.heap.size w.heap.size _ 124 _ hB.o (by rw[AX];omega) (wW f.o) as e u ⟨rfl,ac,K,ad⟩;have ae:b i u:=v.o i wr u x.o (wW f.o) (WB.of K ad);have L:w.heap.size<u.heap.size:=tU f.o K.size;have an:xR (Lib.IsBuilderF 179 5 w.heap.size w.heap.size (Lib.byteCells (T++[124])) u):=by rw[Lib.byteCells_append];exact .inr ac
  have Sb:=Ae (U.o i t u ae L Z.o);have ao:=Ae L;clear ae ac K ad L aa;go_wp21;go_call Sb.o as e w3 ⟨rfl,m,h⟩;have l:=Ae m;have d:xR (w.heap.size<w3.heap.size):=tU ao.o h.size;have F:xR (Lib.IsBuilderF 179 5 w.heap.size w.heap.size (Lib.byteCells (T++[124])) w3):=Sm an.o fun k G e=>h.block k G (fun q=>e.elim q.1 q.2);clear m h Sb;go_wp21;go_call Tryz.Uo w.heap.size w.heap.size _ _ _ F.o (SY (by rw[tS];simp only[uO,vI];omega)) (wW d.o) as e w4 ⟨rfl,r,j,s⟩;have H:xR (b (i+1) w4):=v.o (i+1) w3 w4 l.o (wW d.o) (WB.of j s);have I:xR (w.heap.size<w4.heap.size):=tU d.o j.size;have J:xR (Lib.IsBuilderF 179 5 w.heap.size w.heap.size (Lib.byteCells (T++[124]++t)) w4):=by rw[Lib.byteCells_append];exact .inr r
  clear r j s;go_wp21;go_roundg k
  case measure=>omega
  refine⟨i+1,by omega,by go_num,?_,H,I⟩;rw[Y.o,ab.o,if_neg E.o,←wJ];exact J
section
variable {s:ByteArray} {f g h:Nat→Bool×Nat} {a b:Nat}
theorem Cf (e:B6 f g a=(true,b)):∃c,f a=(true,c)∧g c=(true,b):=by
 unfold B6 at e;by_cases d:(f a).1=true
 ·rw[if_pos d] at e;exact⟨(f a).2,Prod.ext d rfl,e⟩
 rw[if_neg d] at e;cases e
theorem kD (e:R9 f g a=(true,b)):f a=(true,b)∨((f a).1=false∧g (f a).2=(true,b)):=by
 unfold R9 at e;by_cases c:(f a).1=true
 ·rw[if_pos c] at e;exact .inl (Prod.ext c (by simpa using e))
 rw[if_neg c] at e;exact .inr ⟨by simpa using c,e⟩
theorem Xd (e:Tm f g h a=(true,b)):(∃c,f a=(true,c)∧g c=(true,b))∨((f a).1=false∧h (f a).2=(true,b)):=by
 unfold Tm at e;by_cases d:(f a).1=true
 ·rw[if_pos d] at e;exact .inl ⟨(f a).2,Prod.ext d rfl,e⟩
 rw[if_neg d] at e;exact .inr ⟨by simpa using d,e⟩
theorem Fw {c:Nat}(e:tk s c a=(true,b)):bt s a=c∧b=a+1:=by
 unfold tk at e;by_cases d:bt s a=c
 ·rw[if_pos d] at e;exact⟨d,by simpa using e.symm⟩
 rw[if_neg d] at e;cases e
theorem Kz (e:Jt s a=(true,b)):b=a+1∧Nk s a<10:=by
 have c:=DV e;refine⟨c,?_⟩;by_cases d:48≤bt s a∧bt s a≤57
 ·unfold Nk;omega
 unfold Jt at e;rw[Qj d] at e;cases e
end
theorem Xe {s:ByteArray}{a b:Nat}(c:a≤s.size)(e:Bj s a=(true,b)):EC (.txt (Ia s a b)):=by
 obtain⟨_,d,_,f⟩:=Ro (by omega) c e;have g:=Tp (s:=s) (a:=a) d;exact⟨by omega,by omega,f⟩
theorem kE {s:ByteArray}{a b:Nat}(e:Pw s a=(true,b)):rR (Py s a):=by
 unfold Py;rcases Xd e with ⟨c,f,g⟩|⟨f,g⟩
 ·obtain⟨d,rfl⟩:=Fw f;rw[if_pos d];have l:=Cu (s:=s) (a:=a) (by omega);have i:=(Qm (by omega) g).2.2;have j:(D1 s (a+1)).2=b:=by rw[g]
  rw[j];exact GK i
 have m:¬bt s a=35:=fun k=>by rw[Jb k] at f;cases f
 have n:(tk s 35 a).2=a:=Hq s 35 a f;rw[n] at g;rw[if_neg m];rcases Xd g with ⟨c,d,h⟩|⟨d,h⟩
 ·obtain⟨i,rfl⟩:=Fw d;rw[if_pos i];have l:=Cu (s:=s) (a:=a) (by omega);have j:(Bj s (a+1)).2=b:=by rw[h]
  rw[j];exact Xe (by omega) h
 have o:¬bt s a=36:=fun k=>by rw[Jb k] at d;cases d
 have p:(tk s 36 a).2=a:=Hq s 36 a d;rw[p] at h;rw[if_neg o];exact (Kz h).2
theorem FD {s:ByteArray}:∀(k a b:Nat),Dh s k a=(true,b)→1≤(C6 s k a).length∧(C6 s k a).length≤k+1∧∀c∈C6 s k a,c<10
 |0,a,b,e=>by obtain⟨c,h,i⟩:=Cf e;have:=(Kz h).2;exact⟨by simp[C6],by simp[C6],fun c f=>by simp[C6] at f;omega⟩
 |k+1,a,b,e=>by
  obtain⟨c,h,i⟩:=Cf e;obtain⟨rfl,l⟩:=Kz h;unfold C6;rcases Xd i with ⟨d,g,j⟩|⟨g,j⟩
  ·obtain⟨m,rfl⟩:=Fw g;rw[if_pos m];obtain⟨_,_,n⟩:=FD k (a+2) b j;refine⟨by simp,by simp;omega,fun c f=>?_⟩;rcases uP.1 f with rfl|f
   ·exact l
   exact n c f
  have:¬bt s (a+1)=44:=fun o=>by rw[Jb o] at g;cases g
  rw[if_neg this];exact⟨by simp,by simp,fun c f=>by simp at f;omega⟩
theorem oF {s:ByteArray}{k a b:Nat}{q:Q}(z:yC k=1)(A:k≤7)(e:B3 s k a=(true,b))(j:wf q):wf (Ip (Si s k a) (Gs s k a) [q]):=by
 rcases EV z A with rfl|rfl|rfl|rfl
 ·have g:Pl.Kr s a=(true,b):=e;obtain⟨c1,l,e1⟩:=Cf g;obtain⟨-,rfl⟩:=Fw l;obtain⟨c2,n,e2⟩:=Cf e1;obtain⟨-,rfl⟩:=Fw n;obtain⟨p,r,e3⟩:=Cf e2;obtain⟨rfl,B⟩:=Kz r;obtain⟨w,h,e4⟩:=Cf e3;have C:w=a+1+1+1+1:=by
   unfold J6 at h;split at h
   ·simpa using h.symm
   cases h
  subst C;obtain⟨_,D,e5⟩:=Cf e4;exact⟨B,kE D,j⟩
 ·have g:RC s a=(true,b):=e;obtain⟨c1,l,e1⟩:=Cf g;obtain⟨-,rfl⟩:=Fw l;obtain⟨c2,n,e2⟩:=Cf e1;obtain⟨-,rfl⟩:=Fw n;obtain⟨x,t,u⟩:=FD 5 _ _ e2;exact⟨x,t,u,j⟩
 ·exact j
 have g:DI s a=(true,b):=e;obtain⟨c1,l,e1⟩:=Cf g;obtain⟨-,rfl⟩:=Fw l;obtain⟨c2,n,e2⟩:=Cf e1;obtain⟨-,rfl⟩:=Fw n;obtain⟨p,r,e3⟩:=Cf e2;have hg:Ek s a=p:=by unfold Ek;rw[r]
 obtain⟨w,h,e4⟩:=Cf e3;obtain⟨-,rfl⟩:=Fw h;have y:∀m,wS (NA s (Ek s a+1))=some m→m<10:=fun m i=>by
  rw[hg] at i;unfold NA at i;rcases Xd e4 with ⟨d,f,o⟩|⟨f,o⟩
  ·obtain⟨v,rfl⟩:=Fw f;rw[if_pos v] at i;obtain⟨c,E,_⟩:=Cf o;have:=(Kz E).2;have H:Nk s (p+1+1)=m:=(by simpa [wS] using i);omega
  have:¬bt s (p+1)=115:=fun g=>by rw[Jb g] at f;cases f
  rw[if_neg this] at i;cases i
 have gz:Gs s 7 a=if bt s (a+2)=93 then [] else C6 s 5 (a+2):=rfl
 show wf (.grp (Gs s 7 a) (wS (NA s (Ek s a+1))) q);rw[gz];rcases kD r with f|⟨f,o⟩
 ·have v:=(Fw f).1;rw[if_pos v];exact⟨by simp,by simp,y,j⟩
 have F:¬bt s (a+2)=93:=fun g=>by rw[Jb g] at f;cases f
 have G:(tk s 93 (a+1+1)).2=a+2:=Hq s 93 _ f;rw[G] at o;rw[if_neg F];obtain⟨x,t,u⟩:=FD 5 _ _ o;exact⟨t,u,y,j⟩
theorem oG {s:ByteArray}{k a b:Nat}{q r:Q}(d:yC k=2)(e:B3 s k a=(true,b))(c:wf q)(hr:wf r):wf (Ip (Si s k a) (Gs s k a) [q,r]):=by
 rcases Tn d with rfl|rfl
 ·have f:AY s a=(true,b):=e;obtain⟨c1,g,e1⟩:=Cf f;obtain⟨-,rfl⟩:=Fw g;obtain⟨c2,h,e2⟩:=Cf e1;obtain⟨-,rfl⟩:=Fw h;obtain⟨_,i,e3⟩:=Cf e2;obtain⟨rfl,j⟩:=Kz i;obtain⟨_,l,e4⟩:=Cf e3;obtain⟨-,rfl⟩:=Fw l;obtain⟨_,m,e5⟩:=Cf e4;obtain⟨rfl,n⟩:=Kz m;exact⟨j,n,c,hr⟩
 exact⟨c,hr⟩
theorem Up (s:ByteArray):∀{a b:Nat},a≤b→xU s a≤xU s b:=by
 intro a b h;induction h with
 |refl=>exact tY _
 |step _ c=>exact uJ c (by show _≤xU s _+_;omega)
theorem CN (h:Hd)(cs:List Nat)(q:Q):Al (Ip h cs [q])=Al q:=by
 show Al (if h.k=2 then _ else if h.k=3 then _ else if h.k=6 then _ else _)=_;by_cases a:h.k=2
 ·rw[if_pos a];rfl
 by_cases b:h.k=3
 ·rw[if_neg a,if_pos b];rfl
 by_cases c:h.k=6
 ·rw[if_neg a,if_neg b,if_pos c];rfl
 rw[if_neg a,if_neg b,if_neg c];rfl
theorem CO (h:Hd)(cs:List Nat)(q r:Q):Al (Ip h cs [q,r])=Al q+Al r+if h.k=4 then 1 else 0:=by
 show Al (if h.k=4 then _ else _)=_;by_cases a:h.k=4
 ·rw[if_pos a,if_pos a];rfl
 rw[if_neg a,if_neg a];rfl
theorem Oi {s:ByteArray}{f a b:Nat}{q:Q}(h:Rq s f a b q):a≤s.size→wf q∧a<b∧b≤s.size∧2*(Ac q).length≤b-a+1∧Al q+xU s a≤xU s b:=by
 induction h with
 | @tab f a b j e =>
   intro k;have hf:=Gt s 1 a;rw[e] at hf;obtain⟨p,l,g,i⟩:=hf;have e4:Bj s a=(true,b):=e;refine⟨?_,g rfl,l k,?_,?_⟩
   ·have t:(Bj s a).2=b:=(by rw[e4]);show EC (.txt (Ia s a (Bj s a).2));rw[t];exact Xe k e4
   ·have:=g rfl;show 2*1≤_;simp only at this;omega
   have:=i rfl;simp only at this;show 0+_≤_;omega
 | @one f a b c q j e u v w x =>intro k;have hf:=Gt s (xV (bt s a)) a;rw[e] at hf;obtain⟨p,l,g,i⟩:=hf;have y:=Cu (s:=s) (a:=b) (by omega);have z:=Cu (s:=s) (a:=c) (by omega);obtain⟨m,A,B,C,D⟩:=x (by omega);have n:=g rfl;have o:=i rfl;simp only at n o;have E:=Up s (show b≤b+1 by omega);have F:=Up s (show c≤c+1 by omega);refine⟨oF j (Pl.GE _) e m,by omega,by omega,by rw[Zc];omega,by rw[CN];omega⟩
 | @two f a b c d q r j e u v w hr J G H =>intro k;have hf:=Gt s (xV (bt s a)) a;rw[e] at hf;obtain⟨p,l,g,i⟩:=hf;have y:=Cu (s:=s) (a:=b) (by omega);have z:=Cu (s:=s) (a:=c) (by omega);have K:=Cu (s:=s) (a:=d) (by omega);obtain⟨m,A,B,C,D⟩:=G (by omega);obtain⟨I,_,_,_,_⟩:=H (by omega);have n:=g rfl;have o:=i rfl;simp only at n o;have E:=Up s (show b≤b+1 by omega);have F:=Up s (show c≤c+1 by omega);have m3:=Up s (show d≤d+1 by omega);refine⟨oG j e m I,by omega,by omega,by rw[Zd,tS];omega,?_⟩;rw[CO,Yc];omega
def kF (s:ByteArray):Nat→Nat→Option (Q×Nat)
 |0,a=>if xV (bt s a)=1∧(B3 s 1 a).1=true then some (Ip (Si s 1 a) (Gs s 1 a) [],(B3 s 1 a).2) else none
 |f+1,a =>
  if xV (bt s a)=1 then (if (B3 s 1 a).1=true then some (Ip (Si s 1 a) (Gs s 1 a) [],(B3 s 1 a).2) else none)
  else if (B3 s (xV (bt s a)) a).1=true then
   (match kF s f ((B3 s (xV (bt s a)) a).2+1) with
    |none=>none
    |some (q,c) =>
     if yC (xV (bt s a))=1 then (if bt s c=41 then some (Ip (Si s (xV (bt s a)) a) (Gs s (xV (bt s a)) a) [q],c+1) else none)
     else (match kF s f (c+1) with
      |none=>none
      |some (r,d)=>if bt s d=41 then some (Ip (Si s (xV (bt s a)) a) (Gs s (xV (bt s a)) a) [q,r],d+1) else none))
  else none
theorem FE {s:ByteArray}{f a b:Nat}{q:Q}(h:Rq s f a b q):kF s f a=some (q,b):=by
 induction h with
 | @tab f a b i g =>
   cases f with
   |zero=>unfold kF;rw[if_pos ⟨i,by rw[g]⟩,g]
   |succ f=>unfold kF;rw[if_pos i,if_pos (by rw[g]),g]
 | @one f a b c q i g l m k n =>have j:¬xV (bt s a)=1:=fun e=>(by rw[e] at i;exact absurd i (by decide));unfold kF;rw[if_neg j,if_pos (by rw[g]),g];simp only[n,if_pos i,if_pos k]
 | @two f a b c d q r i g l m k hr o p t =>have j:¬xV (bt s a)=1:=fun e=>(by rw[e] at i;exact absurd i (by decide));have u:¬yC (xV (bt s a))=1:=(by omega);unfold kF;rw[if_neg j,if_pos (by rw[g]),g];simp only[p,if_neg u,t,if_pos o]
end
end Go.Proofs.YtdinjjmcmfjbfaaGreatDoor
namespace Go.Proofs.YtdinjjmcmfjbfaaGreatDoor.Mo
structure Tab where
 nm:List UInt8
 ts:List Bool
 bag:Bag
structure Ses where
 tabs:List Tab
 views:List Q
def Dw (tb:List Tab)(nm:List UInt8):Option Tab:=tb.find? fun t=>decide (t.nm=nm)
def Li (tb:List Tab)(nm:List UInt8):Option (List Bool):=(Dw tb nm).map Tab.ts
def Ed (tb:List Tab)(nm:List UInt8):Bag:=match Dw tb nm with
 |some t=>t.bag
 |none=>[]
def D0 (tb:List Tab)(q:Q):Nat→Bag:=fun j=>match (Ac q)[j]? with
 |some nm=>Ed tb nm
 |none=>[]
def Cl (tb:List Tab)(q:Q):Bag:=A1 (D0 tb q) 0 q
structure Uq (t:Tab):Prop where
 nn:nn t.bag
 rt:RT t.ts t.bag
 bt:BT t.bag
 num:∀e∈t.bag,∀v∈e.1,wv v≤9999
 len:1≤t.ts.length∧t.ts.length≤4
 name:EC (.txt t.nm)
def Sn (tb:List Tab):Int:=(tb.map fun t=>Nr t.bag).sum
structure B4 (tb:List Tab):Prop where
 each:∀t∈tb,Uq t
 nod:(tb.map Tab.nm).Nodup
 rows:Sn tb≤60
 few:tb.length≤4
theorem Gb {tb:List Tab}{nm:List UInt8}{t:Tab}(h:Dw tb nm=some t):t∈tb∧t.nm=nm:=⟨List.mem_of_find?_eq_some h,by have:=List.find?_some h;simpa using this⟩
theorem SZ {tb:List Tab}(c:(tb.map Tab.nm).Nodup){t:Tab}(a:t∈tb):Dw tb t.nm=some t:=by
 induction tb with
 |nil=>cases a
 |cons x tb d =>
  have b:=vE.1 (by simpa using c:(x.nm::tb.map Tab.nm).Nodup);unfold Dw;rw[List.find?_cons];rcases uP.1 a with rfl|a
  ·simp
  have:¬x.nm=t.nm:=fun e=>b.1 (by rw[e];exact uA.2 ⟨t,a,rfl⟩);simp only[this,decide_false];exact d b.2 a
theorem dM {tb:List Tab}(h:∀t∈tb,Uq t):0≤Sn tb:=by
 induction tb with
 |nil=>exact vU _
 |cons x tb a =>have c:=GZ (h x (by simp)).nn;have d:=a fun t b=>h t (by simp[b]);show 0≤Nr x.bag+Sn tb;omega
theorem XD {tb:List Tab}(h:∀t∈tb,Uq t){t:Tab}(a:t∈tb):Nr t.bag≤Sn tb:=by
 induction tb with
 |nil=>cases a
 |cons x tb b =>
  have c:=GZ (h x (by simp)).nn;have d:=dM (tb:=tb) fun t a=>h t (by simp[a]);show _≤Nr x.bag+Sn tb;rcases uP.1 a with rfl|a
  ·omega
  have:=b (fun t a=>h t (by simp[a])) a;omega
structure KM (us:List Bool) (B:Bag):Prop where
 nn:nn B
 rows:Nr B≤60
 wts:Wt B≤10000*60
 rt:RT us B
 bt:BT B
theorem oH {B:Bag}(a:nn B)(h:∀e∈B,∀v∈e.1,wv v≤9999)(hr:Nr B≤60):Wt B≤10000*60:=by
 have e1:Ci B xZ=Ci B (fun r=>min (xZ r) 10000):=Eg B fun e c=>by have:=RL (r:=e.1) (b:=9999) (by omega) (h e c);omega
 have e2:Ci B (fun r=>min (xZ r) 10000)≤Ci B (fun _=>10000*1):=Cv a fun r=>by omega
 rw[Ks] at e2;unfold Wt;rw[e1];unfold Nr at hr;omega
theorem Uq.Ur {t:Tab}(h:Uq t)(hr:Nr t.bag≤60):KM t.ts t.bag:=⟨h.nn,hr,oH h.nn h.num hr,h.rt,h.bt⟩
theorem B4.Ur {tb:List Tab}(h:B4 tb){t:Tab}(a:t∈tb):KM t.ts t.bag:=(h.each t a).Ur (vG (XD h.each a) h.rows)
theorem Zi:nn ([]:Bag)∧Nr ([]:Bag)≤60∧Wt ([]:Bag)≤10000*60:=⟨fun r=>vU _,by show (0:Int)≤60;decide,by show (0:Int)≤_;decide⟩
theorem KN {G:Nat→Bag}(h:∀j,nn (G j)∧Nr (G j)≤60∧Wt (G j)≤10000*60):J8 G 60∧J8 G 120 :=
 ⟨⟨fun i=>(h i).1,fun i=>(h i).2.1,fun i=>(h i).2.2⟩,⟨fun i=>(h i).1,fun i=>by have:=(h i).2.1;omega,fun i=>by have:=(h i).2.2;omega⟩⟩
theorem G0 {tb:List Tab}(h:B4 tb)(q:Q):J8 (D0 tb q) 60∧J8 (D0 tb q) 120:=KN fun j=>by
 unfold D0 Ed;cases (Ac q)[j]? with
 |none=>exact Zi
 |some nm =>
  simp only;cases a:Dw tb nm with
  |none=>exact Zi
  |some t=>exact⟨(h.Ur (Gb a).1).nn,(h.Ur (Gb a).1).rows,(h.Ur (Gb a).1).wts⟩
theorem Rb {tb:List Tab}(h:B4 tb)(q:Q):Hl (Li tb) q 0 (D0 tb q):=fun j nm us b c=>by
 unfold D0 Ed;rw[uL,b];simp only;obtain⟨t,a,rfl⟩:=uK.1 c;rw[a];exact⟨(h.Ur (Gb a).1).rt,(h.Ur (Gb a).1).bt⟩
theorem Hh {tb:List Tab}(h:B4 tb)(nm:List UInt8)(us:List Bool)(a:Li tb nm=some us):1≤us.length∧us.length≤6:=by
 obtain⟨t,b,rfl⟩:=uK.1 a;have:=(h.each t (Gb b).1).len;omega
theorem Xf (q:Q)(_:(Ac q).length≤60)(a:Al q≤2){f:Nat→Bag}(h:J8 f 60)(i:Nat):Nr (A1 f i q)≤50000000000:=by
 have hp:yB 3600 (Al q)≤3600*3600:=by have:=Ox (B:=3600) (by omega) a;simpa [yB] using this
 have b:=Ix (B:=3600) (by omega) (Al q);have c:=vG (Gl h (by omega) q i) (Nz (B:=3600) (by omega) q (by omega));have d:((Ac q).length:Int)*60*yB 3600 (Al q)≤3600*(3600*3600):=Ic (by omega) hp (by omega) (by omega);omega
end Go.Proofs.YtdinjjmcmfjbfaaGreatDoor.Mo
namespace Go.Proofs.YtdinjjmcmfjbfaaGreatDoor
open Go.RowKit Go.Shelf Mo Pl Tryz
theorem dN {ts:List Bool}{a b:Bag}(c:B2 ts a)(d:B2 ts b)(na:Nr a≤50000000000)(_:Nr b≤50000000000):OB ts (a++neg b):=by
 refine⟨fun r hr=>?_,fun r=>?_,?_⟩
 ·have hg:Ei ts r:=by
   rw[Ah,Ew] at hr;by_cases f:cnt a r=0
   ·exact d.good (by omega)
   exact c.good f
  exact⟨Uc hg c.six,hg.1⟩
 ·have g:=c.bd r;have h:=d.bd r;rw[Ah,Ew];omega
 have e:A9 (a++neg b) (neg (Ad b)++a):=fun r=>by rw[Ah,Ew,Ah,Ew,Aq];omega
 have g:=A3 (neg (Ad b)) a;have h:(neg (Ad b)).length=(Ad b).length:=by simp[neg]
 have i:=Jg c.nn;have j:=Jg d.nn;rw[e.canon];omega
theorem TA {ts:List Bool}{a:Bag}(b:B2 ts a)(na:Nr a≤50000000000):OB ts a:=by
 have:=dN b (B2.nil b.six) na (by show (0:Int)≤_;decide);simpa [neg] using this
end Go.Proofs.YtdinjjmcmfjbfaaGreatDoor
