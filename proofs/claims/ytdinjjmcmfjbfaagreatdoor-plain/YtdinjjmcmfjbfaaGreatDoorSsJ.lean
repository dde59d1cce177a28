import Derived.Test.YtdinjjmcmfjbfaaGreatDoorBeJ
import Derived.Shelf.Strings.BuilderK
set_option maxRecDepth 100000
set_option maxHeartbeats 4000000
namespace Go.Proofs.YtdinjjmcmfjbfaaGreatDoor
open Go.RowKit Go.Shelf
open Mo (V Row ty)
def Km (s:ByteArray):Bool:=(Pl.A5 s 0).1 && decide ((Pl.A5 s 0).2=s.size)
theorem aS (s:ByteArray):(Pl.A5 s 0).2≤4:=by
 have:=J7 s 97 122 4 0
 unfold Pl.A5 Pl.Ua
 show Pl.Dk s 97 122 4 0≤4
 omega
theorem Hm (s:ByteArray)(w:World) :
 Calls Tryz.prog 58 #[.string s] w fun e w'=>(∃nm,e=.returned (.tuple #[.string nm,.bool (Km s)])∧(Km s=true→nm=s))∧Ab No w w':=by
 by_cases r:s.size≤4
 ·have l:¬(4:Int)<(s.size:Int):=by omega
  have m:oH (RP (w.heap.size+1) s 0 ((w.alloc (.cells #[.string ⟨#[]⟩] 9)).alloc (.cells #[.string s,.int .i64 0] 93))):=⟨by omega,by have:=heap_alloc2_new w (.cells #[.string ⟨#[]⟩] 9) (.cells #[.string s,.int .i64 0] 93);exact this⟩
  have n:oH (((w.alloc (.cells #[.string ⟨#[]⟩] 9)).alloc (.cells #[.string s,.int .i64 0] 93)).heap[w.heap.size]? =some (.cells #[.string ⟨#[]⟩] 9 (0,0))):=heap_alloc2_old _ _ _
  go_enter Tryz.func58,Tryz.ntmps58
  go_wp2_with fail
  refine (Rs (w.heap.size+1) w.heap.size 0 4 4 s 0 #[.string ⟨#[]⟩] 9 _ (by omega) (by omega) rfl (by omega) m.o n.o (by simp)).mono ?_
  rintro e b ⟨ok1,a1,h,rfl,p1,j,c1⟩;have c:oH (Pl.A5 s 0=(ok1,a1)):=h;have o:=Ad p1
  have k:oH (Ab No w b):=(((Ab.refl No w).alloc _).alloc _).trans j (fun _ e=>e.elim) (fun i hi e=>by rcases e with e|e <;> omega)
  have d:=Ad c1;clear h p1 j c1
  cases ok1
  ·have a:oH (Km s=false):=by show _=_;unfold Km;rw[c.o];rfl
   have f:b.cell? ⟨w.heap.size,0,none⟩=some (.string ⟨#[]⟩):=(Ae d.o 0).trans rfl;go_wp2_with fail;go_ret2
   rw[a.o]
   exact⟨⟨_,rfl,fun e=>by cases e⟩,k.o⟩
  ·have f:b.cell? ⟨w.heap.size,0,none⟩=some (.string (s.extract 0 a1)):=(Ae d.o 0).trans rfl
   go_wp2_with fail;refine (Pm (w.heap.size+1) s a1 b o.o).mono ?_;rintro e t ⟨rfl,g⟩;have c1:=(g.cell (Aa d.o) oI).trans f
   have a:oH (Km s=decide (a1=s.size)):=by show _=_;unfold Km;rw[c.o];rfl
   have p:=Ad (k.o.seq g)
   have q:oH (a1=s.size→s.extract 0 a1=s):=fun e=>by
    subst e;exact ByteArray.extract_zero_size
   generalize decide (a1=s.size)=dd at a;clear g f;go_wp2_with fail;go_ret2
   refine⟨⟨_,?_,fun e=>q.o ?_⟩,p.o⟩
   ·rw[a.o];rfl
   ·have:=c.o
    unfold Km at e
    rw[this] at e
    simpa using e
 ·have l:(4:Int)<(s.size:Int):=by omega
  have a:oH (Km s=false):=by
   show _=_
   have:=aS s
   unfold Km
   have:¬(Pl.A5 s 0).2=s.size:=by omega
   simp[this]
  go_enter Tryz.func58,Tryz.ntmps58
  go_wp2_with fail;go_ret2
  rw[a.o]
  exact⟨⟨_,rfl,fun e=>by cases e⟩,Ab.refl _ _⟩
def JN (c:UInt8):Option Bool:=if c=105 then some false else if c=116 then some true else none
def Kn:List UInt8→Option (List Bool)
 | []=>some []
 |c::l=>match JN c with
  |none=>none
  |some b=>(Kn l).map (b::·)
def C6 (s:ByteArray):Option (List Bool):=if 1≤s.size∧s.size≤4 then Kn s.data.toList else none
theorem EJ:∀{l:List UInt8} {us:List Bool},Kn l=some us→us.length=l.length
 | [],us,h=>by have:[]=us:=by simpa [Kn] using h
               subst this;rfl
 |c::l,us,h=>by
  unfold Kn at h
  cases a:JN c with
  |none=>rw[a] at h;cases h
  |some b =>
   rw[a] at h
   obtain⟨vs,hv,rfl⟩:=lJ.1 h
   simp[EJ hv]
theorem Y8:∀{l:List UInt8} {i:Nat} {c:UInt8},l[i]? =some c→JN c=none→Kn l=none
 | [],i,c,h,_=>by simp at h
 |d::l,0,c,h,a=>by have:d=c:=by simpa using h
                   subst this;unfold Kn;rw[a]
 |d::l,i+1,c,h,a=>by
  unfold Kn
  rw[Y8 (l:=l) (by simpa using h) a]
  cases JN d <;> rfl
theorem EK:∀{l:List UInt8} {us:List Bool},us.length=l.length→(∀(i:Nat) (c:UInt8) (b:Bool),l[i]? =some c→us[i]? =some b→JN c=some b)→Kn l=some us
 | [],[],_,_=>rfl
 |c::l,b::us,h,a=>by
  unfold Kn
  rw[a 0 c b rfl rfl]
  show (Kn l).map (b::·)=_
  rw[EK (l:=l) (us:=us) (by simpa using h) (fun i d b' e f=>a (i+1) d b' (by simpa using e) (by simpa using f))]
  rfl
def Pt (r:Option (List Bool))(w:World)(e:Ending)(w':World):Prop :=
 Ab No w w'∧((∃us b cap,r=some us∧e=.returned (.tuple #[.slice (some ⟨b,0,none⟩) us.length cap,.bool true])∧w.heap.size≤b∧Pq w' (.slice (some ⟨b,0,none⟩) us.length cap) us)∨(r=none∧∃v,e=.returned (.tuple #[v,.bool false])))
theorem Gu (s:ByteArray)(w:World) :
 Calls Tryz.prog 59 #[.string s] w (Pt (C6 s) w):=by
 by_cases t:1≤s.size∧s.size≤4
 ·have v:¬(s.size:Int)<1:=by omega
  have D:¬(4:Int)<(s.size:Int):=by omega
  obtain⟨n,E⟩:∃n,s.size=n:=⟨_,rfl⟩
  have F:=Ad E
  have G:oH (C6 s=Kn s.data.toList):=by show _=_;unfold C6;rw[if_pos t]
  rw[E] at t v D
  obtain⟨N,O,Q,R,S⟩:=info_parts VB
  obtain⟨H,_,I,J⟩:=run_make_full (P:=Tryz.prog) w w.heap.size 78 130 N (.int .i32 0) 1 Tryz.underlying78 O Q R .i64 .i64 n (by rw[S];omega) (by unfold maxLen;omega) (kZ _)
  go_enter Tryz.func59,Tryz.ntmps59
  obtain⟨T,K,Hg⟩:∃c,H.heap[w.heap.size]? =some (.cells c 130 (0,0))∧c.size=n:=by
   rcases I.2 with ⟨x,_⟩|⟨g',cap',cur,x,_,hg,_,_,h3,_⟩
   ·cases x
   ·injection x with e1 L ab
    injection e1 with e1
    injection e1 with e1
    subst e1
    exact⟨cur,hg,by omega⟩
  have U:=Ad K
  have V:oH (Ab No w H):=(Ab.refl _ _).grown J (fun r e=>by cases e)
  clear I J K;go_wp2_with fail
  go_loopg [19] n (fun k W wr=>∃(i:Nat) (c:Array Value) (us:List Bool),i+k=n∧W=.int .i64 (i:Int)∧us.length=i∧c.size=n∧oH (wr.heap[w.heap.size]? =some (.cells c 130 (0,0)))∧oH (∀(j:Nat) (b:Bool),us[j]? =some b→c[j]? =some (.int .i32 (Sh b)))∧oH (∀(j:Nat) (g:UInt8) (b:Bool),s.data.toList[j]? =some g→us[j]? =some b→JN g=some b)∧oH (Ab No w wr))
  case atStart=>exact⟨0,T,[],by omega,rfl,rfl,Hg,U,Ad (by simp),Ad (by simp),V⟩
  case round =>
   obtain⟨i,c,us,_,rfl,h,M,l,y,z,u⟩:=hrel
   cases gk with
   |zero =>
    have X:¬(i:Int)<(n:Int):=by omega
    have q:oH (C6 s=some us):=by
     show _=_
     rw[G.o]
     exact EK (by rw[h,Lr,F.o];omega) z.o
    have Y:oH (Pq wr (.slice (some ⟨w.heap.size,0,none⟩) us.length n) us):=⟨w.heap.size,0,n,rfl,⟨_,_,l.o⟩,by omega,by unfold maxLen;omega,fun j b f=>by rw[Ae l.o,lK];exact y.o j b f⟩
    have Z:oH (us.length=n):=by show _=_;omega
    clear h;go_wp2_with fail;go_ret2
    refine⟨u.o,.inl ⟨us,w.heap.size,n,q.o,?_,kZ _,Y.o⟩⟩
    rw[Z.o];rfl
   |succ k =>
    have X:(i:Int)<(n:Int):=by omega
    have ac:(0:Int)≤(i:Int):=by omega
    have aa:i<s.size:=by have:=F.o;omega
    have ad:=Aa l.o
    have ae:wr.cell? ⟨w.heap.size,i,none⟩=some c[i]:=by rw[Ae l.o,lE (by omega)]
    have af:wr.frozen? ⟨w.heap.size,i,none⟩=false:=Aj l.o i
    have A:oH (s.data.toList[i]? =some s[i]):=by show _=_;simp[aa];rfl
    by_cases d:s[i]=105
    ·have e1:((s[i].toNat:Int) == 105)=true:=by rw[d];rfl
     have B:oH (JN s[i]=some false):=by show _=_;rw[d];rfl
     clear d;go_wp2_with fail;go_roundg k
     case measure=>omega
     case rel =>
      refine⟨i+1,c.setIfInBounds i (.int .i32 (Sh false)),us++[false],by omega,by go_num,by simp[h],by simp[M],Ap l.o i _,?_,?_,Ad (u.o.setCell (.inl (kZ _)) _)⟩
      ·refine Ad ?_
       intro j b f
       rw[lX]
       by_cases m:j<us.length
       ·rw[lA m] at f
        rw[if_neg (by omega)];exact y.o j b f
       ·rw[kY (by omega)] at f
        have o:=(kS.1 f).1
        simp at o
        have p:j=i:=by omega
        subst p
        have:false=b:=by simpa [h] using f
        subst this
        rw[if_pos rfl,if_pos (by omega)]
      ·refine Ad ?_
       intro j g b d a
       by_cases m:j<us.length
       ·rw[lA m] at a
        exact z.o j g b d a
       ·rw[kY (by omega)] at a
        have o:=(kS.1 a).1
        simp at o
        have p:j=i:=by omega
        subst p
        have C:false=b:=by simpa [h] using a
        subst C
        have:s[j]=g:=by have:=A.o.symm.trans d;simpa using this
        rw[←this];exact B.o
    ·by_cases a:s[i]=116
     ·have e1:((s[i].toNat:Int) == 105)=false:=by rw[a];rfl
      have L:((s[i].toNat:Int) == 116)=true:=by rw[a];rfl
      have B:oH (JN s[i]=some true):=by show _=_;rw[a];rfl
      clear d a;go_wp2_with fail;go_roundg k
      case measure=>omega
      case rel =>
       refine⟨i+1,c.setIfInBounds i (.int .i32 (Sh true)),us++[true],by omega,by go_num,by simp[h],by simp[M],Ap l.o i _,?_,?_,Ad (u.o.setCell (.inl (kZ _)) _)⟩
       ·refine Ad ?_
        intro j b f
        rw[lX]
        by_cases m:j<us.length
        ·rw[lA m] at f
         rw[if_neg (by omega)];exact y.o j b f
        ·rw[kY (by omega)] at f
         have o:=(kS.1 f).1
         simp at o
         have p:j=i:=by omega
         subst p
         have:true=b:=by simpa [h] using f
         subst this
         rw[if_pos rfl,if_pos (by omega)]
       ·refine Ad ?_
        intro j g b d a
        by_cases m:j<us.length
        ·rw[lA m] at a
         exact z.o j g b d a
        ·rw[kY (by omega)] at a
         have o:=(kS.1 a).1
         simp at o
         have p:j=i:=by omega
         subst p
         have C:true=b:=by simpa [h] using a
         subst C
         have:s[j]=g:=by have:=A.o.symm.trans d;simpa using this
         rw[←this];exact B.o
     ·have e1:((s[i].toNat:Int) == 105)=false:=by
       rw[beq_eq_false_iff_ne];intro e;exact d (nA.1 (by rw[show (105:UInt8).toNat=105 from rfl];omega))
      have L:((s[i].toNat:Int) == 116)=false:=by
       rw[beq_eq_false_iff_ne];intro e;exact a (nA.1 (by rw[show (116:UInt8).toNat=116 from rfl];omega))
      have q:oH (C6 s=none):=by
       show _=_
       rw[G.o]
       exact Y8 A.o (by unfold JN;rw[if_neg d,if_neg a])
      clear d a;go_wp2_with fail;go_ret2
      exact⟨u.o,.inr ⟨q.o,_,rfl⟩⟩
 ·have q:oH (C6 s=none):=by show _=_;unfold C6;rw[if_neg t]
  by_cases d:s.size<1
  ·have v:(s.size:Int)<1:=by omega
   clear t
   go_enter Tryz.func59,Tryz.ntmps59
   go_wp2_with fail;go_ret2
   exact⟨Ab.refl _ _,.inr ⟨q.o,_,rfl⟩⟩
  ·have v:¬(s.size:Int)<1:=by omega
   have D:(4:Int)<(s.size:Int):=by omega
   clear t
   go_enter Tryz.func59,Tryz.ntmps59
   go_wp2_with fail;go_ret2
   exact⟨Ab.refl _ _,.inr ⟨q.o,_,rfl⟩⟩
end Go.Proofs.YtdinjjmcmfjbfaaGreatDoor
namespace Go.Proofs
open Go.Shelf Go.RowKit
def Tryz.eJ:Go.Shelf.Ren:=⟨fun|240=>129|276=>164|167=>83|166=>84|n=>n,fun|0=>0|3=>3|4=>4|5=>5|9=>9|20=>20|37=>149|70=>177|72=>179|75=>181|80=>89|164=>306|n=>n,fun|n=>n⟩
theorem Tryz.VK:Go.Proofs.Lays.n166 Tryz.prog Tryz.eJ:={
 mixed:=by kernel_rfl
 f166:=Tryz.func84.trans (congrArg some (by kernel_rfl))
 f240:=Tryz.func129.trans (congrArg some (by kernel_rfl))
 f276:=Tryz.func164.trans (congrArg some (by kernel_rfl))
 t0:=Tryz.underlying0
 a0:=Tryz.isAgg0
 z0:=Tryz.sizeOf0
 v0:=Tryz.zeroValue0
 t3:=Tryz.underlying3
 a3:=Tryz.isAgg3
 z3:=Tryz.sizeOf3
 v3:=Tryz.zeroValue3
 t4:=Tryz.underlying4
 a4:=Tryz.isAgg4
 z4:=Tryz.sizeOf4
 v4:=Tryz.zeroValue4
 t9:=Tryz.underlying9
 a9:=Tryz.isAgg9
 z9:=Tryz.sizeOf9
 v9:=Tryz.zeroValue9
 t20:=Tryz.underlying20
 a20:=Tryz.isAgg20
 z20:=Tryz.sizeOf20
 v20:=Tryz.zeroValue20
 t37:=Tryz.underlying149
 a37:=Tryz.isAgg149
 z37:=Tryz.sizeOf149
 v37:=Tryz.zeroValue149
 t70:=Tryz.underlying177
 a70:=Tryz.isAgg177
 z70:=Tryz.sizeOf177
 v70:=Tryz.zeroValue177
 t72:=Tryz.underlying179
 a72:=Tryz.isAgg179
 z72:=Tryz.sizeOf179
 v72:=Tryz.zeroValue179
 t75:=Tryz.underlying181
 a75:=Tryz.isAgg181
 z75:=Tryz.sizeOf181
 v75:=Tryz.zeroValue181
 t164:=Tryz.underlying306
 a164:=Tryz.isAgg306
 z164:=Tryz.sizeOf306
 v164:=Tryz.zeroValue306 }
theorem Tryz.VL:Go.Proofs.Lays.n167 Tryz.prog Tryz.eJ:={
 mixed:=by kernel_rfl
 f167:=Tryz.func83.trans (congrArg some (by kernel_rfl))
 f240:=Tryz.func129.trans (congrArg some (by kernel_rfl))
 f276:=Tryz.func164.trans (congrArg some (by kernel_rfl))
 t0:=Tryz.underlying0
 a0:=Tryz.isAgg0
 z0:=Tryz.sizeOf0
 v0:=Tryz.zeroValue0
 t4:=Tryz.underlying4
 a4:=Tryz.isAgg4
 z4:=Tryz.sizeOf4
 v4:=Tryz.zeroValue4
 t5:=Tryz.underlying5
 a5:=Tryz.isAgg5
 z5:=Tryz.sizeOf5
 v5:=Tryz.zeroValue5
 t9:=Tryz.underlying9
 a9:=Tryz.isAgg9
 z9:=Tryz.sizeOf9
 v9:=Tryz.zeroValue9
 t20:=Tryz.underlying20
 a20:=Tryz.isAgg20
 z20:=Tryz.sizeOf20
 v20:=Tryz.zeroValue20
 t37:=Tryz.underlying149
 a37:=Tryz.isAgg149
 z37:=Tryz.sizeOf149
 v37:=Tryz.zeroValue149
 t70:=Tryz.underlying177
 a70:=Tryz.isAgg177
 z70:=Tryz.sizeOf177
 v70:=Tryz.zeroValue177
 t72:=Tryz.underlying179
 a72:=Tryz.isAgg179
 z72:=Tryz.sizeOf179
 v72:=Tryz.zeroValue179
 t75:=Tryz.underlying181
 a75:=Tryz.isAgg181
 z75:=Tryz.sizeOf181
 v75:=Tryz.zeroValue181
 t164:=Tryz.underlying306
 a164:=Tryz.isAgg306
 z164:=Tryz.sizeOf306
 v164:=Tryz.zeroValue306 }
theorem Tryz.VM:Builder.Extra Tryz.prog Tryz.eJ:={
 sizeBuilder:=by kernel_rfl
 liesBuilder:=by kernel_rfl
 t5:=Tryz.underlying5
 a5:=Tryz.isAgg5
 z5:=Tryz.sizeOf5
 v5:=Tryz.zeroValue5
 infoByte:=by kernel_rfl
 cellsByte:=by kernel_rfl
 sizeByte:=by kernel_rfl
 neB5:=by decide }
theorem Tryz.JO (B b:Nat)(a:List Value)(c:Int)(w:World)(h:Lib.IsBuilderF 179 5 B b a w)(d:a.length+1≤140737488355328)(f:B≤w.heap.size) :
 Calls Tryz.prog 83 #[.pointer (some ⟨b,0,none⟩),.int .u8 c] w fun e w'=>e=.returned .nilIface∧(Lib.BuilderAtF 179 5 B b (.pointer (some ⟨b,0,none⟩)) (a++[.int .u8 c]) w'∧Below B w w'∧Lib.OthersKept 5 (some b) w w'):=Any.Builder_WriteByte_k Tryz.VL Tryz.VM B b a c w h d f
theorem Tryz.Sj (B b:Nat)(a:List Value)(s:ByteArray)(w:World)(h:Lib.IsBuilderF 179 5 B b a w)(c:a.length+s.size≤140737488355328)(d:B≤w.heap.size) :
 Calls Tryz.prog 84 #[.pointer (some ⟨b,0,none⟩),.string s] w fun e w'=>e=.returned (.tuple #[.int .i64 s.size,.nilIface])∧(Lib.BuilderAtF 179 5 B b (.pointer (some ⟨b,0,none⟩)) (a++Lib.strCells s) w'∧Below B w w'∧Lib.OthersKept 5 (some b) w w'):=Any.Builder_WriteString_k Tryz.VK Tryz.VM B b a s w h c d
def Tryz.iL:Go.Shelf.Ren:=⟨fun|169=>85|n=>n,fun|70=>177|9=>9|0=>0|72=>179|37=>149|127=>255|3=>3|5=>5|n=>n,fun|n=>n⟩
theorem Tryz.VN:Go.Proofs.Lays.n169 Tryz.prog Tryz.iL:={
 mixed:=by kernel_rfl
 f169:=Tryz.func85.trans (congrArg some (by kernel_rfl))
 t0:=Tryz.underlying0
 a0:=Tryz.isAgg0
 z0:=Tryz.sizeOf0
 v0:=Tryz.zeroValue0
 t3:=Tryz.underlying3
 a3:=Tryz.isAgg3
 z3:=Tryz.sizeOf3
 v3:=Tryz.zeroValue3
 t9:=Tryz.underlying9
 a9:=Tryz.isAgg9
 z9:=Tryz.sizeOf9
 v9:=Tryz.zeroValue9
 t37:=Tryz.underlying149
 a37:=Tryz.isAgg149
 z37:=Tryz.sizeOf149
 v37:=Tryz.zeroValue149
 t70:=Tryz.underlying177
 a70:=Tryz.isAgg177
 z70:=Tryz.sizeOf177
 v70:=Tryz.zeroValue177
 t72:=Tryz.underlying179
 a72:=Tryz.isAgg179
 z72:=Tryz.sizeOf179
 v72:=Tryz.zeroValue179
 t127:=Tryz.underlying255
 a127:=Tryz.isAgg255
 z127:=Tryz.sizeOf255
 v127:=Tryz.zeroValue255 }
theorem Tryz.eK:Builder.Extra Tryz.prog Tryz.iL:={
 sizeBuilder:=by kernel_rfl
 liesBuilder:=by kernel_rfl
 t5:=Tryz.underlying5
 a5:=Tryz.isAgg5
 z5:=Tryz.sizeOf5
 v5:=Tryz.zeroValue5
 infoByte:=by kernel_rfl
 cellsByte:=by kernel_rfl
 sizeByte:=by kernel_rfl
 neB5:=by decide }
theorem Tryz.aT (B b:Nat)(l:List UInt8)(w:World)(h:Lib.IsBuilderF 179 5 B b (Lib.byteCells l) w)(a:B≤w.heap.size) :
 Calls Tryz.prog 85 #[.pointer (some ⟨b,0,none⟩)] w fun e w'=>e=.returned (.string ⟨l.toArray⟩)∧(Lib.IsBuilderF 179 5 B b (Lib.byteCells l) w'∧Below B w w'∧Lib.OthersKept 5 (some b) w w'):=Any.Builder_String_any_k Tryz.VN Tryz.eK B b l w h a
end Go.Proofs
namespace Go.Proofs.YtdinjjmcmfjbfaaGreatDoor
open Go.RowKit Go.Shelf
open Mo (V Row Bag cnt Af Be B0 Fw neg)
def Lh:Nat→List (List UInt8)→List UInt8
 |_,[]=>[]
 |i,t::ts=>(if i=0 then [] else [124])++(t++Lh (i+1) ts)
def Qd (ts:List (List UInt8)):List UInt8:=Lh 0 ts
theorem AY (ts:List (List UInt8))(t:List UInt8):∀i,Lh i (ts++[t])=Lh i ts++((if i+ts.length=0 then [] else [124])++t):=by
 induction ts with
 |nil=>intro i;simp[Lh]
 |cons x r a=>intro i;simp[Lh,a,Nat.add_assoc,Nat.add_comm 1]
theorem Tz (ts:List (List UInt8))(i:Nat)(t:List UInt8)(a:ts[i]? =some t):Qd (ts.take (i+1))=Qd (ts.take i)++((if i=0 then [] else [124])++t):=by
 have hi:=(kS.1 a).1
 rw[lL,a]
 show Lh 0 (ts.take i++[t])=_
 rw[AY]
 have:(ts.take i).length=i:=by rw[lV];omega
 rw[this,lK];rfl
theorem EL {ts:List (List UInt8)}{N:Nat}(h:∀t∈ts,t.length≤N):∀i,i≤ts.length→(Qd (ts.take i)).length≤(N+1)*i
 |0,_=>by simp[Qd,Lh]
 |i+1,hi=>by
  have b:=EL h i (by omega)
  obtain⟨t,a⟩:∃t,ts[i]? =some t:=⟨_,kT (by omega)⟩
  have c:=h t (kW a)
  rw[Tz _ i t a,Nat.mul_add]
  simp only[kU]
  split
  ·simp;omega
  ·simp;omega
def WB (b:Nat)(w w':World):Prop:=Ab (fun k=>b≤k∧(k=b∨Is 5 w k)) w w'
theorem WB.of {b:Nat}{w w':World}(h:Below b w w')(k:Lib.OthersKept 5 (some b) w w'):WB b w w':=⟨h.os,h.tape,h.output,h.size,fun i hi a=>by
 by_cases d:i<b
 ·exact h.block i d
 ·obtain⟨o,ho⟩:∃o,w.heap[i]? =some o:=⟨_,lE hi⟩
  rw[ho]
  refine k i o ho (fun e=>a ⟨by omega,.inl (by simpa using e)⟩) fun c fz e=>a ⟨by omega,.inr ⟨c,fz,by rw[ho,e]⟩⟩⟩
theorem Qm {T:TypeId}{B b:Nat}{a:List Value}{w w':World}(h:Lib.IsBuilderF T 5 B b a w)(c:∀k,k<w.heap.size→(k=b∨Is 5 w k)→w'.heap[k]? =w.heap[k]?):Lib.IsBuilderF T 5 B b a w':=by
 have one:∀p,Lib.BuilderAtF T 5 B b p a w→Lib.BuilderAtF T 5 B b p a w':=fun p ⟨i,v,d,f,j⟩=>by
  refine⟨i,v,(c b (Aa d) (.inl rfl)).trans d,⟨f.1,?_⟩,j⟩
  rcases f.2 with hn|⟨g,cap,l,fz,e,m,hg,n⟩
  ·exact .inl hn
  ·exact .inr ⟨g,cap,l,fz,e,m,(c g (Aa hg) (.inr ⟨_,_,hg⟩)).trans hg,n⟩
 exact h.imp (one _) (one _)
theorem LU {T t:List UInt8}(h:T.length+t.length≤140737488355328):(Lib.byteCells T).length+ByteArray.size ⟨t.toArray⟩≤140737488355328:=by
 have a:(Lib.byteCells T).length=T.length:=by simp[Lib.byteCells]
 have b:ByteArray.size ⟨t.toArray⟩=t.length:=by simp[ByteArray.size]
 rw[a,b];exact h
theorem X0 (l:List UInt8):(Lib.byteCells l).length=l.length:=by simp[Lib.byteCells]
theorem EM (p n cap:Nat)(O:Option Addr)(blk:Nat→Nat)(ts:List (List UInt8))(b:Nat→World→Prop)(w:World)(_:p<w.heap.size)(_:w.cell? ⟨p,1,none⟩=some (.slice O n cap))(_:n≤6)(P:ts.length=n)(Q:∀t∈ts,t.length≤20000000000000)
 (R:b 0 w) (B:∀i a c,b i a→w.heap.size≤a.heap.size→Ab (fun k=>w.heap.size≤k∧(k=w.heap.size∨Is 5 a k)) a c→b i c)
 (S:∀i wr,b i wr→i<n→∃g o,O=some ⟨g,o,none⟩∧wr.cell? ⟨g,o+i,none⟩=some (.pointer (some ⟨blk i,0,none⟩)))
 (U:∀i t wr,b i wr→w.heap.size<wr.heap.size→ts[i]? =some t→Calls Tryz.prog 40 #[.pointer (some ⟨blk i,0,none⟩)] wr fun e w'=>e=.returned (.string ⟨t.toArray⟩)∧b (i+1) w'∧Ab (fun k=>k≠w.heap.size∧¬Is 5 wr k) wr w') :
 Calls Tryz.prog 48 #[.pointer (some ⟨p,0,none⟩)] w fun e w'=>e=.returned (.string ⟨(Qd ts).toArray⟩)∧b n w'∧w.heap.size≤w'.heap.size:=by
 have ag:=Ad S;have V:=Ad U;have x:=Ad B;have C:=Ad P;have W:=Ad Q;have ah:oH (b 0 (w.alloc (.cells #[.pointer none,.slice none 0 0] 179))):=B 0 w _ R (kZ _) ((Ab.refl _ w).alloc _);clear S U B R P Q
 go_enter Tryz.func48,Tryz.ntmps48
 go_wp2_with fail
 go_loopg [11] n (fun k ai wr=>∃i:Nat,i+k=n∧ai=.int .i64 (i:Int)∧oH (Lib.IsBuilderF 179 5 w.heap.size w.heap.size (Lib.byteCells (Qd (ts.take i))) wr)∧oH (b i wr)∧oH (w.heap.size<wr.heap.size))
 case atStart=>exact⟨0,by omega,rfl,Ad (Lib.IsBuilderF.of (Lib.fresh_isBuilder _ _ w)),ah,Ad (by simp)⟩
 case round =>
  obtain⟨i,aj,rfl,hB,y,f⟩:=hrel
  have X:=EL (ts:=ts) (N:=20000000000000) W.o i (by have:=C.o;omega)
  cases gk with
  |zero =>
   have ak:¬(i:Int)<(n:Int):=by omega
   have al:oH (ts.take i=ts):=lT (by have:=C.o;omega)
   have am:oH (i=n):=by show _=_;omega
   clear X aj;go_wp2_with fail;refine (Tryz.aT w.heap.size w.heap.size _ _ hB.o (mR f.o)).mono ?_;rintro e w3 ⟨rfl,-,D,Y⟩
   have l:oH (b n w3):=by rw[←am.o];exact x.o i wr w3 y.o (mR f.o) (WB.of D Y)
   have d:oH (w.heap.size≤w3.heap.size):=lH (mR f.o) D.size;clear D Y;go_wp2_with fail;go_ret
   exact⟨by rw[al.o];rfl,l.o,d.o⟩
  |succ k =>
   have ak:(i:Int)<(n:Int):=by omega
   have aq:(0:Int)≤(i:Int):=by omega
   obtain⟨t,z⟩:∃t,ts[i]? =some t:=⟨_,kT (by have:=C.o;omega)⟩
   have ar:=W.o t (kW z);have Z:=Ad (Tz ts i t z);have aa:=Ad z
   obtain⟨g,o,rfl,ab⟩:=ag.o i wr y.o (by omega)
   obtain⟨T,E⟩:∃T,Qd (ts.take i)=T:=⟨_,rfl⟩
   have ac:=Ad E
   rw[E] at hB X
   clear E z
   by_cases A:i=0
   ·have an:¬(0:Int)<(i:Int):=by omega
    have F:=Ad A;have m:=Ad (V.o i t wr y.o f.o aa.o);clear A;go_wp2_with fail;refine m.o.mono ?_;rintro e w3 ⟨rfl,q,h⟩;have l:=Ad q;have d:oH (w.heap.size<w3.heap.size):=kV f.o h.size
    have G:oH (Lib.IsBuilderF 179 5 w.heap.size w.heap.size (Lib.byteCells T) w3):=Qm hB.o fun k H e=>h.block k H (fun r=>e.elim r.1 r.2)
    clear q h m ab;go_wp2_with fail
    refine (Tryz.Sj w.heap.size w.heap.size _ _ _ G.o (LU (by omega)) (mR d.o)).mono ?_
    rintro e w4 ⟨rfl,s,j,u⟩;have I:oH (b (i+1) w4):=x.o (i+1) w3 w4 l.o (mR d.o) (WB.of j u);have J:oH (w.heap.size<w4.heap.size):=kV d.o j.size
    have K:oH (Lib.IsBuilderF 179 5 w.heap.size w.heap.size (Lib.byteCells (T++t)) w4):=by
     rw[Lib.byteCells_append];exact .inr s
    clear s j u;go_wp2_with fail;go_roundg k
    case measure=>omega
    case rel =>
     refine⟨i+1,by omega,by go_num,?_,I,J⟩
     rw[Z.o,ac.o,if_pos F.o,mU]
     exact K
   ·have an:(0:Int)<(i:Int):=by omega
    have F:=Ad A;clear A;go_wp2_with fail
    refine (Tryz.JO w.heap.size w.heap.size _ 124 _ hB.o (by rw[X0];omega) (mR f.o)).mono ?_
    rintro e v ⟨rfl,ad,L,ae⟩;have af:b i v:=x.o i wr v y.o (mR f.o) (WB.of L ae);have M:w.heap.size<v.heap.size:=kV f.o L.size
    have ao:oH (Lib.IsBuilderF 179 5 w.heap.size w.heap.size (Lib.byteCells (T++[124])) v):=by
     rw[Lib.byteCells_append];exact .inr ad
    have m:=Ad (V.o i t v af M aa.o);have ap:=Ad M;clear af ad L ae M ab;go_wp2_with fail;refine m.o.mono ?_;rintro e w3 ⟨rfl,q,h⟩;have l:=Ad q;have d:oH (w.heap.size<w3.heap.size):=kV ap.o h.size
    have G:oH (Lib.IsBuilderF 179 5 w.heap.size w.heap.size (Lib.byteCells (T++[124])) w3):=Qm ao.o fun k H e=>h.block k H (fun r=>e.elim r.1 r.2)
    clear q h m;go_wp2_with fail
    refine (Tryz.Sj w.heap.size w.heap.size _ _ _ G.o (LU (by rw[kU];simp only[lN,nB];omega)) (mR d.o)).mono ?_
    rintro e w4 ⟨rfl,s,j,u⟩;have I:oH (b (i+1) w4):=x.o (i+1) w3 w4 l.o (mR d.o) (WB.of j u);have J:oH (w.heap.size<w4.heap.size):=kV d.o j.size
    have K:oH (Lib.IsBuilderF 179 5 w.heap.size w.heap.size (Lib.byteCells (T++[124]++t)) w4):=by
     rw[Lib.byteCells_append];exact .inr s
    clear s j u;go_wp2_with fail;go_roundg k
    case measure=>omega
    case rel =>
     refine⟨i+1,by omega,by go_num,?_,I,J⟩
     rw[Z.o,ac.o,if_neg F.o,←nE]
     exact K
open Go.RowKit
open Mo (V Row Q Cy Ac Ag wf iS Z7)
section
variable {s:ByteArray} {f g h:Nat→Bool×Nat} {a b:Nat}
theorem Ea (e:Pl.Ck f g a=(true,b)):∃c,f a=(true,c)∧g c=(true,b):=by
 unfold Pl.Ck at e
 by_cases d:(f a).1=true
 ·rw[if_pos d] at e;exact⟨(f a).2,Prod.ext d rfl,e⟩
 ·rw[if_neg d] at e;cases e
theorem AZ (e:Pl.Je f g h a=(true,b)):(∃c,f a=(true,c)∧g c=(true,b))∨((f a).1=false∧h (f a).2=(true,b)):=by
 unfold Pl.Je at e
 by_cases d:(f a).1=true
 ·rw[if_pos d] at e;exact .inl ⟨(f a).2,Prod.ext d rfl,e⟩
 ·rw[if_neg d] at e;exact .inr ⟨by simpa using d,e⟩
theorem Ko {c:Nat}(e:Pl.tk s c a=(true,b)):Pl.bt s a=c∧b=a+1:=by
 unfold Pl.tk at e
 by_cases d:Pl.bt s a=c
 ·rw[if_pos d] at e;exact⟨d,by simpa using e.symm⟩
 ·rw[if_neg d] at e;cases e
theorem Pu (e:Pl.Hr s a=(true,b)):b=a+1∧Kw s a<10:=by
 have c:=Zy e
 refine⟨c,?_⟩
 by_cases d:48≤Pl.bt s a∧Pl.bt s a≤57
 ·unfold Kw;omega
 ·unfold Pl.Hr at e;rw[Pl.N2 d] at e;cases e
end
theorem U5 {s:ByteArray}{a b:Nat}(c:a≤s.size)(e:Pl.A5 s a=(true,b)):Z7 (.txt (G3 s a b)):=by
 obtain⟨_,d,_,f⟩:=Pe (by omega) c e
 have g:=Rn (s:=s) (a:=a) d
 exact⟨by omega,by omega,f⟩
theorem aU {s:ByteArray}{a b:Nat}(e:Pl.Hv s a=(true,b)):iS (El s a):=by
 unfold El
 rcases AZ e with ⟨c,f,g⟩|⟨f,g⟩
 ·obtain⟨d,rfl⟩:=Ko f
  rw[if_pos d]
  have l:=Pl.B4 (s:=s) (a:=a) (by omega)
  have i:=(Oa (by omega) g).2.2
  have j:(Pl.Cl s (a+1)).2=b:=by rw[g]
  rw[j]
  exact CC i
 ·have m:¬Pl.bt s a=35:=fun k=>by rw[Pl.I6 k] at f;cases f
  have n:(Pl.tk s 35 a).2=a:=Pl.Hc s 35 a f
  rw[n] at g
  rw[if_neg m]
  rcases AZ g with ⟨c,d,h⟩|⟨d,h⟩
  ·obtain⟨i,rfl⟩:=Ko d
   rw[if_pos i]
   have l:=Pl.B4 (s:=s) (a:=a) (by omega)
   have j:(Pl.A5 s (a+1)).2=b:=by rw[h]
   rw[j]
   exact U5 (by omega) h
  ·have o:¬Pl.bt s a=36:=fun k=>by rw[Pl.I6 k] at d;cases d
   have p:(Pl.tk s 36 a).2=a:=Pl.Hc s 36 a d
   rw[p] at h
   rw[if_neg o]
   exact (Pu h).2
theorem LV {s:ByteArray}:∀(k a b:Nat),Pl.C9 s k a=(true,b)→1≤(Ct s k a).length∧(Ct s k a).length≤k+1∧∀c∈Ct s k a,c<10
 |0,a,b,e=>by
  obtain⟨c,h,i⟩:=Ea e
  have:=(Pu h).2
  exact⟨by simp[Ct],by simp[Ct],fun c f=>by simp[Ct] at f;omega⟩
 |k+1,a,b,e=>by
  obtain⟨c,h,i⟩:=Ea e
  obtain⟨rfl,l⟩:=Pu h
  unfold Ct
  rcases AZ i with ⟨d,g,j⟩|⟨g,j⟩
  ·obtain⟨m,rfl⟩:=Ko g
   rw[if_pos m]
   obtain⟨_,_,n⟩:=LV k (a+2) b j
   refine⟨by simp,by simp;omega,fun c f=>?_⟩
   rcases lQ.1 f with rfl|f
   ·exact l
   ·exact n c f
  ·have:¬Pl.bt s (a+1)=44:=fun o=>by rw[Pl.I6 o] at g;cases g
   rw[if_neg this]
   exact⟨by simp,by simp,fun c f=>by simp at f;omega⟩
def VO (s:ByteArray):Prop:=∀a,Pl.bt s a≠74∧Pl.bt s a≠68∧Pl.bt s a≠71
theorem VO.kd {s:ByteArray}(h:VO s)(a:Nat):Pl.kd (Pl.bt s a)≠4∧Pl.kd (Pl.bt s a)≠6∧Pl.kd (Pl.bt s a)≠7:=by
 have:=h a
 unfold Pl.kd
 repeat' split
 all_goals omega
theorem eL {s:ByteArray}{k a b:Nat}{q:Q}(l:Pl.Co k=1)(m:k≤7)(i:k≠6∧k≠7)(e:Pl.Ba s k a=(true,b))(j:wf q):wf (G8 (Qv s k a) (Hg s k a) [q]):=by
 rcases AQ l m with rfl|rfl|rfl|rfl
 ·have d:Pl.C7 s a=(true,b):=e
  obtain⟨c1,f,e1⟩:=Ea d
  obtain⟨-,rfl⟩:=Ko f
  obtain⟨c2,g,h⟩:=Ea e1
  obtain⟨-,rfl⟩:=Ko g
  obtain⟨_,n,o⟩:=Ea h
  obtain⟨rfl,p⟩:=Pu n
  obtain⟨r,c,t⟩:=Ea o
  have u:r=a+1+1+1+1:=by
   unfold Pl.Hu at c
   split at c
   ·simpa using c.symm
   ·cases c
  subst u
  obtain⟨_,v,e5⟩:=Ea t
  exact⟨p,aU v,j⟩
 ·have d:Pl.Qe s a=(true,b):=e
  obtain⟨c1,f,e1⟩:=Ea d
  obtain⟨-,rfl⟩:=Ko f
  obtain⟨c2,g,h⟩:=Ea e1
  obtain⟨-,rfl⟩:=Ko g
  obtain⟨w,x,y⟩:=LV 5 _ _ h
  exact⟨w,x,y,j⟩
 ·exact absurd rfl i.1
 ·exact absurd rfl i.2
theorem eM {s:ByteArray}{k a:Nat}{q r:Q}(b:Pl.Co k=2)(c:k≠4)(d:wf q)(hr:wf r):wf (G8 (Qv s k a) (Hg s k a) [q,r]):=by
 rcases Rl b with rfl|rfl
 ·exact absurd rfl c
 ·exact⟨d,hr⟩
theorem Sk (s:ByteArray):∀{a b:Nat},a≤b→Pl.cj s a≤Pl.cj s b:=by
 intro a b h
 induction h with
 |refl=>exact kZ _
 |step _ c=>exact lH c (by show _≤Pl.cj s _+_;omega)
theorem Y9 (h:Hd)(cs:List Nat)(q:Q):Ag (G8 h cs [q])=Ag q:=by
 show Ag (if h.k=2 then _ else if h.k=3 then _ else if h.k=6 then _ else _)=_
 by_cases a:h.k=2
 ·rw[if_pos a];rfl
 by_cases b:h.k=3
 ·rw[if_neg a,if_pos b];rfl
 by_cases c:h.k=6
 ·rw[if_neg a,if_neg b,if_pos c];rfl
 ·rw[if_neg a,if_neg b,if_neg c];rfl
theorem Za (h:Hd)(cs:List Nat)(q r:Q):Ag (G8 h cs [q,r])=Ag q+Ag r+if h.k=4 then 1 else 0:=by
 show Ag (if h.k=4 then _ else _)=_
 by_cases a:h.k=4
 ·rw[if_pos a,if_pos a];rfl
 ·rw[if_neg a,if_neg a];rfl
theorem Ul (h:Hd)(cs:List Nat)(q:Q):Ac (G8 h cs [q])=Ac q:=by
 show Ac (if h.k=2 then _ else if h.k=3 then _ else if h.k=6 then _ else _)=_
 by_cases a:h.k=2
 ·rw[if_pos a];rfl
 by_cases b:h.k=3
 ·rw[if_neg a,if_pos b];rfl
 by_cases c:h.k=6
 ·rw[if_neg a,if_neg b,if_pos c];rfl
 ·rw[if_neg a,if_neg b,if_neg c];rfl
theorem Um (h:Hd)(cs:List Nat)(q r:Q):Ac (G8 h cs [q,r])=Ac q++Ac r:=by
 show Ac (if h.k=4 then _ else _)=_
 by_cases a:h.k=4
 ·rw[if_pos a];rfl
 ·rw[if_neg a];rfl
theorem Mk {s:ByteArray}{f a b:Nat}{q:Q}(h:Rq s f a b q):a≤s.size→(VO s→wf q)∧a<b∧b≤s.size∧2*(Ac q).length≤b-a+1∧Ag q+Pl.cj s a≤Pl.cj s b:=by
 induction h with
 | @tab f a b k e =>
   intro l;have hf:=Pl.Fk s 1 a
   rw[e] at hf
   obtain⟨t,m,g,j⟩:=hf
   have u:Pl.A5 s a=(true,b):=e
   refine⟨?_,g rfl,m l,?_,?_⟩
   ·have v:(Pl.A5 s a).2=b:=by rw[u]
    intro _
    show Z7 (.txt (G3 s a (Pl.A5 s a).2))
    rw[v];exact U5 l u
   ·have:=g rfl
    show 2*1≤_
    simp only at this
    omega
   ·have:=j rfl
    simp only at this
    show 0+_≤_
    omega
 | @one f a b c q k e w x y z =>
   intro l;have hf:=Pl.Fk s (Pl.kd (Pl.bt s a)) a
   rw[e] at hf
   obtain⟨t,m,g,j⟩:=hf
   have A:=Pl.B4 (s:=s) (a:=b) (by omega)
   have B:=Pl.B4 (s:=s) (a:=c) (by omega)
   obtain⟨n,C,D,E,F⟩:=z (by omega)
   have o:=g rfl;have p:=j rfl
   simp only at o p
   have G:=Sk s (show b≤b+1 by omega)
   have H:=Sk s (show c≤c+1 by omega)
   refine⟨fun i=>eL k (Pl.BU _) (i.kd a).2 e (n i),by omega,by omega,by rw[Ul];omega,by rw[Y9];omega⟩
 | @two f a b c d q r k e w x y hr L I J =>
   intro l;have hf:=Pl.Fk s (Pl.kd (Pl.bt s a)) a
   rw[e] at hf
   obtain⟨t,m,g,j⟩:=hf
   have A:=Pl.B4 (s:=s) (a:=b) (by omega)
   have B:=Pl.B4 (s:=s) (a:=c) (by omega)
   have M:=Pl.B4 (s:=s) (a:=d) (by omega)
   obtain⟨n,C,D,E,F⟩:=I (by omega)
   obtain⟨K,_,_,_,_⟩:=J (by omega)
   have o:=g rfl;have p:=j rfl
   simp only at o p
   have G:=Sk s (show b≤b+1 by omega)
   have H:=Sk s (show c≤c+1 by omega)
   have N:=Sk s (show d≤d+1 by omega)
   refine⟨fun i=>eM k (i.kd a).1 (n i) (K i),by omega,by omega,by rw[Um,kU];omega,?_⟩
   rw[Za,Vu]
   omega
def aV (s:ByteArray):Nat→Nat→Option (Q×Nat)
 |0,a=>if Pl.kd (Pl.bt s a)=1∧(Pl.Ba s 1 a).1=true then some (G8 (Qv s 1 a) (Hg s 1 a) [],(Pl.Ba s 1 a).2) else none
 |f+1,a =>
  if Pl.kd (Pl.bt s a)=1 then (if (Pl.Ba s 1 a).1=true then some (G8 (Qv s 1 a) (Hg s 1 a) [],(Pl.Ba s 1 a).2) else none)
  else if (Pl.Ba s (Pl.kd (Pl.bt s a)) a).1=true then
   (match aV s f ((Pl.Ba s (Pl.kd (Pl.bt s a)) a).2+1) with
    |none=>none
    |some (q,c) =>
     if Pl.Co (Pl.kd (Pl.bt s a))=1 then (if Pl.bt s c=41 then some (G8 (Qv s (Pl.kd (Pl.bt s a)) a) (Hg s (Pl.kd (Pl.bt s a)) a) [q],c+1) else none)
     else (match aV s f (c+1) with
      |none=>none
      |some (r,d)=>if Pl.bt s d=41 then some (G8 (Qv s (Pl.kd (Pl.bt s a)) a) (Hg s (Pl.kd (Pl.bt s a)) a) [q,r],d+1) else none))
  else none
theorem BA {s:ByteArray}{f a b:Nat}{q:Q}(h:Rq s f a b q):aV s f a=some (q,b):=by
 induction h with
 | @tab f a b i g =>
   cases f with
   |zero=>unfold aV;rw[if_pos ⟨i,by rw[g]⟩,g]
   |succ f=>unfold aV;rw[if_pos i,if_pos (by rw[g]),g]
 | @one f a b c q i g l m k n =>
   have j:¬Pl.kd (Pl.bt s a)=1:=fun e=>by rw[e] at i;exact absurd i (by decide)
   unfold aV
   rw[if_neg j,if_pos (by rw[g]),g]
   simp only[n,if_pos i,if_pos k]
 | @two f a b c d q r i g l m k hr o p t =>
   have j:¬Pl.kd (Pl.bt s a)=1:=fun e=>by rw[e] at i;exact absurd i (by decide)
   have u:¬Pl.Co (Pl.kd (Pl.bt s a))=1:=by omega
   unfold aV
   rw[if_neg j,if_pos (by rw[g]),g]
   simp only[p,if_neg u,t,if_pos o]
end Go.Proofs.YtdinjjmcmfjbfaaGreatDoor
namespace Go.Proofs.YtdinjjmcmfjbfaaGreatDoor.Mo
structure Tab where
 nm:List UInt8
 ts:List Bool
 bag:Bag
structure Ses where
 tabs:List Tab
 views:List Q
def C8 (tb:List Tab)(nm:List UInt8):Option Tab:=tb.find? fun t=>decide (t.nm=nm)
def Jy (tb:List Tab)(nm:List UInt8):Option (List Bool):=(C8 tb nm).map Tab.ts
def Dn (tb:List Tab)(nm:List UInt8):Bag:=match C8 tb nm with
 |some t=>t.bag
 |none=>[]
def Dc (tb:List Tab)(q:Q):Nat→Bag:=fun j=>match (Ac q)[j]? with
 |some nm=>Dn tb nm
 |none=>[]
def Cc (tb:List Tab)(q:Q):Bag:=Av (Dc tb q) 0 q
structure Sl (t:Tab):Prop where
 nn:nn t.bag
 rt:RT t.ts t.bag
 bt:BT t.bag
 num:∀e∈t.bag,∀v∈e.1,wv v≤9999
 len:1≤t.ts.length∧t.ts.length≤4
 name:Z7 (.txt t.nm)
def Qn (tb:List Tab):Int:=(tb.map fun t=>Nr t.bag).sum
structure Bj (tb:List Tab):Prop where
 each:∀t∈tb,Sl t
 nod:(tb.map Tab.nm).Nodup
 rows:Qn tb≤60
 few:tb.length≤4
theorem Fe {tb:List Tab}{nm:List UInt8}{t:Tab}(h:C8 tb nm=some t):t∈tb∧t.nm=nm:=⟨List.mem_of_find?_eq_some h,by have:=List.find?_some h;simpa using this⟩
theorem LX {tb:List Tab}(c:(tb.map Tab.nm).Nodup){t:Tab}(a:t∈tb):C8 tb t.nm=some t:=by
 induction tb with
 |nil=>cases a
 |cons x tb d =>
  have b:=mJ.1 (by simpa using c:(x.nm::tb.map Tab.nm).Nodup)
  unfold C8
  rw[List.find?_cons]
  rcases lQ.1 a with rfl|a
  ·simp
  ·have:¬x.nm=t.nm:=fun e=>b.1 (by rw[e];exact lD.2 ⟨t,a,rfl⟩)
   simp only[this,decide_false]
   exact d b.2 a
theorem VP {tb:List Tab}(h:∀t∈tb,Sl t):0≤Qn tb:=by
 induction tb with
 |nil=>exact mP _
 |cons x tb a =>
  have c:=KZ (h x (by simp)).nn
  have d:=a fun t b=>h t (by simp[b])
  show 0≤Nr x.bag+Qn tb
  omega
theorem PM {tb:List Tab}(h:∀t∈tb,Sl t){t:Tab}(a:t∈tb):Nr t.bag≤Qn tb:=by
 induction tb with
 |nil=>cases a
 |cons x tb b =>
  have c:=KZ (h x (by simp)).nn
  have d:=VP (tb:=tb) fun t a=>h t (by simp[a])
  show _≤Nr x.bag+Qn tb
  rcases lQ.1 a with rfl|a
  ·omega
  ·have:=b (fun t a=>h t (by simp[a])) a
   omega
structure EN (us:List Bool) (B:Bag):Prop where
 nn:nn B
 rows:Nr B≤60
 wts:Wt B≤10000*60
 rt:RT us B
 bt:BT B
theorem eN {B:Bag}(a:nn B)(h:∀e∈B,∀v∈e.1,wv v≤9999)(hr:Nr B≤60):Wt B≤10000*60:=by
 have e1:Ce B wt=Ce B (fun r=>min (wt r) 10000):=Qg B fun e c=>by
  have:=KX (r:=e.1) (b:=9999) (by omega) (h e c)
  omega
 have d:Ce B (fun r=>min (wt r) 10000)≤Ce B (fun _=>10000*1):=Ek a fun r=>by omega
 rw[Uy] at d
 unfold Wt
 rw[e1]
 unfold Nr at hr;omega
theorem Sl.Sm {t:Tab}(h:Sl t)(hr:Nr t.bag≤60):EN t.ts t.bag:=⟨h.nn,hr,eN h.nn h.num hr,h.rt,h.bt⟩
theorem Bj.Sm {tb:List Tab}(h:Bj tb){t:Tab}(a:t∈tb):EN t.ts t.bag:=(h.each t a).Sm (lZ (PM h.each a) h.rows)
theorem Wp:nn ([]:Bag)∧Nr ([]:Bag)≤60∧Wt ([]:Bag)≤10000*60:=⟨fun r=>mP _,by show (0:Int)≤60;decide,by show (0:Int)≤_;decide⟩
theorem EO {G:Nat→Bag}(h:∀j,nn (G j)∧Nr (G j)≤60∧Wt (G j)≤10000*60):It G 60∧It G 120 :=
 ⟨⟨fun i=>(h i).1,fun i=>(h i).2.1,fun i=>(h i).2.2⟩,⟨fun i=>(h i).1,fun i=>by have:=(h i).2.1;omega,fun i=>by have:=(h i).2.2;omega⟩⟩
theorem Iy {tb:List Tab}(h:Bj tb)(q:Q):It (Dc tb q) 60∧It (Dc tb q) 120:=EO fun j=>by
 unfold Dc Dn
 cases (Ac q)[j]? with
 |none=>exact Wp
 |some nm =>
  simp only
  cases a:C8 tb nm with
  |none=>exact Wp
  |some t=>exact⟨(h.Sm (Fe a).1).nn,(h.Sm (Fe a).1).rows,(h.Sm (Fe a).1).wts⟩
theorem Ou {tb:List Tab}(h:Bj tb)(q:Q):Hx (Jy tb) q 0 (Dc tb q):=fun j nm us b c=>by
 unfold Dc Dn
 rw[lK,b]
 simp only
 obtain⟨t,a,rfl⟩:=lJ.1 c
 rw[a]
 exact⟨(h.Sm (Fe a).1).rt,(h.Sm (Fe a).1).bt⟩
theorem F8 {tb:List Tab}(h:Bj tb)(nm:List UInt8)(us:List Bool)(a:Jy tb nm=some us):1≤us.length∧us.length≤6:=by
 obtain⟨t,b,rfl⟩:=lJ.1 a
 have:=(h.each t (Fe b).1).len
 omega
theorem BB (q:Q)(_:(Ac q).length≤60)(a:Ag q≤2){f:Nat→Bag}(h:It f 60)(i:Nat):Nr (Av f i q)≤50000000000:=by
 have b:pw 3600 (Ag q)≤3600*3600:=by
  have:=Pj (B:=3600) (by omega) a
  simpa [pw] using this
 have c:=H7 (B:=3600) (by omega) (Ag q)
 have d:=lZ (Gw h (by omega) q i) (Nt (B:=3600) (by omega) q (by omega))
 have e:((Ac q).length:Int)*60*pw 3600 (Ag q)≤3600*(3600*3600):=H3 (by omega) b (by omega) (by omega)
 omega
end Go.Proofs.YtdinjjmcmfjbfaaGreatDoor.Mo
namespace Go.Proofs.YtdinjjmcmfjbfaaGreatDoor
open Go.RowKit Go.Shelf
open Mo (V Row Bag cnt Af Be B0 Fw neg Nr)
theorem VQ {ts:List Bool}{a b:Bag}(c:B0 ts a)(d:B0 ts b)(na:Nr a≤50000000000)(_:Nr b≤50000000000):IQ ts (a++neg b):=by
 refine⟨fun r hr=>?_,fun r=>?_,?_⟩
 ·have hg:Mo.Dr ts r:=by
   rw[Mo.Am,Mo.Ej] at hr
   by_cases f:cnt a r=0
   ·exact d.good (by omega)
   ·exact c.good f
  exact⟨Z9 hg c.six,hg.1⟩
 ·have g:=c.bd r
  have h:=d.bd r
  rw[Mo.Am,Mo.Ej];omega
 ·have e:Be (a++neg b) (neg (Af b)++a):=fun r=>by rw[Mo.Am,Mo.Ej,Mo.Am,Mo.Ej,Mo.As];omega
  have g:=Mo.Cq (neg (Af b)) a
  have h:(neg (Af b)).length=(Af b).length:=by simp[neg]
  have i:=Mo.Ma c.nn;have j:=Mo.Ma d.nn
  rw[e.canon];omega
theorem LY {ts:List Bool}{a:Bag}(b:B0 ts a)(na:Nr a≤50000000000):IQ ts a:=by
 have:=VQ b (B0.nil b.six) na (by show (0:Int)≤_;decide)
 simpa [neg] using this
open Mo (V Row Bag cnt Af Be B0 Fw neg Nr Q Ac Av A9 wf Ag)
abbrev gT:Nat:=1
structure A2 (w:World) (O:Ow) (p:Nat) (st:Mo.Ses) (xs:List TabS) (vs:List VS) (tv vv:Value):Prop where
 obj:w.heap[p]? =some (.cells #[tv,vv] 76 (0,0))
 own:O p=p+2
 towns:w.ownsRow 0 101 1 tv xs.length (xs.map fun X=>pV X.blk)
 towner:∀b,tv.ownBlock=some b→O b=p+2
 vowns:w.ownsRow 0 81 1 vv vs.length (vs.map fun V=>pV V.blk)
 vowner:∀b,vv.ownBlock=some b→O b=p+2
 tab:∀X∈xs,Uk w O X
 fx:Fx (Mo.Jy st.tabs) (p+2) xs vs
 tb:xs.map (fun X=>(X.name,X.bag))=st.tabs.map (fun t=>(t.nm,t.bag))
 typ:∀(i:Nat) (X:TabS) (t:Mo.Tab),xs[i]? =some X→st.tabs[i]? =some t→Pq w X.tv t.ts∧∀b,X.tv.ownBlock=some b→O b=1
 vq:vs.map VS.q=st.views
 vat:∀V∈vs,Xn V (Mo.Dc st.tabs V.q) w O
 told:∀V∈vs,Be V.told (Mo.Cc st.tabs V.q)
 vlen:∀V∈vs,(Ac V.q).length≤60
 vlt:∀V∈vs,∀a,VA V a→a<w.heap.size+2
 good:Mo.Bj st.tabs
 few:vs.length≤6
 old:∀k,O k<w.heap.size+2
 o:∀k,w.heap.size≤k→O k=0
 glb:O gT=0
 env:Se w
section
variable {w w':World} {O:Ow} {p:Nat} {st:Mo.Ses} {xs:List TabS} {vs:List VS} {tv vv:Value}
theorem A2.len (h:A2 w O p st xs vs tv vv):xs.length=st.tabs.length:=by
 have:=congrArg List.length h.tb
 simpa using this
theorem A2.at (h:A2 w O p st xs vs tv vv){i:Nat}{X:TabS}(b:xs[i]? =some X):∃t,st.tabs[i]? =some t∧X.name=t.nm∧X.bag=t.bag:=by
 have a:(xs.map fun X=>(X.name,X.bag))[i]? =some (X.name,X.bag):=by rw[kX,b];rfl
 rw[h.tb,kX] at a
 obtain⟨t,c,e⟩:=lJ.1 a
 have:=Prod.mk.inj e
 exact⟨t,c,this.1.symm,this.2.symm⟩
theorem A2.jX (h:A2 w O p st xs vs tv vv){X:TabS}(a:X∈xs):∃t∈st.tabs,X.name=t.nm∧X.bag=t.bag:=by
 obtain⟨i,hi⟩:=lW a
 obtain⟨t,b,e⟩:=h.at hi
 exact⟨t,kW b,e⟩
theorem F9 {e:TypeId}{v:Value}{n:Nat}{d:List Value}(h:w.ownsRow 0 e 1 v n d):∃a cap,v=.slice a n cap∧n≤cap∧cap≤maxLen∧∀(i:Nat) (x:Value),d[i]? =some x→∃b o,a=some ⟨b,o,none⟩∧v.ownBlock=some b∧b<w.heap.size∧w.cell? ⟨b,o+i,none⟩=some x:=by
 have j:=h.1
 rcases h.2 with ⟨e,f⟩|⟨g,cap,cur,e,_,hg,hc1,hc2,hc3,hc4⟩
 ·refine⟨none,0,by rw[e,f],by omega,by unfold maxLen;omega,fun i x c=>?_⟩
  have:=(kS.1 c).1
  omega
 ·refine⟨some ⟨g,0,none⟩,cap,e,hc1,hc2,fun i x c=>⟨g,0,rfl,by rw[e];rfl,Aa hg,?_⟩⟩
  rw[Nat.mul_one] at hc4
  rw[←hc4,lM] at c
  rw[Ae hg,lK]
  split at c
  ·simpa using c
  ·cases c
theorem A2.tabs (h:A2 w O p st xs vs tv vv):B5 w O tv (p+2) xs:=by
 obtain⟨a,cap,c,d,e,f⟩:=F9 h.towns
 refine⟨⟨a,cap,c,d,e,fun i X g=>?_⟩,h.tab⟩
 obtain⟨b,o,e1,j,k,l⟩:=f i (pV X.blk) (by rw[kX,g];rfl)
 exact⟨b,o,e1,k,h.towner b j,l⟩
theorem A2.stays (h:A2 w O p st xs vs tv vv)(n:w.heap.size≤w'.heap.size)(d:∀k,k<w.heap.size→O k≠0→w'.heap[k]? =w.heap[k]?)(o:Se w'):A2 w' O p st xs vs tv vv where
 obj:=(d p (Aa h.obj) (by rw[h.own];omega)).trans h.obj
 own:=h.own
 towns:=Cm h.towns fun b e=>by obtain⟨c,q,l⟩:=Bc h.towns e;exact d b (Aa l) (by rw[h.towner b e];omega)
 towner:=h.towner
 vowns:=Cm h.vowns fun b e=>by obtain⟨c,q,l⟩:=Bc h.vowns e;exact d b (Aa l) (by rw[h.vowner b e];omega)
 vowner:=h.vowner
 tab:=fun X f=>(h.tab X f).stab fun k g e=>⟨d k g (by rw[e];omega),rfl⟩
 fx:=h.fx
 tb:=h.tb
 typ:=fun i X t f m=>⟨(h.typ i X t f m).1.stays fun b e r=>d b r.lt (by rw[(h.typ i X t f m).2 b e];omega),(h.typ i X t f m).2⟩
 vq:=h.vq
 vat:=fun V j=>(h.vat V j).stab n fun k g e=>⟨d k g (by
  rcases e with e|e
  ·have:=(h.fx.va V j _ e).1;omega
  ·omega),rfl⟩
 told:=h.told
 vlen:=h.vlen
 vlt:=fun V j a s=>by have:=h.vlt V j a s;omega
 good:=h.good
 few:=h.few
 old:=fun k=>by have:=h.old k;omega
 o:=fun k g=>h.o k (by omega)
 glb:=h.glb
 env:=o
theorem A2.Bw (h:A2 w O p st xs vs tv vv)(k:Ab No w w'):A2 w' O p st xs vs tv vv:=h.stays k.size (fun i hi _=>k.block i hi oI) (h.env.Ah k)
end
def Fs (w:World)(X:Nat→Prop)(p:Nat)(st:Mo.Ses):Prop:=∃O xs vs tv vv,A2 w O p st xs vs tv vv∧∀k,X k↔O k≠0
def Ov (X X':Nat→Prop)(w w':World):Prop:=Ab X w w'∧∀k,X' k→X k∨w.heap.size≤k
theorem Fs.stays {w w':World}{X S:Nat→Prop}{p:Nat}{st:Mo.Ses}(h:Fs w X p st)(k:Ab S w w')(c:∀i,S i→¬X i)(hg:¬S gT):Fs w' X p st:=by
 obtain⟨O,xs,vs,tv,vv,a,b⟩:=h
 exact⟨O,xs,vs,tv,vv,a.stays k.size (fun i hi d=>k.block i hi fun e=>c i e ((b i).2 d)) (a.env.kept k hg),b⟩
theorem Fs.glb {w:World}{X:Nat→Prop}{p:Nat}{st:Mo.Ses}(h:Fs w X p st):¬X gT:=by
 obtain⟨O,xs,vs,tv,vv,a,b⟩:=h
 exact fun e=>(b _).1 e a.glb
theorem Fs.lt {w:World}{X:Nat→Prop}{p:Nat}{st:Mo.Ses}(h:Fs w X p st){k:Nat}(b:X k):k<w.heap.size:=by
 obtain⟨O,xs,vs,tv,vv,c,d⟩:=h
 rcases nN k w.heap.size with a|a
 ·exact a
 ·exact absurd (c.o k a) ((d k).1 b)
theorem Fs.env {w:World}{X:Nat→Prop}{p:Nat}{st:Mo.Ses}(h:Fs w X p st):Se w:=by
 obtain⟨O,xs,vs,tv,vv,a,_⟩:=h
 exact a.env
theorem VR (w:World):Calls Tryz.prog 34 #[] w fun e w'=>e=.returned (pV w.heap.size)∧w'=w.alloc (.cells #[.slice none 0 0,.slice none 0 0] 76):=by
 go_enter Tryz.func34,Tryz.ntmps34
 go_wp2_with fail;go_ret
 exact⟨rfl,rfl⟩
theorem aW (w:World)(f:Se w):Calls Tryz.prog 34 #[] w fun e w'=>e=.returned (pV w.heap.size)∧Fs w' (fun k=>k=w.heap.size) w.heap.size ⟨[],[]⟩∧Ab No w w':=by
 refine (VR w).mono fun e w' ⟨g,d⟩=>⟨g,?_,by rw[d];exact (Ab.refl No w).alloc _⟩
 have j:Ab No w w':=by rw[d];exact (Ab.refl No w).alloc _
 have m:w'.heap.size=w.heap.size+1:=by rw[d];simp
 refine⟨fun k=>if k=w.heap.size then w.heap.size+2 else 0,[],[],.slice none 0 0,.slice none 0 0,?_,fun k=>?_⟩
 ·refine⟨by rw[d];exact heap_alloc_last _ _,if_pos rfl,World.ownsRow_nil _ _ _ _,(fun b e=>by cases e),World.ownsRow_nil _ _ _ _,(fun b e=>by cases e),(fun X c=>by cases c),?_,rfl,(fun i X t c=>by simp at c),rfl,(fun V a=>by cases a),(fun V a=>by cases a),(fun V a=>by cases a),(fun V a=>by cases a),?_,by simp,fun k=>?_,fun k n=>?_,?_,f.Ah j⟩
  ·exact⟨nJ,nJ,nJ,(fun V a=>by cases a),(fun V a=>by cases a),⟨by omega,fun X c=>by cases c⟩,(fun V a=>by cases a),(fun X c=>by cases c),(fun X c=>by cases c)⟩
  ·exact⟨(fun t l=>by cases l),nJ,by show (0:Int)≤60;decide,by simp⟩
  ·show (if k=w.heap.size then w.heap.size+2 else 0)<_
   split <;> omega
  ·show (if k=w.heap.size then w.heap.size+2 else 0)=0
   rw[if_neg (by omega)]
  ·show (if gT=w.heap.size then w.heap.size+2 else 0)=0
   rw[if_neg (by have:gT<w.heap.size:=f.lt
                 omega)]
 ·show k=w.heap.size↔(if k=w.heap.size then w.heap.size+2 else 0)≠0
  split
  ·next h=>exact⟨fun _=>by omega,fun _=>h⟩
  ·next h=>exact⟨fun e=>absurd e h,fun e=>absurd rfl e⟩
def Sn (st:Mo.Ses)(i:Int):List UInt8×Int:=if 0≤i∧i<st.views.length then (match st.views[i.toNat]? with
 |some q=>Bl (Mo.Cc st.tabs q)
 |none=>[],0) else ([],9)
end Go.Proofs.YtdinjjmcmfjbfaaGreatDoor
