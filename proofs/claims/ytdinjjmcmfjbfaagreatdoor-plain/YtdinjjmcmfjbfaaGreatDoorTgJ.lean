import Derived.Test.YtdinjjmcmfjbfaaGreatDoorLdJ
set_option maxRecDepth 100000
set_option maxHeartbeats 4000000
namespace Go.Proofs.YtdinjjmcmfjbfaaGreatDoor
set_option linter.unusedSimpArgs false
open Go.RowKit Go.Shelf
open Mo (V Row Cy Bag)
open Mo (V Row)
def Fp (w:World)(v:Value)(ts:List (Nat×List UInt8)):Prop:=∃a cap,v=.slice a ts.length cap∧ts.length≤cap∧cap≤maxLen ∧
 ∀i x,ts[i]? =some x→∃b o,a=some ⟨b,o,none⟩∧b<w.heap.size∧x.1<w.heap.size∧w.cell? ⟨b,o+i,none⟩=some (.pointer (some ⟨x.1,0,none⟩))∧w.cell? ⟨x.1,2,none⟩=some (.string ⟨x.2.toArray⟩)
theorem Fp.kept {w w':World}{v:Value}{ts:List (Nat×List UInt8)}(h:Fp w v ts)(k:Ab No w w'):Fp w' v ts:=by
 obtain⟨a,cap,e,f,g,j⟩:=h
 refine⟨a,cap,e,f,g,fun i x l=>?_⟩
 obtain⟨b,o,e1,c,d,m,n⟩:=j i x l
 exact⟨b,o,e1,kV c k.size,kV d k.size,(k.cell c oI).trans m,(k.cell d oI).trans n⟩
def Bh:List (Nat×List UInt8)→List UInt8→Int
 | [],_=> -1
 |x::ts,nm=>if x.2=nm then 0 else if Bh ts nm= -1 then -1 else Bh ts nm+1
theorem Mi:∀(ts:List (Nat×List UInt8)) (nm:List UInt8),-1≤Bh ts nm
 | [],_=>by simp[Bh]
 |x::ts,nm=>by have:=Mi ts nm;simp only[Bh];split <;> (try split) <;> omega
def Mj (ts:List (Nat×List UInt8))(nm:List UInt8)(i:Nat):Int:=if Bh (ts.drop i) nm= -1 then -1 else Bh (ts.drop i) nm+i
theorem Yu {ts:List (Nat×List UInt8)}{nm:List UInt8}{i:Nat}{x:Nat×List UInt8}(h:ts[i]? =some x)(a:x.2=nm):Mj ts nm i=i:=by
 unfold Mj
 rw[mC (kS.1 h).1,(kS.1 h).2]
 simp[Bh,a]
theorem Wf {ts:List (Nat×List UInt8)}{nm:List UInt8}{i:Nat}{x:Nat×List UInt8}(h:ts[i]? =some x)(b:x.2≠nm):Mj ts nm i=Mj ts nm (i+1):=by
 unfold Mj
 rw[mC (kS.1 h).1,(kS.1 h).2]
 have:=Mi (ts.drop (i+1)) nm
 simp only[Bh,if_neg b]
 by_cases a:Bh (ts.drop (i+1)) nm= -1
 ·simp[a]
 ·rw[if_neg a,if_neg a,if_neg (by omega)];omega
theorem Yv (ts:List (Nat×List UInt8))(nm:List UInt8):Mj ts nm ts.length= -1:=by unfold Mj;rw[List.drop_length];rfl
theorem Wg (ts:List (Nat×List UInt8))(nm:List UInt8):Mj ts nm 0=Bh ts nm:=by unfold Mj;rw[List.drop_zero];split <;> omega
theorem Yw (l:List UInt8):(⟨l.toArray⟩:ByteArray).toList=l:=by rw[ByteArray.toList_eq]
theorem OM (tb b:Nat)(a nm:ByteArray)(w:World)(_:w.cell? ⟨tb,2,none⟩=some (.string a))(_:w.cell? ⟨b,0,none⟩=some (.string nm)) :
 Calls Tryz.prog 99 #[.pointer (some ⟨tb,0,none⟩),.pointer (some ⟨b,0,none⟩)] w fun e w'=>e=.returned (.bool (a.toList == nm.toList))∧Ab No w w':=by
 go_enter Tryz.func99,Tryz.ntmps99
 go_wp2_with fail
 go_quiet (fail)
 go_wp2_with fail;go_ret
 exact⟨rfl,(Ab.refl _ _).drewN _⟩
theorem Xv (v:Value)(ts:List (Nat×List UInt8))(d:Nat)(nm:List UInt8)(w:World)(h:Fp w v ts)(C:ts.length≤1000)(hB:d<w.heap.size)(s:w.cell? ⟨d,0,none⟩=some (.string ⟨nm.toArray⟩)) :
 Calls Tryz.prog 98 #[v,.func (.func 99) #[] #[.pointer (some ⟨d,0,none⟩)]] w fun e w'=>e=.returned (.int .i64 (Bh ts nm))∧Ab No w w':=by
 have t:=Ad h
 obtain⟨a,cap,rfl,D,u,_⟩:=h
 have E:=Ad s
 obtain⟨n,f⟩:∃n,ts.length=n:=⟨_,rfl⟩
 have j:=Ad f
 rw[f] at D C
 rw[f] at t
 rw[f]
 clear f s
 have O:cap≤9223372036854775807:=by unfold maxLen at u;omega
 clear u
 have P:∀args w,(callFunc 99 args).run Tryz.prog w=.ok (.enter 99 args) w:=enters_of Tryz.func99 (by kernel_rfl) rfl
 go_enter Tryz.func98,Tryz.ntmps98
 go_wp2_with fail
 go_loopg [8] n (fun k F wr=>∃i:Nat,i+k=n∧F=.int .i64 (i:Int)∧oH (Mj ts nm i=Bh ts nm)∧Ab No w wr)
 case atStart=>exact⟨0,by omega,rfl,Ad (Wg ts nm),Ab.refl _ _⟩
 case round =>
  obtain⟨i,_,rfl,l,c⟩:=hrel
  by_cases G:gk=0
  ·subst G
   have H:¬(i:Int)<(n:Int):=by omega
   have m:oH (Bh ts nm= -1):=by
    show _=_
    rw[←l.o,show i=ts.length by rw[j.o];omega];exact Yv ts nm
   have p:=Ad c;clear c;go_wp2_with fail;go_ret
   exact⟨Bb m.o.symm,p.o⟩
  ·obtain⟨k,rfl⟩:∃k,gk=k+1:=⟨gk-1,by omega⟩
   have H:(i:Int)<(n:Int):=by omega
   have Q:(0:Int)≤(i:Int):=by omega
   obtain⟨x,q⟩:∃x,ts[i]? =some x:=⟨_,kT (by have:=j.o;omega)⟩
   have y:Fp w (.slice a ts.length cap) ts:=by have:=t.o;rw[←j.o] at this;exact this
   obtain⟨_,_,I,_,_,z⟩:=y.kept c
   injection I with e1 J K
   subst e1
   obtain⟨b,o,rfl,_,_,c1,c2⟩:=z i x q
   have L:wr.cell? ⟨d,0,none⟩=some (.string ⟨nm.toArray⟩):=(c.cell hB oI).trans E.o;have p:=Ad c;clear c z y J K;go_wp2_with fail;refine (OM x.1 d _ _ _ c2 L).mono ?_;rintro e M ⟨rfl,A⟩;have B:oH (Ab No w M):=p.o.seq A;clear A
   by_cases g:x.2=nm
   ·have r:((⟨x.2.toArray⟩:ByteArray).toList == (⟨nm.toArray⟩:ByteArray).toList)=true:=by rw[g];simp
    have m:oH (Bh ts nm=i):=by show _=_;rw[←l.o];exact Yu q g
    rw[r]
    go_wp2_with fail;go_ret
    exact⟨Bb m.o.symm,B.o⟩
   ·have r:((⟨x.2.toArray⟩:ByteArray).toList == (⟨nm.toArray⟩:ByteArray).toList)=false:=by
     rw[beq_eq_false_iff_ne];intro e;apply g;rw[Yw,Yw] at e;exact e
    have N:oH (Mj ts nm (i+1)=Bh ts nm):=by show _=_;rw[←l.o,Wf q g]
    rw[r]
    go_wp2_with fail;go_roundg k
    case measure=>omega
    case rel=>exact⟨i+1,by omega,by go_num,N,B.o⟩
theorem Iv (v:Value)(ts:List (Nat×List UInt8))(nm:List UInt8)(w:World)(h:Fp w v ts)(b:ts.length≤1000) :
 Calls Tryz.prog 60 #[v,.string ⟨nm.toArray⟩] w fun e w'=>e=.returned (.int .i64 (Bh ts nm))∧Ab No w w':=by
 have c:=Ad h;clear h;have a:Ab No w (w.alloc (.cells #[.string ⟨nm.toArray⟩] 9)):=(Ab.refl _ _).alloc _
 have d:=Ad (Xv v ts w.heap.size nm _ (c.o.kept a) b (by simp) (by rw[Ae (MapKept.heap_alloc w _).1];rfl))
 have f:=Ad a;clear a
 go_enter Tryz.func60,Tryz.ntmps60
 go_wp2_with fail;refine d.o.mono ?_;rintro e i ⟨rfl,g⟩;go_wp2_with fail;go_ret
 exact⟨rfl,f.o.seq g⟩
end Go.Proofs.YtdinjjmcmfjbfaaGreatDoor
