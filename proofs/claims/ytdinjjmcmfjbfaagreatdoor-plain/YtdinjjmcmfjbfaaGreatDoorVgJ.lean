import Derived.Test.YtdinjjmcmfjbfaaGreatDoorVsJ
import Derived.Test.YtdinjjmcmfjbfaaGreatDoorVpJ
set_option maxRecDepth 100000
set_option maxHeartbeats 4000000
namespace Go.Proofs.YtdinjjmcmfjbfaaGreatDoor
open Go.RowKit
open Mo (V Row Bag Q ty Af Bd Ac Tab B0)
variable {Z:Nat→Prop}
theorem FU {s:ByteArray}(h:∀i:Nat,i<s.size→97≤Pl.bt s i∧Pl.bt s i≤122):∀k a,a≤s.size→Pl.Dk s 97 122 k a=min (a+k) s.size
 |0,a,c=>by rw[show Pl.Dk s 97 122 0 a=a from rfl];omega
 |k+1,a,c=>by
  by_cases b:a<s.size
  ·rw[Pl.K9 (h a b),FU h k (a+1) b];omega
  ·rw[Pl.Ha (fun d=>by have:=Pl.B4 (s:=s) (a:=a) (by omega);omega)];omega
theorem KG (s:ByteArray):Sv s=Km s:=by
 have a:∀(i:Nat) (hi:i<s.size),Pl.bt s i=s[i].toNat:=fun i hi=>by unfold Pl.bt;rw[dif_pos hi]
 unfold Sv Km;have f:=J7 s 97 122 4 0;have e:(Pl.A5 s 0)=(decide (0<Pl.Dk s 97 122 4 0),Pl.Dk s 97 122 4 0):=rfl
 rw[e,←Bool.decide_and]
 apply decide_eq_decide.2
 constructor
 ·rintro⟨b,c,_⟩
  have g:=FU (s:=s) (fun i hi=>by rw[a i hi];exact b ⟨i,hi⟩) 4 0 (mB _)
  simp only
  omega
 ·simp only
  rintro⟨b,c⟩
  refine⟨fun i=>?_,by omega,by omega⟩
  have d:=Mz s 97 122 4 0 i.1 (mB _) (by rw[c];exact i.2)
  rw[a i.1 i.2] at d;exact d
theorem XV:∀{l:List UInt8} {us:List Bool},Kn l=some us→l=Ht us
 | [],us,h=>by have:[]=us:=by simpa [Kn] using h
               subst this;rfl
 |c::l,us,h=>by
  unfold Kn at h
  cases a:JN c with
  |none=>rw[a] at h;cases h
  |some b =>
   rw[a] at h
   cases d:Kn l with
   |none=>rw[d] at h;cases h
   |some vs =>
    rw[d] at h
    injection h with h
    rw[←h,XV d]
    show c::Ht vs=RY b::Ht vs
    congr 1
    unfold JN at a
    by_cases e:c=105
    ·rw[if_pos e] at a;injection a with a;rw[←a,e];rfl
    ·rw[if_neg e] at a
     by_cases f:c=116
     ·rw[if_pos f] at a;injection a with a;rw[←a,f];rfl
     ·rw[if_neg f] at a;cases a
theorem MP:∀{l:List UInt8},(∀c∈l,c=105∨c=116)→∃us,Kn l=some us
 | [],_=>⟨[],rfl⟩
 |c::l,h=>by
  obtain⟨us,a⟩:=MP (l:=l) fun x b=>h x (by simp[b])
  rcases h c (by simp) with rfl|rfl
  ·exact⟨false::us,by simp[Kn,JN,a]⟩
  ·exact⟨true::us,by simp[Kn,JN,a]⟩
theorem MQ:∀{l:List UInt8} {c:UInt8},c∈l→c≠105→c≠116→Kn l=none
 |x::l,c,a,d,e=>by
  rcases lQ.1 a with rfl|a
  ·simp[Kn,JN,d,e]
  ·have:=MQ a d e
   unfold Kn
   cases JN x with
   |none=>rfl
   |some b=>simp[this]
theorem fX {s:ByteArray}{i:Nat}(h:i<s.size):s[i]∈s.data.toList:=by
 show s.data[i]∈s.data.toList
 exact Array.getElem_mem_toList h
theorem XW:(Tryz.prog.info? 197).map (fun i=>(i.zero,i.size,i.bytes))=some (some (.agg #[.string ⟨#[]⟩,.string ⟨#[]⟩,.slice none 0 0]),3,56):=by kernel_rfl
theorem Jz {tb:List Tab}{t:Tab}{nm:List UInt8}(h:(Mo.C8 tb nm).isSome=true):Mo.C8 (tb++[t]) nm=Mo.C8 tb nm:=by
 unfold Mo.C8 at h⊢
 rw[List.find?_append]
 cases hf:tb.find? fun t=>decide (t.nm=nm) with
 |none=>rw[hf] at h;cases h
 |some x=>rfl
theorem XY {tb:List Tab}{t:Tab}{q:Q}(h:∀nm∈Ac q,(Mo.C8 tb nm).isSome=true):Af (Bd (Mo.Dn (tb++[t])) q)=Af (Bd (Mo.Dn tb) q):=by
 refine Mo.Be.canon (Mo.Ew q fun nm a=>?_)
 unfold Mo.Dn
 rw[Jz (h nm a)]
 exact Mo.Be.refl _
def Td (Z:Nat→Prop)(w:World)(Y:Nat→Prop)(y:Nat)(st:Mo.Ses)(w':World):Prop:=∃Y',Jr (fun k=>Z k∨Y' k) w' Y' y st∧Ab Y w w'∧∀k,Y' k→Y k∨w.heap.size≤k
theorem Jr.same {w w':World}{Y:Nat→Prop}{y:Nat}{st:Mo.Ses}(h:Jr Z w Y y st)(k:Ab No w w'):Td Z w Y y st w' :=
 ⟨Y,h.other k (fun _ s=>s.elim) (fun _ _ a=>a.elim id fun a=>h.z a) (fun _ a=>.inl a) (fun i a=>kV (a.elim (h.old i) fun a=>h.old i (h.z a)) k.size),k.any,fun _ e=>.inl e⟩
theorem Cn {S:Nat→Prop}{a w:World}(h:Ab S a w){b o:Nat}(c:S b∨a.heap.size≤b)(v:Value):Ab S a (w.setCell ⟨b,o,none⟩ v):=by
 refine⟨h.os,h.tape,h.output,by simpa [World.setCell] using h.size,fun k e d=>?_⟩
 refine (Below.heap_setCell _ _ _ _ (show k≠b from ?_)).trans (h.block k e d)
 rintro rfl
 rcases c with c|c
 ·exact d c
 ·omega
theorem Js {w:World}{base:Nat}{e:TypeId}{size:Nat}{v:Value}{n:Nat}{xs:List Value}(h:w.ownsRow base e size v n xs){b o:Nat}(a:v.ownBlock≠some b)(c:Value):(w.setCell ⟨b,o,none⟩ c).ownsRow base e size v n xs:=by
 refine⟨h.1,?_⟩
 rcases h.2 with hn|⟨g,cap,d,rfl,f,hg,i⟩
 ·exact .inl hn
 ·exact .inr ⟨g,cap,d,rfl,f,(Below.heap_setCell _ _ _ _ (show g≠b from fun e=>a (by rw[←e];rfl))).trans hg,i⟩
theorem Fg {w:World}{base:Nat}{e t:TypeId}{size:Nat}{v:Value}{n:Nat}{xs:List Value}(h:w.ownsRow base e size v n xs){b:Nat}{c:Array Value}{d:Nat×Nat}(a:w.heap[b]? =some (.cells c t d))(f:e≠t):v.ownBlock≠some b:=fun x=>by
 rcases h.2 with ⟨rfl,_⟩|⟨g,cap,cur,rfl,_,hg,_⟩
 ·simp[Value.ownBlock] at x
 ·simp[Value.ownBlock] at x
  subst x
  rw[hg] at a
  injection a with a
  injection a with _ a _
  exact f a
theorem Ip {w:World}{b c:Nat}{e t:TypeId}{d f:Nat}{v a:Value}{n m:Nat}{xs i:List Value}(h:w.ownsRow b e d v n xs)(k:w.ownsRow c t f a m i)(j:e≠t):∀g,v.ownBlock=some g→a.ownBlock≠some g:=fun g hg x=>by
 rcases k.2 with ⟨rfl,_⟩|⟨g',cap,cur,rfl,_,hg',_⟩
 ·simp[Value.ownBlock] at x
 ·simp[Value.ownBlock] at x
  subst x;exact Fg h hg' j hg
theorem I4 {w:World}{base:Nat}{e:TypeId}{size:Nat}{v:Value}{n:Nat}{xs:List Value}(h:w.ownsRow base e size v n xs):∀k,v.ownBlock=some k→k<w.heap.size:=fun k e=>(h.lt k e).2
theorem KH {w i:World}{Y:Nat→Prop}{y:Nat}{st:Mo.Ses}{tv vv bv f:Value}{tcs vcs bvs:List Value}(d:Nn Z w y st tv vv bv tcs vcs bvs)(m:∀k,Y k↔Np y tv vv bv k)(hv:∀q∈st.views,VG st.tabs q){nm o:ByteArray}{us:List Bool}(j:Ab (fun k=>tv.ownBlock=some k) w i)(s:i.ownsRow 0 197 3 f (st.tabs.length+1) (tcs++[.string nm,.string o,.slice none 0 0]))(C:f.ownBlock=tv.ownBlock∨∃b,f.ownBlock=some b∧w.heap.size≤b)(D:o.data.toList=Ht us) :
 Td Z w Y y ⟨st.tabs++[⟨nm.data.toList,us,[]⟩],st.views⟩ (i.setCell ⟨y,0,none⟩ f):=by
 have E:=Aa d.obj
 have F:tv.ownBlock≠some y:=Fg d.tow d.obj (by decide)
 have z:i.heap[y]? =some (.cells #[tv,vv,bv] 189 (0,0)):=(j.block y E F).trans d.obj
 have G:=Ip d.vow d.tow (by decide)
 have H:=Ip d.bow d.tow (by decide)
 have I:vv.ownBlock≠some y:=Fg d.vow d.obj (by decide)
 have J:bv.ownBlock≠some y:=Fg d.bow d.obj (by decide)
 have g:Ab (fun k=>k=y∨tv.ownBlock=some k) w (i.setCell ⟨y,0,none⟩ f):=Cn (S:=fun k=>k=y∨tv.ownBlock=some k) ⟨j.os,j.tape,j.output,j.size,fun k r h=>j.block k r (fun a=>h (.inr a))⟩ (.inl (.inl rfl)) f
 have A:∀k,f.ownBlock=some k→tv.ownBlock=some k∨w.heap.size≤k:=fun k e=>by
  rcases C with u|⟨b,u,l⟩
  ·exact .inl (u ▸ e)
  ·rw[u] at e;injection e with e;exact .inr (by omega)
 have v:∀k,k<w.heap.size→(Z k∨Np y f vv bv k)→Z k:=fun k r a=>by
  rcases a with a|a|a|a|a
  ·exact a
  ·exact d.z (.inl a)
  ·rcases A k a with a|a
   ·exact d.zt k a
   ·omega
  ·exact d.zv k a
  ·exact d.zb k a
 have h:∀k,(k=y∨tv.ownBlock=some k)→Z k∨Np y f vv bv k:=fun k a=>.inl (d.z (a.elim .inl fun a=>.inr (.inl a)))
 have N:w.heap.size≤(i.setCell ⟨y,0,none⟩ f).heap.size:=g.size
 refine⟨Np y f vv bv,⟨f,vv,bv,tcs++[.string nm,.string o,.slice none 0 0],vcs,bvs,⟨?_,?_,?_,?_,?_,?_,?_,.inr (.inl rfl),(fun k e=>.inr (.inr (.inl e))),(fun k e=>.inr (.inr (.inr (.inl e)))),(fun k e=>.inr (.inr (.inr (.inr e)))),?_⟩,fun _=>Iff.rfl⟩,?_,?_⟩
 ·rw[Ap z];rfl
 ·have:(st.tabs++[(⟨nm.data.toList,us,[]⟩:Tab)]).length=st.tabs.length+1:=by simp
  rw[this]
  refine Js s ?_ f
  exact Fg s z (by decide)
 ·have x:=(d.tcs.Lv v).Br g h
  have K:tcs.length=st.tabs.length*3:=d.tow.1;have B:=x.push K (t:=⟨nm.data.toList,us,[]⟩) (p:=none) (n:=0) (c:=0) (W9 _)
  have e1:(⟨nm.data.toList.toArray⟩:ByteArray)=nm:=by cases nm;simp
  have L:(⟨(Ht us).toArray⟩:ByteArray)=o:=by rw[←D]
  rw[show ((⟨nm.data.toList,us,[]⟩:Tab).nm)=nm.data.toList from rfl,show ((⟨nm.data.toList,us,[]⟩:Tab).ts)=us from rfl,e1,L] at B
  exact B
 ·exact Ak d.vow g (fun b l a=>a.elim (fun a=>I (a ▸ l)) fun a=>G b l a)
 ·exact (d.vcs.Lv v).Br g h
 ·exact Ak d.bow g (fun b l a=>a.elim (fun a=>J (a ▸ l)) fun a=>H b l a)
 ·have x:=(d.bgs.Lv v).Br g h
  have e:(st.views.map fun q=>Af (Bd (Mo.Dn (st.tabs++[(⟨nm.data.toList,us,[]⟩:Tab)])) q))=st.views.map fun q=>Af (Bd (Mo.Dn st.tabs) q):=mS fun q M=>XY (hv q M).lv
  show Cf _ _ bvs (st.views.map fun q=>Af (Bd (Mo.Dn (st.tabs++[(⟨nm.data.toList,us,[]⟩:Tab)])) q))
  rw[e];exact x
 ·intro k a
  rcases a with a|a|a|a|a
  ·have:=d.old k a;omega
  ·omega
  ·have:=I4 s k a;simp[World.setCell];exact this
  ·have:=I4 d.vow k a;omega
  ·have:=I4 d.bow k a;omega
 ·refine⟨g.os,g.tape,g.output,g.size,fun k r h=>g.block k r fun a=>h ((m k).2 (a.elim .inl fun a=>.inr (.inl a)))⟩
 ·intro k a
  rcases a with a|a|a|a
  ·exact .inl ((m k).2 (.inl a))
  ·rcases A k a with a|a
   ·exact .inl ((m k).2 (.inr (.inl a)))
   ·exact .inr a
  ·exact .inl ((m k).2 (.inr (.inr (.inl a))))
  ·exact .inl ((m k).2 (.inr (.inr (.inr a))))
theorem KI {w:World}{Y:Nat→Prop}{y:Nat}{st:Mo.Ses}(h:Jr Z w Y y st)(hv:∀q∈st.views,VG st.tabs q)(_:st.tabs.length≤4)(nm b:ByteArray)(F:nm.size≤maxLen) :
 Calls Tryz.prog 53 #[pV y,.string nm,.string b] w fun e w'=>e=.returned (.int .i64 (Ex st nm b).1)∧Td Z w Y y (Ex st nm b).2 w':=by
 have z:=Ad h
 obtain⟨tv,vv,bv,tcs,vcs,bvs,m,O⟩:=h
 have I:=Ad m;have ae:=Ad O;have P:w.cell? ⟨y,0,none⟩=some tv:=(Ae m.obj 0).trans rfl;have af:=Aj m.obj 0;have Q:=Aa m.obj
 have G:=Ad (Ig tv _ nm.data.toList w (Pc m.tow m.tcs) (by rw[lB];omega))
 obtain⟨R,S,rfl⟩:∃a c,tv=.slice a st.tabs.length c:=by
  rcases m.tow.2 with ⟨e,ag⟩|⟨g,cap,cur,e,_⟩
  ·exact⟨none,0,by rw[e,ag]⟩
  ·exact⟨_,_,e⟩
 have T:=m.tow
 obtain⟨it,hit,ah,ai,aj⟩:=info_parts XW
 have ak:=Ad hv;have A:=KG nm;unfold pV;clear m O hv
 by_cases n:Km nm=true
 ·rw[n] at A
  by_cases D:1≤b.size∧b.size≤4
  ·have U:¬(b.size:Int)<1:=by omega
   have al:¬(4:Int)<(b.size:Int):=by omega
   have a8:b.size≤4:=D.2;have V:=Ad D;clear D
   go_enter Tryz.func53,Tryz.ntmps53
   go_wp2_with fail;refine (Ni nm _ F).mono ?_;rintro e u ⟨rfl,l⟩
   rw[A,l]
   clear l;go_wp2_with fail
   go_loopg [8] b.size (fun k am wr=>∃i:Nat,i+k=b.size∧am=.int .i64 (i:Int)∧oH (∀(j:Nat) (v:j<b.size),j<i→b[j]=105∨b[j]=116)∧wr=w)
   case atStart=>exact⟨0,by omega,rfl,Ad (fun j v h=>by omega),rfl⟩
   case round =>
    obtain⟨i,_,rfl,J,rfl⟩:=hrel
    by_cases an:gk=0
    ·subst an
     have ao:¬(i:Int)<(b.size:Int):=by omega
     obtain⟨us,K⟩:∃us,Kn b.data.toList=some us:=MP fun c f=>by
      obtain⟨j,v,e⟩:=List.getElem_of_mem f
      have ap:j<b.size:=by rw[Lr] at v;exact v
      rw[←e];exact J.o j ap (by omega)
     have L:oH (C6 b=some us):=by show _=_;unfold C6;rw[if_pos V.o];exact K
     have aq:=Ad (XV K);clear K J
     by_cases B:st.tabs.length=4
     ·have ar:((st.tabs.length:Int) == 4)=true:=by simp;omega
      have d:oH (Ex st nm b=(4,st)):=by show _=_;unfold Ex;rw[if_pos n,L.o];simp only;rw[if_pos B]
      clear B;go_wp2_with fail;go_ret
      exact⟨Bb (by rw[d.o]),by rw[d.o];exact z.o.same (Ab.refl _ _)⟩
     ·have ar:((st.tabs.length:Int) == 4)=false:=by simp;omega
      cases C:Mo.C8 st.tabs nm.data.toList with
      |some t =>
       obtain⟨au,E,_⟩:=(Nq st.tabs nm.data.toList).2 t C
       rw[E] at G
       have d:oH (Ex st nm b=(5,st)):=by show _=_;unfold Ex;rw[if_pos n,L.o];simp only;rw[if_neg B,C];rfl
       have a9:(0:Int)≤(au:Int):=by omega
       clear B C E;go_wp2_with fail;refine G.o.mono ?_;rintro e u ⟨rfl,p⟩;have H:=Ad p;clear p;go_wp2_with fail;go_ret
       exact⟨Bb (by rw[d.o]),by rw[d.o];exact z.o.same H.o⟩
      |none =>
       have E:=(Nq st.tabs nm.data.toList).1 C
       rw[E] at G
       have d:oH (Ex st nm b=(0,⟨st.tabs++[⟨nm.data.toList,us,[]⟩],st.views⟩)):=by show _=_;unfold Ex;rw[if_pos n,L.o];simp only;rw[if_neg B,C];rfl
       have av:st.tabs.length+1≤maxLen:=by unfold maxLen;omega
       have aw:(st.tabs.length+1)*56≤140737488355328:=by omega
       clear B C E;go_wp2_with fail;refine G.o.mono ?_;rintro e u ⟨rfl,p⟩;have H:=Ad p;have ba:=(p.cell Q (o:=0) oI).trans P;have M:=(p.block y Q oI).trans I.o.obj
       have ax:=Ak T p (fun _ _ ay=>ay.elim)
       have az:some y≠Value.ownBlock (.slice R st.tabs.length S):=fun x=>Fg T I.o.obj (by decide) x.symm
       have a0:=Aa M;have a1:=Ad M;clear p P af M
       go_wp2_with (first
        |(at_builtin;refine wpList_append_own_at _ rfl _ _ 185 rfl 0 197 it (.agg #[.string ⟨#[]⟩,.string ⟨#[]⟩,.slice none 0 0]) 3 56 Tryz.underlying185 hit ah ai aj rfl (by decide) _ _ _ rfl (ax.alloc _) ⟨u.heap.size,0,none⟩ 1 1 [.string nm,.string b,.slice none 0 0] rfl rfl (Du u _ _ _ _) (by simp[Value.oneCell']) av aw (mB _) ?_;intro bb a2 W X _ a3;obtain⟨_,_,rfl⟩:=Mt W (by omega);have aa:=(X.block y (by simp;omega) az).trans ((Below.heap_alloc _ _ _ a0).trans a1.o);have bc:a2.cell? ⟨y,0,none⟩=some (.slice R st.tabs.length S):=(Ae aa 0).trans rfl;have bd:=Aj aa 0)
        |fail)
       go_ret
       refine⟨Bb (by rw[d.o]),?_⟩
       rw[d.o]
       refine KH I.o ae.o ak.o ?_ W ?_ aq.o
       ·exact ((Ab.any H.o).alloc _).grown X (fun r e=>.inr e)
       ·rcases a3 with N|N
        ·exact .inl N
        ·exact .inr ⟨_,N,by have:=H.o.size;simp;omega⟩
    ·obtain⟨k,rfl⟩:∃k,gk=k+1:=⟨gk-1,by omega⟩
     have ao:(i:Int)<(b.size:Int):=by omega
     have be:(0:Int)≤(i:Int):=by omega
     have a4:i<b.size:=by omega
     by_cases f:b[i]=105∨b[i]=116
     ·have s:(b[i].toNat:Int)=105∨(b[i].toNat:Int)=116:=by rcases f with f|f <;> rw[f] <;> simp
      have ab:oH (∀(j:Nat) (v:j<b.size),j<i+1→b[j]=105∨b[j]=116):=fun j v bf=>by
       by_cases a5:j=i
       ·subst a5;exact f
       ·exact J.o j v (by omega)
      clear f
      rcases s with s|s
      ·have ac:((b[i].toNat:Int) != 105)=false:=by simp[s]
       clear s;go_wp2_with fail;go_roundg k
       case measure=>omega
       case rel=>exact⟨i+1,by omega,by go_num,ab,rfl⟩
      ·have ac:((b[i].toNat:Int) != 105)=true:=by simp[s]
       have a6:((b[i].toNat:Int) != 116)=false:=by simp[s]
       clear s;go_wp2_with fail;go_roundg k
       case measure=>omega
       case rel=>exact⟨i+1,by omega,by go_num,ab,rfl⟩
     ·have ac:((b[i].toNat:Int) != 105)=true:=by
       simp only[bne_iff_ne,ne_eq]
       intro e
       exact f (.inl (nA.1 (by show b[i].toNat=105;omega)))
      have a6:((b[i].toNat:Int) != 116)=true:=by
       simp only[bne_iff_ne,ne_eq]
       intro e
       exact f (.inr (nA.1 (by show b[i].toNat=116;omega)))
      have d:oH (Ex st nm b=(2,st)):=by
       show _=_
       have:C6 b=none:=by
        unfold C6;rw[if_pos V.o]
        exact MQ (fX a4) (fun e=>f (.inl e)) (fun e=>f (.inr e))
       unfold Ex;rw[if_pos n,this]
      clear f;go_wp2_with fail;go_ret
      exact⟨Bb (by rw[d.o]),by rw[d.o];exact z.o.same (Ab.refl _ _)⟩
  ·have d:oH (Ex st nm b=(2,st)):=by
    show _=_
    have:C6 b=none:=by unfold C6;rw[if_neg D]
    unfold Ex;rw[if_pos n,this]
   have a7:(b.size:Int)<1∨(¬(b.size:Int)<1∧(4:Int)<(b.size:Int)):=by omega
   clear D
   rcases a7 with U|⟨U,al⟩
   ·go_enter Tryz.func53,Tryz.ntmps53
    go_wp2_with fail;refine (Ni nm _ F).mono ?_;rintro e u ⟨rfl,l⟩
    rw[A,l]
    clear l;go_wp2_with fail;go_ret
    exact⟨Bb (by rw[d.o]),by rw[d.o];exact z.o.same (Ab.refl _ _)⟩
   ·go_enter Tryz.func53,Tryz.ntmps53
    go_wp2_with fail;refine (Ni nm _ F).mono ?_;rintro e u ⟨rfl,l⟩
    rw[A,l]
    clear l;go_wp2_with fail;go_ret
    exact⟨Bb (by rw[d.o]),by rw[d.o];exact z.o.same (Ab.refl _ _)⟩
 ·have ad:Km nm=false:=by simpa using n
  rw[ad] at A
  have d:oH (Ex st nm b=(2,st)):=by show _=_;unfold Ex;rw[if_neg n]
  clear n ad
  go_enter Tryz.func53,Tryz.ntmps53
  go_wp2_with fail;refine (Ni nm _ F).mono ?_;rintro e u ⟨rfl,l⟩
  rw[A,l]
  clear l;go_wp2_with fail;go_ret
  exact⟨Bb (by rw[d.o]),by rw[d.o];exact z.o.same (Ab.refl _ _)⟩
end Go.Proofs.YtdinjjmcmfjbfaaGreatDoor
namespace Go.Proofs.YtdinjjmcmfjbfaaGreatDoor
open Go.RowKit
open Mo (V Row Bag Q L3 Cy ty A9 Dp Bt Hi Md Mc)
variable {Z:Nat→Prop}
def QW:Option (List Bool)→List UInt8
 |some ts=>Ht ts
 |none=>[]
theorem Pz (ts:List Bool)(c:Nat):(JY ts c=[]∧ts[c]? =none)∨(JY ts c=[105]∧ts[c]? =some false)∨(JY ts c=[116]∧ts[c]? =some true):=by
 unfold JY
 cases h:ts[c]? with
 |none=>exact .inl ⟨rfl,rfl⟩
 |some b=>cases b
          ·exact .inr (.inl ⟨rfl,rfl⟩)
          ·exact .inr (.inr ⟨rfl,rfl⟩)
theorem cF {a b:List Bool}(h:Ht a=Ht b):a=b:=by
 induction a generalizing b with
 |nil=>cases b with
  |nil=>rfl
  |cons _ _=>cases h
 |cons x a c=>cases b with
  |nil=>cases h
  |cons y b =>
   have d:RY x::Ht a=RY y::Ht b:=h
   injection d with e f
   rw[c f]
   cases x <;> cases y <;> first|rfl|exact absurd e (by decide)
theorem T7 {a:List Bool}(h:a≠[]):(Ht a).isEmpty=false:=by
 cases a with
 |nil=>exact absurd rfl h
 |cons x a=>rfl
theorem Vc (a:List Bool):(Ht a).length=a.length:=by unfold Ht;rw[lB]
theorem QX (pv:Array Value)(v:Int)(c:Nat)(av tv:Value)(d:List (List UInt8))(w:World)(hv:(v == 0)=false)(h:pv[0]? =some (.int .u8 v))(i:pv[9]? =some (.int .i64 (c:Int)))(q:Jc w av d)(f:d[c]? =some []) :
 Calls Tryz.prog 132 #[.agg pv,av,tv] w fun e w'=>e=.returned (.string ⟨#[]⟩)∧Ab No w w':=by
 obtain⟨j,g⟩:∃T:List UInt8,[]=T:=⟨_,rfl⟩
 have s:j.isEmpty=true:=by rw[←g];rfl
 rw[g] at f
 clear g;have k:oH (Ab No w (w.alloc (.cells pv 204))):=(Ab.refl No w).alloc _
 obtain⟨a,cap,rfl,_,l,m⟩:=q
 obtain⟨b,o,rfl,r,p⟩:=m c j f
 have t:c<d.length:=(kS.1 f).1
 have u:(0:Int)≤(c:Int):=by omega
 have x:cap≤9223372036854775807:=by unfold maxLen at l;omega
 have y:=(k.o.cell r oI).trans p;have p0:=Bq (w:=w) h;have z:=Bq (w:=w) i;generalize d.length=n at *
 have A:(c:Int)<(n:Int):=by omega
 clear m f l p h i
 go_enter Tryz.func132,Tryz.ntmps132
 go_wp2_with fail;go_ret
 exact⟨rfl,k.o⟩
theorem FV (pv:Array Value)(d:Nat)(av tv cv:Value)(cs:List Nat)(f:List (List UInt8))(ts:List Bool)(w:World)(k:pv[0]? =some (.int .u8 80))(l:pv[2]? =some cv)(m:pv[9]? =some (.int .i64 (d:Int)))(x:Jc w av f)(g:f[d]? =some (Ht ts))(i:ts≠[])(p:I2 Z w cv cs)(y:cs.length≤1000)(Hg:∀c∈cs,c≤1000) :
 Calls Tryz.prog 132 #[.agg pv,av,tv] w fun e w'=>e=.returned (.string ⟨(QW (Bt cs ts)).toArray⟩)∧Ab No w w':=by
 have i:=T7 i
 have q:=Ad (fun w (h:I2 Z w cv cs)=>FB ts cv cs w h y Hg)
 have z:=Ad p
 obtain⟨_,_,rfl,-,-,-⟩:=p
 generalize cs.length=D at *
 obtain⟨A,r⟩:∃T:List UInt8,Ht ts=T:=⟨_,rfl⟩
 rw[r] at g q i
 clear r;have j:oH (Ab No w (w.alloc (.cells pv 204))):=(Ab.refl No w).alloc _
 obtain⟨a,cap,rfl,_,s,t⟩:=x
 obtain⟨b,o,rfl,B,u⟩:=t d A g
 have E:d<f.length:=(kS.1 g).1
 have F:(0:Int)≤(d:Int):=by omega
 have G:cap≤9223372036854775807:=by unfold maxLen at s;omega
 have H:=(j.o.cell B oI).trans u;have p0:=Bq (w:=w) k;have I:=Bq (w:=w) m;generalize f.length=n at *
 have J:(d:Int)<(n:Int):=by omega
 clear t g s u k m;have p2:=Bq (w:=w) l;clear l
 go_enter Tryz.func132,Tryz.ntmps132
 go_wp2_with fail;refine (q.o _ (z.o.Ah j.o)).mono ?_;rintro e K ⟨rfl,v⟩;have C:=Ad v;clear v;go_wp2_with fail;go_ret
 exact⟨rfl,j.o.seq C.o⟩
theorem KJ (pv:Array Value)(c:Nat)(x:Cy)(g:Nat)(av tv:Value)(h:List (List UInt8))(ts:List Bool)(w:World)(A:pv[0]? =some (.int .u8 83))(B:pv[4]? =some (.int .u8 (T4 x)))(C:pv[8]? =some (.int .i64 (Ie x:Int)))(D:pv[9]? =some (.int .i64 (g:Int)))(E:pv[11]? =some (.int .i64 (c:Int)))(I:Jc w av h)(i:h[g]? =some (Ht ts))(q:ts≠[])(r:c≤1000)(j:Ie x≤1000) :
 Calls Tryz.prog 132 #[.agg pv,av,tv] w fun e w'=>e=.returned (.string ⟨(QW (Dp c x ts)).toArray⟩)∧Ab No w w':=by
 have q:=T7 q
 have s:=Ad (fun c (r:c≤1000) w=>Ww ts c w r)
 obtain⟨J,t⟩:∃T:List UInt8,Ht ts=T:=⟨_,rfl⟩
 rw[t] at i s q
 have u:=Ad t;clear t;have l:oH (Ab No w (w.alloc (.cells pv 204))):=(Ab.refl No w).alloc _
 obtain⟨a,cap,rfl,_,F,G⟩:=I
 obtain⟨b,o,rfl,K,H⟩:=G g J i
 have O:g<h.length:=(kS.1 i).1
 have P:(0:Int)≤(g:Int):=by omega
 have Q:cap≤9223372036854775807:=by unfold maxLen at F;omega
 have R:=(l.o.cell K oI).trans H;have p0:=Bq (w:=w) A;have S:=Bq (w:=w) D;generalize h.length=n at *
 have U:(g:Int)<(n:Int):=by omega
 clear G i F H A D;have y:=Bq (w:=w) B;have z:=Bq (w:=w) C;have V:=Bq (w:=w) E;clear B C E
 go_enter Tryz.func132,Tryz.ntmps132
 go_wp2_with fail;refine (s.o c r _).mono ?_;rintro e L ⟨rfl,rfl⟩;go_wp2_with fail;refine (s.o (Ie x) j _).mono ?_;rintro e L ⟨rfl,rfl⟩
 cases x with
 |col d =>
  simp only[T4,Ie] at y z j⊢
  rcases Pz ts c with ⟨e1,f⟩|⟨e1,f⟩|⟨e1,f⟩ <;> rcases Pz ts d with ⟨m,p⟩|⟨m,p⟩|⟨m,p⟩ <;>
  ·rw[e1,m]
   have Q1:=Ad f;have M:=Ad p;clear f p e1 m;go_wp2_with fail;go_ret
   refine⟨Gx ?_,l.o⟩
   simp[Dp,Mc,QW,Q1.o,M.o,u.o]
 |val v =>
  cases v with
  |num k =>
   simp only[T4,Ie] at y z j⊢
   generalize JY ts 0=N
   rcases Pz ts c with ⟨e1,f⟩|⟨e1,f⟩|⟨e1,f⟩ <;>
   ·rw[e1]
    have Q1:=Ad f;clear f e1;go_wp2_with fail;go_ret
    refine⟨Gx ?_,l.o⟩
    simp[Dp,Mc,QW,ty,Q1.o,u.o]
  |txt k =>
   simp only[T4,Ie] at y z j⊢
   generalize JY ts 0=N
   rcases Pz ts c with ⟨e1,f⟩|⟨e1,f⟩|⟨e1,f⟩ <;>
   ·rw[e1]
    have Q1:=Ad f;clear f e1;go_wp2_with fail;go_ret
    refine⟨Gx ?_,l.o⟩
    simp[Dp,Mc,QW,ty,Q1.o,u.o]
end Go.Proofs.YtdinjjmcmfjbfaaGreatDoor
namespace Go.Proofs.YtdinjjmcmfjbfaaGreatDoor
open Go.RowKit
open Mo (V Row Bag Q L3 Cy ty A9 Dp Bt Hi Md Mc six)
variable {Z:Nat→Prop}
def KL (ts us:List Bool):List UInt8:=QW (if ts=us then some ts else none)
theorem KM (pv:Array Value)(v:Int)(c d:Nat)(av tv:Value)(f:List (List UInt8))(j:List UInt8)(w:World)(hv:v=85∨v=74)(p:pv[0]? =some (.int .u8 v))(q:pv[9]? =some (.int .i64 (c:Int)))(r:pv[10]? =some (.int .i64 (d:Int)))(y:Jc w av f)(k:f[c]? =some j)(_:j.isEmpty=false)(h:f[d]? =some []) :
 Calls Tryz.prog 132 #[.agg pv,av,tv] w fun e w'=>e=.returned (.string ⟨#[]⟩)∧Ab No w w':=by
 obtain⟨s,l⟩:∃T:List UInt8,[]=T:=⟨_,rfl⟩
 have A:s.isEmpty=true:=by rw[←l];rfl
 rw[l] at h
 clear l;have i:oH (Ab No w (w.alloc (.cells pv 204))):=(Ab.refl No w).alloc _
 obtain⟨a,cap,rfl,_,t,m⟩:=y
 obtain⟨b,o,rfl,u,x⟩:=m c j k
 have B:c<f.length:=(kS.1 k).1
 have C:(0:Int)≤(c:Int):=by omega
 have D:cap≤9223372036854775807:=by unfold maxLen at t;omega
 have E:=(i.o.cell u oI).trans x;have p0:=Bq (w:=w) p;have F:=Bq (w:=w) q
 obtain⟨_,_,g,_,c2⟩:=m d s h
 injection g with g
 injection g with g z
 subst g z;have G:d<f.length:=(kS.1 h).1
 have H:(0:Int)≤(d:Int):=by omega
 have I:=(i.o.cell u oI).trans c2;have J:=Bq (w:=w) r;generalize f.length=n at *
 have K:(c:Int)<(n:Int):=by omega
 clear m k t x p q
 have L:(d:Int)<(n:Int):=by omega
 clear h c2 r
 rcases hv with rfl|rfl
 ·skip
  go_enter Tryz.func132,Tryz.ntmps132
  go_wp2_with fail;go_ret
  exact⟨rfl,i.o⟩
 ·skip
  go_enter Tryz.func132,Tryz.ntmps132
  go_wp2_with fail;go_ret
  exact⟨rfl,i.o⟩
theorem KN (pv:Array Value)(c d:Nat)(av tv:Value)(f:List (List UInt8))(ts us:List Bool)(w:World)(v:pv[0]? =some (.int .u8 85))(x:pv[9]? =some (.int .i64 (c:Int)))(y:pv[10]? =some (.int .i64 (d:Int)))(D:Jc w av f)(i:f[c]? =some (Ht ts))(p:ts≠[])(j:f[d]? =some (Ht us))(q:us≠[]) :
 Calls Tryz.prog 132 #[.agg pv,av,tv] w fun e w'=>e=.returned (.string ⟨(KL ts us).toArray⟩)∧Ab No w w':=by
 have p:=T7 p;have q:=T7 q
 have k:oH (Ht ts=Ht us↔ts=us):=⟨cF,fun e=>by rw[e]⟩
 obtain⟨l,r⟩:∃T:List UInt8,Ht ts=T:=⟨_,rfl⟩
 obtain⟨s,z⟩:∃T:List UInt8,Ht us=T:=⟨_,rfl⟩
 have E:=Ad r
 rw[r] at i p k
 rw[z] at j q k
 clear r z;have m:oH (Ab No w (w.alloc (.cells pv 204))):=(Ab.refl No w).alloc _
 obtain⟨a,cap,rfl,_,A,t⟩:=D
 obtain⟨b,o,rfl,B,C⟩:=t c l i
 have G:c<f.length:=(kS.1 i).1
 have H:(0:Int)≤(c:Int):=by omega
 have I:cap≤9223372036854775807:=by unfold maxLen at A;omega
 have J:=(m.o.cell B oI).trans C;have p0:=Bq (w:=w) v;have K:=Bq (w:=w) x
 obtain⟨_,_,g,_,c2⟩:=t d s j
 injection g with g
 injection g with g F
 subst g F;have L:d<f.length:=(kS.1 j).1
 have M:(0:Int)≤(d:Int):=by omega
 have N:=(m.o.cell B oI).trans c2;have O:=Bq (w:=w) y;generalize f.length=n at *
 have P:(c:Int)<(n:Int):=by omega
 clear t i A C v x
 have Q:(d:Int)<(n:Int):=by omega
 clear j c2 y
 by_cases h:l=s
 ·have u:oH (KL ts us=l):=by show _=_;unfold KL;rw[if_pos (k.o.1 h)];exact E.o
  subst h
  go_enter Tryz.func132,Tryz.ntmps132
  go_wp2_with fail;go_ret
  exact⟨Gx (by rw[u.o]),m.o⟩
 ·have u:oH (KL ts us=[]):=by show _=_;unfold KL;rw[if_neg (fun e=>h (k.o.2 e))];rfl
  have R:(l == s)=false:=by simpa using h
  clear h
  go_enter Tryz.func132,Tryz.ntmps132
  go_wp2_with fail;go_ret
  exact⟨Gx (by rw[u.o]),m.o⟩
end Go.Proofs.YtdinjjmcmfjbfaaGreatDoor
namespace Go.Proofs.YtdinjjmcmfjbfaaGreatDoor
open Go.RowKit
open Mo (V Row Bag Q L3 Cy ty A9 Dp Bt Hi Md Mc six)
variable {Z:Nat→Prop}
end Go.Proofs.YtdinjjmcmfjbfaaGreatDoor
namespace Go.Proofs.YtdinjjmcmfjbfaaGreatDoor
open Go.RowKit
open Mo (V Row Bag Q L3 Cy ty A9 Dp Bt Hi Md Mc six)
variable {Z:Nat→Prop}
end Go.Proofs.YtdinjjmcmfjbfaaGreatDoor
namespace Go.Proofs.YtdinjjmcmfjbfaaGreatDoor
open Go.RowKit
open Mo (V Row Bag Q L3 Cy ty A9 Dp Bt Hi Md Mc six)
variable {Z:Nat→Prop}
theorem KO (pv:Array Value)(nm:List UInt8)(av tv:Value)(ts:List UT)(t:UT)(i:Nat)(w:World)(f:pv[0]? =some (.int .u8 0))(g:pv[1]? =some (.string ⟨nm.toArray⟩))(c:Lj Z w tv ts)(r:ts.length≤1000)(hi:Zh ts nm=(i:Int))(d:ts[i]? =some t) :
 Calls Tryz.prog 132 #[.agg pv,av,tv] w fun e w'=>e=.returned (.string ⟨t.tys.toArray⟩)∧Ab No w w':=by
 have h:oH (Ab No w (w.alloc (.cells pv 204))):=(Ab.refl No w).alloc _;have j:=Ad (Ig tv ts nm _ (c.Ah h.o) r);have y:=Ad c
 rw[hi] at j
 obtain⟨a,cap,rfl,_,k,l⟩:=c
 obtain⟨b,o,p,_,_,rfl,s,u,c1,c2,-⟩:=l i t d
 have z:i<ts.length:=(kS.1 d).1;generalize ts.length=n at *
 have A:(0:Int)≤(i:Int):=by omega
 have B:(i:Int)<(n:Int):=by omega
 have C:cap≤9223372036854775807:=by unfold maxLen at k;omega
 have p0:=Bq (w:=w) f;have p1:=Bq (w:=w) g;have v:=Ad c1;clear l d f g u c2 c1 k hi
 go_enter Tryz.func132,Tryz.ntmps132
 go_wp2_with fail;refine j.o.mono ?_;rintro e x ⟨rfl,m⟩;have q:oH (Ab No w x):=h.o.seq m;have D:=(q.o.cell s oI).trans v.o;clear m p0 p1;go_wp2_with fail;go_ret
 exact⟨rfl,q.o⟩
end Go.Proofs.YtdinjjmcmfjbfaaGreatDoor
namespace Go.Proofs.YtdinjjmcmfjbfaaGreatDoor
open Go.RowKit
open Mo (V Row Bag Q L3 Cy ty A9 Dp Bt Hi Md Mc six)
variable {Z:Nat→Prop}
def Yb (T:List UInt8):List UInt8:=if 6<T.length then [] else T
theorem KP {T:List UInt8}(h:T.length≤6):Yb T=T:=by unfold Yb;rw[if_neg (by omega)]
theorem XZ (f:List UInt8→Option (List Bool))(q:Q):Xo f q=QW (A9 f q):=by unfold Xo QW;cases A9 f q <;> rfl
theorem I3.ty {S:List Q}{i:Nat}{j:Int}{q:Q}{f:List UInt8→Option (List Bool)}(h:I3 S i j q):∃k:Nat,j=(k:Int)∧((S.take i).map (Xo f))[k]? =some (Xo f q)∧q∈S:=by
 obtain⟨k,e,b,a⟩:=h
 refine⟨k,e,?_,kW a⟩
 rw[kX,lM,if_pos b,a];rfl
theorem QY (f:List UInt8→Option (List Bool))(S:List Q)(i:Nat)(q:Q)(p:UP)(cv av tv:Value)(ts:List UT)(w:World)(E:Kq S i p q)(L:Mo.wf q)(R:Wx p)(F:I2 Z w cv p.cols)(A:Jc w av ((S.take i).map (Xo f)))(U:Lj Z w tv ts)(V:ts.length≤1000)
 (hf:∀nm,q=.tab nm→∃(k:Nat) (t:UT) (us:List Bool),Zh ts nm=(k:Int)∧ts[k]? =some t∧t.tys=Ht us∧f nm=some us∧us.length≤6) (G:∀W∈S,∀us,A9 f W=some us→us≠[]∧us.length≤6) :
 Calls Tryz.prog 132 #[.agg (p.cells cv).toArray,av,tv] w fun e w'=>∃T:List UInt8,e=.returned (.string ⟨T.toArray⟩)∧T.length≤100∧Yb T=Xo f q∧Ab No w w':=by
 obtain⟨_,_,M,N⟩:=R
 have g0:∀{v:Int},p.verb=v→(p.cells cv).toArray[0]? =some (.int .u8 v):=fun e=>by rw[←e];rfl
 have B:∀{k:Nat},p.one=(k:Int)→(p.cells cv).toArray[9]? =some (.int .i64 (k:Int)):=fun e=>by rw[←e];rfl
 have O:∀{k:Nat},p.two=(k:Int)→(p.cells cv).toArray[10]? =some (.int .i64 (k:Int)):=fun e=>by rw[←e];rfl
 have key:∀{T:List UInt8},T.length≤6→T=Xo f q→T.length≤100∧Yb T=Xo f q:=fun h l=>⟨by omega,by rw[KP h];exact l⟩
 have no:∀{v:Int} {a:Q},p.verb=v→(v == 0)=false→I3 S i p.one a→A9 f a=none→A9 f q=none→Calls Tryz.prog 132 #[.agg (p.cells cv).toArray,av,tv] w fun e w'=>∃T:List UInt8,e=.returned (.string ⟨T.toArray⟩)∧T.length≤100∧Yb T=Xo f q∧Ab No w w':=by
  intro v a X hv Y h l
  obtain⟨k,e1,g,_⟩:=Y.ty (f:=f)
  rw[O5 h] at g
  refine (QX (p.cells cv).toArray v k av tv _ w hv (g0 X) (B e1) A g).mono ?_;rintro e w' ⟨rfl,j⟩
  exact⟨[],rfl,by simp,by rw[O5 l];rfl,j⟩
 cases q with
 |tab nm =>
  obtain⟨h,l⟩:=E
  obtain⟨k,t,us,e1,H,P,aa,e5⟩:=hf nm rfl
  refine (KO (p.cells cv).toArray nm av tv ts t k w (g0 h) (by rw[←l];rfl) U V e1 H).mono ?_
  rintro e w' ⟨rfl,j⟩
  have g:=key (T:=t.tys) (by rw[P,Vc];exact e5) (by rw[Mp (show A9 f (.tab nm)=some us from aa)];exact P)
  exact⟨_,rfl,g.1,g.2,j⟩
 |sel c k x a =>
  obtain⟨h,l,g,_,ab,ac,o⟩:=E
  cases b:A9 f a with
  |none=>exact no h rfl o b (by simp[A9,b])
  |some us =>
   obtain⟨n,e1,r,C⟩:=o.ty (f:=f)
   obtain⟨y,I⟩:=G a C us b
   rw[Mp b] at r
   refine (KJ (p.cells cv).toArray c x n av tv _ us w (g0 h) (by rw[←g];rfl) (by rw[←ab];rfl) (B e1) (by rw[←ac];rfl) A r y (by omega) (by omega)).mono ?_
   rintro e w' ⟨rfl,j⟩
   have u:A9 f (.sel c k x a)=Dp c x us:=by simp[A9,b]
   have g:=key (T:=QW (Dp c x us)) (by
    cases z:Dp c x us with
    |none=>simp[QW]
    |some vs=>rw[Mo.M7 z];show (Ht us).length≤6;rw[Vc];exact I) (by rw[XZ,u])
   exact⟨_,rfl,g.1,g.2,j⟩
 |pick cs a =>
  obtain⟨h,l,o⟩:=E
  cases b:A9 f a with
  |none=>exact no h rfl o b (by simp[A9,b])
  |some us =>
   obtain⟨n,e1,r,C⟩:=o.ty (f:=f)
   obtain⟨y,I⟩:=G a C us b
   rw[Mp b] at r
   rw[l] at F M N
   refine (FV (p.cells cv).toArray n av tv cv cs _ us w (g0 h) rfl (B e1) A r y F (by omega) (fun c F=>by have:=N c F;omega)).mono ?_
   rintro e w' ⟨rfl,j⟩
   have u:A9 f (.pick cs a)=Bt cs us:=by simp[A9,b]
   have g:=key (T:=QW (Bt cs us)) (by
    cases z:Bt cs us with
    |none=>simp[QW]
    |some vs=>show (Ht vs).length≤6;rw[Vc,(Mo.Fo z).2,lB];exact M) (by rw[XZ,u])
   exact⟨_,rfl,g.1,g.2,j⟩
 |dist a=>exact False.elim L
 |grp cs s a=>exact False.elim L
 |uni a J =>
  obtain⟨h,o,r⟩:=E
  cases b:A9 f a with
  |none=>exact no h rfl o b (by simp[A9,b])
  |some us =>
   obtain⟨n,e1,u,C⟩:=o.ty (f:=f)
   obtain⟨m,H,K,ad⟩:=r.ty (f:=f)
   obtain⟨y,I⟩:=G a C us b
   rw[Mp b] at u
   cases D:A9 f J with
   |none =>
    rw[O5 D] at K
    refine (KM (p.cells cv).toArray 85 n m av tv _ _ w (.inl rfl) (g0 h) (B e1) (O H) A u (T7 y) K).mono ?_;rintro e w' ⟨rfl,j⟩
    exact⟨[],rfl,by simp,by rw[O5 (by simp[A9,b,D])];rfl,j⟩
   |some vs =>
    obtain⟨ae,_⟩:=G J ad vs D
    rw[Mp D] at K
    refine (KN (p.cells cv).toArray n m av tv _ us vs w (g0 h) (B e1) (O H) A u y K ae).mono ?_;rintro e w' ⟨rfl,j⟩
    have af:A9 f (.uni a J)=if us=vs then some us else none:=by simp[A9,b,D]
    have g:=key (T:=KL us vs) (by
     unfold KL
     by_cases z:us=vs
     ·rw[if_pos z];show (Ht us).length≤6;rw[Vc];exact I
     ·rw[if_neg z];simp[QW]) (by rw[XZ,af];rfl)
    exact⟨_,rfl,g.1,g.2,j⟩
 |join c d a J=>exact False.elim L
end Go.Proofs.YtdinjjmcmfjbfaaGreatDoor
