import Derived.Test.YtdinjjmcmfjbfaaGreatDoorVsJ
import Derived.Test.YtdinjjmcmfjbfaaGreatDoorVpJ
set_option maxRecDepth 100000
set_option maxHeartbeats 4000000
namespace Go.Proofs.YtdinjjmcmfjbfaaGreatDoor
open Go.RowKit Mo Pl Tryz
section
variable {Z:Nat→Prop}
theorem LU {s:ByteArray}(h:∀i:Nat,i<s.size→97≤bt s i∧bt s i≤122):∀k a,a≤s.size→Eb s 97 122 k a=min (a+k) s.size
 |0,a,c=>by rw[show Eb s 97 122 0 a=a from rfl];omega
 |k+1,a,c=>by
  by_cases b:a<s.size
  ·rw[Mn (h a b),LU h k (a+1) b];omega
  rw[It (fun d=>by have:=Cu (s:=s) (a:=a) (by omega);omega)];omega
theorem QQ (s:ByteArray):U0 s=Lz s:=by
 have a:∀(i:Nat) (hi:i<s.size),bt s i=s[i].toNat:=fun i hi=>by unfold bt;rw[dif_pos hi]
 unfold U0 Lz;have f:=Ln s 97 122 4 0;have e:(Bj s 0)=(decide (0<Eb s 97 122 4 0),Eb s 97 122 4 0):=rfl;rw[e,←Bool.decide_and];apply decide_eq_decide.2;constructor
 ·rintro⟨b,c,_⟩;have g:=LU (s:=s) (fun i hi=>by rw[a i hi];exact b ⟨i,hi⟩) 4 0 (vM _);simp only;omega
 simp only;rintro⟨b,c⟩;refine⟨fun i=>?_,by omega,by omega⟩;have d:=Ot s 97 122 4 0 i.1 (vM _) (by rw[c];exact i.2);rw[a i.1 i.2] at d;exact d
theorem gA:∀{l:List UInt8} {us:List Bool},L0 l=some us→l=Fj us
 | [],us,h=>by have:[]=us:=by simpa [L0] using h
               subst this;rfl
 |c::l,us,h=>by
  unfold L0 at h;cases a:PI c with
  |none=>rw[a] at h;cases h
  |some b =>
   rw[a] at h;cases d:L0 l with
   |none=>rw[d] at h;cases h
   |some vs =>
    rw[d] at h;injection h with h;rw[←h,gA d];show c::Fj vs=ZO b::Fj vs;congr 1;unfold PI at a;by_cases e:c=105
    ·rw[if_pos e] at a;injection a with a;rw[←a,e];rfl
    rw[if_neg e] at a;by_cases f:c=116
    ·rw[if_pos f] at a;injection a with a;rw[←a,f];rfl
    rw[if_neg f] at a;cases a
theorem TT:∀{l:List UInt8},(∀c∈l,c=105∨c=116)→∃us,L0 l=some us
 | [],_=>⟨[],rfl⟩
 |c::l,h=>by
  obtain⟨us,a⟩:=TT (l:=l) fun x b=>h x (by simp[b]);rcases h c (by simp) with rfl|rfl
  ·exact⟨false::us,by simp[L0,PI,a]⟩
  exact⟨true::us,by simp[L0,PI,a]⟩
theorem TU:∀{l:List UInt8} {c:UInt8},c∈l→c≠105→c≠116→L0 l=none
 |x::l,c,a,d,e=>by
  rcases uP.1 a with rfl|a
  ·simp[L0,PI,d,e]
  have:=TU a d e;unfold L0;cases PI x with
  |none=>rfl
  |some b=>simp[this]
theorem pZ {s:ByteArray}{i:Nat}(h:i<s.size):s[i]∈s.data.toList:=by
 show s.data[i]∈s.data.toList;exact Array.getElem_mem_toList h
theorem gC:(prog.info? 197).map (fun i=>(i.zero,i.size,i.bytes))=some (some (.agg #[.string ⟨#[]⟩,.string ⟨#[]⟩,.slice none 0 0]),3,56):=by kernel_rfl
theorem Lj {tb:List Tab}{t:Tab}{nm:List UInt8}(h:(Dw tb nm).isSome=true):Dw (tb++[t]) nm=Dw tb nm:=by
 unfold Dw at h⊢;rw[List.find?_append];cases hf:tb.find? fun t=>decide (t.nm=nm) with
 |none=>rw[hf] at h;cases h
 |some x=>rfl
theorem gD {tb:List Tab}{t:Tab}{q:Q}(h:∀nm∈Ac q,(Dw tb nm).isSome=true):Ad (Bg (Ed (tb++[t])) q)=Ad (Bg (Ed tb) q):=by
 refine A9.canon (Fp q fun nm a=>?_);unfold Ed;rw[Lj (h nm a)];exact A9.refl _
def U3 (Z:Nat→Prop)(w:World)(Y:Nat→Prop)(y:Nat)(st:Ses)(w':World):Prop:=∃Y',Lb (fun k=>Z k∨Y' k) w' Y' y st∧Ab Y w w'∧∀k,Y' k→Y k∨w.heap.size≤k
theorem Lb.same {w w':World}{Y:Nat→Prop}{y:Nat}{st:Ses}(h:Lb Z w Y y st)(k:Ab No w w'):U3 Z w Y y st w' :=
 ⟨Y,h.other k (fun _ s=>s.elim) (fun _ _ a=>a.elim id fun a=>h.z a) (fun _ a=>.inl a) (fun i a=>tU (a.elim (h.old i) fun a=>h.old i (h.z a)) k.size),k.any,fun _ e=>.inl e⟩
theorem Dj {S:Nat→Prop}{a w:World}(h:Ab S a w){b o:Nat}(c:S b∨a.heap.size≤b)(v:Value):Ab S a (w.setCell ⟨b,o,none⟩ v):=by
 refine⟨h.os,h.tape,h.output,by simpa [World.setCell] using h.size,fun k e d=>?_⟩;refine (Below.heap_setCell _ _ _ _ (show k≠b from ?_)).trans (h.block k e d);rintro rfl;rcases c with c|c
 ·exact d c
 omega
theorem Lc {w:World}{base:Nat}{e:TypeId}{size:Nat}{v:Value}{n:Nat}{xs:List Value}(h:w.ownsRow base e size v n xs){b o:Nat}(a:v.ownBlock≠some b)(c:Value):(w.setCell ⟨b,o,none⟩ c).ownsRow base e size v n xs:=by
 refine⟨h.1,?_⟩;rcases h.2 with hn|⟨g,cap,d,rfl,f,hg,i⟩
 ·exact .inl hn
 exact .inr ⟨g,cap,d,rfl,f,(Below.heap_setCell _ _ _ _ (show g≠b from fun e=>a (by rw[←e];rfl))).trans hg,i⟩
theorem Gj {w:World}{base:Nat}{e t:TypeId}{size:Nat}{v:Value}{n:Nat}{xs:List Value}(h:w.ownsRow base e size v n xs){b:Nat}{c:Array Value}{d:Nat×Nat}(a:w.heap[b]? =some (.cells c t d))(f:e≠t):v.ownBlock≠some b:=fun x=>by
 rcases h.2 with ⟨rfl,_⟩|⟨g,cap,cur,rfl,_,hg,_⟩
 ·simp[Value.ownBlock] at x
 simp[Value.ownBlock] at x;subst x;rw[hg] at a;injection a with a;injection a with _ a _;exact f a
theorem J5 {w:World}{b b2:Nat}{e t:TypeId}{c d:Nat}{v a:Value}{n m:Nat}{xs f:List Value}(h:w.ownsRow b e c v n xs)(k:w.ownsRow b2 t d a m f)(i:e≠t):∀g,v.ownBlock=some g→a.ownBlock≠some g:=fun g hg x=>by
 rcases k.2 with ⟨rfl,_⟩|⟨g',cap,cur,rfl,_,hg',_⟩
 ·simp[Value.ownBlock] at x
 simp[Value.ownBlock] at x;subst x;exact Gj h hg' i hg
theorem Kl {w:World}{base:Nat}{e:TypeId}{size:Nat}{v:Value}{n:Nat}{xs:List Value}(h:w.ownsRow base e size v n xs):∀k,v.ownBlock=some k→k<w.heap.size:=fun k e=>(h.lt k e).2
theorem QS {w i:World}{Y:Nat→Prop}{y:Nat}{st:Ses}{tv vv bv f:Value}{tcs vcs bvs:List Value}(d:Pt Z w y st tv vv bv tcs vcs bvs)(m:∀k,Y k↔Pu y tv vv bv k)(hv:∀q∈st.views,VG st.tabs q){nm o:ByteArray}{us:List Bool}(j:Ab (fun k=>tv.ownBlock=some k) w i)(s:i.ownsRow 0 197 3 f (st.tabs.length+1) (tcs++[.string nm,.string o,.slice none 0 0]))(C:f.ownBlock=tv.ownBlock∨∃b,f.ownBlock=some b∧w.heap.size≤b)(D:o.data.toList=Fj us) :
 U3 Z w Y y ⟨st.tabs++[⟨nm.data.toList,us,[]⟩],st.views⟩ (i.setCell ⟨y,0,none⟩ f):=by
 have E:=Aa d.obj;have F:tv.ownBlock≠some y:=Gj d.tow d.obj (by decide);have z:C2 i y #[tv,vv,bv] 189:=(j.block y E F).trans d.obj;have G:=J5 d.vow d.tow (by decide);have H:=J5 d.bow d.tow (by decide);have I:vv.ownBlock≠some y:=Gj d.vow d.obj (by decide);have J:bv.ownBlock≠some y:=Gj d.bow d.obj (by decide);have g:Ab (fun k=>k=y∨tv.ownBlock=some k) w (i.setCell ⟨y,0,none⟩ f):=Dj (S:=fun k=>k=y∨tv.ownBlock=some k) ⟨j.os,j.tape,j.output,j.size,fun k r h=>j.block k r (fun a=>h (.inr a))⟩ (.inl (.inl rfl)) f;have A:∀k,f.ownBlock=some k→tv.ownBlock=some k∨w.heap.size≤k:=fun k e=>by
  rcases C with u|⟨b,u,l⟩
  ·exact .inl (u ▸ e)
  rw[u] at e;injection e with e;exact .inr (by omega)
 have v:∀k,k<w.heap.size→(Z k∨Pu y f vv bv k)→Z k:=fun k r a=>by
  rcases a with a|a|a|a|a
  ·exact a
  ·exact d.z (.inl a)
  ·rcases A k a with a|a
   ·exact d.zt k a
   omega
  ·exact d.zv k a
  exact d.zb k a
 have h:∀k,(k=y∨tv.ownBlock=some k)→Z k∨Pu y f vv bv k:=fun k a=>.inl (d.z (a.elim .inl fun a=>.inr (.inl a)));have M:w.heap.size≤(i.setCell ⟨y,0,none⟩ f).heap.size:=g.size;refine⟨Pu y f vv bv,⟨f,vv,bv,tcs++[.string nm,.string o,.slice none 0 0],vcs,bvs,⟨?_,?_,?_,?_,?_,?_,?_,.inr (.inl rfl),(fun k e=>.inr (.inr (.inl e))),(fun k e=>.inr (.inr (.inr (.inl e)))),(fun k e=>.inr (.inr (.inr (.inr e)))),?_⟩,fun _=>Iff.rfl⟩,?_,?_⟩
 ·rw[A0 z];rfl
 ·have:(st.tabs++[(⟨nm.data.toList,us,[]⟩:Tab)]).length=st.tabs.length+1:=by simp
  rw[this];refine Lc s ?_ f;exact Gj s z (by decide)
 ·have x:=(d.tcs.Ni v).Cc g h;have K:tcs.length=st.tabs.length*3:=d.tow.1;have B:=x.push K (t:=⟨nm.data.toList,us,[]⟩) (p:=none) (n:=0) (c:=0) (Mc _);have e1:(⟨nm.data.toList.toArray⟩:ByteArray)=nm:=by cases nm;simp
  have e2:(⟨(Fj us).toArray⟩:ByteArray)=o:=by rw[←D]
  rw[show ((⟨nm.data.toList,us,[]⟩:Tab).nm)=nm.data.toList from rfl,show ((⟨nm.data.toList,us,[]⟩:Tab).ts)=us from rfl,e1,e2] at B;exact B
 ·exact A4 d.vow g (fun b l a=>a.elim (fun a=>I (a ▸ l)) fun a=>G b l a)
 ·exact (d.vcs.Ni v).Cc g h
 ·exact A4 d.bow g (fun b l a=>a.elim (fun a=>J (a ▸ l)) fun a=>H b l a)
 ·have x:=(d.bgs.Ni v).Cc g h;have e:(st.views.map fun q=>Ad (Bg (Ed (st.tabs++[(⟨nm.data.toList,us,[]⟩:Tab)])) q))=st.views.map fun q=>Ad (Bg (Ed st.tabs) q):=wB fun q L=>gD (hv q L).lv;show Cz _ _ bvs (st.views.map fun q=>Ad (Bg (Ed (st.tabs++[(⟨nm.data.toList,us,[]⟩:Tab)])) q));rw[e];exact x
 ·intro k a;rcases a with a|a|a|a|a
  ·have:=d.old k a;omega
  ·omega
  ·have:=Kl s k a;simp[World.setCell];exact this
  ·have:=Kl d.vow k a;omega
  have:=Kl d.bow k a;omega
 ·refine⟨g.os,g.tape,g.output,g.size,fun k r h=>g.block k r fun a=>h ((m k).2 (a.elim .inl fun a=>.inr (.inl a)))⟩
 intro k a;rcases a with a|a|a|a
 ·exact .inl ((m k).2 (.inl a))
 ·rcases A k a with a|a
  ·exact .inl ((m k).2 (.inr (.inl a)))
  exact .inr a
 ·exact .inl ((m k).2 (.inr (.inr (.inl a))))
 exact .inl ((m k).2 (.inr (.inr (.inr a))))
theorem QT {w:World}{Y:Nat→Prop}{y:Nat}{st:Ses}(h:Lb Z w Y y st)(hv:∀q∈st.views,VG st.tabs q)(_:st.tabs.length≤4)(nm b:ByteArray)(E:nm.size≤maxLen) :
 Calls prog 53 #[pV y,.string nm,.string b] w fun e w'=>e=.returned (.int .i64 (Fy st nm b).1)∧U3 Z w Y y (Fy st nm b).2 w':=by
 have v:=Ae h;obtain⟨tv,vv,bv,tcs,vcs,bvs,m,N⟩:=h;have H:=Ae m;have ad:=Ae N;have O:C3 w y 0 tv:=(Af m.obj 0).trans rfl;have ae:=Am m.obj 0;have P:=Aa m.obj;have F:=Ae (Jq tv _ nm.data.toList w (Rm m.tow m.tcs) (by rw[tZ];omega));obtain⟨Q,R,rfl⟩:∃a c,tv=.slice a st.tabs.length c:=by
  rcases m.tow.2 with ⟨e,af⟩|⟨g,cap,cur,e,_⟩
  ·exact⟨none,0,by rw[e,af]⟩
  exact⟨_,_,e⟩
 have S:=m.tow;obtain⟨it,hit,ag,ah,ai⟩:=info_parts gC;have aj:=Ae hv;have z:=QQ nm;unfold pV;clear m N hv;by_cases n:Lz nm=true
 ·rw[n] at z;by_cases C:1≤b.size∧b.size≤4
  ·have T:¬(b.size:Int)<1:=(by omega);have ak:¬(4:Int)<(b.size:Int):=(by omega);have a7:b.size≤4:=C.2;have U:=Ae C;clear C;go_enter func53,ntmps53;go_wp21;go_call Pj nm _ E as e w1 ⟨rfl,l⟩;rw[z,l];clear l;go_wp21;go_loopg [8] b.size (fun k al wr=>∃i:Nat,i+k=b.size∧al=.int .i64 (i:Int)∧xR (∀(j:Nat) (u:j<b.size),j<i→b[j]=105∨b[j]=116)∧wr=w)
   case atStart=>exact⟨0,by omega,rfl,Ae (fun j u h=>by omega),rfl⟩
   obtain⟨i,_,rfl,I,rfl⟩:=hrel;by_cases am:gk=0
   ·subst am;have an:¬(i:Int)<(b.size:Int):=(by omega);obtain⟨us,J⟩:∃us,L0 b.data.toList=some us:=TT fun c f=>(by obtain⟨j,u,e⟩:=List.getElem_of_mem f;have ao:j<b.size:=(by rw[M4] at u;exact u);rw[←e];exact I.o j ao (by omega));have K:xR (Du b=some us):=(by show _=_;unfold Du;rw[if_pos U.o];exact J);have ap:=Ae (gA J);clear J I;by_cases A:st.tabs.length=4
    ·have aq:((st.tabs.length:Int) == 4)=true:=(by simp;omega);have d:xR (Fy st nm b=(4,st)):=(by show _=_;unfold Fy;rw[if_pos n,K.o];simp only;rw[if_pos A]);clear A;go_wp21;go_ret;exact⟨Bo (by rw[d.o]),by rw[d.o];exact v.o.same (Ab.refl _ _)⟩
    have aq:((st.tabs.length:Int) == 4)=false:=(by simp;omega);cases B:Dw st.tabs nm.data.toList with
    |some t =>obtain⟨ar,D,_⟩:=(Pv st.tabs nm.data.toList).2 t B;rw[D] at F;have d:xR (Fy st nm b=(5,st)):=(by show _=_;unfold Fy;rw[if_pos n,K.o];simp only;rw[if_neg A,B];rfl);have a8:=Bm ar;clear A B D;go_wp21;go_call F.o as e w1 ⟨rfl,p⟩;have G:=Ae p;clear p;go_wp21;go_ret;exact⟨Bo (by rw[d.o]),by rw[d.o];exact v.o.same G.o⟩
    |none =>
     have D:=(Pv st.tabs nm.data.toList).1 B;rw[D] at F;have d:xR (Fy st nm b=(0,⟨st.tabs++[⟨nm.data.toList,us,[]⟩],st.views⟩)):=(by show _=_;unfold Fy;rw[if_pos n,K.o];simp only;rw[if_neg A,B];rfl);have au:st.tabs.length+1≤maxLen:=(by unfold maxLen;omega);have av:(st.tabs.length+1)*56≤140737488355328:=(by omega);clear A B D;go_wp21;go_call F.o as e w1 ⟨rfl,p⟩;have G:=Ae p;have a9:=(p.cell P (o:=0) xT).trans O;have L:=(p.block y P xT).trans H.o.obj;have aw:=A4 S p (fun _ _ ax=>ax.elim);have ay:some y≠Value.ownBlock (.slice Q st.tabs.length R):=fun x=>Gj S H.o.obj (by decide) x.symm;have az:=Aa L;have a0:=Ae L;clear p O ae L;go_wp2_with (first
      |(at_builtin;refine wpList_append_own_at _ rfl _ _ 185 rfl 0 197 it (.agg #[.string ⟨#[]⟩,.string ⟨#[]⟩,.slice none 0 0]) 3 56 underlying185 hit ag ah ai rfl (by decide) _ _ _ rfl (aw.alloc _) ⟨w1.heap.size,0,none⟩ 1 1 [.string nm,.string b,.slice none 0 0] rfl rfl (Fi w1 _ _ _ _) (by simp[Value.oneCell']) au av (vM _) ?_;intro ba a1 V W _ a2;obtain⟨_,_,rfl⟩:=Rk V (by omega);have X:=(W.block y (by simp;omega) ay).trans ((Below.heap_alloc _ _ _ az).trans a0.o);have bb:C3 a1 y 0 (.slice Q st.tabs.length R):=(Af X 0).trans rfl;have bc:=Am X 0)
      |fail)
     go_ret;refine⟨Bo (by rw[d.o]),?_⟩;rw[d.o];refine QS H.o ad.o aj.o ?_ V ?_ ap.o
     ·exact ((Ab.any G.o).alloc _).grown W (fun r e=>.inr e)
     rcases a2 with M|M
     ·exact .inl M
     exact .inr ⟨_,M,by have:=G.o.size;simp;omega⟩
   obtain⟨k,rfl⟩:=Bx am;have an:(i:Int)<(b.size:Int):=(by omega);have bd:=Bm i;have a3:i<b.size:=(by omega);by_cases f:b[i]=105∨b[i]=116
   ·have s:(b[i].toNat:Int)=105∨(b[i].toNat:Int)=116:=(by rcases f with f|f <;> rw[f] <;> simp);have aa:xR (∀(j:Nat) (u:j<b.size),j<i+1→b[j]=105∨b[j]=116):=fun j u be=>by
     by_cases a4:j=i
     ·subst a4;exact f
     exact I.o j u (by omega)
    clear f;rcases s with s|s
    ·have ab:((b[i].toNat:Int) != 105)=false:=(by simp[s]);clear s;go_wp21;go_roundg k
     case measure=>omega
     exact⟨i+1,by omega,by go_num,aa,rfl⟩
    have ab:((b[i].toNat:Int) != 105)=true:=(by simp[s]);have a5:((b[i].toNat:Int) != 116)=false:=(by simp[s]);clear s;go_wp21;go_roundg k
    case measure=>omega
    exact⟨i+1,by omega,by go_num,aa,rfl⟩
   have ab:((b[i].toNat:Int) != 105)=true:=(by simp only[bne_iff_ne,ne_eq];intro e;exact f (.inl (wK.1 (by show b[i].toNat=105;omega))));have a5:((b[i].toNat:Int) != 116)=true:=(by simp only[bne_iff_ne,ne_eq];intro e;exact f (.inr (wK.1 (by show b[i].toNat=116;omega))));have d:xR (Fy st nm b=(2,st)):=(by show _=_;have:Du b=none:=(by unfold Du;rw[if_pos U.o];exact TU (pZ a3) (fun e=>f (.inl e)) (fun e=>f (.inr e)));unfold Fy;rw[if_pos n,this]);clear f;go_wp21;go_ret;exact⟨Bo (by rw[d.o]),by rw[d.o];exact v.o.same (Ab.refl _ _)⟩
  have d:xR (Fy st nm b=(2,st)):=by show _=_;have:Du b=none:=(by unfold Du;rw[if_neg C]);unfold Fy;rw[if_pos n,this]
  have a6:(b.size:Int)<1∨(¬(b.size:Int)<1∧(4:Int)<(b.size:Int)):=by omega
  clear C;rcases a6 with T|⟨T,ak⟩
  ·go_enter func53,ntmps53;go_wp21;go_call Pj nm _ E as e w1 ⟨rfl,l⟩;rw[z,l];clear l;go_wp21;go_ret;exact⟨Bo (by rw[d.o]),by rw[d.o];exact v.o.same (Ab.refl _ _)⟩
  go_enter func53,ntmps53;go_wp21;go_call Pj nm _ E as e w1 ⟨rfl,l⟩;rw[z,l];clear l;go_wp21;go_ret;exact⟨Bo (by rw[d.o]),by rw[d.o];exact v.o.same (Ab.refl _ _)⟩
 have ac:Lz nm=false:=by simpa using n
 rw[ac] at z;have d:xR (Fy st nm b=(2,st)):=by show _=_;unfold Fy;rw[if_neg n]
 clear n ac;go_enter func53,ntmps53;go_wp21;go_call Pj nm _ E as e w1 ⟨rfl,l⟩;rw[z,l];clear l;go_wp21;go_ret;exact⟨Bo (by rw[d.o]),by rw[d.o];exact v.o.same (Ab.refl _ _)⟩
end
section
variable {Z:Nat→Prop}
def ML:Option (List Bool)→List UInt8
 |some ts=>Fj ts
 |none=>[]
theorem Io (ts:List Bool)(c:Nat):(PX ts c=[]∧ts[c]? =none)∨(PX ts c=[105]∧ts[c]? =some false)∨(PX ts c=[116]∧ts[c]? =some true):=by
 unfold PX;cases h:ts[c]? with
 |none=>exact .inl ⟨rfl,rfl⟩
 |some b=>cases b
          ·exact .inr (.inl ⟨rfl,rfl⟩)
          exact .inr (.inr ⟨rfl,rfl⟩)
theorem lG {a b:List Bool}(h:Fj a=Fj b):a=b:=by
 induction a generalizing b with
 |nil=>cases b with
  |nil=>rfl
  |cons _ _=>cases h
 |cons x a c=>cases b with
  |nil=>cases h
  |cons y b =>have d:ZO x::Fj a=ZO y::Fj b:=h;injection d with e f;rw[c f];cases x <;> cases y <;> first|rfl|exact absurd e (by decide)
theorem Mg {a:List Bool}(h:a≠[]):(Fj a).isEmpty=false:=by
 cases a with
 |nil=>exact absurd rfl h
 |cons x a=>rfl
theorem Hj (a:List Bool):(Fj a).length=a.length:=by unfold Fj;rw[tZ]
theorem YP (pv:Array Value)(v:Int)(c:Nat)(av tv:Value)(d:List (List UInt8))(w:World)(hv:(v == 0)=false)(h:pv[0]? =some (.int .u8 v))(i:pv[9]? =some (.int .i64 (c:Int)))(q:I4 w av d)(f:d[c]? =some []) :
 Calls prog 132 #[.agg pv,av,tv] w fun e w'=>e=.returned (.string ⟨#[]⟩)∧Ab No w w':=by
 obtain⟨j,g⟩:∃T:List UInt8,[]=T:=⟨_,rfl⟩;have s:j.isEmpty=true:=by rw[←g];rfl
 rw[g] at f;clear g;have k:xR (Ab No w (w.alloc (.cells pv 204))):=(Ab.refl No w).alloc _;obtain⟨a,cap,rfl,_,l,m⟩:=q;obtain⟨b,o,rfl,r,p⟩:=m c j f;have t:c<d.length:=(tR.1 f).1;have u:=Bm c
 have x:=Bn l
 have y:=(k.o.cell r xT).trans p;have p0:=Bi (w:=w) h;have z:=Bi (w:=w) i;generalize d.length=n at *;have A:(c:Int)<(n:Int):=by omega
 clear m f l p h i;go_enter func132,ntmps132;go_wp21;go_ret;exact⟨rfl,k.o⟩
theorem LV (pv:Array Value)(c:Nat)(av tv:Value)(d:List (List UInt8))(f:List UInt8)(w:World)(h:pv[0]? =some (.int .u8 68))(i:pv[9]? =some (.int .i64 (c:Int)))(p:I4 w av d)(g:d[c]? =some f)(_:f.isEmpty=false) :
 Calls prog 132 #[.agg pv,av,tv] w fun e w'=>e=.returned (.string ⟨f.toArray⟩)∧Ab No w w':=by
 have j:xR (Ab No w (w.alloc (.cells pv 204))):=(Ab.refl No w).alloc _;obtain⟨a,cap,rfl,_,k,l⟩:=p;obtain⟨b,o,rfl,q,m⟩:=l c f g;have r:c<d.length:=(tR.1 g).1;have s:=Bm c
 have t:=Bn k
 have u:=(j.o.cell q xT).trans m;have p0:=Bi (w:=w) h;have v:=Bi (w:=w) i;generalize d.length=n at *;have x:(c:Int)<(n:Int):=by omega
 clear l g k m h i;go_enter func132,ntmps132;go_wp21;go_ret;exact⟨rfl,j.o⟩
theorem LX (pv:Array Value)(d:Nat)(av tv cv:Value)(cs:List Nat)(f:List (List UInt8))(ts:List Bool)(w:World)(k:pv[0]? =some (.int .u8 80))(l:pv[2]? =some cv)(m:pv[9]? =some (.int .i64 (d:Int)))(x:I4 w av f)(g:f[d]? =some (Fj ts))(i:ts≠[])(p:Ik Z w cv cs)(y:cs.length≤1000)(Gs:∀c∈cs,c≤1000) :
 Calls prog 132 #[.agg pv,av,tv] w fun e w'=>e=.returned (.string ⟨(ML (Bq cs ts)).toArray⟩)∧Ab No w w':=by
 have i:=Mg i;have q:=Ae (fun w (h:Ik Z w cv cs)=>Wi ts cv cs w h y Gs);have z:=Ae p;obtain⟨_,_,rfl,-,-,-⟩:=p;generalize cs.length=D at *;obtain⟨A,r⟩:∃T:List UInt8,Fj ts=T:=⟨_,rfl⟩;rw[r] at g q i;clear r;have j:xR (Ab No w (w.alloc (.cells pv 204))):=(Ab.refl No w).alloc _;obtain⟨a,cap,rfl,_,s,t⟩:=x;obtain⟨b,o,rfl,B,u⟩:=t d A g;have E:d<f.length:=(tR.1 g).1;have F:=Bm d
 have G:=Bn s
 have H:=(j.o.cell B xT).trans u;have p0:=Bi (w:=w) k;have I:=Bi (w:=w) m;generalize f.length=n at *;have J:(d:Int)<(n:Int):=by omega
 clear t g s u k m;have p2:=Bi (w:=w) l;clear l;go_enter func132,ntmps132;go_wp21;go_call q.o _ (z.o.Ag j.o) as e w1 ⟨rfl,v⟩;have C:=Ae v;clear v;go_wp21;go_ret;exact⟨rfl,j.o.seq C.o⟩
theorem QU (pv:Array Value)(c:Nat)(x:Dk)(g:Nat)(av tv:Value)(h:List (List UInt8))(ts:List Bool)(w:World)(z:pv[0]? =some (.int .u8 83))(A:pv[4]? =some (.int .u8 (Vt x)))(B:pv[8]? =some (.int .i64 (Pk x:Int)))(C:pv[9]? =some (.int .i64 (g:Int)))(D:pv[11]? =some (.int .i64 (c:Int)))(H:I4 w av h)(i:h[g]? =some (Fj ts))(p:ts≠[])(q:c≤1000)(j:Pk x≤1000) :
 Calls prog 132 #[.agg pv,av,tv] w fun e w'=>e=.returned (.string ⟨(ML (Eh c x ts)).toArray⟩)∧Ab No w w':=by
 have p:=Mg p;have r:=Ae (fun c (q:c≤1000) w=>L6 ts c w q);obtain⟨I,s⟩:∃T:List UInt8,Fj ts=T:=⟨_,rfl⟩;rw[s] at i r p;have t:=Ae s;clear s;have l:xR (Ab No w (w.alloc (.cells pv 204))):=(Ab.refl No w).alloc _;obtain⟨a,cap,rfl,_,E,F⟩:=H;obtain⟨b,o,rfl,J,G⟩:=F g I i;have M:g<h.length:=(tR.1 i).1;have N:=Bm g
 have O:=Bn E
 have P:=(l.o.cell J xT).trans G;have p0:=Bi (w:=w) z;have Q:=Bi (w:=w) C;generalize h.length=n at *;have R:(g:Int)<(n:Int):=by omega
 clear F i E G z C;have u:=Bi (w:=w) A;have y:=Bi (w:=w) B;have S:=Bi (w:=w) D;clear A B D;go_enter func132,ntmps132;go_wp21;go_call r.o c q _ as e w1 ⟨rfl,rfl⟩;go_wp21;go_call r.o (Pk x) j _ as e w1 ⟨rfl,rfl⟩;cases x with
 |col d =>
  simp only[Vt,Pk] at u y j⊢;rcases Io ts c with ⟨e1,f⟩|⟨e1,f⟩|⟨e1,f⟩ <;> rcases Io ts d with ⟨e2,m⟩|⟨e2,m⟩|⟨e2,m⟩ <;>
  ·rw[e1,e2];have Q1:=Ae f;have K:=Ae m;clear f m e1 e2;go_wp21;go_ret;refine⟨El ?_,l.o⟩;simp[Eh,I7,ML,Q1.o,K.o,t.o]
 |val v =>
  cases v with
  |num k =>
   simp only[Vt,Pk] at u y j⊢;generalize PX ts 0=L;rcases Io ts c with ⟨e1,f⟩|⟨e1,f⟩|⟨e1,f⟩ <;>
   ·rw[e1];have Q1:=Ae f;clear f e1;go_wp21;go_ret;refine⟨El ?_,l.o⟩;simp[Eh,I7,ML,ty,Q1.o,t.o]
  |txt k =>
   simp only[Vt,Pk] at u y j⊢;generalize PX ts 0=L;rcases Io ts c with ⟨e1,f⟩|⟨e1,f⟩|⟨e1,f⟩ <;>
   ·rw[e1];have Q1:=Ae f;clear f e1;go_wp21;go_ret;refine⟨El ?_,l.o⟩;simp[Eh,I7,ML,ty,Q1.o,t.o]
end
section
variable {Z:Nat→Prop}
def QV (ts us:List Bool):List UInt8:=ML (if ts=us then some ts else none)
def LY (c d:Nat)(ts us:List Bool):List UInt8:=match ts[c]? with
 |none=>[]
 |some a=>if us[d]? =some a then Fj (ts++us) else []
def GA (cs:List Nat)(sg:Int)(m:Nat)(ts:List Bool):List UInt8:=match Bq cs ts with
 |none=>[]
 |some us=>if sg=115∧ts[m]?≠some false then [] else Fj (us++[false])
theorem Z5 (pv:Array Value)(v:Int)(c d:Nat)(av tv:Value)(f:List (List UInt8))(i:List UInt8)(w:World)(hv:v=85∨v=74)(m:pv[0]? =some (.int .u8 v))(p:pv[9]? =some (.int .i64 (c:Int)))(q:pv[10]? =some (.int .i64 (d:Int)))(x:I4 w av f)(j:f[c]? =some i)(_:i.isEmpty=false)(g:f[d]? =some []) :
 Calls prog 132 #[.agg pv,av,tv] w fun e w'=>e=.returned (.string ⟨#[]⟩)∧Ab No w w':=by
 obtain⟨r,k⟩:∃T:List UInt8,[]=T:=⟨_,rfl⟩;have y:r.isEmpty=true:=by rw[←k];rfl
 rw[k] at g;clear k;have h:xR (Ab No w (w.alloc (.cells pv 204))):=(Ab.refl No w).alloc _;obtain⟨a,cap,rfl,_,s,l⟩:=x;obtain⟨b,o,rfl,t,u⟩:=l c i j;have z:c<f.length:=(tR.1 j).1;have A:=Bm c
 have B:=Bn s
 have C:=(h.o.cell t xT).trans u;have p0:=Bi (w:=w) m;have D:=Bi (w:=w) p;obtain⟨b2,_,e2,_,c2⟩:=l d r g;injection e2 with e2;injection e2 with e2 e3;subst e2 e3;have E:d<f.length:=(tR.1 g).1;have F:=Bm d
 have G:=(h.o.cell t xT).trans c2;have H:=Bi (w:=w) q;generalize f.length=n at *;have I:(c:Int)<(n:Int):=by omega
 clear l j s u m p;have J:(d:Int)<(n:Int):=by omega
 clear g c2 q;rcases hv with rfl|rfl
 ·skip
  go_enter func132,ntmps132;go_wp21;go_ret;exact⟨rfl,h.o⟩
 skip
 go_enter func132,ntmps132;go_wp21;go_ret;exact⟨rfl,h.o⟩
theorem QW (pv:Array Value)(c d:Nat)(av tv:Value)(f:List (List UInt8))(ts us:List Bool)(w:World)(u:pv[0]? =some (.int .u8 85))(v:pv[9]? =some (.int .i64 (c:Int)))(x:pv[10]? =some (.int .i64 (d:Int)))(C:I4 w av f)(h:f[c]? =some (Fj ts))(m:ts≠[])(i:f[d]? =some (Fj us))(p:us≠[]) :
 Calls prog 132 #[.agg pv,av,tv] w fun e w'=>e=.returned (.string ⟨(QV ts us).toArray⟩)∧Ab No w w':=by
 have m:=Mg m;have p:=Mg p;have j:xR (Fj ts=Fj us↔ts=us):=⟨lG,fun e=>by rw[e]⟩;obtain⟨k,q⟩:∃T:List UInt8,Fj ts=T:=⟨_,rfl⟩;obtain⟨r,y⟩:∃T:List UInt8,Fj us=T:=⟨_,rfl⟩;have D:=Ae q;rw[q] at h m j;rw[y] at i p j;clear q y;have l:xR (Ab No w (w.alloc (.cells pv 204))):=(Ab.refl No w).alloc _;obtain⟨a,cap,rfl,_,z,s⟩:=C;obtain⟨b,o,rfl,A,B⟩:=s c k h;have E:c<f.length:=(tR.1 h).1;have F:=Bm c
 have G:=Bn z
 have H:=(l.o.cell A xT).trans B;have p0:=Bi (w:=w) u;have I:=Bi (w:=w) v;obtain⟨b2,_,e2,_,c2⟩:=s d r i;injection e2 with e2;injection e2 with e2 e3;subst e2 e3;have J:d<f.length:=(tR.1 i).1;have K:=Bm d
 have L:=(l.o.cell A xT).trans c2;have M:=Bi (w:=w) x;generalize f.length=n at *;have N:(c:Int)<(n:Int):=by omega
 clear s h z B u v;have O:(d:Int)<(n:Int):=by omega
 clear i c2 x;by_cases g:k=r
 ·have t:xR (QV ts us=k):=by show _=_;unfold QV;rw[if_pos (j.o.1 g)];exact D.o
  subst g;go_enter func132,ntmps132;go_wp21;go_ret;exact⟨El (by rw[t.o]),l.o⟩
 have t:xR (QV ts us=[]):=by show _=_;unfold QV;rw[if_neg (fun e=>g (j.o.2 e))];rfl
 have P:(k == r)=false:=by simpa using g
 clear g;go_enter func132,ntmps132;go_wp21;go_ret;exact⟨El (by rw[t.o]),l.o⟩
end
section
variable {Z:Nat→Prop}
theorem LZ (pv:Array Value)(c d:Nat)(f g:Nat)(av tv:Value)(h:List (List UInt8))(ts us:List Bool)(w:World)(x:pv[0]? =some (.int .u8 74))(y:pv[8]? =some (.int .i64 (d:Int)))(z:pv[9]? =some (.int .i64 (f:Int)))(A:pv[10]? =some (.int .i64 (g:Int)))(B:pv[11]? =some (.int .i64 (c:Int)))(J:I4 w av h)(j:h[f]? =some (Fj ts))(p:ts≠[])(k:h[g]? =some (Fj us))(q:us≠[])(i:c≤1000)(K:d≤1000)(r:ts.length≤6)(s:us.length≤6) :
 Calls prog 132 #[.agg pv,av,tv] w fun e w'=>e=.returned (.string ⟨(LY c d ts us).toArray⟩)∧Ab No w w':=by
 have p:=Mg p;have q:=Mg q;have C:=Ae (fun c (i:c≤1000) w=>L6 ts c w i);have D:=Ae (fun c (i:c≤1000) w=>L6 us c w i);have t:xR (Fj (ts++us)=Fj ts++Fj us):=by show _=_;unfold Fj;rw[uF]
 have r:(Fj ts).length≤6:=by rw[Hj];exact r
 have s:(Fj us).length≤6:=by rw[Hj];exact s
 obtain⟨L,E⟩:∃T:List UInt8,Fj ts=T:=⟨_,rfl⟩;obtain⟨M,F⟩:∃T:List UInt8,Fj us=T:=⟨_,rfl⟩;rw[E] at j p C t r;rw[F] at k q D t s;clear E F;have u:xR (Ab No w (w.alloc (.cells pv 204))):=(Ab.refl No w).alloc _;obtain⟨a,cap,rfl,_,G,v⟩:=J;obtain⟨b,o,rfl,H,I⟩:=v f L j;have O:f<h.length:=(tR.1 j).1;have P:=Bm f
 have Q:=Bn G
 have R:=(u.o.cell H xT).trans I;have p0:=Bi (w:=w) x;have S:=Bi (w:=w) z;obtain⟨b2,_,e2,_,c2⟩:=v g M k;injection e2 with e2;injection e2 with e2 e3;subst e2 e3;have U:g<h.length:=(tR.1 k).1;have V:=Bm g
 have W:=(u.o.cell H xT).trans c2;have X:=Bi (w:=w) A;generalize h.length=n at *;have Y:(f:Int)<(n:Int):=by omega
 clear v j G I x z;have Z:(g:Int)<(n:Int):=by omega
 clear k c2 A;have aa:=Bi (w:=w) y;have ab:=Bi (w:=w) B;clear y B;go_enter func132,ntmps132;go_wp21;go_call C.o c i _ as e w1 ⟨rfl,rfl⟩;go_wp21;go_call D.o d K _ as e w1 ⟨rfl,rfl⟩;rcases Io ts c with ⟨e1,l⟩|⟨e1,l⟩|⟨e1,l⟩ <;> rcases Io us d with ⟨e2,m⟩|⟨e2,m⟩|⟨e2,m⟩ <;>
 ·rw[e1,e2];have Q1:=Ae l;have N:=Ae m;clear l m e1 e2;go_wp21;go_ret;refine⟨El ?_,u.o⟩;simp[LY,Q1.o,N.o,t.o,Gh]
end
section
variable {Z:Nat→Prop}
theorem QX (pv:Array Value)(l:Nat)(av tv cv:Value)(cs:List Nat)(v:Int)(m:Nat)(x:List (List UInt8))(ts:List Bool)(w:World)(J:pv[0]? =some (.int .u8 71))(d:pv[2]? =some cv)(p:pv[3]? =some (.int .u8 v))(K:pv[8]? =some (.int .i64 (m:Int)))(L:pv[9]? =some (.int .i64 (l:Int)))(ac:I4 w av x)(g:x[l]? =some (Fj ts))(D:ts≠[])(y:Ik Z w cv cs)(M:cs.length≤6)(Gs:∀c∈cs,c≤1000)(N:m≤1000) :
 Calls prog 132 #[.agg pv,av,tv] w fun e w'=>e=.returned (.string ⟨(GA cs v m ts).toArray⟩)∧Ab No w w':=by
 have D:=Mg D;have E:=Ae (fun w (h:Ik Z w cv cs)=>Wi ts cv cs w h (by omega) Gs);have F:=Ae (fun c (y:c≤1000) w=>L6 ts c w y);have O:=Ae y;obtain⟨_,ad,rfl,ae,P,-⟩:=y;have q:xR ((cs≠[]→PY cs ts=[]→Bq cs ts=none)∧(cs=[]→Bq cs ts=some []∧PY cs ts=[])∧∀us,Bq cs ts=some us→PY cs ts=Fj us∧us.length=cs.length):=by
  refine⟨fun g d=>?_,fun h=>?_,fun us h=>?_⟩
  ·unfold PY at d;cases h:Bq cs ts with
   |none=>rfl
   |some us =>
    rw[h] at d;have p:=(Dc h).2
    have af:us=[]:=by cases us with
     |nil=>rfl
     |cons _ _=>cases d
    rw[af] at p;have:=congrArg List.length p;rw[tZ] at this;exact absurd (uM this.symm) g
  ·subst h;exact⟨rfl,rfl⟩
  unfold PY;rw[h];exact⟨rfl,by rw[(Dc h).2,tZ]⟩
 obtain⟨z,G⟩:∃n,cs.length=n:=⟨_,rfl⟩;have H:=Ae G;rw[G] at E O d ae M;clear G;obtain⟨ag,Q⟩:∃T:List UInt8,Fj ts=T:=⟨_,rfl⟩;rw[Q] at g E F D;clear Q;have i:xR (Ab No w (w.alloc (.cells pv 204))):=(Ab.refl No w).alloc _;obtain⟨a,cap,rfl,_,R,S⟩:=ac;obtain⟨b,o,rfl,ah,U⟩:=S l ag g;have ar:l<x.length:=(tR.1 g).1;have au:=Bm l
 have aw:cap≤9223372036854775807:=by unfold maxLen at R;omega
 have ai:=(i.o.cell ah xT).trans U;have p0:=Bi (w:=w) J;have aj:=Bi (w:=w) L;generalize x.length=n at *;have ax:(l:Int)<(n:Int):=by omega
 clear S g R U J L;have p2:=Bi (w:=w) d;have V:=Bi (w:=w) p;have W:=Bi (w:=w) K;have I:w.heap.size<(w.alloc (.cells pv 204)).heap.size:=by simp
 have ak:=Ae p2;have al:=Ae V;have am:=Ae W;have ay:ad≤9223372036854775807:=by unfold maxLen at P;omega
 clear d p K P V W;go_enter func132,ntmps132;go_wp21;go_call E.o _ (O.o.Ag i.o) as e w1 ⟨rfl,r⟩;have s:=Ae r;have r2:=(r.cell I xT).trans ak.o;have az:=(r.cell I xT).trans al.o;have a0:=(r.cell I xT).trans am.o;clear r p0 p2 aj ai;by_cases j:cs≠[]∧PY cs ts=[]
 ·have X:0<z:=by have:=H.o;have:=xI.2 j.1;omega
  have a1:(0:Int)<(z:Int):=by omega
  have an:=Ae (q.o.1 j.1 j.2);rw[j.2];clear j;go_wp21;go_ret;exact⟨El (by unfold GA;rw[an.o]),i.o.seq s.o⟩
 have ao:∃us,Bq cs ts=some us∧PY cs ts=Fj us:=by
  cases h:Bq cs ts with
  |some us=>exact⟨us,rfl,(q.o.2.2 us h).1⟩
  |none =>
   exfalso;by_cases Y:cs=[]
   ·rw[(q.o.2.1 Y).1] at h;cases h
   exact j ⟨Y,by unfold PY;rw[h]⟩
 obtain⟨us,A,aa⟩:=ao;have B:=Ae A;have ap:(Fj us).length≤6:=by rw[Hj,(q.o.2.2 us A).2,H.o];exact M
 have k:(Fj us).isEmpty=true→¬(0:Int)<(z:Int):=fun t=>by
  have g:us.length=z:=by rw[(q.o.2.2 us A).2,H.o]
  have d:(Fj us).length=0:=by rw[List.isEmpty_iff.1 t];rfl
  rw[Hj] at d;omega
 rw[aa];have u:xR ((⟨(Fj us).toArray⟩:ByteArray)++⟨#[105]⟩=⟨(Fj (us++[false])).toArray⟩):=by show _=_;have:=Gh (Fj us) [105];rw[show (⟨#[105]⟩:ByteArray)=⟨[(105:UInt8)].toArray⟩ from rfl,this];unfold Fj;rw[uF];rfl
 generalize Fj us=T at ap k u⊢;clear j A aa;by_cases C:v=115
 ·subst C;cases t:T.isEmpty with
  |true =>
   have X:=k t;clear k;go_wp21;go_call F.o m N _ as e aq ⟨rfl,rfl⟩;rcases Io ts m with ⟨e1,f⟩|⟨e1,f⟩|⟨e1,f⟩ <;>
   ·rw[e1];have Q1:=Ae f;clear f e1;go_wp21;go_ret;refine⟨El ?_,i.o.seq s.o⟩;simp[GA,B.o,Q1.o,u.o]
  |false =>
   clear k;go_wp21;go_call F.o m N _ as e aq ⟨rfl,rfl⟩;rcases Io ts m with ⟨e1,f⟩|⟨e1,f⟩|⟨e1,f⟩ <;>
   ·rw[e1];have Q1:=Ae f;clear f e1;go_wp21;go_ret;refine⟨El ?_,i.o.seq s.o⟩;simp[GA,B.o,Q1.o,u.o]
 have a2:(v == 115)=false:=by simpa using C
 have ab:=Ae C;clear C;cases t:T.isEmpty with
 |true =>have X:=k t;clear k;go_wp21;go_ret;refine⟨El ?_,i.o.seq s.o⟩;simp[GA,B.o,u.o,ab.o]
 |false =>clear k;go_wp21;go_ret;refine⟨El ?_,i.o.seq s.o⟩;simp[GA,B.o,u.o,ab.o]
end
section
variable {Z:Nat→Prop}
theorem QY (pv:Array Value)(nm:List UInt8)(av tv:Value)(ts:List UT)(t:UT)(i:Nat)(w:World)(f:pv[0]? =some (.int .u8 0))(g:pv[1]? =some (.string ⟨nm.toArray⟩))(c:My Z w tv ts)(r:ts.length≤1000)(hi:CZ ts nm=(i:Int))(d:ts[i]? =some t) :
 Calls prog 132 #[.agg pv,av,tv] w fun e w'=>e=.returned (.string ⟨t.tys.toArray⟩)∧Ab No w w':=by
 have h:xR (Ab No w (w.alloc (.cells pv 204))):=(Ab.refl No w).alloc _;have j:=Ae (Jq tv ts nm _ (c.Ag h.o) r);have x:=Ae c;rw[hi] at j;obtain⟨a,cap,rfl,_,k,l⟩:=c;obtain⟨b,o,p,_,_,rfl,s,u,c1,c2,-⟩:=l i t d;have y:i<ts.length:=(tR.1 d).1;generalize ts.length=n at *;have z:=Bm i
 have A:(i:Int)<(n:Int):=by omega
 have B:=Bn k
 have p0:=Bi (w:=w) f;have p1:=Bi (w:=w) g;have v:=Ae c1;clear l d f g u c2 c1 k hi;go_enter func132,ntmps132;go_wp21;go_call j.o as e w1 ⟨rfl,m⟩;have q:xR (Ab No w w1):=h.o.seq m;have C:=(q.o.cell s xT).trans v.o;clear m p0 p1;go_wp21;go_ret;exact⟨rfl,q.o⟩
end
section
variable {Z:Nat→Prop}
def U4 (T:List UInt8):List UInt8:=if 6<T.length then [] else T
theorem QZ {T:List UInt8}(h:T.length≤6):U4 T=T:=by unfold U4;rw[if_neg (by omega)]
theorem Z6 (ts:List Bool):U4 (Fj ts)=ML (six ts):=by
 unfold U4 six;rw[Hj];by_cases h:ts.length≤6
 ·rw[if_pos h,if_neg (by omega)];rfl
 rw[if_neg h,if_pos (by omega)];rfl
theorem MA (f:List UInt8→Option (List Bool))(q:Q):AC f q=ML (A7 f q):=by unfold AC ML;cases A7 f q <;> rfl
theorem I9.ty {S:List Q}{i:Nat}{j:Int}{q:Q}{f:List UInt8→Option (List Bool)}(h:I9 S i j q):∃k:Nat,j=(k:Int)∧((S.take i).map (AC f))[k]? =some (AC f q)∧q∈S:=by
 obtain⟨k,e,b,a⟩:=h;refine⟨k,e,?_,tV a⟩;rw[tX,uQ,if_pos b,a];rfl
theorem YQ (f:List UInt8→Option (List Bool))(S:List Q)(i:Nat)(q:Q)(p:UP)(cv av tv:Value)(ts:List UT)(w:World)(J:L7 S i p q)(hp:Zo p)(H:Ik Z w cv p.cols)(E:I4 w av ((S.take i).map (AC f)))(aa:My Z w tv ts)(ab:ts.length≤1000)
 (hf:∀nm,q=.tab nm→∃(k:Nat) (t:UT) (us:List Bool),CZ ts nm=(k:Int)∧ts[k]? =some t∧t.tys=Fj us∧f nm=some us∧us.length≤6) (I:∀ac∈S,∀us,A7 f ac=some us→us≠[]∧us.length≤6) :
 Calls prog 132 #[.agg (p.cells cv).toArray,av,tv] w fun e w'=>∃T:List UInt8,e=.returned (.string ⟨T.toArray⟩)∧T.length≤100∧U4 T=AC f q∧Ab No w w':=by
 obtain⟨_,_,L,M⟩:=hp;have g0:∀{v:Int},p.verb=v→(p.cells cv).toArray[0]? =some (.int .u8 v):=fun e=>by rw[←e];rfl
 have F:∀{k:Nat},p.one=(k:Int)→(p.cells cv).toArray[9]? =some (.int .i64 (k:Int)):=fun e=>by rw[←e];rfl
 have N:∀{k:Nat},p.two=(k:Int)→(p.cells cv).toArray[10]? =some (.int .i64 (k:Int)):=fun e=>by rw[←e];rfl
 have key:∀{T:List UInt8},T.length≤6→T=AC f q→T.length≤100∧U4 T=AC f q:=fun h D=>⟨by omega,by rw[QZ h];exact D⟩;have no:∀{v:Int} {g:Q},p.verb=v→(v == 0)=false→I9 S i p.one g→A7 f g=none→A7 f q=none→Calls prog 132 #[.agg (p.cells cv).toArray,av,tv] w fun e w'=>∃T:List UInt8,e=.returned (.string ⟨T.toArray⟩)∧T.length≤100∧U4 T=AC f q∧Ab No w w':=by intro v g ad hv ae h D;obtain⟨k,e1,j,_⟩:=ae.ty (f:=f);rw[L8 h] at j;go_call YP (p.cells cv).toArray v k av tv _ w hv (g0 ad) (F e1) E j as e w' ⟨rfl,l⟩;exact⟨[],rfl,by simp,by rw[L8 D];rfl,l⟩
 cases q with
 |tab nm =>obtain⟨h,D⟩:=J;obtain⟨k,t,us,e1,e2,e3,e4,e5⟩:=hf nm rfl;go_call QY (p.cells cv).toArray nm av tv ts t k w (g0 h) (by rw[←D];rfl) aa ab e1 e2 as e w' ⟨rfl,l⟩;have j:=key (T:=t.tys) (by rw[e3,Hj];exact e5) (by rw[G2 (show A7 f (.tab nm)=some us from e4)];exact e3);exact⟨_,rfl,j.1,j.2,l⟩
 |sel c k x g =>
  obtain⟨h,D,j,_,P,R,o⟩:=J;cases b:A7 f g with
  |none=>exact no h rfl o b (by simp[A7,b])
  |some us =>
   obtain⟨n,e1,u,r⟩:=o.ty (f:=f);obtain⟨y,G⟩:=I g r us b;rw[G2 b] at u;go_call QU (p.cells cv).toArray c x n av tv _ us w (g0 h) (by rw[←j];rfl) (by rw[←P];rfl) (F e1) (by rw[←R];rfl) E u y (by omega) (by omega) as e w' ⟨rfl,l⟩;have z:A7 f (.sel c k x g)=Eh c x us:=(by simp[A7,b]);have j:=key (T:=ML (Eh c x us)) (by
    cases B:Eh c x us with
    |none=>simp[ML]
    |some vs=>rw[O5 B];show (Fj us).length≤6;rw[Hj];exact G) (by rw[MA,z])
   exact⟨_,rfl,j.1,j.2,l⟩
 |pick cs g =>
  obtain⟨h,D,o⟩:=J;cases b:A7 f g with
  |none=>exact no h rfl o b (by simp[A7,b])
  |some us =>
   obtain⟨n,e1,u,r⟩:=o.ty (f:=f);obtain⟨y,G⟩:=I g r us b;rw[G2 b] at u;rw[D] at H L M;go_call LX (p.cells cv).toArray n av tv cv cs _ us w (g0 h) rfl (F e1) E u y H (by omega) (fun c H=>by have:=M c H;omega) as e w' ⟨rfl,l⟩;have z:A7 f (.pick cs g)=Bq cs us:=(by simp[A7,b]);have j:=key (T:=ML (Bq cs us)) (by
    cases B:Bq cs us with
    |none=>simp[ML]
    |some vs=>show (Fj vs).length≤6;rw[Hj,(Dc B).2,tZ];exact L) (by rw[MA,z])
   exact⟨_,rfl,j.1,j.2,l⟩
 |dist g =>
  obtain⟨h,o⟩:=J;cases b:A7 f g with
  |none=>exact no h rfl o b b
  |some us =>obtain⟨n,e1,u,r⟩:=o.ty (f:=f);obtain⟨y,G⟩:=I g r us b;rw[G2 b] at u;go_call LV (p.cells cv).toArray n av tv _ _ w (g0 h) (F e1) E u (Mg y) as e w' ⟨rfl,l⟩;have j:=key (T:=Fj us) (by rw[Hj];exact G) (by rw[G2 (show A7 f (.dist g)=some us from b)]);exact⟨_,rfl,j.1,j.2,l⟩
 |grp cs s g =>
  obtain⟨h,D,j,o⟩:=J;cases b:A7 f g with
  |none=>exact no h rfl o b (by simp[A7,b])
  |some us =>
   obtain⟨n,e1,u,r⟩:=o.ty (f:=f);obtain⟨y,G⟩:=I g r us b;rw[G2 b] at u;rw[D] at H L M;go_call QX (p.cells cv).toArray n av tv cv cs p.sign p.sum _ us w (g0 h) rfl rfl rfl (F e1) E u y H (by omega) (fun c H=>by have:=M c H;omega) (by omega) as e w' ⟨rfl,l⟩;have z:A7 f (.grp cs s g)=Fe cs s us:=(by simp[A7,b]);have A:(GA cs p.sign p.sum us).length≤100∧U4 (GA cs p.sign p.sum us)=ML (Fe cs s us):=by
    unfold GA Fe;cases B:Bq cs us with
    |none=>exact⟨by simp,rfl⟩
    |some vs =>
     have af:vs.length≤6:=(by rw[(Dc B).2,tZ];exact L);by_cases O:p.sign=115
     ·rw[if_pos O] at j;rw[j];simp only;by_cases r:us[p.sum]? =some false
      ·rw[if_neg (by simp[r])];refine⟨by rw[Hj,tS];simp;omega,?_⟩;rw[Z6];simp only[r,if_pos]
      rw[if_pos ⟨O,r⟩];refine⟨by simp,?_⟩;simp only[r,if_neg,not_false_eq_true];rfl
     rw[if_neg O] at j;rw[j];simp only;rw[if_neg (by simp[O])];exact⟨by rw[Hj,tS];simp;omega,Z6 _⟩
   exact⟨_,rfl,A.1,by rw[MA,z];exact A.2,l⟩
 |uni g K =>
  obtain⟨h,o,u⟩:=J;cases b:A7 f g with
  |none=>exact no h rfl o b (by simp[A7,b])
  |some us =>
   obtain⟨n,e1,z,r⟩:=o.ty (f:=f);obtain⟨m,e2,A,U⟩:=u.ty (f:=f);obtain⟨y,G⟩:=I g r us b;rw[G2 b] at z;cases C:A7 f K with
   |none =>rw[L8 C] at A;go_call Z5 (p.cells cv).toArray 85 n m av tv _ _ w (.inl rfl) (g0 h) (F e1) (N e2) E z (Mg y) A as e w' ⟨rfl,l⟩;exact⟨[],rfl,by simp,by rw[L8 (by simp[A7,b,C])];rfl,l⟩
   |some vs =>
    obtain⟨V,X⟩:=I K U vs C;rw[G2 C] at A;go_call QW (p.cells cv).toArray n m av tv _ us vs w (g0 h) (F e1) (N e2) E z y A V as e w' ⟨rfl,l⟩;have W:A7 f (.uni g K)=if us=vs then some us else none:=by simp[A7,b,C]
    have j:=key (T:=QV us vs) (by
     unfold QV;by_cases B:us=vs
     ·rw[if_pos B];show (Fj us).length≤6;rw[Hj];exact G
     rw[if_neg B];simp[ML]) (by rw[MA,W];rfl)
    exact⟨_,rfl,j.1,j.2,l⟩
 |join c d g K =>
  obtain⟨h,P,R,o,u⟩:=J;cases b:A7 f g with
  |none=>exact no h rfl o b (by simp[A7,b])
  |some us =>
   obtain⟨n,e1,z,r⟩:=o.ty (f:=f);obtain⟨m,e2,A,U⟩:=u.ty (f:=f);obtain⟨y,G⟩:=I g r us b;rw[G2 b] at z;cases C:A7 f K with
   |none =>rw[L8 C] at A;go_call Z5 (p.cells cv).toArray 74 n m av tv _ _ w (.inr rfl) (g0 h) (F e1) (N e2) E z (Mg y) A as e w' ⟨rfl,l⟩;exact⟨[],rfl,by simp,by rw[L8 (by simp[A7,b,C])];rfl,l⟩
   |some vs =>
    obtain⟨V,X⟩:=I K U vs C;rw[G2 C] at A;go_call LZ (p.cells cv).toArray c d n m av tv _ us vs w (g0 h) (by rw[←R];rfl) (F e1) (N e2) (by rw[←P];rfl) E z y A V (by omega) (by omega) G X as e w' ⟨rfl,l⟩;have W:A7 f (.join c d g K)=C8 c d us vs:=(by simp[A7,b,C]);have Y:(LY c d us vs).length≤100∧U4 (LY c d us vs)=ML (C8 c d us vs):=by
     unfold LY C8;cases us[c]? with
     |none=>exact⟨by simp,rfl⟩
     |some a =>
      by_cases B:vs[d]? =some a
      ·simp only[B,if_pos];exact⟨by rw[Hj,tS];omega,Z6 _⟩
      simp only[B,if_neg,not_false_eq_true];exact⟨by simp,rfl⟩
    exact⟨_,rfl,Y.1,by rw[MA,W];exact Y.2,l⟩
end
end Go.Proofs.YtdinjjmcmfjbfaaGreatDoor
