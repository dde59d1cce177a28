import Derived.Test.YtdinjjmcmfjbfaaGreatDoorNtJ
import Derived.Test.YtdinjjmcmfjbfaaGreatDoorQmJ
import Derived.Lib.ItoaLen
import Derived.Test.YtdinjjmcmfjbfaaGreatDoorSmJ
import Derived.Test.YtdinjjmcmfjbfaaGreatDoorRc2J
import Derived.Test.YtdinjjmcmfjbfaaGreatDoorOcJ
import Derived.Test.YtdinjjmcmfjbfaaGreatDoorQbJ
import Derived.WalkMore
import Derived.Test.YtdinjjmcmfjbfaaGreatDoorLcJ
import Derived.Laws.Strings2
namespace Go.Proofs.YtdinjjmcmfjbfaaGreatDoor.Mo
set_option linter.unusedSimpArgs false
set_option linter.unusedVariables false
theorem len1 {k:Row} (h:k.length=1):k=[colR k 0]:=by
 match k,h with
 | [v],_=>rfl
structure F3 (f:List UInt8→Bag):Prop where
 nr:nn (f [114])
 nq:nn (f [113])
 ns:nn (f [115])
 r:∀ e∈f [114],∃ n t,e.1=[.num n,.txt t]∧ -9999≤n
 q:∀ e∈f [113],∃ n t,e.1=[.num n,.txt t]
 s:∀ e∈f [115],∃ t n,e.1=[.txt t,.num n]
variable {f:List UInt8→Bag}
theorem F3.rc (h:F3 f) {x:Row} (hx:cnt (f [114]) x≠0):∃ n t,x=[.num n,.txt t]:=by
 obtain ⟨e,he,rfl⟩:=Rise.mem_of_cnt hx;obtain ⟨n,t,h1,_⟩:=h.r e he;exact ⟨n,t,h1⟩
theorem F3.lr (h:F3 f) {g k:Row→Int} (hk:∀ n t,-9999≤n→g [.num n,.txt t]=k [.num n,.txt t]):lin (f [114]) g=lin (f [114]) k:=lin_congr_fun _ fun e he=>by
 obtain ⟨n,t,h1,h2⟩:=h.r e he;rw [h1];exact hk n t h2
theorem F3.ls (h:F3 f) {g k:Row→Int} (hk:∀ t n,g [.txt t,.num n]=k [.txt t,.num n]):lin (f [115]) g=lin (f [115]) k:=lin_congr_fun _ fun e he=>by
 obtain ⟨n,t,h1⟩:=h.s e he;rw [h1];exact hk n t
end Go.Proofs.YtdinjjmcmfjbfaaGreatDoor.Mo
namespace Go.Proofs.YtdinjjmcmfjbfaaGreatDoor
def decV (l:List UInt8):Nat:=l.foldl (fun n c=>n*10+(c.toNat-48)) 0
theorem decV_snoc (l:List UInt8) (c:UInt8):decV (l++[c])=decV l*10+(c.toNat-48):=by simp [decV,List.foldl_append]
theorem digit_toNat {d:Nat} (h:d<10):(UInt8.ofNat (48+d)).toNat=48+d:=by simp [UInt8.toNat_ofNat];omega
theorem dec_val (u:Nat):decV (Lib.decDigits u)=u:=by
 induction u using Nat.strongRecOn with
 | _ u ih =>
   rw [Lib.decDigits]
   split
   ·rename_i h;simp only [decV,List.foldl_cons,List.foldl_nil];rw [digit_toNat h];omega
   ·rename_i h;rw [decV_snoc,ih (u / 10) (by omega),digit_toNat (Nat.mod_lt _ (by omega))];omega
theorem dec_chars (u:Nat):∀ c∈Lib.decDigits u,48≤c.toNat∧c.toNat≤57:=by
 induction u using Nat.strongRecOn with
 | _ u ih =>
   rw [Lib.decDigits]
   split
   ·rename_i h;intro c hc;simp only [List.mem_singleton] at hc;subst hc;rw [digit_toNat h];omega
   ·rename_i h;intro c hc
    rcases List.mem_append.1 hc with hc | hc
    ·exact ih _ (by omega) c hc
    ·simp only [List.mem_singleton] at hc;subst hc;rw [digit_toNat (Nat.mod_lt _ (by omega))];omega
theorem dec_ne (u:Nat):Lib.decDigits u≠[]:=by rw [Lib.decDigits];split <;> simp
theorem itoa_chars (n:Int):∀ c∈Lib.itoa n,c.toNat=45∨(48≤c.toNat∧c.toNat≤57):=by
 intro c hc;unfold Lib.itoa at hc
 split at hc
 ·rcases List.mem_cons.1 hc with rfl | hc
  ·exact .inl rfl
  ·exact .inr (dec_chars _ c hc)
 ·exact .inr (dec_chars _ c hc)
theorem itoa_ne (n:Int):Lib.itoa n≠[]:=by unfold Lib.itoa;split;simp;exact dec_ne _
theorem itoa_inj {n m:Int} (h:Lib.itoa n=Lib.itoa m):n=m:=by
 have key:∀ (u v:Nat),(45:UInt8)::Lib.decDigits u≠Lib.decDigits v:=by
  intro u v e
  have:=dec_chars v 45 (by rw [←e];simp)
  have h2:(45:UInt8).toNat=45:=rfl;omega
 unfold Lib.itoa at h
 split at h <;> split at h
 ·injection h with _ h
  have:=congrArg decV h;rw [dec_val,dec_val] at this;omega
 ·exact absurd h (key _ _)
 ·exact absurd h.symm (key _ _)
 ·have:=congrArg decV h;rw [dec_val,dec_val] at this;omega
theorem dec_len (k u:Nat) (h:u<10 ^ k) (hk:1≤k):(Lib.decDigits u).length≤k:=by
 induction k generalizing u with
 | zero=>omega
 | succ k ih =>
   rw [Lib.decDigits]
   split
   ·simp
   ·rename_i h10
    rw [List.length_append]
    have h1:u / 10<10 ^ k:=by rw [Nat.pow_succ] at h;omega
    have hk1:1≤k:=by
     cases k with
     | zero=>simp at h1;omega
     | succ k=>omega
    have:=ih (u / 10) h1 hk1
    simp;omega
theorem dec_pos (u:Nat):1≤(Lib.decDigits u).length:=by
 have:=dec_ne u
 cases h:Lib.decDigits u with
 | nil=>exact absurd h this
 | cons=>simp
open Mo (V Row Bag cnt canon Eqv)
theorem vText_chars {v:V} (h:VOk v):∀ c∈vText v,c≠40∧c≠41∧c≠44:=by
 intro c hc
 have:c.toNat=45∨(48≤c.toNat∧c.toNat≤57)∨(97≤c.toNat∧c.toNat≤122):=by
  cases v with
  | num n=>rcases itoa_chars n c hc with h | h;exact .inl h;exact .inr (.inl h)
  | txt s=>exact .inr (.inr (h.2.2 c hc))
 refine ⟨?_,?_,?_⟩ <;> rintro rfl <;> simp at this
theorem vText_ne {v:V} (h:VOk v):vText v≠[]:=by
 cases v with
 | num n=>exact itoa_ne n
 | txt s=>intro e;have:=h.1;rw [show s=[] from e] at this;simp at this
theorem vText_inj {v u:V} (hv:VOk v) (hu:VOk u) (h:vText v=vText u):v=u:=by
 have key:∀ (n:Int) (s:List UInt8),VOk (.txt s)→Lib.itoa n≠s:=by
  intro n s hs e
  cases s with
  | nil=>exact absurd hs.1 (by simp)
  | cons c s =>
    have h1:=itoa_chars n c (by rw [e];simp)
    have h2:=hs.2.2 c (by simp)
    omega
 cases v with
 | num n=>cases u with
   | num m=>exact congrArg _ (itoa_inj h)
   | txt s=>exact absurd h (key n s hu)
 | txt s=>cases u with
   | num m=>exact absurd h.symm (key m s hv)
   | txt t=>exact congrArg _ h
theorem cut_at {P:UInt8→Prop}:∀ {a b s t:List UInt8} {x y:UInt8},(∀ c∈a,¬P c)→(∀ c∈b,¬P c)→P x→P y→a++x::s=b++y::t→a=b∧x::s=y::t
 | [],[],_,_,_,_,_,_,_,_,h=>⟨rfl,by simpa using h⟩
 | [],c::b,_,_,_,_,_,hb,hx,_,h=>by
   injection h with h1 _;exact absurd (h1 ▸ hx) (hb c (by simp))
 | c::a,[],_,_,_,_,ha,_,_,hy,h=>by
   injection h with h1 _;exact absurd (h1 ▸ hy) (ha c (by simp))
 | c::a,d::b,s,t,x,y,ha,hb,hx,hy,h=>by
   injection h with h1 h2
   obtain ⟨e1,e2⟩:=cut_at (fun z hz=>ha z (by simp [hz])) (fun z hz=>hb z (by simp [hz])) hx hy h2
   exact ⟨by rw [h1,e1],e2⟩
theorem rowIn_pos (r:Row):∀ i,rowIn (i+1) r=rowIn 1 r:=by
 induction r with
 | nil=>intro i;rfl
 | cons v r ih=>intro i;simp [rowIn,ih (i+1),ih 1]
def rowTail (r:Row):List UInt8:=rowIn 1 r++[41]
theorem rowTail_cons (v:V) (r:Row):rowTail (v::r)=44::(vText v++rowTail r):=by simp [rowTail,rowIn,rowIn_pos r 1]
theorem rowTxt_cons (v:V) (r:Row):rowTxt (v::r)=40::(vText v++rowTail r):=by simp [rowTxt,rowTail,rowIn]
theorem rowTail_head (r:Row):∃ x s,rowTail r=x::s∧(x=41∨x=44):=by
 cases r with
 | nil=>exact ⟨41,[],rfl,.inl rfl⟩
 | cons v r=>exact ⟨44,_,rowTail_cons v r,.inr rfl⟩
theorem split_val {v u:V} {a b:Row} (hv:VOk v) (hu:VOk u) (h:vText v++rowTail a=vText u++rowTail b):v=u∧rowTail a=rowTail b:=by
 obtain ⟨x,s,e1,hx⟩:=rowTail_head a;obtain ⟨y,t,e2,hy⟩:=rowTail_head b;rw [e1,e2] at h
 obtain ⟨h1,h2⟩:=cut_at (P:=fun c=>c=41∨c=44) (fun c hc=>by have:=vText_chars hv c hc;rintro (h | h);exact this.2.1 h;exact this.2.2 h) (fun c hc=>by have:=vText_chars hu c hc;rintro (h | h);exact this.2.1 h;exact this.2.2 h) hx hy h
 exact ⟨vText_inj hv hu h1,by rw [e1,e2,h2]⟩
theorem rowTail_inj:∀ {r q:Row},(∀ v∈r,VOk v)→(∀ v∈q,VOk v)→rowTail r=rowTail q→r=q
 | [],[],_,_,_=>rfl
 | [],v::q,_,_,h=>by rw [rowTail_cons] at h;injection h with h;cases h
 | v::r,[],_,_,h=>by rw [rowTail_cons] at h;injection h with h;cases h
 | v::r,u::q,hr,hq,h=>by
   rw [rowTail_cons,rowTail_cons] at h
   injection h with _ h
   obtain ⟨h1,h2⟩:=split_val (hr v (by simp)) (hq u (by simp)) h
   rw [h1,rowTail_inj (fun x hx=>hr x (by simp [hx])) (fun x hx=>hq x (by simp [hx])) h2]
theorem rowTxt_inj {r q:Row} (hr:∀ v∈r,VOk v) (hq:∀ v∈q,VOk v) (h:rowTxt r=rowTxt q):r=q:=by
 have e0:rowTxt []=[40,41]:=rfl
 cases r with
 | nil =>
   cases q with
   | nil=>rfl
   | cons u q =>
     rw [e0,rowTxt_cons] at h
     injection h with _ h
     obtain ⟨x,s,e1,hx⟩:=rowTail_head q
     have hn:vText u≠[]:=vText_ne (hq u (by simp))
     cases hv:vText u with
     | nil=>exact absurd hv hn
     | cons c t =>
       rw [hv] at h
       injection h with h _
       exact absurd h.symm (vText_chars (hq u (by simp)) c (by rw [hv];simp)).2.1
 | cons v r =>
   cases q with
   | nil =>
     rw [e0,rowTxt_cons] at h
     injection h with _ h
     have hn:vText v≠[]:=vText_ne (hr v (by simp))
     cases hv:vText v with
     | nil=>exact absurd hv hn
     | cons c t =>
       rw [hv] at h
       injection h with h _
       exact absurd h (vText_chars (hr v (by simp)) c (by rw [hv];simp)).2.1
   | cons u q =>
     rw [rowTxt_cons,rowTxt_cons] at h
     injection h with _ h
     obtain ⟨h1,h2⟩:=split_val (hr v (by simp)) (hq u (by simp)) h
     rw [h1,rowTail_inj (fun x hx=>hr x (by simp [hx])) (fun x hx=>hq x (by simp [hx])) h2]
def RowC (c:UInt8):Prop:=c=40∨c=41∨c=44∨c=45∨(48≤c.toNat∧c.toNat≤57)∨(97≤c.toNat∧c.toNat≤122)
theorem vText_c {v:V} (h:VOk v):∀ c∈vText v,RowC c:=by
 intro c hc
 cases v with
 | num n =>
   rcases itoa_chars n c hc with h | h
   ·exact .inr (.inr (.inr (.inl (UInt8.toNat_inj.1 h))))
   ·exact .inr (.inr (.inr (.inr (.inl h))))
 | txt s=>exact .inr (.inr (.inr (.inr (.inr (h.2.2 c hc)))))
theorem rowIn_c:∀ (r:Row) (i:Nat),(∀ v∈r,VOk v)→∀ c∈rowIn i r,RowC c
 | [],_,_,c,hc=>by cases hc
 | v::r,i,h,c,hc=>by
   have h1:=rowIn_c r (i+1) (fun x hx=>h x (by simp [hx])) c
   unfold rowIn at hc
   rcases List.mem_append.1 hc with hc | hc
   ·split at hc
    ·cases hc
    ·simp only [List.mem_singleton] at hc;exact .inr (.inr (.inl hc))
   ·rcases List.mem_append.1 hc with hc | hc
    ·exact vText_c (h v (by simp)) c hc
    ·exact h1 hc
theorem rowTxt_c {r:Row} (h:∀ v∈r,VOk v):∀ c∈rowTxt r,RowC c:=by
 intro c hc;unfold rowTxt at hc
 rcases List.mem_cons.1 hc with rfl | hc
 ·exact .inl rfl
 ·rcases List.mem_append.1 hc with hc | hc
  ·exact rowIn_c r 0 h c hc
  ·simp only [List.mem_singleton] at hc;exact .inr (.inl hc)
theorem RowC.ne {c:UInt8} (h:RowC c):c≠42∧c≠59∧c≠124:=by
 refine ⟨?_,?_,?_⟩ <;> rintro rfl <;> simp [RowC] at h
theorem itoa_c (n:Int):∀ c∈Lib.itoa n,RowC c:=fun c hc=>by
 rcases itoa_chars n c hc with h | h
 ·exact .inr (.inr (.inr (.inl (UInt8.toNat_inj.1 h))))
 ·exact .inr (.inr (.inr (.inr (.inl h))))
def AllV (l:Bag):Prop:=∀ e∈l,∀ v∈e.1,VOk v
theorem entTxt_bar {e:Row × Int} (h:∀ v∈e.1,VOk v):∀ c∈entTxt e,c≠59∧c≠124:=by
 intro c hc;unfold entTxt at hc
 rcases List.mem_append.1 hc with hc | hc
 ·exact (rowTxt_c h c hc).ne.2
 ·rcases List.mem_cons.1 hc with rfl | hc
  ·decide
  ·exact (itoa_c _ c hc).ne.2
open Go.RowKit Go.Shelf
def cutS (c:Nat) (s:ByteArray):Nat→List ByteArray × Nat
 | 0=>([],0)
 | i+1=>if i=s.size∨Pl.bt s i=c then ((cutS c s i).1++[s.extract (cutS c s i).2 i],i+1) else cutS c s i
def cutB (c:Nat) (s:ByteArray):List ByteArray:=(cutS c s (s.size+1)).1
theorem cutS_le (c:Nat) (s:ByteArray):∀ i,(cutS c s i).2≤i∧(cutS c s i).1.length≤i
 | 0=>⟨Nat.le_refl _,Nat.le_refl _⟩
 | i+1=>by
   have ih:=cutS_le c s i;unfold cutS
   split
   ·exact ⟨Nat.le_refl _,by simp;omega⟩
   ·omega
theorem cutS_mono (c:Nat) (s:ByteArray) (i:Nat):∀ k,(cutS c s i).1.length≤(cutS c s (i+k)).1.length
 | 0=>Nat.le_refl _
 | k+1=>by
   have ih:=cutS_mono c s i k
   show _≤(cutS c s ((i+k)+1)).1.length
   rw [cutS]
   split
   ·simp;omega
   ·exact ih
theorem cutS_pre (c:Nat) (s:ByteArray) (i:Nat):∀ k,∃ r,(cutS c s (i+k)).1=(cutS c s i).1++r
 | 0=>⟨[],by rw [List.append_nil];rfl⟩
 | k+1=>by
   obtain ⟨r,ih⟩:=cutS_pre c s i k
   show ∃ r,(cutS c s ((i+k)+1)).1=_
   rw [cutS]
   split
   ·exact ⟨r++[_],by rw [ih,List.append_assoc]⟩
   ·exact ⟨r,ih⟩
open Go.RowKit Go.Shelf Go.Deep
open Mo (V Row Bag cnt canon Eqv OkB OkD neg Nr Q leaves bagQ tyQ wf joins TOk wv ty Tab)
theorem bt_mk {L:List UInt8} {j:Nat} {c:UInt8} (h:L[j]? =some c):Pl.bt ⟨L.toArray⟩ j=c.toNat:=by
 obtain ⟨hl,e⟩:=List.getElem?_eq_some_iff.1 h;unfold Pl.bt
 have hs:j<(⟨L.toArray⟩:ByteArray).size:=by show j<L.toArray.size;simpa using hl
 rw [dif_pos hs]
 show (L.toArray[j]'_).toNat=_
 simp [e]
theorem cutS_stay (c:Nat) (s:ByteArray) (i:Nat):∀ k,(∀ j,i≤j→j<i+k→j≠s.size∧Pl.bt s j≠c)→cutS c s (i+k)=cutS c s i
 | 0,_=>rfl
 | k+1,h=>by
   have ih:=cutS_stay c s i k fun j h1 h2=>h j h1 (by omega)
   have h1:=h (i+k) (by omega) (by omega)
   show cutS c s ((i+k)+1)=_
   rw [cutS,if_neg (by rintro (e | e);exact h1.1 e;exact h1.2 e),ih]
theorem BWr.allV {us:List Bool} {l:Bag} (h:BWr us l):AllV (canon l):=fun e he=>(h.ty e.1 (Mo.mem_canon_cnt he)).1.2
theorem Mine.good {w0 w:World} {p:Nat} {st:Mo.Ses} (h:Mine w0 w p st):Mo.TabsGood st.tabs:=by
 obtain ⟨X,⟨O,xs,vs,tv,vv,h,_⟩,_⟩:=h;exact h.good
theorem Mine.ok {w0 w:World} {p:Nat} {st:Mo.Ses} (h:Mine w0 w p st) {q:Q} (hq:q∈st.views):∃ ts,tyQ (Mo.ftT st.tabs) q=some ts∧OkB ts (Mo.bagS st.tabs q)∧Nr (Mo.bagS st.tabs q)≤50000000000:=by
 obtain ⟨X,⟨O,xs,vs,tv,vv,h,_⟩,_⟩:=h;rw [←h.vq] at hq;obtain ⟨V,hV,rfl⟩:=List.mem_map.1 hq;exact ⟨V.ts,(h.fx.fix V hV).ty,h.okS hV⟩
theorem feed_ok {st:Mo.Ses} {s:ByteArray}:((feedM st s).1.2=0→(feedM st s).1.1=bars (st.views.map fun q=>bagTxt (Mo.bagS (feedM st s).2.tabs q++neg (Mo.bagS st.tabs q))))∧((feedM st s).1.2≠0→(feedM st s).1.1=[]∧(feedM st s).2=st):=by
 unfold feedM
 split
 ·exact ⟨fun e=>absurd (show (1:Int)=0 from e) (by decide),fun _=>⟨rfl,rfl⟩⟩
 ·split
  ·exact ⟨fun e=>absurd (show (2:Int)=0 from e) (by decide),fun _=>⟨rfl,rfl⟩⟩
  ·next os _ =>
   by_cases h1:fitP (tr0 st.tabs) os≠0
   ·rw [if_pos h1];exact ⟨fun e=>absurd e h1,fun _=>⟨rfl,rfl⟩⟩
   ·rw [if_neg h1]
    by_cases h2:bearP (psM st.tabs (chg (tr0 st.tabs) os)) 0≠0
    ·rw [if_pos h2];exact ⟨fun e=>absurd e h2,fun _=>⟨rfl,rfl⟩⟩
    ·rw [if_neg h2];exact ⟨fun _=>rfl,fun e=>absurd rfl e⟩
theorem bagS_bagT (tb:List Tab) (q:Q):Eqv (Mo.bagS tb q) (Mo.bagT (Mo.bagN tb) q):=Mo.bagQ_bagT q 0 fun j nm hj=>by
 unfold Mo.leafG;rw [Nat.zero_add,hj];exact Eqv.refl _
end Go.Proofs.YtdinjjmcmfjbfaaGreatDoor
