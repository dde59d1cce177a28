import Derived.Test.YtdinjjmcmfjbfaaGreatDoorEdJ
import Derived.Test.YtdinjjmcmfjbfaaGreatDoorEmJ
import Derived.Laws.AppendOwnNone
import Derived.Test.YtdinjjmcmfjbfaaGreatDoorOcJ
import Derived.Laws.Strings2
import Derived.Laws.ResultCell
set_option maxRecDepth 100000
set_option maxHeartbeats 4000000
namespace Go.Proofs.YtdinjjmcmfjbfaaGreatDoor
open Go.RowKit Go.Shelf Go.Deep
open Mo (V Row Bag cnt canon Eqv OkB OkD neg Nr Q leaves bagQ tyQ wf joins TOk wv ty Tab)
structure TEq (tb tb':List Tab):Prop where
 nm:tb'.map Tab.nm=tb.map Tab.nm
 bag:∀ (i:Nat) (t t':Tab),tb[i]? =some t→tb'[i]? =some t'→Eqv t.bag t'.bag
open Go.RowKit Go.Shelf
theorem ba_ne {a b:ByteArray} (h:¬a=b):(a.toList == b.toList)=false:=by
 refine beq_false_of_ne fun e=>h ?_
 rw [ByteArray.toList_eq,ByteArray.toList_eq] at e
 cases a;cases b
 congr 1
 exact Array.ext' e
abbrev En:=ByteArray × Int
def EnAt (w:World) (v:Value) (es:List En):Prop:=∃ a cap,v=.slice a es.length cap∧es.length≤cap∧cap≤maxLen∧(a=none∧es=[]∧cap=0∨∃ b o,a=some ⟨b,o,none⟩∧b<w.heap.size∧∀ (i:Nat) (e:En),es[i]? =some e→w.cell? ⟨b,o+i*2,none⟩=some (.string e.1)∧w.cell? ⟨b,o+i*2+1,none⟩=some (.int .i64 e.2))
theorem EnAt.kept {w w':World} {v:Value} {es:List En} (h:EnAt w v es) (k:Kept No w w'):EnAt w' v es:=by
 obtain ⟨a,cap,h1,h2,h3,h4⟩:=h;refine ⟨a,cap,h1,h2,h3,h4.imp id ?_⟩;rintro ⟨b,o,e1,e2,e3⟩
 exact ⟨b,o,e1,Nat.lt_of_lt_of_le e2 k.size,fun i e hi=>⟨(k.cell e2 (fun e=>e)).trans (e3 i e hi).1,(k.cell e2 (fun e=>e)).trans (e3 i e hi).2⟩⟩
theorem EnAt.get {w:World} {a:Option Addr} {n cap:Nat} {es:List En} (h:EnAt w (.slice a n cap) es) (i:Nat) (e:En) (hi:es[i]? =some e):∃ b o,a=some ⟨b,o,none⟩∧b<w.heap.size∧w.cell? ⟨b,o+i*2,none⟩=some (.string e.1)∧w.cell? ⟨b,o+i*2+1,none⟩=some (.int .i64 e.2):=by
 obtain ⟨a',c',e1,_,_,h4⟩:=h
 injection e1 with e1 e2 e3
 subst e1
 rcases h4 with ⟨_,h5,_⟩ | ⟨b,o,e4,e5,e6⟩
 ·rw [h5] at hi;simp at hi
 ·exact ⟨b,o,e4,e5,e6 i e hi⟩
def tmI (es:List En) (row:ByteArray):Nat→Int
 | 0=>0
 | i+1=>match es[i]? with
   | some e=>if e.1=row then wrap64 (tmI es row i+e.2) else tmI es row i
   | none=>tmI es row i
def tmW (es:List En) (row:ByteArray):Int:=tmI es row es.length
theorem tmI_succ {es:List En} {row:ByteArray} {i:Nat} {e:En} (h:es[i]? =some e):tmI es row (i+1)=if e.1=row then wrap64 (tmI es row i+e.2) else tmI es row i:=by
 show (match es[i]? with | some e=>_ | none=>_)=_
 rw [h]
theorem times_any (v:Value) (es:List En) (row:ByteArray) (w:World) (h:EnAt w v es):Calls Tryz.prog 30 #[v,.string row] w fun e w'=>e=.returned (.int .i64 (tmW es row))∧w'=w:=by
 have h0:=h;obtain ⟨a,cap,rfl,h2,h3,-⟩:=h;have h4:=h0.get;have H4:=hid h4
 have hcap:cap≤9223372036854775807:=by unfold maxLen at h3;omega
 obtain ⟨n,hn⟩:∃ n,es.length=n:=⟨_,rfl⟩;have HN:=hid hn;rw [hn] at h2 ⊢;clear h4 h3 hn h0
 go_enter Tryz.func30,Tryz.ntmps30
 go_wp2_with fail
 go_loopg [5,6] n (fun k v3 v4 wr=>∃ (i:Nat) (t:Int),i+k=n∧v3=.int .i64 t∧v4=.int .i64 (i:Int)∧Hid (t=tmI es row i)∧wr=w)
 case atStart=>exact ⟨0,0,by omega,rfl,rfl,rfl,rfl⟩
 case round =>
  obtain ⟨i,t,hik,rfl,rfl,HT,rfl⟩:=hrel
  cases gk with
  | zero =>
    have hx:¬(i:Int)<(n:Int):=by omega
    have HE:Hid (t=tmW es row):=by
     show _=_
     rw [HT.out];unfold tmW;rw [HN.out]
     have:i=n:=by omega
     rw [this]
    go_wp2_with fail;go_ret
    exact ⟨by rw [←HE.out];rfl,rfl⟩
  | succ k =>
    have hx:(i:Int)<(n:Int):=by omega
    have hx0:(0:Int)≤(i:Int):=by omega
    obtain ⟨⟨er,et⟩,hr⟩:∃ r,es[i]? =some r:=⟨_,List.getElem?_eq_getElem (by have:=HN.out;omega)⟩
    obtain ⟨b,o,rfl,hbl,c0,c1⟩:=H4.out i _ hr;have HS:=hid (tmI_succ (row:=row) hr);clear hr
    by_cases hrow:er=row
    ·have HR:Hid (tmI es row (i+1)=wrap64 (t+et)):=by
      show _=_
      rw [HS.out,if_pos hrow,HT.out]
     subst hrow;clear HS;go_wp2_with fail;go_roundg k
     case measure=>omega
     case rel=>exact ⟨i+1,_,by omega,rfl,by go_num,HR.out.symm,rfl⟩
    ·have HR:Hid (tmI es row (i+1)=t):=by
      show _=_
      rw [HS.out,if_neg hrow,HT.out]
     have hrb:=ba_ne hrow;clear HS;go_wp2_with fail;go_roundg k
     case measure=>omega
     case rel=>exact ⟨i+1,_,by omega,rfl,by go_num,HR.out.symm,rfl⟩
theorem equal_any (v u:Value) (es fs:List En) (w:World) (h:EnAt w v es) (k:EnAt w u fs) (he:∀ e∈es,tmW es e.1=tmW fs e.1) (hf:∀ e∈fs,tmW es e.1=tmW fs e.1):Calls Tryz.prog 23 #[v,u] w fun e w'=>e=.returned (.bool true)∧Kept No w w':=by
 have HV:=hid h;have HU:=hid k;have HE:=hid he;have HF:=hid hf;obtain ⟨a,cap,rfl,h2,h3,-⟩:=h;obtain ⟨a',cap',rfl,k2,k3,-⟩:=k;have h4:=HV.out.get;have k4:=HU.out.get;have H4:=hid h4;have K4:=hid k4
 have hcap:cap≤9223372036854775807:=by unfold maxLen at h3;omega
 have hcap':cap'≤9223372036854775807:=by unfold maxLen at k3;omega
 obtain ⟨n,hn⟩:∃ n,es.length=n:=⟨_,rfl⟩;have HN:=hid hn;rw [hn] at h2 HV ⊢;obtain ⟨m,hm⟩:∃ m,fs.length=m:=⟨_,rfl⟩;have HM:=hid hm;rw [hm] at k2 HU ⊢;clear h4 h3 hn k4 k3 hm he hf
 go_enter Tryz.func23,Tryz.ntmps23
 go_wp2_with fail
 go_loopg [5] n (fun k v4 wr=>∃ (i:Nat),i+k=n∧v4=.int .i64 (i:Int)∧Hid (Kept No w wr))
 case atStart=>exact ⟨0,by omega,rfl,hid (Kept.refl _ _)⟩
 case round =>
  obtain ⟨i,hik,rfl,HK⟩:=hrel
  cases gk with
  | zero =>
    have hx:¬(i:Int)<(n:Int):=by omega
    go_wp2_with fail;clear hx hik
    go_loopg [6] m (fun k v4 wr=>∃ (i:Nat),i+k=m∧v4=.int .i64 (i:Int)∧Hid (Kept No w wr))
    case atStart=>exact ⟨0,by omega,rfl,HK⟩
    case round =>
     clear HK;obtain ⟨j,hik,rfl,HK⟩:=hrel
     cases gk with
     | zero =>
       have hx:¬(j:Int)<(m:Int):=by omega
       go_wp2_with fail;go_ret;exact ⟨rfl,HK.out⟩
     | succ k =>
       have hx:(j:Int)<(m:Int):=by omega
       have hx0:(0:Int)≤(j:Int):=by omega
       obtain ⟨⟨er,et⟩,hr⟩:∃ r,fs[j]? =some r:=⟨_,List.getElem?_eq_getElem (by have:=HM.out;omega)⟩
       obtain ⟨b,o,rfl,hbl,c0,c1⟩:=K4.out j _ hr
       have d0:wr.cell? ⟨b,o+j*2,none⟩=some (.string er):=(HK.out.cell hbl (fun e=>e)).trans c0
       have HEq:=hid (HF.out _ (List.mem_of_getElem? hr))
       have HT2:Hid (∀ w1,Kept No wr w1→Calls Tryz.prog 30 #[.slice (some ⟨b,o,none⟩) m cap',.string er] w1 fun e w'=>e=.returned (.int .i64 (tmW fs er))∧w'=w1):=fun w1 hk=>times_any _ fs er w1 ((HU.out.kept HK.out).kept hk)
       have HT1:Hid (∀ w1,Kept No wr w1→Calls Tryz.prog 30 #[.slice a n cap,.string er] w1 fun e w'=>e=.returned (.int .i64 (tmW es er))∧w'=w1):=fun w1 hk=>times_any _ es er w1 ((HV.out.kept HK.out).kept hk)
       rw [HEq.out] at HT1;have HK2:=hid HK.out.drew;clear c0 c1 hr;go_wp2_with fail
       go_region_held (fun w'=>w'.cell? ⟨b,o+j*2,none⟩=some (.string er)) (first | exact d0 | go_keep)
        (first
          | (go_at_call 30;refine (HT1.out _ (Kept.refl No wr).drew).mono ?_;rintro e w1 ⟨rfl,rfl⟩;clear HT1)
          | (go_at_call 30;refine (HT2.out _ (Kept.refl No wr).drew).mono ?_;rintro e w1 ⟨rfl,rfl⟩)
          | fail)
       go_wp2_with fail;go_roundg k
       case measure=>omega
       case rel=>exact ⟨j+1,by omega,by go_num,HK2⟩
  | succ k =>
    have hx:(i:Int)<(n:Int):=by omega
    have hx0:(0:Int)≤(i:Int):=by omega
    obtain ⟨⟨er,et⟩,hr⟩:∃ r,es[i]? =some r:=⟨_,List.getElem?_eq_getElem (by have:=HN.out;omega)⟩
    obtain ⟨b,o,rfl,hbl,c0,c1⟩:=H4.out i _ hr
    have d0:wr.cell? ⟨b,o+i*2,none⟩=some (.string er):=(HK.out.cell hbl (fun e=>e)).trans c0
    have HEq:=hid (HE.out _ (List.mem_of_getElem? hr))
    have HT1:Hid (∀ w1,Kept No wr w1→Calls Tryz.prog 30 #[.slice (some ⟨b,o,none⟩) n cap,.string er] w1 fun e w'=>e=.returned (.int .i64 (tmW es er))∧w'=w1):=fun w1 hk=>times_any _ es er w1 ((HV.out.kept HK.out).kept hk)
    have HT2:Hid (∀ w1,Kept No wr w1→Calls Tryz.prog 30 #[.slice a' m cap',.string er] w1 fun e w'=>e=.returned (.int .i64 (tmW fs er))∧w'=w1):=fun w1 hk=>times_any _ fs er w1 ((HU.out.kept HK.out).kept hk)
    rw [HEq.out] at HT1;have HK2:=hid HK.out.drew;clear c0 c1 hr;go_wp2_with fail
    go_region_held (fun w'=>w'.cell? ⟨b,o+i*2,none⟩=some (.string er)) (first | exact d0 | go_keep)
     (first
       | (go_at_call 30;refine (HT1.out _ (Kept.refl No wr).drew).mono ?_;rintro e w1 ⟨rfl,rfl⟩;clear HT1)
       | (go_at_call 30;refine (HT2.out _ (Kept.refl No wr).drew).mono ?_;rintro e w1 ⟨rfl,rfl⟩)
       | fail)
    go_wp2_with fail;go_roundg k
    case measure=>omega
    case rel=>exact ⟨i+1,by omega,by go_num,HK2⟩
def enC (e:En):List Value:=[.string e.1,.int .i64 e.2]
def enVs (es:List En):List Value:=es.flatMap enC
theorem enVs_len (es:List En):(enVs es).length=es.length*2:=by
 induction es with
 | nil=>rfl
 | cons e es ih=>show (enC e++enVs es).length=_;rw [List.length_append,ih];simp [enC];omega
theorem enVs_append (es fs:List En):enVs (es++fs)=enVs es++enVs fs:=by unfold enVs;rw [List.flatMap_append]
theorem enVs_get:∀ (es:List En) (j:Nat) (u:Value),(enVs es)[j]? =some u→∃ e,es[j / 2]? =some e∧(j % 2=0∧u=.string e.1∨j % 2=1∧u=.int .i64 e.2)
 | [],j,u,h=>by cases h
 | e::es,0,u,h=>⟨e,rfl,.inl ⟨rfl,by injection h with h;exact h.symm⟩⟩
 | e::es,1,u,h=>⟨e,rfl,.inr ⟨rfl,by injection h with h;exact h.symm⟩⟩
 | e::es,j+2,u,h=>by
   obtain ⟨x,h1,h2⟩:=enVs_get es j u h;refine ⟨x,?_,?_⟩
   ·rw [show (j+2) / 2=j / 2+1 by omega];exact h1
   ·rw [show (j+2) % 2=j % 2 by omega];exact h2
theorem enVs_at:∀ (es:List En) (i:Nat) (e:En),es[i]? =some e→(enVs es)[i*2]? =some (.string e.1)∧(enVs es)[i*2+1]? =some (.int .i64 e.2)
 | x::es,0,e,h=>by
   injection h with h
   subst h;exact ⟨rfl,rfl⟩
 | x::es,i+1,e,h=>by
   have:=enVs_at es i e h
   rw [show (i+1)*2=i*2+2 by omega]
   exact this
theorem infoEn:(Tryz.prog.info? 45).map (fun i=>(i.zero,i.size,i.bytes))=some (some (.agg #[.string ⟨#[]⟩,.int .i64 0]),2,24):=by kernel_rfl
theorem EnAt.of_owns {w:World} {base:Nat} {v:Value} {es:List En} (h:w.ownsRow base 45 2 v es.length (enVs es)):EnAt w v es:=by
 rcases h.2 with ⟨e,hn⟩ | ⟨g,cap,cur,rfl,_,hg,hc1,hc2,hc3,hc4⟩
 ·exact ⟨none,0,by rw [e,hn],by omega,by unfold maxLen;omega,.inl ⟨rfl,List.eq_nil_of_length_eq_zero hn,rfl⟩⟩
 ·refine ⟨some ⟨g,0,none⟩,cap,rfl,hc1,hc2,.inr ⟨g,0,rfl,lt_of_heap hg,fun i e hi=> ?_⟩⟩
  obtain ⟨k1,k2⟩:=enVs_at es i e hi;rw [←hc4,List.getElem?_take] at k1 k2;rw [cell_of hg,cell_of hg,Nat.zero_add]
  split at k1
  ·split at k2
   ·exact ⟨by simpa using k1,by simpa using k2⟩
   ·cases k2
  ·cases k1
theorem EnAt.news {w:World} {b o n cap:Nat} {es:List En} (h:EnAt w (.slice (some ⟨b,o,none⟩) n cap) es):∀ (j:Nat) (u:Value),(enVs es)[j]? =some u→w.cell? (Addr.add ⟨b,o,none⟩ j)=some u:=by
 intro j u hj;obtain ⟨x,h1,h2⟩:=enVs_get es j u hj;obtain ⟨b',o',e',hb,c0,c1⟩:=h.get _ _ h1
 injection e' with e'
 injection e' with e4 e5
 subst e4 e5
 have key:w.cell? ⟨b,o+j,none⟩=some u:=by
  rcases h2 with ⟨h3,rfl⟩ | ⟨h3,rfl⟩
  ·rw [show j / 2*2=j by omega] at c0;exact c0
  ·rw [show o+j / 2*2+1=o+j by omega] at c1;exact c1
 unfold Addr.add
 split
 ·next hj=>rw [hj] at key;exact key
 ·exact key
theorem enVs_one (es:List En):∀ u∈enVs es,u.oneCell'=true:=by
 intro u hu;unfold enVs at hu;obtain ⟨e,_,he⟩:=List.mem_flatMap.1 hu;simp only [enC,List.mem_cons,List.not_mem_nil,or_false] at he
 rcases he with rfl | rfl <;> rfl
theorem app_en {w:World} {ops:Array Oper} {rest:List Oper} {o:Oper} {a:Act} {Q:Exit→Act→World→Prop} (hgd:o.guard=none) (s x:Operand)
 (ho:o.op=.call { callee:=.builtin .append,args:=#[s,x],argTypes:=#[34,34] }) (base:Nat) (v:Value) (n:Nat) (xs:List Value) (hs:a.eval s=v) (hown:w.ownsRow base 45 2 v n xs)
 (u:Value) (fs:List En) (hx:a.eval x=u) (hu:EnAt w u fs) (hb:n+fs.length≤5000000000000) (hbase:base≤w.heap.size)
 (h:∀ v' w',w'.ownsRow base 45 2 v' (n+fs.length) (xs++enVs fs)→w.grownBy w' v.ownBlock→wpList Tryz.prog ops Q rest (a.put o.dst v') w'):wpList Tryz.prog ops Q (o::rest) a w:=by
 obtain ⟨iu,hiu,hu0,hu1,hu2⟩:=info_parts infoEn;have hu':=hu;obtain ⟨a',cap,rfl,h2,h3,h4⟩:=hu
 rcases h4 with ⟨rfl,rfl,rfl⟩ | ⟨b,o,rfl,-,-⟩
 ·refine wpList_append_own_none hgd s x 34 ho base 45 iu 2 Tryz.underlying34 hiu v n xs hs hown hx (h v w ?_ ⟨rfl,rfl,rfl,Nat.le_refl _,fun _ _ _=>rfl⟩)
  have e:enVs []=[]:=rfl;rw [e,List.append_nil];exact hown
 ·exact wpList_append_own_at w hgd s x 34 ho base 45 iu (.agg #[.string ⟨#[]⟩,.int .i64 0]) 2 24 Tryz.underlying34 hiu hu0 hu1 hu2 rfl (by decide) v n xs hs hown ⟨b,o,none⟩ fs.length cap (enVs fs) hx (enVs_len fs) hu'.news (enVs_one fs) (by unfold maxLen;omega) (by omega) hbase fun v' w' h1 h2 _ _=>h v' w' h1 h2
theorem added_any (v u:Value) (es fs:List En) (w:World) (h:EnAt w v es) (k:EnAt w u fs) (hl:es.length+fs.length≤5000000000000):Calls Tryz.prog 22 #[v,u] w fun e w'=>∃ r,e=.returned r∧w'.ownsRow w.heap.size 45 2 r (es++fs).length (enVs (es++fs))∧Kept No w w':=by
 have HV:=hid h;have HU:=hid k;clear h k
 go_enter Tryz.func22,Tryz.ntmps22
 go_wp2_with (first
  | (at_builtin;refine app_en rfl _ _ rfl w.heap.size _ _ _ rfl HO5.out u fs rfl HU5.out (by omega) hs5 ?_;intro v2 w7 hown7 hg7;have HO7:=hid hown7;have HK7:=hid (HK5.out.grown hg7 (fun x hx=>.inl (own_base HO5.out x hx)));clear hown7 hg7)
  | (at_builtin;refine app_en rfl _ _ rfl w.heap.size _ 0 [] rfl (World.ownsRow_nil _ _ _ _) v es rfl HV.out (by omega) (Nat.le_refl _) ?_;intro v' w5 hown5 hg5
     have hg5':w.grownBy w5 none:=hg5
     have HK5:Hid (Kept No w w5):=(Kept.refl No w).grown hg5' (fun x hx=>by cases hx)
     have HU5:=hid (HU.out.kept HK5.out);have hs5:=HK5.out.size;have HO5:=hid hown5
     clear hg5 hg5' hown5)
  | fail)
 go_ret;refine ⟨_,rfl,?_,HK7.out⟩
 have:=HO7.out
 rw [List.length_append,enVs_append,←Nat.zero_add es.length];exact this
set_option linter.unusedSimpArgs false
theorem ba_get {L:List UInt8} {j:Nat} (_:j<(⟨L.toArray⟩:ByteArray).size) (hl:j<L.length):(⟨L.toArray⟩:ByteArray)[j]=L[j]:=by
 show L.toArray[j]'_=_
 simp
theorem decV_take {ds:List UInt8} {i:Nat} {c:UInt8} (h:ds[i]? =some c):decV (ds.take (i+1))=decV (ds.take i)*10+(c.toNat-48):=by
 rw [List.take_add_one,h];exact decV_snoc _ _
theorem decV_lt {ds:List UInt8} (h:∀ c∈ds,48≤c.toNat∧c.toNat≤57):∀ i,i≤ds.length→decV (ds.take i)<10 ^ i
 | 0,_=>by simp [decV]
 | i+1,hi=>by
   have ih:=decV_lt h i (by omega)
   have hg:ds[i]? =some ds[i]:=List.getElem?_eq_getElem (by omega)
   have h2:=h ds[i] (List.getElem_mem _);rw [decV_take hg,Nat.pow_succ];omega
theorem number_any (t:Int) (w:World) (h1: -1000000000000000<t) (h2:t<1000000000000000):Calls Tryz.prog 67 #[.string ⟨(Lib.itoa t).toArray⟩] w fun e w'=>e=.returned (.tuple #[.int .i64 t,.bool true])∧w'=w:=by
 obtain ⟨u,hu⟩:∃ u,t.natAbs=u:=⟨_,rfl⟩
 have hlen:=dec_len 15 u (by omega) (by decide)
 have hpos:=dec_pos u;have hval:=dec_val u;have hch:=dec_chars u;obtain ⟨ds,hds⟩:∃ ds,Lib.decDigits u=ds:=⟨_,rfl⟩
 have hitoa:Lib.itoa t=if t<0 then 45::ds else ds:=by
  unfold Lib.itoa
  split
  ·rw [hu,hds]
  ·rw [←hds];congr 1;omega
 rw [hds] at hlen hpos hval hch;rw [hitoa]
 have HVal:Hid ((if t<0 then -((decV ds:Nat):Int) else ((decV ds:Nat):Int))=t):=by
  show _=_
  rw [hval];split <;> omega
 obtain ⟨S,hS⟩:∃ S:ByteArray,S=⟨ds.toArray⟩:=⟨_,rfl⟩;obtain ⟨N,hN⟩:∃ N,ds.length=N:=⟨_,rfl⟩
 have hsz:S.size=N:=by rw [hS,←hN];show ds.toArray.size=_;simp
 have HG:Hid (∀ (i:Nat) (h:i<S.size),48≤S[i].toNat∧S[i].toNat≤57∧decV (ds.take (i+1))=decV (ds.take i)*10+(S[i].toNat-48)):=fun i h=>by
  have hil:i<ds.length:=by omega
  have hc:=hch _ (List.getElem_mem hil)
  have e:S[i]=ds[i]:=by
   subst hS;exact ba_get h hil
  rw [e];exact ⟨hc.1,hc.2,decV_take (List.getElem?_eq_getElem hil)⟩
 have HL:Hid (∀ i,i≤N→decV (ds.take i)<10 ^ i):=fun i hi=>decV_lt hch i (by omega)
 have HT:Hid (ds.take N=ds):=List.take_of_length_le (by omega)
 rw [hN] at hlen hpos
 by_cases hn:t<0
 ·rw [if_pos hn] at HVal ⊢
  obtain ⟨Z,hZ⟩:∃ Z:ByteArray,Z=⟨(45::ds).toArray⟩:=⟨_,rfl⟩
  have hzz:Z.size=N+1:=by rw [hZ,←hN];show (45::ds).toArray.size=_;simp
  have hz0:(0:Int)<((N+1:Nat):Int):=by omega
  have hzl:0<Z.size:=by omega
  have hg0:Z[0].toNat=45:=by subst hZ;rfl
  have he:Z.extract 1 (N+1)=S:=by rw [hZ,hS,ByteArray.extract_mk,←hN];simp
  rw [←hZ];clear hZ hS hitoa hds hval hu h1 h2 hn hch hN
  go_enter Tryz.func67,Tryz.ntmps67
  go_wp2_with fail;clear hg0 he
  go_loopg [5,6] N (fun k v5 v6 wr=>∃ (i:Nat) (m:Int),i+k=N∧v5=.int .i64 m∧v6=.int .i64 (i:Int)∧Hid (m=((decV (ds.take i):Nat):Int))∧wr=w)
  case atStart=>exact ⟨0,0,by omega,rfl,rfl,rfl,rfl⟩
  case round =>
   obtain ⟨i,m,hik,rfl,rfl,HM,rfl⟩:=hrel
   cases gk with
   | zero =>
     have hx:¬(i:Int)<(N:Int):=by omega
     have HM2:Hid (m=((decV ds:Nat):Int)∧m<1000000000000000):=by
      have e:i=N:=by omega
      have h0:=HM.out;rw [e,HT.out] at h0;have h1:=HL.out N (Nat.le_refl _);rw [HT.out] at h1
      have h2:10 ^ N≤10 ^ 15:=Nat.pow_le_pow_right (by decide) hlen
      exact ⟨h0,by omega⟩
     go_wp2_with fail;go_ret2;refine ⟨?_,rfl⟩;have h0:=HM2.out;have hv:=HVal.out
     (have e2:wrap64 (-m)=t:=by unfold wrap64;omega);rw [←e2];rfl
   | succ k =>
     have hx:(i:Int)<(N:Int):=by omega
     have hx0:(0:Int)≤(i:Int):=by omega
     have hiS:i<S.size:=by omega
     have hc:=HG.out i hiS;have hc1:=hc.1;have hc2:=hc.2.1
     have HR:Hid (wrap64 (wrap64 (10*m)+(((S[i].toNat:Nat):Int)-48))=((decV (ds.take (i+1)):Nat):Int)):=by
      show _=_
      have h1:=HL.out i (by omega)
      have h2:10 ^ i≤10 ^ 14:=Nat.pow_le_pow_right (by decide) (by omega)
      have h3:=HM.out;rw [hc.2.2];unfold wrap64;omega
     clear hc;go_wp2_with fail;go_roundg k
     case measure=>omega
     case rel=>exact ⟨i+1,_,by omega,rfl,by go_num,HR,rfl⟩
 ·rw [if_neg hn] at HVal ⊢
  have hzl:0<S.size:=by omega
  have hg0:¬S[0].toNat=45:=by
   have:=HG.out 0 hzl
   omega
  rw [←hS];clear hS hitoa hds hval hu h1 h2 hn hch hN
  go_enter Tryz.func67,Tryz.ntmps67
  go_wp2_with fail;clear hg0
  go_loopg [5,6] N (fun k v5 v6 wr=>∃ (i:Nat) (m:Int),i+k=N∧v5=.int .i64 m∧v6=.int .i64 (i:Int)∧Hid (m=((decV (ds.take i):Nat):Int))∧wr=w)
  case atStart=>exact ⟨0,0,by omega,rfl,rfl,rfl,rfl⟩
  case round =>
   obtain ⟨i,m,hik,rfl,rfl,HM,rfl⟩:=hrel
   cases gk with
   | zero =>
     have hx:¬(i:Int)<(N:Int):=by omega
     have HM2:Hid (m=((decV ds:Nat):Int)∧m<1000000000000000):=by
      have e:i=N:=by omega
      have h0:=HM.out;rw [e,HT.out] at h0;have h1:=HL.out N (Nat.le_refl _);rw [HT.out] at h1
      have h2:10 ^ N≤10 ^ 15:=Nat.pow_le_pow_right (by decide) hlen
      exact ⟨h0,by omega⟩
     go_wp2_with fail;go_ret2;refine ⟨?_,rfl⟩;have h0:=HM2.out;have hv:=HVal.out
     (have e2:m=t:=by omega);rw [←e2];rfl
   | succ k =>
     have hx:(i:Int)<(N:Int):=by omega
     have hx0:(0:Int)≤(i:Int):=by omega
     have hiS:i<S.size:=by omega
     have hc:=HG.out i hiS;have hc1:=hc.1;have hc2:=hc.2.1
     have HR:Hid (wrap64 (wrap64 (10*m)+(((S[i].toNat:Nat):Int)-48))=((decV (ds.take (i+1)):Nat):Int)):=by
      show _=_
      have h1:=HL.out i (by omega)
      have h2:10 ^ i≤10 ^ 14:=Nat.pow_le_pow_right (by decide) (by omega)
      have h3:=HM.out;rw [hc.2.2];unfold wrap64;omega
     clear hc;go_wp2_with fail;go_roundg k
     case measure=>omega
     case rel=>exact ⟨i+1,_,by omega,rfl,by go_num,HR,rfl⟩
structure RowTx (R:List UInt8):Prop where
 star:∀ c∈R,c≠42
 len:3≤R.length
 fst:R[0]? =some 40
 lst:R[R.length-1]? =some 41
 few:R.length≤1000
theorem results_cell_row2 {fn:Func} {p u:Tmp} {ty:TypeId} (h:fn.results=#[.cell p ty,.tmp u]) (tmps:Array Value) (w:World) (g:Nat) (v:Value) (hp:tmps.getD p undef=.pointer (some ⟨g,0,none⟩)) (hl:(loadVar ty ⟨g,0,none⟩).run Tryz.prog w=.ok v w) :
 (results fn tmps).run Tryz.prog w=.ok (.tuple #[v,tmps.getD u undef]) w:=by
 rw [results_cell_tmp h,hp]
 simp [asAddr,hl,Result.andThen]
theorem infoEnS:(Tryz.prog.info? 45).map (·.size)=some 2:=by kernel_rfl
theorem one_any (R:List UInt8) (t:Int) (w:World) (hR:RowTx R) (h0:t≠0) (h1: -1000000000000000<t) (h2:t<1000000000000000):Calls Tryz.prog 41 #[.string ⟨(R++42::Lib.itoa t).toArray⟩] w fun e w'=>e=.returned (.tuple #[.agg #[.string ⟨R.toArray⟩,.int .i64 t],.bool true])∧Kept No w w':=by
 obtain ⟨S,hS⟩:∃ S:ByteArray,S=⟨(R++42::Lib.itoa t).toArray⟩:=⟨_,rfl⟩;obtain ⟨N,hN⟩:∃ N,R.length=N:=⟨_,rfl⟩;obtain ⟨M,hM⟩:∃ M,(Lib.itoa t).length=M:=⟨_,rfl⟩
 have hMl:=Lib.itoa_length_le t (by omega) (by omega)
 rw [hM] at hMl
 have hsz:S.size=N+1+M:=by rw [hS,←hN,←hM];show (R++42::Lib.itoa t).toArray.size=_;simp;omega
 have hget:∀ (i:Nat) (h:i<S.size) (c:UInt8),(R++42::Lib.itoa t)[i]? =some c→S[i]=c:=fun i h c hc=>by
  subst hS;obtain ⟨hl,e⟩:=List.getElem?_eq_some_iff.1 hc;rw [ba_get h hl,e]
 have hlen:=hR.len;have hfew:=hR.few;rw [hN] at hlen hfew
 have HG:Hid (∀ (i:Nat) (h:i<S.size),i<N→S[i].toNat≠42):=fun i h hi=>by
  have hil:i<R.length:=by omega
  rw [hget i h R[i] (by rw [List.getElem?_append_left hil];exact List.getElem?_eq_getElem hil)]
  exact fun e=>hR.star _ (List.getElem_mem hil) (UInt8.toNat_inj.1 e)
 have hNS:N<S.size:=by omega
 have hgN:S[N].toNat=42:=by
  rw [hget N hNS 42 (by rw [←hN,List.getElem?_append_right (Nat.le_refl _)];simp)];rfl
 have h0S:0<S.size:=by omega
 have hg0:S[0].toNat=40:=by rw [hget 0 h0S 40 (by rw [List.getElem?_append_left (by omega)];exact hR.fst)];rfl
 have hLS:N-1<S.size:=by omega
 have hgL:S[N-1].toNat=41:=by rw [hget (N-1) hLS 41 (by rw [List.getElem?_append_left (by omega),←hN];exact hR.lst)];rfl
 have HE1:Hid (S.extract 0 N=⟨R.toArray⟩):=by show _=_;rw [hS,ByteArray.extract_mk,←hN];simp
 have HE2:Hid (S.extract (N+1) (N+1+M)=⟨(Lib.itoa t).toArray⟩):=by
  show _=_
  rw [hS,ByteArray.extract_mk]
  have:(R++42::Lib.itoa t).drop (N+1)=Lib.itoa t:=by rw [←List.drop_drop,←hN,List.drop_append_of_le_length (Nat.le_refl _)];simp
  rw [this,←hM];simp
 have HNum:Hid (∀ w1,Calls Tryz.prog 67 #[.string ⟨(Lib.itoa t).toArray⟩] w1 fun e w'=>e=.returned (.tuple #[.int .i64 t,.bool true])∧w'=w1):=fun w1=>number_any t w1 h1 h2
 rw [←hS,←HE1.out];rw [←HE2.out] at HNum;have hne:¬t=0:=h0;clear hget hS hN hM hR h1 h2 HE1 HE2 h0
 obtain ⟨J,hJN⟩:∃ J,N=J+1:=⟨N-1,by omega⟩
 have hJl:J<S.size:=by omega
 have hgJ:S[J].toNat=41:=by
  subst hJN;exact hgL
 have hw2:IntKind.i64.wrap ((N:Int)-1)=(J:Int):=by rw [IntKind.wrap_i64];omega
 obtain ⟨Z,hZ⟩:∃ Z,Z=N+1+M:=⟨_,rfl⟩;rw [←hZ] at HNum hsz
 have hJ0:(0:Int)≤(J:Int):=by omega
 have hJS:(J:Int)<(Z:Int):=by omega
 have h2i:(2:Int)<(N:Int):=by omega
 have hNZ:(N:Int)<(Z:Int):=by omega
 have hNZ1:(N:Int)≤(Z:Int):=by omega
 have hNZ2:(N:Int)+1≤(Z:Int):=by omega
 have hZ0:(0:Int)<(Z:Int):=by omega
 have hZn:¬Z=0:=by omega
 have hZb:(Z:Int)≤2000:=by omega
 clear hgL hZ hJN hMl hLS;obtain ⟨W,hW⟩:∃ W,W=w.alloc (.cells #[.string ⟨#[]⟩,.int .i64 0] 45):=⟨_,rfl⟩
 have HK0:Hid (Kept No w W):=by rw [hW];exact (Kept.refl No w).alloc _
 have HB0:Hid (W.heap[w.heap.size]? =some (.cells #[.string ⟨#[]⟩,.int .i64 0] 45 (0,0))):=by rw [hW];exact heap_alloc_last _ _
 go_enter Tryz.func41,Tryz.ntmps41
 go_wp2_with fail;rw [←hW];clear hW;obtain ⟨B,hB⟩:∃ B,B=w.heap.size:=⟨_,rfl⟩;rw [←hB] at HB0 ⊢;have HBe:=hid hB;clear hB
 go_loopg [4] (N+1) (fun k v4 wr=>∃ (i:Nat),i+k=N+1∧1≤k∧v4=.int .i64 (i:Int)∧wr=W)
 case atStart=>exact ⟨0,by omega,by omega,rfl,rfl⟩
 case round =>
  obtain ⟨i,hik,hk1,rfl,rfl⟩:=hrel
  have hx0:(0:Int)≤(i:Int):=by omega
  have hx:(i:Int)<(Z:Int):=by omega
  have hiS:i<S.size:=by omega
  by_cases hiN:i=N
  ·subst hiN
   go_wp2_with fail;refine (HNum.out _).mono ?_;rintro e w2 ⟨rfl,rfl⟩;clear HNum;go_wp2_with fail
   refine wp_region_held_drew (S:=fun w'=>w'.heap[B]? =some (.cells #[.string ⟨#[]⟩,.int .i64 0] 45 (0,0))∨w'.heap[B]? =some (.cells #[.string (S.extract 0 i),.int .i64 t] 45 (0,0))) (by kernel_rfl) (.inl HB0.out) (fun hHeld=> ?_)
   refine tk_P 0 (.string S) hHeld ?_;try simp only [Act.put,n_1,n_2,n_3,n_4,n_5,n_6]
   refine tk_P 1 (.int .i64 (i:Int)) hHeld ?_;try simp only [Act.put,n_1,n_2,n_3,n_4,n_5,n_6]
   refine tk_P 2 (.string (S.extract 0 i)) hHeld ?_;try simp only [Act.put,n_1,n_2,n_3,n_4,n_5,n_6]
   refine tk_P 3 (.int .i64 t) hHeld ?_;try simp only [Act.put,n_1,n_2,n_3,n_4,n_5,n_6]
   refine tk_P 4 (.agg #[.string (S.extract 0 i),.int .i64 t]) hHeld ?_;try simp only [Act.put,n_1,n_2,n_3,n_4,n_5,n_6]
   refine tk_P 5 (.bool true) hHeld ?_;try simp only [Act.put,n_1,n_2,n_3,n_4,n_5,n_6]
   refine tk_P 6 (.bool true) hHeld ?_;try simp only [Act.put,n_1,n_2,n_3,n_4,n_5,n_6]
   refine tk_P 7 (.int .i64 t) hHeld ?_;try simp only [Act.put,n_1,n_2,n_3,n_4,n_5,n_6]
   refine tk_P 8 (.bool true) hHeld ?_;try simp only [Act.put,n_1,n_2,n_3,n_4,n_5,n_6]
   refine tk_P 9 (.bool true) hHeld ?_;try simp only [Act.put,n_1,n_2,n_3,n_4,n_5,n_6]
   refine tk_P 10 (.bool true) hHeld ?_;try simp only [Act.put,n_1,n_2,n_3,n_4,n_5,n_6]
   refine tk_P 11 (.int .i64 (i:Int)) hHeld ?_;try simp only [Act.put,n_1,n_2,n_3,n_4,n_5,n_6]
   refine tk_P 12 (.bool true) hHeld ?_;try simp only [Act.put,n_1,n_2,n_3,n_4,n_5,n_6]
   refine tk_P 13 (.bool true) hHeld ?_;try simp only [Act.put,n_1,n_2,n_3,n_4,n_5,n_6]
   refine tk_P 14 (.bool true) hHeld ?_;try simp only [Act.put,n_1,n_2,n_3,n_4,n_5,n_6]
   refine tk_P 15 (.string S) hHeld ?_;try simp only [Act.put,n_1,n_2,n_3,n_4,n_5,n_6]
   refine tk_P 16 (.int .u8 40) hHeld ?_;try simp only [Act.put,n_1,n_2,n_3,n_4,n_5,n_6]
   refine tk_P 17 (.bool true) hHeld ?_;try simp only [Act.put,n_1,n_2,n_3,n_4,n_5,n_6]
   refine tk_P 18 (.bool true) hHeld ?_;try simp only [Act.put,n_1,n_2,n_3,n_4,n_5,n_6]
   refine tk_P 19 (.bool true) hHeld ?_;try simp only [Act.put,n_1,n_2,n_3,n_4,n_5,n_6]
   refine tk_P 20 (.string S) hHeld ?_;try simp only [Act.put,n_1,n_2,n_3,n_4,n_5,n_6]
   refine tk_P 21 (.int .i64 (i:Int)) hHeld ?_;try simp only [Act.put,n_1,n_2,n_3,n_4,n_5,n_6]
   refine tk_P 22 (.int .i64 (J:Int)) hHeld ?_;try simp only [Act.put,n_1,n_2,n_3,n_4,n_5,n_6]
   refine tk_P 23 (.int .u8 41) hHeld ?_;try simp only [Act.put,n_1,n_2,n_3,n_4,n_5,n_6]
   refine tk_P 24 (.bool true) hHeld ?_;try simp only [Act.put,n_1,n_2,n_3,n_4,n_5,n_6]
   refine tk_P 25 (.bool true) hHeld ?_;try simp only [Act.put,n_1,n_2,n_3,n_4,n_5,n_6]
   refine tk_S 26 (fun K hK=> ?_)
   rw [if_pos (by kernel_rfl)]
   refine wp_store_row 45 (.tmp 2) (.tmp 29) (by kernel_rfl) B #[.string (S.extract 0 i),.int .i64 t] (by kernel_rfl) (by kernel_rfl) 45 _ HB0.out infoEnS rfl (by simp [Value.oneCell']) ?_
   have hB1:(w2.drew.setRow B #[.string (S.extract 0 i),.int .i64 t]).heap[B]? =some (.cells #[.string (S.extract 0 i),.int .i64 t] 45 (0,0)):=setRow_heap _ _ _ _ _ _ HB0.out
   have hK1:Kept No w (w2.drew.setRow B #[.string (S.extract 0 i),.int .i64 t]):=kept_setRow HK0.out.drew (.inl (by have:=HBe.out;omega)) _
   refine hK.out _ _ (.inr hB1) (fun hHeld=> ?_)
   clear hK K;have HB1:=hid hB1;have HK1:=hid hK1;clear hB1 hK1 HB0 HK0;generalize w2.drew.setRow B #[.string (S.extract 0 i),.int .i64 t]=w3 at HB1 HK1 hHeld ⊢;try simp only [Act.put,n_1,n_2,n_3,n_4,n_5,n_6]
   refine tk_P 27 (.bool true) hHeld ?_;try simp only [Act.put,n_1,n_2,n_3,n_4,n_5,n_6]
   refine wpAnyH_done (by kernel_rfl) ?_ _
   clear hHeld;try simp only [Act.put,n_1,n_2,n_3,n_4,n_5,n_6]
   go_wp2_with fail;refine bodyPost_ret (results_cell_row2 rfl _ _ B _ rfl (run_loadVar_row _ B 45 45 #[.string (S.extract 0 i),.int .i64 t] (0,0) _ HB1.out Tryz.underlying45 rfl infoEnS)) rfl ?_;exact ⟨rfl,HK1.out⟩
  ·have hb:=HG.out i hiS (by omega)
   go_wp2_with fail;go_roundg (gk-1)
   case measure=>omega
   case rel=>exact ⟨i+1,by omega,by omega,by go_num,rfl⟩
end Go.Proofs.YtdinjjmcmfjbfaaGreatDoor
