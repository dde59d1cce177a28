/-
  For every query text and every list of batches, ripplekeep.Counted returns true, and both read behind the call as they read before: of any query that is one G[][n] is the number of its rows, D has each of its rows once, U of it with itself twice, as far as these are queries. Condition: the listed package-level variables of the library read as start-up lays them (the card ties them to the text).
-/
import Derived.Test.YtdinjjmcmfjbfaaGreatDoorEoJ
import Derived.Test.YtdinjjmcmfjbfaaGreatDoorExJ
import Derived.Test.YtdinjjmcmfjbfaaGreatDoorEmJ
import Derived.SizedLaws
import Derived.Carry
set_option maxRecDepth 100000
set_option maxHeartbeats 4000000
namespace Go.Proofs.YtdinjjmcmfjbfaaGreatDoor
open Go.RowKit Go.Shelf Go.Deep
open Mo (V Row Bag cnt canon Eqv OkB OkD neg Nr Q leaves bagQ tyQ wf joins TOk wv ty Tab)
def smF:Int→List En→Int
 | a,[]=>a
 | a,e::es=>smF (wrap64 (a+e.2)) es
theorem smF_snoc (e:En):∀ (es:List En) (a:Int),smF a (es++[e])=wrap64 (smF a es+e.2)
 | [],_=>rfl
 | _::es,_=>smF_snoc e es _
theorem smF_bag:∀ (l:Bag) (a:Int),(∀ e∈l,1≤e.2)→0≤a→a+Mo.lin l (fun _=>1)≤9000000000000000000→smF a (l.map fun e=>(rowB e.1,e.2))=a+Mo.lin l (fun _=>1)
 | [],a,_,_,_=>by show a=a+0;omega
 | e::l,a,h,h0,h1=>by
   have he:=h e (by simp)
   have hl:Mo.lin (e::l) (fun _=>1)=e.2*1+Mo.lin l (fun _=>1):=rfl
   have hp:0≤Mo.lin l (fun _=>1):=by
    have:=Mo.lin_mono_pos (l:=l) (fun x hx=>by have:=h x (by simp [hx]);omega) (g:=fun _=>0) (k:=fun _=>1) (fun _ _=>by omega)
    rw [Mo.lin_zero] at this;exact this
   rw [hl] at h1 ⊢
   show smF (wrap64 (a+e.2)) (l.map fun e=>(rowB e.1,e.2))=_
   have hw:wrap64 (a+e.2)=a+e.2:=by unfold wrap64;omega
   rw [hw,smF_bag l _ (fun x hx=>h x (by simp [hx])) (by omega) (by omega)]
   omega
theorem sm_all {us:List Bool} {A:Bag} (h:OkB us A) (hn:Nr A≤50000000000):smF 0 (enB A)=Nr A:=by
 have e:=Mo.Nr_eqv (Mo.canon_eqv A);unfold enB
 rw [smF_bag (canon A) 0 (fun x hx=>Mo.nn_mem h.nn hx) (by omega) (by show 0+Nr (canon A)≤_;rw [e];omega)]
 show 0+Nr (canon A)=_
 rw [e];omega
theorem view_no {st:Mo.Ses} {s:ByteArray} (h:(viewM st s).1.2.2≠0):(viewM st s).1.2.1=[]∧(viewM st s).2=st:=by
 unfold viewM at h ⊢
 by_cases hc:(Pl.chk s).1≠0
 ·rw [if_pos hc];exact ⟨rfl,rfl⟩
 ·rw [if_neg hc] at h ⊢
  by_cases h6:st.views.length=6
  ·rw [if_pos h6];exact ⟨rfl,rfl⟩
  ·rw [if_neg h6] at h ⊢
   cases hrd:rdQ s 6 0 with
   | none=>exact ⟨rfl,rfl⟩
   | some x =>
     rw [hrd] at h
     simp only at h ⊢
     by_cases h1:((leaves x.1).all fun nm=>(Mo.tabT st.tabs nm).isSome)=true
     ·rw [if_pos h1] at h ⊢
      cases ht:tyQ (Mo.ftT st.tabs) x.1 with
      | none=>exact ⟨rfl,rfl⟩
      | some ts=>rw [ht] at h;exact absurd rfl h
     ·rw [if_neg h1];exact ⟨rfl,rfl⟩
theorem view_wrap {st:Mo.Ses} {s':ByteArray} {Q1:Q} (w:World) (hQ:∀ q',Rq s' 6 0 s'.size q'→q'=Q1):∃ (a:Int) (t:List UInt8) (c:Int) (S:Mo.Ses),viewM st s'=((a,t,c),S)∧S.tabs=st.tabs∧(c=0→t=bagTxt (Mo.bagS st.tabs Q1)∧Q1∈S.views)∧(c≠0→t=[]):=by
 by_cases h:(viewM st s').1.2.2=0
 ·obtain ⟨q',hr,_,e⟩:=view_rq w h
  have:=hQ q' hr
  subst this
  exact ⟨_,_,_,_,e,rfl,fun _=>⟨rfl,by simp⟩,fun h=>absurd rfl h⟩
 ·obtain ⟨e1,e2⟩:=view_no h
  obtain ⟨⟨⟨a,t,c⟩,S⟩,hv⟩:∃ r,viewM st s'=r:=⟨_,rfl⟩;rw [hv] at h e1 e2;have e2':S=st:=e2
  exact ⟨a,t,c,S,hv,by rw [e2'],fun e=>absurd e h,fun _=>e1⟩
theorem entries_opt {us:List Bool} {l:Bag} {t:List UInt8} {c:Int} (hc:c=0→t=bagTxt l∧BWr us l∧us≠[]) (hn:c≠0→t=[]):∃ es:List En,(c=0→es=enB l)∧∀ w,Calls Tryz.prog 18 #[.string ⟨t.toArray⟩] w fun e w'=>∃ v,e=.returned (.tuple #[v,.bool true])∧EnAt w' v es∧Kept No w w':=by
 by_cases h:c=0
 ·obtain ⟨rfl,h2,h3⟩:=hc h
  exact ⟨enB l,fun _=>rfl,fun w=>entries_bag h2 h3 w⟩
 ·rw [hn h]
  exact ⟨[],fun e=>absurd e h,fun w=>(entries_nil w).mono fun e w' ⟨a,b⟩=>⟨_,a,EnAt.of_owns (World.ownsRow_nil w' 0 _ _),b ▸ Kept.refl _ _⟩⟩
theorem canon_dist (A:Bag):canon (Mo.distB A)=Mo.distB A:=by
 have key:∀ l:Bag,Mo.Rise l→Mo.Rise (l.map fun e=>(e.1,(1:Int))):=by
  intro l
  induction l with
  | nil=>exact fun _=>trivial
  | cons e l ih =>
    rintro ⟨h1,h2,h3⟩
    refine ⟨fun x hx=> ?_,(by decide:(1:Int)≠0),ih h3⟩
    obtain ⟨y,hy,rfl⟩:=List.mem_map.1 hx;exact h1 y hy
 exact Mo.canon_of_rise (key _ (Mo.canon_rise A))
theorem once_len (A:Bag):(enB (Mo.distB A)).length=(enB A).length:=by
 unfold enB;rw [canon_dist];unfold Mo.distB
 simp
theorem once_tm {us us':List Bool} {A:Bag} (h:BWr us A) (h':BWr us' (Mo.distB A)):∀ e∈enB A,tmW (enB (Mo.distB A)) e.1=1:=by
 intro e he;obtain ⟨x,hx,rfl⟩:=List.mem_map.1 he;have hc:=Mo.mem_canon_cnt hx
 show tmW _ (rowB x.1)=1
 rw [tmW_F,tmF_bag h' (h.allV x hx) (by omega) (by omega),Mo.cnt_distB,if_neg hc]
 omega
theorem bwr_eqv2 {us us':List Bool} {A B:Bag} (h:BWr us A) (h':BWr us' B) (e:Eqv B (A++A)):BWr us B:=by
 refine ⟨fun r hr=>h.ty r fun e'=>hr ?_,h'.bd,h'.len⟩
 rw [e r,Mo.cnt_append,e'];rfl
theorem counted_any (s:ByteArray) (v:Value) (l:List (List Rw4)) (w:World) (hE:Env w) (hs:s.size≤140737488355328) (hl:RawssAt w v l):Calls Tryz.prog 10 #[.string s,v] w fun e w'=>e=.returned (.bool true)∧Kept No w w':=by
 have HE:=hid hE;have HL:=hid hl
 obtain ⟨va,vn,vc,rfl⟩:∃ a n c,v=.slice a n c:=by obtain ⟨a,cap,e,_⟩:=hl;exact ⟨_,_,_,e⟩
 clear hE hl
 go_enter Tryz.func10,Tryz.ntmps10
 go_wp2_with fail;refine (awake_any w HE.out).mono ?_;rintro e w1 ⟨rfl,hk1⟩;have HK1:=hid hk1;clear hk1;go_wp2_with fail;refine (able_any s w1 (HE.out.keptNo HK1.out) hs).mono ?_;rintro e w2 ⟨rfl,hk2⟩;have HK2:=hid (HK1.out.seq hk2);clear hk2 HK1;go_wp2_with fail;refine (fresh_any w2 (HE.out.keptNo HK2.out)).mono ?_;rintro e w3 ⟨p,rfl,h3⟩;have H3:=hid h3;clear h3;go_wp2_with fail;refine (fed_any _ l w3 H3.out (HL.out.kept HK2.out)).mono ?_;rintro e w4 ⟨rfl,h4⟩;have HS0:=hid (fed_same (a:=fr3) fr_nod l fr3 (SameT.refl _));have H4:=hid h4;clear h4 H3 HL;generalize fedM fr3 l=st0 at H4 HS0;have HV0:Hid (st0.views=[]):=HS0.out.vs.trans fr_vs;go_wp2_with fail;refine (view_go H4.out s).mono ?_;rintro e w5 ⟨he,h5⟩
 by_cases hc:(viewM st0 s).1.2.2=0
 ·obtain ⟨q,hrq,hs120,e1⟩:=view_rq w hc
  rw [e1,HV0.out] at he h5;have he':e=.returned (.tuple #[.int .i64 0,.string ⟨(bagTxt (Mo.bagS st0.tabs q)).toArray⟩,.int .i64 0]):=he;subst he';have H5:Hid (Mine w2 w5 p ⟨st0.tabs,[q]⟩):=h5;have HRq:=hid hrq
  obtain ⟨us,-,k1,n1,hne⟩:=h5.ok2 (q:=q) (by simp)
  have HO:Hid (OkB us (Mo.bagS st0.tabs q)):=k1;have HNr:Hid (Nr (Mo.bagS st0.tabs q)≤50000000000):=n1;have HNe:=hid hne;clear he h5 H4 HV0 HS0 hc e1 hrq k1 n1 hne hs;generalize st0.tabs=T at H5 HO HNr ⊢;obtain ⟨A,hA⟩:∃ A,A=Mo.bagS T q:=⟨_,rfl⟩;rw [←hA] at HO HNr ⊢;have HAe:=hid hA;clear hA;obtain ⟨B1,hB1⟩:∃ B:ByteArray,B=⟨#[71,91,93,91,110,93,40]⟩++s++⟨#[41]⟩:=⟨_,rfl⟩;obtain ⟨B2,hB2⟩:∃ B:ByteArray,B=⟨#[68,40]⟩++s++⟨#[41]⟩:=⟨_,rfl⟩;obtain ⟨B3,hB3⟩:∃ B:ByteArray,B=⟨#[85,40]⟩++s++⟨#[44]⟩++s++⟨#[41]⟩:=⟨_,rfl⟩
  have HW1:Hid (∀ q',Rq B1 6 0 B1.size q'→q'=.grp [] none q):=fun q' hr=>by rw [hB1] at hr;exact wrap_G HRq.out hr
  have HW2:Hid (∀ q',Rq B2 6 0 B2.size q'→q'=.dist q):=fun q' hr=>by rw [hB2] at hr;exact wrap_D HRq.out hr
  have HW3:Hid (∀ q',Rq B3 6 0 B3.size q'→q'=.uni q q):=fun q' hr=>by rw [hB3] at hr;exact wrap_U HRq.out hr
  have HB1:=hid hB1;have HB2:=hid hB2;have HB3:=hid hB3;clear hB1 hB2 hB3 HRq;go_wp2_with fail;rw [←HB1.out];obtain ⟨ag,tg,cg,Sg,hvg,hTg,hcg,hng⟩:=view_wrap (st:=⟨T,[q]⟩) w HW1.out;refine (view_go H5.out B1).mono ?_;rintro e w6 ⟨he,h6⟩;rw [hvg] at he h6;have he':e=.returned (.tuple #[.int .i64 ag,.string ⟨tg.toArray⟩,.int .i64 cg]):=he;subst he';have H6:=hid h6;have HTg:Hid (Sg.tabs=T):=hTg
  have HCg:Hid (cg=0→tg=bagTxt (Mo.grpB [] none A)):=fun e=>by rw [HAe.out];exact (hcg e).1
  clear he h6 hvg hTg hcg hng H5 HW1 HB1;go_wp2_with fail;rw [←HB2.out];obtain ⟨ad,td,cd,Sd,hvd,hTd,hcd,hnd⟩:=view_wrap (st:=Sg) w HW2.out;refine (view_go H6.out B2).mono ?_;rintro e w7 ⟨he,h7⟩;rw [hvd] at he h7;have he':e=.returned (.tuple #[.int .i64 ad,.string ⟨td.toArray⟩,.int .i64 cd]):=he;subst he';have H7:=hid h7;have HTd:Hid (Sd.tabs=T):=hTd.trans HTg.out
  have hcd':cd=0→∃ us',td=bagTxt (Mo.distB A)∧BWr us' (Mo.distB A)∧us'≠[]:=fun e=>by
   obtain ⟨x1,x2⟩:=hcd e;obtain ⟨us',_,k,n,ne⟩:=h7.ok2 x2;rw [HTd.out,bagS_dist,←HAe.out] at k n;rw [HTg.out,bagS_dist,←HAe.out] at x1;exact ⟨us',x1,bwr_one k n,ne⟩
  have HD:Hid (∃ (es:List En),(cd=0→es=enB (Mo.distB A)∧∃ us',BWr us' (Mo.distB A))∧∀ w,Calls Tryz.prog 18 #[.string ⟨td.toArray⟩] w fun e w'=>∃ v,e=.returned (.tuple #[v,.bool true])∧EnAt w' v es∧Kept No w w'):=by
   by_cases h0:cd=0
   ·obtain ⟨us',x1,x2,x3⟩:=hcd' h0
    obtain ⟨es,y1,y2⟩:=entries_opt (us:=us') (l:=Mo.distB A) (t:=td) (c:=cd) (fun _=>⟨x1,x2,x3⟩) hnd
    exact ⟨es,fun e=>⟨y1 e,us',x2⟩,y2⟩
   ·obtain ⟨es,y1,y2⟩:=entries_opt (us:=[]) (l:=Mo.distB A) (t:=td) (c:=cd) (fun e=>absurd e h0) hnd
    exact ⟨es,fun e=>absurd e h0,y2⟩
  clear he h7 hvd hTd hcd hnd hcd' H6 HW2 HB2;go_wp2_with fail;rw [←HB3.out];obtain ⟨au,tu,cu,Su,hvu,hTu,hcu,hnu⟩:=view_wrap (st:=Sd) w HW3.out;refine (view_go H7.out B3).mono ?_;rintro e w8 ⟨he,h8⟩;rw [hvu] at he h8;have he':e=.returned (.tuple #[.int .i64 au,.string ⟨tu.toArray⟩,.int .i64 cu]):=he;subst he';have H8:=hid h8;have HWA:=hid (bwr_one HO.out HNr.out)
  have HU:Hid (∃ (es:List En),(cu=0→(∀ e∈enB A++enB A,tmW (enB A++enB A) e.1=tmW es e.1)∧(∀ e∈es,tmW (enB A++enB A) e.1=tmW es e.1))∧∀ w,Calls Tryz.prog 18 #[.string ⟨tu.toArray⟩] w fun e w'=>∃ v,e=.returned (.tuple #[v,.bool true])∧EnAt w' v es∧Kept No w w'):=by
   by_cases h0:cu=0
   ·obtain ⟨x1,x2⟩:=hcu h0
    obtain ⟨us',ht',k,n,ne⟩:=h8.ok2 x2;rw [hTu,HTd.out] at k n ht';rw [HTd.out] at x1;have hUE:=bagS_uni T q;rw [←HAe.out] at hUE;have hbw:=bwr_one k n
    obtain ⟨es,y1,y2⟩:=entries_opt (us:=us') (l:=Mo.bagS T (.uni q q)) (t:=tu) (c:=cu) (fun _=>⟨x1,hbw,ne⟩) hnu
    refine ⟨es,fun e=> ?_,y2⟩
    rw [y1 e];have hbw2:BWr us (Mo.bagS T (.uni q q)):=bwr_eqv2 HWA.out hbw hUE
    exact cut_tm HWA.out HWA.out hbw2 fun r=>by rw [hUE r,Mo.cnt_append]
   ·obtain ⟨es,y1,y2⟩:=entries_opt (us:=[]) (l:=A) (t:=tu) (c:=cu) (fun e=>absurd e h0) hnu
    exact ⟨es,fun e=>absurd e h0,y2⟩
  clear he h8 hvu hTu hcu hnu H7 HW3 HB3 HTg HTd;obtain ⟨fs,hd1,hd2⟩:=HD.out;obtain ⟨gs,hu1,hu2⟩:=HU.out;have HD1:=hid hd1;have HD2:=hid hd2;have HU1:=hid hu1;have HU2:=hid hu2;have HTot:=hid (sm_all HO.out HNr.out);have HTxt:=hid (grp_text HO.out);clear hd1 hd2 hu1 hu2 HD HU;go_wp2_with fail;refine (entries_bag HWA.out HNe.out w8).mono ?_;rintro e w9 ⟨y1,rfl,hy1,hk9⟩;have HY1:=hid hy1;have H9:=hid (H8.out.stays hk9)
  obtain ⟨q1,qc1,rfl⟩:∃ a cap,y1=.slice a (enB A).length cap:=by obtain ⟨a,cap,e,_⟩:=hy1;exact ⟨_,_,e⟩
  clear hy1 hk9 H8;generalize hm1:(enB A).length=m1 at HY1 ⊢;have HM1:=hid hm1;clear hm1;go_wp2_with fail;refine (HD2.out w9).mono ?_;rintro e wa ⟨y2,rfl,hy2,hka⟩;have HY1a:=hid (HY1.out.kept hka);have HY2:=hid hy2;have HAa:=hid (H9.out.stays hka)
  obtain ⟨q2,qc2,rfl⟩:∃ a cap,y2=.slice a fs.length cap:=by obtain ⟨a,cap,e,_⟩:=hy2;exact ⟨_,_,e⟩
  clear hy2 hka H9 HY1 HD2;generalize hm2:fs.length=m2 at HY2 ⊢;have HM2:=hid hm2;clear hm2;go_wp2_with fail;refine (HU2.out wa).mono ?_;rintro e wb ⟨y3,rfl,hy3,hkb⟩;have HY1b:=hid (HY1a.out.kept hkb);have HY2b:=hid (HY2.out.kept hkb);have HY3:=hid hy3;have HBb:=hid (HAa.out.stays hkb)
  obtain ⟨q3,qc3,rfl⟩:∃ a cap,y3=.slice a gs.length cap:=by obtain ⟨a,cap,e,_⟩:=hy3;exact ⟨_,_,e⟩
  clear hy3 hkb HAa HY1a HY2 HU2;generalize hm3:gs.length=m3 at HY3 ⊢;clear hm3
  have hcapA:qc1≤9223372036854775807∧m1≤qc1:=by
   obtain ⟨a,cap,e,h1,h2,_⟩:=HY1b.out
   injection e with e1 e2 e3
   unfold maxLen at h2;omega
  have hcap1:=hcapA.1;have hcap2:=hcapA.2;clear hcapA;go_wp2_with fail
  go_loopg [25,26] m1 (fun k v25 v26 wr=>∃ (i:Nat) (t:Int),i+k=m1∧v25=.int .i64 t∧v26=.int .i64 (i:Int)∧Hid (t=smF 0 ((enB A).take i))∧wr=wb)
  case atStart=>exact ⟨0,0,by omega,rfl,rfl,rfl,rfl⟩
  case round =>
   obtain ⟨i,t,hik,rfl,rfl,HT,rfl⟩:=hrel
   cases gk with
   | zero =>
     have hx:¬(i:Int)<(m1:Int):=by omega
     have HTt:Hid (t=Nr A):=by
      show t=_
      rw [HT.out,List.take_of_length_le (by have:=HM1.out;omega)]
      exact HTot.out
     have hnn:=Mo.Nr_nn HO.out.nn
     obtain ⟨n,hn⟩:∃ n:Nat,Nr A=(n:Int):=⟨(Nr A).toNat,by omega⟩
     have hn5:n≤50000000000:=by have:=HNr.out;omega
     have HTt2:t=(n:Int):=by rw [←hn];exact HTt.out
     subst HTt2
     have HTx:Hid (bagTxt (Mo.grpB [] none A)=if 0<n then 40::(Lib.decDigits n++[41,42,49]) else []):=by
      show _=_
      rw [HTxt.out,hn]
      have:Lib.itoa (n:Int)=Lib.decDigits n:=by unfold Lib.itoa;rw [if_neg (by omega)];rfl
      rw [this]
      by_cases h0:0<n
      ·rw [if_pos (by omega),if_pos h0]
      ·rw [if_neg (by omega),if_neg h0]
     clear HTt HTxt HTot HT hn hnn hik;obtain ⟨Dn,hDn⟩:∃ D:ByteArray,D=⟨(Lib.decDigits n).toArray⟩:=⟨_,rfl⟩
     have hDs:Dn.size≤15:=by
      rw [hDn]
      show (Lib.decDigits n).toArray.size≤15
      have:=dec_len 15 n (by omega) (by decide)
      simpa using this
     have HDec:=hid (decimal_any n wr (by omega))
     rw [←hDn] at HDec;have HDn:=hid hDn;clear hDn
     by_cases hcd:cd=0
     ·obtain ⟨hfs,us',hbd⟩:=HD1.out hcd
      have hm21:m2=m1:=by
       have h1:=HM2.out;have h2:=HM1.out;rw [hfs,once_len] at h1;omega
      subst hm21;subst hfs;subst hcd;have HOn:=hid (once_tm HWA.out hbd);clear hbd HD1 HM2
      rcases Classical.em (cg=0) with hcg | hcg
      case' inl =>
       have htg:=HCg.out hcg;rw [HTx.out] at htg;subst hcg
       by_cases hpos:0<n
       case' pos =>
        rw [if_pos hpos] at htg
        have hposI:(0:Int)<(n:Int):=by omega
        have hcat:(⟨#[40]⟩:ByteArray)++Dn++⟨#[41,42,49]⟩=⟨tg.toArray⟩:=by
         rw [htg,HDn.out]
         apply ByteArray.ext
         simp [ByteArray.data_append]
        clear htg hpos;go_wp2_with fail;refine HDec.out.mono ?_;rintro e wz ⟨rfl,hw⟩;rw [hw];clear hw;clear HDec;go_wp2_with fail
       case' neg =>
        rw [if_neg hpos] at htg;subst htg
        have hposI:¬(0:Int)<(n:Int):=by omega
        clear hpos HDec;go_wp2_with fail
      case' inr =>
       have hcg':(cg == 0)=false:=by simpa using hcg
       by_cases hpos:0<n
       case' pos =>
        have hposI:(0:Int)<(n:Int):=by omega
        clear hpos;go_wp2_with fail;refine HDec.out.mono ?_;rintro e wz ⟨rfl,hw⟩;rw [hw];clear hw;clear HDec;go_wp2_with fail
       case' neg =>
        have hposI:¬(0:Int)<(n:Int):=by omega
        clear hpos HDec;go_wp2_with fail
      all_goals
       obtain ⟨W9,hW9⟩:∃ W,W=wr:=⟨_,rfl⟩;rw [←hW9] at HY1b HY2b HY3 HBb ⊢;clear hW9
       go_loopg [28] m2 (fun k v28 wq=>∃ (i:Nat),i+k=m2∧v28=.int .i64 (i:Int)∧wq=W9)
       case atStart=>exact ⟨0,by omega,rfl,rfl⟩
       case round =>
        obtain ⟨j,hjk,rfl,rfl⟩:=hrel
        cases gk with
        | zero =>
          have hx2:¬(j:Int)<(m2:Int):=by omega
          go_wp2_with fail
          refine (added_any _ _ (enB A) (enB A) wr HY1b.out HY1b.out (by have:=enB_len HWA.out;omega)).mono ?_
          rintro e wh ⟨y4,rfl,hy4,hkh⟩;have HY4:=hid (EnAt.of_owns hy4);have HY3h:=hid (HY3.out.kept hkh);have HH:=hid (HBb.out.stays hkh)
          obtain ⟨q4,qc4,rfl⟩:∃ a cap,y4=.slice a (enB A++enB A).length cap:=by obtain ⟨a,cap,e,_⟩:=HY4.out;exact ⟨_,_,e⟩
          clear hy4 hkh HBb HY1b HY2b HY3;generalize hm4:(enB A++enB A).length=m4 at HY4 ⊢;clear hm4
          by_cases hcu:cu=0
          case pos =>
           have htm:=HU1.out hcu;subst hcu;go_wp2_with fail;refine (equal_any _ _ (enB A++enB A) gs wh HY4.out HY3h.out htm.1 htm.2).mono ?_;rintro e wi ⟨rfl,hki⟩;have HKi:=hid (HK2.out.seq (HH.out.stays hki).kept);clear hki HH HY4 HY3h htm HU1;go_wp2_with fail;go_ret;exact ⟨rfl,HKi.out⟩
          have hcu':(cu != 0)=true:=by simpa using hcu
          go_wp2_with fail;refine (equal_some _ _ (enB A++enB A) gs wh HY4.out HY3h.out).mono ?_;rintro e wi ⟨⟨bb,rfl⟩,hki⟩;have HKi:=hid (HK2.out.seq (HH.out.stays hki).kept);clear hki HH HY4 HY3h HU1;go_wp2_with fail;go_ret;exact ⟨rfl,HKi.out⟩
        | succ k =>
          have hx2:(j:Int)<(m2:Int):=by omega
          have hx02:(0:Int)≤(j:Int):=by omega
          obtain ⟨⟨er,et⟩,hr⟩:∃ r,(enB A)[j]? =some r:=⟨_,List.getElem?_eq_getElem (by have:=HM1.out;omega)⟩
          obtain ⟨b,o,rfl,hbl,c0,c1⟩:=HY1b.out.get j _ hr;have HTi:=hid (times_any _ (enB (Mo.distB A)) er _ HY2b.out)
          have h1:=HOn.out _ (List.mem_of_getElem? hr)
          rw [h1] at HTi;clear hr h1;go_wp2_with fail;refine HTi.out.mono ?_;rintro e wz ⟨rfl,hw⟩;rw [hw];clear HTi hw;go_wp2_with fail;go_roundg k
          case measure=>omega
          case rel=>exact ⟨j+1,by omega,by go_num,rfl⟩
     ·have hcd':(cd == 0)=false:=by simpa using hcd
      clear HD1
      rcases Classical.em (cg=0) with hcg | hcg
      case' inl =>
       have htg:=HCg.out hcg;rw [HTx.out] at htg;subst hcg
       by_cases hpos:0<n
       case' pos =>
        rw [if_pos hpos] at htg
        have hposI:(0:Int)<(n:Int):=by omega
        have hcat:(⟨#[40]⟩:ByteArray)++Dn++⟨#[41,42,49]⟩=⟨tg.toArray⟩:=by
         rw [htg,HDn.out]
         apply ByteArray.ext
         simp [ByteArray.data_append]
        clear htg hpos;go_wp2_with fail;refine HDec.out.mono ?_;rintro e wz ⟨rfl,hw⟩;rw [hw];clear hw;clear HDec;go_wp2_with fail
       case' neg =>
        rw [if_neg hpos] at htg;subst htg
        have hposI:¬(0:Int)<(n:Int):=by omega
        clear hpos HDec;go_wp2_with fail
      case' inr =>
       have hcg':(cg == 0)=false:=by simpa using hcg
       by_cases hpos:0<n
       case' pos =>
        have hposI:(0:Int)<(n:Int):=by omega
        clear hpos;go_wp2_with fail;refine HDec.out.mono ?_;rintro e wz ⟨rfl,hw⟩;rw [hw];clear hw;clear HDec;go_wp2_with fail
       case' neg =>
        have hposI:¬(0:Int)<(n:Int):=by omega
        clear hpos HDec;go_wp2_with fail
      all_goals
       refine (added_any _ _ (enB A) (enB A) wr HY1b.out HY1b.out (by have:=enB_len HWA.out;omega)).mono ?_
       rintro e wh ⟨y4,rfl,hy4,hkh⟩;have HY4:=hid (EnAt.of_owns hy4);have HY3h:=hid (HY3.out.kept hkh);have HH:=hid (HBb.out.stays hkh)
       obtain ⟨q4,qc4,rfl⟩:∃ a cap,y4=.slice a (enB A++enB A).length cap:=by obtain ⟨a,cap,e,_⟩:=HY4.out;exact ⟨_,_,e⟩
       clear hy4 hkh HBb HY1b HY2b HY3;generalize hm4:(enB A++enB A).length=m4 at HY4 ⊢;clear hm4
       by_cases hcu:cu=0
       case pos =>
        have htm:=HU1.out hcu;subst hcu;go_wp2_with fail;refine (equal_any _ _ (enB A++enB A) gs wh HY4.out HY3h.out htm.1 htm.2).mono ?_;rintro e wi ⟨rfl,hki⟩;have HKi:=hid (HK2.out.seq (HH.out.stays hki).kept);clear hki HH HY4 HY3h htm HU1;go_wp2_with fail;go_ret;exact ⟨rfl,HKi.out⟩
       have hcu':(cu != 0)=true:=by simpa using hcu
       go_wp2_with fail;refine (equal_some _ _ (enB A++enB A) gs wh HY4.out HY3h.out).mono ?_;rintro e wi ⟨⟨bb,rfl⟩,hki⟩;have HKi:=hid (HK2.out.seq (HH.out.stays hki).kept);clear hki HH HY4 HY3h HU1;go_wp2_with fail;go_ret;exact ⟨rfl,HKi.out⟩
   | succ k =>
     have hx:(i:Int)<(m1:Int):=by omega
     have hx0:(0:Int)≤(i:Int):=by omega
     obtain ⟨⟨er,et⟩,hr⟩:∃ r,(enB A)[i]? =some r:=⟨_,List.getElem?_eq_getElem (by have:=HM1.out;omega)⟩
     obtain ⟨b,o,rfl,hbl,c0,c1⟩:=HY1b.out.get i _ hr
     have HR:Hid (wrap64 (t+et)=smF 0 ((enB A).take (i+1))):=by
      show _=_
      rw [List.take_add_one,hr,HT.out];exact (smF_snoc (er,et) _ _).symm
     clear hr;go_wp2_with fail;go_roundg k
     case measure=>omega
     case rel=>exact ⟨i+1,_,by omega,rfl,by go_num,HR,rfl⟩
 ·obtain ⟨e1,e2⟩:=view_no hc
  obtain ⟨a1,t1,c1,st1,hv1⟩:∃ a1 t1 c1 st1,viewM st0 s=((a1,t1,c1),st1):=⟨_,_,_,_,rfl⟩;rw [hv1] at he h5 e1 hc;have e1':t1=[]:=e1;subst e1';have he':e=.returned (.tuple #[.int .i64 a1,.string ⟨#[]⟩,.int .i64 c1]):=he;subst he';have H7:=hid (HK2.out.seq h5.kept);have hc0:¬c1=0:=hc
  have hc':(c1 != 0)=true:=by simpa using hc0
  clear he h5 hv1 H4 HV0 HS0 hc e1 e2;go_wp2_with fail;go_ret;exact ⟨rfl,H7.out⟩
open Go.ChangeShapes Go.WideShapes Go.ChangeAt Go.RowKit Go.Deep
theorem env_counted {W:World} (h:laidMetH Tryz.prog Rows.countedRow.laid W):Env W:=by
 rw [MakeChecks.laidMetH_plain _ _ _ (by kernel_rfl)] at h
 obtain ⟨g,t,cs,fuel,p,hg,hty,hvar,hd⟩:=Lib.laidMet.reads h (n := "internal/strconv.uint64pow10") (d:=Rows.laid_internal_strconv_uint64pow10) (by simp [Rows.countedRow])
 have hg0:Tryz.prog.globalNamed "internal/strconv.uint64pow10"=some 1:=by kernel_rfl
 obtain rfl:=Option.some.inj (hg0.symm.trans hg)
 have hty0:(Tryz.prog.globals[1]?).map (·.type)=some 352:=by kernel_rfl
 obtain rfl:=Option.some.inj (hty0.symm.trans hty)
 have ed:(Rows.laid_internal_strconv_uint64pow10:DataW Unit)=Lib.tabData .u64 Lib.pow10Tab:=by kernel_rfl
 rw [ed] at hd
 show Lib.TabIs _ _ _ _ _
 unfold Lib.TabIs
 rw [hvar,←Lib.cells_of_tab Tryz.underlying352 Tryz.underlying300 (by kernel_rfl) (by kernel_rfl) hd]
theorem counted_lifted (os:Os) (started:os.Started) (H:Type) (enc:TypeId × Value→H) :
 ReturnsInHanded {} Tryz.checked os 10 .any (fun w args=>(Rows.countedSpec.pre enc Tryz.prog Tryz.f10 [] false w args∧laidMetH Tryz.prog Rows.countedRow.laid w)∧sizedMet enc Tryz.prog Tryz.f10 (OpenSpec.ofChange Rows.countedSpec) false w args)
  (Rows.countedSpec.post enc Tryz.prog Tryz.f10 false true false false):=by
 refine returnsInHanded_of_change_and (C:=Tryz.checked) (X:=fun w _=>laidMetH Tryz.prog Rows.countedRow.laid w) (fun _ _ _ hh h=>h.of_heap hh) Tryz.own started (by kernel_rfl) Tryz.func10
  (ChangeSpec.witness_shaped (enc:=enc) (C:=Tryz.checked) (os:=os) (X:=fun w _=>laidMetH Tryz.prog Rows.countedRow.laid w) false (World.laidAll Tryz.prog os Rows.countedRow.laid) #[.string ⟨#[]⟩,.slice none 0 0] 8 (World.laidAll_os _ _ _)
   (World.shaped_of_ZipB (by kernel_rfl) (by kernel_rfl)) (by kernel_rfl) (by kernel_rfl) (by kernel_rfl)
   (by rw [MakeChecks.laidMetH_plain _ _ _ (by kernel_rfl)];exact laidMet_laidAll _ (by kernel_rfl) (by kernel_rfl))) ?_
 intro W base args ds gs before hval0 hW _ hZ hL _;have hval:∀ (j:Nat) t v,Tryz.f10.params[j]? =some t→args[j]? =some v→Value.okWide Tryz.prog W .any base t v:=hval0;have hW':=hW;obtain ⟨p,q,hA0,hV,rfl,hfz,hnd⟩:=hW
 have hA:DataW.TrodAll enc Tryz.prog W 0 (fun _=>true) true Tryz.f10.params.toList args.toList ds p:=hA0
 rw [Tryz.params10] at hA hval;obtain ⟨v0,v1,d0,d1,p0,p1,rfl,rfl,rfl,h0,h1⟩:=trodAll_two hA;obtain ⟨rfl,rfl⟩:=trodVars_none hV;obtain ⟨s0,rfl,rfl,rfl,_⟩:=Go.ChangeMaps.open_string Tryz.underlying9 (hval 0 9 v0 rfl rfl) h0
 have hsz0:s0.size≤140737488355328:=by
  have:=sized_string hZ (j:=0) (t:=9) (bytes:=s0.data.toList) rfl rfl
  rw [ba_len] at this;unfold reachBytes at this;omega
 have k1:=h1
 have lt1:∀ x∈p1,x.block<W.heap.size:=by obtain ⟨m,hm⟩:=k1;exact DataW.trod_lt m _ _ _ hm
 obtain ⟨r1,hr1⟩:∃ rss,RawssAt W v1 rss:=by
  obtain ⟨a1,len1,cap1,rfl⟩:=okWide_slice Tryz.underlying25 (hval 1 25 v1 rfl rfl);obtain ⟨fuel,hf⟩:=h1
  exact rawss_of (by simpa [Value.cells] using hf)
 clear hA0 hval0
 refine (counted_any s0 v1 r1 W (env_counted hL) hsz0 hr1).mono fun e W' ⟨he,hk⟩=> ?_
 subst he;have bel:=hk.toBelow
 exact ⟨_,rfl,_,_,_,[],_,[],hW',trodAll_mk1 (shut_bool Tryz.underlying4 _),(trodAll_mk2 (Below.trod Tryz.laidOut (by kernel_rfl) (of_decide_eq_true (by kernel_rfl)) h0 bel (fun x hx=>by cases hx)) (Below.trod Tryz.laidOut (by kernel_rfl) (of_decide_eq_true (by kernel_rfl)) k1 bel lt1)),rfl,bel.frame _,fun h=>by cases h⟩
theorem counted_holds:Rows.CountedSaid :=
 OpenClaim.holds_of_wide 10 Tryz.f10 rfl rfl rfl rfl rfl rfl rfl ⟨rfl,rfl,rfl,rfl,rfl⟩ rfl rfl rfl rfl rfl (by kernel_rfl) Tryz.func10 (by kernel_rfl)
  (of_decide_eq_true (by kernel_rfl)) (by unfold Func.isWrapper;first | (rw [if_pos (by decide +kernel)];kernel_rfl) | (rw [if_neg (by decide +kernel)];exact ⟨rfl,rfl⟩))
  (fun os started H enc _=>counted_lifted os started H enc)
theorem counted_card:Rows.CountedCardSaid :=
 Claim7.holds_tied_plain_at .later [] [.data,.data,.data,.data,.sentinel,.sentinel,.pinned] true (true, "0d3c75a6b554341e587c90e6635eed0ee75e272e87a790cb3e947bc0305c5a0b") true
  counted_holds (fun _ h=>by cases h) (by kernel_rfl) (fun _ h=>by cases h) counted_row_tie rfl ⟨rfl,rfl⟩ (by kernel_rfl) rfl
  (fun f fn hf hfn=>by
    obtain rfl:f=10:=Option.some.inj ((show Tryz.prog.funcNamed "ripple/ripplekeep.Counted"=some 10 by kernel_rfl).symm.trans hf) |>.symm
    obtain rfl:fn=Tryz.f10:=(Option.some.inj (Tryz.func10.symm.trans hfn)).symm
    exact ⟨by kernel_rfl,fun j t ht=>by
     rw [Tryz.params10] at ht
     have hm:t∈[9,25]:=by simpa using Array.mem_of_getElem? ht
     have hall:([9,25].all fun u=> !Tryz.prog.wantsStandIn u)=true:=by kernel_rfl
     exact (show Tryz.prog.wantsStandIn t=false by simpa using List.all_eq_true.1 hall t hm)⟩)
  (by kernel_rfl)
end Go.Proofs.YtdinjjmcmfjbfaaGreatDoor
