import Derived.Test.YtdinjjmcmfjbfaaGreatDoorLeJ
set_option maxRecDepth 100000
set_option maxHeartbeats 4000000
namespace Go.Proofs.YtdinjjmcmfjbfaaGreatDoor
open Go.RowKit Go.Shelf
open Mo (V Row)
def TNames (w:World) (v:Value) (ts:List (Nat × List UInt8)):Prop:=∃ a cap,v=.slice a ts.length cap∧ts.length≤cap∧cap≤maxLen ∧
 ∀ i x,ts[i]? =some x→∃ b o,a=some ⟨b,o,none⟩∧b<w.heap.size∧x.1<w.heap.size∧w.cell? ⟨b,o+i,none⟩=some (.pointer (some ⟨x.1,0,none⟩))∧w.cell? ⟨x.1,2,none⟩=some (.string ⟨x.2.toArray⟩)
theorem TNames.kept {w w':World} {v:Value} {ts:List (Nat × List UInt8)} (h:TNames w v ts) (k:Kept No w w'):TNames w' v ts:=by
 obtain ⟨a,cap,e,h1,h2,h3⟩:=h
 refine ⟨a,cap,e,h1,h2,fun i x hx=> ?_⟩
 obtain ⟨b,o,e1,h4,h5,h6,h7⟩:=h3 i x hx
 exact ⟨b,o,e1,Nat.lt_of_lt_of_le h4 k.size,Nat.lt_of_lt_of_le h5 k.size,(k.cell h4 (fun z=>z)).trans h6,(k.cell h5 (fun z=>z)).trans h7⟩
def tfind:List (Nat × List UInt8)→List UInt8→Int
 | [],_=> -1
 | x::ts,nm=>if x.2=nm then 0 else if tfind ts nm= -1 then -1 else tfind ts nm+1
theorem tfind_ge:∀ (ts:List (Nat × List UInt8)) (nm:List UInt8),-1≤tfind ts nm
 | [],_=>by simp [tfind]
 | x::ts,nm=>by have:=tfind_ge ts nm;simp only [tfind];split <;> (try split) <;> omega
def tfrom (ts:List (Nat × List UInt8)) (nm:List UInt8) (i:Nat):Int:=if tfind (ts.drop i) nm= -1 then -1 else tfind (ts.drop i) nm+i
theorem tfrom_hit {ts:List (Nat × List UInt8)} {nm:List UInt8} {i:Nat} {x:Nat × List UInt8} (h:ts[i]? =some x) (hx:x.2=nm):tfrom ts nm i=i:=by
 unfold tfrom;rw [List.drop_eq_getElem_cons (List.getElem?_eq_some_iff.1 h).1,(List.getElem?_eq_some_iff.1 h).2]
 simp [tfind,hx]
theorem tfrom_miss {ts:List (Nat × List UInt8)} {nm:List UInt8} {i:Nat} {x:Nat × List UInt8} (h:ts[i]? =some x) (hx:x.2≠nm):tfrom ts nm i=tfrom ts nm (i+1):=by
 unfold tfrom;rw [List.drop_eq_getElem_cons (List.getElem?_eq_some_iff.1 h).1,(List.getElem?_eq_some_iff.1 h).2]
 have:=tfind_ge (ts.drop (i+1)) nm
 simp only [tfind,if_neg hx]
 by_cases hn:tfind (ts.drop (i+1)) nm= -1
 ·simp [hn]
 ·rw [if_neg hn,if_neg hn,if_neg (by omega)];omega
theorem tfrom_end (ts:List (Nat × List UInt8)) (nm:List UInt8):tfrom ts nm ts.length= -1:=by unfold tfrom;rw [List.drop_length];rfl
theorem tfrom_zero (ts:List (Nat × List UInt8)) (nm:List UInt8):tfrom ts nm 0=tfind ts nm:=by unfold tfrom;rw [List.drop_zero];split <;> omega
theorem ba_toList (l:List UInt8):(⟨l.toArray⟩:ByteArray).toList=l:=by rw [ByteArray.toList_eq]
theorem find1_any (tb Bn:Nat) (a nm:ByteArray) (w:World) (h1:w.cell? ⟨tb,2,none⟩=some (.string a)) (h2:w.cell? ⟨Bn,0,none⟩=some (.string nm)) :
 Calls Tryz.prog 99 #[.pointer (some ⟨tb,0,none⟩),.pointer (some ⟨Bn,0,none⟩)] w fun e w'=>e=.returned (.bool (a.toList == nm.toList))∧Kept No w w':=by
 go_enter Tryz.func99,Tryz.ntmps99
 go_wp2_with fail
 go_quiet (fail)
 go_wp2_with fail;go_ret;exact ⟨rfl,(Kept.refl _ _).drewN _⟩
theorem indexFunc_any (v:Value) (ts:List (Nat × List UInt8)) (Bn:Nat) (nm:List UInt8) (w:World) (h:TNames w v ts) (hl:ts.length≤1000) (hB:Bn<w.heap.size) (hn:w.cell? ⟨Bn,0,none⟩=some (.string ⟨nm.toArray⟩)) :
 Calls Tryz.prog 98 #[v,.func (.func 99) #[] #[.pointer (some ⟨Bn,0,none⟩)]] w fun e w'=>e=.returned (.int .i64 (tfind ts nm))∧Kept No w w':=by
 have H:=hid h;obtain ⟨a,cap,rfl,hc1,hc2,_⟩:=h;have HNm:=hid hn;obtain ⟨n,hnn⟩:∃ n,ts.length=n:=⟨_,rfl⟩;have HN:=hid hnn;rw [hnn] at hc1 hl;rw [hnn] at H;rw [hnn];clear hnn hn
 have hc3:cap≤9223372036854775807:=by unfold maxLen at hc2;omega
 clear hc2
 have e52:∀ args w,(callFunc 99 args).run Tryz.prog w=.ok (.enter 99 args) w:=enters_of Tryz.func99 (by kernel_rfl) rfl
 go_enter Tryz.func98,Tryz.ntmps98
 go_wp2_with fail
 go_loopg [8] n (fun k v8 wr=>∃ i:Nat,i+k=n∧v8=.int .i64 (i:Int)∧Hid (tfrom ts nm i=tfind ts nm)∧Kept No w wr)
 case atStart=>exact ⟨0,by omega,rfl,hid (tfrom_zero ts nm),Kept.refl _ _⟩
 case round =>
  obtain ⟨i,hik,rfl,hS,hK⟩:=hrel
  by_cases hk:gk=0
  ·subst hk
   have hx:¬(i:Int)<(n:Int):=by omega
   have HR:Hid (tfind ts nm= -1):=by
    show _=_
    rw [←hS.out,show i=ts.length by rw [HN.out];omega];exact tfrom_end ts nm
   have HK:=hid hK;clear hK;go_wp2_with fail;go_ret;exact ⟨ret_int HR.out.symm,HK.out⟩
  ·obtain ⟨k,rfl⟩:∃ k,gk=k+1:=⟨gk-1,by omega⟩
   have hx:(i:Int)<(n:Int):=by omega
   have hx0:(0:Int)≤(i:Int):=by omega
   obtain ⟨x,hxi⟩:∃ x,ts[i]? =some x:=⟨_,List.getElem?_eq_getElem (by have:=HN.out;omega)⟩
   have hT:TNames w (.slice a ts.length cap) ts:=by have:=H.out;rw [←HN.out] at this;exact this
   obtain ⟨_,_,e0,_,_,hcells⟩:=hT.kept hK
   injection e0 with e1 e2 e3
   subst e1;obtain ⟨b,o,rfl,hb1,hb2,c1,c2⟩:=hcells i x hxi
   have c3:wr.cell? ⟨Bn,0,none⟩=some (.string ⟨nm.toArray⟩):=(hK.cell hB (fun z=>z)).trans HNm.out
   have HK:=hid hK;clear hK hcells hT e2 e3;go_wp2_with fail;refine (find1_any x.1 Bn _ _ _ c2 c3).mono ?_;rintro e w1 ⟨rfl,hk1⟩;have HK1:Hid (Kept No w w1):=HK.out.seq hk1;clear hk1
   by_cases heq:x.2=nm
   ·have hq:((⟨x.2.toArray⟩:ByteArray).toList == (⟨nm.toArray⟩:ByteArray).toList)=true:=by rw [heq];simp
    have HR:Hid (tfind ts nm=i):=by show _=_;rw [←hS.out];exact tfrom_hit hxi heq
    rw [hq];go_wp2_with fail;go_ret;exact ⟨ret_int HR.out.symm,HK1.out⟩
   ·have hq:((⟨x.2.toArray⟩:ByteArray).toList == (⟨nm.toArray⟩:ByteArray).toList)=false:=by
     rw [beq_eq_false_iff_ne];intro e;apply heq;rw [ba_toList,ba_toList] at e;exact e
    have HS2:Hid (tfrom ts nm (i+1)=tfind ts nm):=by show _=_;rw [←hS.out,tfrom_miss hxi heq]
    rw [hq];go_wp2_with fail;go_roundg k
    case measure=>omega
    case rel=>exact ⟨i+1,by omega,by go_num,HS2,HK1.out⟩
theorem find_any (v:Value) (ts:List (Nat × List UInt8)) (nm:List UInt8) (w:World) (h:TNames w v ts) (hl:ts.length≤1000) :
 Calls Tryz.prog 60 #[v,.string ⟨nm.toArray⟩] w fun e w'=>e=.returned (.int .i64 (tfind ts nm))∧Kept No w w':=by
 have H:=hid h;clear h;have hk:Kept No w (w.alloc (.cells #[.string ⟨nm.toArray⟩] 9)):=(Kept.refl _ _).alloc _
 have HI:=hid (indexFunc_any v ts w.heap.size nm _ (H.out.kept hk) hl (by simp) (by rw [cell_of (MapKept.heap_alloc w _).1];rfl))
 have HK:=hid hk;clear hk
 go_enter Tryz.func60,Tryz.ntmps60
 go_wp2_with fail;refine HI.out.mono ?_;rintro e w1 ⟨rfl,hk1⟩;go_wp2_with fail;go_ret;exact ⟨rfl,HK.out.seq hk1⟩
open Mo (V Row Bag cnt canon Eqv OkB OkD)
theorem deliver_nil (ty:TypeId) (a:Addr) (w:World) :
 Calls Tryz.prog 47 #[.map none,.iface ty (.pointer (some a))] w fun e w'=>e=.returned (.tuple #[])∧w'=w:=by
 go_enter Tryz.func47,Tryz.ntmps47
 go_wp2_with fail;go_end0;exact ⟨rfl,rfl⟩
theorem table_walk (b c:Nat) (w:World) (Q:Ending→World→Prop) (h:Calls Tryz.prog 66 #[.pointer (some ⟨b,1,none⟩),.map (some c)] w fun e w1=>e=.returned (.tuple #[])∧Calls Tryz.prog 250 #[.pointer (some ⟨b,0,none⟩),.map (some c)] w1 fun e w2=>e=.returned (.tuple #[])∧Q e w2) :
 Calls Tryz.prog 251 #[.pointer (some ⟨b,0,none⟩),.map (some c)] w Q:=by
 have H:=hid h;clear h
 go_enter Tryz.func251,Tryz.ntmps251
 go_wp2_with fail;refine H.out.mono ?_;rintro e w1 ⟨rfl,h1⟩;have H1:=hid h1;clear h1 H;go_wp2_with fail;refine H1.out.mono ?_;rintro e w2 ⟨rfl,h2⟩;have H2:=hid h2;clear h2 H1;go_wp2_with fail;go_end0;exact H2.out
theorem table_ty:TyTake 101 251:=⟨fun _ _=>by kernel_rfl,fun _ _=>by kernel_rfl,enters_of Tryz.func251 (by kernel_rfl) rfl⟩
theorem tfind_get:∀ (ts:List (Nat × List UInt8)) (nm:List UInt8) (i:Nat),tfind ts nm=(i:Int)→∃ x,ts[i]? =some x∧x.2=nm
 | [],nm,i,h=>by simp only [tfind] at h;omega
 | x::ts,nm,i,h=>by
   simp only [tfind] at h
   by_cases hx:x.2=nm
   ·rw [if_pos hx] at h
    have:i=0:=by omega
    subst this;exact ⟨x,rfl,hx⟩
   ·rw [if_neg hx] at h
    have hg:=tfind_ge ts nm
    by_cases hn:tfind ts nm= -1
    ·rw [if_pos hn] at h;omega
    ·rw [if_neg hn] at h
     obtain ⟨k,rfl⟩:∃ k,i=k+1:=⟨i-1,by omega⟩
     obtain ⟨y,hy,hy2⟩:=tfind_get ts nm k (by omega)
     exact ⟨y,by simpa using hy,hy2⟩
theorem lead_leaf (P:Nat) (h:Hd) (hk:h.k=1) (lv iv v:Value) (ts:List (Nat × List UInt8)) (i:Nat) (tb:Nat) (ty:TypeId) (p:Addr) (w:World) (Q:Ending→World→Prop) (hP:w.heap[P]? =some (.cells (partC h lv iv) 139 (0,0))) (hN:TNames w v ts) (hl:ts.length≤1000) (hf:tfind ts h.nm=(i:Int)) (hi:ts[i]? =some (tb,h.nm))
 (hQ:∀ w1,Kept No w w1→Calls Tryz.prog 64 #[.pointer (some ⟨tb,0,none⟩),.iface ty (.pointer (some p))] w1 fun e w2=>e=.returned (.tuple #[])∧∃ mv,w2.cell? ⟨tb,1,none⟩=some (.map mv)∧Calls Tryz.prog 47 #[.map mv,.iface ty (.pointer (some p))] w2 fun e w3=>e=.returned (.tuple #[])∧Q e w3) :
 Calls Tryz.prog 39 #[v,.pointer (some ⟨P,0,none⟩),.iface ty (.pointer (some p))] w Q:=by
 have k0:=(part_cells hP).1;rw [hk] at k0;have k1:=(part_cells hP).2.2.2.2.2.2.2;have HF:=hid (find_any v ts h.nm w hN hl);rw [hf] at HF;have HN:=hid hN;have HI:=hid hi;have HQ:=hid hQ;have hil:i<ts.length:=(List.getElem?_eq_some_iff.1 hi).1;obtain ⟨a,cap,rfl,hc1,hc2,hcells⟩:=hN;obtain ⟨b,o,rfl,hb1,hb2,hb3,hb4⟩:=hcells i _ hi
 have hc3:cap≤9223372036854775807:=by unfold maxLen at hc2;omega
 have hx0:(0:Int)≤(i:Int):=by omega
 have hx1:(i:Int)<(ts.length:Int):=by omega
 have HB3:=hid hb3;clear hP hf hi hQ hcells hc2
 go_enter Tryz.func39,Tryz.ntmps39
 go_wp2_with fail;refine HF.out.mono ?_;rintro e w1 ⟨rfl,hk1⟩
 have c1:w1.cell? ⟨b,o+i,none⟩=some (.pointer (some ⟨tb,0,none⟩)):=(hk1.cell hb1 (fun e=>e)).trans HB3.out
 have HG:=hid (HQ.out w1 hk1);clear hk1 k0 k1 HF;go_wp2_with fail;refine HG.out.mono ?_;rintro e w2 ⟨rfl,mv,hcm,hq⟩;have HD:=hid hq;clear hq HG c1;go_wp2_with fail;refine HD.out.mono ?_;rintro e w3 ⟨rfl,hq⟩;have HE:=hid hq;clear hq HD hcm;go_wp2_with fail;go_end0;exact HE.out
def InsAt (w:World) (iv:Value) (ps:List Nat):Prop:=∃ g cap cs z,iv=.slice (some ⟨g,0,none⟩) ps.length cap∧w.heap[g]? =some (.cells cs 69 z)∧∀ (i:Nat) (x:Nat),ps[i]? =some x→cs[i]? =some (pV x)
theorem lead_node1 (P:Nat) (h:Hd) (hk:h.k≠1) (lv iv v:Value) (p1:Nat) (ty:TypeId) (p:Addr) (w:World) (Q:Ending→World→Prop) (hP:w.heap[P]? =some (.cells (partC h lv iv) 139 (0,0))) (hI:InsAt w iv [p1]) (T1:TypeId) (a1:Nat→Addr) (tb:TypeId) (c0:Array Value)
 (hL:Calls Tryz.prog 65 #[.pointer (some ⟨P,0,none⟩),.iface ty (.pointer (some p))] w (LdEnd tb c0 (.iface ty (.pointer (some p))) (fun b=>[.iface T1 (.pointer (some (a1 b)))]) w))
 (hQ:∀ w1 v',w1.heap[w.heap.size]? =some (.cells (c0.setIfInBounds 0 v') tb (0,0))→w1.ownsRow 0 143 1 v' 1 [.iface ty (.pointer (some p))]→(∀ k,v'.ownBlock=some k→w.heap.size<k)→Kept No w w1 →
   Calls Tryz.prog 39 #[v,pV p1,.iface T1 (.pointer (some (a1 w.heap.size)))] w1 fun e w2=>e=.returned (.tuple #[])∧Q e w2) :
 Calls Tryz.prog 39 #[v,.pointer (some ⟨P,0,none⟩),.iface ty (.pointer (some p))] w Q:=by
 have k0:=(part_cells hP).1
 have hk':((h.k:Int) == 1)=false:=by simp;omega
 have HP:=hid hP;have hPl:=lt_of_heap hP;have HL:=hid hL;have HQ:=hid hQ;obtain ⟨gi,ci,csi,zi,rfl,hgi,hci⟩:=hI;have HGI:=hid hgi;have hi0:csi[0]? =some (.pointer (some ⟨p1,0,none⟩)):=hci 0 p1 rfl;clear hP hL hQ hci hgi
 go_enter Tryz.func39,Tryz.ntmps39
 go_wp2_with fail;refine HL.out.mono ?_;rintro e w1 ⟨sv,v',rfl,hb1,ho1,hn1,⟨gs,cs,css,zs,rfl,hgs,hcs⟩,hfr,hk1⟩;have HG:=hid (HQ.out w1 v' hb1 ho1 hn1 hk1)
 have hP1:w1.heap[P]? =some (.cells (partC h lv (.slice (some ⟨gi,0,none⟩) 1 ci)) 139 (0,0)):=(hk1.block P hPl (fun e=>e)).trans HP.out
 have k1:w1.cell? ⟨P,28,none⟩=some (.slice (some ⟨gi,0,none⟩) 1 ci):=(part_cells hP1).2.2.2.2.2.2.1
 have k2:w1.cell? ⟨gi,0,none⟩=some (.pointer (some ⟨p1,0,none⟩)):=by
  rw [cell_of ((hk1.block gi (lt_of_heap HGI.out) (fun e=>e)).trans HGI.out)];exact hi0
 have k3:w1.cell? ⟨gs,0,none⟩=some (.iface T1 (.pointer (some (a1 w.heap.size)))):=by rw [cell_of hgs];exact hcs 0 _ rfl
 clear hb1 ho1 hn1 hk1 hgs hcs hP1 HL HQ k0 hfr;go_wp2_with fail;refine wp_loop_rounds 2 ?_;rw [rounds_succ];go_wp2_with fail;refine Calls.mono HG.out ?_;rintro e w2 ⟨rfl,hq⟩;have HE:=hid hq;clear hq HG k1 k2 k3;go_wp2_with fail;rw [rounds_succ];go_wp2_with fail;go_end0;exact HE.out
theorem lead_node2 (P:Nat) (h:Hd) (hk:h.k≠1) (lv iv v:Value) (p1 p2:Nat) (ty:TypeId) (p:Addr) (w:World) (Q:Ending→World→Prop) (hP:w.heap[P]? =some (.cells (partC h lv iv) 139 (0,0))) (hI:InsAt w iv [p1,p2]) (T1:TypeId) (a1 a2:Nat→Addr) (tb:TypeId) (c0:Array Value)
 (hL:Calls Tryz.prog 65 #[.pointer (some ⟨P,0,none⟩),.iface ty (.pointer (some p))] w (LdEnd tb c0 (.iface ty (.pointer (some p))) (fun b=>[.iface T1 (.pointer (some (a1 b))),.iface T1 (.pointer (some (a2 b)))]) w))
 (hQ:∀ w1 v' gs,w1.heap[w.heap.size]? =some (.cells (c0.setIfInBounds 0 v') tb (0,0))→w1.ownsRow 0 143 1 v' 1 [.iface ty (.pointer (some p))]→(∀ k,v'.ownBlock=some k→w.heap.size<k)→gs<w1.heap.size→w.heap.size<gs→v'.ownBlock≠some gs→Kept No w w1 →
   Calls Tryz.prog 39 #[v,pV p1,.iface T1 (.pointer (some (a1 w.heap.size)))] w1 fun e w2=>e=.returned (.tuple #[])∧w2.heap[gs]? =w1.heap[gs]?∧(∀ g,iv.ownBlock=some g→w2.heap[g]? =w1.heap[g]?) ∧
    Calls Tryz.prog 39 #[v,pV p2,.iface T1 (.pointer (some (a2 w.heap.size)))] w2 fun e w3=>e=.returned (.tuple #[])∧Q e w3) :
 Calls Tryz.prog 39 #[v,.pointer (some ⟨P,0,none⟩),.iface ty (.pointer (some p))] w Q:=by
 have k0:=(part_cells hP).1
 have hk':((h.k:Int) == 1)=false:=by simp;omega
 have HP:=hid hP;have hPl:=lt_of_heap hP;have HL:=hid hL;have HQ:=hid hQ;obtain ⟨gi,ci,csi,zi,rfl,hgi,hci⟩:=hI;have HGI:=hid hgi;have hi0:csi[0]? =some (.pointer (some ⟨p1,0,none⟩)):=hci 0 p1 rfl;have hi1:csi[1]? =some (.pointer (some ⟨p2,0,none⟩)):=hci 1 p2 rfl;clear hP hL hQ hci hgi
 go_enter Tryz.func39,Tryz.ntmps39
 go_wp2_with fail;refine HL.out.mono ?_;rintro e w1 ⟨sv,v',rfl,hb1,ho1,hn1,⟨gs,cs,css,zs,rfl,hgs,hcs⟩,hfr,hk1⟩;have HG:=hid (HQ.out w1 v' gs hb1 ho1 hn1 (lt_of_heap hgs) (hfr gs rfl).1 (hfr gs rfl).2 hk1)
 have hP1:w1.heap[P]? =some (.cells (partC h lv (.slice (some ⟨gi,0,none⟩) 2 ci)) 139 (0,0)):=(hk1.block P hPl (fun e=>e)).trans HP.out
 have k1:w1.cell? ⟨P,28,none⟩=some (.slice (some ⟨gi,0,none⟩) 2 ci):=(part_cells hP1).2.2.2.2.2.2.1
 have hgi1:=(hk1.block gi (lt_of_heap HGI.out) (fun e=>e)).trans HGI.out
 have k2:w1.cell? ⟨gi,0,none⟩=some (.pointer (some ⟨p1,0,none⟩)):=by rw [cell_of hgi1];exact hi0
 have k3:w1.cell? ⟨gs,0,none⟩=some (.iface T1 (.pointer (some (a1 w.heap.size)))):=by rw [cell_of hgs];exact hcs 0 _ rfl
 have HK4:Hid (w1.cell? ⟨gi,1,none⟩=some (.pointer (some ⟨p2,0,none⟩))):=by show _=_;rw [cell_of hgi1];exact hi1
 have HK5:Hid (w1.cell? ⟨gs,1,none⟩=some (.iface T1 (.pointer (some (a2 w.heap.size))))):=by show _=_;rw [cell_of hgs];exact hcs 1 _ rfl
 clear hb1 ho1 hn1 hk1 hgs hcs hP1 HL HQ k0 hfr hgi1;go_wp2_with fail;refine wp_loop_rounds 3 ?_;rw [rounds_succ];go_wp2_with fail;refine Calls.mono HG.out ?_;rintro e w2 ⟨rfl,hs2,hi2,hq⟩;have HG2:=hid hq;have k6:w2.cell? ⟨gi,1,none⟩=some (.pointer (some ⟨p2,0,none⟩)):=(World.cell?_of_block (hi2 gi rfl)).trans HK4.out;have k7:w2.cell? ⟨gs,1,none⟩=some (.iface T1 (.pointer (some (a2 w.heap.size)))):=(World.cell?_of_block hs2).trans HK5.out;clear hq HG k1 k2 k3 hs2 hi2;go_wp2_with fail;rw [rounds_succ];go_wp2_with fail;refine Calls.mono HG2.out ?_;rintro e w3 ⟨rfl,hq⟩;have HE:=hid hq;clear hq HG2 k6 k7;go_wp2_with fail;rw [rounds_succ];go_wp2_with fail;go_end0;exact HE.out
open Mo (V Row Bag cnt canon Eqv OkB OkD Q leaves bagQ)
structure TabS where
 blk:Nat
 name:List UInt8
 bag:Bag
 tks:List Tk
 tv:Value
def TabAt (w:World) (O:Ow) (X:TabS):Prop:=O X.blk=X.blk+2∧∃ v hv,w.heap[X.blk]? =some (.cells #[v,hv,.string ⟨X.name.toArray⟩,X.tv] 125 (0,0))∧w.ownsRow 0 143 1 v X.tks.length (X.tks.map Tk.val)∧(∀ k,v.ownBlock=some k→O k=X.blk+2)∧MemAt w O X.blk hv X.bag
theorem TabAt.stab {w w':World} {O O':Ow} {X:TabS} (h:TabAt w O X) (hk:∀ k,k<w.heap.size→O k=X.blk+2→w'.heap[k]? =w.heap[k]?∧O' k=O k):TabAt w' O' X:=by
 obtain ⟨h0,v,hv,h1,h2,h3,h4⟩:=h;have hb:=hk X.blk (lt_of_heap h1) h0
 have hl:∀ k,v.ownBlock=some k→k<w.heap.size:=fun k e=>by obtain ⟨c,z,hx⟩:=owns_mem h2 e;exact lt_of_heap hx
 exact ⟨hb.2.trans h0,v,hv,hb.1.trans h1,owns_blk h2 (fun k e=>(hk k (hl k e) (h3 k e)).1),fun k e=>((hk k (hl k e) (h3 k e)).2).trans (h3 k e),h4.stab hk⟩
structure TabsAt (w:World) (O:Ow) (v:Value) (id0:Nat) (xs:List TabS):Prop where
 slc:∃ a cap,v=.slice a xs.length cap∧xs.length≤cap∧cap≤maxLen∧∀ (i:Nat) (X:TabS),xs[i]? =some X→∃ b o,a=some ⟨b,o,none⟩∧b<w.heap.size∧O b=id0∧w.cell? ⟨b,o+i,none⟩=some (.pointer (some ⟨X.blk,0,none⟩))
 tab:∀ X∈xs,TabAt w O X
theorem TabsAt.names {w:World} {O:Ow} {v:Value} {id0:Nat} {xs:List TabS} (h:TabsAt w O v id0 xs):TNames w v (xs.map fun X=>(X.blk,X.name)):=by
 obtain ⟨a,cap,h1,h2,h3,h4⟩:=h.slc
 refine ⟨a,cap,by rw [List.length_map];exact h1,by rw [List.length_map];exact h2,h3,fun i x hx=> ?_⟩
 rw [List.getElem?_map] at hx;obtain ⟨X,hX,rfl⟩:=Option.map_eq_some_iff.1 hx;obtain ⟨b,o,e1,e2,e3,e4⟩:=h4 i X hX
 obtain ⟨_,v',hv,g1,_⟩:=h.tab X (List.mem_of_getElem? hX)
 exact ⟨b,o,e1,e2,lt_of_heap g1,e4,(cell_of g1 2).trans rfl⟩
theorem TabsAt.stab {w w':World} {O O':Ow} {v:Value} {id0:Nat} {xs:List TabS} (h:TabsAt w O v id0 xs) (hs:w.heap.size≤w'.heap.size) (hk:∀ k,k<w.heap.size→O k=id0∨(∃ X∈xs,O k=X.blk+2)→w'.heap[k]? =w.heap[k]?∧O' k=O k):TabsAt w' O' v id0 xs:=by
 obtain ⟨a,cap,h1,h2,h3,h4⟩:=h.slc
 refine ⟨⟨a,cap,h1,h2,h3,fun i X hX=> ?_⟩,fun X hX=>(h.tab X hX).stab fun k hk' e=>hk k hk' (.inr ⟨X,hX,e⟩)⟩
 obtain ⟨b,o,e1,e2,e3,e4⟩:=h4 i X hX
 have:=hk b e2 (.inl e3)
 exact ⟨b,o,e1,Nat.lt_of_lt_of_le e2 hs,this.2.trans e3,(World.cell?_of_block this.1).trans e4⟩
def addTk (xs:List TabS) (nm:List UInt8) (T:Tk):List TabS:=xs.map fun X=>if X.name=nm then { X with tks:=X.tks++[T] } else X
def addTks (xs:List TabS) (l:List (List UInt8 × Tk)):List TabS:=l.foldl (fun ys p=>addTk ys p.1 p.2) xs
def leafL:Q→Nd→Tk→List (List UInt8 × Tk)
 | .tab nm,_,T=>[(nm,T)]
 | .sel _ _ _ q,.one b t,_=>leafL q t (tSel b)
 | .pick _ q,.one b t,_=>leafL q t (tPick b)
 | .dist q,.one b t,_=>leafL q t (tDist b)
 | .grp _ _ q,.one b t,_=>leafL q t (tGrp b)
 | .join _ _ q r,.two b t u,_=>leafL q t (tSide b true)++leafL r u (tSide b false)
 | .uni q r,.two b t u,_=>leafL q t (tUni b)++leafL r u (tUni b)
 | _,_,_=>[]
def LeadEnd (q:Q) (T:Tk) (A:Nat→Prop) (R:World→Ow→Bag→Prop) (i:Nat) (F:Nat→Bag) (xs:List TabS) (v:Value) (id0:Nat) (w:World) (O:Ow) (e:Ending) (w':World):Prop :=
 e=.returned (.tuple #[])∧∃ (t:Nd) (O':Ow),Shape q t∧(nds t).Nodup∧(∀ b∈nds t,w.heap.size≤b∧b<w'.heap.size)∧R w' O' (bagQ F i q)∧Nodes q t T i F w' O'∧TabsAt w' O' v id0 (addTks xs (leafL q t T))∧(∀ k,k<w.heap.size→O' k=O k)∧Kept (fun k=>A (O k)∨∃ X∈xs,O k=X.blk+2) w w'
structure TabsOk (A:Nat→Prop) (id0:Nat) (xs:List TabS):Prop where
 nm:(xs.map (·.name)).Nodup
 bl:(xs.map (·.blk)).Nodup
 na:∀ X∈xs,¬A (X.blk+2)∧X.blk+2≠id0
 n0:¬A id0∧2≤id0
 len:xs.length≤1000
 tks:∀ X∈xs,X.tks.length≤1000000
theorem nodup_inj {α β:Type} {f:α→β}:∀ {l:List α},(l.map f).Nodup→∀ {x y:α},x∈l→y∈l→f x=f y→x=y
 | [],_,x,y,hx,_,_=>by cases hx
 | a::l,h,x,y,hx,hy,e=>by
   have hn:=List.nodup_cons.1 (by simpa using h:(f a::l.map f).Nodup)
   rcases List.mem_cons.1 hx with rfl | hx
   ·rcases List.mem_cons.1 hy with rfl | hy
    ·rfl
    ·exact absurd (List.mem_map.2 ⟨y,hy,e.symm⟩) hn.1
   ·rcases List.mem_cons.1 hy with e2 | hy
    ·subst e2
     exact absurd (List.mem_map.2 ⟨x,‹x∈l›,e⟩) hn.1
    ·exact nodup_inj hn.2 ‹x∈l› hy e
theorem tfind_some {xs:List TabS} {X:TabS} (hX:X∈xs):∃ i:Nat,tfind (xs.map fun X=>(X.blk,X.name)) X.name=(i:Int):=by
 induction xs with
 | nil=>cases hX
 | cons y ys ih =>
   simp only [List.map_cons,tfind]
   by_cases hy:y.name=X.name
   ·exact ⟨0,by simp [hy]⟩
   ·rcases List.mem_cons.1 hX with rfl | hX
    ·exact absurd rfl hy
    ·obtain ⟨i,hi⟩:=ih hX
     exact ⟨i+1,by rw [if_neg hy,hi,if_neg (by omega)];omega⟩
theorem lead_tab {T:Tk} {A:Nat→Prop} {ts:List Bool} {Gd:Bag→Prop} {R:World→Ow→Bag→Prop} (hT:TakesT T A ts Gd R) (P:Nat) (h:Hd) (hk:h.k=1) (lv iv v:Value) (i id0:Nat) (F:Nat→Bag) (xs:List TabS) (X:TabS) (hX:X∈xs) (hXn:X.name=h.nm) (hF:F i=X.bag) (hG0:Gd []) (hG1:Gd X.bag)
 (w:World) (O:Ow) (hP:w.heap[P]? =some (.cells (partC h lv iv) 139 (0,0))) (hR:R w O []) (hTb:TabsAt w O v id0 xs) (hTo:TabsOk A id0 xs) :
 Calls Tryz.prog 39 #[v,.pointer (some ⟨P,0,none⟩),T.val] w (LeadEnd (.tab h.nm) T A R i F xs v id0 w O):=by
 obtain ⟨ix,hix⟩:=tfind_some hX;rw [hXn] at hix;obtain ⟨y,hy1,hy2⟩:=tfind_get _ _ _ hix;rw [List.getElem?_map] at hy1;obtain ⟨Y,hY,rfl⟩:=Option.map_eq_some_iff.1 hy1
 have hYX:Y=X:=nodup_inj hTo.nm (List.mem_of_getElem? hY) hX (by show Y.name=X.name;rw [hXn];exact hy2)
 subst hYX;obtain ⟨hA,hi0⟩:=hTo.na Y hX;obtain ⟨hO0,v0,hv,hb,hown,hown0,hm⟩:=hTb.tab Y hX;have hbl:=lt_of_heap hb
 refine lead_leaf P h hk lv iv v _ ix Y.blk T.ty T.p w _ hP hTb.names (by rw [List.length_map];exact hTo.len) hix (by rw [List.getElem?_map,hY];simp [hXn]) fun w1 hk1=> ?_
 have hb1:w1.heap[Y.blk]? =some (.cells #[v0,hv,.string ⟨Y.name.toArray⟩,Y.tv] 125 (0,0)):=(hk1.block _ hbl (fun e=>e)).trans hb
 have hown1:w1.ownsRow 0 143 1 v0 (Y.tks.map Tk.val).length (Y.tks.map Tk.val):=by
  rw [List.length_map]
  exact owns_blk hown fun k e=>by obtain ⟨c,z,hx⟩:=owns_mem hown e;exact hk1.block k (lt_of_heap hx) (fun e=>e)
 refine (giveTo_any Y.blk _ 125 (by decide) v0 (Y.tks.map Tk.val) T.ty T.p w1 hb1 rfl hown1 (by rw [List.length_map];exact hTo.tks Y hX)).mono fun e w2 hG=> ?_
 obtain ⟨he,v',g1,g2,g3,g4⟩:=hG;refine ⟨he,?_⟩;have hb2:w2.heap[Y.blk]? =some (.cells #[v',hv,.string ⟨Y.name.toArray⟩,Y.tv] 125 (0,0)):=g1
 have hv0l:∀ k,v0.ownBlock=some k→k<w.heap.size:=fun k e=>by obtain ⟨c,z,hx⟩:=owns_mem hown e;exact lt_of_heap hx
 have hO2:∀ k,k<w.heap.size→oB w O (Y.blk+2) k=O k:=fun k hk'=>oB_old hk'
 have hk2:Kept (fun k=>O k=Y.blk+2) w w2:=hk1.trans g4 (fun _ e=>e.elim) (fun k hk' e=>by
  rcases e with rfl | e
  ·exact hO0
  ·exact hown0 k e)
 have hR2:R w2 (oB w O (Y.blk+2)) []:=hT.kept hR hk2 (fun k e=>⟨by rw [e];exact hA,by omega⟩) hO2
 have hm2:MemAt w2 (oB w O (Y.blk+2)) Y.blk hv Y.bag:=by
  refine ⟨hm.1.of_block fun k e=> ?_,fun k e=>by rw [hO2 k (hm.1.lt e)];exact hm.2 k e⟩
  have hl:=hm.1.lt e
  refine (g4.block k (Nat.lt_of_lt_of_le hl hk1.size) ?_).trans (hk1.block k hl (fun e=>e))
  rintro (rfl | e')
  ·exact hm.notCells e hb rfl
  ·obtain ⟨c,z,hx⟩:=owns_mem hown e'
   exact hm.notCells e hx rfl
 have hY2:TabAt w2 (oB w O (Y.blk+2)) { Y with tks:=Y.tks++[T] }:=by
  refine ⟨by show oB w O (Y.blk+2) Y.blk=_;rw [hO2 _ hbl];exact hO0,v',hv,hb2,?_,fun k e=> ?_,hm2⟩
  ·have:(Y.tks++[T]).map Tk.val=Y.tks.map Tk.val++[.iface T.ty (.pointer (some T.p))]:=by rw [List.map_append];rfl
   show w2.ownsRow 0 _ 1 v' (Y.tks++[T]).length ((Y.tks++[T]).map Tk.val)
   rw [this];have h5:=g2;rw [List.length_append,List.length_map] at h5;rw [List.length_append];exact h5
  ·rcases g3 k e with e' | e'
   ·rw [hO2 k (hv0l k e')];exact hown0 k e'
   ·exact oB_new (Nat.le_trans hk1.size e')
 have hTb2:TabsAt w2 (oB w O (Y.blk+2)) v id0 (addTk xs h.nm T):=by
  obtain ⟨a,cap,h1,h2,h3,h4⟩:=hTb.slc
  refine ⟨⟨a,cap,by unfold addTk;rw [List.length_map];exact h1,by unfold addTk;rw [List.length_map];exact h2,h3,fun j Z hZ=> ?_⟩,fun Z hZ=> ?_⟩
  ·unfold addTk at hZ
   rw [List.getElem?_map] at hZ;obtain ⟨Z0,hZ0,rfl⟩:=Option.map_eq_some_iff.1 hZ;obtain ⟨b,o,e1,e2,e3,e4⟩:=h4 j Z0 hZ0
   have hkb:=hk2.block b e2 (by rw [e3];exact fun e=>hi0 e.symm)
   refine ⟨b,o,e1,Nat.lt_of_lt_of_le e2 hk2.size,by rw [hO2 b e2];exact e3,?_⟩
   rw [World.cell?_of_block hkb,e4]
   split <;> rfl
  ·unfold addTk at hZ
   obtain ⟨Z0,hZ0,rfl⟩:=List.mem_map.1 hZ
   by_cases hn:Z0.name=h.nm
   ·have:Z0=Y:=nodup_inj hTo.nm hZ0 hX (by show Z0.name=Y.name;rw [hXn];exact hn)
    subst this;rw [if_pos hn];exact hY2
   ·rw [if_neg hn]
    refine (hTb.tab Z0 hZ0).stab fun k hk' e=>⟨hk2.block k hk' (fun e'=>hn ?_),hO2 k hk'⟩
    have:Z0=Y:=nodup_inj hTo.bl hZ0 hX (by show Z0.blk=Y.blk;omega)
    rw [this];exact hXn
 have hkk:Kept (fun k=>A (O k)∨∃ Z∈xs,O k=Z.blk+2) w w2:=hk2.mono fun k _ e=>.inr ⟨Y,hX,e⟩
 have fin:∀ w3 O3,(∀ k,k<w2.heap.size→O3 k=oB w O (Y.blk+2) k)→Kept (fun k=>A (oB w O (Y.blk+2) k)) w2 w3→R w3 O3 Y.bag→LeadEnd (.tab h.nm) T A R i F xs v id0 w O (.returned (.tuple #[])) w3:=fun w3 O3 q1 q2 q3=>by
  refine ⟨rfl,.leaf,O3,trivial,List.nodup_nil,(fun b hb'=>absurd hb' (by simp [nds])),(by show R w3 O3 (F i);rw [hF];exact q3),trivial,?_,fun k hk'=>(q1 k (Nat.lt_of_lt_of_le hk' hk2.size)).trans (hO2 k hk'),?_⟩
  ·show TabsAt w3 O3 v id0 (addTk xs h.nm T)
   refine hTb2.stab q2.size fun k hk' e=>⟨q2.block k hk' (fun ha=> ?_),q1 k hk'⟩
   rcases e with e | ⟨Z,hZ,e⟩
   ·rw [e] at ha;exact hTo.n0.1 ha
   ·unfold addTk at hZ
    obtain ⟨Z0,hZ0,rfl⟩:=List.mem_map.1 hZ
    have hbb:(if Z0.name=h.nm then ({ Z0 with tks:=Z0.tks++[T] }:TabS) else Z0).blk=Z0.blk:=by split <;> rfl
    rw [hbb] at e;rw [e] at ha;exact (hTo.na Z0 hZ0).1 ha
  ·refine hkk.trans q2 (fun _ e=>e) (fun k hk' e=>.inl ?_)
   rw [hO2 k hk'] at e;exact e
 rcases hm2.1 with ⟨rfl,hnil⟩ | ⟨c,rfl,hc⟩
 ·refine ⟨none,(cell_of hb2 1).trans rfl,(deliver_nil T.ty T.p w2).mono ?_⟩
  rintro e w3 ⟨rfl,rfl⟩
  refine ⟨rfl,fin w3 _ (fun _ _=>rfl) (Kept.refl _ _) (hT.eqv hR2 ?_)⟩
  have:=Mo.eqv_nil_append (b:=[]) hnil
  simpa using this
 ·refine ⟨some c,(cell_of hb2 1).trans rfl,?_⟩
  have hd:=hT.deliver (d:=Y.bag) (c:=c) hR2 hG0 (by simpa using hG1) hc (by rw [hm2.2 c rfl];exact hA)
  refine hd.mono fun e w3 hE=> ?_
  obtain ⟨he3,O3,q1,q2,q3⟩:=hE
  exact ⟨he3,by rw [he3];exact fin w3 O3 q1 q2 (by simpa using q3)⟩
theorem addTk_of {xs:List TabS} {nm:List UInt8} {T:Tk} {X:TabS} (h:X∈addTk xs nm T):∃ Y∈xs,Y.blk=X.blk∧Y.name=X.name∧Y.bag=X.bag∧X.tks.length≤Y.tks.length+1:=by
 unfold addTk at h;obtain ⟨Z,hZ,rfl⟩:=List.mem_map.1 h;refine ⟨Z,hZ,?_⟩
 split
 ·exact ⟨rfl,rfl,rfl,by simp⟩
 ·exact ⟨rfl,rfl,rfl,by omega⟩
theorem addTks_of:∀ {l:List (List UInt8 × Tk)} {xs:List TabS} {X:TabS},X∈addTks xs l→∃ Y∈xs,Y.blk=X.blk∧Y.name=X.name∧Y.bag=X.bag∧X.tks.length≤Y.tks.length+l.length
 | [],xs,X,h=>⟨X,h,rfl,rfl,rfl,by simp⟩
 | p::l,xs,X,h=>by
   obtain ⟨Y,hY,e1,e2,e3,e4⟩:=addTks_of (l:=l) (xs:=addTk xs p.1 p.2) h;obtain ⟨Z,hZ,f1,f2,f3,f4⟩:=addTk_of hY
   exact ⟨Z,hZ,f1.trans e1,f2.trans e2,f3.trans e3,by simp only [List.length_cons];omega⟩
theorem TabsAt.lt {w:World} {O:Ow} {v:Value} {id0:Nat} {xs:List TabS} (h:TabsAt w O v id0 xs) {X:TabS} (hX:X∈xs):X.blk<w.heap.size:=by
 obtain ⟨_,_,_,h1,_⟩:=h.tab X hX;exact lt_of_heap h1
def Old (w:World) (O:Ow):Prop:=∀ k,k<w.heap.size→O k<w.heap.size+2
theorem LeadEnd.norm {q:Q} {T:Tk} {A:Nat→Prop} {ts:List Bool} {Gd:Bag→Prop} {R:World→Ow→Bag→Prop} {i:Nat} {F:Nat→Bag} {xs:List TabS} {v:Value} {id0:Nat} {w:World} {O:Ow} {e:Ending} {w':World} (hE:LeadEnd q T A R i F xs v id0 w O e w') (hT:TakesT T A ts Gd R) (hA:∀ a,A a→a<w.heap.size+2) (hO:Old w O) (hid:id0<w.heap.size+2) (hxs:∀ X∈xs,X.blk<w.heap.size) :
 e=.returned (.tuple #[])∧∃ (t:Nd) (O':Ow),Shape q t∧(nds t).Nodup∧(∀ b∈nds t,w.heap.size≤b∧b<w'.heap.size)∧R w' O' (bagQ F i q)∧Nodes q t T i F w' O'∧TabsAt w' O' v id0 (addTks xs (leafL q t T))∧(∀ k,k<w.heap.size→O' k=O k)∧Kept (fun k=>A (O k)∨∃ X∈xs,O k=X.blk+2) w w'∧Old w' O':=by
 obtain ⟨he,t,O',h1,h2,h3,h4,h5,h6,h7,h8⟩:=hE;have hs:=h8.size
 refine ⟨he,t,fun k=>if O' k<w'.heap.size+2 then O' k else 0,h1,h2,h3,?_,?_,?_,fun k hk=> ?_,h8,fun k hk=> ?_⟩
 ·refine hT.stab h4 (Nat.le_refl _) fun k hk e=>⟨rfl,if_pos ?_⟩
  rcases e with e | e
  ·have:=hA _ e;omega
  ·omega
 ·refine Nodes.stab (Nat.le_refl _) q t T i (fun k hk e=>⟨rfl,if_pos ?_⟩) h5
  rcases e with ⟨b,hb,e⟩ | e
  ·have:=(h3 b hb).2;omega
  ·omega
 ·refine h6.stab (Nat.le_refl _) fun k hk e=>⟨rfl,if_pos ?_⟩
  rcases e with e | ⟨X,hX,e⟩
  ·omega
  ·obtain ⟨Y,hY,e1,_⟩:=addTks_of hX
   have:=hxs Y hY;omega
 ·have:=hO k hk
  show (if O' k<w'.heap.size+2 then O' k else 0)=O k
  rw [h7 k hk,if_pos (by omega)]
 ·show (if O' k<w'.heap.size+2 then O' k else 0)<_
  split
  ·assumption
  ·omega
def oP (w:World) (O:Ow) (v':Value):Ow:=fun k=>if k<w.heap.size then O k else if k=w.heap.size∨v'.ownBlock=some k then w.heap.size+2 else 0
theorem oP_old {w:World} {O:Ow} {v':Value} {k:Nat} (h:k<w.heap.size):oP w O v' k=O k:=if_pos h
theorem oP_b (w:World) (O:Ow) (v':Value):oP w O v' w.heap.size=w.heap.size+2:=by unfold oP;rw [if_neg (by omega),if_pos (.inl rfl)]
theorem oP_v {w:World} {O:Ow} {v':Value} {k:Nat} (h:v'.ownBlock=some k) (hk:w.heap.size<k):oP w O v' k=w.heap.size+2:=by unfold oP;rw [if_neg (by omega),if_pos (.inr h)]
theorem oP_z {w:World} {O:Ow} {v':Value} {k:Nat} (h:v'.ownBlock≠some k) (hk:w.heap.size<k):oP w O v' k=0:=by
 unfold oP;rw [if_neg (by omega),if_neg];rintro (e | e)
 ·omega
 ·exact h e
theorem Old.oP {w w1:World} {O:Ow} {v':Value} (h:Old w O) (hs:w.heap.size<w1.heap.size):Old w1 (oP w O v'):=fun k _=>by
 by_cases h1:k<w.heap.size
 ·rw [oP_old h1];have:=h k h1;omega
 ·unfold Go.Proofs.YtdinjjmcmfjbfaaGreatDoor.oP;rw [if_neg h1];split <;> omega
theorem TabsOk.more {A:Nat→Prop} {id0:Nat} {xs:List TabS} (h:TabsOk A id0 xs) {b:Nat} (hid:id0≠b+2) (hb:∀ X∈xs,X.blk≠b):TabsOk (fun a=>A a∨a=b+2) id0 xs :=
 ⟨h.nm,h.bl,fun X hX=>⟨fun e=>e.elim (h.na X hX).1 (fun e=>hb X hX (by omega)),(h.na X hX).2⟩,⟨fun e=>e.elim h.n0.1 hid,h.n0.2⟩,h.len,h.tks⟩
theorem lead_un {T:Tk} {A:Nat→Prop} {ts:List Bool} {Gd:Bag→Prop} {R:World→Ow→Bag→Prop} (hT:TakesT T A ts Gd R) {us:List Bool} {Gd1:Bag→Prop} (T1:Nat→Tk) (G:Bag→Bag) (At:World→Ow→Nat→Bag→Prop)
 (hT1:∀ b,¬A (b+2)→TakesT (T1 b) (fun a=>A a∨a=b+2) us Gd1 (fun w O B=>R w O (G B)∧At w O b B)) (hG0:Eqv [] (G [])) (tt:TypeId) (a1:Nat→Addr) (hv1:∀ b,(T1 b).val=.iface tt (.pointer (some (a1 b)))) (tb:TypeId) (c0:Array Value)
 (P:Nat) (h:Hd) (hk:h.k≠1) (lv iv v:Value) (p1 i id0:Nat) (F:Nat→Bag) (xs:List TabS) (q:Q) (w:World) (O:Ow) (hP:w.heap[P]? =some (.cells (partC h lv iv) 139 (0,0))) (hI:InsAt w iv [p1])
 (hL:Calls Tryz.prog 65 #[.pointer (some ⟨P,0,none⟩),T.val] w (LdEnd tb c0 T.val (fun b=>[.iface tt (.pointer (some (a1 b)))]) w))
 (hAt:∀ w1 O1 v',w1.heap[w.heap.size]? =some (.cells (c0.setIfInBounds 0 v') tb (0,0))→w1.ownsRow 0 143 1 v' 1 [T.val]→O1 w.heap.size=w.heap.size+2→(∀ k,v'.ownBlock=some k→O1 k=w.heap.size+2)→(∀ k,k<w.heap.size→O1 k=O k)→Kept No w w1→At w1 O1 w.heap.size [])
 (hR:R w O []) (hTb:TabsAt w O v id0 xs) (hTo:TabsOk A id0 xs) (hA:∀ a,A a→a<w.heap.size+2) (hO:Old w O) (hid:id0<w.heap.size+2)
 (hIH:∀ w1 O1,Kept No w w1→w.heap.size<w1.heap.size→(∀ k,k<w.heap.size→O1 k=O k)→Old w1 O1→TakesT (T1 w.heap.size) (fun a=>A a∨a=w.heap.size+2) us Gd1 (fun w' O' B=>R w' O' (G B)∧At w' O' w.heap.size B)→(R w1 O1 (G [])∧At w1 O1 w.heap.size [])→TabsAt w1 O1 v id0 xs→TabsOk (fun a=>A a∨a=w.heap.size+2) id0 xs →
   Calls Tryz.prog 39 #[v,pV p1,(T1 w.heap.size).val] w1 (LeadEnd q (T1 w.heap.size) (fun a=>A a∨a=w.heap.size+2) (fun w' O' B=>R w' O' (G B)∧At w' O' w.heap.size B) i F xs v id0 w1 O1)) :
 Calls Tryz.prog 39 #[v,.pointer (some ⟨P,0,none⟩),T.val] w fun e w'=>e=.returned (.tuple #[])∧∃ (t:Nd) (O':Ow),Shape q t∧(w.heap.size::nds t).Nodup∧(∀ b∈w.heap.size::nds t,w.heap.size≤b∧b<w'.heap.size)∧R w' O' (G (bagQ F i q))∧At w' O' w.heap.size (bagQ F i q)∧Nodes q t (T1 w.heap.size) i F w' O'∧TabsAt w' O' v id0 (addTks xs (leafL q t (T1 w.heap.size)))∧(∀ k,k<w.heap.size→O' k=O k)∧Kept (fun k=>A (O k)∨∃ X∈xs,O k=X.blk+2) w w':=by
 have hnA:¬A (w.heap.size+2):=fun e=>by have:=hA _ e;omega
 refine lead_node1 P h hk lv iv v p1 T.ty T.p w _ hP hI tt a1 tb c0 hL fun w1 v' hb ho hn hk1=> ?_
 have hsz:w.heap.size<w1.heap.size:=lt_of_heap hb
 have hold:∀ k,k<w.heap.size→oP w O v' k=O k:=fun k hk=>oP_old hk
 have hAt1:=hAt w1 (oP w O v') v' hb ho (oP_b _ _ _) (fun k e=>oP_v e (hn k e)) hold hk1
 have hR1:R w1 (oP w O v') (G []):=hT.eqv (hT.kept hR hk1 (fun k e=>e.elim) hold) hG0
 have hTb1:TabsAt w1 (oP w O v') v id0 xs:=hTb.stab hk1.size fun k hk _=>⟨hk1.block k hk (fun e=>e),hold k hk⟩
 have hTo1:=hTo.more (b:=w.heap.size) (by omega) (fun X hX=>by have:=hTb.lt hX;omega)
 have hC:=hIH w1 (oP w O v') hk1 hsz hold (hO.oP hsz) (hT1 _ hnA) ⟨hR1,hAt1⟩ hTb1 hTo1;rw [hv1] at hC
 refine hC.mono fun e w2 hE=> ?_
 obtain ⟨he,t,O',h1,h2,h3,⟨h4,h5⟩,h6,h7,h8,h9⟩:=hE
 refine ⟨he,he,t,O',h1,List.nodup_cons.2 ⟨fun e=> ?_,h2⟩,fun b hb'=> ?_,h4,h5,h6,h7,fun k hk=> ?_,?_⟩
 ·have:=(h3 _ e).1;omega
 ·rcases List.mem_cons.1 hb' with rfl | hb'
  ·exact ⟨Nat.le_refl _,Nat.lt_of_lt_of_le hsz h9.size⟩
  ·have:=h3 b hb';exact ⟨by omega,this.2⟩
 ·exact (h8 k (by omega)).trans (hold k hk)
 ·refine hk1.trans h9 (fun _ e=>e.elim) fun k hk e=> ?_
  rw [hold k hk] at e
  rcases e with (e | e) | e
  ·exact .inl e
  ·have:=hO k hk;omega
  ·exact .inr e
open Mo (V Row Bag cnt canon Eqv OkB OkD Q Opd leaves bagQ pickB)
theorem own1 {w:World} {v T:Value} (h:w.ownsRow 0 143 1 v 1 [T]):∃ g cap,v=tkS g cap∧∀ (O:Ow) (b:Nat),(∀ k,v.ownBlock=some k→O k=b+2)→TkAt w O b g T:=by
 rcases h.2 with ⟨_,h1⟩ | ⟨g,cap,cur,rfl,_,hg,hc1,_,hc2,hc3⟩
 ·cases h1
 ·refine ⟨g,cap,rfl,fun O b hO=>⟨hO g rfl,cur,_,hg,?_⟩⟩
  have h0:(cur.toList.take (1*1))[0]? =some T:=by rw [hc3];rfl
  rw [List.getElem?_take] at h0
  simpa using h0
theorem canon_nil:canon ([]:Bag)=[]:=rfl
theorem MemAt.none (w:World) (O:Ow) (b:Nat):MemAt w O b (.map none) []:=⟨.inl ⟨rfl,canon_nil⟩,fun k e=>by cases e⟩
section
variable {w:World} {O:Ow} {b:Nat} {v' T:Value} (ho:w.ownsRow 0 143 1 v' 1 [T]) (hO:O b=b+2) (hv:∀ k,v'.ownBlock=some k→O k=b+2)
include ho hO hv
theorem dist_new (hb:w.heap[b]? =some (.cells ((#[sN,.map none]:Array Value).setIfInBounds 0 v') 283 (0,0))):DistAt w O b T []:=by
 obtain ⟨g,cap,rfl,hk⟩:=own1 ho;exact ⟨hO,g,cap,.map none,hb,hk O b hv,MemAt.none _ _ _⟩
theorem uni_new (hb:w.heap[b]? =some (.cells ((#[sN]:Array Value).setIfInBounds 0 v') 289 (0,0))):UniAt w O b T:=by
 obtain ⟨g,cap,rfl,hk⟩:=own1 ho;exact ⟨hO,g,cap,hb,hk O b hv⟩
theorem sel_new {n:Nat} {l r:Opd} (hb:w.heap[b]? =some (.cells ((selC sN n l r).setIfInBounds 0 v') 277 (0,0))):SelAt w O b T n l r:=by
 obtain ⟨g,cap,rfl,hk⟩:=own1 ho;exact ⟨hO,g,cap,hb,hk O b hv⟩
theorem pick_new {cv:Value} {cs:List Nat} (hb:w.heap[b]? =some (.cells ((#[sN,cv]:Array Value).setIfInBounds 0 v') 280 (0,0))) (hc:ColsAt w O cv cs):PickAt w O b T cs:=by
 obtain ⟨g,cap,rfl,hk⟩:=own1 ho;exact ⟨hO,g,cap,cv,hb,hk O b hv,hc⟩
theorem grp_new {cv:Value} {cs:List Nat} {s:Option Nat} {x:Opd} (hb:w.heap[b]? =some (.cells ((grpC sN (.map none) (.map none) cv x).setIfInBounds 0 v') 286 (0,0))) (hc:ColsAt w O cv cs):GrpAt w O b T cs s x []:=by
 obtain ⟨g,cap,rfl,hk⟩:=own1 ho
 refine ⟨hO,g,cap,.map none,.map none,cv,hb,hk O b hv,MemAt.none _ _ _,MemAt.none _ _ _,hc,fun k e=>by cases e⟩
theorem join_new {c c2:Nat} (hb:w.heap[b]? =some (.cells ((jC sN (.map none) (.map none) c c2 b).setIfInBounds 0 v') 240 (0,0))):JAt w O b T true c c2 [] []:=by
 obtain ⟨g,cap,rfl,hk⟩:=own1 ho
 refine ⟨hO,g,cap,.map none,.map none,fun _=>none,fun _=>none,hb,hk O b hv,.inl ⟨rfl,canon_nil,fun _=>rfl⟩,.inl ⟨rfl,canon_nil,fun _=>rfl⟩,fun k e=> ?_⟩
 rcases e with e | ⟨_,e⟩ <;> cases e
end
theorem cols_at {w:World} {O:Ow} {X:Nat→Prop} {lv:Value} {cs:List Nat} (h:w.ownsRow 0 3 1 lv cs.length (ints cs)) (hX:∀ b,lv.ownBlock=some b→X b) (h1:∀ k,X k→O k=1):ColsAt w O lv cs:=by
 refine ⟨?_,fun k e=>h1 k (hX k e)⟩
 rcases h.2 with ⟨e,hn⟩ | ⟨g,cap,cur,rfl,_,hg,hc1,_,hc2,hc3⟩
 ·exact .inl ⟨e,List.eq_nil_of_length_eq_zero hn⟩
 ·refine .inr ⟨g,0,cap,rfl,lt_of_heap hg,fun i c hi=> ?_⟩
  have hl:i<cs.length:=(List.getElem?_eq_some_iff.1 hi).1
  have h0:(cur.toList.take (cs.length*1))[i]? =some (.int .i64 (c:Int)):=by rw [hc3];unfold ints;rw [List.getElem?_map,hi];rfl
  rw [List.getElem?_take,if_pos (by omega)] at h0
  rw [Nat.zero_add,cell_of hg]
  simpa using h0
theorem leafL_len:∀ (q:Q) (t:Nd) (T:Tk),Shape q t→(leafL q t T).length=(leaves q).length
 | .tab _,.leaf,_,_=>rfl
 | .sel _ _ _ q,.one b t,_,h=>leafL_len q t (tSel b) h
 | .pick _ q,.one b t,_,h=>leafL_len q t (tPick b) h
 | .dist q,.one b t,_,h=>leafL_len q t (tDist b) h
 | .grp _ _ q,.one b t,_,h=>leafL_len q t (tGrp b) h
 | .join _ _ q r,.two b t u,_,h=>by simp only [leafL,leaves,List.length_append];rw [leafL_len q t _ h.1,leafL_len r u _ h.2]
 | .uni q r,.two b t u,_,h=>by simp only [leafL,leaves,List.length_append];rw [leafL_len q t _ h.1,leafL_len r u _ h.2]
theorem addTk_map {β:Type} (g:TabS→β) (hg:∀ (X:TabS) (l:List Tk),g { X with tks:=l }=g X) (xs:List TabS) (nm:List UInt8) (T:Tk):(addTk xs nm T).map g=xs.map g:=by
 unfold addTk;rw [List.map_map]
 refine List.map_congr_left fun X _=> ?_
 show g (if X.name=nm then _ else X)=g X
 split
 ·exact hg X _
 ·rfl
theorem addTks_map {β:Type} (g:TabS→β) (hg:∀ (X:TabS) (l:List Tk),g { X with tks:=l }=g X):∀ (l:List (List UInt8 × Tk)) (xs:List TabS),(addTks xs l).map g=xs.map g
 | [],_=>rfl
 | p::l,xs=>(addTks_map g hg l (addTk xs p.1 p.2)).trans (addTk_map g hg xs p.1 p.2)
theorem addTks_append (xs:List TabS) (l m:List (List UInt8 × Tk)):addTks xs (l++m)=addTks (addTks xs l) m:=List.foldl_append ..
theorem addTks_in {l:List (List UInt8 × Tk)} {xs:List TabS} {X:TabS} (h:X∈xs):∃ Y∈addTks xs l,Y.name=X.name∧Y.bag=X.bag:=by
 have hm:(X.name,X.bag)∈(addTks xs l).map (fun Y=>(Y.name,Y.bag)):=by
  rw [addTks_map (fun Y=>(Y.name,Y.bag)) (fun _ _=>rfl)];exact List.mem_map.2 ⟨X,h,rfl⟩
 obtain ⟨Y,hY,e⟩:=List.mem_map.1 hm
 injection e with e1 e2
 exact ⟨Y,hY,e1,e2⟩
theorem TabsOk.adds {A:Nat→Prop} {id0:Nat} {xs:List TabS} (h:TabsOk A id0 xs) (l:List (List UInt8 × Tk)) {B:Nat→Prop} (hB0:¬B id0) (hB:∀ X∈xs,¬B (X.blk+2)) (hl:∀ X∈xs,X.tks.length+l.length≤1000000):TabsOk B id0 (addTks xs l):=by
 refine ⟨by rw [addTks_map (·.name) (fun _ _=>rfl)];exact h.nm,by rw [addTks_map (·.blk) (fun _ _=>rfl)];exact h.bl,fun X hX=> ?_,⟨hB0,h.n0.2⟩,?_,fun X hX=> ?_⟩
 ·obtain ⟨Y,hY,e,_⟩:=addTks_of hX
  rw [←e];exact ⟨hB Y hY,(h.na Y hY).2⟩
 ·have:=congrArg List.length (addTks_map (·.name) (fun _ _=>rfl) l xs)
  simp only [List.length_map] at this;rw [this];exact h.len
 ·obtain ⟨Y,hY,_,_,_,e⟩:=addTks_of hX
  have:=hl Y hY;omega
theorem lead_bin {T:Tk} {A:Nat→Prop} {ts:List Bool} {Gd:Bag→Prop} {R:World→Ow→Bag→Prop} (hT:TakesT T A ts Gd R) {us1 us2:List Bool} {Gd1 Gd2:Bag→Prop} (T1 T2:Nat→Tk) (G:Bag→Bag→Bag) (At:World→Ow→Nat→Bag→Bag→Prop) (i:Nat) (F:Nat→Bag) (q r:Q)
 (hT1:∀ b,¬A (b+2)→TakesT (T1 b) (fun a=>A a∨a=b+2) us1 Gd1 (fun w O B=>R w O (G B [])∧At w O b B []))
 (hT2:∀ b,¬A (b+2)→TakesT (T2 b) (fun a=>A a∨a=b+2) us2 Gd2 (fun w O B=>R w O (G (bagQ F i q) B)∧At w O b (bagQ F i q) B))
 (hG0:Eqv [] (G [] [])) (tt:TypeId) (a1 a2:Nat→Addr) (hv1:∀ b,(T1 b).val=.iface tt (.pointer (some (a1 b)))) (hv2:∀ b,(T2 b).val=.iface tt (.pointer (some (a2 b)))) (tb:TypeId) (c0:Array Value)
 (P:Nat) (h:Hd) (hk:h.k≠1) (lv iv v:Value) (p1 p2 id0:Nat) (xs:List TabS) (w:World) (O:Ow) (hP:w.heap[P]? =some (.cells (partC h lv iv) 139 (0,0))) (hI:InsAt w iv [p1,p2]) (hIv:∀ g,iv.ownBlock=some g→g<w.heap.size∧O g=1)
 (hL:Calls Tryz.prog 65 #[.pointer (some ⟨P,0,none⟩),T.val] w (LdEnd tb c0 T.val (fun b=>[.iface tt (.pointer (some (a1 b))),.iface tt (.pointer (some (a2 b)))]) w))
 (hAt:∀ w1 O1 v',w1.heap[w.heap.size]? =some (.cells (c0.setIfInBounds 0 v') tb (0,0))→w1.ownsRow 0 143 1 v' 1 [T.val]→O1 w.heap.size=w.heap.size+2→(∀ k,v'.ownBlock=some k→O1 k=w.heap.size+2)→At w1 O1 w.heap.size [] [])
 (hR:R w O []) (hTb:TabsAt w O v id0 xs) (hTo:TabsOk A id0 xs) (hlen:∀ X∈xs,X.tks.length+(leaves q).length≤1000000) (hA:∀ a,A a→a<w.heap.size+2) (hO:Old w O) (hid:id0<w.heap.size+2)
 (hIH1:∀ w1 O1,Kept No w w1→w.heap.size<w1.heap.size→(∀ k,k<w.heap.size→O1 k=O k)→Old w1 O1→TakesT (T1 w.heap.size) (fun a=>A a∨a=w.heap.size+2) us1 Gd1 (fun w' O' B=>R w' O' (G B [])∧At w' O' w.heap.size B [])→(R w1 O1 (G [] [])∧At w1 O1 w.heap.size [] [])→TabsAt w1 O1 v id0 xs→TabsOk (fun a=>A a∨a=w.heap.size+2) id0 xs →
   Calls Tryz.prog 39 #[v,pV p1,(T1 w.heap.size).val] w1 (LeadEnd q (T1 w.heap.size) (fun a=>A a∨a=w.heap.size+2) (fun w' O' B=>R w' O' (G B [])∧At w' O' w.heap.size B []) i F xs v id0 w1 O1))
 (hIH2:∀ t w2 O2,(∀ k,k<w.heap.size→O k=1→w2.heap[k]? =w.heap[k]?)→w.heap.size<w2.heap.size→(∀ k,k<w.heap.size→O2 k=O k)→Old w2 O2→(∀ a,((A a∨a=w.heap.size+2)∨∃ x∈nds t,a=x+2)→a<w2.heap.size+2)→TakesT (T2 w.heap.size) (fun a=>(A a∨a=w.heap.size+2)∨∃ x∈nds t,a=x+2) us2 Gd2 (fun w' O' B=>(R w' O' (G (bagQ F i q) B)∧At w' O' w.heap.size (bagQ F i q) B)∧Nodes q t (T1 w.heap.size) i F w' O') →
   ((R w2 O2 (G (bagQ F i q) [])∧At w2 O2 w.heap.size (bagQ F i q) [])∧Nodes q t (T1 w.heap.size) i F w2 O2)→(leafL q t (T1 w.heap.size)).length=(leaves q).length→TabsAt w2 O2 v id0 (addTks xs (leafL q t (T1 w.heap.size)))→TabsOk (fun a=>(A a∨a=w.heap.size+2)∨∃ x∈nds t,a=x+2) id0 (addTks xs (leafL q t (T1 w.heap.size))) →
   Calls Tryz.prog 39 #[v,pV p2,(T2 w.heap.size).val] w2 (LeadEnd r (T2 w.heap.size) (fun a=>(A a∨a=w.heap.size+2)∨∃ x∈nds t,a=x+2) (fun w' O' B=>(R w' O' (G (bagQ F i q) B)∧At w' O' w.heap.size (bagQ F i q) B)∧Nodes q t (T1 w.heap.size) i F w' O') (i+(leaves q).length) F (addTks xs (leafL q t (T1 w.heap.size))) v id0 w2 O2)) :
 Calls Tryz.prog 39 #[v,.pointer (some ⟨P,0,none⟩),T.val] w fun e w'=>e=.returned (.tuple #[])∧∃ (t u:Nd) (O':Ow),(Shape q t∧Shape r u)∧(w.heap.size::(nds t++nds u)).Nodup∧(∀ b∈w.heap.size::(nds t++nds u),w.heap.size≤b∧b<w'.heap.size)∧R w' O' (G (bagQ F i q) (bagQ F (i+(leaves q).length) r))∧(At w' O' w.heap.size (bagQ F i q) (bagQ F (i+(leaves q).length) r)∧Nodes q t (T1 w.heap.size) i F w' O'∧Nodes r u (T2 w.heap.size) (i+(leaves q).length) F w' O') ∧
  TabsAt w' O' v id0 (addTks xs (leafL q t (T1 w.heap.size)++leafL r u (T2 w.heap.size)))∧(∀ k,k<w.heap.size→O' k=O k)∧Kept (fun k=>A (O k)∨∃ X∈xs,O k=X.blk+2) w w':=by
 have hnA:¬A (w.heap.size+2):=fun e=>by have:=hA _ e;omega
 refine lead_node2 P h hk lv iv v p1 p2 T.ty T.p w _ hP hI tt a1 a2 tb c0 hL fun w1 v' gs hb ho hn hgs1 hgs2 hgs3 hk1=> ?_
 have hsz:w.heap.size<w1.heap.size:=lt_of_heap hb
 have hold:∀ k,k<w.heap.size→oP w O v' k=O k:=fun k hk=>oP_old hk
 have hAt1:=hAt w1 (oP w O v') v' hb ho (oP_b _ _ _) (fun k e=>oP_v e (hn k e))
 have hR1:R w1 (oP w O v') (G [] []):=hT.eqv (hT.kept hR hk1 (fun k e=>e.elim) hold) hG0
 have hTb1:TabsAt w1 (oP w O v') v id0 xs:=hTb.stab hk1.size fun k hk _=>⟨hk1.block k hk (fun e=>e),hold k hk⟩
 have hXb:∀ X∈xs,X.blk<w.heap.size:=fun X hX=>hTb.lt hX
 have hTo1:=hTo.more (b:=w.heap.size) (by omega) (fun X hX=>by have:=hXb X hX;omega)
 have hOl1:Old w1 (oP w O v'):=hO.oP hsz;have hC:=hIH1 w1 (oP w O v') hk1 hsz hold hOl1 (hT1 _ hnA) ⟨hR1,hAt1⟩ hTb1 hTo1;rw [hv1] at hC
 refine hC.mono fun e w2 hE=> ?_
 obtain ⟨he,t,O2,h1,h2,h3,⟨h4,h5⟩,h6,h7,h8,h9,h10⟩:=hE.norm (hT1 _ hnA) (fun a ha=>by
  rcases ha with ha | ha
  ·have:=hA a ha;omega
  ·omega) hOl1 (by omega) (fun X hX=>by have:=hXb X hX;omega)
 have hs2:=h9.size
 have hold2:∀ k,k<w.heap.size→O2 k=O k:=fun k hk=>(h8 k (by omega)).trans (hold k hk)
 have not1:∀ k,oP w O v' k≤1→¬((A (oP w O v' k)∨oP w O v' k=w.heap.size+2)∨∃ X∈xs,oP w O v' k=X.blk+2):=fun k hk e=>by
  rcases e with (e | e) | ⟨X,_,e⟩
  ·have:oP w O v' k=0∨oP w O v' k=1:=by omega
   rcases this with h0 | h0
   ·rw [h0] at e;exact hT.zero e
   ·rw [h0] at e;exact hT.one e
  ·omega
  ·omega
 have hfr:∀ k,k<w.heap.size→O k=1→w2.heap[k]? =w.heap[k]? :=fun k hk e=>(h9.block k (by omega) (not1 k (by rw [hold k hk];omega))).trans (hk1.block k hk (fun e=>e))
 refine ⟨he,h9.block gs hgs1 (not1 gs (by rw [oP_z hgs3 hgs2];omega)),fun g hg=> ?_,?_⟩
 ·obtain ⟨g1,g2⟩:=hIv g hg
  exact h9.block g (by omega) (not1 g (by rw [hold g g1];omega))
 ·have hll:=leafL_len q t (T1 w.heap.size) h1
  have hF:=Takes.frame (hT2 _ hnA) (fun a=>∃ x∈nds t,a=x+2) (fun w' O'=>Nodes q t (T1 w.heap.size) i F w' O') (fun ⟨x,_,e⟩=>by omega) (fun ⟨x,_,e⟩=>by omega) (fun a ha ⟨x,hx,e⟩=>by
   have:=(h3 x hx).1
   rcases ha with ha | ha
   ·have:=hA a ha;omega
   ·omega) (fun hN hs hk=>Nodes.stab hs q t _ _ hk hN)
  have hTo2:=hTo.adds (leafL q t (T1 w.heap.size)) (B:=fun a=>(A a∨a=w.heap.size+2)∨∃ x∈nds t,a=x+2) (fun e=>by
   rcases e with (e | e) | ⟨x,hx,e⟩
   ·exact hTo.n0.1 e
   ·omega
   ·have:=(h3 x hx).1;omega) (fun X hX e=>by
   have:=hXb X hX
   rcases e with (e | e) | ⟨x,hx,e⟩
   ·exact (hTo.na X hX).1 e
   ·omega
   ·have:=(h3 x hx).1;omega) (fun X hX=>by rw [hll];exact hlen X hX)
  have hC2:=hIH2 t w2 O2 hfr (by omega) hold2 h10 (fun a ha=>by
   rcases ha with (ha | ha) | ⟨x,hx,e⟩
   ·have:=hA a ha;omega
   ·omega
   ·have:=(h3 x hx).2;omega) hF ⟨⟨h4,h5⟩,h6⟩ hll h7 hTo2
  rw [hv2] at hC2
  refine hC2.mono fun e3 w3 hE3=> ?_
  obtain ⟨he3,u,O3,k1,k2,k3,⟨⟨k4,k5⟩,k6⟩,k7,k8,k9,k10⟩:=hE3;have hs3:=k10.size
  refine ⟨he3,he3,t,u,O3,⟨h1,k1⟩,List.nodup_cons.2 ⟨fun e=> ?_,List.nodup_append.2 ⟨h2,k2,fun x hx y hy e=> ?_⟩⟩,fun b hb'=> ?_,k4,⟨k5,k6,k7⟩,by rw [addTks_append];exact k8,fun k hk=>(k9 k (by omega)).trans (hold2 k hk),?_⟩
  ·rcases List.mem_append.1 e with e | e
   ·have:=(h3 _ e).1;omega
   ·have:=(k3 _ e).1;omega
  ·have:=(h3 x hx).2;have:=(k3 y hy).1;omega
  ·rcases List.mem_cons.1 hb' with rfl | hb'
   ·exact ⟨Nat.le_refl _,by omega⟩
   ·rcases List.mem_append.1 hb' with hb' | hb'
    ·have:=h3 b hb';exact ⟨by omega,by omega⟩
    ·have:=k3 b hb';exact ⟨by omega,by omega⟩
  ·have hK1:Kept (fun k=>A (O k)∨∃ X∈xs,O k=X.blk+2) w w2:=hk1.trans h9 (fun _ e=>e.elim) fun k hk e=>by
    rw [hold k hk] at e
    rcases e with (e | e) | e
    ·exact .inl e
    ·have:=hO k hk;omega
    ·exact .inr e
   refine hK1.trans k10 (fun _ e=>e) fun k hk e=> ?_
   rw [hold2 k hk] at e
   have:=hO k hk
   rcases e with ((e | e) | ⟨x,hx,e⟩) | ⟨X,hX,e⟩
   ·exact .inl e
   ·omega
   ·have:=(h3 x hx).1;omega
   ·obtain ⟨Y,hY,f1,_⟩:=addTks_of hX
    exact .inr ⟨Y,hY,by rw [f1];exact e⟩
end Go.Proofs.YtdinjjmcmfjbfaaGreatDoor
