import Derived.Test.YtdinjjmcmfjbfaaGreatDoorEkJ
import Derived.Test.YtdinjjmcmfjbfaaGreatDoorEoJ
set_option maxRecDepth 100000
set_option maxHeartbeats 4000000
namespace Go.Proofs.YtdinjjmcmfjbfaaGreatDoor
open Go.RowKit Go.Shelf
def SomeB (e:Ending):Prop:=∃ b,e=.returned (.bool b)
theorem equal_some (v u:Value) (es fs:List En) (w:World) (h:EnAt w v es) (k:EnAt w u fs):Calls Tryz.prog 23 #[v,u] w fun e w'=>SomeB e∧Kept No w w':=by
 have HV:=hid h;have HU:=hid k;obtain ⟨a,cap,rfl,h2,h3,-⟩:=h;obtain ⟨a',cap',rfl,k2,k3,-⟩:=k;have h4:=HV.out.get;have k4:=HU.out.get;have H4:=hid h4;have K4:=hid k4
 have hcap:cap≤9223372036854775807:=by unfold maxLen at h3;omega
 have hcap':cap'≤9223372036854775807:=by unfold maxLen at k3;omega
 obtain ⟨n,hn⟩:∃ n,es.length=n:=⟨_,rfl⟩;have HN:=hid hn;rw [hn] at h2 HV ⊢;obtain ⟨m,hm⟩:∃ m,fs.length=m:=⟨_,rfl⟩;have HM:=hid hm;rw [hm] at k2 HU ⊢;clear h4 h3 hn k4 k3 hm
 go_enter Tryz.func23,Tryz.ntmps23
 go_wp2_with fail
 go_loopg [5] n (fun k v4 wr=>∃ (i:Nat),i+k=n∧v4=.int .i64 (i:Int)∧Hid (Kept No w wr))
 case atStart=>exact ⟨0,by omega,rfl,hid (Kept.refl _ _)⟩
 case round =>
  obtain ⟨i,hik,rfl,HK⟩:=hrel
  cases gk with
  | zero =>
    have hx:¬(i:Int)<(n:Int):=by omega
    go_wp2_with fail;clear hx hik
    go_loopg [6] m (fun k v4 wr=>∃ (i:Nat),i+k=m∧v4=.int .i64 (i:Int)∧Hid (Kept No w wr))
    case atStart=>exact ⟨0,by omega,rfl,HK⟩
    case round =>
     clear HK;obtain ⟨j,hik,rfl,HK⟩:=hrel
     cases gk with
     | zero =>
       have hx:¬(j:Int)<(m:Int):=by omega
       go_wp2_with fail;go_ret;exact ⟨⟨_,rfl⟩,HK.out⟩
     | succ k =>
       have hx:(j:Int)<(m:Int):=by omega
       have hx0:(0:Int)≤(j:Int):=by omega
       obtain ⟨⟨er,et⟩,hr⟩:∃ r,fs[j]? =some r:=⟨_,List.getElem?_eq_getElem (by have:=HM.out;omega)⟩
       obtain ⟨b,o,rfl,hbl,c0,c1⟩:=K4.out j _ hr
       have d0:wr.cell? ⟨b,o+j*2,none⟩=some (.string er):=(HK.out.cell hbl (fun e=>e)).trans c0
       have HT2:Hid (∀ w1,Kept No wr w1→Calls Tryz.prog 30 #[.slice (some ⟨b,o,none⟩) m cap',.string er] w1 fun e w'=>e=.returned (.int .i64 (tmW fs er))∧w'=w1):=fun w1 hk=>times_any _ fs er w1 ((HU.out.kept HK.out).kept hk)
       have HT1:Hid (∀ w1,Kept No wr w1→Calls Tryz.prog 30 #[.slice a n cap,.string er] w1 fun e w'=>e=.returned (.int .i64 (tmW es er))∧w'=w1):=fun w1 hk=>times_any _ es er w1 ((HV.out.kept HK.out).kept hk)
       obtain ⟨x1,hx1⟩:∃ x,x=tmW es er:=⟨_,rfl⟩;obtain ⟨x2,hx2⟩:∃ x,x=tmW fs er:=⟨_,rfl⟩;rw [←hx1] at HT1;rw [←hx2] at HT2;clear hx1 hx2;have HK2:=hid HK.out.drew;clear c0 c1 hr;go_wp2_with fail
       go_region_held (fun w'=>w'.cell? ⟨b,o+j*2,none⟩=some (.string er)) (first | exact d0 | go_keep)
        (first
          | (go_at_call 30;refine (HT1.out _ (Kept.refl No wr).drew).mono ?_;rintro e w1 ⟨rfl,rfl⟩;clear HT1)
          | (go_at_call 30;refine (HT2.out _ (Kept.refl No wr).drew).mono ?_;rintro e w1 ⟨rfl,rfl⟩)
          | fail)
       by_cases hxx:x1=x2
       ·subst hxx
        go_wp2_with fail;go_roundg k
        case measure=>omega
        case rel=>exact ⟨j+1,by omega,by go_num,HK2⟩
       ·have hxb:(x1 != x2)=true:=by simpa using hxx
        go_wp2_with fail;go_ret;exact ⟨⟨_,rfl⟩,HK2.out⟩
  | succ k =>
    have hx:(i:Int)<(n:Int):=by omega
    have hx0:(0:Int)≤(i:Int):=by omega
    obtain ⟨⟨er,et⟩,hr⟩:∃ r,es[i]? =some r:=⟨_,List.getElem?_eq_getElem (by have:=HN.out;omega)⟩
    obtain ⟨b,o,rfl,hbl,c0,c1⟩:=H4.out i _ hr
    have d0:wr.cell? ⟨b,o+i*2,none⟩=some (.string er):=(HK.out.cell hbl (fun e=>e)).trans c0
    have HT1:Hid (∀ w1,Kept No wr w1→Calls Tryz.prog 30 #[.slice (some ⟨b,o,none⟩) n cap,.string er] w1 fun e w'=>e=.returned (.int .i64 (tmW es er))∧w'=w1):=fun w1 hk=>times_any _ es er w1 ((HV.out.kept HK.out).kept hk)
    have HT2:Hid (∀ w1,Kept No wr w1→Calls Tryz.prog 30 #[.slice a' m cap',.string er] w1 fun e w'=>e=.returned (.int .i64 (tmW fs er))∧w'=w1):=fun w1 hk=>times_any _ fs er w1 ((HU.out.kept HK.out).kept hk)
    obtain ⟨x1,hx1⟩:∃ x,x=tmW es er:=⟨_,rfl⟩;obtain ⟨x2,hx2⟩:∃ x,x=tmW fs er:=⟨_,rfl⟩;rw [←hx1] at HT1;rw [←hx2] at HT2;clear hx1 hx2;have HK2:=hid HK.out.drew;clear c0 c1 hr;go_wp2_with fail
    go_region_held (fun w'=>w'.cell? ⟨b,o+i*2,none⟩=some (.string er)) (first | exact d0 | go_keep)
     (first
       | (go_at_call 30;refine (HT1.out _ (Kept.refl No wr).drew).mono ?_;rintro e w1 ⟨rfl,rfl⟩;clear HT1)
       | (go_at_call 30;refine (HT2.out _ (Kept.refl No wr).drew).mono ?_;rintro e w1 ⟨rfl,rfl⟩)
       | fail)
    by_cases hxx:x1=x2
    ·subst hxx
     go_wp2_with fail;go_roundg k
     case measure=>omega
     case rel=>exact ⟨i+1,by omega,by go_num,HK2⟩
    ·have hxb:(x1 != x2)=true:=by simpa using hxx
     go_wp2_with fail;go_ret;exact ⟨⟨_,rfl⟩,HK2.out⟩
open Go.RowKit Go.Shelf Go.Deep
open Mo (V Row Bag cnt canon Eqv OkB OkD neg Nr Q leaves bagQ tyQ wf joins TOk wv ty Tab)
def Two (w0 w:World) (p:Nat) (st:Mo.Ses) (q:Nat) (su:Mo.Ses):Prop:=∃ X Y,Sess w X p st∧Sess w Y q su∧(∀ k,X k→¬Y k)∧(∀ k,X k∨Y k→w0.heap.size≤k)∧Kept No w0 w
section
variable {w0 w w':World} {p q:Nat} {st su st' su':Mo.Ses}
theorem Two.swap (h:Two w0 w p st q su):Two w0 w q su p st:=by
 obtain ⟨X,Y,a,b,c,d,e⟩:=h
 exact ⟨Y,X,b,a,fun k h1 h2=>c k h2 h1,fun k h=>d k h.symm,e⟩
theorem Two.kept (h:Two w0 w p st q su):Kept No w0 w:=by obtain ⟨X,Y,a,b,c,d,e⟩:=h;exact e
theorem Two.stays (h:Two w0 w p st q su) (k:Kept No w w'):Two w0 w' p st q su:=by
 obtain ⟨X,Y,a,b,c,d,e⟩:=h
 exact ⟨X,Y,a.stays k (fun _ e=>e.elim) (fun e=>e),b.stays k (fun _ e=>e.elim) (fun e=>e),c,d,e.seq k⟩
theorem Two.one (h:Two w0 w p st q su):Mine w0 w p st:=by
 obtain ⟨X,Y,a,b,c,d,e⟩:=h
 exact ⟨X,a,fun k hk=>d k (.inl hk),e⟩
theorem Two.step {X X' Y:Nat→Prop} (a:Sess w X p st) (b:Sess w Y q su) (c:∀ k,X k→¬Y k) (d:∀ k,X k∨Y k→w0.heap.size≤k) (e:Kept No w0 w) (h:Sess w' X' p st') (hk:SKept X X' w w'):Two w0 w' p st' q su:=by
 refine ⟨X',Y,h,b.stays hk.1 c a.glb,fun k h1 h2=> ?_,fun k h1=> ?_,e.trans hk.1 (fun _ e=>e) (fun k hl e'=>by have:=d k (.inl e');omega)⟩
 ·rcases hk.2 k h1 with h3 | h3
  ·exact c k h3 h2
  ·have:=b.lt h2;omega
 ·rcases h1 with h1 | h1
  ·rcases hk.2 k h1 with h3 | h3
   ·exact d k (.inl h3)
   ·exact Nat.le_trans e.size h3
  ·exact d k (.inr h1)
theorem Two.made (h:Mine w0 w p st) (k:Mine w w' q su):Two w0 w' p st q su:=by
 obtain ⟨X,a,b,c⟩:=h;obtain ⟨Y,d,e,f⟩:=k
 refine ⟨X,Y,a.stays f (fun _ e=>e.elim) (fun e=>e),d,fun k h1 h2=> ?_,fun k h=> ?_,c.seq f⟩
 ·have:=a.lt h1;have:=e k h2;omega
 ·rcases h with h | h
  ·exact b k h
  ·exact Nat.le_trans c.size (e k h)
end
def both (x y:ByteArray):ByteArray:=if x.size≠0∧y.size≠0 then x++⟨#[59]⟩++y else x++y
theorem cut_tm {us:List Bool} {d1 d2 d3:Bag} (h1:BWr us d1) (h2:BWr us d2) (h3:BWr us d3) (h:∀ r,cnt d3 r=cnt d1 r+cnt d2 r) :
 (∀ e∈enB d1++enB d2,tmW (enB d1++enB d2) e.1=tmW (enB d3) e.1)∧(∀ e∈enB d3,tmW (enB d1++enB d2) e.1=tmW (enB d3) e.1):=by
 have key:∀ r:Row,(∀ v∈r,VOk v)→tmW (enB d1++enB d2) (rowB r)=tmW (enB d3) (rowB r):=fun r hr=>by
  have b1:=h1.bd r
  rw [tmW_F,tmW_F,tmF_append,tmF_bag h1 hr (by omega) (by omega),tmF_bag h2 hr (by omega) (by omega),tmF_bag h3 hr (by omega) (by omega),h r]
  omega
 refine ⟨fun e he=> ?_,fun e he=> ?_⟩
 ·rcases List.mem_append.1 he with he | he
  ·obtain ⟨r,hr,e1,_⟩:=enB_mem h1 he
   rw [e1];exact key r hr
  ·obtain ⟨r,hr,e1,_⟩:=enB_mem h2 he
   rw [e1];exact key r hr
 ·obtain ⟨r,hr,e1,_⟩:=enB_mem h3 he
  rw [e1];exact key r hr
end Go.Proofs.YtdinjjmcmfjbfaaGreatDoor
