/-
  For every script, ripplelaw.Plain returns true, and the script reads behind the call as it read before: every call but views whose query has J, D or G, in every order, on any number of sessions by turns, answers as the document's own session answers. Condition: the listed package-level variables of the library read as start-up lays them (the card ties them to the text).
-/
import Derived.Test.YtdinjjmcmfjbfaaGreatDoorVzJ
import Derived.Test.YtdinjjmcmfjbfaaGreatDoorTie
import Derived.Test.YtdinjjmcmfjbfaaGreatDoorCards
import Derived.Lay
import Derived.Lib.LaidU8
import Derived.Lib.LaidTab
import Derived.Deep.Slices
import Derived.Handed
import Derived.ChangeAt
import Derived.ChangeAt2
import Derived.OpenShut
import Derived.ChangeMaps5
import Derived.Stop.Joined
import Derived.SevenTiedAt
import Derived.SizedLaws
import Derived.Carry
set_option maxRecDepth 100000
set_option maxHeartbeats 4000000
namespace Go.Proofs.YtdinjjmcmfjbfaaGreatDoor
open Go.RowKit
open Mo (Q Af Bd Ac Tab A9)
open Classical
theorem cN (s:ByteArray)(w:World)(h:(Pl.Lp s).1=0):∃q,Rq s 6 0 s.size q:=by
 obtain⟨_,w0,_,⟨_,⟨a,_⟩|⟨_,_,_,q,_,_,_,hr,_,_⟩⟩,_⟩:=Lt s w []
 ·exact absurd h a
 ·exact⟨q,hr⟩
theorem RL {st:Mo.Ses}(h:cL st)(nm a:ByteArray):cL (Ex st nm a).2:=by
 unfold Ex
 split
 ·split
  ·exact h
  ·split
   ·exact h
   ·split
    ·exact h
    ·exact fun q b=>(h q b).more _
 ·exact h
theorem YD {st:Mo.Ses}(w:World)(h:cL st)(s:ByteArray)(f:VO s):cL (Iz st s).2:=by
 unfold Iz
 by_cases d:(Pl.Lp s).1=0
 ·rw[if_neg (by omega)]
  obtain⟨q,hr⟩:=cN s w d
  split
  ·exact h
  ·rw[BA hr]
   simp only
   by_cases a:((Ac q).all fun nm=>(Mo.C8 st.tabs nm).isSome)=true
   ·rw[if_pos a]
    cases g:A9 (Mo.Jy st.tabs) q with
    |none=>exact h
    |some us =>
     have b:=dD hr d f;intro e i
     rcases lC.1 i with c|c
     ·exact h e c
     ·have:e=q:=by simpa using c
      subst this
      exact⟨b.1,fun nm j=>lO.1 a nm j,by rw[g];rfl,b.2.1,b.2.2⟩
   ·rw[if_neg a];exact h
 ·rw[if_pos (by omega)];exact h
theorem YE {st:Mo.Ses}(h:cL st)(hg:Mo.Bj st.tabs)(s:ByteArray):cL (G6 st s).2:=by
 unfold G6
 split
 ·exact h
 ·split
  ·exact h
  ·split
   ·exact h
   ·split
    ·exact h
    ·exact fun q a=>(h q a).new hg.nod _
theorem Xl {w0 w g l:World}{Z:Nat→Prop}{F:Nat→Nat}{ps:List Pr}{wb:Nat}{av:Value}{i:Nat}{pr:Pr}{d:Nat→Prop}{c:Mo.Ses}(h:LW w0 w Z F ps)(r:WA w F wb av ps)(s:∀q∈ps,q.a=q.b)(m:ps[i]? =some pr)
 (t:Fs g d pr.p c) (n:Ov (fun k=>F k=2*i+2) d w g) (u:Td (fun k=>Z k∨d k) g (fun k=>T9 F (2*i+2) d k=2*i+3) pr.y c l) (hv:cL c):I5 w0 wb ps.length l:=by
 have v:=h.prog m t n
 have y:∀k,d k→F k=2*i+2∨F k=0:=fun k x=>(n.2 k x).imp id h.new
 have z:=(kS.1 m).1
 have o:(ps.set i { pr with a:=c })[i]? =some { pr with a:=c }:=by rw[nP z]
 obtain⟨A,p,B,C,D⟩:=v.doc o u hv
 have E:WA g (T9 F (2*i+2) d) wb av (ps.set i { pr with a:=c }):=r.Bw n.1 (fun j e=>by omega) (fun j e=>(Fv (by omega) (by omega) y j).2 e) (by simp) (MV m rfl rfl)
 have G:WA l p wb av ((ps.set i { pr with a:=c }).set i { pr with a:=c,b:=c }):=E.Bw D (fun j e=>by omega) C (by simp) (MV o rfl rfl)
 refine⟨A,p,av,_,B,G,fun q H=>?_,by simp⟩
 obtain⟨j,f⟩:=lW H
 rcases Lo f with ⟨rfl,rfl⟩|⟨_,f⟩
 ·rfl
 ·rcases Lo f with ⟨rfl,rfl⟩|⟨_,f⟩
  ·exact absurd rfl ‹_›
  ·exact s q (kW f)
theorem LW.YF {w0 w c:World}{Z:Nat→Prop}{F:Nat→Nat}{ps:List Pr}{i:Nat}{pr:Pr}{b:Nat→Prop}{d:Mo.Ses}(h:LW w0 w Z F ps)(e:ps[i]? =some pr)
 (f:Fs c b pr.p d) (g:Ov (fun k=>F k=2*i+2) b w c):Jr (fun k=>Z k∨b k) c (fun k=>T9 F (2*i+2) b k=2*i+3) pr.y pr.b:=by
 have j:=h.prog e f g;have l:=(kS.1 e).1
 have m:(ps.set i { pr with a:=d })[i]? =some { pr with a:=d }:=by rw[nP l]
 have n:=j.uses i _ m;exact n
theorem I5.mono {w0 w:World}{wb n m:Nat}(h:I5 w0 wb n w)(_:n≤m):I5 w0 wb m w:=by
 obtain⟨Z,F,av,ps,a,b,c,_⟩:=h
 exact⟨Z,F,av,ps,a,b,c,by omega⟩
theorem I5.Bw {w0 w w':World}{wb n:Nat}(h:I5 w0 wb n w)(k:Ab No w w'):I5 w0 wb n w':=by
 obtain⟨Z,F,av,ps,a,b,c,d⟩:=h
 exact⟨Z,F,av,ps,a.Bw k,b.Bw k (fun _ e=>e.elim) (fun _ e=>e) rfl rfl,c,d⟩
section
variable {w0 w:World} {Z:Nat→Prop} {F:Nat→Nat} {ps:List Pr} {wb:Nat} {av:Value} {i:Nat} {pr:Pr}
theorem RM (h:LW w0 w Z F ps)(l:WA w F wb av ps)(f:∀q∈ps,q.a=q.b)(a:ps[i]? =some pr)(s t:ByteArray)(m:s.size≤maxLen) :
 Calls Tryz.prog 35 #[.pointer (some ⟨pr.p,0,none⟩),.string s,.string t] w fun e b=>∃x,e=.returned (.int .i64 x)∧Ab (fun k=>F k=2*i+2) w b ∧
  Calls Tryz.prog 53 #[.pointer (some ⟨pr.y,0,none⟩),.string s,.string t] b fun e g=>e=.returned (.int .i64 x)∧I5 w0 wb ps.length g:=by
 have c:=h.ses i pr a;have n:=f pr (kW a)
 rw[n] at c
 have hv:=h.vg i pr a;refine (PQ c s t).mono ?_;rintro e b ⟨rfl,_,j,d⟩
 refine⟨_,rfl,d.1,?_⟩
 refine (KI (h.YF a j d) hv c.good.1.few s t m).mono ?_;rintro e g ⟨rfl,o⟩
 exact⟨rfl,Xl h l f a j d o (RL hv s t)⟩
theorem YG (h:LW w0 w Z F ps)(n:WA w F wb av ps)(g:∀q∈ps,q.a=q.b)(a:ps[i]? =some pr)(s:ByteArray)(c:VO s) :
 Calls Tryz.prog 17 #[.pointer (some ⟨pr.p,0,none⟩),.string s] w fun e d=>∃x B j,e=.returned (.tuple #[.int .i64 x,.string B,.int .i64 j])∧Ab (fun k=>F k=2*i+2) w d ∧
  Calls Tryz.prog 55 #[.pointer (some ⟨pr.y,0,none⟩),.string s] d fun e l=>e=.returned (.tuple #[.int .i64 x,.string B,.int .i64 j])∧I5 w0 wb ps.length l:=by
 have b:=h.ses i pr a;have o:=g pr (kW a)
 rw[o] at b
 have hv:=h.vg i pr a;refine (VZ b s c).mono ?_;rintro e d ⟨rfl,_,m,f⟩
 refine⟨_,_,_,rfl,f.1,?_⟩
 refine (RC (h.YF a m f) b.good.1 b.good.2 s c).mono ?_;rintro e l ⟨rfl,p⟩
 exact⟨rfl,Xl h n g a m f p (YD w hv s c)⟩
theorem YH (h:LW w0 w Z F ps)(m:WA w F wb av ps)(f:∀q∈ps,q.a=q.b)(a:ps[i]? =some pr)(s:ByteArray) :
 Calls Tryz.prog 20 #[.pointer (some ⟨pr.p,0,none⟩),.string s] w fun e c=>∃B g,e=.returned (.tuple #[.string B,.int .i64 g])∧Ab (fun k=>F k=2*i+2) w c ∧
  Calls Tryz.prog 56 #[.pointer (some ⟨pr.y,0,none⟩),.string s] c fun e j=>e=.returned (.tuple #[.string B,.int .i64 g])∧I5 w0 wb ps.length j:=by
 have b:=h.ses i pr a;have n:=f pr (kW a)
 rw[n] at b
 have hv:=h.vg i pr a;refine (WG b s).mono ?_;rintro e c ⟨rfl,_,l,d⟩
 refine⟨_,_,rfl,d.1,?_⟩
 refine (RK (h.YF a l d) b.good.1 hv b.good.2 s).mono ?_;rintro e j ⟨rfl,o⟩
 exact⟨rfl,Xl h m f a l d o (YE hv b.good.1 s)⟩
theorem YI (h:LW w0 w Z F ps)(l:WA w F wb av ps)(f:∀q∈ps,q.a=q.b)(a:ps[i]? =some pr)(m:Int) :
 Calls Tryz.prog 19 #[.pointer (some ⟨pr.p,0,none⟩),.int .i64 m] w fun e b=>∃B g,e=.returned (.tuple #[.string B,.int .i64 g])∧Ab (fun k=>F k=2*i+2) w b ∧
  Calls Tryz.prog 57 #[.pointer (some ⟨pr.y,0,none⟩),.int .i64 m] b fun e j=>e=.returned (.tuple #[.string B,.int .i64 g])∧I5 w0 wb ps.length j:=by
 have c:=h.ses i pr a;have n:=f pr (kW a)
 rw[n] at c
 have hv:=h.vg i pr a;have o:I5 w0 wb ps.length w:=⟨Z,F,av,ps,h,l,f,kZ _⟩;refine (VU c m).mono ?_;rintro e b ⟨rfl,_,d⟩
 refine⟨_,_,rfl,d.any,?_⟩
 refine (QV ((h.uses i pr a).Ah d) c.good.1 hv m).mono ?_;rintro e j ⟨rfl,p⟩
 exact⟨rfl,(o.Bw d).Bw p⟩
end
structure gC where
 k:Int
 c:Int
 n:Int
 s:ByteArray
 t:ByteArray
def gC.ok (o:gC):Prop:=(-9223372036854775808≤o.c∧o.c≤9223372036854775807)∧o.s.size≤maxLen
theorem YJ {w0 w:World}{wb n:Nat}(h:I5 w0 wb n w)(_:n≤4000000000000)(k c m:Int)(s t:ByteArray)(ao: -9223372036854775808≤c∧c≤9223372036854775807)(ap:s.size≤maxLen)(ad:k=4→VO s) :
 Calls Tryz.prog 33 #[pV wb,.agg #[.int .i64 k,.int .i64 c,.int .i64 m,.string s,.string t]] w fun e w'=>e=.returned (.bool true)∧I5 w0 wb (n+1) w':=by
 have aq:=Ad ad;clear ad;have ae:=Ad h
 obtain⟨Z,F,av,ps,C,p,D,ar⟩:=h
 by_cases af:k=1
 ·subst af
  have au:=Ad (fun W=>GC s W)
  unfold pV;clear C p D
  go_enter Tryz.func33,Tryz.ntmps33
  go_wp2_with fail;refine (au.o _).mono ?_;rintro e a ⟨rfl,d⟩;have S:oH (Ab No w a):=((Ab.refl No w).alloc _).seq d;clear d;go_wp2_with fail;go_ret
  exact⟨rfl,(ae.o.Bw S.o).mono (by omega)⟩
 ·have d:(k == 1)=false:=by simp;omega
  by_cases ag:k=2
  ·subst ag
   have ah:=Ad (fun W (k:Ab No w W)=>GF (C.Bw k) (p.Bw k (fun _ e=>e.elim) (fun _ e=>e) rfl rfl) D (by omega))
   unfold pV at ah⊢;clear C p D
   go_enter Tryz.func33,Tryz.ntmps33
   go_wp2_with fail;refine (ah.o _ ((Ab.refl No w).alloc _)).mono ?_;rintro e a ⟨rfl,d⟩;have S:=Ad d;clear d;go_wp2_with fail;go_ret
   exact⟨rfl,S.o.mono (by omega)⟩
  ·have L:(k == 2)=false:=by simp;omega
   have aw:=Aa p.obj
   obtain⟨ai,cap,rfl,T,I⟩:=J0 p.own
   have J:w.cell? ⟨wb,0,none⟩=some (.slice ai ps.length cap):=(Ae p.obj 0).trans rfl;have a3:(w.alloc (.cells #[.int .i64 k,.int .i64 c,.int .i64 m,.string s,.string t] 66)).cell? ⟨wb,0,none⟩=some (.slice ai ps.length cap):=(World.cell?_alloc_past _ _ _ aw).trans J
   have a4:cap≤9223372036854775807:=by unfold maxLen at I;omega
   have M:oH (I5 w0 wb (n+1) w):=ae.o.mono (by omega)
   by_cases K:ps.length=0
   ·have ax:((ps.length:Int) == 0)=true:=by rw[K];rfl
    unfold pV;clear C p D T I K
    go_enter Tryz.func33,Tryz.ntmps33
    go_wp2_with fail;go_ret
    exact⟨rfl,M.o.Bw ((Ab.refl No w).alloc _)⟩
   ·have ax:((ps.length:Int) == 0)=false:=beq_eq_false_iff_ne.2 (by omega)
    by_cases ay:k<3
    ·unfold pV
     clear C p D T I K
     go_enter Tryz.func33,Tryz.ntmps33
     go_wp2_with fail;go_ret
     exact⟨rfl,M.o.Bw ((Ab.refl No w).alloc _)⟩
    ·by_cases az:6<k
     ·unfold pV
      clear C p D T I K
      go_enter Tryz.func33,Tryz.ntmps33
      go_wp2_with fail;go_ret
      exact⟨rfl,M.o.Bw ((Ab.refl No w).alloc _)⟩
     ·have aj:(0:Int)<(ps.length:Int):=by omega
      have a0:=GD c ps.length aj
      obtain⟨i,hi⟩:∃i:Nat,Qr c ps.length=(i:Int):=⟨(Qr c ps.length).toNat,by omega⟩
      have N:oH (∀W,Calls Tryz.prog 52 #[.int .i64 c,.int .i64 (ps.length:Int)] W fun e w'=>e=.returned (.int .i64 (i:Int))∧w'=W):=fun W=>by
       have:=RI c ps.length W ao ⟨aj,by omega⟩
       rw[hi] at this;exact this
      have ak:i<ps.length:=by omega
      have a5:(i:Int)<(ps.length:Int):=by omega
      have a6:(0:Int)≤(i:Int):=by omega
      obtain⟨pr,U⟩:∃pr,ps[i]? =some pr:=⟨_,kT ak⟩
      obtain⟨V,al⟩:=MU ps i pr U
      obtain⟨b,j,_,rfl,-,-,am,-,X⟩:=Mw p.own V
      have c1:w.cell? ⟨b,j+i*2,none⟩=some (.pointer (some ⟨pr.p,0,none⟩)):=X _ _ V;have c2:w.cell? ⟨b,j+i*2+1,none⟩=some (.pointer (some ⟨pr.y,0,none⟩)):=X _ _ al;have a1:(w.alloc (.cells #[.int .i64 k,.int .i64 c,.int .i64 m,.string s,.string t] 66)).cell? ⟨b,j+i*2,none⟩=some (.pointer (some ⟨pr.p,0,none⟩)):=(World.cell?_alloc_past _ _ _ am).trans c1;have a7:(w.alloc (.cells #[.int .i64 k,.int .i64 c,.int .i64 m,.string s,.string t] 66)).cell? ⟨b,j+i*2+1,none⟩=some (.pointer (some ⟨pr.y,0,none⟩)):=(World.cell?_alloc_past _ _ _ am).trans c2;have a8:(w.alloc (.cells #[.int .i64 k,.int .i64 c,.int .i64 m,.string s,.string t] 66)).cell? ⟨w.heap.size,1,none⟩=some (.int .i64 c):=(Ae (heap_alloc_new w _) 1).trans rfl
      have O:=Ad (fun W (k:Ab No w W)=>C.Bw k)
      have P:=Ad (fun W (k:Ab No w W)=>p.Bw k (fun _ e=>e.elim) (fun _ e=>e) rfl rfl)
      have Q:=Ad D
      have E:=Ad (fun k (q:w.heap.size≤k)=>C.new q)
      have R:=Ad U;have a9:=ar
      have q:k=3∨k=4∨k=5∨k=6:=by omega
      unfold pV;clear C p D I K a0 hi ak V al X U af ag ay az M
      rcases q with q|q|q|q
      ·subst q
       clear d L
       go_enter Tryz.func33,Tryz.ntmps33
       go_wp2_with fail
       go_region_held3 (fun w'=>w'.cell? ⟨wb,0,none⟩=some (.slice (some ⟨b,j,none⟩) ps.length cap)∧w'.cell? ⟨b,j+i*2,none⟩=some (.pointer (some ⟨pr.p,0,none⟩))∧w'.cell? ⟨b,j+i*2+1,none⟩=some (.pointer (some ⟨pr.y,0,none⟩))∧w'.cell? ⟨w.heap.size,1,none⟩=some (.int .i64 c)) (go_keep)
        (first
          |(go_at_call 52;refine (N.o _).mono ?_;rintro e a ⟨rfl,G⟩;subst G))
       all_goals
        clear J c1 c2;go_wp2_with fail
        have HD:=Ad (fun W (k:Ab No w W)=>RM (O.o W k) (P.o W k) Q.o R.o s t ap)
        obtain⟨W,f⟩:∃W,(((w.alloc (.cells #[.int .i64 3,.int .i64 c,.int .i64 m,.string s,.string t] 66)).alloc (.cells #[.pointer (some ⟨pr.p,0,none⟩),.pointer (some ⟨pr.y,0,none⟩)] 109)).drew)=W:=⟨_,rfl⟩
        rw[f]
        have r:Ab No w W:=by rw[←f];exact (((Ab.refl No w).alloc _).alloc _).drew
        have l:W.heap[w.heap.size]? =some (.cells #[.int .i64 3,.int .i64 c,.int .i64 m,.string s,.string t] 66 (0,0)):=by
         rw[←f]
         exact (Below.heap_alloc _ _ _ (by simp)).trans (heap_alloc_new w _)
        have o:W.heap[w.heap.size+1]? =some (.cells #[.pointer (some ⟨pr.p,0,none⟩),.pointer (some ⟨pr.y,0,none⟩)] 109 (0,0)):=by
         rw[←f]
         have u:=heap_alloc_new (w.alloc (.cells #[.int .i64 3,.int .i64 c,.int .i64 m,.string s,.string t] 66)) (.cells #[.pointer (some ⟨pr.p,0,none⟩),.pointer (some ⟨pr.y,0,none⟩)] 109)
         rw[show (w.alloc (.cells #[.int .i64 3,.int .i64 c,.int .i64 m,.string s,.string t] 66)).heap.size=w.heap.size+1 by simp] at u
         exact u
        clear f;refine (HD.o _ r).mono ?_;rintro e a ⟨x,rfl,d,v⟩
        have g:=(d.block _ (Aa l) (by rw[E.o _ (kZ _)];omega)).trans l
        have y:=(d.block _ (Aa o) (by rw[E.o _ (Nat.le_succ _)];omega)).trans o
        have Y:a.cell? ⟨w.heap.size,2,none⟩=some (.int .i64 m):=(Ae g 2).trans rfl;have aa:a.cell? ⟨w.heap.size,3,none⟩=some (.string s):=(Ae g 3).trans rfl;have ab:a.cell? ⟨w.heap.size,4,none⟩=some (.string t):=(Ae g 4).trans rfl;have e5:a.cell? ⟨w.heap.size+1,1,none⟩=some (.pointer (some ⟨pr.y,0,none⟩)):=(Ae y 1).trans rfl;clear d g y l o r;have z:=Ad v;clear v HD;go_wp2_with fail;refine z.o.mono ?_;rintro e ac ⟨rfl,A⟩;have H:=Ad A;clear A z;go_wp2_with fail;refine (Te _ _).mono ?_;rintro e w3 ⟨rfl,rfl⟩;go_wp2_with fail;go_ret
        exact⟨Az (by simp),H.o.mono (by omega)⟩
      ·have a2:=Ad (aq.o q)
       subst q;clear d L
       go_enter Tryz.func33,Tryz.ntmps33
       go_wp2_with fail
       go_region_held3 (fun w'=>w'.cell? ⟨wb,0,none⟩=some (.slice (some ⟨b,j,none⟩) ps.length cap)∧w'.cell? ⟨b,j+i*2,none⟩=some (.pointer (some ⟨pr.p,0,none⟩))∧w'.cell? ⟨b,j+i*2+1,none⟩=some (.pointer (some ⟨pr.y,0,none⟩))∧w'.cell? ⟨w.heap.size,1,none⟩=some (.int .i64 c)) (go_keep)
        (first
          |(go_at_call 52;refine (N.o _).mono ?_;rintro e a ⟨rfl,G⟩;subst G))
       all_goals
        clear J c1 c2;go_wp2_with fail
        have HD:=Ad (fun W (k:Ab No w W)=>YG (O.o W k) (P.o W k) Q.o R.o s a2.o)
        obtain⟨W,f⟩:∃W,(((w.alloc (.cells #[.int .i64 4,.int .i64 c,.int .i64 m,.string s,.string t] 66)).alloc (.cells #[.pointer (some ⟨pr.p,0,none⟩),.pointer (some ⟨pr.y,0,none⟩)] 109)).drew)=W:=⟨_,rfl⟩
        rw[f]
        have r:Ab No w W:=by rw[←f];exact (((Ab.refl No w).alloc _).alloc _).drew
        have l:W.heap[w.heap.size]? =some (.cells #[.int .i64 4,.int .i64 c,.int .i64 m,.string s,.string t] 66 (0,0)):=by
         rw[←f]
         exact (Below.heap_alloc _ _ _ (by simp)).trans (heap_alloc_new w _)
        have o:W.heap[w.heap.size+1]? =some (.cells #[.pointer (some ⟨pr.p,0,none⟩),.pointer (some ⟨pr.y,0,none⟩)] 109 (0,0)):=by
         rw[←f]
         have u:=heap_alloc_new (w.alloc (.cells #[.int .i64 4,.int .i64 c,.int .i64 m,.string s,.string t] 66)) (.cells #[.pointer (some ⟨pr.p,0,none⟩),.pointer (some ⟨pr.y,0,none⟩)] 109)
         rw[show (w.alloc (.cells #[.int .i64 4,.int .i64 c,.int .i64 m,.string s,.string t] 66)).heap.size=w.heap.size+1 by simp] at u
         exact u
        clear f;refine (HD.o _ r).mono ?_;rintro e a ⟨x,B,an,rfl,d,v⟩
        have g:=(d.block _ (Aa l) (by rw[E.o _ (kZ _)];omega)).trans l
        have y:=(d.block _ (Aa o) (by rw[E.o _ (Nat.le_succ _)];omega)).trans o
        have Y:a.cell? ⟨w.heap.size,2,none⟩=some (.int .i64 m):=(Ae g 2).trans rfl;have aa:a.cell? ⟨w.heap.size,3,none⟩=some (.string s):=(Ae g 3).trans rfl;have ab:a.cell? ⟨w.heap.size,4,none⟩=some (.string t):=(Ae g 4).trans rfl;have e5:a.cell? ⟨w.heap.size+1,1,none⟩=some (.pointer (some ⟨pr.y,0,none⟩)):=(Ae y 1).trans rfl;clear d g y l o r;have z:=Ad v;clear v HD;go_wp2_with fail;refine z.o.mono ?_;rintro e ac ⟨rfl,A⟩;have H:=Ad A;clear A z;go_wp2_with fail;refine (Te _ _).mono ?_;rintro e w3 ⟨rfl,rfl⟩;go_wp2_with fail;go_ret
        exact⟨Az (by simp),H.o.mono (by omega)⟩
      ·subst q
       clear d L
       go_enter Tryz.func33,Tryz.ntmps33
       go_wp2_with fail
       go_region_held3 (fun w'=>w'.cell? ⟨wb,0,none⟩=some (.slice (some ⟨b,j,none⟩) ps.length cap)∧w'.cell? ⟨b,j+i*2,none⟩=some (.pointer (some ⟨pr.p,0,none⟩))∧w'.cell? ⟨b,j+i*2+1,none⟩=some (.pointer (some ⟨pr.y,0,none⟩))∧w'.cell? ⟨w.heap.size,1,none⟩=some (.int .i64 c)) (go_keep)
        (first
          |(go_at_call 52;refine (N.o _).mono ?_;rintro e a ⟨rfl,G⟩;subst G))
       all_goals
        clear J c1 c2;go_wp2_with fail
        have HD:=Ad (fun W (k:Ab No w W)=>YH (O.o W k) (P.o W k) Q.o R.o s)
        obtain⟨W,f⟩:∃W,(((w.alloc (.cells #[.int .i64 5,.int .i64 c,.int .i64 m,.string s,.string t] 66)).alloc (.cells #[.pointer (some ⟨pr.p,0,none⟩),.pointer (some ⟨pr.y,0,none⟩)] 109)).drew)=W:=⟨_,rfl⟩
        rw[f]
        have r:Ab No w W:=by rw[←f];exact (((Ab.refl No w).alloc _).alloc _).drew
        have l:W.heap[w.heap.size]? =some (.cells #[.int .i64 5,.int .i64 c,.int .i64 m,.string s,.string t] 66 (0,0)):=by
         rw[←f]
         exact (Below.heap_alloc _ _ _ (by simp)).trans (heap_alloc_new w _)
        have o:W.heap[w.heap.size+1]? =some (.cells #[.pointer (some ⟨pr.p,0,none⟩),.pointer (some ⟨pr.y,0,none⟩)] 109 (0,0)):=by
         rw[←f]
         have u:=heap_alloc_new (w.alloc (.cells #[.int .i64 5,.int .i64 c,.int .i64 m,.string s,.string t] 66)) (.cells #[.pointer (some ⟨pr.p,0,none⟩),.pointer (some ⟨pr.y,0,none⟩)] 109)
         rw[show (w.alloc (.cells #[.int .i64 5,.int .i64 c,.int .i64 m,.string s,.string t] 66)).heap.size=w.heap.size+1 by simp] at u
         exact u
        clear f;refine (HD.o _ r).mono ?_;rintro e a ⟨B,an,rfl,d,v⟩
        have g:=(d.block _ (Aa l) (by rw[E.o _ (kZ _)];omega)).trans l
        have y:=(d.block _ (Aa o) (by rw[E.o _ (Nat.le_succ _)];omega)).trans o
        have Y:a.cell? ⟨w.heap.size,2,none⟩=some (.int .i64 m):=(Ae g 2).trans rfl;have aa:a.cell? ⟨w.heap.size,3,none⟩=some (.string s):=(Ae g 3).trans rfl;have ab:a.cell? ⟨w.heap.size,4,none⟩=some (.string t):=(Ae g 4).trans rfl;have e5:a.cell? ⟨w.heap.size+1,1,none⟩=some (.pointer (some ⟨pr.y,0,none⟩)):=(Ae y 1).trans rfl;clear d g y l o r;have z:=Ad v;clear v HD;go_wp2_with fail;refine z.o.mono ?_;rintro e ac ⟨rfl,A⟩;have H:=Ad A;clear A z;go_wp2_with fail;refine (Te _ _).mono ?_;rintro e w3 ⟨rfl,rfl⟩;go_wp2_with fail;go_ret
        exact⟨Az (by simp),H.o.mono (by omega)⟩
      ·subst q
       clear d L
       go_enter Tryz.func33,Tryz.ntmps33
       go_wp2_with fail
       go_region_held3 (fun w'=>w'.cell? ⟨wb,0,none⟩=some (.slice (some ⟨b,j,none⟩) ps.length cap)∧w'.cell? ⟨b,j+i*2,none⟩=some (.pointer (some ⟨pr.p,0,none⟩))∧w'.cell? ⟨b,j+i*2+1,none⟩=some (.pointer (some ⟨pr.y,0,none⟩))∧w'.cell? ⟨w.heap.size,1,none⟩=some (.int .i64 c)) (go_keep)
        (first
          |(go_at_call 52;refine (N.o _).mono ?_;rintro e a ⟨rfl,G⟩;subst G))
       all_goals
        clear J c1 c2;go_wp2_with fail
        have HD:=Ad (fun W (k:Ab No w W)=>YI (O.o W k) (P.o W k) Q.o R.o m)
        obtain⟨W,f⟩:∃W,(((w.alloc (.cells #[.int .i64 6,.int .i64 c,.int .i64 m,.string s,.string t] 66)).alloc (.cells #[.pointer (some ⟨pr.p,0,none⟩),.pointer (some ⟨pr.y,0,none⟩)] 109)).drew)=W:=⟨_,rfl⟩
        rw[f]
        have r:Ab No w W:=by rw[←f];exact (((Ab.refl No w).alloc _).alloc _).drew
        have l:W.heap[w.heap.size]? =some (.cells #[.int .i64 6,.int .i64 c,.int .i64 m,.string s,.string t] 66 (0,0)):=by
         rw[←f]
         exact (Below.heap_alloc _ _ _ (by simp)).trans (heap_alloc_new w _)
        have o:W.heap[w.heap.size+1]? =some (.cells #[.pointer (some ⟨pr.p,0,none⟩),.pointer (some ⟨pr.y,0,none⟩)] 109 (0,0)):=by
         rw[←f]
         have u:=heap_alloc_new (w.alloc (.cells #[.int .i64 6,.int .i64 c,.int .i64 m,.string s,.string t] 66)) (.cells #[.pointer (some ⟨pr.p,0,none⟩),.pointer (some ⟨pr.y,0,none⟩)] 109)
         rw[show (w.alloc (.cells #[.int .i64 6,.int .i64 c,.int .i64 m,.string s,.string t] 66)).heap.size=w.heap.size+1 by simp] at u
         exact u
        clear f;refine (HD.o _ r).mono ?_;rintro e a ⟨B,an,rfl,d,v⟩
        have g:=(d.block _ (Aa l) (by rw[E.o _ (kZ _)];omega)).trans l
        have y:=(d.block _ (Aa o) (by rw[E.o _ (Nat.le_succ _)];omega)).trans o
        have Y:a.cell? ⟨w.heap.size,2,none⟩=some (.int .i64 m):=(Ae g 2).trans rfl;have aa:a.cell? ⟨w.heap.size,3,none⟩=some (.string s):=(Ae g 3).trans rfl;have ab:a.cell? ⟨w.heap.size,4,none⟩=some (.string t):=(Ae g 4).trans rfl;have e5:a.cell? ⟨w.heap.size+1,1,none⟩=some (.pointer (some ⟨pr.y,0,none⟩)):=(Ae y 1).trans rfl;clear d g y l o r;have z:=Ad v;clear v HD;go_wp2_with fail;refine z.o.mono ?_;rintro e ac ⟨rfl,A⟩;have H:=Ad A;clear A z;go_wp2_with fail;refine (Te _ _).mono ?_;rintro e w3 ⟨rfl,rfl⟩;go_wp2_with fail;go_ret
        exact⟨Az (by simp),H.o.mono (by omega)⟩
def MW (w:World)(v:Value)(os:List gC):Prop:=∃a cap,v=.slice a os.length cap∧os.length≤cap∧cap≤maxLen∧∀(i:Nat) (o:gC),os[i]? =some o→o.ok∧∃b f,a=some ⟨b,f,none⟩∧b<w.heap.size ∧
 w.cell? ⟨b,f+i*5,none⟩=some (.int .i64 o.k)∧w.cell? ⟨b,f+i*5+1,none⟩=some (.int .i64 o.c)∧w.cell? ⟨b,f+i*5+2,none⟩=some (.int .i64 o.n)∧w.cell? ⟨b,f+i*5+3,none⟩=some (.string o.s)∧w.cell? ⟨b,f+i*5+4,none⟩=some (.string o.t)
theorem I5.start {w:World}(b:Se w):∀(a:World),a=w.alloc (.cells #[.slice none 0 0] 64)→LW w a (fun k=>k=w.heap.size) (fun k=>if k=w.heap.size then 1 else 0) []∧WA a (fun k=>if k=w.heap.size then 1 else 0) w.heap.size (.slice none 0 0) []:=by
 rintro a rfl;have c:Ab No w (w.alloc (.cells #[.slice none 0 0] 64)):=(Ab.refl No w).alloc _
 refine⟨⟨b.lt,c,b.Ah c,fun k e=>⟨by omega,by simp;omega⟩,fun k e=>?_,fun k=>by split <;> simp,(fun i pr h=>by simp at h),(fun i pr h=>by simp at h),(fun i pr h=>by simp at h)⟩,⟨heap_alloc_new w _,World.ownsRow_nil _ _ _ _,if_pos rfl,fun k e=>by simp[Value.ownBlock] at e⟩⟩
 by_cases h:k=w.heap.size
 ·exact h
 ·rw[if_neg h] at e;exact absurd rfl e
theorem I5.kept {w0 w:World}{wb n:Nat}(h:I5 w0 wb n w):Ab No w0 w:=by
 obtain⟨Z,F,av,ps,a,_⟩:=h
 exact a.kp
theorem RN (v:Value)(os:List gC)(w:World)(S:Se w)(h:MW w v os)(T:os.length≤3000000000000) :
 Calls Tryz.prog 12 #[v,.bool true] w fun e w'=>e=.returned (.bool true)∧Ab No w w':=by
 have G:=Ad h
 obtain⟨a,cap,rfl,U,H,-⟩:=h
 obtain⟨n,m⟩:∃n,os.length=n:=⟨_,rfl⟩
 have V:=Ad m
 rw[m] at U T G
 rw[m]
 have am:cap≤9223372036854775807:=by unfold maxLen at H;omega
 have I:=Ad (I5.start S);clear m H
 go_enter Tryz.func12,Tryz.ntmps12
 go_wp2_with fail
 obtain⟨p,r⟩:∃p,w.alloc (.cells #[.slice none 0 0] 64)=p:=⟨_,rfl⟩
 rw[r]
 obtain⟨J,K⟩:=I.o p r.symm
 have s:=Ad (GF J K (fun q X=>by cases X) (by simp))
 unfold pV at s;clear J K r I;refine s.o.mono ?_;rintro e Y ⟨rfl,L⟩;have Z:oH (I5 w w.heap.size 1 Y):=L;clear L s;go_wp2_with fail
 go_loopg [7] n (fun k aa wr=>∃i:Nat,i+k=n∧aa=.int .i64 (i:Int)∧oH (I5 w w.heap.size (i+1) wr))
 case atStart=>exact⟨0,by omega,rfl,Z⟩
 case round =>
  obtain⟨i,_,rfl,d⟩:=hrel
  by_cases ab:gk=0
  ·subst ab
   have ac:¬(i:Int)<(n:Int):=by omega
   go_wp2_with fail;go_ret
   exact⟨rfl,d.o.kept⟩
  ·obtain⟨k,rfl⟩:∃k,gk=k+1:=⟨gk-1,by omega⟩
   have ac:(i:Int)<(n:Int):=by omega
   have an:(0:Int)≤(i:Int):=by omega
   obtain⟨o,M⟩:∃o,os[i]? =some o:=⟨_,kT (by have:=V.o;omega)⟩
   obtain⟨_,_,ad,_,_,N⟩:=G.o
   injection ad with e1 ae af
   subst e1 af
   obtain⟨t,b,f,rfl,g,u,x,y,z,A⟩:=N i o M
   obtain⟨ok,O,on,j,P⟩:=o
   simp only at u x y z A
   have c:=d.o.kept;have ao:=(c.cell g oI).trans u;have ap:=(c.cell g oI).trans x;have aq:=(c.cell g oI).trans y;have ar:=(c.cell g oI).trans z;have au:=(c.cell g oI).trans A;have B:j.size≤maxLen:=t.2
   have Q:=Ad (fun W=>RJ j W B)
   have C:=Ad (fun W (ag:I5 w w.heap.size (i+1) W) (ah:ok=4→VO j)=>YJ ag (by omega) ok O on j P t.1 B ah)
   unfold pV at C
   have ai:oH (I5 w w.heap.size (i+1+1) wr):=d.o.mono (by omega)
   clear N ae M t u x y z A c B;go_wp2_with fail;refine (Q.o _).mono ?_;rintro e w3 ⟨⟨aj,rfl,R⟩,ak⟩;have al:=Ad R;clear R;subst ak;have D:oH (I5 w w.heap.size (i+1) (wr.alloc (.cells #[.int .i64 ok,.int .i64 O,.int .i64 on,.string j,.string P] 66))):=d.o.Bw ((Ab.refl No wr).alloc _);clear d ai Q
   by_cases E:ok=4
   ·subst E
    cases aj with
    |false =>
     go_wp2_with fail;go_roundg k
     case measure=>omega
     case rel=>exact⟨i+1,by omega,by go_num,Ad (D.o.mono (by omega))⟩
    |true =>
     go_wp2_with fail
     refine (C.o _ D.o (fun _=>al.o (by simp))).mono ?_
     rintro e w4 ⟨rfl,l⟩;have F:=Ad l;clear l;go_wp2_with fail;go_roundg k
     case measure=>omega
     case rel=>exact⟨i+1,by omega,by go_num,F⟩
   ·have av:(ok == 4)=false:=by simpa using E
    go_wp2_with fail
    refine (C.o _ D.o (fun e=>absurd e E)).mono ?_
    rintro e w4 ⟨rfl,l⟩;have F:=Ad l;clear l;go_wp2_with fail;go_roundg k
    case measure=>omega
    case rel=>exact⟨i+1,by omega,by go_num,F⟩
theorem KQ (v:Value)(os:List gC)(w:World)(a:Se w)(h:MW w v os)(b:os.length≤3000000000000) :
 Calls Tryz.prog 3 #[v] w fun e w'=>e=.returned (.bool true)∧Ab No w w':=by
 have d:=Ad (fun W (k:Ab No w W)=>RN v os w a h b)
 clear a h b
 go_enter Tryz.func3,Tryz.ntmps3
 go_wp2_with fail;refine (d.o _ (Ab.refl _ _)).mono ?_;rintro e g ⟨rfl,c⟩;have f:=Ad c;clear c;go_wp2_with fail;go_ret
 exact⟨rfl,f.o⟩
open Go.ChangeShapes Go.WideShapes Go.ChangeAt Go.RowKit Go.Deep
theorem Tryz.own:ownKnob Tryz.prog.godebug=none:=by kernel_rfl
theorem Tryz.laidOut:laidOutB Tryz.prog=true:=by kernel_rfl
theorem cO:Tryz.prog.cellsOf 66=5:=by kernel_rfl
theorem cP:Tryz.prog.bytesOf 66=56:=by kernel_rfl
theorem RO:Tryz.prog.cellsOf 3=1:=by kernel_rfl
theorem RS:Tryz.prog.cellsOf 9=1:=by kernel_rfl
theorem GG {α:Type}(P:Nat→α→Prop):∀n:Nat,(∀i,i<n→∃a,P i a)→∃l:List α,l.length=n∧∀i a,l[i]? =some a→P i a
 |0,_=>⟨[],rfl,fun i a h=>by simp at h⟩
 |n+1,h=>by
  obtain⟨l,d,f⟩:=GG P n fun i hi=>h i (by omega)
  obtain⟨a,g⟩:=h n (by omega)
  refine⟨l++[a],by simp[d],fun i b c=>?_⟩
  by_cases hi:i<l.length
  ·rw[lA hi] at c;exact f i b c
  ·rw[kY (by omega)] at c
   have j:i-l.length=0:=by have:=(kS.1 c).1;simp at this;omega
   rw[j] at c
   have e:a=b:=by simpa using c
   have k:i=n:=by omega
   rw[←e,k];exact g
theorem gD {C:Type}{enc:TypeId×Value→C}{W:World}{v:Value}{fuel:Nat}{x:DataW C×List MemPlace}(h:DataW.trod enc Tryz.prog W 0 (fun _=>true) true fuel 22 [v]=some x) :
 ∃os,MW W v os∧(os≠[]→∃es P,x.1=.slice es P∧es.length=os.length):=by
 rcases open_slice Tryz.underlying22 h with ⟨Hg,_⟩|⟨ad,l,c,m,n,D,Pl,Hg,_,hl,hm,hmm,hxe,hx⟩
 ·have e:v=.slice none 0 0:=by simpa using Hg
  exact⟨[],⟨none,0,e,kZ _,mB _,fun i r hr=>by simp at hr⟩,fun Q=>absurd rfl Q⟩
 ·have e:v=.slice (some ad) l c:=by simpa using Hg
  subst e
  rw[cO] at hx
  simp at hmm
  subst hmm
  obtain⟨rs,A,E⟩:=GG (fun i (r:gC)=>r.ok∧W.cell? ((ad.add (i*5)).add 0)=some (.int .i64 r.k)∧W.cell? ((ad.add (i*5)).add 1)=some (.int .i64 r.c)∧W.cell? ((ad.add (i*5)).add 2)=some (.int .i64 r.n)∧W.cell? ((ad.add (i*5)).add 3)=some (.string r.s)∧W.cell? ((ad.add (i*5)).add 4)=some (.string r.t)) l (fun i hi=>by
   obtain⟨a,R,S⟩:=hx i (by omega)
   obtain⟨_,p,s⟩:=World.cells?_some R
   obtain⟨u,_,_,_,_,T,w⟩:=DataW.trod_struct Tryz.underlying66 S
   have F:=w 0 _ rfl;have G:=w 1 _ rfl;have H:=w 2 _ rfl;have I:=w 3 _ rfl;have J:=w 4 _ rfl
   simp at T
   rw[kT (show 0<u.length by omega)] at F
   rw[kT (show 1<u.length by omega)] at G
   rw[kT (show 2<u.length by omega)] at H
   rw[kT (show 3<u.length by omega)] at I
   rw[kT (show 4<u.length by omega)] at J
   obtain⟨g,hg,_,_⟩:=DataW.trod_int Tryz.underlying3 F
   obtain⟨t,d,_,wt⟩:=DataW.trod_int Tryz.underlying3 G
   obtain⟨q,f,_,_⟩:=DataW.trod_int Tryz.underlying3 H
   obtain⟨k,j,_,U⟩:=DataW.trod_string Tryz.underlying9 I
   obtain⟨K,o,_,_⟩:=DataW.trod_string Tryz.underlying9 J
   have hg:(a.drop 0).take (Tryz.prog.cellsOf 3)=[.int .i64 g]:=hg;have d:(a.drop 1).take (Tryz.prog.cellsOf 3)=[.int .i64 t]:=d;have f:(a.drop 2).take (Tryz.prog.cellsOf 3)=[.int .i64 q]:=f;have j:(a.drop 3).take (Tryz.prog.cellsOf 9)=[.string k]:=j;have o:(a.drop 4).take (Tryz.prog.cellsOf 9)=[.string K]:=o
   rw[RO] at hg d f
   rw[RS] at j o
   have V: -9223372036854775808≤t∧t≤9223372036854775807:=by
    have:IntKind.i64.min≤t∧t≤IntKind.i64.max:=by simpa [Lit.wf] using wt
    exact this
   refine⟨⟨g,t,q,k,K⟩,⟨V,U⟩,?_,?_,?_,?_,?_⟩
   ·rw[s 0 (by omega)]
    match a,p,hg with
    | [c0,c1,c2,y,z],_,hg=>simpa using hg
   ·rw[s 1 (by omega)]
    match a,p,d with
    | [c0,c1,c2,y,z],_,d=>simpa using d
   ·rw[s 2 (by omega)]
    match a,p,f with
    | [c0,c1,c2,y,z],_,f=>simpa using f
   ·rw[s 3 (by omega)]
    match a,p,j with
    | [c0,c1,c2,y,z],_,j=>simpa using j
   ·rw[s 4 (by omega)]
    match a,p,o with
    | [c0,c1,c2,y,z],_,o=>simpa using o)
  refine⟨rs,⟨some ad,m,by rw[A],by rw[A];exact hl,hm,fun i r hr=>?_⟩,fun _=>⟨_,_,by rw[hxe],by simp[A]⟩⟩
  obtain⟨X,B,L,M,N,O⟩:=E i r hr
  obtain⟨b,Y,Z⟩:=ad
  obtain⟨r0,aa⟩:∃r0,rs[0]? =some r0:=⟨_,kT (Nat.lt_of_le_of_lt (mB i) (kS.1 hr).1)⟩
  have ab:Z=none:=by simpa [Addr.add] using World.cell?_spot (E 0 r0 aa).2.1
  subst ab
  rw[add_add,Addr.add_lit] at B L M N O
  exact⟨X,b,Y,rfl,World.block_lt_of_cell? W _ B,B,by rw[mT];exact L,by rw[mT];exact M,by rw[mT];exact N,by rw[mT];exact O⟩
theorem YK:Tryz.pinned.checked.prog.funcNamed Rows.plainRow.func=some 3:=by kernel_rfl
theorem YL:joinedFacts Tryz.pinned.checked.prog 3 Tryz.f3 Rows.plainSpec Rows.plainRow=true:=by kernel_rfl
theorem YM:Tryz.f3.isWrapper Tryz.pinned.checked.prog Rows.plainRow.wrapper Rows.plainRow.mainSum:=by unfold Func.isWrapper;first|(rw[if_pos (by decide +kernel)];kernel_rfl)|(rw[if_neg (by decide +kernel)];exact⟨rfl,rfl⟩)
theorem YN:Tryz.f3.isInstance Tryz.pinned.checked.prog Rows.plainRow.origin Rows.plainRow.targs:=of_decide_eq_true (by kernel_rfl)
theorem RU {W:World}(h:laidMetH Tryz.prog Rows.plainRow.laid W):Se W:=by
 rw[MakeChecks.laidMetH_plain _ _ _ (by kernel_rfl)] at h
 obtain⟨g,t,cs,fuel,p,hg,b,c,a⟩:=Lib.laidMet.reads h (n := "internal/strconv.uint64pow10") (d:=Rows.laid_internal_strconv_uint64pow10) (by simp[Rows.plainRow])
 have e:Tryz.prog.globalNamed "internal/strconv.uint64pow10"=some 1:=by kernel_rfl
 obtain rfl:=nM (e.symm.trans hg)
 have f:(Tryz.prog.globals[1]?).map (·.type)=some 352:=by kernel_rfl
 obtain rfl:=nM (f.symm.trans b)
 have i:(Rows.laid_internal_strconv_uint64pow10:DataW Unit)=Lib.tabData .u64 Lib.pow10Tab:=by kernel_rfl
 rw[i] at a
 show Lib.TabIs _ _ _ _ _
 unfold Lib.TabIs
 rw[c,←Lib.cells_of_tab Tryz.underlying352 Tryz.underlying300 (by kernel_rfl) (by kernel_rfl) a]
theorem BO (os:Os)(u:os.Started)(y:Type)(enc:TypeId×Value→y) :
 ReturnsInHanded {} Tryz.checked os 3 .any (fun w args=>(Rows.plainSpec.pre enc Tryz.prog Tryz.f3 [] false w args∧laidMetH Tryz.prog Rows.plainRow.laid w)∧sizedMet enc Tryz.prog Tryz.f3 (OpenSpec.ofChange Rows.plainSpec) false w args)
  (Rows.plainSpec.post enc Tryz.prog Tryz.f3 false true false false):=by
 refine returnsInHanded_of_change_and (C:=Tryz.checked) (X:=fun w _=>laidMetH Tryz.prog Rows.plainRow.laid w) (fun _ _ _ z h=>h.of_heap z) Tryz.own u (by kernel_rfl) Tryz.func3
  (ChangeSpec.witness_shaped (enc:=enc) (C:=Tryz.checked) (os:=os) (X:=fun w _=>laidMetH Tryz.prog Rows.plainRow.laid w) false (World.laidAll Tryz.prog os Rows.plainRow.laid) #[.slice none 0 0] 8 (World.laidAll_os _ _ _)
   (World.shaped_of_ZipB (by kernel_rfl) (by kernel_rfl)) (by kernel_rfl) (by kernel_rfl) (by kernel_rfl)
   (by rw[MakeChecks.laidMetH_plain _ _ _ (by kernel_rfl)];exact laidMet_laidAll _ (by kernel_rfl) (by kernel_rfl))) ?_
 intro W base args A N O c d _ B D _;have f:∀(j:Nat) t v,Tryz.f3.params[j]? =some t→args[j]? =some v→Value.okWide Tryz.prog W .any base t v:=c;have E:=d
 obtain⟨p,q,g,F,rfl,_,_⟩:=d
 have i:DataW.TrodAll enc Tryz.prog W 0 (fun _=>true) true Tryz.f3.params.toList args.toList A p:=g
 rw[Tryz.params3] at i f
 obtain⟨b,k,rfl,rfl,l⟩:=trodAll_one i
 obtain⟨rfl,rfl⟩:=trodVars_none F
 have n:=l
 have G:∀x∈p,x.block<W.heap.size:=by obtain⟨m,H⟩:=n;exact DataW.trod_lt m _ _ _ H
 obtain⟨r0,I,J⟩:∃os,MW W b os∧(os≠[]→∃es a,k=.slice es a∧es.length=os.length):=by
  obtain⟨a1,_,_,rfl⟩:=okWide_slice Tryz.underlying22 (f 0 22 b rfl rfl)
  obtain⟨fuel,hf⟩:=l
  exact gD (x:=(k,p)) (by simpa [Value.cells] using hf)
 have K:r0.length≤3000000000000:=by
  by_cases o:r0=[]
  ·rw[o];simp
  ·obtain⟨es,a,rfl,_⟩:=J o
   have r:(es.length+a.length)*Tryz.prog.bytesOf 66≤reachBytes:=sized_slice B (j:=0) (t:=22) (e:=66) (elems:=es) (spare:=a) rfl rfl Tryz.underlying22
   rw[cP] at r
   unfold reachBytes at r;omega
 clear g c
 refine (KQ b r0 W (RU D) I K).mono fun e P ⟨L,M⟩=>?_
 subst L;have s:=M.toBelow
 exact⟨_,rfl,_,_,_,[],_,[],E,trodAll_mk1 (shut_bool Tryz.underlying4 _),(trodAll_mk1 (Below.trod Tryz.laidOut (by kernel_rfl) (of_decide_eq_true (by kernel_rfl)) n s G)),rfl,s.frame _,fun h=>by cases h⟩
theorem GH:Rows.PlainSaid :=
 OpenClaim.holds_of_wide 3 Tryz.f3 rfl rfl rfl rfl rfl rfl rfl ⟨rfl,rfl,rfl,rfl,rfl⟩ rfl rfl rfl rfl rfl YK Tryz.func3 YL YN YM
  (fun os a b enc _=>BO os a b enc)
theorem plain_card:Rows.PlainCardSaid :=
 Claim7.holds_tied_plain_at .later [] [.data,.data,.data,.data,.sentinel,.sentinel,.pinned] true (true, "0d3c75a6b554341e587c90e6635eed0ee75e272e87a790cb3e947bc0305c5a0b") true
  GH (fun _ h=>by cases h) (by kernel_rfl) (fun _ h=>by cases h) plain_row_tie rfl ⟨rfl,rfl⟩ (by kernel_rfl) rfl
  (fun f b hf c=>by
    obtain rfl:f=3:=nM ((show Tryz.prog.funcNamed "ripple/ripplelaw.Plain"=some 3 by kernel_rfl).symm.trans hf)|>.symm
    obtain rfl:b=Tryz.f3:=(nM (Tryz.func3.symm.trans c)).symm
    exact⟨by kernel_rfl,fun j t a=>by
     rw[Tryz.params3] at a
     have d:t∈[22]:=by simpa using Array.mem_of_getElem? a
     have e:([22].all fun g=> !Tryz.prog.wantsStandIn g)=true:=by kernel_rfl
     exact (show Tryz.prog.wantsStandIn t=false by simpa using lO.1 e t d)⟩)
  (by kernel_rfl)
end Go.Proofs.YtdinjjmcmfjbfaaGreatDoor
