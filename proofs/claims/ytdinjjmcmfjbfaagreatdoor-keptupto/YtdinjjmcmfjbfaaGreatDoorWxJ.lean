import Derived.Test.YtdinjjmcmfjbfaaGreatDoorCzJ
import Derived.RangeFuncNested
import Derived.RangeFuncBound
import Derived.RangeFuncCalls
import Derived.RangeFuncLeaves
import Derived.RangeFuncBox
import Derived.Shelf.Abstract
import Derived.Shelf.RegionOpen
import Derived.OwnWalkIn
import Derived.TacticsInMore
import Derived.LoopNIn
import Derived.LoopIn
import Derived.Maps.AppendAt
import Derived.Sort.MapsRangeIn
import Derived.Deep.AppendLies
import Derived.Shelf.SlSortCmp.NoneTotal
import Derived.Shelf.SlGeneric
import Derived.Ground.SlsfProg
import Derived.Test.YtdinjjmcmfjbfaaGreatDoorProg
import Derived.Test.YtdinjjmcmfjbfaaGreatDoorLeJ
set_option maxRecDepth 100000
set_option maxHeartbeats 4000000
namespace Go.Proofs.YtdinjjmcmfjbfaaGreatDoor
open Go.RowKit Go.Shelf
open Go.Maps (Keyed)
open Mo (V Row Bag cnt canon)
attribute [local go_sem] Oper.semAt_some
section
variable {F:Fence} {nF:Nat} (w:World) {ops:Array Oper} {rest:List Oper} {o:Oper} {a:Act} {Q:Exit→Act→World→Prop} {κ:Type} {K:TypeId} {enc:κ→Value} {ok:κ→Prop} (E:KE K enc ok)
include E
theorem wpListIn_range_map (hg:o.guard=none) (mo:Operand) (t e:TypeId) (hop:o.op=Op.range t mo) (ht:Tryz.prog.underlying t=some (.map K e)) (b:Nat) (m:κ→Option Value) (hm:a.eval mo=.map (some b)) (hown:MapIs K enc ok w b m)
 (hK:∀ w' cnt,Rng K enc ok w' b w.heap.size m [] cnt→w.grownBy w' none→w'.heap.size=w.heap.size+1→wpListIn F nF Tryz.prog ops Q rest (a.put o.dst (.pointer (some ⟨w.heap.size,0,none⟩))) w'):wpListIn F nF Tryz.prog ops Q (o::rest) a w:=by
 obtain ⟨D,ho,hd⟩:=hown;refine wpListIn_range_own w hg mo t hop K e (Keyed.of_law E.law) ht tok b _ D hm ho ?_;intro w' h1 h2 h3
 exact hK w' _ ⟨D,_,h1,hd,⟨List.nodup_nil,fun {v l} _ _=>by cases Maps.has D l <;> simp⟩,by simp⟩ h2 h3
theorem wpListIn_next_map (hg:o.guard=none) (it:Operand) (hop:o.op=Op.next it false) (b r:Nat) (m:κ→Option Value) (ps:List (κ × Value)) (cnt:Nat) (hit:a.eval it=.pointer (some ⟨r,0,none⟩)) (h:Rng K enc ok w b r m ps cnt)
 (hDone:Full m ps→wpListIn F nF Tryz.prog ops Q rest (a.put o.dst (.tuple #[.bool false])) w)
 (hMore:∀ (k:κ) (v:Value) (w':World) (cnt':Nat),ok k→m k=some v→(∀ u,(k,u)∉ps)→Rng K enc ok w' b r m (ps++[(k,v)]) cnt'→cnt'<cnt→w.grownBy w' (some r)→w'.heap.size=w.heap.size →
   (Instr.entry (.pointer (some ⟨r,0,none⟩))).run Tryz.prog w'=.ok (.tuple #[enc k,v]) w'→wpListIn F nF Tryz.prog ops Q rest (a.put o.dst (.tuple #[.bool true,enc k,v])) w'):wpListIn F nF Tryz.prog ops Q (o::rest) a w:=by
 obtain ⟨D,left,hr,hd,hC,hv⟩:=h
 refine wpListIn_next_ranges w hg it hop K (Keyed.of_law E.law) tok (id:Value→Value) id (fun key _ _=>⟨key,rfl⟩) (fun v _ _=>⟨v,rfl⟩) b r _ D left cnt hit hr ?_ ?_
 ·intro _ hl
  refine hDone ⟨hC.nodup,fun k v=>⟨fun hk=>hv _ hk,fun hk=> ?_⟩⟩
  have hok:=hd.dom hk;obtain ⟨l,hkl⟩:=E.key hok
  have h1:Maps.has D l=true:=by rw [hd.has hok hkl,hk];rfl
  obtain ⟨p,hp,rfl⟩:=List.mem_map.1 ((hC.mem hok hkl).2 ⟨h1,hl _⟩)
  have:=hv p hp
  rw [hk] at this
  have:v=p.2:=by simpa using this
  subst this;exact hp
 ·intro kv v kl y w' cnt' hkey hlk hR hat hrg hlt hgr hsz hen
  have hhas:Maps.has D kl=true:=Maps.has_true_of_atKey hat;obtain ⟨k,hok,hke⟩:=hd.all hhas;obtain rfl:kv=enc k:=E.law.inj hkey hke;have hkey:keyOf Tryz.prog K (enc k)=some kl:=hkey
  have hy:y=(.held v,[]):=by simpa [tok] using hR.symm
  subst hy
  have hmx:m k=some v:=by
   cases hm:m k with
   | none=>rw [hd.has hok hkey,hm] at hhas;cases hhas
   | some u=>have h1:=hd.hit hkey hm .nil;have h2:=hat .nil;rw [h1] at h2;simpa using h2
  have hnew:k∉ps.map (·.1):=fun hx=>by have:=((hC.mem hok hkey).1 hx).2;rw [hlk] at this;cases this
  refine hMore k v w' cnt' hok hmx (fun u hu=>hnew (List.mem_map.2 ⟨_,hu,rfl⟩)) ⟨D,_,hrg,hd,⟨?_,?_⟩,fun p hp=> ?_⟩ hlt hgr hsz hen
  ·rw [List.map_append]
   exact List.nodup_append.2 ⟨hC.nodup,by simp,fun a ha b hb=>by simp at hb;subst hb;exact fun e=>hnew (e ▸ ha)⟩
  ·intro x l hxo hx
   by_cases e:x=k
   ·subst e
    have e1:l=kl:=by have:=hx.symm.trans hkey;simpa using this
    subst e1
    simp [hhas,WideAt.sameKey_self ((Keyed.of_law E.law).key hkey)]
   ·have hne:l≠kl:=fun e2=>e (E.inj hxo hok (E.law.inj hx (e2 ▸ hkey)))
    have hs:l.sameKey kl=false:=by
     cases hs:l.sameKey kl
     ·rfl
     ·exact absurd (WideAt.sameKey_eq hs) hne
    rw [List.map_append,List.mem_append,hC.mem hxo hx]
    simp [hs,e]
  ·rcases List.mem_append.1 hp with hp | hp
   ·exact hv p hp
   ·simp at hp;subst hp;simpa using hmx
end
section
variable {κ:Type} {K:TypeId} {enc:κ→Value} {ok:κ→Prop} {w w':World} {b r:Nat} {m:κ→Option Value} {ps:List (κ × Value)} {c:Nat}
theorem Rng.walks (h:Rng K enc ok w b r m ps c) (k:KeepsWalks w w'):Rng K enc ok w' b r m ps c:=by
 obtain ⟨D,left,h1,h2⟩:=h;exact ⟨D,left,h1.of_walks k,h2⟩
theorem Rng.iter_walk (h:Rng K enc ok w b r m ps c):∃ o:Obj,w.heap[r]? =some o∧o.isWalk=true:=by
 obtain ⟨D,left,h1,_⟩:=h;exact h1.iter_walk
theorem Rng.left (h:Rng K enc ok w b r m ps c):w.rangeLeft b r=c:=by
 obtain ⟨D,left,h1,_⟩:=h;exact h1.left_eq
theorem Rng.len [DecidableEq κ] {N:Nat} (h:Rng K enc ok w b r m ps c) (hN:Cov m N):ps.length≤N:=by
 obtain ⟨D,left,_,_,hC,hv⟩:=h;obtain ⟨ks,hl,hk⟩:=hN
 have:=length_le_of_sub hC.nodup (fun x hx=>by obtain ⟨p,hp,rfl⟩:=List.mem_map.1 hx;exact hk _ (by rw [hv p hp];rfl))
 simp at this;omega
end
abbrev encQ (q:Row):Array Value:=#[.agg (rowA q)]
section
variable {F:Fence} {nF:Nat} {w:World} {ops:Array Oper} {rest:List Oper} {o:Oper} {a:Act} {Q:Exit→Act→World→Prop} {r:Row}
theorem loadIn_row (x:Operand) (ho:o.op=.load 154 x) (hgd:o.guard=none) (g:Nat) (hx:a.eval x=.pointer (some ⟨g,0,none⟩)) (r:Row) (hg:w.heap[g]? =some (.cells (rowA r) 154 (0,0)))
 (h:wpListIn F nF Tryz.prog ops Q rest (a.put o.dst (.agg (rowA r))) w):wpListIn F nF Tryz.prog ops Q (o::rest) a w:=by
 refine wpListIn_plain hgd fun K hK=> ?_
 have hr:=run_loadVar_row w g 154 154 (rowA r) (0,0) _ hg Tryz.underlying154 rfl (by rw [rowA_size];exact infoRow)
 unfold Oper.wpIn
 refine ⟨by simp [Oper.about,ho],?_⟩
 rw [Oper.semAt_plain F _ _ (by rw [ho];intro c hc';cases hc')]
 simp only [execOp,ho,hx,Instr.loadAt,Instr.sureAddr,Sem.run_bind,Sem.run_pure,Result.andThen_ok,hr];exact hK _ _ h
theorem storeIn_row_new (x y:Operand) (ho:o.op=.store 154 x y) (hgd:o.guard=none) (w0:World) (old:Array Value) (hw:w=w0.alloc (.cells old 154)) (hs:old.size=37) (hx:a.eval x=.pointer (some ⟨w0.heap.size,0,none⟩)) (r:Row) (hy:a.eval y=.agg (rowA r))
 (h:wpListIn F nF Tryz.prog ops Q rest (a.put o.dst undef) (w0.alloc (.cells (rowA r) 154))):wpListIn F nF Tryz.prog ops Q (o::rest) a w:=by
 subst hw
 refine wpListIn_plain hgd fun K hK=> ?_
 have hr:=run_storeVar_row (P:=Tryz.prog) (w0.alloc (.cells old 154)) w0.heap.size 154 154 old (rowA r) (heap_alloc_last _ _) (by rw [rowA_size];exact infoRow) (by rw [rowA_size];exact hs) (rowA_one r)
 rw [World.setRow_alloc_new] at hr;unfold Oper.wpIn
 refine ⟨by simp [Oper.about,ho],?_⟩
 rw [Oper.semAt_plain F _ _ (by rw [ho];intro c hc';cases hc')]
 simp only [execOp,ho,hx,hy,Instr.storeAt,Instr.sureAddr,Sem.run_bind,Sem.run_pure,Result.andThen_ok,hr];exact hK _ _ h
theorem buildIn_row (hb:∀ w:World,(Instr.buildSlice 150 1 #[(0,.agg (rowA r))]).run Tryz.prog w=.ok (.slice (some ⟨w.heap.size,0,none⟩) 1 1) (w.alloc (.cells (rowA r) 154))) (x:Operand) (ho:o.op=.buildSlice 150 1 #[(0,x)]) (hgd:o.guard=none) (hx:a.eval x=.agg (rowA r))
 (h:wpListIn F nF Tryz.prog ops Q rest (a.put o.dst (.slice (some ⟨w.heap.size,0,none⟩) 1 1)) (w.alloc (.cells (rowA r) 154))):wpListIn F nF Tryz.prog ops Q (o::rest) a w:=by
 refine wpListIn_plain hgd fun K hK=> ?_
 have hr:=hb w;unfold Oper.wpIn
 refine ⟨by simp [Oper.about,ho],?_⟩
 rw [Oper.semAt_plain F _ _ (by rw [ho];intro c hc';cases hc')]
 simp only [execOp,ho,List.map_toArray,List.map_cons,List.map_nil,hx,Sem.run_bind,Result.andThen_ok,hr];exact hK _ _ h
theorem wpListIn_next_rows (hg:o.guard=none) (it:Operand) (hop:o.op=Op.next it false) (b r:Nat) (m:Row→Option Value) (ps:List (Row × Value)) (cnt:Nat) (hit:a.eval it=.pointer (some ⟨r,0,none⟩)) (h:Rng 154 aggR ROk w b r m ps cnt)
 (hDone:Full m ps→wpListIn F nF Tryz.prog ops Q rest (a.put o.dst (.tuple #[.bool false])) w)
 (hMore:∀ (k:Row) (v:Value) (w':World) (cnt':Nat),ROk k→m k=some v→Rng 154 aggR ROk w' b r m (ps++[(k,v)]) cnt'→cnt'<cnt→w.grownBy w' (some r)→w'.heap.size=w.heap.size →
   (Instr.entry (.pointer (some ⟨r,0,none⟩))).run Tryz.prog w'=.ok (.tuple #[.agg (rowA k),v]) w'→wpListIn F nF Tryz.prog ops Q rest (a.put o.dst (.tuple #[.bool true,.agg (rowA k),v])) w'):wpListIn F nF Tryz.prog ops Q (o::rest) a w :=
 wpListIn_next_map w rowKE hg it hop b r m ps cnt hit h hDone fun k v w' c' h1 h2 _ h4 h5 h6 h7 h8=>hMore k v w' c' h1 h2 h4 h5 h6 h7 h8
end
theorem keys1_in (F:Fence) (n:Nat) (h14:F.fn 119) (hro:F.round=none) (hn:1≤n) (l Bm b N:Nat) (m:Row→Option Value) (hN:Cov m N) (J Jx:List Row→World→Prop)
 (hY:∀ pre x W,J pre W→pre.length<N→YieldAt F (n-1) Tryz.prog l (encQ x) W fun e W'=>(e=.returned (.bool true)∧J (pre++[x]) W'∧KeepsWalks W W')∨(e=.returned (.bool false)∧Jx (pre++[x]) W'))
 (W:World) (hJ:AbidesFrom W.heap.size J) (hm:W.cell? ⟨Bm,0,none⟩=some (.map (some b))) (hown:MapIs 154 aggR ROk W b m) (h0:J [] W) :
 CallsIn F n Tryz.prog 119 #[.func (.yield l) #[] #[],.pointer (some ⟨Bm,0,none⟩)] W fun e W'=>(∃ v,e=.returned v) ∧
  ((∃ xs:List Row,xs.Nodup∧(∀ q,q∈xs↔(m q).isSome=true)∧J xs W')∨(∃ pre:List Row,True∧Jx pre W')):=by
 refine callsIn_of_wp Tryz.func119 rfl h14 ?_ hro;simp only [Tryz.ntmps119,List.size_toArray,List.length_cons,List.length_nil,Nat.reduceAdd,Nat.reduceSub,Array.replicate_succ,Array.replicate_zero,List.push_toArray,List.append_toArray,List.nil_append,List.cons_append]
 gi_wp2_with (first
  | (gi_at_range;refine wpListIn_range_map _ rowKE rfl _ 83 2 rfl Tryz.underlying83 b m rfl hown ?_;intro w0 c0 hrg0 hg0 hs0)
  | gi_in)
 go_frame
 gi_loopw [6] (fun _ wr=>∃ (c:Nat) (ps:List (Row × Value)),Rng 154 aggR ROk wr b W.heap.size m ps c∧J (ps.map (·.1)) wr)
  (fun _ wr=>wr.rangeLeft b W.heap.size)
 case atStart=>exact ⟨c0,[],hrg0,hJ [] W w0 none h0 hg0 (fun r e=>by cases e)⟩
 case round =>
  obtain ⟨c,ps,hrg,hJs⟩:=hrel
  gi_wp2_with (first
   | (gi_at_next;refine wpListIn_next_rows rfl _ rfl b W.heap.size m _ c rfl hrg ?_ ?_)
   | gi_in)
  ·intro hf
   gi_wp2
   go_end0
   exact ⟨⟨_,rfl⟩,.inl ⟨ps.map (·.1),hf.1,fun q=>⟨fun hq=>by obtain ⟨e,he,rfl⟩:=List.mem_map.1 hq;rw [(hf.2 e.1 e.2).1 he];rfl,fun hq=>by obtain ⟨v,hv⟩:=Option.isSome_iff_exists.1 hq;exact List.mem_map.2 ⟨_,(hf.2 q v).2 hv,rfl⟩⟩,hJs⟩⟩
  ·intro q v w2 c2 hq hv hrg2 hlt hg2 hs2 hen
   have hlen:=hrg2.len hN;simp only [List.length_append,List.length_cons,List.length_nil] at hlen
   have hJ2:J (ps.map (·.1)) w2:=hJ _ wr w2 (some W.heap.size) hJs hg2 (fun r e=>by cases e;exact ⟨Nat.le_refl _,hrg.iter_walk⟩)
   have hJ3:J (ps.map (·.1)) (w2.alloc (.cells (rowA q) 154)):=hJ _ w2 _ none hJ2 (World.grownBy_alloc w2 _ none) (fun r e=>by cases e)
   obtain ⟨fn,tmps,assign,body,hy,hR⟩:=hY (ps.map (·.1)) q _ hJ3 (by simp;omega)
   dsimp only [encQ] at hy
   clear hs2 hlen hJ2 hJ3 hv
   gi_wp2_with (first
    | (refine storeIn_row_new _ _ rfl rfl w2 _ rfl rfl rfl q rfl ?_)
    | (refine loadIn_row _ rfl rfl w2.heap.size rfl q (heap_alloc_last w2 _) ?_)
    | gi_in)
   refine hR.mono ?_
   rintro e W3 (⟨rfl,hJ4,hk4⟩ | ⟨rfl,hJx4⟩)
   ·have hrg3:Rng 154 aggR ROk W3 b W.heap.size m (ps++[(q,v)]) c2:=(hrg2.walks (KeepsWalks.alloc _ _)).walks hk4
    have hJ5:J ((ps++[(q,v)]).map (·.1)) W3:=by rw [List.map_append];exact hJ4
    gi_wp2
    go_roundw
    case rel=>exact ⟨c2,_,hrg3,hJ5⟩
    case measure=>rw [hrg3.left,hrg.left];exact hlt
   ·gi_wp2
    refine bodyPost_ret (results_none rfl _ _ _) rfl ?_;exact ⟨⟨_,rfl⟩,.inr ⟨_,trivial,hJx4⟩⟩
def RFull (m:Row→Option Value) (xs:List Row):Prop:=xs.Nodup∧∀ q,q∈xs↔(m q).isSome=true
theorem keys_stops (F:Fence) (n:Nat) (h14:F.fn 119) (hro:F.round=none) (hn:1≤n) (Bm b N:Nat) (m:Row→Option Value) (hN:Cov m N) (w:World) (hBm:Bm<w.heap.size)
 (hm:w.cell? ⟨Bm,0,none⟩=some (.map (some b))) (hown:MapIs 154 aggR ROk w b m) :
 SeqStopsK F n Tryz.prog 119 #[.pointer (some ⟨Bm,0,none⟩)] encQ KeepsWalks (RFull m) (fun _=>True) N w:=fun l J Jx W hW hJ _ hY h0 =>
 (keys1_in F n h14 hro hn l Bm b N m hN J Jx hY W hJ ((hW.cell (p:=⟨Bm,0,none⟩) hBm).trans hm) (hown.of_block (hW.block b hown.lt)) h0).mono fun _ _ ⟨h1,h2⟩=>⟨h1,h2.imp (fun ⟨xs,a,b,c⟩=>⟨xs,⟨a,b⟩,c⟩) id⟩
theorem keys_any (mv:Option Nat) (w:World):Calls Tryz.prog 69 #[.map mv] w fun e w'=>e=.returned (.func (.func 119) #[] #[.pointer (some ⟨w.heap.size,0,none⟩)])∧w'=w.alloc (.cells #[.map mv] 83):=by
 go_enter Tryz.func69,Tryz.ntmps69
 go_wp2
 go_ret;exact ⟨rfl,rfl⟩
def flatR (xs:List Row):List Value:=xs.flatMap fun q=>(rowA q).toList
theorem flatR_snoc (xs:List Row) (x:Row):flatR (xs++[x])=flatR xs++(rowA x).toList:=by simp [flatR]
theorem rowA_len (q:Row):(rowA q).toList.length=37:=by simp [rowA_size]
theorem infoRR:(Tryz.prog.info? 154).map (fun i=>(i.zero,i.size,i.bytes))=some (some (.agg (rowA [])),37,104):=by kernel_rfl
theorem build_row (r:Row) (w:World):(Instr.buildSlice 150 1 #[(0,.agg (rowA r))]).run Tryz.prog w=.ok (.slice (some ⟨w.heap.size,0,none⟩) 1 1) (w.alloc (.cells (rowA r) 154)):=by kernel_rfl
def BoxR (W:World) (B:Nat) (r:Row):Prop:=W.heap[B]? =some (.cells (rowA r) 154 (0,0))
theorem BoxR.lt {W:World} {B:Nat} {r:Row} (h:BoxR W B r):B<W.heap.size:=lt_of_heap h
theorem BoxR.new (W:World) (r:Row):BoxR (W.alloc (.cells (rowA r) 154)) W.heap.size r:=World.alloc_heap_new W _
theorem boxR_own {β:Type} (B:Nat) (r:Row):Own (fun (_:β) W=>BoxR W B r):=fun _ X _ _ hs hg hrow =>
 (hg.block B hs.lt (fun e'=>by obtain ⟨o,ho,hc⟩:=hrow B e'.symm;rw [show X.heap[B]? =_ from hs] at ho;cases ho;cases hc)).trans hs
theorem row_own1 (k b0:Nat) (N:Nat):OwnFrom N (fun (pre:List Row) W=>∃ v,Boxed W b0 150 v∧W.ownsRow b0 154 k v pre.length (flatR pre)∧(v=.slice none 0 0↔pre=[])) :=
 Own.from (holdsRow_own b0 b0 150 154 k (fun pre=>pre.length) (fun pre=>flatR pre) (fun pre v=>v=.slice none 0 0↔pre=[])) _
theorem row_own (w:World):OwnFrom (w.alloc (.cells #[.slice none 0 0] 150)).heap.size (fun (pre:List Row) W=>(∃ v,Boxed W w.heap.size 150 v∧W.ownsRow w.heap.size 154 37 v pre.length (flatR pre)∧(v=.slice none 0 0↔pre=[]))∧Below w.heap.size w W) :=
 OwnFrom.and (row_own1 37 w.heap.size _) (ownFrom_below (Nat.le_refl _) (by simp))
theorem appendSeq_in (F:Fence) (n:Nat) (h30:F.fn 152) (h14:F.fn 119) (hro:F.round=none) (hn:3≤n) (lb:Array Value) (S:List Row→Prop) (N:Nat) (hNb:N*104≤140737488355328) (w:World)
 (hseq:SeqStopsK F (n-1) Tryz.prog 119 lb encQ KeepsWalks S (fun _=>True) N w) :
 CallsIn F n Tryz.prog 152 #[.slice none 0 0,.func (.func 119) #[] lb] w fun e W' =>
  ∃ v xs,e=.returned v∧S xs∧W'.ownsRow w.heap.size 154 37 v xs.length (flatR xs)∧(v=.slice none 0 0↔xs=[])∧Below w.heap.size w W':=by
 have h1:1≤n:=by omega
 obtain ⟨i0,hi,hz0,hz1,hz2⟩:=info_parts infoRR;refine callsIn_of_wp_marks Tryz.func152 rfl h30 ?_ hro;simp only [Tryz.ntmps152,List.size_toArray,List.length_cons,List.length_nil,Nat.reduceAdd,Nat.reduceSub,Array.replicate_succ,Array.replicate_zero,List.push_toArray,List.append_toArray,List.nil_append,List.cons_append]
 gi_wp2
 have bO:=Boxed.new w 150 (.slice none 0 0);have hB0:Below w.heap.size w (w.alloc (.cells #[.slice none 0 0] 150)):=(Below.refl _ w).alloc (Nat.le_refl _) _
 refine wpIn_rangeFunc_ownH hro h1 (gf:=119) (lb:=lb) rfl h14 (enters_of Tryz.func119 (by kernel_rfl) rfl)
  hseq walksK_t walksK_b hB0 (fun _=>rfl)
  (fun pre W=>(∃ v,Boxed W w.heap.size 150 v∧W.ownsRow w.heap.size 154 37 v pre.length (flatR pre)∧(v=.slice none 0 0↔pre=[]))∧Below w.heap.size w W)
  (fun _ _ _=>False)
  (row_own w)
  (fun _ _ _ _ _ hs _ _=>hs)
  ⟨⟨_,bO,World.ownsRow_nil _ _ _ _,by simp⟩,hB0⟩
  (fun x a' W=>∃ Bx,w.heap.size<Bx∧BoxR W Bx x∧a'={ tmps:=#[.slice none 0 0,.func (.func 119) #[] lb,.pointer (some ⟨w.heap.size,0,none⟩),undef,.slice none 0 0,.pointer (some ⟨Bx,0,none⟩),.func (.func 119) #[] lb,.agg (rowA x),undef,undef,undef,undef,undef],defers:=[] })
  (fun x a' _ X Y row hs hg hr=>by obtain ⟨Bx,h1,h2,h3⟩:=hs;exact ⟨Bx,h1,boxR_own Bx x () X Y row h2 hg (fun r e=>(hr r e).2),h3⟩)
  ?assign ?body ?done ?stop
 case assign =>
  rintro l pre x W K ⟨⟨v,hv,hrow,hnil⟩,hB⟩ hK
  gi_wp2_with (first
   | (refine storeIn_row_new _ _ rfl rfl W _ rfl rfl rfl x rfl ?_)
   | gi_in)
  exact hK _ _ ((KeepsOthers.alloc _ _).from _) (KeepsWalks.alloc _ _) ⟨⟨v,hv.alloc _,hrow.alloc _,hnil⟩,hB.alloc hB.size _⟩ ⟨W.heap.size,hv.lt,BoxR.new W _,rfl⟩
 case body =>
  rintro l pre x a' W hl ⟨r,hr⟩ ⟨⟨v,hv,hrow,hnil⟩,hB⟩ ⟨Bx,hBx,bX,rfl⟩ hlt;have hc:=hv.cell;have hcn:=World.news_of_block (cs:=rowA x) (t:=154) (fr:=(0,0)) (heap_alloc_last W _)
  have hml:pre.length+1≤maxLen:=by unfold maxLen;omega
  gi_wp2_with (first
   | (refine loadIn_row _ rfl rfl Bx rfl x bX ?_)
   | (refine buildIn_row (build_row x) _ rfl rfl rfl ?_)
   | (gi_at_builtin;refine wpListIn_append_own _ rfl _ _ 150 rfl w.heap.size 154 i0 (.agg (rowA [])) 37 104 Tryz.underlying150 hi hz0 hz1 hz2 rfl (by decide) _ _ _ rfl (hrow.alloc _) ⟨W.heap.size,0,none⟩ 1 1 (rowA x).toList rfl (rowA_len x) hcn (fun u hu=>by have:=rowA_one x;rw [Array.all_eq_true_iff_forall_mem] at this;exact this u (by simpa using hu)) hml (by omega) (by have:=hB.size;simp;omega) ?_;intro v' w1 hown' hgrow _;obtain ⟨g',cap',rfl⟩:=ownsRow_succ hown';obtain ⟨hv1,hv2,hr2,hk2,hb2⟩:=hv.appended (by decide) hrow hB.size (Nat.le_refl _) hown' hgrow;have hc1:=hv1.cell;have hf1:=hv1.frozen)
   | gi_in)
  exact ⟨hk2.from _,hk2.walks,⟨_,hv2,by rw [flatR_snoc,List.length_append];exact hr2,by simp⟩,hB.trans hb2⟩
 case done =>
  rintro D ys W hD hS ⟨⟨v,hv,hrow,hnil⟩,hB⟩ hK;have hc:=hv.cell
  gi_wp2
  refine ⟨by simp,.inl ⟨_,_,rfl,run_takeDeferred hK,?_⟩⟩
  exact ⟨_,results_tmp rfl _ _ _,v,ys,rfl,hS,ownsRow_putObj hrow _ hK rfl,hnil,hB.trans (belowK_b (w:=w) (Nat.le_refl _) W D _ _ (by simp at hD;omega) hK rfl rfl)⟩
 case stop =>
  rintro D c pre W _ _ h _;exact h.elim
theorem collect_any (lb:Array Value) (S:List Row→Prop) (N:Nat) (hNb:N*104≤140737488355328) (w:World) (hseq:SeqStopsK Fence.wide 9 Tryz.prog 119 lb encQ KeepsWalks S (fun _=>True) N w) :
 Calls Tryz.prog 117 #[.func (.func 119) #[] lb] w fun e W'=>∃ v xs,e=.returned v∧S xs∧W'.ownsRow w.heap.size 154 37 v xs.length (flatR xs)∧(v=.slice none 0 0↔xs=[])∧Below w.heap.size w W':=by
 have hA:=callsIn_wide.1 (appendSeq_in Fence.wide 10 trivial trivial rfl (by omega) lb S N hNb w hseq)
 have HA:=hid hA;clear hA
 go_enter Tryz.func117,Tryz.ntmps117
 go_wp2_with fail;refine HA.out.mono ?_;rintro e w1 ⟨v,xs,rfl,h1,h2,h3,h4⟩;go_wp2_with fail;go_ret;exact ⟨v,xs,rfl,h1,h2,h3,h4⟩
end Go.Proofs.YtdinjjmcmfjbfaaGreatDoor
namespace Go.Proofs
open Go.Shelf
def Tryz.sortEnt_ren:Go.Shelf.Ren:=⟨fun | 6=>118 | 15=>154 | 14=>153 | 28=>188 | 29=>189 | 20=>180 | 21=>181 | 22=>182 | 23=>183 | 24=>184 | 25=>185 | 26=>186 | 27=>187 | 46=>205 | 47=>206 | 48=>207 | 49=>208 | 50=>209 | 57=>222 | n=>n,fun | 22=>150 | 24=>154 | 25=>158 | 3=>3 | 39=>290 | 0=>0 | 53=>315 | 55=>300 | 4=>4 | 46=>322 | 45=>321 | 50=>147 | 5=>5 | 9=>9 | 66=>343 | 70=>313 | 76=>361 | 77=>192 | n=>n,fun | n=>n⟩
theorem Tryz.sortEnt:Go.Proofs.SlLaysF0.n6 Tryz.prog Tryz.sortEnt_ren:={
 mixed:=by kernel_rfl
 f6:=⟨Tryz.f118.name,by decide,Tryz.func118.trans (congrArg some (by kernel_rfl))⟩
 f14:=⟨Tryz.f153.name,by decide,Tryz.func153.trans (congrArg some (by kernel_rfl))⟩
 f15:=Tryz.func154.trans (congrArg some (by kernel_rfl))
 f20:=⟨Tryz.f180.name,by decide,Tryz.func180.trans (congrArg some (by kernel_rfl))⟩
 f21:=⟨Tryz.f181.name,by decide,Tryz.func181.trans (congrArg some (by kernel_rfl))⟩
 f22:=⟨Tryz.f182.name,by decide,Tryz.func182.trans (congrArg some (by kernel_rfl))⟩
 f23:=⟨Tryz.f183.name,by decide,Tryz.func183.trans (congrArg some (by kernel_rfl))⟩
 f24:=⟨Tryz.f184.name,by decide,Tryz.func184.trans (congrArg some (by kernel_rfl))⟩
 f25:=⟨Tryz.f185.name,by decide,Tryz.func185.trans (congrArg some (by kernel_rfl))⟩
 f26:=⟨Tryz.f186.name,by decide,Tryz.func186.trans (congrArg some (by kernel_rfl))⟩
 f27:=⟨Tryz.f187.name,by decide,Tryz.func187.trans (congrArg some (by kernel_rfl))⟩
 f28:=Tryz.func188.trans (congrArg some (by kernel_rfl))
 f29:=Tryz.func189.trans (congrArg some (by kernel_rfl))
 f46:=⟨Tryz.f205.name,by decide,Tryz.func205.trans (congrArg some (by kernel_rfl))⟩
 f47:=Tryz.func206.trans (congrArg some (by kernel_rfl))
 f48:=Tryz.func207.trans (congrArg some (by kernel_rfl))
 f49:=⟨Tryz.f208.name,by decide,Tryz.func208.trans (congrArg some (by kernel_rfl))⟩
 f50:=⟨Tryz.f209.name,by decide,Tryz.func209.trans (congrArg some (by kernel_rfl))⟩
 f57:=⟨Tryz.f222.name,by decide,Tryz.func222.trans (congrArg some (by kernel_rfl))⟩
 t0:=Tryz.underlying0
 a0:=Tryz.isAgg0
 z0:=Tryz.sizeOf0
 v0:=Tryz.zeroValue0
 t3:=Tryz.underlying3
 a3:=Tryz.isAgg3
 z3:=Tryz.sizeOf3
 v3:=Tryz.zeroValue3
 t4:=Tryz.underlying4
 a4:=Tryz.isAgg4
 z4:=Tryz.sizeOf4
 v4:=Tryz.zeroValue4
 t5:=Tryz.underlying5
 a5:=Tryz.isAgg5
 z5:=Tryz.sizeOf5
 v5:=Tryz.zeroValue5
 t9:=Tryz.underlying9
 a9:=Tryz.isAgg9
 z9:=Tryz.sizeOf9
 v9:=Tryz.zeroValue9
 t22:=Tryz.underlying150
 a22:=Tryz.isAgg150
 z22:=Tryz.sizeOf150
 v22:=Tryz.zeroValue150
 t25:=Tryz.underlying158
 a25:=Tryz.isAgg158
 z25:=Tryz.sizeOf158
 v25:=Tryz.zeroValue158
 t39:=Tryz.underlying290
 a39:=Tryz.isAgg290
 z39:=Tryz.sizeOf290
 v39:=Tryz.zeroValue290
 t45:=Tryz.underlying321
 a45:=Tryz.isAgg321
 z45:=Tryz.sizeOf321
 v45:=Tryz.zeroValue321
 t46:=Tryz.underlying322
 a46:=Tryz.isAgg322
 z46:=Tryz.sizeOf322
 v46:=Tryz.zeroValue322
 t50:=Tryz.underlying147
 a50:=Tryz.isAgg147
 z50:=Tryz.sizeOf147
 v50:=Tryz.zeroValue147
 t53:=Tryz.underlying315
 a53:=Tryz.isAgg315
 z53:=Tryz.sizeOf315
 v53:=Tryz.zeroValue315
 t55:=Tryz.underlying300
 a55:=Tryz.isAgg300
 z55:=Tryz.sizeOf300
 v55:=Tryz.zeroValue300
 t66:=Tryz.underlying343
 a66:=Tryz.isAgg343
 z66:=Tryz.sizeOf343
 v66:=Tryz.zeroValue343
 t70:=Tryz.underlying313
 a70:=Tryz.isAgg313
 z70:=Tryz.sizeOf313
 v70:=Tryz.zeroValue313
 t76:=Tryz.underlying361
 a76:=Tryz.isAgg361
 z76:=Tryz.sizeOf361
 v76:=Tryz.zeroValue361
 t77:=Tryz.underlying192
 a77:=Tryz.isAgg192
 z77:=Tryz.sizeOf192
 v77:=Tryz.zeroValue192 }
end Go.Proofs
namespace Go.Proofs.YtdinjjmcmfjbfaaGreatDoor
open Go.RowKit Go.Shelf
open Mo (V Row Bag cnt canon rlt Rise)
theorem heap_sortWorld {α:Type} [Inhabited α] (enc:α→List Value) (k:Nat) (w:World) (blk off n:Nat) (d:Array α) (os:Array Obj) {i:Nat} (hi:i<w.heap.size) (hne:i≠blk):(sortWorldK enc k w blk off n d os).heap[i]? =w.heap[i]? :=by
 unfold sortWorldK
 have hs:(Sort.putRowK enc k (Sort.ahead w n) blk off d).heap.size=w.heap.size:=by simp [Sort.putRowK,Sort.putRow,Sort.mapBlock,Sort.ahead]
 rw [Sort.heap_grow_old _ _ (by rw [hs];exact hi)]
 simp [Sort.putRowK,Sort.putRow,Sort.mapBlock,Sort.ahead,Array.getElem?_modify,Ne.symm hne]
theorem size_sortWorld {α:Type} [Inhabited α] (enc:α→List Value) (k:Nat) (w:World) (blk off n:Nat) (d:Array α) (os:Array Obj):w.heap.size≤(sortWorldK enc k w blk off n d os).heap.size:=by
 simp [sortWorldK,Sort.putRowK,Sort.putRow,Sort.mapBlock,Sort.ahead]
abbrev RowT (us:List Bool):={ r:Row // ROk r∧r.map Mo.ty=us }
def encT {us:List Bool} (x:RowT us):List Value:=(rowA x.1).toList
def cfT {us:List Bool} (x y:RowT us):Int:=rcmp x.1 y.1
section
variable {us:List Bool}
theorem ltT (x y:RowT us):ltOf cfT x y=rlt x.1 y.1:=by
 show decide (rcmp x.1 y.1<0)=rlt x.1 y.1
 unfold rcmp
 cases hr:rlt x.1 y.1
 ·simp only [Bool.false_eq_true,if_false];split <;> rfl
 ·rfl
theorem swoT:Sort.SWO (ltOf (cfT (us:=us))) where
 irrefl x:=by rw [ltT];exact Mo.rlt_sto.irrefl _
 trans x y z h1 h2:=by rw [ltT] at *;exact Mo.rlt_sto.trans _ _ _ h1 h2
 ntrans x y z h1 h2:=by
  rw [ltT] at *
  cases hr:rlt x.1 z.1
  ·rfl
  ·exfalso
   cases hyx:rlt y.1 x.1
   ·have e:=Mo.rlt_sto.tri _ _ h1 hyx
    rw [e] at hr;rw [hr] at h2;cases h2
   ·have:=Mo.rlt_sto.trans _ _ _ hyx hr
    rw [h2] at this;cases this
theorem totT (x y:RowT us) (h1:ltOf cfT x y=false) (h2:ltOf cfT y x=false):x=y:=by
 rw [ltT] at h1 h2;exact Subtype.ext (Mo.rlt_sto.tri _ _ h1 h2)
def rowsC (l:Bag):List Row:=(canon l).map (·.1)
theorem lists_sorted {l:Bag} (d ys:List (RowT us)) (hd:RFull (bagM l) (d.map (·.1))) (hnw:∀ r,cnt l r≠0→wrap64 (cnt l r)≠0) (hp:ys.Perm d) (hs:ys.Pairwise (fun x y=>(!(ltOf cfT) y x)=true)):ys.map (·.1)=rowsC l:=by
 have hnd:d.Pairwise (fun x y=>x.1≠y.1):=List.pairwise_map.1 hd.1
 have hnd':ys.Pairwise (fun x y=>x.1≠y.1):=(hp.pairwise_iff (fun {x y} hne e=>hne e.symm)).2 hnd
 have hlt:ys.Pairwise (fun x y=>rlt x.1 y.1=true):=by
  refine (hs.and hnd').imp (fun {x y} ⟨h1,h2⟩=> ?_)
  rw [ltT] at h1
  cases hr:rlt x.1 y.1
  ·exact absurd (Mo.rlt_sto.tri _ _ hr (by simpa using h1)) h2
  ·rfl
 have hsome:∀ r,(bagM l r).isSome=true→cnt l r≠0:=fun r h e=>by unfold bagM at h;rw [e] at h;simp [wrap64_zero] at h
 have hmem:∀ y∈ys,cnt l y.1≠0:=fun y hy=>hsome _ ((hd.2 y.1).1 (List.mem_map.2 ⟨y,hp.mem_iff.1 hy,rfl⟩))
 have hrise:∀ zs:List (RowT us),(∀ z∈zs,cnt l z.1≠0)→zs.Pairwise (fun x y=>rlt x.1 y.1=true)→Rise (zs.map (fun y=>(y.1,cnt l y.1))):=by
  intro zs
  induction zs with
  | nil=>intro _ _;trivial
  | cons z zs ih =>
    intro hn hz;have hz':=List.pairwise_cons.1 hz
    exact ⟨fun x hx=>by obtain ⟨y,hy,rfl⟩:=List.mem_map.1 hx;exact hz'.1 y hy,hn z (by simp),ih (fun y hy=>hn y (by simp [hy])) hz'.2⟩
 have hR:=hrise ys hmem hlt
 have he:ys.map (fun y=>(y.1,cnt l y.1))=canon l:=by
  refine hR.uniq (Mo.canon_rise l) (fun r=> ?_)
  rw [Mo.canon_cnt]
  by_cases hr:∃ y∈ys,y.1=r
  ·obtain ⟨y,hy,rfl⟩:=hr
   exact hR.cnt_mem (x:=(y.1,cnt l y.1)) (List.mem_map.2 ⟨y,hy,rfl⟩)
  ·rw [Mo.cnt_none (fun x hx e=>by obtain ⟨y,hy,rfl⟩:=List.mem_map.1 hx;exact hr ⟨y,hy,e⟩)]
   by_cases hz:cnt l r=0
   ·exact hz.symm
   ·exfalso
    have h1:(bagM l r).isSome=true:=by unfold bagM;rw [if_neg (hnw r hz)];rfl
    obtain ⟨y,hy,e⟩:=List.mem_map.1 ((hd.2 r).2 h1);exact hr ⟨y,hp.mem_iff.2 hy,e⟩
 unfold rowsC;rw [←he,List.map_map]
 rfl
end
def RowsAt (w:World) (v:Value) (ys:List Row):Prop :=
 (v=.slice none 0 0∧ys=[])∨∃ g cap,v=.slice (some ⟨g,0,none⟩) ys.length cap∧ys.length≤cap∧cap≤maxLen∧g<w.heap.size∧∀ (i:Nat) (y:Row),ys[i]? =some y→w.rangeAt g (i*37) (rowA y).toList
theorem flatR_get:∀ (xs:List Row) (i:Nat) (x:Row),xs[i]? =some x→∀ (j:Nat) (u:Value),(rowA x).toList[j]? =some u→(flatR xs)[i*37+j]? =some u
 | [],i,x,h=>by simp at h
 | y::xs,0,x,h=>fun j u hu=>by
   have:y=x:=by simpa using h
   subst this
   show ((rowA y).toList++flatR xs)[0*37+j]? =_
   rw [Nat.zero_mul,Nat.zero_add,List.getElem?_append_left (List.getElem?_eq_some_iff.1 hu).1];exact hu
 | y::xs,i+1,x,h=>fun j u hu=>by
   have ih:=flatR_get xs i x (by simpa using h) j u hu
   show ((rowA y).toList++flatR xs)[(i+1)*37+j]? =_
   rw [List.getElem?_append_right (by rw [rowA_len];omega),rowA_len,show (i+1)*37+j-37=i*37+j by omega];exact ih
theorem holds_of_row {us:List Bool} [Inhabited (RowT us)] {w1:World} {g:Nat} {cur:Array Value} {t:TypeId} (d:List (RowT us)) (hg:w1.heap[g]? =some (.cells cur t (0,0))) (hcur:cur.toList.take (d.length*37)=flatR (d.map (·.1))):Sort.HoldsK encT 37 w1 g 0 d.toArray:=by
 intro j hj;rw [Sort.size_flatK] at hj
 have hj':j<d.length*37:=by simpa using hj
 refine ⟨?_,frozen_of hg _⟩;rw [Sort.get_flatK _ _ _ _ hj,Nat.zero_add,cell_of hg]
 have hi:j / 37<d.length:=by omega
 have e1:d.toArray[j / 37]! =d[j / 37]:=by simp [hi]
 rw [e1]
 have e2:(d.map (·.1))[j / 37]? =some d[j / 37].1:=by simp [hi]
 have hjm:j % 37<(rowA d[j / 37].1).toList.length:=by rw [rowA_len];omega
 have f0:=flatR_get _ _ _ e2 (j % 37) _ (List.getElem?_eq_getElem hjm);rw [←hcur,List.getElem?_take] at f0
 have hc0:j / 37*37+j % 37<d.length*37:=by omega
 rw [if_pos hc0] at f0
 have ej:j / 37*37+j % 37=j:=by omega
 rw [ej] at f0
 have h3:cur[j]? =some (rowA d[j / 37].1).toList[j % 37]:=by rw [←Array.getElem?_toList];exact f0
 rw [h3]
 have hsz:j % 37<(rowA d[j / 37].1).size:=by rw [rowA_size];omega
 simp [encT,Array.getElem?_eq_getElem hsz]
theorem sorted_rows {us:List Bool} (b:Nat) (l:Bag) (w:World) (h:BagAt w b l) (hnw:∀ r,cnt l r≠0→wrap64 (cnt l r)≠0) (hty:∀ r,cnt l r≠0→ROk r∧r.map Mo.ty=us) (hl:(canon l).length≤100000000000) (Bm:Nat) (hBm:Bm<w.heap.size) (hc:w.cell? ⟨Bm,0,none⟩=some (.map (some b))) :
 Calls Tryz.prog 68 #[.func (.func 119) #[] #[.pointer (some ⟨Bm,0,none⟩)],.func (.func 70) #[] #[]] w fun e w' =>
  ∃ v,e=.returned v∧RowsAt w' v (rowsC l)∧Kept No w w':=by
 have hcov:Cov (bagM l) (canon l).length:=⟨rowsC l,by simp [rowsC],fun k hk=>by
  have hn:cnt l k≠0:=fun e=>by unfold bagM at hk;rw [e] at hk;simp [wrap64_zero] at hk
  rw [←Mo.canon_cnt] at hn;obtain ⟨x,hx,rfl⟩:=Mo.Rise.mem_of_cnt hn
  exact List.mem_map.2 ⟨x,hx,rfl⟩⟩
 have hseq:=keys_stops Fence.wide 9 trivial rfl (by omega) Bm b (canon l).length (bagM l) hcov w hBm hc h.2
 have HCol:=hid (collect_any #[.pointer (some ⟨Bm,0,none⟩)] (RFull (bagM l)) (canon l).length (by omega) w hseq)
 have HLen:Hid (∀ xs,RFull (bagM l) xs→xs.length≤100000000000):=fun xs hx=>by
  obtain ⟨ks,h1,h2⟩:=hcov
  have h3:=length_le_of_sub hx.1 (fun k hk=>h2 _ ((hx.2 k).1 hk))
  omega
 have HT:Hid (∀ xs,RFull (bagM l) xs→∀ x∈xs,ROk x∧x.map Mo.ty=us):=fun xs hx x hx'=>hty x fun e=>by
  have hk:=(hx.2 x).1 hx';unfold bagM at hk;rw [e] at hk;simp [wrap64_zero] at hk
 have HNW:=hid hnw;clear hseq hc hcov h hty hnw
 go_enter Tryz.func68,Tryz.ntmps68
 go_wp2_with fail;refine HCol.out.mono ?_;rintro e w1 ⟨v,xs,rfl,hx,hrow,hnil,hbel⟩
 have hk1:Kept No w w1:=⟨hbel.os,hbel.tape,hbel.output,hbel.size,fun i hi _=>hbel.block i hi⟩
 have HK1:=hid hk1;have HX:=hid hx
 cases xs with
 | nil =>
   obtain rfl:=hnil.2 rfl;have hL:Hid (rowsC l=[]):=(lists_sorted (us:=us) [] [] hx HNW.out (List.Perm.refl _) List.Pairwise.nil).symm;clear hrow hnil hbel hk1 hx HCol;go_wp2_with fail;refine (AnyF.slices_SortFunc_none Tryz.sortEnt none 0 _ _).mono ?_;rintro e w2 ⟨rfl,rfl⟩;go_wp2_with fail;go_ret;exact ⟨_,rfl,.inl ⟨rfl,hL.out⟩,HK1.out⟩
 | cons x0 xs0 =>
   have hall:∀ x∈x0::xs0,ROk x∧x.map Mo.ty=us:=HT.out _ hx
   obtain ⟨d,hd⟩:∃ d:List (RowT us),d.map (·.1)=x0::xs0:=⟨(x0::xs0).pmap (fun x p=>⟨x,p⟩) hall,by simp [List.map_pmap]⟩
   haveI:Inhabited (RowT us):=⟨⟨x0,hall x0 (by simp)⟩⟩
   have hdl:d.length=(x0::xs0).length:=by rw [←hd];simp
   rcases hrow with ⟨_,⟨rfl,h0⟩ | ⟨g,cap,cur,rfl,hbase,hg,hc1,hc2,hc3,hc4⟩⟩
   ·exact absurd (hnil.1 rfl) (by simp)
   ·have hc4':cur.toList.take (d.length*37)=flatR (d.map (·.1)):=by rw [hdl,hd];exact hc4
    have hx':RFull (bagM l) (d.map (·.1)):=by rw [hd];exact hx
    have hH:Sort.HoldsK encT 37 w1 g 0 d.toArray:=holds_of_row d hg hc4';have hgl:=lt_of_heap hg
    have hcmp:CmpLays Tryz.prog 70 #[] (encT (us:=us)) 37 cfT g 0 d.toArray.size w1:=by
     intro k os dk hdk x y;have h1:=cmpRows_any x.1 y.1 x.2.1 y.2.1 (x.2.2.trans y.2.2.symm) (sortWorldK encT 37 w1 g 0 k dk os)
     have e1:(#[Value.agg (encT x).toArray,.agg (encT y).toArray]++#[]:Array Value)=#[.agg (rowA x.1),.agg (rowA y.1)]:=by simp [encT]
     rw [e1]
     exact h1.mono fun e w' ⟨h2,h3⟩=>⟨h2,h3⟩
    have hlen:d.length≤100000000000:=by have:=HLen.out _ hx';simpa using this
    have hcon:=AnyQ.slices_SortFunc_total Tryz.sortEnt 37 Tryz.isAgg154 Tryz.sizeOf154 (encT (us:=us)) (fun x=>rowA_len x.1) (fun x v hv=>by have:=rowA_one x.1;rw [Array.all_eq_true_iff_forall_mem] at this;exact this v (by simpa [encT] using hv)) cfT swoT 70 #[] g 0 cap d.toArray w1
     (enters_of Tryz.func70 (by kernel_rfl) rfl) hcmp hH hgl (by simp;omega) totT
    change Calls Tryz.prog 118 _ _ _ at hcon
    have hds:d.toArray.size=(x0::xs0).length:=by simpa using hdl
    rw [hds] at hcon
    have hperm:(d.toArray.toList.mergeSort fun x y=> !(ltOf cfT) y x).Perm d:=by simpa using List.mergeSort_perm d _
    have hsort:(d.toArray.toList.mergeSort fun x y=> !(ltOf cfT) y x).Pairwise (fun x y=>(!(ltOf cfT) y x)=true):=by
     refine List.pairwise_mergeSort (fun a b c h1 h2=> ?_) (fun a b=> ?_) _
     ·have h1':ltOf cfT b a=false:=by simpa using h1
      have h2':ltOf cfT c b=false:=by simpa using h2
      simp [swoT.ntrans c b a h2' h1']
     ·cases hab:ltOf cfT a b
      ·simp
      ·have:=swoT.trans a b a hab
       cases hba:ltOf cfT b a
       ·simp
       ·have h3:=this hba;rw [swoT.irrefl] at h3;cases h3
    generalize (d.toArray.toList.mergeSort fun x y=> !(ltOf cfT) y x)=ys at hcon hperm hsort
    have hcap:(x0::xs0).length≤cap:=hc1
    have hlists:ys.map (·.1)=rowsC l:=lists_sorted d ys hx' HNW.out hperm hsort
    have hyl:ys.length=(x0::xs0).length:=by rw [hperm.length_eq,hdl]
    have HFin:Hid (∀ n os,RowsAt (sortWorldK encT 37 w1 g 0 n ys.toArray os) (.slice (some ⟨g,0,none⟩) (x0::xs0).length cap) (rowsC l)∧Kept No w (sortWorldK encT 37 w1 g 0 n ys.toArray os)):=by
     refine hid ?_;intro n os
     have hkk:Kept No w (sortWorldK encT 37 w1 g 0 n ys.toArray os) :=
      ⟨hk1.os,hk1.tape,hk1.output,Nat.le_trans hk1.size (size_sortWorld _ _ _ _ _ _ _ _),fun i hi _=>(heap_sortWorld _ _ _ _ _ _ _ _ (Nat.lt_of_lt_of_le hi hk1.size) (by omega)).trans (hk1.block i hi (fun e=>e))⟩
     have hHK:Sort.HoldsK encT 37 (sortWorldK encT 37 w1 g 0 n ys.toArray os) g 0 ys.toArray:=by
      unfold sortWorldK;refine Sort.holdsK_grow encT 37 _ _ _ _ _ ?_ ?_
      ·simpa [Sort.putRowK,Sort.putRow,Sort.mapBlock,Sort.ahead] using hgl
      ·exact Sort.holdsK_putRowK encT 37 _ _ _ d.toArray _ (Sort.holdsK_ahead encT 37 _ _ _ _ _ hH) (by simp [hperm.length_eq])
     refine ⟨.inr ⟨g,cap,by rw [←hlists,List.length_map,hyl],by rw [←hlists,List.length_map,hyl];exact hcap,hc2,Nat.lt_of_lt_of_le hgl (size_sortWorld _ _ _ _ _ _ _ _),fun i y hy=> ?_⟩,hkk⟩
     rw [←hlists] at hy
     obtain ⟨z,hz,rfl⟩:∃ z,ys[i]? =some z∧z.1=y:=by rw [List.getElem?_map] at hy;exact Option.map_eq_some_iff.1 hy
     have hi:=(List.getElem?_eq_some_iff.1 hz).1
     have e1:ys.toArray[i]! =z:=by simp [hi,(List.getElem?_eq_some_iff.1 hz).2]
     intro j u hu
     have hj37:j<37:=by have:=(List.getElem?_eq_some_iff.1 hu).1;rw [rowA_len] at this;exact this
     have c0:=(Sort.HoldsK.cell hHK (i:=i) (c:=j) (by simpa using hi) hj37).1
     rw [e1,Nat.zero_add] at c0;rw [c0]
     have hsz:j<(rowA z.1).size:=by rw [rowA_size];exact hj37
     obtain ⟨hj,rfl⟩:=List.getElem?_eq_some_iff.1 hu
     simp [encT,Array.getElem?_eq_getElem hsz]
    have HCon:=hid hcon;clear hcon hcmp hH hall hd hc4 hc4' hc3 hnil hx hx' HCol hperm hsort hlists hyl hds hdl hc1 hc2 hcap HX hlen HLen hbel hk1 hg hbase HT;generalize (x0::xs0).length=nn at *;go_wp2_with fail;refine HCon.out.mono ?_;rintro e w2 ⟨rfl,n,os,rfl⟩;go_wp2_with fail;go_ret;obtain ⟨f1,f2⟩:=HFin.out n os;exact ⟨_,rfl,f1,f2⟩
open Mo (V Row Bag cnt canon)
def vText:V→List UInt8
 | .num n=>Lib.itoa n
 | .txt s=>s
def Env (w:World):Prop:=Lib.TabIs Tryz.prog w "internal/strconv.uint64pow10" .u64 Lib.pow10Tab
def TxtAt (w:World) (B:Nat) (v:Value) (t:List UInt8):Prop:=w.ownsRow B 5 1 v t.length (Lib.byteCells t)
theorem infoU8:(Tryz.prog.info? 5).map (fun i=>(i.zero,i.size,i.bytes))=some (some (.int .u8 0),1,1):=by kernel_rfl
theorem pad4_get (s:List UInt8) (j:Nat) (hj:j<4):(pad4 s)[j]? =some (s.getD j 0):=by
 match j,hj with
 | 0,_ | 1,_ | 2,_ | 3,_=>rfl
theorem trimByte_any (b o cap:Nat) (s:List UInt8) (w:World) (hs:s.length≤4) (hl:∀ c∈s,97≤c.toNat∧c.toNat≤122) (hc:∀ (j:Nat) (c:UInt8),(pad4 s)[j]? =some c→w.cell? ⟨b,o+j,none⟩=some (.int .u8 (c.toNat:Int))) (hcap:4≤cap) (hcap2:cap≤1000) :
 Calls Tryz.prog 192 #[.slice (some ⟨b,o,none⟩) 4 cap,.int .u8 0] w fun e w'=>e=.returned (.slice (some ⟨b,o,none⟩) s.length cap)∧Kept No w w':=by
 obtain ⟨n,hn⟩:∃ n,s.length=n:=⟨_,rfl⟩;have HN:=hid hn;have HC:=hid hc;have HL:=hid hl;rw [hn] at hs ⊢;clear hn hc hl
 go_enter Tryz.func192,Tryz.ntmps192
 go_wp2_with fail
 go_loopg [0] (4-n) (fun k v0 wr=>∃ m:Nat,m=n+k∧m≤4∧v0=.slice (some ⟨b,o,none⟩) m cap∧wr=w)
 case atStart=>exact ⟨4,by omega,by omega,rfl,rfl⟩
 case round =>
  obtain ⟨m,hm,hm4,rfl,rfl⟩:=hrel
  cases gk with
  | zero =>
    obtain rfl:m=n:=by omega
    clear hm
    by_cases hz:m=0
    ·subst hz
     go_wp2_with fail;go_ret;exact ⟨rfl,Kept.refl _ _⟩
    ·obtain ⟨m,rfl⟩:∃ k,m=k+1:=⟨m-1,by omega⟩
     obtain ⟨c,hc⟩:∃ c,s[m]? =some c:=⟨_,List.getElem?_eq_getElem (by have:=HN.out;omega)⟩
     have h97:=HL.out c (List.mem_of_getElem? hc)
     have d0:wr.cell? ⟨b,o+m,none⟩=some (.int .u8 (c.toNat:Int)):=HC.out m c (by rw [pad4_get s m (by omega),List.getD_eq_getElem?_getD,hc];rfl)
     have e1:((c.toNat:Int) == 0)=false:=by simp;omega
     generalize (c.toNat:Int)=z at d0 e1;clear hz h97 hc;go_wp2_with fail;go_ret;exact ⟨rfl,Kept.refl _ _⟩
  | succ k =>
    obtain ⟨m,rfl⟩:∃ j,m=j+1:=⟨m-1,by omega⟩
    have d0:wr.cell? ⟨b,o+m,none⟩=some (.int .u8 0):=HC.out m 0 (by rw [pad4_get s m (by omega),List.getD_eq_getElem?_getD,List.getElem?_eq_none (by have:=HN.out;omega)];rfl)
    have hmc:(m:Int)≤(cap:Int):=by omega
    have HM:=hid hm;clear hm;go_wp2_with fail;go_roundg k
    case measure=>omega
    case rel=>exact ⟨m,by have:=HM.out;omega,by omega,rfl,rfl⟩
theorem trim_any (b o cap:Nat) (s:List UInt8) (w:World) (hs:s.length≤4) (hl:∀ c∈s,97≤c.toNat∧c.toNat≤122) (hc:∀ (j:Nat) (c:UInt8),(pad4 s)[j]? =some c→w.cell? ⟨b,o+j,none⟩=some (.int .u8 (c.toNat:Int))) (hcap:4≤cap) (hcap2:cap≤1000) :
 Calls Tryz.prog 157 #[.slice (some ⟨b,o,none⟩) 4 cap,.string ⟨#[0]⟩] w fun e w'=>e=.returned (.slice (some ⟨b,o,none⟩) s.length cap)∧Kept No w w':=by
 have HT:=hid (trimByte_any b o cap s w hs hl hc hcap hcap2);clear hc hl
 go_enter Tryz.func157,Tryz.ntmps157
 go_wp2_with fail;refine HT.out.mono ?_;rintro e w1 ⟨rfl,hk⟩;have HK:=hid hk;clear hk;go_wp2_with fail;go_ret;exact ⟨rfl,HK.out⟩
theorem cells_alloc (w:World) (v:V):∀ j x,(encV v)[j]? =some x→(w.alloc (.cells (encV v).toArray 133)).cell? ⟨w.heap.size,0+j,none⟩=some x:=fun j x hx=>by
 rw [Nat.zero_add,cell_of (heap_alloc_last _ _),List.getElem?_toArray];exact hx
def W8 (B:Nat) (w w':World):Prop:=Kept (fun k=>B≤k∧Is 5 w k) w w'
section
variable {B:Nat} {a w w':World}
theorem W8.refl (B:Nat) (w:World):W8 B w w:=Kept.refl _ _
theorem W8.below (h:W8 B w w') (hB:B≤w.heap.size):Below B w w':=⟨h.os,h.tape,h.output,h.size,fun i hi=>h.block i (by omega) (fun e=>by omega)⟩
theorem W8.of (h:Below B w w') (k:Lib.OthersKept 5 none w w'):W8 B w w':=⟨h.os,h.tape,h.output,h.size,fun i hi hn=>by
 by_cases hb:i<B
 ·exact h.block i hb
 ·obtain ⟨o,ho⟩:∃ o,w.heap[i]? =some o:=⟨_,Array.getElem?_eq_getElem hi⟩
  rw [ho]
  refine k i o ho (fun e=>by cases e) fun c fz e=>hn ⟨by omega,c,fz,by rw [ho,e]⟩⟩
theorem W8.trans (h:W8 B a w) (k:W8 B w w'):W8 B a w':=Kept.trans h k (fun _ e=>e) fun i hi e=>by
 refine ⟨e.1,?_⟩
 by_cases hs:B≤i∧Is 5 a i
 ·exact hs.2
 ·obtain ⟨c,z,hc⟩:=e.2
  exact ⟨c,z,(h.block i hi hs).symm.trans hc⟩
theorem W8.kept (h:Kept No w w'):W8 B w w':=h.mono fun _ _ e=>e.elim
theorem W8.grown (h:W8 B a w) {sv:Value} {n:Nat} {xs:List Value} (ho:w.ownsRow B 5 1 sv n xs) (hg:w.grownBy w' sv.ownBlock):W8 B a w':=h.trans ((Kept.refl _ _).grown hg fun x hx=>.inr ⟨own_base ho x hx,own_is ho x hx⟩)
end
def WrEnd (B:Nat) (t u:List UInt8) (w:World) (e:Ending) (w':World):Prop:=∃ v',e=.returned v'∧TxtAt w' B v' (t++u)∧W8 B w w'
theorem valWr_any (v:V) (hv:VOk v) (B:Nat) (sv:Value) (t:List UInt8) (w:World) (hown:TxtAt w B sv t) (hB:B≤w.heap.size) (hl:t.length≤100000000000000) (hE:Lib.TabBelow Tryz.prog B w "internal/strconv.uint64pow10" .u64 Lib.pow10Tab) :
 Calls Tryz.prog 121 #[aggV v,sv] w (WrEnd B t (vText v) w):=by
 cases v with
 | num n =>
   have HA:Hid (∀ w1,Below B w w1→TxtAt w1 B sv t→B≤w1.heap.size→Calls Tryz.prog 72 #[sv,.int .i64 n,.int .i64 10] w1 fun e w'=>∃ v',e=.returned v'∧w'.ownsRow B 5 1 v' (t.length+(Lib.itoa n).length) (Lib.byteCells t++Lib.byteCells (Lib.itoa n))∧Below B w1 w'∧Lib.OthersKept 5 none w1 w') :=
    fun w1 hb ho hB1=>Tryz.strconv_AppendInt_10 B t.length n hv.1 hv.2 sv (Lib.byteCells t) w1 ho hB1 (by omega) (hE.on hb)
   have HO:=hid hown;clear hE hown
   show Calls Tryz.prog 121 #[.agg #[.int .i32 0,.int .u8 0,.int .u8 0,.int .u8 0,.int .u8 0,.int .i64 n],sv] w (WrEnd B t (Lib.itoa n) w)
   go_enter Tryz.func121,Tryz.ntmps121
   go_wp2_with fail
   refine (HA.out _ ((Below.refl B w).alloc hB _) (HO.out.alloc _) (by simp;omega)).mono ?_
   rintro e w1 ⟨v',rfl,ho,hb,hoth⟩
   have HO1:Hid (TxtAt w1 B v' (t++Lib.itoa n)):=by
    show w1.ownsRow B _ 1 v' (t++Lib.itoa n).length (Lib.byteCells (t++Lib.itoa n))
    rw [List.length_append,Lib.byteCells_append];exact ho
   have HB1:Hid (W8 B w w1):=(W8.kept ((Kept.refl No w).alloc _)).trans (W8.of hb hoth);clear ho hb hoth HA;go_wp2_with fail;go_ret;exact ⟨_,rfl,HO1.out,HB1.out⟩
 | txt s =>
   have hcl:=cells_alloc w (.txt s);have hpc:=pad4_cells (v:=.txt s) rfl hcl
   have HT:=hid (trim_any w.heap.size 1 4 s (w.alloc (.cells (encV (.txt s)).toArray 133)) hv.2.1 hv.2.2 (fun j c hj=>by have:=hpc j c hj;rw [Nat.zero_add] at this;exact this) (by omega) (by omega))
   have HO:=hid hown;have HP:=hid hpc;obtain ⟨iu,hiu,hu0,hu1,hu2⟩:=info_parts infoU8;clear hE hown hcl hpc
   show Calls Tryz.prog 121 #[.agg #[.int .i32 1,.int .u8 (tB (.txt s) 0),.int .u8 (tB (.txt s) 1),.int .u8 (tB (.txt s) 2),.int .u8 (tB (.txt s) 3),.int .i64 0],sv] w (WrEnd B t s w)
   change Hid (Calls Tryz.prog 157 #[.slice (some ⟨w.heap.size,1,none⟩) 4 4,.string ⟨#[0]⟩] (w.alloc (.cells #[.int .i32 1,.int .u8 (tB (.txt s) 0),.int .u8 (tB (.txt s) 1),.int .u8 (tB (.txt s) 2),.int .u8 (tB (.txt s) 3),.int .i64 0] 133)) _) at HT
   go_enter Tryz.func121,Tryz.ntmps121
   go_wp2_with fail;refine HT.out.mono ?_;rintro e w1 ⟨rfl,hk⟩
   have hlt:w.heap.size<(w.alloc (.cells #[.int .i32 1,.int .u8 (tB (.txt s) 0),.int .u8 (tB (.txt s) 1),.int .u8 (tB (.txt s) 2),.int .u8 (tB (.txt s) 3),.int .i64 0] 133)).heap.size:=by simp
   replace hk:Kept No (w.alloc (.cells #[.int .i32 1,.int .u8 (tB (.txt s) 0),.int .u8 (tB (.txt s) 1),.int .u8 (tB (.txt s) 2),.int .u8 (tB (.txt s) 3),.int .i64 0] 133)) w1:=hk
   have hsz:w.heap.size≤w1.heap.size:=by have:=hk.size;omega
   have hn:∀ (j:Nat) (u:Value),(Lib.byteCells s)[j]? =some u→w1.cell? (Addr.add ⟨w.heap.size,1,none⟩ j)=some u:=fun j u hu=>by
    unfold Lib.byteCells at hu;rw [List.getElem?_map] at hu;obtain ⟨c,hc,rfl⟩:=Option.map_eq_some_iff.1 hu
    have hj:j<4:=by have:=(List.getElem?_eq_some_iff.1 hc).1;have:=hv.2.1;omega
    have h1:=HP.out j c (by rw [pad4_get s j hj,List.getD_eq_getElem?_getD,hc];rfl)
    have h2:w1.cell? ⟨w.heap.size,1+j,none⟩=some (.int .u8 (c.toNat:Int)):=by
     rw [hk.cell hlt (fun e=>e)];rw [Nat.zero_add] at h1;exact h1
    unfold Addr.add
    split
    ·next hj0=>rw [hj0] at h2;exact h2
    ·exact h2
   have hb1:W8 B w w1:=W8.kept (((Kept.refl No w).alloc _).seq hk)
   have hown1:w1.ownsRow B 5 1 sv t.length (Lib.byteCells t):=ownsRow_kept (HO.out.alloc _) hk (fun _ _ e=>e)
   have HB1:=hid hb1;have hsl:s.length≤4:=hv.2.1
   have hlen:(Lib.byteCells s).length=s.length*1:=by simp [Lib.byteCells]
   have hone:∀ u∈Lib.byteCells s,u.oneCell'=true:=by intro u hu;unfold Lib.byteCells at hu;obtain ⟨c,_,rfl⟩:=List.mem_map.1 hu;rfl
   obtain ⟨ns,hns⟩:∃ ns,s.length=ns:=⟨_,rfl⟩;have HNS:=hid hns;rw [hns] at hlen hsl ⊢;clear hk HT hlt hb1 hns
   go_wp2_with (first
    | (at_builtin;refine wpList_append_own_at _ rfl _ _ 149 rfl B 5 iu (.int .u8 0) 1 1 Tryz.underlying149 hiu hu0 hu1 hu2 rfl (by decide) _ _ _ rfl hown1 ⟨w.heap.size,1,none⟩ ns 4 (Lib.byteCells s) rfl hlen hn hone (by unfold maxLen;omega) (by omega) (by omega) ?_;intro v' w5 hown5 hg5 _ _)
    | fail)
   have hg:w1.grownBy w5 sv.ownBlock:=hg5;have HB5:Hid (W8 B w w5):=HB1.out.grown hown1 hg;have HO5:=hid hown5;clear hg hg5 hown5 hown1 hn;go_ret;refine ⟨_,rfl,?_,HB5.out⟩
   show w5.ownsRow B _ 1 _ (t++s).length (Lib.byteCells (t++s))
   rw [List.length_append,Lib.byteCells_append,HNS.out];exact HO5.out
end Go.Proofs.YtdinjjmcmfjbfaaGreatDoor
