import Derived.Maps.OwnSet
import Derived.Maps.OwnOps
import Derived.Maps.RangeWalk
import Derived.DeepKeys4
import Derived.Test.YtdinjjmcmfjbfaaGreatDoorHdJ
import Derived.Laws.Tables
set_option maxRecDepth 100000
set_option maxHeartbeats 4000000
namespace Go.Proofs.YtdinjjmcmfjbfaaGreatDoor
open Go.RowKit Mo Pl Tryz
open Go.Maps (Keyed)
open Go.WideMaps (KeyLaw)
def tok (v:Value):Option (DataW Value×List MemPlace):=some (.held v,[])
structure KE {κ:Type} (K:TypeId) (enc:κ→Value) (ok:κ→Prop):Prop where
 law:KeyLaw prog K
 key:∀{k:κ},ok k→∃l,keyOf prog K (enc k)=some l
 inj:∀{k j:κ},ok k→ok j→enc k=enc j→k=j
structure DH {κ:Type} (K:TypeId) (enc:κ→Value) (ok:κ→Prop) (D:DataW Value) (m:κ→Option Value):Prop where
 hit:∀{k:κ} {l:Lit} {x:Value},keyOf prog K (enc k)=some l→m k=some x→∀z,D.atKey l z=.held x
 miss:∀{k:κ} {l:Lit},ok k→keyOf prog K (enc k)=some l→m k=none→∀z,D.atKey l z=z
 dom:∀{k:κ} {x:Value},m k=some x→ok k
 all:∀{l:Lit},Maps.has D l=true→∃k,ok k∧keyOf prog K (enc k)=some l
def NG {κ:Type}[DecidableEq κ](m:κ→Option Value)(k:κ)(o:Option Value):κ→Option Value:=fun x=>if x=k then o else m x
section
variable {κ:Type} [DecidableEq κ] {K:TypeId} {enc:κ→Value} {ok:κ→Prop} {m:κ→Option Value} {D:DataW Value}
theorem Qr (m:κ→Option Value)(k:κ)(o:Option Value):NG m k o k=o:=by simp[NG]
theorem Ji (m:κ→Option Value){k x:κ}(o:Option Value)(h:x≠k):NG m k o x=m x:=by simp[NG,h]
omit [DecidableEq κ] in
theorem KE.ne (E:KE K enc ok){k j:κ}{l p:Lit}(a:ok k)(b:ok j)(c:keyOf prog K (enc k)=some l)(d:keyOf prog K (enc j)=some p)(f:k≠j):l≠p :=
 fun e=>f (E.inj a b (E.law.inj c (e ▸ d)))
omit [DecidableEq κ] in
theorem DH.has (h:DH K enc ok D m){k:κ}(ho:ok k){l:Lit}(a:keyOf prog K (enc k)=some l):Maps.has D l=(m k).isSome:=by
 cases b:m k with
 |none=>exact Maps.has_false_of_atKey (h.miss ho a b)
 |some x=>exact Maps.has_true_of_atKey (h.hit a b)
omit [DecidableEq κ] in
theorem DH.at (h:DH K enc ok D m){k:κ}(ho:ok k){l:Lit}(a:keyOf prog K (enc k)=some l)(b:Value):D.atKey l (.held b)=.held ((m k).getD b):=by
 cases c:m k with
 |none=>exact h.miss ho a c _
 |some x=>exact h.hit a c _
theorem DH.put (E:KE K enc ok)(h:DH K enc ok D m)(i:Maps.IsMap D){k:κ}(ho:ok k){d:Lit}(f:keyOf prog K (enc k)=some d)(x:Value):DH K enc ok (D.put d (.held x)) (NG m k (some x)):=by
 have j:∀c,(D.put d (.held x)).atKey d c=.held x:=fun c=>Maps.atKey_put_same i ((Keyed.of_law E.law).key f) _ _;refine⟨fun {v l y} a b c=>?_,fun {v l} hv a g c=>?_,fun {v y} b=>?_,fun {l} a=>?_⟩
 ·by_cases e:v=k
  ·subst e;rw[Qr] at b;have e1:l=d:=(by have:=a.symm.trans f;simpa using this);have e2:x=y:=(by simpa using b);subst e1 e2;exact j c
  rw[Ji _ _ e] at b;rw[Maps.atKey_put_other (E.ne (h.dom b) ho a f e)];exact h.hit a b c
 ·by_cases e:v=k
  ·subst e;rw[Qr] at g;cases g
  rw[Ji _ _ e] at g;rw[Maps.atKey_put_other (E.ne hv ho a f e)];exact h.miss hv a g c
 ·by_cases e:v=k
  ·subst e;exact ho
  rw[Ji _ _ e] at b;exact h.dom b
 by_cases e:l=d
 ·subst e;exact⟨k,ho,f⟩
 refine h.all ?_;rw[←a];exact (Maps.has_put_other e _).symm
theorem DH.del (E:KE K enc ok)(h:DH K enc ok D m){k:κ}(ho:ok k){c:Lit}(d:keyOf prog K (enc k)=some c):DH K enc ok (D.del c) (NG m k none):=by
 refine⟨fun {v l y} b a f=>?_,fun {v l} hv b g f=>?_,fun {v y} a=>?_,fun {l} b=>?_⟩
 ·by_cases e:v=k
  ·subst e;rw[Qr] at a;cases a
  rw[Ji _ _ e] at a;rw[Maps.atKey_del_other (E.ne (h.dom a) ho b d e)];exact h.hit b a f
 ·by_cases e:v=k
  ·subst e;have e1:l=c:=(by have:=b.symm.trans d;simpa using this);subst e1;exact Maps.atKey_del_same f
  rw[Ji _ _ e] at g;rw[Maps.atKey_del_other (E.ne hv ho b d e)];exact h.miss hv b g f
 ·by_cases e:v=k
  ·subst e;rw[Qr] at a;cases a
  rw[Ji _ _ e] at a;exact h.dom a
 by_cases e:l=c
 ·subst e;exact⟨k,ho,d⟩
 refine h.all ?_;rw[←b];exact (Maps.has_del_other e).symm
end
def B9 {κ:Type}(K:TypeId)(enc:κ→Value)(ok:κ→Prop)(w:World)(b:Nat)(m:κ→Option Value):Prop:=∃D,w.ownsMap prog K tok b (Maps.size D) D∧DH K enc ok D m
theorem Rw {K:TypeId}{w:World}{b n:Nat}{D:DataW Value}(h:w.ownsMap prog K tok b n D):w.ownsMap prog K tok b (Maps.size D) D:=by
 obtain⟨es,c,d,F,_,a⟩:=h;refine⟨es,c,d,F,?_,a⟩;subst a;simp[Maps.size,length_sorted]
section
variable {κ:Type} {K:TypeId} {enc:κ→Value} {ok:κ→Prop} {w w':World} {b:Nat} {m:κ→Option Value}
theorem B9.lt (h:B9 K enc ok w b m):b<w.heap.size:=by obtain⟨D,h,_⟩:=h;exact h.lt
theorem B9.obj (h:B9 K enc ok w b m):∃es c,w.heap[b]? =some (.map es c):=by obtain⟨D,⟨es,c,a,_⟩,_⟩:=h;exact⟨es,c,a⟩
theorem B9.A6 (h:B9 K enc ok w b m)(a:w'.heap[b]? =w.heap[b]?):B9 K enc ok w' b m:=by
 obtain⟨D,⟨es,c,d,F,e,f⟩,g⟩:=h;exact⟨D,⟨es,c,a.trans d,F,e,f⟩,g⟩
theorem B9.made (K:TypeId)(enc:κ→Value)(ok:κ→Prop)(w:World):B9 K enc ok (w.alloc (.map #[] 0)) w.heap.size (fun _=>none) :=
 ⟨.map [],World.ownsMap_made w _ _ _,⟨fun _ h=>(by cases h),fun _ _ _ _=>rfl,fun h=>(by cases h),fun h=>by simp[Maps.has_eq] at h⟩⟩
theorem B9.dom (h:B9 K enc ok w b m){k:κ}{x:Value}(a:m k=some x):ok k:=by obtain⟨_,_,c⟩:=h;exact c.dom a
theorem UU {es:List (Lit×DataW Value)}(h:∀p∈es,∃k,ok k∧keyOf prog K (enc k)=some p.1):∃ks:List κ,(∀k∈ks,ok k)∧ks.map (fun k=>keyOf prog K (enc k))=es.map (fun p=>some p.1):=by
 induction es with
 |nil=>exact⟨[],by simp,rfl⟩
 |cons p es b =>obtain⟨v,ho,hv⟩:=h p (by simp);obtain⟨ks,c,a⟩:=b (fun q d=>h q (by simp[d]));exact⟨v::ks,by intro k a;rcases uP.1 a with rfl|a;exact ho;exact c k a,by simp[hv,a]⟩
theorem T4 {α β:Type}(f:α→β):∀{l:List α},(l.map f).Nodup→l.Nodup
 | [],_=>wL
 |a::l,h=>by simp only[uT,vE] at h⊢;exact⟨fun b=>h.1 (uA.2 ⟨a,b,rfl⟩),T4 f h.2⟩
theorem B9.keys (E:KE K enc ok)(h:B9 K enc ok w b m):∃(D:DataW Value) (ks:List κ),w.ownsMap prog K tok b (Maps.size D) D∧DH K enc ok D m∧ks.Nodup∧ks.length=Maps.size D∧∀k,k∈ks↔(m k).isSome=true:=by
 obtain⟨D,ho,a⟩:=h;obtain⟨es,f,q,j⟩:=ho.entries (Keyed.of_law E.law);have r:∀p∈es,∃k,ok k∧keyOf prog K (enc k)=some p.1:=fun p hp=>by refine a.all ?_;subst f;rw[Maps.has_eq,List.any_eq_true];exact⟨p,hp,WideAt.sameKey_self (j p hp)⟩
 obtain⟨ks,n,g⟩:=UU r;have s:ks.Nodup:=by refine T4 (fun k=>keyOf prog K (enc k)) ?_;rw[g];exact List.pairwise_map.2 (q.imp fun t e=>t (by simpa using e))
 refine⟨D,ks,ho,a,s,?_,fun k=>?_⟩
 ·subst f;have:=congrArg List.length g;simpa [Maps.size] using this
 constructor
 ·intro d;have c:keyOf prog K (enc k)∈ks.map (fun k=>keyOf prog K (enc k)):=uA.2 ⟨k,d,rfl⟩;rw[g] at c;obtain⟨p,hp,u⟩:=uA.1 c;rw[←a.has (n k d) u.symm];subst f;rw[Maps.has_eq,List.any_eq_true];exact⟨p,hp,WideAt.sameKey_self (j p hp)⟩
 intro d;obtain⟨x,i⟩:=Option.isSome_iff_exists.1 d;obtain⟨l,o⟩:=E.key (a.dom i);have c:=a.has (a.dom i) o;rw[d] at c;subst f;rw[Maps.has_eq,List.any_eq_true] at c;obtain⟨p,hp,y⟩:=c;have z:some l∈ks.map (fun k=>keyOf prog K (enc k)):=by rw[g];exact uA.2 ⟨p,hp,by rw[WideAt.sameKey_eq y]⟩
 obtain⟨v,hv,A⟩:=uA.1 z;rw[E.inj (a.dom i) (n v hv) (E.law.inj o A)];exact hv
end
def lU {κ:Type}(m:κ→Option Value)(n:Nat):Prop:=∃ks:List κ,ks.length≤n∧∀k,(m k).isSome=true→k∈ks
theorem Dl {α:Type}[DecidableEq α]:∀{l m:List α},l.Nodup→(∀x∈l,x∈m)→l.length≤m.length
 | [],_,_,_=>vM _
 |a::l,m,f,b=>by have c:=vE.1 f;have g:=Dl (l:=l) (m:=m.erase a) c.2 (fun x d=>by have:x≠a:=fun e=>c.1 (e ▸ d);exact (List.mem_erase_of_ne this).2 (b x (by simp[d])));have h:=List.length_erase_of_mem (b a (by simp));have i:0<m.length:=List.length_pos_of_mem (b a (by simp));simp only[uO];omega
structure rV {κ:Type} (K:TypeId) (enc:κ→Value) (ok:κ→Prop) (D:DataW Value) (left:Lit→Bool) (vs:List κ):Prop where
 nodup:vs.Nodup
 mem:∀{k:κ} {l:Lit},ok k→keyOf prog K (enc k)=some l→(k∈vs↔Maps.has D l=true∧left l=false)
def Ti {κ:Type}(K:TypeId)(enc:κ→Value)(ok:κ→Prop)(w:World)(b r:Nat)(m:κ→Option Value)(ps:List (κ×Value))(cnt:Nat):Prop :=
 ∃D left,w.ranges prog K tok b r (Maps.size D) D left cnt∧DH K enc ok D m∧rV K enc ok D left (ps.map (·.1))∧∀p∈ps,m p.1=some p.2
def mS {κ:Type}(m:κ→Option Value)(ps:List (κ×Value)):Prop:=(ps.map (·.1)).Nodup∧∀k v,(k,v)∈ps↔m k=some v
section
variable {κ:Type} {K:TypeId} {enc:κ→Value} {ok:κ→Prop} {w w':World} {b r:Nat} {m:κ→Option Value} {ps:List (κ×Value)} {cnt:Nat}
theorem Ti.owns (h:Ti K enc ok w b r m ps cnt):B9 K enc ok w b m:=by obtain⟨D,left,hr,a,_⟩:=h;exact⟨D,hr.owns,a⟩
theorem Ti.ne (h:Ti K enc ok w b r m ps cnt):r≠b:=by obtain⟨D,left,hr,_⟩:=h;exact hr.ne
theorem Ti.lt (h:Ti K enc ok w b r m ps cnt):r<w.heap.size:=by obtain⟨D,left,hr,_⟩:=h;exact hr.lt
theorem Ti.Vc (h:Ti K enc ok w b r m ps cnt)(a:w'.heap[b]? =w.heap[b]?)(hr:w'.heap[r]? =w.heap[r]?):Ti K enc ok w' b r m ps cnt:=by
 obtain⟨D,left,⟨es,c,d,e,f,g,i,j,k,l,n⟩,o⟩:=h;exact⟨D,left,⟨es,c,d,e,f,a.trans g,i,j,k,hr.trans l,n⟩,o⟩
end
section
variable (w:World) {ops:Array Oper} {rest:List Oper} {o:Oper} {a:Act} {Q:Exit→Act→World→Prop} {κ:Type} [DecidableEq κ] {K:TypeId} {enc:κ→Value} {ok:κ→Prop} (E:KE K enc ok)
include E
omit [DecidableEq κ] in
theorem Dy (hg:o.guard=none)(d x:Operand)(t e:TypeId)(i:o.op=Op.lookup t d x false)(j:prog.underlying t=some (.map K e))(c:Value)(l:(zeroValue e).run prog w=.ok c w)
 (b:Nat) (m:κ→Option Value) (n:a.eval d=.map (some b)) (p:B9 K enc ok w b m) (k:κ) (f:ok k) (q:a.eval x=enc k) (v:Value) (hv:(m k).getD c=v)
 (r:wpList prog ops Q rest (a.put o.dst v) w):wpList prog ops Q (o::rest) a w:=by
 refine wpList_plain hg fun K' s=>?_;obtain⟨D,ho,u⟩:=p;obtain⟨_,g⟩:=E.key f;obtain⟨z,ps,A,h⟩:=ho.lookup (Keyed.of_law E.law) j l (zd:=.held c) (zp:=[]) rfl g;have:z=v:=by rw[u.at f g] at h;rw[←hv];simpa [tok] using (congrArg (fun y=>y.map Prod.fst) h)
 subst this;unfold Oper.wp;simp[execOp,i,n,q,A,Result.andThen];exact s _ _ r
omit [DecidableEq κ] in
theorem Mr (hg:o.guard=none)(b x:Operand)(t e:TypeId)(d:o.op=Op.lookup t b x false)(f:prog.underlying t=some (.map K e))(c:Value)(g:(zeroValue e).run prog w=.ok c w)
 (h:a.eval b=.map none) (k:κ) (i:ok k) (j:a.eval x=enc k)
 (l:wpList prog ops Q rest (a.put o.dst c) w):wpList prog ops Q (o::rest) a w:=by
 refine wpList_plain hg fun K' m=>?_;obtain⟨_,n⟩:=E.key i;have p:=Maps.look_nil (w:=w) false (Keyed.of_law E.law) f g n;unfold Oper.wp;simp[execOp,d,h,j,p,Result.andThen];exact m _ _ l
theorem Ms (hg:o.guard=none)(c x v:Operand)(t e:TypeId)(h:o.op=Op.mapUpdate t c x v)(i:prog.underlying t=some (.map K e))
 (b:Nat) (m:κ→Option Value) (n:Nat) (j:a.eval c=.map (some b)) (l:B9 K enc ok w b m) (p:lU m n) (_:n<maxLen) (k:κ) (f:ok k) (val:Value) (d:a.eval x=enc k) (hv:a.eval v=val)
 (q:∀w',B9 K enc ok w' b (NG m k (some val))→w.mapTurned w' b→wpList prog ops Q rest (a.put o.dst undef) w'):wpList prog ops Q (o::rest) a w:=by
 obtain⟨D,ks,ho,r,s,_,u⟩:=l.keys E;obtain⟨_,_,y⟩:=p;have:=Dl s (fun x d=>y x ((u x).1 d));obtain⟨_,g⟩:=E.key f;refine wpList_mapUpdate_in w hg c x v t h K e (Keyed.of_law E.law) i tok b (Maps.size D) D j ho (by omega) _ val _ d hv g (.held val) [] rfl ?_;intro w' z A;exact q w' ⟨_,Rw z,r.put E ho.isMap f g _⟩ A
theorem T6 (hg:o.guard=none)(c x:Operand)(t e:TypeId)(g:o.op=Op.call { callee:=Callee.builtin Builtin.delete,args:=#[c,x],argTypes:=#[t,K] })(h:prog.underlying t=some (.map K e))
 (b:Nat) (m:κ→Option Value) (i:a.eval c=.map (some b)) (j:B9 K enc ok w b m) (k:κ) (d:ok k) (l:a.eval x=enc k)
 (n:∀w',B9 K enc ok w' b (NG m k none)→w.mapTurned w' b→wpList prog ops Q rest (a.put o.dst (.tuple #[])) w'):wpList prog ops Q (o::rest) a w:=by
 obtain⟨D,ho,p⟩:=j;obtain⟨_,f⟩:=E.key d;refine wpList_delete_own w hg c x t K g e (Keyed.of_law E.law) h tok b _ D i ho _ _ l f ?_;intro w' q r;exact n w' ⟨_,Rw q,p.del E d f⟩ r
omit [DecidableEq κ] in
theorem Qs (hg:o.guard=none)(c:Operand)(t e:TypeId)(d:o.op=Op.call { callee:=Callee.builtin Builtin.len,args:=#[c],argTypes:=#[t] })(f:prog.underlying t=some (.map K e))
 (b:Nat) (m:κ→Option Value) (g:a.eval c=.map (some b)) (h:B9 K enc ok w b m)
 (i:∀ks:List κ,ks.Nodup→(∀k,k∈ks↔(m k).isSome=true)→wpList prog ops Q rest (a.put o.dst (.int .i64 (ks.length:Nat))) w):wpList prog ops Q (o::rest) a w:=by
 obtain⟨D,ks,ho,_,j,l,n⟩:=h.keys E;refine wpList_len_own w hg c t d K e f tok b _ D g ho ?_;rw[←l];exact i ks j n
omit [DecidableEq κ] in
theorem Vd (hg:o.guard=none)(c:Operand)(t e:TypeId)(d:o.op=Op.range t c)(f:prog.underlying t=some (.map K e))(b:Nat)(m:κ→Option Value)(g:a.eval c=.map (some b))(h:B9 K enc ok w b m)
 (i:∀w' cnt,Ti K enc ok w' b w.heap.size m [] cnt→w.grownBy w' none→w'.heap.size=w.heap.size+1→wpList prog ops Q rest (a.put o.dst (C1 w.heap.size)) w'):wpList prog ops Q (o::rest) a w:=by
 obtain⟨D,ho,j⟩:=h;refine wpList_range_own w hg c t d K e (Keyed.of_law E.law) f tok b _ D g ho ?_;intro w' k n p;exact i w' _ ⟨D,_,k,j,⟨wL,fun {v l} _ _=>by cases Maps.has D l <;> simp⟩,by simp⟩ n p
omit [DecidableEq κ] in
theorem Wl (hg:o.guard=none)(it:Operand)(L:o.op=Op.next it false)(b r:Nat)(m:κ→Option Value)(ps:List (κ×Value))(cnt:Nat)(hit:a.eval it=(C1 r))(h:Ti K enc ok w b r m ps cnt)
 (M:mS m ps→wpList prog ops Q rest (a.put o.dst (.tuple #[.bool false])) w)
 (N:∀(k:κ) (v:Value) (w':World) (q:Nat),ok k→m k=some v→(∀t,(k,t)∉ps)→Ti K enc ok w' b r m (ps++[(k,v)]) q→q<cnt→w.grownBy w' (some r)→w'.heap.size=w.heap.size →
   (Instr.entry (C1 r)).run prog w'=.ok (.tuple #[enc k,v]) w'→wpList prog ops Q rest (a.put o.dst (.tuple #[.bool true,enc k,v])) w'):wpList prog ops Q (o::rest) a w:=by
 obtain⟨D,left,hr,f,i,hv⟩:=h;refine wpList_next_ranges w hg it L K (Keyed.of_law E.law) tok (id:Value→Value) id (fun key _ _=>⟨key,rfl⟩) (fun v _ _=>⟨v,rfl⟩) b r _ D left cnt hit hr ?_ ?_
 ·intro _ O;refine M ⟨i.nodup,fun k v=>⟨fun j=>hv _ j,fun j=>?_⟩⟩;have d:=f.dom j;obtain⟨l,A⟩:=E.key d;have u:Maps.has D l=true:=by rw[f.has d A,j];rfl
  obtain⟨p,hp,rfl⟩:=uA.1 ((i.mem d A).2 ⟨u,O _⟩);have:=hv p hp;rw[j] at this;have:v=p.2:=by simpa using this
  subst this;exact hp
 intro P v g y w' q c R S B T U V W X;have s:Maps.has D g=true:=Maps.has_true_of_atKey B;obtain⟨k,d,Y⟩:=f.all s;obtain rfl:P=enc k:=E.law.inj c Y;have c:keyOf prog K (enc k)=some g:=c;have Z:y=(.held v,[]):=by simpa [tok] using S.symm
 subst Z;have C:m k=some v:=by
  cases F:m k with
  |none=>rw[f.has d c,F] at s;cases s
  |some t=>have u:=f.hit c F .nil;have G:=B .nil;rw[u] at G;simpa using G
 have H:k∉ps.map (·.1):=fun n=>by have:=((i.mem d c).1 n).2;rw[R] at this;cases this
 refine N k v w' q d C (fun t aa=>H (uA.2 ⟨_,aa,rfl⟩)) ⟨D,_,T,f,⟨?_,?_⟩,fun p hp=>?_⟩ U V W X
 ·rw[uF];exact vP.2 ⟨i.nodup,by simp,fun a ab b I=>by simp at I;subst I;exact fun e=>H (e ▸ ab)⟩
 ·intro x l J n;by_cases e:x=k
  ·subst e;have e1:l=g:=(by have:=n.symm.trans c;simpa using this);subst e1;simp[s,WideAt.sameKey_self ((Keyed.of_law E.law).key c)]
  have ac:l≠g:=fun e2=>e (E.inj J d (E.law.inj n (e2 ▸ c)));have z:l.sameKey g=false:=by
   cases z:l.sameKey g
   ·rfl
   exact absurd (WideAt.sameKey_eq z) ac
  rw[uF,tW,i.mem J n];simp[z,e]
 rcases tW.1 hp with hp|hp
 ·exact hv p hp
 simp at hp;subst hp;simpa using C
end
def T7 (r:Row):List Value:=.int .i64 (r.length:Int)::(A2 (Aj r 0)++(A2 (Aj r 1)++(A2 (Aj r 2)++(A2 (Aj r 3)++(A2 (Aj r 4)++A2 (Aj r 5))))))
def Mj (r:Row):Value:=.agg (T7 r).toArray
def Ge (r:Row):Prop:=r.length≤6∧∀v∈r,Mh v
theorem Yd (r:Row){i j:Nat}(hi:i<6)(a:j<6):(T7 r)[1+i*6+j]? =(A2 (Aj r i))[j]? :=by
 match i,hi,j,a with
 |0,_,0,_|0,_,1,_|0,_,2,_|0,_,3,_|0,_,4,_|0,_,5,_=>rfl
 |1,_,0,_|1,_,1,_|1,_,2,_|1,_,3,_|1,_,4,_|1,_,5,_=>rfl
 |2,_,0,_|2,_,1,_|2,_,2,_|2,_,3,_|2,_,4,_|2,_,5,_=>rfl
 |3,_,0,_|3,_,1,_|3,_,2,_|3,_,3,_|3,_,4,_|3,_,5,_=>rfl
 |4,_,0,_|4,_,1,_|4,_,2,_|4,_,3,_|4,_,4,_|4,_,5,_=>rfl
 |5,_,0,_|5,_,1,_|5,_,2,_|5,_,3,_|5,_,4,_|5,_,5,_=>rfl
theorem Fs {r:Row}(h:Ge r)(c:Nat):Mh (Aj r c):=by
 unfold Aj;rw[uH];cases a:r[c]? with
 |none=>simp[Mh]
 |some v=>exact h.2 v (tV a)
theorem aS {r q:Row}(hr:Ge r)(c:Ge q)(h:T7 r=T7 q):r=q:=by
 have a:r.length=q.length:=by have:=congrArg (fun l=>l[0]?) h;simp only[T7,wG,Option.some.injEq,Value.int.injEq,true_and] at this;omega
 have d:∀i,i<6→Aj r i=Aj q i:=fun i hi=>by
  refine GM (Fs hr i) (Fs c i) (vN fun j=>?_);by_cases b:j<6
  ·rw[←Yd r hi b,←Yd q hi b,h]
  rw[vK (by rw[Gv];omega),vK (by rw[Gv];omega)]
 refine vN fun i=>?_;by_cases hi:i<r.length
 ·have:=d i (by have:=hr.1;omega);unfold Aj at this;rw[uH,uH,tT hi,tT (a ▸ hi)] at this;rw[tT hi,tT (a ▸ hi)];exact congrArg some this
 rw[vK (by omega),vK (by omega)]
theorem RX:laidOutB prog=true:=by kernel_rfl
theorem mT:(154:TypeId)<prog.types.size:=of_decide_eq_true (by kernel_rfl)
theorem mU:(133:TypeId)<prog.types.size:=of_decide_eq_true (by kernel_rfl)
theorem mV:KeyLaw prog 154:=deep_law_laid RX (m:=9) (by omega) mT (by kernel_rfl) (by rw[underlying154])
theorem mX:KeyLaw prog 133:=deep_law_laid RX (m:=9) (by omega) mU (by kernel_rfl) (by rw[underlying133])
theorem NH:prog.cellsOf 133=6:=by kernel_rfl
theorem aT:prog.cellsOf 154=37:=by kernel_rfl
theorem aU:prog.cellsOf 152=36:=by kernel_rfl
theorem aV:prog.cellsOf 131=4:=by kernel_rfl
theorem mY:prog.cellsOf 5=1:=by kernel_rfl
theorem mZ:prog.cellsOf 130=1:=by kernel_rfl
theorem nA:prog.cellsOf 2=1:=by kernel_rfl
theorem nB:prog.cellsOf 3=1:=by kernel_rfl
theorem rW:prog.keyType 133=true:=by kernel_rfl
theorem rX:prog.keyType 154=true:=by kernel_rfl
theorem rY {n:Int}(h:n=0∨n=1):(Lit.int .i32 n).wf=true:=by rcases h with rfl|rfl <;> decide
theorem tH {n:Int}(h:0≤n∧n≤255):(Lit.int .u8 n).wf=true:=by
 have a:IntKind.u8.min=0:=rfl;have b:IntKind.u8.max=255:=rfl;simp only[Lit.wf,a,b,Bool.and_eq_true,decide_eq_true_eq];exact h
theorem qV {n:Int}(h: -9223372036854775808≤n∧n≤9223372036854775807):(Lit.int .i64 n).wf=true:=by
 have a:IntKind.i64.min= -9223372036854775808:=rfl;have b:IntKind.i64.max=9223372036854775807:=rfl;simp only[Lit.wf,a,b,Bool.and_eq_true,decide_eq_true_eq];exact h
theorem RY (d:Nat){n:Int}(h:0≤n∧n≤255):prog.keyLits (d+1) 5 [.int .u8 n]=some [.int .u8 n]:=by
 unfold Program.keyLits;rw[underlying5];simp[tH h]
theorem nC (d:Nat){n:Int}(h:n=0∨n=1):prog.keyLits (d+1) 130 [.int .i32 n]=some [.int .i32 n]:=by
 unfold Program.keyLits;rw[underlying130];simp[rY h]
theorem nD (d:Nat){n:Int}(h: -9223372036854775808≤n∧n≤9223372036854775807):prog.keyLits (d+1) 2 [.int .i64 n]=some [.int .i64 n]:=by
 unfold Program.keyLits;rw[underlying2];simp[qV h]
theorem iO (d:Nat){n:Int}(h: -9223372036854775808≤n∧n≤9223372036854775807):prog.keyLits (d+1) 3 [.int .i64 n]=some [.int .i64 n]:=by
 unfold Program.keyLits;rw[underlying3];simp[qV h]
theorem nE:List.range 4=[0,1,2,3]:=rfl
theorem nG:List.range 6=[0,1,2,3,4,5]:=rfl
theorem qW (d:Nat){a b c e:Int}(f:0≤a∧a≤255)(g:0≤b∧b≤255)(h:0≤c∧c≤255)(i:0≤e∧e≤255) :
 prog.keyLits (d+2) 131 [.int .u8 a,.int .u8 b,.int .u8 c,.int .u8 e]=some [.int .u8 a,.int .u8 b,.int .u8 c,.int .u8 e]:=by
 unfold Program.keyLits;rw[underlying131];simp[aV,mY,nE,RY d f,RY d g,RY d h,RY d i]
def IF (v:V):List Lit:=[.int .i32 (kI v),.int .u8 (tB v 0),.int .u8 (tB v 1),.int .u8 (tB v 2),.int .u8 (tB v 3),.int .i64 (nI v)]
theorem Ye (d:Nat){v:V}(h:Mh v):prog.keyLits (d+3) 133 (A2 v)=some (IF v):=by
 unfold Program.keyLits;rw[underlying133];have a:=nC (d+1) (ZU v);have e1:=qW d (Tt v 0) (Tt v 1) (Tt v 2) (Tt v 3);have e2:=nD (d+1) (ZV h);simp only[A2];simp[NH,mZ,aV,nA,a,e1,e2,IF]
theorem iP {v:V}(h:Mh v):∃l,keyOf prog 133 (Ex v)=some l:=by
 unfold keyOf;rw[underlying133];have hf:(Ex v).formed prog 133=true:=by simp[Value.formed,underlying133,NH,Ex,A2]
 have a:prog.types.size+1=(prog.types.size-2)+3:=by have h:2<prog.types.size:=of_decide_eq_true (by kernel_rfl);omega
 have b:(Ex v).cells.toList=A2 v:=by simp[Ex,Value.cells]
 simp only[rW,hf,Bool.and_self,if_true,a,b,Ye _ h,xB];exact⟨_,rfl⟩
theorem qX (d:Nat){a b c e f g:V}(h:Mh a)(i:Mh b)(j:Mh c)(k:Mh e)(m:Mh f)(o:Mh g) :
 ∃l,prog.keyLits (d+4) 152 (A2 a++(A2 b++(A2 c++(A2 e++(A2 f++A2 g)))))=some l:=by
 unfold Program.keyLits;rw[underlying152];have p:=Ye d h;have e1:=Ye d i;have e2:=Ye d j;have e3:=Ye d k;have e4:=Ye d m;have e5:=Ye d o;have v:∀(x:V) (l:List Value) (n:Nat),(A2 x++l).drop (n+6)=l.drop n:=fun x l n=>rfl;have tk:∀(x:V) (l:List Value),(A2 x++l).take 6=A2 x:=fun x l=>rfl;have w:∀(x:V),(A2 x).take 6=A2 x:=fun x=>rfl;refine⟨[IF a,IF b,IF c,IF e,IF f,IF g].flatten,?_⟩;have q:(A2 a++(A2 b++(A2 c++(A2 e++(A2 f++A2 g))))).length=36:=rfl;have r:((A2 a++(A2 b++(A2 c++(A2 e++(A2 f++A2 g))))).drop (0*6)).take 6=A2 a:=rfl;have s:((A2 a++(A2 b++(A2 c++(A2 e++(A2 f++A2 g))))).drop (1*6)).take 6=A2 b:=rfl;have t:((A2 a++(A2 b++(A2 c++(A2 e++(A2 f++A2 g))))).drop (2*6)).take 6=A2 c:=rfl;have m3:((A2 a++(A2 b++(A2 c++(A2 e++(A2 f++A2 g))))).drop (3*6)).take 6=A2 e:=rfl;have u:((A2 a++(A2 b++(A2 c++(A2 e++(A2 f++A2 g))))).drop (4*6)).take 6=A2 f:=rfl;have m5:((A2 a++(A2 b++(A2 c++(A2 e++(A2 f++A2 g))))).drop (5*6)).take 6=A2 g:=rfl;simp only[aU,NH,q,if_true,nG,List.mapM_cons,List.mapM_nil,r,s,t,m3,u,m5,p,e1,e2,e3,e4,e5];rfl
theorem iQ {r:Row}(h:Ge r):∃l,keyOf prog 154 (Mj r)=some l:=by
 unfold keyOf;rw[underlying154];have hf:(Mj r).formed prog 154=true:=by simp[Value.formed,underlying154,aT,Mj,T7,A2]
 have a:prog.types.size+1=(prog.types.size-4)+5:=by have h:4<prog.types.size:=of_decide_eq_true (by kernel_rfl);omega
 have b:(Mj r).cells.toList=T7 r:=by simp[Mj,Value.cells]
 obtain⟨l,c⟩:=qX (prog.types.size-4) (Fs h 0) (Fs h 1) (Fs h 2) (Fs h 3) (Fs h 4) (Fs h 5);have d:=iO (prog.types.size-4+3) (n:=(r.length:Int)) (by have:=h.1;omega);have e:prog.keyLits ((prog.types.size-4)+5) 154 (T7 r)=some ([.int .i64 (r.length:Int)]++l):=by unfold Program.keyLits;rw[underlying154];have f:(T7 r).length=37:=rfl;have g:((T7 r).drop 0).take 1=[.int .i64 (r.length:Int)]:=rfl;have i:((T7 r).drop 1).take 36=A2 (Aj r 0)++(A2 (Aj r 1)++(A2 (Aj r 2)++(A2 (Aj r 3)++(A2 (Aj r 4)++A2 (Aj r 5))))):=rfl;simp only[aT,f];simp only[List.mapM_cons,List.mapM_nil,nB,aU,g,i,d,c];simp
 simp only[rX,hf,Bool.and_self,if_true,a,b,e,xB];exact⟨_,rfl⟩
theorem aW {r q:Row}(hr:Ge r)(a:Ge q)(h:Mj r=Mj q):r=q:=by
 unfold Mj at h;injection h with h;exact aS hr a (by simpa using congrArg Array.toList h)
theorem aX {v a:V}(hv:Mh v)(b:Mh a)(h:Ex v=Ex a):v=a:=by
 unfold Ex at h;injection h with h;exact GM hv b (by simpa using congrArg Array.toList h)
theorem Hk:KE 154 Mj Ge:=⟨mV,fun h=>iQ h,fun a b e=>aW a b e⟩
theorem V4:KE 133 Ex Mh:=⟨mX,fun h=>iP h,fun a b e=>aX a b e⟩
theorem Ab.map {κ:Type}{K:TypeId}{enc:κ→Value}{ok:κ→Prop}{S:Nat→Prop}{w w':World}(h:Ab S w w'){b:Nat}{m:κ→Option Value}(a:B9 K enc ok w b m)(c:¬S b):B9 K enc ok w' b m:=a.A6 (h.block b a.lt c)
theorem B9.IG {κ:Type}{K:TypeId}{enc:κ→Value}{ok:κ→Prop}{w:World}{b:Nat}{m:κ→Option Value}(h:B9 K enc ok w b m)(t:TypeId):¬Is t w b:=by
 rintro⟨c,_,a⟩;obtain⟨es,k,d⟩:=h.obj;rw[d] at a;cases a
def Ai (r:Row):Array Value:=(T7 r).toArray
theorem Bd (r:Row):(Ai r).size=37:=rfl
theorem Cp:(prog.info? 154).map (·.size)=some 37:=by kernel_rfl
theorem Ht (r:Row):(Ai r).all (·.oneCell')=true:=by
 rw[wQ];intro v hv;have a:v∈T7 r:=by simpa [Ai] using hv
 simp only[T7,A2,uP,tW,List.not_mem_nil,or_false] at a;rcases a with h|h|h|h|h|h|h <;> (try (subst h;rfl)) <;> (rcases h with h|h|h|h|h|h <;> subst h <;> rfl)
theorem Qt (r:Row){i j:Nat}(hi:i<6)(a:j<6):(Ai r)[1+i*6+j]? =(A2 (Aj r i))[j]? :=by
 rw[Ai,vV];exact Yd r hi a
theorem Ie (r:Row):(Ai r)[0]? =some (.int .i64 (r.length:Int)):=rfl
section
variable {ops:Array Oper} {rest:List Oper} {o:Oper} {a:Act} {w:World} {Q:Exit→Act→World→Prop}
theorem C7 (x:Operand)(ho:o.op=.load 154 x)(b:o.guard=none)(g:Nat)(c:a.eval x=(C1 g))(r:Row)(hg:C2 w g (Ai r) 154)
 (h:wpList prog ops Q rest (a.put o.dst (.agg (Ai r))) w):wpList prog ops Q (o::rest) a w :=
 wpList_load_row b 154 x ho g c 154 (Ai r) (0,0) _ hg underlying154 rfl (by rw[Bd];exact Cp) h
theorem Ve (x y:Operand)(ho:o.op=.store 154 x y)(b:o.guard=none)(g:Nat)(c:a.eval x=(C1 g))(r:Row)(d:a.eval y=.agg (Ai r))(old:Array Value)(e:old.size=37)(hg:C2 w g old 154)
 (h:wpList prog ops Q rest (a.put o.dst undef) (w.setRow g (Ai r))):wpList prog ops Q (o::rest) a w :=
 wpList_store_row b 154 x y ho g (Ai r) c d 154 old hg (by rw[Bd];exact Cp) (by rw[Bd];exact e) (Ht r) h
theorem Ft {g k:Nat}{v:V}(c:∀j x,(A2 v)[j]? =some x→C3 w g (k+j) x):(loadVar 133 ⟨g,k,none⟩).run prog w=.ok (.agg (A2 v).toArray) w:=by
 have b:(loadCells ⟨g,k,none⟩ (A2 v).length).run prog w=.ok (A2 v).toArray w :=
  run_loadCells_list (P:=prog) w ⟨g,k,none⟩ (A2 v) (fun j x d=>by have e:(⟨g,k,none⟩:Addr).add j=⟨g,k+j,none⟩:=(by unfold Addr.add;split <;> simp_all);rw[e];exact c j x d)
 cases a:prog.info? 133 with
 |none=>have:=ZW;simp[a] at this
 |some i =>
  have f:i.size=6:=by have:=ZW;simpa [a] using this
  have h:(isAgg 133).run prog w=.ok true w:=by unfold isAgg;rw[Sem.run_bind,run_underlying underlying133 w];rfl
  rw[Gv] at b;simp[loadVar,Sem.run_bind,h,sizeOf,typeInfo,a,f,b]
theorem Yf (x:Operand)(ho:o.op=.load 133 x)(b:o.guard=none)(g k:Nat)(c:a.eval x=.pointer (some ⟨g,k,none⟩))(v:V)(d:∀j x,(A2 v)[j]? =some x→C3 w g (k+j) x)
 (h:wpList prog ops Q rest (a.put o.dst (Ex v)) w):wpList prog ops Q (o::rest) a w:=by
 refine wpList_plain b fun _ e=>?_;unfold Oper.wp execOp;simp only[ho,c,Instr.loadAt,Instr.sureAddr,Sem.run_bind,Sem.run_pure,Result.andThen_ok,Ft d];exact e _ _ h
end
theorem Ih {w:World}{g:Nat}{r:Row}(hg:w.heap[g]? =some (.cells (Ai r) 154 (0,0))){c:Nat}(b:c<6):∀j x,(A2 (Aj r c))[j]? =some x→w.cell? ⟨g,1+c*6+j,none⟩=some x:=fun j x a=>by
 rw[Af hg,Qt r b (by have:=(tR.1 a).1;rw[Gv] at this;exact this)];exact a
theorem Oz (a b:Int):wrap64 (wrap64 a+b)=wrap64 (a+b):=by unfold wrap64;omega
theorem IH (a:Int):wrap64 (wrap64 a)=wrap64 a:=by unfold wrap64;omega
theorem Cn:wrap64 0=0:=by unfold wrap64;omega
theorem Ga {a:Int}(h: -9223372036854775808≤a∧a≤9223372036854775807):wrap64 a=a:=by unfold wrap64;omega
def Cr (l:Bag):Row→Option Value:=fun r=>if wrap64 (cnt l r)=0 then none else some (.int .i64 (wrap64 (cnt l r)))
def Ak (w:World)(b:Nat)(l:Bag):Prop:=(∀e∈l,Ge e.1)∧B9 154 Mj Ge w b (Cr l)
theorem aY {l a:Bag}(e:A9 l a):Cr l=Cr a:=by funext r;unfold Cr;rw[e r]
theorem Ak.lt {w:World}{b:Nat}{l:Bag}(h:Ak w b l):b<w.heap.size:=h.2.lt
theorem Ak.obj {w:World}{b:Nat}{l:Bag}(h:Ak w b l):∃es c,w.heap[b]? =some (.map es c):=h.2.obj
theorem Ak.A6 {w w':World}{b:Nat}{l:Bag}(h:Ak w b l)(a:w'.heap[b]? =w.heap[b]?):Ak w' b l:=⟨h.1,h.2.A6 a⟩
theorem Ak.kept {S:Nat→Prop}{w w':World}{b:Nat}{l:Bag}(h:Ak w b l)(k:Ab S w w')(a:¬S b):Ak w' b l:=h.A6 (k.block b h.lt a)
theorem Ak.IG {w:World}{b:Nat}{l:Bag}(h:Ak w b l)(t:TypeId):¬Is t w b:=h.2.IG t
theorem Ak.eqv {w:World}{b:Nat}{l a:Bag}(h:Ak w b l)(e:A9 l a)(c:∀x∈a,Ge x.1):Ak w b a:=⟨c,by rw[←aY e];exact h.2⟩
theorem Ak.made (w:World):Ak (w.alloc (.map #[] 0)) w.heap.size []:=by
 refine⟨by simp,?_⟩;have e:Cr []=fun _=>none:=by funext r;unfold Cr;rw[if_pos (show wrap64 (cnt [] r)=0 from Cn)]
 rw[e];exact B9.made _ _ _ w
theorem II (l:Bag):lU (Cr l) (Ad l).length:=by
 refine⟨(Ad l).map (·.1),by simp,fun r hr=>?_⟩;have a:cnt (Ad l) r≠0:=by intro e;rw[Aq] at e;unfold Cr at hr;rw[if_pos (by rw[e];exact Cn)] at hr;cases hr
 obtain⟨x,b,rfl⟩:=Ck.Cq a;exact uA.2 ⟨x,b,rfl⟩
theorem IJ (l:Bag)(r:Row)(t:Int)(o:Option Value)(ho:o=if wrap64 (wrap64 (cnt l r)+t)=0 then none else some (.int .i64 (wrap64 (wrap64 (cnt l r)+t)))):NG (Cr l) r o=Cr ((r,t)::l):=by
 funext q;by_cases h:q=r
 ·subst h;have e:wrap64 (cnt ((q,t)::l) q)=wrap64 (wrap64 (cnt l q)+t):=by rw[Oz];simp only[cnt,if_pos];rw[Int.add_comm]
  rw[Qr,ho];unfold Cr;rw[e]
 have e:cnt ((r,t)::l) q=cnt l q:=by simp only[cnt];rw[if_neg (fun e=>h e.symm)];omega
 rw[Ji _ _ h];unfold Cr;rw[e]
theorem Qu (l:Bag)(r:Row):(Cr l r).getD (.int .i64 0)=.int .i64 (wrap64 (cnt l r)):=by
 unfold Cr;by_cases h:wrap64 (cnt l r)=0
 ·rw[if_pos h,h];rfl
 rw[if_neg h];rfl
theorem M8 (w:World):(zeroValue 2).run prog w=.ok (.int .i64 0) w:=by kernel_rfl
theorem G9 (b:Nat)(l:Bag)(r:Row)(t:Int)(w:World)(h:Ak w b l)(n:Ge r)(o:(Ad l).length<maxLen) :
 Calls prog 79 #[.map (some b),.agg (Ai r),.int .i64 t] w fun e w'=>e=.returned (.tuple #[])∧Ak w' b ((r,t)::l)∧Ab (·=b) w w':=by
 have p:=Ae h.1;have q:B9 154 Mj Ge (w.alloc (.cells (Ai r) 154)) b (Cr l):=h.2.A6 (Below.heap_alloc _ _ _ h.lt);have f:=Ae q;have c:=Ae n;have u:=Ae o;have hg:C2 (w.alloc (.cells (Ai r) 154)) w.heap.size (Ai r) 154:=heap_alloc_last _ _;have s:=Ae hg;clear q h n o hg;by_cases d:wrap64 (wrap64 (cnt l r)+t)=0
 ·have v:(wrap64 (wrap64 (cnt l r)+t) == 0)=true:=by simp[d]
  have g:=Ae d;clear d;go_enter func79,ntmps79;go_wp2_with (first
   |(refine C7 _ rfl rfl w.heap.size rfl r s.o ?_)
   |(at_lookup;refine Dy _ Hk rfl _ _ 83 2 rfl underlying83 _ (M8 _) b (Cr l) rfl f.o r c.o rfl _ (Qu l r) ?_)
   |(at_delete;refine T6 _ Hk rfl _ _ 83 2 rfl underlying83 b (Cr l) rfl f.o r c.o rfl ?_;intro i j k)
   |fail)
  refine bodyPost_ret (results_none rfl _ _ _) rfl ?_;have m:Ab (·=b) w i:=((Ab.refl (·=b) w).alloc _).grown k.grown (fun r e=>by cases e;exact .inr rfl);refine⟨rfl,⟨fun e a=>?_,?_⟩,m⟩
  ·rcases uP.1 a with rfl|a
   ·exact c.o
   exact p.o e a
  rw[←IJ l r t none (by rw[if_pos g.o])];exact j
 have v:(wrap64 (wrap64 (cnt l r)+t) == 0)=false:=by simp[d]
 have g:=Ae d;clear d;go_enter func79,ntmps79;go_wp2_with (first
  |(refine C7 _ rfl rfl w.heap.size rfl r s.o ?_)
  |(at_lookup;refine Dy _ Hk rfl _ _ 83 2 rfl underlying83 _ (M8 _) b (Cr l) rfl f.o r c.o rfl _ (Qu l r) ?_)
  |(at_mapUpdate;refine Ms _ Hk rfl _ _ _ 83 2 rfl underlying83 b (Cr l) _ rfl f.o (II l) u.o r c.o _ rfl rfl ?_;intro i j k)
  |fail)
 go_end0;have m:Ab (·=b) w i:=((Ab.refl (·=b) w).alloc _).grown k.grown (fun r e=>by cases e;exact .inr rfl);refine⟨rfl,⟨fun e a=>?_,?_⟩,m⟩
 ·rcases uP.1 a with rfl|a
  ·exact c.o
  exact p.o e a
 rw[←IJ l r t (some _) (by rw[if_neg g.o])];exact j
def Wm (l es:Bag):Prop:=(es.map (·.1)).Nodup∧∀e∈es,Ge e.1∧e.2=wrap64 (cnt l e.1)∧e.2≠0
def J9 (l es:Bag):Prop:=Wm l es∧∀r,Ge r→wrap64 (cnt l r)≠0→∃e∈es,e.1=r
theorem T8 {es:Bag}(h:(es.map (·.1)).Nodup){e:Row×Int}(a:e∈es):cnt es e.1=e.2:=by
 induction es with
 |nil=>cases a
 |cons x es d =>
  have b:=vE.1 (by simpa using h:(x.1::es.map (·.1)).Nodup);rcases uP.1 a with rfl|a
  ·simp only[cnt,if_pos];rw[Dq fun y f c=>b.1 (uA.2 ⟨y,f,c⟩)];omega
  simp only[cnt];have g:¬x.1=e.1:=fun c=>b.1 (by rw[c];exact uA.2 ⟨e,a,rfl⟩);rw[if_neg g,d b.2 a];omega
theorem J9.cnt {l es:Bag}(h:J9 l es)(c:∀e∈l,Ge e.1)(r:Row):cnt es r=wrap64 (Mo.cnt l r):=by
 by_cases hr:∃e∈es,e.1=r
 ·obtain⟨e,a,rfl⟩:=hr;rw[T8 h.1.1 a];exact (h.1.2 e a).2.1
 rw[Dq fun e a d=>hr ⟨e,a,d⟩];by_cases b:wrap64 (Mo.cnt l r)=0
 ·exact b.symm
 exfalso;have:Mo.cnt l r≠0:=fun e=>b (by rw[e];exact Cn);obtain⟨x,f,rfl⟩:=Ck.Cq this;exact hr (h.2 x.1 (c x f) b)
def D5 (w:World)(b it:Nat)(l es:Bag)(k:Nat):Prop:=(∀e∈l,Ge e.1)∧Wm l es∧Ti 154 Mj Ge w b it (Cr l) (es.map fun e=>(e.1,Value.int .i64 e.2)) k
section
variable {w w':World} {b it:Nat} {l es:Bag} {k:Nat}
theorem D5.at (h:D5 w b it l es k):Ak w b l:=⟨h.1,h.2.2.owns⟩
theorem D5.ne (h:D5 w b it l es k):it≠b:=h.2.2.ne
theorem D5.lt (h:D5 w b it l es k):it<w.heap.size:=h.2.2.lt
theorem D5.T9 (h:D5 w b it l es k):Wm l es:=h.2.1
theorem D5.Vc (h:D5 w b it l es k)(a:w'.heap[b]? =w.heap[b]?)(hr:w'.heap[it]? =w.heap[it]?):D5 w' b it l es k:=⟨h.1,h.2.1,h.2.2.Vc a hr⟩
theorem D5.kept {S:Nat→Prop}(h:D5 w b it l es k)(kp:Ab S w w')(a:¬S b)(hi:¬S it):D5 w' b it l es k:=h.Vc (kp.block b h.at.lt a) (kp.block it h.lt hi)
theorem D5.iter (h:D5 w b it l es k):∃x y a c,w.heap[it]? =some (.mapIter x y a c):=by
 obtain⟨_,_,⟨D,left,⟨_,_,_,_,_,_,_,_,_,d,_⟩,_⟩⟩:=h;exact⟨_,_,_,_,d⟩
end
section
variable (w:World) {ops:Array Oper} {rest:List Oper} {o:Oper} {a:Act} {Q:Exit→Act→World→Prop}
theorem Bv (hg:o.guard=none)(c:Operand)(f:o.op=Op.range 83 c)(b:Nat)(l:Bag)(g:a.eval c=.map (some b))(d:Ak w b l)
 (h:∀w' k,D5 w' b w.heap.size l [] k→Ab No w w'→w'.heap.size=w.heap.size+1→wpList prog ops Q rest (a.put o.dst (C1 w.heap.size)) w'):wpList prog ops Q (o::rest) a w:=by
 refine Vd w Hk hg c 83 2 f underlying83 b (Cr l) g d.2 ?_;intro w' k i j m;exact h w' k ⟨d.1,⟨by simp,by simp⟩,i⟩ ((Ab.refl _ _).grown j (fun r e=>by cases e)) m
theorem B0 (hg:o.guard=none)(it:Operand)(n:o.op=Op.next it false)(b r:Nat)(l es:Bag)(k:Nat)(hit:a.eval it=(C1 r))(h:D5 w b r l es k)
 (p:J9 l es→wpList prog ops Q rest (a.put o.dst (.tuple #[.bool false])) w)
 (s:∀(t:Int) (q:Row) (w':World) (d:Nat),Ge q→t=wrap64 (cnt l q)→t≠0→D5 w' b r l (es++[(q,t)]) d→d<k→Ab (·=r) w w'→w'.heap.size=w.heap.size →
   (Instr.entry (C1 r)).run prog w'=.ok (.tuple #[.agg (Ai q),.int .i64 t]) w'→wpList prog ops Q rest (a.put o.dst (.tuple #[.bool true,.agg (Ai q),.int .i64 t])) w'):wpList prog ops Q (o::rest) a w:=by
 obtain⟨u,f,z⟩:=h;refine Wl w Hk hg it n b r (Cr l) _ k hit z ?_ ?_
 ·intro hf;refine p ⟨f,fun q g A=>?_⟩;have hv:Cr l q=some (.int .i64 (wrap64 (cnt l q))):=by unfold Cr;rw[if_neg A]
  have B:=(hf.2 _ _).2 hv;obtain⟨e,c,i⟩:=uA.1 B;exact⟨e,c,by injection i⟩
 intro q v w' d g hv C D E F G H;have I:Ab (·=r) w w':=(Ab.refl _ _).grown F (fun x e=>by cases e;exact .inr rfl);have j:wrap64 (cnt l q)≠0:=fun e=>by unfold Cr at hv;rw[if_pos e] at hv;cases hv
 have J:v=.int .i64 (wrap64 (cnt l q)):=by unfold Cr at hv;rw[if_neg j] at hv;simpa using hv.symm
 subst J;refine s _ q w' d g rfl j ⟨u,⟨?_,?_⟩,?_⟩ E I G H
 ·rw[uF,vP];refine⟨f.1,by simp,fun y K L m=>?_⟩;simp at m;subst m;rintro rfl;obtain⟨e,c,i⟩:=uA.1 K;exact C (.int .i64 e.2) (uA.2 ⟨e,c,by rw[i]⟩)
 ·intro e c;rcases tW.1 c with c|c
  ·exact f.2 e c
  simp at c;subst c;exact⟨g,rfl,j⟩
 rw[uF];exact D
theorem Bt (x y:Operand)(ho:o.op=.store 154 x y)(b:o.guard=none)(w0:World)(old:Array Value)(c:w=w0.alloc (.cells old 154))(d:old.size=37)(e:a.eval x=(C1 w0.heap.size))(r:Row)(f:a.eval y=.agg (Ai r))
 (h:wpList prog ops Q rest (a.put o.dst undef) (w0.alloc (.cells (Ai r) 154))):wpList prog ops Q (o::rest) a w:=by
 subst c;refine Ve x y ho b w0.heap.size e r f old d (heap_alloc_last _ _) ?_;rw[World.setRow_alloc_new];exact h
end
theorem Wm.len {l es:Bag}(h:Wm l es):es.length≤(Ad l).length:=by
 have b:=Dl (m:=(Ad l).map (·.1)) h.1 (fun r hr=>by
  obtain⟨e,c,rfl⟩:=uA.1 hr;obtain⟨_,a,d⟩:=h.2 e c;have:cnt (Ad l) e.1≠0:=by rw[Aq];intro f;rw[f,Cn] at a;exact d a
  obtain⟨x,g,i⟩:=Ck.Cq this;exact uA.2 ⟨x,g,i⟩)
 simpa using b
def sS (l m:Bag):Prop:=∀r,wrap64 (cnt l r)=wrap64 (cnt m r)
theorem Ak.rZ {w:World}{b:Nat}{l a:Bag}(h:Ak w b l)(e:sS l a)(c:∀x∈a,Ge x.1):Ak w b a:=by
 refine⟨c,?_⟩;have:Cr l=Cr a:=by funext r;unfold Cr;rw[e r]
 rw[←this];exact h.2
theorem J9.rZ {l es:Bag}(h:J9 l es)(a:∀e∈l,Ge e.1)(m:Bag):sS (es++m) (l++m):=fun r=>by
 rw[Ah,Ah,h.cnt a r,Oz]
theorem BF {l m:Bag}(h:∀e∈l,Ge e.1)(k:∀e∈m,Ge e.1):∀e∈l++m,Ge e.1:=fun e a=>by
 rcases tW.1 a with a|a
 ·exact h e a
 exact k e a
theorem Wm.ok {l es:Bag}(h:Wm l es):∀e∈es,Ge e.1:=fun e a=>(h.2 e a).1
theorem NI (a b2:Nat)(b d:Bag)(w:World)(o:Ak w a b)(p:Ak w b2 d)(F:a≠b2)(s:(Ad b).length+(Ad d).length<maxLen) :
 Calls prog 116 #[.map (some a),.map (some b2)] w fun e w'=>e=.returned (.tuple #[])∧Ak w' a (d++b)∧Ab (·=a) w w':=by
 have f:=Ae o;have g:=Ae p;have G:=Ae s;clear o p s;go_enter func116,ntmps116;go_wp2_with (first
  |(at_range;refine Bv _ rfl _ rfl b2 d rfl g.o ?_;intro w1 H u h I)
  |fail)
 have J:=Ae u;have K:xR (Ak w1 a b):=f.o.kept h xT;have v:Ab (·=a) w w1:=h.any;have Z:=f.o.lt;clear u I h;go_frame;go_loopg [] H (fun k wr=>∃es:Bag,xR (D5 wr b2 w.heap.size d es k)∧xR (Ak wr a (es++b))∧Ab (·=a) w wr)
 case atStart=>exact⟨[],J,K,v⟩
 obtain⟨es,hr,x,y⟩:=hrel;have z:=Ae y;clear y v;go_wp2_with (first
  |(at_next;refine B0 _ rfl _ rfl b2 w.heap.size d es gk rfl hr.o ?_ ?_)
  |fail)
 ·intro L;go_wp21;go_end0;exact⟨rfl,x.o.rZ (L.rZ g.o.1 b) (BF g.o.1 f.o.1),z.o⟩
 intro t q c A B M N C O j P aa;have Q:=Ae B;have l:=Ae C;have R:=Ae j;have m:Ak c a (es++b):=x.o.kept j (fun e=>by omega);have S:xR (Ak (c.alloc (.cells (Ai q) 154)) a (es++b)):=m.A6 (Below.heap_alloc _ _ _ m.lt);have T:xR (C2 (c.alloc (.cells (Ai q) 154)) c.heap.size (Ai q) 154):=heap_alloc_last _ _;have U:xR ((Ad (es++b)).length<maxLen):=by have e1:=l.o.T9.len;have e2:=A3 es b;have e3:=G.o;show _<_;simp at e1;omega
 clear B C j M N m P;go_wp2_with (first
  |(refine Bt _ _ _ rfl rfl c _ rfl rfl rfl q rfl ?_)
  |(refine C7 _ rfl rfl c.heap.size rfl q T.o ?_)
  |fail)
 go_call G9 a (es++b) q t _ S.o Q.o U.o as e w3 ⟨rfl,D,E⟩;have n:Ab (·=a) c w3:=((Ab.refl No c).alloc _).Qk E;have V:xR (D5 w3 b2 w.heap.size d (es++[(q,t)]) A):=l.o.kept n (fun e=>F e.symm) (fun e=>by omega);have W:xR (Ak w3 a ((es++[(q,t)])++b)):=by refine D.eqv (fun r=>?_) (BF l.o.T9.ok f.o.1);simp only[Ah,cnt];omega
 have X:xR (Ab (·=a) w w3):=by have Y:Ab (·=a) w c:=z.o.trans R.o (fun _ e=>e) (fun i hi e=>by omega);exact Y.seq n
 clear D E n;go_wp21;go_roundg A
 case measure=>exact O
 exact⟨es++[(q,t)],V,W,X.o⟩
def E6 (w:World)(v:Value)(l:Bag):Prop:=(v=.map none∧l=[])∨∃b,v=.map (some b)∧Ak w b l
theorem E6.ok {w:World}{v:Value}{l:Bag}(h:E6 w v l):∀e∈l,Ge e.1:=by
 rcases h with ⟨_,rfl⟩|⟨b,_,h⟩
 ·simp
 exact h.1
theorem E6.A6 {w w':World}{v:Value}{l:Bag}(h:E6 w v l)(a:∀b,v=.map (some b)→w'.heap[b]? =w.heap[b]?):E6 w' v l:=by
 rcases h with h|⟨b,rfl,h⟩
 ·exact .inl h
 exact .inr ⟨b,rfl,h.A6 (a b rfl)⟩
theorem E6.kept {S:Nat→Prop}{w w':World}{v:Value}{l:Bag}(h:E6 w v l)(k:Ab S w w')(a:∀b,v=.map (some b)→¬S b):E6 w' v l:=by
 rcases h with h|⟨b,rfl,h⟩
 ·exact .inl h
 exact .inr ⟨b,rfl,h.kept k (a b rfl)⟩
theorem E6.Ag {w w':World}{v:Value}{l:Bag}(h:E6 w v l)(k:Ab No w w'):E6 w' v l:=h.kept k (fun _ _ e=>e)
def lV (es:Bag):Int:=Ci es fun _=>1
theorem aZ (es:Bag)(r:Row)(t:Int):lV (es++[(r,t)])=lV es+t:=by simp[lV,D3,Ci]
end Go.Proofs.YtdinjjmcmfjbfaaGreatDoor
