import Derived.Test.YtdinjjmcmfjbfaaGreatDoorWyJ
namespace Go.Proofs.YtdinjjmcmfjbfaaGreatDoor.Mo
end Go.Proofs.YtdinjjmcmfjbfaaGreatDoor.Mo
namespace Go.Proofs.YtdinjjmcmfjbfaaGreatDoor
open Go.RowKit Go.Shelf
open Mo (V Row Bag cnt Af Be B0 Fw Cy Jf Ay B1 Z8 jA Ir neg)
def Wa (w:World)(O:Ow)(b:Nat)(T:Value)(cs:List Nat)(s:Option Nat)(x:Cy)(B:Bag):Prop :=
 O b=b+2∧∃g cap hv tv cv,w.heap[b]? =some (.cells (jD (DK g cap) hv tv cv x) 286 (0,0))∧Qb w O b g T∧E9 w O b hv (B1 cs B)∧E9 w O b tv (Z8 cs s B)∧Ol w O cv cs∧∀k,tv=.map (some k)→hv≠.map (some k)
theorem Wa.stab {w w':World}{O f:Ow}{b:Nat}{T:Value}{cs:List Nat}{s:Option Nat}{x:Cy}{B:Bag}(h:Wa w O b T cs s x B)(m:w.heap.size≤w'.heap.size)(a:∀k,k<w.heap.size→O k=b+2∨O k=1→w'.heap[k]? =w.heap[k]?∧f k=O k):Wa w' f b T cs s x B:=by
 obtain⟨i,g,cap,hv,tv,cv,j,d,n,o,p,q⟩:=h
 have l:=a b (Aa j) (.inl i)
 exact⟨l.2.trans i,g,cap,hv,tv,cv,l.1.trans j,d.stab (a g d.lt (.inl d.1)),n.stab fun k c e=>a k c (.inl e),o.stab fun k c e=>a k c (.inl e),p.stab m fun k c e=>a k c (.inr e),q⟩
theorem Wa.eqv {w:World}{O:Ow}{b:Nat}{T:Value}{cs:List Nat}{s:Option Nat}{x:Cy}{B a:Bag}(h:Wa w O b T cs s x B)(e:Be B a):Wa w O b T cs s x a:=by
 obtain⟨c,g,cap,hv,tv,cv,d,f,i,j,k,l⟩:=h
 exact⟨c,g,cap,hv,tv,cv,d,f,i.eqv (Mo.Fy e),j.eqv (Mo.TL e),k,l⟩
theorem Aw.UG {w:World}{b:Nat}{l a:Bag}(h:Aw w b l)(e:Be l a):Aw w b (Af a):=by
 refine h.eqv (e.trans (Mo.Bv _).symm) fun x c=>?_
 have:cnt l x.1≠0:=by rw[e];exact Mo.Gq c
 obtain⟨y,d,f⟩:=Mo.Cg.Dd this
 rw[←f];exact h.1 y d
structure jG (us:List Bool) (cs:List Nat) (s:Option Nat) (x:Cy):Prop where
 c6:∀y∈cs,y<6
 l5:cs.length≤5
 x6:∀c,x=.col c→c<6
 row:∀{q:Row},Mo.Dr us q→G5 (Ay cs q)
 sv:∀q,Mo.sv s q=nI (Jf x q)
end Go.Proofs.YtdinjjmcmfjbfaaGreatDoor
