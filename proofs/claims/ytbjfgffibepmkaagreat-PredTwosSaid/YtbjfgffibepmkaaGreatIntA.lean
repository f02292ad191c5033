/- Boxes -/
import Derived.Test.YtbjfgffibepmkaaGreatRefK
import Derived.Deep.RegionHeld3
namespace Go.Proofs.YtbjfgffibepmkaaGreat
open Go.Proofs.Tryz
open Lib (hid)
open Go.RowKit
variable {W w w':World}{a:Addr}{s s' u v x:Value}{B X Y cap g g' i j k n r:Nat}{cs:List (Nat×Nat×Value)}{rs xs:List Nat}{e:Ending}{fn:Func}{R:Ending->World->Prop}{q y z:Int}{b b':Bool}{p:Option Addr}
theorem na  (h:w.cell? a=some x):a.block<w.heap.size:=by
 rcases Nat.lt_or_ge a.block w.heap.size with h1 | h1
 ·exact h1
 ·simp [World.cell?,Array.getElem?_eq_none h1] at h
theorem cell_grown {w:World} (g:w.grownBy w' none) (h:w.cell? a=some x):w'.cell? a=some x:=by
 rw [World.cell?_of_block (g.block a.block (na h) (by simp))];exact h
theorem gz {w:World}{x:Value} (g:w.grownBy w' none) (hc:w.cell? a=some x) (h:w.frozen? a=false):w'.frozen? a=false:=by
 have:=g.block a.block (na hc) (by simp)
 simp only [World.frozen?,this] at h ⊢
 exact h
def cellOf (w:World) (a:Addr):Value:=(w.cell? a).getD undef
theorem gS  (h:w.cell? a=some x):w.cell? a=some (cellOf w a):=by
 unfold cellOf;rw [h];rfl
theorem sj (w:World) (a b:Addr) (v:Value):(w.setCell a v).frozen? b=w.frozen? b:=by
 simp only [World.frozen?,World.setCell,Array.getElem?_modify]
 by_cases e:a.block=b.block
 ·rw [if_pos e]
  cases h:w.heap[b.block]? with
  | none=>rfl
  | some o=>cases o <;> rfl
 ·rw [if_neg e]
def set2 (w:World) (g:Nat) (u v:Value):World:=(w.setCell ⟨g,0,none⟩ u).setCell ⟨g,1,none⟩ v
theorem iu  (h:w.cell? a=some x) (hg:a.block≠g:=by simp):(set2 w g u v).cell? a=some x:=by
 unfold set2
 rw [World.cell?_setCell_far _ _ _ _ (fun e=>hg e.symm),World.cell?_setCell_far _ _ _ _ (fun e=>hg e.symm)];exact h
theorem dW  (h:w.cell? ⟨g,0,none⟩=some x):(set2 w g u v).cell? ⟨g,0,none⟩=some u:=by
 unfold set2
 rw [World.cell?_setCell_other _ _ _ _ (by simp)]
 exact World.cell?_setCell_same' _ _ _ (by rw [h];rfl)
theorem dY  (h:w.cell? ⟨g,1,none⟩=some x):(set2 w g u v).cell? ⟨g,1,none⟩=some v:=by
 unfold set2
 refine World.cell?_setCell_same' _ _ _ ?_
 rw [World.cell?_setCell_other _ _ _ _ (by simp),h];rfl
theorem lM  (h:w.frozen? a=false):(set2 w g u v).frozen? a=false:=by
 unfold set2;rw [sj,sj];exact h
theorem gA (w:World) (g:Nat) (u v:Value):w.grownBy (set2 w g u v) (some g):=aR (bV _ _ _ _) (bV _ _ _ _)
theorem lK (w:World) (c:Array Value) (t:TypeId) (a:Addr) (h:w.frozen? a=false):(w.alloc (.cells c t)).frozen? a=false:=by
 by_cases e:a.block=w.heap.size
 ·simp only [World.frozen?,e,heap_alloc_new]
  simp
 ·by_cases e2:a.block<w.heap.size
  ·simp only [World.frozen?,Below.heap_alloc _ _ _ e2] at h ⊢
   exact h
  ·have:(w.alloc (.cells c t)).heap[a.block]?=none:=Array.getElem?_eq_none (by simp;omega)
   simp only [World.frozen?,this]
theorem lL  (h:w.heap.size<=a.block):w.frozen? a=false:=by
 simp only [World.frozen?,Array.getElem?_eq_none h]
def eI (W:World):List Nat->World->Prop
 | [],w=>W.grownBy w none
 | g :: rs,w=>w.cell? ⟨g,0,none⟩=some (cellOf w ⟨g,0,none⟩)∧w.cell? ⟨g,1,none⟩=some (cellOf w ⟨g,1,none⟩)∧w.frozen? ⟨g,0,none⟩=false∧w.frozen? ⟨g,1,none⟩=false∧eI W rs w
def Kept (W:World):List (Nat×Nat×Value)->List Nat->World->Prop
 | [],rs,w=>eI W rs w
 | (g,o,x) :: cs,rs,w=>w.cell? ⟨g,o,none⟩=some x∧Kept W cs rs w
theorem eI.grown {W w w':World}:∀(rs:List Nat),eI W rs w->w.grownBy w' none->eI W rs w'
 | [],h,g=>aR h g
 | _ :: rs,h,g=>⟨gS (cell_grown g h.1),gS (cell_grown g h.2.1),gz g h.1 h.2.2.1,gz g h.2.1 h.2.2.2.1,eI.grown rs h.2.2.2.2 g⟩
theorem Kept.grown {W w w':World}:∀(cs:List (Nat×Nat×Value)) (rs:List Nat),Kept W cs rs w->w.grownBy w' none->Kept W cs rs w'
 | [],rs,h,g=>eI.grown rs h g
 | (_,_,_) :: cs,rs,h,g=>⟨cell_grown g h.1,Kept.grown cs rs h.2 g⟩
theorem jM {o:Nat} (ho:o=0∨o=1) (h:w.cell? ⟨g',o,none⟩=some (cellOf w ⟨g',o,none⟩)):(set2 w g u v).cell? ⟨g',o,none⟩=some (cellOf (set2 w g u v) ⟨g',o,none⟩):=by
 by_cases e:g'=g
 ·subst e
  rcases ho with rfl | rfl
  ·exact gS (dW h)
  ·exact gS (dY h)
 ·exact gS (iu h (hg:=e))
theorem eI.set {W w:World}{g:Nat}{u v:Value}:∀(rs:List Nat),W.heap.size<=g->eI W rs w->eI W rs (set2 w g u v)
 | [],hg,h=>cK h (gA _ _ _ _) hg
 | _ :: rs,hg,h=>⟨jM (.inl rfl) h.1,jM (.inr rfl) h.2.1,lM h.2.2.1,lM h.2.2.2.1,eI.set rs hg h.2.2.2.2⟩
theorem Kept.set {W w:World}{g:Nat}{u v:Value}:∀(cs:List (Nat×Nat×Value)) (rs:List Nat),(cs.all fun c=>c.1 != g)=true->W.heap.size<=g->Kept W cs rs w->Kept W cs rs (set2 w g u v)
 | [],rs,_,hg,h=>eI.set rs hg h
 | (_,_,_) :: cs,rs,hc,hg,h=>by
  simp only [List.all_cons,Bool.and_eq_true,bne_iff_ne,ne_eq] at hc
  exact ⟨iu h.1 (hg:=hc.1),Kept.set cs rs (by simpa using hc.2) hg h.2⟩
theorem Kept.step  (cs:List (Nat×Nat×Value)) (rs:List Nat) (g:w.grownBy w' none) (h:Kept W cs rs w):Kept W cs rs w':=Kept.grown cs rs h g
theorem Kept.start (w:World):Kept w [] [] w:=bt w none
theorem Kept.box  (g:Nat) (x y:Value) (t:TypeId) (h:Kept W cs rs w) (hg:w.heap.size=g):Kept W ((g,0,x) :: (g,1,y) :: cs) rs (w.alloc (.cells #[x,y] t)):=by
 subst hg
 exact ⟨by simp [go_sem],by simp [go_sem],Kept.grown cs rs h (bg _ _ _)⟩
theorem Kept.res {W w:World}{rs:List Nat} (g:Nat) (x y:Value) (t:TypeId):∀(cs:List (Nat×Nat×Value)),Kept W cs rs w->w.heap.size=g->Kept W cs (g :: rs) (w.alloc (.cells #[x,y] t))
 | [],h,hg=>by
  subst hg
  have c0:(w.alloc (.cells #[x,y] t)).cell? ⟨w.heap.size,0,none⟩=some x:=by simp [go_sem]
  have c1:(w.alloc (.cells #[x,y] t)).cell? ⟨w.heap.size,1,none⟩=some y:=by simp [go_sem]
  exact ⟨gS c0,gS c1,lK _ _ _ _ (lL (Nat.le_refl _)),lK _ _ _ _ (lL (Nat.le_refl _)),eI.grown rs h (bg _ _ _)⟩
 | (g',o,x') :: cs,h,hg=>⟨cell_grown (bg _ _ _) h.1,Kept.res g x y t cs h.2 hg⟩
theorem eI.all {W w:World}:∀(rs:List Nat),eI W rs w->W.grownBy w none
 | [],h=>h
 | _ :: rs,h=>eI.all rs h.2.2.2.2
theorem Kept.all {W w:World}:∀(cs:List (Nat×Nat×Value)) (rs:List Nat),Kept W cs rs w->W.grownBy w none
 | [],rs,h=>eI.all rs h
 | _ :: cs,rs,h=>Kept.all cs rs h.2
theorem Kept.size  (h:Kept W cs rs w):W.heap.size<=w.heap.size:=(Kept.all cs rs h).size
theorem eI.lt {W w:World}{g:Nat}:∀(rs:List Nat),g ∈ rs->eI W rs w->g<w.heap.size
 | _ :: rs,hm,h=>by
  rcases List.mem_cons.1 hm with rfl | hm
  ·exact na h.1
  ·exact eI.lt rs hm h.2.2.2.2
theorem Kept.lt {W w:World}{g:Nat}:∀{cs:List (Nat×Nat×Value)}{rs:List Nat},Kept W cs rs w->g ∈ rs->g<w.heap.size
 | [],rs,h,hm=>eI.lt rs hm h
 | _ :: _,_,h,hm=>Kept.lt h.2 hm
theorem qz  (b:Addr) (h:w.cell? b=none):(w.setCell a u).cell? b=none:=by
 by_cases e:a=b
 ·subst e
  simp only [World.cell?,World.setCell,Array.getElem?_modify] at h ⊢
  cases hh:w.heap[a.block]? with
  | none=>simp
  | some o=>
   rw [hh] at h
   cases o <;> simp_all
 ·rw [World.cell?_setCell_other _ _ _ _ e];exact h
theorem nM  (h:(set2 w g u v).cell? ⟨g,0,none⟩=some x):(set2 w g u v).cell? ⟨g,0,none⟩=some u:=by
 cases hc:w.cell? ⟨g,0,none⟩ with
 | some y=>exact dW hc
 | none=>rw [set2,qz _ (qz _ hc)] at h;cases h
theorem nO  (h:(set2 w g u v).cell? ⟨g,1,none⟩=some x):(set2 w g u v).cell? ⟨g,1,none⟩=some v:=by
 cases hc:w.cell? ⟨g,1,none⟩ with
 | some y=>exact dY hc
 | none=>rw [set2,qz _ (qz _ hc)] at h;cases h
theorem kS (b X:Nat) (hb:2<=b:=by omega):decide (0<(am b X).length)=decide (0<X):=by
 have:=fz (hb:=hb) (n:=X)
 exact decide_eq_decide.2 ⟨fun h=>by omega,fun h=>by omega⟩
theorem own_ne {e:TypeId}{k:IntKind}{xs:List Nat} (h:Own w e k B v xs) (hg:g<B):some g=none∨v.ownBlock≠some g:=
 .inr fun x=>by have:=(h.lt g x).1;omega
theorem tR {a:Act}{y:Value} (hres:fn.results = #[ResultVar.cell r 27]) (hd:a.defers = []) (hr:a.tmps[r]?=some (.pointer (some ⟨g,0,none⟩)))
  (c0:w.cell? ⟨g,0,none⟩=some x) (c1:w.cell? ⟨g,1,none⟩=some y) (h:R (.returned (.agg #[x,y])) w):bodyPost prog fn R .ret a w:=by
 simp [bodyPost,results,hres,hr,c0,c1,go_sem,h,hd]
theorem qw {a:Act}{y:Value} (hres:fn.results = #[ResultVar.cell r 61]) (hd:a.defers = []) (hr:a.tmps[r]?=some (.pointer (some ⟨g,0,none⟩)))
  (c0:w.cell? ⟨g,0,none⟩=some x) (c1:w.cell? ⟨g,1,none⟩=some y) (h:R (.returned (.agg #[x,y])) w):bodyPost prog fn R .ret a w:=by
 simp [bodyPost,results,hres,hr,c0,c1,go_sem,h,hd]
def sg (b:Bool) (X:Nat):Int:=if b then -(X:Int) else X
theorem ee (b:Bool) (X:Nat):(sg b X).natAbs=X:=by cases b <;> simp [sg]
theorem AF (b:Bool) (X:Nat):sg (!b) X = - sg b X:=by cases b <;> simp [sg]
theorem mp (b:Bool) (X:Nat):decide (sg b X<0)=(b && decide (0<X)):=by
 cases b
 ·simp [sg]
 ·simp [sg]
theorem tT (z:Int):sg (decide (z<0)) z.natAbs=z:=by
 unfold sg;split <;> rename_i h <;> simp at h <;> omega
def aF (w:World) (v:Value) (z:Int) (k:Nat):Prop:=∃(b:Bool) (s:Value) (X:Nat),v = .agg #[.bool b,s]∧Num w s X k∧z=sg b X
theorem aF.grown  (h:aF w v z k) (g:w.grownBy w' none):aF w' v z k:=by
 obtain ⟨b,s,X,h1,h2,h3⟩:=h
 exact ⟨b,s,X,h1,h2.grown g,h3⟩
def fl (w:World) (B:Nat) (v:Value) (z:Int):Prop:=∃p cap,v = .agg #[.bool (decide (z<0)),.slice p (am 4294967296 z.natAbs).length cap]∧Own w 119 .u32 B (.slice p (am 4294967296 z.natAbs).length cap) (am 4294967296 z.natAbs)
theorem fl.grown  (h:fl w B v z) (g:w.grownBy w' none):fl w' B v z:=by
 obtain ⟨p,cap,h1,h2⟩:=h
 exact ⟨p,cap,h1,h2.grown g (.inl rfl)⟩
theorem fl.AG  (h:fl w B v z) (hb:Bd z.natAbs k):aF w v z k:=by
 obtain ⟨p,cap,h1,h2⟩:=h
 exact ⟨_,_,_,h1,(show gG w _ _ _ from ⟨h2.sl,hb⟩).num,(tT z).symm⟩
def eH (w:World) (z:Int) (k:Nat) (e:Ending) (w':World):Prop:=∃v,e = .returned v∧fl w' w.heap.size v z∧Bd z.natAbs k∧w.grownBy w' none
theorem jk {a:Act}{y:Value} (hres:fn.results = #[ResultVar.cell r 27]) (hd:a.defers = []) (hr:a.tmps[r]?=some (.pointer (some ⟨g,0,none⟩)))
  (h0:(set2 w g (.bool (b && decide (0<(am 4294967296 X).length))) (.slice p (am 4294967296 X).length cap)).cell? ⟨g,0,none⟩=some x)
  (h1:(set2 w g (.bool (b && decide (0<(am 4294967296 X).length))) (.slice p (am 4294967296 X).length cap)).cell? ⟨g,1,none⟩=some y)
  (hG:W.grownBy (set2 w g (.bool (b && decide (0<(am 4294967296 X).length))) (.slice p (am 4294967296 X).length cap)) none)
  (ho:Own w 119 .u32 B (.slice p (am 4294967296 X).length cap) (am 4294967296 X)) (hB:W.heap.size<=B) (hg:g<B) (hz:sg b X=z) (hb:Bd X k) :
  bodyPost prog fn (eH W z k) .ret a (set2 w g (.bool (b && decide (0<(am 4294967296 X).length))) (.slice p (am 4294967296 X).length cap)):=by
 subst hz
 refine tR hres hd hr (nM h0) (nO h1) ⟨_,rfl,⟨p,cap,?_,?_⟩,by rw [ee];exact hb,hG⟩
 ·rw [mp,ee,kS _ _]
 ·rw [ee]
  exact ((ho.mono hB).grown (gA _ _ _ _) (own_ne ho hg))
theorem fO (b:Bool) (p:Option Addr) (n cap:Nat) (w:World) :
  Calls prog 120 #[.bool b,.slice p n cap] w fun e w'=>e = .returned (.agg #[.bool (b && decide (0<n)),.slice p n cap])∧w.grownBy w' none:=by
 go_enter func120,ntmps120
 cases b
 all_goals
  go_wp2_with fail
  simp [bodyPost,results,results120,go_sem]
  exact bg _ _ _
set_option maxHeartbeats 1000000 in
theorem Mi  (hx:aF w v z k) (hk:k<=1000000) :
  Calls prog 78 #[v] w (eH w (z) k):=by
 obtain ⟨b,s,X,rfl,hx,rfl⟩:=hx
 obtain ⟨p,n,cap,rfl⟩:=hx.slice
 have Hx:=hid hx
 clear hx
 have S0:Kept w [(w.heap.size,0,.bool b),(w.heap.size,1,.slice p n cap)] [w.heap.size+1] ((w.alloc (.cells #[.bool b,.slice p n cap] 27)).alloc (.cells #[.bool false,.slice none 0 0] 27)):=((Kept.start w).box _ _ _ _ rfl).res _ _ _ _ _ (by simp)
 go_enter func78,ntmps78
 go_wp2_with fail
 go_region_held3 (fun w'=>w'.cell? ⟨w.heap.size,0,none⟩=some (.bool b)∧w'.cell? ⟨w.heap.size,1,none⟩=some (.slice p n cap)∧w'.cell? ⟨w.heap.size+1,0,none⟩=some (cellOf w' ⟨w.heap.size+1,0,none⟩)∧w'.cell? ⟨w.heap.size+1,1,none⟩=some (cellOf w' ⟨w.heap.size+1,1,none⟩)∧w'.frozen? ⟨w.heap.size+1,0,none⟩=false∧w'.frozen? ⟨w.heap.size+1,1,none⟩=false∧w.grownBy w' none) (first | exact Kept.step (W:=w) [(w.heap.size,0,.bool b),(w.heap.size,1,.slice p n cap)] [w.heap.size+1] (by assumption) (by assumption) | exact Kept.set (W:=w) [(w.heap.size,0,.bool b),(w.heap.size,1,.slice p n cap)] [w.heap.size+1] (by simp <;> omega) (by first | omega | (simp <;> omega)) (by assumption) | exact Kept.step [(w.heap.size,0,.bool b),(w.heap.size,1,.slice p n cap)] [w.heap.size+1] (dl _ _) S0)
  (first | (go_at_call 121;refine (qu (Hx.out.grown (by go_split_ands;assumption)) hk).mono ?_;rintro e w' ⟨v,rfl,h,bd,hg⟩;obtain ⟨pv,nv,rfl⟩:=h.slice) | (go_at_call 120;refine (fO _ _ _ _ _).mono ?_;rintro e w' ⟨rfl,hg⟩;replace h:=h.grown hg (.inl rfl)))
 rename_i hend
 go_wp2_with fail
 exact jk results78 rfl rfl hend.2.2.1 hend.2.2.2.1 hend.2.2.2.2.2.2 h (by first | omega | (simp <;> omega)) (by first | omega | (simp <;> omega)) (rfl) bd
set_option maxHeartbeats 1000000 in
theorem Mj  (hx:aF w v z k) (hk:k<=1000000) :
  Calls prog 124 #[v] w (eH w (-z) k):=by
 obtain ⟨b,s,X,rfl,hx,rfl⟩:=hx
 obtain ⟨p,n,cap,rfl⟩:=hx.slice
 have Hx:=hid hx
 clear hx
 have S0:Kept w [(w.heap.size,0,.bool b),(w.heap.size,1,.slice p n cap)] [w.heap.size+1] ((w.alloc (.cells #[.bool b,.slice p n cap] 27)).alloc (.cells #[.bool false,.slice none 0 0] 27)):=((Kept.start w).box _ _ _ _ rfl).res _ _ _ _ _ (by simp)
 go_enter func124,ntmps124
 go_wp2_with fail
 go_region_held3 (fun w'=>w'.cell? ⟨w.heap.size,0,none⟩=some (.bool b)∧w'.cell? ⟨w.heap.size,1,none⟩=some (.slice p n cap)∧w'.cell? ⟨w.heap.size+1,0,none⟩=some (cellOf w' ⟨w.heap.size+1,0,none⟩)∧w'.cell? ⟨w.heap.size+1,1,none⟩=some (cellOf w' ⟨w.heap.size+1,1,none⟩)∧w'.frozen? ⟨w.heap.size+1,0,none⟩=false∧w'.frozen? ⟨w.heap.size+1,1,none⟩=false∧w.grownBy w' none) (first | exact Kept.step (W:=w) [(w.heap.size,0,.bool b),(w.heap.size,1,.slice p n cap)] [w.heap.size+1] (by assumption) (by assumption) | exact Kept.set (W:=w) [(w.heap.size,0,.bool b),(w.heap.size,1,.slice p n cap)] [w.heap.size+1] (by simp <;> omega) (by first | omega | (simp <;> omega)) (by assumption) | exact Kept.step [(w.heap.size,0,.bool b),(w.heap.size,1,.slice p n cap)] [w.heap.size+1] (dl _ _) S0)
  (first | (go_at_call 121;refine (qu (Hx.out.grown (by go_split_ands;assumption)) hk).mono ?_;rintro e w' ⟨v,rfl,h,bd,hg⟩;obtain ⟨pv,nv,rfl⟩:=h.slice) | (go_at_call 120;refine (fO _ _ _ _ _).mono ?_;rintro e w' ⟨rfl,hg⟩;replace h:=h.grown hg (.inl rfl)))
 rename_i hend
 go_wp2_with fail
 exact jk results124 rfl rfl hend.2.2.1 hend.2.2.2.1 hend.2.2.2.2.2.2 h (by first | omega | (simp <;> omega)) (by first | omega | (simp <;> omega)) (AF _ _) bd
def dG (z y:Int):Int:=if z<y then -1 else if z=y then 0 else 1
theorem Mk (X Y:Nat):dG (X:Int) (Y:Int)=cT X Y:=by
 unfold dG cT
 split <;> split <;> (try split) <;> (try split) <;> omega
theorem Ml (X Y:Nat):dG (-(X:Int)) (-(Y:Int))=cT Y X:=by
 unfold dG cT
 split <;> split <;> (try split) <;> (try split) <;> omega
theorem AH  (h:¬sg b X<0):sg b X=X:=by
 cases b
 ·rfl
 ·simp [sg] at h ⊢;omega
theorem AI  (h:sg b X<0):sg b X = -(X:Int):=by
 cases b
 ·simp [sg] at h
  omega
 ·rfl
set_option maxHeartbeats 1000000 in
theorem hO {k:Nat} (r:Bool) (hx:aF w v z k) (hr:decide (z<0)=r) (hk:k<=1000000:=by omega) :
  Calls prog 161 #[v] w fun e w'=>e = .returned (.bool r)∧w.grownBy w' none:=by
 subst hr
 obtain ⟨b,s,X,rfl,hx,rfl⟩:=hx
 obtain ⟨p,n,cap,rfl⟩:=hx.slice
 rw [mp]
 have Hx:=hid hx
 clear hx
 cases b
 ·go_enter func161,ntmps161
  go_wp2_with fail
  go_ret
  exact ⟨rfl,bg _ _ _⟩
 ·have Hd:=hid (kS 2 X)
  go_enter func161,ntmps161
  go_wp2_with fail
  refine (Mm (Hx.out.grown (bg _ _ _)) hk).mono ?_
  rintro e w' ⟨rfl,rfl⟩
  generalize (am 2 X).length=l at *
  go_wp2_with fail
  go_ret
  refine ⟨?_,bg _ _ _⟩
  have:=Hd.out
  simp_all
set_option maxHeartbeats 2000000 in
theorem Mn {i:Nat} (r:Int) (hx:aF w v z i) (hy:aF w u y j) (hi:i+j<=1000000) (hr:dG z y=r) :
  Calls prog 138 #[v,u] w fun e w'=>e = .returned (.int .i64 r)∧w.grownBy w' none:=by
 have Vx:=hid hx
 have Vy:=hid hy
 have Hr:=hid hr
 obtain ⟨b,s,X,rfl,hx,rfl⟩:=hx
 obtain ⟨p,n,cap,rfl⟩:=hx.slice
 obtain ⟨b',s',Y,rfl,hy,rfl⟩:=hy
 obtain ⟨q,m,cap',rfl⟩:=hy.slice
 have Hx:=hid hx
 have Hy:=hid hy
 have S0:Kept w [(w.heap.size+1,0,.bool b'),(w.heap.size+1,1,.slice q m cap'),(w.heap.size,0,.bool b),(w.heap.size,1,.slice p n cap)] [] ((w.alloc (.cells #[.bool b,.slice p n cap] 27)).alloc (.cells #[.bool b',.slice q m cap'] 27)):=((Kept.start w).box _ _ _ _ rfl).box _ _ _ _ (by simp)
 clear hx hy hr
 by_cases hz:sg b X<0
 ·replace hz:=hid hz
  by_cases hw:sg b' Y<0
  ·replace hw:=hid hw
   go_enter func138,ntmps138
   go_wp2_with fail
   refine (hO true (Vx.out.grown (Kept.all _ _ S0)) (decide_eq_true hz.out)).mono ?_
   rintro e w' ⟨rfl,hg⟩
   replace S0:=Kept.grown _ _ S0 hg
   clear hg
   obtain ⟨c0,c1,c2,c3,G⟩:=id S0
   go_wp2_with fail
   clear c0 c1 c2 c3 G
   refine (hO true (Vy.out.grown (Kept.all _ _ S0)) (decide_eq_true hw.out)).mono ?_
   rintro e w' ⟨rfl,hg⟩
   replace S0:=Kept.grown _ _ S0 hg
   clear hg
   obtain ⟨c0,c1,c2,c3,G⟩:=id S0
   go_wp2_with fail
   clear c0 c1 c2 c3 G
   refine (tO r (Hy.out.grown (Kept.all _ _ S0)) (Hx.out.grown (Kept.all _ _ S0)) ?_).mono ?_
   ·rw [<- Hr.out];exact (by rw [AI hz.out,AI hw.out,Ml])
   rintro e w' ⟨rfl,hg⟩
   replace S0:=Kept.grown _ _ S0 hg
   go_wp2_with fail
   go_ret
   exact ⟨rfl,Kept.all _ _ S0⟩
  ·replace hw:=hid hw
   obtain rfl:r = -1:=by
    have h1:=hz.out
    have h2:=hw.out
    rw [<- Hr.out,dG,if_pos (by omega)]
   go_enter func138,ntmps138
   go_wp2_with fail
   refine (hO true (Vx.out.grown (Kept.all _ _ S0)) (decide_eq_true hz.out)).mono ?_
   rintro e w' ⟨rfl,hg⟩
   replace S0:=Kept.grown _ _ S0 hg
   clear hg
   obtain ⟨c0,c1,c2,c3,G⟩:=id S0
   go_wp2_with fail
   clear c0 c1 c2 c3 G
   refine (hO false (Vy.out.grown (Kept.all _ _ S0)) (decide_eq_false (Int.not_lt.2 hw.out))).mono ?_
   rintro e w' ⟨rfl,hg⟩
   replace S0:=Kept.grown _ _ S0 hg
   clear hg
   obtain ⟨c0,c1,c2,c3,G⟩:=id S0
   go_wp2_with fail
   clear c0 c1 c2 c3 G
   refine (hO true (Vx.out.grown (Kept.all _ _ S0)) (decide_eq_true hz.out)).mono ?_
   rintro e w' ⟨rfl,hg⟩
   replace S0:=Kept.grown _ _ S0 hg
   clear hg
   obtain ⟨c0,c1,c2,c3,G⟩:=id S0
   go_wp2_with fail
   clear c0 c1 c2 c3 G
   go_ret
   exact ⟨rfl,Kept.all _ _ S0⟩
 ·replace hz:=hid hz
  by_cases hw:sg b' Y<0
  ·replace hw:=hid hw
   obtain rfl:r=1:=by
    have h1:=hz.out
    have h2:=hw.out
    rw [<- Hr.out,dG,if_neg (by omega),if_neg (by omega)]
   go_enter func138,ntmps138
   go_wp2_with fail
   refine (hO false (Vx.out.grown (Kept.all _ _ S0)) (decide_eq_false (Int.not_lt.2 hz.out))).mono ?_
   rintro e w' ⟨rfl,hg⟩
   replace S0:=Kept.grown _ _ S0 hg
   clear hg
   obtain ⟨c0,c1,c2,c3,G⟩:=id S0
   go_wp2_with fail
   clear c0 c1 c2 c3 G
   refine (hO false (Vx.out.grown (Kept.all _ _ S0)) (decide_eq_false (Int.not_lt.2 hz.out))).mono ?_
   rintro e w' ⟨rfl,hg⟩
   replace S0:=Kept.grown _ _ S0 hg
   clear hg
   obtain ⟨c0,c1,c2,c3,G⟩:=id S0
   go_wp2_with fail
   clear c0 c1 c2 c3 G
   refine (hO true (Vy.out.grown (Kept.all _ _ S0)) (decide_eq_true hw.out)).mono ?_
   rintro e w' ⟨rfl,hg⟩
   replace S0:=Kept.grown _ _ S0 hg
   clear hg
   obtain ⟨c0,c1,c2,c3,G⟩:=id S0
   go_wp2_with fail
   clear c0 c1 c2 c3 G
   go_ret
   exact ⟨rfl,Kept.all _ _ S0⟩
  ·replace hw:=hid hw
   go_enter func138,ntmps138
   go_wp2_with fail
   refine (hO false (Vx.out.grown (Kept.all _ _ S0)) (decide_eq_false (Int.not_lt.2 hz.out))).mono ?_
   rintro e w' ⟨rfl,hg⟩
   replace S0:=Kept.grown _ _ S0 hg
   clear hg
   obtain ⟨c0,c1,c2,c3,G⟩:=id S0
   go_wp2_with fail
   clear c0 c1 c2 c3 G
   refine (hO false (Vx.out.grown (Kept.all _ _ S0)) (decide_eq_false (Int.not_lt.2 hz.out))).mono ?_
   rintro e w' ⟨rfl,hg⟩
   replace S0:=Kept.grown _ _ S0 hg
   clear hg
   obtain ⟨c0,c1,c2,c3,G⟩:=id S0
   go_wp2_with fail
   clear c0 c1 c2 c3 G
   refine (hO false (Vy.out.grown (Kept.all _ _ S0)) (decide_eq_false (Int.not_lt.2 hw.out))).mono ?_
   rintro e w' ⟨rfl,hg⟩
   replace S0:=Kept.grown _ _ S0 hg
   clear hg
   obtain ⟨c0,c1,c2,c3,G⟩:=id S0
   go_wp2_with fail
   clear c0 c1 c2 c3 G
   refine (tO r (Hx.out.grown (Kept.all _ _ S0)) (Hy.out.grown (Kept.all _ _ S0)) ?_).mono ?_
   ·rw [<- Hr.out];exact (by rw [AH (Int.not_lt.2 hz.out),AH (Int.not_lt.2 hw.out),Mk])
   rintro e w' ⟨rfl,hg⟩
   replace S0:=Kept.grown _ _ S0 hg
   go_wp2_with fail
   go_ret
   exact ⟨rfl,Kept.all _ _ S0⟩
theorem qA {a:Act}{y:Value} (hres:fn.results = #[ResultVar.cell r 27]) (hd:a.defers = []) (hr:a.tmps[r]?=some (.pointer (some ⟨g,0,none⟩)))
  (h0:(set2 w g u v).cell? ⟨g,0,none⟩=some x) (h1:(set2 w g u v).cell? ⟨g,1,none⟩=some y) (hG:W.grownBy (set2 w g u v) none)
  (ho:fl w B (.agg #[u,v]) z) (hB:W.heap.size<=B) (hg:g<B) (hb:Bd z.natAbs k):bodyPost prog fn (eH W z k) .ret a (set2 w g u v):=by
 refine tR hres hd hr (nM h0) (nO h1) ⟨_,rfl,?_,hb,hG⟩
 obtain ⟨p,cap,h2,h3⟩:=ho
 refine ⟨p,cap,h2,?_⟩
 simp only [Value.agg.injEq,Array.mk.injEq,List.cons.injEq,and_true] at h2
 obtain ⟨-,rfl⟩:=h2
 exact ((h3.mono hB).grown (gA _ _ _ _) (own_ne h3 hg))
set_option maxHeartbeats 1000000 in
theorem AJ  (hx:Num w v X i) (hy:Num w u Y j) (hi:i+j<=1000000:=by omega) :
  Calls prog 165 #[v,u] w (eH w ((X:Int)-Y) (i+j)):=by
 have Hx:=hid hx
 have Hy:=hid hy
 have Bx:=hid (show Bd X (i+j) from hx.bd.more (by omega))
 have By:=hid (show Bd Y (i+j) from hy.bd.more (by omega))
 have S0:Kept w [] [w.heap.size] (w.alloc (.cells #[.bool false,.slice none 0 0] 27)):=(Kept.start w).res _ _ _ _ _ rfl
 clear hx hy
 by_cases hle:Y<=X
 ·replace hle:=hid hle
  go_enter func165,ntmps165
  go_wp2_with fail
  have S1:=S0
  refine (tU (Hx.out.grown (Kept.all _ _ S0)) (Hy.out.grown (Kept.all _ _ S0)) hle.out).mono ?_
  rintro e w' ⟨v,rfl,h,-,hg⟩
  obtain ⟨pv,nv,rfl⟩:=h.slice
  replace S0:=Kept.grown _ _ S0 hg
  clear hg
  go_wp2_with fail
  refine (fO _ _ _ _ _).mono ?_
  rintro e w' ⟨rfl,hg⟩
  replace S0:=Kept.grown _ _ S0 hg
  replace h:=h.grown hg (.inl rfl)
  clear hg
  obtain ⟨r0,r1,r2,r3,G⟩:=id S0
  go_wp2_with fail
  exact jk (b:=false) results165 rfl rfl (dW r0) (dY r1) (Kept.all _ _ (Kept.set _ _ (by simp <;> omega) (by first | omega | (simp <;> omega)) S0)) h S1.size (S1.lt (by simp)) (by have:=hle.out;simp [sg];omega) (Bx.out.le (Nat.sub_le _ _))
 ·replace hle:=hid (Nat.lt_of_not_le hle)
  go_enter func165,ntmps165
  go_wp2_with fail
  refine (Mo (Hx.out.grown (Kept.all _ _ S0)) (Hy.out.grown (Kept.all _ _ S0)) hle.out).mono ?_
  rintro e w' ⟨rfl,hg⟩
  replace S0:=Kept.grown _ _ S0 hg
  clear hg
  go_wp2_with fail
  have S1:=S0
  refine (tU (Hy.out.grown (Kept.all _ _ S0)) (Hx.out.grown (Kept.all _ _ S0)) (Nat.le_of_lt hle.out)).mono ?_
  rintro e w' ⟨v,rfl,h,-,hg⟩
  obtain ⟨pv,nv,rfl⟩:=h.slice
  replace S0:=Kept.grown _ _ S0 hg
  clear hg
  go_wp2_with fail
  refine (fO _ _ _ _ _).mono ?_
  rintro e w' ⟨rfl,hg⟩
  replace S0:=Kept.grown _ _ S0 hg
  replace h:=h.grown hg (.inl rfl)
  clear hg
  obtain ⟨r0,r1,r2,r3,G⟩:=id S0
  go_wp2_with fail
  exact jk (b:=true) results165 rfl rfl (dW r0) (dY r1) (Kept.all _ _ (Kept.set _ _ (by simp <;> omega) (by first | omega | (simp <;> omega)) S0)) h S1.size (S1.lt (by simp)) (by have:=hle.out;simp [sg];omega) (By.out.le (Nat.sub_le _ _))
theorem AK (b c:Bool) (X Y:Nat):sg (b != c) (X*Y)=sg b X*sg c Y:=by cases b <;> cases c <;> simp [sg,Int.neg_mul,Int.mul_neg]
set_option maxHeartbeats 2000000 in
theorem Mp  (hx:aF w v z i) (hy:aF w u y j) (hi:i+j<=1000000) :
  Calls prog 135 #[v,u] w (eH w (z*y) (i+j)):=by
 obtain ⟨b,s,X,rfl,hx,rfl⟩:=hx
 obtain ⟨p,n,cap,rfl⟩:=hx.slice
 obtain ⟨b',s',Y,rfl,hy,rfl⟩:=hy
 obtain ⟨q,m,cap',rfl⟩:=hy.slice
 have Hx:=hid hx
 have Hy:=hid hy
 have S0:Kept w [(w.heap.size+1,0,.bool b'),(w.heap.size+1,1,.slice q m cap'),(w.heap.size,0,.bool b),(w.heap.size,1,.slice p n cap)] [w.heap.size+1+1] (((w.alloc (.cells #[.bool b,.slice p n cap] 27)).alloc (.cells #[.bool b',.slice q m cap'] 27)).alloc (.cells #[.bool false,.slice none 0 0] 27)):=(((Kept.start w).box _ _ _ _ rfl).box _ _ _ _ (by simp)).res _ _ _ _ _ (by simp)
 clear hx hy
 go_enter func135,ntmps135
 go_wp2_with fail
 go_region_held3 (fun w'=>w'.cell? ⟨w.heap.size+1,0,none⟩=some (.bool b')∧w'.cell? ⟨w.heap.size+1,1,none⟩=some (.slice q m cap')∧w'.cell? ⟨w.heap.size,0,none⟩=some (.bool b)∧w'.cell? ⟨w.heap.size,1,none⟩=some (.slice p n cap)∧w'.cell? ⟨w.heap.size+1+1,0,none⟩=some (cellOf w' ⟨w.heap.size+1+1,0,none⟩)∧w'.cell? ⟨w.heap.size+1+1,1,none⟩=some (cellOf w' ⟨w.heap.size+1+1,1,none⟩)∧w'.frozen? ⟨w.heap.size+1+1,0,none⟩=false∧w'.frozen? ⟨w.heap.size+1+1,1,none⟩=false∧w.grownBy w' none) (first | exact Kept.step (W:=w) [(w.heap.size+1,0,.bool b'),(w.heap.size+1,1,.slice q m cap'),(w.heap.size,0,.bool b),(w.heap.size,1,.slice p n cap)] [w.heap.size+1+1] (by assumption) (by assumption) | exact Kept.set (W:=w) [(w.heap.size+1,0,.bool b'),(w.heap.size+1,1,.slice q m cap'),(w.heap.size,0,.bool b),(w.heap.size,1,.slice p n cap)] [w.heap.size+1+1] (by simp <;> omega) (by first | omega | (simp <;> omega)) (by assumption) | exact Kept.step [(w.heap.size+1,0,.bool b'),(w.heap.size+1,1,.slice q m cap'),(w.heap.size,0,.bool b),(w.heap.size,1,.slice p n cap)] [w.heap.size+1+1] (dl _ _) S0)
  (first | (go_at_call 160;refine (Mq (Hx.out.grown (by go_split_ands;assumption)) (Hy.out.grown (by go_split_ands;assumption))).mono ?_;rintro e w' ⟨v,rfl,h,bd,hg⟩;obtain ⟨pv,nv,rfl⟩:=h.slice) | (go_at_call 120;refine (fO _ _ _ _ _).mono ?_;rintro e w' ⟨rfl,hg⟩;replace h:=h.grown hg (.inl rfl)))
 rename_i hend
 go_wp2_with fail
 exact jk results135 rfl rfl hend.2.2.2.2.1 hend.2.2.2.2.2.1 hend.2.2.2.2.2.2.2.2 h (by first | omega | (simp <;> omega)) (by first | omega | (simp <;> omega)) (AK _ _ _ _) bd
theorem AL (b:Bool) (X Y:Nat):sg b (X+Y)=sg b X+sg b Y:=by cases b <;> simp [sg] <;> omega
set_option maxHeartbeats 2000000 in
theorem AM  (hx:Num w s X i) (hy:Num w s' Y j) (hi:i+j<=1000000) :
  Calls prog 144 #[.agg #[.bool b,s],.agg #[.bool b,s']] w (eH w (sg b X+sg b Y) (i+j+1)):=by
 obtain ⟨p,n,cap,rfl⟩:=hx.slice
 obtain ⟨q,m,cap',rfl⟩:=hy.slice
 have Hx:=hid hx
 have Hy:=hid hy
 have S0:Kept w [(w.heap.size+1,0,.bool b),(w.heap.size+1,1,.slice q m cap'),(w.heap.size,0,.bool b),(w.heap.size,1,.slice p n cap)] [w.heap.size+1+1] (((w.alloc (.cells #[.bool b,.slice p n cap] 27)).alloc (.cells #[.bool b,.slice q m cap'] 27)).alloc (.cells #[.bool false,.slice none 0 0] 27)):=(((Kept.start w).box _ _ _ _ rfl).box _ _ _ _ (by simp)).res _ _ _ _ _ (by simp)
 clear hx hy
 go_enter func144,ntmps144
 obtain ⟨c0,c1,c2,c3,r0,r1,r2,r3,G⟩:=id S0
 go_wp2_with fail
 go_region_held3 (fun w'=>w'.cell? ⟨w.heap.size+1,0,none⟩=some (.bool b)∧w'.cell? ⟨w.heap.size+1,1,none⟩=some (.slice q m cap')∧w'.cell? ⟨w.heap.size,0,none⟩=some (.bool b)∧w'.cell? ⟨w.heap.size,1,none⟩=some (.slice p n cap)∧w'.cell? ⟨w.heap.size+1+1,0,none⟩=some (cellOf w' ⟨w.heap.size+1+1,0,none⟩)∧w'.cell? ⟨w.heap.size+1+1,1,none⟩=some (cellOf w' ⟨w.heap.size+1+1,1,none⟩)∧w'.frozen? ⟨w.heap.size+1+1,0,none⟩=false∧w'.frozen? ⟨w.heap.size+1+1,1,none⟩=false∧w.grownBy w' none) (first | exact Kept.step (W:=w) [(w.heap.size+1,0,.bool b),(w.heap.size+1,1,.slice q m cap'),(w.heap.size,0,.bool b),(w.heap.size,1,.slice p n cap)] [w.heap.size+1+1] (by assumption) (by assumption) | exact Kept.set (W:=w) [(w.heap.size+1,0,.bool b),(w.heap.size+1,1,.slice q m cap'),(w.heap.size,0,.bool b),(w.heap.size,1,.slice p n cap)] [w.heap.size+1+1] (by simp <;> omega) (by first | omega | (simp <;> omega)) (by assumption) | exact Kept.step [(w.heap.size+1,0,.bool b),(w.heap.size+1,1,.slice q m cap'),(w.heap.size,0,.bool b),(w.heap.size,1,.slice p n cap)] [w.heap.size+1+1] (dl _ _) S0)
  (first | (go_at_call 164;refine (AN (Hx.out.grown (by go_split_ands;assumption)) (Hy.out.grown (by go_split_ands;assumption))).mono ?_;rintro e w' ⟨v,rfl,h,bd,hg⟩;obtain ⟨pv,nv,rfl⟩:=h.slice) | (go_at_call 120;refine (fO _ _ _ _ _).mono ?_;rintro e w' ⟨rfl,hg⟩;replace h:=h.grown hg (.inl rfl)))
 rename_i hend
 go_wp2_with fail
 exact jk results144 rfl rfl hend.2.2.2.2.1 hend.2.2.2.2.2.1 hend.2.2.2.2.2.2.2.2 h (by first | omega | (simp <;> omega)) (by first | omega | (simp <;> omega)) (AL _ _ _) bd
set_option maxHeartbeats 2000000 in
theorem Mr  (hx:Num w s X i) (hy:Num w s' Y j) (hi:i+j<=1000000) :
  Calls prog 144 #[.agg #[.bool true,s],.agg #[.bool false,s']] w (eH w ((Y:Int)-X) (j+i)):=by
 obtain ⟨p,n,cap,rfl⟩:=hx.slice
 obtain ⟨q,m,cap',rfl⟩:=hy.slice
 have Hx:=hid hx
 have Hy:=hid hy
 have S0:Kept w [(w.heap.size+1,0,.bool false),(w.heap.size+1,1,.slice q m cap'),(w.heap.size,0,.bool true),(w.heap.size,1,.slice p n cap)] [w.heap.size+1+1] (((w.alloc (.cells #[.bool true,.slice p n cap] 27)).alloc (.cells #[.bool false,.slice q m cap'] 27)).alloc (.cells #[.bool false,.slice none 0 0] 27)):=(((Kept.start w).box _ _ _ _ rfl).box _ _ _ _ (by simp)).res _ _ _ _ _ (by simp)
 clear hx hy
 go_enter func144,ntmps144
 go_wp2_with fail
 refine (AJ (Hy.out.grown (Kept.all _ _ S0)) (Hx.out.grown (Kept.all _ _ S0))).mono ?_
 rintro e w' ⟨v,rfl,ho,bd,hg⟩
 obtain ⟨pv,nv,rfl,ho2⟩:=id ho
 clear ho2
 have S1:=S0
 replace S0:=Kept.grown _ _ S0 hg
 clear hg
 obtain ⟨c0,c1,c2,c3,r0,r1,r2,r3,G⟩:=id S0
 go_wp2_with fail
 exact qA results144 rfl rfl (dW r0) (dY r1) (Kept.all _ _ (Kept.set _ _ (by simp <;> omega) (by first | omega | (simp <;> omega)) S0)) ho S1.size (S1.lt (by simp)) bd
set_option maxHeartbeats 2000000 in
theorem Ms  (hx:Num w s X i) (hy:Num w s' Y j) (hi:i+j<=1000000) :
  Calls prog 144 #[.agg #[.bool false,s],.agg #[.bool true,s']] w (eH w ((X:Int)-Y) (i+j)):=by
 obtain ⟨p,n,cap,rfl⟩:=hx.slice
 obtain ⟨q,m,cap',rfl⟩:=hy.slice
 have Hx:=hid hx
 have Hy:=hid hy
 have S0:Kept w [(w.heap.size+1,0,.bool true),(w.heap.size+1,1,.slice q m cap'),(w.heap.size,0,.bool false),(w.heap.size,1,.slice p n cap)] [w.heap.size+1+1] (((w.alloc (.cells #[.bool false,.slice p n cap] 27)).alloc (.cells #[.bool true,.slice q m cap'] 27)).alloc (.cells #[.bool false,.slice none 0 0] 27)):=(((Kept.start w).box _ _ _ _ rfl).box _ _ _ _ (by simp)).res _ _ _ _ _ (by simp)
 clear hx hy
 go_enter func144,ntmps144
 go_wp2_with fail
 refine (AJ (Hx.out.grown (Kept.all _ _ S0)) (Hy.out.grown (Kept.all _ _ S0))).mono ?_
 rintro e w' ⟨v,rfl,ho,bd,hg⟩
 obtain ⟨pv,nv,rfl,ho2⟩:=id ho
 clear ho2
 have S1:=S0
 replace S0:=Kept.grown _ _ S0 hg
 clear hg
 obtain ⟨c0,c1,c2,c3,r0,r1,r2,r3,G⟩:=id S0
 go_wp2_with fail
 exact qA results144 rfl rfl (dW r0) (dY r1) (Kept.all _ _ (Kept.set _ _ (by simp <;> omega) (by first | omega | (simp <;> omega)) S0)) ho S1.size (S1.lt (by simp)) bd
theorem eH.of {l:Nat} (h:eH w z k e w') (hz:z=y) (hk:k<=l):eH w y l e w':=by
 subst hz
 obtain ⟨v,h1,h2,h3,h4⟩:=h
 exact ⟨v,h1,h2,h3.more hk,h4⟩
theorem AO  (hx:aF w v z i) (hy:aF w u y j) (hi:i+j<=1000000) :
  Calls prog 144 #[v,u] w (eH w (z+y) (i+j+1)):=by
 obtain ⟨b,s,X,rfl,hx,rfl⟩:=hx
 obtain ⟨b',s',Y,rfl,hy,rfl⟩:=hy
 cases b <;> cases b'
 ·exact (AM hx hy hi).mono fun _ _ h=>h
 ·exact (Ms hx hy hi).mono fun _ _ h=>h.of (by simp [sg];omega) (by omega)
 ·exact (Mr hx hy hi).mono fun _ _ h=>h.of (by simp [sg];omega) (by omega)
 ·exact (AM hx hy hi).mono fun _ _ h=>h
set_option maxHeartbeats 1000000 in
theorem Mt  (hx:aF w v z i) (hy:aF w u y j) (hi:i+j<=1000000) :
  Calls prog 102 #[v,u] w (eH w (z-y) (i+j+1)):=by
 obtain ⟨b,s,X,rfl,hx,rfl⟩:=hx
 obtain ⟨p,n,cap,rfl⟩:=hx.slice
 obtain ⟨b',s',Y,rfl,hy,rfl⟩:=hy
 obtain ⟨q,m,cap',rfl⟩:=hy.slice
 have Hx:=hid hx
 have Hy:=hid hy
 have S0:Kept w [(w.heap.size+1,0,.bool b'),(w.heap.size+1,1,.slice q m cap'),(w.heap.size,0,.bool b),(w.heap.size,1,.slice p n cap)] [w.heap.size+1+1] (((w.alloc (.cells #[.bool b,.slice p n cap] 27)).alloc (.cells #[.bool b',.slice q m cap'] 27)).alloc (.cells #[.bool false,.slice none 0 0] 27)):=(((Kept.start w).box _ _ _ _ rfl).box _ _ _ _ (by simp)).res _ _ _ _ _ (by simp)
 have Vx:=hid (show aF w (.agg #[.bool b,.slice p n cap]) (sg b X) i from ⟨_,_,_,rfl,hx,rfl⟩)
 have Vy:=hid (show aF w (.agg #[.bool (!b'),.slice q m cap']) (- sg b' Y) j from ⟨_,_,_,rfl,hy,(AF _ _).symm⟩)
 clear hx hy Hx Hy
 rw [Int.sub_eq_add_neg]
 go_enter func102,ntmps102
 go_wp2_with fail
 refine (AO (Vx.out.grown (Kept.all _ _ S0)) (Vy.out.grown (Kept.all _ _ S0)) hi).mono ?_
 rintro e w' ⟨v,rfl,ho,bd,hg⟩
 obtain ⟨pv,nv,rfl,ho2⟩:=id ho
 clear ho2
 have S1:=S0
 replace S0:=Kept.grown _ _ S0 hg
 clear hg
 obtain ⟨c0,c1,c2,c3,r0,r1,r2,r3,G⟩:=id S0
 go_wp2_with fail
 exact qA results102 rfl rfl (dW r0) (dY r1) (Kept.all _ _ (Kept.set _ _ (by simp <;> omega) (by first | omega | (simp <;> omega)) S0)) ho S1.size (S1.lt (by simp)) bd
theorem wY  :
  Calls prog 79 #[.agg #[.bool b,.slice p n cap]] w fun e w'=>e = .returned (.bool (decide (n=0)))∧w.grownBy w' none:=by
 go_enter func79,ntmps79
 go_wp2_with fail
 go_ret
 refine ⟨?_,bg _ _ _⟩
 have e:((n:Int) == 0)=decide (n=0):=by
  rw [Bool.eq_iff_iff]
  simp
 rw [e]
 rfl
theorem AP {r:Int} (hy:y≠0) (he:z=y*q+r) (h1:r<y.natAbs) (h0:0<=r:=by omega):z / y=q∧z % y=r:=by
 rcases Int.lt_or_gt_of_ne hy with h | h
 ·have:=(Int.ediv_emod_unique (a:=z) (b:=-y) (r:=r) (q:=-q) (by omega)).2 ⟨by rw [he,Int.neg_mul_neg];omega,h0,by omega⟩
  rw [Int.ediv_neg,Int.emod_neg] at this
  omega
 ·exact (Int.ediv_emod_unique (by omega)).2 ⟨by rw [he];omega,h0,by omega⟩
theorem tV  (hY:Y≠0) (h:b=false∨X % Y=0):sg b X / sg b' Y=sg (b != b') (X / Y)∧sg b X % sg b' Y=((X % Y:Nat):Int):=by
 have e:=Nat.div_add_mod X Y
 have l:=Nat.mod_lt X (Nat.pos_of_ne_zero hY)
 refine AP (by cases b' <;> simp [sg] <;> omega) ?_ (by rw [ee];omega)
 have e2:(X:Int)=(Y:Int)*((X / Y:Nat):Int)+((X % Y:Nat):Int):=by rw [<- Int.natCast_mul];omega
 rcases h with rfl | h
 ·generalize ((X % Y:Nat):Int)=r at *
  generalize X / Y=q at *
  cases b' <;> simp only [sg] <;> grind
 ·have h':((X % Y:Nat):Int)=0:=by omega
  rw [h'] at e2 ⊢
  generalize X / Y=q at *
  cases b <;> cases b' <;> simp only [sg] <;> grind
theorem Mu  (hY:Y≠0) (h:X % Y≠0):sg true X / sg b' Y=sg (true != b') (X / Y+1)∧sg true X % sg b' Y=((Y-X % Y:Nat):Int):=by
 have e:=Nat.div_add_mod X Y
 have l:=Nat.mod_lt X (Nat.pos_of_ne_zero hY)
 refine AP (by cases b' <;> simp [sg] <;> omega) ?_ (by rw [ee];omega)
 have e2:(X:Int)=(Y:Int)*((X / Y:Nat):Int)+((X % Y:Nat):Int):=by rw [<- Int.natCast_mul];omega
 have e3:((Y-X % Y:Nat):Int)=(Y:Int)-((X % Y:Nat):Int):=by omega
 have e4:((X / Y+1:Nat):Int)=((X / Y:Nat):Int)+1:=by omega
 rw [e3]
 generalize ((X % Y:Nat):Int)=r at *
 generalize X / Y=q at *
 cases b' <;> simp only [sg] <;> simp only [e4] <;> grind
def jN (w:World) (q r:Int) (i j:Nat) (e:Ending) (w':World):Prop:=
 ∃v u,e = .returned (.tuple #[v,u,.int .i64 0])∧fl w' w.heap.size v q∧fl w' w.heap.size u r∧Bd q.natAbs i∧Bd r.natAbs j∧w.grownBy w' none
theorem tW {a:Act}{r' s:Nat}{y x' y':Value} (hres:fn.results = #[ResultVar.cell r 27,ResultVar.cell r' 27,ResultVar.tmp s]) (hd:a.defers = [])
  (hr:a.tmps[r]?=some (.pointer (some ⟨g,0,none⟩))) (hr':a.tmps[r']?=some (.pointer (some ⟨g',0,none⟩))) (hs:a.tmps[s]?=some v)
  (c0:w.cell? ⟨g,0,none⟩=some x) (c1:w.cell? ⟨g,1,none⟩=some y) (d0:w.cell? ⟨g',0,none⟩=some x') (d1:w.cell? ⟨g',1,none⟩=some y') (h:R (.returned (.tuple #[.agg #[x,y],.agg #[x',y'],v])) w):bodyPost prog fn R .ret a w:=by
 simp [bodyPost,results,hres,hr,hr',hs,c0,c1,d0,d1,go_sem,h,hd]
theorem Mv {a:Act}{s:Nat}{y:Value} (hres:fn.results = #[ResultVar.cell r 27,ResultVar.tmp s]) (hd:a.defers = [])
  (hr:a.tmps[r]?=some (.pointer (some ⟨g,0,none⟩))) (hs:a.tmps[s]?=some v)
  (c0:w.cell? ⟨g,0,none⟩=some x) (c1:w.cell? ⟨g,1,none⟩=some y) (h:R (.returned (.tuple #[.agg #[x,y],v])) w):bodyPost prog fn R .ret a w:=by
 simp [bodyPost,results,hres,hr,hs,c0,c1,go_sem,h,hd]
theorem tY {B' cap' n':Nat}{p':Option Addr} (hn:(am 4294967296 X).length=n) (hn':(am 4294967296 Y).length=n')
  (hx:Own w 119 .u32 B (.slice p n cap) (am 4294967296 X)) (hy:Own w 119 .u32 B' (.slice p' n' cap') (am 4294967296 Y))
  (hB:W.heap.size<=B) (hB':W.heap.size<=B') (h1:g<B) (h2:g'<B) (h3:g<B') (h4:g'<B'){r:Int} (hq:q=sg b X) (hr:r=sg b' Y) (bx:Bd X i) (yb:Bd Y j)
  (hG:W.grownBy (set2 (set2 w g (.bool (b && decide (0<n))) (.slice p n cap)) g' (.bool (b' && decide (0<n'))) (.slice p' n' cap')) none) :
  jN W q r i j (.returned (.tuple #[.agg #[.bool (b && decide (0<n)),.slice p n cap],.agg #[.bool (b' && decide (0<n')),.slice p' n' cap'],.int .i64 0]))
   (set2 (set2 w g (.bool (b && decide (0<n))) (.slice p n cap)) g' (.bool (b' && decide (0<n'))) (.slice p' n' cap')):=by
 subst hq hr hn hn'
 refine ⟨_,_,rfl,⟨p,cap,?_,?_⟩,⟨p',cap',?_,?_⟩,by rw [ee];exact bx,by rw [ee];exact yb,hG⟩
 ·rw [mp,ee,kS _ _]
 ·rw [ee]
  exact (((hx.mono hB).grown (gA _ _ _ _) (own_ne hx h1)).grown (gA _ _ _ _) (own_ne hx h2))
 ·rw [mp,ee,kS _ _]
 ·rw [ee]
  exact (((hy.mono hB').grown (gA _ _ _ _) (own_ne hy h3)).grown (gA _ _ _ _) (own_ne hy h4))
set_option maxHeartbeats 2000000 in
theorem Mw  (hx:Num w s X i) (hy:Num w s' Y j) (hi:i+j<=900000) (hY:Y≠0) :
  Calls prog 159 #[.agg #[.bool false,s],.agg #[.bool b',s']] w (jN w (sg false X / sg b' Y) (sg false X % sg b' Y) (i+1) j):=by
 obtain ⟨p,n,cap,rfl⟩:=hx.slice
 obtain ⟨q,m,cap',rfl⟩:=hy.slice
 have Hx:=hid hx
 have Hy:=hid hy
 have D:=hid (show sg false X / sg b' Y=sg b' (X / Y)∧sg false X % sg b' Y=((X % Y:Nat):Int) by simpa using tV (b:=false) (b':=b') (X:=X) hY (.inl rfl))
 have S0:Kept w [(w.heap.size+1,0,.bool b'),(w.heap.size+1,1,.slice q m cap'),(w.heap.size,0,.bool false),(w.heap.size,1,.slice p n cap)] [w.heap.size+1+1+1,w.heap.size+1+1] ((((w.alloc (.cells #[.bool false,.slice p n cap] 27)).alloc (.cells #[.bool b',.slice q m cap'] 27)).alloc (.cells #[.bool false,.slice none 0 0] 27)).alloc (.cells #[.bool false,.slice none 0 0] 27)):=((((Kept.start w).box _ _ _ _ rfl).box _ _ _ _ (by simp)).res _ _ _ _ _ (by simp)).res _ _ _ _ _ (by simp)
 clear hx hy
 go_enter func159,ntmps159
 go_wp2_with fail
 have S1:=S0
 refine (qt (Hx.out.grown (Kept.all _ _ S0)) (Hy.out.grown (Kept.all _ _ S0)) hY).mono ?_
 rintro e w' ⟨v,u,rfl,hq,hr,-,bq,br,hg⟩
 obtain ⟨pv,nv,rfl⟩:=hq.slice
 obtain ⟨pu,nu,rfl⟩:=hr.slice
 have Sq:=S1.size
 have jO:=S1.lt (g:=w.heap.size+1+1) (by simp)
 have jP:=S1.lt (g:=w.heap.size+1+1+1) (by simp)
 replace S0:=Kept.grown _ _ S0 hg
 clear hg
 have Sr:=Sq
 have nP:=jO
 have Lr2:=jP
 obtain ⟨c0,c1,c2,c3,r0,r1,r2,r3,r4,r5,r6,r7,G⟩:=id S0
 go_wp2_with fail
 refine (fO _ _ _ _ _).mono ?_
 rintro e w' ⟨rfl,hg⟩
 replace S0:=Kept.grown _ _ S0 hg
 replace hq:=hq.grown hg (.inl rfl)
 replace hr:=hr.grown hg (.inl rfl)
 clear hg
 go_wp2_with fail
 refine (fO _ _ _ _ _).mono ?_
 rintro e w' ⟨rfl,hg⟩
 replace S0:=Kept.grown _ _ S0 hg
 replace hq:=hq.grown hg (.inl rfl)
 replace hr:=hr.grown hg (.inl rfl)
 clear hg
 obtain ⟨c0,c1,c2,c3,r0,r1,r2,r3,r4,r5,r6,r7,G⟩:=id S0
 go_wp2_with fail
 refine tW results159 rfl rfl rfl rfl (iu (dW r4)) (iu (dY r5)) (dW (jM (.inl rfl) r0)) (dY (jM (.inr rfl) r1)) ?_
 exact tY (b':=false) rfl rfl hq hr Sq Sr jO jP nP Lr2 D.out.1 D.out.2 (bq.more (by omega)) br (Kept.all _ _ (Kept.set _ _ (by simp <;> omega) (by first | omega | (simp <;> omega)) (Kept.set _ _ (by simp <;> omega) (by first | omega | (simp <;> omega)) S0)))
set_option maxHeartbeats 2000000 in
theorem Mx  (hx:Num w s X i) (hy:Num w s' Y j) (hi:i+j<=900000) (hY:Y≠0) (hR:X % Y=0) :
  Calls prog 159 #[.agg #[.bool true,s],.agg #[.bool b',s']] w (jN w (sg true X / sg b' Y) (sg true X % sg b' Y) (i+1) j):=by
 obtain ⟨p,n,cap,rfl⟩:=hx.slice
 obtain ⟨q,m,cap',rfl⟩:=hy.slice
 have Hx:=hid hx
 have Hy:=hid hy
 have D:=hid (show sg true X / sg b' Y=sg (!b') (X / Y)∧sg true X % sg b' Y=((X % Y:Nat):Int) by simpa using tV (b:=true) (b':=b') (X:=X) hY (.inr hR))
 have H0:=hid (show (am 4294967296 (X % Y)).length=0 from (fz).2 hR)
 have S0:Kept w [(w.heap.size+1,0,.bool b'),(w.heap.size+1,1,.slice q m cap'),(w.heap.size,0,.bool true),(w.heap.size,1,.slice p n cap)] [w.heap.size+1+1+1,w.heap.size+1+1] ((((w.alloc (.cells #[.bool true,.slice p n cap] 27)).alloc (.cells #[.bool b',.slice q m cap'] 27)).alloc (.cells #[.bool false,.slice none 0 0] 27)).alloc (.cells #[.bool false,.slice none 0 0] 27)):=((((Kept.start w).box _ _ _ _ rfl).box _ _ _ _ (by simp)).res _ _ _ _ _ (by simp)).res _ _ _ _ _ (by simp)
 clear hx hy
 go_enter func159,ntmps159
 go_wp2_with fail
 have S1:=S0
 refine (qt (Hx.out.grown (Kept.all _ _ S0)) (Hy.out.grown (Kept.all _ _ S0)) hY).mono ?_
 rintro e w' ⟨v,u,rfl,hq,hr,-,bq,br,hg⟩
 obtain ⟨pv,nv,rfl⟩:=hq.slice
 obtain ⟨pu,nu,rfl⟩:=hr.slice
 have Sq:=S1.size
 have jO:=S1.lt (g:=w.heap.size+1+1) (by simp)
 have jP:=S1.lt (g:=w.heap.size+1+1+1) (by simp)
 replace S0:=Kept.grown _ _ S0 hg
 clear hg
 have Sr:=Sq
 have nP:=jO
 have Lr2:=jP
 obtain ⟨c0,c1,c2,c3,r0,r1,r2,r3,r4,r5,r6,r7,G⟩:=id S0
 rw [H0.out] at hr ⊢
 go_wp2_with fail
 refine (fO _ _ _ _ _).mono ?_
 rintro e w' ⟨rfl,hg⟩
 replace S0:=Kept.grown _ _ S0 hg
 replace hq:=hq.grown hg (.inl rfl)
 replace hr:=hr.grown hg (.inl rfl)
 clear hg
 go_wp2_with fail
 refine (fO _ _ _ _ _).mono ?_
 rintro e w' ⟨rfl,hg⟩
 replace S0:=Kept.grown _ _ S0 hg
 replace hq:=hq.grown hg (.inl rfl)
 replace hr:=hr.grown hg (.inl rfl)
 clear hg
 obtain ⟨c0,c1,c2,c3,r0,r1,r2,r3,r4,r5,r6,r7,G⟩:=id S0
 go_wp2_with fail
 refine tW results159 rfl rfl rfl rfl (iu (dW r4)) (iu (dY r5)) (dW (jM (.inl rfl) r0)) (dY (jM (.inr rfl) r1)) ?_
 exact tY (b':=false) rfl H0.out hq hr Sq Sr jO jP nP Lr2 D.out.1 D.out.2 (bq.more (by omega)) br (Kept.all _ _ (Kept.set _ _ (by simp <;> omega) (by first | omega | (simp <;> omega)) (Kept.set _ _ (by simp <;> omega) (by first | omega | (simp <;> omega)) S0)))
set_option maxHeartbeats 2000000 in
theorem My  (hx:Num w s X i) (hy:Num w s' Y j) (hi:i+j<=900000) (hY:Y≠0) (hR:X % Y≠0) :
  Calls prog 159 #[.agg #[.bool true,s],.agg #[.bool b',s']] w (jN w (sg true X / sg b' Y) (sg true X % sg b' Y) (i+1+1) j):=by
 obtain ⟨p,n,cap,rfl⟩:=hx.slice
 obtain ⟨q,m,cap',rfl⟩:=hy.slice
 have Hx:=hid hx
 have Hy:=hid hy
 have D:=hid (show sg true X / sg b' Y=sg (!b') (X / Y+1)∧sg true X % sg b' Y=((Y-X % Y:Nat):Int) by simpa using Mu (b':=b') (X:=X) hY hR)
 have L0:0<(am 4294967296 (X % Y)).length:=by have:=(fz (b:=4294967296) (n:=X % Y)).1;omega
 have Le:=hid (Nat.le_of_lt (Nat.mod_lt X (Nat.pos_of_ne_zero hY)))
 have S0:Kept w [(w.heap.size+1,0,.bool b'),(w.heap.size+1,1,.slice q m cap'),(w.heap.size,0,.bool true),(w.heap.size,1,.slice p n cap)] [w.heap.size+1+1+1,w.heap.size+1+1] ((((w.alloc (.cells #[.bool true,.slice p n cap] 27)).alloc (.cells #[.bool b',.slice q m cap'] 27)).alloc (.cells #[.bool false,.slice none 0 0] 27)).alloc (.cells #[.bool false,.slice none 0 0] 27)):=((((Kept.start w).box _ _ _ _ rfl).box _ _ _ _ (by simp)).res _ _ _ _ _ (by simp)).res _ _ _ _ _ (by simp)
 clear hx hy
 go_enter func159,ntmps159
 go_wp2_with fail
 have S1:=S0
 refine (qt (Hx.out.grown (Kept.all _ _ S0)) (Hy.out.grown (Kept.all _ _ S0)) hY).mono ?_
 rintro e w' ⟨v,u,rfl,hq,hr,-,bq,br,hg⟩
 obtain ⟨pv,nv,rfl⟩:=hq.slice
 obtain ⟨pu,nu,rfl⟩:=hr.slice
 have Sq:=S1.size
 have jO:=S1.lt (g:=w.heap.size+1+1) (by simp)
 have jP:=S1.lt (g:=w.heap.size+1+1+1) (by simp)
 replace S0:=Kept.grown _ _ S0 hg
 clear hg
 obtain ⟨c0,c1,c2,c3,r0,r1,r2,r3,r4,r5,r6,r7,G⟩:=id S0
 have L0':(0:Int)<(((am 4294967296 (X % Y)).length:Nat):Int):=by omega
 go_wp2_with fail
 have S3:=S0
 have Nq:=(show gG _ _ _ _ from ⟨hq.sl,bq⟩).num
 refine (AN (Nq.grown (bg _ _ _)) (Num.one _)).mono ?_
 clear Nq
 rintro e w' ⟨v,rfl,h,Mz,hg⟩
 replace hg:=aR (bg _ _ _) hg
 obtain ⟨pv1,nv1,rfl⟩:=h.slice
 have Nr:=(show gG _ _ _ _ from ⟨hr.sl,br⟩).num.grown hg
 replace Sq:=Nat.le_trans S3.size (bg _ (.cells #[.int .u32 1] 119) none).size
 replace jO:=Nat.lt_of_lt_of_le (S3.lt (g:=w.heap.size+1+1) (by simp)) (bg _ (.cells #[.int .u32 1] 119) none).size
 replace jP:=Nat.lt_of_lt_of_le (S3.lt (g:=w.heap.size+1+1+1) (by simp)) (bg _ (.cells #[.int .u32 1] 119) none).size
 replace S0:=Kept.grown _ _ S0 hg
 clear hg hq hr
 have hq:=h
 clear h
 clear c0 c1 c2 c3 r0 r1 r2 r3 r4 r5 r6 r7 G
 obtain ⟨c0,c1,c2,c3,r0,r1,r2,r3,r4,r5,r6,r7,G⟩:=id S0
 go_wp2_with fail
 refine (tU (Hy.out.grown (Kept.all _ _ S0)) Nr Le.out).mono ?_
 rintro e w' ⟨v,rfl,hr,br,hg⟩
 obtain ⟨pv2,nv2,rfl⟩:=hr.slice
 have Sr:=S0.size
 have nP:=S0.lt (g:=w.heap.size+1+1) (by simp)
 have Lr2:=S0.lt (g:=w.heap.size+1+1+1) (by simp)
 replace S0:=Kept.grown _ _ S0 hg
 replace hq:=hq.grown hg (.inl rfl)
 clear hg
 clear c0 c1 c2 c3 r0 r1 r2 r3 r4 r5 r6 r7 G
 obtain ⟨c0,c1,c2,c3,r0,r1,r2,r3,r4,r5,r6,r7,G⟩:=id S0
 go_wp2_with fail
 refine (fO _ _ _ _ _).mono ?_
 rintro e w' ⟨rfl,hg⟩
 replace S0:=Kept.grown _ _ S0 hg
 replace hq:=hq.grown hg (.inl rfl)
 replace hr:=hr.grown hg (.inl rfl)
 clear hg
 go_wp2_with fail
 refine (fO _ _ _ _ _).mono ?_
 rintro e w' ⟨rfl,hg⟩
 replace S0:=Kept.grown _ _ S0 hg
 replace hq:=hq.grown hg (.inl rfl)
 replace hr:=hr.grown hg (.inl rfl)
 clear hg
 obtain ⟨c0,c1,c2,c3,r0,r1,r2,r3,r4,r5,r6,r7,G⟩:=id S0
 go_wp2_with fail
 refine tW results159 rfl rfl rfl rfl (iu (dW r4)) (iu (dY r5)) (dW (jM (.inl rfl) r0)) (dY (jM (.inr rfl) r1)) ?_
 exact tY (b':=false) rfl rfl hq hr Sq Sr jO jP nP Lr2 D.out.1 D.out.2 Mz br (Kept.all _ _ (Kept.set _ _ (by simp <;> omega) (by first | omega | (simp <;> omega)) (Kept.set _ _ (by simp <;> omega) (by first | omega | (simp <;> omega)) S0)))
theorem jN.of {r q' r':Int}{i' j':Nat} (h:jN w q r i j e w') (h1:q=q') (h2:r=r') (hi:i<=i') (hj:j<=j'):jN w q' r' i' j' e w':=by
 subst h1 h2
 obtain ⟨v,u,a1,a2,a3,a4,a5,a6⟩:=h
 exact ⟨v,u,a1,a2,a3,a4.more hi,a5.more hj,a6⟩
theorem MA  (hx:aF w v z i) (hy:aF w u y j) (hi:i+j<=900000) (h0:y≠0) :
  Calls prog 159 #[v,u] w (jN w (z / y) (z % y) (i+2) j):=by
 obtain ⟨b,s,X,rfl,hx,rfl⟩:=hx
 obtain ⟨b',s',Y,rfl,hy,rfl⟩:=hy
 have hY:Y≠0:=by rintro rfl;exact h0 (by cases b' <;> rfl)
 cases b
 ·exact (Mw hx hy hi hY).mono fun _ _ h=>h.of rfl rfl (by omega) (by omega)
 ·by_cases hR:X % Y=0
  ·exact (Mx hx hy hi hY hR).mono fun _ _ h=>h.of rfl rfl (by omega) (by omega)
  ·exact (My hx hy hi hY hR).mono fun _ _ h=>h.of rfl rfl (by omega) (by omega)
set_option maxHeartbeats 2000000 in
theorem MB  (hx:aF w v z i) (hy:aF w u y j) (hi:i+j<=900000) (h0:y≠0∧z % y=0) :
  Calls prog 125 #[v,u] w (fun e w'=>∃v,e = .returned (.tuple #[v,.int .i64 0])∧fl w' w.heap.size v (z / y)∧Bd (z / y).natAbs (i+2)∧w.grownBy w' none):=by
 have Vx:=hid hx
 have Vy:=hid hy
 have H0:=hid h0
 obtain ⟨b,s,X,rfl,hx,rfl⟩:=hx
 obtain ⟨p,n,cap,rfl⟩:=hx.slice
 obtain ⟨b',s',Y,rfl,hy,rfl⟩:=hy
 obtain ⟨q,m,cap',rfl⟩:=hy.slice
 have Hx:=hid hx
 have Hy:=hid hy
 have S0:Kept w [(w.heap.size+1,0,.bool b'),(w.heap.size+1,1,.slice q m cap'),(w.heap.size,0,.bool b),(w.heap.size,1,.slice p n cap)] [w.heap.size+1+1] (((w.alloc (.cells #[.bool b,.slice p n cap] 27)).alloc (.cells #[.bool b',.slice q m cap'] 27)).alloc (.cells #[.bool false,.slice none 0 0] 27)):=(((Kept.start w).box _ _ _ _ rfl).box _ _ _ _ (by simp)).res _ _ _ _ _ (by simp)
 clear hx hy Hx Hy h0
 go_enter func125,ntmps125
 go_wp2_with fail
 have S1:=S0
 refine (MA (Vx.out.grown (Kept.all _ _ S0)) (Vy.out.grown (Kept.all _ _ S0)) hi H0.out.1).mono ?_
 rintro e w1 ⟨v,u,rfl,hq,hr,bq,br,hg⟩
 obtain ⟨pv,nv,rfl,hq2⟩:=id hq
 obtain ⟨pu,nu,rfl,hr2⟩:=id hr
 replace S0:=((Kept.grown _ _ S0 hg).box w1.heap.size (.bool (decide (sg b X / sg b' Y<0))) (.slice pv (am 4294967296 (sg b X / sg b' Y).natAbs).length nv) 27 rfl).grown _ _ (bg _ (.cells #[.bool (decide (sg b X % sg b' Y<0)),.slice pu (am 4294967296 (sg b X % sg b' Y).natAbs).length nu] 27) none)
 clear hq2 hr2
 obtain ⟨q0,q1,c0,c1,c2,c3,r0,r1,r2,r3,G⟩:=id S0
 go_wp2_with fail
 refine wY.mono ?_
 rintro e w2 ⟨rfl,hg2⟩
 have dz:decide ((am 4294967296 (sg b X % sg b' Y).natAbs).length=0)=decide (sg b X % sg b' Y=0):=by
  have:=fz (b:=4294967296) (n:=(sg b X % sg b' Y).natAbs)
  exact decide_eq_decide.2 ⟨fun h=>by omega,fun h=>by omega⟩
 rw [dz]
 have Gq:=hid (show (fl w2 _ _ _) from (hq.grown (aR (bg _ _ _) (bg _ _ _))).grown hg2)
 replace S0:=S0.grown _ _ hg2
 have hg1:=hg
 clear dz q0 q1 c0 c1 c2 c3 r0 r1 r2 r3 G hg hg2 hq hr
 obtain ⟨q0,q1,c0,c1,c2,c3,r0,r1,r2,r3,G⟩:=id S0
 have dt:decide (sg b X % sg b' Y=0)=true:=decide_eq_true H0.out.2
 rw [dt]
 go_wp2_with fail
 have hB:=S1.size
 have hL:=S1.lt (g:=w.heap.size+1+1) (by simp)
 refine Mv results125 rfl rfl rfl (dW r0) (dY r1) ⟨_,rfl,?_,bq,Kept.all _ _ (Kept.set _ _ ?_ (by first | omega | (simp <;> omega)) S0)⟩
 ·obtain ⟨p',cap',h1,h2⟩:=Gq.out
  simp only [Value.agg.injEq,Array.mk.injEq,List.cons.injEq,and_true] at h1
  obtain ⟨-,h1⟩:=h1
  refine ⟨p',cap',by rw [h1],?_⟩
  exact (h2.mono hB).grown (gA _ _ _ _) (own_ne h2 hL)
 ·have hL2:=Nat.lt_of_lt_of_le hL hg1.size
  simp <;> omega
theorem Num.two (w:World) (x y:Nat) (hx:x<4294967296) (hy:y<4294967296):Num (w.alloc (.cells #[.int .u32 x,.int .u32 y] 119)) (.slice (some ⟨w.heap.size,0,none⟩) 2 2) (x+4294967296*y) 2:=by
 refine ⟨[x,y],⟨_,2,rfl,Nat.le_refl _,by omega,.inr ⟨w.heap.size,0,rfl,by simp,fun j hj=>?_⟩⟩,All.cons hx (All.cons hy (All.nil _)),by simp [val],Nat.le_refl _⟩
 have:j=0∨j=1:=by simp at hj;omega
 rcases this with rfl | rfl <;> simp [go_sem,nth]
theorem tQ (X:Nat) (w:World) (hX:X<18446744073709551616:=by omega):Calls prog 145 #[.int .u64 X] w (jl w X 2):=by
 have h2:X / 4294967296<4294967296:=by omega
 have e1:((X:Int) % 4294967296)=((X % 4294967296:Nat):Int):=by omega
 have e2:((X:Int) / 4294967296)=((X / 4294967296:Nat):Int):=by omega
 have hv:X % 4294967296+4294967296*(X / 4294967296)=X:=by omega
 generalize hA:X / 4294967296=A at *
 generalize hB:X % 4294967296=B at *
 go_enter func145,ntmps145
 go_wp2_with fail
 refine (qu (Num.two w B A (by omega) (by omega)) (by omega)).mono ?_
 rintro e w' ⟨v,rfl,h,bd,hg⟩
 rw [hv] at h bd
 have G:=aR (bg w (.cells #[.int .u32 B,.int .u32 A] 119) none) hg
 have h':=h.mono (bg w (.cells #[.int .u32 B,.int .u32 A] 119) none).size
 clear hA hB e1 e2 h hg
 go_wp2_with fail
 go_ret
 exact ⟨v,rfl,h',bd,G⟩
set_option maxHeartbeats 1000000 in
theorem MC (N:Nat) (w:World) (hN:N<=9223372036854775807:=by omega):Calls prog 104 #[.int .i64 (N:Int)] w (eH w ((N:Int)) 2):=by
 have S0:Kept w [] [w.heap.size] (w.alloc (.cells #[.bool false,.slice none 0 0] 27)):=(Kept.start w).res _ _ _ _ _ rfl
 go_enter func104,ntmps104
 go_wp2_with fail
 have S1:=S0
 refine (tQ N _).mono ?_
 rintro e w1 ⟨v,rfl,h,bd,hg⟩
 obtain ⟨pv,nv,rfl⟩:=h.slice
 replace S0:=S0.grown _ _ hg
 clear hg
 go_wp2_with fail
 refine (fO _ _ _ _ _).mono ?_
 rintro e w2 ⟨rfl,hg⟩
 replace h:=h.grown hg (.inl rfl)
 replace S0:=S0.grown _ _ hg
 clear hg
 obtain ⟨r0,r1,f0,f1,G⟩:=id S0
 go_wp2_with fail
 exact jk (b:=false) results104 rfl rfl (dW r0) (dY r1) (Kept.all _ _ (Kept.set _ _ (by simp) (Nat.le_refl _) S0)) h S1.size (S1.lt (by simp)) rfl bd
set_option maxHeartbeats 1000000 in
theorem MD (N:Nat) (w:World) (hN:N<=9223372036854775808:=by omega) (h0:0<N:=by omega):Calls prog 104 #[.int .i64 (-(N:Int))] w (eH w ((-(N:Int))) 2):=by
 have S0:Kept w [] [w.heap.size] (w.alloc (.cells #[.bool false,.slice none 0 0] 27)):=(Kept.start w).res _ _ _ _ _ rfl
 have E:=hid (show IntKind.u64.wrap (-IntKind.u64.wrap (-(N:Int)))=N by rw [IntKind.wrap_u64,IntKind.wrap_u64];omega)
 go_enter func104,ntmps104
 go_wp2_with fail
 rw [E.out]
 have S1:=S0
 refine (tQ N _).mono ?_
 rintro e w1 ⟨v,rfl,h,bd,hg⟩
 obtain ⟨pv,nv,rfl⟩:=h.slice
 replace S0:=S0.grown _ _ hg
 clear hg
 go_wp2_with fail
 refine (fO _ _ _ _ _).mono ?_
 rintro e w2 ⟨rfl,hg⟩
 replace h:=h.grown hg (.inl rfl)
 replace S0:=S0.grown _ _ hg
 clear hg
 obtain ⟨r0,r1,f0,f1,G⟩:=id S0
 go_wp2_with fail
 exact jk (b:=true) results104 rfl rfl (dW r0) (dY r1) (Kept.all _ _ (Kept.set _ _ (by simp) (Nat.le_refl _) S0)) h S1.size (S1.lt (by simp)) rfl bd
theorem ME (z:Int) (w:World) (h1 : -9223372036854775808<=z) (h2:z<=9223372036854775807):Calls prog 104 #[.int .i64 z] w (eH w z 2):=by
 rcases Int.lt_or_le z 0 with h | h
 ·obtain ⟨N,rfl⟩:∃N:Nat,z = -(N:Int):=⟨z.natAbs,by omega⟩
  exact MD N w
 ·obtain ⟨N,rfl⟩:∃N:Nat,z=(N:Int):=⟨z.natAbs,by omega⟩
  exact MC N w
def fP (xs:List Nat) (n k:Nat):Nat:=val 4294967296 ((xs.take n).drop k)
theorem AQ  (hn:n<=xs.length) (hk:k<n:=by omega):fP xs n k=nth xs k+4294967296*fP xs n (k+1):=by
 unfold fP
 rw [fa _ _ (by rw [List.length_take];omega),fr _ hk]
theorem AR (xs:List Nat):fP xs n n=0:=by
 unfold fP
 rw [List.drop_of_length_le (by rw [List.length_take];omega)]
 rfl
theorem AS  (a:All 4294967296 xs) (hn:n<=2:=by omega) (hk:1<=k:=by omega):fP xs n k<4294967296:=by
 have:=eu ((a.take n).drop k)
 have hl:((xs.take n).drop k).length<=1:=by rw [List.length_drop,List.length_take];omega
 exact Nat.lt_of_lt_of_le this (Nat.le_trans (Nat.pow_le_pow_right (by omega) hl) (by omega))
set_option maxHeartbeats 1000000 in
theorem AB  (n:Nat) (hn:min xs.length 2=n) (hx:Sl w .u32 s xs) (ax:All 4294967296 xs) :
  Calls prog 171 #[s] w fun e w'=>e = .returned (.int .u64 (fP xs n 0))∧w=w':=by
 obtain ⟨p,cap,rfl,h1,h2,h3⟩:=id hx
 have Ax:=hid ax
 have hm:min (xs.length:Int) 2=(n:Int):=by omega
 have hl:n<=xs.length:=by omega
 have h2':n<=2:=by omega
 obtain ⟨m,hm'⟩:∃m,xs.length=m:=⟨_,rfl⟩
 have Hm:=hid hm'
 rw [hm'] at hm hl h1 hn ⊢
 clear hx ax hm'
 by_cases hc:2<m
 ·obtain rfl:n=2:=by omega
  have hc':(2:Int)<(m:Int):=by omega
  clear hn hm hl
  go_enter func171,ntmps171
  go_wp2_with fail
  go_loopw [3,4] (fun nv iv wr=>∃(k:Nat) (q:Int),k<=2∧iv = .int .i64 q∧q=(k:Int)-1∧nv = .int .u64 (fP xs 2 k)∧wr=w) (fun _ iv _=>(intOf iv+1).toNat)
  case atStart=>exact ⟨2,_,Nat.le_refl _,by go_num,by omega,by rw [AR];rfl,rfl⟩
  case round=>
   obtain ⟨k,q,hk,rfl,hq,rfl,rfl⟩:=hrel
   cases k with
   | zero=>
    obtain rfl:q = -1:=by omega
    clear hq
    go_wp2_with fail
    go_ret
    exact ⟨rfl,rfl⟩
   | succ k=>
    obtain rfl:q=(k:Int):=by omega
    rcases h3 with h3 | ⟨b,off,rfl,hbl,hyx⟩
    ·have:=Hm.out;rw [h3] at this;simp at this;omega
    have c1:=hyx k (by rw [Hm.out];omega)
    have b1:nth xs k<4294967296:=bE (by omega) Ax.out k
    have HO:=hid (sb (fP xs 2 (k+1)) (nth xs k) b1)
    have HL:=hid (AS Ax.out (n:=2) (k:=k+1))
    have HS:=hid (AQ (xs:=xs) (n:=2) (k:=k) (by rw [Hm.out];omega))
    have i1:(k:Int)<(m:Int):=by omega
    clear hq hyx
    generalize fP xs 2 (k+1)=av at *
    go_wp2_with fail
    go_roundw
    case rel=>exact ⟨k,_,by omega,rfl,rfl,int_eq (by rw [HO.out,HS.out];have:=HL.out;omega),trivial⟩
    case measure=>simp [intOf] <;> omega
 ·obtain rfl:n=m:=by omega
  have hc':¬(2:Int)<(n:Int):=by omega
  clear hn hm hl
  go_enter func171,ntmps171
  go_wp2_with fail
  go_loopw [3,4] (fun nv iv wr=>∃(k:Nat) (q:Int),k<=n∧iv = .int .i64 q∧q=(k:Int)-1∧nv = .int .u64 (fP xs n k)∧wr=w) (fun _ iv _=>(intOf iv+1).toNat)
  case atStart=>exact ⟨n,_,Nat.le_refl _,by go_num,by omega,by rw [AR];rfl,rfl⟩
  case round=>
   obtain ⟨k,q,hk,rfl,hq,rfl,rfl⟩:=hrel
   cases k with
   | zero=>
    obtain rfl:q = -1:=by omega
    clear hq
    go_wp2_with fail
    go_ret
    exact ⟨rfl,rfl⟩
   | succ k=>
    obtain rfl:q=(k:Int):=by omega
    rcases h3 with h3 | ⟨b,off,rfl,hbl,hyx⟩
    ·have:=Hm.out;rw [h3] at this;simp at this;omega
    have c1:=hyx k (by rw [Hm.out];omega)
    have b1:nth xs k<4294967296:=bE (by omega) Ax.out k
    have HO:=hid (sb (fP xs n (k+1)) (nth xs k) b1)
    have HL:=hid (AS Ax.out (n:=n) (k:=k+1))
    have HS:=hid (AQ (xs:=xs) (n:=n) (k:=k) (by rw [Hm.out];omega))
    have i1:(k:Int)<(n:Int):=by omega
    clear hq hyx
    generalize fP xs n (k+1)=av at *
    go_wp2_with fail
    go_roundw
    case rel=>exact ⟨k,_,by omega,rfl,rfl,int_eq (by rw [HO.out,HS.out];have:=HL.out;omega),trivial⟩
    case measure=>simp [intOf] <;> omega
theorem AC  (hn:min xs.length 2=n) (h:val 4294967296 xs<18446744073709551616):fP xs n 0=val 4294967296 xs:=by
 unfold fP
 rw [List.drop_zero]
 have e:=fC 4294967296 xs (k:=n)
 by_cases h2:xs.length<=n
 ·rw [List.take_of_length_le h2]
 ·obtain rfl:n=2:=by omega
  have:val 4294967296 (xs.drop 2)=0:=by
   rcases Nat.eq_zero_or_pos (val 4294967296 (xs.drop 2)) with h0 | h0
   ·exact h0
   ·have:4294967296 ^ 2*1<=4294967296 ^ 2*val 4294967296 (xs.drop 2):=Nat.mul_le_mul_left _ h0
    omega
  rw [this] at e
  omega
end Go.Proofs.YtbjfgffibepmkaaGreat
