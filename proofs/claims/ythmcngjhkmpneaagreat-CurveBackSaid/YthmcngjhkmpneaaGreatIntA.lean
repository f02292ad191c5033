/- Boxes: struct values of two cells in blocks of their own; how they outlive what is done beside them. Package whole, o .. -/
import Derived.Test.YthmcngjhkmpneaaGreatRefK
import Derived.Deep.RegionHeld3
namespace Go.Proofs.YthmcngjhkmpneaaGreat
open Go.RowKit
theorem jR {w:World}{a:Addr}{x:Value} (h:w.cell? a=some x):a.block<w.heap.size:=by
 rcases Nat.lt_or_ge a.block w.heap.size with h1 | h1
 ·exact h1
 ·simp [World.cell?,Array.getElem?_eq_none h1] at h
theorem cell_grown {w w':World}{a:Addr}{x:Value} (g:w.grownBy w' none) (h:w.cell? a=some x):w'.cell? a=some x:=by
 rw [World.cell?_of_block (g.block a.block (jR h) (by simp))];exact h
theorem fa {w w':World}{a:Addr}{x:Value} (g:w.grownBy w' none) (hc:w.cell? a=some x) (h:w.frozen? a=false):w'.frozen? a=false:=by
 have:=g.block a.block (jR hc) (by simp)
 simp only [World.frozen?,this] at h ⊢
 exact h
def cellOf (w:World) (a:Addr):Value:=(w.cell? a).getD undef
theorem fb {w:World}{a:Addr}{x:Value} (h:w.cell? a=some x):w.cell? a=some (cellOf w a):=by
 unfold cellOf;rw [h];rfl
theorem ou (w:World) (a b:Addr) (v:Value):(w.setCell a v).frozen? b=w.frozen? b:=by
 simp only [World.frozen?,World.setCell,Array.getElem?_modify]
 by_cases e:a.block=b.block
 ·rw [if_pos e]
  cases h:w.heap[b.block]? with
  | none=>rfl
  | some o=>cases o <;> rfl
 ·rw [if_neg e]
def set2 (w:World) (g:Nat) (u v:Value):World:=(w.setCell ⟨g,0,none⟩ u).setCell ⟨g,1,none⟩ v
theorem fz {w:World}{g:Nat}{u v x:Value}{a:Addr} (h:w.cell? a=some x) (hg:a.block≠g):(set2 w g u v).cell? a=some x:=by
 unfold set2
 rw [World.cell?_setCell_far _ _ _ _ (fun e=>hg e.symm),World.cell?_setCell_far _ _ _ _ (fun e=>hg e.symm)];exact h
theorem cM {w:World}{g:Nat}{u v x:Value} (h:w.cell? ⟨g,0,none⟩=some x):(set2 w g u v).cell? ⟨g,0,none⟩=some u:=by
 unfold set2
 rw [World.cell?_setCell_other _ _ _ _ (by simp)]
 exact World.cell?_setCell_same' _ _ _ (by rw [h];rfl)
theorem cN {w:World}{g:Nat}{u v x:Value} (h:w.cell? ⟨g,1,none⟩=some x):(set2 w g u v).cell? ⟨g,1,none⟩=some v:=by
 unfold set2
 refine World.cell?_setCell_same' _ _ _ ?_
 rw [World.cell?_setCell_other _ _ _ _ (by simp),h];rfl
theorem i9 {w:World}{g:Nat}{u v:Value}{a:Addr} (h:w.frozen? a=false):(set2 w g u v).frozen? a=false:=by
 unfold set2;rw [ou,ou];exact h
theorem ep (w:World) (g:Nat) (u v:Value):w.grownBy (set2 w g u v) (some g):=aE (be _ _ _ _) (be _ _ _ _)
theorem i7 (w:World) (c:Array Value) (t:TypeId) (a:Addr) (h:w.frozen? a=false):(w.alloc (.cells c t)).frozen? a=false:=by
 by_cases e:a.block=w.heap.size
 ·simp only [World.frozen?,e,heap_alloc_new]
  simp
 ·by_cases e2:a.block<w.heap.size
  ·simp only [World.frozen?,Below.heap_alloc _ _ _ e2] at h ⊢
   exact h
  ·have:(w.alloc (.cells c t)).heap[a.block]?=none:=Array.getElem?_eq_none (by simp;omega)
   simp only [World.frozen?,this]
theorem i8 {w:World}{a:Addr} (h:w.heap.size<=a.block):w.frozen? a=false:=by
 simp only [World.frozen?,Array.getElem?_eq_none h]
def dd (W:World):List Nat->World->Prop
 | [],w=>W.grownBy w none
 | g :: rs,w=>w.cell? ⟨g,0,none⟩=some (cellOf w ⟨g,0,none⟩)∧w.cell? ⟨g,1,none⟩=some (cellOf w ⟨g,1,none⟩)∧w.frozen? ⟨g,0,none⟩=false∧w.frozen? ⟨g,1,none⟩=false∧dd W rs w
def Kept (W:World):List (Nat×Nat×Value)->List Nat->World->Prop
 | [],rs,w=>dd W rs w
 | (g,o,x) :: cs,rs,w=>w.cell? ⟨g,o,none⟩=some x∧Kept W cs rs w
theorem dd.grown {W w w':World}:∀(rs:List Nat),dd W rs w->w.grownBy w' none->dd W rs w'
 | [],h,g=>aE h g
 | _ :: rs,h,g=>⟨fb (cell_grown g h.1),fb (cell_grown g h.2.1),fa g h.1 h.2.2.1,fa g h.2.1 h.2.2.2.1,dd.grown rs h.2.2.2.2 g⟩
theorem Kept.grown {W w w':World}:∀(cs:List (Nat×Nat×Value)) (rs:List Nat),Kept W cs rs w->w.grownBy w' none->Kept W cs rs w'
 | [],rs,h,g=>dd.grown rs h g
 | (_,_,_) :: cs,rs,h,g=>⟨cell_grown g h.1,Kept.grown cs rs h.2 g⟩
theorem gE {w:World}{g g' o:Nat}{u v:Value} (ho:o=0∨o=1) (h:w.cell? ⟨g',o,none⟩=some (cellOf w ⟨g',o,none⟩)):(set2 w g u v).cell? ⟨g',o,none⟩=some (cellOf (set2 w g u v) ⟨g',o,none⟩):=by
 by_cases e:g'=g
 ·subst e
  rcases ho with rfl | rfl
  ·exact fb (cM h)
  ·exact fb (cN h)
 ·exact fb (fz h e)
theorem dd.set {W w:World}{g:Nat}{u v:Value}:∀(rs:List Nat),W.heap.size<=g->dd W rs w->dd W rs (set2 w g u v)
 | [],hg,h=>bD h (ep _ _ _ _) hg
 | _ :: rs,hg,h=>⟨gE (.inl rfl) h.1,gE (.inr rfl) h.2.1,i9 h.2.2.1,i9 h.2.2.2.1,dd.set rs hg h.2.2.2.2⟩
theorem Kept.set {W w:World}{g:Nat}{u v:Value}:∀(cs:List (Nat×Nat×Value)) (rs:List Nat),(cs.all fun c=>c.1 != g)=true->W.heap.size<=g->Kept W cs rs w->Kept W cs rs (set2 w g u v)
 | [],rs,_,hg,h=>dd.set rs hg h
 | (_,_,_) :: cs,rs,hc,hg,h=>by
  simp only [List.all_cons,Bool.and_eq_true,bne_iff_ne,ne_eq] at hc
  exact ⟨fz h.1 hc.1,Kept.set cs rs (by simpa using hc.2) hg h.2⟩
theorem Kept.step {W w w':World} (cs:List (Nat×Nat×Value)) (rs:List Nat) (g:w.grownBy w' none) (h:Kept W cs rs w):Kept W cs rs w':=Kept.grown cs rs h g
theorem Kept.start (w:World):Kept w [] [] w:=aQ w none
theorem Kept.box {W w:World}{cs:List (Nat×Nat×Value)}{rs:List Nat} (g:Nat) (x y:Value) (t:TypeId) (h:Kept W cs rs w) (hg:w.heap.size=g):Kept W ((g,0,x) :: (g,1,y) :: cs) rs (w.alloc (.cells #[x,y] t)):=by
 subst hg
 exact ⟨by simp [go_sem],by simp [go_sem],Kept.grown cs rs h (aF _ _ _)⟩
theorem Kept.res {W w:World}{rs:List Nat} (g:Nat) (x y:Value) (t:TypeId):∀(cs:List (Nat×Nat×Value)),Kept W cs rs w->w.heap.size=g->Kept W cs (g :: rs) (w.alloc (.cells #[x,y] t))
 | [],h,hg=>by
  subst hg
  have c0:(w.alloc (.cells #[x,y] t)).cell? ⟨w.heap.size,0,none⟩=some x:=by simp [go_sem]
  have c1:(w.alloc (.cells #[x,y] t)).cell? ⟨w.heap.size,1,none⟩=some y:=by simp [go_sem]
  exact ⟨fb c0,fb c1,i7 _ _ _ _ (i8 (Nat.le_refl _)),i7 _ _ _ _ (i8 (Nat.le_refl _)),dd.grown rs h (aF _ _ _)⟩
 | (g',o,x') :: cs,h,hg=>⟨cell_grown (aF _ _ _) h.1,Kept.res g x y t cs h.2 hg⟩
theorem dd.all {W w:World}:∀(rs:List Nat),dd W rs w->W.grownBy w none
 | [],h=>h
 | _ :: rs,h=>dd.all rs h.2.2.2.2
theorem Kept.all {W w:World}:∀(cs:List (Nat×Nat×Value)) (rs:List Nat),Kept W cs rs w->W.grownBy w none
 | [],rs,h=>dd.all rs h
 | _ :: cs,rs,h=>Kept.all cs rs h.2
theorem Kept.size {W w:World}{cs:List (Nat×Nat×Value)}{rs:List Nat} (h:Kept W cs rs w):W.heap.size<=w.heap.size:=(Kept.all cs rs h).size
theorem dd.lt {W w:World}{g:Nat}:∀(rs:List Nat),g ∈ rs->dd W rs w->g<w.heap.size
 | _ :: rs,hm,h=>by
  rcases List.mem_cons.1 hm with rfl | hm
  ·exact jR h.1
  ·exact dd.lt rs hm h.2.2.2.2
theorem Kept.lt {W w:World}{g:Nat}:∀{cs:List (Nat×Nat×Value)}{rs:List Nat},Kept W cs rs w->g ∈ rs->g<w.heap.size
 | [],rs,h,hm=>dd.lt rs hm h
 | _ :: _,_,h,hm=>Kept.lt h.2 hm
theorem mN {w:World}{a:Addr}{u:Value} (b:Addr) (h:w.cell? b=none):(w.setCell a u).cell? b=none:=by
 by_cases e:a=b
 ·subst e
  simp only [World.cell?,World.setCell,Array.getElem?_modify] at h ⊢
  cases hh:w.heap[a.block]? with
  | none=>simp
  | some o=>
   rw [hh] at h
   cases o <;> simp_all
 ·rw [World.cell?_setCell_other _ _ _ _ e];exact h
theorem kK {w:World}{g:Nat}{u v x:Value} (h:(set2 w g u v).cell? ⟨g,0,none⟩=some x):(set2 w g u v).cell? ⟨g,0,none⟩=some u:=by
 cases hc:w.cell? ⟨g,0,none⟩ with
 | some y=>exact cM hc
 | none=>rw [set2,mN _ (mN _ hc)] at h;cases h
theorem kL {w:World}{g:Nat}{u v x:Value} (h:(set2 w g u v).cell? ⟨g,1,none⟩=some x):(set2 w g u v).cell? ⟨g,1,none⟩=some v:=by
 cases hc:w.cell? ⟨g,1,none⟩ with
 | some y=>exact cN hc
 | none=>rw [set2,mN _ (mN _ hc)] at h;cases h
theorem iw (b X:Nat) (hb:2<=b):decide (0<(af b X).length)=decide (0<X):=by
 have:=o6 hb (n:=X)
 exact decide_eq_decide.2 ⟨fun h=>by omega,fun h=>by omega⟩
theorem own_ne {w:World}{e:TypeId}{k:IntKind}{B g:Nat}{v:Value}{xs:List Nat} (h:Own w e k B v xs) (hg:g<B):some g=none∨v.ownBlock≠some g:=
 .inr fun x=>by have:=(h.lt g x).1;omega
theorem mO {fn:Func}{R:Ending->World->Prop}{a:Act}{w:World}{r g:Nat}{x y:Value} (hres:fn.results = #[ResultVar.cell r 51]) (hd:a.defers = []) (hr:a.tmps[r]?=some (.pointer (some ⟨g,0,none⟩)))
  (c0:w.cell? ⟨g,0,none⟩=some x) (c1:w.cell? ⟨g,1,none⟩=some y) (h:R (.returned (.agg #[x,y])) w):bodyPost Tryz.prog fn R .ret a w:=by
 simp [bodyPost,results,hres,hr,c0,c1,go_sem,h,hd]
theorem mM {fn:Func}{R:Ending->World->Prop}{a:Act}{w:World}{r g:Nat}{x y:Value} (hres:fn.results = #[ResultVar.cell r 42]) (hd:a.defers = []) (hr:a.tmps[r]?=some (.pointer (some ⟨g,0,none⟩)))
  (c0:w.cell? ⟨g,0,none⟩=some x) (c1:w.cell? ⟨g,1,none⟩=some y) (h:R (.returned (.agg #[x,y])) w):bodyPost Tryz.prog fn R .ret a w:=by
 simp [bodyPost,results,hres,hr,c0,c1,go_sem,h,hd]
def sg (b:Bool) (X:Nat):Int:=if b then -(X:Int) else X
theorem cC (b:Bool) (X:Nat):(sg b X).natAbs=X:=by cases b <;> simp [sg]
theorem EI (b:Bool) (X:Nat):sg (!b) X = - sg b X:=by cases b <;> simp [sg]
theorem jl (b:Bool) (X:Nat):decide (sg b X<0)=(b && decide (0<X)):=by
 cases b
 ·simp [sg]
 ·simp [sg]
theorem pZ (z:Int):sg (decide (z<0)) z.natAbs=z:=by
 unfold sg;split <;> rename_i h <;> simp at h <;> omega
def aj (w:World) (v:Value) (z:Int) (k:Nat):Prop:=∃(b:Bool) (s:Value) (X:Nat),v = .agg #[.bool b,s]∧Num w s X k∧z=sg b X
theorem aj.grown {w w':World}{v:Value}{z:Int}{k:Nat} (h:aj w v z k) (g:w.grownBy w' none):aj w' v z k:=by
 obtain ⟨b,s,X,h1,h2,h3⟩:=h
 exact ⟨b,s,X,h1,h2.grown g,h3⟩
def cD (w:World) (B:Nat) (v:Value) (z:Int):Prop:=∃p cap,v = .agg #[.bool (decide (z<0)),.slice p (af 4294967296 z.natAbs).length cap]∧Own w 152 .u32 B (.slice p (af 4294967296 z.natAbs).length cap) (af 4294967296 z.natAbs)
theorem cD.grown {w w':World}{B:Nat}{v:Value}{z:Int} (h:cD w B v z) (g:w.grownBy w' none):cD w' B v z:=by
 obtain ⟨p,cap,h1,h2⟩:=h
 exact ⟨p,cap,h1,h2.grown g (.inl rfl)⟩
theorem cD.pV {w:World}{B:Nat}{v:Value}{z:Int}{k:Nat} (h:cD w B v z) (hb:Bd z.natAbs k):aj w v z k:=by
 obtain ⟨p,cap,h1,h2⟩:=h
 exact ⟨_,_,_,h1,(show eO w _ _ _ from ⟨h2.sl,hb⟩).num,(pZ z).symm⟩
def cZ (w:World) (z:Int) (k:Nat) (e:Ending) (w':World):Prop:=∃v,e = .returned v∧cD w' w.heap.size v z∧Bd z.natAbs k∧w.grownBy w' none
theorem fY {fn:Func}{a:Act}{W w:World}{r g X k B cap:Nat}{b:Bool}{p:Option Addr}{z:Int}{x y:Value} (hres:fn.results = #[ResultVar.cell r 51]) (hd:a.defers = []) (hr:a.tmps[r]?=some (.pointer (some ⟨g,0,none⟩)))
  (h0:(set2 w g (.bool (b && decide (0<(af 4294967296 X).length))) (.slice p (af 4294967296 X).length cap)).cell? ⟨g,0,none⟩=some x)
  (h1:(set2 w g (.bool (b && decide (0<(af 4294967296 X).length))) (.slice p (af 4294967296 X).length cap)).cell? ⟨g,1,none⟩=some y)
  (hG:W.grownBy (set2 w g (.bool (b && decide (0<(af 4294967296 X).length))) (.slice p (af 4294967296 X).length cap)) none)
  (ho:Own w 152 .u32 B (.slice p (af 4294967296 X).length cap) (af 4294967296 X)) (hB:W.heap.size<=B) (hg:g<B) (hz:sg b X=z) (hb:Bd X k) :
  bodyPost Tryz.prog fn (cZ W z k) .ret a (set2 w g (.bool (b && decide (0<(af 4294967296 X).length))) (.slice p (af 4294967296 X).length cap)):=by
 subst hz
 refine mO hres hd hr (kK h0) (kL h1) ⟨_,rfl,⟨p,cap,?_,?_⟩,by rw [cC];exact hb,hG⟩
 ·rw [jl,cC,iw _ _ (by omega)]
 ·rw [cC]
  exact ((ho.mono hB).grown (ep _ _ _ _) (own_ne ho hg))
theorem d9 (b:Bool) (p:Option Addr) (n cap:Nat) (w:World) :
  Calls Tryz.prog 95 #[.bool b,.slice p n cap] w fun e w'=>e = .returned (.agg #[.bool (b && decide (0<n)),.slice p n cap])∧w.grownBy w' none:=by
 go_enter Tryz.func95,Tryz.ntmps95
 cases b
 all_goals
  go_wp2_with fail
  simp [bodyPost,results,Tryz.results95,go_sem]
  exact aF _ _ _
set_option maxHeartbeats 1000000 in
theorem Es {v:Value}{z:Int}{k:Nat}{w:World} (hx:aj w v z k) (hk:k<=1000000) :
  Calls Tryz.prog 93 #[v] w (cZ w (z) k):=by
 obtain ⟨b,s,X,rfl,hx,rfl⟩:=hx
 obtain ⟨p,n,cap,rfl⟩:=hx.slice
 have Hx:=Lib.hid hx
 clear hx
 have S0:Kept w [(w.heap.size,0,.bool b),(w.heap.size,1,.slice p n cap)] [w.heap.size+1] ((w.alloc (.cells #[.bool b,.slice p n cap] 51)).alloc (.cells #[.bool false,.slice none 0 0] 51)):=((Kept.start w).box _ _ _ _ rfl).res _ _ _ _ _ (by simp)
 go_enter Tryz.func93,Tryz.ntmps93
 go_wp2_with fail
 go_region_held3 (fun w'=>w'.cell? ⟨w.heap.size,0,none⟩=some (.bool b)∧w'.cell? ⟨w.heap.size,1,none⟩=some (.slice p n cap)∧w'.cell? ⟨w.heap.size+1,0,none⟩=some (cellOf w' ⟨w.heap.size+1,0,none⟩)∧w'.cell? ⟨w.heap.size+1,1,none⟩=some (cellOf w' ⟨w.heap.size+1,1,none⟩)∧w'.frozen? ⟨w.heap.size+1,0,none⟩=false∧w'.frozen? ⟨w.heap.size+1,1,none⟩=false∧w.grownBy w' none) (first | exact Kept.step (W:=w) [(w.heap.size,0,.bool b),(w.heap.size,1,.slice p n cap)] [w.heap.size+1] (by assumption) (by assumption) | exact Kept.set (W:=w) [(w.heap.size,0,.bool b),(w.heap.size,1,.slice p n cap)] [w.heap.size+1] (by simp <;> omega) (by first | omega | (simp <;> omega)) (by assumption) | exact Kept.step [(w.heap.size,0,.bool b),(w.heap.size,1,.slice p n cap)] [w.heap.size+1] (ch _ _) S0)
  (first | (go_at_call 140;refine (mL (Hx.out.grown (by go_split_ands;assumption)) hk).mono ?_;rintro e w' ⟨v,rfl,h,bd,hg⟩;obtain ⟨pv,nv,rfl⟩:=h.slice) | (go_at_call 95;refine (d9 _ _ _ _ _).mono ?_;rintro e w' ⟨rfl,hg⟩;replace h:=h.grown hg (.inl rfl)))
 rename_i hend
 go_wp2_with fail
 exact fY Tryz.results93 rfl rfl hend.2.2.1 hend.2.2.2.1 hend.2.2.2.2.2.2 h (by first | omega | (simp <;> omega)) (by first | omega | (simp <;> omega)) (rfl) bd
set_option maxHeartbeats 1000000 in
theorem Eq {v:Value}{z:Int}{k:Nat}{w:World} (hx:aj w v z k) (hk:k<=1000000) :
  Calls Tryz.prog 106 #[v] w (cZ w (-z) k):=by
 obtain ⟨b,s,X,rfl,hx,rfl⟩:=hx
 obtain ⟨p,n,cap,rfl⟩:=hx.slice
 have Hx:=Lib.hid hx
 clear hx
 have S0:Kept w [(w.heap.size,0,.bool b),(w.heap.size,1,.slice p n cap)] [w.heap.size+1] ((w.alloc (.cells #[.bool b,.slice p n cap] 51)).alloc (.cells #[.bool false,.slice none 0 0] 51)):=((Kept.start w).box _ _ _ _ rfl).res _ _ _ _ _ (by simp)
 go_enter Tryz.func106,Tryz.ntmps106
 go_wp2_with fail
 go_region_held3 (fun w'=>w'.cell? ⟨w.heap.size,0,none⟩=some (.bool b)∧w'.cell? ⟨w.heap.size,1,none⟩=some (.slice p n cap)∧w'.cell? ⟨w.heap.size+1,0,none⟩=some (cellOf w' ⟨w.heap.size+1,0,none⟩)∧w'.cell? ⟨w.heap.size+1,1,none⟩=some (cellOf w' ⟨w.heap.size+1,1,none⟩)∧w'.frozen? ⟨w.heap.size+1,0,none⟩=false∧w'.frozen? ⟨w.heap.size+1,1,none⟩=false∧w.grownBy w' none) (first | exact Kept.step (W:=w) [(w.heap.size,0,.bool b),(w.heap.size,1,.slice p n cap)] [w.heap.size+1] (by assumption) (by assumption) | exact Kept.set (W:=w) [(w.heap.size,0,.bool b),(w.heap.size,1,.slice p n cap)] [w.heap.size+1] (by simp <;> omega) (by first | omega | (simp <;> omega)) (by assumption) | exact Kept.step [(w.heap.size,0,.bool b),(w.heap.size,1,.slice p n cap)] [w.heap.size+1] (ch _ _) S0)
  (first | (go_at_call 140;refine (mL (Hx.out.grown (by go_split_ands;assumption)) hk).mono ?_;rintro e w' ⟨v,rfl,h,bd,hg⟩;obtain ⟨pv,nv,rfl⟩:=h.slice) | (go_at_call 95;refine (d9 _ _ _ _ _).mono ?_;rintro e w' ⟨rfl,hg⟩;replace h:=h.grown hg (.inl rfl)))
 rename_i hend
 go_wp2_with fail
 exact fY Tryz.results106 rfl rfl hend.2.2.1 hend.2.2.2.1 hend.2.2.2.2.2.2 h (by first | omega | (simp <;> omega)) (by first | omega | (simp <;> omega)) (EI _ _) bd
def cj (z y:Int):Int:=if z<y then -1 else if z=y then 0 else 1
theorem EJ (X Y:Nat):cj (X:Int) (Y:Int)=ij X Y:=by
 unfold cj ij
 split <;> split <;> (try split) <;> (try split) <;> omega
theorem EK (X Y:Nat):cj (-(X:Int)) (-(Y:Int))=ij Y X:=by
 unfold cj ij
 split <;> split <;> (try split) <;> (try split) <;> omega
theorem vE {b:Bool}{X:Nat} (h:¬sg b X<0):sg b X=X:=by
 cases b
 ·rfl
 ·simp [sg] at h ⊢;omega
theorem vF {b:Bool}{X:Nat} (h:sg b X<0):sg b X = -(X:Int):=by
 cases b
 ·simp [sg] at h
  omega
 ·rfl
set_option maxHeartbeats 1000000 in
theorem fi {v:Value}{z:Int}{k:Nat}{w:World} (r:Bool) (hx:aj w v z k) (hk:k<=1000000) (hr:decide (z<0)=r) :
  Calls Tryz.prog 118 #[v] w fun e w'=>e = .returned (.bool r)∧w.grownBy w' none:=by
 subst hr
 obtain ⟨b,s,X,rfl,hx,rfl⟩:=hx
 obtain ⟨p,n,cap,rfl⟩:=hx.slice
 rw [jl]
 have Hx:=Lib.hid hx
 clear hx
 cases b
 ·go_enter Tryz.func118,Tryz.ntmps118
  go_wp2_with fail
  go_ret
  exact ⟨rfl,aF _ _ _⟩
 ·have Hd:=Lib.hid (iw 2 X (by omega))
  go_enter Tryz.func118,Tryz.ntmps118
  go_wp2_with fail
  refine (vH (Hx.out.grown (aF _ _ _)) hk).mono ?_
  rintro e w' ⟨rfl,rfl⟩
  generalize (af 2 X).length=l at *
  go_wp2_with fail
  go_ret
  refine ⟨?_,aF _ _ _⟩
  have:=Hd.out
  simp_all
set_option maxHeartbeats 2000000 in
theorem EL {v u:Value}{z y:Int}{i j:Nat}{w:World} (r:Int) (hx:aj w v z i) (hy:aj w u y j) (hi:i+j<=1000000) (hr:cj z y=r) :
  Calls Tryz.prog 74 #[v,u] w fun e w'=>e = .returned (.int .i64 r)∧w.grownBy w' none:=by
 have Vx:=Lib.hid hx
 have Vy:=Lib.hid hy
 have Hr:=Lib.hid hr
 obtain ⟨b,s,X,rfl,hx,rfl⟩:=hx
 obtain ⟨p,n,cap,rfl⟩:=hx.slice
 obtain ⟨b',s',Y,rfl,hy,rfl⟩:=hy
 obtain ⟨q,m,cap',rfl⟩:=hy.slice
 have Hx:=Lib.hid hx
 have Hy:=Lib.hid hy
 have S0:Kept w [(w.heap.size+1,0,.bool b'),(w.heap.size+1,1,.slice q m cap'),(w.heap.size,0,.bool b),(w.heap.size,1,.slice p n cap)] [] ((w.alloc (.cells #[.bool b,.slice p n cap] 51)).alloc (.cells #[.bool b',.slice q m cap'] 51)):=((Kept.start w).box _ _ _ _ rfl).box _ _ _ _ (by simp)
 clear hx hy hr
 by_cases hz:sg b X<0
 ·replace hz:=Lib.hid hz
  by_cases hw:sg b' Y<0
  ·replace hw:=Lib.hid hw
   go_enter Tryz.func74,Tryz.ntmps74
   go_wp2_with fail
   refine (fi true (Vx.out.grown (Kept.all _ _ S0)) (by omega) (decide_eq_true hz.out)).mono ?_
   rintro e w' ⟨rfl,hg⟩
   replace S0:=Kept.grown _ _ S0 hg
   clear hg
   obtain ⟨c0,c1,c2,c3,G⟩:=id S0
   go_wp2_with fail
   clear c0 c1 c2 c3 G
   refine (fi true (Vy.out.grown (Kept.all _ _ S0)) (by omega) (decide_eq_true hw.out)).mono ?_
   rintro e w' ⟨rfl,hg⟩
   replace S0:=Kept.grown _ _ S0 hg
   clear hg
   obtain ⟨c0,c1,c2,c3,G⟩:=id S0
   go_wp2_with fail
   clear c0 c1 c2 c3 G
   refine (pS r (Hy.out.grown (Kept.all _ _ S0)) (Hx.out.grown (Kept.all _ _ S0)) ?_).mono ?_
   ·rw [<- Hr.out];exact (by rw [vF hz.out,vF hw.out,EK])
   rintro e w' ⟨rfl,hg⟩
   replace S0:=Kept.grown _ _ S0 hg
   go_wp2_with fail
   go_ret
   exact ⟨rfl,Kept.all _ _ S0⟩
  ·replace hw:=Lib.hid hw
   obtain rfl:r = -1:=by
    have h1:=hz.out
    have h2:=hw.out
    rw [<- Hr.out,cj,if_pos (by omega)]
   go_enter Tryz.func74,Tryz.ntmps74
   go_wp2_with fail
   refine (fi true (Vx.out.grown (Kept.all _ _ S0)) (by omega) (decide_eq_true hz.out)).mono ?_
   rintro e w' ⟨rfl,hg⟩
   replace S0:=Kept.grown _ _ S0 hg
   clear hg
   obtain ⟨c0,c1,c2,c3,G⟩:=id S0
   go_wp2_with fail
   clear c0 c1 c2 c3 G
   refine (fi false (Vy.out.grown (Kept.all _ _ S0)) (by omega) (decide_eq_false (Int.not_lt.2 hw.out))).mono ?_
   rintro e w' ⟨rfl,hg⟩
   replace S0:=Kept.grown _ _ S0 hg
   clear hg
   obtain ⟨c0,c1,c2,c3,G⟩:=id S0
   go_wp2_with fail
   clear c0 c1 c2 c3 G
   refine (fi true (Vx.out.grown (Kept.all _ _ S0)) (by omega) (decide_eq_true hz.out)).mono ?_
   rintro e w' ⟨rfl,hg⟩
   replace S0:=Kept.grown _ _ S0 hg
   clear hg
   obtain ⟨c0,c1,c2,c3,G⟩:=id S0
   go_wp2_with fail
   clear c0 c1 c2 c3 G
   go_ret
   exact ⟨rfl,Kept.all _ _ S0⟩
 ·replace hz:=Lib.hid hz
  by_cases hw:sg b' Y<0
  ·replace hw:=Lib.hid hw
   obtain rfl:r=1:=by
    have h1:=hz.out
    have h2:=hw.out
    rw [<- Hr.out,cj,if_neg (by omega),if_neg (by omega)]
   go_enter Tryz.func74,Tryz.ntmps74
   go_wp2_with fail
   refine (fi false (Vx.out.grown (Kept.all _ _ S0)) (by omega) (decide_eq_false (Int.not_lt.2 hz.out))).mono ?_
   rintro e w' ⟨rfl,hg⟩
   replace S0:=Kept.grown _ _ S0 hg
   clear hg
   obtain ⟨c0,c1,c2,c3,G⟩:=id S0
   go_wp2_with fail
   clear c0 c1 c2 c3 G
   refine (fi false (Vx.out.grown (Kept.all _ _ S0)) (by omega) (decide_eq_false (Int.not_lt.2 hz.out))).mono ?_
   rintro e w' ⟨rfl,hg⟩
   replace S0:=Kept.grown _ _ S0 hg
   clear hg
   obtain ⟨c0,c1,c2,c3,G⟩:=id S0
   go_wp2_with fail
   clear c0 c1 c2 c3 G
   refine (fi true (Vy.out.grown (Kept.all _ _ S0)) (by omega) (decide_eq_true hw.out)).mono ?_
   rintro e w' ⟨rfl,hg⟩
   replace S0:=Kept.grown _ _ S0 hg
   clear hg
   obtain ⟨c0,c1,c2,c3,G⟩:=id S0
   go_wp2_with fail
   clear c0 c1 c2 c3 G
   go_ret
   exact ⟨rfl,Kept.all _ _ S0⟩
  ·replace hw:=Lib.hid hw
   go_enter Tryz.func74,Tryz.ntmps74
   go_wp2_with fail
   refine (fi false (Vx.out.grown (Kept.all _ _ S0)) (by omega) (decide_eq_false (Int.not_lt.2 hz.out))).mono ?_
   rintro e w' ⟨rfl,hg⟩
   replace S0:=Kept.grown _ _ S0 hg
   clear hg
   obtain ⟨c0,c1,c2,c3,G⟩:=id S0
   go_wp2_with fail
   clear c0 c1 c2 c3 G
   refine (fi false (Vx.out.grown (Kept.all _ _ S0)) (by omega) (decide_eq_false (Int.not_lt.2 hz.out))).mono ?_
   rintro e w' ⟨rfl,hg⟩
   replace S0:=Kept.grown _ _ S0 hg
   clear hg
   obtain ⟨c0,c1,c2,c3,G⟩:=id S0
   go_wp2_with fail
   clear c0 c1 c2 c3 G
   refine (fi false (Vy.out.grown (Kept.all _ _ S0)) (by omega) (decide_eq_false (Int.not_lt.2 hw.out))).mono ?_
   rintro e w' ⟨rfl,hg⟩
   replace S0:=Kept.grown _ _ S0 hg
   clear hg
   obtain ⟨c0,c1,c2,c3,G⟩:=id S0
   go_wp2_with fail
   clear c0 c1 c2 c3 G
   refine (pS r (Hx.out.grown (Kept.all _ _ S0)) (Hy.out.grown (Kept.all _ _ S0)) ?_).mono ?_
   ·rw [<- Hr.out];exact (by rw [vE (Int.not_lt.2 hz.out),vE (Int.not_lt.2 hw.out),EJ])
   rintro e w' ⟨rfl,hg⟩
   replace S0:=Kept.grown _ _ S0 hg
   go_wp2_with fail
   go_ret
   exact ⟨rfl,Kept.all _ _ S0⟩
theorem B8 {fn:Func}{a:Act}{W w:World}{r g k B:Nat}{z:Int}{u v x y:Value} (hres:fn.results = #[ResultVar.cell r 51]) (hd:a.defers = []) (hr:a.tmps[r]?=some (.pointer (some ⟨g,0,none⟩)))
  (h0:(set2 w g u v).cell? ⟨g,0,none⟩=some x) (h1:(set2 w g u v).cell? ⟨g,1,none⟩=some y) (hG:W.grownBy (set2 w g u v) none)
  (ho:cD w B (.agg #[u,v]) z) (hB:W.heap.size<=B) (hg:g<B) (hb:Bd z.natAbs k):bodyPost Tryz.prog fn (cZ W z k) .ret a (set2 w g u v):=by
 refine mO hres hd hr (kK h0) (kL h1) ⟨_,rfl,?_,hb,hG⟩
 obtain ⟨p,cap,h2,h3⟩:=ho
 refine ⟨p,cap,h2,?_⟩
 simp only [Value.agg.injEq,Array.mk.injEq,List.cons.injEq,and_true] at h2
 obtain ⟨-,rfl⟩:=h2
 exact ((h3.mono hB).grown (ep _ _ _ _) (own_ne h3 hg))
set_option maxHeartbeats 1000000 in
theorem vI {v u:Value}{X Y i j:Nat}{w:World} (hx:Num w v X i) (hy:Num w u Y j) (hi:i+j<=1000000) :
  Calls Tryz.prog 115 #[v,u] w (cZ w ((X:Int)-Y) (i+j)):=by
 have Hx:=Lib.hid hx
 have Hy:=Lib.hid hy
 have Bx:=Lib.hid (show Bd X (i+j) from hx.bd.more (by omega))
 have By:=Lib.hid (show Bd Y (i+j) from hy.bd.more (by omega))
 have S0:Kept w [] [w.heap.size] (w.alloc (.cells #[.bool false,.slice none 0 0] 51)):=(Kept.start w).res _ _ _ _ _ rfl
 clear hx hy
 by_cases hle:Y<=X
 ·replace hle:=Lib.hid hle
  go_enter Tryz.func115,Tryz.ntmps115
  go_wp2_with fail
  have S1:=S0
  refine (B9 (Hx.out.grown (Kept.all _ _ S0)) (Hy.out.grown (Kept.all _ _ S0)) (by omega) hle.out).mono ?_
  rintro e w' ⟨v,rfl,h,-,hg⟩
  obtain ⟨pv,nv,rfl⟩:=h.slice
  replace S0:=Kept.grown _ _ S0 hg
  clear hg
  go_wp2_with fail
  refine (d9 _ _ _ _ _).mono ?_
  rintro e w' ⟨rfl,hg⟩
  replace S0:=Kept.grown _ _ S0 hg
  replace h:=h.grown hg (.inl rfl)
  clear hg
  obtain ⟨r0,r1,r2,r3,G⟩:=id S0
  go_wp2_with fail
  exact fY (b:=false) Tryz.results115 rfl rfl (cM r0) (cN r1) (Kept.all _ _ (Kept.set _ _ (by simp <;> omega) (by first | omega | (simp <;> omega)) S0)) h S1.size (S1.lt (by simp)) (by have:=hle.out;simp [sg];omega) (Bx.out.le (Nat.sub_le _ _))
 ·replace hle:=Lib.hid (Nat.lt_of_not_le hle)
  go_enter Tryz.func115,Tryz.ntmps115
  go_wp2_with fail
  refine (EM (Hx.out.grown (Kept.all _ _ S0)) (Hy.out.grown (Kept.all _ _ S0)) (by omega) hle.out).mono ?_
  rintro e w' ⟨rfl,hg⟩
  replace S0:=Kept.grown _ _ S0 hg
  clear hg
  go_wp2_with fail
  have S1:=S0
  refine (B9 (Hy.out.grown (Kept.all _ _ S0)) (Hx.out.grown (Kept.all _ _ S0)) (by omega) (Nat.le_of_lt hle.out)).mono ?_
  rintro e w' ⟨v,rfl,h,-,hg⟩
  obtain ⟨pv,nv,rfl⟩:=h.slice
  replace S0:=Kept.grown _ _ S0 hg
  clear hg
  go_wp2_with fail
  refine (d9 _ _ _ _ _).mono ?_
  rintro e w' ⟨rfl,hg⟩
  replace S0:=Kept.grown _ _ S0 hg
  replace h:=h.grown hg (.inl rfl)
  clear hg
  obtain ⟨r0,r1,r2,r3,G⟩:=id S0
  go_wp2_with fail
  exact fY (b:=true) Tryz.results115 rfl rfl (cM r0) (cN r1) (Kept.all _ _ (Kept.set _ _ (by simp <;> omega) (by first | omega | (simp <;> omega)) S0)) h S1.size (S1.lt (by simp)) (by have:=hle.out;simp [sg];omega) (By.out.le (Nat.sub_le _ _))
theorem vJ (b c:Bool) (X Y:Nat):sg (b != c) (X*Y)=sg b X*sg c Y:=by cases b <;> cases c <;> simp [sg,Int.neg_mul,Int.mul_neg]
set_option maxHeartbeats 2000000 in
theorem pW {v u:Value}{z y:Int}{i j:Nat}{w:World} (hx:aj w v z i) (hy:aj w u y j) (hi:i+j<=1000000) :
  Calls Tryz.prog 44 #[v,u] w (cZ w (z*y) (i+j)):=by
 obtain ⟨b,s,X,rfl,hx,rfl⟩:=hx
 obtain ⟨p,n,cap,rfl⟩:=hx.slice
 obtain ⟨b',s',Y,rfl,hy,rfl⟩:=hy
 obtain ⟨q,m,cap',rfl⟩:=hy.slice
 have Hx:=Lib.hid hx
 have Hy:=Lib.hid hy
 have S0:Kept w [(w.heap.size+1,0,.bool b'),(w.heap.size+1,1,.slice q m cap'),(w.heap.size,0,.bool b),(w.heap.size,1,.slice p n cap)] [w.heap.size+1+1] (((w.alloc (.cells #[.bool b,.slice p n cap] 51)).alloc (.cells #[.bool b',.slice q m cap'] 51)).alloc (.cells #[.bool false,.slice none 0 0] 51)):=(((Kept.start w).box _ _ _ _ rfl).box _ _ _ _ (by simp)).res _ _ _ _ _ (by simp)
 clear hx hy
 go_enter Tryz.func44,Tryz.ntmps44
 go_wp2_with fail
 go_region_held3 (fun w'=>w'.cell? ⟨w.heap.size+1,0,none⟩=some (.bool b')∧w'.cell? ⟨w.heap.size+1,1,none⟩=some (.slice q m cap')∧w'.cell? ⟨w.heap.size,0,none⟩=some (.bool b)∧w'.cell? ⟨w.heap.size,1,none⟩=some (.slice p n cap)∧w'.cell? ⟨w.heap.size+1+1,0,none⟩=some (cellOf w' ⟨w.heap.size+1+1,0,none⟩)∧w'.cell? ⟨w.heap.size+1+1,1,none⟩=some (cellOf w' ⟨w.heap.size+1+1,1,none⟩)∧w'.frozen? ⟨w.heap.size+1+1,0,none⟩=false∧w'.frozen? ⟨w.heap.size+1+1,1,none⟩=false∧w.grownBy w' none) (first | exact Kept.step (W:=w) [(w.heap.size+1,0,.bool b'),(w.heap.size+1,1,.slice q m cap'),(w.heap.size,0,.bool b),(w.heap.size,1,.slice p n cap)] [w.heap.size+1+1] (by assumption) (by assumption) | exact Kept.set (W:=w) [(w.heap.size+1,0,.bool b'),(w.heap.size+1,1,.slice q m cap'),(w.heap.size,0,.bool b),(w.heap.size,1,.slice p n cap)] [w.heap.size+1+1] (by simp <;> omega) (by first | omega | (simp <;> omega)) (by assumption) | exact Kept.step [(w.heap.size+1,0,.bool b'),(w.heap.size+1,1,.slice q m cap'),(w.heap.size,0,.bool b),(w.heap.size,1,.slice p n cap)] [w.heap.size+1+1] (ch _ _) S0)
  (first | (go_at_call 96;refine (EN (Hx.out.grown (by go_split_ands;assumption)) (Hy.out.grown (by go_split_ands;assumption)) (by omega)).mono ?_;rintro e w' ⟨v,rfl,h,bd,hg⟩;obtain ⟨pv,nv,rfl⟩:=h.slice) | (go_at_call 95;refine (d9 _ _ _ _ _).mono ?_;rintro e w' ⟨rfl,hg⟩;replace h:=h.grown hg (.inl rfl)))
 rename_i hend
 go_wp2_with fail
 exact fY Tryz.results44 rfl rfl hend.2.2.2.2.1 hend.2.2.2.2.2.1 hend.2.2.2.2.2.2.2.2 h (by first | omega | (simp <;> omega)) (by first | omega | (simp <;> omega)) (vJ _ _ _ _) bd
theorem vK (b:Bool) (X Y:Nat):sg b (X+Y)=sg b X+sg b Y:=by cases b <;> simp [sg] <;> omega
set_option maxHeartbeats 2000000 in
theorem vL {b:Bool}{s s':Value}{X Y i j:Nat}{w:World} (hx:Num w s X i) (hy:Num w s' Y j) (hi:i+j<=1000000) :
  Calls Tryz.prog 67 #[.agg #[.bool b,s],.agg #[.bool b,s']] w (cZ w (sg b X+sg b Y) (i+j+1)):=by
 obtain ⟨p,n,cap,rfl⟩:=hx.slice
 obtain ⟨q,m,cap',rfl⟩:=hy.slice
 have Hx:=Lib.hid hx
 have Hy:=Lib.hid hy
 have S0:Kept w [(w.heap.size+1,0,.bool b),(w.heap.size+1,1,.slice q m cap'),(w.heap.size,0,.bool b),(w.heap.size,1,.slice p n cap)] [w.heap.size+1+1] (((w.alloc (.cells #[.bool b,.slice p n cap] 51)).alloc (.cells #[.bool b,.slice q m cap'] 51)).alloc (.cells #[.bool false,.slice none 0 0] 51)):=(((Kept.start w).box _ _ _ _ rfl).box _ _ _ _ (by simp)).res _ _ _ _ _ (by simp)
 clear hx hy
 go_enter Tryz.func67,Tryz.ntmps67
 obtain ⟨c0,c1,c2,c3,r0,r1,r2,r3,G⟩:=id S0
 go_wp2_with fail
 go_region_held3 (fun w'=>w'.cell? ⟨w.heap.size+1,0,none⟩=some (.bool b)∧w'.cell? ⟨w.heap.size+1,1,none⟩=some (.slice q m cap')∧w'.cell? ⟨w.heap.size,0,none⟩=some (.bool b)∧w'.cell? ⟨w.heap.size,1,none⟩=some (.slice p n cap)∧w'.cell? ⟨w.heap.size+1+1,0,none⟩=some (cellOf w' ⟨w.heap.size+1+1,0,none⟩)∧w'.cell? ⟨w.heap.size+1+1,1,none⟩=some (cellOf w' ⟨w.heap.size+1+1,1,none⟩)∧w'.frozen? ⟨w.heap.size+1+1,0,none⟩=false∧w'.frozen? ⟨w.heap.size+1+1,1,none⟩=false∧w.grownBy w' none) (first | exact Kept.step (W:=w) [(w.heap.size+1,0,.bool b),(w.heap.size+1,1,.slice q m cap'),(w.heap.size,0,.bool b),(w.heap.size,1,.slice p n cap)] [w.heap.size+1+1] (by assumption) (by assumption) | exact Kept.set (W:=w) [(w.heap.size+1,0,.bool b),(w.heap.size+1,1,.slice q m cap'),(w.heap.size,0,.bool b),(w.heap.size,1,.slice p n cap)] [w.heap.size+1+1] (by simp <;> omega) (by first | omega | (simp <;> omega)) (by assumption) | exact Kept.step [(w.heap.size+1,0,.bool b),(w.heap.size+1,1,.slice q m cap'),(w.heap.size,0,.bool b),(w.heap.size,1,.slice p n cap)] [w.heap.size+1+1] (ch _ _) S0)
  (first | (go_at_call 114;refine (vM (Hx.out.grown (by go_split_ands;assumption)) (Hy.out.grown (by go_split_ands;assumption)) (by omega)).mono ?_;rintro e w' ⟨v,rfl,h,bd,hg⟩;obtain ⟨pv,nv,rfl⟩:=h.slice) | (go_at_call 95;refine (d9 _ _ _ _ _).mono ?_;rintro e w' ⟨rfl,hg⟩;replace h:=h.grown hg (.inl rfl)))
 rename_i hend
 go_wp2_with fail
 exact fY Tryz.results67 rfl rfl hend.2.2.2.2.1 hend.2.2.2.2.2.1 hend.2.2.2.2.2.2.2.2 h (by first | omega | (simp <;> omega)) (by first | omega | (simp <;> omega)) (vK _ _ _) bd
set_option maxHeartbeats 2000000 in
theorem EO {s s':Value}{X Y i j:Nat}{w:World} (hx:Num w s X i) (hy:Num w s' Y j) (hi:i+j<=1000000) :
  Calls Tryz.prog 67 #[.agg #[.bool true,s],.agg #[.bool false,s']] w (cZ w ((Y:Int)-X) (j+i)):=by
 obtain ⟨p,n,cap,rfl⟩:=hx.slice
 obtain ⟨q,m,cap',rfl⟩:=hy.slice
 have Hx:=Lib.hid hx
 have Hy:=Lib.hid hy
 have S0:Kept w [(w.heap.size+1,0,.bool false),(w.heap.size+1,1,.slice q m cap'),(w.heap.size,0,.bool true),(w.heap.size,1,.slice p n cap)] [w.heap.size+1+1] (((w.alloc (.cells #[.bool true,.slice p n cap] 51)).alloc (.cells #[.bool false,.slice q m cap'] 51)).alloc (.cells #[.bool false,.slice none 0 0] 51)):=(((Kept.start w).box _ _ _ _ rfl).box _ _ _ _ (by simp)).res _ _ _ _ _ (by simp)
 clear hx hy
 go_enter Tryz.func67,Tryz.ntmps67
 go_wp2_with fail
 refine (vI (Hy.out.grown (Kept.all _ _ S0)) (Hx.out.grown (Kept.all _ _ S0)) (by omega)).mono ?_
 rintro e w' ⟨v,rfl,ho,bd,hg⟩
 obtain ⟨pv,nv,rfl,ho2⟩:=id ho
 clear ho2
 have S1:=S0
 replace S0:=Kept.grown _ _ S0 hg
 clear hg
 obtain ⟨c0,c1,c2,c3,r0,r1,r2,r3,G⟩:=id S0
 go_wp2_with fail
 exact B8 Tryz.results67 rfl rfl (cM r0) (cN r1) (Kept.all _ _ (Kept.set _ _ (by simp <;> omega) (by first | omega | (simp <;> omega)) S0)) ho S1.size (S1.lt (by simp)) bd
set_option maxHeartbeats 2000000 in
theorem EP {s s':Value}{X Y i j:Nat}{w:World} (hx:Num w s X i) (hy:Num w s' Y j) (hi:i+j<=1000000) :
  Calls Tryz.prog 67 #[.agg #[.bool false,s],.agg #[.bool true,s']] w (cZ w ((X:Int)-Y) (i+j)):=by
 obtain ⟨p,n,cap,rfl⟩:=hx.slice
 obtain ⟨q,m,cap',rfl⟩:=hy.slice
 have Hx:=Lib.hid hx
 have Hy:=Lib.hid hy
 have S0:Kept w [(w.heap.size+1,0,.bool true),(w.heap.size+1,1,.slice q m cap'),(w.heap.size,0,.bool false),(w.heap.size,1,.slice p n cap)] [w.heap.size+1+1] (((w.alloc (.cells #[.bool false,.slice p n cap] 51)).alloc (.cells #[.bool true,.slice q m cap'] 51)).alloc (.cells #[.bool false,.slice none 0 0] 51)):=(((Kept.start w).box _ _ _ _ rfl).box _ _ _ _ (by simp)).res _ _ _ _ _ (by simp)
 clear hx hy
 go_enter Tryz.func67,Tryz.ntmps67
 go_wp2_with fail
 refine (vI (Hx.out.grown (Kept.all _ _ S0)) (Hy.out.grown (Kept.all _ _ S0)) (by omega)).mono ?_
 rintro e w' ⟨v,rfl,ho,bd,hg⟩
 obtain ⟨pv,nv,rfl,ho2⟩:=id ho
 clear ho2
 have S1:=S0
 replace S0:=Kept.grown _ _ S0 hg
 clear hg
 obtain ⟨c0,c1,c2,c3,r0,r1,r2,r3,G⟩:=id S0
 go_wp2_with fail
 exact B8 Tryz.results67 rfl rfl (cM r0) (cN r1) (Kept.all _ _ (Kept.set _ _ (by simp <;> omega) (by first | omega | (simp <;> omega)) S0)) ho S1.size (S1.lt (by simp)) bd
theorem cZ.of {w w':World}{z y:Int}{k l:Nat}{e:Ending} (h:cZ w z k e w') (hz:z=y) (hk:k<=l):cZ w y l e w':=by
 subst hz
 obtain ⟨v,h1,h2,h3,h4⟩:=h
 exact ⟨v,h1,h2,h3.more hk,h4⟩
theorem Eo {v u:Value}{z y:Int}{i j:Nat}{w:World} (hx:aj w v z i) (hy:aj w u y j) (hi:i+j<=1000000) :
  Calls Tryz.prog 67 #[v,u] w (cZ w (z+y) (i+j+1)):=by
 obtain ⟨b,s,X,rfl,hx,rfl⟩:=hx
 obtain ⟨b',s',Y,rfl,hy,rfl⟩:=hy
 cases b <;> cases b'
 ·exact (vL hx hy hi).mono fun _ _ h=>h
 ·exact (EP hx hy hi).mono fun _ _ h=>h.of (by simp [sg];omega) (by omega)
 ·exact (EO hx hy hi).mono fun _ _ h=>h.of (by simp [sg];omega) (by omega)
 ·exact (vL hx hy hi).mono fun _ _ h=>h
theorem EQ {b:Bool}{p:Option Addr}{n cap:Nat}{w:World} :
  Calls Tryz.prog 94 #[.agg #[.bool b,.slice p n cap]] w fun e w'=>e = .returned (.bool (decide (n=0)))∧w.grownBy w' none:=by
 go_enter Tryz.func94,Tryz.ntmps94
 go_wp2_with fail
 go_ret
 refine ⟨?_,aF _ _ _⟩
 have e:((n:Int) == 0)=decide (n=0):=by
  rw [Bool.eq_iff_iff]
  simp
 rw [e]
 rfl
theorem vN {z y q r:Int} (hy:y≠0) (he:z=y*q+r) (h0:0<=r) (h1:r<y.natAbs):z / y=q∧z % y=r:=by
 rcases Int.lt_or_gt_of_ne hy with h | h
 ·have:=(Int.ediv_emod_unique (a:=z) (b:=-y) (r:=r) (q:=-q) (by omega)).2 ⟨by rw [he,Int.neg_mul_neg];omega,h0,by omega⟩
  rw [Int.ediv_neg,Int.emod_neg] at this
  omega
 ·exact (Int.ediv_emod_unique (by omega)).2 ⟨by rw [he];omega,h0,by omega⟩
theorem Cf {b b':Bool}{X Y:Nat} (hY:Y≠0) (h:b=false∨X % Y=0):sg b X / sg b' Y=sg (b != b') (X / Y)∧sg b X % sg b' Y=((X % Y:Nat):Int):=by
 have e:=Nat.div_add_mod X Y
 have l:=Nat.mod_lt X (Nat.pos_of_ne_zero hY)
 refine vN (by cases b' <;> simp [sg] <;> omega) ?_ (by omega) (by rw [cC];omega)
 have e2:(X:Int)=(Y:Int)*((X / Y:Nat):Int)+((X % Y:Nat):Int):=by rw [<- Int.natCast_mul];omega
 rcases h with rfl | h
 ·generalize ((X % Y:Nat):Int)=r at *
  generalize X / Y=q at *
  cases b' <;> simp only [sg] <;> grind
 ·have h':((X % Y:Nat):Int)=0:=by omega
  rw [h'] at e2 ⊢
  generalize X / Y=q at *
  cases b <;> cases b' <;> simp only [sg] <;> grind
theorem ER {b':Bool}{X Y:Nat} (hY:Y≠0) (h:X % Y≠0):sg true X / sg b' Y=sg (true != b') (X / Y+1)∧sg true X % sg b' Y=((Y-X % Y:Nat):Int):=by
 have e:=Nat.div_add_mod X Y
 have l:=Nat.mod_lt X (Nat.pos_of_ne_zero hY)
 refine vN (by cases b' <;> simp [sg] <;> omega) ?_ (by omega) (by rw [cC];omega)
 have e2:(X:Int)=(Y:Int)*((X / Y:Nat):Int)+((X % Y:Nat):Int):=by rw [<- Int.natCast_mul];omega
 have e3:((Y-X % Y:Nat):Int)=(Y:Int)-((X % Y:Nat):Int):=by omega
 have e4:((X / Y+1:Nat):Int)=((X / Y:Nat):Int)+1:=by omega
 rw [e3]
 generalize ((X % Y:Nat):Int)=r at *
 generalize X / Y=q at *
 cases b' <;> simp only [sg] <;> simp only [e4] <;> grind
def gF (w:World) (q r:Int) (i j:Nat) (e:Ending) (w':World):Prop:=
 ∃v u,e = .returned (.tuple #[v,u,.int .i64 0])∧cD w' w.heap.size v q∧cD w' w.heap.size u r∧Bd q.natAbs i∧Bd r.natAbs j∧w.grownBy w' none
theorem p7 {fn:Func}{R:Ending->World->Prop}{a:Act}{w:World}{r g r' g' s:Nat}{x y x' y' v:Value} (hres:fn.results = #[ResultVar.cell r 51,ResultVar.cell r' 51,ResultVar.tmp s]) (hd:a.defers = [])
  (hr:a.tmps[r]?=some (.pointer (some ⟨g,0,none⟩))) (hr':a.tmps[r']?=some (.pointer (some ⟨g',0,none⟩))) (hs:a.tmps[s]?=some v)
  (c0:w.cell? ⟨g,0,none⟩=some x) (c1:w.cell? ⟨g,1,none⟩=some y) (d0:w.cell? ⟨g',0,none⟩=some x') (d1:w.cell? ⟨g',1,none⟩=some y') (h:R (.returned (.tuple #[.agg #[x,y],.agg #[x',y'],v])) w):bodyPost Tryz.prog fn R .ret a w:=by
 simp [bodyPost,results,hres,hr,hr',hs,c0,c1,d0,d1,go_sem,h,hd]
theorem ES {fn:Func}{R:Ending->World->Prop}{a:Act}{w:World}{r g s:Nat}{x y v:Value} (hres:fn.results = #[ResultVar.cell r 51,ResultVar.tmp s]) (hd:a.defers = [])
  (hr:a.tmps[r]?=some (.pointer (some ⟨g,0,none⟩))) (hs:a.tmps[s]?=some v)
  (c0:w.cell? ⟨g,0,none⟩=some x) (c1:w.cell? ⟨g,1,none⟩=some y) (h:R (.returned (.tuple #[.agg #[x,y],v])) w):bodyPost Tryz.prog fn R .ret a w:=by
 simp [bodyPost,results,hres,hr,hs,c0,c1,go_sem,h,hd]
theorem p8 {W w:World}{g g' B B' cap cap' X Y i j n n':Nat}{b b':Bool}{p p':Option Addr} (hn:(af 4294967296 X).length=n) (hn':(af 4294967296 Y).length=n')
  (hx:Own w 152 .u32 B (.slice p n cap) (af 4294967296 X)) (hy:Own w 152 .u32 B' (.slice p' n' cap') (af 4294967296 Y))
  (hB:W.heap.size<=B) (hB':W.heap.size<=B') (h1:g<B) (h2:g'<B) (h3:g<B') (h4:g'<B'){q r:Int} (hq:q=sg b X) (hr:r=sg b' Y) (bx:Bd X i) (yb:Bd Y j)
  (hG:W.grownBy (set2 (set2 w g (.bool (b && decide (0<n))) (.slice p n cap)) g' (.bool (b' && decide (0<n'))) (.slice p' n' cap')) none) :
  gF W q r i j (.returned (.tuple #[.agg #[.bool (b && decide (0<n)),.slice p n cap],.agg #[.bool (b' && decide (0<n')),.slice p' n' cap'],.int .i64 0]))
   (set2 (set2 w g (.bool (b && decide (0<n))) (.slice p n cap)) g' (.bool (b' && decide (0<n'))) (.slice p' n' cap')):=by
 subst hq hr hn hn'
 refine ⟨_,_,rfl,⟨p,cap,?_,?_⟩,⟨p',cap',?_,?_⟩,by rw [cC];exact bx,by rw [cC];exact yb,hG⟩
 ·rw [jl,cC,iw _ _ (by omega)]
 ·rw [cC]
  exact (((hx.mono hB).grown (ep _ _ _ _) (own_ne hx h1)).grown (ep _ _ _ _) (own_ne hx h2))
 ·rw [jl,cC,iw _ _ (by omega)]
 ·rw [cC]
  exact (((hy.mono hB').grown (ep _ _ _ _) (own_ne hy h3)).grown (ep _ _ _ _) (own_ne hy h4))
set_option maxHeartbeats 2000000 in
theorem ET {b':Bool}{s s':Value}{X Y i j:Nat}{w:World} (hx:Num w s X i) (hy:Num w s' Y j) (hi:i+j<=900000) (hY:Y≠0) :
  Calls Tryz.prog 165 #[.agg #[.bool false,s],.agg #[.bool b',s']] w (gF w (sg false X / sg b' Y) (sg false X % sg b' Y) (i+1) j):=by
 obtain ⟨p,n,cap,rfl⟩:=hx.slice
 obtain ⟨q,m,cap',rfl⟩:=hy.slice
 have Hx:=Lib.hid hx
 have Hy:=Lib.hid hy
 have D:=Lib.hid (show sg false X / sg b' Y=sg b' (X / Y)∧sg false X % sg b' Y=((X % Y:Nat):Int) by simpa using Cf (b:=false) (b':=b') (X:=X) hY (.inl rfl))
 have S0:Kept w [(w.heap.size+1,0,.bool b'),(w.heap.size+1,1,.slice q m cap'),(w.heap.size,0,.bool false),(w.heap.size,1,.slice p n cap)] [w.heap.size+1+1+1,w.heap.size+1+1] ((((w.alloc (.cells #[.bool false,.slice p n cap] 51)).alloc (.cells #[.bool b',.slice q m cap'] 51)).alloc (.cells #[.bool false,.slice none 0 0] 51)).alloc (.cells #[.bool false,.slice none 0 0] 51)):=((((Kept.start w).box _ _ _ _ rfl).box _ _ _ _ (by simp)).res _ _ _ _ _ (by simp)).res _ _ _ _ _ (by simp)
 clear hx hy
 go_enter Tryz.func165,Tryz.ntmps165
 go_wp2_with fail
 have S1:=S0
 refine (mK (Hx.out.grown (Kept.all _ _ S0)) (Hy.out.grown (Kept.all _ _ S0)) (by omega) hY).mono ?_
 rintro e w' ⟨v,u,rfl,hq,hr,-,bq,br,hg⟩
 obtain ⟨pv,nv,rfl⟩:=hq.slice
 obtain ⟨pu,nu,rfl⟩:=hr.slice
 have Sq:=S1.size
 have gG:=S1.lt (g:=w.heap.size+1+1) (by simp)
 have gH:=S1.lt (g:=w.heap.size+1+1+1) (by simp)
 replace S0:=Kept.grown _ _ S0 hg
 clear hg
 have Sr:=Sq
 have kM:=gG
 have Lr2:=gH
 obtain ⟨c0,c1,c2,c3,r0,r1,r2,r3,r4,r5,r6,r7,G⟩:=id S0
 go_wp2_with fail
 refine (d9 _ _ _ _ _).mono ?_
 rintro e w' ⟨rfl,hg⟩
 replace S0:=Kept.grown _ _ S0 hg
 replace hq:=hq.grown hg (.inl rfl)
 replace hr:=hr.grown hg (.inl rfl)
 clear hg
 go_wp2_with fail
 refine (d9 _ _ _ _ _).mono ?_
 rintro e w' ⟨rfl,hg⟩
 replace S0:=Kept.grown _ _ S0 hg
 replace hq:=hq.grown hg (.inl rfl)
 replace hr:=hr.grown hg (.inl rfl)
 clear hg
 obtain ⟨c0,c1,c2,c3,r0,r1,r2,r3,r4,r5,r6,r7,G⟩:=id S0
 go_wp2_with fail
 refine p7 Tryz.results165 rfl rfl rfl rfl (fz (cM r4) (by simp)) (fz (cN r5) (by simp)) (cM (gE (.inl rfl) r0)) (cN (gE (.inr rfl) r1)) ?_
 exact p8 (b':=false) rfl rfl hq hr Sq Sr gG gH kM Lr2 D.out.1 D.out.2 (bq.more (by omega)) br (Kept.all _ _ (Kept.set _ _ (by simp <;> omega) (by first | omega | (simp <;> omega)) (Kept.set _ _ (by simp <;> omega) (by first | omega | (simp <;> omega)) S0)))
set_option maxHeartbeats 2000000 in
theorem EU {b':Bool}{s s':Value}{X Y i j:Nat}{w:World} (hx:Num w s X i) (hy:Num w s' Y j) (hi:i+j<=900000) (hY:Y≠0) (hR:X % Y=0) :
  Calls Tryz.prog 165 #[.agg #[.bool true,s],.agg #[.bool b',s']] w (gF w (sg true X / sg b' Y) (sg true X % sg b' Y) (i+1) j):=by
 obtain ⟨p,n,cap,rfl⟩:=hx.slice
 obtain ⟨q,m,cap',rfl⟩:=hy.slice
 have Hx:=Lib.hid hx
 have Hy:=Lib.hid hy
 have D:=Lib.hid (show sg true X / sg b' Y=sg (!b') (X / Y)∧sg true X % sg b' Y=((X % Y:Nat):Int) by simpa using Cf (b:=true) (b':=b') (X:=X) hY (.inr hR))
 have H0:=Lib.hid (show (af 4294967296 (X % Y)).length=0 from (o6 (by omega)).2 hR)
 have S0:Kept w [(w.heap.size+1,0,.bool b'),(w.heap.size+1,1,.slice q m cap'),(w.heap.size,0,.bool true),(w.heap.size,1,.slice p n cap)] [w.heap.size+1+1+1,w.heap.size+1+1] ((((w.alloc (.cells #[.bool true,.slice p n cap] 51)).alloc (.cells #[.bool b',.slice q m cap'] 51)).alloc (.cells #[.bool false,.slice none 0 0] 51)).alloc (.cells #[.bool false,.slice none 0 0] 51)):=((((Kept.start w).box _ _ _ _ rfl).box _ _ _ _ (by simp)).res _ _ _ _ _ (by simp)).res _ _ _ _ _ (by simp)
 clear hx hy
 go_enter Tryz.func165,Tryz.ntmps165
 go_wp2_with fail
 have S1:=S0
 refine (mK (Hx.out.grown (Kept.all _ _ S0)) (Hy.out.grown (Kept.all _ _ S0)) (by omega) hY).mono ?_
 rintro e w' ⟨v,u,rfl,hq,hr,-,bq,br,hg⟩
 obtain ⟨pv,nv,rfl⟩:=hq.slice
 obtain ⟨pu,nu,rfl⟩:=hr.slice
 have Sq:=S1.size
 have gG:=S1.lt (g:=w.heap.size+1+1) (by simp)
 have gH:=S1.lt (g:=w.heap.size+1+1+1) (by simp)
 replace S0:=Kept.grown _ _ S0 hg
 clear hg
 have Sr:=Sq
 have kM:=gG
 have Lr2:=gH
 obtain ⟨c0,c1,c2,c3,r0,r1,r2,r3,r4,r5,r6,r7,G⟩:=id S0
 rw [H0.out] at hr ⊢
 go_wp2_with fail
 refine (d9 _ _ _ _ _).mono ?_
 rintro e w' ⟨rfl,hg⟩
 replace S0:=Kept.grown _ _ S0 hg
 replace hq:=hq.grown hg (.inl rfl)
 replace hr:=hr.grown hg (.inl rfl)
 clear hg
 go_wp2_with fail
 refine (d9 _ _ _ _ _).mono ?_
 rintro e w' ⟨rfl,hg⟩
 replace S0:=Kept.grown _ _ S0 hg
 replace hq:=hq.grown hg (.inl rfl)
 replace hr:=hr.grown hg (.inl rfl)
 clear hg
 obtain ⟨c0,c1,c2,c3,r0,r1,r2,r3,r4,r5,r6,r7,G⟩:=id S0
 go_wp2_with fail
 refine p7 Tryz.results165 rfl rfl rfl rfl (fz (cM r4) (by simp)) (fz (cN r5) (by simp)) (cM (gE (.inl rfl) r0)) (cN (gE (.inr rfl) r1)) ?_
 exact p8 (b':=false) rfl H0.out hq hr Sq Sr gG gH kM Lr2 D.out.1 D.out.2 (bq.more (by omega)) br (Kept.all _ _ (Kept.set _ _ (by simp <;> omega) (by first | omega | (simp <;> omega)) (Kept.set _ _ (by simp <;> omega) (by first | omega | (simp <;> omega)) S0)))
set_option maxHeartbeats 2000000 in
theorem EV {b':Bool}{s s':Value}{X Y i j:Nat}{w:World} (hx:Num w s X i) (hy:Num w s' Y j) (hi:i+j<=900000) (hY:Y≠0) (hR:X % Y≠0) :
  Calls Tryz.prog 165 #[.agg #[.bool true,s],.agg #[.bool b',s']] w (gF w (sg true X / sg b' Y) (sg true X % sg b' Y) (i+1+1) j):=by
 obtain ⟨p,n,cap,rfl⟩:=hx.slice
 obtain ⟨q,m,cap',rfl⟩:=hy.slice
 have Hx:=Lib.hid hx
 have Hy:=Lib.hid hy
 have D:=Lib.hid (show sg true X / sg b' Y=sg (!b') (X / Y+1)∧sg true X % sg b' Y=((Y-X % Y:Nat):Int) by simpa using ER (b':=b') (X:=X) hY hR)
 have L0:0<(af 4294967296 (X % Y)).length:=by have:=(o6 (b:=4294967296) (by omega) (n:=X % Y)).1;omega
 have Le:=Lib.hid (Nat.le_of_lt (Nat.mod_lt X (Nat.pos_of_ne_zero hY)))
 have S0:Kept w [(w.heap.size+1,0,.bool b'),(w.heap.size+1,1,.slice q m cap'),(w.heap.size,0,.bool true),(w.heap.size,1,.slice p n cap)] [w.heap.size+1+1+1,w.heap.size+1+1] ((((w.alloc (.cells #[.bool true,.slice p n cap] 51)).alloc (.cells #[.bool b',.slice q m cap'] 51)).alloc (.cells #[.bool false,.slice none 0 0] 51)).alloc (.cells #[.bool false,.slice none 0 0] 51)):=((((Kept.start w).box _ _ _ _ rfl).box _ _ _ _ (by simp)).res _ _ _ _ _ (by simp)).res _ _ _ _ _ (by simp)
 clear hx hy
 go_enter Tryz.func165,Tryz.ntmps165
 go_wp2_with fail
 have S1:=S0
 refine (mK (Hx.out.grown (Kept.all _ _ S0)) (Hy.out.grown (Kept.all _ _ S0)) (by omega) hY).mono ?_
 rintro e w' ⟨v,u,rfl,hq,hr,-,bq,br,hg⟩
 obtain ⟨pv,nv,rfl⟩:=hq.slice
 obtain ⟨pu,nu,rfl⟩:=hr.slice
 have Sq:=S1.size
 have gG:=S1.lt (g:=w.heap.size+1+1) (by simp)
 have gH:=S1.lt (g:=w.heap.size+1+1+1) (by simp)
 replace S0:=Kept.grown _ _ S0 hg
 clear hg
 obtain ⟨c0,c1,c2,c3,r0,r1,r2,r3,r4,r5,r6,r7,G⟩:=id S0
 have L0':(0:Int)<(((af 4294967296 (X % Y)).length:Nat):Int):=by omega
 go_wp2_with fail
 have S3:=S0
 have Nq:=(show eO _ _ _ _ from ⟨hq.sl,bq⟩).num
 refine (vM (Nq.grown (aF _ _ _)) (Num.one _) (by omega)).mono ?_
 clear Nq
 rintro e w' ⟨v,rfl,h,EW,hg⟩
 replace hg:=aE (aF _ _ _) hg
 obtain ⟨pv1,P2,rfl⟩:=h.slice
 have Nr:=(show eO _ _ _ _ from ⟨hr.sl,br⟩).num.grown hg
 replace Sq:=Nat.le_trans S3.size (aF _ (.cells #[.int .u32 1] 152) none).size
 replace gG:=Nat.lt_of_lt_of_le (S3.lt (g:=w.heap.size+1+1) (by simp)) (aF _ (.cells #[.int .u32 1] 152) none).size
 replace gH:=Nat.lt_of_lt_of_le (S3.lt (g:=w.heap.size+1+1+1) (by simp)) (aF _ (.cells #[.int .u32 1] 152) none).size
 replace S0:=Kept.grown _ _ S0 hg
 clear hg hq hr
 have hq:=h
 clear h
 clear c0 c1 c2 c3 r0 r1 r2 r3 r4 r5 r6 r7 G
 obtain ⟨c0,c1,c2,c3,r0,r1,r2,r3,r4,r5,r6,r7,G⟩:=id S0
 go_wp2_with fail
 refine (B9 (Hy.out.grown (Kept.all _ _ S0)) Nr (by omega) Le.out).mono ?_
 rintro e w' ⟨v,rfl,hr,br,hg⟩
 obtain ⟨pv2,nv2,rfl⟩:=hr.slice
 have Sr:=S0.size
 have kM:=S0.lt (g:=w.heap.size+1+1) (by simp)
 have Lr2:=S0.lt (g:=w.heap.size+1+1+1) (by simp)
 replace S0:=Kept.grown _ _ S0 hg
 replace hq:=hq.grown hg (.inl rfl)
 clear hg
 clear c0 c1 c2 c3 r0 r1 r2 r3 r4 r5 r6 r7 G
 obtain ⟨c0,c1,c2,c3,r0,r1,r2,r3,r4,r5,r6,r7,G⟩:=id S0
 go_wp2_with fail
 refine (d9 _ _ _ _ _).mono ?_
 rintro e w' ⟨rfl,hg⟩
 replace S0:=Kept.grown _ _ S0 hg
 replace hq:=hq.grown hg (.inl rfl)
 replace hr:=hr.grown hg (.inl rfl)
 clear hg
 go_wp2_with fail
 refine (d9 _ _ _ _ _).mono ?_
 rintro e w' ⟨rfl,hg⟩
 replace S0:=Kept.grown _ _ S0 hg
 replace hq:=hq.grown hg (.inl rfl)
 replace hr:=hr.grown hg (.inl rfl)
 clear hg
 obtain ⟨c0,c1,c2,c3,r0,r1,r2,r3,r4,r5,r6,r7,G⟩:=id S0
 go_wp2_with fail
 refine p7 Tryz.results165 rfl rfl rfl rfl (fz (cM r4) (by simp)) (fz (cN r5) (by simp)) (cM (gE (.inl rfl) r0)) (cN (gE (.inr rfl) r1)) ?_
 exact p8 (b':=false) rfl rfl hq hr Sq Sr gG gH kM Lr2 D.out.1 D.out.2 EW br (Kept.all _ _ (Kept.set _ _ (by simp <;> omega) (by first | omega | (simp <;> omega)) (Kept.set _ _ (by simp <;> omega) (by first | omega | (simp <;> omega)) S0)))
theorem gF.of {w w':World}{q r q' r':Int}{i j i' j':Nat}{e:Ending} (h:gF w q r i j e w') (h1:q=q') (h2:r=r') (hi:i<=i') (hj:j<=j'):gF w q' r' i' j' e w':=by
 subst h1 h2
 obtain ⟨v,u,a1,a2,a3,a4,a5,a6⟩:=h
 exact ⟨v,u,a1,a2,a3,a4.more hi,a5.more hj,a6⟩
theorem EX {v u:Value}{z y:Int}{i j:Nat}{w:World} (hx:aj w v z i) (hy:aj w u y j) (hi:i+j<=900000) (h0:y≠0) :
  Calls Tryz.prog 165 #[v,u] w (gF w (z / y) (z % y) (i+2) j):=by
 obtain ⟨b,s,X,rfl,hx,rfl⟩:=hx
 obtain ⟨b',s',Y,rfl,hy,rfl⟩:=hy
 have hY:Y≠0:=by rintro rfl;exact h0 (by cases b' <;> rfl)
 cases b
 ·exact (ET hx hy hi hY).mono fun _ _ h=>h.of rfl rfl (by omega) (by omega)
 ·by_cases hR:X % Y=0
  ·exact (EU hx hy hi hY hR).mono fun _ _ h=>h.of rfl rfl (by omega) (by omega)
  ·exact (EV hx hy hi hY hR).mono fun _ _ h=>h.of rfl rfl (by omega) (by omega)
set_option maxHeartbeats 2000000 in
theorem Eu {v u:Value}{z y:Int}{i j:Nat}{w:World} (hx:aj w v z i) (hy:aj w u y j) (hi:i+j<=900000) (h0:y≠0∧z % y=0) :
  Calls Tryz.prog 128 #[v,u] w (fun e w'=>∃v,e = .returned (.tuple #[v,.int .i64 0])∧cD w' w.heap.size v (z / y)∧Bd (z / y).natAbs (i+2)∧w.grownBy w' none):=by
 have Vx:=Lib.hid hx
 have Vy:=Lib.hid hy
 have H0:=Lib.hid h0
 obtain ⟨b,s,X,rfl,hx,rfl⟩:=hx
 obtain ⟨p,n,cap,rfl⟩:=hx.slice
 obtain ⟨b',s',Y,rfl,hy,rfl⟩:=hy
 obtain ⟨q,m,cap',rfl⟩:=hy.slice
 have Hx:=Lib.hid hx
 have Hy:=Lib.hid hy
 have S0:Kept w [(w.heap.size+1,0,.bool b'),(w.heap.size+1,1,.slice q m cap'),(w.heap.size,0,.bool b),(w.heap.size,1,.slice p n cap)] [w.heap.size+1+1] (((w.alloc (.cells #[.bool b,.slice p n cap] 51)).alloc (.cells #[.bool b',.slice q m cap'] 51)).alloc (.cells #[.bool false,.slice none 0 0] 51)):=(((Kept.start w).box _ _ _ _ rfl).box _ _ _ _ (by simp)).res _ _ _ _ _ (by simp)
 clear hx hy Hx Hy h0
 go_enter Tryz.func128,Tryz.ntmps128
 go_wp2_with fail
 have S1:=S0
 refine (EX (Vx.out.grown (Kept.all _ _ S0)) (Vy.out.grown (Kept.all _ _ S0)) hi H0.out.1).mono ?_
 rintro e w1 ⟨v,u,rfl,hq,hr,bq,br,hg⟩
 obtain ⟨pv,nv,rfl,hq2⟩:=id hq
 obtain ⟨pu,nu,rfl,hr2⟩:=id hr
 replace S0:=((Kept.grown _ _ S0 hg).box w1.heap.size (.bool (decide (sg b X / sg b' Y<0))) (.slice pv (af 4294967296 (sg b X / sg b' Y).natAbs).length nv) 51 rfl).grown _ _ (aF _ (.cells #[.bool (decide (sg b X % sg b' Y<0)),.slice pu (af 4294967296 (sg b X % sg b' Y).natAbs).length nu] 51) none)
 clear hq2 hr2
 obtain ⟨q0,q1,c0,c1,c2,c3,r0,r1,r2,r3,G⟩:=id S0
 go_wp2_with fail
 refine EQ.mono ?_
 rintro e w2 ⟨rfl,hg2⟩
 have dz:decide ((af 4294967296 (sg b X % sg b' Y).natAbs).length=0)=decide (sg b X % sg b' Y=0):=by
  have:=o6 (b:=4294967296) (by omega) (n:=(sg b X % sg b' Y).natAbs)
  exact decide_eq_decide.2 ⟨fun h=>by omega,fun h=>by omega⟩
 rw [dz]
 have Gq:=Lib.hid (show (cD w2 _ _ _) from (hq.grown (aE (aF _ _ _) (aF _ _ _))).grown hg2)
 replace S0:=S0.grown _ _ hg2
 have hg1:=hg
 clear dz q0 q1 c0 c1 c2 c3 r0 r1 r2 r3 G hg hg2 hq hr
 obtain ⟨q0,q1,c0,c1,c2,c3,r0,r1,r2,r3,G⟩:=id S0
 have dt:decide (sg b X % sg b' Y=0)=true:=decide_eq_true H0.out.2
 rw [dt]
 go_wp2_with fail
 have hB:=S1.size
 have hL:=S1.lt (g:=w.heap.size+1+1) (by simp)
 refine ES Tryz.results128 rfl rfl rfl (cM r0) (cN r1) ⟨_,rfl,?_,bq,Kept.all _ _ (Kept.set _ _ ?_ (by first | omega | (simp <;> omega)) S0)⟩
 ·obtain ⟨p',cap',h1,h2⟩:=Gq.out
  simp only [Value.agg.injEq,Array.mk.injEq,List.cons.injEq,and_true] at h1
  obtain ⟨-,h1⟩:=h1
  refine ⟨p',cap',by rw [h1],?_⟩
  exact (h2.mono hB).grown (ep _ _ _ _) (own_ne h2 hL)
 ·have hL2:=Nat.lt_of_lt_of_le hL hg1.size
  simp <;> omega
theorem Num.two (w:World) (x y:Nat) (hx:x<4294967296) (hy:y<4294967296):Num (w.alloc (.cells #[.int .u32 x,.int .u32 y] 152)) (.slice (some ⟨w.heap.size,0,none⟩) 2 2) (x+4294967296*y) 2:=by
 refine ⟨[x,y],⟨_,2,rfl,Nat.le_refl _,by omega,.inr ⟨w.heap.size,0,rfl,by simp,fun j hj=>?_⟩⟩,All.cons hx (All.cons hy (All.nil _)),by simp [val],Nat.le_refl _⟩
 have:j=0∨j=1:=by simp at hj;omega
 rcases this with rfl | rfl <;> simp [go_sem,nth]
theorem pU (X:Nat) (w:World) (hX:X<18446744073709551616):Calls Tryz.prog 120 #[.int .u64 X] w (f9 w X 2):=by
 have h2:X / 4294967296<4294967296:=by omega
 have e1:((X:Int) % 4294967296)=((X % 4294967296:Nat):Int):=by omega
 have e2:((X:Int) / 4294967296)=((X / 4294967296:Nat):Int):=by omega
 have hv:X % 4294967296+4294967296*(X / 4294967296)=X:=by omega
 generalize hA:X / 4294967296=A at *
 generalize hB:X % 4294967296=B at *
 go_enter Tryz.func120,Tryz.ntmps120
 go_wp2_with fail
 refine (mL (Num.two w B A (by omega) (by omega)) (by omega)).mono ?_
 rintro e w' ⟨v,rfl,h,bd,hg⟩
 rw [hv] at h bd
 have G:=aE (aF w (.cells #[.int .u32 B,.int .u32 A] 152) none) hg
 have h':=h.mono (aF w (.cells #[.int .u32 B,.int .u32 A] 152) none).size
 clear hA hB e1 e2 h hg
 go_wp2_with fail
 go_ret
 exact ⟨v,rfl,h',bd,G⟩
set_option maxHeartbeats 1000000 in
theorem EY (N:Nat) (w:World) (hN:N<=9223372036854775807):Calls Tryz.prog 75 #[.int .i64 (N:Int)] w (cZ w ((N:Int)) 2):=by
 have S0:Kept w [] [w.heap.size] (w.alloc (.cells #[.bool false,.slice none 0 0] 51)):=(Kept.start w).res _ _ _ _ _ rfl
 go_enter Tryz.func75,Tryz.ntmps75
 go_wp2_with fail
 have S1:=S0
 refine (pU N _ (by omega)).mono ?_
 rintro e w1 ⟨v,rfl,h,bd,hg⟩
 obtain ⟨pv,nv,rfl⟩:=h.slice
 replace S0:=S0.grown _ _ hg
 clear hg
 go_wp2_with fail
 refine (d9 _ _ _ _ _).mono ?_
 rintro e w2 ⟨rfl,hg⟩
 replace h:=h.grown hg (.inl rfl)
 replace S0:=S0.grown _ _ hg
 clear hg
 obtain ⟨r0,r1,f0,f1,G⟩:=id S0
 go_wp2_with fail
 exact fY (b:=false) Tryz.results75 rfl rfl (cM r0) (cN r1) (Kept.all _ _ (Kept.set _ _ (by simp) (Nat.le_refl _) S0)) h S1.size (S1.lt (by simp)) rfl bd
set_option maxHeartbeats 1000000 in
theorem EZ (N:Nat) (w:World) (hN:N<=9223372036854775808) (h0:0<N):Calls Tryz.prog 75 #[.int .i64 (-(N:Int))] w (cZ w ((-(N:Int))) 2):=by
 have S0:Kept w [] [w.heap.size] (w.alloc (.cells #[.bool false,.slice none 0 0] 51)):=(Kept.start w).res _ _ _ _ _ rfl
 have E:=Lib.hid (show IntKind.u64.wrap (-IntKind.u64.wrap (-(N:Int)))=N by rw [IntKind.wrap_u64,IntKind.wrap_u64];omega)
 go_enter Tryz.func75,Tryz.ntmps75
 go_wp2_with fail
 rw [E.out]
 have S1:=S0
 refine (pU N _ (by omega)).mono ?_
 rintro e w1 ⟨v,rfl,h,bd,hg⟩
 obtain ⟨pv,nv,rfl⟩:=h.slice
 replace S0:=S0.grown _ _ hg
 clear hg
 go_wp2_with fail
 refine (d9 _ _ _ _ _).mono ?_
 rintro e w2 ⟨rfl,hg⟩
 replace h:=h.grown hg (.inl rfl)
 replace S0:=S0.grown _ _ hg
 clear hg
 obtain ⟨r0,r1,f0,f1,G⟩:=id S0
 go_wp2_with fail
 exact fY (b:=true) Tryz.results75 rfl rfl (cM r0) (cN r1) (Kept.all _ _ (Kept.set _ _ (by simp) (Nat.le_refl _) S0)) h S1.size (S1.lt (by simp)) rfl bd
theorem vu (z:Int) (w:World) (h1 : -9223372036854775808<=z) (h2:z<=9223372036854775807):Calls Tryz.prog 75 #[.int .i64 z] w (cZ w z 2):=by
 rcases Int.lt_or_le z 0 with h | h
 ·obtain ⟨N,rfl⟩:∃N:Nat,z = -(N:Int):=⟨z.natAbs,by omega⟩
  exact EZ N w (by omega) (by omega)
 ·obtain ⟨N,rfl⟩:∃N:Nat,z=(N:Int):=⟨z.natAbs,by omega⟩
  exact EY N w (by omega)
def ec (xs:List Nat) (n k:Nat):Nat:=val 4294967296 ((xs.take n).drop k)
theorem vO {xs:List Nat}{n k:Nat} (hn:n<=xs.length) (hk:k<n):ec xs n k=nth xs k+4294967296*ec xs n (k+1):=by
 unfold ec
 rw [dw _ _ (by rw [List.length_take];omega),dM _ hk]
theorem vP (xs:List Nat){n:Nat}:ec xs n n=0:=by
 unfold ec
 rw [List.drop_of_length_le (by rw [List.length_take];omega)]
 rfl
theorem vR {xs:List Nat} (a:All 4294967296 xs){n k:Nat} (hn:n<=2) (hk:1<=k):ec xs n k<4294967296:=by
 have:=cX ((a.take n).drop k)
 have hl:((xs.take n).drop k).length<=1:=by rw [List.length_drop,List.length_take];omega
 exact Nat.lt_of_lt_of_le this (Nat.le_trans (Nat.pow_le_pow_right (by omega) hl) (by omega))
set_option maxHeartbeats 1000000 in
theorem vj {xs:List Nat}{s:Value}{w:World} (n:Nat) (hn:min xs.length 2=n) (hx:Sl w .u32 s xs) (ax:All 4294967296 xs) :
  Calls Tryz.prog 182 #[s] w fun e w'=>e = .returned (.int .u64 (ec xs n 0))∧w=w':=by
 obtain ⟨p,cap,rfl,h1,h2,h3⟩:=id hx
 have Ax:=Lib.hid ax
 have hm:min (xs.length:Int) 2=(n:Int):=by omega
 have hl:n<=xs.length:=by omega
 have h2':n<=2:=by omega
 obtain ⟨m,hm'⟩:∃m,xs.length=m:=⟨_,rfl⟩
 have Hm:=Lib.hid hm'
 rw [hm'] at hm hl h1 hn ⊢
 clear hx ax hm'
 by_cases hc:2<m
 ·obtain rfl:n=2:=by omega
  have hc':(2:Int)<(m:Int):=by omega
  clear hn hm hl
  go_enter Tryz.func182,Tryz.ntmps182
  go_wp2_with fail
  go_loopw [3,4] (fun nv iv wr=>∃(k:Nat) (q:Int),k<=2∧iv = .int .i64 q∧q=(k:Int)-1∧nv = .int .u64 (ec xs 2 k)∧wr=w) (fun _ iv _=>(intOf iv+1).toNat)
  case atStart=>exact ⟨2,_,Nat.le_refl _,by go_num,by omega,by rw [vP];rfl,rfl⟩
  case round=>
   obtain ⟨k,q,hk,rfl,hq,rfl,rfl⟩:=hrel
   cases k with
   | zero=>
    obtain rfl:q = -1:=by omega
    clear hq
    go_wp2_with fail
    go_ret
    exact ⟨rfl,rfl⟩
   | succ k=>
    obtain rfl:q=(k:Int):=by omega
    rcases h3 with h3 | ⟨b,off,rfl,hbl,hyx⟩
    ·have:=Hm.out;rw [h3] at this;simp at this;omega
    have c1:=hyx k (by rw [Hm.out];omega)
    have b1:nth xs k<4294967296:=aT (by omega) Ax.out k
    have HO:=Lib.hid (og (ec xs 2 (k+1)) (nth xs k) b1)
    have HL:=Lib.hid (vR Ax.out (n:=2) (k:=k+1) (by omega) (by omega))
    have HS:=Lib.hid (vO (xs:=xs) (n:=2) (k:=k) (by rw [Hm.out];omega) (by omega))
    have i1:(k:Int)<(m:Int):=by omega
    clear hq hyx
    generalize ec xs 2 (k+1)=av at *
    go_wp2_with fail
    go_roundw
    case rel=>exact ⟨k,_,by omega,rfl,rfl,int_eq (by rw [HO.out,HS.out];have:=HL.out;omega),trivial⟩
    case measure=>simp [intOf] <;> omega
 ·obtain rfl:n=m:=by omega
  have hc':¬(2:Int)<(n:Int):=by omega
  clear hn hm hl
  go_enter Tryz.func182,Tryz.ntmps182
  go_wp2_with fail
  go_loopw [3,4] (fun nv iv wr=>∃(k:Nat) (q:Int),k<=n∧iv = .int .i64 q∧q=(k:Int)-1∧nv = .int .u64 (ec xs n k)∧wr=w) (fun _ iv _=>(intOf iv+1).toNat)
  case atStart=>exact ⟨n,_,Nat.le_refl _,by go_num,by omega,by rw [vP];rfl,rfl⟩
  case round=>
   obtain ⟨k,q,hk,rfl,hq,rfl,rfl⟩:=hrel
   cases k with
   | zero=>
    obtain rfl:q = -1:=by omega
    clear hq
    go_wp2_with fail
    go_ret
    exact ⟨rfl,rfl⟩
   | succ k=>
    obtain rfl:q=(k:Int):=by omega
    rcases h3 with h3 | ⟨b,off,rfl,hbl,hyx⟩
    ·have:=Hm.out;rw [h3] at this;simp at this;omega
    have c1:=hyx k (by rw [Hm.out];omega)
    have b1:nth xs k<4294967296:=aT (by omega) Ax.out k
    have HO:=Lib.hid (og (ec xs n (k+1)) (nth xs k) b1)
    have HL:=Lib.hid (vR Ax.out (n:=n) (k:=k+1) (by omega) (by omega))
    have HS:=Lib.hid (vO (xs:=xs) (n:=n) (k:=k) (by rw [Hm.out];omega) (by omega))
    have i1:(k:Int)<(n:Int):=by omega
    clear hq hyx
    generalize ec xs n (k+1)=av at *
    go_wp2_with fail
    go_roundw
    case rel=>exact ⟨k,_,by omega,rfl,rfl,int_eq (by rw [HO.out,HS.out];have:=HL.out;omega),trivial⟩
    case measure=>simp [intOf] <;> omega
theorem vk {xs:List Nat}{n:Nat} (hn:min xs.length 2=n) (h:val 4294967296 xs<18446744073709551616):ec xs n 0=val 4294967296 xs:=by
 unfold ec
 rw [List.drop_zero]
 have e:=o7 4294967296 xs (k:=n) (by omega)
 by_cases h2:xs.length<=n
 ·rw [List.take_of_length_le h2]
 ·obtain rfl:n=2:=by omega
  have:val 4294967296 (xs.drop 2)=0:=by
   rcases Nat.eq_zero_or_pos (val 4294967296 (xs.drop 2)) with h0 | h0
   ·exact h0
   ·have:4294967296 ^ 2*1<=4294967296 ^ 2*val 4294967296 (xs.drop 2):=Nat.mul_le_mul_left _ h0
    omega
  rw [this] at e
  omega
end Go.Proofs.YthmcngjhkmpneaaGreat
