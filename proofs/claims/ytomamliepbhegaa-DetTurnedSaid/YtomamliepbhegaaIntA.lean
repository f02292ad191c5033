/- Boxes: struct values of two cells in blocks of their own; how they outlive what is done beside them. Package whole, o .. -/
import Derived.Test.YtomamliepbhegaaRefK
import Derived.Deep.RegionHeld3
namespace Go.Proofs.Ytomamliepbhegaa
open Go.RowKit
theorem jp {w:World}{a:Addr}{x:Value} (h:w.cell? a=some x):a.block<w.heap.size:=by
 rcases Nat.lt_or_ge a.block w.heap.size with h1 | h1
 ·exact h1
 ·simp [World.cell?,Array.getElem?_eq_none h1] at h
theorem cell_grown {w w':World}{a:Addr}{x:Value} (g:w.grownBy w' none) (h:w.cell? a=some x):w'.cell? a=some x:=by
 rw [World.cell?_of_block (g.block a.block (jp h) (by simp))];exact h
theorem eL {w w':World}{a:Addr}{x:Value} (g:w.grownBy w' none) (hc:w.cell? a=some x) (h:w.frozen? a=false):w'.frozen? a=false:=by
 have:=g.block a.block (jp hc) (by simp)
 simp only [World.frozen?,this] at h ⊢
 exact h
def cellOf (w:World) (a:Addr):Value:=(w.cell? a).getD undef
theorem eM {w:World}{a:Addr}{x:Value} (h:w.cell? a=some x):w.cell? a=some (cellOf w a):=by
 unfold cellOf;rw [h];rfl
theorem mP (w:World) (a b:Addr) (v:Value):(w.setCell a v).frozen? b=w.frozen? b:=by
 simp only [World.frozen?,World.setCell,Array.getElem?_modify]
 by_cases e:a.block=b.block
 ·rw [if_pos e]
  cases h:w.heap[b.block]? with
  | none=>rfl
  | some o=>cases o <;> rfl
 ·rw [if_neg e]
def set2 (w:World) (g:Nat) (u v:Value):World:=(w.setCell ⟨g,0,none⟩ u).setCell ⟨g,1,none⟩ v
theorem kV {w:World}{g:Nat}{u v x:Value}{a:Addr} (h:w.cell? a=some x) (hg:a.block≠g):(set2 w g u v).cell? a=some x:=by
 unfold set2
 rw [World.cell?_setCell_far _ _ _ _ (fun e=>hg e.symm),World.cell?_setCell_far _ _ _ _ (fun e=>hg e.symm)];exact h
theorem dm {w:World}{g:Nat}{u v x:Value} (h:w.cell? ⟨g,0,none⟩=some x):(set2 w g u v).cell? ⟨g,0,none⟩=some u:=by
 unfold set2
 rw [World.cell?_setCell_other _ _ _ _ (by simp)]
 exact World.cell?_setCell_same' _ _ _ (by rw [h];rfl)
theorem dp {w:World}{g:Nat}{u v x:Value} (h:w.cell? ⟨g,1,none⟩=some x):(set2 w g u v).cell? ⟨g,1,none⟩=some v:=by
 unfold set2
 refine World.cell?_setCell_same' _ _ _ ?_
 rw [World.cell?_setCell_other _ _ _ _ (by simp),h];rfl
theorem iA {w:World}{g:Nat}{u v:Value}{a:Addr} (h:w.frozen? a=false):(set2 w g u v).frozen? a=false:=by
 unfold set2;rw [mP,mP];exact h
theorem gB (w:World) (g:Nat) (u v:Value):w.grownBy (set2 w g u v) (some g):=be (cF _ _ _ _) (cF _ _ _ _)
theorem iw (w:World) (c:Array Value) (t:TypeId) (a:Addr) (h:w.frozen? a=false):(w.alloc (.cells c t)).frozen? a=false:=by
 by_cases e:a.block=w.heap.size
 ·simp only [World.frozen?,e,heap_alloc_new]
  simp
 ·by_cases e2:a.block<w.heap.size
  ·simp only [World.frozen?,Below.heap_alloc _ _ _ e2] at h ⊢
   exact h
  ·have:(w.alloc (.cells c t)).heap[a.block]?=none:=Array.getElem?_eq_none (by simp;omega)
   simp only [World.frozen?,this]
theorem iy {w:World}{a:Addr} (h:w.heap.size<=a.block):w.frozen? a=false:=by
 simp only [World.frozen?,Array.getElem?_eq_none h]
def cN (W:World):List Nat->World->Prop
 | [],w=>W.grownBy w none
 | g :: rs,w=>w.cell? ⟨g,0,none⟩=some (cellOf w ⟨g,0,none⟩)∧w.cell? ⟨g,1,none⟩=some (cellOf w ⟨g,1,none⟩)∧w.frozen? ⟨g,0,none⟩=false∧w.frozen? ⟨g,1,none⟩=false∧cN W rs w
def Kept (W:World):List (Nat×Nat×Value)->List Nat->World->Prop
 | [],rs,w=>cN W rs w
 | (g,o,x) :: cs,rs,w=>w.cell? ⟨g,o,none⟩=some x∧Kept W cs rs w
theorem cN.grown {W w w':World}:∀(rs:List Nat),cN W rs w->w.grownBy w' none->cN W rs w'
 | [],h,g=>be h g
 | _ :: rs,h,g=>⟨eM (cell_grown g h.1),eM (cell_grown g h.2.1),eL g h.1 h.2.2.1,eL g h.2.1 h.2.2.2.1,cN.grown rs h.2.2.2.2 g⟩
theorem Kept.grown {W w w':World}:∀(cs:List (Nat×Nat×Value)) (rs:List Nat),Kept W cs rs w->w.grownBy w' none->Kept W cs rs w'
 | [],rs,h,g=>cN.grown rs h g
 | (_,_,_) :: cs,rs,h,g=>⟨cell_grown g h.1,Kept.grown cs rs h.2 g⟩
theorem sk {w:World}{g g' o:Nat}{u v:Value} (ho:o=0∨o=1) (h:w.cell? ⟨g',o,none⟩=some (cellOf w ⟨g',o,none⟩)):(set2 w g u v).cell? ⟨g',o,none⟩=some (cellOf (set2 w g u v) ⟨g',o,none⟩):=by
 by_cases e:g'=g
 ·subst e
  rcases ho with rfl | rfl
  ·exact eM (dm h)
  ·exact eM (dp h)
 ·exact eM (kV h e)
theorem cN.set {W w:World}{g:Nat}{u v:Value}:∀(rs:List Nat),W.heap.size<=g->cN W rs w->cN W rs (set2 w g u v)
 | [],hg,h=>cW h (gB _ _ _ _) hg
 | _ :: rs,hg,h=>⟨sk (.inl rfl) h.1,sk (.inr rfl) h.2.1,iA h.2.2.1,iA h.2.2.2.1,cN.set rs hg h.2.2.2.2⟩
theorem Kept.set {W w:World}{g:Nat}{u v:Value}:∀(cs:List (Nat×Nat×Value)) (rs:List Nat),(cs.all fun c=>c.1 != g)=true->W.heap.size<=g->Kept W cs rs w->Kept W cs rs (set2 w g u v)
 | [],rs,_,hg,h=>cN.set rs hg h
 | (_,_,_) :: cs,rs,hc,hg,h=>by
  simp only [List.all_cons,Bool.and_eq_true,bne_iff_ne,ne_eq] at hc
  exact ⟨kV h.1 hc.1,Kept.set cs rs (by simpa using hc.2) hg h.2⟩
theorem Kept.step {W w w':World} (cs:List (Nat×Nat×Value)) (rs:List Nat) (g:w.grownBy w' none) (h:Kept W cs rs w):Kept W cs rs w':=Kept.grown cs rs h g
theorem Kept.start (w:World):Kept w [] [] w:=ba w none
theorem Kept.box {W w:World}{cs:List (Nat×Nat×Value)}{rs:List Nat} (g:Nat) (x y:Value) (t:TypeId) (h:Kept W cs rs w) (hg:w.heap.size=g):Kept W ((g,0,x) :: (g,1,y) :: cs) rs (w.alloc (.cells #[x,y] t)):=by
 subst hg
 exact ⟨by simp [go_sem],by simp [go_sem],Kept.grown cs rs h (KQ _ _ _)⟩
theorem Kept.res {W w:World}{rs:List Nat} (g:Nat) (x y:Value) (t:TypeId):∀(cs:List (Nat×Nat×Value)),Kept W cs rs w->w.heap.size=g->Kept W cs (g :: rs) (w.alloc (.cells #[x,y] t))
 | [],h,hg=>by
  subst hg
  have c0:(w.alloc (.cells #[x,y] t)).cell? ⟨w.heap.size,0,none⟩=some x:=by simp [go_sem]
  have c1:(w.alloc (.cells #[x,y] t)).cell? ⟨w.heap.size,1,none⟩=some y:=by simp [go_sem]
  exact ⟨eM c0,eM c1,iw _ _ _ _ (iy (Nat.le_refl _)),iw _ _ _ _ (iy (Nat.le_refl _)),cN.grown rs h (KQ _ _ _)⟩
 | (g',o,x') :: cs,h,hg=>⟨cell_grown (KQ _ _ _) h.1,Kept.res g x y t cs h.2 hg⟩
theorem cN.all {W w:World}:∀(rs:List Nat),cN W rs w->W.grownBy w none
 | [],h=>h
 | _ :: rs,h=>cN.all rs h.2.2.2.2
theorem Kept.all {W w:World}:∀(cs:List (Nat×Nat×Value)) (rs:List Nat),Kept W cs rs w->W.grownBy w none
 | [],rs,h=>cN.all rs h
 | _ :: cs,rs,h=>Kept.all cs rs h.2
theorem Kept.size {W w:World}{cs:List (Nat×Nat×Value)}{rs:List Nat} (h:Kept W cs rs w):W.heap.size<=w.heap.size:=(Kept.all cs rs h).size
theorem cN.lt {W w:World}{g:Nat}:∀(rs:List Nat),g ∈ rs->cN W rs w->g<w.heap.size
 | _ :: rs,hm,h=>by
  rcases List.mem_cons.1 hm with rfl | hm
  ·exact jp h.1
  ·exact cN.lt rs hm h.2.2.2.2
theorem Kept.lt {W w:World}{g:Nat}:∀{cs:List (Nat×Nat×Value)}{rs:List Nat},Kept W cs rs w->g ∈ rs->g<w.heap.size
 | [],rs,h,hm=>cN.lt rs hm h
 | _ :: _,_,h,hm=>Kept.lt h.2 hm
theorem lA {w:World}{a:Addr}{u:Value} (b:Addr) (h:w.cell? b=none):(w.setCell a u).cell? b=none:=by
 by_cases e:a=b
 ·subst e
  simp only [World.cell?,World.setCell,Array.getElem?_modify] at h ⊢
  cases hh:w.heap[a.block]? with
  | none=>simp
  | some o=>
   rw [hh] at h
   cases o <;> simp_all
 ·rw [World.cell?_setCell_other _ _ _ _ e];exact h
theorem jO {w:World}{g:Nat}{u v x:Value} (h:(set2 w g u v).cell? ⟨g,0,none⟩=some x):(set2 w g u v).cell? ⟨g,0,none⟩=some u:=by
 cases hc:w.cell? ⟨g,0,none⟩ with
 | some y=>exact dm hc
 | none=>rw [set2,lA _ (lA _ hc)] at h;cases h
theorem jP {w:World}{g:Nat}{u v x:Value} (h:(set2 w g u v).cell? ⟨g,1,none⟩=some x):(set2 w g u v).cell? ⟨g,1,none⟩=some v:=by
 cases hc:w.cell? ⟨g,1,none⟩ with
 | some y=>exact dp hc
 | none=>rw [set2,lA _ (lA _ hc)] at h;cases h
theorem jQ (b X:Nat) (hb:2<=b):decide (0<(ak b X).length)=decide (0<X):=by
 have:=fb hb (n:=X)
 exact decide_eq_decide.2 ⟨fun h=>by omega,fun h=>by omega⟩
theorem own_ne {w:World}{e:TypeId}{k:IntKind}{B g:Nat}{v:Value}{xs:List Nat} (h:Own w e k B v xs) (hg:g<B):some g=none∨v.ownBlock≠some g:=
 .inr fun x=>by have:=(h.lt g x).1;omega
theorem nM {fn:Func}{R:Ending->World->Prop}{a:Act}{w:World}{r g:Nat}{x y:Value} (hres:fn.results = #[ResultVar.cell r 66]) (hd:a.defers = []) (hr:a.tmps[r]?=some (.pointer (some ⟨g,0,none⟩)))
  (c0:w.cell? ⟨g,0,none⟩=some x) (c1:w.cell? ⟨g,1,none⟩=some y) (h:R (.returned (.agg #[x,y])) w):bodyPost Try.prog fn R .ret a w:=by
 simp [bodyPost,results,hres,hr,c0,c1,go_sem,h,hd]
theorem lw {fn:Func}{R:Ending->World->Prop}{a:Act}{w:World}{r g:Nat}{x y:Value} (hres:fn.results = #[ResultVar.cell r 61]) (hd:a.defers = []) (hr:a.tmps[r]?=some (.pointer (some ⟨g,0,none⟩)))
  (c0:w.cell? ⟨g,0,none⟩=some x) (c1:w.cell? ⟨g,1,none⟩=some y) (h:R (.returned (.agg #[x,y])) w):bodyPost Try.prog fn R .ret a w:=by
 simp [bodyPost,results,hres,hr,c0,c1,go_sem,h,hd]
def sg (b:Bool) (X:Nat):Int:=if b then -(X:Int) else X
theorem Lf (b:Bool) (X:Nat):(sg b X).natAbs=X:=by cases b <;> simp [sg]
theorem sm (b:Bool) (X:Nat):sg (!b) X = - sg b X:=by cases b <;> simp [sg]
theorem lC (b:Bool) (X:Nat):decide (sg b X<0)=(b && decide (0<X)):=by
 cases b
 ·simp [sg]
 ·simp [sg]
theorem nO (z:Int):sg (decide (z<0)) z.natAbs=z:=by
 unfold sg;split <;> rename_i h <;> simp at h <;> omega
def aB (w:World) (v:Value) (z:Int) (k:Nat):Prop:=∃(b:Bool) (s:Value) (X:Nat),v = .agg #[.bool b,s]∧Num w s X k∧z=sg b X
theorem aB.grown {w w':World}{v:Value}{z:Int}{k:Nat} (h:aB w v z k) (g:w.grownBy w' none):aB w' v z k:=by
 obtain ⟨b,s,X,h1,h2,h3⟩:=h
 exact ⟨b,s,X,h1,h2.grown g,h3⟩
def dw (w:World) (B:Nat) (v:Value) (z:Int):Prop:=∃p cap,v = .agg #[.bool (decide (z<0)),.slice p (ak 4294967296 z.natAbs).length cap]∧Own w 85 .u32 B (.slice p (ak 4294967296 z.natAbs).length cap) (ak 4294967296 z.natAbs)
theorem dw.grown {w w':World}{B:Nat}{v:Value}{z:Int} (h:dw w B v z) (g:w.grownBy w' none):dw w' B v z:=by
 obtain ⟨p,cap,h1,h2⟩:=h
 exact ⟨p,cap,h1,h2.grown g (.inl rfl)⟩
theorem dw.sn {w:World}{B:Nat}{v:Value}{z:Int}{k:Nat} (h:dw w B v z) (hb:Bd z.natAbs k):aB w v z k:=by
 obtain ⟨p,cap,h1,h2⟩:=h
 exact ⟨_,_,_,h1,(show fx w _ _ _ from ⟨h2.sl,hb⟩).num,(nO z).symm⟩
def cY (w:World) (z:Int) (k:Nat) (e:Ending) (w':World):Prop:=∃v,e = .returned v∧dw w' w.heap.size v z∧Bd z.natAbs k∧w.grownBy w' none
theorem Lp {fn:Func}{a:Act}{W w:World}{r g X k B cap:Nat}{b:Bool}{p:Option Addr}{z:Int}{x y:Value} (hres:fn.results = #[ResultVar.cell r 66]) (hd:a.defers = []) (hr:a.tmps[r]?=some (.pointer (some ⟨g,0,none⟩)))
  (h0:(set2 w g (.bool (b && decide (0<(ak 4294967296 X).length))) (.slice p (ak 4294967296 X).length cap)).cell? ⟨g,0,none⟩=some x)
  (h1:(set2 w g (.bool (b && decide (0<(ak 4294967296 X).length))) (.slice p (ak 4294967296 X).length cap)).cell? ⟨g,1,none⟩=some y)
  (hG:W.grownBy (set2 w g (.bool (b && decide (0<(ak 4294967296 X).length))) (.slice p (ak 4294967296 X).length cap)) none)
  (ho:Own w 85 .u32 B (.slice p (ak 4294967296 X).length cap) (ak 4294967296 X)) (hB:W.heap.size<=B) (hg:g<B) (hz:sg b X=z) (hb:Bd X k) :
  bodyPost Try.prog fn (cY W z k) .ret a (set2 w g (.bool (b && decide (0<(ak 4294967296 X).length))) (.slice p (ak 4294967296 X).length cap)):=by
 subst hz
 refine nM hres hd hr (jO h0) (jP h1) ⟨_,rfl,⟨p,cap,?_,?_⟩,by rw [Lf];exact hb,hG⟩
 ·rw [lC,Lf,jQ _ _ (by omega)]
 ·rw [Lf]
  exact ((ho.mono hB).grown (gB _ _ _ _) (own_ne ho hg))
theorem Lq (b:Bool) (p:Option Addr) (n cap:Nat) (w:World) :
  Calls Try.prog 65 #[.bool b,.slice p n cap] w fun e w'=>e = .returned (.agg #[.bool (b && decide (0<n)),.slice p n cap])∧w.grownBy w' none:=by
 go_enter Try.func65,Try.ntmps65
 cases b
 all_goals
  go_wp2_with fail
  simp [bodyPost,results,Try.results65,go_sem]
  exact KQ _ _ _
set_option maxHeartbeats 1000000 in
theorem AI {v:Value}{z:Int}{k:Nat}{w:World} (hx:aB w v z k) (hk:k<=1000000) :
  Calls Try.prog 37 #[v] w (cY w (z) k):=by
 obtain ⟨b,s,X,rfl,hx,rfl⟩:=hx
 obtain ⟨p,n,cap,rfl⟩:=hx.slice
 have Hx:=Lib.hid hx
 clear hx
 have S0:Kept w [(w.heap.size,0,.bool b),(w.heap.size,1,.slice p n cap)] [w.heap.size+1] ((w.alloc (.cells #[.bool b,.slice p n cap] 66)).alloc (.cells #[.bool false,.slice none 0 0] 66)):=((Kept.start w).box _ _ _ _ rfl).res _ _ _ _ _ (by simp)
 go_enter Try.func37,Try.ntmps37
 go_wp2_with fail
 go_region_held3 (fun w'=>w'.cell? ⟨w.heap.size,0,none⟩=some (.bool b)∧w'.cell? ⟨w.heap.size,1,none⟩=some (.slice p n cap)∧w'.cell? ⟨w.heap.size+1,0,none⟩=some (cellOf w' ⟨w.heap.size+1,0,none⟩)∧w'.cell? ⟨w.heap.size+1,1,none⟩=some (cellOf w' ⟨w.heap.size+1,1,none⟩)∧w'.frozen? ⟨w.heap.size+1,0,none⟩=false∧w'.frozen? ⟨w.heap.size+1,1,none⟩=false∧w.grownBy w' none) (first | exact Kept.step (W:=w) [(w.heap.size,0,.bool b),(w.heap.size,1,.slice p n cap)] [w.heap.size+1] (by assumption) (by assumption) | exact Kept.set (W:=w) [(w.heap.size,0,.bool b),(w.heap.size,1,.slice p n cap)] [w.heap.size+1] (by simp <;> omega) (by first | omega | (simp <;> omega)) (by assumption) | exact Kept.step [(w.heap.size,0,.bool b),(w.heap.size,1,.slice p n cap)] [w.heap.size+1] (Lb _ _) S0)
  (first | (go_at_call 66;refine (nP (Hx.out.grown (by go_split_ands;assumption)) hk).mono ?_;rintro e w' ⟨v,rfl,h,bd,hg⟩;obtain ⟨pv,nv,rfl⟩:=h.slice) | (go_at_call 65;refine (Lq _ _ _ _ _).mono ?_;rintro e w' ⟨rfl,hg⟩;replace h:=h.grown hg (.inl rfl)))
 rename_i hend
 go_wp2_with fail
 exact Lp Try.results37 rfl rfl hend.2.2.1 hend.2.2.2.1 hend.2.2.2.2.2.2 h (by first | omega | (simp <;> omega)) (by first | omega | (simp <;> omega)) (rfl) bd
set_option maxHeartbeats 1000000 in
theorem AJ {v:Value}{z:Int}{k:Nat}{w:World} (hx:aB w v z k) (hk:k<=1000000) :
  Calls Try.prog 46 #[v] w (cY w (-z) k):=by
 obtain ⟨b,s,X,rfl,hx,rfl⟩:=hx
 obtain ⟨p,n,cap,rfl⟩:=hx.slice
 have Hx:=Lib.hid hx
 clear hx
 have S0:Kept w [(w.heap.size,0,.bool b),(w.heap.size,1,.slice p n cap)] [w.heap.size+1] ((w.alloc (.cells #[.bool b,.slice p n cap] 66)).alloc (.cells #[.bool false,.slice none 0 0] 66)):=((Kept.start w).box _ _ _ _ rfl).res _ _ _ _ _ (by simp)
 go_enter Try.func46,Try.ntmps46
 go_wp2_with fail
 go_region_held3 (fun w'=>w'.cell? ⟨w.heap.size,0,none⟩=some (.bool b)∧w'.cell? ⟨w.heap.size,1,none⟩=some (.slice p n cap)∧w'.cell? ⟨w.heap.size+1,0,none⟩=some (cellOf w' ⟨w.heap.size+1,0,none⟩)∧w'.cell? ⟨w.heap.size+1,1,none⟩=some (cellOf w' ⟨w.heap.size+1,1,none⟩)∧w'.frozen? ⟨w.heap.size+1,0,none⟩=false∧w'.frozen? ⟨w.heap.size+1,1,none⟩=false∧w.grownBy w' none) (first | exact Kept.step (W:=w) [(w.heap.size,0,.bool b),(w.heap.size,1,.slice p n cap)] [w.heap.size+1] (by assumption) (by assumption) | exact Kept.set (W:=w) [(w.heap.size,0,.bool b),(w.heap.size,1,.slice p n cap)] [w.heap.size+1] (by simp <;> omega) (by first | omega | (simp <;> omega)) (by assumption) | exact Kept.step [(w.heap.size,0,.bool b),(w.heap.size,1,.slice p n cap)] [w.heap.size+1] (Lb _ _) S0)
  (first | (go_at_call 66;refine (nP (Hx.out.grown (by go_split_ands;assumption)) hk).mono ?_;rintro e w' ⟨v,rfl,h,bd,hg⟩;obtain ⟨pv,nv,rfl⟩:=h.slice) | (go_at_call 65;refine (Lq _ _ _ _ _).mono ?_;rintro e w' ⟨rfl,hg⟩;replace h:=h.grown hg (.inl rfl)))
 rename_i hend
 go_wp2_with fail
 exact Lp Try.results46 rfl rfl hend.2.2.1 hend.2.2.2.1 hend.2.2.2.2.2.2 h (by first | omega | (simp <;> omega)) (by first | omega | (simp <;> omega)) (sm _ _) bd
def cn (z y:Int):Int:=if z<y then -1 else if z=y then 0 else 1
theorem AK (X Y:Nat):cn (X:Int) (Y:Int)=bZ X Y:=by
 unfold cn bZ
 split <;> split <;> (try split) <;> (try split) <;> omega
theorem AL (X Y:Nat):cn (-(X:Int)) (-(Y:Int))=bZ Y X:=by
 unfold cn bZ
 split <;> split <;> (try split) <;> (try split) <;> omega
theorem so {b:Bool}{X:Nat} (h:¬sg b X<0):sg b X=X:=by
 cases b
 ·rfl
 ·simp [sg] at h ⊢;omega
theorem sq {b:Bool}{X:Nat} (h:sg b X<0):sg b X = -(X:Int):=by
 cases b
 ·simp [sg] at h
  omega
 ·rfl
set_option maxHeartbeats 1000000 in
theorem eO {v:Value}{z:Int}{k:Nat}{w:World} (r:Bool) (hx:aB w v z k) (hk:k<=1000000) (hr:decide (z<0)=r) :
  Calls Try.prog 72 #[v] w fun e w'=>e = .returned (.bool r)∧w.grownBy w' none:=by
 subst hr
 obtain ⟨b,s,X,rfl,hx,rfl⟩:=hx
 obtain ⟨p,n,cap,rfl⟩:=hx.slice
 rw [lC]
 have Hx:=Lib.hid hx
 clear hx
 cases b
 ·go_enter Try.func72,Try.ntmps72
  go_wp2_with fail
  go_ret
  exact ⟨rfl,KQ _ _ _⟩
 ·have Hd:=Lib.hid (jQ 2 X (by omega))
  go_enter Try.func72,Try.ntmps72
  go_wp2_with fail
  refine (AM (Hx.out.grown (KQ _ _ _)) hk).mono ?_
  rintro e w' ⟨rfl,rfl⟩
  generalize (ak 2 X).length=l at *
  go_wp2_with fail
  go_ret
  refine ⟨?_,KQ _ _ _⟩
  have:=Hd.out
  simp_all
set_option maxHeartbeats 2000000 in
theorem AN {v u:Value}{z y:Int}{i j:Nat}{w:World} (r:Int) (hx:aB w v z i) (hy:aB w u y j) (hi:i+j<=1000000) (hr:cn z y=r) :
  Calls Try.prog 45 #[v,u] w fun e w'=>e = .returned (.int .i64 r)∧w.grownBy w' none:=by
 have Vx:=Lib.hid hx
 have Vy:=Lib.hid hy
 have Hr:=Lib.hid hr
 obtain ⟨b,s,X,rfl,hx,rfl⟩:=hx
 obtain ⟨p,n,cap,rfl⟩:=hx.slice
 obtain ⟨b',s',Y,rfl,hy,rfl⟩:=hy
 obtain ⟨q,m,cap',rfl⟩:=hy.slice
 have Hx:=Lib.hid hx
 have Hy:=Lib.hid hy
 have S0:Kept w [(w.heap.size+1,0,.bool b'),(w.heap.size+1,1,.slice q m cap'),(w.heap.size,0,.bool b),(w.heap.size,1,.slice p n cap)] [] ((w.alloc (.cells #[.bool b,.slice p n cap] 66)).alloc (.cells #[.bool b',.slice q m cap'] 66)):=((Kept.start w).box _ _ _ _ rfl).box _ _ _ _ (by simp)
 clear hx hy hr
 by_cases hz:sg b X<0
 ·replace hz:=Lib.hid hz
  by_cases hw:sg b' Y<0
  ·replace hw:=Lib.hid hw
   go_enter Try.func45,Try.ntmps45
   go_wp2_with fail
   refine (eO true (Vx.out.grown (Kept.all _ _ S0)) (by omega) (decide_eq_true hz.out)).mono ?_
   rintro e w' ⟨rfl,hg⟩
   replace S0:=Kept.grown _ _ S0 hg
   clear hg
   obtain ⟨c0,c1,c2,c3,G⟩:=id S0
   go_wp2_with fail
   clear c0 c1 c2 c3 G
   refine (eO true (Vy.out.grown (Kept.all _ _ S0)) (by omega) (decide_eq_true hw.out)).mono ?_
   rintro e w' ⟨rfl,hg⟩
   replace S0:=Kept.grown _ _ S0 hg
   clear hg
   obtain ⟨c0,c1,c2,c3,G⟩:=id S0
   go_wp2_with fail
   clear c0 c1 c2 c3 G
   refine (su r (Hy.out.grown (Kept.all _ _ S0)) (Hx.out.grown (Kept.all _ _ S0)) ?_).mono ?_
   ·rw [<- Hr.out];exact (by rw [sq hz.out,sq hw.out,AL])
   rintro e w' ⟨rfl,hg⟩
   replace S0:=Kept.grown _ _ S0 hg
   go_wp2_with fail
   go_ret
   exact ⟨rfl,Kept.all _ _ S0⟩
  ·replace hw:=Lib.hid hw
   obtain rfl:r = -1:=by
    have h1:=hz.out
    have h2:=hw.out
    rw [<- Hr.out,cn,if_pos (by omega)]
   go_enter Try.func45,Try.ntmps45
   go_wp2_with fail
   refine (eO true (Vx.out.grown (Kept.all _ _ S0)) (by omega) (decide_eq_true hz.out)).mono ?_
   rintro e w' ⟨rfl,hg⟩
   replace S0:=Kept.grown _ _ S0 hg
   clear hg
   obtain ⟨c0,c1,c2,c3,G⟩:=id S0
   go_wp2_with fail
   clear c0 c1 c2 c3 G
   refine (eO false (Vy.out.grown (Kept.all _ _ S0)) (by omega) (decide_eq_false (Int.not_lt.2 hw.out))).mono ?_
   rintro e w' ⟨rfl,hg⟩
   replace S0:=Kept.grown _ _ S0 hg
   clear hg
   obtain ⟨c0,c1,c2,c3,G⟩:=id S0
   go_wp2_with fail
   clear c0 c1 c2 c3 G
   refine (eO true (Vx.out.grown (Kept.all _ _ S0)) (by omega) (decide_eq_true hz.out)).mono ?_
   rintro e w' ⟨rfl,hg⟩
   replace S0:=Kept.grown _ _ S0 hg
   clear hg
   obtain ⟨c0,c1,c2,c3,G⟩:=id S0
   go_wp2_with fail
   clear c0 c1 c2 c3 G
   go_ret
   exact ⟨rfl,Kept.all _ _ S0⟩
 ·replace hz:=Lib.hid hz
  by_cases hw:sg b' Y<0
  ·replace hw:=Lib.hid hw
   obtain rfl:r=1:=by
    have h1:=hz.out
    have h2:=hw.out
    rw [<- Hr.out,cn,if_neg (by omega),if_neg (by omega)]
   go_enter Try.func45,Try.ntmps45
   go_wp2_with fail
   refine (eO false (Vx.out.grown (Kept.all _ _ S0)) (by omega) (decide_eq_false (Int.not_lt.2 hz.out))).mono ?_
   rintro e w' ⟨rfl,hg⟩
   replace S0:=Kept.grown _ _ S0 hg
   clear hg
   obtain ⟨c0,c1,c2,c3,G⟩:=id S0
   go_wp2_with fail
   clear c0 c1 c2 c3 G
   refine (eO false (Vx.out.grown (Kept.all _ _ S0)) (by omega) (decide_eq_false (Int.not_lt.2 hz.out))).mono ?_
   rintro e w' ⟨rfl,hg⟩
   replace S0:=Kept.grown _ _ S0 hg
   clear hg
   obtain ⟨c0,c1,c2,c3,G⟩:=id S0
   go_wp2_with fail
   clear c0 c1 c2 c3 G
   refine (eO true (Vy.out.grown (Kept.all _ _ S0)) (by omega) (decide_eq_true hw.out)).mono ?_
   rintro e w' ⟨rfl,hg⟩
   replace S0:=Kept.grown _ _ S0 hg
   clear hg
   obtain ⟨c0,c1,c2,c3,G⟩:=id S0
   go_wp2_with fail
   clear c0 c1 c2 c3 G
   go_ret
   exact ⟨rfl,Kept.all _ _ S0⟩
  ·replace hw:=Lib.hid hw
   go_enter Try.func45,Try.ntmps45
   go_wp2_with fail
   refine (eO false (Vx.out.grown (Kept.all _ _ S0)) (by omega) (decide_eq_false (Int.not_lt.2 hz.out))).mono ?_
   rintro e w' ⟨rfl,hg⟩
   replace S0:=Kept.grown _ _ S0 hg
   clear hg
   obtain ⟨c0,c1,c2,c3,G⟩:=id S0
   go_wp2_with fail
   clear c0 c1 c2 c3 G
   refine (eO false (Vx.out.grown (Kept.all _ _ S0)) (by omega) (decide_eq_false (Int.not_lt.2 hz.out))).mono ?_
   rintro e w' ⟨rfl,hg⟩
   replace S0:=Kept.grown _ _ S0 hg
   clear hg
   obtain ⟨c0,c1,c2,c3,G⟩:=id S0
   go_wp2_with fail
   clear c0 c1 c2 c3 G
   refine (eO false (Vy.out.grown (Kept.all _ _ S0)) (by omega) (decide_eq_false (Int.not_lt.2 hw.out))).mono ?_
   rintro e w' ⟨rfl,hg⟩
   replace S0:=Kept.grown _ _ S0 hg
   clear hg
   obtain ⟨c0,c1,c2,c3,G⟩:=id S0
   go_wp2_with fail
   clear c0 c1 c2 c3 G
   refine (su r (Hx.out.grown (Kept.all _ _ S0)) (Hy.out.grown (Kept.all _ _ S0)) ?_).mono ?_
   ·rw [<- Hr.out];exact (by rw [so (Int.not_lt.2 hz.out),so (Int.not_lt.2 hw.out),AK])
   rintro e w' ⟨rfl,hg⟩
   replace S0:=Kept.grown _ _ S0 hg
   go_wp2_with fail
   go_ret
   exact ⟨rfl,Kept.all _ _ S0⟩
theorem nQ {fn:Func}{a:Act}{W w:World}{r g k B:Nat}{z:Int}{u v x y:Value} (hres:fn.results = #[ResultVar.cell r 66]) (hd:a.defers = []) (hr:a.tmps[r]?=some (.pointer (some ⟨g,0,none⟩)))
  (h0:(set2 w g u v).cell? ⟨g,0,none⟩=some x) (h1:(set2 w g u v).cell? ⟨g,1,none⟩=some y) (hG:W.grownBy (set2 w g u v) none)
  (ho:dw w B (.agg #[u,v]) z) (hB:W.heap.size<=B) (hg:g<B) (hb:Bd z.natAbs k):bodyPost Try.prog fn (cY W z k) .ret a (set2 w g u v):=by
 refine nM hres hd hr (jO h0) (jP h1) ⟨_,rfl,?_,hb,hG⟩
 obtain ⟨p,cap,h2,h3⟩:=ho
 refine ⟨p,cap,h2,?_⟩
 simp only [Value.agg.injEq,Array.mk.injEq,List.cons.injEq,and_true] at h2
 obtain ⟨-,rfl⟩:=h2
 exact ((h3.mono hB).grown (gB _ _ _ _) (own_ne h3 hg))
set_option maxHeartbeats 1000000 in
theorem sv {v u:Value}{X Y i j:Nat}{w:World} (hx:Num w v X i) (hy:Num w u Y j) (hi:i+j<=1000000) :
  Calls Try.prog 70 #[v,u] w (cY w ((X:Int)-Y) (i+j)):=by
 have Hx:=Lib.hid hx
 have Hy:=Lib.hid hy
 have Bx:=Lib.hid (show Bd X (i+j) from hx.bd.more (by omega))
 have By:=Lib.hid (show Bd Y (i+j) from hy.bd.more (by omega))
 have S0:Kept w [] [w.heap.size] (w.alloc (.cells #[.bool false,.slice none 0 0] 66)):=(Kept.start w).res _ _ _ _ _ rfl
 clear hx hy
 by_cases hle:Y<=X
 ·replace hle:=Lib.hid hle
  go_enter Try.func70,Try.ntmps70
  go_wp2_with fail
  have S1:=S0
  refine (sx (Hx.out.grown (Kept.all _ _ S0)) (Hy.out.grown (Kept.all _ _ S0)) (by omega) hle.out).mono ?_
  rintro e w' ⟨v,rfl,h,-,hg⟩
  obtain ⟨pv,nv,rfl⟩:=h.slice
  replace S0:=Kept.grown _ _ S0 hg
  clear hg
  go_wp2_with fail
  refine (Lq _ _ _ _ _).mono ?_
  rintro e w' ⟨rfl,hg⟩
  replace S0:=Kept.grown _ _ S0 hg
  replace h:=h.grown hg (.inl rfl)
  clear hg
  obtain ⟨r0,r1,r2,r3,G⟩:=id S0
  go_wp2_with fail
  exact Lp (b:=false) Try.results70 rfl rfl (dm r0) (dp r1) (Kept.all _ _ (Kept.set _ _ (by simp <;> omega) (by first | omega | (simp <;> omega)) S0)) h S1.size (S1.lt (by simp)) (by have:=hle.out;simp [sg];omega) (Bx.out.le (Nat.sub_le _ _))
 ·replace hle:=Lib.hid (Nat.lt_of_not_le hle)
  go_enter Try.func70,Try.ntmps70
  go_wp2_with fail
  refine (AO (Hx.out.grown (Kept.all _ _ S0)) (Hy.out.grown (Kept.all _ _ S0)) (by omega) hle.out).mono ?_
  rintro e w' ⟨rfl,hg⟩
  replace S0:=Kept.grown _ _ S0 hg
  clear hg
  go_wp2_with fail
  have S1:=S0
  refine (sx (Hy.out.grown (Kept.all _ _ S0)) (Hx.out.grown (Kept.all _ _ S0)) (by omega) (Nat.le_of_lt hle.out)).mono ?_
  rintro e w' ⟨v,rfl,h,-,hg⟩
  obtain ⟨pv,nv,rfl⟩:=h.slice
  replace S0:=Kept.grown _ _ S0 hg
  clear hg
  go_wp2_with fail
  refine (Lq _ _ _ _ _).mono ?_
  rintro e w' ⟨rfl,hg⟩
  replace S0:=Kept.grown _ _ S0 hg
  replace h:=h.grown hg (.inl rfl)
  clear hg
  obtain ⟨r0,r1,r2,r3,G⟩:=id S0
  go_wp2_with fail
  exact Lp (b:=true) Try.results70 rfl rfl (dm r0) (dp r1) (Kept.all _ _ (Kept.set _ _ (by simp <;> omega) (by first | omega | (simp <;> omega)) S0)) h S1.size (S1.lt (by simp)) (by have:=hle.out;simp [sg];omega) (By.out.le (Nat.sub_le _ _))
theorem sy (b c:Bool) (X Y:Nat):sg (b != c) (X*Y)=sg b X*sg c Y:=by cases b <;> cases c <;> simp [sg,Int.neg_mul,Int.mul_neg]
set_option maxHeartbeats 2000000 in
theorem AP {v u:Value}{z y:Int}{i j:Nat}{w:World} (hx:aB w v z i) (hy:aB w u y j) (hi:i+j<=1000000) :
  Calls Try.prog 42 #[v,u] w (cY w (z*y) (i+j)):=by
 obtain ⟨b,s,X,rfl,hx,rfl⟩:=hx
 obtain ⟨p,n,cap,rfl⟩:=hx.slice
 obtain ⟨b',s',Y,rfl,hy,rfl⟩:=hy
 obtain ⟨q,m,cap',rfl⟩:=hy.slice
 have Hx:=Lib.hid hx
 have Hy:=Lib.hid hy
 have S0:Kept w [(w.heap.size+1,0,.bool b'),(w.heap.size+1,1,.slice q m cap'),(w.heap.size,0,.bool b),(w.heap.size,1,.slice p n cap)] [w.heap.size+1+1] (((w.alloc (.cells #[.bool b,.slice p n cap] 66)).alloc (.cells #[.bool b',.slice q m cap'] 66)).alloc (.cells #[.bool false,.slice none 0 0] 66)):=(((Kept.start w).box _ _ _ _ rfl).box _ _ _ _ (by simp)).res _ _ _ _ _ (by simp)
 clear hx hy
 go_enter Try.func42,Try.ntmps42
 go_wp2_with fail
 go_region_held3 (fun w'=>w'.cell? ⟨w.heap.size+1,0,none⟩=some (.bool b')∧w'.cell? ⟨w.heap.size+1,1,none⟩=some (.slice q m cap')∧w'.cell? ⟨w.heap.size,0,none⟩=some (.bool b)∧w'.cell? ⟨w.heap.size,1,none⟩=some (.slice p n cap)∧w'.cell? ⟨w.heap.size+1+1,0,none⟩=some (cellOf w' ⟨w.heap.size+1+1,0,none⟩)∧w'.cell? ⟨w.heap.size+1+1,1,none⟩=some (cellOf w' ⟨w.heap.size+1+1,1,none⟩)∧w'.frozen? ⟨w.heap.size+1+1,0,none⟩=false∧w'.frozen? ⟨w.heap.size+1+1,1,none⟩=false∧w.grownBy w' none) (first | exact Kept.step (W:=w) [(w.heap.size+1,0,.bool b'),(w.heap.size+1,1,.slice q m cap'),(w.heap.size,0,.bool b),(w.heap.size,1,.slice p n cap)] [w.heap.size+1+1] (by assumption) (by assumption) | exact Kept.set (W:=w) [(w.heap.size+1,0,.bool b'),(w.heap.size+1,1,.slice q m cap'),(w.heap.size,0,.bool b),(w.heap.size,1,.slice p n cap)] [w.heap.size+1+1] (by simp <;> omega) (by first | omega | (simp <;> omega)) (by assumption) | exact Kept.step [(w.heap.size+1,0,.bool b'),(w.heap.size+1,1,.slice q m cap'),(w.heap.size,0,.bool b),(w.heap.size,1,.slice p n cap)] [w.heap.size+1+1] (Lb _ _) S0)
  (first | (go_at_call 71;refine (AQ (Hx.out.grown (by go_split_ands;assumption)) (Hy.out.grown (by go_split_ands;assumption)) (by omega)).mono ?_;rintro e w' ⟨v,rfl,h,bd,hg⟩;obtain ⟨pv,nv,rfl⟩:=h.slice) | (go_at_call 65;refine (Lq _ _ _ _ _).mono ?_;rintro e w' ⟨rfl,hg⟩;replace h:=h.grown hg (.inl rfl)))
 rename_i hend
 go_wp2_with fail
 exact Lp Try.results42 rfl rfl hend.2.2.2.2.1 hend.2.2.2.2.2.1 hend.2.2.2.2.2.2.2.2 h (by first | omega | (simp <;> omega)) (by first | omega | (simp <;> omega)) (sy _ _ _ _) bd
theorem sA (b:Bool) (X Y:Nat):sg b (X+Y)=sg b X+sg b Y:=by cases b <;> simp [sg] <;> omega
set_option maxHeartbeats 2000000 in
theorem sB {b:Bool}{s s':Value}{X Y i j:Nat}{w:World} (hx:Num w s X i) (hy:Num w s' Y j) (hi:i+j<=1000000) :
  Calls Try.prog 40 #[.agg #[.bool b,s],.agg #[.bool b,s']] w (cY w (sg b X+sg b Y) (i+j+1)):=by
 obtain ⟨p,n,cap,rfl⟩:=hx.slice
 obtain ⟨q,m,cap',rfl⟩:=hy.slice
 have Hx:=Lib.hid hx
 have Hy:=Lib.hid hy
 have S0:Kept w [(w.heap.size+1,0,.bool b),(w.heap.size+1,1,.slice q m cap'),(w.heap.size,0,.bool b),(w.heap.size,1,.slice p n cap)] [w.heap.size+1+1] (((w.alloc (.cells #[.bool b,.slice p n cap] 66)).alloc (.cells #[.bool b,.slice q m cap'] 66)).alloc (.cells #[.bool false,.slice none 0 0] 66)):=(((Kept.start w).box _ _ _ _ rfl).box _ _ _ _ (by simp)).res _ _ _ _ _ (by simp)
 clear hx hy
 go_enter Try.func40,Try.ntmps40
 obtain ⟨c0,c1,c2,c3,r0,r1,r2,r3,G⟩:=id S0
 go_wp2_with fail
 go_region_held3 (fun w'=>w'.cell? ⟨w.heap.size+1,0,none⟩=some (.bool b)∧w'.cell? ⟨w.heap.size+1,1,none⟩=some (.slice q m cap')∧w'.cell? ⟨w.heap.size,0,none⟩=some (.bool b)∧w'.cell? ⟨w.heap.size,1,none⟩=some (.slice p n cap)∧w'.cell? ⟨w.heap.size+1+1,0,none⟩=some (cellOf w' ⟨w.heap.size+1+1,0,none⟩)∧w'.cell? ⟨w.heap.size+1+1,1,none⟩=some (cellOf w' ⟨w.heap.size+1+1,1,none⟩)∧w'.frozen? ⟨w.heap.size+1+1,0,none⟩=false∧w'.frozen? ⟨w.heap.size+1+1,1,none⟩=false∧w.grownBy w' none) (first | exact Kept.step (W:=w) [(w.heap.size+1,0,.bool b),(w.heap.size+1,1,.slice q m cap'),(w.heap.size,0,.bool b),(w.heap.size,1,.slice p n cap)] [w.heap.size+1+1] (by assumption) (by assumption) | exact Kept.set (W:=w) [(w.heap.size+1,0,.bool b),(w.heap.size+1,1,.slice q m cap'),(w.heap.size,0,.bool b),(w.heap.size,1,.slice p n cap)] [w.heap.size+1+1] (by simp <;> omega) (by first | omega | (simp <;> omega)) (by assumption) | exact Kept.step [(w.heap.size+1,0,.bool b),(w.heap.size+1,1,.slice q m cap'),(w.heap.size,0,.bool b),(w.heap.size,1,.slice p n cap)] [w.heap.size+1+1] (Lb _ _) S0)
  (first | (go_at_call 69;refine (AR (Hx.out.grown (by go_split_ands;assumption)) (Hy.out.grown (by go_split_ands;assumption)) (by omega)).mono ?_;rintro e w' ⟨v,rfl,h,bd,hg⟩;obtain ⟨pv,nv,rfl⟩:=h.slice) | (go_at_call 65;refine (Lq _ _ _ _ _).mono ?_;rintro e w' ⟨rfl,hg⟩;replace h:=h.grown hg (.inl rfl)))
 rename_i hend
 go_wp2_with fail
 exact Lp Try.results40 rfl rfl hend.2.2.2.2.1 hend.2.2.2.2.2.1 hend.2.2.2.2.2.2.2.2 h (by first | omega | (simp <;> omega)) (by first | omega | (simp <;> omega)) (sA _ _ _) bd
set_option maxHeartbeats 2000000 in
theorem AS {s s':Value}{X Y i j:Nat}{w:World} (hx:Num w s X i) (hy:Num w s' Y j) (hi:i+j<=1000000) :
  Calls Try.prog 40 #[.agg #[.bool true,s],.agg #[.bool false,s']] w (cY w ((Y:Int)-X) (j+i)):=by
 obtain ⟨p,n,cap,rfl⟩:=hx.slice
 obtain ⟨q,m,cap',rfl⟩:=hy.slice
 have Hx:=Lib.hid hx
 have Hy:=Lib.hid hy
 have S0:Kept w [(w.heap.size+1,0,.bool false),(w.heap.size+1,1,.slice q m cap'),(w.heap.size,0,.bool true),(w.heap.size,1,.slice p n cap)] [w.heap.size+1+1] (((w.alloc (.cells #[.bool true,.slice p n cap] 66)).alloc (.cells #[.bool false,.slice q m cap'] 66)).alloc (.cells #[.bool false,.slice none 0 0] 66)):=(((Kept.start w).box _ _ _ _ rfl).box _ _ _ _ (by simp)).res _ _ _ _ _ (by simp)
 clear hx hy
 go_enter Try.func40,Try.ntmps40
 go_wp2_with fail
 refine (sv (Hy.out.grown (Kept.all _ _ S0)) (Hx.out.grown (Kept.all _ _ S0)) (by omega)).mono ?_
 rintro e w' ⟨v,rfl,ho,bd,hg⟩
 obtain ⟨pv,nv,rfl,ho2⟩:=id ho
 clear ho2
 have S1:=S0
 replace S0:=Kept.grown _ _ S0 hg
 clear hg
 obtain ⟨c0,c1,c2,c3,r0,r1,r2,r3,G⟩:=id S0
 go_wp2_with fail
 exact nQ Try.results40 rfl rfl (dm r0) (dp r1) (Kept.all _ _ (Kept.set _ _ (by simp <;> omega) (by first | omega | (simp <;> omega)) S0)) ho S1.size (S1.lt (by simp)) bd
set_option maxHeartbeats 2000000 in
theorem AT {s s':Value}{X Y i j:Nat}{w:World} (hx:Num w s X i) (hy:Num w s' Y j) (hi:i+j<=1000000) :
  Calls Try.prog 40 #[.agg #[.bool false,s],.agg #[.bool true,s']] w (cY w ((X:Int)-Y) (i+j)):=by
 obtain ⟨p,n,cap,rfl⟩:=hx.slice
 obtain ⟨q,m,cap',rfl⟩:=hy.slice
 have Hx:=Lib.hid hx
 have Hy:=Lib.hid hy
 have S0:Kept w [(w.heap.size+1,0,.bool true),(w.heap.size+1,1,.slice q m cap'),(w.heap.size,0,.bool false),(w.heap.size,1,.slice p n cap)] [w.heap.size+1+1] (((w.alloc (.cells #[.bool false,.slice p n cap] 66)).alloc (.cells #[.bool true,.slice q m cap'] 66)).alloc (.cells #[.bool false,.slice none 0 0] 66)):=(((Kept.start w).box _ _ _ _ rfl).box _ _ _ _ (by simp)).res _ _ _ _ _ (by simp)
 clear hx hy
 go_enter Try.func40,Try.ntmps40
 go_wp2_with fail
 refine (sv (Hx.out.grown (Kept.all _ _ S0)) (Hy.out.grown (Kept.all _ _ S0)) (by omega)).mono ?_
 rintro e w' ⟨v,rfl,ho,bd,hg⟩
 obtain ⟨pv,nv,rfl,ho2⟩:=id ho
 clear ho2
 have S1:=S0
 replace S0:=Kept.grown _ _ S0 hg
 clear hg
 obtain ⟨c0,c1,c2,c3,r0,r1,r2,r3,G⟩:=id S0
 go_wp2_with fail
 exact nQ Try.results40 rfl rfl (dm r0) (dp r1) (Kept.all _ _ (Kept.set _ _ (by simp <;> omega) (by first | omega | (simp <;> omega)) S0)) ho S1.size (S1.lt (by simp)) bd
theorem cY.of {w w':World}{z y:Int}{k l:Nat}{e:Ending} (h:cY w z k e w') (hz:z=y) (hk:k<=l):cY w y l e w':=by
 subst hz
 obtain ⟨v,h1,h2,h3,h4⟩:=h
 exact ⟨v,h1,h2,h3.more hk,h4⟩
theorem sC {v u:Value}{z y:Int}{i j:Nat}{w:World} (hx:aB w v z i) (hy:aB w u y j) (hi:i+j<=1000000) :
  Calls Try.prog 40 #[v,u] w (cY w (z+y) (i+j+1)):=by
 obtain ⟨b,s,X,rfl,hx,rfl⟩:=hx
 obtain ⟨b',s',Y,rfl,hy,rfl⟩:=hy
 cases b <;> cases b'
 ·exact (sB hx hy hi).mono fun _ _ h=>h
 ·exact (AT hx hy hi).mono fun _ _ h=>h.of (by simp [sg];omega) (by omega)
 ·exact (AS hx hy hi).mono fun _ _ h=>h.of (by simp [sg];omega) (by omega)
 ·exact (sB hx hy hi).mono fun _ _ h=>h
set_option maxHeartbeats 1000000 in
theorem AU {v u:Value}{z y:Int}{i j:Nat}{w:World} (hx:aB w v z i) (hy:aB w u y j) (hi:i+j<=1000000) :
  Calls Try.prog 79 #[v,u] w (cY w (z-y) (i+j+1)):=by
 obtain ⟨b,s,X,rfl,hx,rfl⟩:=hx
 obtain ⟨p,n,cap,rfl⟩:=hx.slice
 obtain ⟨b',s',Y,rfl,hy,rfl⟩:=hy
 obtain ⟨q,m,cap',rfl⟩:=hy.slice
 have Hx:=Lib.hid hx
 have Hy:=Lib.hid hy
 have S0:Kept w [(w.heap.size+1,0,.bool b'),(w.heap.size+1,1,.slice q m cap'),(w.heap.size,0,.bool b),(w.heap.size,1,.slice p n cap)] [w.heap.size+1+1] (((w.alloc (.cells #[.bool b,.slice p n cap] 66)).alloc (.cells #[.bool b',.slice q m cap'] 66)).alloc (.cells #[.bool false,.slice none 0 0] 66)):=(((Kept.start w).box _ _ _ _ rfl).box _ _ _ _ (by simp)).res _ _ _ _ _ (by simp)
 have Vx:=Lib.hid (show aB w (.agg #[.bool b,.slice p n cap]) (sg b X) i from ⟨_,_,_,rfl,hx,rfl⟩)
 have Vy:=Lib.hid (show aB w (.agg #[.bool (!b'),.slice q m cap']) (- sg b' Y) j from ⟨_,_,_,rfl,hy,(sm _ _).symm⟩)
 clear hx hy Hx Hy
 rw [Int.sub_eq_add_neg]
 go_enter Try.func79,Try.ntmps79
 go_wp2_with fail
 refine (sC (Vx.out.grown (Kept.all _ _ S0)) (Vy.out.grown (Kept.all _ _ S0)) hi).mono ?_
 rintro e w' ⟨v,rfl,ho,bd,hg⟩
 obtain ⟨pv,nv,rfl,ho2⟩:=id ho
 clear ho2
 have S1:=S0
 replace S0:=Kept.grown _ _ S0 hg
 clear hg
 obtain ⟨c0,c1,c2,c3,r0,r1,r2,r3,G⟩:=id S0
 go_wp2_with fail
 exact nQ Try.results79 rfl rfl (dm r0) (dp r1) (Kept.all _ _ (Kept.set _ _ (by simp <;> omega) (by first | omega | (simp <;> omega)) S0)) ho S1.size (S1.lt (by simp)) bd
theorem AV {z y q r:Int} (hy:y≠0) (he:z=y*q+r) (h0:0<=r) (h1:r<y.natAbs):z / y=q∧z % y=r:=by
 rcases Int.lt_or_gt_of_ne hy with h | h
 ·have:=(Int.ediv_emod_unique (a:=z) (b:=-y) (r:=r) (q:=-q) (by omega)).2 ⟨by rw [he,Int.neg_mul_neg];omega,h0,by omega⟩
  rw [Int.ediv_neg,Int.emod_neg] at this
  omega
 ·exact (Int.ediv_emod_unique (by omega)).2 ⟨by rw [he];omega,h0,by omega⟩
theorem AW {b b':Bool}{X Y:Nat} (hY:Y≠0) (h:b=false∨X % Y=0):sg b X / sg b' Y=sg (b != b') (X / Y)∧sg b X % sg b' Y=((X % Y:Nat):Int):=by
 have e:=Nat.div_add_mod X Y
 have l:=Nat.mod_lt X (Nat.pos_of_ne_zero hY)
 refine AV (by cases b' <;> simp [sg] <;> omega) ?_ (by omega) (by rw [Lf];omega)
 have e2:(X:Int)=(Y:Int)*((X / Y:Nat):Int)+((X % Y:Nat):Int):=by rw [<- Int.natCast_mul];omega
 rcases h with rfl | h
 ·generalize ((X % Y:Nat):Int)=r at *
  generalize X / Y=q at *
  cases b' <;> simp only [sg] <;> grind
 ·have h':((X % Y:Nat):Int)=0:=by omega
  rw [h'] at e2 ⊢
  generalize X / Y=q at *
  cases b <;> cases b' <;> simp only [sg] <;> grind
def nR (w:World) (q r:Int) (i j:Nat) (e:Ending) (w':World):Prop:=
 ∃v u,e = .returned (.tuple #[v,u,.int .i64 0])∧dw w' w.heap.size v q∧dw w' w.heap.size u r∧Bd q.natAbs i∧Bd r.natAbs j∧w.grownBy w' none
theorem nR.of {w w':World}{q r q' r':Int}{i j i' j':Nat}{e:Ending} (h:nR w q r i j e w') (h1:q=q') (h2:r=r') (hi:i<=i') (hj:j<=j'):nR w q' r' i' j' e w':=by
 subst h1 h2
 obtain ⟨v,u,a1,a2,a3,a4,a5,a6⟩:=h
 exact ⟨v,u,a1,a2,a3,a4.more hi,a5.more hj,a6⟩
theorem Num.two (w:World) (x y:Nat) (hx:x<4294967296) (hy:y<4294967296):Num (w.alloc (.cells #[.int .u32 x,.int .u32 y] 85)) (.slice (some ⟨w.heap.size,0,none⟩) 2 2) (x+4294967296*y) 2:=by
 refine ⟨[x,y],⟨_,2,rfl,Nat.le_refl _,by omega,.inr ⟨w.heap.size,0,rfl,by simp,fun j hj=>?_⟩⟩,All.cons hx (All.cons hy (All.nil _)),by simp [val],Nat.le_refl _⟩
 have:j=0∨j=1:=by simp at hj;omega
 rcases this with rfl | rfl <;> simp [go_sem,nth]
theorem sD (X:Nat) (w:World) (hX:X<18446744073709551616):Calls Try.prog 80 #[.int .u64 X] w (fy w X 2):=by
 have h2:X / 4294967296<4294967296:=by omega
 have e1:((X:Int) % 4294967296)=((X % 4294967296:Nat):Int):=by omega
 have e2:((X:Int) / 4294967296)=((X / 4294967296:Nat):Int):=by omega
 have hv:X % 4294967296+4294967296*(X / 4294967296)=X:=by omega
 generalize hA:X / 4294967296=A at *
 generalize hB:X % 4294967296=B at *
 go_enter Try.func80,Try.ntmps80
 go_wp2_with fail
 refine (nP (Num.two w B A (by omega) (by omega)) (by omega)).mono ?_
 rintro e w' ⟨v,rfl,h,bd,hg⟩
 rw [hv] at h bd
 have G:=be (KQ w (.cells #[.int .u32 B,.int .u32 A] 85) none) hg
 have h':=h.mono (KQ w (.cells #[.int .u32 B,.int .u32 A] 85) none).size
 clear hA hB e1 e2 h hg
 go_wp2_with fail
 go_ret
 exact ⟨v,rfl,h',bd,G⟩
set_option maxHeartbeats 1000000 in
theorem AX (N:Nat) (w:World) (hN:N<=9223372036854775807):Calls Try.prog 51 #[.int .i64 (N:Int)] w (cY w ((N:Int)) 2):=by
 have S0:Kept w [] [w.heap.size] (w.alloc (.cells #[.bool false,.slice none 0 0] 66)):=(Kept.start w).res _ _ _ _ _ rfl
 go_enter Try.func51,Try.ntmps51
 go_wp2_with fail
 have S1:=S0
 refine (sD N _ (by omega)).mono ?_
 rintro e w1 ⟨v,rfl,h,bd,hg⟩
 obtain ⟨pv,nv,rfl⟩:=h.slice
 replace S0:=S0.grown _ _ hg
 clear hg
 go_wp2_with fail
 refine (Lq _ _ _ _ _).mono ?_
 rintro e w2 ⟨rfl,hg⟩
 replace h:=h.grown hg (.inl rfl)
 replace S0:=S0.grown _ _ hg
 clear hg
 obtain ⟨r0,r1,f0,f1,G⟩:=id S0
 go_wp2_with fail
 exact Lp (b:=false) Try.results51 rfl rfl (dm r0) (dp r1) (Kept.all _ _ (Kept.set _ _ (by simp) (Nat.le_refl _) S0)) h S1.size (S1.lt (by simp)) rfl bd
set_option maxHeartbeats 1000000 in
theorem AY (N:Nat) (w:World) (hN:N<=9223372036854775808) (h0:0<N):Calls Try.prog 51 #[.int .i64 (-(N:Int))] w (cY w ((-(N:Int))) 2):=by
 have S0:Kept w [] [w.heap.size] (w.alloc (.cells #[.bool false,.slice none 0 0] 66)):=(Kept.start w).res _ _ _ _ _ rfl
 have E:=Lib.hid (show IntKind.u64.wrap (-IntKind.u64.wrap (-(N:Int)))=N by rw [IntKind.wrap_u64,IntKind.wrap_u64];omega)
 go_enter Try.func51,Try.ntmps51
 go_wp2_with fail
 rw [E.out]
 have S1:=S0
 refine (sD N _ (by omega)).mono ?_
 rintro e w1 ⟨v,rfl,h,bd,hg⟩
 obtain ⟨pv,nv,rfl⟩:=h.slice
 replace S0:=S0.grown _ _ hg
 clear hg
 go_wp2_with fail
 refine (Lq _ _ _ _ _).mono ?_
 rintro e w2 ⟨rfl,hg⟩
 replace h:=h.grown hg (.inl rfl)
 replace S0:=S0.grown _ _ hg
 clear hg
 obtain ⟨r0,r1,f0,f1,G⟩:=id S0
 go_wp2_with fail
 exact Lp (b:=true) Try.results51 rfl rfl (dm r0) (dp r1) (Kept.all _ _ (Kept.set _ _ (by simp) (Nat.le_refl _) S0)) h S1.size (S1.lt (by simp)) rfl bd
theorem AZ (z:Int) (w:World) (h1 : -9223372036854775808<=z) (h2:z<=9223372036854775807):Calls Try.prog 51 #[.int .i64 z] w (cY w z 2):=by
 rcases Int.lt_or_le z 0 with h | h
 ·obtain ⟨N,rfl⟩:∃N:Nat,z = -(N:Int):=⟨z.natAbs,by omega⟩
  exact AY N w (by omega) (by omega)
 ·obtain ⟨N,rfl⟩:∃N:Nat,z=(N:Int):=⟨z.natAbs,by omega⟩
  exact AX N w (by omega)
end Go.Proofs.Ytomamliepbhegaa
