/- The reference's whole numbers, one contract a function: made, From, To, Neg, Add, Sub, Mul, Sign, Cmp, Zero. The reference's whole numbers: Mul, Add, Sub, Cmp of numbers, Of, Same. The reference's small numbers: Of. Helpers of the laws of layer 2: Same, keep.Int, of, is. The reference's Zero. -/
import Derived.Test.YthmcngjhkmpneaaGreatIntA
set_option maxRecDepth 100000
namespace Go.Proofs.YthmcngjhkmpneaaGreat
open Go.RowKit
def ae (w:World) (v:Value) (z:Int) (k:Nat):Prop:=∃p cap,v = .agg #[.slice p (af 10000 z.natAbs).length cap,.bool (decide (z<0))]∧bw w (.slice p (af 10000 z.natAbs).length cap) z.natAbs k
theorem ae.grown {w w':World}{v:Value}{z:Int}{k:Nat} (h:ae w v z k) (g:w.grownBy w' none):ae w' v z k:=by
 obtain ⟨p,cap,h1,h2⟩:=h
 exact ⟨p,cap,h1,h2.grown g⟩
theorem ae.bd {w:World}{v:Value}{z:Int}{k:Nat} (h:ae w v z k):Bd z.natAbs k:=by
 obtain ⟨p,cap,h1,h2⟩:=h
 exact h2.2
def iJ (w:World) (B:Nat) (v:Value) (z:Int):Prop:=∃p cap,v = .agg #[.slice p (af 10000 z.natAbs).length cap,.bool (decide (z<0))]∧Own w 3 .i64 B (.slice p (af 10000 z.natAbs).length cap) (af 10000 z.natAbs)
theorem iJ.grown {w w':World}{B:Nat}{v:Value}{z:Int} (h:iJ w B v z) (g:w.grownBy w' none):iJ w' B v z:=by
 obtain ⟨p,cap,h1,h2⟩:=h
 exact ⟨p,cap,h1,h2.grown g (.inl rfl)⟩
theorem iJ.vo {w:World}{B:Nat}{v:Value}{z:Int}{k:Nat} (h:iJ w B v z) (hb:Bd z.natAbs k):ae w v z k:=by
 obtain ⟨p,cap,h1,h2⟩:=h
 exact ⟨p,cap,h1,h2.sl,hb⟩
def dc (w:World) (z:Int) (k:Nat) (e:Ending) (w':World):Prop:=∃v,e = .returned v∧iJ w' w.heap.size v z∧Bd z.natAbs k∧w.grownBy w' none
theorem dc.of {w w':World}{z y:Int}{k l:Nat}{e:Ending} (h:dc w z k e w') (hz:z=y) (hk:k<=l):dc w y l e w':=by
 subst hz
 obtain ⟨v,h1,h2,h3,h4⟩:=h
 exact ⟨v,h1,h2,h3.more hk,h4⟩
theorem eU (b:Bool) (p:Option Addr) (n cap:Nat) (w:World) :
  Calls Tryz.prog 110 #[.slice p n cap,.bool b] w fun e w'=>e = .returned (.agg #[.slice p n cap,.bool (b && decide (0<n))])∧w.grownBy w' none:=by
 go_enter Tryz.func110,Tryz.ntmps110
 cases b
 all_goals
  go_wp2_with fail
  simp [bodyPost,results,Tryz.results110,go_sem]
  exact aF _ _ _
theorem fQ {fn:Func}{a:Act}{W w:World}{r g X k B cap n:Nat}{b:Bool}{p:Option Addr}{z:Int}{x y:Value} (hres:fn.results = #[ResultVar.cell r 42]) (hd:a.defers = []) (hr:a.tmps[r]?=some (.pointer (some ⟨g,0,none⟩)))
  (h0:(set2 w g (.slice p n cap) (.bool (b && decide (0<n)))).cell? ⟨g,0,none⟩=some x) (h1:(set2 w g (.slice p n cap) (.bool (b && decide (0<n)))).cell? ⟨g,1,none⟩=some y)
  (hG:W.grownBy (set2 w g (.slice p n cap) (.bool (b && decide (0<n)))) none)
  (ho:Own w 3 .i64 B (.slice p n cap) (af 10000 X)) (hB:W.heap.size<=B) (hg:g<B) (hn:(af 10000 X).length=n) (hz:sg b X=z) (hb:Bd X k) :
  bodyPost Tryz.prog fn (dc W z k) .ret a (set2 w g (.slice p n cap) (.bool (b && decide (0<n)))):=by
 subst hz hn
 refine mM hres hd hr (kK h0) (kL h1) ⟨_,rfl,⟨p,cap,?_,?_⟩,by rw [cC];exact hb,hG⟩
 ·rw [jl,cC,iw _ _ (by omega)]
 ·rw [cC]
  exact ((ho.mono hB).grown (ep _ _ _ _) (own_ne ho hg))
theorem LO {fn:Func}{a:Act}{W w:World}{r g k B:Nat}{z:Int}{u v x y:Value} (hres:fn.results = #[ResultVar.cell r 42]) (hd:a.defers = []) (hr:a.tmps[r]?=some (.pointer (some ⟨g,0,none⟩)))
  (h0:(set2 w g u v).cell? ⟨g,0,none⟩=some x) (h1:(set2 w g u v).cell? ⟨g,1,none⟩=some y) (hG:W.grownBy (set2 w g u v) none)
  (ho:iJ w B (.agg #[u,v]) z) (hB:W.heap.size<=B) (hg:g<B) (hb:Bd z.natAbs k):bodyPost Tryz.prog fn (dc W z k) .ret a (set2 w g u v):=by
 refine mM hres hd hr (kK h0) (kL h1) ⟨_,rfl,?_,hb,hG⟩
 obtain ⟨p,cap,h2,h3⟩:=ho
 refine ⟨p,cap,h2,?_⟩
 simp only [Value.agg.injEq,Array.mk.injEq,List.cons.injEq,and_true] at h2
 obtain ⟨rfl,-⟩:=h2
 exact ((h3.mono hB).grown (ep _ _ _ _) (own_ne h3 hg))
set_option maxHeartbeats 1000000 in
theorem EE {v:Value}{z:Int}{k:Nat}{w:World} (hx:ae w v z k) (hk:k<=1000000) :
  Calls Tryz.prog 54 #[v] w (cZ w z k):=by
 have bx:=hx.bd
 obtain ⟨p,cap,rfl,hx⟩:=hx
 have Hx:=Lib.hid hx
 clear hx
 have S0:Kept w [(w.heap.size,0,.slice p (af 10000 z.natAbs).length cap),(w.heap.size,1,.bool (decide (z<0)))] [w.heap.size+1] ((w.alloc (.cells #[.slice p (af 10000 z.natAbs).length cap,.bool (decide (z<0))] 42)).alloc (.cells #[.bool false,.slice none 0 0] 51)):=((Kept.start w).box _ _ _ _ rfl).res _ _ _ _ _ (by simp)
 go_enter Tryz.func54,Tryz.ntmps54
 go_wp2_with fail
 go_region_held3 (fun w'=>w'.cell? ⟨w.heap.size,0,none⟩=some (.slice p (af 10000 z.natAbs).length cap)∧w'.cell? ⟨w.heap.size,1,none⟩=some (.bool (decide (z<0)))∧w'.cell? ⟨w.heap.size+1,0,none⟩=some (cellOf w' ⟨w.heap.size+1,0,none⟩)∧w'.cell? ⟨w.heap.size+1,1,none⟩=some (cellOf w' ⟨w.heap.size+1,1,none⟩)∧w'.frozen? ⟨w.heap.size+1,0,none⟩=false∧w'.frozen? ⟨w.heap.size+1,1,none⟩=false∧w.grownBy w' none) (first | exact Kept.step (W:=w) [(w.heap.size,0,.slice p (af 10000 z.natAbs).length cap),(w.heap.size,1,.bool (decide (z<0)))] [w.heap.size+1] (by assumption) (by assumption) | exact Kept.set (W:=w) [(w.heap.size,0,.slice p (af 10000 z.natAbs).length cap),(w.heap.size,1,.bool (decide (z<0)))] [w.heap.size+1] (by simp <;> omega) (by first | omega | (simp <;> omega)) (by assumption) | exact Kept.step [(w.heap.size,0,.slice p (af 10000 z.natAbs).length cap),(w.heap.size,1,.bool (decide (z<0)))] [w.heap.size+1] (ch _ _) S0)
  (first | (go_at_call 101;refine (yk (Hx.out.grown (by go_split_ands;assumption)).1 (by have:=Hx.out.len;omega)).mono ?_;rintro e w' ⟨v,rfl,h,hg⟩;obtain ⟨pv,nv,rfl⟩:=h.slice))
 rename_i hend
 go_wp2_with fail
 exact B8 Tryz.results54 rfl rfl hend.2.2.1 hend.2.2.2.1 hend.2.2.2.2.2.2 ⟨_,_,rfl,h⟩ (by first | omega | (simp <;> omega)) (by first | omega | (simp <;> omega)) bx
set_option maxHeartbeats 1000000 in
theorem vD {v:Value}{z:Int}{k:Nat}{w:World} (hx:ae w v z k) :
  Calls Tryz.prog 92 #[v] w fun e w'=>∃v,e = .returned v∧ae w' v (-z) k∧w.grownBy w' none:=by
 have bx:=hx.bd
 obtain ⟨p,cap,rfl,hx⟩:=hx
 have Hx:=Lib.hid hx
 clear hx
 clear bx
 have S0:Kept w [(w.heap.size,0,.slice p (af 10000 z.natAbs).length cap),(w.heap.size,1,.bool (decide (z<0)))] [w.heap.size+1] ((w.alloc (.cells #[.slice p (af 10000 z.natAbs).length cap,.bool (decide (z<0))] 42)).alloc (.cells #[.slice none 0 0,.bool false] 42)):=((Kept.start w).box _ _ _ _ rfl).res _ _ _ _ _ (by simp)
 go_enter Tryz.func92,Tryz.ntmps92
 go_wp2_with fail
 refine (eU _ _ _ _ _).mono ?_
 rintro e w1 ⟨rfl,hg⟩
 replace S0:=Kept.grown _ _ S0 hg
 clear hg
 obtain ⟨c0,c1,r0,r1,f0,f1,G⟩:=id S0
 go_wp2_with fail
 have G2:=Kept.all _ _ (Kept.set (g:=w.heap.size+1) (u:=.slice p (af 10000 z.natAbs).length cap) (v:=.bool (!decide (z<0) && decide (0<(af 10000 z.natAbs).length))) _ _ (by simp <;> omega) (by omega) S0)
 refine mM Tryz.results92 rfl rfl (cM r0) (cN r1) ⟨_,rfl,⟨p,cap,?_,?_⟩,G2⟩
 ·rw [Int.natAbs_neg,iw _ _ (by omega)]
  congr 5
  rw [Bool.eq_iff_iff]
  simp
  omega
 ·rw [Int.natAbs_neg]
  exact Hx.out.grown G2
theorem LP {v:Value}{z:Int}{k:Nat}{w:World} (hx:ae w v z k) :
  Calls Tryz.prog 144 #[v] w fun e w'=>e = .returned (.int .i64 (cj z 0))∧w.grownBy w' none:=by
 have bx:=hx.bd
 obtain ⟨p,cap,rfl,hx⟩:=hx
 have Hx:=Lib.hid hx
 clear hx
 clear bx Hx
 have hl:=o6 (b:=10000) (by omega) (n:=z.natAbs)
 generalize (af 10000 z.natAbs).length=l at *
 by_cases h0:z=0
 ·obtain rfl:l=0:=by omega
  subst h0
  go_enter Tryz.func144,Tryz.ntmps144
  go_wp2_with fail
  go_ret
  exact ⟨rfl,aF _ _ _⟩
 ·have hl':(l:Int)≠0:=by omega
  by_cases hn:z<0
  ·rw [cj,if_pos hn,decide_eq_true hn]
   clear hl
   go_enter Tryz.func144,Tryz.ntmps144
   go_wp2_with fail
   go_ret
   exact ⟨rfl,aF _ _ _⟩
  ·rw [cj,if_neg hn,if_neg h0,decide_eq_false hn]
   clear hl
   go_enter Tryz.func144,Tryz.ntmps144
   go_wp2_with fail
   go_ret
   exact ⟨rfl,aF _ _ _⟩
set_option maxHeartbeats 2000000 in
theorem LQ {b b':Bool}{p q:Option Addr}{n m cap cap' X Y i j:Nat}{w:World} (hx:bw w (.slice p n cap) X i) (hy:bw w (.slice q m cap') Y j) (hi:i+j<=1000000) :
  Calls Tryz.prog 69 #[.agg #[.slice p n cap,.bool b],.agg #[.slice q m cap',.bool b']] w (dc w (sg b X*sg b' Y) (i+j)):=by
 have Hx:=Lib.hid hx
 have Hy:=Lib.hid hy
 have S0:Kept w [(w.heap.size+1,0,(.slice q m cap')),(w.heap.size+1,1,(.bool b')),(w.heap.size,0,(.slice p n cap)),(w.heap.size,1,(.bool b))] [w.heap.size+1+1] (((w.alloc (.cells #[.slice p n cap,.bool b] 42)).alloc (.cells #[.slice q m cap',.bool b'] 42)).alloc (.cells #[.slice none 0 0,.bool false] 42)):=(((Kept.start w).box _ _ _ _ rfl).box _ _ _ _ (by simp)).res _ _ _ _ _ (by simp)
 clear hx hy
 go_enter Tryz.func69,Tryz.ntmps69
 go_wp2_with fail
 go_region_held3 (fun w'=>w'.cell? ⟨w.heap.size+1,0,none⟩=some ((.slice q m cap'))∧w'.cell? ⟨w.heap.size+1,1,none⟩=some ((.bool b'))∧w'.cell? ⟨w.heap.size,0,none⟩=some ((.slice p n cap))∧w'.cell? ⟨w.heap.size,1,none⟩=some ((.bool b))∧w'.cell? ⟨w.heap.size+1+1,0,none⟩=some (cellOf w' ⟨w.heap.size+1+1,0,none⟩)∧w'.cell? ⟨w.heap.size+1+1,1,none⟩=some (cellOf w' ⟨w.heap.size+1+1,1,none⟩)∧w'.frozen? ⟨w.heap.size+1+1,0,none⟩=false∧w'.frozen? ⟨w.heap.size+1+1,1,none⟩=false∧w.grownBy w' none) (first | exact Kept.step (W:=w) [(w.heap.size+1,0,(.slice q m cap')),(w.heap.size+1,1,(.bool b')),(w.heap.size,0,(.slice p n cap)),(w.heap.size,1,(.bool b))] [w.heap.size+1+1] (by assumption) (by assumption) | exact Kept.set (W:=w) [(w.heap.size+1,0,(.slice q m cap')),(w.heap.size+1,1,(.bool b')),(w.heap.size,0,(.slice p n cap)),(w.heap.size,1,(.bool b))] [w.heap.size+1+1] (by simp <;> omega) (by first | omega | (simp <;> omega)) (by assumption) | exact Kept.step [(w.heap.size+1,0,(.slice q m cap')),(w.heap.size+1,1,(.bool b')),(w.heap.size,0,(.slice p n cap)),(w.heap.size,1,(.bool b))] [w.heap.size+1+1] (ch _ _) S0)
  (first | (go_at_call 117;refine (LJ (Hx.out.grown (by go_split_ands;assumption)) (Hy.out.grown (by go_split_ands;assumption)) (by omega)).mono ?_;rintro e w' ⟨v,rfl,h,bd,hg⟩;obtain ⟨pv,nv,rfl⟩:=h.slice) | (go_at_call 110;refine (eU _ _ _ _ _).mono ?_;rintro e w' ⟨rfl,hg⟩;replace h:=h.grown hg (.inl rfl)))
 rename_i hend
 go_wp2_with fail
 exact fQ Tryz.results69 rfl rfl hend.2.2.2.2.1 hend.2.2.2.2.2.1 hend.2.2.2.2.2.2.2.2 h (by first | omega | (simp <;> omega)) (by first | omega | (simp <;> omega)) rfl (vJ _ _ _ _) bd
set_option maxHeartbeats 2000000 in
theorem yw {b:Bool}{p q:Option Addr}{n m cap cap' X Y i j:Nat}{w:World} (hx:bw w (.slice p n cap) X i) (hy:bw w (.slice q m cap') Y j) (hi:i+j<=1000000) :
  Calls Tryz.prog 90 #[.agg #[.slice p n cap,.bool b],.agg #[.slice q m cap',.bool b]] w (dc w (sg b X+sg b Y) (i+j+1)):=by
 have Hx:=Lib.hid hx
 have Hy:=Lib.hid hy
 have S0:Kept w [(w.heap.size+1,0,(.slice q m cap')),(w.heap.size+1,1,(.bool b)),(w.heap.size,0,(.slice p n cap)),(w.heap.size,1,(.bool b))] [w.heap.size+1+1] (((w.alloc (.cells #[.slice p n cap,.bool b] 42)).alloc (.cells #[.slice q m cap',.bool b] 42)).alloc (.cells #[.slice none 0 0,.bool false] 42)):=(((Kept.start w).box _ _ _ _ rfl).box _ _ _ _ (by simp)).res _ _ _ _ _ (by simp)
 clear hx hy
 go_enter Tryz.func90,Tryz.ntmps90
 obtain ⟨c0,c1,c2,c3,r0,r1,r2,r3,G⟩:=id S0
 go_wp2_with fail
 go_region_held3 (fun w'=>w'.cell? ⟨w.heap.size+1,0,none⟩=some ((.slice q m cap'))∧w'.cell? ⟨w.heap.size+1,1,none⟩=some ((.bool b))∧w'.cell? ⟨w.heap.size,0,none⟩=some ((.slice p n cap))∧w'.cell? ⟨w.heap.size,1,none⟩=some ((.bool b))∧w'.cell? ⟨w.heap.size+1+1,0,none⟩=some (cellOf w' ⟨w.heap.size+1+1,0,none⟩)∧w'.cell? ⟨w.heap.size+1+1,1,none⟩=some (cellOf w' ⟨w.heap.size+1+1,1,none⟩)∧w'.frozen? ⟨w.heap.size+1+1,0,none⟩=false∧w'.frozen? ⟨w.heap.size+1+1,1,none⟩=false∧w.grownBy w' none) (first | exact Kept.step (W:=w) [(w.heap.size+1,0,(.slice q m cap')),(w.heap.size+1,1,(.bool b)),(w.heap.size,0,(.slice p n cap)),(w.heap.size,1,(.bool b))] [w.heap.size+1+1] (by assumption) (by assumption) | exact Kept.set (W:=w) [(w.heap.size+1,0,(.slice q m cap')),(w.heap.size+1,1,(.bool b)),(w.heap.size,0,(.slice p n cap)),(w.heap.size,1,(.bool b))] [w.heap.size+1+1] (by simp <;> omega) (by first | omega | (simp <;> omega)) (by assumption) | exact Kept.step [(w.heap.size+1,0,(.slice q m cap')),(w.heap.size+1,1,(.bool b)),(w.heap.size,0,(.slice p n cap)),(w.heap.size,1,(.bool b))] [w.heap.size+1+1] (ch _ _) S0)
  (first | (go_at_call 136;refine (LI (Hx.out.grown (by go_split_ands;assumption)) (Hy.out.grown (by go_split_ands;assumption)) (by omega)).mono ?_;rintro e w' ⟨v,rfl,h,bd,hg⟩;obtain ⟨pv,nv,rfl⟩:=h.slice) | (go_at_call 110;refine (eU _ _ _ _ _).mono ?_;rintro e w' ⟨rfl,hg⟩;replace h:=h.grown hg (.inl rfl)))
 rename_i hend
 go_wp2_with fail
 exact fQ Tryz.results90 rfl rfl hend.2.2.2.2.1 hend.2.2.2.2.2.1 hend.2.2.2.2.2.2.2.2 h (by first | omega | (simp <;> omega)) (by first | omega | (simp <;> omega)) rfl (vK _ _ _) bd
set_option maxHeartbeats 2000000 in
theorem LR {p q:Option Addr}{n m cap cap' X Y i j:Nat}{w:World} (hx:bw w (.slice p n cap) X i) (hy:bw w (.slice q m cap') Y j) (hi:i+j<=1000000) (hc:Y<=X) :
  Calls Tryz.prog 90 #[.agg #[.slice p n cap,.bool true],.agg #[.slice q m cap',.bool false]] w (dc w (sg true (X-Y)) (i)):=by
 have Hx:=Lib.hid hx
 have Hy:=Lib.hid hy
 have Hc:=Lib.hid hc
 have S0:Kept w [(w.heap.size+1,0,(.slice q m cap')),(w.heap.size+1,1,(.bool false)),(w.heap.size,0,(.slice p n cap)),(w.heap.size,1,(.bool true))] [w.heap.size+1+1] (((w.alloc (.cells #[.slice p n cap,.bool true] 42)).alloc (.cells #[.slice q m cap',.bool false] 42)).alloc (.cells #[.slice none 0 0,.bool false] 42)):=(((Kept.start w).box _ _ _ _ rfl).box _ _ _ _ (by simp)).res _ _ _ _ _ (by simp)
 clear hx hy hc
 go_enter Tryz.func90,Tryz.ntmps90
 go_wp2_with fail
 refine (vS (Hx.out.grown (Kept.all _ _ S0)) (Hy.out.grown (Kept.all _ _ S0))).mono ?_
 rintro e w1 ⟨rfl,hg⟩
 have hge:=pT Hc.out
 generalize ij X Y=r at *
 have s1:=hg.size
 have s2:=S0.lt (g:=w.heap.size+1+1) (by simp)
 have Sq:=S0.size
 replace S0:=Kept.grown _ _ S0 hg
 clear hg
 obtain ⟨c0,c1,c2,c3,r0,r1,r2,r3,G⟩:=id S0
 go_wp2_with fail
 go_region_held3 (fun w'=>w'.cell? ⟨w.heap.size+1,0,none⟩=some ((.slice q m cap'))∧w'.cell? ⟨w.heap.size+1,1,none⟩=some ((.bool false))∧w'.cell? ⟨w.heap.size,0,none⟩=some ((.slice p n cap))∧w'.cell? ⟨w.heap.size,1,none⟩=some ((.bool true))∧w'.cell? ⟨w.heap.size+1+1,0,none⟩=some (cellOf w' ⟨w.heap.size+1+1,0,none⟩)∧w'.cell? ⟨w.heap.size+1+1,1,none⟩=some (cellOf w' ⟨w.heap.size+1+1,1,none⟩)∧w'.frozen? ⟨w.heap.size+1+1,0,none⟩=false∧w'.frozen? ⟨w.heap.size+1+1,1,none⟩=false∧w.grownBy w' none) (first | exact Kept.step (W:=w) [(w.heap.size+1,0,(.slice q m cap')),(w.heap.size+1,1,(.bool false)),(w.heap.size,0,(.slice p n cap)),(w.heap.size,1,(.bool true))] [w.heap.size+1+1] (by assumption) (by assumption) | exact Kept.set (W:=w) [(w.heap.size+1,0,(.slice q m cap')),(w.heap.size+1,1,(.bool false)),(w.heap.size,0,(.slice p n cap)),(w.heap.size,1,(.bool true))] [w.heap.size+1+1] (by simp <;> omega) (by first | omega | (simp <;> omega)) (by assumption) | exact Kept.step [(w.heap.size+1,0,(.slice q m cap')),(w.heap.size+1,1,(.bool false)),(w.heap.size,0,(.slice p n cap)),(w.heap.size,1,(.bool true))] [w.heap.size+1+1] (ch _ _) S0)
  (first | (go_at_call 138;refine (no (Hx.out.grown (by go_split_ands;assumption)) (Hy.out.grown (by go_split_ands;assumption)) (by omega) Hc.out).mono ?_;rintro e w' ⟨v,rfl,h,bd,hg⟩;obtain ⟨pv,nv,rfl⟩:=h.slice) | (go_at_call 110;refine (eU _ _ _ _ _).mono ?_;rintro e w' ⟨rfl,hg⟩;replace h:=h.grown hg (.inl rfl)))
 rename_i hend
 go_wp2_with fail
 exact fQ (b:=true) Tryz.results90 rfl rfl hend.2.2.2.2.1 hend.2.2.2.2.2.1 hend.2.2.2.2.2.2.2.2 h (by simp at s1 s2 Sq ⊢ <;> omega) (by simp at s1 s2 Sq ⊢ <;> omega) rfl (rfl) bd
set_option maxHeartbeats 2000000 in
theorem LS {p q:Option Addr}{n m cap cap' X Y i j:Nat}{w:World} (hx:bw w (.slice p n cap) X i) (hy:bw w (.slice q m cap') Y j) (hi:i+j<=1000000) (hc:X<Y) :
  Calls Tryz.prog 90 #[.agg #[.slice p n cap,.bool true],.agg #[.slice q m cap',.bool false]] w (dc w (sg false (Y-X)) (j)):=by
 have Hx:=Lib.hid hx
 have Hy:=Lib.hid hy
 have Hc:=Lib.hid hc
 have S0:Kept w [(w.heap.size+1,0,(.slice q m cap')),(w.heap.size+1,1,(.bool false)),(w.heap.size,0,(.slice p n cap)),(w.heap.size,1,(.bool true))] [w.heap.size+1+1] (((w.alloc (.cells #[.slice p n cap,.bool true] 42)).alloc (.cells #[.slice q m cap',.bool false] 42)).alloc (.cells #[.slice none 0 0,.bool false] 42)):=(((Kept.start w).box _ _ _ _ rfl).box _ _ _ _ (by simp)).res _ _ _ _ _ (by simp)
 clear hx hy hc
 go_enter Tryz.func90,Tryz.ntmps90
 go_wp2_with fail
 refine (vS (Hx.out.grown (Kept.all _ _ S0)) (Hy.out.grown (Kept.all _ _ S0))).mono ?_
 rintro e w1 ⟨rfl,hg⟩
 rw [gD Hc.out]
 have s1:=hg.size
 have s2:=S0.lt (g:=w.heap.size+1+1) (by simp)
 have Sq:=S0.size
 replace S0:=Kept.grown _ _ S0 hg
 clear hg
 obtain ⟨c0,c1,c2,c3,r0,r1,r2,r3,G⟩:=id S0
 go_wp2_with fail
 go_region_held3 (fun w'=>w'.cell? ⟨w.heap.size+1,0,none⟩=some ((.slice q m cap'))∧w'.cell? ⟨w.heap.size+1,1,none⟩=some ((.bool false))∧w'.cell? ⟨w.heap.size,0,none⟩=some ((.slice p n cap))∧w'.cell? ⟨w.heap.size,1,none⟩=some ((.bool true))∧w'.cell? ⟨w.heap.size+1+1,0,none⟩=some (cellOf w' ⟨w.heap.size+1+1,0,none⟩)∧w'.cell? ⟨w.heap.size+1+1,1,none⟩=some (cellOf w' ⟨w.heap.size+1+1,1,none⟩)∧w'.frozen? ⟨w.heap.size+1+1,0,none⟩=false∧w'.frozen? ⟨w.heap.size+1+1,1,none⟩=false∧w.grownBy w' none) (first | exact Kept.step (W:=w) [(w.heap.size+1,0,(.slice q m cap')),(w.heap.size+1,1,(.bool false)),(w.heap.size,0,(.slice p n cap)),(w.heap.size,1,(.bool true))] [w.heap.size+1+1] (by assumption) (by assumption) | exact Kept.set (W:=w) [(w.heap.size+1,0,(.slice q m cap')),(w.heap.size+1,1,(.bool false)),(w.heap.size,0,(.slice p n cap)),(w.heap.size,1,(.bool true))] [w.heap.size+1+1] (by simp <;> omega) (by first | omega | (simp <;> omega)) (by assumption) | exact Kept.step [(w.heap.size+1,0,(.slice q m cap')),(w.heap.size+1,1,(.bool false)),(w.heap.size,0,(.slice p n cap)),(w.heap.size,1,(.bool true))] [w.heap.size+1+1] (ch _ _) S0)
  (first | (go_at_call 138;refine (no (Hy.out.grown (by go_split_ands;assumption)) (Hx.out.grown (by go_split_ands;assumption)) (by omega) (Nat.le_of_lt Hc.out)).mono ?_;rintro e w' ⟨v,rfl,h,bd,hg⟩;obtain ⟨pv,nv,rfl⟩:=h.slice) | (go_at_call 110;refine (eU _ _ _ _ _).mono ?_;rintro e w' ⟨rfl,hg⟩;replace h:=h.grown hg (.inl rfl)))
 rename_i hend
 go_wp2_with fail
 exact fQ (b:=false) Tryz.results90 rfl rfl hend.2.2.2.2.1 hend.2.2.2.2.2.1 hend.2.2.2.2.2.2.2.2 h (by simp at s1 s2 Sq ⊢ <;> omega) (by simp at s1 s2 Sq ⊢ <;> omega) rfl (rfl) bd
set_option maxHeartbeats 2000000 in
theorem LT {p q:Option Addr}{n m cap cap' X Y i j:Nat}{w:World} (hx:bw w (.slice p n cap) X i) (hy:bw w (.slice q m cap') Y j) (hi:i+j<=1000000) (hc:Y<=X) :
  Calls Tryz.prog 90 #[.agg #[.slice p n cap,.bool false],.agg #[.slice q m cap',.bool true]] w (dc w (sg false (X-Y)) (i)):=by
 have Hx:=Lib.hid hx
 have Hy:=Lib.hid hy
 have Hc:=Lib.hid hc
 have S0:Kept w [(w.heap.size+1,0,(.slice q m cap')),(w.heap.size+1,1,(.bool true)),(w.heap.size,0,(.slice p n cap)),(w.heap.size,1,(.bool false))] [w.heap.size+1+1] (((w.alloc (.cells #[.slice p n cap,.bool false] 42)).alloc (.cells #[.slice q m cap',.bool true] 42)).alloc (.cells #[.slice none 0 0,.bool false] 42)):=(((Kept.start w).box _ _ _ _ rfl).box _ _ _ _ (by simp)).res _ _ _ _ _ (by simp)
 clear hx hy hc
 go_enter Tryz.func90,Tryz.ntmps90
 go_wp2_with fail
 refine (vS (Hx.out.grown (Kept.all _ _ S0)) (Hy.out.grown (Kept.all _ _ S0))).mono ?_
 rintro e w1 ⟨rfl,hg⟩
 have hge:=pT Hc.out
 generalize ij X Y=r at *
 have s1:=hg.size
 have s2:=S0.lt (g:=w.heap.size+1+1) (by simp)
 have Sq:=S0.size
 replace S0:=Kept.grown _ _ S0 hg
 clear hg
 obtain ⟨c0,c1,c2,c3,r0,r1,r2,r3,G⟩:=id S0
 go_wp2_with fail
 go_region_held3 (fun w'=>w'.cell? ⟨w.heap.size+1,0,none⟩=some ((.slice q m cap'))∧w'.cell? ⟨w.heap.size+1,1,none⟩=some ((.bool true))∧w'.cell? ⟨w.heap.size,0,none⟩=some ((.slice p n cap))∧w'.cell? ⟨w.heap.size,1,none⟩=some ((.bool false))∧w'.cell? ⟨w.heap.size+1+1,0,none⟩=some (cellOf w' ⟨w.heap.size+1+1,0,none⟩)∧w'.cell? ⟨w.heap.size+1+1,1,none⟩=some (cellOf w' ⟨w.heap.size+1+1,1,none⟩)∧w'.frozen? ⟨w.heap.size+1+1,0,none⟩=false∧w'.frozen? ⟨w.heap.size+1+1,1,none⟩=false∧w.grownBy w' none) (first | exact Kept.step (W:=w) [(w.heap.size+1,0,(.slice q m cap')),(w.heap.size+1,1,(.bool true)),(w.heap.size,0,(.slice p n cap)),(w.heap.size,1,(.bool false))] [w.heap.size+1+1] (by assumption) (by assumption) | exact Kept.set (W:=w) [(w.heap.size+1,0,(.slice q m cap')),(w.heap.size+1,1,(.bool true)),(w.heap.size,0,(.slice p n cap)),(w.heap.size,1,(.bool false))] [w.heap.size+1+1] (by simp <;> omega) (by first | omega | (simp <;> omega)) (by assumption) | exact Kept.step [(w.heap.size+1,0,(.slice q m cap')),(w.heap.size+1,1,(.bool true)),(w.heap.size,0,(.slice p n cap)),(w.heap.size,1,(.bool false))] [w.heap.size+1+1] (ch _ _) S0)
  (first | (go_at_call 138;refine (no (Hx.out.grown (by go_split_ands;assumption)) (Hy.out.grown (by go_split_ands;assumption)) (by omega) Hc.out).mono ?_;rintro e w' ⟨v,rfl,h,bd,hg⟩;obtain ⟨pv,nv,rfl⟩:=h.slice) | (go_at_call 110;refine (eU _ _ _ _ _).mono ?_;rintro e w' ⟨rfl,hg⟩;replace h:=h.grown hg (.inl rfl)))
 rename_i hend
 go_wp2_with fail
 exact fQ (b:=false) Tryz.results90 rfl rfl hend.2.2.2.2.1 hend.2.2.2.2.2.1 hend.2.2.2.2.2.2.2.2 h (by simp at s1 s2 Sq ⊢ <;> omega) (by simp at s1 s2 Sq ⊢ <;> omega) rfl (rfl) bd
set_option maxHeartbeats 2000000 in
theorem LU {p q:Option Addr}{n m cap cap' X Y i j:Nat}{w:World} (hx:bw w (.slice p n cap) X i) (hy:bw w (.slice q m cap') Y j) (hi:i+j<=1000000) (hc:X<Y) :
  Calls Tryz.prog 90 #[.agg #[.slice p n cap,.bool false],.agg #[.slice q m cap',.bool true]] w (dc w (sg true (Y-X)) (j)):=by
 have Hx:=Lib.hid hx
 have Hy:=Lib.hid hy
 have Hc:=Lib.hid hc
 have S0:Kept w [(w.heap.size+1,0,(.slice q m cap')),(w.heap.size+1,1,(.bool true)),(w.heap.size,0,(.slice p n cap)),(w.heap.size,1,(.bool false))] [w.heap.size+1+1] (((w.alloc (.cells #[.slice p n cap,.bool false] 42)).alloc (.cells #[.slice q m cap',.bool true] 42)).alloc (.cells #[.slice none 0 0,.bool false] 42)):=(((Kept.start w).box _ _ _ _ rfl).box _ _ _ _ (by simp)).res _ _ _ _ _ (by simp)
 clear hx hy hc
 go_enter Tryz.func90,Tryz.ntmps90
 go_wp2_with fail
 refine (vS (Hx.out.grown (Kept.all _ _ S0)) (Hy.out.grown (Kept.all _ _ S0))).mono ?_
 rintro e w1 ⟨rfl,hg⟩
 rw [gD Hc.out]
 have s1:=hg.size
 have s2:=S0.lt (g:=w.heap.size+1+1) (by simp)
 have Sq:=S0.size
 replace S0:=Kept.grown _ _ S0 hg
 clear hg
 obtain ⟨c0,c1,c2,c3,r0,r1,r2,r3,G⟩:=id S0
 go_wp2_with fail
 go_region_held3 (fun w'=>w'.cell? ⟨w.heap.size+1,0,none⟩=some ((.slice q m cap'))∧w'.cell? ⟨w.heap.size+1,1,none⟩=some ((.bool true))∧w'.cell? ⟨w.heap.size,0,none⟩=some ((.slice p n cap))∧w'.cell? ⟨w.heap.size,1,none⟩=some ((.bool false))∧w'.cell? ⟨w.heap.size+1+1,0,none⟩=some (cellOf w' ⟨w.heap.size+1+1,0,none⟩)∧w'.cell? ⟨w.heap.size+1+1,1,none⟩=some (cellOf w' ⟨w.heap.size+1+1,1,none⟩)∧w'.frozen? ⟨w.heap.size+1+1,0,none⟩=false∧w'.frozen? ⟨w.heap.size+1+1,1,none⟩=false∧w.grownBy w' none) (first | exact Kept.step (W:=w) [(w.heap.size+1,0,(.slice q m cap')),(w.heap.size+1,1,(.bool true)),(w.heap.size,0,(.slice p n cap)),(w.heap.size,1,(.bool false))] [w.heap.size+1+1] (by assumption) (by assumption) | exact Kept.set (W:=w) [(w.heap.size+1,0,(.slice q m cap')),(w.heap.size+1,1,(.bool true)),(w.heap.size,0,(.slice p n cap)),(w.heap.size,1,(.bool false))] [w.heap.size+1+1] (by simp <;> omega) (by first | omega | (simp <;> omega)) (by assumption) | exact Kept.step [(w.heap.size+1,0,(.slice q m cap')),(w.heap.size+1,1,(.bool true)),(w.heap.size,0,(.slice p n cap)),(w.heap.size,1,(.bool false))] [w.heap.size+1+1] (ch _ _) S0)
  (first | (go_at_call 138;refine (no (Hy.out.grown (by go_split_ands;assumption)) (Hx.out.grown (by go_split_ands;assumption)) (by omega) (Nat.le_of_lt Hc.out)).mono ?_;rintro e w' ⟨v,rfl,h,bd,hg⟩;obtain ⟨pv,nv,rfl⟩:=h.slice) | (go_at_call 110;refine (eU _ _ _ _ _).mono ?_;rintro e w' ⟨rfl,hg⟩;replace h:=h.grown hg (.inl rfl)))
 rename_i hend
 go_wp2_with fail
 exact fQ (b:=true) Tryz.results90 rfl rfl hend.2.2.2.2.1 hend.2.2.2.2.2.1 hend.2.2.2.2.2.2.2.2 h (by simp at s1 s2 Sq ⊢ <;> omega) (by simp at s1 s2 Sq ⊢ <;> omega) rfl (rfl) bd
theorem ae.open {w:World}{v:Value}{z:Int}{k:Nat} (h:ae w v z k):∃(b:Bool) (p:Option Addr) (n cap X:Nat),v = .agg #[.slice p n cap,.bool b]∧bw w (.slice p n cap) X k∧z=sg b X:=by
 obtain ⟨p,cap,h1,h2⟩:=h
 exact ⟨_,p,_,cap,_,h1,h2,(pZ z).symm⟩
theorem Ey {v u:Value}{z y:Int}{i j:Nat}{w:World} (hx:ae w v z i) (hy:ae w u y j) (hi:i+j<=1000000) :
  Calls Tryz.prog 69 #[v,u] w (dc w (z*y) (i+j)):=by
 obtain ⟨b,p,n,cap,X,rfl,dx,rfl⟩:=hx.open
 obtain ⟨b',q,m,cap',Y,rfl,dy,rfl⟩:=hy.open
 exact LQ dx dy hi
theorem vz {v u:Value}{z y:Int}{i j:Nat}{w:World} (hx:ae w v z i) (hy:ae w u y j) (hi:i+j<=1000000) :
  Calls Tryz.prog 90 #[v,u] w (dc w (z+y) (i+j+1)):=by
 obtain ⟨b,p,n,cap,X,rfl,dx,rfl⟩:=hx.open
 obtain ⟨b',q,m,cap',Y,rfl,dy,rfl⟩:=hy.open
 cases b <;> cases b'
 ·exact yw dx dy hi
 ·by_cases hc:Y<=X
  ·exact (LT dx dy hi hc).mono fun _ _ h=>h.of (by simp [sg];omega) (by omega)
  ·exact (LU dx dy hi (by omega)).mono fun _ _ h=>h.of (by simp [sg];omega) (by omega)
 ·by_cases hc:Y<=X
  ·exact (LR dx dy hi hc).mono fun _ _ h=>h.of (by simp [sg];omega) (by omega)
  ·exact (LS dx dy hi (by omega)).mono fun _ _ h=>h.of (by simp [sg];omega) (by omega)
 ·exact yw dx dy hi
set_option maxHeartbeats 2000000 in
theorem LV {v u:Value}{z y:Int}{i j:Nat}{w:World} (hx:ae w v z i) (hy:ae w u y j) (hi:i+j<=1000000) :
  Calls Tryz.prog 102 #[v,u] w (dc w (z-y) (i+j+1)):=by
 have Vx:=Lib.hid hx
 have Vy:=Lib.hid hy
 obtain ⟨b,p,n,cap,X,rfl,hx',rfl⟩:=hx.open
 obtain ⟨b',q,m,cap',Y,rfl,hy',rfl⟩:=hy.open
 clear hx' hy' hx hy
 have S0:Kept w [(w.heap.size+1,0,(.slice q m cap')),(w.heap.size+1,1,(.bool b')),(w.heap.size,0,(.slice p n cap)),(w.heap.size,1,(.bool b))] [w.heap.size+1+1] (((w.alloc (.cells #[.slice p n cap,.bool b] 42)).alloc (.cells #[.slice q m cap',.bool b'] 42)).alloc (.cells #[.slice none 0 0,.bool false] 42)):=(((Kept.start w).box _ _ _ _ rfl).box _ _ _ _ (by simp)).res _ _ _ _ _ (by simp)
 rw [Int.sub_eq_add_neg]
 go_enter Tryz.func102,Tryz.ntmps102
 go_wp2_with fail
 go_region_held3 (fun w'=>w'.cell? ⟨w.heap.size+1,0,none⟩=some ((.slice q m cap'))∧w'.cell? ⟨w.heap.size+1,1,none⟩=some ((.bool b'))∧w'.cell? ⟨w.heap.size,0,none⟩=some ((.slice p n cap))∧w'.cell? ⟨w.heap.size,1,none⟩=some ((.bool b))∧w'.cell? ⟨w.heap.size+1+1,0,none⟩=some (cellOf w' ⟨w.heap.size+1+1,0,none⟩)∧w'.cell? ⟨w.heap.size+1+1,1,none⟩=some (cellOf w' ⟨w.heap.size+1+1,1,none⟩)∧w'.frozen? ⟨w.heap.size+1+1,0,none⟩=false∧w'.frozen? ⟨w.heap.size+1+1,1,none⟩=false∧w.grownBy w' none) (first | exact Kept.step (W:=w) [(w.heap.size+1,0,(.slice q m cap')),(w.heap.size+1,1,(.bool b')),(w.heap.size,0,(.slice p n cap)),(w.heap.size,1,(.bool b))] [w.heap.size+1+1] (by assumption) (by assumption) | exact Kept.set (W:=w) [(w.heap.size+1,0,(.slice q m cap')),(w.heap.size+1,1,(.bool b')),(w.heap.size,0,(.slice p n cap)),(w.heap.size,1,(.bool b))] [w.heap.size+1+1] (by simp <;> omega) (by first | omega | (simp <;> omega)) (by assumption) | exact Kept.step [(w.heap.size+1,0,(.slice q m cap')),(w.heap.size+1,1,(.bool b')),(w.heap.size,0,(.slice p n cap)),(w.heap.size,1,(.bool b))] [w.heap.size+1+1] (ch _ _) S0)
  (first | (go_at_call 92;refine (vD (Vy.out.grown (by go_split_ands;assumption))).mono ?_;rintro e w' ⟨v,rfl,hn,hg⟩) | (go_at_call 90;refine (vz (Vx.out.grown (by go_split_ands;assumption)) hn hi).mono ?_;have hsz:=hg.size;rintro e w' ⟨v,rfl,h,bd,hg⟩;obtain ⟨pv,nv,rfl,h2⟩:=id h))
 rename_i hend
 go_wp2_with fail
 exact LO Tryz.results102 rfl rfl hend.2.2.2.2.1 hend.2.2.2.2.2.1 hend.2.2.2.2.2.2.2.2 h (by simp at hsz;omega) (by simp at hsz;omega) bd
theorem LW (z y:Int):cj (z-y) 0=cj z y:=by
 unfold cj
 split <;> split <;> (try split) <;> (try split) <;> omega
set_option maxHeartbeats 1000000 in
theorem JO {v u:Value}{z y:Int}{i j:Nat}{w:World} (r:Int) (hx:ae w v z i) (hy:ae w u y j) (hi:i+j<=1000000) (hr:cj z y=r) :
  Calls Tryz.prog 103 #[v,u] w fun e w'=>e = .returned (.int .i64 r)∧w.grownBy w' none:=by
 subst hr
 rw [<- LW]
 have Vx:=Lib.hid hx
 have Vy:=Lib.hid hy
 obtain ⟨b,p,n,cap,X,rfl,hx',rfl⟩:=hx.open
 obtain ⟨b',q,m,cap',Y,rfl,hy',rfl⟩:=hy.open
 clear hx' hy' hx hy
 have S0:Kept w [(w.heap.size+1,0,(.slice q m cap')),(w.heap.size+1,1,(.bool b')),(w.heap.size,0,(.slice p n cap)),(w.heap.size,1,(.bool b))] [] ((w.alloc (.cells #[.slice p n cap,.bool b] 42)).alloc (.cells #[.slice q m cap',.bool b'] 42)):=((Kept.start w).box _ _ _ _ rfl).box _ _ _ _ (by simp)
 go_enter Tryz.func103,Tryz.ntmps103
 go_wp2_with fail
 refine (LV (Vx.out.grown (Kept.all _ _ S0)) (Vy.out.grown (Kept.all _ _ S0)) hi).mono ?_
 rintro e w1 ⟨v,rfl,h,bd,hg⟩
 have Hv:=Lib.hid (h.vo bd)
 have G:=Lib.hid (aE (Kept.all _ _ S0) hg)
 clear S0 hg h bd
 go_wp2_with fail
 refine (LP Hv.out).mono ?_
 rintro e w2 ⟨rfl,hg⟩
 have G2:=Lib.hid (aE G.out hg)
 clear hg
 go_wp2_with fail
 go_ret
 exact ⟨rfl,G2.out⟩
theorem yx {X:Nat} (h:X<18446744073709551616):Bd X 2:=by unfold Bd;omega
theorem yy {m:Nat} (h:m<9223372036854775809):(af 10000 m).length<=5:=eF (by omega) 5 m (by omega)
theorem yA (l:List Nat){m:Nat} (h:0<m):l ++ af 10000 m=(l ++ [m % 10000]) ++ af 10000 (m / 10000):=by
 rw [fm (by omega) h];simp
set_option maxHeartbeats 2000000 in
theorem LX (N:Nat) (w:World) (hN:N<=9223372036854775807) :
  Calls Tryz.prog 64 #[.int .i64 (N:Int)] w (dc w ((N:Int)) 2):=by
 obtain ⟨i0,hi,hz0,hz1,hz2⟩:=info_parts Tryz.infoI
 have S0:Kept w [] [w.heap.size] (w.alloc (.cells #[.slice none 0 0,.bool false] 42)):=(Kept.start w).res _ _ _ _ _ rfl
 have hq:((N:Int) == (-9223372036854775808:Int))=false:=by
  rw [beq_eq_false_iff_ne]
  omega
 have NL:=Lib.hid (yy (m:=N) (by omega))
 go_enter Tryz.func64,Tryz.ntmps64
 go_wp2_with fail
 generalize w.alloc (.cells #[.slice none 0 0,.bool false] 42)=W1 at *
 have Hs:=S0.size
 have Hl:=S0.lt (g:=w.heap.size) (by simp)
 go_loopw [0,4] (fun nv ov wr=>∃(m:Nat) (l:List Nat),m<=N∧nv = .int .i64 m∧Hid (af 10000 N=l ++ af 10000 m)∧Own wr 3 .i64 W1.heap.size ov l∧W1.grownBy wr none) (fun nv _ _=>(intOf nv).toNat)
 case atStart=>exact ⟨N,[],Nat.le_refl _,by go_num,rfl,Own.nil _ _ _ _,aQ _ _⟩
 case round=>
  obtain ⟨m,l,hm,rfl,hd,ho,gr⟩:=hrel
  obtain ⟨op,cT,rfl⟩:=ho.slice
  have Ho:=Lib.hid ho
  have Gr:=Lib.hid gr
  clear ho gr
  by_cases h0:m=0
  ·subst h0
   have hd':=hd.out
   rw [fK,List.append_nil] at hd'
   subst hd'
   clear hd
   go_wp2_with fail
   refine (eU _ _ _ _ _).mono ?_
   rintro e w2 ⟨rfl,hg⟩
   have h:=Ho.out.grown hg (.inl rfl)
   replace S0:=S0.grown _ _ (aE Gr.out hg)
   clear hg
   obtain ⟨r0,r1,f0,f1,G⟩:=id S0
   go_wp2_with fail
   exact fQ (b:=false) Tryz.results64 rfl rfl (cM r0) (cN r1) (Kept.all _ _ (Kept.set _ _ (by simp) (Nat.le_refl _) S0)) h Hs Hl rfl rfl (yx (by omega))
  ·have hp:0<m:=by omega
   have Hd2:=Lib.hid (show _=_ from hd.out.trans (yA l hp))
   have Lz:=Lib.hid (show l.length<=5 by
    have:=NL.out
    rw [hd.out,List.length_append] at this
    omega)
   clear hd
   have hp':(0:Int)<(m:Int):=by omega
   go_wp2_with (at_builtin;refine fy rfl _ _ 40 rfl 3 i0 (.int .i64 0) .i64 Tryz.underlying40 hi hz0 hz1 (by omega) rfl W1.heap.size (.slice op l.length cT) l (m % 10000) rfl (Ho.out.grown (aF _ _ none) (.inl rfl)) wr.heap.size rfl ?c1 (by have:=Lz.out;omega) (by have:=Gr.out.size;simp;omega) ?_;(case c1=>exact (World.cell?_alloc_at _ _ _ _ rfl).trans (by simp;try omega));intro v' w3 ho3 g3;have cm:=Lib.hid ho3;have G3:=Lib.hid (fO (v:=.slice op l.length cT) g3 (Ho.out.grown (aF _ _ none) (.inl rfl)) (aE Gr.out (aF _ _ _)));clear ho3 g3)
   go_roundw
   case rel=>exact ⟨m / 10000,l ++ [m % 10000],by omega,by go_num,Hd2.out,cm.out,G3.out⟩
   case measure=>simp [intOf];omega
set_option maxHeartbeats 2000000 in
theorem LZ (N:Nat) (w:World) (hN:N<=9223372036854775807) (h0:0<N) :
  Calls Tryz.prog 64 #[.int .i64 (-(N:Int))] w (dc w ((-(N:Int))) 2):=by
 obtain ⟨i0,hi,hz0,hz1,hz2⟩:=info_parts Tryz.infoI
 have S0:Kept w [] [w.heap.size] (w.alloc (.cells #[.slice none 0 0,.bool false] 42)):=(Kept.start w).res _ _ _ _ _ rfl
 have hq:((-(N:Int)) == (-9223372036854775808:Int))=false:=by
  rw [beq_eq_false_iff_ne]
  omega
 have NL:=Lib.hid (yy (m:=N) (by omega))
 go_enter Tryz.func64,Tryz.ntmps64
 go_wp2_with fail
 generalize w.alloc (.cells #[.slice none 0 0,.bool false] 42)=W1 at *
 have Hs:=S0.size
 have Hl:=S0.lt (g:=w.heap.size) (by simp)
 go_loopw [0,4] (fun nv ov wr=>∃(m:Nat) (l:List Nat),m<=N∧nv = .int .i64 m∧Hid (af 10000 N=l ++ af 10000 m)∧Own wr 3 .i64 W1.heap.size ov l∧W1.grownBy wr none) (fun nv _ _=>(intOf nv).toNat)
 case atStart=>exact ⟨N,[],Nat.le_refl _,by go_num,rfl,Own.nil _ _ _ _,aQ _ _⟩
 case round=>
  obtain ⟨m,l,hm,rfl,hd,ho,gr⟩:=hrel
  obtain ⟨op,cT,rfl⟩:=ho.slice
  have Ho:=Lib.hid ho
  have Gr:=Lib.hid gr
  clear ho gr
  by_cases h0:m=0
  ·subst h0
   have hd':=hd.out
   rw [fK,List.append_nil] at hd'
   subst hd'
   clear hd
   go_wp2_with fail
   refine (eU _ _ _ _ _).mono ?_
   rintro e w2 ⟨rfl,hg⟩
   have h:=Ho.out.grown hg (.inl rfl)
   replace S0:=S0.grown _ _ (aE Gr.out hg)
   clear hg
   obtain ⟨r0,r1,f0,f1,G⟩:=id S0
   go_wp2_with fail
   exact fQ (b:=true) Tryz.results64 rfl rfl (cM r0) (cN r1) (Kept.all _ _ (Kept.set _ _ (by simp) (Nat.le_refl _) S0)) h Hs Hl rfl rfl (yx (by omega))
  ·have hp:0<m:=by omega
   have Hd2:=Lib.hid (show _=_ from hd.out.trans (yA l hp))
   have Lz:=Lib.hid (show l.length<=5 by
    have:=NL.out
    rw [hd.out,List.length_append] at this
    omega)
   clear hd
   have hp':(0:Int)<(m:Int):=by omega
   go_wp2_with (at_builtin;refine fy rfl _ _ 40 rfl 3 i0 (.int .i64 0) .i64 Tryz.underlying40 hi hz0 hz1 (by omega) rfl W1.heap.size (.slice op l.length cT) l (m % 10000) rfl (Ho.out.grown (aF _ _ none) (.inl rfl)) wr.heap.size rfl ?c1 (by have:=Lz.out;omega) (by have:=Gr.out.size;simp;omega) ?_;(case c1=>exact (World.cell?_alloc_at _ _ _ _ rfl).trans (by simp;try omega));intro v' w3 ho3 g3;have cm:=Lib.hid ho3;have G3:=Lib.hid (fO (v:=.slice op l.length cT) g3 (Ho.out.grown (aF _ _ none) (.inl rfl)) (aE Gr.out (aF _ _ _)));clear ho3 g3)
   go_roundw
   case rel=>exact ⟨m / 10000,l ++ [m % 10000],by omega,by go_num,Hd2.out,cm.out,G3.out⟩
   case measure=>simp [intOf];omega
set_option maxHeartbeats 1000000 in
theorem L5 (w:World):Calls Tryz.prog 64 #[.int .i64 (-9223372036854775808)] w (dc w (-9223372036854775808) 2):=by
 have S0:Kept w [] [w.heap.size] (w.alloc (.cells #[.slice none 0 0,.bool false] 42)):=(Kept.start w).res _ _ _ _ _ rfl
 have hz:sg true (2 ^ 63) = -9223372036854775808:=by simp [sg]
 go_enter Tryz.func64,Tryz.ntmps64
 go_wp2_with fail
 have S1:=S0
 refine (LM 63 2 (by omega) (by omega)).mono ?_
 rintro e w1 ⟨v,rfl,h,bd,hg⟩
 obtain ⟨pv,nv,rfl⟩:=h.slice
 replace S0:=S0.grown _ _ hg
 clear hg
 generalize hP:(2:Nat) ^ 63=P at *
 go_wp2_with fail
 refine (eU _ _ _ _ _).mono ?_
 rintro e w2 ⟨rfl,hg⟩
 replace h:=h.grown hg (.inl rfl)
 replace S0:=S0.grown _ _ hg
 clear hg
 obtain ⟨r0,r1,f0,f1,G⟩:=id S0
 go_wp2_with fail
 exact fQ (b:=true) Tryz.results64 rfl rfl (cM r0) (cN r1) (Kept.all _ _ (Kept.set _ _ (by simp) (Nat.le_refl _) S0)) h S1.size (S1.lt (by simp)) rfl hz bd
theorem EA (z:Int) (w:World) (h1 : -9223372036854775808<=z) (h2:z<=9223372036854775807):Calls Tryz.prog 64 #[.int .i64 z] w (dc w z 2):=by
 by_cases h3:z = -9223372036854775808
 ·subst h3
  exact L5 w
 ·rcases Int.lt_or_le z 0 with h | h
  ·obtain ⟨N,rfl⟩:∃N:Nat,z = -(N:Int):=⟨z.natAbs,by omega⟩
   exact LZ N w (by omega) (by omega)
  ·obtain ⟨N,rfl⟩:∃N:Nat,z=(N:Int):=⟨z.natAbs,by omega⟩
   exact LX N w (by omega)
def c6 (w:World) (v:Value) (z:Int):Prop:=∃p cap,v = .agg #[.bool (decide (z<0)),.slice p (af 4294967296 z.natAbs).length cap]∧Sl w .u32 (.slice p (af 4294967296 z.natAbs).length cap) (af 4294967296 z.natAbs)
theorem c6.grown {w w':World}{v:Value}{z:Int} (h:c6 w v z) (g:w.grownBy w' none):c6 w' v z:=by
 obtain ⟨p,cap,h1,h2⟩:=h
 exact ⟨p,cap,h1,h2.grown g (.inl rfl)⟩
theorem cD.nor {w:World}{B:Nat}{v:Value}{z:Int} (h:cD w B v z):c6 w v z:=by
 obtain ⟨p,cap,h1,h2⟩:=h
 exact ⟨p,cap,h1,h2.sl⟩
theorem c6.pV {w:World}{v:Value}{z:Int}{k:Nat} (h:c6 w v z) (hb:Bd z.natAbs k):aj w v z k:=by
 obtain ⟨p,cap,h1,h2⟩:=h
 exact ⟨_,_,_,h1,(show eO w _ _ _ from ⟨h2,hb⟩).num,(pZ z).symm⟩
set_option maxHeartbeats 2000000 in
theorem L6 {v u:Value}{z:Int}{k:Nat}{w:World} (hx:ae w v z k) (hk:k<=1000000) (hu:c6 w u z) :
  Calls Tryz.prog 84 #[v,u] w (qb w true):=by
 obtain ⟨p,cap,rfl,hx⟩:=hx
 obtain ⟨q,cap',rfl,hu⟩:=hu
 have S0:Kept w [(w.heap.size+1,0,(.bool (decide (z<0)))),(w.heap.size+1,1,(.slice q (af 4294967296 z.natAbs).length cap')),(w.heap.size,0,(.slice p (af 10000 z.natAbs).length cap)),(w.heap.size,1,(.bool (decide (z<0))))] [] ((w.alloc (.cells #[.slice p (af 10000 z.natAbs).length cap,.bool (decide (z<0))] 42)).alloc (.cells #[.bool (decide (z<0)),.slice q (af 4294967296 z.natAbs).length cap'] 51)):=((Kept.start w).box _ _ _ _ rfl).box _ _ _ _ (by simp)
 have Hx:=Lib.hid hx
 have Hu:=Lib.hid hu
 clear hx hu
 go_enter Tryz.func84,Tryz.ntmps84
 go_wp2_with fail
 refine (yk (Hx.out.grown (Kept.all _ _ S0)).1 (by have:=Hx.out.len;omega)).mono ?_
 rintro e w1 ⟨v,rfl,h,hg⟩
 obtain ⟨pv,nv,rfl⟩:=h.slice
 replace S0:=S0.grown _ _ hg
 obtain ⟨p1,Qc,e1,m1,m2,h3⟩:=h.sl
 have hu1:=Hu.out.grown (Kept.all _ _ S0) (.inl rfl)
 obtain ⟨p2,cp2,e2,-,-,h4⟩:=hu1
 simp only [Value.slice.injEq,true_and] at e1 e2
 obtain ⟨rfl,rfl⟩:=e1
 obtain ⟨rfl,rfl⟩:=e2
 clear hg h Hu Hx
 generalize af 4294967296 z.natAbs=l at *
 obtain ⟨n,hn⟩:∃n,l.length=n:=⟨_,rfl⟩
 have Hn:=Lib.hid hn
 rw [hn] at S0 m1 ⊢
 have nb:n<=9223372036854775807:=by omega
 clear hn m1 m2
 have hln:(decide (z<0) != decide (z<0))=false:=by simp
 obtain ⟨c0,c1,c2,c3,G⟩:=id S0
 have G1:=Lib.hid G
 clear G S0
 go_wp2_with fail
 go_loopw [25] (fun iv wr=>∃(i d:Nat),i<=n∧iv = .int .i64 i∧wr=w1.drewN d) (fun iv _=>(n-(intOf iv).toNat))
 case atStart=>exact ⟨0,0,by omega,rfl,rfl⟩
 case round=>
  obtain ⟨i,d,hi,rfl,rfl⟩:=hrel
  by_cases hlt:i<n
  ·rcases h3 with h3 | ⟨b1,o1,rfl,hb1,hy1⟩
   ·have:=Hn.out;rw [h3] at this;simp at this;omega
   rcases h4 with h4 | ⟨b2,o2,rfl,hb2,hy2⟩
   ·have:=Hn.out;rw [h4] at this;simp at this;omega
   have d1:=hy1 i (by rw [Hn.out];omega)
   have d2:=hy2 i (by rw [Hn.out];omega)
   clear hy1 hy2
   have i1:(i:Int)<(n:Int):=by omega
   have hb:(((nth l i:Nat):Int) != ((nth l i:Nat):Int))=false:=by simp
   go_wp2
   go_quiet (fail)
   go_wp2
   go_roundw
   case rel=>exact ⟨i+1,_,by omega,by go_num,rfl⟩
   case measure=>simp [intOf];omega
  ·obtain rfl:i=n:=by omega
   clear h3 h4
   go_wp2
   go_ret
   exact ⟨rfl,aE G1.out (eQ _ _ _)⟩
theorem L7 {v u:Value}{z y:Int}{w:World} (hv:c6 w v z) (hu:c6 w u y) (e:z=y):Calls Tryz.prog 91 #[v,u] w (qb w true):=by
 subst e
 obtain ⟨p,cap,rfl,hv⟩:=hv
 obtain ⟨q,cap',rfl,hu⟩:=hu
 have S0:Kept w [(w.heap.size+1,0,(.bool (decide (z<0)))),(w.heap.size+1,1,(.slice q (af 4294967296 z.natAbs).length cap')),(w.heap.size,0,(.bool (decide (z<0)))),(w.heap.size,1,(.slice p (af 4294967296 z.natAbs).length cap))] [] ((w.alloc (.cells #[.bool (decide (z<0)),.slice p (af 4294967296 z.natAbs).length cap] 51)).alloc (.cells #[.bool (decide (z<0)),.slice q (af 4294967296 z.natAbs).length cap'] 51)):=((Kept.start w).box _ _ _ _ rfl).box _ _ _ _ (by simp)
 have Hv:=Lib.hid hv
 have Hu:=Lib.hid hu
 have hb:(decide (z<0) == decide (z<0))=true:=by simp
 clear hv hu
 go_enter Tryz.func91,Tryz.ntmps91
 go_wp2_with fail
 refine (Gp (Hv.out.grown (Kept.all _ _ S0) (.inl rfl)) (Hu.out.grown (Kept.all _ _ S0) (.inl rfl))).mono ?_
 rintro e w1 ⟨rfl,hg⟩
 rw [Gk]
 have G1:=Lib.hid (aE (Kept.all _ _ S0) hg)
 clear hg
 go_wp2_with fail
 go_ret
 exact ⟨rfl,G1.out⟩
theorem L8 {p:Option Addr}{n cap k:Nat}{w:World} (hn:n<=cap) :
  Calls Tryz.prog 113 #[.slice p n cap,.int .i64 k] w fun e w'=>e = .returned (.slice p (min n k) cap)∧w.grownBy w' none:=
 (Gj hn).mono fun _ _ ⟨h1,h2⟩=>⟨h1,h2▸aQ _ _⟩
set_option maxHeartbeats 1000000 in
theorem L9 {b:Bool}{p:Option Addr}{cap n:Nat}{xs:List Nat}{w:World} (k:Nat) (h1:xs.length<=cap) (hn:(xs.take k).length=n) :
  Calls Tryz.prog 65 #[.agg #[.bool b,.slice p xs.length cap],.int .i64 k] w fun e w'=>e = .returned (.agg #[.bool b,.slice p n cap])∧w.grownBy w' none:=by
 have S0:Kept w [(w.heap.size,0,.bool b),(w.heap.size,1,.slice p xs.length cap)] [w.heap.size+1] ((w.alloc (.cells #[.bool b,.slice p xs.length cap] 51)).alloc (.cells #[.bool false,.slice none 0 0] 51)):=((Kept.start w).box _ _ _ _ rfl).res _ _ _ _ _ (by simp)
 have Hm:=Lib.hid (show min xs.length k=n by rw [<- hn,List.length_take,Nat.min_comm])
 clear hn
 go_enter Tryz.func65,Tryz.ntmps65
 go_wp2_with fail
 go_region_held3 (fun w'=>w'.cell? ⟨w.heap.size,0,none⟩=some (.bool b)∧w'.cell? ⟨w.heap.size,1,none⟩=some (.slice p xs.length cap)∧w'.cell? ⟨w.heap.size+1,0,none⟩=some (cellOf w' ⟨w.heap.size+1,0,none⟩)∧w'.cell? ⟨w.heap.size+1,1,none⟩=some (cellOf w' ⟨w.heap.size+1,1,none⟩)∧w'.frozen? ⟨w.heap.size+1,0,none⟩=false∧w'.frozen? ⟨w.heap.size+1,1,none⟩=false∧w.grownBy w' none) (first | exact Kept.step (W:=w) [(w.heap.size,0,.bool b),(w.heap.size,1,.slice p xs.length cap)] [w.heap.size+1] (by assumption) (by assumption) | exact Kept.set (W:=w) [(w.heap.size,0,.bool b),(w.heap.size,1,.slice p xs.length cap)] [w.heap.size+1] (by simp <;> omega) (by first | omega | (simp <;> omega)) (by assumption) | exact Kept.step [(w.heap.size,0,.bool b),(w.heap.size,1,.slice p xs.length cap)] [w.heap.size+1] (ch _ _) S0)
  (first | (go_at_call 113;refine (L8 h1).mono ?_;rintro e w' ⟨rfl,hg⟩))
 rename_i hend
 go_wp2_with fail
 refine mO Tryz.results65 rfl rfl (kK hend.2.2.1) (kL hend.2.2.2.1) ⟨?_,hend.2.2.2.2.2.2⟩
 rw [Hm.out]
theorem EH {v:Value}{z:Int}{k:Nat}{w:World} (hx:ae w v z k) :
  Calls Tryz.prog 100 #[v] w fun e w'=>e = .returned (.bool (decide (z=0)))∧w.grownBy w' none:=by
 have bx:=hx.bd
 obtain ⟨p,cap,rfl,hx⟩:=hx
 have Hx:=Lib.hid hx
 clear hx
 clear bx Hx
 have e:((((af 10000 z.natAbs).length:Nat):Int) == 0)=decide (z=0):=by
  have:=o6 (b:=10000) (by omega) (n:=z.natAbs)
  rw [Bool.eq_iff_iff,beq_iff_eq,decide_eq_true_eq]
  omega
 generalize (af 10000 z.natAbs).length=l at *
 go_enter Tryz.func100,Tryz.ntmps100
 go_wp2_with fail
 go_ret
 refine ⟨?_,aF _ _ _⟩
 simp_all
end Go.Proofs.YthmcngjhkmpneaaGreat
