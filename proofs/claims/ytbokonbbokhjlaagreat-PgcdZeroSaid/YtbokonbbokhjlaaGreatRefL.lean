/- The reference's whole numbers, one contract a function: made, From, To, Neg, Add, Sub, Mul, Sign, Cmp, Zero. The reference's whole numbers: Mul, Add, Sub, Cmp of numbers, Of, Same. The reference's small numbers: Of. Helpers of the laws of layer 2: Same, keep.Int, of, is. The reference's Zero. -/
import Derived.Test.YtbokonbbokhjlaaGreatIntA
set_option maxRecDepth 100000
namespace Go.Proofs.YtbokonbbokhjlaaGreat
open Go.RowKit
def an (w:World) (v:Value) (z:Int) (k:Nat):Prop:=∃p cap,v = .agg #[.slice p (aj 10000 z.natAbs).length cap,.bool (decide (z<0))]∧cG w (.slice p (aj 10000 z.natAbs).length cap) z.natAbs k
theorem an.grown {w w':World}{v:Value}{z:Int}{k:Nat} (h:an w v z k) (g:w.grownBy w' none):an w' v z k:=by
 obtain ⟨p,cap,h1,h2⟩:=h
 exact ⟨p,cap,h1,h2.grown g⟩
theorem an.bd {w:World}{v:Value}{z:Int}{k:Nat} (h:an w v z k):Bd z.natAbs k:=by
 obtain ⟨p,cap,h1,h2⟩:=h
 exact h2.2
def lI (w:World) (B:Nat) (v:Value) (z:Int):Prop:=∃p cap,v = .agg #[.slice p (aj 10000 z.natAbs).length cap,.bool (decide (z<0))]∧Own w 3 .i64 B (.slice p (aj 10000 z.natAbs).length cap) (aj 10000 z.natAbs)
theorem lI.grown {w w':World}{B:Nat}{v:Value}{z:Int} (h:lI w B v z) (g:w.grownBy w' none):lI w' B v z:=by
 obtain ⟨p,cap,h1,h2⟩:=h
 exact ⟨p,cap,h1,h2.grown g (.inl rfl)⟩
theorem lI.zF {w:World}{B:Nat}{v:Value}{z:Int}{k:Nat} (h:lI w B v z) (hb:Bd z.natAbs k):an w v z k:=by
 obtain ⟨p,cap,h1,h2⟩:=h
 exact ⟨p,cap,h1,h2.sl,hb⟩
def eT (w:World) (z:Int) (k:Nat) (e:Ending) (w':World):Prop:=∃v,e = .returned v∧lI w' w.heap.size v z∧Bd z.natAbs k∧w.grownBy w' none
theorem eT.of {w w':World}{z y:Int}{k l:Nat}{e:Ending} (h:eT w z k e w') (hz:z=y) (hk:k<=l):eT w y l e w':=by
 subst hz
 obtain ⟨v,h1,h2,h3,h4⟩:=h
 exact ⟨v,h1,h2,h3.more hk,h4⟩
theorem jp (b:Bool) (p:Option Addr) (n cap:Nat) (w:World) :
  Calls Tryz.prog 88 #[.slice p n cap,.bool b] w fun e w'=>e = .returned (.agg #[.slice p n cap,.bool (b && decide (0<n))])∧w.grownBy w' none:=by
 go_enter Tryz.func88,Tryz.ntmps88
 cases b
 all_goals
  go_wp2_with fail
  simp [bodyPost,results,Tryz.results88,go_sem]
  exact aN _ _ _
theorem kE {fn:Func}{a:Act}{W w:World}{r g X k B cap n:Nat}{b:Bool}{p:Option Addr}{z:Int}{x y:Value} (hres:fn.results = #[ResultVar.cell r 56]) (hd:a.defers = []) (hr:a.tmps[r]?=some (.pointer (some ⟨g,0,none⟩)))
  (h0:(set2 w g (.slice p n cap) (.bool (b && decide (0<n)))).cell? ⟨g,0,none⟩=some x) (h1:(set2 w g (.slice p n cap) (.bool (b && decide (0<n)))).cell? ⟨g,1,none⟩=some y)
  (hG:W.grownBy (set2 w g (.slice p n cap) (.bool (b && decide (0<n)))) none)
  (ho:Own w 3 .i64 B (.slice p n cap) (aj 10000 X)) (hB:W.heap.size<=B) (hg:g<B) (hn:(aj 10000 X).length=n) (hz:sg b X=z) (hb:Bd X k) :
  bodyPost Tryz.prog fn (eT W z k) .ret a (set2 w g (.slice p n cap) (.bool (b && decide (0<n)))):=by
 subst hz hn
 refine qk hres hd hr (qn h0) (qo h1) ⟨_,rfl,⟨p,cap,?_,?_⟩,by rw [ei];exact hb,hG⟩
 ·rw [mv,ei,lf _ _ (by omega)]
 ·rw [ei]
  exact ((ho.mono hB).grown (gJ _ _ _ _) (own_ne ho hg))
theorem U0 {fn:Func}{a:Act}{W w:World}{r g k B:Nat}{z:Int}{u v x y:Value} (hres:fn.results = #[ResultVar.cell r 56]) (hd:a.defers = []) (hr:a.tmps[r]?=some (.pointer (some ⟨g,0,none⟩)))
  (h0:(set2 w g u v).cell? ⟨g,0,none⟩=some x) (h1:(set2 w g u v).cell? ⟨g,1,none⟩=some y) (hG:W.grownBy (set2 w g u v) none)
  (ho:lI w B (.agg #[u,v]) z) (hB:W.heap.size<=B) (hg:g<B) (hb:Bd z.natAbs k):bodyPost Tryz.prog fn (eT W z k) .ret a (set2 w g u v):=by
 refine qk hres hd hr (qn h0) (qo h1) ⟨_,rfl,?_,hb,hG⟩
 obtain ⟨p,cap,h2,h3⟩:=ho
 refine ⟨p,cap,h2,?_⟩
 simp only [Value.agg.injEq,Array.mk.injEq,List.cons.injEq,and_true] at h2
 obtain ⟨rfl,-⟩:=h2
 exact ((h3.mono hB).grown (gJ _ _ _ _) (own_ne h3 hg))
set_option maxHeartbeats 1000000 in
theorem zK {v:Value}{z:Int}{k:Nat}{w:World} (hx:an w v z k) :
  Calls Tryz.prog 80 #[v] w fun e w'=>∃v,e = .returned v∧an w' v (-z) k∧w.grownBy w' none:=by
 have bx:=hx.bd
 obtain ⟨p,cap,rfl,hx⟩:=hx
 have Hx:=Lib.hid hx
 clear hx
 clear bx
 have S0:Kept w [(w.heap.size,0,.slice p (aj 10000 z.natAbs).length cap),(w.heap.size,1,.bool (decide (z<0)))] [w.heap.size+1] ((w.alloc (.cells #[.slice p (aj 10000 z.natAbs).length cap,.bool (decide (z<0))] 56)).alloc (.cells #[.slice none 0 0,.bool false] 56)):=((Kept.start w).box _ _ _ _ rfl).res _ _ _ _ _ (by simp)
 go_enter Tryz.func80,Tryz.ntmps80
 go_wp2_with fail
 refine (jp _ _ _ _ _).mono ?_
 rintro e w1 ⟨rfl,hg⟩
 replace S0:=Kept.grown _ _ S0 hg
 clear hg
 obtain ⟨c0,c1,r0,r1,f0,f1,G⟩:=id S0
 go_wp2_with fail
 have G2:=Kept.all _ _ (Kept.set (g:=w.heap.size+1) (u:=.slice p (aj 10000 z.natAbs).length cap) (v:=.bool (!decide (z<0) && decide (0<(aj 10000 z.natAbs).length))) _ _ (by simp <;> omega) (by omega) S0)
 refine qk Tryz.results80 rfl rfl (dm r0) (dp r1) ⟨_,rfl,⟨p,cap,?_,?_⟩,G2⟩
 ·rw [Int.natAbs_neg,lf _ _ (by omega)]
  congr 5
  rw [Bool.eq_iff_iff]
  simp
  omega
 ·rw [Int.natAbs_neg]
  exact Hx.out.grown G2
theorem U1 {v:Value}{z:Int}{k:Nat}{w:World} (hx:an w v z k) :
  Calls Tryz.prog 109 #[v] w fun e w'=>e = .returned (.int .i64 (dj z 0))∧w.grownBy w' none:=by
 have bx:=hx.bd
 obtain ⟨p,cap,rfl,hx⟩:=hx
 have Hx:=Lib.hid hx
 clear hx
 clear bx Hx
 have hl:=fb (b:=10000) (by omega) (n:=z.natAbs)
 generalize (aj 10000 z.natAbs).length=l at *
 by_cases h0:z=0
 ·obtain rfl:l=0:=by omega
  subst h0
  go_enter Tryz.func109,Tryz.ntmps109
  go_wp2_with fail
  go_ret
  exact ⟨rfl,aN _ _ _⟩
 ·have hl':(l:Int)≠0:=by omega
  by_cases hn:z<0
  ·rw [dj,if_pos hn,decide_eq_true hn]
   clear hl
   go_enter Tryz.func109,Tryz.ntmps109
   go_wp2_with fail
   go_ret
   exact ⟨rfl,aN _ _ _⟩
  ·rw [dj,if_neg hn,if_neg h0,decide_eq_false hn]
   clear hl
   go_enter Tryz.func109,Tryz.ntmps109
   go_wp2_with fail
   go_ret
   exact ⟨rfl,aN _ _ _⟩
set_option maxHeartbeats 2000000 in
theorem D8 {b:Bool}{p q:Option Addr}{n m cap cap' X Y i j:Nat}{w:World} (hx:cG w (.slice p n cap) X i) (hy:cG w (.slice q m cap') Y j) (hi:i+j<=1000000) :
  Calls Tryz.prog 77 #[.agg #[.slice p n cap,.bool b],.agg #[.slice q m cap',.bool b]] w (eT w (sg b X+sg b Y) (i+j+1)):=by
 have Hx:=Lib.hid hx
 have Hy:=Lib.hid hy
 have S0:Kept w [(w.heap.size+1,0,(.slice q m cap')),(w.heap.size+1,1,(.bool b)),(w.heap.size,0,(.slice p n cap)),(w.heap.size,1,(.bool b))] [w.heap.size+1+1] (((w.alloc (.cells #[.slice p n cap,.bool b] 56)).alloc (.cells #[.slice q m cap',.bool b] 56)).alloc (.cells #[.slice none 0 0,.bool false] 56)):=(((Kept.start w).box _ _ _ _ rfl).box _ _ _ _ (by simp)).res _ _ _ _ _ (by simp)
 clear hx hy
 go_enter Tryz.func77,Tryz.ntmps77
 obtain ⟨c0,c1,c2,c3,r0,r1,r2,r3,G⟩:=id S0
 go_wp2_with fail
 go_region_held3 (fun w'=>w'.cell? ⟨w.heap.size+1,0,none⟩=some ((.slice q m cap'))∧w'.cell? ⟨w.heap.size+1,1,none⟩=some ((.bool b))∧w'.cell? ⟨w.heap.size,0,none⟩=some ((.slice p n cap))∧w'.cell? ⟨w.heap.size,1,none⟩=some ((.bool b))∧w'.cell? ⟨w.heap.size+1+1,0,none⟩=some (cellOf w' ⟨w.heap.size+1+1,0,none⟩)∧w'.cell? ⟨w.heap.size+1+1,1,none⟩=some (cellOf w' ⟨w.heap.size+1+1,1,none⟩)∧w'.frozen? ⟨w.heap.size+1+1,0,none⟩=false∧w'.frozen? ⟨w.heap.size+1+1,1,none⟩=false∧w.grownBy w' none) (first | exact Kept.step (W:=w) [(w.heap.size+1,0,(.slice q m cap')),(w.heap.size+1,1,(.bool b)),(w.heap.size,0,(.slice p n cap)),(w.heap.size,1,(.bool b))] [w.heap.size+1+1] (by assumption) (by assumption) | exact Kept.set (W:=w) [(w.heap.size+1,0,(.slice q m cap')),(w.heap.size+1,1,(.bool b)),(w.heap.size,0,(.slice p n cap)),(w.heap.size,1,(.bool b))] [w.heap.size+1+1] (by simp <;> omega) (by first | omega | (simp <;> omega)) (by assumption) | exact Kept.step [(w.heap.size+1,0,(.slice q m cap')),(w.heap.size+1,1,(.bool b)),(w.heap.size,0,(.slice p n cap)),(w.heap.size,1,(.bool b))] [w.heap.size+1+1] (dR _ _) S0)
  (first | (go_at_call 105;refine (UX (Hx.out.grown (by go_split_ands;assumption)) (Hy.out.grown (by go_split_ands;assumption)) (by omega)).mono ?_;rintro e w' ⟨v,rfl,h,bd,hg⟩;obtain ⟨pv,nv,rfl⟩:=h.slice) | (go_at_call 88;refine (jp _ _ _ _ _).mono ?_;rintro e w' ⟨rfl,hg⟩;replace h:=h.grown hg (.inl rfl)))
 rename_i hend
 go_wp2_with fail
 exact kE Tryz.results77 rfl rfl hend.2.2.2.2.1 hend.2.2.2.2.2.1 hend.2.2.2.2.2.2.2.2 h (by first | omega | (simp <;> omega)) (by first | omega | (simp <;> omega)) rfl (zQ _ _ _) bd
set_option maxHeartbeats 2000000 in
theorem U2 {p q:Option Addr}{n m cap cap' X Y i j:Nat}{w:World} (hx:cG w (.slice p n cap) X i) (hy:cG w (.slice q m cap') Y j) (hi:i+j<=1000000) (hc:Y<=X) :
  Calls Tryz.prog 77 #[.agg #[.slice p n cap,.bool true],.agg #[.slice q m cap',.bool false]] w (eT w (sg true (X-Y)) (i)):=by
 have Hx:=Lib.hid hx
 have Hy:=Lib.hid hy
 have Hc:=Lib.hid hc
 have S0:Kept w [(w.heap.size+1,0,(.slice q m cap')),(w.heap.size+1,1,(.bool false)),(w.heap.size,0,(.slice p n cap)),(w.heap.size,1,(.bool true))] [w.heap.size+1+1] (((w.alloc (.cells #[.slice p n cap,.bool true] 56)).alloc (.cells #[.slice q m cap',.bool false] 56)).alloc (.cells #[.slice none 0 0,.bool false] 56)):=(((Kept.start w).box _ _ _ _ rfl).box _ _ _ _ (by simp)).res _ _ _ _ _ (by simp)
 clear hx hy hc
 go_enter Tryz.func77,Tryz.ntmps77
 go_wp2_with fail
 refine (q8 (Hx.out.grown (Kept.all _ _ S0)) (Hy.out.grown (Kept.all _ _ S0))).mono ?_
 rintro e w1 ⟨rfl,hg⟩
 have hge:=tB Hc.out
 generalize cF X Y=r at *
 have s1:=hg.size
 have s2:=S0.lt (g:=w.heap.size+1+1) (by simp)
 have Sq:=S0.size
 replace S0:=Kept.grown _ _ S0 hg
 clear hg
 obtain ⟨c0,c1,c2,c3,r0,r1,r2,r3,G⟩:=id S0
 go_wp2_with fail
 go_region_held3 (fun w'=>w'.cell? ⟨w.heap.size+1,0,none⟩=some ((.slice q m cap'))∧w'.cell? ⟨w.heap.size+1,1,none⟩=some ((.bool false))∧w'.cell? ⟨w.heap.size,0,none⟩=some ((.slice p n cap))∧w'.cell? ⟨w.heap.size,1,none⟩=some ((.bool true))∧w'.cell? ⟨w.heap.size+1+1,0,none⟩=some (cellOf w' ⟨w.heap.size+1+1,0,none⟩)∧w'.cell? ⟨w.heap.size+1+1,1,none⟩=some (cellOf w' ⟨w.heap.size+1+1,1,none⟩)∧w'.frozen? ⟨w.heap.size+1+1,0,none⟩=false∧w'.frozen? ⟨w.heap.size+1+1,1,none⟩=false∧w.grownBy w' none) (first | exact Kept.step (W:=w) [(w.heap.size+1,0,(.slice q m cap')),(w.heap.size+1,1,(.bool false)),(w.heap.size,0,(.slice p n cap)),(w.heap.size,1,(.bool true))] [w.heap.size+1+1] (by assumption) (by assumption) | exact Kept.set (W:=w) [(w.heap.size+1,0,(.slice q m cap')),(w.heap.size+1,1,(.bool false)),(w.heap.size,0,(.slice p n cap)),(w.heap.size,1,(.bool true))] [w.heap.size+1+1] (by simp <;> omega) (by first | omega | (simp <;> omega)) (by assumption) | exact Kept.step [(w.heap.size+1,0,(.slice q m cap')),(w.heap.size+1,1,(.bool false)),(w.heap.size,0,(.slice p n cap)),(w.heap.size,1,(.bool true))] [w.heap.size+1+1] (dR _ _) S0)
  (first | (go_at_call 107;refine (q7 (Hx.out.grown (by go_split_ands;assumption)) (Hy.out.grown (by go_split_ands;assumption)) (by omega) Hc.out).mono ?_;rintro e w' ⟨v,rfl,h,bd,hg⟩;obtain ⟨pv,nv,rfl⟩:=h.slice) | (go_at_call 88;refine (jp _ _ _ _ _).mono ?_;rintro e w' ⟨rfl,hg⟩;replace h:=h.grown hg (.inl rfl)))
 rename_i hend
 go_wp2_with fail
 exact kE (b:=true) Tryz.results77 rfl rfl hend.2.2.2.2.1 hend.2.2.2.2.2.1 hend.2.2.2.2.2.2.2.2 h (by simp at s1 s2 Sq ⊢ <;> omega) (by simp at s1 s2 Sq ⊢ <;> omega) rfl (rfl) bd
set_option maxHeartbeats 2000000 in
theorem U3 {p q:Option Addr}{n m cap cap' X Y i j:Nat}{w:World} (hx:cG w (.slice p n cap) X i) (hy:cG w (.slice q m cap') Y j) (hi:i+j<=1000000) (hc:X<Y) :
  Calls Tryz.prog 77 #[.agg #[.slice p n cap,.bool true],.agg #[.slice q m cap',.bool false]] w (eT w (sg false (Y-X)) (j)):=by
 have Hx:=Lib.hid hx
 have Hy:=Lib.hid hy
 have Hc:=Lib.hid hc
 have S0:Kept w [(w.heap.size+1,0,(.slice q m cap')),(w.heap.size+1,1,(.bool false)),(w.heap.size,0,(.slice p n cap)),(w.heap.size,1,(.bool true))] [w.heap.size+1+1] (((w.alloc (.cells #[.slice p n cap,.bool true] 56)).alloc (.cells #[.slice q m cap',.bool false] 56)).alloc (.cells #[.slice none 0 0,.bool false] 56)):=(((Kept.start w).box _ _ _ _ rfl).box _ _ _ _ (by simp)).res _ _ _ _ _ (by simp)
 clear hx hy hc
 go_enter Tryz.func77,Tryz.ntmps77
 go_wp2_with fail
 refine (q8 (Hx.out.grown (Kept.all _ _ S0)) (Hy.out.grown (Kept.all _ _ S0))).mono ?_
 rintro e w1 ⟨rfl,hg⟩
 rw [ke Hc.out]
 have s1:=hg.size
 have s2:=S0.lt (g:=w.heap.size+1+1) (by simp)
 have Sq:=S0.size
 replace S0:=Kept.grown _ _ S0 hg
 clear hg
 obtain ⟨c0,c1,c2,c3,r0,r1,r2,r3,G⟩:=id S0
 go_wp2_with fail
 go_region_held3 (fun w'=>w'.cell? ⟨w.heap.size+1,0,none⟩=some ((.slice q m cap'))∧w'.cell? ⟨w.heap.size+1,1,none⟩=some ((.bool false))∧w'.cell? ⟨w.heap.size,0,none⟩=some ((.slice p n cap))∧w'.cell? ⟨w.heap.size,1,none⟩=some ((.bool true))∧w'.cell? ⟨w.heap.size+1+1,0,none⟩=some (cellOf w' ⟨w.heap.size+1+1,0,none⟩)∧w'.cell? ⟨w.heap.size+1+1,1,none⟩=some (cellOf w' ⟨w.heap.size+1+1,1,none⟩)∧w'.frozen? ⟨w.heap.size+1+1,0,none⟩=false∧w'.frozen? ⟨w.heap.size+1+1,1,none⟩=false∧w.grownBy w' none) (first | exact Kept.step (W:=w) [(w.heap.size+1,0,(.slice q m cap')),(w.heap.size+1,1,(.bool false)),(w.heap.size,0,(.slice p n cap)),(w.heap.size,1,(.bool true))] [w.heap.size+1+1] (by assumption) (by assumption) | exact Kept.set (W:=w) [(w.heap.size+1,0,(.slice q m cap')),(w.heap.size+1,1,(.bool false)),(w.heap.size,0,(.slice p n cap)),(w.heap.size,1,(.bool true))] [w.heap.size+1+1] (by simp <;> omega) (by first | omega | (simp <;> omega)) (by assumption) | exact Kept.step [(w.heap.size+1,0,(.slice q m cap')),(w.heap.size+1,1,(.bool false)),(w.heap.size,0,(.slice p n cap)),(w.heap.size,1,(.bool true))] [w.heap.size+1+1] (dR _ _) S0)
  (first | (go_at_call 107;refine (q7 (Hy.out.grown (by go_split_ands;assumption)) (Hx.out.grown (by go_split_ands;assumption)) (by omega) (Nat.le_of_lt Hc.out)).mono ?_;rintro e w' ⟨v,rfl,h,bd,hg⟩;obtain ⟨pv,nv,rfl⟩:=h.slice) | (go_at_call 88;refine (jp _ _ _ _ _).mono ?_;rintro e w' ⟨rfl,hg⟩;replace h:=h.grown hg (.inl rfl)))
 rename_i hend
 go_wp2_with fail
 exact kE (b:=false) Tryz.results77 rfl rfl hend.2.2.2.2.1 hend.2.2.2.2.2.1 hend.2.2.2.2.2.2.2.2 h (by simp at s1 s2 Sq ⊢ <;> omega) (by simp at s1 s2 Sq ⊢ <;> omega) rfl (rfl) bd
set_option maxHeartbeats 2000000 in
theorem U4 {p q:Option Addr}{n m cap cap' X Y i j:Nat}{w:World} (hx:cG w (.slice p n cap) X i) (hy:cG w (.slice q m cap') Y j) (hi:i+j<=1000000) (hc:Y<=X) :
  Calls Tryz.prog 77 #[.agg #[.slice p n cap,.bool false],.agg #[.slice q m cap',.bool true]] w (eT w (sg false (X-Y)) (i)):=by
 have Hx:=Lib.hid hx
 have Hy:=Lib.hid hy
 have Hc:=Lib.hid hc
 have S0:Kept w [(w.heap.size+1,0,(.slice q m cap')),(w.heap.size+1,1,(.bool true)),(w.heap.size,0,(.slice p n cap)),(w.heap.size,1,(.bool false))] [w.heap.size+1+1] (((w.alloc (.cells #[.slice p n cap,.bool false] 56)).alloc (.cells #[.slice q m cap',.bool true] 56)).alloc (.cells #[.slice none 0 0,.bool false] 56)):=(((Kept.start w).box _ _ _ _ rfl).box _ _ _ _ (by simp)).res _ _ _ _ _ (by simp)
 clear hx hy hc
 go_enter Tryz.func77,Tryz.ntmps77
 go_wp2_with fail
 refine (q8 (Hx.out.grown (Kept.all _ _ S0)) (Hy.out.grown (Kept.all _ _ S0))).mono ?_
 rintro e w1 ⟨rfl,hg⟩
 have hge:=tB Hc.out
 generalize cF X Y=r at *
 have s1:=hg.size
 have s2:=S0.lt (g:=w.heap.size+1+1) (by simp)
 have Sq:=S0.size
 replace S0:=Kept.grown _ _ S0 hg
 clear hg
 obtain ⟨c0,c1,c2,c3,r0,r1,r2,r3,G⟩:=id S0
 go_wp2_with fail
 go_region_held3 (fun w'=>w'.cell? ⟨w.heap.size+1,0,none⟩=some ((.slice q m cap'))∧w'.cell? ⟨w.heap.size+1,1,none⟩=some ((.bool true))∧w'.cell? ⟨w.heap.size,0,none⟩=some ((.slice p n cap))∧w'.cell? ⟨w.heap.size,1,none⟩=some ((.bool false))∧w'.cell? ⟨w.heap.size+1+1,0,none⟩=some (cellOf w' ⟨w.heap.size+1+1,0,none⟩)∧w'.cell? ⟨w.heap.size+1+1,1,none⟩=some (cellOf w' ⟨w.heap.size+1+1,1,none⟩)∧w'.frozen? ⟨w.heap.size+1+1,0,none⟩=false∧w'.frozen? ⟨w.heap.size+1+1,1,none⟩=false∧w.grownBy w' none) (first | exact Kept.step (W:=w) [(w.heap.size+1,0,(.slice q m cap')),(w.heap.size+1,1,(.bool true)),(w.heap.size,0,(.slice p n cap)),(w.heap.size,1,(.bool false))] [w.heap.size+1+1] (by assumption) (by assumption) | exact Kept.set (W:=w) [(w.heap.size+1,0,(.slice q m cap')),(w.heap.size+1,1,(.bool true)),(w.heap.size,0,(.slice p n cap)),(w.heap.size,1,(.bool false))] [w.heap.size+1+1] (by simp <;> omega) (by first | omega | (simp <;> omega)) (by assumption) | exact Kept.step [(w.heap.size+1,0,(.slice q m cap')),(w.heap.size+1,1,(.bool true)),(w.heap.size,0,(.slice p n cap)),(w.heap.size,1,(.bool false))] [w.heap.size+1+1] (dR _ _) S0)
  (first | (go_at_call 107;refine (q7 (Hx.out.grown (by go_split_ands;assumption)) (Hy.out.grown (by go_split_ands;assumption)) (by omega) Hc.out).mono ?_;rintro e w' ⟨v,rfl,h,bd,hg⟩;obtain ⟨pv,nv,rfl⟩:=h.slice) | (go_at_call 88;refine (jp _ _ _ _ _).mono ?_;rintro e w' ⟨rfl,hg⟩;replace h:=h.grown hg (.inl rfl)))
 rename_i hend
 go_wp2_with fail
 exact kE (b:=false) Tryz.results77 rfl rfl hend.2.2.2.2.1 hend.2.2.2.2.2.1 hend.2.2.2.2.2.2.2.2 h (by simp at s1 s2 Sq ⊢ <;> omega) (by simp at s1 s2 Sq ⊢ <;> omega) rfl (rfl) bd
set_option maxHeartbeats 2000000 in
theorem U5 {p q:Option Addr}{n m cap cap' X Y i j:Nat}{w:World} (hx:cG w (.slice p n cap) X i) (hy:cG w (.slice q m cap') Y j) (hi:i+j<=1000000) (hc:X<Y) :
  Calls Tryz.prog 77 #[.agg #[.slice p n cap,.bool false],.agg #[.slice q m cap',.bool true]] w (eT w (sg true (Y-X)) (j)):=by
 have Hx:=Lib.hid hx
 have Hy:=Lib.hid hy
 have Hc:=Lib.hid hc
 have S0:Kept w [(w.heap.size+1,0,(.slice q m cap')),(w.heap.size+1,1,(.bool true)),(w.heap.size,0,(.slice p n cap)),(w.heap.size,1,(.bool false))] [w.heap.size+1+1] (((w.alloc (.cells #[.slice p n cap,.bool false] 56)).alloc (.cells #[.slice q m cap',.bool true] 56)).alloc (.cells #[.slice none 0 0,.bool false] 56)):=(((Kept.start w).box _ _ _ _ rfl).box _ _ _ _ (by simp)).res _ _ _ _ _ (by simp)
 clear hx hy hc
 go_enter Tryz.func77,Tryz.ntmps77
 go_wp2_with fail
 refine (q8 (Hx.out.grown (Kept.all _ _ S0)) (Hy.out.grown (Kept.all _ _ S0))).mono ?_
 rintro e w1 ⟨rfl,hg⟩
 rw [ke Hc.out]
 have s1:=hg.size
 have s2:=S0.lt (g:=w.heap.size+1+1) (by simp)
 have Sq:=S0.size
 replace S0:=Kept.grown _ _ S0 hg
 clear hg
 obtain ⟨c0,c1,c2,c3,r0,r1,r2,r3,G⟩:=id S0
 go_wp2_with fail
 go_region_held3 (fun w'=>w'.cell? ⟨w.heap.size+1,0,none⟩=some ((.slice q m cap'))∧w'.cell? ⟨w.heap.size+1,1,none⟩=some ((.bool true))∧w'.cell? ⟨w.heap.size,0,none⟩=some ((.slice p n cap))∧w'.cell? ⟨w.heap.size,1,none⟩=some ((.bool false))∧w'.cell? ⟨w.heap.size+1+1,0,none⟩=some (cellOf w' ⟨w.heap.size+1+1,0,none⟩)∧w'.cell? ⟨w.heap.size+1+1,1,none⟩=some (cellOf w' ⟨w.heap.size+1+1,1,none⟩)∧w'.frozen? ⟨w.heap.size+1+1,0,none⟩=false∧w'.frozen? ⟨w.heap.size+1+1,1,none⟩=false∧w.grownBy w' none) (first | exact Kept.step (W:=w) [(w.heap.size+1,0,(.slice q m cap')),(w.heap.size+1,1,(.bool true)),(w.heap.size,0,(.slice p n cap)),(w.heap.size,1,(.bool false))] [w.heap.size+1+1] (by assumption) (by assumption) | exact Kept.set (W:=w) [(w.heap.size+1,0,(.slice q m cap')),(w.heap.size+1,1,(.bool true)),(w.heap.size,0,(.slice p n cap)),(w.heap.size,1,(.bool false))] [w.heap.size+1+1] (by simp <;> omega) (by first | omega | (simp <;> omega)) (by assumption) | exact Kept.step [(w.heap.size+1,0,(.slice q m cap')),(w.heap.size+1,1,(.bool true)),(w.heap.size,0,(.slice p n cap)),(w.heap.size,1,(.bool false))] [w.heap.size+1+1] (dR _ _) S0)
  (first | (go_at_call 107;refine (q7 (Hy.out.grown (by go_split_ands;assumption)) (Hx.out.grown (by go_split_ands;assumption)) (by omega) (Nat.le_of_lt Hc.out)).mono ?_;rintro e w' ⟨v,rfl,h,bd,hg⟩;obtain ⟨pv,nv,rfl⟩:=h.slice) | (go_at_call 88;refine (jp _ _ _ _ _).mono ?_;rintro e w' ⟨rfl,hg⟩;replace h:=h.grown hg (.inl rfl)))
 rename_i hend
 go_wp2_with fail
 exact kE (b:=true) Tryz.results77 rfl rfl hend.2.2.2.2.1 hend.2.2.2.2.2.1 hend.2.2.2.2.2.2.2.2 h (by simp at s1 s2 Sq ⊢ <;> omega) (by simp at s1 s2 Sq ⊢ <;> omega) rfl (rfl) bd
theorem an.open {w:World}{v:Value}{z:Int}{k:Nat} (h:an w v z k):∃(b:Bool) (p:Option Addr) (n cap X:Nat),v = .agg #[.slice p n cap,.bool b]∧cG w (.slice p n cap) X k∧z=sg b X:=by
 obtain ⟨p,cap,h1,h2⟩:=h
 exact ⟨_,p,_,cap,_,h1,h2,(tE z).symm⟩
theorem U6 {v u:Value}{z y:Int}{i j:Nat}{w:World} (hx:an w v z i) (hy:an w u y j) (hi:i+j<=1000000) :
  Calls Tryz.prog 77 #[v,u] w (eT w (z+y) (i+j+1)):=by
 obtain ⟨b,p,n,cap,X,rfl,dx,rfl⟩:=hx.open
 obtain ⟨b',q,m,cap',Y,rfl,dy,rfl⟩:=hy.open
 cases b <;> cases b'
 ·exact D8 dx dy hi
 ·by_cases hc:Y<=X
  ·exact (U4 dx dy hi hc).mono fun _ _ h=>h.of (by simp [sg];omega) (by omega)
  ·exact (U5 dx dy hi (by omega)).mono fun _ _ h=>h.of (by simp [sg];omega) (by omega)
 ·by_cases hc:Y<=X
  ·exact (U2 dx dy hi hc).mono fun _ _ h=>h.of (by simp [sg];omega) (by omega)
  ·exact (U3 dx dy hi (by omega)).mono fun _ _ h=>h.of (by simp [sg];omega) (by omega)
 ·exact D8 dx dy hi
set_option maxHeartbeats 2000000 in
theorem U7 {v u:Value}{z y:Int}{i j:Nat}{w:World} (hx:an w v z i) (hy:an w u y j) (hi:i+j<=1000000) :
  Calls Tryz.prog 81 #[v,u] w (eT w (z-y) (i+j+1)):=by
 have Vx:=Lib.hid hx
 have Vy:=Lib.hid hy
 obtain ⟨b,p,n,cap,X,rfl,hx',rfl⟩:=hx.open
 obtain ⟨b',q,m,cap',Y,rfl,hy',rfl⟩:=hy.open
 clear hx' hy' hx hy
 have S0:Kept w [(w.heap.size+1,0,(.slice q m cap')),(w.heap.size+1,1,(.bool b')),(w.heap.size,0,(.slice p n cap)),(w.heap.size,1,(.bool b))] [w.heap.size+1+1] (((w.alloc (.cells #[.slice p n cap,.bool b] 56)).alloc (.cells #[.slice q m cap',.bool b'] 56)).alloc (.cells #[.slice none 0 0,.bool false] 56)):=(((Kept.start w).box _ _ _ _ rfl).box _ _ _ _ (by simp)).res _ _ _ _ _ (by simp)
 rw [Int.sub_eq_add_neg]
 go_enter Tryz.func81,Tryz.ntmps81
 go_wp2_with fail
 go_region_held3 (fun w'=>w'.cell? ⟨w.heap.size+1,0,none⟩=some ((.slice q m cap'))∧w'.cell? ⟨w.heap.size+1,1,none⟩=some ((.bool b'))∧w'.cell? ⟨w.heap.size,0,none⟩=some ((.slice p n cap))∧w'.cell? ⟨w.heap.size,1,none⟩=some ((.bool b))∧w'.cell? ⟨w.heap.size+1+1,0,none⟩=some (cellOf w' ⟨w.heap.size+1+1,0,none⟩)∧w'.cell? ⟨w.heap.size+1+1,1,none⟩=some (cellOf w' ⟨w.heap.size+1+1,1,none⟩)∧w'.frozen? ⟨w.heap.size+1+1,0,none⟩=false∧w'.frozen? ⟨w.heap.size+1+1,1,none⟩=false∧w.grownBy w' none) (first | exact Kept.step (W:=w) [(w.heap.size+1,0,(.slice q m cap')),(w.heap.size+1,1,(.bool b')),(w.heap.size,0,(.slice p n cap)),(w.heap.size,1,(.bool b))] [w.heap.size+1+1] (by assumption) (by assumption) | exact Kept.set (W:=w) [(w.heap.size+1,0,(.slice q m cap')),(w.heap.size+1,1,(.bool b')),(w.heap.size,0,(.slice p n cap)),(w.heap.size,1,(.bool b))] [w.heap.size+1+1] (by simp <;> omega) (by first | omega | (simp <;> omega)) (by assumption) | exact Kept.step [(w.heap.size+1,0,(.slice q m cap')),(w.heap.size+1,1,(.bool b')),(w.heap.size,0,(.slice p n cap)),(w.heap.size,1,(.bool b))] [w.heap.size+1+1] (dR _ _) S0)
  (first | (go_at_call 80;refine (zK (Vy.out.grown (by go_split_ands;assumption))).mono ?_;rintro e w' ⟨v,rfl,hn,hg⟩) | (go_at_call 77;refine (U6 (Vx.out.grown (by go_split_ands;assumption)) hn hi).mono ?_;have hsz:=hg.size;rintro e w' ⟨v,rfl,h,bd,hg⟩;obtain ⟨pv,nv,rfl,h2⟩:=id h))
 rename_i hend
 go_wp2_with fail
 exact U0 Tryz.results81 rfl rfl hend.2.2.2.2.1 hend.2.2.2.2.2.1 hend.2.2.2.2.2.2.2.2 h (by simp at hsz;omega) (by simp at hsz;omega) bd
theorem U8 (z y:Int):dj (z-y) 0=dj z y:=by
 unfold dj
 split <;> split <;> (try split) <;> (try split) <;> omega
set_option maxHeartbeats 1000000 in
theorem T0 {v u:Value}{z y:Int}{i j:Nat}{w:World} (r:Int) (hx:an w v z i) (hy:an w u y j) (hi:i+j<=1000000) (hr:dj z y=r) :
  Calls Tryz.prog 83 #[v,u] w fun e w'=>e = .returned (.int .i64 r)∧w.grownBy w' none:=by
 subst hr
 rw [<- U8]
 have Vx:=Lib.hid hx
 have Vy:=Lib.hid hy
 obtain ⟨b,p,n,cap,X,rfl,hx',rfl⟩:=hx.open
 obtain ⟨b',q,m,cap',Y,rfl,hy',rfl⟩:=hy.open
 clear hx' hy' hx hy
 have S0:Kept w [(w.heap.size+1,0,(.slice q m cap')),(w.heap.size+1,1,(.bool b')),(w.heap.size,0,(.slice p n cap)),(w.heap.size,1,(.bool b))] [] ((w.alloc (.cells #[.slice p n cap,.bool b] 56)).alloc (.cells #[.slice q m cap',.bool b'] 56)):=((Kept.start w).box _ _ _ _ rfl).box _ _ _ _ (by simp)
 go_enter Tryz.func83,Tryz.ntmps83
 go_wp2_with fail
 refine (U7 (Vx.out.grown (Kept.all _ _ S0)) (Vy.out.grown (Kept.all _ _ S0)) hi).mono ?_
 rintro e w1 ⟨v,rfl,h,bd,hg⟩
 have Hv:=Lib.hid (h.zF bd)
 have G:=Lib.hid (aI (Kept.all _ _ S0) hg)
 clear S0 hg h bd
 go_wp2_with fail
 refine (U1 Hv.out).mono ?_
 rintro e w2 ⟨rfl,hg⟩
 have G2:=Lib.hid (aI G.out hg)
 clear hg
 go_wp2_with fail
 go_ret
 exact ⟨rfl,G2.out⟩
theorem D9 {X:Nat} (h:X<18446744073709551616):Bd X 2:=by unfold Bd;omega
theorem Ea {m:Nat} (h:m<9223372036854775809):(aj 10000 m).length<=5:=gN (by omega) 5 m (by omega)
theorem Eb (l:List Nat){m:Nat} (h:0<m):l ++ aj 10000 m=(l ++ [m % 10000]) ++ aj 10000 (m / 10000):=by
 rw [ip (by omega) h];simp
set_option maxHeartbeats 2000000 in
theorem U9 (N:Nat) (w:World) (hN:N<=9223372036854775807) :
  Calls Tryz.prog 52 #[.int .i64 (N:Int)] w (eT w ((N:Int)) 2):=by
 obtain ⟨i0,hi,hz0,hz1,hz2⟩:=info_parts Tryz.infoI
 have S0:Kept w [] [w.heap.size] (w.alloc (.cells #[.slice none 0 0,.bool false] 56)):=(Kept.start w).res _ _ _ _ _ rfl
 have hq:((N:Int) == (-9223372036854775808:Int))=false:=by
  rw [beq_eq_false_iff_ne]
  omega
 have NL:=Lib.hid (Ea (m:=N) (by omega))
 go_enter Tryz.func52,Tryz.ntmps52
 go_wp2_with fail
 generalize w.alloc (.cells #[.slice none 0 0,.bool false] 56)=W1 at *
 have Hs:=S0.size
 have Hl:=S0.lt (g:=w.heap.size) (by simp)
 go_loopw [0,4] (fun nv ov wr=>∃(m:Nat) (l:List Nat),m<=N∧nv = .int .i64 m∧Hid (aj 10000 N=l ++ aj 10000 m)∧Own wr 3 .i64 W1.heap.size ov l∧W1.grownBy wr none) (fun nv _ _=>(intOf nv).toNat)
 case atStart=>exact ⟨N,[],Nat.le_refl _,by go_num,rfl,Own.nil _ _ _ _,ba _ _⟩
 case round=>
  obtain ⟨m,l,hm,rfl,hd,ho,gr⟩:=hrel
  obtain ⟨op,d5,rfl⟩:=ho.slice
  have Ho:=Lib.hid ho
  have Gr:=Lib.hid gr
  clear ho gr
  by_cases h0:m=0
  ·subst h0
   have hd':=hd.out
   rw [iX,List.append_nil] at hd'
   subst hd'
   clear hd
   go_wp2_with fail
   refine (jp _ _ _ _ _).mono ?_
   rintro e w2 ⟨rfl,hg⟩
   have h:=Ho.out.grown hg (.inl rfl)
   replace S0:=S0.grown _ _ (aI Gr.out hg)
   clear hg
   obtain ⟨r0,r1,f0,f1,G⟩:=id S0
   go_wp2_with fail
   exact kE (b:=false) Tryz.results52 rfl rfl (dm r0) (dp r1) (Kept.all _ _ (Kept.set _ _ (by simp) (Nat.le_refl _) S0)) h Hs Hl rfl rfl (D9 (by omega))
  ·have hp:0<m:=by omega
   have Hd2:=Lib.hid (show _=_ from hd.out.trans (Eb l hp))
   have Lz:=Lib.hid (show l.length<=5 by
    have:=NL.out
    rw [hd.out,List.length_append] at this
    omega)
   clear hd
   have hp':(0:Int)<(m:Int):=by omega
   go_wp2_with (at_builtin;refine iE rfl _ _ 54 rfl 3 i0 (.int .i64 0) .i64 Tryz.underlying54 hi hz0 hz1 (by omega) rfl W1.heap.size (.slice op l.length d5) l (m % 10000) rfl (Ho.out.grown (aN _ _ none) (.inl rfl)) wr.heap.size rfl ?c1 (by have:=Lz.out;omega) (by have:=Gr.out.size;simp;omega) ?_;(case c1=>exact (World.cell?_alloc_at _ _ _ _ rfl).trans (by simp;try omega));intro v' w3 ho3 g3;have dG:=Lib.hid ho3;have G3:=Lib.hid (i8 (v:=.slice op l.length d5) g3 (Ho.out.grown (aN _ _ none) (.inl rfl)) (aI Gr.out (aN _ _ _)));clear ho3 g3)
   go_roundw
   case rel=>exact ⟨m / 10000,l ++ [m % 10000],by omega,by go_num,Hd2.out,dG.out,G3.out⟩
   case measure=>simp [intOf];omega
set_option maxHeartbeats 2000000 in
theorem Vb (N:Nat) (w:World) (hN:N<=9223372036854775807) (h0:0<N) :
  Calls Tryz.prog 52 #[.int .i64 (-(N:Int))] w (eT w ((-(N:Int))) 2):=by
 obtain ⟨i0,hi,hz0,hz1,hz2⟩:=info_parts Tryz.infoI
 have S0:Kept w [] [w.heap.size] (w.alloc (.cells #[.slice none 0 0,.bool false] 56)):=(Kept.start w).res _ _ _ _ _ rfl
 have hq:((-(N:Int)) == (-9223372036854775808:Int))=false:=by
  rw [beq_eq_false_iff_ne]
  omega
 have NL:=Lib.hid (Ea (m:=N) (by omega))
 go_enter Tryz.func52,Tryz.ntmps52
 go_wp2_with fail
 generalize w.alloc (.cells #[.slice none 0 0,.bool false] 56)=W1 at *
 have Hs:=S0.size
 have Hl:=S0.lt (g:=w.heap.size) (by simp)
 go_loopw [0,4] (fun nv ov wr=>∃(m:Nat) (l:List Nat),m<=N∧nv = .int .i64 m∧Hid (aj 10000 N=l ++ aj 10000 m)∧Own wr 3 .i64 W1.heap.size ov l∧W1.grownBy wr none) (fun nv _ _=>(intOf nv).toNat)
 case atStart=>exact ⟨N,[],Nat.le_refl _,by go_num,rfl,Own.nil _ _ _ _,ba _ _⟩
 case round=>
  obtain ⟨m,l,hm,rfl,hd,ho,gr⟩:=hrel
  obtain ⟨op,d5,rfl⟩:=ho.slice
  have Ho:=Lib.hid ho
  have Gr:=Lib.hid gr
  clear ho gr
  by_cases h0:m=0
  ·subst h0
   have hd':=hd.out
   rw [iX,List.append_nil] at hd'
   subst hd'
   clear hd
   go_wp2_with fail
   refine (jp _ _ _ _ _).mono ?_
   rintro e w2 ⟨rfl,hg⟩
   have h:=Ho.out.grown hg (.inl rfl)
   replace S0:=S0.grown _ _ (aI Gr.out hg)
   clear hg
   obtain ⟨r0,r1,f0,f1,G⟩:=id S0
   go_wp2_with fail
   exact kE (b:=true) Tryz.results52 rfl rfl (dm r0) (dp r1) (Kept.all _ _ (Kept.set _ _ (by simp) (Nat.le_refl _) S0)) h Hs Hl rfl rfl (D9 (by omega))
  ·have hp:0<m:=by omega
   have Hd2:=Lib.hid (show _=_ from hd.out.trans (Eb l hp))
   have Lz:=Lib.hid (show l.length<=5 by
    have:=NL.out
    rw [hd.out,List.length_append] at this
    omega)
   clear hd
   have hp':(0:Int)<(m:Int):=by omega
   go_wp2_with (at_builtin;refine iE rfl _ _ 54 rfl 3 i0 (.int .i64 0) .i64 Tryz.underlying54 hi hz0 hz1 (by omega) rfl W1.heap.size (.slice op l.length d5) l (m % 10000) rfl (Ho.out.grown (aN _ _ none) (.inl rfl)) wr.heap.size rfl ?c1 (by have:=Lz.out;omega) (by have:=Gr.out.size;simp;omega) ?_;(case c1=>exact (World.cell?_alloc_at _ _ _ _ rfl).trans (by simp;try omega));intro v' w3 ho3 g3;have dG:=Lib.hid ho3;have G3:=Lib.hid (i8 (v:=.slice op l.length d5) g3 (Ho.out.grown (aN _ _ none) (.inl rfl)) (aI Gr.out (aN _ _ _)));clear ho3 g3)
   go_roundw
   case rel=>exact ⟨m / 10000,l ++ [m % 10000],by omega,by go_num,Hd2.out,dG.out,G3.out⟩
   case measure=>simp [intOf];omega
set_option maxHeartbeats 1000000 in
theorem Vc (w:World):Calls Tryz.prog 52 #[.int .i64 (-9223372036854775808)] w (eT w (-9223372036854775808) 2):=by
 have S0:Kept w [] [w.heap.size] (w.alloc (.cells #[.slice none 0 0,.bool false] 56)):=(Kept.start w).res _ _ _ _ _ rfl
 have hz:sg true (2 ^ 63) = -9223372036854775808:=by simp [sg]
 go_enter Tryz.func52,Tryz.ntmps52
 go_wp2_with fail
 have S1:=S0
 refine (UZ 63 2 (by omega) (by omega)).mono ?_
 rintro e w1 ⟨v,rfl,h,bd,hg⟩
 obtain ⟨pv,nv,rfl⟩:=h.slice
 replace S0:=S0.grown _ _ hg
 clear hg
 generalize hP:(2:Nat) ^ 63=P at *
 go_wp2_with fail
 refine (jp _ _ _ _ _).mono ?_
 rintro e w2 ⟨rfl,hg⟩
 replace h:=h.grown hg (.inl rfl)
 replace S0:=S0.grown _ _ hg
 clear hg
 obtain ⟨r0,r1,f0,f1,G⟩:=id S0
 go_wp2_with fail
 exact kE (b:=true) Tryz.results52 rfl rfl (dm r0) (dp r1) (Kept.all _ _ (Kept.set _ _ (by simp) (Nat.le_refl _) S0)) h S1.size (S1.lt (by simp)) rfl hz bd
theorem JZ (z:Int) (w:World) (h1 : -9223372036854775808<=z) (h2:z<=9223372036854775807):Calls Tryz.prog 52 #[.int .i64 z] w (eT w z 2):=by
 by_cases h3:z = -9223372036854775808
 ·subst h3
  exact Vc w
 ·rcases Int.lt_or_le z 0 with h | h
  ·obtain ⟨N,rfl⟩:∃N:Nat,z = -(N:Int):=⟨z.natAbs,by omega⟩
   exact Vb N w (by omega) (by omega)
  ·obtain ⟨N,rfl⟩:∃N:Nat,z=(N:Int):=⟨z.natAbs,by omega⟩
   exact U9 N w (by omega)
def gh (w:World) (v:Value) (z:Int):Prop:=∃p cap,v = .agg #[.bool (decide (z<0)),.slice p (aj 4294967296 z.natAbs).length cap]∧Sl w .u32 (.slice p (aj 4294967296 z.natAbs).length cap) (aj 4294967296 z.natAbs)
theorem gh.grown {w w':World}{v:Value}{z:Int} (h:gh w v z) (g:w.grownBy w' none):gh w' v z:=by
 obtain ⟨p,cap,h1,h2⟩:=h
 exact ⟨p,cap,h1,h2.grown g (.inl rfl)⟩
theorem fW.nor {w:World}{B:Nat}{v:Value}{z:Int} (h:fW w B v z):gh w v z:=by
 obtain ⟨p,cap,h1,h2⟩:=h
 exact ⟨p,cap,h1,h2.sl⟩
theorem gh.zE {w:World}{v:Value}{z:Int}{k:Nat} (h:gh w v z) (hb:Bd z.natAbs k):aC w v z k:=by
 obtain ⟨p,cap,h1,h2⟩:=h
 exact ⟨_,_,_,h1,(show gM w _ _ _ from ⟨h2,hb⟩).num,(tE z).symm⟩
set_option maxHeartbeats 2000000 in
theorem Ve {v u:Value}{z:Int}{k:Nat}{w:World} (hx:an w v z k) (hk:k<=1000000) (hu:gh w u z) :
  Calls Tryz.prog 82 #[v,u] w (LO w true):=by
 obtain ⟨p,cap,rfl,hx⟩:=hx
 obtain ⟨q,cap',rfl,hu⟩:=hu
 have S0:Kept w [(w.heap.size+1,0,(.bool (decide (z<0)))),(w.heap.size+1,1,(.slice q (aj 4294967296 z.natAbs).length cap')),(w.heap.size,0,(.slice p (aj 10000 z.natAbs).length cap)),(w.heap.size,1,(.bool (decide (z<0))))] [] ((w.alloc (.cells #[.slice p (aj 10000 z.natAbs).length cap,.bool (decide (z<0))] 56)).alloc (.cells #[.bool (decide (z<0)),.slice q (aj 4294967296 z.natAbs).length cap'] 52)):=((Kept.start w).box _ _ _ _ rfl).box _ _ _ _ (by simp)
 have Hx:=Lib.hid hx
 have Hu:=Lib.hid hu
 clear hx hu
 go_enter Tryz.func82,Tryz.ntmps82
 go_wp2_with fail
 refine (UD (Hx.out.grown (Kept.all _ _ S0)).1 (by have:=Hx.out.len;omega)).mono ?_
 rintro e w1 ⟨v,rfl,h,hg⟩
 obtain ⟨pv,nv,rfl⟩:=h.slice
 replace S0:=S0.grown _ _ hg
 obtain ⟨p1,XD,e1,m1,m2,h3⟩:=h.sl
 have hu1:=Hu.out.grown (Kept.all _ _ S0) (.inl rfl)
 obtain ⟨p2,cp2,e2,-,-,h4⟩:=hu1
 simp only [Value.slice.injEq,true_and] at e1 e2
 obtain ⟨rfl,rfl⟩:=e1
 obtain ⟨rfl,rfl⟩:=e2
 clear hg h Hu Hx
 generalize aj 4294967296 z.natAbs=l at *
 obtain ⟨n,hn⟩:∃n,l.length=n:=⟨_,rfl⟩
 have Hn:=Lib.hid hn
 rw [hn] at S0 m1 ⊢
 have nb:n<=9223372036854775807:=by omega
 clear hn m1 m2
 have hln:(decide (z<0) != decide (z<0))=false:=by simp
 obtain ⟨c0,c1,c2,c3,G⟩:=id S0
 have G1:=Lib.hid G
 clear G S0
 go_wp2_with fail
 go_loopw [25] (fun iv wr=>∃(i d:Nat),i<=n∧iv = .int .i64 i∧wr=w1.drewN d) (fun iv _=>(n-(intOf iv).toNat))
 case atStart=>exact ⟨0,0,by omega,rfl,rfl⟩
 case round=>
  obtain ⟨i,d,hi,rfl,rfl⟩:=hrel
  by_cases hlt:i<n
  ·rcases h3 with h3 | ⟨b1,o1,rfl,hb1,hy1⟩
   ·have:=Hn.out;rw [h3] at this;simp at this;omega
   rcases h4 with h4 | ⟨b2,o2,rfl,hb2,hy2⟩
   ·have:=Hn.out;rw [h4] at this;simp at this;omega
   have d1:=hy1 i (by rw [Hn.out];omega)
   have d2:=hy2 i (by rw [Hn.out];omega)
   clear hy1 hy2
   have i1:(i:Int)<(n:Int):=by omega
   have hb:(((nth l i:Nat):Int) != ((nth l i:Nat):Int))=false:=by simp
   go_wp2
   go_quiet (fail)
   go_wp2
   go_roundw
   case rel=>exact ⟨i+1,_,by omega,by go_num,rfl⟩
   case measure=>simp [intOf];omega
  ·obtain rfl:i=n:=by omega
   clear h3 h4
   go_wp2
   go_ret
   exact ⟨rfl,aI G1.out (iV _ _ _)⟩
theorem J2 {v:Value}{z:Int}{k:Nat}{w:World} (hx:an w v z k) :
  Calls Tryz.prog 78 #[v] w fun e w'=>e = .returned (.bool (decide (z=0)))∧w.grownBy w' none:=by
 have bx:=hx.bd
 obtain ⟨p,cap,rfl,hx⟩:=hx
 have Hx:=Lib.hid hx
 clear hx
 clear bx Hx
 have e:((((aj 10000 z.natAbs).length:Nat):Int) == 0)=decide (z=0):=by
  have:=fb (b:=10000) (by omega) (n:=z.natAbs)
  rw [Bool.eq_iff_iff,beq_iff_eq,decide_eq_true_eq]
  omega
 generalize (aj 10000 z.natAbs).length=l at *
 go_enter Tryz.func78,Tryz.ntmps78
 go_wp2_with fail
 go_ret
 refine ⟨?_,aN _ _ _⟩
 simp_all
end Go.Proofs.YtbokonbbokhjlaaGreat
