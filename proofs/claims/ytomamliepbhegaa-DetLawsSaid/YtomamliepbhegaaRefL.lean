/- The reference's whole numbers, one contract a function: made, From, To, Neg, Add, Sub, Mul, Sign, Cmp, Zero. The reference's whole numbers: Mul, Add, Sub, Cmp of numbers, Of, Same. The reference's small numbers: Of. Helpers of the laws of layer 2: Same, keep.Int, of, is. The reference's Zero. -/
import Derived.Test.YtomamliepbhegaaIntA
set_option maxRecDepth 100000
namespace Go.Proofs.Ytomamliepbhegaa
open Go.RowKit
def af (w:World) (v:Value) (z:Int) (k:Nat):Prop:=∃p cap,v = .agg #[.slice p (ak 10000 z.natAbs).length cap,.bool (decide (z<0))]∧bV w (.slice p (ak 10000 z.natAbs).length cap) z.natAbs k
theorem af.grown {w w':World}{v:Value}{z:Int}{k:Nat} (h:af w v z k) (g:w.grownBy w' none):af w' v z k:=by
 obtain ⟨p,cap,h1,h2⟩:=h
 exact ⟨p,cap,h1,h2.grown g⟩
theorem af.bd {w:World}{v:Value}{z:Int}{k:Nat} (h:af w v z k):Bd z.natAbs k:=by
 obtain ⟨p,cap,h1,h2⟩:=h
 exact h2.2
def gY (w:World) (B:Nat) (v:Value) (z:Int):Prop:=∃p cap,v = .agg #[.slice p (ak 10000 z.natAbs).length cap,.bool (decide (z<0))]∧Own w 3 .i64 B (.slice p (ak 10000 z.natAbs).length cap) (ak 10000 z.natAbs)
theorem gY.grown {w w':World}{B:Nat}{v:Value}{z:Int} (h:gY w B v z) (g:w.grownBy w' none):gY w' B v z:=by
 obtain ⟨p,cap,h1,h2⟩:=h
 exact ⟨p,cap,h1,h2.grown g (.inl rfl)⟩
theorem gY.uU {w:World}{B:Nat}{v:Value}{z:Int}{k:Nat} (h:gY w B v z) (hb:Bd z.natAbs k):af w v z k:=by
 obtain ⟨p,cap,h1,h2⟩:=h
 exact ⟨p,cap,h1,h2.sl,hb⟩
def cP (w:World) (z:Int) (k:Nat) (e:Ending) (w':World):Prop:=∃v,e = .returned v∧gY w' w.heap.size v z∧Bd z.natAbs k∧w.grownBy w' none
theorem cP.of {w w':World}{z y:Int}{k l:Nat}{e:Ending} (h:cP w z k e w') (hz:z=y) (hk:k<=l):cP w y l e w':=by
 subst hz
 obtain ⟨v,h1,h2,h3,h4⟩:=h
 exact ⟨v,h1,h2,h3.more hk,h4⟩
theorem eI (b:Bool) (p:Option Addr) (n cap:Nat) (w:World) :
  Calls Try.prog 56 #[.slice p n cap,.bool b] w fun e w'=>e = .returned (.agg #[.slice p n cap,.bool (b && decide (0<n))])∧w.grownBy w' none:=by
 go_enter Try.func56,Try.ntmps56
 cases b
 all_goals
  go_wp2_with fail
  simp [bodyPost,results,Try.results56,go_sem]
  exact KQ _ _ _
theorem OL {w:World}{v:Value}{X k:Nat} (hx:Num w v X k) (hk:k<=1000000):Calls Try.prog 78 #[v] w (eH w X k):=by
 have b:=hx.bd
 obtain ⟨xs,h1,h2,rfl,h3⟩:=hx
 exact (GR h1 h2 (by omega)).mono fun _ _ h=>eH.of h b
theorem fk {fn:Func}{a:Act}{W w:World}{r g X k B cap n:Nat}{b:Bool}{p:Option Addr}{z:Int}{x y:Value} (hres:fn.results = #[ResultVar.cell r 61]) (hd:a.defers = []) (hr:a.tmps[r]?=some (.pointer (some ⟨g,0,none⟩)))
  (h0:(set2 w g (.slice p n cap) (.bool (b && decide (0<n)))).cell? ⟨g,0,none⟩=some x) (h1:(set2 w g (.slice p n cap) (.bool (b && decide (0<n)))).cell? ⟨g,1,none⟩=some y)
  (hG:W.grownBy (set2 w g (.slice p n cap) (.bool (b && decide (0<n)))) none)
  (ho:Own w 3 .i64 B (.slice p n cap) (ak 10000 X)) (hB:W.heap.size<=B) (hg:g<B) (hn:(ak 10000 X).length=n) (hz:sg b X=z) (hb:Bd X k) :
  bodyPost Try.prog fn (cP W z k) .ret a (set2 w g (.slice p n cap) (.bool (b && decide (0<n)))):=by
 subst hz hn
 refine lw hres hd hr (jO h0) (jP h1) ⟨_,rfl,⟨p,cap,?_,?_⟩,by rw [Lf];exact hb,hG⟩
 ·rw [lC,Lf,jQ _ _ (by omega)]
 ·rw [Lf]
  exact ((ho.mono hB).grown (gB _ _ _ _) (own_ne ho hg))
theorem OM {fn:Func}{a:Act}{W w:World}{r g k B:Nat}{z:Int}{u v x y:Value} (hres:fn.results = #[ResultVar.cell r 61]) (hd:a.defers = []) (hr:a.tmps[r]?=some (.pointer (some ⟨g,0,none⟩)))
  (h0:(set2 w g u v).cell? ⟨g,0,none⟩=some x) (h1:(set2 w g u v).cell? ⟨g,1,none⟩=some y) (hG:W.grownBy (set2 w g u v) none)
  (ho:gY w B (.agg #[u,v]) z) (hB:W.heap.size<=B) (hg:g<B) (hb:Bd z.natAbs k):bodyPost Try.prog fn (cP W z k) .ret a (set2 w g u v):=by
 refine lw hres hd hr (jO h0) (jP h1) ⟨_,rfl,?_,hb,hG⟩
 obtain ⟨p,cap,h2,h3⟩:=ho
 refine ⟨p,cap,h2,?_⟩
 simp only [Value.agg.injEq,Array.mk.injEq,List.cons.injEq,and_true] at h2
 obtain ⟨rfl,-⟩:=h2
 exact ((h3.mono hB).grown (gB _ _ _ _) (own_ne h3 hg))
set_option maxHeartbeats 1000000 in
theorem GG {v:Value}{z:Int}{k:Nat}{w:World} (hx:aB w v z k) (hk:k<=1000000) :
  Calls Try.prog 48 #[v] w (cP w z k):=by
 obtain ⟨b,s,X,rfl,hx,rfl⟩:=hx
 obtain ⟨p,n,cap,rfl⟩:=hx.slice
 have Hx:=Lib.hid hx
 clear hx
 have S0:Kept w [(w.heap.size,0,.bool b),(w.heap.size,1,.slice p n cap)] [w.heap.size+1] ((w.alloc (.cells #[.bool b,.slice p n cap] 66)).alloc (.cells #[.slice none 0 0,.bool false] 61)):=((Kept.start w).box _ _ _ _ rfl).res _ _ _ _ _ (by simp)
 go_enter Try.func48,Try.ntmps48
 go_wp2_with fail
 go_region_held3 (fun w'=>w'.cell? ⟨w.heap.size,0,none⟩=some (.bool b)∧w'.cell? ⟨w.heap.size,1,none⟩=some (.slice p n cap)∧w'.cell? ⟨w.heap.size+1,0,none⟩=some (cellOf w' ⟨w.heap.size+1,0,none⟩)∧w'.cell? ⟨w.heap.size+1,1,none⟩=some (cellOf w' ⟨w.heap.size+1,1,none⟩)∧w'.frozen? ⟨w.heap.size+1,0,none⟩=false∧w'.frozen? ⟨w.heap.size+1,1,none⟩=false∧w.grownBy w' none) (first | exact Kept.step (W:=w) [(w.heap.size,0,.bool b),(w.heap.size,1,.slice p n cap)] [w.heap.size+1] (by assumption) (by assumption) | exact Kept.set (W:=w) [(w.heap.size,0,.bool b),(w.heap.size,1,.slice p n cap)] [w.heap.size+1] (by simp <;> omega) (by first | omega | (simp <;> omega)) (by assumption) | exact Kept.step [(w.heap.size,0,.bool b),(w.heap.size,1,.slice p n cap)] [w.heap.size+1] (Lb _ _) S0)
  (first | (go_at_call 78;refine (OL (Hx.out.grown (by go_split_ands;assumption)) hk).mono ?_;rintro e w' ⟨v,rfl,h,bd,hg⟩;obtain ⟨pv,nv,rfl⟩:=h.slice) | (go_at_call 56;refine (eI _ _ _ _ _).mono ?_;rintro e w' ⟨rfl,hg⟩;replace h:=h.grown hg (.inl rfl)))
 rename_i hend
 go_wp2_with fail
 exact fk Try.results48 rfl rfl hend.2.2.1 hend.2.2.2.1 hend.2.2.2.2.2.2 h (by first | omega | (simp <;> omega)) (by first | omega | (simp <;> omega)) rfl rfl bd
set_option maxHeartbeats 1000000 in
theorem uX {v:Value}{z:Int}{k:Nat}{w:World} (hx:af w v z k) :
  Calls Try.prog 75 #[v] w fun e w'=>∃v,e = .returned v∧af w' v (-z) k∧w.grownBy w' none:=by
 have bx:=hx.bd
 obtain ⟨p,cap,rfl,hx⟩:=hx
 have Hx:=Lib.hid hx
 clear hx
 clear bx
 have S0:Kept w [(w.heap.size,0,.slice p (ak 10000 z.natAbs).length cap),(w.heap.size,1,.bool (decide (z<0)))] [w.heap.size+1] ((w.alloc (.cells #[.slice p (ak 10000 z.natAbs).length cap,.bool (decide (z<0))] 61)).alloc (.cells #[.slice none 0 0,.bool false] 61)):=((Kept.start w).box _ _ _ _ rfl).res _ _ _ _ _ (by simp)
 go_enter Try.func75,Try.ntmps75
 go_wp2_with fail
 refine (eI _ _ _ _ _).mono ?_
 rintro e w1 ⟨rfl,hg⟩
 replace S0:=Kept.grown _ _ S0 hg
 clear hg
 obtain ⟨c0,c1,r0,r1,f0,f1,G⟩:=id S0
 go_wp2_with fail
 have G2:=Kept.all _ _ (Kept.set (g:=w.heap.size+1) (u:=.slice p (ak 10000 z.natAbs).length cap) (v:=.bool (!decide (z<0) && decide (0<(ak 10000 z.natAbs).length))) _ _ (by simp <;> omega) (by omega) S0)
 refine lw Try.results75 rfl rfl (dm r0) (dp r1) ⟨_,rfl,⟨p,cap,?_,?_⟩,G2⟩
 ·rw [Int.natAbs_neg,jQ _ _ (by omega)]
  congr 5
  rw [Bool.eq_iff_iff]
  simp
  omega
 ·rw [Int.natAbs_neg]
  exact Hx.out.grown G2
theorem ON {v:Value}{z:Int}{k:Nat}{w:World} (hx:af w v z k) :
  Calls Try.prog 54 #[v] w fun e w'=>e = .returned (.int .i64 (cn z 0))∧w.grownBy w' none:=by
 have bx:=hx.bd
 obtain ⟨p,cap,rfl,hx⟩:=hx
 have Hx:=Lib.hid hx
 clear hx
 clear bx Hx
 have hl:=fb (b:=10000) (by omega) (n:=z.natAbs)
 generalize (ak 10000 z.natAbs).length=l at *
 by_cases h0:z=0
 ·obtain rfl:l=0:=by omega
  subst h0
  go_enter Try.func54,Try.ntmps54
  go_wp2_with fail
  go_ret
  exact ⟨rfl,KQ _ _ _⟩
 ·have hl':(l:Int)≠0:=by omega
  by_cases hn:z<0
  ·rw [cn,if_pos hn,decide_eq_true hn]
   clear hl
   go_enter Try.func54,Try.ntmps54
   go_wp2_with fail
   go_ret
   exact ⟨rfl,KQ _ _ _⟩
  ·rw [cn,if_neg hn,if_neg h0,decide_eq_false hn]
   clear hl
   go_enter Try.func54,Try.ntmps54
   go_wp2_with fail
   go_ret
   exact ⟨rfl,KQ _ _ _⟩
set_option maxHeartbeats 2000000 in
theorem vi {b:Bool}{p q:Option Addr}{n m cap cap' X Y i j:Nat}{w:World} (hx:bV w (.slice p n cap) X i) (hy:bV w (.slice q m cap') Y j) (hi:i+j<=1000000) :
  Calls Try.prog 82 #[.agg #[.slice p n cap,.bool b],.agg #[.slice q m cap',.bool b]] w (cP w (sg b X+sg b Y) (i+j+1)):=by
 have Hx:=Lib.hid hx
 have Hy:=Lib.hid hy
 have S0:Kept w [(w.heap.size+1,0,(.slice q m cap')),(w.heap.size+1,1,(.bool b)),(w.heap.size,0,(.slice p n cap)),(w.heap.size,1,(.bool b))] [w.heap.size+1+1] (((w.alloc (.cells #[.slice p n cap,.bool b] 61)).alloc (.cells #[.slice q m cap',.bool b] 61)).alloc (.cells #[.slice none 0 0,.bool false] 61)):=(((Kept.start w).box _ _ _ _ rfl).box _ _ _ _ (by simp)).res _ _ _ _ _ (by simp)
 clear hx hy
 go_enter Try.func82,Try.ntmps82
 obtain ⟨c0,c1,c2,c3,r0,r1,r2,r3,G⟩:=id S0
 go_wp2_with fail
 go_region_held3 (fun w'=>w'.cell? ⟨w.heap.size+1,0,none⟩=some ((.slice q m cap'))∧w'.cell? ⟨w.heap.size+1,1,none⟩=some ((.bool b))∧w'.cell? ⟨w.heap.size,0,none⟩=some ((.slice p n cap))∧w'.cell? ⟨w.heap.size,1,none⟩=some ((.bool b))∧w'.cell? ⟨w.heap.size+1+1,0,none⟩=some (cellOf w' ⟨w.heap.size+1+1,0,none⟩)∧w'.cell? ⟨w.heap.size+1+1,1,none⟩=some (cellOf w' ⟨w.heap.size+1+1,1,none⟩)∧w'.frozen? ⟨w.heap.size+1+1,0,none⟩=false∧w'.frozen? ⟨w.heap.size+1+1,1,none⟩=false∧w.grownBy w' none) (first | exact Kept.step (W:=w) [(w.heap.size+1,0,(.slice q m cap')),(w.heap.size+1,1,(.bool b)),(w.heap.size,0,(.slice p n cap)),(w.heap.size,1,(.bool b))] [w.heap.size+1+1] (by assumption) (by assumption) | exact Kept.set (W:=w) [(w.heap.size+1,0,(.slice q m cap')),(w.heap.size+1,1,(.bool b)),(w.heap.size,0,(.slice p n cap)),(w.heap.size,1,(.bool b))] [w.heap.size+1+1] (by simp <;> omega) (by first | omega | (simp <;> omega)) (by assumption) | exact Kept.step [(w.heap.size+1,0,(.slice q m cap')),(w.heap.size+1,1,(.bool b)),(w.heap.size,0,(.slice p n cap)),(w.heap.size,1,(.bool b))] [w.heap.size+1+1] (Lb _ _) S0)
  (first | (go_at_call 95;refine (OG (Hx.out.grown (by go_split_ands;assumption)) (Hy.out.grown (by go_split_ands;assumption)) (by omega)).mono ?_;rintro e w' ⟨v,rfl,h,bd,hg⟩;obtain ⟨pv,nv,rfl⟩:=h.slice) | (go_at_call 56;refine (eI _ _ _ _ _).mono ?_;rintro e w' ⟨rfl,hg⟩;replace h:=h.grown hg (.inl rfl)))
 rename_i hend
 go_wp2_with fail
 exact fk Try.results82 rfl rfl hend.2.2.2.2.1 hend.2.2.2.2.2.1 hend.2.2.2.2.2.2.2.2 h (by first | omega | (simp <;> omega)) (by first | omega | (simp <;> omega)) rfl (sA _ _ _) bd
set_option maxHeartbeats 2000000 in
theorem Ia {p q:Option Addr}{n m cap cap' X Y i j:Nat}{w:World} (hx:bV w (.slice p n cap) X i) (hy:bV w (.slice q m cap') Y j) (hi:i+j<=1000000) (hc:Y<=X) :
  Calls Try.prog 82 #[.agg #[.slice p n cap,.bool true],.agg #[.slice q m cap',.bool false]] w (cP w (sg true (X-Y)) (i)):=by
 have Hx:=Lib.hid hx
 have Hy:=Lib.hid hy
 have Hc:=Lib.hid hc
 have S0:Kept w [(w.heap.size+1,0,(.slice q m cap')),(w.heap.size+1,1,(.bool false)),(w.heap.size,0,(.slice p n cap)),(w.heap.size,1,(.bool true))] [w.heap.size+1+1] (((w.alloc (.cells #[.slice p n cap,.bool true] 61)).alloc (.cells #[.slice q m cap',.bool false] 61)).alloc (.cells #[.slice none 0 0,.bool false] 61)):=(((Kept.start w).box _ _ _ _ rfl).box _ _ _ _ (by simp)).res _ _ _ _ _ (by simp)
 clear hx hy hc
 go_enter Try.func82,Try.ntmps82
 go_wp2_with fail
 refine (LT (Hx.out.grown (Kept.all _ _ S0)) (Hy.out.grown (Kept.all _ _ S0))).mono ?_
 rintro e w1 ⟨rfl,hg⟩
 have hge:=uK Hc.out
 generalize bZ X Y=r at *
 have s1:=hg.size
 have s2:=S0.lt (g:=w.heap.size+1+1) (by simp)
 have Sq:=S0.size
 replace S0:=Kept.grown _ _ S0 hg
 clear hg
 obtain ⟨c0,c1,c2,c3,r0,r1,r2,r3,G⟩:=id S0
 go_wp2_with fail
 go_region_held3 (fun w'=>w'.cell? ⟨w.heap.size+1,0,none⟩=some ((.slice q m cap'))∧w'.cell? ⟨w.heap.size+1,1,none⟩=some ((.bool false))∧w'.cell? ⟨w.heap.size,0,none⟩=some ((.slice p n cap))∧w'.cell? ⟨w.heap.size,1,none⟩=some ((.bool true))∧w'.cell? ⟨w.heap.size+1+1,0,none⟩=some (cellOf w' ⟨w.heap.size+1+1,0,none⟩)∧w'.cell? ⟨w.heap.size+1+1,1,none⟩=some (cellOf w' ⟨w.heap.size+1+1,1,none⟩)∧w'.frozen? ⟨w.heap.size+1+1,0,none⟩=false∧w'.frozen? ⟨w.heap.size+1+1,1,none⟩=false∧w.grownBy w' none) (first | exact Kept.step (W:=w) [(w.heap.size+1,0,(.slice q m cap')),(w.heap.size+1,1,(.bool false)),(w.heap.size,0,(.slice p n cap)),(w.heap.size,1,(.bool true))] [w.heap.size+1+1] (by assumption) (by assumption) | exact Kept.set (W:=w) [(w.heap.size+1,0,(.slice q m cap')),(w.heap.size+1,1,(.bool false)),(w.heap.size,0,(.slice p n cap)),(w.heap.size,1,(.bool true))] [w.heap.size+1+1] (by simp <;> omega) (by first | omega | (simp <;> omega)) (by assumption) | exact Kept.step [(w.heap.size+1,0,(.slice q m cap')),(w.heap.size+1,1,(.bool false)),(w.heap.size,0,(.slice p n cap)),(w.heap.size,1,(.bool true))] [w.heap.size+1+1] (Lb _ _) S0)
  (first | (go_at_call 97;refine (LS (Hx.out.grown (by go_split_ands;assumption)) (Hy.out.grown (by go_split_ands;assumption)) (by omega) Hc.out).mono ?_;rintro e w' ⟨v,rfl,h,bd,hg⟩;obtain ⟨pv,nv,rfl⟩:=h.slice) | (go_at_call 56;refine (eI _ _ _ _ _).mono ?_;rintro e w' ⟨rfl,hg⟩;replace h:=h.grown hg (.inl rfl)))
 rename_i hend
 go_wp2_with fail
 exact fk (b:=true) Try.results82 rfl rfl hend.2.2.2.2.1 hend.2.2.2.2.2.1 hend.2.2.2.2.2.2.2.2 h (by simp at s1 s2 Sq ⊢ <;> omega) (by simp at s1 s2 Sq ⊢ <;> omega) rfl (rfl) bd
set_option maxHeartbeats 2000000 in
theorem Ib {p q:Option Addr}{n m cap cap' X Y i j:Nat}{w:World} (hx:bV w (.slice p n cap) X i) (hy:bV w (.slice q m cap') Y j) (hi:i+j<=1000000) (hc:X<Y) :
  Calls Try.prog 82 #[.agg #[.slice p n cap,.bool true],.agg #[.slice q m cap',.bool false]] w (cP w (sg false (Y-X)) (j)):=by
 have Hx:=Lib.hid hx
 have Hy:=Lib.hid hy
 have Hc:=Lib.hid hc
 have S0:Kept w [(w.heap.size+1,0,(.slice q m cap')),(w.heap.size+1,1,(.bool false)),(w.heap.size,0,(.slice p n cap)),(w.heap.size,1,(.bool true))] [w.heap.size+1+1] (((w.alloc (.cells #[.slice p n cap,.bool true] 61)).alloc (.cells #[.slice q m cap',.bool false] 61)).alloc (.cells #[.slice none 0 0,.bool false] 61)):=(((Kept.start w).box _ _ _ _ rfl).box _ _ _ _ (by simp)).res _ _ _ _ _ (by simp)
 clear hx hy hc
 go_enter Try.func82,Try.ntmps82
 go_wp2_with fail
 refine (LT (Hx.out.grown (Kept.all _ _ S0)) (Hy.out.grown (Kept.all _ _ S0))).mono ?_
 rintro e w1 ⟨rfl,hg⟩
 rw [gN Hc.out]
 have s1:=hg.size
 have s2:=S0.lt (g:=w.heap.size+1+1) (by simp)
 have Sq:=S0.size
 replace S0:=Kept.grown _ _ S0 hg
 clear hg
 obtain ⟨c0,c1,c2,c3,r0,r1,r2,r3,G⟩:=id S0
 go_wp2_with fail
 go_region_held3 (fun w'=>w'.cell? ⟨w.heap.size+1,0,none⟩=some ((.slice q m cap'))∧w'.cell? ⟨w.heap.size+1,1,none⟩=some ((.bool false))∧w'.cell? ⟨w.heap.size,0,none⟩=some ((.slice p n cap))∧w'.cell? ⟨w.heap.size,1,none⟩=some ((.bool true))∧w'.cell? ⟨w.heap.size+1+1,0,none⟩=some (cellOf w' ⟨w.heap.size+1+1,0,none⟩)∧w'.cell? ⟨w.heap.size+1+1,1,none⟩=some (cellOf w' ⟨w.heap.size+1+1,1,none⟩)∧w'.frozen? ⟨w.heap.size+1+1,0,none⟩=false∧w'.frozen? ⟨w.heap.size+1+1,1,none⟩=false∧w.grownBy w' none) (first | exact Kept.step (W:=w) [(w.heap.size+1,0,(.slice q m cap')),(w.heap.size+1,1,(.bool false)),(w.heap.size,0,(.slice p n cap)),(w.heap.size,1,(.bool true))] [w.heap.size+1+1] (by assumption) (by assumption) | exact Kept.set (W:=w) [(w.heap.size+1,0,(.slice q m cap')),(w.heap.size+1,1,(.bool false)),(w.heap.size,0,(.slice p n cap)),(w.heap.size,1,(.bool true))] [w.heap.size+1+1] (by simp <;> omega) (by first | omega | (simp <;> omega)) (by assumption) | exact Kept.step [(w.heap.size+1,0,(.slice q m cap')),(w.heap.size+1,1,(.bool false)),(w.heap.size,0,(.slice p n cap)),(w.heap.size,1,(.bool true))] [w.heap.size+1+1] (Lb _ _) S0)
  (first | (go_at_call 97;refine (LS (Hy.out.grown (by go_split_ands;assumption)) (Hx.out.grown (by go_split_ands;assumption)) (by omega) (Nat.le_of_lt Hc.out)).mono ?_;rintro e w' ⟨v,rfl,h,bd,hg⟩;obtain ⟨pv,nv,rfl⟩:=h.slice) | (go_at_call 56;refine (eI _ _ _ _ _).mono ?_;rintro e w' ⟨rfl,hg⟩;replace h:=h.grown hg (.inl rfl)))
 rename_i hend
 go_wp2_with fail
 exact fk (b:=false) Try.results82 rfl rfl hend.2.2.2.2.1 hend.2.2.2.2.2.1 hend.2.2.2.2.2.2.2.2 h (by simp at s1 s2 Sq ⊢ <;> omega) (by simp at s1 s2 Sq ⊢ <;> omega) rfl (rfl) bd
set_option maxHeartbeats 2000000 in
theorem Ic {p q:Option Addr}{n m cap cap' X Y i j:Nat}{w:World} (hx:bV w (.slice p n cap) X i) (hy:bV w (.slice q m cap') Y j) (hi:i+j<=1000000) (hc:Y<=X) :
  Calls Try.prog 82 #[.agg #[.slice p n cap,.bool false],.agg #[.slice q m cap',.bool true]] w (cP w (sg false (X-Y)) (i)):=by
 have Hx:=Lib.hid hx
 have Hy:=Lib.hid hy
 have Hc:=Lib.hid hc
 have S0:Kept w [(w.heap.size+1,0,(.slice q m cap')),(w.heap.size+1,1,(.bool true)),(w.heap.size,0,(.slice p n cap)),(w.heap.size,1,(.bool false))] [w.heap.size+1+1] (((w.alloc (.cells #[.slice p n cap,.bool false] 61)).alloc (.cells #[.slice q m cap',.bool true] 61)).alloc (.cells #[.slice none 0 0,.bool false] 61)):=(((Kept.start w).box _ _ _ _ rfl).box _ _ _ _ (by simp)).res _ _ _ _ _ (by simp)
 clear hx hy hc
 go_enter Try.func82,Try.ntmps82
 go_wp2_with fail
 refine (LT (Hx.out.grown (Kept.all _ _ S0)) (Hy.out.grown (Kept.all _ _ S0))).mono ?_
 rintro e w1 ⟨rfl,hg⟩
 have hge:=uK Hc.out
 generalize bZ X Y=r at *
 have s1:=hg.size
 have s2:=S0.lt (g:=w.heap.size+1+1) (by simp)
 have Sq:=S0.size
 replace S0:=Kept.grown _ _ S0 hg
 clear hg
 obtain ⟨c0,c1,c2,c3,r0,r1,r2,r3,G⟩:=id S0
 go_wp2_with fail
 go_region_held3 (fun w'=>w'.cell? ⟨w.heap.size+1,0,none⟩=some ((.slice q m cap'))∧w'.cell? ⟨w.heap.size+1,1,none⟩=some ((.bool true))∧w'.cell? ⟨w.heap.size,0,none⟩=some ((.slice p n cap))∧w'.cell? ⟨w.heap.size,1,none⟩=some ((.bool false))∧w'.cell? ⟨w.heap.size+1+1,0,none⟩=some (cellOf w' ⟨w.heap.size+1+1,0,none⟩)∧w'.cell? ⟨w.heap.size+1+1,1,none⟩=some (cellOf w' ⟨w.heap.size+1+1,1,none⟩)∧w'.frozen? ⟨w.heap.size+1+1,0,none⟩=false∧w'.frozen? ⟨w.heap.size+1+1,1,none⟩=false∧w.grownBy w' none) (first | exact Kept.step (W:=w) [(w.heap.size+1,0,(.slice q m cap')),(w.heap.size+1,1,(.bool true)),(w.heap.size,0,(.slice p n cap)),(w.heap.size,1,(.bool false))] [w.heap.size+1+1] (by assumption) (by assumption) | exact Kept.set (W:=w) [(w.heap.size+1,0,(.slice q m cap')),(w.heap.size+1,1,(.bool true)),(w.heap.size,0,(.slice p n cap)),(w.heap.size,1,(.bool false))] [w.heap.size+1+1] (by simp <;> omega) (by first | omega | (simp <;> omega)) (by assumption) | exact Kept.step [(w.heap.size+1,0,(.slice q m cap')),(w.heap.size+1,1,(.bool true)),(w.heap.size,0,(.slice p n cap)),(w.heap.size,1,(.bool false))] [w.heap.size+1+1] (Lb _ _) S0)
  (first | (go_at_call 97;refine (LS (Hx.out.grown (by go_split_ands;assumption)) (Hy.out.grown (by go_split_ands;assumption)) (by omega) Hc.out).mono ?_;rintro e w' ⟨v,rfl,h,bd,hg⟩;obtain ⟨pv,nv,rfl⟩:=h.slice) | (go_at_call 56;refine (eI _ _ _ _ _).mono ?_;rintro e w' ⟨rfl,hg⟩;replace h:=h.grown hg (.inl rfl)))
 rename_i hend
 go_wp2_with fail
 exact fk (b:=false) Try.results82 rfl rfl hend.2.2.2.2.1 hend.2.2.2.2.2.1 hend.2.2.2.2.2.2.2.2 h (by simp at s1 s2 Sq ⊢ <;> omega) (by simp at s1 s2 Sq ⊢ <;> omega) rfl (rfl) bd
set_option maxHeartbeats 2000000 in
theorem Id {p q:Option Addr}{n m cap cap' X Y i j:Nat}{w:World} (hx:bV w (.slice p n cap) X i) (hy:bV w (.slice q m cap') Y j) (hi:i+j<=1000000) (hc:X<Y) :
  Calls Try.prog 82 #[.agg #[.slice p n cap,.bool false],.agg #[.slice q m cap',.bool true]] w (cP w (sg true (Y-X)) (j)):=by
 have Hx:=Lib.hid hx
 have Hy:=Lib.hid hy
 have Hc:=Lib.hid hc
 have S0:Kept w [(w.heap.size+1,0,(.slice q m cap')),(w.heap.size+1,1,(.bool true)),(w.heap.size,0,(.slice p n cap)),(w.heap.size,1,(.bool false))] [w.heap.size+1+1] (((w.alloc (.cells #[.slice p n cap,.bool false] 61)).alloc (.cells #[.slice q m cap',.bool true] 61)).alloc (.cells #[.slice none 0 0,.bool false] 61)):=(((Kept.start w).box _ _ _ _ rfl).box _ _ _ _ (by simp)).res _ _ _ _ _ (by simp)
 clear hx hy hc
 go_enter Try.func82,Try.ntmps82
 go_wp2_with fail
 refine (LT (Hx.out.grown (Kept.all _ _ S0)) (Hy.out.grown (Kept.all _ _ S0))).mono ?_
 rintro e w1 ⟨rfl,hg⟩
 rw [gN Hc.out]
 have s1:=hg.size
 have s2:=S0.lt (g:=w.heap.size+1+1) (by simp)
 have Sq:=S0.size
 replace S0:=Kept.grown _ _ S0 hg
 clear hg
 obtain ⟨c0,c1,c2,c3,r0,r1,r2,r3,G⟩:=id S0
 go_wp2_with fail
 go_region_held3 (fun w'=>w'.cell? ⟨w.heap.size+1,0,none⟩=some ((.slice q m cap'))∧w'.cell? ⟨w.heap.size+1,1,none⟩=some ((.bool true))∧w'.cell? ⟨w.heap.size,0,none⟩=some ((.slice p n cap))∧w'.cell? ⟨w.heap.size,1,none⟩=some ((.bool false))∧w'.cell? ⟨w.heap.size+1+1,0,none⟩=some (cellOf w' ⟨w.heap.size+1+1,0,none⟩)∧w'.cell? ⟨w.heap.size+1+1,1,none⟩=some (cellOf w' ⟨w.heap.size+1+1,1,none⟩)∧w'.frozen? ⟨w.heap.size+1+1,0,none⟩=false∧w'.frozen? ⟨w.heap.size+1+1,1,none⟩=false∧w.grownBy w' none) (first | exact Kept.step (W:=w) [(w.heap.size+1,0,(.slice q m cap')),(w.heap.size+1,1,(.bool true)),(w.heap.size,0,(.slice p n cap)),(w.heap.size,1,(.bool false))] [w.heap.size+1+1] (by assumption) (by assumption) | exact Kept.set (W:=w) [(w.heap.size+1,0,(.slice q m cap')),(w.heap.size+1,1,(.bool true)),(w.heap.size,0,(.slice p n cap)),(w.heap.size,1,(.bool false))] [w.heap.size+1+1] (by simp <;> omega) (by first | omega | (simp <;> omega)) (by assumption) | exact Kept.step [(w.heap.size+1,0,(.slice q m cap')),(w.heap.size+1,1,(.bool true)),(w.heap.size,0,(.slice p n cap)),(w.heap.size,1,(.bool false))] [w.heap.size+1+1] (Lb _ _) S0)
  (first | (go_at_call 97;refine (LS (Hy.out.grown (by go_split_ands;assumption)) (Hx.out.grown (by go_split_ands;assumption)) (by omega) (Nat.le_of_lt Hc.out)).mono ?_;rintro e w' ⟨v,rfl,h,bd,hg⟩;obtain ⟨pv,nv,rfl⟩:=h.slice) | (go_at_call 56;refine (eI _ _ _ _ _).mono ?_;rintro e w' ⟨rfl,hg⟩;replace h:=h.grown hg (.inl rfl)))
 rename_i hend
 go_wp2_with fail
 exact fk (b:=true) Try.results82 rfl rfl hend.2.2.2.2.1 hend.2.2.2.2.2.1 hend.2.2.2.2.2.2.2.2 h (by simp at s1 s2 Sq ⊢ <;> omega) (by simp at s1 s2 Sq ⊢ <;> omega) rfl (rfl) bd
theorem af.open {w:World}{v:Value}{z:Int}{k:Nat} (h:af w v z k):∃(b:Bool) (p:Option Addr) (n cap X:Nat),v = .agg #[.slice p n cap,.bool b]∧bV w (.slice p n cap) X k∧z=sg b X:=by
 obtain ⟨p,cap,h1,h2⟩:=h
 exact ⟨_,p,_,cap,_,h1,h2,(nO z).symm⟩
theorem uV {v u:Value}{z y:Int}{i j:Nat}{w:World} (hx:af w v z i) (hy:af w u y j) (hi:i+j<=1000000) :
  Calls Try.prog 82 #[v,u] w (cP w (z+y) (i+j+1)):=by
 obtain ⟨b,p,n,cap,X,rfl,dx,rfl⟩:=hx.open
 obtain ⟨b',q,m,cap',Y,rfl,dy,rfl⟩:=hy.open
 cases b <;> cases b'
 ·exact vi dx dy hi
 ·by_cases hc:Y<=X
  ·exact (Ic dx dy hi hc).mono fun _ _ h=>h.of (by simp [sg];omega) (by omega)
  ·exact (Id dx dy hi (by omega)).mono fun _ _ h=>h.of (by simp [sg];omega) (by omega)
 ·by_cases hc:Y<=X
  ·exact (Ia dx dy hi hc).mono fun _ _ h=>h.of (by simp [sg];omega) (by omega)
  ·exact (Ib dx dy hi (by omega)).mono fun _ _ h=>h.of (by simp [sg];omega) (by omega)
 ·exact vi dx dy hi
set_option maxHeartbeats 2000000 in
theorem Ie {v u:Value}{z y:Int}{i j:Nat}{w:World} (hx:af w v z i) (hy:af w u y j) (hi:i+j<=1000000) :
  Calls Try.prog 55 #[v,u] w (cP w (z-y) (i+j+1)):=by
 have Vx:=Lib.hid hx
 have Vy:=Lib.hid hy
 obtain ⟨b,p,n,cap,X,rfl,hx',rfl⟩:=hx.open
 obtain ⟨b',q,m,cap',Y,rfl,hy',rfl⟩:=hy.open
 clear hx' hy' hx hy
 have S0:Kept w [(w.heap.size+1,0,(.slice q m cap')),(w.heap.size+1,1,(.bool b')),(w.heap.size,0,(.slice p n cap)),(w.heap.size,1,(.bool b))] [w.heap.size+1+1] (((w.alloc (.cells #[.slice p n cap,.bool b] 61)).alloc (.cells #[.slice q m cap',.bool b'] 61)).alloc (.cells #[.slice none 0 0,.bool false] 61)):=(((Kept.start w).box _ _ _ _ rfl).box _ _ _ _ (by simp)).res _ _ _ _ _ (by simp)
 rw [Int.sub_eq_add_neg]
 go_enter Try.func55,Try.ntmps55
 go_wp2_with fail
 go_region_held3 (fun w'=>w'.cell? ⟨w.heap.size+1,0,none⟩=some ((.slice q m cap'))∧w'.cell? ⟨w.heap.size+1,1,none⟩=some ((.bool b'))∧w'.cell? ⟨w.heap.size,0,none⟩=some ((.slice p n cap))∧w'.cell? ⟨w.heap.size,1,none⟩=some ((.bool b))∧w'.cell? ⟨w.heap.size+1+1,0,none⟩=some (cellOf w' ⟨w.heap.size+1+1,0,none⟩)∧w'.cell? ⟨w.heap.size+1+1,1,none⟩=some (cellOf w' ⟨w.heap.size+1+1,1,none⟩)∧w'.frozen? ⟨w.heap.size+1+1,0,none⟩=false∧w'.frozen? ⟨w.heap.size+1+1,1,none⟩=false∧w.grownBy w' none) (first | exact Kept.step (W:=w) [(w.heap.size+1,0,(.slice q m cap')),(w.heap.size+1,1,(.bool b')),(w.heap.size,0,(.slice p n cap)),(w.heap.size,1,(.bool b))] [w.heap.size+1+1] (by assumption) (by assumption) | exact Kept.set (W:=w) [(w.heap.size+1,0,(.slice q m cap')),(w.heap.size+1,1,(.bool b')),(w.heap.size,0,(.slice p n cap)),(w.heap.size,1,(.bool b))] [w.heap.size+1+1] (by simp <;> omega) (by first | omega | (simp <;> omega)) (by assumption) | exact Kept.step [(w.heap.size+1,0,(.slice q m cap')),(w.heap.size+1,1,(.bool b')),(w.heap.size,0,(.slice p n cap)),(w.heap.size,1,(.bool b))] [w.heap.size+1+1] (Lb _ _) S0)
  (first | (go_at_call 75;refine (uX (Vy.out.grown (by go_split_ands;assumption))).mono ?_;rintro e w' ⟨v,rfl,hn,hg⟩) | (go_at_call 82;refine (uV (Vx.out.grown (by go_split_ands;assumption)) hn hi).mono ?_;have hsz:=hg.size;rintro e w' ⟨v,rfl,h,bd,hg⟩;obtain ⟨pv,nv,rfl,h2⟩:=id h))
 rename_i hend
 go_wp2_with fail
 exact OM Try.results55 rfl rfl hend.2.2.2.2.1 hend.2.2.2.2.2.1 hend.2.2.2.2.2.2.2.2 h (by simp at hsz;omega) (by simp at hsz;omega) bd
theorem Ig (z y:Int):cn (z-y) 0=cn z y:=by
 unfold cn
 split <;> split <;> (try split) <;> (try split) <;> omega
set_option maxHeartbeats 1000000 in
theorem Fh {v u:Value}{z y:Int}{i j:Nat}{w:World} (r:Int) (hx:af w v z i) (hy:af w u y j) (hi:i+j<=1000000) (hr:cn z y=r) :
  Calls Try.prog 30 #[v,u] w fun e w'=>e = .returned (.int .i64 r)∧w.grownBy w' none:=by
 subst hr
 rw [<- Ig]
 have Vx:=Lib.hid hx
 have Vy:=Lib.hid hy
 obtain ⟨b,p,n,cap,X,rfl,hx',rfl⟩:=hx.open
 obtain ⟨b',q,m,cap',Y,rfl,hy',rfl⟩:=hy.open
 clear hx' hy' hx hy
 have S0:Kept w [(w.heap.size+1,0,(.slice q m cap')),(w.heap.size+1,1,(.bool b')),(w.heap.size,0,(.slice p n cap)),(w.heap.size,1,(.bool b))] [] ((w.alloc (.cells #[.slice p n cap,.bool b] 61)).alloc (.cells #[.slice q m cap',.bool b'] 61)):=((Kept.start w).box _ _ _ _ rfl).box _ _ _ _ (by simp)
 go_enter Try.func30,Try.ntmps30
 go_wp2_with fail
 refine (Ie (Vx.out.grown (Kept.all _ _ S0)) (Vy.out.grown (Kept.all _ _ S0)) hi).mono ?_
 rintro e w1 ⟨v,rfl,h,bd,hg⟩
 have Hv:=Lib.hid (h.uU bd)
 have G:=Lib.hid (be (Kept.all _ _ S0) hg)
 clear S0 hg h bd
 go_wp2_with fail
 refine (ON Hv.out).mono ?_
 rintro e w2 ⟨rfl,hg⟩
 have G2:=Lib.hid (be G.out hg)
 clear hg
 go_wp2_with fail
 go_ret
 exact ⟨rfl,G2.out⟩
theorem vj {X:Nat} (h:X<18446744073709551616):Bd X 2:=by unfold Bd;omega
theorem vk {m:Nat} (h:m<9223372036854775809):(ak 10000 m).length<=5:=eR (by omega) 5 m (by omega)
theorem vm (l:List Nat){m:Nat} (h:0<m):l ++ ak 10000 m=(l ++ [m % 10000]) ++ ak 10000 (m / 10000):=by
 rw [eS (by omega) h];simp
set_option maxHeartbeats 2000000 in
theorem Ih (N:Nat) (w:World) (hN:N<=9223372036854775807) :
  Calls Try.prog 31 #[.int .i64 (N:Int)] w (cP w ((N:Int)) 2):=by
 obtain ⟨i0,hi,hz0,hz1,hz2⟩:=info_parts Try.infoI
 have S0:Kept w [] [w.heap.size] (w.alloc (.cells #[.slice none 0 0,.bool false] 61)):=(Kept.start w).res _ _ _ _ _ rfl
 have hq:((N:Int) == (-9223372036854775808:Int))=false:=by
  rw [beq_eq_false_iff_ne]
  omega
 have NL:=Lib.hid (vk (m:=N) (by omega))
 go_enter Try.func31,Try.ntmps31
 go_wp2_with fail
 generalize w.alloc (.cells #[.slice none 0 0,.bool false] 61)=W1 at *
 have Hs:=S0.size
 have Hl:=S0.lt (g:=w.heap.size) (by simp)
 go_loopw [0,4] (fun nv ov wr=>∃(m:Nat) (l:List Nat),m<=N∧nv = .int .i64 m∧Hid (ak 10000 N=l ++ ak 10000 m)∧Own wr 3 .i64 W1.heap.size ov l∧W1.grownBy wr none) (fun nv _ _=>(intOf nv).toNat)
 case atStart=>exact ⟨N,[],Nat.le_refl _,by go_num,rfl,Own.nil _ _ _ _,ba _ _⟩
 case round=>
  obtain ⟨m,l,hm,rfl,hd,ho,gr⟩:=hrel
  obtain ⟨op,cK,rfl⟩:=ho.slice
  have Ho:=Lib.hid ho
  have Gr:=Lib.hid gr
  clear ho gr
  by_cases h0:m=0
  ·subst h0
   have hd':=hd.out
   rw [ff,List.append_nil] at hd'
   subst hd'
   clear hd
   go_wp2_with fail
   refine (eI _ _ _ _ _).mono ?_
   rintro e w2 ⟨rfl,hg⟩
   have h:=Ho.out.grown hg (.inl rfl)
   replace S0:=S0.grown _ _ (be Gr.out hg)
   clear hg
   obtain ⟨r0,r1,f0,f1,G⟩:=id S0
   go_wp2_with fail
   exact fk (b:=false) Try.results31 rfl rfl (dm r0) (dp r1) (Kept.all _ _ (Kept.set _ _ (by simp) (Nat.le_refl _) S0)) h Hs Hl rfl rfl (vj (by omega))
  ·have hp:0<m:=by omega
   have Hd2:=Lib.hid (show _=_ from hd.out.trans (vm l hp))
   have Lz:=Lib.hid (show l.length<=5 by
    have:=NL.out
    rw [hd.out,List.length_append] at this
    omega)
   clear hd
   have hp':(0:Int)<(m:Int):=by omega
   go_wp2_with (at_builtin;refine eY rfl _ _ 59 rfl 3 i0 (.int .i64 0) .i64 Try.underlying59 hi hz0 hz1 (by omega) rfl W1.heap.size (.slice op l.length cK) l (m % 10000) rfl (Ho.out.grown (KQ _ _ none) (.inl rfl)) wr.heap.size rfl ?c1 (by have:=Lz.out;omega) (by have:=Gr.out.size;simp;omega) ?_;(case c1=>exact (World.cell?_alloc_at _ _ _ _ rfl).trans (by simp;try omega));intro v' w3 ho3 g3;have ch:=Lib.hid ho3;have G3:=Lib.hid (fg (v:=.slice op l.length cK) g3 (Ho.out.grown (KQ _ _ none) (.inl rfl)) (be Gr.out (KQ _ _ _)));clear ho3 g3)
   go_roundw
   case rel=>exact ⟨m / 10000,l ++ [m % 10000],by omega,by go_num,Hd2.out,ch.out,G3.out⟩
   case measure=>simp [intOf];omega
set_option maxHeartbeats 2000000 in
theorem Ii (N:Nat) (w:World) (hN:N<=9223372036854775807) (h0:0<N) :
  Calls Try.prog 31 #[.int .i64 (-(N:Int))] w (cP w ((-(N:Int))) 2):=by
 obtain ⟨i0,hi,hz0,hz1,hz2⟩:=info_parts Try.infoI
 have S0:Kept w [] [w.heap.size] (w.alloc (.cells #[.slice none 0 0,.bool false] 61)):=(Kept.start w).res _ _ _ _ _ rfl
 have hq:((-(N:Int)) == (-9223372036854775808:Int))=false:=by
  rw [beq_eq_false_iff_ne]
  omega
 have NL:=Lib.hid (vk (m:=N) (by omega))
 go_enter Try.func31,Try.ntmps31
 go_wp2_with fail
 generalize w.alloc (.cells #[.slice none 0 0,.bool false] 61)=W1 at *
 have Hs:=S0.size
 have Hl:=S0.lt (g:=w.heap.size) (by simp)
 go_loopw [0,4] (fun nv ov wr=>∃(m:Nat) (l:List Nat),m<=N∧nv = .int .i64 m∧Hid (ak 10000 N=l ++ ak 10000 m)∧Own wr 3 .i64 W1.heap.size ov l∧W1.grownBy wr none) (fun nv _ _=>(intOf nv).toNat)
 case atStart=>exact ⟨N,[],Nat.le_refl _,by go_num,rfl,Own.nil _ _ _ _,ba _ _⟩
 case round=>
  obtain ⟨m,l,hm,rfl,hd,ho,gr⟩:=hrel
  obtain ⟨op,cK,rfl⟩:=ho.slice
  have Ho:=Lib.hid ho
  have Gr:=Lib.hid gr
  clear ho gr
  by_cases h0:m=0
  ·subst h0
   have hd':=hd.out
   rw [ff,List.append_nil] at hd'
   subst hd'
   clear hd
   go_wp2_with fail
   refine (eI _ _ _ _ _).mono ?_
   rintro e w2 ⟨rfl,hg⟩
   have h:=Ho.out.grown hg (.inl rfl)
   replace S0:=S0.grown _ _ (be Gr.out hg)
   clear hg
   obtain ⟨r0,r1,f0,f1,G⟩:=id S0
   go_wp2_with fail
   exact fk (b:=true) Try.results31 rfl rfl (dm r0) (dp r1) (Kept.all _ _ (Kept.set _ _ (by simp) (Nat.le_refl _) S0)) h Hs Hl rfl rfl (vj (by omega))
  ·have hp:0<m:=by omega
   have Hd2:=Lib.hid (show _=_ from hd.out.trans (vm l hp))
   have Lz:=Lib.hid (show l.length<=5 by
    have:=NL.out
    rw [hd.out,List.length_append] at this
    omega)
   clear hd
   have hp':(0:Int)<(m:Int):=by omega
   go_wp2_with (at_builtin;refine eY rfl _ _ 59 rfl 3 i0 (.int .i64 0) .i64 Try.underlying59 hi hz0 hz1 (by omega) rfl W1.heap.size (.slice op l.length cK) l (m % 10000) rfl (Ho.out.grown (KQ _ _ none) (.inl rfl)) wr.heap.size rfl ?c1 (by have:=Lz.out;omega) (by have:=Gr.out.size;simp;omega) ?_;(case c1=>exact (World.cell?_alloc_at _ _ _ _ rfl).trans (by simp;try omega));intro v' w3 ho3 g3;have ch:=Lib.hid ho3;have G3:=Lib.hid (fg (v:=.slice op l.length cK) g3 (Ho.out.grown (KQ _ _ none) (.inl rfl)) (be Gr.out (KQ _ _ _)));clear ho3 g3)
   go_roundw
   case rel=>exact ⟨m / 10000,l ++ [m % 10000],by omega,by go_num,Hd2.out,ch.out,G3.out⟩
   case measure=>simp [intOf];omega
set_option maxHeartbeats 1000000 in
theorem Ij (w:World):Calls Try.prog 31 #[.int .i64 (-9223372036854775808)] w (cP w (-9223372036854775808) 2):=by
 have S0:Kept w [] [w.heap.size] (w.alloc (.cells #[.slice none 0 0,.bool false] 61)):=(Kept.start w).res _ _ _ _ _ rfl
 have hz:sg true (2 ^ 63) = -9223372036854775808:=by simp [sg]
 go_enter Try.func31,Try.ntmps31
 go_wp2_with fail
 have S1:=S0
 refine (OK 63 2 (by omega) (by omega)).mono ?_
 rintro e w1 ⟨v,rfl,h,bd,hg⟩
 obtain ⟨pv,nv,rfl⟩:=h.slice
 replace S0:=S0.grown _ _ hg
 clear hg
 generalize hP:(2:Nat) ^ 63=P at *
 go_wp2_with fail
 refine (eI _ _ _ _ _).mono ?_
 rintro e w2 ⟨rfl,hg⟩
 replace h:=h.grown hg (.inl rfl)
 replace S0:=S0.grown _ _ hg
 clear hg
 obtain ⟨r0,r1,f0,f1,G⟩:=id S0
 go_wp2_with fail
 exact fk (b:=true) Try.results31 rfl rfl (dm r0) (dp r1) (Kept.all _ _ (Kept.set _ _ (by simp) (Nat.le_refl _) S0)) h S1.size (S1.lt (by simp)) rfl hz bd
theorem GE (z:Int) (w:World) (h1 : -9223372036854775808<=z) (h2:z<=9223372036854775807):Calls Try.prog 31 #[.int .i64 z] w (cP w z 2):=by
 by_cases h3:z = -9223372036854775808
 ·subst h3
  exact Ij w
 ·rcases Int.lt_or_le z 0 with h | h
  ·obtain ⟨N,rfl⟩:∃N:Nat,z = -(N:Int):=⟨z.natAbs,by omega⟩
   exact Ii N w (by omega) (by omega)
  ·obtain ⟨N,rfl⟩:∃N:Nat,z=(N:Int):=⟨z.natAbs,by omega⟩
   exact Ih N w (by omega)
def ew (w:World) (v:Value) (z:Int):Prop:=∃p cap,v = .agg #[.bool (decide (z<0)),.slice p (ak 4294967296 z.natAbs).length cap]∧Sl w .u32 (.slice p (ak 4294967296 z.natAbs).length cap) (ak 4294967296 z.natAbs)
theorem ew.grown {w w':World}{v:Value}{z:Int} (h:ew w v z) (g:w.grownBy w' none):ew w' v z:=by
 obtain ⟨p,cap,h1,h2⟩:=h
 exact ⟨p,cap,h1,h2.grown g (.inl rfl)⟩
theorem dw.nor {w:World}{B:Nat}{v:Value}{z:Int} (h:dw w B v z):ew w v z:=by
 obtain ⟨p,cap,h1,h2⟩:=h
 exact ⟨p,cap,h1,h2.sl⟩
theorem ew.sn {w:World}{v:Value}{z:Int}{k:Nat} (h:ew w v z) (hb:Bd z.natAbs k):aB w v z k:=by
 obtain ⟨p,cap,h1,h2⟩:=h
 exact ⟨_,_,_,h1,(show fx w _ _ _ from ⟨h2,hb⟩).num,(nO z).symm⟩
set_option maxHeartbeats 2000000 in
theorem Ik {v u:Value}{z:Int}{k:Nat}{w:World} (hx:af w v z k) (hk:k<=1000000) (hu:ew w u z) :
  Calls Try.prog 29 #[v,u] w (lE w true):=by
 obtain ⟨p,cap,rfl,hx⟩:=hx
 obtain ⟨q,cap',rfl,hu⟩:=hu
 have S0:Kept w [(w.heap.size+1,0,(.bool (decide (z<0)))),(w.heap.size+1,1,(.slice q (ak 4294967296 z.natAbs).length cap')),(w.heap.size,0,(.slice p (ak 10000 z.natAbs).length cap)),(w.heap.size,1,(.bool (decide (z<0))))] [] ((w.alloc (.cells #[.slice p (ak 10000 z.natAbs).length cap,.bool (decide (z<0))] 61)).alloc (.cells #[.bool (decide (z<0)),.slice q (ak 4294967296 z.natAbs).length cap'] 66)):=((Kept.start w).box _ _ _ _ rfl).box _ _ _ _ (by simp)
 have Hx:=Lib.hid hx
 have Hu:=Lib.hid hu
 clear hx hu
 go_enter Try.func29,Try.ntmps29
 go_wp2_with fail
 refine (GW (Hx.out.grown (Kept.all _ _ S0)).1 (by have:=Hx.out.len;omega)).mono ?_
 rintro e w1 ⟨v,rfl,h,hg⟩
 obtain ⟨pv,nv,rfl⟩:=h.slice
 replace S0:=S0.grown _ _ hg
 obtain ⟨p1,KO,e1,m1,m2,h3⟩:=h.sl
 have hu1:=Hu.out.grown (Kept.all _ _ S0) (.inl rfl)
 obtain ⟨p2,cp2,e2,-,-,h4⟩:=hu1
 simp only [Value.slice.injEq,true_and] at e1 e2
 obtain ⟨rfl,rfl⟩:=e1
 obtain ⟨rfl,rfl⟩:=e2
 clear hg h Hu Hx
 generalize ak 4294967296 z.natAbs=l at *
 obtain ⟨n,hn⟩:∃n,l.length=n:=⟨_,rfl⟩
 have Hn:=Lib.hid hn
 rw [hn] at S0 m1 ⊢
 have nb:n<=9223372036854775807:=by omega
 clear hn m1 m2
 have hln:(decide (z<0) != decide (z<0))=false:=by simp
 obtain ⟨c0,c1,c2,c3,G⟩:=id S0
 have G1:=Lib.hid G
 clear G S0
 go_wp2_with fail
 go_loopw [25] (fun iv wr=>∃(i d:Nat),i<=n∧iv = .int .i64 i∧wr=w1.drewN d) (fun iv _=>(n-(intOf iv).toNat))
 case atStart=>exact ⟨0,0,by omega,rfl,rfl⟩
 case round=>
  obtain ⟨i,d,hi,rfl,rfl⟩:=hrel
  by_cases hlt:i<n
  ·rcases h3 with h3 | ⟨b1,o1,rfl,hb1,hy1⟩
   ·have:=Hn.out;rw [h3] at this;simp at this;omega
   rcases h4 with h4 | ⟨b2,o2,rfl,hb2,hy2⟩
   ·have:=Hn.out;rw [h4] at this;simp at this;omega
   have d1:=hy1 i (by rw [Hn.out];omega)
   have d2:=hy2 i (by rw [Hn.out];omega)
   clear hy1 hy2
   have i1:(i:Int)<(n:Int):=by omega
   have hb:(((nth l i:Nat):Int) != ((nth l i:Nat):Int))=false:=by simp
   go_wp2
   go_quiet (fail)
   go_wp2
   go_roundw
   case rel=>exact ⟨i+1,_,by omega,by go_num,rfl⟩
   case measure=>simp [intOf];omega
  ·obtain rfl:i=n:=by omega
   clear h3 h4
   go_wp2
   go_ret
   exact ⟨rfl,be G1.out (gP _ _ _)⟩
theorem Il {p:Option Addr}{n cap k:Nat}{w:World} (hn:n<=cap) :
  Calls Try.prog 67 #[.slice p n cap,.int .i64 k] w fun e w'=>e = .returned (.slice p (min n k) cap)∧w.grownBy w' none:=
 (CW hn).mono fun _ _ ⟨h1,h2⟩=>⟨h1,h2▸ba _ _⟩
set_option maxHeartbeats 1000000 in
theorem Im {b:Bool}{p:Option Addr}{cap n:Nat}{xs:List Nat}{w:World} (k:Nat) (h1:xs.length<=cap) (hn:(xs.take k).length=n) :
  Calls Try.prog 38 #[.agg #[.bool b,.slice p xs.length cap],.int .i64 k] w fun e w'=>e = .returned (.agg #[.bool b,.slice p n cap])∧w.grownBy w' none:=by
 have S0:Kept w [(w.heap.size,0,.bool b),(w.heap.size,1,.slice p xs.length cap)] [w.heap.size+1] ((w.alloc (.cells #[.bool b,.slice p xs.length cap] 66)).alloc (.cells #[.bool false,.slice none 0 0] 66)):=((Kept.start w).box _ _ _ _ rfl).res _ _ _ _ _ (by simp)
 have Hm:=Lib.hid (show min xs.length k=n by rw [<- hn,List.length_take,Nat.min_comm])
 clear hn
 go_enter Try.func38,Try.ntmps38
 go_wp2_with fail
 go_region_held3 (fun w'=>w'.cell? ⟨w.heap.size,0,none⟩=some (.bool b)∧w'.cell? ⟨w.heap.size,1,none⟩=some (.slice p xs.length cap)∧w'.cell? ⟨w.heap.size+1,0,none⟩=some (cellOf w' ⟨w.heap.size+1,0,none⟩)∧w'.cell? ⟨w.heap.size+1,1,none⟩=some (cellOf w' ⟨w.heap.size+1,1,none⟩)∧w'.frozen? ⟨w.heap.size+1,0,none⟩=false∧w'.frozen? ⟨w.heap.size+1,1,none⟩=false∧w.grownBy w' none) (first | exact Kept.step (W:=w) [(w.heap.size,0,.bool b),(w.heap.size,1,.slice p xs.length cap)] [w.heap.size+1] (by assumption) (by assumption) | exact Kept.set (W:=w) [(w.heap.size,0,.bool b),(w.heap.size,1,.slice p xs.length cap)] [w.heap.size+1] (by simp <;> omega) (by first | omega | (simp <;> omega)) (by assumption) | exact Kept.step [(w.heap.size,0,.bool b),(w.heap.size,1,.slice p xs.length cap)] [w.heap.size+1] (Lb _ _) S0)
  (first | (go_at_call 67;refine (Il h1).mono ?_;rintro e w' ⟨rfl,hg⟩))
 rename_i hend
 go_wp2_with fail
 refine nM Try.results38 rfl rfl (jO hend.2.2.1) (jP hend.2.2.2.1) ⟨?_,hend.2.2.2.2.2.2⟩
 rw [Hm.out]
theorem GJ {v:Value}{z:Int}{k:Nat}{w:World} (hx:af w v z k) :
  Calls Try.prog 74 #[v] w fun e w'=>e = .returned (.bool (decide (z=0)))∧w.grownBy w' none:=by
 have bx:=hx.bd
 obtain ⟨p,cap,rfl,hx⟩:=hx
 have Hx:=Lib.hid hx
 clear hx
 clear bx Hx
 have e:((((ak 10000 z.natAbs).length:Nat):Int) == 0)=decide (z=0):=by
  have:=fb (b:=10000) (by omega) (n:=z.natAbs)
  rw [Bool.eq_iff_iff,beq_iff_eq,decide_eq_true_eq]
  omega
 generalize (ak 10000 z.natAbs).length=l at *
 go_enter Try.func74,Try.ntmps74
 go_wp2_with fail
 go_ret
 refine ⟨?_,KQ _ _ _⟩
 simp_all
end Go.Proofs.Ytomamliepbhegaa
