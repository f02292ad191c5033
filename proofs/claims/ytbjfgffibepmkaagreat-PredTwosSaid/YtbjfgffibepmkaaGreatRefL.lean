/- The reference's whole nu -/
import Derived.Test.YtbjfgffibepmkaaGreatIntA
set_option maxRecDepth 100000
namespace Go.Proofs.YtbjfgffibepmkaaGreat
open Go.Proofs.Tryz
open Lib (hid)
open Go.RowKit
variable {W w w':World}{u v x:Value}{y z:Int}{B X Y cap cap' g i j k m n r:Nat}{fn:Func}{a:Act}{b:Bool}{p q:Option Addr}
def ai (w:World) (v:Value) (z:Int) (k:Nat):Prop:=∃p cap,v = .agg #[.slice p (am 10000 z.natAbs).length cap,.bool (decide (z<0))]∧cC w (.slice p (am 10000 z.natAbs).length cap) z.natAbs k
theorem ai.grown  (h:ai w v z k) (g:w.grownBy w' none):ai w' v z k:=by
 obtain ⟨p,cap,h1,h2⟩:=h
 exact ⟨p,cap,h1,h2.grown g⟩
theorem ai.bd  (h:ai w v z k):Bd z.natAbs k:=by
 obtain ⟨p,cap,h1,h2⟩:=h
 exact h2.2
def ll (w:World) (B:Nat) (v:Value) (z:Int):Prop:=∃p cap,v = .agg #[.slice p (am 10000 z.natAbs).length cap,.bool (decide (z<0))]∧Own w 3 .i64 B (.slice p (am 10000 z.natAbs).length cap) (am 10000 z.natAbs)
theorem ll.grown  (h:ll w B v z) (g:w.grownBy w' none):ll w' B v z:=by
 obtain ⟨p,cap,h1,h2⟩:=h
 exact ⟨p,cap,h1,h2.grown g (.inl rfl)⟩
theorem ll.Ee  (h:ll w B v z) (hb:Bd z.natAbs k):ai w v z k:=by
 obtain ⟨p,cap,h1,h2⟩:=h
 exact ⟨p,cap,h1,h2.sl,hb⟩
def eJ (w:World) (z:Int) (k:Nat) (e:Ending) (w':World):Prop:=∃v,e = .returned v∧ll w' w.heap.size v z∧Bd z.natAbs k∧w.grownBy w' none
theorem eJ.of {l:Nat}{e:Ending} (h:eJ w z k e w') (hz:z=y) (hk:k<=l):eJ w y l e w':=by
 subst hz
 obtain ⟨v,h1,h2,h3,h4⟩:=h
 exact ⟨v,h1,h2,h3.more hk,h4⟩
theorem gO (b:Bool) (p:Option Addr) (n cap:Nat) (w:World) :
  Calls prog 73 #[.slice p n cap,.bool b] w fun e w'=>e = .returned (.agg #[.slice p n cap,.bool (b && decide (0<n))])∧w.grownBy w' none:=by
 go_enter func73,ntmps73
 cases b
 all_goals
  go_wp2_with fail
  simp [bodyPost,results,results73,go_sem]
  exact bg _ _ _
theorem Xx  (hx:Num w v X k) (hk:k<=1000000):Calls prog 77 #[v] w (gN w X k):=by
 have b:=hx.bd
 obtain ⟨xs,h1,h2,rfl,h3⟩:=hx
 exact (WO h1 h2).mono fun _ _ h=>gN.of h b
theorem iW {y:Value} (hres:fn.results = #[ResultVar.cell r 61]) (hd:a.defers = []) (hr:a.tmps[r]?=some (.pointer (some ⟨g,0,none⟩)))
  (h0:(set2 w g (.slice p n cap) (.bool (b && decide (0<n)))).cell? ⟨g,0,none⟩=some x) (h1:(set2 w g (.slice p n cap) (.bool (b && decide (0<n)))).cell? ⟨g,1,none⟩=some y)
  (hG:W.grownBy (set2 w g (.slice p n cap) (.bool (b && decide (0<n)))) none)
  (ho:Own w 3 .i64 B (.slice p n cap) (am 10000 X)) (hB:W.heap.size<=B) (hg:g<B) (hn:(am 10000 X).length=n) (hz:sg b X=z) (hb:Bd X k) :
  bodyPost prog fn (eJ W z k) .ret a (set2 w g (.slice p n cap) (.bool (b && decide (0<n)))):=by
 subst hz hn
 refine qw hres hd hr (nM h0) (nO h1) ⟨_,rfl,⟨p,cap,?_,?_⟩,by rw [ee];exact hb,hG⟩
 ·rw [mp,ee,kS _ _]
 ·rw [ee]
  exact ((ho.mono hB).grown (gA _ _ _ _) (own_ne ho hg))
theorem Xy {y:Value} (hres:fn.results = #[ResultVar.cell r 61]) (hd:a.defers = []) (hr:a.tmps[r]?=some (.pointer (some ⟨g,0,none⟩)))
  (h0:(set2 w g u v).cell? ⟨g,0,none⟩=some x) (h1:(set2 w g u v).cell? ⟨g,1,none⟩=some y) (hG:W.grownBy (set2 w g u v) none)
  (ho:ll w B (.agg #[u,v]) z) (hB:W.heap.size<=B) (hg:g<B) (hb:Bd z.natAbs k):bodyPost prog fn (eJ W z k) .ret a (set2 w g u v):=by
 refine qw hres hd hr (nM h0) (nO h1) ⟨_,rfl,?_,hb,hG⟩
 obtain ⟨p,cap,h2,h3⟩:=ho
 refine ⟨p,cap,h2,?_⟩
 simp only [Value.agg.injEq,Array.mk.injEq,List.cons.injEq,and_true] at h2
 obtain ⟨rfl,-⟩:=h2
 exact ((h3.mono hB).grown (gA _ _ _ _) (own_ne h3 hg))
set_option maxHeartbeats 1000000 in
theorem WB  (hx:aF w v z k) (hk:k<=1000000) :
  Calls prog 37 #[v] w (eJ w z k):=by
 obtain ⟨b,s,X,rfl,hx,rfl⟩:=hx
 obtain ⟨p,n,cap,rfl⟩:=hx.slice
 have Hx:=hid hx
 clear hx
 have S0:Kept w [(w.heap.size,0,.bool b),(w.heap.size,1,.slice p n cap)] [w.heap.size+1] ((w.alloc (.cells #[.bool b,.slice p n cap] 27)).alloc (.cells #[.slice none 0 0,.bool false] 61)):=((Kept.start w).box _ _ _ _ rfl).res _ _ _ _ _ (by simp)
 go_enter func37,ntmps37
 go_wp2_with fail
 go_region_held3 (fun w'=>w'.cell? ⟨w.heap.size,0,none⟩=some (.bool b)∧w'.cell? ⟨w.heap.size,1,none⟩=some (.slice p n cap)∧w'.cell? ⟨w.heap.size+1,0,none⟩=some (cellOf w' ⟨w.heap.size+1,0,none⟩)∧w'.cell? ⟨w.heap.size+1,1,none⟩=some (cellOf w' ⟨w.heap.size+1,1,none⟩)∧w'.frozen? ⟨w.heap.size+1,0,none⟩=false∧w'.frozen? ⟨w.heap.size+1,1,none⟩=false∧w.grownBy w' none) (first | exact Kept.step (W:=w) [(w.heap.size,0,.bool b),(w.heap.size,1,.slice p n cap)] [w.heap.size+1] (by assumption) (by assumption) | exact Kept.set (W:=w) [(w.heap.size,0,.bool b),(w.heap.size,1,.slice p n cap)] [w.heap.size+1] (by simp <;> omega) (by first | omega | (simp <;> omega)) (by assumption) | exact Kept.step [(w.heap.size,0,.bool b),(w.heap.size,1,.slice p n cap)] [w.heap.size+1] (dl _ _) S0)
  (first | (go_at_call 77;refine (Xx (Hx.out.grown (by go_split_ands;assumption)) hk).mono ?_;rintro e w' ⟨v,rfl,h,bd,hg⟩;obtain ⟨pv,nv,rfl⟩:=h.slice) | (go_at_call 73;refine (gO _ _ _ _ _).mono ?_;rintro e w' ⟨rfl,hg⟩;replace h:=h.grown hg (.inl rfl)))
 rename_i hend
 go_wp2_with fail
 exact iW results37 rfl rfl hend.2.2.1 hend.2.2.2.1 hend.2.2.2.2.2.2 h (by first | omega | (simp <;> omega)) (by first | omega | (simp <;> omega)) rfl rfl bd
set_option maxHeartbeats 1000000 in
theorem WD  (hx:ai w v z k) (hk:k<=1000000) :
  Calls prog 35 #[v] w (eH w z k):=by
 have bx:=hx.bd
 obtain ⟨p,cap,rfl,hx⟩:=hx
 have Hx:=hid hx
 clear hx
 have S0:Kept w [(w.heap.size,0,.slice p (am 10000 z.natAbs).length cap),(w.heap.size,1,.bool (decide (z<0)))] [w.heap.size+1] ((w.alloc (.cells #[.slice p (am 10000 z.natAbs).length cap,.bool (decide (z<0))] 61)).alloc (.cells #[.bool false,.slice none 0 0] 27)):=((Kept.start w).box _ _ _ _ rfl).res _ _ _ _ _ (by simp)
 go_enter func35,ntmps35
 go_wp2_with fail
 go_region_held3 (fun w'=>w'.cell? ⟨w.heap.size,0,none⟩=some (.slice p (am 10000 z.natAbs).length cap)∧w'.cell? ⟨w.heap.size,1,none⟩=some (.bool (decide (z<0)))∧w'.cell? ⟨w.heap.size+1,0,none⟩=some (cellOf w' ⟨w.heap.size+1,0,none⟩)∧w'.cell? ⟨w.heap.size+1,1,none⟩=some (cellOf w' ⟨w.heap.size+1,1,none⟩)∧w'.frozen? ⟨w.heap.size+1,0,none⟩=false∧w'.frozen? ⟨w.heap.size+1,1,none⟩=false∧w.grownBy w' none) (first | exact Kept.step (W:=w) [(w.heap.size,0,.slice p (am 10000 z.natAbs).length cap),(w.heap.size,1,.bool (decide (z<0)))] [w.heap.size+1] (by assumption) (by assumption) | exact Kept.set (W:=w) [(w.heap.size,0,.slice p (am 10000 z.natAbs).length cap),(w.heap.size,1,.bool (decide (z<0)))] [w.heap.size+1] (by simp <;> omega) (by first | omega | (simp <;> omega)) (by assumption) | exact Kept.step [(w.heap.size,0,.slice p (am 10000 z.natAbs).length cap),(w.heap.size,1,.bool (decide (z<0)))] [w.heap.size+1] (dl _ _) S0)
  (first | (go_at_call 75;refine (En (Hx.out.grown (by go_split_ands;assumption)).1 (by have:=Hx.out.len;omega)).mono ?_;rintro e w' ⟨v,rfl,h,hg⟩;obtain ⟨pv,nv,rfl⟩:=h.slice))
 rename_i hend
 go_wp2_with fail
 exact qA results35 rfl rfl hend.2.2.1 hend.2.2.2.1 hend.2.2.2.2.2.2 ⟨_,_,rfl,h⟩ (by first | omega | (simp <;> omega)) (by first | omega | (simp <;> omega)) bx
set_option maxHeartbeats 1000000 in
theorem Ej  (hx:ai w v z k) :
  Calls prog 106 #[v] w fun e w'=>∃v,e = .returned v∧ai w' v (-z) k∧w.grownBy w' none:=by
 have bx:=hx.bd
 obtain ⟨p,cap,rfl,hx⟩:=hx
 have Hx:=hid hx
 clear hx
 clear bx
 have S0:Kept w [(w.heap.size,0,.slice p (am 10000 z.natAbs).length cap),(w.heap.size,1,.bool (decide (z<0)))] [w.heap.size+1] ((w.alloc (.cells #[.slice p (am 10000 z.natAbs).length cap,.bool (decide (z<0))] 61)).alloc (.cells #[.slice none 0 0,.bool false] 61)):=((Kept.start w).box _ _ _ _ rfl).res _ _ _ _ _ (by simp)
 go_enter func106,ntmps106
 go_wp2_with fail
 refine (gO _ _ _ _ _).mono ?_
 rintro e w1 ⟨rfl,hg⟩
 replace S0:=Kept.grown _ _ S0 hg
 clear hg
 obtain ⟨c0,c1,r0,r1,f0,f1,G⟩:=id S0
 go_wp2_with fail
 have G2:=Kept.all _ _ (Kept.set (g:=w.heap.size+1) (u:=.slice p (am 10000 z.natAbs).length cap) (v:=.bool (!decide (z<0) && decide (0<(am 10000 z.natAbs).length))) _ _ (by simp <;> omega) (by omega) S0)
 refine qw results106 rfl rfl (dW r0) (dY r1) ⟨_,rfl,⟨p,cap,?_,?_⟩,G2⟩
 ·rw [Int.natAbs_neg,kS _ _]
  congr 5
  rw [Bool.eq_iff_iff]
  simp
  omega
 ·rw [Int.natAbs_neg]
  exact Hx.out.grown G2
theorem Xz  (hx:ai w v z k) :
  Calls prog 86 #[v] w fun e w'=>e = .returned (.int .i64 (dG z 0))∧w.grownBy w' none:=by
 have bx:=hx.bd
 obtain ⟨p,cap,rfl,hx⟩:=hx
 have Hx:=hid hx
 clear hx
 clear bx Hx
 have hl:=fz (b:=10000) (n:=z.natAbs)
 generalize (am 10000 z.natAbs).length=l at *
 by_cases h0:z=0
 ·obtain rfl:l=0:=by omega
  subst h0
  go_enter func86,ntmps86
  go_wp2_with fail
  go_ret
  exact ⟨rfl,bg _ _ _⟩
 ·have hl':(l:Int)≠0:=by omega
  by_cases hn:z<0
  ·rw [dG,if_pos hn,decide_eq_true hn]
   clear hl
   go_enter func86,ntmps86
   go_wp2_with fail
   go_ret
   exact ⟨rfl,bg _ _ _⟩
  ·rw [dG,if_neg hn,if_neg h0,decide_eq_false hn]
   clear hl
   go_enter func86,ntmps86
   go_wp2_with fail
   go_ret
   exact ⟨rfl,bg _ _ _⟩
set_option maxHeartbeats 2000000 in
theorem XA {b':Bool} (hx:cC w (.slice p n cap) X i) (hy:cC w (.slice q m cap') Y j) (hi:i+j<=1000000) :
  Calls prog 36 #[.agg #[.slice p n cap,.bool b],.agg #[.slice q m cap',.bool b']] w (eJ w (sg b X*sg b' Y) (i+j)):=by
 have Hx:=hid hx
 have Hy:=hid hy
 have S0:Kept w [(w.heap.size+1,0,(.slice q m cap')),(w.heap.size+1,1,(.bool b')),(w.heap.size,0,(.slice p n cap)),(w.heap.size,1,(.bool b))] [w.heap.size+1+1] (((w.alloc (.cells #[.slice p n cap,.bool b] 61)).alloc (.cells #[.slice q m cap',.bool b'] 61)).alloc (.cells #[.slice none 0 0,.bool false] 61)):=(((Kept.start w).box _ _ _ _ rfl).box _ _ _ _ (by simp)).res _ _ _ _ _ (by simp)
 clear hx hy
 go_enter func36,ntmps36
 go_wp2_with fail
 go_region_held3 (fun w'=>w'.cell? ⟨w.heap.size+1,0,none⟩=some ((.slice q m cap'))∧w'.cell? ⟨w.heap.size+1,1,none⟩=some ((.bool b'))∧w'.cell? ⟨w.heap.size,0,none⟩=some ((.slice p n cap))∧w'.cell? ⟨w.heap.size,1,none⟩=some ((.bool b))∧w'.cell? ⟨w.heap.size+1+1,0,none⟩=some (cellOf w' ⟨w.heap.size+1+1,0,none⟩)∧w'.cell? ⟨w.heap.size+1+1,1,none⟩=some (cellOf w' ⟨w.heap.size+1+1,1,none⟩)∧w'.frozen? ⟨w.heap.size+1+1,0,none⟩=false∧w'.frozen? ⟨w.heap.size+1+1,1,none⟩=false∧w.grownBy w' none) (first | exact Kept.step (W:=w) [(w.heap.size+1,0,(.slice q m cap')),(w.heap.size+1,1,(.bool b')),(w.heap.size,0,(.slice p n cap)),(w.heap.size,1,(.bool b))] [w.heap.size+1+1] (by assumption) (by assumption) | exact Kept.set (W:=w) [(w.heap.size+1,0,(.slice q m cap')),(w.heap.size+1,1,(.bool b')),(w.heap.size,0,(.slice p n cap)),(w.heap.size,1,(.bool b))] [w.heap.size+1+1] (by simp <;> omega) (by first | omega | (simp <;> omega)) (by assumption) | exact Kept.step [(w.heap.size+1,0,(.slice q m cap')),(w.heap.size+1,1,(.bool b')),(w.heap.size,0,(.slice p n cap)),(w.heap.size,1,(.bool b))] [w.heap.size+1+1] (dl _ _) S0)
  (first | (go_at_call 76;refine (Xt (Hx.out.grown (by go_split_ands;assumption)) (Hy.out.grown (by go_split_ands;assumption))).mono ?_;rintro e w' ⟨v,rfl,h,bd,hg⟩;obtain ⟨pv,nv,rfl⟩:=h.slice) | (go_at_call 73;refine (gO _ _ _ _ _).mono ?_;rintro e w' ⟨rfl,hg⟩;replace h:=h.grown hg (.inl rfl)))
 rename_i hend
 go_wp2_with fail
 exact iW results36 rfl rfl hend.2.2.2.2.1 hend.2.2.2.2.2.1 hend.2.2.2.2.2.2.2.2 h (by first | omega | (simp <;> omega)) (by first | omega | (simp <;> omega)) rfl (AK _ _ _ _) bd
set_option maxHeartbeats 2000000 in
theorem Ev  (hx:cC w (.slice p n cap) X i) (hy:cC w (.slice q m cap') Y j) (hi:i+j<=1000000) :
  Calls prog 81 #[.agg #[.slice p n cap,.bool b],.agg #[.slice q m cap',.bool b]] w (eJ w (sg b X+sg b Y) (i+j+1)):=by
 have Hx:=hid hx
 have Hy:=hid hy
 have S0:Kept w [(w.heap.size+1,0,(.slice q m cap')),(w.heap.size+1,1,(.bool b)),(w.heap.size,0,(.slice p n cap)),(w.heap.size,1,(.bool b))] [w.heap.size+1+1] (((w.alloc (.cells #[.slice p n cap,.bool b] 61)).alloc (.cells #[.slice q m cap',.bool b] 61)).alloc (.cells #[.slice none 0 0,.bool false] 61)):=(((Kept.start w).box _ _ _ _ rfl).box _ _ _ _ (by simp)).res _ _ _ _ _ (by simp)
 clear hx hy
 go_enter func81,ntmps81
 obtain ⟨c0,c1,c2,c3,r0,r1,r2,r3,G⟩:=id S0
 go_wp2_with fail
 go_region_held3 (fun w'=>w'.cell? ⟨w.heap.size+1,0,none⟩=some ((.slice q m cap'))∧w'.cell? ⟨w.heap.size+1,1,none⟩=some ((.bool b))∧w'.cell? ⟨w.heap.size,0,none⟩=some ((.slice p n cap))∧w'.cell? ⟨w.heap.size,1,none⟩=some ((.bool b))∧w'.cell? ⟨w.heap.size+1+1,0,none⟩=some (cellOf w' ⟨w.heap.size+1+1,0,none⟩)∧w'.cell? ⟨w.heap.size+1+1,1,none⟩=some (cellOf w' ⟨w.heap.size+1+1,1,none⟩)∧w'.frozen? ⟨w.heap.size+1+1,0,none⟩=false∧w'.frozen? ⟨w.heap.size+1+1,1,none⟩=false∧w.grownBy w' none) (first | exact Kept.step (W:=w) [(w.heap.size+1,0,(.slice q m cap')),(w.heap.size+1,1,(.bool b)),(w.heap.size,0,(.slice p n cap)),(w.heap.size,1,(.bool b))] [w.heap.size+1+1] (by assumption) (by assumption) | exact Kept.set (W:=w) [(w.heap.size+1,0,(.slice q m cap')),(w.heap.size+1,1,(.bool b)),(w.heap.size,0,(.slice p n cap)),(w.heap.size,1,(.bool b))] [w.heap.size+1+1] (by simp <;> omega) (by first | omega | (simp <;> omega)) (by assumption) | exact Kept.step [(w.heap.size+1,0,(.slice q m cap')),(w.heap.size+1,1,(.bool b)),(w.heap.size,0,(.slice p n cap)),(w.heap.size,1,(.bool b))] [w.heap.size+1+1] (dl _ _) S0)
  (first | (go_at_call 127;refine (Xs (Hx.out.grown (by go_split_ands;assumption)) (Hy.out.grown (by go_split_ands;assumption))).mono ?_;rintro e w' ⟨v,rfl,h,bd,hg⟩;obtain ⟨pv,nv,rfl⟩:=h.slice) | (go_at_call 73;refine (gO _ _ _ _ _).mono ?_;rintro e w' ⟨rfl,hg⟩;replace h:=h.grown hg (.inl rfl)))
 rename_i hend
 go_wp2_with fail
 exact iW results81 rfl rfl hend.2.2.2.2.1 hend.2.2.2.2.2.1 hend.2.2.2.2.2.2.2.2 h (by first | omega | (simp <;> omega)) (by first | omega | (simp <;> omega)) rfl (AL _ _ _) bd
set_option maxHeartbeats 2000000 in
theorem XB  (hx:cC w (.slice p n cap) X i) (hy:cC w (.slice q m cap') Y j) (hi:i+j<=1000000) (hc:Y<=X) :
  Calls prog 81 #[.agg #[.slice p n cap,.bool true],.agg #[.slice q m cap',.bool false]] w (eJ w (sg true (X-Y)) (i)):=by
 have Hx:=hid hx
 have Hy:=hid hy
 have Hc:=hid hc
 have S0:Kept w [(w.heap.size+1,0,(.slice q m cap')),(w.heap.size+1,1,(.bool false)),(w.heap.size,0,(.slice p n cap)),(w.heap.size,1,(.bool true))] [w.heap.size+1+1] (((w.alloc (.cells #[.slice p n cap,.bool true] 61)).alloc (.cells #[.slice q m cap',.bool false] 61)).alloc (.cells #[.slice none 0 0,.bool false] 61)):=(((Kept.start w).box _ _ _ _ rfl).box _ _ _ _ (by simp)).res _ _ _ _ _ (by simp)
 clear hx hy hc
 go_enter func81,ntmps81
 go_wp2_with fail
 refine (ry (Hx.out.grown (Kept.all _ _ S0)) (Hy.out.grown (Kept.all _ _ S0))).mono ?_
 rintro e w1 ⟨rfl,hg⟩
 have hge:=tP Hc.out
 generalize cT X Y=r at *
 have s1:=hg.size
 have s2:=S0.lt (g:=w.heap.size+1+1) (by simp)
 have Sq:=S0.size
 replace S0:=Kept.grown _ _ S0 hg
 clear hg
 obtain ⟨c0,c1,c2,c3,r0,r1,r2,r3,G⟩:=id S0
 go_wp2_with fail
 go_region_held3 (fun w'=>w'.cell? ⟨w.heap.size+1,0,none⟩=some ((.slice q m cap'))∧w'.cell? ⟨w.heap.size+1,1,none⟩=some ((.bool false))∧w'.cell? ⟨w.heap.size,0,none⟩=some ((.slice p n cap))∧w'.cell? ⟨w.heap.size,1,none⟩=some ((.bool true))∧w'.cell? ⟨w.heap.size+1+1,0,none⟩=some (cellOf w' ⟨w.heap.size+1+1,0,none⟩)∧w'.cell? ⟨w.heap.size+1+1,1,none⟩=some (cellOf w' ⟨w.heap.size+1+1,1,none⟩)∧w'.frozen? ⟨w.heap.size+1+1,0,none⟩=false∧w'.frozen? ⟨w.heap.size+1+1,1,none⟩=false∧w.grownBy w' none) (first | exact Kept.step (W:=w) [(w.heap.size+1,0,(.slice q m cap')),(w.heap.size+1,1,(.bool false)),(w.heap.size,0,(.slice p n cap)),(w.heap.size,1,(.bool true))] [w.heap.size+1+1] (by assumption) (by assumption) | exact Kept.set (W:=w) [(w.heap.size+1,0,(.slice q m cap')),(w.heap.size+1,1,(.bool false)),(w.heap.size,0,(.slice p n cap)),(w.heap.size,1,(.bool true))] [w.heap.size+1+1] (by simp <;> omega) (by first | omega | (simp <;> omega)) (by assumption) | exact Kept.step [(w.heap.size+1,0,(.slice q m cap')),(w.heap.size+1,1,(.bool false)),(w.heap.size,0,(.slice p n cap)),(w.heap.size,1,(.bool true))] [w.heap.size+1+1] (dl _ _) S0)
  (first | (go_at_call 129;refine (rx (Hx.out.grown (by go_split_ands;assumption)) (Hy.out.grown (by go_split_ands;assumption)) Hc.out).mono ?_;rintro e w' ⟨v,rfl,h,bd,hg⟩;obtain ⟨pv,nv,rfl⟩:=h.slice) | (go_at_call 73;refine (gO _ _ _ _ _).mono ?_;rintro e w' ⟨rfl,hg⟩;replace h:=h.grown hg (.inl rfl)))
 rename_i hend
 go_wp2_with fail
 exact iW (b:=true) results81 rfl rfl hend.2.2.2.2.1 hend.2.2.2.2.2.1 hend.2.2.2.2.2.2.2.2 h (by simp at s1 s2 Sq ⊢ <;> omega) (by simp at s1 s2 Sq ⊢ <;> omega) rfl (rfl) bd
set_option maxHeartbeats 2000000 in
theorem XC {i:Nat} (hx:cC w (.slice p n cap) X i) (hy:cC w (.slice q m cap') Y j) (hi:i+j<=1000000) (hc:X<Y:=by omega) :
  Calls prog 81 #[.agg #[.slice p n cap,.bool true],.agg #[.slice q m cap',.bool false]] w (eJ w (sg false (Y-X)) (j)):=by
 have Hx:=hid hx
 have Hy:=hid hy
 have Hc:=hid hc
 have S0:Kept w [(w.heap.size+1,0,(.slice q m cap')),(w.heap.size+1,1,(.bool false)),(w.heap.size,0,(.slice p n cap)),(w.heap.size,1,(.bool true))] [w.heap.size+1+1] (((w.alloc (.cells #[.slice p n cap,.bool true] 61)).alloc (.cells #[.slice q m cap',.bool false] 61)).alloc (.cells #[.slice none 0 0,.bool false] 61)):=(((Kept.start w).box _ _ _ _ rfl).box _ _ _ _ (by simp)).res _ _ _ _ _ (by simp)
 clear hx hy hc
 go_enter func81,ntmps81
 go_wp2_with fail
 refine (ry (Hx.out.grown (Kept.all _ _ S0)) (Hy.out.grown (Kept.all _ _ S0))).mono ?_
 rintro e w1 ⟨rfl,hg⟩
 rw [jL Hc.out]
 have s1:=hg.size
 have s2:=S0.lt (g:=w.heap.size+1+1) (by simp)
 have Sq:=S0.size
 replace S0:=Kept.grown _ _ S0 hg
 clear hg
 obtain ⟨c0,c1,c2,c3,r0,r1,r2,r3,G⟩:=id S0
 go_wp2_with fail
 go_region_held3 (fun w'=>w'.cell? ⟨w.heap.size+1,0,none⟩=some ((.slice q m cap'))∧w'.cell? ⟨w.heap.size+1,1,none⟩=some ((.bool false))∧w'.cell? ⟨w.heap.size,0,none⟩=some ((.slice p n cap))∧w'.cell? ⟨w.heap.size,1,none⟩=some ((.bool true))∧w'.cell? ⟨w.heap.size+1+1,0,none⟩=some (cellOf w' ⟨w.heap.size+1+1,0,none⟩)∧w'.cell? ⟨w.heap.size+1+1,1,none⟩=some (cellOf w' ⟨w.heap.size+1+1,1,none⟩)∧w'.frozen? ⟨w.heap.size+1+1,0,none⟩=false∧w'.frozen? ⟨w.heap.size+1+1,1,none⟩=false∧w.grownBy w' none) (first | exact Kept.step (W:=w) [(w.heap.size+1,0,(.slice q m cap')),(w.heap.size+1,1,(.bool false)),(w.heap.size,0,(.slice p n cap)),(w.heap.size,1,(.bool true))] [w.heap.size+1+1] (by assumption) (by assumption) | exact Kept.set (W:=w) [(w.heap.size+1,0,(.slice q m cap')),(w.heap.size+1,1,(.bool false)),(w.heap.size,0,(.slice p n cap)),(w.heap.size,1,(.bool true))] [w.heap.size+1+1] (by simp <;> omega) (by first | omega | (simp <;> omega)) (by assumption) | exact Kept.step [(w.heap.size+1,0,(.slice q m cap')),(w.heap.size+1,1,(.bool false)),(w.heap.size,0,(.slice p n cap)),(w.heap.size,1,(.bool true))] [w.heap.size+1+1] (dl _ _) S0)
  (first | (go_at_call 129;refine (rx (Hy.out.grown (by go_split_ands;assumption)) (Hx.out.grown (by go_split_ands;assumption)) (Nat.le_of_lt Hc.out)).mono ?_;rintro e w' ⟨v,rfl,h,bd,hg⟩;obtain ⟨pv,nv,rfl⟩:=h.slice) | (go_at_call 73;refine (gO _ _ _ _ _).mono ?_;rintro e w' ⟨rfl,hg⟩;replace h:=h.grown hg (.inl rfl)))
 rename_i hend
 go_wp2_with fail
 exact iW (b:=false) results81 rfl rfl hend.2.2.2.2.1 hend.2.2.2.2.2.1 hend.2.2.2.2.2.2.2.2 h (by simp at s1 s2 Sq ⊢ <;> omega) (by simp at s1 s2 Sq ⊢ <;> omega) rfl (rfl) bd
set_option maxHeartbeats 2000000 in
theorem XD  (hx:cC w (.slice p n cap) X i) (hy:cC w (.slice q m cap') Y j) (hi:i+j<=1000000) (hc:Y<=X) :
  Calls prog 81 #[.agg #[.slice p n cap,.bool false],.agg #[.slice q m cap',.bool true]] w (eJ w (sg false (X-Y)) (i)):=by
 have Hx:=hid hx
 have Hy:=hid hy
 have Hc:=hid hc
 have S0:Kept w [(w.heap.size+1,0,(.slice q m cap')),(w.heap.size+1,1,(.bool true)),(w.heap.size,0,(.slice p n cap)),(w.heap.size,1,(.bool false))] [w.heap.size+1+1] (((w.alloc (.cells #[.slice p n cap,.bool false] 61)).alloc (.cells #[.slice q m cap',.bool true] 61)).alloc (.cells #[.slice none 0 0,.bool false] 61)):=(((Kept.start w).box _ _ _ _ rfl).box _ _ _ _ (by simp)).res _ _ _ _ _ (by simp)
 clear hx hy hc
 go_enter func81,ntmps81
 go_wp2_with fail
 refine (ry (Hx.out.grown (Kept.all _ _ S0)) (Hy.out.grown (Kept.all _ _ S0))).mono ?_
 rintro e w1 ⟨rfl,hg⟩
 have hge:=tP Hc.out
 generalize cT X Y=r at *
 have s1:=hg.size
 have s2:=S0.lt (g:=w.heap.size+1+1) (by simp)
 have Sq:=S0.size
 replace S0:=Kept.grown _ _ S0 hg
 clear hg
 obtain ⟨c0,c1,c2,c3,r0,r1,r2,r3,G⟩:=id S0
 go_wp2_with fail
 go_region_held3 (fun w'=>w'.cell? ⟨w.heap.size+1,0,none⟩=some ((.slice q m cap'))∧w'.cell? ⟨w.heap.size+1,1,none⟩=some ((.bool true))∧w'.cell? ⟨w.heap.size,0,none⟩=some ((.slice p n cap))∧w'.cell? ⟨w.heap.size,1,none⟩=some ((.bool false))∧w'.cell? ⟨w.heap.size+1+1,0,none⟩=some (cellOf w' ⟨w.heap.size+1+1,0,none⟩)∧w'.cell? ⟨w.heap.size+1+1,1,none⟩=some (cellOf w' ⟨w.heap.size+1+1,1,none⟩)∧w'.frozen? ⟨w.heap.size+1+1,0,none⟩=false∧w'.frozen? ⟨w.heap.size+1+1,1,none⟩=false∧w.grownBy w' none) (first | exact Kept.step (W:=w) [(w.heap.size+1,0,(.slice q m cap')),(w.heap.size+1,1,(.bool true)),(w.heap.size,0,(.slice p n cap)),(w.heap.size,1,(.bool false))] [w.heap.size+1+1] (by assumption) (by assumption) | exact Kept.set (W:=w) [(w.heap.size+1,0,(.slice q m cap')),(w.heap.size+1,1,(.bool true)),(w.heap.size,0,(.slice p n cap)),(w.heap.size,1,(.bool false))] [w.heap.size+1+1] (by simp <;> omega) (by first | omega | (simp <;> omega)) (by assumption) | exact Kept.step [(w.heap.size+1,0,(.slice q m cap')),(w.heap.size+1,1,(.bool true)),(w.heap.size,0,(.slice p n cap)),(w.heap.size,1,(.bool false))] [w.heap.size+1+1] (dl _ _) S0)
  (first | (go_at_call 129;refine (rx (Hx.out.grown (by go_split_ands;assumption)) (Hy.out.grown (by go_split_ands;assumption)) Hc.out).mono ?_;rintro e w' ⟨v,rfl,h,bd,hg⟩;obtain ⟨pv,nv,rfl⟩:=h.slice) | (go_at_call 73;refine (gO _ _ _ _ _).mono ?_;rintro e w' ⟨rfl,hg⟩;replace h:=h.grown hg (.inl rfl)))
 rename_i hend
 go_wp2_with fail
 exact iW (b:=false) results81 rfl rfl hend.2.2.2.2.1 hend.2.2.2.2.2.1 hend.2.2.2.2.2.2.2.2 h (by simp at s1 s2 Sq ⊢ <;> omega) (by simp at s1 s2 Sq ⊢ <;> omega) rfl (rfl) bd
set_option maxHeartbeats 2000000 in
theorem XE {i:Nat} (hx:cC w (.slice p n cap) X i) (hy:cC w (.slice q m cap') Y j) (hi:i+j<=1000000) (hc:X<Y:=by omega) :
  Calls prog 81 #[.agg #[.slice p n cap,.bool false],.agg #[.slice q m cap',.bool true]] w (eJ w (sg true (Y-X)) (j)):=by
 have Hx:=hid hx
 have Hy:=hid hy
 have Hc:=hid hc
 have S0:Kept w [(w.heap.size+1,0,(.slice q m cap')),(w.heap.size+1,1,(.bool true)),(w.heap.size,0,(.slice p n cap)),(w.heap.size,1,(.bool false))] [w.heap.size+1+1] (((w.alloc (.cells #[.slice p n cap,.bool false] 61)).alloc (.cells #[.slice q m cap',.bool true] 61)).alloc (.cells #[.slice none 0 0,.bool false] 61)):=(((Kept.start w).box _ _ _ _ rfl).box _ _ _ _ (by simp)).res _ _ _ _ _ (by simp)
 clear hx hy hc
 go_enter func81,ntmps81
 go_wp2_with fail
 refine (ry (Hx.out.grown (Kept.all _ _ S0)) (Hy.out.grown (Kept.all _ _ S0))).mono ?_
 rintro e w1 ⟨rfl,hg⟩
 rw [jL Hc.out]
 have s1:=hg.size
 have s2:=S0.lt (g:=w.heap.size+1+1) (by simp)
 have Sq:=S0.size
 replace S0:=Kept.grown _ _ S0 hg
 clear hg
 obtain ⟨c0,c1,c2,c3,r0,r1,r2,r3,G⟩:=id S0
 go_wp2_with fail
 go_region_held3 (fun w'=>w'.cell? ⟨w.heap.size+1,0,none⟩=some ((.slice q m cap'))∧w'.cell? ⟨w.heap.size+1,1,none⟩=some ((.bool true))∧w'.cell? ⟨w.heap.size,0,none⟩=some ((.slice p n cap))∧w'.cell? ⟨w.heap.size,1,none⟩=some ((.bool false))∧w'.cell? ⟨w.heap.size+1+1,0,none⟩=some (cellOf w' ⟨w.heap.size+1+1,0,none⟩)∧w'.cell? ⟨w.heap.size+1+1,1,none⟩=some (cellOf w' ⟨w.heap.size+1+1,1,none⟩)∧w'.frozen? ⟨w.heap.size+1+1,0,none⟩=false∧w'.frozen? ⟨w.heap.size+1+1,1,none⟩=false∧w.grownBy w' none) (first | exact Kept.step (W:=w) [(w.heap.size+1,0,(.slice q m cap')),(w.heap.size+1,1,(.bool true)),(w.heap.size,0,(.slice p n cap)),(w.heap.size,1,(.bool false))] [w.heap.size+1+1] (by assumption) (by assumption) | exact Kept.set (W:=w) [(w.heap.size+1,0,(.slice q m cap')),(w.heap.size+1,1,(.bool true)),(w.heap.size,0,(.slice p n cap)),(w.heap.size,1,(.bool false))] [w.heap.size+1+1] (by simp <;> omega) (by first | omega | (simp <;> omega)) (by assumption) | exact Kept.step [(w.heap.size+1,0,(.slice q m cap')),(w.heap.size+1,1,(.bool true)),(w.heap.size,0,(.slice p n cap)),(w.heap.size,1,(.bool false))] [w.heap.size+1+1] (dl _ _) S0)
  (first | (go_at_call 129;refine (rx (Hy.out.grown (by go_split_ands;assumption)) (Hx.out.grown (by go_split_ands;assumption)) (Nat.le_of_lt Hc.out)).mono ?_;rintro e w' ⟨v,rfl,h,bd,hg⟩;obtain ⟨pv,nv,rfl⟩:=h.slice) | (go_at_call 73;refine (gO _ _ _ _ _).mono ?_;rintro e w' ⟨rfl,hg⟩;replace h:=h.grown hg (.inl rfl)))
 rename_i hend
 go_wp2_with fail
 exact iW (b:=true) results81 rfl rfl hend.2.2.2.2.1 hend.2.2.2.2.2.1 hend.2.2.2.2.2.2.2.2 h (by simp at s1 s2 Sq ⊢ <;> omega) (by simp at s1 s2 Sq ⊢ <;> omega) rfl (rfl) bd
theorem ai.open  (h:ai w v z k):∃(b:Bool) (p:Option Addr) (n cap X:Nat),v = .agg #[.slice p n cap,.bool b]∧cC w (.slice p n cap) X k∧z=sg b X:=by
 obtain ⟨p,cap,h1,h2⟩:=h
 exact ⟨_,p,_,cap,_,h1,h2,(tT z).symm⟩
theorem Wx  (hx:ai w v z i) (hy:ai w u y j) (hi:i+j<=1000000) :
  Calls prog 36 #[v,u] w (eJ w (z*y) (i+j)):=by
 obtain ⟨b,p,n,cap,X,rfl,dx,rfl⟩:=hx.open
 obtain ⟨b',q,m,cap',Y,rfl,dy,rfl⟩:=hy.open
 exact XA dx dy hi
theorem Eh  (hx:ai w v z i) (hy:ai w u y j) (hi:i+j<=1000000) :
  Calls prog 81 #[v,u] w (eJ w (z+y) (i+j+1)):=by
 obtain ⟨b,p,n,cap,X,rfl,dx,rfl⟩:=hx.open
 obtain ⟨b',q,m,cap',Y,rfl,dy,rfl⟩:=hy.open
 cases b <;> cases b'
 ·exact Ev dx dy hi
 ·by_cases hc:Y<=X
  ·exact (XD dx dy hi hc).mono fun _ _ h=>h.of (by simp [sg];omega) (by omega)
  ·exact (XE dx dy hi).mono fun _ _ h=>h.of (by simp [sg];omega) (by omega)
 ·by_cases hc:Y<=X
  ·exact (XB dx dy hi hc).mono fun _ _ h=>h.of (by simp [sg];omega) (by omega)
  ·exact (XC dx dy hi).mono fun _ _ h=>h.of (by simp [sg];omega) (by omega)
 ·exact Ev dx dy hi
set_option maxHeartbeats 2000000 in
theorem XF  (hx:ai w v z i) (hy:ai w u y j) (hi:i+j<=1000000) :
  Calls prog 87 #[v,u] w (eJ w (z-y) (i+j+1)):=by
 have Vx:=hid hx
 have Vy:=hid hy
 obtain ⟨b,p,n,cap,X,rfl,hx',rfl⟩:=hx.open
 obtain ⟨b',q,m,cap',Y,rfl,hy',rfl⟩:=hy.open
 clear hx' hy' hx hy
 have S0:Kept w [(w.heap.size+1,0,(.slice q m cap')),(w.heap.size+1,1,(.bool b')),(w.heap.size,0,(.slice p n cap)),(w.heap.size,1,(.bool b))] [w.heap.size+1+1] (((w.alloc (.cells #[.slice p n cap,.bool b] 61)).alloc (.cells #[.slice q m cap',.bool b'] 61)).alloc (.cells #[.slice none 0 0,.bool false] 61)):=(((Kept.start w).box _ _ _ _ rfl).box _ _ _ _ (by simp)).res _ _ _ _ _ (by simp)
 rw [Int.sub_eq_add_neg]
 go_enter func87,ntmps87
 go_wp2_with fail
 go_region_held3 (fun w'=>w'.cell? ⟨w.heap.size+1,0,none⟩=some ((.slice q m cap'))∧w'.cell? ⟨w.heap.size+1,1,none⟩=some ((.bool b'))∧w'.cell? ⟨w.heap.size,0,none⟩=some ((.slice p n cap))∧w'.cell? ⟨w.heap.size,1,none⟩=some ((.bool b))∧w'.cell? ⟨w.heap.size+1+1,0,none⟩=some (cellOf w' ⟨w.heap.size+1+1,0,none⟩)∧w'.cell? ⟨w.heap.size+1+1,1,none⟩=some (cellOf w' ⟨w.heap.size+1+1,1,none⟩)∧w'.frozen? ⟨w.heap.size+1+1,0,none⟩=false∧w'.frozen? ⟨w.heap.size+1+1,1,none⟩=false∧w.grownBy w' none) (first | exact Kept.step (W:=w) [(w.heap.size+1,0,(.slice q m cap')),(w.heap.size+1,1,(.bool b')),(w.heap.size,0,(.slice p n cap)),(w.heap.size,1,(.bool b))] [w.heap.size+1+1] (by assumption) (by assumption) | exact Kept.set (W:=w) [(w.heap.size+1,0,(.slice q m cap')),(w.heap.size+1,1,(.bool b')),(w.heap.size,0,(.slice p n cap)),(w.heap.size,1,(.bool b))] [w.heap.size+1+1] (by simp <;> omega) (by first | omega | (simp <;> omega)) (by assumption) | exact Kept.step [(w.heap.size+1,0,(.slice q m cap')),(w.heap.size+1,1,(.bool b')),(w.heap.size,0,(.slice p n cap)),(w.heap.size,1,(.bool b))] [w.heap.size+1+1] (dl _ _) S0)
  (first | (go_at_call 106;refine (Ej (Vy.out.grown (by go_split_ands;assumption))).mono ?_;rintro e w' ⟨v,rfl,hn,hg⟩) | (go_at_call 81;refine (Eh (Vx.out.grown (by go_split_ands;assumption)) hn hi).mono ?_;have hsz:=hg.size;rintro e w' ⟨v,rfl,h,bd,hg⟩;obtain ⟨pv,nv,rfl,h2⟩:=id h))
 rename_i hend
 go_wp2_with fail
 exact Xy results87 rfl rfl hend.2.2.2.2.1 hend.2.2.2.2.2.1 hend.2.2.2.2.2.2.2.2 h (by simp at hsz;omega) (by simp at hsz;omega) bd
theorem XG (z y:Int):dG (z-y) 0=dG z y:=by
 unfold dG
 split <;> split <;> (try split) <;> (try split) <;> omega
set_option maxHeartbeats 1000000 in
theorem RF {i:Nat} (r:Int) (hx:ai w v z i) (hy:ai w u y j) (hi:i+j<=1000000) (hr:dG z y=r) :
  Calls prog 49 #[v,u] w fun e w'=>e = .returned (.int .i64 r)∧w.grownBy w' none:=by
 subst hr
 rw [<- XG]
 have Vx:=hid hx
 have Vy:=hid hy
 obtain ⟨b,p,n,cap,X,rfl,hx',rfl⟩:=hx.open
 obtain ⟨b',q,m,cap',Y,rfl,hy',rfl⟩:=hy.open
 clear hx' hy' hx hy
 have S0:Kept w [(w.heap.size+1,0,(.slice q m cap')),(w.heap.size+1,1,(.bool b')),(w.heap.size,0,(.slice p n cap)),(w.heap.size,1,(.bool b))] [] ((w.alloc (.cells #[.slice p n cap,.bool b] 61)).alloc (.cells #[.slice q m cap',.bool b'] 61)):=((Kept.start w).box _ _ _ _ rfl).box _ _ _ _ (by simp)
 go_enter func49,ntmps49
 go_wp2_with fail
 refine (XF (Vx.out.grown (Kept.all _ _ S0)) (Vy.out.grown (Kept.all _ _ S0)) hi).mono ?_
 rintro e w1 ⟨v,rfl,h,bd,hg⟩
 have Hv:=hid (h.Ee bd)
 have G:=hid (aR (Kept.all _ _ S0) hg)
 clear S0 hg h bd
 go_wp2_with fail
 refine (Xz Hv.out).mono ?_
 rintro e w2 ⟨rfl,hg⟩
 have G2:=hid (aR G.out hg)
 clear hg
 go_wp2_with fail
 go_ret
 exact ⟨rfl,G2.out⟩
theorem Ew  (h:X<18446744073709551616:=by omega):Bd X 2:=by unfold Bd;omega
theorem Ey  (h:m<9223372036854775809:=by omega):(am 10000 m).length<=5:=gl (by omega) 5 m (by omega)
theorem Ez (l:List Nat) (h:0<m):l ++ am 10000 m=(l ++ [m % 10000]) ++ am 10000 (m / 10000):=by
 rw [ik (by omega) h];simp
set_option maxHeartbeats 2000000 in
theorem XH (N:Nat) (w:World) (hN:N<=9223372036854775807:=by omega) :
  Calls prog 34 #[.int .i64 (N:Int)] w (eJ w ((N:Int)) 2):=by
 obtain ⟨i0,hi,hz0,hz1,hz2⟩:=info_parts Tryz.infoI
 have S0:Kept w [] [w.heap.size] (w.alloc (.cells #[.slice none 0 0,.bool false] 61)):=(Kept.start w).res _ _ _ _ _ rfl
 have hq:((N:Int) == (-9223372036854775808:Int))=false:=by
  rw [beq_eq_false_iff_ne]
  omega
 have NL:=hid (Ey (m:=N))
 go_enter func34,ntmps34
 go_wp2_with fail
 generalize w.alloc (.cells #[.slice none 0 0,.bool false] 61)=W1 at *
 have Hs:=S0.size
 have Hl:=S0.lt (g:=w.heap.size) (by simp)
 go_loopw [0,4] (fun nv ov wr=>∃(m:Nat) (l:List Nat),m<=N∧nv = .int .i64 m∧Hid (am 10000 N=l ++ am 10000 m)∧Own wr 3 .i64 W1.heap.size ov l∧W1.grownBy wr none) (fun nv _ _=>(intOf nv).toNat)
 case atStart=>exact ⟨N,[],Nat.le_refl _,by go_num,rfl,Own.nil _ _ _ _,bt _ _⟩
 case round=>
  obtain ⟨m,l,hm,rfl,hd,ho,gr⟩:=hrel
  obtain ⟨op,el,rfl⟩:=ho.slice
  have Ho:=hid ho
  have Gr:=hid gr
  clear ho gr
  by_cases h0:m=0
  ·subst h0
   have hd':=hd.out
   rw [iM,List.append_nil] at hd'
   subst hd'
   clear hd
   go_wp2_with fail
   refine (gO _ _ _ _ _).mono ?_
   rintro e w2 ⟨rfl,hg⟩
   have h:=Ho.out.grown hg (.inl rfl)
   replace S0:=S0.grown _ _ (aR Gr.out hg)
   clear hg
   obtain ⟨r0,r1,f0,f1,G⟩:=id S0
   go_wp2_with fail
   exact iW (b:=false) results34 rfl rfl (dW r0) (dY r1) (Kept.all _ _ (Kept.set _ _ (by simp) (Nat.le_refl _) S0)) h Hs Hl rfl rfl (Ew)
  ·have hp:0<m:=by omega
   have Hd2:=hid (show _=_ from hd.out.trans (Ez l hp))
   have Lz:=hid (show l.length<=5 by
    have:=NL.out
    rw [hd.out,List.length_append] at this
    omega)
   clear hd
   have hp':(0:Int)<(m:Int):=by omega
   go_wp2_with (at_builtin;refine ir rfl _ _ 59 rfl 3 i0 (.int .i64 0) .i64 underlying59 hi hz0 hz1 rfl W1.heap.size (.slice op l.length el) l (m % 10000) rfl (Ho.out.grown (bg _ _ none) (.inl rfl)) wr.heap.size rfl ?c1 (by have:=Lz.out;omega) (by have:=Gr.out.size;simp;omega) ?_;(case c1=>exact (World.cell?_alloc_at _ _ _ _ rfl).trans (by simp;try omega));intro v' w3 ho3 g3;have du:=hid ho3;have G3:=hid (iQ (v:=.slice op l.length el) g3 (Ho.out.grown (bg _ _ none) (.inl rfl)) (aR Gr.out (bg _ _ _)));clear ho3 g3)
   go_roundw
   case rel=>exact ⟨m / 10000,l ++ [m % 10000],by omega,by go_num,Hd2.out,du.out,G3.out⟩
   case measure=>simp [intOf];omega
set_option maxHeartbeats 2000000 in
theorem XI (N:Nat) (w:World) (hN:N<=9223372036854775807:=by omega) (h0:0<N:=by omega) :
  Calls prog 34 #[.int .i64 (-(N:Int))] w (eJ w ((-(N:Int))) 2):=by
 obtain ⟨i0,hi,hz0,hz1,hz2⟩:=info_parts Tryz.infoI
 have S0:Kept w [] [w.heap.size] (w.alloc (.cells #[.slice none 0 0,.bool false] 61)):=(Kept.start w).res _ _ _ _ _ rfl
 have hq:((-(N:Int)) == (-9223372036854775808:Int))=false:=by
  rw [beq_eq_false_iff_ne]
  omega
 have NL:=hid (Ey (m:=N))
 go_enter func34,ntmps34
 go_wp2_with fail
 generalize w.alloc (.cells #[.slice none 0 0,.bool false] 61)=W1 at *
 have Hs:=S0.size
 have Hl:=S0.lt (g:=w.heap.size) (by simp)
 go_loopw [0,4] (fun nv ov wr=>∃(m:Nat) (l:List Nat),m<=N∧nv = .int .i64 m∧Hid (am 10000 N=l ++ am 10000 m)∧Own wr 3 .i64 W1.heap.size ov l∧W1.grownBy wr none) (fun nv _ _=>(intOf nv).toNat)
 case atStart=>exact ⟨N,[],Nat.le_refl _,by go_num,rfl,Own.nil _ _ _ _,bt _ _⟩
 case round=>
  obtain ⟨m,l,hm,rfl,hd,ho,gr⟩:=hrel
  obtain ⟨op,el,rfl⟩:=ho.slice
  have Ho:=hid ho
  have Gr:=hid gr
  clear ho gr
  by_cases h0:m=0
  ·subst h0
   have hd':=hd.out
   rw [iM,List.append_nil] at hd'
   subst hd'
   clear hd
   go_wp2_with fail
   refine (gO _ _ _ _ _).mono ?_
   rintro e w2 ⟨rfl,hg⟩
   have h:=Ho.out.grown hg (.inl rfl)
   replace S0:=S0.grown _ _ (aR Gr.out hg)
   clear hg
   obtain ⟨r0,r1,f0,f1,G⟩:=id S0
   go_wp2_with fail
   exact iW (b:=true) results34 rfl rfl (dW r0) (dY r1) (Kept.all _ _ (Kept.set _ _ (by simp) (Nat.le_refl _) S0)) h Hs Hl rfl rfl (Ew)
  ·have hp:0<m:=by omega
   have Hd2:=hid (show _=_ from hd.out.trans (Ez l hp))
   have Lz:=hid (show l.length<=5 by
    have:=NL.out
    rw [hd.out,List.length_append] at this
    omega)
   clear hd
   have hp':(0:Int)<(m:Int):=by omega
   go_wp2_with (at_builtin;refine ir rfl _ _ 59 rfl 3 i0 (.int .i64 0) .i64 underlying59 hi hz0 hz1 rfl W1.heap.size (.slice op l.length el) l (m % 10000) rfl (Ho.out.grown (bg _ _ none) (.inl rfl)) wr.heap.size rfl ?c1 (by have:=Lz.out;omega) (by have:=Gr.out.size;simp;omega) ?_;(case c1=>exact (World.cell?_alloc_at _ _ _ _ rfl).trans (by simp;try omega));intro v' w3 ho3 g3;have du:=hid ho3;have G3:=hid (iQ (v:=.slice op l.length el) g3 (Ho.out.grown (bg _ _ none) (.inl rfl)) (aR Gr.out (bg _ _ _)));clear ho3 g3)
   go_roundw
   case rel=>exact ⟨m / 10000,l ++ [m % 10000],by omega,by go_num,Hd2.out,du.out,G3.out⟩
   case measure=>simp [intOf];omega
set_option maxHeartbeats 1000000 in
theorem XJ (w:World):Calls prog 34 #[.int .i64 (-9223372036854775808)] w (eJ w (-9223372036854775808) 2):=by
 have S0:Kept w [] [w.heap.size] (w.alloc (.cells #[.slice none 0 0,.bool false] 61)):=(Kept.start w).res _ _ _ _ _ rfl
 have hz:sg true (2 ^ 63) = -9223372036854775808:=by simp [sg]
 go_enter func34,ntmps34
 go_wp2_with fail
 have S1:=S0
 refine (Xw 63 2).mono ?_
 rintro e w1 ⟨v,rfl,h,bd,hg⟩
 obtain ⟨pv,nv,rfl⟩:=h.slice
 replace S0:=S0.grown _ _ hg
 clear hg
 generalize hP:(2:Nat) ^ 63=P at *
 go_wp2_with fail
 refine (gO _ _ _ _ _).mono ?_
 rintro e w2 ⟨rfl,hg⟩
 replace h:=h.grown hg (.inl rfl)
 replace S0:=S0.grown _ _ hg
 clear hg
 obtain ⟨r0,r1,f0,f1,G⟩:=id S0
 go_wp2_with fail
 exact iW (b:=true) results34 rfl rfl (dW r0) (dY r1) (Kept.all _ _ (Kept.set _ _ (by simp) (Nat.le_refl _) S0)) h S1.size (S1.lt (by simp)) rfl hz bd
theorem Wz (z:Int) (w:World) (h1 : -9223372036854775808<=z) (h2:z<=9223372036854775807):Calls prog 34 #[.int .i64 z] w (eJ w z 2):=by
 by_cases h3:z = -9223372036854775808
 ·subst h3
  exact XJ w
 ·rcases Int.lt_or_le z 0 with h | h
  ·obtain ⟨N,rfl⟩:∃N:Nat,z = -(N:Int):=⟨z.natAbs,by omega⟩
   exact XI N w
  ·obtain ⟨N,rfl⟩:∃N:Nat,z=(N:Int):=⟨z.natAbs,by omega⟩
   exact XH N w
def gg (w:World) (v:Value) (z:Int):Prop:=∃p cap,v = .agg #[.bool (decide (z<0)),.slice p (am 4294967296 z.natAbs).length cap]∧Sl w .u32 (.slice p (am 4294967296 z.natAbs).length cap) (am 4294967296 z.natAbs)
theorem gg.grown  (h:gg w v z) (g:w.grownBy w' none):gg w' v z:=by
 obtain ⟨p,cap,h1,h2⟩:=h
 exact ⟨p,cap,h1,h2.grown g (.inl rfl)⟩
theorem fl.nor  (h:fl w B v z):gg w v z:=by
 obtain ⟨p,cap,h1,h2⟩:=h
 exact ⟨p,cap,h1,h2.sl⟩
theorem gg.AG  (h:gg w v z) (hb:Bd z.natAbs k):aF w v z k:=by
 obtain ⟨p,cap,h1,h2⟩:=h
 exact ⟨_,_,_,h1,(show gG w _ _ _ from ⟨h2,hb⟩).num,(tT z).symm⟩
set_option maxHeartbeats 2000000 in
theorem XK {k:Nat} (hx:ai w v z k) (hk:k<=1000000) (hu:gg w u z) :
  Calls prog 48 #[v,u] w (ud w true):=by
 obtain ⟨p,cap,rfl,hx⟩:=hx
 obtain ⟨q,cap',rfl,hu⟩:=hu
 have S0:Kept w [(w.heap.size+1,0,(.bool (decide (z<0)))),(w.heap.size+1,1,(.slice q (am 4294967296 z.natAbs).length cap')),(w.heap.size,0,(.slice p (am 10000 z.natAbs).length cap)),(w.heap.size,1,(.bool (decide (z<0))))] [] ((w.alloc (.cells #[.slice p (am 10000 z.natAbs).length cap,.bool (decide (z<0))] 61)).alloc (.cells #[.bool (decide (z<0)),.slice q (am 4294967296 z.natAbs).length cap'] 27)):=((Kept.start w).box _ _ _ _ rfl).box _ _ _ _ (by simp)
 have Hx:=hid hx
 have Hu:=hid hu
 clear hx hu
 go_enter func48,ntmps48
 go_wp2_with fail
 refine (En (Hx.out.grown (Kept.all _ _ S0)).1 (by have:=Hx.out.len;omega)).mono ?_
 rintro e w1 ⟨v,rfl,h,hg⟩
 obtain ⟨pv,nv,rfl⟩:=h.slice
 replace S0:=S0.grown _ _ hg
 obtain ⟨p1,cp1,e1,m1,m2,h3⟩:=h.sl
 have hu1:=Hu.out.grown (Kept.all _ _ S0) (.inl rfl)
 obtain ⟨p2,cp2,e2,-,-,h4⟩:=hu1
 simp only [Value.slice.injEq,true_and] at e1 e2
 obtain ⟨rfl,rfl⟩:=e1
 obtain ⟨rfl,rfl⟩:=e2
 clear hg h Hu Hx
 generalize am 4294967296 z.natAbs=l at *
 obtain ⟨n,hn⟩:∃n,l.length=n:=⟨_,rfl⟩
 have Hn:=hid hn
 rw [hn] at S0 m1 ⊢
 have nb:n<=9223372036854775807:=by omega
 clear hn m1 m2
 have hln:(decide (z<0) != decide (z<0))=false:=by simp
 obtain ⟨c0,c1,c2,c3,G⟩:=id S0
 have G1:=hid G
 clear G S0
 go_wp2_with fail
 go_loopw [25] (fun iv wr=>∃(i d:Nat),i<=n∧iv = .int .i64 i∧wr=w1.drewN d) (fun iv _=>(n-(intOf iv).toNat))
 case atStart=>exact ⟨0,0,by omega,rfl,rfl⟩
 case round=>
  obtain ⟨i,d,hi,rfl,rfl⟩:=hrel
  by_cases hlt:i<n
  ·rcases h3 with h3 | ⟨b1,o1,rfl,hb1,hy1⟩
   ·have:=Hn.out;rw [h3] at this;simp at this;omega
   rcases h4 with h4 | ⟨b2,o2,rfl,hb2,hy2⟩
   ·have:=Hn.out;rw [h4] at this;simp at this;omega
   have d1:=hy1 i (by rw [Hn.out];omega)
   have d2:=hy2 i (by rw [Hn.out];omega)
   clear hy1 hy2
   have i1:(i:Int)<(n:Int):=by omega
   have hb:(((nth l i:Nat):Int) != ((nth l i:Nat):Int))=false:=by simp
   go_wp2
   go_quiet (fail)
   go_wp2
   go_roundw
   case rel=>exact ⟨i+1,_,by omega,by go_num,rfl⟩
   case measure=>simp [intOf];omega
  ·obtain rfl:i=n:=by omega
   clear h3 h4
   go_wp2
   go_ret
   exact ⟨rfl,aR G1.out (ic _ _ _)⟩
theorem XL  (hn:n<=cap) :
  Calls prog 130 #[.slice p n cap,.int .i64 k] w fun e w'=>e = .returned (.slice p (min n k) cap)∧w.grownBy w' none:=
 (Oi hn).mono fun _ _ ⟨h1,h2⟩=>⟨h1,h2▸bt _ _⟩
set_option maxHeartbeats 1000000 in
theorem XM {xs:List Nat} (k:Nat) (h1:xs.length<=cap) (hn:(xs.take k).length=n) :
  Calls prog 83 #[.agg #[.bool b,.slice p xs.length cap],.int .i64 k] w fun e w'=>e = .returned (.agg #[.bool b,.slice p n cap])∧w.grownBy w' none:=by
 have S0:Kept w [(w.heap.size,0,.bool b),(w.heap.size,1,.slice p xs.length cap)] [w.heap.size+1] ((w.alloc (.cells #[.bool b,.slice p xs.length cap] 27)).alloc (.cells #[.bool false,.slice none 0 0] 27)):=((Kept.start w).box _ _ _ _ rfl).res _ _ _ _ _ (by simp)
 have Hm:=hid (show min xs.length k=n by rw [<- hn,List.length_take,Nat.min_comm])
 clear hn
 go_enter func83,ntmps83
 go_wp2_with fail
 go_region_held3 (fun w'=>w'.cell? ⟨w.heap.size,0,none⟩=some (.bool b)∧w'.cell? ⟨w.heap.size,1,none⟩=some (.slice p xs.length cap)∧w'.cell? ⟨w.heap.size+1,0,none⟩=some (cellOf w' ⟨w.heap.size+1,0,none⟩)∧w'.cell? ⟨w.heap.size+1,1,none⟩=some (cellOf w' ⟨w.heap.size+1,1,none⟩)∧w'.frozen? ⟨w.heap.size+1,0,none⟩=false∧w'.frozen? ⟨w.heap.size+1,1,none⟩=false∧w.grownBy w' none) (first | exact Kept.step (W:=w) [(w.heap.size,0,.bool b),(w.heap.size,1,.slice p xs.length cap)] [w.heap.size+1] (by assumption) (by assumption) | exact Kept.set (W:=w) [(w.heap.size,0,.bool b),(w.heap.size,1,.slice p xs.length cap)] [w.heap.size+1] (by simp <;> omega) (by first | omega | (simp <;> omega)) (by assumption) | exact Kept.step [(w.heap.size,0,.bool b),(w.heap.size,1,.slice p xs.length cap)] [w.heap.size+1] (dl _ _) S0)
  (first | (go_at_call 130;refine (XL h1).mono ?_;rintro e w' ⟨rfl,hg⟩))
 rename_i hend
 go_wp2_with fail
 refine tR results83 rfl rfl (nM hend.2.2.1) (nO hend.2.2.2.1) ⟨?_,hend.2.2.2.2.2.2⟩
 rw [Hm.out]
theorem WG  (hx:ai w v z k) :
  Calls prog 38 #[v] w fun e w'=>e = .returned (.bool (decide (z=0)))∧w.grownBy w' none:=by
 have bx:=hx.bd
 obtain ⟨p,cap,rfl,hx⟩:=hx
 have Hx:=hid hx
 clear hx
 clear bx Hx
 have e:((((am 10000 z.natAbs).length:Nat):Int) == 0)=decide (z=0):=by
  have:=fz (b:=10000) (n:=z.natAbs)
  rw [Bool.eq_iff_iff,beq_iff_eq,decide_eq_true_eq]
  omega
 generalize (am 10000 z.natAbs).length=l at *
 go_enter func38,ntmps38
 go_wp2_with fail
 go_ret
 refine ⟨?_,bg _ _ _⟩
 simp_all
end Go.Proofs.YtbjfgffibepmkaaGreat
