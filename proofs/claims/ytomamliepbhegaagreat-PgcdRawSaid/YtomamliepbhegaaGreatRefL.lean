/- The reference's whole nu -/
import Derived.Test.YtomamliepbhegaaGreatIntA
set_option maxRecDepth 100000
namespace Go.Proofs.YtomamliepbhegaaGreat
open Go.Proofs.Tryz
open Lib (hid)
open Go.RowKit
variable {W w w':World}{u v x:Value}{y z:Int}{B X Y cap cap' g i j k m n r:Nat}{fn:Func}{a:Act}{b:Bool}{p q:Option Addr}
def af (w:World) (v:Value) (z:Int) (k:Nat):Prop:=∃p cap,v = .agg #[.slice p (an 10000 z.natAbs).length cap,.bool (decide (z<0))]∧cF w (.slice p (an 10000 z.natAbs).length cap) z.natAbs k
theorem af.grown  (h:af w v z k) (g:w.grownBy w' none):af w' v z k:=by
 obtain ⟨p,cap,h1,h2⟩:=h
 exact ⟨p,cap,h1,h2.grown g⟩
theorem af.bd  (h:af w v z k):Bd z.natAbs k:=by
 obtain ⟨p,cap,h1,h2⟩:=h
 exact h2.2
def nj (w:World) (B:Nat) (v:Value) (z:Int):Prop:=∃p cap,v = .agg #[.slice p (an 10000 z.natAbs).length cap,.bool (decide (z<0))]∧Own w 3 .i64 B (.slice p (an 10000 z.natAbs).length cap) (an 10000 z.natAbs)
theorem nj.grown  (h:nj w B v z) (g:w.grownBy w' none):nj w' B v z:=by
 obtain ⟨p,cap,h1,h2⟩:=h
 exact ⟨p,cap,h1,h2.grown g (.inl rfl)⟩
theorem nj.JC  (h:nj w B v z) (hb:Bd z.natAbs k):af w v z k:=by
 obtain ⟨p,cap,h1,h2⟩:=h
 exact ⟨p,cap,h1,h2.sl,hb⟩
def eT (w:World) (z:Int) (k:Nat) (e:Ending) (w':World):Prop:=∃v,e = .returned v∧nj w' w.heap.size v z∧Bd z.natAbs k∧w.grownBy w' none
theorem eT.of {l:Nat}{e:Ending} (h:eT w z k e w') (hz:z=y) (hk:k<=l):eT w y l e w':=by
 subst hz
 obtain ⟨v,h1,h2,h3,h4⟩:=h
 exact ⟨v,h1,h2,h3.more hk,h4⟩
theorem iP (b:Bool) (p:Option Addr) (n cap:Nat) (w:World) :
  Calls prog 70 #[.slice p n cap,.bool b] w fun e w'=>e = .returned (.agg #[.slice p n cap,.bool (b && decide (0<n))])∧w.grownBy w' none:=by
 go_enter func70,ntmps70
 cases b
 all_goals
  go_wp2_with fail
  simp [bodyPost,results,results70,go_sem]
  exact aU _ _ _
theorem adA  (hx:Num w v X k) (hk:k<=1000000):Calls prog 71 #[v] w (iO w X k):=by
 have b:=hx.bd
 obtain ⟨xs,h1,h2,rfl,h3⟩:=hx
 exact (ac6 h1 h2).mono fun _ _ h=>iO.of h b
theorem kr {y:Value} (hres:fn.results = #[ResultVar.cell r 42]) (hd:a.defers = []) (hr:a.tmps[r]?=some (.pointer (some ⟨g,0,none⟩)))
  (h0:(set2 w g (.slice p n cap) (.bool (b && decide (0<n)))).cell? ⟨g,0,none⟩=some x) (h1:(set2 w g (.slice p n cap) (.bool (b && decide (0<n)))).cell? ⟨g,1,none⟩=some y)
  (hG:W.grownBy (set2 w g (.slice p n cap) (.bool (b && decide (0<n)))) none)
  (ho:Own w 3 .i64 B (.slice p n cap) (an 10000 X)) (hB:W.heap.size<=B) (hg:g<B) (hn:(an 10000 X).length=n) (hz:sg b X=z) (hb:Bd X k) :
  bodyPost prog fn (eT W z k) .ret a (set2 w g (.slice p n cap) (.bool (b && decide (0<n)))):=by
 subst hz hn
 refine sK hres hd hr (qc h0) (qe h1) ⟨_,rfl,⟨p,cap,?_,?_⟩,by rw [eK];exact hb,hG⟩
 ·rw [oh,eK,mN _ _]
 ·rw [eK]
  exact ((ho.mono hB).grown (iD _ _ _ _) (own_ne ho hg))
theorem adB {y:Value} (hres:fn.results = #[ResultVar.cell r 42]) (hd:a.defers = []) (hr:a.tmps[r]?=some (.pointer (some ⟨g,0,none⟩)))
  (h0:(set2 w g u v).cell? ⟨g,0,none⟩=some x) (h1:(set2 w g u v).cell? ⟨g,1,none⟩=some y) (hG:W.grownBy (set2 w g u v) none)
  (ho:nj w B (.agg #[u,v]) z) (hB:W.heap.size<=B) (hg:g<B) (hb:Bd z.natAbs k):bodyPost prog fn (eT W z k) .ret a (set2 w g u v):=by
 refine sK hres hd hr (qc h0) (qe h1) ⟨_,rfl,?_,hb,hG⟩
 obtain ⟨p,cap,h2,h3⟩:=ho
 refine ⟨p,cap,h2,?_⟩
 simp only [Value.agg.injEq,Array.mk.injEq,List.cons.injEq,and_true] at h2
 obtain ⟨rfl,-⟩:=h2
 exact ((h3.mono hB).grown (iD _ _ _ _) (own_ne h3 hg))
set_option maxHeartbeats 1000000 in
theorem acT  (hx:aE w v z k) (hk:k<=1000000) :
  Calls prog 39 #[v] w (eT w z k):=by
 obtain ⟨b,s,X,rfl,hx,rfl⟩:=hx
 obtain ⟨p,n,cap,rfl⟩:=hx.slice
 have Hx:=hid hx
 clear hx
 have S0:Kept w [(w.heap.size,0,.bool b),(w.heap.size,1,.slice p n cap)] [w.heap.size+1] ((w.alloc (.cells #[.bool b,.slice p n cap] 57)).alloc (.cells #[.slice none 0 0,.bool false] 42)):=((Kept.start w).box _ _ _ _ rfl).res _ _ _ _ _ (by simp)
 go_enter func39,ntmps39
 go_wp2_with fail
 go_region_held3 (fun w'=>w'.cell? ⟨w.heap.size,0,none⟩=some (.bool b)∧w'.cell? ⟨w.heap.size,1,none⟩=some (.slice p n cap)∧w'.cell? ⟨w.heap.size+1,0,none⟩=some (cellOf w' ⟨w.heap.size+1,0,none⟩)∧w'.cell? ⟨w.heap.size+1,1,none⟩=some (cellOf w' ⟨w.heap.size+1,1,none⟩)∧w'.frozen? ⟨w.heap.size+1,0,none⟩=false∧w'.frozen? ⟨w.heap.size+1,1,none⟩=false∧w.grownBy w' none) (first | exact Kept.step (W:=w) [(w.heap.size,0,.bool b),(w.heap.size,1,.slice p n cap)] [w.heap.size+1] (by assumption) (by assumption) | exact Kept.set (W:=w) [(w.heap.size,0,.bool b),(w.heap.size,1,.slice p n cap)] [w.heap.size+1] (by simp <;> omega) (by first | omega | (simp <;> omega)) (by assumption) | exact Kept.step [(w.heap.size,0,.bool b),(w.heap.size,1,.slice p n cap)] [w.heap.size+1] (dC _ _) S0)
  (first | (go_at_call 71;refine (adA (Hx.out.grown (by go_split_ands;assumption)) hk).mono ?_;rintro e w' ⟨v,rfl,h,bd,hg⟩;obtain ⟨pv,nv,rfl⟩:=h.slice) | (go_at_call 70;refine (iP _ _ _ _ _).mono ?_;rintro e w' ⟨rfl,hg⟩;replace h:=h.grown hg (.inl rfl)))
 rename_i hend
 go_wp2_with fail
 exact kr results39 rfl rfl hend.2.2.1 hend.2.2.2.1 hend.2.2.2.2.2.2 h (by first | omega | (simp <;> omega)) (by first | omega | (simp <;> omega)) rfl rfl bd
set_option maxHeartbeats 1000000 in
theorem acV  (hx:af w v z k) (hk:k<=1000000) :
  Calls prog 30 #[v] w (eJ w z k):=by
 have bx:=hx.bd
 obtain ⟨p,cap,rfl,hx⟩:=hx
 have Hx:=hid hx
 clear hx
 have S0:Kept w [(w.heap.size,0,.slice p (an 10000 z.natAbs).length cap),(w.heap.size,1,.bool (decide (z<0)))] [w.heap.size+1] ((w.alloc (.cells #[.slice p (an 10000 z.natAbs).length cap,.bool (decide (z<0))] 42)).alloc (.cells #[.bool false,.slice none 0 0] 57)):=((Kept.start w).box _ _ _ _ rfl).res _ _ _ _ _ (by simp)
 go_enter func30,ntmps30
 go_wp2_with fail
 go_region_held3 (fun w'=>w'.cell? ⟨w.heap.size,0,none⟩=some (.slice p (an 10000 z.natAbs).length cap)∧w'.cell? ⟨w.heap.size,1,none⟩=some (.bool (decide (z<0)))∧w'.cell? ⟨w.heap.size+1,0,none⟩=some (cellOf w' ⟨w.heap.size+1,0,none⟩)∧w'.cell? ⟨w.heap.size+1,1,none⟩=some (cellOf w' ⟨w.heap.size+1,1,none⟩)∧w'.frozen? ⟨w.heap.size+1,0,none⟩=false∧w'.frozen? ⟨w.heap.size+1,1,none⟩=false∧w.grownBy w' none) (first | exact Kept.step (W:=w) [(w.heap.size,0,.slice p (an 10000 z.natAbs).length cap),(w.heap.size,1,.bool (decide (z<0)))] [w.heap.size+1] (by assumption) (by assumption) | exact Kept.set (W:=w) [(w.heap.size,0,.slice p (an 10000 z.natAbs).length cap),(w.heap.size,1,.bool (decide (z<0)))] [w.heap.size+1] (by simp <;> omega) (by first | omega | (simp <;> omega)) (by assumption) | exact Kept.step [(w.heap.size,0,.slice p (an 10000 z.natAbs).length cap),(w.heap.size,1,.bool (decide (z<0)))] [w.heap.size+1] (dC _ _) S0)
  (first | (go_at_call 58;refine (JL (Hx.out.grown (by go_split_ands;assumption)).1 (by have:=Hx.out.len;omega)).mono ?_;rintro e w' ⟨v,rfl,h,hg⟩;obtain ⟨pv,nv,rfl⟩:=h.slice))
 rename_i hend
 go_wp2_with fail
 exact sM results30 rfl rfl hend.2.2.1 hend.2.2.2.1 hend.2.2.2.2.2.2 ⟨_,_,rfl,h⟩ (by first | omega | (simp <;> omega)) (by first | omega | (simp <;> omega)) bx
set_option maxHeartbeats 1000000 in
theorem JH  (hx:af w v z k) :
  Calls prog 59 #[v] w fun e w'=>∃v,e = .returned v∧af w' v (-z) k∧w.grownBy w' none:=by
 have bx:=hx.bd
 obtain ⟨p,cap,rfl,hx⟩:=hx
 have Hx:=hid hx
 clear hx
 clear bx
 have S0:Kept w [(w.heap.size,0,.slice p (an 10000 z.natAbs).length cap),(w.heap.size,1,.bool (decide (z<0)))] [w.heap.size+1] ((w.alloc (.cells #[.slice p (an 10000 z.natAbs).length cap,.bool (decide (z<0))] 42)).alloc (.cells #[.slice none 0 0,.bool false] 42)):=((Kept.start w).box _ _ _ _ rfl).res _ _ _ _ _ (by simp)
 go_enter func59,ntmps59
 go_wp2_with fail
 refine (iP _ _ _ _ _).mono ?_
 rintro e w1 ⟨rfl,hg⟩
 replace S0:=Kept.grown _ _ S0 hg
 clear hg
 obtain ⟨c0,c1,r0,r1,f0,f1,G⟩:=id S0
 go_wp2_with fail
 have G2:=Kept.all _ _ (Kept.set (g:=w.heap.size+1) (u:=.slice p (an 10000 z.natAbs).length cap) (v:=.bool (!decide (z<0) && decide (0<(an 10000 z.natAbs).length))) _ _ (by simp <;> omega) (by omega) S0)
 refine sK results59 rfl rfl (dP r0) (dQ r1) ⟨_,rfl,⟨p,cap,?_,?_⟩,G2⟩
 ·rw [Int.natAbs_neg,mN _ _]
  congr 5
  rw [Bool.eq_iff_iff]
  simp
  omega
 ·rw [Int.natAbs_neg]
  exact Hx.out.grown G2
theorem adC  (hx:af w v z k) :
  Calls prog 88 #[v] w fun e w'=>e = .returned (.int .i64 (dJ z 0))∧w.grownBy w' none:=by
 have bx:=hx.bd
 obtain ⟨p,cap,rfl,hx⟩:=hx
 have Hx:=hid hx
 clear hx
 clear bx Hx
 have hl:=fO (b:=10000) (n:=z.natAbs)
 generalize (an 10000 z.natAbs).length=l at *
 by_cases h0:z=0
 ·obtain rfl:l=0:=by omega
  subst h0
  go_enter func88,ntmps88
  go_wp2_with fail
  go_ret
  exact ⟨rfl,aU _ _ _⟩
 ·have hl':(l:Int)≠0:=by omega
  by_cases hn:z<0
  ·rw [dJ,if_pos hn,decide_eq_true hn]
   clear hl
   go_enter func88,ntmps88
   go_wp2_with fail
   go_ret
   exact ⟨rfl,aU _ _ _⟩
  ·rw [dJ,if_neg hn,if_neg h0,decide_eq_false hn]
   clear hl
   go_enter func88,ntmps88
   go_wp2_with fail
   go_ret
   exact ⟨rfl,aU _ _ _⟩
set_option maxHeartbeats 2000000 in
theorem adD {b':Bool} (hx:cF w (.slice p n cap) X i) (hy:cF w (.slice q m cap') Y j) (hi:i+j<=1000000) :
  Calls prog 46 #[.agg #[.slice p n cap,.bool b],.agg #[.slice q m cap',.bool b']] w (eT w (sg b X*sg b' Y) (i+j)):=by
 have Hx:=hid hx
 have Hy:=hid hy
 have S0:Kept w [(w.heap.size+1,0,(.slice q m cap')),(w.heap.size+1,1,(.bool b')),(w.heap.size,0,(.slice p n cap)),(w.heap.size,1,(.bool b))] [w.heap.size+1+1] (((w.alloc (.cells #[.slice p n cap,.bool b] 42)).alloc (.cells #[.slice q m cap',.bool b'] 42)).alloc (.cells #[.slice none 0 0,.bool false] 42)):=(((Kept.start w).box _ _ _ _ rfl).box _ _ _ _ (by simp)).res _ _ _ _ _ (by simp)
 clear hx hy
 go_enter func46,ntmps46
 go_wp2_with fail
 go_region_held3 (fun w'=>w'.cell? ⟨w.heap.size+1,0,none⟩=some ((.slice q m cap'))∧w'.cell? ⟨w.heap.size+1,1,none⟩=some ((.bool b'))∧w'.cell? ⟨w.heap.size,0,none⟩=some ((.slice p n cap))∧w'.cell? ⟨w.heap.size,1,none⟩=some ((.bool b))∧w'.cell? ⟨w.heap.size+1+1,0,none⟩=some (cellOf w' ⟨w.heap.size+1+1,0,none⟩)∧w'.cell? ⟨w.heap.size+1+1,1,none⟩=some (cellOf w' ⟨w.heap.size+1+1,1,none⟩)∧w'.frozen? ⟨w.heap.size+1+1,0,none⟩=false∧w'.frozen? ⟨w.heap.size+1+1,1,none⟩=false∧w.grownBy w' none) (first | exact Kept.step (W:=w) [(w.heap.size+1,0,(.slice q m cap')),(w.heap.size+1,1,(.bool b')),(w.heap.size,0,(.slice p n cap)),(w.heap.size,1,(.bool b))] [w.heap.size+1+1] (by assumption) (by assumption) | exact Kept.set (W:=w) [(w.heap.size+1,0,(.slice q m cap')),(w.heap.size+1,1,(.bool b')),(w.heap.size,0,(.slice p n cap)),(w.heap.size,1,(.bool b))] [w.heap.size+1+1] (by simp <;> omega) (by first | omega | (simp <;> omega)) (by assumption) | exact Kept.step [(w.heap.size+1,0,(.slice q m cap')),(w.heap.size+1,1,(.bool b')),(w.heap.size,0,(.slice p n cap)),(w.heap.size,1,(.bool b))] [w.heap.size+1+1] (dC _ _) S0)
  (first | (go_at_call 79;refine (adx (Hx.out.grown (by go_split_ands;assumption)) (Hy.out.grown (by go_split_ands;assumption))).mono ?_;rintro e w' ⟨v,rfl,h,bd,hg⟩;obtain ⟨pv,nv,rfl⟩:=h.slice) | (go_at_call 70;refine (iP _ _ _ _ _).mono ?_;rintro e w' ⟨rfl,hg⟩;replace h:=h.grown hg (.inl rfl)))
 rename_i hend
 go_wp2_with fail
 exact kr results46 rfl rfl hend.2.2.2.2.1 hend.2.2.2.2.2.1 hend.2.2.2.2.2.2.2.2 h (by first | omega | (simp <;> omega)) (by first | omega | (simp <;> omega)) rfl (DB _ _ _ _) bd
set_option maxHeartbeats 2000000 in
theorem JT  (hx:cF w (.slice p n cap) X i) (hy:cF w (.slice q m cap') Y j) (hi:i+j<=1000000) :
  Calls prog 56 #[.agg #[.slice p n cap,.bool b],.agg #[.slice q m cap',.bool b]] w (eT w (sg b X+sg b Y) (i+j+1)):=by
 have Hx:=hid hx
 have Hy:=hid hy
 have S0:Kept w [(w.heap.size+1,0,(.slice q m cap')),(w.heap.size+1,1,(.bool b)),(w.heap.size,0,(.slice p n cap)),(w.heap.size,1,(.bool b))] [w.heap.size+1+1] (((w.alloc (.cells #[.slice p n cap,.bool b] 42)).alloc (.cells #[.slice q m cap',.bool b] 42)).alloc (.cells #[.slice none 0 0,.bool false] 42)):=(((Kept.start w).box _ _ _ _ rfl).box _ _ _ _ (by simp)).res _ _ _ _ _ (by simp)
 clear hx hy
 go_enter func56,ntmps56
 obtain ⟨c0,c1,c2,c3,r0,r1,r2,r3,G⟩:=id S0
 go_wp2_with fail
 go_region_held3 (fun w'=>w'.cell? ⟨w.heap.size+1,0,none⟩=some ((.slice q m cap'))∧w'.cell? ⟨w.heap.size+1,1,none⟩=some ((.bool b))∧w'.cell? ⟨w.heap.size,0,none⟩=some ((.slice p n cap))∧w'.cell? ⟨w.heap.size,1,none⟩=some ((.bool b))∧w'.cell? ⟨w.heap.size+1+1,0,none⟩=some (cellOf w' ⟨w.heap.size+1+1,0,none⟩)∧w'.cell? ⟨w.heap.size+1+1,1,none⟩=some (cellOf w' ⟨w.heap.size+1+1,1,none⟩)∧w'.frozen? ⟨w.heap.size+1+1,0,none⟩=false∧w'.frozen? ⟨w.heap.size+1+1,1,none⟩=false∧w.grownBy w' none) (first | exact Kept.step (W:=w) [(w.heap.size+1,0,(.slice q m cap')),(w.heap.size+1,1,(.bool b)),(w.heap.size,0,(.slice p n cap)),(w.heap.size,1,(.bool b))] [w.heap.size+1+1] (by assumption) (by assumption) | exact Kept.set (W:=w) [(w.heap.size+1,0,(.slice q m cap')),(w.heap.size+1,1,(.bool b)),(w.heap.size,0,(.slice p n cap)),(w.heap.size,1,(.bool b))] [w.heap.size+1+1] (by simp <;> omega) (by first | omega | (simp <;> omega)) (by assumption) | exact Kept.step [(w.heap.size+1,0,(.slice q m cap')),(w.heap.size+1,1,(.bool b)),(w.heap.size,0,(.slice p n cap)),(w.heap.size,1,(.bool b))] [w.heap.size+1+1] (dC _ _) S0)
  (first | (go_at_call 84;refine (adw (Hx.out.grown (by go_split_ands;assumption)) (Hy.out.grown (by go_split_ands;assumption))).mono ?_;rintro e w' ⟨v,rfl,h,bd,hg⟩;obtain ⟨pv,nv,rfl⟩:=h.slice) | (go_at_call 70;refine (iP _ _ _ _ _).mono ?_;rintro e w' ⟨rfl,hg⟩;replace h:=h.grown hg (.inl rfl)))
 rename_i hend
 go_wp2_with fail
 exact kr results56 rfl rfl hend.2.2.2.2.1 hend.2.2.2.2.2.1 hend.2.2.2.2.2.2.2.2 h (by first | omega | (simp <;> omega)) (by first | omega | (simp <;> omega)) rfl (DC _ _ _) bd
set_option maxHeartbeats 2000000 in
theorem adE  (hx:cF w (.slice p n cap) X i) (hy:cF w (.slice q m cap') Y j) (hi:i+j<=1000000) (hc:Y<=X) :
  Calls prog 56 #[.agg #[.slice p n cap,.bool true],.agg #[.slice q m cap',.bool false]] w (eT w (sg true (X-Y)) (i)):=by
 have Hx:=hid hx
 have Hy:=hid hy
 have Hc:=hid hc
 have S0:Kept w [(w.heap.size+1,0,(.slice q m cap')),(w.heap.size+1,1,(.bool false)),(w.heap.size,0,(.slice p n cap)),(w.heap.size,1,(.bool true))] [w.heap.size+1+1] (((w.alloc (.cells #[.slice p n cap,.bool true] 42)).alloc (.cells #[.slice q m cap',.bool false] 42)).alloc (.cells #[.slice none 0 0,.bool false] 42)):=(((Kept.start w).box _ _ _ _ rfl).box _ _ _ _ (by simp)).res _ _ _ _ _ (by simp)
 clear hx hy hc
 go_enter func56,ntmps56
 go_wp2_with fail
 refine (tP (Hx.out.grown (Kept.all _ _ S0)) (Hy.out.grown (Kept.all _ _ S0))).mono ?_
 rintro e w1 ⟨rfl,hg⟩
 have hge:=wj Hc.out
 generalize cU X Y=r at *
 have s1:=hg.size
 have s2:=S0.lt (g:=w.heap.size+1+1) (by simp)
 have Sq:=S0.size
 replace S0:=Kept.grown _ _ S0 hg
 clear hg
 obtain ⟨c0,c1,c2,c3,r0,r1,r2,r3,G⟩:=id S0
 go_wp2_with fail
 go_region_held3 (fun w'=>w'.cell? ⟨w.heap.size+1,0,none⟩=some ((.slice q m cap'))∧w'.cell? ⟨w.heap.size+1,1,none⟩=some ((.bool false))∧w'.cell? ⟨w.heap.size,0,none⟩=some ((.slice p n cap))∧w'.cell? ⟨w.heap.size,1,none⟩=some ((.bool true))∧w'.cell? ⟨w.heap.size+1+1,0,none⟩=some (cellOf w' ⟨w.heap.size+1+1,0,none⟩)∧w'.cell? ⟨w.heap.size+1+1,1,none⟩=some (cellOf w' ⟨w.heap.size+1+1,1,none⟩)∧w'.frozen? ⟨w.heap.size+1+1,0,none⟩=false∧w'.frozen? ⟨w.heap.size+1+1,1,none⟩=false∧w.grownBy w' none) (first | exact Kept.step (W:=w) [(w.heap.size+1,0,(.slice q m cap')),(w.heap.size+1,1,(.bool false)),(w.heap.size,0,(.slice p n cap)),(w.heap.size,1,(.bool true))] [w.heap.size+1+1] (by assumption) (by assumption) | exact Kept.set (W:=w) [(w.heap.size+1,0,(.slice q m cap')),(w.heap.size+1,1,(.bool false)),(w.heap.size,0,(.slice p n cap)),(w.heap.size,1,(.bool true))] [w.heap.size+1+1] (by simp <;> omega) (by first | omega | (simp <;> omega)) (by assumption) | exact Kept.step [(w.heap.size+1,0,(.slice q m cap')),(w.heap.size+1,1,(.bool false)),(w.heap.size,0,(.slice p n cap)),(w.heap.size,1,(.bool true))] [w.heap.size+1+1] (dC _ _) S0)
  (first | (go_at_call 86;refine (tO (Hx.out.grown (by go_split_ands;assumption)) (Hy.out.grown (by go_split_ands;assumption)) Hc.out).mono ?_;rintro e w' ⟨v,rfl,h,bd,hg⟩;obtain ⟨pv,nv,rfl⟩:=h.slice) | (go_at_call 70;refine (iP _ _ _ _ _).mono ?_;rintro e w' ⟨rfl,hg⟩;replace h:=h.grown hg (.inl rfl)))
 rename_i hend
 go_wp2_with fail
 exact kr (b:=true) results56 rfl rfl hend.2.2.2.2.1 hend.2.2.2.2.2.1 hend.2.2.2.2.2.2.2.2 h (by simp at s1 s2 Sq ⊢ <;> omega) (by simp at s1 s2 Sq ⊢ <;> omega) rfl (rfl) bd
set_option maxHeartbeats 2000000 in
theorem adF {i:Nat} (hx:cF w (.slice p n cap) X i) (hy:cF w (.slice q m cap') Y j) (hi:i+j<=1000000) (hc:X<Y:=by omega) :
  Calls prog 56 #[.agg #[.slice p n cap,.bool true],.agg #[.slice q m cap',.bool false]] w (eT w (sg false (Y-X)) (j)):=by
 have Hx:=hid hx
 have Hy:=hid hy
 have Hc:=hid hc
 have S0:Kept w [(w.heap.size+1,0,(.slice q m cap')),(w.heap.size+1,1,(.bool false)),(w.heap.size,0,(.slice p n cap)),(w.heap.size,1,(.bool true))] [w.heap.size+1+1] (((w.alloc (.cells #[.slice p n cap,.bool true] 42)).alloc (.cells #[.slice q m cap',.bool false] 42)).alloc (.cells #[.slice none 0 0,.bool false] 42)):=(((Kept.start w).box _ _ _ _ rfl).box _ _ _ _ (by simp)).res _ _ _ _ _ (by simp)
 clear hx hy hc
 go_enter func56,ntmps56
 go_wp2_with fail
 refine (tP (Hx.out.grown (Kept.all _ _ S0)) (Hy.out.grown (Kept.all _ _ S0))).mono ?_
 rintro e w1 ⟨rfl,hg⟩
 rw [lM Hc.out]
 have s1:=hg.size
 have s2:=S0.lt (g:=w.heap.size+1+1) (by simp)
 have Sq:=S0.size
 replace S0:=Kept.grown _ _ S0 hg
 clear hg
 obtain ⟨c0,c1,c2,c3,r0,r1,r2,r3,G⟩:=id S0
 go_wp2_with fail
 go_region_held3 (fun w'=>w'.cell? ⟨w.heap.size+1,0,none⟩=some ((.slice q m cap'))∧w'.cell? ⟨w.heap.size+1,1,none⟩=some ((.bool false))∧w'.cell? ⟨w.heap.size,0,none⟩=some ((.slice p n cap))∧w'.cell? ⟨w.heap.size,1,none⟩=some ((.bool true))∧w'.cell? ⟨w.heap.size+1+1,0,none⟩=some (cellOf w' ⟨w.heap.size+1+1,0,none⟩)∧w'.cell? ⟨w.heap.size+1+1,1,none⟩=some (cellOf w' ⟨w.heap.size+1+1,1,none⟩)∧w'.frozen? ⟨w.heap.size+1+1,0,none⟩=false∧w'.frozen? ⟨w.heap.size+1+1,1,none⟩=false∧w.grownBy w' none) (first | exact Kept.step (W:=w) [(w.heap.size+1,0,(.slice q m cap')),(w.heap.size+1,1,(.bool false)),(w.heap.size,0,(.slice p n cap)),(w.heap.size,1,(.bool true))] [w.heap.size+1+1] (by assumption) (by assumption) | exact Kept.set (W:=w) [(w.heap.size+1,0,(.slice q m cap')),(w.heap.size+1,1,(.bool false)),(w.heap.size,0,(.slice p n cap)),(w.heap.size,1,(.bool true))] [w.heap.size+1+1] (by simp <;> omega) (by first | omega | (simp <;> omega)) (by assumption) | exact Kept.step [(w.heap.size+1,0,(.slice q m cap')),(w.heap.size+1,1,(.bool false)),(w.heap.size,0,(.slice p n cap)),(w.heap.size,1,(.bool true))] [w.heap.size+1+1] (dC _ _) S0)
  (first | (go_at_call 86;refine (tO (Hy.out.grown (by go_split_ands;assumption)) (Hx.out.grown (by go_split_ands;assumption)) (Nat.le_of_lt Hc.out)).mono ?_;rintro e w' ⟨v,rfl,h,bd,hg⟩;obtain ⟨pv,nv,rfl⟩:=h.slice) | (go_at_call 70;refine (iP _ _ _ _ _).mono ?_;rintro e w' ⟨rfl,hg⟩;replace h:=h.grown hg (.inl rfl)))
 rename_i hend
 go_wp2_with fail
 exact kr (b:=false) results56 rfl rfl hend.2.2.2.2.1 hend.2.2.2.2.2.1 hend.2.2.2.2.2.2.2.2 h (by simp at s1 s2 Sq ⊢ <;> omega) (by simp at s1 s2 Sq ⊢ <;> omega) rfl (rfl) bd
set_option maxHeartbeats 2000000 in
theorem adG  (hx:cF w (.slice p n cap) X i) (hy:cF w (.slice q m cap') Y j) (hi:i+j<=1000000) (hc:Y<=X) :
  Calls prog 56 #[.agg #[.slice p n cap,.bool false],.agg #[.slice q m cap',.bool true]] w (eT w (sg false (X-Y)) (i)):=by
 have Hx:=hid hx
 have Hy:=hid hy
 have Hc:=hid hc
 have S0:Kept w [(w.heap.size+1,0,(.slice q m cap')),(w.heap.size+1,1,(.bool true)),(w.heap.size,0,(.slice p n cap)),(w.heap.size,1,(.bool false))] [w.heap.size+1+1] (((w.alloc (.cells #[.slice p n cap,.bool false] 42)).alloc (.cells #[.slice q m cap',.bool true] 42)).alloc (.cells #[.slice none 0 0,.bool false] 42)):=(((Kept.start w).box _ _ _ _ rfl).box _ _ _ _ (by simp)).res _ _ _ _ _ (by simp)
 clear hx hy hc
 go_enter func56,ntmps56
 go_wp2_with fail
 refine (tP (Hx.out.grown (Kept.all _ _ S0)) (Hy.out.grown (Kept.all _ _ S0))).mono ?_
 rintro e w1 ⟨rfl,hg⟩
 have hge:=wj Hc.out
 generalize cU X Y=r at *
 have s1:=hg.size
 have s2:=S0.lt (g:=w.heap.size+1+1) (by simp)
 have Sq:=S0.size
 replace S0:=Kept.grown _ _ S0 hg
 clear hg
 obtain ⟨c0,c1,c2,c3,r0,r1,r2,r3,G⟩:=id S0
 go_wp2_with fail
 go_region_held3 (fun w'=>w'.cell? ⟨w.heap.size+1,0,none⟩=some ((.slice q m cap'))∧w'.cell? ⟨w.heap.size+1,1,none⟩=some ((.bool true))∧w'.cell? ⟨w.heap.size,0,none⟩=some ((.slice p n cap))∧w'.cell? ⟨w.heap.size,1,none⟩=some ((.bool false))∧w'.cell? ⟨w.heap.size+1+1,0,none⟩=some (cellOf w' ⟨w.heap.size+1+1,0,none⟩)∧w'.cell? ⟨w.heap.size+1+1,1,none⟩=some (cellOf w' ⟨w.heap.size+1+1,1,none⟩)∧w'.frozen? ⟨w.heap.size+1+1,0,none⟩=false∧w'.frozen? ⟨w.heap.size+1+1,1,none⟩=false∧w.grownBy w' none) (first | exact Kept.step (W:=w) [(w.heap.size+1,0,(.slice q m cap')),(w.heap.size+1,1,(.bool true)),(w.heap.size,0,(.slice p n cap)),(w.heap.size,1,(.bool false))] [w.heap.size+1+1] (by assumption) (by assumption) | exact Kept.set (W:=w) [(w.heap.size+1,0,(.slice q m cap')),(w.heap.size+1,1,(.bool true)),(w.heap.size,0,(.slice p n cap)),(w.heap.size,1,(.bool false))] [w.heap.size+1+1] (by simp <;> omega) (by first | omega | (simp <;> omega)) (by assumption) | exact Kept.step [(w.heap.size+1,0,(.slice q m cap')),(w.heap.size+1,1,(.bool true)),(w.heap.size,0,(.slice p n cap)),(w.heap.size,1,(.bool false))] [w.heap.size+1+1] (dC _ _) S0)
  (first | (go_at_call 86;refine (tO (Hx.out.grown (by go_split_ands;assumption)) (Hy.out.grown (by go_split_ands;assumption)) Hc.out).mono ?_;rintro e w' ⟨v,rfl,h,bd,hg⟩;obtain ⟨pv,nv,rfl⟩:=h.slice) | (go_at_call 70;refine (iP _ _ _ _ _).mono ?_;rintro e w' ⟨rfl,hg⟩;replace h:=h.grown hg (.inl rfl)))
 rename_i hend
 go_wp2_with fail
 exact kr (b:=false) results56 rfl rfl hend.2.2.2.2.1 hend.2.2.2.2.2.1 hend.2.2.2.2.2.2.2.2 h (by simp at s1 s2 Sq ⊢ <;> omega) (by simp at s1 s2 Sq ⊢ <;> omega) rfl (rfl) bd
set_option maxHeartbeats 2000000 in
theorem adH {i:Nat} (hx:cF w (.slice p n cap) X i) (hy:cF w (.slice q m cap') Y j) (hi:i+j<=1000000) (hc:X<Y:=by omega) :
  Calls prog 56 #[.agg #[.slice p n cap,.bool false],.agg #[.slice q m cap',.bool true]] w (eT w (sg true (Y-X)) (j)):=by
 have Hx:=hid hx
 have Hy:=hid hy
 have Hc:=hid hc
 have S0:Kept w [(w.heap.size+1,0,(.slice q m cap')),(w.heap.size+1,1,(.bool true)),(w.heap.size,0,(.slice p n cap)),(w.heap.size,1,(.bool false))] [w.heap.size+1+1] (((w.alloc (.cells #[.slice p n cap,.bool false] 42)).alloc (.cells #[.slice q m cap',.bool true] 42)).alloc (.cells #[.slice none 0 0,.bool false] 42)):=(((Kept.start w).box _ _ _ _ rfl).box _ _ _ _ (by simp)).res _ _ _ _ _ (by simp)
 clear hx hy hc
 go_enter func56,ntmps56
 go_wp2_with fail
 refine (tP (Hx.out.grown (Kept.all _ _ S0)) (Hy.out.grown (Kept.all _ _ S0))).mono ?_
 rintro e w1 ⟨rfl,hg⟩
 rw [lM Hc.out]
 have s1:=hg.size
 have s2:=S0.lt (g:=w.heap.size+1+1) (by simp)
 have Sq:=S0.size
 replace S0:=Kept.grown _ _ S0 hg
 clear hg
 obtain ⟨c0,c1,c2,c3,r0,r1,r2,r3,G⟩:=id S0
 go_wp2_with fail
 go_region_held3 (fun w'=>w'.cell? ⟨w.heap.size+1,0,none⟩=some ((.slice q m cap'))∧w'.cell? ⟨w.heap.size+1,1,none⟩=some ((.bool true))∧w'.cell? ⟨w.heap.size,0,none⟩=some ((.slice p n cap))∧w'.cell? ⟨w.heap.size,1,none⟩=some ((.bool false))∧w'.cell? ⟨w.heap.size+1+1,0,none⟩=some (cellOf w' ⟨w.heap.size+1+1,0,none⟩)∧w'.cell? ⟨w.heap.size+1+1,1,none⟩=some (cellOf w' ⟨w.heap.size+1+1,1,none⟩)∧w'.frozen? ⟨w.heap.size+1+1,0,none⟩=false∧w'.frozen? ⟨w.heap.size+1+1,1,none⟩=false∧w.grownBy w' none) (first | exact Kept.step (W:=w) [(w.heap.size+1,0,(.slice q m cap')),(w.heap.size+1,1,(.bool true)),(w.heap.size,0,(.slice p n cap)),(w.heap.size,1,(.bool false))] [w.heap.size+1+1] (by assumption) (by assumption) | exact Kept.set (W:=w) [(w.heap.size+1,0,(.slice q m cap')),(w.heap.size+1,1,(.bool true)),(w.heap.size,0,(.slice p n cap)),(w.heap.size,1,(.bool false))] [w.heap.size+1+1] (by simp <;> omega) (by first | omega | (simp <;> omega)) (by assumption) | exact Kept.step [(w.heap.size+1,0,(.slice q m cap')),(w.heap.size+1,1,(.bool true)),(w.heap.size,0,(.slice p n cap)),(w.heap.size,1,(.bool false))] [w.heap.size+1+1] (dC _ _) S0)
  (first | (go_at_call 86;refine (tO (Hy.out.grown (by go_split_ands;assumption)) (Hx.out.grown (by go_split_ands;assumption)) (Nat.le_of_lt Hc.out)).mono ?_;rintro e w' ⟨v,rfl,h,bd,hg⟩;obtain ⟨pv,nv,rfl⟩:=h.slice) | (go_at_call 70;refine (iP _ _ _ _ _).mono ?_;rintro e w' ⟨rfl,hg⟩;replace h:=h.grown hg (.inl rfl)))
 rename_i hend
 go_wp2_with fail
 exact kr (b:=true) results56 rfl rfl hend.2.2.2.2.1 hend.2.2.2.2.2.1 hend.2.2.2.2.2.2.2.2 h (by simp at s1 s2 Sq ⊢ <;> omega) (by simp at s1 s2 Sq ⊢ <;> omega) rfl (rfl) bd
theorem af.open  (h:af w v z k):∃(b:Bool) (p:Option Addr) (n cap X:Nat),v = .agg #[.slice p n cap,.bool b]∧cF w (.slice p n cap) X k∧z=sg b X:=by
 obtain ⟨p,cap,h1,h2⟩:=h
 exact ⟨_,p,_,cap,_,h1,h2,(wm z).symm⟩
theorem acP  (hx:af w v z i) (hy:af w u y j) (hi:i+j<=1000000) :
  Calls prog 46 #[v,u] w (eT w (z*y) (i+j)):=by
 obtain ⟨b,p,n,cap,X,rfl,dx,rfl⟩:=hx.open
 obtain ⟨b',q,m,cap',Y,rfl,dy,rfl⟩:=hy.open
 exact adD dx dy hi
theorem JF  (hx:af w v z i) (hy:af w u y j) (hi:i+j<=1000000) :
  Calls prog 56 #[v,u] w (eT w (z+y) (i+j+1)):=by
 obtain ⟨b,p,n,cap,X,rfl,dx,rfl⟩:=hx.open
 obtain ⟨b',q,m,cap',Y,rfl,dy,rfl⟩:=hy.open
 cases b <;> cases b'
 ·exact JT dx dy hi
 ·by_cases hc:Y<=X
  ·exact (adG dx dy hi hc).mono fun _ _ h=>h.of (by simp [sg];omega) (by omega)
  ·exact (adH dx dy hi).mono fun _ _ h=>h.of (by simp [sg];omega) (by omega)
 ·by_cases hc:Y<=X
  ·exact (adE dx dy hi hc).mono fun _ _ h=>h.of (by simp [sg];omega) (by omega)
  ·exact (adF dx dy hi).mono fun _ _ h=>h.of (by simp [sg];omega) (by omega)
 ·exact JT dx dy hi
set_option maxHeartbeats 2000000 in
theorem adI  (hx:af w v z i) (hy:af w u y j) (hi:i+j<=1000000) :
  Calls prog 60 #[v,u] w (eT w (z-y) (i+j+1)):=by
 have Vx:=hid hx
 have Vy:=hid hy
 obtain ⟨b,p,n,cap,X,rfl,hx',rfl⟩:=hx.open
 obtain ⟨b',q,m,cap',Y,rfl,hy',rfl⟩:=hy.open
 clear hx' hy' hx hy
 have S0:Kept w [(w.heap.size+1,0,(.slice q m cap')),(w.heap.size+1,1,(.bool b')),(w.heap.size,0,(.slice p n cap)),(w.heap.size,1,(.bool b))] [w.heap.size+1+1] (((w.alloc (.cells #[.slice p n cap,.bool b] 42)).alloc (.cells #[.slice q m cap',.bool b'] 42)).alloc (.cells #[.slice none 0 0,.bool false] 42)):=(((Kept.start w).box _ _ _ _ rfl).box _ _ _ _ (by simp)).res _ _ _ _ _ (by simp)
 rw [Int.sub_eq_add_neg]
 go_enter func60,ntmps60
 go_wp2_with fail
 go_region_held3 (fun w'=>w'.cell? ⟨w.heap.size+1,0,none⟩=some ((.slice q m cap'))∧w'.cell? ⟨w.heap.size+1,1,none⟩=some ((.bool b'))∧w'.cell? ⟨w.heap.size,0,none⟩=some ((.slice p n cap))∧w'.cell? ⟨w.heap.size,1,none⟩=some ((.bool b))∧w'.cell? ⟨w.heap.size+1+1,0,none⟩=some (cellOf w' ⟨w.heap.size+1+1,0,none⟩)∧w'.cell? ⟨w.heap.size+1+1,1,none⟩=some (cellOf w' ⟨w.heap.size+1+1,1,none⟩)∧w'.frozen? ⟨w.heap.size+1+1,0,none⟩=false∧w'.frozen? ⟨w.heap.size+1+1,1,none⟩=false∧w.grownBy w' none) (first | exact Kept.step (W:=w) [(w.heap.size+1,0,(.slice q m cap')),(w.heap.size+1,1,(.bool b')),(w.heap.size,0,(.slice p n cap)),(w.heap.size,1,(.bool b))] [w.heap.size+1+1] (by assumption) (by assumption) | exact Kept.set (W:=w) [(w.heap.size+1,0,(.slice q m cap')),(w.heap.size+1,1,(.bool b')),(w.heap.size,0,(.slice p n cap)),(w.heap.size,1,(.bool b))] [w.heap.size+1+1] (by simp <;> omega) (by first | omega | (simp <;> omega)) (by assumption) | exact Kept.step [(w.heap.size+1,0,(.slice q m cap')),(w.heap.size+1,1,(.bool b')),(w.heap.size,0,(.slice p n cap)),(w.heap.size,1,(.bool b))] [w.heap.size+1+1] (dC _ _) S0)
  (first | (go_at_call 59;refine (JH (Vy.out.grown (by go_split_ands;assumption))).mono ?_;rintro e w' ⟨v,rfl,hn,hg⟩) | (go_at_call 56;refine (JF (Vx.out.grown (by go_split_ands;assumption)) hn hi).mono ?_;have hsz:=hg.size;rintro e w' ⟨v,rfl,h,bd,hg⟩;obtain ⟨pv,nv,rfl,h2⟩:=id h))
 rename_i hend
 go_wp2_with fail
 exact adB results60 rfl rfl hend.2.2.2.2.1 hend.2.2.2.2.2.1 hend.2.2.2.2.2.2.2.2 h (by simp at hsz;omega) (by simp at hsz;omega) bd
theorem adJ (z y:Int):dJ (z-y) 0=dJ z y:=by
 unfold dJ
 split <;> split <;> (try split) <;> (try split) <;> omega
set_option maxHeartbeats 1000000 in
theorem aa6 {i:Nat} (r:Int) (hx:af w v z i) (hy:af w u y j) (hi:i+j<=1000000) (hr:dJ z y=r) :
  Calls prog 62 #[v,u] w fun e w'=>e = .returned (.int .i64 r)∧w.grownBy w' none:=by
 subst hr
 rw [<- adJ]
 have Vx:=hid hx
 have Vy:=hid hy
 obtain ⟨b,p,n,cap,X,rfl,hx',rfl⟩:=hx.open
 obtain ⟨b',q,m,cap',Y,rfl,hy',rfl⟩:=hy.open
 clear hx' hy' hx hy
 have S0:Kept w [(w.heap.size+1,0,(.slice q m cap')),(w.heap.size+1,1,(.bool b')),(w.heap.size,0,(.slice p n cap)),(w.heap.size,1,(.bool b))] [] ((w.alloc (.cells #[.slice p n cap,.bool b] 42)).alloc (.cells #[.slice q m cap',.bool b'] 42)):=((Kept.start w).box _ _ _ _ rfl).box _ _ _ _ (by simp)
 go_enter func62,ntmps62
 go_wp2_with fail
 refine (adI (Vx.out.grown (Kept.all _ _ S0)) (Vy.out.grown (Kept.all _ _ S0)) hi).mono ?_
 rintro e w1 ⟨v,rfl,h,bd,hg⟩
 have Hv:=hid (h.JC bd)
 have G:=hid (aN (Kept.all _ _ S0) hg)
 clear S0 hg h bd
 go_wp2_with fail
 refine (adC Hv.out).mono ?_
 rintro e w2 ⟨rfl,hg⟩
 have G2:=hid (aN G.out hg)
 clear hg
 go_wp2_with fail
 go_ret
 exact ⟨rfl,G2.out⟩
theorem JU  (h:X<18446744073709551616:=by omega):Bd X 2:=by unfold Bd;omega
theorem JV  (h:m<9223372036854775809:=by omega):(an 10000 m).length<=5:=il (by omega) 5 m (by omega)
theorem JW (l:List Nat) (h:0<m):l ++ an 10000 m=(l ++ [m % 10000]) ++ an 10000 (m / 10000):=by
 rw [jq (by omega) h];simp
set_option maxHeartbeats 2000000 in
theorem adK (N:Nat) (w:World) (hN:N<=9223372036854775807:=by omega) :
  Calls prog 40 #[.int .i64 (N:Int)] w (eT w ((N:Int)) 2):=by
 obtain ⟨i0,hi,hz0,hz1,hz2⟩:=info_parts Tryz.infoI
 have S0:Kept w [] [w.heap.size] (w.alloc (.cells #[.slice none 0 0,.bool false] 42)):=(Kept.start w).res _ _ _ _ _ rfl
 have hq:((N:Int) == (-9223372036854775808:Int))=false:=by
  rw [beq_eq_false_iff_ne]
  omega
 have NL:=hid (JV (m:=N))
 go_enter func40,ntmps40
 go_wp2_with fail
 generalize w.alloc (.cells #[.slice none 0 0,.bool false] 42)=W1 at *
 have Hs:=S0.size
 have Hl:=S0.lt (g:=w.heap.size) (by simp)
 go_loopw [0,4] (fun nv ov wr=>∃(m:Nat) (l:List Nat),m<=N∧nv = .int .i64 m∧Hid (an 10000 N=l ++ an 10000 m)∧Own wr 3 .i64 W1.heap.size ov l∧W1.grownBy wr none) (fun nv _ _=>(intOf nv).toNat)
 case atStart=>exact ⟨N,[],Nat.le_refl _,by go_num,rfl,Own.nil _ _ _ _,bh _ _⟩
 case round=>
  obtain ⟨m,l,hm,rfl,hd,ho,gr⟩:=hrel
  obtain ⟨op,eD,rfl⟩:=ho.slice
  have Ho:=hid ho
  have Gr:=hid gr
  clear ho gr
  by_cases h0:m=0
  ·subst h0
   have hd':=hd.out
   rw [jN,List.append_nil] at hd'
   subst hd'
   clear hd
   go_wp2_with fail
   refine (iP _ _ _ _ _).mono ?_
   rintro e w2 ⟨rfl,hg⟩
   have h:=Ho.out.grown hg (.inl rfl)
   replace S0:=S0.grown _ _ (aN Gr.out hg)
   clear hg
   obtain ⟨r0,r1,f0,f1,G⟩:=id S0
   go_wp2_with fail
   exact kr (b:=false) results40 rfl rfl (dP r0) (dQ r1) (Kept.all _ _ (Kept.set _ _ (by simp) (Nat.le_refl _) S0)) h Hs Hl rfl rfl (JU)
  ·have hp:0<m:=by omega
   have Hd2:=hid (show _=_ from hd.out.trans (JW l hp))
   have Lz:=hid (show l.length<=5 by
    have:=NL.out
    rw [hd.out,List.length_append] at this
    omega)
   clear hd
   have hp':(0:Int)<(m:Int):=by omega
   go_wp2_with (at_builtin;refine jC rfl _ _ 40 rfl 3 i0 (.int .i64 0) .i64 underlying40 hi hz0 hz1 rfl W1.heap.size (.slice op l.length eD) l (m % 10000) rfl (Ho.out.grown (aU _ _ none) (.inl rfl)) wr.heap.size rfl ?c1 (by have:=Lz.out;omega) (by have:=Gr.out.size;simp;omega) ?_;(case c1=>exact (World.cell?_alloc_at _ _ _ _ rfl).trans (by simp;try omega));intro v' w3 ho3 g3;have dH:=hid ho3;have G3:=hid (jR (v:=.slice op l.length eD) g3 (Ho.out.grown (aU _ _ none) (.inl rfl)) (aN Gr.out (aU _ _ _)));clear ho3 g3)
   go_roundw
   case rel=>exact ⟨m / 10000,l ++ [m % 10000],by omega,by go_num,Hd2.out,dH.out,G3.out⟩
   case measure=>simp [intOf];omega
set_option maxHeartbeats 2000000 in
theorem adL (N:Nat) (w:World) (hN:N<=9223372036854775807:=by omega) (h0:0<N:=by omega) :
  Calls prog 40 #[.int .i64 (-(N:Int))] w (eT w ((-(N:Int))) 2):=by
 obtain ⟨i0,hi,hz0,hz1,hz2⟩:=info_parts Tryz.infoI
 have S0:Kept w [] [w.heap.size] (w.alloc (.cells #[.slice none 0 0,.bool false] 42)):=(Kept.start w).res _ _ _ _ _ rfl
 have hq:((-(N:Int)) == (-9223372036854775808:Int))=false:=by
  rw [beq_eq_false_iff_ne]
  omega
 have NL:=hid (JV (m:=N))
 go_enter func40,ntmps40
 go_wp2_with fail
 generalize w.alloc (.cells #[.slice none 0 0,.bool false] 42)=W1 at *
 have Hs:=S0.size
 have Hl:=S0.lt (g:=w.heap.size) (by simp)
 go_loopw [0,4] (fun nv ov wr=>∃(m:Nat) (l:List Nat),m<=N∧nv = .int .i64 m∧Hid (an 10000 N=l ++ an 10000 m)∧Own wr 3 .i64 W1.heap.size ov l∧W1.grownBy wr none) (fun nv _ _=>(intOf nv).toNat)
 case atStart=>exact ⟨N,[],Nat.le_refl _,by go_num,rfl,Own.nil _ _ _ _,bh _ _⟩
 case round=>
  obtain ⟨m,l,hm,rfl,hd,ho,gr⟩:=hrel
  obtain ⟨op,eD,rfl⟩:=ho.slice
  have Ho:=hid ho
  have Gr:=hid gr
  clear ho gr
  by_cases h0:m=0
  ·subst h0
   have hd':=hd.out
   rw [jN,List.append_nil] at hd'
   subst hd'
   clear hd
   go_wp2_with fail
   refine (iP _ _ _ _ _).mono ?_
   rintro e w2 ⟨rfl,hg⟩
   have h:=Ho.out.grown hg (.inl rfl)
   replace S0:=S0.grown _ _ (aN Gr.out hg)
   clear hg
   obtain ⟨r0,r1,f0,f1,G⟩:=id S0
   go_wp2_with fail
   exact kr (b:=true) results40 rfl rfl (dP r0) (dQ r1) (Kept.all _ _ (Kept.set _ _ (by simp) (Nat.le_refl _) S0)) h Hs Hl rfl rfl (JU)
  ·have hp:0<m:=by omega
   have Hd2:=hid (show _=_ from hd.out.trans (JW l hp))
   have Lz:=hid (show l.length<=5 by
    have:=NL.out
    rw [hd.out,List.length_append] at this
    omega)
   clear hd
   have hp':(0:Int)<(m:Int):=by omega
   go_wp2_with (at_builtin;refine jC rfl _ _ 40 rfl 3 i0 (.int .i64 0) .i64 underlying40 hi hz0 hz1 rfl W1.heap.size (.slice op l.length eD) l (m % 10000) rfl (Ho.out.grown (aU _ _ none) (.inl rfl)) wr.heap.size rfl ?c1 (by have:=Lz.out;omega) (by have:=Gr.out.size;simp;omega) ?_;(case c1=>exact (World.cell?_alloc_at _ _ _ _ rfl).trans (by simp;try omega));intro v' w3 ho3 g3;have dH:=hid ho3;have G3:=hid (jR (v:=.slice op l.length eD) g3 (Ho.out.grown (aU _ _ none) (.inl rfl)) (aN Gr.out (aU _ _ _)));clear ho3 g3)
   go_roundw
   case rel=>exact ⟨m / 10000,l ++ [m % 10000],by omega,by go_num,Hd2.out,dH.out,G3.out⟩
   case measure=>simp [intOf];omega
set_option maxHeartbeats 1000000 in
theorem adM (w:World):Calls prog 40 #[.int .i64 (-9223372036854775808)] w (eT w (-9223372036854775808) 2):=by
 have S0:Kept w [] [w.heap.size] (w.alloc (.cells #[.slice none 0 0,.bool false] 42)):=(Kept.start w).res _ _ _ _ _ rfl
 have hz:sg true (2 ^ 63) = -9223372036854775808:=by simp [sg]
 go_enter func40,ntmps40
 go_wp2_with fail
 have S1:=S0
 refine (adz 63 2).mono ?_
 rintro e w1 ⟨v,rfl,h,bd,hg⟩
 obtain ⟨pv,nv,rfl⟩:=h.slice
 replace S0:=S0.grown _ _ hg
 clear hg
 generalize hP:(2:Nat) ^ 63=P at *
 go_wp2_with fail
 refine (iP _ _ _ _ _).mono ?_
 rintro e w2 ⟨rfl,hg⟩
 replace h:=h.grown hg (.inl rfl)
 replace S0:=S0.grown _ _ hg
 clear hg
 obtain ⟨r0,r1,f0,f1,G⟩:=id S0
 go_wp2_with fail
 exact kr (b:=true) results40 rfl rfl (dP r0) (dQ r1) (Kept.all _ _ (Kept.set _ _ (by simp) (Nat.le_refl _) S0)) h S1.size (S1.lt (by simp)) rfl hz bd
theorem acR (z:Int) (w:World) (h1 : -9223372036854775808<=z) (h2:z<=9223372036854775807):Calls prog 40 #[.int .i64 z] w (eT w z 2):=by
 by_cases h3:z = -9223372036854775808
 ·subst h3
  exact adM w
 ·rcases Int.lt_or_le z 0 with h | h
  ·obtain ⟨N,rfl⟩:∃N:Nat,z = -(N:Int):=⟨z.natAbs,by omega⟩
   exact adL N w
  ·obtain ⟨N,rfl⟩:∃N:Nat,z=(N:Int):=⟨z.natAbs,by omega⟩
   exact adK N w
def gV (w:World) (v:Value) (z:Int):Prop:=∃p cap,v = .agg #[.bool (decide (z<0)),.slice p (an 4294967296 z.natAbs).length cap]∧Sl w .u32 (.slice p (an 4294967296 z.natAbs).length cap) (an 4294967296 z.natAbs)
theorem gV.grown  (h:gV w v z) (g:w.grownBy w' none):gV w' v z:=by
 obtain ⟨p,cap,h1,h2⟩:=h
 exact ⟨p,cap,h1,h2.grown g (.inl rfl)⟩
theorem gO.nor  (h:gO w B v z):gV w v z:=by
 obtain ⟨p,cap,h1,h2⟩:=h
 exact ⟨p,cap,h1,h2.sl⟩
theorem gV.Dx  (h:gV w v z) (hb:Bd z.natAbs k):aE w v z k:=by
 obtain ⟨p,cap,h1,h2⟩:=h
 exact ⟨_,_,_,h1,(show iK w _ _ _ from ⟨h2,hb⟩).num,(wm z).symm⟩
set_option maxHeartbeats 2000000 in
theorem adN {k:Nat} (hx:af w v z k) (hk:k<=1000000) (hu:gV w u z) :
  Calls prog 61 #[v,u] w (SS w true):=by
 obtain ⟨p,cap,rfl,hx⟩:=hx
 obtain ⟨q,cap',rfl,hu⟩:=hu
 have S0:Kept w [(w.heap.size+1,0,(.bool (decide (z<0)))),(w.heap.size+1,1,(.slice q (an 4294967296 z.natAbs).length cap')),(w.heap.size,0,(.slice p (an 10000 z.natAbs).length cap)),(w.heap.size,1,(.bool (decide (z<0))))] [] ((w.alloc (.cells #[.slice p (an 10000 z.natAbs).length cap,.bool (decide (z<0))] 42)).alloc (.cells #[.bool (decide (z<0)),.slice q (an 4294967296 z.natAbs).length cap'] 57)):=((Kept.start w).box _ _ _ _ rfl).box _ _ _ _ (by simp)
 have Hx:=hid hx
 have Hu:=hid hu
 clear hx hu
 go_enter func61,ntmps61
 go_wp2_with fail
 refine (JL (Hx.out.grown (Kept.all _ _ S0)).1 (by have:=Hx.out.len;omega)).mono ?_
 rintro e w1 ⟨v,rfl,h,hg⟩
 obtain ⟨pv,nv,rfl⟩:=h.slice
 replace S0:=S0.grown _ _ hg
 obtain ⟨p1,tQ,e1,m1,m2,h3⟩:=h.sl
 have hu1:=Hu.out.grown (Kept.all _ _ S0) (.inl rfl)
 obtain ⟨p2,cp2,e2,-,-,h4⟩:=hu1
 simp only [Value.slice.injEq,true_and] at e1 e2
 obtain ⟨rfl,rfl⟩:=e1
 obtain ⟨rfl,rfl⟩:=e2
 clear hg h Hu Hx
 generalize an 4294967296 z.natAbs=l at *
 obtain ⟨n,hn⟩:∃n,l.length=n:=⟨_,rfl⟩
 have Hn:=hid hn
 rw [hn] at S0 m1 ⊢
 have nb:n<=9223372036854775807:=by omega
 clear hn m1 m2
 have hln:(decide (z<0) != decide (z<0))=false:=by simp
 obtain ⟨c0,c1,c2,c3,G⟩:=id S0
 have G1:=hid G
 clear G S0
 go_wp2_with fail
 go_loopw [25] (fun iv wr=>∃(i d:Nat),i<=n∧iv = .int .i64 i∧wr=w1.drewN d) (fun iv _=>(n-(intOf iv).toNat))
 case atStart=>exact ⟨0,0,by omega,rfl,rfl⟩
 case round=>
  obtain ⟨i,d,hi,rfl,rfl⟩:=hrel
  by_cases hlt:i<n
  ·rcases h3 with h3 | ⟨b1,o1,rfl,hb1,hy1⟩
   ·have:=Hn.out;rw [h3] at this;simp at this;omega
   rcases h4 with h4 | ⟨b2,o2,rfl,hb2,hy2⟩
   ·have:=Hn.out;rw [h4] at this;simp at this;omega
   have d1:=hy1 i (by rw [Hn.out];omega)
   have d2:=hy2 i (by rw [Hn.out];omega)
   clear hy1 hy2
   have i1:(i:Int)<(n:Int):=by omega
   have hb:(((nth l i:Nat):Int) != ((nth l i:Nat):Int))=false:=by simp
   go_wp2
   go_quiet (fail)
   go_wp2
   go_roundw
   case rel=>exact ⟨i+1,_,by omega,by go_num,rfl⟩
   case measure=>simp [intOf];omega
  ·obtain rfl:i=n:=by omega
   clear h3 h4
   go_wp2
   go_ret
   exact ⟨rfl,aN G1.out (jo _ _ _)⟩
theorem adO  (hn:n<=cap) :
  Calls prog 73 #[.slice p n cap,.int .i64 k] w fun e w'=>e = .returned (.slice p (min n k) cap)∧w.grownBy w' none:=
 (SQ hn).mono fun _ _ ⟨h1,h2⟩=>⟨h1,h2▸bh _ _⟩
set_option maxHeartbeats 1000000 in
theorem adP {xs:List Nat} (k:Nat) (h1:xs.length<=cap) (hn:(xs.take k).length=n) :
  Calls prog 41 #[.agg #[.bool b,.slice p xs.length cap],.int .i64 k] w fun e w'=>e = .returned (.agg #[.bool b,.slice p n cap])∧w.grownBy w' none:=by
 have S0:Kept w [(w.heap.size,0,.bool b),(w.heap.size,1,.slice p xs.length cap)] [w.heap.size+1] ((w.alloc (.cells #[.bool b,.slice p xs.length cap] 57)).alloc (.cells #[.bool false,.slice none 0 0] 57)):=((Kept.start w).box _ _ _ _ rfl).res _ _ _ _ _ (by simp)
 have Hm:=hid (show min xs.length k=n by rw [<- hn,List.length_take,Nat.min_comm])
 clear hn
 go_enter func41,ntmps41
 go_wp2_with fail
 go_region_held3 (fun w'=>w'.cell? ⟨w.heap.size,0,none⟩=some (.bool b)∧w'.cell? ⟨w.heap.size,1,none⟩=some (.slice p xs.length cap)∧w'.cell? ⟨w.heap.size+1,0,none⟩=some (cellOf w' ⟨w.heap.size+1,0,none⟩)∧w'.cell? ⟨w.heap.size+1,1,none⟩=some (cellOf w' ⟨w.heap.size+1,1,none⟩)∧w'.frozen? ⟨w.heap.size+1,0,none⟩=false∧w'.frozen? ⟨w.heap.size+1,1,none⟩=false∧w.grownBy w' none) (first | exact Kept.step (W:=w) [(w.heap.size,0,.bool b),(w.heap.size,1,.slice p xs.length cap)] [w.heap.size+1] (by assumption) (by assumption) | exact Kept.set (W:=w) [(w.heap.size,0,.bool b),(w.heap.size,1,.slice p xs.length cap)] [w.heap.size+1] (by simp <;> omega) (by first | omega | (simp <;> omega)) (by assumption) | exact Kept.step [(w.heap.size,0,.bool b),(w.heap.size,1,.slice p xs.length cap)] [w.heap.size+1] (dC _ _) S0)
  (first | (go_at_call 73;refine (adO h1).mono ?_;rintro e w' ⟨rfl,hg⟩))
 rename_i hend
 go_wp2_with fail
 refine wl results41 rfl rfl (qc hend.2.2.1) (qe hend.2.2.2.1) ⟨?_,hend.2.2.2.2.2.2⟩
 rw [Hm.out]
theorem acY  (hx:af w v z k) :
  Calls prog 57 #[v] w fun e w'=>e = .returned (.bool (decide (z=0)))∧w.grownBy w' none:=by
 have bx:=hx.bd
 obtain ⟨p,cap,rfl,hx⟩:=hx
 have Hx:=hid hx
 clear hx
 clear bx Hx
 have e:((((an 10000 z.natAbs).length:Nat):Int) == 0)=decide (z=0):=by
  have:=fO (b:=10000) (n:=z.natAbs)
  rw [Bool.eq_iff_iff,beq_iff_eq,decide_eq_true_eq]
  omega
 generalize (an 10000 z.natAbs).length=l at *
 go_enter func57,ntmps57
 go_wp2_with fail
 go_ret
 refine ⟨?_,aU _ _ _⟩
 simp_all
end Go.Proofs.YtomamliepbhegaaGreat
