/- The reference's whole nu -/
import Derived.Test.YtlmanbjkkjfjgaaGreatIntA
import Derived.Lib.SmallJoins
set_option maxRecDepth 100000
namespace Go.Proofs.YtlmanbjkkjfjgaaGreat
open Go.Proofs.Tryz
open Lib (hid)
open Go.RowKit
variable {W W' w w':World}{u v x:Value}{y z:Int}{B X Y cap cap' g i j k m n o r:Nat}{fn:Func}{a:Act}{b:Bool}{p q:Option Addr}{xs:List Nat}{bs bs':List (Nat×Value×Value)}{fs:List (Nat×Nat)}{cs cs':List (Nat×Nat×Value)}{zs:List Int}
def ai (w:World) (v:Value) (z:Int) (k:Nat):Prop:=∃p cap,v = .agg #[.slice p (an 10000 z.natAbs).length cap,.bool (decide (z<0))]∧db w (.slice p (an 10000 z.natAbs).length cap) z.natAbs k
theorem ai.grown  (h:ai w v z k) (g:w.grownBy w' none):ai w' v z k:=by obtain ⟨p,cap,h1,h2⟩:=h;exact ⟨p,cap,h1,h2.grown g⟩
theorem ai.bd  (h:ai w v z k):Bd z.natAbs k:=by obtain ⟨p,cap,h1,h2⟩:=h;exact h2.2
def nO (w:World) (B:Nat) (v:Value) (z:Int):Prop:=∃p cap,v = .agg #[.slice p (an 10000 z.natAbs).length cap,.bool (decide (z<0))]∧Own w 3 .i64 B (.slice p (an 10000 z.natAbs).length cap) (an 10000 z.natAbs)
theorem nO.grown  (h:nO w B v z) (g:w.grownBy w' none):nO w' B v z:=by obtain ⟨p,cap,h1,h2⟩:=h;exact ⟨p,cap,h1,h2.grown g (.inl rfl)⟩
theorem nO.Kb  (h:nO w B v z) (hb:Bd z.natAbs k):ai w v z k:=by obtain ⟨p,cap,h1,h2⟩:=h;exact ⟨p,cap,h1,h2.sl,hb⟩
def fo (w:World) (z:Int) (k:Nat) (e:Ending) (w':World):Prop:=∃v,e = .returned v∧nO w' w.heap.size v z∧Bd z.natAbs k∧w.grownBy w' none
theorem fo.of {l:Nat}{e:Ending} (h:fo w z k e w') (hz:z=y) (hk:k<=l):fo w y l e w':=by subst hz;obtain ⟨v,h1,h2,h3,h4⟩:=h;exact ⟨v,h1,h2,h3.more hk,h4⟩
theorem iY (b:Bool) (p:Option Addr) (n cap:Nat) (w:World) :
  Calls prog 57 #[.slice p n cap,.bool b] w λe w'=>e = .returned (.agg #[.slice p n cap,.bool (b && decide (0<n))])∧w.grownBy w' none:=by
 go_enter func57,ntmps57
 cases b
 all_goals
  go_wp2_with fail
  simp [bodyPost,results,results57,go_sem];exact bn _ _ _
theorem afY  (hx:Num w v X k) (hk:k<=1000000):Calls prog 61 #[v] w (iX w X k):=by have b:=hx.bd;obtain ⟨xs,h1,h2,rfl,h3⟩:=hx;exact (afs h1 h2).mono λ_ _ h=>iX.of h b
theorem kh {y:Value} (hres:fn.results = #[ResultVar.cell r 55]) (hd:a.defers = []) (hr:a.tmps[r]?=some (.pointer (some ⟨g,0,none⟩)))
  (h0:(set2 w g (.slice p n cap) (.bool (b && decide (0<n)))).cell? ⟨g,0,none⟩=some x) (h1:(set2 w g (.slice p n cap) (.bool (b && decide (0<n)))).cell? ⟨g,1,none⟩=some y)
  (hG:W.grownBy (set2 w g (.slice p n cap) (.bool (b && decide (0<n)))) none)
  (ho:Own w 3 .i64 B (.slice p n cap) (an 10000 X)) (hB:W.heap.size<=B) (hg:g<B) (hn:(an 10000 X).length=n) (hz:sg b X=z) (hb:Bd X k) :
  bodyPost prog fn (fo W z k) .ret a (set2 w g (.slice p n cap) (.bool (b && decide (0<n)))):=by
 subst hz hn;refine tA hres hd hr (qI h0) (qJ h1) ⟨_,rfl,⟨p,cap,?_,?_⟩,by rw [eO];exact hb,hG⟩
 ·rw [pc,eO,nj _ _]
 ·rw [eO];exact ((ho.mono hB).grown (iR _ _ _ _) (own_ne ho hg))
theorem afZ {y:Value} (hres:fn.results = #[ResultVar.cell r 55]) (hd:a.defers = []) (hr:a.tmps[r]?=some (.pointer (some ⟨g,0,none⟩)))
  (h0:(set2 w g u v).cell? ⟨g,0,none⟩=some x) (h1:(set2 w g u v).cell? ⟨g,1,none⟩=some y) (hG:W.grownBy (set2 w g u v) none)
  (ho:nO w B (.agg #[u,v]) z) (hB:W.heap.size<=B) (hg:g<B) (hb:Bd z.natAbs k):bodyPost prog fn (fo W z k) .ret a (set2 w g u v):=by
 refine tA hres hd hr (qI h0) (qJ h1) ⟨_,rfl,?_,hb,hG⟩;obtain ⟨p,cap,h2,h3⟩:=ho;refine ⟨p,cap,h2,?_⟩;simp only [Value.agg.injEq,Array.mk.injEq,List.cons.injEq,and_true] at h2;obtain ⟨rfl,-⟩:=h2;exact ((h3.mono hB).grown (iR _ _ _ _) (own_ne h3 hg))
set_option maxHeartbeats 1000000 in
theorem aff  (hx:aD w v z k) (hk:k<=1000000) :
  Calls prog 27 #[v] w (fo w z k):=by
 obtain ⟨b,s,X,rfl,hx,rfl⟩:=hx;obtain ⟨p,n,cap,rfl⟩:=hx.slice;have Hx:=hid hx;clear hx;have S0:Kept w [(w.heap.size,0,.bool b),(w.heap.size,1,.slice p n cap)] [w.heap.size+1] ((w.alloc (.cells #[.bool b,.slice p n cap] 28)).alloc (.cells #[.slice none 0 0,.bool false] 55)):=((Kept.start w).box _ _ _ _ rfl).res _ _ _ _ _ (by simp);go_enter func27,ntmps27
 go_wp2_with fail
 go_region_held3 (λw'=>w'.cell? ⟨w.heap.size,0,none⟩=some (.bool b)∧w'.cell? ⟨w.heap.size,1,none⟩=some (.slice p n cap)∧w'.cell? ⟨w.heap.size+1,0,none⟩=some (cellOf w' ⟨w.heap.size+1,0,none⟩)∧w'.cell? ⟨w.heap.size+1,1,none⟩=some (cellOf w' ⟨w.heap.size+1,1,none⟩)∧w'.frozen? ⟨w.heap.size+1,0,none⟩=false∧w'.frozen? ⟨w.heap.size+1,1,none⟩=false∧w.grownBy w' none) (first | exact Kept.step (W:=w) [(w.heap.size,0,.bool b),(w.heap.size,1,.slice p n cap)] [w.heap.size+1] (by assumption) (by assumption) | exact Kept.set (W:=w) [(w.heap.size,0,.bool b),(w.heap.size,1,.slice p n cap)] [w.heap.size+1] (by simp <;> omega) (by first | omega | (simp <;> omega)) (by assumption) | exact Kept.step [(w.heap.size,0,.bool b),(w.heap.size,1,.slice p n cap)] [w.heap.size+1] (ec _ _) S0)
  (first | (go_at_call 61;refine (afY (Hx.out.grown (by go_split_ands;assumption)) hk).mono ?_;rintro e w' ⟨v,rfl,h,bd,hg⟩;obtain ⟨pv,nv,rfl⟩:=h.slice) | (go_at_call 57;refine (iY _ _ _ _ _).mono ?_;rintro e w' ⟨rfl,hg⟩;replace h:=h.grown hg (.inl rfl)))
 rename_i hend;go_wp2_with fail
 exact kh results27 rfl rfl hend.2.2.1 hend.2.2.2.1 hend.2.2.2.2.2.2 h (by first | omega | (simp <;> omega)) (by first | omega | (simp <;> omega)) rfl rfl bd
set_option maxHeartbeats 1000000 in
theorem afh  (hx:ai w v z k) (hk:k<=1000000) :
  Calls prog 25 #[v] w (fj w z k):=by
 have bx:=hx.bd;obtain ⟨p,cap,rfl,hx⟩:=hx;have Hx:=hid hx;clear hx;have S0:Kept w [(w.heap.size,0,.slice p (an 10000 z.natAbs).length cap),(w.heap.size,1,.bool (decide (z<0)))] [w.heap.size+1] ((w.alloc (.cells #[.slice p (an 10000 z.natAbs).length cap,.bool (decide (z<0))] 55)).alloc (.cells #[.bool false,.slice none 0 0] 28)):=((Kept.start w).box _ _ _ _ rfl).res _ _ _ _ _ (by simp);go_enter func25,ntmps25
 go_wp2_with fail
 go_region_held3 (λw'=>w'.cell? ⟨w.heap.size,0,none⟩=some (.slice p (an 10000 z.natAbs).length cap)∧w'.cell? ⟨w.heap.size,1,none⟩=some (.bool (decide (z<0)))∧w'.cell? ⟨w.heap.size+1,0,none⟩=some (cellOf w' ⟨w.heap.size+1,0,none⟩)∧w'.cell? ⟨w.heap.size+1,1,none⟩=some (cellOf w' ⟨w.heap.size+1,1,none⟩)∧w'.frozen? ⟨w.heap.size+1,0,none⟩=false∧w'.frozen? ⟨w.heap.size+1,1,none⟩=false∧w.grownBy w' none) (first | exact Kept.step (W:=w) [(w.heap.size,0,.slice p (an 10000 z.natAbs).length cap),(w.heap.size,1,.bool (decide (z<0)))] [w.heap.size+1] (by assumption) (by assumption) | exact Kept.set (W:=w) [(w.heap.size,0,.slice p (an 10000 z.natAbs).length cap),(w.heap.size,1,.bool (decide (z<0)))] [w.heap.size+1] (by simp <;> omega) (by first | omega | (simp <;> omega)) (by assumption) | exact Kept.step [(w.heap.size,0,.slice p (an 10000 z.natAbs).length cap),(w.heap.size,1,.bool (decide (z<0)))] [w.heap.size+1] (ec _ _) S0)
  (first | (go_at_call 59;refine (Kl (Hx.out.grown (by go_split_ands;assumption)).1 (by have:=Hx.out.len;omega)).mono ?_;rintro e w' ⟨v,rfl,h,hg⟩;obtain ⟨pv,nv,rfl⟩:=h.slice))
 rename_i hend;go_wp2_with fail
 exact tC results25 rfl rfl hend.2.2.1 hend.2.2.2.1 hend.2.2.2.2.2.2 ⟨_,_,rfl,h⟩ (by first | omega | (simp <;> omega)) (by first | omega | (simp <;> omega)) bx
set_option maxHeartbeats 1000000 in
theorem Kg  (hx:ai w v z k) :
  Calls prog 83 #[v] w λe w'=>∃v,e = .returned v∧ai w' v (-z) k∧w.grownBy w' none:=by
 have bx:=hx.bd;obtain ⟨p,cap,rfl,hx⟩:=hx;have Hx:=hid hx;clear hx;clear bx;have S0:Kept w [(w.heap.size,0,.slice p (an 10000 z.natAbs).length cap),(w.heap.size,1,.bool (decide (z<0)))] [w.heap.size+1] ((w.alloc (.cells #[.slice p (an 10000 z.natAbs).length cap,.bool (decide (z<0))] 55)).alloc (.cells #[.slice none 0 0,.bool false] 55)):=((Kept.start w).box _ _ _ _ rfl).res _ _ _ _ _ (by simp);go_enter func83,ntmps83
 go_wp2_with fail
 refine (iY _ _ _ _ _).mono ?_;rintro e w1 ⟨rfl,hg⟩;replace S0:=Kept.grown _ _ S0 hg;clear hg;obtain ⟨c0,c1,r0,r1,f0,f1,G⟩:=id S0;go_wp2_with fail
 have G2:=Kept.all _ _ (Kept.set (g:=w.heap.size+1) (u:=.slice p (an 10000 z.natAbs).length cap) (v:=.bool (!decide (z<0) && decide (0<(an 10000 z.natAbs).length))) _ _ (by simp <;> omega) (by omega) S0);refine tA results83 rfl rfl (eQ r0) (eR r1) ⟨_,rfl,⟨p,cap,?_,?_⟩,G2⟩
 ·rw [Int.natAbs_neg,nj _ _];congr 5;rw [Bool.eq_iff_iff];simp;omega
 ·rw [Int.natAbs_neg];exact Hx.out.grown G2
theorem Ih  (hx:ai w v z k) :
  Calls prog 70 #[v] w λe w'=>e = .returned (.int .i64 (cK z 0))∧w.grownBy w' none:=by
 have bx:=hx.bd;obtain ⟨p,cap,rfl,hx⟩:=hx;have Hx:=hid hx;clear hx;clear bx Hx;have hl:=gy (b:=10000) (n:=z.natAbs);generalize (an 10000 z.natAbs).length=l at *
 by_cases h0:z=0
 ·obtain rfl:l=0:=by omega
  subst h0;go_enter func70,ntmps70
  go_wp2_with fail
  go_ret
  exact ⟨rfl,bn _ _ _⟩
 ·have hl':(l:Int)≠0:=by omega
  by_cases hn:z<0
  ·rw [cK,if_pos hn,decide_eq_true hn];clear hl;go_enter func70,ntmps70
   go_wp2_with fail
   go_ret
   exact ⟨rfl,bn _ _ _⟩
  ·rw [cK,if_neg hn,if_neg h0,decide_eq_false hn];clear hl;go_enter func70,ntmps70
   go_wp2_with fail
   go_ret
   exact ⟨rfl,bn _ _ _⟩
set_option maxHeartbeats 2000000 in
theorem af0 {b':Bool} (hx:db w (.slice p n cap) X i) (hy:db w (.slice q m cap') Y j) (hi:i+j<=1000000) :
  Calls prog 26 #[.agg #[.slice p n cap,.bool b],.agg #[.slice q m cap',.bool b']] w (fo w (sg b X*sg b' Y) (i+j)):=by
 have Hx:=hid hx;have Hy:=hid hy;have S0:Kept w [(w.heap.size+1,0,(.slice q m cap')),(w.heap.size+1,1,(.bool b')),(w.heap.size,0,(.slice p n cap)),(w.heap.size,1,(.bool b))] [w.heap.size+1+1] (((w.alloc (.cells #[.slice p n cap,.bool b] 55)).alloc (.cells #[.slice q m cap',.bool b'] 55)).alloc (.cells #[.slice none 0 0,.bool false] 55)):=(((Kept.start w).box _ _ _ _ rfl).box _ _ _ _ (by simp)).res _ _ _ _ _ (by simp);clear hx hy;go_enter func26,ntmps26
 go_wp2_with fail
 go_region_held3 (λw'=>w'.cell? ⟨w.heap.size+1,0,none⟩=some ((.slice q m cap'))∧w'.cell? ⟨w.heap.size+1,1,none⟩=some ((.bool b'))∧w'.cell? ⟨w.heap.size,0,none⟩=some ((.slice p n cap))∧w'.cell? ⟨w.heap.size,1,none⟩=some ((.bool b))∧w'.cell? ⟨w.heap.size+1+1,0,none⟩=some (cellOf w' ⟨w.heap.size+1+1,0,none⟩)∧w'.cell? ⟨w.heap.size+1+1,1,none⟩=some (cellOf w' ⟨w.heap.size+1+1,1,none⟩)∧w'.frozen? ⟨w.heap.size+1+1,0,none⟩=false∧w'.frozen? ⟨w.heap.size+1+1,1,none⟩=false∧w.grownBy w' none) (first | exact Kept.step (W:=w) [(w.heap.size+1,0,(.slice q m cap')),(w.heap.size+1,1,(.bool b')),(w.heap.size,0,(.slice p n cap)),(w.heap.size,1,(.bool b))] [w.heap.size+1+1] (by assumption) (by assumption) | exact Kept.set (W:=w) [(w.heap.size+1,0,(.slice q m cap')),(w.heap.size+1,1,(.bool b')),(w.heap.size,0,(.slice p n cap)),(w.heap.size,1,(.bool b))] [w.heap.size+1+1] (by simp <;> omega) (by first | omega | (simp <;> omega)) (by assumption) | exact Kept.step [(w.heap.size+1,0,(.slice q m cap')),(w.heap.size+1,1,(.bool b')),(w.heap.size,0,(.slice p n cap)),(w.heap.size,1,(.bool b))] [w.heap.size+1+1] (ec _ _) S0)
  (first | (go_at_call 60;refine (afU (Hx.out.grown (by go_split_ands;assumption)) (Hy.out.grown (by go_split_ands;assumption))).mono ?_;rintro e w' ⟨v,rfl,h,bd,hg⟩;obtain ⟨pv,nv,rfl⟩:=h.slice) | (go_at_call 57;refine (iY _ _ _ _ _).mono ?_;rintro e w' ⟨rfl,hg⟩;replace h:=h.grown hg (.inl rfl)))
 rename_i hend;go_wp2_with fail
 exact kh results26 rfl rfl hend.2.2.2.2.1 hend.2.2.2.2.2.1 hend.2.2.2.2.2.2.2.2 h (by first | omega | (simp <;> omega)) (by first | omega | (simp <;> omega)) rfl (EX _ _ _ _) bd
set_option maxHeartbeats 2000000 in
theorem Kv  (hx:db w (.slice p n cap) X i) (hy:db w (.slice q m cap') Y j) (hi:i+j<=1000000) :
  Calls prog 66 #[.agg #[.slice p n cap,.bool b],.agg #[.slice q m cap',.bool b]] w (fo w (sg b X+sg b Y) (i+j+1)):=by
 have Hx:=hid hx;have Hy:=hid hy;have S0:Kept w [(w.heap.size+1,0,(.slice q m cap')),(w.heap.size+1,1,(.bool b)),(w.heap.size,0,(.slice p n cap)),(w.heap.size,1,(.bool b))] [w.heap.size+1+1] (((w.alloc (.cells #[.slice p n cap,.bool b] 55)).alloc (.cells #[.slice q m cap',.bool b] 55)).alloc (.cells #[.slice none 0 0,.bool false] 55)):=(((Kept.start w).box _ _ _ _ rfl).box _ _ _ _ (by simp)).res _ _ _ _ _ (by simp);clear hx hy;go_enter func66,ntmps66
 obtain ⟨c0,c1,c2,c3,r0,r1,r2,r3,G⟩:=id S0;go_wp2_with fail
 go_region_held3 (λw'=>w'.cell? ⟨w.heap.size+1,0,none⟩=some ((.slice q m cap'))∧w'.cell? ⟨w.heap.size+1,1,none⟩=some ((.bool b))∧w'.cell? ⟨w.heap.size,0,none⟩=some ((.slice p n cap))∧w'.cell? ⟨w.heap.size,1,none⟩=some ((.bool b))∧w'.cell? ⟨w.heap.size+1+1,0,none⟩=some (cellOf w' ⟨w.heap.size+1+1,0,none⟩)∧w'.cell? ⟨w.heap.size+1+1,1,none⟩=some (cellOf w' ⟨w.heap.size+1+1,1,none⟩)∧w'.frozen? ⟨w.heap.size+1+1,0,none⟩=false∧w'.frozen? ⟨w.heap.size+1+1,1,none⟩=false∧w.grownBy w' none) (first | exact Kept.step (W:=w) [(w.heap.size+1,0,(.slice q m cap')),(w.heap.size+1,1,(.bool b)),(w.heap.size,0,(.slice p n cap)),(w.heap.size,1,(.bool b))] [w.heap.size+1+1] (by assumption) (by assumption) | exact Kept.set (W:=w) [(w.heap.size+1,0,(.slice q m cap')),(w.heap.size+1,1,(.bool b)),(w.heap.size,0,(.slice p n cap)),(w.heap.size,1,(.bool b))] [w.heap.size+1+1] (by simp <;> omega) (by first | omega | (simp <;> omega)) (by assumption) | exact Kept.step [(w.heap.size+1,0,(.slice q m cap')),(w.heap.size+1,1,(.bool b)),(w.heap.size,0,(.slice p n cap)),(w.heap.size,1,(.bool b))] [w.heap.size+1+1] (ec _ _) S0)
  (first | (go_at_call 108;refine (afT (Hx.out.grown (by go_split_ands;assumption)) (Hy.out.grown (by go_split_ands;assumption))).mono ?_;rintro e w' ⟨v,rfl,h,bd,hg⟩;obtain ⟨pv,nv,rfl⟩:=h.slice) | (go_at_call 57;refine (iY _ _ _ _ _).mono ?_;rintro e w' ⟨rfl,hg⟩;replace h:=h.grown hg (.inl rfl)))
 rename_i hend;go_wp2_with fail
 exact kh results66 rfl rfl hend.2.2.2.2.1 hend.2.2.2.2.2.1 hend.2.2.2.2.2.2.2.2 h (by first | omega | (simp <;> omega)) (by first | omega | (simp <;> omega)) rfl (EY _ _ _) bd
set_option maxHeartbeats 2000000 in
theorem af1  (hx:db w (.slice p n cap) X i) (hy:db w (.slice q m cap') Y j) (hi:i+j<=1000000) (hc:Y<=X) :
  Calls prog 66 #[.agg #[.slice p n cap,.bool true],.agg #[.slice q m cap',.bool false]] w (fo w (sg true (X-Y)) (i)):=by
 have Hx:=hid hx;have Hy:=hid hy;have Hc:=hid hc;have S0:Kept w [(w.heap.size+1,0,(.slice q m cap')),(w.heap.size+1,1,(.bool false)),(w.heap.size,0,(.slice p n cap)),(w.heap.size,1,(.bool true))] [w.heap.size+1+1] (((w.alloc (.cells #[.slice p n cap,.bool true] 55)).alloc (.cells #[.slice q m cap',.bool false] 55)).alloc (.cells #[.slice none 0 0,.bool false] 55)):=(((Kept.start w).box _ _ _ _ rfl).box _ _ _ _ (by simp)).res _ _ _ _ _ (by simp);clear hx hy hc;go_enter func66,ntmps66
 go_wp2_with fail
 refine (uE (Hx.out.grown (Kept.all _ _ S0)) (Hy.out.grown (Kept.all _ _ S0))).mono ?_;rintro e w1 ⟨rfl,hg⟩;have hge:=xr Hc.out;generalize dq X Y=r at *
 have s1:=hg.size;have s2:=S0.lt (g:=w.heap.size+1+1) (by simp);have Sq:=S0.size;replace S0:=Kept.grown _ _ S0 hg;clear hg;obtain ⟨c0,c1,c2,c3,r0,r1,r2,r3,G⟩:=id S0;go_wp2_with fail
 go_region_held3 (λw'=>w'.cell? ⟨w.heap.size+1,0,none⟩=some ((.slice q m cap'))∧w'.cell? ⟨w.heap.size+1,1,none⟩=some ((.bool false))∧w'.cell? ⟨w.heap.size,0,none⟩=some ((.slice p n cap))∧w'.cell? ⟨w.heap.size,1,none⟩=some ((.bool true))∧w'.cell? ⟨w.heap.size+1+1,0,none⟩=some (cellOf w' ⟨w.heap.size+1+1,0,none⟩)∧w'.cell? ⟨w.heap.size+1+1,1,none⟩=some (cellOf w' ⟨w.heap.size+1+1,1,none⟩)∧w'.frozen? ⟨w.heap.size+1+1,0,none⟩=false∧w'.frozen? ⟨w.heap.size+1+1,1,none⟩=false∧w.grownBy w' none) (first | exact Kept.step (W:=w) [(w.heap.size+1,0,(.slice q m cap')),(w.heap.size+1,1,(.bool false)),(w.heap.size,0,(.slice p n cap)),(w.heap.size,1,(.bool true))] [w.heap.size+1+1] (by assumption) (by assumption) | exact Kept.set (W:=w) [(w.heap.size+1,0,(.slice q m cap')),(w.heap.size+1,1,(.bool false)),(w.heap.size,0,(.slice p n cap)),(w.heap.size,1,(.bool true))] [w.heap.size+1+1] (by simp <;> omega) (by first | omega | (simp <;> omega)) (by assumption) | exact Kept.step [(w.heap.size+1,0,(.slice q m cap')),(w.heap.size+1,1,(.bool false)),(w.heap.size,0,(.slice p n cap)),(w.heap.size,1,(.bool true))] [w.heap.size+1+1] (ec _ _) S0)
  (first | (go_at_call 110;refine (uD (Hx.out.grown (by go_split_ands;assumption)) (Hy.out.grown (by go_split_ands;assumption)) Hc.out).mono ?_;rintro e w' ⟨v,rfl,h,bd,hg⟩;obtain ⟨pv,nv,rfl⟩:=h.slice) | (go_at_call 57;refine (iY _ _ _ _ _).mono ?_;rintro e w' ⟨rfl,hg⟩;replace h:=h.grown hg (.inl rfl)))
 rename_i hend;go_wp2_with fail
 exact kh (b:=true) results66 rfl rfl hend.2.2.2.2.1 hend.2.2.2.2.2.1 hend.2.2.2.2.2.2.2.2 h (by simp at s1 s2 Sq ⊢ <;> omega) (by simp at s1 s2 Sq ⊢ <;> omega) rfl (rfl) bd
set_option maxHeartbeats 2000000 in
theorem af2 {i:Nat} (hx:db w (.slice p n cap) X i) (hy:db w (.slice q m cap') Y j) (hi:i+j<=1000000) (hc:X<Y:=by omega) :
  Calls prog 66 #[.agg #[.slice p n cap,.bool true],.agg #[.slice q m cap',.bool false]] w (fo w (sg false (Y-X)) (j)):=by
 have Hx:=hid hx;have Hy:=hid hy;have Hc:=hid hc;have S0:Kept w [(w.heap.size+1,0,(.slice q m cap')),(w.heap.size+1,1,(.bool false)),(w.heap.size,0,(.slice p n cap)),(w.heap.size,1,(.bool true))] [w.heap.size+1+1] (((w.alloc (.cells #[.slice p n cap,.bool true] 55)).alloc (.cells #[.slice q m cap',.bool false] 55)).alloc (.cells #[.slice none 0 0,.bool false] 55)):=(((Kept.start w).box _ _ _ _ rfl).box _ _ _ _ (by simp)).res _ _ _ _ _ (by simp);clear hx hy hc;go_enter func66,ntmps66
 go_wp2_with fail
 refine (uE (Hx.out.grown (Kept.all _ _ S0)) (Hy.out.grown (Kept.all _ _ S0))).mono ?_;rintro e w1 ⟨rfl,hg⟩;rw [lN Hc.out];have s1:=hg.size;have s2:=S0.lt (g:=w.heap.size+1+1) (by simp);have Sq:=S0.size;replace S0:=Kept.grown _ _ S0 hg;clear hg;obtain ⟨c0,c1,c2,c3,r0,r1,r2,r3,G⟩:=id S0;go_wp2_with fail
 go_region_held3 (λw'=>w'.cell? ⟨w.heap.size+1,0,none⟩=some ((.slice q m cap'))∧w'.cell? ⟨w.heap.size+1,1,none⟩=some ((.bool false))∧w'.cell? ⟨w.heap.size,0,none⟩=some ((.slice p n cap))∧w'.cell? ⟨w.heap.size,1,none⟩=some ((.bool true))∧w'.cell? ⟨w.heap.size+1+1,0,none⟩=some (cellOf w' ⟨w.heap.size+1+1,0,none⟩)∧w'.cell? ⟨w.heap.size+1+1,1,none⟩=some (cellOf w' ⟨w.heap.size+1+1,1,none⟩)∧w'.frozen? ⟨w.heap.size+1+1,0,none⟩=false∧w'.frozen? ⟨w.heap.size+1+1,1,none⟩=false∧w.grownBy w' none) (first | exact Kept.step (W:=w) [(w.heap.size+1,0,(.slice q m cap')),(w.heap.size+1,1,(.bool false)),(w.heap.size,0,(.slice p n cap)),(w.heap.size,1,(.bool true))] [w.heap.size+1+1] (by assumption) (by assumption) | exact Kept.set (W:=w) [(w.heap.size+1,0,(.slice q m cap')),(w.heap.size+1,1,(.bool false)),(w.heap.size,0,(.slice p n cap)),(w.heap.size,1,(.bool true))] [w.heap.size+1+1] (by simp <;> omega) (by first | omega | (simp <;> omega)) (by assumption) | exact Kept.step [(w.heap.size+1,0,(.slice q m cap')),(w.heap.size+1,1,(.bool false)),(w.heap.size,0,(.slice p n cap)),(w.heap.size,1,(.bool true))] [w.heap.size+1+1] (ec _ _) S0)
  (first | (go_at_call 110;refine (uD (Hy.out.grown (by go_split_ands;assumption)) (Hx.out.grown (by go_split_ands;assumption)) (Nat.le_of_lt Hc.out)).mono ?_;rintro e w' ⟨v,rfl,h,bd,hg⟩;obtain ⟨pv,nv,rfl⟩:=h.slice) | (go_at_call 57;refine (iY _ _ _ _ _).mono ?_;rintro e w' ⟨rfl,hg⟩;replace h:=h.grown hg (.inl rfl)))
 rename_i hend;go_wp2_with fail
 exact kh (b:=false) results66 rfl rfl hend.2.2.2.2.1 hend.2.2.2.2.2.1 hend.2.2.2.2.2.2.2.2 h (by simp at s1 s2 Sq ⊢ <;> omega) (by simp at s1 s2 Sq ⊢ <;> omega) rfl (rfl) bd
set_option maxHeartbeats 2000000 in
theorem af3  (hx:db w (.slice p n cap) X i) (hy:db w (.slice q m cap') Y j) (hi:i+j<=1000000) (hc:Y<=X) :
  Calls prog 66 #[.agg #[.slice p n cap,.bool false],.agg #[.slice q m cap',.bool true]] w (fo w (sg false (X-Y)) (i)):=by
 have Hx:=hid hx;have Hy:=hid hy;have Hc:=hid hc;have S0:Kept w [(w.heap.size+1,0,(.slice q m cap')),(w.heap.size+1,1,(.bool true)),(w.heap.size,0,(.slice p n cap)),(w.heap.size,1,(.bool false))] [w.heap.size+1+1] (((w.alloc (.cells #[.slice p n cap,.bool false] 55)).alloc (.cells #[.slice q m cap',.bool true] 55)).alloc (.cells #[.slice none 0 0,.bool false] 55)):=(((Kept.start w).box _ _ _ _ rfl).box _ _ _ _ (by simp)).res _ _ _ _ _ (by simp);clear hx hy hc;go_enter func66,ntmps66
 go_wp2_with fail
 refine (uE (Hx.out.grown (Kept.all _ _ S0)) (Hy.out.grown (Kept.all _ _ S0))).mono ?_;rintro e w1 ⟨rfl,hg⟩;have hge:=xr Hc.out;generalize dq X Y=r at *
 have s1:=hg.size;have s2:=S0.lt (g:=w.heap.size+1+1) (by simp);have Sq:=S0.size;replace S0:=Kept.grown _ _ S0 hg;clear hg;obtain ⟨c0,c1,c2,c3,r0,r1,r2,r3,G⟩:=id S0;go_wp2_with fail
 go_region_held3 (λw'=>w'.cell? ⟨w.heap.size+1,0,none⟩=some ((.slice q m cap'))∧w'.cell? ⟨w.heap.size+1,1,none⟩=some ((.bool true))∧w'.cell? ⟨w.heap.size,0,none⟩=some ((.slice p n cap))∧w'.cell? ⟨w.heap.size,1,none⟩=some ((.bool false))∧w'.cell? ⟨w.heap.size+1+1,0,none⟩=some (cellOf w' ⟨w.heap.size+1+1,0,none⟩)∧w'.cell? ⟨w.heap.size+1+1,1,none⟩=some (cellOf w' ⟨w.heap.size+1+1,1,none⟩)∧w'.frozen? ⟨w.heap.size+1+1,0,none⟩=false∧w'.frozen? ⟨w.heap.size+1+1,1,none⟩=false∧w.grownBy w' none) (first | exact Kept.step (W:=w) [(w.heap.size+1,0,(.slice q m cap')),(w.heap.size+1,1,(.bool true)),(w.heap.size,0,(.slice p n cap)),(w.heap.size,1,(.bool false))] [w.heap.size+1+1] (by assumption) (by assumption) | exact Kept.set (W:=w) [(w.heap.size+1,0,(.slice q m cap')),(w.heap.size+1,1,(.bool true)),(w.heap.size,0,(.slice p n cap)),(w.heap.size,1,(.bool false))] [w.heap.size+1+1] (by simp <;> omega) (by first | omega | (simp <;> omega)) (by assumption) | exact Kept.step [(w.heap.size+1,0,(.slice q m cap')),(w.heap.size+1,1,(.bool true)),(w.heap.size,0,(.slice p n cap)),(w.heap.size,1,(.bool false))] [w.heap.size+1+1] (ec _ _) S0)
  (first | (go_at_call 110;refine (uD (Hx.out.grown (by go_split_ands;assumption)) (Hy.out.grown (by go_split_ands;assumption)) Hc.out).mono ?_;rintro e w' ⟨v,rfl,h,bd,hg⟩;obtain ⟨pv,nv,rfl⟩:=h.slice) | (go_at_call 57;refine (iY _ _ _ _ _).mono ?_;rintro e w' ⟨rfl,hg⟩;replace h:=h.grown hg (.inl rfl)))
 rename_i hend;go_wp2_with fail
 exact kh (b:=false) results66 rfl rfl hend.2.2.2.2.1 hend.2.2.2.2.2.1 hend.2.2.2.2.2.2.2.2 h (by simp at s1 s2 Sq ⊢ <;> omega) (by simp at s1 s2 Sq ⊢ <;> omega) rfl (rfl) bd
set_option maxHeartbeats 2000000 in
theorem af4 {i:Nat} (hx:db w (.slice p n cap) X i) (hy:db w (.slice q m cap') Y j) (hi:i+j<=1000000) (hc:X<Y:=by omega) :
  Calls prog 66 #[.agg #[.slice p n cap,.bool false],.agg #[.slice q m cap',.bool true]] w (fo w (sg true (Y-X)) (j)):=by
 have Hx:=hid hx;have Hy:=hid hy;have Hc:=hid hc;have S0:Kept w [(w.heap.size+1,0,(.slice q m cap')),(w.heap.size+1,1,(.bool true)),(w.heap.size,0,(.slice p n cap)),(w.heap.size,1,(.bool false))] [w.heap.size+1+1] (((w.alloc (.cells #[.slice p n cap,.bool false] 55)).alloc (.cells #[.slice q m cap',.bool true] 55)).alloc (.cells #[.slice none 0 0,.bool false] 55)):=(((Kept.start w).box _ _ _ _ rfl).box _ _ _ _ (by simp)).res _ _ _ _ _ (by simp);clear hx hy hc;go_enter func66,ntmps66
 go_wp2_with fail
 refine (uE (Hx.out.grown (Kept.all _ _ S0)) (Hy.out.grown (Kept.all _ _ S0))).mono ?_;rintro e w1 ⟨rfl,hg⟩;rw [lN Hc.out];have s1:=hg.size;have s2:=S0.lt (g:=w.heap.size+1+1) (by simp);have Sq:=S0.size;replace S0:=Kept.grown _ _ S0 hg;clear hg;obtain ⟨c0,c1,c2,c3,r0,r1,r2,r3,G⟩:=id S0;go_wp2_with fail
 go_region_held3 (λw'=>w'.cell? ⟨w.heap.size+1,0,none⟩=some ((.slice q m cap'))∧w'.cell? ⟨w.heap.size+1,1,none⟩=some ((.bool true))∧w'.cell? ⟨w.heap.size,0,none⟩=some ((.slice p n cap))∧w'.cell? ⟨w.heap.size,1,none⟩=some ((.bool false))∧w'.cell? ⟨w.heap.size+1+1,0,none⟩=some (cellOf w' ⟨w.heap.size+1+1,0,none⟩)∧w'.cell? ⟨w.heap.size+1+1,1,none⟩=some (cellOf w' ⟨w.heap.size+1+1,1,none⟩)∧w'.frozen? ⟨w.heap.size+1+1,0,none⟩=false∧w'.frozen? ⟨w.heap.size+1+1,1,none⟩=false∧w.grownBy w' none) (first | exact Kept.step (W:=w) [(w.heap.size+1,0,(.slice q m cap')),(w.heap.size+1,1,(.bool true)),(w.heap.size,0,(.slice p n cap)),(w.heap.size,1,(.bool false))] [w.heap.size+1+1] (by assumption) (by assumption) | exact Kept.set (W:=w) [(w.heap.size+1,0,(.slice q m cap')),(w.heap.size+1,1,(.bool true)),(w.heap.size,0,(.slice p n cap)),(w.heap.size,1,(.bool false))] [w.heap.size+1+1] (by simp <;> omega) (by first | omega | (simp <;> omega)) (by assumption) | exact Kept.step [(w.heap.size+1,0,(.slice q m cap')),(w.heap.size+1,1,(.bool true)),(w.heap.size,0,(.slice p n cap)),(w.heap.size,1,(.bool false))] [w.heap.size+1+1] (ec _ _) S0)
  (first | (go_at_call 110;refine (uD (Hy.out.grown (by go_split_ands;assumption)) (Hx.out.grown (by go_split_ands;assumption)) (Nat.le_of_lt Hc.out)).mono ?_;rintro e w' ⟨v,rfl,h,bd,hg⟩;obtain ⟨pv,nv,rfl⟩:=h.slice) | (go_at_call 57;refine (iY _ _ _ _ _).mono ?_;rintro e w' ⟨rfl,hg⟩;replace h:=h.grown hg (.inl rfl)))
 rename_i hend;go_wp2_with fail
 exact kh (b:=true) results66 rfl rfl hend.2.2.2.2.1 hend.2.2.2.2.2.1 hend.2.2.2.2.2.2.2.2 h (by simp at s1 s2 Sq ⊢ <;> omega) (by simp at s1 s2 Sq ⊢ <;> omega) rfl (rfl) bd
theorem ai.open  (h:ai w v z k):∃(b:Bool) (p:Option Addr) (n cap X:Nat),v = .agg #[.slice p n cap,.bool b]∧db w (.slice p n cap) X k∧z=sg b X:=by obtain ⟨p,cap,h1,h2⟩:=h;exact ⟨_,p,_,cap,_,h1,h2,(xz z).symm⟩
theorem afb  (hx:ai w v z i) (hy:ai w u y j) (hi:i+j<=1000000) :
  Calls prog 26 #[v,u] w (fo w (z*y) (i+j)):=by
 obtain ⟨b,p,n,cap,X,rfl,dx,rfl⟩:=hx.open;obtain ⟨b',q,m,cap',Y,rfl,dy,rfl⟩:=hy.open;exact af0 dx dy hi
theorem Ke  (hx:ai w v z i) (hy:ai w u y j) (hi:i+j<=1000000) :
  Calls prog 66 #[v,u] w (fo w (z+y) (i+j+1)):=by
 obtain ⟨b,p,n,cap,X,rfl,dx,rfl⟩:=hx.open;obtain ⟨b',q,m,cap',Y,rfl,dy,rfl⟩:=hy.open;cases b <;> cases b'
 ·exact Kv dx dy hi
 ·by_cases hc:Y<=X
  ·exact (af3 dx dy hi hc).mono λ_ _ h=>h.of (by simp [sg];omega) (by omega)
  ·exact (af4 dx dy hi).mono λ_ _ h=>h.of (by simp [sg];omega) (by omega)
 ·by_cases hc:Y<=X
  ·exact (af1 dx dy hi hc).mono λ_ _ h=>h.of (by simp [sg];omega) (by omega)
  ·exact (af2 dx dy hi).mono λ_ _ h=>h.of (by simp [sg];omega) (by omega)
 ·exact Kv dx dy hi
set_option maxHeartbeats 2000000 in
theorem af5  (hx:ai w v z i) (hy:ai w u y j) (hi:i+j<=1000000) :
  Calls prog 71 #[v,u] w (fo w (z-y) (i+j+1)):=by
 have Vx:=hid hx;have Vy:=hid hy;obtain ⟨b,p,n,cap,X,rfl,hx',rfl⟩:=hx.open;obtain ⟨b',q,m,cap',Y,rfl,hy',rfl⟩:=hy.open;clear hx' hy' hx hy;have S0:Kept w [(w.heap.size+1,0,(.slice q m cap')),(w.heap.size+1,1,(.bool b')),(w.heap.size,0,(.slice p n cap)),(w.heap.size,1,(.bool b))] [w.heap.size+1+1] (((w.alloc (.cells #[.slice p n cap,.bool b] 55)).alloc (.cells #[.slice q m cap',.bool b'] 55)).alloc (.cells #[.slice none 0 0,.bool false] 55)):=(((Kept.start w).box _ _ _ _ rfl).box _ _ _ _ (by simp)).res _ _ _ _ _ (by simp);rw [Int.sub_eq_add_neg];go_enter func71,ntmps71
 go_wp2_with fail
 go_region_held3 (λw'=>w'.cell? ⟨w.heap.size+1,0,none⟩=some ((.slice q m cap'))∧w'.cell? ⟨w.heap.size+1,1,none⟩=some ((.bool b'))∧w'.cell? ⟨w.heap.size,0,none⟩=some ((.slice p n cap))∧w'.cell? ⟨w.heap.size,1,none⟩=some ((.bool b))∧w'.cell? ⟨w.heap.size+1+1,0,none⟩=some (cellOf w' ⟨w.heap.size+1+1,0,none⟩)∧w'.cell? ⟨w.heap.size+1+1,1,none⟩=some (cellOf w' ⟨w.heap.size+1+1,1,none⟩)∧w'.frozen? ⟨w.heap.size+1+1,0,none⟩=false∧w'.frozen? ⟨w.heap.size+1+1,1,none⟩=false∧w.grownBy w' none) (first | exact Kept.step (W:=w) [(w.heap.size+1,0,(.slice q m cap')),(w.heap.size+1,1,(.bool b')),(w.heap.size,0,(.slice p n cap)),(w.heap.size,1,(.bool b))] [w.heap.size+1+1] (by assumption) (by assumption) | exact Kept.set (W:=w) [(w.heap.size+1,0,(.slice q m cap')),(w.heap.size+1,1,(.bool b')),(w.heap.size,0,(.slice p n cap)),(w.heap.size,1,(.bool b))] [w.heap.size+1+1] (by simp <;> omega) (by first | omega | (simp <;> omega)) (by assumption) | exact Kept.step [(w.heap.size+1,0,(.slice q m cap')),(w.heap.size+1,1,(.bool b')),(w.heap.size,0,(.slice p n cap)),(w.heap.size,1,(.bool b))] [w.heap.size+1+1] (ec _ _) S0)
  (first | (go_at_call 83;refine (Kg (Vy.out.grown (by go_split_ands;assumption))).mono ?_;rintro e w' ⟨v,rfl,hn,hg⟩) | (go_at_call 66;refine (Ke (Vx.out.grown (by go_split_ands;assumption)) hn hi).mono ?_;have hsz:=hg.size;rintro e w' ⟨v,rfl,h,bd,hg⟩;obtain ⟨pv,nv,rfl,h2⟩:=id h))
 rename_i hend;go_wp2_with fail
 exact afZ results71 rfl rfl hend.2.2.2.2.1 hend.2.2.2.2.2.1 hend.2.2.2.2.2.2.2.2 h (by simp at hsz;omega) (by simp at hsz;omega) bd
theorem af6 (z y:Int):cK (z-y) 0=cK z y:=by unfold cK;split <;> split <;> (try split) <;> (try split) <;> omega
set_option maxHeartbeats 1000000 in
theorem Iv {i:Nat} (r:Int) (hx:ai w v z i) (hy:ai w u y j) (hi:i+j<=1000000) (hr:cK z y=r) :
  Calls prog 40 #[v,u] w λe w'=>e = .returned (.int .i64 r)∧w.grownBy w' none:=by
 subst hr;rw [<- af6];have Vx:=hid hx;have Vy:=hid hy;obtain ⟨b,p,n,cap,X,rfl,hx',rfl⟩:=hx.open;obtain ⟨b',q,m,cap',Y,rfl,hy',rfl⟩:=hy.open;clear hx' hy' hx hy;have S0:Kept w [(w.heap.size+1,0,(.slice q m cap')),(w.heap.size+1,1,(.bool b')),(w.heap.size,0,(.slice p n cap)),(w.heap.size,1,(.bool b))] [] ((w.alloc (.cells #[.slice p n cap,.bool b] 55)).alloc (.cells #[.slice q m cap',.bool b'] 55)):=((Kept.start w).box _ _ _ _ rfl).box _ _ _ _ (by simp);go_enter func40,ntmps40
 go_wp2_with fail
 refine (af5 (Vx.out.grown (Kept.all _ _ S0)) (Vy.out.grown (Kept.all _ _ S0)) hi).mono ?_;rintro e w1 ⟨v,rfl,h,bd,hg⟩;have Hv:=hid (h.Kb bd);have G:=hid (bf (Kept.all _ _ S0) hg);clear S0 hg h bd;go_wp2_with fail
 refine (Ih Hv.out).mono ?_;rintro e w2 ⟨rfl,hg⟩;have G2:=hid (bf G.out hg);clear hg;go_wp2_with fail
 go_ret
 exact ⟨rfl,G2.out⟩
theorem Kw  (h:X<18446744073709551616:=by omega):Bd X 2:=by unfold Bd;omega
theorem Kx  (h:m<9223372036854775809:=by omega):(an 10000 m).length<=5:=iq (by omega) 5 m (by omega)
theorem Ky (l:List Nat) (h:0<m):l ++ an 10000 m=(l ++ [m % 10000]) ++ an 10000 (m / 10000):=by rw [jv (by omega) h];simp
set_option maxHeartbeats 2000000 in
theorem af7 (N:Nat) (w:World) (hN:N<=9223372036854775807:=by omega) :
  Calls prog 24 #[.int .i64 (N:Int)] w (fo w ((N:Int)) 2):=by
 obtain ⟨i0,hi,hz0,hz1,hz2⟩:=info_parts Tryz.infoI;have S0:Kept w [] [w.heap.size] (w.alloc (.cells #[.slice none 0 0,.bool false] 55)):=(Kept.start w).res _ _ _ _ _ rfl;have hq:((N:Int) == (-9223372036854775808:Int))=false:=by rw [beq_eq_false_iff_ne];omega
 have NL:=hid (Kx (m:=N));go_enter func24,ntmps24
 go_wp2_with fail
 generalize w.alloc (.cells #[.slice none 0 0,.bool false] 55)=W1 at *
 have Hs:=S0.size;have Hl:=S0.lt (g:=w.heap.size) (by simp);go_loopw [0,4] (λnv ov wr=>∃(m:Nat) (l:List Nat),m<=N∧nv = .int .i64 m∧Hid (an 10000 N=l ++ an 10000 m)∧Own wr 3 .i64 W1.heap.size ov l∧W1.grownBy wr none) (λnv _ _=>(intOf nv).toNat)
 case atStart=>exact ⟨N,[],Nat.le_refl _,by go_num,rfl,Own.nil _ _ _ _,bH _ _⟩
 case round=>
  obtain ⟨m,l,hm,rfl,hd,ho,gr⟩:=hrel;obtain ⟨op,eZ,rfl⟩:=ho.slice;have Ho:=hid ho;have Gr:=hid gr;clear ho gr;by_cases h0:m=0
  ·subst h0;have hd':=hd.out;rw [jW,List.append_nil] at hd';subst hd';clear hd;go_wp2_with fail
   refine (iY _ _ _ _ _).mono ?_;rintro e w2 ⟨rfl,hg⟩;have h:=Ho.out.grown hg (.inl rfl);replace S0:=S0.grown _ _ (bf Gr.out hg);clear hg;obtain ⟨r0,r1,f0,f1,G⟩:=id S0;go_wp2_with fail
   exact kh (b:=false) results24 rfl rfl (eQ r0) (eR r1) (Kept.all _ _ (Kept.set _ _ (by simp) (Nat.le_refl _) S0)) h Hs Hl rfl rfl (Kw)
  ·have hp:0<m:=by omega
   have Hd2:=hid (show _=_ from hd.out.trans (Ky l hp));have Lz:=hid (show l.length<=5 by
    have:=NL.out;rw [hd.out,List.length_append] at this;omega)
   clear hd;have hp':(0:Int)<(m:Int):=by omega
   go_wp2_with (at_builtin;refine jD rfl _ _ 53 rfl 3 i0 (.int .i64 0) .i64 underlying53 hi hz0 hz1 rfl W1.heap.size (.slice op l.length eZ) l (m % 10000) rfl (Ho.out.grown (bn _ _ none) (.inl rfl)) wr.heap.size rfl ?c1 (by have:=Lz.out;omega) (by have:=Gr.out.size;simp;omega) ?_;(case c1=>exact (World.cell?_alloc_at _ _ _ _ rfl).trans (by simp;try omega));intro v' w3 ho3 g3;have el:=hid ho3;have G3:=hid (ke (v:=.slice op l.length eZ) g3 (Ho.out.grown (bn _ _ none) (.inl rfl)) (bf Gr.out (bn _ _ _)));clear ho3 g3)
   go_roundw
   case rel=>exact ⟨m / 10000,l ++ [m % 10000],by omega,by go_num,Hd2.out,el.out,G3.out⟩
   case measure=>simp [intOf];omega
set_option maxHeartbeats 2000000 in
theorem af8 (N:Nat) (w:World) (hN:N<=9223372036854775807:=by omega) (h0:0<N:=by omega) :
  Calls prog 24 #[.int .i64 (-(N:Int))] w (fo w ((-(N:Int))) 2):=by
 obtain ⟨i0,hi,hz0,hz1,hz2⟩:=info_parts Tryz.infoI;have S0:Kept w [] [w.heap.size] (w.alloc (.cells #[.slice none 0 0,.bool false] 55)):=(Kept.start w).res _ _ _ _ _ rfl;have hq:((-(N:Int)) == (-9223372036854775808:Int))=false:=by rw [beq_eq_false_iff_ne];omega
 have NL:=hid (Kx (m:=N));go_enter func24,ntmps24
 go_wp2_with fail
 generalize w.alloc (.cells #[.slice none 0 0,.bool false] 55)=W1 at *
 have Hs:=S0.size;have Hl:=S0.lt (g:=w.heap.size) (by simp);go_loopw [0,4] (λnv ov wr=>∃(m:Nat) (l:List Nat),m<=N∧nv = .int .i64 m∧Hid (an 10000 N=l ++ an 10000 m)∧Own wr 3 .i64 W1.heap.size ov l∧W1.grownBy wr none) (λnv _ _=>(intOf nv).toNat)
 case atStart=>exact ⟨N,[],Nat.le_refl _,by go_num,rfl,Own.nil _ _ _ _,bH _ _⟩
 case round=>
  obtain ⟨m,l,hm,rfl,hd,ho,gr⟩:=hrel;obtain ⟨op,eZ,rfl⟩:=ho.slice;have Ho:=hid ho;have Gr:=hid gr;clear ho gr;by_cases h0:m=0
  ·subst h0;have hd':=hd.out;rw [jW,List.append_nil] at hd';subst hd';clear hd;go_wp2_with fail
   refine (iY _ _ _ _ _).mono ?_;rintro e w2 ⟨rfl,hg⟩;have h:=Ho.out.grown hg (.inl rfl);replace S0:=S0.grown _ _ (bf Gr.out hg);clear hg;obtain ⟨r0,r1,f0,f1,G⟩:=id S0;go_wp2_with fail
   exact kh (b:=true) results24 rfl rfl (eQ r0) (eR r1) (Kept.all _ _ (Kept.set _ _ (by simp) (Nat.le_refl _) S0)) h Hs Hl rfl rfl (Kw)
  ·have hp:0<m:=by omega
   have Hd2:=hid (show _=_ from hd.out.trans (Ky l hp));have Lz:=hid (show l.length<=5 by
    have:=NL.out;rw [hd.out,List.length_append] at this;omega)
   clear hd;have hp':(0:Int)<(m:Int):=by omega
   go_wp2_with (at_builtin;refine jD rfl _ _ 53 rfl 3 i0 (.int .i64 0) .i64 underlying53 hi hz0 hz1 rfl W1.heap.size (.slice op l.length eZ) l (m % 10000) rfl (Ho.out.grown (bn _ _ none) (.inl rfl)) wr.heap.size rfl ?c1 (by have:=Lz.out;omega) (by have:=Gr.out.size;simp;omega) ?_;(case c1=>exact (World.cell?_alloc_at _ _ _ _ rfl).trans (by simp;try omega));intro v' w3 ho3 g3;have el:=hid ho3;have G3:=hid (ke (v:=.slice op l.length eZ) g3 (Ho.out.grown (bn _ _ none) (.inl rfl)) (bf Gr.out (bn _ _ _)));clear ho3 g3)
   go_roundw
   case rel=>exact ⟨m / 10000,l ++ [m % 10000],by omega,by go_num,Hd2.out,el.out,G3.out⟩
   case measure=>simp [intOf];omega
set_option maxHeartbeats 1000000 in
theorem af9 (w:World):Calls prog 24 #[.int .i64 (-9223372036854775808)] w (fo w (-9223372036854775808) 2):=by
 have S0:Kept w [] [w.heap.size] (w.alloc (.cells #[.slice none 0 0,.bool false] 55)):=(Kept.start w).res _ _ _ _ _ rfl;have hz:sg true (2 ^ 63) = -9223372036854775808:=by simp [sg]
 go_enter func24,ntmps24
 go_wp2_with fail
 have S1:=S0;refine (afX 63 2).mono ?_;rintro e w1 ⟨v,rfl,h,bd,hg⟩;obtain ⟨pv,nv,rfl⟩:=h.slice;replace S0:=S0.grown _ _ hg;clear hg;generalize hP:(2:Nat) ^ 63=P at *
 go_wp2_with fail
 refine (iY _ _ _ _ _).mono ?_;rintro e w2 ⟨rfl,hg⟩;replace h:=h.grown hg (.inl rfl);replace S0:=S0.grown _ _ hg;clear hg;obtain ⟨r0,r1,f0,f1,G⟩:=id S0;go_wp2_with fail
 exact kh (b:=true) results24 rfl rfl (eQ r0) (eR r1) (Kept.all _ _ (Kept.set _ _ (by simp) (Nat.le_refl _) S0)) h S1.size (S1.lt (by simp)) rfl hz bd
theorem afd (z:Int) (w:World) (h1 : -9223372036854775808<=z) (h2:z<=9223372036854775807):Calls prog 24 #[.int .i64 z] w (fo w z 2):=by
 by_cases h3:z = -9223372036854775808
 ·subst h3;exact af9 w
 ·rcases Int.lt_or_le z 0 with h | h
  ·obtain ⟨N,rfl⟩:∃N:Nat,z = -(N:Int):=⟨z.natAbs,by omega⟩;exact af8 N w
  ·obtain ⟨N,rfl⟩:∃N:Nat,z=(N:Int):=⟨z.natAbs,by omega⟩;exact af7 N w
def iy (w:World) (v:Value) (z:Int):Prop:=∃p cap,v = .agg #[.bool (decide (z<0)),.slice p (an 4294967296 z.natAbs).length cap]∧Sl w .u32 (.slice p (an 4294967296 z.natAbs).length cap) (an 4294967296 z.natAbs)
theorem iy.grown  (h:iy w v z) (g:w.grownBy w' none):iy w' v z:=by obtain ⟨p,cap,h1,h2⟩:=h;exact ⟨p,cap,h1,h2.grown g (.inl rfl)⟩
theorem fN.nor  (h:fN w B v z):iy w v z:=by obtain ⟨p,cap,h1,h2⟩:=h;exact ⟨p,cap,h1,h2.sl⟩
theorem iy.ET  (h:iy w v z) (hb:Bd z.natAbs k):aD w v z k:=by obtain ⟨p,cap,h1,h2⟩:=h;exact ⟨_,_,_,h1,(show iQ w _ _ _ from ⟨h2,hb⟩).num,(xz z).symm⟩
set_option maxHeartbeats 2000000 in
theorem aga {k:Nat} (hx:ai w v z k) (hk:k<=1000000) (hu:iy w u z) :
  Calls prog 39 #[v,u] w (FA w true):=by
 obtain ⟨p,cap,rfl,hx⟩:=hx;obtain ⟨q,cap',rfl,hu⟩:=hu;have S0:Kept w [(w.heap.size+1,0,(.bool (decide (z<0)))),(w.heap.size+1,1,(.slice q (an 4294967296 z.natAbs).length cap')),(w.heap.size,0,(.slice p (an 10000 z.natAbs).length cap)),(w.heap.size,1,(.bool (decide (z<0))))] [] ((w.alloc (.cells #[.slice p (an 10000 z.natAbs).length cap,.bool (decide (z<0))] 55)).alloc (.cells #[.bool (decide (z<0)),.slice q (an 4294967296 z.natAbs).length cap'] 28)):=((Kept.start w).box _ _ _ _ rfl).box _ _ _ _ (by simp);have Hx:=hid hx;have Hu:=hid hu;clear hx hu;go_enter func39,ntmps39
 go_wp2_with fail
 refine (Kl (Hx.out.grown (Kept.all _ _ S0)).1 (by have:=Hx.out.len;omega)).mono ?_;rintro e w1 ⟨v,rfl,h,hg⟩;obtain ⟨pv,nv,rfl⟩:=h.slice;replace S0:=S0.grown _ _ hg;obtain ⟨p1,cp1,e1,m1,m2,h3⟩:=h.sl;have hu1:=Hu.out.grown (Kept.all _ _ S0) (.inl rfl);obtain ⟨p2,cp2,e2,-,-,h4⟩:=hu1;simp only [Value.slice.injEq,true_and] at e1 e2;obtain ⟨rfl,rfl⟩:=e1;obtain ⟨rfl,rfl⟩:=e2;clear hg h Hu Hx;generalize an 4294967296 z.natAbs=l at *
 obtain ⟨n,hn⟩:∃n,l.length=n:=⟨_,rfl⟩;have Hn:=hid hn;rw [hn] at S0 m1 ⊢;have nb:n<=9223372036854775807:=by omega
 clear hn m1 m2;have hln:(decide (z<0) != decide (z<0))=false:=by simp
 obtain ⟨c0,c1,c2,c3,G⟩:=id S0;have G1:=hid G;clear G S0;go_wp2_with fail
 go_loopw [25] (λiv wr=>∃(i d:Nat),i<=n∧iv = .int .i64 i∧wr=w1.drewN d) (λiv _=>(n-(intOf iv).toNat))
 case atStart=>exact ⟨0,0,by omega,rfl,rfl⟩
 case round=>
  obtain ⟨i,d,hi,rfl,rfl⟩:=hrel;by_cases hlt:i<n
  ·rcases h3 with h3 | ⟨b1,o1,rfl,hb1,hy1⟩
   ·have:=Hn.out;rw [h3] at this;simp at this;omega
   rcases h4 with h4 | ⟨b2,o2,rfl,hb2,hy2⟩
   ·have:=Hn.out;rw [h4] at this;simp at this;omega
   have d1:=hy1 i (by rw [Hn.out];omega);have d2:=hy2 i (by rw [Hn.out];omega);clear hy1 hy2;have i1:(i:Int)<(n:Int):=by omega
   have hb:(((nth l i:Nat):Int) != ((nth l i:Nat):Int))=false:=by simp
   go_wp2
   go_quiet (fail)
   go_wp2
   go_roundw
   case rel=>exact ⟨i+1,_,by omega,by go_num,rfl⟩
   case measure=>simp [intOf];omega
  ·obtain rfl:i=n:=by omega
   clear h3 h4;go_wp2
   go_ret
   exact ⟨rfl,bf G1.out (jt _ _ _)⟩
theorem agb  (hn:n<=cap) :
  Calls prog 122 #[.slice p n cap,.int .i64 k] w λe w'=>e = .returned (.slice p (min n k) cap)∧w.grownBy w' none:=
 (VT hn).mono λ_ _ ⟨h1,h2⟩=>⟨h1,h2▸bH _ _⟩
set_option maxHeartbeats 1000000 in
theorem agc  (k:Nat) (h1:xs.length<=cap) (hn:(xs.take k).length=n) :
  Calls prog 80 #[.agg #[.bool b,.slice p xs.length cap],.int .i64 k] w λe w'=>e = .returned (.agg #[.bool b,.slice p n cap])∧w.grownBy w' none:=by
 have S0:Kept w [(w.heap.size,0,.bool b),(w.heap.size,1,.slice p xs.length cap)] [w.heap.size+1] ((w.alloc (.cells #[.bool b,.slice p xs.length cap] 28)).alloc (.cells #[.bool false,.slice none 0 0] 28)):=((Kept.start w).box _ _ _ _ rfl).res _ _ _ _ _ (by simp);have Hm:=hid (show min xs.length k=n by rw [<- hn,List.length_take,Nat.min_comm]);clear hn;go_enter func80,ntmps80
 go_wp2_with fail
 go_region_held3 (λw'=>w'.cell? ⟨w.heap.size,0,none⟩=some (.bool b)∧w'.cell? ⟨w.heap.size,1,none⟩=some (.slice p xs.length cap)∧w'.cell? ⟨w.heap.size+1,0,none⟩=some (cellOf w' ⟨w.heap.size+1,0,none⟩)∧w'.cell? ⟨w.heap.size+1,1,none⟩=some (cellOf w' ⟨w.heap.size+1,1,none⟩)∧w'.frozen? ⟨w.heap.size+1,0,none⟩=false∧w'.frozen? ⟨w.heap.size+1,1,none⟩=false∧w.grownBy w' none) (first | exact Kept.step (W:=w) [(w.heap.size,0,.bool b),(w.heap.size,1,.slice p xs.length cap)] [w.heap.size+1] (by assumption) (by assumption) | exact Kept.set (W:=w) [(w.heap.size,0,.bool b),(w.heap.size,1,.slice p xs.length cap)] [w.heap.size+1] (by simp <;> omega) (by first | omega | (simp <;> omega)) (by assumption) | exact Kept.step [(w.heap.size,0,.bool b),(w.heap.size,1,.slice p xs.length cap)] [w.heap.size+1] (ec _ _) S0)
  (first | (go_at_call 122;refine (agb h1).mono ?_;rintro e w' ⟨rfl,hg⟩))
 rename_i hend;go_wp2_with fail
 refine xw results80 rfl rfl (qI hend.2.2.1) (qJ hend.2.2.2.1) ⟨?_,hend.2.2.2.2.2.2⟩;rw [Hm.out]
theorem afk  (hx:ai w v z k) :
  Calls prog 28 #[v] w λe w'=>e = .returned (.bool (decide (z=0)))∧w.grownBy w' none:=by
 have bx:=hx.bd;obtain ⟨p,cap,rfl,hx⟩:=hx;have Hx:=hid hx;clear hx;clear bx Hx;have e:((((an 10000 z.natAbs).length:Nat):Int) == 0)=decide (z=0):=by have:=gy (b:=10000) (n:=z.natAbs);rw [Bool.eq_iff_iff,beq_iff_eq,decide_eq_true_eq];omega
 generalize (an 10000 z.natAbs).length=l at *
 go_enter func28,ntmps28
 go_wp2_with fail
 go_ret
 refine ⟨?_,bn _ _ _⟩;simp_all
theorem k2:2<=1000000:=by omega
def rf (w:World) (b:Nat×Value×Value):Prop:=w.cell? ⟨b.1,0,none⟩=some b.2.1∧w.cell? ⟨b.1,1,none⟩=some b.2.2∧w.frozen? ⟨b.1,0,none⟩=false∧w.frozen? ⟨b.1,1,none⟩=false
def Bx (W:World):List (Nat×Value×Value)->World->Prop
 | [],w=>W.grownBy w none
 | (g,x,y) :: bs,w=>w.cell? ⟨g,0,none⟩=some x∧w.cell? ⟨g,1,none⟩=some y∧w.frozen? ⟨g,0,none⟩=false∧w.frozen? ⟨g,1,none⟩=false∧Bx W bs w
theorem Bx.iff {W w:World}:∀{bs:List (Nat×Value×Value)},Bx W bs w ↔ (∀b,b ∈ bs->rf w b)∧W.grownBy w none
 | []=>by simp [Bx]
 | (g,x,y) :: bs=>by
  have ih:=Bx.iff (W:=W) (w:=w) (bs:=bs);simp only [Bx,ih,List.mem_cons,forall_eq_or_imp,rf];constructor
  ·rintro ⟨h1,h2,h3,h4,h5,h6⟩;exact ⟨⟨⟨h1,h2,h3,h4⟩,h5⟩,h6⟩
  ·rintro ⟨⟨⟨h1,h2,h3,h4⟩,h5⟩,h6⟩;exact ⟨h1,h2,h3,h4,h5,h6⟩
theorem rf.grown {b:Nat×Value×Value} (h:rf w b) (g:w.grownBy w' none):rf w' b:=
 ⟨cell_grown g h.1,cell_grown g h.2.1,gX g h.1 h.2.2.1,gX g h.2.1 h.2.2.2⟩
theorem Bx.step  (bs:List (Nat×Value×Value)) (g:w.grownBy w' none) (h:Bx W bs w):Bx W bs w':=by rw [Bx.iff] at h ⊢;exact ⟨λb hb=>(h.1 b hb).grown g,bf h.2 g⟩
theorem Bx.all  (h:Bx W bs w):W.grownBy w none:=(Bx.iff.1 h).2
theorem Bx.start (w:World):Bx w [] w:=bH w none
theorem Bx.base  (h:Bx W bs w) (g:W'.grownBy w none):Bx W' bs w:=Bx.iff.2 ⟨(Bx.iff.1 h).1,g⟩
theorem Bx.sub  (h:Bx W bs w) (hs:∀b,b ∈ bs'->b ∈ bs):Bx W bs' w:=by rw [Bx.iff] at h ⊢;exact ⟨λb hb=>h.1 b (hs b hb),h.2⟩
theorem Bx.box  (g:Nat) (x y:Value) (t:TypeId) (h:Bx W bs w) (hg:w.heap.size=g):Bx W ((g,x,y) :: bs) (w.alloc (.cells #[x,y] t)):=by subst hg;exact ⟨by simp [go_sem],by simp [go_sem],oW _ _ _ _ (oZ (Nat.le_refl _)),oW _ _ _ _ (oZ (Nat.le_refl _)),Bx.step _ (bn _ _ _) h⟩
theorem Bx.lt  (h:Bx W bs w){y:Value} (hm:(g,x,y) ∈ bs):g<w.heap.size:=qH ((Bx.iff.1 h).1 _ hm).1
theorem Bx.put {y:Value} (h:Bx W bs w) (hm:(g,x,y) ∈ bs) (hs:∀b,b ∈ bs'->b ∈ bs) (hn:∀b,b ∈ bs'->b.1≠g) (hW:W.heap.size<=g) :
  Bx W ((g,u,v) :: bs') (set2 w g u v):=by
 have h0:=(Bx.iff.1 h).1 _ hm;have h1:=(Bx.iff.1 h).1;refine ⟨eQ h0.1,eR h0.2.1,oV h0.2.2.1,oV h0.2.2.2,Bx.iff.2 ⟨λb hb=>?_,di h.all (iR _ _ _ _) hW⟩⟩;have:=h1 b (hs b hb);exact ⟨jR this.1 (hg:=(hn b hb)),jR this.2.1 (hg:=(hn b hb)),oV this.2.2.1,oV this.2.2.2⟩
def Kp (w w':World):Prop:=w.heap.size<=w'.heap.size∧∀(a:Addr) (k:IntKind) (n:Int),k≠.u64->w.cell? a=some (.int k n)->w'.cell? a=some (.int k n)
theorem Kp.refl (w:World):Kp w w:=⟨Nat.le_refl _,λ_ _ _ _ h=>h⟩
theorem Kp.trans {a b c:World} (h:Kp a b) (k:Kp b c):Kp a c:=⟨Nat.le_trans h.1 k.1,λx y z u e=>k.2 x y z u (h.2 x y z u e)⟩
theorem Kp.of  (g:w.grownBy w' none):Kp w w':=⟨g.size,λ_ _ _ _ h=>cell_grown g h⟩
theorem Kp.set2 {y:Value} (h0:w.cell? ⟨g,0,none⟩=some x) (h1:w.cell? ⟨g,1,none⟩=some y) (n0:∀k n,x≠.int k n) (n1:∀k n,y≠.int k n):Kp w (set2 w g u v):=by
 refine ⟨by simp [Proofs.YtlmanbjkkjfjgaaGreat.set2],λa k n _ h=>?_⟩;have e0:(⟨g,0,none⟩:Addr)≠a:=by rintro rfl;rw [h0] at h;exact n0 k n (Option.some.inj h)
 have e1:(⟨g,1,none⟩:Addr)≠a:=by rintro rfl;rw [h1] at h;exact n1 k n (Option.some.inj h)
 unfold Proofs.YtlmanbjkkjfjgaaGreat.set2;rw [World.cell?_setCell_other _ _ _ _ e1,World.cell?_setCell_other _ _ _ _ e0];exact h
theorem Bx.kp {y:Value} (u v:Value) (h:Bx W bs w) (hm:(g,x,y) ∈ bs) (n0:∀k n,x≠.int k n) (n1:∀k n,y≠.int k n):Kp w (set2 w g u v):=
 Kp.set2 ((Bx.iff.1 h).1 _ hm).1 ((Bx.iff.1 h).1 _ hm).2.1 n0 n1
theorem Sl.kp {k:IntKind} (h:Sl w k v xs) (g:Kp w w') (hu:k≠.u64:=by decide):Sl w' k v xs:=by
 obtain ⟨p,cap,rfl,h1,h2,h3⟩:=h;refine ⟨p,cap,rfl,h1,h2,?_⟩;rcases h3 with h3 | ⟨b,off,rfl,h4,h5⟩
 ·exact .inl h3
 ·exact .inr ⟨b,off,rfl,Nat.lt_of_lt_of_le h4 g.1,λj hj=>g.2 _ _ _ hu (h5 j hj)⟩
theorem Num.kp  (h:Num w v X k) (g:Kp w w'):Num w' v X k:=by obtain ⟨xs,h1,h2⟩:=h;exact ⟨xs,h1.kp g,h2⟩
theorem aD.kp  (h:aD w v z k) (g:Kp w w'):aD w' v z k:=by obtain ⟨b,s,X,h1,h2,h3⟩:=h;exact ⟨b,s,X,h1,h2.kp g,h3⟩
theorem iy.kp  (h:iy w v z) (g:Kp w w'):iy w' v z:=by obtain ⟨p,cap,h1,h2⟩:=h;exact ⟨p,cap,h1,h2.kp g⟩
theorem ai.kp  (h:ai w v z k) (g:Kp w w'):ai w' v z k:=by obtain ⟨p,cap,h1,h2,h3⟩:=h;exact ⟨p,cap,h1,h2.kp g,h3⟩
theorem WQ  (r:Bool) (h:iy w v z) (hr:decide (z=0)=r):Calls prog 64 #[v] w λe w'=>e = .returned (.bool r)∧w.grownBy w' none:=by subst hr;obtain ⟨p,cap,rfl,-⟩:=h;refine Fc.mono λe w' he=>?_;obtain ⟨rfl,g⟩:=he;refine ⟨?_,g⟩;have hl:=gy (b:=4294967296) (n:=z.natAbs);congr 2;exact decide_eq_decide.2 ⟨λh=>by omega,λh=>by omega⟩
def fu (W:World):List (Nat×Nat)->World->Prop
 | [],w=>W.grownBy w none
 | (g,o) :: fs,w=>w.cell? ⟨g,o,none⟩=some (cellOf w ⟨g,o,none⟩)∧w.frozen? ⟨g,o,none⟩=false∧fu W fs w
def St (W:World):List (Nat×Nat×Value)->List (Nat×Nat)->World->Prop
 | [],fs,w=>fu W fs w
 | (g,o,x) :: cs,fs,w=>w.cell? ⟨g,o,none⟩=some x∧St W cs fs w
theorem fu.iff {W w:World}:∀{fs:List (Nat×Nat)},fu W fs w ↔ (∀f,f ∈ fs->w.cell? ⟨f.1,f.2,none⟩=some (cellOf w ⟨f.1,f.2,none⟩)∧w.frozen? ⟨f.1,f.2,none⟩=false)∧W.grownBy w none
 | []=>by simp [fu]
 | (g,o) :: fs=>by have ih:=fu.iff (W:=W) (w:=w) (fs:=fs);simp only [fu,ih,List.mem_cons,forall_eq_or_imp];exact ⟨λ⟨a,b,c,d⟩=>⟨⟨⟨a,b⟩,c⟩,d⟩,λ⟨⟨⟨a,b⟩,c⟩,d⟩=>⟨a,b,c,d⟩⟩
theorem St.iff {W w:World}{fs:List (Nat×Nat)}:∀{cs:List (Nat×Nat×Value)},St W cs fs w ↔ (∀c,c ∈ cs->w.cell? ⟨c.1,c.2.1,none⟩=some c.2.2)∧fu W fs w
 | []=>by simp [St]
 | (g,o,x) :: cs=>by have ih:=St.iff (W:=W) (w:=w) (cs:=cs) (fs:=fs);simp only [St,ih,List.mem_cons,forall_eq_or_imp];exact ⟨λ⟨a,b,c⟩=>⟨⟨a,b⟩,c⟩,λ⟨⟨a,b⟩,c⟩=>⟨a,b,c⟩⟩
theorem fu.step  (g:w.grownBy w' none) (h:fu W fs w):fu W fs w':=by rw [fu.iff] at h ⊢;exact ⟨λf hf=>⟨jn (cell_grown g (h.1 f hf).1),gX g (h.1 f hf).1 (h.1 f hf).2⟩,bf h.2 g⟩
theorem St.step {w:World} (h:St W cs fs w) (g:w.grownBy w' none):St W cs fs w':=by rw [St.iff] at h ⊢;exact ⟨λc hc=>cell_grown g (h.1 c hc),h.2.step g⟩
theorem St.keep  (cs:List (Nat×Nat×Value)) (fs:List (Nat×Nat)) (g:w.grownBy w' none) (h:St W cs fs w):St W cs fs w':=h.step g
theorem St.sub {fs':List (Nat×Nat)} (h:St W cs fs w) (hc:∀c,c ∈ cs'->c ∈ cs) (hf:∀f,f ∈ fs'->f ∈ fs):St W cs' fs' w:=by rw [St.iff,fu.iff] at h ⊢;exact ⟨λc m=>h.1 c (hc c m),λf m=>h.2.1 f (hf f m),h.2.2⟩
theorem St.all  (h:St W cs fs w):W.grownBy w none:=(fu.iff.1 (St.iff.1 h).2).2
theorem St.base  (h:St W cs fs w) (g:W'.grownBy w none):St W' cs fs w:=by rw [St.iff,fu.iff] at h ⊢;exact ⟨h.1,h.2.1,g⟩
theorem St.size  (h:St W cs fs w):W.heap.size<=w.heap.size:=h.all.size
theorem St.start (w:World):St w [] [] w:=bH w none
theorem St.cell  (h:St W cs fs w) (hm:(g,o,x) ∈ cs):w.cell? ⟨g,o,none⟩=some x:=(St.iff.1 h).1 _ hm
theorem St.has  (h:St W cs fs w) (hm:(g,o) ∈ fs):w.cell? ⟨g,o,none⟩=some (cellOf w ⟨g,o,none⟩):=((fu.iff.1 (St.iff.1 h).2).1 _ hm).1
theorem St.free  (h:St W cs fs w) (hm:(g,o) ∈ fs):w.frozen? ⟨g,o,none⟩=false:=((fu.iff.1 (St.iff.1 h).2).1 _ hm).2
theorem St.lt  (h:St W cs fs w) (hm:(g,o) ∈ fs):g<w.heap.size:=qH (h.has hm)
def rows (g:Nat):Nat->List Value->List (Nat×Nat×Value)
 | _,[]=>[]
 | o,v :: vs=>(g,o,v) :: rows g (o+1) vs
def ua (g:Nat):Nat->List Value->List (Nat×Nat)
 | _,[]=>[]
 | o,_ :: vs=>(g,o) :: ua g (o+1) vs
theorem Gt {g:Nat}:∀{vs:List Value}{o:Nat}{c:Nat×Nat×Value},c ∈ rows g o vs->∃j,c.1=g∧c.2.1=o+j∧vs[j]?=some c.2.2
 | [],_,_,h=>by cases h
 | v :: vs,o,c,h=>by
  rcases List.mem_cons.1 h with rfl | h
  ·exact ⟨0,rfl,rfl,rfl⟩
  ·obtain ⟨j,h1,h2,h3⟩:=Gt h;exact ⟨j+1,h1,by omega,h3⟩
theorem Gu {g:Nat}:∀{vs:List Value}{o:Nat}{f:Nat×Nat},f ∈ ua g o vs->∃j v,f.1=g∧f.2=o+j∧vs[j]?=some v
 | [],_,_,h=>by cases h
 | v :: vs,o,c,h=>by
  rcases List.mem_cons.1 h with rfl | h
  ·exact ⟨0,v,rfl,rfl,rfl⟩
  ·obtain ⟨j,v,h1,h2,h3⟩:=Gu h;exact ⟨j+1,v,h1,by omega,h3⟩
theorem Gv (w:World) (vs:List Value) (t:TypeId) (h:vs[j]?=some v):(w.alloc (.cells vs.toArray t)).cell? ⟨w.heap.size,0+j,none⟩=some v:=by simp only [World.cell?,heap_alloc_new,Nat.zero_add];simpa using h
theorem St.box  (g:Nat) (vs:List Value) (t:TypeId) (h:St W cs fs w) (hg:w.heap.size=g):St W (rows g 0 vs ++ cs) fs (w.alloc (.cells vs.toArray t)):=by
 subst hg;have h':=h.step (bn w (.cells vs.toArray t) none);rw [St.iff] at h' ⊢;refine ⟨λc hc=>?_,h'.2⟩;rcases List.mem_append.1 hc with hc | hc
 ·obtain ⟨j,h1,h2,h3⟩:=Gt hc;rw [h1,h2];exact Gv w vs t h3
 ·exact h'.1 c hc
theorem St.room  (g:Nat) (vs:List Value) (t:TypeId) (h:St W cs fs w) (hg:w.heap.size=g):St W cs (ua g 0 vs ++ fs) (w.alloc (.cells vs.toArray t)):=by
 subst hg;have h':=h.step (bn w (.cells vs.toArray t) none);rw [St.iff,fu.iff] at h' ⊢;refine ⟨h'.1,λf hf=>?_,h'.2.2⟩;rcases List.mem_append.1 hf with hf | hf
 ·obtain ⟨j,v,h1,h2,h3⟩:=Gu hf;rw [h1,h2];exact ⟨jn (Gv w vs t h3),oW _ _ _ _ (oZ (Nat.le_refl _))⟩
 ·exact h'.2.1 f hf
theorem St.made  (g:Nat) (vs:List Value) (t:TypeId) (h:St W cs fs w) (hg:w.heap.size=g):St W (rows g 0 vs ++ cs) (ua g 0 vs ++ fs) (w.alloc (.cells vs.toArray t)):=by have h1:=St.iff.1 (h.box g vs t hg);have h2:=St.iff.1 (h.room g vs t hg);exact St.iff.2 ⟨h1.1,h2.2⟩
theorem WR {a b:Addr} (h:w.cell? b=some (cellOf w b)):(w.setCell a u).cell? b=some (cellOf (w.setCell a u) b):=by
 by_cases e:a=b
 ·subst e;exact jn (World.cell?_setCell_same' _ _ _ (by rw [h];rfl))
 ·exact jn (by rw [World.cell?_setCell_other _ _ _ _ e];exact h)
theorem St.set  (u:Value) (h:St W cs fs w) (hf:(g,o) ∈ fs) (hs:∀c,c ∈ cs'->c ∈ cs∧¬(c.1=g∧c.2.1=o)) (hW:W.heap.size<=g) :
  St W ((g,o,u) :: cs') fs (w.setCell ⟨g,o,none⟩ u):=by
 have h1:=St.iff.1 h;have h2:=fu.iff.1 h1.2;rw [St.iff,fu.iff];refine ⟨λc hc=>?_,λf m=>⟨WR (h2.1 f m).1,by rw [xu];exact (h2.1 f m).2⟩,di h2.2 (cI _ _ _ _) hW⟩;rcases List.mem_cons.1 hc with rfl | hc
 ·exact World.cell?_setCell_same' _ _ _ (by rw [h.has hf];rfl)
 ·obtain ⟨m,hne⟩:=hs c hc;rw [World.cell?_setCell_other _ _ _ _ (λe=>hne (by cases e;exact ⟨rfl,rfl⟩))];exact h1.1 c m
theorem Kp.set {a:Addr} (h0:w.cell? a=some x) (n0:∀k n,x≠.int k n):Kp w (w.setCell a u):=by
 refine ⟨by simp,λb k n _ h=>?_⟩;have e:a≠b:=by rintro rfl;rw [h0] at h;exact n0 k n (Option.some.inj h)
 rw [World.cell?_setCell_other _ _ _ _ e];exact h
theorem St.kp  (u:Value) (h:St W cs fs w) (hm:(g,o,x) ∈ cs) (n0:∀k n,x≠.int k n):Kp w (w.setCell ⟨g,o,none⟩ u):=Kp.set (h.cell hm) n0
def Cl:List (Nat×Nat×Value)->World->Prop
 | [],_=>True
 | (g,o,x) :: cs,w=>w.cell? ⟨g,o,none⟩=some x∧Cl cs w
theorem Cl.iff {w:World}:∀{cs:List (Nat×Nat×Value)},Cl cs w ↔ ∀c,c ∈ cs->w.cell? ⟨c.1,c.2.1,none⟩=some c.2.2
 | []=>by simp [Cl]
 | (g,o,x) :: cs=>by have ih:=Cl.iff (w:=w) (cs:=cs);simp only [Cl,ih,List.mem_cons,forall_eq_or_imp]
theorem Cl.step  (g:w.grownBy w' none) (h:Cl cs w):Cl cs w':=Cl.iff.2 λc hc=>cell_grown g (Cl.iff.1 h c hc)
theorem Cl.set  (h:Cl cs w) (hn:∀c,c ∈ cs->¬c.1=g):Cl cs (w.setCell ⟨g,o,none⟩ u):=
 Cl.iff.2 λc hc=>by rw [World.cell?_setCell_far _ _ _ _ (λe=>hn c hc e.symm)];exact Cl.iff.1 h c hc
theorem St.cl  (h:St W cs fs w) (hs:∀c,c ∈ cs'->c ∈ cs):Cl cs' w:=Cl.iff.2 λc hc=>(St.iff.1 h).1 c (hs c hc)
open Go.ChangeShapes Go.WideShapes Go.ChangeAt Go.RowKit
section
variable {H:Type}{enc:TypeId×Value->H}
end
def tl (f:Nat->Int):Nat->Nat
 | 0=>0
 | n+1=>if f n=0 then tl f n else n+1
theorem bg (f:Nat->Int):∀n,tl f n<=n
 | 0=>Nat.le_refl _
 | n+1=>by
  unfold tl;split
  ·exact Nat.le_succ_of_le (bg f n)
  ·exact Nat.le_refl _
theorem gH (f:Nat->Int):∀n i,tl f n<=i->i<n->f i=0
 | 0,i,_,h=>by omega
 | n+1,i,h1,h2=>by
  unfold tl at h1;split at h1
  ·rename_i h0;rcases Nat.lt_or_ge i n with h | h
   ·exact gH f n i h1 h
   ·have:i=n:=by omega
    rw [this];exact h0
  ·omega
theorem fG (f:Nat->Int):∀n,0<tl f n->f (tl f n-1)≠0
 | 0,h=>by simp [tl] at h
 | n+1,h=>by
  unfold tl at h ⊢;split
  ·rename_i h0;rw [if_pos h0] at h;exact fG f n h
  ·rename_i h0;simpa using h0
def ae (zs:List Int) (i:Nat):Int:=zs.getD i 0
theorem et  (h:zs.length<=i):ae zs i=0:=by unfold ae;rw [List.getD_eq_getElem?_getD,List.getElem?_eq_none h];rfl
def mk (n:Nat) (f:Nat->Int):List Int:=(List.range n).map f
theorem dc (n:Nat) (f:Nat->Int):(mk n f).length=n:=by simp [mk]
theorem cU (n:Nat) (f:Nat->Int) (i:Nat):ae (mk n f) i=if i<n then f i else 0:=by
 unfold ae mk;rw [List.getD_eq_getElem?_getD,List.getElem?_map];split
 ·rename_i h;rw [List.getElem?_eq_getElem (by simpa using h)];simp
 ·rename_i h;rw [List.getElem?_eq_none (by simpa using h)];rfl
def aw (zs:List Int):List Int:=zs.take (tl (ae zs) zs.length)
theorem yh (zs:List Int):(aw zs).length=tl (ae zs) zs.length:=by rw [aw,List.length_take];exact Nat.min_eq_left (bg _ _)
theorem WS (zs:List Int) (m i:Nat):ae (zs.take m) i=if i<m then ae zs i else 0:=by unfold ae;simp only [List.getD_eq_getElem?_getD,List.getElem?_take];split <;> rfl
theorem ig (zs:List Int) (i:Nat):ae (aw zs) i=ae zs i:=by
 rw [aw,WS];split
 ·rfl
 ·rename_i h;rcases Nat.lt_or_ge i zs.length with h1 | h1
  ·exact (gH (ae zs) _ _ (by omega) h1).symm
  ·exact (et h1).symm
def ct (zs:List Int):Prop:=0<zs.length->ae zs (zs.length-1)≠0
theorem jO (zs:List Int):ct (aw zs):=λh=>by rw [ig,yh];rw [yh] at h;exact fG _ _ h
theorem Gw {a b:List Int} (ha:ct a) (h:∀i,ae a i=ae b i):a.length<=b.length:=by
 rcases Nat.lt_or_ge b.length a.length with hl | hl
 ·exact absurd ((h _).trans (et (by omega))) (ha (by omega))
 ·exact hl
theorem sW {a b:List Int} (ha:ct a) (hb:ct b) (h:∀i,ae a i=ae b i):a=b:=by have hl:a.length=b.length:=Nat.le_antisymm (Gw ha h) (Gw hb λi=>(h i).symm);apply List.ext_getElem hl;intro i h1 h2;have:=h i;unfold ae at this;simpa [List.getD_eq_getElem?_getD,List.getElem?_eq_getElem h1,List.getElem?_eq_getElem h2] using this
theorem OI  (h:ct zs):aw zs=zs:=sW (jO zs) h (ig zs)
theorem sN {f g:Nat->Int}:∀{n:Nat},(∀i,i<n->f i=g i)->tl f n=tl g n
 | 0,_=>rfl
 | n+1,h=>by unfold tl;rw [h n (Nat.lt_succ_self n),sN λi hi=>h i (Nat.lt_succ_of_lt hi)]
theorem fF (n:Nat) (f:Nat->Int):(aw (mk n f)).length=tl f n:=by rw [yh,dc];exact sN λi hi=>by rw [cU,if_pos hi]
theorem Gx:ct []:=λh=>absurd h (Nat.lt_irrefl 0)
end Go.Proofs.YtlmanbjkkjfjgaaGreat
