/- Layer 2's examples -/
import Derived.Test.YtbjfgffibepmkaaGreatRefL
import Derived.Lib.SmallJoins
namespace Go.Proofs.YtbjfgffibepmkaaGreat
open Go.RowKit
variable {W W' w w':World}{b zs:List Int}{bs bs':List (Nat×Value×Value)}{g k o:Nat}{u v x y:Value}{a:Addr}{z:Int}{fs:List (Nat×Nat)}{cs cs':List (Nat×Nat×Value)}
theorem k2:2<=1000000:=by omega
def mZ (w:World) (b:Nat×Value×Value):Prop:=w.cell? ⟨b.1,0,none⟩=some b.2.1∧w.cell? ⟨b.1,1,none⟩=some b.2.2∧w.frozen? ⟨b.1,0,none⟩=false∧w.frozen? ⟨b.1,1,none⟩=false
def Bx (W:World):List (Nat×Value×Value)->World->Prop
 | [],w=>W.grownBy w none
 | (g,x,y) :: bs,w=>w.cell? ⟨g,0,none⟩=some x∧w.cell? ⟨g,1,none⟩=some y∧w.frozen? ⟨g,0,none⟩=false∧w.frozen? ⟨g,1,none⟩=false∧Bx W bs w
theorem Bx.iff {W w:World}:∀{bs:List (Nat×Value×Value)},Bx W bs w ↔ (∀b,b ∈ bs->mZ w b)∧W.grownBy w none
 | []=>by simp [Bx]
 | (g,x,y) :: bs=>by
  have ih:=Bx.iff (W:=W) (w:=w) (bs:=bs)
  simp only [Bx,ih,List.mem_cons,forall_eq_or_imp,mZ]
  constructor
  ·rintro ⟨h1,h2,h3,h4,h5,h6⟩
   exact ⟨⟨⟨h1,h2,h3,h4⟩,h5⟩,h6⟩
  ·rintro ⟨⟨⟨h1,h2,h3,h4⟩,h5⟩,h6⟩
   exact ⟨h1,h2,h3,h4,h5,h6⟩
theorem mZ.grown {b:Nat×Value×Value} (h:mZ w b) (g:w.grownBy w' none):mZ w' b:=
 ⟨cell_grown g h.1,cell_grown g h.2.1,gz g h.1 h.2.2.1,gz g h.2.1 h.2.2.2⟩
theorem Bx.step  (bs:List (Nat×Value×Value)) (g:w.grownBy w' none) (h:Bx W bs w):Bx W bs w':=by
 rw [Bx.iff] at h ⊢
 exact ⟨fun b hb=>(h.1 b hb).grown g,aR h.2 g⟩
theorem Bx.all  (h:Bx W bs w):W.grownBy w none:=(Bx.iff.1 h).2
theorem Bx.start (w:World):Bx w [] w:=bt w none
theorem Bx.base  (h:Bx W bs w) (g:W'.grownBy w none):Bx W' bs w:=Bx.iff.2 ⟨(Bx.iff.1 h).1,g⟩
theorem Bx.sub  (h:Bx W bs w) (hs:∀b,b ∈ bs'->b ∈ bs):Bx W bs' w:=by
 rw [Bx.iff] at h ⊢
 exact ⟨fun b hb=>h.1 b (hs b hb),h.2⟩
theorem Bx.box  (g:Nat) (x y:Value) (t:TypeId) (h:Bx W bs w) (hg:w.heap.size=g):Bx W ((g,x,y) :: bs) (w.alloc (.cells #[x,y] t)):=by
 subst hg
 exact ⟨by simp [go_sem],by simp [go_sem],lK _ _ _ _ (lL (Nat.le_refl _)),lK _ _ _ _ (lL (Nat.le_refl _)),Bx.step _ (bg _ _ _) h⟩
theorem Bx.lt  (h:Bx W bs w) (hm:(g,x,y) ∈ bs):g<w.heap.size:=na ((Bx.iff.1 h).1 _ hm).1
theorem Bx.put  (h:Bx W bs w) (hm:(g,x,y) ∈ bs) (hs:∀b,b ∈ bs'->b ∈ bs) (hn:∀b,b ∈ bs'->b.1≠g) (hW:W.heap.size<=g) :
  Bx W ((g,u,v) :: bs') (set2 w g u v):=by
 have h0:=(Bx.iff.1 h).1 _ hm
 have h1:=(Bx.iff.1 h).1
 refine ⟨dW h0.1,dY h0.2.1,lM h0.2.2.1,lM h0.2.2.2,Bx.iff.2 ⟨fun b hb=>?_,cK h.all (gA _ _ _ _) hW⟩⟩
 have:=h1 b (hs b hb)
 exact ⟨iu this.1 (hg:=(hn b hb)),iu this.2.1 (hg:=(hn b hb)),lM this.2.2.1,lM this.2.2.2⟩
def Kp (w w':World):Prop:=w.heap.size<=w'.heap.size∧∀(a:Addr) (k:IntKind) (n:Int),k≠.u64->w.cell? a=some (.int k n)->w'.cell? a=some (.int k n)
theorem Kp.refl (w:World):Kp w w:=⟨Nat.le_refl _,fun _ _ _ _ h=>h⟩
theorem Kp.trans {a b c:World} (h:Kp a b) (k:Kp b c):Kp a c:=⟨Nat.le_trans h.1 k.1,fun x y z u e=>k.2 x y z u (h.2 x y z u e)⟩
theorem Kp.of  (g:w.grownBy w' none):Kp w w':=⟨g.size,fun _ _ _ _ h=>cell_grown g h⟩
theorem Kp.set2  (h0:w.cell? ⟨g,0,none⟩=some x) (h1:w.cell? ⟨g,1,none⟩=some y) (n0:∀k n,x≠.int k n) (n1:∀k n,y≠.int k n):Kp w (set2 w g u v):=by
 refine ⟨by simp [Proofs.YtbjfgffibepmkaaGreat.set2],fun a k n _ h=>?_⟩
 have e0:(⟨g,0,none⟩:Addr)≠a:=by rintro rfl;rw [h0] at h;exact n0 k n (Option.some.inj h)
 have e1:(⟨g,1,none⟩:Addr)≠a:=by rintro rfl;rw [h1] at h;exact n1 k n (Option.some.inj h)
 unfold Proofs.YtbjfgffibepmkaaGreat.set2
 rw [World.cell?_setCell_other _ _ _ _ e1,World.cell?_setCell_other _ _ _ _ e0]
 exact h
theorem Bx.kp  (u v:Value) (h:Bx W bs w) (hm:(g,x,y) ∈ bs) (n0:∀k n,x≠.int k n) (n1:∀k n,y≠.int k n):Kp w (set2 w g u v):=
 Kp.set2 ((Bx.iff.1 h).1 _ hm).1 ((Bx.iff.1 h).1 _ hm).2.1 n0 n1
theorem Sl.kp {k:IntKind}{xs:List Nat} (h:Sl w k v xs) (g:Kp w w') (hu:k≠.u64:=by decide):Sl w' k v xs:=by
 obtain ⟨p,cap,rfl,h1,h2,h3⟩:=h
 refine ⟨p,cap,rfl,h1,h2,?_⟩
 rcases h3 with h3 | ⟨b,off,rfl,h4,h5⟩
 ·exact .inl h3
 ·exact .inr ⟨b,off,rfl,Nat.lt_of_lt_of_le h4 g.1,fun j hj=>g.2 _ _ _ hu (h5 j hj)⟩
theorem Num.kp {X:Nat} (h:Num w v X k) (g:Kp w w'):Num w' v X k:=by
 obtain ⟨xs,h1,h2⟩:=h
 exact ⟨xs,h1.kp g,h2⟩
theorem aF.kp  (h:aF w v z k) (g:Kp w w'):aF w' v z k:=by
 obtain ⟨b,s,X,h1,h2,h3⟩:=h
 exact ⟨b,s,X,h1,h2.kp g,h3⟩
theorem gg.kp  (h:gg w v z) (g:Kp w w'):gg w' v z:=by
 obtain ⟨p,cap,h1,h2⟩:=h
 exact ⟨p,cap,h1,h2.kp g⟩
theorem ai.kp  (h:ai w v z k) (g:Kp w w'):ai w' v z k:=by
 obtain ⟨p,cap,h1,h2,h3⟩:=h
 exact ⟨p,cap,h1,h2.kp g,h3⟩
theorem Gb  (r:Bool) (h:gg w v z) (hr:decide (z=0)=r):Calls Tryz.prog 79 #[v] w fun e w'=>e = .returned (.bool r)∧w.grownBy w' none:=by
 subst hr
 obtain ⟨p,cap,rfl,-⟩:=h
 refine wY.mono fun e w' he=>?_
 obtain ⟨rfl,g⟩:=he
 refine ⟨?_,g⟩
 have hl:=fz (b:=4294967296) (n:=z.natAbs)
 congr 2
 exact decide_eq_decide.2 ⟨fun h=>by omega,fun h=>by omega⟩
def eL (W:World):List (Nat×Nat)->World->Prop
 | [],w=>W.grownBy w none
 | (g,o) :: fs,w=>w.cell? ⟨g,o,none⟩=some (cellOf w ⟨g,o,none⟩)∧w.frozen? ⟨g,o,none⟩=false∧eL W fs w
def St (W:World):List (Nat×Nat×Value)->List (Nat×Nat)->World->Prop
 | [],fs,w=>eL W fs w
 | (g,o,x) :: cs,fs,w=>w.cell? ⟨g,o,none⟩=some x∧St W cs fs w
theorem eL.iff {W w:World}:∀{fs:List (Nat×Nat)},eL W fs w ↔ (∀f,f ∈ fs->w.cell? ⟨f.1,f.2,none⟩=some (cellOf w ⟨f.1,f.2,none⟩)∧w.frozen? ⟨f.1,f.2,none⟩=false)∧W.grownBy w none
 | []=>by simp [eL]
 | (g,o) :: fs=>by
  have ih:=eL.iff (W:=W) (w:=w) (fs:=fs)
  simp only [eL,ih,List.mem_cons,forall_eq_or_imp]
  exact ⟨fun ⟨a,b,c,d⟩=>⟨⟨⟨a,b⟩,c⟩,d⟩,fun ⟨⟨⟨a,b⟩,c⟩,d⟩=>⟨a,b,c,d⟩⟩
theorem St.iff {W w:World}{fs:List (Nat×Nat)}:∀{cs:List (Nat×Nat×Value)},St W cs fs w ↔ (∀c,c ∈ cs->w.cell? ⟨c.1,c.2.1,none⟩=some c.2.2)∧eL W fs w
 | []=>by simp [St]
 | (g,o,x) :: cs=>by
  have ih:=St.iff (W:=W) (w:=w) (cs:=cs) (fs:=fs)
  simp only [St,ih,List.mem_cons,forall_eq_or_imp]
  exact ⟨fun ⟨a,b,c⟩=>⟨⟨a,b⟩,c⟩,fun ⟨⟨a,b⟩,c⟩=>⟨a,b,c⟩⟩
theorem eL.step  (g:w.grownBy w' none) (h:eL W fs w):eL W fs w':=by
 rw [eL.iff] at h ⊢
 exact ⟨fun f hf=>⟨gS (cell_grown g (h.1 f hf).1),gz g (h.1 f hf).1 (h.1 f hf).2⟩,aR h.2 g⟩
theorem St.step {w:World} (h:St W cs fs w) (g:w.grownBy w' none):St W cs fs w':=by
 rw [St.iff] at h ⊢
 exact ⟨fun c hc=>cell_grown g (h.1 c hc),h.2.step g⟩
theorem St.keep  (cs:List (Nat×Nat×Value)) (fs:List (Nat×Nat)) (g:w.grownBy w' none) (h:St W cs fs w):St W cs fs w':=h.step g
theorem St.sub {fs':List (Nat×Nat)} (h:St W cs fs w) (hc:∀c,c ∈ cs'->c ∈ cs) (hf:∀f,f ∈ fs'->f ∈ fs):St W cs' fs' w:=by
 rw [St.iff,eL.iff] at h ⊢
 exact ⟨fun c m=>h.1 c (hc c m),fun f m=>h.2.1 f (hf f m),h.2.2⟩
theorem St.all  (h:St W cs fs w):W.grownBy w none:=(eL.iff.1 (St.iff.1 h).2).2
theorem St.base  (h:St W cs fs w) (g:W'.grownBy w none):St W' cs fs w:=by
 rw [St.iff,eL.iff] at h ⊢
 exact ⟨h.1,h.2.1,g⟩
theorem St.size  (h:St W cs fs w):W.heap.size<=w.heap.size:=h.all.size
theorem St.start (w:World):St w [] [] w:=bt w none
theorem St.cell  (h:St W cs fs w) (hm:(g,o,x) ∈ cs):w.cell? ⟨g,o,none⟩=some x:=(St.iff.1 h).1 _ hm
theorem St.has  (h:St W cs fs w) (hm:(g,o) ∈ fs):w.cell? ⟨g,o,none⟩=some (cellOf w ⟨g,o,none⟩):=((eL.iff.1 (St.iff.1 h).2).1 _ hm).1
theorem St.free  (h:St W cs fs w) (hm:(g,o) ∈ fs):w.frozen? ⟨g,o,none⟩=false:=((eL.iff.1 (St.iff.1 h).2).1 _ hm).2
theorem St.lt  (h:St W cs fs w) (hm:(g,o) ∈ fs):g<w.heap.size:=na (h.has hm)
def rows (g:Nat):Nat->List Value->List (Nat×Nat×Value)
 | _,[]=>[]
 | o,v :: vs=>(g,o,v) :: rows g (o+1) vs
def pD (g:Nat):Nat->List Value->List (Nat×Nat)
 | _,[]=>[]
 | o,_ :: vs=>(g,o) :: pD g (o+1) vs
theorem wZ {g:Nat}:∀{vs:List Value}{o:Nat}{c:Nat×Nat×Value},c ∈ rows g o vs->∃j,c.1=g∧c.2.1=o+j∧vs[j]?=some c.2.2
 | [],_,_,h=>by cases h
 | v :: vs,o,c,h=>by
  rcases List.mem_cons.1 h with rfl | h
  ·exact ⟨0,rfl,rfl,rfl⟩
  ·obtain ⟨j,h1,h2,h3⟩:=wZ h
   exact ⟨j+1,h1,by omega,h3⟩
theorem xa {g:Nat}:∀{vs:List Value}{o:Nat}{f:Nat×Nat},f ∈ pD g o vs->∃j v,f.1=g∧f.2=o+j∧vs[j]?=some v
 | [],_,_,h=>by cases h
 | v :: vs,o,c,h=>by
  rcases List.mem_cons.1 h with rfl | h
  ·exact ⟨0,v,rfl,rfl,rfl⟩
  ·obtain ⟨j,v,h1,h2,h3⟩:=xa h
   exact ⟨j+1,v,h1,by omega,h3⟩
theorem xb (w:World) (vs:List Value) (t:TypeId){j:Nat} (h:vs[j]?=some v):(w.alloc (.cells vs.toArray t)).cell? ⟨w.heap.size,0+j,none⟩=some v:=by
 simp only [World.cell?,heap_alloc_new,Nat.zero_add]
 simpa using h
theorem St.box  (g:Nat) (vs:List Value) (t:TypeId) (h:St W cs fs w) (hg:w.heap.size=g):St W (rows g 0 vs ++ cs) fs (w.alloc (.cells vs.toArray t)):=by
 subst hg
 have h':=h.step (bg w (.cells vs.toArray t) none)
 rw [St.iff] at h' ⊢
 refine ⟨fun c hc=>?_,h'.2⟩
 rcases List.mem_append.1 hc with hc | hc
 ·obtain ⟨j,h1,h2,h3⟩:=wZ hc
  rw [h1,h2]
  exact xb w vs t h3
 ·exact h'.1 c hc
theorem St.room  (g:Nat) (vs:List Value) (t:TypeId) (h:St W cs fs w) (hg:w.heap.size=g):St W cs (pD g 0 vs ++ fs) (w.alloc (.cells vs.toArray t)):=by
 subst hg
 have h':=h.step (bg w (.cells vs.toArray t) none)
 rw [St.iff,eL.iff] at h' ⊢
 refine ⟨h'.1,fun f hf=>?_,h'.2.2⟩
 rcases List.mem_append.1 hf with hf | hf
 ·obtain ⟨j,v,h1,h2,h3⟩:=xa hf
  rw [h1,h2]
  exact ⟨gS (xb w vs t h3),lK _ _ _ _ (lL (Nat.le_refl _))⟩
 ·exact h'.2.1 f hf
theorem St.made  (g:Nat) (vs:List Value) (t:TypeId) (h:St W cs fs w) (hg:w.heap.size=g):St W (rows g 0 vs ++ cs) (pD g 0 vs ++ fs) (w.alloc (.cells vs.toArray t)):=by
 have h1:=St.iff.1 (h.box g vs t hg)
 have h2:=St.iff.1 (h.room g vs t hg)
 exact St.iff.2 ⟨h1.1,h2.2⟩
theorem Gc {b:Addr} (h:w.cell? b=some (cellOf w b)):(w.setCell a u).cell? b=some (cellOf (w.setCell a u) b):=by
 by_cases e:a=b
 ·subst e
  exact gS (World.cell?_setCell_same' _ _ _ (by rw [h];rfl))
 ·exact gS (by rw [World.cell?_setCell_other _ _ _ _ e];exact h)
theorem St.set  (u:Value) (h:St W cs fs w) (hf:(g,o) ∈ fs) (hs:∀c,c ∈ cs'->c ∈ cs∧¬(c.1=g∧c.2.1=o)) (hW:W.heap.size<=g) :
  St W ((g,o,u) :: cs') fs (w.setCell ⟨g,o,none⟩ u):=by
 have h1:=St.iff.1 h
 have h2:=eL.iff.1 h1.2
 rw [St.iff,eL.iff]
 refine ⟨fun c hc=>?_,fun f m=>⟨Gc (h2.1 f m).1,by rw [sj];exact (h2.1 f m).2⟩,cK h2.2 (bV _ _ _ _) hW⟩
 rcases List.mem_cons.1 hc with rfl | hc
 ·exact World.cell?_setCell_same' _ _ _ (by rw [h.has hf];rfl)
 ·obtain ⟨m,hne⟩:=hs c hc
  rw [World.cell?_setCell_other _ _ _ _ (fun e=>hne (by cases e;exact ⟨rfl,rfl⟩))]
  exact h1.1 c m
theorem Kp.set  (h0:w.cell? a=some x) (n0:∀k n,x≠.int k n):Kp w (w.setCell a u):=by
 refine ⟨by simp,fun b k n _ h=>?_⟩
 have e:a≠b:=by rintro rfl;rw [h0] at h;exact n0 k n (Option.some.inj h)
 rw [World.cell?_setCell_other _ _ _ _ e]
 exact h
theorem St.kp  (u:Value) (h:St W cs fs w) (hm:(g,o,x) ∈ cs) (n0:∀k n,x≠.int k n):Kp w (w.setCell ⟨g,o,none⟩ u):=Kp.set (h.cell hm) n0
def Cl:List (Nat×Nat×Value)->World->Prop
 | [],_=>True
 | (g,o,x) :: cs,w=>w.cell? ⟨g,o,none⟩=some x∧Cl cs w
theorem Cl.iff {w:World}:∀{cs:List (Nat×Nat×Value)},Cl cs w ↔ ∀c,c ∈ cs->w.cell? ⟨c.1,c.2.1,none⟩=some c.2.2
 | []=>by simp [Cl]
 | (g,o,x) :: cs=>by
  have ih:=Cl.iff (w:=w) (cs:=cs)
  simp only [Cl,ih,List.mem_cons,forall_eq_or_imp]
theorem Cl.step  (g:w.grownBy w' none) (h:Cl cs w):Cl cs w':=Cl.iff.2 fun c hc=>cell_grown g (Cl.iff.1 h c hc)
theorem Cl.set  (h:Cl cs w) (hn:∀c,c ∈ cs->¬c.1=g):Cl cs (w.setCell ⟨g,o,none⟩ u):=
 Cl.iff.2 fun c hc=>by rw [World.cell?_setCell_far _ _ _ _ (fun e=>hn c hc e.symm)];exact Cl.iff.1 h c hc
theorem St.cl  (h:St W cs fs w) (hs:∀c,c ∈ cs'->c ∈ cs):Cl cs' w:=Cl.iff.2 fun c hc=>(St.iff.1 h).1 c (hs c hc)
open Go.ChangeShapes Go.WideShapes Go.ChangeAt Go.RowKit
section
variable {H:Type}{enc:TypeId×Value->H}
end
def tl (f:Nat->Int):Nat->Nat
 | 0=>0
 | n+1=>if f n=0 then tl f n else n+1
theorem bi (f:Nat->Int):∀n,tl f n<=n
 | 0=>Nat.le_refl _
 | n+1=>by
  unfold tl
  split
  ·exact Nat.le_succ_of_le (bi f n)
  ·exact Nat.le_refl _
theorem iG (f:Nat->Int):∀n i,tl f n<=i->i<n->f i=0
 | 0,i,_,h=>by omega
 | n+1,i,h1,h2=>by
  unfold tl at h1
  split at h1
  ·rename_i h0
   rcases Nat.lt_or_ge i n with h | h
   ·exact iG f n i h1 h
   ·have:i=n:=by omega
    rw [this];exact h0
  ·omega
theorem gE (f:Nat->Int):∀n,0<tl f n->f (tl f n-1)≠0
 | 0,h=>by simp [tl] at h
 | n+1,h=>by
  unfold tl at h ⊢
  split
  ·rename_i h0
   rw [if_pos h0] at h
   exact gE f n h
  ·rename_i h0
   simpa using h0
def ae (zs:List Int) (i:Nat):Int:=zs.getD i 0
theorem eT {i:Nat} (h:zs.length<=i:=by omega):ae zs i=0:=by
 unfold ae
 rw [List.getD_eq_getElem?_getD,List.getElem?_eq_none h];rfl
def mk (n:Nat) (f:Nat->Int):List Int:=(List.range n).map f
theorem dC (n:Nat) (f:Nat->Int):(mk n f).length=n:=by simp [mk]
theorem cM (n:Nat) (f:Nat->Int) (i:Nat):ae (mk n f) i=if i<n then f i else 0:=by
 unfold ae mk
 rw [List.getD_eq_getElem?_getD,List.getElem?_map]
 split
 ·rename_i h
  rw [List.getElem?_eq_getElem (by simpa using h)];simp
 ·rename_i h
  rw [List.getElem?_eq_none (by simpa using h)];rfl
def an (zs:List Int):List Int:=zs.take (tl (ae zs) zs.length)
theorem uJ (zs:List Int):(an zs).length=tl (ae zs) zs.length:=by
 rw [an,List.length_take]
 exact Nat.min_eq_left (bi _ _)
theorem Pk (zs:List Int) (m i:Nat):ae (zs.take m) i=if i<m then ae zs i else 0:=by
 unfold ae
 simp only [List.getD_eq_getElem?_getD,List.getElem?_take]
 split <;> rfl
theorem fM (zs:List Int) (i:Nat):ae (an zs) i=ae zs i:=by
 rw [an,Pk]
 split
 ·rfl
 ·rename_i h
  rcases Nat.lt_or_ge i zs.length with h1 | h1
  ·exact (iG (ae zs) _ _ (by omega) h1).symm
  ·exact (eT (h:=h1)).symm
def cG (zs:List Int):Prop:=0<zs.length->ae zs (zs.length-1)≠0
theorem gX (zs:List Int):cG (an zs):=fun h=>by
 rw [fM,uJ]
 rw [uJ] at h
 exact gE _ _ h
theorem BV {a:List Int} (ha:cG a) (h:∀i,ae a i=ae b i):a.length<=b.length:=by
 rcases Nat.lt_or_ge b.length a.length with hl | hl
 ·exact absurd ((h _).trans (eT)) (ha (by omega))
 ·exact hl
theorem nJ {a:List Int} (ha:cG a) (hb:cG b) (h:∀i,ae a i=ae b i):a=b:=by
 have hl:a.length=b.length:=Nat.le_antisymm (BV ha h) (BV hb fun i=>(h i).symm)
 apply List.ext_getElem hl
 intro i h1 h2
 have:=h i
 unfold ae at this
 simpa [List.getD_eq_getElem?_getD,List.getElem?_eq_getElem h1,List.getElem?_eq_getElem h2] using this
theorem IT  (h:cG zs):an zs=zs:=nJ (gX zs) h (fM zs)
theorem pZ {f g:Nat->Int}:∀{n:Nat},(∀i,i<n->f i=g i)->tl f n=tl g n
 | 0,_=>rfl
 | n+1,h=>by
  unfold tl
  rw [h n (Nat.lt_succ_self n),pZ fun i hi=>h i (Nat.lt_succ_of_lt hi)]
theorem eQ (n:Nat) (f:Nat->Int):(an (mk n f)).length=tl f n:=by
 rw [uJ,dC]
 exact pZ fun i hi=>by rw [cM,if_pos hi]
end Go.Proofs.YtbjfgffibepmkaaGreat
