/- Layer 2's examples -/
import Derived.Test.YtomamliepbhegaaGreatRefL
import Derived.Lib.SmallJoins
namespace Go.Proofs.YtomamliepbhegaaGreat
open Go.RowKit
variable {W W' w w':World}{bs bs':List (Nat×Value×Value)}{g k o:Nat}{u v x y:Value}{a:Addr}{z:Int}{fs:List (Nat×Nat)}{cs cs':List (Nat×Nat×Value)}
theorem k2:2<=1000000:=by omega
def pG (w:World) (b:Nat×Value×Value):Prop:=w.cell? ⟨b.1,0,none⟩=some b.2.1∧w.cell? ⟨b.1,1,none⟩=some b.2.2∧w.frozen? ⟨b.1,0,none⟩=false∧w.frozen? ⟨b.1,1,none⟩=false
def Bx (W:World):List (Nat×Value×Value)->World->Prop
 | [],w=>W.grownBy w none
 | (g,x,y) :: bs,w=>w.cell? ⟨g,0,none⟩=some x∧w.cell? ⟨g,1,none⟩=some y∧w.frozen? ⟨g,0,none⟩=false∧w.frozen? ⟨g,1,none⟩=false∧Bx W bs w
theorem Bx.iff {W w:World}:∀{bs:List (Nat×Value×Value)},Bx W bs w ↔ (∀b,b ∈ bs->pG w b)∧W.grownBy w none
 | []=>by simp [Bx]
 | (g,x,y) :: bs=>by
  have ih:=Bx.iff (W:=W) (w:=w) (bs:=bs)
  simp only [Bx,ih,List.mem_cons,forall_eq_or_imp,pG]
  constructor
  ·rintro ⟨h1,h2,h3,h4,h5,h6⟩
   exact ⟨⟨⟨h1,h2,h3,h4⟩,h5⟩,h6⟩
  ·rintro ⟨⟨⟨h1,h2,h3,h4⟩,h5⟩,h6⟩
   exact ⟨h1,h2,h3,h4,h5,h6⟩
theorem pG.grown {b:Nat×Value×Value} (h:pG w b) (g:w.grownBy w' none):pG w' b:=
 ⟨cell_grown g h.1,cell_grown g h.2.1,gU g h.1 h.2.2.1,gU g h.2.1 h.2.2.2⟩
theorem Bx.step  (bs:List (Nat×Value×Value)) (g:w.grownBy w' none) (h:Bx W bs w):Bx W bs w':=by
 rw [Bx.iff] at h ⊢
 exact ⟨fun b hb=>(h.1 b hb).grown g,aN h.2 g⟩
theorem Bx.all  (h:Bx W bs w):W.grownBy w none:=(Bx.iff.1 h).2
theorem Bx.start (w:World):Bx w [] w:=bh w none
theorem Bx.base  (h:Bx W bs w) (g:W'.grownBy w none):Bx W' bs w:=Bx.iff.2 ⟨(Bx.iff.1 h).1,g⟩
theorem Bx.sub  (h:Bx W bs w) (hs:∀b,b ∈ bs'->b ∈ bs):Bx W bs' w:=by
 rw [Bx.iff] at h ⊢
 exact ⟨fun b hb=>h.1 b (hs b hb),h.2⟩
theorem Bx.box  (g:Nat) (x y:Value) (t:TypeId) (h:Bx W bs w) (hg:w.heap.size=g):Bx W ((g,x,y) :: bs) (w.alloc (.cells #[x,y] t)):=by
 subst hg
 exact ⟨by simp [go_sem],by simp [go_sem],nO _ _ _ _ (nP (Nat.le_refl _)),nO _ _ _ _ (nP (Nat.le_refl _)),Bx.step _ (aU _ _ _) h⟩
theorem Bx.lt  (h:Bx W bs w) (hm:(g,x,y) ∈ bs):g<w.heap.size:=pH ((Bx.iff.1 h).1 _ hm).1
theorem Bx.put  (h:Bx W bs w) (hm:(g,x,y) ∈ bs) (hs:∀b,b ∈ bs'->b ∈ bs) (hn:∀b,b ∈ bs'->b.1≠g) (hW:W.heap.size<=g) :
  Bx W ((g,u,v) :: bs') (set2 w g u v):=by
 have h0:=(Bx.iff.1 h).1 _ hm
 have h1:=(Bx.iff.1 h).1
 refine ⟨dP h0.1,dQ h0.2.1,nQ h0.2.2.1,nQ h0.2.2.2,Bx.iff.2 ⟨fun b hb=>?_,cK h.all (iD _ _ _ _) hW⟩⟩
 have:=h1 b (hs b hb)
 exact ⟨jD this.1 (hg:=(hn b hb)),jD this.2.1 (hg:=(hn b hb)),nQ this.2.2.1,nQ this.2.2.2⟩
def Kp (w w':World):Prop:=w.heap.size<=w'.heap.size∧∀(a:Addr) (k:IntKind) (n:Int),k≠.u64->w.cell? a=some (.int k n)->w'.cell? a=some (.int k n)
theorem Kp.refl (w:World):Kp w w:=⟨Nat.le_refl _,fun _ _ _ _ h=>h⟩
theorem Kp.trans {a b c:World} (h:Kp a b) (k:Kp b c):Kp a c:=⟨Nat.le_trans h.1 k.1,fun x y z u e=>k.2 x y z u (h.2 x y z u e)⟩
theorem Kp.of  (g:w.grownBy w' none):Kp w w':=⟨g.size,fun _ _ _ _ h=>cell_grown g h⟩
theorem Kp.set2  (h0:w.cell? ⟨g,0,none⟩=some x) (h1:w.cell? ⟨g,1,none⟩=some y) (n0:∀k n,x≠.int k n) (n1:∀k n,y≠.int k n):Kp w (set2 w g u v):=by
 refine ⟨by simp [Proofs.YtomamliepbhegaaGreat.set2],fun a k n _ h=>?_⟩
 have e0:(⟨g,0,none⟩:Addr)≠a:=by rintro rfl;rw [h0] at h;exact n0 k n (Option.some.inj h)
 have e1:(⟨g,1,none⟩:Addr)≠a:=by rintro rfl;rw [h1] at h;exact n1 k n (Option.some.inj h)
 unfold Proofs.YtomamliepbhegaaGreat.set2
 rw [World.cell?_setCell_other _ _ _ _ e1,World.cell?_setCell_other _ _ _ _ e0]
 exact h
theorem Bx.kp  (u v:Value) (h:Bx W bs w) (hm:(g,x,y) ∈ bs) (n0:∀k n,x≠.int k n) (n1:∀k n,y≠.int k n):Kp w (set2 w g u v):=
 Kp.set2 ((Bx.iff.1 h).1 _ hm).1 ((Bx.iff.1 h).1 _ hm).2.1 n0 n1
theorem Sl.kp {k:IntKind}{xs:List Nat} (h:Sl w k v xs) (g:Kp w w') (hu:k≠.u64:=by decide):Sl w' k v xs:=by
 obtain ⟨p,cap,rfl,h1,h2,h3⟩:=h
 refine ⟨p,cap,rfl,h1,h2,?_⟩
 rcases h3 with h3 | ⟨b,off,rfl,h4,h5⟩
 ·exact .inl h3
 ·exact .inr ⟨b,off,rfl,Nat.lt_of_lt_of_le h4 g.1,fun j hj=>g.2 _ _ _ hu (h5 j hj)⟩
theorem Num.kp {X:Nat} (h:Num w v X k) (g:Kp w w'):Num w' v X k:=by
 obtain ⟨xs,h1,h2⟩:=h
 exact ⟨xs,h1.kp g,h2⟩
theorem aE.kp  (h:aE w v z k) (g:Kp w w'):aE w' v z k:=by
 obtain ⟨b,s,X,h1,h2,h3⟩:=h
 exact ⟨b,s,X,h1,h2.kp g,h3⟩
theorem gV.kp  (h:gV w v z) (g:Kp w w'):gV w' v z:=by
 obtain ⟨p,cap,h1,h2⟩:=h
 exact ⟨p,cap,h1,h2.kp g⟩
theorem af.kp  (h:af w v z k) (g:Kp w w'):af w' v z k:=by
 obtain ⟨p,cap,h1,h2,h3⟩:=h
 exact ⟨p,cap,h1,h2.kp g,h3⟩
theorem LZ  (r:Bool) (h:gV w v z) (hr:decide (z=0)=r):Calls Tryz.prog 68 #[v] w fun e w'=>e = .returned (.bool r)∧w.grownBy w' none:=by
 subst hr
 obtain ⟨p,cap,rfl,-⟩:=h
 refine uB.mono fun e w' he=>?_
 obtain ⟨rfl,g⟩:=he
 refine ⟨?_,g⟩
 have hl:=fO (b:=4294967296) (n:=z.natAbs)
 congr 2
 exact decide_eq_decide.2 ⟨fun h=>by omega,fun h=>by omega⟩
def eW (W:World):List (Nat×Nat)->World->Prop
 | [],w=>W.grownBy w none
 | (g,o) :: fs,w=>w.cell? ⟨g,o,none⟩=some (cellOf w ⟨g,o,none⟩)∧w.frozen? ⟨g,o,none⟩=false∧eW W fs w
def St (W:World):List (Nat×Nat×Value)->List (Nat×Nat)->World->Prop
 | [],fs,w=>eW W fs w
 | (g,o,x) :: cs,fs,w=>w.cell? ⟨g,o,none⟩=some x∧St W cs fs w
theorem eW.iff {W w:World}:∀{fs:List (Nat×Nat)},eW W fs w ↔ (∀f,f ∈ fs->w.cell? ⟨f.1,f.2,none⟩=some (cellOf w ⟨f.1,f.2,none⟩)∧w.frozen? ⟨f.1,f.2,none⟩=false)∧W.grownBy w none
 | []=>by simp [eW]
 | (g,o) :: fs=>by
  have ih:=eW.iff (W:=W) (w:=w) (fs:=fs)
  simp only [eW,ih,List.mem_cons,forall_eq_or_imp]
  exact ⟨fun ⟨a,b,c,d⟩=>⟨⟨⟨a,b⟩,c⟩,d⟩,fun ⟨⟨⟨a,b⟩,c⟩,d⟩=>⟨a,b,c,d⟩⟩
theorem St.iff {W w:World}{fs:List (Nat×Nat)}:∀{cs:List (Nat×Nat×Value)},St W cs fs w ↔ (∀c,c ∈ cs->w.cell? ⟨c.1,c.2.1,none⟩=some c.2.2)∧eW W fs w
 | []=>by simp [St]
 | (g,o,x) :: cs=>by
  have ih:=St.iff (W:=W) (w:=w) (cs:=cs) (fs:=fs)
  simp only [St,ih,List.mem_cons,forall_eq_or_imp]
  exact ⟨fun ⟨a,b,c⟩=>⟨⟨a,b⟩,c⟩,fun ⟨⟨a,b⟩,c⟩=>⟨a,b,c⟩⟩
theorem eW.step  (g:w.grownBy w' none) (h:eW W fs w):eW W fs w':=by
 rw [eW.iff] at h ⊢
 exact ⟨fun f hf=>⟨iY (cell_grown g (h.1 f hf).1),gU g (h.1 f hf).1 (h.1 f hf).2⟩,aN h.2 g⟩
theorem St.step {w:World} (h:St W cs fs w) (g:w.grownBy w' none):St W cs fs w':=by
 rw [St.iff] at h ⊢
 exact ⟨fun c hc=>cell_grown g (h.1 c hc),h.2.step g⟩
theorem St.keep  (cs:List (Nat×Nat×Value)) (fs:List (Nat×Nat)) (g:w.grownBy w' none) (h:St W cs fs w):St W cs fs w':=h.step g
theorem St.sub {fs':List (Nat×Nat)} (h:St W cs fs w) (hc:∀c,c ∈ cs'->c ∈ cs) (hf:∀f,f ∈ fs'->f ∈ fs):St W cs' fs' w:=by
 rw [St.iff,eW.iff] at h ⊢
 exact ⟨fun c m=>h.1 c (hc c m),fun f m=>h.2.1 f (hf f m),h.2.2⟩
theorem St.all  (h:St W cs fs w):W.grownBy w none:=(eW.iff.1 (St.iff.1 h).2).2
theorem St.base  (h:St W cs fs w) (g:W'.grownBy w none):St W' cs fs w:=by
 rw [St.iff,eW.iff] at h ⊢
 exact ⟨h.1,h.2.1,g⟩
theorem St.size  (h:St W cs fs w):W.heap.size<=w.heap.size:=h.all.size
theorem St.start (w:World):St w [] [] w:=bh w none
theorem St.cell  (h:St W cs fs w) (hm:(g,o,x) ∈ cs):w.cell? ⟨g,o,none⟩=some x:=(St.iff.1 h).1 _ hm
theorem St.has  (h:St W cs fs w) (hm:(g,o) ∈ fs):w.cell? ⟨g,o,none⟩=some (cellOf w ⟨g,o,none⟩):=((eW.iff.1 (St.iff.1 h).2).1 _ hm).1
theorem St.free  (h:St W cs fs w) (hm:(g,o) ∈ fs):w.frozen? ⟨g,o,none⟩=false:=((eW.iff.1 (St.iff.1 h).2).1 _ hm).2
theorem St.lt  (h:St W cs fs w) (hm:(g,o) ∈ fs):g<w.heap.size:=pH (h.has hm)
def rows (g:Nat):Nat->List Value->List (Nat×Nat×Value)
 | _,[]=>[]
 | o,v :: vs=>(g,o,v) :: rows g (o+1) vs
def rM (g:Nat):Nat->List Value->List (Nat×Nat)
 | _,[]=>[]
 | o,_ :: vs=>(g,o) :: rM g (o+1) vs
theorem zY {g:Nat}:∀{vs:List Value}{o:Nat}{c:Nat×Nat×Value},c ∈ rows g o vs->∃j,c.1=g∧c.2.1=o+j∧vs[j]?=some c.2.2
 | [],_,_,h=>by cases h
 | v :: vs,o,c,h=>by
  rcases List.mem_cons.1 h with rfl | h
  ·exact ⟨0,rfl,rfl,rfl⟩
  ·obtain ⟨j,h1,h2,h3⟩:=zY h
   exact ⟨j+1,h1,by omega,h3⟩
theorem zZ {g:Nat}:∀{vs:List Value}{o:Nat}{f:Nat×Nat},f ∈ rM g o vs->∃j v,f.1=g∧f.2=o+j∧vs[j]?=some v
 | [],_,_,h=>by cases h
 | v :: vs,o,c,h=>by
  rcases List.mem_cons.1 h with rfl | h
  ·exact ⟨0,v,rfl,rfl,rfl⟩
  ·obtain ⟨j,v,h1,h2,h3⟩:=zZ h
   exact ⟨j+1,v,h1,by omega,h3⟩
theorem Ac (w:World) (vs:List Value) (t:TypeId){j:Nat} (h:vs[j]?=some v):(w.alloc (.cells vs.toArray t)).cell? ⟨w.heap.size,0+j,none⟩=some v:=by
 simp only [World.cell?,heap_alloc_new,Nat.zero_add]
 simpa using h
theorem St.box  (g:Nat) (vs:List Value) (t:TypeId) (h:St W cs fs w) (hg:w.heap.size=g):St W (rows g 0 vs ++ cs) fs (w.alloc (.cells vs.toArray t)):=by
 subst hg
 have h':=h.step (aU w (.cells vs.toArray t) none)
 rw [St.iff] at h' ⊢
 refine ⟨fun c hc=>?_,h'.2⟩
 rcases List.mem_append.1 hc with hc | hc
 ·obtain ⟨j,h1,h2,h3⟩:=zY hc
  rw [h1,h2]
  exact Ac w vs t h3
 ·exact h'.1 c hc
theorem St.room  (g:Nat) (vs:List Value) (t:TypeId) (h:St W cs fs w) (hg:w.heap.size=g):St W cs (rM g 0 vs ++ fs) (w.alloc (.cells vs.toArray t)):=by
 subst hg
 have h':=h.step (aU w (.cells vs.toArray t) none)
 rw [St.iff,eW.iff] at h' ⊢
 refine ⟨h'.1,fun f hf=>?_,h'.2.2⟩
 rcases List.mem_append.1 hf with hf | hf
 ·obtain ⟨j,v,h1,h2,h3⟩:=zZ hf
  rw [h1,h2]
  exact ⟨iY (Ac w vs t h3),nO _ _ _ _ (nP (Nat.le_refl _))⟩
 ·exact h'.2.1 f hf
theorem St.made  (g:Nat) (vs:List Value) (t:TypeId) (h:St W cs fs w) (hg:w.heap.size=g):St W (rows g 0 vs ++ cs) (rM g 0 vs ++ fs) (w.alloc (.cells vs.toArray t)):=by
 have h1:=St.iff.1 (h.box g vs t hg)
 have h2:=St.iff.1 (h.room g vs t hg)
 exact St.iff.2 ⟨h1.1,h2.2⟩
theorem Ma {b:Addr} (h:w.cell? b=some (cellOf w b)):(w.setCell a u).cell? b=some (cellOf (w.setCell a u) b):=by
 by_cases e:a=b
 ·subst e
  exact iY (World.cell?_setCell_same' _ _ _ (by rw [h];rfl))
 ·exact iY (by rw [World.cell?_setCell_other _ _ _ _ e];exact h)
theorem St.set  (u:Value) (h:St W cs fs w) (hf:(g,o) ∈ fs) (hs:∀c,c ∈ cs'->c ∈ cs∧¬(c.1=g∧c.2.1=o)) (hW:W.heap.size<=g) :
  St W ((g,o,u) :: cs') fs (w.setCell ⟨g,o,none⟩ u):=by
 have h1:=St.iff.1 h
 have h2:=eW.iff.1 h1.2
 rw [St.iff,eW.iff]
 refine ⟨fun c hc=>?_,fun f m=>⟨Ma (h2.1 f m).1,by rw [uC];exact (h2.1 f m).2⟩,cK h2.2 (bN _ _ _ _) hW⟩
 rcases List.mem_cons.1 hc with rfl | hc
 ·exact World.cell?_setCell_same' _ _ _ (by rw [h.has hf];rfl)
 ·obtain ⟨m,hne⟩:=hs c hc
  rw [World.cell?_setCell_other _ _ _ _ (fun e=>hne (by cases e;exact ⟨rfl,rfl⟩))]
  exact h1.1 c m
theorem Kp.set  (h0:w.cell? a=some x) (n0:∀k n,x≠.int k n):Kp w (w.setCell a u):=by
 refine ⟨by simp,fun b k n _ h=>?_⟩
 have e:a≠b:=by rintro rfl;rw [h0] at h;exact n0 k n (Option.some.inj h)
 rw [World.cell?_setCell_other _ _ _ _ e]
 exact h
theorem St.kp  (u:Value) (h:St W cs fs w) (hm:(g,o,x) ∈ cs) (n0:∀k n,x≠.int k n):Kp w (w.setCell ⟨g,o,none⟩ u):=Kp.set (h.cell hm) n0
def Cl:List (Nat×Nat×Value)->World->Prop
 | [],_=>True
 | (g,o,x) :: cs,w=>w.cell? ⟨g,o,none⟩=some x∧Cl cs w
theorem Cl.iff {w:World}:∀{cs:List (Nat×Nat×Value)},Cl cs w ↔ ∀c,c ∈ cs->w.cell? ⟨c.1,c.2.1,none⟩=some c.2.2
 | []=>by simp [Cl]
 | (g,o,x) :: cs=>by
  have ih:=Cl.iff (w:=w) (cs:=cs)
  simp only [Cl,ih,List.mem_cons,forall_eq_or_imp]
theorem Cl.step  (g:w.grownBy w' none) (h:Cl cs w):Cl cs w':=Cl.iff.2 fun c hc=>cell_grown g (Cl.iff.1 h c hc)
theorem Cl.set  (h:Cl cs w) (hn:∀c,c ∈ cs->¬c.1=g):Cl cs (w.setCell ⟨g,o,none⟩ u):=
 Cl.iff.2 fun c hc=>by rw [World.cell?_setCell_far _ _ _ _ (fun e=>hn c hc e.symm)];exact Cl.iff.1 h c hc
theorem St.cl  (h:St W cs fs w) (hs:∀c,c ∈ cs'->c ∈ cs):Cl cs' w:=Cl.iff.2 fun c hc=>(St.iff.1 h).1 c (hs c hc)
open Go.ChangeShapes Go.WideShapes Go.ChangeAt Go.RowKit
section
variable {H:Type}{enc:TypeId×Value->H}
end
end Go.Proofs.YtomamliepbhegaaGreat
