/- Layer 14's laws -/
import Derived.Test.YtbjfgffibepmkaaGreatPrU
namespace Go.Proofs.YtbjfgffibepmkaaGreat.Sym
open Go.RowKit
theorem AW {nl:Nat}{mx my:Nat->Nat}{ax ay:Nat->Nat->Bool}{xx xy:Nat->Nat->List Nat}{b0:Nat->Bool}{x0:Nat->List Nat}{w:World}{v:Value} (hnl:nl<=9223372036854775807∧∀i,i<nl->mx i<=9223372036854775807∧my i<=9223372036854775807) (hl:Rw 5 (bj ax ay xx xy mx my b0 x0) nl w v) :
  ∃(x y:Nat->Nat->Int) (nx ny:Nat->Nat) (d:Nat->Int) (X Y:Nat->List Int) (D:Nat->Int),(∀i,i<min nl 4->mx i<=9223372036854775807∧my i<=9223372036854775807)∧(∀i,i<min nl 4->(∀j,sg (ax i j) (Proofs.YtbjfgffibepmkaaGreat.val 4294967296 ((xx i j).take 1))=x i j)∧(∀j,sg (ay i j) (Proofs.YtbjfgffibepmkaaGreat.val 4294967296 ((xy i j).take 1))=y i j)∧sg (b0 i) (Proofs.YtbjfgffibepmkaaGreat.val 4294967296 ((x0 i).take 1))=d i)∧(∀i,i<min nl 4->min (mx i) 3=nx i∧min (my i) 3=ny i)∧(∀i,min nl 4<=i->nx i=0∧ny i=0∧d i=0)∧(∀i,i<4->CuG (x i) (y i) (nx i) (ny i) (d i) (X i) (Y i) (D i) 3 1)∧(∀i,i<4->(∀j,j<nx i->Bd (x i j).natAbs 1)∧(∀j,j<ny i->Bd (y i j).natAbs 1)∧Bd (d i).natAbs 1):=by
 obtain ⟨x,hx⟩:∃x:Nat->Nat->Int,∀i j,sg (ax i j) (Proofs.YtbjfgffibepmkaaGreat.val 4294967296 ((xx i j).take 1))=x i j:=⟨_,fun _ _=>rfl⟩
 obtain ⟨y,hy⟩:∃y:Nat->Nat->Int,∀i j,sg (ay i j) (Proofs.YtbjfgffibepmkaaGreat.val 4294967296 ((xy i j).take 1))=y i j:=⟨_,fun _ _=>rfl⟩
 obtain ⟨nx,hnx⟩:∃nx:Nat->Nat,∀i,(if i<min nl 4 then min (mx i) 3 else 0)=nx i:=⟨_,fun _=>rfl⟩
 obtain ⟨ny,hny⟩:∃ny:Nat->Nat,∀i,(if i<min nl 4 then min (my i) 3 else 0)=ny i:=⟨_,fun _=>rfl⟩
 obtain ⟨d,hd⟩:∃d:Nat->Int,∀i,(if i<min nl 4 then sg (b0 i) (Proofs.YtbjfgffibepmkaaGreat.val 4294967296 ((x0 i).take 1)) else 0)=d i:=⟨_,fun _=>rfl⟩
 have raw:∀i,i<nl->(∀j,j<mx i->Bd (x i j).natAbs 1)∧(∀j,j<my i->Bd (y i j).natAbs 1)∧Bd (sg (b0 i) (Proofs.YtbjfgffibepmkaaGreat.val 4294967296 ((x0 i).take 1))).natAbs 1:=fun i hi=>by
  obtain ⟨p,c,rfl,_,he⟩:=hl
  obtain ⟨_,_,_,_,_,_,_,_,_,_,_,_,_,k1,k2,k3⟩:=he i hi
  refine ⟨fun j hj=>yC k1 (hx i) j hj,fun j hj=>yC k2 (hy i) j hj,?_⟩
  obtain ⟨s,_,_,h2⟩:=k3
  rw [ee]
  exact Bd.row _ h2 1
 have hb:∀i,(∀j,j<nx i->Bd (x i j).natAbs 1)∧(∀j,j<ny i->Bd (y i j).natAbs 1)∧Bd (d i).natAbs 1:=fun i=>by
  rw [<- hnx,<- hny,<- hd]
  by_cases h:i<min nl 4
  ·rw [if_pos h,if_pos h,if_pos h]
   have:=raw i (by omega)
   exact ⟨fun j hj=>this.1 j (by omega),fun j hj=>this.2.1 j (by omega),this.2.2⟩
  ·rw [if_neg h,if_neg h,if_neg h]
   exact ⟨fun j hj=>by omega,fun j hj=>by omega,Nat.pow_pos (by omega)⟩
 have n3:∀i,nx i<=3∧ny i<=3:=fun i=>by
  rw [<- hnx,<- hny]
  split <;> omega
 refine ⟨x,y,nx,ny,d,fun i=>ff (ceE (d i)) (di (ceE (d i)) (x i) (y i) (nx i) (ny i)) (x i) (nx i),fun i=>ff (ceE (d i)) (di (ceE (d i)) (x i) (y i) (nx i) (ny i)) (y i) (ny i),fun i=>((di (ceE (d i)) (x i) (y i) (nx i) (ny i):Nat):Int),fun i hi=>hnl.2 i (by omega),fun i hi=>⟨hx i,hy i,by rw [<- hd,if_pos hi]⟩,fun i hi=>⟨by rw [<- hnx,if_pos hi],by rw [<- hny,if_pos hi]⟩,fun i hi=>⟨by rw [<- hnx,if_neg (by omega)],by rw [<- hny,if_neg (by omega)],by rw [<- hd,if_neg (by omega)]⟩,fun i _=>?_,fun i _=>hb i⟩
 have hC:fX (x i) (y i) (nx i) (ny i) (d i) (ff (ceE (d i)) (di (ceE (d i)) (x i) (y i) (nx i) (ny i)) (x i) (nx i)) (ff (ceE (d i)) (di (ceE (d i)) (x i) (y i) (nx i) (ny i)) (y i) (ny i)) ((di (ceE (d i)) (x i) (y i) (nx i) (ny i):Nat):Int):=⟨rfl,rfl,rfl⟩
 have h3:=n3 i
 have ok:=hC.ok (c:=3) (k:=1) (hb i).1 (hb i).2.1 (hb i).2.2 (Nat.le_refl 1) h3.1 h3.2
 exact ⟨hC,by omega,by omega,Nat.le_refl 1,by omega,by omega,ok.1,ok.2.1,ok.2.2⟩
end Go.Proofs.YtbjfgffibepmkaaGreat.Sym
