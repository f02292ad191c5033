/- PgcdZero holds: for every int the law returns true. No condition. -/
import Derived.Test.YtbokonbbokhjlaaGreatModU
import Derived.Test.YtbokonbbokhjlaaGreatPolQ
import Derived.Test.YtbokonbbokhjlaaGreatSymS
set_option maxRecDepth 100000
namespace Go.Proofs.YtbokonbbokhjlaaGreat.gzero
open Go.ChangeShapes Go.WideShapes Go.ChangeAt Go.RowKit
open Go.Proofs.YtbokonbbokhjlaaGreat.Sym hiding val run start
def Hi (nz:Int):List WP:=[Ni nz,fun w v=>Rw 1 (fun i _ v=>v = .agg #[.int .i64 (ae [nz] i)]) 1 w v,Rw 2 (Nf (ae []) 2) 0,Rw 2 (Nf (fun _=>0) 1) 0,Rw 1 (bf (cl (ae []) (fun _=>0) (fun _=>0)) (cl 0 0 0) 2) 2,Rw 2 (Nf (fun _=>0) 2) 0,Nz 0,Rw 2 (Nf (fun _=>0) 1) 0,Nz 0,Rw 2 (Nf (fun _=>0) 1) 0,Nz 0,Rw 1 (bf (fun _ _=>0) (fun _=>0) 2) 0,Nz 0]
def Hj:List Step:=[.base ⟨0,[.any,.fact 0],[oS 1],.fresh [] (cj 22 1)⟩,
   .base ⟨27,[.fact 1],[oS 2],false⟩,
   bQ [.fact 0,.lit (.ci .i64 0)] oT (ak .eql),
   .derive (.one (.nl)) (.one (.lit (.nl))) [] 3,
   .base ⟨0,[.any,.fact 2,.fact 3],[oS 4],.fresh [] (cj 41 2)⟩,
   .base ⟨15,[.fact 4],[oS 5],false⟩,
   bQ [.fact 5] [oN 6] (aD 28),
   bQ [.fact 6,.lit (.ci .i64 0)] oT (ak .eql),
   .base ⟨16,[.fact 2,.fact 3],oF,false⟩,
   .base ⟨24,[.fact 2],[oS 7],false⟩,
   bQ [.fact 7] [oN 8] (aD 28),
   bQ [.fact 8,.lit (.ci .i64 0)] oT (ak .eql),
   .base ⟨26,[.fact 2],[oS 9],false⟩,
   bQ [.fact 9] [oN 10] (aD 28),
   bQ [.fact 10,.lit (.ci .i64 0)] oT (ak .eql),
   .base ⟨22,[.fact 2],[oS 11],false⟩,
   bQ [.fact 11] [oN 12] (aD 41),
   bQ [.fact 12,.lit (.ci .i64 0)] oT (ak .eql),
   .base ⟨18,[],oT,false⟩]
def Kk:List Out:=[oN 0]
theorem Kl {nz:Int} (hzb:∀i,-9223372036854775808<=ae [nz] i∧ae [nz] i<=9223372036854775807) (hz:be (mk 1 (ae [nz])) = []) (hn0:nz=0):ai (ph (Hi nz)) Tryz.prog ⟨6,[.fact 0],oT,false⟩:=by
 skip
 exact aV Kk oT Hj Tryz.func6 (by kernel_rfl)
  (lB (fB (ps:=[0]) (sz:=1) (n:=1) (F:=(fun i _ v=>v = .agg #[.int .i64 (ae [nz] i)])) (zc:=.one (.ci .i64 0)) Tryz.underlying22 (by kernel_rfl) (by omega) (by kernel_rfl) (by omega) (by omega) rfl (pO ad) rfl)
   (lB (gO (z:=ae [nz]) (n:=1) (zs:=[]) ad rfl (by omega) hzb hz)
   (lB (bW (op:=.eql) ad (bN (decide_eq_true hn0) (by simp)))
   (ec (tK (F:=Nf (fun _=>0) 1) rfl)
   (lB (ko (fun w v h=>fh ((Rw.To 2 (Nf (ae []) 2) 0 (fun _ _ _ _ h=>af.i h)) w v h) (by omega)) (fun w v h=>fh ((Rw.To 2 (Nf (fun _=>0) 1) 0 (fun _ _ _ _ h=>af.i h)) w v h) (by omega)) rfl)
   (lB (tS ad rfl (by omega))
   (lB (aP (F:=(Nf (fun _=>0) 2)) Tryz.underlying28 ad rfl)
   (lB (bW (op:=.eql) ad (bN (rfl) (by simp)))
   (lB (Km (z:=(ae [])) (k:=2) (y:=(fun _=>0)) (k2:=1) (Rw.To 2 (Nf (ae []) 2) 0 (fun _ _ _ _ h=>af.i h)) (Rw.To 2 (Nf (fun _=>0) 1) 0 (fun _ _ _ _ h=>af.i h)) (by omega) (by omega))
   (lB (kv (sz:=2) (F:=Nf (fun _=>0) 1) (Kn (z:=(ae [])) (k:=2) (Rw.To 2 (Nf (ae []) 2) 0 (fun _ _ _ _ h=>af.i h)) (by omega)) rfl)
   (lB (aP (F:=(Nf (fun _=>0) 1)) Tryz.underlying28 ad rfl)
   (lB (bW (op:=.eql) ad (bN (rfl) (by simp)))
   (lB (kv (sz:=2) (F:=Nf (fun _=>0) 1) (Ko (a:=(ae [])) (n:=0) (k:=2) (Rw.To 2 (Nf (ae []) 2) 0 (fun _ _ _ _ h=>af.i h)) (by omega) (by omega) rfl) rfl)
   (lB (aP (F:=(Nf (fun _=>0) 1)) Tryz.underlying28 ad rfl)
   (lB (bW (op:=.eql) ad (bN (rfl) (by simp)))
   (lB (kv (sz:=1) (F:=(bf (fun _ _=>0) (fun _=>0) 2)) (Kq (z:=(ae [])) (k:=2) (Rw.To 2 (Nf (ae []) 2) 0 (fun _ _ _ _ h=>af.i h)) (by omega)) rfl)
   (lB (aP (F:=(bf (fun _ _=>0) (fun _=>0) 2)) Tryz.underlying41 ad rfl)
   (lB (bW (op:=.eql) ad (bN (rfl) (by simp)))
   (lB (z6)
   aw)))))))))))))))))))
  (aL [.fact 0 (.one (.i))] ⟨fun _ _ h=>h▸eQ _,trivial⟩) (fun _ _ _ h=>h)
def Kr (nz:Int):List WP:=[Ni nz,fun w v=>Rw 1 (fun i _ v=>v = .agg #[.int .i64 (ae [nz] i)]) 1 w v,Rw 2 (Nf (ae [nz]) 2) 1,Ni (1),fun w v=>Rw 1 (fun i _ v=>v = .agg #[.int .i64 (ae [1] i)]) 1 w v,fun w v=>Rw 4 (fun ι w v=>aQ w v ((((ae ([1])) ι:Int):Rat)) 6) 1 w v,Rw 1 (bf (cl (ae [nz]) (ae [nz]) (ae [nz])) (cl 1 1 1) 2) 1,Rw 2 (Nf (ae [1]) 2) 1,Ni (0),fun w v=>Rw 1 (fun i _ v=>v = .agg #[.int .i64 (ae [0,1] i)]) 2 w v,Rw 2 (Nf (ae ([0,1])) 2) 2,Rw 2 (Nf (ae [1]) 2) 1,Rw 2 (Nf (ae [1]) 2) 1,Rw 1 (bf (fun _ _=>0) (fun _=>0) 2) 0,Nz 0]
def Kt:List Step:=[.base ⟨0,[.any,.fact 0],[oS 1],.fresh [] (cj 22 1)⟩,
   .base ⟨27,[.fact 1],[oS 2],false⟩,
   bQ [.fact 0,.lit (.ci .i64 0)] oF (ak .eql),
   .derive (.one (.ci .i64 1)) (.one (.lit (.ci .i64 1))) [] 3,
   .base ⟨0,[.any,.fact 3],[oS 4],.fresh [] (cj 22 1)⟩,
   .base ⟨28,[.fact 4],[oS 5],false⟩,
   .derive (.one (.ci .i64 0)) (.one (.lit (.ci .i64 0))) [] 8,
   .base ⟨0,[.any,.fact 2],[oS 6],.fresh [] (cj 41 1)⟩,
   .base ⟨15,[.fact 6],[oS 7],false⟩,
   .base ⟨14,[.fact 5,.fact 7],oT,false⟩,
   .base ⟨0,[.any,.fact 8,.fact 3],[oS 9],.fresh [] (cj 22 2)⟩,
   .base ⟨27,[.fact 9],[oS 10],false⟩,
   .base ⟨16,[.fact 2,.fact 10],oT,false⟩,
   .base ⟨24,[.fact 2],[oS 11],false⟩,
   .base ⟨14,[.fact 5,.fact 11],oT,false⟩,
   .base ⟨26,[.fact 2],[oS 12],false⟩,
   .base ⟨14,[.fact 5,.fact 12],oT,false⟩,
   .base ⟨22,[.fact 2],[oS 13],false⟩,
   bQ [.fact 13] [oN 14] (aD 41),
   bQ [.fact 14,.lit (.ci .i64 0)] oT (ak .eql),
   .base ⟨18,[],oT,false⟩]
def Ku:List Out:=[oN 0]
theorem Kv {nz:Int} (hzb:∀i,-9223372036854775808<=ae [nz] i∧ae [nz] i<=9223372036854775807) (hz:be (mk 1 (ae [nz])) = [nz]) (hn0:nz≠0) (hb:nz.natAbs<18446744073709551616):ai (ph (Kr nz)) Tryz.prog ⟨6,[.fact 0],oT,false⟩:=by
 skip
 exact aV Ku oT Kt Tryz.func6 (by kernel_rfl)
  (lB (fB (ps:=[0]) (sz:=1) (n:=1) (F:=(fun i _ v=>v = .agg #[.int .i64 (ae [nz] i)])) (zc:=.one (.ci .i64 0)) Tryz.underlying22 (by kernel_rfl) (by omega) (by kernel_rfl) (by omega) (by omega) rfl (pO ad) rfl)
   (lB (gO (z:=ae [nz]) (n:=1) (zs:=[nz]) ad rfl (by omega) hzb hz)
   (lB (bW (op:=.eql) ad (bN (decide_eq_false hn0) (by simp)))
   (ec (ij rfl)
   (lB (fB (ps:=[3]) (sz:=1) (n:=1) (F:=(fun i _ v=>v = .agg #[.int .i64 (ae [1] i)])) (zc:=.one (.ci .i64 0)) Tryz.underlying22 (by kernel_rfl) (by omega) (by kernel_rfl) (by omega) (by omega) rfl (pO ad) rfl)
   (lB (tL (z:=ae [1]) (n:=1) (L:=[1]) ad rfl (by omega) (iN (by decide)) (by decide))
   (ec (ij rfl)
   (lB (Kx (fun w v h=>fh ((Rw.To 2 (Nf (ae [nz]) 2) 1 (fun _ _ _ _ h=>af.i h)) w v h) (by omega)) rfl)
   (lB (Ky (c:=nz) ad rfl (by omega) hn0)
   (lB (nM (z:=(ae [1])) (n:=1) (k:=2) (kq:=6) ad ad (by omega) (by omega) (by omega))
   (lB (fB (ps:=[8,3]) (sz:=1) (n:=2) (F:=(fun i _ v=>v = .agg #[.int .i64 (ae [0,1] i)])) (zc:=.one (.ci .i64 0)) Tryz.underlying22 (by kernel_rfl) (by omega) (by kernel_rfl) (by omega) (by omega) rfl (nE ad ad) rfl)
   (lB (gO (z:=ae [0,1]) (n:=2) (zs:=[0,1]) ad rfl (by omega) (iN (by decide)) (by decide))
   (lB (Kz (c:=nz) (k:=2) (y:=(ae ([0,1]))) (n:=2) (k2:=2) (Rw.To 2 (Nf (ae [nz]) 2) 1 (fun _ _ _ _ h=>af.i h)) (Rw.To 2 (Nf (ae ([0,1])) 2) 2 (fun _ _ _ _ h=>af.i h)) (by omega) (by omega) (by omega) hn0)
   (lB (KA (c:=nz) (k:=2) (Rw.To 2 (Nf (ae [nz]) 2) 1 (fun _ _ _ _ h=>af.i h)) rfl (by omega) hn0)
   (lB (nM (z:=(ae [1])) (n:=1) (k:=2) (kq:=6) ad ad (by omega) (by omega) (by omega))
   (lB (KB (c:=nz) (Rw.To 2 (Nf (ae [nz]) 2) 1 (fun _ _ _ _ h=>af.i h)) rfl hn0 hb)
   (lB (nM (z:=(ae [1])) (n:=1) (k:=2) (kq:=6) ad ad (by omega) (by omega) (by omega))
   (lB (KC (c:=nz) (Rw.To 2 (Nf (ae [nz]) 2) 1 (fun _ _ _ _ h=>af.i h)) rfl hn0 hb)
   (lB (aP (F:=(bf (fun _ _=>0) (fun _=>0) 2)) Tryz.underlying41 ad rfl)
   (lB (bW (op:=.eql) ad (bN (rfl) (by simp)))
   (lB (z6)
   aw)))))))))))))))))))))
  (aL [.fact 0 (.one (.i))] ⟨fun _ _ h=>h▸eQ _,trivial⟩) (fun _ _ _ h=>h)
theorem walk {W:World} (nz:Int) (h0 : -9223372036854775808<=nz) (h1:nz<=9223372036854775807):Calls Tryz.prog 6 #[.int .i64 nz] W (fun e W'=>e = .returned (.bool true)∧W.grownBy W' none):=by
 have hzb:∀i,-9223372036854775808<=ae [nz] i∧ae [nz] i<=9223372036854775807:=iN (by
  intro x hx
  simp only [List.mem_singleton] at hx
  omega)
 have hargs:∀Φ:PH,Φ 0=(Ni nz)->cB Φ (fun _=>False) W [.fact 0] [.int .i64 nz]:=fun Φ e=>⟨fun w1 _=>by rw [e],trivial⟩
 by_cases hn:nz=0
 ·subst hn
  exact z7 (Kl hzb (by decide) rfl) (vs:=[.int .i64 0]) (hargs _ rfl)
 ·have ht:tl (ae [nz]) 1=1:=ki hn
  have hz:be (mk 1 (ae [nz])) = [nz]:=by
   have hl:(be (mk 1 (ae [nz]))).length=1:=by rw [gl,ht]
   have h0:ae (be (mk 1 (ae [nz]))) 0=nz:=by rw [nw,fl];rfl
   match h:be (mk 1 (ae [nz])),hl with
   | [y],_=>
    rw [h] at h0
    have h0:y=nz:=h0
    rw [h0]
  exact z7 (Kv hzb hz hn (by omega)) (vs:=[.int .i64 nz]) (hargs _ rfl)
theorem lifted (os:Os) (started:os.Started) (H:Type) (enc:TypeId×Value->H) :
  ReturnsInHanded {} Tryz.checked os 6 .any (Rows.pgcdZeroSpec.pre6 enc Tryz.prog Tryz.f6 Rows.pgcdZeroRow.domain false) (Rows.pgcdZeroSpec.post enc Tryz.prog Tryz.f6 false true false false):=by
 refine returnsInHanded_of_change (C:=Tryz.checked) Tryz.own started (by kernel_rfl) Tryz.func6
  (ChangeSpec.witness6 (enc:=enc) (C:=Tryz.checked) false ⟨#[],#[.int .i64 0],[]⟩ 8 (by kernel_rfl) (by kernel_rfl) (by kernel_rfl) (by kernel_rfl)) ?_
 intro W base args ds gs before hval0 hW _ _
 have hval:∀(j:Nat) t v,Tryz.f6.params[j]?=some t->args[j]?=some v->Value.okWide Tryz.prog W .any base t v:=hval0
 obtain ⟨p,q,hA0,hV,rfl,_,_⟩:=id hW
 have hA:DataW.TrodAll enc Tryz.prog W 0 (fun _=>true) true Tryz.f6.params.toList args.toList ds p:=hA0
 rw [Tryz.params6] at hA hval
 obtain ⟨v0,Xs,d0,ds0,p0,q0,hargs,rfl,rfl,h0,r0⟩:=trodAll_cons hA
 obtain ⟨rfl,rfl,rfl⟩:=trodAll_nil r0
 obtain rfl:args = #[v0]:=by cases args;simp_all
 obtain ⟨n0,rfl,rfl,rfl,f0⟩:=open_int Tryz.underlying3 (hval 0 3 v0 rfl rfl) h0
 refine (walk n0 (KD f0) (KE f0)).mono fun e W' ⟨he,hg⟩=>?_
 subst he
 refine ⟨_,rfl,KF Tryz.laidOut rfl (by kernel_rfl) Tryz.underlying4 ?_ ?_ hW hg⟩
 ·rw [Tryz.params6];decide +kernel
 ·rw [Tryz.params6]
  intro ds h
  match ds,h with
  | [_],_=>rfl
theorem holds:Rows.PgcdZeroSaid:=
 OpenClaim.holds_of_wide 6 Tryz.f6 rfl rfl rfl rfl rfl rfl rfl ⟨rfl,rfl,rfl,rfl,rfl⟩ rfl rfl rfl rfl rfl (by kernel_rfl) Tryz.func6 (by kernel_rfl)
  (of_decide_eq_true (by kernel_rfl)) (by unfold Func.isWrapper;first | (rw [if_pos (by decide +kernel)];kernel_rfl) | (rw [if_neg (by decide +kernel)];exact ⟨rfl,rfl⟩))
  (fun os started H enc _=>lifted os started H enc)
end Go.Proofs.YtbokonbbokhjlaaGreat.gzero
