/- DetDets -/
import Derived.Test.YtomamliepbhegaaDtY
import Derived.Test.YtomamliepbhegaaPolO
import Derived.Test.YtomamliepbhegaaDtL
set_option maxRecDepth 100000
namespace Go.Proofs.Ytomamliepbhegaa.ddets
open Go.ChangeShapes Go.WideShapes Go.ChangeAt Go.RowKit
open Go.Proofs.Ytomamliepbhegaa.Sym hiding val run start
open Go.Proofs.Ytomamliepbhegaa.dlaw
def sF (al:Nat->Nat->Bool) (xl:Nat->Nat->List Nat) (ml:Nat->Nat) (z:Nat->Nat->Int) (ln:Nat->Nat) (nl:Nat) (nz mz:Int) (N M:Nat):List WP:=[Rw 1 (bF al xl ml) nl,Ni nz,Ni mz,Nz N,Nz M,Ni (Int.tmod ((M:Nat):Int) 2),Rw 1 (ah (aw (fun i k=>z (N*i+k)) (fun i k=>ln (N*i+k)) N 1)) N,Rw 1 (ah (aP (fun i k=>ad (mk (ln (N*i+k)) (z (N*i+k)))) N 5)) N,fun w v=>Rw 2 (fun ι w v=>au w v ((ae (an N (fun i k=>ad (mk ((fun i k=>ln (N*i+k)) i k) ((fun i k=>z (N*i+k)) i k))))) ι) 2000) ((an N (fun i k=>ad (mk ((fun i k=>ln (N*i+k)) i k) ((fun i k=>z (N*i+k)) i k)))).length) w v,fun w v=>Rw 4 (fun ι w v=>am w v ((((ae (an N (fun i k=>ad (mk (ln (N*i+k)) (z (N*i+k)))))) ι:Int):Rat)) 2000) ((an N (fun i k=>ad (mk (ln (N*i+k)) (z (N*i+k))))).length) w v]
def Ns:List Step:=[.base ⟨8,[.fact 1,.lit (.ci .i64 6)],[oN 3],false⟩,
   .base ⟨8,[.fact 2,.lit (.ci .i64 6)],[oN 4],false⟩,
   bQ [.fact 4,.lit (.ci .i64 2)] [oN 5] (dY),
   bQ [.fact 5,.lit (.ci .i64 0)] oT (ai .eql),
   .base ⟨9,[.fact 0,.fact 3,.fact 3],[oS 6,oS 7],true⟩,
   .base ⟨10,[.fact 6],[oS 8,oL (.ci .i64 0)],true⟩,
   bQ [.fact 3,.lit (.ci .i64 4)] oF (ai .gtr),
   bQ [.fact 3,.fact 3] oF (ai .neq),
   .base ⟨13,[.fact 7],[oS 9],false⟩,
   .base ⟨12,[.fact 9,.fact 8],oT,false⟩,
   .base ⟨11,[],oT,false⟩]
def Nt:List Out:=[oS 0,oN 1,oN 2]
theorem Nv {al:Nat->Nat->Bool}{xl:Nat->Nat->List Nat}{ml:Nat->Nat}{z:Nat->Nat->Int}{ln:Nat->Nat}{nl:Nat}{nz mz:Int}{N M:Nat} (hnl:nl<=9223372036854775807) (hml:∀q,ml q<=9223372036854775807) (hz:∀q j,sg (al q j) (Proofs.Ytomamliepbhegaa.val 4294967296 ((xl q j).take 1))=z q j) (hN:∀q,q<nl->min (ml q) 3=ln q) (hN0:∀q,¬q<nl->ln q=0) (hln:∀q,ln q<=3) (hE:∀q,EOk 3 1 (ad (mk (ln q) (z q)))) (bw:bX nz 6=N) (hMw:bX mz 6=M) (hN6:N<6) (hM6:M<6) (hm2:M % 2=0) (lD:N<=4):aj (ph (sF al xl ml z ln nl nz mz N M)) Try.prog ⟨3,[.fact 0,.fact 1,.fact 2],oT,false⟩:=by
 have Lr:(an N (fun i k=>ad (mk (ln (N*i+k)) (z (N*i+k))))).length<=1000:=Nat.le_trans (fU (c:=3) (k:=1) N _ (fun _ _ _ _=>hE _)).len (by omega)
 exact aR Nt oT Ns Try.func3 (by kernel_rfl)
  (lB (cZ (n:=6) rfl aa (by omega) (by omega) bw rfl)
   (lB (cZ (n:=6) rfl aa (by omega) (by omega) hMw rfl)
   (lB (eB aa (by decide) rfl)
   (lB (bi (op:=.eql) aa (aS (decide_eq_true (by have:=Int.tmod_eq_emod_of_nonneg (a:=(M:Int)) (b:=2) (by omega);omega)) (by simp)))
   (lB (eh (n:=N) (m:=N) (ml:=ml) (ln:=ln) (z:=z) aa aa aa rfl rfl (by omega) (by omega) hnl hml hz hN hN0 (fun q=>Nat.le_trans (hln q) (by omega)))
   (lB (jF (z:=(fun i k=>z (N*i+k))) (ln:=(fun i k=>ln (N*i+k))) (K:=1) (n:=N) (c:=3) (k:=1) aa rfl (by omega) (by omega) (by omega) (by omega) (fun _ _ _ _=>hE _) (fun _ _=>Nat.le_trans (hln _) (by omega)))
   (lB (dr aa)
   (lB (cM (op:=.neq) aa aa (aS (decide_eq_false (by omega)) (by simp)))
   (lB (lp (K:=5) (c:=3) (k:=1) (by omega) (by omega) (by omega) N (by omega) (fun i k=>ad (mk (ln (N*i+k)) (z (N*i+k)))) aa rfl (fun _ _ _ _=>hE _))
   (lB (jM (z:=ae (an N (fun i k=>ad (mk (ln (N*i+k)) (z (N*i+k)))))) (n:=(an N (fun i k=>ad (mk (ln (N*i+k)) (z (N*i+k))))).length) (kq:=2000) (k:=2000) aa aa (by have:=Lr;omega) (by omega) (by omega))
   (lB (ei)
   aA)))))))))))
  (aJ [.fact 0 (.one (.s)),.fact 1 (.one (.i)),.fact 2 (.one (.i))] ⟨Rw.Is 1 (bF al xl ml) nl,fun _ _ h=>h▸aQ _,fun _ _ h=>h▸aQ _,trivial⟩) (fun _ _ _ h=>h)
def Nx (al:Nat->Nat->Bool) (xl:Nat->Nat->List Nat) (ml:Nat->Nat) (z:Nat->Nat->Int) (ln:Nat->Nat) (nl:Nat) (nz mz:Int) (N M:Nat):List WP:=[Rw 1 (bF al xl ml) nl,Ni nz,Ni mz,Nz N,Nz M,Ni (Int.tmod ((M:Nat):Int) 2),Rw 1 (ah (aw (fun i k=>z (N*i+k)) (fun i k=>ln (N*i+k)) N 1)) N,Rw 1 (ah (aP (fun i k=>ad (mk (ln (N*i+k)) (z (N*i+k)))) N 5)) N]
def Ny:List Step:=[.base ⟨8,[.fact 1,.lit (.ci .i64 6)],[oN 3],false⟩,
   .base ⟨8,[.fact 2,.lit (.ci .i64 6)],[oN 4],false⟩,
   bQ [.fact 4,.lit (.ci .i64 2)] [oN 5] (dY),
   bQ [.fact 5,.lit (.ci .i64 0)] oT (ai .eql),
   .base ⟨9,[.fact 0,.fact 3,.fact 3],[oS 6,oS 7],true⟩,
   .base ⟨10,[.fact 6],[⟨.one (.lit (.nl)),[]⟩,oL (.ci .i64 1)],true⟩,
   bQ [.fact 3,.lit (.ci .i64 4)] oT (ai .gtr),
   bQ [.lit .nl] [oL (.ci .i64 0)] (aD 29),
   .base ⟨11,[],oT,false⟩]
def NA:List Out:=[oS 0,oN 1,oN 2]
theorem NB {al:Nat->Nat->Bool}{xl:Nat->Nat->List Nat}{ml:Nat->Nat}{z:Nat->Nat->Int}{ln:Nat->Nat}{nl:Nat}{nz mz:Int}{N M:Nat} (hnl:nl<=9223372036854775807) (hml:∀q,ml q<=9223372036854775807) (hz:∀q j,sg (al q j) (Proofs.Ytomamliepbhegaa.val 4294967296 ((xl q j).take 1))=z q j) (hN:∀q,q<nl->min (ml q) 3=ln q) (hN0:∀q,¬q<nl->ln q=0) (hln:∀q,ln q<=3) (_hE:∀q,EOk 3 1 (ad (mk (ln q) (z q)))) (bw:bX nz 6=N) (hMw:bX mz 6=M) (hN6:N<6) (hM6:M<6) (hm2:M % 2=0) (lD:4<N):aj (ph (Nx al xl ml z ln nl nz mz N M)) Try.prog ⟨3,[.fact 0,.fact 1,.fact 2],oT,false⟩:=by
 skip
 exact aR NA oT Ny Try.func3 (by kernel_rfl)
  (lB (cZ (n:=6) rfl aa (by omega) (by omega) bw rfl)
   (lB (cZ (n:=6) rfl aa (by omega) (by omega) hMw rfl)
   (lB (eB aa (by decide) rfl)
   (lB (bi (op:=.eql) aa (aS (decide_eq_true (by have:=Int.tmod_eq_emod_of_nonneg (a:=(M:Int)) (b:=2) (by omega);omega)) (by simp)))
   (lB (eh (n:=N) (m:=N) (ml:=ml) (ln:=ln) (z:=z) aa aa aa rfl rfl (by omega) (by omega) hnl hml hz hN hN0 (fun q=>Nat.le_trans (hln q) (by omega)))
   (lB (nj (z:=(fun i k=>z (N*i+k))) (ln:=(fun i k=>ln (N*i+k))) (m:=N) (K:=1) (n:=N) aa (by omega))
   (lB (ed aa)
   (lB (dW Try.underlying29)
   (lB (ei)
   aA)))))))))
  (aJ [.fact 0 (.one (.s)),.fact 1 (.one (.i)),.fact 2 (.one (.i))] ⟨Rw.Is 1 (bF al xl ml) nl,fun _ _ h=>h▸aQ _,fun _ _ h=>h▸aQ _,trivial⟩) (fun _ _ _ h=>h)
def NC (al:Nat->Nat->Bool) (xl:Nat->Nat->List Nat) (ml:Nat->Nat) (z:Nat->Nat->Int) (ln:Nat->Nat) (nl:Nat) (nz mz:Int) (N M:Nat):List WP:=[Rw 1 (bF al xl ml) nl,Ni nz,Ni mz,Nz N,Nz M,Ni (Int.tmod ((M:Nat):Int) 2),Rw 1 (ah (aw (fun i k=>z (M*i+k)) (fun i k=>ln (M*i+k)) M 1)) N,Rw 1 (ah (aP (fun i k=>ad (mk (ln (M*i+k)) (z (M*i+k)))) M 5)) N,fun w v=>Rw 2 (fun ι w v=>au w v ((ae (an N (fun i k=>ad (mk ((fun i k=>ln (M*i+k)) i k) ((fun i k=>z (M*i+k)) i k))))) ι) 2000) ((an N (fun i k=>ad (mk ((fun i k=>ln (M*i+k)) i k) ((fun i k=>z (M*i+k)) i k)))).length) w v,fun w v=>Rw 4 (fun ι w v=>am w v ((((ae (an N (fun i k=>ad (mk (ln (M*i+k)) (z (M*i+k)))))) ι:Int):Rat)) 2000) ((an N (fun i k=>ad (mk (ln (M*i+k)) (z (M*i+k))))).length) w v]
def Ba:List Step:=[.base ⟨8,[.fact 1,.lit (.ci .i64 6)],[oN 3],false⟩,
   .base ⟨8,[.fact 2,.lit (.ci .i64 6)],[oN 4],false⟩,
   bQ [.fact 4,.lit (.ci .i64 2)] [oN 5] (dY),
   bQ [.fact 5,.lit (.ci .i64 0)] oF (ai .eql),
   .base ⟨9,[.fact 0,.fact 3,.fact 4],[oS 6,oS 7],true⟩,
   .base ⟨10,[.fact 6],[oS 8,oL (.ci .i64 0)],true⟩,
   bQ [.fact 3,.lit (.ci .i64 4)] oF (ai .gtr),
   bQ [.fact 3,.fact 4] oF (ai .neq),
   .base ⟨13,[.fact 7],[oS 9],false⟩,
   .base ⟨12,[.fact 9,.fact 8],oT,false⟩,
   .base ⟨11,[],oT,false⟩]
def Bb:List Out:=[oS 0,oN 1,oN 2]
theorem Bc {al:Nat->Nat->Bool}{xl:Nat->Nat->List Nat}{ml:Nat->Nat}{z:Nat->Nat->Int}{ln:Nat->Nat}{nl:Nat}{nz mz:Int}{N M:Nat} (hnl:nl<=9223372036854775807) (hml:∀q,ml q<=9223372036854775807) (hz:∀q j,sg (al q j) (Proofs.Ytomamliepbhegaa.val 4294967296 ((xl q j).take 1))=z q j) (hN:∀q,q<nl->min (ml q) 3=ln q) (hN0:∀q,¬q<nl->ln q=0) (hln:∀q,ln q<=3) (hE:∀q,EOk 3 1 (ad (mk (ln q) (z q)))) (bw:bX nz 6=N) (hMw:bX mz 6=M) (hN6:N<6) (_hM6:M<6) (hm2:M % 2=1) (lD:N<=4) (hnm:N=M):aj (ph (NC al xl ml z ln nl nz mz N M)) Try.prog ⟨3,[.fact 0,.fact 1,.fact 2],oT,false⟩:=by
 have Lr:(an N (fun i k=>ad (mk (ln (M*i+k)) (z (M*i+k))))).length<=1000:=Nat.le_trans (fU (c:=3) (k:=1) N _ (fun _ _ _ _=>hE _)).len (by omega)
 exact aR Bb oT Ba Try.func3 (by kernel_rfl)
  (lB (cZ (n:=6) rfl aa (by omega) (by omega) bw rfl)
   (lB (cZ (n:=6) rfl aa (by omega) (by omega) hMw rfl)
   (lB (eB aa (by decide) rfl)
   (lB (bi (op:=.eql) aa (aS (decide_eq_false (by have:=Int.tmod_eq_emod_of_nonneg (a:=(M:Int)) (b:=2) (by omega);omega)) (by simp)))
   (lB (eh (n:=N) (m:=M) (ml:=ml) (ln:=ln) (z:=z) aa aa aa rfl rfl (by omega) (by omega) hnl hml hz hN hN0 (fun q=>Nat.le_trans (hln q) (by omega)))
   (lB (jF (z:=(fun i k=>z (M*i+k))) (ln:=(fun i k=>ln (M*i+k))) (K:=1) (n:=N) (c:=3) (k:=1) (fun _ _ h=>Rw.to (sz:=1) (n:=N) (F:=(ah (aw (fun i k=>z (M*i+k)) (fun i k=>ln (M*i+k)) M 1))) h fun ι w v hι h=>(show N=M by omega)▸h) rfl (by omega) (by omega) (by omega) (by omega) (fun _ _ _ _=>hE _) (fun _ _=>Nat.le_trans (hln _) (by omega)))
   (lB (dr aa)
   (lB (cM (op:=.neq) aa aa (aS (decide_eq_false (by omega)) (by simp)))
   (lB (lp (K:=5) (c:=3) (k:=1) (by omega) (by omega) (by omega) N (by omega) (fun i k=>ad (mk (ln (M*i+k)) (z (M*i+k)))) (fun _ _ h=>Rw.to (sz:=1) (n:=N) (F:=(ah (aP (fun i k=>ad (mk (ln (M*i+k)) (z (M*i+k)))) M 5))) h fun ι w v hι h=>(show N=M by omega)▸h) rfl (fun _ _ _ _=>hE _))
   (lB (jM (z:=ae (an N (fun i k=>ad (mk (ln (M*i+k)) (z (M*i+k)))))) (n:=(an N (fun i k=>ad (mk (ln (M*i+k)) (z (M*i+k))))).length) (kq:=2000) (k:=2000) aa aa (by have:=Lr;omega) (by omega) (by omega))
   (lB (ei)
   aA)))))))))))
  (aJ [.fact 0 (.one (.s)),.fact 1 (.one (.i)),.fact 2 (.one (.i))] ⟨Rw.Is 1 (bF al xl ml) nl,fun _ _ h=>h▸aQ _,fun _ _ h=>h▸aQ _,trivial⟩) (fun _ _ _ h=>h)
def Be (al:Nat->Nat->Bool) (xl:Nat->Nat->List Nat) (ml:Nat->Nat) (z:Nat->Nat->Int) (ln:Nat->Nat) (nl:Nat) (nz mz:Int) (N M:Nat):List WP:=[Rw 1 (bF al xl ml) nl,Ni nz,Ni mz,Nz N,Nz M,Ni (Int.tmod ((M:Nat):Int) 2),Rw 1 (ah (aw (fun i k=>z (M*i+k)) (fun i k=>ln (M*i+k)) M 1)) N,Rw 1 (ah (aP (fun i k=>ad (mk (ln (M*i+k)) (z (M*i+k)))) M 5)) N,fun w v=>Rw 2 (fun ι w v=>au w v ((ae (an N (fun i k=>ad (mk ((fun i k=>ln (M*i+k)) i k) ((fun i k=>z (M*i+k)) i k))))) ι) 2000) ((an N (fun i k=>ad (mk ((fun i k=>ln (M*i+k)) i k) ((fun i k=>z (M*i+k)) i k)))).length) w v,fun w v=>Rw 4 (fun ι w v=>am w v ((((ae (an N (fun i k=>ad (mk (ln (M*i+k)) (z (M*i+k)))))) ι:Int):Rat)) 2000) ((an N (fun i k=>ad (mk (ln (M*i+k)) (z (M*i+k))))).length) w v]
def Bf:List Step:=[.base ⟨8,[.fact 1,.lit (.ci .i64 6)],[oN 3],false⟩,
   .base ⟨8,[.fact 2,.lit (.ci .i64 6)],[oN 4],false⟩,
   bQ [.fact 4,.lit (.ci .i64 2)] [oN 5] (dY),
   bQ [.fact 5,.lit (.ci .i64 0)] oF (ai .eql),
   .base ⟨9,[.fact 0,.fact 3,.fact 4],[oS 6,oS 7],true⟩,
   .base ⟨10,[.fact 6],[oS 8,oL (.ci .i64 0)],true⟩,
   bQ [.fact 3,.lit (.ci .i64 4)] oF (ai .gtr),
   bQ [.fact 3,.fact 4] oT (ai .neq),
   bQ [.fact 3,.lit (.ci .i64 0)] oF (ai .gtr),
   .base ⟨13,[.fact 7],[oS 9],false⟩,
   .base ⟨12,[.fact 9,.fact 8],oT,false⟩,
   .base ⟨11,[],oT,false⟩]
def Bg:List Out:=[oS 0,oN 1,oN 2]
theorem Bh {al:Nat->Nat->Bool}{xl:Nat->Nat->List Nat}{ml:Nat->Nat}{z:Nat->Nat->Int}{ln:Nat->Nat}{nl:Nat}{nz mz:Int}{N M:Nat} (hnl:nl<=9223372036854775807) (hml:∀q,ml q<=9223372036854775807) (hz:∀q j,sg (al q j) (Proofs.Ytomamliepbhegaa.val 4294967296 ((xl q j).take 1))=z q j) (hN:∀q,q<nl->min (ml q) 3=ln q) (hN0:∀q,¬q<nl->ln q=0) (hln:∀q,ln q<=3) (hE:∀q,EOk 3 1 (ad (mk (ln q) (z q)))) (bw:bX nz 6=N) (hMw:bX mz 6=M) (_hN6:N<6) (hM6:M<6) (hm2:M % 2=1) (hn0:N=0):aj (ph (Be al xl ml z ln nl nz mz N M)) Try.prog ⟨3,[.fact 0,.fact 1,.fact 2],oT,false⟩:=by
 have Lr:(an N (fun i k=>ad (mk (ln (M*i+k)) (z (M*i+k))))).length<=1000:=Nat.le_trans (fU (c:=3) (k:=1) N _ (fun _ _ _ _=>hE _)).len (by omega)
 exact aR Bg oT Bf Try.func3 (by kernel_rfl)
  (lB (cZ (n:=6) rfl aa (by omega) (by omega) bw rfl)
   (lB (cZ (n:=6) rfl aa (by omega) (by omega) hMw rfl)
   (lB (eB aa (by decide) rfl)
   (lB (bi (op:=.eql) aa (aS (decide_eq_false (by have:=Int.tmod_eq_emod_of_nonneg (a:=(M:Int)) (b:=2) (by omega);omega)) (by simp)))
   (lB (eh (n:=N) (m:=M) (ml:=ml) (ln:=ln) (z:=z) aa aa aa rfl rfl (by omega) (by omega) hnl hml hz hN hN0 (fun q=>Nat.le_trans (hln q) (by omega)))
   (lB (jF (z:=(fun i k=>z (M*i+k))) (ln:=(fun i k=>ln (M*i+k))) (K:=1) (n:=N) (c:=3) (k:=1) (fun _ _ h=>Rw.to (sz:=1) (n:=N) (F:=(ah (aw (fun i k=>z (M*i+k)) (fun i k=>ln (M*i+k)) M 1))) h fun ι w v hι h=>(show N=M by omega)▸h) rfl (by omega) (by omega) (by omega) (by omega) (fun _ _ _ _=>hE _) (fun _ _=>Nat.le_trans (hln _) (by omega)))
   (lB (dr aa)
   (lB (cM (op:=.neq) aa aa (aS (decide_eq_true (by omega)) (by simp)))
   (lB (dr aa)
   (lB (lp (K:=5) (c:=3) (k:=1) (by omega) (by omega) (by omega) N (by omega) (fun i k=>ad (mk (ln (M*i+k)) (z (M*i+k)))) (fun _ _ h=>Rw.to (sz:=1) (n:=N) (F:=(ah (aP (fun i k=>ad (mk (ln (M*i+k)) (z (M*i+k)))) M 5))) h fun ι w v hι h=>(show N=M by omega)▸h) rfl (fun _ _ _ _=>hE _))
   (lB (jM (z:=ae (an N (fun i k=>ad (mk (ln (M*i+k)) (z (M*i+k)))))) (n:=(an N (fun i k=>ad (mk (ln (M*i+k)) (z (M*i+k))))).length) (kq:=2000) (k:=2000) aa aa (by have:=Lr;omega) (by omega) (by omega))
   (lB (ei)
   aA))))))))))))
  (aJ [.fact 0 (.one (.s)),.fact 1 (.one (.i)),.fact 2 (.one (.i))] ⟨Rw.Is 1 (bF al xl ml) nl,fun _ _ h=>h▸aQ _,fun _ _ h=>h▸aQ _,trivial⟩) (fun _ _ _ h=>h)
def Bi (al:Nat->Nat->Bool) (xl:Nat->Nat->List Nat) (ml:Nat->Nat) (z:Nat->Nat->Int) (ln:Nat->Nat) (nl:Nat) (nz mz:Int) (N M:Nat):List WP:=[Rw 1 (bF al xl ml) nl,Ni nz,Ni mz,Nz N,Nz M,Ni (Int.tmod ((M:Nat):Int) 2),Rw 1 (ah (aw (fun i k=>z (M*i+k)) (fun i k=>ln (M*i+k)) M 1)) N,Rw 1 (ah (aP (fun i k=>ad (mk (ln (M*i+k)) (z (M*i+k)))) M 5)) N]
def Bj:List Step:=[.base ⟨8,[.fact 1,.lit (.ci .i64 6)],[oN 3],false⟩,
   .base ⟨8,[.fact 2,.lit (.ci .i64 6)],[oN 4],false⟩,
   bQ [.fact 4,.lit (.ci .i64 2)] [oN 5] (dY),
   bQ [.fact 5,.lit (.ci .i64 0)] oF (ai .eql),
   .base ⟨9,[.fact 0,.fact 3,.fact 4],[oS 6,oS 7],true⟩,
   .base ⟨10,[.fact 6],[⟨.one (.lit (.nl)),[]⟩,oL (.ci .i64 1)],true⟩,
   bQ [.fact 3,.lit (.ci .i64 4)] oT (ai .gtr),
   bQ [.lit .nl] [oL (.ci .i64 0)] (aD 29),
   .base ⟨11,[],oT,false⟩]
def Bk:List Out:=[oS 0,oN 1,oN 2]
theorem Bl {al:Nat->Nat->Bool}{xl:Nat->Nat->List Nat}{ml:Nat->Nat}{z:Nat->Nat->Int}{ln:Nat->Nat}{nl:Nat}{nz mz:Int}{N M:Nat} (hnl:nl<=9223372036854775807) (hml:∀q,ml q<=9223372036854775807) (hz:∀q j,sg (al q j) (Proofs.Ytomamliepbhegaa.val 4294967296 ((xl q j).take 1))=z q j) (hN:∀q,q<nl->min (ml q) 3=ln q) (hN0:∀q,¬q<nl->ln q=0) (hln:∀q,ln q<=3) (_hE:∀q,EOk 3 1 (ad (mk (ln q) (z q)))) (bw:bX nz 6=N) (hMw:bX mz 6=M) (hN6:N<6) (hM6:M<6) (hm2:M % 2=1) (lD:4<N):aj (ph (Bi al xl ml z ln nl nz mz N M)) Try.prog ⟨3,[.fact 0,.fact 1,.fact 2],oT,false⟩:=by
 skip
 exact aR Bk oT Bj Try.func3 (by kernel_rfl)
  (lB (cZ (n:=6) rfl aa (by omega) (by omega) bw rfl)
   (lB (cZ (n:=6) rfl aa (by omega) (by omega) hMw rfl)
   (lB (eB aa (by decide) rfl)
   (lB (bi (op:=.eql) aa (aS (decide_eq_false (by have:=Int.tmod_eq_emod_of_nonneg (a:=(M:Int)) (b:=2) (by omega);omega)) (by simp)))
   (lB (eh (n:=N) (m:=M) (ml:=ml) (ln:=ln) (z:=z) aa aa aa rfl rfl (by omega) (by omega) hnl hml hz hN hN0 (fun q=>Nat.le_trans (hln q) (by omega)))
   (lB (nj (z:=(fun i k=>z (M*i+k))) (ln:=(fun i k=>ln (M*i+k))) (m:=M) (K:=1) (n:=N) aa (by omega))
   (lB (ed aa)
   (lB (dW Try.underlying29)
   (lB (ei)
   aA)))))))))
  (aJ [.fact 0 (.one (.s)),.fact 1 (.one (.i)),.fact 2 (.one (.i))] ⟨Rw.Is 1 (bF al xl ml) nl,fun _ _ h=>h▸aQ _,fun _ _ h=>h▸aQ _,trivial⟩) (fun _ _ _ h=>h)
def Bm (al:Nat->Nat->Bool) (xl:Nat->Nat->List Nat) (ml:Nat->Nat) (z:Nat->Nat->Int) (ln:Nat->Nat) (nl:Nat) (nz mz:Int) (N M:Nat):List WP:=[Rw 1 (bF al xl ml) nl,Ni nz,Ni mz,Nz N,Nz M,Ni (Int.tmod ((M:Nat):Int) 2),Rw 1 (ah (aw (fun i k=>z (M*i+k)) (fun i k=>ln (M*i+k)) M 1)) N,Rw 1 (ah (aP (fun i k=>ad (mk (ln (M*i+k)) (z (M*i+k)))) M 5)) N]
def Bn:List Step:=[.base ⟨8,[.fact 1,.lit (.ci .i64 6)],[oN 3],false⟩,
   .base ⟨8,[.fact 2,.lit (.ci .i64 6)],[oN 4],false⟩,
   bQ [.fact 4,.lit (.ci .i64 2)] [oN 5] (dY),
   bQ [.fact 5,.lit (.ci .i64 0)] oF (ai .eql),
   .base ⟨9,[.fact 0,.fact 3,.fact 4],[oS 6,oS 7],true⟩,
   .base ⟨10,[.fact 6],[⟨.one (.lit (.nl)),[]⟩,oL (.ci .i64 1)],true⟩,
   bQ [.fact 3,.lit (.ci .i64 4)] oF (ai .gtr),
   bQ [.fact 3,.fact 4] oT (ai .neq),
   bQ [.fact 3,.lit (.ci .i64 0)] oT (ai .gtr),
   bQ [.lit .nl] [oL (.ci .i64 0)] (aD 29),
   .base ⟨11,[],oT,false⟩]
def Bo:List Out:=[oS 0,oN 1,oN 2]
theorem Bp {al:Nat->Nat->Bool}{xl:Nat->Nat->List Nat}{ml:Nat->Nat}{z:Nat->Nat->Int}{ln:Nat->Nat}{nl:Nat}{nz mz:Int}{N M:Nat} (hnl:nl<=9223372036854775807) (hml:∀q,ml q<=9223372036854775807) (hz:∀q j,sg (al q j) (Proofs.Ytomamliepbhegaa.val 4294967296 ((xl q j).take 1))=z q j) (hN:∀q,q<nl->min (ml q) 3=ln q) (hN0:∀q,¬q<nl->ln q=0) (hln:∀q,ln q<=3) (_hE:∀q,EOk 3 1 (ad (mk (ln q) (z q)))) (bw:bX nz 6=N) (hMw:bX mz 6=M) (hN6:N<6) (hM6:M<6) (hm2:M % 2=1) (lD:N<=4) (hnm:N≠M) (hn0:0<N):aj (ph (Bm al xl ml z ln nl nz mz N M)) Try.prog ⟨3,[.fact 0,.fact 1,.fact 2],oT,false⟩:=by
 skip
 exact aR Bo oT Bn Try.func3 (by kernel_rfl)
  (lB (cZ (n:=6) rfl aa (by omega) (by omega) bw rfl)
   (lB (cZ (n:=6) rfl aa (by omega) (by omega) hMw rfl)
   (lB (eB aa (by decide) rfl)
   (lB (bi (op:=.eql) aa (aS (decide_eq_false (by have:=Int.tmod_eq_emod_of_nonneg (a:=(M:Int)) (b:=2) (by omega);omega)) (by simp)))
   (lB (eh (n:=N) (m:=M) (ml:=ml) (ln:=ln) (z:=z) aa aa aa rfl rfl (by omega) (by omega) hnl hml hz hN hN0 (fun q=>Nat.le_trans (hln q) (by omega)))
   (lB (nj (z:=(fun i k=>z (M*i+k))) (ln:=(fun i k=>ln (M*i+k))) (m:=M) (K:=1) (n:=N) aa (by omega))
   (lB (dr aa)
   (lB (cM (op:=.neq) aa aa (aS (decide_eq_true (by omega)) (by simp)))
   (lB (ed aa)
   (lB (dW Try.underlying29)
   (lB (ei)
   aA)))))))))))
  (aJ [.fact 0 (.one (.s)),.fact 1 (.one (.i)),.fact 2 (.one (.i))] ⟨Rw.Is 1 (bF al xl ml) nl,fun _ _ h=>h▸aQ _,fun _ _ h=>h▸aQ _,trivial⟩) (fun _ _ _ h=>h)
theorem walk {nl:Nat}{ml:Nat->Nat}{al:Nat->Nat->Bool}{xl:Nat->Nat->List Nat}{w:World}{vl:Value} (hnl:nl<=9223372036854775807∧∀i,i<nl->ml i<=9223372036854775807) (hll:Rw 1 (bF al xl ml) nl w vl) (nz:Int) (_ : -9223372036854775808<=nz) (_:nz<=9223372036854775807) (mz:Int) (_ : -9223372036854775808<=mz) (_:mz<=9223372036854775807):Calls Try.prog 3 #[vl,.int .i64 nz,.int .i64 mz] w (lE w true):=by
 obtain ⟨gI,z,ln,dO,hml,hz,hN,hN0,hln,hE⟩:=np hnl hll
 obtain ⟨N,bw⟩:∃N,bX nz 6=N:=⟨_,rfl⟩
 obtain ⟨M,hMw⟩:∃M,bX mz 6=M:=⟨_,rfl⟩
 have hN6:N<6:=bw▸jR _ (by omega)
 have hM6:M<6:=hMw▸jR _ (by omega)
 have hA:bN (Φ:=ph (sF al xl gI z ln nl nz mz N M)) (fun _=>False) w [.fact 0,.fact 1,.fact 2] [vl,.int .i64 nz,.int .i64 mz]:=⟨eg dO,fun _ _=>rfl,fun _ _=>rfl,trivial⟩
 rcases Nat.lt_or_ge 4 N with h4 | h4
 ·rcases Nat.mod_two_eq_zero_or_one M with h2 | h2
  ·exact ek (NB hnl.1 hml hz hN hN0 hln hE bw hMw hN6 hM6 h2 h4) (vs:=[vl,.int .i64 nz,.int .i64 mz]) ⟨eg dO,fun _ _=>rfl,fun _ _=>rfl,trivial⟩
  ·exact ek (Bl hnl.1 hml hz hN hN0 hln hE bw hMw hN6 hM6 h2 h4) (vs:=[vl,.int .i64 nz,.int .i64 mz]) ⟨eg dO,fun _ _=>rfl,fun _ _=>rfl,trivial⟩
 rcases Nat.mod_two_eq_zero_or_one M with h2 | h2
 ·exact ek (Nv hnl.1 hml hz hN hN0 hln hE bw hMw hN6 hM6 h2 h4) (vs:=[vl,.int .i64 nz,.int .i64 mz]) hA
 by_cases hnm:N=M
 ·exact ek (Bc hnl.1 hml hz hN hN0 hln hE bw hMw hN6 hM6 h2 h4 hnm) (vs:=[vl,.int .i64 nz,.int .i64 mz]) ⟨eg dO,fun _ _=>rfl,fun _ _=>rfl,trivial⟩
 rcases Nat.eq_zero_or_pos N with h0 | h0
 ·exact ek (Bh hnl.1 hml hz hN hN0 hln hE bw hMw hN6 hM6 h2 h0) (vs:=[vl,.int .i64 nz,.int .i64 mz]) ⟨eg dO,fun _ _=>rfl,fun _ _=>rfl,trivial⟩
 ·exact ek (Bp hnl.1 hml hz hN hN0 hln hE bw hMw hN6 hM6 h2 h4 hnm h0) (vs:=[vl,.int .i64 nz,.int .i64 mz]) ⟨eg dO,fun _ _=>rfl,fun _ _=>rfl,trivial⟩
theorem lifted (os:Os) (started:os.Started) (H:Type) (enc:TypeId×Value->H) :
  ReturnsInHanded {} Try.checked os 3 .any (Rows.detDetsSpec.pre6 enc Try.prog Try.f3 Rows.detDetsRow.domain false) (Rows.detDetsSpec.post enc Try.prog Try.f3 false true false false):=by
 refine returnsInHanded_of_change (C:=Try.checked) Try.own started (by kernel_rfl) Try.func3
  (ChangeSpec.witness6 (enc:=enc) (C:=Try.checked) false ⟨#[],#[.slice none 0 0,.int .i64 0,.int .i64 0],[]⟩ 8 (by kernel_rfl) (by kernel_rfl) (by kernel_rfl) (by kernel_rfl)) ?_
 intro W base args ds gs before hval0 hW _ _
 have hval:∀(j:Nat) t v,Try.f3.params[j]?=some t->args[j]?=some v->Value.okWide Try.prog W .any base t v:=hval0
 obtain ⟨p,q,hA0,hV,rfl,_,_⟩:=id hW
 have hA:DataW.TrodAll enc Try.prog W 0 (fun _=>true) true Try.f3.params.toList args.toList ds p:=hA0
 rw [Try.params3] at hA hval
 obtain ⟨v0,sG,d0,ds0,p0,q0,hargs,rfl,rfl,h0,r0⟩:=trodAll_cons hA
 obtain ⟨v1,vs1,d1,ds1,p1,q1,rfl,rfl,rfl,h1,r1⟩:=trodAll_cons r0
 obtain ⟨v2,vs2,d2,sH,p2,q2,rfl,rfl,rfl,h2,r2⟩:=trodAll_cons r1
 obtain ⟨rfl,rfl,rfl⟩:=trodAll_nil r2
 obtain rfl:args = #[v0,v1,v2]:=by cases args;simp_all
 obtain ⟨n0,m0,a0,xs0,l0,s0⟩:=no h0 (hval 0 22 v0 rfl rfl)
 obtain ⟨n1,rfl,rfl,rfl,f1⟩:=open_int Try.underlying3 (hval 1 3 v1 rfl rfl) h1
 obtain ⟨n2,rfl,rfl,rfl,f2⟩:=open_int Try.underlying3 (hval 2 3 v2 rfl rfl) h2
 refine (walk l0 s0 n1 (gK f1) (gL f1) n2 (gK f2) (gL f2)).mono fun e W' ⟨he,hg⟩=>?_
 subst he
 refine ⟨_,rfl,nS Try.laidOut rfl (by kernel_rfl) Try.underlying4 ?_ ?_ hW hg⟩
 ·rw [Try.params3];decide +kernel
 ·rw [Try.params3]
  intro ds h
  match ds,h with
  | [_,_,_],_=>rfl
theorem holds:Rows.DetDetsSaid:=
 OpenClaim.holds_of_wide 3 Try.f3 rfl rfl rfl rfl rfl rfl rfl ⟨rfl,rfl,rfl,rfl,rfl⟩ rfl rfl rfl rfl rfl (by kernel_rfl) Try.func3 (by kernel_rfl)
  (of_decide_eq_true (by kernel_rfl)) (by unfold Func.isWrapper;first | (rw [if_pos (by decide +kernel)];kernel_rfl) | (rw [if_neg (by decide +kernel)];exact ⟨rfl,rfl⟩))
  (fun os started H enc _=>lifted os started H enc)
end Go.Proofs.Ytomamliepbhegaa.ddets
