/- DetMinors -/
import Derived.Test.YtomamliepbhegaaDtY
import Derived.Test.YtomamliepbhegaaDtP
import Derived.Test.YtomamliepbhegaaDtL
set_option maxRecDepth 100000
namespace Go.Proofs.Ytomamliepbhegaa.dminors
open Go.ChangeShapes Go.WideShapes Go.ChangeAt Go.RowKit
open Go.Proofs.Ytomamliepbhegaa.Sym hiding val run start
open Go.Proofs.Ytomamliepbhegaa.dlaw
def Bz (al:Nat->Nat->Bool) (xl:Nat->Nat->List Nat) (ml:Nat->Nat) (z:Nat->Nat->Int) (ln:Nat->Nat) (nl:Nat) (nz iz kz:Int) (N:Nat):List WP:=[Rw 1 (bF al xl ml) nl,Ni nz,Ni iz,Ni kz,Nz N,Ni 1,Ni ((N+1:Nat):Int),Rw 1 (ah (aw (fun i k=>z ((N+1)*i+k)) (fun i k=>ln ((N+1)*i+k)) (N+1) 1)) (N+1),Rw 1 (ah (aP (fun i k=>ad (mk (ln ((N+1)*i+k)) (z ((N+1)*i+k)))) (N+1) 5)) (N+1)]
def BA:List Step:=[.derive (.one (.ci .i64 1)) (.one (.lit (.ci .i64 1))) [] 5,
   .base ⟨8,[.fact 1,.lit (.ci .i64 5)],[oN 4],false⟩,
   bQ [.fact 5,.fact 4] [oN 6] (ai .add),
   .base ⟨9,[.fact 0,.fact 6,.fact 6],[oS 7,oS 8],true⟩,
   .base ⟨14,[.fact 2,.fact 3,.fact 7],[⟨.one (.lit (.nl)),[]⟩,oL (.ci .i64 1)],true⟩,
   bQ [.fact 6,.lit (.ci .i64 4)] oT (ai .gtr),
   bQ [.lit .nl] [oL (.ci .i64 0)] (aD 24),
   .base ⟨11,[],oT,false⟩]
def BB:List Out:=[oS 0,oN 1,oN 2,oN 3]
theorem BC {al:Nat->Nat->Bool}{xl:Nat->Nat->List Nat}{ml:Nat->Nat}{z:Nat->Nat->Int}{ln:Nat->Nat}{nl:Nat}{nz iz kz:Int}{N:Nat} (hnl:nl<=9223372036854775807) (hml:∀q,ml q<=9223372036854775807) (hz:∀q j,sg (al q j) (Proofs.Ytomamliepbhegaa.val 4294967296 ((xl q j).take 1))=z q j) (hN:∀q,q<nl->min (ml q) 3=ln q) (hN0:∀q,¬q<nl->ln q=0) (hln:∀q,ln q<=3) (_hE:∀q,EOk 3 1 (ad (mk (ln q) (z q)))) (bw:bX nz 5=N) (hN5:N<5) (h1:3<N):aj (ph (Bz al xl ml z ln nl nz iz kz N)) Try.prog ⟨4,[.fact 0,.fact 1,.fact 2,.fact 3],oT,false⟩:=by
 skip
 exact aR BB oT BA Try.func4 (by kernel_rfl)
  (cA (gM rfl)
   (lB (cZ (n:=5) rfl aa (by omega) (by omega) bw rfl)
   (lB (cS aa aa (by omega) rfl (by omega) (by omega))
   (lB (eh (n:=(N+1)) (m:=(N+1)) (ml:=ml) (ln:=ln) (z:=z) aa aa aa rfl rfl (by omega) (by omega) hnl hml hz hN hN0 (fun q=>Nat.le_trans (hln q) (by omega)))
   (lB (jG (z:=(fun i k=>z ((N+1)*i+k))) (ln:=(fun i k=>ln ((N+1)*i+k))) (K:=1) (n:=(N+1)) (a:=iz) (b:=kz) aa aa aa (by omega))
   (lB (ed aa)
   (lB (dW Try.underlying24)
   (lB (ei)
   aA))))))))
  (aJ [.fact 0 (.one (.s)),.fact 1 (.one (.i)),.fact 2 (.one (.i)),.fact 3 (.one (.i))] ⟨Rw.Is 1 (bF al xl ml) nl,fun _ _ h=>h▸aQ _,fun _ _ h=>h▸aQ _,fun _ _ h=>h▸aQ _,trivial⟩) (fun _ _ _ h=>h)
def BD (al:Nat->Nat->Bool) (xl:Nat->Nat->List Nat) (ml:Nat->Nat) (z:Nat->Nat->Int) (ln:Nat->Nat) (nl:Nat) (nz iz kz:Int) (N:Nat):List WP:=[Rw 1 (bF al xl ml) nl,Ni nz,Ni iz,Ni kz,Nz N,Ni 1,Ni ((N+1:Nat):Int),Rw 1 (ah (aw (fun i k=>z ((N+1)*i+k)) (fun i k=>ln ((N+1)*i+k)) (N+1) 1)) (N+1),Rw 1 (ah (aP (fun i k=>ad (mk (ln ((N+1)*i+k)) (z ((N+1)*i+k)))) (N+1) 5)) (N+1)]
def BE:List Step:=[.derive (.one (.ci .i64 1)) (.one (.lit (.ci .i64 1))) [] 5,
   .base ⟨8,[.fact 1,.lit (.ci .i64 5)],[oN 4],false⟩,
   bQ [.fact 5,.fact 4] [oN 6] (ai .add),
   .base ⟨9,[.fact 0,.fact 6,.fact 6],[oS 7,oS 8],true⟩,
   .base ⟨14,[.fact 2,.fact 3,.fact 7],[⟨.one (.lit (.nl)),[]⟩,oL (.ci .i64 1)],true⟩,
   bQ [.fact 6,.lit (.ci .i64 4)] oF (ai .gtr),
   bQ [.fact 2,.lit (.ci .i64 0)] oT (ai .lss),
   bQ [.lit .nl] [oL (.ci .i64 0)] (aD 24),
   .base ⟨11,[],oT,false⟩]
def BF:List Out:=[oS 0,oN 1,oN 2,oN 3]
theorem BH {al:Nat->Nat->Bool}{xl:Nat->Nat->List Nat}{ml:Nat->Nat}{z:Nat->Nat->Int}{ln:Nat->Nat}{nl:Nat}{nz iz kz:Int}{N:Nat} (hnl:nl<=9223372036854775807) (hml:∀q,ml q<=9223372036854775807) (hz:∀q j,sg (al q j) (Proofs.Ytomamliepbhegaa.val 4294967296 ((xl q j).take 1))=z q j) (hN:∀q,q<nl->min (ml q) 3=ln q) (hN0:∀q,¬q<nl->ln q=0) (hln:∀q,ln q<=3) (_hE:∀q,EOk 3 1 (ad (mk (ln q) (z q)))) (bw:bX nz 5=N) (hN5:N<5) (h1:N<=3) (h2:iz<0):aj (ph (BD al xl ml z ln nl nz iz kz N)) Try.prog ⟨4,[.fact 0,.fact 1,.fact 2,.fact 3],oT,false⟩:=by
 skip
 exact aR BF oT BE Try.func4 (by kernel_rfl)
  (cA (gM rfl)
   (lB (cZ (n:=5) rfl aa (by omega) (by omega) bw rfl)
   (lB (cS aa aa (by omega) rfl (by omega) (by omega))
   (lB (eh (n:=(N+1)) (m:=(N+1)) (ml:=ml) (ln:=ln) (z:=z) aa aa aa rfl rfl (by omega) (by omega) hnl hml hz hN hN0 (fun q=>Nat.le_trans (hln q) (by omega)))
   (lB (jG (z:=(fun i k=>z ((N+1)*i+k))) (ln:=(fun i k=>ln ((N+1)*i+k))) (K:=1) (n:=(N+1)) (a:=iz) (b:=kz) aa aa aa (by omega))
   (lB (dr aa)
   (lB (bi (op:=.lss) aa (aS (decide_eq_true (by omega)) (by simp)))
   (lB (dW Try.underlying24)
   (lB (ei)
   aA)))))))))
  (aJ [.fact 0 (.one (.s)),.fact 1 (.one (.i)),.fact 2 (.one (.i)),.fact 3 (.one (.i))] ⟨Rw.Is 1 (bF al xl ml) nl,fun _ _ h=>h▸aQ _,fun _ _ h=>h▸aQ _,fun _ _ h=>h▸aQ _,trivial⟩) (fun _ _ _ h=>h)
def BI (al:Nat->Nat->Bool) (xl:Nat->Nat->List Nat) (ml:Nat->Nat) (z:Nat->Nat->Int) (ln:Nat->Nat) (nl:Nat) (nz iz kz:Int) (N:Nat):List WP:=[Rw 1 (bF al xl ml) nl,Ni nz,Ni iz,Ni kz,Nz N,Ni 1,Ni ((N+1:Nat):Int),Rw 1 (ah (aw (fun i k=>z ((N+1)*i+k)) (fun i k=>ln ((N+1)*i+k)) (N+1) 1)) (N+1),Rw 1 (ah (aP (fun i k=>ad (mk (ln ((N+1)*i+k)) (z ((N+1)*i+k)))) (N+1) 5)) (N+1)]
def BJ:List Step:=[.derive (.one (.ci .i64 1)) (.one (.lit (.ci .i64 1))) [] 5,
   .base ⟨8,[.fact 1,.lit (.ci .i64 5)],[oN 4],false⟩,
   bQ [.fact 5,.fact 4] [oN 6] (ai .add),
   .base ⟨9,[.fact 0,.fact 6,.fact 6],[oS 7,oS 8],true⟩,
   .base ⟨14,[.fact 2,.fact 3,.fact 7],[⟨.one (.lit (.nl)),[]⟩,oL (.ci .i64 1)],true⟩,
   bQ [.fact 6,.lit (.ci .i64 4)] oF (ai .gtr),
   bQ [.fact 2,.lit (.ci .i64 0)] oF (ai .lss),
   bQ [.fact 2,.fact 6] oT (ai .geq),
   bQ [.lit .nl] [oL (.ci .i64 0)] (aD 24),
   .base ⟨11,[],oT,false⟩]
def BK:List Out:=[oS 0,oN 1,oN 2,oN 3]
theorem BL {al:Nat->Nat->Bool}{xl:Nat->Nat->List Nat}{ml:Nat->Nat}{z:Nat->Nat->Int}{ln:Nat->Nat}{nl:Nat}{nz iz kz:Int}{N:Nat} (hnl:nl<=9223372036854775807) (hml:∀q,ml q<=9223372036854775807) (hz:∀q j,sg (al q j) (Proofs.Ytomamliepbhegaa.val 4294967296 ((xl q j).take 1))=z q j) (hN:∀q,q<nl->min (ml q) 3=ln q) (hN0:∀q,¬q<nl->ln q=0) (hln:∀q,ln q<=3) (_hE:∀q,EOk 3 1 (ad (mk (ln q) (z q)))) (bw:bX nz 5=N) (hN5:N<5) (h1:N<=3) (h2:0<=iz) (h3:((N+1:Nat):Int)<=iz):aj (ph (BI al xl ml z ln nl nz iz kz N)) Try.prog ⟨4,[.fact 0,.fact 1,.fact 2,.fact 3],oT,false⟩:=by
 skip
 exact aR BK oT BJ Try.func4 (by kernel_rfl)
  (cA (gM rfl)
   (lB (cZ (n:=5) rfl aa (by omega) (by omega) bw rfl)
   (lB (cS aa aa (by omega) rfl (by omega) (by omega))
   (lB (eh (n:=(N+1)) (m:=(N+1)) (ml:=ml) (ln:=ln) (z:=z) aa aa aa rfl rfl (by omega) (by omega) hnl hml hz hN hN0 (fun q=>Nat.le_trans (hln q) (by omega)))
   (lB (jG (z:=(fun i k=>z ((N+1)*i+k))) (ln:=(fun i k=>ln ((N+1)*i+k))) (K:=1) (n:=(N+1)) (a:=iz) (b:=kz) aa aa aa (by omega))
   (lB (dr aa)
   (lB (bi (op:=.lss) aa (aS (decide_eq_false (by omega)) (by simp)))
   (lB (kY aa aa)
   (lB (dW Try.underlying24)
   (lB (ei)
   aA))))))))))
  (aJ [.fact 0 (.one (.s)),.fact 1 (.one (.i)),.fact 2 (.one (.i)),.fact 3 (.one (.i))] ⟨Rw.Is 1 (bF al xl ml) nl,fun _ _ h=>h▸aQ _,fun _ _ h=>h▸aQ _,fun _ _ h=>h▸aQ _,trivial⟩) (fun _ _ _ h=>h)
def BM (al:Nat->Nat->Bool) (xl:Nat->Nat->List Nat) (ml:Nat->Nat) (z:Nat->Nat->Int) (ln:Nat->Nat) (nl:Nat) (nz iz kz:Int) (N:Nat):List WP:=[Rw 1 (bF al xl ml) nl,Ni nz,Ni iz,Ni kz,Nz N,Ni 1,Ni ((N+1:Nat):Int),Rw 1 (ah (aw (fun i k=>z ((N+1)*i+k)) (fun i k=>ln ((N+1)*i+k)) (N+1) 1)) (N+1),Rw 1 (ah (aP (fun i k=>ad (mk (ln ((N+1)*i+k)) (z ((N+1)*i+k)))) (N+1) 5)) (N+1)]
def BN:List Step:=[.derive (.one (.ci .i64 1)) (.one (.lit (.ci .i64 1))) [] 5,
   .base ⟨8,[.fact 1,.lit (.ci .i64 5)],[oN 4],false⟩,
   bQ [.fact 5,.fact 4] [oN 6] (ai .add),
   .base ⟨9,[.fact 0,.fact 6,.fact 6],[oS 7,oS 8],true⟩,
   .base ⟨14,[.fact 2,.fact 3,.fact 7],[⟨.one (.lit (.nl)),[]⟩,oL (.ci .i64 1)],true⟩,
   bQ [.fact 6,.lit (.ci .i64 4)] oF (ai .gtr),
   bQ [.fact 2,.lit (.ci .i64 0)] oF (ai .lss),
   bQ [.fact 2,.fact 6] oF (ai .geq),
   bQ [.fact 3,.lit (.ci .i64 0)] oT (ai .lss),
   bQ [.lit .nl] [oL (.ci .i64 0)] (aD 24),
   .base ⟨11,[],oT,false⟩]
def BO:List Out:=[oS 0,oN 1,oN 2,oN 3]
theorem BP {al:Nat->Nat->Bool}{xl:Nat->Nat->List Nat}{ml:Nat->Nat}{z:Nat->Nat->Int}{ln:Nat->Nat}{nl:Nat}{nz iz kz:Int}{N:Nat} (hnl:nl<=9223372036854775807) (hml:∀q,ml q<=9223372036854775807) (hz:∀q j,sg (al q j) (Proofs.Ytomamliepbhegaa.val 4294967296 ((xl q j).take 1))=z q j) (hN:∀q,q<nl->min (ml q) 3=ln q) (hN0:∀q,¬q<nl->ln q=0) (hln:∀q,ln q<=3) (_hE:∀q,EOk 3 1 (ad (mk (ln q) (z q)))) (bw:bX nz 5=N) (hN5:N<5) (h1:N<=3) (h2:0<=iz) (h3:iz<((N+1:Nat):Int)) (h4:kz<0):aj (ph (BM al xl ml z ln nl nz iz kz N)) Try.prog ⟨4,[.fact 0,.fact 1,.fact 2,.fact 3],oT,false⟩:=by
 skip
 exact aR BO oT BN Try.func4 (by kernel_rfl)
  (cA (gM rfl)
   (lB (cZ (n:=5) rfl aa (by omega) (by omega) bw rfl)
   (lB (cS aa aa (by omega) rfl (by omega) (by omega))
   (lB (eh (n:=(N+1)) (m:=(N+1)) (ml:=ml) (ln:=ln) (z:=z) aa aa aa rfl rfl (by omega) (by omega) hnl hml hz hN hN0 (fun q=>Nat.le_trans (hln q) (by omega)))
   (lB (jG (z:=(fun i k=>z ((N+1)*i+k))) (ln:=(fun i k=>ln ((N+1)*i+k))) (K:=1) (n:=(N+1)) (a:=iz) (b:=kz) aa aa aa (by omega))
   (lB (dr aa)
   (lB (bi (op:=.lss) aa (aS (decide_eq_false (by omega)) (by simp)))
   (lB (thF aa aa)
   (lB (bi (op:=.lss) aa (aS (decide_eq_true (by omega)) (by simp)))
   (lB (dW Try.underlying24)
   (lB (ei)
   aA)))))))))))
  (aJ [.fact 0 (.one (.s)),.fact 1 (.one (.i)),.fact 2 (.one (.i)),.fact 3 (.one (.i))] ⟨Rw.Is 1 (bF al xl ml) nl,fun _ _ h=>h▸aQ _,fun _ _ h=>h▸aQ _,fun _ _ h=>h▸aQ _,trivial⟩) (fun _ _ _ h=>h)
def BQ (al:Nat->Nat->Bool) (xl:Nat->Nat->List Nat) (ml:Nat->Nat) (z:Nat->Nat->Int) (ln:Nat->Nat) (nl:Nat) (nz iz kz:Int) (N:Nat):List WP:=[Rw 1 (bF al xl ml) nl,Ni nz,Ni iz,Ni kz,Nz N,Ni 1,Ni ((N+1:Nat):Int),Rw 1 (ah (aw (fun i k=>z ((N+1)*i+k)) (fun i k=>ln ((N+1)*i+k)) (N+1) 1)) (N+1),Rw 1 (ah (aP (fun i k=>ad (mk (ln ((N+1)*i+k)) (z ((N+1)*i+k)))) (N+1) 5)) (N+1)]
def BR:List Step:=[.derive (.one (.ci .i64 1)) (.one (.lit (.ci .i64 1))) [] 5,
   .base ⟨8,[.fact 1,.lit (.ci .i64 5)],[oN 4],false⟩,
   bQ [.fact 5,.fact 4] [oN 6] (ai .add),
   .base ⟨9,[.fact 0,.fact 6,.fact 6],[oS 7,oS 8],true⟩,
   .base ⟨14,[.fact 2,.fact 3,.fact 7],[⟨.one (.lit (.nl)),[]⟩,oL (.ci .i64 1)],true⟩,
   bQ [.fact 6,.lit (.ci .i64 4)] oF (ai .gtr),
   bQ [.fact 2,.lit (.ci .i64 0)] oF (ai .lss),
   bQ [.fact 2,.fact 6] oF (ai .geq),
   bQ [.fact 3,.lit (.ci .i64 0)] oF (ai .lss),
   bQ [.fact 3,.fact 6] oT (ai .geq),
   bQ [.lit .nl] [oL (.ci .i64 0)] (aD 24),
   .base ⟨11,[],oT,false⟩]
def BS:List Out:=[oS 0,oN 1,oN 2,oN 3]
theorem BT {al:Nat->Nat->Bool}{xl:Nat->Nat->List Nat}{ml:Nat->Nat}{z:Nat->Nat->Int}{ln:Nat->Nat}{nl:Nat}{nz iz kz:Int}{N:Nat} (hnl:nl<=9223372036854775807) (hml:∀q,ml q<=9223372036854775807) (hz:∀q j,sg (al q j) (Proofs.Ytomamliepbhegaa.val 4294967296 ((xl q j).take 1))=z q j) (hN:∀q,q<nl->min (ml q) 3=ln q) (hN0:∀q,¬q<nl->ln q=0) (hln:∀q,ln q<=3) (_hE:∀q,EOk 3 1 (ad (mk (ln q) (z q)))) (bw:bX nz 5=N) (hN5:N<5) (h1:N<=3) (h2:0<=iz) (h3:iz<((N+1:Nat):Int)) (h4:0<=kz) (h5:((N+1:Nat):Int)<=kz):aj (ph (BQ al xl ml z ln nl nz iz kz N)) Try.prog ⟨4,[.fact 0,.fact 1,.fact 2,.fact 3],oT,false⟩:=by
 skip
 exact aR BS oT BR Try.func4 (by kernel_rfl)
  (cA (gM rfl)
   (lB (cZ (n:=5) rfl aa (by omega) (by omega) bw rfl)
   (lB (cS aa aa (by omega) rfl (by omega) (by omega))
   (lB (eh (n:=(N+1)) (m:=(N+1)) (ml:=ml) (ln:=ln) (z:=z) aa aa aa rfl rfl (by omega) (by omega) hnl hml hz hN hN0 (fun q=>Nat.le_trans (hln q) (by omega)))
   (lB (jG (z:=(fun i k=>z ((N+1)*i+k))) (ln:=(fun i k=>ln ((N+1)*i+k))) (K:=1) (n:=(N+1)) (a:=iz) (b:=kz) aa aa aa (by omega))
   (lB (dr aa)
   (lB (bi (op:=.lss) aa (aS (decide_eq_false (by omega)) (by simp)))
   (lB (thF aa aa)
   (lB (bi (op:=.lss) aa (aS (decide_eq_false (by omega)) (by simp)))
   (lB (kY aa aa)
   (lB (dW Try.underlying24)
   (lB (ei)
   aA))))))))))))
  (aJ [.fact 0 (.one (.s)),.fact 1 (.one (.i)),.fact 2 (.one (.i)),.fact 3 (.one (.i))] ⟨Rw.Is 1 (bF al xl ml) nl,fun _ _ h=>h▸aQ _,fun _ _ h=>h▸aQ _,fun _ _ h=>h▸aQ _,trivial⟩) (fun _ _ _ h=>h)
def jS (al:Nat->Nat->Bool) (xl:Nat->Nat->List Nat) (ml:Nat->Nat) (z:Nat->Nat->Int) (ln:Nat->Nat) (nl:Nat) (nz:Int) (N i k:Nat):List WP:=[Rw 1 (bF al xl ml) nl,Ni nz,Nz i,Nz k,Nz N,Ni 1,Ni ((N+1:Nat):Int),Rw 1 (ah (aw (fun i k=>z ((N+1)*i+k)) (fun i k=>ln ((N+1)*i+k)) (N+1) 1)) (N+1),Rw 1 (ah (aP (fun i k=>ad (mk (ln ((N+1)*i+k)) (z ((N+1)*i+k)))) (N+1) 5)) (N+1),Rw 1 (ah (aw (fun r c=>ae (ad (mk (ln ((N+1)*(ab i r)+(ab k c))) (z ((N+1)*(ab i r)+(ab k c)))))) (fun r c=>(ad (mk (ln ((N+1)*(ab i r)+(ab k c))) (z ((N+1)*(ab i r)+(ab k c))))).length) N 1)) N,Rw 1 (ah (aP (mnr (fun i k=>ad (mk (ln ((N+1)*i+k)) (z ((N+1)*i+k)))) i k) N 5)) N,Nz N,Nz N,Nz N]
def BU (z:Nat->Nat->Int) (ln:Nat->Nat) (N i k:Nat) (a b:Nat):List WP:=[Nz b,Ptr 1 (ah (aP (mnr (fun i k=>ad (mk (ln ((N+1)*i+k)) (z ((N+1)*i+k)))) i k) N 5) a),Rw 1 (ah (bp ((mnr (fun i k=>ad (mk (ln ((N+1)*i+k)) (z ((N+1)*i+k)))) i k) a) 5)) N,Ptr 1 (ah (bp ((mnr (fun i k=>ad (mk (ln ((N+1)*i+k)) (z ((N+1)*i+k)))) i k) a) 5) b),fun w v=>Rw 4 (fun ι w v=>am w v ((((ae (((mnr (fun i k=>ad (mk (ln ((N+1)*i+k)) (z ((N+1)*i+k)))) i k) a) b)) ι:Int):Rat)) 5) ((((mnr (fun i k=>ad (mk (ln ((N+1)*i+k)) (z ((N+1)*i+k)))) i k) a) b).length) w v,Ptr 1 (ah (aw (fun r c=>ae (ad (mk (ln ((N+1)*(ab i r)+(ab k c))) (z ((N+1)*(ab i r)+(ab k c)))))) (fun r c=>(ad (mk (ln ((N+1)*(ab i r)+(ab k c))) (z ((N+1)*(ab i r)+(ab k c))))).length) N 1) a),Rw 1 (ah (aH ((fun r c=>ae (ad (mk (ln ((N+1)*(ab i r)+(ab k c))) (z ((N+1)*(ab i r)+(ab k c)))))) a) ((fun r c=>(ad (mk (ln ((N+1)*(ab i r)+(ab k c))) (z ((N+1)*(ab i r)+(ab k c))))).length) a) 1)) N,Ptr 1 (ah (aH ((fun r c=>ae (ad (mk (ln ((N+1)*(ab i r)+(ab k c))) (z ((N+1)*(ab i r)+(ab k c)))))) a) ((fun r c=>(ad (mk (ln ((N+1)*(ab i r)+(ab k c))) (z ((N+1)*(ab i r)+(ab k c))))).length) a) 1) b),fun w v=>Rw 2 (fun ι w v=>aB w v ((ae (ad (mk (ln ((N+1)*(ab i a)+(ab k b))) (z ((N+1)*(ab i a)+(ab k b)))))) ι) 1) ((ad (mk (ln ((N+1)*(ab i a)+(ab k b))) (z ((N+1)*(ab i a)+(ab k b))))).length) w v,fun w v=>Rw 2 (fun ι w v=>au w v ((ae (mnr (fun i k=>ad (mk (ln ((N+1)*i+k)) (z ((N+1)*i+k)))) i k a b)) ι) 1) ((mnr (fun i k=>ad (mk (ln ((N+1)*i+k)) (z ((N+1)*i+k)))) i k a b).length) w v,Nz (b+1)]
def BV:bf:=⟨[0,1,2,3,8,9,10,11,12,13,14,16,17,18,19,20,21,22,23,24,25,26,27,28,29,30,31,32,33,34,35,36,37,38,39,40,41,42,43,44,45,46,47,48,49,50,51,52,63,64,65,66,67,68,69,70,71,72,73,74,75,76,77,78,79,80,81,82,83,84,85,86,87,88,89,90,91,92,93,94,95,96],[(.slot 97,.i)],[(.one 0,25)],[.closed (.one (.ci .i64 0))],25,[]⟩
def sL:List Step:=[bQ [.fact 25,.fact 23] oT (ai .lss),
   bQ [.fact 10,.fact 14] [oP 26] (aI 25),
   bQ [.fact 26] [oS 27] (aL 42),
   bQ [.fact 27,.fact 25] [oP 28] (aI 42),
   bQ [.fact 28] [oS 29] (aL 36),
   bQ [.fact 9,.fact 14] [oP 30] (aI 24),
   bQ [.fact 30] [oS 31] (aL 22),
   bQ [.fact 31,.fact 25] [oP 32] (aI 22),
   bQ [.fact 32] [oS 33] (aL 29),
   .base ⟨16,[.fact 33],[oS 34],false⟩,
   .base ⟨12,[.fact 29,.fact 34],oT,false⟩,
   bQ [.fact 25,.lit (.ci .i64 1)] [oN 35] (ai .add)]
def BW:List Step:=[bQ [.fact 25,.fact 23] oF (ai .lss)]
def nU (z:Nat->Nat->Int) (ln:Nat->Nat) (N i k:Nat) (a:Nat):List WP:=[Nz a,Ptr 1 (ah (aw (fun r c=>ae (ad (mk (ln ((N+1)*(ab i r)+(ab k c))) (z ((N+1)*(ab i r)+(ab k c)))))) (fun r c=>(ad (mk (ln ((N+1)*(ab i r)+(ab k c))) (z ((N+1)*(ab i r)+(ab k c))))).length) N 1) a),Rw 1 (ah (aH ((fun r c=>ae (ad (mk (ln ((N+1)*(ab i r)+(ab k c))) (z ((N+1)*(ab i r)+(ab k c)))))) a) ((fun r c=>(ad (mk (ln ((N+1)*(ab i r)+(ab k c))) (z ((N+1)*(ab i r)+(ab k c))))).length) a) 1)) N,Nz N,Ptr 1 (ah (aP (mnr (fun i k=>ad (mk (ln ((N+1)*i+k)) (z ((N+1)*i+k)))) i k) N 5) a),Rw 1 (ah (bp ((mnr (fun i k=>ad (mk (ln ((N+1)*i+k)) (z ((N+1)*i+k)))) i k) a) 5)) N,Nz N,Ptr 1 (ah (aw (fun r c=>ae (ad (mk (ln ((N+1)*(ab i r)+(ab k c))) (z ((N+1)*(ab i r)+(ab k c)))))) (fun r c=>(ad (mk (ln ((N+1)*(ab i r)+(ab k c))) (z ((N+1)*(ab i r)+(ab k c))))).length) N 1) a),Rw 1 (ah (aH ((fun r c=>ae (ad (mk (ln ((N+1)*(ab i r)+(ab k c))) (z ((N+1)*(ab i r)+(ab k c)))))) a) ((fun r c=>(ad (mk (ln ((N+1)*(ab i r)+(ab k c))) (z ((N+1)*(ab i r)+(ab k c))))).length) a) 1)) N,Nz N,Nz (a+1)]
def BX:bf:=⟨[0,1,2,3,8,9,10,11,12,13,16,17,18,19,20,21,22,23,24,25,26,27,28,29,30,31,32,33,34,35,36,37,38,39,40,41,42,43,44,45,46,47,48,49,50,51,52,63,64,65,66,67,68,69,70,71,72,73,74,75,76,77],[(.slot 78,.i)],[(.one 0,14)],[.closed (.one (.ci .i64 0))],14,[]⟩
def sM:List Step:=[bQ [.fact 14,.fact 13] oT (ai .lss),
   bQ [.fact 9,.fact 14] [oP 15] (aI 24),
   bQ [.fact 15] [oS 16] (aL 22),
   bQ [.fact 16] [oN 17] (aD 22),
   bQ [.fact 10,.fact 14] [oP 18] (aI 25),
   bQ [.fact 18] [oS 19] (aL 42),
   bQ [.fact 19] [oN 20] (aD 42),
   bQ [.fact 17,.fact 20] oF (ai .neq),
   bQ [.fact 9,.fact 14] [oP 21] (aI 24),
   bQ [.fact 21] [oS 22] (aL 22),
   bQ [.fact 22] [oN 23] (aD 22),
   .loop BV [(sL,[.frm 35])] BW,
   bQ [.fact 14,.lit (.ci .i64 1)] [oN 24] (ai .add)]
def BY:List Step:=[bQ [.fact 14,.fact 13] oF (ai .lss)]
def BZ:List Step:=[.derive (.one (.ci .i64 1)) (.one (.lit (.ci .i64 1))) [] 5,
   .base ⟨8,[.fact 1,.lit (.ci .i64 5)],[oN 4],false⟩,
   bQ [.fact 5,.fact 4] [oN 6] (ai .add),
   .base ⟨9,[.fact 0,.fact 6,.fact 6],[oS 7,oS 8],true⟩,
   .base ⟨14,[.fact 2,.fact 3,.fact 7],[oS 9,oL (.ci .i64 0)],true⟩,
   bQ [.fact 6,.lit (.ci .i64 4)] oF (ai .gtr),
   bQ [.fact 2,.lit (.ci .i64 0)] oF (ai .lss),
   bQ [.fact 2,.fact 6] oF (ai .geq),
   bQ [.fact 3,.lit (.ci .i64 0)] oF (ai .lss),
   bQ [.fact 3,.fact 6] oF (ai .geq),
   .base ⟨15,[.fact 8,.fact 2,.fact 3],[oS 10],false⟩,
   bQ [.fact 9] [oN 11] (aD 24),
   bQ [.fact 10] [oN 12] (aD 25),
   bQ [.fact 11,.fact 12] oF (ai .neq),
   bQ [.fact 9] [oN 13] (aD 24),
   .loop BX [(sM,[.frm 24])] BY,
   .base ⟨11,[],oT,false⟩]
def ND:List Out:=[oS 0,oN 1,oN 2,oN 3]
theorem NE {al:Nat->Nat->Bool}{xl:Nat->Nat->List Nat}{ml:Nat->Nat}{z:Nat->Nat->Int}{ln:Nat->Nat}{nl:Nat}{nz:Int}{N i k:Nat} (hnl:nl<=9223372036854775807) (hml:∀q,ml q<=9223372036854775807) (hz:∀q j,sg (al q j) (Proofs.Ytomamliepbhegaa.val 4294967296 ((xl q j).take 1))=z q j) (hN:∀q,q<nl->min (ml q) 3=ln q) (hN0:∀q,¬q<nl->ln q=0) (hln:∀q,ln q<=3) (hE:∀q,EOk 3 1 (ad (mk (ln q) (z q)))) (bw:bX nz 5=N) (hN4:N<=3) (hi:i<N+1) (hk:k<N+1):aj (ph (jS al xl ml z ln nl nz N i k)) Try.prog ⟨4,[.fact 0,.fact 1,.fact 2,.fact 3],oT,false⟩:=by
 skip
 exact aR ND oT BZ Try.func4 (by kernel_rfl)
  (cA (gM rfl)
   (lB (cZ (n:=5) rfl aa (by omega) (by omega) bw rfl)
   (lB (cS aa aa (by omega) rfl (by omega) (by omega))
   (lB (eh (n:=(N+1)) (m:=(N+1)) (ml:=ml) (ln:=ln) (z:=z) aa aa aa rfl rfl (by omega) (by omega) hnl hml hz hN hN0 (fun q=>Nat.le_trans (hln q) (by omega)))
   (lB (nm (n1:=N) (z:=(fun i k=>z ((N+1)*i+k))) (ln:=(fun i k=>ln ((N+1)*i+k))) (K:=1) (n:=(N+1)) (i:=i) (j:=k) aa aa aa rfl (by omega) (by omega) (by omega) (by omega) (by omega) (fun _ _=>Nat.le_trans (hln _) (by omega)))
   (lB (dr aa)
   (lB (bi (op:=.lss) aa (aS (decide_eq_false (p:=(((i:Nat):Int)<(0:Int))) (by omega)) (by simp)))
   (lB (thF aa aa)
   (lB (bi (op:=.lss) aa (aS (decide_eq_false (p:=(((k:Nat):Int)<(0:Int))) (by omega)) (by simp)))
   (lB (thF aa aa)
   (lB (Ng (M:=(fun i k=>ad (mk (ln ((N+1)*i+k)) (z ((N+1)*i+k))))) (n:=(N+1)) (m:=(N+1)) (K:=5) (i:=i) (k:=k) aa aa aa rfl (by omega) (by omega) (by omega) (by omega))
   (lB (aG (F:=(ah (aw (fun r c=>ae (ad (mk (ln ((N+1)*(ab i r)+(ab k c))) (z ((N+1)*(ab i r)+(ab k c)))))) (fun r c=>(ad (mk (ln ((N+1)*(ab i r)+(ab k c))) (z ((N+1)*(ab i r)+(ab k c))))).length) N 1))) Try.underlying24 aa rfl)
   (lB (aG (F:=(ah (aP (mnr (fun i k=>ad (mk (ln ((N+1)*i+k)) (z ((N+1)*i+k)))) i k) N 5))) Try.underlying25 aa rfl)
   (lB (cM (op:=.neq) aa aa (aS (decide_eq_false (fun h=>h (by omega))) (by simp)))
   (lB (aG (F:=(ah (aw (fun r c=>ae (ad (mk (ln ((N+1)*(ab i r)+(ab k c))) (z ((N+1)*(ab i r)+(ab k c)))))) (fun r c=>(ad (mk (ln ((N+1)*(ab i r)+(ab k c))) (z ((N+1)*(ab i r)+(ab k c))))).length) N 1))) Try.underlying24 aa rfl)
   (bI (counted N (fun a=>ph (jS al xl ml z ln nl nz N i k ++ nU z ln N i k a)) (fun _=>0) (fun a p hp=>bJ (show p<(jS al xl ml z ln nl nz N i k).length from hp)) ⟨fun _=>rfl,trivial⟩ (fun a ha=>by
   skip
   exact ⟨(sM,[.frm 24]),rfl,⟨aa,trivial⟩,(lB (bm aa aa)
   (lB (bc (i:=a) (F:=(ah (aw (fun r c=>ae (ad (mk (ln ((N+1)*(ab i r)+(ab k c))) (z ((N+1)*(ab i r)+(ab k c)))))) (fun r c=>(ad (mk (ln ((N+1)*(ab i r)+(ab k c))) (z ((N+1)*(ab i r)+(ab k c))))).length) N 1))) Try.underlying24 (by kernel_rfl) aa aa (by omega) rfl)
   (lB (KU (G:=Rw 1 (ah (aH ((fun r c=>ae (ad (mk (ln ((N+1)*(ab i r)+(ab k c))) (z ((N+1)*(ab i r)+(ab k c)))))) a) ((fun r c=>(ad (mk (ln ((N+1)*(ab i r)+(ab k c))) (z ((N+1)*(ab i r)+(ab k c))))).length) a) 1)) N) (by kernel_rfl) aa (fun _ _ h=>bO h) rfl)
   (lB (aG (F:=(ah (aH ((fun r c=>ae (ad (mk (ln ((N+1)*(ab i r)+(ab k c))) (z ((N+1)*(ab i r)+(ab k c)))))) a) ((fun r c=>(ad (mk (ln ((N+1)*(ab i r)+(ab k c))) (z ((N+1)*(ab i r)+(ab k c))))).length) a) 1))) Try.underlying22 aa rfl)
   (lB (bc (i:=a) (F:=(ah (aP (mnr (fun i k=>ad (mk (ln ((N+1)*i+k)) (z ((N+1)*i+k)))) i k) N 5))) Try.underlying25 (by kernel_rfl) aa aa (by omega) rfl)
   (lB (KU (G:=Rw 1 (ah (bp ((mnr (fun i k=>ad (mk (ln ((N+1)*i+k)) (z ((N+1)*i+k)))) i k) a) 5)) N) (by kernel_rfl) aa (fun _ _ h=>bO h) rfl)
   (lB (aG (F:=(ah (bp ((mnr (fun i k=>ad (mk (ln ((N+1)*i+k)) (z ((N+1)*i+k)))) i k) a) 5))) Try.underlying42 aa rfl)
   (lB (cM (op:=.neq) aa aa (aS (decide_eq_false (fun h=>h (by omega))) (by simp)))
   (lB (bc (i:=a) (F:=(ah (aw (fun r c=>ae (ad (mk (ln ((N+1)*(ab i r)+(ab k c))) (z ((N+1)*(ab i r)+(ab k c)))))) (fun r c=>(ad (mk (ln ((N+1)*(ab i r)+(ab k c))) (z ((N+1)*(ab i r)+(ab k c))))).length) N 1))) Try.underlying24 (by kernel_rfl) aa aa (by omega) rfl)
   (lB (KU (G:=Rw 1 (ah (aH ((fun r c=>ae (ad (mk (ln ((N+1)*(ab i r)+(ab k c))) (z ((N+1)*(ab i r)+(ab k c)))))) a) ((fun r c=>(ad (mk (ln ((N+1)*(ab i r)+(ab k c))) (z ((N+1)*(ab i r)+(ab k c))))).length) a) 1)) N) (by kernel_rfl) aa (fun _ _ h=>bO h) rfl)
   (lB (aG (F:=(ah (aH ((fun r c=>ae (ad (mk (ln ((N+1)*(ab i r)+(ab k c))) (z ((N+1)*(ab i r)+(ab k c)))))) a) ((fun r c=>(ad (mk (ln ((N+1)*(ab i r)+(ab k c))) (z ((N+1)*(ab i r)+(ab k c))))).length) a) 1))) Try.underlying22 aa rfl)
   (bI (counted N (fun b=>ph ((jS al xl ml z ln nl nz N i k ++ nU z ln N i k a) ++ BU z ln N i k a b)) (fun _=>0) (fun b p hp=>bJ (show p<(jS al xl ml z ln nl nz N i k ++ nU z ln N i k a).length from hp)) ⟨fun _=>rfl,trivial⟩ (fun b hb=>by
   have Lr:(mnr (fun i k=>ad (mk (ln ((N+1)*i+k)) (z ((N+1)*i+k)))) i k a b).length<=1000:=Nat.le_trans (hE _).len (by omega)
   exact ⟨(sL,[.frm 35]),rfl,⟨aa,trivial⟩,(lB (bm aa aa)
   (lB (bc (i:=a) (F:=(ah (aP (mnr (fun i k=>ad (mk (ln ((N+1)*i+k)) (z ((N+1)*i+k)))) i k) N 5))) Try.underlying25 (by kernel_rfl) aa aa (by omega) rfl)
   (lB (KU (G:=Rw 1 (ah (bp ((mnr (fun i k=>ad (mk (ln ((N+1)*i+k)) (z ((N+1)*i+k)))) i k) a) 5)) N) (by kernel_rfl) aa (fun _ _ h=>bO h) rfl)
   (lB (bc (i:=b) (F:=(ah (bp ((mnr (fun i k=>ad (mk (ln ((N+1)*i+k)) (z ((N+1)*i+k)))) i k) a) 5))) Try.underlying42 (by kernel_rfl) aa aa (by omega) rfl)
   (lB (KU (G:=fun w v=>Rw 4 (fun ι w v=>am w v ((((ae (((mnr (fun i k=>ad (mk (ln ((N+1)*i+k)) (z ((N+1)*i+k)))) i k) a) b)) ι:Int):Rat)) 5) ((((mnr (fun i k=>ad (mk (ln ((N+1)*i+k)) (z ((N+1)*i+k)))) i k) a) b).length) w v) (by kernel_rfl) aa (fun _ _ h=>bO h) rfl)
   (lB (bc (i:=a) (F:=(ah (aw (fun r c=>ae (ad (mk (ln ((N+1)*(ab i r)+(ab k c))) (z ((N+1)*(ab i r)+(ab k c)))))) (fun r c=>(ad (mk (ln ((N+1)*(ab i r)+(ab k c))) (z ((N+1)*(ab i r)+(ab k c))))).length) N 1))) Try.underlying24 (by kernel_rfl) aa aa (by omega) rfl)
   (lB (KU (G:=Rw 1 (ah (aH ((fun r c=>ae (ad (mk (ln ((N+1)*(ab i r)+(ab k c))) (z ((N+1)*(ab i r)+(ab k c)))))) a) ((fun r c=>(ad (mk (ln ((N+1)*(ab i r)+(ab k c))) (z ((N+1)*(ab i r)+(ab k c))))).length) a) 1)) N) (by kernel_rfl) aa (fun _ _ h=>bO h) rfl)
   (lB (bc (i:=b) (F:=(ah (aH ((fun r c=>ae (ad (mk (ln ((N+1)*(ab i r)+(ab k c))) (z ((N+1)*(ab i r)+(ab k c)))))) a) ((fun r c=>(ad (mk (ln ((N+1)*(ab i r)+(ab k c))) (z ((N+1)*(ab i r)+(ab k c))))).length) a) 1))) Try.underlying22 (by kernel_rfl) aa aa (by omega) rfl)
   (lB (KU (G:=fun w v=>Rw 2 (fun ι w v=>aB w v ((ae (ad (mk (ln ((N+1)*(ab i a)+(ab k b))) (z ((N+1)*(ab i a)+(ab k b)))))) ι) 1) ((ad (mk (ln ((N+1)*(ab i a)+(ab k b))) (z ((N+1)*(ab i a)+(ab k b))))).length) w v) (by kernel_rfl) aa (fun _ _ h=>bO h) rfl)
   (lB (rq (z:=(ae (ad (mk (ln ((N+1)*(ab i a)+(ab k b))) (z ((N+1)*(ab i a)+(ab k b))))))) (n:=(ad (mk (ln ((N+1)*(ab i a)+(ab k b))) (z ((N+1)*(ab i a)+(ab k b))))).length) (k:=1) (L:=(mnr (fun i k=>ad (mk (ln ((N+1)*i+k)) (z ((N+1)*i+k)))) i k a b)) (Rw.To 2 (fun ι w v=>aB w v ((ae (ad (mk (ln ((N+1)*(ab i a)+(ab k b))) (z ((N+1)*(ab i a)+(ab k b)))))) ι) 1) ((ad (mk (ln ((N+1)*(ab i a)+(ab k b))) (z ((N+1)*(ab i a)+(ab k b))))).length) (fun _ _ _ _ h=>h)) rfl (Nat.le_trans Lr (by omega)) (by omega) (cX (Ln _)))
   (lB (jM (z:=ae (((mnr (fun i k=>ad (mk (ln ((N+1)*i+k)) (z ((N+1)*i+k)))) i k) a) b)) (n:=(((mnr (fun i k=>ad (mk (ln ((N+1)*i+k)) (z ((N+1)*i+k)))) i k) a) b).length) (kq:=5) (k:=1) aa aa (by have:=Lr;omega) (by omega) (by omega))
   (lB (bt aa (by omega) rfl (by omega) (by omega))
   aA))))))))))))⟩)
   (lB (tlF aa aa)
   aA)
   (fun q hq=>by cases hq)) (lB (bt aa (by omega) rfl (by omega) (by omega))
   aA)))))))))))))⟩)
   (lB (tlF aa aa)
   aA)
   (fun q hq=>by cases hq)) (lB (ei)
   aA)))))))))))))))))
  (aJ [.fact 0 (.one (.s)),.fact 1 (.one (.i)),.fact 2 (.one (.i)),.fact 3 (.one (.i))] ⟨Rw.Is 1 (bF al xl ml) nl,fun _ _ h=>h▸aQ _,fun _ _ h=>h▸aQ _,fun _ _ h=>h▸aQ _,trivial⟩) (fun _ _ _ h=>h)
theorem walk {nl:Nat}{ml:Nat->Nat}{al:Nat->Nat->Bool}{xl:Nat->Nat->List Nat}{w:World}{vl:Value} (hnl:nl<=9223372036854775807∧∀i,i<nl->ml i<=9223372036854775807) (hll:Rw 1 (bF al xl ml) nl w vl) (nz:Int) (_ : -9223372036854775808<=nz) (_:nz<=9223372036854775807) (iz:Int) (_ : -9223372036854775808<=iz) (_:iz<=9223372036854775807) (kz:Int) (_ : -9223372036854775808<=kz) (_:kz<=9223372036854775807):Calls Try.prog 4 #[vl,.int .i64 nz,.int .i64 iz,.int .i64 kz] w (lE w true):=by
 obtain ⟨gI,z,ln,dO,hml,hz,hN,hN0,hln,hE⟩:=np hnl hll
 obtain ⟨N,bw⟩:∃N,bX nz 5=N:=⟨_,rfl⟩
 have hN5:N<5:=bw▸jR _ (by omega)
 rcases Nat.lt_or_ge 3 N with h1 | h1
 ·exact ek (BC hnl.1 hml hz hN hN0 hln hE bw hN5 h1) (vs:=[vl,.int .i64 nz,.int .i64 iz,.int .i64 kz]) ⟨eg dO,fun _ _=>rfl,fun _ _=>rfl,fun _ _=>rfl,trivial⟩
 rcases Int.lt_or_le iz 0 with h2 | h2
 ·exact ek (BH hnl.1 hml hz hN hN0 hln hE bw hN5 h1 h2) (vs:=[vl,.int .i64 nz,.int .i64 iz,.int .i64 kz]) ⟨eg dO,fun _ _=>rfl,fun _ _=>rfl,fun _ _=>rfl,trivial⟩
 rcases Int.lt_or_le iz ((N+1:Nat):Int) with h3 | h3
 ·rcases Int.lt_or_le kz 0 with h4 | h4
  ·exact ek (BP hnl.1 hml hz hN hN0 hln hE bw hN5 h1 h2 h3 h4) (vs:=[vl,.int .i64 nz,.int .i64 iz,.int .i64 kz]) ⟨eg dO,fun _ _=>rfl,fun _ _=>rfl,fun _ _=>rfl,trivial⟩
  rcases Int.lt_or_le kz ((N+1:Nat):Int) with h5 | h5
  ·obtain ⟨i,rfl⟩:∃i:Nat,iz=(i:Int):=⟨iz.toNat,by omega⟩
   obtain ⟨k,rfl⟩:∃k:Nat,kz=(k:Int):=⟨kz.toNat,by omega⟩
   exact ek (NE (i:=i) (k:=k) hnl.1 hml hz hN hN0 hln hE bw h1 (by omega) (by omega)) (vs:=[vl,.int .i64 nz,.int .i64 (i:Int),.int .i64 (k:Int)]) ⟨eg dO,fun _ _=>rfl,fun _ _=>rfl,fun _ _=>rfl,trivial⟩
  ·exact ek (BT hnl.1 hml hz hN hN0 hln hE bw hN5 h1 h2 h3 h4 h5) (vs:=[vl,.int .i64 nz,.int .i64 iz,.int .i64 kz]) ⟨eg dO,fun _ _=>rfl,fun _ _=>rfl,fun _ _=>rfl,trivial⟩
 ·exact ek (BL hnl.1 hml hz hN hN0 hln hE bw hN5 h1 h2 h3) (vs:=[vl,.int .i64 nz,.int .i64 iz,.int .i64 kz]) ⟨eg dO,fun _ _=>rfl,fun _ _=>rfl,fun _ _=>rfl,trivial⟩
theorem lifted (os:Os) (started:os.Started) (H:Type) (enc:TypeId×Value->H) :
  ReturnsInHanded {} Try.checked os 4 .any (Rows.detMinorsSpec.pre6 enc Try.prog Try.f4 Rows.detMinorsRow.domain false) (Rows.detMinorsSpec.post enc Try.prog Try.f4 false true false false):=by
 refine returnsInHanded_of_change (C:=Try.checked) Try.own started (by kernel_rfl) Try.func4
  (ChangeSpec.witness6 (enc:=enc) (C:=Try.checked) false ⟨#[],#[.slice none 0 0,.int .i64 0,.int .i64 0,.int .i64 0],[]⟩ 8 (by kernel_rfl) (by kernel_rfl) (by kernel_rfl) (by kernel_rfl)) ?_
 intro W base args ds gs before hval0 hW _ _
 have hval:∀(j:Nat) t v,Try.f4.params[j]?=some t->args[j]?=some v->Value.okWide Try.prog W .any base t v:=hval0
 obtain ⟨p,q,hA0,hV,rfl,_,_⟩:=id hW
 have hA:DataW.TrodAll enc Try.prog W 0 (fun _=>true) true Try.f4.params.toList args.toList ds p:=hA0
 rw [Try.params4] at hA hval
 obtain ⟨v0,sG,d0,ds0,p0,q0,hargs,rfl,rfl,h0,r0⟩:=trodAll_cons hA
 obtain ⟨v1,vs1,d1,ds1,p1,q1,rfl,rfl,rfl,h1,r1⟩:=trodAll_cons r0
 obtain ⟨v2,vs2,d2,sH,p2,q2,rfl,rfl,rfl,h2,r2⟩:=trodAll_cons r1
 obtain ⟨v3,vs3,d3,ds3,p3,q3,rfl,rfl,rfl,h3,r3⟩:=trodAll_cons r2
 obtain ⟨rfl,rfl,rfl⟩:=trodAll_nil r3
 obtain rfl:args = #[v0,v1,v2,v3]:=by cases args;simp_all
 obtain ⟨n0,m0,a0,xs0,l0,s0⟩:=no h0 (hval 0 22 v0 rfl rfl)
 obtain ⟨n1,rfl,rfl,rfl,f1⟩:=open_int Try.underlying3 (hval 1 3 v1 rfl rfl) h1
 obtain ⟨n2,rfl,rfl,rfl,f2⟩:=open_int Try.underlying3 (hval 2 3 v2 rfl rfl) h2
 obtain ⟨n3,rfl,rfl,rfl,f3⟩:=open_int Try.underlying3 (hval 3 3 v3 rfl rfl) h3
 refine (walk l0 s0 n1 (gK f1) (gL f1) n2 (gK f2) (gL f2) n3 (gK f3) (gL f3)).mono fun e W' ⟨he,hg⟩=>?_
 subst he
 refine ⟨_,rfl,nS Try.laidOut rfl (by kernel_rfl) Try.underlying4 ?_ ?_ hW hg⟩
 ·rw [Try.params4];decide +kernel
 ·rw [Try.params4]
  intro ds h
  match ds,h with
  | [_,_,_,_],_=>rfl
theorem holds:Rows.DetMinorsSaid:=
 OpenClaim.holds_of_wide 4 Try.f4 rfl rfl rfl rfl rfl rfl rfl ⟨rfl,rfl,rfl,rfl,rfl⟩ rfl rfl rfl rfl rfl (by kernel_rfl) Try.func4 (by kernel_rfl)
  (of_decide_eq_true (by kernel_rfl)) (by unfold Func.isWrapper;first | (rw [if_pos (by decide +kernel)];kernel_rfl) | (rw [if_neg (by decide +kernel)];exact ⟨rfl,rfl⟩))
  (fun os started H enc _=>lifted os started H enc)
end Go.Proofs.Ytomamliepbhegaa.dminors
