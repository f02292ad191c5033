/- The reference's From -/
import Derived.Test.YtbjfgffibepmkaaGreatPrP
set_option maxRecDepth 100000
namespace Go.Proofs.YtbjfgffibepmkaaGreat.Sym
open Go.RowKit
variable {k m n:Nat}{x y:Nat->Int}{Lx Ly:List Int}{e:Int}
def vw (q r:Nat->Rat) (dL X Y:Nat->Int) (n m k kd K:Nat):List WP:=[fun w v=>Rw 4 (fun ι w v=>af w v ((q ι)) k) n w v,fun w v=>Rw 4 (fun ι w v=>af w v ((r ι)) k) m w v,fun w v=>ai w v (1:Int) 2,fun w v=>aC 4 63 (fun ι w v=>af w v ((q ι)) k) 0 w v,fun w v=>aC 4 63 (fun ι w v=>af w v ((q ι)) k) n w v,fun w v=>aC 4 63 (fun ι w v=>af w v ((bc n q r ι)) k) (n+m) w v,gW (n+m),Nz (n+m),fun w v=>ai w v (dL (n+m)) kd,fun w v=>Rw 4 (fun ι w v=>af w v (((X ι:Int):Rat)) K) n w v,Rw 2 (Nf X K) n,fun w v=>Rw 4 (fun ι w v=>af w v (((Y ι:Int):Rat)) K) m w v,Rw 2 (Nf Y K) m,Nw (dL (n+m)) kd]
def UP (q r:Nat->Rat) (dL:Nat->Int) (n k kd:Nat) (j:Nat):List WP:=[Nz j,fun w v=>ai w v (dL j) kd,At 4,Ptr 4 (Dw ((bc n q r j)) k),fun w v=>Ptr 2 (fun w v=>ai w v (((bc n q r j)).den:Int) k) w v,fun w v=>ai w v (((bc n q r j)).den:Int) k,fun w v=>ai w v ((dL j)*(((bc n q r j)).den:Int)) (kd+k),At 4,Ptr 4 (Dw ((bc n q r j)) k),fun w v=>Ptr 2 (fun w v=>ai w v (((bc n q r j)).den:Int) k) w v,fun w v=>ai w v (((bc n q r j)).den:Int) k,fun w v=>ai w v (Int.gcd (dL j) (((bc n q r j)).den:Int):Int) (kd+k),fun w v=>ai w v (dL (j+1)) (kd+k),Nz (j+1)]
def DK:bJ:=⟨[0,1,4,5,6,8,9,10,11,12,13,14],[(.slot 15,.i),(.cell 3 0,.s),(.cell 3 1,.b)],[(.one 0,14),(.agg [1,2],15)],[.closed (.one (.ci .i64 0)),.frm 2],14,[(15,8)]⟩
def DL:List Step:=[bQ [14,7] oT (au .lss),.base ⟨0,[5,14],[oP 17],.joint [1] 16 (aN 32)⟩,.base ⟨0,[17],[oP 18],.kX [1] (eS 63 1)⟩,.base ⟨0,[18],[oD 19],.kE [1] (aO 61)⟩,.base ⟨36,[15,19],[oD 20],false⟩,.base ⟨0,[5,14],[oP 22],.joint [1] 21 (aN 32)⟩,.base ⟨0,[22],[oP 23],.kX [1] (eS 63 1)⟩,.base ⟨0,[23],[oD 24],.kE [1] (aO 61)⟩,.base ⟨107,[15,24],[oD 25],false⟩,.base ⟨108,[20,25],[oD 26],false⟩,bQ [14,.lit (.ci .i64 1)] [oN 27] (au .add)]
def UQ:List Step:=[bQ [14,7] oF (au .lss)]
def UR:List Step:=[.base ⟨34,[.lit (.ci .i64 1)],[oD 2],false⟩,.derive (.one (.nl)) (.one (.lit (.nl))) [] 3,.base ⟨0,[3,0],[oS 4],.loose [] 1 0 (bO 32 32)⟩,.base ⟨0,[4,1],[oS 5],.loose [] 1 0 (bO 32 32)⟩,.freed (.one (.s 8 0)) 5 6,bQ [6] [oN 7] (aK 32),.loop DK [(DL,[.frm 27,.frm 26])] UQ,.base ⟨132,[0,8],[oS 9],false⟩,.base ⟨131,[9],[oS 10],false⟩,.base ⟨132,[1,8],[oS 11],false⟩,.base ⟨131,[11],[oS 12],false⟩,.base ⟨35,[8],[oI 13],false⟩]
def US:List Out:=[oS 0,oS 1]
theorem UT {q r:Nat->Rat}{dL X Y:Nat->Int}{kd K:Nat} (hn:n<=1000) (hm:m<=1000) (hk:k<=1000) (hkd:kd<=1000) (hK:K<=400000) (hd0:1=dL 0) (UU:Bd (dL 0).natAbs kd) (hdL:∀j,j<n+m->(Int.gcd (dL j) ((bc n q r j).den:Int):Int)≠0∧(Int.gcd (dL j) ((bc n q r j).den:Int):Int)∣dL j*((bc n q r j).den:Int)∧dL j*((bc n q r j).den:Int) / (Int.gcd (dL j) ((bc n q r j).den:Int):Int)=dL (j+1)∧Bd (dL (j+1)).natAbs kd) (hX:∀i,i<n->q i*((dL (n+m):Int):Rat)=((X i:Int):Rat)) (hY:∀i,i<m->r i*((dL (n+m):Int):Rat)=((Y i:Int):Rat)) (hBX:∀i,i<n->Bd (X i).natAbs K) (hBY:∀i,i<m->Bd (Y i).natAbs K) (hK1:1<=K) (htX:0<n->X (n-1)≠0) (htY:0<m->Y (m-1)≠0):aj (ph (vw q r dL X Y n m k kd K)) Tryz.prog ⟨84,[0,1],[⟨.agg [.s,.s,.s,.s,.b,.s],[(0,1,0),(1,1,1),(2,1,10),(3,1,12),(4,2,13)]⟩],false⟩:=aQ US [⟨.agg [.s,.s,.s,.s,.b,.s],[(0,1,0),(1,1,1),(2,1,10),(3,1,12),(4,2,13)]⟩] UR Tryz.func84 (by kernel_rfl) (lB (jG (z:=1) rfl rfl) (ba (IC (e:=63) (F:=(fun ι w v=>af w v ((q ι)) k)) rfl) (lB (ID ad ad rfl) (lB (IE ad ad rfl) (lR (nt (e:=63) (sz:=4) (n:=(n+m)) (F:=(fun ι w v=>af w v ((bc n q r ι)) k)) ad rfl) (lB (lS (n:=(n+m)) Tryz.underlying32 ad rfl) (cm (counted (n+m) (fun j=>ph (vw q r dL X Y n m k kd K ++ UP q r dL n k kd j)) (fun _=>0) (fun j p hp=>cn (show p<(vw q r dL X Y n m k kd K).length from hp)) ⟨fun _=>rfl,fun _ _ h=>ai.iE (ai.fS h hd0) UU,trivial⟩ (fun j hj=>by
   skip
   exact ⟨(DL,[.frm 27,.frm 26]),rfl,⟨ad,fun _ _ h=>ai.iE h (hdL j hj).2.2.2,trivial⟩,(lB (bH ad ad) (lB (fL (i:=j) (sz:=4) (n:=(n+m)) (F:=(fun ι w v=>af w v ((bc n q r ι)) k)) Tryz.underlying32 (fun _ _ h=>aC.arr h) ad rfl rfl) (lB (fj (off:=2) (len:=2) (sz:=4) (F:=Dw ((bc n q r j)) k) (G:=fun w v=>ai w v (((bc n q r j)).den:Int) k) ad (fun _ _ h=>af.snd' h) rfl) (lB (sK (sz:=2) (F:=fun w v=>ai w v (((bc n q r j)).den:Int) k) ad (fun _ _ _ g h=>ai.kp h g) (fun _ _ h=>ai.is h) rfl) (lB (mC dD dD rfl rfl) (lB (fL (i:=j) (sz:=4) (n:=(n+m)) (F:=(fun ι w v=>af w v ((bc n q r ι)) k)) Tryz.underlying32 (fun _ _ h=>aC.arr h) ad rfl rfl) (lB (fj (off:=2) (len:=2) (sz:=4) (F:=Dw ((bc n q r j)) k) (G:=fun w v=>ai w v (((bc n q r j)).den:Int) k) ad (fun _ _ h=>af.snd' h) rfl) (lB (sK (sz:=2) (F:=fun w v=>ai w v (((bc n q r j)).den:Int) k) ad (fun _ _ _ g h=>ai.kp h g) (fun _ _ h=>ai.is h) rfl) (lB (oB (kd+k) dD dD rfl rfl) (lB (jo dD dD rfl ((hdL j hj).1) ((hdL j hj).2.1) ((hdL j hj).2.2.1)) (lB (ct ad rfl) aD)))))))))))⟩) (lB (tlF ad ad) aD)
   (fun q hq w v h=>by
    simp only [DK,List.mem_cons,List.not_mem_nil,or_false] at hq
    rcases hq with rfl
    ·exact (fun h=>h) h)) (lB (yp (q:=(fun ι=>(q ι))) (z:=(dL (n+m))) (n:=n) (X:=X) (K:=K) ad dD rfl hX hBX hK1 htX) (lB (zh (z:=X) (n:=n) ad rfl) (lB (yp (q:=(fun ι=>(r ι))) (z:=(dL (n+m))) (n:=m) (X:=Y) (K:=K) ad dD rfl hY hBY hK1 htY) (lB (zh (z:=Y) (n:=m) ad rfl) (lB (tTo dD rfl rfl) aD))))))))))))
  (aM [.fact 0 (.one (.s)),.fact 1 (.one (.s))] ⟨Rw.Is 4 (fun ι w v=>af w v ((q ι)) k) n,Rw.Is 4 (fun ι w v=>af w v ((r ι)) k) m,trivial⟩) aV
section
variable {Φ:PH}{p y p0 p1 p2 pa pb kd K:Nat}{q r:Nat->Rat}
theorem DM (hp:∀w v,Φ p w v->Rw 4 (Df q k) n w v) (hy:∀w v,Φ y w v->Rw 4 (Df r k) m w v) (ha:Φ pa=Rw 4 (Df q k) n) (hb0:Φ pb=Rw 4 (Df r k) m) (h0:Φ p0=fun w v=>Rw 2 (fun i w v=>ak w v (cuX q (dnL (bc n q r) (n+m)) i) K) n w v) (h1:Φ p1=fun w v=>Rw 2 (fun i w v=>ak w v (cuX r (dnL (bc n q r) (n+m)) i) K) m w v) (h2:Φ p2=Nw ((dnL (bc n q r) (n+m):Nat):Int) kd)
  (hK1:1<=K) (hb:Bd (dnL (bc n q r) (n+m)) kd) (hBX:∀i,i<n->Bd (cuX q (dnL (bc n q r) (n+m)) i).natAbs K) (hBY:∀i,i<m->Bd (cuX r (dnL (bc n q r) (n+m)) i).natAbs K) (hX0:0<n->cuX q (dnL (bc n q r) (n+m)) (n-1)≠0) (hY0:0<m->cuX r (dnL (bc n q r) (n+m)) (m-1)≠0) (hn:n<=1000:=by omega) (hm:m<=1000:=by omega) (hk:k<=1000:=by omega) (hkd:kd<=1000:=by omega) (hK:K<=400000:=by omega) :
  aj Φ Tryz.prog ⟨84,[.fact p,.fact y],[⟨.agg [.s,.s,.s,.s,.b,.s],[(0,1,pa),(1,1,pb),(2,1,p0),(3,1,p1),(4,2,p2)]⟩],false⟩:=by
 have hq:∀i,i<n->(q i).den∣dnL (bc n q r) (n+m):=fun i hi=>by
  have:=lV (q:=bc n q r) (n:=n+m) (i:=i) (by omega)
  rwa [bc,if_pos hi] at this
 have hr:∀i,i<m->(r i).den∣dnL (bc n q r) (n+m):=fun i hi=>by
  have:=lV (q:=bc n q r) (n:=n+m) (i:=n+i) (by omega)
  rwa [bc,if_neg (by omega),Nat.add_sub_cancel_left] at this
 exact aT (UT (q:=q) (r:=r) (dL:=fun j=>((dnL (bc n q r) j:Nat):Int)) (X:=cuX q (dnL (bc n q r) (n+m))) (Y:=cuX r (dnL (bc n q r) (n+m))) (k:=k) (kd:=kd) (K:=K) hn hm hk hkd hK rfl (by
   rw [Int.natAbs_natCast]
   exact hb.le (lU _ _)) (fun j hj=>IJ hj hb) (fun i hi=>pO (hq i hi)) (fun i hi=>pO (hr i hi)) hBX hBY hK1 hX0 hY0) ⟨hp,hy,trivial⟩ ⟨⟨rfl,⟨rfl,rfl,fun _ _ h=>ha▸h⟩,⟨rfl,rfl,fun _ _ h=>hb0▸h⟩,⟨rfl,rfl,fun _ _ h=>h0▸h⟩,⟨rfl,rfl,fun _ _ h=>h1▸h⟩,⟨rfl,rfl,fun _ _ h=>h2▸h⟩,trivial⟩,trivial⟩
end
def UV (x y:Nat->Int) (n m k:Nat) (d:Int) (Lx Ly:List Int):List WP:=[Rw 2 (If x k) n,Rw 2 (If y k) m,Iw d k,fun w v=>ai w v d k,fun w v=>ai w v (1:Int) 2,Dw (aW (1:Int) d) (2+k+2),fun w v=>ai w v ((aW (1:Int) d).num) (2+k+2),fun w v=>ai w v ((aW (1:Int) d).den:Int) (2+k+2),fun w v=>Rw 4 (fun ι w v=>af w v ((((ae Lx) ι:Int):Rat)) (k+2+2)) Lx.length w v,Rw 4 (Df (aE d (ae Lx)) k) Lx.length,fun w v=>Rw 4 (fun ι w v=>af w v ((((ae Ly) ι:Int):Rat)) (k+2+2)) Ly.length w v,Rw 4 (Df (aE d (ae Ly)) k) Ly.length,Rw 4 (Df (aE d (ae Lx)) k) Lx.length,Rw 4 (Df (aE d (ae Ly)) k) Ly.length,fun w v=>Rw 2 (fun ι w v=>ak w v ((cuX (aE d (ae Lx)) (dnL (bc Lx.length (aE d (ae Lx)) (aE d (ae Ly))) (Lx.length+Ly.length))) ι) k) Lx.length w v,fun w v=>Rw 2 (fun ι w v=>ak w v ((cuX (aE d (ae Ly)) (dnL (bc Lx.length (aE d (ae Lx)) (aE d (ae Ly))) (Lx.length+Ly.length))) ι) k) Ly.length w v,Nw (((dnL (bc Lx.length (aE d (ae Lx)) (aE d (ae Ly))) (Lx.length+Ly.length)):Nat):Int) k]
def UW:List Step:=[.base ⟨37,[2],[oD 3],false⟩,.base ⟨38,[3],oF,false⟩,.base ⟨34,[.lit (.ci .i64 1)],[oD 4],false⟩,.base ⟨69,[4,3],[⟨.agg [.s,.b,.s,.b],[(0,0,5),(0,2,6),(2,2,7)]⟩],false⟩,.base ⟨33,[0],[oS 8],false⟩,.base ⟨85,[8,5],[oS 9],false⟩,.base ⟨33,[1],[oS 10],false⟩,.base ⟨85,[10,5],[oS 11],false⟩,.base ⟨84,[9,11],[⟨.agg [.s,.s,.s,.s,.b,.s],[(0,1,12),(1,1,13),(2,1,14),(3,1,15),(4,2,16)]⟩],false⟩]
def UX:List Out:=[⟨.agg [.s,.s,.b,.s],[(0,1,0),(1,1,1),(2,2,2)]⟩]
theorem UY {d:Int} (hd:d≠0) (hn:n<=1000) (hm:m<=1000) (hk1:1<=k) (hLx:an (mk n x)=Lx) (hLy:an (mk m y)=Ly) (hBx:∀i,i<Lx.length->Bd ((aE d (ae Lx)) i).num.natAbs k∧Bd ((aE d (ae Lx)) i).den k) (hBy:∀i,i<Ly.length->Bd ((aE d (ae Ly)) i).num.natAbs k∧Bd ((aE d (ae Ly)) i).den k) (hNx:tl (fun i=>((aE d (ae Lx)) i).num) Lx.length=Lx.length) (hNy:tl (fun i=>((aE d (ae Ly)) i).num) Ly.length=Ly.length) (hS:Bd (dnL (bc Lx.length (aE d (ae Lx)) (aE d (ae Ly))) (Lx.length+Ly.length)) k∧(∀i,i<Lx.length->Bd (cuX (aE d (ae Lx)) (dnL (bc Lx.length (aE d (ae Lx)) (aE d (ae Ly))) (Lx.length+Ly.length)) i).natAbs k)∧(∀i,i<Ly.length->Bd (cuX (aE d (ae Ly)) (dnL (bc Lx.length (aE d (ae Lx)) (aE d (ae Ly))) (Lx.length+Ly.length)) i).natAbs k)∧(0<Lx.length->cuX (aE d (ae Lx)) (dnL (bc Lx.length (aE d (ae Lx)) (aE d (ae Ly))) (Lx.length+Ly.length)) (Lx.length-1)≠0)∧(0<Ly.length->cuX (aE d (ae Ly)) (dnL (bc Lx.length (aE d (ae Lx)) (aE d (ae Ly))) (Lx.length+Ly.length)) (Ly.length-1)≠0)) (hk:k<=900:=by omega):aj (ph (UV x y n m k d Lx Ly)) Tryz.prog ⟨47,[.parts (.agg [.s,.s,.b,.s]) [(0,1,0),(1,1,1),(2,2,2)]],[⟨.agg [.s,.s,.s,.s,.b,.s],[(0,1,12),(1,1,13),(2,1,14),(3,1,15),(4,2,16)]⟩],false⟩:=by
 have hlx:Lx.length<=n:=by rw [<- hLx,eQ];exact bi _ _
 have hly:Ly.length<=m:=by rw [<- hLy,eQ];exact bi _ _
 exact aQ UX [⟨.agg [.s,.s,.s,.s,.b,.s],[(0,1,12),(1,1,13),(2,1,14),(3,1,15),(4,2,16)]⟩] UW Tryz.func47 (by kernel_rfl) (lB (qY iI rfl rfl) (lB (gK dD (decide_eq_false hd)) (lB (jG (z:=1) rfl rfl) (lB (jH dD dD rfl rfl rfl rfl) (lB (mA (z:=x) (n:=n) (L:=Lx) (Rw.To 2 (If x k) n (fun _ _ _ _ h=>h)) rfl hLx) (lB (lZ (q:=fun i=>((ae Lx i:Int):Rat)) (c:=aW 1 d) (n:=Lx.length) (N:=Lx.length) (K:=k) ad tS rfl hBx hNx) (lB (mA (z:=y) (n:=m) (L:=Ly) (Rw.To 2 (If y k) m (fun _ _ _ _ h=>h)) rfl hLy) (lB (lZ (q:=fun i=>((ae Ly i:Int):Rat)) (c:=aW 1 d) (n:=Ly.length) (N:=Ly.length) (K:=k) ad tS rfl hBy hNy) (lB (DM (q:=(aE d (ae Lx))) (r:=(aE d (ae Ly))) (n:=Lx.length) (m:=Ly.length) (k:=k) (kd:=k) (K:=k) ad ad rfl rfl rfl rfl rfl hk1 hS.1 hS.2.1 hS.2.2.1 hS.2.2.2.1 hS.2.2.2.2) aD)))))))))
  (aM [.parts (.agg [.s,.s,.b,.s]) [(0,1,0),(1,1,1),(2,2,2)]] ⟨trivial,trivial⟩) aV
def UZ (x y:Nat->Int) (n m k:Nat) (Lx Ly:List Int):List WP:=[Rw 2 (If x k) n,Rw 2 (If y k) m,Iw (0:Int) k,fun w v=>ai w v (0:Int) k,fun w v=>ai w v (1:Int) 2,fun w v=>ai w v (1:Int) 2,Dw (aW (1:Int) (1:Int)) (2+2+2),fun w v=>ai w v ((aW (1:Int) (1:Int)).num) (2+2+2),fun w v=>ai w v ((aW (1:Int) (1:Int)).den:Int) (2+2+2),fun w v=>Rw 4 (fun ι w v=>af w v ((((ae Lx) ι:Int):Rat)) (k+2+2)) Lx.length w v,Rw 4 (Df (aE 1 (ae Lx)) k) Lx.length,fun w v=>Rw 4 (fun ι w v=>af w v ((((ae Ly) ι:Int):Rat)) (k+2+2)) Ly.length w v,Rw 4 (Df (aE 1 (ae Ly)) k) Ly.length,Rw 4 (Df (aE 1 (ae Lx)) k) Lx.length,Rw 4 (Df (aE 1 (ae Ly)) k) Ly.length,fun w v=>Rw 2 (fun ι w v=>ak w v ((cuX (aE 1 (ae Lx)) (dnL (bc Lx.length (aE 1 (ae Lx)) (aE 1 (ae Ly))) (Lx.length+Ly.length))) ι) k) Lx.length w v,fun w v=>Rw 2 (fun ι w v=>ak w v ((cuX (aE 1 (ae Ly)) (dnL (bc Lx.length (aE 1 (ae Lx)) (aE 1 (ae Ly))) (Lx.length+Ly.length))) ι) k) Ly.length w v,Nw (((dnL (bc Lx.length (aE 1 (ae Lx)) (aE 1 (ae Ly))) (Lx.length+Ly.length)):Nat):Int) k]
def Vb:List Step:=[.base ⟨37,[2],[oD 3],false⟩,.base ⟨38,[3],oT,false⟩,.base ⟨34,[.lit (.ci .i64 1)],[oD 4],false⟩,.base ⟨34,[.lit (.ci .i64 1)],[oD 5],false⟩,.base ⟨69,[5,4],[⟨.agg [.s,.b,.s,.b],[(0,0,6),(0,2,7),(2,2,8)]⟩],false⟩,.base ⟨33,[0],[oS 9],false⟩,.base ⟨85,[9,6],[oS 10],false⟩,.base ⟨33,[1],[oS 11],false⟩,.base ⟨85,[11,6],[oS 12],false⟩,.base ⟨84,[10,12],[⟨.agg [.s,.s,.s,.s,.b,.s],[(0,1,13),(1,1,14),(2,1,15),(3,1,16),(4,2,17)]⟩],false⟩]
def Vc:List Out:=[⟨.agg [.s,.s,.b,.s],[(0,1,0),(1,1,1),(2,2,2)]⟩]
theorem Vd  (hn:n<=1000) (hm:m<=1000) (hk1:1<=k) (hLx:an (mk n x)=Lx) (hLy:an (mk m y)=Ly) (hBx:∀i,i<Lx.length->Bd ((aE 1 (ae Lx)) i).num.natAbs k∧Bd ((aE 1 (ae Lx)) i).den k) (hBy:∀i,i<Ly.length->Bd ((aE 1 (ae Ly)) i).num.natAbs k∧Bd ((aE 1 (ae Ly)) i).den k) (hNx:tl (fun i=>((aE 1 (ae Lx)) i).num) Lx.length=Lx.length) (hNy:tl (fun i=>((aE 1 (ae Ly)) i).num) Ly.length=Ly.length) (hS:Bd (dnL (bc Lx.length (aE 1 (ae Lx)) (aE 1 (ae Ly))) (Lx.length+Ly.length)) k∧(∀i,i<Lx.length->Bd (cuX (aE 1 (ae Lx)) (dnL (bc Lx.length (aE 1 (ae Lx)) (aE 1 (ae Ly))) (Lx.length+Ly.length)) i).natAbs k)∧(∀i,i<Ly.length->Bd (cuX (aE 1 (ae Ly)) (dnL (bc Lx.length (aE 1 (ae Lx)) (aE 1 (ae Ly))) (Lx.length+Ly.length)) i).natAbs k)∧(0<Lx.length->cuX (aE 1 (ae Lx)) (dnL (bc Lx.length (aE 1 (ae Lx)) (aE 1 (ae Ly))) (Lx.length+Ly.length)) (Lx.length-1)≠0)∧(0<Ly.length->cuX (aE 1 (ae Ly)) (dnL (bc Lx.length (aE 1 (ae Lx)) (aE 1 (ae Ly))) (Lx.length+Ly.length)) (Ly.length-1)≠0)) (hk:k<=900:=by omega):aj (ph (UZ x y n m k Lx Ly)) Tryz.prog ⟨47,[.parts (.agg [.s,.s,.b,.s]) [(0,1,0),(1,1,1),(2,2,2)]],[⟨.agg [.s,.s,.s,.s,.b,.s],[(0,1,13),(1,1,14),(2,1,15),(3,1,16),(4,2,17)]⟩],false⟩:=by
 have hlx:Lx.length<=n:=by rw [<- hLx,eQ];exact bi _ _
 have hly:Ly.length<=m:=by rw [<- hLy,eQ];exact bi _ _
 exact aQ Vc [⟨.agg [.s,.s,.s,.s,.b,.s],[(0,1,13),(1,1,14),(2,1,15),(3,1,16),(4,2,17)]⟩] Vb Tryz.func47 (by kernel_rfl) (lB (qY iI rfl rfl) (lB (gK dD rfl) (lB (jG (z:=1) rfl rfl) (lB (jG (z:=1) rfl rfl) (lB (jH dD dD rfl rfl rfl rfl) (lB (mA (z:=x) (n:=n) (L:=Lx) (Rw.To 2 (If x k) n (fun _ _ _ _ h=>h)) rfl hLx) (lB (lZ (q:=fun i=>((ae Lx i:Int):Rat)) (c:=aW 1 1) (n:=Lx.length) (N:=Lx.length) (K:=k) ad tS rfl hBx hNx) (lB (mA (z:=y) (n:=m) (L:=Ly) (Rw.To 2 (If y k) m (fun _ _ _ _ h=>h)) rfl hLy) (lB (lZ (q:=fun i=>((ae Ly i:Int):Rat)) (c:=aW 1 1) (n:=Ly.length) (N:=Ly.length) (K:=k) ad tS rfl hBy hNy) (lB (DM (q:=(aE 1 (ae Lx))) (r:=(aE 1 (ae Ly))) (n:=Lx.length) (m:=Ly.length) (k:=k) (kd:=k) (K:=k) ad ad rfl rfl rfl rfl rfl hk1 hS.1 hS.2.1 hS.2.2.1 hS.2.2.2.1 hS.2.2.2.2) aD))))))))))
  (aM [.parts (.agg [.s,.s,.b,.s]) [(0,1,0),(1,1,1),(2,2,2)]] ⟨trivial,trivial⟩) aV
theorem DN {z:Nat->Int}{i:Nat} (he:e≠0) (hz:Bd (z i).natAbs k) (hb:Bd e.natAbs k):Bd (aE e z i).num.natAbs k∧Bd (aE e z i).den k:=by
 have h:aE e z i=Rat.divInt (z i) e:=by
  rw [aE,iR he,Rat.divInt_eq_div,Rat.divInt_eq_div,show ((1:Int):Rat)=1 from rfl,Rat.div_def,Rat.div_def,Rat.one_mul]
 rw [h]
 exact ⟨hz.le (Ve _ _),hb.le (Vf he)⟩
theorem DO {L:List Int} (he:e≠0) (hL:cG L):tl (fun i=>(aE e (ae L) i).num) L.length=L.length:=mc fun h=>fun e0=>by
 have h1:aE e (ae L) (L.length-1)=0:=Rat.num_eq_zero.1 e0
 have h2:((ae L (L.length-1):Int):Rat)=0:=by
  have:=Du he
  unfold aE at h1
  generalize aW 1 e=u at *
  generalize ((ae L (L.length-1):Int):Rat)=a at *
  generalize ((e:Int):Rat)=b at *
  have h3:a=a*u*b:=by rw [Rat.mul_assoc,this,Rat.mul_one]
  rw [h3,h1,Rat.zero_mul]
 exact hL h (by exact_mod_cast h2)
section
variable {Φ:PH}{p q r pa pb p0 p1 p2 c:Nat}{d D:Int}{X Y:List Int}
theorem eW (hp:∀w v,Φ p w v->Rw 2 (If x k) n w v) (hq:∀w v,Φ q w v->Rw 2 (If y k) m w v) (hr:∀w v,Φ r w v->aF w v d k) (ha:Φ pa=Rw 4 (Df (aE (ceE d) (ae Lx)) k) Lx.length) (hb:Φ pb=Rw 4 (Df (aE (ceE d) (ae Ly)) k) Ly.length) (h0:Φ p0=Rw 2 (Nf (ae X) k) X.length) (h1:Φ p1=Rw 2 (Nf (ae Y) k) Y.length) (h2:Φ p2=Nw D k)
  (hLx:an (mk n x)=Lx) (hLy:an (mk m y)=Ly) (hC:CuG x y n m d X Y D c k) (hx:∀i,i<n->Bd (x i).natAbs k) (hy:∀i,i<m->Bd (y i).natAbs k) (hd:Bd d.natAbs k) :
  aj Φ Tryz.prog ⟨47,[.parts cS [(0,1,p),(1,1,q),(2,2,r)]],[⟨.agg [.s,.s,.s,.s,.b,.s],[(0,1,pa),(1,1,pb),(2,1,p0),(3,1,p1),(4,2,p2)]⟩],false⟩:=by
 obtain ⟨⟨hX,hY,hD⟩,hn,hm,k1,k2,c2,oX,oY,oD⟩:=hC
 have he:=qZ d
 have hde:Bd (ceE d).natAbs k:=by
  unfold ceE
  split
  ·exact gF k1
  ·exact hd
 rw [<- SF (e:=ceE d) hLx hLy] at hX hY hD
 rw [<- Dx hLx] at hX
 rw [<- Dx hLy] at hY
 have bL:∀{z:Nat->Int}{l:Nat}{L:List Int},an (mk l z)=L->(∀i,i<l->Bd (z i).natAbs k)->∀i,i<L.length->Bd (ae L i).natAbs k:=fun {z l L} h hb i hi=>by
  rw [iB h] at hi
  rw [nz h i hi]
  exact hb i (Nat.lt_of_lt_of_le hi (bi _ _))
 have hBx:∀i,i<Lx.length->Bd (aE (ceE d) (ae Lx) i).num.natAbs k∧Bd (aE (ceE d) (ae Lx) i).den k:=fun i hi=>DN he (bL hLx hx i hi) hde
 have hBy:∀i,i<Ly.length->Bd (aE (ceE d) (ae Ly) i).num.natAbs k∧Bd (aE (ceE d) (ae Ly) i).den k:=fun i hi=>DN he (bL hLy hy i hi) hde
 have hNx:=DO (e:=ceE d) he (hLx▸gX _:cG Lx)
 have hNy:=DO (e:=ceE d) he (hLy▸gX _:cG Ly)
 have at_:∀{f:Nat->Int}{l:Nat}{L:List Int},mk l f=L->EOk c k L->(∀i,i<l->Bd (f i).natAbs k)∧(0<l->f (l-1)≠0):=fun {f l L} h o=>by
  subst h
  refine ⟨fun i hi=>?_,fun h0=>?_⟩
  ·have:=o.bd i
   rwa [cM,if_pos hi] at this
  ·have:=o.nrm (by rwa [dC])
   rwa [dC,cM,if_pos (by omega)] at this
 obtain ⟨b1,t1⟩:=at_ hX oX
 obtain ⟨b2,t2⟩:=at_ hY oY
 have bD:Bd (dnL (bc Lx.length (aE (ceE d) (ae Lx)) (aE (ceE d) (ae Ly))) (Lx.length+Ly.length)) k:=by
  have:=oD.bd 0
  rw [<- hD] at this
  exact this
 have toR:∀{f:Nat->Int}{l:Nat}{L:List Int}{w:World}{v:Value},mk l f=L->Rw 2 (Nf f k) l w v->Rw 2 (Nf (ae L) k) L.length w v:=fun {f l L w v} h g=>by
  subst h
  rw [dC]
  exact Rw.to (sz:=2) (n:=l) g fun i w v hi h=>h.eq (by rw [cM,if_pos hi])
 by_cases h:d=0
 ·subst h
  exact aT (Vd (x:=x) (y:=y) hn hm k1 hLx hLy hBx hBy hNx hNy ⟨bD,b1,b2,t1,t2⟩) ⟨⟨rfl,⟨rfl,rfl,hp⟩,⟨rfl,rfl,hq⟩,⟨rfl,rfl,hr⟩,trivial⟩,trivial⟩ ⟨⟨rfl,⟨rfl,rfl,fun _ _ h=>ha▸h⟩,⟨rfl,rfl,fun _ _ h=>hb▸h⟩,⟨rfl,rfl,fun _ _ h=>by rw [h0];exact toR hX h⟩,⟨rfl,rfl,fun _ _ h=>by rw [h1];exact toR hY h⟩,⟨rfl,rfl,fun _ _ h=>by rw [h2,<- hD];exact h⟩,trivial⟩,trivial⟩
 ·have e:ceE d=d:=if_neg h
  rw [e] at hX hY hD hBx hBy hNx hNy b1 b2 t1 t2 bD ha hb
  exact aT (UY (x:=x) (y:=y) h hn hm k1 hLx hLy hBx hBy hNx hNy ⟨bD,b1,b2,t1,t2⟩) ⟨⟨rfl,⟨rfl,rfl,hp⟩,⟨rfl,rfl,hq⟩,⟨rfl,rfl,hr⟩,trivial⟩,trivial⟩ ⟨⟨rfl,⟨rfl,rfl,fun _ _ h=>ha▸h⟩,⟨rfl,rfl,fun _ _ h=>hb▸h⟩,⟨rfl,rfl,fun _ _ h=>by rw [h0];exact toR hX h⟩,⟨rfl,rfl,fun _ _ h=>by rw [h1];exact toR hY h⟩,⟨rfl,rfl,fun _ _ h=>by rw [h2,<- hD];exact h⟩,trivial⟩,trivial⟩
end
end Go.Proofs.YtbjfgffibepmkaaGreat.Sym
