import Derived.Test.YtcdahmommonnfaaGreatDoorJ11
set_option maxRecDepth 100000
set_option maxHeartbeats 8000000
namespace Go.Proofs.YtcdahmommonnfaaGreatDoor
set_option linter.all false
open Go.RowKit
open Go.Proofs.Tryz
section
variable {P:Program}{ops:Array Oper}{Q:Act->World->Prop}{C:World->Prop}{fn:Nat->Bool}{L:List (Nat×Oper×Bool)}{i:Nat}{o:Oper}{a:Act}{w:World}{ρ:Operand->Value}
theorem Sd (t:TypeId)(x y:Operand)(u:TypeId)(ho:o.op= .binOp .eql t x y u)(b:Addr)(n c:Nat)(hx:ρ x= .slice (some b) n c)(hy:ρ y= .slice none 0 0)(e:TypeId)(ht:P.underlying t=some (.slice e))(w:World):
  (execOp ρ o).run P w= .ok (.value (.bool false)) w:=by
 have h: ∀d:Nat,(Op.equalIn (d+1) t (.slice (some b) n c) (.slice none 0 0)).run P w= .ok false w:=fun d=>by
  simp[Op.equalIn,run_underlying ht]
 unfold execOp;simp only[ho,hx,hy];simp[eqGuard,binOp,Op.equal,Op.maxDepth,h 9999]
theorem Kept.more {S T:List Nat}{w w2:World}(h:Kept S w w2)(hs: ∀g∈S,g∈T):Kept T w w2:=⟨h.os,h.tape,h.output,h.size,fun b hb hn=>h.block b hb fun hm=>hn (hs b hm)⟩
theorem LS (hw:Region.wanted o (yielded ops a.tmps)=true)(ty:TypeId)(x y:Operand)(ho:o.op= .store ty x y)(g:Nat)(hx:a.eval x= .pointer (some ⟨g,0,none⟩)){t:TypeId}{old:Array Value}(hg:Row w g old t)(c:Array Value)(hy:a.eval y= .agg c)
  (hi:(P.info? ty).map (·.size)=some c.size)(hold:old.size=c.size)(h1:c.all (·.oneCell')=true)
  (h: ∀w2,Below w.heap.size w w2-> ∀w3,Row w3 g c t->Kept [g] w2 w3->(fn i=false->C w3)/\EW P ops C Q fn L (a.put o.dst undef) w3):EW P ops C Q fn ((i,o,true)::L) a w:=by
 refine VK hw fun w2 hb=>?_
 have hg2:=hg.belowAll hb
 have hr:(execOp a.eval o).run P w2= .ok .skip (w2.setRow g c):=by
  unfold execOp;simp only[ho,hx,hy,Instr.storeAt,Instr.sureAddr,Sem.run_bind,Sem.run_pure,Result.andThen_ok,run_storeVar_row w2 _ t ty old c hg2 hi hold h1]
 rw[hr];exact h w2 hb _ (hg2.setRow _) (XO (W2 _ _ _))
end
theorem IG {w:World}{base g:Nat}(r:Row w g #[] 39)(hb:base<=g):w.ownsRow base 39 4 (.slice (some ⟨g,0,none⟩) 0 0) 0 []:=
 ⟨rfl,.inr ⟨g,0,#[],rfl,hb,r,Nat.le_refl _,by unfold maxLen;omega,rfl,rfl⟩⟩
theorem LT (g m:Nat)(f:Nat->Nat)(w:World)(r1:Row w g (nsC m f) 39)(hm:m<=1000):
  Calls prog 107 #[.slice (some ⟨g,0,none⟩) m m] w fun e w'=> ∃a n c,e= .returned (.slice a n c)/\Below w.heap.size w w':=by
 obtain⟨ie,hie,hz,hsz,hby⟩:=YL
 go_enter func107,ntmps107
 have sb:=Z9 w;iterate 2 go_step
 refine rp ?_;refine p_v (.slice none 0 0) (fun _=>rfl) (Za ?_);simp only[pv];iterate 4 go_step
 refine rp ?_;refine p_m ?_;simp only[pv];refine p_v _ (Sd 54 _ _ _ rfl ⟨g,0,none⟩ m m rfl rfl _ underlying54) (Za ?_);simp only[pv];iterate 7 go_step
 refine rp ?_;refine FD (by rfl) 54 39 rfl ie underlying54 hie ?_;intro gY z3000 n0 rY k;simp only[pv];have d1xY:=l_l r1.lt n0;have bY:=Nat.le_trans sb.size n0;clear n0;replace r1:=k.ro r1;replace sb:=kk sb k;clear k;refine p_m ?_;simp only[pv];refine JS (by rfl) _ _ 54 rfl w.heap.size 39 ie _ 4 32 underlying54 hie hz hsz hby rfl (by decide) (.slice (some ⟨gY,0,none⟩) 0 0) 0 [] rfl (IG rY bY) g m m rfl r1 (by rw[Z7];omega) (Qs _ _) (by unfold maxLen;omega) (by omega) sb.size ?_;intro v1 z3002 hO k3;simp only[pv];obtain⟨a1,c1,rfl⟩:=YW hO;replace sb:=sb.trans (k3.below w.heap.size sb.size (by simp[Value.ownBlock];omega));clear k3;refine p_a (Za ?_);simp only[pv];go_wp2;go_ret;exact⟨_,_,_,rfl,sb⟩
theorem Hz:prog.underlying 53=some (.slice (prog.elem 53)):=by kernel_rfl
theorem RB:(prog.info? 54).map (·.size)=some 1:=by kernel_rfl
theorem IH: ∃i,prog.info? 54=some i/\i.zero=some (.slice none 0 0)/\i.size=1/\i.bytes=24:=by
 have h:(prog.info? 54).map (fun i=>(i.zero,i.size,i.bytes))=some (some (.slice none 0 0),1,24):=by kernel_rfl
 cases e:prog.info? 54 with
 |none=>rw[e]at h;cases h
 |some i=>rw[e]at h;simp at h;exact⟨i,rfl,h.1,h.2.1,h.2.2⟩
theorem F8 (gM n K:Nat)(R:Nat->Nat)(M:Nat->Nat->Nat)(bs:Nat)(w:World)(r1:Row w gM (vsC n (fun j=>.slice (some ⟨R j,0,none⟩) K K)) 54)(hF:FamAt w bs K R M n)(hn:n<=1000)(hK:K<=1000):
  Calls prog 106 #[.slice (some ⟨gM,0,none⟩) n n] w fun e w'=> ∃a m c,e= .returned (.slice a m c)/\Below w.heap.size w w':=by
 obtain⟨is',his,hzs,hszs,hbys⟩:=IH;have HF:Hid (FamAt w bs K R M n):=hF;clear hF
 go_enter func106,ntmps106
 have sb:=Z9 w;iterate 2 go_step
 refine rp ?_;refine p_v (.slice none 0 0) (fun _=>rfl) (Za ?_);simp only[pv];iterate 3 go_step
 refine rp ?_;refine p_m ?_;simp only[pv];refine p_v _ (n_l (some ⟨gM,0,none⟩) n n Hz) ?_;simp only[pv];refine Wn (by rfl) 53 54 _ _ rfl is' _ underlying53 his hzs n rfl rfl (by rw[hszs];omega) (by rw[hbys];omega) (by omega) ?_;intro gO z1002 n0 rO k;simp only[pv];have d1xO:=l_l r1.lt n0;have bO:=Nat.le_trans sb.size n0;clear n0;replace r1:=k.ro r1;replace sb:=kk sb k;clear k;refine p_a (Za ?_);simp only[pv];have hgO:w.heap.size<=gO:=by omega
 obtain⟨C,hC,rO⟩: ∃C:Array Value,C.size=n/\Row z1002 gO C 54:=⟨_,by rw[hszs];simp[madeCells],rO⟩
 iterate 4 go_step
 refine rp ?_;refine p_m ?_;simp only[pv];refine p_v _ (n_l (some ⟨gM,0,none⟩) n n Hz) ?_;refine p_v (.int .i64 0) (fun _=>rfl) (Za ?_);simp only[pv]
 go_wp2_with fail
 go_loopg [4,10] n (fun x s4 s10 wr=> ∃(k:Nat) (C:Array Value),k+x=n/\s10= .int .i64 k/\C.size=n/\Row wr gO C 54/\Row wr gM (vsC n (fun j=>.slice (some ⟨R j,0,none⟩) K K)) 54/\Below w.heap.size w wr)
 case atStart=>exact⟨0,C,by omega,rfl,hC,rO,r1,sb⟩
 case round=>
  clear sb r1 rO hC;obtain⟨k,C,hk,rfl,hC,rO,r1,sb⟩:=hrel
  cases gk with
  |zero=>
   obtain rfl:k=n:=by omega
   clear hk
   go_step
   refine rp ?_;refine p_v _ (Xy ((k:Nat)) ((k:Nat))) (Za ?_);simp only[pv];iterate 8 go_step
   refine rp ?_;refine p_m ?_;refine p_a (Za ?_);simp only[pv];go_wp2;go_ret;exact⟨_,_,_,rfl,sb⟩
  |succ y=>
   have hlt:k<n:=by omega
   have hcl:(vsC n (fun j=>Value.slice (some ⟨R j,0,none⟩) K K))[0+k*1]?=some (.slice (some ⟨R k,0,none⟩) K K):=by
    rw[show 0+k*1=k by omega];exact X5 _ hlt
   go_step
   refine rp ?_;refine p_v _ (XK ((k:Nat)) ((n:Nat))) (Za ?_);simp only[pv];iterate 10 go_step
   refine rp ?_;refine p_m ?_;refine p_a (Za ?_);simp only[pv];iterate 2 go_step
   refine rp ?_;refine p_m ?_;refine p_m ?_;refine p_m ?_;refine p_m ?_;simp only[pv];refine p_x k hlt underlying53 sizeOf54 ?_;simp only[pv];refine p_d (0+k*1) r1.r (.slice (some ⟨R k,0,none⟩) K K) hcl isAgg54 ?_;simp only[pv];refine p_f 107 func107 #[.slice (some ⟨R k,0,none⟩) K K] (LT (R k) K (M k) _ ((HF.out.below sb).row k hlt) hK) ?_;rintro _ z5006 ⟨a1,n1,c1,rfl,hb⟩;refine⟨_,rfl,?_⟩;simp only[pv];replace r1:=r1.belowAll hb;replace rO:=rO.belowAll hb;replace sb:=sb.trans ((Kept.ofBelow hb).below w.heap.size sb.size (by simp));clear hb;refine p_x k hlt underlying53 sizeOf54 ?_;simp only[pv];refine Yj (by rfl) 54 _ _ rfl _ (0+k*1) rfl rO (.slice a1 n1 c1) rfl rfl rfl RB (by rw[hC];omega) _ rfl ?_;clear rO;intro z5008 rO k3;simp only[Act.put];replace r1:=k3.row r1 (by have:=rO.lt;have:=r1.lt;simp;intro e;subst e;omega);replace sb:=sb.trans (k3.below w.heap.size sb.size (by simp;omega));clear k3;refine Za ?_;iterate 2 go_step
   refine rp ?_;refine p_v _ (x_a k 1) ?_;refine p_m (Za ?_);simp only[pv];go_wp2
   go_roundg y
   case measure=>omega
   case rel=>exact⟨k+1,_,by omega,rfl,by simpa using hC,rO,r1,sb⟩
structure GvX (w:World)(base n T gM gT:Nat)(R Y:Nat->Nat)(M S:Nat->Nat->Nat):Prop where
 rM:Row w gM (vsC n (fun j=>.slice (some ⟨R j,0,none⟩) (T+1) (T+1))) 54
 fM:FamAt w base (T+1) R M n
 rT:Row w gT (esC 2 (3*T+1) (fun j=>ptC ((j+1:Nat):Int) (.slice (some ⟨Y j,0,none⟩) n n))) 84
 fT:FamAt w base n Y S (3*T+1)
 lM:base<=gM
 lT:base<=gT
theorem GvX.on {w w2:World}{base n T gM gT:Nat}{R Y:Nat->Nat}{M S:Nat->Nat->Nat}(h:GvX w base n T gM gT R Y M S){A:List Nat}(k:Kept A w w2)(hA: ∀b∈A,b<w.heap.size->b<base):GvX w2 base n T gM gT R Y M S:=by
 have hn: ∀x,base<=x->x<w.heap.size->x∉A:=fun x h1 h2 hx=>by have:=hA x hx h2;omega
 exact⟨k.row h.rM (hn _ h.lM h.rM.lt),h.fM.on k (fun j hj=>hn _ (h.fM.low j hj) (h.fM.lt hj)),k.row h.rT (hn _ h.lT h.rT.lt),h.fT.on k (fun j hj=>hn _ (h.fT.low j hj) (h.fT.lt hj)),h.lM,h.lT⟩
theorem GvX.below {w w2:World}{base n T gM gT:Nat}{R Y:Nat->Nat}{M S:Nat->Nat->Nat}(h:GvX w base n T gM gT R Y M S)(hb:Below w.heap.size w w2):GvX w2 base n T gM gT R Y M S:=h.on (Kept.ofBelow hb) (by simp)
theorem GvX.base {w:World}{base b2 n T gM gT:Nat}{R Y:Nat->Nat}{M S:Nat->Nat->Nat}(h:GvX w base n T gM gT R Y M S)(hb:b2<=base):GvX w b2 n T gM gT R Y M S:=
 ⟨h.rM,⟨h.fM.row,h.fM.dis,fun j hj=>Nat.le_trans hb (h.fM.low j hj)⟩,h.rT,⟨h.fT.row,h.fT.dis,fun j hj=>Nat.le_trans hb (h.fT.low j hj)⟩,Nat.le_trans hb h.lM,Nat.le_trans hb h.lT⟩
theorem F9 (p b k:Nat)(a:Int)(gp:Option Addr)(T:Nat)(cl op:Int)(key:List UInt8)(nm:Value)(tl:Nat->Int)(an:Nat->Bool)(sq sc:Int)(gM gT n:Nat){base:Nat}{R Y:Nat->Nat}{M S:Nat->Nat->Nat}(w:World)(r1:Row w p (wtC a (.pointer gp) (T:Nat) cl op key nm tl an sq sc (.slice (some ⟨gM,0,none⟩) n n) (.slice (some ⟨gT,0,none⟩) (3*T+1) (3*T+1))) 99)(r2:Row w b #[.pointer (some ⟨p,0,none⟩)] 27)(hG:GvX w base n T gM gT R Y M S)(hT:T<=2)(hn:n<=1000)(hk:k<3*T+1):
  Calls prog 105 #[.int .i64 ((k+1:Nat):Int),.pointer (some ⟨b,0,none⟩)] w fun e w'=> ∃sq sc a1 n1 c1 a2 n2 c2,e= .returned (.agg (msC 4 0 [] sq sc [] a1 n1 c1 a2 n2 c2))/\Below w.heap.size w w':=by
 go_enter func105,ntmps105
 have sb:=Z9 w;iterate 2 go_step
 refine rp ?_;refine ZJ (by rfl) 56 rfl _ Wu ?_;intro g3 z0 n0 r3 k;simp only[pv];have d1x3:=l_l r1.lt n0;have d2x3:=l_l r2.lt n0;have b3:=Nat.le_trans sb.size n0;clear n0;replace r1:=k.ro r1;replace r2:=k.ro r2;replace hG:=hG.below k.nil;replace sb:=kk sb k;clear k;refine Za ?_
 have hcl:(esC 2 (3*T+1) (fun j=>ptC ((j+1:Nat):Int) (.slice (some ⟨Y j,0,none⟩) n n)))[0+k*2+1]?=some (.slice (some ⟨Y k,0,none⟩) n n):=by
  rw[show 0+k*2+1=k*2+1 by omega,Vb (k:=2) (fun _=>rfl) k 1 hk (by decide)];rfl
 have cb:=Below.refl z0.heap.size z0;iterate 3 go_step
 refine Ys (by kernel_rfl) [20] [(0,false),(1,false),(2,false),(3,false),(4,false),(5,false),(6,false),(7,false),(9,false),(10,false),(11,false),(12,false),(13,false),(14,false),(15,false),(16,false),(17,false),(8,true),(18,true),(19,false),(20,true)] ?_ (by kernel_rfl);refine Yh (by rfl) 27 _ rfl _ (0) rfl (fun _ hb=>(r2.belowAll hb).r) (.pointer (some ⟨p,0,none⟩)) (rfl) isAgg27 ?_;simp only[pv];refine e_v (.pointer (some ⟨p,0,none⟩)) (Zl _ rfl p (0) rfl) ?_;simp only[pv];refine e_v (.pointer (some ⟨p,21,none⟩)) (Zb 99 _ 9 rfl p (0) rfl _ underlying99 _ rfl 1 sizeOf51) ?_;simp only[pv];refine Wq (by rfl) 51 _ rfl _ (21) rfl (fun _ hb=>(r1.belowAll hb).r) (tsC sq sc) (PZ) _ underlying51 rfl Zz ?_;simp only[pv];refine Yh (by rfl) 27 _ rfl _ (0) rfl (fun _ hb=>(r2.belowAll hb).r) (.pointer (some ⟨p,0,none⟩)) (rfl) isAgg27 ?_;simp only[pv];refine e_v (.pointer (some ⟨p,0,none⟩)) (Zl _ rfl p (0) rfl) ?_;simp only[pv];refine e_v (.pointer (some ⟨p,23,none⟩)) (Zb 99 _ 10 rfl p (0) rfl _ underlying99 _ rfl 0 sizeOf53) ?_;simp only[pv];refine Yh (by rfl) 53 _ rfl _ (23) rfl (fun _ hb=>(r1.belowAll hb).r) (.slice (some ⟨gM,0,none⟩) n n) (rfl) isAgg53 ?_;simp only[pv];refine Yh (by rfl) 27 _ rfl _ (0) rfl (fun _ hb=>(r2.belowAll hb).r) (.pointer (some ⟨p,0,none⟩)) (rfl) isAgg27 ?_;simp only[pv];refine e_v (.pointer (some ⟨p,0,none⟩)) (Zl _ rfl p (0) rfl) ?_;simp only[pv];refine e_v (.pointer (some ⟨p,24,none⟩)) (Zb 99 _ 11 rfl p (0) rfl _ underlying99 _ rfl 0 sizeOf63) ?_;simp only[pv];refine Yh (by rfl) 63 _ rfl _ (24) rfl (fun _ hb=>(r1.belowAll hb).r) (.slice (some ⟨gT,0,none⟩) (3*T+1) (3*T+1)) (rfl) isAgg63 ?_;refine e_m ?_;simp only[pv];refine e_v (.int .i64 (k:Nat)) (WZ _ _ _ _ rfl ((k+1:Nat):Int) 1 (k:Nat) rfl rfl (by omega) (by omega) (by omega)) ?_;simp only[pv];refine e_v (.pointer (some ⟨gT,0+k*2,none⟩)) (Zs 63 _ _ rfl gT 0 (3*T+1) (3*T+1) rfl k rfl hk _ underlying63 2 sizeOf84) ?_;simp only[pv];refine e_v (.pointer (some ⟨gT,0+k*2+1,none⟩)) (Zb 84 _ 1 rfl gT (0+k*2) rfl _ underlying84 _ rfl 0 sizeOf54) ?_;simp only[pv];refine Yh (by rfl) 54 _ rfl _ (0+k*2+1) rfl (fun _ hb=>((hG.below hb).rT).r) (.slice (some ⟨Y k,0,none⟩) n n) (hcl) isAgg54 ?_;simp only[pv];refine XZ (by rfl) 106 _ _ rfl func106 (by kernel_rfl) #[.slice (some ⟨gM,0,none⟩) n n] rfl ?_;intro wAa hq_wA;refine(F8 gM n (T+1) R M base _ ((hG.below hq_wA).rM) ((hG.below hq_wA).fM) hn (by omega)).mono ?_;rintro _ wA ⟨a1,n1,c1,rfl,hb_wA⟩;have hw_wA:=Zk hq_wA (Nat.le_refl _) hb_wA;refine⟨_,rfl,fun _=>hw_wA,?_⟩;simp only[pv];refine XZ (by rfl) 107 _ _ rfl func107 (by kernel_rfl) #[.slice (some ⟨Y k,0,none⟩) n n] rfl ?_;intro wBa hq_wB;refine(LT (Y k) n (S k) _ (((hG.below hw_wA).below hq_wB).fT.row k hk) hn).mono ?_;rintro _ wB ⟨a2,n2,c2,rfl,hb_wB⟩;have hw_wB:=Zk hq_wB (Nat.le_refl _) hb_wB;refine⟨_,rfl,fun _=>Zk hw_wA (Nat.le_refl _) hw_wB,?_⟩;simp only[pv];refine e_v (.agg (msC 4 0 [] sq sc [] a1 n1 c1 a2 n2 c2)) (Zm _ [(0,_),(3,_),(5,_),(6,_)] rfl [(0,.int .i64 4),(3,.agg (tsC sq sc)),(5,.slice a1 n1 c1),(6,.slice a2 n2 c2)] rfl _ (LM _ _ _ _ _ _ _ _ _)) ?_;simp only[pv];refine LS (by rfl) 56 _ _ rfl g3 rfl (r3.belowAll (Zk hw_wA (Nat.le_refl _) hw_wB)) (msC 4 0 [] sq sc [] a1 n1 c1 a2 n2 c2) rfl (by exact ZP) (by rfl) (Vw _ _ _ _ _ _ _ _ _ _ _ _) ?_;intro wd hqd we rE kE;refine⟨fun h=>(by cases h),?_⟩;simp only[Act.put];refine XY ?_;intro wz hqz;have hg3:w.heap.size<=g3:=by omega
 replace sb:=(sb.trans ((Kept.ofBelow (Zk hw_wA (Nat.le_refl _) hw_wB)).below w.heap.size sb.size (by simp))).trans ((Kept.ofBelow hqd).below w.heap.size (by have:=sb.size;have:=hw_wA.size;have:=hw_wB.size;omega) (by simp));replace sb:=(sb.trans (kE.below w.heap.size sb.size (by simp;omega)));replace sb:=sb.trans ((Kept.ofBelow hqz).below w.heap.size sb.size (by simp));go_wp2;exact YP rfl _ rfl (rE.belowAll hqz) _ underlying56 (by exact ZP) rfl ⟨_,_,_,_,_,_,_,_,rfl,sb⟩
end Go.Proofs.YtcdahmommonnfaaGreatDoor
