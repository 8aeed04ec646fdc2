import Derived.Test.YtcdahmommonnfaaGreatDoorJ8
set_option maxRecDepth 100000
set_option maxHeartbeats 8000000
namespace Go.Proofs.YtcdahmommonnfaaGreatDoor
set_option linter.all false
open Go.Proofs.Tryz
section
variable {q:Nat}[NeZero q]
end
def smA (f:Nat->Nat):Nat->Nat
 |0=>0
 |n+1=>smA f n+f n
section
variable {q:Nat}[NeZero q]
end
section
variable {Q:Nat}[NeZero Q]
end
open Go.RowKit
theorem J4 (v f:Option Addr)(P Q G:Nat)(r:Option Addr)(w:World)(h:UT w v P Q G r f):
  Calls prog 228 #[.pointer v] w fun e w'=>e= .returned (.bool (!f.isNone))/\Below w.heap.size w w':=by
 have hf:=fun w' (hb:Below w.heap.size w w')=>Xu v P Q G r f w' (h.below hb)
 go_enter func228,ntmps228
 have sb:=Z9 w;iterate 2 go_step
 refine rp ?_;refine p_v (.bool false) (fun _=>rfl) (Za ?_);simp only[pv];iterate 3 go_step
 refine rp ?_;refine p_m ?_;simp only[pv];refine p_c 250 func250 #[.pointer v] (hf _ sb) ?_;intro z1001 k;simp only[pv];replace sb:=kk sb k;clear k;refine p_v _ (YE _ _ _ _ rfl f rfl rfl S6) ?_;refine p_a (Za ?_);simp only[pv];go_wp2;go_ret;exact⟨rfl,sb⟩
theorem Lb {fn:Func}(n:Nat)(f:FuncId)(caps:Array Value)(F:Nat->Nat)(w:World)(hf:prog.funcs[f]?=some fn)(hb0:(fn.name== "runtime.NumGoroutine" ||fn.body.isNone)=false)(hn:n<=4000)
  (hc: ∀k:Nat,k<n-> ∀w',Below w.heap.size w w'->Calls prog f (#[.int .i64 k]++caps) w' (Rt (.agg (Zc (F k))) w')):
  Calls prog 230 #[.int .i64 n,.func (.func f) #[] caps] w fun e w'=> ∃g,e= .returned (.slice (some ⟨g,0,none⟩) n n)/\w.heap.size<=g/\Row w' g (nsC n F) 39/\Below w.heap.size w w':=by
 obtain⟨ie,hie,hze,hsz,hby⟩:=YL
 go_enter func230,ntmps230
 have sb:=Z9 w;iterate 2 go_step
 refine rp ?_;refine p_v (.slice none 0 0) ((fun _=>rfl)) (Za ?_);simp only[pv];iterate 3 go_step
 refine rp ?_;refine p_m ?_;simp only[pv];refine Wn (by rfl) 54 39 _ _ rfl ie _ underlying54 hie hze n rfl rfl (by rw[hsz];omega) (by rw[hby];omega) (by omega) ?_;intro gM z1001 n0 rM k;simp only[pv];have bM:=Nat.le_trans sb.size n0;clear n0;replace sb:=kk sb k;clear k;refine p_a (Za ?_);simp only[pv];rw[hsz,WI]at rM;iterate 4 go_step
 refine rp ?_;refine p_m ?_;refine p_v (.int .i64 0) (fun _=>rfl) (Za ?_);simp only[pv]
 go_wp2_with fail
 go_loopg [6,10] n (fun g s6 s10 wr=> ∃k:Nat,k+g=n/\s10= .int .i64 k/\Row wr gM (nsC n (fun j=>if j<k then F j else 0)) 39/\Below w.heap.size w wr)
 case atStart=>exact⟨0,by omega,rfl,by rw[show(fun j=>if j<0 then F j else 0)=fun _=>0 from funext fun j=>if_neg (by omega)];exact rM,sb⟩
 case round=>
  clear rM sb;obtain⟨k,hk,rfl,rM,sb⟩:=hrel
  cases gk with
  |zero=>
   obtain rfl:k=n:=by omega
   clear hk hc;rw[XP k _ F (fun j hj=>if_pos hj)]at rM
   go_step
   refine rp ?_;refine p_v _ (Xy k k) (Za ?_);simp only[pv];iterate 8 go_step
   refine rp ?_;refine p_m ?_;refine p_a (Za ?_);simp only[pv];go_wp2;go_ret;exact⟨gM,rfl,bM,rM,sb⟩
  |succ g=>
   have hlt:k<n:=by omega
   have hput:=W8 n (fun j=>if j<k then F j else 0) (fun j=>if j<k+1 then F j else 0) k hlt (0+k*4) (by omega) (F k) (fun j hj=>by
    by_cases hjk:j=k
    ·subst hjk;rw[if_pos (by omega),if_pos rfl]
    ·rw[if_neg hjk];by_cases h2:j<k
     ·rw[if_pos h2,if_pos (by omega)]
     ·rw[if_neg h2,if_neg (by omega)])
   go_step
   refine rp ?_;refine p_v _ (XK k n) (Za ?_);simp only[pv];iterate 10 go_step
   refine rp ?_;refine p_m ?_;refine p_a (Za ?_);simp only[pv];iterate 2 go_step
   refine rp ?_;refine p_m ?_;refine p_m ?_;refine p_m ?_;refine p_m ?_;simp only[pv];refine Yd (by rfl) (f) _ _ _ rfl (caps) rfl (hf) (hb0) #[.int .i64 (k:Nat)] rfl _ (hc k hlt _ sb) ?_;intro z5004 k;simp only[pv];replace rM:=k.ro rM;replace sb:=kk sb k;clear k;refine p_x k hlt underlying54 ZU ?_;simp only[pv];refine X2 (by rfl) 39 _ _ rfl _ (0+k*4) rfl rM (Zc (F k)) rfl (by exact Ze) (by rw[Z7,Zt];omega) (ZA _) (nsC n (fun j=>if j<k+1 then F j else 0)) hput ?_;clear rM;intro z5006 rM k;simp only[Act.put];replace sb:=kk sb k;clear k;refine Za ?_;clear hput;iterate 2 go_step
   refine rp ?_;refine p_v _ (x_a k 1) ?_;refine p_m (Za ?_);simp only[pv];go_wp2
   go_roundg g
   case measure=>omega
   case rel=>exact⟨k+1,by omega,rfl,rM,sb⟩
theorem FN (v ab:Option Addr)(n c k S:Nat)(F:Nat->Nat)(g1 g2 gb ob:Nat)(bcs:Array Value)(tb:TypeId)(w:World)(hk:k<n)(r1:Row w g1 #[.pointer v] 32)(r2:Row w g2 #[.slice ab n c] 54)(hna:NatsAt w ab n F gb ob bcs tb)
  (hof: ∀w',Below w.heap.size w w'->Calls prog 232 #[.pointer v,.agg (Zc (F k))] w' (Rt (.agg (Zc S)) w')):
  Calls prog 231 #[.int .i64 k,.pointer (some ⟨g1,0,none⟩),.pointer (some ⟨g2,0,none⟩)] w fun e w'=>e= .returned (.agg (Zc S))/\Below w.heap.size w w':=by
 obtain h0|⟨rfl,rB,hbt⟩:=hna.at'
 ·exact absurd h0 (by omega)
 have hbt':=hbt k hk;have hBw:=rB.lt;have HN:Hid (NatsAt w (some ⟨gb,ob,none⟩) n F gb ob bcs tb):=hna;clear hbt rB hna
 go_enter func231,ntmps231
 iterate 2 go_step
 refine rp ?_;refine ZJ (by rfl) 39 rfl _ Zv ?_;intro g4 z0 n0 r4 k;simp only[pv];have d1x4:=l_l r1.lt n0;have d2x4:=l_l r2.lt n0;have b4:w.heap.size<=g4:=n0;clear n0;replace r1:=k.ro r1;replace r2:=k.ro r2;have sb:=k_b k;clear k;refine Za ?_;obtain h0|⟨_,rB,_⟩:=(HN.out.below sb).at'
 ·exact absurd h0 (by omega)
 iterate 3 go_step
 apply Zo (by kernel_rfl) [(g4,39,Zc 0)] [_,_,_,_,_,_,_] ⟨r4,trivial⟩ (by simp<;>omega)
 ·intro p;refine ZB 32 _ rfl _ (0) rfl r1 (by simp<;>omega) (.pointer v) rfl isAgg32 ?_;simp only[pv];refine ZB 54 _ rfl _ (0) rfl r2 (by simp<;>omega) (.slice (some ⟨gb,ob,none⟩) n c) rfl isAgg54 ?_;refine m_m ?_;simp only[pv];refine m_x k hk underlying54 ZU ?_;simp only[pv];refine Xf 39 _ rfl _ (ob+k*4) rfl rB (by simp<;>omega) (Zc (F k)) hbt' _ underlying39 rfl Ze ?_;simp only[pv];refine m_k 232 func232 #[.pointer v,.agg (Zc (F k))] (fun w' hk=>hof w' (sb.trans (hk.below w.heap.size sb.size (by simp<;>omega)))) ?_;simp only[pv];refine m_p 0 S ?_;simp only[Act.put];refine Zi ?_;intro w2 hkw hrw hnew hdis;have zr4:Row w2 (g4) (Zc S) 39:=hrw 0 (39,Zc S) rfl;replace sb:=kk sb hkw;clear hkw hrw hnew hdis r4;have r4:=zr4;clear zr4;go_wp2;exact ZX rfl _ rfl r4 4 _ underlying39 (by exact Ze) rfl ⟨rfl,sb⟩
 ·kernel_rfl
section
variable {Q:Nat}[NeZero Q]{g gr gf P G:Nat}{w:World}
theorem BD (ab:Option Addr)(m c:Nat)(La:List (Fin Q))(q:FdQ Q)(h:GrpAt w g gr gf P Q G)(ha:PlA w (.slice ab m c) La):
  Calls prog 229 #[.pointer (some ⟨g,0,none⟩),.slice ab m c] w fun e w'=> ∃gT N,e= .returned (.slice (some ⟨gT,0,none⟩) (YM La).length N)/\w.heap.size<=gT/\(YM La).length<=N/\N<=1000/\Row w' gT (nsC N (fun i=>(pco La i).val)) 39/\Below w.heap.size w w':=by
 obtain⟨ab',n,c',F,gb,ob,bcs,tb,he,hn,hna,rfl⟩:=ha;cases he
 refine(JO _ ab m c F (fO Q) gb ob bcs tb w (by omega) hna (h.fa q)).mono ?_;rintro e w' ⟨gx,rfl,hg,r,hb⟩;obtain⟨gT,N,he,h1,h2,h3⟩:=DD (L:=(fl m F:List (Fin Q))) r hg (fun i _=>Dx F i) (fun i=>by rw[Dw]);simp only[Value.slice.injEq,Option.some.injEq,Addr.mk.injEq,and_true,true_and]at he;obtain⟨rfl,h4,rfl⟩:=he;rw[h4];simp only[Wa]at h3;exact⟨gx,m,rfl,h1,h2,hn,h3,hb⟩
theorem BE (ab:Option Addr)(m c:Nat)(La:List (Fin Q))(n:Nat)(h1:1<=n)(h7:n<=7)(hl0:(YM La).length<=n)(q:FdQ Q)(qp:RgQ P)(hG:G<2^256)(h:GrpAt w g gr gf P Q G)(ha:PlA w (.slice ab m c) La):
  Calls prog 202 #[.pointer (some ⟨g,0,none⟩),.slice ab m c,.int .i64 n] w fun e w'=> ∃gC,e= .returned (.tuple #[.slice (some ⟨gC,0,none⟩) n n,.int .i64 0])/\w.heap.size<=gC/\Row w' gC (nsC n (fun k=>G^(pco La k).val%P)) 39/\Below w.heap.size w w':=by
 have htr:=fun w' (hb:Below w.heap.size w w')=>BD ab m c La q (h.below hb) (ha.below hb)
 obtain⟨U,hU⟩: ∃U:Nat->Nat,∀i,(pco La i).val=U i:=⟨_,fun _=>rfl⟩
 obtain⟨tl,htl⟩: ∃tl,(YM La).length=tl:=⟨_,rfl⟩
 have hg:=fun w' (hb:Below w.heap.size w w')=>J4 (some ⟨g,0,none⟩) (some ⟨gf,0,none⟩) P Q G (some ⟨gr,0,none⟩) w' (h.below hb).kn
 have HUl:Hid (∀i,U i<2^256):=fun i=>hU i▸Nat.lt_trans (pco La i).isLt q.m
 have HU0:Hid (∀i,tl<=i->U i=0):=fun i hi=>by
  rw[<-hU,<-Wa,TT _ i (by omega)];rfl
 have hof:=fun k w' (hb:Below w.heap.size w w')=>DO (U k) g gr gf P Q G w' (HUl.out k) hG qp (h.below hb)
 simp only[hU,htl]at htr ⊢;rw[htl]at hl0;clear ha hU htl
 go_enter func202,ntmps202
 have sb:=Z9 w;iterate 2 go_step
 refine rp ?_;refine Y4 (by rfl) 32 _ rfl (.pointer (some ⟨g,0,none⟩)) rfl rfl ?_;intro g3 z0 n0 r3 k;simp only[pv];clear n0;replace sb:=kk sb k;clear k;refine Y4 (by rfl) 54 _ rfl (.slice ab m c) rfl rfl ?_;intro g4 z1 n0 r4 k;simp only[pv];have d3x4:=l_l r3.lt n0;have b4:=Nat.le_trans sb.size n0;clear n0;replace r3:=k.ro r3;replace sb:=kk sb k;clear k;refine p_v (.slice none 0 0) ((fun _=>rfl)) ?_;refine p_v (.int .i64 0) (fun _=>rfl) (Za ?_);simp only[pv];iterate 4 go_step
 refine rp ?_;refine p_d 0 r3.r (.pointer (some ⟨g,0,none⟩)) rfl isAgg32 ?_;simp only[pv];refine p_c 228 func228 #[.pointer (some ⟨g,0,none⟩)] (hg _ sb) ?_;intro z1001 k;simp only[pv];replace r3:=k.ro r3;replace r4:=k.ro r4;replace sb:=kk sb k;clear k;refine p_v _ (Zp _ _ rfl true rfl) ?_;refine p_m ?_;refine p_m ?_;refine p_v _ (Xy n 1) ?_;refine p_k false (.bool false) ?_;simp only[pv];refine p_m ?_;refine p_m ?_;refine p_v _ (Qe n 7) ?_;refine p_k false (.bool false) (Za ?_);simp only[pv];clear hg;iterate 7 go_step
 refine rp ?_;refine p_d 0 r3.r (.pointer (some ⟨g,0,none⟩)) rfl isAgg32 ?_;simp only[pv];refine p_d 0 r4.r (.slice ab m c) rfl isAgg54 ?_;simp only[pv];refine p_f 229 func229 #[.pointer (some ⟨g,0,none⟩),.slice ab m c] (htr _ sb) ?_;rintro _ z3002 ⟨gT,N,rfl,nT,hl,hN,rT,hb⟩;refine⟨_,rfl,?_⟩;simp only[pv];have d3xT:=l_l r3.lt nT;have d4xT:=l_l r4.lt nT;have bT:=Nat.le_trans sb.size nT;clear nT;have k:=Kept.ofBelow hb;clear hb;replace r3:=k.ro r3;replace r4:=k.ro r4;replace sb:=kk sb k;clear k;refine Yj (by rfl) 54 _ _ rfl _ (0) rfl r4 (.slice (some ⟨gT,0,none⟩) tl N) rfl rfl rfl Ws (by exact Nat.one_pos) (#[.slice (some ⟨gT,0,none⟩) tl N]) rfl ?_;clear r4;intro z3003 r4 k;simp only[Act.put];replace r3:=k.ro r3;replace rT:=k.ro rT;replace sb:=kk sb k;clear k;refine Za ?_;clear htr;iterate 4 go_step
 refine rp ?_;refine p_d 0 r4.r (.slice (some ⟨gT,0,none⟩) tl N) rfl isAgg54 ?_;simp only[pv];refine p_v _ (n_l (some ⟨gT,0,none⟩) tl N ZN) ?_;refine p_m ?_;refine p_v _ (Qe tl n) (Za ?_);simp only[pv];have hO:=JT (m:=tl) rT bT hl hN;iterate 7 go_step
 refine rp ?_;refine p_d 0 r4.r (.slice (some ⟨gT,0,none⟩) tl N) rfl isAgg54 ?_;refine p_m ?_;simp only[pv];refine p_d 0 r4.r (.slice (some ⟨gT,0,none⟩) tl N) rfl isAgg54 ?_;simp only[pv];refine p_v _ (n_l (some ⟨gT,0,none⟩) tl N ZN) ?_;simp only[pv];refine p_v (.int .i64 ((n-tl:Nat):Int)) ((fun w'=>(ZT _ _ _ _ rfl n tl rfl rfl (by omega) (by omega) w'))) ?_;simp only[pv];refine FF (by rfl) _ _ rfl (w.heap.size) gT (N) (tl) (U) rfl hO (n-tl) rfl ((fun i _=>HU0.out _ (by omega))) ((by omega)) sb.size ?_;clear hO rT;intro v1 z6005 hO k hp;obtain⟨av1,cv1,rfl⟩:=YW hO;simp only[pv];have ehOx4:=DE hp (show g4≠gT by omega) r4.lt;clear hp;replace r3:=k.ro r3;replace r4:=k.ro r4;replace sb:=kk sb k;clear k;refine Yj (by rfl) 54 _ _ rfl _ (0) rfl r4 (.slice av1 (tl+(n-tl)) cv1) rfl rfl rfl Ws (by exact Nat.one_pos) (#[.slice av1 (tl+(n-tl)) cv1]) rfl ?_;clear r4;intro z6006 r4 k;simp only[Act.put];replace r3:=k.ro r3;replace hO:=hO.on k (VL ehOx4);replace sb:=kk sb k;clear k;refine Za ?_;rw[show tl+(n-tl)=n by omega]at hO r4 ⊢;obtain⟨_,gc,cur,hnc⟩:=UC hO (fun i _=>HUl.out i);clear hO ehOx4;have hto:=fun w' (hb:Below w.heap.size w w') (q3:Row w' g3 #[.pointer (some ⟨g,0,none⟩)] 32) (q4:Row w' g4 #[.slice av1 n cv1] 54) (hn':NatsAt w' av1 n U gc 0 cur 39)=>Lb n 231 #[.pointer (some ⟨g3,0,none⟩),.pointer (some ⟨g4,0,none⟩)] (fun k=>G^U k%P) w' func231 (by kernel_rfl) (by omega) (fun k hk w2 hb2=>FN _ av1 n cv1 k (G^U k%P) U g3 g4 gc 0 cur 39 w2 hk (q3.belowAll hb2) (q4.belowAll hb2) (hn'.below hb2) (fun w3 hb3=>hof k w3 (Zk (Zk hb (Nat.le_refl _) hb2) (Nat.le_refl _) hb3)))
 clear hof;iterate 3 go_step
 refine rp ?_;refine p_m ?_;simp only[pv];refine p_v (.func (.func 231) #[] #[.pointer (some ⟨g3,0,none⟩),.pointer (some ⟨g4,0,none⟩)]) (YG _ _ rfl _ rfl) ?_;simp only[pv];refine p_f 230 func230 #[.int .i64 n,.func (.func 231) #[] #[.pointer (some ⟨g3,0,none⟩),.pointer (some ⟨g4,0,none⟩)]] (hto _ sb r3 r4 hnc) ?_;rintro _ z7002 ⟨gC,rfl,nC,rC,hb⟩;refine⟨_,rfl,?_⟩;simp only[pv];have bC:=Nat.le_trans sb.size nC;clear nC;have k:=Kept.ofBelow hb;clear hb;replace r3:=k.ro r3;replace r4:=k.ro r4;replace hnc:=hnc.below k.nil;replace sb:=kk sb k;clear k;refine p_a ?_;refine p_v (.int .i64 0) (fun _=>rfl) (Za ?_);simp only[pv];go_wp2;go_ret2;exact⟨gC,rfl,bC,rC,sb⟩
end
theorem J5 {fn:Func}(ab:Option Addr)(n c:Nat)(Y:Nat->Nat)(gb ob:Nat)(bcs:Array Value)(tb:TypeId)(f:FuncId)(caps:Array Value)(B:Nat->Bool)(w:World)(hf:prog.funcs[f]?=some fn)(hb0:(fn.name== "runtime.NumGoroutine" ||fn.body.isNone)=false)(hn:n<4611686018427387904)(hna:NatsAt w ab n Y gb ob bcs tb)
  (hc: ∀k:Nat,k<n-> ∀w',Below w.heap.size w w'->Calls prog f (#[.agg (Zc (Y k))]++caps) w' (Rt (.bool (B k)) w')):
  Calls prog 249 #[.slice ab n c,.func (.func f) #[] caps] w fun e w'=> ∃z:Int,e= .returned (.int .i64 z)/\decide (0<=z)=anB B n/\Below w.heap.size w w':=by
 have HB:Hid (NatsAt w ab n Y gb ob bcs tb):=hna;clear hna
 go_enter func249,ntmps249
 have sb:=Z9 w;iterate 2 go_step
 refine rp ?_;refine p_v (.int .i64 0) (fun _=>rfl) (Za ?_);simp only[pv];iterate 4 go_step
 refine rp ?_;refine p_m ?_;simp only[pv];refine p_v _ (n_l ab n c ZN) ?_;refine p_v (.int .i64 0) (fun _=>rfl) (Za ?_);simp only[pv]
 go_wp2_with fail
 go_loopg [5,8] n (fun x s5 s8 wr=> ∃k:Nat,k+x=n/\s8= .int .i64 k/\anB B k=false/\Below w.heap.size w wr)
 case atStart=>exact⟨0,by omega,rfl,rfl,sb⟩
 case round=>
  clear sb;obtain⟨k,hk,rfl,han,sb⟩:=hrel
  cases gk with
  |zero=>
   obtain rfl:k=n:=by omega
   have HF:Hid (anB B k=false):=han;clear hk hc han
   go_step
   refine rp ?_;refine p_v _ (Xy k k) (Za ?_);simp only[pv];iterate 8 go_step
   refine rp ?_;refine p_v (.int .i64 (-1)) ((fun _=>rfl)) (Za ?_);simp only[pv];go_wp2;go_ret;exact⟨_,rfl,by rw[HF.out];rfl,sb⟩
  |succ x=>
   have hlt:k<n:=by omega
   have hck:=hc k hlt;clear hc;obtain h0|⟨rfl,rB,hbt⟩:=(HB.out.below sb).at'
   ·exact absurd h0 (by omega)
   have hbt':=hbt k hlt;clear hbt
   go_step
   refine rp ?_;refine p_v _ (XK k n) (Za ?_);simp only[pv];iterate 10 go_step
   refine rp ?_;refine p_m ?_;refine p_a (Za ?_);simp only[pv]
   cases hBk:B k with
   |true=>
    have HF:Hid (anB B n=true):=(UF B n).2 ⟨k,hlt,hBk⟩;rw[hBk]at hck;iterate 3 go_step
    refine rp ?_;refine p_m ?_;refine p_m ?_;refine p_m ?_;simp only[pv];refine p_x k hlt underlying54 ZU ?_;simp only[pv];refine Zf (by rfl) 39 _ rfl _ (ob+k*4) rfl rB (Zc (Y k)) hbt' _ underlying39 rfl Ze ?_;simp only[pv];refine Yd (by rfl) (f) _ _ _ rfl (caps) rfl (hf) (hb0) #[.agg (Zc (Y k))] rfl _ (hck _ sb) ?_;intro z4005 k;simp only[pv];replace sb:=kk sb k;clear k;refine Za ?_;clear rB;iterate 4 go_step
    refine rp ?_;refine p_m ?_;refine p_a (Za ?_);simp only[pv];go_wp2;go_ret;exact⟨_,rfl,by rw[HF.out];exact decide_eq_true (by omega),sb⟩
   |false=>
    have hnx:anB B (k+1)=false:=by
     show(anB B k||B k)=false
     rw[han,hBk];rfl
    rw[hBk]at hck;iterate 3 go_step
    refine rp ?_;refine p_m ?_;refine p_m ?_;refine p_m ?_;simp only[pv];refine p_x k hlt underlying54 ZU ?_;simp only[pv];refine Zf (by rfl) 39 _ rfl _ (ob+k*4) rfl rB (Zc (Y k)) hbt' _ underlying39 rfl Ze ?_;simp only[pv];refine Yd (by rfl) (f) _ _ _ rfl (caps) rfl (hf) (hb0) #[.agg (Zc (Y k))] rfl _ (hck _ sb) ?_;intro z4005 k;simp only[pv];replace sb:=kk sb k;clear k;refine Za ?_;clear rB;iterate 6 go_step
    refine rp ?_;refine p_v _ (x_a k 1) ?_;refine p_m (Za ?_);simp only[pv];go_wp2
    go_roundg x
    case measure=>omega
    case rel=>exact⟨k+1,by omega,rfl,hnx,sb⟩
theorem J6 {fn:Func}(ab:Option Addr)(n c:Nat)(Y:Nat->Nat)(gb ob:Nat)(bcs:Array Value)(tb:TypeId)(f:FuncId)(caps:Array Value)(B:Nat->Bool)(w:World)(hf:prog.funcs[f]?=some fn)(hb0:(fn.name== "runtime.NumGoroutine" ||fn.body.isNone)=false)(hn:n<4611686018427387904)(hna:NatsAt w ab n Y gb ob bcs tb)
  (hc: ∀k:Nat,k<n-> ∀w',Below w.heap.size w w'->Calls prog f (#[.agg (Zc (Y k))]++caps) w' (Rt (.bool (B k)) w')):
  Calls prog 224 #[.slice ab n c,.func (.func f) #[] caps] w fun e w'=>e= .returned (.bool (anB B n))/\Below w.heap.size w w':=by
 have hix:=fun w' (hb:Below w.heap.size w w')=>J5 ab n c Y gb ob bcs tb f caps B w' hf hb0 hn (hna.below hb) (fun k hk w2 h2=>hc k hk w2 (Zk hb (Nat.le_refl _) h2))
 clear hna hc
 go_enter func224,ntmps224
 have sb:=Z9 w;iterate 2 go_step
 refine rp ?_;refine p_v (.bool false) (fun _=>rfl) (Za ?_);simp only[pv];iterate 3 go_step
 refine rp ?_;refine p_m ?_;refine p_m ?_;simp only[pv];refine p_f 249 func249 #[.slice ab n c,.func (.func f) #[] caps] (hix _ sb) ?_;rintro _ z1002 ⟨z,rfl,hz,hb⟩;refine⟨_,rfl,?_⟩;simp only[pv];have k:=Kept.ofBelow hb;clear hb;replace sb:=kk sb k;clear k;refine p_v _ (ZG _ _ _ _ rfl z 0 rfl rfl (anB B n) hz) ?_;refine p_a (Za ?_);simp only[pv];go_wp2;go_ret;exact⟨rfl,sb⟩
def Zx (I:Nat->Int):Nat->Int
 |0=>0
 |j+1=>I j
def oOf (n:Nat):Nat:=if n+1=1 then 0 else 0+1*4
structure GF (P Q G:Nat):Prop where
 pP:IsP P
 pQ:IsP Q
 rP:RgQ P
 rQ:FdQ Q
 lt:G<P
 n0:G≠0
 n1:G≠1
 ord:G^Q%P=1
 big:512<=Q
theorem BF {n:Nat}{N:Nat->Nat}{A:Nat->Int}{G:Nat}(h:grN n N A G=true)(hl: ∀i,i<n->N i<2^256):GF (N (n-1)) (N (n-2)) G:=by
 obtain⟨h2,_,h5,h0,h1,hG,ho⟩:=(Qd n N A G).1 h;obtain⟨pP,pQ⟩:=OD h;exact⟨pP,pQ,⟨hl _ (by omega),TS pP (by omega),pP.1⟩,⟨⟨hl _ (by omega),TS pQ (by omega),pQ.1⟩,pQ⟩,hG,h0,h1,ho,h5⟩
def cAt (P:Nat)(C:Nat->Nat)(n:Nat)(i:Int):Nat:=if 0<=i/\i<=7/\n<=7 then prd (fun j=>C j^(i.toNat^j)) n%P else 0
def AR (P Q:Nat)(C:Nat->Nat)(n:Nat):Bool:=decide (1<=n)&&decide (n<=7)&& !anB (fun k=> !AQ P Q (C k)) n
def cHol (P Q G:Nat)(C:Nat->Nat)(n:Nat)(i:Int)(Y:Nat):Bool:=decide (1<=i)&&decide (i<=7)&&decide (Y<Q)&&(decide (G^Y%P=cAt P C n i)&&AR P Q C n)
section
variable {Q:Nat}[NeZero Q]{g gr gf P G:Nat}{w:World}{ab:Option Addr}{n c:Nat}{C:Nat->Nat}{gb ob:Nat}{bcs:Array Value}{tb:TypeId}
def Zn (I:Nat->Nat):Nat->Nat
 |0=>0
 |j+1=>I j
def frS (P Q G A:Nat)(W:Nat->Nat->Nat)(Y:Nat->Nat)(n j:Nat):Nat:=A^W j 0*G^Bp (fun i=>W j (i+1)) Y Q n%P
variable {A:Nat}{I:Nat->Int}{Y:Nat->Nat}
end
def coF:List (Fin 1966023127):=[fi 5,fi 2]
end Go.Proofs.YtcdahmommonnfaaGreatDoor
