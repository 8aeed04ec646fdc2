import Derived.Test.YtnagnkhbamhfmaaGreatDoorUD
import Derived.Test.YtnagnkhbamhfmaaGreatDoorEW
import Derived.Test.YtnagnkhbamhfmaaGreatDoorTA
set_option maxRecDepth 100000
set_option maxHeartbeats 8000000
namespace Go.Proofs.YtnagnkhbamhfmaaGreatDoor
set_option linter.all false
open Go.RowKit
open Go.Proofs.Tryz
structure FA (w:World)(v:Option Addr)(o:FO):Prop where
 ad: ∀A B w',A<2^256->B<2^256->Below w.heap.size w w'->Calls prog 99 #[.pointer v,.agg (Zc A),.agg (Zc B)] w' (Rt (.agg (Zc (o.ad A B))) w')
 mu: ∀A B w',A<2^256->B<2^256->Below w.heap.size w w'->Calls prog 100 #[.pointer v,.agg (Zc A),.agg (Zc B)] w' (Rt (.agg (Zc (o.mu A B))) w')
 la: ∀A B,o.ad A B<2^256
 lu: ∀A B,o.mu A B<2^256
theorem FA.below {w w':World}{v:Option Addr}{o:FO}(h:FA w v o)(hb:Below w.heap.size w w'):FA w' v o:=
 ⟨fun A B w2 hA hB h2=>h.ad A B w2 hA hB (Zk hb (c_ _) h2),fun A B w2 hA hB h2=>h.mu A B w2 hA hB (Zk hb (c_ _) h2),h.la,h.lu⟩
theorem GrpAt.fa {w:World}{g gr gf P Q G:Nat}(q:FdQ Q)(h:GrpAt w g gr gf P Q G):FA w (some ⟨g,0,none⟩) (fO Q):=
 ⟨fun A B w' hA hB hb=>Jq A B g gr gf P Q G w' hA hB q (h.below hb),fun A B w' hA hB hb=>Oj A B g gr gf P Q G w' hA hB q (h.below hb),fun A B=>E_ (m_ _ q.pos) q.m,fun A B=>E_ (m_ _ q.pos) q.m⟩
theorem NoG.fa {w:World}{v:Option Addr}(h:NoG w v):FA w v nO:=
 ⟨fun A B w' hA hB hb=>Be v A B w' hA hB (h.below hb),fun A B w' hA hB hb=>Bf v A B w' (h.below hb),fun _ _=>(by show 0<2^256;decide),fun _ _=>(by show 0<2^256;decide)⟩
theorem xx {w:World}{v:Option Addr}{o:FO}(h:FA w v o)(F:Nat->Nat)(n x:Nat): ∀k,yHv o F n x k<2^256
 |0=>by show 0<_;decide
 |_+1=>h.la _ _
theorem zO {w:World}{v:Option Addr}{o:FO}(h:FA w v o)(F G:Nat->Nat)(k lo:Nat): ∀j,yCv o F G k lo j<2^256
 |0=>by show 0<_;decide
 |_+1=>h.la _ _
theorem Bp:prog.elem 22=57:=by kernel_rfl
theorem Vy (w:World):(sizeOf (prog.elem 22)).run prog w= .ok 4 w:=by rw[Bp];exact ZC w
theorem zP {P:Program}{o:Oper}{ρ:Operand->Value}(t:TypeId)(x y:Operand)(u:TypeId)(ho:o.op= .binOp .add t x y u)(n m r:Int)(hx:ρ x= .int .i64 n)(hy:ρ y= .int .i64 m)(hr:IntKind.i64.wrap (n+m)=r)(w:World):
  (execOp ρ o).run P w= .ok (.value (.int .i64 r)) w:=by
 subst hr;exact Mv t x y u ho n m hx hy w
theorem Yy:(prog.info? 22).map (·.size)=some 1:=by kernel_rfl
theorem Ox (ab:Option Addr)(n c:Nat)(F:Nat->Nat)(gb ob:Nat)(bcs:Array Value)(tb:TypeId)(w:World)(hn:n<9223372036854775808)(hc:n<=c)(hna:NatsAt w ab n F gb ob bcs tb):
  Calls prog 172 #[.slice ab n c] w fun e w'=>e= .returned (.slice ab (yTn F n) c)/\Below w.heap.size w w':=by
 have HB:Hid (NatsAt w ab n F gb ob bcs tb):=hna;clear hna
 go_enter func172,ntmps172
 have sb:=YG w;iterate 2 go_step
 refine rp ?_;refine p_v (.slice none 0 0) ((fun _=>rfl)) (Zb ?_);simp only[pv]
 go_wp2_with fail
 go_loopg [0] n (fun g s0 wr=>g<=n/\s0= .slice ab g c/\yTn F g=yTn F n/\Below w.heap.size w wr)
 case atStart=>exact⟨c_ n,rfl,rfl,sb⟩
 case round=>
  clear sb;obtain⟨hg,rfl,he,sb⟩:=hrel
  cases gk with
  |zero=>
   have HE0:Hid (yTn F n=0):=he.symm;clear he;iterate 2 go_step
   refine rp ?_;refine p_m ?_;simp only[pv];refine p_v _ (n_l ab 0 c Zm) ?_;simp only[pv];refine p_v _ (Yg _ _ _ _ rfl 0 0 rfl rfl false (e_ (by decide))) ?_;refine p_m ?_;refine p_s ?_;refine p_s ?_;refine p_s ?_;simp only[pv];refine p_s ?_;refine p_s ?_;refine p_s ?_;refine p_s ?_;refine p_s ?_;simp only[pv];refine p_k false (.bool false) (Zb ?_);simp only[pv];iterate 7 go_step
   refine rp ?_;refine p_m ?_;refine p_a (Zb ?_);simp only[pv];go_wp2;go_ret;exact⟨by rw[HE0.out];rfl,sb⟩
  |succ m=>
   obtain h0|⟨rfl,rB,hbt⟩:=(HB.out.below sb).at'
   ·exact absurd h0 (by omega)
   have hbt':=hbt m (by omega);have hlt:=HB.out.lt m (by omega);clear hbt;by_cases hz:F m=0
   ·have hd:decide (F m%2^256=0%2^256)=true:=by rw[hz];rfl
    have he':yTn F m=yTn F n:=by
     rw[<-he];show _=if F m=0 then _ else _
     rw[j_ hz]
    clear he hz;iterate 2 go_step
    refine rp ?_;refine p_m ?_;simp only[pv];refine p_v _ (n_l (some ⟨gb,ob,none⟩) ((m+1:Nat)) c Zm) ?_;simp only[pv];refine p_v _ (Gh (m+1:Nat) 0) ?_;refine p_m ?_;refine p_m ?_;refine p_m ?_;simp only[pv];refine p_v _ (n_l (some ⟨gb,ob,none⟩) ((m+1:Nat)) c Zm) ?_;simp only[pv];refine p_v _ (Z2 _ _ _ _ rfl (m+1) 1 rfl rfl (by omega) (by omega)) ?_;simp only[pv];refine p_v _ ((Zw 22 _ _ rfl gb ob (m+1) (c) rfl (m) rfl (by omega) _ r_ 4 ZC)) ?_;simp only[pv];refine ZJ (by rfl) 57 _ rfl _ (ob+m*4) rfl rB (Zc (F m)) hbt' _ b_ rfl Zd ?_;simp only[pv];refine p_v _ (ZE _ rfl _ ZA) ?_;simp only[pv];refine p_v (.bool true) (fun w'=>(ZG _ _ _ rfl (F m) 0 rfl rfl w').trans (by rw[hd])) ?_;refine p_k true (.bool true) (Zb ?_);simp only[pv];clear rB;iterate 7 go_step
    refine rp ?_;refine p_m ?_;refine p_m ?_;simp only[pv];refine p_v _ (n_l (some ⟨gb,ob,none⟩) ((m+1:Nat)) c Zm) ?_;simp only[pv];refine p_v _ (Z2 _ _ _ _ rfl (m+1) 1 rfl rfl (by omega) (by omega)) ?_;simp only[pv];refine p_v _ (Ow _ _ _ rfl Zm 4 Vy _ (m+1) c m rfl rfl (by omega)) ?_;simp only[pv];refine p_a ?_;simp only[Act.put,aA0,bT0];refine Zb ?_;go_wp2
    go_roundg m
    case measure=>omega
    case rel=>exact⟨by omega,rfl,he',sb⟩
   ·have hd:decide (F m%2^256=0%2^256)=false:=by
     rw[g_ hlt];exact e_ hz
    have HE0:Hid (m+1=yTn F n):=by
     show _=_
     rw[<-he];show _=if F m=0 then _ else _
     rw[i_ hz]
    clear he hz;iterate 2 go_step
    refine rp ?_;refine p_m ?_;simp only[pv];refine p_v _ (n_l (some ⟨gb,ob,none⟩) ((m+1:Nat)) c Zm) ?_;simp only[pv];refine p_v _ (Gh (m+1:Nat) 0) ?_;refine p_m ?_;refine p_m ?_;refine p_m ?_;simp only[pv];refine p_v _ (n_l (some ⟨gb,ob,none⟩) ((m+1:Nat)) c Zm) ?_;simp only[pv];refine p_v _ (Z2 _ _ _ _ rfl (m+1) 1 rfl rfl (by omega) (by omega)) ?_;simp only[pv];refine p_v _ ((Zw 22 _ _ rfl gb ob (m+1) (c) rfl (m) rfl (by omega) _ r_ 4 ZC)) ?_;simp only[pv];refine ZJ (by rfl) 57 _ rfl _ (ob+m*4) rfl rB (Zc (F m)) hbt' _ b_ rfl Zd ?_;simp only[pv];refine p_v _ (ZE _ rfl _ ZA) ?_;simp only[pv];refine p_v (.bool false) (fun w'=>(ZG _ _ _ rfl (F m) 0 rfl rfl w').trans (by rw[hd])) ?_;refine p_k true (.bool false) (Zb ?_);simp only[pv];iterate 7 go_step
    refine rp ?_;refine p_m ?_;refine p_a (Zb ?_);simp only[pv];go_wp2;go_ret;exact⟨by rw[<-HE0.out];rfl,sb⟩
theorem G6 (ab:Option Addr)(n c k:Nat)(w:World)(hk:n<=k):
  Calls prog 181 #[.slice ab n c,.int .i64 k] w fun e w'=>e= .returned (.agg (Zc 0))/\Below w.heap.size w w':=by
 go_enter func181,ntmps181
 iterate 2 go_step
 refine rp ?_;refine ZT (by rfl) 57 rfl _ Zp ?_;intro g4 z0 n0 r4 k;simp only[pv];have b4:w.heap.size<=g4:=n0;clear n0;have sb:=k_b k;clear k;refine Zb ?_;iterate 4 go_step
 refine rp ?_;refine p_m ?_;refine p_m ?_;simp only[pv];refine p_v _ (n_l ab n c Zm) ?_;simp only[pv];refine p_v _ (ZY _ _ _ _ rfl k n rfl rfl true (d_ (by omega))) (Zb ?_);simp only[pv];iterate 4 go_step
 refine rp ?_;refine p_v _ (ZE _ rfl _ ZA) ?_;simp only[pv];refine p_p r4 0 ?_;clear r4;intro z2001 r4 k;simp only[Act.put];replace sb:=kk sb k;clear k;refine Zb ?_;go_wp2;exact ZM rfl _ rfl r4 4 _ b_ (by exact Zd) rfl ⟨rfl,sb⟩
theorem Bq (ab:Option Addr)(n c k:Nat)(F:Nat->Nat)(gb ob:Nat)(bcs:Array Value)(tb:TypeId)(w:World)(hk:k<n)(hna:NatsAt w ab n F gb ob bcs tb):
  Calls prog 181 #[.slice ab n c,.int .i64 k] w fun e w'=>e= .returned (.agg (Zc (F k)))/\Below w.heap.size w w':=by
 go_enter func181,ntmps181
 iterate 2 go_step
 refine rp ?_;refine ZT (by rfl) 57 rfl _ Zp ?_;intro g4 z0 n0 r4 k;simp only[pv];have b4:w.heap.size<=g4:=n0;clear n0;replace hna:=hna.below k.nil;have sb:=k_b k;clear k;refine Zb ?_;iterate 4 go_step
 refine rp ?_;refine p_m ?_;refine p_m ?_;simp only[pv];refine p_v _ (n_l ab n c Zm) ?_;simp only[pv];refine p_v _ (ZY _ _ _ _ rfl k n rfl rfl false (e_ (by omega))) (Zb ?_);simp only[pv];obtain h0|⟨rfl,rB,hbt⟩:=hna.at'
 ·exact absurd h0 (by omega)
 have hbt':=hbt k hk;clear hbt hna;iterate 7 go_step
 refine rp ?_;refine p_m ?_;refine p_m ?_;simp only[pv];refine p_x k hk r_ ZC ?_;simp only[pv];refine ZJ (by rfl) 57 _ rfl _ (ob+k*4) rfl rB (Zc (F k)) hbt' _ b_ rfl Zd ?_;simp only[pv];refine p_p r4 (F k) ?_;clear r4;intro z3004 r4 k;simp only[Act.put];replace sb:=kk sb k;clear k;refine Zb ?_;go_wp2;exact ZM rfl _ rfl r4 4 _ b_ (by exact Zd) rfl ⟨rfl,sb⟩
theorem NG (ab:Option Addr)(n c k:Nat)(F:Nat->Nat)(gb ob:Nat)(bcs:Array Value)(tb:TypeId)(w:World)(hna:NatsAt w ab n F gb ob bcs tb):
  Calls prog 181 #[.slice ab n c,.int .i64 k] w (Rt (.agg (Zc (yCf n F k))) w):=by
 unfold yCf;by_cases h:k<n
 ·rw[j_ h];exact Bq ab n c k F gb ob bcs tb w h hna
 ·rw[i_ h];exact G6 ab n c k w (by omega)
theorem RV {fn:Func}(n:Nat)(f:FuncId)(caps:Array Value)(F:Nat->Nat)(w:World)(hf:prog.funcs[f]?=some fn)(hb0:(fn.name== "runtime.NumGoroutine" ||fn.body.isNone)=false)(hn:n<=4000)(hF: ∀k,k<n->F k<2^256)
  (hc: ∀k:Nat,k<n-> ∀w',Below w.heap.size w w'->Calls prog f (#[.int .i64 k]++caps) w' (Rt (.agg (Zc (F k))) w')):
  Calls prog 129 #[.int .i64 n,.func (.func f) #[] caps] w fun e w'=> ∃g,e= .returned (.slice (some ⟨g,0,none⟩) (yTn (F) (n)) (n))/\w.heap.size<=g/\Row w' g (nsC (n) (F)) 57/\Below w.heap.size w w':=by
 obtain⟨ie,hie,hze,hsz,hby⟩:=Yn;have HF:Hid (∀k,k<n->F k<2^256):=hF;clear hF
 go_enter func129,ntmps129
 have sb:=YG w;iterate 2 go_step
 refine rp ?_;refine p_v (.slice none 0 0) ((fun _=>rfl)) (Zb ?_);simp only[pv];iterate 3 go_step
 refine rp ?_;refine p_m ?_;simp only[pv];refine XT (by rfl) 22 57 _ _ rfl ie _ r_ hie hze n rfl rfl (by rw[hsz];omega) (by rw[hby];omega) (by omega) ?_;intro gM z1001 n0 rM k;simp only[pv];have bM:=f_ sb.size n0;clear n0;replace sb:=kk sb k;clear k;refine p_a (Zb ?_);simp only[pv];rw[hsz,Xz]at rM;iterate 4 go_step
 refine rp ?_;refine p_m ?_;refine p_v (.int .i64 0) (fun _=>rfl) (Zb ?_);simp only[pv]
 go_wp2_with fail
 go_loopg [6,10] n (fun g s6 s10 wr=> ∃k:Nat,k+g=n/\s10= .int .i64 k/\Row wr gM (nsC n (fun j=>if j<k then F j else 0)) 57/\Below w.heap.size w wr)
 case atStart=>exact⟨0,by omega,rfl,by rw[show(fun j=>if j<0 then F j else 0)=fun _=>0 from funext fun j=>i_ (by omega)];exact rM,sb⟩
 case round=>
  clear rM sb;obtain⟨k,hk,rfl,rM,sb⟩:=hrel
  cases gk with
  |zero=>
   obtain rfl:k=n:=by omega
   clear hk hc;rw[Yw k _ F (fun j hj=>j_ hj)]at rM;have htr:=fun w' (r:Row w' gM (nsC k F) 57)=>Ox (some ⟨gM,0,none⟩) k k F gM 0 _ _ w' (by omega) (c_ k) (YA r HF.out)
   go_step
   refine rp ?_;refine p_v _ (Xe k k) (Zb ?_);simp only[pv];iterate 8 go_step
   refine rp ?_;refine p_m ?_;simp only[pv];refine p_c 172 func172 #[.slice (some ⟨gM,0,none⟩) k k] (htr _ rM) ?_;intro z7001 k;simp only[pv];replace rM:=k.ro rM;replace sb:=kk sb k;clear k;refine p_a (Zb ?_);simp only[pv];go_wp2;go_ret;exact⟨gM,rfl,bM,rM,sb⟩
  |succ g=>
   have hlt:k<n:=by omega
   have hput:=Wa n (fun j=>if j<k then F j else 0) (fun j=>if j<k+1 then F j else 0) k hlt (0+k*4) (by omega) (F k) (fun j hj=>by
    by_cases hjk:j=k
    ·subst hjk;rw[j_ (by omega),j_ rfl]
    ·rw[i_ hjk];by_cases h2:j<k
     ·rw[j_ h2,j_ (by omega)]
     ·rw[i_ h2,i_ (by omega)])
   go_step
   refine rp ?_;refine p_v _ (X4 k n) (Zb ?_);simp only[pv];iterate 10 go_step
   refine rp ?_;refine p_m ?_;refine p_a (Zb ?_);simp only[pv];iterate 2 go_step
   refine rp ?_;refine p_m ?_;refine p_m ?_;refine p_m ?_;refine p_m ?_;simp only[pv];refine Xa (by rfl) (f) _ _ _ rfl (caps) rfl (hf) (hb0) #[.int .i64 (k:Nat)] rfl _ (hc k hlt _ sb) ?_;intro z5004 k;simp only[pv];replace rM:=k.ro rM;replace sb:=kk sb k;clear k;refine p_x k hlt r_ ZC ?_;simp only[pv];refine VQ (by rfl) 57 _ _ rfl _ (0+k*4) rfl rM (Zc (F k)) rfl (by exact Zd) (by rw[ZZ,Zo];omega) (Zu _) (nsC n (fun j=>if j<k+1 then F j else 0)) hput ?_;clear rM;intro z5006 rM k;simp only[Act.put];replace sb:=kk sb k;clear k;refine Zb ?_;clear hput;iterate 2 go_step
   refine rp ?_;refine p_v _ (x_a k 1) ?_;refine p_m (Zb ?_);simp only[pv];go_wp2
   go_roundg g
   case measure=>omega
   case rel=>exact⟨k+1,by omega,rfl,rM,sb⟩
theorem JM (v ab:Option Addr)(n c k:Nat)(F:Nat->Nat)(o:FO)(g1 g2 gb ob:Nat)(bcs:Array Value)(tb:TypeId)(w:World)(hk:k<n)(r1:Row w g1 #[.pointer v] 25)(r2:Row w g2 #[.slice ab n c] 22)(hna:NatsAt w ab n F gb ob bcs tb)(h:FA w v o):
  Calls prog 130 #[.int .i64 k,.pointer (some ⟨g1,0,none⟩),.pointer (some ⟨g2,0,none⟩)] w fun e w'=>e= .returned (.agg (Zc (yTm o F k)))/\Below w.heap.size w w':=by
 have hlt:=hna.lt k hk;have had:=fun w' (hb:Below w.heap.size w w')=>h.ad (F k) 0 w' hlt (by decide) hb
 obtain h0|⟨rfl,rB,hbt⟩:=hna.at'
 ·exact absurd h0 (by omega)
 have hbt':=hbt k hk;have hBw:=rB.lt;have HN:Hid (NatsAt w (some ⟨gb,ob,none⟩) n F gb ob bcs tb):=hna;clear hbt rB hna h
 go_enter func130,ntmps130
 iterate 2 go_step
 refine rp ?_;refine ZT (by rfl) 57 rfl _ Zp ?_;intro g4 z0 n0 r4 k;simp only[pv];have d1x4:=l_l r1.lt n0;have d2x4:=l_l r2.lt n0;have b4:w.heap.size<=g4:=n0;clear n0;replace r1:=k.ro r1;replace r2:=k.ro r2;have sb:=k_b k;clear k;refine Zb ?_;obtain h0|⟨_,rB,_⟩:=(HN.out.below sb).at'
 ·exact absurd h0 (by omega)
 iterate 3 go_step
 apply Zi (by kernel_rfl) [(g4,57,Zc 0)] [_,_,_,_,_,_,_,_] ⟨r4,trivial⟩ (by simp<;>omega)
 ·intro p;refine Zs 25 _ rfl _ (0) rfl r1 (by simp<;>omega) (.pointer v) rfl eL0 ?_;simp only[pv];refine Zs 22 _ rfl _ (0) rfl r2 (by simp<;>omega) (.slice (some ⟨gb,ob,none⟩) n c) rfl aD0 ?_;refine m_m ?_;simp only[pv];refine m_x k hk r_ ZC ?_;simp only[pv];refine Yj 57 _ rfl _ (ob+k*4) rfl rB (by simp<;>omega) (Zc (F k)) hbt' _ b_ rfl Zd ?_;simp only[pv];refine Ze _ (ZE _ rfl _ ZA) ?_;simp only[pv];refine m_k 99 func99 #[.pointer v,.agg (Zc (F k)),.agg (Zc 0)] (fun w' hk=>had w' (sb.trans (hk.below w.heap.size sb.size (by simp<;>omega)))) ?_;simp only[pv];refine m_p 0 (yTm o F k) ?_;simp only[Act.put];refine Zf ?_;intro w2 hkw hrw hnew hdis;have zr4:Row w2 (g4) (Zc (yTm o F k)) 57:=hrw 0 (57,Zc (yTm o F k)) rfl;replace sb:=kk sb hkw;clear hkw hrw hnew hdis r4;have r4:=zr4;clear zr4;go_wp2;exact ZM rfl _ rfl r4 4 _ b_ (by exact Zd) rfl ⟨rfl,sb⟩
 ·kernel_rfl
theorem G7 (v ab ae:Option Addr)(n c m ce k:Nat)(F G:Nat->Nat)(o:FO)(g1 g2 g3 gb ob ge oe:Nat)(bcs ecs:Array Value)(tb te:TypeId)(w:World)(r1:Row w g1 #[.pointer v] 25)(r2:Row w g2 #[.slice ab n c] 22)(r3:Row w g3 #[.slice ae m ce] 22)
  (hna:NatsAt w ab n F gb ob bcs tb)(hnb:NatsAt w ae m G ge oe ecs te)(h:FA w v o):
  Calls prog 180 #[.int .i64 k,.pointer (some ⟨g1,0,none⟩),.pointer (some ⟨g2,0,none⟩),.pointer (some ⟨g3,0,none⟩)] w fun e w'=>e= .returned (.agg (Zc (ySm o n F m G k)))/\Below w.heap.size w w':=by
 have had:=fun w' (hb:Below w.heap.size w w')=>h.ad (yCf n F k) (yCf m G k) w' (ER hna.lt k) (ER hnb.lt k) hb
 have hca:=fun w' (hb:Below w.heap.size w w')=>NG ab n c k F gb ob bcs tb w' (hna.below hb)
 have hcb:=fun w' (hb:Below w.heap.size w w')=>NG ae m ce k G ge oe ecs te w' (hnb.below hb)
 clear hna hnb h
 go_enter func180,ntmps180
 iterate 2 go_step
 refine rp ?_;refine ZT (by rfl) 57 rfl _ Zp ?_;intro g5 z0 n0 r5 k;simp only[pv];have d1x5:=l_l r1.lt n0;have d2x5:=l_l r2.lt n0;have d3x5:=l_l r3.lt n0;have b5:w.heap.size<=g5:=n0;clear n0;replace r1:=k.ro r1;replace r2:=k.ro r2;replace r3:=k.ro r3;have sb:=k_b k;clear k;refine Zb ?_;iterate 3 go_step
 apply Zi (by kernel_rfl) [(g5,57,Zc 0)] [_,_,_,_,_,_,_,_,_] ⟨r5,trivial⟩ (by simp<;>omega)
 ·intro p;refine Zs 25 _ rfl _ (0) rfl r1 (by simp<;>omega) (.pointer v) rfl eL0 ?_;simp only[pv];refine Zs 22 _ rfl _ (0) rfl r2 (by simp<;>omega) (.slice ab n c) rfl aD0 ?_;refine m_m ?_;simp only[pv];refine m_k 181 func181 #[.slice ab n c,.int .i64 k] (fun w' hk=>hca w' (sb.trans (hk.below w.heap.size sb.size (by simp<;>omega)))) ?_;simp only[pv];refine Zs 22 _ rfl _ (0) rfl r3 (by simp<;>omega) (.slice ae m ce) rfl aD0 ?_;refine m_m ?_;simp only[pv];refine m_k 181 func181 #[.slice ae m ce,.int .i64 k] (fun w' hk=>hcb w' (sb.trans (hk.below w.heap.size sb.size (by simp<;>omega)))) ?_;simp only[pv];refine m_k 99 func99 #[.pointer v,.agg (Zc (yCf n F k)),.agg (Zc (yCf m G k))] (fun w' hk=>had w' (sb.trans (hk.below w.heap.size sb.size (by simp<;>omega)))) ?_;simp only[pv];refine m_p 0 (ySm o n F m G k) ?_;simp only[Act.put];refine Zf ?_;intro w2 hkw hrw hnew hdis;have zr5:Row w2 (g5) (Zc (ySm o n F m G k)) 57:=hrw 0 (57,Zc (ySm o n F m G k)) rfl;replace sb:=kk sb hkw;clear hkw hrw hnew hdis r5;have r5:=zr5;clear zr5;go_wp2;exact ZM rfl _ rfl r5 4 _ b_ (by exact Zd) rfl ⟨rfl,sb⟩
 ·kernel_rfl
theorem G8 (v ab ae:Option Addr)(n c m ce k:Nat)(F G:Nat->Nat)(o:FO)(g1 g2 g3 gb ob ge oe:Nat)(bcs ecs:Array Value)(tb te:TypeId)(w:World)(hn:n<=4000)(hm:m<=4000)(hk0:k<=8000)(r1:Row w g1 #[.slice ae m ce] 22)(r2:Row w g2 #[.slice ab n c] 22)(r3:Row w g3 #[.pointer v] 25)
  (hna:NatsAt w ab n F gb ob bcs tb)(hnb:NatsAt w ae m G ge oe ecs te)(h:FA w v o):
  Calls prog 182 #[.int .i64 k,.pointer (some ⟨g1,0,none⟩),.pointer (some ⟨g2,0,none⟩),.pointer (some ⟨g3,0,none⟩)] w fun e w'=>e= .returned (.agg (Zc (yMl o n F m G k)))/\Below w.heap.size w w':=by
 have HB:Hid (NatsAt w ab n F gb ob bcs tb):=hna;have HE:Hid (NatsAt w ae m G ge oe ecs te):=hnb;have HS:Hid (∀lo j,yCv o F G k lo j<2^256):=fun lo j=>zO h F G k lo j
 have hV:yMl o n F m G k=yCv o F G k (k+1-m) (min n (k+1)-(k+1-m)):=rfl;rw[hV];clear hV hna hnb;obtain⟨lo,hlo⟩: ∃lo,k+1-m=lo:=⟨_,rfl⟩
 obtain⟨J,hJ⟩: ∃J,min n (k+1)-lo=J:=⟨_,rfl⟩
 rw[hlo,hJ]
 have hmx:(if((k:Int)-(m:Int)+1)>0 then((k:Int)-(m:Int)+1)else 0)=((lo:Nat):Int):=by split<;>omega
 go_enter func182,ntmps182
 iterate 2 go_step
 refine rp ?_;refine ZT (by rfl) 57 rfl _ Zp ?_;intro g5 z0 n0 r5 k;simp only[pv];have b5:w.heap.size<=g5:=n0;clear n0;replace r1:=k.ro r1;replace r2:=k.ro r2;replace r3:=k.ro r3;have sb:=k_b k;clear k;refine Zb ?_;iterate 3 go_step
 refine rp ?_;refine ZT (by rfl) 57 rfl _ Zp ?_;intro g6 z1000 n0 r6 k;simp only[pv];have d1x6:=l_l r1.lt n0;have d2x6:=l_l r2.lt n0;have d3x6:=l_l r3.lt n0;have d5x6:=l_l r5.lt n0;have b6:=f_ sb.size n0;clear n0;replace r1:=k.ro r1;replace r2:=k.ro r2;replace r3:=k.ro r3;replace r5:=k.ro r5;replace sb:=kk sb k;clear k;refine Zb ?_;iterate 4 go_step
 refine rp ?_;refine p_m ?_;simp only[pv];refine p_d 0 r1.r (.slice ae m ce) rfl aD0 ?_;simp only[pv];refine p_v _ (n_l ae m ce Zm) ?_;simp only[pv];refine p_v (.int .i64 ((k:Int)-(m:Int))) (EM _ _ _ _ rfl k m _ rfl rfl (by rw[J_];omega)) ?_;simp only[pv];refine p_v (.int .i64 ((k:Int)-(m:Int)+1)) (zP _ _ _ _ rfl ((k:Int)-(m:Int)) 1 _ rfl rfl (by rw[J_];omega)) ?_;simp only[pv];refine p_v (.int .i64 (lo:Nat)) (Bn _ _ _ rfl 0 ((k:Int)-(m:Int)+1) _ rfl rfl hmx) ?_;refine p_a (Zb ?_);simp only[pv];clear hmx
 go_wp2_with fail
 go_loopg [7] J (fun g s7 wr=> ∃j:Nat,j+g=J/\s7= .int .i64 ((lo+j:Nat):Int)/\Row wr g6 (Zc (yCv o F G k lo j)) 57/\Row wr g1 #[.slice ae m ce] 22/\Row wr g2 #[.slice ab n c] 22/\Row wr g3 #[.pointer v] 25/\Row wr g5 (Zc 0) 57/\Below w.heap.size w wr)
 case atStart=>exact⟨0,by omega,rfl,r6,r1,r2,r3,r5,sb⟩
 case round=>
  clear r1 r2 r3 r5 r6 sb;obtain⟨j,hj,rfl,r6,r1,r2,r3,r5,sb⟩:=hrel
  cases gk with
  |zero=>
   obtain rfl:j=J:=by omega
   clear hj HS;iterate 2 go_step
   refine rp ?_;refine p_m ?_;simp only[pv];refine p_d 0 r2.r (.slice ab n c) rfl aD0 ?_;simp only[pv];refine p_v _ (n_l ab n c Zm) ?_;refine p_m ?_;simp only[pv];refine p_v _ (x_a k 1) ?_;simp only[pv];refine p_v _ (zN _ _ _ rfl n (k+1) _ rfl rfl rfl) ?_;simp only[pv];refine p_v _ (Xe ((lo+j:Nat):Int) ((min n (k+1):Nat):Int)) (Zb ?_);simp only[pv];iterate 7 go_step
   refine rp ?_;refine p_l r6.r ?_;simp only[pv];refine p_p r5 (yCv o F G k lo j) ?_;clear r5;intro z6001 r5 k;simp only[Act.put];replace r6:=k.ro r6;replace sb:=kk sb k;clear k;refine Zb ?_;go_wp2;exact ZM rfl _ rfl r5 4 _ b_ (by exact Zd) rfl ⟨rfl,sb⟩
  |succ g=>
   have hlt:lo+j<min n (k+1):=by omega
   have ha:lo+j<n:=by omega
   have hb:k-(lo+j)<m:=by omega
   have hsub:((k:Nat):Int)-((lo+j:Nat):Int)=((k-(lo+j):Nat):Int):=by omega
   iterate 2 go_step
   refine rp ?_;refine p_m ?_;simp only[pv];refine p_d 0 r2.r (.slice ab n c) rfl aD0 ?_;simp only[pv];refine p_v _ (n_l ab n c Zm) ?_;refine p_m ?_;simp only[pv];refine p_v _ (x_a k 1) ?_;simp only[pv];refine p_v _ (zN _ _ _ rfl n (k+1) _ rfl rfl rfl) ?_;simp only[pv];refine p_v _ (X4 ((lo+j:Nat):Int) ((min n (k+1):Nat):Int)) (Zb ?_);simp only[pv];obtain h0|⟨rfl,rB,hbt⟩:=(HB.out.below sb).at'
   ·exact absurd h0 (by omega)
   obtain h0|⟨rfl,rE,het⟩:=(HE.out.below sb).at'
   ·exact absurd h0 (by omega)
   have hbt':=hbt (lo+j) ha;have het':=het (k-(lo+j)) hb;have had:=fun w' (hb':Below w.heap.size w w')=>h.ad (yCv o F G k lo j) (o.mu (F (lo+j)) (G (k-(lo+j)))) w' (HS.out lo j) (h.lu _ _) hb'
   have hmu:=fun w' (hb':Below w.heap.size w w')=>h.mu (F (lo+j)) (G (k-(lo+j))) w' (HB.out.lt _ ha) (HE.out.lt _ hb) hb'
   clear hbt het
   have hB6:gb≠g6:=fun e=>by
    have:=HB.out.at';rcases this with h0|⟨_,q,_⟩
    ·omega
    ·have:=q.lt;omega
   have hE6:ge≠g6:=fun e=>by
    have:=HE.out.at';rcases this with h0|⟨_,q,_⟩
    ·omega
    ·have:=q.lt;omega
   iterate 8 go_step
   apply Zi (by kernel_rfl) [(g6,57,Zc (yCv o F G k lo j))] [_,_,_,_,_,_,_,_,_,_,_,_,_,_,_,_] ⟨r6,trivial⟩ (by simp<;>omega)
   ·intro p;refine Zs 25 _ rfl _ (0) rfl r3 (by simp<;>omega) (.pointer v) rfl eL0 ?_;simp only[pv];refine Yz 0 57 _ rfl rfl rfl 4 _ b_ Zd ?_;simp only[pv];refine Zs 25 _ rfl _ (0) rfl r3 (by simp<;>omega) (.pointer v) rfl eL0 ?_;simp only[pv];refine Zs 22 _ rfl _ (0) rfl r2 (by simp<;>omega) (.slice (some ⟨gb,ob,none⟩) n c) rfl aD0 ?_;refine m_m ?_;simp only[pv];refine m_x ((lo+j)) ha r_ ZC ?_;simp only[pv];refine Yj 57 _ rfl _ (ob+(lo+j)*4) rfl rB (by simp<;>omega) (Zc (F (lo+j))) hbt' _ b_ rfl Zd ?_;simp only[pv];refine Zs 22 _ rfl _ (0) rfl r1 (by simp<;>omega) (.slice (some ⟨ge,oe,none⟩) m ce) rfl aD0 ?_;refine m_m ?_;refine m_m ?_;simp only[pv];refine Ze _ ((Z2 _ _ _ _ rfl k (lo+j) rfl rfl (by omega) (by omega))) ?_;simp only[pv];refine m_x ((k-(lo+j))) hb r_ ZC ?_;simp only[pv];refine Yj 57 _ rfl _ (oe+(k-(lo+j))*4) rfl rE (by simp<;>omega) (Zc (G (k-(lo+j)))) het' _ b_ rfl Zd ?_;simp only[pv];refine m_k 100 func100 #[.pointer v,.agg (Zc (F (lo+j))),.agg (Zc (G (k-(lo+j))))] (fun w' hk=>hmu w' (sb.trans (hk.below w.heap.size sb.size (by simp<;>omega)))) ?_;simp only[pv];refine m_k 99 func99 #[.pointer v,.agg (Zc (yCv o F G k lo j)),.agg (Zc (o.mu (F (lo+j)) (G (k-(lo+j)))))] (fun w' hk=>had w' (sb.trans (hk.below w.heap.size sb.size (by simp<;>omega)))) ?_;simp only[pv];refine m_p 0 (yCv o F G k lo (j+1)) ?_;simp only[Act.put];refine Zf ?_;intro w2 hkw hrw hnew hdis;have zr6:Row w2 (g6) (Zc (yCv o F G k lo (j+1))) 57:=hrw 0 (57,Zc (yCv o F G k lo (j+1))) rfl;replace r1:=hkw.ro r1;replace r2:=hkw.ro r2;replace r3:=hkw.ro r3;replace r5:=hkw.ro r5;replace sb:=kk sb hkw;clear hkw hrw hnew hdis r6;have r6:=zr6;clear zr6;iterate 2 go_step
    refine rp ?_;refine p_m ?_;simp only[pv];refine p_v _ (x_a (lo+j) 1) ?_;refine p_a (Zb ?_);simp only[pv];go_wp2
    go_roundg g
    case measure=>omega
    case rel=>exact⟨j+1,by omega,rfl,r6,r1,r2,r3,r5,sb⟩
   ·kernel_rfl
theorem RW (v ab:Option Addr)(n c:Nat)(F:Nat->Nat)(o:FO)(gb ob:Nat)(bcs:Array Value)(tb:TypeId)(w:World)(hn:n<=4000)(hna:NatsAt w ab n F gb ob bcs tb)(h:FA w v o):
  Calls prog 82 #[.pointer v,.slice ab n c] w fun e w'=> ∃g,e= .returned (.slice (some ⟨g,0,none⟩) (yTn (yTm o F) (n)) (n))/\w.heap.size<=g/\Row w' g (nsC (n) (yTm o F)) 57/\Below w.heap.size w w':=by
 go_enter func82,ntmps82
 have sb:=YG w;iterate 2 go_step
 refine rp ?_;refine Ye (by rfl) 25 _ rfl (.pointer v) rfl rfl ?_;intro g2 z0 n0 r2 k;simp only[pv];clear n0;replace sb:=kk sb k;clear k;refine Ye (by rfl) 22 _ rfl (.slice ab n c) rfl rfl ?_;intro g3 z1 n0 r3 k;simp only[pv];clear n0;replace r2:=k.ro r2;replace sb:=kk sb k;clear k;refine p_v (.slice none 0 0) ((fun _=>rfl)) (Zb ?_);simp only[pv];have hto:=fun w' (hb:Below w.heap.size w w') (q2:Row w' g2 #[.pointer v] 25) (q3:Row w' g3 #[.slice ab n c] 22)=>RV n 130 #[.pointer (some ⟨g2,0,none⟩),.pointer (some ⟨g3,0,none⟩)] (yTm o F) w' func130 (by kernel_rfl) hn (fun k _=>h.la _ _) (fun k hk w2 hb2=>JM v ab n c k F o g2 g3 gb ob bcs tb w2 hk (q2.belowAll hb2) (q3.belowAll hb2) ((hna.below hb).below hb2) ((h.below hb).below hb2))
 iterate 3 go_step
 refine rp ?_;refine p_d 0 r3.r (.slice ab n c) rfl aD0 ?_;simp only[pv];refine p_v _ (n_l ab n c Zm) ?_;simp only[pv];refine p_v (.func (.func 130) #[] #[.pointer (some ⟨g2,0,none⟩),.pointer (some ⟨g3,0,none⟩)]) (Yr _ _ rfl _ rfl) ?_;simp only[pv];refine p_f 129 func129 #[.int .i64 n,.func (.func 130) #[] #[.pointer (some ⟨g2,0,none⟩),.pointer (some ⟨g3,0,none⟩)]] (hto _ sb r2 r3) ?_;rintro _ z1003 ⟨g,rfl,n',r',hb⟩;refine⟨_,rfl,?_⟩;simp only[pv];have b':=f_ sb.size n';clear n';have k:=Kept.ofBelow hb;clear hb;replace r2:=k.ro r2;replace r3:=k.ro r3;replace sb:=kk sb k;clear k;refine p_a (Zb ?_);simp only[pv];go_wp2;go_ret;exact⟨g,rfl,b',r',sb⟩
theorem G9 (v ab ae:Option Addr)(n c m ce:Nat)(F G:Nat->Nat)(o:FO)(gb ob ge oe:Nat)(bcs ecs:Array Value)(tb te:TypeId)(w:World)(hn:n<=4000)(hm:m<=4000)(hna:NatsAt w ab n F gb ob bcs tb)(hnb:NatsAt w ae m G ge oe ecs te)(h:FA w v o):
  Calls prog 138 #[.pointer v,.slice ab n c,.slice ae m ce] w fun e w'=> ∃g,e= .returned (.slice (some ⟨g,0,none⟩) (yTn (ySm o n F m G) (max n m)) (max n m))/\w.heap.size<=g/\Row w' g (nsC (max n m) (ySm o n F m G)) 57/\Below w.heap.size w w':=by
 obtain⟨X,hX⟩: ∃X,max n m=X:=⟨_,rfl⟩
 have hX2:(if(m:Int)>(n:Int)then(m:Int)else(n:Int))=((X:Nat):Int):=by split<;>omega
 rw[hX]
 go_enter func138,ntmps138
 have sb:=YG w;iterate 2 go_step
 refine rp ?_;refine Ye (by rfl) 25 _ rfl (.pointer v) rfl rfl ?_;intro g3 z0 n0 r3 k;simp only[pv];clear n0;replace sb:=kk sb k;clear k;refine Ye (by rfl) 22 _ rfl (.slice ab n c) rfl rfl ?_;intro g4 z1 n0 r4 k;simp only[pv];clear n0;replace r3:=k.ro r3;replace sb:=kk sb k;clear k;refine Ye (by rfl) 22 _ rfl (.slice ae m ce) rfl rfl ?_;intro g5 z2 n0 r5 k;simp only[pv];clear n0;replace r3:=k.ro r3;replace r4:=k.ro r4;replace sb:=kk sb k;clear k;refine p_v (.slice none 0 0) ((fun _=>rfl)) (Zb ?_);simp only[pv];have hto:=fun w' (hb:Below w.heap.size w w') (q3:Row w' g3 #[.pointer v] 25) (q4:Row w' g4 #[.slice ab n c] 22) (q5:Row w' g5 #[.slice ae m ce] 22)=>RV X 180 #[.pointer (some ⟨g3,0,none⟩),.pointer (some ⟨g4,0,none⟩),.pointer (some ⟨g5,0,none⟩)] (ySm o n F m G) w' func180 (by kernel_rfl) (by omega) (fun k _=>h.la _ _) (fun k hk w2 hb2=>G7 v ab ae n c m ce k F G o g3 g4 g5 gb ob ge oe bcs ecs tb te w2 (q3.belowAll hb2) (q4.belowAll hb2) (q5.belowAll hb2) ((hna.below hb).below hb2) ((hnb.below hb).below hb2) ((h.below hb).below hb2))
 iterate 3 go_step
 refine rp ?_;refine p_d 0 r4.r (.slice ab n c) rfl aD0 ?_;simp only[pv];refine p_v _ (n_l ab n c Zm) ?_;simp only[pv];refine p_d 0 r5.r (.slice ae m ce) rfl aD0 ?_;simp only[pv];refine p_v _ (n_l ae m ce Zm) ?_;simp only[pv];refine p_v (.int .i64 (X:Nat)) (Bn _ _ _ rfl n m _ rfl rfl hX2) ?_;simp only[pv];refine p_v (.func (.func 180) #[] #[.pointer (some ⟨g3,0,none⟩),.pointer (some ⟨g4,0,none⟩),.pointer (some ⟨g5,0,none⟩)]) (Yr _ _ rfl _ rfl) ?_;simp only[pv];refine p_f 129 func129 #[.int .i64 (X:Nat),.func (.func 180) #[] #[.pointer (some ⟨g3,0,none⟩),.pointer (some ⟨g4,0,none⟩),.pointer (some ⟨g5,0,none⟩)]] (hto _ sb r3 r4 r5) ?_;rintro _ z1006 ⟨g,rfl,n',r',hb⟩;refine⟨_,rfl,?_⟩;simp only[pv];have b':=f_ sb.size n';clear n';have k:=Kept.ofBelow hb;clear hb;replace r3:=k.ro r3;replace r4:=k.ro r4;replace r5:=k.ro r5;replace sb:=kk sb k;clear k;refine p_a (Zb ?_);simp only[pv];go_wp2;go_ret;exact⟨g,rfl,b',r',sb⟩
theorem Fa (v ab ae:Option Addr)(n c m ce:Nat)(F G:Nat->Nat)(o:FO)(gb ob ge oe:Nat)(bcs ecs:Array Value)(tb te:TypeId)(w:World)(hn:n<=1000)(hm:m<=1000)(hna:NatsAt w ab n F gb ob bcs tb)(hnb:NatsAt w ae m G ge oe ecs te)(h:FA w v o):
  Calls prog 139 #[.pointer v,.slice ab n c,.slice ae m ce] w fun e w'=> ∃g,e= .returned (.slice (some ⟨g,0,none⟩) (yTn (yMl o (yTn (yTm o F) n) (yTm o F) (yTn (yTm o G) m) (yTm o G)) (yTn (yTm o F) n+yTn (yTm o G) m-1)) (yTn (yTm o F) n+yTn (yTm o G) m-1))/\w.heap.size<=g/\Row w' g (nsC (yTn (yTm o F) n+yTn (yTm o G) m-1) (yMl o (yTn (yTm o F) n) (yTm o F) (yTn (yTm o G) m) (yTm o G))) 57/\Below w.heap.size w w':=by
 have hn1:=T0 (yTm o F) n;have hm1:=T0 (yTm o G) m;obtain⟨n1,hN⟩: ∃x,yTn (yTm o F) n=x:=⟨_,rfl⟩
 obtain⟨m1,hM⟩: ∃x,yTn (yTm o G) m=x:=⟨_,rfl⟩
 rw[hN,hM];rw[hN]at hn1;rw[hM]at hm1;have hta:=fun w' (hb:Below w.heap.size w w')=>RW v ab n c F o gb ob bcs tb w' (by omega) (hna.below hb) (h.below hb)
 have htb:=fun w' (hb:Below w.heap.size w w')=>RW v ae m ce G o ge oe ecs te w' (by omega) (hnb.below hb) (h.below hb)
 rw[hN]at hta;rw[hM]at htb;clear hN hM;obtain⟨X,hX⟩: ∃X,n1+m1-1=X:=⟨_,rfl⟩
 have hX2:(if((n1+m1:Nat):Int)-1>0 then((n1+m1:Nat):Int)-1 else 0)=((X:Nat):Int):=by split<;>omega
 rw[hX]
 go_enter func139,ntmps139
 have sb:=YG w;iterate 2 go_step
 refine rp ?_;refine Ye (by rfl) 25 _ rfl (.pointer v) rfl rfl ?_;intro g3 z0 n0 r3 k;simp only[pv];clear n0;replace sb:=kk sb k;clear k;refine Ye (by rfl) 22 _ rfl (.slice ab n c) rfl rfl ?_;intro g4 z1 n0 r4 k;simp only[pv];have d3x4:=l_l r3.lt n0;have b4:=f_ sb.size n0;clear n0;replace r3:=k.ro r3;replace sb:=kk sb k;clear k;refine Ye (by rfl) 22 _ rfl (.slice ae m ce) rfl rfl ?_;intro g5 z2 n0 r5 k;simp only[pv];have d3x5:=l_l r3.lt n0;have d4x5:=l_l r4.lt n0;have b5:=f_ sb.size n0;clear n0;replace r3:=k.ro r3;replace r4:=k.ro r4;replace sb:=kk sb k;clear k;refine p_v (.slice none 0 0) ((fun _=>rfl)) (Zb ?_);simp only[pv];iterate 3 go_step
 refine YL (by kernel_rfl) [6,7] [(0,false),(1,false),(3,false),(4,false),(2,true),(5,true),(6,true),(7,true)] ?_ (by kernel_rfl);have or3:=r3;have or4:=r4;have or5:=r5;have cb:=Y8 sb;refine Y9 (by rfl) 25 _ rfl _ (0) rfl (fun _ hb=>(or3.belowAll hb).r) (.pointer v) rfl eL0 ?_;simp only[pv];refine Y9 (by rfl) 22 _ rfl _ (0) rfl (fun _ hb=>(or4.belowAll hb).r) (.slice ab n c) rfl aD0 ?_;simp only[pv];refine Y9 (by rfl) 25 _ rfl _ (0) rfl (fun _ hb=>(or3.belowAll hb).r) (.pointer v) rfl eL0 ?_;simp only[pv];refine Y9 (by rfl) 22 _ rfl _ (0) rfl (fun _ hb=>(or5.belowAll hb).r) (.slice ae m ce) rfl aD0 ?_;simp only[pv];refine XM (by rfl) 82 _ _ rfl func82 (by kernel_rfl) #[.pointer v,.slice ab n c] rfl ?_;intro wa2 hqb;replace r3:=r3.belowAll hqb;replace r4:=r4.belowAll hqb;replace r5:=r5.belowAll hqb;replace sb:=b_o sb hqb;replace cb:=b_o cb hqb;clear hqb;refine(hta _ sb).mono ?_;rintro _ wb2 ⟨g6,rfl,n6,r6,hb⟩;refine⟨_,rfl,fun _=>Zk cb (c_ _) hb,?_⟩;simp only[pv];have d4x6:=l_l r4.lt n6;have d5x6:=l_l r5.lt n6;clear n6;replace r3:=r3.belowAll hb;replace r4:=r4.belowAll hb;replace r5:=r5.belowAll hb;replace sb:=b_o sb hb;replace cb:=b_o cb hb;clear hb;refine XM (by rfl) 82 _ _ rfl func82 (by kernel_rfl) #[.pointer v,.slice ae m ce] rfl ?_;intro wa5 hqb;replace r3:=r3.belowAll hqb;replace r4:=r4.belowAll hqb;replace r5:=r5.belowAll hqb;replace r6:=r6.belowAll hqb;replace sb:=b_o sb hqb;replace cb:=b_o cb hqb;clear hqb;refine(htb _ sb).mono ?_;rintro _ wb5 ⟨g7,rfl,n7,r7,hb⟩;refine⟨_,rfl,fun _=>Zk cb (c_ _) hb,?_⟩;simp only[pv];have d4x7:=l_l r4.lt n7;have d5x7:=l_l r5.lt n7;clear n7;replace r3:=r3.belowAll hb;replace r4:=r4.belowAll hb;replace r5:=r5.belowAll hb;replace r6:=r6.belowAll hb;replace sb:=b_o sb hb;replace cb:=b_o cb hb;clear hb;refine T3 (by rfl) 22 _ _ rfl _ (0) rfl r4 (.slice (some ⟨g6,0,none⟩) n1 n) rfl rfl rfl Yy (by exact Nat.one_pos) (#[.slice (some ⟨g6,0,none⟩) n1 n]) rfl ?_;intro wa6 hqb;replace r3:=r3.belowAll hqb;replace r4:=r4.belowAll hqb;replace r5:=r5.belowAll hqb;replace r6:=r6.belowAll hqb;replace r7:=r7.belowAll hqb;replace sb:=b_o sb hqb;clear hqb r4;intro wb6 r4 k;refine⟨fun h=>(by cases h),?_⟩;simp only[Act.put];replace r3:=k.ro r3;replace r5:=k.ro r5;replace r6:=k.ro r6;replace r7:=k.ro r7;replace sb:=sb.trans (k.below _ sb.size (by simp<;>omega));clear k;refine T3 (by rfl) 22 _ _ rfl _ (0) rfl r5 (.slice (some ⟨g7,0,none⟩) m1 m) rfl rfl rfl Yy (by exact Nat.one_pos) (#[.slice (some ⟨g7,0,none⟩) m1 m]) rfl ?_;intro wa7 hqb;replace r3:=r3.belowAll hqb;replace r4:=r4.belowAll hqb;replace r5:=r5.belowAll hqb;replace r6:=r6.belowAll hqb;replace r7:=r7.belowAll hqb;replace sb:=b_o sb hqb;clear hqb r5;intro wb7 r5 k;refine⟨fun h=>(by cases h),?_⟩;simp only[Act.put];replace r3:=k.ro r3;replace r4:=k.ro r4;replace r6:=k.ro r6;replace r7:=k.ro r7;replace sb:=sb.trans (k.below _ sb.size (by simp<;>omega));clear k;refine Vk ?_;intro wz hqb;replace r3:=r3.belowAll hqb;replace r4:=r4.belowAll hqb;replace r5:=r5.belowAll hqb;replace r6:=r6.belowAll hqb;replace r7:=r7.belowAll hqb;replace sb:=b_o sb hqb;clear hqb cb or3 or4 or5;have hto:=fun w' (hb:Below w.heap.size w w') (q3:Row w' g3 #[.pointer v] 25) (q4:Row w' g4 #[.slice (some ⟨g6,0,none⟩) n1 n] 22) (q5:Row w' g5 #[.slice (some ⟨g7,0,none⟩) m1 m] 22) (q6:Row w' g6 (nsC n (yTm o F)) 57) (q7:Row w' g7 (nsC m (yTm o G)) 57)=>RV X 182 #[.pointer (some ⟨g5,0,none⟩),.pointer (some ⟨g4,0,none⟩),.pointer (some ⟨g3,0,none⟩)] (yMl o n1 (yTm o F) m1 (yTm o G)) w' func182 (by kernel_rfl) (by omega) (fun k _=>zO h _ _ _ _ _) (fun k hk w2 hb2=>G8 v (some ⟨g6,0,none⟩) (some ⟨g7,0,none⟩) n1 n m1 m k (yTm o F) (yTm o G) o g5 g4 g3 g6 0 g7 0 _ _ _ _ w2 (by omega) (by omega) (by omega) (q5.belowAll hb2) (q4.belowAll hb2) (q3.belowAll hb2) ((YA (q6.belowAll hb2) (fun _ _=>h.la _ _)).take hn1) ((YA (q7.belowAll hb2) (fun _ _=>h.la _ _)).take hm1) ((h.below hb).below hb2))
 iterate 3 go_step
 refine rp ?_;refine p_d 0 r4.r (.slice (some ⟨g6,0,none⟩) n1 n) rfl aD0 ?_;simp only[pv];refine p_v _ (n_l (some ⟨g6,0,none⟩) n1 n Zm) ?_;simp only[pv];refine p_d 0 r5.r (.slice (some ⟨g7,0,none⟩) m1 m) rfl aD0 ?_;simp only[pv];refine p_v _ (n_l (some ⟨g7,0,none⟩) m1 m Zm) ?_;simp only[pv];refine p_v _ (x_a n1 m1) ?_;simp only[pv];refine p_v (.int .i64 (((n1+m1:Nat):Int)-1)) (EM _ _ _ _ rfl ((n1+m1:Nat):Int) 1 _ rfl rfl (by rw[J_];omega)) ?_;simp only[pv];refine p_v (.int .i64 (X:Nat)) (Bn _ _ _ rfl 0 (((n1+m1:Nat):Int)-1) _ rfl rfl hX2) ?_;simp only[pv];refine p_v (.func (.func 182) #[] #[.pointer (some ⟨g5,0,none⟩),.pointer (some ⟨g4,0,none⟩),.pointer (some ⟨g3,0,none⟩)]) (Yr _ _ rfl _ rfl) ?_;simp only[pv];refine p_f 129 func129 #[.int .i64 (X:Nat),.func (.func 182) #[] #[.pointer (some ⟨g5,0,none⟩),.pointer (some ⟨g4,0,none⟩),.pointer (some ⟨g3,0,none⟩)]] (hto _ sb r3 r4 r5 r6 r7) ?_;rintro _ z2008 ⟨g,rfl,n',r',hb⟩;refine⟨_,rfl,?_⟩;simp only[pv];have b':=f_ sb.size n';clear n';have k:=Kept.ofBelow hb;clear hb;replace r3:=k.ro r3;replace r4:=k.ro r4;replace r5:=k.ro r5;replace r6:=k.ro r6;replace r7:=k.ro r7;replace sb:=kk sb k;clear k;refine p_a (Zb ?_);simp only[pv];go_wp2;go_ret;exact⟨g,rfl,b',r',sb⟩
theorem JN (v ab:Option Addr)(n c x:Nat)(F:Nat->Nat)(o:FO)(gb ob:Nat)(bcs:Array Value)(tb:TypeId)(w:World)(hn:n<=4000)(hx:x<2^256)(hna:NatsAt w ab n F gb ob bcs tb)(h:FA w v o):
  Calls prog 65 #[.pointer v,.slice ab n c,.agg (Zc x)] w fun e w'=>e= .returned (.agg (Zc (yHv o F n x n)))/\Below w.heap.size w w':=by
 have HB:Hid (NatsAt w ab n F gb ob bcs tb):=hna;have HS:Hid (∀k,yHv o F n x k<2^256):=fun k=>xx h F n x k
 have HX:Hid (x<2^256):=hx;clear hna hx
 go_enter func65,ntmps65
 iterate 2 go_step
 refine rp ?_;refine ZO (by rfl) 57 _ rfl (_) rfl ?_;intro g5 z0 n0 r5 k;simp only[pv];clear n0;have sb:=k_b k;clear k;refine ZT (by rfl) 57 rfl _ Zp ?_;intro g6 z1 n0 r6 k;simp only[pv];have d5x6:=l_l r5.lt n0;have b6:=f_ sb.size n0;clear n0;replace r5:=k.ro r5;replace sb:=kk sb k;clear k;refine Zb ?_;iterate 3 go_step
 refine rp ?_;refine ZT (by rfl) 57 rfl _ Zp ?_;intro g7 z1000 n0 r7 k;simp only[pv];have d5x7:=l_l r5.lt n0;have d6x7:=l_l r6.lt n0;have b7:=f_ sb.size n0;clear n0;replace r5:=k.ro r5;replace r6:=k.ro r6;replace sb:=kk sb k;clear k;refine Zb ?_;iterate 4 go_step
 refine rp ?_;refine p_m ?_;simp only[pv];refine p_v _ (n_l ab n c Zm) ?_;refine p_v (.int .i64 0) (fun _=>rfl) (Zb ?_);simp only[pv]
 go_wp2_with fail
 go_loopg [8,11] n (fun g s8 s11 wr=> ∃k:Nat,k+g=n/\s11= .int .i64 k/\Row wr g7 (Zc (yHv o F n x k)) 57/\Row wr g5 (Zc x) 57/\Row wr g6 (Zc 0) 57/\Below w.heap.size w wr)
 case atStart=>exact⟨0,by omega,rfl,r7,r5,r6,sb⟩
 case round=>
  clear r5 r6 r7 sb;obtain⟨k,hk,rfl,r7,r5,r6,sb⟩:=hrel
  cases gk with
  |zero=>
   obtain rfl:k=n:=by omega
   clear hk HS
   go_step
   refine rp ?_;refine p_v _ (Xe k k) (Zb ?_);simp only[pv];iterate 8 go_step
   refine rp ?_;refine p_l r7.r ?_;simp only[pv];refine p_p r6 (yHv o F k x k) ?_;clear r6;intro z7001 r6 k;simp only[Act.put];replace r5:=k.ro r5;replace r7:=k.ro r7;replace sb:=kk sb k;clear k;refine Zb ?_;go_wp2;exact ZM rfl _ rfl r6 4 _ b_ (by exact Zd) rfl ⟨rfl,sb⟩
  |succ g=>
   have hi:n-1-k<n:=by omega
   go_step
   refine rp ?_;refine p_v _ (X4 k n) (Zb ?_);simp only[pv];iterate 10 go_step
   refine rp ?_;refine p_m ?_;refine p_a (Zb ?_);simp only[pv];obtain h0|⟨rfl,rB,hbt⟩:=(HB.out.below sb).at'
   ·exact absurd h0 (by omega)
   have hbt':=hbt (n-1-k) hi;have hmu:=fun w' (hb':Below w.heap.size w w')=>h.mu (yHv o F n x k) x w' (HS.out k) HX.out hb'
   have had:=fun w' (hb':Below w.heap.size w w')=>h.ad (o.mu (yHv o F n x k) x) (F (n-1-k)) w' (h.lu _ _) (HB.out.lt _ hi) hb'
   have hB7:gb≠g7:=fun e=>by
    rcases HB.out.at' with h0|⟨_,q,_⟩
    ·omega
    ·have:=q.lt;omega
   clear hbt;iterate 2 go_step
   apply Zi (by kernel_rfl) [(g7,57,Zc (yHv o F n x k))] [_,_,_,_,_,_,_,_,_,_,_,_,_,_,_] ⟨r7,trivial⟩ (by simp<;>omega)
   ·intro p;refine m_m ?_;refine m_m ?_;simp only[pv];refine Yz 0 57 _ rfl rfl rfl 4 _ b_ Zd ?_;simp only[pv];refine m_l r5 ?_;simp only[pv];refine m_k 100 func100 #[.pointer v,.agg (Zc (yHv o F n x k)),.agg (Zc x)] (fun w' hk=>hmu w' (sb.trans (hk.below w.heap.size sb.size (by simp<;>omega)))) ?_;refine m_m ?_;refine m_m ?_;simp only[pv];refine Ze _ (n_l (some ⟨gb,ob,none⟩) n c Zm) ?_;simp only[pv];refine Ze _ ((Z2 _ _ _ _ rfl n 1 rfl rfl (by omega) (by omega))) ?_;refine m_m ?_;simp only[pv];refine Ze _ ((Z2 _ _ _ _ rfl (n-1) k rfl rfl (by omega) (by omega))) ?_;simp only[pv];refine m_x ((n-1-k)) hi r_ ZC ?_;simp only[pv];refine Yj 57 _ rfl _ (ob+(n-1-k)*4) rfl rB (by simp<;>omega) (Zc (F (n-1-k))) hbt' _ b_ rfl Zd ?_;simp only[pv];refine m_k 99 func99 #[.pointer v,.agg (Zc (o.mu (yHv o F n x k) x)),.agg (Zc (F (n-1-k)))] (fun w' hk=>had w' (sb.trans (hk.below w.heap.size sb.size (by simp<;>omega)))) ?_;simp only[pv];refine m_p 0 (yHv o F n x (k+1)) ?_;simp only[Act.put];refine Zf ?_;intro w2 hkw hrw hnew hdis;have zr7:Row w2 (g7) (Zc (yHv o F n x (k+1))) 57:=hrw 0 (57,Zc (yHv o F n x (k+1))) rfl;replace r5:=hkw.ro r5;replace r6:=hkw.ro r6;replace sb:=kk sb hkw;clear hkw hrw hnew hdis r7;have r7:=zr7;clear zr7;iterate 2 go_step
    refine rp ?_;refine p_v _ (x_a k 1) ?_;refine p_m (Zb ?_);simp only[pv];go_wp2
    go_roundg g
    case measure=>omega
    case rel=>exact⟨k+1,by omega,rfl,r7,r5,r6,sb⟩
   ·kernel_rfl
end Go.Proofs.YtnagnkhbamhfmaaGreatDoor
