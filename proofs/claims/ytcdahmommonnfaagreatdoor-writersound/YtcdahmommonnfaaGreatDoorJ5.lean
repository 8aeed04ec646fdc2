import Derived.Test.YtcdahmommonnfaaGreatDoorJ4
import Derived.Test.YtcdahmommonnfaaGreatDoorEW
import Derived.Test.YtcdahmommonnfaaGreatDoorTA
import Derived.OwnWalk
set_option maxRecDepth 100000
set_option maxHeartbeats 8000000
namespace Go.Proofs.YtcdahmommonnfaaGreatDoor
set_option linter.all false
open Go.RowKit
open Go.Proofs.Tryz
structure FA (w:World)(v:Option Addr)(o:FO):Prop where
 ad: ∀A B w',A<2^256->B<2^256->Below w.heap.size w w'->Calls prog 254 #[.pointer v,.agg (Zc A),.agg (Zc B)] w' (Rt (.agg (Zc (o.ad A B))) w')
 mu: ∀A B w',A<2^256->B<2^256->Below w.heap.size w w'->Calls prog 258 #[.pointer v,.agg (Zc A),.agg (Zc B)] w' (Rt (.agg (Zc (o.mu A B))) w')
 la: ∀A B,o.ad A B<2^256
 lu: ∀A B,o.mu A B<2^256
theorem FA.below {w w':World}{v:Option Addr}{o:FO}(h:FA w v o)(hb:Below w.heap.size w w'):FA w' v o:=
 ⟨fun A B w2 hA hB h2=>h.ad A B w2 hA hB (Zk hb (Nat.le_refl _) h2),fun A B w2 hA hB h2=>h.mu A B w2 hA hB (Zk hb (Nat.le_refl _) h2),h.la,h.lu⟩
theorem GrpAt.fa {w:World}{g gr gf P Q G:Nat}(q:FdQ Q)(h:GrpAt w g gr gf P Q G):FA w (some ⟨g,0,none⟩) (fO Q):=
 ⟨fun A B w' hA hB hb=>Fq A B g gr gf P Q G w' hA hB q (h.below hb),fun A B w' hA hB hb=>Fr A B g gr gf P Q G w' hA hB q (h.below hb),fun A B=>Nat.lt_trans (Nat.mod_lt _ q.pos) q.m,fun A B=>Nat.lt_trans (Nat.mod_lt _ q.pos) q.m⟩
theorem NoG.fa {w:World}{v:Option Addr}(h:NoG w v):FA w v nO:=
 ⟨fun A B w' hA hB hb=>Fs v A B w' hA hB (h.below hb),fun A B w' hA hB hb=>Ft v A B w' (h.below hb),fun _ _=>(by show 0<2^256;decide),fun _ _=>(by show 0<2^256;decide)⟩
theorem By {w:World}{v:Option Addr}{o:FO}(h:FA w v o)(F:Nat->Nat)(n x:Nat): ∀k,yHv o F n x k<2^256
 |0=>by show 0<_;decide
 |_+1=>h.la _ _
theorem FB:prog.elem 54=39:=by kernel_rfl
theorem Vu (w:World):(sizeOf (prog.elem 54)).run prog w= .ok 4 w:=by rw[FB];exact ZU w
theorem Ws:(prog.info? 54).map (·.size)=some 1:=by kernel_rfl
theorem Qq (ab:Option Addr)(n c:Nat)(F:Nat->Nat)(gb ob:Nat)(bcs:Array Value)(tb:TypeId)(w:World)(hn:n<9223372036854775808)(hc:n<=c)(hna:NatsAt w ab n F gb ob bcs tb):
  Calls prog 266 #[.slice ab n c] w fun e w'=>e= .returned (.slice ab (yTn F n) c)/\Below w.heap.size w w':=by
 have HB:Hid (NatsAt w ab n F gb ob bcs tb):=hna;clear hna
 go_enter func266,ntmps266
 have sb:=Z9 w;iterate 2 go_step
 refine rp ?_;refine p_v (.slice none 0 0) ((fun _=>rfl)) (Za ?_);simp only[pv]
 go_wp2_with fail
 go_loopg [0] n (fun g s0 wr=>g<=n/\s0= .slice ab g c/\yTn F g=yTn F n/\Below w.heap.size w wr)
 case atStart=>exact⟨Nat.le_refl n,rfl,rfl,sb⟩
 case round=>
  clear sb;obtain⟨hg,rfl,he,sb⟩:=hrel
  cases gk with
  |zero=>
   have HE0:Hid (yTn F n=0):=he.symm;clear he;iterate 2 go_step
   refine rp ?_;refine p_m ?_;simp only[pv];refine p_v _ (n_l ab 0 c ZN) ?_;simp only[pv];refine p_v _ (Z4 _ _ _ _ rfl 0 0 rfl rfl false (decide_eq_false (by decide))) ?_;refine p_m ?_;refine p_s ?_;refine p_s ?_;refine p_s ?_;simp only[pv];refine p_s ?_;refine p_s ?_;refine p_s ?_;refine p_s ?_;refine p_s ?_;simp only[pv];refine p_k false (.bool false) (Za ?_);simp only[pv];iterate 7 go_step
   refine rp ?_;refine p_m ?_;refine p_a (Za ?_);simp only[pv];go_wp2;go_ret;exact⟨by rw[HE0.out];rfl,sb⟩
  |succ m=>
   obtain h0|⟨rfl,rB,hbt⟩:=(HB.out.below sb).at'
   ·exact absurd h0 (by omega)
   have hbt':=hbt m (by omega);have hlt:=HB.out.lt m (by omega);clear hbt;by_cases hz:F m=0
   ·have hd:decide (F m%2^256=0%2^256)=true:=by rw[hz];rfl
    have he':yTn F m=yTn F n:=by
     rw[<-he];show _=if F m=0 then _ else _
     rw[if_pos hz]
    clear he hz;iterate 2 go_step
    refine rp ?_;refine p_m ?_;simp only[pv];refine p_v _ (n_l (some ⟨gb,ob,none⟩) ((m+1:Nat)) c ZN) ?_;simp only[pv];refine p_v _ (Jp (m+1:Nat) 0) ?_;refine p_m ?_;refine p_m ?_;refine p_m ?_;simp only[pv];refine p_v _ (n_l (some ⟨gb,ob,none⟩) ((m+1:Nat)) c ZN) ?_;simp only[pv];refine p_v _ (ZT _ _ _ _ rfl (m+1) 1 rfl rfl (by omega) (by omega)) ?_;simp only[pv];refine p_v _ ((Zs 54 _ _ rfl gb ob (m+1) (c) rfl (m) rfl (by omega) _ underlying54 4 ZU)) ?_;simp only[pv];refine Zf (by rfl) 39 _ rfl _ (ob+m*4) rfl rB (Zc (F m)) hbt' _ underlying39 rfl Ze ?_;simp only[pv];refine p_v _ (ZS _ rfl _ ZO) ?_;simp only[pv];refine p_v (.bool true) (fun w'=>(ZZ _ _ _ rfl (F m) 0 rfl rfl w').trans (by rw[hd])) ?_;refine p_k true (.bool true) (Za ?_);simp only[pv];clear rB;iterate 7 go_step
    refine rp ?_;refine p_m ?_;refine p_m ?_;simp only[pv];refine p_v _ (n_l (some ⟨gb,ob,none⟩) ((m+1:Nat)) c ZN) ?_;simp only[pv];refine p_v _ (ZT _ _ _ _ rfl (m+1) 1 rfl rfl (by omega) (by omega)) ?_;simp only[pv];refine p_v _ (T2 _ _ _ rfl ZN 4 Vu _ (m+1) c m rfl rfl (by omega)) ?_;simp only[pv];refine p_a ?_;simp only[Act.put,List.setIfInBounds_toArray,List.set_cons_zero];refine Za ?_;go_wp2
    go_roundg m
    case measure=>omega
    case rel=>exact⟨by omega,rfl,he',sb⟩
   ·have hd:decide (F m%2^256=0%2^256)=false:=by
     rw[Nat.mod_eq_of_lt hlt];exact decide_eq_false hz
    have HE0:Hid (m+1=yTn F n):=by
     show _=_
     rw[<-he];show _=if F m=0 then _ else _
     rw[if_neg hz]
    clear he hz;iterate 2 go_step
    refine rp ?_;refine p_m ?_;simp only[pv];refine p_v _ (n_l (some ⟨gb,ob,none⟩) ((m+1:Nat)) c ZN) ?_;simp only[pv];refine p_v _ (Jp (m+1:Nat) 0) ?_;refine p_m ?_;refine p_m ?_;refine p_m ?_;simp only[pv];refine p_v _ (n_l (some ⟨gb,ob,none⟩) ((m+1:Nat)) c ZN) ?_;simp only[pv];refine p_v _ (ZT _ _ _ _ rfl (m+1) 1 rfl rfl (by omega) (by omega)) ?_;simp only[pv];refine p_v _ ((Zs 54 _ _ rfl gb ob (m+1) (c) rfl (m) rfl (by omega) _ underlying54 4 ZU)) ?_;simp only[pv];refine Zf (by rfl) 39 _ rfl _ (ob+m*4) rfl rB (Zc (F m)) hbt' _ underlying39 rfl Ze ?_;simp only[pv];refine p_v _ (ZS _ rfl _ ZO) ?_;simp only[pv];refine p_v (.bool false) (fun w'=>(ZZ _ _ _ rfl (F m) 0 rfl rfl w').trans (by rw[hd])) ?_;refine p_k true (.bool false) (Za ?_);simp only[pv];iterate 7 go_step
    refine rp ?_;refine p_m ?_;refine p_a (Za ?_);simp only[pv];go_wp2;go_ret;exact⟨by rw[<-HE0.out];rfl,sb⟩
theorem JN {fn:Func}(n:Nat)(f:FuncId)(caps:Array Value)(F:Nat->Nat)(w:World)(hf:prog.funcs[f]?=some fn)(hb0:(fn.name== "runtime.NumGoroutine" ||fn.body.isNone)=false)(hn:n<=4000)(hF: ∀k,k<n->F k<2^256)
  (hc: ∀k:Nat,k<n-> ∀w',Below w.heap.size w w'->Calls prog f (#[.int .i64 k]++caps) w' (Rt (.agg (Zc (F k))) w')):
  Calls prog 252 #[.int .i64 n,.func (.func f) #[] caps] w fun e w'=> ∃g,e= .returned (.slice (some ⟨g,0,none⟩) (yTn (F) (n)) (n))/\w.heap.size<=g/\Row w' g (nsC (n) (F)) 39/\Below w.heap.size w w':=by
 obtain⟨ie,hie,hze,hsz,hby⟩:=YL;have HF:Hid (∀k,k<n->F k<2^256):=hF;clear hF
 go_enter func252,ntmps252
 have sb:=Z9 w;iterate 2 go_step
 refine rp ?_;refine p_v (.slice none 0 0) ((fun _=>rfl)) (Za ?_);simp only[pv];iterate 3 go_step
 refine rp ?_;refine p_m ?_;simp only[pv];refine Wn (by rfl) 54 39 _ _ rfl ie _ underlying54 hie hze n rfl rfl (by rw[hsz];omega) (by rw[hby];omega) (by omega) ?_;intro gM z1001 n0 rM k;simp only[pv];have bM:=Nat.le_trans sb.size n0;clear n0;replace sb:=kk sb k;clear k;refine p_a (Za ?_);simp only[pv];rw[hsz,WI]at rM;iterate 4 go_step
 refine rp ?_;refine p_m ?_;refine p_v (.int .i64 0) (fun _=>rfl) (Za ?_);simp only[pv]
 go_wp2_with fail
 go_loopg [6,10] n (fun g s6 s10 wr=> ∃k:Nat,k+g=n/\s10= .int .i64 k/\Row wr gM (nsC n (fun j=>if j<k then F j else 0)) 39/\Below w.heap.size w wr)
 case atStart=>exact⟨0,by omega,rfl,by rw[show(fun j=>if j<0 then F j else 0)=fun _=>0 from funext fun j=>if_neg (by omega)];exact rM,sb⟩
 case round=>
  clear rM sb;obtain⟨k,hk,rfl,rM,sb⟩:=hrel
  cases gk with
  |zero=>
   obtain rfl:k=n:=by omega
   clear hk hc;rw[XP k _ F (fun j hj=>if_pos hj)]at rM;have htr:=fun w' (r:Row w' gM (nsC k F) 39)=>Qq (some ⟨gM,0,none⟩) k k F gM 0 _ _ w' (by omega) (Nat.le_refl k) (T3 r HF.out)
   go_step
   refine rp ?_;refine p_v _ (Xy k k) (Za ?_);simp only[pv];iterate 8 go_step
   refine rp ?_;refine p_m ?_;simp only[pv];refine p_c 266 func266 #[.slice (some ⟨gM,0,none⟩) k k] (htr _ rM) ?_;intro z7001 k;simp only[pv];replace rM:=k.ro rM;replace sb:=kk sb k;clear k;refine p_a (Za ?_);simp only[pv];go_wp2;go_ret;exact⟨gM,rfl,bM,rM,sb⟩
  |succ g=>
   have hlt:k<n:=by omega
   have hput:=W8 n (fun j=>if j<k then F j else 0) (fun j=>if j<k+1 then F j else 0) k hlt (0+k*4) (by omega) (F k) (fun j hj=>by
    by_cases hjk:j=k
    ·subst hjk;rw[if_pos (by omega),if_pos rfl]
    ·rw[if_neg hjk];by_cases h2:j<k
     ·rw[if_pos h2,if_pos (by omega)]
     ·rw[if_neg h2,if_neg (by omega)])
   go_step
   refine rp ?_;refine p_v _ (XK k n) (Za ?_);simp only[pv];iterate 10 go_step
   refine rp ?_;refine p_m ?_;refine p_a (Za ?_);simp only[pv];iterate 2 go_step
   refine rp ?_;refine p_m ?_;refine p_m ?_;refine p_m ?_;refine p_m ?_;simp only[pv];refine Yd (by rfl) (f) _ _ _ rfl (caps) rfl (hf) (hb0) #[.int .i64 (k:Nat)] rfl _ (hc k hlt _ sb) ?_;intro z5004 k;simp only[pv];replace rM:=k.ro rM;replace sb:=kk sb k;clear k;refine p_x k hlt underlying54 ZU ?_;simp only[pv];refine X2 (by rfl) 39 _ _ rfl _ (0+k*4) rfl rM (Zc (F k)) rfl (by exact Ze) (by rw[Z7,Zt];omega) (ZA _) (nsC n (fun j=>if j<k+1 then F j else 0)) hput ?_;clear rM;intro z5006 rM k;simp only[Act.put];replace sb:=kk sb k;clear k;refine Za ?_;clear hput;iterate 2 go_step
   refine rp ?_;refine p_v _ (x_a k 1) ?_;refine p_m (Za ?_);simp only[pv];go_wp2
   go_roundg g
   case measure=>omega
   case rel=>exact⟨k+1,by omega,rfl,rM,sb⟩
theorem MY (v ab:Option Addr)(n c k:Nat)(F:Nat->Nat)(o:FO)(g1 g2 gb ob:Nat)(bcs:Array Value)(tb:TypeId)(w:World)(hk:k<n)(r1:Row w g1 #[.pointer v] 32)(r2:Row w g2 #[.slice ab n c] 54)(hna:NatsAt w ab n F gb ob bcs tb)(h:FA w v o):
  Calls prog 253 #[.int .i64 k,.pointer (some ⟨g1,0,none⟩),.pointer (some ⟨g2,0,none⟩)] w fun e w'=>e= .returned (.agg (Zc (yTm o F k)))/\Below w.heap.size w w':=by
 have hlt:=hna.lt k hk;have had:=fun w' (hb:Below w.heap.size w w')=>h.ad (F k) 0 w' hlt (by decide) hb
 obtain h0|⟨rfl,rB,hbt⟩:=hna.at'
 ·exact absurd h0 (by omega)
 have hbt':=hbt k hk;have hBw:=rB.lt;have HN:Hid (NatsAt w (some ⟨gb,ob,none⟩) n F gb ob bcs tb):=hna;clear hbt rB hna h
 go_enter func253,ntmps253
 iterate 2 go_step
 refine rp ?_;refine ZJ (by rfl) 39 rfl _ Zv ?_;intro g4 z0 n0 r4 k;simp only[pv];have d1x4:=l_l r1.lt n0;have d2x4:=l_l r2.lt n0;have b4:w.heap.size<=g4:=n0;clear n0;replace r1:=k.ro r1;replace r2:=k.ro r2;have sb:=k_b k;clear k;refine Za ?_;obtain h0|⟨_,rB,_⟩:=(HN.out.below sb).at'
 ·exact absurd h0 (by omega)
 iterate 3 go_step
 apply Zo (by kernel_rfl) [(g4,39,Zc 0)] [_,_,_,_,_,_,_,_] ⟨r4,trivial⟩ (by simp<;>omega)
 ·intro p;refine ZB 32 _ rfl _ (0) rfl r1 (by simp<;>omega) (.pointer v) rfl isAgg32 ?_;simp only[pv];refine ZB 54 _ rfl _ (0) rfl r2 (by simp<;>omega) (.slice (some ⟨gb,ob,none⟩) n c) rfl isAgg54 ?_;refine m_m ?_;simp only[pv];refine m_x k hk underlying54 ZU ?_;simp only[pv];refine Xf 39 _ rfl _ (ob+k*4) rfl rB (by simp<;>omega) (Zc (F k)) hbt' _ underlying39 rfl Ze ?_;simp only[pv];refine Zg _ (ZS _ rfl _ ZO) ?_;simp only[pv];refine m_k 254 func254 #[.pointer v,.agg (Zc (F k)),.agg (Zc 0)] (fun w' hk=>had w' (sb.trans (hk.below w.heap.size sb.size (by simp<;>omega)))) ?_;simp only[pv];refine m_p 0 (yTm o F k) ?_;simp only[Act.put];refine Zi ?_;intro w2 hkw hrw hnew hdis;have zr4:Row w2 (g4) (Zc (yTm o F k)) 39:=hrw 0 (39,Zc (yTm o F k)) rfl;replace sb:=kk sb hkw;clear hkw hrw hnew hdis r4;have r4:=zr4;clear zr4;go_wp2;exact ZX rfl _ rfl r4 4 _ underlying39 (by exact Ze) rfl ⟨rfl,sb⟩
 ·kernel_rfl
theorem JO (v ab:Option Addr)(n c:Nat)(F:Nat->Nat)(o:FO)(gb ob:Nat)(bcs:Array Value)(tb:TypeId)(w:World)(hn:n<=4000)(hna:NatsAt w ab n F gb ob bcs tb)(h:FA w v o):
  Calls prog 229 #[.pointer v,.slice ab n c] w fun e w'=> ∃g,e= .returned (.slice (some ⟨g,0,none⟩) (yTn (yTm o F) (n)) (n))/\w.heap.size<=g/\Row w' g (nsC (n) (yTm o F)) 39/\Below w.heap.size w w':=by
 go_enter func229,ntmps229
 have sb:=Z9 w;iterate 2 go_step
 refine rp ?_;refine Y4 (by rfl) 32 _ rfl (.pointer v) rfl rfl ?_;intro g2 z0 n0 r2 k;simp only[pv];clear n0;replace sb:=kk sb k;clear k;refine Y4 (by rfl) 54 _ rfl (.slice ab n c) rfl rfl ?_;intro g3 z1 n0 r3 k;simp only[pv];clear n0;replace r2:=k.ro r2;replace sb:=kk sb k;clear k;refine p_v (.slice none 0 0) ((fun _=>rfl)) (Za ?_);simp only[pv];have hto:=fun w' (hb:Below w.heap.size w w') (q2:Row w' g2 #[.pointer v] 32) (q3:Row w' g3 #[.slice ab n c] 54)=>JN n 253 #[.pointer (some ⟨g2,0,none⟩),.pointer (some ⟨g3,0,none⟩)] (yTm o F) w' func253 (by kernel_rfl) hn (fun k _=>h.la _ _) (fun k hk w2 hb2=>MY v ab n c k F o g2 g3 gb ob bcs tb w2 hk (q2.belowAll hb2) (q3.belowAll hb2) ((hna.below hb).below hb2) ((h.below hb).below hb2))
 iterate 3 go_step
 refine rp ?_;refine p_d 0 r3.r (.slice ab n c) rfl isAgg54 ?_;simp only[pv];refine p_v _ (n_l ab n c ZN) ?_;simp only[pv];refine p_v (.func (.func 253) #[] #[.pointer (some ⟨g2,0,none⟩),.pointer (some ⟨g3,0,none⟩)]) (YG _ _ rfl _ rfl) ?_;simp only[pv];refine p_f 252 func252 #[.int .i64 n,.func (.func 253) #[] #[.pointer (some ⟨g2,0,none⟩),.pointer (some ⟨g3,0,none⟩)]] (hto _ sb r2 r3) ?_;rintro _ z1003 ⟨g,rfl,n',r',hb⟩;refine⟨_,rfl,?_⟩;simp only[pv];have b':=Nat.le_trans sb.size n';clear n';have k:=Kept.ofBelow hb;clear hb;replace r2:=k.ro r2;replace r3:=k.ro r3;replace sb:=kk sb k;clear k;refine p_a (Za ?_);simp only[pv];go_wp2;go_ret;exact⟨g,rfl,b',r',sb⟩
theorem MZ (v ab:Option Addr)(n c x:Nat)(F:Nat->Nat)(o:FO)(gb ob:Nat)(bcs:Array Value)(tb:TypeId)(w:World)(hn:n<=4000)(hx:x<2^256)(hna:NatsAt w ab n F gb ob bcs tb)(h:FA w v o):
  Calls prog 237 #[.pointer v,.slice ab n c,.agg (Zc x)] w fun e w'=>e= .returned (.agg (Zc (yHv o F n x n)))/\Below w.heap.size w w':=by
 have HB:Hid (NatsAt w ab n F gb ob bcs tb):=hna;have HS:Hid (∀k,yHv o F n x k<2^256):=fun k=>By h F n x k
 have HX:Hid (x<2^256):=hx;clear hna hx
 go_enter func237,ntmps237
 iterate 2 go_step
 refine rp ?_;refine ZD (by rfl) 39 _ rfl (_) rfl ?_;intro g5 z0 n0 r5 k;simp only[pv];clear n0;have sb:=k_b k;clear k;refine ZJ (by rfl) 39 rfl _ Zv ?_;intro g6 z1 n0 r6 k;simp only[pv];have d5x6:=l_l r5.lt n0;have b6:=Nat.le_trans sb.size n0;clear n0;replace r5:=k.ro r5;replace sb:=kk sb k;clear k;refine Za ?_;iterate 3 go_step
 refine rp ?_;refine ZJ (by rfl) 39 rfl _ Zv ?_;intro g7 z1000 n0 r7 k;simp only[pv];have d5x7:=l_l r5.lt n0;have d6x7:=l_l r6.lt n0;have b7:=Nat.le_trans sb.size n0;clear n0;replace r5:=k.ro r5;replace r6:=k.ro r6;replace sb:=kk sb k;clear k;refine Za ?_;iterate 4 go_step
 refine rp ?_;refine p_m ?_;simp only[pv];refine p_v _ (n_l ab n c ZN) ?_;refine p_v (.int .i64 0) (fun _=>rfl) (Za ?_);simp only[pv]
 go_wp2_with fail
 go_loopg [8,11] n (fun g s8 s11 wr=> ∃k:Nat,k+g=n/\s11= .int .i64 k/\Row wr g7 (Zc (yHv o F n x k)) 39/\Row wr g5 (Zc x) 39/\Row wr g6 (Zc 0) 39/\Below w.heap.size w wr)
 case atStart=>exact⟨0,by omega,rfl,r7,r5,r6,sb⟩
 case round=>
  clear r5 r6 r7 sb;obtain⟨k,hk,rfl,r7,r5,r6,sb⟩:=hrel
  cases gk with
  |zero=>
   obtain rfl:k=n:=by omega
   clear hk HS
   go_step
   refine rp ?_;refine p_v _ (Xy k k) (Za ?_);simp only[pv];iterate 8 go_step
   refine rp ?_;refine p_l r7.r ?_;simp only[pv];refine p_p r6 (yHv o F k x k) ?_;clear r6;intro z7001 r6 k;simp only[Act.put];replace r5:=k.ro r5;replace r7:=k.ro r7;replace sb:=kk sb k;clear k;refine Za ?_;go_wp2;exact ZX rfl _ rfl r6 4 _ underlying39 (by exact Ze) rfl ⟨rfl,sb⟩
  |succ g=>
   have hi:n-1-k<n:=by omega
   go_step
   refine rp ?_;refine p_v _ (XK k n) (Za ?_);simp only[pv];iterate 10 go_step
   refine rp ?_;refine p_m ?_;refine p_a (Za ?_);simp only[pv];obtain h0|⟨rfl,rB,hbt⟩:=(HB.out.below sb).at'
   ·exact absurd h0 (by omega)
   have hbt':=hbt (n-1-k) hi;have hmu:=fun w' (hb':Below w.heap.size w w')=>h.mu (yHv o F n x k) x w' (HS.out k) HX.out hb'
   have had:=fun w' (hb':Below w.heap.size w w')=>h.ad (o.mu (yHv o F n x k) x) (F (n-1-k)) w' (h.lu _ _) (HB.out.lt _ hi) hb'
   have hB7:gb≠g7:=fun e=>by
    rcases HB.out.at' with h0|⟨_,q,_⟩
    ·omega
    ·have:=q.lt;omega
   clear hbt;iterate 2 go_step
   apply Zo (by kernel_rfl) [(g7,39,Zc (yHv o F n x k))] [_,_,_,_,_,_,_,_,_,_,_,_,_,_,_] ⟨r7,trivial⟩ (by simp<;>omega)
   ·intro p;refine m_m ?_;refine m_m ?_;simp only[pv];refine XE 0 39 _ rfl rfl rfl 4 _ underlying39 Ze ?_;simp only[pv];refine m_l r5 ?_;simp only[pv];refine m_k 258 func258 #[.pointer v,.agg (Zc (yHv o F n x k)),.agg (Zc x)] (fun w' hk=>hmu w' (sb.trans (hk.below w.heap.size sb.size (by simp<;>omega)))) ?_;refine m_m ?_;refine m_m ?_;simp only[pv];refine Zg _ (n_l (some ⟨gb,ob,none⟩) n c ZN) ?_;simp only[pv];refine Zg _ ((ZT _ _ _ _ rfl n 1 rfl rfl (by omega) (by omega))) ?_;refine m_m ?_;simp only[pv];refine Zg _ ((ZT _ _ _ _ rfl (n-1) k rfl rfl (by omega) (by omega))) ?_;simp only[pv];refine m_x ((n-1-k)) hi underlying54 ZU ?_;simp only[pv];refine Xf 39 _ rfl _ (ob+(n-1-k)*4) rfl rB (by simp<;>omega) (Zc (F (n-1-k))) hbt' _ underlying39 rfl Ze ?_;simp only[pv];refine m_k 254 func254 #[.pointer v,.agg (Zc (o.mu (yHv o F n x k) x)),.agg (Zc (F (n-1-k)))] (fun w' hk=>had w' (sb.trans (hk.below w.heap.size sb.size (by simp<;>omega)))) ?_;simp only[pv];refine m_p 0 (yHv o F n x (k+1)) ?_;simp only[Act.put];refine Zi ?_;intro w2 hkw hrw hnew hdis;have zr7:Row w2 (g7) (Zc (yHv o F n x (k+1))) 39:=hrw 0 (39,Zc (yHv o F n x (k+1))) rfl;replace r5:=hkw.ro r5;replace r6:=hkw.ro r6;replace sb:=kk sb hkw;clear hkw hrw hnew hdis r7;have r7:=zr7;clear zr7;iterate 2 go_step
    refine rp ?_;refine p_v _ (x_a k 1) ?_;refine p_m (Za ?_);simp only[pv];go_wp2
    go_roundg g
    case measure=>omega
    case rel=>exact⟨k+1,by omega,rfl,r7,r5,r6,sb⟩
   ·kernel_rfl
section
variable {Q:Nat}[NeZero Q]
def PlA (w:World)(v:Value)(L:List (Fin Q)):Prop:= ∃ab n c F gb ob bcs tb,v= .slice ab n c/\n<=1000/\NatsAt w ab n F gb ob bcs tb/\fl n F=L
def DC (w:World)(v:Value)(L:List (Fin Q)):Prop:= ∃ab c gb ob bcs tb,v= .slice ab L.length c/\NatsAt w ab L.length (fun i=>(pco L i).val) gb ob bcs tb
theorem PlA.below {w w':World}{v:Value}{L:List (Fin Q)}(h:PlA w v L)(hb:Below w.heap.size w w'):PlA w' v L:=by
 obtain⟨ab,n,c,F,gb,ob,bcs,tb,h1,h2,h3,h4⟩:=h;exact⟨ab,n,c,F,gb,ob,bcs,tb,h1,h2,h3.below hb,h4⟩
theorem DC.below {w w':World}{v:Value}{L:List (Fin Q)}(h:DC w v L)(hb:Below w.heap.size w w'):DC w' v L:=by
 obtain⟨ab,c,gb,ob,bcs,tb,h1,h3⟩:=h;exact⟨ab,c,gb,ob,bcs,tb,h1,h3.below hb⟩
theorem NatsAt.pl {w:World}{ab:Option Addr}{n c:Nat}{F:Nat->Nat}{gb ob:Nat}{bcs:Array Value}{tb:TypeId}(h:NatsAt w ab n F gb ob bcs tb)(hn:n<=1000):PlA w (.slice ab n c) (fl n F:List (Fin Q)):=
 ⟨ab,n,c,F,gb,ob,bcs,tb,rfl,hn,h,rfl⟩
section
variable {g gr gf P G:Nat}{w:World}
theorem Bz (va:Value)(La:List (Fin Q))(x:Nat)(hx:x<2^256)(q:FdQ Q)(h:GrpAt w g gr gf P Q G)(ha:PlA w va La):
  Calls prog 237 #[.pointer (some ⟨g,0,none⟩),va,.agg (Zc x)] w (Rt (.agg (Zc (pev (fi x) La).val)) w):=by
 obtain⟨ab,n,c,F,gb,ob,bcs,tb,rfl,hn,hna,rfl⟩:=ha;have:=MZ (some ⟨g,0,none⟩) ab n c x F (fO Q) gb ob bcs tb w (by omega) hx hna (h.fa q);rw[Dz]at this;exact this
end
end
theorem Ho {P:Program}{o:Oper}{ρ:Operand->Value}(t:TypeId)(x lo hi:Operand)(ho:o.op= .slice t x (some lo) (some hi) none)(hu:P.underlying t=some (.slice (P.elem t)))(z:Nat)(hz: ∀w,(sizeOf (P.elem t)).run P w= .ok z w)(g off n c l h:Nat)(hx:ρ x= .slice (some ⟨g,off,none⟩) n c)(hl:ρ lo= .int .i64 l)(hh:ρ hi= .int .i64 h)(h1:l<=h)(h2:h<=c)(h3:l<c)(w:World):
  (execOp ρ o).run P w= .ok (.value (.slice (some ⟨g,off+l*z,none⟩) (h-l) (c-l))) w:=by
 have hr:(Instr.sliceAt t (.slice (some ⟨g,off,none⟩) n c) (some (.int .i64 l)) (some (.int .i64 h)) none).run P w= .ok (.slice (some ⟨g,off+l*z,none⟩) (h-l) (c-l)) w:=by
  rw[run_sliceAt_slice w t _ _ _ _ hu,run_slice_lh w t _ n c hu .i64 .i64 l h (by omega) (by omega) (by omega),hz,Result.andThen_ok,Int.toNat_natCast,Int.toNat_natCast];unfold sliced;rw[if_neg (by omega)];simp[Addr.add]
 unfold execOp;simp only[ho,hx,hl,hh,Option.map_some,Option.map_none,Sem.run_bind,hr,Result.andThen_ok];rfl
def yTk (q:Nat)(lo:Nat)(B:Nat->Nat)(c:Nat)(R:Nat->Nat)(k i:Nat):Nat:=if lo<=i/\i<lo+k then sbN (R i) (B (i-lo)*c%q) q else R i
section
variable {Q:Nat}[NeZero Q]
end
def ivF {Q:Nat}[NeZero Q](x:Fin Q):Fin Q:=fi (E2 x.val Q)
def esC (k n:Nat)(C:Nat->Array Value):Array Value:=Array.ofFn (n:=n*k) fun i=>((C (i/k))[i.val%k]?).getD undef
theorem Y1 (k n:Nat)(C:Nat->Array Value):(esC k n C).size=n*k:=by simp[esC]
theorem Vb {k n:Nat}{C:Nat->Array Value}(hC: ∀i,(C i).size=k)(i j:Nat)(hi:i<n)(hj:j<k):(esC k n C)[i*k+j]?=(C i)[j]?:=by
 have h1:i*k+j<n*k:=Nat.lt_of_lt_of_le (Nat.add_lt_add_left hj _) (by rw[<-Nat.succ_mul];exact Nat.mul_le_mul_right k hi);have h2:(i*k+j)/k=i:=by rw[Nat.mul_comm,Nat.mul_add_div (by omega),Nat.div_eq_of_lt hj,Nat.add_zero]
 have h3:(i*k+j)%k=j:=by rw[Nat.mul_comm,Nat.mul_add_mod,Nat.mod_eq_of_lt hj]
 have h4:j<(C i).size:=by rw[hC];exact hj
 simp[esC,h1,h2,h3,h4]
theorem V5 {k n:Nat}{C:Nat->Array Value}(hC: ∀i,(C i).size=k)(i:Nat)(hi:i<n)(off:Nat)(ho:off=i*k): ∀j v,(C i).toList[j]?=some v->(esC k n C)[off+j]?=some v:=by
 intro j v hv;subst ho;rw[Array.getElem?_toList]at hv
 have hj:j<k:=by
  have:=(Array.getElem?_eq_some_iff.1 hv).1;rw[hC]at this;exact this
 rw[Vb hC i j hi hj,hv]
theorem T4 {k n i:Nat}(h:i<n*k):i/k<n:=Nat.div_lt_of_lt_mul (by rw[Nat.mul_comm];exact h)
theorem Rj {k n:Nat}{C:Nat->Array Value}(hC: ∀i,(C i).size=k)(i:Nat)(h:i<n*k):(esC k n C)[i]?=(C (i/k))[i%k]?:=by
 have hk:0<k:=by
  rcases Nat.eq_zero_or_pos k with e|e
  ·rw[e,Nat.mul_zero]at h;omega
  ·exact e
 have e:i/k*k+i%k=i:=by rw[Nat.mul_comm];exact Nat.div_add_mod i k
 have:=Vb hC (i/k) (i%k) (T4 h) (Nat.mod_lt _ hk);rw[e]at this;exact this
theorem Rk {k n:Nat}{C D:Nat->Array Value}(h: ∀i,i<n->C i=D i):esC k n C=esC k n D:=by
 apply Array.ext_getElem?;intro i;by_cases hi:i<n*k
 ·have:=h (i/k) (T4 hi);simp[esC,hi,this]
 ·rw[Array.getElem?_eq_none (by rw[Y1];omega),Array.getElem?_eq_none (by rw[Y1];omega)]
theorem JP {k:Nat}{C:Nat->Array Value}(hC: ∀i,(C i).size=k)(n:Nat):(esC k n C).toList++(C n).toList=(esC k (n+1) C).toList:=by
 refine List.ext_getElem? fun j=>?_
 rw[List.getElem?_append,Array.length_toList,Y1,Array.getElem?_toList,Array.getElem?_toList,Array.getElem?_toList];have hs:(n+1)*k=n*k+k:=Nat.succ_mul n k;by_cases h:j<n*k
 ·rw[if_pos h,Rj hC j h,Rj hC j (by omega)]
 ·rw[if_neg h];by_cases h2:j<n*k+k
  ·obtain⟨d,rfl⟩: ∃d,j=n*k+d:=⟨j-n*k,by omega⟩
   rw[Vb hC n d (by omega) (by omega),Nat.add_sub_cancel_left]
  ·rw[Array.getElem?_eq_none (by rw[hC];omega),Array.getElem?_eq_none (by rw[Y1];omega)]
theorem M0 {k n:Nat}{C D:Nat->Array Value}(hC: ∀i,(C i).size=k)(hD: ∀i,(D i).size=k)(i:Nat)(hi:i<n)(off:Nat)(ho:off=i*k)(hd: ∀j,j<n->j≠i->D j=C j):Sn (esC k n C) off (D i).toList=esC k n D:=by
 subst ho
 have h1:i*k+k<=n*k:=by rw[<-Nat.succ_mul];exact Nat.mul_le_mul_right k hi
 apply Array.ext_getElem?;intro x;rw[VX _ _ _ _ (by rw[Y1,Array.length_toList,hD];exact h1),Array.length_toList,hD];by_cases hx:x<n*k
 ·by_cases e:i*k<=x/\x<i*k+k
  ·rw[if_pos e];obtain⟨d,rfl⟩: ∃d,x=i*k+d:=⟨x-i*k,by omega⟩
   rw[Nat.add_sub_cancel_left,Vb hD i d hi (by omega),Array.getElem?_toList]
  ·rw[if_neg e,Rj hC x hx,Rj hD x hx,hd (x/k) (T4 hx) (fun h=>e ?_)]
   have hk:0<k:=by
    rcases Nat.eq_zero_or_pos k with e|e
    ·rw[e,Nat.mul_zero]at hx;omega
    ·exact e
   have h2:=Nat.div_add_mod x k;have h3:=Nat.mod_lt x hk;rw[h,Nat.mul_comm]at h2;omega
 ·rw[if_neg (by omega),Array.getElem?_eq_none (by rw[Y1];omega),Array.getElem?_eq_none (by rw[Y1];omega)]
theorem PF {k n:Nat}(z:Array Value)(hz:z.size=k):madeCells z (n*k)=esC k n (fun _=>z):=by
 apply Array.ext_getElem?;intro i;by_cases hi:i<n*k
 ·have hk:0<k:=by
   rcases Nat.eq_zero_or_pos k with e|e
   ·rw[e,Nat.mul_zero]at hi;omega
   ·exact e
  rw[Rj (fun _=>hz) i hi];unfold madeCells
  have:i%k<z.size:=by rw[hz];exact Nat.mod_lt _ hk
  simp[hi,hz];rw[getElem!_pos z (i%k) this,Array.getElem?_eq_getElem this]
 ·rw[Array.getElem?_eq_none (by rw[size_madeCells];omega),Array.getElem?_eq_none (by rw[Y1];omega)]
structure ElsAt (k:Nat)(w:World)(ab:Option Addr)(n:Nat)(C:Nat->Array Value)(gb ob:Nat)(bcs:Array Value)(tb:TypeId):Prop where
 at':n=0∨(ab=some ⟨gb,ob,none⟩/\WD w gb bcs tb/\ ∀i,i<n-> ∀j v,(C i).toList[j]?=some v->bcs[ob+i*k+j]?=some v)
section
variable {k:Nat}{w w2:World}{ab:Option Addr}{n:Nat}{C D:Nat->Array Value}{gb ob:Nat}{bcs:Array Value}{tb:TypeId}
theorem ElsAt.below (h:ElsAt k w ab n C gb ob bcs tb)(hb:Below w.heap.size w w2):ElsAt k w2 ab n C gb ob bcs tb:=
 ⟨h.at'.imp id fun⟨h1,h2,h3⟩=>⟨h1,h2.belowAll hb,h3⟩⟩
theorem ElsAt.belowAll (h:ElsAt k w ab n C gb ob bcs tb)(hb:Below w.heap.size w w2):ElsAt k w2 ab n C gb ob bcs tb:=h.below hb
theorem ElsAt.take (h:ElsAt k w ab n C gb ob bcs tb){m:Nat}(hm:m<=n):ElsAt k w ab m C gb ob bcs tb:=by
 refine⟨?_⟩;rcases h.at' with h0|⟨h1,h2,h3⟩
 ·exact .inl (by omega)
 ·exact .inr ⟨h1,h2,fun i hi=>h3 i (by omega)⟩
theorem ElsAt.congr (h:ElsAt k w ab n C gb ob bcs tb)(he: ∀i,i<n->C i=D i):ElsAt k w ab n D gb ob bcs tb:=
 ⟨h.at'.imp id fun⟨h1,h2,h3⟩=>⟨h1,h2,fun i hi=>by rw[<-he i hi];exact h3 i hi⟩⟩
theorem ElsAt.drop (h:ElsAt k w (some ⟨gb,ob,none⟩) n C gb ob bcs tb){m:Nat}(hm:m<=n):ElsAt k w (some ⟨gb,ob+m*k,none⟩) (n-m) (fun i=>C (m+i)) gb (ob+m*k) bcs tb:=by
 refine⟨?_⟩;rcases h.at' with h0|⟨h1,h2,h3⟩
 ·exact .inl (by omega)
 ·refine .inr ⟨rfl,h2,fun i hi j v hv=>?_⟩;have:=h3 (m+i) (by omega) j v hv;rw[Nat.add_mul]at this;rw[show ob+m*k+i*k+j=ob+(m*k+i*k)+j by omega];exact this
def Qr (k:Nat)(e:TypeId)(w:World)(base:Nat)(v:Value)(n:Nat)(C:Nat->Array Value):Prop:=w.ownsRow base e k v n (esC k n C).toList
theorem PG (e:TypeId)(w:World)(base:Nat)(C:Nat->Array Value):Qr k e w base (.slice none 0 0) 0 C:=by
 have h:(esC k 0 C).toList=[]:=by
  apply List.eq_nil_of_length_eq_zero;rw[Array.length_toList,Y1,Nat.zero_mul]
 unfold Qr;rw[h];exact World.ownsRow_nil w base _ _
variable {e:TypeId}{S:List Nat}{bs:Nat}{v:Value}
theorem Qr.on (h:Qr k e w bs v n C)(hk:Kept S w w2)(hS: ∀b,v.ownBlock=some b->b∉S):Qr k e w2 bs v n C:=PB h hk hS
theorem Qr.new (h:Qr k e w bs v n C){g:Nat}(hg:w.heap.size<=g):v.ownBlock≠some g:=TZ h hg
theorem Qr.low (h:Qr k e w bs v n C){g:Nat}(hg:g<bs):v.ownBlock≠some g:=Qp h hg
theorem Qr.base (h:Qr k e w bs v n C): ∀g∈v.ownBlock.toList,bs<=g:=Vs h
end
section
variable {P:Program}{ops:Array Oper}{Q:Exit->Act->World->Prop}{rest:List Oper}{o:Oper}{a:Act}{w:World}
theorem M1 (hw:Region.wanted o (yielded ops a.tmps)=true)(s x:Operand)(t:TypeId)(ho:o.op= .call {callee:=.builtin .append,args:=#[s,x],argTypes:=#[t,t]})
  (base:Nat)(e:TypeId)(i:TypeInfo)(z:Value)(k bytes:Nat)(ht:P.underlying t=some (.slice e))(hi:P.info? e=some i)(hz:i.zero=some z)(hsize:i.size=k)(hby:i.bytes=bytes)(hzs:z.cells.size=k)(hk:0<k)(hby2:bytes<=1000)
  (v:Value)(n:Nat)(C:Nat->Array Value)(hC: ∀i,(C i).size=k)(hs:a.eval s=v)(hown:Qr k e w base v n C)(gx c:Nat)(hx:a.eval x= .slice (some ⟨gx,0,none⟩) 1 c){tx:TypeId}(rx:Row w gx (C n) tx)(h1:(C n).all (·.oneCell')=true)
  (hn:n<=1000000)(hbase:base<=w.heap.size)
  (h: ∀v' w',Qr k e w' base v' (n+1) C->Kept v.ownBlock.toList w w'->(v'.ownBlock=v.ownBlock∨v'.ownBlock=some w.heap.size)->PW P ops Q rest (a.put o.dst v') w'):PW P ops Q (o::rest) a w:=by
 refine Qo hw s x t ho base e i z k bytes ht hi hz hsize hby hzs hk v n _ hs hown gx c hx rx (hC n) h1 (by unfold maxLen;omega) ?_ hbase fun v' w' h1 h2 h3=>h v' w' ?_ h2 h3
 ·exact Nat.le_trans (Nat.mul_le_mul (show n+1<=1000001 by omega) hby2) (by decide)
 ·rw[JP hC]at h1;exact h1
end
def shC (i:Int)(y:Nat):Array Value:=#[.int .i64 i]++Zc y
def snB (Z:Nat->Int):Nat->Int->Bool
 |0,_=>false
 |k+1,v=>snB Z k v||decide (Z k=v)
def apB (least:Int)(Z:Nat->Int):Nat->Bool
 |0=>true
 |k+1=>apB least Z k&&(decide (least<=Z k)&&(decide (Z k<=7)&& !(snB Z k (Z k))))
def cnB (f:Nat->Bool):Nat->Nat
 |0=>0
 |m+1=>cnB f m+if f m then 1 else 0
def vsC (n:Nat)(S:Nat->Value):Array Value:=Array.ofFn (n:=n) fun i=>S i
theorem XH (n:Nat)(S:Nat->Value):(vsC n S).size=n:=by simp[vsC]
theorem X5 {n:Nat}(S:Nat->Value){i:Nat}(h:i<n):(vsC n S)[i]?=some (S i):=by simp[vsC,h]
theorem Vv {n:Nat}{S T:Nat->Value}(h: ∀i,i<n->S i=T i):vsC n S=vsC n T:=by
 apply Array.ext_getElem?;intro i;by_cases hi:i<n
 ·rw[X5 S hi,X5 T hi,h i hi]
 ·rw[Array.getElem?_eq_none (by rw[XH];omega),Array.getElem?_eq_none (by rw[XH];omega)]
theorem M2 {n:Nat}{S T:Nat->Value}{i:Nat}{v:Value}(hi:i<n)(hv:T i=v)(h: ∀j,j<n->j≠i->T j=S j):(vsC n S).setIfInBounds i v=vsC n T:=by
 apply Array.ext_getElem?;intro j;rw[Array.getElem?_setIfInBounds];by_cases hj:j<n
 ·rw[X5 S hj,X5 T hj];by_cases e:i=j
  ·subst e;rw[if_pos rfl,if_pos (by rw[XH];exact hj),hv]
  ·rw[if_neg e,h j hj (fun x=>e x.symm)]
 ·rw[Array.getElem?_eq_none (show(vsC n T).size<=j by rw[XH];omega)];by_cases e:i=j
  ·omega
  ·rw[if_neg e,Array.getElem?_eq_none (by rw[XH];omega)]
theorem FC (n:Nat)(v:Value)(hv:v.cells=#[v]):madeCells v.cells (n*1)=vsC n (fun _=>v):=by
 apply Array.ext_getElem?;intro i;by_cases hi:i<n
 ·rw[X5 _ hi,hv];unfold madeCells;simp[hi,Nat.mod_one]
 ·rw[Array.getElem?_eq_none (by rw[size_madeCells];omega),Array.getElem?_eq_none (by rw[XH];omega)]
structure FamAt (w:World)(base n:Nat)(R:Nat->Nat)(V:Nat->Nat->Nat)(m:Nat):Prop where
 row: ∀j,j<m->Row w (R j) (nsC n (V j)) 39
 dis: ∀i j,i<m->j<m->R i=R j->i=j
 low: ∀j,j<m->base<=R j
section
variable {w w2:World}{base n m:Nat}{R:Nat->Nat}{V V':Nat->Nat->Nat}
theorem FamAt.below (h:FamAt w base n R V m)(hb:Below w.heap.size w w2):FamAt w2 base n R V m:=
 ⟨fun j hj=>(h.row j hj).belowAll hb,h.dis,h.low⟩
theorem FamAt.on (h:FamAt w base n R V m){S:List Nat}(k:Kept S w w2)(hS: ∀j,j<m->R j∉S):FamAt w2 base n R V m:=
 ⟨fun j hj=>k.row (h.row j hj) (hS j hj),h.dis,h.low⟩
theorem FamAt.congr (h:FamAt w base n R V m)(he: ∀j,j<m-> ∀k,k<n->V j k=V' j k):FamAt w base n R V' m:=
 ⟨fun j hj=>by rw[<-XP n (V j) (V' j) (he j hj)];exact h.row j hj,h.dis,h.low⟩
theorem FamAt.lt (h:FamAt w base n R V m){j:Nat}(hj:j<m):R j<w.heap.size:=(h.row j hj).lt
theorem FamAt.put (h:FamAt w base n R V m){j:Nat}(hj:j<m)(k:Kept [R j] w w2)(r:Row w2 (R j) (nsC n (V' j)) 39)(he: ∀i,i<m->i≠j->V' i=V i):FamAt w2 base n R V' m:=by
 refine⟨fun i hi=>?_,h.dis,h.low⟩;by_cases e:i=j
 ·rw[e];exact r
 ·rw[he i hi e]
  exact k.row (h.row i hi) (by
   intro hm
   exact e (h.dis i j hi hj (by simpa using hm)))
def upR (R:Nat->Nat)(m g:Nat):Nat->Nat:=fun j=>if j=m then g else R j
theorem Wb (R:Nat->Nat)(m g:Nat):upR R m g m=g:=if_pos rfl
theorem XQ (R:Nat->Nat){m g j:Nat}(h:j<m):upR R m g j=R j:=if_neg (by omega)
theorem FamAt.add (h:FamAt w base n R V m){g:Nat}(hg: ∀j,j<m->R j≠g)(hb:base<=g)(r:Row w g (nsC n (V m)) 39):FamAt w base n (upR R m g) V (m+1):=by
 refine⟨fun j hj=>?_,fun i j hi hj e=>?_,fun j hj=>?_⟩
 ·by_cases e:j=m
  ·subst e;rw[Wb];exact r
  ·rw[XQ R (show j<m by omega)];exact h.row j (by omega)
 ·by_cases e1:i=m
  ·by_cases e2:j=m
   ·omega
   ·rw[e1,Wb,XQ R (show j<m by omega)]at e;exact absurd e.symm (hg j (by omega))
  ·by_cases e2:j=m
   ·rw[e2,Wb,XQ R (show i<m by omega)]at e;exact absurd e (hg i (by omega))
   ·rw[XQ R (show i<m by omega),XQ R (show j<m by omega)]at e;exact h.dis i j (by omega) (by omega) e
 ·by_cases e:j=m
  ·subst e;rw[Wb];exact hb
  ·rw[XQ R (show j<m by omega)];exact h.low j (by omega)
theorem M3 (w:World)(base n:Nat)(R:Nat->Nat)(V:Nat->Nat->Nat):FamAt w base n R V 0:=
 ⟨fun j hj=>absurd hj (by omega),fun i j hi=>absurd hi (by omega),fun j hj=>absurd hj (by omega)⟩
end
theorem VN:(prog.info? 4).map (·.size)=some 1:=by kernel_rfl
end Go.Proofs.YtcdahmommonnfaaGreatDoor
