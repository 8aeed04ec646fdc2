import Derived.Test.YtcdahmommonnfaaGreatDoorJ10
set_option maxRecDepth 100000
set_option maxHeartbeats 8000000
namespace Go.Proofs.YtcdahmommonnfaaGreatDoor
set_option linter.all false
open Go.RowKit
open Go.Proofs.Tryz
theorem FW {fn:Func}(f:FuncId)(caps:Array Value)(q:Int->Bool)(ab:Option Addr)(n c:Nat)(Z:Nat->Int)(gb ob:Nat)(bcs:Array Value)(tb:TypeId)(g1:Nat)(w:World)(hf:prog.funcs[f]?=some fn)(hb0:(fn.name== "runtime.NumGoroutine" ||fn.body.isNone)=false)(r1:Row w g1 #[.slice ab n c] 62)(hz:ZsAt w ab n Z gb ob bcs tb)(hn:n<4611686018427387904)
  (hc: ∀(z:Int) w',Below w.heap.size w w'->Calls prog f (#[.int .i64 z]++caps) w' (Rt (.bool (q z)) w')):
  Calls prog 149 #[.func (.func f) #[] caps,.pointer (some ⟨g1,0,none⟩)] w fun e w'=>e= .returned (.int .i64 (ct q Z n:Nat))/\Below w.heap.size w w':=by
 have HB:Hid (ZsAt w ab n Z gb ob bcs tb):=hz;clear hz
 go_enter func149,ntmps149
 have sb:=Z9 w;iterate 2 go_step
 refine rp ?_;refine p_v (.int .i64 0) (fun _=>rfl) (Za ?_);simp only[pv];iterate 3 go_step
 refine rp ?_;refine p_v (.int .i64 0) (fun _=>rfl) (Za ?_);simp only[pv];iterate 4 go_step
 refine rp ?_;refine p_d 0 r1.r (.slice ab n c) rfl isAgg62 ?_;simp only[pv];refine p_v _ (n_l ab n c XI) ?_;refine p_v (.int .i64 0) (fun _=>rfl) (Za ?_);simp only[pv];clear r1
 go_wp2_with fail
 go_loopg [4,6,9] n (fun x s4 s6 s9 wr=> ∃k:Nat,k+x=n/\s4= .int .i64 (ct q Z k:Nat)/\s9= .int .i64 k/\Below w.heap.size w wr)
 case atStart=>exact⟨0,by omega,rfl,rfl,sb⟩
 case round=>
  clear sb;obtain⟨k,hk,rfl,rfl,sb⟩:=hrel
  cases gk with
  |zero=>
   obtain rfl:k=n:=by omega
   clear hk hc
   go_step
   refine rp ?_;refine p_v _ (Xy (k) (k)) (Za ?_);simp only[pv];iterate 8 go_step
   refine rp ?_;refine p_m ?_;refine p_a (Za ?_);simp only[pv];go_wp2;go_ret;exact⟨rfl,sb⟩
  |succ x=>
   have hlt:k<n:=by omega
   have hck:=hc (Z k);clear hc;obtain h0|⟨rfl,rB,hbt⟩:=(HB.out.below sb).at'
   ·exact absurd h0 (by omega)
   have hbt':=hbt k hlt;clear hbt;have hle:=It q Z k;by_cases h1:0<=Z k
   ·cases h2:q (Z k)with
    |true=>
     rw[h2]at hck;have hq:=D0 h1 h2;generalize ct q Z k=m at*
     go_step
     refine rp ?_;refine p_v _ (XK (k) (n)) (Za ?_);simp only[pv];iterate 10 go_step
     refine rp ?_;refine p_x k hlt underlying62 sizeOf3 ?_;simp only[pv];refine p_d (ob+k*1) rB (.int .i64 (Z k)) hbt' isAgg3 ?_;refine p_a (Za ?_);simp only[pv];iterate 3 go_step
     refine rp ?_;refine p_m ?_;simp only[pv];refine p_v _ (ZG _ _ _ _ rfl (Z k) (0) rfl rfl true (decide_eq_true (by omega))) ?_;refine p_m ?_;refine p_m ?_;refine p_m ?_;simp only[pv];refine Yd (by rfl) (f) _ _ _ rfl (caps) rfl (hf) (hb0) #[.int .i64 (Z k)] rfl _ (hck _ sb) ?_;intro z5005 k;simp only[pv];replace sb:=kk sb k;clear k;refine p_k true (.bool true) (Za ?_);simp only[pv];iterate 3 go_step
     refine rp ?_;refine p_m ?_;simp only[pv];refine p_v _ (Xi _ _ _ _ rfl (m) (1) ((m+1:Nat)) rfl rfl (by omega) (by omega) (by omega)) ?_;refine p_a (Za ?_);simp only[pv];iterate 2 go_step
     refine rp ?_;refine p_v _ (Xi _ _ _ _ rfl (k) (1) ((k+1:Nat)) rfl rfl (by omega) (by omega) (by omega)) ?_;refine p_m (Za ?_);simp only[pv];go_wp2
     go_roundg x
     case measure=>omega
     case rel=>exact⟨k+1,by omega,by rw[hq],rfl,sb⟩
    |false=>
     rw[h2]at hck;have hq:=D1 (k:=k) h2;generalize ct q Z k=m at*
     go_step
     refine rp ?_;refine p_v _ (XK (k) (n)) (Za ?_);simp only[pv];iterate 10 go_step
     refine rp ?_;refine p_x k hlt underlying62 sizeOf3 ?_;simp only[pv];refine p_d (ob+k*1) rB (.int .i64 (Z k)) hbt' isAgg3 ?_;refine p_a (Za ?_);simp only[pv];iterate 3 go_step
     refine rp ?_;refine p_m ?_;simp only[pv];refine p_v _ (ZG _ _ _ _ rfl (Z k) (0) rfl rfl true (decide_eq_true (by omega))) ?_;refine p_m ?_;refine p_m ?_;refine p_m ?_;simp only[pv];refine Yd (by rfl) (f) _ _ _ rfl (caps) rfl (hf) (hb0) #[.int .i64 (Z k)] rfl _ (hck _ sb) ?_;intro z5005 k;simp only[pv];replace sb:=kk sb k;clear k;refine p_k true (.bool false) (Za ?_);simp only[pv];iterate 6 go_step
     refine rp ?_;refine p_v _ (Xi _ _ _ _ rfl (k) (1) ((k+1:Nat)) rfl rfl (by omega) (by omega) (by omega)) ?_;refine p_m (Za ?_);simp only[pv];go_wp2
     go_roundg x
     case measure=>omega
     case rel=>exact⟨k+1,by omega,by rw[hq],rfl,sb⟩
   ·have hq:=Hs (p:=q) h1;generalize ct q Z k=m at*
    go_step
    refine rp ?_;refine p_v _ (XK (k) (n)) (Za ?_);simp only[pv];iterate 10 go_step
    refine rp ?_;refine p_x k hlt underlying62 sizeOf3 ?_;simp only[pv];refine p_d (ob+k*1) rB (.int .i64 (Z k)) hbt' isAgg3 ?_;refine p_a (Za ?_);simp only[pv];iterate 3 go_step
    refine rp ?_;refine p_m ?_;simp only[pv];refine p_v _ (ZG _ _ _ _ rfl (Z k) (0) rfl rfl false (decide_eq_false (by omega))) ?_;refine p_m ?_;refine p_s ?_;refine p_s ?_;refine p_s ?_;simp only[pv];refine p_k false (.bool false) (Za ?_);simp only[pv];iterate 6 go_step
    refine rp ?_;refine p_v _ (Xi _ _ _ _ rfl (k) (1) ((k+1:Nat)) rfl rfl (by omega) (by omega) (by omega)) ?_;refine p_m (Za ?_);simp only[pv];go_wp2
    go_roundg x
    case measure=>omega
    case rel=>exact⟨k+1,by omega,by rw[hq],rfl,sb⟩
theorem FX (z v:Int)(g1:Nat)(w:World)(r1:Row w g1 #[.int .i64 v] 3):
  Calls prog 150 #[.int .i64 z,.pointer (some ⟨g1,0,none⟩)] w fun e w'=>e= .returned (.bool (Nh v z))/\Below w.heap.size w w':=by
 obtain⟨b,hb⟩: ∃b,Nh v z=b:=⟨_,rfl⟩
 have hb':=hb;unfold Nh at hb';rw[hb]
 go_enter func150,ntmps150
 have sb:=Z9 w;iterate 2 go_step
 refine rp ?_;refine p_v (.bool false) (fun _=>rfl) (Za ?_);simp only[pv];iterate 3 go_step
 refine rp ?_;refine p_m ?_;simp only[pv];refine p_d 0 r1.r (.int .i64 v) rfl isAgg3 ?_;simp only[pv];refine p_v _ (ZG _ _ _ _ rfl (z) (v) rfl rfl b (hb')) ?_;refine p_a (Za ?_);simp only[pv];go_wp2;go_ret;exact⟨rfl,sb⟩
theorem FY (z v:Int)(g1:Nat)(w:World)(r1:Row w g1 #[.int .i64 v] 3):
  Calls prog 151 #[.int .i64 z,.pointer (some ⟨g1,0,none⟩)] w fun e w'=>e= .returned (.bool (dnZ v z))/\Below w.heap.size w w':=by
 obtain⟨b,hb⟩: ∃b,dnZ v z=b:=⟨_,rfl⟩
 have hb':=hb;unfold dnZ at hb';rw[hb]
 go_enter func151,ntmps151
 have sb:=Z9 w;iterate 2 go_step
 refine rp ?_;refine p_v (.bool false) (fun _=>rfl) (Za ?_);simp only[pv];iterate 3 go_step
 refine rp ?_;refine p_m ?_;simp only[pv];refine p_d 0 r1.r (.int .i64 v) rfl isAgg3 ?_;simp only[pv];refine p_v _ (Yb _ _ _ _ rfl (z) (v) rfl rfl b (hb')) ?_;refine p_a (Za ?_);simp only[pv];go_wp2;go_ret;exact⟨rfl,sb⟩
theorem Qz (t:Int)(ab:Option Addr)(n c:Nat)(Z:Nat->Int)(gb ob:Nat)(bcs:Array Value)(tb:TypeId)(w:World)(hz:ZsAt w ab n Z gb ob bcs tb)(hn:n<4611686018427387904):
  Calls prog 96 #[.int .i64 t,.slice ab n c] w fun e w'=>e= .returned (.tuple #[.int .i64 (voV t n Z),.bool (voB t n Z)])/\Below w.heap.size w w':=by
 have HB:Hid (ZsAt w ab n Z gb ob bcs tb):=hz
 have HC: ∀(q:Int->Bool) (v:Int) w' g3 g9 (f:FuncId) (fn:Func),Below w.heap.size w w'->Row w' g3 #[.slice ab n c] 62->Row w' g9 #[.int .i64 v] 3->prog.funcs[f]?=some fn->(fn.name== "runtime.NumGoroutine" ||fn.body.isNone)=false->(∀z w2,Row w2 g9 #[.int .i64 v] 3->Calls prog f #[.int .i64 z,.pointer (some ⟨g9,0,none⟩)] w2 (Rt (.bool (q z)) w2))->
   Calls prog 149 #[.func (.func f) #[] #[.pointer (some ⟨g9,0,none⟩)],.pointer (some ⟨g3,0,none⟩)] w' (Rt (.int .i64 (ct q Z n:Nat)) w'):=
  fun q v w' g3 g9 f fn hb r3 r9 hf hb0 hc=>FW f #[.pointer (some ⟨g9,0,none⟩)] q ab n c Z gb ob bcs tb g3 w' hf hb0 r3 (HB.out.below hb) hn (fun z w2 h2=>hc z w2 (r9.belowAll h2))
 clear hz;by_cases h1:1<=t
 rotate_left
 ·have hv:voB t n Z=false:=by unfold voB EN;rw[decide_eq_false (by omega)];rfl
  rw[show voV t n Z=0 by unfold voV;rw[hv];rfl,hv]
  go_enter func96,ntmps96
  have sb:=Z9 w;iterate 2 go_step
  refine rp ?_;refine Y4 (by rfl) 62 _ rfl (.slice ab n c) rfl rfl ?_;intro g3 z0 n0 r3 k;simp only[pv];have b3:=Nat.le_trans sb.size n0;clear n0;replace sb:=kk sb k;clear k;refine p_v (.int .i64 0) (fun _=>rfl) ?_;refine p_v (.bool false) (fun _=>rfl) (Za ?_);simp only[pv];iterate 4 go_step
  refine rp ?_;refine p_m ?_;simp only[pv];refine p_v _ (XK (t) (1)) ?_;refine p_m ?_;refine p_s ?_;refine p_s ?_;refine p_k true (.bool true) ?_;simp only[pv];refine p_m ?_;refine p_s ?_;refine p_s ?_;refine p_s ?_;refine p_s ?_;simp only[pv];refine p_s ?_;refine p_s ?_;refine p_k true (.bool true) (Za ?_);simp only[pv];iterate 4 go_step
  refine rp ?_;refine p_v (.int .i64 0) (fun _=>rfl) ?_;refine p_v (.bool false) (fun _=>rfl) (Za ?_);simp only[pv];go_wp2;go_ret2;exact⟨rfl,sb⟩
 by_cases h2:t<=2
 rotate_left
 ·have hv:voB t n Z=false:=by unfold voB EN;rw[decide_eq_false (by omega)];rfl
  rw[show voV t n Z=0 by unfold voV;rw[hv];rfl,hv]
  go_enter func96,ntmps96
  have sb:=Z9 w;iterate 2 go_step
  refine rp ?_;refine Y4 (by rfl) 62 _ rfl (.slice ab n c) rfl rfl ?_;intro g3 z0 n0 r3 k;simp only[pv];have b3:=Nat.le_trans sb.size n0;clear n0;replace sb:=kk sb k;clear k;refine p_v (.int .i64 0) (fun _=>rfl) ?_;refine p_v (.bool false) (fun _=>rfl) (Za ?_);simp only[pv];iterate 4 go_step
  refine rp ?_;refine p_m ?_;simp only[pv];refine p_v _ (Xy (t) (1)) ?_;refine p_m ?_;refine p_m ?_;simp only[pv];refine p_v _ (Jp (t) (2)) ?_;refine p_k false (.bool true) ?_;refine p_m ?_;refine p_s ?_;refine p_s ?_;simp only[pv];refine p_s ?_;refine p_s ?_;refine p_s ?_;refine p_s ?_;refine p_k true (.bool true) (Za ?_);simp only[pv];iterate 4 go_step
  refine rp ?_;refine p_v (.int .i64 0) (fun _=>rfl) ?_;refine p_v (.bool false) (fun _=>rfl) (Za ?_);simp only[pv];go_wp2;go_ret2;exact⟨rfl,sb⟩
 by_cases h3:(n:Int)=3*t+1
 rotate_left
 ·have hv:voB t n Z=false:=by unfold voB EN;rw[decide_eq_false (by omega)];rfl
  rw[show voV t n Z=0 by unfold voV;rw[hv];rfl,hv]
  go_enter func96,ntmps96
  have sb:=Z9 w;iterate 2 go_step
  refine rp ?_;refine Y4 (by rfl) 62 _ rfl (.slice ab n c) rfl rfl ?_;intro g3 z0 n0 r3 k;simp only[pv];have b3:=Nat.le_trans sb.size n0;clear n0;replace sb:=kk sb k;clear k;refine p_v (.int .i64 0) (fun _=>rfl) ?_;refine p_v (.bool false) (fun _=>rfl) (Za ?_);simp only[pv];iterate 4 go_step
  refine rp ?_;refine p_m ?_;simp only[pv];refine p_v _ (Xy (t) (1)) ?_;refine p_m ?_;refine p_m ?_;simp only[pv];refine p_v _ (Qe (t) (2)) ?_;refine p_k false (.bool false) ?_;refine p_m ?_;simp only[pv];refine p_d 0 r3.r (.slice ab n c) rfl isAgg62 ?_;simp only[pv];refine p_v _ (n_l ab n c XI) ?_;refine p_m ?_;simp only[pv];refine p_v _ (VQ _ _ _ _ rfl (3) (t) (3*t) rfl rfl (by omega) (by omega) (by omega)) ?_;simp only[pv];refine p_v _ (Xi _ _ _ _ rfl (3*t) (1) (3*t+1) rfl rfl (by omega) (by omega) (by omega)) ?_;simp only[pv];refine p_v _ (ZC .i64 _ _ _ _ rfl ((n:Nat)) (3*t+1) rfl rfl true (by rw[decide_eq_false (by omega)];rfl)) ?_;refine p_k false (.bool true) (Za ?_);simp only[pv];iterate 4 go_step
  refine rp ?_;refine p_v (.int .i64 0) (fun _=>rfl) ?_;refine p_v (.bool false) (fun _=>rfl) (Za ?_);simp only[pv];go_wp2;go_ret2;exact⟨rfl,sb⟩
 have hok:EN t n=true:=decide_eq_true ⟨h1,h2,h3⟩;obtain⟨rb,hrb⟩: ∃b,voB t n Z=b:=⟨_,rfl⟩
 obtain⟨rv,hrv⟩: ∃v,voV t n Z=v:=⟨_,rfl⟩
 have HRB:Hid (decide (2*t+1<=(ct (dnZ (gre Z n t n)) Z n:Nat))=rb):=by rw[<-hrb];unfold voB;rw[hok];rfl
 have HRV:Hid ((if rb=true then gre Z n t n else 0)=rv):=by rw[<-hrv,<-hrb];rfl
 rw[hrb,hrv];clear hrb hrv hok
 go_enter func96,ntmps96
 have sb:=Z9 w;iterate 2 go_step
 refine rp ?_;refine Y4 (by rfl) 62 _ rfl (.slice ab n c) rfl rfl ?_;intro g3 z0 n0 r3 k;simp only[pv];have b3:=Nat.le_trans sb.size n0;clear n0;replace sb:=kk sb k;clear k;refine p_v (.int .i64 0) (fun _=>rfl) ?_;refine p_v (.bool false) (fun _=>rfl) (Za ?_);simp only[pv];iterate 4 go_step
 refine rp ?_;refine p_m ?_;simp only[pv];refine p_v _ (Xy (t) (1)) ?_;refine p_m ?_;refine p_m ?_;simp only[pv];refine p_v _ (Qe (t) (2)) ?_;refine p_k false (.bool false) ?_;refine p_m ?_;simp only[pv];refine p_d 0 r3.r (.slice ab n c) rfl isAgg62 ?_;simp only[pv];refine p_v _ (n_l ab n c XI) ?_;refine p_m ?_;simp only[pv];refine p_v _ (VQ _ _ _ _ rfl (3) (t) (3*t) rfl rfl (by omega) (by omega) (by omega)) ?_;simp only[pv];refine p_v _ (Xi _ _ _ _ rfl (3*t) (1) (3*t+1) rfl rfl (by omega) (by omega) (by omega)) ?_;simp only[pv];refine p_v _ (ZC .i64 _ _ _ _ rfl ((n:Nat)) (3*t+1) rfl rfl false (by rw[decide_eq_true (by omega)];rfl)) ?_;refine p_k false (.bool false) (Za ?_);simp only[pv];iterate 7 go_step
 refine rp ?_;refine p_v (.func (.func 149) #[] #[.pointer (some ⟨g3,0,none⟩)]) (YG _ _ rfl _ rfl) ?_;refine p_a (Za ?_);simp only[pv];iterate 3 go_step
 refine rp ?_;refine UG (by rfl) 3 rfl (.int .i64 0) JV rfl ?_;intro g7 z4000 n0 r7 k;simp only[pv];have d3x7:=l_l r3.lt n0;have b7:=Nat.le_trans sb.size n0;clear n0;replace r3:=k.ro r3;replace sb:=kk sb k;clear k;refine Yj (by rfl) 3 _ _ rfl _ (0) rfl r7 (.int .i64 (-1)) rfl rfl rfl Yw (by exact Nat.one_pos) (#[.int .i64 (-1)]) rfl ?_;clear r7;intro z4001 r7 k;simp only[Act.put];replace r3:=k.ro r3;replace sb:=kk sb k;clear k;refine Za ?_;iterate 4 go_step
 refine rp ?_;refine p_d 0 r3.r (.slice ab n c) rfl isAgg62 ?_;simp only[pv];refine p_v _ (n_l ab n c XI) ?_;refine p_v (.int .i64 0) (fun _=>rfl) (Za ?_);simp only[pv];have HN:Hid ((n:Int)=3*t+1):=h3;clear h3
 go_wp2_with fail
 go_loopg [9,27] n (fun x s9 s27 wr=> ∃k:Nat,k+x=n/\s27= .int .i64 k/\Row wr g7 #[.int .i64 (gre Z n t k)] 3/\Row wr g3 #[.slice ab n c] 62/\Below w.heap.size w wr)
 case atStart=>exact⟨0,by omega,rfl,r7,r3,sb⟩
 case round=>
  clear sb r7 r3;obtain⟨k,hk,rfl,r7,r3,sb⟩:=hrel
  cases gk with
  |zero=>
   obtain rfl:k=n:=by omega
   clear hk;have hct:=fun w' hb r3 r7=>HC (dnZ (gre Z k t k)) (gre Z k t k) w' g3 g7 151 _ hb r3 r7 func151 (by kernel_rfl) (fun z w2 r=>FY z _ g7 w2 r)
   have hle:=It (dnZ (gre Z k t k)) Z k;clear HC;generalize gre Z k t k=m at*;generalize ct (dnZ m) Z k=u at*
   go_step
   refine rp ?_;refine p_v _ (Xy (k) (k)) (Za ?_);simp only[pv];by_cases h4:2*t+1<=(u:Int)
   ·have e1:true=rb:=by rw[<-HRB.out,decide_eq_true h4]
    have e2:m=rv:=by rw[<-HRV.out,<-e1,if_pos rfl]
    clear HRB HRV;iterate 9 go_step
    refine rp ?_;refine p_m ?_;simp only[pv];refine p_v (.func (.func 151) #[] #[.pointer (some ⟨g7,0,none⟩)]) (YG _ _ rfl _ rfl) ?_;simp only[pv];refine Yd (by rfl) (149) _ _ _ rfl (#[.pointer (some ⟨g3,0,none⟩)]) rfl (func149) ((by kernel_rfl)) #[.func (.func 151) #[] #[.pointer (some ⟨g7,0,none⟩)]] rfl _ (hct _ sb r3 r7) ?_;intro z11002 k;simp only[pv];replace r3:=k.ro r3;replace r7:=k.ro r7;replace sb:=kk sb k;clear k;refine p_m ?_;simp only[pv];refine p_v _ (VQ _ _ _ _ rfl (2) (t) (2*t) rfl rfl (by omega) (by omega) (by omega)) ?_;simp only[pv];refine p_v _ (Xi _ _ _ _ rfl (2*t) (1) (2*t+1) rfl rfl (by omega) (by omega) (by omega)) ?_;simp only[pv];refine p_v _ (Xy ((u:Nat)) (2*t+1)) (Za ?_);simp only[pv];iterate 7 go_step
    refine rp ?_;refine p_d 0 r7.r (.int .i64 m) rfl isAgg3 ?_;refine p_a ?_;refine p_v (.bool true) (fun _=>rfl) (Za ?_);simp only[pv];go_wp2;go_ret2;exact⟨by rw[<-e1,<-e2];rfl,sb⟩
   ·have e1:false=rb:=by rw[<-HRB.out,decide_eq_false h4]
    have e2:0=rv:=by rw[<-HRV.out,<-e1,if_neg (by decide)]
    clear HRB HRV;iterate 9 go_step
    refine rp ?_;refine p_m ?_;simp only[pv];refine p_v (.func (.func 151) #[] #[.pointer (some ⟨g7,0,none⟩)]) (YG _ _ rfl _ rfl) ?_;simp only[pv];refine Yd (by rfl) (149) _ _ _ rfl (#[.pointer (some ⟨g3,0,none⟩)]) rfl (func149) ((by kernel_rfl)) #[.func (.func 151) #[] #[.pointer (some ⟨g7,0,none⟩)]] rfl _ (hct _ sb r3 r7) ?_;intro z11002 k;simp only[pv];replace r3:=k.ro r3;replace r7:=k.ro r7;replace sb:=kk sb k;clear k;refine p_m ?_;simp only[pv];refine p_v _ (VQ _ _ _ _ rfl (2) (t) (2*t) rfl rfl (by omega) (by omega) (by omega)) ?_;simp only[pv];refine p_v _ (Xi _ _ _ _ rfl (2*t) (1) (2*t+1) rfl rfl (by omega) (by omega) (by omega)) ?_;simp only[pv];refine p_v _ (XK ((u:Nat)) (2*t+1)) (Za ?_);simp only[pv];iterate 4 go_step
    refine rp ?_;refine p_v (.int .i64 0) (fun _=>rfl) ?_;refine p_v (.bool false) (fun _=>rfl) (Za ?_);simp only[pv];go_wp2;go_ret2;exact⟨by rw[<-e1,<-e2];rfl,sb⟩
  |succ x=>
   have hlt:k<n:=by omega
   have hct:=fun w' g9 hb r3 r9=>HC (Nh (Z k)) (Z k) w' g3 g9 150 _ hb r3 r9 func150 (by kernel_rfl) (fun z w2 r=>FX z _ g9 w2 r)
   have hle:=It (Nh (Z k)) Z n;have hg:gre Z n t (k+1)=if gre Z n t k<Z k/\t+1<=(ct (Nh (Z k)) Z n:Nat)then Z k else gre Z n t k:=rfl
   clear HC;generalize gre Z n t k=m at*;generalize ct (Nh (Z k)) Z n=u at*;obtain h0|⟨rfl,rB,hbt⟩:=(HB.out.below sb).at'
   ·exact absurd h0 (by omega)
   have hbt':=hbt k hlt;clear hbt;by_cases h4:m<Z k
   rotate_left
   ·rw[if_neg (fun h=>h4 h.1)]at hg
    go_step
    refine rp ?_;refine p_v _ (XK (k) (n)) (Za ?_);simp only[pv];iterate 10 go_step
    refine rp ?_;refine p_x k hlt underlying62 sizeOf3 ?_;simp only[pv];refine p_d (ob+k*1) rB (.int .i64 (Z k)) hbt' isAgg3 ?_;simp only[pv];refine UG (by rfl) 3 rfl (.int .i64 0) JV rfl ?_;intro g9 z7002 n0 r9 k;simp only[pv];have d3x9:=l_l r3.lt n0;have d7x9:=l_l r7.lt n0;have b9:=Nat.le_trans sb.size n0;clear n0;replace r3:=k.ro r3;replace r7:=k.ro r7;replace sb:=kk sb k;clear k;refine Yj (by rfl) 3 _ _ rfl _ (0) rfl r9 (.int .i64 (Z k)) rfl rfl rfl Yw (by exact Nat.one_pos) (#[.int .i64 (Z k)]) rfl ?_;clear r9;intro z7003 r9 k;simp only[Act.put];replace r3:=k.ro r3;replace r7:=k.ro r7;replace sb:=kk sb k;clear k;refine Za ?_;iterate 3 go_step
    refine rp ?_;refine p_d 0 r9.r (.int .i64 (Z k)) rfl isAgg3 ?_;simp only[pv];refine p_d 0 r7.r (.int .i64 m) rfl isAgg3 ?_;simp only[pv];refine p_v _ (Qe (Z k) (m)) ?_;refine p_m ?_;refine p_s ?_;refine p_s ?_;refine p_s ?_;simp only[pv];refine p_s ?_;refine p_s ?_;refine p_s ?_;refine p_k false (.bool false) (Za ?_);simp only[pv];iterate 6 go_step
    refine rp ?_;refine p_v _ (Xi _ _ _ _ rfl (k) (1) ((k+1:Nat)) rfl rfl (by omega) (by omega) (by omega)) ?_;refine p_m (Za ?_);simp only[pv];go_wp2
    go_roundg x
    case measure=>omega
    case rel=>exact⟨k+1,by omega,rfl,by rw[hg];exact r7,r3,sb⟩
   by_cases h5:t+1<=(u:Int)
   ·rw[if_pos ⟨h4,h5⟩]at hg
    go_step
    refine rp ?_;refine p_v _ (XK (k) (n)) (Za ?_);simp only[pv];iterate 10 go_step
    refine rp ?_;refine p_x k hlt underlying62 sizeOf3 ?_;simp only[pv];refine p_d (ob+k*1) rB (.int .i64 (Z k)) hbt' isAgg3 ?_;simp only[pv];refine UG (by rfl) 3 rfl (.int .i64 0) JV rfl ?_;intro g9 z7002 n0 r9 k;simp only[pv];have d3x9:=l_l r3.lt n0;have d7x9:=l_l r7.lt n0;have b9:=Nat.le_trans sb.size n0;clear n0;replace r3:=k.ro r3;replace r7:=k.ro r7;replace sb:=kk sb k;clear k;refine Yj (by rfl) 3 _ _ rfl _ (0) rfl r9 (.int .i64 (Z k)) rfl rfl rfl Yw (by exact Nat.one_pos) (#[.int .i64 (Z k)]) rfl ?_;clear r9;intro z7003 r9 k;simp only[Act.put];replace r3:=k.ro r3;replace r7:=k.ro r7;replace sb:=kk sb k;clear k;refine Za ?_;iterate 3 go_step
    refine rp ?_;refine p_d 0 r9.r (.int .i64 (Z k)) rfl isAgg3 ?_;simp only[pv];refine p_d 0 r7.r (.int .i64 m) rfl isAgg3 ?_;simp only[pv];refine p_v _ (Jp (Z k) (m)) ?_;refine p_m ?_;refine p_m ?_;simp only[pv];refine p_v (.func (.func 150) #[] #[.pointer (some ⟨g9,0,none⟩)]) (YG _ _ rfl _ rfl) ?_;simp only[pv];refine Yd (by rfl) (149) _ _ _ rfl (#[.pointer (some ⟨g3,0,none⟩)]) rfl (func149) ((by kernel_rfl)) #[.func (.func 150) #[] #[.pointer (some ⟨g9,0,none⟩)]] rfl _ (hct _ g9 sb r3 r9) ?_;intro z8006 k;simp only[pv];replace r3:=k.ro r3;replace r7:=k.ro r7;replace r9:=k.ro r9;replace sb:=kk sb k;clear k;refine p_m ?_;simp only[pv];refine p_v _ (Xi _ _ _ _ rfl (t) (1) (t+1) rfl rfl (by omega) (by omega) (by omega)) ?_;simp only[pv];refine p_v _ (ZG _ _ _ _ rfl ((u:Nat)) (t+1) rfl rfl true (decide_eq_true (by omega))) ?_;refine p_k true (.bool true) (Za ?_);simp only[pv];iterate 3 go_step
    refine rp ?_;refine p_d 0 r9.r (.int .i64 (Z k)) rfl isAgg3 ?_;simp only[pv];refine Yj (by rfl) 3 _ _ rfl _ (0) rfl r7 (.int .i64 (Z k)) rfl rfl rfl Yw (by exact Nat.one_pos) (#[.int .i64 (Z k)]) rfl ?_;clear r7;intro z9001 r7 k;simp only[Act.put];replace r3:=k.ro r3;replace r9:=k.ro r9;replace sb:=kk sb k;clear k;refine Za ?_;iterate 2 go_step
    refine rp ?_;refine p_v _ (Xi _ _ _ _ rfl (k) (1) ((k+1:Nat)) rfl rfl (by omega) (by omega) (by omega)) ?_;refine p_m (Za ?_);simp only[pv];go_wp2
    go_roundg x
    case measure=>omega
    case rel=>exact⟨k+1,by omega,rfl,by rw[hg];exact r7,r3,sb⟩
   ·rw[if_neg (fun h=>h5 h.2)]at hg
    go_step
    refine rp ?_;refine p_v _ (XK (k) (n)) (Za ?_);simp only[pv];iterate 10 go_step
    refine rp ?_;refine p_x k hlt underlying62 sizeOf3 ?_;simp only[pv];refine p_d (ob+k*1) rB (.int .i64 (Z k)) hbt' isAgg3 ?_;simp only[pv];refine UG (by rfl) 3 rfl (.int .i64 0) JV rfl ?_;intro g9 z7002 n0 r9 k;simp only[pv];have d3x9:=l_l r3.lt n0;have d7x9:=l_l r7.lt n0;have b9:=Nat.le_trans sb.size n0;clear n0;replace r3:=k.ro r3;replace r7:=k.ro r7;replace sb:=kk sb k;clear k;refine Yj (by rfl) 3 _ _ rfl _ (0) rfl r9 (.int .i64 (Z k)) rfl rfl rfl Yw (by exact Nat.one_pos) (#[.int .i64 (Z k)]) rfl ?_;clear r9;intro z7003 r9 k;simp only[Act.put];replace r3:=k.ro r3;replace r7:=k.ro r7;replace sb:=kk sb k;clear k;refine Za ?_;iterate 3 go_step
    refine rp ?_;refine p_d 0 r9.r (.int .i64 (Z k)) rfl isAgg3 ?_;simp only[pv];refine p_d 0 r7.r (.int .i64 m) rfl isAgg3 ?_;simp only[pv];refine p_v _ (Jp (Z k) (m)) ?_;refine p_m ?_;refine p_m ?_;simp only[pv];refine p_v (.func (.func 150) #[] #[.pointer (some ⟨g9,0,none⟩)]) (YG _ _ rfl _ rfl) ?_;simp only[pv];refine Yd (by rfl) (149) _ _ _ rfl (#[.pointer (some ⟨g3,0,none⟩)]) rfl (func149) ((by kernel_rfl)) #[.func (.func 150) #[] #[.pointer (some ⟨g9,0,none⟩)]] rfl _ (hct _ g9 sb r3 r9) ?_;intro z8006 k;simp only[pv];replace r3:=k.ro r3;replace r7:=k.ro r7;replace r9:=k.ro r9;replace sb:=kk sb k;clear k;refine p_m ?_;simp only[pv];refine p_v _ (Xi _ _ _ _ rfl (t) (1) (t+1) rfl rfl (by omega) (by omega) (by omega)) ?_;simp only[pv];refine p_v _ (ZG _ _ _ _ rfl ((u:Nat)) (t+1) rfl rfl false (decide_eq_false (by omega))) ?_;refine p_k true (.bool false) (Za ?_);simp only[pv];iterate 6 go_step
    refine rp ?_;refine p_v _ (Xi _ _ _ _ rfl (k) (1) ((k+1:Nat)) rfl rfl (by omega) (by omega) (by omega)) ?_;refine p_m (Za ?_);simp only[pv];go_wp2
    go_roundg x
    case measure=>omega
    case rel=>exact⟨k+1,by omega,rfl,by rw[hg];exact r7,r3,sb⟩
end Go.Proofs.YtcdahmommonnfaaGreatDoor
