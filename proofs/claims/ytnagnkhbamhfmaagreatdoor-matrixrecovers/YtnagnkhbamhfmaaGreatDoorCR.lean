import Derived.Test.YtnagnkhbamhfmaaGreatDoorCO
set_option maxRecDepth 100000
set_option maxHeartbeats 8000000
namespace Go.Proofs.YtnagnkhbamhfmaaGreatDoor
set_option linter.all false
open Go.RowKit
open Go.Proofs.Tryz
theorem Ri (ab:Option Addr)(n c P Q G:Nat)(C:Nat->Nat)(gb ob:Nat)(bcs:Array Value)(tb:TypeId)(w:World)(hn:n<4611686018427387904)(h2:2<=P)(hP:P<4611686018427387904)(h0:0<Q)(hQ:Q<4611686018427387904)(hna:NatsAt w ab n C gb ob bcs tb):
  Calls prog 101 #[.agg (smC (P:Nat) (Q:Nat) (G:Nat)),.slice ab n c] w fun e w'=>e= .returned (.bool (Sh P Q C n))/\Below w.heap.size w w':=by
 have hin:=fun k w' (hk:k<n)=>Ee (C k) P Q ((G:Nat):Int) w' (hna.lt k hk) h2 hP h0 (by omega)
 have HB:Hid (NatsAt w ab n C gb ob bcs tb):=hna;obtain⟨B,hB⟩: ∃B:Nat->Bool,∀k,Kg P Q (C k)=B k:=⟨_,fun _=>rfl⟩
 have HM:Hid (Sh P Q C n=(decide (1<=n)&&decide (n<=7)&& !anB (fun k=> !B k) n)):=(show Sh P Q C n=_ by
  unfold Sh
  simp only[hB])
 simp only[hB]at hin;clear hna hB
 go_enter iU0,ntmps101
 iterate 2 go_step
 refine rp ?_;refine Zy (by rfl) 27 _ rfl (smC (P:Nat) (Q:Nat) (G:Nat)) rfl ?_;intro g2 z0 n0 r2 k;refine p_W ?_;clear n0;have sb:=k_b k;clear k;refine p_V (.bool false) (fun _=>rfl) ?_;iterate 4 go_step
 refine rp ?_;refine p_V (.int .i64 0) (fun _=>rfl) ?_
 go_wp2_with fail
 go_loopg [5] n (fun x s5 wr=> ∃k:Nat,k+x=n/\s5= .int .i64 k/\anB (fun k=> !B k) k=false/\Row wr g2 (smC (P:Nat) (Q:Nat) (G:Nat)) 27/\Below w.heap.size w wr)
 case atStart=>exact⟨0,by omega,rfl,rfl,r2,sb⟩
 case round=>
  clear r2 sb;obtain⟨k,hk,rfl,han,r2,sb⟩:=hrel
  cases gk with
  |zero=>
   obtain rfl:k=n:=by omega
   clear hk hin;iterate 2 go_step
   refine r_p ?_;refine p_V _ (n_l ab k c Zq) ?_;refine p_V _ (YN k k) ?_;have hM:=HM.out;rw[han]at hM;by_cases h1:1<=k
   ·by_cases h7:k<=7
    ·have HF:Hid (Sh P Q C k=true):=by rw[hM,c_ h1,c_ h7];rfl
     clear hM HM;iterate 7 go_step
     refine r_p ?_;refine p_V _ (n_l ab k c Zq) ?_;refine p_V _ (ZL _ _ _ _ rfl k 1 rfl rfl true (c_ (by omega))) ?_;refine p_V _ (n_l ab k c Zq) ?_;refine p_V _ (ZR _ _ _ _ rfl k 7 rfl rfl true (c_ (by omega))) ?_;refine p_K true (.bool true) ?_;go_wp2;go_ret;exact⟨by rw[HF.out];rfl,sb⟩
    ·have HF:Hid (Sh P Q C k=false):=by rw[hM,d_ h7,bS0];rfl
     clear hM HM;iterate 7 go_step
     refine r_p ?_;refine p_V _ (n_l ab k c Zq) ?_;refine p_V _ (ZL _ _ _ _ rfl k 1 rfl rfl true (c_ (by omega))) ?_;refine p_V _ (n_l ab k c Zq) ?_;refine p_V _ (ZR _ _ _ _ rfl k 7 rfl rfl false (d_ (by omega))) ?_;refine p_K true (.bool false) ?_;go_wp2;go_ret;exact⟨by rw[HF.out];rfl,sb⟩
   ·have HF:Hid (Sh P Q C k=false):=by rw[hM,d_ h1];rfl
    clear hM HM;iterate 7 go_step
    refine r_p ?_;refine p_V _ (n_l ab k c Zq) ?_;refine p_V _ (ZL _ _ _ _ rfl k 1 rfl rfl false (d_ (by omega))) ?_;refine p_K false (.bool false) ?_;go_wp2;go_ret;exact⟨by rw[HF.out];rfl,sb⟩
  |succ x=>
   have hlt:k<n:=by omega
   have hik:=fun w'=>hin k w' hlt
   iterate 2 go_step
   refine r_p ?_;refine p_V _ (n_l ab n c Zq) ?_;refine p_V _ (YW k n) ?_;obtain h0|⟨rfl,rB,hbt⟩:=(HB.out.below sb).at'
   ·exact absurd h0 (by omega)
   have hbt':=hbt k hlt;clear hbt
   cases hBk:B k with
   |true=>
    have hnx:anB (fun k=> !B k) (k+1)=false:=by
     show(anB _ k|| !B k)=false
     rw[han,hBk];rfl
    rw[hBk]at hik;iterate 9 go_step
    refine Zl (by kernel_rfl) (by kernel_rfl) ?_;refine ZY (by rfl) 27 _ rfl _ (0) rfl r2 (smC (P:Nat) (Q:Nat) (G:Nat)) (ZQ _) _ M_ rfl Yi (q_W ?_);refine q_x k hlt t_ ZD ?_;refine q_W ?_;refine YX (by rfl) 57 _ rfl _ (ob+k*4) rfl rB (Zb (C k)) hbt' _ b_ rfl Zc (q_W ?_);refine q_c 145 func145 #[.agg (smC (P:Nat) (Q:Nat) (G:Nat)),.agg (Zb (C k))] hik ?_;refine q_W ?_;refine q_V _ (Zs _ _ rfl true rfl) ?_;intro w6 hqb;replace r2:=r2.belowAll hqb;replace sb:=b_o sb hqb;clear hqb rB hbt';iterate 6 go_step
    refine r_p ?_;refine p_V _ (x_a k 1) ?_;go_wp2
    go_roundg x
    ·exact⟨k+1,by omega,rfl,hnx,r2,sb⟩
    omega
   |false=>
    have HF:Hid (Sh P Q C n=false):=(show Sh P Q C n=false by
     rw[HM.out,(Vk _ n).2 ⟨k,hlt,by rw[hBk];rfl⟩,Bool.not_true,bS0])
    rw[hBk]at hik;iterate 9 go_step
    refine Zl (by kernel_rfl) (by kernel_rfl) ?_;refine ZY (by rfl) 27 _ rfl _ (0) rfl r2 (smC (P:Nat) (Q:Nat) (G:Nat)) (ZQ _) _ M_ rfl Yi (q_W ?_);refine q_x k hlt t_ ZD ?_;refine q_W ?_;refine YX (by rfl) 57 _ rfl _ (ob+k*4) rfl rB (Zb (C k)) hbt' _ b_ rfl Zc (q_W ?_);refine q_c 145 func145 #[.agg (smC (P:Nat) (Q:Nat) (G:Nat)),.agg (Zb (C k))] hik ?_;refine q_W ?_;refine q_V _ (Zs _ _ rfl false rfl) ?_;intro w6 hqb;replace sb:=b_o sb hqb;clear hqb rB hbt';iterate 4 go_step
    refine rp ?_;refine p_V (.bool false) (fun _=>rfl) ?_;go_wp2;go_ret;exact⟨by rw[HF.out];rfl,sb⟩
def rAt (P:Nat)(C:Nat->Nat)(i k:Nat):Nat:=prd (fun j=>C j^(i^j)) k%P
theorem Hx (ab:Option Addr)(n c P Q G:Nat)(C:Nat->Nat)(gb ob:Nat)(bcs:Array Value)(tb:TypeId)(i:Nat)(w:World)(hn:n<=7)(hi7:i<=7)(h2:2<=P)(hP:P<4611686018427387904)(h0:0<Q)(hQ:Q<4611686018427387904)(hna:NatsAt w ab n C gb ob bcs tb):
  Calls prog 186 #[.agg (smC (P:Nat) (Q:Nat) (G:Nat)),.slice ab n c,.int .i64 i] w fun e w'=>e= .returned (.int .i64 (prd (fun j=>C j^(i^j)) n%P:Nat))/\Below w.heap.size w w':=by
 show Calls _ _ _ _ fun e w'=>e= .returned (.int .i64 ((rAt P C i n:Nat):Int))/\_
 have hby:=fun k w' (hk:k<n)=>BW (C k) P w' (hna.lt k hk) (by omega) hP
 have hit:=fun k w' (hk:k<n)=>Vo ((i^k:Nat):Int) w' (by have:=zA hi7 (show k<=7 by omega);omega)
 simp only[q_]at hit;have hex:=fun k w' (hk:k<n)=>Sg (C k%P) (i^k) P ((Q:Nat):Int) ((G:Nat):Int) w' (E_ (zA hi7 (show k<=7 by omega)) (by decide)) (by omega) hP
 have hmu:=fun k w'=>ID (rAt P C i k) ((C k%P)^(i^k)%P) P ((Q:Nat):Int) ((G:Nat):Int) w' (by omega) hP
 have h10:rAt P C i 0=1:=wJ _ P h2;have hon: ∀k,rAt P C i k*((C k%P)^(i^k)%P)%P=rAt P C i (k+1):=fun k=>yV (fun j=>C j^(i^j)) k P (C k) (i^k) rfl
 simp only[hon]at hmu;have HPW:Hid (∀k,k<n->i^k*i=i^(k+1)/\i^(k+1)<4611686018427387904):=fun k hk=>⟨by rw[cK0],zA hi7 (by omega)⟩
 have HB:Hid (NatsAt w ab n C gb ob bcs tb):=hna;generalize rAt P C i=D at*;obtain⟨T,hT⟩: ∃T:Nat->Nat,∀k,(C k%P)^(i^k)%P=T k:=⟨_,fun _=>rfl⟩
 obtain⟨X,hX⟩: ∃X:Nat->Nat,∀k,C k%P=X k:=⟨_,fun _=>rfl⟩
 obtain⟨E,hE⟩: ∃E:Nat->Nat,∀k,i^k=E k:=⟨_,fun _=>rfl⟩
 have hE0:E 0=1:=by rw[<-hE];exact aB0 i
 simp only[hT]at hmu hex;simp only[hX]at hby hex;simp only[hE]at hit hex
 have HE:Hid (∀k,k<n->E k*i=E (k+1)/\E (k+1)<4611686018427387904):=fun k hk=>by
  have:=HPW.out k hk;simp only[hE]at this;exact this
 clear hna hon hT hX hE HPW
 go_enter func186,ntmps186
 iterate 2 go_step
 refine rp ?_;refine Zy (by rfl) 27 _ rfl (smC (P:Nat) (Q:Nat) (G:Nat)) rfl ?_;intro g3 z0 n0 r3 k;refine p_W ?_;clear n0;have sb:=k_b k;clear k;refine p_V (.int .i64 0) (fun _=>rfl) ?_;iterate 3 go_step
 refine rp ?_;refine p_V (.int .i64 1) (fun _=>rfl) ?_;refine p_V (.int .i64 1) (fun _=>rfl) ?_;iterate 4 go_step
 refine rp ?_;refine p_V (.int .i64 0) (fun _=>rfl) ?_
 go_wp2_with fail
 go_loopg [7,8,9] n (fun x s7 s8 s9 wr=> ∃k:Nat,k+x=n/\s9= .int .i64 k/\s7= .int .i64 (D k:Nat)/\s8= .int .i64 (E k:Nat)/\Row wr g3 (smC (P:Nat) (Q:Nat) (G:Nat)) 27/\Below w.heap.size w wr)
 case atStart=>exact⟨0,by omega,rfl,by rw[h10];rfl,by rw[hE0];rfl,r3,sb⟩
 case round=>
  clear r3 sb;obtain⟨k,hk,rfl,rfl,rfl,r3,sb⟩:=hrel
  cases gk with
  |zero=>
   obtain rfl:k=n:=by omega
   clear hk hby hit hex hmu;iterate 2 go_step
   refine r_p ?_;refine p_V _ (n_l ab k c Zq) ?_;refine p_V _ (YN k k) ?_;iterate 7 go_step
   refine r_p ?_;go_wp2;go_ret;exact⟨rfl,sb⟩
  |succ x=>
   have hlt:k<n:=by omega
   have hbk:=fun w'=>hby k w' hlt
   have hik:=fun w'=>hit k w' hlt
   have hxk:=fun w'=>hex k w' hlt
   have hmk:=hmu k;obtain⟨hEk,hEl⟩:=HE.out k hlt;clear hby hit hex hmu;iterate 2 go_step
   refine r_p ?_;refine p_V _ (n_l ab n c Zq) ?_;refine p_V _ (YW k n) ?_;obtain h0|⟨rfl,rB,hbt⟩:=(HB.out.below sb).at'
   ·exact absurd h0 (by omega)
   have hbt':=hbt k hlt;clear hbt;iterate 9 go_step
   refine Zl (by kernel_rfl) (by kernel_rfl) ?_;refine ZY (by rfl) 27 _ rfl _ (0) rfl r3 (smC (P:Nat) (Q:Nat) (G:Nat)) (ZQ _) _ M_ rfl Yi (q_W ?_);refine ZY (by rfl) 27 _ rfl _ (0) rfl r3 (smC (P:Nat) (Q:Nat) (G:Nat)) (ZQ _) _ M_ rfl Yi (q_W ?_);refine q_x k hlt t_ ZD ?_;refine q_W ?_;refine YX (by rfl) 57 _ rfl _ (ob+k*4) rfl rB (Zb (C k)) hbt' _ b_ rfl Zc (q_W ?_);refine q_V _ (Ze 27 _ 0 rfl g3 0 rfl _ M_ _ rfl 0 Q_) ?_;refine ZF (by rfl) 3 _ rfl _ (0) rfl r3 (.int .i64 (P:Nat)) rfl aD0 (q_W ?_);refine q_c 87 func87 #[.agg (Zb (C k)),.int .i64 (P:Nat)] hbk ?_;refine q_W ?_;refine q_c 40 func40 #[.int .i64 (E k:Nat)] hik ?_;refine q_W ?_;refine q_c 88 func88 #[.agg (smC (P:Nat) (Q:Nat) (G:Nat)),.int .i64 (X k:Nat),.agg (Zb (E k))] hxk ?_;refine q_W ?_;refine q_c 208 func208 #[.agg (smC (P:Nat) (Q:Nat) (G:Nat)),.int .i64 (D k:Nat),.int .i64 (T k:Nat)] hmk ?_;refine q_W ?_;intro w6 hqb;replace r3:=r3.belowAll hqb;replace sb:=b_o sb hqb;clear hqb rB hbt';iterate 2 go_step
   refine r_p ?_;refine p_V _ (YT _ _ _ _ rfl (E k) i (E (k+1)) rfl rfl hEk (by omega)) ?_;iterate 2 go_step
   refine r_p ?_;refine p_V _ (x_a k 1) ?_;go_wp2
   go_roundg x
   ·exact⟨k+1,by omega,rfl,rfl,rfl,r3,sb⟩
   omega
theorem vv (ab:Option Addr)(n c P Q G Y:Nat)(yy i:Int)(Is:Bool)(w:World)
  (hlo: ∀w',Calls prog 50 #[.agg (Zb Y)] w' (Rt (.tuple #[.int .i64 yy,.bool Is]) w'))
  (hma: ∀w',Below w.heap.size w w'->Calls prog 101 #[.agg (smC (P:Nat) (Q:Nat) (G:Nat)),.slice ab n c] w' (Rt (.bool false) w')):
  Calls prog 146 #[.agg (smC (P:Nat) (Q:Nat) (G:Nat)),.slice ab n c,.agg (shC i Y)] w fun e w'=>e= .returned (.bool false)/\Below w.heap.size w w':=by
 go_enter func146,ntmps146
 iterate 2 go_step
 refine rp ?_;refine Zy (by rfl) 27 _ rfl (smC (P:Nat) (Q:Nat) (G:Nat)) rfl ?_;intro g3 z0 n0 r3 k;refine p_W ?_;clear n0;have sb:=k_b k;clear k;refine Zy (by rfl) 111 _ rfl (shC i Y) rfl ?_;intro g5 z1 n0 r5 k;refine p_W ?_;clear n0;replace r3:=k.ro r3;replace sb:=kk sb k;clear k;refine p_V (.bool false) (fun _=>rfl) ?_;iterate 3 go_step
 refine rp ?_;refine p_V _ (Ze 111 _ 1 rfl g5 (0) rfl _ J_ _ rfl 3 aV0) ?_;refine ZC (by rfl) 57 _ rfl _ (0+1) rfl r5.r (Zb Y) (XZ i Y) _ b_ rfl Zc (p_W ?_);refine p_c 50 hI0 #[.agg (Zb Y)] (hlo _) ?_;intro z1002 k;refine p_W ?_;replace r3:=k.ro r3;replace r5:=k.ro r5;replace sb:=kk sb k;clear k;refine p_W ?_;iterate 3 go_step
 refine Zl (by kernel_rfl) (by kernel_rfl) ?_;refine ZY (by rfl) 27 _ rfl _ (0) rfl r3 (smC (P:Nat) (Q:Nat) (G:Nat)) (ZQ _) _ M_ rfl Yi (q_W ?_);refine q_k 101 iU0 #[.agg (smC (P:Nat) (Q:Nat) (G:Nat)),.slice ab n c] (fun w' hb=>hma w' (Zi sb (e_ _) hb)) ?_;refine q_W ?_;refine q_P false (.bool false) ?_;refine q_P false (.bool false) ?_;refine q_P false (.bool false) ?_;refine q_P false (.bool false) ?_;refine q_P false (.bool false) ?_;intro w3 hqb;replace sb:=b_o sb hqb;clear hqb;go_wp2;go_ret;exact⟨rfl,sb⟩
theorem vw (ab:Option Addr)(n c P Q G Y:Nat)(yy i:Int)(Is:Bool)(h:i<1)(w:World)
  (hlo: ∀w',Calls prog 50 #[.agg (Zb Y)] w' (Rt (.tuple #[.int .i64 yy,.bool Is]) w'))
  (hma: ∀w',Below w.heap.size w w'->Calls prog 101 #[.agg (smC (P:Nat) (Q:Nat) (G:Nat)),.slice ab n c] w' (Rt (.bool true) w')):
  Calls prog 146 #[.agg (smC (P:Nat) (Q:Nat) (G:Nat)),.slice ab n c,.agg (shC i Y)] w fun e w'=>e= .returned (.bool false)/\Below w.heap.size w w':=by
 go_enter func146,ntmps146
 iterate 2 go_step
 refine rp ?_;refine Zy (by rfl) 27 _ rfl (smC (P:Nat) (Q:Nat) (G:Nat)) rfl ?_;intro g3 z0 n0 r3 k;refine p_W ?_;clear n0;have sb:=k_b k;clear k;refine Zy (by rfl) 111 _ rfl (shC i Y) rfl ?_;intro g5 z1 n0 r5 k;refine p_W ?_;clear n0;replace r3:=k.ro r3;replace sb:=kk sb k;clear k;refine p_V (.bool false) (fun _=>rfl) ?_;iterate 3 go_step
 refine rp ?_;refine p_V _ (Ze 111 _ 1 rfl g5 (0) rfl _ J_ _ rfl 3 aV0) ?_;refine ZC (by rfl) 57 _ rfl _ (0+1) rfl r5.r (Zb Y) (XZ i Y) _ b_ rfl Zc (p_W ?_);refine p_c 50 hI0 #[.agg (Zb Y)] (hlo _) ?_;intro z1002 k;refine p_W ?_;replace r3:=k.ro r3;replace r5:=k.ro r5;replace sb:=kk sb k;clear k;refine p_W ?_;iterate 3 go_step
 refine Zl (by kernel_rfl) (by kernel_rfl) ?_;refine ZY (by rfl) 27 _ rfl _ (0) rfl r3 (smC (P:Nat) (Q:Nat) (G:Nat)) (ZQ _) _ M_ rfl Yi (q_W ?_);refine q_k 101 iU0 #[.agg (smC (P:Nat) (Q:Nat) (G:Nat)),.slice ab n c] (fun w' hb=>hma w' (Zi sb (e_ _) hb)) ?_;refine q_W ?_;refine q_V _ (Ze 111 _ 0 rfl g5 (0) rfl _ J_ _ rfl 0 Q_) ?_;refine ZF (by rfl) 3 _ rfl _ (0) rfl r5 (.int .i64 i) rfl aD0 (q_W ?_);refine q_V _ (ZL _ _ _ _ rfl i 1 rfl rfl false (d_ (by omega))) ?_;refine q_P true (.bool false) ?_;refine q_P false (.bool false) ?_;refine q_P false (.bool false) ?_;refine q_P false (.bool false) ?_;refine q_P false (.bool false) ?_;intro w3 hqb;replace sb:=b_o sb hqb;clear hqb;go_wp2;go_ret;exact⟨rfl,sb⟩
theorem vz (ab:Option Addr)(n c P Q G Y:Nat)(yy i:Int)(Is:Bool)(h1:1<=i)(h:7<i)(w:World)
  (hlo: ∀w',Calls prog 50 #[.agg (Zb Y)] w' (Rt (.tuple #[.int .i64 yy,.bool Is]) w'))
  (hma: ∀w',Below w.heap.size w w'->Calls prog 101 #[.agg (smC (P:Nat) (Q:Nat) (G:Nat)),.slice ab n c] w' (Rt (.bool true) w')):
  Calls prog 146 #[.agg (smC (P:Nat) (Q:Nat) (G:Nat)),.slice ab n c,.agg (shC i Y)] w fun e w'=>e= .returned (.bool false)/\Below w.heap.size w w':=by
 go_enter func146,ntmps146
 iterate 2 go_step
 refine rp ?_;refine Zy (by rfl) 27 _ rfl (smC (P:Nat) (Q:Nat) (G:Nat)) rfl ?_;intro g3 z0 n0 r3 k;refine p_W ?_;clear n0;have sb:=k_b k;clear k;refine Zy (by rfl) 111 _ rfl (shC i Y) rfl ?_;intro g5 z1 n0 r5 k;refine p_W ?_;clear n0;replace r3:=k.ro r3;replace sb:=kk sb k;clear k;refine p_V (.bool false) (fun _=>rfl) ?_;iterate 3 go_step
 refine rp ?_;refine p_V _ (Ze 111 _ 1 rfl g5 (0) rfl _ J_ _ rfl 3 aV0) ?_;refine ZC (by rfl) 57 _ rfl _ (0+1) rfl r5.r (Zb Y) (XZ i Y) _ b_ rfl Zc (p_W ?_);refine p_c 50 hI0 #[.agg (Zb Y)] (hlo _) ?_;intro z1002 k;refine p_W ?_;replace r3:=k.ro r3;replace r5:=k.ro r5;replace sb:=kk sb k;clear k;refine p_W ?_;iterate 3 go_step
 refine Zl (by kernel_rfl) (by kernel_rfl) ?_;refine ZY (by rfl) 27 _ rfl _ (0) rfl r3 (smC (P:Nat) (Q:Nat) (G:Nat)) (ZQ _) _ M_ rfl Yi (q_W ?_);refine q_k 101 iU0 #[.agg (smC (P:Nat) (Q:Nat) (G:Nat)),.slice ab n c] (fun w' hb=>hma w' (Zi sb (e_ _) hb)) ?_;refine q_W ?_;refine q_V _ (Ze 111 _ 0 rfl g5 (0) rfl _ J_ _ rfl 0 Q_) ?_;refine ZF (by rfl) 3 _ rfl _ (0) rfl r5 (.int .i64 i) rfl aD0 (q_W ?_);refine q_V _ (ZL _ _ _ _ rfl i 1 rfl rfl true (c_ (by omega))) ?_;refine q_P true (.bool true) ?_;refine q_V _ (Ze 111 _ 0 rfl g5 (0) rfl _ J_ _ rfl 0 Q_) ?_;refine ZF (by rfl) 3 _ rfl _ (0) rfl r5 (.int .i64 i) rfl aD0 (q_W ?_);refine q_V _ (ZR _ _ _ _ rfl i 7 rfl rfl false (d_ (by omega))) ?_;refine q_P true (.bool false) ?_;refine q_P false (.bool false) ?_;refine q_P false (.bool false) ?_;refine q_P false (.bool false) ?_;intro w3 hqb;replace sb:=b_o sb hqb;clear hqb;go_wp2;go_ret;exact⟨rfl,sb⟩
theorem vA (ab:Option Addr)(n c P Q G Y:Nat)(yy i:Int)(h1:1<=i)(h:i<=7)(w:World)
  (hlo: ∀w',Calls prog 50 #[.agg (Zb Y)] w' (Rt (.tuple #[.int .i64 yy,.bool false]) w'))
  (hma: ∀w',Below w.heap.size w w'->Calls prog 101 #[.agg (smC (P:Nat) (Q:Nat) (G:Nat)),.slice ab n c] w' (Rt (.bool true) w')):
  Calls prog 146 #[.agg (smC (P:Nat) (Q:Nat) (G:Nat)),.slice ab n c,.agg (shC i Y)] w fun e w'=>e= .returned (.bool false)/\Below w.heap.size w w':=by
 go_enter func146,ntmps146
 iterate 2 go_step
 refine rp ?_;refine Zy (by rfl) 27 _ rfl (smC (P:Nat) (Q:Nat) (G:Nat)) rfl ?_;intro g3 z0 n0 r3 k;refine p_W ?_;clear n0;have sb:=k_b k;clear k;refine Zy (by rfl) 111 _ rfl (shC i Y) rfl ?_;intro g5 z1 n0 r5 k;refine p_W ?_;clear n0;replace r3:=k.ro r3;replace sb:=kk sb k;clear k;refine p_V (.bool false) (fun _=>rfl) ?_;iterate 3 go_step
 refine rp ?_;refine p_V _ (Ze 111 _ 1 rfl g5 (0) rfl _ J_ _ rfl 3 aV0) ?_;refine ZC (by rfl) 57 _ rfl _ (0+1) rfl r5.r (Zb Y) (XZ i Y) _ b_ rfl Zc (p_W ?_);refine p_c 50 hI0 #[.agg (Zb Y)] (hlo _) ?_;intro z1002 k;refine p_W ?_;replace r3:=k.ro r3;replace r5:=k.ro r5;replace sb:=kk sb k;clear k;refine p_W ?_;iterate 3 go_step
 refine Zl (by kernel_rfl) (by kernel_rfl) ?_;refine ZY (by rfl) 27 _ rfl _ (0) rfl r3 (smC (P:Nat) (Q:Nat) (G:Nat)) (ZQ _) _ M_ rfl Yi (q_W ?_);refine q_k 101 iU0 #[.agg (smC (P:Nat) (Q:Nat) (G:Nat)),.slice ab n c] (fun w' hb=>hma w' (Zi sb (e_ _) hb)) ?_;refine q_W ?_;refine q_V _ (Ze 111 _ 0 rfl g5 (0) rfl _ J_ _ rfl 0 Q_) ?_;refine ZF (by rfl) 3 _ rfl _ (0) rfl r5 (.int .i64 i) rfl aD0 (q_W ?_);refine q_V _ (ZL _ _ _ _ rfl i 1 rfl rfl true (c_ (by omega))) ?_;refine q_P true (.bool true) ?_;refine q_V _ (Ze 111 _ 0 rfl g5 (0) rfl _ J_ _ rfl 0 Q_) ?_;refine ZF (by rfl) 3 _ rfl _ (0) rfl r5 (.int .i64 i) rfl aD0 (q_W ?_);refine q_V _ (ZR _ _ _ _ rfl i 7 rfl rfl true (c_ (by omega))) ?_;refine q_P true (.bool true) ?_;refine q_P true (.bool false) ?_;refine q_P false (.bool false) ?_;refine q_P false (.bool false) ?_;intro w3 hqb;replace sb:=b_o sb hqb;clear hqb;go_wp2;go_ret;exact⟨rfl,sb⟩
theorem vB (ab:Option Addr)(n c P Q G Y:Nat)(yy i:Int)(h1:1<=i)(h:i<=7)(hy:(Q:Nat)<=yy)(w:World)
  (hlo: ∀w',Calls prog 50 #[.agg (Zb Y)] w' (Rt (.tuple #[.int .i64 yy,.bool true]) w'))
  (hma: ∀w',Below w.heap.size w w'->Calls prog 101 #[.agg (smC (P:Nat) (Q:Nat) (G:Nat)),.slice ab n c] w' (Rt (.bool true) w')):
  Calls prog 146 #[.agg (smC (P:Nat) (Q:Nat) (G:Nat)),.slice ab n c,.agg (shC i Y)] w fun e w'=>e= .returned (.bool false)/\Below w.heap.size w w':=by
 go_enter func146,ntmps146
 iterate 2 go_step
 refine rp ?_;refine Zy (by rfl) 27 _ rfl (smC (P:Nat) (Q:Nat) (G:Nat)) rfl ?_;intro g3 z0 n0 r3 k;refine p_W ?_;clear n0;have sb:=k_b k;clear k;refine Zy (by rfl) 111 _ rfl (shC i Y) rfl ?_;intro g5 z1 n0 r5 k;refine p_W ?_;clear n0;replace r3:=k.ro r3;replace sb:=kk sb k;clear k;refine p_V (.bool false) (fun _=>rfl) ?_;iterate 3 go_step
 refine rp ?_;refine p_V _ (Ze 111 _ 1 rfl g5 (0) rfl _ J_ _ rfl 3 aV0) ?_;refine ZC (by rfl) 57 _ rfl _ (0+1) rfl r5.r (Zb Y) (XZ i Y) _ b_ rfl Zc (p_W ?_);refine p_c 50 hI0 #[.agg (Zb Y)] (hlo _) ?_;intro z1002 k;refine p_W ?_;replace r3:=k.ro r3;replace r5:=k.ro r5;replace sb:=kk sb k;clear k;refine p_W ?_;iterate 3 go_step
 refine Zl (by kernel_rfl) (by kernel_rfl) ?_;refine ZY (by rfl) 27 _ rfl _ (0) rfl r3 (smC (P:Nat) (Q:Nat) (G:Nat)) (ZQ _) _ M_ rfl Yi (q_W ?_);refine q_k 101 iU0 #[.agg (smC (P:Nat) (Q:Nat) (G:Nat)),.slice ab n c] (fun w' hb=>hma w' (Zi sb (e_ _) hb)) ?_;refine q_W ?_;refine q_V _ (Ze 111 _ 0 rfl g5 (0) rfl _ J_ _ rfl 0 Q_) ?_;refine ZF (by rfl) 3 _ rfl _ (0) rfl r5 (.int .i64 i) rfl aD0 (q_W ?_);refine q_V _ (ZL _ _ _ _ rfl i 1 rfl rfl true (c_ (by omega))) ?_;refine q_P true (.bool true) ?_;refine q_V _ (Ze 111 _ 0 rfl g5 (0) rfl _ J_ _ rfl 0 Q_) ?_;refine ZF (by rfl) 3 _ rfl _ (0) rfl r5 (.int .i64 i) rfl aD0 (q_W ?_);refine q_V _ (ZR _ _ _ _ rfl i 7 rfl rfl true (c_ (by omega))) ?_;refine q_P true (.bool true) ?_;refine q_P true (.bool true) ?_;refine q_V _ (Ze 27 _ 1 rfl g3 0 rfl _ M_ _ rfl 0 Q_) ?_;refine ZF (by rfl) 3 _ rfl _ (0+1) rfl r3 (.int .i64 (Q:Nat)) rfl aD0 (q_W ?_);refine q_V _ (YN yy (Q:Nat)) ?_;refine q_P true (.bool false) ?_;refine q_P false (.bool false) ?_;intro w3 hqb;replace sb:=b_o sb hqb;clear hqb;go_wp2;go_ret;exact⟨rfl,sb⟩
theorem vC (ab:Option Addr)(n c P Q G Y:Nat)(yy i:Int)(X1 X2:Nat)(B:Bool)(hB:decide ((X1:Int)=X2)=B)(h1:1<=i)(h:i<=7)(hy:yy<(Q:Nat))(w:World)
  (hex: ∀w',Calls prog 88 #[.agg (smC (P:Nat) (Q:Nat) (G:Nat)),.int .i64 (G:Nat),.agg (Zb Y)] w' (Rt (.int .i64 (X1:Nat)) w'))
  (hat: ∀w',Below w.heap.size w w'->Calls prog 186 #[.agg (smC (P:Nat) (Q:Nat) (G:Nat)),.slice ab n c,.int .i64 i] w' (Rt (.int .i64 (X2:Nat)) w'))
  (hlo: ∀w',Calls prog 50 #[.agg (Zb Y)] w' (Rt (.tuple #[.int .i64 yy,.bool true]) w'))
  (hma: ∀w',Below w.heap.size w w'->Calls prog 101 #[.agg (smC (P:Nat) (Q:Nat) (G:Nat)),.slice ab n c] w' (Rt (.bool true) w')):
  Calls prog 146 #[.agg (smC (P:Nat) (Q:Nat) (G:Nat)),.slice ab n c,.agg (shC i Y)] w fun e w'=>e= .returned (.bool B)/\Below w.heap.size w w':=by
 go_enter func146,ntmps146
 iterate 2 go_step
 refine rp ?_;refine Zy (by rfl) 27 _ rfl (smC (P:Nat) (Q:Nat) (G:Nat)) rfl ?_;intro g3 z0 n0 r3 k;refine p_W ?_;clear n0;have sb:=k_b k;clear k;refine Zy (by rfl) 111 _ rfl (shC i Y) rfl ?_;intro g5 z1 n0 r5 k;refine p_W ?_;clear n0;replace r3:=k.ro r3;replace sb:=kk sb k;clear k;refine p_V (.bool false) (fun _=>rfl) ?_;iterate 3 go_step
 refine rp ?_;refine p_V _ (Ze 111 _ 1 rfl g5 (0) rfl _ J_ _ rfl 3 aV0) ?_;refine ZC (by rfl) 57 _ rfl _ (0+1) rfl r5.r (Zb Y) (XZ i Y) _ b_ rfl Zc (p_W ?_);refine p_c 50 hI0 #[.agg (Zb Y)] (hlo _) ?_;intro z1002 k;refine p_W ?_;replace r3:=k.ro r3;replace r5:=k.ro r5;replace sb:=kk sb k;clear k;refine p_W ?_;iterate 3 go_step
 refine Zl (by kernel_rfl) (by kernel_rfl) ?_;refine ZY (by rfl) 27 _ rfl _ (0) rfl r3 (smC (P:Nat) (Q:Nat) (G:Nat)) (ZQ _) _ M_ rfl Yi (q_W ?_);refine q_k 101 iU0 #[.agg (smC (P:Nat) (Q:Nat) (G:Nat)),.slice ab n c] (fun w' hb=>hma w' (Zi sb (e_ _) hb)) ?_;refine q_W ?_;refine q_V _ (Ze 111 _ 0 rfl g5 (0) rfl _ J_ _ rfl 0 Q_) ?_;refine ZF (by rfl) 3 _ rfl _ (0) rfl r5 (.int .i64 i) rfl aD0 (q_W ?_);refine q_V _ (ZL _ _ _ _ rfl i 1 rfl rfl true (c_ (by omega))) ?_;refine q_P true (.bool true) ?_;refine q_V _ (Ze 111 _ 0 rfl g5 (0) rfl _ J_ _ rfl 0 Q_) ?_;refine ZF (by rfl) 3 _ rfl _ (0) rfl r5 (.int .i64 i) rfl aD0 (q_W ?_);refine q_V _ (ZR _ _ _ _ rfl i 7 rfl rfl true (c_ (by omega))) ?_;refine q_P true (.bool true) ?_;refine q_P true (.bool true) ?_;refine q_V _ (Ze 27 _ 1 rfl g3 0 rfl _ M_ _ rfl 0 Q_) ?_;refine ZF (by rfl) 3 _ rfl _ (0+1) rfl r3 (.int .i64 (Q:Nat)) rfl aD0 (q_W ?_);refine q_V _ (YW yy (Q:Nat)) ?_;refine q_P true (.bool true) ?_;refine ZY (by rfl) 27 _ rfl _ (0) rfl r3 (smC (P:Nat) (Q:Nat) (G:Nat)) (ZQ _) _ M_ rfl Yi (q_W ?_);refine q_V _ (Ze 27 _ 2 rfl g3 0 rfl _ M_ _ rfl 0 Q_) ?_;refine ZF (by rfl) 3 _ rfl _ (0+2) rfl r3 (.int .i64 (G:Nat)) rfl aD0 (q_W ?_);refine q_V _ (Ze 111 _ 1 rfl g5 (0) rfl _ J_ _ rfl 3 aV0) ?_;refine ZY (by rfl) 57 _ rfl _ (0+1) rfl r5 (Zb Y) (XZ i Y) _ b_ rfl Zc (q_W ?_);refine q_c 88 func88 #[.agg (smC (P:Nat) (Q:Nat) (G:Nat)),.int .i64 (G:Nat),.agg (Zb Y)] hex ?_;refine q_W ?_;refine ZY (by rfl) 27 _ rfl _ (0) rfl r3 (smC (P:Nat) (Q:Nat) (G:Nat)) (ZQ _) _ M_ rfl Yi (q_W ?_);refine q_V _ (Ze 111 _ 0 rfl g5 (0) rfl _ J_ _ rfl 0 Q_) ?_;refine ZF (by rfl) 3 _ rfl _ (0) rfl r5 (.int .i64 i) rfl aD0 (q_W ?_);refine q_k 186 func186 #[.agg (smC (P:Nat) (Q:Nat) (G:Nat)),.slice ab n c,.int .i64 i] (fun w' hb=>hat w' (Zi sb (e_ _) hb)) ?_;refine q_W ?_;refine q_V _ (Zz .i64 _ _ _ _ rfl (X1:Nat) (X2:Nat) rfl rfl B hB) ?_;refine q_P true (.bool B) ?_;intro w3 hqb;replace sb:=b_o sb hqb;clear hqb;go_wp2;go_ret;exact⟨rfl,sb⟩
theorem L8 (ab:Option Addr)(n c P Q G:Nat)(C:Nat->Nat)(gb ob:Nat)(bcs:Array Value)(tb:TypeId)(i:Int)(Y:Nat)(w:World)(hY:Y<2^256)(hn:n<4611686018427387904)(h2:2<=P)(hP:P<4611686018427387904)(h0:0<Q)(hQ:Q<4611686018427387904)(hna:NatsAt w ab n C gb ob bcs tb):
  Calls prog 146 #[.agg (smC (P:Nat) (Q:Nat) (G:Nat)),.slice ab n c,.agg (shC i Y)] w (Rt (.bool (Ra P Q G C n i Y)) w):=by
 have hma:=fun w' (hb:Below w.heap.size w w')=>Ri ab n c P Q G C gb ob bcs tb w' hn h2 hP h0 hQ (hna.below hb)
 have hlo:=fun w'=>U3 Y w' hY
 unfold Ra
 cases hm:Sh P Q C n with
 |false=>
  rw[hm]at hma;rw[bS0,bS0];exact vv ab n c P Q G Y (QE Y) i (Qp Y) w hlo hma
 |true=>
  rw[hm]at hma;rw[Bool.and_true]
  have hn7:n<=7:=by
   unfold Sh at hm;simp only[p_,Y_]at hm;exact hm.1.2
  by_cases h1:1<=i
  ·by_cases h7:i<=7
   ·rw[c_ h1,c_ h7,aF0,aF0];by_cases hl:Y<9223372036854775808
    ·rw[show QE Y=((Y:Nat):Int)from i_ hl,show Qp Y=true from c_ hl]at hlo;by_cases hy:Y<Q
     ·rw[c_ hy,aF0];obtain⟨k,rfl⟩: ∃k:Nat,i=k:=⟨i.toNat,by omega⟩
      have e:cAt P C n (k:Nat)=prd (fun j=>C j^(k^j)) n%P:=by
       unfold cAt;rw[i_ ⟨by omega,h7,hn7⟩,q_]
      rw[e];exact vC ab n c P Q G Y Y (k:Nat) (G^Y%P) (prd (fun j=>C j^(k^j)) n%P) _ (bO0.2 Int.ofNat_inj) h1 h7 (by omega) w (fun w'=>Sg G Y P ((Q:Nat):Int) ((G:Nat):Int) w' hY (by omega) hP) (fun w' hb=>Hx ab n c P Q G C gb ob bcs tb k w' hn7 (by omega) h2 hP h0 hQ (hna.below hb)) hlo hma
     ·rw[d_ hy,N_];exact vB ab n c P Q G Y Y i h1 h7 (by omega) w hlo hma
    ·rw[show Qp Y=false from d_ hl]at hlo;rw[d_ (show ¬Y<Q by omega),N_];exact vA ab n c P Q G Y _ i h1 h7 w hlo hma
   ·rw[d_ h7,bS0,N_,N_];exact vz ab n c P Q G Y (QE Y) i (Qp Y) h1 (by omega) w hlo hma
  ·rw[d_ h1,N_,N_,N_];exact vw ab n c P Q G Y (QE Y) i (Qp Y) (by omega) w hlo hma