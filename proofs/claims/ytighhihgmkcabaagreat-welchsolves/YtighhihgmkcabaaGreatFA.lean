import Derived.Test.YtighhihgmkcabaaGreatGV
import Derived.Test.YtighhihgmkcabaaGreatWAdd
import Derived.Test.YtighhihgmkcabaaGreatWI
set_option maxRecDepth 100000
set_option maxHeartbeats 2000000
namespace Go.Proofs.YtighhihgmkcabaaGreat
set_option linter.unusedVariables false
open Go.RowKit
theorem le_p:lN leL (3-1)=1055500680322183127:=rfl
theorem le_q:lN leL (3-2)=1966023127:=rfl
def sbN (A B q:Nat):Nat:=(A%q+(q-B%q))%q
def dotN (a b:Nat->Nat)(q:Nat):Nat->Nat
 |0=>0
 |k+1=>(dotN a b q k+a k*b k%q)%q
theorem subZ_sb (A B q:Nat)(h:0<q):subZ A B q=sbN A B q:=if_neg (by omega)
theorem sb_of (x y q:Nat)(hx:x<q)(hy:y<q):(x+q-y)%q=sbN x y q:=by
 unfold sbN
 rw[Nat.mod_eq_of_lt hx,Nat.mod_eq_of_lt hy,Nat.add_sub_assoc (by omega)]
theorem inv_0 {A q:Nat}(hq:IsP q)(h:A%q=0):invZ A q=0:=by
 unfold invZ
 rw[if_neg (by have:=hq.1;omega),if_neg]
 intro hg
 have hd:q∣Nat.gcd A q:=Nat.dvd_gcd (Nat.dvd_of_mod_eq_zero h) (Nat.dvd_refl q)
 rw[hg]at hd
 have:=Nat.le_of_dvd (by decide) hd
 have:=hq.1
 omega
theorem inv_gcd {A q:Nat}(hq:IsP q)(h:A%q≠0):Nat.gcd A q=1:=by
 rw[Nat.gcd_comm]
 exact isP_coprime hq fun hd=>h (Nat.mod_eq_zero_of_dvd hd)
theorem inv_1 {A q:Nat}(hq:IsP q)(h:A%q≠0):A*invZ A q%q=1:=by
 rw[Nat.mul_comm]
 exact(inv_is A q hq.1 (inv_gcd hq h)).2
theorem inv_lt (A q:Nat)(hq:IsP q):invZ A q<q:=by
 by_cases h:A%q=0
 ·rw[inv_0 hq h]
  have:=hq.1
  omega
 ·exact(inv_is A q hq.1 (inv_gcd hq h)).1
def ivN (x q:Nat):Nat:=if x=0 then 0 else x^(q-2)%q
theorem iv_is {A q:Nat}(hq:IsP q):invZ A q=ivN (A%q) q:=by
 unfold ivN
 by_cases h:A%q=0
 ·rw[if_pos h,inv_0 hq h]
 ·have h2:=hq.1
  rw[if_neg h]
  have e:invZ A q=invV A q:=by
   unfold invZ
   rw[if_neg (by omega),if_pos (inv_gcd hq h)]
  rw[e]
  refine inv_unique A q _ (Nat.mod_lt _ (by omega)) ?_
  have hd: ¬q∣A:=fun hd=>h (Nat.mod_eq_zero_of_dvd hd)
  rw[<-Nat.pow_mod,Nat.mod_mul_mod,<-Nat.pow_succ,show(q-2).succ=q-1 by omega]
  exact fermat hq hd
theorem fAdd_core (v:Option Addr)(A B QQ S:Nat)(z:Int)(w:World)(hq: ∀w',Below w.heap.size w w'->Calls Tryz.prog 81 #[.pointer v] w' (Rt (.agg (natC QQ)) w'))
  (had: ∀w',Calls Tryz.prog 80 #[.agg (natC A),.agg (natC B),.agg (natC QQ)] w' (Rt (.tuple #[.agg (natC S),.int .i64 z]) w')):
  Calls Tryz.prog 48 #[.pointer v,.agg (natC A),.agg (natC B)] w fun e w'=>e= .returned (.agg (natC S))/\Below w.heap.size w w':=by
 go_enter Tryz.func48,Tryz.ntmps48
 iterate 2 go_step
 refine rp ?_;refine pw_boxr (by rfl) 43 _ rfl (_) rfl ?_;intro g4 z0 n0 r4 k;simp only[pv];clear n0
 have sb:=k_b k
 clear k;refine pw_boxr (by rfl) 43 _ rfl (_) rfl ?_;intro g5 z1 n0 r5 k;simp only[pv];clear n0;replace r4:=k.ro r4;replace sb:=kk sb k;clear k;refine pw_new (by rfl) 43 rfl _ zero_nat ?_;intro g6 z2 n0 r6 k;simp only[pv]
 have b6:=Nat.le_trans sb.size n0
 clear n0;replace r4:=k.ro r4;replace r5:=k.ro r5;replace sb:=kk sb k;clear k;refine pw_nil ?_
 iterate 3 go_step
 apply wp_region_mix (by kernel_rfl) [] [_,_,_,_,_,_,_,_,_,_,_] trivial List.nodup_nil
 ·intro p;refine m_l r4 ?_;simp only[pv];refine m_l r5 ?_;refine m_m ?_;simp only[pv]
  refine m_k 81 Tryz.func81 #[.pointer v] (fun w' hk=>hq w' (sb.trans (hk.below w.heap.size sb.size (by simp<;>omega)))) ?_
  simp only[pv];refine m_c 80 Tryz.func80 #[.agg (natC A),.agg (natC B),.agg (natC QQ)] had ?_;refine m_m ?_;refine m_e ?_;refine m_e ?_;simp only[pv];refine m_n ?_;simp only[pv];refine m_p 17 S ?_;simp only[Act.put];refine m_a ?_;simp only[pv];refine mx_end ?_;intro w2 hkw hrw hnew hdis
  have n7:=hnew 8 rfl
  have zr7:Row w2 (p 8) (natC S) 43:=hrw 17 (43,natC S) rfl
  have d6x7:=l_l r6.lt n7
  replace r6:=hkw.ro r6;replace sb:=kk sb hkw;clear hkw hrw hnew hdis n7
  generalize p 8=g7 at*
  have r7:=zr7
  clear zr7
  iterate 3 go_step
  refine rp ?_;refine p_l r7.r ?_;simp only[pv];refine p_p r6 S ?_;clear r6;intro z2001 r6 k;simp only[Act.put];replace r7:=k.ro r7;replace sb:=kk sb k;clear k;refine pw_nil ?_
  go_wp2
  exact ret_row rfl _ rfl r6 4 _ Tryz.underlying43 (by exact size_nat) rfl ⟨rfl,sb⟩
 ·kernel_rfl
theorem fSub_core (v:Option Addr)(A B QQ S:Nat)(z:Int)(w:World)(hq: ∀w',Below w.heap.size w w'->Calls Tryz.prog 81 #[.pointer v] w' (Rt (.agg (natC QQ)) w'))
  (had: ∀w',Calls Tryz.prog 84 #[.agg (natC A),.agg (natC B),.agg (natC QQ)] w' (Rt (.tuple #[.agg (natC S),.int .i64 z]) w')):
  Calls Tryz.prog 55 #[.pointer v,.agg (natC A),.agg (natC B)] w fun e w'=>e= .returned (.agg (natC S))/\Below w.heap.size w w':=by
 go_enter Tryz.func55,Tryz.ntmps55
 iterate 2 go_step
 refine rp ?_;refine pw_boxr (by rfl) 43 _ rfl (_) rfl ?_;intro g4 z0 n0 r4 k;simp only[pv];clear n0
 have sb:=k_b k
 clear k;refine pw_boxr (by rfl) 43 _ rfl (_) rfl ?_;intro g5 z1 n0 r5 k;simp only[pv];clear n0;replace r4:=k.ro r4;replace sb:=kk sb k;clear k;refine pw_new (by rfl) 43 rfl _ zero_nat ?_;intro g6 z2 n0 r6 k;simp only[pv]
 have b6:=Nat.le_trans sb.size n0
 clear n0;replace r4:=k.ro r4;replace r5:=k.ro r5;replace sb:=kk sb k;clear k;refine pw_nil ?_
 iterate 3 go_step
 apply wp_region_mix (by kernel_rfl) [] [_,_,_,_,_,_,_,_,_,_,_] trivial List.nodup_nil
 ·intro p;refine m_l r4 ?_;simp only[pv];refine m_l r5 ?_;refine m_m ?_;simp only[pv]
  refine m_k 81 Tryz.func81 #[.pointer v] (fun w' hk=>hq w' (sb.trans (hk.below w.heap.size sb.size (by simp<;>omega)))) ?_
  simp only[pv];refine m_c 84 Tryz.func84 #[.agg (natC A),.agg (natC B),.agg (natC QQ)] had ?_;refine m_m ?_;refine m_e ?_;refine m_e ?_;simp only[pv];refine m_n ?_;simp only[pv];refine m_p 17 S ?_;simp only[Act.put];refine m_a ?_;simp only[pv];refine mx_end ?_;intro w2 hkw hrw hnew hdis
  have n7:=hnew 8 rfl
  have zr7:Row w2 (p 8) (natC S) 43:=hrw 17 (43,natC S) rfl
  have d6x7:=l_l r6.lt n7
  replace r6:=hkw.ro r6;replace sb:=kk sb hkw;clear hkw hrw hnew hdis n7
  generalize p 8=g7 at*
  have r7:=zr7
  clear zr7
  iterate 3 go_step
  refine rp ?_;refine p_l r7.r ?_;simp only[pv];refine p_p r6 S ?_;clear r6;intro z2001 r6 k;simp only[Act.put];replace r7:=k.ro r7;replace sb:=kk sb k;clear k;refine pw_nil ?_
  go_wp2
  exact ret_row rfl _ rfl r6 4 _ Tryz.underlying43 (by exact size_nat) rfl ⟨rfl,sb⟩
 ·kernel_rfl
theorem fInv_core (v:Option Addr)(A QQ S:Nat)(z:Int)(w:World)(hq: ∀w',Below w.heap.size w w'->Calls Tryz.prog 81 #[.pointer v] w' (Rt (.agg (natC QQ)) w'))
  (hiv: ∀w',Calls Tryz.prog 82 #[.agg (natC A),.agg (natC QQ)] w' (Rt (.tuple #[.agg (natC S),.int .i64 z]) w')):
  Calls Tryz.prog 51 #[.pointer v,.agg (natC A)] w fun e w'=>e= .returned (.agg (natC S))/\Below w.heap.size w w':=by
 go_enter Tryz.func51,Tryz.ntmps51
 iterate 2 go_step
 refine rp ?_;refine pw_boxr (by rfl) 43 _ rfl (_) rfl ?_;intro g3 z0 n0 r3 k;simp only[pv];clear n0
 have sb:=k_b k
 clear k;refine pw_new (by rfl) 43 rfl _ zero_nat ?_;intro g4 z1 n0 r4 k;simp only[pv]
 have b4:=Nat.le_trans sb.size n0
 clear n0;replace r3:=k.ro r3;replace sb:=kk sb k;clear k;refine pw_nil ?_
 iterate 3 go_step
 apply wp_region_mix (by kernel_rfl) [] [_,_,_,_,_,_,_,_,_,_] trivial List.nodup_nil
 ·intro p;refine m_l r3 ?_;refine m_m ?_;simp only[pv]
  refine m_k 81 Tryz.func81 #[.pointer v] (fun w' hk=>hq w' (sb.trans (hk.below w.heap.size sb.size (by simp<;>omega)))) ?_
  simp only[pv];refine m_c 82 Tryz.func82 #[.agg (natC A),.agg (natC QQ)] hiv ?_;refine m_m ?_;refine m_e ?_;refine m_e ?_;simp only[pv];refine m_n ?_;simp only[pv];refine m_p 15 S ?_;simp only[Act.put];refine m_a ?_;simp only[pv];refine mx_end ?_;intro w2 hkw hrw hnew hdis
  have n5:=hnew 7 rfl
  have zr5:Row w2 (p 7) (natC S) 43:=hrw 15 (43,natC S) rfl
  have d4x5:=l_l r4.lt n5
  replace r4:=hkw.ro r4;replace sb:=kk sb hkw;clear hkw hrw hnew hdis n5
  generalize p 7=g5 at*
  have r5:=zr5
  clear zr5
  iterate 3 go_step
  refine rp ?_;refine p_l r5.r ?_;simp only[pv];refine p_p r4 S ?_;clear r4;intro z2001 r4 k;simp only[Act.put];replace r5:=k.ro r5;replace sb:=kk sb k;clear k;refine pw_nil ?_
  go_wp2
  exact ret_row rfl _ rfl r4 4 _ Tryz.underlying43 (by exact size_nat) rfl ⟨rfl,sb⟩
 ·kernel_rfl
theorem fMul_core (v f:Option Addr)(A B S:Nat)(w:World)(hq: ∀w',Below w.heap.size w w'->Calls Tryz.prog 43 #[.pointer v] w' (Rt (.pointer f) w'))
  (hmu: ∀w',Below w.heap.size w w'->Calls Tryz.prog 83 #[.pointer f,.agg (natC A),.agg (natC B)] w' (Rt (.agg (natC S)) w')):
  Calls Tryz.prog 53 #[.pointer v,.agg (natC A),.agg (natC B)] w fun e w'=>e= .returned (.agg (natC S))/\Below w.heap.size w w':=by
 go_enter Tryz.func53,Tryz.ntmps53
 iterate 2 go_step
 refine rp ?_;refine pw_boxr (by rfl) 43 _ rfl (_) rfl ?_;intro g4 z0 n0 r4 k;simp only[pv];clear n0
 have sb:=k_b k
 clear k;refine pw_boxr (by rfl) 43 _ rfl (_) rfl ?_;intro g5 z1 n0 r5 k;simp only[pv];clear n0;replace r4:=k.ro r4;replace sb:=kk sb k;clear k;refine pw_new (by rfl) 43 rfl _ zero_nat ?_;intro g6 z2 n0 r6 k;simp only[pv]
 have d4x6:=l_l r4.lt n0
 have d5x6:=l_l r5.lt n0
 have b6:=Nat.le_trans sb.size n0
 clear n0;replace r4:=k.ro r4;replace r5:=k.ro r5;replace sb:=kk sb k;clear k;refine pw_nil ?_
 iterate 3 go_step
 apply wp_region_mix (by kernel_rfl) [(g6,43,natC 0)] [_,_,_,_,_,_] ⟨r6,trivial⟩ (by simp<;>omega)
 ·intro p;refine m_m ?_;simp only[pv]
  refine m_k 43 Tryz.func43 #[.pointer v] (fun w' hk=>hq w' (sb.trans (hk.below w.heap.size sb.size (by simp<;>omega)))) ?_
  simp only[pv];refine m_l r4 ?_;simp only[pv];refine m_l r5 ?_;simp only[pv]
  refine m_k 83 Tryz.func83 #[.pointer f,.agg (natC A),.agg (natC B)] (fun w' hk=>hmu w' (sb.trans (hk.below w.heap.size sb.size (by simp<;>omega)))) ?_
  simp only[pv];refine m_p 0 S ?_;simp only[Act.put];refine mx_end ?_;intro w2 hkw hrw hnew hdis
  have zr6:Row w2 (g6) (natC S) 43:=hrw 0 (43,natC S) rfl
  replace sb:=kk sb hkw;clear hkw hrw hnew hdis r6
  have r6:=zr6
  clear zr6
  go_wp2
  exact ret_row rfl _ rfl r6 4 _ Tryz.underlying43 (by exact size_nat) rfl ⟨rfl,sb⟩
 ·kernel_rfl
theorem ptr_ring8:Tryz.prog.underlying 73=some (.pointer (Tryz.prog.pointee 73)):=by kernel_rfl
structure FdQ (Q:Nat):Prop extends RgQ Q where
 pr:IsP Q
theorem FdQ.pos {Q:Nat}(h:FdQ Q):0<Q:=Nat.lt_of_lt_of_le (by decide) h.two
theorem fAdd_ok (A B g gr gf P Q G:Nat)(w:World)(hA:A<2^256)(hB:B<2^256)(q:FdQ Q)(h:GrpAt w g gr gf P Q G):
  Calls Tryz.prog 48 #[.pointer (some ⟨g,0,none⟩),.agg (natC A),.agg (natC B)] w fun e w'=>e= .returned (.agg (natC ((A+B)%Q)))/\Below w.heap.size w w':=by
 refine fAdd_core _ A B Q _ (errI Q) w (fun w' hb=>grpQ_any _ _ _ _ _ _ w' (h.below hb).kn) fun w'=>?_
 have:=wadd_any A B Q w' hA hB q.m
 rw[modZ_full _ _ (Nat.pos_iff_ne_zero.1 q.pos)]at this
 exact this
theorem fSub_ok (A B g gr gf P Q G:Nat)(w:World)(hA:A<2^256)(hB:B<2^256)(q:FdQ Q)(h:GrpAt w g gr gf P Q G):
  Calls Tryz.prog 55 #[.pointer (some ⟨g,0,none⟩),.agg (natC A),.agg (natC B)] w fun e w'=>e= .returned (.agg (natC (sbN A B Q)))/\Below w.heap.size w w':=by
 refine fSub_core _ A B Q _ (errI Q) w (fun w' hb=>grpQ_any _ _ _ _ _ _ w' (h.below hb).kn) fun w'=>?_
 have:=wsub_any A B Q w' hA hB q.m
 rw[subZ_sb _ _ _ q.pos]at this
 exact this
theorem fMul_ok (A B g gr gf P Q G:Nat)(w:World)(hA:A<2^256)(hB:B<2^256)(q:FdQ Q)(h:GrpAt w g gr gf P Q G):
  Calls Tryz.prog 53 #[.pointer (some ⟨g,0,none⟩),.agg (natC A),.agg (natC B)] w fun e w'=>e= .returned (.agg (natC (A*B%Q)))/\Below w.heap.size w w':=
 fMul_core _ _ A B _ w (fun w' hb=>grpField_any _ _ _ _ _ _ w' (h.below hb).kn) fun w' hb=>mul_ok A B Q gf q.toRgQ w' hA hB (h.below hb).fld
theorem fInv_ok (A g gr gf P Q G:Nat)(w:World)(hA:A<2^256)(q:FdQ Q)(h:GrpAt w g gr gf P Q G):
  Calls Tryz.prog 51 #[.pointer (some ⟨g,0,none⟩),.agg (natC A)] w fun e w'=>e= .returned (.agg (natC (invZ A Q)))/\Below w.heap.size w w':=
 fInv_core _ A Q _ _ w (fun w' hb=>grpQ_any _ _ _ _ _ _ w' (h.below hb).kn) fun w'=>winv_any A Q w' hA q.m
def NoG (w:World)(v:Option Addr):Prop:=KnAt w v 0 0 0 none none
theorem NoG.below {w w':World}{v:Option Addr}(h:NoG w v)(hb:Below w.heap.size w w'):NoG w' v:=KnAt.below h hb
theorem fAdd_no (v:Option Addr)(A B:Nat)(w:World)(hA:A<2^256)(hB:B<2^256)(h:NoG w v):
  Calls Tryz.prog 48 #[.pointer v,.agg (natC A),.agg (natC B)] w fun e w'=>e= .returned (.agg (natC 0))/\Below w.heap.size w w':=
 fAdd_core _ A B 0 0 _ w (fun w' hb=>grpQ_any _ _ _ _ _ _ w' (h.below hb)) fun w'=>wadd_any A B 0 w' hA hB (by decide)
theorem fMul_no (v:Option Addr)(A B:Nat)(w:World)(h:NoG w v):
  Calls Tryz.prog 53 #[.pointer v,.agg (natC A),.agg (natC B)] w fun e w'=>e= .returned (.agg (natC 0))/\Below w.heap.size w w':=
 fMul_core _ _ A B _ w (fun w' hb=>grpField_any _ _ _ _ _ _ w' (h.below hb)) fun w' _=>mul_no none A B w' (.inl rfl)
theorem rby_core (A QN X:Nat)(q:Int)(w:World)
  (hin: ∀w',Calls Tryz.prog 29 #[.int .i64 q] w' (Rt (.agg (natC QN)) w'))
  (hrm: ∀w',Calls Tryz.prog 56 #[.agg (natC A),.agg (natC 0),.agg (natC QN)] w' (Rt (.tuple #[.agg (natC X),.int .i64 0]) w'))
  (hlo: ∀w',Calls Tryz.prog 18 #[.agg (natC X)] w' (Rt (.tuple #[.int .i64 (X:Nat),.bool true]) w')):
  Calls Tryz.prog 24 #[.agg (natC A),.int .i64 q] w fun e w'=>e= .returned (.int .i64 (X:Nat))/\Below w.heap.size w w':=by
 go_enter Tryz.func24,Tryz.ntmps24
 iterate 2 go_step
 refine rp ?_;refine pw_boxr (by rfl) 43 _ rfl (_) rfl ?_;intro g2 z0 n0 r2 k;simp only[pv]
 have b2:w.heap.size<=g2:=n0
 clear n0
 have sb:=k_b k
 clear k;refine p_v (.int .i64 0) (fun _=>rfl) (pw_nil ?_);simp only[pv]
 iterate 3 go_step
 apply wp_region_mix (by kernel_rfl) [] [_,_,_,_,_,_,_,_,_,_,_] trivial List.nodup_nil
 ·intro p;refine m_l r2 ?_;simp only[pv];refine mx_val (.agg (natC 0)) (exec_build0 _ rfl _ built_nat) ?_;refine m_m ?_;simp only[pv];refine m_c 29 Tryz.func29 #[.int .i64 q] hin ?_;simp only[pv];refine m_c 56 Tryz.func56 #[.agg (natC A),.agg (natC 0),.agg (natC QN)] hrm ?_;refine m_m ?_;refine m_e ?_;refine m_e ?_;simp only[pv];refine m_n ?_;simp only[pv];refine m_p 17 X ?_;simp only[Act.put];refine m_a ?_;simp only[pv];refine mx_end ?_;intro w2 hkw hrw hnew hdis
  have n5:=hnew 8 rfl
  have zr5:Row w2 (p 8) (natC X) 43:=hrw 17 (43,natC X) rfl
  have b5:=Nat.le_trans sb.size n5
  replace sb:=kk sb hkw;clear hkw hrw hnew hdis n5
  generalize p 8=g5 at*
  have r5:=zr5
  clear zr5
  iterate 3 go_step
  refine rp ?_;refine p_l r5.r ?_;simp only[pv];refine p_c 18 Tryz.func18 #[.agg (natC X)] (hlo _) ?_;intro z2001 k;simp only[pv];replace r5:=k.ro r5;replace sb:=kk sb k;clear k;refine p_m ?_;refine p_e ?_;refine p_e ?_;refine p_a ?_;refine p_a (pw_nil ?_);simp only[pv]
  iterate 3 go_step
  refine rp ?_;refine p_m ?_;refine p_a (pw_nil ?_);simp only[pv]
  go_wp2
  go_ret
  exact⟨rfl,sb⟩
 ·kernel_rfl
theorem rby_any (A q:Nat)(w:World)(hA:A<2^256)(h0:0<q)(hq:q<4611686018427387904):
  Calls Tryz.prog 24 #[.agg (natC A),.int .i64 (q:Nat)] w fun e w'=>e= .returned (.int .i64 (A%q:Nat))/\Below w.heap.size w w':=by
 have hX:=Nat.mod_lt A h0
 refine rby_core A q (A%q) q w (fun w'=>?_) (fun w'=>?_) fun w'=>?_
 ·have:=rint_any (q:Int) w' (by omega)
  rw[Int.toNat_natCast]at this
  exact this
 ·have:=rrem_any A 0 q w' hA (by decide) (by omega)
  rw[show modZ (0*2^256+A) q=A%q by unfold modZ;rw[if_neg (by omega),Nat.zero_mul,Nat.zero_add],show errI q=0 by unfold errI;rw[if_neg (by omega)]]at this
  exact this
 ·have:=rlow_any (A%q) w' (by omega)
  rw[show lowI (A%q)=((A%q:Nat):Int)from if_pos (by omega),show lowB (A%q)=true from decide_eq_true (by omega)]at this
  exact this
theorem radd8_any (x y q:Nat)(w:World)(h0:0<q)(hx:x<4611686018427387904)(hy:y<4611686018427387904):
  Calls Tryz.prog 28 #[.int .i64 (x:Nat),.int .i64 (y:Nat),.int .i64 (q:Nat)] w fun e w'=>e= .returned (.int .i64 ((x+y)%q:Nat))/\Below w.heap.size w w':=by
 go_enter Tryz.func28,Tryz.ntmps28
 have sb:=Below.refl w.heap.size w
 repeat((fail_if_success with_reducible apply rg);go_step)
 refine rp ?_;refine p_v (.int .i64 0) (fun _=>rfl) (pw_nil ?_);simp only[pv]
 repeat((fail_if_success with_reducible apply rg);go_step)
 refine rp ?_;refine p_m ?_;refine p_m ?_;simp only[pv];refine p_v (.int .i64 ((x+y:Nat):Int)) (x_a x y) ?_;refine p_m ?_;simp only[pv];refine p_v (.int .i64 (((x+y)%q:Nat):Int)) (exec_rem_i _ _ _ _ rfl (x+y) q rfl rfl h0) ?_;refine p_a (pw_nil ?_);simp only[pv]
 go_wp2
 go_ret
 exact⟨rfl,sb⟩
theorem rsub8_any (x y q:Nat)(w:World)(h0:0<q)(hx:x<q)(hy:y<q)(hq:q<4611686018427387904):
  Calls Tryz.prog 27 #[.int .i64 (x:Nat),.int .i64 (y:Nat),.int .i64 (q:Nat)] w fun e w'=>e= .returned (.int .i64 (sbN x y q:Nat))/\Below w.heap.size w w':=by
 have hs:(x+q-y)%q=sbN x y q:=sb_of x y q hx hy
 generalize sbN x y q=S at*
 go_enter Tryz.func27,Tryz.ntmps27
 have sb:=Below.refl w.heap.size w
 repeat((fail_if_success with_reducible apply rg);go_step)
 refine rp ?_;refine p_v (.int .i64 0) (fun _=>rfl) (pw_nil ?_);simp only[pv]
 repeat((fail_if_success with_reducible apply rg);go_step)
 refine rp ?_;refine p_m ?_;refine p_m ?_;simp only[pv];refine p_v (.int .i64 ((x+q:Nat):Int)) (x_a x q) ?_;refine p_m ?_;simp only[pv];refine p_v (.int .i64 ((x+q-y:Nat):Int)) (exec_sub_in _ _ _ _ rfl (x+q) y rfl rfl (by omega) (by omega)) ?_;refine p_m ?_;simp only[pv];refine p_v (.int .i64 (S:Nat)) (fun w'=>(exec_rem_i _ _ _ _ rfl (x+q-y) q rfl rfl h0 w').trans (by rw[hs])) ?_;refine p_a (pw_nil ?_);simp only[pv]
 go_wp2
 go_ret
 exact⟨rfl,sb⟩
theorem rmul8_any (x y q:Nat)(w:World)(h0:0<q)(hq:q<4611686018427387904):
  Calls Tryz.prog 25 #[.int .i64 (x:Nat),.int .i64 (y:Nat),.int .i64 (q:Nat)] w fun e w'=>e= .returned (.int .i64 (x*y%q:Nat))/\Below w.heap.size w w':=by
 have hti:=fun w'=>rtimes_any x y q w' h0 hq
 generalize x*y%q=T at*
 clear h0 hq
 go_enter Tryz.func25,Tryz.ntmps25
 have sb:=Below.refl w.heap.size w
 repeat((fail_if_success with_reducible apply rg);go_step)
 refine rp ?_;refine p_v (.int .i64 0) (fun _=>rfl) (pw_nil ?_);simp only[pv]
 repeat((fail_if_success with_reducible apply rg);go_step)
 refine rp ?_;refine p_m ?_;refine p_m ?_;refine p_m ?_;simp only[pv];refine p_c 57 Tryz.func57 #[.int .i64 (x:Nat),.int .i64 (y:Nat),.int .i64 (q:Nat)] (hti _) ?_;intro z1003 k;simp only[pv];replace sb:=kk sb k;clear k;refine p_a (pw_nil ?_);simp only[pv]
 go_wp2
 go_ret
 exact⟨rfl,sb⟩
theorem rinv8_zero (q:Nat)(w:World):
  Calls Tryz.prog 26 #[.int .i64 ((0:Nat):Int),.int .i64 (q:Nat)] w fun e w'=>e= .returned (.int .i64 ((0:Nat):Int))/\Below w.heap.size w w':=by
 go_enter Tryz.func26,Tryz.ntmps26
 have sb:=Below.refl w.heap.size w
 repeat((fail_if_success with_reducible apply rg);go_step)
 refine rp ?_;refine p_v (.int .i64 0) (fun _=>rfl) (pw_nil ?_);simp only[pv]
 repeat((fail_if_success with_reducible apply rg);go_step)
 refine rp ?_;refine p_m ?_;simp only[pv];refine p_v (.bool true) (exec_eql_k .i64 _ _ _ _ rfl ((0:Nat):Int) 0 rfl rfl true rfl) (pw_nil ?_);simp only[pv]
 repeat((fail_if_success with_reducible apply rg);go_step)
 refine rp ?_;refine p_v (.int .i64 0) (fun _=>rfl) (pw_nil ?_);simp only[pv]
 go_wp2
 go_ret
 exact⟨rfl,sb⟩
theorem rinv8_more (x q:Nat)(w:World)(hx:x≠0)(h2:2<=q)(hq:q<4611686018427387904):
  Calls Tryz.prog 26 #[.int .i64 (x:Nat),.int .i64 (q:Nat)] w fun e w'=>e= .returned (.int .i64 (x^(q-2)%q:Nat))/\Below w.heap.size w w':=by
 have hin:=fun w'=>rint_any ((q-2:Nat):Int) w' (by omega)
 rw[Int.toNat_natCast]at hin
 have hpo:=fun w'=>rpower_any x (q-2) q w' (by omega) (by omega) hq
 generalize x^(q-2)%q=T at*
 go_enter Tryz.func26,Tryz.ntmps26
 have sb:=Below.refl w.heap.size w
 repeat((fail_if_success with_reducible apply rg);go_step)
 refine rp ?_;refine p_v (.int .i64 0) (fun _=>rfl) (pw_nil ?_);simp only[pv]
 repeat((fail_if_success with_reducible apply rg);go_step)
 refine rp ?_;refine p_m ?_;simp only[pv];refine p_v (.bool false) (exec_eql_k .i64 _ _ _ _ rfl (x:Nat) 0 rfl rfl false (decide_eq_false (by omega))) (pw_nil ?_);simp only[pv]
 repeat((fail_if_success with_reducible apply rg);go_step)
 refine rp ?_;refine p_m ?_;refine p_m ?_;simp only[pv];refine p_v (.int .i64 ((q-2:Nat):Int)) (exec_sub_in _ _ _ _ rfl q 2 rfl rfl h2 (by omega)) ?_;simp only[pv];refine p_c 29 Tryz.func29 #[.int .i64 ((q-2:Nat):Int)] (hin _) ?_;intro z3003 k;simp only[pv];replace sb:=kk sb k;clear k;refine p_m ?_;simp only[pv];refine p_c 58 Tryz.func58 #[.int .i64 (x:Nat),.agg (natC (q-2)),.int .i64 (q:Nat)] (hpo _) ?_;intro z3005 k;simp only[pv];replace sb:=kk sb k;clear k;refine p_a (pw_nil ?_);simp only[pv]
 go_wp2
 go_ret
 exact⟨rfl,sb⟩
theorem rinv8_any (x q:Nat)(w:World)(h2:2<=q)(hq:q<4611686018427387904):
  Calls Tryz.prog 26 #[.int .i64 (x:Nat),.int .i64 (q:Nat)] w fun e w'=>e= .returned (.int .i64 (ivN x q:Nat))/\Below w.heap.size w w':=by
 unfold ivN
 by_cases h:x=0
 ·subst h
  exact rinv8_zero q w
 ·rw[if_neg h]
  exact rinv8_more x q w h h2 hq
def pk2 {α:Type}(b:Bool)(x y:α):α:=if b=true then x else y
theorem rpick_1 (a0 z:Int)(w:World)(hz:bits .and .i64 a0 1=z)(h:decide (z=1)=true):
  Calls Tryz.prog 16 #[.int .i64 a0] w fun e w'=> ∃g,e= .returned (.agg (paC (some ⟨g,0,none⟩) 3 3 otG))/\w.heap.size<=g/\Row w' g (lksC 3 (lN otL) twoA) 84/\Below w.heap.size w w':=by
 go_enter Tryz.func16,Tryz.ntmps16
 iterate 2 go_step
 refine rp ?_;refine pw_new (by rfl) 52 rfl _ zero_pa ?_;intro g2 z0 n0 r2 k;simp only[pv]
 have b2:w.heap.size<=g2:=n0
 clear n0
 have sb:=k_b k
 clear k;refine pw_nil ?_
 iterate 4 go_step
 refine rp ?_;refine p_m ?_;simp only[pv];refine p_v (.int .i64 z) (fun w'=>(exec_bits_i .and _ _ _ _ (.inl rfl) rfl a0 1 rfl rfl w').trans (by rw[hz])) ?_;simp only[pv];refine p_v (.bool true) (exec_eql_k .i64 _ _ _ _ rfl z 1 rfl rfl true h) (pw_nil ?_);simp only[pv]
 iterate 4 go_step
 refine rp ?_;refine p_f 33 Tryz.func33 #[] (rother_any _) ?_
 rintro _ z2000 ⟨gL,rfl,nL,rL,hb⟩
 refine⟨_,rfl,?_⟩
 simp only[pv]
 have d2xL:=l_l r2.lt nL
 have bL:=Nat.le_trans sb.size nL
 clear nL
 have k:=Kept.ofBelow hb
 clear hb;replace r2:=k.ro r2;replace sb:=kk sb k;clear k;refine pw_put (by rfl) 52 _ _ rfl _ rfl r2 (paC (some ⟨gL,0,none⟩) 3 3 otG) rfl (by exact size_pa) (by rfl) (pa_one _ _ _ _) ?_;clear r2;intro z2001 r2 k;simp only[Act.put];replace rL:=k.ro rL;replace sb:=kk sb k;clear k;refine pw_nil ?_
 go_wp2
 exact ret_rowd rfl _ rfl r2 _ Tryz.underlying52 (by exact size_pa) rfl ⟨gL,rfl,bL,rL,sb⟩
theorem rpick_0 (a0 z:Int)(w:World)(hz:bits .and .i64 a0 1=z)(h:decide (z=1)=false):
  Calls Tryz.prog 16 #[.int .i64 a0] w fun e w'=> ∃g,e= .returned (.agg (paC (some ⟨g,0,none⟩) 3 3 leG))/\w.heap.size<=g/\Row w' g (lksC 3 (lN leL) twoA) 84/\Below w.heap.size w w':=by
 go_enter Tryz.func16,Tryz.ntmps16
 iterate 2 go_step
 refine rp ?_;refine pw_new (by rfl) 52 rfl _ zero_pa ?_;intro g2 z0 n0 r2 k;simp only[pv]
 have b2:w.heap.size<=g2:=n0
 clear n0
 have sb:=k_b k
 clear k;refine pw_nil ?_
 iterate 4 go_step
 refine rp ?_;refine p_m ?_;simp only[pv];refine p_v (.int .i64 z) (fun w'=>(exec_bits_i .and _ _ _ _ (.inl rfl) rfl a0 1 rfl rfl w').trans (by rw[hz])) ?_;simp only[pv];refine p_v (.bool false) (exec_eql_k .i64 _ _ _ _ rfl z 1 rfl rfl false h) (pw_nil ?_);simp only[pv]
 iterate 7 go_step
 refine rp ?_;refine p_f 34 Tryz.func34 #[] (rleast_any _) ?_
 rintro _ z3000 ⟨gL,rfl,nL,rL,hb⟩
 refine⟨_,rfl,?_⟩
 simp only[pv]
 have d2xL:=l_l r2.lt nL
 have bL:=Nat.le_trans sb.size nL
 clear nL
 have k:=Kept.ofBelow hb
 clear hb;replace r2:=k.ro r2;replace sb:=kk sb k;clear k;refine pw_put (by rfl) 52 _ _ rfl _ rfl r2 (paC (some ⟨gL,0,none⟩) 3 3 leG) rfl (by exact size_pa) (by rfl) (pa_one _ _ _ _) ?_;clear r2;intro z3001 r2 k;simp only[Act.put];replace rL:=k.ro rL;replace sb:=kk sb k;clear k;refine pw_nil ?_
 go_wp2
 exact ret_rowd rfl _ rfl r2 _ Tryz.underlying52 (by exact size_pa) rfl ⟨gL,rfl,bL,rL,sb⟩
def pkB (a0:Int):Bool:=decide (bits .and .i64 a0 1=1)
theorem rpick_any (a0:Int)(w:World):
  Calls Tryz.prog 16 #[.int .i64 a0] w fun e w'=> ∃g,e= .returned (.agg (paC (some ⟨g,0,none⟩) 3 3 (pk2 (pkB a0) otG leG)))/\w.heap.size<=g/\Row w' g (lksC 3 (lN (pk2 (pkB a0) otL leL)) twoA) 84/\Below w.heap.size w w':=by
 cases h:pkB a0 with
 |true=>exact rpick_1 a0 _ w rfl h
 |false=>exact rpick_0 a0 _ w rfl h
theorem pk2_gr (b:Bool):grN 3 (lN (pk2 b otL leL)) twoA (pk2 b otG leG)=true/\(∀i,i<3->lN (pk2 b otL leL) i<2^256)/\pk2 b otG leG<2^256/\lN (pk2 b otL leL) (3-2)<4611686018427387904:=by
 cases b with
 |true=>exact⟨other_is,ot_lt,by decide,by decide⟩
 |false=>exact⟨least_is,le_lt,by decide,by decide⟩
end Go.Proofs.YtighhihgmkcabaaGreat
