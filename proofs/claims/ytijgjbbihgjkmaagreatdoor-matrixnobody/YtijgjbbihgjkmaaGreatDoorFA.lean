import Derived.Test.YtijgjbbihgjkmaaGreatDoorGV
import Derived.Test.YtijgjbbihgjkmaaGreatDoorWAdd
import Derived.Test.YtijgjbbihgjkmaaGreatDoorWI
set_option maxRecDepth 100000
set_option maxHeartbeats 2000000
namespace Go.Proofs.YtijgjbbihgjkmaaGreatDoor
set_option linter.unusedVariables false
open Go.RowKit
theorem le_p:lN leL (3-1)=1055500680322183127:=rfl
theorem le_q:lN leL (3-2)=1966023127:=rfl
def sbN (A B q:Nat):Nat:=(A%q+(q-B%q))%q
def dotN (a b:Nat->Nat)(q:Nat):Nat->Nat
 |0=>0
 |k+1=>(dotN a b q k+a k*b k%q)%q
theorem dotN_lt (a b:Nat->Nat)(q:Nat)(h:0<q): ∀k,dotN a b q k<q
 |0=>h
 |_+1=>Nat.mod_lt _ h
theorem subZ_sb (A B q:Nat)(h:0<q):subZ A B q=sbN A B q:=if_neg (by omega)
theorem inv_0 {A q:Nat}(hq:IsP q)(h:A%q=0):invZ A q=0:=by
 unfold invZ
 rw[if_neg (by have:=hq.1;omega),if_neg]
 intro hg
 have hd:q∣Nat.gcd A q:=Nat.dvd_gcd (Nat.dvd_of_mod_eq_zero h) (Nat.dvd_refl q)
 rw[hg]at hd
 have:=Nat.le_of_dvd (by decide) hd
 have:=hq.1
 omega
theorem inv_gcd {A q:Nat}(hq:IsP q)(h:A%q≠0):Nat.gcd A q=1:=by
 rw[Nat.gcd_comm]
 exact isP_coprime hq fun hd=>h (Nat.mod_eq_zero_of_dvd hd)
theorem inv_1 {A q:Nat}(hq:IsP q)(h:A%q≠0):A*invZ A q%q=1:=by
 rw[Nat.mul_comm]
 exact(inv_is A q hq.1 (inv_gcd hq h)).2
theorem inv_lt (A q:Nat)(hq:IsP q):invZ A q<q:=by
 by_cases h:A%q=0
 ·rw[inv_0 hq h]
  have:=hq.1
  omega
 ·exact(inv_is A q hq.1 (inv_gcd hq h)).1
def ivN (x q:Nat):Nat:=if x=0 then 0 else x^(q-2)%q
theorem fIn_core (v f:Option Addr)(A:Nat)(B:Bool)(w:World)(hq: ∀w',Below w.heap.size w w'->Calls Tryz.prog 122 #[.pointer v] w' (Rt (.pointer f) w'))
  (hin: ∀w',Below w.heap.size w w'->Calls Tryz.prog 149 #[.pointer f,.agg (natC A)] w' (Rt (.bool B) w')):
  Calls Tryz.prog 103 #[.pointer v,.agg (natC A)] w fun e w'=>e= .returned (.bool B)/\Below w.heap.size w w':=by
 go_enter Tryz.func103,Tryz.ntmps103
 iterate 2 go_step
 refine rp ?_;refine pw_boxr (by rfl) 62 _ rfl (_) rfl ?_;intro g3 z0 n0 r3 k;simp only[pv]
 have b3:w.heap.size<=g3:=n0
 clear n0
 have sb:=k_b k
 clear k;refine p_v (.bool false) (fun _=>rfl) (pw_nil ?_);simp only[pv]
 iterate 3 go_step
 refine wp_region_qw (by kernel_rfl) (by kernel_rfl) ?_;refine q_m ?_;simp only[pv];refine q_k 122 Tryz.func122 #[.pointer v] (fun w' hb=>hq w' (below_on sb (Nat.le_refl _) hb)) ?_;simp only[pv];refine qw_load (by rfl) 62 _ rfl _ rfl r3 4 _ Tryz.underlying62 size_nat ?_;simp only[pv];refine q_k 149 Tryz.func149 #[.pointer f,.agg (natC A)] (fun w' hb=>hin w' (below_on sb (Nat.le_refl _) hb)) ?_;refine q_a ?_;simp only[pv];refine qw_nil ?_;intro w3 hqb;replace sb:=b_o sb hqb;clear hqb
 go_wp2
 go_ret
 exact⟨rfl,sb⟩
theorem fAdd_core (v:Option Addr)(A B QQ S:Nat)(z:Int)(w:World)(hq: ∀w',Below w.heap.size w w'->Calls Tryz.prog 164 #[.pointer v] w' (Rt (.agg (natC QQ)) w'))
  (had: ∀w',Calls Tryz.prog 163 #[.agg (natC A),.agg (natC B),.agg (natC QQ)] w' (Rt (.tuple #[.agg (natC S),.int .i64 z]) w')):
  Calls Tryz.prog 123 #[.pointer v,.agg (natC A),.agg (natC B)] w fun e w'=>e= .returned (.agg (natC S))/\Below w.heap.size w w':=by
 go_enter Tryz.func123,Tryz.ntmps123
 iterate 2 go_step
 refine rp ?_;refine pw_boxr (by rfl) 62 _ rfl (_) rfl ?_;intro g4 z0 n0 r4 k;simp only[pv];clear n0
 have sb:=k_b k
 clear k;refine pw_boxr (by rfl) 62 _ rfl (_) rfl ?_;intro g5 z1 n0 r5 k;simp only[pv];clear n0;replace r4:=k.ro r4;replace sb:=kk sb k;clear k;refine pw_new (by rfl) 62 rfl _ zero_nat ?_;intro g6 z2 n0 r6 k;simp only[pv]
 have b6:=Nat.le_trans sb.size n0
 clear n0;replace r4:=k.ro r4;replace r5:=k.ro r5;replace sb:=kk sb k;clear k;refine pw_nil ?_
 iterate 3 go_step
 apply wp_region_mix (by kernel_rfl) [] [_,_,_,_,_,_,_,_,_,_,_] trivial List.nodup_nil
 ·intro p;refine m_l r4 ?_;simp only[pv];refine m_l r5 ?_;refine m_m ?_;simp only[pv]
  refine m_k 164 Tryz.func164 #[.pointer v] (fun w' hk=>hq w' (sb.trans (hk.below w.heap.size sb.size (by simp<;>omega)))) ?_
  simp only[pv];refine m_c 163 Tryz.func163 #[.agg (natC A),.agg (natC B),.agg (natC QQ)] had ?_;refine m_m ?_;refine m_e ?_;refine m_e ?_;simp only[pv];refine m_n ?_;simp only[pv];refine m_p 17 S ?_;simp only[Act.put];refine m_a ?_;simp only[pv];refine mx_end ?_;intro w2 hkw hrw hnew hdis
  have n7:=hnew 8 rfl
  have zr7:Row w2 (p 8) (natC S) 62:=hrw 17 (62,natC S) rfl
  have d6x7:=l_l r6.lt n7
  replace r6:=hkw.ro r6;replace sb:=kk sb hkw;clear hkw hrw hnew hdis n7
  generalize p 8=g7 at*
  have r7:=zr7
  clear zr7
  iterate 3 go_step
  refine rp ?_;refine p_l r7.r ?_;simp only[pv];refine p_p r6 S ?_;clear r6;intro z2001 r6 k;simp only[Act.put];replace r7:=k.ro r7;replace sb:=kk sb k;clear k;refine pw_nil ?_
  go_wp2
  exact ret_row rfl _ rfl r6 4 _ Tryz.underlying62 (by exact size_nat) rfl ⟨rfl,sb⟩
 ·kernel_rfl
theorem fSub_core (v:Option Addr)(A B QQ S:Nat)(z:Int)(w:World)(hq: ∀w',Below w.heap.size w w'->Calls Tryz.prog 164 #[.pointer v] w' (Rt (.agg (natC QQ)) w'))
  (had: ∀w',Calls Tryz.prog 186 #[.agg (natC A),.agg (natC B),.agg (natC QQ)] w' (Rt (.tuple #[.agg (natC S),.int .i64 z]) w')):
  Calls Tryz.prog 140 #[.pointer v,.agg (natC A),.agg (natC B)] w fun e w'=>e= .returned (.agg (natC S))/\Below w.heap.size w w':=by
 go_enter Tryz.func140,Tryz.ntmps140
 iterate 2 go_step
 refine rp ?_;refine pw_boxr (by rfl) 62 _ rfl (_) rfl ?_;intro g4 z0 n0 r4 k;simp only[pv];clear n0
 have sb:=k_b k
 clear k;refine pw_boxr (by rfl) 62 _ rfl (_) rfl ?_;intro g5 z1 n0 r5 k;simp only[pv];clear n0;replace r4:=k.ro r4;replace sb:=kk sb k;clear k;refine pw_new (by rfl) 62 rfl _ zero_nat ?_;intro g6 z2 n0 r6 k;simp only[pv]
 have b6:=Nat.le_trans sb.size n0
 clear n0;replace r4:=k.ro r4;replace r5:=k.ro r5;replace sb:=kk sb k;clear k;refine pw_nil ?_
 iterate 3 go_step
 apply wp_region_mix (by kernel_rfl) [] [_,_,_,_,_,_,_,_,_,_,_] trivial List.nodup_nil
 ·intro p;refine m_l r4 ?_;simp only[pv];refine m_l r5 ?_;refine m_m ?_;simp only[pv]
  refine m_k 164 Tryz.func164 #[.pointer v] (fun w' hk=>hq w' (sb.trans (hk.below w.heap.size sb.size (by simp<;>omega)))) ?_
  simp only[pv];refine m_c 186 Tryz.func186 #[.agg (natC A),.agg (natC B),.agg (natC QQ)] had ?_;refine m_m ?_;refine m_e ?_;refine m_e ?_;simp only[pv];refine m_n ?_;simp only[pv];refine m_p 17 S ?_;simp only[Act.put];refine m_a ?_;simp only[pv];refine mx_end ?_;intro w2 hkw hrw hnew hdis
  have n7:=hnew 8 rfl
  have zr7:Row w2 (p 8) (natC S) 62:=hrw 17 (62,natC S) rfl
  have d6x7:=l_l r6.lt n7
  replace r6:=hkw.ro r6;replace sb:=kk sb hkw;clear hkw hrw hnew hdis n7
  generalize p 8=g7 at*
  have r7:=zr7
  clear zr7
  iterate 3 go_step
  refine rp ?_;refine p_l r7.r ?_;simp only[pv];refine p_p r6 S ?_;clear r6;intro z2001 r6 k;simp only[Act.put];replace r7:=k.ro r7;replace sb:=kk sb k;clear k;refine pw_nil ?_
  go_wp2
  exact ret_row rfl _ rfl r6 4 _ Tryz.underlying62 (by exact size_nat) rfl ⟨rfl,sb⟩
 ·kernel_rfl
theorem fInv_core (v:Option Addr)(A QQ S:Nat)(z:Int)(w:World)(hq: ∀w',Below w.heap.size w w'->Calls Tryz.prog 164 #[.pointer v] w' (Rt (.agg (natC QQ)) w'))
  (hiv: ∀w',Calls Tryz.prog 203 #[.agg (natC A),.agg (natC QQ)] w' (Rt (.tuple #[.agg (natC S),.int .i64 z]) w')):
  Calls Tryz.prog 161 #[.pointer v,.agg (natC A)] w fun e w'=>e= .returned (.agg (natC S))/\Below w.heap.size w w':=by
 go_enter Tryz.func161,Tryz.ntmps161
 iterate 2 go_step
 refine rp ?_;refine pw_boxr (by rfl) 62 _ rfl (_) rfl ?_;intro g3 z0 n0 r3 k;simp only[pv];clear n0
 have sb:=k_b k
 clear k;refine pw_new (by rfl) 62 rfl _ zero_nat ?_;intro g4 z1 n0 r4 k;simp only[pv]
 have b4:=Nat.le_trans sb.size n0
 clear n0;replace r3:=k.ro r3;replace sb:=kk sb k;clear k;refine pw_nil ?_
 iterate 3 go_step
 apply wp_region_mix (by kernel_rfl) [] [_,_,_,_,_,_,_,_,_,_] trivial List.nodup_nil
 ·intro p;refine m_l r3 ?_;refine m_m ?_;simp only[pv]
  refine m_k 164 Tryz.func164 #[.pointer v] (fun w' hk=>hq w' (sb.trans (hk.below w.heap.size sb.size (by simp<;>omega)))) ?_
  simp only[pv];refine m_c 203 Tryz.func203 #[.agg (natC A),.agg (natC QQ)] hiv ?_;refine m_m ?_;refine m_e ?_;refine m_e ?_;simp only[pv];refine m_n ?_;simp only[pv];refine m_p 15 S ?_;simp only[Act.put];refine m_a ?_;simp only[pv];refine mx_end ?_;intro w2 hkw hrw hnew hdis
  have n5:=hnew 7 rfl
  have zr5:Row w2 (p 7) (natC S) 62:=hrw 15 (62,natC S) rfl
  have d4x5:=l_l r4.lt n5
  replace r4:=hkw.ro r4;replace sb:=kk sb hkw;clear hkw hrw hnew hdis n5
  generalize p 7=g5 at*
  have r5:=zr5
  clear zr5
  iterate 3 go_step
  refine rp ?_;refine p_l r5.r ?_;simp only[pv];refine p_p r4 S ?_;clear r4;intro z2001 r4 k;simp only[Act.put];replace r5:=k.ro r5;replace sb:=kk sb k;clear k;refine pw_nil ?_
  go_wp2
  exact ret_row rfl _ rfl r4 4 _ Tryz.underlying62 (by exact size_nat) rfl ⟨rfl,sb⟩
 ·kernel_rfl
theorem fMul_core (v f:Option Addr)(A B S:Nat)(w:World)(hq: ∀w',Below w.heap.size w w'->Calls Tryz.prog 122 #[.pointer v] w' (Rt (.pointer f) w'))
  (hmu: ∀w',Below w.heap.size w w'->Calls Tryz.prog 165 #[.pointer f,.agg (natC A),.agg (natC B)] w' (Rt (.agg (natC S)) w')):
  Calls Tryz.prog 124 #[.pointer v,.agg (natC A),.agg (natC B)] w fun e w'=>e= .returned (.agg (natC S))/\Below w.heap.size w w':=by
 go_enter Tryz.func124,Tryz.ntmps124
 iterate 2 go_step
 refine rp ?_;refine pw_boxr (by rfl) 62 _ rfl (_) rfl ?_;intro g4 z0 n0 r4 k;simp only[pv];clear n0
 have sb:=k_b k
 clear k;refine pw_boxr (by rfl) 62 _ rfl (_) rfl ?_;intro g5 z1 n0 r5 k;simp only[pv];clear n0;replace r4:=k.ro r4;replace sb:=kk sb k;clear k;refine pw_new (by rfl) 62 rfl _ zero_nat ?_;intro g6 z2 n0 r6 k;simp only[pv]
 have d4x6:=l_l r4.lt n0
 have d5x6:=l_l r5.lt n0
 have b6:=Nat.le_trans sb.size n0
 clear n0;replace r4:=k.ro r4;replace r5:=k.ro r5;replace sb:=kk sb k;clear k;refine pw_nil ?_
 iterate 3 go_step
 apply wp_region_mix (by kernel_rfl) [(g6,62,natC 0)] [_,_,_,_,_,_] ⟨r6,trivial⟩ (by simp<;>omega)
 ·intro p;refine m_m ?_;simp only[pv]
  refine m_k 122 Tryz.func122 #[.pointer v] (fun w' hk=>hq w' (sb.trans (hk.below w.heap.size sb.size (by simp<;>omega)))) ?_
  simp only[pv];refine m_l r4 ?_;simp only[pv];refine m_l r5 ?_;simp only[pv]
  refine m_k 165 Tryz.func165 #[.pointer f,.agg (natC A),.agg (natC B)] (fun w' hk=>hmu w' (sb.trans (hk.below w.heap.size sb.size (by simp<;>omega)))) ?_
  simp only[pv];refine m_p 0 S ?_;simp only[Act.put];refine mx_end ?_;intro w2 hkw hrw hnew hdis
  have zr6:Row w2 (g6) (natC S) 62:=hrw 0 (62,natC S) rfl
  replace sb:=kk sb hkw;clear hkw hrw hnew hdis r6
  have r6:=zr6
  clear zr6
  go_wp2
  exact ret_row rfl _ rfl r6 4 _ Tryz.underlying62 (by exact size_nat) rfl ⟨rfl,sb⟩
 ·kernel_rfl
theorem ptr_ring8:Tryz.prog.underlying 73=some (.pointer (Tryz.prog.pointee 73)):=by kernel_rfl
theorem fDot_core (v ab ae:Option Addr)(n ca ce:Nat)(x:Addr)(a' b' T D:Nat->Nat)(gb ob ge oe:Nat)(bcs ecs:Array Value)(tb te:TypeId)(w:World)(hD0:D 0=0)
  (hna:NatsAt w ab n a' gb ob bcs tb)(hnb:NatsAt w ae n b' ge oe ecs te)(hn63:n<9223372036854775808)(hq: ∀w',Below w.heap.size w w'->Calls Tryz.prog 122 #[.pointer v] w' (Rt (.pointer (some x)) w'))
  (hmu: ∀i,i<n-> ∀w',Below w.heap.size w w'->Calls Tryz.prog 124 #[.pointer v,.agg (natC (a' i)),.agg (natC (b' i))] w' (Rt (.agg (natC (T i))) w'))
  (had: ∀i,i<n-> ∀w',Below w.heap.size w w'->Calls Tryz.prog 123 #[.pointer v,.agg (natC (D i)),.agg (natC (T i))] w' (Rt (.agg (natC (D (i+1)))) w')):
  Calls Tryz.prog 64 #[.pointer v,.slice ab n ca,.slice ae n ce] w fun e w'=>e= .returned (.tuple #[.agg (natC (D n)),.int .i64 0])/\Below w.heap.size w w':=by
 have HB:Hid (NatsAt w ab n a' gb ob bcs tb):=hna
 have HE:Hid (NatsAt w ae n b' ge oe ecs te):=hnb
 clear hna hnb
 go_enter Tryz.func64,Tryz.ntmps64
 iterate 2 go_step
 refine rp ?_;refine pw_new (by rfl) 62 rfl _ zero_nat ?_;intro g6 z0 n0 r6 k;simp only[pv]
 have b6:w.heap.size<=g6:=n0
 clear n0
 have sb:=k_b k
 clear k;refine p_v (.int .i64 0) (fun _=>rfl) (pw_nil ?_);simp only[pv]
 iterate 4 go_step
 refine rp ?_;refine p_m ?_;simp only[pv];refine p_c 122 Tryz.func122 #[.pointer v] (hq _ sb) ?_;intro z1001 k;simp only[pv];replace r6:=k.ro r6;replace sb:=kk sb k;clear k;refine p_v (.bool false) (exec_eql_nilp _ _ _ _ rfl (some x) rfl rfl ptr_ring8) ?_;refine p_m ?_;refine p_m ?_;simp only[pv];refine p_v (.int .i64 n) (n_l ab n ca sl_nats) ?_;refine p_m ?_;simp only[pv];refine p_v (.int .i64 n) (n_l ae n ce sl_nats) ?_;simp only[pv];refine p_v (.bool false) (exec_neq_k .i64 _ _ _ _ rfl n n rfl rfl false (by rw[decide_eq_true rfl];rfl)) ?_;refine p_k false (.bool false) (pw_nil ?_);simp only[pv];clear hq
 iterate 7 go_step
 refine rp ?_;refine pw_new (by rfl) 62 rfl _ zero_nat ?_;intro g8 z3000 n0 r8 k;simp only[pv]
 have d6x8:=l_l r6.lt n0
 have b8:=Nat.le_trans sb.size n0
 clear n0;replace r6:=k.ro r6;replace sb:=kk sb k;clear k;refine pw_nil ?_
 iterate 4 go_step
 refine rp ?_;refine p_m ?_;simp only[pv];refine p_v (.int .i64 n) (n_l ab n ca sl_nats) ?_;refine p_v (.int .i64 0) (fun _=>rfl) (pw_nil ?_);simp only[pv]
 have r8':Row _ g8 (natC (D 0)) 62:=hD0▸r8
 clear r8 hD0
 go_wp2_with fail
 go_loopg [9,23] n (fun g s9 s23 wr=> ∃i:Nat,i+g=n/\s23= .int .i64 i/\Row wr g6 (natC 0) 62/\Row wr g8 (natC (D i)) 62/\Below w.heap.size w wr)
 case atStart=>exact⟨0,by omega,rfl,r6,r8',sb⟩
 case round=>
  clear r6 r8' sb
  obtain⟨i,hi,rfl,r6,r8,sb⟩:=hrel
  cases gk with
  |zero=>
   obtain rfl:i=n:=by omega
   clear hi hmu had
   go_step
   refine rp ?_;refine p_v (.bool false) (lt_f i i) (pw_nil ?_);simp only[pv]
   iterate 8 go_step
   refine rp ?_;refine p_l r8.r ?_;simp only[pv];refine p_p r6 (D i) ?_;clear r6;intro z9001 r6 k;simp only[Act.put];replace r8:=k.ro r8;replace sb:=kk sb k;clear k;refine p_v (.int .i64 0) (fun _=>rfl) (pw_nil ?_);simp only[pv]
   go_wp2
   exact ret_row2 rfl _ rfl r6 4 _ Tryz.underlying62 (by exact size_nat) rfl _ rfl ⟨rfl,sb⟩
  |succ g=>
   have hlt:i<n:=by omega
   replace hmu:=hmu i hlt;replace had:=had i hlt
   go_step
   refine rp ?_;refine p_v (.bool true) (lt_t i n) (pw_nil ?_);simp only[pv]
   iterate 10 go_step
   refine rp ?_;refine p_m ?_;refine p_a (pw_nil ?_);simp only[pv]
   obtain h0|⟨rfl,rB,hbt⟩:=(HB.out.below sb).at'
   ·omega
   obtain h0|⟨rfl,rE,het⟩:=(HE.out.below sb).at'
   ·omega
   have lB:=((HB.out.at'.resolve_left (by omega)).2.1).lt
   have lE:=((HE.out.at'.resolve_left (by omega)).2.1).lt
   iterate 2 go_step
   apply wp_region_mix (by kernel_rfl) [(g8,62,natC (D i))] [_,_,_,_,_,_,_,_,_,_,_,_,_,_] ⟨r8,trivial⟩ (by simp<;>omega)
   ·intro p;refine m_m ?_;simp only[pv];refine mx_loadT 0 62 _ rfl rfl rfl 4 _ Tryz.underlying62 size_nat ?_;refine m_m ?_;refine m_m ?_;refine m_m ?_;simp only[pv];refine m_x i hlt Tryz.underlying33 size_nat4 ?_;simp only[pv];refine mx_loadmR 62 _ rfl _ ((ob+i*4)) rfl rB (by simp<;>omega) (natC (a' i)) (hbt i hlt) _ Tryz.underlying62 rfl size_nat ?_;refine m_m ?_;refine m_m ?_;simp only[pv];refine m_x i hlt Tryz.underlying33 size_nat4 ?_;simp only[pv];refine mx_loadmR 62 _ rfl _ ((oe+i*4)) rfl rE (by simp<;>omega) (natC (b' i)) (het i hlt) _ Tryz.underlying62 rfl size_nat ?_;simp only[pv]
    refine m_k 124 Tryz.func124 #[.pointer v,.agg (natC (a' i)),.agg (natC (b' i))] (fun w' hk=>hmu w' (sb.trans (hk.below w.heap.size sb.size (by simp<;>omega)))) ?_
    simp only[pv]
    refine m_k 123 Tryz.func123 #[.pointer v,.agg (natC (D i)),.agg (natC (T i))] (fun w' hk=>had w' (sb.trans (hk.below w.heap.size sb.size (by simp<;>omega)))) ?_
    simp only[pv];refine m_p 0 (D (i+1)) ?_;simp only[Act.put];refine mx_end ?_;intro w10 hkw hrw hnew hdis
    have zr8:Row w10 (g8) (natC (D (i+1))) 62:=hrw 0 (62,natC (D (i+1))) rfl
    replace r6:=hkw.ro r6;replace sb:=kk sb hkw;clear hkw hrw hnew hdis r8
    have r8:=zr8
    clear zr8
    iterate 2 go_step
    refine rp ?_;refine p_v (.int .i64 ((i+1:Nat):Int)) (x_a i 1) ?_;refine p_m (pw_nil ?_);simp only[pv]
    go_wp2
    go_roundg g
    case measure=>omega
    case rel=>exact⟨i+1,by omega,rfl,r6,r8,sb⟩
   ·kernel_rfl
structure FdQ (Q:Nat):Prop extends RgQ Q where
 pr:IsP Q
theorem FdQ.pos {Q:Nat}(h:FdQ Q):0<Q:=Nat.lt_of_lt_of_le (by decide) h.two
theorem fIn_ok (A g gr gf P Q G:Nat)(w:World)(hA:A<2^256)(q:FdQ Q)(h:GrpAt w g gr gf P Q G):
  Calls Tryz.prog 103 #[.pointer (some ⟨g,0,none⟩),.agg (natC A)] w fun e w'=>e= .returned (.bool (decide (A<Q)))/\Below w.heap.size w w':=by
 refine fIn_core _ _ A _ w (fun w' hb=>grpField_any _ _ _ _ _ _ w' (h.below hb).kn) fun w' hb=>?_
 have:=ringIn_any A Q _ _ _ gf w' hA q.pos q.m (h.below hb).fld
 rw[cmp_neg]at this
 exact this
theorem fAdd_ok (A B g gr gf P Q G:Nat)(w:World)(hA:A<2^256)(hB:B<2^256)(q:FdQ Q)(h:GrpAt w g gr gf P Q G):
  Calls Tryz.prog 123 #[.pointer (some ⟨g,0,none⟩),.agg (natC A),.agg (natC B)] w fun e w'=>e= .returned (.agg (natC ((A+B)%Q)))/\Below w.heap.size w w':=by
 refine fAdd_core _ A B Q _ (errI Q) w (fun w' hb=>grpQ_any _ _ _ _ _ _ w' (h.below hb).kn) fun w'=>?_
 have:=wadd_any A B Q w' hA hB q.m
 rw[modZ_full _ _ (Nat.pos_iff_ne_zero.1 q.pos)]at this
 exact this
theorem fSub_ok (A B g gr gf P Q G:Nat)(w:World)(hA:A<2^256)(hB:B<2^256)(q:FdQ Q)(h:GrpAt w g gr gf P Q G):
  Calls Tryz.prog 140 #[.pointer (some ⟨g,0,none⟩),.agg (natC A),.agg (natC B)] w fun e w'=>e= .returned (.agg (natC (sbN A B Q)))/\Below w.heap.size w w':=by
 refine fSub_core _ A B Q _ (errI Q) w (fun w' hb=>grpQ_any _ _ _ _ _ _ w' (h.below hb).kn) fun w'=>?_
 have:=wsub_any A B Q w' hA hB q.m
 rw[subZ_sb _ _ _ q.pos]at this
 exact this
theorem fMul_ok (A B g gr gf P Q G:Nat)(w:World)(hA:A<2^256)(hB:B<2^256)(q:FdQ Q)(h:GrpAt w g gr gf P Q G):
  Calls Tryz.prog 124 #[.pointer (some ⟨g,0,none⟩),.agg (natC A),.agg (natC B)] w fun e w'=>e= .returned (.agg (natC (A*B%Q)))/\Below w.heap.size w w':=
 fMul_core _ _ A B _ w (fun w' hb=>grpField_any _ _ _ _ _ _ w' (h.below hb).kn) fun w' hb=>mul_ok A B Q gf q.toRgQ w' hA hB (h.below hb).fld
theorem fInv_ok (A g gr gf P Q G:Nat)(w:World)(hA:A<2^256)(q:FdQ Q)(h:GrpAt w g gr gf P Q G):
  Calls Tryz.prog 161 #[.pointer (some ⟨g,0,none⟩),.agg (natC A)] w fun e w'=>e= .returned (.agg (natC (invZ A Q)))/\Below w.heap.size w w':=
 fInv_core _ A Q _ _ w (fun w' hb=>grpQ_any _ _ _ _ _ _ w' (h.below hb).kn) fun w'=>winv_any A Q w' hA q.m
theorem fDot_ok (g gr gf P Q G n ca ce:Nat)(ab ae:Option Addr)(a' b':Nat->Nat)(gb ob ge oe:Nat)(bcs ecs:Array Value)(tb te:TypeId)(w:World)(q:FdQ Q)(hn:n<9223372036854775808)
  (hna:NatsAt w ab n a' gb ob bcs tb)(hnb:NatsAt w ae n b' ge oe ecs te)(h:GrpAt w g gr gf P Q G):
  Calls Tryz.prog 64 #[.pointer (some ⟨g,0,none⟩),.slice ab n ca,.slice ae n ce] w fun e w'=>e= .returned (.tuple #[.agg (natC (dotN a' b' Q n)),.int .i64 0])/\Below w.heap.size w w':=
 fDot_core _ ab ae n ca ce ⟨gf,0,none⟩ a' b' (fun i=>a' i*b' i%Q) (dotN a' b' Q) gb ob ge oe bcs ecs tb te w rfl hna hnb hn (fun w' hb=>grpField_any _ _ _ _ _ _ w' (h.below hb).kn)
  (fun i hi w' hb=>fMul_ok _ _ g gr gf P Q G w' (hna.lt i hi) (hnb.lt i hi) q (h.below hb))
  (fun i _ w' hb=>fAdd_ok _ _ g gr gf P Q G w' (Nat.lt_trans (dotN_lt a' b' Q q.pos i) q.m) (Nat.lt_trans (Nat.mod_lt _ q.pos) q.m) q (h.below hb))
def NoG (w:World)(v:Option Addr):Prop:=KnAt w v 0 0 0 none none
theorem NoG.below {w w':World}{v:Option Addr}(h:NoG w v)(hb:Below w.heap.size w w'):NoG w' v:=KnAt.below h hb
theorem fIn_no (v:Option Addr)(A:Nat)(w:World)(h:NoG w v):
  Calls Tryz.prog 103 #[.pointer v,.agg (natC A)] w fun e w'=>e= .returned (.bool false)/\Below w.heap.size w w':=
 fIn_core _ _ A _ w (fun w' hb=>grpField_any _ _ _ _ _ _ w' (h.below hb)) fun w' _=>in_no none A w' (.inl rfl)
theorem fAdd_no (v:Option Addr)(A B:Nat)(w:World)(hA:A<2^256)(hB:B<2^256)(h:NoG w v):
  Calls Tryz.prog 123 #[.pointer v,.agg (natC A),.agg (natC B)] w fun e w'=>e= .returned (.agg (natC 0))/\Below w.heap.size w w':=
 fAdd_core _ A B 0 0 _ w (fun w' hb=>grpQ_any _ _ _ _ _ _ w' (h.below hb)) fun w'=>wadd_any A B 0 w' hA hB (by decide)
theorem fMul_no (v:Option Addr)(A B:Nat)(w:World)(h:NoG w v):
  Calls Tryz.prog 124 #[.pointer v,.agg (natC A),.agg (natC B)] w fun e w'=>e= .returned (.agg (natC 0))/\Below w.heap.size w w':=
 fMul_core _ _ A B _ w (fun w' hb=>grpField_any _ _ _ _ _ _ w' (h.below hb)) fun w' _=>mul_no none A B w' (.inl rfl)
def pk2 {α:Type}(b:Bool)(x y:α):α:=if b=true then x else y
theorem rpick_1 (a0 z:Int)(w:World)(hz:bits .and .i64 a0 1=z)(h:decide (z=1)=true):
  Calls Tryz.prog 48 #[.int .i64 a0] w fun e w'=> ∃g,e= .returned (.agg (paC (some ⟨g,0,none⟩) 3 3 otG))/\w.heap.size<=g/\Row w' g (lksC 3 (lN otL) twoA) 126/\Below w.heap.size w w':=by
 go_enter Tryz.func48,Tryz.ntmps48
 iterate 2 go_step
 refine rp ?_;refine pw_new (by rfl) 64 rfl _ zero_pa ?_;intro g2 z0 n0 r2 k;simp only[pv]
 have b2:w.heap.size<=g2:=n0
 clear n0
 have sb:=k_b k
 clear k;refine pw_nil ?_
 iterate 4 go_step
 refine rp ?_;refine p_m ?_;simp only[pv];refine p_v (.int .i64 z) (fun w'=>(exec_bits_i .and _ _ _ _ (.inl rfl) rfl a0 1 rfl rfl w').trans (by rw[hz])) ?_;simp only[pv];refine p_v (.bool true) (exec_eql_k .i64 _ _ _ _ rfl z 1 rfl rfl true h) (pw_nil ?_);simp only[pv]
 iterate 4 go_step
 refine rp ?_;refine p_f 28 Tryz.func28 #[] (rother_any _) ?_
 rintro _ z2000 ⟨gL,rfl,nL,rL,hb⟩
 refine⟨_,rfl,?_⟩
 simp only[pv]
 have d2xL:=l_l r2.lt nL
 have bL:=Nat.le_trans sb.size nL
 clear nL
 have k:=Kept.ofBelow hb
 clear hb;replace r2:=k.ro r2;replace sb:=kk sb k;clear k;refine pw_put (by rfl) 64 _ _ rfl _ rfl r2 (paC (some ⟨gL,0,none⟩) 3 3 otG) rfl (by exact size_pa) (by rfl) (pa_one _ _ _ _) ?_;clear r2;intro z2001 r2 k;simp only[Act.put];replace rL:=k.ro rL;replace sb:=kk sb k;clear k;refine pw_nil ?_
 go_wp2
 exact ret_rowd rfl _ rfl r2 _ Tryz.underlying64 (by exact size_pa) rfl ⟨gL,rfl,bL,rL,sb⟩
theorem rpick_0 (a0 z:Int)(w:World)(hz:bits .and .i64 a0 1=z)(h:decide (z=1)=false):
  Calls Tryz.prog 48 #[.int .i64 a0] w fun e w'=> ∃g,e= .returned (.agg (paC (some ⟨g,0,none⟩) 3 3 leG))/\w.heap.size<=g/\Row w' g (lksC 3 (lN leL) twoA) 126/\Below w.heap.size w w':=by
 go_enter Tryz.func48,Tryz.ntmps48
 iterate 2 go_step
 refine rp ?_;refine pw_new (by rfl) 64 rfl _ zero_pa ?_;intro g2 z0 n0 r2 k;simp only[pv]
 have b2:w.heap.size<=g2:=n0
 clear n0
 have sb:=k_b k
 clear k;refine pw_nil ?_
 iterate 4 go_step
 refine rp ?_;refine p_m ?_;simp only[pv];refine p_v (.int .i64 z) (fun w'=>(exec_bits_i .and _ _ _ _ (.inl rfl) rfl a0 1 rfl rfl w').trans (by rw[hz])) ?_;simp only[pv];refine p_v (.bool false) (exec_eql_k .i64 _ _ _ _ rfl z 1 rfl rfl false h) (pw_nil ?_);simp only[pv]
 iterate 7 go_step
 refine rp ?_;refine p_f 27 Tryz.func27 #[] (rleast_any _) ?_
 rintro _ z3000 ⟨gL,rfl,nL,rL,hb⟩
 refine⟨_,rfl,?_⟩
 simp only[pv]
 have d2xL:=l_l r2.lt nL
 have bL:=Nat.le_trans sb.size nL
 clear nL
 have k:=Kept.ofBelow hb
 clear hb;replace r2:=k.ro r2;replace sb:=kk sb k;clear k;refine pw_put (by rfl) 64 _ _ rfl _ rfl r2 (paC (some ⟨gL,0,none⟩) 3 3 leG) rfl (by exact size_pa) (by rfl) (pa_one _ _ _ _) ?_;clear r2;intro z3001 r2 k;simp only[Act.put];replace rL:=k.ro rL;replace sb:=kk sb k;clear k;refine pw_nil ?_
 go_wp2
 exact ret_rowd rfl _ rfl r2 _ Tryz.underlying64 (by exact size_pa) rfl ⟨gL,rfl,bL,rL,sb⟩
def pkB (a0:Int):Bool:=decide (bits .and .i64 a0 1=1)
theorem rpick_any (a0:Int)(w:World):
  Calls Tryz.prog 48 #[.int .i64 a0] w fun e w'=> ∃g,e= .returned (.agg (paC (some ⟨g,0,none⟩) 3 3 (pk2 (pkB a0) otG leG)))/\w.heap.size<=g/\Row w' g (lksC 3 (lN (pk2 (pkB a0) otL leL)) twoA) 126/\Below w.heap.size w w':=by
 cases h:pkB a0 with
 |true=>exact rpick_1 a0 _ w rfl h
 |false=>exact rpick_0 a0 _ w rfl h
theorem pk2_gr (b:Bool):grN 3 (lN (pk2 b otL leL)) twoA (pk2 b otG leG)=true/\(∀i,i<3->lN (pk2 b otL leL) i<2^256)/\pk2 b otG leG<2^256/\lN (pk2 b otL leL) (3-2)<4611686018427387904:=by
 cases b with
 |true=>exact⟨other_is,ot_lt,by decide,by decide⟩
 |false=>exact⟨least_is,le_lt,by decide,by decide⟩
end Go.Proofs.YtijgjbbihgjkmaaGreatDoor
