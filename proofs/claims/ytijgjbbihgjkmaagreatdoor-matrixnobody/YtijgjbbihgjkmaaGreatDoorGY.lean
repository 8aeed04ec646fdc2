import Derived.Test.YtijgjbbihgjkmaaGreatDoorPX
import Derived.Test.YtijgjbbihgjkmaaGreatDoorGWalk
set_option maxRecDepth 100000
set_option maxHeartbeats 2000000
namespace Go.Proofs.YtijgjbbihgjkmaaGreatDoor
set_option linter.unusedVariables false
open Go.RowKit
def paC (ab:Option Addr)(n c G:Nat):Array Value:=#[.slice ab n c,.int .u64 (lm G 0),.int .u64 (lm G 1),.int .u64 (lm G 2),.int .u64 (lm G 3)]
theorem pa_g (ab:Option Addr)(n c G:Nat): ∀j v,(natC G).toList[j]?=some v->(paC ab n c G)[1+j]?=some v:=part4 rfl rfl rfl rfl
theorem pa_one (ab:Option Addr)(n c G:Nat):(paC ab n c G).all (·.oneCell')=true:=by simp[paC,Value.oneCell']
theorem info_pa:(Tryz.prog.info? 64).map (fun i=>(i.zero,i.size))=some (some (.agg (paC none 0 0 0)),5):=by kernel_rfl
theorem zero_pa (w:World):(zeroValue 64).run Tryz.prog w= .ok (.agg (paC none 0 0 0)) w:=(zero_of_info info_pa).1 w
theorem size_pa:(Tryz.prog.info? 64).map (·.size)=some 5:=(zero_of_info info_pa).2
theorem built_pa (ab:Option Addr)(n c G:Nat):Tryz.prog.built 64 [(0,.slice ab n c),(1,.agg (natC G))]=some (paC ab n c G):=by
 unfold natC paC
 generalize lm G 0=a0
 generalize lm G 1=a1
 generalize lm G 2=a2
 generalize lm G 3=a3
 kernel_rfl
def mdC (P Q G:Nat):Array Value:=#[.int .u64 (lm P 0),.int .u64 (lm P 1),.int .u64 (lm P 2),.int .u64 (lm P 3),.int .u64 (lm Q 0),.int .u64 (lm Q 1),.int .u64 (lm Q 2),.int .u64 (lm Q 3),.int .u64 (lm G 0),.int .u64 (lm G 1),.int .u64 (lm G 2),.int .u64 (lm G 3)]
theorem md_p (P Q G:Nat): ∀j v,(natC P).toList[j]?=some v->(mdC P Q G)[0+j]?=some v:=part4 rfl rfl rfl rfl
theorem md_q (P Q G:Nat): ∀j v,(natC Q).toList[j]?=some v->(mdC P Q G)[4+j]?=some v:=part4 rfl rfl rfl rfl
theorem md_g (P Q G:Nat): ∀j v,(natC G).toList[j]?=some v->(mdC P Q G)[8+j]?=some v:=part4 rfl rfl rfl rfl
theorem md_one (P Q G:Nat):(mdC P Q G).all (·.oneCell')=true:=by simp[mdC,Value.oneCell']
theorem info_md:(Tryz.prog.info? 72).map (fun i=>(i.zero,i.size))=some (some (.agg (mdC 0 0 0)),12):=by kernel_rfl
theorem zero_md (w:World):(zeroValue 72).run Tryz.prog w= .ok (.agg (mdC 0 0 0)) w:=(zero_of_info info_md).1 w
theorem size_md:(Tryz.prog.info? 72).map (·.size)=some 12:=(zero_of_info info_md).2
theorem built_md (P Q G:Nat):Tryz.prog.built 72 [(0,.agg (natC P)),(1,.agg (natC Q)),(2,.agg (natC G))]=some (mdC P Q G):=by
 unfold natC mdC
 generalize lm P 0=a0
 generalize lm P 1=a1
 generalize lm P 2=a2
 generalize lm P 3=a3
 generalize lm Q 0=b0
 generalize lm Q 1=b1
 generalize lm Q 2=b2
 generalize lm Q 3=b3
 generalize lm G 0=c0
 generalize lm G 1=c1
 generalize lm G 2=c2
 generalize lm G 3=c3
 kernel_rfl
def gpC (P Q G:Nat)(r f:Option Addr):Array Value:=#[.int .u64 (lm P 0),.int .u64 (lm P 1),.int .u64 (lm P 2),.int .u64 (lm P 3),.int .u64 (lm Q 0),.int .u64 (lm Q 1),.int .u64 (lm Q 2),.int .u64 (lm Q 3),.int .u64 (lm G 0),.int .u64 (lm G 1),.int .u64 (lm G 2),.int .u64 (lm G 3),.pointer r,.pointer f]
theorem gp_one (P Q G:Nat)(r f:Option Addr):(gpC P Q G r f).all (·.oneCell')=true:=by simp[gpC,Value.oneCell']
theorem info_gp:(Tryz.prog.info? 75).map (fun i=>(i.zero,i.size))=some (some (.agg (gpC 0 0 0 none none)),14):=by kernel_rfl
theorem zero_gp (w:World):(zeroValue 75).run Tryz.prog w= .ok (.agg (gpC 0 0 0 none none)) w:=(zero_of_info info_gp).1 w
theorem size_gp:(Tryz.prog.info? 75).map (·.size)=some 14:=(zero_of_info info_gp).2
theorem built_gp0:Tryz.prog.built 75 []=some (gpC 0 0 0 none none):=by kernel_rfl
theorem built_gp (P Q G:Nat)(r f:Option Addr):Tryz.prog.built 75 [(0,.agg (mdC P Q G)),(1,.pointer r),(2,.pointer f)]=some (gpC P Q G r f):=by
 unfold mdC gpC
 generalize lm P 0=a0
 generalize lm P 1=a1
 generalize lm P 2=a2
 generalize lm P 3=a3
 generalize lm Q 0=b0
 generalize lm Q 1=b1
 generalize lm Q 2=b2
 generalize lm Q 3=b3
 generalize lm G 0=c0
 generalize lm G 1=c1
 generalize lm G 2=c2
 generalize lm G 3=c3
 kernel_rfl
theorem gp_made (P Q G:Nat)(r f:Option Addr)(w:World):(Instr.field 75 (.agg (gpC P Q G r f)) 0).run Tryz.prog w= .ok (.agg (mdC P Q G)) w:=by
 unfold mdC gpC
 generalize lm P 0=a0
 generalize lm P 1=a1
 generalize lm P 2=a2
 generalize lm P 3=a3
 generalize lm Q 0=b0
 generalize lm Q 1=b1
 generalize lm Q 2=b2
 generalize lm Q 3=b3
 generalize lm G 0=c0
 generalize lm G 1=c1
 generalize lm G 2=c2
 generalize lm G 3=c3
 kernel_rfl
theorem gp_ring (P Q G:Nat)(r f:Option Addr)(w:World):(Instr.field 75 (.agg (gpC P Q G r f)) 1).run Tryz.prog w= .ok (.pointer r) w:=by
 unfold gpC
 kernel_rfl
theorem gp_field (P Q G:Nat)(r f:Option Addr)(w:World):(Instr.field 75 (.agg (gpC P Q G r f)) 2).run Tryz.prog w= .ok (.pointer f) w:=by
 unfold gpC
 kernel_rfl
theorem mdf_q (P Q G:Nat)(w:World):(Instr.field 72 (.agg (mdC P Q G)) 1).run Tryz.prog w= .ok (.agg (natC Q)) w:=by
 unfold mdC natC
 kernel_rfl
theorem mdf_g (P Q G:Nat)(w:World):(Instr.field 72 (.agg (mdC P Q G)) 2).run Tryz.prog w= .ok (.agg (natC G)) w:=by
 unfold mdC natC
 kernel_rfl
def lkv (N:Nat)(z:Int)(j:Nat):Value:=if j=4 then .int .i64 z else .int .u64 (lm N j:Nat)
theorem lkv_get (N:Nat)(z:Int)(j:Nat)(h:j<5):(lkC N z)[j]?=some (lkv N z j):=by
 match j,h with
 |0,_=>rfl
 |1,_=>rfl
 |2,_=>rfl
 |3,_=>rfl
 |4,_=>rfl
def lksC (n:Nat)(N:Nat->Nat)(A:Nat->Int):Array Value:=Array.ofFn (n:=5*n) fun i=>lkv (N (i/5)) (A (i/5)) (i%5)
theorem lksC_get (n:Nat)(N:Nat->Nat)(A:Nat->Int)(i:Nat)(h:i<5*n):(lksC n N A)[i]?=some (lkv (N (i/5)) (A (i/5)) (i%5)):=by simp[lksC,h]
theorem lks_links {w:World}{g n:Nat}{N:Nat->Nat}{A:Nat->Int}(h:Row w g (lksC n N A) 126)(hN: ∀i,i<n->N i<2^256):LinksAt w (some ⟨g,0,none⟩) n N A g 0 (lksC n N A) 126:=
 ⟨.inr ⟨rfl,h.r,fun i hi j v hv=>by
  rw[Array.getElem?_toList]at hv
  have hj:j<5:=by
   have:=(Array.getElem?_eq_some_iff.1 hv).1
   rw[lkC_size]at this
   exact this
  rw[lkv_get _ _ _ hj]at hv
  rw[lksC_get n N A _ (by omega),show(0+i*5+j)/5=i by omega,show(0+i*5+j)%5=j by omega]
  exact hv⟩,hN⟩
section
variable {ops:Array Oper}{Q:Exit->Act->World->Prop}{rest:List Oper}{o:Oper}{a:Act}{w:World}
theorem p_l {x:Operand}{g A:Nat}{t:TypeId}(hg:RowR w g (natC A) t)(h:PW Tryz.prog ops Q rest (a.put o.dst (.agg (natC A))) w)(hw:Region.wanted o (yielded ops a.tmps)=true:=by rfl)(ho:o.op= .load 62 x:=by exact rfl)(hx:a.eval x= .pointer (some ⟨g,0,none⟩):=by exact rfl):PW Tryz.prog ops Q (o::rest) a w:=pw_loadm hw 62 x ho g 0 hx hg (natC A) (part_all _) _ Tryz.underlying62 rfl size_nat h
theorem p_p {x y:Operand}{g:Nat}{t:TypeId}{old:Array Value}(hg:Row w g old t)(A:Nat)(h: ∀w',Row w' g (natC A) t->Kept [g] w w'->PW Tryz.prog ops Q rest (a.put o.dst undef) w')(hw:Region.wanted o (yielded ops a.tmps)=true:=by rfl)(ho:o.op= .store 62 x y:=by exact rfl)(hx:a.eval x= .pointer (some ⟨g,0,none⟩):=by exact rfl)(hy:a.eval y= .agg (natC A):=by exact rfl)(hold:old.size=(natC A).size:=by simp only[natC_size]):PW Tryz.prog ops Q (o::rest) a w:=pw_put hw 62 x y ho g hx hg (natC A) hy (by exact size_nat) hold (natC_one _) h
end
theorem madeOf_any (n c:Nat)(ab:Option Addr)(G:Nat)(N:Nat->Nat)(A:Nat->Int)(gb ob:Nat)(bcs:Array Value)(tb:TypeId)(w:World)(h2:2<=n)(hn:n<9223372036854775808)(hL:LinksAt w ab n N A gb ob bcs tb):
  Calls Tryz.prog 70 #[.agg (paC ab n c G)] w fun e w'=>e= .returned (.agg (mdC (N (n-1)) (N (n-2)) G))/\Below w.heap.size w w':=by
 obtain h0|⟨rfl,rB,hat⟩:=hL.at'
 ·omega
 clear hL
 have lB:=rB.lt
 have h1:=hat (n-1) (by omega)
 have hq:=hat (n-2) (by omega)
 clear hat
 generalize N (n-1)=P at*
 generalize A (n-1)=zp at*
 generalize N (n-2)=Q1 at*
 generalize A (n-2)=zq at*
 go_enter Tryz.func70,Tryz.ntmps70
 iterate 2 go_step
 apply wp_region_mixp [] [_,_] trivial List.nodup_nil
 ·intro p;refine mx_box 64 _ rfl _ rfl ?_;simp only[pv];refine mx_new 72 rfl _ zero_md ?_;simp only[pv];refine mx_end ?_;intro w2 hkw hrw hnew hdis
  have n1:=hnew 0 rfl
  have n2:=hnew 1 rfl
  have zr1:Row w2 (p 0) (paC (some ⟨gb,ob,none⟩) n c G) 64:=hrw 1 (64,paC (some ⟨gb,ob,none⟩) n c G) rfl
  have zr2:Row w2 (p 1) (mdC 0 0 0) 72:=hrw 3 (72,mdC 0 0 0) rfl
  have d1x2:=hdis 0 1 (by omega) rfl rfl
  have sb:=k_b hkw
  have b2:w.heap.size<=p 1:=n2
  clear hkw hrw hnew hdis n1 n2
  generalize p 0=g1 at*
  generalize p 1=g2 at*
  have r1:=zr1
  clear zr1
  have r2:=zr2
  clear zr2;replace rB:=rB.belowAll sb
  iterate 3 go_step
  refine wp_region_qp ?_;refine q_v (.pointer (some ⟨g1,0,none⟩)) (exec_field 64 _ 0 rfl g1 0 rfl _ Tryz.underlying64 _ rfl 0 Tryz.sizeOf59) ?_;simp only[pv];refine qw_loadc (by rfl) 59 _ rfl _ (0) rfl r1 (.slice (some ⟨gb,ob,none⟩) n c) rfl Tryz.isAgg59 ?_;simp only[pv];refine q_v (.int .i64 n) (n_l (some ⟨gb,ob,none⟩) n c sl_link) ?_;simp only[pv];refine q_v (.int .i64 ((n-1:Nat):Int)) (exec_sub_in _ _ _ _ rfl n 1 rfl rfl (by omega) hn) ?_;refine q_a ?_;simp only[pv];refine qw_nil ?_;intro w3 hqb;replace r1:=r1.belowAll hqb;replace r2:=r2.belowAll hqb;replace rB:=rB.belowAll hqb;replace sb:=b_o sb hqb;clear hqb
  iterate 3 go_step
  apply wp_region_mix (by kernel_rfl) [(g2,72,mdC 0 0 0)] [_,_,_,_,_,_,_,_,_,_,_,_,_,_,_,_,_] ⟨r2,trivial⟩ (by simp<;>omega)
  ·intro p;refine mx_val (.pointer (some ⟨g1,0,none⟩)) (exec_field 64 _ 0 rfl g1 0 rfl _ Tryz.underlying64 _ rfl 0 Tryz.sizeOf59) ?_;simp only[pv];refine mx_loadc 59 _ rfl _ (0) rfl r1 (by simp<;>omega) (.slice (some ⟨gb,ob,none⟩) n c) rfl Tryz.isAgg59 ?_;refine m_m ?_;simp only[pv];refine mx_val (.pointer (some ⟨gb,ob+(n-1)*5,none⟩)) (exec_index_s 59 _ _ rfl gb ob n c rfl (n-1) rfl (by omega) _ Tryz.underlying59 5 Tryz.sizeOf126) ?_;simp only[pv];refine mx_val (.pointer (some ⟨gb,ob+(n-1)*5,none⟩)) (exec_field 126 _ 0 rfl gb (ob+(n-1)*5) rfl _ Tryz.underlying126 _ rfl 3 Tryz.sizeOf62) ?_;simp only[pv];refine mx_loadmR 62 _ rfl _ ((ob+(n-1)*5)) rfl rB (by simp<;>omega) (natC P) (lk_part h1) _ Tryz.underlying62 rfl size_nat ?_;simp only[pv];refine mx_val (.pointer (some ⟨g1,0,none⟩)) (exec_field 64 _ 0 rfl g1 0 rfl _ Tryz.underlying64 _ rfl 0 Tryz.sizeOf59) ?_;simp only[pv];refine mx_loadc 59 _ rfl _ (0) rfl r1 (by simp<;>omega) (.slice (some ⟨gb,ob,none⟩) n c) rfl Tryz.isAgg59 ?_;refine m_m ?_;simp only[pv];refine mx_val (.int .i64 ((n-2:Nat):Int)) (fun w'=>(exec_sub_in _ _ _ _ rfl (n-1) 1 rfl rfl (by omega) (by omega) w').trans (by rw[show n-1-1=n-2 by omega])) ?_;simp only[pv];refine mx_val (.pointer (some ⟨gb,ob+(n-2)*5,none⟩)) (exec_index_s 59 _ _ rfl gb ob n c rfl (n-2) rfl (by omega) _ Tryz.underlying59 5 Tryz.sizeOf126) ?_;simp only[pv];refine mx_val (.pointer (some ⟨gb,ob+(n-2)*5,none⟩)) (exec_field 126 _ 0 rfl gb (ob+(n-2)*5) rfl _ Tryz.underlying126 _ rfl 3 Tryz.sizeOf62) ?_;simp only[pv];refine mx_loadmR 62 _ rfl _ ((ob+(n-2)*5)) rfl rB (by simp<;>omega) (natC Q1) (lk_part hq) _ Tryz.underlying62 rfl size_nat ?_;simp only[pv];refine mx_val (.pointer (some ⟨g1,1,none⟩)) (exec_field 64 _ 1 rfl g1 0 rfl _ Tryz.underlying64 _ rfl 3 Tryz.sizeOf62) ?_;simp only[pv];refine mx_loadm 62 _ rfl _ (1) rfl r1 (by simp<;>omega) (natC G) (pa_g _ _ _ _) _ Tryz.underlying62 rfl size_nat ?_;simp only[pv];refine mx_val (.agg (mdC P Q1 G)) (exec_buildv _ _ rfl [(0,.agg (natC P)),(1,.agg (natC Q1)),(2,.agg (natC G))] rfl _ (built_md P Q1 G)) ?_;simp only[pv];refine mx_put 0 72 _ _ rfl rfl rfl (mdC P Q1 G) rfl (by exact size_md) (by rfl) (md_one _ _ _) ?_;simp only[Act.put];refine mx_end ?_;intro w4 hkw hrw hnew hdis
   have zr2:Row w4 (g2) (mdC P Q1 G) 72:=hrw 0 (72,mdC P Q1 G) rfl
   replace sb:=kk sb hkw;clear hkw hrw hnew hdis r2
   have r2:=zr2
   clear zr2
   go_wp2
   exact ret_rowd rfl _ rfl r2 _ Tryz.underlying72 (by exact size_md) rfl ⟨rfl,sb⟩
  ·kernel_rfl
 ·rfl
def inB (P Q G:Nat):Bool:=decide (512<=Q)&&(decide (1<G)&&decide (G<P))
theorem len10 (Q:Nat):decide ((10:Int)<=(bitLen Q:Int))=decide (512<=Q):=by
 apply decide_eq_decide.2
 constructor
 ·intro h
  by_cases h2:Q<2^9
  ·have:=bitLen_to Q 9 h2;omega
  ·have:(2:Nat)^9=512:=rfl
   omega
 ·intro h
  have h3: ¬bitLen Q<=9:=fun h4=>by
   have:=lt_bitLen Q 9 h4
   have:(2:Nat)^9=512:=rfl
   omega
  omega
theorem cmp_neg (X Y:Nat):decide (cmpI X Y<(0:Int))=decide (X<Y):=by
 unfold cmpI
 split
 ·rw[decide_eq_true (by omega),decide_eq_true (by assumption)]
 ·split
  ·rw[decide_eq_false (by omega),decide_eq_false (by omega)]
  ·rw[decide_eq_false (by omega),decide_eq_false (by omega)]
theorem inb1 (P Q1 G:Nat)(w:World)(hP:P<2^256)(hQ:Q1<2^256)(hG:G<2^256)(h1:decide ((10:Int)<=(bitLen Q1:Int))=false):
  Calls Tryz.prog 71 #[.agg (mdC P Q1 G)] w fun e w'=>e= .returned (.bool false)/\Below w.heap.size w w':=by
 have hle:=fun w'=>nlen_any Q1 w' hQ
 have hof:=fun w'=>nof_any 1 w' (by decide)
 rw[show(1:Int).toNat=1 from rfl]at hof
 generalize (bitLen Q1:Nat)=BL at*
 generalize cmpI G 1=C1 at*
 generalize cmpI G P=C2 at*
 go_enter Tryz.func71,Tryz.ntmps71
 iterate 2 go_step
 apply wp_region_mixp [] [_,_] trivial List.nodup_nil
 ·intro p;refine mx_box 72 _ rfl _ rfl ?_;simp only[pv];refine mx_val (.bool false) (fun _=>rfl) ?_;simp only[pv];refine mx_end ?_;intro w2 hkw hrw hnew hdis
  have n1:=hnew 0 rfl
  have zr1:Row w2 (p 0) (mdC P Q1 G) 72:=hrw 1 (72,mdC P Q1 G) rfl
  have sb:=k_b hkw
  clear hkw hrw hnew hdis n1
  generalize p 0=g1 at*
  have r1:=zr1
  clear zr1
  iterate 3 go_step
  refine wp_region_qw (by kernel_rfl) (by kernel_rfl) ?_;refine q_v (.pointer (some ⟨g1,4,none⟩)) (exec_field 72 _ 1 rfl g1 0 rfl _ Tryz.underlying72 _ rfl 3 Tryz.sizeOf62) ?_;simp only[pv];refine qw_loadm (by rfl) 62 _ rfl _ (4) rfl r1 (natC Q1) (md_q P Q1 G) _ Tryz.underlying62 rfl size_nat ?_;simp only[pv];refine q_c 87 Tryz.func87 #[.agg (natC Q1)] hle ?_;simp only[pv];refine q_v (.bool false) (exec_geq_i _ _ _ _ rfl BL 10 rfl rfl false h1) ?_;refine q_m ?_;simp only[pv];refine qw_skip (by rfl) ?_;simp only[pv];refine qw_skip (by rfl) ?_;simp only[pv];refine qw_skip (by rfl) ?_;simp only[pv];refine qw_skip (by rfl) ?_;simp only[pv];refine qw_skip (by rfl) ?_;refine q_p false (.bool false) ?_;refine q_m ?_;simp only[pv];refine qw_skip (by rfl) ?_;simp only[pv];refine qw_skip (by rfl) ?_;simp only[pv];refine qw_skip (by rfl) ?_;simp only[pv];refine qw_skip (by rfl) ?_;simp only[pv];refine qw_skip (by rfl) ?_;simp only[pv];refine qw_skip (by rfl) ?_;refine q_p false (.bool false) ?_;refine q_a ?_;simp only[pv];refine qw_nil ?_;intro w3 hqb;replace sb:=b_o sb hqb;clear hqb
  go_wp2
  go_ret
  exact⟨rfl,sb⟩
 ·rfl
theorem inb2 (P Q1 G:Nat)(w:World)(hP:P<2^256)(hQ:Q1<2^256)(hG:G<2^256)(h1:decide ((10:Int)<=(bitLen Q1:Int))=true)(h2:decide ((0:Int)<cmpI G 1)=false):
  Calls Tryz.prog 71 #[.agg (mdC P Q1 G)] w fun e w'=>e= .returned (.bool false)/\Below w.heap.size w w':=by
 have hle:=fun w'=>nlen_any Q1 w' hQ
 have hof:=fun w'=>nof_any 1 w' (by decide)
 rw[show(1:Int).toNat=1 from rfl]at hof
 have hc1:=fun w'=>ncmp_any G 1 w' hG (by decide)
 generalize (bitLen Q1:Nat)=BL at*
 generalize cmpI G 1=C1 at*
 generalize cmpI G P=C2 at*
 go_enter Tryz.func71,Tryz.ntmps71
 iterate 2 go_step
 apply wp_region_mixp [] [_,_] trivial List.nodup_nil
 ·intro p;refine mx_box 72 _ rfl _ rfl ?_;simp only[pv];refine mx_val (.bool false) (fun _=>rfl) ?_;simp only[pv];refine mx_end ?_;intro w2 hkw hrw hnew hdis
  have n1:=hnew 0 rfl
  have zr1:Row w2 (p 0) (mdC P Q1 G) 72:=hrw 1 (72,mdC P Q1 G) rfl
  have sb:=k_b hkw
  clear hkw hrw hnew hdis n1
  generalize p 0=g1 at*
  have r1:=zr1
  clear zr1
  iterate 3 go_step
  refine wp_region_qw (by kernel_rfl) (by kernel_rfl) ?_;refine q_v (.pointer (some ⟨g1,4,none⟩)) (exec_field 72 _ 1 rfl g1 0 rfl _ Tryz.underlying72 _ rfl 3 Tryz.sizeOf62) ?_;simp only[pv];refine qw_loadm (by rfl) 62 _ rfl _ (4) rfl r1 (natC Q1) (md_q P Q1 G) _ Tryz.underlying62 rfl size_nat ?_;simp only[pv];refine q_c 87 Tryz.func87 #[.agg (natC Q1)] hle ?_;simp only[pv];refine q_v (.bool true) (exec_geq_i _ _ _ _ rfl BL 10 rfl rfl true h1) ?_;refine q_m ?_;simp only[pv];refine q_v (.pointer (some ⟨g1,8,none⟩)) (exec_field 72 _ 2 rfl g1 0 rfl _ Tryz.underlying72 _ rfl 3 Tryz.sizeOf62) ?_;simp only[pv];refine qw_loadm (by rfl) 62 _ rfl _ (8) rfl r1 (natC G) (md_g P Q1 G) _ Tryz.underlying62 rfl size_nat ?_;simp only[pv];refine q_c 74 Tryz.func74 #[.int .i64 1] hof ?_;simp only[pv];refine q_c 134 Tryz.func134 #[.agg (natC G),.agg (natC 1)] hc1 ?_;simp only[pv];refine q_v (.bool false) (exec_gt_i _ _ _ _ rfl C1 0 rfl rfl false h2) ?_;refine q_p true (.bool false) ?_;refine q_m ?_;simp only[pv];refine qw_skip (by rfl) ?_;simp only[pv];refine qw_skip (by rfl) ?_;simp only[pv];refine qw_skip (by rfl) ?_;simp only[pv];refine qw_skip (by rfl) ?_;simp only[pv];refine qw_skip (by rfl) ?_;simp only[pv];refine qw_skip (by rfl) ?_;refine q_p false (.bool false) ?_;refine q_a ?_;simp only[pv];refine qw_nil ?_;intro w3 hqb;replace sb:=b_o sb hqb;clear hqb
  go_wp2
  go_ret
  exact⟨rfl,sb⟩
 ·rfl
theorem inb3 (P Q1 G:Nat)(w:World)(hP:P<2^256)(hQ:Q1<2^256)(hG:G<2^256)(h1:decide ((10:Int)<=(bitLen Q1:Int))=true)(h2:decide ((0:Int)<cmpI G 1)=true)(B3:Bool)(h3:decide (cmpI G P<(0:Int))=B3):
  Calls Tryz.prog 71 #[.agg (mdC P Q1 G)] w fun e w'=>e= .returned (.bool B3)/\Below w.heap.size w w':=by
 have hle:=fun w'=>nlen_any Q1 w' hQ
 have hof:=fun w'=>nof_any 1 w' (by decide)
 rw[show(1:Int).toNat=1 from rfl]at hof
 have hc1:=fun w'=>ncmp_any G 1 w' hG (by decide)
 have hc2:=fun w'=>ncmp_any G P w' hG hP
 generalize (bitLen Q1:Nat)=BL at*
 generalize cmpI G 1=C1 at*
 generalize cmpI G P=C2 at*
 go_enter Tryz.func71,Tryz.ntmps71
 iterate 2 go_step
 apply wp_region_mixp [] [_,_] trivial List.nodup_nil
 ·intro p;refine mx_box 72 _ rfl _ rfl ?_;simp only[pv];refine mx_val (.bool false) (fun _=>rfl) ?_;simp only[pv];refine mx_end ?_;intro w2 hkw hrw hnew hdis
  have n1:=hnew 0 rfl
  have zr1:Row w2 (p 0) (mdC P Q1 G) 72:=hrw 1 (72,mdC P Q1 G) rfl
  have sb:=k_b hkw
  clear hkw hrw hnew hdis n1
  generalize p 0=g1 at*
  have r1:=zr1
  clear zr1
  iterate 3 go_step
  refine wp_region_qw (by kernel_rfl) (by kernel_rfl) ?_;refine q_v (.pointer (some ⟨g1,4,none⟩)) (exec_field 72 _ 1 rfl g1 0 rfl _ Tryz.underlying72 _ rfl 3 Tryz.sizeOf62) ?_;simp only[pv];refine qw_loadm (by rfl) 62 _ rfl _ (4) rfl r1 (natC Q1) (md_q P Q1 G) _ Tryz.underlying62 rfl size_nat ?_;simp only[pv];refine q_c 87 Tryz.func87 #[.agg (natC Q1)] hle ?_;simp only[pv];refine q_v (.bool true) (exec_geq_i _ _ _ _ rfl BL 10 rfl rfl true h1) ?_;refine q_m ?_;simp only[pv];refine q_v (.pointer (some ⟨g1,8,none⟩)) (exec_field 72 _ 2 rfl g1 0 rfl _ Tryz.underlying72 _ rfl 3 Tryz.sizeOf62) ?_;simp only[pv];refine qw_loadm (by rfl) 62 _ rfl _ (8) rfl r1 (natC G) (md_g P Q1 G) _ Tryz.underlying62 rfl size_nat ?_;simp only[pv];refine q_c 74 Tryz.func74 #[.int .i64 1] hof ?_;simp only[pv];refine q_c 134 Tryz.func134 #[.agg (natC G),.agg (natC 1)] hc1 ?_;simp only[pv];refine q_v (.bool true) (exec_gt_i _ _ _ _ rfl C1 0 rfl rfl true h2) ?_;refine q_p true (.bool true) ?_;refine q_m ?_;simp only[pv];refine q_v (.pointer (some ⟨g1,8,none⟩)) (exec_field 72 _ 2 rfl g1 0 rfl _ Tryz.underlying72 _ rfl 3 Tryz.sizeOf62) ?_;simp only[pv];refine qw_loadm (by rfl) 62 _ rfl _ (8) rfl r1 (natC G) (md_g P Q1 G) _ Tryz.underlying62 rfl size_nat ?_;simp only[pv];refine q_v (.pointer (some ⟨g1,0,none⟩)) (exec_field 72 _ 0 rfl g1 0 rfl _ Tryz.underlying72 _ rfl 3 Tryz.sizeOf62) ?_;simp only[pv];refine qw_loadm (by rfl) 62 _ rfl _ (0) rfl r1 (natC P) (md_p P Q1 G) _ Tryz.underlying62 rfl size_nat ?_;simp only[pv];refine q_c 134 Tryz.func134 #[.agg (natC G),.agg (natC P)] hc2 ?_;simp only[pv];refine q_v (.bool B3) (exec_lt_b _ _ _ _ rfl C2 0 rfl rfl B3 h3) ?_;refine q_p true (.bool B3) ?_;refine q_a ?_;simp only[pv];refine qw_nil ?_;intro w3 hqb;replace sb:=b_o sb hqb;clear hqb
  go_wp2
  go_ret
  exact⟨rfl,sb⟩
 ·rfl
theorem inBounds_any (P Q G:Nat)(w:World)(hP:P<2^256)(hQ:Q<2^256)(hG:G<2^256):
  Calls Tryz.prog 71 #[.agg (mdC P Q G)] w fun e w'=>e= .returned (.bool (inB P Q G))/\Below w.heap.size w w':=by
 unfold inB
 rw[<-len10,<-cmp_pos G 1,<-cmp_neg G P]
 cases h1:decide ((10:Int)<=(bitLen Q:Int))with
 |false=>exact inb1 P Q G w hP hQ hG h1
 |true=>
  cases h2:decide ((0:Int)<cmpI G 1)with
  |false=>exact inb2 P Q G w hP hQ hG h1 h2
  |true=>exact inb3 P Q G w hP hQ hG h1 h2 _ rfl
structure GrpAt (w:World)(g gr gf P Q G:Nat):Prop where
 row:Row w g (gpC P Q G (some ⟨gr,0,none⟩) (some ⟨gf,0,none⟩)) 75
 ring:Row w gr (rgC P (miL P) (oneL P) (sqL P)) 177
 fld:Row w gf (rgC Q (miL Q) (oneL Q) (sqL Q)) 177
theorem GrpAt.below {w w':World}{g gr gf P Q G:Nat}(h:GrpAt w g gr gf P Q G)(hb:Below w.heap.size w w'):GrpAt w' g gr gf P Q G:=⟨h.row.belowAll hb,h.ring.belowAll hb,h.fld.belowAll hb⟩
theorem isP_odd {q:Nat}(h:IsP q)(h2:2<q):q%2=1:=by
 by_cases e:q%2=0
 ·rcases h.2 2 (Nat.dvd_of_mod_eq_zero e)with h|h<;>omega
 ·omega
theorem grN_eq (n:Nat)(N:Nat->Nat)(A:Nat->Int)(G:Nat):grN n N A G=(decide (2<=n)&&(chN n N A&&(inB (N (n-1)) (N (n-2)) G&&decide (G^N (n-2)%N (n-1)=1)))):=by
 unfold grN inB
 have e:decide (1<G)=(decide (G≠0)&&decide (G≠1)):=by
  rw[<-Bool.decide_and]
  exact decide_eq_decide.2 (by omega)
 rw[e]
 simp only[Bool.and_assoc]
theorem new_yes (n c:Nat)(ab:Option Addr)(G:Nat)(N:Nat->Nat)(A:Nat->Int)(gb ob:Nat)(bcs:Array Value)(tb:TypeId)(w:World)(hn:n<9223372036854775808)(h2:2<=n)(hG:G<2^256)(hL:LinksAt w ab n N A gb ob bcs tb)(hc0:chN n N A=true)(hib0:inB (N (n-1)) (N (n-2)) G=true)(hp0:G^N (n-2)%N (n-1)=1):
  Calls Tryz.prog 26 #[.agg (paC ab n c G)] w fun e w'=> ∃g gr gf,e= .returned (.tuple #[.pointer (some ⟨g,0,none⟩),.int .i64 0])/\GrpAt w' g gr gf (N (n-1)) (N (n-2)) G/\Below w.heap.size w w':=by
 have hP:=hL.lt (n-1) (by omega)
 have hQ:=hL.lt (n-2) (by omega)
 have hch:=fun w' (hb:Below w.heap.size w w')=>check_ok n c ab N A gb ob bcs tb w' (hL.below hb) hc0
 have HL:Hid (LinksAt w ab n N A gb ob bcs tb):=hL
 clear hL
 have pP:=chN_isP hc0 (n-1) (by omega)
 have pQ:=chN_isP hc0 (n-2) (by omega)
 have hib1:=hib0
 unfold inB at hib1
 simp only[Bool.and_eq_true,decide_eq_true_iff]at hib1
 have oP:=isP_odd pP (by omega)
 have tP:=pP.1
 have oQ:=isP_odd pQ (by omega)
 have tQ:=pQ.1
 clear hc0 pP pQ hib1
 have hex:=fun w' g (r:Row w' g (rgC (N (n-1)) (miL (N (n-1))) (oneL (N (n-1))) (sqL (N (n-1)))) 177)=>exp_any G (N (n-2)) (N (n-1)) g w' hG hQ hP oP tP r
 have hof:=fun w'=>nof_any 1 w' (by decide)
 rw[show(1:Int).toNat=1 from rfl]at hof
 have hne:=neq_no 1
 rw[hp0]at hex
 clear hp0
 go_enter Tryz.func26,Tryz.ntmps26
 iterate 2 go_step
 apply wp_region_mixp [] [_,_,_] trivial List.nodup_nil
 ·intro p;refine mx_box 64 _ rfl _ rfl ?_;simp only[pv];refine mx_val (.pointer none) (fun _=>rfl) ?_;simp only[pv];refine mx_val (.int .i64 0) (fun _=>rfl) ?_;simp only[pv];refine mx_end ?_;intro w2 hkw hrw hnew hdis
  have n1:=hnew 0 rfl
  have zr1:Row w2 (p 0) (paC ab n c G) 64:=hrw 1 (64,paC ab n c G) rfl
  have sb:=k_b hkw
  clear hkw hrw hnew hdis n1
  generalize p 0=g1 at*
  have r1:=zr1
  clear zr1
  iterate 4 go_step
  refine wp_region_qp ?_;refine q_v (.pointer (some ⟨g1,0,none⟩)) (exec_field 64 _ 0 rfl g1 0 rfl _ Tryz.underlying64 _ rfl 0 Tryz.sizeOf59) ?_;simp only[pv];refine qw_loadc (by rfl) 59 _ rfl _ (0) rfl r1 (.slice ab n c) rfl Tryz.isAgg59 ?_;simp only[pv];refine q_v (.int .i64 n) (n_l ab n c sl_link) ?_;refine q_v (.bool false) (lt_f n 2) ?_;refine q_m ?_;simp only[pv];refine q_v (.pointer (some ⟨g1,0,none⟩)) (exec_field 64 _ 0 rfl g1 0 rfl _ Tryz.underlying64 _ rfl 0 Tryz.sizeOf59) ?_;simp only[pv];refine qw_loadc (by rfl) 59 _ rfl _ (0) rfl r1 (.slice ab n c) rfl Tryz.isAgg59 ?_;simp only[pv];refine q_k 69 Tryz.func69 #[.slice ab n c] (fun w' hb=>hch w' (below_on sb (Nat.le_refl _) hb)) ?_;simp only[pv];refine q_v (.bool false) (exec_neq_k .i64 _ _ _ _ rfl 0 0 rfl rfl false rfl) ?_;refine q_p false (.bool false) ?_;simp only[pv];refine qw_nil ?_;intro w3 hqb;replace r1:=r1.belowAll hqb;replace sb:=b_o sb hqb;clear hqb;clear hch
  have hmd:=fun w' (hb:Below w.heap.size w w')=>madeOf_any n c ab G N A gb ob bcs tb w' h2 hn (HL.out.below hb)
  have hib:=fun w'=>inBounds_any (N (n-1)) (N (n-2)) G w' hP hQ hG
  rw[hib0]at hib
  clear hib0
  generalize hPP:N (n-1)=PP at*
  generalize hQQ:N (n-2)=QQ at*
  iterate 7 go_step
  refine rp ?_;refine pw_loadm (by rfl) 64 _ rfl _ 0 rfl r1.r _ (part_all _) _ Tryz.underlying64 rfl size_pa ?_;simp only[pv];refine p_c 70 Tryz.func70 #[.agg (paC ab n c G)] (hmd _ sb) ?_;intro z3001 k;simp only[pv];replace r1:=k.ro r1;replace sb:=kk sb k;clear k;refine pw_new (by rfl) 72 rfl _ zero_md ?_;intro g4 z3002 n0 r4 k;simp only[pv]
  have d1x4:=l_l r1.lt n0
  have b4:=Nat.le_trans sb.size n0
  clear n0;replace r1:=k.ro r1;replace sb:=kk sb k;clear k;refine pw_put (by rfl) 72 _ _ rfl _ rfl r4 (mdC PP QQ G) rfl (by exact size_md) (by rfl) (md_one _ _ _) ?_;clear r4;intro z3003 r4 k;simp only[Act.put];replace r1:=k.ro r1;replace sb:=kk sb k;clear k;refine pw_nil ?_;clear hmd
  iterate 4 go_step
  refine rp ?_;refine pw_loadm (by rfl) 72 _ rfl _ 0 rfl r4.r _ (part_all _) _ Tryz.underlying72 rfl size_md ?_;simp only[pv];refine p_c 71 Tryz.func71 #[.agg (mdC PP QQ G)] (hib _) ?_;intro z4001 k;simp only[pv];replace r4:=k.ro r4;replace sb:=kk sb k;clear k;refine p_v (.bool false) (exec_not _ _ rfl true rfl) (pw_nil ?_);simp only[pv];clear hib
  iterate 7 go_step
  refine rp ?_;refine p_v (.pointer (some ⟨g4,0,none⟩)) (exec_field 72 _ 0 rfl g4 0 rfl _ Tryz.underlying72 _ rfl 3 Tryz.sizeOf62) ?_;simp only[pv];refine pw_loadm (by rfl) 62 _ rfl _ (0) rfl r4.r (natC PP) (md_p PP QQ G) _ Tryz.underlying62 rfl size_nat ?_;simp only[pv];refine p_f 72 Tryz.func72 #[.agg (natC PP)] (new_any PP _ oP tP hP) ?_
  rintro _ z6002 ⟨gR,rfl,nR,rR,hb⟩
  refine⟨_,rfl,?_⟩
  simp only[pv];clear nR
  have k:=Kept.ofBelow hb
  clear hb;replace r4:=k.ro r4;replace sb:=kk sb k;clear k;refine p_m ?_;refine p_e ?_;refine p_e ?_;refine p_a ?_;refine p_a (pw_nil ?_);simp only[pv]
  iterate 3 go_step
  refine rp ?_;refine p_v (.pointer (some ⟨g4,4,none⟩)) (exec_field 72 _ 1 rfl g4 0 rfl _ Tryz.underlying72 _ rfl 3 Tryz.sizeOf62) ?_;simp only[pv];refine pw_loadm (by rfl) 62 _ rfl _ (4) rfl r4.r (natC QQ) (md_q PP QQ G) _ Tryz.underlying62 rfl size_nat ?_;simp only[pv];refine p_f 72 Tryz.func72 #[.agg (natC QQ)] (new_any QQ _ oQ tQ hQ) ?_
  rintro _ z7002 ⟨gF,rfl,nF,rF,hb⟩
  refine⟨_,rfl,?_⟩
  simp only[pv];clear nF
  have k:=Kept.ofBelow hb
  clear hb;replace r4:=k.ro r4;replace rR:=k.ro rR;replace sb:=kk sb k;clear k;refine p_m ?_;refine p_e ?_;refine p_e ?_;refine p_a ?_;refine p_a (pw_nil ?_);simp only[pv]
  iterate 4 go_step
  refine rp ?_;refine p_m ?_;simp only[pv];refine p_v (.pointer (some ⟨g4,8,none⟩)) (exec_field 72 _ 2 rfl g4 0 rfl _ Tryz.underlying72 _ rfl 3 Tryz.sizeOf62) ?_;simp only[pv];refine pw_loadm (by rfl) 62 _ rfl _ (8) rfl r4.r (natC G) (md_g PP QQ G) _ Tryz.underlying62 rfl size_nat ?_;simp only[pv];refine p_v (.pointer (some ⟨g4,4,none⟩)) (exec_field 72 _ 1 rfl g4 0 rfl _ Tryz.underlying72 _ rfl 3 Tryz.sizeOf62) ?_;simp only[pv];refine pw_loadm (by rfl) 62 _ rfl _ (4) rfl r4.r (natC QQ) (md_q PP QQ G) _ Tryz.underlying62 rfl size_nat ?_;simp only[pv];refine p_c 73 Tryz.func73 #[.pointer (some ⟨gR,0,none⟩),.agg (natC G),.agg (natC QQ)] (hex _ gR rR) ?_;intro z8005 k;simp only[pv];replace r4:=k.ro r4;replace rR:=k.ro rR;replace rF:=k.ro rF;replace sb:=kk sb k;clear k;refine p_c 74 Tryz.func74 #[.int .i64 1] (hof _) ?_;intro z8006 k;simp only[pv];replace r4:=k.ro r4;replace rR:=k.ro rR;replace rF:=k.ro rF;replace sb:=kk sb k;clear k;refine p_v (.bool false) (fun w'=>(exec_neq_nat _ _ _ rfl 1 1 rfl rfl w').trans (by rw[hne])) (pw_nil ?_);simp only[pv];clear hex hof hne
  iterate 7 go_step
  refine rp ?_;refine pw_loadm (by rfl) 72 _ rfl _ 0 rfl r4.r _ (part_all _) _ Tryz.underlying72 rfl size_md ?_;refine p_m ?_;refine p_m ?_;simp only[pv];refine p_v (.agg (gpC PP QQ G (some ⟨gR,0,none⟩) (some ⟨gF,0,none⟩))) (exec_buildv _ _ rfl [(0,.agg (mdC PP QQ G)),(1,.pointer (some ⟨gR,0,none⟩)),(2,.pointer (some ⟨gF,0,none⟩))] rfl _ (built_gp PP QQ G _ _)) ?_;simp only[pv];refine pw_boxr (by rfl) 75 _ rfl (gpC PP QQ G (some ⟨gR,0,none⟩) (some ⟨gF,0,none⟩)) rfl ?_;intro g48 z10004 n0 r48 k;simp only[pv];clear n0;replace r4:=k.ro r4;replace rR:=k.ro rR;replace rF:=k.ro rF;replace sb:=kk sb k;clear k;refine p_a ?_;refine p_v (.int .i64 0) (fun _=>rfl) (pw_nil ?_);simp only[pv]
  go_wp2
  go_ret2
  subst hPP hQQ
  exact⟨g48,gR,gF,rfl,⟨r48,rR,rF⟩,sb⟩
 ·rfl
theorem gnew_yes (n c:Nat)(ab:Option Addr)(G:Nat)(N:Nat->Nat)(A:Nat->Int)(gb ob:Nat)(bcs:Array Value)(tb:TypeId)(w:World)(hn:n<9223372036854775808)(hG:G<2^256)(hL:LinksAt w ab n N A gb ob bcs tb)(h:grN n N A G=true):
  Calls Tryz.prog 26 #[.agg (paC ab n c G)] w fun e w'=> ∃g gr gf,e= .returned (.tuple #[.pointer (some ⟨g,0,none⟩),.int .i64 0])/\GrpAt w' g gr gf (N (n-1)) (N (n-2)) G/\Below w.heap.size w w':=by
 rw[grN_eq,Bool.and_eq_true,Bool.and_eq_true,Bool.and_eq_true,decide_eq_true_iff,decide_eq_true_iff]at h
 exact new_yes n c ab G N A gb ob bcs tb w hn h.1 hG hL h.2.1 h.2.2.1 h.2.2.2
end Go.Proofs.YtijgjbbihgjkmaaGreatDoor
