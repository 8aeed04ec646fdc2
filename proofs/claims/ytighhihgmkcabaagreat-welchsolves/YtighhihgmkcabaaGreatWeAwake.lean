import Derived.Test.YtighhihgmkcabaaGreatWeDcd
set_option maxRecDepth 100000
set_option maxHeartbeats 2000000
namespace Go.Proofs.YtighhihgmkcabaaGreat
open Go.RowKit
set_option linter.unusedVariables false
theorem of15_any (n:Nat)(w:World)(h:(n:Int)<9223372036854775808):
  Calls Tryz.prog 13 #[.int .i64 n] w fun e w'=>e= .returned (.agg (natC n))/\Below w.heap.size w w':=by
 have hin:=fun w'=>rint_any (n:Int) w' h
 rw[Int.toNat_natCast]at hin
 clear h
 go_enter Tryz.func13,Tryz.ntmps13
 iterate 2 go_step
 refine rp ?_;refine pw_new (by rfl) 43 rfl _ zero_nat ?_;intro g2 z0 n0 r2 k;simp only[pv]
 have b2:w.heap.size<=g2:=n0
 clear n0
 have sb:=k_b k
 clear k;refine pw_nil ?_
 iterate 3 go_step
 refine rp ?_;refine p_m ?_;simp only[pv];refine p_c 29 Tryz.func29 #[.int .i64 n] (hin _) ?_;intro z1001 k;simp only[pv];replace r2:=k.ro r2;replace sb:=kk sb k;clear k;refine p_p r2 n ?_;clear r2;intro z1002 r2 k;simp only[Act.put];replace sb:=kk sb k;clear k;refine pw_nil ?_
 go_wp2
 exact ret_row rfl _ rfl r2 4 _ Tryz.underlying43 (by exact size_nat) rfl ⟨rfl,sb⟩
theorem sml15_core (a0:Int)(GG PP QQ:Nat)(LK:Array Value)(w:World)
  (hpk: ∀w',Calls Tryz.prog 16 #[.int .i64 a0] w' fun e w2=> ∃g,e= .returned (.agg (paC (some ⟨g,0,none⟩) 3 3 GG))/\w'.heap.size<=g/\Row w2 g LK 84/\Below w'.heap.size w' w2)
  (hnw: ∀w' x,Row w' x LK 84->Calls Tryz.prog 17 #[.agg (paC (some ⟨x,0,none⟩) 3 3 GG)] w' fun e w2=> ∃g gr gf,e= .returned (.tuple #[.pointer (some ⟨g,0,none⟩),.int .i64 0])/\GrpAt w2 g gr gf PP QQ GG/\Below w'.heap.size w' w2)
  (hrq: ∀w' x,Row w' x LK 84->Calls Tryz.prog 19 #[.agg (paC (some ⟨x,0,none⟩) 3 3 GG)] w' (Rt (.agg (natC QQ)) w'))
  (hlo: ∀w',Calls Tryz.prog 18 #[.agg (natC QQ)] w' (Rt (.tuple #[.int .i64 (QQ:Nat),.bool true]) w')):
  Calls Tryz.prog 5 #[.int .i64 a0] w fun e w'=> ∃g gr gf,e= .returned (.tuple #[.pointer (some ⟨g,0,none⟩),.int .i64 (QQ:Nat),.bool true])/\GrpAt w' g gr gf (PP) (QQ) (GG)/\Below w.heap.size w w':=by
 go_enter Tryz.func5,Tryz.ntmps5
 have sb:=sbmk w
 iterate 2 go_step
 refine rp ?_;refine p_v (.pointer none) (fun _=>rfl) ?_;refine p_v (.int .i64 0) (fun _=>rfl) ?_;refine p_v (.bool false) (fun _=>rfl) (pw_nil ?_);simp only[pv]
 iterate 3 go_step
 refine rp ?_;refine p_m ?_;simp only[pv];refine p_f 16 Tryz.func16 #[.int .i64 a0] (hpk _) ?_
 rintro _ z1001 ⟨gL,rfl,nL,rL,hb⟩
 refine⟨_,rfl,?_⟩
 simp only[pv];clear nL
 have k:=Kept.ofBelow hb
 clear hb;replace sb:=kk sb k;clear k;refine pw_new (by rfl) 52 rfl _ zero_pa ?_;intro g5 z1002 n0 r5 k;simp only[pv]
 have dLx5:=l_l rL.lt n0
 have b5:=Nat.le_trans sb.size n0
 clear n0;replace rL:=k.ro rL;replace sb:=kk sb k;clear k;refine pw_put (by rfl) 52 _ _ rfl _ rfl r5 (paC (some ⟨gL,0,none⟩) 3 3 GG) rfl (by exact size_pa) (by rfl) (pa_one _ _ _ _) ?_;clear r5;intro z1003 r5 k;simp only[Act.put];replace rL:=k.ro rL;replace sb:=kk sb k;clear k;refine pw_nil ?_
 iterate 3 go_step
 refine rp ?_;refine pw_loadm (by rfl) 52 _ rfl _ 0 rfl r5.r _ (part_all _) _ Tryz.underlying52 rfl size_pa ?_;simp only[pv];refine p_f 17 Tryz.func17 #[.agg (paC (some ⟨gL,0,none⟩) 3 3 GG)] (hnw _ gL rL) ?_
 rintro _ z2001 ⟨g,gr,gf,rfl,hg,hb⟩
 refine⟨_,rfl,?_⟩
 simp only[pv]
 have k:=Kept.ofBelow hb
 clear hb;replace r5:=k.ro r5;replace rL:=k.ro rL;replace sb:=kk sb k;clear k;refine p_m ?_;refine p_e ?_;refine p_e ?_;refine p_a ?_;refine p_a (pw_nil ?_);simp only[pv]
 iterate 3 go_step
 refine rp ?_;refine pw_loadm (by rfl) 52 _ rfl _ 0 rfl r5.r _ (part_all _) _ Tryz.underlying52 rfl size_pa ?_;simp only[pv];refine p_c 19 Tryz.func19 #[.agg (paC (some ⟨gL,0,none⟩) 3 3 GG)] (hrq _ gL rL) ?_;intro z3001 k;simp only[pv];replace r5:=k.ro r5;replace rL:=k.ro rL;replace hg:=hg.below k.nil;replace sb:=kk sb k;clear k;refine p_c 18 Tryz.func18 #[.agg (natC QQ)] (hlo _) ?_;intro z3002 k;simp only[pv];replace r5:=k.ro r5;replace rL:=k.ro rL;replace hg:=hg.below k.nil;replace sb:=kk sb k;clear k;refine p_m ?_;refine p_e ?_;refine p_e ?_;refine p_a ?_;refine p_a (pw_nil ?_);simp only[pv]
 iterate 3 go_step
 refine rp ?_;refine p_m ?_;refine p_m ?_;refine p_m ?_;simp only[pv];refine p_v (.bool true) (exec_eql_k .i64 _ _ _ _ rfl 0 0 rfl rfl true rfl) ?_;refine p_a ?_;refine p_a ?_;refine p_a (pw_nil ?_);simp only[pv]
 go_wp2
 go_ret3
 exact⟨g,gr,gf,rfl,hg,sb⟩
theorem sml15_any (a0:Int)(w:World):
  Calls Tryz.prog 5 #[.int .i64 a0] w fun e w'=> ∃g gr gf,e= .returned (.tuple #[.pointer (some ⟨g,0,none⟩),.int .i64 (smQ a0:Nat),.bool true])/\GrpAt w' g gr gf (smP a0) (smQ a0) (smG a0)/\Below w.heap.size w w':=by
 obtain⟨his,hlt,hG,hq62⟩:=pk2_gr (pkB a0)
 have q:=(sm_fd a0).1
 have h62:=(sm_fd a0).2
 refine sml15_core a0 (smG a0) (smP a0) (smQ a0) (lksC 3 (lN (pk2 (pkB a0) otL leL)) twoA) w (rpick_any a0) (fun w' x r=>gnew_yes 3 3 (some ⟨x,0,none⟩) (pk2 (pkB a0) otG leG) _ _ x 0 _ _ w' (by decide) hG (lks_links r hlt) his) (fun w' x r=>rQ_any 3 3 (some ⟨x,0,none⟩) (pk2 (pkB a0) otG leG) _ _ x 0 _ _ w' (by decide) (by decide) (lks_links r hlt)) (fun w'=>?_)
 have:=rlow_any (smQ a0) w' q.m
 rw[show lowI (smQ a0)=((smQ a0:Nat):Int)from if_pos (by omega),show lowB (smQ a0)=true from decide_eq_true (by omega)]at this
 exact this
theorem same_wl (va vb:Value)(l:List Nat)(w:World)(hl:l.length<=4000)(h1:WlAt w va l)(h2:WlAt w vb l):
  Calls Tryz.prog 14 #[va,vb] w fun e w'=>e= .returned (.bool true)/\Below w.heap.size w w':=by
 obtain⟨ab,m,c,u,gb,ob,bcs,tb,rfl,e1,hna⟩:=h1
 obtain⟨ae,m2,ce,u2,ge,oe,ecs,te,rfl,e2,hnb⟩:=h2
 have hm:m=m2:=by
  have:=congrArg List.length (e1.symm.trans e2)
  simpa using this
 subst hm
 have hm4:m<=4000:=by
  rw[e1]at hl
  simpa using hl
 have hu: ∀i,i<m->u2 i=u i:=fun i hi=>by
  have:=congrArg (fun x=>x[i]?) (e2.symm.trans e1)
  simpa[hi]using this
 exact rsameI m c ce ab ae u gb ob ge oe bcs ecs tb te w (by omega) hna (hnb.congr hu)
def aw5:List (Fin 1966023127):=[fi 5,fi 2]
def q4 (k:Nat):Nat:=if k=0 then 7 else if k=1 then 99 else if k=2 then 11 else 13
def sh4 (k:Nat):Array Value:=shC ((k+1:Nat):Int) (q4 k)
theorem lit_sh4 (k:Nat)(hk:k=5):Instr.fill (fun i=>some (i*k,k)) ((Array.range (4*k)).map ((Value.agg #[.int .i64 0,.int .u64 0,.int .u64 0,.int .u64 0,.int .u64 0]).cells[· %(Value.agg #[.int .i64 0,.int .u64 0,.int .u64 0,.int .u64 0,.int .u64 0]).cells.size]!)) [(0,.agg (shC 1 7)),(1,.agg (shC 2 99)),(2,.agg (shC 3 11)),(3,.agg (shC 4 13))]=some (esC 5 4 sh4):=by
 subst hk
 kernel_rfl
theorem lit_s2 (a b:Option Addr)(n1 c1 n2 c2 k:Nat)(hk:k=1):Instr.fill (fun i=>some (i*k,k)) ((Array.range (2*k)).map ((Value.slice none 0 0).cells[· %(Value.slice none 0 0).cells.size]!)) [(0,.slice a n1 c1),(1,.slice b n2 c2)]=some #[.slice a n1 c1,.slice b n2 c2]:=by
 subst hk
 kernel_rfl
theorem q4_lt (k:Nat):q4 k<2^256:=by
 unfold q4
 repeat' split
 all_goals decide
theorem aw5_w:wlL (fun i=>i+1) (wrB (fun i=>i+1) q4 aw5) 4=[2]:=by decide+kernel
theorem aw5_t:ptrim aw5=aw5:=by decide+kernel
theorem aw5_a:apB 1 (fun k=>(((fun i=>i+1) k:Nat):Int)) 4=true:=by decide
theorem aw5_d (i j:Nat)(hi:i<4)(hj:j<4)(h:i≠j):(fi (i+1):Fin 1966023127)≠fi (j+1):=fun e=>by
 have:=fi_inj e (by omega) (by omega)
 omega
def eA (i:Nat):Nat->Nat:=if i=0 then two2 1 1 else two2 1 2
theorem eq_1:Sol (mxJ eA (two2 3 5) 2:Mx 1966023127) 2 2 (fun k=>if k=0 then 1 else 2):=fun i hi=>by
 have h:i=0∨i=1:=by omega
 rcases h with rfl|rfl<;>decide+kernel
theorem eq_only (X:Nat->Fin 1966023127)(h:Sol (mxJ eA (two2 3 5) 2:Mx 1966023127) 2 2 X):X 0=1/\X 1=2:=by
 have h0:(0+(mxJ eA (two2 3 5) 2:Mx 1966023127) 0 0*X 0)+(mxJ eA (two2 3 5) 2:Mx 1966023127) 0 1*X 1=(mxJ eA (two2 3 5) 2:Mx 1966023127) 0 2:=h 0 (by decide)
 have h1:(0+(mxJ eA (two2 3 5) 2:Mx 1966023127) 1 0*X 0)+(mxJ eA (two2 3 5) 2:Mx 1966023127) 1 1*X 1=(mxJ eA (two2 3 5) 2:Mx 1966023127) 1 2:=h 1 (by decide)
 rw[show(mxJ eA (two2 3 5) 2:Mx 1966023127) 0 0=1 by decide+kernel,show(mxJ eA (two2 3 5) 2:Mx 1966023127) 0 1=1 by decide+kernel,show(mxJ eA (two2 3 5) 2:Mx 1966023127) 0 2=3 by decide+kernel]at h0
 rw[show(mxJ eA (two2 3 5) 2:Mx 1966023127) 1 0=1 by decide+kernel,show(mxJ eA (two2 3 5) 2:Mx 1966023127) 1 1=2 by decide+kernel,show(mxJ eA (two2 3 5) 2:Mx 1966023127) 1 2=5 by decide+kernel]at h1
 generalize X 0=a at*
 generalize X 1=b at*
 constructor<;>grind
def aw12:List (Fin 1966023127):=[fi 1,fi 2]
theorem awake15_any (w:World):
  Calls Tryz.prog 4 #[] w fun e w'=>e= .returned (.bool true)/\Below w.heap.size w w':=by
 obtain⟨ie,hie,hz,hsz,_⟩:=info_nat'
 obtain⟨ip,hip,hzp,hszp,_⟩:=info_shb
 obtain⟨iei,hiei,hzi,hszi,_⟩:=info_int'
 obtain⟨is',his,hzs,hszs,hbys⟩:=info_sly
 have h21: ¬2*ie.size>2^24:=by rw[hsz];decide
 have h22: ¬2*ie.size=0:=by rw[hsz];decide
 have h41: ¬4*ip.size>2^24:=by rw[hszp];decide
 have h42: ¬4*ip.size=0:=by rw[hszp];decide
 have hi1: ¬1*iei.size>2^24:=by rw[hszi];decide
 have hi2: ¬1*iei.size=0:=by rw[hszi];decide
 have hs1: ¬2*is'.size>2^24:=by rw[hszs];decide
 have hs2: ¬2*is'.size=0:=by rw[hszs];decide
 have hl2:=fun A B=>lit_two A B ie.size hsz
 have hl4:=lit_sh4 ip.size hszp
 have hli:=fun a=>lit_i1 a iei.size hszi
 have hls:=fun a b=>lit_s2 a b 2 2 2 2 is'.size hszs
 have hsm:=fun w'=>sml15_any 0 w'
 rw[sm_0.1]at hsm
 have hsc: ∀i,(sh4 i).size=5:=fun i=>rfl
 have hde: ∀w' g gr gf,GrpAt w' g gr gf (smP 0) 1966023127 (smG 0)-> ∀gV,Row w' gV (esC 5 4 sh4) 46->Calls Tryz.prog 12 #[.pointer (some ⟨g,0,none⟩),.int .i64 1,.slice (some ⟨gV,0,none⟩) 4 4] w' fun e w2=> ∃vf vb,e= .returned (.tuple #[vf,vb,.int .i64 0])/\PlAt w2 vf aw5/\WlAt w2 vb [2]/\Below w'.heap.size w' w2:=fun w' g gr gf hg gV rV=>by
  have:=dec_any 4 4 1 (some ⟨gV,0,none⟩) (fun i=>i+1) q4 gV 0 _ _ le_fd12 (by decide) (by decide) (by decide) (fun k hk=>by show k+1<1000;omega) (fun k _=>q4_lt k) (fun i j h _=>by show i+1<j+1;omega) aw5_d aw5_a (els_row hsc rV) hg aw5 (by decide) (by rw[aw5_w];decide)
  rw[aw5_w,aw5_t]at this
  exact this
 have hso: ∀w' g gr gf,GrpAt w' g gr gf (smP 0) 1966023127 (smG 0)-> ∀gA gB gC gD,Row w' gA (natC 1++natC 1) 43->Row w' gB (natC 1++natC 2) 43->Row w' gC #[.slice (some ⟨gA,0,none⟩) 2 2,.slice (some ⟨gB,0,none⟩) 2 2] 23->Row w' gD (natC 3++natC 5) 43->Calls Tryz.prog 6 #[.pointer (some ⟨g,0,none⟩),.slice (some ⟨gC,0,none⟩) 2 2,.slice (some ⟨gD,0,none⟩) 2 2] w' fun e w2=> ∃v,e= .returned (.tuple #[v,.int .i64 0])/\PlAt w2 v aw12/\Below w'.heap.size w' w2:=fun w' g gr gf hg gA gB gC gD rA rB rC rD=>by
  refine(solve_any (some ⟨gC,0,none⟩) (some ⟨gD,0,none⟩) 2 2 2 2 (fun i=>if i=0 then .slice (some ⟨gA,0,none⟩) 2 2 else .slice (some ⟨gB,0,none⟩) 2 2) eA (two2 3 5) gC 0 _ _ gD 0 _ _ le_fd12 (by decide) (by decide) (by decide) (by decide) ⟨.inr ⟨rfl,rC.r,fun i hi=>by
   have h:i=0∨i=1:=by omega
   rcases h with rfl|rfl<;>rfl⟩⟩ (fun i hi=>by
   have h:i=0∨i=1:=by omega
   rcases h with rfl|rfl
   ·exact⟨_,_,gA,0,_,_,rfl,nats_two rA (by decide) (by decide)⟩
   ·exact⟨_,_,gB,0,_,_,rfl,nats_two rB (by decide) (by decide)⟩) (nats_two rD (by decide) (by decide)) hg).mono ?_
  rintro e w2 ⟨v,z,rfl,hR,hb⟩
  rcases hR with ⟨_,_,hno⟩|⟨rfl,gX,X,rfl,_,rX,hX⟩
  ·exact absurd ⟨_,eq_1⟩ hno
  obtain⟨x0,x1⟩:=eq_only X hX
  refine⟨_,rfl,⟨_,_,gX,0,_,_,rfl,(nats_row rX (fun i _=>Nat.lt_trans (Fin.isLt _) (by decide))).congr fun i hi=>?_⟩,hb⟩
  have h:i=0∨i=1:=by
   have:i<2:=hi
   omega
  rcases h with rfl|rfl
  ·rw[x0];decide+kernel
  ·rw[x1];decide+kernel
 have hs5:=fun w' (v:Value) gW (hv:PlAt w' v aw5) (r:Row w' gW (natC 5++natC 2) 43)=>same_pl v aw5 2 2 (some ⟨gW,0,none⟩) (two2 5 2) gW 0 _ _ w' rfl (by decide) hv (nats_two r (by decide) (by decide)) (fun i hi=>by
  have h:i=0∨i=1:=by omega
  rcases h with rfl|rfl<;>decide+kernel)
 have hs12:=fun w' (v:Value) gW (hv:PlAt w' v aw12) (r:Row w' gW (natC 1++natC 2) 43)=>same_pl v aw12 2 2 (some ⟨gW,0,none⟩) (two2 1 2) gW 0 _ _ w' rfl (by decide) hv (nats_two r (by decide) (by decide)) (fun i hi=>by
  have h:i=0∨i=1:=by omega
  rcases h with rfl|rfl<;>decide+kernel)
 have hsw:=fun w' (v:Value) gI (hv:WlAt w' v [2]) (r:Row w' gI #[.int .i64 (2:Nat)] 3)=>same_wl v (.slice (some ⟨gI,0,none⟩) 1 1) [2] w' (by decide) hv ⟨_,1,1,fun _=>2,gI,0,_,_,rfl,rfl,⟨.inr ⟨rfl,r.r,fun i (hi:i<1)=>(show _=_ from by rw[show i=0 by omega];rfl)⟩⟩⟩
 have hle: ∀w',Calls Tryz.prog 15 #[.int .i64 1,.int .i64 4] w' fun e w2=>e= .returned (.int .i64 1)/\Below w'.heap.size w' w2:=fun w'=>lies_any 1 4 w' (by decide) (by decide)
 have o1:=fun w'=>of15_any 1 w' (by decide)
 have o2:=fun w'=>of15_any 2 w' (by decide)
 have o3:=fun w'=>of15_any 3 w' (by decide)
 have o5:=fun w'=>of15_any 5 w' (by decide)
 have o7:=fun w'=>of15_any 7 w' (by decide)
 have o11:=fun w'=>of15_any 11 w' (by decide)
 have o13:=fun w'=>of15_any 13 w' (by decide)
 have o99:=fun w'=>of15_any 99 w' (by decide)
 clear hsz hszp hszi hszs hbys
 generalize smP 0=PP at*
 generalize smG 0=GG at*
 go_enter Tryz.func4,Tryz.ntmps4
 have sb:=sbmk w
 iterate 2 go_step
 refine rp ?_;refine p_v (.bool false) (fun _=>rfl) ?_;simp only[Act.put,List.setIfInBounds_toArray,List.set_cons_zero];refine pw_nil ?_
 iterate 3 go_step
 refine rp ?_;refine p_f 5 Tryz.func5 #[.int .i64 0] (hsm _) ?_
 rintro _ z1000 ⟨g,gr,gf,rfl,hg,hb⟩
 refine⟨_,rfl,?_⟩
 simp only[pv]
 have k:=Kept.ofBelow hb
 clear hb;replace sb:=kk sb k;clear k;refine p_m ?_;refine p_e ?_;refine p_e ?_;refine p_e ?_;refine p_a ?_;simp only[pv];refine p_a ?_;refine p_a (pw_nil ?_);simp only[pv];clear hsm
 iterate 3 go_step
 refine rp ?_;refine p_m ?_;simp only[pv];refine p_c 13 Tryz.func13 #[.int .i64 7] (o7 _) ?_;intro z2001 k;simp only[pv];replace hg:=hg.below k.nil;replace sb:=kk sb k;clear k;refine p_v (.agg (shC 1 7)) (exec_buildv _ [(0,.const (.int .i64 1)),(1,.tmp 16)] rfl [(0,.int .i64 1),(1,.agg (natC 7))] rfl (shC 1 7) (built_sh _ _)) ?_;simp only[pv];refine p_c 13 Tryz.func13 #[.int .i64 99] (o99 _) ?_;intro z2003 k;simp only[pv];replace hg:=hg.below k.nil;replace sb:=kk sb k;clear k;refine p_v (.agg (shC 2 99)) (exec_buildv _ [(0,.const (.int .i64 2)),(1,.tmp 18)] rfl [(0,.int .i64 2),(1,.agg (natC 99))] rfl (shC 2 99) (built_sh _ _)) ?_;simp only[pv];refine p_c 13 Tryz.func13 #[.int .i64 11] (o11 _) ?_;intro z2005 k;simp only[pv];replace hg:=hg.below k.nil;replace sb:=kk sb k;clear k;refine p_v (.agg (shC 3 11)) (exec_buildv _ [(0,.const (.int .i64 3)),(1,.tmp 20)] rfl [(0,.int .i64 3),(1,.agg (natC 11))] rfl (shC 3 11) (built_sh _ _)) ?_;simp only[pv];refine p_c 13 Tryz.func13 #[.int .i64 13] (o13 _) ?_;intro z2007 k;simp only[pv];replace hg:=hg.below k.nil;replace sb:=kk sb k;clear k;refine p_v (.agg (shC 4 13)) (exec_buildv _ [(0,.const (.int .i64 4)),(1,.tmp 22)] rfl [(0,.int .i64 4),(1,.agg (natC 13))] rfl (shC 4 13) (built_sh _ _)) ?_;simp only[pv];refine pw_litr (by rfl) 47 46 4 _ rfl (esC 5 4 sh4) ip _ Tryz.underlying47 hip hzp h41 h42 [(0,.agg (shC 1 7)),(1,.agg (shC 2 99)),(2,.agg (shC 3 11)),(3,.agg (shC 4 13))] rfl hl4 ?_;intro gV z2009 n0 rV k;simp only[pv];clear n0;replace hg:=hg.below k.nil;replace sb:=kk sb k;clear k;refine p_f 12 Tryz.func12 #[.pointer (some ⟨g,0,none⟩),.int .i64 1,.slice (some ⟨gV,0,none⟩) 4 4] (hde _ g gr gf hg gV rV) ?_
 rintro _ z2010 ⟨vf,vb,rfl,hf,hW,hb⟩
 refine⟨_,rfl,?_⟩
 simp only[pv]
 have k:=Kept.ofBelow hb
 clear hb;replace hg:=hg.below k.nil;replace rV:=k.ro rV;replace sb:=kk sb k;clear k;refine p_m ?_;refine p_e ?_;refine p_e ?_;refine p_e ?_;refine p_a ?_;simp only[pv];refine p_a ?_;refine p_a (pw_nil ?_);simp only[pv];clear hde rV hl4
 iterate 3 go_step
 refine rp ?_;refine p_m ?_;simp only[pv];refine p_c 13 Tryz.func13 #[.int .i64 1] (o1 _) ?_;intro z3001 k;simp only[pv];replace hg:=hg.below k.nil;replace hf:=hf.below k.nil;replace hW:=hW.below k.nil;replace sb:=kk sb k;clear k;refine p_c 13 Tryz.func13 #[.int .i64 1] (o1 _) ?_;intro z3002 k;simp only[pv];replace hg:=hg.below k.nil;replace hf:=hf.below k.nil;replace hW:=hW.below k.nil;replace sb:=kk sb k;clear k;refine pw_litr (by rfl) 23 43 2 _ rfl (natC 1++natC 1) ie _ Tryz.underlying23 hie hz h21 h22 [(0,.agg (natC 1)),(1,.agg (natC 1))] rfl (hl2 1 1) ?_;intro gA z3003 n0 rA k;simp only[pv];clear n0;replace hg:=hg.below k.nil;replace hf:=hf.below k.nil;replace hW:=hW.below k.nil;replace sb:=kk sb k;clear k;refine p_c 13 Tryz.func13 #[.int .i64 1] (o1 _) ?_;intro z3004 k;simp only[pv];replace hg:=hg.below k.nil;replace hf:=hf.below k.nil;replace hW:=hW.below k.nil;replace rA:=k.ro rA;replace sb:=kk sb k;clear k;refine p_c 13 Tryz.func13 #[.int .i64 2] (o2 _) ?_;intro z3005 k;simp only[pv];replace hg:=hg.below k.nil;replace hf:=hf.below k.nil;replace hW:=hW.below k.nil;replace rA:=k.ro rA;replace sb:=kk sb k;clear k;refine pw_litr (by rfl) 23 43 2 _ rfl (natC 1++natC 2) ie _ Tryz.underlying23 hie hz h21 h22 [(0,.agg (natC 1)),(1,.agg (natC 2))] rfl (hl2 1 2) ?_;intro gB z3006 n0 rB k;simp only[pv];clear n0;replace hg:=hg.below k.nil;replace hf:=hf.below k.nil;replace hW:=hW.below k.nil;replace rA:=k.ro rA;replace sb:=kk sb k;clear k;refine pw_litr (by rfl) 22 23 2 _ rfl (#[.slice (some ⟨gA,0,none⟩) 2 2,.slice (some ⟨gB,0,none⟩) 2 2]) is' _ Tryz.underlying22 his hzs hs1 hs2 [(0,.slice (some ⟨gA,0,none⟩) 2 2),(1,.slice (some ⟨gB,0,none⟩) 2 2)] rfl (hls _ _) ?_;intro gC z3007 n0 rC k;simp only[pv];clear n0;replace hg:=hg.below k.nil;replace hf:=hf.below k.nil;replace hW:=hW.below k.nil;replace rA:=k.ro rA;replace rB:=k.ro rB;replace sb:=kk sb k;clear k;refine p_c 13 Tryz.func13 #[.int .i64 3] (o3 _) ?_;intro z3008 k;simp only[pv];replace hg:=hg.below k.nil;replace hf:=hf.below k.nil;replace hW:=hW.below k.nil;replace rA:=k.ro rA;replace rB:=k.ro rB;replace rC:=k.ro rC;replace sb:=kk sb k;clear k;refine p_c 13 Tryz.func13 #[.int .i64 5] (o5 _) ?_;intro z3009 k;simp only[pv];replace hg:=hg.below k.nil;replace hf:=hf.below k.nil;replace hW:=hW.below k.nil;replace rA:=k.ro rA;replace rB:=k.ro rB;replace rC:=k.ro rC;replace sb:=kk sb k;clear k;refine pw_litr (by rfl) 23 43 2 _ rfl (natC 3++natC 5) ie _ Tryz.underlying23 hie hz h21 h22 [(0,.agg (natC 3)),(1,.agg (natC 5))] rfl (hl2 3 5) ?_;intro gD z3010 n0 rD k;simp only[pv];clear n0;replace hg:=hg.below k.nil;replace hf:=hf.below k.nil;replace hW:=hW.below k.nil;replace rA:=k.ro rA;replace rB:=k.ro rB;replace rC:=k.ro rC;replace sb:=kk sb k;clear k;refine p_f 6 Tryz.func6 #[.pointer (some ⟨g,0,none⟩),.slice (some ⟨gC,0,none⟩) 2 2,.slice (some ⟨gD,0,none⟩) 2 2] (hso _ g gr gf hg gA gB gC gD rA rB rC rD) ?_
 rintro _ z3011 ⟨vx,rfl,hx,hb⟩
 refine⟨_,rfl,?_⟩
 simp only[pv]
 have k:=Kept.ofBelow hb
 clear hb;replace hg:=hg.below k.nil;replace hf:=hf.below k.nil;replace hW:=hW.below k.nil;replace rA:=k.ro rA;replace rB:=k.ro rB;replace rC:=k.ro rC;replace rD:=k.ro rD;replace sb:=kk sb k;clear k;refine p_m ?_;refine p_e ?_;refine p_e ?_;refine p_a ?_;refine p_a (pw_nil ?_);simp only[pv];clear hso rA rB rC rD
 iterate 3 go_step
 refine rp ?_;refine p_m ?_;refine p_m ?_;refine p_m ?_;simp only[pv];refine p_v (.bool true) (exec_eql_k .i64 _ _ _ _ rfl 0 0 rfl rfl true rfl) ?_;refine p_k true (.bool true) ?_;refine p_m ?_;refine p_m ?_;simp only[pv];refine p_c 13 Tryz.func13 #[.int .i64 5] (o5 _) ?_;intro z4007 k;simp only[pv];replace hf:=hf.below k.nil;replace hW:=hW.below k.nil;replace hx:=hx.below k.nil;replace sb:=kk sb k;clear k;refine p_c 13 Tryz.func13 #[.int .i64 2] (o2 _) ?_;intro z4008 k;simp only[pv];replace hf:=hf.below k.nil;replace hW:=hW.below k.nil;replace hx:=hx.below k.nil;replace sb:=kk sb k;clear k;refine pw_litr (by rfl) 23 43 2 _ rfl (natC 5++natC 2) ie _ Tryz.underlying23 hie hz h21 h22 [(0,.agg (natC 5)),(1,.agg (natC 2))] rfl (hl2 5 2) ?_;intro gE z4009 n0 rE k;simp only[pv];clear n0;replace hf:=hf.below k.nil;replace hW:=hW.below k.nil;replace hx:=hx.below k.nil;replace sb:=kk sb k;clear k;refine p_c 10 Tryz.func10 #[vf,.slice (some ⟨gE,0,none⟩) 2 2] (hs5 _ vf gE hf rE) ?_;intro z4010 k;simp only[pv];replace hf:=hf.below k.nil;replace hW:=hW.below k.nil;replace hx:=hx.below k.nil;replace rE:=k.ro rE;replace sb:=kk sb k;clear k;refine p_k true (.bool true) ?_;refine p_m ?_;refine p_m ?_;simp only[pv];refine pw_litr (by rfl) 32 3 1 _ rfl #[.int .i64 (2:Nat)] iei _ Tryz.underlying32 hiei hzi hi1 hi2 [(0,.int .i64 (2:Nat))] rfl (hli _) ?_;intro gI z4014 n0 rI k;simp only[pv];clear n0;replace hf:=hf.below k.nil;replace hW:=hW.below k.nil;replace hx:=hx.below k.nil;replace rE:=k.ro rE;replace sb:=kk sb k;clear k;refine p_c 14 Tryz.func14 #[vb,.slice (some ⟨gI,0,none⟩) 1 1] (hsw _ vb gI hW rI) ?_;intro z4015 k;simp only[pv];replace hf:=hf.below k.nil;replace hW:=hW.below k.nil;replace hx:=hx.below k.nil;replace rE:=k.ro rE;replace rI:=k.ro rI;replace sb:=kk sb k;clear k;refine p_k true (.bool true) ?_;refine p_m ?_;refine p_m ?_;simp only[pv];refine p_v (.bool true) (exec_eql_k .i64 _ _ _ _ rfl 0 0 rfl rfl true rfl) ?_;refine p_k true (.bool true) ?_;refine p_m ?_;refine p_m ?_;simp only[pv];refine p_c 13 Tryz.func13 #[.int .i64 1] (o1 _) ?_;intro z4023 k;simp only[pv];replace hf:=hf.below k.nil;replace hW:=hW.below k.nil;replace hx:=hx.below k.nil;replace rE:=k.ro rE;replace rI:=k.ro rI;replace sb:=kk sb k;clear k;refine p_c 13 Tryz.func13 #[.int .i64 2] (o2 _) ?_;intro z4024 k;simp only[pv];replace hf:=hf.below k.nil;replace hW:=hW.below k.nil;replace hx:=hx.below k.nil;replace rE:=k.ro rE;replace rI:=k.ro rI;replace sb:=kk sb k;clear k;refine pw_litr (by rfl) 23 43 2 _ rfl (natC 1++natC 2) ie _ Tryz.underlying23 hie hz h21 h22 [(0,.agg (natC 1)),(1,.agg (natC 2))] rfl (hl2 1 2) ?_;intro gF z4025 n0 rF k;simp only[pv];clear n0;replace hf:=hf.below k.nil;replace hW:=hW.below k.nil;replace hx:=hx.below k.nil;replace rE:=k.ro rE;replace rI:=k.ro rI;replace sb:=kk sb k;clear k;refine p_c 10 Tryz.func10 #[vx,.slice (some ⟨gF,0,none⟩) 2 2] (hs12 _ vx gF hx rF) ?_;intro z4026 k;simp only[pv];replace hf:=hf.below k.nil;replace hW:=hW.below k.nil;replace hx:=hx.below k.nil;replace rE:=k.ro rE;replace rI:=k.ro rI;replace rF:=k.ro rF;replace sb:=kk sb k;clear k;refine p_k true (.bool true) ?_;refine p_m ?_;simp only[pv];refine p_c 15 Tryz.func15 #[.int .i64 1,.int .i64 4] (hle _) ?_;intro z4029 k;simp only[pv];replace hf:=hf.below k.nil;replace hW:=hW.below k.nil;replace hx:=hx.below k.nil;replace rE:=k.ro rE;replace rI:=k.ro rI;replace rF:=k.ro rF;replace sb:=kk sb k;clear k;refine p_v (.bool true) (exec_eql_k .i64 _ _ _ _ rfl 1 1 rfl rfl true rfl) ?_;refine p_k true (.bool true) ?_;simp only[pv];refine p_a ?_;simp only[Act.put,List.setIfInBounds_toArray,List.set_cons_zero];refine pw_nil ?_
 go_wp2
 go_ret
 exact⟨rfl,sb⟩
end Go.Proofs.YtighhihgmkcabaaGreat
