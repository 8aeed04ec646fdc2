/- WriterNobody: for every Made and int: what is made of a key and a value of few bytes: a writer that nobody made says nothing, and New refuses; no condition. -/
import Derived.Test.YtcdahmommonnfaaGreatDoorWtAwake
import Derived.Test.YtcdahmommonnfaaGreatDoorJ17
set_option maxRecDepth 100000
set_option maxHeartbeats 8000000
namespace Go.Proofs.YtcdahmommonnfaaGreatDoor
set_option linter.all false
open Go.ChangeShapes Go.WideShapes Go.ChangeAt Go.RowKit
open Go.Proofs.Tryz
namespace writerNobodyP
theorem CY:prog.underlying 100=some (.slice (prog.elem 100)):=by kernel_rfl
theorem P9:(prog.info? 27).map (fun i=>(i.zero,i.size))=some (some (.pointer none),1):=by kernel_rfl
theorem EL: ∃i,prog.info? 27=some i/\i.zero=some (.pointer none)/\i.size=1:=by
 cases hi:prog.info? 27 with
 |none=>have:=P9;rw[hi]at this;cases this
 |some i=>
  have h:=P9;rw[hi]at h;simp only[Option.map_some,Option.some.injEq,Prod.mk.injEq]at h;exact⟨i,rfl,h.1,h.2⟩
theorem CZ (v:Option Addr)(k:Nat)(hk:k=1):Instr.fill (fun i=>some (i*k,k)) ((Array.range (2*k)).map ((Value.pointer none).cells[· %(Value.pointer none).cells.size]!)) [(0,.pointer none),(1,.pointer v)]=some #[.pointer none,.pointer v]:=by
 subst hk
 kernel_rfl
/-- The one of the two. -/
def vOf (g:Nat)(i:Nat):Option Addr:=if i=0 then none else some ⟨g,0,none⟩
theorem A1 (g i:Nat)(hi:i<2):(#[.pointer none,.pointer (some ⟨g,0,none⟩)]:Array Value)[0+i*1]?=some (.pointer (vOf g i)):=by
 match i,hi with
 |0,_=>rfl
 |1,_=>rfl
def wt0:Array Value:=wtC 0 (.pointer none) (0:Nat) 0 0 [] (.slice none 0 0) (fun _=>0) (fun _=>false) 0 0 (.slice none 0 0) (.slice none 0 0)
theorem I4 {w:World}{g:Nat}(i:Nat)(h:Row w g wt0 99):IF w (vOf g i):=by
 unfold vOf
 split
 ·exact .inl rfl
 ·exact .inr ⟨g,rfl,h⟩
theorem C0 (w:World):RL w none 0:=by
 have h1:RL w none (S3 0):=UT.sz (by decide) (.inl ⟨rfl,rfl,rfl,rfl,rfl,rfl⟩:UT w none 0 0 0 none none);exact(show S3 0=0 by decide)▸h1
theorem QR {o:Oper}{ρ:Operand->Value}(p q:Operand)(u:TypeId)(ho:o.op= .binOp .neq 51 p q u)(x y x' y':Int)(hx:ρ p= .agg (tsC x y))(hy:ρ q= .agg (tsC x' y'))(c:Bool)(hb:(!decide (x=x'/\y=y'))=c)(w:World):
  (execOp ρ o).run prog w= .ok (.value (.bool c)) w:=by
 unfold execOp;simp only[ho,hx,hy];simp[run_eqGuard_agg _ _ _ _ _ _ _ (show prog.eqGuardType prog.depth 51=false by kernel_rfl),run_neq_struct,PN]
 simpa using hb
theorem KD (wh cl op:Int)(key s:List UInt8)(b:Bool)(by' sd:Int)(w:World):
  Calls prog 7 #[.agg (mkC wh cl op key s b by' sd)] w fun e w'=> ∃B:Bool,e= .returned (.bool B)/\Below w.heap.size w w':=by
 go_enter func7,ntmps7
 have sb:=Z9 w;iterate 2 go_step
 refine rp ?_;refine ZD (by rfl) 23 _ rfl (mkC wh cl op key s b by' sd) rfl ?_;intro g1 z0 n0 r1 k;simp only[pv];have b1:=Nat.le_trans sb.size n0;clear n0;replace sb:=kk sb k;clear k;refine p_v (.bool false) (fun _=>rfl) (Za ?_);simp only[pv];obtain⟨B,hB⟩: ∃B,decide ((key.toArray.size:Int)<=40)=B:=⟨_,rfl⟩
 have hB1:decide ((key.toArray.size:Int)<=40)=B:=hB;clear hB
 cases B with
 |true=>
  obtain⟨B,hB⟩: ∃B,decide ((s.toArray.size:Int)<=40)=B:=⟨_,rfl⟩
  have hB2:decide ((s.toArray.size:Int)<=40)=B:=hB;clear hB
  cases B with
  |true=>
   iterate 3 go_step
   refine rp ?_;refine p_v _ (Zb 23 _ 3 rfl g1 (0) rfl _ underlying23 _ rfl 0 sizeOf9) ?_;simp only[pv];refine p_d 3 r1.r (.string ⟨(key).toArray⟩) rfl isAgg9 ?_;simp only[pv];refine p_v _ (Rl _ _ rfl ⟨(key).toArray⟩ rfl underlying9) ?_;simp only[pv];refine p_v _ (Yb _ _ _ _ rfl ((key.toArray.size:Nat)) (40) rfl rfl true (hB1)) ?_;refine p_m ?_;simp only[pv];refine p_v _ (Zb 23 _ 4 rfl g1 (0) rfl _ underlying23 _ rfl 0 sizeOf9) ?_;simp only[pv];refine p_d 4 r1.r (.string ⟨(s).toArray⟩) rfl isAgg9 ?_;simp only[pv];refine p_v _ (Rl _ _ rfl ⟨(s).toArray⟩ rfl underlying9) ?_;simp only[pv];refine p_v _ (Yb _ _ _ _ rfl ((s.toArray.size:Nat)) (40) rfl rfl true (hB2)) ?_;refine p_k true (.bool true) ?_;refine p_a (Za ?_);simp only[pv];go_wp2;go_ret;exact⟨_,rfl,sb⟩
  |false=>
   iterate 3 go_step
   refine rp ?_;refine p_v _ (Zb 23 _ 3 rfl g1 (0) rfl _ underlying23 _ rfl 0 sizeOf9) ?_;simp only[pv];refine p_d 3 r1.r (.string ⟨(key).toArray⟩) rfl isAgg9 ?_;simp only[pv];refine p_v _ (Rl _ _ rfl ⟨(key).toArray⟩ rfl underlying9) ?_;simp only[pv];refine p_v _ (Yb _ _ _ _ rfl ((key.toArray.size:Nat)) (40) rfl rfl true (hB1)) ?_;refine p_m ?_;simp only[pv];refine p_v _ (Zb 23 _ 4 rfl g1 (0) rfl _ underlying23 _ rfl 0 sizeOf9) ?_;simp only[pv];refine p_d 4 r1.r (.string ⟨(s).toArray⟩) rfl isAgg9 ?_;simp only[pv];refine p_v _ (Rl _ _ rfl ⟨(s).toArray⟩ rfl underlying9) ?_;simp only[pv];refine p_v _ (Yb _ _ _ _ rfl ((s.toArray.size:Nat)) (40) rfl rfl false (hB2)) ?_;refine p_k true (.bool false) ?_;refine p_a (Za ?_);simp only[pv];go_wp2;go_ret;exact⟨_,rfl,sb⟩
 |false=>
  iterate 3 go_step
  refine rp ?_;refine p_v _ (Zb 23 _ 3 rfl g1 (0) rfl _ underlying23 _ rfl 0 sizeOf9) ?_;simp only[pv];refine p_d 3 r1.r (.string ⟨(key).toArray⟩) rfl isAgg9 ?_;simp only[pv];refine p_v _ (Rl _ _ rfl ⟨(key).toArray⟩ rfl underlying9) ?_;simp only[pv];refine p_v _ (Yb _ _ _ _ rfl ((key.toArray.size:Nat)) (40) rfl rfl false (hB1)) ?_;refine p_m ?_;refine p_s ?_;refine p_s ?_;refine p_s ?_;simp only[pv];refine p_s ?_;refine p_k false (.bool false) ?_;refine p_a (Za ?_);simp only[pv];go_wp2;go_ret;exact⟨_,rfl,sb⟩
theorem walk (wh cl op:Int)(key s:List UInt8)(b:Bool)(by' sd:Int)(a0:Int)(w:World):
  Calls prog 6 #[.agg (mkC wh cl op key s b by' sd),.int .i64 a0] w fun e w'=>e= .returned (.bool true)/\Below w.heap.size w w':=by
 have haw:=fun w'=>Tq w'
 obtain⟨ip,hip,hzp,hsz0⟩:=EL
 have hp1: ¬2*ip.size>2^24:=by rw[hsz0];decide
 have hp2: ¬2*ip.size=0:=by rw[hsz0];decide
 have hl:=fun v=>CZ v ip.size hsz0
 have hnw:=fun w' g (r:Row w' g (RK 3 (lN leL) SY) 148)=>Ps 3 3 (some ⟨g,0,none⟩) leG _ _ g 0 _ _ w' (by decide) (by decide) (Vp r Dh) Pn
 rw[AJ,AK]at hnw;clear hsz0
 go_enter func6,ntmps6
 have sb:=Z9 w;iterate 2 go_step
 refine rp ?_;refine ZD (by rfl) 23 _ rfl (mkC wh cl op key s b by' sd) rfl ?_;intro g2 z0 n0 r2 k;simp only[pv];have b2:=Nat.le_trans sb.size n0;clear n0;replace sb:=kk sb k;clear k;refine p_v (.bool false) (fun _=>rfl) (Za ?_);simp only[pv];iterate 4 go_step
 refine rp ?_;refine Zf (by rfl) 23 _ rfl _ 0 rfl r2.r (mkC wh cl op key s b by' sd) (Zu _) _ underlying23 rfl (by exact X7) ?_;simp only[pv];refine p_f 7 func7 #[.agg (mkC wh cl op key s b by' sd)] (KD wh cl op key s b by' sd _) ?_;rintro _ z1001 ⟨B,rfl,hb⟩;refine⟨_,rfl,?_⟩;simp only[pv];have k:=Kept.ofBelow hb;clear hb;replace r2:=k.ro r2;replace sb:=kk sb k;clear k;refine p_v _ (Zp _ _ rfl B rfl) (Za ?_);simp only[pv];cases B
 ·clear hnw hl hp1 hp2 hzp hip;iterate 4 go_step
  refine rp ?_;refine p_c 8 func8 #[] (haw _) ?_;intro z2000 k;simp only[pv];replace sb:=kk sb k;clear k;refine p_a (Za ?_);simp only[pv];go_wp2;go_ret;exact⟨rfl,sb⟩
 iterate 7 go_step
 refine rp ?_;refine p_f 33 func33 #[.string ⟨([98,121,116,101,115]:List UInt8).toArray⟩] (LF [98,121,116,101,115] _ (by decide)) ?_;rintro _ z3998 ⟨y,rfl,-,-,hb⟩;refine⟨_,rfl,?_⟩;simp only[pv];replace r2:=r2.belowAll hb;replace sb:=sb.trans ((Kept.ofBelow hb).below w.heap.size sb.size (by simp));clear hb;refine p_m ?_;refine p_e ?_;refine p_e ?_;refine p_a ?_;refine p_a (Za ?_);simp only[pv];iterate 3 go_step
 refine rp ?_;refine p_v _ (ZS _ rfl _ LI) ?_;simp only[pv];refine ZD (by rfl) 99 _ rfl (_) rfl ?_;intro g31 z4001 n0 r31 k;simp only[pv];have d2x31:=l_l r2.lt n0;have b31:=Nat.le_trans sb.size n0;clear n0;replace r2:=k.ro r2;replace sb:=kk sb k;clear k;refine Xg (by rfl) 100 27 2 _ rfl #[.pointer none,.pointer (some ⟨g31,0,none⟩)] ip _ underlying100 hip hzp hp1 hp2 [(0,.pointer none),(1,.pointer (some ⟨g31,0,none⟩))] rfl (hl _) ?_;intro gT z4002 n0 rT k;simp only[pv];have d2xT:=l_l r2.lt n0;have d31xT:=l_l r31.lt n0;have bT:=Nat.le_trans sb.size n0;clear n0;replace r2:=k.ro r2;replace r31:=k.ro r31;replace sb:=kk sb k;clear k;refine p_a (Za ?_);simp only[pv];clear hl hp1 hp2 hzp hip;iterate 4 go_step
 refine rp ?_;refine p_v (.int .i64 0) (fun _=>rfl) (Za ?_);simp only[pv]
 go_wp2_with fail
 go_loopg [8,9,10,11,12,13] 2 (fun y0 s8 s9 s10 s11 s12 s13 wr=> ∃i:Nat,i+y0=2/\s8= .int .i64 i/\Row wr g2 (mkC wh cl op key s b by' sd) 23/\Row wr g31 wt0 99/\Row wr gT #[.pointer none,.pointer (some ⟨g31,0,none⟩)] 27/\Below w.heap.size w wr)
 case atStart=>exact⟨0,by omega,rfl,r2,r31,rT,sb⟩
 case round=>
  clear r2 r31 rT sb;obtain⟨i,hi,rfl,r2,r31,rT,sb⟩:=hrel
  cases gk with
  |zero=>
   obtain rfl:i=2:=by omega
   clear hi;iterate 2 go_step
   refine rp ?_;refine p_m ?_;refine p_m ?_;simp only[pv];refine p_v _ (n_l (some ⟨gT,0,none⟩) 2 2 CY) ?_;simp only[pv];refine p_v _ (YV _ _ _ _ rfl ((2:Nat):Int) 2 rfl rfl false rfl) (Za ?_);simp only[pv];iterate 7 go_step
   refine rp ?_;refine p_f 34 func34 #[] (Td _) ?_;rintro _ z12000 ⟨gL,rfl,nL,rL,hb⟩;refine⟨_,rfl,?_⟩;simp only[pv];replace sb:=sb.trans ((Kept.ofBelow hb).below w.heap.size sb.size (by simp));clear hb nL r2;refine p_f 10 func10 #[.agg (paC (some ⟨gL,0,none⟩) 3 3 leG)] (hnw _ gL rL) ?_;rintro _ z12001 ⟨g,gr,gf,rfl,-,hb⟩;refine⟨_,rfl,?_⟩;simp only[pv];replace sb:=sb.trans ((Kept.ofBelow hb).below w.heap.size sb.size (by simp));clear hb rL hnw;refine p_m ?_;refine p_e ?_;refine p_e ?_;refine p_a ?_;refine p_a (Za ?_);simp only[pv];iterate 3 go_step
   refine rp ?_;refine p_c 12 func12 #[.pointer none,.int .i64 1,.int .i64 1,.int .i64 1,.string ⟨([107]:List UInt8).toArray⟩,.string ⟨([]:List UInt8).toArray⟩,.bool true] (Em none 1 1 1 [107] [] true _ (by decide) (by decide) (by decide) (by decide) (by decide) (C0 _)) ?_;intro z13000 k;simp only[pv];replace sb:=kk sb k;clear k;refine p_m ?_;refine p_e ?_;refine p_e ?_;refine p_a ?_;refine p_a (Za ?_);simp only[pv];iterate 3 go_step
   refine rp ?_;refine p_m ?_;simp only[pv];refine p_c 12 func12 #[.pointer (some ⟨g,0,none⟩),.int .i64 3,.int .i64 1,.int .i64 1,.string ⟨([107]:List UInt8).toArray⟩,.string ⟨([]:List UInt8).toArray⟩,.bool true] (L2 (some ⟨g,0,none⟩) 3 1 1 [107] [] true _ (by decide)) ?_;intro z14001 k;simp only[pv];replace sb:=kk sb k;clear k;refine p_m ?_;refine p_e ?_;refine p_e ?_;refine p_a ?_;refine p_a (Za ?_);simp only[pv];iterate 3 go_step
   refine rp ?_;refine p_m ?_;simp only[pv];refine p_c 12 func12 #[.pointer (some ⟨g,0,none⟩),.int .i64 0,.int .i64 1,.int .i64 1,.string ⟨([107]:List UInt8).toArray⟩,.string ⟨([]:List UInt8).toArray⟩,.bool true] (L2 (some ⟨g,0,none⟩) 0 1 1 [107] [] true _ (by decide)) ?_;intro z15001 k;simp only[pv];replace sb:=kk sb k;clear k;refine p_m ?_;refine p_e ?_;refine p_e ?_;refine p_a ?_;refine p_a (Za ?_);simp only[pv];iterate 3 go_step
   refine rp ?_;refine p_m ?_;simp only[pv];refine p_v _ (Y0 _ _ _ _ rfl none rfl rfl To) ?_;refine p_m ?_;refine p_m ?_;simp only[pv];refine p_v _ (Y0 _ _ _ _ rfl none rfl rfl To) ?_;refine p_k true (.bool true) ?_;refine p_m ?_;refine p_m ?_;simp only[pv];refine p_v _ (Y0 _ _ _ _ rfl none rfl rfl To) ?_;refine p_k true (.bool true) ?_;refine p_m ?_;refine p_m ?_;simp only[pv];refine p_v _ (Zq .i64 _ _ _ _ rfl (1) (1) rfl rfl true (by decide)) ?_;refine p_k true (.bool true) ?_;refine p_m ?_;refine p_m ?_;simp only[pv];refine p_v _ (Zq .i64 _ _ _ _ rfl (1) (1) rfl rfl true (by decide)) ?_;refine p_k true (.bool true) ?_;refine p_m ?_;refine p_m ?_;simp only[pv];refine p_v _ (Zq .i64 _ _ _ _ rfl (1) (1) rfl rfl true (by decide)) ?_;refine p_k true (.bool true) ?_;refine p_m ?_;simp only[pv];refine p_c 8 func8 #[] (haw _) ?_;intro z16023 k;simp only[pv];replace sb:=kk sb k;clear k;refine p_k true (.bool true) ?_;refine p_a (Za ?_);simp only[pv];go_wp2;go_ret;exact⟨rfl,sb⟩
  |succ y0=>
   have hlt:i<2:=by omega
   have hv:(#[.pointer none,.pointer (some ⟨g31,0,none⟩)]:Array Value)[0+i*1]?=some (.pointer (vOf g31 i)):=A1 g31 i hlt;clear haw hnw;iterate 2 go_step
   refine rp ?_;refine p_m ?_;refine p_m ?_;simp only[pv];refine p_v _ (n_l (some ⟨gT,0,none⟩) 2 2 CY) ?_;simp only[pv];refine p_v _ (XK (i:Nat) 2) (Za ?_);simp only[pv];iterate 9 go_step
   refine ZF (by kernel_rfl) (by kernel_rfl) ?_;refine q_m ?_;refine q_m ?_;simp only[pv];refine q_v _ (Zs 100 _ _ rfl gT 0 2 2 rfl i rfl (by omega) _ underlying100 1 sizeOf27) ?_;simp only[pv];refine ZH (by rfl) 27 _ rfl _ (0+i*1) rfl rT (.pointer (vOf g31 i)) hv isAgg27 ?_;refine q_m ?_;simp only[pv];refine Yq (by rfl) 23 _ rfl _ (0) rfl r2 (mkC wh cl op key s b by' sd) (Zu _) _ underlying23 rfl X7 ?_;simp only[pv];refine q_v _ (Zm _ [(1,_)] rfl [(1,.int .i64 3)] rfl _ (UR 3)) ?_;simp only[pv];refine q_v _ (Zm _ [] rfl [] rfl _ Z1) ?_;simp only[pv];refine q_c 17 func17 #[.agg (mkC wh cl op key s b by' sd),.agg (atC 0 3 0 0 false),.agg (tsC 0 0)] (fun w'=>L9 wh cl op key s b by' sd 0 0 0 w' (by decide)) ?_;refine q_m ?_;simp only[pv];refine q_k 18 func18 #[.pointer (vOf g31 i),.int .i64 a0,.agg (msC 3 op key 0 0 [] none 0 0 none 0 0),.pointer (some ⟨y,0,none⟩)] (fun w' hb=>Cq _ _ _ _ _ _ _ _ _ _ _ _ _ _ _ w' (I4 i (r31.belowAll hb))) ?_;refine q_m ?_;refine Vl (by rfl) rfl rfl rfl ?_;refine Vl (by rfl) rfl rfl rfl ?_;refine Vl (by rfl) rfl rfl rfl ?_;simp only[pv];refine q_a ?_;refine q_a ?_;refine q_a ?_;simp only[pv];refine Z2 ?_;intro w8 hqb;replace r2:=r2.belowAll hqb;replace r31:=r31.belowAll hqb;replace rT:=rT.belowAll hqb;replace sb:=b_o sb hqb;clear hqb;iterate 3 go_step
   refine rp ?_;refine p_m ?_;refine p_m ?_;simp only[pv];refine p_v _ (Zs 100 _ _ rfl gT 0 2 2 rfl i rfl (by omega) _ underlying100 1 sizeOf27) ?_;simp only[pv];refine p_d (0+i*1) rT.r (.pointer (vOf g31 i)) hv isAgg27 ?_;simp only[pv];refine p_c 20 func20 #[.pointer (vOf g31 i)] (Cs _ _ (I4 i r31)) ?_;intro z9004 k;simp only[pv];replace r2:=k.ro r2;replace r31:=k.ro r31;replace rT:=k.ro rT;replace sb:=kk sb k;clear k;refine p_m ?_;refine p_e ?_;refine p_e ?_;simp only[pv];refine ZJ (by rfl) 51 rfl _ Xj ?_;intro g12 z9008 n0 r12 k;simp only[pv];have d2x12:=l_l r2.lt n0;have d31x12:=l_l r31.lt n0;have dTx12:=l_l rT.lt n0;have b12:=Nat.le_trans sb.size n0;clear n0;replace r2:=k.ro r2;replace r31:=k.ro r31;replace rT:=k.ro rT;replace sb:=kk sb k;clear k;refine Z0 (by rfl) 51 _ _ rfl _ rfl r12 (tsC 0 0) rfl (by exact Zz) (by rfl) (Xl _ _) ?_;clear r12;intro zst r12 k3;simp only[Act.put];replace r2:=k3.row r2 (by have:=r12.lt;simp;omega);replace r31:=k3.row r31 (by have:=r12.lt;simp;omega);replace rT:=k3.row rT (by have:=r12.lt;simp;omega);replace sb:=sb.trans (k3.below w.heap.size sb.size (by simp;omega));refine p_a (Za ?_);simp only[pv];iterate 3 go_step
   refine rp ?_;refine p_m ?_;refine p_m ?_;simp only[pv];refine p_v _ (Zs 100 _ _ rfl gT 0 2 2 rfl i rfl (by omega) _ underlying100 1 sizeOf27) ?_;simp only[pv];refine p_d (0+i*1) rT.r (.pointer (vOf g31 i)) hv isAgg27 ?_;simp only[pv];refine p_c 15 func15 #[.pointer (vOf g31 i)] (Cb _ _ (I4 i r31)) ?_;intro z10004 k;simp only[pv];replace r2:=k.ro r2;replace r31:=k.ro r31;replace rT:=k.ro rT;replace r12:=k.ro r12;replace sb:=kk sb k;clear k;refine p_v _ (n_l none 0 0 Xk) ?_;simp only[pv];refine p_v _ (Z4 _ _ _ _ rfl 0 0 rfl rfl false (decide_eq_false (by decide))) ?_;refine p_m ?_;refine p_m ?_;simp only[pv];refine p_v _ (n_l none 0 0 Xk) ?_;simp only[pv];refine p_v _ (Z4 _ _ _ _ rfl 0 0 rfl rfl false (decide_eq_false (by decide))) ?_;refine p_k false (.bool false) ?_;refine p_m ?_;refine p_m ?_;refine p_k false (.bool false) ?_;simp only[pv];refine p_m ?_;refine p_m ?_;simp only[pv];refine p_v _ (ZC .i64 _ _ _ _ rfl 1 1 rfl rfl false rfl) ?_;refine p_k false (.bool false) ?_;refine p_m ?_;refine p_m ?_;refine p_m ?_;simp only[pv];refine p_v _ (Zs 100 _ _ rfl gT 0 2 2 rfl i rfl (by omega) _ underlying100 1 sizeOf27) ?_;simp only[pv];refine p_d (0+i*1) rT.r (.pointer (vOf g31 i)) hv isAgg27 ?_;simp only[pv];refine p_c 22 func22 #[.pointer (vOf g31 i)] (Cr _ _ (I4 i r31)) ?_;intro z10024 k;simp only[pv];replace r2:=k.ro r2;replace r31:=k.ro r31;replace rT:=k.ro rT;replace r12:=k.ro r12;replace sb:=kk sb k;clear k;refine p_v _ (n_l none 0 0 Xk) ?_;simp only[pv];refine p_v _ (Z4 _ _ _ _ rfl 0 0 rfl rfl false (decide_eq_false (by decide))) ?_;refine p_k false (.bool false) ?_;refine p_m ?_;simp only[pv];refine Zf (by rfl) 51 _ rfl _ (0) rfl r12.r (tsC 0 0) (Zu _) _ underlying51 rfl Zz ?_;simp only[pv];refine p_v _ (Zm _ [] rfl [] rfl _ Z1) ?_;simp only[pv];refine p_v _ (QR _ _ _ rfl 0 0 0 0 rfl rfl false (by decide)) ?_;refine p_k false (.bool false) ?_;refine p_m ?_;refine p_m ?_;refine p_k false (.bool false) (Za ?_);simp only[pv];iterate 6 go_step
   refine rp ?_;refine p_m ?_;simp only[pv];refine p_v _ (x_a i 1) ?_;refine p_a (Za ?_);simp only[pv];go_wp2
   go_roundg y0
   case measure=>omega
   case rel=>exact⟨i+1,by omega,rfl,r2,r31,rT,sb⟩
theorem lifted (os:Os)(started:os.Started)(H:Type)(enc:TypeId×Value->H):
  ReturnsInHanded {} Tryz.checked os 6 .any (fun w args=>(Rows.writerNobodySpec.pre enc prog Tryz.f6 [] false w args/\laidMetH prog lk w)/\sizedMet enc prog Tryz.f6 (OpenSpec.ofChange Rows.writerNobodySpec) false w args)
   (Rows.writerNobodySpec.post enc prog Tryz.f6 false true false false):=by
 refine returnsInHanded_of_change_and (C:=Tryz.checked) (X:=fun w _=>laidMetH prog lk w) (fun _ _ _ hh h=>h.of_heap hh) own started (by kernel_rfl) func6
  (ChangeSpec.witness_shaped (enc:=enc) (C:=Tryz.checked) (os:=os) (X:=fun w _=>laidMetH prog lk w) false (World.laidAll prog os lk) #[.agg #[.int .i64 0,.int .i64 0,.int .i64 0,.string ⟨#[]⟩,.string ⟨#[]⟩,.bool false,.int .i64 0,.int .i64 0],.int .i64 0] 8 (World.laidAll_os _ _ _) (RH os _) (by kernel_rfl) (by kernel_rfl) (by kernel_rfl) (H7 os _)) ?_
 intro W base args ds gs before hval0 hW _ _ hL _;have hval: ∀(j:Nat) t v,Tryz.f6.params[j]?=some t->args[j]?=some v->Value.okWide prog W .any base t v:=hval0
 have hW':=hW;obtain⟨p,q,hA0,hV,rfl,hfz,hnd⟩:=hW;have hA:DataW.TrodAll enc prog W 0 (fun _=>true) true Tryz.f6.params.toList args.toList ds p:=hA0;rw[Tryz.params6]at hA hval;obtain⟨v0,vs0,d0,ds0,p0,q0,hargs,rfl,rfl,h0,r0⟩:=trodAll_cons hA;obtain⟨v1,vs1,d1,ds1,p1,q1,rfl,rfl,rfl,h1,r1⟩:=trodAll_cons r0;obtain⟨rfl,rfl,rfl⟩:=trodAll_nil r1
 obtain rfl:args=#[v0,v1]:=by cases args;simp_all
 obtain⟨rfl,rfl⟩:=trodVars_none hV;have k0:=h0;have lt0:=Wf h0;obtain⟨wh,cl,op,key,s,b,by',sd,rfl⟩:=Kz (hval 0 23 v0 rfl rfl) h0;have k1:=h1;have lt1:=Wf h1;obtain⟨a1,rfl,rfl,rfl,w1⟩:=open_int underlying3 (hval 1 3 v1 rfl rfl) h1;clear hA0 hval0;refine(walk wh cl op key s b by' sd a1 W).mono fun e W' ⟨he,bel⟩=>?_
 subst he;exact⟨_,rfl,_,_,_,[],_,[],hW',trodAll_mk1 (shut_bool underlying4 _),(trodAll_cons_mk (Below.trod UK (by kernel_rfl) (of_decide_eq_true (by kernel_rfl)) k0 bel lt0) (trodAll_cons_mk (Below.trod UK (by kernel_rfl) (of_decide_eq_true (by kernel_rfl)) k1 bel lt1) trodAll_mk0)),rfl,bel.frame _,fun h=>by cases h⟩
theorem over:Rows.writerNobodyRow.holds Tryz.pinned (OpenSpec.ofChange Rows.writerNobodySpec):=
 OpenClaim.holds_of_wide 6 Tryz.f6 rfl rfl rfl rfl rfl rfl rfl ⟨rfl,rfl,rfl,rfl,rfl⟩ rfl rfl rfl rfl rfl (by kernel_rfl) func6 (by kernel_rfl)
  (of_decide_eq_true (by kernel_rfl)) (by unfold Func.isWrapper;first|(rw[if_pos (by decide+kernel)];kernel_rfl)|(rw[if_neg (by decide+kernel)];exact⟨rfl,rfl⟩))
  (fun os started H enc _=>lifted os started H enc)
theorem card:Claim7.holds Tryz.pinned (.plain (OpenSpec.ofChange Rows.writerNobodySpec)) Rows.writerNobodyCard:=
 Claim7.holds_tied_plain_at .later [] [.data,.pinned] true (true, "7deae6c92f829a365a522cb333c1dae4285caee74fd07f9b582df18d22e57e98") true
  over (fun _ h=>by cases h) (by kernel_rfl) (fun _ h=>by cases h) writerNobody_row_tie rfl ⟨rfl,rfl⟩ (by kernel_rfl) rfl
  (fun f fn hf hfn=>by
   obtain rfl:f=6:=Option.some.inj ((show prog.funcNamed "sacristy/sacristylaw24.WriterNobody" =some 6 by kernel_rfl).symm.trans hf) |>.symm;obtain rfl:fn=Tryz.f6:=(Option.some.inj (func6.symm.trans hfn)).symm
   exact⟨by kernel_rfl,fun j t ht=>by
    rw[Tryz.params6]at ht;have hm:t∈[23,3]:=by simpa using Array.mem_of_getElem? ht
    have hall:([23,3].all fun u=> !prog.wantsStandIn u)=true:=by kernel_rfl
    exact(show prog.wantsStandIn t=false by simpa using List.all_eq_true.1 hall t hm)⟩)
  (by kernel_rfl)
end writerNobodyP
/-- for every Made and int: what is made of a key and a value of few bytes: a writer that nobody made says nothing, and New refuses; no condition. -/
theorem writerNobody_holds:Rows.WriterNobodyCardSaid:=writerNobodyP.card
end Go.Proofs.YtcdahmommonnfaaGreatDoor
