import Derived.Test.YtcdahmommonnfaaGreatDoorWtDeal
import Derived.Test.YtcdahmommonnfaaGreatDoorJ12
import Derived.OwnWalk
set_option maxRecDepth 100000
set_option maxHeartbeats 8000000
namespace Go.Proofs.YtcdahmommonnfaaGreatDoor
set_option linter.all false
open Go.RowKit
open Go.Proofs.Tryz
section
variable {P:Program}{o:Oper}{ρ:Operand->Value}
theorem UO (t e:TypeId)(x hi:Operand)(n:Nat)(hu:P.underlying t=some (.array n e))(hz: ∀w,(sizeOf e).run P w= .ok 1 w)(ho:o.op= .slice t x none (some hi) none)(g off h:Nat)(hx:ρ x= .pointer (some ⟨g,off,none⟩))(hh:ρ hi= .int .i64 h)
  (hn:h<=n)(h0:0<n)(w:World):(execOp ρ o).run P w= .ok (.value (.slice (some ⟨g,off,none⟩) h n)) w:=by
 have hA:P.arrayLen t=n:=by simp[Program.arrayLen,hu]
 have hE:P.elem t=e:=by simp[Program.elem,hu]
 have hr:=run_sliceAt_array_h (P:=P) w t ⟨g,off,none⟩ (by rw[hA,hE];exact hu) .i64 h (by omega) (by rw[hA];omega);unfold execOp;simp only[ho,hx,hh,Option.map_none,Option.map_some,Sem.run_bind];rw[hr,hA,hE,hz];unfold slicedAt;simp only[Int.toNat_natCast,Result.andThen_ok];rw[if_neg (by omega),Nat.zero_mul,Addr.add_mid];rfl
end
theorem LW (p:Nat)(a:Int)(gp:Option Addr)(T:Nat)(cl op:Int)(key:List UInt8)(nm:Value)(tl:Nat->Int)(an:Nat->Bool)(sq sc:Int)(mx ps:Value)(er:Int)(w:World)(r1:Row w p (wtC a (.pointer gp) (T:Nat) cl op key nm tl an sq sc mx ps) 99)(hT:T<=2):
  Calls prog 98 #[.pointer (some ⟨p,0,none⟩),.int .i64 er] w fun e w'=> ∃g,e= .returned (.tuple #[.slice (some ⟨g,0,none⟩) (3*T+1) (3*T+1),.bool true,.int .i64 er])/\Row w' p (wtC 3 (.pointer gp) (T:Nat) cl op key nm tl an sq sc mx ps) 99/\Kept [p] w w':=by
 go_enter func98,ntmps98
 have sb:=Z9 w;iterate 2 go_step
 refine rp ?_;refine p_v (.slice none 0 0) (fun _=>rfl) ?_;refine p_v (.bool false) (fun _=>rfl) ?_;refine p_v (.int .i64 0) (fun _=>rfl) (Za ?_);simp only[pv];iterate 3 go_step
 refine rp ?_;refine p_m ?_;simp only[pv];refine p_v (.pointer (some ⟨p,0,none⟩)) (Zl _ rfl p (0) rfl) ?_;simp only[pv];refine p_v _ (Zb 99 _ 0 rfl p (0) rfl _ underlying99 _ rfl 0 sizeOf3) ?_;simp only[pv];refine Yj (by rfl) 3 _ _ rfl _ 0 rfl r1 (.int .i64 3) rfl rfl rfl Yw (by exact(by decide:0<25)) (wtC 3 (.pointer gp) (T:Nat) cl op key nm tl an sq sc mx ps) rfl ?_;clear r1;intro z1003 r1 k3;simp only[Act.put];refine Za ?_;have kp:Kept [p] w z1003:=(((Kept.ofBelow sb).more (S:=[]) (T:=[p]) (by simp)).trans k3 (fun b hb=>.inl hb));clear sb k3;have sb:=Z9 z1003;iterate 3 go_step
 refine rp ?_;refine p_m ?_;simp only[pv];refine p_f 51 func51 #[.pointer (some ⟨p,0,none⟩),.int .i64 2] (LR p 3 gp T cl op key nm tl an sq sc mx ps 2 _ r1 hT) ?_;rintro _ z2001 ⟨g,rfl,hG,hb⟩;refine⟨_,rfl,?_⟩;simp only[pv];replace r1:=r1.belowAll hb;replace sb:=sb.trans ((Kept.ofBelow hb).below z1003.heap.size sb.size (by simp));clear hb hG;refine p_m ?_;refine p_a ?_;refine p_v (.bool true) (fun _=>rfl) ?_;refine p_a (Za ?_);simp only[pv];go_wp2
 go_ret3
 exact⟨_,rfl,r1,kp.on sb⟩
def Yk (tl:Nat->Int)(i:Nat)(z:Int):Nat->Int:=fun j=>if j=i then max (tl i) z else tl j
theorem BQ (p y g gr gf gN P Q G N T:Nat)(F:Nat->Nat)(s:List UInt8)(cl op:Int)(key:List UInt8)(tl:Nat->Int)(an:Nat->Bool)(i:Nat)(z:Int)(w:World)(hW:We w p y g gr gf gN P Q G N F s)(r1:Row w p (wtC 1 (.pointer (some ⟨g,0,none⟩)) (T:Nat) cl op key (.slice (some ⟨gN,0,none⟩) N N) tl an 0 0 (.slice none 0 0) (.slice none 0 0)) 99)(f:GF P Q G)(hP:P<2^256)(hQ:Q<2^256)(hF: ∀i,i<N->F i<Q)(hN:1<=N)(hN2:N<=25)(h1:1<=T)(h2:T<=2)(hi:i<3*T+1)(hcl:clB cl=true)(hz1: -9223372036854775808<=z)(hvb:voB (T:Nat) (3*T+1) (Yk tl i z)=false):
  Calls prog 55 #[.pointer (some ⟨p,0,none⟩),.int .i64 ((i+1:Nat):Int),.int .i64 z,.pointer (some ⟨y,0,none⟩)] w fun e w'=>e= .returned (.tuple #[.slice none 0 0,.bool false,.int .i64 0])/\Row w' p (wtC 1 (.pointer (some ⟨g,0,none⟩)) (T:Nat) cl op key (.slice (some ⟨gN,0,none⟩) N N) (Yk tl i z) an 0 0 (.slice none 0 0) (.slice none 0 0)) 99/\We w' p y g gr gf gN P Q G N F s/\Kept [p] w w':=by
 have h7:i<7:=by omega
 go_enter func55,ntmps55
 have sb:=Z9 w;iterate 2 go_step
 refine rp ?_;refine p_v (.slice none 0 0) (fun _=>rfl) ?_;refine p_v (.bool false) (fun _=>rfl) ?_;refine p_v (.int .i64 0) (fun _=>rfl) (Za ?_);simp only[pv];iterate 3 go_step
 refine Ys (by kernel_rfl) [15] [(0,false),(1,false),(2,false),(3,false),(4,false),(5,false),(6,false),(7,false),(8,false),(9,false),(10,false),(11,false),(12,false),(13,false),(14,false),(15,true)] ?_ (by kernel_rfl);refine e_m ?_;refine e_m ?_;simp only[pv];refine e_v (.int .i64 (i:Nat)) (WZ _ _ _ _ rfl ((i+1:Nat):Int) 1 (i:Nat) rfl rfl (by omega) (by omega) (by omega)) ?_;refine e_m ?_;refine e_m ?_;simp only[pv];refine e_v (.int .i64 (i:Nat)) (WZ _ _ _ _ rfl ((i+1:Nat):Int) 1 (i:Nat) rfl rfl (by omega) (by omega) (by omega)) ?_;simp only[pv];refine e_v (.pointer (some ⟨p,0,none⟩)) (Zl _ rfl p (0) rfl) ?_;simp only[pv];refine e_v (.pointer (some ⟨p,7,none⟩)) (Zb 99 _ 7 rfl p (0) rfl _ underlying99 _ rfl 6 sizeOf75) ?_;simp only[pv];refine e_v (.pointer (some ⟨p,7+i*1,none⟩)) (ZE 75 _ _ rfl p 7 rfl i 7 rfl h7 _ underlying75 1 sizeOf3) ?_;simp only[pv];refine Yh (by rfl) 3 _ rfl _ (7+i*1) rfl (fun _ hb=>(r1.belowAll hb).r) (.int .i64 (tl i)) ((Tn i h7)) isAgg3 ?_;refine e_m ?_;simp only[pv];refine e_v (.int .i64 (max (tl i) z)) (Rv _ _ _ _ rfl (tl i) z rfl rfl) ?_;simp only[pv];refine e_v (.pointer (some ⟨p,0,none⟩)) (Zl _ rfl p (0) rfl) ?_;simp only[pv];refine e_v (.pointer (some ⟨p,7,none⟩)) (Zb 99 _ 7 rfl p (0) rfl _ underlying99 _ rfl 6 sizeOf75) ?_;simp only[pv];refine e_v (.pointer (some ⟨p,7+i*1,none⟩)) (ZE 75 _ _ rfl p 7 rfl i 7 rfl h7 _ underlying75 1 sizeOf3) ?_;simp only[pv];refine Wr (by rfl) 3 _ _ rfl _ (7+i*1) rfl r1 (.int .i64 (max (tl i) z)) rfl rfl rfl Yw (by rw[WS];omega) (wtC 1 (.pointer (some ⟨g,0,none⟩)) (T:Nat) cl op key (.slice (some ⟨gN,0,none⟩) N N) (Yk tl i z) an 0 0 (.slice none 0 0) (.slice none 0 0)) (Sb i h7 _) ?_;intro wa1 hq1 wb1 rr1 k1;refine⟨fun h=>(by cases h),?_⟩;simp only[Act.put];refine XY ?_;intro wz hqz;have kp:Kept [p] w wz:=((((Kept.ofBelow sb).more (S:=[]) (T:=[p]) (by simp)).trans (((Kept.refl [p] _).on hq1).trans k1 (fun b hb=>.inl hb)) (fun b hb=>.inl hb))).on hqz;have rz:=rr1.belowAll hqz;have hWz:=hW.on kp (by simp);have sz:=Z9 wz;have hvo:=fun w' (hb:Below wz.heap.size wz w')=>Qz (T:Nat) (some ⟨p,7,none⟩) (3*T+1) 7 (Yk tl i z) p 7 _ _ w' ⟨.inr ⟨rfl,(rz.belowAll hb).r,fun j hj=>Tn j (by omega)⟩⟩ (by omega)
 rw[hvb]at hvo;iterate 3 go_step
 refine ZF (by kernel_rfl) (by kernel_rfl) ?_;refine q_m ?_;simp only[pv];refine q_v (.pointer (some ⟨p,0,none⟩)) (Zl _ rfl p (0) rfl) ?_;simp only[pv];refine q_v _ (Zb 99 _ 2 rfl p (0) rfl _ underlying99 _ rfl 0 sizeOf3) ?_;simp only[pv];refine ZH (by rfl) 3 _ rfl _ (2) rfl rz (.int .i64 ((T:Nat))) rfl isAgg3 ?_;refine q_m ?_;simp only[pv];refine q_v (.pointer (some ⟨p,0,none⟩)) (Zl _ rfl p (0) rfl) ?_;simp only[pv];refine q_v _ (Zb 99 _ 7 rfl p (0) rfl _ underlying99 _ rfl 6 sizeOf75) ?_;refine q_m ?_;simp only[pv];refine q_k 53 func53 #[.pointer (some ⟨p,0,none⟩)] (fun w' hb=>WM p 1 (some ⟨g,0,none⟩) T cl op key _ _ _ _ _ _ _ w' (rz.belowAll hb) h2) ?_;simp only[pv];refine q_v _ (UO 75 _ _ _ 7 underlying75 sizeOf3 rfl p 7 (3*T+1) rfl rfl (by omega) (by decide)) ?_;simp only[pv];refine q_k 96 func96 #[.int .i64 (T:Nat),.slice (some ⟨p,7,none⟩) (3*T+1) 7] (fun w' hb=>hvo w' hb) ?_;refine q_m ?_;refine Vl (by rfl) rfl rfl rfl ?_;refine Vl (by rfl) rfl rfl rfl ?_;refine q_a ?_;simp only[pv];refine q_a ?_;simp only[pv];refine Z2 ?_;intro wv hqb;replace rz:=rz.belowAll hqb;replace sz:=b_o sz hqb;clear hqb;iterate 4 go_step
 refine rp ?_;refine p_m ?_;simp only[pv];refine p_v _ (Zp _ _ rfl false rfl) (Za ?_);simp only[pv];iterate 4 go_step
 refine rp ?_;refine p_v (.slice none 0 0) (fun _=>rfl) ?_;refine p_v (.bool false) (fun _=>rfl) ?_;refine p_v (.int .i64 0) (fun _=>rfl) (Za ?_);simp only[pv];go_wp2
 go_ret3
 exact⟨rfl,rz,hWz.below sz,kp.on sz⟩
theorem BR (p y g gr gf gN P Q G N T:Nat)(F:Nat->Nat)(s:List UInt8)(cl op:Int)(key:List UInt8)(tl:Nat->Int)(an:Nat->Bool)(i:Nat)(z:Int)(w:World)(hW:We w p y g gr gf gN P Q G N F s)(r1:Row w p (wtC 1 (.pointer (some ⟨g,0,none⟩)) (T:Nat) cl op key (.slice (some ⟨gN,0,none⟩) N N) tl an 0 0 (.slice none 0 0) (.slice none 0 0)) 99)(f:GF P Q G)(hP:P<2^256)(hQ:Q<2^256)(hF: ∀i,i<N->F i<Q)(hN:1<=N)(hN2:N<=25)(h1:1<=T)(h2:T<=2)(hi:i<3*T+1)(hcl:clB cl=true)(hz1: -9223372036854775808<=z)(hvb:voB (T:Nat) (3*T+1) (Yk tl i z)=true)(hv:0<=(voV (T:Nat) (3*T+1) (Yk tl i z)))(hv2:(voV (T:Nat) (3*T+1) (Yk tl i z))<1099511627776)(hd:dst Q s (T*N)=none):
  Calls prog 55 #[.pointer (some ⟨p,0,none⟩),.int .i64 ((i+1:Nat):Int),.int .i64 z,.pointer (some ⟨y,0,none⟩)] w fun e w'=> ∃vo,e= .returned (.tuple #[vo,.bool true,.int .i64 5])/\Row w' p (wtC 3 (.pointer (some ⟨g,0,none⟩)) (T:Nat) cl op key (.slice (some ⟨gN,0,none⟩) N N) (Yk tl i z) an 0 0 (.slice none 0 0) (.slice none 0 0)) 99/\We w' p y g gr gf gN P Q G N F s/\Kept [p,y] w w':=by
 have h7:i<7:=by omega
 go_enter func55,ntmps55
 have sb:=Z9 w;iterate 2 go_step
 refine rp ?_;refine p_v (.slice none 0 0) (fun _=>rfl) ?_;refine p_v (.bool false) (fun _=>rfl) ?_;refine p_v (.int .i64 0) (fun _=>rfl) (Za ?_);simp only[pv];iterate 3 go_step
 refine Ys (by kernel_rfl) [15] [(0,false),(1,false),(2,false),(3,false),(4,false),(5,false),(6,false),(7,false),(8,false),(9,false),(10,false),(11,false),(12,false),(13,false),(14,false),(15,true)] ?_ (by kernel_rfl);refine e_m ?_;refine e_m ?_;simp only[pv];refine e_v (.int .i64 (i:Nat)) (WZ _ _ _ _ rfl ((i+1:Nat):Int) 1 (i:Nat) rfl rfl (by omega) (by omega) (by omega)) ?_;refine e_m ?_;refine e_m ?_;simp only[pv];refine e_v (.int .i64 (i:Nat)) (WZ _ _ _ _ rfl ((i+1:Nat):Int) 1 (i:Nat) rfl rfl (by omega) (by omega) (by omega)) ?_;simp only[pv];refine e_v (.pointer (some ⟨p,0,none⟩)) (Zl _ rfl p (0) rfl) ?_;simp only[pv];refine e_v (.pointer (some ⟨p,7,none⟩)) (Zb 99 _ 7 rfl p (0) rfl _ underlying99 _ rfl 6 sizeOf75) ?_;simp only[pv];refine e_v (.pointer (some ⟨p,7+i*1,none⟩)) (ZE 75 _ _ rfl p 7 rfl i 7 rfl h7 _ underlying75 1 sizeOf3) ?_;simp only[pv];refine Yh (by rfl) 3 _ rfl _ (7+i*1) rfl (fun _ hb=>(r1.belowAll hb).r) (.int .i64 (tl i)) ((Tn i h7)) isAgg3 ?_;refine e_m ?_;simp only[pv];refine e_v (.int .i64 (max (tl i) z)) (Rv _ _ _ _ rfl (tl i) z rfl rfl) ?_;simp only[pv];refine e_v (.pointer (some ⟨p,0,none⟩)) (Zl _ rfl p (0) rfl) ?_;simp only[pv];refine e_v (.pointer (some ⟨p,7,none⟩)) (Zb 99 _ 7 rfl p (0) rfl _ underlying99 _ rfl 6 sizeOf75) ?_;simp only[pv];refine e_v (.pointer (some ⟨p,7+i*1,none⟩)) (ZE 75 _ _ rfl p 7 rfl i 7 rfl h7 _ underlying75 1 sizeOf3) ?_;simp only[pv];refine Wr (by rfl) 3 _ _ rfl _ (7+i*1) rfl r1 (.int .i64 (max (tl i) z)) rfl rfl rfl Yw (by rw[WS];omega) (wtC 1 (.pointer (some ⟨g,0,none⟩)) (T:Nat) cl op key (.slice (some ⟨gN,0,none⟩) N N) (Yk tl i z) an 0 0 (.slice none 0 0) (.slice none 0 0)) (Sb i h7 _) ?_;intro wa1 hq1 wb1 rr1 k1;refine⟨fun h=>(by cases h),?_⟩;simp only[Act.put];refine XY ?_;intro wz hqz;have kp:Kept [p] w wz:=((((Kept.ofBelow sb).more (S:=[]) (T:=[p]) (by simp)).trans (((Kept.refl [p] _).on hq1).trans k1 (fun b hb=>.inl hb)) (fun b hb=>.inl hb))).on hqz;have rz:=rr1.belowAll hqz;have hWz:=hW.on kp (by simp);have sz:=Z9 wz;have hvo:=fun w' (hb:Below wz.heap.size wz w')=>Qz (T:Nat) (some ⟨p,7,none⟩) (3*T+1) 7 (Yk tl i z) p 7 _ _ w' ⟨.inr ⟨rfl,(rz.belowAll hb).r,fun j hj=>Tn j (by omega)⟩⟩ (by omega)
 rw[hvb]at hvo;iterate 3 go_step
 refine ZF (by kernel_rfl) (by kernel_rfl) ?_;refine q_m ?_;simp only[pv];refine q_v (.pointer (some ⟨p,0,none⟩)) (Zl _ rfl p (0) rfl) ?_;simp only[pv];refine q_v _ (Zb 99 _ 2 rfl p (0) rfl _ underlying99 _ rfl 0 sizeOf3) ?_;simp only[pv];refine ZH (by rfl) 3 _ rfl _ (2) rfl rz (.int .i64 ((T:Nat))) rfl isAgg3 ?_;refine q_m ?_;simp only[pv];refine q_v (.pointer (some ⟨p,0,none⟩)) (Zl _ rfl p (0) rfl) ?_;simp only[pv];refine q_v _ (Zb 99 _ 7 rfl p (0) rfl _ underlying99 _ rfl 6 sizeOf75) ?_;refine q_m ?_;simp only[pv];refine q_k 53 func53 #[.pointer (some ⟨p,0,none⟩)] (fun w' hb=>WM p 1 (some ⟨g,0,none⟩) T cl op key _ _ _ _ _ _ _ w' (rz.belowAll hb) h2) ?_;simp only[pv];refine q_v _ (UO 75 _ _ _ 7 underlying75 sizeOf3 rfl p 7 (3*T+1) rfl rfl (by omega) (by decide)) ?_;simp only[pv];refine q_k 96 func96 #[.int .i64 (T:Nat),.slice (some ⟨p,7,none⟩) (3*T+1) 7] (fun w' hb=>hvo w' hb) ?_;refine q_m ?_;refine Vl (by rfl) rfl rfl rfl ?_;refine Vl (by rfl) rfl rfl rfl ?_;refine q_a ?_;simp only[pv];refine q_a ?_;simp only[pv];refine Z2 ?_;intro wv hqb;replace rz:=rz.belowAll hqb;replace sz:=b_o sz hqb;clear hqb;iterate 4 go_step
 refine rp ?_;refine p_m ?_;simp only[pv];refine p_v _ (Zp _ _ rfl true rfl) (Za ?_);simp only[pv];iterate 8 go_step
 refine rp ?_;refine p_m ?_;refine p_m ?_;refine p_m ?_;simp only[pv];refine p_f 97 func97 #[.pointer (some ⟨p,0,none⟩),.int .i64 (voV (T:Nat) (3*T+1) (Yk tl i z)),.pointer (some ⟨y,0,none⟩)] (Cd p y g gr gf gN P Q G N T F s cl op key (Yk tl i z) an (voV (T:Nat) (3*T+1) (Yk tl i z)) _ (hWz.below sz) rz f hP hQ hF hN hN2 h1 h2 hv hv2 hcl hd) ?_;rintro _ z5003 ⟨rfl,rz,hWd,kd⟩;refine⟨_,rfl,?_⟩;simp only[pv];refine p_a (Za ?_);simp only[pv];have ky:Kept [p,y] w z5003:=(((kp.on sz).more (T:=[p,y]) (by simp)).trans kd (fun b hb=>.inl (by simp at hb;simp;exact .inr hb)));have se:=Z9 z5003;iterate 3 go_step
 refine rp ?_;refine p_m ?_;simp only[pv];refine p_v _ (ZC .i64 _ _ _ _ rfl (5) (0) rfl rfl true (by decide)) (Za ?_);simp only[pv];iterate 4 go_step
 refine rp ?_;refine p_m ?_;refine p_m ?_;simp only[pv];refine p_f 98 func98 #[.pointer (some ⟨p,0,none⟩),.int .i64 5] (LW p 1 (some ⟨g,0,none⟩) T cl op key _ _ _ _ _ _ _ 5 _ rz h2) ?_;rintro _ z7002 ⟨go,rfl,rz,ke⟩;refine⟨_,rfl,?_⟩;simp only[pv];refine p_e ?_;refine p_e ?_;refine p_e ?_;refine p_a ?_;refine p_a ?_;simp only[pv];refine p_a (Za ?_);simp only[pv];go_wp2
 go_ret3
 exact⟨_,rfl,rz,(hWd.below se).on ke (by simp),(ky.on se).trans ke (fun b hb=>.inl (by simp at hb;simp;exact .inl hb))⟩
theorem BS (p y g gr gf gN P Q G N T:Nat)(F:Nat->Nat)(s:List UInt8)(cl op:Int)(key:List UInt8)(tl:Nat->Int)(an:Nat->Bool)(i:Nat)(z:Int)(s':List UInt8)(w:World)(hW:We w p y g gr gf gN P Q G N F s)(r1:Row w p (wtC 1 (.pointer (some ⟨g,0,none⟩)) (T:Nat) cl op key (.slice (some ⟨gN,0,none⟩) N N) tl an 0 0 (.slice none 0 0) (.slice none 0 0)) 99)(f:GF P Q G)(hP:P<2^256)(hQ:Q<2^256)(hF: ∀i,i<N->F i<Q)(hN:1<=N)(hN2:N<=25)(h1:1<=T)(h2:T<=2)(hi:i<3*T+1)(hcl:clB cl=true)(hz1: -9223372036854775808<=z)(hvb:voB (T:Nat) (3*T+1) (Yk tl i z)=true)(hv:0<=(voV (T:Nat) (3*T+1) (Yk tl i z)))(hv2:(voV (T:Nat) (3*T+1) (Yk tl i z))<1099511627776)(hd:dst Q s (T*N)=some s'):
  Calls prog 55 #[.pointer (some ⟨p,0,none⟩),.int .i64 ((i+1:Nat):Int),.int .i64 z,.pointer (some ⟨y,0,none⟩)] w fun e w'=> ∃gO m gM gT R Y M S,e= .returned (.tuple #[.slice (some ⟨gO,0,none⟩) m (3*T+1),.bool false,.int .i64 0])/\m=cnF an (3*T+1)/\Row w' p (wtC 2 (.pointer (some ⟨g,0,none⟩)) (T:Nat) cl op key (.slice (some ⟨gN,0,none⟩) N N) (Yk tl i z) an ((voV (T:Nat) (3*T+1) (Yk tl i z))+1) cl (.slice (some ⟨gM,0,none⟩) N N) (.slice (some ⟨gT,0,none⟩) (3*T+1) (3*T+1))) 99/\GvX w' w.heap.size N T gM gT R Y M S/\We w' p y g gr gf gN P Q G N F s'/\Kept [p,y] w w'/\((∀k,k<3*T+1->an k=false)->Vy w' w.heap.size (3*T+1) 4 op key gO):=by
 have h7:i<7:=by omega
 go_enter func55,ntmps55
 have sb:=Z9 w;iterate 2 go_step
 refine rp ?_;refine p_v (.slice none 0 0) (fun _=>rfl) ?_;refine p_v (.bool false) (fun _=>rfl) ?_;refine p_v (.int .i64 0) (fun _=>rfl) (Za ?_);simp only[pv];iterate 3 go_step
 refine Ys (by kernel_rfl) [15] [(0,false),(1,false),(2,false),(3,false),(4,false),(5,false),(6,false),(7,false),(8,false),(9,false),(10,false),(11,false),(12,false),(13,false),(14,false),(15,true)] ?_ (by kernel_rfl);refine e_m ?_;refine e_m ?_;simp only[pv];refine e_v (.int .i64 (i:Nat)) (WZ _ _ _ _ rfl ((i+1:Nat):Int) 1 (i:Nat) rfl rfl (by omega) (by omega) (by omega)) ?_;refine e_m ?_;refine e_m ?_;simp only[pv];refine e_v (.int .i64 (i:Nat)) (WZ _ _ _ _ rfl ((i+1:Nat):Int) 1 (i:Nat) rfl rfl (by omega) (by omega) (by omega)) ?_;simp only[pv];refine e_v (.pointer (some ⟨p,0,none⟩)) (Zl _ rfl p (0) rfl) ?_;simp only[pv];refine e_v (.pointer (some ⟨p,7,none⟩)) (Zb 99 _ 7 rfl p (0) rfl _ underlying99 _ rfl 6 sizeOf75) ?_;simp only[pv];refine e_v (.pointer (some ⟨p,7+i*1,none⟩)) (ZE 75 _ _ rfl p 7 rfl i 7 rfl h7 _ underlying75 1 sizeOf3) ?_;simp only[pv];refine Yh (by rfl) 3 _ rfl _ (7+i*1) rfl (fun _ hb=>(r1.belowAll hb).r) (.int .i64 (tl i)) ((Tn i h7)) isAgg3 ?_;refine e_m ?_;simp only[pv];refine e_v (.int .i64 (max (tl i) z)) (Rv _ _ _ _ rfl (tl i) z rfl rfl) ?_;simp only[pv];refine e_v (.pointer (some ⟨p,0,none⟩)) (Zl _ rfl p (0) rfl) ?_;simp only[pv];refine e_v (.pointer (some ⟨p,7,none⟩)) (Zb 99 _ 7 rfl p (0) rfl _ underlying99 _ rfl 6 sizeOf75) ?_;simp only[pv];refine e_v (.pointer (some ⟨p,7+i*1,none⟩)) (ZE 75 _ _ rfl p 7 rfl i 7 rfl h7 _ underlying75 1 sizeOf3) ?_;simp only[pv];refine Wr (by rfl) 3 _ _ rfl _ (7+i*1) rfl r1 (.int .i64 (max (tl i) z)) rfl rfl rfl Yw (by rw[WS];omega) (wtC 1 (.pointer (some ⟨g,0,none⟩)) (T:Nat) cl op key (.slice (some ⟨gN,0,none⟩) N N) (Yk tl i z) an 0 0 (.slice none 0 0) (.slice none 0 0)) (Sb i h7 _) ?_;intro wa1 hq1 wb1 rr1 k1;refine⟨fun h=>(by cases h),?_⟩;simp only[Act.put];refine XY ?_;intro wz hqz;have kp:Kept [p] w wz:=((((Kept.ofBelow sb).more (S:=[]) (T:=[p]) (by simp)).trans (((Kept.refl [p] _).on hq1).trans k1 (fun b hb=>.inl hb)) (fun b hb=>.inl hb))).on hqz;have rz:=rr1.belowAll hqz;have hWz:=hW.on kp (by simp);have sz:=Z9 wz;have hvo:=fun w' (hb:Below wz.heap.size wz w')=>Qz (T:Nat) (some ⟨p,7,none⟩) (3*T+1) 7 (Yk tl i z) p 7 _ _ w' ⟨.inr ⟨rfl,(rz.belowAll hb).r,fun j hj=>Tn j (by omega)⟩⟩ (by omega)
 rw[hvb]at hvo;iterate 3 go_step
 refine ZF (by kernel_rfl) (by kernel_rfl) ?_;refine q_m ?_;simp only[pv];refine q_v (.pointer (some ⟨p,0,none⟩)) (Zl _ rfl p (0) rfl) ?_;simp only[pv];refine q_v _ (Zb 99 _ 2 rfl p (0) rfl _ underlying99 _ rfl 0 sizeOf3) ?_;simp only[pv];refine ZH (by rfl) 3 _ rfl _ (2) rfl rz (.int .i64 ((T:Nat))) rfl isAgg3 ?_;refine q_m ?_;simp only[pv];refine q_v (.pointer (some ⟨p,0,none⟩)) (Zl _ rfl p (0) rfl) ?_;simp only[pv];refine q_v _ (Zb 99 _ 7 rfl p (0) rfl _ underlying99 _ rfl 6 sizeOf75) ?_;refine q_m ?_;simp only[pv];refine q_k 53 func53 #[.pointer (some ⟨p,0,none⟩)] (fun w' hb=>WM p 1 (some ⟨g,0,none⟩) T cl op key _ _ _ _ _ _ _ w' (rz.belowAll hb) h2) ?_;simp only[pv];refine q_v _ (UO 75 _ _ _ 7 underlying75 sizeOf3 rfl p 7 (3*T+1) rfl rfl (by omega) (by decide)) ?_;simp only[pv];refine q_k 96 func96 #[.int .i64 (T:Nat),.slice (some ⟨p,7,none⟩) (3*T+1) 7] (fun w' hb=>hvo w' hb) ?_;refine q_m ?_;refine Vl (by rfl) rfl rfl rfl ?_;refine Vl (by rfl) rfl rfl rfl ?_;refine q_a ?_;simp only[pv];refine q_a ?_;simp only[pv];refine Z2 ?_;intro wv hqb;replace rz:=rz.belowAll hqb;replace sz:=b_o sz hqb;clear hqb;iterate 4 go_step
 refine rp ?_;refine p_m ?_;simp only[pv];refine p_v _ (Zp _ _ rfl true rfl) (Za ?_);simp only[pv];iterate 8 go_step
 refine rp ?_;refine p_m ?_;refine p_m ?_;refine p_m ?_;simp only[pv];refine p_f 97 func97 #[.pointer (some ⟨p,0,none⟩),.int .i64 (voV (T:Nat) (3*T+1) (Yk tl i z)),.pointer (some ⟨y,0,none⟩)] (Ce p y g gr gf gN P Q G N T F s cl op key (Yk tl i z) an (voV (T:Nat) (3*T+1) (Yk tl i z)) s' _ (hWz.below sz) rz f hP hQ hF hN hN2 h1 h2 hv hv2 hcl hd) ?_;rintro _ z5003 ⟨gM,gT,R,Y,M,S,rfl,rz,hG,hWd,kd⟩;refine⟨_,rfl,?_⟩;simp only[pv];refine p_a (Za ?_);simp only[pv];have ky:Kept [p,y] w z5003:=(((kp.on sz).more (T:=[p,y]) (by simp)).trans kd (fun b hb=>.inl hb));have se:=Z9 z5003;have hsz:w.heap.size<=z5003.heap.size:=ky.size;iterate 3 go_step
 refine rp ?_;refine p_m ?_;simp only[pv];refine p_v _ (ZC .i64 _ _ _ _ rfl (0) (0) rfl rfl false (by decide)) (Za ?_);simp only[pv];iterate 7 go_step
 refine rp ?_;refine p_m ?_;simp only[pv];refine p_f 62 func62 #[.pointer (some ⟨p,0,none⟩)] (LV p 2 (some ⟨g,0,none⟩) T cl op key _ _ an _ _ gM gT N _ rz hG h2 (by omega)) ?_;rintro _ z8001 ⟨gO,m,rfl,hm,hb,hOt⟩;refine⟨_,rfl,?_⟩;simp only[pv];replace rz:=rz.belowAll hb;replace hG:=hG.below hb;replace se:=se.trans ((Kept.ofBelow hb).below z5003.heap.size se.size (by simp));refine p_a ?_;refine p_v (.bool false) (fun _=>rfl) ?_;refine p_v (.int .i64 0) (fun _=>rfl) (Za ?_);simp only[pv];go_wp2
 go_ret3
 exact⟨_,_,_,_,_,_,_,_,rfl,hm,rz,hG.base (Nat.le_trans kp.size sz.size),(hWd.below se),ky.on se,fun h=>(hOt h).down (Nat.le_trans hsz (by omega))⟩
section
variable {P:Program}{o:Oper}{ρ:Operand->Value}
theorem X0 (t:TypeId)(x ix:Operand)(ho:o.op= .index t x ix)(n:Nat)(e:TypeId)(hu:P.underlying t=some (.array n e))(hz: ∀w,(sizeOf e).run P w= .ok 1 w)(ha: ∀w,(isAgg e).run P w= .ok false w)(cs:Array Value)(hx:ρ x= .agg cs)(i:Nat)(hy:ρ ix= .int .i64 i)(hi:i<n)(v:Value)(hc:cs[i]?=some v)(w:World):
  (execOp ρ o).run P w= .ok (.value v) w:=by
 have hp:(part e cs i).run P w= .ok v w:=by simp[part,ha,hc]
 unfold execOp;simp only[ho,hx,hy];simp[Instr.index,asIntOf,run_underlying hu,hz,hi,hp]
end
def Vf (an:Nat->Bool)(i:Nat):Nat->Bool:=fun j=>if j=i then true else an j
def anC (an:Nat->Bool):Array Value:=#[.bool (an 0),.bool (an 1),.bool (an 2),.bool (an 3),.bool (an 4),.bool (an 5),.bool (an 6)]
theorem Sf (an:Nat->Bool)(i:Nat)(h:i<7):(anC an)[i]?=some (.bool (an i)):=by
 match i,h with
 |0,_=>rfl
 |1,_=>rfl
 |2,_=>rfl
 |3,_=>rfl
 |4,_=>rfl
 |5,_=>rfl
 |6,_=>rfl
theorem LX:(prog.info? 97).map (·.size)=some 7:=by kernel_rfl
def cnT (B:Nat->Bool)(n:Nat):Nat:=cnF (fun k=> !B k) n
theorem QH {B:Nat->Bool}{k:Nat}(h:B k=true):cnT B (k+1)=cnT B k+1:=Eb (by rw[h];rfl)
theorem QI {B:Nat->Bool}{k:Nat}(h:B k=false):cnT B (k+1)=cnT B k:=IK (by rw[h];rfl)
theorem LY {a:Int}{gp:Option Addr}{T:Nat}{cl op:Int}{key:List UInt8}{nm:Value}{tl:Nat->Int}{an:Nat->Bool}{sq sc:Int}{mx ps:Value}: ∀j v,(anC an).toList[j]?=some v->(wtC a (.pointer gp) (T:Nat) cl op key nm tl an sq sc mx ps)[14+j]?=some v:=by
 intro j v hv
 match j,hv with
 |0,hv=>exact hv
 |1,hv=>exact hv
 |2,hv=>exact hv
 |3,hv=>exact hv
 |4,hv=>exact hv
 |5,hv=>exact hv
 |6,hv=>exact hv
theorem Cf (p:Nat)(a:Int)(gp:Option Addr)(T:Nat)(cl op:Int)(key:List UInt8)(nm:Value)(tl:Nat->Int)(an:Nat->Bool)(sq sc:Int)(mx ps:Value)(i:Nat)(w:World)(r1:Row w p (wtC a (.pointer gp) (T:Nat) cl op key nm tl an sq sc mx ps) 99)(hT:T<=2)(hi:i<3*T+1)(h:cnT (Vf an i) 7<2*T+1):
  Calls prog 56 #[.pointer (some ⟨p,0,none⟩),.int .i64 ((i+1:Nat):Int)] w fun e w'=>e= .returned (.tuple #[.slice none 0 0,.bool false,.int .i64 0])/\Row w' p (wtC a (.pointer gp) (T:Nat) cl op key nm tl (Vf an i) sq sc mx ps) 99/\Kept [p] w w':=by
 have h7:i<7:=by omega
 go_enter func56,ntmps56
 have sb:=Z9 w;iterate 2 go_step
 refine rp ?_;refine p_v (.slice none 0 0) (fun _=>rfl) ?_;refine p_v (.bool false) (fun _=>rfl) ?_;refine p_v (.int .i64 0) (fun _=>rfl) (Za ?_);simp only[pv];iterate 3 go_step
 refine rp ?_;refine p_m ?_;refine p_m ?_;simp only[pv];refine p_v _ (WZ _ _ _ _ rfl ((i+1:Nat):Int) 1 (i:Nat) rfl rfl (by omega) (by omega) (by omega)) ?_;simp only[pv];refine p_v (.pointer (some ⟨p,0,none⟩)) (Zl _ rfl p (0) rfl) ?_;simp only[pv];refine p_v _ (Zb 99 _ 8 rfl p (0) rfl _ underlying99 _ rfl 6 sizeOf97) ?_;simp only[pv];refine p_v _ (ZE 97 _ _ rfl p 14 rfl i 7 rfl h7 _ underlying97 1 sizeOf4) ?_;simp only[pv];refine Yj (by rfl) 4 _ _ rfl _ (14+i*1) rfl r1 (.bool true) rfl rfl rfl VN (by rw[WS];omega) (wtC a (.pointer gp) (T:Nat) cl op key nm tl (Vf an i) sq sc mx ps) (LH i h7) ?_;clear r1;intro z1006 r1 k3;simp only[Act.put];refine Za ?_;have kp:Kept [p] w z1006:=(((Kept.ofBelow sb).more (S:=[]) (T:=[p]) (by simp)).trans k3 (fun b hb=>.inl hb));clear sb k3;have sb:=Z9 z1006;iterate 3 go_step
 refine rp ?_;refine p_v (.int .i64 0) (fun _=>rfl) (Za ?_);simp only[pv];iterate 4 go_step
 refine rp ?_;refine p_m ?_;simp only[pv];refine p_v (.pointer (some ⟨p,0,none⟩)) (Zl _ rfl p (0) rfl) ?_;simp only[pv];refine p_v _ (Zb 99 _ 8 rfl p (0) rfl _ underlying99 _ rfl 6 sizeOf97) ?_;simp only[pv];refine Zf (by rfl) 97 _ rfl _ 14 rfl r1.r (anC (Vf an i)) LY _ underlying97 rfl (by exact LX) ?_;refine p_v (.int .i64 0) (fun _=>rfl) (Za ?_);simp only[pv]
 go_wp2_with fail
 go_loopg [7,9,20] 7 (fun x s7 s9 s20 wr=> ∃(k:Nat),k+x=7/\s20= .int .i64 k/\s7= .int .i64 (cnT (Vf an i) k:Nat)/\Row wr p (wtC a (.pointer gp) (T:Nat) cl op key nm tl (Vf an i) sq sc mx ps) 99/\Below z1006.heap.size z1006 wr)
 case atStart=>exact⟨0,by omega,rfl,rfl,r1,sb⟩
 case round=>
  clear sb r1;obtain⟨k,hk,rfl,rfl,r1,sb⟩:=hrel
  cases gk with
  |zero=>
   obtain rfl:k=7:=by omega
   clear hk
   go_step
   refine rp ?_;refine p_v _ (YV _ _ _ _ rfl (((7:Nat):Int)) (7) rfl rfl false (by decide)) (Za ?_);simp only[pv];iterate 9 go_step
   refine rp ?_;refine p_m ?_;refine p_m ?_;simp only[pv];refine p_f 99 func99 #[.pointer (some ⟨p,0,none⟩)] (LO p a gp T cl op key nm tl _ sq sc mx ps _ r1 hT) ?_;rintro _ z9002 ⟨rfl,hb⟩;refine⟨_,rfl,?_⟩;simp only[pv];have k:=Kept.ofBelow hb;clear hb;replace r1:=k.ro r1;replace sb:=kk sb k;clear k;refine p_v _ (XK ((cnT (Vf an i) 7:Nat)) (((2*T+1:Nat):Int))) (Za ?_);simp only[pv];iterate 4 go_step
   refine rp ?_;refine p_v (.slice none 0 0) (fun _=>rfl) ?_;refine p_v (.bool false) (fun _=>rfl) ?_;refine p_v (.int .i64 0) (fun _=>rfl) (Za ?_);simp only[pv];go_wp2
   go_ret3
   exact⟨rfl,r1,kp.on sb⟩
  |succ y=>
   have hlt:k<7:=by omega
   cases hBk:Vf an i k
   ·skip
    go_step
    refine rp ?_;refine p_v _ (XK ((k:Nat)) (7)) (Za ?_);simp only[pv];iterate 10 go_step
    refine rp ?_;refine p_v (.bool false) (X0 97 _ _ rfl 7 _ underlying97 sizeOf4 isAgg4 _ rfl k rfl hlt _ (by rw[Sf _ k hlt,hBk])) ?_;refine p_a (Za ?_);simp only[pv];iterate 3 go_step
    refine rp ?_;refine p_m (Za ?_);simp only[pv];iterate 6 go_step
    refine rp ?_;refine p_v _ (x_a k 1) ?_;refine p_m (Za ?_);simp only[pv];go_wp2
    go_roundg y
    case measure=>omega
    case rel=>exact⟨k+1,by omega,rfl,by rw[QI hBk],r1,sb⟩
   ·skip
    go_step
    refine rp ?_;refine p_v _ (XK ((k:Nat)) (7)) (Za ?_);simp only[pv];iterate 10 go_step
    refine rp ?_;refine p_v (.bool true) (X0 97 _ _ rfl 7 _ underlying97 sizeOf4 isAgg4 _ rfl k rfl hlt _ (by rw[Sf _ k hlt,hBk])) ?_;refine p_a (Za ?_);simp only[pv];iterate 3 go_step
    refine rp ?_;refine p_m (Za ?_);simp only[pv];iterate 3 go_step
    refine rp ?_;refine p_m ?_;simp only[pv];refine p_v _ (YJ _ _ _ _ rfl (cnT (Vf an i) k) 1 rfl rfl (by have:=LU (fun k=> !Vf an i k) k;unfold cnT;omega)) ?_;refine p_a (Za ?_);simp only[pv];iterate 2 go_step
    refine rp ?_;refine p_v _ (x_a k 1) ?_;refine p_m (Za ?_);simp only[pv];go_wp2
    go_roundg y
    case measure=>omega
    case rel=>exact⟨k+1,by omega,rfl,by rw[QH hBk],r1,sb⟩
theorem Eg (p:Nat)(a:Int)(gp:Option Addr)(T:Nat)(cl op:Int)(key:List UInt8)(nm:Value)(tl:Nat->Int)(an:Nat->Bool)(sq sc:Int)(mx ps:Value)(i:Nat)(w:World)(r1:Row w p (wtC a (.pointer gp) (T:Nat) cl op key nm tl an sq sc mx ps) 99)(hT:T<=2)(hi:i<3*T+1)(h:2*T+1<=cnT (Vf an i) 7):
  Calls prog 56 #[.pointer (some ⟨p,0,none⟩),.int .i64 ((i+1:Nat):Int)] w fun e w'=> ∃vo,e= .returned (.tuple #[vo,.bool true,.int .i64 0])/\Row w' p (wtC 3 (.pointer gp) (T:Nat) cl op key nm tl (Vf an i) sq sc mx ps) 99/\Kept [p] w w':=by
 have h7:i<7:=by omega
 go_enter func56,ntmps56
 have sb:=Z9 w;iterate 2 go_step
 refine rp ?_;refine p_v (.slice none 0 0) (fun _=>rfl) ?_;refine p_v (.bool false) (fun _=>rfl) ?_;refine p_v (.int .i64 0) (fun _=>rfl) (Za ?_);simp only[pv];iterate 3 go_step
 refine rp ?_;refine p_m ?_;refine p_m ?_;simp only[pv];refine p_v _ (WZ _ _ _ _ rfl ((i+1:Nat):Int) 1 (i:Nat) rfl rfl (by omega) (by omega) (by omega)) ?_;simp only[pv];refine p_v (.pointer (some ⟨p,0,none⟩)) (Zl _ rfl p (0) rfl) ?_;simp only[pv];refine p_v _ (Zb 99 _ 8 rfl p (0) rfl _ underlying99 _ rfl 6 sizeOf97) ?_;simp only[pv];refine p_v _ (ZE 97 _ _ rfl p 14 rfl i 7 rfl h7 _ underlying97 1 sizeOf4) ?_;simp only[pv];refine Yj (by rfl) 4 _ _ rfl _ (14+i*1) rfl r1 (.bool true) rfl rfl rfl VN (by rw[WS];omega) (wtC a (.pointer gp) (T:Nat) cl op key nm tl (Vf an i) sq sc mx ps) (LH i h7) ?_;clear r1;intro z1006 r1 k3;simp only[Act.put];refine Za ?_;have kp:Kept [p] w z1006:=(((Kept.ofBelow sb).more (S:=[]) (T:=[p]) (by simp)).trans k3 (fun b hb=>.inl hb));clear sb k3;have sb:=Z9 z1006;iterate 3 go_step
 refine rp ?_;refine p_v (.int .i64 0) (fun _=>rfl) (Za ?_);simp only[pv];iterate 4 go_step
 refine rp ?_;refine p_m ?_;simp only[pv];refine p_v (.pointer (some ⟨p,0,none⟩)) (Zl _ rfl p (0) rfl) ?_;simp only[pv];refine p_v _ (Zb 99 _ 8 rfl p (0) rfl _ underlying99 _ rfl 6 sizeOf97) ?_;simp only[pv];refine Zf (by rfl) 97 _ rfl _ 14 rfl r1.r (anC (Vf an i)) LY _ underlying97 rfl (by exact LX) ?_;refine p_v (.int .i64 0) (fun _=>rfl) (Za ?_);simp only[pv]
 go_wp2_with fail
 go_loopg [7,9,20] 7 (fun x s7 s9 s20 wr=> ∃(k:Nat),k+x=7/\s20= .int .i64 k/\s7= .int .i64 (cnT (Vf an i) k:Nat)/\Row wr p (wtC a (.pointer gp) (T:Nat) cl op key nm tl (Vf an i) sq sc mx ps) 99/\Below z1006.heap.size z1006 wr)
 case atStart=>exact⟨0,by omega,rfl,rfl,r1,sb⟩
 case round=>
  clear sb r1;obtain⟨k,hk,rfl,rfl,r1,sb⟩:=hrel
  cases gk with
  |zero=>
   obtain rfl:k=7:=by omega
   clear hk
   go_step
   refine rp ?_;refine p_v _ (YV _ _ _ _ rfl (((7:Nat):Int)) (7) rfl rfl false (by decide)) (Za ?_);simp only[pv];iterate 9 go_step
   refine rp ?_;refine p_m ?_;refine p_m ?_;simp only[pv];refine p_f 99 func99 #[.pointer (some ⟨p,0,none⟩)] (LO p a gp T cl op key nm tl _ sq sc mx ps _ r1 hT) ?_;rintro _ z9002 ⟨rfl,hb⟩;refine⟨_,rfl,?_⟩;simp only[pv];have k:=Kept.ofBelow hb;clear hb;replace r1:=k.ro r1;replace sb:=kk sb k;clear k;refine p_v _ (Xy ((cnT (Vf an i) 7:Nat)) (((2*T+1:Nat):Int))) (Za ?_);simp only[pv];iterate 7 go_step
   refine rp ?_;refine p_m ?_;simp only[pv];refine p_f 98 func98 #[.pointer (some ⟨p,0,none⟩),.int .i64 0] (LW p a gp T cl op key nm tl _ sq sc mx ps 0 _ r1 hT) ?_;rintro _ z11001 ⟨go,rfl,r1,ke⟩;refine⟨_,rfl,?_⟩;simp only[pv];refine p_e ?_;refine p_e ?_;refine p_e ?_;refine p_a ?_;refine p_a ?_;simp only[pv];refine p_a (Za ?_);simp only[pv];go_wp2
   go_ret3
   exact⟨_,rfl,r1,(kp.on sb).trans ke (fun b hb=>.inl hb)⟩
  |succ y=>
   have hlt:k<7:=by omega
   cases hBk:Vf an i k
   ·skip
    go_step
    refine rp ?_;refine p_v _ (XK ((k:Nat)) (7)) (Za ?_);simp only[pv];iterate 10 go_step
    refine rp ?_;refine p_v (.bool false) (X0 97 _ _ rfl 7 _ underlying97 sizeOf4 isAgg4 _ rfl k rfl hlt _ (by rw[Sf _ k hlt,hBk])) ?_;refine p_a (Za ?_);simp only[pv];iterate 3 go_step
    refine rp ?_;refine p_m (Za ?_);simp only[pv];iterate 6 go_step
    refine rp ?_;refine p_v _ (x_a k 1) ?_;refine p_m (Za ?_);simp only[pv];go_wp2
    go_roundg y
    case measure=>omega
    case rel=>exact⟨k+1,by omega,rfl,by rw[QI hBk],r1,sb⟩
   ·skip
    go_step
    refine rp ?_;refine p_v _ (XK ((k:Nat)) (7)) (Za ?_);simp only[pv];iterate 10 go_step
    refine rp ?_;refine p_v (.bool true) (X0 97 _ _ rfl 7 _ underlying97 sizeOf4 isAgg4 _ rfl k rfl hlt _ (by rw[Sf _ k hlt,hBk])) ?_;refine p_a (Za ?_);simp only[pv];iterate 3 go_step
    refine rp ?_;refine p_m (Za ?_);simp only[pv];iterate 3 go_step
    refine rp ?_;refine p_m ?_;simp only[pv];refine p_v _ (YJ _ _ _ _ rfl (cnT (Vf an i) k) 1 rfl rfl (by have:=LU (fun k=> !Vf an i k) k;unfold cnT;omega)) ?_;refine p_a (Za ?_);simp only[pv];iterate 2 go_step
    refine rp ?_;refine p_v _ (x_a k 1) ?_;refine p_m (Za ?_);simp only[pv];go_wp2
    go_roundg y
    case measure=>omega
    case rel=>exact⟨k+1,by omega,rfl,by rw[QH hBk],r1,sb⟩
theorem IM (s:List UInt8)(a n:Nat):(s.take (a+n)).drop a=(s.drop a).take n:=by
 rw[List.drop_take,Nat.add_sub_cancel_left]
end Go.Proofs.YtcdahmommonnfaaGreatDoor
