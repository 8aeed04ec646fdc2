import Derived.Test.YtnagnkhbamhfmaaGreatDoorMB
namespace Go.Proofs.YtnagnkhbamhfmaaGreatDoor
set_option linter.all false
open Go.RowKit
open Go.Proofs.Tryz
set_option maxRecDepth 100000 in
set_option maxHeartbeats 8000000 in
theorem AF (a1 a2:Option Addr)(n c1 c2:Nat)(I:Nat->Int)(V1 V2:Nat->Value)(g1 o1 g2 o2:Nat)(b1 b2:Array Value)(t1 t2:TypeId)(N:Nat->Nat)(M:Nat->Nat->Nat)(w:World)(hn:n<4611686018427387904)(hN: ∀i,i<n->N i<4611686018427387904)(h1:ElsAt 2 w a1 n (fun k=>ptC (I k) (V1 k)) g1 o1 b1 t1)(h2:ElsAt 2 w a2 n (fun k=>ptC (I k) (V2 k)) g2 o2 b2 t2)(hS1: ∀i,i<n->M4 w (V1 i) (N i) (M i))(hS2: ∀i,i<n->M4 w (V2 i) (N i) (M i)):
  Calls prog 12 #[.slice a1 n c1,.slice a2 n c2] w fun e w'=>e= .returned (.bool true)/\Below w.heap.size w w':=by
 have H1:Hid (ElsAt 2 w a1 n (fun k=>ptC (I k) (V1 k)) g1 o1 b1 t1):=h1;have H2:Hid (ElsAt 2 w a2 n (fun k=>ptC (I k) (V2 k)) g2 o2 b2 t2):=h2;clear h1 h2
 go_enter func12,ntmps12
 have sb:=YG w;repeat((fail_if_success with_reducible apply rg);go_step)
 refine rp ?_;refine p_v (.bool false) (fun _=>rfl) (Zb ?_);simp only[pv];repeat((fail_if_success with_reducible apply rg);go_step)
 refine rp ?_;refine p_m ?_;simp only[pv];refine p_v _ (n_l a1 n c1 XR) ?_;refine p_m ?_;simp only[pv];refine p_v _ (n_l a2 n c2 XR) ?_;simp only[pv];refine p_v _ (ZX .i64 _ _ _ _ rfl n n rfl rfl false (by rw[d_ rfl];rfl)) (Zb ?_);simp only[pv];repeat((fail_if_success with_reducible apply rg);go_step)
 refine rp ?_;refine p_v (.int .i64 0) (fun _=>rfl) (Zb ?_);simp only[pv]
 go_wp2_with fail
 go_loopg [5] n (fun x s5 wr=> ∃i:Nat,i+x=n/\s5= .int .i64 i/\Below w.heap.size w wr)
 case atStart=>exact⟨0,by omega,rfl,sb⟩
 case round=>
  clear sb;obtain⟨i,hi,rfl,sb⟩:=hrel
  cases gk with
  |zero=>
   obtain rfl:i=n:=by omega
   clear hi hS1 hS2 H1 H2;repeat((fail_if_success with_reducible apply rg);go_step)
   refine rp ?_;refine p_m ?_;refine p_m ?_;simp only[pv];refine p_v _ (n_l a1 i c1 XR) ?_;refine p_v _ (Xe i i) (Zb ?_);simp only[pv];repeat((fail_if_success with_reducible apply rg);go_step)
   refine rp ?_;refine p_v (.bool true) (fun _=>rfl) (Zb ?_);simp only[pv];go_wp2;go_ret;exact⟨rfl,sb⟩
  |succ x=>
   have hlt:i<n:=by omega
   obtain h0|⟨rfl,r1,hb1⟩:=(H1.out.below sb).at'
   ·exact absurd h0 (by omega)
   obtain h0|⟨rfl,r2,hb2⟩:=(H2.out.below sb).at'
   ·exact absurd h0 (by omega)
   have hi1:=hb1 i hlt 0 (.int .i64 (I i)) rfl;have hi2:=hb2 i hlt 0 (.int .i64 (I i)) rfl;have hy1:=hb1 i hlt 1 (V1 i) rfl;have hy2:=hb2 i hlt 1 (V2 i) rfl;rw[cC0]at hi1 hi2;obtain⟨e1,d1,x1,y1,z1,u1,q1,hn1⟩:=hS1 i hlt;obtain⟨e2,d2,x2,y2,z2,u2,q2,hn2⟩:=hS2 i hlt;rw[q1]at hy1;rw[q2]at hy2;have hsa:=fun w' (hb:Below w.heap.size w w')=>Us (N i) d1 d2 e1 e2 (M i) x1 y1 x2 y2 z1 z2 u1 u2 w' (by have:=hN i hlt;omega) (hn1.below hb) (hn2.below hb)
   clear hb1 hb2 hn1 hn2 q1 q2 hS1 hS2;repeat((fail_if_success with_reducible apply rg);go_step)
   refine rp ?_;refine p_m ?_;refine p_m ?_;simp only[pv];refine p_v _ (n_l (some ⟨g1,o1,none⟩) n c1 XR) ?_;refine p_v _ (X4 i n) (Zb ?_);simp only[pv];repeat((fail_if_success with_reducible apply rg);go_step)
   refine ZD (by kernel_rfl) (by kernel_rfl) ?_;refine q_m ?_;refine q_m ?_;simp only[pv];refine q_x i hlt aZ0 eD0 ?_;simp only[pv];refine q_v _ (Zh 64 _ 0 rfl g1 (o1+i*2) rfl _ aG0 _ rfl 0 aJ0) ?_;simp only[pv];refine Ym (by rfl) 3 _ rfl _ (o1+i*2) rfl r1 (.int .i64 (I i)) hi1 bG0 ?_;refine q_m ?_;refine q_m ?_;simp only[pv];refine q_x i hlt aZ0 eD0 ?_;simp only[pv];refine q_v _ (Zh 64 _ 0 rfl g2 (o2+i*2) rfl _ aG0 _ rfl 0 aJ0) ?_;simp only[pv];refine Ym (by rfl) 3 _ rfl _ (o2+i*2) rfl r2 (.int .i64 (I i)) hi2 bG0 ?_;simp only[pv];refine q_v _ (ZX .i64 _ _ _ _ rfl (I i) (I i) rfl rfl false (by rw[d_ rfl];rfl)) ?_;refine q_m ?_;refine q_m ?_;refine q_m ?_;simp only[pv];refine q_x i hlt aZ0 eD0 ?_;simp only[pv];refine q_v _ (Zh 64 _ 1 rfl g1 (o1+i*2) rfl _ aG0 _ rfl 0 aO0) ?_;simp only[pv];refine Ym (by rfl) 22 _ rfl _ (o1+i*2+1) rfl r1 (.slice e1 (N i) d1) hy1 aD0 ?_;refine q_m ?_;refine q_m ?_;simp only[pv];refine q_x i hlt aZ0 eD0 ?_;simp only[pv];refine q_v _ (Zh 64 _ 1 rfl g2 (o2+i*2) rfl _ aG0 _ rfl 0 aO0) ?_;simp only[pv];refine Ym (by rfl) 22 _ rfl _ (o2+i*2+1) rfl r2 (.slice e2 (N i) d2) hy2 aD0 ?_;simp only[pv];refine q_k 17 func17 #[.slice e1 (N i) d1,.slice e2 (N i) d2] (fun w' hb=>hsa w' (Zk sb (c_ _) hb)) ?_;simp only[pv];refine q_v _ (Zz _ _ rfl true rfl) ?_;refine q_p false (.bool false) ?_;simp only[pv];refine ZR ?_;intro w6 hqb;replace sb:=b_o sb hqb;clear hqb;repeat((fail_if_success with_reducible apply rg);go_step)
   refine rp ?_;refine p_m ?_;simp only[pv];refine p_v _ (x_a i 1) ?_;refine p_a (Zb ?_);simp only[pv];go_wp2
   go_roundg x
   case measure=>omega
   case rel=>exact⟨i+1,by omega,rfl,sb⟩
def OU (A:Nat->Nat)(q:Nat):Nat->Bool
 |0=>true
 |n+1=>OU A q n&&decide (A n<q)
theorem Sw (A:Nat->Nat)(q:Nat): ∀n,OU A q n=true↔ ∀i,i<n->A i<q
 |0=>⟨fun _ i h=>absurd h (by omega),fun _=>rfl⟩
 |n+1=>by
  unfold OU;rw[s_,Sw A q n,X_];refine⟨fun⟨h1,h2⟩ i hi=>?_,fun h=>⟨fun i hi=>h i (by omega),h n (by omega)⟩⟩;by_cases e:i=n
  ·rw[e];exact h2
  ·exact h1 i (by omega)
theorem AG {A:Nat->Nat}{q n k:Nat}(hk:k<n)(h: ¬A k<q):OU A q n=false:=by
 cases hb:OU A q n with
 |false=>rfl
 |true=>exact absurd ((Sw A q n).1 hb k hk) h
set_option maxRecDepth 100000 in
set_option maxHeartbeats 8000000 in
theorem IP (ab:Option Addr)(n c:Nat)(A:Nat->Nat)(gb ob:Nat)(bcs:Array Value)(tb:TypeId)(Q:Nat)(w:World)(hn:n<4611686018427387904)(hQ:Q<4611686018427387904)(hna:NatsAt w ab n A gb ob bcs tb):
  Calls prog 37 #[.slice ab n c,.int .i64 (Q:Nat)] w fun e w'=>e= .returned (.bool (OU A Q n))/\Below w.heap.size w w':=by
 have hin:=fun w'=>Vp (Q:Nat) w' (by omega)
 rw[q_]at hin;have hcm:=fun i (hi:i<n) w'=>I4 (A i) Q w' (hna.lt i hi) (by omega)
 have HB:Hid (NatsAt w ab n A gb ob bcs tb):=hna;have HE:Hid (∀k,k=n->(∀i,i<k->A i<Q)->OU A Q n=true):=fun k e h=>(Sw A Q n).2 (by rw[<-e];exact h)
 have HN:Hid (∀i,i<n-> ¬A i<Q->OU A Q n=false):=fun i hi h=>AG hi h
 generalize OU A Q n=R at*;clear hna
 go_enter func37,ntmps37
 have sb:=YG w;repeat((fail_if_success with_reducible apply rg);go_step)
 refine rp ?_;refine p_v (.bool false) (fun _=>rfl) (Zb ?_);simp only[pv];repeat((fail_if_success with_reducible apply rg);go_step)
 refine rp ?_;refine p_v (.int .i64 0) (fun _=>rfl) (Zb ?_);simp only[pv]
 go_wp2_with fail
 go_loopg [5] n (fun x s5 wr=> ∃i:Nat,i+x=n/\s5= .int .i64 i/\(∀j,j<i->A j<Q)/\Below w.heap.size w wr)
 case atStart=>exact⟨0,by omega,rfl,fun j h=>by omega,sb⟩
 case round=>
  clear sb;obtain⟨i,hi,rfl,hlo,sb⟩:=hrel
  cases gk with
  |zero=>
   obtain rfl:i=n:=by omega
   have HR:Hid (R=true):=HE.out i rfl hlo;repeat((fail_if_success with_reducible apply rg);go_step)
   refine rp ?_;refine p_m ?_;refine p_m ?_;simp only[pv];refine p_v _ (n_l ab i c Zm) ?_;refine p_v _ (Xe i i) (Zb ?_);simp only[pv];repeat((fail_if_success with_reducible apply rg);go_step)
   refine rp ?_;refine p_v (.bool true) (fun _=>rfl) (Zb ?_);simp only[pv];go_wp2;go_ret;exact⟨by rw[HR.out];rfl,sb⟩
  |succ x=>
   have hlt:i<n:=by omega
   obtain h0|⟨rfl,rB,hbt⟩:=(HB.out.below sb).at'
   ·exact absurd h0 (by omega)
   have hb1:=hbt i hlt;have hcm2:=hcm i hlt;clear hbt hcm;by_cases hq:A i<Q
   ·have hB:decide ((0:Int)<=Wn (A i) Q)=false:=e_ (by unfold Wn;split<;>(try split)<;>omega)
    have HL:Hid (∀j,j<i+1->A j<Q):=fun j hj=>by
     by_cases e:j=i
     ·rw[e];exact hq
     ·exact hlo j (by omega)
    repeat((fail_if_success with_reducible apply rg);go_step)
    refine rp ?_;refine p_m ?_;refine p_m ?_;simp only[pv];refine p_v _ (n_l (some ⟨gb,ob,none⟩) n c Zm) ?_;refine p_v _ (X4 i n) (Zb ?_);simp only[pv];repeat((fail_if_success with_reducible apply rg);go_step)
    refine ZD (by kernel_rfl) (by kernel_rfl) ?_;refine q_m ?_;refine q_m ?_;simp only[pv];refine q_x i hlt r_ ZC ?_;simp only[pv];refine X9 (by rfl) 57 _ rfl _ (ob+i*4) rfl rB (Zc (A i)) hb1 _ b_ rfl Zd ?_;refine q_m ?_;simp only[pv];refine q_c 40 iQ0 #[.int .i64 (Q:Nat)] hin ?_;simp only[pv];refine q_c 86 func86 #[.agg (Zc (A i)),.agg (Zc Q)] hcm2 ?_;simp only[pv];refine q_v _ (ZY _ _ _ _ rfl (Wn (A i) Q) 0 rfl rfl false hB) ?_;simp only[pv];refine ZR ?_;intro w6 hqb;replace sb:=b_o sb hqb;clear hqb;repeat((fail_if_success with_reducible apply rg);go_step)
    refine rp ?_;refine p_m ?_;simp only[pv];refine p_v _ (x_a i 1) ?_;refine p_a (Zb ?_);simp only[pv];go_wp2
    go_roundg x
    case measure=>omega
    case rel=>exact⟨i+1,by omega,rfl,HL.out,sb⟩
   ·have hB:decide ((0:Int)<=Wn (A i) Q)=true:=d_ (by unfold Wn;split<;>(try split)<;>omega);have HR:Hid (R=false):=HN.out i hlt hq;repeat((fail_if_success with_reducible apply rg);go_step)
    refine rp ?_;refine p_m ?_;refine p_m ?_;simp only[pv];refine p_v _ (n_l (some ⟨gb,ob,none⟩) n c Zm) ?_;refine p_v _ (X4 i n) (Zb ?_);simp only[pv];repeat((fail_if_success with_reducible apply rg);go_step)
    refine ZD (by kernel_rfl) (by kernel_rfl) ?_;refine q_m ?_;refine q_m ?_;simp only[pv];refine q_x i hlt r_ ZC ?_;simp only[pv];refine X9 (by rfl) 57 _ rfl _ (ob+i*4) rfl rB (Zc (A i)) hb1 _ b_ rfl Zd ?_;refine q_m ?_;simp only[pv];refine q_c 40 iQ0 #[.int .i64 (Q:Nat)] hin ?_;simp only[pv];refine q_c 86 func86 #[.agg (Zc (A i)),.agg (Zc Q)] hcm2 ?_;simp only[pv];refine q_v _ (ZY _ _ _ _ rfl (Wn (A i) Q) 0 rfl rfl true hB) ?_;simp only[pv];refine ZR ?_;intro w6 hqb;replace sb:=b_o sb hqb;clear hqb;repeat((fail_if_success with_reducible apply rg);go_step)
    refine rp ?_;refine p_v (.bool false) (fun _=>rfl) (Zb ?_);simp only[pv];go_wp2;go_ret;exact⟨by rw[HR.out];rfl,sb⟩
end Go.Proofs.YtnagnkhbamhfmaaGreatDoor
