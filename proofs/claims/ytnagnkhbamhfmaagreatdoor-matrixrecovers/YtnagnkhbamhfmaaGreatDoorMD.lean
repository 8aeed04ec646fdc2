import Derived.Test.YtnagnkhbamhfmaaGreatDoorMB
import Derived.Test.YtnagnkhbamhfmaaGreatDoorCR
set_option maxRecDepth 100000
set_option maxHeartbeats 8000000
namespace Go.Proofs.YtnagnkhbamhfmaaGreatDoor
set_option linter.all false
open Go.RowKit
open Go.Proofs.Tryz
def Hy (t P Q:Nat)(N:Nat->Nat)(M:Nat->Nat->Nat)(k:Nat):Bool:=decide (N k=t+1)&&Sh P Q (M k) (N k)
def Nj (t P Q:Nat)(N:Nat->Nat)(M:Nat->Nat->Nat)(n:Nat):Bool:= !anB (fun k=> !Hy t P Q N M k) n&&(decide (1<=t)&&(decide (t<=2)&&(decide (1<=n)&&decide (n<=25))))
theorem Rj {B:Nat->Bool}{n k:Nat}(hk:k<n)(h:B k=true):anB B n=true:=by
 induction n with
 |zero=>omega
 |succ n ih=>
  by_cases e:k=n
  ·subst e;simp[anB,h]
  ·simp[anB,ih (by omega)]
theorem Qn {B:Nat->Bool}{n:Nat}(h:anB B n=false)(hb:B n=false):anB B (n+1)=false:=by simp[anB,h,hb]
theorem L9 (ab:Option Addr)(n c t P Q G:Nat)(S:Nat->Value)(gb ob:Nat)(bcs:Array Value)(tb:TypeId)(N:Nat->Nat)(M:Nat->Nat->Nat)(w:World)(ht:t<=100)(h2:2<=P)(hP:P<4611686018427387904)(h0:0<Q)(hQ:Q<4611686018427387904)(hn:n<4611686018427387904)(hN: ∀i,i<n->N i<4611686018427387904)(hna:VsAt w ab n S gb ob bcs tb)(hS: ∀i,i<n->SA w (S i) (N i) (M i)):
  Calls prog 48 #[.agg (smC (P:Nat) (Q:Nat) (G:Nat)),.int .i64 (t:Nat),.slice ab n c] w fun e w'=>e= .returned (.bool (Nj t P Q N M n))/\Below w.heap.size w w':=by
 have hmy:=fun i (hi:i<n) e d x y z u (hq:NatsAt w e (N i) (M i) x y z u) w' (hb:Below w.heap.size w w')=>Ri e (N i) d P Q G (M i) x y z u w' (hN i hi) h2 hP h0 hQ (hq.below hb)
 have HB:Hid (VsAt w ab n S gb ob bcs tb):=hna
 have HT:Hid (anB (fun k=> !Hy t P Q N M k) n=false-> ∀B,(decide (1<=t)&&(decide (t<=2)&&(decide (1<=n)&&decide (n<=25))))=B->Nj t P Q N M n=B):=fun h B hB=>by unfold Nj;rw[h,hB];rfl
 have HN:Hid (∀i,i<n->Hy t P Q N M i=false->Nj t P Q N M n=false):=fun i hi h=>by unfold Nj;rw[Rj (B:=fun k=> !Hy t P Q N M k) hi (by rw[h];rfl)];rfl
 generalize Nj t P Q N M n=R at*;clear hna
 go_enter func48,ntmps48
 iterate 2 go_step
 refine rp ?_;refine Zy (by rfl) 27 _ rfl (smC (P:Nat) (Q:Nat) (G:Nat)) rfl ?_;intro g3 z0 n0 r3 k;refine p_W ?_;have b3:w.heap.size<=g3:=n0;clear n0;have sb:=k_b k;clear k;refine p_V (.bool false) (fun _=>rfl) ?_;iterate 4 go_step
 refine rp ?_;refine p_V (.int .i64 0) (fun _=>rfl) ?_
 go_wp2_with fail
 go_loopg [7] n (fun x s7 wr=> ∃i:Nat,i+x=n/\s7= .int .i64 i/\anB (fun k=> !Hy t P Q N M k) i=false/\Row wr g3 (smC (P:Nat) (Q:Nat) (G:Nat)) 27/\Below w.heap.size w wr)
 case atStart=>exact⟨0,by omega,rfl,rfl,r3,sb⟩
 case round=>
  clear sb r3;obtain⟨i,hi,rfl,han,r3,sb⟩:=hrel
  cases gk with
  |zero=>
   obtain rfl:n=i:=by omega
   have HT2:=HT.out han;clear HT HN hmy hi;iterate 2 go_step
   refine r_p ?_;refine p_V _ (n_l ab n c Yq) ?_;refine p_V _ (YN n n) ?_;by_cases t1:1<=t
   ·by_cases t2:t<=2
    ·by_cases t3:1<=n
     ·by_cases t4:n<=25
      ·have HR:Hid (R=true):=HT2 true (by rw[c_ t1,c_ t2,c_ t3,c_ t4];rfl);clear HT2;iterate 7 go_step
       refine r_p ?_;refine p_V _ (ZL _ _ _ _ rfl (t:Nat) 1 rfl rfl true (c_ (by omega))) ?_;refine p_V _ (ZR _ _ _ _ rfl (t:Nat) 2 rfl rfl true (c_ (by omega))) ?_;refine p_K true (.bool true) ?_;refine p_V _ (n_l ab n c Yq) ?_;refine p_V _ (ZL _ _ _ _ rfl (n:Nat) 1 rfl rfl true (c_ (by omega))) ?_;refine p_K true (.bool true) ?_;refine p_V _ (n_l ab n c Yq) ?_;refine p_V _ (ZR _ _ _ _ rfl (n:Nat) 25 rfl rfl true (c_ (by omega))) ?_;refine p_K true (.bool true) ?_;go_wp2;go_ret;exact⟨by rw[HR.out];rfl,sb⟩
      ·have HR:Hid (R=false):=HT2 false (by rw[d_ t4];simp);clear HT2;iterate 7 go_step
       refine r_p ?_;refine p_V _ (ZL _ _ _ _ rfl (t:Nat) 1 rfl rfl true (c_ (by omega))) ?_;refine p_V _ (ZR _ _ _ _ rfl (t:Nat) 2 rfl rfl true (c_ (by omega))) ?_;refine p_K true (.bool true) ?_;refine p_V _ (n_l ab n c Yq) ?_;refine p_V _ (ZL _ _ _ _ rfl (n:Nat) 1 rfl rfl true (c_ (by omega))) ?_;refine p_K true (.bool true) ?_;refine p_V _ (n_l ab n c Yq) ?_;refine p_V _ (ZR _ _ _ _ rfl (n:Nat) 25 rfl rfl false (d_ (by omega))) ?_;refine p_K true (.bool false) ?_;go_wp2;go_ret;exact⟨by rw[HR.out];rfl,sb⟩
     ·have HR:Hid (R=false):=HT2 false (by rw[d_ t3];simp);clear HT2;iterate 7 go_step
      refine r_p ?_;refine p_V _ (ZL _ _ _ _ rfl (t:Nat) 1 rfl rfl true (c_ (by omega))) ?_;refine p_V _ (ZR _ _ _ _ rfl (t:Nat) 2 rfl rfl true (c_ (by omega))) ?_;refine p_K true (.bool true) ?_;refine p_V _ (n_l ab n c Yq) ?_;refine p_V _ (ZL _ _ _ _ rfl (n:Nat) 1 rfl rfl false (d_ (by omega))) ?_;refine p_K true (.bool false) ?_;refine p_K false (.bool false) ?_;go_wp2;go_ret;exact⟨by rw[HR.out];rfl,sb⟩
    ·have HR:Hid (R=false):=HT2 false (by rw[d_ t2];simp);clear HT2;iterate 7 go_step
     refine r_p ?_;refine p_V _ (ZL _ _ _ _ rfl (t:Nat) 1 rfl rfl true (c_ (by omega))) ?_;refine p_V _ (ZR _ _ _ _ rfl (t:Nat) 2 rfl rfl false (d_ (by omega))) ?_;refine p_K true (.bool false) ?_;refine p_K false (.bool false) ?_;refine p_K false (.bool false) ?_;go_wp2;go_ret;exact⟨by rw[HR.out];rfl,sb⟩
   ·have HR:Hid (R=false):=HT2 false (by rw[d_ t1];rfl);clear HT2;iterate 7 go_step
    refine r_p ?_;refine p_V _ (ZL _ _ _ _ rfl (t:Nat) 1 rfl rfl false (d_ (by omega))) ?_;refine p_K false (.bool false) ?_;refine p_K false (.bool false) ?_;refine p_K false (.bool false) ?_;go_wp2;go_ret;exact⟨by rw[HR.out];rfl,sb⟩
  |succ x=>
   have hlt:i<n:=by omega
   obtain h0'|⟨rfl,rB,hbt⟩:=(HB.out.below sb).at'
   ·exact absurd h0' (by omega)
   have hb1:=hbt i hlt;obtain⟨e1,d1,x1,y1,z1,u1,q1,hn1⟩:=hS i hlt;rw[q1]at hb1;have hma:=hmy i hlt e1 d1 x1 y1 z1 u1 hn1;have hNi:=hN i hlt;clear hbt hn1 q1 hmy HT;by_cases hl:N i=t+1
   ·have hl1:N i<=t+1:=by omega
    have hl2:t+1<=N i:=by omega
    have HA:Hid (∀B,Sh P Q (M i) (N i)=B->Hy t P Q N M i=B):=fun B hB=>by unfold Hy;rw[c_ hl,hB];rfl
    clear hl
    cases hc:Sh P Q (M i) (N i)with
    |true=>
     rw[hc]at hma;have HU:Hid (anB (fun k=> !Hy t P Q N M k) (i+1)=false):=Qn han (by rw[HA.out true hc];rfl);clear HA hc HN;iterate 2 go_step
     refine r_p ?_;refine p_V _ (n_l (some ⟨gb,ob,none⟩) n c Yq) ?_;refine p_V _ (YW i n) ?_;iterate 9 go_step
     refine Zl (by kernel_rfl) (by kernel_rfl) ?_;refine q_W ?_;refine q_x i hlt aE0 aC0 ?_;refine q_W ?_;refine Ye (by rfl) 22 _ rfl _ (ob+i*1) rfl rB (.slice e1 (N i) d1) hb1 Z_ (q_W ?_);refine q_V _ (n_l e1 ((N i:Nat)) d1 Zq) ?_;refine q_V _ (x_a t 1) ?_;refine q_V _ (ZT .i64 _ _ _ _ rfl ((N i:Nat):Int) ((t+1:Nat):Int) rfl rfl false (by rw[c_ (by omega)];rfl)) ?_;refine ZY (by rfl) 27 _ rfl _ (0) rfl r3 (smC (P:Nat) (Q:Nat) (G:Nat)) (ZQ _) _ M_ rfl Yi (q_W ?_);refine q_x i hlt aE0 aC0 ?_;refine q_W ?_;refine Ye (by rfl) 22 _ rfl _ (ob+i*1) rfl rB (.slice e1 (N i) d1) hb1 Z_ (q_W ?_);refine q_k 101 iU0 #[.agg (smC (P:Nat) (Q:Nat) (G:Nat)),.slice e1 (N i) d1] (fun w' hb=>hma w' (Zi sb (e_ _) hb)) ?_;refine q_W ?_;refine q_V _ (Zs _ _ rfl true rfl) ?_;refine q_P false (.bool false) ?_;intro w6 hqb;replace r3:=r3.belowAll hqb;replace sb:=b_o sb hqb;clear hqb;iterate 6 go_step
     refine r_p ?_;refine p_V _ (x_a i 1) ?_;go_wp2
     go_roundg x
     ·exact⟨i+1,by omega,rfl,HU.out,r3,sb⟩
     omega
    |false=>
     rw[hc]at hma;have HR:Hid (R=false):=HN.out i hlt (HA.out false hc);clear HA hc HN;iterate 2 go_step
     refine r_p ?_;refine p_V _ (n_l (some ⟨gb,ob,none⟩) n c Yq) ?_;refine p_V _ (YW i n) ?_;iterate 9 go_step
     refine Zl (by kernel_rfl) (by kernel_rfl) ?_;refine q_W ?_;refine q_x i hlt aE0 aC0 ?_;refine q_W ?_;refine Ye (by rfl) 22 _ rfl _ (ob+i*1) rfl rB (.slice e1 (N i) d1) hb1 Z_ (q_W ?_);refine q_V _ (n_l e1 ((N i:Nat)) d1 Zq) ?_;refine q_V _ (x_a t 1) ?_;refine q_V _ (ZT .i64 _ _ _ _ rfl ((N i:Nat):Int) ((t+1:Nat):Int) rfl rfl false (by rw[c_ (by omega)];rfl)) ?_;refine ZY (by rfl) 27 _ rfl _ (0) rfl r3 (smC (P:Nat) (Q:Nat) (G:Nat)) (ZQ _) _ M_ rfl Yi (q_W ?_);refine q_x i hlt aE0 aC0 ?_;refine q_W ?_;refine Ye (by rfl) 22 _ rfl _ (ob+i*1) rfl rB (.slice e1 (N i) d1) hb1 Z_ (q_W ?_);refine q_k 101 iU0 #[.agg (smC (P:Nat) (Q:Nat) (G:Nat)),.slice e1 (N i) d1] (fun w' hb=>hma w' (Zi sb (e_ _) hb)) ?_;refine q_W ?_;refine q_V _ (Zs _ _ rfl false rfl) ?_;refine q_P false (.bool true) ?_;intro w6 hqb;replace r3:=r3.belowAll hqb;replace sb:=b_o sb hqb;clear hqb;iterate 4 go_step
     refine rp ?_;refine p_V (.bool false) (fun _=>rfl) ?_;go_wp2;go_ret;exact⟨by rw[HR.out];rfl,sb⟩
   ·have HR:Hid (R=false):=HN.out i hlt (by unfold Hy;rw[d_ hl];rfl);clear HN;iterate 2 go_step
    refine r_p ?_;refine p_V _ (n_l (some ⟨gb,ob,none⟩) n c Yq) ?_;refine p_V _ (YW i n) ?_;iterate 9 go_step
    refine Zl (by kernel_rfl) (by kernel_rfl) ?_;refine q_W ?_;refine q_x i hlt aE0 aC0 ?_;refine q_W ?_;refine Ye (by rfl) 22 _ rfl _ (ob+i*1) rfl rB (.slice e1 (N i) d1) hb1 Z_ (q_W ?_);refine q_V _ (n_l e1 ((N i:Nat)) d1 Zq) ?_;refine q_V _ (x_a t 1) ?_;refine q_V _ (ZT .i64 _ _ _ _ rfl ((N i:Nat):Int) ((t+1:Nat):Int) rfl rfl true (by rw[d_ (by omega)];rfl)) ?_;refine q_P true (.bool true) ?_;intro w6 hqb;replace r3:=r3.belowAll hqb;replace sb:=b_o sb hqb;clear hqb;iterate 4 go_step
    refine rp ?_;refine p_V (.bool false) (fun _=>rfl) ?_;go_wp2;go_ret;exact⟨by rw[HR.out];rfl,sb⟩
def P0 (P Q G:Nat)(N:Nat->Nat)(M:Nat->Nat->Nat)(n:Nat)(I:Int)(L:Nat)(Y:Nat->Nat):Bool:=decide (L=n)&&(decide (1<=n)&&(decide (n<=25)&& !anB (fun k=> !Ra P Q G (M k) (N k) I (Y k)) n))
theorem Ka (ab ay:Option Addr)(n c L cy P Q G:Nat)(I:Int)(S:Nat->Value)(gb ob:Nat)(bcs:Array Value)(tb:TypeId)(N:Nat->Nat)(M:Nat->Nat->Nat)(Y:Nat->Nat)(gy oy:Nat)(ycs:Array Value)(ty:TypeId)(w:World)(h2:2<=P)(hP:P<4611686018427387904)(h0:0<Q)(hQ:Q<4611686018427387904)(hn:n<4611686018427387904)(hN: ∀i,i<n->N i<4611686018427387904)(hna:VsAt w ab n S gb ob bcs tb)(hS: ∀i,i<n->SA w (S i) (N i) (M i))(hL:L<4611686018427387904)(hY:NatsAt w ay L Y gy oy ycs ty):
  Calls prog 102 #[.agg (smC (P:Nat) (Q:Nat) (G:Nat)),.slice ab n c,.agg (ptC I (.slice ay L cy))] w fun e w'=>e= .returned (.bool (P0 P Q G N M n I L Y))/\Below w.heap.size w w':=by
 have hho:=fun i (hi:i<n) (hl:i<L) e d x y z u (hq:NatsAt w e (N i) (M i) x y z u) w' (hb:Below w.heap.size w w')=>L8 e (N i) d P Q G (M i) x y z u I (Y i) w' (hY.lt i hl) (hN i hi) h2 hP h0 hQ (hq.below hb)
 have HB:Hid (VsAt w ab n S gb ob bcs tb):=hna;have HY:Hid (NatsAt w ay L Y gy oy ycs ty):=hY
 have HT:Hid (L<=n->n<=L->1<=n->n<=25->anB (fun k=> !Ra P Q G (M k) (N k) I (Y k)) n=false->P0 P Q G N M n I L Y=true):=fun a1 a2 a3 a4 h=>by unfold P0;rw[h,c_ (show L=n by omega),c_ a3,c_ a4];rfl
 have HN:Hid (∀i,i<n->Ra P Q G (M i) (N i) I (Y i)=false->P0 P Q G N M n I L Y=false):=fun i hi h=>by unfold P0;rw[Rj (B:=fun k=> !Ra P Q G (M k) (N k) I (Y k)) hi (by rw[h];rfl)];simp
 have H1:Hid (L≠n->P0 P Q G N M n I L Y=false):=fun h=>by unfold P0;rw[d_ h];rfl
 have H2:Hid (¬1<=n->P0 P Q G N M n I L Y=false):=fun h=>by unfold P0;rw[d_ h];simp
 have H3:Hid (¬n<=25->P0 P Q G N M n I L Y=false):=fun h=>by unfold P0;rw[d_ h];simp
 generalize P0 P Q G N M n I L Y=R at*;clear hna hY;by_cases c1:L=n
 ·have d1:L<=n:=by omega
  have d2:n<=L:=by omega
  clear c1;by_cases c2:1<=n
  ·by_cases c3:n<=25
   ·skip
    go_enter func102,ntmps102
    iterate 2 go_step
    refine rp ?_;refine Zy (by rfl) 27 _ rfl (smC (P:Nat) (Q:Nat) (G:Nat)) rfl ?_;intro g3 z0 n0 r3 k;refine p_W ?_;have b3:w.heap.size<=g3:=n0;clear n0;have sb:=k_b k;clear k;refine Zy (by rfl) 64 _ rfl (ptC I (.slice ay L cy)) rfl ?_;intro g5 z1 n0 r5 k;refine p_W ?_;have d3x5:=l_l r3.lt n0;have b5:=f_ sb.size n0;clear n0;replace r3:=k.ro r3;replace sb:=kk sb k;clear k;refine p_V (.bool false) (fun _=>rfl) ?_;iterate 4 go_step
    refine rp ?_;refine p_V _ (Ze 64 _ 1 rfl g5 (0) rfl _ F_ _ rfl 0 aC0) ?_;refine p_D (0+1) r5.r (.slice ay L cy) rfl Z_ ?_;refine p_V _ (n_l ay L cy Zq) ?_;refine p_V _ (n_l ab n c Yq) ?_;refine p_V _ (ZT .i64 _ _ _ _ rfl (L:Nat) (n:Nat) rfl rfl false (by rw[c_ (by omega)];rfl)) ?_;refine p_V _ (n_l ab n c Yq) ?_;refine p_V _ (YN (n:Nat) 1) ?_;refine p_K false (.bool false) ?_;refine p_V _ (n_l ab n c Yq) ?_;refine p_V _ (RK (n:Nat) 25) ?_;refine p_K false (.bool false) ?_;iterate 8 go_step
    refine rp ?_;refine p_V (.int .i64 0) (fun _=>rfl) ?_
    go_wp2_with fail
    go_loopg [7] n (fun x s7 wr=> ∃i:Nat,i+x=n/\s7= .int .i64 i/\anB (fun k=> !Ra P Q G (M k) (N k) I (Y k)) i=false/\Row wr g3 (smC (P:Nat) (Q:Nat) (G:Nat)) 27/\Row wr g5 (ptC I (.slice ay L cy)) 64/\Below w.heap.size w wr)
    case atStart=>exact⟨0,by omega,rfl,rfl,r3,r5,sb⟩
    case round=>
     clear sb r3 r5;obtain⟨i,hi,rfl,han,r3,r5,sb⟩:=hrel
     cases gk with
     |zero=>
      obtain rfl:n=i:=by omega
      have HR:Hid (R=true):=HT.out d1 d2 c2 c3 han;clear HT HN hho hi;iterate 2 go_step
      refine r_p ?_;refine p_V _ (n_l ab n c Yq) ?_;refine p_V _ (YN n n) ?_;refine p_K false (.bool false) ?_;iterate 7 go_step
      refine rp ?_;refine p_V (.bool true) (fun _=>rfl) ?_;go_wp2;go_ret;exact⟨by rw[HR.out];rfl,sb⟩
     |succ x=>
      have hlt:i<n:=by omega
      have hiL:i<L:=by omega
      obtain h0'|⟨rfl,rB,hbt⟩:=(HB.out.below sb).at'
      ·exact absurd h0' (by omega)
      obtain h0'|⟨rfl,rY,hyt⟩:=(HY.out.below sb).at'
      ·exact absurd h0' (by omega)
      have hb1:=hbt i hlt;have hy1:=hyt i hiL;obtain⟨e1,d1',x1,y1,z1,u1,q1,hn1⟩:=hS i hlt;rw[q1]at hb1;have hma:=hho i hlt hiL e1 d1' x1 y1 z1 u1 hn1;clear hbt hyt hn1 q1 hho HT
      cases hc:Ra P Q G (M i) (N i) I (Y i)with
      |true=>
       rw[hc]at hma;have HU:Hid (anB (fun k=> !Ra P Q G (M k) (N k) I (Y k)) (i+1)=false):=Qn han (by rw[hc];rfl);clear hc HN;iterate 2 go_step
       refine r_p ?_;refine p_V _ (n_l (some ⟨gb,ob,none⟩) n c Yq) ?_;refine p_V _ (YW i n) ?_;refine p_V _ (Ze 64 _ 1 rfl g5 (0) rfl _ F_ _ rfl 0 aC0) ?_;refine p_D (0+1) r5.r (.slice (some ⟨gy,oy,none⟩) L cy) rfl Z_ ?_;refine p_V _ (n_l (some ⟨gy,oy,none⟩) L cy Zq) ?_;refine p_V _ (YW i L) ?_;refine p_K true (.bool true) ?_;iterate 9 go_step
       refine Zl (by kernel_rfl) (by kernel_rfl) ?_;refine ZY (by rfl) 27 _ rfl _ (0) rfl r3 (smC (P:Nat) (Q:Nat) (G:Nat)) (ZQ _) _ M_ rfl Yi (q_W ?_);refine q_x i hlt aE0 aC0 ?_;refine q_W ?_;refine Ye (by rfl) 22 _ rfl _ (ob+i*1) rfl rB (.slice e1 (N i) d1') hb1 Z_ (q_W ?_);refine q_V _ (Ze 64 _ 0 rfl g5 (0) rfl _ F_ _ rfl 0 Q_) ?_;refine ZF (by rfl) 3 _ rfl _ (0) rfl r5 (.int .i64 I) rfl aD0 (q_W ?_);refine q_V _ (Ze 64 _ 1 rfl g5 (0) rfl _ F_ _ rfl 0 aC0) ?_;refine ZF (by rfl) 22 _ rfl _ (0+1) rfl r5 (.slice (some ⟨gy,oy,none⟩) L cy) rfl Z_ (q_W ?_);refine q_x i hiL t_ ZD ?_;refine q_W ?_;refine YX (by rfl) 57 _ rfl _ (oy+i*4) rfl rY (Zb (Y i)) hy1 _ b_ rfl Zc (q_W ?_);refine q_V _ (ZZ _ [(0,.tmp 43),(1,.tmp 48)] rfl [(0,.int .i64 I),(1,.agg (Zb (Y i)))] rfl (shC I (Y i)) (Qa _ _)) ?_;refine q_k 146 func146 #[.agg (smC (P:Nat) (Q:Nat) (G:Nat)),.slice e1 (N i) d1',.agg (shC I (Y i))] (fun w' hb=>hma w' (Zi sb (e_ _) hb)) ?_;refine q_W ?_;refine q_V _ (Zs _ _ rfl true rfl) ?_;intro w6 hqb;replace r3:=r3.belowAll hqb;replace r5:=r5.belowAll hqb;replace sb:=b_o sb hqb;clear hqb;iterate 6 go_step
       refine r_p ?_;refine p_V _ (x_a i 1) ?_;go_wp2
       go_roundg x
       ·exact⟨i+1,by omega,rfl,HU.out,r3,r5,sb⟩
       omega
      |false=>
       rw[hc]at hma;have HR:Hid (R=false):=HN.out i hlt hc;clear hc HN;iterate 2 go_step
       refine r_p ?_;refine p_V _ (n_l (some ⟨gb,ob,none⟩) n c Yq) ?_;refine p_V _ (YW i n) ?_;refine p_V _ (Ze 64 _ 1 rfl g5 (0) rfl _ F_ _ rfl 0 aC0) ?_;refine p_D (0+1) r5.r (.slice (some ⟨gy,oy,none⟩) L cy) rfl Z_ ?_;refine p_V _ (n_l (some ⟨gy,oy,none⟩) L cy Zq) ?_;refine p_V _ (YW i L) ?_;refine p_K true (.bool true) ?_;iterate 9 go_step
       refine Zl (by kernel_rfl) (by kernel_rfl) ?_;refine ZY (by rfl) 27 _ rfl _ (0) rfl r3 (smC (P:Nat) (Q:Nat) (G:Nat)) (ZQ _) _ M_ rfl Yi (q_W ?_);refine q_x i hlt aE0 aC0 ?_;refine q_W ?_;refine Ye (by rfl) 22 _ rfl _ (ob+i*1) rfl rB (.slice e1 (N i) d1') hb1 Z_ (q_W ?_);refine q_V _ (Ze 64 _ 0 rfl g5 (0) rfl _ F_ _ rfl 0 Q_) ?_;refine ZF (by rfl) 3 _ rfl _ (0) rfl r5 (.int .i64 I) rfl aD0 (q_W ?_);refine q_V _ (Ze 64 _ 1 rfl g5 (0) rfl _ F_ _ rfl 0 aC0) ?_;refine ZF (by rfl) 22 _ rfl _ (0+1) rfl r5 (.slice (some ⟨gy,oy,none⟩) L cy) rfl Z_ (q_W ?_);refine q_x i hiL t_ ZD ?_;refine q_W ?_;refine YX (by rfl) 57 _ rfl _ (oy+i*4) rfl rY (Zb (Y i)) hy1 _ b_ rfl Zc (q_W ?_);refine q_V _ (ZZ _ [(0,.tmp 43),(1,.tmp 48)] rfl [(0,.int .i64 I),(1,.agg (Zb (Y i)))] rfl (shC I (Y i)) (Qa _ _)) ?_;refine q_k 146 func146 #[.agg (smC (P:Nat) (Q:Nat) (G:Nat)),.slice e1 (N i) d1',.agg (shC I (Y i))] (fun w' hb=>hma w' (Zi sb (e_ _) hb)) ?_;refine q_W ?_;refine q_V _ (Zs _ _ rfl false rfl) ?_;intro w6 hqb;replace r3:=r3.belowAll hqb;replace r5:=r5.belowAll hqb;replace sb:=b_o sb hqb;clear hqb;iterate 4 go_step
       refine rp ?_;refine p_V (.bool false) (fun _=>rfl) ?_;go_wp2;go_ret;exact⟨by rw[HR.out];rfl,sb⟩
   ·have HR:Hid (R=false):=H3.out c3
    go_enter func102,ntmps102
    iterate 2 go_step
    refine rp ?_;refine Zy (by rfl) 27 _ rfl (smC (P:Nat) (Q:Nat) (G:Nat)) rfl ?_;intro g3 z0 n0 r3 k;refine p_W ?_;have b3:w.heap.size<=g3:=n0;clear n0;have sb:=k_b k;clear k;refine Zy (by rfl) 64 _ rfl (ptC I (.slice ay L cy)) rfl ?_;intro g5 z1 n0 r5 k;refine p_W ?_;have d3x5:=l_l r3.lt n0;have b5:=f_ sb.size n0;clear n0;replace r3:=k.ro r3;replace sb:=kk sb k;clear k;refine p_V (.bool false) (fun _=>rfl) ?_;iterate 4 go_step
    refine rp ?_;refine p_V _ (Ze 64 _ 1 rfl g5 (0) rfl _ F_ _ rfl 0 aC0) ?_;refine p_D (0+1) r5.r (.slice ay L cy) rfl Z_ ?_;refine p_V _ (n_l ay L cy Zq) ?_;refine p_V _ (n_l ab n c Yq) ?_;refine p_V _ (ZT .i64 _ _ _ _ rfl (L:Nat) (n:Nat) rfl rfl false (by rw[c_ (by omega)];rfl)) ?_;refine p_V _ (n_l ab n c Yq) ?_;refine p_V _ (YN (n:Nat) 1) ?_;refine p_K false (.bool false) ?_;refine p_V _ (n_l ab n c Yq) ?_;refine p_V _ (NL (n:Nat) 25) ?_;refine p_K false (.bool true) ?_;iterate 4 go_step
    refine rp ?_;refine p_V (.bool false) (fun _=>rfl) ?_;go_wp2;go_ret;exact⟨by rw[HR.out];rfl,sb⟩
  ·have HR:Hid (R=false):=H2.out c2
   go_enter func102,ntmps102
   iterate 2 go_step
   refine rp ?_;refine Zy (by rfl) 27 _ rfl (smC (P:Nat) (Q:Nat) (G:Nat)) rfl ?_;intro g3 z0 n0 r3 k;refine p_W ?_;have b3:w.heap.size<=g3:=n0;clear n0;have sb:=k_b k;clear k;refine Zy (by rfl) 64 _ rfl (ptC I (.slice ay L cy)) rfl ?_;intro g5 z1 n0 r5 k;refine p_W ?_;have d3x5:=l_l r3.lt n0;have b5:=f_ sb.size n0;clear n0;replace r3:=k.ro r3;replace sb:=kk sb k;clear k;refine p_V (.bool false) (fun _=>rfl) ?_;iterate 4 go_step
   refine rp ?_;refine p_V _ (Ze 64 _ 1 rfl g5 (0) rfl _ F_ _ rfl 0 aC0) ?_;refine p_D (0+1) r5.r (.slice ay L cy) rfl Z_ ?_;refine p_V _ (n_l ay L cy Zq) ?_;refine p_V _ (n_l ab n c Yq) ?_;refine p_V _ (ZT .i64 _ _ _ _ rfl (L:Nat) (n:Nat) rfl rfl false (by rw[c_ (by omega)];rfl)) ?_;refine p_V _ (n_l ab n c Yq) ?_;refine p_V _ (YW (n:Nat) 1) ?_;refine p_K false (.bool true) ?_;refine p_K true (.bool true) ?_;iterate 4 go_step
   refine rp ?_;refine p_V (.bool false) (fun _=>rfl) ?_;go_wp2;go_ret;exact⟨by rw[HR.out];rfl,sb⟩
 ·have HR:Hid (R=false):=H1.out c1
  go_enter func102,ntmps102
  iterate 2 go_step
  refine rp ?_;refine Zy (by rfl) 27 _ rfl (smC (P:Nat) (Q:Nat) (G:Nat)) rfl ?_;intro g3 z0 n0 r3 k;refine p_W ?_;have b3:w.heap.size<=g3:=n0;clear n0;have sb:=k_b k;clear k;refine Zy (by rfl) 64 _ rfl (ptC I (.slice ay L cy)) rfl ?_;intro g5 z1 n0 r5 k;refine p_W ?_;have d3x5:=l_l r3.lt n0;have b5:=f_ sb.size n0;clear n0;replace r3:=k.ro r3;replace sb:=kk sb k;clear k;refine p_V (.bool false) (fun _=>rfl) ?_;iterate 4 go_step
  refine rp ?_;refine p_V _ (Ze 64 _ 1 rfl g5 (0) rfl _ F_ _ rfl 0 aC0) ?_;refine p_D (0+1) r5.r (.slice ay L cy) rfl Z_ ?_;refine p_V _ (n_l ay L cy Zq) ?_;refine p_V _ (n_l ab n c Yq) ?_;refine p_V _ (ZT .i64 _ _ _ _ rfl (L:Nat) (n:Nat) rfl rfl true (by rw[d_ (by omega)];rfl)) ?_;refine p_K true (.bool true) ?_;refine p_K true (.bool true) ?_;iterate 4 go_step
  refine rp ?_;refine p_V (.bool false) (fun _=>rfl) ?_;go_wp2;go_ret;exact⟨by rw[HR.out];rfl,sb⟩
def fpB (ny:Nat->Nat)(q most num:Nat):Bool:= !anB (fun i=>decide (num<ny i)) (min q most)&&decide (q<=most)
theorem Hz (al:Option Addr)(q cl most num:Nat)(I:Nat->Int)(ay:Nat->Option Addr)(ny cy:Nat->Nat)(gl ol:Nat)(lcs:Array Value)(tl:TypeId)(w:World)(hm:most<=1000)(hna:ElsAt 2 w al q (fun k=>ptC (I k) (.slice (ay k) (ny k) (cy k))) gl ol lcs tl):
  Calls prog 14 #[.slice al q cl,.int .i64 (most:Nat),.int .i64 (num:Nat)] w fun e w'=>e= .returned (.bool (fpB ny q most num))/\Below w.heap.size w w':=by
 have HL:Hid (ElsAt 2 w al q (fun k=>ptC (I k) (.slice (ay k) (ny k) (cy k))) gl ol lcs tl):=hna
 have HT:Hid (∀i,min q most<=i->i<=min q most->anB (fun i=>decide (num<ny i)) i=false-> ∀B,decide (q<=most)=B->fpB ny q most num=B):=fun i h1 h2 h B hB=>by
  obtain rfl:i=min q most:=by omega
  unfold fpB;rw[h,hB];rfl
 have HN:Hid (∀i,i<min q most->num<ny i->fpB ny q most num=false):=fun i hi h=>by unfold fpB;rw[Rj (B:=fun i=>decide (num<ny i)) hi (c_ h)];rfl
 generalize fpB ny q most num=R at*;clear hna
 go_enter func14,ntmps14
 have sb:=YF w;iterate 2 go_step
 refine rp ?_;refine p_V (.bool false) (fun _=>rfl) ?_;iterate 4 go_step
 refine rp ?_;refine p_V (.int .i64 0) (fun _=>rfl) ?_
 go_wp2_with fail
 go_loopg [7] (min q most) (fun x s7 wr=> ∃i:Nat,min q most-i=x/\i<=min q most/\s7= .int .i64 i/\anB (fun i=>decide (num<ny i)) i=false/\Below w.heap.size w wr)
 case atStart=>exact⟨0,by omega,by omega,rfl,rfl,sb⟩
 case round=>
  clear sb;obtain⟨i,hi,him,rfl,han,sb⟩:=hrel;by_cases hiq:i<q
  ·by_cases hio:i<most
   ·obtain h0|⟨rfl,rL,hbt⟩:=(HL.out.below sb).at'
    ·exact absurd h0 (by omega)
    have hy:=hbt i hiq 1 (.slice (ay i) (ny i) (cy i)) rfl;clear hbt HT;by_cases hb:num<ny i
    ·have HR:Hid (R=false):=HN.out i (by omega) hb;clear HN;iterate 2 go_step
     refine r_p ?_;refine p_V _ (n_l (some ⟨gl,ol,none⟩) q cl Yu) ?_;refine p_V _ (YW (i:Nat) (q:Nat)) ?_;refine p_V _ (YW (i:Nat) (most:Nat)) ?_;refine p_K true (.bool true) ?_;iterate 9 go_step
     refine r_p ?_;refine p_X i hiq aR0 dW0 ?_;refine p_V _ (Ze 64 _ 1 rfl gl (ol+i*2) rfl _ F_ _ rfl 0 aC0) ?_;refine p_D (ol+i*2+1) rL (.slice (ay i) (ny i) (cy i)) hy Z_ ?_;refine p_V _ (n_l (ay i) ((ny i:Nat)) (cy i) Zq) ?_;refine p_V _ (NL (ny i:Nat) (num:Nat)) ?_;iterate 4 go_step
     refine rp ?_;refine p_V (.bool false) (fun _=>rfl) ?_;go_wp2;go_ret;exact⟨by rw[HR.out];rfl,sb⟩
    ·have HU:Hid (anB (fun i=>decide (num<ny i)) (i+1)=false):=Qn han (d_ hb);clear HN;iterate 2 go_step
     refine r_p ?_;refine p_V _ (n_l (some ⟨gl,ol,none⟩) q cl Yu) ?_;refine p_V _ (YW (i:Nat) (q:Nat)) ?_;refine p_V _ (YW (i:Nat) (most:Nat)) ?_;refine p_K true (.bool true) ?_;iterate 9 go_step
     refine r_p ?_;refine p_X i hiq aR0 dW0 ?_;refine p_V _ (Ze 64 _ 1 rfl gl (ol+i*2) rfl _ F_ _ rfl 0 aC0) ?_;refine p_D (ol+i*2+1) rL (.slice (ay i) (ny i) (cy i)) hy Z_ ?_;refine p_V _ (n_l (ay i) ((ny i:Nat)) (cy i) Zq) ?_;refine p_V _ (RK (ny i:Nat) (num:Nat)) ?_;iterate 6 go_step
     refine r_p ?_;refine p_V _ (x_a i 1) ?_;go_wp2
     go_roundg (min q most-(i+1))
     ·exact⟨i+1,rfl,by omega,rfl,HU.out,sb⟩
     omega
   ·have HR:Hid (R=false):=HT.out i (by omega) him han false (d_ (by omega));clear HT HN;iterate 2 go_step
    refine r_p ?_;refine p_V _ (n_l al q cl Yu) ?_;refine p_V _ (YW (i:Nat) (q:Nat)) ?_;refine p_V _ (YN (i:Nat) (most:Nat)) ?_;refine p_K true (.bool false) ?_;iterate 7 go_step
    refine r_p ?_;refine p_V _ (n_l al q cl Yu) ?_;refine p_V _ (ZR _ _ _ _ rfl (q:Nat) (most:Nat) rfl rfl false (d_ (by omega))) ?_;go_wp2;go_ret;exact⟨by rw[HR.out];rfl,sb⟩
  ·have HR:Hid (∀B,decide (q<=most)=B->R=B):=HT.out i (by omega) him han;have hqm:q<=most:=by omega
   have HR2:Hid (R=true):=HR.out true (c_ hqm);clear HT HN HR;have HR:=HR2;clear HR2;iterate 2 go_step
   refine r_p ?_;refine p_V _ (n_l al q cl Yu) ?_;refine p_V _ (YN (i:Nat) (q:Nat)) ?_;refine p_K false (.bool false) ?_;iterate 7 go_step
   refine r_p ?_;refine p_V _ (n_l al q cl Yu) ?_;refine p_V _ (ZR _ _ _ _ rfl (q:Nat) (most:Nat) rfl rfl true (c_ (by omega))) ?_;go_wp2;go_ret;exact⟨by rw[HR.out];rfl,sb⟩
theorem HP (ab al:Option Addr)(n c q cl e P Q G:Nat)(I:Nat->Int)(ay:Nat->Option Addr)(ny cy:Nat->Nat)(HB:Nat->Bool)(gl ol:Nat)(lcs:Array Value)(tl:TypeId)(w:World)(hq:q<=1000)(he:e<=1000)(hna:ElsAt 2 w al q (fun k=>ptC (I k) (.slice (ay k) (ny k) (cy k))) gl ol lcs tl)
  (hho: ∀k,k<q-> ∀w',Below w.heap.size w w'->Calls prog 102 #[.agg (smC (P:Nat) (Q:Nat) (G:Nat)),.slice ab n c,.agg (ptC (I k) (.slice (ay k) (ny k) (cy k)))] w' (Rt (.bool (HB k)) w')):
  Calls prog 49 #[.agg (smC (P:Nat) (Q:Nat) (G:Nat)),.slice ab n c,.slice al q cl,.int .i64 (e:Nat)] w fun ee w'=> ∃ar cr,ee= .returned (.slice ar (hsL I HB e q).length cr)/\V4 2 64 w' w.heap.size (.slice ar (hsL I HB e q).length cr) (hsL I HB e q).length (fun j=>ptC (I ((hsL I HB e q).getD j 0)) (.slice (ay ((hsL I HB e q).getD j 0)) (ny ((hsL I HB e q).getD j 0)) (cy ((hsL I HB e q).getD j 0))))/\Below w.heap.size w w':=by
 obtain⟨ip,hip,hzp,hszp,hbyp⟩:=Tn
 have hs1: ¬1*ip.size>2^24:=by rw[hszp];decide
 have hs2: ¬1*ip.size=0:=by rw[hszp];decide
 have hlit:=fun i ab n c=>Ht i ab n c ip.size hszp
 have HL:Hid (ElsAt 2 w al q (fun k=>ptC (I k) (.slice (ay k) (ny k) (cy k))) gl ol lcs tl):=hna;obtain⟨C,hC⟩: ∃C:Nat->Array Value,C=(fun j=>ptC (I ((hsL I HB e q).getD j 0)) (.slice (ay ((hsL I HB e q).getD j 0)) (ny ((hsL I HB e q).getD j 0)) (cy ((hsL I HB e q).getD j 0)))):=⟨_,rfl⟩
 have HC2:Hid (∀j,(C j).size=2):=fun j=>by rw[hC];rfl
 have HCo:Hid (∀j,(C j).all (·.oneCell')=true):=fun j=>by rw[hC];exact PN _ _ _ _
 have HCn:Hid (∀k,k<q->(!decide ((hsL I HB e k).length=e)&&(!anB (fun j=>decide (I ((hsL I HB e k).getD j 0)=I k)) (hsL I HB e k).length&&HB k))=true->hsL I HB e (k+1)=hsL I HB e k++[k]/\C (hsL I HB e k).length=ptC (I k) (.slice (ay k) (ny k) (cy k))):=fun k hk hc=>by
  obtain⟨e1,e2⟩:=Cf (q:=q) hk hc;exact⟨e1,by rw[hC];dsimp only;rw[e2]⟩
 have HCs:Hid (∀k,k<q->(!decide ((hsL I HB e k).length=e)&&(!anB (fun j=>decide (I ((hsL I HB e k).getD j 0)=I k)) (hsL I HB e k).length&&HB k))=false->hsL I HB e (k+1)=hsL I HB e k):=fun k hk hc=>by rw[hsL,j_ (by rw[hc];decide)]
 have HCf:Hid (∀k,k<=q->(hsL I HB e k).length=e->hsL I HB e q=hsL I HB e k):=fun k hk h=>Hr hk h
 have HCk:Hid (∀k,k<=q-> ∀j,j<(hsL I HB e k).length->C j=ptC (I ((hsL I HB e k).getD j 0)) (.slice (ay ((hsL I HB e k).getD j 0)) (ny ((hsL I HB e k).getD j 0)) (cy ((hsL I HB e k).getD j 0)))):=fun k hk j hj=>by
  rw[hC]
  dsimp only
  rw[zc hk hj]
 have HLe:Hid (∀k,(hsL I HB e k).length<=e):=fun k=>Hs k
 rw[<-hC];clear hna hC
 go_enter func49,ntmps49
 iterate 2 go_step
 refine rp ?_;refine Zy (by rfl) 27 _ rfl (smC (P:Nat) (Q:Nat) (G:Nat)) rfl ?_;intro g4 z0 n0 r4 k;refine p_W ?_;have b4:w.heap.size<=g4:=n0;clear n0;have sb:=k_b k;clear k;refine p_V (.slice none 0 0) ((fun _=>rfl)) ?_;iterate 3 go_step
 refine rp ?_;refine p_V (.slice none 0 0) ((fun _=>rfl)) ?_;iterate 4 go_step
 refine rp ?_;refine p_V (.int .i64 0) (fun _=>rfl) ?_
 go_wp2_with fail
 go_loopg [9,10,11,12] q (fun x s9 s10 s11 s12 wr=> ∃k:Nat,k+x=q/\s10= .int .i64 k/\V4 2 64 wr w.heap.size s9 (hsL I HB e k).length C/\s9.ownBlock≠some g4/\Row wr g4 (smC (P:Nat) (Q:Nat) (G:Nat)) 27/\Below w.heap.size w wr)
 case atStart=>exact⟨0,by omega,rfl,Th _ _ _ _,(by intro h;cases h),r4,sb⟩
 case round=>
  clear sb r4;obtain⟨k,hk,rfl,hO,ehOx4,r4,sb⟩:=hrel;obtain⟨ar,cr,gR,cur,rfl,hcr,hels⟩:=Uv HC2.out hO;have hNe:=HLe.out k;clear hels
  cases gk with
  |zero=>
   obtain rfl:k=q:=by omega
   clear hk;iterate 2 go_step
   refine r_p ?_;refine p_V _ (n_l al k cl Yu) ?_;refine p_V _ (YN (k:Nat) (k:Nat)) ?_;refine p_K false (.bool false) ?_;iterate 7 go_step
   refine r_p ?_;go_wp2;go_ret;exact⟨ar,cr,rfl,hO,sb⟩
  |succ x=>
   have hlt:k<q:=by omega
   obtain h0|⟨rfl,rL0,hbt⟩:=(HL.out.below sb).at'
   ·exact absurd h0 (by omega)
   have hbk:=hbt k hlt;have hbi:=hbt k hlt 0 (.int .i64 (I k)) rfl;rw[bM0]at hbi;have hck:=HCk.out k (by omega);have hcn:=HCn.out k hlt;have hcs:=HCs.out k hlt;have hcf:=HCf.out k (by omega);have hhk:=hho k hlt;clear hbt hho rL0;obtain⟨N,hN⟩: ∃N,(hsL I HB e k).length=N:=⟨_,rfl⟩
   rw[hN]at hO ehOx4 hck hcn hcs hcf hNe ⊢;by_cases hNE:N=e
   ·have HQ:Hid (hsL I HB e q=hsL I HB e k):=hcf hNE;clear hcf hcs hcn hck hhk;iterate 2 go_step
    refine r_p ?_;refine p_V _ (n_l (some ⟨gl,ol,none⟩) q cl Yu) ?_;refine p_V _ (YW (k:Nat) (q:Nat)) ?_;refine p_V _ (n_l ar N cr Yu) ?_;refine p_V _ (YN (N:Nat) (e:Nat)) ?_;refine p_K true (.bool false) ?_;iterate 7 go_step
    refine r_p ?_;go_wp2;go_ret;rw[HQ.out,hN];exact⟨ar,cr,rfl,hO,sb⟩
   ·clear hcf;rw[d_ hNE]at hcn hcs;obtain⟨D,hD⟩: ∃D:Nat->Nat,∀j,(hsL I HB e k).getD j 0=D j:=⟨_,fun _=>rfl⟩
    simp only[hD]at hck hcn hcs;obtain⟨Kf,hKf⟩: ∃Kf:Nat->Bool,∀j,anB (fun j=>decide (I (D j)=I k)) j=Kf j:=⟨_,fun _=>rfl⟩
    have HK0:Hid (Kf 0=false):=(hKf 0).symm
    have HK1:Hid (∀j,Kf j=true->Kf (j+1)=true):=fun j h=>by rw[<-hKf]at h ⊢;simp[anB,h]
    have HK2:Hid (∀j,Kf j=false->Kf (j+1)=decide (I (D j)=I k)):=fun j h=>by rw[<-hKf]at h ⊢;simp[anB,h]
    rw[hKf]at hcn hcs
    have HCK:Hid (∀j,j<N->(C j).toList[0]?=some (.int .i64 (I (D j)))):=fun j hj=>by rw[hck j hj];rfl
    clear hck hD hKf;iterate 2 go_step
    refine r_p ?_;refine p_V _ (n_l (some ⟨gl,ol,none⟩) q cl Yu) ?_;refine p_V _ (YW (k:Nat) (q:Nat)) ?_;refine p_V _ (n_l ar N cr Yu) ?_;refine p_V _ (YW (N:Nat) (e:Nat)) ?_;refine p_K true (.bool true) ?_;iterate 9 go_step
    refine rp ?_;refine p_V (.bool false) (fun _=>rfl) ?_;iterate 4 go_step
    refine rp ?_;refine p_V (.int .i64 0) (fun _=>rfl) ?_
    go_wp2_with fail
    go_loopg [11,12] N (fun y s11 s12 wr=> ∃j:Nat,j+y=N/\s12= .int .i64 j/\s11= .bool (Kf j)/\V4 2 64 wr w.heap.size (.slice ar N cr) N C/\Row wr g4 (smC (P:Nat) (Q:Nat) (G:Nat)) 27/\Below w.heap.size w wr)
    case atStart=>exact⟨0,by omega,rfl,by rw[HK0.out],hO,r4,sb⟩
    case round=>
     clear sb r4 hO;obtain⟨j,hj,rfl,rfl,hO,r4,sb⟩:=hrel;obtain h0|⟨_,rL,_⟩:=(HL.out.below sb).at'
     ·exact absurd h0 (by omega)
     cases gk with
     |zero=>
      obtain rfl:N=j:=by omega
      clear HK0 HK1 HK2 HCK hj;generalize Kf N=KB at*
      cases KB with
      |true=>
       have hx:=hcs rfl;clear hcs hcn hhk;iterate 2 go_step
       refine r_p ?_;refine p_V _ (n_l ar N cr Yu) ?_;refine p_V _ (YN (N:Nat) (N:Nat)) ?_;iterate 7 go_step
       refine Zl (by kernel_rfl) (by kernel_rfl) ?_;refine q_W ?_;refine q_V _ (Zs _ _ rfl true rfl) ?_;refine q_P false (.bool false) ?_;intro w6 hqb;replace r4:=r4.belowAll hqb;replace hO:=hO.on (Kept.ofBelow hqb) (Yo _);replace sb:=b_o sb hqb;clear hqb;iterate 6 go_step
       refine r_p ?_;refine p_V _ (x_a k 1) ?_;go_wp2
       go_roundg x
       ·exact⟨k+1,by omega,rfl,by rw[hx,hN];exact hO,ehOx4,r4,sb⟩
       omega
      |false=>
       cases hHk:HB k with
       |false=>
        rw[hHk]at hhk hcs;have hx:=hcs rfl;clear hcs hcn;iterate 2 go_step
        refine r_p ?_;refine p_V _ (n_l ar N cr Yu) ?_;refine p_V _ (YN (N:Nat) (N:Nat)) ?_;iterate 7 go_step
        refine Zl (by kernel_rfl) (by kernel_rfl) ?_;refine q_W ?_;refine q_V _ (Zs _ _ rfl false rfl) ?_;refine ZY (by rfl) 27 _ rfl _ (0) rfl r4 (smC (P:Nat) (Q:Nat) (G:Nat)) (ZQ _) _ M_ rfl Yi (q_W ?_);refine q_x k hlt aR0 dW0 ?_;refine q_W ?_;refine YX (by rfl) 64 _ rfl _ (ol+k*2) rfl rL (ptC (I k) (.slice (ay k) (ny k) (cy k))) hbk _ F_ rfl Xf (q_W ?_);refine q_k 102 func102 #[.agg (smC (P:Nat) (Q:Nat) (G:Nat)),.slice ab n c,.agg (ptC (I k) (.slice (ay k) (ny k) (cy k)))] (fun w' hb=>hhk w' (Zi sb (e_ _) hb)) ?_;refine q_W ?_;refine q_P true (.bool false) ?_;intro w6 hqb;replace r4:=r4.belowAll hqb;replace hO:=hO.on (Kept.ofBelow hqb) (Yo _);replace sb:=b_o sb hqb;clear hqb;iterate 6 go_step
        refine r_p ?_;refine p_V _ (x_a k 1) ?_;go_wp2
        go_roundg x
        ·exact⟨k+1,by omega,rfl,by rw[hx,hN];exact hO,ehOx4,r4,sb⟩
        omega
       |true=>
        rw[hHk]at hhk hcn;obtain⟨hx,hCN⟩:=hcn rfl;have hli:=(hlit (I k) (ay k) (ny k) (cy k)).trans (dB0 some hCN.symm);clear hcs hcn;iterate 2 go_step
        refine r_p ?_;refine p_V _ (n_l ar N cr Yu) ?_;refine p_V _ (YN (N:Nat) (N:Nat)) ?_;iterate 7 go_step
        refine Zl (by kernel_rfl) (by kernel_rfl) ?_;refine q_W ?_;refine q_V _ (Zs _ _ rfl false rfl) ?_;refine ZY (by rfl) 27 _ rfl _ (0) rfl r4 (smC (P:Nat) (Q:Nat) (G:Nat)) (ZQ _) _ M_ rfl Yi (q_W ?_);refine q_x k hlt aR0 dW0 ?_;refine q_W ?_;refine YX (by rfl) 64 _ rfl _ (ol+k*2) rfl rL (ptC (I k) (.slice (ay k) (ny k) (cy k))) hbk _ F_ rfl Xf (q_W ?_);refine q_k 102 func102 #[.agg (smC (P:Nat) (Q:Nat) (G:Nat)),.slice ab n c,.agg (ptC (I k) (.slice (ay k) (ny k) (cy k)))] (fun w' hb=>hhk w' (Zi sb (e_ _) hb)) ?_;refine q_W ?_;refine q_P true (.bool true) ?_;intro w6 hqb;replace r4:=r4.belowAll hqb;replace hO:=hO.on (Kept.ofBelow hqb) (Yo _);replace sb:=b_o sb hqb;clear hqb;obtain h0|⟨_,rL,_⟩:=(HL.out.below sb).at'
        ·exact absurd h0 (by omega)
        iterate 3 go_step
        refine r_p ?_;refine p_X k hlt aR0 dW0 ?_;refine ZC (by rfl) 64 _ rfl _ (ol+k*2) rfl rL (ptC (I k) (.slice (ay k) (ny k) (cy k))) hbk _ F_ rfl Xf (p_W ?_);refine Y3 (by rfl) 32 64 1 _ rfl (C N) ip _ aR0 hip hzp hs1 hs2 [(0,.agg (ptC (I k) (.slice (ay k) (ny k) (cy k))))] rfl hli ?_;intro gA z11005 n0 rA k;refine p_W ?_;have d4xA:=l_l r4.lt n0;have ehOxA:=hO.new n0;have bA:=f_ sb.size n0;clear n0;replace r4:=k.ro r4;replace hO:=hO.on k (Yo _);replace sb:=kk sb k;clear k;refine OX (by rfl) _ _ (32) rfl (w.heap.size) 64 ip _ 2 32 aR0 hip hzp hszp hbyp rfl (by decide) (by decide) (_) (N) (C) (HC2.out) rfl hO gA _ rfl rA (HCo.out _) ((by omega)) sb.size ?_;have h0:=hO;clear hO;intro v1 z11006 hO k hp;refine p_W ?_;have cr4:=r4.lt;replace r4:=k.row r4 (by first|exact Wi ehOx4|exact Wi (h0.low (by omega)))
        (try replace ehOx4:=Ww hp cr4 ehOx4)
        clear cr4;clear hp;replace sb:=sb.trans (k.below w.heap.size sb.size h0.base);clear h0;clear k;refine p_W ?_;iterate 2 go_step
        refine r_p ?_;refine p_V _ (x_a k 1) ?_;go_wp2
        go_roundg x
        ·exact⟨k+1,by omega,rfl,by rw[hx,aS0,hN];exact hO,ehOx4,r4,sb⟩
        omega
     |succ y=>
      have hjN:j<N:=by omega
      obtain⟨ar2,cr2,gR,cur,hv2,_,hels⟩:=Uv HC2.out hO;simp only[eR0,iV0]at hv2;obtain⟨rfl,rfl⟩:=hv2;obtain h0|⟨hav,rR,hrt⟩:=hels.at'
      ·exact absurd h0 (by omega)
      have hrj:=hrt j hjN 0 _ (HCK.out j hjN);rw[bM0]at hrj;clear hels hrt;subst hav
      cases hK:Kf j with
      |true=>
       have HKn:Hid (Kf (j+1)=true):=HK1.out j hK;iterate 2 go_step
       refine r_p ?_;refine p_V _ (n_l (some ⟨gR,0,none⟩) N cr Yu) ?_;refine p_V _ (YW (j:Nat) (N:Nat)) ?_;iterate 8 go_step
       refine Zl (by kernel_rfl) (by kernel_rfl) ?_;refine q_W ?_;refine q_P true (.bool true) ?_;intro w6 hqb;replace r4:=r4.belowAll hqb;replace hO:=hO.on (Kept.ofBelow hqb) (Yo _);replace sb:=b_o sb hqb;clear hqb;iterate 2 go_step
       refine r_p ?_;refine p_V _ (x_a j 1) ?_;go_wp2
       go_roundg y
       ·exact⟨j+1,by omega,rfl,by rw[HKn.out],hO,r4,sb⟩
       omega
      |false=>
       obtain⟨B,hB⟩: ∃B,decide (I (D j)=I k)=B:=⟨_,rfl⟩
       have HKn:Hid (Kf (j+1)=B):=(HK2.out j hK).trans hB;iterate 2 go_step
       refine r_p ?_;refine p_V _ (n_l (some ⟨gR,0,none⟩) N cr Yu) ?_;refine p_V _ (YW (j:Nat) (N:Nat)) ?_;obtain h0|⟨_,rL,_⟩:=(HL.out.below sb).at'
       ·exact absurd h0 (by omega)
       iterate 8 go_step
       refine Zl (by kernel_rfl) (by kernel_rfl) ?_;refine q_W ?_;refine q_x j hjN aR0 dW0 ?_;refine q_W ?_;refine q_V _ (Ze 64 _ 0 rfl gR (0+j*2) rfl _ F_ _ rfl 0 Q_) ?_;refine Ye (by rfl) 3 _ rfl _ (0+j*2) rfl rR (.int .i64 (I (D j))) hrj aD0 (q_W ?_);refine q_x k hlt aR0 dW0 ?_;refine q_W ?_;refine q_V _ (Ze 64 _ 0 rfl gl (ol+k*2) rfl _ F_ _ rfl 0 Q_) ?_;refine Ye (by rfl) 3 _ rfl _ (ol+k*2) rfl rL (.int .i64 (I k)) hbi aD0 (q_W ?_);refine q_V _ (Zz .i64 _ _ _ _ rfl (I (D j)) (I k) rfl rfl B hB) ?_;refine q_P false (.bool B) ?_;intro w6 hqb;replace r4:=r4.belowAll hqb;replace hO:=hO.on (Kept.ofBelow hqb) (Yo _);replace sb:=b_o sb hqb;clear hqb;iterate 2 go_step
       refine r_p ?_;refine p_V _ (x_a j 1) ?_;go_wp2
       go_roundg y
       ·exact⟨j+1,by omega,rfl,by rw[HKn.out],hO,r4,sb⟩
       omega
theorem Dg (ab al:Option Addr)(n c q cl t P Q G:Nat)(w:World)(h:1<=t->t<=2-> ∀w',Below w.heap.size w w'->Calls prog 48 #[.agg (smC (P:Nat) (Q:Nat) (G:Nat)),.int .i64 (t:Nat),.slice ab n c] w' (Rt (.bool false) w')):
  Calls prog 16 #[.agg (smC (P:Nat) (Q:Nat) (G:Nat)),.int .i64 (t:Nat),.slice ab n c,.slice al q cl] w fun e w'=>e= .returned (.tuple #[.slice none 0 0,.int .i64 1])/\Below w.heap.size w w':=by
 by_cases t1:1<=t
 ·by_cases t2:t<=2
  ·have hmy:=h t1 t2;clear h
   go_enter func16,ntmps16
   iterate 2 go_step
   refine rp ?_;refine Zy (by rfl) 27 _ rfl (smC (P:Nat) (Q:Nat) (G:Nat)) rfl ?_;intro g4 z0 n0 r4 k;refine p_W ?_;have b4:w.heap.size<=g4:=n0;clear n0;have sb:=k_b k;clear k;refine p_V (.slice none 0 0) ((fun _=>rfl)) ?_;refine p_V (.int .i64 0) (fun _=>rfl) ?_;iterate 4 go_step
   refine r_p ?_;refine p_V _ (YN (t:Nat) 1) ?_;refine p_V _ (RK (t:Nat) 2) ?_;refine p_K false (.bool false) ?_;refine ZC (by rfl) 27 _ rfl _ 0 rfl r4.r _ (ZQ _) _ M_ rfl Yi (p_W ?_);refine p_c 48 func48 #[.agg (smC (P:Nat) (Q:Nat) (G:Nat)),.int .i64 (t:Nat),.slice ab n c] (hmy _ sb) ?_;intro z1010 k;refine p_W ?_;replace r4:=k.ro r4;replace sb:=kk sb k;clear k;refine p_V _ (Zs _ _ rfl false rfl) ?_;refine p_K false (.bool true) ?_;iterate 4 go_step
   refine rp ?_;refine p_V (.slice none 0 0) ((fun _=>rfl)) ?_;refine p_V (.int .i64 1) (fun _=>rfl) ?_;go_wp2;go_ret2;exact⟨rfl,sb⟩
  ·clear h
   go_enter func16,ntmps16
   iterate 2 go_step
   refine rp ?_;refine Zy (by rfl) 27 _ rfl (smC (P:Nat) (Q:Nat) (G:Nat)) rfl ?_;intro g4 z0 n0 r4 k;refine p_W ?_;have b4:w.heap.size<=g4:=n0;clear n0;have sb:=k_b k;clear k;refine p_V (.slice none 0 0) ((fun _=>rfl)) ?_;refine p_V (.int .i64 0) (fun _=>rfl) ?_;iterate 4 go_step
   refine r_p ?_;refine p_V _ (YN (t:Nat) 1) ?_;refine p_V _ (NL (t:Nat) 2) ?_;refine p_K false (.bool true) ?_;refine p_K true (.bool true) ?_;iterate 4 go_step
   refine rp ?_;refine p_V (.slice none 0 0) ((fun _=>rfl)) ?_;refine p_V (.int .i64 1) (fun _=>rfl) ?_;go_wp2;go_ret2;exact⟨rfl,sb⟩
 ·clear h
  go_enter func16,ntmps16
  iterate 2 go_step
  refine rp ?_;refine Zy (by rfl) 27 _ rfl (smC (P:Nat) (Q:Nat) (G:Nat)) rfl ?_;intro g4 z0 n0 r4 k;refine p_W ?_;have b4:w.heap.size<=g4:=n0;clear n0;have sb:=k_b k;clear k;refine p_V (.slice none 0 0) ((fun _=>rfl)) ?_;refine p_V (.int .i64 0) (fun _=>rfl) ?_;iterate 4 go_step
  refine r_p ?_;refine p_V _ (YW (t:Nat) 1) ?_;refine p_K true (.bool true) ?_;refine p_K true (.bool true) ?_;iterate 4 go_step
  refine rp ?_;refine p_V (.slice none 0 0) ((fun _=>rfl)) ?_;refine p_V (.int .i64 1) (fun _=>rfl) ?_;go_wp2;go_ret2;exact⟨rfl,sb⟩
theorem H4 (ab al:Option Addr)(n c q cl t N P Q G:Nat)(w:World)(t1:1<=t)(t2:t<=2)(hN:N<=t)(hmy: ∀w',Below w.heap.size w w'->Calls prog 48 #[.agg (smC (P:Nat) (Q:Nat) (G:Nat)),.int .i64 (t:Nat),.slice ab n c] w' (Rt (.bool true) w'))
  (hgo: ∀w',Below w.heap.size w w'->Calls prog 49 #[.agg (smC (P:Nat) (Q:Nat) (G:Nat)),.slice ab n c,.slice al q cl,.int .i64 ((t+1:Nat):Int)] w' fun e w2=> ∃ar cr,e= .returned (.slice ar N cr)/\Below w'.heap.size w' w2):
  Calls prog 16 #[.agg (smC (P:Nat) (Q:Nat) (G:Nat)),.int .i64 (t:Nat),.slice ab n c,.slice al q cl] w fun e w'=>e= .returned (.tuple #[.slice none 0 0,.int .i64 3])/\Below w.heap.size w w':=by
 go_enter func16,ntmps16
 iterate 2 go_step
 refine rp ?_;refine Zy (by rfl) 27 _ rfl (smC (P:Nat) (Q:Nat) (G:Nat)) rfl ?_;intro g4 z0 n0 r4 k;refine p_W ?_;have b4:w.heap.size<=g4:=n0;clear n0;have sb:=k_b k;clear k;refine p_V (.slice none 0 0) ((fun _=>rfl)) ?_;refine p_V (.int .i64 0) (fun _=>rfl) ?_;iterate 4 go_step
 refine r_p ?_;refine p_V _ (YN (t:Nat) 1) ?_;refine p_V _ (RK (t:Nat) 2) ?_;refine p_K false (.bool false) ?_;refine ZC (by rfl) 27 _ rfl _ 0 rfl r4.r _ (ZQ _) _ M_ rfl Yi (p_W ?_);refine p_c 48 func48 #[.agg (smC (P:Nat) (Q:Nat) (G:Nat)),.int .i64 (t:Nat),.slice ab n c] (hmy _ sb) ?_;intro z1010 k;refine p_W ?_;replace r4:=k.ro r4;replace sb:=kk sb k;clear k;refine p_V _ (Zs _ _ rfl true rfl) ?_;refine p_K false (.bool false) ?_;iterate 7 go_step
 refine rp ?_;refine ZC (by rfl) 27 _ rfl _ 0 rfl r4.r _ (ZQ _) _ M_ rfl Yi (p_W ?_);refine p_V _ (x_a t 1) ?_;refine p_f 49 func49 #[.agg (smC (P:Nat) (Q:Nat) (G:Nat)),.slice ab n c,.slice al q cl,.int .i64 ((t+1:Nat):Int)] (hgo _ sb) ?_;rintro _ z3005 ⟨ar,cr,rfl,hb⟩;refine⟨_,rfl,?_⟩;refine p_W ?_;have k:=Kept.ofBelow hb;clear hb;replace r4:=k.ro r4;replace sb:=kk sb k;clear k;refine p_W ?_;clear hgo hmy;iterate 4 go_step
 refine r_p ?_;refine p_V _ (n_l ar N cr Yu) ?_;refine p_V _ (ZR _ _ _ _ rfl (N:Nat) (t:Nat) rfl rfl true (c_ (by omega))) ?_;iterate 4 go_step
 refine rp ?_;refine p_V (.slice none 0 0) ((fun _=>rfl)) ?_;refine p_V (.int .i64 3) (fun _=>rfl) ?_;go_wp2;go_ret2;exact⟨rfl,sb⟩
