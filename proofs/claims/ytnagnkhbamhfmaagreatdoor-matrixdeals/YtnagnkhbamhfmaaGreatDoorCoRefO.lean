import Derived.Test.YtnagnkhbamhfmaaGreatDoorCR
namespace Go.Proofs.YtnagnkhbamhfmaaGreatDoor
set_option linter.all false
open Go.RowKit
open Go.Proofs.Tryz
set_option maxRecDepth 100000 in
set_option maxHeartbeats 8000000 in
theorem IM {Q:Nat}[NeZero Q](va:Value)(La:List (Fin Q))(n P G:Nat)(w:World)(hn:n<=7)(hl:La.length<=1000)(h2:2<=P)(hP:P<4611686018427387904)(hQ:Q<4611686018427387904)(ha:BG w va La):
  Calls prog 39 #[.agg (smC (P:Nat) (Q:Nat) (G:Nat)),va,.int .i64 n] w fun e w'=> ∃v',e= .returned v'/\Wt w' w.heap.size v' n (fun j=>G^(pco La j).val%P)/\Below w.heap.size w w':=by
 obtain⟨ab,c,gb,ob,bcs,tb,rfl,hc,hna⟩:=ha;obtain⟨U,hU⟩: ∃U:Nat->Nat,∀i,(pco La i).val=U i:=⟨_,fun _=>rfl⟩
 have HU0:Hid (∀i,La.length<=i->U i=0):=fun i hi=>by
  rw[<-hU,Wp _ i hi];rfl
 have hUq: ∀i,U i<Q:=fun i=>by rw[<-hU];exact(pco La i).isLt
 simp only[hU]at hna ⊢;have HB:Hid (NumsAt w ab La.length U gb ob bcs tb):=hna;generalize La.length=tl at*;obtain⟨S,hS⟩: ∃S:Nat->Nat,∀k,G^U k%P=S k:=⟨_,fun _=>rfl⟩
 have HSl:Hid (∀k,S k<4611686018427387904):=fun k=>by
  rw[<-hS];exact E_ (m_ _ (by omega)) hP
 have hit:=fun k w'=>Vp ((U k:Nat):Int) w' (by have:=hUq k;omega)
 simp only[q_]at hit;have hit2:=fun k w'=>Vp ((S k:Nat):Int) w' (by have:=HSl.out k;omega)
 simp only[q_]at hit2;have hex:=fun k w'=>J1 G (U k) P ((Q:Nat):Int) ((G:Nat):Int) w' (by have:=hUq k;exact E_ this (E_ hQ (by decide))) (by omega) hP
 simp only[hS]at hex ⊢;obtain⟨ie,hie,hz,hsz,hby⟩:=Yn
 have h11: ¬1*ie.size>2^24:=by rw[hsz];decide
 have h12: ¬1*ie.size=0:=by rw[hsz];decide
 have hl1:=fun A=>Vf A ie.size hsz
 clear hna hU hUq hS
 go_enter func39,ntmps39
 iterate 2 go_step
 refine rp ?_;refine ZO (by rfl) 27 _ rfl (smC (P:Nat) (Q:Nat) (G:Nat)) rfl ?_;intro g3 z0 n0 r3 k;simp only[pv];have b3:w.heap.size<=g3:=n0;clear n0;have sb:=k_b k;clear k;refine p_v (.slice none 0 0) ((fun _=>rfl)) (Zb ?_);simp only[pv];iterate 3 go_step
 refine rp ?_;refine p_v (.slice none 0 0) ((fun _=>rfl)) (Zb ?_);simp only[pv];iterate 4 go_step
 refine rp ?_;refine p_v (.int .i64 0) (fun _=>rfl) (Zb ?_);simp only[pv]
 go_wp2_with fail
 go_loopg [7,8,9] n (fun x s7 s8 s9 wr=> ∃k:Nat,k+x=n/\s8= .int .i64 k/\Wt wr w.heap.size s7 k S/\s7.ownBlock≠some g3/\Row wr g3 (smC (P:Nat) (Q:Nat) (G:Nat)) 27/\Below w.heap.size w wr)
 case atStart=>exact⟨0,by omega,rfl,NF _ _ _,nofun,r3,sb⟩
 case round=>
  clear r3 sb;obtain⟨k,hk,rfl,hO,eO3,r3,sb⟩:=hrel
  cases gk with
  |zero=>
   obtain rfl:k=n:=by omega
   clear hk hit hit2 hex;clear eO3;iterate 2 go_step
   refine rp ?_;refine p_m ?_;refine p_m ?_;refine p_v _ (Xe k k) (Zb ?_);simp only[pv];iterate 7 go_step
   refine rp ?_;refine p_m ?_;refine p_a (Zb ?_);simp only[pv];go_wp2;go_ret;exact⟨_,rfl,hO,sb⟩
  |succ x=>
   have hlt:k<n:=by omega
   have hi1:=hit k;have hi2:=hit2 k;have hxk:=hex k;clear hit hit2 hex;iterate 2 go_step
   refine rp ?_;refine p_m ?_;refine p_m ?_;refine p_v _ (X4 k n) (Zb ?_);simp only[pv];iterate 9 go_step
   refine rp ?_;refine p_v (.int .i64 0) (fun _=>rfl) (Zb ?_);simp only[pv];by_cases hkt:k<tl
   ·obtain h0|⟨rfl,rB,hbt⟩:=(HB.out.below sb).at'
    ·exact absurd h0 (by omega)
    have hbt':=hbt k hkt;clear hbt;iterate 4 go_step
    refine rp ?_;refine p_m ?_;refine p_m ?_;simp only[pv];refine p_v _ (n_l (some ⟨gb,ob,none⟩) tl c Tg) ?_;refine p_v _ (X4 k tl) (Zb ?_);simp only[pv];iterate 3 go_step
    refine rp ?_;refine p_m ?_;refine p_m ?_;simp only[pv];refine p_x k hkt bF0 aJ0 ?_;simp only[pv];refine p_d (ob+k*1) rB (.int .i64 (U k:Nat)) hbt' bG0 ?_;refine p_a (Zb ?_);simp only[pv];clear rB hbt';iterate 2 go_step
    refine XQ (by kernel_rfl) (fun x=>Kept u7.ownBlock.toList _ x) (fun _ _ h1 h2=>h1.trans (Kept.ofBelow h2) (by simp)) (Kept.refl _ _) [] (.leaf [(0,false),(1,false),(2,false),(3,false),(4,false),(5,false),(6,false),(7,false),(8,true),(9,true),(10,false)]) ?_ (by kernel_rfl);show EW _ _ _ _ _ _ _ _
    have ck:=Pw sb u7.ownBlock.toList;have or3:=r3;have nS3:=Wr eO3;refine e_m ?_;simp only[pv];refine Wm (by rfl) 27 _ rfl _ 0 rfl (fun _ hk=>(hk.row or3 nS3).r) (smC (P:Nat) (Q:Nat) (G:Nat)) (Yi _) _ cE0 rfl Ws ?_;simp only[pv];refine e_v (.pointer (some ⟨g3,0+2,none⟩)) (Zh 27 _ 2 rfl g3 0 rfl _ cE0 _ rfl 0 aJ0) ?_;simp only[pv];refine Y9 (by rfl) 3 _ rfl _ (0+2) rfl (fun _ hk=>(hk.row or3 nS3).r) (.int .i64 (G:Nat)) rfl bG0 ?_;refine e_m ?_;simp only[pv];refine YS (by rfl) 40 _ _ rfl iQ0 (by kernel_rfl) #[.int .i64 (U k:Nat)] rfl _ (fun w _=>hi1 w) ?_;simp only[pv];refine YS (by rfl) 88 _ _ rfl func88 (by kernel_rfl) #[.agg (smC (P:Nat) (Q:Nat) (G:Nat)),.int .i64 (G:Nat),.agg (Zc (U k))] rfl _ (fun w _=>hxk w) ?_;simp only[pv];refine YS (by rfl) 40 _ _ rfl iQ0 (by kernel_rfl) #[.int .i64 (S k:Nat)] rfl _ (fun w _=>hi2 w) ?_;simp only[pv];clear or3;refine Wq (by rfl) 22 57 1 _ rfl (Zc (S k)) ie _ r_ hie hz h11 h12 [(0,.agg (Zc (S k)))] rfl (hl1 _) ?_;intro wa8 hqb gN wb8 n0 rN hb;replace r3:=r3.belowAll hqb;replace hO:=hO.on (Kept.ofBelow hqb) (Xp _);replace sb:=b_o sb hqb;replace ck:=ck.trans (Kept.ofBelow hqb) (by simp);replace r3:=r3.belowAll hb;replace hO:=hO.on (Kept.ofBelow hb) (Xp _);replace sb:=b_o sb hb;replace ck:=ck.trans (Kept.ofBelow hb) (by simp);refine⟨fun _=>ck,?_⟩;simp only[pv];clear hqb hb n0;refine OD (by rfl) _ _ 22 rfl w.heap.size 57 ie _ 4 32 r_ hie hz hsz hby rfl (by decide) u7 k _ rfl hO gN 1 rfl rN (Zo _) (Zu _) (by unfold maxLen;omega) (by omega) sb.size ?_;intro wa9 hqb v2 wb9 hN1 kp hp;replace r3:=r3.belowAll hqb;replace hO:=hO.on (Kept.ofBelow hqb) (Xp _);replace sb:=b_o sb hqb;replace ck:=ck.trans (Kept.ofBelow hqb) (by simp)
    have hOn:Wt wb9 w.heap.size v2 (k+1) S:=by
     have:=hN1;rw[WQ]at this;exact this
    have eN3:=T6 hp r3.lt eO3;replace r3:=kp.row r3 (Wr eO3);replace sb:=sb.trans (kp.below w.heap.size sb.size hO.base);replace ck:=ck.trans kp (fun g hg=>.inl hg);refine⟨fun _=>ck,?_⟩;simp only[pv];clear hqb kp hp hN1 hO ck rN;refine Ot (by rfl) rfl rfl ?_;simp only[pv];refine Vk ?_;intro wz hqb;replace r3:=r3.belowAll hqb;replace hOn:=hOn.on (Kept.ofBelow hqb) (Xp _);replace sb:=b_o sb hqb;clear hqb;iterate 2 go_step
    refine rp ?_;refine p_m ?_;simp only[pv];refine p_v _ (x_a k 1) ?_;refine p_a (Zb ?_);simp only[pv];go_wp2
    go_roundg x
    case measure=>omega
    case rel=>exact⟨k+1,by omega,rfl,hOn,eN3,r3,sb⟩
   ·have hU0:=HU0.out k (by omega);iterate 4 go_step
    refine rp ?_;refine p_m ?_;refine p_m ?_;simp only[pv];refine p_v _ (n_l ab tl c Tg) ?_;refine p_v _ (Xe k tl) (Zb ?_);simp only[pv];rw[show(Value.int .i64 0)= .int .i64 ((U k:Nat):Int) by rw[hU0];rfl];iterate 6 go_step
    refine XQ (by kernel_rfl) (fun x=>Kept u7.ownBlock.toList _ x) (fun _ _ h1 h2=>h1.trans (Kept.ofBelow h2) (by simp)) (Kept.refl _ _) [] (.leaf [(0,false),(1,false),(2,false),(3,false),(4,false),(5,false),(6,false),(7,false),(8,true),(9,true),(10,false)]) ?_ (by kernel_rfl);show EW _ _ _ _ _ _ _ _
    have ck:=Pw sb u7.ownBlock.toList;have or3:=r3;have nS3:=Wr eO3;refine e_m ?_;simp only[pv];refine Wm (by rfl) 27 _ rfl _ 0 rfl (fun _ hk=>(hk.row or3 nS3).r) (smC (P:Nat) (Q:Nat) (G:Nat)) (Yi _) _ cE0 rfl Ws ?_;simp only[pv];refine e_v (.pointer (some ⟨g3,0+2,none⟩)) (Zh 27 _ 2 rfl g3 0 rfl _ cE0 _ rfl 0 aJ0) ?_;simp only[pv];refine Y9 (by rfl) 3 _ rfl _ (0+2) rfl (fun _ hk=>(hk.row or3 nS3).r) (.int .i64 (G:Nat)) rfl bG0 ?_;refine e_m ?_;simp only[pv];refine YS (by rfl) 40 _ _ rfl iQ0 (by kernel_rfl) #[.int .i64 (U k:Nat)] rfl _ (fun w _=>hi1 w) ?_;simp only[pv];refine YS (by rfl) 88 _ _ rfl func88 (by kernel_rfl) #[.agg (smC (P:Nat) (Q:Nat) (G:Nat)),.int .i64 (G:Nat),.agg (Zc (U k))] rfl _ (fun w _=>hxk w) ?_;simp only[pv];refine YS (by rfl) 40 _ _ rfl iQ0 (by kernel_rfl) #[.int .i64 (S k:Nat)] rfl _ (fun w _=>hi2 w) ?_;simp only[pv];clear or3;refine Wq (by rfl) 22 57 1 _ rfl (Zc (S k)) ie _ r_ hie hz h11 h12 [(0,.agg (Zc (S k)))] rfl (hl1 _) ?_;intro wa8 hqb gN wb8 n0 rN hb;replace r3:=r3.belowAll hqb;replace hO:=hO.on (Kept.ofBelow hqb) (Xp _);replace sb:=b_o sb hqb;replace ck:=ck.trans (Kept.ofBelow hqb) (by simp);replace r3:=r3.belowAll hb;replace hO:=hO.on (Kept.ofBelow hb) (Xp _);replace sb:=b_o sb hb;replace ck:=ck.trans (Kept.ofBelow hb) (by simp);refine⟨fun _=>ck,?_⟩;simp only[pv];clear hqb hb n0;refine OD (by rfl) _ _ 22 rfl w.heap.size 57 ie _ 4 32 r_ hie hz hsz hby rfl (by decide) u7 k _ rfl hO gN 1 rfl rN (Zo _) (Zu _) (by unfold maxLen;omega) (by omega) sb.size ?_;intro wa9 hqb v2 wb9 hN1 kp hp;replace r3:=r3.belowAll hqb;replace hO:=hO.on (Kept.ofBelow hqb) (Xp _);replace sb:=b_o sb hqb;replace ck:=ck.trans (Kept.ofBelow hqb) (by simp)
    have hOn:Wt wb9 w.heap.size v2 (k+1) S:=by
     have:=hN1;rw[WQ]at this;exact this
    have eN3:=T6 hp r3.lt eO3;replace r3:=kp.row r3 (Wr eO3);replace sb:=sb.trans (kp.below w.heap.size sb.size hO.base);replace ck:=ck.trans kp (fun g hg=>.inl hg);refine⟨fun _=>ck,?_⟩;simp only[pv];clear hqb kp hp hN1 hO ck rN;refine Ot (by rfl) rfl rfl ?_;simp only[pv];refine Vk ?_;intro wz hqb;replace r3:=r3.belowAll hqb;replace hOn:=hOn.on (Kept.ofBelow hqb) (Xp _);replace sb:=b_o sb hqb;clear hqb;iterate 2 go_step
    refine rp ?_;refine p_m ?_;simp only[pv];refine p_v _ (x_a k 1) ?_;refine p_a (Zb ?_);simp only[pv];go_wp2
    go_roundg x
    case measure=>omega
    case rel=>exact⟨k+1,by omega,rfl,hOn,eN3,r3,sb⟩
end Go.Proofs.YtnagnkhbamhfmaaGreatDoor
