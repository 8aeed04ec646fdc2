import Derived.Test.YtnagnkhbamhfmaaGreatDoorGV
import Derived.Test.YtnagnkhbamhfmaaGreatDoorWAdd
import Derived.Test.YtnagnkhbamhfmaaGreatDoorWI
set_option maxRecDepth 100000
set_option maxHeartbeats 8000000
namespace Go.Proofs.YtnagnkhbamhfmaaGreatDoor
set_option linter.all false
open Go.Proofs.Tryz
open Go.RowKit
theorem uc:lN leL (3-1)=1055500680322183127:=rfl
theorem ud:lN leL (3-2)=1966023127:=rfl
def sbN (A B q:Nat):Nat:=(A%q+(q-B%q))%q
def DD (a b:Nat->Nat)(q:Nat):Nat->Nat
 |0=>0
 |k+1=>(DD a b q k+a k*b k%q)%q
theorem BQ (a b:Nat->Nat)(q:Nat)(h:0<q): ∀k,DD a b q k<q
 |0=>h
 |_+1=>n_ _ h
theorem BR (A B q:Nat)(h:0<q):xU A B q=sbN A B q:=j_ (by omega)
theorem wB (x y q:Nat)(hx:x<q)(hy:y<q):(x+q-y)%q=sbN x y q:=by
 unfold sbN;rw[g_ hx,g_ hy,Nat.add_sub_assoc (by omega)]
theorem yz {A q:Nat}(hq:IsP q)(h:A%q=0):Sz A q=0:=by
 unfold Sz;rw[j_ (by have:=hq.1;omega),j_];intro hg;have hd:q∣Nat.gcd A q:=Nat.dvd_gcd (dV0 h) (Nat.dvd_refl q);rw[hg]at hd;have:=eG0 (by decide) hd;have:=hq.1;omega
theorem OI {A q:Nat}(hq:IsP q)(h:A%q≠0):Nat.gcd A q=1:=by
 rw[Nat.gcd_comm];exact VN hq fun hd=>h (gK0 hd)
theorem wC {A q:Nat}(hq:IsP q)(h:A%q≠0):A*Sz A q%q=1:=by
 rw[u_];exact(KS A q hq.1 (OI hq h)).2
theorem DE (A q:Nat)(hq:IsP q):Sz A q<q:=by
 by_cases h:A%q=0
 ·rw[yz hq h];have:=hq.1;omega
 ·exact(KS A q hq.1 (OI hq h)).1
def ivN (x q:Nat):Nat:=if x=0 then 0 else x^(q-2)%q
theorem yA {A q:Nat}(hq:IsP q):Sz A q=ivN (A%q) q:=by
 unfold ivN;by_cases h:A%q=0
 ·rw[i_ h,yz hq h]
 ·have h2:=hq.1;rw[j_ h]
  have e:Sz A q=zR A q:=by
   unfold Sz;rw[j_ (by omega),i_ (OI hq h)]
  rw[e];refine Vs A q _ (n_ _ (by omega)) ?_;have hd: ¬q∣A:=fun hd=>h (gK0 hd)
  rw[<-gO0,eO0,<-cK0,show(q-2).succ=q-1 by omega];exact Dv hq hd
theorem FJ (v f:Option Addr)(A:Nat)(B:Bool)(w:World)(hq: ∀w',Below w.heap.size w w'->Calls Tryz.prog 98 #[.pointer v] w' (Rt (.pointer f) w'))
  (hin: ∀w',Below w.heap.size w w'->Calls Tryz.prog 128 #[.pointer f,.agg (Zb A)] w' (Rt (.bool B) w')):
  Calls Tryz.prog 79 #[.pointer v,.agg (Zb A)] w fun e w'=>e= .returned (.bool B)/\Below w.heap.size w w':=by
 go_enter func79,ntmps79
 iterate 2 go_step
 refine rp ?_;refine Zy (by rfl) 57 _ rfl (_) rfl ?_;intro g3 z0 n0 r3 k;refine p_W ?_;have b3:w.heap.size<=g3:=n0;clear n0;have sb:=k_b k;clear k;refine p_V (.bool false) (fun _=>rfl) ?_;iterate 3 go_step
 refine Zl (by kernel_rfl) (by kernel_rfl) ?_;refine q_W ?_;refine q_k 98 func98 #[.pointer v] (fun w' hb=>hq w' (Zi sb (e_ _) hb)) ?_;refine q_W ?_;refine Y8 (by rfl) 57 _ rfl _ rfl r3 4 _ b_ Zc (q_W ?_);refine q_k 128 func128 #[.pointer f,.agg (Zb A)] (fun w' hb=>hin w' (Zi sb (e_ _) hb)) ?_;refine q_W ?_;intro w3 hqb;replace sb:=b_o sb hqb;clear hqb;go_wp2;go_ret;exact⟨rfl,sb⟩
theorem Pf (v:Option Addr)(A B QQ S:Nat)(z:Int)(w:World)(hq: ∀w',Below w.heap.size w w'->Calls Tryz.prog 143 #[.pointer v] w' (Rt (.agg (Zb QQ)) w'))
  (had: ∀w',Calls Tryz.prog 142 #[.agg (Zb A),.agg (Zb B),.agg (Zb QQ)] w' (Rt (.tuple #[.agg (Zb S),.int .i64 z]) w')):
  Calls Tryz.prog 99 #[.pointer v,.agg (Zb A),.agg (Zb B)] w fun e w'=>e= .returned (.agg (Zb S))/\Below w.heap.size w w':=by
 go_enter func99,ntmps99
 iterate 2 go_step
 refine rp ?_;refine Zy (by rfl) 57 _ rfl (_) rfl ?_;intro g4 z0 n0 r4 k;refine p_W ?_;clear n0;have sb:=k_b k;clear k;refine Zy (by rfl) 57 _ rfl (_) rfl ?_;intro g5 z1 n0 r5 k;refine p_W ?_;clear n0;replace r4:=k.ro r4;replace sb:=kk sb k;clear k;refine ZU (by rfl) 57 rfl _ Zm ?_;intro g6 z2 n0 r6 k;refine p_W ?_;have b6:=f_ sb.size n0;clear n0;replace r4:=k.ro r4;replace r5:=k.ro r5;replace sb:=kk sb k;clear k;refine p_W ?_;iterate 3 go_step
 apply Zg (by kernel_rfl) [] [_,_,_,_,_,_,_,_,_,_,_] trivial a_
 ·intro p;refine m_L r4 ?_;refine m_L r5 ?_;refine m_K 143 func143 #[.pointer v] (fun w' hk=>hq w' (sb.trans (hk.below w.heap.size sb.size (by simp<;>omega)))) ?_;refine m_C 142 func142 #[.agg (Zb A),.agg (Zb B),.agg (Zb QQ)] had ?_;refine m_n ?_;refine m_W ?_;refine m_p 17 S ?_;simp only[Act.put];refine m_W ?_;refine Zd ?_;intro w2 hkw hrw hnew hdis;have n7:=hnew 8 rfl;have zr7:Row w2 (p 8) (Zb S) 57:=hrw 17 (57,Zb S) rfl;have d6x7:=l_l r6.lt n7;replace r6:=hkw.ro r6;replace sb:=kk sb hkw;clear hkw hrw hnew hdis n7;generalize p 8=g7 at*;have r7:=zr7;clear zr7;iterate 3 go_step
  refine rp ?_;refine p_l r7.r ?_;refine p_W ?_;refine p_p r6 S ?_;clear r6;intro z2001 r6 k;simp only[Act.put];replace r7:=k.ro r7;replace sb:=kk sb k;clear k;refine p_W ?_;go_wp2;exact ZN rfl _ rfl r6 4 _ b_ (by exact Zc) rfl ⟨rfl,sb⟩
 ·kernel_rfl
theorem JX (v:Option Addr)(A B QQ S:Nat)(z:Int)(w:World)(hq: ∀w',Below w.heap.size w w'->Calls Tryz.prog 143 #[.pointer v] w' (Rt (.agg (Zb QQ)) w'))
  (had: ∀w',Calls Tryz.prog 166 #[.agg (Zb A),.agg (Zb B),.agg (Zb QQ)] w' (Rt (.tuple #[.agg (Zb S),.int .i64 z]) w')):
  Calls Tryz.prog 118 #[.pointer v,.agg (Zb A),.agg (Zb B)] w fun e w'=>e= .returned (.agg (Zb S))/\Below w.heap.size w w':=by
 go_enter func118,ntmps118
 iterate 2 go_step
 refine rp ?_;refine Zy (by rfl) 57 _ rfl (_) rfl ?_;intro g4 z0 n0 r4 k;refine p_W ?_;clear n0;have sb:=k_b k;clear k;refine Zy (by rfl) 57 _ rfl (_) rfl ?_;intro g5 z1 n0 r5 k;refine p_W ?_;clear n0;replace r4:=k.ro r4;replace sb:=kk sb k;clear k;refine ZU (by rfl) 57 rfl _ Zm ?_;intro g6 z2 n0 r6 k;refine p_W ?_;have b6:=f_ sb.size n0;clear n0;replace r4:=k.ro r4;replace r5:=k.ro r5;replace sb:=kk sb k;clear k;refine p_W ?_;iterate 3 go_step
 apply Zg (by kernel_rfl) [] [_,_,_,_,_,_,_,_,_,_,_] trivial a_
 ·intro p;refine m_L r4 ?_;refine m_L r5 ?_;refine m_K 143 func143 #[.pointer v] (fun w' hk=>hq w' (sb.trans (hk.below w.heap.size sb.size (by simp<;>omega)))) ?_;refine m_C 166 func166 #[.agg (Zb A),.agg (Zb B),.agg (Zb QQ)] had ?_;refine m_n ?_;refine m_W ?_;refine m_p 17 S ?_;simp only[Act.put];refine m_W ?_;refine Zd ?_;intro w2 hkw hrw hnew hdis;have n7:=hnew 8 rfl;have zr7:Row w2 (p 8) (Zb S) 57:=hrw 17 (57,Zb S) rfl;have d6x7:=l_l r6.lt n7;replace r6:=hkw.ro r6;replace sb:=kk sb hkw;clear hkw hrw hnew hdis n7;generalize p 8=g7 at*;have r7:=zr7;clear zr7;iterate 3 go_step
  refine rp ?_;refine p_l r7.r ?_;refine p_W ?_;refine p_p r6 S ?_;clear r6;intro z2001 r6 k;simp only[Act.put];replace r7:=k.ro r7;replace sb:=kk sb k;clear k;refine p_W ?_;go_wp2;exact ZN rfl _ rfl r6 4 _ b_ (by exact Zc) rfl ⟨rfl,sb⟩
 ·kernel_rfl
theorem JY (v:Option Addr)(A QQ S:Nat)(z:Int)(w:World)(hq: ∀w',Below w.heap.size w w'->Calls Tryz.prog 143 #[.pointer v] w' (Rt (.agg (Zb QQ)) w'))
  (hiv: ∀w',Calls Tryz.prog 183 #[.agg (Zb A),.agg (Zb QQ)] w' (Rt (.tuple #[.agg (Zb S),.int .i64 z]) w')):
  Calls Tryz.prog 140 #[.pointer v,.agg (Zb A)] w fun e w'=>e= .returned (.agg (Zb S))/\Below w.heap.size w w':=by
 go_enter func140,ntmps140
 iterate 2 go_step
 refine rp ?_;refine Zy (by rfl) 57 _ rfl (_) rfl ?_;intro g3 z0 n0 r3 k;refine p_W ?_;clear n0;have sb:=k_b k;clear k;refine ZU (by rfl) 57 rfl _ Zm ?_;intro g4 z1 n0 r4 k;refine p_W ?_;have b4:=f_ sb.size n0;clear n0;replace r3:=k.ro r3;replace sb:=kk sb k;clear k;refine p_W ?_;iterate 3 go_step
 apply Zg (by kernel_rfl) [] [_,_,_,_,_,_,_,_,_,_] trivial a_
 ·intro p;refine m_L r3 ?_;refine m_K 143 func143 #[.pointer v] (fun w' hk=>hq w' (sb.trans (hk.below w.heap.size sb.size (by simp<;>omega)))) ?_;refine m_C 183 func183 #[.agg (Zb A),.agg (Zb QQ)] hiv ?_;refine m_n ?_;refine m_W ?_;refine m_p 15 S ?_;simp only[Act.put];refine m_W ?_;refine Zd ?_;intro w2 hkw hrw hnew hdis;have n5:=hnew 7 rfl;have zr5:Row w2 (p 7) (Zb S) 57:=hrw 15 (57,Zb S) rfl;have d4x5:=l_l r4.lt n5;replace r4:=hkw.ro r4;replace sb:=kk sb hkw;clear hkw hrw hnew hdis n5;generalize p 7=g5 at*;have r5:=zr5;clear zr5;iterate 3 go_step
  refine rp ?_;refine p_l r5.r ?_;refine p_W ?_;refine p_p r4 S ?_;clear r4;intro z2001 r4 k;simp only[Act.put];replace r5:=k.ro r5;replace sb:=kk sb k;clear k;refine p_W ?_;go_wp2;exact ZN rfl _ rfl r4 4 _ b_ (by exact Zc) rfl ⟨rfl,sb⟩
 ·kernel_rfl
theorem Pg (v f:Option Addr)(A B S:Nat)(w:World)(hq: ∀w',Below w.heap.size w w'->Calls Tryz.prog 98 #[.pointer v] w' (Rt (.pointer f) w'))
  (hmu: ∀w',Below w.heap.size w w'->Calls Tryz.prog 144 #[.pointer f,.agg (Zb A),.agg (Zb B)] w' (Rt (.agg (Zb S)) w')):
  Calls Tryz.prog 100 #[.pointer v,.agg (Zb A),.agg (Zb B)] w fun e w'=>e= .returned (.agg (Zb S))/\Below w.heap.size w w':=by
 go_enter func100,ntmps100
 iterate 2 go_step
 refine rp ?_;refine Zy (by rfl) 57 _ rfl (_) rfl ?_;intro g4 z0 n0 r4 k;refine p_W ?_;clear n0;have sb:=k_b k;clear k;refine Zy (by rfl) 57 _ rfl (_) rfl ?_;intro g5 z1 n0 r5 k;refine p_W ?_;clear n0;replace r4:=k.ro r4;replace sb:=kk sb k;clear k;refine ZU (by rfl) 57 rfl _ Zm ?_;intro g6 z2 n0 r6 k;refine p_W ?_;have d4x6:=l_l r4.lt n0;have d5x6:=l_l r5.lt n0;have b6:=f_ sb.size n0;clear n0;replace r4:=k.ro r4;replace r5:=k.ro r5;replace sb:=kk sb k;clear k;refine p_W ?_;iterate 3 go_step
 apply Zg (by kernel_rfl) [(g6,57,Zb 0)] [_,_,_,_,_,_] ⟨r6,trivial⟩ (by simp<;>omega)
 ·intro p;refine m_W ?_;refine m_K 98 func98 #[.pointer v] (fun w' hk=>hq w' (sb.trans (hk.below w.heap.size sb.size (by simp<;>omega)))) ?_;refine m_L r4 ?_;refine m_L r5 ?_;refine m_K 144 func144 #[.pointer f,.agg (Zb A),.agg (Zb B)] (fun w' hk=>hmu w' (sb.trans (hk.below w.heap.size sb.size (by simp<;>omega)))) ?_;refine m_p 0 S ?_;simp only[Act.put];refine Zd ?_;intro w2 hkw hrw hnew hdis;have zr6:Row w2 (g6) (Zb S) 57:=hrw 0 (57,Zb S) rfl;replace sb:=kk sb hkw;clear hkw hrw hnew hdis r6;have r6:=zr6;clear zr6;go_wp2;exact ZN rfl _ rfl r6 4 _ b_ (by exact Zc) rfl ⟨rfl,sb⟩
 ·kernel_rfl
theorem Ve:Tryz.prog.underlying 68=some (.pointer (Tryz.prog.pointee 68)):=by kernel_rfl
theorem JZ (v ab ae:Option Addr)(n ca ce:Nat)(x:Addr)(a' b' T D:Nat->Nat)(gb ob ge oe:Nat)(bcs ecs:Array Value)(tb te:TypeId)(w:World)(hD0:D 0=0)
  (hna:NatsAt w ab n a' gb ob bcs tb)(hnb:NatsAt w ae n b' ge oe ecs te)(hn63:n<9223372036854775808)(hq: ∀w',Below w.heap.size w w'->Calls Tryz.prog 98 #[.pointer v] w' (Rt (.pointer (some x)) w'))
  (hmu: ∀i,i<n-> ∀w',Below w.heap.size w w'->Calls Tryz.prog 100 #[.pointer v,.agg (Zb (a' i)),.agg (Zb (b' i))] w' (Rt (.agg (Zb (T i))) w'))
  (had: ∀i,i<n-> ∀w',Below w.heap.size w w'->Calls Tryz.prog 99 #[.pointer v,.agg (Zb (D i)),.agg (Zb (T i))] w' (Rt (.agg (Zb (D (i+1)))) w')):
  Calls Tryz.prog 47 #[.pointer v,.slice ab n ca,.slice ae n ce] w fun e w'=>e= .returned (.tuple #[.agg (Zb (D n)),.int .i64 0])/\Below w.heap.size w w':=by
 have HB:Hid (NatsAt w ab n a' gb ob bcs tb):=hna;have HE:Hid (NatsAt w ae n b' ge oe ecs te):=hnb;clear hna hnb
 go_enter func47,ntmps47
 iterate 2 go_step
 refine rp ?_;refine ZU (by rfl) 57 rfl _ Zm ?_;intro g6 z0 n0 r6 k;refine p_W ?_;have b6:w.heap.size<=g6:=n0;clear n0;have sb:=k_b k;clear k;refine p_V (.int .i64 0) (fun _=>rfl) ?_;iterate 4 go_step
 refine r_p ?_;refine p_c 98 func98 #[.pointer v] (hq _ sb) ?_;intro z1001 k;refine p_W ?_;replace r6:=k.ro r6;replace sb:=kk sb k;clear k;refine p_V _ (WJ _ _ _ _ rfl (some x) rfl rfl Ve) ?_;refine p_V _ (n_l ab n ca Vb) ?_;refine p_V _ (n_l ae n ce Vb) ?_;refine p_V _ (ZT .i64 _ _ _ _ rfl n n rfl rfl false (by rw[c_ rfl];rfl)) ?_;refine p_K false (.bool false) ?_;clear hq;iterate 7 go_step
 refine rp ?_;refine ZU (by rfl) 57 rfl _ Zm ?_;intro g8 z3000 n0 r8 k;refine p_W ?_;have d6x8:=l_l r6.lt n0;have b8:=f_ sb.size n0;clear n0;replace r6:=k.ro r6;replace sb:=kk sb k;clear k;refine p_W ?_;iterate 4 go_step
 refine r_p ?_;refine p_V _ (n_l ab n ca Vb) ?_;refine p_V (.int .i64 0) (fun _=>rfl) ?_;have r8':Row _ g8 (Zb (D 0)) 57:=hD0▸r8;clear r8 hD0
 go_wp2_with fail
 go_loopg [9,23] n (fun g s9 s23 wr=> ∃i:Nat,i+g=n/\s23= .int .i64 i/\Row wr g6 (Zb 0) 57/\Row wr g8 (Zb (D i)) 57/\Below w.heap.size w wr)
 case atStart=>exact⟨0,by omega,rfl,r6,r8',sb⟩
 case round=>
  clear r6 r8' sb;obtain⟨i,hi,rfl,r6,r8,sb⟩:=hrel
  cases gk with
  |zero=>
   obtain rfl:i=n:=by omega
   clear hi hmu had
   go_step
   refine rp ?_;refine p_V _ (YN i i) ?_;iterate 8 go_step
   refine rp ?_;refine p_l r8.r ?_;refine p_W ?_;refine p_p r6 (D i) ?_;clear r6;intro z9001 r6 k;simp only[Act.put];replace r8:=k.ro r8;replace sb:=kk sb k;clear k;refine p_V (.int .i64 0) (fun _=>rfl) ?_;go_wp2;exact Yb rfl _ rfl r6 4 _ b_ (by exact Zc) rfl _ rfl ⟨rfl,sb⟩
  |succ g=>
   have hlt:i<n:=by omega
   replace hmu:=hmu i hlt;replace had:=had i hlt
   go_step
   refine rp ?_;refine p_V _ (YW i n) ?_;iterate 10 go_step
   refine r_p ?_;obtain h0|⟨rfl,rB,hbt⟩:=(HB.out.below sb).at'
   ·omega
   obtain h0|⟨rfl,rE,het⟩:=(HE.out.below sb).at'
   ·omega
   have lB:=((HB.out.at'.resolve_left (by omega)).2.1).lt;have lE:=((HE.out.at'.resolve_left (by omega)).2.1).lt;iterate 2 go_step
   apply Zg (by kernel_rfl) [(g8,57,Zb (D i))] [_,_,_,_,_,_,_,_,_,_,_,_,_,_] ⟨r8,trivial⟩ (by simp<;>omega)
   ·intro p;refine m_W ?_;refine YG 0 57 _ rfl rfl rfl 4 _ b_ Zc (m_W ?_);refine m_X i hlt t_ ZD ?_;refine Ym 57 _ rfl _ ((ob+i*4)) rfl rB (by simp<;>omega) (Zb (a' i)) (hbt i hlt) _ b_ rfl Zc (m_W ?_);refine m_X i hlt t_ ZD ?_;refine Ym 57 _ rfl _ ((oe+i*4)) rfl rE (by simp<;>omega) (Zb (b' i)) (het i hlt) _ b_ rfl Zc (m_W ?_);refine m_K 100 func100 #[.pointer v,.agg (Zb (a' i)),.agg (Zb (b' i))] (fun w' hk=>hmu w' (sb.trans (hk.below w.heap.size sb.size (by simp<;>omega)))) ?_;refine m_K 99 func99 #[.pointer v,.agg (Zb (D i)),.agg (Zb (T i))] (fun w' hk=>had w' (sb.trans (hk.below w.heap.size sb.size (by simp<;>omega)))) ?_;refine m_p 0 (D (i+1)) ?_;simp only[Act.put];refine Zd ?_;intro w10 hkw hrw hnew hdis;have zr8:Row w10 (g8) (Zb (D (i+1))) 57:=hrw 0 (57,Zb (D (i+1))) rfl;replace r6:=hkw.ro r6;replace sb:=kk sb hkw;clear hkw hrw hnew hdis r8;have r8:=zr8;clear zr8;iterate 2 go_step
    refine rp ?_;refine p_V _ (x_a i 1) ?_;go_wp2
    go_roundg g
    ·exact⟨i+1,by omega,rfl,r6,r8,sb⟩
    omega
   ·kernel_rfl
structure FdQ (Q:Nat):Prop extends RgQ Q where
 pr:IsP Q
theorem FdQ.pos {Q:Nat}(h:FdQ Q):0<Q:=l_ (by decide) h.two
theorem DF (A g gr gf P Q G:Nat)(w:World)(hA:A<2^256)(q:FdQ Q)(h:GrpAt w g gr gf P Q G):
  Calls Tryz.prog 79 #[.pointer (some ⟨g,0,none⟩),.agg (Zb A)] w (Rt (.bool (decide (A<Q))) w):=by
 refine FJ _ _ A _ w (fun w' hb=>YO _ _ _ _ _ _ w' (h.below hb).kn) fun w' hb=>?_
 have:=SN A Q _ _ _ gf w' hA q.pos q.m (h.below hb).fld;rw[OG]at this;exact this
theorem J0 (A B g gr gf P Q G:Nat)(w:World)(hA:A<2^256)(hB:B<2^256)(q:FdQ Q)(h:GrpAt w g gr gf P Q G):
  Calls Tryz.prog 99 #[.pointer (some ⟨g,0,none⟩),.agg (Zb A),.agg (Zb B)] w (Rt (.agg (Zb ((A+B)%Q))) w):=by
 refine Pf _ A B Q _ (U8 Q) w (fun w' hb=>Ui _ _ _ _ _ _ w' (h.below hb).kn) fun w'=>?_
 have:=NV A B Q w' hA hB q.m;rw[KO _ _ (Nat.pos_iff_ne_zero.1 q.pos)]at this;exact this
theorem J1 (A B g gr gf P Q G:Nat)(w:World)(hA:A<2^256)(hB:B<2^256)(q:FdQ Q)(h:GrpAt w g gr gf P Q G):
  Calls Tryz.prog 118 #[.pointer (some ⟨g,0,none⟩),.agg (Zb A),.agg (Zb B)] w (Rt (.agg (Zb (sbN A B Q))) w):=by
 refine JX _ A B Q _ (U8 Q) w (fun w' hb=>Ui _ _ _ _ _ _ w' (h.below hb).kn) fun w'=>?_
 have:=GP A B Q w' hA hB q.m;rw[BR _ _ _ q.pos]at this;exact this
theorem OJ (A B g gr gf P Q G:Nat)(w:World)(hA:A<2^256)(hB:B<2^256)(q:FdQ Q)(h:GrpAt w g gr gf P Q G):
  Calls Tryz.prog 100 #[.pointer (some ⟨g,0,none⟩),.agg (Zb A),.agg (Zb B)] w (Rt (.agg (Zb (A*B%Q))) w):=
 Pg _ _ A B _ w (fun w' hb=>YO _ _ _ _ _ _ w' (h.below hb).kn) fun w' hb=>yj A B Q gf q.toRgQ w' hA hB (h.below hb).fld
theorem BS (A g gr gf P Q G:Nat)(w:World)(hA:A<2^256)(q:FdQ Q)(h:GrpAt w g gr gf P Q G):
  Calls Tryz.prog 140 #[.pointer (some ⟨g,0,none⟩),.agg (Zb A)] w (Rt (.agg (Zb (Sz A Q))) w):=
 JY _ A Q _ _ w (fun w' hb=>Ui _ _ _ _ _ _ w' (h.below hb).kn) fun w'=>FI A Q w' hA q.m
theorem BT (g gr gf P Q G n ca ce:Nat)(ab ae:Option Addr)(a' b':Nat->Nat)(gb ob ge oe:Nat)(bcs ecs:Array Value)(tb te:TypeId)(w:World)(q:FdQ Q)(hn:n<9223372036854775808)
  (hna:NatsAt w ab n a' gb ob bcs tb)(hnb:NatsAt w ae n b' ge oe ecs te)(h:GrpAt w g gr gf P Q G):
  Calls Tryz.prog 47 #[.pointer (some ⟨g,0,none⟩),.slice ab n ca,.slice ae n ce] w (Rt (.tuple #[.agg (Zb (DD a' b' Q n)),.int .i64 0]) w):=
 JZ _ ab ae n ca ce ⟨gf,0,none⟩ a' b' (fun i=>a' i*b' i%Q) (DD a' b' Q) gb ob ge oe bcs ecs tb te w rfl hna hnb hn (fun w' hb=>YO _ _ _ _ _ _ w' (h.below hb).kn)
  (fun i hi w' hb=>OJ _ _ g gr gf P Q G w' (hna.lt i hi) (hnb.lt i hi) q (h.below hb))
  (fun i _ w' hb=>J0 _ _ g gr gf P Q G w' (E_ (BQ a' b' Q q.pos i) q.m) (E_ (n_ _ q.pos) q.m) q (h.below hb))
def NoG (w:World)(v:Option Addr):Prop:=OH w v 0 0 0 none none
theorem NoG.below {w w':World}{v:Option Addr}(h:NoG w v)(hb:Below w.heap.size w w'):NoG w' v:=OH.below h hb
theorem BU (v:Option Addr)(A B:Nat)(w:World)(hA:A<2^256)(hB:B<2^256)(h:NoG w v):
  Calls Tryz.prog 99 #[.pointer v,.agg (Zb A),.agg (Zb B)] w (Rt (.agg (Zb 0)) w):=
 Pf _ A B 0 0 _ w (fun w' hb=>Ui _ _ _ _ _ _ w' (h.below hb)) fun w'=>NV A B 0 w' hA hB (by decide)
theorem BV (v:Option Addr)(A B:Nat)(w:World)(h:NoG w v):
  Calls Tryz.prog 100 #[.pointer v,.agg (Zb A),.agg (Zb B)] w (Rt (.agg (Zb 0)) w):=
 Pg _ _ A B _ w (fun w' hb=>YO _ _ _ _ _ _ w' (h.below hb)) fun w' _=>yx none A B w' (.inl rfl)
theorem FK (A QN X:Nat)(q:Int)(w:World)
  (hin: ∀w',Calls Tryz.prog 40 #[.int .i64 q] w' (Rt (.agg (Zb QN)) w'))
  (hrm: ∀w',Calls Tryz.prog 133 #[.agg (Zb A),.agg (Zb 0),.agg (Zb QN)] w' (Rt (.tuple #[.agg (Zb X),.int .i64 0]) w'))
  (hlo: ∀w',Calls Tryz.prog 50 #[.agg (Zb X)] w' (Rt (.tuple #[.int .i64 (X:Nat),.bool true]) w')):
  Calls Tryz.prog 87 #[.agg (Zb A),.int .i64 q] w fun e w'=>e= .returned (.int .i64 (X:Nat))/\Below w.heap.size w w':=by
 go_enter func87,ntmps87
 iterate 2 go_step
 refine rp ?_;refine Zy (by rfl) 57 _ rfl (_) rfl ?_;intro g2 z0 n0 r2 k;refine p_W ?_;have b2:w.heap.size<=g2:=n0;clear n0;have sb:=k_b k;clear k;refine p_V (.int .i64 0) (fun _=>rfl) ?_;iterate 3 go_step
 apply Zg (by kernel_rfl) [] [_,_,_,_,_,_,_,_,_,_,_] trivial a_
 ·intro p;refine m_L r2 ?_;refine m_V _ (ZG _ rfl _ ZA) ?_;refine m_C 40 func40 #[.int .i64 q] hin ?_;refine m_C 133 func133 #[.agg (Zb A),.agg (Zb 0),.agg (Zb QN)] hrm ?_;refine m_n ?_;refine m_W ?_;refine m_p 17 X ?_;simp only[Act.put];refine m_W ?_;refine Zd ?_;intro w2 hkw hrw hnew hdis;have n5:=hnew 8 rfl;have zr5:Row w2 (p 8) (Zb X) 57:=hrw 17 (57,Zb X) rfl;have b5:=f_ sb.size n5;replace sb:=kk sb hkw;clear hkw hrw hnew hdis n5;generalize p 8=g5 at*;have r5:=zr5;clear zr5;iterate 3 go_step
  refine rp ?_;refine p_l r5.r ?_;refine p_W ?_;refine p_c 50 hI0 #[.agg (Zb X)] (hlo _) ?_;intro z2001 k;refine p_W ?_;replace r5:=k.ro r5;replace sb:=kk sb k;clear k;refine p_W ?_;iterate 3 go_step
  refine r_p ?_;go_wp2;go_ret;exact⟨rfl,sb⟩
 ·kernel_rfl
theorem BW (A q:Nat)(w:World)(hA:A<2^256)(h0:0<q)(hq:q<4611686018427387904):
  Calls Tryz.prog 87 #[.agg (Zb A),.int .i64 (q:Nat)] w (Rt (.int .i64 (A%q:Nat)) w):=by
 have hX:=n_ A h0;refine FK A q (A%q) q w (fun w'=>?_) (fun w'=>?_) fun w'=>?_
 ·have:=Vo (q:Int) w' (by omega);rw[q_]at this;exact this
 ·have:=Fp A 0 q w' hA (by decide) (by omega);rw[show Sy (0*2^256+A) q=A%q by unfold Sy;rw[j_ (by omega),cD0,A_],show U8 q=0 by unfold U8;rw[j_ (by omega)]]at this;exact this
 ·have:=U3 (A%q) w' (by omega);rw[show QE (A%q)=((A%q:Nat):Int)from i_ (by omega),show Qp (A%q)=true from c_ (by omega)]at this;exact this
theorem Ph (x y q:Nat)(w:World)(h0:0<q)(hx:x<4611686018427387904)(hy:y<4611686018427387904):
  Calls Tryz.prog 90 #[.int .i64 (x:Nat),.int .i64 (y:Nat),.int .i64 (q:Nat)] w fun e w'=>e= .returned (.int .i64 ((x+y)%q:Nat))/\Below w.heap.size w w':=by
 go_enter func90,ntmps90
 have sb:=H_ w.heap.size w;repeat((fail_if_success with_reducible apply rg);go_step)
 refine rp ?_;refine p_V (.int .i64 0) (fun _=>rfl) ?_;repeat((fail_if_success with_reducible apply rg);go_step)
 refine r_p ?_;refine p_V _ (x_a x y) ?_;refine p_V _ (YI _ _ _ _ rfl (x+y) q rfl rfl h0) ?_;go_wp2;go_ret;exact⟨rfl,sb⟩
theorem Pi (x y q:Nat)(w:World)(h0:0<q)(hx:x<q)(hy:y<q)(hq:q<4611686018427387904):
  Calls Tryz.prog 106 #[.int .i64 (x:Nat),.int .i64 (y:Nat),.int .i64 (q:Nat)] w fun e w'=>e= .returned (.int .i64 (sbN x y q:Nat))/\Below w.heap.size w w':=by
 have hs:(x+q-y)%q=sbN x y q:=wB x y q hx hy;generalize sbN x y q=S at*
 go_enter func106,ntmps106
 have sb:=H_ w.heap.size w;repeat((fail_if_success with_reducible apply rg);go_step)
 refine rp ?_;refine p_V (.int .i64 0) (fun _=>rfl) ?_;repeat((fail_if_success with_reducible apply rg);go_step)
 refine r_p ?_;refine p_V _ (x_a x q) ?_;refine p_V _ (ZS _ _ _ _ rfl (x+q) y rfl rfl (by omega) (by omega)) ?_;refine p_V (.int .i64 (S:Nat)) (fun w'=>(YI _ _ _ _ rfl (x+q-y) q rfl rfl h0 w').trans (by rw[hs])) ?_;go_wp2;go_ret;exact⟨rfl,sb⟩
theorem Pm (x y q:Nat)(w:World)(h0:0<q)(hq:q<4611686018427387904):
  Calls Tryz.prog 91 #[.int .i64 (x:Nat),.int .i64 (y:Nat),.int .i64 (q:Nat)] w fun e w'=>e= .returned (.int .i64 (x*y%q:Nat))/\Below w.heap.size w w':=by
 have hti:=fun w'=>UK x y q w' h0 hq
 generalize x*y%q=T at*;clear h0 hq
 go_enter func91,ntmps91
 have sb:=H_ w.heap.size w;repeat((fail_if_success with_reducible apply rg);go_step)
 refine rp ?_;refine p_V (.int .i64 0) (fun _=>rfl) ?_;repeat((fail_if_success with_reducible apply rg);go_step)
 refine r_p ?_;refine p_c 135 func135 #[.int .i64 (x:Nat),.int .i64 (y:Nat),.int .i64 (q:Nat)] (hti _) ?_;intro z1003 k;refine p_W ?_;replace sb:=kk sb k;clear k;refine p_W ?_;go_wp2;go_ret;exact⟨rfl,sb⟩
theorem Lw (q:Nat)(w:World):
  Calls Tryz.prog 105 #[.int .i64 ((0:Nat):Int),.int .i64 (q:Nat)] w fun e w'=>e= .returned (.int .i64 ((0:Nat):Int))/\Below w.heap.size w w':=by
 go_enter func105,ntmps105
 have sb:=H_ w.heap.size w;repeat((fail_if_success with_reducible apply rg);go_step)
 refine rp ?_;refine p_V (.int .i64 0) (fun _=>rfl) ?_;repeat((fail_if_success with_reducible apply rg);go_step)
 refine r_p ?_;refine p_V _ (Zz .i64 _ _ _ _ rfl ((0:Nat):Int) 0 rfl rfl true rfl) ?_;repeat((fail_if_success with_reducible apply rg);go_step)
 refine rp ?_;refine p_V (.int .i64 0) (fun _=>rfl) ?_;go_wp2;go_ret;exact⟨rfl,sb⟩
theorem Lx (x q:Nat)(w:World)(hx:x≠0)(h2:2<=q)(hq:q<4611686018427387904):
  Calls Tryz.prog 105 #[.int .i64 (x:Nat),.int .i64 (q:Nat)] w fun e w'=>e= .returned (.int .i64 (x^(q-2)%q:Nat))/\Below w.heap.size w w':=by
 have hin:=fun w'=>Vo ((q-2:Nat):Int) w' (by omega)
 rw[q_]at hin;have hpo:=fun w'=>SY x (q-2) q w' (by omega) (by omega) hq
 generalize x^(q-2)%q=T at*
 go_enter func105,ntmps105
 have sb:=H_ w.heap.size w;repeat((fail_if_success with_reducible apply rg);go_step)
 refine rp ?_;refine p_V (.int .i64 0) (fun _=>rfl) ?_;repeat((fail_if_success with_reducible apply rg);go_step)
 refine r_p ?_;refine p_V _ (Zz .i64 _ _ _ _ rfl (x:Nat) 0 rfl rfl false (d_ (by omega))) ?_;repeat((fail_if_success with_reducible apply rg);go_step)
 refine r_p ?_;refine p_V _ (ZS _ _ _ _ rfl q 2 rfl rfl h2 (by omega)) ?_;refine p_c 40 func40 #[.int .i64 ((q-2:Nat):Int)] (hin _) ?_;intro z3003 k;refine p_W ?_;replace sb:=kk sb k;clear k;refine p_W ?_;refine p_c 134 func134 #[.int .i64 (x:Nat),.agg (Zb (q-2)),.int .i64 (q:Nat)] (hpo _) ?_;intro z3005 k;refine p_W ?_;replace sb:=kk sb k;clear k;refine p_W ?_;go_wp2;go_ret;exact⟨rfl,sb⟩
theorem J2 (x q:Nat)(w:World)(h2:2<=q)(hq:q<4611686018427387904):
  Calls Tryz.prog 105 #[.int .i64 (x:Nat),.int .i64 (q:Nat)] w (Rt (.int .i64 (ivN x q:Nat)) w):=by
 unfold ivN;by_cases h:x=0
 ·subst h;exact Lw q w
 ·rw[j_ h];exact Lx x q w h h2 hq
def pk2 {α:Type}(b:Bool)(x y:α):α:=if b=true then x else y
theorem BX (a0 z:Int)(w:World)(hz:bits .and .i64 a0 1=z)(h:decide (z=1)=true):
  Calls Tryz.prog 30 #[.int .i64 a0] w fun e w'=> ∃g,e= .returned (.agg (paC (some ⟨g,0,none⟩) 3 3 otG))/\w.heap.size<=g/\Row w' g (OF 3 (lN otL) P3) 106/\Below w.heap.size w w':=by
 go_enter func30,ntmps30
 iterate 2 go_step
 refine rp ?_;refine ZU (by rfl) 59 rfl _ TN ?_;intro g2 z0 n0 r2 k;refine p_W ?_;have b2:w.heap.size<=g2:=n0;clear n0;have sb:=k_b k;clear k;refine p_W ?_;iterate 4 go_step
 refine r_p ?_;refine p_V (.int .i64 z) (fun w'=>(WI .and _ _ _ _ (.inl rfl) rfl a0 1 rfl rfl w').trans (by rw[hz])) ?_;refine p_V _ (Zz .i64 _ _ _ _ rfl z 1 rfl rfl true h) ?_;iterate 4 go_step
 refine rp ?_;refine p_f 21 func21 #[] (Lv _) ?_;rintro _ z2000 ⟨gL,rfl,nL,rL,hb⟩;refine⟨_,rfl,?_⟩;refine p_W ?_;have d2xL:=l_l r2.lt nL;have bL:=f_ sb.size nL;clear nL;have k:=Kept.ofBelow hb;clear hb;replace r2:=k.ro r2;replace sb:=kk sb k;clear k;refine Xo (by rfl) 59 _ _ rfl _ rfl r2 (paC (some ⟨gL,0,none⟩) 3 3 otG) rfl (by exact XF) (by rfl) (Pc _ _ _ _) ?_;clear r2;intro z2001 r2 k;simp only[Act.put];replace rL:=k.ro rL;replace sb:=kk sb k;clear k;refine p_W ?_;go_wp2;exact XQ rfl _ rfl r2 _ bH0 (by exact XF) rfl ⟨gL,rfl,bL,rL,sb⟩
theorem BZ (a0 z:Int)(w:World)(hz:bits .and .i64 a0 1=z)(h:decide (z=1)=false):
  Calls Tryz.prog 30 #[.int .i64 a0] w fun e w'=> ∃g,e= .returned (.agg (paC (some ⟨g,0,none⟩) 3 3 leG))/\w.heap.size<=g/\Row w' g (OF 3 (lN leL) P3) 106/\Below w.heap.size w w':=by
 go_enter func30,ntmps30
 iterate 2 go_step
 refine rp ?_;refine ZU (by rfl) 59 rfl _ TN ?_;intro g2 z0 n0 r2 k;refine p_W ?_;have b2:w.heap.size<=g2:=n0;clear n0;have sb:=k_b k;clear k;refine p_W ?_;iterate 4 go_step
 refine r_p ?_;refine p_V (.int .i64 z) (fun w'=>(WI .and _ _ _ _ (.inl rfl) rfl a0 1 rfl rfl w').trans (by rw[hz])) ?_;refine p_V _ (Zz .i64 _ _ _ _ rfl z 1 rfl rfl false h) ?_;iterate 7 go_step
 refine rp ?_;refine p_f 20 func20 #[] (Lu _) ?_;rintro _ z3000 ⟨gL,rfl,nL,rL,hb⟩;refine⟨_,rfl,?_⟩;refine p_W ?_;have d2xL:=l_l r2.lt nL;have bL:=f_ sb.size nL;clear nL;have k:=Kept.ofBelow hb;clear hb;replace r2:=k.ro r2;replace sb:=kk sb k;clear k;refine Xo (by rfl) 59 _ _ rfl _ rfl r2 (paC (some ⟨gL,0,none⟩) 3 3 leG) rfl (by exact XF) (by rfl) (Pc _ _ _ _) ?_;clear r2;intro z3001 r2 k;simp only[Act.put];replace rL:=k.ro rL;replace sb:=kk sb k;clear k;refine p_W ?_;go_wp2;exact XQ rfl _ rfl r2 _ bH0 (by exact XF) rfl ⟨gL,rfl,bL,rL,sb⟩
def pkB (a0:Int):Bool:=decide (bits .and .i64 a0 1=1)
theorem J3 (a0:Int)(w:World):
  Calls Tryz.prog 30 #[.int .i64 a0] w fun e w'=> ∃g,e= .returned (.agg (paC (some ⟨g,0,none⟩) 3 3 (pk2 (pkB a0) otG leG)))/\w.heap.size<=g/\Row w' g (OF 3 (lN (pk2 (pkB a0) otL leL)) P3) 106/\Below w.heap.size w w':=by
 cases h:pkB a0 with
 |true=>exact BX a0 _ w rfl h
 |false=>exact BZ a0 _ w rfl h
theorem DG (b:Bool):grN 3 (lN (pk2 b otL leL)) P3 (pk2 b otG leG)=true/\(∀i,i<3->lN (pk2 b otL leL) i<2^256)/\pk2 b otG leG<2^256/\lN (pk2 b otL leL) (3-2)<4611686018427387904:=by
 cases b with
 |true=>exact⟨G5,wA,by decide,by decide⟩
 |false=>exact⟨NK,yn,by decide,by decide⟩