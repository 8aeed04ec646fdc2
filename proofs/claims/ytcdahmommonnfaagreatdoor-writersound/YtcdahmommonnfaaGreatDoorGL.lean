import Derived.Test.YtcdahmommonnfaaGreatDoorGK
set_option maxRecDepth 100000
set_option maxHeartbeats 8000000
namespace Go.Proofs.YtcdahmommonnfaaGreatDoor
set_option linter.all false
open Go.Proofs.Tryz
open Go.RowKit
def nw (m x:Nat):Int:=IntKind.u64.wrap ((x:Int)*IntKind.u64.wrap (2-IntKind.u64.wrap ((m:Int)*x)))
theorem TM (z:Int):(18446744073709551616:Int)∣z-IntKind.u64.wrap z:=by
 rw[IntKind.wrap_u64];omega
theorem GY (m x a b c:Int)(h1:(18446744073709551616:Int)∣m*x-a)(h2:(18446744073709551616:Int)∣2-a-b)(h3:(18446744073709551616:Int)∣x*b-c):(18446744073709551616:Int)∣(m*c-1)+(m*x-1)*(m*x-1):=by
 obtain⟨p,hp⟩:=h1;obtain⟨q,hq⟩:=h2;obtain⟨r,hr⟩:=h3;refine⟨m*(x*p)-m*(x*q)-m*r,?_⟩;have e1:b=2-m*x+18446744073709551616*p-18446744073709551616*q:=by omega
 have e2:c=x*b-18446744073709551616*r:=by omega
 rw[e2,e1];simp only[Int.mul_sub,Int.sub_mul,Int.mul_add];have a1:m*(x*(m*x))=m*x*(m*x):=by rw[Int.mul_assoc]
 have a2:m*(x*(18446744073709551616*p))=18446744073709551616*(m*(x*p)):=by rw[Int.mul_left_comm x,Int.mul_left_comm m]
 have a3:m*(x*(18446744073709551616*q))=18446744073709551616*(m*(x*q)):=by rw[Int.mul_left_comm x,Int.mul_left_comm m]
 have a4:m*(18446744073709551616*r)=18446744073709551616*(m*r):=by rw[Int.mul_left_comm]
 have a5:m*(x*2)=2*(m*x):=by rw[Int.mul_comm x,Int.mul_left_comm]
 rw[a1,a2,a3,a4,a5];omega
theorem Ul (m x:Nat)(P P':Int)(hx:P∣(m:Int)*x-1)(h1:P'∣P*P)(h2:P'∣18446744073709551616):P'∣(m:Int)*nw m x-1:=by
 have hk:=GY (m:Int) (x:Int) _ _ _ (TM ((m:Int)*x)) (TM (2-IntKind.u64.wrap ((m:Int)*x))) (TM ((x:Int)*IntKind.u64.wrap (2-IntKind.u64.wrap ((m:Int)*x))));have hs:P'∣((m:Int)*x-1)*((m:Int)*x-1):=Int.dvd_trans h1 (Int.mul_dvd_mul hx hx);have ht:=Int.dvd_sub (Int.dvd_trans h2 hk) hs;have e:(m:Int)*nw m x-1+((m:Int)*x-1)*((m:Int)*x-1)-((m:Int)*x-1)*((m:Int)*x-1)=(m:Int)*nw m x-1:=by omega
 unfold nw at*;rw[e]at ht;exact ht
theorem Ha (m x:Nat): ∃y:Nat,y<18446744073709551616/\nw m x=(y:Int):=by
 unfold nw;rw[IntKind.wrap_u64];have h0:0<=((x:Int)*IntKind.u64.wrap (2-IntKind.u64.wrap ((m:Int)*x)))%18446744073709551616:=Int.emod_nonneg _ (by decide);obtain⟨y,hy⟩:=Int.eq_ofNat_of_zero_le h0;exact⟨y,by omega,hy⟩
def nwP:Nat->Int
 |0=>8
 |1=>64
 |2=>4096
 |3=>16777216
 |4=>281474976710656
 |_=>18446744073709551616
theorem Jh (m:Nat)(h:m%2=1):nwP 0∣(m:Int)*m-1:=by
 have h8:m%8=1∨m%8=3∨m%8=5∨m%8=7:=by omega
 have hm:m*m%8=1:=by rw[Nat.mul_mod];rcases h8 with e|e|e|e<;>rw[e]
 show(8:Int)∣_
 have:((m*m:Nat):Int)=(m:Int)*m:=Int.natCast_mul m m;omega
theorem GZ (m x i:Nat)(hi:i<5)(hx:nwP i∣(m:Int)*x-1):nwP (i+1)∣(m:Int)*nw m x-1:=by
 match i,hi,hx with
 |0,_,hx=>exact Ul m x 8 64 hx ⟨1,by decide⟩ ⟨288230376151711744,by decide⟩
 |1,_,hx=>exact Ul m x 64 4096 hx ⟨1,by decide⟩ ⟨4503599627370496,by decide⟩
 |2,_,hx=>exact Ul m x 4096 16777216 hx ⟨1,by decide⟩ ⟨1099511627776,by decide⟩
 |3,_,hx=>exact Ul m x 16777216 281474976710656 hx ⟨1,by decide⟩ ⟨65536,by decide⟩
 |4,_,hx=>exact Ul m x 281474976710656 18446744073709551616 hx ⟨4294967296,by decide⟩ ⟨1,by decide⟩
def nwI (m:Nat):Nat->Nat
 |0=>m
 |i+1=>(nw m (nwI m i)).toNat
theorem Pc (m i:Nat):nw m (nwI m i)=(nwI m (i+1):Int):=by
 obtain⟨y,_,e⟩:=Ha m (nwI m i);show _=(((nw m (nwI m i)).toNat:Nat):Int)
 rw[e,Int.toNat_natCast]
theorem E6 (m i:Nat)(hm:m<18446744073709551616):nwI m i<18446744073709551616:=by
 cases i with
 |zero=>exact hm
 |succ i=>
  obtain⟨y,hy,e⟩:=Ha m (nwI m i);show(nw m (nwI m i)).toNat<_
  rw[e,Int.toNat_natCast];exact hy
theorem N1 (m:Nat)(h:m%2=1): ∀i,i<=5->nwP i∣(m:Int)*nwI m i-1
 |0,_=>Jh m h
 |i+1,hi=>by
  have:=GZ m (nwI m i) i (by omega) (N1 m h i (by omega));rw[Pc]at this;exact this
theorem R5 (m:Nat)(w:World):
  Calls prog 86 #[.int .u64 m] w fun e w'=>e= .returned (.int .u64 (nwI m 5:Nat))/\Below w.heap.size w w':=by
 go_enter func86,ntmps86
 go_wp2_with fail
 go_loopg [3,5] 5 (fun g s3 s5 wr=> ∃i:Nat,i+g=5/\s3= .int .u64 (nwI m i:Nat)/\s5= .int .i64 i/\wr=w)
 case atStart=>exact⟨0,by omega,rfl,rfl,rfl⟩
 case round=>
  obtain⟨i,hi,rfl,rfl,rfl⟩:=hrel
  cases gk with
  |zero=>
   obtain rfl:i=5:=by omega
   have hx5: ¬((5:Int)<5):=by omega
   clear hi;go_wp2;go_ret;exact⟨rfl,Below.refl _ _⟩
  |succ g=>
   have hlt:(i:Int)<5:=by omega
   have HD:Hid (nw m (nwI m i)=(nwI m (i+1):Int)/\i+(g+1)=5):=⟨Pc m i,hi⟩;clear hi;go_wp2
   go_roundg g
   case measure=>omega
   case rel=>
    obtain⟨h1,h2⟩:=HD.out;refine⟨i+1,by omega,?_,by go_num,rfl⟩;rw[<-h1];rfl
theorem Ji (M y:Nat)(hy:(18446744073709551616:Int)∣(lm M 0:Int)*y-1)(hl:y<18446744073709551616):
  18446744073709551616-y<18446744073709551616/\IntKind.u64.wrap (-(y:Int))=((18446744073709551616-y:Nat):Int)/\(18446744073709551616-y)*M%18446744073709551616=18446744073709551615:=by
 have hlm:lm M 0=M%18446744073709551616:=by unfold lm;rw[Nat.mul_zero,Nat.pow_zero,Nat.div_one]
 obtain⟨q,hq⟩:=hy
 have hy0:0<y:=by
  rcases Nat.eq_zero_or_pos y with h0|h0
  ·subst h0;omega
  ·exact h0
 refine⟨by omega,by rw[IntKind.wrap_u64];omega,?_⟩
 have h1:lm M 0*y%18446744073709551616=1:=by
  have:((lm M 0*y:Nat):Int)=18446744073709551616*q+1:=by rw[Int.natCast_mul];omega
  omega
 have h2:y*M%18446744073709551616=1:=by rw[Nat.mul_comm,Nat.mul_mod,<-hlm,Nat.mod_eq_of_lt hl,h1]
 have h3:(18446744073709551616-y)*M+y*M=18446744073709551616*M:=by rw[<-Nat.add_mul];congr 1;omega
 omega
theorem YE {P:Program}{o:Oper}{ρ:Operand->Value}(t:TypeId)(x y:Operand)(u:TypeId)(ho:o.op= .binOp .neq t x y u)(q:Option Addr)(hx:ρ x= .pointer q)(hy:ρ y= .pointer none)(ht:P.underlying t=some (.pointer (P.pointee t)))(w:World):
  (execOp ρ o).run P w= .ok (.value (.bool (!q.isNone))) w:=by
 unfold execOp;simp only[ho,hx,hy];simp[eqGuard,run_neq_pointer_nil w t q ht]
theorem Y0 {P:Program}{o:Oper}{ρ:Operand->Value}(t:TypeId)(x y:Operand)(u:TypeId)(ho:o.op= .binOp .eql t x y u)(q:Option Addr)(hx:ρ x= .pointer q)(hy:ρ y= .pointer none)(ht:P.underlying t=some (.pointer (P.pointee t)))(w:World):
  (execOp ρ o).run P w= .ok (.value (.bool q.isNone)) w:=by
 unfold execOp;simp only[ho,hx,hy];simp[eqGuard,run_eql_pointer_nil w t q ht]
theorem TN:prog.underlying 109=some (.pointer (prog.pointee 109)):=by kernel_rfl
theorem G1 {M:Nat}(h:0<M)(hM:M<2^256):(!decide (M%2^256=0%2^256))=true:=by
 rw[Nat.mod_eq_of_lt hM,decide_eq_false (by simp;omega)];rfl
theorem X9 (M mi one sq g0:Nat)(w:World)(h0:0<M)(hM:M<2^256)(r0:Row w g0 (rgC M mi one sq) 157):
  Calls prog 131 #[.pointer (some ⟨g0,0,none⟩)] w fun e w'=>e= .returned (.bool true)/\Below w.heap.size w w':=by
 have HV:Hid ((!decide (M%2^256=0%2^256))=true):=G1 h0 hM;clear h0 hM
 go_enter func131,ntmps131
 iterate 2 go_step
 apply Zd [] [_] trivial List.nodup_nil
 ·intro p;refine Zg (.bool false) (fun _=>rfl) ?_;simp only[pv];refine Zi ?_;intro w2 hkw hrw hnew hdis;replace r0:=hkw.ro r0;have sb:=k_b hkw;clear hkw hrw hnew hdis;iterate 3 go_step
  refine ZQ ?_;refine q_m ?_;simp only[pv];refine q_v _ (YE 109 _ _ _ rfl (some ⟨g0,0,none⟩) rfl rfl TN) ?_;refine q_m ?_;refine q_m ?_;simp only[pv];refine q_v (.pointer (some ⟨g0,0,none⟩)) (Zl _ rfl g0 0 rfl) ?_;simp only[pv];refine q_v _ (Zb 157 _ 0 rfl g0 0 rfl _ underlying157 _ rfl 3 sizeOf39) ?_;simp only[pv];refine Yq (by rfl) 39 _ rfl _ (0) rfl r0 (Zc M) (E4 M mi one sq) _ underlying39 rfl Ze ?_;simp only[pv];refine q_v _ (ZS 39 rfl _ ZO) ?_;simp only[pv];refine q_v (.bool true) (fun w'=>(Yf _ _ _ rfl M 0 rfl rfl w').trans (by rw[HV.out])) ?_;refine q_p true (.bool true) ?_;refine q_a ?_;simp only[pv];refine Z2 ?_;intro w3 hqb;replace sb:=b_o sb hqb;clear hqb;go_wp2;go_ret;exact⟨rfl,sb⟩
 ·rfl
theorem N2 (M mi one sq g0:Nat)(w:World)(h0:0<M)(hM:M<2^256)(r0:Row w g0 (rgC M mi one sq) 157):
  Calls prog 173 #[.pointer (some ⟨g0,0,none⟩)] w fun e w'=>e= .returned (.agg (Zc M))/\Below w.heap.size w w':=by
 have hgi:=fun w'=>X9 M mi one sq g0 w' h0 hM
 clear h0 hM
 go_enter func173,ntmps173
 iterate 2 go_step
 apply Zd [] [_] trivial List.nodup_nil
 ·intro p;refine m_n ?_;simp only[pv];refine Zi ?_;intro w2 hkw hrw hnew hdis;have n2:=hnew 0 rfl;have zr2:Row w2 (p 0) (Zc 0) 39:=hrw 1 (39,Zc 0) rfl;have d0x2:=l_l r0.lt n2;replace r0:=hkw.ro r0;have sb:=k_b hkw;have b2:w.heap.size<=p 0:=n2;clear hkw hrw hnew hdis n2;generalize p 0=g2 at*;have r2:=zr2;clear zr2;iterate 4 go_step
  apply Zd [] [_,_,_] trivial List.nodup_nil
  ·intro p;refine m_m ?_;simp only[pv];refine m_k 131 func131 #[.pointer (some ⟨g0,0,none⟩)] (fun w' hk=>hgi w' (hk.row r0 (by simp))) ?_;simp only[pv];refine Zg _ (Zp _ _ rfl true rfl) ?_;simp only[pv];refine Zi ?_;intro w3 hkw hrw hnew hdis;replace r0:=hkw.ro r0;replace r2:=hkw.ro r2;replace sb:=kk sb hkw;clear hkw hrw hnew hdis;iterate 7 go_step
   apply Zd [(g2,39,Zc 0)] [_,_,_,_,_] ⟨r2,trivial⟩ (by simp<;>omega)
   ·intro p;refine m_m ?_;simp only[pv];refine Zg (.pointer (some ⟨g0,0,none⟩)) (Zl _ rfl g0 0 rfl) ?_;simp only[pv];refine Zg _ (Zb 157 _ 0 rfl g0 0 rfl _ underlying157 _ rfl 3 sizeOf39) ?_;simp only[pv];refine Xe 39 _ rfl _ (0) rfl r0 (by simp<;>omega) (Zc M) (E4 M mi one sq) _ underlying39 rfl Ze ?_;simp only[pv];refine m_p 0 M ?_;simp only[Act.put];refine Zi ?_;intro w4 hkw hrw hnew hdis;have zr2:Row w4 (g2) (Zc M) 39:=hrw 0 (39,Zc M) rfl;replace sb:=kk sb hkw;clear hkw hrw hnew hdis r2;have r2:=zr2;clear zr2;go_wp2;exact ZX rfl _ rfl r2 4 _ underlying39 (by exact Ze) rfl ⟨rfl,sb⟩
   ·rfl
  ·rfl
 ·rfl
theorem Ow (A M mi one sq g0:Nat)(w:World)(hA:A<2^256)(h0:0<M)(hM:M<2^256)(r0:Row w g0 (rgC M mi one sq) 157):
  Calls prog 251 #[.pointer (some ⟨g0,0,none⟩),.agg (Zc A)] w fun e w'=>e= .returned (.bool (decide (WB A M<0)))/\Below w.heap.size w w':=by
 have hgi:=fun w'=>X9 M mi one sq g0 w' h0 hM
 have hcm:=fun w'=>XF A M w' hA hM
 clear h0 hM hA;generalize WB A M=z at*
 go_enter func251,ntmps251
 iterate 2 go_step
 apply Zd [] [_,_] trivial List.nodup_nil
 ·intro p;refine YD 39 _ rfl _ rfl ?_;simp only[pv];refine Zg (.bool false) (fun _=>rfl) ?_;simp only[pv];refine Zi ?_;intro w2 hkw hrw hnew hdis;have n3:=hnew 0 rfl;have zr3:Row w2 (p 0) (Zc A) 39:=hrw 1 (39,Zc A) rfl;have d0x3:=l_l r0.lt n3;replace r0:=hkw.ro r0;have sb:=k_b hkw;have b3:w.heap.size<=p 0:=n3;clear hkw hrw hnew hdis n3;generalize p 0=g3 at*;have r3:=zr3;clear zr3;iterate 3 go_step
  refine ZF (by kernel_rfl) (by kernel_rfl) ?_;refine q_m ?_;simp only[pv];refine q_k 131 func131 #[.pointer (some ⟨g0,0,none⟩)] (fun w' hb=>hgi w' (r0.belowAll hb)) ?_;refine q_m ?_;simp only[pv];refine Xc (by rfl) 39 _ rfl _ rfl r3 4 _ underlying39 Ze ?_;refine q_m ?_;simp only[pv];refine q_v (.pointer (some ⟨g0,0,none⟩)) (Zl _ rfl g0 0 rfl) ?_;simp only[pv];refine q_v _ (Zb 157 _ 0 rfl g0 0 rfl _ underlying157 _ rfl 3 sizeOf39) ?_;simp only[pv];refine Yq (by rfl) 39 _ rfl _ (0) rfl r0 (Zc M) (E4 M mi one sq) _ underlying39 rfl Ze ?_;simp only[pv];refine q_c 83 func83 #[.agg (Zc A),.agg (Zc M)] hcm ?_;simp only[pv];refine q_v _ (Yv _ _ _ _ rfl z 0 rfl rfl) ?_;simp only[pv];refine Tv true (v:=.bool (decide (z<0))) (by rfl) rfl rfl rfl ?_;refine q_a ?_;simp only[pv];refine Z2 ?_;intro w3 hqb;replace sb:=b_o sb hqb;clear hqb;go_wp2;go_ret;exact⟨rfl,sb⟩
 ·rfl
theorem Pe (A M mi one sq g0:Nat)(w:World)(hA:A<2^256)(hM:M<2^256)(ho:M%2=1)(h2:2<=M)(hmi:mi*M%18446744073709551616=18446744073709551615)(hml:mi<18446744073709551616)(hsq:sq<M)
  (r0:Row w g0 (rgC M mi one sq) 157):
  Calls prog 181 #[.pointer (some ⟨g0,0,none⟩),.agg (Zc A)] w fun e w'=>e= .returned (.agg (Zc (mt A sq M)))/\Below w.heap.size w w':=by
 have hgi:=fun w'=>X9 M mi one sq g0 w' (by omega) hM
 have hti:=fun w'=>Xa A sq M mi one sq g0 w' hA (by omega) hM ho h2 hmi hml (.inr hsq)
 clear hA hM ho h2 hmi hml hsq;generalize mt A sq M=T at*
 go_enter func181,ntmps181
 iterate 2 go_step
 apply Zd [] [_,_] trivial List.nodup_nil
 ·intro p;refine YD 39 _ rfl _ rfl ?_;simp only[pv];refine m_n ?_;simp only[pv];refine Zi ?_;intro w2 hkw hrw hnew hdis;have n3:=hnew 0 rfl;have n4:=hnew 1 rfl;have zr3:Row w2 (p 0) (Zc A) 39:=hrw 1 (39,Zc A) rfl;have zr4:Row w2 (p 1) (Zc 0) 39:=hrw 3 (39,Zc 0) rfl;have d0x4:=l_l r0.lt n4;have d3x4:=hdis 0 1 (by omega) rfl rfl;replace r0:=hkw.ro r0;have sb:=k_b hkw;have b4:w.heap.size<=p 1:=n4;clear hkw hrw hnew hdis n3 n4;generalize p 0=g3 at*;generalize p 1=g4 at*;have r3:=zr3;clear zr3;have r4:=zr4;clear zr4;iterate 4 go_step
  apply Zd [] [_,_,_] trivial List.nodup_nil
  ·intro p;refine m_m ?_;simp only[pv];refine m_k 131 func131 #[.pointer (some ⟨g0,0,none⟩)] (fun w' hk=>hgi w' (hk.row r0 (by simp))) ?_;simp only[pv];refine Zg _ (Zp _ _ rfl true rfl) ?_;simp only[pv];refine Zi ?_;intro w3 hkw hrw hnew hdis;replace r0:=hkw.ro r0;replace r3:=hkw.ro r3;replace r4:=hkw.ro r4;replace sb:=kk sb hkw;clear hkw hrw hnew hdis;iterate 7 go_step
   apply Zo (by kernel_rfl) [(g4,39,Zc 0)] [_,_,_,_,_,_,_,_] ⟨r4,trivial⟩ (by simp<;>omega)
   ·intro p;refine m_m ?_;simp only[pv];refine m_l r3 ?_;refine m_m ?_;simp only[pv];refine Zg (.pointer (some ⟨g0,0,none⟩)) (Zl _ rfl g0 0 rfl) ?_;simp only[pv];refine Zg _ (Zb 157 _ 3 rfl g0 0 rfl _ underlying157 _ rfl 3 sizeOf39) ?_;simp only[pv];refine Xe 39 _ rfl _ (9) rfl r0 (by simp<;>omega) (Zc sq) (Bj M mi one sq) _ underlying39 rfl Ze ?_;simp only[pv];refine m_k 134 func134 #[.pointer (some ⟨g0,0,none⟩),.agg (Zc A),.agg (Zc sq)] (fun w' hk=>hti w' (hk.row r0 (by simp<;>omega))) ?_;simp only[pv];refine m_p 0 T ?_;simp only[Act.put];refine Zi ?_;intro w4 hkw hrw hnew hdis;have zr4:Row w4 (g4) (Zc T) 39:=hrw 0 (39,Zc T) rfl;replace sb:=kk sb hkw;clear hkw hrw hnew hdis r4;have r4:=zr4;clear zr4;go_wp2;exact ZX rfl _ rfl r4 4 _ underlying39 (by exact Ze) rfl ⟨rfl,sb⟩
   ·kernel_rfl
  ·rfl
 ·rfl
theorem N4 (A M mi one sq g0:Nat)(w:World)(hA:A<2^256)(hM:M<2^256)(ho:M%2=1)(h2:2<=M)(hmi:mi*M%18446744073709551616=18446744073709551615)(hml:mi<18446744073709551616)
  (r0:Row w g0 (rgC M mi one sq) 157):
  Calls prog 136 #[.pointer (some ⟨g0,0,none⟩),.agg (Zc A)] w fun e w'=>e= .returned (.agg (Zc (mt A 1 M)))/\Below w.heap.size w w':=by
 have hgi:=fun w'=>X9 M mi one sq g0 w' (by omega) hM
 have hti:=fun w'=>Xa A 1 M mi one sq g0 w' hA (by decide) hM ho h2 hmi hml (.inr (by omega))
 have hof: ∀w',Calls prog 42 #[.int .i64 1] w' (Rt (.agg (Zc 1)) w'):=fun w'=>X1 1 w' (by decide)
 clear hA hM ho h2 hmi hml;generalize mt A 1 M=T at*
 go_enter func136,ntmps136
 iterate 2 go_step
 apply Zd [] [_,_] trivial List.nodup_nil
 ·intro p;refine YD 39 _ rfl _ rfl ?_;simp only[pv];refine m_n ?_;simp only[pv];refine Zi ?_;intro w2 hkw hrw hnew hdis;have n3:=hnew 0 rfl;have n4:=hnew 1 rfl;have zr3:Row w2 (p 0) (Zc A) 39:=hrw 1 (39,Zc A) rfl;have zr4:Row w2 (p 1) (Zc 0) 39:=hrw 3 (39,Zc 0) rfl;have d0x4:=l_l r0.lt n4;have d3x4:=hdis 0 1 (by omega) rfl rfl;replace r0:=hkw.ro r0;have sb:=k_b hkw;have b4:w.heap.size<=p 1:=n4;clear hkw hrw hnew hdis n3 n4;generalize p 0=g3 at*;generalize p 1=g4 at*;have r3:=zr3;clear zr3;have r4:=zr4;clear zr4;iterate 4 go_step
  apply Zd [] [_,_,_] trivial List.nodup_nil
  ·intro p;refine m_m ?_;simp only[pv];refine m_k 131 func131 #[.pointer (some ⟨g0,0,none⟩)] (fun w' hk=>hgi w' (hk.row r0 (by simp))) ?_;simp only[pv];refine Zg _ (Zp _ _ rfl true rfl) ?_;simp only[pv];refine Zi ?_;intro w3 hkw hrw hnew hdis;replace r0:=hkw.ro r0;replace r3:=hkw.ro r3;replace r4:=hkw.ro r4;replace sb:=kk sb hkw;clear hkw hrw hnew hdis;iterate 7 go_step
   apply Zo (by kernel_rfl) [(g4,39,Zc 0)] [_,_,_,_,_] ⟨r4,trivial⟩ (by simp<;>omega)
   ·intro p;refine m_m ?_;simp only[pv];refine m_l r3 ?_;simp only[pv];refine m_c 42 func42 #[.int .i64 1] hof ?_;simp only[pv];refine m_k 134 func134 #[.pointer (some ⟨g0,0,none⟩),.agg (Zc A),.agg (Zc 1)] (fun w' hk=>hti w' (hk.row r0 (by simp<;>omega))) ?_;simp only[pv];refine m_p 0 T ?_;simp only[Act.put];refine Zi ?_;intro w4 hkw hrw hnew hdis;have zr4:Row w4 (g4) (Zc T) 39:=hrw 0 (39,Zc T) rfl;replace sb:=kk sb hkw;clear hkw hrw hnew hdis r4;have r4:=zr4;clear zr4;go_wp2;exact ZX rfl _ rfl r4 4 _ underlying39 (by exact Ze) rfl ⟨rfl,sb⟩
   ·kernel_rfl
  ·rfl
 ·rfl
theorem R6 (A B M mi one sq g0:Nat)(w:World)(hA:A<2^256)(hB:B<2^256)(hM:M<2^256)(ho:M%2=1)(h2:2<=M)(hmi:mi*M%18446744073709551616=18446744073709551615)(hml:mi<18446744073709551616)(hsq:sq<M)
  (r0:Row w g0 (rgC M mi one sq) 157):
  Calls prog 270 #[.pointer (some ⟨g0,0,none⟩),.agg (Zc A),.agg (Zc B)] w fun e w'=>e= .returned (.agg (Zc (mt A (mt B sq M) M)))/\Below w.heap.size w w':=by
 have hgi:=fun w'=>X9 M mi one sq g0 w' (by omega) hM
 have hfo:=fun w'=>Pe B M mi one sq g0 w' hB hM ho h2 hmi hml hsq
 have hlt:=Bi B sq M h2;have hti:=fun w'=>Xa A (mt B sq M) M mi one sq g0 w' hA (by omega) hM ho h2 hmi hml (.inr hlt)
 clear hA hB hM ho h2 hmi hml hsq hlt;generalize mt B sq M=X at*;generalize mt A X M=T at*
 go_enter func270,ntmps270
 iterate 2 go_step
 apply Zd [] [_,_,_] trivial List.nodup_nil
 ·intro p;refine YD 39 _ rfl _ rfl ?_;simp only[pv];refine YD 39 _ rfl _ rfl ?_;simp only[pv];refine m_n ?_;simp only[pv];refine Zi ?_;intro w2 hkw hrw hnew hdis;have n4:=hnew 0 rfl;have n5:=hnew 1 rfl;have n6:=hnew 2 rfl;have zr4:Row w2 (p 0) (Zc A) 39:=hrw 1 (39,Zc A) rfl;have zr5:Row w2 (p 1) (Zc B) 39:=hrw 3 (39,Zc B) rfl;have zr6:Row w2 (p 2) (Zc 0) 39:=hrw 5 (39,Zc 0) rfl;have d0x6:=l_l r0.lt n6;have d4x6:=hdis 0 2 (by omega) rfl rfl;have d5x6:=hdis 1 2 (by omega) rfl rfl;replace r0:=hkw.ro r0;have sb:=k_b hkw;have b6:w.heap.size<=p 2:=n6;clear hkw hrw hnew hdis n4 n5 n6;generalize p 0=g4 at*;generalize p 1=g5 at*;generalize p 2=g6 at*;have r4:=zr4;clear zr4;have r5:=zr5;clear zr5;have r6:=zr6;clear zr6;iterate 4 go_step
  apply Zd [] [_,_,_] trivial List.nodup_nil
  ·intro p;refine m_m ?_;simp only[pv];refine m_k 131 func131 #[.pointer (some ⟨g0,0,none⟩)] (fun w' hk=>hgi w' (hk.row r0 (by simp))) ?_;simp only[pv];refine Zg _ (Zp _ _ rfl true rfl) ?_;simp only[pv];refine Zi ?_;intro w3 hkw hrw hnew hdis;replace r0:=hkw.ro r0;replace r4:=hkw.ro r4;replace r5:=hkw.ro r5;replace r6:=hkw.ro r6;replace sb:=kk sb hkw;clear hkw hrw hnew hdis;iterate 7 go_step
   apply Zo (by kernel_rfl) [(g6,39,Zc 0)] [_,_,_,_,_,_,_] ⟨r6,trivial⟩ (by simp<;>omega)
   ·intro p;refine m_m ?_;simp only[pv];refine m_l r4 ?_;refine m_m ?_;simp only[pv];refine m_l r5 ?_;simp only[pv];refine m_k 181 func181 #[.pointer (some ⟨g0,0,none⟩),.agg (Zc B)] (fun w' hk=>hfo w' (hk.row r0 (by simp<;>omega))) ?_;simp only[pv];refine m_k 134 func134 #[.pointer (some ⟨g0,0,none⟩),.agg (Zc A),.agg (Zc X)] (fun w' hk=>hti w' (hk.row r0 (by simp<;>omega))) ?_;simp only[pv];refine m_p 0 T ?_;simp only[Act.put];refine Zi ?_;intro w4 hkw hrw hnew hdis;have zr6:Row w4 (g6) (Zc T) 39:=hrw 0 (39,Zc T) rfl;replace sb:=kk sb hkw;clear hkw hrw hnew hdis r6;have r6:=zr6;clear zr6;go_wp2;exact ZX rfl _ rfl r6 4 _ underlying39 (by exact Ze) rfl ⟨rfl,sb⟩
   ·kernel_rfl
  ·rfl
 ·rfl
theorem U6 {P:Program}{o:Oper}{ρ:Operand->Value}(t:TypeId)(x y:Operand)(u:TypeId)(ho:o.op= .binOp .rem t x y u)(n m:Nat)(hx:ρ x= .int .u64 n)(hy:ρ y= .int .u64 m)(hm:0<m)(w:World):
  (execOp ρ o).run P w= .ok (.value (.int .u64 ((n%m:Nat):Int))) w:=by
 have h0: ¬(m=0):=by omega
 unfold execOp;simp only[ho,hx,hy];simp[go_sem];rw[if_neg h0,Int.tmod_eq_emod_of_nonneg (by omega)]
theorem Ox {P:Program}{o:Oper}{ρ:Operand->Value}(t:TypeId)(x:Operand)(ho:o.op= .unOp .neg t x)(n m:Nat)(hx:ρ x= .int .u64 n)(hm:IntKind.u64.wrap (-(n:Int))=(m:Int))(w:World):
  (execOp ρ o).run P w= .ok (.value (.int .u64 m)) w:=by
 unfold execOp;simp only[ho,hx];simp[go_sem];exact hm
theorem N5 {o:Oper}{ρ:Operand->Value}{x0 x1 x2 x3:Operand}(M mi one sq:Nat)(ho:o.op= .build 157 #[(0,x0),(1,x1),(2,x2),(3,x3)])(h0:ρ x0= .agg (Zc M))(h1:ρ x1= .int .u64 mi)(h2:ρ x2= .agg (Zc one))(h3:ρ x3= .agg (Zc sq))(w:World):
  (execOp ρ o).run prog w= .ok (.value (.agg (rgC M mi one sq))) w:=by
 unfold execOp;simp only[ho,List.map_toArray,List.map_cons,List.map_nil,h0,h1,h2,h3,Sem.run_bind];rw[run_build w 157 _ (rgC M mi one sq) (by kernel_rfl)];rfl
def miL (M:Nat):Nat:=18446744073709551616-nwI (lm M 0) 5
def Ww (M:Nat):Nat:=2^256%M
def sqL (M:Nat):Nat:=Ww M*Ww M%M
theorem Hb (M:Nat):lm M 0%2=M%2:=by unfold lm;rw[Nat.mul_zero,Nat.pow_zero,Nat.div_one];omega
theorem YQ (M:Nat)(h:M%2=1):IntKind.u64.wrap (-(nwI (lm M 0) 5:Int))=(miL M:Int)/\miL M<18446744073709551616/\miL M*M%18446744073709551616=18446744073709551615:=by
 have hd:=N1 (lm M 0) (by rw[Hb];exact h) 5 (Nat.le_refl _);have hl:=E6 (lm M 0) 5 (Xz M 0);obtain⟨h1,h2,h3⟩:=Ji M _ hd hl;exact⟨h2,h1,h3⟩
theorem Jj (M mi one sq iv:Nat)(w:World)(h:M%2=1)(h2:2<=M)(hM:M<2^256)(hmi:IntKind.u64.wrap (-(iv:Int))=(mi:Int))
  (hin: ∀w',Calls prog 86 #[.int .u64 (lm M 0:Nat)] w' (Rt (.int .u64 iv) w'))
  (hre: ∀w',Calls prog 84 #[.agg (Zc 0),.agg (Zc 1),.agg (Zc M)] w' (Rt (.tuple #[.agg (Zc one),.int .i64 0]) w'))
  (hmu: ∀w',Calls prog 85 #[.agg (Zc one),.agg (Zc one),.agg (Zc M)] w' (Rt (.tuple #[.agg (Zc sq),.int .i64 0]) w')):
  Calls prog 40 #[.agg (Zc M)] w fun e w'=> ∃g,e= .returned (.tuple #[.pointer (some ⟨g,0,none⟩),.int .i64 0])/\w.heap.size<=g/\Row w' g (rgC M mi one sq) 157/\Below w.heap.size w w':=by
 have hof: ∀w',Calls prog 42 #[.int .i64 1] w' (Rt (.agg (Zc 1)) w'):=fun w'=>X1 1 w' (by decide)
 have HV:Hid (lm M 0%2=1):=by show _=_;rw[Hb];exact h
 have HW:Hid (decide (M%2^256=1%2^256)=false):=by
  show _=_
  rw[Nat.mod_eq_of_lt hM];exact decide_eq_false (by simp;omega)
 have HM:Hid (IntKind.u64.wrap (-(iv:Int))=(mi:Int)):=hmi;clear h h2 hM hmi
 go_enter func40,ntmps40
 iterate 2 go_step
 apply Zd [] [_,_,_] trivial List.nodup_nil
 ·intro p;refine YD 39 _ rfl _ rfl ?_;simp only[pv];refine Zg (.pointer none) (fun _=>rfl) ?_;simp only[pv];refine Zg (.int .i64 0) (fun _=>rfl) ?_;simp only[pv];refine Zi ?_;intro w2 hkw hrw hnew hdis;have n1:=hnew 0 rfl;have zr1:Row w2 (p 0) (Zc M) 39:=hrw 1 (39,Zc M) rfl;have sb:=k_b hkw;clear hkw hrw hnew hdis n1;generalize p 0=g1 at*;have r1:=zr1;clear zr1;iterate 4 go_step
  refine ZF (by kernel_rfl) (by kernel_rfl) ?_;refine q_v _ (Ya 39 _ _ rfl g1 rfl 0 4 rfl (by omega) _ underlying39 sizeOf37) ?_;simp only[pv];refine ZH (by rfl) 37 _ rfl _ (0) rfl r1 (.int .u64 (lm M 0:Nat)) (Yi M 0 (by omega)) isAgg37 ?_;simp only[pv];refine q_v _ (U6 _ _ _ _ rfl (lm M 0) 2 rfl rfl (by omega)) ?_;simp only[pv];refine q_v _ (Zq .u64 _ _ _ _ rfl _ 0 rfl rfl false (by rw[HV.out];rfl)) ?_;refine q_m ?_;simp only[pv];refine Xc (by rfl) 39 _ rfl _ rfl r1 4 _ underlying39 Ze ?_;simp only[pv];refine q_c 42 func42 #[.int .i64 1] hof ?_;simp only[pv];refine q_v (.bool false) (fun w'=>(ZZ _ _ _ rfl M 1 rfl rfl w').trans (by rw[HW.out])) ?_;refine q_p false (.bool false) ?_;simp only[pv];refine Z2 ?_;intro w3 hqb;replace r1:=r1.belowAll hqb;replace sb:=b_o sb hqb;clear hqb;iterate 7 go_step
  apply Zo (by kernel_rfl) [] [_,_,_,_,_,_,_,_,_,_] trivial List.nodup_nil
  ·intro p;refine Zg _ (ZS 39 rfl _ ZO) ?_;simp only[pv];refine m_c 42 func42 #[.int .i64 1] hof ?_;simp only[pv];refine m_l r1 ?_;simp only[pv];refine m_c 84 func84 #[.agg (Zc 0),.agg (Zc 1),.agg (Zc M)] hre ?_;refine m_m ?_;refine m_e ?_;refine m_e ?_;simp only[pv];refine m_n ?_;simp only[pv];refine m_p 15 one ?_;simp only[Act.put];refine m_a ?_;simp only[pv];refine Zi ?_;intro w4 hkw hrw hnew hdis;have n4:=hnew 7 rfl;have zr4:Row w4 (p 7) (Zc one) 39:=hrw 15 (39,Zc one) rfl;replace r1:=hkw.ro r1;replace sb:=kk sb hkw;clear hkw hrw hnew hdis n4;generalize p 7=g4 at*;have r4:=zr4;clear zr4;iterate 3 go_step
   apply Zd [] [_,_,_,_,_,_,_,_,_,_] trivial List.nodup_nil
   ·intro p;refine m_l r4 ?_;simp only[pv];refine m_l r4 ?_;simp only[pv];refine m_l r1 ?_;simp only[pv];refine m_c 85 func85 #[.agg (Zc one),.agg (Zc one),.agg (Zc M)] hmu ?_;refine m_m ?_;refine m_e ?_;refine m_e ?_;simp only[pv];refine m_n ?_;simp only[pv];refine m_p 15 sq ?_;simp only[Act.put];refine m_a ?_;simp only[pv];refine Zi ?_;intro w5 hkw hrw hnew hdis;have n6:=hnew 7 rfl;have zr6:Row w5 (p 7) (Zc sq) 39:=hrw 15 (39,Zc sq) rfl;replace r1:=hkw.ro r1;replace r4:=hkw.ro r4;replace sb:=kk sb hkw;clear hkw hrw hnew hdis n6;generalize p 7=g6 at*;have r6:=zr6;clear zr6;iterate 3 go_step
    apply Zo (by kernel_rfl) [] [_,_,_,_,_,_,_,_,_,_,_] trivial List.nodup_nil
    ·intro p;refine m_l r1 ?_;simp only[pv];refine Zg _ (Ya 39 _ _ rfl (g1) rfl (0) 4 rfl (by omega) _ underlying39 sizeOf37) ?_;simp only[pv];refine ZB 37 _ rfl _ (0) rfl r1 (by simp<;>omega) (.int .u64 (lm M 0:Nat)) (Yi M 0 (by omega)) isAgg37 ?_;simp only[pv];refine m_c 86 func86 #[.int .u64 (lm M 0:Nat)] hin ?_;simp only[pv];refine Zg _ (Ox _ _ rfl iv mi rfl HM.out) ?_;simp only[pv];refine m_l r4 ?_;simp only[pv];refine m_l r6 ?_;simp only[pv];refine Zg _ (N5 M mi one sq rfl rfl rfl rfl rfl) ?_;simp only[pv];refine YD 157 _ rfl _ rfl ?_;simp only[pv];refine Tu 8 (fun g=>.pointer (some ⟨g,0,none⟩)) (.inl rfl) (by omega) rfl ?_;simp only[pv];refine Zg (.int .i64 0) (fun _=>rfl) ?_;simp only[pv];refine Zi ?_;intro w6 hkw hrw hnew hdis;have n39:=hnew 8 rfl;have zr39:Row w6 (p 8) (rgC M mi one sq) 157:=hrw 17 (157,rgC M mi one sq) rfl;have b39:=Nat.le_trans sb.size n39;replace sb:=kk sb hkw;clear hkw hrw hnew hdis n39;generalize p 8=g39 at*;have r39:=zr39;clear zr39;go_wp2;go_ret2;exact⟨g39,rfl,b39,r39,sb⟩
    ·kernel_rfl
   ·rfl
  ·kernel_rfl
 ·rfl
theorem R7 (M:Nat)(w:World)(h:M%2=1)(h2:2<=M)(hM:M<2^256):
  Calls prog 40 #[.agg (Zc M)] w fun e w'=> ∃g,e= .returned (.tuple #[.pointer (some ⟨g,0,none⟩),.int .i64 0])/\w.heap.size<=g/\Row w' g (rgC M (miL M) (Ww M) (sqL M)) 157/\Below w.heap.size w w':=by
 refine Jj M _ _ _ (nwI (lm M 0) 5) w h h2 hM (YQ M h).1 (R5 (lm M 0)) (fun w'=>?_) (fun w'=>?_)
 ·have:=Pb 0 1 M w' (by decide) (by decide) hM;rw[show So (1*2^256+0) M=Ww M by unfold So Ww;rw[if_neg (by omega)],show RJ M=0 by unfold RJ;rw[if_neg (by omega)]]at this;exact this
 ·have hl:Ww M<2^256:=Nat.lt_trans (Nat.mod_lt _ (by omega)) hM;have:=R3 (Ww M) (Ww M) M w' hl hl hM;rw[show So (Ww M*Ww M) M=sqL M by unfold So sqL;rw[if_neg (by omega)],show RJ M=0 by unfold RJ;rw[if_neg (by omega)]]at this;exact this
end Go.Proofs.YtcdahmommonnfaaGreatDoor
