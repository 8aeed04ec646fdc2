import Derived.Test.YtnagnkhbamhfmaaGreatDoorGT
namespace Go.Proofs.YtnagnkhbamhfmaaGreatDoor
set_option linter.all false
open Go.Proofs.Tryz
open Go.RowKit
theorem ZL {P:Program}{o:Oper}{ρ:Operand->Value}(t:TypeId)(x y:Operand)(u:TypeId)(ho:o.op= .binOp .geq t x y u)(n m:Int)(hx:ρ x= .int .i64 n)(hy:ρ y= .int .i64 m)(b:Bool)(hb:decide (m<=n)=b)(w:World):
  (execOp ρ o).run P w= .ok (.value (.bool b)) w:=by
 subst hb;unfold execOp;simp only[ho,hx,hy];simp[go_sem]
theorem VT {P:Program}{o:Oper}{ρ:Operand->Value}(t:TypeId)(x y:Operand)(u:TypeId)(ho:o.op= .binOp .sub t x y u)(n m r:Int)(hx:ρ x= .int .i64 n)(hy:ρ y= .int .i64 m)(hr:IntKind.i64.wrap (n-m)=r)(w:World):
  (execOp ρ o).run P w= .ok (.value (.int .i64 r)) w:=by
 subst hr;unfold execOp;simp only[ho,hx,hy];simp[go_sem]
theorem Vu (z:Int)(h1: -9223372036854775808<=z)(h2:z<9223372036854775808):IntKind.i64.wrap z=z:=by
 rw[O_];omega
theorem NR (E k:Nat):E/2^k=E/2^(k+1)+E/2^(k+1)+E/2^k%2:=by
 rw[cK0,<-z_];omega
theorem yk (a x m:Nat):a^x%m*(a^x%m)%m=a^(x+x)%m:=by
 rw[<-aN0,<-aG0]
theorem BB (a E k m:Nat)(h: ¬E/2^k%2=1):a^(E/2^(k+1))%m*(a^(E/2^(k+1))%m)%m=a^(E/2^k)%m:=by
 rw[yk,show E/2^k=E/2^(k+1)+E/2^(k+1) by have:=NR E k;omega]
theorem BC (a E k m:Nat)(h:E/2^k%2=1):a^(E/2^(k+1))%m*(a^(E/2^(k+1))%m)%m*a%m=a^(E/2^k)%m:=by
 rw[yk,eO0,<-cK0,show E/2^k=E/2^(k+1)+E/2^(k+1)+1 by have:=NR E k;omega]
theorem Fr (a E m:Nat):1%m=a^(E/2^bitLen E)%m:=by
 rw[K_ (W9 E _ (e_ _)),aB0]
theorem Fs (E k:Nat)(hk:k<256)(h:E/2^k%2=1):zy E (k:Int)=1:=by
 unfold zy;rw[i_ ⟨by omega,by omega,by rw[q_,bB0,h];rfl⟩]
theorem Ft (E k:Nat)(h: ¬E/2^k%2=1):zy E (k:Int)=0:=by
 unfold zy;rw[j_];rintro⟨_,_,h3⟩;rw[q_,bB0,Y_]at h3;exact h h3
set_option maxRecDepth 100000 in
set_option maxHeartbeats 1000000 in
theorem UK (a b m:Nat)(w:World)(hm0:0<m)(hm:m<4611686018427387904):
  Calls Tryz.prog 135 #[.int .i64 a,.int .i64 b,.int .i64 m] w fun e w'=>e= .returned (.int .i64 (a*b%m:Nat))/\Below w.heap.size w w':=by
 have h1:=n_ a hm0;have h2:=n_ b hm0;have e3:a%m*(b%m)%m=a*b%m:=(aN0 a b m).symm;have hr:=n_ (a*b) hm0;have h4:a%m*(b%m)<m*m:=Nat.mul_lt_mul'' h1 h2;have h5:m*m<=m*4611686018427387904:=aH0 m (iD0 hm);have hmul:=fun w'=>Ty (a%m) (b%m) (by omega) (by omega) w'
 have hq:a%m*(b%m)/18446744073709551616<m:=by
  rw[bG0 (by decide)];omega
 have hdiv:=fun w'=>Li (a%m*(b%m)/18446744073709551616) (a%m*(b%m)%18446744073709551616) m w' hq (by omega) (n_ _ (by decide))
 rw[show a%m*(b%m)/18446744073709551616*18446744073709551616+a%m*(b%m)%18446744073709551616=a%m*(b%m)from Nat.div_add_mod' _ _,e3]at hdiv;clear h4 h5 hq e3;generalize a%m*(b%m)/18446744073709551616=hi at*;generalize a%m*(b%m)%18446744073709551616=lo at*;generalize a*b%m=z at*
 go_enter func135,ntmps135
 iterate 2 go_step
 apply Za [] [_] trivial a_
 ·intro p;refine m_V (.int .i64 0) (fun _=>rfl) ?_;refine Zd ?_;intro w2 hkw hrw hnew hdis;have sb:=k_b hkw;clear hkw hrw hnew hdis;iterate 3 go_step
  apply Zg (by kernel_rfl) [] [_,_,_,_,_,_,_,_,_,_,_,_,_,_] trivial a_
  ·intro p;refine m_W ?_;refine m_V _ (YI _ _ _ _ rfl a m rfl rfl hm0) ?_;refine m_V _ (Va _ rfl (a%m) rfl (by omega)) ?_;refine m_V _ (YI _ _ _ _ rfl b m rfl rfl hm0) ?_;refine m_V _ (Va _ rfl (b%m) rfl (by omega)) ?_;refine m_C 178 func178 #[.int .u64 (a%m:Nat),.int .u64 (b%m:Nat)] hmul ?_;refine Zd ?_;intro w3 hkw hrw hnew hdis;replace sb:=kk sb hkw;clear hkw hrw hnew hdis
   go_wp2_with (first
    |refine Zv rfl (.int .u64 (m:Nat)) (Va _ rfl m rfl (by omega) _) ?_)
   refine(hdiv _).mono ?_;rintro _ wb ⟨⟨q,rfl⟩,bb⟩;replace sb:=b_o sb bb;clear bb hdiv hmul
   dsimp only
   iterate 20 go_step
   apply Za [] [_,_,_] trivial a_
   ·intro p;refine m_W ?_;refine m_V _ (UV _ rfl z rfl (by omega)) ?_;refine Zd ?_;intro w4 hkw hrw hnew hdis;replace sb:=kk sb hkw;clear hkw hrw hnew hdis;go_wp2;go_ret;exact⟨rfl,sb⟩
   ·rfl
  ·kernel_rfl
 ·rfl
set_option maxRecDepth 100000 in
set_option maxHeartbeats 8000000 in
theorem SY (a E m:Nat)(w:World)(hE:E<2^256)(hm0:0<m)(hm:m<4611686018427387904):
  Calls Tryz.prog 134 #[.int .i64 a,.agg (Zb E),.int .i64 m] w fun e w'=>e= .returned (.int .i64 (a^E%m:Nat))/\Below w.heap.size w w':=by
 have hle:=fun w'=>Rn E w' hE
 have hL:=Ws E 256 hE;have H0:Hid (1%m=a^(E/2^bitLen E)%m):=Fr a E m;have HT:Hid (∀x y w',Calls Tryz.prog 135 #[.int .i64 (x:Nat),.int .i64 (y:Nat),.int .i64 m] w' (Rt (.int .i64 (x*y%m:Nat)) w')):=fun x y w'=>UK x y m w' hm0 hm
 clear hE;generalize hbl:bitLen E=BL at*
 go_enter func134,ntmps134
 iterate 2 go_step
 apply Za [] [_,_] trivial a_
 ·intro p;refine Yc 57 _ rfl _ rfl (m_W ?_);refine m_V (.int .i64 0) (fun _=>rfl) ?_;refine Zd ?_;intro w2 hkw hrw hnew hdis;have n4:=hnew 0 rfl;have zr4:Row w2 (p 0) (Zb E) 57:=hrw 1 (57,Zb E) rfl;have sb:=k_b hkw;have b4:w.heap.size<=p 0:=n4;clear hkw hrw hnew hdis n4;generalize p 0=g4 at*;have r4:=zr4;clear zr4;iterate 3 go_step
  apply Za [] [_,_,_] trivial a_
  ·intro p;refine m_W ?_;refine m_V _ (YI _ _ _ _ rfl 1 m rfl rfl hm0) ?_;refine Zd ?_;intro w3 hkw hrw hnew hdis;replace r4:=hkw.ro r4;replace sb:=kk sb hkw;clear hkw hrw hnew hdis;iterate 4 go_step
   apply Za [] [_,_,_,_] trivial a_
   ·intro p;refine m_L r4 ?_;refine m_C 103 func103 #[.agg (Zb E)] hle ?_;refine m_V (.int .i64 ((BL:Int)-1)) (VT _ _ _ _ rfl BL 1 _ rfl rfl (Vu _ (by omega) (by omega))) ?_;refine Zd ?_;intro w4 hkw hrw hnew hdis;replace r4:=hkw.ro r4;replace sb:=kk sb hkw;clear hkw hrw hnew hdis;clear hle
    go_wp2_with fail
    go_loopg [7,8] BL (fun g s7 s8 wr=>s7= .int .i64 (a^(E/2^g)%m:Nat)/\s8= .int .i64 ((g:Int)-1)/\g<=256/\Row wr g4 (Zb E) 57/\Below w.heap.size w wr)
    case atStart=>exact⟨by rw[<-H0.out],rfl,hL,r4,sb⟩
    case round=>
     clear r4 sb;obtain⟨rfl,rfl,hg,r4,sb⟩:=hrel
     cases gk with
     |zero=>
      rw[show a^(E/2^0)%m=a^E%m by rw[aB0,bY0]];iterate 2 go_step
      apply Za [] [_,_] trivial a_
      ·intro p;refine m_W ?_;refine m_V _ (ZL _ _ _ _ rfl ((0:Nat)-1:Int) 0 rfl rfl false rfl) ?_;refine Zd ?_;intro w5 hkw hrw hnew hdis;replace sb:=kk sb hkw;clear hkw hrw hnew hdis;go_wp2;go_ret;exact⟨rfl,sb⟩
      ·rfl
     |succ g=>
      rw[show((g+1:Nat):Int)-1=(g:Int) by omega];have hsq:=HT.out (a^(E/2^(g+1))%m) (a^(E/2^(g+1))%m);have hbi:=fun w'=>Gq E (g:Int) w'
      by_cases hb:E/2^g%2=1
      ·rw[Fs E g (by omega) hb]at hbi;have hta:=HT.out (a^(E/2^(g+1))%m*(a^(E/2^(g+1))%m)%m) a;have HV:Hid (a^(E/2^(g+1))%m*(a^(E/2^(g+1))%m)%m*a%m=a^(E/2^g)%m):=BC a E g m hb;clear hb;generalize a^(E/2^(g+1))%m=X at*;generalize X*X%m=Y at*;iterate 2 go_step
       apply Za [] [_,_] trivial a_
       ·intro p;refine m_W ?_;refine m_V _ (ZL _ _ _ _ rfl g 0 rfl rfl true (c_ (by omega))) ?_;refine Zd ?_;intro w9 hkw hrw hnew hdis;replace r4:=hkw.ro r4;replace sb:=kk sb hkw;clear hkw hrw hnew hdis;iterate 9 go_step
        apply Za [] [_,_,_,_,_] trivial a_
        ·intro p;refine m_W ?_;refine m_C 135 func135 #[.int .i64 X,.int .i64 X,.int .i64 m] hsq ?_;refine Zd ?_;intro w5 hkw hrw hnew hdis;replace r4:=hkw.ro r4;replace sb:=kk sb hkw;clear hkw hrw hnew hdis;iterate 3 go_step
         apply Za [] [_,_,_,_] trivial a_
         ·intro p;refine m_L r4 ?_;refine m_C 177 func177 #[.agg (Zb E),.int .i64 (g:Nat)] hbi ?_;refine m_V _ (Zz .i64 _ _ _ _ rfl 1 1 rfl rfl true rfl) ?_;refine Zd ?_;intro w6 hkw hrw hnew hdis;replace r4:=hkw.ro r4;replace sb:=kk sb hkw;clear hkw hrw hnew hdis;iterate 3 go_step
          apply Za [] [_,_,_,_,_] trivial a_
          ·intro p;refine m_W ?_;refine m_C 135 func135 #[.int .i64 Y,.int .i64 a,.int .i64 m] hta ?_;refine Zd ?_;intro w7 hkw hrw hnew hdis;replace r4:=hkw.ro r4;replace sb:=kk sb hkw;clear hkw hrw hnew hdis;iterate 2 go_step
           apply Za [] [_,_,_] trivial a_
           ·intro p;refine m_W ?_;refine m_V (.int .i64 ((g:Int)-1)) (VT _ _ _ _ rfl g 1 _ rfl rfl (Vu _ (by omega) (by omega))) ?_;refine Zd ?_;intro w8 hkw hrw hnew hdis;replace r4:=hkw.ro r4;replace sb:=kk sb hkw;clear hkw hrw hnew hdis;go_wp2
            go_roundg g
            ·exact⟨by rw[<-HV.out],rfl,by omega,r4,sb⟩
            omega
           ·rfl
          ·rfl
         ·rfl
        ·rfl
       ·rfl
      ·rw[Ft E g hb]at hbi;have HV:Hid (a^(E/2^(g+1))%m*(a^(E/2^(g+1))%m)%m=a^(E/2^g)%m):=BB a E g m hb;clear hb;generalize a^(E/2^(g+1))%m=X at*;generalize X*X%m=Y at*;iterate 2 go_step
       apply Za [] [_,_] trivial a_
       ·intro p;refine m_W ?_;refine m_V _ (ZL _ _ _ _ rfl g 0 rfl rfl true (c_ (by omega))) ?_;refine Zd ?_;intro w9 hkw hrw hnew hdis;replace r4:=hkw.ro r4;replace sb:=kk sb hkw;clear hkw hrw hnew hdis;iterate 9 go_step
        apply Za [] [_,_,_,_,_] trivial a_
        ·intro p;refine m_W ?_;refine m_C 135 func135 #[.int .i64 X,.int .i64 X,.int .i64 m] hsq ?_;refine Zd ?_;intro w5 hkw hrw hnew hdis;replace r4:=hkw.ro r4;replace sb:=kk sb hkw;clear hkw hrw hnew hdis;iterate 3 go_step
         apply Za [] [_,_,_,_] trivial a_
         ·intro p;refine m_L r4 ?_;refine m_C 177 func177 #[.agg (Zb E),.int .i64 (g:Nat)] hbi ?_;refine m_V _ (Zz .i64 _ _ _ _ rfl 0 1 rfl rfl false rfl) ?_;refine Zd ?_;intro w6 hkw hrw hnew hdis;replace r4:=hkw.ro r4;replace sb:=kk sb hkw;clear hkw hrw hnew hdis;iterate 6 go_step
          apply Za [] [_,_,_] trivial a_
          ·intro p;refine m_W ?_;refine m_V (.int .i64 ((g:Int)-1)) (VT _ _ _ _ rfl g 1 _ rfl rfl (Vu _ (by omega) (by omega))) ?_;refine Zd ?_;intro w8 hkw hrw hnew hdis;replace r4:=hkw.ro r4;replace sb:=kk sb hkw;clear hkw hrw hnew hdis;go_wp2
           go_roundg g
           ·exact⟨by rw[<-HV.out],rfl,by omega,r4,sb⟩
           omega
          ·rfl
         ·rfl
        ·rfl
       ·rfl
   ·rfl
  ·rfl
 ·rfl
theorem Pa (M:Nat)(h:M<9223372036854775808):QE M=(M:Int)/\Qp M=true:=by
 unfold QE Qp;rw[i_ h,c_ h];exact⟨rfl,rfl⟩