import Derived.Test.YtnagnkhbamhfmaaGreatDoorGT
namespace Go.Proofs.YtnagnkhbamhfmaaGreatDoor
set_option linter.all false
open Go.Proofs.Tryz
open Go.RowKit
theorem ZY {P:Program}{o:Oper}{ρ:Operand->Value}(t:TypeId)(x y:Operand)(u:TypeId)(ho:o.op= .binOp .geq t x y u)(n m:Int)(hx:ρ x= .int .i64 n)(hy:ρ y= .int .i64 m)(b:Bool)(hb:decide (m<=n)=b)(w:World):
  (execOp ρ o).run P w= .ok (.value (.bool b)) w:=by
 subst hb;unfold execOp;simp only[ho,hx,hy];simp[go_sem]
theorem VS {P:Program}{o:Oper}{ρ:Operand->Value}(t:TypeId)(x y:Operand)(u:TypeId)(ho:o.op= .binOp .sub t x y u)(n m r:Int)(hx:ρ x= .int .i64 n)(hy:ρ y= .int .i64 m)(hr:IntKind.i64.wrap (n-m)=r)(w:World):
  (execOp ρ o).run P w= .ok (.value (.int .i64 r)) w:=by
 subst hr;unfold execOp;simp only[ho,hx,hy];simp[go_sem]
theorem UH (z:Int)(h1: -9223372036854775808<=z)(h2:z<9223372036854775808):IntKind.i64.wrap z=z:=by
 rw[J_];omega
theorem Nr (E k:Nat):E/2^k=E/2^(k+1)+E/2^(k+1)+E/2^k%2:=by
 rw[cN0,<-v_];omega
theorem zh (a x m:Nat):a^x%m*(a^x%m)%m=a^(x+x)%m:=by
 rw[<-aH0,<-Z_]
theorem CU (a E k m:Nat)(h: ¬E/2^k%2=1):a^(E/2^(k+1))%m*(a^(E/2^(k+1))%m)%m=a^(E/2^k)%m:=by
 rw[zh,show E/2^k=E/2^(k+1)+E/2^(k+1) by have:=Nr E k;omega]
theorem CV (a E k m:Nat)(h:E/2^k%2=1):a^(E/2^(k+1))%m*(a^(E/2^(k+1))%m)%m*a%m=a^(E/2^k)%m:=by
 rw[zh,fD0,<-cN0,show E/2^k=E/2^(k+1)+E/2^(k+1)+1 by have:=Nr E k;omega]
theorem Gy (a E m:Nat):1%m=a^(E/2^bitLen E)%m:=by
 rw[F_ (Vb E _ (c_ _)),W_]
theorem Gz (E k:Nat)(hk:k<256)(h:E/2^k%2=1):AJ E (k:Int)=1:=by
 unfold AJ;rw[j_ ⟨by omega,by omega,by rw[q_,aT0,h];rfl⟩]
theorem GA (E k:Nat)(h: ¬E/2^k%2=1):AJ E (k:Int)=0:=by
 unfold AJ;rw[i_];rintro⟨_,_,h3⟩;rw[q_,aT0,X_]at h3;exact h h3
set_option maxRecDepth 100000 in
set_option maxHeartbeats 1000000 in
theorem SS (a b m:Nat)(w:World)(hm0:0<m)(hm:m<4611686018427387904):
  Calls prog 135 #[.int .i64 a,.int .i64 b,.int .i64 m] w fun e w'=>e= .returned (.int .i64 (a*b%m:Nat))/\Below w.heap.size w w':=by
 have h1:=m_ a hm0;have h2:=m_ b hm0;have e3:a%m*(b%m)%m=a*b%m:=(aH0 a b m).symm;have hr:=m_ (a*b) hm0;have h4:a%m*(b%m)<m*m:=Nat.mul_lt_mul'' h1 h2;have h5:m*m<=m*4611686018427387904:=R_ m (hP0 hm);have hmul:=fun w'=>Tw (a%m) (b%m) (by omega) (by omega) w'
 have hq:a%m*(b%m)/18446744073709551616<m:=by
  rw[aX0 (by decide)];omega
 have hdiv:=fun w'=>ML (a%m*(b%m)/18446744073709551616) (a%m*(b%m)%18446744073709551616) m w' hq (by omega) (m_ _ (by decide))
 rw[show a%m*(b%m)/18446744073709551616*18446744073709551616+a%m*(b%m)%18446744073709551616=a%m*(b%m)from Nat.div_add_mod' _ _,e3]at hdiv;clear h4 h5 hq e3;generalize a%m*(b%m)/18446744073709551616=hi at*;generalize a%m*(b%m)%18446744073709551616=lo at*;generalize a*b%m=z at*
 go_enter func135,ntmps135
 iterate 2 go_step
 apply Za [] [_] trivial a_
 ·intro p;refine Ze (.int .i64 0) (fun _=>rfl) ?_;simp only[pv];refine Zf ?_;intro w2 hkw hrw hnew hdis;have sb:=k_b hkw;clear hkw hrw hnew hdis;iterate 3 go_step
  apply Zi (by kernel_rfl) [] [_,_,_,_,_,_,_,_,_,_,_,_,_,_] trivial a_
  ·intro p;refine m_m ?_;refine m_m ?_;simp only[pv];refine Ze _ (YO _ _ _ _ rfl a m rfl rfl hm0) ?_;simp only[pv];refine Ze _ (Vc _ rfl (a%m) rfl (by omega)) ?_;refine m_m ?_;refine m_m ?_;simp only[pv];refine Ze _ (YO _ _ _ _ rfl b m rfl rfl hm0) ?_;simp only[pv];refine Ze _ (Vc _ rfl (b%m) rfl (by omega)) ?_;simp only[pv];refine m_c 178 func178 #[.int .u64 (a%m:Nat),.int .u64 (b%m:Nat)] hmul ?_;refine m_m ?_;refine m_e ?_;refine m_e ?_;refine m_a ?_;simp only[pv];refine m_a ?_;simp only[pv];refine Zf ?_;intro w3 hkw hrw hnew hdis;replace sb:=kk sb hkw;clear hkw hrw hnew hdis
   go_wp2_with (first
    |refine Zy rfl (.int .u64 (m:Nat)) (Vc _ rfl m rfl (by omega) _) ?_)
   refine(hdiv _).mono ?_;rintro _ wb ⟨⟨q,rfl⟩,bb⟩;replace sb:=b_o sb bb;clear bb hdiv hmul
   dsimp only
   iterate 20 go_step
   apply Za [] [_,_,_] trivial a_
   ·intro p;refine m_m ?_;simp only[pv];refine Ze _ (US _ rfl z rfl (by omega)) ?_;refine m_a ?_;simp only[pv];refine Zf ?_;intro w4 hkw hrw hnew hdis;replace sb:=kk sb hkw;clear hkw hrw hnew hdis;go_wp2;go_ret;exact⟨rfl,sb⟩
   ·rfl
  ·kernel_rfl
 ·rfl
set_option maxRecDepth 100000 in
set_option maxHeartbeats 8000000 in
theorem MP (a E m:Nat)(w:World)(hE:E<2^256)(hm0:0<m)(hm:m<4611686018427387904):
  Calls prog 134 #[.int .i64 a,.agg (Zc E),.int .i64 m] w fun e w'=>e= .returned (.int .i64 (a^E%m:Nat))/\Below w.heap.size w w':=by
 have hle:=fun w'=>Rh E w' hE
 have hL:=Ww E 256 hE;have H0:Hid (1%m=a^(E/2^bitLen E)%m):=Gy a E m;have HT:Hid (∀x y w',Calls prog 135 #[.int .i64 (x:Nat),.int .i64 (y:Nat),.int .i64 m] w' (Rt (.int .i64 (x*y%m:Nat)) w')):=fun x y w'=>SS x y m w' hm0 hm
 clear hE;generalize hbl:bitLen E=BL at*
 go_enter func134,ntmps134
 iterate 2 go_step
 apply Za [] [_,_] trivial a_
 ·intro p;refine Ya 57 _ rfl _ rfl ?_;simp only[pv];refine Ze (.int .i64 0) (fun _=>rfl) ?_;simp only[pv];refine Zf ?_;intro w2 hkw hrw hnew hdis;have n4:=hnew 0 rfl;have zr4:Row w2 (p 0) (Zc E) 57:=hrw 1 (57,Zc E) rfl;have sb:=k_b hkw;have b4:w.heap.size<=p 0:=n4;clear hkw hrw hnew hdis n4;generalize p 0=g4 at*;have r4:=zr4;clear zr4;iterate 3 go_step
  apply Za [] [_,_,_] trivial a_
  ·intro p;refine m_m ?_;simp only[pv];refine Ze _ (YO _ _ _ _ rfl 1 m rfl rfl hm0) ?_;refine m_a ?_;simp only[pv];refine Zf ?_;intro w3 hkw hrw hnew hdis;replace r4:=hkw.ro r4;replace sb:=kk sb hkw;clear hkw hrw hnew hdis;iterate 4 go_step
   apply Za [] [_,_,_,_] trivial a_
   ·intro p;refine m_l r4 ?_;simp only[pv];refine m_c 103 func103 #[.agg (Zc E)] hle ?_;simp only[pv];refine Ze (.int .i64 ((BL:Int)-1)) (VS _ _ _ _ rfl BL 1 _ rfl rfl (UH _ (by omega) (by omega))) ?_;refine m_a ?_;simp only[pv];refine Zf ?_;intro w4 hkw hrw hnew hdis;replace r4:=hkw.ro r4;replace sb:=kk sb hkw;clear hkw hrw hnew hdis;clear hle
    go_wp2_with fail
    go_loopg [7,8] BL (fun g s7 s8 wr=>s7= .int .i64 (a^(E/2^g)%m:Nat)/\s8= .int .i64 ((g:Int)-1)/\g<=256/\Row wr g4 (Zc E) 57/\Below w.heap.size w wr)
    case atStart=>exact⟨by rw[<-H0.out],rfl,hL,r4,sb⟩
    case round=>
     clear r4 sb;obtain⟨rfl,rfl,hg,r4,sb⟩:=hrel
     cases gk with
     |zero=>
      rw[show a^(E/2^0)%m=a^E%m by rw[W_,bR0]];iterate 2 go_step
      apply Za [] [_,_] trivial a_
      ·intro p;refine m_m ?_;simp only[pv];refine Ze _ (ZY _ _ _ _ rfl ((0:Nat)-1:Int) 0 rfl rfl false rfl) ?_;simp only[pv];refine Zf ?_;intro w5 hkw hrw hnew hdis;replace sb:=kk sb hkw;clear hkw hrw hnew hdis;go_wp2;go_ret;exact⟨rfl,sb⟩
      ·rfl
     |succ g=>
      rw[show((g+1:Nat):Int)-1=(g:Int) by omega];have hsq:=HT.out (a^(E/2^(g+1))%m) (a^(E/2^(g+1))%m);have hbi:=fun w'=>I6 E (g:Int) w'
      by_cases hb:E/2^g%2=1
      ·rw[Gz E g (by omega) hb]at hbi;have hta:=HT.out (a^(E/2^(g+1))%m*(a^(E/2^(g+1))%m)%m) a;have HV:Hid (a^(E/2^(g+1))%m*(a^(E/2^(g+1))%m)%m*a%m=a^(E/2^g)%m):=CV a E g m hb;clear hb;generalize a^(E/2^(g+1))%m=X at*;generalize X*X%m=Y at*;iterate 2 go_step
       apply Za [] [_,_] trivial a_
       ·intro p;refine m_m ?_;simp only[pv];refine Ze _ (ZY _ _ _ _ rfl g 0 rfl rfl true (d_ (by omega))) ?_;simp only[pv];refine Zf ?_;intro w9 hkw hrw hnew hdis;replace r4:=hkw.ro r4;replace sb:=kk sb hkw;clear hkw hrw hnew hdis;iterate 9 go_step
        apply Za [] [_,_,_,_,_] trivial a_
        ·intro p;refine m_m ?_;refine m_m ?_;refine m_m ?_;simp only[pv];refine m_c 135 func135 #[.int .i64 X,.int .i64 X,.int .i64 m] hsq ?_;refine m_a ?_;simp only[pv];refine Zf ?_;intro w5 hkw hrw hnew hdis;replace r4:=hkw.ro r4;replace sb:=kk sb hkw;clear hkw hrw hnew hdis;iterate 3 go_step
         apply Za [] [_,_,_,_] trivial a_
         ·intro p;refine m_l r4 ?_;refine m_m ?_;simp only[pv];refine m_c 177 func177 #[.agg (Zc E),.int .i64 (g:Nat)] hbi ?_;simp only[pv];refine Ze _ (ZK .i64 _ _ _ _ rfl 1 1 rfl rfl true rfl) ?_;simp only[pv];refine Zf ?_;intro w6 hkw hrw hnew hdis;replace r4:=hkw.ro r4;replace sb:=kk sb hkw;clear hkw hrw hnew hdis;iterate 3 go_step
          apply Za [] [_,_,_,_,_] trivial a_
          ·intro p;refine m_m ?_;refine m_m ?_;refine m_m ?_;simp only[pv];refine m_c 135 func135 #[.int .i64 Y,.int .i64 a,.int .i64 m] hta ?_;refine m_a ?_;simp only[pv];refine Zf ?_;intro w7 hkw hrw hnew hdis;replace r4:=hkw.ro r4;replace sb:=kk sb hkw;clear hkw hrw hnew hdis;iterate 2 go_step
           apply Za [] [_,_,_] trivial a_
           ·intro p;refine m_m ?_;simp only[pv];refine Ze (.int .i64 ((g:Int)-1)) (VS _ _ _ _ rfl g 1 _ rfl rfl (UH _ (by omega) (by omega))) ?_;refine m_a ?_;simp only[pv];refine Zf ?_;intro w8 hkw hrw hnew hdis;replace r4:=hkw.ro r4;replace sb:=kk sb hkw;clear hkw hrw hnew hdis;go_wp2
            go_roundg g
            case measure=>omega
            case rel=>exact⟨by rw[<-HV.out],rfl,by omega,r4,sb⟩
           ·rfl
          ·rfl
         ·rfl
        ·rfl
       ·rfl
      ·rw[GA E g hb]at hbi;have HV:Hid (a^(E/2^(g+1))%m*(a^(E/2^(g+1))%m)%m=a^(E/2^g)%m):=CU a E g m hb;clear hb;generalize a^(E/2^(g+1))%m=X at*;generalize X*X%m=Y at*;iterate 2 go_step
       apply Za [] [_,_] trivial a_
       ·intro p;refine m_m ?_;simp only[pv];refine Ze _ (ZY _ _ _ _ rfl g 0 rfl rfl true (d_ (by omega))) ?_;simp only[pv];refine Zf ?_;intro w9 hkw hrw hnew hdis;replace r4:=hkw.ro r4;replace sb:=kk sb hkw;clear hkw hrw hnew hdis;iterate 9 go_step
        apply Za [] [_,_,_,_,_] trivial a_
        ·intro p;refine m_m ?_;refine m_m ?_;refine m_m ?_;simp only[pv];refine m_c 135 func135 #[.int .i64 X,.int .i64 X,.int .i64 m] hsq ?_;refine m_a ?_;simp only[pv];refine Zf ?_;intro w5 hkw hrw hnew hdis;replace r4:=hkw.ro r4;replace sb:=kk sb hkw;clear hkw hrw hnew hdis;iterate 3 go_step
         apply Za [] [_,_,_,_] trivial a_
         ·intro p;refine m_l r4 ?_;refine m_m ?_;simp only[pv];refine m_c 177 func177 #[.agg (Zc E),.int .i64 (g:Nat)] hbi ?_;simp only[pv];refine Ze _ (ZK .i64 _ _ _ _ rfl 0 1 rfl rfl false rfl) ?_;simp only[pv];refine Zf ?_;intro w6 hkw hrw hnew hdis;replace r4:=hkw.ro r4;replace sb:=kk sb hkw;clear hkw hrw hnew hdis;iterate 6 go_step
          apply Za [] [_,_,_] trivial a_
          ·intro p;refine m_m ?_;simp only[pv];refine Ze (.int .i64 ((g:Int)-1)) (VS _ _ _ _ rfl g 1 _ rfl rfl (UH _ (by omega) (by omega))) ?_;refine m_a ?_;simp only[pv];refine Zf ?_;intro w8 hkw hrw hnew hdis;replace r4:=hkw.ro r4;replace sb:=kk sb hkw;clear hkw hrw hnew hdis;go_wp2
           go_roundg g
           case measure=>omega
           case rel=>exact⟨by rw[<-HV.out],rfl,by omega,r4,sb⟩
          ·rfl
         ·rfl
        ·rfl
       ·rfl
   ·rfl
  ·rfl
 ·rfl
theorem QO (M:Nat)(h:M<9223372036854775808):LA M=(M:Int)/\LB M=true:=by
 unfold LA LB;rw[j_ h,d_ h];exact⟨rfl,rfl⟩
end Go.Proofs.YtnagnkhbamhfmaaGreatDoor
