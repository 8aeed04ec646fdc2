import Derived.Test.YtcdahmommonnfaaGreatDoorJ1
set_option maxRecDepth 100000
set_option maxHeartbeats 8000000
namespace Go.Proofs.YtcdahmommonnfaaGreatDoor
set_option linter.all false
open Go.Proofs.Tryz
open Go.RowKit
section
variable {P:Program}{o:Oper}{ρ:Operand->Value}
end
theorem ZC {P:Program}{o:Oper}{ρ:Operand->Value}(k:IntKind)(t:TypeId)(x y:Operand)(u:TypeId)(ho:o.op= .binOp .neq t x y u)(n m:Int)(hx:ρ x= .int k n)(hy:ρ y= .int k m)(b:Bool)(hb:(!decide (n=m))=b)(w:World):
  (execOp ρ o).run P w= .ok (.value (.bool b)) w:=by
 subst hb;unfold execOp;simp only[ho,hx,hy];simp[eqGuard,go_sem];rfl
theorem Z4 {P:Program}{o:Oper}{ρ:Operand->Value}(t:TypeId)(x y:Operand)(u:TypeId)(ho:o.op= .binOp .gtr t x y u)(n m:Int)(hx:ρ x= .int .i64 n)(hy:ρ y= .int .i64 m)(b:Bool)(hb:decide (m<n)=b)(w:World):
  (execOp ρ o).run P w= .ok (.value (.bool b)) w:=by
 subst hb;unfold execOp;simp only[ho,hx,hy];simp[go_sem]
theorem Qe {P:Program}{o:Oper}{ρ:Operand->Value}{t:TypeId}{x y:Operand}{u:TypeId}(n m:Int)(h: ¬m<n:=by omega)(ho:o.op= .binOp .gtr t x y u:=by exact rfl)(hx:ρ x= .int .i64 n:=by exact rfl)(hy:ρ y= .int .i64 m:=by exact rfl): ∀w,(execOp ρ o).run P w= .ok (.value (.bool false)) w:=Z4 t x y u ho n m hx hy false (decide_eq_false h)
theorem Jp {P:Program}{o:Oper}{ρ:Operand->Value}{t:TypeId}{x y:Operand}{u:TypeId}(n m:Int)(h:m<n:=by omega)(ho:o.op= .binOp .gtr t x y u:=by exact rfl)(hx:ρ x= .int .i64 n:=by exact rfl)(hy:ρ y= .int .i64 m:=by exact rfl): ∀w,(execOp ρ o).run P w= .ok (.value (.bool true)) w:=Z4 t x y u ho n m hx hy true (decide_eq_true h)
theorem Us:prog.underlying 54=some (.slice (prog.elem 54)):=by kernel_rfl
theorem Jq (M:Nat)(b:Nat->Nat):kfU M b (fun _=>0)=fun _=>0:=by
 funext i
 exact if_neg fun h=>by
  have h2:i%16<=0:=h.2;omega
theorem Y6 {x a b c:Nat}(h:x∉[a,b,c]):x∉[a,b]:=fun e=>h (by simp at e ⊢;omega)
structure PrF (hs g0 g6 g9 gr gv gq gp gu gw:Nat):Prop where
 n0:g0∉[gu,gq,g9]
 nr:gr∉[gu,gq,g9]
 nv:gv∉[gu,gq,g9]
 np:gp∉[gu,gq,g9]
 nw:gw∉[gu,gq,g9]
 n6:g6∉[gu,gq,g9]
 u9:gu∉[g9]
 q9:gq∉[g9]
 uq:gu≠gq
 nd:[gu,gq,g9].Nodup
 new: ∀x∈[gu,gq,g9],hs<=x
 l0:g0<hs
 l6:hs<=g6
theorem prF (hs g0 g6 g9 s:Nat)(h0:g0<hs)(h6:hs<=g6)(h7:g6<s)(h9:s+1+1+1+1+1<g9):PrF hs g0 g6 g9 s (s+1) (s+1+1) (s+1+1+1) (s+1+1+1+1) (s+1+1+1+1+1):=by
 refine⟨?_,?_,?_,?_,?_,?_,?_,?_,?_,?_,?_,h0,h6⟩<;>simp<;>omega
theorem W9 {x a b c:Nat}(h:x∉[a,b,c]):x∉[c]:=fun e=>h (List.mem_cons_of_mem _ (List.mem_cons_of_mem _ e))
structure PrH (wr w:World)(n M:Nat)(b u:Nat->Nat)(P g0 g6 g9 gr gv gq gp gu gw:Nat)(bv:Value):Prop where
 ring:Row wr g0 (rgC M (miL M) (Ww M) (sqL M)) 157
 r:Row wr gr #[.pointer (some ⟨g0,0,none⟩)] 109
 bb:Row wr gv #[bv] 54
 rk:Row wr gq (nsC (16*n) (kfU M b u)) 238
 kk:Row wr gp #[.slice (some ⟨gq,0,none⟩) n n] 237
 ru:Row wr gu (isC n u) 3
 uu:Row wr gw #[.slice (some ⟨gu,0,none⟩) n n] 62
 prod:Row wr g9 (Zc P) 39
 res:Row wr g6 (Zc 0) 39
 below:Below w.heap.size w wr
 ule: ∀k,u k<=15
section
variable {wr w w2:World}{n M:Nat}{b u u':Nat->Nat}{P P' g0 g6 g9 gr gv gq gp gu gw:Nat}{bv:Value}
theorem PrH.on (h:PrH wr w n M b u P g0 g6 g9 gr gv gq gp gu gw bv)(k:Kept [] wr w2):PrH w2 w n M b u P g0 g6 g9 gr gv gq gp gu gw bv:=
 ⟨k.row h.ring (by simp),k.row h.r (by simp),k.row h.bb (by simp),k.row h.rk (by simp),k.row h.kk (by simp),k.row h.ru (by simp),k.row h.uu (by simp),k.row h.prod (by simp),k.row h.res (by simp),h.below.trans (k.below w.heap.size h.below.size (by simp)),h.ule⟩
theorem PrH.put (h:PrH wr w n M b u P g0 g6 g9 gr gv gq gp gu gw bv)(F:PrF w.heap.size g0 g6 g9 gr gv gq gp gu gw)(k:Kept [g9] wr w2)(r:Row w2 g9 (Zc P') 39):PrH w2 w n M b u P' g0 g6 g9 gr gv gq gp gu gw bv:=
 ⟨k.row h.ring (W9 F.n0),k.row h.r (W9 F.nr),k.row h.bb (W9 F.nv),k.row h.rk F.q9,k.row h.kk (W9 F.np),k.row h.ru F.u9,k.row h.uu (W9 F.nw),r,k.row h.res (W9 F.n6),h.below.trans (k.below w.heap.size h.below.size fun x hx=>F.new x (List.mem_cons_of_mem _ (List.mem_cons_of_mem _ hx))),h.ule⟩
theorem PrH.pow (h:PrH wr w n M b u P g0 g6 g9 gr gv gq gp gu gw bv)(F:PrF w.heap.size g0 g6 g9 gr gv gq gp gu gw)(k:Kept [gu,gq,g9] wr w2)(zu:Row w2 gu (isC n u') 3)(zk:Row w2 gq (nsC (16*n) (kfU M b u')) 238)(r:Row w2 g9 (Zc P') 39)(hu: ∀k,u' k<=15):PrH w2 w n M b u' P' g0 g6 g9 gr gv gq gp gu gw bv:=
 ⟨k.row h.ring F.n0,k.row h.r F.nr,k.row h.bb F.nv,zk,k.row h.kk F.np,zu,k.row h.uu F.nw,r,k.row h.res F.n6,h.below.trans (k.below w.heap.size h.below.size F.new),hu⟩
end
structure PrQ (n M:Nat)(b e:Nat->Nat)(ab ae:Option Addr)(gb ob ge oe:Nat)(bcs ecs:Array Value)(tb te:TypeId)(w:World):Prop where
 n64:n<=64
 m:M<2^256
 odd:M%2=1
 two:2<=M
 bases:NatsAt w ab n b gb ob bcs tb
 exps:NatsAt w ae n e ge oe ecs te
set_option maxHeartbeats 4000000 in
theorem Mg (n M:Nat)(b e:Nat->Nat)(ab ae:Option Addr)(cb ce gb ob ge oe:Nat)(bcs ecs:Array Value)(tb te:TypeId)(g0:Nat)(w:World)(hQ:PrQ n M b e ab ae gb ob ge oe bcs ecs tb te w)
  (r0:Row w g0 (rgC M (miL M) (Ww M) (sqL M)) 157):
  Calls prog 87 #[.pointer (some ⟨g0,0,none⟩),.slice ab n cb,.slice ae n ce] w fun r w'=>r= .returned (.tuple #[.agg (Zc (prd (fun i=>b i^e i) n%M)),.int .i64 0])/\Below w.heap.size w w':=by
 have hn:=hQ.n64;have hgi:=fun w'=>X9 M (miL M) (Ww M) (sqL M) g0 w' (by have:=hQ.two;omega) hQ.m
 have hpw:=fun w'=>Oy n g0 cb ab w' hn
 have hco:=fun w' (hb:Below w.heap.size w w')=>N9 n ce ae e ge oe ecs te w' hn (hQ.exps.below hb)
 have l0:=r0.lt
 go_enter func87,ntmps87
 iterate 2 go_step
 apply Zd [] [_,_] trivial List.nodup_nil
 ·intro p;refine m_n ?_;simp only[pv];refine Zg (.int .i64 0) (fun _=>rfl) ?_;simp only[pv];refine Zi ?_;intro w2 hkw hrw hnew hdis;have n6:=hnew 0 rfl;have zr6:Row w2 (p 0) (Zc 0) 39:=hrw 1 (39,Zc 0) rfl;replace r0:=hkw.ro r0;have sb:=k_b hkw;have b6:w.heap.size<=p 0:=n6;clear hkw hrw hnew hdis n6;generalize p 0=g6 at*;have r6:=zr6;clear zr6;iterate 4 go_step
  refine ZQ ?_;refine q_m ?_;simp only[pv];refine q_k 131 func131 #[.pointer (some ⟨g0,0,none⟩)] (fun w' hb=>hgi w' (r0.belowAll hb)) ?_;simp only[pv];refine q_v _ (Zp _ _ rfl true rfl) ?_;refine q_m ?_;refine q_m ?_;simp only[pv];refine q_v _ (n_l ab n cb Us) ?_;refine q_m ?_;simp only[pv];refine q_v _ (n_l ae n ce Us) ?_;simp only[pv];refine q_v _ (ZC .i64 _ _ _ _ rfl n n rfl rfl false (by simp)) ?_;refine q_p false (.bool false) ?_;refine q_m ?_;refine q_m ?_;simp only[pv];refine q_v _ (n_l ab n cb Us) ?_;simp only[pv];refine q_v _ (Z4 _ _ _ _ rfl n 64 rfl rfl false (by simp;omega)) ?_;refine q_p false (.bool false) ?_;simp only[pv];refine Z2 ?_;intro w3 hqb;replace r0:=r0.belowAll hqb;replace r6:=r6.belowAll hqb;replace sb:=b_o sb hqb;clear hqb;iterate 7 go_step
  go_wp2_with fail
  refine(hpw _).mono ?_;rintro e' w4 ⟨rfl,hN,hb4⟩;generalize hs4:w3.heap.size=s at*;have l6:=r6.lt;rw[hs4]at l6;have b6':=sb.size;replace r0:=r0.belowAll (by rw[hs4];exact hb4);replace r6:=r6.belowAll (by rw[hs4];exact hb4);replace sb:=sb.trans (hb4.mono (by rw[<-hs4];exact b6'))
  dsimp only
  iterate 8 go_step
  apply Zd [] [_,_,_,_,_,_] trivial List.nodup_nil
  ·intro p;refine m_m ?_;simp only[pv];refine Zg (.pointer (some ⟨g0,0,none⟩)) (Zl _ rfl g0 0 rfl) ?_;simp only[pv];refine Zg _ (Zb 157 _ 2 rfl g0 0 rfl _ underlying157 _ rfl 3 sizeOf39) ?_;simp only[pv];refine Xe 39 _ rfl _ (5) rfl r0 (by simp<;>omega) (Zc (Ww M)) (E5 M _ _ _) _ underlying39 rfl Ze ?_;simp only[pv];refine m_n ?_;simp only[pv];refine m_p 9 (Ww M) ?_;simp only[Act.put];refine Zi ?_;intro w5 hkw hrw hnew _;have r9:Row w5 (p 4) (Zc (Ww M)) 39:=hrw 9 (39,Zc (Ww M)) rfl;have n9:=hnew 4 rfl;have l9:=l_l hN.u.lt n9;have HF:Hid (PrF w.heap.size g0 g6 (p 4) s (s+1) (s+1+1) (s+1+1+1) (s+1+1+1+1) (s+1+1+1+1+1)):=prF _ _ _ _ s l0 b6 l6 l9
   have hT:PrH w5 w n M b (fun _=>0) (Ww M) g0 g6 (p 4) s (s+1) (s+1+1) (s+1+1+1) (s+1+1+1+1) (s+1+1+1+1+1) (.slice ab n cb):=by
    refine⟨hkw.row r0 (by simp),hkw.row hN.r (by simp),hkw.row hN.b (by simp),?_,hkw.row hN.k (by simp),hkw.row hN.ru (by simp),hkw.row hN.u (by simp),r9,hkw.row r6 (by simp),sb.trans (hkw.below w.heap.size sb.size (by simp)),fun _=>Nat.zero_le _⟩;rw[Jq];exact hkw.row hN.rk (by simp)
   clear hkw hrw hnew r9 n9 l9 hN hb4 hs4 r0 r6 sb b6' l6 b6 l0 hpw hgi;generalize p 4=g9 at*;generalize s+1+1+1+1+1=gw at*;generalize s+1+1+1+1=gu at*;generalize s+1+1+1=gp at*;generalize s+1+1=gq at*;generalize s+1=gv at*;iterate 3 go_step
   apply Zd [] [_,_,_] trivial List.nodup_nil
   ·intro p;refine m_m ?_;simp only[pv];refine m_k 133 func133 #[.slice ae n ce] (fun w' hk=>hco w' (hT.below.trans (hk.below w.heap.size hT.below.size (by simp)))) ?_;refine m_a ?_;simp only[pv];refine Zi ?_;intro w6 hkw _ _ _;replace hT:=hT.on hkw;clear hkw hco;have HC:Hid ((mxL e n+3)/4<=64/\ ∀i,i<n->e i<2^(4*((mxL e n+3)/4))):=⟨by have:=N8 e n hQ.exps.lt;omega,Me e n⟩;have HQ:Hid (PrQ n M b e ab ae gb ob ge oe bcs ecs tb te w):=hQ;clear hQ;generalize (mxL e n+3)/4=c at*
    go_wp2_with fail
    go_loopg [40] c (fun g s40 wr=> ∃(t:Nat) (u:Nat->Nat),t+g=c/\s40= .int .i64 t/\PrH wr w n M b u (fm M (xo b e n c t)) g0 g6 g9 s gv gq gp gu gw (.slice ab n cb))
    case atStart=>exact⟨0,_,by omega,rfl,by rw[Pl b e n c HC.out.2,<-E9];exact hT⟩
    case round=>
     obtain⟨t,u,ht,rfl,hR⟩:=hrel;clear hT;have hT:=hR;clear hR
     cases gk with
     |zero=>
      obtain rfl:t=c:=by omega
      rw[G7]at hT;have hpl:=fun w'=>N4 (fm M (prd (fun i=>b i^e i) n)) M (miL M) (Ww M) (sqL M) g0 w' (Nat.lt_trans (Jl M _ HQ.out.two) HQ.out.m) HQ.out.m HQ.out.odd HQ.out.two (YQ M HQ.out.odd).2.2 (YQ M HQ.out.odd).2.1
      rw[Jm M _ HQ.out.odd HQ.out.two]at hpl;have x0:g0≠g6:=Nat.ne_of_lt (Nat.lt_of_lt_of_le HF.out.l0 HF.out.l6);have x9:g9≠g6:=fun h=>HF.out.n6 (by rw[<-h];simp)
      have l6:=HF.out.l6;clear ht HC HQ HF;generalize hZ:prd (fun i=>b i^e i) n%M=Z at*;generalize fm M (prd (fun i=>b i^e i) n)=Y at*
      go_step
      apply Zd [] [_] trivial List.nodup_nil
      ·intro p;refine Zg (.bool false) (fun w'=>(Yv _ _ _ _ rfl t t rfl rfl w').trans (by rw[decide_eq_false (Int.lt_irrefl _)])) ?_;simp only[pv];refine Zi ?_;intro w7 hkw _ _ _;replace hT:=hT.on hkw;clear hkw;iterate 8 go_step
       apply Zd [(g6,39,Zc 0)] [_,_,_,_,_] ⟨hT.res,trivial⟩ (by simp<;>omega)
       ·intro p;refine m_m ?_;simp only[pv];refine m_l hT.prod ?_;simp only[pv];refine m_k 136 func136 #[.pointer (some ⟨g0,0,none⟩),.agg (Zc Y)] (fun w' hk=>hpl w' (hk.row hT.ring (by simp<;>omega))) ?_;simp only[pv];refine m_p 0 Z ?_;simp only[Act.put];refine Zg (.int .i64 0) (fun _=>rfl) ?_;simp only[pv];refine Zi ?_;intro w8 hkw hrw _ _;have r6:Row w8 g6 (Zc Z) 39:=hrw 0 (39,Zc Z) rfl;have sb:=hT.below.trans (hkw.below w.heap.size hT.below.size (by simp;omega));clear hkw hrw hT hpl;go_wp2;exact Yl rfl _ rfl r6 4 _ underlying39 (by exact Ze) rfl _ rfl ⟨by rw[hZ];rfl,sb⟩
       ·rfl
      ·rfl
     |succ g=>
      have htc:t<c:=by omega
      go_step
      apply Zd [] [_] trivial List.nodup_nil
      ·intro p;refine Zg (.bool true) (fun w'=>(Yv _ _ _ _ rfl t c rfl rfl w').trans (by rw[decide_eq_true (by omega)])) ?_;simp only[pv];refine Zi ?_;intro w7 hkw _ _ _;replace hT:=hT.on hkw;clear hkw;iterate 10 go_step
       apply Zd [] [_,_] trivial List.nodup_nil
       ·intro p;refine m_m ?_;refine m_a ?_;simp only[pv];refine Zi ?_;intro w8 hkw _ _ _;replace hT:=hT.on hkw;clear hkw;by_cases ht0:t=0
        ·subst ht0;have e1:fm M (xo b e n c 0)=fm M (xi b e n c 0 0):=by rw[Mb,Pl b e n c HC.out.2,Nat.one_pow]
         rw[e1]at hT;clear e1;iterate 4 go_step
         apply Zd [] [_,_] trivial List.nodup_nil
         ·intro p;refine m_m ?_;simp only[pv];refine Zg _ (Z4 _ _ _ _ rfl 0 0 rfl rfl false rfl) ?_;simp only[pv];refine Zi ?_;intro w9 hkw _ _ _;replace hT:=hT.on hkw;clear hkw;iterate 7 go_step
          apply Zd [] [_,_,_] trivial List.nodup_nil
          ·intro p;refine m_m ?_;simp only[pv];refine Zg _ (n_l ae n ce Us) ?_;simp only[pv];refine Zg (.int .i64 0) (fun _=>rfl) ?_;simp only[pv];refine Zi ?_;intro w10 hkw _ _ _;replace hT:=hT.on hkw;clear hkw
           go_wp2_with fail
           go_loopg [54] n (fun g s54 wr=> ∃(k:Nat) (u:Nat->Nat),k+g=n/\s54= .int .i64 k/\PrH wr w n M b u (fm M (xi b e n c 0 k)) g0 g6 g9 s gv gq gp gu gw (.slice ab n cb))
           case atStart=>exact⟨0,_,by omega,rfl,hT⟩
           case round=>
            clear hT;obtain⟨k,u,hk,rfl,hR⟩:=hrel;have hT:=hR;clear hR
            cases gk with
            |zero=>
             obtain rfl:k=n:=by omega
             rw[Md b e k c 0 htc]at hT
             go_step
             apply Zd [] [_] trivial List.nodup_nil
             ·intro p;refine Zg (.bool false) (fun w'=>(Yv _ _ _ _ rfl k k rfl rfl w').trans (by rw[decide_eq_false (Int.lt_irrefl _)])) ?_;simp only[pv];refine Zi ?_;intro w11 hkw _ _ _;replace hT:=hT.on hkw;clear hkw;iterate 7 go_step
              apply Zd [] [_,_] trivial List.nodup_nil
              ·intro p;refine Zg _ (YJ _ _ _ _ rfl 0 1 rfl rfl (by have:=HC.out.1;omega)) ?_;refine m_m ?_;simp only[pv];refine Zi ?_;intro w12 hkw _ _ _;replace hT:=hT.on hkw;clear hkw;go_wp2
               go_roundg g
               case measure=>omega
               case rel=>exact⟨0+1,u,by omega,rfl,hT⟩
              ·rfl
             ·rfl
            |succ g'=>
             have hkn:k<n:=by omega
             have hdi:=fun w'=>SQ (e k) (c-1-0) w' (by have:=HC.out.1;omega)
             obtain h0|⟨rfl,rE,hat⟩:=(HQ.out.exps.below hT.below).at'
             ·omega
             go_step
             apply Zd [] [_] trivial List.nodup_nil
             ·intro p;refine Zg (.bool true) (fun w'=>(Yv _ _ _ _ rfl k n rfl rfl w').trans (by rw[decide_eq_true (by omega)])) ?_;simp only[pv];refine Zi ?_;intro w13 hkw _ _ _;replace hT:=hT.on hkw;clear hkw;replace rE:=((HQ.out.exps.below hT.below).at').resolve_left (by omega) |>.2.1;iterate 10 go_step
              apply Zd [] [_,_] trivial List.nodup_nil
              ·intro p;refine m_m ?_;refine m_a ?_;simp only[pv];refine Zi ?_;intro w14 hkw _ _ _;replace hT:=hT.on hkw;clear hkw;replace rE:=((HQ.out.exps.below hT.below).at').resolve_left (by omega) |>.2.1;iterate 3 go_step
               apply Zd [] [_,_,_,_,_,_,_,_,_,_] trivial List.nodup_nil
               ·intro p;refine m_m ?_;refine m_m ?_;simp only[pv];refine m_x k hkn underlying54 ZU ?_;simp only[pv];refine Xf 39 _ rfl _ ((oe+k*4)) rfl rE (by simp<;>omega) (Zc (e k)) (hat k hkn) _ underlying39 rfl Ze ?_;refine m_m ?_;simp only[pv];refine Zg _ (ZT _ _ _ _ rfl c 1 rfl rfl (by omega) (by have:=HC.out.1;omega)) ?_;refine m_m ?_;simp only[pv];refine Zg _ (ZT _ _ _ _ rfl (c-1) 0 rfl rfl (by omega) (by have:=HC.out.1;omega)) ?_;simp only[pv];refine m_c 135 func135 #[.agg (Zc (e k)),.int .i64 ((c-1-0:Nat):Int)] hdi ?_;refine m_a ?_;simp only[pv];refine Zi ?_;intro w15 hkw _ _ _;replace hT:=hT.on hkw;clear hkw;clear hdi rE hat;have hxi:=Mc b e n c 0 k;have hd15:e k/2^(4*(c-1-0))%16<16:=Nat.mod_lt _ (by decide);generalize e k/2^(4*(c-1-0))%16=d at*;by_cases hd:d=0
                ·subst hd;rw[Nat.pow_zero,Nat.mul_one]at hxi;rw[<-hxi]at hT;iterate 3 go_step
                 apply Zd [] [_,_] trivial List.nodup_nil
                 ·intro p;refine m_m ?_;simp only[pv];refine Zg _ (Z4 _ _ _ _ rfl 0 0 rfl rfl false rfl) ?_;simp only[pv];refine Zi ?_;intro w16 hkw _ _ _;replace hT:=hT.on hkw;clear hkw;iterate 6 go_step
                  apply Zd [] [_,_] trivial List.nodup_nil
                  ·intro p;refine Zg _ (YJ _ _ _ _ rfl k 1 rfl rfl (by have:=HQ.out.n64;omega)) ?_;refine m_m ?_;simp only[pv];refine Zi ?_;intro w17 hkw _ _ _;replace hT:=hT.on hkw;clear hkw;go_wp2
                   go_roundg g'
                   case measure=>omega
                   case rel=>exact⟨k+1,u,by omega,rfl,hT⟩
                  ·rfl
                 ·rfl
                ·obtain h0|⟨rfl,rB,hbt⟩:=(HQ.out.bases.below hT.below).at'
                 ·omega
                 iterate 3 go_step
                 apply Zd [] [_,_] trivial List.nodup_nil
                 ·intro p;refine m_m ?_;simp only[pv];refine Zg _ (Z4 _ _ _ _ rfl d 0 rfl rfl true (by simp;omega)) ?_;simp only[pv];refine Zi ?_;intro w18 hkw _ _ _;replace hT:=hT.on hkw;clear hkw;have hPw:PwH w18 n M b g0 gw s gv gp gu gq gb ob cb bcs tb:=⟨hT.ring,hT.uu,hT.r,hT.bb,hT.kk,(((HQ.out.bases.below hT.below).at').resolve_left (by omega)).2.1,hbt⟩;have hBn:gb∉[gu,gq,g9]:=fun h=>Nat.lt_irrefl _ (Nat.lt_of_lt_of_le (((HQ.out.bases).at').resolve_left (by omega)).2.1.lt (HF.out.new gb h))
                  have hpo:=fun w' (hk':Kept [gu,gq,g9] w18 w')=>SO n k d M u b g0 gw s gv gp gu gq gb ob cb bcs tb w' hkn (by omega) (by omega) (hT.ule k) HQ.out.m HQ.out.odd HQ.out.two (HQ.out.bases.lt k hkn) HQ.out.n64 (hPw.on hk' ⟨HF.out.n0,HF.out.nw,HF.out.nr,HF.out.nv,HF.out.np,hBn⟩)
                  have hfl:=Jl M (xi b e n c 0 k) HQ.out.two;have hff:=U8 M (b k) d HQ.out.two;have hti:=fun w'=>Xa (fm M (xi b e n c 0 k)) (fpw M (b k) d) M (miL M) (Ww M) (sqL M) g0 w' (Nat.lt_trans hfl HQ.out.m) (Nat.lt_trans hff HQ.out.m) HQ.out.m HQ.out.odd HQ.out.two (YQ M HQ.out.odd).2.2 (YQ M HQ.out.odd).2.1 (.inl hfl)
                  rw[SS,G5 M _ _ HQ.out.odd HQ.out.two,<-hxi,<-SS]at hti
                  have hule: ∀j,upd u k (max (u k) d) j<=15:=fun j=>by
                   unfold upd;have:=hT.ule j;have:=hT.ule k
                   split<;>omega
                  have m0:=HF.out.n0;have muq:=HF.out.uq;have mnd:=HF.out.nd;have hSS:g0∉[gu,gq]/\gw∉[gu,gq]/\s∉[gu,gq]/\gv∉[gu,gq]/\gp∉[gu,gq]/\gb∉[gu,gq]:=⟨Y6 HF.out.n0,Y6 HF.out.nw,Y6 HF.out.nr,Y6 HF.out.nv,Y6 HF.out.np,Y6 hBn⟩;clear hfl hff hBn hPw;generalize fm M (xi b e n c 0 k)=Pk at*;generalize hP2:fm M (xi b e n c 0 (k+1))=P2 at*;generalize fpw M (b k) d=Pd at*;iterate 3 go_step
                  apply Zo (by kernel_rfl) [(gu,3,isC n u),(gq,238,nsC (16*n) (kfU M b u)),(g9,39,Zc Pk)] [_,_,_,_,_,_,_,_] ⟨hT.ru,hT.rk,hT.prod,trivial⟩ (by exact mnd)
                  ·intro p;refine m_m ?_;simp only[pv];refine XE 4 39 _ rfl rfl rfl 4 _ underlying39 Ze ?_;refine m_m ?_;refine m_m ?_;refine m_m ?_;simp only[pv];refine SJ 180 _ _ _ rfl #[.pointer (some ⟨gw,0,none⟩),.pointer (some ⟨s,0,none⟩),.pointer (some ⟨gv,0,none⟩),.pointer (some ⟨gp,0,none⟩)] rfl func180 (by kernel_rfl) #[.int .i64 k,.int .i64 d] rfl (.agg (Zc Pd)) 0 2 (by decide) (isC n (upd u k (max (u k) d))) (nsC (16*n) (kfU M b (upd u k (max (u k) d)))) rfl rfl (fun w' hk' r1 r2=>hpo w' hk' r1 r2 hSS muq) ?_;simp only[pv];refine m_k 134 func134 #[.pointer (some ⟨g0,0,none⟩),.agg (Zc Pk),.agg (Zc Pd)] (fun w' hk'=>hti w' (hk'.row hT.ring m0)) ?_;simp only[pv];refine m_p 4 P2 ?_;simp only[Act.put];refine Zi ?_;intro wz hkw hrw _ _;have zu:Row wz gu (isC n (upd u k (max (u k) d))) 3:=hrw 0 (3,isC n (upd u k (max (u k) d))) rfl;have zk:Row wz gq (nsC (16*n) (kfU M b (upd u k (max (u k) d)))) 238:=hrw 2 (238,nsC (16*n) (kfU M b (upd u k (max (u k) d)))) rfl;have z9:Row wz g9 (Zc P2) 39:=hrw 4 (39,Zc P2) rfl;replace hT:=hT.pow HF.out hkw zu zk z9 hule;clear hkw hrw zu zk z9 hpo hti hule;iterate 2 go_step
                   apply Zd [] [_,_] trivial List.nodup_nil
                   ·intro p;refine Zg _ (YJ _ _ _ _ rfl k 1 rfl rfl (by have:=HQ.out.n64;omega)) ?_;refine m_m ?_;simp only[pv];refine Zi ?_;intro w19 hkw _ _ _;replace hT:=hT.on hkw;clear hkw;go_wp2
                    go_roundg g'
                    case measure=>omega
                    case rel=>exact⟨k+1,_,by omega,rfl,by rw[hP2];exact hT⟩
                   ·rfl
                  ·kernel_rfl
                 ·rfl
               ·rfl
              ·rfl
             ·rfl
          ·rfl
         ·rfl
        ·have e16:fm M (xo b e n c t^2^4)=fm M (xi b e n c t 0):=by rw[Mb]
         iterate 4 go_step
         apply Zd [] [_,_] trivial List.nodup_nil
         ·intro p;refine m_m ?_;simp only[pv];refine Zg _ (Z4 _ _ _ _ rfl t 0 rfl rfl true (by simp;omega)) ?_;simp only[pv];refine Zi ?_;intro w9 hkw _ _ _;replace hT:=hT.on hkw;clear hkw
          have hT0:PrH w9 w n M b u (fm M (xo b e n c t^2^0)) g0 g6 g9 s gv gq gp gu gw (.slice ab n cb):=by rw[Nat.pow_zero,Nat.pow_one];exact hT
          clear hT;generalize xo b e n c t=X at*
          go_wp2_with fail
          go_loopg [45] 4 (fun g s45 wr=> ∃j:Nat,j+g=4/\s45= .int .i64 j/\PrH wr w n M b u (fm M (X^2^j)) g0 g6 g9 s gv gq gp gu gw (.slice ab n cb))
          case atStart=>exact⟨0,by omega,rfl,hT0⟩
          case round=>
           clear hT0;obtain⟨j,hj,rfl,hR⟩:=hrel;have hT:=hR;clear hR
           cases gk with
           |zero=>
            obtain rfl:j=4:=by omega
            rw[e16]at hT;clear hj e16
            go_step
            apply Zd [] [_] trivial List.nodup_nil
            ·intro p;refine Zg (.bool false) (fun w'=>(Yv _ _ _ _ rfl 4 4 rfl rfl w').trans rfl) ?_;simp only[pv];refine Zi ?_;intro w10 hkw _ _ _;replace hT:=hT.on hkw;clear hkw;iterate 8 go_step
             apply Zd [] [_,_,_] trivial List.nodup_nil
             ·intro p;refine m_m ?_;simp only[pv];refine Zg _ (n_l ae n ce Us) ?_;simp only[pv];refine Zg (.int .i64 0) (fun _=>rfl) ?_;simp only[pv];refine Zi ?_;intro w11 hkw _ _ _;replace hT:=hT.on hkw;clear hkw
              go_wp2_with fail
              go_loopg [54] n (fun g s54 wr=> ∃(k:Nat) (u:Nat->Nat),k+g=n/\s54= .int .i64 k/\PrH wr w n M b u (fm M (xi b e n c t k)) g0 g6 g9 s gv gq gp gu gw (.slice ab n cb))
              case atStart=>exact⟨0,_,by omega,rfl,hT⟩
              case round=>
               clear hT;obtain⟨k,u,hk,rfl,hR⟩:=hrel;have hT:=hR;clear hR
               cases gk with
               |zero=>
                obtain rfl:k=n:=by omega
                rw[Md b e k c t htc]at hT
                go_step
                apply Zd [] [_] trivial List.nodup_nil
                ·intro p;refine Zg (.bool false) (fun w'=>(Yv _ _ _ _ rfl k k rfl rfl w').trans (by rw[decide_eq_false (Int.lt_irrefl _)])) ?_;simp only[pv];refine Zi ?_;intro w12 hkw _ _ _;replace hT:=hT.on hkw;clear hkw;iterate 7 go_step
                 apply Zd [] [_,_] trivial List.nodup_nil
                 ·intro p;refine Zg _ (YJ _ _ _ _ rfl t 1 rfl rfl (by have:=HC.out.1;omega)) ?_;refine m_m ?_;simp only[pv];refine Zi ?_;intro w13 hkw _ _ _;replace hT:=hT.on hkw;clear hkw;go_wp2
                  go_roundg g
                  case measure=>omega
                  case rel=>exact⟨t+1,u,by omega,rfl,hT⟩
                 ·rfl
                ·rfl
               |succ g'=>
                have hkn:k<n:=by omega
                have hdi:=fun w'=>SQ (e k) (c-1-t) w' (by have:=HC.out.1;omega)
                obtain h0|⟨rfl,rE,hat⟩:=(HQ.out.exps.below hT.below).at'
                ·omega
                go_step
                apply Zd [] [_] trivial List.nodup_nil
                ·intro p;refine Zg (.bool true) (fun w'=>(Yv _ _ _ _ rfl k n rfl rfl w').trans (by rw[decide_eq_true (by omega)])) ?_;simp only[pv];refine Zi ?_;intro w14 hkw _ _ _;replace hT:=hT.on hkw;clear hkw;replace rE:=((HQ.out.exps.below hT.below).at').resolve_left (by omega) |>.2.1;iterate 10 go_step
                 apply Zd [] [_,_] trivial List.nodup_nil
                 ·intro p;refine m_m ?_;refine m_a ?_;simp only[pv];refine Zi ?_;intro w15 hkw _ _ _;replace hT:=hT.on hkw;clear hkw;replace rE:=((HQ.out.exps.below hT.below).at').resolve_left (by omega) |>.2.1;iterate 3 go_step
                  apply Zd [] [_,_,_,_,_,_,_,_,_,_] trivial List.nodup_nil
                  ·intro p;refine m_m ?_;refine m_m ?_;simp only[pv];refine m_x k hkn underlying54 ZU ?_;simp only[pv];refine Xf 39 _ rfl _ ((oe+k*4)) rfl rE (by simp<;>omega) (Zc (e k)) (hat k hkn) _ underlying39 rfl Ze ?_;refine m_m ?_;simp only[pv];refine Zg _ (ZT _ _ _ _ rfl c 1 rfl rfl (by omega) (by have:=HC.out.1;omega)) ?_;refine m_m ?_;simp only[pv];refine Zg _ (ZT _ _ _ _ rfl (c-1) t rfl rfl (by omega) (by have:=HC.out.1;omega)) ?_;simp only[pv];refine m_c 135 func135 #[.agg (Zc (e k)),.int .i64 ((c-1-t:Nat):Int)] hdi ?_;refine m_a ?_;simp only[pv];refine Zi ?_;intro w16 hkw _ _ _;replace hT:=hT.on hkw;clear hkw;clear hdi rE hat;have hxi:=Mc b e n c t k;have hd15:e k/2^(4*(c-1-t))%16<16:=Nat.mod_lt _ (by decide);generalize e k/2^(4*(c-1-t))%16=d at*;by_cases hd:d=0
                   ·subst hd;rw[Nat.pow_zero,Nat.mul_one]at hxi;rw[<-hxi]at hT;iterate 3 go_step
                    apply Zd [] [_,_] trivial List.nodup_nil
                    ·intro p;refine m_m ?_;simp only[pv];refine Zg _ (Z4 _ _ _ _ rfl 0 0 rfl rfl false rfl) ?_;simp only[pv];refine Zi ?_;intro w17 hkw _ _ _;replace hT:=hT.on hkw;clear hkw;iterate 6 go_step
                     apply Zd [] [_,_] trivial List.nodup_nil
                     ·intro p;refine Zg _ (YJ _ _ _ _ rfl k 1 rfl rfl (by have:=HQ.out.n64;omega)) ?_;refine m_m ?_;simp only[pv];refine Zi ?_;intro w18 hkw _ _ _;replace hT:=hT.on hkw;clear hkw;go_wp2
                      go_roundg g'
                      case measure=>omega
                      case rel=>exact⟨k+1,u,by omega,rfl,hT⟩
                     ·rfl
                    ·rfl
                   ·obtain h0|⟨rfl,rB,hbt⟩:=(HQ.out.bases.below hT.below).at'
                    ·omega
                    iterate 3 go_step
                    apply Zd [] [_,_] trivial List.nodup_nil
                    ·intro p;refine m_m ?_;simp only[pv];refine Zg _ (Z4 _ _ _ _ rfl d 0 rfl rfl true (by simp;omega)) ?_;simp only[pv];refine Zi ?_;intro w19 hkw _ _ _;replace hT:=hT.on hkw;clear hkw;have hPw:PwH w19 n M b g0 gw s gv gp gu gq gb ob cb bcs tb:=⟨hT.ring,hT.uu,hT.r,hT.bb,hT.kk,(((HQ.out.bases.below hT.below).at').resolve_left (by omega)).2.1,hbt⟩;have hBn:gb∉[gu,gq,g9]:=fun h=>Nat.lt_irrefl _ (Nat.lt_of_lt_of_le (((HQ.out.bases).at').resolve_left (by omega)).2.1.lt (HF.out.new gb h))
                     have hpo:=fun w' (hk':Kept [gu,gq,g9] w19 w')=>SO n k d M u b g0 gw s gv gp gu gq gb ob cb bcs tb w' hkn (by omega) (by omega) (hT.ule k) HQ.out.m HQ.out.odd HQ.out.two (HQ.out.bases.lt k hkn) HQ.out.n64 (hPw.on hk' ⟨HF.out.n0,HF.out.nw,HF.out.nr,HF.out.nv,HF.out.np,hBn⟩)
                     have hfl:=Jl M (xi b e n c t k) HQ.out.two;have hff:=U8 M (b k) d HQ.out.two;have hti:=fun w'=>Xa (fm M (xi b e n c t k)) (fpw M (b k) d) M (miL M) (Ww M) (sqL M) g0 w' (Nat.lt_trans hfl HQ.out.m) (Nat.lt_trans hff HQ.out.m) HQ.out.m HQ.out.odd HQ.out.two (YQ M HQ.out.odd).2.2 (YQ M HQ.out.odd).2.1 (.inl hfl)
                     rw[SS,G5 M _ _ HQ.out.odd HQ.out.two,<-hxi,<-SS]at hti
                     have hule: ∀j,upd u k (max (u k) d) j<=15:=fun j=>by
                      unfold upd;have:=hT.ule j;have:=hT.ule k
                      split<;>omega
                     have m0:=HF.out.n0;have muq:=HF.out.uq;have mnd:=HF.out.nd;have hSS:g0∉[gu,gq]/\gw∉[gu,gq]/\s∉[gu,gq]/\gv∉[gu,gq]/\gp∉[gu,gq]/\gb∉[gu,gq]:=⟨Y6 HF.out.n0,Y6 HF.out.nw,Y6 HF.out.nr,Y6 HF.out.nv,Y6 HF.out.np,Y6 hBn⟩;clear hfl hff hBn hPw;generalize fm M (xi b e n c t k)=Pk at*;generalize hP2:fm M (xi b e n c t (k+1))=P2 at*;generalize fpw M (b k) d=Pd at*;iterate 3 go_step
                     apply Zo (by kernel_rfl) [(gu,3,isC n u),(gq,238,nsC (16*n) (kfU M b u)),(g9,39,Zc Pk)] [_,_,_,_,_,_,_,_] ⟨hT.ru,hT.rk,hT.prod,trivial⟩ (by exact mnd)
                     ·intro p;refine m_m ?_;simp only[pv];refine XE 4 39 _ rfl rfl rfl 4 _ underlying39 Ze ?_;refine m_m ?_;refine m_m ?_;refine m_m ?_;simp only[pv];refine SJ 180 _ _ _ rfl #[.pointer (some ⟨gw,0,none⟩),.pointer (some ⟨s,0,none⟩),.pointer (some ⟨gv,0,none⟩),.pointer (some ⟨gp,0,none⟩)] rfl func180 (by kernel_rfl) #[.int .i64 k,.int .i64 d] rfl (.agg (Zc Pd)) 0 2 (by decide) (isC n (upd u k (max (u k) d))) (nsC (16*n) (kfU M b (upd u k (max (u k) d)))) rfl rfl (fun w' hk' r1 r2=>hpo w' hk' r1 r2 hSS muq) ?_;simp only[pv];refine m_k 134 func134 #[.pointer (some ⟨g0,0,none⟩),.agg (Zc Pk),.agg (Zc Pd)] (fun w' hk'=>hti w' (hk'.row hT.ring m0)) ?_;simp only[pv];refine m_p 4 P2 ?_;simp only[Act.put];refine Zi ?_;intro wz hkw hrw _ _;have zu:Row wz gu (isC n (upd u k (max (u k) d))) 3:=hrw 0 (3,isC n (upd u k (max (u k) d))) rfl;have zk:Row wz gq (nsC (16*n) (kfU M b (upd u k (max (u k) d)))) 238:=hrw 2 (238,nsC (16*n) (kfU M b (upd u k (max (u k) d)))) rfl;have z9:Row wz g9 (Zc P2) 39:=hrw 4 (39,Zc P2) rfl;replace hT:=hT.pow HF.out hkw zu zk z9 hule;clear hkw hrw zu zk z9 hpo hti hule;iterate 2 go_step
                      apply Zd [] [_,_] trivial List.nodup_nil
                      ·intro p;refine Zg _ (YJ _ _ _ _ rfl k 1 rfl rfl (by have:=HQ.out.n64;omega)) ?_;refine m_m ?_;simp only[pv];refine Zi ?_;intro w20 hkw _ _ _;replace hT:=hT.on hkw;clear hkw;go_wp2
                       go_roundg g'
                       case measure=>omega
                       case rel=>exact⟨k+1,_,by omega,rfl,by rw[hP2];exact hT⟩
                      ·rfl
                     ·kernel_rfl
                    ·rfl
                  ·rfl
                 ·rfl
                ·rfl
             ·rfl
            ·rfl
           |succ g'=>
            have hfl:=Jl M (X^2^j) HQ.out.two;have hti:=fun w'=>Xa (fm M (X^2^j)) (fm M (X^2^j)) M (miL M) (Ww M) (sqL M) g0 w' (Nat.lt_trans hfl HQ.out.m) (Nat.lt_trans hfl HQ.out.m) HQ.out.m HQ.out.odd HQ.out.two (YQ M HQ.out.odd).2.2 (YQ M HQ.out.odd).2.1 (.inl hfl)
            rw[G8 M X j HQ.out.odd HQ.out.two]at hti;have m0:=W9 HF.out.n0;clear hfl e16;generalize fm M (X^2^j)=Pj at*;generalize hP2:fm M (X^2^(j+1))=P2 at*
            go_step
            apply Zd [] [_] trivial List.nodup_nil
            ·intro p;refine Zg (.bool true) (fun w'=>(Yv _ _ _ _ rfl j 4 rfl rfl w').trans (by rw[decide_eq_true (by omega)])) ?_;simp only[pv];refine Zi ?_;intro w21 hkw _ _ _;replace hT:=hT.on hkw;clear hkw;iterate 9 go_step
             apply Zd [(g9,39,Zc Pj)] [_,_,_,_,_] ⟨hT.prod,trivial⟩ (by simp<;>omega)
             ·intro p;refine m_m ?_;simp only[pv];refine XE 0 39 _ rfl rfl rfl 4 _ underlying39 Ze ?_;simp only[pv];refine XE 0 39 _ rfl rfl rfl 4 _ underlying39 Ze ?_;simp only[pv];refine m_k 134 func134 #[.pointer (some ⟨g0,0,none⟩),.agg (Zc Pj),.agg (Zc Pj)] (fun w' hk'=>hti w' (hk'.row hT.ring m0)) ?_;simp only[pv];refine m_p 0 P2 ?_;simp only[Act.put];refine Zi ?_;intro wz hkw hrw _ _;have z9:Row wz g9 (Zc P2) 39:=hrw 0 (39,Zc P2) rfl;replace hT:=hT.put HF.out hkw z9;clear hkw hrw z9 hti;iterate 2 go_step
              apply Zd [] [_,_] trivial List.nodup_nil
              ·intro p;refine Zg _ (x_a j 1) ?_;refine m_m ?_;simp only[pv];refine Zi ?_;intro w22 hkw _ _ _;replace hT:=hT.on hkw;clear hkw;go_wp2
               go_roundg g'
               case measure=>omega
               case rel=>exact⟨j+1,by omega,rfl,by rw[hP2];exact hT⟩
              ·rfl
             ·rfl
            ·rfl
         ·rfl
       ·rfl
      ·rfl
   ·rfl
  ·rfl
 ·rfl
end Go.Proofs.YtcdahmommonnfaaGreatDoor
