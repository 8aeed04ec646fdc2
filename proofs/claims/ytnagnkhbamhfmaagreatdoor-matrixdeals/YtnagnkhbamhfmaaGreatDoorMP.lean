import Derived.Test.YtnagnkhbamhfmaaGreatDoorGS
set_option maxRecDepth 100000
set_option maxHeartbeats 8000000
namespace Go.Proofs.YtnagnkhbamhfmaaGreatDoor
set_option linter.all false
open Go.Proofs.Tryz
open Go.RowKit
section
variable {P:Program}{o:Oper}{ρ:Operand->Value}
theorem MH (t:TypeId)(x y:Operand)(u:TypeId)(ho:o.op= .binOp .leq t x y u)(n m:Int)(hx:ρ x= .int .u64 n)(hy:ρ y= .int .u64 m)(b:Bool)(hb:decide (n<=m)=b)(w:World):
  (execOp ρ o).run P w= .ok (.value (.bool b)) w:=by
 subst hb;unfold execOp;simp only[ho,hx,hy];simp[go_sem]
theorem Yv (t:TypeId)(x y:Operand)(u:TypeId)(ho:o.op= .binOp .shr t x y u)(n s r:Nat)(hx:ρ x= .int .u64 n)(hy:ρ y= .int .u64 s)(hs:s<64)(hr:n/2^s=r)(w:World):
  (execOp ρ o).run P w= .ok (.value (.int .u64 (r:Int))) w:=by
 subst hr;unfold execOp;simp only[ho,hx,hy];simp[go_sem]
theorem UF (t:TypeId)(x y:Operand)(u:TypeId)(ho:o.op= .binOp .shl t x y u)(n s r:Nat)(hx:ρ x= .int .u64 n)(hy:ρ y= .int .u64 s)(hs:s<64)(hr:n*2^s%18446744073709551616=r)(w:World):
  (execOp ρ o).run P w= .ok (.value (.int .u64 (r:Int))) w:=by
 subst hr;unfold execOp;simp only[ho,hx,hy];simp[go_sem,P_]
theorem SO (t:TypeId)(x y:Operand)(u:TypeId)(ho:o.op= .binOp .and t x y u)(n m r:Int)(hx:ρ x= .int .u64 n)(hy:ρ y= .int .u64 m)(hr:bits .and .u64 n m=r)(w:World):
  (execOp ρ o).run P w= .ok (.value (.int .u64 r)) w:=by
 subst hr;unfold execOp;simp only[ho,hx,hy];simp[go_sem]
theorem KC (t:TypeId)(x y:Operand)(u:TypeId)(ho:o.op= .binOp .or t x y u)(n m r:Int)(hx:ρ x= .int .u64 n)(hy:ρ y= .int .u64 m)(hr:bits .or .u64 n m=r)(w:World):
  (execOp ρ o).run P w= .ok (.value (.int .u64 r)) w:=by
 subst hr;unfold execOp;simp only[ho,hx,hy];simp[go_sem]
theorem SP (t:TypeId)(x y:Operand)(u:TypeId)(ho:o.op= .binOp .sub t x y u)(n m:Nat)(r:Nat)(hx:ρ x= .int .u64 n)(hy:ρ y= .int .u64 m)(hm:m<=n)(hn:n<18446744073709551616)(hr:n-m=r)(w:World):
  (execOp ρ o).run P w= .ok (.value (.int .u64 (r:Int))) w:=by
 subst hr;unfold execOp;simp only[ho,hx,hy];simp[go_sem];rw[P_];omega
theorem MJ (t:TypeId)(x y:Operand)(u:TypeId)(ho:o.op= .binOp .mul t x y u)(n m r:Nat)(hx:ρ x= .int .u64 n)(hy:ρ y= .int .u64 m)(hr:n*m=r)(hl:r<18446744073709551616)(w:World):
  (execOp ρ o).run P w= .ok (.value (.int .u64 (r:Int))) w:=by
 subst hr;unfold execOp;simp only[ho,hx,hy];simp[go_sem];rw[<-cJ0,P_];omega
theorem MK (t:TypeId)(x y:Operand)(u:TypeId)(ho:o.op= .binOp .quo t x y u)(n m r:Nat)(hx:ρ x= .int .u64 n)(hy:ρ y= .int .u64 m)(hm:0<m)(hn:n<18446744073709551616)(hr:n/m=r)(w:World):
  (execOp ρ o).run P w= .ok (.value (.int .u64 (r:Int))) w:=by
 have hm0: ¬m=0:=by omega
 have h1:n/m<18446744073709551616:=T_ (bP0 _ _) hn;subst hr;unfold execOp;simp only[ho,hx,hy];simp[go_sem,hm0];rw[show(n:Int)/(m:Int)=((n/m:Nat):Int) by simp,P_];generalize n/m=q at*;omega
end
theorem QF {o:Oper}{ρ:Operand->Value}(x:Operand)(ho:o.op= .convert 3 42 x)(n:Nat)(hx:ρ x= .int .i64 n)(h:n<9223372036854775808)(w:World):
  (execOp ρ o).run prog w= .ok (.value (.int .u64 n)) w:=by
 have u1:=bS0;have u2:=underlying42;unfold execOp;simp only[ho,hx];simp[convert,V_ u1,V_ u2,go_sem];rw[P_];omega
theorem Vc {o:Oper}{ρ:Operand->Value}(x:Operand)(ho:o.op= .convert 3 55 x)(n:Nat)(hx:ρ x= .int .i64 n)(h:n<9223372036854775808)(w:World):
  (execOp ρ o).run prog w= .ok (.value (.int .u64 n)) w:=by
 have u1:=bS0;have u2:=dV0;unfold execOp;simp only[ho,hx];simp[convert,V_ u1,V_ u2,go_sem];rw[P_];omega
theorem P6 (x:Nat)(h:x<18446744073709551616):bitLen x<=64:=Ww x 64 h
theorem CI (x:Nat)(w:World)(h1:x<18446744073709551616):
  Calls prog 207 #[.int .u64 x] w fun e w'=>e= .returned (.int .i64 (64-bitLen x:Nat))/\Below w.heap.size w w':=by
 have hl:=P6 x h1;have hle:=fun w'=>Tv x w' h1
 clear h1;generalize bitLen x=L at*
 have hw:IntKind.i64.wrap (64-(L:Int))=((64-L:Nat):Int):=by rw[J_];omega
 go_enter func207,ntmps207
 go_wp2_with fail
 refine(hle _).mono ?_;rintro e w2 ⟨rfl,rfl⟩;go_wp2;go_ret;exact⟨rfl,H_ _ _⟩
theorem P7 (l y:Nat)(w:World)(hh:0<y):
  Calls prog 179 #[.int .u64 (0:Nat),.int .u64 l,.int .u64 y] w fun e w'=>e= .returned (.tuple #[.int .u64 (IntKind.u64.wrap ((l:Int).tdiv y)),.int .u64 ((l:Int).tmod y)])/\Below w.heap.size w w':=by
 have y0: ¬(y:Int)=0:=by omega
 have y1: ¬(y:Int)<=0:=by omega
 go_enter func179,ntmps179
 go_wp2_with fail
 go_region
 all_goals
  go_wp2;go_ret2;exact⟨rfl,(H_ _ _).drew⟩
set_option maxHeartbeats 4000000 in
theorem P8 (a b m s h l y h1s l1s v v0 x0 x1 Q P d U Q2 P2 d0 Z:Nat)(w:World)(ha:0<a)(ham:a<m)(hs0:0<s)(hs64:s<64)
  (hlz: ∀w',Calls prog 207 #[.int .u64 m] w' (Rt (.int .i64 s) w'))
  (eY:m*2^s%18446744073709551616=y)(eh1:a*2^s%18446744073709551616=h1s)(el1:b/2^(64-s)=l1s)(eH:bits .or .u64 (h1s:Int) (l1s:Int)=(h:Int))(eL:b*2^s%18446744073709551616=l)
  (hh:h<y)(hl:l<18446744073709551616)(hy:9223372036854775808<=y)(hy2:y<18446744073709551616)
  (ev:v=y/4294967296)(ev0:v0=y%4294967296)(ex1:x1=l/4294967296)(ex0:x0=l%4294967296)(eQ:Q=h/v)(eP:P=Q*v)(ed:d32 h x1 y=d)(eU:U=h*4294967296+x1-d*y)
  (eQ2:Q2=U/v)(eP2:P2=Q2*v)(ed0:d32 U x0 y=d0)(eZ:Z=U*4294967296+x0-d0*y):
  Calls prog 179 #[.int .u64 a,.int .u64 b,.int .u64 m] w fun e w'=>e= .returned (.tuple #[.int .u64 ((d:Int)*4294967296+d0),.int .u64 ((Z/2^s:Nat):Int)])/\Below w.heap.size w w':=by
 have G0:Hid (Gu h x1 y Q (h-P)):=by
  have:=U5 h x1 y (by omega) hy;rw[<-ev,<-eQ,<-eP]at this;exact this
 have hPle:P<=h:=by rw[eP,eQ];exact bW0 _ _
 have hPr:h-P<4294967296:=by
  have:=dW0 (a:=h) (b:=v) (by omega);rw[eP,eQ];omega
 have hQ:Q<8589934592:=UW h x1 y Q _ G0.out (by omega) hy;have hd1:=O8 h x1 y hh (by omega);have hv:2147483648<=v/\v<4294967296:=by omega
 have hv0:v0<4294967296:=by omega
 have hx1:x1<4294967296:=by omega
 have hx0:x0<4294967296:=by omega
 have td:(h:Int).tdiv (v:Int)=(Q:Int):=by rw[eQ];simp
 have tp:(Q:Int)*(v:Int)=(P:Int):=by rw[eP];simp
 have tv:(y:Int)/4294967296=(v:Int):=by rw[ev];simp
 have tv0:bits .and .u64 (y:Int) 4294967295=(v0:Int):=by rw[ev0];exact PQ y hy2
 have tx1:(l:Int)/4294967296=(x1:Int):=by rw[ex1];simp
 have tx0:bits .and .u64 (l:Int) 4294967295=(x0:Int):=by rw[ex0];exact PQ l hl
 have tU:IntKind.u64.wrap (IntKind.u64.wrap (IntKind.u64.wrap ((h:Int)*4294967296)+(x1:Int))-IntKind.u64.wrap ((d:Int)*(y:Int)))=(U:Int):=by rw[eU,<-ed];exact Rp h x1 y (by omega) hy2
 have hUy:U<y:=by rw[eU,<-ed];exact(Ro h x1 y (by omega)).2
 have hd0:=O8 U x0 y hUy hx0
 have hg0:d<=Q:=by have:=G0.out.le;rw[ed]at this;exact this
 have G2:Hid (Gu U x0 y Q2 (U-P2)):=by
  have:=U5 U x0 y hx0 hy;rw[<-ev,<-eQ2,<-eP2]at this;exact this
 have hP2:P2<=U:=by rw[eP2,eQ2];exact bW0 _ _
 have hPr2:U-P2<4294967296:=by
  have:=dW0 (a:=U) (b:=v) (by omega);rw[eP2,eQ2];omega
 have td2:(U:Int).tdiv (v:Int)=(Q2:Int):=by rw[eQ2];simp
 have tp2:(Q2:Int)*(v:Int)=(P2:Int):=by rw[eP2];simp
 have hQ2:Q2<8589934592:=UW U x0 y Q2 _ G2.out (by omega) hy
 have hg2:d0<=Q2:=by have:=G2.out.le;rw[ed0]at this;exact this
 have HD:Hid (d32 h x1 y=d):=ed;have HD0:Hid (d32 U x0 y=d0):=ed0;rw[ed]at hd1;rw[ed0]at hd0;have E:Hid (v=y/4294967296/\v0=y%4294967296):=⟨ev,ev0⟩
 have tZ:IntKind.u64.wrap (IntKind.u64.wrap (IntKind.u64.wrap ((U:Int)*4294967296)+(x0:Int))-IntKind.u64.wrap ((d0:Int)*(y:Int)))=(Z:Int):=by rw[eZ,<-HD0.out];exact Rp U x0 y (by omega) hy2
 have hPq:Q*v=P:=eP.symm;have y0: ¬(y:Int)=0:=by omega
 have y1: ¬(y:Int)<=h:=by omega
 have yv: ¬(v:Int)=0:=by omega
 have e9:y/2^32=v:=ev.symm;have e13:l/2^32=x1:=ex1.symm;have e15:h/v=Q:=eQ.symm
 go_enter func179,ntmps179
 iterate 2 go_step
 apply ZH [] [_,_] trivial a_ rfl;intro p;refine Ze (.int .u64 0) (fun _=>rfl) ?_;simp only[pv];refine Ze (.int .u64 0) (fun _=>rfl) ?_;simp only[pv];refine Zf ?_;intro vw1 hkw hrw hnew hdis;have sb:=k_b hkw;clear hkw hrw hnew hdis;iterate 4 go_step
 apply ZH [] [_,_] trivial a_ rfl;intro p;refine m_m ?_;simp only[pv];refine Ze _ (ZK .u64 _ _ _ _ rfl m 0 rfl rfl false (e_ (by omega))) ?_;simp only[pv];refine Zf ?_;intro vw2 hkw hrw hnew hdis;replace sb:=kk sb hkw;clear hkw hrw hnew hdis;iterate 8 go_step
 apply ZH [] [_,_,_] trivial a_ rfl;intro p;refine m_m ?_;refine m_m ?_;simp only[pv];refine Ze _ (MH _ _ _ _ rfl m a rfl rfl false (e_ (by omega))) ?_;simp only[pv];refine Zf ?_;intro vw3 hkw hrw hnew hdis;replace sb:=kk sb hkw;clear hkw hrw hnew hdis;iterate 8 go_step
 apply ZH [] [_,_] trivial a_ rfl;intro p;refine m_m ?_;simp only[pv];refine Ze _ (ZK .u64 _ _ _ _ rfl a 0 rfl rfl false (e_ (by omega))) ?_;simp only[pv];refine Zf ?_;intro vw4 hkw hrw hnew hdis;replace sb:=kk sb hkw;clear hkw hrw hnew hdis;iterate 7 go_step
 apply ZH [] [_,_,_,_] trivial a_ rfl;intro p;refine m_m ?_;simp only[pv];refine m_c 207 func207 #[.int .u64 m] hlz ?_;simp only[pv];refine Ze _ (QF _ rfl s rfl (by omega)) ?_;refine m_a ?_;simp only[pv];refine Zf ?_;intro vw5 hkw hrw hnew hdis;replace sb:=kk sb hkw;clear hkw hrw hnew hdis;iterate 3 go_step
 apply ZH [] [_,_,_,_] trivial a_ rfl;intro p;refine m_m ?_;refine m_m ?_;simp only[pv];refine Ze _ (UF _ _ _ _ rfl m s y rfl rfl hs64 eY) ?_;refine m_a ?_;simp only[pv];refine Zf ?_;intro vw6 hkw hrw hnew hdis;replace sb:=kk sb hkw;clear hkw hrw hnew hdis;iterate 3 go_step
 apply ZH [] [_,_,_] trivial a_ rfl;intro p;refine m_m ?_;simp only[pv];refine Ze _ (Yv _ _ _ _ rfl y 32 v rfl rfl (by decide) e9) ?_;refine m_a ?_;simp only[pv];refine Zf ?_;intro vw7 hkw hrw hnew hdis;replace sb:=kk sb hkw;clear hkw hrw hnew hdis;iterate 3 go_step
 apply ZH [] [_,_,_] trivial a_ rfl;intro p;refine m_m ?_;simp only[pv];refine Ze _ (SO _ _ _ _ rfl y 4294967295 v0 rfl rfl tv0) ?_;refine m_a ?_;simp only[pv];refine Zf ?_;intro vw8 hkw hrw hnew hdis;replace sb:=kk sb hkw;clear hkw hrw hnew hdis;iterate 3 go_step
 apply ZH [] [_,_,_,_,_,_,_,_,_] trivial a_ rfl;intro p;refine m_m ?_;refine m_m ?_;simp only[pv];refine Ze _ (UF _ _ _ _ rfl a s h1s rfl rfl hs64 eh1) ?_;refine m_m ?_;refine m_m ?_;simp only[pv];refine Ze _ (SP _ _ _ _ rfl 64 s (64-s) rfl rfl (by omega) (by decide) rfl) ?_;simp only[pv];refine Ze _ (Yv _ _ _ _ rfl b (64-s) l1s rfl rfl (by omega) el1) ?_;simp only[pv];refine Ze _ (KC _ _ _ _ rfl h1s l1s h rfl rfl eH) ?_;refine m_a ?_;simp only[pv];refine Zf ?_;intro vw9 hkw hrw hnew hdis;replace sb:=kk sb hkw;clear hkw hrw hnew hdis;iterate 3 go_step
 apply ZH [] [_,_,_,_] trivial a_ rfl;intro p;refine m_m ?_;refine m_m ?_;simp only[pv];refine Ze _ (UF _ _ _ _ rfl b s l rfl rfl hs64 eL) ?_;refine m_a ?_;simp only[pv];refine Zf ?_;intro vw10 hkw hrw hnew hdis;replace sb:=kk sb hkw;clear hkw hrw hnew hdis;iterate 3 go_step
 apply ZH [] [_,_,_] trivial a_ rfl;intro p;refine m_m ?_;simp only[pv];refine Ze _ (Yv _ _ _ _ rfl l 32 x1 rfl rfl (by decide) e13) ?_;refine m_a ?_;simp only[pv];refine Zf ?_;intro vw11 hkw hrw hnew hdis;replace sb:=kk sb hkw;clear hkw hrw hnew hdis;iterate 3 go_step
 apply ZH [] [_,_,_] trivial a_ rfl;intro p;refine m_m ?_;simp only[pv];refine Ze _ (SO _ _ _ _ rfl l 4294967295 x0 rfl rfl tx0) ?_;refine m_a ?_;simp only[pv];refine Zf ?_;intro vw12 hkw hrw hnew hdis;replace sb:=kk sb hkw;clear hkw hrw hnew hdis;iterate 3 go_step
 apply ZH [] [_,_,_,_] trivial a_ rfl;intro p;refine m_m ?_;refine m_m ?_;simp only[pv];refine Ze _ (MK _ _ _ _ rfl h v Q rfl rfl (by omega) (by omega) e15) ?_;refine m_a ?_;simp only[pv];refine Zf ?_;intro vw13 hkw hrw hnew hdis;replace sb:=kk sb hkw;clear hkw hrw hnew hdis;iterate 3 go_step
 apply ZH [] [_,_,_,_,_,_] trivial a_ rfl;intro p;refine m_m ?_;refine m_m ?_;refine m_m ?_;simp only[pv];refine Ze _ (MJ _ _ _ _ rfl Q v P rfl rfl hPq (by omega)) ?_;simp only[pv];refine Ze _ (SP _ _ _ _ rfl h P (h-P) rfl rfl hPle (by omega) rfl) ?_;refine m_a ?_;simp only[pv];refine Zf ?_;intro vw14 hkw hrw hnew hdis;replace sb:=kk sb hkw;clear hkw hrw hnew hdis
 -- the rows that stand: 
 clear hlz eY eh1 el1 eH eL ha ham hs0 hPq e9 e13 e15 ev ev0 ex1 ex0 eQ eP eU eQ2 eP2 ed ed0 eZ
 go_wp2_with fail
 go_loopg [15,16] (Q-d) (fun g s15 s16 wr=> ∃q r:Nat,q=d+g/\s15= .int .u64 q/\s16= .int .u64 r/\Gu h x1 y q r/\r<4294967296/\vw14=wr)
 case atStart=>
  exact⟨Q,h-P,by omega,rfl,rfl,G0.out,hPr,rfl⟩
 case round=>
  obtain⟨q,r,hq,rfl,rfl,hG,hr,rfl⟩:=hrel;have hq33:=UW h x1 y q r hG (by omega) hy;have tq:(q:Int)*(v0:Int)=((q*v0:Nat):Int):=by simp
  have hsm:q<4294967296->q*v0<18446744073709551616:=fun h1=>by
   have:q*v0<=4294967295*4294967295:=L_ (by omega) (by omega);omega
  have hstop:q*v0<=4294967296*r+x1->q=d:=fun h1=>by
   rw[E.out.2]at h1;rw[<-HD.out];exact WG h x1 y q r hG (by omega) h1
  have hmore:4294967296*r+x1<q*v0->d<q:=fun h1=>by
   rw[E.out.2]at h1;rw[<-HD.out];exact W9 h x1 y q r hG (by omega) h1
  have hnext:d<q->Gu h x1 y (q-1) (r+v):=fun h1=>by
   rw[<-HD.out]at h1;rw[E.out.1];exact Va h x1 y q r hG h1
  have hbrk:d<q->4294967296<=r+v->q-1=d:=fun h1 h2=>by
   rw[<-HD.out];exact Wl h x1 y _ _ (hnext h1) (by omega) h2
  generalize q*v0=pq at*
  cases gk with
  |zero=>
   obtain rfl:d=q:=by omega
   have hc: ¬4294967296*r+x1<pq:=fun h1=>by have:=hmore h1;omega
   have hsm':=hsm (by omega);have hc':(pq:Int)<=4294967296*r+x1:=by omega
   have hz: ¬(4294967296:Int)<=d:=by omega
   clear hc;clear hstop hmore hnext hbrk hsm hG hq
   go_wp2_with fail
   clear hc' hz hsm' tq hr hq33
   go_loopg [18,16] (Q2-d0) (fun g s18 s16 wr=> ∃q r:Nat,q=d0+g/\s18= .int .u64 q/\s16= .int .u64 r/\Gu U x0 y q r/\r<4294967296/\vw14=wr)
   case atStart=>
    refine⟨Q2,U-P2,by omega,rfl,?_,G2.out,hPr2,rfl⟩;rw[show((U-P2:Nat):Int)=(U:Int)-P2 by omega]
   case round=>
    obtain⟨q,r,hq,rfl,rfl,hG,hr,rfl⟩:=hrel;have hq33:=UW U x0 y q r hG (by omega) hy;have tq:(q:Int)*(v0:Int)=((q*v0:Nat):Int):=by simp
    have hsm:q<4294967296->q*v0<18446744073709551616:=fun h1=>by
     have:q*v0<=4294967295*4294967295:=L_ (by omega) (by omega);omega
    have hstop:q*v0<=4294967296*r+x0->q=d0:=fun h1=>by
     rw[E.out.2]at h1;rw[<-HD0.out];exact WG U x0 y q r hG (by omega) h1
    have hmore:4294967296*r+x0<q*v0->d0<q:=fun h1=>by
     rw[E.out.2]at h1;rw[<-HD0.out];exact W9 U x0 y q r hG (by omega) h1
    have hnext:d0<q->Gu U x0 y (q-1) (r+v):=fun h1=>by
     rw[<-HD0.out]at h1;rw[E.out.1];exact Va U x0 y q r hG h1
    have hbrk:d0<q->4294967296<=r+v->q-1=d0:=fun h1 h2=>by
     rw[<-HD0.out];exact Wl U x0 y _ _ (hnext h1) (by omega) h2
    generalize q*v0=pq at*
    cases gk with
    |zero=>
     obtain rfl:d0=q:=by omega
     have hc: ¬4294967296*r+x0<pq:=fun h1=>by have:=hmore h1;omega
     have hsm':=hsm (by omega);have hc':(pq:Int)<=4294967296*r+x0:=by omega
     have hz: ¬(4294967296:Int)<=d0:=by omega
     clear hc;clear hstop hmore hnext hbrk hsm hG hq
     go_wp2_with (first
      |refine Zy rfl (.int .u64 ((Z/2^s:Nat):Int)) (Yv _ _ _ _ rfl Z s _ rfl rfl hs64 rfl _) ?_)
     go_ret2;exact⟨rfl,sb⟩
    |succ g=>
     have hlt:d0<q:=by omega
     have hN:=hnext hlt;have hB:=hbrk hlt
     have hcond:4294967296<=q∨(q<4294967296/\4294967296*r+x0<pq):=by
      rcases aC0 q 4294967296 with h1|h1
      ·refine .inr ⟨h1,?_⟩;rcases aC0 (4294967296*r+x0) pq with h2|h2
       ·exact h2
       ·have:=hstop h2;omega
      ·exact .inl h1
     clear hstop hmore hnext hbrk hG;have HQ:Hid (q=d0+(g+1)):=hq;clear hq;rcases hcond with hbig|⟨hbig,hc⟩
     ·clear hsm;have hz:(4294967296:Int)<=q:=by omega
      clear hbig;by_cases hov:4294967296<=r+v
      ·obtain rfl:g=0:=by have:=hB hov;have:=HQ.out;omega
       have tqd:(q:Int)-1=(d0:Int):=by have:=HQ.out;omega
       have hw:(4294967296:Int)<=r+v:=by omega
       clear hB hN HQ hov
       go_wp2_with (first
        |refine Zy rfl (.int .u64 ((Z/2^s:Nat):Int)) (Yv _ _ _ _ rfl Z s _ rfl rfl hs64 rfl _) ?_)
       go_ret2;exact⟨rfl,sb⟩
      ·have hw: ¬(4294967296:Int)<=r+v:=by omega
       clear hB;go_wp2
       go_roundg g
       case measure=>omega
       case rel=>exact⟨q-1,r+v,by have:=HQ.out;omega,by go_num,by go_num,hN,by omega,rfl⟩
     ·have hsm':=hsm hbig;have hz: ¬(4294967296:Int)<=q:=by omega
      have hc':4294967296*(r:Int)+x0<pq:=by omega
      clear hsm hbig hc;by_cases hov:4294967296<=r+v
      ·obtain rfl:g=0:=by have:=hB hov;have:=HQ.out;omega
       have tqd:(q:Int)-1=(d0:Int):=by have:=HQ.out;omega
       have hw:(4294967296:Int)<=r+v:=by omega
       clear hB hN HQ hov
       go_wp2_with (first
        |refine Zy rfl (.int .u64 ((Z/2^s:Nat):Int)) (Yv _ _ _ _ rfl Z s _ rfl rfl hs64 rfl _) ?_)
       go_ret2;exact⟨rfl,sb⟩
      ·have hw: ¬(4294967296:Int)<=r+v:=by omega
       clear hB;go_wp2
       go_roundg g
       case measure=>omega
       case rel=>exact⟨q-1,r+v,by have:=HQ.out;omega,by go_num,by go_num,hN,by omega,rfl⟩
  |succ g=>
   have hlt:d<q:=by omega
   have hN:=hnext hlt;have hB:=hbrk hlt
   have hcond:4294967296<=q∨(q<4294967296/\4294967296*r+x1<pq):=by
    rcases aC0 q 4294967296 with h1|h1
    ·refine .inr ⟨h1,?_⟩;rcases aC0 (4294967296*r+x1) pq with h2|h2
     ·exact h2
     ·have:=hstop h2;omega
    ·exact .inl h1
   clear hstop hmore hnext hbrk hG;have HQ:Hid (q=d+(g+1)):=hq;clear hq;rcases hcond with hbig|⟨hbig,hc⟩
   ·clear hsm;have hz:(4294967296:Int)<=q:=by omega
    clear hbig;by_cases hov:4294967296<=r+v
    ·obtain rfl:g=0:=by have:=hB hov;have:=HQ.out;omega
     have tqd:(q:Int)-1=(d:Int):=by have:=HQ.out;omega
     have hw:(4294967296:Int)<=r+v:=by omega
     clear hB hN HQ hov
     go_wp2_with fail
     clear hw hz tqd hr tq hq33
     go_loopg [18,16] (Q2-d0) (fun g s18 s16 wr=> ∃q r:Nat,q=d0+g/\s18= .int .u64 q/\s16= .int .u64 r/\Gu U x0 y q r/\r<4294967296/\vw14=wr)
     case atStart=>
      refine⟨Q2,U-P2,by omega,rfl,?_,G2.out,hPr2,rfl⟩;rw[show((U-P2:Nat):Int)=(U:Int)-P2 by omega]
     case round=>
      obtain⟨q,r,hq,rfl,rfl,hG,hr,rfl⟩:=hrel;have hq33:=UW U x0 y q r hG (by omega) hy;have tq:(q:Int)*(v0:Int)=((q*v0:Nat):Int):=by simp
      have hsm:q<4294967296->q*v0<18446744073709551616:=fun h1=>by
       have:q*v0<=4294967295*4294967295:=L_ (by omega) (by omega);omega
      have hstop:q*v0<=4294967296*r+x0->q=d0:=fun h1=>by
       rw[E.out.2]at h1;rw[<-HD0.out];exact WG U x0 y q r hG (by omega) h1
      have hmore:4294967296*r+x0<q*v0->d0<q:=fun h1=>by
       rw[E.out.2]at h1;rw[<-HD0.out];exact W9 U x0 y q r hG (by omega) h1
      have hnext:d0<q->Gu U x0 y (q-1) (r+v):=fun h1=>by
       rw[<-HD0.out]at h1;rw[E.out.1];exact Va U x0 y q r hG h1
      have hbrk:d0<q->4294967296<=r+v->q-1=d0:=fun h1 h2=>by
       rw[<-HD0.out];exact Wl U x0 y _ _ (hnext h1) (by omega) h2
      generalize q*v0=pq at*
      cases gk with
      |zero=>
       obtain rfl:d0=q:=by omega
       have hc: ¬4294967296*r+x0<pq:=fun h1=>by have:=hmore h1;omega
       have hsm':=hsm (by omega);have hc':(pq:Int)<=4294967296*r+x0:=by omega
       have hz: ¬(4294967296:Int)<=d0:=by omega
       clear hc;clear hstop hmore hnext hbrk hsm hG hq
       go_wp2_with (first
        |refine Zy rfl (.int .u64 ((Z/2^s:Nat):Int)) (Yv _ _ _ _ rfl Z s _ rfl rfl hs64 rfl _) ?_)
       go_ret2;exact⟨rfl,sb⟩
      |succ g=>
       have hlt:d0<q:=by omega
       have hN:=hnext hlt;have hB:=hbrk hlt
       have hcond:4294967296<=q∨(q<4294967296/\4294967296*r+x0<pq):=by
        rcases aC0 q 4294967296 with h1|h1
        ·refine .inr ⟨h1,?_⟩;rcases aC0 (4294967296*r+x0) pq with h2|h2
         ·exact h2
         ·have:=hstop h2;omega
        ·exact .inl h1
       clear hstop hmore hnext hbrk hG;have HQ:Hid (q=d0+(g+1)):=hq;clear hq;rcases hcond with hbig|⟨hbig,hc⟩
       ·clear hsm;have hz:(4294967296:Int)<=q:=by omega
        clear hbig;by_cases hov:4294967296<=r+v
        ·obtain rfl:g=0:=by have:=hB hov;have:=HQ.out;omega
         have tqd:(q:Int)-1=(d0:Int):=by have:=HQ.out;omega
         have hw:(4294967296:Int)<=r+v:=by omega
         clear hB hN HQ hov
         go_wp2_with (first
          |refine Zy rfl (.int .u64 ((Z/2^s:Nat):Int)) (Yv _ _ _ _ rfl Z s _ rfl rfl hs64 rfl _) ?_)
         go_ret2;exact⟨rfl,sb⟩
        ·have hw: ¬(4294967296:Int)<=r+v:=by omega
         clear hB;go_wp2
         go_roundg g
         case measure=>omega
         case rel=>exact⟨q-1,r+v,by have:=HQ.out;omega,by go_num,by go_num,hN,by omega,rfl⟩
       ·have hsm':=hsm hbig;have hz: ¬(4294967296:Int)<=q:=by omega
        have hc':4294967296*(r:Int)+x0<pq:=by omega
        clear hsm hbig hc;by_cases hov:4294967296<=r+v
        ·obtain rfl:g=0:=by have:=hB hov;have:=HQ.out;omega
         have tqd:(q:Int)-1=(d0:Int):=by have:=HQ.out;omega
         have hw:(4294967296:Int)<=r+v:=by omega
         clear hB hN HQ hov
         go_wp2_with (first
          |refine Zy rfl (.int .u64 ((Z/2^s:Nat):Int)) (Yv _ _ _ _ rfl Z s _ rfl rfl hs64 rfl _) ?_)
         go_ret2;exact⟨rfl,sb⟩
        ·have hw: ¬(4294967296:Int)<=r+v:=by omega
         clear hB;go_wp2
         go_roundg g
         case measure=>omega
         case rel=>exact⟨q-1,r+v,by have:=HQ.out;omega,by go_num,by go_num,hN,by omega,rfl⟩
    ·have hw: ¬(4294967296:Int)<=r+v:=by omega
     clear hB;go_wp2
     go_roundg g
     case measure=>omega
     case rel=>exact⟨q-1,r+v,by have:=HQ.out;omega,by go_num,by go_num,hN,by omega,rfl⟩
   ·have hsm':=hsm hbig;have hz: ¬(4294967296:Int)<=q:=by omega
    have hc':4294967296*(r:Int)+x1<pq:=by omega
    clear hsm hbig hc;by_cases hov:4294967296<=r+v
    ·obtain rfl:g=0:=by have:=hB hov;have:=HQ.out;omega
     have tqd:(q:Int)-1=(d:Int):=by have:=HQ.out;omega
     have hw:(4294967296:Int)<=r+v:=by omega
     clear hB hN HQ hov
     go_wp2_with fail
     clear hw hz tqd hr tq hq33 hc' hsm'
     go_loopg [18,16] (Q2-d0) (fun g s18 s16 wr=> ∃q r:Nat,q=d0+g/\s18= .int .u64 q/\s16= .int .u64 r/\Gu U x0 y q r/\r<4294967296/\vw14=wr)
     case atStart=>
      refine⟨Q2,U-P2,by omega,rfl,?_,G2.out,hPr2,rfl⟩;rw[show((U-P2:Nat):Int)=(U:Int)-P2 by omega]
     case round=>
      obtain⟨q,r,hq,rfl,rfl,hG,hr,rfl⟩:=hrel;have hq33:=UW U x0 y q r hG (by omega) hy;have tq:(q:Int)*(v0:Int)=((q*v0:Nat):Int):=by simp
      have hsm:q<4294967296->q*v0<18446744073709551616:=fun h1=>by
       have:q*v0<=4294967295*4294967295:=L_ (by omega) (by omega);omega
      have hstop:q*v0<=4294967296*r+x0->q=d0:=fun h1=>by
       rw[E.out.2]at h1;rw[<-HD0.out];exact WG U x0 y q r hG (by omega) h1
      have hmore:4294967296*r+x0<q*v0->d0<q:=fun h1=>by
       rw[E.out.2]at h1;rw[<-HD0.out];exact W9 U x0 y q r hG (by omega) h1
      have hnext:d0<q->Gu U x0 y (q-1) (r+v):=fun h1=>by
       rw[<-HD0.out]at h1;rw[E.out.1];exact Va U x0 y q r hG h1
      have hbrk:d0<q->4294967296<=r+v->q-1=d0:=fun h1 h2=>by
       rw[<-HD0.out];exact Wl U x0 y _ _ (hnext h1) (by omega) h2
      generalize q*v0=pq at*
      cases gk with
      |zero=>
       obtain rfl:d0=q:=by omega
       have hc: ¬4294967296*r+x0<pq:=fun h1=>by have:=hmore h1;omega
       have hsm':=hsm (by omega);have hc':(pq:Int)<=4294967296*r+x0:=by omega
       have hz: ¬(4294967296:Int)<=d0:=by omega
       clear hc;clear hstop hmore hnext hbrk hsm hG hq
       go_wp2_with (first
        |refine Zy rfl (.int .u64 ((Z/2^s:Nat):Int)) (Yv _ _ _ _ rfl Z s _ rfl rfl hs64 rfl _) ?_)
       go_ret2;exact⟨rfl,sb⟩
      |succ g=>
       have hlt:d0<q:=by omega
       have hN:=hnext hlt;have hB:=hbrk hlt
       have hcond:4294967296<=q∨(q<4294967296/\4294967296*r+x0<pq):=by
        rcases aC0 q 4294967296 with h1|h1
        ·refine .inr ⟨h1,?_⟩;rcases aC0 (4294967296*r+x0) pq with h2|h2
         ·exact h2
         ·have:=hstop h2;omega
        ·exact .inl h1
       clear hstop hmore hnext hbrk hG;have HQ:Hid (q=d0+(g+1)):=hq;clear hq;rcases hcond with hbig|⟨hbig,hc⟩
       ·clear hsm;have hz:(4294967296:Int)<=q:=by omega
        clear hbig;by_cases hov:4294967296<=r+v
        ·obtain rfl:g=0:=by have:=hB hov;have:=HQ.out;omega
         have tqd:(q:Int)-1=(d0:Int):=by have:=HQ.out;omega
         have hw:(4294967296:Int)<=r+v:=by omega
         clear hB hN HQ hov
         go_wp2_with (first
          |refine Zy rfl (.int .u64 ((Z/2^s:Nat):Int)) (Yv _ _ _ _ rfl Z s _ rfl rfl hs64 rfl _) ?_)
         go_ret2;exact⟨rfl,sb⟩
        ·have hw: ¬(4294967296:Int)<=r+v:=by omega
         clear hB;go_wp2
         go_roundg g
         case measure=>omega
         case rel=>exact⟨q-1,r+v,by have:=HQ.out;omega,by go_num,by go_num,hN,by omega,rfl⟩
       ·have hsm':=hsm hbig;have hz: ¬(4294967296:Int)<=q:=by omega
        have hc':4294967296*(r:Int)+x0<pq:=by omega
        clear hsm hbig hc;by_cases hov:4294967296<=r+v
        ·obtain rfl:g=0:=by have:=hB hov;have:=HQ.out;omega
         have tqd:(q:Int)-1=(d0:Int):=by have:=HQ.out;omega
         have hw:(4294967296:Int)<=r+v:=by omega
         clear hB hN HQ hov
         go_wp2_with (first
          |refine Zy rfl (.int .u64 ((Z/2^s:Nat):Int)) (Yv _ _ _ _ rfl Z s _ rfl rfl hs64 rfl _) ?_)
         go_ret2;exact⟨rfl,sb⟩
        ·have hw: ¬(4294967296:Int)<=r+v:=by omega
         clear hB;go_wp2
         go_roundg g
         case measure=>omega
         case rel=>exact⟨q-1,r+v,by have:=HQ.out;omega,by go_num,by go_num,hN,by omega,rfl⟩
    ·have hw: ¬(4294967296:Int)<=r+v:=by omega
     clear hB;go_wp2
     go_roundg g
     case measure=>omega
     case rel=>exact⟨q-1,r+v,by have:=HQ.out;omega,by go_num,by go_num,hN,by omega,rfl⟩
theorem Gf (a b s c:Nat)(hc:c=2^s)(hb:b<18446744073709551616)(hl:b/2^(64-s)<c)(ha:a*c<18446744073709551616):bits .or .u64 ((a*c:Nat):Int) ((b/2^(64-s):Nat):Int)=((a*c+b/2^(64-s):Nat):Int):=by
 rw[gY0 _ _ ha (T_ (bP0 _ _) hb)];subst hc;rw[show a*2^s=2^s*a by rw[t_],fF0 hl]
theorem KD (X z B Y:Nat):(X%Y*B+z)%Y=(X*B+z)%Y:=by rw[eR0,fD0,<-eR0]
theorem Gg (H L Y:Nat):(H*4294967296+L/4294967296-d32 H (L/4294967296) Y*Y)*4294967296+L%4294967296-d32 (H*4294967296+L/4294967296-d32 H (L/4294967296) Y*Y) (L%4294967296) Y*Y=(H*18446744073709551616+L)%Y:=by
 have e:H*18446744073709551616+L=(H*4294967296+L/4294967296)*4294967296+L%4294967296:=by omega
 rw[e];unfold d32;rw[<-Nat.mod_eq_sub_div_mul,<-Nat.mod_eq_sub_div_mul];exact KD _ _ _ _
theorem P9 (a b s:Nat)(hs:s<64):(a*2^s+b/2^(64-s))*18446744073709551616+b*2^s%18446744073709551616=(a*18446744073709551616+b)*2^s:=by
 have e:(18446744073709551616:Nat)=2^(64-s)*2^s:=by rw[<-Z_,show 64-s+s=64 by omega]
 have h1:=I_ (b*2^s) 18446744073709551616
 have h2:b*2^s/18446744073709551616=b/2^(64-s):=by
  rw[e];exact gR0 b (2^(64-s)) (w_ s)
 rw[h2]at h1;generalize b/2^(64-s)=q at*;rw[aV0,aV0,x_,t_ (2^s) 18446744073709551616,<-x_,iJ0,t_ q,h1]
theorem ML (a b m:Nat)(w:World)(ham:a<m)(hm:m<9223372036854775808)(hb:b<18446744073709551616):
  Calls prog 179 #[.int .u64 a,.int .u64 b,.int .u64 m] w fun e w'=>(∃q:Int,e= .returned (.tuple #[.int .u64 q,.int .u64 ((a*18446744073709551616+b)%m:Nat)]))/\Below w.heap.size w w':=by
 rcases aK0 a with rfl|ha
 ·refine(P7 b m w ham).mono ?_;rintro e w' ⟨rfl,hw⟩;exact⟨⟨IntKind.u64.wrap ((b:Int).tdiv m),by rw[cD0,B_,show((b:Int).tmod (m:Int))=((b%m:Nat):Int) by rw[dS0 (Int.natCast_nonneg b)];simp]⟩,hw⟩
 have hbl:=Ww m 63 hm
 have hbp:0<bitLen m:=by
  rcases aK0 (bitLen m)with h|h
  ·have:=Vb m 0 (by omega);omega
  ·exact h
 have hup:=Vb m (bitLen m) (c_ _)
 have hlo:2^(bitLen m-1)<=m:=by
  apply eW0;intro h;have:=Ww m _ h;omega
 have hlz:=fun w'=>CI m w' (by omega)
 obtain⟨s,hs⟩: ∃s,s=64-bitLen m:=⟨_,rfl⟩
 rw[<-hs]at hlz;have hs0:0<s:=by omega
 have hs64:s<64:=by omega
 have e64:(18446744073709551616:Nat)=2^bitLen m*2^s:=by rw[<-Z_,show bitLen m+s=64 by omega]
 have e63:(9223372036854775808:Nat)=2^(bitLen m-1)*2^s:=by rw[<-Z_,show bitLen m-1+s=63 by omega]
 have p0:=w_ s
 have hY2:m*2^s<18446744073709551616:=by rw[e64];exact(Nat.mul_lt_mul_right p0).2 hup
 have hY:9223372036854775808<=m*2^s:=by rw[e63];exact z_ _ hlo
 have hA2:a*2^s<m*2^s:=(Nat.mul_lt_mul_right p0).2 ham
 have hbq:b/2^(64-s)<2^s:=by
  rw[aX0 (w_ _),<-Z_,show s+(64-s)=64 by omega];exact hb
 have hH:a*2^s+b/2^(64-s)<m*2^s:=by
  have:(a+1)*2^s<=m*2^s:=z_ _ ham;rw[aV0,cM0]at this;omega
 have hL:b*2^s%18446744073709551616<18446744073709551616:=m_ _ (by decide)
 have h:=P8 a b m s (a*2^s+b/2^(64-s)) (b*2^s%18446744073709551616) (m*2^s) (a*2^s) (b/2^(64-s)) _ _ _ _ _ _ _ _ _ _ _ _ w ha ham hs0 hs64 hlz (g_ hY2) (g_ (by omega)) rfl
  (Gf a b s _ rfl hb hbq (by omega)) rfl hH hL hY hY2 rfl rfl rfl rfl rfl rfl rfl rfl rfl rfl rfl rfl
 have hmath:=P9 a b s hs64;generalize a*2^s+b/2^(64-s)=H at*;generalize b*2^s%18446744073709551616=L at*;have key:=Gg H L (m*2^s);rw[hmath,Nat.mul_mod_mul_right]at key;rw[key,fY0 _ p0]at h;exact h.mono fun e w' ⟨he,hw⟩=>⟨⟨_,he⟩,hw⟩
theorem ZX {P:Program}{o:Oper}{ρ:Operand->Value}(k:IntKind)(t:TypeId)(x y:Operand)(u:TypeId)(ho:o.op= .binOp .neq t x y u)(n m:Int)(hx:ρ x= .int k n)(hy:ρ y= .int k m)(b:Bool)(hb:(!decide (n=m))=b)(w:World):
  (execOp ρ o).run P w= .ok (.value (.bool b)) w:=by
 subst hb;unfold execOp;simp only[ho,hx,hy];simp[eqGuard,go_sem];rfl
theorem Yg {P:Program}{o:Oper}{ρ:Operand->Value}(t:TypeId)(x y:Operand)(u:TypeId)(ho:o.op= .binOp .gtr t x y u)(n m:Int)(hx:ρ x= .int .i64 n)(hy:ρ y= .int .i64 m)(b:Bool)(hb:decide (m<n)=b)(w:World):
  (execOp ρ o).run P w= .ok (.value (.bool b)) w:=by
 subst hb;unfold execOp;simp only[ho,hx,hy];simp[go_sem]
theorem UY {P:Program}{o:Oper}{ρ:Operand->Value}{t:TypeId}{x y:Operand}{u:TypeId}(n m:Int)(h: ¬m<n:=by omega)(ho:o.op= .binOp .gtr t x y u:=by exact rfl)(hx:ρ x= .int .i64 n:=by exact rfl)(hy:ρ y= .int .i64 m:=by exact rfl): ∀w,(execOp ρ o).run P w= .ok (.value (.bool false)) w:=Yg t x y u ho n m hx hy false (e_ h)
theorem Gh {P:Program}{o:Oper}{ρ:Operand->Value}{t:TypeId}{x y:Operand}{u:TypeId}(n m:Int)(h:m<n:=by omega)(ho:o.op= .binOp .gtr t x y u:=by exact rfl)(hx:ρ x= .int .i64 n:=by exact rfl)(hy:ρ y= .int .i64 m:=by exact rfl): ∀w,(execOp ρ o).run P w= .ok (.value (.bool true)) w:=Yg t x y u ho n m hx hy true (d_ h)
theorem Vd:prog.underlying 22=some (.slice (prog.elem 22)):=by kernel_rfl
theorem Gi (M:Nat)(b:Nat->Nat):kfU M b (fun _=>0)=fun _=>0:=by
 funext i
 exact i_ fun h=>by
  have h2:i%16<=0:=h.2;omega
theorem Xi {x a b c:Nat}(h:x∉[a,b,c]):x∉[a,b]:=fun e=>h (by simp at e ⊢;omega)
structure PrF (hs g0 g6 g9 gr gv gq gp gu gw:Nat):Prop where
 n0:g0∉[gu,gq,g9]
 nr:gr∉[gu,gq,g9]
 nv:gv∉[gu,gq,g9]
 np:gp∉[gu,gq,g9]
 nw:gw∉[gu,gq,g9]
 n6:g6∉[gu,gq,g9]
 u9:gu∉[g9]
 q9:gq∉[g9]
 uq:gu≠gq
 nd:[gu,gq,g9].Nodup
 new: ∀x∈[gu,gq,g9],hs<=x
 l0:g0<hs
 l6:hs<=g6
theorem prF (hs g0 g6 g9 s:Nat)(h0:g0<hs)(h6:hs<=g6)(h7:g6<s)(h9:s+1+1+1+1+1<g9):PrF hs g0 g6 g9 s (s+1) (s+1+1) (s+1+1+1) (s+1+1+1+1) (s+1+1+1+1+1):=by
 refine⟨?_,?_,?_,?_,?_,?_,?_,?_,?_,?_,?_,h0,h6⟩<;>simp<;>omega
theorem VR {x a b c:Nat}(h:x∉[a,b,c]):x∉[c]:=fun e=>h (K_ _ (K_ _ e))
structure PrH (wr w:World)(n M:Nat)(b u:Nat->Nat)(P g0 g6 g9 gr gv gq gp gu gw:Nat)(bv:Value):Prop where
 ring:Row wr g0 (rgC M (miL M) (WX M) (sqL M)) 160
 r:Row wr gr #[.pointer (some ⟨g0,0,none⟩)] 68
 bb:Row wr gv #[bv] 22
 rk:Row wr gq (nsC (16*n) (kfU M b u)) 226
 kk:Row wr gp #[.slice (some ⟨gq,0,none⟩) n n] 225
 ru:Row wr gu (isC n u) 3
 uu:Row wr gw #[.slice (some ⟨gu,0,none⟩) n n] 50
 prod:Row wr g9 (Zc P) 57
 res:Row wr g6 (Zc 0) 57
 below:Below w.heap.size w wr
 ule: ∀k,u k<=15
section
variable {wr w w2:World}{n M:Nat}{b u u':Nat->Nat}{P P' g0 g6 g9 gr gv gq gp gu gw:Nat}{bv:Value}
theorem PrH.on (h:PrH wr w n M b u P g0 g6 g9 gr gv gq gp gu gw bv)(k:Kept [] wr w2):PrH w2 w n M b u P g0 g6 g9 gr gv gq gp gu gw bv:=
 ⟨k.row h.ring (by simp),k.row h.r (by simp),k.row h.bb (by simp),k.row h.rk (by simp),k.row h.kk (by simp),k.row h.ru (by simp),k.row h.uu (by simp),k.row h.prod (by simp),k.row h.res (by simp),h.below.trans (k.below w.heap.size h.below.size (by simp)),h.ule⟩
theorem PrH.put (h:PrH wr w n M b u P g0 g6 g9 gr gv gq gp gu gw bv)(F:PrF w.heap.size g0 g6 g9 gr gv gq gp gu gw)(k:Kept [g9] wr w2)(r:Row w2 g9 (Zc P') 57):PrH w2 w n M b u P' g0 g6 g9 gr gv gq gp gu gw bv:=
 ⟨k.row h.ring (VR F.n0),k.row h.r (VR F.nr),k.row h.bb (VR F.nv),k.row h.rk F.q9,k.row h.kk (VR F.np),k.row h.ru F.u9,k.row h.uu (VR F.nw),r,k.row h.res (VR F.n6),h.below.trans (k.below w.heap.size h.below.size fun x hx=>F.new x (K_ _ (K_ _ hx))),h.ule⟩
theorem PrH.pow (h:PrH wr w n M b u P g0 g6 g9 gr gv gq gp gu gw bv)(F:PrF w.heap.size g0 g6 g9 gr gv gq gp gu gw)(k:Kept [gu,gq,g9] wr w2)(zu:Row w2 gu (isC n u') 3)(zk:Row w2 gq (nsC (16*n) (kfU M b u')) 226)(r:Row w2 g9 (Zc P') 57)(hu: ∀k,u' k<=15):PrH w2 w n M b u' P' g0 g6 g9 gr gv gq gp gu gw bv:=
 ⟨k.row h.ring F.n0,k.row h.r F.nr,k.row h.bb F.nv,zk,k.row h.kk F.np,zu,k.row h.uu F.nw,r,k.row h.res F.n6,h.below.trans (k.below w.heap.size h.below.size F.new),hu⟩
end
structure PrQ (n M:Nat)(b e:Nat->Nat)(ab ae:Option Addr)(gb ob ge oe:Nat)(bcs ecs:Array Value)(tb te:TypeId)(w:World):Prop where
 n64:n<=64
 m:M<2^256
 odd:M%2=1
 two:2<=M
 bases:NatsAt w ab n b gb ob bcs tb
 exps:NatsAt w ae n e ge oe ecs te
set_option maxHeartbeats 4000000 in
theorem Oa (n M:Nat)(b e:Nat->Nat)(ab ae:Option Addr)(cb ce gb ob ge oe:Nat)(bcs ecs:Array Value)(tb te:TypeId)(g0:Nat)(w:World)(hQ:PrQ n M b e ab ae gb ob ge oe bcs ecs tb te w)
  (r0:Row w g0 (rgC M (miL M) (WX M) (sqL M)) 160):
  Calls prog 116 #[.pointer (some ⟨g0,0,none⟩),.slice ab n cb,.slice ae n ce] w fun r w'=>r= .returned (.tuple #[.agg (Zc (prd (fun i=>b i^e i) n%M)),.int .i64 0])/\Below w.heap.size w w':=by
 have hn:=hQ.n64;have hgi:=fun w'=>Wv M (miL M) (WX M) (sqL M) g0 w' (by have:=hQ.two;omega) hQ.m
 have hpw:=fun w'=>Mz n g0 cb ab w' hn
 have hco:=fun w' (hb:Below w.heap.size w w')=>Kr n ce ae e ge oe ecs te w' hn (hQ.exps.below hb)
 have l0:=r0.lt
 go_enter func116,ntmps116
 iterate 2 go_step
 apply Za [] [_,_] trivial a_
 ·intro p;refine m_n ?_;simp only[pv];refine Ze (.int .i64 0) (fun _=>rfl) ?_;simp only[pv];refine Zf ?_;intro w2 hkw hrw hnew hdis;have n6:=hnew 0 rfl;have zr6:Row w2 (p 0) (Zc 0) 57:=hrw 1 (57,Zc 0) rfl;replace r0:=hkw.ro r0;have sb:=k_b hkw;have b6:w.heap.size<=p 0:=n6;clear hkw hrw hnew hdis n6;generalize p 0=g6 at*;have r6:=zr6;clear zr6;iterate 4 go_step
  refine ZB ?_;refine q_m ?_;simp only[pv];refine q_k 158 hY0 #[.pointer (some ⟨g0,0,none⟩)] (fun w' hb=>hgi w' (r0.belowAll hb)) ?_;simp only[pv];refine q_v _ (Zz _ _ rfl true rfl) ?_;refine q_m ?_;refine q_m ?_;simp only[pv];refine q_v _ (n_l ab n cb Vd) ?_;refine q_m ?_;simp only[pv];refine q_v _ (n_l ae n ce Vd) ?_;simp only[pv];refine q_v _ (ZX .i64 _ _ _ _ rfl n n rfl rfl false (by simp)) ?_;refine q_p false (.bool false) ?_;refine q_m ?_;refine q_m ?_;simp only[pv];refine q_v _ (n_l ab n cb Vd) ?_;simp only[pv];refine q_v _ (Yg _ _ _ _ rfl n 64 rfl rfl false (by simp;omega)) ?_;refine q_p false (.bool false) ?_;simp only[pv];refine ZR ?_;intro w3 hqb;replace r0:=r0.belowAll hqb;replace r6:=r6.belowAll hqb;replace sb:=b_o sb hqb;clear hqb;iterate 7 go_step
  go_wp2_with fail
  refine(hpw _).mono ?_;rintro e' w4 ⟨rfl,hN,hb4⟩;generalize hs4:w3.heap.size=s at*;have l6:=r6.lt;rw[hs4]at l6;have b6':=sb.size;replace r0:=r0.belowAll (by rw[hs4];exact hb4);replace r6:=r6.belowAll (by rw[hs4];exact hb4);replace sb:=sb.trans (hb4.mono (by rw[<-hs4];exact b6'))
  dsimp only
  iterate 8 go_step
  apply Za [] [_,_,_,_,_,_] trivial a_
  ·intro p;refine m_m ?_;simp only[pv];refine Ze (.pointer (some ⟨g0,0,none⟩)) (Yf _ rfl g0 0 rfl) ?_;simp only[pv];refine Ze _ (Zh 160 _ 2 rfl g0 0 rfl _ dA0 _ rfl 3 bJ0) ?_;simp only[pv];refine Xw 57 _ rfl _ (5) rfl r0 (by simp<;>omega) (Zc (WX M)) (AZ M _ _ _) _ b_ rfl Zd ?_;simp only[pv];refine m_n ?_;simp only[pv];refine m_p 9 (WX M) ?_;simp only[Act.put];refine Zf ?_;intro w5 hkw hrw hnew _;have r9:Row w5 (p 4) (Zc (WX M)) 57:=hrw 9 (57,Zc (WX M)) rfl;have n9:=hnew 4 rfl;have l9:=l_l hN.u.lt n9;have HF:Hid (PrF w.heap.size g0 g6 (p 4) s (s+1) (s+1+1) (s+1+1+1) (s+1+1+1+1) (s+1+1+1+1+1)):=prF _ _ _ _ s l0 b6 l6 l9
   have hT:PrH w5 w n M b (fun _=>0) (WX M) g0 g6 (p 4) s (s+1) (s+1+1) (s+1+1+1) (s+1+1+1+1) (s+1+1+1+1+1) (.slice ab n cb):=by
    refine⟨hkw.row r0 (by simp),hkw.row hN.r (by simp),hkw.row hN.b (by simp),?_,hkw.row hN.k (by simp),hkw.row hN.ru (by simp),hkw.row hN.u (by simp),r9,hkw.row r6 (by simp),sb.trans (hkw.below w.heap.size sb.size (by simp)),fun _=>eU0 _⟩;rw[Gi];exact hkw.row hN.rk (by simp)
   clear hkw hrw hnew r9 n9 l9 hN hb4 hs4 r0 r6 sb b6' l6 b6 l0 hpw hgi;generalize p 4=g9 at*;generalize s+1+1+1+1+1=gw at*;generalize s+1+1+1+1=gu at*;generalize s+1+1+1=gp at*;generalize s+1+1=gq at*;generalize s+1=gv at*;iterate 3 go_step
   apply Za [] [_,_,_] trivial a_
   ·intro p;refine m_m ?_;simp only[pv];refine m_k 160 func160 #[.slice ae n ce] (fun w' hk=>hco w' (hT.below.trans (hk.below w.heap.size hT.below.size (by simp)))) ?_;refine m_a ?_;simp only[pv];refine Zf ?_;intro w6 hkw _ _ _;replace hT:=hT.on hkw;clear hkw hco;have HC:Hid ((mxL e n+3)/4<=64/\ ∀i,i<n->e i<2^(4*((mxL e n+3)/4))):=⟨by have:=Kq e n hQ.exps.lt;omega,Kw e n⟩;have HQ:Hid (PrQ n M b e ab ae gb ob ge oe bcs ecs tb te w):=hQ;clear hQ;generalize (mxL e n+3)/4=c at*
    go_wp2_with fail
    go_loopg [40] c (fun g s40 wr=> ∃(t:Nat) (u:Nat->Nat),t+g=c/\s40= .int .i64 t/\PrH wr w n M b u (fm M (xo b e n c t)) g0 g6 g9 s gv gq gp gu gw (.slice ab n cb))
    case atStart=>exact⟨0,_,by omega,rfl,by rw[Nk b e n c HC.out.2,<-A4];exact hT⟩
    case round=>
     obtain⟨t,u,ht,rfl,hR⟩:=hrel;clear hT;have hT:=hR;clear hR
     cases gk with
     |zero=>
      obtain rfl:t=c:=by omega
      rw[Cy]at hT;have hpl:=fun w'=>Km (fm M (prd (fun i=>b i^e i) n)) M (miL M) (WX M) (sqL M) g0 w' (E_ (H3 M _ HQ.out.two) HQ.out.m) HQ.out.m HQ.out.odd HQ.out.two (YT M HQ.out.odd).2.2 (YT M HQ.out.odd).2.1
      rw[H4 M _ HQ.out.odd HQ.out.two]at hpl;have x0:g0≠g6:=bV0 (l_ HF.out.l0 HF.out.l6);have x9:g9≠g6:=fun h=>HF.out.n6 (by rw[<-h];simp)
      have l6:=HF.out.l6;clear ht HC HQ HF;generalize hZ:prd (fun i=>b i^e i) n%M=Z at*;generalize fm M (prd (fun i=>b i^e i) n)=Y at*
      go_step
      apply Za [] [_] trivial a_
      ·intro p;refine Ze (.bool false) (fun w'=>(Ys _ _ _ _ rfl t t rfl rfl w').trans (by rw[e_ (iK0 _)])) ?_;simp only[pv];refine Zf ?_;intro w7 hkw _ _ _;replace hT:=hT.on hkw;clear hkw;iterate 8 go_step
       apply Za [(g6,57,Zc 0)] [_,_,_,_,_] ⟨hT.res,trivial⟩ (by simp<;>omega)
       ·intro p;refine m_m ?_;simp only[pv];refine m_l hT.prod ?_;simp only[pv];refine m_k 163 func163 #[.pointer (some ⟨g0,0,none⟩),.agg (Zc Y)] (fun w' hk=>hpl w' (hk.row hT.ring (by simp<;>omega))) ?_;simp only[pv];refine m_p 0 Z ?_;simp only[Act.put];refine Ze (.int .i64 0) (fun _=>rfl) ?_;simp only[pv];refine Zf ?_;intro w8 hkw hrw _ _;have r6:Row w8 g6 (Zc Z) 57:=hrw 0 (57,Zc Z) rfl;have sb:=hT.below.trans (hkw.below w.heap.size hT.below.size (by simp;omega));clear hkw hrw hT hpl;go_wp2;exact Z9 rfl _ rfl r6 4 _ b_ (by exact Zd) rfl _ rfl ⟨by rw[hZ];rfl,sb⟩
       ·rfl
      ·rfl
     |succ g=>
      have htc:t<c:=by omega
      go_step
      apply Za [] [_] trivial a_
      ·intro p;refine Ze (.bool true) (fun w'=>(Ys _ _ _ _ rfl t c rfl rfl w').trans (by rw[d_ (by omega)])) ?_;simp only[pv];refine Zf ?_;intro w7 hkw _ _ _;replace hT:=hT.on hkw;clear hkw;iterate 10 go_step
       apply Za [] [_,_] trivial a_
       ·intro p;refine m_m ?_;refine m_a ?_;simp only[pv];refine Zf ?_;intro w8 hkw _ _ _;replace hT:=hT.on hkw;clear hkw;by_cases ht0:t=0
        ·subst ht0;have e1:fm M (xo b e n c 0)=fm M (xi b e n c 0 0):=by rw[Kt,Nk b e n c HC.out.2,Nat.one_pow]
         rw[e1]at hT;clear e1;iterate 4 go_step
         apply Za [] [_,_] trivial a_
         ·intro p;refine m_m ?_;simp only[pv];refine Ze _ (Yg _ _ _ _ rfl 0 0 rfl rfl false rfl) ?_;simp only[pv];refine Zf ?_;intro w9 hkw _ _ _;replace hT:=hT.on hkw;clear hkw;iterate 7 go_step
          apply Za [] [_,_,_] trivial a_
          ·intro p;refine m_m ?_;simp only[pv];refine Ze _ (n_l ae n ce Vd) ?_;simp only[pv];refine Ze (.int .i64 0) (fun _=>rfl) ?_;simp only[pv];refine Zf ?_;intro w10 hkw _ _ _;replace hT:=hT.on hkw;clear hkw
           go_wp2_with fail
           go_loopg [54] n (fun g s54 wr=> ∃(k:Nat) (u:Nat->Nat),k+g=n/\s54= .int .i64 k/\PrH wr w n M b u (fm M (xi b e n c 0 k)) g0 g6 g9 s gv gq gp gu gw (.slice ab n cb))
           case atStart=>exact⟨0,_,by omega,rfl,hT⟩
           case round=>
            clear hT;obtain⟨k,u,hk,rfl,hR⟩:=hrel;have hT:=hR;clear hR
            cases gk with
            |zero=>
             obtain rfl:k=n:=by omega
             rw[Kv b e k c 0 htc]at hT
             go_step
             apply Za [] [_] trivial a_
             ·intro p;refine Ze (.bool false) (fun w'=>(Ys _ _ _ _ rfl k k rfl rfl w').trans (by rw[e_ (iK0 _)])) ?_;simp only[pv];refine Zf ?_;intro w11 hkw _ _ _;replace hT:=hT.on hkw;clear hkw;iterate 7 go_step
              apply Za [] [_,_] trivial a_
              ·intro p;refine Ze _ (Xn _ _ _ _ rfl 0 1 rfl rfl (by have:=HC.out.1;omega)) ?_;refine m_m ?_;simp only[pv];refine Zf ?_;intro w12 hkw _ _ _;replace hT:=hT.on hkw;clear hkw;go_wp2
               go_roundg g
               case measure=>omega
               case rel=>exact⟨0+1,u,by omega,rfl,hT⟩
              ·rfl
             ·rfl
            |succ g'=>
             have hkn:k<n:=by omega
             have hdi:=fun w'=>Qz (e k) (c-1-0) w' (by have:=HC.out.1;omega)
             obtain h0|⟨rfl,rE,hat⟩:=(HQ.out.exps.below hT.below).at'
             ·omega
             go_step
             apply Za [] [_] trivial a_
             ·intro p;refine Ze (.bool true) (fun w'=>(Ys _ _ _ _ rfl k n rfl rfl w').trans (by rw[d_ (by omega)])) ?_;simp only[pv];refine Zf ?_;intro w13 hkw _ _ _;replace hT:=hT.on hkw;clear hkw;replace rE:=((HQ.out.exps.below hT.below).at').resolve_left (by omega) |>.2.1;iterate 10 go_step
              apply Za [] [_,_] trivial a_
              ·intro p;refine m_m ?_;refine m_a ?_;simp only[pv];refine Zf ?_;intro w14 hkw _ _ _;replace hT:=hT.on hkw;clear hkw;replace rE:=((HQ.out.exps.below hT.below).at').resolve_left (by omega) |>.2.1;iterate 3 go_step
               apply Za [] [_,_,_,_,_,_,_,_,_,_] trivial a_
               ·intro p;refine m_m ?_;refine m_m ?_;simp only[pv];refine m_x k hkn r_ ZC ?_;simp only[pv];refine Yj 57 _ rfl _ ((oe+k*4)) rfl rE (by simp<;>omega) (Zc (e k)) (hat k hkn) _ b_ rfl Zd ?_;refine m_m ?_;simp only[pv];refine Ze _ (Z2 _ _ _ _ rfl c 1 rfl rfl (by omega) (by have:=HC.out.1;omega)) ?_;refine m_m ?_;simp only[pv];refine Ze _ (Z2 _ _ _ _ rfl (c-1) 0 rfl rfl (by omega) (by have:=HC.out.1;omega)) ?_;simp only[pv];refine m_c 162 func162 #[.agg (Zc (e k)),.int .i64 ((c-1-0:Nat):Int)] hdi ?_;refine m_a ?_;simp only[pv];refine Zf ?_;intro w15 hkw _ _ _;replace hT:=hT.on hkw;clear hkw;clear hdi rE hat;have hxi:=Ku b e n c 0 k;have hd15:e k/2^(4*(c-1-0))%16<16:=m_ _ (by decide);generalize e k/2^(4*(c-1-0))%16=d at*;by_cases hd:d=0
                ·subst hd;rw[W_,M_]at hxi;rw[<-hxi]at hT;iterate 3 go_step
                 apply Za [] [_,_] trivial a_
                 ·intro p;refine m_m ?_;simp only[pv];refine Ze _ (Yg _ _ _ _ rfl 0 0 rfl rfl false rfl) ?_;simp only[pv];refine Zf ?_;intro w16 hkw _ _ _;replace hT:=hT.on hkw;clear hkw;iterate 6 go_step
                  apply Za [] [_,_] trivial a_
                  ·intro p;refine Ze _ (Xn _ _ _ _ rfl k 1 rfl rfl (by have:=HQ.out.n64;omega)) ?_;refine m_m ?_;simp only[pv];refine Zf ?_;intro w17 hkw _ _ _;replace hT:=hT.on hkw;clear hkw;go_wp2
                   go_roundg g'
                   case measure=>omega
                   case rel=>exact⟨k+1,u,by omega,rfl,hT⟩
                  ·rfl
                 ·rfl
                ·obtain h0|⟨rfl,rB,hbt⟩:=(HQ.out.bases.below hT.below).at'
                 ·omega
                 iterate 3 go_step
                 apply Za [] [_,_] trivial a_
                 ·intro p;refine m_m ?_;simp only[pv];refine Ze _ (Yg _ _ _ _ rfl d 0 rfl rfl true (by simp;omega)) ?_;simp only[pv];refine Zf ?_;intro w18 hkw _ _ _;replace hT:=hT.on hkw;clear hkw;have hPw:PwH w18 n M b g0 gw s gv gp gu gq gb ob cb bcs tb:=⟨hT.ring,hT.uu,hT.r,hT.bb,hT.kk,(((HQ.out.bases.below hT.below).at').resolve_left (by omega)).2.1,hbt⟩;have hBn:gb∉[gu,gq,g9]:=fun h=>dB0 _ (l_ (((HQ.out.bases).at').resolve_left (by omega)).2.1.lt (HF.out.new gb h))
                  have hpo:=fun w' (hk':Kept [gu,gq,g9] w18 w')=>Qy n k d M u b g0 gw s gv gp gu gq gb ob cb bcs tb w' hkn (by omega) (by omega) (hT.ule k) HQ.out.m HQ.out.odd HQ.out.two (HQ.out.bases.lt k hkn) HQ.out.n64 (hPw.on hk' ⟨HF.out.n0,HF.out.nw,HF.out.nr,HF.out.nv,HF.out.np,hBn⟩)
                  have hfl:=H3 M (xi b e n c 0 k) HQ.out.two;have hff:=SM M (b k) d HQ.out.two;have hti:=fun w'=>Xr (fm M (xi b e n c 0 k)) (fpw M (b k) d) M (miL M) (WX M) (sqL M) g0 w' (E_ hfl HQ.out.m) (E_ hff HQ.out.m) HQ.out.m HQ.out.odd HQ.out.two (YT M HQ.out.odd).2.2 (YT M HQ.out.odd).2.1 (.inl hfl)
                  rw[QA,Cw M _ _ HQ.out.odd HQ.out.two,<-hxi,<-QA]at hti
                  have hule: ∀j,upd u k (max (u k) d) j<=15:=fun j=>by
                   unfold upd;have:=hT.ule j;have:=hT.ule k
                   split<;>omega
                  have m0:=HF.out.n0;have muq:=HF.out.uq;have mnd:=HF.out.nd;have hSS:g0∉[gu,gq]/\gw∉[gu,gq]/\s∉[gu,gq]/\gv∉[gu,gq]/\gp∉[gu,gq]/\gb∉[gu,gq]:=⟨Xi HF.out.n0,Xi HF.out.nw,Xi HF.out.nr,Xi HF.out.nv,Xi HF.out.np,Xi hBn⟩;clear hfl hff hBn hPw;generalize fm M (xi b e n c 0 k)=Pk at*;generalize hP2:fm M (xi b e n c 0 (k+1))=P2 at*;generalize fpw M (b k) d=Pd at*;iterate 3 go_step
                  apply Zi (by kernel_rfl) [(gu,3,isC n u),(gq,226,nsC (16*n) (kfU M b u)),(g9,57,Zc Pk)] [_,_,_,_,_,_,_,_] ⟨hT.ru,hT.rk,hT.prod,trivial⟩ (by exact mnd)
                  ·intro p;refine m_m ?_;simp only[pv];refine Yz 4 57 _ rfl rfl rfl 4 _ b_ Zd ?_;refine m_m ?_;refine m_m ?_;refine m_m ?_;simp only[pv];refine Qr 196 _ _ _ rfl #[.pointer (some ⟨gw,0,none⟩),.pointer (some ⟨s,0,none⟩),.pointer (some ⟨gv,0,none⟩),.pointer (some ⟨gp,0,none⟩)] rfl func196 (by kernel_rfl) #[.int .i64 k,.int .i64 d] rfl (.agg (Zc Pd)) 0 2 (by decide) (isC n (upd u k (max (u k) d))) (nsC (16*n) (kfU M b (upd u k (max (u k) d)))) rfl rfl (fun w' hk' r1 r2=>hpo w' hk' r1 r2 hSS muq) ?_;simp only[pv];refine m_k 161 iP0 #[.pointer (some ⟨g0,0,none⟩),.agg (Zc Pk),.agg (Zc Pd)] (fun w' hk'=>hti w' (hk'.row hT.ring m0)) ?_;simp only[pv];refine m_p 4 P2 ?_;simp only[Act.put];refine Zf ?_;intro wz hkw hrw _ _;have zu:Row wz gu (isC n (upd u k (max (u k) d))) 3:=hrw 0 (3,isC n (upd u k (max (u k) d))) rfl;have zk:Row wz gq (nsC (16*n) (kfU M b (upd u k (max (u k) d)))) 226:=hrw 2 (226,nsC (16*n) (kfU M b (upd u k (max (u k) d)))) rfl;have z9:Row wz g9 (Zc P2) 57:=hrw 4 (57,Zc P2) rfl;replace hT:=hT.pow HF.out hkw zu zk z9 hule;clear hkw hrw zu zk z9 hpo hti hule;iterate 2 go_step
                   apply Za [] [_,_] trivial a_
                   ·intro p;refine Ze _ (Xn _ _ _ _ rfl k 1 rfl rfl (by have:=HQ.out.n64;omega)) ?_;refine m_m ?_;simp only[pv];refine Zf ?_;intro w19 hkw _ _ _;replace hT:=hT.on hkw;clear hkw;go_wp2
                    go_roundg g'
                    case measure=>omega
                    case rel=>exact⟨k+1,_,by omega,rfl,by rw[hP2];exact hT⟩
                   ·rfl
                  ·kernel_rfl
                 ·rfl
               ·rfl
              ·rfl
             ·rfl
          ·rfl
         ·rfl
        ·have e16:fm M (xo b e n c t^2^4)=fm M (xi b e n c t 0):=by rw[Kt]
         iterate 4 go_step
         apply Za [] [_,_] trivial a_
         ·intro p;refine m_m ?_;simp only[pv];refine Ze _ (Yg _ _ _ _ rfl t 0 rfl rfl true (by simp;omega)) ?_;simp only[pv];refine Zf ?_;intro w9 hkw _ _ _;replace hT:=hT.on hkw;clear hkw
          have hT0:PrH w9 w n M b u (fm M (xo b e n c t^2^0)) g0 g6 g9 s gv gq gp gu gw (.slice ab n cb):=by rw[W_,hG0];exact hT
          clear hT;generalize xo b e n c t=X at*
          go_wp2_with fail
          go_loopg [45] 4 (fun g s45 wr=> ∃j:Nat,j+g=4/\s45= .int .i64 j/\PrH wr w n M b u (fm M (X^2^j)) g0 g6 g9 s gv gq gp gu gw (.slice ab n cb))
          case atStart=>exact⟨0,by omega,rfl,hT0⟩
          case round=>
           clear hT0;obtain⟨j,hj,rfl,hR⟩:=hrel;have hT:=hR;clear hR
           cases gk with
           |zero=>
            obtain rfl:j=4:=by omega
            rw[e16]at hT;clear hj e16
            go_step
            apply Za [] [_] trivial a_
            ·intro p;refine Ze (.bool false) (fun w'=>(Ys _ _ _ _ rfl 4 4 rfl rfl w').trans rfl) ?_;simp only[pv];refine Zf ?_;intro w10 hkw _ _ _;replace hT:=hT.on hkw;clear hkw;iterate 8 go_step
             apply Za [] [_,_,_] trivial a_
             ·intro p;refine m_m ?_;simp only[pv];refine Ze _ (n_l ae n ce Vd) ?_;simp only[pv];refine Ze (.int .i64 0) (fun _=>rfl) ?_;simp only[pv];refine Zf ?_;intro w11 hkw _ _ _;replace hT:=hT.on hkw;clear hkw
              go_wp2_with fail
              go_loopg [54] n (fun g s54 wr=> ∃(k:Nat) (u:Nat->Nat),k+g=n/\s54= .int .i64 k/\PrH wr w n M b u (fm M (xi b e n c t k)) g0 g6 g9 s gv gq gp gu gw (.slice ab n cb))
              case atStart=>exact⟨0,_,by omega,rfl,hT⟩
              case round=>
               clear hT;obtain⟨k,u,hk,rfl,hR⟩:=hrel;have hT:=hR;clear hR
               cases gk with
               |zero=>
                obtain rfl:k=n:=by omega
                rw[Kv b e k c t htc]at hT
                go_step
                apply Za [] [_] trivial a_
                ·intro p;refine Ze (.bool false) (fun w'=>(Ys _ _ _ _ rfl k k rfl rfl w').trans (by rw[e_ (iK0 _)])) ?_;simp only[pv];refine Zf ?_;intro w12 hkw _ _ _;replace hT:=hT.on hkw;clear hkw;iterate 7 go_step
                 apply Za [] [_,_] trivial a_
                 ·intro p;refine Ze _ (Xn _ _ _ _ rfl t 1 rfl rfl (by have:=HC.out.1;omega)) ?_;refine m_m ?_;simp only[pv];refine Zf ?_;intro w13 hkw _ _ _;replace hT:=hT.on hkw;clear hkw;go_wp2
                  go_roundg g
                  case measure=>omega
                  case rel=>exact⟨t+1,u,by omega,rfl,hT⟩
                 ·rfl
                ·rfl
               |succ g'=>
                have hkn:k<n:=by omega
                have hdi:=fun w'=>Qz (e k) (c-1-t) w' (by have:=HC.out.1;omega)
                obtain h0|⟨rfl,rE,hat⟩:=(HQ.out.exps.below hT.below).at'
                ·omega
                go_step
                apply Za [] [_] trivial a_
                ·intro p;refine Ze (.bool true) (fun w'=>(Ys _ _ _ _ rfl k n rfl rfl w').trans (by rw[d_ (by omega)])) ?_;simp only[pv];refine Zf ?_;intro w14 hkw _ _ _;replace hT:=hT.on hkw;clear hkw;replace rE:=((HQ.out.exps.below hT.below).at').resolve_left (by omega) |>.2.1;iterate 10 go_step
                 apply Za [] [_,_] trivial a_
                 ·intro p;refine m_m ?_;refine m_a ?_;simp only[pv];refine Zf ?_;intro w15 hkw _ _ _;replace hT:=hT.on hkw;clear hkw;replace rE:=((HQ.out.exps.below hT.below).at').resolve_left (by omega) |>.2.1;iterate 3 go_step
                  apply Za [] [_,_,_,_,_,_,_,_,_,_] trivial a_
                  ·intro p;refine m_m ?_;refine m_m ?_;simp only[pv];refine m_x k hkn r_ ZC ?_;simp only[pv];refine Yj 57 _ rfl _ ((oe+k*4)) rfl rE (by simp<;>omega) (Zc (e k)) (hat k hkn) _ b_ rfl Zd ?_;refine m_m ?_;simp only[pv];refine Ze _ (Z2 _ _ _ _ rfl c 1 rfl rfl (by omega) (by have:=HC.out.1;omega)) ?_;refine m_m ?_;simp only[pv];refine Ze _ (Z2 _ _ _ _ rfl (c-1) t rfl rfl (by omega) (by have:=HC.out.1;omega)) ?_;simp only[pv];refine m_c 162 func162 #[.agg (Zc (e k)),.int .i64 ((c-1-t:Nat):Int)] hdi ?_;refine m_a ?_;simp only[pv];refine Zf ?_;intro w16 hkw _ _ _;replace hT:=hT.on hkw;clear hkw;clear hdi rE hat;have hxi:=Ku b e n c t k;have hd15:e k/2^(4*(c-1-t))%16<16:=m_ _ (by decide);generalize e k/2^(4*(c-1-t))%16=d at*;by_cases hd:d=0
                   ·subst hd;rw[W_,M_]at hxi;rw[<-hxi]at hT;iterate 3 go_step
                    apply Za [] [_,_] trivial a_
                    ·intro p;refine m_m ?_;simp only[pv];refine Ze _ (Yg _ _ _ _ rfl 0 0 rfl rfl false rfl) ?_;simp only[pv];refine Zf ?_;intro w17 hkw _ _ _;replace hT:=hT.on hkw;clear hkw;iterate 6 go_step
                     apply Za [] [_,_] trivial a_
                     ·intro p;refine Ze _ (Xn _ _ _ _ rfl k 1 rfl rfl (by have:=HQ.out.n64;omega)) ?_;refine m_m ?_;simp only[pv];refine Zf ?_;intro w18 hkw _ _ _;replace hT:=hT.on hkw;clear hkw;go_wp2
                      go_roundg g'
                      case measure=>omega
                      case rel=>exact⟨k+1,u,by omega,rfl,hT⟩
                     ·rfl
                    ·rfl
                   ·obtain h0|⟨rfl,rB,hbt⟩:=(HQ.out.bases.below hT.below).at'
                    ·omega
                    iterate 3 go_step
                    apply Za [] [_,_] trivial a_
                    ·intro p;refine m_m ?_;simp only[pv];refine Ze _ (Yg _ _ _ _ rfl d 0 rfl rfl true (by simp;omega)) ?_;simp only[pv];refine Zf ?_;intro w19 hkw _ _ _;replace hT:=hT.on hkw;clear hkw;have hPw:PwH w19 n M b g0 gw s gv gp gu gq gb ob cb bcs tb:=⟨hT.ring,hT.uu,hT.r,hT.bb,hT.kk,(((HQ.out.bases.below hT.below).at').resolve_left (by omega)).2.1,hbt⟩;have hBn:gb∉[gu,gq,g9]:=fun h=>dB0 _ (l_ (((HQ.out.bases).at').resolve_left (by omega)).2.1.lt (HF.out.new gb h))
                     have hpo:=fun w' (hk':Kept [gu,gq,g9] w19 w')=>Qy n k d M u b g0 gw s gv gp gu gq gb ob cb bcs tb w' hkn (by omega) (by omega) (hT.ule k) HQ.out.m HQ.out.odd HQ.out.two (HQ.out.bases.lt k hkn) HQ.out.n64 (hPw.on hk' ⟨HF.out.n0,HF.out.nw,HF.out.nr,HF.out.nv,HF.out.np,hBn⟩)
                     have hfl:=H3 M (xi b e n c t k) HQ.out.two;have hff:=SM M (b k) d HQ.out.two;have hti:=fun w'=>Xr (fm M (xi b e n c t k)) (fpw M (b k) d) M (miL M) (WX M) (sqL M) g0 w' (E_ hfl HQ.out.m) (E_ hff HQ.out.m) HQ.out.m HQ.out.odd HQ.out.two (YT M HQ.out.odd).2.2 (YT M HQ.out.odd).2.1 (.inl hfl)
                     rw[QA,Cw M _ _ HQ.out.odd HQ.out.two,<-hxi,<-QA]at hti
                     have hule: ∀j,upd u k (max (u k) d) j<=15:=fun j=>by
                      unfold upd;have:=hT.ule j;have:=hT.ule k
                      split<;>omega
                     have m0:=HF.out.n0;have muq:=HF.out.uq;have mnd:=HF.out.nd;have hSS:g0∉[gu,gq]/\gw∉[gu,gq]/\s∉[gu,gq]/\gv∉[gu,gq]/\gp∉[gu,gq]/\gb∉[gu,gq]:=⟨Xi HF.out.n0,Xi HF.out.nw,Xi HF.out.nr,Xi HF.out.nv,Xi HF.out.np,Xi hBn⟩;clear hfl hff hBn hPw;generalize fm M (xi b e n c t k)=Pk at*;generalize hP2:fm M (xi b e n c t (k+1))=P2 at*;generalize fpw M (b k) d=Pd at*;iterate 3 go_step
                     apply Zi (by kernel_rfl) [(gu,3,isC n u),(gq,226,nsC (16*n) (kfU M b u)),(g9,57,Zc Pk)] [_,_,_,_,_,_,_,_] ⟨hT.ru,hT.rk,hT.prod,trivial⟩ (by exact mnd)
                     ·intro p;refine m_m ?_;simp only[pv];refine Yz 4 57 _ rfl rfl rfl 4 _ b_ Zd ?_;refine m_m ?_;refine m_m ?_;refine m_m ?_;simp only[pv];refine Qr 196 _ _ _ rfl #[.pointer (some ⟨gw,0,none⟩),.pointer (some ⟨s,0,none⟩),.pointer (some ⟨gv,0,none⟩),.pointer (some ⟨gp,0,none⟩)] rfl func196 (by kernel_rfl) #[.int .i64 k,.int .i64 d] rfl (.agg (Zc Pd)) 0 2 (by decide) (isC n (upd u k (max (u k) d))) (nsC (16*n) (kfU M b (upd u k (max (u k) d)))) rfl rfl (fun w' hk' r1 r2=>hpo w' hk' r1 r2 hSS muq) ?_;simp only[pv];refine m_k 161 iP0 #[.pointer (some ⟨g0,0,none⟩),.agg (Zc Pk),.agg (Zc Pd)] (fun w' hk'=>hti w' (hk'.row hT.ring m0)) ?_;simp only[pv];refine m_p 4 P2 ?_;simp only[Act.put];refine Zf ?_;intro wz hkw hrw _ _;have zu:Row wz gu (isC n (upd u k (max (u k) d))) 3:=hrw 0 (3,isC n (upd u k (max (u k) d))) rfl;have zk:Row wz gq (nsC (16*n) (kfU M b (upd u k (max (u k) d)))) 226:=hrw 2 (226,nsC (16*n) (kfU M b (upd u k (max (u k) d)))) rfl;have z9:Row wz g9 (Zc P2) 57:=hrw 4 (57,Zc P2) rfl;replace hT:=hT.pow HF.out hkw zu zk z9 hule;clear hkw hrw zu zk z9 hpo hti hule;iterate 2 go_step
                      apply Za [] [_,_] trivial a_
                      ·intro p;refine Ze _ (Xn _ _ _ _ rfl k 1 rfl rfl (by have:=HQ.out.n64;omega)) ?_;refine m_m ?_;simp only[pv];refine Zf ?_;intro w20 hkw _ _ _;replace hT:=hT.on hkw;clear hkw;go_wp2
                       go_roundg g'
                       case measure=>omega
                       case rel=>exact⟨k+1,_,by omega,rfl,by rw[hP2];exact hT⟩
                      ·rfl
                     ·kernel_rfl
                    ·rfl
                  ·rfl
                 ·rfl
                ·rfl
             ·rfl
            ·rfl
           |succ g'=>
            have hfl:=H3 M (X^2^j) HQ.out.two;have hti:=fun w'=>Xr (fm M (X^2^j)) (fm M (X^2^j)) M (miL M) (WX M) (sqL M) g0 w' (E_ hfl HQ.out.m) (E_ hfl HQ.out.m) HQ.out.m HQ.out.odd HQ.out.two (YT M HQ.out.odd).2.2 (YT M HQ.out.odd).2.1 (.inl hfl)
            rw[Cz M X j HQ.out.odd HQ.out.two]at hti;have m0:=VR HF.out.n0;clear hfl e16;generalize fm M (X^2^j)=Pj at*;generalize hP2:fm M (X^2^(j+1))=P2 at*
            go_step
            apply Za [] [_] trivial a_
            ·intro p;refine Ze (.bool true) (fun w'=>(Ys _ _ _ _ rfl j 4 rfl rfl w').trans (by rw[d_ (by omega)])) ?_;simp only[pv];refine Zf ?_;intro w21 hkw _ _ _;replace hT:=hT.on hkw;clear hkw;iterate 9 go_step
             apply Za [(g9,57,Zc Pj)] [_,_,_,_,_] ⟨hT.prod,trivial⟩ (by simp<;>omega)
             ·intro p;refine m_m ?_;simp only[pv];refine Yz 0 57 _ rfl rfl rfl 4 _ b_ Zd ?_;simp only[pv];refine Yz 0 57 _ rfl rfl rfl 4 _ b_ Zd ?_;simp only[pv];refine m_k 161 iP0 #[.pointer (some ⟨g0,0,none⟩),.agg (Zc Pj),.agg (Zc Pj)] (fun w' hk'=>hti w' (hk'.row hT.ring m0)) ?_;simp only[pv];refine m_p 0 P2 ?_;simp only[Act.put];refine Zf ?_;intro wz hkw hrw _ _;have z9:Row wz g9 (Zc P2) 57:=hrw 0 (57,Zc P2) rfl;replace hT:=hT.put HF.out hkw z9;clear hkw hrw z9 hti;iterate 2 go_step
              apply Za [] [_,_] trivial a_
              ·intro p;refine Ze _ (x_a j 1) ?_;refine m_m ?_;simp only[pv];refine Zf ?_;intro w22 hkw _ _ _;replace hT:=hT.on hkw;clear hkw;go_wp2
               go_roundg g'
               case measure=>omega
               case rel=>exact⟨j+1,by omega,rfl,by rw[hP2];exact hT⟩
              ·rfl
             ·rfl
            ·rfl
         ·rfl
       ·rfl
      ·rfl
   ·rfl
  ·rfl
 ·rfl
end Go.Proofs.YtnagnkhbamhfmaaGreatDoor
