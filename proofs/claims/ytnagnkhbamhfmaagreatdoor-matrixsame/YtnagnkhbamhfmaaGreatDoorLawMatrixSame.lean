/- MatrixSame: for every number, two lists of naturals and a number: in one of the three groups, by one liar or two, whoever asks gets the same of the shares that hold; no condition. -/
import Derived.Test.YtnagnkhbamhfmaaGreatDoorMF
set_option maxRecDepth 100000
set_option maxHeartbeats 8000000
namespace Go.Proofs.YtnagnkhbamhfmaaGreatDoor
set_option linter.all false
open Go.ChangeShapes Go.WideShapes Go.ChangeAt Go.RowKit
open Go.Proofs.Tryz
namespace matrixSameP
theorem XE:(prog.info? 55).map (·.size)=some 1:=by kernel_rfl
theorem GR (a:Int):prog.built 57 [(0,.int .u64 a)]=some #[.int .u64 a,.int .u64 0,.int .u64 0,.int .u64 0]:=by kernel_rfl
/-- The numbers, and the random ones. -/
def n30 (F:Nat->Nat)(i:Nat):Nat:=F i%2^30
def r30 (t m:Nat)(E:Nat->Nat)(j:Nat):Nat:=if j<m then E j%2^30 else j/t+1
theorem Nf (F:Nat->Nat)(i:Nat):n30 F i<1073741824:=Nat.mod_lt _ (by decide)
theorem JH {t m:Nat}{E:Nat->Nat}{j:Nat}(h:j<1000):r30 t m E j<1073741824:=by
 unfold r30
 split
 ·exact Nat.mod_lt _ (by decide)
 ·have:=Nat.div_le_self j t;omega
theorem CD {t m:Nat}{E:Nat->Nat}{j:Nat}(h:j<m):r30 t m E j=E j%2^30:=if_pos h
theorem Av {t m i k:Nat}{E:Nat->Nat}(hk:k<t)(h: ¬t*i+k<m):r30 t m E (t*i+k)=i+1:=by
 unfold r30;rw[if_neg h,Nat.mul_add_div (by omega),Nat.div_eq_of_lt hk,Nat.add_zero]
theorem Ng {x:Nat}(h:x<1073741824):(#[.int .u64 (x:Nat),.int .u64 0,.int .u64 0,.int .u64 0]:Array Value)=Zd x:=by
 unfold Zd lm;rw[Nat.mul_zero,Nat.pow_zero,Nat.div_one,Nat.mod_eq_of_lt (show x<2^64 by omega),Nat.div_eq_of_lt (show x<2^(64*1) by omega),Nat.div_eq_of_lt (show x<2^(64*2) by omega),Nat.div_eq_of_lt (show x<2^(64*3) by omega)];rfl
theorem CE {x i:Nat}(h:x<1073741824)(hi:i<1073741824):(Zd i).setIfInBounds 0 (.int .u64 (x:Nat))=Zd x:=by
 rw[<-Ng hi,<-Ng h];rfl
theorem Aw (x k:Nat)(hk:k=4):Instr.fill (fun i=>some (i*k,k)) ((Array.range (1*k)).map ((Value.agg (Zd 0)).cells[· %(Value.agg (Zd 0)).cells.size]!)) [(0,.agg (Zd x))]=some (Zd x):=by
 subst hk
 kernel_rfl
theorem JI {n:Nat}(h:n<1000):IntKind.u64.wrap (n:Int)=(n:Int):=by rw[IntKind.wrap_u64];omega
theorem lm0 (N:Nat):lm N 0&&&1073741823=N%2^30:=by
 unfold lm;rw[Nat.mul_zero,Nat.pow_zero,Nat.div_one,show 1073741823=2^30-1 by decide,Nat.and_two_pow_sub_one_eq_mod,Nat.mod_mod_of_dvd _ (by decide)]
theorem FP (N:Nat):lm N 0<18446744073709551616:=Nat.mod_lt _ (by decide)
section
variable {P:Program}{o:Oper}{ρ:Operand->Value}
theorem GS (t:TypeId)(x y:Operand)(u:TypeId)(ho:o.op= .binOp .and t x y u)(n m r:Int)(hx:ρ x= .int .i64 n)(hy:ρ y= .int .i64 m)(hr:bits .and .i64 n m=r)(w:World):
  (execOp ρ o).run P w= .ok (.value (.int .i64 r)) w:=by
 subst hr;unfold execOp;simp only[ho,hx,hy];simp[go_sem]
theorem Ax (t:TypeId)(x y:Operand)(u:TypeId)(ho:o.op= .binOp .shr t x y u)(n:Int)(s:Nat)(hx:ρ x= .int .i64 n)(hy:ρ y= .int .u64 (s:Nat))(hs:s<64)(w:World):
  (execOp ρ o).run P w= .ok (.value (.int .i64 (n/2^s))) w:=by
 unfold execOp;simp only[ho,hx,hy];simp[go_sem]
theorem Ay (t:TypeId)(x y:Operand)(u:TypeId)(ho:o.op= .binOp .shr t x y u)(n:Int)(s:Nat)(hx:ρ x= .int .i64 n)(hy:ρ y= .int .i64 (s:Nat))(hs:s<64)(w:World):
  (execOp ρ o).run P w= .ok (.value (.int .i64 (n/2^s))) w:=by
 unfold execOp;simp only[ho,hx,hy];simp[go_sem]
end
theorem yd (t:Int): ∃b:Nat,b<=1/\bits .and .i64 t 1=b:=by
 have h:(BitVec.ofInt 64 t&&&BitVec.ofInt 64 1).toNat<=1:=by
  rw[BitVec.toNat_and,show(BitVec.ofInt 64 1).toNat=2^1-1 by decide,Nat.and_two_pow_sub_one_eq_mod];omega
 refine⟨(BitVec.ofInt 64 t&&&BitVec.ofInt 64 1).toNat,h,?_⟩;show IntKind.i64.wrap ((BitVec.ofInt 64 t&&&BitVec.ofInt 64 1).toNat:Int)=_
 exact NG _ (by omega) (by omega)
theorem Nh {w:World}{base:Nat}{v:Value}{n:Nat}{f:Nat->Nat}(h:Vg w base v n f)(hf: ∀i,i<n->f i<2^256)(hn:1<=n): ∃gb c cur,v= .slice (some ⟨gb,0,none⟩) n c/\n<=c/\NatsAt w (some ⟨gb,0,none⟩) n f gb 0 cur 57:=by
 rcases h.2 with ⟨e,h0⟩|⟨g,cap,cur,e,_,hg,hnc,_,hcs,htk⟩
 ·omega
 ·subst e;obtain⟨_,gb,cur2,hna⟩:=Tj h hf;rcases hna.at' with h0|⟨e2,h3,h4⟩
  ·omega
  ·cases e2
   exact⟨g,cap,cur2,rfl,hnc,hna⟩
/-- A part: what it bears. -/
def sX (t n:Nat)(bt:Nat->Bool)(Y:Nat->Nat)(VY:Nat->Nat->Nat)(gN cN:Nat)(N1:Nat->Nat)(csN:Array Value)(k:Nat):PtX:=
 if bt k=true then⟨((k+1:Nat):Int),some ⟨Y k,0,none⟩,n,n,VY k,Y k,0,nsC n (VY k),57⟩else⟨((k+1:Nat):Int),some ⟨gN,0,none⟩,n,cN,N1,gN,0,csN,57⟩
theorem QB {t n:Nat}{bt:Nat->Bool}{Y:Nat->Nat}{VY:Nat->Nat->Nat}{gN cN:Nat}{N1:Nat->Nat}{csN:Array Value}{k:Nat}(h:bt k=true):sX t n bt Y VY gN cN N1 csN k=⟨((k+1:Nat):Int),some ⟨Y k,0,none⟩,n,n,VY k,Y k,0,nsC n (VY k),57⟩:=if_pos h
theorem GT {t n:Nat}{bt:Nat->Bool}{Y:Nat->Nat}{VY:Nat->Nat->Nat}{gN cN:Nat}{N1:Nat->Nat}{csN:Array Value}{k:Nat}(h:bt k=false):sX t n bt Y VY gN cN N1 csN k=⟨((k+1:Nat):Int),some ⟨gN,0,none⟩,n,cN,N1,gN,0,csN,57⟩:=if_neg (by rw[h];decide)
theorem Az {n t:Nat}(h1:1<=n)(h3:n<=3)(ht:t<=2):ccB n ((t+1:Nat):Int)=true:=by
 unfold ccB;rw[decide_eq_true (by omega),decide_eq_true (by omega),decide_eq_true (by omega),decide_eq_true (by omega)];rfl
theorem AA {P Q G:Nat}(f:GF P Q G){g gr gf:Nat}{w:World}(h:GrpAt w g gr gf P Q G){n c gb:Nat}{N:Nat->Nat}{cs:Array Value}(hn:NatsAt w (some ⟨gb,0,none⟩) n N gb 0 cs 57)(hl:n<1000)(hN: ∀j,j<n->N j<Q):
  Calls prog 34 #[.pointer (some ⟨g,0,none⟩),.slice (some ⟨gb,0,none⟩) n c] w (Rt (.bool true) w):=by
 have:=Jk (some ⟨g,0,none⟩) (some ⟨gb,0,none⟩) n c N gb 0 cs 57 (fun k=>decide (N k<Q)) w (by omega) hn (fun k hk w' hb=>Kj (N k) g gr gf P Q G w' (hn.lt k hk) f.rQ (h.below hb))
 rw[show(!anB (fun k=> !decide (N k<Q)) n)=true by
  cases e:anB (fun k=> !decide (N k<Q)) n with
  |false=>rfl
  |true=>
   obtain⟨k,hk,h2⟩:=(X3 _ _).1 e;rw[decide_eq_true (hN k hk)]at h2
   cases h2]at this
 exact this
theorem JJ {w:World}{gM n K:Nat}{R:Nat->Nat}(r:Row w gM (vsC n (fun j=>.slice (some ⟨R j,0,none⟩) K K)) 22):VsAt w (some ⟨gM,0,none⟩) n (fun j=>.slice (some ⟨R j,0,none⟩) K K) gM 0 (vsC n (fun j=>.slice (some ⟨R j,0,none⟩) K K)) 22:=
 ⟨.inr ⟨rfl,r.r,fun i hi=>by rw[show 0+i*1=i by omega];exact Xi _ hi⟩⟩
theorem FQ {w:World}{b K n:Nat}{R:Nat->Nat}{V:Nat->Nat->Nat}(h:FamAt w b K R V n)(hV: ∀i j,i<n->V i j<2^256): ∀i,i<n->Mo w (.slice (some ⟨R i,0,none⟩) K K) K (V i):=fun i hi=>
 ⟨_,_,_,_,_,_,rfl,Yh (h.row i hi) (fun j _=>hV i j hi)⟩
theorem AB {Q:Nat}[NeZero Q]{P G:Nat}(f:GF P Q G){g gr gf gM n t p b1 b2 k:Nat}{R Y:Nat->Nat}{VY:Nat->Nat->Nat}{Lf:Nat->List (Fin Q)}{w w':World}(h:GrpAt w' g gr gf P Q G)(rM:Row w gM (vsC n (fun j=>.slice (some ⟨R j,0,none⟩) (t+1) (t+1))) 22)(hM:FamAt w b1 (t+1) R (fun a b=>G^(pco (Lf a) b).val%P) n)(hY:FamAt w b2 n Y VY p)(hVY:VY=fun a b=>(pev (fi (a+1)) (Lf b)).val)
  (hL: ∀k,(Lf k).length<=t+1)(ht:t<=2)(h1:1<=n)(h2:n<=25)(hk:k<p)(hp:p<=7)(hb:Below w.heap.size w w'):
  Calls prog 23 #[.pointer (some ⟨g,0,none⟩),.slice (some ⟨gM,0,none⟩) n n,.agg (ptC ((k+1:Nat):Int) (.slice (some ⟨Y k,0,none⟩) n n))] w' (Rt (.bool true) w'):=by
 have h3:=JG f h (some ⟨gM,0,none⟩) n n _ gM 0 _ _ (fun _=>t+1) (fun i j=>G^(pco (Lf i) j).val%P) (JJ (rM.belowAll hb)) (FQ (hM.below hb) (fun i j _=>Nat.lt_trans (Nat.mod_lt _ (by have:=f.rP.two;omega)) f.rP.m)) h1 h2 ((k+1:Nat):Int) (some ⟨Y k,0,none⟩) n n (VY k) (Y k) 0 _ _ (Yh ((hY.below hb).row k hk) (fun j _=>by rw[hVY];exact Nat.lt_trans (pev (fi (k+1)) (Lf j)).isLt f.rQ.m));rw[(TF f Lf t n (by omega) h1 h2 (fun k _=>hL k) (k+1) (by omega) (by omega) (VY k)).2 (fun i _=>by rw[hVY])]at h3;exact h3
theorem AC {Q:Nat}[NeZero Q]{P G:Nat}(f:GF P Q G){g gr gf gM n t p b1 b2 gN cN gS:Nat}{R Y:Nat->Nat}{VY:Nat->Nat->Nat}{Lf:Nat->List (Fin Q)}{N1:Nat->Nat}{csN curS:Array Value}{aS:Option Addr}{cS:Nat}{bt:Nat->Bool}{X:Nat->PtX}{CC:Nat->Array Value}{w:World}(h:GrpAt w g gr gf P Q G)(rM:Row w gM (vsC n (fun j=>.slice (some ⟨R j,0,none⟩) (t+1) (t+1))) 22)(hM:FamAt w b1 (t+1) R (fun a b=>G^(pco (Lf a) b).val%P) n)(hY:FamAt w b2 n Y VY p)(hVY:VY=fun a b=>(pev (fi (a+1)) (Lf b)).val)
  (hnN:NatsAt w (some ⟨gN,0,none⟩) n N1 gN 0 csN 57)(hels:ElsAt 2 w aS p CC gS 0 curS 64)(hCC:CC=fun k=>ptC (X k).z (.slice (X k).ay (X k).ny (X k).cy))(hX:X=sX t n bt Y VY gN cN N1 csN)(hL: ∀k,(Lf k).length=t+1)(t1:1<=t)(t2:t<=2)(n1:1<=n)(n3:n<=3)(hp:p<=7):
  (cnH bt p<=t/\Calls prog 15 #[.pointer (some ⟨g,0,none⟩),.int .i64 (t:Nat),.slice (some ⟨gM,0,none⟩) n n,.slice aS p cS] w (Rt (.tuple #[.slice none 0 0,.int .i64 3]) w))∨
  Calls prog 15 #[.pointer (some ⟨g,0,none⟩),.int .i64 (t:Nat),.slice (some ⟨gM,0,none⟩) n n,.slice aS p cS] w fun e w2=> ∃gP PR,e= .returned (.tuple #[.slice (some ⟨gP,0,none⟩) n n,.int .i64 0])/\w.heap.size<=gP/\Row w2 gP (vsC n (fun j=>.slice (some ⟨PR j,0,none⟩) (t+1) (t+1))) 22/\FamAt w2 w.heap.size (t+1) PR (fun k j=>(pco (Lf k) j).val) n/\Below w.heap.size w w2:=by
 have hz: ∀k,k<p->(X k).z=((k+1:Nat):Int):=fun k _=>by
  rw[hX]
  cases e:bt k with
  |true=>rw[QB e]
  |false=>rw[GT e]
 have hny: ∀k,k<p->(X k).ny=n:=fun k _=>by
  rw[hX]
  cases e:bt k with
  |true=>rw[QB e]
  |false=>rw[GT e]
 have hXY: ∀k,k<p->NatsAt w (X k).ay (X k).ny (X k).Y (X k).gy (X k).oy (X k).ycs (X k).ty:=fun k hk=>by
  rw[hX]
  cases e:bt k with
  |true=>
   rw[QB e];exact Yh (hY.row k hk) (fun j _=>by rw[hVY];exact Nat.lt_trans (pev (fi (k+1)) (Lf j)).isLt f.rQ.m)
  |false=>
   rw[GT e];exact hnN
 rw[hCC]at hels;rcases GQ f (some ⟨gM,0,none⟩) n n t (fun j=>.slice (some ⟨R j,0,none⟩) (t+1) (t+1)) gM 0 _ _ Lf aS p cS X gS 0 curS _ w t1 t2 n1 (by omega) hp (fun k _=>by rw[hL k];exact Nat.le_refl _) hz hny (JJ rM) (FQ hM (fun i j _=>Nat.lt_trans (Nat.mod_lt _ (by have:=f.rP.two;omega)) f.rP.m)) hels hXY (fun k=> @decide (∀i,i<n->(X k).Y i=(pev (fi (k+1)) (Lf i)).val) (Classical.propDecidable _)) (fun k _=> @decide_eq_true_iff _ (Classical.propDecidable _))with ⟨h1,h2⟩|⟨h1,h2⟩
 ·refine .inl ⟨Nat.le_trans (Rh p fun k hk e=>?_) h1,h2 w g gr gf (Below.refl _ _) h⟩;refine(@decide_eq_true_iff _ (Classical.propDecidable _)).2 fun i hi=>?_
  rw[hX,QB e,hVY]
 ·exact .inr (h2 w g gr gf (Below.refl _ _) h)
theorem AD {Q:Nat}[NeZero Q]{P G:Nat}(f:GF P Q G){g gr gf gQ n t b k:Nat}{PR:Nat->Nat}{VY:Nat->Nat->Nat}{Lf:Nat->List (Fin Q)}{w w':World}(h:GrpAt w' g gr gf P Q G)(rQ:Row w gQ (vsC n (fun j=>.slice (some ⟨PR j,0,none⟩) (t+1) (t+1))) 22)(hP:FamAt w b (t+1) PR (fun k j=>(pco (Lf k) j).val) n)(hL: ∀k,(Lf k).length=t+1)(hVY:VY=fun a b=>(pev (fi (a+1)) (Lf b)).val)(hb:Below w.heap.size w w')(hk:k<100)(hn:n<=25)(ht:t<=2):
  Calls prog 24 #[.pointer (some ⟨g,0,none⟩),.slice (some ⟨gQ,0,none⟩) n n,.int .i64 ((k+1:Nat):Int)] w' fun e w2=> ∃gY,e= .returned (.agg (ptC ((k+1:Nat):Int) (.slice (some ⟨gY,0,none⟩) n n)))/\w'.heap.size<=gY/\Row w2 gY (nsC n (VY k)) 57/\Below w'.heap.size w' w2:=
 Jm (some ⟨g,0,none⟩) (some ⟨gQ,0,none⟩) n n (k+1) _ gQ 0 _ _ (VY k) w' (by omega) (by omega) (JJ (rQ.belowAll hb)) (fun w2 hb2=>UC _ (some ⟨gf,0,none⟩) _ _ _ (some ⟨gr,0,none⟩) w2 (h.below hb2).kn) fun i hi w2 hb2=>by
  have h1:PlA w2 (.slice (some ⟨PR i,0,none⟩) (t+1) (t+1)) (Lf i):=by
   have h2:=((Yh ((hP.below (Zk hb (Nat.le_refl _) hb2)).row i hi) (fun j _=>Nat.lt_trans (pco (Lf i) j).isLt f.rQ.m)).pl (Q:=Q) (c:=t+1) (by omega));rw[Kv (t+1) (fun j=>(pco (Lf i) j).val) (Lf i) (hL i).symm (fun _ _=>rfl)]at h2;exact h2
  have h3:=Hb _ (Lf i) (k+1) (Nat.lt_trans (show k+1<1000 by omega) (by decide)) f.rQ (h.below hb2) h1;rw[hVY];exact h3
theorem ye {B B':Nat->Bool}{n:Nat}(h: ∀k,k<n->B k=true->B' k=true):cnH B n<=cnH B' n:=Rh n h
theorem FR (B:Nat->Bool): ∀n,cnH B n<=n
 |0=>Nat.le_refl _
 |n+1=>by
  have:=FR B n;show cnH B n+(if B n=true then 1 else 0)<=_
  split<;>omega
theorem zR (a0:Int)(m0 mm GG PP QQ n0 n1 n2 G0 G1 G2:Nat)(L0 L1 L2:Array Value)(a2:Int)(b t n c m ce:Nat)(ab ae:Option Addr)(w:World)(kT:KT w)(hm0:bits .and .i64 a0 255=(m0:Int))(hmm:m0%3=mm)(sA:Int)(hsA:a0/2^8=sA)(hb1:bits .and .i64 sA 1=((b:Nat):Int))(htb:1+b=t)(hbb:b<=1)(h:n<1∨3<n∨6<m)
  (hA0: ∀w',Calls prog 20 #[] w' fun e w2=> ∃g,e= .returned (.agg (paC (some ⟨g,0,none⟩) n0 n0 G0))/\w'.heap.size<=g/\Row w2 g L0 106/\Below w'.heap.size w' w2)
  (hA1: ∀w',Calls prog 21 #[] w' fun e w2=> ∃g,e= .returned (.agg (paC (some ⟨g,0,none⟩) n1 n1 G1))/\w'.heap.size<=g/\Row w2 g L1 106/\Below w'.heap.size w' w2)
  (hA2: ∀w',Calls prog 22 #[] w' fun e w2=> ∃g,e= .returned (.agg (paC (some ⟨g,0,none⟩) n2 n2 G2))/\w'.heap.size<=g/\Row w2 g L2 106/\Below w'.heap.size w' w2)
  (hnw: ∀w' x,Row w' x (pk mm L0 L1 L2) 106->Calls prog 19 #[.agg (paC (some ⟨x,0,none⟩) (pk mm n0 n1 n2) (pk mm n0 n1 n2) (pk mm G0 G1 G2))] w' fun e w2=> ∃g gr gf,e= .returned (.tuple #[.pointer (some ⟨g,0,none⟩),.int .i64 0])/\GrpAt w2 g gr gf PP QQ GG/\Below w'.heap.size w' w2):
  Calls prog 5 #[.int .i64 a0,.agg #[.slice ab n c,.slice ae m ce],.int .i64 a2] w fun e w'=>e= .returned (.bool true)/\Below w.heap.size w w':=by
 have haw:=fun w' (hb:Below w.heap.size w w')=>TE w' (kT.below hb)
 clear kT;obtain⟨ip,hip,hzp,hszp⟩:=Ow
 have hp1: ¬3*ip.size>2^24:=by rw[hszp];decide
 have hp2: ¬3*ip.size=0:=by rw[hszp];decide
 have hlp:=fun x y z n m l X Y Z=>L8 x y z n m l X Y Z ip.size hszp
 have hMM:Hid (m0%3=mm):=hmm
 have hm3:mm<3:=by rw[<-hmm];exact Nat.mod_lt _ (by decide)
 obtain⟨pT,hpT⟩: ∃pT,0+mm*5=pT:=⟨_,rfl⟩
 have HPT:Hid (0+mm*5=pT):=hpT;have HSA:Hid (a0/2^8=sA):=hsA;clear hmm hszp hpT hsA
 go_enter func5,ntmps5
 have sb:=YN w;iterate 2 go_step
 refine rp ?_;refine ZQ (by rfl) 23 _ rfl (#[.slice ab n c,.slice ae m ce]) rfl ?_;intro g4 z0 n0 r4 k;simp only[pv];have b4:=Nat.le_trans sb.size n0;clear n0;replace sb:=kk sb k;clear k;refine p_v (.bool false) (fun _=>rfl) (Zb ?_);simp only[pv];iterate 3 go_step
 refine rp ?_;refine p_f 20 func20 #[] (hA0 _) ?_;rintro _ z1000 ⟨gU,rfl,nU,rU,hb⟩;refine⟨_,rfl,?_⟩;simp only[pv];have d4xU:=l_l r4.lt nU;have bU:=Nat.le_trans sb.size nU;clear nU;have k:=Kept.ofBelow hb;clear hb;replace r4:=k.ro r4;replace sb:=kk sb k;clear k;refine p_f 21 func21 #[] (hA1 _) ?_;rintro _ z1001 ⟨gV,rfl,nV,rV,hb⟩;refine⟨_,rfl,?_⟩;simp only[pv];have d4xV:=l_l r4.lt nV;have dUxV:=l_l rU.lt nV;have bV:=Nat.le_trans sb.size nV;clear nV;have k:=Kept.ofBelow hb;clear hb;replace r4:=k.ro r4;replace rU:=k.ro rU;replace sb:=kk sb k;clear k;refine p_f 22 func22 #[] (hA2 _) ?_;rintro _ z1002 ⟨gW,rfl,nW,rW,hb⟩;refine⟨_,rfl,?_⟩;simp only[pv];have d4xW:=l_l r4.lt nW;have dUxW:=l_l rU.lt nW;have dVxW:=l_l rV.lt nW;have bW:=Nat.le_trans sb.size nW;clear nW;have k:=Kept.ofBelow hb;clear hb;replace r4:=k.ro r4;replace rU:=k.ro rU;replace rV:=k.ro rV;replace sb:=kk sb k;clear k;refine YW (by rfl) 61 59 3 _ rfl (Bh (some ⟨gU,0,none⟩) (some ⟨gV,0,none⟩) (some ⟨gW,0,none⟩) n0 n1 n2 G0 G1 G2) ip _ underlying61 hip hzp hp1 hp2 [(0,.agg (paC (some ⟨gU,0,none⟩) n0 n0 G0)),(1,.agg (paC (some ⟨gV,0,none⟩) n1 n1 G1)),(2,.agg (paC (some ⟨gW,0,none⟩) n2 n2 G2))] rfl (hlp _ _ _ _ _ _ _ _ _) ?_;intro gT z1003 n0 rT k;simp only[pv];have d4xT:=l_l r4.lt n0;have dUxT:=l_l rU.lt n0;have dVxT:=l_l rV.lt n0;have dWxT:=l_l rW.lt n0;have bT:=Nat.le_trans sb.size n0;clear n0;replace r4:=k.ro r4;replace rU:=k.ro rU;replace rV:=k.ro rV;replace rW:=k.ro rW;replace sb:=kk sb k;clear k;refine p_m ?_;simp only[pv];refine p_v (.int .i64 (m0:Nat)) (fun w'=>(Wf .and _ _ _ _ (.inl rfl) rfl a0 255 rfl rfl w').trans (by rw[hm0])) ?_;simp only[pv];refine p_v (.int .i64 (mm:Nat)) (fun w'=>(XM _ _ _ _ rfl m0 3 rfl rfl (by decide) w').trans (by rw[hMM.out])) ?_;simp only[pv];refine p_v (.pointer (some ⟨gT,pT,none⟩)) (fun w'=>(Zu 61 _ _ rfl gT 0 3 3 rfl mm rfl hm3 _ underlying61 5 sizeOf59 w').trans (by rw[HPT.out])) ?_;simp only[pv];refine ZE (by rfl) 59 _ rfl _ (pT) rfl rT.r (paC (some ⟨pk mm gU gV gW,0,none⟩) (pk mm n0 n1 n2) (pk mm n0 n1 n2) (pk mm G0 G1 G2)) (by rw[<-HPT.out];exact(Ox gU gV gW n0 n1 n2 G0 G1 G2 mm hm3)) _ underlying59 rfl YL ?_;simp only[pv];refine p_f 19 func19 #[.agg (paC (some ⟨pk mm gU gV gW,0,none⟩) (pk mm n0 n1 n2) (pk mm n0 n1 n2) (pk mm G0 G1 G2))] (hnw _ _ (Fc mm rU rV rW)) ?_;rintro _ z1009 ⟨g,gr,gf,rfl,⟨rG,rR,rF⟩,hb⟩;refine⟨_,rfl,?_⟩;simp only[pv];have k:=Kept.ofBelow hb;clear hb;replace r4:=k.ro r4;replace rU:=k.ro rU;replace rV:=k.ro rV;replace rW:=k.ro rW;replace rT:=k.ro rT;replace sb:=kk sb k;clear k;refine p_m ?_;refine p_e ?_;refine p_e ?_;refine p_a ?_;refine p_a (Zb ?_);simp only[pv];clear rU rV rW rT hA0 hA1 hA2 hnw hlp hip hzp hp1 hp2 bU bV bW bT;iterate 3 go_step
 refine rp ?_;refine p_m ?_;simp only[pv];refine p_v (.int .i64 sA) (fun w'=>(Ax _ _ _ _ rfl a0 8 rfl rfl (by decide) w').trans (by rw[HSA.out])) ?_;simp only[pv];refine p_v _ (GS _ _ _ _ rfl sA 1 _ rfl rfl hb1) ?_;simp only[pv];refine p_v (.int .i64 (t:Nat)) (fun w'=>(Yt _ _ _ _ rfl 1 b rfl rfl (by omega) w').trans (by rw[htb])) ?_;refine p_a (Zb ?_);simp only[pv];by_cases h1:n<1
 ·clear h;iterate 4 go_step
  refine rp ?_;refine p_m ?_;simp only[pv];refine p_v _ (ZO .i64 _ _ _ _ rfl (0) (0) rfl rfl false (by rw[decide_eq_true (by omega)];rfl)) ?_;refine p_m ?_;simp only[pv];refine p_v _ (Zl 23 _ _ rfl g4 rfl 0 2 rfl (by decide) _ underlying23 sizeOf22) ?_;simp only[pv];refine p_d 0 r4.r (.slice ab n c) rfl isAgg22 ?_;simp only[pv];refine p_v _ (n_l ab n c Zr) ?_;simp only[pv];refine p_v _ (XV ((n:Nat)) (1)) ?_;refine p_k false (.bool true) ?_;refine p_m ?_;refine p_s ?_;refine p_s ?_;simp only[pv];refine p_s ?_;refine p_s ?_;refine p_k true (.bool true) ?_;refine p_m ?_;refine p_s ?_;simp only[pv];refine p_s ?_;refine p_s ?_;refine p_s ?_;refine p_k true (.bool true) (Zb ?_);simp only[pv];iterate 4 go_step
  refine rp ?_;refine p_m ?_;simp only[pv];refine p_v _ (ZF .i64 _ _ _ _ rfl (0) (0) rfl rfl true (decide_eq_true rfl)) ?_;refine p_m ?_;simp only[pv];refine p_c 7 func7 #[] (haw _ sb) ?_;intro z4003 k;simp only[pv];replace sb:=kk sb k;clear k;refine p_k true (.bool true) ?_;refine p_a (Zb ?_);simp only[pv];go_wp2;go_ret;exact⟨rfl,sb⟩
 by_cases h2:3<n
 ·clear h;iterate 4 go_step
  refine rp ?_;refine p_m ?_;simp only[pv];refine p_v _ (ZO .i64 _ _ _ _ rfl (0) (0) rfl rfl false (by rw[decide_eq_true (by omega)];rfl)) ?_;refine p_m ?_;simp only[pv];refine p_v _ (Zl 23 _ _ rfl g4 rfl 0 2 rfl (by decide) _ underlying23 sizeOf22) ?_;simp only[pv];refine p_d 0 r4.r (.slice ab n c) rfl isAgg22 ?_;simp only[pv];refine p_v _ (n_l ab n c Zr) ?_;simp only[pv];refine p_v _ (XC ((n:Nat)) (1)) ?_;refine p_k false (.bool false) ?_;refine p_m ?_;simp only[pv];refine p_v _ (Zl 23 _ _ rfl g4 rfl 0 2 rfl (by decide) _ underlying23 sizeOf22) ?_;simp only[pv];refine p_d 0 r4.r (.slice ab n c) rfl isAgg22 ?_;simp only[pv];refine p_v _ (n_l ab n c Zr) ?_;simp only[pv];refine p_v _ (G7 ((n:Nat)) (3)) ?_;refine p_k false (.bool true) ?_;refine p_m ?_;refine p_s ?_;refine p_s ?_;simp only[pv];refine p_s ?_;refine p_s ?_;refine p_k true (.bool true) (Zb ?_);simp only[pv];iterate 4 go_step
  refine rp ?_;refine p_m ?_;simp only[pv];refine p_v _ (ZF .i64 _ _ _ _ rfl (0) (0) rfl rfl true (decide_eq_true rfl)) ?_;refine p_m ?_;simp only[pv];refine p_c 7 func7 #[] (haw _ sb) ?_;intro z4003 k;simp only[pv];replace sb:=kk sb k;clear k;refine p_k true (.bool true) ?_;refine p_a (Zb ?_);simp only[pv];go_wp2;go_ret;exact⟨rfl,sb⟩
 have h3:6<m:=by omega
 clear h;iterate 4 go_step
 refine rp ?_;refine p_m ?_;simp only[pv];refine p_v _ (ZO .i64 _ _ _ _ rfl (0) (0) rfl rfl false (by rw[decide_eq_true (by omega)];rfl)) ?_;refine p_m ?_;simp only[pv];refine p_v _ (Zl 23 _ _ rfl g4 rfl 0 2 rfl (by decide) _ underlying23 sizeOf22) ?_;simp only[pv];refine p_d 0 r4.r (.slice ab n c) rfl isAgg22 ?_;simp only[pv];refine p_v _ (n_l ab n c Zr) ?_;simp only[pv];refine p_v _ (XC ((n:Nat)) (1)) ?_;refine p_k false (.bool false) ?_;refine p_m ?_;simp only[pv];refine p_v _ (Zl 23 _ _ rfl g4 rfl 0 2 rfl (by decide) _ underlying23 sizeOf22) ?_;simp only[pv];refine p_d 0 r4.r (.slice ab n c) rfl isAgg22 ?_;simp only[pv];refine p_v _ (n_l ab n c Zr) ?_;simp only[pv];refine p_v _ (QD ((n:Nat)) (3)) ?_;refine p_k false (.bool false) ?_;refine p_m ?_;simp only[pv];refine p_v _ (Zl 23 _ _ rfl g4 rfl 1 2 rfl (by decide) _ underlying23 sizeOf22) ?_;simp only[pv];refine p_d 1 r4.r (.slice ae m ce) rfl isAgg22 ?_;simp only[pv];refine p_v _ (n_l ae m ce Zr) ?_;simp only[pv];refine p_v _ (G7 ((m:Nat)) (6)) ?_;refine p_k false (.bool true) (Zb ?_);simp only[pv];iterate 4 go_step
 refine rp ?_;refine p_m ?_;simp only[pv];refine p_v _ (ZF .i64 _ _ _ _ rfl (0) (0) rfl rfl true (decide_eq_true rfl)) ?_;refine p_m ?_;simp only[pv];refine p_c 7 func7 #[] (haw _ sb) ?_;intro z4003 k;simp only[pv];replace sb:=kk sb k;clear k;refine p_k true (.bool true) ?_;refine p_a (Zb ?_);simp only[pv];go_wp2;go_ret;exact⟨rfl,sb⟩
theorem zS {QQ:Nat}[NeZero QQ]{PP GG:Nat}(f:GF PP QQ GG)(hQ:1073741824<=QQ)(a0 a2:Int)(m0 mm n0 n1 n2 G0 G1 G2:Nat)(L0 L1 L2:Array Value)(b t n c m ce:Nat)(ab ae:Option Addr)(F E:Nat->Nat)(gb ob ge oe:Nat)(bcs ecs:Array Value)(tb te:TypeId)(bn:Nat->Nat)(w:World)(kT:KT w)(hm0:bits .and .i64 a0 255=(m0:Int))(hmm:m0%3=mm)(sA:Int)(hsA:a0/2^8=sA)(hb1:bits .and .i64 sA 1=((b:Nat):Int))(htb:1+b=t)(hbb:b<=1)(ht1:1<=t)(ht2:t<=2)(h1:1<=n)(h3:n<=3)(h6:m<=6)(hbn: ∀k:Nat,bits .and .i64 (a2/2^k) 1=((bn k:Nat):Int))
  (hna:NatsAt w ab n F gb ob bcs tb)(hnb:NatsAt w ae m E ge oe ecs te)
  (hA0: ∀w',Calls prog 20 #[] w' fun e w2=> ∃g,e= .returned (.agg (paC (some ⟨g,0,none⟩) n0 n0 G0))/\w'.heap.size<=g/\Row w2 g L0 106/\Below w'.heap.size w' w2)
  (hA1: ∀w',Calls prog 21 #[] w' fun e w2=> ∃g,e= .returned (.agg (paC (some ⟨g,0,none⟩) n1 n1 G1))/\w'.heap.size<=g/\Row w2 g L1 106/\Below w'.heap.size w' w2)
  (hA2: ∀w',Calls prog 22 #[] w' fun e w2=> ∃g,e= .returned (.agg (paC (some ⟨g,0,none⟩) n2 n2 G2))/\w'.heap.size<=g/\Row w2 g L2 106/\Below w'.heap.size w' w2)
  (hnw: ∀w' x,Row w' x (pk mm L0 L1 L2) 106->Calls prog 19 #[.agg (paC (some ⟨x,0,none⟩) (pk mm n0 n1 n2) (pk mm n0 n1 n2) (pk mm G0 G1 G2))] w' fun e w2=> ∃g gr gf,e= .returned (.tuple #[.pointer (some ⟨g,0,none⟩),.int .i64 0])/\GrpAt w2 g gr gf PP QQ GG/\Below w'.heap.size w' w2):
  Calls prog 5 #[.int .i64 a0,.agg #[.slice ab n c,.slice ae m ce],.int .i64 a2] w fun e w'=>e= .returned (.bool true)/\Below w.heap.size w w':=by
 have haw:=fun w' (hb:Below w.heap.size w w')=>TE w' (kT.below hb)
 clear kT;have HA:Hid (NatsAt w ab n F gb ob bcs tb):=hna;have HE:Hid (NatsAt w ae m E ge oe ecs te):=hnb;have HBN:Hid (∀k:Nat,bits .and .i64 (a2/2^k) 1=((bn k:Nat):Int)):=hbn;clear hna hnb hbn;obtain⟨ip,hip,hzp,hszp⟩:=Ow
 have hp1: ¬3*ip.size>2^24:=by rw[hszp];decide
 have hp2: ¬3*ip.size=0:=by rw[hszp];decide
 have hlp:=fun x y z n m l X Y Z=>L8 x y z n m l X Y Z ip.size hszp
 have hMM:Hid (m0%3=mm):=hmm
 have hm3:mm<3:=by rw[<-hmm];exact Nat.mod_lt _ (by decide)
 obtain⟨pT,hpT⟩: ∃pT,0+mm*5=pT:=⟨_,rfl⟩
 have HPT:Hid (0+mm*5=pT):=hpT;have HSA:Hid (a0/2^8=sA):=hsA;clear hmm hszp hpT hsA
 go_enter func5,ntmps5
 have sb:=YN w;iterate 2 go_step
 refine rp ?_;refine ZQ (by rfl) 23 _ rfl (#[.slice ab n c,.slice ae m ce]) rfl ?_;intro g4 z0 n0 r4 k;simp only[pv];have b4:=Nat.le_trans sb.size n0;clear n0;replace sb:=kk sb k;clear k;refine p_v (.bool false) (fun _=>rfl) (Zb ?_);simp only[pv];iterate 3 go_step
 refine rp ?_;refine p_f 20 func20 #[] (hA0 _) ?_;rintro _ z1000 ⟨gU,rfl,nU,rU,hb⟩;refine⟨_,rfl,?_⟩;simp only[pv];have d4xU:=l_l r4.lt nU;have bU:=Nat.le_trans sb.size nU;clear nU;have k:=Kept.ofBelow hb;clear hb;replace r4:=k.ro r4;replace sb:=kk sb k;clear k;refine p_f 21 func21 #[] (hA1 _) ?_;rintro _ z1001 ⟨gV,rfl,nV,rV,hb⟩;refine⟨_,rfl,?_⟩;simp only[pv];have d4xV:=l_l r4.lt nV;have dUxV:=l_l rU.lt nV;have bV:=Nat.le_trans sb.size nV;clear nV;have k:=Kept.ofBelow hb;clear hb;replace r4:=k.ro r4;replace rU:=k.ro rU;replace sb:=kk sb k;clear k;refine p_f 22 func22 #[] (hA2 _) ?_;rintro _ z1002 ⟨gW,rfl,nW,rW,hb⟩;refine⟨_,rfl,?_⟩;simp only[pv];have d4xW:=l_l r4.lt nW;have dUxW:=l_l rU.lt nW;have dVxW:=l_l rV.lt nW;have bW:=Nat.le_trans sb.size nW;clear nW;have k:=Kept.ofBelow hb;clear hb;replace r4:=k.ro r4;replace rU:=k.ro rU;replace rV:=k.ro rV;replace sb:=kk sb k;clear k;refine YW (by rfl) 61 59 3 _ rfl (Bh (some ⟨gU,0,none⟩) (some ⟨gV,0,none⟩) (some ⟨gW,0,none⟩) n0 n1 n2 G0 G1 G2) ip _ underlying61 hip hzp hp1 hp2 [(0,.agg (paC (some ⟨gU,0,none⟩) n0 n0 G0)),(1,.agg (paC (some ⟨gV,0,none⟩) n1 n1 G1)),(2,.agg (paC (some ⟨gW,0,none⟩) n2 n2 G2))] rfl (hlp _ _ _ _ _ _ _ _ _) ?_;intro gT z1003 n0 rT k;simp only[pv];have d4xT:=l_l r4.lt n0;have dUxT:=l_l rU.lt n0;have dVxT:=l_l rV.lt n0;have dWxT:=l_l rW.lt n0;have bT:=Nat.le_trans sb.size n0;clear n0;replace r4:=k.ro r4;replace rU:=k.ro rU;replace rV:=k.ro rV;replace rW:=k.ro rW;replace sb:=kk sb k;clear k;refine p_m ?_;simp only[pv];refine p_v (.int .i64 (m0:Nat)) (fun w'=>(Wf .and _ _ _ _ (.inl rfl) rfl a0 255 rfl rfl w').trans (by rw[hm0])) ?_;simp only[pv];refine p_v (.int .i64 (mm:Nat)) (fun w'=>(XM _ _ _ _ rfl m0 3 rfl rfl (by decide) w').trans (by rw[hMM.out])) ?_;simp only[pv];refine p_v (.pointer (some ⟨gT,pT,none⟩)) (fun w'=>(Zu 61 _ _ rfl gT 0 3 3 rfl mm rfl hm3 _ underlying61 5 sizeOf59 w').trans (by rw[HPT.out])) ?_;simp only[pv];refine ZE (by rfl) 59 _ rfl _ (pT) rfl rT.r (paC (some ⟨pk mm gU gV gW,0,none⟩) (pk mm n0 n1 n2) (pk mm n0 n1 n2) (pk mm G0 G1 G2)) (by rw[<-HPT.out];exact(Ox gU gV gW n0 n1 n2 G0 G1 G2 mm hm3)) _ underlying59 rfl YL ?_;simp only[pv];refine p_f 19 func19 #[.agg (paC (some ⟨pk mm gU gV gW,0,none⟩) (pk mm n0 n1 n2) (pk mm n0 n1 n2) (pk mm G0 G1 G2))] (hnw _ _ (Fc mm rU rV rW)) ?_;rintro _ z1009 ⟨g,gr,gf,rfl,⟨rG,rR,rF⟩,hb⟩;refine⟨_,rfl,?_⟩;simp only[pv];have k:=Kept.ofBelow hb;clear hb;replace r4:=k.ro r4;replace rU:=k.ro rU;replace rV:=k.ro rV;replace rW:=k.ro rW;replace rT:=k.ro rT;replace sb:=kk sb k;clear k;refine p_m ?_;refine p_e ?_;refine p_e ?_;refine p_a ?_;refine p_a (Zb ?_);simp only[pv];clear rU rV rW rT hA0 hA1 hA2 hnw hlp hip hzp hp1 hp2 bU bV bW bT;iterate 3 go_step
 refine rp ?_;refine p_m ?_;simp only[pv];refine p_v (.int .i64 sA) (fun w'=>(Ax _ _ _ _ rfl a0 8 rfl rfl (by decide) w').trans (by rw[HSA.out])) ?_;simp only[pv];refine p_v _ (GS _ _ _ _ rfl sA 1 _ rfl rfl hb1) ?_;simp only[pv];refine p_v (.int .i64 (t:Nat)) (fun w'=>(Yt _ _ _ _ rfl 1 b rfl rfl (by omega) w').trans (by rw[htb])) ?_;refine p_a (Zb ?_);simp only[pv];iterate 4 go_step
 refine rp ?_;refine p_m ?_;simp only[pv];refine p_v _ (ZO .i64 _ _ _ _ rfl (0) (0) rfl rfl false (by rw[decide_eq_true (by omega)];rfl)) ?_;refine p_m ?_;simp only[pv];refine p_v _ (Zl 23 _ _ rfl g4 rfl 0 2 rfl (by decide) _ underlying23 sizeOf22) ?_;simp only[pv];refine p_d 0 r4.r (.slice ab n c) rfl isAgg22 ?_;simp only[pv];refine p_v _ (n_l ab n c Zr) ?_;simp only[pv];refine p_v _ (XC ((n:Nat)) (1)) ?_;refine p_k false (.bool false) ?_;refine p_m ?_;simp only[pv];refine p_v _ (Zl 23 _ _ rfl g4 rfl 0 2 rfl (by decide) _ underlying23 sizeOf22) ?_;simp only[pv];refine p_d 0 r4.r (.slice ab n c) rfl isAgg22 ?_;simp only[pv];refine p_v _ (n_l ab n c Zr) ?_;simp only[pv];refine p_v _ (QD ((n:Nat)) (3)) ?_;refine p_k false (.bool false) ?_;refine p_m ?_;simp only[pv];refine p_v _ (Zl 23 _ _ rfl g4 rfl 1 2 rfl (by decide) _ underlying23 sizeOf22) ?_;simp only[pv];refine p_d 1 r4.r (.slice ae m ce) rfl isAgg22 ?_;simp only[pv];refine p_v _ (n_l ae m ce Zr) ?_;simp only[pv];refine p_v _ (QD ((m:Nat)) (6)) ?_;refine p_k false (.bool false) (Zb ?_);simp only[pv];iterate 7 go_step
 refine rp ?_;refine p_v (.slice none 0 0) (fun _=>rfl) ?_;refine p_v (.slice none 0 0) (fun _=>rfl) (Zb ?_);simp only[pv];iterate 4 go_step
 refine rp ?_;refine p_v (.int .i64 0) (fun _=>rfl) (Zb ?_);simp only[pv];obtain⟨ie,hie,hze,hs4,hb4⟩:=Yn
 have hn1: ¬1*ie.size>2^24:=by rw[hs4];decide
 have hn2: ¬1*ie.size=0:=by rw[hs4];decide
 have hli:=fun x=>Aw x ie.size hs4
 have R4:Row z1009 g4 #[.slice ab n c,.slice ae m ce] 23:=r4;have RGz:GrpAt z1009 g gr gf PP QQ GG:=⟨rG,rR,rF⟩;have hg4:=r4.lt;have sd:=YN z1009;clear r4 rG rR rF
 go_wp2_with fail
 go_loopg [10,11,12,13,14,15] n (fun y s10 s11 s12 s13 s14 s15 wr=> ∃(i:Nat) (vN vR:Value),i+y=n/\vN=s10/\vR=s11/\s12= .int .i64 i/\Vg wr z1009.heap.size vN i (n30 F)/\Vg wr z1009.heap.size vR (t*i) (r30 t m E)/\(∀b,vN.ownBlock=some b->vR.ownBlock≠some b)/\Below z1009.heap.size z1009 wr)
 case atStart=>exact⟨0,.slice none 0 0,.slice none 0 0,by omega,rfl,rfl,rfl,OI _ _ _,OI _ _ _,(fun b h=>by cases h),sd⟩
 case round=>
  clear sd;obtain⟨i,vN,vR,hi,rfl,rfl,rfl,hN,hR,zhRxhN,sd⟩:=hrel;have zhNxhR:=Tl zhRxhN;have r4:=R4.belowAll sd
  cases gk with
  |succ yv=>
   have hlt:i<n:=by omega
   have hF30:=Nf F i;have hlit:=hli (n30 F i);obtain h0|⟨rfl,rB,hbt⟩:=(HA.out.below (Zk sb (Nat.le_refl _) sd)).at'
   ·exact absurd h0 (by omega)
   have hbi:=hbt i hlt;clear hbt;iterate 2 go_step
   refine rp ?_;refine p_m ?_;simp only[pv];refine p_v _ (Zl 23 _ _ rfl g4 rfl 0 2 rfl (by decide) _ underlying23 sizeOf22) ?_;simp only[pv];refine p_d 0 r4.r (.slice (some ⟨gb,ob,none⟩) n c) rfl isAgg22 ?_;simp only[pv];refine p_v _ (n_l (some ⟨gb,ob,none⟩) n c Zr) ?_;simp only[pv];refine p_v _ (XV ((i:Nat)) ((n:Nat))) (Zb ?_);simp only[pv];iterate 9 go_step
   refine rp ?_;refine p_v _ (Zl 23 _ _ rfl g4 rfl 0 2 rfl (by decide) _ underlying23 sizeOf22) ?_;simp only[pv];refine p_d 0 r4.r (.slice (some ⟨gb,ob,none⟩) n c) rfl isAgg22 ?_;refine p_m ?_;simp only[pv];refine p_x i hlt underlying22 Zz ?_;simp only[pv];refine ZE (by rfl) 57 _ rfl _ (ob+i*4) rfl rB (Zd (F i)) hbi _ underlying57 rfl Zc ?_;simp only[pv];refine ZM (by rfl) 57 rfl _ Zo ?_;intro g13 z9005 n0 r13 k;simp only[pv];have d4x13:=l_l r4.lt n0;have ehNx13:=hN.new n0;have ehRx13:=hR.new n0;have b13:=Nat.le_trans sd.size n0;clear n0;replace r4:=k.ro r4;replace hN:=hN.on k (YM _);replace hR:=hR.on k (YM _);replace sd:=kk sd k;clear k;refine p_p r13 (F i) ?_;clear r13;intro z9006 r13 k;simp only[Act.put];replace r4:=k.ro r4;replace hN:=hN.on k (Y7 ehNx13);replace hR:=hR.on k (Y7 ehRx13);replace sd:=kk sd k;clear k;refine Zb ?_;clear rB hbi;iterate 3 go_step
   refine rp ?_;refine p_v _ (Zl 57 _ _ rfl g13 rfl 1 4 rfl (by decide) _ underlying57 sizeOf55) ?_;simp only[pv];refine YD (by rfl) 55 _ _ rfl _ (1) rfl r13 (.int .u64 0) rfl rfl rfl XE (by show 1<4;decide) (#[.int .u64 (lm (F i) 0:Nat),.int .u64 0,.int .u64 (lm (F i) 2:Nat),.int .u64 (lm (F i) 3:Nat)]) rfl ?_;clear r13;intro z10001 r13 k;simp only[Act.put];replace r4:=k.ro r4;replace hN:=hN.on k (Y7 ehNx13);replace hR:=hR.on k (Y7 ehRx13);replace sd:=kk sd k;clear k;refine Zb ?_;iterate 3 go_step
   refine rp ?_;refine p_v _ (Zl 57 _ _ rfl g13 rfl 2 4 rfl (by decide) _ underlying57 sizeOf55) ?_;simp only[pv];refine YD (by rfl) 55 _ _ rfl _ (2) rfl r13 (.int .u64 0) rfl rfl rfl XE (by show 2<4;decide) (#[.int .u64 (lm (F i) 0:Nat),.int .u64 0,.int .u64 0,.int .u64 (lm (F i) 3:Nat)]) rfl ?_;clear r13;intro z11001 r13 k;simp only[Act.put];replace r4:=k.ro r4;replace hN:=hN.on k (Y7 ehNx13);replace hR:=hR.on k (Y7 ehRx13);replace sd:=kk sd k;clear k;refine Zb ?_;iterate 3 go_step
   refine rp ?_;refine p_v _ (Zl 57 _ _ rfl g13 rfl 3 4 rfl (by decide) _ underlying57 sizeOf55) ?_;simp only[pv];refine YD (by rfl) 55 _ _ rfl _ (3) rfl r13 (.int .u64 0) rfl rfl rfl XE (by show 3<4;decide) (#[.int .u64 (lm (F i) 0:Nat),.int .u64 0,.int .u64 0,.int .u64 0]) rfl ?_;clear r13;intro z12001 r13 k;simp only[Act.put];replace r4:=k.ro r4;replace hN:=hN.on k (Y7 ehNx13);replace hR:=hR.on k (Y7 ehRx13);replace sd:=kk sd k;clear k;refine Zb ?_;iterate 3 go_step
   refine rp ?_;refine p_v _ (Zl 57 _ _ rfl g13 rfl 0 4 rfl (by decide) _ underlying57 sizeOf55) ?_;simp only[pv];refine p_d 0 r13.r (.int .u64 (lm (F i) 0:Nat)) rfl isAgg55 ?_;simp only[pv];refine p_v (.int .u64 (n30 F i:Nat)) (PT _ _ _ _ rfl (lm (F i) 0) 1073741823 (n30 F i) rfl rfl (FP _) (by decide) (lm0 _)) ?_;simp only[pv];refine p_v _ (Zl 57 _ _ rfl g13 rfl 0 4 rfl (by decide) _ underlying57 sizeOf55) ?_;simp only[pv];refine YD (by rfl) 55 _ _ rfl _ (0) rfl r13 (.int .u64 (n30 F i:Nat)) rfl rfl rfl XE (by show 0<4;decide) (Zd (n30 F i)) (Ng hF30) ?_;clear r13;intro z13004 r13 k;simp only[Act.put];replace r4:=k.ro r4;replace hN:=hN.on k (Y7 ehNx13);replace hR:=hR.on k (Y7 ehRx13);replace sd:=kk sd k;clear k;refine Zb ?_;iterate 3 go_step
   refine rp ?_;refine p_m ?_;simp only[pv];refine p_l r13.r ?_;simp only[pv];refine YW (by rfl) 22 57 1 _ rfl (Zd (n30 F i)) ie _ underlying22 hie hze hn1 hn2 [(0,.agg (Zd (n30 F i)))] rfl hlit ?_;intro gA z14002 n0 rA k;simp only[pv];have d13xA:=l_l r13.lt n0;have d4xA:=l_l r4.lt n0;have ehNxA:=hN.new n0;have ehRxA:=hR.new n0;have bA:=Nat.le_trans sd.size n0;clear n0;replace r13:=k.ro r13;replace r4:=k.ro r4;replace hN:=hN.on k (YM _);replace hR:=hR.on k (YM _);replace sd:=kk sd k;clear k;refine Po (by rfl) _ _ rfl (z1009.heap.size) (_) (i) ((n30 F)) rfl hN gA _ rfl rA ((by omega)) sd.size ?_;have h0:=hN;clear hN;intro v1 z14003 hN k hp;simp only[pv];have cr13:=r13.lt;replace r13:=k.row r13 (by first|exact Xh ehNx13|exact Xh (h0.low (by omega)));have cr4:=r4.lt;replace r4:=k.row r4 (by first|exact Xh ehNx4|exact Xh (h0.low (by omega)));have zt:=Pr hR hp zhNxhR;replace hR:=hR.on k (S3 zhNxhR);clear zhNxhR zhRxhN;have zhNxhR:=zt;have zhRxhN:=Tl zt;clear zt
   (try replace ehNx13:=XT hp cr13 ehNx13)
   clear cr13
   (try replace ehNx4:=XT hp cr4 ehNx4)
   clear cr4;clear hp;replace sd:=sd.trans (k.below z1009.heap.size sd.size h0.base);clear h0;clear k;refine p_a (Zb ?_);simp only[pv];iterate 3 go_step
   refine rp ?_;refine p_v (.int .i64 0) (fun _=>rfl) (Zb ?_);simp only[pv];clear r4 hlit hF30
   go_wp2_with fail
   go_loopg [11,14,15] t (fun y s11 s14 s15 wr=> ∃(k:Nat) (vR:Value),k+y=t/\vR=s11/\s14= .int .i64 k/\Vg wr z1009.heap.size v1 (i+1) (n30 F)/\Vg wr z1009.heap.size vR (t*i+k) (r30 t m E)/\(∀b,v1.ownBlock=some b->vR.ownBlock≠some b)/\Below z1009.heap.size z1009 wr)
   case atStart=>exact⟨0,vR,by omega,rfl,rfl,hN,hR,zhRxhN,sd⟩
   case round=>
    clear sd hN hR zhRxhN zhNxhR;obtain⟨k,vR2,hk,rfl,rfl,hN,hR,zhRxhN,sd⟩:=hrel;have zhNxhR:=Tl zhRxhN;have r4:=R4.belowAll sd
    cases gk with
    |zero=>
     have hkt:k=t:=by omega
     have hR2:=hR;rw[hkt,<-Nat.mul_succ]at hR2;have zhR2xhN:=zhRxhN;have zhNxhR2:=zhNxhR;have hkn: ¬(k:Int)<(t:Int):=by omega
     clear hkt hR zhRxhN zhNxhR r4;iterate 2 go_step
     refine rp ?_;refine p_m ?_;refine p_m ?_;simp only[pv];refine p_v _ (Yb _ _ _ _ rfl (k:Nat) (t:Nat) rfl rfl false (decide_eq_false hkn)) (Zb ?_);simp only[pv];iterate 6 go_step
     refine rp ?_;refine p_m ?_;simp only[pv];refine p_v _ (x_a (i) (1)) ?_;refine p_a (Zb ?_);simp only[pv];go_wp2
     go_roundg yv
     case measure=>omega
     case rel=>exact⟨i+1,v1,vR2,by omega,rfl,rfl,rfl,hN,hR2,zhR2xhN,sd⟩
    |succ yw=>
     have hkt:k<t:=by omega
     have hti':t*i<=2*2:=Nat.mul_le_mul (by omega) (by omega);have hJ30:=JH (t:=t) (m:=m) (E:=E) (show t*i+k<1000 by omega);have hlit:=hli (r30 t m E (t*i+k));have hcv:IntKind.u64.wrap ((i+1:Nat):Int)=((i+1:Nat):Int):=JI (by omega);obtain⟨q,hq⟩: ∃q,t*i=q:=⟨_,rfl⟩
     have HQ:Hid (t*i=q):=hq;rw[hq]at hR hti' hJ30 hlit;clear hq;iterate 2 go_step
     refine rp ?_;refine p_m ?_;refine p_m ?_;simp only[pv];refine p_v _ (XV (k:Nat) (t:Nat)) (Zb ?_);simp only[pv];iterate 9 go_step
     refine rp ?_;refine p_m ?_;simp only[pv];refine p_v _ (x_a (i) (1)) ?_;simp only[pv];refine p_v (.int .u64 ((i+1:Nat):Int)) (W1 _ _ _ rfl .i64 .u64 underlying3 underlying55 ((i+1:Nat):Int) _ rfl hcv) ?_;simp only[pv];refine p_v _ (ZJ _ [(0,_)] rfl [(0,.int .u64 ((i+1:Nat):Int))] rfl _ ((GR _).trans (congrArg some (Ng (by omega))))) ?_;simp only[pv];refine ZM (by rfl) 57 rfl _ Zo ?_;intro g15 z18004 n0 r15 k;simp only[pv];have d4x15:=l_l r4.lt n0;have ehNx15:=hN.new n0;have ehRx15:=hR.new n0;have b15:=Nat.le_trans sd.size n0;clear n0;replace r4:=k.ro r4;replace hN:=hN.on k (YM _);replace hR:=hR.on k (YM _);replace sd:=kk sd k;clear k;refine p_p r15 (i+1) ?_;clear r15;intro z18005 r15 k;simp only[Act.put];replace r4:=k.ro r4;replace hN:=hN.on k (Y7 ehNx15);replace hR:=hR.on k (Y7 ehRx15);replace sd:=kk sd k;clear k;refine Zb ?_;by_cases hjm:q+k<m
     ·obtain h0|⟨rfl,rE,hbt⟩:=(HE.out.below (Zk sb (Nat.le_refl _) sd)).at'
      ·exact absurd h0 (by omega)
      have hbj:=hbt (q+k) hjm 0 _ rfl;have hyes:=CD (t:=t) (E:=E) hjm;clear hbt;iterate 4 go_step
      refine rp ?_;refine p_m ?_;refine p_m ?_;simp only[pv];refine p_v _ (Yi _ _ _ _ rfl t i q rfl rfl HQ.out (by omega)) ?_;refine p_m ?_;simp only[pv];refine p_v _ (x_a (q) (k)) ?_;simp only[pv];refine p_v _ (Zl 23 _ _ rfl g4 rfl 1 2 rfl (by decide) _ underlying23 sizeOf22) ?_;simp only[pv];refine p_d 1 r4.r (.slice (some ⟨ge,oe,none⟩) m ce) rfl isAgg22 ?_;simp only[pv];refine p_v _ (n_l (some ⟨ge,oe,none⟩) m ce Zr) ?_;simp only[pv];refine p_v _ (XV (((q+k:Nat):Int)) ((m:Nat))) (Zb ?_);simp only[pv];iterate 3 go_step
      refine rp ?_;refine p_v _ (Zl 23 _ _ rfl g4 rfl 1 2 rfl (by decide) _ underlying23 sizeOf22) ?_;simp only[pv];refine p_d 1 r4.r (.slice (some ⟨ge,oe,none⟩) m ce) rfl isAgg22 ?_;refine p_m ?_;refine p_m ?_;simp only[pv];refine p_v _ (Yi _ _ _ _ rfl t i q rfl rfl HQ.out (by omega)) ?_;refine p_m ?_;simp only[pv];refine p_v _ (x_a (q) (k)) ?_;simp only[pv];refine p_x ((q+k)) hjm underlying22 Zz ?_;simp only[pv];refine p_v _ (Yf 57 _ _ rfl ge (oe+(q+k)*4) rfl 0 4 rfl (by decide) _ underlying57 1 sizeOf55) ?_;simp only[pv];refine p_d (oe+(q+k)*4) rE (.int .u64 (lm (E (q+k)) 0:Nat)) hbj isAgg55 ?_;simp only[pv];refine p_v (.int .u64 (r30 t m E (q+k):Nat)) (PT _ _ _ _ rfl (lm (E (q+k)) 0) 1073741823 (r30 t m E (q+k)) rfl rfl (FP _) (by decide) ((lm0 _).trans hyes.symm)) ?_;simp only[pv];refine p_v _ (Zl 57 _ _ rfl g15 rfl 0 4 rfl (by decide) _ underlying57 sizeOf55) ?_;simp only[pv];refine YD (by rfl) 55 _ _ rfl _ (0) rfl r15 (.int .u64 (r30 t m E (q+k):Nat)) rfl rfl rfl XE (by show 0<4;decide) (Zd (r30 t m E (q+k))) (CE hJ30 (by omega)) ?_;clear r15;intro z20012 r15 k;simp only[Act.put];replace r4:=k.ro r4;replace hN:=hN.on k (Y7 ehNx15);replace hR:=hR.on k (Y7 ehRx15);replace sd:=kk sd k;clear k;refine Zb ?_;clear rE hbj hyes;iterate 2 go_step
      refine rp ?_;refine p_m ?_;simp only[pv];refine p_l r15.r ?_;simp only[pv];refine YW (by rfl) 22 57 1 _ rfl (Zd (r30 t m E (q+k))) ie _ underlying22 hie hze hn1 hn2 [(0,.agg (Zd (r30 t m E (q+k))))] rfl hlit ?_;intro gA z21002 n0 rA k;simp only[pv];have d15xA:=l_l r15.lt n0;have ehNxA:=hN.new n0;have ehRxA:=hR.new n0;have bA:=Nat.le_trans sd.size n0;clear n0;replace r15:=k.ro r15;replace hN:=hN.on k (YM _);replace hR:=hR.on k (YM _);replace sd:=kk sd k;clear k;refine Po (by rfl) _ _ rfl (z1009.heap.size) (_) (q+k) ((r30 t m E)) rfl hR gA _ rfl rA ((by omega)) sd.size ?_;have h0:=hR;clear hR;intro v1 z21003 hR k hp;simp only[pv];have cr15:=r15.lt;replace r15:=k.row r15 (by first|exact Xh ehRx15|exact Xh (h0.low (by omega)));have zt:=Pr hN hp zhRxhN;replace hN:=hN.on k (S3 zhRxhN);clear zhRxhN zhNxhR;have zhRxhN:=zt;have zhNxhR:=Tl zt;clear zt
      (try replace ehRx15:=XT hp cr15 ehRx15)
      clear cr15;clear hp;replace sd:=sd.trans (k.below z1009.heap.size sd.size h0.base);clear h0;clear k;refine p_a (Zb ?_);simp only[pv];iterate 2 go_step
      refine rp ?_;refine p_m ?_;simp only[pv];refine p_v _ (x_a (k) (1)) ?_;refine p_a (Zb ?_);simp only[pv];go_wp2
      go_roundg yw
      case measure=>omega
      case rel=>exact⟨k+1,_,by omega,rfl,rfl,hN,by rw[HQ.out];exact hR,zhRxhN,sd⟩
     ·have hno:=Av (E:=E) hkt (by rw[HQ.out];exact hjm);rw[HQ.out]at hno;iterate 4 go_step
      refine rp ?_;refine p_m ?_;refine p_m ?_;simp only[pv];refine p_v _ (Yi _ _ _ _ rfl t i q rfl rfl HQ.out (by omega)) ?_;refine p_m ?_;simp only[pv];refine p_v _ (x_a (q) (k)) ?_;simp only[pv];refine p_v _ (Zl 23 _ _ rfl g4 rfl 1 2 rfl (by decide) _ underlying23 sizeOf22) ?_;simp only[pv];refine p_d 1 r4.r (.slice ae m ce) rfl isAgg22 ?_;simp only[pv];refine p_v _ (n_l ae m ce Zr) ?_;simp only[pv];refine p_v _ (XC (((q+k:Nat):Int)) ((m:Nat))) (Zb ?_);simp only[pv];rw[<-hno]at r15;clear hno;iterate 6 go_step
      refine rp ?_;refine p_m ?_;simp only[pv];refine p_l r15.r ?_;simp only[pv];refine YW (by rfl) 22 57 1 _ rfl (Zd (r30 t m E (q+k))) ie _ underlying22 hie hze hn1 hn2 [(0,.agg (Zd (r30 t m E (q+k))))] rfl hlit ?_;intro gA z21002 n0 rA k;simp only[pv];have d15xA:=l_l r15.lt n0;have ehNxA:=hN.new n0;have ehRxA:=hR.new n0;have bA:=Nat.le_trans sd.size n0;clear n0;replace r15:=k.ro r15;replace hN:=hN.on k (YM _);replace hR:=hR.on k (YM _);replace sd:=kk sd k;clear k;refine Po (by rfl) _ _ rfl (z1009.heap.size) (_) (q+k) ((r30 t m E)) rfl hR gA _ rfl rA ((by omega)) sd.size ?_;have h0:=hR;clear hR;intro v1 z21003 hR k hp;simp only[pv];have cr15:=r15.lt;replace r15:=k.row r15 (by first|exact Xh ehRx15|exact Xh (h0.low (by omega)));have zt:=Pr hN hp zhRxhN;replace hN:=hN.on k (S3 zhRxhN);clear zhRxhN zhNxhR;have zhRxhN:=zt;have zhNxhR:=Tl zt;clear zt
      (try replace ehRx15:=XT hp cr15 ehRx15)
      clear cr15;clear hp;replace sd:=sd.trans (k.below z1009.heap.size sd.size h0.base);clear h0;clear k;refine p_a (Zb ?_);simp only[pv];iterate 2 go_step
      refine rp ?_;refine p_m ?_;simp only[pv];refine p_v _ (x_a (k) (1)) ?_;refine p_a (Zb ?_);simp only[pv];go_wp2
      go_roundg yw
      case measure=>omega
      case rel=>exact⟨k+1,_,by omega,rfl,rfl,hN,by rw[HQ.out];exact hR,zhRxhN,sd⟩
  |zero=>
   have hin: ¬(i:Int)<(n:Int):=by omega
   obtain⟨q3,hq3⟩: ∃q3,t*i=q3:=⟨_,rfl⟩
   have hi2:i=n:=by omega
   rw[hq3]at hR;rw[hi2]at hN;have HQ3:Hid (q3=t*n):=(show q3=t*n by rw[<-hq3,hi2])
   have hqn:1<=q3/\q3<=6:=by
    have e:q3=t*n:=HQ3.out;have e1:1*1<=t*n:=Nat.mul_le_mul (by omega) h1;have e2:t*n<=2*3:=Nat.mul_le_mul (by omega) h3;omega
   have HI:Hid (i=n):=hi2;clear hq3 hi hi2 hli zhRxhN zhNxhR hie hze hs4 hb4 hn1 hn2;iterate 2 go_step
   refine rp ?_;refine p_m ?_;simp only[pv];refine p_v _ (Zl 23 _ _ rfl g4 rfl 0 2 rfl (by decide) _ underlying23 sizeOf22) ?_;simp only[pv];refine p_d 0 r4.r (.slice ab n c) rfl isAgg22 ?_;simp only[pv];refine p_v _ (n_l ab n c Zr) ?_;simp only[pv];refine p_v _ (Yb _ _ _ _ rfl (i:Nat) (n:Nat) rfl rfl false (decide_eq_false hin)) (Zb ?_);simp only[pv];obtain⟨gN,cN,csN,eN,hcN,hnN⟩:=Nh hN (fun j _=>Nat.lt_trans (Nf F j) (by decide)) h1;obtain⟨gR,cR,csR,eR,hcR,hnR⟩:=Nh hR (fun j hj=>Nat.lt_trans (JH (by omega)) (by decide)) hqn.1;subst eN eR;clear hN hR r4 hin;obtain⟨p3,hp3⟩: ∃p3,3*t+1=p3:=⟨_,rfl⟩
   have HP3:Hid (3*t+1=p3):=hp3;have hp7:4<=p3/\p3<=7:=by omega
   have hGr:=RGz.below sd
   have hDl:=JB n cN q3 cR t (n30 F) (r30 t m E) gN 0 gR 0 csN csR 57 57 (by omega) (by omega) (Az h1 h3 (by omega)) HQ3.out hcN hcR f hGr hnN hnR
    (fun w' hb=>AA f (hGr.below hb) (hnN.below hb) (by omega) (fun j _=>Nat.lt_of_lt_of_le (Nf F j) hQ))
    (fun w' hb=>AA f (hGr.below hb) (hnR.below hb) (by omega) (fun j hj=>Nat.lt_of_lt_of_le (JH (by omega)) hQ))
   rw[hp3]at hDl;obtain⟨Lf,hLf⟩: ∃Lf:Nat->List (Fin QQ),dlL QQ t (n30 F) (r30 t m E)=Lf:=⟨_,rfl⟩
   rw[hLf]at hDl
   have HLl:Hid (∀k,(Lf k).length=t+1):=fun k=>by rw[<-hLf];exact Xb _ _
   have HL0:Hid (∀k,(pco (Lf k) 0).val=n30 F k):=fun k=>by
    rw[<-hLf];show(pco (fl (t+1) (dlF t (n30 F) (r30 t m E) k):List (Fin QQ)) 0).val=_
    rw[V7 _ _ _ (by omega)];exact Nat.mod_eq_of_lt (Nat.lt_of_lt_of_le (Nf F k) hQ)
   clear hLf hp3 hnR hGr;iterate 7 go_step
   refine rp ?_;refine p_m ?_;refine p_m ?_;refine p_m ?_;refine p_m ?_;simp only[pv];refine p_f 9 func9 #[.pointer (some ⟨g,0,none⟩),.int .i64 (t:Nat),.slice (some ⟨gN,0,none⟩) n cN,.slice (some ⟨gR,0,none⟩) q3 cR] (hDl) ?_;rintro _ z22004 ⟨gM,R,gP,Y,rfl,nM,nP,rM,hMf,rP,hYf,hb⟩;refine⟨_,rfl,?_⟩;simp only[pv];have k:=Kept.ofBelow hb;clear hb;replace hnN:=hnN.below k.nil;replace sd:=kk sd k;clear k;refine p_m ?_;refine p_e ?_;refine p_e ?_;refine p_e ?_;refine p_a ?_;simp only[pv];refine p_a ?_;refine p_a (Zb ?_);simp only[pv];clear hDl nM nP;have SB2:=Zk sb (Nat.le_refl _) sd;have RG2:=RGz.below sd;have sf:=YN z22004;have hgP:=rP.lt;clear sd;obtain⟨jp,hjp,hzp,hszp,hbyp⟩:=UF
   have hq1: ¬1*jp.size>2^24:=by rw[hszp];decide
   have hq2: ¬1*jp.size=0:=by rw[hszp];decide
   have hlit:=fun i ab n c=>JC i ab n c jp.size hszp
   obtain⟨bt,hbt⟩: ∃bt:Nat->Bool,bt=fun k=>decide (bn k=1):=⟨_,rfl⟩
   obtain⟨VY,hVY⟩: ∃VY:Nat->Nat->Nat,VY=fun a b=>(pev (fi (a+1)) (Lf b)).val:=⟨_,rfl⟩
   obtain⟨X,hX⟩: ∃X:Nat->PtX,X=sX t n bt Y VY gN cN (n30 F) csN:=⟨_,rfl⟩
   obtain⟨CC,hCC⟩: ∃CC:Nat->Array Value,CC=fun k=>ptC (X k).z (.slice (X k).ay (X k).ny (X k).cy):=⟨_,rfl⟩
   rw[<-hVY]at hYf;have HBT:Hid (∀k,bt k=decide (bn k=1)):=fun k=>by rw[hbt]
   have HVY:Hid (VY=fun a b=>(pev (fi (a+1)) (Lf b)).val):=hVY;have HX:Hid (X=sX t n bt Y VY gN cN (n30 F) csN):=hX;have HCC:Hid (CC=fun k=>ptC (X k).z (.slice (X k).ay (X k).ny (X k).cy)):=hCC
   have HC2:Hid (∀j,(CC j).size=2):=fun j=>by rw[hCC];rfl
   have HCo:Hid (∀j,(CC j).all (·.oneCell')=true):=fun j=>by rw[hCC];exact Sc _ _ _ _
   have HCy:Hid (∀k,bt k=true->ptC ((k+1:Nat):Int) (.slice (some ⟨Y k,0,none⟩) n n)=CC k):=fun k hk=>by rw[hCC,hX];show _=ptC (sX t n bt Y VY gN cN (n30 F) csN k).z (.slice (sX t n bt Y VY gN cN (n30 F) csN k).ay (sX t n bt Y VY gN cN (n30 F) csN k).ny (sX t n bt Y VY gN cN (n30 F) csN k).cy);rw[QB hk]
   have HCn:Hid (∀k,bt k=false->ptC ((k+1:Nat):Int) (.slice (some ⟨gN,0,none⟩) n cN)=CC k):=fun k hk=>by rw[hCC,hX];show _=ptC (sX t n bt Y VY gN cN (n30 F) csN k).z (.slice (sX t n bt Y VY gN cN (n30 F) csN k).ay (sX t n bt Y VY gN cN (n30 F) csN k).ny (sX t n bt Y VY gN cN (n30 F) csN k).cy);rw[GT hk]
   have HHol:Hid (∀k,k<p3-> ∀w',Below z22004.heap.size z22004 w'->Calls prog 23 #[.pointer (some ⟨g,0,none⟩),.slice (some ⟨gM,0,none⟩) n n,.agg (ptC ((k+1:Nat):Int) (.slice (some ⟨Y k,0,none⟩) n n))] w' (Rt (.bool true) w')):=fun k hk w' hb=>
    AB f (RG2.below hb) rM hMf hYf (by rw[hVY]) (fun k=>by rw[HLl.out k];exact Nat.le_refl _) (by omega) h1 (by omega) hk (by omega) hb
   have HMf:Hid (FamAt z22004 _ (t+1) R (fun a b=>GG^(pco (Lf a) b).val%PP) n):=hMf;have HYf:Hid (FamAt z22004 _ n Y VY p3):=hYf;clear hbt hVY hX hCC hMf hYf;iterate 4 go_step
   refine rp ?_;refine p_m ?_;simp only[pv];refine p_v _ (ZO .i64 _ _ _ _ rfl (0) (0) rfl rfl false (by rw[decide_eq_true (by omega)];rfl)) ?_;refine p_m ?_;refine p_m ?_;simp only[pv];refine p_v _ (n_l (some ⟨gP,0,none⟩) p3 p3 XD) ?_;refine p_m ?_;simp only[pv];refine p_v _ (Yi _ _ _ _ rfl 3 t (3*t) rfl rfl rfl (by omega)) ?_;simp only[pv];refine p_v (.int .i64 (p3:Nat)) (fun w'=>(Yt _ _ _ _ rfl (3*t) 1 rfl rfl (by omega) w').trans (by rw[HP3.out])) ?_;simp only[pv];refine p_v _ (ZO .i64 _ _ _ _ rfl ((p3:Nat)) ((p3:Nat)) rfl rfl false (by rw[decide_eq_true (by omega)];rfl)) ?_;refine p_k false (.bool false) (Zb ?_);simp only[pv];iterate 7 go_step
   refine rp ?_;refine p_v (.slice none 0 0) (fun _=>rfl) (Zb ?_);simp only[pv];iterate 3 go_step
   refine rp ?_;refine p_v (.int .i64 0) (fun _=>rfl) (Zb ?_);simp only[pv];iterate 4 go_step
   refine rp ?_;refine p_v (.int .i64 0) (fun _=>rfl) (Zb ?_);simp only[pv]
   go_wp2_with fail
   go_loopg [6,19,20,21] p3 (fun y s6 s19 s20 s21 wr=> ∃(k:Nat) (vS:Value),k+y=p3/\vS=s19/\s20= .int .i64 (cnH bt k:Nat)/\s21= .int .i64 k/\Ux 2 64 wr z22004.heap.size vS k CC/\Below z22004.heap.size z22004 wr)
   case atStart=>exact⟨0,.slice none 0 0,by omega,rfl,rfl,rfl,S7 _ _ _ _,sf⟩
   case round=>
    clear sf;obtain⟨k,vS,hk,rfl,rfl,rfl,hS,sf⟩:=hrel;have hcb:=FR bt k
    cases gk with
    |succ yv=>
     have hlt:k<p3:=by omega
     have hhk:=HHol.out k hlt;have rPk:=rP.belowAll sf;have hpt:=WS (k:=2) (n:=p3) (C:=fun j=>ptC ((j+1:Nat):Int) (.slice (some ⟨Y j,0,none⟩) n n)) (fun _=>rfl) k hlt (0+k*2) (by omega);have hpi:=hpt 0 _ rfl;have hbk:=HBN.out k;obtain⟨sT,hsT⟩: ∃sT,a2/2^k=sT:=⟨_,rfl⟩
     have HST:Hid (a2/2^k=sT):=hsT;rw[hsT]at hbk;have hcs:cnH bt (k+1)=cnH bt k+(if bt k=true then 1 else 0):=rfl;have hbtk:=HBT.out k;have hcy:=HCy.out k;have hcn:=HCn.out k;generalize bn k=bk at*;clear hsT;iterate 2 go_step
     refine rp ?_;refine p_m ?_;refine p_m ?_;simp only[pv];refine p_v _ (n_l (some ⟨gP,0,none⟩) p3 p3 XD) ?_;simp only[pv];refine p_v _ (XV ((k:Nat)) ((p3:Nat))) (Zb ?_);simp only[pv];iterate 10 go_step
     refine rp ?_;refine p_m ?_;refine p_m ?_;refine p_m ?_;refine p_m ?_;simp only[pv];refine p_x k hlt underlying32 sizeOf64 ?_;simp only[pv];refine ZE (by rfl) 64 _ rfl _ (0+k*2) rfl rPk.r (ptC ((k+1:Nat):Int) (.slice (some ⟨Y k,0,none⟩) n n)) hpt _ underlying64 rfl YY ?_;simp only[pv];refine p_c 23 func23 #[.pointer (some ⟨g,0,none⟩),.slice (some ⟨gM,0,none⟩) n n,.agg (ptC ((k+1:Nat):Int) (.slice (some ⟨Y k,0,none⟩) n n))] (hhk _ sf) ?_;intro z30006 k;simp only[pv];replace rPk:=k.ro rPk;replace hS:=hS.on k (YM _);replace sf:=kk sf k;clear k;refine p_v _ (ZB _ _ rfl true rfl) (Zb ?_);simp only[pv];clear hhk;by_cases hb1:bk=1
     ·have e1:bt k=true:=by rw[hbtk];exact decide_eq_true hb1
      have hli:=(hlit ((k+1:Nat):Int) (some ⟨Y k,0,none⟩) n n).trans (congrArg some (hcy e1));rw[if_pos e1]at hcs;clear hcy hcn hbtk e1;iterate 7 go_step
      refine rp ?_;refine p_m ?_;refine p_m ?_;simp only[pv];refine p_v (.int .i64 sT) (fun w'=>(Ay _ _ _ _ rfl a2 k rfl rfl (by omega) w').trans (by rw[HST.out])) ?_;simp only[pv];refine p_v _ (GS _ _ _ _ rfl sT 1 _ rfl rfl hbk) ?_;simp only[pv];refine p_v _ (ZF .i64 _ _ _ _ rfl ((bk:Nat)) (1) rfl rfl true (decide_eq_true (by omega))) (Zb ?_);simp only[pv];iterate 4 go_step
      refine rp ?_;refine p_m ?_;refine p_m ?_;refine p_m ?_;simp only[pv];refine p_x k hlt underlying32 sizeOf64 ?_;simp only[pv];refine ZE (by rfl) 64 _ rfl _ (0+k*2) rfl rPk.r (ptC ((k+1:Nat):Int) (.slice (some ⟨Y k,0,none⟩) n n)) hpt _ underlying64 rfl YY ?_;simp only[pv];refine YW (by rfl) 32 64 1 _ rfl (CC k) jp _ underlying32 hjp hzp hq1 hq2 [(0,.agg (ptC ((k+1:Nat):Int) (.slice (some ⟨Y k,0,none⟩) n n)))] rfl hli ?_;intro gA z33005 n0 rA k;simp only[pv];have dPkxA:=l_l rPk.lt n0;have ehSxA:=hS.new n0;have bA:=Nat.le_trans sf.size n0;clear n0;replace rPk:=k.ro rPk;replace hS:=hS.on k (YM _);replace sf:=kk sf k;clear k;refine Pt (by rfl) _ _ (32) rfl (z22004.heap.size) 64 jp _ 2 32 underlying32 hjp hzp hszp hbyp rfl (by decide) (by decide) (_) (k) (CC) (HC2.out) rfl hS gA _ rfl rA (HCo.out _) ((by omega)) sf.size ?_;have h0:=hS;clear hS;intro v1 z33006 hS k hp;simp only[pv];have crPk:=rPk.lt;replace rPk:=k.row rPk (by first|exact Xh ehSxPk|exact Xh (h0.low (by omega)))
      (try replace ehSxPk:=XT hp crPk ehSxPk)
      clear crPk;clear hp;replace sf:=sf.trans (k.below z22004.heap.size sf.size h0.base);clear h0;clear k;refine p_a (Zb ?_);simp only[pv];iterate 2 go_step
      refine rp ?_;refine p_m ?_;simp only[pv];refine p_v _ (x_a (cnH bt k) (1)) ?_;refine p_a (Zb ?_);simp only[pv];iterate 2 go_step
      refine rp ?_;refine p_m ?_;simp only[pv];refine p_v _ (x_a (k) (1)) ?_;refine p_a (Zb ?_);simp only[pv];go_wp2
      go_roundg yv
      case measure=>omega
      case rel=>exact⟨k+1,_,by omega,rfl,by rw[hcs],rfl,hS,sf⟩
     ·have e1:bt k=false:=by rw[hbtk];exact decide_eq_false hb1
      have hli:=(hlit ((k+1:Nat):Int) (some ⟨gN,0,none⟩) n cN).trans (congrArg some (hcn e1));rw[if_neg (by rw[e1];decide),Nat.add_zero]at hcs;clear hcy hcn hbtk e1;iterate 7 go_step
      refine rp ?_;refine p_m ?_;refine p_m ?_;simp only[pv];refine p_v (.int .i64 sT) (fun w'=>(Ay _ _ _ _ rfl a2 k rfl rfl (by omega) w').trans (by rw[HST.out])) ?_;simp only[pv];refine p_v _ (GS _ _ _ _ rfl sT 1 _ rfl rfl hbk) ?_;simp only[pv];refine p_v _ (ZF .i64 _ _ _ _ rfl ((bk:Nat)) (1) rfl rfl false (decide_eq_false (by omega))) (Zb ?_);simp only[pv];iterate 3 go_step
      refine rp ?_;refine p_m ?_;refine p_m ?_;refine p_m ?_;simp only[pv];refine p_x k hlt underlying32 sizeOf64 ?_;simp only[pv];refine p_v _ (Zh 64 _ 0 rfl gP (0+k*2) rfl _ underlying64 _ rfl 0 sizeOf3) ?_;simp only[pv];refine p_d (0+k*2) rPk.r (.int .i64 ((k+1:Nat):Int)) hpi isAgg3 ?_;refine p_m ?_;simp only[pv];refine p_v _ (ZJ _ [(0,_),(1,_)] rfl [(0,.int .i64 ((k+1:Nat):Int)),(1,.slice (some ⟨gN,0,none⟩) n cN)] rfl _ (Rd _ _ _ _)) ?_;simp only[pv];refine YW (by rfl) 32 64 1 _ rfl (CC k) jp _ underlying32 hjp hzp hq1 hq2 [(0,.agg (ptC ((k+1:Nat):Int) (.slice (some ⟨gN,0,none⟩) n cN)))] rfl hli ?_;intro gA z35008 n0 rA k;simp only[pv];have dPkxA:=l_l rPk.lt n0;have ehSxA:=hS.new n0;have bA:=Nat.le_trans sf.size n0;clear n0;replace rPk:=k.ro rPk;replace hS:=hS.on k (YM _);replace sf:=kk sf k;clear k;refine Pt (by rfl) _ _ (32) rfl (z22004.heap.size) 64 jp _ 2 32 underlying32 hjp hzp hszp hbyp rfl (by decide) (by decide) (_) (k) (CC) (HC2.out) rfl hS gA _ rfl rA (HCo.out _) ((by omega)) sf.size ?_;have h0:=hS;clear hS;intro v1 z35009 hS k hp;simp only[pv];have crPk:=rPk.lt;replace rPk:=k.row rPk (by first|exact Xh ehSxPk|exact Xh (h0.low (by omega)))
      (try replace ehSxPk:=XT hp crPk ehSxPk)
      clear crPk;clear hp;replace sf:=sf.trans (k.below z22004.heap.size sf.size h0.base);clear h0;clear k;refine p_a (Zb ?_);simp only[pv];iterate 2 go_step
      refine rp ?_;refine p_m ?_;simp only[pv];refine p_v _ (x_a (k) (1)) ?_;refine p_a (Zb ?_);simp only[pv];go_wp2
      go_roundg yv
      case measure=>omega
      case rel=>exact⟨k+1,_,by omega,rfl,by rw[hcs];rfl,rfl,hS,sf⟩
    |zero=>
     have hkp:k=p3:=by omega
     have hkn: ¬(k:Int)<(p3:Int):=by omega
     have hcb2:cnH bt k=cnH bt p3:=by rw[hkp]
     rw[hkp]at hS;obtain⟨aS,cS,gS,curS,eS,_,hels⟩:=Uy HC2.out hS;subst eS;have hrc:=AC (cS:=cS) f (RG2.below sf) (rM.belowAll sf) (HMf.out.below sf) (HYf.out.below sf) HVY.out (hnN.below sf) hels HCC.out HX.out HLl.out ht1 ht2 h1 h3 hp7.2;clear hkp hels hS hk;iterate 2 go_step
     refine rp ?_;refine p_m ?_;refine p_m ?_;simp only[pv];refine p_v _ (n_l (some ⟨gP,0,none⟩) p3 p3 XD) ?_;simp only[pv];refine p_v _ (Yb _ _ _ _ rfl (k:Nat) (p3:Nat) rfl rfl false (decide_eq_false hkn)) (Zb ?_);simp only[pv];rcases hrc with ⟨hle,hcal⟩|hcal
     ·have hle2:((cnH bt k:Nat):Int)<=(t:Int):=by omega
      iterate 7 go_step
      refine rp ?_;refine p_m ?_;refine p_m ?_;refine p_m ?_;refine p_m ?_;simp only[pv];refine p_c 15 func15 #[.pointer (some ⟨g,0,none⟩),.int .i64 (t:Nat),.slice (some ⟨gM,0,none⟩) n n,.slice aS p3 cS] (hcal) ?_;intro z36004 k;simp only[pv];replace sf:=kk sf k;clear k;refine p_m ?_;refine p_e ?_;refine p_e ?_;refine p_a ?_;refine p_a (Zb ?_);simp only[pv];iterate 4 go_step
      refine rp ?_;refine p_m ?_;simp only[pv];refine p_v _ (ZO .i64 _ _ _ _ rfl (3) (0) rfl rfl true (by rw[decide_eq_false (by omega)];rfl)) (Zb ?_);simp only[pv];iterate 4 go_step
      refine rp ?_;refine p_m ?_;simp only[pv];refine p_v _ (ZF .i64 _ _ _ _ rfl (3) (3) rfl rfl true (decide_eq_true rfl)) ?_;refine p_m ?_;refine p_m ?_;refine p_m ?_;simp only[pv];refine p_v _ (YH _ _ _ _ rfl (((cnH bt k:Nat):Int)) ((t:Nat)) rfl rfl true (decide_eq_true hle2)) ?_;refine p_k true (.bool true) ?_;refine p_m ?_;simp only[pv];refine p_c 7 func7 #[] (haw _ (Zk SB2 (Nat.le_refl _) sf)) ?_;intro z38008 k;simp only[pv];replace sf:=kk sf k;clear k;refine p_k true (.bool true) ?_;refine p_a (Zb ?_);simp only[pv];go_wp2;go_ret;exact⟨rfl,Zk SB2 (Nat.le_refl _) sf⟩
     ·clear hcb hcb2;iterate 7 go_step
      refine rp ?_;refine p_m ?_;refine p_m ?_;refine p_m ?_;refine p_m ?_;simp only[pv];refine p_f 15 func15 #[.pointer (some ⟨g,0,none⟩),.int .i64 (t:Nat),.slice (some ⟨gM,0,none⟩) n n,.slice aS p3 cS] (hcal) ?_;rintro _ z36004 ⟨gQ,PR,rfl,nQ,rQ,hPf,hb⟩;refine⟨_,rfl,?_⟩;simp only[pv];have k:=Kept.ofBelow hb;clear hb;replace sf:=kk sf k;clear k;refine p_m ?_;refine p_e ?_;refine p_e ?_;refine p_a ?_;refine p_a (Zb ?_);simp only[pv];clear hcal nQ;have SB3:=Zk SB2 (Nat.le_refl _) sf;have RG3:=RG2.below sf;have RP3:=rP.belowAll sf;have HYf3:Hid (FamAt z36004 _ n Y VY p3):=HYf.out.below sf;have hnN3:=hnN.below sf
      have HSh:Hid (∀k,k<p3-> ∀w',Below z36004.heap.size z36004 w'->Calls prog 24 #[.pointer (some ⟨g,0,none⟩),.slice (some ⟨gQ,0,none⟩) n n,.int .i64 ((k+1:Nat):Int)] w' fun e w2=> ∃gY,e= .returned (.agg (ptC ((k+1:Nat):Int) (.slice (some ⟨gY,0,none⟩) n n)))/\w'.heap.size<=gY/\Row w2 gY (nsC n (VY k)) 57/\Below w'.heap.size w' w2):=fun k hk w' hb=>
       AD f (RG3.below hb) rQ hPf HLl.out HVY.out hb (by omega) (by omega) ht2
      have HPf:Hid (FamAt z36004 _ (t+1) PR (fun k j=>(pco (Lf k) j).val) n):=hPf
      have hVl: ∀k i,VY k i<2^256:=fun k i=>by rw[HVY.out];exact Nat.lt_trans (pev (fi (k+1)) (Lf i)).isLt f.rQ.m
      have HVl:Hid (∀k i,VY k i<2^256):=hVl;have sg:=YN z36004;clear sf RG2 rP hnN RG3 hPf hVl rM hlit hjp hzp hszp hbyp hq1 hq2;iterate 4 go_step
      refine rp ?_;refine p_m ?_;simp only[pv];refine p_v _ (ZO .i64 _ _ _ _ rfl (0) (0) rfl rfl false (by rw[decide_eq_true (by omega)];rfl)) (Zb ?_);simp only[pv];iterate 8 go_step
      refine rp ?_;refine p_v (.int .i64 0) (fun _=>rfl) (Zb ?_);simp only[pv]
      go_wp2_with fail
      go_loopg [6,24] n (fun y s6 s24 wr=> ∃i:Nat,i+y=n/\s24= .int .i64 i/\Below z36004.heap.size z36004 wr)
      case atStart=>exact⟨0,by omega,rfl,sg⟩
      case round=>
       clear sg;obtain⟨i,hi,rfl,sg⟩:=hrel;have rQi:=rQ.belowAll sg
       cases gk with
       |succ yv=>
        have hlt:i<n:=by omega
        have hci:(vsC n (fun j=>.slice (some ⟨PR j,0,none⟩) (t+1) (t+1)))[0+i*1]?=some (.slice (some ⟨PR i,0,none⟩) (t+1) (t+1)):=by rw[show 0+i*1=i by omega];exact Xi _ hlt
        obtain⟨vP,hvP⟩: ∃vP:Nat->Nat,vP=fun j=>(pco (Lf i) j).val:=⟨_,rfl⟩
        have rPi:=(HPf.out.row i hlt).belowAll sg;simp only[<-hvP]at rPi
        have hp0: ∀j v,(Zd (n30 F i)).toList[j]?=some v->(nsC (t+1) vP)[0+0*4+j]?=some v:=by
         have h:=Xx (t+1) vP 0 (by omega) 0 rfl;rw[show vP 0=n30 F i by rw[hvP];exact HL0.out i]at h;exact h
        clear hvP;obtain h0|⟨_,rNn,hbt⟩:=(hnN3.below sg).at'
        ·exact absurd h0 (by omega)
        have hbn':=hbt i hlt;clear hbt;generalize PR i=pr at*;iterate 2 go_step
        refine rp ?_;refine p_m ?_;refine p_m ?_;simp only[pv];refine p_v _ (n_l (some ⟨gQ,0,none⟩) n n PC) ?_;simp only[pv];refine p_v _ (XV ((i:Nat)) ((n:Nat))) ?_;refine p_m ?_;refine p_m ?_;refine p_m ?_;simp only[pv];refine p_v _ (n_l (some ⟨gN,0,none⟩) n cN Zr) ?_;simp only[pv];refine p_v _ (XV ((i:Nat)) ((n:Nat))) ?_;refine p_k true (.bool true) (Zb ?_);simp only[pv];iterate 9 go_step
        refine ZC (by kernel_rfl) (by kernel_rfl) ?_;refine q_m ?_;refine q_m ?_;simp only[pv];refine q_x i hlt underlying30 sizeOf22 ?_;simp only[pv];refine ZK (by rfl) 22 _ rfl _ (0+i*1) rfl rQi (.slice (some ⟨pr,0,none⟩) (t+1) (t+1)) hci isAgg22 ?_;simp only[pv];refine q_v _ (n_l (some ⟨pr,0,none⟩) (t+1) (t+1) Zr) ?_;refine q_m ?_;simp only[pv];refine q_v _ (x_a (t) (1)) ?_;simp only[pv];refine q_v _ (ZO .i64 _ _ _ _ rfl (((t+1:Nat):Int)) (((t+1:Nat):Int)) rfl rfl false (by rw[decide_eq_true (by omega)];rfl)) ?_;refine q_m ?_;refine q_m ?_;refine q_m ?_;simp only[pv];refine q_x i hlt underlying30 sizeOf22 ?_;simp only[pv];refine ZK (by rfl) 22 _ rfl _ (0+i*1) rfl rQi (.slice (some ⟨pr,0,none⟩) (t+1) (t+1)) hci isAgg22 ?_;simp only[pv];refine q_x 0 ((Nat.succ_pos t)) underlying22 Zz ?_;simp only[pv];refine Yv (by rfl) 57 _ rfl _ (0+0*4) rfl rPi (Zd (n30 F i)) hp0 _ underlying57 rfl Zc ?_;refine q_m ?_;refine q_m ?_;simp only[pv];refine q_x i hlt underlying22 Zz ?_;simp only[pv];refine X5 (by rfl) 57 _ rfl _ (0+i*4) rfl rNn (Zd (n30 F i)) hbn' _ underlying57 rfl Zc ?_;simp only[pv];refine q_v (.bool false) (fun w'=>(ZT _ _ _ rfl (n30 F i) (n30 F i) rfl rfl w').trans (by rw[decide_eq_true rfl];rfl)) ?_;refine q_p false (.bool false) ?_;simp only[pv];refine ZN ?_;intro w9 hqb;replace sg:=b_o sg hqb;clear hqb;iterate 6 go_step
        refine rp ?_;refine p_m ?_;simp only[pv];refine p_v _ (x_a (i) (1)) ?_;refine p_a (Zb ?_);simp only[pv];go_wp2
        go_roundg yv
        case measure=>omega
        case rel=>exact⟨i+1,by omega,rfl,sg⟩
       |zero=>
        have hin: ¬(i:Int)<(n:Int):=by omega
        clear hi HPf;iterate 2 go_step
        refine rp ?_;refine p_m ?_;refine p_m ?_;simp only[pv];refine p_v _ (n_l (some ⟨gQ,0,none⟩) n n PC) ?_;simp only[pv];refine p_v _ (Yb _ _ _ _ rfl (i:Nat) (n:Nat) rfl rfl false (decide_eq_false hin)) ?_;refine p_m ?_;refine p_s ?_;refine p_s ?_;refine p_s ?_;simp only[pv];refine p_s ?_;refine p_k false (.bool false) (Zb ?_);simp only[pv];iterate 8 go_step
        refine rp ?_;refine p_v (.int .i64 0) (fun _=>rfl) (Zb ?_);simp only[pv]
        go_wp2_with fail
        go_loopg [6,25,26] p3 (fun y s6 s25 s26 wr=> ∃k:Nat,k+y=p3/\s25= .int .i64 k/\Below z36004.heap.size z36004 wr)
        case atStart=>exact⟨0,by omega,rfl,sg⟩
        case round=>
         clear sg rQi;obtain⟨k,hk,rfl,sg⟩:=hrel
         cases gk with
         |zero=>
          have hkn: ¬(k:Int)<(p3:Int):=by omega
          iterate 2 go_step
          refine rp ?_;refine p_m ?_;refine p_m ?_;simp only[pv];refine p_v _ (n_l (some ⟨gP,0,none⟩) p3 p3 XD) ?_;simp only[pv];refine p_v _ (Yb _ _ _ _ rfl (k:Nat) (p3:Nat) rfl rfl false (decide_eq_false hkn)) (Zb ?_);simp only[pv];iterate 7 go_step
          refine rp ?_;refine p_m ?_;simp only[pv];refine p_v _ (n_l (some ⟨gQ,0,none⟩) n n PC) ?_;refine p_m ?_;simp only[pv];refine p_v _ (n_l (some ⟨gN,0,none⟩) n cN Zr) ?_;simp only[pv];refine p_v _ (ZF .i64 _ _ _ _ rfl ((n:Nat)) ((n:Nat)) rfl rfl true (decide_eq_true rfl)) ?_;refine p_m ?_;simp only[pv];refine p_c 7 func7 #[] (haw _ (Zk SB3 (Nat.le_refl _) sg)) ?_;intro z50006 k;simp only[pv];replace sg:=kk sg k;clear k;refine p_k true (.bool true) ?_;refine p_a (Zb ?_);simp only[pv];go_wp2;go_ret;exact⟨rfl,Zk SB3 (Nat.le_refl _) sg⟩
         |succ yv=>
          have hlt:k<p3:=by omega
          have hsh:=HSh.out k hlt;have rPk:=RP3.belowAll sg;have hpt:=WS (k:=2) (n:=p3) (C:=fun j=>ptC ((j+1:Nat):Int) (.slice (some ⟨Y j,0,none⟩) n n)) (fun _=>rfl) k hlt (0+k*2) (by omega);have hpi:=hpt 0 _ rfl;have hpy:=hpt 1 _ rfl;have rYk:=(HYf3.out.row k hlt).belowAll sg;have hVk:=HVl.out k;clear hpt;generalize Y k=yk at*;generalize VY k=vk at*;iterate 2 go_step
          refine rp ?_;refine p_m ?_;refine p_m ?_;simp only[pv];refine p_v _ (n_l (some ⟨gP,0,none⟩) p3 p3 XD) ?_;simp only[pv];refine p_v _ (XV ((k:Nat)) ((p3:Nat))) (Zb ?_);simp only[pv];iterate 9 go_step
          refine rp ?_;refine p_m ?_;refine p_m ?_;refine p_m ?_;refine p_m ?_;simp only[pv];refine p_x k hlt underlying32 sizeOf64 ?_;simp only[pv];refine p_v _ (Zh 64 _ 0 rfl gP (0+k*2) rfl _ underlying64 _ rfl 0 sizeOf3) ?_;simp only[pv];refine p_d (0+k*2) rPk.r (.int .i64 ((k+1:Nat):Int)) hpi isAgg3 ?_;simp only[pv];refine p_f 24 func24 #[.pointer (some ⟨g,0,none⟩),.slice (some ⟨gQ,0,none⟩) n n,.int .i64 ((k+1:Nat):Int)] (hsh _ sg) ?_;rintro _ z47007 ⟨gY,rfl,nY,rY,hb⟩;refine⟨_,rfl,?_⟩;simp only[pv];have dPkxY:=l_l rPk.lt nY;have dYkxY:=l_l rYk.lt nY;have bY:=Nat.le_trans sg.size nY;clear nY;have k:=Kept.ofBelow hb;clear hb;replace rPk:=k.ro rPk;replace rYk:=k.ro rYk;replace sg:=kk sg k;clear k;refine ZM (by rfl) 64 rfl _ PQ ?_;intro g26 z47008 n0 r26 k;simp only[pv];have dPkx26:=l_l rPk.lt n0;have dYkx26:=l_l rYk.lt n0;have dYx26:=l_l rY.lt n0;have b26:=Nat.le_trans sg.size n0;clear n0;replace rPk:=k.ro rPk;replace rYk:=k.ro rYk;replace rY:=k.ro rY;replace sg:=kk sg k;clear k;refine Y5 (by rfl) 64 _ _ rfl _ rfl r26 (ptC ((k+1:Nat):Int) (.slice (some ⟨gY,0,none⟩) n n)) rfl (by exact YY) (by rfl) (Sc _ _ _ _) ?_;clear r26;intro z47009 r26 k;simp only[Act.put];replace rPk:=k.ro rPk;replace rYk:=k.ro rYk;replace rY:=k.ro rY;replace sg:=kk sg k;clear k;refine Zb ?_;clear hsh;iterate 3 go_step
          refine ZC (by kernel_rfl) (by kernel_rfl) ?_;refine q_v _ (Zh 64 _ 0 rfl g26 (0) rfl _ underlying64 _ rfl 0 sizeOf3) ?_;simp only[pv];refine ZK (by rfl) 3 _ rfl _ (0) rfl r26 (.int .i64 ((k+1:Nat):Int)) rfl isAgg3 ?_;refine q_m ?_;refine q_m ?_;simp only[pv];refine q_x k hlt underlying32 sizeOf64 ?_;simp only[pv];refine q_v _ (Zh 64 _ 0 rfl gP (0+k*2) rfl _ underlying64 _ rfl 0 sizeOf3) ?_;simp only[pv];refine ZK (by rfl) 3 _ rfl _ (0+k*2) rfl rPk (.int .i64 ((k+1:Nat):Int)) hpi isAgg3 ?_;simp only[pv];refine q_v _ (ZO .i64 _ _ _ _ rfl (((k+1:Nat):Int)) (((k+1:Nat):Int)) rfl rfl false (by rw[decide_eq_true (by omega)];rfl)) ?_;refine q_m ?_;simp only[pv];refine q_v _ (Zh 64 _ 1 rfl g26 (0) rfl _ underlying64 _ rfl 0 sizeOf22) ?_;simp only[pv];refine ZK (by rfl) 22 _ rfl _ (1) rfl r26 (.slice (some ⟨gY,0,none⟩) n n) rfl isAgg22 ?_;refine q_m ?_;refine q_m ?_;simp only[pv];refine q_x k hlt underlying32 sizeOf64 ?_;simp only[pv];refine q_v _ (Zh 64 _ 1 rfl gP (0+k*2) rfl _ underlying64 _ rfl 0 sizeOf22) ?_;simp only[pv];refine ZK (by rfl) 22 _ rfl _ (0+k*2+1) rfl rPk (.slice (some ⟨yk,0,none⟩) n n) hpy isAgg22 ?_;simp only[pv];refine q_k 17 func17 #[.slice (some ⟨gY,0,none⟩) n n,.slice (some ⟨yk,0,none⟩) n n] (fun w' hb=>VM n n n _ _ vk gY 0 yk 0 _ _ _ _ w' (by omega) (Yh (rY.belowAll hb) (fun i _=>hVk i)) (Yh (rYk.belowAll hb) (fun i _=>hVk i))) ?_;simp only[pv];refine q_v _ (ZB _ _ rfl true rfl) ?_;refine q_p false (.bool false) ?_;simp only[pv];refine ZN ?_;intro w9 hqb;replace sg:=b_o sg hqb;clear hqb;iterate 6 go_step
          refine rp ?_;refine p_m ?_;simp only[pv];refine p_v _ (x_a (k) (1)) ?_;refine p_a (Zb ?_);simp only[pv];go_wp2
          go_roundg yv
          case measure=>omega
          case rel=>exact⟨k+1,by omega,rfl,sg⟩
theorem q30 (mm:Nat)(h:mm<3):1073741824<=lN (pk mm leL otL grL) (pk mm 3 3 5-2):=by
 match mm,h with
 |0,_=>decide
 |1,_=>decide
 |2,_=>decide
theorem yK (a0:Int)(ab:Option Addr)(n c:Nat)(F:Nat->Nat)(gb ob:Nat)(bcs:Array Value)(tb:TypeId)(ae:Option Addr)(m ce:Nat)(E:Nat->Nat)(ge oe:Nat)(ecs:Array Value)(te:TypeId)(a2:Int)(w:World)(_: -9223372036854775808<=a0/\a0<=9223372036854775807)(hna:NatsAt w ab n F gb ob bcs tb)(hnb:NatsAt w ae m E ge oe ecs te)(_: -9223372036854775808<=a2/\a2<=9223372036854775807)(kT:KT w):
  Calls prog 5 #[.int .i64 a0,.agg #[.slice ab n c,.slice ae m ce],.int .i64 a2] w (Rt (.bool true) w):=by
 obtain⟨his,hlt,hG,h2,h63,hL⟩:=A4 (ly8 a0%3);have f:=BJ his hlt
 haveI:NeZero (lN (pk (ly8 a0%3) leL otL grL) (pk (ly8 a0%3) 3 3 5-2)):=⟨by have:=f.big;omega⟩
 have hnw:=fun w' x r=>Ou (pk (ly8 a0%3) 3 3 5) (pk (ly8 a0%3) 3 3 5) (some ⟨x,0,none⟩) (pk (ly8 a0%3) leG otG grG) (lN (pk (ly8 a0%3) leL otL grL)) _ x 0 _ _ w' h63 hG (Vz (hL▸r) hlt) his
 have hQ:=q30 (ly8 a0%3) (Nat.mod_lt _ (by decide));generalize lN (pk (ly8 a0%3) leL otL grL) (pk (ly8 a0%3) 3 3 5-2)=QQ at*;generalize lN (pk (ly8 a0%3) leL otL grL) (pk (ly8 a0%3) 3 3 5-1)=PP at*;obtain⟨b,hbb,hb1⟩:=yd (a0/2^8);by_cases h:n<1∨3<n∨6<m
 ·exact zR a0 (ly8 a0) (ly8 a0%3) (pk (ly8 a0%3) leG otG grG) PP QQ 3 3 5 leG otG grG _ _ _ a2 b (1+b) n c m ce ab ae w kT (L9 a0) rfl (a0/2^8) rfl hb1 rfl hbb h V5 V6 T3 hnw
 ·have hbn: ∀k:Nat,∃x:Nat,bits .and .i64 (a2/2^k) 1=((x:Nat):Int):=fun k=>by
   obtain⟨x,_,h2⟩:=yd (a2/2^k);exact⟨x,h2⟩
  exact zS f hQ a0 a2 (ly8 a0) (ly8 a0%3) 3 3 5 leG otG grG _ _ _ b (1+b) n c m ce ab ae F E gb ob ge oe bcs ecs tb te (fun k=>Classical.choose (hbn k)) w kT (L9 a0) rfl (a0/2^8) rfl hb1 rfl hbb (by omega) (by omega) (by omega) (by omega) (by omega) (fun k=>Classical.choose_spec (hbn k)) hna hnb V5 V6 T3 hnw
theorem AE (os:Os)(started:os.Started)(H:Type)(enc:TypeId×Value->H):
  ReturnsInHanded {} Tryz.checked os 5 .any (fun w args=>(Rows.matrixSameSpec.pre enc prog Tryz.f5 [] false w args/\laidMetH prog lk w)/\sizedMet enc prog Tryz.f5 (OpenSpec.ofChange Rows.matrixSameSpec) false w args)
   (Rows.matrixSameSpec.post enc prog Tryz.f5 false true false false):=by
 refine returnsInHanded_of_change_and (C:=Tryz.checked) (X:=fun w _=>laidMetH prog lk w) (fun _ _ _ hh h=>h.of_heap hh) own started (by kernel_rfl) func5
  (ChangeSpec.witness_shaped (enc:=enc) (C:=Tryz.checked) (os:=os) (X:=fun w _=>laidMetH prog lk w) false (World.doorLaid prog 14 os) #[.int .i64 0,.agg #[.slice none 0 0,.slice none 0 0],.int .i64 0] 8 rfl (World.shaped_of_RefB (by kernel_rfl) (by kernel_rfl)) (by kernel_rfl) (by kernel_rfl) (by kernel_rfl) (GI os _)) ?_
 intro W base args ds gs before hval0 hW _ _ hL _;have hval: ∀(j:Nat) t v,Tryz.f5.params[j]?=some t->args[j]?=some v->Value.okWide prog W .any base t v:=hval0
 have hW':=hW;obtain⟨p,q,hA0,hV,rfl,hfz,hnd⟩:=hW;have hA:DataW.TrodAll enc prog W 0 (fun _=>true) true Tryz.f5.params.toList args.toList ds p:=hA0;rw[Tryz.params5]at hA hval;obtain⟨v0,vs0,d0,ds0,p0,q0,hargs,rfl,rfl,h0,r0⟩:=trodAll_cons hA;obtain⟨v1,vs1,d1,ds1,p1,q1,rfl,rfl,rfl,h1,r1⟩:=trodAll_cons r0;obtain⟨v2,vs2,d2,ds2,p2,q2,rfl,rfl,rfl,h2,r2⟩:=trodAll_cons r1;obtain⟨rfl,rfl,rfl⟩:=trodAll_nil r2
 obtain rfl:args=#[v0,v1,v2]:=by cases args;simp_all
 obtain⟨rfl,rfl⟩:=trodVars_none hV;have k0:=h0;have lt0:=Ud h0;obtain⟨a0,rfl,rfl,rfl,w0⟩:=open_int underlying3 (hval 0 3 v0 rfl rfl) h0;have k1:=h1;have lt1:=Ud h1;obtain⟨ab1,n1,c1,F1,gb1,ob1,bcs1,tb1,ae1,m1,ce1,E1,ge1,oe1,ecs1,te1,rfl,hn1,hm1⟩:=H5 (hval 1 23 v1 rfl rfl) h1;have k2:=h2;have lt2:=Ud h2;obtain⟨a2,rfl,rfl,rfl,w2⟩:=open_int underlying3 (hval 2 3 v2 rfl rfl) h2;clear hA0 hval0;refine(yK a0 ab1 n1 c1 F1 gb1 ob1 bcs1 tb1 ae1 m1 ce1 E1 ge1 oe1 ecs1 te1 a2 W (bounds_i64 w0) hn1 hm1 (bounds_i64 w2) (Mf hL)).mono fun e W' ⟨he,bel⟩=>?_
 subst he;exact⟨_,rfl,_,_,_,[],_,[],hW',trodAll_mk1 (shut_bool underlying4 _),(trodAll_cons_mk (Below.trod PK (by kernel_rfl) (of_decide_eq_true (by kernel_rfl)) k0 bel lt0) (trodAll_cons_mk (Below.trod PK (by kernel_rfl) (of_decide_eq_true (by kernel_rfl)) k1 bel lt1) (trodAll_cons_mk (Below.trod PK (by kernel_rfl) (of_decide_eq_true (by kernel_rfl)) k2 bel lt2) trodAll_mk0))),rfl,bel.frame _,fun h=>by cases h⟩
theorem yL:Rows.matrixSameRow.holds Tryz.pinned (OpenSpec.ofChange Rows.matrixSameSpec):=
 OpenClaim.holds_of_wide 5 Tryz.f5 rfl rfl rfl rfl rfl rfl rfl ⟨rfl,rfl,rfl,rfl,rfl⟩ rfl rfl rfl rfl rfl (by kernel_rfl) func5 (by kernel_rfl)
  (of_decide_eq_true (by kernel_rfl)) (by unfold Func.isWrapper;first|(rw[if_pos (by decide+kernel)];kernel_rfl)|(rw[if_neg (by decide+kernel)];exact⟨rfl,rfl⟩))
  (fun os started H enc _=>AE os started H enc)
theorem card:Claim7.holds Tryz.pinned (.plain (OpenSpec.ofChange Rows.matrixSameSpec)) Rows.matrixSameCard:=
 Claim7.holds_tied_plain_at .later [] [.data] true (true, "eb1696153f8cb3232e8b2f438456bf9c55f134f4348278d0aa98d579a3c22149") false
  yL (fun _ h=>by cases h) (by kernel_rfl) (fun _ h=>by cases h) matrixSame_row_tie rfl ⟨rfl,rfl⟩ (by kernel_rfl) rfl
  (fun f fn hf hfn=>by
   obtain rfl:f=5:=Option.some.inj ((show prog.funcNamed "sacristy/sacristylaw16.MatrixSame" =some 5 by kernel_rfl).symm.trans hf) |>.symm;obtain rfl:fn=Tryz.f5:=(Option.some.inj (func5.symm.trans hfn)).symm
   exact⟨by kernel_rfl,fun j t ht=>by
    rw[Tryz.params5]at ht;have hm:t∈[3,23,3]:=by simpa using Array.mem_of_getElem? ht
    have hall:([3,23,3].all fun u=> !prog.wantsStandIn u)=true:=by kernel_rfl
    exact(show prog.wantsStandIn t=false by simpa using List.all_eq_true.1 hall t hm)⟩)
  (by kernel_rfl)
end matrixSameP
/-- for every number, two lists of naturals and a number: in one of the three groups, by one liar or two, whoever asks gets the same of the shares that hold; no condition. -/
theorem matrixSame_holds:Rows.MatrixSameCardSaid:=matrixSameP.card
end Go.Proofs.YtnagnkhbamhfmaaGreatDoor
