/- WriterSound: for every Made, seven ints each that servers hold and that liars tell, and two ints: the writer's number is above what enough servers had reached and at most one above what one of them holds, and it is done only if more servers answered than may lie, twice over; no condition. -/
import Derived.Test.YtcdahmommonnfaaGreatDoorWtAwake
import Derived.Test.YtcdahmommonnfaaGreatDoorJ17
namespace Go.Proofs.YtcdahmommonnfaaGreatDoor
set_option linter.all false
open Go.ChangeShapes Go.WideShapes Go.ChangeAt Go.RowKit
open Go.Proofs.Tryz
theorem Wc.B.belowAll {c:Wc}{w w2:World}{s:List UInt8}{sq:Int}{an:Nat->Bool}(h:c.B w s sq an)(hb:Below w.heap.size w w2):c.B w2 s sq an:=h.below hb
namespace writerSoundP
theorem Vd (n:Nat)(Z:Nat->Int):(zC n Z).size=n:=XH _ _
theorem CU {n:Nat}(Z:Nat->Int){i:Nat}(hi:i<n):(zC n Z)[i]?=some (.int .i64 (Z i)):=X5 _ hi
theorem US {n:Nat}(Z:Nat->Int){i:Nat}(hi:i<n):(zC n Z)[0+i*1]?=some (.int .i64 (Z i)):=by rw[Nat.zero_add,Nat.mul_one];exact X5 _ hi
theorem Sl:(prog.info? 75).map (·.size)=some 7:=by kernel_rfl
theorem H8 (n:Nat)(Z:Nat->Int):(zC n Z).all (·.oneCell')=true:=by
 rw[Array.all_eq_true];intro i hi;simp[zC,vsC];rfl
theorem I2:(prog.info? 75).map (fun i=>(i.zero,i.size))=some (some (.agg (zC 7 fun _=>0)),7):=by kernel_rfl
theorem KB (w:World):(zeroValue 75).run prog w= .ok (.agg (zC 7 fun _=>0)) w:=(zero_of_info I2).1 w
theorem P8 (L:Nat->Int)(o:Nat)(ho:o+7<=14): ∀j v,(zC 7 fun j=>L (o+j)).toList[j]?=some v->(ziC 14 L)[o+j]?=some v:=fun j v hv=>by
 rw[Array.getElem?_toList]at hv;by_cases hj:j<7
 ·rw[CU _ hj]at hv;rw[KA L (by omega)];exact hv
 ·rw[Array.getElem?_eq_none (by rw[Vd];omega)]at hv;cases hv
section
variable {P:Program}{o:Oper}{ρ:Operand->Value}
theorem CV (t:TypeId)(x y:Operand)(u:TypeId)(ho:o.op= .binOp .rem t x y u)(n m r:Nat)(hx:ρ x= .int .i64 n)(hy:ρ y= .int .i64 m)(hm:0<m)(hr:n%m=r)(w:World):
  (execOp ρ o).run P w= .ok (.value (.int .i64 (r:Nat))) w:=by
 subst hr;have h0: ¬(m=0):=by omega
 unfold execOp;simp only[ho,hx,hy];simp[go_sem];rw[if_neg h0,Int.tmod_eq_emod_of_nonneg (by omega)]
theorem Ah (t:TypeId)(x y:Operand)(u:TypeId)(ho:o.op= .binOp .shr t x y u)(n:Int)(s:Nat)(r:Int)(hx:ρ x= .int .i64 n)(hy:ρ y= .int .i64 (s:Nat))(hs:s<64)(hr:n/2^s=r)(w:World):
  (execOp ρ o).run P w= .ok (.value (.int .i64 r)) w:=by
 subst hr;unfold execOp;simp only[ho,hx,hy];simp[go_sem]
theorem Ai (t:TypeId)(x y:Operand)(u:TypeId)(ho:o.op= .binOp .eql t x y u)(n m:Bool)(hx:ρ x= .bool n)(hy:ρ y= .bool m)(hu:P.underlying t=some .bool)(b:Bool)(hb:(n==m)=b)(w:World):
  (execOp ρ o).run P w= .ok (.value (.bool b)) w:=by
 subst hb;unfold execOp;simp only[ho,hx,hy]
 cases n<;>cases m<;>simp[eqGuard,go_sem,hu]
end
theorem KC {w:World}{base:Nat}{v:Value}{n:Nat}{u u2:Nat->Nat}(h:T1 w base v n u)(he: ∀i,i<n->u i=u2 i):T1 w base v n u2:=by
 unfold T1;rw[<-M5 n he];exact h
theorem EJ {sq:Int}(h1:1<=sq)(h2:sq<=65536):Tp 7 1 [107] sq 1 []=true:=by
 unfold Tp;rw[YK (by decide) (by decide)];unfold Wg;rw[if_neg (by decide),if_neg (by decide),if_neg (by decide),if_neg (by decide),if_pos rfl,show stB sq 1=true from decide_eq_true ⟨h1,by omega,(by decide:(1:Int)<=1),(by decide:(1:Int)<=4)⟩];rfl
theorem CW {H J:Nat->Int}{f k:Nat}(h:wsL J f k=false):max ((wsM H J f k:Nat):Int) ((wsH H k:Nat):Int)=((wsM H J f (k+1):Nat):Int):=by
 rw[show wsM H J f (k+1)=max (wsM H J f k) (wsH H k)from if_pos h];omega
theorem CX {H J:Nat->Int}{f k:Nat}(h:wsL J f k=true):wsM H J f (k+1)=wsM H J f k:=if_neg (by rw[h];simp)
theorem EK (p y g gr gf gN:Nat)(wh:Int)(T:Nat)(hT:1<=T/\T<=2):(⟨p,y,g,gr,gf,gN,smP wh,smQ wh,smG wh,1,wvF,T,1,1,[107]⟩:Wc).Ok:=by
 obtain⟨h1,h2,h3,h4⟩:=Ke wh;exact⟨h1,h2,h3,h4,Nat.le_refl _,(show 1<=25 by decide),hT.1,hT.2,(show clB 1=true by decide),(show([107]:List UInt8).length<=16777216 by decide)⟩
theorem I3 (wh sd:Int)(w:World):Calls prog 9 #[.agg (mkC wh 1 1 [107] [118] true 200 sd)] w fun e w'=> ∃(c:Wc) (rz:Nat) (C:Array Value) (bs:ByteArray),e= .returned (.tuple #[.pointer (some ⟨c.p,0,none⟩),.pointer (some ⟨rz,0,none⟩),.pointer (some ⟨c.y,0,none⟩),.string bs,.bool true])/\
  c.Ok/\c.cl=1/\c.op=1/\c.key=[107]/\(∀H J,WsS c H J w')/\Row w' rz C 66/\C[8]?=some (.int .i64 (c.T:Nat))/\w.heap.size<=c.p/\w.heap.size<=c.y/\rz≠c.p/\rz≠c.y/\c.p<w'.heap.size/\c.y<w'.heap.size/\Below w.heap.size w w':=by
 refine(P6 wh 1 200 sd 200 w (by decide) (by decide) (by decide)).mono ?_;rintro e w' ⟨p,rz,y,g,gr,gf,gN,xx,tv,av,rfl,hE,rW,rR,hp,hy,hrp,hry,hb⟩;have hlp:=hE.lp;have hly:=hE.ry.lt;exact⟨⟨p,y,g,gr,gf,gN,smP wh,smQ wh,smG wh,1,wvF,wtT wh,1,1,[107]⟩,rz,_,_,rfl,EK p y g gr gf gN wh (wtT wh) (B0 wh),rfl,rfl,rfl,fun H J=>.inl ⟨_,_,Ab H J _ _,hE,rW⟩,rR,rfl,hp,hy,hrp,hry,rW.lt,hly,hb⟩
set_option maxRecDepth 100000 in
set_option maxHeartbeats 8000000 in
theorem walk (wh cl op:Int)(key s:List UInt8)(b:Bool)(by' sd:Int)(L:Nat->Int)(ox oy:Int)(w:World):
  Calls prog 4 #[.agg (mkC wh cl op key s b by' sd),.agg (ziC 14 L),.agg #[.int .i64 ox,.int .i64 oy]] w fun e w'=>e= .returned (.bool true)/\Below w.heap.size w w':=by
 have haw:=fun w'=>Tq w'
 have hmd:=fun w'=>I3 wh sd w'
 obtain⟨ie,hie,hz,hsz,_⟩:=Rh
 have hs1: ¬1*ie.size>2^24:=by rw[hsz];decide
 have hs2: ¬1*ie.size=0:=by rw[hsz];decide
 have hl1:=fun a=>DN a ie.size hsz
 clear hsz
 go_enter func4,ntmps4
 have sb:=Z9 w;iterate 2 go_step
 refine rp ?_;refine ZD (by rfl) 23 _ rfl (mkC wh cl op key s b by' sd) rfl ?_;intro g3 z0 n0 r3 k;simp only[pv];have b3:=Nat.le_trans sb.size n0;clear n0;replace sb:=kk sb k;clear k;refine ZD (by rfl) 76 _ rfl (ziC 14 L) rfl ?_;intro g4 z1 n0 r4 k;simp only[pv];have d3x4:=l_l r3.lt n0;have b4:=Nat.le_trans sb.size n0;clear n0;replace r3:=k.ro r3;replace sb:=kk sb k;clear k;refine ZD (by rfl) 77 _ rfl (#[.int .i64 ox,.int .i64 oy]) rfl ?_;intro g5 z2 n0 r5 k;simp only[pv];have d3x5:=l_l r3.lt n0;have d4x5:=l_l r4.lt n0;have b5:=Nat.le_trans sb.size n0;clear n0;replace r3:=k.ro r3;replace r4:=k.ro r4;replace sb:=kk sb k;clear k;refine p_v (.bool false) (fun _=>rfl) (Za ?_);simp only[pv];iterate 3 go_step
 apply Zo (by kernel_rfl) [] [_,_,_,_,_,_,_,_] trivial List.nodup_nil
 ·intro p;refine Zg _ (ZE 76 _ _ rfl g4 0 rfl 0 2 rfl (by decide) _ underlying76 7 sizeOf75) ?_;simp only[pv];refine Xe 75 _ rfl _ (0+0*7) rfl r4 (by simp<;>omega) (zC 7 (fun j=>L (0+j))) (P8 L 0 (by decide)) _ underlying75 rfl (by rw[Vd];exact Sl) ?_;simp only[pv];refine Zg _ (ZE 76 _ _ rfl g4 0 rfl 1 2 rfl (by decide) _ underlying76 7 sizeOf75) ?_;simp only[pv];refine Xe 75 _ rfl _ (0+1*7) rfl r4 (by simp<;>omega) (zC 7 (fun j=>L (7+j))) (P8 L 7 (by decide)) _ underlying75 rfl (by rw[Vd];exact Sl) ?_;simp only[pv];refine U3 75 rfl _ KB ?_;simp only[pv];refine U3 75 rfl _ KB ?_;simp only[pv];refine WY 9 75 _ _ rfl rfl rfl (zC 7 (fun j=>L (0+j))) rfl (by rw[Vd];exact Sl) (by simp only[Vd]) (H8 _ _) ?_;simp only[Act.put];refine WY 11 75 _ _ rfl rfl rfl (zC 7 (fun j=>L (7+j))) rfl (by rw[Vd];exact Sl) (by simp only[Vd]) (H8 _ _) ?_;simp only[Act.put];refine Zi ?_;intro w1 hkw hrw hnew hdis;have n7:=hnew 4 rfl;have n8:=hnew 5 rfl;have zr7:Row w1 (p 4) (zC 7 (fun j=>L (0+j))) 75:=hrw 9 (75,zC 7 (fun j=>L (0+j))) rfl;have zr8:Row w1 (p 5) (zC 7 (fun j=>L (7+j))) 75:=hrw 11 (75,zC 7 (fun j=>L (7+j))) rfl;have d3x7:=l_l r3.lt n7;have d3x8:=l_l r3.lt n8;have d5x7:=l_l r5.lt n7;have d5x8:=l_l r5.lt n8;have d7x8:=hdis 4 5 (by omega) rfl rfl;replace r3:=hkw.ro r3;replace r5:=hkw.ro r5;have b7:=Nat.le_trans sb.size n7;have b8:=Nat.le_trans sb.size n8;replace sb:=kk sb hkw;clear hkw hrw hnew hdis n7 n8;generalize p 4=g7 at*;generalize p 5=g8 at*;have r7:=zr7;clear zr7;have r8:=zr8;clear zr8;generalize (fun j=>L (0+j))=H at*;generalize (fun j=>L (7+j))=J at*;iterate 3 go_step
  refine rp ?_;refine p_v _ (Zb 23 _ 1 rfl g3 (0) rfl _ underlying23 _ rfl 0 sizeOf3) ?_;simp only[pv];refine Yj (by rfl) 3 _ _ rfl _ (1) rfl r3 (.int .i64 1) rfl rfl rfl Yw (by exact(by decide:1<8)) (mkC wh 1 op key s b by' sd) rfl ?_;clear r3;intro z2001 r3 k;simp only[Act.put];replace r5:=k.ro r5;replace r7:=k.ro r7;replace r8:=k.ro r8;replace sb:=kk sb k;clear k;refine Za ?_;iterate 3 go_step
  refine rp ?_;refine p_v _ (Zb 23 _ 2 rfl g3 (0) rfl _ underlying23 _ rfl 0 sizeOf3) ?_;simp only[pv];refine Yj (by rfl) 3 _ _ rfl _ (2) rfl r3 (.int .i64 1) rfl rfl rfl Yw (by exact(by decide:2<8)) (mkC wh 1 1 key s b by' sd) rfl ?_;clear r3;intro z3001 r3 k;simp only[Act.put];replace r5:=k.ro r5;replace r7:=k.ro r7;replace r8:=k.ro r8;replace sb:=kk sb k;clear k;refine Za ?_;iterate 3 go_step
  refine rp ?_;refine p_v _ (Zb 23 _ 3 rfl g3 (0) rfl _ underlying23 _ rfl 0 sizeOf9) ?_;simp only[pv];refine Yj (by rfl) 9 _ _ rfl _ (3) rfl r3 (.string ⟨#[107]⟩) rfl rfl rfl Xx (by exact(by decide:3<8)) (mkC wh 1 1 [107] s b by' sd) rfl ?_;clear r3;intro z4001 r3 k;simp only[Act.put];replace r5:=k.ro r5;replace r7:=k.ro r7;replace r8:=k.ro r8;replace sb:=kk sb k;clear k;refine Za ?_;iterate 3 go_step
  refine rp ?_;refine p_v _ (Zb 23 _ 4 rfl g3 (0) rfl _ underlying23 _ rfl 0 sizeOf9) ?_;simp only[pv];refine Yj (by rfl) 9 _ _ rfl _ (4) rfl r3 (.string ⟨#[118]⟩) rfl rfl rfl Xx (by exact(by decide:4<8)) (mkC wh 1 1 [107] [118] b by' sd) rfl ?_;clear r3;intro z5001 r3 k;simp only[Act.put];replace r5:=k.ro r5;replace r7:=k.ro r7;replace r8:=k.ro r8;replace sb:=kk sb k;clear k;refine Za ?_;iterate 3 go_step
  refine rp ?_;refine p_v _ (Zb 23 _ 5 rfl g3 (0) rfl _ underlying23 _ rfl 0 sizeOf4) ?_;simp only[pv];refine Yj (by rfl) 4 _ _ rfl _ (5) rfl r3 (.bool true) rfl rfl rfl VN (by exact(by decide:5<8)) (mkC wh 1 1 [107] [118] true by' sd) rfl ?_;clear r3;intro z6001 r3 k;simp only[Act.put];replace r5:=k.ro r5;replace r7:=k.ro r7;replace r8:=k.ro r8;replace sb:=kk sb k;clear k;refine Za ?_;iterate 3 go_step
  refine rp ?_;refine p_v _ (Zb 23 _ 6 rfl g3 (0) rfl _ underlying23 _ rfl 0 sizeOf3) ?_;simp only[pv];refine Yj (by rfl) 3 _ _ rfl _ (6) rfl r3 (.int .i64 200) rfl rfl rfl Yw (by exact(by decide:6<8)) (mkC wh 1 1 [107] [118] true 200 sd) rfl ?_;clear r3;intro z7001 r3 k;simp only[Act.put];replace r5:=k.ro r5;replace r7:=k.ro r7;replace r8:=k.ro r8;replace sb:=kk sb k;clear k;refine Za ?_;iterate 3 go_step
  refine rp ?_;refine Zf (by rfl) 23 _ rfl _ 0 rfl r3.r (mkC wh 1 1 [107] [118] true 200 sd) (Zu _) _ underlying23 rfl (by exact X7) ?_;simp only[pv];refine p_f 9 func9 #[.agg (mkC wh 1 1 [107] [118] true 200 sd)] (hmd _) ?_;rintro _ zM ⟨c,rz,CR,bs,rfl,ok,hcl,hop,hkey,hS0,rR,hC8,hpw,hyw,hrp,hry,hlp,hly,hb⟩;refine⟨_,rfl,?_⟩;simp only[pv]
  have lts:g3<c.p/\g5<c.p/\g7<c.p/\g8<c.p/\g3<c.y/\g5<c.y:=by have:=r3.lt;have:=r5.lt;have:=r7.lt;have:=r8.lt;omega
  replace hpw:=Nat.le_trans sb.size hpw;replace hyw:=Nat.le_trans sb.size hyw;replace r3:=r3.belowAll hb;replace r5:=r5.belowAll hb;replace r7:=r7.belowAll hb;replace r8:=r8.belowAll hb;replace sb:=sb.trans ((Kept.ofBelow hb).below w.heap.size sb.size (by simp));clear hb hmd;refine p_m ?_;refine p_e ?_;refine p_e ?_;refine p_e ?_;refine p_e ?_;simp only[pv];refine p_e ?_;refine p_a ?_;refine p_a ?_;refine p_a ?_;refine p_a ?_;simp only[pv];refine p_a (Za ?_);simp only[pv];have hT2:c.T<=2:=ok.t2;have hT1:1<=c.T:=ok.t1;have hS:=hS0 H J;clear hS0;iterate 4 go_step
  refine rp ?_;refine p_m ?_;simp only[pv];refine p_v _ (Zp _ _ rfl true rfl) (Za ?_);simp only[pv];iterate 7 go_step
  refine rp ?_;refine p_m ?_;simp only[pv];refine p_v (.pointer (some ⟨rz,0,none⟩)) (Zl _ rfl rz (0) rfl) ?_;simp only[pv];refine p_v _ (Zb 66 _ 2 rfl rz (0) rfl _ underlying66 _ rfl 0 sizeOf3) ?_;simp only[pv];refine p_d 8 rR.r (.int .i64 ((c.T:Nat))) hC8 isAgg3 ?_;simp only[pv];refine p_v _ (VQ _ _ _ _ rfl 3 (c.T:Nat) ((3*c.T:Nat):Int) rfl rfl (by omega) (by omega) (by omega)) ?_;simp only[pv];refine p_v _ (Xi _ _ _ _ rfl ((3*c.T:Nat):Int) 1 ((3*c.T+1:Nat):Int) rfl rfl (by omega) (by omega) (by omega)) ?_;refine p_a ?_;refine p_v (.int .i64 0) (fun _=>rfl) ?_;refine p_v (.int .i64 0) (fun _=>rfl) (Za ?_);simp only[pv];iterate 3 go_step
  refine rp ?_;refine p_v (.slice none 0 0) (fun _=>rfl) ?_;refine p_v (.slice none 0 0) (fun _=>rfl) (Za ?_);simp only[pv];iterate 4 go_step
  refine rp ?_;refine p_v (.int .i64 0) (fun _=>rfl) (Za ?_);simp only[pv]
  go_wp2_with fail
  have sM:=Z9 zM
  go_loopg [15,16,17,18,19,20,21] (3*c.T+1) (fun x s15 s16 s17 s18 s19 s20 s21 zL=> ∃(k m:Nat) (u:Nat->Nat),k+x=3*c.T+1/\s19= .int .i64 k/\s15= .int .i64 (wsM H J c.T k:Nat)/\s16= .int .i64 (wsN J c.T k:Nat)/\T1 zL zM.heap.size s17 k (wsT H J c.T)/\T1 zL zM.heap.size s18 m u/\WsU H J c.T k u m/\(∀b,s17.ownBlock=some b->s18.ownBlock≠some b)/\Below zM.heap.size zM zL)
  case atStart=>exact⟨0,0,fun _=>0,by omega,rfl,rfl,congrArg (fun n:Nat=>Value.int .i64 (n:Int)) (by unfold wsN;show 0=min 0 c.T;omega),PD _ _ _,PD _ _ _,Ad H J c.T _,nofun,sM⟩
  case round=>
   clear sM;obtain⟨k,m,u,hk,rfl,rfl,rfl,hT,hU,hWU,zhUxhT,sM⟩:=hrel
   cases gk with
   |zero=>
    obtain rfl:k=3*c.T+1:=by omega
    clear hk zhUxhT hie hz hs1 hs2 hl1 r7 r8;iterate 2 go_step
    refine rp ?_;refine p_m ?_;refine p_m ?_;simp only[pv];refine p_v _ (Xy ((3*c.T+1:Nat):Int) ((3*c.T+1:Nat):Int)) (Za ?_);simp only[pv];iterate 8 go_step
    refine rp ?_;refine p_v (.int .i64 0) (fun _=>rfl) (Za ?_);simp only[pv];have hWT:=Vs hT;obtain⟨aT,cT,rfl⟩:=YW hT;obtain⟨-,gT,curT,hN⟩:=Ri hT;obtain h0|⟨rfl,rT,htc⟩:=hN.at'
    ·exact absurd h0 (by omega)
    have hgT:zM.heap.size<=gT:=hWT gT (by simp[Value.ownBlock]);clear hN hT hWT;obtain⟨zL,hzL⟩: ∃z,z=wr:=⟨wr,rfl⟩
    subst hzL;replace r3:=r3.belowAll sM;replace r5:=r5.belowAll sM;replace rR:=rR.belowAll sM;replace hS:=hS.below sM;replace sb:=b_o sb sM;have hszL:=sM.size
    have n3:g3∉[c.p,c.y]:=by simp;omega
    have n5:g5∉[c.p,c.y]:=by simp;omega
    have nR:rz∉[c.p,c.y]:=by simp;omega
    have nT:gT∉[c.p,c.y]:=by simp;omega
    have nU: ∀b,u18.ownBlock=some b->b∉[c.p,c.y]:=fun b hb=>by have:=Vs hU b (by simp[hb]);simp;omega
    obtain⟨bx,hbx,ebx⟩:=VS ox 8 (by decide) 255 (by decide)
    go_wp2_with fail
    have sk:=Kept.refl [c.p,c.y] zL
    go_loopg [22,23] (3*c.T+1) (fun x s22 s23 wr=> ∃k:Nat,k+x=3*c.T+1/\s22= .int .i64 k/\WsS c H J wr/\Kept [c.p,c.y] zL wr)
    case atStart=>exact⟨0,by omega,rfl,hS,sk⟩
    case round=>
     clear sk hS;obtain⟨k,hk,rfl,hS,sk⟩:=hrel
     cases gk with
     |zero=>
      obtain rfl:k=3*c.T+1:=by omega
      clear hk rT htc ebx hbx bx nT;replace r3:=sk.row r3 n3;replace r5:=sk.row r5 n5;replace rR:=sk.row rR nR;replace hU:=hU.on sk nU;replace sb:=sb.trans (sk.below w.heap.size sb.size (by simp;omega));have hpK:=l_l hlp (Nat.le_trans hszL sk.size);have hyK:=l_l hly (Nat.le_trans hszL sk.size);clear sk;iterate 2 go_step
      refine rp ?_;refine p_m ?_;refine p_m ?_;simp only[pv];refine p_v _ (Xy ((3*c.T+1:Nat):Int) ((3*c.T+1:Nat):Int)) (Za ?_);simp only[pv];obtain⟨tl,bs',hzt,hA⟩|⟨tl,bs',hzt,hvo,hB⟩|⟨bs',hD⟩:=hS
      ·clear hU hWU nU;iterate 7 go_step
       refine rp ?_;refine p_m ?_;simp only[pv];refine p_f 20 func20 #[.pointer (some ⟨c.p,0,none⟩)] (Ey hA) ?_;rintro _ z29001 ⟨rfl,hb⟩;refine⟨_,rfl,?_⟩;simp only[pv];replace sb:=b_o sb hb;clear hb;refine p_m ?_;refine p_e ?_;refine p_e ?_;simp only[pv];refine ZJ (by rfl) 51 rfl _ Xj ?_;intro g24 z29005 n24 r24 k5;simp only[pv];refine Z0 (by rfl) 51 _ _ rfl _ rfl r24 (tsC 0 0) rfl (by exact Zz) (by rfl) (Xl _ _) ?_;clear r24;intro zst r24 k3;simp only[Act.put];have hb5:=(k5.below z29001.heap.size (Nat.le_refl _) (by simp)).trans (k3.below z29001.heap.size k5.size (by simp;exact n24));replace sb:=b_o sb hb5;clear k5 k3 hb5 n24;refine p_a (Za ?_);simp only[pv];iterate 4 go_step
       refine rp ?_;refine p_m ?_;simp only[pv];refine p_v _ (Zp _ _ rfl false rfl) (Za ?_);simp only[pv];iterate 4 go_step
       refine rp ?_;refine p_c 8 func8 #[] (haw _) ?_;intro z31000 k;simp only[pv];replace sb:=kk sb k;clear k;refine p_a (Za ?_);simp only[pv];go_wp2;go_ret;exact⟨rfl,sb⟩
      rotate_left
      ·clear hU hWU nU;iterate 7 go_step
       refine rp ?_;refine p_m ?_;simp only[pv];refine p_f 20 func20 #[.pointer (some ⟨c.p,0,none⟩)] (Ez hD) ?_;rintro _ z29001 ⟨rfl,hb⟩;refine⟨_,rfl,?_⟩;simp only[pv];replace sb:=b_o sb hb;clear hb;refine p_m ?_;refine p_e ?_;refine p_e ?_;simp only[pv];refine ZJ (by rfl) 51 rfl _ Xj ?_;intro g24 z29005 n24 r24 k5;simp only[pv];refine Z0 (by rfl) 51 _ _ rfl _ rfl r24 (tsC 0 0) rfl (by exact Zz) (by rfl) (Xl _ _) ?_;clear r24;intro zst r24 k3;simp only[Act.put];have hb5:=(k5.below z29001.heap.size (Nat.le_refl _) (by simp)).trans (k3.below z29001.heap.size k5.size (by simp;exact n24));replace sb:=b_o sb hb5;clear k5 k3 hb5 n24;refine p_a (Za ?_);simp only[pv];iterate 4 go_step
       refine rp ?_;refine p_m ?_;simp only[pv];refine p_v _ (Zp _ _ rfl false rfl) (Za ?_);simp only[pv];iterate 4 go_step
       refine rp ?_;refine p_c 8 func8 #[] (haw _) ?_;intro z31000 k;simp only[pv];replace sb:=kk sb k;clear k;refine p_a (Za ?_);simp only[pv];go_wp2;go_ret;exact⟨rfl,sb⟩
      obtain⟨hv0,hvm⟩:=Kv hzt hvo;have hmlt:=Kt H J c.T (3*c.T+1)
      have hle: ∀i,i<m->c.T<wsG u (u i) m->(u i:Int)<voV (c.T:Nat) (3*c.T+1) tl+1:=fun i hi hg=>by
       have h1:=IZ hzt hvo (x:=u i) (by have:=hWU.2 (u i);omega);omega
      have hmn:m<=1000:=by have:=hWU.1;omega
      obtain⟨sq,hsq,hq1,hqm⟩: ∃sq,voV (c.T:Nat) (3*c.T+1) tl+1=sq/\1<=sq/\sq<=((wsM H J c.T (3*c.T+1):Nat):Int)+1:=⟨_,rfl,by omega,by omega⟩
      rw[hsq]at hB hle;clear hsq hv0 hvm hvo hzt hWU tl
      have hst:stB sq c.cl=true:=by
       rw[hcl];exact decide_eq_true ⟨hq1,by omega,(by decide:(1:Int)<=1),(by decide:(1:Int)<=4)⟩
      have hma:Tp 7 c.op c.key sq c.cl []=true:=by
       rw[hop,hkey,hcl];exact EJ hq1 (by omega)
      iterate 7 go_step
      refine rp ?_;refine p_m ?_;simp only[pv];refine p_f 20 func20 #[.pointer (some ⟨c.p,0,none⟩)] (Ki hB hst) ?_;rintro _ z29001 ⟨rfl,hb⟩;refine⟨_,rfl,?_⟩;simp only[pv];replace r3:=r3.belowAll hb;replace r5:=r5.belowAll hb;replace rR:=rR.belowAll hb;replace hB:=hB.below hb;replace hU:=UB hU hb;replace sb:=b_o sb hb;have hpz:=l_l hpK hb.size;have hyz:=l_l hyK hb.size;clear hb;refine p_m ?_;refine p_e ?_;refine p_e ?_;simp only[pv];refine ZJ (by rfl) 51 rfl _ Xj ?_;intro g24 z29005 n24 r24 k5;simp only[pv];refine Z0 (by rfl) 51 _ _ rfl _ rfl r24 (tsC sq c.cl) rfl (by exact Zz) (by rfl) (Xl _ _) ?_;clear r24;intro zst r24 k3;simp only[Act.put];have hb5:=(k5.below z29001.heap.size (Nat.le_refl _) (by simp)).trans (k3.below z29001.heap.size k5.size (by simp;exact n24));replace r3:=r3.belowAll hb5;replace r5:=r5.belowAll hb5;replace rR:=rR.belowAll hb5;replace hB:=hB.below hb5;replace hU:=UB hU hb5;replace sb:=b_o sb hb5;have h24:c.p<g24/\c.y<g24:=by omega
      clear k5 k3 hb5 n24;refine p_a (Za ?_);simp only[pv];iterate 4 go_step
      refine rp ?_;refine p_m ?_;simp only[pv];refine p_v _ (Zp _ _ rfl true rfl) (Za ?_);simp only[pv];iterate 8 go_step
      refine rp ?_;refine p_v _ (Zb 51 _ 0 rfl g24 0 rfl _ underlying51 _ rfl 0 sizeOf3) ?_;simp only[pv];refine p_d 0 r24.r (.int .i64 sq) rfl isAgg3 ?_;refine p_m ?_;simp only[pv];refine p_v _ (x_a (wsM H J c.T (3*c.T+1)) 1) ?_;simp only[pv];refine p_v _ (Qe sq ((wsM H J c.T (3*c.T+1)+1:Nat):Int)) ?_;refine p_m ?_;simp only[pv];refine p_v _ (Zb 51 _ 1 rfl g24 0 rfl _ underlying51 _ rfl 0 sizeOf3) ?_;simp only[pv];refine p_d 1 r24.r (.int .i64 c.cl) rfl isAgg3 ?_;simp only[pv];refine p_v _ (ZC .i64 _ _ _ _ rfl c.cl 1 rfl rfl false (by rw[hcl];rfl)) ?_;refine p_k false (.bool false) (Za ?_);simp only[pv];iterate 8 go_step
      refine ZF (by kernel_rfl) (by kernel_rfl) ?_;refine q_v _ (Zb 51 _ 0 rfl g24 0 rfl _ underlying51 _ rfl 0 sizeOf3) ?_;simp only[pv];refine ZH (by rfl) 3 _ rfl _ (0) rfl r24 (.int .i64 sq) rfl isAgg3 ?_;refine q_m ?_;refine q_m ?_;simp only[pv];refine q_v (.pointer (some ⟨rz,0,none⟩)) (Zl _ rfl rz (0) rfl) ?_;simp only[pv];refine q_v _ (Zb 66 _ 2 rfl rz 0 rfl _ underlying66 _ rfl 0 sizeOf3) ?_;simp only[pv];refine ZH (by rfl) 3 _ rfl _ (8) rfl rR (.int .i64 (c.T:Nat)) hC8 isAgg3 ?_;simp only[pv];refine q_k 24 func24 #[.int .i64 sq,u18,.int .i64 (c.T:Nat)] (fun w' hb=>EG sq u18 m c.T _ u w' (UB hU hb) hmn (by omega) hle) ?_;simp only[pv];refine q_v _ (Zp _ _ rfl true rfl) ?_;simp only[pv];refine Z2 ?_;intro wQ hqb;replace r3:=r3.belowAll hqb;replace r5:=r5.belowAll hqb;replace rR:=rR.belowAll hqb;replace r24:=r24.belowAll hqb;replace hB:=hB.belowAll hqb;replace sb:=b_o sb hqb;clear hqb;clear hU hle hmn nU;iterate 7 go_step
      refine rp ?_;refine p_v (.int .i64 0) (fun _=>rfl) (Za ?_);simp only[pv];iterate 4 go_step
      refine rp ?_;refine p_v (.int .i64 0) (fun _=>rfl) (Za ?_);simp only[pv]
      have n24:g24∉[c.p,c.y]:=by simp;omega
      have hKK:WsK c sq 0 0 wQ:=.inl ⟨bs',fun _=>false,hB,rfl,Nat.zero_le _,fun _ _=>rfl⟩;clear hB
      go_wp2_with fail
      have sk:=Kept.refl [c.p,c.y] wQ
      go_loopg [26,27,28,29,30] (3*c.T+1) (fun x s26 s27 s28 s29 s30 wr=> ∃k ac:Nat,k+x=3*c.T+1/\s27= .int .i64 k/\s26= .int .i64 ac/\ac<=k/\WsK c sq k ac wr/\Kept [c.p,c.y] wQ wr)
      case atStart=>exact⟨0,0,by omega,rfl,rfl,Nat.le_refl _,hKK,sk⟩
      case round=>
       clear sk hKK;obtain⟨k,ac,hk,rfl,rfl,hac,hKK,sk⟩:=hrel;replace r3:=sk.row r3 n3;replace r5:=sk.row r5 n5;replace rR:=sk.row rR nR;replace r24:=sk.row r24 n24
       cases gk with
       |zero=>
        obtain rfl:k=3*c.T+1:=by omega
        clear hk;replace sb:=sb.trans (sk.below w.heap.size sb.size (by simp;omega));clear sk;iterate 2 go_step
        refine rp ?_;refine p_m ?_;refine p_m ?_;simp only[pv];refine p_v _ (Xy ((3*c.T+1:Nat):Int) ((3*c.T+1:Nat):Int)) (Za ?_);simp only[pv];obtain⟨D,hD⟩: ∃D,decide (((2*c.T+1:Nat):Int)<=(ac:Nat))=D:=⟨_,rfl⟩
        have htk:=fun w' (hb:Below wr.heap.size wr w')=>EE ok (hKK.below hb)
        rw[hD]at htk;iterate 7 go_step
        refine Ys (by kernel_rfl) [] [(0,false),(4,false),(5,false),(6,false),(7,false),(8,false),(9,false),(10,false),(11,false),(1,true),(2,false),(3,false),(12,false),(13,false),(14,false),(15,false),(16,false)] ?_ (by kernel_rfl);refine e_m ?_;refine e_m ?_;refine e_m ?_;simp only[pv];refine e_v (.pointer (some ⟨rz,0,none⟩)) (Zl _ rfl rz (0) rfl) ?_;simp only[pv];refine e_v (.pointer (some ⟨rz,8,none⟩)) (Zb 66 _ 2 rfl rz (0) rfl _ underlying66 _ rfl 0 sizeOf3) ?_;simp only[pv];refine Yh (by rfl) 3 _ rfl _ (8) rfl (fun _ hb=>(rR.belowAll hb).r) (.int .i64 ((c.T:Nat))) (hC8) isAgg3 ?_;simp only[pv];refine e_v (.int .i64 ((2*c.T:Nat):Int)) (VQ _ _ _ _ rfl 2 (c.T:Nat) ((2*c.T:Nat):Int) rfl rfl (by omega) (by omega) (by omega)) ?_;simp only[pv];refine e_v (.int .i64 ((2*c.T+1:Nat):Int)) (Xi _ _ _ _ rfl ((2*c.T:Nat):Int) 1 ((2*c.T+1:Nat):Int) rfl rfl (by omega) (by omega) (by omega)) ?_;simp only[pv];refine e_v (.bool D) (ZG _ _ _ _ rfl (ac:Nat) ((2*c.T+1:Nat):Int) rfl rfl D hD) ?_;simp only[pv];refine XZ (by rfl) 22 _ _ rfl func22 (by kernel_rfl) #[.pointer (some ⟨c.p,0,none⟩)] rfl (fun w2 hb2=>(htk w2 hb2).mono ?_);rintro _ w3 ⟨aO,mO,cO,rfl,hlen,hb3⟩;have hq3:=Zk hb2 (Nat.le_refl _) hb3;refine⟨_,rfl,fun _=>hq3,?_⟩;simp only[pv];refine e_v (.int .i64 (mO:Nat)) (n_l aO mO cO Xk) ?_;simp only[pv];refine e_v (.bool D) (Zq .i64 _ _ _ _ rfl (mO:Nat) 0 rfl rfl D hlen) ?_;simp only[pv];refine e_v (.bool true) (Ai _ _ _ _ rfl D D rfl rfl underlying4 true (by cases D<;>rfl)) ?_;refine e_m ?_;simp only[pv];refine TV (by rfl) 8 _ _ rfl func8 (by kernel_rfl) #[] rfl _ (fun w' hb=>haw w') ?_;simp only[pv];refine Fw (by rfl) true (v:=.bool true) rfl rfl rfl ?_;refine UX (by rfl) rfl rfl ?_;simp only[pv];refine XY ?_;intro wz hqz;replace sb:=Zk sb (Nat.le_refl _) (Zk hq3 (Nat.le_refl _) hqz);go_wp2;go_ret;exact⟨rfl,sb⟩
       |succ x=>
        have hlt:k<3*c.T+1:=by omega
        iterate 2 go_step
        refine rp ?_;refine p_m ?_;refine p_m ?_;simp only[pv];refine p_v _ (XK (k:Nat) ((3*c.T+1:Nat):Int)) (Za ?_);simp only[pv];obtain⟨bt,hbt,ebt⟩:=VS (oy/2^k) 1 (by decide) 1 (by decide);obtain⟨D,hD⟩: ∃D,decide (((bt:Nat):Int)=0)=D:=⟨_,rfl⟩
        iterate 10 go_step
        refine rp ?_;refine p_v _ (ZE 77 _ _ rfl g5 0 rfl 1 2 rfl (by decide) _ underlying77 1 sizeOf3) ?_;simp only[pv];refine p_d (0+1*1) r5.r (.int .i64 oy) rfl isAgg3 ?_;refine p_m ?_;simp only[pv];refine p_v _ (Ah _ _ _ _ rfl oy k (oy/2^k) rfl rfl (by omega) rfl) ?_;simp only[pv];refine p_v _ (Ni _ _ _ _ rfl (oy/2^k) 1 (bt:Nat) rfl rfl ebt) ?_;simp only[pv];refine p_v _ (Zq .i64 _ _ _ _ rfl (bt:Nat) 0 rfl rfl D hD) (Za ?_);simp only[pv]
        cases D with
        |true=>
         iterate 6 go_step
         refine rp ?_;refine p_m ?_;simp only[pv];refine p_v _ (x_a k 1) ?_;refine p_a (Za ?_);simp only[pv];go_wp2
         go_roundg x
         case measure=>omega
         case rel=>exact⟨k+1,ac,by omega,rfl,rfl,by omega,hKK.up,sk⟩
        |false=>
         obtain⟨E,hE⟩: ∃E,decide (ac+1=2*c.T+1)=E:=⟨_,rfl⟩
         have hst:=fun w' (hb:Below wr.heap.size wr w')=>CP ok (hKK.below hb) hlt hma
         rw[hE]at hst;unfold Wc.step Kf at hst;rw[hop,hkey]at hst
         have hE':decide (((ac+1:Nat):Int)=((2*c.T+1:Nat):Int))=E:=by rw[<-hE];exact decide_eq_decide.2 (by omega)
         clear hE;iterate 7 go_step
         refine rp ?_;refine p_m ?_;refine p_m ?_;simp only[pv];refine p_v _ (x_a k 1) ?_;simp only[pv];refine Zf (by rfl) 23 _ rfl _ 0 rfl r3.r (mkC wh 1 1 [107] [118] true 200 sd) (Zu _) _ underlying23 rfl (by exact X7) ?_;simp only[pv];refine p_v _ (Zm _ [(1,_)] rfl [(1,.int .i64 7)] rfl _ (UR 7)) ?_;simp only[pv];refine Zf (by rfl) 51 _ rfl _ (0) rfl r24.r (tsC sq c.cl) (Zu _) _ underlying51 rfl Zz ?_;simp only[pv];refine p_f 17 func17 #[.agg (mkC wh 1 1 [107] [118] true 200 sd),.agg (atC 0 7 0 0 false),.agg (tsC sq c.cl)] (Es wh 1 1 [107] [118] true 200 sd sq c.cl _) ?_;rintro _ z41006 ⟨rfl,hb⟩;refine⟨_,rfl,?_⟩;simp only[pv];refine p_m ?_;simp only[pv];refine p_f 18 func18 #[.pointer (some ⟨c.p,0,none⟩),.int .i64 ((k+1:Nat):Int),.agg (msC 7 1 [107] sq c.cl [] none 0 0 none 0 0),.pointer (some ⟨c.y,0,none⟩)] (hst _ hb) ?_;rintro _ z41008 ⟨⟨vo,rfl⟩,hKK,kp⟩;refine⟨_,rfl,?_⟩;simp only[pv];replace sk:=(sk.trans (Kept.ofBelow hb) (by simp)).trans kp (fun b hb=>.inl hb);clear hst;refine p_m ?_;refine p_e ?_;refine p_e ?_;refine p_e ?_;refine p_a ?_;simp only[pv];refine p_a ?_;refine p_a (Za ?_);simp only[pv];replace rR:=kp.row (rR.belowAll hb) nR;iterate 3 go_step
         refine rp ?_;refine p_m ?_;simp only[pv];refine p_v _ (x_a ac 1) ?_;refine p_a (Za ?_);simp only[pv];iterate 3 go_step
         refine rp ?_;refine p_m ?_;refine p_m ?_;refine p_m ?_;simp only[pv];refine p_v (.pointer (some ⟨rz,0,none⟩)) (Zl _ rfl rz (0) rfl) ?_;simp only[pv];refine p_v _ (Zb 66 _ 2 rfl rz 0 rfl _ underlying66 _ rfl 0 sizeOf3) ?_;simp only[pv];refine p_d 8 rR.r (.int .i64 (c.T:Nat)) hC8 isAgg3 ?_;simp only[pv];refine p_v _ (VQ _ _ _ _ rfl 2 (c.T:Nat) ((2*c.T:Nat):Int) rfl rfl (by omega) (by omega) (by omega)) ?_;simp only[pv];refine p_v _ (Xi _ _ _ _ rfl ((2*c.T:Nat):Int) 1 ((2*c.T+1:Nat):Int) rfl rfl (by omega) (by omega) (by omega)) ?_;simp only[pv];refine p_v _ (Zq .i64 _ _ _ _ rfl ((ac+1:Nat):Int) ((2*c.T+1:Nat):Int) rfl rfl E hE') ?_;simp only[pv];refine p_v _ (Bx _ _ _ _ rfl E E rfl rfl underlying4 false (by cases E<;>rfl)) ?_;refine p_m ?_;refine p_m ?_;simp only[pv];refine p_v _ (ZC .i64 _ _ _ _ rfl 0 0 rfl rfl false rfl) ?_;refine p_k false (.bool false) (Za ?_);simp only[pv];iterate 6 go_step
         refine rp ?_;refine p_m ?_;simp only[pv];refine p_v _ (x_a k 1) ?_;refine p_a (Za ?_);simp only[pv];go_wp2
         go_roundg x
         case measure=>omega
         case rel=>exact⟨k+1,ac+1,by omega,rfl,rfl,by omega,hKK,sk⟩
     |succ x=>
      have hlt:k<3*c.T+1:=by omega
      obtain⟨i,hi,hil⟩: ∃i,(bx+k)%(3*c.T+1)=i/\i<3*c.T+1:=⟨_,rfl,Nat.mod_lt _ (by omega)⟩
      have q5:=sk.row r5 n5;have q3:=sk.row r3 n3;have qT:=sk.rowR rT nT;iterate 2 go_step
      refine rp ?_;refine p_m ?_;refine p_m ?_;simp only[pv];refine p_v _ (XK (k:Nat) ((3*c.T+1:Nat):Int)) (Za ?_);simp only[pv];iterate 9 go_step
      refine rp ?_;refine p_v _ (ZE 77 _ _ rfl g5 0 rfl 0 2 rfl (by decide) _ underlying77 1 sizeOf3) ?_;simp only[pv];refine p_d (0+0*1) q5.r (.int .i64 ox) rfl isAgg3 ?_;simp only[pv];refine p_v _ (Ni _ _ _ _ rfl ox 255 (bx:Nat) rfl rfl ebx) ?_;refine p_m ?_;simp only[pv];refine p_v _ (x_a bx k) ?_;refine p_m ?_;simp only[pv];refine p_v _ (CV _ _ _ _ rfl (bx+k) (3*c.T+1) i rfl rfl (by omega) hi) ?_;refine p_a (Za ?_);simp only[pv];have hti:=htc i hil;obtain⟨q,hq⟩: ∃q,wsT H J c.T i=q:=⟨_,rfl⟩
      rw[hq]at hti;have hst:=fun w' (hb:Below wr.heap.size wr w')=>ED ok (hS.below hb) i hil hop hkey q hq
      unfold Wc.step Kf at hst;rw[hop,hkey]at hst;iterate 2 go_step
      refine Ys (by kernel_rfl) [12] [(0,false),(1,false),(2,false),(3,false),(4,false),(5,false),(6,false),(7,false),(8,false),(9,false),(10,false),(11,false),(12,true)] ?_ (by kernel_rfl);refine e_m ?_;refine e_m ?_;simp only[pv];refine e_v (.int .i64 ((i+1:Nat):Int)) (x_a i 1) ?_;simp only[pv];refine Wq (by rfl) 23 _ rfl _ (0) rfl (fun _ hb=>(q3.belowAll hb).r) (mkC wh 1 1 [107] [118] true 200 sd) ((Zu _)) _ underlying23 rfl X7 ?_;refine e_m ?_;refine e_m ?_;simp only[pv];refine e_v (.pointer (some ⟨gT,0+i*1,none⟩)) (Zs 62 _ _ rfl gT 0 (3*c.T+1) cT rfl i rfl hil _ underlying62 1 sizeOf3) ?_;simp only[pv];refine Yh (by rfl) 3 _ rfl _ (0+i*1) rfl (fun _ hb=>qT.belowAll hb) (.int .i64 ((q:Nat))) (hti) isAgg3 ?_;simp only[pv];refine e_v (.agg (atC 0 3 (q:Nat) 0 false)) (Zm _ [(1,_),(2,_)] rfl [(1,.int .i64 3),(2,.int .i64 (q:Nat))] rfl _ (Si 3 (q:Nat))) ?_;simp only[pv];refine e_v (.agg (tsC 0 0)) (Zm _ [] rfl [] rfl _ Z1) ?_;simp only[pv];refine TV (by rfl) 17 _ _ rfl func17 (by kernel_rfl) #[.agg (mkC wh 1 1 [107] [118] true 200 sd),.agg (atC 0 3 (q:Nat) 0 false),.agg (tsC 0 0)] rfl _ (fun w' hb=>CN wh 1 1 [107] [118] true 200 sd q w') ?_;refine e_m ?_;simp only[pv];refine XZ (by rfl) 18 _ _ rfl func18 (by kernel_rfl) #[.pointer (some ⟨c.p,0,none⟩),.int .i64 ((i+1:Nat):Int),.agg (msC 3 1 [107] (q:Nat) (wqc q) (wdg q) none 0 0 none 0 0),.pointer (some ⟨c.y,0,none⟩)] rfl (fun w2 hb2=>(hst w2 hb2).mono ?_);rintro _ w3 ⟨⟨vo,rfl⟩,hS3,kp⟩;refine⟨_,rfl,fun h=>(by cases h),?_⟩;simp only[pv];refine XY ?_;intro wz hqz;replace hS3:=hS3.below hqz;replace sk:=((sk.trans (Kept.ofBelow hb2) (by simp)).trans kp (fun b hb=>.inl hb)).on hqz;clear hst kp hqz hb2 hS;iterate 2 go_step
      refine rp ?_;refine p_m ?_;simp only[pv];refine p_v _ (x_a k 1) ?_;refine p_a (Za ?_);simp only[pv];go_wp2
      go_roundg x
      case measure=>omega
      case rel=>exact⟨k+1,by omega,rfl,hS3,sk⟩
   |succ x=>
    have hlt:k<3*c.T+1:=by omega
    have h7:k<7:=by omega
    have zhTxhU:=VM zhUxhT;have hNk:=Ks J c.T k;clear hS;iterate 2 go_step
    refine rp ?_;refine p_m ?_;refine p_m ?_;simp only[pv];refine p_v _ (XK (k:Nat) ((3*c.T+1:Nat):Int)) (Za ?_);simp only[pv];iterate 9 go_step
    refine rp ?_;refine p_m ?_;simp only[pv];refine p_v _ (ZE 75 _ _ rfl g7 0 rfl k 7 rfl h7 _ underlying75 1 sizeOf3) ?_;simp only[pv];refine p_d (0+k*1) (r7.belowAll sM).r (.int .i64 (H k)) (US _ h7) isAgg3 ?_;simp only[pv];refine p_v _ (Ni _ _ _ _ rfl (H k) 65535 (wsH H k:Nat) rfl rfl (Kp H k).2) ?_;refine p_a (Za ?_);simp only[pv];iterate 3 go_step
    refine rp ?_;refine p_m ?_;refine p_a (Za ?_);simp only[pv]
    cases hq:wsQ J k with
    |true=>
     by_cases hl:wsN J c.T k<c.T
     ·obtain⟨hL,hN1⟩:=QO hq hl;have hv:wsT H J c.T k=wsV J k:=if_pos hL;iterate 4 go_step
      refine rp ?_;refine p_m ?_;simp only[pv];refine p_v _ (ZE 75 _ _ rfl g8 0 rfl k 7 rfl h7 _ underlying75 1 sizeOf3) ?_;simp only[pv];refine p_d (0+k*1) (r8.belowAll sM).r (.int .i64 (J k)) (US _ h7) isAgg3 ?_;simp only[pv];refine p_v _ (Ni _ _ _ _ rfl (J k) 3 (an (J k) 3) rfl rfl rfl) ?_;simp only[pv];refine p_v _ (Zq .i64 _ _ _ _ rfl (an (J k) 3) 0 rfl rfl true hq) ?_;refine p_m ?_;refine p_m ?_;refine p_m ?_;simp only[pv];refine p_v (.pointer (some ⟨rz,0,none⟩)) (Zl _ rfl rz (0) rfl) ?_;simp only[pv];refine p_v _ (Zb 66 _ 2 rfl rz 0 rfl _ underlying66 _ rfl 0 sizeOf3) ?_;simp only[pv];refine p_d 8 (rR.belowAll sM).r (.int .i64 (c.T:Nat)) hC8 isAgg3 ?_;simp only[pv];refine p_v _ (XK (wsN J c.T k:Nat) (c.T:Nat)) ?_;refine p_k true (.bool true) (Za ?_);simp only[pv];iterate 4 go_step
      refine rp ?_;refine p_m ?_;simp only[pv];refine p_v _ (ZE 75 _ _ rfl g8 0 rfl k 7 rfl h7 _ underlying75 1 sizeOf3) ?_;simp only[pv];refine p_d (0+k*1) (r8.belowAll sM).r (.int .i64 (J k)) (US _ h7) isAgg3 ?_;simp only[pv];refine p_v _ (Et _ _ _ _ rfl (J k) 2 (J k/2^2) rfl rfl (by decide) rfl) ?_;simp only[pv];refine p_v _ (Ni _ _ _ _ rfl (J k/2^2) 1048575 (wsT H J c.T k:Nat) rfl rfl (by rw[hv];exact(H3 J k).2)) ?_;refine p_a (Za ?_);simp only[pv];iterate 2 go_step
      refine rp ?_;refine p_m ?_;simp only[pv];refine p_v _ (x_a (wsN J c.T k) 1) ?_;refine p_a (Za ?_);simp only[pv];iterate 2 go_step
      refine rp ?_;refine p_m ?_;refine p_m ?_;simp only[pv];refine Xg (by rfl) 62 3 1 _ rfl #[.int .i64 (wsT H J c.T k:Nat)] ie _ underlying62 hie hz hs1 hs2 [(0,.int .i64 (wsT H J c.T k:Nat))] rfl (hl1 _) ?_;intro gA z23002 n0 rA k;simp only[pv];have ehTxA:=hT.new n0;have ehUxA:=hU.new n0;have bA:=Nat.le_trans sM.size n0;clear n0;replace hT:=hT.on k (Xo _);replace hU:=hU.on k (Xo _);replace sM:=kk sM k;clear k;refine UD (by rfl) _ _ rfl (zM.heap.size) (_) (k) ((wsT H J c.T)) rfl hT gA _ rfl rA ((by omega)) sM.size ?_;have h0:=hT;clear hT;intro v1 z23003 hT k hp;simp only[pv];have zt:=UE hU hp zhTxhU;replace hU:=hU.on k (Vt zhTxhU);clear zhTxhU zhUxhT;have zhTxhU:=zt;have zhUxhT:=VM zt;clear zt;clear hp;replace sM:=sM.trans (k.below zM.heap.size sM.size h0.base);clear h0;clear k;refine p_a (Za ?_);simp only[pv];iterate 2 go_step
      refine rp ?_;refine p_m ?_;simp only[pv];refine p_v _ (x_a k 1) ?_;refine p_a (Za ?_);simp only[pv];go_wp2
      go_roundg x
      case measure=>omega
      case rel=>exact⟨k+1,m,u,by omega,rfl,by rw[CX hL],by rw[hN1],hT,hU,EC hWU hL hN1,zhUxhT,sM⟩
     ·obtain⟨hL,hN1⟩:=Sk hq hl;iterate 4 go_step
      refine rp ?_;refine p_m ?_;simp only[pv];refine p_v _ (ZE 75 _ _ rfl g8 0 rfl k 7 rfl h7 _ underlying75 1 sizeOf3) ?_;simp only[pv];refine p_d (0+k*1) (r8.belowAll sM).r (.int .i64 (J k)) (US _ h7) isAgg3 ?_;simp only[pv];refine p_v _ (Ni _ _ _ _ rfl (J k) 3 (an (J k) 3) rfl rfl rfl) ?_;simp only[pv];refine p_v _ (Zq .i64 _ _ _ _ rfl (an (J k) 3) 0 rfl rfl true hq) ?_;refine p_m ?_;refine p_m ?_;refine p_m ?_;simp only[pv];refine p_v (.pointer (some ⟨rz,0,none⟩)) (Zl _ rfl rz (0) rfl) ?_;simp only[pv];refine p_v _ (Zb 66 _ 2 rfl rz 0 rfl _ underlying66 _ rfl 0 sizeOf3) ?_;simp only[pv];refine p_d 8 (rR.belowAll sM).r (.int .i64 (c.T:Nat)) hC8 isAgg3 ?_;simp only[pv];refine p_v _ (Xy (wsN J c.T k:Nat) (c.T:Nat)) ?_;refine p_k true (.bool false) (Za ?_);simp only[pv];have hv:wsT H J c.T k=wsH H k:=if_neg (by rw[hL];exact Bool.false_ne_true);replace hU:=KC hU (u2:=fun j=>if j=m then wsH H k else u j) (fun j hj=>(if_neg (by omega)).symm);have hum:(fun j=>if j=m then wsH H k else u j) m=wsH H k:=if_pos rfl;have huj: ∀j,j<m->(fun j=>if j=m then wsH H k else u j) j=u j:=fun j hj=>if_neg (by omega)
      generalize (fun j=>if j=m then wsH H k else u j)=u2 at*
      have hm7:m<=7:=by have:=hWU.1;omega
      iterate 4 go_step
      refine rp ?_;refine p_m ?_;refine p_m ?_;simp only[pv];refine p_v _ (Rv _ _ _ _ rfl ((wsM H J c.T k:Nat):Int) ((wsH H k:Nat):Int) rfl rfl) ?_;refine p_a (Za ?_);simp only[pv];iterate 2 go_step
      refine rp ?_;refine p_m ?_;refine p_m ?_;simp only[pv];refine Xg (by rfl) 62 3 1 _ rfl #[.int .i64 (wsH H k:Nat)] ie _ underlying62 hie hz hs1 hs2 [(0,.int .i64 (wsH H k:Nat))] rfl (hl1 _) ?_;intro gB z22002 n0 rB k;simp only[pv];have ehTxB:=hT.new n0;have ehUxB:=hU.new n0;have bB:=Nat.le_trans sM.size n0;clear n0;replace hT:=hT.on k (Xo _);replace hU:=hU.on k (Xo _);replace sM:=kk sM k;clear k;refine UD (by rfl) _ _ rfl (zM.heap.size) (_) (m) (u2) rfl hU gB _ rfl (by rw[hum];exact rB) ((by omega)) sM.size ?_;have h0:=hU;clear hU;intro v1 z22003 hU k hp;simp only[pv];have zt:=UE hT hp zhUxhT;replace hT:=hT.on k (Vt zhUxhT);clear zhUxhT zhTxhU;have zhUxhT:=zt;have zhTxhU:=VM zt;clear zt;have crB:=rB.lt;replace rB:=k.row rB (by first|exact YX ehUxB|exact YX (h0.low (by omega)))
      (try replace ehUxB:=Xw hp crB ehUxB)
      clear crB;clear hp;replace sM:=sM.trans (k.below zM.heap.size sM.size h0.base);clear h0;clear k;refine p_a (Za ?_);simp only[pv];iterate 2 go_step
      refine rp ?_;refine p_m ?_;refine p_m ?_;simp only[pv];refine Xg (by rfl) 62 3 1 _ rfl #[.int .i64 (wsH H k:Nat)] ie _ underlying62 hie hz hs1 hs2 [(0,.int .i64 (wsH H k:Nat))] rfl (hl1 _) ?_;intro gA z23002 n0 rA k;simp only[pv];have ehTxA:=hT.new n0;have ehUxA:=hU.new n0;have bA:=Nat.le_trans sM.size n0;clear n0;replace hT:=hT.on k (Xo _);replace hU:=hU.on k (Xo _);replace sM:=kk sM k;clear k;refine UD (by rfl) _ _ rfl (zM.heap.size) (_) (k) ((wsT H J c.T)) rfl hT gA _ rfl (by rw[hv];exact rA) ((by omega)) sM.size ?_;have h0:=hT;clear hT;intro v1 z23003 hT k hp;simp only[pv];have zt:=UE hU hp zhTxhU;replace hU:=hU.on k (Vt zhTxhU);clear zhTxhU zhUxhT;have zhTxhU:=zt;have zhUxhT:=VM zt;clear zt;have crA:=rA.lt;replace rA:=k.row rA (by first|exact YX ehTxA|exact YX (h0.low (by omega)))
      (try replace ehTxA:=Xw hp crA ehTxA)
      clear crA;clear hp;replace sM:=sM.trans (k.below zM.heap.size sM.size h0.base);clear h0;clear k;refine p_a (Za ?_);simp only[pv];iterate 2 go_step
      refine rp ?_;refine p_m ?_;simp only[pv];refine p_v _ (x_a k 1) ?_;refine p_a (Za ?_);simp only[pv];go_wp2
      go_roundg x
      case measure=>omega
      case rel=>exact⟨k+1,m+1,u2,by omega,rfl,by rw[CW hL],by rw[hN1],hT,hU,H5 hWU hL hN1 huj hum,zhUxhT,sM⟩
    |false=>
     obtain⟨hL,hN1⟩:=Kq hq (f:=c.T);iterate 4 go_step
     refine rp ?_;refine p_m ?_;simp only[pv];refine p_v _ (ZE 75 _ _ rfl g8 0 rfl k 7 rfl h7 _ underlying75 1 sizeOf3) ?_;simp only[pv];refine p_d (0+k*1) (r8.belowAll sM).r (.int .i64 (J k)) (US _ h7) isAgg3 ?_;simp only[pv];refine p_v _ (Ni _ _ _ _ rfl (J k) 3 (an (J k) 3) rfl rfl rfl) ?_;simp only[pv];refine p_v _ (Zq .i64 _ _ _ _ rfl (an (J k) 3) 0 rfl rfl false hq) ?_;refine p_m ?_;refine p_s ?_;refine p_s ?_;refine p_s ?_;simp only[pv];refine p_s ?_;refine p_s ?_;refine p_s ?_;refine p_k false (.bool false) (Za ?_);simp only[pv];have hv:wsT H J c.T k=wsH H k:=if_neg (by rw[hL];exact Bool.false_ne_true);replace hU:=KC hU (u2:=fun j=>if j=m then wsH H k else u j) (fun j hj=>(if_neg (by omega)).symm);have hum:(fun j=>if j=m then wsH H k else u j) m=wsH H k:=if_pos rfl;have huj: ∀j,j<m->(fun j=>if j=m then wsH H k else u j) j=u j:=fun j hj=>if_neg (by omega)
     generalize (fun j=>if j=m then wsH H k else u j)=u2 at*
     have hm7:m<=7:=by have:=hWU.1;omega
     iterate 4 go_step
     refine rp ?_;refine p_m ?_;refine p_m ?_;simp only[pv];refine p_v _ (Rv _ _ _ _ rfl ((wsM H J c.T k:Nat):Int) ((wsH H k:Nat):Int) rfl rfl) ?_;refine p_a (Za ?_);simp only[pv];iterate 2 go_step
     refine rp ?_;refine p_m ?_;refine p_m ?_;simp only[pv];refine Xg (by rfl) 62 3 1 _ rfl #[.int .i64 (wsH H k:Nat)] ie _ underlying62 hie hz hs1 hs2 [(0,.int .i64 (wsH H k:Nat))] rfl (hl1 _) ?_;intro gB z22002 n0 rB k;simp only[pv];have ehTxB:=hT.new n0;have ehUxB:=hU.new n0;have bB:=Nat.le_trans sM.size n0;clear n0;replace hT:=hT.on k (Xo _);replace hU:=hU.on k (Xo _);replace sM:=kk sM k;clear k;refine UD (by rfl) _ _ rfl (zM.heap.size) (_) (m) (u2) rfl hU gB _ rfl (by rw[hum];exact rB) ((by omega)) sM.size ?_;have h0:=hU;clear hU;intro v1 z22003 hU k hp;simp only[pv];have zt:=UE hT hp zhUxhT;replace hT:=hT.on k (Vt zhUxhT);clear zhUxhT zhTxhU;have zhUxhT:=zt;have zhTxhU:=VM zt;clear zt;have crB:=rB.lt;replace rB:=k.row rB (by first|exact YX ehUxB|exact YX (h0.low (by omega)))
     (try replace ehUxB:=Xw hp crB ehUxB)
     clear crB;clear hp;replace sM:=sM.trans (k.below zM.heap.size sM.size h0.base);clear h0;clear k;refine p_a (Za ?_);simp only[pv];iterate 2 go_step
     refine rp ?_;refine p_m ?_;refine p_m ?_;simp only[pv];refine Xg (by rfl) 62 3 1 _ rfl #[.int .i64 (wsH H k:Nat)] ie _ underlying62 hie hz hs1 hs2 [(0,.int .i64 (wsH H k:Nat))] rfl (hl1 _) ?_;intro gA z23002 n0 rA k;simp only[pv];have ehTxA:=hT.new n0;have ehUxA:=hU.new n0;have bA:=Nat.le_trans sM.size n0;clear n0;replace hT:=hT.on k (Xo _);replace hU:=hU.on k (Xo _);replace sM:=kk sM k;clear k;refine UD (by rfl) _ _ rfl (zM.heap.size) (_) (k) ((wsT H J c.T)) rfl hT gA _ rfl (by rw[hv];exact rA) ((by omega)) sM.size ?_;have h0:=hT;clear hT;intro v1 z23003 hT k hp;simp only[pv];have zt:=UE hU hp zhTxhU;replace hU:=hU.on k (Vt zhTxhU);clear zhTxhU zhUxhT;have zhTxhU:=zt;have zhUxhT:=VM zt;clear zt;have crA:=rA.lt;replace rA:=k.row rA (by first|exact YX ehTxA|exact YX (h0.low (by omega)))
     (try replace ehTxA:=Xw hp crA ehTxA)
     clear crA;clear hp;replace sM:=sM.trans (k.below zM.heap.size sM.size h0.base);clear h0;clear k;refine p_a (Za ?_);simp only[pv];iterate 2 go_step
     refine rp ?_;refine p_m ?_;simp only[pv];refine p_v _ (x_a k 1) ?_;refine p_a (Za ?_);simp only[pv];go_wp2
     go_roundg x
     case measure=>omega
     case rel=>exact⟨k+1,m+1,u2,by omega,rfl,by rw[CW hL],by rw[hN1],hT,hU,H5 hWU hL hN1 huj hum,zhUxhT,sM⟩
 ·kernel_rfl
set_option maxRecDepth 100000 in
theorem lifted (os:Os)(started:os.Started)(H:Type)(enc:TypeId×Value->H):
  ReturnsInHanded {} Tryz.checked os 4 .any (fun w args=>(Rows.writerSoundSpec.pre enc prog Tryz.f4 [] false w args/\laidMetH prog lk w)/\sizedMet enc prog Tryz.f4 (OpenSpec.ofChange Rows.writerSoundSpec) false w args)
   (Rows.writerSoundSpec.post enc prog Tryz.f4 false true false false):=by
 refine returnsInHanded_of_change_and (C:=Tryz.checked) (X:=fun w _=>laidMetH prog lk w) (fun _ _ _ hh h=>h.of_heap hh) own started (by kernel_rfl) func4
  (ChangeSpec.witness_shaped (enc:=enc) (C:=Tryz.checked) (os:=os) (X:=fun w _=>laidMetH prog lk w) false (World.laidAll prog os lk) #[.agg #[.int .i64 0,.int .i64 0,.int .i64 0,.string ⟨#[]⟩,.string ⟨#[]⟩,.bool false,.int .i64 0,.int .i64 0],.agg #[.int .i64 0,.int .i64 0,.int .i64 0,.int .i64 0,.int .i64 0,.int .i64 0,.int .i64 0,.int .i64 0,.int .i64 0,.int .i64 0,.int .i64 0,.int .i64 0,.int .i64 0,.int .i64 0],.agg #[.int .i64 0,.int .i64 0]] 8 (World.laidAll_os _ _ _) (RH os _) (by kernel_rfl) (by kernel_rfl) (by kernel_rfl) (H7 os _)) ?_
 intro W base args ds gs before hval0 hW _ _ hL _;have hval: ∀(j:Nat) t v,Tryz.f4.params[j]?=some t->args[j]?=some v->Value.okWide prog W .any base t v:=hval0
 have hW':=hW;obtain⟨p,q,hA0,hV,rfl,hfz,hnd⟩:=hW;have hA:DataW.TrodAll enc prog W 0 (fun _=>true) true Tryz.f4.params.toList args.toList ds p:=hA0;rw[Tryz.params4]at hA hval;obtain⟨v0,vs0,d0,ds0,p0,q0,hargs,rfl,rfl,h0,r0⟩:=trodAll_cons hA;obtain⟨v1,vs1,d1,ds1,p1,q1,rfl,rfl,rfl,h1,r1⟩:=trodAll_cons r0;obtain⟨v2,vs2,d2,ds2,p2,q2,rfl,rfl,rfl,h2,r2⟩:=trodAll_cons r1;obtain⟨rfl,rfl,rfl⟩:=trodAll_nil r2
 obtain rfl:args=#[v0,v1,v2]:=by cases args;simp_all
 obtain⟨rfl,rfl⟩:=trodVars_none hV;have k0:=h0;have lt0:=Wf h0;obtain⟨wh,cl,op,key,s,b,by',sd,rfl⟩:=Kz (hval 0 23 v0 rfl rfl) h0;have k1:=h1;have lt1:=Wf h1;obtain⟨L1,rfl⟩:=EH (hval 1 76 v1 rfl rfl) h1;have k2:=h2;have lt2:=Wf h2;obtain⟨x2,y2,rfl⟩:=EI (hval 2 77 v2 rfl rfl) h2;clear hA0 hval0;refine(walk wh cl op key s b by' sd L1 x2 y2 W).mono fun e W' ⟨he,bel⟩=>?_
 subst he;exact⟨_,rfl,_,_,_,[],_,[],hW',trodAll_mk1 (shut_bool underlying4 _),(trodAll_cons_mk (Below.trod UK (by kernel_rfl) (of_decide_eq_true (by kernel_rfl)) k0 bel lt0) (trodAll_cons_mk (Below.trod UK (by kernel_rfl) (of_decide_eq_true (by kernel_rfl)) k1 bel lt1) (trodAll_cons_mk (Below.trod UK (by kernel_rfl) (of_decide_eq_true (by kernel_rfl)) k2 bel lt2) trodAll_mk0))),rfl,bel.frame _,fun h=>by cases h⟩
theorem over:Rows.writerSoundRow.holds Tryz.pinned (OpenSpec.ofChange Rows.writerSoundSpec):=
 OpenClaim.holds_of_wide 4 Tryz.f4 rfl rfl rfl rfl rfl rfl rfl ⟨rfl,rfl,rfl,rfl,rfl⟩ rfl rfl rfl rfl rfl (by kernel_rfl) func4 (by kernel_rfl)
  (of_decide_eq_true (by kernel_rfl)) (by unfold Func.isWrapper;first|(rw[if_pos (by decide+kernel)];kernel_rfl)|(rw[if_neg (by decide+kernel)];exact⟨rfl,rfl⟩))
  (fun os started H enc _=>lifted os started H enc)
theorem card:Claim7.holds Tryz.pinned (.plain (OpenSpec.ofChange Rows.writerSoundSpec)) Rows.writerSoundCard:=
 Claim7.holds_tied_plain_at .later [] [.data,.pinned] true (true, "7deae6c92f829a365a522cb333c1dae4285caee74fd07f9b582df18d22e57e98") true
  over (fun _ h=>by cases h) (by kernel_rfl) (fun _ h=>by cases h) writerSound_row_tie rfl ⟨rfl,rfl⟩ (by kernel_rfl) rfl
  (fun f fn hf hfn=>by
   obtain rfl:f=4:=Option.some.inj ((show prog.funcNamed "sacristy/sacristylaw24.WriterSound" =some 4 by kernel_rfl).symm.trans hf) |>.symm;obtain rfl:fn=Tryz.f4:=(Option.some.inj (func4.symm.trans hfn)).symm
   exact⟨by kernel_rfl,fun j t ht=>by
    rw[Tryz.params4]at ht;have hm:t∈[23,76,77]:=by simpa using Array.mem_of_getElem? ht
    have hall:([23,76,77].all fun u=> !prog.wantsStandIn u)=true:=by kernel_rfl
    exact(show prog.wantsStandIn t=false by simpa using List.all_eq_true.1 hall t hm)⟩)
  (by kernel_rfl)
end writerSoundP
/-- for every Made, seven ints each that servers hold and that liars tell, and two ints: the writer's number is above what enough servers had reached and at most one above what one of them holds, and it is done only if more servers answered than may lie, twice over; no condition. -/
theorem writerSound_holds:Rows.WriterSoundCardSaid:=writerSoundP.card
end Go.Proofs.YtcdahmommonnfaaGreatDoor
