import Derived.Test.YtcdahmommonnfaaGreatDoorWtStp
namespace Go.Proofs.YtcdahmommonnfaaGreatDoor
set_option linter.all false
open Go.RowKit
open Go.Proofs.Tryz
def an (x c:Int):Int:=bits .and .i64 x c
section
variable {P:Program}{o:Oper}{ρ:Operand->Value}
theorem Ni (t:TypeId)(x y:Operand)(u:TypeId)(ho:o.op= .binOp .and t x y u)(n m r:Int)(hx:ρ x= .int .i64 n)(hy:ρ y= .int .i64 m)(hr:an n m=r)(w:World):
  (execOp ρ o).run P w= .ok (.value (.int .i64 r)) w:=by
 subst hr;exact DZ t x y u ho n m hx hy w
end
theorem VS (t:Int)(k:Nat)(h:k<=30)(c:Int)(hc:(BitVec.ofInt 64 c).toNat=2^k-1): ∃b:Nat,b<2^k/\an t c=b:=by
 have hk:2^k<=2^30:=Nat.pow_le_pow_right (by decide) h;replace hk:2^k<=1073741824:=hk;have hp:0<2^k:=Nat.pow_pos (by decide)
 have h1:(BitVec.ofInt 64 t&&&BitVec.ofInt 64 c).toNat<2^k:=by
  rw[BitVec.toNat_and,hc,Nat.and_two_pow_sub_one_eq_mod];exact Nat.mod_lt _ hp
 refine⟨(BitVec.ofInt 64 t&&&BitVec.ofInt 64 c).toNat,h1,?_⟩;have h2:(BitVec.ofInt 64 t&&&BitVec.ofInt 64 c).toNat<1073741824:=Nat.lt_of_lt_of_le h1 hk;show IntKind.i64.wrap ((BitVec.ofInt 64 t&&&BitVec.ofInt 64 c).toNat:Int)=_
 exact T6 _ (by omega) (by omega)
section
variable {P:Program}{o:Oper}{ρ:Operand->Value}
theorem Et (t:TypeId)(x y:Operand)(u:TypeId)(ho:o.op= .binOp .shr t x y u)(n:Int)(s:Nat)(r:Int)(hx:ρ x= .int .i64 n)(hy:ρ y= .int .u64 (s:Nat))(hs:s<64)(hr:n/2^s=r)(w:World):
  (execOp ρ o).run P w= .ok (.value (.int .i64 r)) w:=by
 subst hr;unfold execOp;simp only[ho,hx,hy];simp[go_sem]
end
theorem Kb:(prog.info? 5).map (·.size)=some 1:=by kernel_rfl
def byX (sd:Int):Nat->Int
 |0=>sd
 |i+1=>an (an (byX sd i) 16777215*1103+12345) 16777215
def byV (sd:Int)(i:Nat):Nat:=(an (byX sd (i+1)/256) 127).toNat
def byL (n:Nat)(sd:Int):List UInt8:=(List.range n).map fun i=>UInt8.ofNat (byV sd i)
theorem QM (n:Nat)(sd:Int):(byL n sd).length=n:=by simp[byL]
theorem Cu {n:Nat}{sd:Int}{j:Nat}(h:j<n)(hb:byV sd j<256):bf (byL n sd) j=byV sd j:=by
 unfold bf byL;rw[List.getD_eq_getElem?_getD,List.getElem?_map,List.getElem?_range h];show(UInt8.ofNat (byV sd j)).toNat=_
 rw[UInt8.toNat_ofNat'];exact Nat.mod_eq_of_lt hb
theorem Cv {n k C:Nat}{sd:Int}(hC:byV sd k=C): ∀j,j<n->(if j<k+1 then byV sd j else 0)=if j=k then C else if j<k then byV sd j else 0:=fun j _=>by
 by_cases e:j=k
 ·rw[if_pos (by omega),if_pos e,e,hC]
 ·rw[if_neg e];by_cases h:j<k
  ·rw[if_pos (by omega),if_pos h]
  ·rw[if_neg (by omega),if_neg h]
set_option maxRecDepth 100000 in
set_option maxHeartbeats 8000000 in
theorem Ev (n:Nat)(sd:Int)(w:World)(hn:n<=1023):
  Calls prog 35 #[.int .i64 (n:Nat),.int .i64 sd] w fun e w'=>e= .returned (.string ⟨(byL n sd).toArray⟩)/\Below w.heap.size w w':=by
 obtain⟨i8,hi8,hz8,hs8,hb8⟩:=P5
 go_enter func35,ntmps35
 have sb:=Z9 w;iterate 2 go_step
 refine rp ?_;refine YI (by rfl) (.inr rfl) rfl ?_;simp only[pv];refine Za ?_;iterate 3 go_step
 refine rp ?_;refine p_m ?_;simp only[pv];refine Wn (by rfl) 122 5 _ _ rfl i8 _ underlying122 hi8 hz8 n rfl rfl (by rw[hs8];omega) (by rw[hb8];omega) (by omega) ?_;intro gB z1001 n0 rB k;simp only[pv];have bB:=Nat.le_trans sb.size n0;clear n0;replace sb:=kk sb k;clear k;refine p_a (Za ?_);simp only[pv];rw[hs8,L7]at rB;iterate 3 go_step
 refine rp ?_;refine p_m ?_;refine p_a (Za ?_);simp only[pv];iterate 4 go_step
 refine rp ?_;refine p_v (.int .i64 0) (fun _=>rfl) (Za ?_);simp only[pv]
 go_wp2_with fail
 have hgB:w.heap.size<=gB:=bB
 go_loopg [6,7] n (fun x s6 s7 wr=> ∃(k:Nat),k+x=n/\s7= .int .i64 k/\s6= .int .i64 (byX sd k)/\(∀j,j<k->byV sd j<128)/\Row wr gB (rC .u8 n (fun j=>if j<k then byV sd j else 0)) 5/\Below w.heap.size w wr)
 case atStart=>exact⟨0,by omega,rfl,rfl,fun j hj=>absurd hj (Nat.not_lt_zero j),by simpa using rB,sb⟩
 case round=>
  clear sb rB;obtain⟨k,hk,rfl,rfl,hV,rB,sb⟩:=hrel
  cases gk with
  |zero=>
   obtain rfl:k=n:=by omega
   clear hk
   have hcs: ∀j,j<(byL k sd).length->(rC .u8 k (fun j=>if j<k then byV sd j else 0))[0+j]?=some (.int .u8 (bf (byL k sd) j:Nat)):=fun j hj=>by
    rw[QM]at hj;rw[Nat.zero_add,UH _ _ _ _ hj,if_pos hj,Cu hj (by have:=hV j hj;omega)]
   iterate 2 go_step
   refine rp ?_;refine p_m ?_;refine p_m ?_;simp only[pv];refine p_v _ (Xy ((k:Nat)) ((k:Nat))) (Za ?_);simp only[pv];iterate 7 go_step
   refine rp ?_;refine p_m ?_;simp only[pv];refine Xt (by rfl) (.string ⟨(byL k sd).toArray⟩) _ (DK _ rfl gB 0 k k (byL k sd) rfl (QM k sd) _ rB.r hcs) ?_;refine p_a (Za ?_);simp only[pv];go_wp2;go_ret;exact⟨rfl,sb⟩
  |succ y=>
   have hlt:k<n:=by omega
   obtain⟨A,hA,eA⟩:=VS (byX sd k) 24 (by decide) 16777215 (by decide);obtain⟨B,hB,eB⟩:=VS ((A:Int)*1103+12345) 24 (by decide) 16777215 (by decide);obtain⟨C,hC,eC⟩:=VS ((B/256:Nat):Int) 7 (by decide) 127 (by decide);replace hA:A<16777216:=hA;replace hB:B<16777216:=hB;replace hC:C<128:=hC
   have hx1:byX sd (k+1)=B:=by
    show an (an (byX sd k) 16777215*1103+12345) 16777215=_
    rw[eA];exact eB
   have hC1:byV sd k=C:=by
    unfold byV;rw[hx1,show(B:Int)/256=((B/256:Nat):Int) by omega,eC];exact Int.toNat_natCast C
   iterate 2 go_step
   refine rp ?_;refine p_m ?_;refine p_m ?_;simp only[pv];refine p_v _ (XK ((k:Nat)) ((n:Nat))) (Za ?_);simp only[pv];iterate 9 go_step
   refine rp ?_;refine p_m ?_;simp only[pv];refine p_v _ (Ni _ _ _ _ rfl (byX sd k) 16777215 (A:Nat) rfl rfl eA) ?_;simp only[pv];refine p_v _ (VQ _ _ _ _ rfl (A:Nat) 1103 ((A:Int)*1103) rfl rfl (by omega) (by omega) (by omega)) ?_;simp only[pv];refine p_v _ (Xi _ _ _ _ rfl ((A:Int)*1103) 12345 ((A:Int)*1103+12345) rfl rfl (by omega) (by omega) (by omega)) ?_;simp only[pv];refine p_v _ (Ni _ _ _ _ rfl ((A:Int)*1103+12345) 16777215 (B:Nat) rfl rfl eB) ?_;refine p_a (Za ?_);simp only[pv];iterate 2 go_step
   refine rp ?_;refine p_m ?_;refine p_m ?_;refine p_m ?_;simp only[pv];refine p_v _ (Et _ _ _ _ rfl (B:Nat) 8 ((B/256:Nat):Int) rfl rfl (by decide) (by omega)) ?_;simp only[pv];refine p_v _ (Ni _ _ _ _ rfl ((B/256:Nat):Int) 127 (C:Nat) rfl rfl eC) ?_;simp only[pv];refine p_v (.int .u8 (C:Nat)) (DH _ _ _ rfl .i64 .u8 underlying3 underlying5 (C:Nat) _ rfl (by rw[IntKind.wrap_u8'];omega)) ?_;simp only[pv];refine p_x k hlt underlying122 sizeOf5 ?_;simp only[pv];refine Yj (by rfl) 5 _ _ rfl _ (0+k*1) rfl rB (.int .u8 (C:Nat)) rfl rfl rfl Kb (by rw[X6];omega) (rC .u8 n (fun j=>if j<k+1 then byV sd j else 0)) (by rw[show 0+k*1=k by omega];exact DG _ _ _ _ k C (Cv hC1)) ?_;clear rB;intro z7007 rB k3;simp only[Act.put];replace sb:=sb.trans (k3.below w.heap.size sb.size (by simp;omega));clear k3;refine Za ?_;iterate 2 go_step
   refine rp ?_;refine p_m ?_;simp only[pv];refine p_v _ (x_a k 1) ?_;refine p_a (Za ?_);simp only[pv];go_wp2
   go_roundg y
   case measure=>omega
   case rel=>exact⟨k+1,by omega,rfl,by rw[hx1],fun j hj=>(by
    by_cases e:j=k
    ·rw[e,hC1];exact hC
    ·exact hV j (by omega)),rB,sb⟩
section
variable {P:Program}{ops:Array Oper}{C:World->Prop}{Q:Act->World->Prop}{fn:Nat->Bool}{i:Nat}{L:List (Nat×Oper×Bool)}{a:Act}{w:World}{o:Oper}
theorem Ew (hw:Region.wanted o (yielded ops a.tmps)=true)(t:TypeId)(x:Operand)(ho:o.op= .box t x)(c:Array Value)(hx:a.eval x= .agg c)
  (h: ∀w2,Below w.heap.size w w2-> ∀g w3,w2.heap.size<=g->Row w3 g c t->Below w2.heap.size w2 w3->(fn i=false->C w3)/\EW P ops C Q fn L (a.put o.dst (.pointer (some ⟨g,0,none⟩))) w3):EW P ops C Q fn ((i,o,true)::L) a w:=by
 refine VK hw fun w2 hb=>?_
 have hr:(execOp a.eval o).run P w2= .ok (.value (.pointer (some ⟨w2.heap.size,0,none⟩))) (w2.alloc (.cells c t)):=by
  unfold execOp;simp only[ho,hx,Instr.box,Sem.run_bind,newVar,newRow];rfl
 rw[hr];exact h w2 hb w2.heap.size _ (Nat.le_refl _) (Row.new _ _ _) (Z5 _)
end
def rwC (P Q G:Int)(ab:Option Addr)(N:Nat)(T cl op:Int)(key s:List UInt8)(b:Bool)(tv av:Value):Array Value:=#[.int .i64 P,.int .i64 Q,.int .i64 G,.slice ab 3 3,.int .u64 (lm N 0),.int .u64 (lm N 1),.int .u64 (lm N 2),.int .u64 (lm N 3),.int .i64 T,.int .i64 cl,.int .i64 op,.string ⟨key.toArray⟩,.string ⟨s.toArray⟩,.bool b,.int .i64 0,tv,.int .i64 0,.int .i64 0,.slice none 0 0,.slice none 0 0,av]
theorem IV (P Q G:Int)(ab:Option Addr)(N:Nat)(T cl op:Int)(key s:List UInt8)(b:Bool):prog.built 66 [(0,.agg (smC P Q G)),(1,.agg (paC ab 3 3 N)),(2,.int .i64 T),(3,.int .i64 cl),(4,.int .i64 op),(5,.string ⟨key.toArray⟩),(6,.string ⟨s.toArray⟩),(7,.bool b)]=some (rwC P Q G ab N T cl op key s b (.slice none 0 0) (.slice none 0 0)):=by kernel_rfl
theorem Nf:(prog.info? 62).map (·.size)=some 1:=by kernel_rfl
theorem QN:(prog.info? 64).map (·.size)=some 1:=by kernel_rfl
theorem IW: ∃i,prog.info? 4=some i/\i.zero=some (Value.bool false)/\i.size=1/\i.bytes=1:=by
 have h:(prog.info? 4).map (fun i=>(i.zero,i.size,i.bytes))=some (some (.bool false),1,1):=by kernel_rfl
 cases e:prog.info? 4 with
 |none=>rw[e]at h;cases h
 |some i=>rw[e]at h;simp at h;exact⟨i,rfl,h.1,h.2.1,h.2.2⟩
theorem IX: ∃i,prog.info? 3=some i/\i.zero=some (Value.int .i64 0)/\i.size=1/\i.bytes=8:=by
 have h:(prog.info? 3).map (fun i=>(i.zero,i.size,i.bytes))=some (some (.int .i64 0),1,8):=by kernel_rfl
 cases e:prog.info? 3 with
 |none=>rw[e]at h;cases h
 |some i=>rw[e]at h;simp at h;exact⟨i,rfl,h.1,h.2.1,h.2.2⟩
theorem Cw (z:Int)(k:Nat)(hk:k=1):Instr.fill (fun i=>some (i*k,k)) ((Array.range (1*k)).map ((Value.int .i64 0).cells[· %(Value.int .i64 0).cells.size]!)) [(0,.int .i64 z)]=some #[.int .i64 z]:=by
 subst hk
 kernel_rfl
theorem Cx (z:Bool)(k:Nat)(hk:k=1):Instr.fill (fun i=>some (i*k,k)) ((Array.range (1*k)).map ((Value.bool false).cells[· %(Value.bool false).cells.size]!)) [(0,.bool z)]=some #[.bool z]:=by
 subst hk
 kernel_rfl
set_option maxRecDepth 100000 in
set_option maxHeartbeats 8000000 in
theorem Kc (x PP QQ GG T:Nat)(cl op:Int)(key s:List UInt8)(b:Bool)(w:World)(h2T:T<=2)
  (hof: ∀w',Below w.heap.size w w'->Calls prog 25 #[.agg (paC (some ⟨x,0,none⟩) 3 3 GG)] w' (Rt (.agg (smC (PP:Nat) (QQ:Nat) (GG:Nat))) w')):
  Calls prog 36 #[.agg (paC (some ⟨x,0,none⟩) 3 3 GG),.int .i64 (T:Nat),.int .i64 cl,.int .i64 op,.string ⟨key.toArray⟩,.string ⟨s.toArray⟩,.bool b] w fun e w'=> ∃rq tv av,e= .returned (.pointer (some ⟨rq,0,none⟩))/\w.heap.size<=rq/\Row w' rq (rwC (PP:Nat) (QQ:Nat) (GG:Nat) (some ⟨x,0,none⟩) GG (T:Nat) cl op key s b tv av) 66/\Below w.heap.size w w':=by
 obtain⟨ii,hii,hzi,hsi,hbi⟩:=IX;obtain⟨ib,hib,hzb,hsb,hbb⟩:=IW
 go_enter func36,ntmps36
 have sb:=Z9 w;iterate 2 go_step
 refine rp ?_;refine ZD (by rfl) 41 _ rfl (paC (some ⟨x,0,none⟩) 3 3 GG) rfl ?_;intro g7 z0 n0 r7 k;simp only[pv];have b7:=Nat.le_trans sb.size n0;clear n0;replace sb:=kk sb k;clear k;refine p_v (.pointer none) (fun _=>rfl) (Za ?_);simp only[pv];have cb:=Below.refl z0.heap.size z0;iterate 3 go_step
 refine Ys (by kernel_rfl) [] [(0,false),(1,false),(2,false),(3,false),(4,false),(5,false),(6,false),(7,false),(8,false),(9,false),(10,true),(11,false)] ?_ (by kernel_rfl);refine Wq (by rfl) 41 _ rfl _ (0) rfl (fun _ hb=>(r7.belowAll hb).r) (paC (some ⟨x,0,none⟩) 3 3 GG) ((Zu _)) _ underlying41 rfl Y3 ?_;simp only[pv];refine TV (by rfl) 25 _ _ rfl func25 (by kernel_rfl) #[.agg (paC (some ⟨x,0,none⟩) 3 3 GG)] rfl _ (fun w' hb=>hof w' (Zk sb (Nat.le_refl _) hb)) ?_;simp only[pv];refine Wq (by rfl) 41 _ rfl _ (0) rfl (fun _ hb=>(r7.belowAll hb).r) (paC (some ⟨x,0,none⟩) 3 3 GG) ((Zu _)) _ underlying41 rfl Y3 ?_;refine e_m ?_;refine e_m ?_;refine e_m ?_;refine e_m ?_;simp only[pv];refine e_m ?_;refine e_m ?_;simp only[pv];refine e_v (.agg (rwC (PP:Nat) (QQ:Nat) (GG:Nat) (some ⟨x,0,none⟩) GG (T:Nat) cl op key s b (.slice none 0 0) (.slice none 0 0))) (Zm _ [(0,_),(1,_),(2,_),(3,_),(4,_),(5,_),(6,_),(7,_)] rfl [(0,.agg (smC (PP:Nat) (QQ:Nat) (GG:Nat))),(1,.agg (paC (some ⟨x,0,none⟩) 3 3 GG)),(2,.int .i64 (T:Nat)),(3,.int .i64 cl),(4,.int .i64 op),(5,.string ⟨key.toArray⟩),(6,.string ⟨s.toArray⟩),(7,.bool b)] rfl _ (IV _ _ _ _ _ _ _ _ _ _ _)) ?_;simp only[pv];refine Ew (by rfl) 66 _ rfl (rwC (PP:Nat) (QQ:Nat) (GG:Nat) (some ⟨x,0,none⟩) GG (T:Nat) cl op key s b (.slice none 0 0) (.slice none 0 0)) rfl ?_;intro w2 hq2 rq w3 hrp rR hb3;refine⟨fun _=>Zk hq2 (Nat.le_refl _) hb3,?_⟩;simp only[pv];refine UX (by rfl) rfl rfl ?_;simp only[pv];refine XY ?_;intro wz hqz;have hb5:=Zk (Zk hq2 (Nat.le_refl _) hb3) (Nat.le_refl _) hqz;have hrw:w.heap.size<=rq:=Nat.le_trans sb.size (Nat.le_trans hq2.size hrp);replace sb:=sb.trans ((Kept.ofBelow hb5).below w.heap.size sb.size (by simp));have rz:=rR.belowAll hqz;have hrz:=rz.lt;obtain⟨bs,hbs⟩: ∃n,wz.heap.size=n:=⟨_,rfl⟩
 rw[hbs]at hrz;have hwb:w.heap.size<=bs:=by omega
 have hbz:bs<=wz.heap.size:=by omega
 clear hbs rR hqz hb5 hrp hq2 hb3;iterate 4 go_step
 refine rp ?_;refine p_v (.int .i64 0) (fun _=>rfl) (Za ?_);simp only[pv]
 go_wp2_with fail
 have hO:=PG 3 wz bs (k:=1) (fun _=>#[Value.int .i64 (-1)]);have hA:=PG 4 wz bs (k:=1) (fun _=>#[Value.bool false])
 go_loopg [16] (3*T+1) (fun x' s16 wr=> ∃(k:Nat) (tv av:Value),k+x'=3*T+1/\s16= .int .i64 k/\Qr 1 3 wr bs tv k (fun _=>#[.int .i64 (-1)])/\Qr 1 4 wr bs av k (fun _=>#[.bool false])/\(∀c,tv.ownBlock=some c->av.ownBlock≠some c)/\Row wr rq (rwC (PP:Nat) (QQ:Nat) (GG:Nat) (some ⟨x,0,none⟩) GG (T:Nat) cl op key s b tv av) 66/\bs<=wr.heap.size/\Below w.heap.size w wr)
 case atStart=>exact⟨0,_,_,by omega,rfl,hO,hA,(fun c h=>by cases h),rz,hbz,sb⟩
 case round=>
  clear sb rz hO hA hbz;obtain⟨k,tv,av,hk,rfl,hO,hA,hz,rz,hbz,sb⟩:=hrel;obtain⟨at',ct',rfl⟩:=YW hO;obtain⟨aa',ca',rfl⟩:=YW hA
  cases gk with
  |zero=>
   obtain rfl:k=3*T+1:=by omega
   clear hk;iterate 2 go_step
   refine rp ?_;refine p_m ?_;refine p_m ?_;simp only[pv];refine p_v _ (Z6 _ _ _ _ rfl 3 T (3*T) rfl rfl rfl (by omega)) ?_;simp only[pv];refine p_v _ (x_a (3*T) 1) ?_;simp only[pv];refine p_v _ (Xy (((3*T+1:Nat):Int)) (((3*T+1:Nat):Int))) (Za ?_);simp only[pv];iterate 7 go_step
   refine rp ?_;refine p_m ?_;refine p_a (Za ?_);simp only[pv];go_wp2;go_ret;exact⟨_,_,_,rfl,hrw,rz,sb⟩
  |succ y=>
   have hlt:k<3*T+1:=by omega
   iterate 2 go_step
   refine rp ?_;refine p_m ?_;refine p_m ?_;simp only[pv];refine p_v _ (Z6 _ _ _ _ rfl 3 T (3*T) rfl rfl rfl (by omega)) ?_;simp only[pv];refine p_v _ (x_a (3*T) 1) ?_;simp only[pv];refine p_v _ (XK ((k:Nat)) (((3*T+1:Nat):Int))) (Za ?_);simp only[pv];iterate 9 go_step
   refine rp ?_;refine p_m ?_;refine p_m ?_;simp only[pv];refine p_v (.pointer (some ⟨rq,0,none⟩)) (Zl _ rfl rq (0) rfl) ?_;simp only[pv];refine p_v _ (Zb 66 _ 9 rfl rq (0) rfl _ underlying66 _ rfl 0 sizeOf62) ?_;simp only[pv];refine p_d 15 rz.r (.slice at' k ct') rfl isAgg62 ?_;simp only[pv];refine Xg (by rfl) 62 3 1 _ rfl #[.int .i64 (-1)] ii _ underlying62 hii hzi (by rw[hsi];decide) (by rw[hsi];decide) [(0,.int .i64 (-1))] rfl (by rw[hsi];exact Cw _ 1 rfl) ?_;intro gL z5005 nL rL k3;simp only[pv];replace rz:=k3.row rz (by simp);replace sb:=sb.trans (k3.below w.heap.size sb.size (by simp));replace hbz:=Nat.le_trans hbz k3.size;replace hO:=hO.on k3 (by simp);replace hA:=hA.on k3 (by simp);have hLA: ∀c,(Value.slice aa' k ca').ownBlock=some c->c<z5005.heap.size:=fun c hc=>(World.ownsRow.lt hA c hc).2
   clear k3 nL;refine M1 (by rfl) _ _ 62 rfl bs 3 ii _ 1 8 underlying62 hii hzi hsi hbi rfl (by decide) (by decide) (.slice at' k ct') k _ (fun _=>rfl) rfl hO gL 1 rfl rL (by simp[Value.oneCell']) (by omega) hbz ?_;intro v1 zA5 hN5 kp hp;simp only[pv]
   have nr:rq∉(Value.slice at' k ct').ownBlock.toList:=fun hm=>by have:=hO.base rq hm;omega
   replace hA:=hA.on kp (fun c hc hm=>hz c (Option.mem_toList.1 hm) hc);have hz2: ∀c,v1.ownBlock=some c->(Value.slice aa' k ca').ownBlock≠some c:=fun c hc he=>(by have hlt2:=hLA c he;rcases hp with hp|hp;exact hz c (hp▸hc) he;rw[hp]at hc;cases hc;omega)
   replace rz:=kp.row rz nr;replace sb:=sb.trans (kp.below w.heap.size sb.size (fun g hg=>Nat.le_trans hwb (hO.base g hg)));replace hbz:=Nat.le_trans hbz kp.size;clear kp hp nr hO rL;refine p_v (.pointer (some ⟨rq,0,none⟩)) (Zl _ rfl rq (0) rfl) ?_;simp only[pv];refine p_v _ (Zb 66 _ 9 rfl rq (0) rfl _ underlying66 _ rfl 0 sizeOf62) ?_;simp only[pv];refine Yj (by rfl) 62 _ _ rfl _ 15 rfl rz v1 rfl (by obtain⟨_,_,e⟩:=YW hN5;rw[e];rfl) (by obtain⟨_,_,e⟩:=YW hN5;rw[e];rfl) Nf (by exact(by decide:15<21)) (rwC (PP:Nat) (QQ:Nat) (GG:Nat) (some ⟨x,0,none⟩) GG (T:Nat) cl op key s b v1 (.slice aa' k ca')) rfl ?_;clear rz;intro z5009 rz k3;simp only[Act.put];replace sb:=sb.trans (k3.below w.heap.size sb.size (by simp;omega));replace hbz:=Nat.le_trans hbz k3.size;replace hN5:=hN5.on k3 (fun c hc hm=>by have:=hN5.base c (Option.mem_toList.2 hc);simp at hm;omega);replace hA:=hA.on k3 (fun c hc hm=>by have:=hA.base c (Option.mem_toList.2 hc);simp at hm;omega);clear k3;refine Za ?_;iterate 2 go_step
   refine rp ?_;refine p_m ?_;refine p_m ?_;simp only[pv];refine p_v (.pointer (some ⟨rq,0,none⟩)) (Zl _ rfl rq (0) rfl) ?_;simp only[pv];refine p_v _ (Zb 66 _ 13 rfl rq (0) rfl _ underlying66 _ rfl 0 sizeOf64) ?_;simp only[pv];refine p_d 20 rz.r (.slice aa' k ca') rfl isAgg64 ?_;simp only[pv];refine Xg (by rfl) 64 4 1 _ rfl #[.bool false] ib _ underlying64 hib hzb (by rw[hsb];decide) (by rw[hsb];decide) [(0,.bool false)] rfl (by rw[hsb];exact Cx _ 1 rfl) ?_;intro gL z6005 nL rL k3;simp only[pv];replace rz:=k3.row rz (by simp);replace sb:=sb.trans (k3.below w.heap.size sb.size (by simp));replace hbz:=Nat.le_trans hbz k3.size;replace hN5:=hN5.on k3 (by simp);replace hA:=hA.on k3 (by simp);have hLT: ∀c,v1.ownBlock=some c->c<z6005.heap.size:=fun c hc=>(World.ownsRow.lt hN5 c hc).2
   clear k3 nL;refine M1 (by rfl) _ _ 64 rfl bs 4 ib _ 1 1 underlying64 hib hzb hsb hbb rfl (by decide) (by decide) (.slice aa' k ca') k _ (fun _=>rfl) rfl hA gL 1 rfl rL (by simp[Value.oneCell']) (by omega) hbz ?_;intro v2 zA6 hN6 kp hp;simp only[pv]
   have nr:rq∉(Value.slice aa' k ca').ownBlock.toList:=fun hm=>by have:=hA.base rq hm;omega
   replace hN5:=hN5.on kp (fun c hc hm=>hz2 c hc (Option.mem_toList.1 hm));have hz3: ∀c,v1.ownBlock=some c->v2.ownBlock≠some c:=fun c hc he=>(by have hlt2:=hLT c hc;rcases hp with hp|hp;exact hz2 c hc (hp▸he);rw[hp]at he;cases he;omega)
   replace rz:=kp.row rz nr;replace sb:=sb.trans (kp.below w.heap.size sb.size (fun g hg=>Nat.le_trans hwb (hA.base g hg)));replace hbz:=Nat.le_trans hbz kp.size;clear kp hp nr hA rL;refine p_v (.pointer (some ⟨rq,0,none⟩)) (Zl _ rfl rq (0) rfl) ?_;simp only[pv];refine p_v _ (Zb 66 _ 13 rfl rq (0) rfl _ underlying66 _ rfl 0 sizeOf64) ?_;simp only[pv];refine Yj (by rfl) 64 _ _ rfl _ 20 rfl rz v2 rfl (by obtain⟨_,_,e⟩:=YW hN6;rw[e];rfl) (by obtain⟨_,_,e⟩:=YW hN6;rw[e];rfl) QN (by exact(by decide:20<21)) (rwC (PP:Nat) (QQ:Nat) (GG:Nat) (some ⟨x,0,none⟩) GG (T:Nat) cl op key s b v1 v2) rfl ?_;clear rz;intro z6009 rz k3;simp only[Act.put];replace sb:=sb.trans (k3.below w.heap.size sb.size (by simp;omega));replace hbz:=Nat.le_trans hbz k3.size;replace hN6:=hN6.on k3 (fun c hc hm=>by have:=hN6.base c (Option.mem_toList.2 hc);simp at hm;omega);replace hN5:=hN5.on k3 (fun c hc hm=>by have:=hN5.base c (Option.mem_toList.2 hc);simp at hm;omega);clear k3;refine Za ?_;iterate 2 go_step
   refine rp ?_;refine p_m ?_;simp only[pv];refine p_v _ (x_a k 1) ?_;refine p_a (Za ?_);simp only[pv];go_wp2
   go_roundg y
   case measure=>omega
   case rel=>exact⟨k+1,_,_,by omega,rfl,hN5,hN6,hz3,rz,hbz,sb⟩
end Go.Proofs.YtcdahmommonnfaaGreatDoor
