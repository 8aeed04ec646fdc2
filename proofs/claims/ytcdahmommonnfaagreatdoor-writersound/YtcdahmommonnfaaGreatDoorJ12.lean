import Derived.Test.YtcdahmommonnfaaGreatDoorWtCopy
set_option maxRecDepth 100000
set_option maxHeartbeats 8000000
namespace Go.Proofs.YtcdahmommonnfaaGreatDoor
set_option linter.all false
open Go.RowKit
open Go.Proofs.Tryz
theorem P1: ∀w,(sizeOf (prog.elem 48)).run prog w= .ok 9 w:=fun w=>by rw[show prog.elem 48=82 by kernel_rfl];exact sizeOf82 w
def cnF (B:Nat->Bool):Nat->Nat
 |0=>0
 |k+1=>if B k=true then cnF B k else cnF B k+1
theorem LU (B:Nat->Bool): ∀n,cnF B n<=n
 |0=>Nat.le_refl _
 |k+1=>by
  have:=LU B k;unfold cnF
  split<;>omega
theorem P3 {B:Nat->Bool}{n:Nat}(h: ∀k,k<n->B k=false):cnF B n=n:=by
 induction n with
 |zero=>rfl
 |succ k ih=>
  unfold cnF;rw[h k (by omega),ih fun j hj=>h j (by omega)];rfl
theorem IK {B:Nat->Bool}{k:Nat}(h:B k=true):cnF B (k+1)=cnF B k:=if_pos h
theorem Eb {B:Nat->Bool}{k:Nat}(h:B k=false):cnF B (k+1)=cnF B k+1:=if_neg (by rw[h];decide)
section
variable {P:Program}{ops:Array Oper}{Q:Exit->Act->World->Prop}{rest:List Oper}{o:Oper}{a:Act}{w:World}
theorem IL (hw:Region.wanted o (yielded ops a.tmps)=true)(t:TypeId)(x:Operand)(ho:o.op= .call {callee:=.builtin .clear,args:=#[x],argTypes:=#[t]})(e:TypeId)(z:Value)(ht:P.underlying t=some (.slice e))(hz: ∀w,(zeroValue e).run P w= .ok z w)
  (g off m c:Nat)(hx:a.eval x= .slice (some ⟨g,off,none⟩) m c)(hm:0<m){s:TypeId}{old:Array Value}(hg:Row w g old s)(hold:off+(Builtin.zeroCells z.cells m).size<=old.size)(h1:(Builtin.zeroCells z.cells m).all (·.oneCell')=true)
  (h: ∀w',Row w' g (Sn old off (Builtin.zeroCells z.cells m).toList) s->Kept [g] w w'->PW P ops Q rest (a.put o.dst (.tuple #[])) w'):PW P ops Q (o::rest) a w:=by
 refine Xt hw _ (w.setCells g off (Builtin.zeroCells z.cells m).toList) ?_ (h _ (Row.setCells _ _ hg) (XO (YZ _ _ _ _)));obtain⟨k,rfl⟩: ∃k,m=k+1:=⟨m-1,by omega⟩
 have hst:(storeCells ⟨g,off,none⟩ (Builtin.zeroCells z.cells (k+1)).toList).run P w= .ok () (w.setCells g off (Builtin.zeroCells z.cells (k+1)).toList):=by
  have ht:=Xs hg off _ hold
  exact run_storeCells_cells (P:=P) g off _ 0 w (fun j hj=>by rw[Nat.add_zero];exact(ht j (by simpa using hj)).1) (fun j hj=>by rw[Nat.add_zero];exact(ht j (by simpa using hj)).2) (fun v hv=>by
   have h2:=Array.all_eq_true_iff_forall_mem.1 h1 v (Array.mem_toList_iff.1 hv)
   exact h2)
 unfold execOp;simp only[ho,resolve,invoke,builtin,Sem.run_bind,Sem.run_pure,Result.andThen_ok,List.map_toArray,List.map_cons,List.map_nil,hx];simp[Builtin.clear_,run_underlying ht,hz,hst]
end
theorem BP (m:Nat):(Builtin.zeroCells (Value.agg ouz).cells m).all (·.oneCell')=true:=by
 rw[Array.all_eq_true];intro i hi;simp only[Builtin.zeroCells,Array.getElem_map,Array.getElem_range];have h9:i%9<9:=Nat.mod_lt _ (by decide);show((ouz:Array Value)[i%9]!).oneCell'=true
 match i%9,h9 with
 |0,_=>rfl
 |1,_=>rfl
 |2,_=>rfl
 |3,_=>rfl
 |4,_=>rfl
 |5,_=>rfl
 |6,_=>rfl
 |7,_=>rfl
 |8,_=>rfl
theorem Ec (m:Nat):(Builtin.zeroCells (Value.agg ouz).cells m).size=m*9:=by simp[Builtin.zeroCells];rfl
theorem Ed (g n:Nat)(E:Nat->Array Value)(f:FuncId)(caps:Array Value){fn:Func}(B:Nat->Bool)(w:World)(r1:Row w g (esC 9 n E) 82)(hE: ∀i,(E i).size=9)(hf:prog.funcs[f]?=some fn)(hfb:(fn.name== "runtime.NumGoroutine" ||fn.body.isNone)=false)(hn:n<=1000)
  (hc: ∀k w',k<n->Kept [g] w w'->Calls prog f (#[.agg (E k)]++caps) w' (Rt (.bool (B k)) w')):
  Calls prog 160 #[.slice (some ⟨g,0,none⟩) n n,.func (.func f) #[] caps] w fun e w'=> ∃z:Int,e= .returned (.int .i64 z)/\((z= -1/\ ∀k,k<n->B k=false)∨ ∃k:Nat,k<n/\z=k/\B k=true/\ ∀j,j<k->B j=false)/\Below w.heap.size w w':=by
 go_enter func160,ntmps160
 have sb:=Z9 w;iterate 2 go_step
 refine rp ?_;refine p_v (.int .i64 0) (fun _=>rfl) (Za ?_);simp only[pv];iterate 4 go_step
 refine rp ?_;refine p_m ?_;simp only[pv];refine p_v _ (n_l (some ⟨g,0,none⟩) n n Xk) ?_;refine p_v (.int .i64 0) (fun _=>rfl) (Za ?_);simp only[pv]
 go_wp2_with fail
 go_loopg [5,8] n (fun x s5 s8 wr=> ∃(k:Nat),k+x=n/\s8= .int .i64 k/\Row wr g (esC 9 n E) 82/\(∀j,j<k->B j=false)/\Below w.heap.size w wr)
 case atStart=>exact⟨0,by omega,rfl,r1,fun j hj=>absurd hj (Nat.not_lt_zero j),sb⟩
 case round=>
  clear sb r1;obtain⟨k,hk,rfl,r1,hB,sb⟩:=hrel
  cases gk with
  |zero=>
   obtain rfl:k=n:=by omega
   clear hk
   go_step
   refine rp ?_;refine p_v _ (Xy ((k:Nat)) ((k:Nat))) (Za ?_);simp only[pv];iterate 8 go_step
   refine rp ?_;refine YI (by rfl) (.inr rfl) rfl ?_;simp only[pv];refine Za ?_;go_wp2;go_ret;exact⟨_,rfl,.inl ⟨rfl,hB⟩,sb⟩
  |succ y=>
   have hlt:k<n:=by omega
   cases hBk:B k
   ·skip
    go_step
    refine rp ?_;refine p_v _ (XK ((k:Nat)) ((n:Nat))) (Za ?_);simp only[pv];iterate 10 go_step
    refine rp ?_;refine p_m ?_;refine p_a (Za ?_);simp only[pv];iterate 3 go_step
    refine rp ?_;refine p_m ?_;refine p_m ?_;refine p_m ?_;simp only[pv];refine p_x k hlt underlying48 sizeOf82 ?_;simp only[pv];refine Zf (by rfl) 82 _ rfl _ (0+k*9) rfl r1.r (E k) (V5 hE (k) hlt _ (by omega)) _ underlying82 rfl (by rw[hE k];exact XR) ?_;simp only[pv];refine WJ (by rfl) f _ _ _ rfl caps rfl hf hfb #[.agg (E k)] rfl (hBk▸hc k _ hlt ((Kept.ofBelow sb).more (by simp))) ?_;rintro _ z4005 ⟨rfl,hb⟩;refine⟨_,rfl,?_⟩;simp only[pv];replace r1:=r1.belowAll hb;replace sb:=sb.trans ((Kept.ofBelow hb).below w.heap.size sb.size (by simp));clear hb;refine Za ?_;iterate 6 go_step
    refine rp ?_;refine p_v _ (x_a k 1) ?_;refine p_m (Za ?_);simp only[pv];go_wp2
    go_roundg y
    case measure=>omega
    case rel=>exact⟨k+1,by omega,rfl,r1,fun j hj=>(Nat.lt_or_eq_of_le (Nat.le_of_lt_succ hj)).elim (hB j) (fun e=>e▸hBk),sb⟩
   ·skip
    go_step
    refine rp ?_;refine p_v _ (XK ((k:Nat)) ((n:Nat))) (Za ?_);simp only[pv];iterate 10 go_step
    refine rp ?_;refine p_m ?_;refine p_a (Za ?_);simp only[pv];iterate 3 go_step
    refine rp ?_;refine p_m ?_;refine p_m ?_;refine p_m ?_;simp only[pv];refine p_x k hlt underlying48 sizeOf82 ?_;simp only[pv];refine Zf (by rfl) 82 _ rfl _ (0+k*9) rfl r1.r (E k) (V5 hE (k) hlt _ (by omega)) _ underlying82 rfl (by rw[hE k];exact XR) ?_;simp only[pv];refine WJ (by rfl) f _ _ _ rfl caps rfl hf hfb #[.agg (E k)] rfl (hBk▸hc k _ hlt ((Kept.ofBelow sb).more (by simp))) ?_;rintro _ z4005 ⟨rfl,hb⟩;refine⟨_,rfl,?_⟩;simp only[pv];replace r1:=r1.belowAll hb;replace sb:=sb.trans ((Kept.ofBelow hb).below w.heap.size sb.size (by simp));clear hb;refine Za ?_;iterate 4 go_step
    refine rp ?_;refine p_m ?_;refine p_a (Za ?_);simp only[pv];go_wp2;go_ret;exact⟨_,rfl,.inr ⟨k,hlt,rfl,hBk,hB⟩,sb⟩
theorem Ee (g n:Nat)(E:Nat->Array Value)(f:FuncId)(caps:Array Value){fn:Func}(B:Nat->Bool)(w:World)(r1:Row w g (esC 9 n E) 82)(hE: ∀i,(E i).size=9)(hf:prog.funcs[f]?=some fn)(hfb:(fn.name== "runtime.NumGoroutine" ||fn.body.isNone)=false)(hn:n<=1000)
  (hc: ∀k w',k<n->Kept [g] w w'->Calls prog f (#[.agg (E k)]++caps) w' (Rt (.bool (B k)) w'))(h1: ∀k,k<n->(E k).all (·.oneCell')=true):
  Calls prog 108 #[.slice (some ⟨g,0,none⟩) n n,.func (.func f) #[] caps] w fun e w'=> ∃m:Nat,e= .returned (.slice (some ⟨g,0,none⟩) m n)/\m=cnF B n/\Kept [g] w w'/\((∀k,k<n->B k=false)->Row w' g (esC 9 n E) 82):=by
 have hix:=fun w' (q:Row w' g (esC 9 n E) 82) (k:Kept [g] w w')=>Ed g n E f caps B w' q hE hf hfb hn (fun i w2 hi k2=>hc i w2 hi (k.trans k2 (fun b hb=>.inl hb)))
 go_enter func108,ntmps108
 have sb:=Z9 w;iterate 2 go_step
 refine rp ?_;refine p_v (.slice none 0 0) (fun _=>rfl) (Za ?_);simp only[pv];iterate 3 go_step
 refine rp ?_;refine p_m ?_;refine p_m ?_;simp only[pv];refine p_f 160 func160 #[.slice (some ⟨g,0,none⟩) n n,.func (.func f) #[] caps] (hix _ r1 ((Kept.ofBelow sb).more (by simp))) ?_;rintro _ z1002 ⟨z,rfl,hz,hb⟩;refine⟨_,rfl,?_⟩;simp only[pv];replace r1:=r1.belowAll hb;replace sb:=sb.trans ((Kept.ofBelow hb).below w.heap.size sb.size (by simp));clear hb;refine p_a (Za ?_);simp only[pv];rcases hz with ⟨rfl,hB⟩|⟨i0,hi0,rfl,hBi,hB0⟩
 ·skip
  iterate 4 go_step
  refine rp ?_;refine p_m ?_;simp only[pv];refine p_v _ (Zq .i64 _ _ _ _ rfl (-1) (-1) rfl rfl true (decide_eq_true rfl)) (Za ?_);simp only[pv];iterate 4 go_step
  refine rp ?_;refine p_m ?_;refine p_a (Za ?_);simp only[pv];go_wp2;go_ret;exact⟨n,rfl,(P3 hB).symm,(Kept.ofBelow sb).more (by simp),fun _=>r1⟩
 iterate 4 go_step
 refine rp ?_;refine p_m ?_;simp only[pv];refine p_v _ (Zq .i64 _ _ _ _ rfl (i0:Nat) (-1) rfl rfl false (decide_eq_false (by omega))) (Za ?_);simp only[pv];iterate 8 go_step
 refine rp ?_;refine p_m ?_;simp only[pv];refine p_v _ (x_a i0 1) ?_;refine p_a (Za ?_);simp only[pv];have kq:Kept [g] w z1002:=(Kept.ofBelow sb).more (by simp)
 have hyes: ¬ ∀k,k<n->B k=false:=fun h=>by rw[h i0 hi0]at hBi;cases hBi
 clear hix
 go_wp2_with fail
 go_loopg [5,6,7] (n-(i0+1)) (fun x s5 s6 s7 wr=> ∃(j i:Nat) (E':Nat->Array Value),j+x=n/\s5= .int .i64 i/\s6= .int .i64 j/\i<j/\i=cnF B j/\(∀i,(E' i).size=9)/\(∀l,j<=l->E' l=E l)/\Row wr g (esC 9 n E') 82/\Kept [g] w wr)
 case atStart=>exact⟨i0+1,i0,E,by omega,rfl,rfl,by omega,by rw[IK hBi,P3 hB0],hE,fun _ _=>rfl,r1,kq⟩
 case round=>
  clear sb r1 kq;obtain⟨j,i,E',hj,rfl,rfl,hij,hi,hE',he,r1,kq⟩:=hrel;have sd:=Z9 wr
  cases gk with
  |zero=>
   obtain rfl:j=n:=by omega
   clear hj;iterate 2 go_step
   refine rp ?_;refine p_m ?_;refine p_m ?_;simp only[pv];refine p_v _ (n_l (some ⟨g,0,none⟩) j j Xk) ?_;simp only[pv];refine p_v _ (Xy ((j:Nat)) ((j:Nat))) (Za ?_);simp only[pv];have hzs:(Builtin.zeroCells (Value.agg ouz).cells (j-i)).size=(j-i)*9:=Ec _;have hoff:(if j=i then 0 else 0+i*9)=0+i*9:=if_neg (by omega);iterate 7 go_step
   refine rp ?_;refine p_m ?_;refine p_m ?_;simp only[pv];refine p_v (.slice (some ⟨g,0+i*9,none⟩) (j-i) (j-i)) ((by rw[<-hoff];exact FE 48 _ _ rfl Xk 9 P1 g 0 j j i rfl rfl (by omega) (Nat.le_refl _))) ?_;simp only[pv];refine IL (by rfl) 48 _ rfl 82 _ underlying48 QG g (0+i*9) (j-i) (j-i) rfl (by omega) r1 (by show _+(Builtin.zeroCells (Value.agg ouz).cells (j-i)).size<=_;rw[hzs,Y1,Nat.sub_mul];have:=Nat.mul_le_mul_right 9 (Nat.le_of_lt hij);omega) (BP _) ?_;intro z11003 r2 k3;simp only[Act.put];replace kq:=(kq.trans (Kept.ofBelow sd) (by simp)).trans k3 (fun b hb=>.inl hb);clear r1 k3;refine Za ?_;have se:=Z9 z11003;iterate 3 go_step
   refine rp ?_;refine p_m ?_;refine p_m ?_;simp only[pv];refine p_v _ (T2 48 _ _ rfl Xk 9 P1 _ j j i rfl rfl (by omega)) ?_;refine p_a (Za ?_);simp only[pv];go_wp2;go_ret;exact⟨i,rfl,hi,kq.trans (Kept.ofBelow se) (by simp),fun h=>absurd h hyes⟩
  |succ y=>
   have hlt:j<n:=by omega
   have h9: ∀(x:Nat),x<n->0+x*9+9<=n*9:=fun x hx=>by have:=Nat.mul_le_mul_right 9 hx;omega
   have hEj:=he j (Nat.le_refl _);have h7n:(E j).all (·.oneCell')=true:=h1 j hlt;cases hBk:B j
   ·skip
    iterate 2 go_step
    refine rp ?_;refine p_m ?_;refine p_m ?_;simp only[pv];refine p_v _ (n_l (some ⟨g,0,none⟩) n n Xk) ?_;simp only[pv];refine p_v _ (XK ((j:Nat)) ((n:Nat))) (Za ?_);simp only[pv];iterate 9 go_step
    refine rp ?_;refine p_m ?_;refine p_m ?_;simp only[pv];refine p_x j hlt underlying48 sizeOf82 ?_;simp only[pv];refine Zf (by rfl) 82 _ rfl _ (0+j*9) rfl r1.r (E j) (fun k v hv=>V5 hE' j hlt _ (by omega) k v (by rw[hEj];exact hv)) _ underlying82 rfl (by rw[hE];exact XR) ?_;simp only[pv];refine ZJ (by rfl) 82 rfl _ QG ?_;intro g7 z7004 n0 r7 k;simp only[pv];have d1x7:=l_l r1.lt n0;have b7:=Nat.le_trans sd.size n0;clear n0;replace r1:=k.ro r1;replace sd:=kk sd k;clear k;refine Z0 (by rfl) 82 _ _ rfl _ rfl r7 (E j) rfl (by rw[hE];exact XR) (by rw[hE];rfl) h7n ?_;clear r7;intro z7005 r7 k3;simp only[Act.put];replace r1:=k3.row r1 (by have:=r1.lt;have:=r7.lt;simp;omega);replace sd:=sd.trans (k3.below wr.heap.size sd.size (by simp;omega));clear k3;refine Za ?_;iterate 3 go_step
    refine rp ?_;refine p_m ?_;simp only[pv];refine Zf (by rfl) 82 _ rfl _ 0 rfl r7.r (E j) (Zu _) _ underlying82 rfl (by rw[hE];exact XR) ?_;simp only[pv];refine WJ (by rfl) f _ _ _ rfl caps rfl hf hfb #[.agg (E j)] rfl (hBk▸hc j _ hlt (kq.trans (Kept.ofBelow sd) (by simp))) ?_;rintro _ z8002 ⟨rfl,hb⟩;refine⟨_,rfl,?_⟩;simp only[pv];replace r1:=r1.belowAll hb;replace r7:=r7.belowAll hb;replace sd:=sd.trans ((Kept.ofBelow hb).below wr.heap.size sd.size (by simp));clear hb;refine p_v _ (Zp _ _ rfl false rfl) (Za ?_);simp only[pv];iterate 4 go_step
    refine rp ?_;refine p_m ?_;refine p_m ?_;simp only[pv];refine Zf (by rfl) 82 _ rfl _ 0 rfl r7.r (E j) (Zu _) _ underlying82 rfl (by rw[hE];exact XR) ?_;simp only[pv];refine p_x i ((Nat.lt_trans hij hlt)) underlying48 sizeOf82 ?_;simp only[pv];refine X2 (by rfl) 82 _ _ rfl _ (0+i*9) rfl r1 (E j) rfl (by rw[hE];exact XR) (by rw[hE,Y1];exact h9 i (by omega)) h7n (esC 9 n (upE E' i (E j))) (LP i hE' (hE j) (by omega)) ?_;clear r1;intro z9004 r1 k3;simp only[Act.put];replace kq:=(kq.trans (Kept.ofBelow sd) (by simp)).trans k3 (fun b hb=>.inl hb);replace r7:=k3.row r7 (by have:=r1.lt;simp;omega);refine Za ?_;clear sd;have sd:=Z9 z9004;iterate 2 go_step
    refine rp ?_;refine p_m ?_;simp only[pv];refine p_v _ (x_a i 1) ?_;refine p_a (Za ?_);simp only[pv];iterate 2 go_step
    refine rp ?_;refine p_m ?_;simp only[pv];refine p_v _ (x_a j 1) ?_;refine p_a (Za ?_);simp only[pv];go_wp2
    go_roundg y
    case measure=>omega
    case rel=>exact⟨j+1,i+1,_,by omega,rfl,rfl,by omega,by rw[Eb hBk,<-hi],Sc i hE' (hE j),fun l hl=>by rw[show upE E' i (E j) l=E' l from if_neg (by omega)];exact he l (by omega),r1,kq.trans (Kept.ofBelow sd) (by simp)⟩
   ·skip
    iterate 2 go_step
    refine rp ?_;refine p_m ?_;refine p_m ?_;simp only[pv];refine p_v _ (n_l (some ⟨g,0,none⟩) n n Xk) ?_;simp only[pv];refine p_v _ (XK ((j:Nat)) ((n:Nat))) (Za ?_);simp only[pv];iterate 9 go_step
    refine rp ?_;refine p_m ?_;refine p_m ?_;simp only[pv];refine p_x j hlt underlying48 sizeOf82 ?_;simp only[pv];refine Zf (by rfl) 82 _ rfl _ (0+j*9) rfl r1.r (E j) (fun k v hv=>V5 hE' j hlt _ (by omega) k v (by rw[hEj];exact hv)) _ underlying82 rfl (by rw[hE];exact XR) ?_;simp only[pv];refine ZJ (by rfl) 82 rfl _ QG ?_;intro g7 z7004 n0 r7 k;simp only[pv];have d1x7:=l_l r1.lt n0;have b7:=Nat.le_trans sd.size n0;clear n0;replace r1:=k.ro r1;replace sd:=kk sd k;clear k;refine Z0 (by rfl) 82 _ _ rfl _ rfl r7 (E j) rfl (by rw[hE];exact XR) (by rw[hE];rfl) h7n ?_;clear r7;intro z7005 r7 k3;simp only[Act.put];replace r1:=k3.row r1 (by have:=r1.lt;have:=r7.lt;simp;omega);replace sd:=sd.trans (k3.below wr.heap.size sd.size (by simp;omega));clear k3;refine Za ?_;iterate 3 go_step
    refine rp ?_;refine p_m ?_;simp only[pv];refine Zf (by rfl) 82 _ rfl _ 0 rfl r7.r (E j) (Zu _) _ underlying82 rfl (by rw[hE];exact XR) ?_;simp only[pv];refine WJ (by rfl) f _ _ _ rfl caps rfl hf hfb #[.agg (E j)] rfl (hBk▸hc j _ hlt (kq.trans (Kept.ofBelow sd) (by simp))) ?_;rintro _ z8002 ⟨rfl,hb⟩;refine⟨_,rfl,?_⟩;simp only[pv];replace r1:=r1.belowAll hb;replace r7:=r7.belowAll hb;replace sd:=sd.trans ((Kept.ofBelow hb).below wr.heap.size sd.size (by simp));clear hb;refine p_v _ (Zp _ _ rfl true rfl) (Za ?_);simp only[pv];iterate 6 go_step
    refine rp ?_;refine p_m ?_;simp only[pv];refine p_v _ (x_a j 1) ?_;refine p_a (Za ?_);simp only[pv];go_wp2
    go_roundg y
    case measure=>omega
    case rel=>exact⟨j+1,i,E',by omega,rfl,rfl,by omega,by rw[IK hBk,<-hi],hE',fun l hl=>he l (by omega),r1,kq.trans (Kept.ofBelow sd) (by simp)⟩
theorem Ef (p b k:Nat)(a:Int)(gp:Option Addr)(T:Nat)(cl op:Int)(key:List UInt8)(nm:Value)(tl:Nat->Int)(an:Nat->Bool)(sq sc:Int)(mx ps:Value)(kd op':Int)(key':List UInt8)(sq' sc':Int)(dg:List UInt8)(a1:Option Addr)(n1 c1:Nat)(a2:Option Addr)(n2 c2:Nat)(w:World)(r1:Row w p (wtC a (.pointer gp) (T:Nat) cl op key nm tl an sq sc mx ps) 99)(r2:Row w b #[.pointer (some ⟨p,0,none⟩)] 27)(hk:k<7):
  Calls prog 109 #[.agg (ouC ((k+1:Nat):Int) kd op' key' sq' sc' dg a1 n1 c1 a2 n2 c2),.pointer (some ⟨b,0,none⟩)] w fun e w'=>e= .returned (.bool (an k))/\Below w.heap.size w w':=by
 go_enter func109,ntmps109
 have sb:=Z9 w;iterate 2 go_step
 refine rp ?_;refine ZD (by rfl) 82 _ rfl (ouC ((k+1:Nat):Int) kd op' key' sq' sc' dg a1 n1 c1 a2 n2 c2) rfl ?_;intro g2 z0 n0 rb k0;simp only[pv];replace r1:=r1.belowAll (k0.nil);replace r2:=r2.belowAll (k0.nil);replace sb:=sb.trans (k0.below w.heap.size sb.size (by simp));refine p_v (.bool false) (fun _=>rfl) (Za ?_);simp only[pv];iterate 3 go_step
 refine ZF (by kernel_rfl) (by kernel_rfl) ?_;refine ZH (by rfl) 27 _ rfl _ (0) rfl r2 (.pointer (some ⟨p,0,none⟩)) rfl isAgg27 ?_;simp only[pv];refine q_v _ (Zb 82 _ 0 rfl g2 (0) rfl _ underlying82 _ rfl 0 sizeOf3) ?_;simp only[pv];refine ZH (by rfl) 3 _ rfl _ (0) rfl rb (.int .i64 (((k+1:Nat):Int))) rfl isAgg3 ?_;simp only[pv];refine q_v _ (WZ _ _ _ _ rfl ((k+1:Nat):Int) 1 (k:Nat) rfl rfl (by omega) (by omega) (by omega)) ?_;simp only[pv];refine q_v (.pointer (some ⟨p,0,none⟩)) (Zl _ rfl p (0) rfl) ?_;simp only[pv];refine q_v _ (Zb 99 _ 8 rfl p (0) rfl _ underlying99 _ rfl 6 sizeOf97) ?_;simp only[pv];refine q_v _ (ZE 97 _ _ rfl p 14 rfl k 7 rfl hk _ underlying97 1 sizeOf4) ?_;simp only[pv];refine ZH (by rfl) 4 _ rfl _ (14+k*1) rfl r1 (.bool (an k)) (Ca k hk) isAgg4 ?_;refine q_a ?_;simp only[pv];refine Z2 ?_;intro wz hqb;replace r1:=r1.belowAll hqb;replace sb:=b_o sb hqb;clear hqb;go_wp2;go_ret;exact⟨rfl,sb⟩
theorem LV (p:Nat)(a:Int)(gp:Option Addr)(T:Nat)(cl op:Int)(key:List UInt8)(nm:Value)(tl:Nat->Int)(an:Nat->Bool)(sq sc:Int)(gM gT n:Nat){base:Nat}{R Y:Nat->Nat}{M S:Nat->Nat->Nat}(w:World)(rP:Row w p (wtC a (.pointer gp) (T:Nat) cl op key nm tl an sq sc (.slice (some ⟨gM,0,none⟩) n n) (.slice (some ⟨gT,0,none⟩) (3*T+1) (3*T+1))) 99)(hG:GvX w base n T gM gT R Y M S)(hT:T<=2)(hn:n<=1000):
  Calls prog 62 #[.pointer (some ⟨p,0,none⟩)] w fun e w'=> ∃g m,e= .returned (.slice (some ⟨g,0,none⟩) m (3*T+1))/\m=cnF an (3*T+1)/\Below w.heap.size w w'/\((∀k,k<3*T+1->an k=false)->Vy w' w.heap.size (3*T+1) 4 op key g):=by
 go_enter func62,ntmps62
 have sb:=Z9 w;iterate 2 go_step
 refine rp ?_;refine Y4 (by rfl) 27 _ rfl (.pointer (some ⟨p,0,none⟩)) rfl rfl ?_;intro g1 z0 n0 r1 k;simp only[pv];have dwx1:=l_l rP.lt n0;have b1:=Nat.le_trans sb.size n0;clear n0;replace rP:=k.ro rP;replace hG:=hG.below k.nil;replace sb:=kk sb k;clear k;refine p_v (.slice none 0 0) (fun _=>rfl) (Za ?_);simp only[pv];iterate 3 go_step
 refine rp ?_;refine p_d 0 r1.r (.pointer (some ⟨p,0,none⟩)) rfl isAgg27 ?_;simp only[pv];refine p_v (.func (.func 105) #[] #[.pointer (some ⟨g1,0,none⟩)]) (YG _ _ rfl _ rfl) ?_;simp only[pv];refine p_f 91 func91 #[.pointer (some ⟨p,0,none⟩),.func (.func 105) #[] #[.pointer (some ⟨g1,0,none⟩)]] (LQ p a gp T cl op key nm tl an sq sc (.slice (some ⟨gM,0,none⟩) n n) (.slice (some ⟨gT,0,none⟩) (3*T+1) (3*T+1)) 105 #[.pointer (some ⟨g1,0,none⟩)] 4 _ rP hT func105 (by kernel_rfl) (fun k w' hk hb=>F9 p g1 k a gp T cl op key nm tl an sq sc gM gT n w' (rP.belowAll hb) (r1.belowAll hb) (hG.below hb) hT hn hk)) ?_;rintro _ z1002 ⟨g,rfl,hO,hb⟩;refine⟨_,rfl,?_⟩;simp only[pv];have hgs:=hO.1;have hlp:=rP.lt;have hlb:=r1.lt;replace hO:=hO.down sb.size;replace sb:=sb.trans ((Kept.ofBelow hb).below w.heap.size sb.size (by simp));replace rP:=rP.belowAll hb;replace r1:=r1.belowAll hb;clear hb;refine p_a (Za ?_);simp only[pv];obtain⟨hg0,E,hE,rO,hOO⟩:=hO;have hgp:p≠g:=by omega
 have hgb:g1≠g:=by omega
 iterate 3 go_step
 refine rp ?_;refine p_m ?_;simp only[pv];refine p_v (.func (.func 109) #[] #[.pointer (some ⟨g1,0,none⟩)]) (YG _ _ rfl _ rfl) ?_;simp only[pv];refine p_f 108 func108 #[.slice (some ⟨g,0,none⟩) (3*T+1) (3*T+1),.func (.func 109) #[] #[.pointer (some ⟨g1,0,none⟩)]] (Ee g (3*T+1) E 109 #[.pointer (some ⟨g1,0,none⟩)] an _ rO hE func109 (by kernel_rfl) (by omega) (fun k w' hk k2=>(by obtain⟨x1,x2,x3,x4,x5,x6,x7,x8,hx⟩:=hOO k hk;rw[hx];exact Ef p g1 k a gp T cl op key nm tl an sq sc _ _ 4 op key x1 x2 [] x3 x4 x5 x6 x7 x8 w' (k2.row rP (by simpa using hgp)) (k2.row r1 (by simpa using hgb)) (by omega))) (fun k hk=>(by obtain⟨x1,x2,x3,x4,x5,x6,x7,x8,hx⟩:=hOO k hk;rw[hx];exact Hy _ _ _ _ _ _ _ _ _ _ _ _ _))) ?_;rintro _ z2002 ⟨m,rfl,hm,k2,hO⟩;refine⟨_,rfl,?_⟩;simp only[pv];replace sb:=sb.trans (k2.below w.heap.size sb.size (by simp;omega));refine p_a (Za ?_);simp only[pv];go_wp2;go_ret;exact⟨_,m,rfl,hm,sb,fun h=>⟨hg0,E,hE,hO h,hOO⟩⟩
end Go.Proofs.YtcdahmommonnfaaGreatDoor
