import Derived.Test.YtcdahmommonnfaaGreatDoorWRA
set_option maxRecDepth 100000
set_option maxHeartbeats 8000000
namespace Go.Proofs.YtcdahmommonnfaaGreatDoor
set_option linter.all false
open Go.RowKit
open Go.Proofs.Tryz
def cpz (x y:Int):Int:=if x<y then-1 else if x>y then 1 else 0
section
variable {P:Program}{o:Oper}{ρ:Operand->Value}
theorem DZ (t:TypeId)(x y:Operand)(u:TypeId)(ho:o.op= .binOp .and t x y u)(n m:Int)(hx:ρ x= .int .i64 n)(hy:ρ y= .int .i64 m)(w:World):
  (execOp ρ o).run P w= .ok (.value (.int .i64 (bits .and .i64 n m))) w:=by
 unfold execOp;simp only[ho,hx,hy];simp[go_sem]
theorem Rv (t u:TypeId)(x y:Operand)(ho:o.op= .call {callee:=.builtin .max,args:=#[x,y],argTypes:=#[t,u]})(n m:Int)(hx:ρ x= .int .i64 n)(hy:ρ y= .int .i64 m)(w:World):
  (execOp ρ o).run P w= .ok (.value (.int .i64 (max n m))) w:=by
 unfold execOp;simp only[ho];simp only[resolve,invoke,Sem.run_bind,Sem.run_pure,Result.andThen_ok,List.map_toArray,List.map_cons,List.map_nil,hx,hy];simp[builtin,run_max_int2]
 split<;>omega
end
theorem PQ (x y:Int):prog.built 51 [(0,.int .i64 x),(1,.int .i64 y)]=some (tsC x y):=by unfold tsC;kernel_rfl
section
variable {P:Program}{ops:Array Oper}{Q:Exit->Act->World->Prop}{rest:List Oper}{o:Oper}{a:Act}{w:World}
end
def zC (n:Nat)(Z:Nat->Int):Array Value:=vsC n (fun i=>.int .i64 (Z i))
def z4 (a b c d:Int)(i:Nat):Int:=if i=0 then a else if i=1 then b else if i=2 then c else d
def ct (p:Int->Bool)(Z:Nat->Int):Nat->Nat
 |0=>0
 |k+1=>if(decide (0<=Z k)&&p (Z k))=true then ct p Z k+1 else ct p Z k
theorem D0 {p:Int->Bool}{Z:Nat->Int}{k:Nat}(h:0<=Z k)(hp:p (Z k)=true):ct p Z (k+1)=ct p Z k+1:=by
 show(if(decide (0<=Z k)&&p (Z k))=true then _ else _)=_
 rw[decide_eq_true h,hp];rfl
theorem D1 {p:Int->Bool}{Z:Nat->Int}{k:Nat}(hp:p (Z k)=false):ct p Z (k+1)=ct p Z k:=by
 show(if(decide (0<=Z k)&&p (Z k))=true then _ else _)=_
 rw[hp,Bool.and_false];rfl
theorem Hs {p:Int->Bool}{Z:Nat->Int}{k:Nat}(h: ¬0<=Z k):ct p Z (k+1)=ct p Z k:=by
 show(if(decide (0<=Z k)&&p (Z k))=true then _ else _)=_
 rw[decide_eq_false h];rfl
theorem It (p:Int->Bool)(Z:Nat->Int): ∀n,ct p Z n<=n
 |0=>Nat.le_refl _
 |n+1=>by
  have:=It p Z n;unfold ct
  split<;>omega
def Nh (v:Int)(z:Int):Bool:=decide (v<=z)
def dnZ (v:Int)(z:Int):Bool:=decide (z<=v)
def gre (Z:Nat->Int)(n:Nat)(t:Int):Nat->Int
 |0=> -1
 |k+1=>if gre Z n t k<Z k/\t+1<=(ct (Nh (Z k)) Z n:Nat)then Z k else gre Z n t k
theorem Ht (Z:Nat->Int)(n:Nat)(t:Int): ∀k,-1<=gre Z n t k
 |0=>Int.le_refl _
 |k+1=>by
  have:=Ht Z n t k;unfold gre
  split<;>omega
theorem Hu (Z:Nat->Int)(n:Nat)(t:Int): ∀k,gre Z n t k= -1∨ ∃j,j<k/\gre Z n t k=Z j/\t+1<=(ct (Nh (Z j)) Z n:Nat)
 |0=>.inl rfl
 |k+1=>by
  by_cases h:gre Z n t k<Z k/\t+1<=(ct (Nh (Z k)) Z n:Nat)
  ·rw[show gre Z n t (k+1)=Z k from if_pos h];exact .inr ⟨k,Nat.lt_succ_self k,rfl,h.2⟩
  ·rw[show gre Z n t (k+1)=gre Z n t k from if_neg h];exact(Hu Z n t k).imp id fun⟨j,h1,h2,h3⟩=>⟨j,by omega,h2,h3⟩
def EN (t:Int)(n:Nat):Bool:=decide (1<=t/\t<=2/\(n:Int)=3*t+1)
def voB (t:Int)(n:Nat)(Z:Nat->Int):Bool:=EN t n&&decide (2*t+1<=(ct (dnZ (gre Z n t n)) Z n:Nat))
def voV (t:Int)(n:Nat)(Z:Nat->Int):Int:=if voB t n Z=true then gre Z n t n else 0
theorem PR (Z:Nat->Int): ∀n,ct (dnZ (-1)) Z n=0
 |0=>rfl
 |n+1=>by
  by_cases h:0<=Z n
  ·rw[D1 (decide_eq_false (by omega))];exact PR Z n
  ·rw[Hs h];exact PR Z n
theorem D2 {t:Int}{n:Nat}{Z:Nat->Int}(h:voB t n Z=true):1<=t/\t<=2/\(n:Int)=3*t+1/\2*t+1<=(ct (dnZ (gre Z n t n)) Z n:Nat)/\0<=gre Z n t n/\ ∃j,j<n/\gre Z n t n=Z j/\t+1<=(ct (Nh (Z j)) Z n:Nat):=by
 unfold voB EN at h;rw[Bool.and_eq_true,decide_eq_true_iff,decide_eq_true_iff]at h;obtain⟨⟨h1,h2,h3⟩,h4⟩:=h;refine⟨h1,h2,h3,h4,?_⟩;have hg:=Ht Z n t n;rcases Hu Z n t n with h5|h5
 ·rw[h5,PR]at h4;omega
 ·obtain⟨j,h6,h7,h8⟩:=h5;refine⟨?_,j,h6,h7,h8⟩;by_cases h9:gre Z n t n= -1
  ·rw[h9,PR]at h4;omega
  ·omega
def orF (Z:Nat->Int):Nat->Nat->Int
 |_,0=>0
 |i,m+1=>if Z i=0 then orF Z (i+1) m else Z i
def z2 (a b:Int)(i:Nat):Int:=if i=0 then a else b
def orI (x y:Int):Int:=if x=0 then y else x
def cpS (a b c d:Int):Int:=orI (cpz a c) (cpz b d)
def clB (c:Int):Bool:=decide (1<=c/\c<=4)
def nxE (n c:Int):Int:=if n<0∨clB c=false then 1 else if 1099511627776<=n then 2 else 0
def nxS (n c:Int):Int:=if nxE n c=0 then n+1 else 0
def nxC (n c:Int):Int:=if nxE n c=0 then c else 0
theorem PS (n:Int)(w:World):
  Calls prog 104 #[.int .i64 n] w fun e w'=>e= .returned (.bool (clB n))/\Below w.heap.size w w':=by
 by_cases h1:1<=n
 rotate_left
 ·rw[show clB n=false from decide_eq_false (by omega)]
  go_enter func104,ntmps104
  have sb:=Z9 w;iterate 2 go_step
  refine rp ?_;refine p_v (.bool false) (fun _=>rfl) (Za ?_);simp only[pv];iterate 3 go_step
  refine rp ?_;refine p_m ?_;simp only[pv];refine p_v _ (ZG _ _ _ _ rfl (n) (1) rfl rfl false (decide_eq_false (by omega))) ?_;refine p_m ?_;refine p_s ?_;refine p_s ?_;refine p_k false (.bool false) ?_;simp only[pv];refine p_a (Za ?_);simp only[pv];go_wp2;go_ret;exact⟨rfl,sb⟩
 by_cases h2:n<=4
 ·rw[show clB n=true from decide_eq_true ⟨h1,h2⟩]
  go_enter func104,ntmps104
  have sb:=Z9 w;iterate 2 go_step
  refine rp ?_;refine p_v (.bool false) (fun _=>rfl) (Za ?_);simp only[pv];iterate 3 go_step
  refine rp ?_;refine p_m ?_;simp only[pv];refine p_v _ (ZG _ _ _ _ rfl (n) (1) rfl rfl true (decide_eq_true (by omega))) ?_;refine p_m ?_;refine p_m ?_;simp only[pv];refine p_v _ (Yb _ _ _ _ rfl (n) (4) rfl rfl true (decide_eq_true (by omega))) ?_;refine p_k true (.bool true) ?_;refine p_a (Za ?_);simp only[pv];go_wp2;go_ret;exact⟨rfl,sb⟩
 ·rw[show clB n=false from decide_eq_false (by omega)]
  go_enter func104,ntmps104
  have sb:=Z9 w;iterate 2 go_step
  refine rp ?_;refine p_v (.bool false) (fun _=>rfl) (Za ?_);simp only[pv];iterate 3 go_step
  refine rp ?_;refine p_m ?_;simp only[pv];refine p_v _ (ZG _ _ _ _ rfl (n) (1) rfl rfl true (decide_eq_true (by omega))) ?_;refine p_m ?_;refine p_m ?_;simp only[pv];refine p_v _ (Yb _ _ _ _ rfl (n) (4) rfl rfl false (decide_eq_false (by omega))) ?_;refine p_k true (.bool false) ?_;refine p_a (Za ?_);simp only[pv];go_wp2;go_ret;exact⟨rfl,sb⟩
theorem Iu (sq cl:Int)(w:World):
  Calls prog 60 #[.agg (tsC sq cl)] w fun e w'=>e= .returned (.bool (stB sq cl))/\Below w.heap.size w w':=by
 have hC:=fun w'=>PS cl w'
 by_cases h1:1<=sq
 rotate_left
 ·rw[show stB sq cl=false from decide_eq_false (by omega)]
  go_enter func60,ntmps60
  have sb:=Z9 w;iterate 2 go_step
  refine rp ?_;refine ZD (by rfl) 51 _ rfl (tsC sq cl) rfl ?_;intro g1 z0 n0 r1 k;simp only[pv];have b1:=Nat.le_trans sb.size n0;clear n0;replace sb:=kk sb k;clear k;refine p_v (.bool false) (fun _=>rfl) (Za ?_);simp only[pv];iterate 3 go_step
  refine rp ?_;refine p_v _ (Zb 51 _ 0 rfl g1 0 rfl _ underlying51 _ rfl 0 sizeOf3) ?_;simp only[pv];refine p_d 0 r1.r (.int .i64 sq) rfl isAgg3 ?_;simp only[pv];refine p_v _ (ZG _ _ _ _ rfl (sq) (1) rfl rfl false (decide_eq_false (by omega))) ?_;refine p_m ?_;refine p_s ?_;refine p_s ?_;refine p_s ?_;simp only[pv];refine p_k false (.bool false) ?_;refine p_m ?_;refine p_s ?_;refine p_s ?_;refine p_s ?_;simp only[pv];refine p_k false (.bool false) ?_;refine p_a (Za ?_);simp only[pv];go_wp2;go_ret;exact⟨rfl,sb⟩
 by_cases h2:sq<=1099511627776
 ·rw[show stB sq cl=clB cl from decide_eq_decide.2 (by omega)]
  go_enter func60,ntmps60
  have sb:=Z9 w;iterate 2 go_step
  refine rp ?_;refine ZD (by rfl) 51 _ rfl (tsC sq cl) rfl ?_;intro g1 z0 n0 r1 k;simp only[pv];have b1:=Nat.le_trans sb.size n0;clear n0;replace sb:=kk sb k;clear k;refine p_v (.bool false) (fun _=>rfl) (Za ?_);simp only[pv];iterate 3 go_step
  refine rp ?_;refine p_v _ (Zb 51 _ 0 rfl g1 0 rfl _ underlying51 _ rfl 0 sizeOf3) ?_;simp only[pv];refine p_d 0 r1.r (.int .i64 sq) rfl isAgg3 ?_;simp only[pv];refine p_v _ (ZG _ _ _ _ rfl (sq) (1) rfl rfl true (decide_eq_true (by omega))) ?_;refine p_m ?_;simp only[pv];refine p_v _ (Zb 51 _ 0 rfl g1 0 rfl _ underlying51 _ rfl 0 sizeOf3) ?_;simp only[pv];refine p_d 0 r1.r (.int .i64 sq) rfl isAgg3 ?_;simp only[pv];refine p_v _ (Yb _ _ _ _ rfl (sq) (1099511627776) rfl rfl true (decide_eq_true (by omega))) ?_;refine p_k true (.bool true) ?_;refine p_m ?_;simp only[pv];refine p_v _ (Zb 51 _ 1 rfl g1 0 rfl _ underlying51 _ rfl 0 sizeOf3) ?_;simp only[pv];refine p_d 1 r1.r (.int .i64 cl) rfl isAgg3 ?_;simp only[pv];refine p_c 104 func104 #[.int .i64 cl] (hC _) ?_;intro z1011 k;simp only[pv];replace r1:=k.ro r1;replace sb:=kk sb k;clear k;refine p_k true (.bool (clB cl)) ?_;refine p_a (Za ?_);simp only[pv];go_wp2;go_ret;exact⟨rfl,sb⟩
 ·rw[show stB sq cl=false from decide_eq_false (by omega)]
  go_enter func60,ntmps60
  have sb:=Z9 w;iterate 2 go_step
  refine rp ?_;refine ZD (by rfl) 51 _ rfl (tsC sq cl) rfl ?_;intro g1 z0 n0 r1 k;simp only[pv];have b1:=Nat.le_trans sb.size n0;clear n0;replace sb:=kk sb k;clear k;refine p_v (.bool false) (fun _=>rfl) (Za ?_);simp only[pv];iterate 3 go_step
  refine rp ?_;refine p_v _ (Zb 51 _ 0 rfl g1 0 rfl _ underlying51 _ rfl 0 sizeOf3) ?_;simp only[pv];refine p_d 0 r1.r (.int .i64 sq) rfl isAgg3 ?_;simp only[pv];refine p_v _ (ZG _ _ _ _ rfl (sq) (1) rfl rfl true (decide_eq_true (by omega))) ?_;refine p_m ?_;simp only[pv];refine p_v _ (Zb 51 _ 0 rfl g1 0 rfl _ underlying51 _ rfl 0 sizeOf3) ?_;simp only[pv];refine p_d 0 r1.r (.int .i64 sq) rfl isAgg3 ?_;simp only[pv];refine p_v _ (Yb _ _ _ _ rfl (sq) (1099511627776) rfl rfl false (decide_eq_false (by omega))) ?_;refine p_k true (.bool false) ?_;refine p_m ?_;refine p_s ?_;refine p_s ?_;simp only[pv];refine p_s ?_;refine p_k false (.bool false) ?_;refine p_a (Za ?_);simp only[pv];go_wp2;go_ret;exact⟨rfl,sb⟩
theorem Ly (n c:Int)(w:World):
  Calls prog 152 #[.int .i64 n,.int .i64 c] w fun e w'=>e= .returned (.tuple #[.agg (tsC (nxS n c) (nxC n c)),.int .i64 (nxE n c)])/\Below w.heap.size w w':=by
 have hC:=fun w'=>PS c w'
 unfold nxS nxC;by_cases h1:n<0
 ·have HE:nxE n c=1:=if_pos (.inl h1)
  go_enter func152,ntmps152
  have sb:=Z9 w;iterate 2 go_step
  refine rp ?_;refine ZJ (by rfl) 51 rfl _ Xj ?_;intro g4 z0 n0 r4 k;simp only[pv];have b4:=Nat.le_trans sb.size n0;clear n0;replace sb:=kk sb k;clear k;refine p_v (.int .i64 0) (fun _=>rfl) (Za ?_);simp only[pv];iterate 4 go_step
  refine rp ?_;refine p_m ?_;simp only[pv];refine p_v _ (XK (n) (0)) ?_;refine p_m ?_;refine p_s ?_;refine p_s ?_;refine p_s ?_;simp only[pv];refine p_k true (.bool true) (Za ?_);simp only[pv];iterate 4 go_step
  refine rp ?_;refine p_v _ (Zm _ [] rfl [] rfl _ Z1) ?_;simp only[pv];refine Z0 (by rfl) 51 _ _ rfl _ rfl r4 (tsC 0 0) rfl (by exact Zz) (by rfl) (Xl _ _) ?_;clear r4;intro z2001 r4 k;simp only[Act.put];replace sb:=kk sb k;clear k;refine p_v (.int .i64 1) (fun _=>rfl) (Za ?_);simp only[pv];go_wp2;exact Wt rfl _ rfl r4 _ underlying51 Zz rfl _ rfl ⟨by first|rfl|(rw[HE];rfl),sb⟩
 by_cases h2:1<=c
 rotate_left
 ·have HE:nxE n c=1:=if_pos (.inr (decide_eq_false (by omega)));rw[show clB c=false from decide_eq_false (by omega)]at hC
  go_enter func152,ntmps152
  have sb:=Z9 w;iterate 2 go_step
  refine rp ?_;refine ZJ (by rfl) 51 rfl _ Xj ?_;intro g4 z0 n0 r4 k;simp only[pv];have b4:=Nat.le_trans sb.size n0;clear n0;replace sb:=kk sb k;clear k;refine p_v (.int .i64 0) (fun _=>rfl) (Za ?_);simp only[pv];iterate 4 go_step
  refine rp ?_;refine p_m ?_;simp only[pv];refine p_v _ (Xy (n) (0)) ?_;refine p_m ?_;refine p_m ?_;simp only[pv];refine p_c 104 func104 #[.int .i64 c] (hC _) ?_;intro z1004 k;simp only[pv];replace r4:=k.ro r4;replace sb:=kk sb k;clear k;refine p_v _ (Zp _ _ rfl false rfl) ?_;refine p_k false (.bool true) (Za ?_);simp only[pv];iterate 4 go_step
  refine rp ?_;refine p_v _ (Zm _ [] rfl [] rfl _ Z1) ?_;simp only[pv];refine Z0 (by rfl) 51 _ _ rfl _ rfl r4 (tsC 0 0) rfl (by exact Zz) (by rfl) (Xl _ _) ?_;clear r4;intro z2001 r4 k;simp only[Act.put];replace sb:=kk sb k;clear k;refine p_v (.int .i64 1) (fun _=>rfl) (Za ?_);simp only[pv];go_wp2;exact Wt rfl _ rfl r4 _ underlying51 Zz rfl _ rfl ⟨by first|rfl|(rw[HE];rfl),sb⟩
 by_cases h3:c<=4
 rotate_left
 ·have HE:nxE n c=1:=if_pos (.inr (decide_eq_false (by omega)));rw[show clB c=false from decide_eq_false (by omega)]at hC
  go_enter func152,ntmps152
  have sb:=Z9 w;iterate 2 go_step
  refine rp ?_;refine ZJ (by rfl) 51 rfl _ Xj ?_;intro g4 z0 n0 r4 k;simp only[pv];have b4:=Nat.le_trans sb.size n0;clear n0;replace sb:=kk sb k;clear k;refine p_v (.int .i64 0) (fun _=>rfl) (Za ?_);simp only[pv];iterate 4 go_step
  refine rp ?_;refine p_m ?_;simp only[pv];refine p_v _ (Xy (n) (0)) ?_;refine p_m ?_;refine p_m ?_;simp only[pv];refine p_c 104 func104 #[.int .i64 c] (hC _) ?_;intro z1004 k;simp only[pv];replace r4:=k.ro r4;replace sb:=kk sb k;clear k;refine p_v _ (Zp _ _ rfl false rfl) ?_;refine p_k false (.bool true) (Za ?_);simp only[pv];iterate 4 go_step
  refine rp ?_;refine p_v _ (Zm _ [] rfl [] rfl _ Z1) ?_;simp only[pv];refine Z0 (by rfl) 51 _ _ rfl _ rfl r4 (tsC 0 0) rfl (by exact Zz) (by rfl) (Xl _ _) ?_;clear r4;intro z2001 r4 k;simp only[Act.put];replace sb:=kk sb k;clear k;refine p_v (.int .i64 1) (fun _=>rfl) (Za ?_);simp only[pv];go_wp2;exact Wt rfl _ rfl r4 _ underlying51 Zz rfl _ rfl ⟨by first|rfl|(rw[HE];rfl),sb⟩
 have h4: ¬(n<0∨clB c=false):=by
  intro h;rcases h with h|h
  ·exact h1 h
  ·rw[show clB c=true from decide_eq_true (by omega)]at h;cases h
 by_cases h5:1099511627776<=n
 ·have HE:nxE n c=2:=by unfold nxE;rw[if_neg h4,if_pos h5]
  clear h4;rw[show clB c=true from decide_eq_true (by omega)]at hC
  go_enter func152,ntmps152
  have sb:=Z9 w;iterate 2 go_step
  refine rp ?_;refine ZJ (by rfl) 51 rfl _ Xj ?_;intro g4 z0 n0 r4 k;simp only[pv];have b4:=Nat.le_trans sb.size n0;clear n0;replace sb:=kk sb k;clear k;refine p_v (.int .i64 0) (fun _=>rfl) (Za ?_);simp only[pv];iterate 4 go_step
  refine rp ?_;refine p_m ?_;simp only[pv];refine p_v _ (Xy (n) (0)) ?_;refine p_m ?_;refine p_m ?_;simp only[pv];refine p_c 104 func104 #[.int .i64 c] (hC _) ?_;intro z1004 k;simp only[pv];replace r4:=k.ro r4;replace sb:=kk sb k;clear k;refine p_v _ (Zp _ _ rfl true rfl) ?_;refine p_k false (.bool false) (Za ?_);simp only[pv];iterate 8 go_step
  refine rp ?_;refine p_m ?_;simp only[pv];refine p_v _ (ZG _ _ _ _ rfl (n) (1099511627776) rfl rfl true (decide_eq_true (by omega))) (Za ?_);simp only[pv];iterate 4 go_step
  refine rp ?_;refine p_v _ (Zm _ [] rfl [] rfl _ Z1) ?_;simp only[pv];refine Z0 (by rfl) 51 _ _ rfl _ rfl r4 (tsC 0 0) rfl (by exact Zz) (by rfl) (Xl _ _) ?_;clear r4;intro z4001 r4 k;simp only[Act.put];replace sb:=kk sb k;clear k;refine p_v (.int .i64 2) (fun _=>rfl) (Za ?_);simp only[pv];go_wp2;exact Wt rfl _ rfl r4 _ underlying51 Zz rfl _ rfl ⟨by first|rfl|(rw[HE];rfl),sb⟩
 ·have HE:nxE n c=0:=by unfold nxE;rw[if_neg h4,if_neg h5]
  clear h4;rw[show clB c=true from decide_eq_true (by omega)]at hC
  go_enter func152,ntmps152
  have sb:=Z9 w;iterate 2 go_step
  refine rp ?_;refine ZJ (by rfl) 51 rfl _ Xj ?_;intro g4 z0 n0 r4 k;simp only[pv];have b4:=Nat.le_trans sb.size n0;clear n0;replace sb:=kk sb k;clear k;refine p_v (.int .i64 0) (fun _=>rfl) (Za ?_);simp only[pv];iterate 4 go_step
  refine rp ?_;refine p_m ?_;simp only[pv];refine p_v _ (Xy (n) (0)) ?_;refine p_m ?_;refine p_m ?_;simp only[pv];refine p_c 104 func104 #[.int .i64 c] (hC _) ?_;intro z1004 k;simp only[pv];replace r4:=k.ro r4;replace sb:=kk sb k;clear k;refine p_v _ (Zp _ _ rfl true rfl) ?_;refine p_k false (.bool false) (Za ?_);simp only[pv];iterate 8 go_step
  refine rp ?_;refine p_m ?_;simp only[pv];refine p_v _ (ZG _ _ _ _ rfl (n) (1099511627776) rfl rfl false (decide_eq_false (by omega))) (Za ?_);simp only[pv];iterate 7 go_step
  refine rp ?_;refine p_m ?_;simp only[pv];refine p_v _ (Xi _ _ _ _ rfl (n) (1) (n+1) rfl rfl (by omega) (by omega) (by omega)) ?_;refine p_m ?_;simp only[pv];refine p_v _ (Zm _ [(0,_),(1,_)] rfl [(0,.int .i64 (n+1)),(1,.int .i64 c)] rfl _ (PQ _ _)) ?_;simp only[pv];refine Z0 (by rfl) 51 _ _ rfl _ rfl r4 (tsC (n+1) c) rfl (by exact Zz) (by rfl) (Xl _ _) ?_;clear r4;intro z5004 r4 k;simp only[Act.put];replace sb:=kk sb k;clear k;refine p_v (.int .i64 0) (fun _=>rfl) (Za ?_);simp only[pv];go_wp2;exact Wt rfl _ rfl r4 _ underlying51 Zz rfl _ rfl ⟨by first|rfl|(rw[HE];rfl),sb⟩
end Go.Proofs.YtcdahmommonnfaaGreatDoor
