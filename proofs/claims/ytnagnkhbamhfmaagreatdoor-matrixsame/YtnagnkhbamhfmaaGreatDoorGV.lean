import Derived.Test.YtnagnkhbamhfmaaGreatDoorGY
set_option maxRecDepth 100000
set_option maxHeartbeats 8000000
namespace Go.Proofs.YtnagnkhbamhfmaaGreatDoor
set_option linter.all false
open Go.Proofs.Tryz
open Go.RowKit
def dcN (l:List UInt8):Nat->Nat
 |0=>0
 |k+1=>dcN l k*2^3+dcN l k*2^1+(yb l k-48)
def sxC (n:Nat)(f:Nat->List UInt8):Array Value:=Array.ofFn (n:=n) fun i=>.string ⟨(f i).toArray⟩
theorem VA:(prog.info? 3).map (·.size)=some 1:=by kernel_rfl
def upN (V:Nat->Nat)(k i:Nat):Nat:=if i<k then V i else 0
def upZ (V:Nat->Int)(k i:Nat):Int:=if i<k then V i else 0
def DigS (l:List UInt8):Prop:=l.length<9223372036854775808/\ ∀i,i<l.length->48<=yb l i
def dig? (l:List UInt8):Bool:=l.all fun b=>decide (48<=b.toNat)
def dcF:List UInt8->Nat->Nat
 |[],n=>n
 |b::l,n=>dcF l (n*10+(b.toNat-48))
def leS:List UInt8:=[51,49,54,53,52,51,55,55,49,52,51,57,55,56,48,57,56,52]
def leT:List (List UInt8):=[[54,53,53,50,49],[49,57,54,54,48,50,51,49,50,55],[49,48,53,53,53,48,48,54,56,48,51,50,50,49,56,51,49,50,55]]
def leF (i:Nat):List UInt8:=leT.getD i []
theorem E8 (i:Nat)(h:i<3):lN leL i<2^256:=by
 match i,h with
 |0,_=>decide
 |1,_=>decide
 |2,_=>decide
def otS:List UInt8:=[53,52,54,50,52,51,51,51,49,51,57,53,50,52,49,50,56]
def otT:List (List UInt8):=[[54,52,56,49,55],[49,56,49,53,49,51,53,50,54,57],[52,56,55,50,54,57,48,57,49,52,52,55,48,56,49,52,50,57]]
def otF (i:Nat):List UInt8:=otT.getD i []
theorem Be (i:Nat)(h:i<3):lN otL i<2^256:=by
 match i,h with
 |0,_=>decide
 |1,_=>decide
 |2,_=>decide
def grS:List UInt8:=[57,49,53,49,49,53,55,51,52,49,54,54,55,52,54,57,54,49,53,56,48,48,57,57,55,49,51,48,50,51,49,52,53,52,56,54,53,52,50,53,48,49,56,49,56,49,57,49,55,57,48,52,57,50,49,52,55,57,57,55,50,55,50,57]
def grT:List (List UInt8):=[[54,53,53,49,57],[49,51,49,51,57,49,56,48,50,55],[56,56,49,55,53,53,54,55,50,48,51,55,55,57,55,54,49],[54,51,53,51,55,49,57,50,50,53,54,51,51,57,57,55,53,53,49,49,57,50,57,55,54,54,54,49,56,49,53,49,55,49],[49,50,56,56,54,56,55,51,53,56,52,48,57,48,53,50,52,54,53,57,55,48,48,53,54,50,50,50,56,54,55,53,51,51,56,51,53,49,48,52,56,54,51,53,57,51,48,55,54,48,57,56,52,53,56,52,51,56,53,54,49,52,51,49,56,51]]
def grF (i:Nat):List UInt8:=grT.getD i []
theorem A3 (i:Nat)(h:i<5):lN grL i<2^256:=by
 match i,h with
 |0,_=>decide
 |1,_=>decide
 |2,_=>decide
 |3,_=>decide
 |4,_=>decide
section
variable {P:Program}{o:Oper}{ρ:Operand->Value}
theorem Fb (t:TypeId)(x y:Operand)(u:TypeId)(ho:o.op= .binOp .sub t x y u)(n m r:Int)(hx:ρ x= .int .i64 n)(hy:ρ y= .int .i64 m)(hr:IntKind.i64.wrap (n-m)=r)(w:World):
  (execOp ρ o).run P w= .ok (.value (.int .i64 r)) w:=by
 subst hr;unfold execOp;simp only[ho,hx,hy];simp[go_sem]
end
def yt (Q:Nat):Int:=((bitLen Q:Int)-1).tdiv 8
def Pb (w:World)(v:Option Addr)(P Q G:Nat)(r f:Option Addr):Prop:=(v=none/\P=0/\Q=0/\G=0/\r=none/\f=none)∨ ∃g,v=some ⟨g,0,none⟩/\Row w g (gpC P Q G r f) 70
theorem Pb.below {w w':World}{v:Option Addr}{P Q G:Nat}{r f:Option Addr}(h:Pb w v P Q G r f)(hb:Below w.heap.size w w'):Pb w' v P Q G r f:=h.imp id fun⟨g,h1,h2⟩=>⟨g,h1,h2.belowAll hb⟩
theorem GrpAt.kn {w:World}{g gr gf P Q G:Nat}(h:GrpAt w g gr gf P Q G):Pb w (some ⟨g,0,none⟩) P Q G (some ⟨gr,0,none⟩) (some ⟨gf,0,none⟩):=.inr ⟨g,rfl,h.row⟩
theorem L6:prog.underlying 25=some (.pointer (prog.pointee 25)):=by kernel_rfl
theorem IP (w:World):
  Calls prog 141 #[.pointer none] w fun e w'=>e= .returned (.agg (gpC 0 0 0 none none))/\Below w.heap.size w w':=by
 go_enter func141,ntmps141
 iterate 2 go_step
 refine rp ?_;refine ZM (by rfl) 70 rfl _ L3 ?_;intro g2 z0 n0 r2 k;simp only[pv];have b2:w.heap.size<=g2:=n0;clear n0;have sb:=k_b k;clear k;refine Zb ?_;iterate 4 go_step
 refine rp ?_;refine p_m ?_;simp only[pv];refine p_v _ (Wg _ _ _ _ rfl none rfl rfl L6) (Zb ?_);simp only[pv];iterate 4 go_step
 refine rp ?_;refine p_v _ (ZI _ rfl _ L4) ?_;simp only[pv];refine Y5 (by rfl) 70 _ _ rfl _ rfl r2 (gpC 0 0 0 none none) rfl (by exact U1) (by rfl) (Fa _ _ _ _ _) ?_;clear r2;intro z2001 r2 k;simp only[Act.put];replace sb:=kk sb k;clear k;refine Zb ?_;go_wp2;exact Xp rfl _ rfl r2 _ underlying70 (by exact U1) rfl ⟨rfl,sb⟩
theorem L7 (g5 P Q G:Nat)(r f:Option Addr)(w:World)(r5:Row w g5 (gpC P Q G r f) 70):
  Calls prog 141 #[.pointer (some ⟨g5,0,none⟩)] w fun e w'=>e= .returned (.agg (gpC P Q G r f))/\Below w.heap.size w w':=by
 go_enter func141,ntmps141
 iterate 2 go_step
 refine rp ?_;refine ZM (by rfl) 70 rfl _ L3 ?_;intro g2 z0 n0 r2 k;simp only[pv];have d5x2:=l_l r5.lt n0;have b2:w.heap.size<=g2:=n0;clear n0;replace r5:=k.ro r5;have sb:=k_b k;clear k;refine Zb ?_;iterate 4 go_step
 refine rp ?_;refine p_m ?_;simp only[pv];refine p_v _ (Wg _ _ _ _ rfl (some ⟨g5,0,none⟩) rfl rfl L6) (Zb ?_);simp only[pv];iterate 7 go_step
 refine rp ?_;refine p_m ?_;simp only[pv];refine p_v (.pointer (some ⟨g5,0,none⟩)) (Z9 _ rfl g5 0 rfl) ?_;simp only[pv];refine ZE (by rfl) 70 _ rfl _ 0 rfl r5.r _ (Yr _) _ underlying70 rfl U1 ?_;simp only[pv];refine Y5 (by rfl) 70 _ _ rfl _ rfl r2 (gpC P Q G r f) rfl (by exact U1) (by rfl) (Fa _ _ _ _ _) ?_;clear r2;intro z3003 r2 k;simp only[Act.put];replace r5:=k.ro r5;replace sb:=kk sb k;clear k;refine Zb ?_;go_wp2;exact Xp rfl _ rfl r2 _ underlying70 (by exact U1) rfl ⟨rfl,sb⟩
theorem VB (v:Option Addr)(P Q G:Nat)(r f:Option Addr)(w:World)(h:Pb w v P Q G r f):
  Calls prog 141 #[.pointer v] w (Rt (.agg (gpC P Q G r f)) w):=by
 rcases h with ⟨rfl,rfl,rfl,rfl,rfl,rfl⟩|⟨g,rfl,hr⟩
 ·exact IP w
 ·exact L7 g P Q G r f w hr
theorem VC (v:Option Addr)(P Q G:Nat)(r f:Option Addr)(w:World)(h:Pb w v P Q G r f):
  Calls prog 143 #[.pointer v] w fun e w'=>e= .returned (.agg (Zd Q))/\Below w.heap.size w w':=by
 have hkn:=fun w' (hb:Below w.heap.size w w')=>VB v P Q G r f w' (h.below hb)
 clear h
 go_enter func143,ntmps143
 iterate 2 go_step
 refine rp ?_;refine ZM (by rfl) 57 rfl _ Zo ?_;intro g2 z0 n0 r2 k;simp only[pv];have b2:w.heap.size<=g2:=n0;clear n0;have sb:=k_b k;clear k;refine Zb ?_;iterate 3 go_step
 refine rp ?_;refine p_m ?_;simp only[pv];refine p_c 141 func141 #[.pointer v] (hkn _ sb) ?_;intro z1001 k;simp only[pv];replace r2:=k.ro r2;replace sb:=kk sb k;clear k;refine p_v _ (Xu _ _ _ rfl _ _ rfl (L5 P Q G r f)) ?_;simp only[pv];refine p_v _ (Xu _ _ _ rfl _ _ rfl (AZ P Q G)) ?_;simp only[pv];refine p_p r2 Q ?_;clear r2;intro z1004 r2 k;simp only[Act.put];replace sb:=kk sb k;clear k;refine Zb ?_;go_wp2;exact ZL rfl _ rfl r2 4 _ underlying57 (by exact Zc) rfl ⟨rfl,sb⟩
theorem IQ (v:Option Addr)(P Q G:Nat)(r f:Option Addr)(w:World)(h:Pb w v P Q G r f):
  Calls prog 132 #[.pointer v] w fun e w'=>e= .returned (.agg (Zd G))/\Below w.heap.size w w':=by
 have hkn:=fun w' (hb:Below w.heap.size w w')=>VB v P Q G r f w' (h.below hb)
 clear h
 go_enter func132,ntmps132
 iterate 2 go_step
 refine rp ?_;refine ZM (by rfl) 57 rfl _ Zo ?_;intro g2 z0 n0 r2 k;simp only[pv];have b2:w.heap.size<=g2:=n0;clear n0;have sb:=k_b k;clear k;refine Zb ?_;iterate 3 go_step
 refine rp ?_;refine p_m ?_;simp only[pv];refine p_c 141 func141 #[.pointer v] (hkn _ sb) ?_;intro z1001 k;simp only[pv];replace r2:=k.ro r2;replace sb:=kk sb k;clear k;refine p_v _ (Xu _ _ _ rfl _ _ rfl (L5 P Q G r f)) ?_;simp only[pv];refine p_v _ (Xu _ _ _ rfl _ _ rfl (A1 P Q G)) ?_;simp only[pv];refine p_p r2 G ?_;clear r2;intro z1004 r2 k;simp only[Act.put];replace sb:=kk sb k;clear k;refine Zb ?_;go_wp2;exact ZL rfl _ rfl r2 4 _ underlying57 (by exact Zc) rfl ⟨rfl,sb⟩
theorem Wk (v:Option Addr)(P Q G:Nat)(r f:Option Addr)(w:World)(h:Pb w v P Q G r f):
  Calls prog 167 #[.pointer v] w fun e w'=>e= .returned (.pointer r)/\Below w.heap.size w w':=by
 have hkn:=fun w' (hb:Below w.heap.size w w')=>VB v P Q G r f w' (h.below hb)
 clear h
 go_enter func167,ntmps167
 have sb:=Below.refl w.heap.size w;iterate 2 go_step
 refine rp ?_;refine p_v (.pointer none) (fun _=>rfl) (Zb ?_);simp only[pv];iterate 3 go_step
 refine rp ?_;refine p_m ?_;simp only[pv];refine p_c 141 func141 #[.pointer v] (hkn _ sb) ?_;intro z1001 k;simp only[pv];replace sb:=kk sb k;clear k;refine p_v _ (Xu _ _ _ rfl _ _ rfl (E5 P Q G r f)) ?_;refine p_a (Zb ?_);simp only[pv];go_wp2;go_ret;exact⟨rfl,sb⟩
theorem Yz (v:Option Addr)(P Q G:Nat)(r f:Option Addr)(w:World)(h:Pb w v P Q G r f):
  Calls prog 98 #[.pointer v] w fun e w'=>e= .returned (.pointer f)/\Below w.heap.size w w':=by
 have hkn:=fun w' (hb:Below w.heap.size w w')=>VB v P Q G r f w' (h.below hb)
 clear h
 go_enter func98,ntmps98
 have sb:=Below.refl w.heap.size w;iterate 2 go_step
 refine rp ?_;refine p_v (.pointer none) (fun _=>rfl) (Zb ?_);simp only[pv];iterate 3 go_step
 refine rp ?_;refine p_m ?_;simp only[pv];refine p_c 141 func141 #[.pointer v] (hkn _ sb) ?_;intro z1001 k;simp only[pv];replace sb:=kk sb k;clear k;refine p_v _ (Xu _ _ _ rfl _ _ rfl (IM P Q G r f)) ?_;refine p_a (Zb ?_);simp only[pv];go_wp2;go_ret;exact⟨rfl,sb⟩
theorem Bf (n c:Nat)(ab:Option Addr)(G:Nat)(N:Nat->Nat)(A:Nat->Int)(gb ob:Nat)(bcs:Array Value)(tb:TypeId)(w:World)(h2:2<=n)(hn:n<9223372036854775808)(hL:LinksAt w ab n N A gb ob bcs tb):
  Calls prog 75 #[.agg (paC ab n c G)] w fun e w'=>e= .returned (.agg (Zd (N (n-1))))/\Below w.heap.size w w':=by
 obtain h0|⟨rfl,rB,hat⟩:=hL.at'
 ·omega
 have h1:=hat (n-1) (by omega);clear hL hat;generalize N (n-1)=P at*;generalize A (n-1)=zp at*
 go_enter func75,ntmps75
 iterate 2 go_step
 refine rp ?_;refine ZQ (by rfl) 59 _ rfl (_) rfl ?_;intro g1 z0 n0 r1 k;simp only[pv];have b1:w.heap.size<=g1:=n0;clear n0;have sb:=k_b k;clear k;refine ZM (by rfl) 57 rfl _ Zo ?_;intro g2 z1 n0 r2 k;simp only[pv];have d1x2:=l_l r1.lt n0;have b2:=Nat.le_trans sb.size n0;clear n0;replace r1:=k.ro r1;replace sb:=kk sb k;clear k;refine Zb ?_;replace rB:=rB.belowAll sb;iterate 4 go_step
 refine rp ?_;refine p_v _ (Zh 59 _ 0 rfl g1 0 rfl _ underlying59 _ rfl 0 sizeOf54) ?_;simp only[pv];refine p_d 0 r1.r (.slice (some ⟨gb,ob,none⟩) n c) rfl isAgg54 ?_;simp only[pv];refine p_v _ (n_l (some ⟨gb,ob,none⟩) n c Wj) ?_;refine p_v _ (XC n 2) (Zb ?_);simp only[pv];iterate 7 go_step
 refine rp ?_;refine p_v _ (Zh 59 _ 0 rfl g1 0 rfl _ underlying59 _ rfl 0 sizeOf54) ?_;simp only[pv];refine p_d 0 r1.r (.slice (some ⟨gb,ob,none⟩) n c) rfl isAgg54 ?_;simp only[pv];refine p_v _ (Zh 59 _ 0 rfl g1 0 rfl _ underlying59 _ rfl 0 sizeOf54) ?_;simp only[pv];refine p_d 0 r1.r (.slice (some ⟨gb,ob,none⟩) n c) rfl isAgg54 ?_;simp only[pv];refine p_v _ (n_l (some ⟨gb,ob,none⟩) n c Wj) ?_;simp only[pv];refine p_v _ (ZV _ _ _ _ rfl n 1 rfl rfl (by omega) hn) ?_;simp only[pv];refine p_v _ (Zu 54 _ _ rfl gb ob n c rfl (n-1) rfl (by omega) _ underlying54 5 sizeOf106) ?_;simp only[pv];refine p_v _ (Zh 106 _ 0 rfl gb (ob+(n-1)*5) rfl _ underlying106 _ rfl 3 sizeOf57) ?_;simp only[pv];refine ZE (by rfl) 57 _ rfl _ (ob+(n-1)*5) rfl rB (Zd P) (V3 h1) _ underlying57 rfl Zc ?_;simp only[pv];refine p_p r2 P ?_;clear r2;intro z3009 r2 k;simp only[Act.put];replace r1:=k.ro r1;replace sb:=kk sb k;clear k;refine Zb ?_;go_wp2;exact ZL rfl _ rfl r2 4 _ underlying57 (by exact Zc) rfl ⟨rfl,sb⟩
theorem Bg (n c:Nat)(ab:Option Addr)(G:Nat)(N:Nat->Nat)(A:Nat->Int)(gb ob:Nat)(bcs:Array Value)(tb:TypeId)(w:World)(h2:2<=n)(hn:n<9223372036854775808)(hL:LinksAt w ab n N A gb ob bcs tb):
  Calls prog 76 #[.agg (paC ab n c G)] w fun e w'=>e= .returned (.agg (Zd (N (n-2))))/\Below w.heap.size w w':=by
 obtain h0|⟨rfl,rB,hat⟩:=hL.at'
 ·omega
 have h1:=hat (n-2) (by omega);clear hL hat;generalize N (n-2)=P at*;generalize A (n-2)=zp at*
 go_enter func76,ntmps76
 iterate 2 go_step
 refine rp ?_;refine ZQ (by rfl) 59 _ rfl (_) rfl ?_;intro g1 z0 n0 r1 k;simp only[pv];clear n0;have sb:=k_b k;clear k;refine ZM (by rfl) 57 rfl _ Zo ?_;intro g2 z1 n0 r2 k;simp only[pv];have d1x2:=l_l r1.lt n0;have b2:=Nat.le_trans sb.size n0;clear n0;replace r1:=k.ro r1;replace sb:=kk sb k;clear k;refine Zb ?_;replace rB:=rB.belowAll sb;iterate 4 go_step
 refine rp ?_;refine p_v _ (Zh 59 _ 0 rfl g1 0 rfl _ underlying59 _ rfl 0 sizeOf54) ?_;simp only[pv];refine p_d 0 r1.r (.slice (some ⟨gb,ob,none⟩) n c) rfl isAgg54 ?_;simp only[pv];refine p_v _ (n_l (some ⟨gb,ob,none⟩) n c Wj) ?_;refine p_v _ (XC n 2) (Zb ?_);simp only[pv];iterate 7 go_step
 refine rp ?_;refine p_v _ (Zh 59 _ 0 rfl g1 0 rfl _ underlying59 _ rfl 0 sizeOf54) ?_;simp only[pv];refine p_d 0 r1.r (.slice (some ⟨gb,ob,none⟩) n c) rfl isAgg54 ?_;simp only[pv];refine p_v _ (Zh 59 _ 0 rfl g1 0 rfl _ underlying59 _ rfl 0 sizeOf54) ?_;simp only[pv];refine p_d 0 r1.r (.slice (some ⟨gb,ob,none⟩) n c) rfl isAgg54 ?_;simp only[pv];refine p_v _ (n_l (some ⟨gb,ob,none⟩) n c Wj) ?_;simp only[pv];refine p_v _ (ZV _ _ _ _ rfl n 2 rfl rfl (by omega) hn) ?_;simp only[pv];refine p_v _ (Zu 54 _ _ rfl gb ob n c rfl (n-2) rfl (by omega) _ underlying54 5 sizeOf106) ?_;simp only[pv];refine p_v _ (Zh 106 _ 0 rfl gb (ob+(n-2)*5) rfl _ underlying106 _ rfl 3 sizeOf57) ?_;simp only[pv];refine ZE (by rfl) 57 _ rfl _ (ob+(n-2)*5) rfl rB (Zd P) (V3 h1) _ underlying57 rfl Zc ?_;simp only[pv];refine p_p r2 P ?_;clear r2;intro z3009 r2 k;simp only[Act.put];replace r1:=k.ro r1;replace sb:=kk sb k;clear k;refine Zb ?_;go_wp2;exact ZL rfl _ rfl r2 4 _ underlying57 (by exact Zc) rfl ⟨rfl,sb⟩
theorem Pc {n:Nat}(vs:List (Nat×Value))(c:Array Value)(k:Nat)(hk:k=5)(h:Instr.fill (fun i=>some (i*5,5)) ((Array.range (n*5)).map ((Value.agg #[.int .u64 0,.int .u64 0,.int .u64 0,.int .u64 0,.int .i64 0]).cells[· %(Value.agg #[.int .u64 0,.int .u64 0,.int .u64 0,.int .u64 0,.int .i64 0]).cells.size]!)) vs=some c):
  Instr.fill (fun i=>some (i*k,k)) ((Array.range (n*k)).map ((Value.agg #[.int .u64 0,.int .u64 0,.int .u64 0,.int .u64 0,.int .i64 0]).cells[· %(Value.agg #[.int .u64 0,.int .u64 0,.int .u64 0,.int .u64 0,.int .i64 0]).cells.size]!)) vs=some c:=by
 subst hk;exact h
theorem E9:Instr.fill (fun i=>some (i*5,5)) ((Array.range (3*5)).map ((Value.agg #[.int .u64 0,.int .u64 0,.int .u64 0,.int .u64 0,.int .i64 0]).cells[· %(Value.agg #[.int .u64 0,.int .u64 0,.int .u64 0,.int .u64 0,.int .i64 0]).cells.size]!)) [(0,.agg (lkC 65521 0)),(1,.agg (lkC 1966023127 2)),(2,.agg (lkC 1055500680322183127 2))]=some (TG 3 (lN leL) Um):=by kernel_rfl
theorem V5 (w:World):
  Calls prog 20 #[] w fun e w'=> ∃g,e= .returned (.agg (paC (some ⟨g,0,none⟩) 3 3 leG))/\w.heap.size<=g/\Row w' g (TG 3 (lN leL) Um) 106/\Below w.heap.size w w':=by
 obtain⟨ie,hie,hz,hsz⟩:=SJ
 have hs1: ¬3*ie.size>2^24:=by rw[hsz];decide
 have hs2: ¬3*ie.size=0:=by rw[hsz];decide
 have hl:=Pc _ _ ie.size hsz E9
 go_enter func20,ntmps20
 iterate 2 go_step
 refine rp ?_;refine ZM (by rfl) 59 rfl _ V4 ?_;intro g0 z0 n0 r0 k;simp only[Act.put,List.setIfInBounds_toArray,List.set_cons_zero];have b0:w.heap.size<=g0:=n0;clear n0;have sb:=k_b k;clear k;refine Zb ?_;iterate 3 go_step
 refine rp ?_;refine p_v (.agg (Zd 65521)) (ZJ _ _ rfl [(0,.int .u64 65521)] rfl _ (by kernel_rfl)) ?_;simp only[pv];refine p_v _ (Yx 65521 0 rfl rfl rfl) ?_;simp only[pv];refine p_v (.agg (Zd 1966023127)) (ZJ _ _ rfl [(0,.int .u64 1966023127)] rfl _ (by kernel_rfl)) ?_;simp only[pv];refine p_v _ (Yx 1966023127 2 rfl rfl rfl) ?_;simp only[pv];refine p_v (.agg (Zd 1055500680322183127)) (ZJ _ _ rfl [(0,.int .u64 1055500680322183127)] rfl _ (by kernel_rfl)) ?_;simp only[pv];refine p_v _ (Yx 1055500680322183127 2 rfl rfl rfl) ?_;simp only[pv];refine YW (by rfl) 54 106 3 _ rfl (TG 3 (lN leL) Um) ie _ underlying54 hie hz hs1 hs2 [(0,.agg (lkC 65521 0)),(1,.agg (lkC 1966023127 2)),(2,.agg (lkC 1055500680322183127 2))] rfl hl ?_;intro gT z1006 n0 rT k;simp only[pv];have d0xT:=l_l r0.lt n0;have bT:=Nat.le_trans sb.size n0;clear n0;replace r0:=k.ro r0;replace sb:=kk sb k;clear k;refine p_v (.agg (Zd 316543771439780984)) (ZJ _ _ rfl [(0,.int .u64 316543771439780984)] rfl _ (by kernel_rfl)) ?_;simp only[pv];refine p_v _ (ZJ _ _ rfl [(0,.slice (some ⟨gT,0,none⟩) 3 3),(1,.agg (Zd leG))] rfl _ (SK _ _ _ _)) ?_;simp only[pv];refine Y5 (by rfl) 59 _ _ rfl _ rfl r0 (paC (some ⟨gT,0,none⟩) 3 3 leG) rfl (by exact YL) (by rfl) (T2 _ _ _ _) ?_;clear r0;intro z1009 r0 k;simp only[Act.put];replace rT:=k.ro rT;replace sb:=kk sb k;clear k;refine Zb ?_;go_wp2;exact Xp rfl _ rfl r0 _ underlying59 (by exact YL) rfl ⟨gT,rfl,bT,rT,sb⟩
theorem Da:Instr.fill (fun i=>some (i*5,5)) ((Array.range (3*5)).map ((Value.agg #[.int .u64 0,.int .u64 0,.int .u64 0,.int .u64 0,.int .i64 0]).cells[· %(Value.agg #[.int .u64 0,.int .u64 0,.int .u64 0,.int .u64 0,.int .i64 0]).cells.size]!)) [(0,.agg (lkC 64817 0)),(1,.agg (lkC 1815135269 2)),(2,.agg (lkC 487269091447081429 2))]=some (TG 3 (lN otL) Um):=by kernel_rfl
theorem V6 (w:World):
  Calls prog 21 #[] w fun e w'=> ∃g,e= .returned (.agg (paC (some ⟨g,0,none⟩) 3 3 otG))/\w.heap.size<=g/\Row w' g (TG 3 (lN otL) Um) 106/\Below w.heap.size w w':=by
 obtain⟨ie,hie,hz,hsz⟩:=SJ
 have hs1: ¬3*ie.size>2^24:=by rw[hsz];decide
 have hs2: ¬3*ie.size=0:=by rw[hsz];decide
 have hl:=Pc _ _ ie.size hsz Da
 go_enter func21,ntmps21
 iterate 2 go_step
 refine rp ?_;refine ZM (by rfl) 59 rfl _ V4 ?_;intro g0 z0 n0 r0 k;simp only[Act.put,List.setIfInBounds_toArray,List.set_cons_zero];have b0:w.heap.size<=g0:=n0;clear n0;have sb:=k_b k;clear k;refine Zb ?_;iterate 3 go_step
 refine rp ?_;refine p_v (.agg (Zd 64817)) (ZJ _ _ rfl [(0,.int .u64 64817)] rfl _ (by kernel_rfl)) ?_;simp only[pv];refine p_v _ (Yx 64817 0 rfl rfl rfl) ?_;simp only[pv];refine p_v (.agg (Zd 1815135269)) (ZJ _ _ rfl [(0,.int .u64 1815135269)] rfl _ (by kernel_rfl)) ?_;simp only[pv];refine p_v _ (Yx 1815135269 2 rfl rfl rfl) ?_;simp only[pv];refine p_v (.agg (Zd 487269091447081429)) (ZJ _ _ rfl [(0,.int .u64 487269091447081429)] rfl _ (by kernel_rfl)) ?_;simp only[pv];refine p_v _ (Yx 487269091447081429 2 rfl rfl rfl) ?_;simp only[pv];refine YW (by rfl) 54 106 3 _ rfl (TG 3 (lN otL) Um) ie _ underlying54 hie hz hs1 hs2 [(0,.agg (lkC 64817 0)),(1,.agg (lkC 1815135269 2)),(2,.agg (lkC 487269091447081429 2))] rfl hl ?_;intro gT z1006 n0 rT k;simp only[pv];have d0xT:=l_l r0.lt n0;have bT:=Nat.le_trans sb.size n0;clear n0;replace r0:=k.ro r0;replace sb:=kk sb k;clear k;refine p_v (.agg (Zd 54624333139524128)) (ZJ _ _ rfl [(0,.int .u64 54624333139524128)] rfl _ (by kernel_rfl)) ?_;simp only[pv];refine p_v _ (ZJ _ _ rfl [(0,.slice (some ⟨gT,0,none⟩) 3 3),(1,.agg (Zd otG))] rfl _ (SK _ _ _ _)) ?_;simp only[pv];refine Y5 (by rfl) 59 _ _ rfl _ rfl r0 (paC (some ⟨gT,0,none⟩) 3 3 otG) rfl (by exact YL) (by rfl) (T2 _ _ _ _) ?_;clear r0;intro z1009 r0 k;simp only[Act.put];replace rT:=k.ro rT;replace sb:=kk sb k;clear k;refine Zb ?_;go_wp2;exact Xp rfl _ rfl r0 _ underlying59 (by exact YL) rfl ⟨gT,rfl,bT,rT,sb⟩
theorem Db:Instr.fill (fun i=>some (i*5,5)) ((Array.range (5*5)).map ((Value.agg #[.int .u64 0,.int .u64 0,.int .u64 0,.int .u64 0,.int .i64 0]).cells[· %(Value.agg #[.int .u64 0,.int .u64 0,.int .u64 0,.int .u64 0,.int .i64 0]).cells.size]!)) [(0,.agg (lkC 65519 0)),(1,.agg (lkC 1313918027 2)),(2,.agg (lkC 88175567203779761 2)),(3,.agg (lkC 6353719225633997551192976661815171 2)),(4,.agg (lkC 128868735840905246597005622286753383510486359307609845843856143183 2))]=some (TG 5 (lN grL) Um):=by kernel_rfl
theorem T3 (w:World):
  Calls prog 22 #[] w fun e w'=> ∃g,e= .returned (.agg (paC (some ⟨g,0,none⟩) 5 5 grG))/\w.heap.size<=g/\Row w' g (TG 5 (lN grL) Um) 106/\Below w.heap.size w w':=by
 obtain⟨ie,hie,hz,hsz⟩:=SJ
 have hs1: ¬5*ie.size>2^24:=by rw[hsz];decide
 have hs2: ¬5*ie.size=0:=by rw[hsz];decide
 have hl:=Pc _ _ ie.size hsz Db
 go_enter func22,ntmps22
 iterate 2 go_step
 refine rp ?_;refine ZM (by rfl) 59 rfl _ V4 ?_;intro g0 z0 n0 r0 k;simp only[Act.put,List.setIfInBounds_toArray,List.set_cons_zero];have b0:w.heap.size<=g0:=n0;clear n0;have sb:=k_b k;clear k;refine Zb ?_;iterate 3 go_step
 refine rp ?_;refine p_v (.agg (Zd 65519)) (ZJ _ _ rfl [(0,.int .u64 65519)] rfl _ (by kernel_rfl)) ?_;simp only[pv];refine p_v _ (Yx 65519 0 rfl rfl rfl) ?_;simp only[pv];refine p_v (.agg (Zd 1313918027)) (ZJ _ _ rfl [(0,.int .u64 1313918027)] rfl _ (by kernel_rfl)) ?_;simp only[pv];refine p_v _ (Yx 1313918027 2 rfl rfl rfl) ?_;simp only[pv];refine p_v (.agg (Zd 88175567203779761)) (ZJ _ _ rfl [(0,.int .u64 88175567203779761)] rfl _ (by kernel_rfl)) ?_;simp only[pv];refine p_v _ (Yx 88175567203779761 2 rfl rfl rfl) ?_;simp only[pv];refine p_v (.agg (Zd 6353719225633997551192976661815171)) (ZJ _ _ rfl [(0,.int .u64 15752163429641756547),(1,.int .u64 344435809389764)] rfl _ (by kernel_rfl)) ?_;simp only[pv];refine p_v _ (Yx 6353719225633997551192976661815171 2 rfl rfl rfl) ?_;simp only[pv];refine p_v (.agg (Zd 128868735840905246597005622286753383510486359307609845843856143183)) (ZJ _ _ rfl [(0,.int .u64 3727879549075534671),(1,.int .u64 12844076830096575486),(2,.int .u64 1228573241546452547),(3,.int .u64 20529974)] rfl _ (by kernel_rfl)) ?_;simp only[pv];refine p_v _ (Yx 128868735840905246597005622286753383510486359307609845843856143183 2 rfl rfl rfl) ?_;simp only[pv];refine YW (by rfl) 54 106 5 _ rfl (TG 5 (lN grL) Um) ie _ underlying54 hie hz hs1 hs2 [(0,.agg (lkC 65519 0)),(1,.agg (lkC 1313918027 2)),(2,.agg (lkC 88175567203779761 2)),(3,.agg (lkC 6353719225633997551192976661815171 2)),(4,.agg (lkC 128868735840905246597005622286753383510486359307609845843856143183 2))] rfl hl ?_;intro gT z1010 n0 rT k;simp only[pv];have d0xT:=l_l r0.lt n0;have bT:=Nat.le_trans sb.size n0;clear n0;replace r0:=k.ro r0;replace sb:=kk sb k;clear k;refine p_v (.agg (Zd 9151157341667469615800997130231454865425018181917904921479972729)) (ZJ _ _ rfl [(0,.int .u64 12280068205398558585),(1,.int .u64 6413536983304955349),(2,.int .u64 8741009603146644127),(3,.int .u64 1457863)] rfl _ (by kernel_rfl)) ?_;simp only[pv];refine p_v _ (ZJ _ _ rfl [(0,.slice (some ⟨gT,0,none⟩) 5 5),(1,.agg (Zd grG))] rfl _ (SK _ _ _ _)) ?_;simp only[pv];refine Y5 (by rfl) 59 _ _ rfl _ rfl r0 (paC (some ⟨gT,0,none⟩) 5 5 grG) rfl (by exact YL) (by rfl) (T2 _ _ _ _) ?_;clear r0;intro z1013 r0 k;simp only[Act.put];replace rT:=k.ro rT;replace sb:=kk sb k;clear k;refine Zb ?_;go_wp2;exact Xp rfl _ rfl r0 _ underlying59 (by exact YL) rfl ⟨gT,rfl,bT,rT,sb⟩
def pk {α:Type}(m:Nat)(a b c:α):α:=if m=0 then a else if m=1 then b else c
theorem Ov:(prog.info? 59).map (fun i=>(i.zero,i.size))=some (some (.agg #[.slice none 0 0,.int .u64 0,.int .u64 0,.int .u64 0,.int .u64 0]),5):=by kernel_rfl
theorem Ow: ∃i,prog.info? 59=some i/\i.zero=some (Value.agg #[.slice none 0 0,.int .u64 0,.int .u64 0,.int .u64 0,.int .u64 0])/\i.size=5:=by
 cases hi:prog.info? 59 with
 |none=>have:=Ov;rw[hi]at this;cases this
 |some i=>
  have h:=Ov;rw[hi]at h;simp only[Option.map_some,Option.some.injEq,Prod.mk.injEq]at h;exact⟨i,rfl,h.1,h.2⟩
def Bh (x y z:Option Addr)(n m l X Y Z:Nat):Array Value:=#[.slice x n n,.int .u64 (lm X 0),.int .u64 (lm X 1),.int .u64 (lm X 2),.int .u64 (lm X 3),.slice y m m,.int .u64 (lm Y 0),.int .u64 (lm Y 1),.int .u64 (lm Y 2),.int .u64 (lm Y 3),.slice z l l,.int .u64 (lm Z 0),.int .u64 (lm Z 1),.int .u64 (lm Z 2),.int .u64 (lm Z 3)]
theorem L8 (x y z:Option Addr)(n m l X Y Z:Nat)(k:Nat)(hk:k=5):Instr.fill (fun i=>some (i*k,k)) ((Array.range (3*k)).map ((Value.agg #[.slice none 0 0,.int .u64 0,.int .u64 0,.int .u64 0,.int .u64 0]).cells[· %(Value.agg #[.slice none 0 0,.int .u64 0,.int .u64 0,.int .u64 0,.int .u64 0]).cells.size]!)) [(0,.agg (paC x n n X)),(1,.agg (paC y m m Y)),(2,.agg (paC z l l Z))]=some (Bh x y z n m l X Y Z):=by
 subst hk;unfold paC Bh;generalize lm X 0=a0;generalize lm X 1=a1;generalize lm X 2=a2;generalize lm X 3=a3;generalize lm Y 0=b0;generalize lm Y 1=b1;generalize lm Y 2=b2;generalize lm Y 3=b3;generalize lm Z 0=c0;generalize lm Z 1=c1;generalize lm Z 2=c2;generalize lm Z 3=c3
 kernel_rfl
theorem U2 {c0 c1 c2 c3 c4:Value}{cs:Array Value}{off:Nat}(h0:cs[off]?=some c0)(h1:cs[off+1]?=some c1)(h2:cs[off+2]?=some c2)(h3:cs[off+3]?=some c3)(h4:cs[off+4]?=some c4): ∀j v,[c0,c1,c2,c3,c4][j]?=some v->cs[off+j]?=some v:=by
 intro j v hv
 match j,hv with
 |0,hv=>rw[<-hv];exact h0
 |1,hv=>rw[<-hv];exact h1
 |2,hv=>rw[<-hv];exact h2
 |3,hv=>rw[<-hv];exact h3
 |4,hv=>rw[<-hv];exact h4
 |j+5,hv=>simp at hv
theorem Ox (x y z n m l X Y Z:Nat)(k:Nat)(hk:k<3): ∀j v,(paC (some ⟨pk k x y z,0,none⟩) (pk k n m l) (pk k n m l) (pk k X Y Z)).toList[j]?=some v->(Bh (some ⟨x,0,none⟩) (some ⟨y,0,none⟩) (some ⟨z,0,none⟩) n m l X Y Z)[0+k*5+j]?=some v:=by
 match k,hk with
 |0,_=>exact U2 rfl rfl rfl rfl rfl
 |1,_=>exact U2 rfl rfl rfl rfl rfl
 |2,_=>exact U2 rfl rfl rfl rfl rfl
theorem Fc {w:World}{x y z:Nat}{a b c:Array Value}{t:TypeId}(k:Nat)(h1:Row w x a t)(h2:Row w y b t)(h3:Row w z c t):Row w (pk k x y z) (pk k a b c) t:=by
 unfold pk
 split
 ·exact h1
 ·split
  ·exact h2
  ·exact h3
def ly8 (x:Int):Nat:=(x%256).toNat
theorem Bi (x:Int):ly8 x<256:=by unfold ly8;omega
theorem L9 (x:Int):bits .and .i64 x 255=((ly8 x:Nat):Int):=by
 show IntKind.i64.wrap ((BitVec.ofInt 64 x&&&BitVec.ofInt 64 255).toNat:Int)=_
 have h255:(BitVec.ofInt 64 255).toNat=2^8-1:=by decide
 rw[BitVec.toNat_and,h255,Nat.and_two_pow_sub_one_eq_mod,BitVec.toNat_ofInt]
 have e:(x%((2^64:Nat):Int)).toNat%2^8=ly8 x:=by
  unfold ly8;omega
 rw[e];exact wrap_i64 _ (by have:=Bi x;omega)
theorem A4 (m:Nat):grN (pk m 3 3 5) (lN (pk m leL otL grL)) Um (pk m leG otG grG)=true/\(∀i,i<pk m 3 3 5->lN (pk m leL otL grL) i<2^256)/\pk m leG otG grG<2^256/\2<=pk m 3 3 5/\pk m 3 3 5<9223372036854775808/\pk m (TG 3 (lN leL) Um) (TG 3 (lN otL) Um) (TG 5 (lN grL) Um)=TG (pk m 3 3 5) (lN (pk m leL otL grL)) Um:=by
 unfold pk
 split
 ·exact⟨SG,E8,by decide,by decide,by decide,rfl⟩
 ·split
  ·exact⟨Oo,Be,by decide,by decide,by decide,rfl⟩
  ·exact⟨Iw,A3,by decide,by decide,by decide,rfl⟩
end Go.Proofs.YtnagnkhbamhfmaaGreatDoor
