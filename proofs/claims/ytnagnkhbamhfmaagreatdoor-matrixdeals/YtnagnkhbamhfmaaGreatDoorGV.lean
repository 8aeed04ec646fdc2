import Derived.Test.YtnagnkhbamhfmaaGreatDoorGY
set_option maxRecDepth 100000
set_option maxHeartbeats 8000000
namespace Go.Proofs.YtnagnkhbamhfmaaGreatDoor
set_option linter.all false
open Go.Proofs.Tryz
open Go.RowKit
def dcN (l:List UInt8):Nat->Nat
 |0=>0
 |k+1=>dcN l k*2^3+dcN l k*2^1+(yb l k-48)
def sxC (n:Nat)(f:Nat->List UInt8):Array Value:=Array.ofFn (n:=n) fun i=>.string ⟨(f i).toArray⟩
theorem Vg:(prog.info? 3).map (·.size)=some 1:=by kernel_rfl
def upN (V:Nat->Nat)(k i:Nat):Nat:=if i<k then V i else 0
def upZ (V:Nat->Int)(k i:Nat):Int:=if i<k then V i else 0
def DigS (l:List UInt8):Prop:=l.length<9223372036854775808/\ ∀i,i<l.length->48<=yb l i
def dig? (l:List UInt8):Bool:=l.all fun b=>decide (48<=b.toNat)
def dcF:List UInt8->Nat->Nat
 |[],n=>n
 |b::l,n=>dcF l (n*10+(b.toNat-48))
def leS:List UInt8:=[51,49,54,53,52,51,55,55,49,52,51,57,55,56,48,57,56,52]
def leT:List (List UInt8):=[[54,53,53,50,49],[49,57,54,54,48,50,51,49,50,55],[49,48,53,53,53,48,48,54,56,48,51,50,50,49,56,51,49,50,55]]
def leF (i:Nat):List UInt8:=leT.getD i []
theorem zl (i:Nat)(h:i<3):lN leL i<2^256:=by
 match i,h with
 |0,_=>decide
 |1,_=>decide
 |2,_=>decide
def otS:List UInt8:=[53,52,54,50,52,51,51,51,49,51,57,53,50,52,49,50,56]
def otT:List (List UInt8):=[[54,52,56,49,55],[49,56,49,53,49,51,53,50,54,57],[52,56,55,50,54,57,48,57,49,52,52,55,48,56,49,52,50,57]]
def otF (i:Nat):List UInt8:=otT.getD i []
theorem xq (i:Nat)(h:i<3):lN otL i<2^256:=by
 match i,h with
 |0,_=>decide
 |1,_=>decide
 |2,_=>decide
def grS:List UInt8:=[57,49,53,49,49,53,55,51,52,49,54,54,55,52,54,57,54,49,53,56,48,48,57,57,55,49,51,48,50,51,49,52,53,52,56,54,53,52,50,53,48,49,56,49,56,49,57,49,55,57,48,52,57,50,49,52,55,57,57,55,50,55,50,57]
def grT:List (List UInt8):=[[54,53,53,49,57],[49,51,49,51,57,49,56,48,50,55],[56,56,49,55,53,53,54,55,50,48,51,55,55,57,55,54,49],[54,51,53,51,55,49,57,50,50,53,54,51,51,57,57,55,53,53,49,49,57,50,57,55,54,54,54,49,56,49,53,49,55,49],[49,50,56,56,54,56,55,51,53,56,52,48,57,48,53,50,52,54,53,57,55,48,48,53,54,50,50,50,56,54,55,53,51,51,56,51,53,49,48,52,56,54,51,53,57,51,48,55,54,48,57,56,52,53,56,52,51,56,53,54,49,52,51,49,56,51]]
def grF (i:Nat):List UInt8:=grT.getD i []
section
variable {P:Program}{o:Oper}{ρ:Operand->Value}
theorem EM (t:TypeId)(x y:Operand)(u:TypeId)(ho:o.op= .binOp .sub t x y u)(n m r:Int)(hx:ρ x= .int .i64 n)(hy:ρ y= .int .i64 m)(hr:IntKind.i64.wrap (n-m)=r)(w:World):
  (execOp ρ o).run P w= .ok (.value (.int .i64 r)) w:=by
 subst hr;unfold execOp;simp only[ho,hx,hy];simp[go_sem]
end
def wS (Q:Nat):Int:=((bitLen Q:Int)-1).tdiv 8
def Oi (w:World)(v:Option Addr)(P Q G:Nat)(r f:Option Addr):Prop:=(v=none/\P=0/\Q=0/\G=0/\r=none/\f=none)∨ ∃g,v=some ⟨g,0,none⟩/\Row w g (gpC P Q G r f) 70
theorem Oi.below {w w':World}{v:Option Addr}{P Q G:Nat}{r f:Option Addr}(h:Oi w v P Q G r f)(hb:Below w.heap.size w w'):Oi w' v P Q G r f:=h.imp id fun⟨g,h1,h2⟩=>⟨g,h1,h2.belowAll hb⟩
theorem GrpAt.kn {w:World}{g gr gf P Q G:Nat}(h:GrpAt w g gr gf P Q G):Oi w (some ⟨g,0,none⟩) P Q G (some ⟨gr,0,none⟩) (some ⟨gf,0,none⟩):=.inr ⟨g,rfl,h.row⟩
theorem Jd:prog.underlying 25=some (.pointer (prog.pointee 25)):=by kernel_rfl
theorem GO (w:World):
  Calls prog 141 #[.pointer none] w fun e w'=>e= .returned (.agg (gpC 0 0 0 none none))/\Below w.heap.size w w':=by
 go_enter func141,ntmps141
 iterate 2 go_step
 refine rp ?_;refine ZT (by rfl) 70 rfl _ Ja ?_;intro g2 z0 n0 r2 k;simp only[pv];have b2:w.heap.size<=g2:=n0;clear n0;have sb:=k_b k;clear k;refine Zb ?_;iterate 4 go_step
 refine rp ?_;refine p_m ?_;simp only[pv];refine p_v _ (WI _ _ _ _ rfl none rfl rfl Jd) (Zb ?_);simp only[pv];iterate 4 go_step
 refine rp ?_;refine p_v _ (ZE _ rfl _ Jb) ?_;simp only[pv];refine Xg (by rfl) 70 _ _ rfl _ rfl r2 (gpC 0 0 0 none none) rfl (by exact TN) (by rfl) (EL _ _ _ _ _) ?_;clear r2;intro z2001 r2 k;simp only[Act.put];replace sb:=kk sb k;clear k;refine Zb ?_;go_wp2;exact XL rfl _ rfl r2 _ underlying70 (by exact TN) rfl ⟨rfl,sb⟩
theorem Je (g5 P Q G:Nat)(r f:Option Addr)(w:World)(r5:Row w g5 (gpC P Q G r f) 70):
  Calls prog 141 #[.pointer (some ⟨g5,0,none⟩)] w fun e w'=>e= .returned (.agg (gpC P Q G r f))/\Below w.heap.size w w':=by
 go_enter func141,ntmps141
 iterate 2 go_step
 refine rp ?_;refine ZT (by rfl) 70 rfl _ Ja ?_;intro g2 z0 n0 r2 k;simp only[pv];have d5x2:=l_l r5.lt n0;have b2:w.heap.size<=g2:=n0;clear n0;replace r5:=k.ro r5;have sb:=k_b k;clear k;refine Zb ?_;iterate 4 go_step
 refine rp ?_;refine p_m ?_;simp only[pv];refine p_v _ (WI _ _ _ _ rfl (some ⟨g5,0,none⟩) rfl rfl Jd) (Zb ?_);simp only[pv];iterate 7 go_step
 refine rp ?_;refine p_m ?_;simp only[pv];refine p_v (.pointer (some ⟨g5,0,none⟩)) (Yf _ rfl g5 0 rfl) ?_;simp only[pv];refine ZJ (by rfl) 70 _ rfl _ 0 rfl r5.r _ (Yi _) _ underlying70 rfl TN ?_;simp only[pv];refine Xg (by rfl) 70 _ _ rfl _ rfl r2 (gpC P Q G r f) rfl (by exact TN) (by rfl) (EL _ _ _ _ _) ?_;clear r2;intro z3003 r2 k;simp only[Act.put];replace r5:=k.ro r5;replace sb:=kk sb k;clear k;refine Zb ?_;go_wp2;exact XL rfl _ rfl r2 _ underlying70 (by exact TN) rfl ⟨rfl,sb⟩
theorem Uj (v:Option Addr)(P Q G:Nat)(r f:Option Addr)(w:World)(h:Oi w v P Q G r f):
  Calls prog 141 #[.pointer v] w (Rt (.agg (gpC P Q G r f)) w):=by
 rcases h with ⟨rfl,rfl,rfl,rfl,rfl,rfl⟩|⟨g,rfl,hr⟩
 ·exact GO w
 ·exact Je g P Q G r f w hr
theorem Uk (v:Option Addr)(P Q G:Nat)(r f:Option Addr)(w:World)(h:Oi w v P Q G r f):
  Calls prog 143 #[.pointer v] w fun e w'=>e= .returned (.agg (Zc Q))/\Below w.heap.size w w':=by
 have hkn:=fun w' (hb:Below w.heap.size w w')=>Uj v P Q G r f w' (h.below hb)
 clear h
 go_enter func143,ntmps143
 iterate 2 go_step
 refine rp ?_;refine ZT (by rfl) 57 rfl _ Zp ?_;intro g2 z0 n0 r2 k;simp only[pv];have b2:w.heap.size<=g2:=n0;clear n0;have sb:=k_b k;clear k;refine Zb ?_;iterate 3 go_step
 refine rp ?_;refine p_m ?_;simp only[pv];refine p_c 141 func141 #[.pointer v] (hkn _ sb) ?_;intro z1001 k;simp only[pv];replace r2:=k.ro r2;replace sb:=kk sb k;clear k;refine p_v _ (XH _ _ _ rfl _ _ rfl (Jc P Q G r f)) ?_;simp only[pv];refine p_v _ (XH _ _ _ rfl _ _ rfl (xm P Q G)) ?_;simp only[pv];refine p_p r2 Q ?_;clear r2;intro z1004 r2 k;simp only[Act.put];replace sb:=kk sb k;clear k;refine Zb ?_;go_wp2;exact ZM rfl _ rfl r2 4 _ b_ (by exact Zd) rfl ⟨rfl,sb⟩
theorem GP (v:Option Addr)(P Q G:Nat)(r f:Option Addr)(w:World)(h:Oi w v P Q G r f):
  Calls prog 132 #[.pointer v] w fun e w'=>e= .returned (.agg (Zc G))/\Below w.heap.size w w':=by
 have hkn:=fun w' (hb:Below w.heap.size w w')=>Uj v P Q G r f w' (h.below hb)
 clear h
 go_enter func132,ntmps132
 iterate 2 go_step
 refine rp ?_;refine ZT (by rfl) 57 rfl _ Zp ?_;intro g2 z0 n0 r2 k;simp only[pv];have b2:w.heap.size<=g2:=n0;clear n0;have sb:=k_b k;clear k;refine Zb ?_;iterate 3 go_step
 refine rp ?_;refine p_m ?_;simp only[pv];refine p_c 141 func141 #[.pointer v] (hkn _ sb) ?_;intro z1001 k;simp only[pv];replace r2:=k.ro r2;replace sb:=kk sb k;clear k;refine p_v _ (XH _ _ _ rfl _ _ rfl (Jc P Q G r f)) ?_;simp only[pv];refine p_v _ (XH _ _ _ rfl _ _ rfl (xn P Q G)) ?_;simp only[pv];refine p_p r2 G ?_;clear r2;intro z1004 r2 k;simp only[Act.put];replace sb:=kk sb k;clear k;refine Zb ?_;go_wp2;exact ZM rfl _ rfl r2 4 _ b_ (by exact Zd) rfl ⟨rfl,sb⟩
theorem WM (v:Option Addr)(P Q G:Nat)(r f:Option Addr)(w:World)(h:Oi w v P Q G r f):
  Calls prog 167 #[.pointer v] w fun e w'=>e= .returned (.pointer r)/\Below w.heap.size w w':=by
 have hkn:=fun w' (hb:Below w.heap.size w w')=>Uj v P Q G r f w' (h.below hb)
 clear h
 go_enter func167,ntmps167
 have sb:=H_ w.heap.size w;iterate 2 go_step
 refine rp ?_;refine p_v (.pointer none) (fun _=>rfl) (Zb ?_);simp only[pv];iterate 3 go_step
 refine rp ?_;refine p_m ?_;simp only[pv];refine p_c 141 func141 #[.pointer v] (hkn _ sb) ?_;intro z1001 k;simp only[pv];replace sb:=kk sb k;clear k;refine p_v _ (XH _ _ _ rfl _ _ rfl (C4 P Q G r f)) ?_;refine p_a (Zb ?_);simp only[pv];go_wp2;go_ret;exact⟨rfl,sb⟩
theorem YF (v:Option Addr)(P Q G:Nat)(r f:Option Addr)(w:World)(h:Oi w v P Q G r f):
  Calls prog 98 #[.pointer v] w fun e w'=>e= .returned (.pointer f)/\Below w.heap.size w w':=by
 have hkn:=fun w' (hb:Below w.heap.size w w')=>Uj v P Q G r f w' (h.below hb)
 clear h
 go_enter func98,ntmps98
 have sb:=H_ w.heap.size w;iterate 2 go_step
 refine rp ?_;refine p_v (.pointer none) (fun _=>rfl) (Zb ?_);simp only[pv];iterate 3 go_step
 refine rp ?_;refine p_m ?_;simp only[pv];refine p_c 141 func141 #[.pointer v] (hkn _ sb) ?_;intro z1001 k;simp only[pv];replace sb:=kk sb k;clear k;refine p_v _ (XH _ _ _ rfl _ _ rfl (GL P Q G r f)) ?_;refine p_a (Zb ?_);simp only[pv];go_wp2;go_ret;exact⟨rfl,sb⟩
theorem zm (n c:Nat)(ab:Option Addr)(G:Nat)(N:Nat->Nat)(A:Nat->Int)(gb ob:Nat)(bcs:Array Value)(tb:TypeId)(w:World)(h2:2<=n)(hn:n<9223372036854775808)(hL:LinksAt w ab n N A gb ob bcs tb):
  Calls prog 75 #[.agg (paC ab n c G)] w fun e w'=>e= .returned (.agg (Zc (N (n-1))))/\Below w.heap.size w w':=by
 obtain h0|⟨rfl,rB,hat⟩:=hL.at'
 ·omega
 have h1:=hat (n-1) (by omega);clear hL hat;generalize N (n-1)=P at*;generalize A (n-1)=zp at*
 go_enter func75,ntmps75
 iterate 2 go_step
 refine rp ?_;refine ZO (by rfl) 59 _ rfl (_) rfl ?_;intro g1 z0 n0 r1 k;simp only[pv];have b1:w.heap.size<=g1:=n0;clear n0;have sb:=k_b k;clear k;refine ZT (by rfl) 57 rfl _ Zp ?_;intro g2 z1 n0 r2 k;simp only[pv];have d1x2:=l_l r1.lt n0;have b2:=f_ sb.size n0;clear n0;replace r1:=k.ro r1;replace sb:=kk sb k;clear k;refine Zb ?_;replace rB:=rB.belowAll sb;iterate 4 go_step
 refine rp ?_;refine p_v _ (Zh 59 _ 0 rfl g1 0 rfl _ aY0 _ rfl 0 gP0) ?_;simp only[pv];refine p_d 0 r1.r (.slice (some ⟨gb,ob,none⟩) n c) rfl hZ0 ?_;simp only[pv];refine p_v _ (n_l (some ⟨gb,ob,none⟩) n c WL) ?_;refine p_v _ (Xe n 2) (Zb ?_);simp only[pv];iterate 7 go_step
 refine rp ?_;refine p_v _ (Zh 59 _ 0 rfl g1 0 rfl _ aY0 _ rfl 0 gP0) ?_;simp only[pv];refine p_d 0 r1.r (.slice (some ⟨gb,ob,none⟩) n c) rfl hZ0 ?_;simp only[pv];refine p_v _ (Zh 59 _ 0 rfl g1 0 rfl _ aY0 _ rfl 0 gP0) ?_;simp only[pv];refine p_d 0 r1.r (.slice (some ⟨gb,ob,none⟩) n c) rfl hZ0 ?_;simp only[pv];refine p_v _ (n_l (some ⟨gb,ob,none⟩) n c WL) ?_;simp only[pv];refine p_v _ (Z2 _ _ _ _ rfl n 1 rfl rfl (by omega) hn) ?_;simp only[pv];refine p_v _ (Zw 54 _ _ rfl gb ob n c rfl (n-1) rfl (by omega) _ dZ0 5 hH0) ?_;simp only[pv];refine p_v _ (Zh 106 _ 0 rfl gb (ob+(n-1)*5) rfl _ dF0 _ rfl 3 bJ0) ?_;simp only[pv];refine ZJ (by rfl) 57 _ rfl _ (ob+(n-1)*5) rfl rB (Zc P) (UI h1) _ b_ rfl Zd ?_;simp only[pv];refine p_p r2 P ?_;clear r2;intro z3009 r2 k;simp only[Act.put];replace r1:=k.ro r1;replace sb:=kk sb k;clear k;refine Zb ?_;go_wp2;exact ZM rfl _ rfl r2 4 _ b_ (by exact Zd) rfl ⟨rfl,sb⟩
theorem zn (n c:Nat)(ab:Option Addr)(G:Nat)(N:Nat->Nat)(A:Nat->Int)(gb ob:Nat)(bcs:Array Value)(tb:TypeId)(w:World)(h2:2<=n)(hn:n<9223372036854775808)(hL:LinksAt w ab n N A gb ob bcs tb):
  Calls prog 76 #[.agg (paC ab n c G)] w fun e w'=>e= .returned (.agg (Zc (N (n-2))))/\Below w.heap.size w w':=by
 obtain h0|⟨rfl,rB,hat⟩:=hL.at'
 ·omega
 have h1:=hat (n-2) (by omega);clear hL hat;generalize N (n-2)=P at*;generalize A (n-2)=zp at*
 go_enter func76,ntmps76
 iterate 2 go_step
 refine rp ?_;refine ZO (by rfl) 59 _ rfl (_) rfl ?_;intro g1 z0 n0 r1 k;simp only[pv];clear n0;have sb:=k_b k;clear k;refine ZT (by rfl) 57 rfl _ Zp ?_;intro g2 z1 n0 r2 k;simp only[pv];have d1x2:=l_l r1.lt n0;have b2:=f_ sb.size n0;clear n0;replace r1:=k.ro r1;replace sb:=kk sb k;clear k;refine Zb ?_;replace rB:=rB.belowAll sb;iterate 4 go_step
 refine rp ?_;refine p_v _ (Zh 59 _ 0 rfl g1 0 rfl _ aY0 _ rfl 0 gP0) ?_;simp only[pv];refine p_d 0 r1.r (.slice (some ⟨gb,ob,none⟩) n c) rfl hZ0 ?_;simp only[pv];refine p_v _ (n_l (some ⟨gb,ob,none⟩) n c WL) ?_;refine p_v _ (Xe n 2) (Zb ?_);simp only[pv];iterate 7 go_step
 refine rp ?_;refine p_v _ (Zh 59 _ 0 rfl g1 0 rfl _ aY0 _ rfl 0 gP0) ?_;simp only[pv];refine p_d 0 r1.r (.slice (some ⟨gb,ob,none⟩) n c) rfl hZ0 ?_;simp only[pv];refine p_v _ (Zh 59 _ 0 rfl g1 0 rfl _ aY0 _ rfl 0 gP0) ?_;simp only[pv];refine p_d 0 r1.r (.slice (some ⟨gb,ob,none⟩) n c) rfl hZ0 ?_;simp only[pv];refine p_v _ (n_l (some ⟨gb,ob,none⟩) n c WL) ?_;simp only[pv];refine p_v _ (Z2 _ _ _ _ rfl n 2 rfl rfl (by omega) hn) ?_;simp only[pv];refine p_v _ (Zw 54 _ _ rfl gb ob n c rfl (n-2) rfl (by omega) _ dZ0 5 hH0) ?_;simp only[pv];refine p_v _ (Zh 106 _ 0 rfl gb (ob+(n-2)*5) rfl _ dF0 _ rfl 3 bJ0) ?_;simp only[pv];refine ZJ (by rfl) 57 _ rfl _ (ob+(n-2)*5) rfl rB (Zc P) (UI h1) _ b_ rfl Zd ?_;simp only[pv];refine p_p r2 P ?_;clear r2;intro z3009 r2 k;simp only[Act.put];replace r1:=k.ro r1;replace sb:=kk sb k;clear k;refine Zb ?_;go_wp2;exact ZM rfl _ rfl r2 4 _ b_ (by exact Zd) rfl ⟨rfl,sb⟩
theorem Jf {n:Nat}(vs:List (Nat×Value))(c:Array Value)(k:Nat)(hk:k=5)(h:Instr.fill (fun i=>some (i*5,5)) ((Array.range (n*5)).map ((Value.agg #[.int .u64 0,.int .u64 0,.int .u64 0,.int .u64 0,.int .i64 0]).cells[· %(Value.agg #[.int .u64 0,.int .u64 0,.int .u64 0,.int .u64 0,.int .i64 0]).cells.size]!)) vs=some c):
  Instr.fill (fun i=>some (i*k,k)) ((Array.range (n*k)).map ((Value.agg #[.int .u64 0,.int .u64 0,.int .u64 0,.int .u64 0,.int .i64 0]).cells[· %(Value.agg #[.int .u64 0,.int .u64 0,.int .u64 0,.int .u64 0,.int .i64 0]).cells.size]!)) vs=some c:=by
 subst hk;exact h
theorem C7:Instr.fill (fun i=>some (i*5,5)) ((Array.range (3*5)).map ((Value.agg #[.int .u64 0,.int .u64 0,.int .u64 0,.int .u64 0,.int .i64 0]).cells[· %(Value.agg #[.int .u64 0,.int .u64 0,.int .u64 0,.int .u64 0,.int .i64 0]).cells.size]!)) [(0,.agg (lkC 65521 0)),(1,.agg (lkC 1966023127 2)),(2,.agg (lkC 1055500680322183127 2))]=some (Og 3 (lN leL) Pz):=by kernel_rfl
theorem MU (w:World):
  Calls prog 20 #[] w fun e w'=> ∃g,e= .returned (.agg (paC (some ⟨g,0,none⟩) 3 3 leG))/\w.heap.size<=g/\Row w' g (Og 3 (lN leL) Pz) 106/\Below w.heap.size w w':=by
 obtain⟨ie,hie,hz,hsz⟩:=Nt
 have hs1: ¬3*ie.size>2^24:=by rw[hsz];decide
 have hs2: ¬3*ie.size=0:=by rw[hsz];decide
 have hl:=Jf _ _ ie.size hsz C7
 go_enter func20,ntmps20
 iterate 2 go_step
 refine rp ?_;refine ZT (by rfl) 59 rfl _ TL ?_;intro g0 z0 n0 r0 k;simp only[Act.put,aA0,bT0];have b0:w.heap.size<=g0:=n0;clear n0;have sb:=k_b k;clear k;refine Zb ?_;iterate 3 go_step
 refine rp ?_;refine p_v (.agg (Zc 65521)) (Z3 _ _ rfl [(0,.int .u64 65521)] rfl _ (by kernel_rfl)) ?_;simp only[pv];refine p_v _ (X5 65521 0 rfl rfl rfl) ?_;simp only[pv];refine p_v (.agg (Zc 1966023127)) (Z3 _ _ rfl [(0,.int .u64 1966023127)] rfl _ (by kernel_rfl)) ?_;simp only[pv];refine p_v _ (X5 1966023127 2 rfl rfl rfl) ?_;simp only[pv];refine p_v (.agg (Zc 1055500680322183127)) (Z3 _ _ rfl [(0,.int .u64 1055500680322183127)] rfl _ (by kernel_rfl)) ?_;simp only[pv];refine p_v _ (X5 1055500680322183127 2 rfl rfl rfl) ?_;simp only[pv];refine Wb (by rfl) 54 106 3 _ rfl (Og 3 (lN leL) Pz) ie _ dZ0 hie hz hs1 hs2 [(0,.agg (lkC 65521 0)),(1,.agg (lkC 1966023127 2)),(2,.agg (lkC 1055500680322183127 2))] rfl hl ?_;intro gT z1006 n0 rT k;simp only[pv];have d0xT:=l_l r0.lt n0;have bT:=f_ sb.size n0;clear n0;replace r0:=k.ro r0;replace sb:=kk sb k;clear k;refine p_v (.agg (Zc 316543771439780984)) (Z3 _ _ rfl [(0,.int .u64 316543771439780984)] rfl _ (by kernel_rfl)) ?_;simp only[pv];refine p_v _ (Z3 _ _ rfl [(0,.slice (some ⟨gT,0,none⟩) 3 3),(1,.agg (Zc leG))] rfl _ (Nu _ _ _ _)) ?_;simp only[pv];refine Xg (by rfl) 59 _ _ rfl _ rfl r0 (paC (some ⟨gT,0,none⟩) 3 3 leG) rfl (by exact Xy) (by rfl) (QR _ _ _ _) ?_;clear r0;intro z1009 r0 k;simp only[Act.put];replace rT:=k.ro rT;replace sb:=kk sb k;clear k;refine Zb ?_;go_wp2;exact XL rfl _ rfl r0 _ aY0 (by exact Xy) rfl ⟨gT,rfl,bT,rT,sb⟩
theorem C8:Instr.fill (fun i=>some (i*5,5)) ((Array.range (3*5)).map ((Value.agg #[.int .u64 0,.int .u64 0,.int .u64 0,.int .u64 0,.int .i64 0]).cells[· %(Value.agg #[.int .u64 0,.int .u64 0,.int .u64 0,.int .u64 0,.int .i64 0]).cells.size]!)) [(0,.agg (lkC 64817 0)),(1,.agg (lkC 1815135269 2)),(2,.agg (lkC 487269091447081429 2))]=some (Og 3 (lN otL) Pz):=by kernel_rfl
theorem MV (w:World):
  Calls prog 21 #[] w fun e w'=> ∃g,e= .returned (.agg (paC (some ⟨g,0,none⟩) 3 3 otG))/\w.heap.size<=g/\Row w' g (Og 3 (lN otL) Pz) 106/\Below w.heap.size w w':=by
 obtain⟨ie,hie,hz,hsz⟩:=Nt
 have hs1: ¬3*ie.size>2^24:=by rw[hsz];decide
 have hs2: ¬3*ie.size=0:=by rw[hsz];decide
 have hl:=Jf _ _ ie.size hsz C8
 go_enter func21,ntmps21
 iterate 2 go_step
 refine rp ?_;refine ZT (by rfl) 59 rfl _ TL ?_;intro g0 z0 n0 r0 k;simp only[Act.put,aA0,bT0];have b0:w.heap.size<=g0:=n0;clear n0;have sb:=k_b k;clear k;refine Zb ?_;iterate 3 go_step
 refine rp ?_;refine p_v (.agg (Zc 64817)) (Z3 _ _ rfl [(0,.int .u64 64817)] rfl _ (by kernel_rfl)) ?_;simp only[pv];refine p_v _ (X5 64817 0 rfl rfl rfl) ?_;simp only[pv];refine p_v (.agg (Zc 1815135269)) (Z3 _ _ rfl [(0,.int .u64 1815135269)] rfl _ (by kernel_rfl)) ?_;simp only[pv];refine p_v _ (X5 1815135269 2 rfl rfl rfl) ?_;simp only[pv];refine p_v (.agg (Zc 487269091447081429)) (Z3 _ _ rfl [(0,.int .u64 487269091447081429)] rfl _ (by kernel_rfl)) ?_;simp only[pv];refine p_v _ (X5 487269091447081429 2 rfl rfl rfl) ?_;simp only[pv];refine Wb (by rfl) 54 106 3 _ rfl (Og 3 (lN otL) Pz) ie _ dZ0 hie hz hs1 hs2 [(0,.agg (lkC 64817 0)),(1,.agg (lkC 1815135269 2)),(2,.agg (lkC 487269091447081429 2))] rfl hl ?_;intro gT z1006 n0 rT k;simp only[pv];have d0xT:=l_l r0.lt n0;have bT:=f_ sb.size n0;clear n0;replace r0:=k.ro r0;replace sb:=kk sb k;clear k;refine p_v (.agg (Zc 54624333139524128)) (Z3 _ _ rfl [(0,.int .u64 54624333139524128)] rfl _ (by kernel_rfl)) ?_;simp only[pv];refine p_v _ (Z3 _ _ rfl [(0,.slice (some ⟨gT,0,none⟩) 3 3),(1,.agg (Zc otG))] rfl _ (Nu _ _ _ _)) ?_;simp only[pv];refine Xg (by rfl) 59 _ _ rfl _ rfl r0 (paC (some ⟨gT,0,none⟩) 3 3 otG) rfl (by exact Xy) (by rfl) (QR _ _ _ _) ?_;clear r0;intro z1009 r0 k;simp only[Act.put];replace rT:=k.ro rT;replace sb:=kk sb k;clear k;refine Zb ?_;go_wp2;exact XL rfl _ rfl r0 _ aY0 (by exact Xy) rfl ⟨gT,rfl,bT,rT,sb⟩
def pk {α:Type}(m:Nat)(a b c:α):α:=if m=0 then a else if m=1 then b else c
def pasC (x y z:Option Addr)(n m l X Y Z:Nat):Array Value:=#[.slice x n n,.int .u64 (lm X 0),.int .u64 (lm X 1),.int .u64 (lm X 2),.int .u64 (lm X 3),.slice y m m,.int .u64 (lm Y 0),.int .u64 (lm Y 1),.int .u64 (lm Y 2),.int .u64 (lm Y 3),.slice z l l,.int .u64 (lm Z 0),.int .u64 (lm Z 1),.int .u64 (lm Z 2),.int .u64 (lm Z 3)]
def ly8 (x:Int):Nat:=(x%256).toNat
end Go.Proofs.YtnagnkhbamhfmaaGreatDoor
