import Derived.Test.YtobblihganocoaaGreatDoorGY
set_option maxRecDepth 100000
set_option maxHeartbeats 2000000
namespace Go.Proofs.YtobblihganocoaaGreatDoor
open Go.Proofs.Tryz
set_option linter.unusedVariables false
open Go.RowKit
def dcN (l:List UInt8):Nat->Nat
 |0=>0
 |k+1=>dcN l k*2^3+dcN l k*2^1+(yb l k-48)
def sxC (n:Nat)(f:Nat->List UInt8):Array Value:=Array.ofFn (n:=n) fun i=>.string ⟨(f i).toArray⟩
theorem V1:(Tryz.prog.info? 3).map (·.size)=some 1:=by kernel_rfl
def upN (V:Nat->Nat)(k i:Nat):Nat:=if i<k then V i else 0
def upZ (V:Nat->Int)(k i:Nat):Int:=if i<k then V i else 0
def DigS (l:List UInt8):Prop:=l.length<9223372036854775808/\ ∀i,i<l.length->48<=yb l i
def dig? (l:List UInt8):Bool:=l.all fun b=>decide (48<=b.toNat)
def dcF:List UInt8->Nat->Nat
 |[],n=>n
 |b::l,n=>dcF l (n*10+(b.toNat-48))
def leS:List UInt8:=[51,49,54,53,52,51,55,55,49,52,51,57,55,56,48,57,56,52]
def leT:List (List UInt8):=[[54,53,53,50,49],[49,57,54,54,48,50,51,49,50,55],[49,48,53,53,53,48,48,54,56,48,51,50,50,49,56,51,49,50,55]]
def leF (i:Nat):List UInt8:=leT.getD i []
theorem Ax (i:Nat)(h:i<3):lN leL i<2^256:=by
 match i,h with
 |0,_=>decide
 |1,_=>decide
 |2,_=>decide
def otS:List UInt8:=[53,52,54,50,52,51,51,51,49,51,57,53,50,52,49,50,56]
def otT:List (List UInt8):=[[54,52,56,49,55],[49,56,49,53,49,51,53,50,54,57],[52,56,55,50,54,57,48,57,49,52,52,55,48,56,49,52,50,57]]
def otF (i:Nat):List UInt8:=otT.getD i []
theorem yA (i:Nat)(h:i<3):lN otL i<2^256:=by
 match i,h with
 |0,_=>decide
 |1,_=>decide
 |2,_=>decide
def grS:List UInt8:=[57,49,53,49,49,53,55,51,52,49,54,54,55,52,54,57,54,49,53,56,48,48,57,57,55,49,51,48,50,51,49,52,53,52,56,54,53,52,50,53,48,49,56,49,56,49,57,49,55,57,48,52,57,50,49,52,55,57,57,55,50,55,50,57]
def grT:List (List UInt8):=[[54,53,53,49,57],[49,51,49,51,57,49,56,48,50,55],[56,56,49,55,53,53,54,55,50,48,51,55,55,57,55,54,49],[54,51,53,51,55,49,57,50,50,53,54,51,51,57,57,55,53,53,49,49,57,50,57,55,54,54,54,49,56,49,53,49,55,49],[49,50,56,56,54,56,55,51,53,56,52,48,57,48,53,50,52,54,53,57,55,48,48,53,54,50,50,50,56,54,55,53,51,51,56,51,53,49,48,52,56,54,51,53,57,51,48,55,54,48,57,56,52,53,56,52,51,56,53,54,49,52,51,49,56,51]]
def grF (i:Nat):List UInt8:=grT.getD i []
section
variable {P:Program}{o:Oper}{ρ:Operand->Value}
theorem Eg (t:TypeId)(x y:Operand)(u:TypeId)(ho:o.op= .binOp .sub t x y u)(n m r:Int)(hx:ρ x= .int .i64 n)(hy:ρ y= .int .i64 m)(hr:IntKind.i64.wrap (n-m)=r)(w:World):
  (execOp ρ o).run P w= .ok (.value (.int .i64 r)) w:=by
 subst hr
 unfold execOp
 simp only[ho,hx,hy]
 simp[go_sem]
end
def xJ (Q:Nat):Int:=((bitLen Q:Int)-1).tdiv 8
def PZ (w:World)(v:Option Addr)(P Q G:Nat)(r f:Option Addr):Prop:=(v=none/\P=0/\Q=0/\G=0/\r=none/\f=none)∨ ∃g,v=some ⟨g,0,none⟩/\Row w g (gpC P Q G r f) 75
theorem PZ.below {w w':World}{v:Option Addr}{P Q G:Nat}{r f:Option Addr}(h:PZ w v P Q G r f)(hb:Below w.heap.size w w'):PZ w' v P Q G r f:=h.imp id fun⟨g,h1,h2⟩=>⟨g,h1,h2.belowAll hb⟩
theorem GrpAt.kn {w:World}{g gr gf P Q G:Nat}(h:GrpAt w g gr gf P Q G):PZ w (some ⟨g,0,none⟩) P Q G (some ⟨gr,0,none⟩) (some ⟨gf,0,none⟩):=.inr ⟨g,rfl,h.row⟩
theorem KD:Tryz.prog.underlying 35=some (.pointer (Tryz.prog.pointee 35)):=by kernel_rfl
theorem H3 (w:World):
  Calls Tryz.prog 162 #[.pointer none] w fun e w'=>e= .returned (.agg (gpC 0 0 0 none none))/\Below w.heap.size w w':=by
 go_enter func162,ntmps162
 iterate 2 go_step
 refine rp ?_;refine ZN (by rfl) 75 rfl _ Kz ?_;intro g2 z0 n0 r2 k;refine p_W ?_
 have b2:w.heap.size<=g2:=n0
 clear n0
 have sb:=k_b k
 clear k;refine p_W ?_
 iterate 4 go_step
 refine r_p ?_;refine p_V _ (WC _ _ _ _ rfl none rfl rfl KD) ?_
 iterate 4 go_step
 refine rp ?_;refine p_V _ (ZI _ rfl _ KA) ?_;refine Xr (by rfl) 75 _ _ rfl _ rfl r2 (gpC 0 0 0 none none) rfl (by exact Tv) (by rfl) (Ef _ _ _ _ _) ?_;clear r2;intro z2001 r2 k;simp only[Act.put];replace sb:=kk sb k;clear k;refine p_W ?_
 go_wp2
 exact XK rfl _ rfl r2 _ underlying75 (by exact Tv) rfl ⟨rfl,sb⟩
theorem KE (g5 P Q G:Nat)(r f:Option Addr)(w:World)(r5:Row w g5 (gpC P Q G r f) 75):
  Calls Tryz.prog 162 #[.pointer (some ⟨g5,0,none⟩)] w fun e w'=>e= .returned (.agg (gpC P Q G r f))/\Below w.heap.size w w':=by
 go_enter func162,ntmps162
 iterate 2 go_step
 refine rp ?_;refine ZN (by rfl) 75 rfl _ Kz ?_;intro g2 z0 n0 r2 k;refine p_W ?_
 have d5x2:=l_l r5.lt n0
 have b2:w.heap.size<=g2:=n0
 clear n0;replace r5:=k.ro r5
 have sb:=k_b k
 clear k;refine p_W ?_
 iterate 4 go_step
 refine r_p ?_;refine p_V _ (WC _ _ _ _ rfl (some ⟨g5,0,none⟩) rfl rfl KD) ?_
 iterate 7 go_step
 refine r_p ?_;refine p_V (.pointer (some ⟨g5,0,none⟩)) (Yc _ rfl g5 0 rfl) ?_
 refine ZF (by rfl) 75 _ rfl _ 0 rfl r5.r _ (Yy _) _ underlying75 rfl Tv (p_W ?_)
 refine Xr (by rfl) 75 _ _ rfl _ rfl r2 (gpC P Q G r f) rfl (by exact Tv) (by rfl) (Ef _ _ _ _ _) ?_;clear r2;intro z3003 r2 k;simp only[Act.put];replace r5:=k.ro r5;replace sb:=kk sb k;clear k;refine p_W ?_
 go_wp2
 exact XK rfl _ rfl r2 _ underlying75 (by exact Tv) rfl ⟨rfl,sb⟩
theorem V3 (v:Option Addr)(P Q G:Nat)(r f:Option Addr)(w:World)(h:PZ w v P Q G r f):
  Calls Tryz.prog 162 #[.pointer v] w fun e w'=>e= .returned (.agg (gpC P Q G r f))/\Below w.heap.size w w':=by
 rcases h with ⟨rfl,rfl,rfl,rfl,rfl,rfl⟩|⟨g,rfl,hr⟩
 ·exact H3 w
 ·exact KE g P Q G r f w hr
theorem V4 (v:Option Addr)(P Q G:Nat)(r f:Option Addr)(w:World)(h:PZ w v P Q G r f):
  Calls Tryz.prog 164 #[.pointer v] w fun e w'=>e= .returned (.agg (Zc Q))/\Below w.heap.size w w':=by
 have hkn:=fun w' (hb:Below w.heap.size w w')=>V3 v P Q G r f w' (h.below hb)
 clear h
 go_enter func164,ntmps164
 iterate 2 go_step
 refine rp ?_;refine ZN (by rfl) 62 rfl _ Zm ?_;intro g2 z0 n0 r2 k;refine p_W ?_
 have b2:w.heap.size<=g2:=n0
 clear n0
 have sb:=k_b k
 clear k;refine p_W ?_
 iterate 3 go_step
 refine r_p ?_;refine p_c 162 func162 #[.pointer v] (hkn _ sb) ?_;intro z1001 k;refine p_W ?_;replace r2:=k.ro r2;replace sb:=kk sb k;clear k;refine p_V _ (XH _ _ _ rfl _ _ rfl (KC P Q G r f)) ?_;refine p_V _ (XH _ _ _ rfl _ _ rfl (yw P Q G)) ?_;refine p_p r2 Q ?_;clear r2;intro z1004 r2 k;simp only[Act.put];replace sb:=kk sb k;clear k;refine p_W ?_
 go_wp2
 exact ZH rfl _ rfl r2 4 _ underlying62 (by exact Zb) rfl ⟨rfl,sb⟩
theorem H4 (v:Option Addr)(P Q G:Nat)(r f:Option Addr)(w:World)(h:PZ w v P Q G r f):
  Calls Tryz.prog 153 #[.pointer v] w fun e w'=>e= .returned (.agg (Zc G))/\Below w.heap.size w w':=by
 have hkn:=fun w' (hb:Below w.heap.size w w')=>V3 v P Q G r f w' (h.below hb)
 clear h
 go_enter func153,ntmps153
 iterate 2 go_step
 refine rp ?_;refine ZN (by rfl) 62 rfl _ Zm ?_;intro g2 z0 n0 r2 k;refine p_W ?_
 have b2:w.heap.size<=g2:=n0
 clear n0
 have sb:=k_b k
 clear k;refine p_W ?_
 iterate 3 go_step
 refine r_p ?_;refine p_c 162 func162 #[.pointer v] (hkn _ sb) ?_;intro z1001 k;refine p_W ?_;replace r2:=k.ro r2;replace sb:=kk sb k;clear k;refine p_V _ (XH _ _ _ rfl _ _ rfl (KC P Q G r f)) ?_;refine p_V _ (XH _ _ _ rfl _ _ rfl (yx P Q G)) ?_;refine p_p r2 G ?_;clear r2;intro z1004 r2 k;simp only[Act.put];replace sb:=kk sb k;clear k;refine p_W ?_
 go_wp2
 exact ZH rfl _ rfl r2 4 _ underlying62 (by exact Zb) rfl ⟨rfl,sb⟩
theorem WF (v:Option Addr)(P Q G:Nat)(r f:Option Addr)(w:World)(h:PZ w v P Q G r f):
  Calls Tryz.prog 187 #[.pointer v] w fun e w'=>e= .returned (.pointer r)/\Below w.heap.size w w':=by
 have hkn:=fun w' (hb:Below w.heap.size w w')=>V3 v P Q G r f w' (h.below hb)
 clear h
 go_enter func187,ntmps187
 have sb:=Below.refl w.heap.size w
 iterate 2 go_step
 refine rp ?_;refine p_V (.pointer none) (fun _=>rfl) ?_
 iterate 3 go_step
 refine r_p ?_;refine p_c 162 func162 #[.pointer v] (hkn _ sb) ?_;intro z1001 k;refine p_W ?_;replace sb:=kk sb k;clear k;refine p_V _ (XH _ _ _ rfl _ _ rfl (D9 P Q G r f)) ?_
 go_wp2
 go_ret
 exact⟨rfl,sb⟩
theorem YG (v:Option Addr)(P Q G:Nat)(r f:Option Addr)(w:World)(h:PZ w v P Q G r f):
  Calls Tryz.prog 122 #[.pointer v] w fun e w'=>e= .returned (.pointer f)/\Below w.heap.size w w':=by
 have hkn:=fun w' (hb:Below w.heap.size w w')=>V3 v P Q G r f w' (h.below hb)
 clear h
 go_enter func122,ntmps122
 have sb:=Below.refl w.heap.size w
 iterate 2 go_step
 refine rp ?_;refine p_V (.pointer none) (fun _=>rfl) ?_
 iterate 3 go_step
 refine r_p ?_;refine p_c 162 func162 #[.pointer v] (hkn _ sb) ?_;intro z1001 k;refine p_W ?_;replace sb:=kk sb k;clear k;refine p_V _ (XH _ _ _ rfl _ _ rfl (Hz P Q G r f)) ?_
 go_wp2
 go_ret
 exact⟨rfl,sb⟩
theorem Ay (n c:Nat)(ab:Option Addr)(G:Nat)(N:Nat->Nat)(A:Nat->Int)(gb ob:Nat)(bcs:Array Value)(tb:TypeId)(w:World)(h2:2<=n)(hn:n<9223372036854775808)(hL:LinksAt w ab n N A gb ob bcs tb):
  Calls Tryz.prog 99 #[.agg (paC ab n c G)] w fun e w'=>e= .returned (.agg (Zc (N (n-1))))/\Below w.heap.size w w':=by
 obtain h0|⟨rfl,rB,hat⟩:=hL.at'
 ·omega
 have h1:=hat (n-1) (by omega)
 clear hL hat
 generalize N (n-1)=P at*
 generalize A (n-1)=zp at*
 go_enter func99,ntmps99
 iterate 2 go_step
 refine rp ?_;refine ZX (by rfl) 64 _ rfl (_) rfl ?_;intro g1 z0 n0 r1 k;refine p_W ?_
 have b1:w.heap.size<=g1:=n0
 clear n0
 have sb:=k_b k
 clear k;refine ZN (by rfl) 62 rfl _ Zm ?_;intro g2 z1 n0 r2 k;refine p_W ?_
 have d1x2:=l_l r1.lt n0
 have b2:=Nat.le_trans sb.size n0
 clear n0;replace r1:=k.ro r1;replace sb:=kk sb k;clear k;refine p_W ?_;replace rB:=rB.belowAll sb
 iterate 4 go_step
 refine rp ?_;refine p_V _ (Zi 64 _ 0 rfl g1 0 rfl _ underlying64 _ rfl 0 sizeOf59) ?_;refine p_D 0 r1.r (.slice (some ⟨gb,ob,none⟩) n c) rfl isAgg59 ?_;refine p_V _ (n_l (some ⟨gb,ob,none⟩) n c WE) ?_;refine p_V _ (Xf n 2) ?_
 iterate 7 go_step
 refine rp ?_;refine p_V _ (Zi 64 _ 0 rfl g1 0 rfl _ underlying64 _ rfl 0 sizeOf59) ?_;refine p_D 0 r1.r (.slice (some ⟨gb,ob,none⟩) n c) rfl isAgg59 ?_;refine p_V _ (Zi 64 _ 0 rfl g1 0 rfl _ underlying64 _ rfl 0 sizeOf59) ?_;refine p_D 0 r1.r (.slice (some ⟨gb,ob,none⟩) n c) rfl isAgg59 ?_;refine p_V _ (n_l (some ⟨gb,ob,none⟩) n c WE) ?_;refine p_V _ (ZM _ _ _ _ rfl n 1 rfl rfl (by omega) hn) ?_;refine p_V _ (Zu 59 _ _ rfl gb ob n c rfl (n-1) rfl (by omega) _ underlying59 5 sizeOf126) ?_;refine p_V _ (Zi 126 _ 0 rfl gb (ob+(n-1)*5) rfl _ underlying126 _ rfl 3 sizeOf62) ?_
 refine ZF (by rfl) 62 _ rfl _ (ob+(n-1)*5) rfl rB (Zc P) (Uz h1) _ underlying62 rfl Zb (p_W ?_)
 refine p_p r2 P ?_;clear r2;intro z3009 r2 k;simp only[Act.put];replace r1:=k.ro r1;replace sb:=kk sb k;clear k;refine p_W ?_
 go_wp2
 exact ZH rfl _ rfl r2 4 _ underlying62 (by exact Zb) rfl ⟨rfl,sb⟩
theorem Az (n c:Nat)(ab:Option Addr)(G:Nat)(N:Nat->Nat)(A:Nat->Int)(gb ob:Nat)(bcs:Array Value)(tb:TypeId)(w:World)(h2:2<=n)(hn:n<9223372036854775808)(hL:LinksAt w ab n N A gb ob bcs tb):
  Calls Tryz.prog 100 #[.agg (paC ab n c G)] w fun e w'=>e= .returned (.agg (Zc (N (n-2))))/\Below w.heap.size w w':=by
 obtain h0|⟨rfl,rB,hat⟩:=hL.at'
 ·omega
 have h1:=hat (n-2) (by omega)
 clear hL hat
 generalize N (n-2)=P at*
 generalize A (n-2)=zp at*
 go_enter func100,ntmps100
 iterate 2 go_step
 refine rp ?_;refine ZX (by rfl) 64 _ rfl (_) rfl ?_;intro g1 z0 n0 r1 k;refine p_W ?_;clear n0
 have sb:=k_b k
 clear k;refine ZN (by rfl) 62 rfl _ Zm ?_;intro g2 z1 n0 r2 k;refine p_W ?_
 have d1x2:=l_l r1.lt n0
 have b2:=Nat.le_trans sb.size n0
 clear n0;replace r1:=k.ro r1;replace sb:=kk sb k;clear k;refine p_W ?_;replace rB:=rB.belowAll sb
 iterate 4 go_step
 refine rp ?_;refine p_V _ (Zi 64 _ 0 rfl g1 0 rfl _ underlying64 _ rfl 0 sizeOf59) ?_;refine p_D 0 r1.r (.slice (some ⟨gb,ob,none⟩) n c) rfl isAgg59 ?_;refine p_V _ (n_l (some ⟨gb,ob,none⟩) n c WE) ?_;refine p_V _ (Xf n 2) ?_
 iterate 7 go_step
 refine rp ?_;refine p_V _ (Zi 64 _ 0 rfl g1 0 rfl _ underlying64 _ rfl 0 sizeOf59) ?_;refine p_D 0 r1.r (.slice (some ⟨gb,ob,none⟩) n c) rfl isAgg59 ?_;refine p_V _ (Zi 64 _ 0 rfl g1 0 rfl _ underlying64 _ rfl 0 sizeOf59) ?_;refine p_D 0 r1.r (.slice (some ⟨gb,ob,none⟩) n c) rfl isAgg59 ?_;refine p_V _ (n_l (some ⟨gb,ob,none⟩) n c WE) ?_;refine p_V _ (ZM _ _ _ _ rfl n 2 rfl rfl (by omega) hn) ?_;refine p_V _ (Zu 59 _ _ rfl gb ob n c rfl (n-2) rfl (by omega) _ underlying59 5 sizeOf126) ?_;refine p_V _ (Zi 126 _ 0 rfl gb (ob+(n-2)*5) rfl _ underlying126 _ rfl 3 sizeOf62) ?_
 refine ZF (by rfl) 62 _ rfl _ (ob+(n-2)*5) rfl rB (Zc P) (Uz h1) _ underlying62 rfl Zb (p_W ?_)
 refine p_p r2 P ?_;clear r2;intro z3009 r2 k;simp only[Act.put];replace r1:=k.ro r1;replace sb:=kk sb k;clear k;refine p_W ?_
 go_wp2
 exact ZH rfl _ rfl r2 4 _ underlying62 (by exact Zb) rfl ⟨rfl,sb⟩
theorem KF {n:Nat}(vs:List (Nat×Value))(c:Array Value)(k:Nat)(hk:k=5)(h:Instr.fill (fun i=>some (i*5,5)) ((Array.range (n*5)).map ((Value.agg #[.int .u64 0,.int .u64 0,.int .u64 0,.int .u64 0,.int .i64 0]).cells[· %(Value.agg #[.int .u64 0,.int .u64 0,.int .u64 0,.int .u64 0,.int .i64 0]).cells.size]!)) vs=some c):
  Instr.fill (fun i=>some (i*k,k)) ((Array.range (n*k)).map ((Value.agg #[.int .u64 0,.int .u64 0,.int .u64 0,.int .u64 0,.int .i64 0]).cells[· %(Value.agg #[.int .u64 0,.int .u64 0,.int .u64 0,.int .u64 0,.int .i64 0]).cells.size]!)) vs=some c:=by
 subst hk;exact h
theorem Cc:Instr.fill (fun i=>some (i*5,5)) ((Array.range (3*5)).map ((Value.agg #[.int .u64 0,.int .u64 0,.int .u64 0,.int .u64 0,.int .i64 0]).cells[· %(Value.agg #[.int .u64 0,.int .u64 0,.int .u64 0,.int .u64 0,.int .i64 0]).cells.size]!)) [(0,.agg (lkC 65521 0)),(1,.agg (lkC 1966023127 2)),(2,.agg (lkC 1055500680322183127 2))]=some (PX 3 (lN leL) Pq):=by kernel_rfl
theorem Mo (w:World):
  Calls Tryz.prog 27 #[] w fun e w'=> ∃g,e= .returned (.agg (paC (some ⟨g,0,none⟩) 3 3 leG))/\w.heap.size<=g/\Row w' g (PX 3 (lN leL) Pq) 126/\Below w.heap.size w w':=by
 obtain⟨ie,hie,hz,hsz⟩:=O8
 have hs1: ¬3*ie.size>2^24:=by rw[hsz];decide
 have hs2: ¬3*ie.size=0:=by rw[hsz];decide
 have hl:=KF _ _ ie.size hsz Cc
 go_enter func27,ntmps27
 iterate 2 go_step
 refine rp ?_;refine ZN (by rfl) 64 rfl _ Tt ?_;intro g0 z0 n0 r0 k;refine p_W ?_
 have b0:w.heap.size<=g0:=n0
 clear n0
 have sb:=k_b k
 clear k;refine p_W ?_
 iterate 3 go_step
 refine rp ?_;refine p_V (.agg (Zc 65521)) (ZZ _ _ rfl [(0,.int .u64 65521)] rfl _ (by kernel_rfl)) ?_;refine p_V _ (X3 65521 0 rfl rfl rfl) ?_;refine p_V (.agg (Zc 1966023127)) (ZZ _ _ rfl [(0,.int .u64 1966023127)] rfl _ (by kernel_rfl)) ?_;refine p_V _ (X3 1966023127 2 rfl rfl rfl) ?_;refine p_V (.agg (Zc 1055500680322183127)) (ZZ _ _ rfl [(0,.int .u64 1055500680322183127)] rfl _ (by kernel_rfl)) ?_;refine p_V _ (X3 1055500680322183127 2 rfl rfl rfl) ?_;refine XF (by rfl) 59 126 3 _ rfl (PX 3 (lN leL) Pq) ie _ underlying59 hie hz hs1 hs2 [(0,.agg (lkC 65521 0)),(1,.agg (lkC 1966023127 2)),(2,.agg (lkC 1055500680322183127 2))] rfl hl ?_;intro gT z1006 n0 rT k;refine p_W ?_
 have d0xT:=l_l r0.lt n0
 have bT:=Nat.le_trans sb.size n0
 clear n0;replace r0:=k.ro r0;replace sb:=kk sb k;clear k;refine p_V (.agg (Zc 316543771439780984)) (ZZ _ _ rfl [(0,.int .u64 316543771439780984)] rfl _ (by kernel_rfl)) ?_;refine p_V _ (ZZ _ _ rfl [(0,.slice (some ⟨gT,0,none⟩) 3 3),(1,.agg (Zc leG))] rfl _ (O9 _ _ _ _)) ?_;refine Xr (by rfl) 64 _ _ rfl _ rfl r0 (paC (some ⟨gT,0,none⟩) 3 3 leG) rfl (by exact Xw) (by rfl) (QD _ _ _ _) ?_;clear r0;intro z1009 r0 k;simp only[Act.put];replace rT:=k.ro rT;replace sb:=kk sb k;clear k;refine p_W ?_
 go_wp2
 exact XK rfl _ rfl r0 _ underlying64 (by exact Xw) rfl ⟨gT,rfl,bT,rT,sb⟩
theorem Cd:Instr.fill (fun i=>some (i*5,5)) ((Array.range (3*5)).map ((Value.agg #[.int .u64 0,.int .u64 0,.int .u64 0,.int .u64 0,.int .i64 0]).cells[· %(Value.agg #[.int .u64 0,.int .u64 0,.int .u64 0,.int .u64 0,.int .i64 0]).cells.size]!)) [(0,.agg (lkC 64817 0)),(1,.agg (lkC 1815135269 2)),(2,.agg (lkC 487269091447081429 2))]=some (PX 3 (lN otL) Pq):=by kernel_rfl
theorem Mp (w:World):
  Calls Tryz.prog 28 #[] w fun e w'=> ∃g,e= .returned (.agg (paC (some ⟨g,0,none⟩) 3 3 otG))/\w.heap.size<=g/\Row w' g (PX 3 (lN otL) Pq) 126/\Below w.heap.size w w':=by
 obtain⟨ie,hie,hz,hsz⟩:=O8
 have hs1: ¬3*ie.size>2^24:=by rw[hsz];decide
 have hs2: ¬3*ie.size=0:=by rw[hsz];decide
 have hl:=KF _ _ ie.size hsz Cd
 go_enter func28,ntmps28
 iterate 2 go_step
 refine rp ?_;refine ZN (by rfl) 64 rfl _ Tt ?_;intro g0 z0 n0 r0 k;refine p_W ?_
 have b0:w.heap.size<=g0:=n0
 clear n0
 have sb:=k_b k
 clear k;refine p_W ?_
 iterate 3 go_step
 refine rp ?_;refine p_V (.agg (Zc 64817)) (ZZ _ _ rfl [(0,.int .u64 64817)] rfl _ (by kernel_rfl)) ?_;refine p_V _ (X3 64817 0 rfl rfl rfl) ?_;refine p_V (.agg (Zc 1815135269)) (ZZ _ _ rfl [(0,.int .u64 1815135269)] rfl _ (by kernel_rfl)) ?_;refine p_V _ (X3 1815135269 2 rfl rfl rfl) ?_;refine p_V (.agg (Zc 487269091447081429)) (ZZ _ _ rfl [(0,.int .u64 487269091447081429)] rfl _ (by kernel_rfl)) ?_;refine p_V _ (X3 487269091447081429 2 rfl rfl rfl) ?_;refine XF (by rfl) 59 126 3 _ rfl (PX 3 (lN otL) Pq) ie _ underlying59 hie hz hs1 hs2 [(0,.agg (lkC 64817 0)),(1,.agg (lkC 1815135269 2)),(2,.agg (lkC 487269091447081429 2))] rfl hl ?_;intro gT z1006 n0 rT k;refine p_W ?_
 have d0xT:=l_l r0.lt n0
 have bT:=Nat.le_trans sb.size n0
 clear n0;replace r0:=k.ro r0;replace sb:=kk sb k;clear k;refine p_V (.agg (Zc 54624333139524128)) (ZZ _ _ rfl [(0,.int .u64 54624333139524128)] rfl _ (by kernel_rfl)) ?_;refine p_V _ (ZZ _ _ rfl [(0,.slice (some ⟨gT,0,none⟩) 3 3),(1,.agg (Zc otG))] rfl _ (O9 _ _ _ _)) ?_;refine Xr (by rfl) 64 _ _ rfl _ rfl r0 (paC (some ⟨gT,0,none⟩) 3 3 otG) rfl (by exact Xw) (by rfl) (QD _ _ _ _) ?_;clear r0;intro z1009 r0 k;simp only[Act.put];replace rT:=k.ro rT;replace sb:=kk sb k;clear k;refine p_W ?_
 go_wp2
 exact XK rfl _ rfl r0 _ underlying64 (by exact Xw) rfl ⟨gT,rfl,bT,rT,sb⟩
def pk {α:Type}(m:Nat)(a b c:α):α:=if m=0 then a else if m=1 then b else c
def pasC (x y z:Option Addr)(n m l X Y Z:Nat):Array Value:=#[.slice x n n,.int .u64 (lm X 0),.int .u64 (lm X 1),.int .u64 (lm X 2),.int .u64 (lm X 3),.slice y m m,.int .u64 (lm Y 0),.int .u64 (lm Y 1),.int .u64 (lm Y 2),.int .u64 (lm Y 3),.slice z l l,.int .u64 (lm Z 0),.int .u64 (lm Z 1),.int .u64 (lm Z 2),.int .u64 (lm Z 3)]
def ly8 (x:Int):Nat:=(x%256).toNat