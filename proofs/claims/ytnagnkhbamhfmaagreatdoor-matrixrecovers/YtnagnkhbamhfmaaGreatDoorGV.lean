import Derived.Test.YtnagnkhbamhfmaaGreatDoorGY
set_option maxRecDepth 100000
set_option maxHeartbeats 8000000
namespace Go.Proofs.YtnagnkhbamhfmaaGreatDoor
set_option linter.all false
open Go.Proofs.Tryz
open Go.RowKit
def dcN (l:List UInt8):Nat->Nat
 |0=>0
 |k+1=>dcN l k*2^3+dcN l k*2^1+(yb l k-48)
def sxC (n:Nat)(f:Nat->List UInt8):Array Value:=Array.ofFn (n:=n) fun i=>.string ⟨(f i).toArray⟩
theorem Vd:(Tryz.prog.info? 3).map (·.size)=some 1:=by kernel_rfl
def upN (V:Nat->Nat)(k i:Nat):Nat:=if i<k then V i else 0
def upZ (V:Nat->Int)(k i:Nat):Int:=if i<k then V i else 0
def DigS (l:List UInt8):Prop:=l.length<9223372036854775808/\ ∀i,i<l.length->48<=yb l i
def dig? (l:List UInt8):Bool:=l.all fun b=>decide (48<=b.toNat)
def dcF:List UInt8->Nat->Nat
 |[],n=>n
 |b::l,n=>dcF l (n*10+(b.toNat-48))
def leS:List UInt8:=[51,49,54,53,52,51,55,55,49,52,51,57,55,56,48,57,56,52]
def leT:List (List UInt8):=[[54,53,53,50,49],[49,57,54,54,48,50,51,49,50,55],[49,48,53,53,53,48,48,54,56,48,51,50,50,49,56,51,49,50,55]]
def leF (i:Nat):List UInt8:=leT.getD i []
theorem yn (i:Nat)(h:i<3):lN leL i<2^256:=by
 match i,h with
 |0,_=>decide
 |1,_=>decide
 |2,_=>decide
def otS:List UInt8:=[53,52,54,50,52,51,51,51,49,51,57,53,50,52,49,50,56]
def otT:List (List UInt8):=[[54,52,56,49,55],[49,56,49,53,49,51,53,50,54,57],[52,56,55,50,54,57,48,57,49,52,52,55,48,56,49,52,50,57]]
def otF (i:Nat):List UInt8:=otT.getD i []
theorem wA (i:Nat)(h:i<3):lN otL i<2^256:=by
 match i,h with
 |0,_=>decide
 |1,_=>decide
 |2,_=>decide
def grS:List UInt8:=[57,49,53,49,49,53,55,51,52,49,54,54,55,52,54,57,54,49,53,56,48,48,57,57,55,49,51,48,50,51,49,52,53,52,56,54,53,52,50,53,48,49,56,49,56,49,57,49,55,57,48,52,57,50,49,52,55,57,57,55,50,55,50,57]
def grT:List (List UInt8):=[[54,53,53,49,57],[49,51,49,51,57,49,56,48,50,55],[56,56,49,55,53,53,54,55,50,48,51,55,55,57,55,54,49],[54,51,53,51,55,49,57,50,50,53,54,51,51,57,57,55,53,53,49,49,57,50,57,55,54,54,54,49,56,49,53,49,55,49],[49,50,56,56,54,56,55,51,53,56,52,48,57,48,53,50,52,54,53,57,55,48,48,53,54,50,50,50,56,54,55,53,51,51,56,51,53,49,48,52,56,54,51,53,57,51,48,55,54,48,57,56,52,53,56,52,51,56,53,54,49,52,51,49,56,51]]
def grF (i:Nat):List UInt8:=grT.getD i []
section
variable {P:Program}{o:Oper}{ρ:Operand->Value}
theorem DC (t:TypeId)(x y:Operand)(u:TypeId)(ho:o.op= .binOp .sub t x y u)(n m r:Int)(hx:ρ x= .int .i64 n)(hy:ρ y= .int .i64 m)(hr:IntKind.i64.wrap (n-m)=r)(w:World):
  (execOp ρ o).run P w= .ok (.value (.int .i64 r)) w:=by
 subst hr;unfold execOp;simp only[ho,hx,hy];simp[go_sem]
end
def ub (Q:Nat):Int:=((bitLen Q:Int)-1).tdiv 8
def OH (w:World)(v:Option Addr)(P Q G:Nat)(r f:Option Addr):Prop:=(v=none/\P=0/\Q=0/\G=0/\r=none/\f=none)∨ ∃g,v=some ⟨g,0,none⟩/\Row w g (gpC P Q G r f) 70
theorem OH.below {w w':World}{v:Option Addr}{P Q G:Nat}{r f:Option Addr}(h:OH w v P Q G r f)(hb:Below w.heap.size w w'):OH w' v P Q G r f:=h.imp id fun⟨g,h1,h2⟩=>⟨g,h1,h2.belowAll hb⟩
theorem GrpAt.kn {w:World}{g gr gf P Q G:Nat}(h:GrpAt w g gr gf P Q G):OH w (some ⟨g,0,none⟩) P Q G (some ⟨gr,0,none⟩) (some ⟨gf,0,none⟩):=.inr ⟨g,rfl,h.row⟩
theorem JP:Tryz.prog.underlying 25=some (.pointer (Tryz.prog.pointee 25)):=by kernel_rfl
theorem FF (w:World):
  Calls Tryz.prog 141 #[.pointer none] w fun e w'=>e= .returned (.agg (gpC 0 0 0 none none))/\Below w.heap.size w w':=by
 go_enter func141,ntmps141
 iterate 2 go_step
 refine rp ?_;refine ZU (by rfl) 70 rfl _ JM ?_;intro g2 z0 n0 r2 k;refine p_W ?_;have b2:w.heap.size<=g2:=n0;clear n0;have sb:=k_b k;clear k;refine p_W ?_;iterate 4 go_step
 refine r_p ?_;refine p_V _ (WJ _ _ _ _ rfl none rfl rfl JP) ?_;iterate 4 go_step
 refine rp ?_;refine p_V _ (ZG _ rfl _ JN) ?_;refine Xo (by rfl) 70 _ _ rfl _ rfl r2 (gpC 0 0 0 none none) rfl (by exact TP) (by rfl) (DB _ _ _ _ _) ?_;clear r2;intro z2001 r2 k;simp only[Act.put];replace sb:=kk sb k;clear k;refine p_W ?_;go_wp2;exact XQ rfl _ rfl r2 _ underlying70 (by exact TP) rfl ⟨rfl,sb⟩
theorem JQ (g5 P Q G:Nat)(r f:Option Addr)(w:World)(r5:Row w g5 (gpC P Q G r f) 70):
  Calls Tryz.prog 141 #[.pointer (some ⟨g5,0,none⟩)] w fun e w'=>e= .returned (.agg (gpC P Q G r f))/\Below w.heap.size w w':=by
 go_enter func141,ntmps141
 iterate 2 go_step
 refine rp ?_;refine ZU (by rfl) 70 rfl _ JM ?_;intro g2 z0 n0 r2 k;refine p_W ?_;have d5x2:=l_l r5.lt n0;have b2:w.heap.size<=g2:=n0;clear n0;replace r5:=k.ro r5;have sb:=k_b k;clear k;refine p_W ?_;iterate 4 go_step
 refine r_p ?_;refine p_V _ (WJ _ _ _ _ rfl (some ⟨g5,0,none⟩) rfl rfl JP) ?_;iterate 7 go_step
 refine r_p ?_;refine p_V (.pointer (some ⟨g5,0,none⟩)) (Yj _ rfl g5 0 rfl) ?_;refine ZC (by rfl) 70 _ rfl _ 0 rfl r5.r _ (ZQ _) _ underlying70 rfl TP (p_W ?_);refine Xo (by rfl) 70 _ _ rfl _ rfl r2 (gpC P Q G r f) rfl (by exact TP) (by rfl) (DB _ _ _ _ _) ?_;clear r2;intro z3003 r2 k;simp only[Act.put];replace r5:=k.ro r5;replace sb:=kk sb k;clear k;refine p_W ?_;go_wp2;exact XQ rfl _ rfl r2 _ underlying70 (by exact TP) rfl ⟨rfl,sb⟩
theorem Uh (v:Option Addr)(P Q G:Nat)(r f:Option Addr)(w:World)(h:OH w v P Q G r f):
  Calls Tryz.prog 141 #[.pointer v] w (Rt (.agg (gpC P Q G r f)) w):=by
 rcases h with ⟨rfl,rfl,rfl,rfl,rfl,rfl⟩|⟨g,rfl,hr⟩
 ·exact FF w
 ·exact JQ g P Q G r f w hr
theorem Ui (v:Option Addr)(P Q G:Nat)(r f:Option Addr)(w:World)(h:OH w v P Q G r f):
  Calls Tryz.prog 143 #[.pointer v] w fun e w'=>e= .returned (.agg (Zb Q))/\Below w.heap.size w w':=by
 have hkn:=fun w' (hb:Below w.heap.size w w')=>Uh v P Q G r f w' (h.below hb)
 clear h
 go_enter func143,ntmps143
 iterate 2 go_step
 refine rp ?_;refine ZU (by rfl) 57 rfl _ Zm ?_;intro g2 z0 n0 r2 k;refine p_W ?_;have b2:w.heap.size<=g2:=n0;clear n0;have sb:=k_b k;clear k;refine p_W ?_;iterate 3 go_step
 refine r_p ?_;refine p_c 141 func141 #[.pointer v] (hkn _ sb) ?_;intro z1001 k;refine p_W ?_;replace r2:=k.ro r2;replace sb:=kk sb k;clear k;refine p_V _ (XN _ _ _ rfl _ _ rfl (JO P Q G r f)) ?_;refine p_V _ (XN _ _ _ rfl _ _ rfl (ww P Q G)) ?_;refine p_p r2 Q ?_;clear r2;intro z1004 r2 k;simp only[Act.put];replace sb:=kk sb k;clear k;refine p_W ?_;go_wp2;exact ZN rfl _ rfl r2 4 _ b_ (by exact Zc) rfl ⟨rfl,sb⟩
theorem FG (v:Option Addr)(P Q G:Nat)(r f:Option Addr)(w:World)(h:OH w v P Q G r f):
  Calls Tryz.prog 132 #[.pointer v] w fun e w'=>e= .returned (.agg (Zb G))/\Below w.heap.size w w':=by
 have hkn:=fun w' (hb:Below w.heap.size w w')=>Uh v P Q G r f w' (h.below hb)
 clear h
 go_enter func132,ntmps132
 iterate 2 go_step
 refine rp ?_;refine ZU (by rfl) 57 rfl _ Zm ?_;intro g2 z0 n0 r2 k;refine p_W ?_;have b2:w.heap.size<=g2:=n0;clear n0;have sb:=k_b k;clear k;refine p_W ?_;iterate 3 go_step
 refine r_p ?_;refine p_c 141 func141 #[.pointer v] (hkn _ sb) ?_;intro z1001 k;refine p_W ?_;replace r2:=k.ro r2;replace sb:=kk sb k;clear k;refine p_V _ (XN _ _ _ rfl _ _ rfl (JO P Q G r f)) ?_;refine p_V _ (XN _ _ _ rfl _ _ rfl (wx P Q G)) ?_;refine p_p r2 G ?_;clear r2;intro z1004 r2 k;simp only[Act.put];replace sb:=kk sb k;clear k;refine p_W ?_;go_wp2;exact ZN rfl _ rfl r2 4 _ b_ (by exact Zc) rfl ⟨rfl,sb⟩
theorem WN (v:Option Addr)(P Q G:Nat)(r f:Option Addr)(w:World)(h:OH w v P Q G r f):
  Calls Tryz.prog 167 #[.pointer v] w fun e w'=>e= .returned (.pointer r)/\Below w.heap.size w w':=by
 have hkn:=fun w' (hb:Below w.heap.size w w')=>Uh v P Q G r f w' (h.below hb)
 clear h
 go_enter func167,ntmps167
 have sb:=H_ w.heap.size w;iterate 2 go_step
 refine rp ?_;refine p_V (.pointer none) (fun _=>rfl) ?_;iterate 3 go_step
 refine r_p ?_;refine p_c 141 func141 #[.pointer v] (hkn _ sb) ?_;intro z1001 k;refine p_W ?_;replace sb:=kk sb k;clear k;refine p_V _ (XN _ _ _ rfl _ _ rfl (BI P Q G r f)) ?_;go_wp2;go_ret;exact⟨rfl,sb⟩
theorem YO (v:Option Addr)(P Q G:Nat)(r f:Option Addr)(w:World)(h:OH w v P Q G r f):
  Calls Tryz.prog 98 #[.pointer v] w fun e w'=>e= .returned (.pointer f)/\Below w.heap.size w w':=by
 have hkn:=fun w' (hb:Below w.heap.size w w')=>Uh v P Q G r f w' (h.below hb)
 clear h
 go_enter func98,ntmps98
 have sb:=H_ w.heap.size w;iterate 2 go_step
 refine rp ?_;refine p_V (.pointer none) (fun _=>rfl) ?_;iterate 3 go_step
 refine r_p ?_;refine p_c 141 func141 #[.pointer v] (hkn _ sb) ?_;intro z1001 k;refine p_W ?_;replace sb:=kk sb k;clear k;refine p_V _ (XN _ _ _ rfl _ _ rfl (FC P Q G r f)) ?_;go_wp2;go_ret;exact⟨rfl,sb⟩
theorem yo (n c:Nat)(ab:Option Addr)(G:Nat)(N:Nat->Nat)(A:Nat->Int)(gb ob:Nat)(bcs:Array Value)(tb:TypeId)(w:World)(h2:2<=n)(hn:n<9223372036854775808)(hL:LinksAt w ab n N A gb ob bcs tb):
  Calls Tryz.prog 75 #[.agg (paC ab n c G)] w fun e w'=>e= .returned (.agg (Zb (N (n-1))))/\Below w.heap.size w w':=by
 obtain h0|⟨rfl,rB,hat⟩:=hL.at'
 ·omega
 have h1:=hat (n-1) (by omega);clear hL hat;generalize N (n-1)=P at*;generalize A (n-1)=zp at*
 go_enter func75,ntmps75
 iterate 2 go_step
 refine rp ?_;refine Zy (by rfl) 59 _ rfl (_) rfl ?_;intro g1 z0 n0 r1 k;refine p_W ?_;have b1:w.heap.size<=g1:=n0;clear n0;have sb:=k_b k;clear k;refine ZU (by rfl) 57 rfl _ Zm ?_;intro g2 z1 n0 r2 k;refine p_W ?_;have d1x2:=l_l r1.lt n0;have b2:=f_ sb.size n0;clear n0;replace r1:=k.ro r1;replace sb:=kk sb k;clear k;refine p_W ?_;replace rB:=rB.belowAll sb;iterate 4 go_step
 refine rp ?_;refine p_V _ (Ze 59 _ 0 rfl g1 0 rfl _ bH0 _ rfl 0 gV0) ?_;refine p_D 0 r1.r (.slice (some ⟨gb,ob,none⟩) n c) rfl iH0 ?_;refine p_V _ (n_l (some ⟨gb,ob,none⟩) n c WM) ?_;refine p_V _ (YN n 2) ?_;iterate 7 go_step
 refine rp ?_;refine p_V _ (Ze 59 _ 0 rfl g1 0 rfl _ bH0 _ rfl 0 gV0) ?_;refine p_D 0 r1.r (.slice (some ⟨gb,ob,none⟩) n c) rfl iH0 ?_;refine p_V _ (Ze 59 _ 0 rfl g1 0 rfl _ bH0 _ rfl 0 gV0) ?_;refine p_D 0 r1.r (.slice (some ⟨gb,ob,none⟩) n c) rfl iH0 ?_;refine p_V _ (n_l (some ⟨gb,ob,none⟩) n c WM) ?_;refine p_V _ (ZS _ _ _ _ rfl n 1 rfl rfl (by omega) hn) ?_;refine p_V _ (Zo 54 _ _ rfl gb ob n c rfl (n-1) rfl (by omega) _ eH0 5 hY0) ?_;refine p_V _ (Ze 106 _ 0 rfl gb (ob+(n-1)*5) rfl _ dJ0 _ rfl 3 aV0) ?_;refine ZC (by rfl) 57 _ rfl _ (ob+(n-1)*5) rfl rB (Zb P) (UL h1) _ b_ rfl Zc (p_W ?_);refine p_p r2 P ?_;clear r2;intro z3009 r2 k;simp only[Act.put];replace r1:=k.ro r1;replace sb:=kk sb k;clear k;refine p_W ?_;go_wp2;exact ZN rfl _ rfl r2 4 _ b_ (by exact Zc) rfl ⟨rfl,sb⟩
theorem yp (n c:Nat)(ab:Option Addr)(G:Nat)(N:Nat->Nat)(A:Nat->Int)(gb ob:Nat)(bcs:Array Value)(tb:TypeId)(w:World)(h2:2<=n)(hn:n<9223372036854775808)(hL:LinksAt w ab n N A gb ob bcs tb):
  Calls Tryz.prog 76 #[.agg (paC ab n c G)] w fun e w'=>e= .returned (.agg (Zb (N (n-2))))/\Below w.heap.size w w':=by
 obtain h0|⟨rfl,rB,hat⟩:=hL.at'
 ·omega
 have h1:=hat (n-2) (by omega);clear hL hat;generalize N (n-2)=P at*;generalize A (n-2)=zp at*
 go_enter func76,ntmps76
 iterate 2 go_step
 refine rp ?_;refine Zy (by rfl) 59 _ rfl (_) rfl ?_;intro g1 z0 n0 r1 k;refine p_W ?_;clear n0;have sb:=k_b k;clear k;refine ZU (by rfl) 57 rfl _ Zm ?_;intro g2 z1 n0 r2 k;refine p_W ?_;have d1x2:=l_l r1.lt n0;have b2:=f_ sb.size n0;clear n0;replace r1:=k.ro r1;replace sb:=kk sb k;clear k;refine p_W ?_;replace rB:=rB.belowAll sb;iterate 4 go_step
 refine rp ?_;refine p_V _ (Ze 59 _ 0 rfl g1 0 rfl _ bH0 _ rfl 0 gV0) ?_;refine p_D 0 r1.r (.slice (some ⟨gb,ob,none⟩) n c) rfl iH0 ?_;refine p_V _ (n_l (some ⟨gb,ob,none⟩) n c WM) ?_;refine p_V _ (YN n 2) ?_;iterate 7 go_step
 refine rp ?_;refine p_V _ (Ze 59 _ 0 rfl g1 0 rfl _ bH0 _ rfl 0 gV0) ?_;refine p_D 0 r1.r (.slice (some ⟨gb,ob,none⟩) n c) rfl iH0 ?_;refine p_V _ (Ze 59 _ 0 rfl g1 0 rfl _ bH0 _ rfl 0 gV0) ?_;refine p_D 0 r1.r (.slice (some ⟨gb,ob,none⟩) n c) rfl iH0 ?_;refine p_V _ (n_l (some ⟨gb,ob,none⟩) n c WM) ?_;refine p_V _ (ZS _ _ _ _ rfl n 2 rfl rfl (by omega) hn) ?_;refine p_V _ (Zo 54 _ _ rfl gb ob n c rfl (n-2) rfl (by omega) _ eH0 5 hY0) ?_;refine p_V _ (Ze 106 _ 0 rfl gb (ob+(n-2)*5) rfl _ dJ0 _ rfl 3 aV0) ?_;refine ZC (by rfl) 57 _ rfl _ (ob+(n-2)*5) rfl rB (Zb P) (UL h1) _ b_ rfl Zc (p_W ?_);refine p_p r2 P ?_;clear r2;intro z3009 r2 k;simp only[Act.put];replace r1:=k.ro r1;replace sb:=kk sb k;clear k;refine p_W ?_;go_wp2;exact ZN rfl _ rfl r2 4 _ b_ (by exact Zc) rfl ⟨rfl,sb⟩
theorem JR {n:Nat}(vs:List (Nat×Value))(c:Array Value)(k:Nat)(hk:k=5)(h:Instr.fill (fun i=>some (i*5,5)) ((Array.range (n*5)).map ((Value.agg #[.int .u64 0,.int .u64 0,.int .u64 0,.int .u64 0,.int .i64 0]).cells[· %(Value.agg #[.int .u64 0,.int .u64 0,.int .u64 0,.int .u64 0,.int .i64 0]).cells.size]!)) vs=some c):
  Instr.fill (fun i=>some (i*k,k)) ((Array.range (n*k)).map ((Value.agg #[.int .u64 0,.int .u64 0,.int .u64 0,.int .u64 0,.int .i64 0]).cells[· %(Value.agg #[.int .u64 0,.int .u64 0,.int .u64 0,.int .u64 0,.int .i64 0]).cells.size]!)) vs=some c:=by
 subst hk;exact h
theorem BM:Instr.fill (fun i=>some (i*5,5)) ((Array.range (3*5)).map ((Value.agg #[.int .u64 0,.int .u64 0,.int .u64 0,.int .u64 0,.int .i64 0]).cells[· %(Value.agg #[.int .u64 0,.int .u64 0,.int .u64 0,.int .u64 0,.int .i64 0]).cells.size]!)) [(0,.agg (lkC 65521 0)),(1,.agg (lkC 1966023127 2)),(2,.agg (lkC 1055500680322183127 2))]=some (OF 3 (lN leL) P3):=by kernel_rfl
theorem Lu (w:World):
  Calls Tryz.prog 20 #[] w fun e w'=> ∃g,e= .returned (.agg (paC (some ⟨g,0,none⟩) 3 3 leG))/\w.heap.size<=g/\Row w' g (OF 3 (lN leL) P3) 106/\Below w.heap.size w w':=by
 obtain⟨ie,hie,hz,hsz⟩:=NT
 have hs1: ¬3*ie.size>2^24:=by rw[hsz];decide
 have hs2: ¬3*ie.size=0:=by rw[hsz];decide
 have hl:=JR _ _ ie.size hsz BM
 go_enter func20,ntmps20
 iterate 2 go_step
 refine rp ?_;refine ZU (by rfl) 59 rfl _ TN ?_;intro g0 z0 n0 r0 k;refine p_W ?_;have b0:w.heap.size<=g0:=n0;clear n0;have sb:=k_b k;clear k;refine p_W ?_;iterate 3 go_step
 refine rp ?_;refine p_V (.agg (Zb 65521)) (ZZ _ _ rfl [(0,.int .u64 65521)] rfl _ (by kernel_rfl)) ?_;refine p_V _ (Wc 65521 0 rfl rfl rfl) ?_;refine p_V (.agg (Zb 1966023127)) (ZZ _ _ rfl [(0,.int .u64 1966023127)] rfl _ (by kernel_rfl)) ?_;refine p_V _ (Wc 1966023127 2 rfl rfl rfl) ?_;refine p_V (.agg (Zb 1055500680322183127)) (ZZ _ _ rfl [(0,.int .u64 1055500680322183127)] rfl _ (by kernel_rfl)) ?_;refine p_V _ (Wc 1055500680322183127 2 rfl rfl rfl) ?_;refine Y3 (by rfl) 54 106 3 _ rfl (OF 3 (lN leL) P3) ie _ eH0 hie hz hs1 hs2 [(0,.agg (lkC 65521 0)),(1,.agg (lkC 1966023127 2)),(2,.agg (lkC 1055500680322183127 2))] rfl hl ?_;intro gT z1006 n0 rT k;refine p_W ?_;have d0xT:=l_l r0.lt n0;have bT:=f_ sb.size n0;clear n0;replace r0:=k.ro r0;replace sb:=kk sb k;clear k;refine p_V (.agg (Zb 316543771439780984)) (ZZ _ _ rfl [(0,.int .u64 316543771439780984)] rfl _ (by kernel_rfl)) ?_;refine p_V _ (ZZ _ _ rfl [(0,.slice (some ⟨gT,0,none⟩) 3 3),(1,.agg (Zb leG))] rfl _ (NU _ _ _ _)) ?_;refine Xo (by rfl) 59 _ _ rfl _ rfl r0 (paC (some ⟨gT,0,none⟩) 3 3 leG) rfl (by exact XF) (by rfl) (Pc _ _ _ _) ?_;clear r0;intro z1009 r0 k;simp only[Act.put];replace rT:=k.ro rT;replace sb:=kk sb k;clear k;refine p_W ?_;go_wp2;exact XQ rfl _ rfl r0 _ bH0 (by exact XF) rfl ⟨gT,rfl,bT,rT,sb⟩
theorem BO:Instr.fill (fun i=>some (i*5,5)) ((Array.range (3*5)).map ((Value.agg #[.int .u64 0,.int .u64 0,.int .u64 0,.int .u64 0,.int .i64 0]).cells[· %(Value.agg #[.int .u64 0,.int .u64 0,.int .u64 0,.int .u64 0,.int .i64 0]).cells.size]!)) [(0,.agg (lkC 64817 0)),(1,.agg (lkC 1815135269 2)),(2,.agg (lkC 487269091447081429 2))]=some (OF 3 (lN otL) P3):=by kernel_rfl
theorem Lv (w:World):
  Calls Tryz.prog 21 #[] w fun e w'=> ∃g,e= .returned (.agg (paC (some ⟨g,0,none⟩) 3 3 otG))/\w.heap.size<=g/\Row w' g (OF 3 (lN otL) P3) 106/\Below w.heap.size w w':=by
 obtain⟨ie,hie,hz,hsz⟩:=NT
 have hs1: ¬3*ie.size>2^24:=by rw[hsz];decide
 have hs2: ¬3*ie.size=0:=by rw[hsz];decide
 have hl:=JR _ _ ie.size hsz BO
 go_enter func21,ntmps21
 iterate 2 go_step
 refine rp ?_;refine ZU (by rfl) 59 rfl _ TN ?_;intro g0 z0 n0 r0 k;refine p_W ?_;have b0:w.heap.size<=g0:=n0;clear n0;have sb:=k_b k;clear k;refine p_W ?_;iterate 3 go_step
 refine rp ?_;refine p_V (.agg (Zb 64817)) (ZZ _ _ rfl [(0,.int .u64 64817)] rfl _ (by kernel_rfl)) ?_;refine p_V _ (Wc 64817 0 rfl rfl rfl) ?_;refine p_V (.agg (Zb 1815135269)) (ZZ _ _ rfl [(0,.int .u64 1815135269)] rfl _ (by kernel_rfl)) ?_;refine p_V _ (Wc 1815135269 2 rfl rfl rfl) ?_;refine p_V (.agg (Zb 487269091447081429)) (ZZ _ _ rfl [(0,.int .u64 487269091447081429)] rfl _ (by kernel_rfl)) ?_;refine p_V _ (Wc 487269091447081429 2 rfl rfl rfl) ?_;refine Y3 (by rfl) 54 106 3 _ rfl (OF 3 (lN otL) P3) ie _ eH0 hie hz hs1 hs2 [(0,.agg (lkC 64817 0)),(1,.agg (lkC 1815135269 2)),(2,.agg (lkC 487269091447081429 2))] rfl hl ?_;intro gT z1006 n0 rT k;refine p_W ?_;have d0xT:=l_l r0.lt n0;have bT:=f_ sb.size n0;clear n0;replace r0:=k.ro r0;replace sb:=kk sb k;clear k;refine p_V (.agg (Zb 54624333139524128)) (ZZ _ _ rfl [(0,.int .u64 54624333139524128)] rfl _ (by kernel_rfl)) ?_;refine p_V _ (ZZ _ _ rfl [(0,.slice (some ⟨gT,0,none⟩) 3 3),(1,.agg (Zb otG))] rfl _ (NU _ _ _ _)) ?_;refine Xo (by rfl) 59 _ _ rfl _ rfl r0 (paC (some ⟨gT,0,none⟩) 3 3 otG) rfl (by exact XF) (by rfl) (Pc _ _ _ _) ?_;clear r0;intro z1009 r0 k;simp only[Act.put];replace rT:=k.ro rT;replace sb:=kk sb k;clear k;refine p_W ?_;go_wp2;exact XQ rfl _ rfl r0 _ bH0 (by exact XF) rfl ⟨gT,rfl,bT,rT,sb⟩
def pk {α:Type}(m:Nat)(a b c:α):α:=if m=0 then a else if m=1 then b else c
def pasC (x y z:Option Addr)(n m l X Y Z:Nat):Array Value:=#[.slice x n n,.int .u64 (lm X 0),.int .u64 (lm X 1),.int .u64 (lm X 2),.int .u64 (lm X 3),.slice y m m,.int .u64 (lm Y 0),.int .u64 (lm Y 1),.int .u64 (lm Y 2),.int .u64 (lm Y 3),.slice z l l,.int .u64 (lm Z 0),.int .u64 (lm Z 1),.int .u64 (lm Z 2),.int .u64 (lm Z 3)]
def ly8 (x:Int):Nat:=(x%256).toNat