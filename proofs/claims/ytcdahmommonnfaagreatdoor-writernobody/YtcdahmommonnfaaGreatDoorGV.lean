import Derived.Test.YtcdahmommonnfaaGreatDoorGY
set_option maxRecDepth 100000
set_option maxHeartbeats 8000000
namespace Go.Proofs.YtcdahmommonnfaaGreatDoor
set_option linter.all false
open Go.Proofs.Tryz
open Go.RowKit
def dcN (l:List UInt8):Nat->Nat
 |0=>0
 |k+1=>dcN l k*2^3+dcN l k*2^1+(yb l k-48)
def sxC (n:Nat)(f:Nat->List UInt8):Array Value:=Array.ofFn (n:=n) fun i=>.string ⟨(f i).toArray⟩
theorem Yw:(prog.info? 3).map (·.size)=some 1:=by kernel_rfl
def upN (V:Nat->Nat)(k i:Nat):Nat:=if i<k then V i else 0
def upZ (V:Nat->Int)(k i:Nat):Int:=if i<k then V i else 0
def DigS (l:List UInt8):Prop:=l.length<9223372036854775808/\ ∀i,i<l.length->48<=yb l i
def dig? (l:List UInt8):Bool:=l.all fun b=>decide (48<=b.toNat)
def dcF:List UInt8->Nat->Nat
 |[],n=>n
 |b::l,n=>dcF l (n*10+(b.toNat-48))
def leS:List UInt8:=[51,49,54,53,52,51,55,55,49,52,51,57,55,56,48,57,56,52]
def leT:List (List UInt8):=[[54,53,53,50,49],[49,57,54,54,48,50,51,49,50,55],[49,48,53,53,53,48,48,54,56,48,51,50,50,49,56,51,49,50,55]]
def leF (i:Nat):List UInt8:=leT.getD i []
theorem Dh (i:Nat)(h:i<3):lN leL i<2^256:=by
 match i,h with
 |0,_=>decide
 |1,_=>decide
 |2,_=>decide
def otS:List UInt8:=[53,52,54,50,52,51,51,51,49,51,57,53,50,52,49,50,56]
def otT:List (List UInt8):=[[54,52,56,49,55],[49,56,49,53,49,51,53,50,54,57],[52,56,55,50,54,57,48,57,49,52,52,55,48,56,49,52,50,57]]
def otF (i:Nat):List UInt8:=otT.getD i []
theorem Bo (i:Nat)(h:i<3):lN otL i<2^256:=by
 match i,h with
 |0,_=>decide
 |1,_=>decide
 |2,_=>decide
def grS:List UInt8:=[57,49,53,49,49,53,55,51,52,49,54,54,55,52,54,57,54,49,53,56,48,48,57,57,55,49,51,48,50,51,49,52,53,52,56,54,53,52,50,53,48,49,56,49,56,49,57,49,55,57,48,52,57,50,49,52,55,57,57,55,50,55,50,57]
def grT:List (List UInt8):=[[54,53,53,49,57],[49,51,49,51,57,49,56,48,50,55],[56,56,49,55,53,53,54,55,50,48,51,55,55,57,55,54,49],[54,51,53,51,55,49,57,50,50,53,54,51,51,57,57,55,53,53,49,49,57,50,57,55,54,54,54,49,56,49,53,49,55,49],[49,50,56,56,54,56,55,51,53,56,52,48,57,48,53,50,52,54,53,57,55,48,48,53,54,50,50,50,56,54,55,53,51,51,56,51,53,49,48,52,56,54,51,53,57,51,48,55,54,48,57,56,52,53,56,52,51,56,53,54,49,52,51,49,56,51]]
def grF (i:Nat):List UInt8:=grT.getD i []
section
variable {P:Program}{o:Oper}{ρ:Operand->Value}
theorem Pt (t:TypeId)(x y:Operand)(u:TypeId)(ho:o.op= .binOp .sub t x y u)(n m r:Int)(hx:ρ x= .int .i64 n)(hy:ρ y= .int .i64 m)(hr:IntKind.i64.wrap (n-m)=r)(w:World):
  (execOp ρ o).run P w= .ok (.value (.int .i64 r)) w:=by
 subst hr;unfold execOp;simp only[ho,hx,hy];simp[go_sem]
theorem Pu (t:TypeId)(x y:Operand)(u:TypeId)(ho:o.op= .binOp .quo t x y u)(n m r:Int)(hx:ρ x= .int .i64 n)(hy:ρ y= .int .i64 m)(hm: ¬m=0)(hr:IntKind.i64.wrap (n.tdiv m)=r)(w:World):
  (execOp ρ o).run P w= .ok (.value (.int .i64 r)) w:=by
 subst hr;unfold execOp;simp only[ho,hx,hy];simp[go_sem];exact hm
end
def S3 (Q:Nat):Int:=((bitLen Q:Int)-1).tdiv 8
theorem OI (Q:Nat)(h:bitLen Q<=256):IntKind.i64.wrap ((bitLen Q:Int)-1)=(bitLen Q:Int)-1/\IntKind.i64.wrap (((bitLen Q:Int)-1).tdiv 8)=S3 Q:=by
 refine⟨by rw[IntKind.wrap_i64];omega,?_⟩;unfold S3;generalize bitLen Q=x at*
 match x,h with
 |0,_=>decide
 |x+1,h=>
  have e:(((x+1:Nat):Int)-1)=(x:Int):=by omega
  rw[e,show(8:Int)=((8:Nat):Int)from rfl,<-Int.ofNat_tdiv,IntKind.wrap_i64];have:x/8<=x:=Nat.div_le_self _ _;omega
def UT (w:World)(v:Option Addr)(P Q G:Nat)(r f:Option Addr):Prop:=(v=none/\P=0/\Q=0/\G=0/\r=none/\f=none)∨ ∃g,v=some ⟨g,0,none⟩/\Row w g (gpC P Q G r f) 115
theorem UT.below {w w':World}{v:Option Addr}{P Q G:Nat}{r f:Option Addr}(h:UT w v P Q G r f)(hb:Below w.heap.size w w'):UT w' v P Q G r f:=h.imp id fun⟨g,h1,h2⟩=>⟨g,h1,h2.belowAll hb⟩
theorem GrpAt.kn {w:World}{g gr gf P Q G:Nat}(h:GrpAt w g gr gf P Q G):UT w (some ⟨g,0,none⟩) P Q G (some ⟨gr,0,none⟩) (some ⟨gf,0,none⟩):=.inr ⟨g,rfl,h.row⟩
theorem MH:prog.underlying 32=some (.pointer (prog.pointee 32)):=by kernel_rfl
theorem JC (w:World):
  Calls prog 184 #[.pointer none] w fun e w'=>e= .returned (.agg (gpC 0 0 0 none none))/\Below w.heap.size w w':=by
 go_enter func184,ntmps184
 iterate 2 go_step
 refine rp ?_;refine ZJ (by rfl) 115 rfl _ ME ?_;intro g2 z0 n0 r2 k;simp only[pv];have b2:w.heap.size<=g2:=n0;clear n0;have sb:=k_b k;clear k;refine Za ?_;iterate 4 go_step
 refine rp ?_;refine p_m ?_;simp only[pv];refine p_v _ (Y0 _ _ _ _ rfl none rfl rfl MH) (Za ?_);simp only[pv];iterate 4 go_step
 refine rp ?_;refine p_v _ (ZS _ rfl _ MF) ?_;simp only[pv];refine Z0 (by rfl) 115 _ _ rfl _ rfl r2 (gpC 0 0 0 none none) rfl (by exact Uw) (by rfl) (Hi _ _ _ _ _) ?_;clear r2;intro z2001 r2 k;simp only[Act.put];replace sb:=kk sb k;clear k;refine Za ?_;go_wp2;exact YP rfl _ rfl r2 _ underlying115 (by exact Uw) rfl ⟨rfl,sb⟩
theorem MI (g5 P Q G:Nat)(r f:Option Addr)(w:World)(r5:Row w g5 (gpC P Q G r f) 115):
  Calls prog 184 #[.pointer (some ⟨g5,0,none⟩)] w fun e w'=>e= .returned (.agg (gpC P Q G r f))/\Below w.heap.size w w':=by
 go_enter func184,ntmps184
 iterate 2 go_step
 refine rp ?_;refine ZJ (by rfl) 115 rfl _ ME ?_;intro g2 z0 n0 r2 k;simp only[pv];have d5x2:=l_l r5.lt n0;have b2:w.heap.size<=g2:=n0;clear n0;replace r5:=k.ro r5;have sb:=k_b k;clear k;refine Za ?_;iterate 4 go_step
 refine rp ?_;refine p_m ?_;simp only[pv];refine p_v _ (Y0 _ _ _ _ rfl (some ⟨g5,0,none⟩) rfl rfl MH) (Za ?_);simp only[pv];iterate 7 go_step
 refine rp ?_;refine p_m ?_;simp only[pv];refine p_v (.pointer (some ⟨g5,0,none⟩)) (Zl _ rfl g5 0 rfl) ?_;simp only[pv];refine Zf (by rfl) 115 _ rfl _ 0 rfl r5.r _ (Zu _) _ underlying115 rfl Uw ?_;simp only[pv];refine Z0 (by rfl) 115 _ _ rfl _ rfl r2 (gpC P Q G r f) rfl (by exact Uw) (by rfl) (Hi _ _ _ _ _) ?_;clear r2;intro z3003 r2 k;simp only[Act.put];replace r5:=k.ro r5;replace sb:=kk sb k;clear k;refine Za ?_;go_wp2;exact YP rfl _ rfl r2 _ underlying115 (by exact Uw) rfl ⟨rfl,sb⟩
theorem WE (v:Option Addr)(P Q G:Nat)(r f:Option Addr)(w:World)(h:UT w v P Q G r f):
  Calls prog 184 #[.pointer v] w (Rt (.agg (gpC P Q G r f)) w):=by
 rcases h with ⟨rfl,rfl,rfl,rfl,rfl,rfl⟩|⟨g,rfl,hr⟩
 ·exact JC w
 ·exact MI g P Q G r f w hr
theorem V1 (v:Option Addr)(P Q G:Nat)(r f:Option Addr)(w:World)(h:UT w v P Q G r f):
  Calls prog 222 #[.pointer v] w fun e w'=>e= .returned (.agg (Zc Q))/\Below w.heap.size w w':=by
 have hkn:=fun w' (hb:Below w.heap.size w w')=>WE v P Q G r f w' (h.below hb)
 clear h
 go_enter func222,ntmps222
 iterate 2 go_step
 refine rp ?_;refine ZJ (by rfl) 39 rfl _ Zv ?_;intro g2 z0 n0 r2 k;simp only[pv];have b2:w.heap.size<=g2:=n0;clear n0;have sb:=k_b k;clear k;refine Za ?_;iterate 3 go_step
 refine rp ?_;refine p_m ?_;simp only[pv];refine p_c 184 func184 #[.pointer v] (hkn _ sb) ?_;intro z1001 k;simp only[pv];replace r2:=k.ro r2;replace sb:=kk sb k;clear k;refine p_v _ (YU _ _ _ rfl _ _ rfl (Qi P Q G r f)) ?_;simp only[pv];refine p_v _ (YU _ _ _ rfl _ _ rfl (Df P Q G)) ?_;simp only[pv];refine p_p r2 Q ?_;clear r2;intro z1004 r2 k;simp only[Act.put];replace sb:=kk sb k;clear k;refine Za ?_;go_wp2;exact ZX rfl _ rfl r2 4 _ underlying39 (by exact Ze) rfl ⟨rfl,sb⟩
theorem JD (v:Option Addr)(P Q G:Nat)(r f:Option Addr)(w:World)(h:UT w v P Q G r f):
  Calls prog 256 #[.pointer v] w fun e w'=>e= .returned (.agg (Zc G))/\Below w.heap.size w w':=by
 have hkn:=fun w' (hb:Below w.heap.size w w')=>WE v P Q G r f w' (h.below hb)
 clear h
 go_enter func256,ntmps256
 iterate 2 go_step
 refine rp ?_;refine ZJ (by rfl) 39 rfl _ Zv ?_;intro g2 z0 n0 r2 k;simp only[pv];have b2:w.heap.size<=g2:=n0;clear n0;have sb:=k_b k;clear k;refine Za ?_;iterate 3 go_step
 refine rp ?_;refine p_m ?_;simp only[pv];refine p_c 184 func184 #[.pointer v] (hkn _ sb) ?_;intro z1001 k;simp only[pv];replace r2:=k.ro r2;replace sb:=kk sb k;clear k;refine p_v _ (YU _ _ _ rfl _ _ rfl (Qi P Q G r f)) ?_;simp only[pv];refine p_v _ (YU _ _ _ rfl _ _ rfl (Bm P Q G)) ?_;simp only[pv];refine p_p r2 G ?_;clear r2;intro z1004 r2 k;simp only[Act.put];replace sb:=kk sb k;clear k;refine Za ?_;go_wp2;exact ZX rfl _ rfl r2 4 _ underlying39 (by exact Ze) rfl ⟨rfl,sb⟩
theorem Qk (v:Option Addr)(P Q G:Nat)(r f:Option Addr)(w:World)(h:UT w v P Q G r f):
  Calls prog 272 #[.pointer v] w fun e w'=>e= .returned (.pointer r)/\Below w.heap.size w w':=by
 have hkn:=fun w' (hb:Below w.heap.size w w')=>WE v P Q G r f w' (h.below hb)
 clear h
 go_enter func272,ntmps272
 have sb:=Below.refl w.heap.size w;iterate 2 go_step
 refine rp ?_;refine p_v (.pointer none) (fun _=>rfl) (Za ?_);simp only[pv];iterate 3 go_step
 refine rp ?_;refine p_m ?_;simp only[pv];refine p_c 184 func184 #[.pointer v] (hkn _ sb) ?_;intro z1001 k;simp only[pv];replace sb:=kk sb k;clear k;refine p_v _ (YU _ _ _ rfl _ _ rfl (Fj P Q G r f)) ?_;refine p_a (Za ?_);simp only[pv];go_wp2;go_ret;exact⟨rfl,sb⟩
theorem Xu (v:Option Addr)(P Q G:Nat)(r f:Option Addr)(w:World)(h:UT w v P Q G r f):
  Calls prog 250 #[.pointer v] w fun e w'=>e= .returned (.pointer f)/\Below w.heap.size w w':=by
 have hkn:=fun w' (hb:Below w.heap.size w w')=>WE v P Q G r f w' (h.below hb)
 clear h
 go_enter func250,ntmps250
 have sb:=Below.refl w.heap.size w;iterate 2 go_step
 refine rp ?_;refine p_v (.pointer none) (fun _=>rfl) (Za ?_);simp only[pv];iterate 3 go_step
 refine rp ?_;refine p_m ?_;simp only[pv];refine p_c 184 func184 #[.pointer v] (hkn _ sb) ?_;intro z1001 k;simp only[pv];replace sb:=kk sb k;clear k;refine p_v _ (YU _ _ _ rfl _ _ rfl (JA P Q G r f)) ?_;refine p_a (Za ?_);simp only[pv];go_wp2;go_ret;exact⟨rfl,sb⟩
theorem Ql (v:Option Addr)(P Q G:Nat)(r f:Option Addr)(w:World)(hQ:Q<2^256)(h:UT w v P Q G r f):
  Calls prog 137 #[.pointer v] w fun e w'=>e= .returned (.int .i64 (S3 Q))/\Below w.heap.size w w':=by
 have hkn:=fun w' (hb:Below w.heap.size w w')=>WE v P Q G r f w' (h.below hb)
 have hle:=fun w'=>XW Q w' hQ
 obtain⟨hw1,hw2⟩:=OI Q (Um Q 256 hQ);clear h hQ;generalize S3 Q=Z at*;generalize (bitLen Q:Int)=BL at*
 go_enter func137,ntmps137
 have sb:=Below.refl w.heap.size w;repeat((fail_if_success with_reducible apply rg);go_step)
 refine rp ?_;refine p_v (.int .i64 0) (fun _=>rfl) (Za ?_);simp only[pv];repeat((fail_if_success with_reducible apply rg);go_step)
 refine rp ?_;refine p_m ?_;simp only[pv];refine p_c 184 func184 #[.pointer v] (hkn _ sb) ?_;intro z1001 k;simp only[pv];replace sb:=kk sb k;clear k;refine p_v _ (YU _ _ _ rfl _ _ rfl (Qi P Q G r f)) ?_;simp only[pv];refine p_v _ (YU _ _ _ rfl _ _ rfl (Df P Q G)) ?_;simp only[pv];refine p_c 82 func82 #[.agg (Zc Q)] (hle _) ?_;intro z1004 k;simp only[pv];replace sb:=kk sb k;clear k;refine p_v (.int .i64 (BL-1)) (Pt _ _ _ _ rfl BL 1 _ rfl rfl hw1) ?_;simp only[pv];refine p_v _ (Pu _ _ _ _ rfl (BL-1) 8 Z rfl rfl (by decide) hw2) ?_;refine p_a (Za ?_);simp only[pv];go_wp2;go_ret;exact⟨rfl,sb⟩
theorem Di (n c:Nat)(ab:Option Addr)(G:Nat)(N:Nat->Nat)(A:Nat->Int)(gb ob:Nat)(bcs:Array Value)(tb:TypeId)(w:World)(h2:2<=n)(hn:n<9223372036854775808)(hL:LinksAt w ab n N A gb ob bcs tb):
  Calls prog 65 #[.agg (paC ab n c G)] w fun e w'=>e= .returned (.agg (Zc (N (n-1))))/\Below w.heap.size w w':=by
 obtain h0|⟨rfl,rB,hat⟩:=hL.at'
 ·omega
 have h1:=hat (n-1) (by omega);clear hL hat;generalize N (n-1)=P at*;generalize A (n-1)=zp at*
 go_enter func65,ntmps65
 iterate 2 go_step
 refine rp ?_;refine ZD (by rfl) 41 _ rfl (_) rfl ?_;intro g1 z0 n0 r1 k;simp only[pv];have b1:w.heap.size<=g1:=n0;clear n0;have sb:=k_b k;clear k;refine ZJ (by rfl) 39 rfl _ Zv ?_;intro g2 z1 n0 r2 k;simp only[pv];have d1x2:=l_l r1.lt n0;have b2:=Nat.le_trans sb.size n0;clear n0;replace r1:=k.ro r1;replace sb:=kk sb k;clear k;refine Za ?_;replace rB:=rB.belowAll sb;iterate 4 go_step
 refine rp ?_;refine p_v _ (Zb 41 _ 0 rfl g1 0 rfl _ underlying41 _ rfl 0 sizeOf36) ?_;simp only[pv];refine p_d 0 r1.r (.slice (some ⟨gb,ob,none⟩) n c) rfl isAgg36 ?_;simp only[pv];refine p_v _ (n_l (some ⟨gb,ob,none⟩) n c Wp) ?_;refine p_v _ (Xy n 2) (Za ?_);simp only[pv];iterate 7 go_step
 refine rp ?_;refine p_v _ (Zb 41 _ 0 rfl g1 0 rfl _ underlying41 _ rfl 0 sizeOf36) ?_;simp only[pv];refine p_d 0 r1.r (.slice (some ⟨gb,ob,none⟩) n c) rfl isAgg36 ?_;simp only[pv];refine p_v _ (Zb 41 _ 0 rfl g1 0 rfl _ underlying41 _ rfl 0 sizeOf36) ?_;simp only[pv];refine p_d 0 r1.r (.slice (some ⟨gb,ob,none⟩) n c) rfl isAgg36 ?_;simp only[pv];refine p_v _ (n_l (some ⟨gb,ob,none⟩) n c Wp) ?_;simp only[pv];refine p_v _ (ZT _ _ _ _ rfl n 1 rfl rfl (by omega) hn) ?_;simp only[pv];refine p_v _ (Zs 36 _ _ rfl gb ob n c rfl (n-1) rfl (by omega) _ underlying36 5 sizeOf148) ?_;simp only[pv];refine p_v _ (Zb 148 _ 0 rfl gb (ob+(n-1)*5) rfl _ underlying148 _ rfl 3 sizeOf39) ?_;simp only[pv];refine Zf (by rfl) 39 _ rfl _ (ob+(n-1)*5) rfl rB (Zc P) (VJ h1) _ underlying39 rfl Ze ?_;simp only[pv];refine p_p r2 P ?_;clear r2;intro z3009 r2 k;simp only[Act.put];replace r1:=k.ro r1;replace sb:=kk sb k;clear k;refine Za ?_;go_wp2;exact ZX rfl _ rfl r2 4 _ underlying39 (by exact Ze) rfl ⟨rfl,sb⟩
theorem Dj (n c:Nat)(ab:Option Addr)(G:Nat)(N:Nat->Nat)(A:Nat->Int)(gb ob:Nat)(bcs:Array Value)(tb:TypeId)(w:World)(h2:2<=n)(hn:n<9223372036854775808)(hL:LinksAt w ab n N A gb ob bcs tb):
  Calls prog 66 #[.agg (paC ab n c G)] w fun e w'=>e= .returned (.agg (Zc (N (n-2))))/\Below w.heap.size w w':=by
 obtain h0|⟨rfl,rB,hat⟩:=hL.at'
 ·omega
 have h1:=hat (n-2) (by omega);clear hL hat;generalize N (n-2)=P at*;generalize A (n-2)=zp at*
 go_enter func66,ntmps66
 iterate 2 go_step
 refine rp ?_;refine ZD (by rfl) 41 _ rfl (_) rfl ?_;intro g1 z0 n0 r1 k;simp only[pv];clear n0;have sb:=k_b k;clear k;refine ZJ (by rfl) 39 rfl _ Zv ?_;intro g2 z1 n0 r2 k;simp only[pv];have d1x2:=l_l r1.lt n0;have b2:=Nat.le_trans sb.size n0;clear n0;replace r1:=k.ro r1;replace sb:=kk sb k;clear k;refine Za ?_;replace rB:=rB.belowAll sb;iterate 4 go_step
 refine rp ?_;refine p_v _ (Zb 41 _ 0 rfl g1 0 rfl _ underlying41 _ rfl 0 sizeOf36) ?_;simp only[pv];refine p_d 0 r1.r (.slice (some ⟨gb,ob,none⟩) n c) rfl isAgg36 ?_;simp only[pv];refine p_v _ (n_l (some ⟨gb,ob,none⟩) n c Wp) ?_;refine p_v _ (Xy n 2) (Za ?_);simp only[pv];iterate 7 go_step
 refine rp ?_;refine p_v _ (Zb 41 _ 0 rfl g1 0 rfl _ underlying41 _ rfl 0 sizeOf36) ?_;simp only[pv];refine p_d 0 r1.r (.slice (some ⟨gb,ob,none⟩) n c) rfl isAgg36 ?_;simp only[pv];refine p_v _ (Zb 41 _ 0 rfl g1 0 rfl _ underlying41 _ rfl 0 sizeOf36) ?_;simp only[pv];refine p_d 0 r1.r (.slice (some ⟨gb,ob,none⟩) n c) rfl isAgg36 ?_;simp only[pv];refine p_v _ (n_l (some ⟨gb,ob,none⟩) n c Wp) ?_;simp only[pv];refine p_v _ (ZT _ _ _ _ rfl n 2 rfl rfl (by omega) hn) ?_;simp only[pv];refine p_v _ (Zs 36 _ _ rfl gb ob n c rfl (n-2) rfl (by omega) _ underlying36 5 sizeOf148) ?_;simp only[pv];refine p_v _ (Zb 148 _ 0 rfl gb (ob+(n-2)*5) rfl _ underlying148 _ rfl 3 sizeOf39) ?_;simp only[pv];refine Zf (by rfl) 39 _ rfl _ (ob+(n-2)*5) rfl rB (Zc P) (VJ h1) _ underlying39 rfl Ze ?_;simp only[pv];refine p_p r2 P ?_;clear r2;intro z3009 r2 k;simp only[Act.put];replace r1:=k.ro r1;replace sb:=kk sb k;clear k;refine Za ?_;go_wp2;exact ZX rfl _ rfl r2 4 _ underlying39 (by exact Ze) rfl ⟨rfl,sb⟩
theorem MJ {n:Nat}(vs:List (Nat×Value))(c:Array Value)(k:Nat)(hk:k=5)(h:Instr.fill (fun i=>some (i*5,5)) ((Array.range (n*5)).map ((Value.agg #[.int .u64 0,.int .u64 0,.int .u64 0,.int .u64 0,.int .i64 0]).cells[· %(Value.agg #[.int .u64 0,.int .u64 0,.int .u64 0,.int .u64 0,.int .i64 0]).cells.size]!)) vs=some c):
  Instr.fill (fun i=>some (i*k,k)) ((Array.range (n*k)).map ((Value.agg #[.int .u64 0,.int .u64 0,.int .u64 0,.int .u64 0,.int .i64 0]).cells[· %(Value.agg #[.int .u64 0,.int .u64 0,.int .u64 0,.int .u64 0,.int .i64 0]).cells.size]!)) vs=some c:=by
 subst hk;exact h
theorem Fm:Instr.fill (fun i=>some (i*5,5)) ((Array.range (3*5)).map ((Value.agg #[.int .u64 0,.int .u64 0,.int .u64 0,.int .u64 0,.int .i64 0]).cells[· %(Value.agg #[.int .u64 0,.int .u64 0,.int .u64 0,.int .u64 0,.int .i64 0]).cells.size]!)) [(0,.agg (lkC 65521 0)),(1,.agg (lkC 1966023127 2)),(2,.agg (lkC 1055500680322183127 2))]=some (RK 3 (lN leL) SY):=by kernel_rfl
theorem Td (w:World):
  Calls prog 34 #[] w fun e w'=> ∃g,e= .returned (.agg (paC (some ⟨g,0,none⟩) 3 3 leG))/\w.heap.size<=g/\Row w' g (RK 3 (lN leL) SY) 148/\Below w.heap.size w w':=by
 obtain⟨ie,hie,hz,hsz⟩:=Pq
 have hs1: ¬3*ie.size>2^24:=by rw[hsz];decide
 have hs2: ¬3*ie.size=0:=by rw[hsz];decide
 have hl:=MJ _ _ ie.size hsz Fm
 go_enter func34,ntmps34
 iterate 2 go_step
 refine rp ?_;refine ZJ (by rfl) 41 rfl _ Uu ?_;intro g0 z0 n0 r0 k;simp only[Act.put,List.setIfInBounds_toArray,List.set_cons_zero];have b0:w.heap.size<=g0:=n0;clear n0;have sb:=k_b k;clear k;refine Za ?_;iterate 3 go_step
 refine rp ?_;refine p_v (.agg (Zc 65521)) (Zm _ _ rfl [(0,.int .u64 65521)] rfl _ (by kernel_rfl)) ?_;simp only[pv];refine p_v _ (XL 65521 0 rfl rfl rfl) ?_;simp only[pv];refine p_v (.agg (Zc 1966023127)) (Zm _ _ rfl [(0,.int .u64 1966023127)] rfl _ (by kernel_rfl)) ?_;simp only[pv];refine p_v _ (XL 1966023127 2 rfl rfl rfl) ?_;simp only[pv];refine p_v (.agg (Zc 1055500680322183127)) (Zm _ _ rfl [(0,.int .u64 1055500680322183127)] rfl _ (by kernel_rfl)) ?_;simp only[pv];refine p_v _ (XL 1055500680322183127 2 rfl rfl rfl) ?_;simp only[pv];refine Xg (by rfl) 36 148 3 _ rfl (RK 3 (lN leL) SY) ie _ underlying36 hie hz hs1 hs2 [(0,.agg (lkC 65521 0)),(1,.agg (lkC 1966023127 2)),(2,.agg (lkC 1055500680322183127 2))] rfl hl ?_;intro gT z1006 n0 rT k;simp only[pv];have d0xT:=l_l r0.lt n0;have bT:=Nat.le_trans sb.size n0;clear n0;replace r0:=k.ro r0;replace sb:=kk sb k;clear k;refine p_v (.agg (Zc 316543771439780984)) (Zm _ _ rfl [(0,.int .u64 316543771439780984)] rfl _ (by kernel_rfl)) ?_;simp only[pv];refine p_v _ (Zm _ _ rfl [(0,.slice (some ⟨gT,0,none⟩) 3 3),(1,.agg (Zc leG))] rfl _ (Pr _ _ _ _)) ?_;simp only[pv];refine Z0 (by rfl) 41 _ _ rfl _ rfl r0 (paC (some ⟨gT,0,none⟩) 3 3 leG) rfl (by exact Y3) (by rfl) (S1 _ _ _ _) ?_;clear r0;intro z1009 r0 k;simp only[Act.put];replace rT:=k.ro rT;replace sb:=kk sb k;clear k;refine Za ?_;go_wp2;exact YP rfl _ rfl r0 _ underlying41 (by exact Y3) rfl ⟨gT,rfl,bT,rT,sb⟩
theorem Fo:Instr.fill (fun i=>some (i*5,5)) ((Array.range (3*5)).map ((Value.agg #[.int .u64 0,.int .u64 0,.int .u64 0,.int .u64 0,.int .i64 0]).cells[· %(Value.agg #[.int .u64 0,.int .u64 0,.int .u64 0,.int .u64 0,.int .i64 0]).cells.size]!)) [(0,.agg (lkC 64817 0)),(1,.agg (lkC 1815135269 2)),(2,.agg (lkC 487269091447081429 2))]=some (RK 3 (lN otL) SY):=by kernel_rfl
theorem OJ (w:World):
  Calls prog 43 #[] w fun e w'=> ∃g,e= .returned (.agg (paC (some ⟨g,0,none⟩) 3 3 otG))/\w.heap.size<=g/\Row w' g (RK 3 (lN otL) SY) 148/\Below w.heap.size w w':=by
 obtain⟨ie,hie,hz,hsz⟩:=Pq
 have hs1: ¬3*ie.size>2^24:=by rw[hsz];decide
 have hs2: ¬3*ie.size=0:=by rw[hsz];decide
 have hl:=MJ _ _ ie.size hsz Fo
 go_enter func43,ntmps43
 iterate 2 go_step
 refine rp ?_;refine ZJ (by rfl) 41 rfl _ Uu ?_;intro g0 z0 n0 r0 k;simp only[Act.put,List.setIfInBounds_toArray,List.set_cons_zero];have b0:w.heap.size<=g0:=n0;clear n0;have sb:=k_b k;clear k;refine Za ?_;iterate 3 go_step
 refine rp ?_;refine p_v (.agg (Zc 64817)) (Zm _ _ rfl [(0,.int .u64 64817)] rfl _ (by kernel_rfl)) ?_;simp only[pv];refine p_v _ (XL 64817 0 rfl rfl rfl) ?_;simp only[pv];refine p_v (.agg (Zc 1815135269)) (Zm _ _ rfl [(0,.int .u64 1815135269)] rfl _ (by kernel_rfl)) ?_;simp only[pv];refine p_v _ (XL 1815135269 2 rfl rfl rfl) ?_;simp only[pv];refine p_v (.agg (Zc 487269091447081429)) (Zm _ _ rfl [(0,.int .u64 487269091447081429)] rfl _ (by kernel_rfl)) ?_;simp only[pv];refine p_v _ (XL 487269091447081429 2 rfl rfl rfl) ?_;simp only[pv];refine Xg (by rfl) 36 148 3 _ rfl (RK 3 (lN otL) SY) ie _ underlying36 hie hz hs1 hs2 [(0,.agg (lkC 64817 0)),(1,.agg (lkC 1815135269 2)),(2,.agg (lkC 487269091447081429 2))] rfl hl ?_;intro gT z1006 n0 rT k;simp only[pv];have d0xT:=l_l r0.lt n0;have bT:=Nat.le_trans sb.size n0;clear n0;replace r0:=k.ro r0;replace sb:=kk sb k;clear k;refine p_v (.agg (Zc 54624333139524128)) (Zm _ _ rfl [(0,.int .u64 54624333139524128)] rfl _ (by kernel_rfl)) ?_;simp only[pv];refine p_v _ (Zm _ _ rfl [(0,.slice (some ⟨gT,0,none⟩) 3 3),(1,.agg (Zc otG))] rfl _ (Pr _ _ _ _)) ?_;simp only[pv];refine Z0 (by rfl) 41 _ _ rfl _ rfl r0 (paC (some ⟨gT,0,none⟩) 3 3 otG) rfl (by exact Y3) (by rfl) (S1 _ _ _ _) ?_;clear r0;intro z1009 r0 k;simp only[Act.put];replace rT:=k.ro rT;replace sb:=kk sb k;clear k;refine Za ?_;go_wp2;exact YP rfl _ rfl r0 _ underlying41 (by exact Y3) rfl ⟨gT,rfl,bT,rT,sb⟩
def pk {α:Type}(m:Nat)(a b c:α):α:=if m=0 then a else if m=1 then b else c
def pasC (x y z:Option Addr)(n m l X Y Z:Nat):Array Value:=#[.slice x n n,.int .u64 (lm X 0),.int .u64 (lm X 1),.int .u64 (lm X 2),.int .u64 (lm X 3),.slice y m m,.int .u64 (lm Y 0),.int .u64 (lm Y 1),.int .u64 (lm Y 2),.int .u64 (lm Y 3),.slice z l l,.int .u64 (lm Z 0),.int .u64 (lm Z 1),.int .u64 (lm Z 2),.int .u64 (lm Z 3)]
def ly8 (x:Int):Nat:=(x%256).toNat
end Go.Proofs.YtcdahmommonnfaaGreatDoor
