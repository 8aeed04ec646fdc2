import Derived.WalkKit
import Derived.WalkSpells
import Derived.Deep.WholeRow
import Derived.Deep.LoopGhost
import Derived.Deep.QuietTactic
import Derived.BigQuiet
import Derived.Test.YtnagnkhbamhfmaaGreatDoorRows
namespace Go.Proofs.YtnagnkhbamhfmaaGreatDoor
set_option linter.all false
abbrev a_:=@List.nodup_nil
abbrev b_:=@Go.Proofs.Tryz.underlying57
abbrev c_:=@decide_eq_true
abbrev d_:=@decide_eq_false
abbrev e_:=@Nat.le_refl
abbrev f_:=@Nat.le_trans
abbrev g_:=@Nat.mod_eq_of_lt
abbrev h_:=@Array.getElem?_eq_none
abbrev i_:=@if_pos
abbrev j_:=@if_neg
abbrev k_:=@Array.getElem?_toList
abbrev l_:=@Nat.lt_of_lt_of_le
abbrev m_:=@Go.Result.andThen_ok
abbrev n_:=@Nat.mod_lt
abbrev o_:=@Nat.testBit_mod_two_pow
abbrev p_:=@Bool.and_eq_true
abbrev q_:=@Int.toNat_natCast
abbrev r_:=@Go.Sem.run_bind
abbrev s_:=@List.getD_eq_getElem?_getD
abbrev t_:=@Go.Proofs.Tryz.underlying22
abbrev u_:=@Nat.mul_comm
abbrev v_:=@Nat.two_pow_pos
abbrev w_:=@Nat.mul_assoc
abbrev x_:=@Nat.eq_of_testBit_eq
abbrev y_:=@Nat.mul_le_mul_right
abbrev z_:=@Nat.div_div_eq_div_mul
abbrev A_:=@Nat.zero_add
abbrev B_:=@Array.ext_getElem?
abbrev C_:=@List.mem_singleton
abbrev D_:=@Array.length_toList
abbrev E_:=@Nat.lt_trans
abbrev F_:=@Go.Proofs.Tryz.underlying64
abbrev G_:=@Nat.add_mul_mod_self_left
abbrev H_:=@Go.RowKit.Below.refl
abbrev I_:=@Nat.mul_one
abbrev J_:=@Go.Proofs.Tryz.underlying111
abbrev K_:=@Nat.div_eq_of_lt
abbrev L_:=@Go.Proofs.Tryz.underlying50
abbrev M_:=@Go.Proofs.Tryz.underlying27
abbrev N_:=@Bool.false_and
abbrev O_:=@Go.IntKind.wrap_i64
abbrev P_:=@List.mem_cons_of_mem
abbrev Q_:=@Go.Proofs.Tryz.sizeOf3
abbrev R_:=@Nat.div_add_mod
abbrev S_:=@Go.Proofs.Tryz.underlying9
abbrev T_:=@Array.getElem?_eq_some_iff
abbrev U_:=@Go.IntKind.wrap_u64
abbrev V_:=@Go.zero_of_info
abbrev W_:=@Array.getElem?_eq_getElem
abbrev X_:=@Nat.lt_of_le_of_lt
abbrev Y_:=@decide_eq_true_iff
abbrev Z_:=@Go.Proofs.Tryz.isAgg22
abbrev aA0:=@Go.run_underlying
abbrev aB0:=@Nat.pow_zero
abbrev aC0:=@Go.Proofs.Tryz.sizeOf22
abbrev aD0:=@Go.Proofs.Tryz.isAgg3
abbrev aE0:=@Go.Proofs.Tryz.underlying31
abbrev aF0:=@Bool.true_and
abbrev aG0:=@Nat.pow_add
abbrev aH0:=@Nat.mul_le_mul_left
abbrev aI0:=@Array.getElem?_setIfInBounds
abbrev aJ0:=@Go.Sem.run_pure
abbrev aK0:=@Nat.lt_or_ge
abbrev aL0:=@Nat.mul_le_mul
abbrev aM0:=@Nat.mul_add
abbrev aN0:=@Nat.mul_mod
abbrev aO0:=@Nat.eq_zero_or_pos
abbrev aP0:=@Nat.div_lt_of_lt_mul
abbrev aQ0:=@Nat.pow_le_pow_right
abbrev aR0:=@Go.Proofs.Tryz.underlying32
abbrev aS0:=@List.length_append
abbrev aT0:=@Option.some.injEq
abbrev aU0:=@Int.eq_ofNat_of_zero_le
abbrev aV0:=@Go.Proofs.Tryz.sizeOf57
abbrev aW0:=@Nat.mod_one
abbrev aX0:=@List.all_eq_true
abbrev aY0:=@Array.toList_map
abbrev aZ0:=@List.eq_nil_of_length_eq_zero
abbrev bA0:=@Option.map_some
abbrev bB0:=@Nat.testBit_eq_decide_div_mod_eq
abbrev bC0:=@Nat.testBit_div_two_pow
abbrev bD0:=@Nat.add_mul
abbrev bE0:=@Go.Proofs.Tryz.underlying206
abbrev bF0:=@Nat.add_sub_cancel_left
abbrev bG0:=@Nat.div_lt_iff_lt_mul
abbrev bH0:=@Go.Proofs.Tryz.underlying59
abbrev bI0:=@List.mem_cons_self
abbrev bJ0:=@List.length_cons
abbrev bK0:=@Nat.mul_zero
abbrev bL0:=@List.mem_zipIdx_iff_getElem?
abbrev bM0:=@Nat.add_zero
abbrev bN0:=@Array.toList_inj
abbrev bO0:=@decide_eq_decide
abbrev bP0:=@Nat.div_le_self
abbrev bQ0:=@Bool.or_eq_true
abbrev bR0:=@Go.Proofs.Tryz.underlying3
abbrev bS0:=@Bool.and_false
abbrev bT0:=@Nat.add_comm
abbrev bU0:=@List.mem_append_right
abbrev bV0:=@Nat.ne_of_lt
abbrev bW0:=@Nat.div_mul_le_self
abbrev bX0:=@Go.Proofs.Tryz.underlying5
abbrev bY0:=@Nat.div_one
abbrev bZ0:=@Go.Proofs.Tryz.underlying197
abbrev cA0:=@Array.all_eq_true_iff_forall_mem
abbrev cB0:=@Go.Proofs.Tryz.sizeOf55
abbrev cC0:=@Go.run_loadVar_row
abbrev cD0:=@Nat.zero_mul
abbrev cE0:=@List.length_drop
abbrev cF0:=@Bool.not_eq_true'
abbrev cG0:=@decide_eq_true_eq
abbrev cH0:=@List.setIfInBounds_toArray
abbrev cI0:=@Go.Proofs.Tryz.sizeOf196
abbrev cJ0:=@Nat.and_two_pow_sub_one_eq_mod
abbrev cK0:=@Nat.pow_succ
abbrev cL0:=@Go.Proofs.Tryz.underlying30
abbrev cM0:=@Nat.testBit_or
abbrev cN0:=@Option.some.inj
abbrev cO0:=@Int.natCast_mul
abbrev cP0:=@Go.Proofs.Tryz.underlying200
abbrev cQ0:=@Nat.le_div_iff_mul_le
abbrev cR0:=@Go.Proofs.Tryz.underlying67
abbrev cS0:=@UInt8.toNat_ofNat_of_lt'
abbrev cT0:=@Nat.mul_add_div
abbrev cU0:=@Array.getD_eq_getD_getElem?
abbrev cV0:=@Nat.one_mul
abbrev cW0:=@Nat.not_lt_zero
abbrev cX0:=@List.map_toArray
abbrev cY0:=@Nat.lt_succ_of_lt
abbrev cZ0:=@List.getElem?_map
abbrev dA0:=@List.getElem?_eq_some_iff
abbrev dB0:=@congrArg
abbrev dC0:=@List.getElem?_append_left
abbrev dD0:=@Go.Proofs.Tryz.underlying228
abbrev dE0:=@List.getElem?_eq_getElem
abbrev dF0:=@List.mem_append_left
abbrev dG0:=@Go.Proofs.Tryz.underlying160
abbrev dH0:=@Go.Proofs.Tryz.underlying225
abbrev dI0:=@Prod.mk.injEq
abbrev dJ0:=@Go.Proofs.Tryz.underlying106
abbrev dK0:=@Go.Proofs.Tryz.isAgg25
abbrev dL0:=@Go.Proofs.Tryz.underlying118
abbrev dM0:=@Int.mul_left_comm
abbrev dN0:=@Bool.eq_false_iff
abbrev dO0:=@List.append_assoc
abbrev dP0:=@of_decide_eq_true
abbrev dQ0:=@Nat.mod_mod
abbrev dR0:=@Go.RowKit.Below.alloc
abbrev dS0:=@Nat.zero_le
abbrev dT0:=@Option.map_none
abbrev dU0:=@List.append_nil
abbrev dV0:=@Nat.dvd_of_mod_eq_zero
abbrev dW0:=@Go.Proofs.Tryz.sizeOf64
abbrev dX0:=@Int.add_mul_emod_self_left
abbrev dY0:=@Int.tmod_eq_emod_of_nonneg
abbrev dZ0:=@List.getElem?_append_right
abbrev eA0:=@List.length_take
abbrev eB0:=@List.set_cons_zero
abbrev eC0:=@Bool.false_or
abbrev eD0:=@Nat.lt_div_mul_add
abbrev eE0:=@Nat.zero_mod
abbrev eF0:=@Go.Proofs.Tryz.underlying226
abbrev eG0:=@Nat.le_of_dvd
abbrev eH0:=@Go.Proofs.Tryz.underlying54
abbrev eI0:=@Go.Proofs.Tryz.isAgg196
abbrev eJ0:=@Option.isSome_iff_exists
abbrev eK0:=@Go.Proofs.Tryz.isAgg55
abbrev eL0:=@Nat.mul_left_comm
abbrev eM0:=@Array.size_setIfInBounds
abbrev eN0:=@List.length_nil
abbrev eO0:=@Nat.mod_mul_mod
abbrev eP0:=@Go.Proofs.Tryz.isAgg50
abbrev eQ0:=@Go.Proofs.Tryz.underlying22
abbrev eR0:=@Go.Value.slice.injEq
abbrev eS0:=@Go.bodyPost_ret
abbrev eT0:=@Go.Proofs.Tryz.underlying56
abbrev eU0:=@Nat.testBit_two_pow
abbrev eV0:=@Nat.add_mod
abbrev eW0:=@List.mem_cons
abbrev eX0:=@Nat.lt_irrefl
abbrev eY0:=@List.map_cons
abbrev eZ0:=@Go.Proofs.Tryz.isAgg31
abbrev fA0:=@Go.Proofs.Tryz.underlying198
abbrev fB0:=@decide_eq_false_iff_not
abbrev fC0:=@Nat.le_of_not_lt
abbrev fD0:=@List.mem_range
abbrev fE0:=@Go.size_madeCells
abbrev fF0:=@Nat.testBit_lt_two_pow
abbrev fG0:=@List.mem_map
abbrev fH0:=@List.contains_iff_mem
abbrev fI0:=@Go.bitLen_shift
abbrev fJ0:=@Nat.mul_lt_mul_of_pos_right
abbrev fK0:=@Nat.sub_self
abbrev fL0:=@Nat.succ_mul
abbrev fM0:=@Nat.two_pow_add_eq_or_of_lt
abbrev fN0:=@List.getElem?_eq_none
abbrev fO0:=@Go.Proofs.Tryz.sizeOf5
abbrev fP0:=@Go.Proofs.Tryz.underlying57
abbrev fQ0:=@Go.Proofs.Tryz.underlying181
abbrev fR0:=@Nat.add_mul_mod_self_right
abbrev fS0:=@Go.wpList_store_row
abbrev fT0:=@Int.natCast_emod
abbrev fU0:=@Nat.mul_mod_left
abbrev fV0:=@List.map_nil
abbrev fW0:=@Go.heap_setCell_other
abbrev fX0:=@List.mem_append
abbrev fY0:=@Go.run_makeSlice
abbrev fZ0:=@Nat.mul_right_comm
abbrev gA0:=@Nat.testBit_two_pow_mul
abbrev gB0:=@Array.setIfInBounds_setIfInBounds
abbrev gC0:=@Nat.mul_div_cancel
abbrev gD0:=@Go.Proofs.Tryz.func156
abbrev gE0:=@List.length_eq_zero_iff
abbrev gF0:=@Go.Exit.noGoto_ret
abbrev gG0:=@UInt8.toNat_ofNat'
abbrev gH0:=@Nat.testBit_and
abbrev gI0:=@Go.Proofs.Tryz.underlying196
abbrev gJ0:=@List.getElem?_cons_succ
abbrev gK0:=@Nat.mod_eq_zero_of_dvd
abbrev gL0:=@ByteArray.data_extract
abbrev gM0:=@Go.bitLen_le8
abbrev gN0:=@Int.emod_eq_of_lt
abbrev gO0:=@Nat.pow_mod
abbrev gP0:=@Array.all_eq_true
abbrev gQ0:=@Go.World.ownsRow_nil
abbrev gR0:=@List.ext_getElem?
abbrev gS0:=@Go.World.cells?_some
abbrev gT0:=@Go.Proofs.Tryz.underlying55
abbrev gU0:=@Go.heap_alloc_new
abbrev gV0:=@Go.Proofs.Tryz.sizeOf54
abbrev gW0:=@Go.DataW.trod_int
abbrev gX0:=@Go.wpList_plain
abbrev gY0:=@Bool.or_true
abbrev gZ0:=@Go.Proofs.Tryz.underlying55
abbrev hB0:=@Nat.mul_div_mul_right
abbrev hC0:=@Nat.lt_succ_self
abbrev hG0:=@Nat.pow_lt_pow_of_lt
abbrev hH0:=@Bool.or_eq_false_iff
abbrev hI0:=@Go.Proofs.Tryz.func50
abbrev hJ0:=@Nat.div_le_div_right
abbrev hK0:=@List.getElem?_append
abbrev hO0:=@Go.u64_or_nat
abbrev hP0:=@Go.Proofs.Tryz.func57
abbrev hQ0:=@Nat.log2_lt
abbrev hR0:=@List.getElem?_range
abbrev hU0:=@Nat.mod_add_div
abbrev hV0:=@Nat.pow_one
abbrev hY0:=@Go.Proofs.Tryz.sizeOf106
abbrev hZ0:=@Nat.testBit_xor
abbrev iA0:=@List.set_cons_succ
abbrev iB0:=@Nat.and_one_is_mod
abbrev iC0:=@List.find?_eq_none
abbrev iD0:=@Nat.le_of_lt
abbrev iE0:=@Nat.gcd_zero_right
abbrev iF0:=@Go.Proofs.Tryz.isAgg225
abbrev iG0:=@Go.run_sliceAt_string
abbrev iH0:=@Go.Proofs.Tryz.isAgg54
abbrev iI0:=@Go.size_zeroCells
abbrev iJ0:=@Go.Proofs.Tryz.func213
abbrev iK0:=@Go.run_build
abbrev iL0:=@Go.Proofs.Tryz.func112
abbrev iM0:=@Go.Proofs.Tryz.ntmps153
abbrev iN0:=@Nat.add_assoc
abbrev iO0:=@Go.Proofs.Tryz.func158
abbrev iP0:=@Int.lt_irrefl
abbrev iQ0:=@Nat.pow_mul
abbrev iR0:=@Nat.le_zero
abbrev iS0:=@Go.Proofs.Tryz.func154
abbrev iT0:=@Go.Proofs.Tryz.func161
abbrev iU0:=@Go.Proofs.Tryz.func101
abbrev iV0:=@true_and
abbrev iW0:=@Go.Proofs.Tryz.func33
theorem pb {α:Type}(l:List α)(i:Nat)(a:α):l.toArray.setIfInBounds i a=(l.set i a).toArray:=cH0 l i a
theorem pc {α:Type}{a b:α}{l:List α}:(a::l).set 0 b=b::l:=eB0
theorem pd {α:Type}{a b:α}{n:Nat}{l:List α}:(a::l).set (n+1) b=a::l.set n b:=iA0
theorem pu {α:Type}:(∀(l:List α) (i:Nat) (a:α),l.toArray.setIfInBounds i a=(l.set i a).toArray)/\(∀(a b:α) (l:List α),(a::l).set 0 b=b::l)/\(∀(a b:α) (n:Nat) (l:List α),(a::l).set (n+1) b=a::l.set n b):=⟨pb,fun _ _ _=>pc,fun _ _ _ _=>pd⟩
theorem pv:(∀(a:Act) (d:Nat) (v:Value),a.put (some d) v=⟨a.tmps.setIfInBounds d v,a.defers⟩)/\(∀(a:Act) (v:Value),a.put none v=a)/\(∀(l:List Value) (i:Nat) (a:Value),l.toArray.setIfInBounds i a=(l.set i a).toArray)/\(∀(a b:Value) (l:List Value),(a::l).set 0 b=b::l)/\(∀(a b:Value) (n:Nat) (l:List Value),(a::l).set (n+1) b=a::l.set n b):=⟨fun _ _ _=>rfl,fun _ _=>rfl,pu⟩
theorem rg {P:Program}{i:Nat}{l:Array Oper}{b:Bool}{Q:Exit->Act->World->Prop}{a:Act}{w:World}(h:(Code.region i l b).wp P Q a w):(Code.region i l b).wp P Q a w:=h
open Go.RowKit
abbrev Rt (v:Value)(w:World):Ending->World->Prop:=fun e w'=>e= .returned v/\Below w.heap.size w w'
section
variable {P:Program}
theorem Zf {ops:Array Oper}{rest:List Oper}{o:Oper}{a:Act}{w:World}{Q:Exit->Act->World->Prop}(hgd:o.guard=none)(t:TypeId)(ho:o.op= .alloc t)
  (c:Array Value)(hz: ∀w,(zeroValue t).run P w= .ok (.agg c) w)
  (h:wpList P ops Q rest (a.put o.dst (.pointer (some ⟨w.heap.size,0,none⟩))) (w.alloc (.cells c t))):wpList P ops Q (o::rest) a w:=
 gX0 hgd fun _ hK=>by
  unfold Oper.wp execOp;simp only[ho,Instr.alloc,r_,hz,m_,newVar,newRow];exact hK _ _ h
theorem Zj {ops:Array Oper}{rest:List Oper}{o:Oper}{a:Act}{w:World}{Q:Exit->Act->World->Prop}(hgd:o.guard=none)(t:TypeId)(x:Operand)(ho:o.op= .box t x)
  (c:Array Value)(hx:a.eval x= .agg c)
  (h:wpList P ops Q rest (a.put o.dst (.pointer (some ⟨w.heap.size,0,none⟩))) (w.alloc (.cells c t))):wpList P ops Q (o::rest) a w:=
 gX0 hgd fun _ hK=>by
  unfold Oper.wp execOp;simp only[ho,hx,Instr.box,r_,newVar,newRow];exact hK _ _ h
theorem Zt {ops:Array Oper}{rest:List Oper}{o:Oper}{a:Act}{w:World}{Q:Exit->Act->World->Prop}(hgd:o.guard=none)(t:TypeId)(ho:o.op= .build t #[])
  (c:Array Value)(hb:P.built t []=some c)
  (h:wpList P ops Q rest (a.put o.dst (.agg c)) w):wpList P ops Q (o::rest) a w:=
 gX0 hgd fun _ hK=>by
  unfold Oper.wp execOp;simp only[ho,r_,iK0 w t #[] c hb,Array.map_empty,m_];exact hK _ _ h
theorem Zr {B:Nat}{a w:World}(h:Below B a w){g:Nat}(hg:B<=g)(cs:Array Value):Below B a (w.setRow g cs):=
 h.trans ⟨rfl,rfl,rfl,by simp,fun k hk=>setRow_other w g k cs (by omega)⟩
theorem ZO {B:Nat}{a w:World}(h:Below B a w){g:Nat}(hg:B<=g)(i:Nat)(v:Value):Below B a (w.setCell ⟨g,i,none⟩ v):=h.setCell hg v
theorem ZM {ops:Array Oper}{rest:List Oper}{o:Oper}{a:Act}{w:World}{Q:Exit->Act->World->Prop}(hgd:o.guard=none)(ty:TypeId)(x y:Operand)(ho:o.op= .store ty x y)
  (cells:Array Value)(hx:a.eval x= .pointer (some ⟨w.heap.size,0,none⟩))(hy:a.eval y= .agg cells)
  (t:TypeId)(old:Array Value)(hi:(P.info? ty).map (·.size)=some cells.size)(hold:old.size=cells.size)(h1:cells.all (·.oneCell')=true)
  (h:wpList P ops Q rest (a.put o.dst undef) (w.alloc (.cells cells t))):wpList P ops Q (o::rest) a (w.alloc (.cells old t)):=
 fS0 hgd ty x y ho w.heap.size cells hx hy t old (gU0 w _) hi hold h1 (by rw[World.setRow_alloc_new];exact h)
def Row (w:World)(b:Nat)(c:Array Value)(t:TypeId):Prop:=w.heap[b]?=some (.cells c t (0,0))
theorem Row.lt {w:World}{b:Nat}{c:Array Value}{t:TypeId}(h:Row w b c t):b<w.heap.size:=(T_.1 h).1
theorem Row.cell {w:World}{b:Nat}{c:Array Value}{t:TypeId}(h:Row w b c t)(i:Nat):w.cell? ⟨b,i,none⟩=c[i]?:=cell_of_row w b i c t (0,0) h
theorem Row.frozen {w:World}{b:Nat}{c:Array Value}{t:TypeId}(h:Row w b c t)(i:Nat):w.frozen? ⟨b,i,none⟩=false:=frozen_of_row w b i c t h
theorem Row.new (w:World)(c:Array Value)(t:TypeId):Row (w.alloc (.cells c t)) w.heap.size c t:=gU0 w _
theorem Row.here {w:World}{b:Nat}{c:Array Value}{t:TypeId}(h:b=w.heap.size):Row (w.alloc (.cells c t)) b c t:=h▸Row.new w c t
theorem Row.alloc {w:World}{b:Nat}{c:Array Value}{t:TypeId}(h:Row w b c t)(o:Obj):Row (w.alloc o) b c t:=by
 unfold Row;exact(Below.heap_alloc w o b h.lt).trans h
theorem Row.below {w w':World}{B b:Nat}{c:Array Value}{t:TypeId}(h:Row w b c t)(hb:Below B w w')(hlt:b<B):Row w' b c t:=(hb.block b hlt).trans h
theorem Row.belowAll {w w':World}{b:Nat}{c:Array Value}{t:TypeId}(h:Row w b c t)(hb:Below w.heap.size w w'):Row w' b c t:=h.below hb h.lt
theorem Row.setCell {w:World}{b:Nat}{c:Array Value}{t:TypeId}(h:Row w b c t)(i:Nat)(v:Value):Row (w.setCell ⟨b,i,none⟩ v) b (c.setIfInBounds i v) t:=heap_setCell_same w b i c t v h
theorem Row.setCell_far {w:World}{b:Nat}{c:Array Value}{t:TypeId}(h:Row w b c t)(g i:Nat)(v:Value)(hp:b≠g):Row (w.setCell ⟨g,i,none⟩ v) b c t:=(fW0 w ⟨g,i,none⟩ b v hp).trans h
theorem Row.setRow {w:World}{b:Nat}{c:Array Value}{t:TypeId}(h:Row w b c t)(c':Array Value):Row (w.setRow b c') b c' t:=setRow_heap w b c c' t _ h
theorem Row.setRow_far {w:World}{b:Nat}{c:Array Value}{t:TypeId}(h:Row w b c t)(g:Nat)(c':Array Value)(hp:b≠g):Row (w.setRow g c') b c t:=(setRow_other w g b c' hp).trans h
theorem Row.drew {w:World}{b:Nat}{c:Array Value}{t:TypeId}(h:Row w b c t):Row w.drew b c t:=h
theorem Zh {ops:Array Oper}{rest:List Oper}{o:Oper}{a:Act}{w:World}{Q:Exit->Act->World->Prop}(hgd:o.guard=none)(ty:TypeId)(x:Operand)(ho:o.op= .load ty x)
  (g:Nat)(hx:a.eval x= .pointer (some ⟨g,0,none⟩)){t:TypeId}{cs:Array Value}(hg:Row w g cs t)(n:Nat)(e:TypeId)
  (hu:P.underlying ty=some (.array n e))(hi:(P.info? ty).map (·.size)=some cs.size)
  (h:wpList P ops Q rest (a.put o.dst (.agg cs)) w):wpList P ops Q (o::rest) a w:=wpList_load_row hgd ty x ho g hx t cs (0,0) _ hg hu rfl hi h
theorem Zp {ops:Array Oper}{rest:List Oper}{o:Oper}{a:Act}{w:World}{Q:Exit->Act->World->Prop}(hgd:o.guard=none)(ty:TypeId)(x y:Operand)(ho:o.op= .store ty x y)
  (g:Nat)(cells:Array Value)(hx:a.eval x= .pointer (some ⟨g,0,none⟩))(hy:a.eval y= .agg cells)
  {t:TypeId}{old:Array Value}(hg:Row w g old t)(hi:(P.info? ty).map (·.size)=some cells.size)
  (hold:old.size=cells.size)(h1:cells.all (·.oneCell')=true)
  (h:wpList P ops Q rest (a.put o.dst undef) (w.setRow g cells)):wpList P ops Q (o::rest) a w:=fS0 hgd ty x y ho g cells hx hy t old hg hi hold h1 h
theorem Row.one {w:World}{b:Nat}{c:Array Value}{t:TypeId}{o:Obj}(h:b=w.heap.size):Row ((w.alloc (.cells c t)).alloc o) b c t:=(Row.here h).alloc o
theorem Row.two {w:World}{b:Nat}{c:Array Value}{t:TypeId}{o o':Obj}(h:b=w.heap.size):Row (((w.alloc (.cells c t)).alloc o).alloc o') b c t:=(Row.one h).alloc o'
theorem Z9 {w:World}(o:Obj):Below w.heap.size w (w.alloc o):=(H_ _ _).alloc (e_ _) _
theorem Z7 {w:World}(o o':Obj):Below w.heap.size w ((w.alloc o).alloc o'):=(Z9 o).alloc (by simp) _
theorem YM {w:World}(o o' o'':Obj):Below w.heap.size w (((w.alloc o).alloc o').alloc o''):=(Z7 o o').alloc (by simp;omega) _
theorem Zi {B:Nat}{a w w':World}(h:Below B a w)(hB:B<=a.heap.size)(k:Below w.heap.size w w'):Below B a w':=h.trans (k.mono (f_ hB h.size))
theorem ZN {fn:Func}{R:Ending->World->Prop}{a:Act}{w:World}{p:Tmp}{ty:TypeId}(hf:fn.results=#[.cell p ty])(g:Nat)(hp:a.tmps.getD p undef= .pointer (some ⟨g,0,none⟩))
  {t:TypeId}{cs:Array Value}(hr:Row w g cs t)(n:Nat)(e:TypeId)(hu:P.underlying ty=some (.array n e))(hi:(P.info? ty).map (·.size)=some cs.size)(hd:a.defers=[])
  (h:R (.returned (.agg cs)) w):bodyPost P fn R .ret a w:=
 eS0 (results_cell_row hf a.tmps w g t cs (0,0) _ hp hr hu rfl hi) hd h
theorem Yb {fn:Func}{R:Ending->World->Prop}{a:Act}{w:World}{p u:Tmp}{ty:TypeId}(hf:fn.results=#[.cell p ty,.tmp u])(g:Nat)(hp:a.tmps.getD p undef= .pointer (some ⟨g,0,none⟩))
  {t:TypeId}{cs:Array Value}(hr:Row w g cs t)(n:Nat)(e:TypeId)(hu:P.underlying ty=some (.array n e))(hi:(P.info? ty).map (·.size)=some cs.size)(hd:a.defers=[])
  (v:Value)(hv:a.tmps.getD u undef=v)(h:R (.returned (.tuple #[.agg cs,v])) w):bodyPost P fn R .ret a w:=by
 refine eS0 (v:=.tuple #[.agg cs,v]) ?_ hd h;rw[results_cell_tmp hf,hp,hv];simp only[asAddr,aJ0,m_];rw[cC0 w g t ty cs (0,0) _ hr hu rfl hi];rfl
theorem WY (w:World)(p:Addr)(v:Value):(w.setCell p v).heap.size=w.heap.size:=by simp[World.setCell]
theorem ZX (w:World)(o:Obj):(w.alloc o).heap.size=w.heap.size+1:=by show(w.heap.push o).size=_;simp
end
def lm (N i:Nat):Nat:=N/2^(64*i)%2^64
def Zb (N:Nat):Array Value:=#[.int .u64 (lm N 0),.int .u64 (lm N 1),.int .u64 (lm N 2),.int .u64 (lm N 3)]
def Xp (N:Nat):Array Value:=Array.ofFn (n:=256) fun i=>.bool (N.testBit i)
theorem Xt (N i:Nat):lm N i<18446744073709551616:=n_ _ (by decide)
theorem Zk (N:Nat):(Zb N).size=4:=rfl
theorem Yk (N i:Nat)(h:i<4):(Zb N)[i]?=some (.int .u64 (lm N i)):=by
 match i,h with
 |0,_=>rfl
 |1,_=>rfl
 |2,_=>rfl
 |3,_=>rfl
theorem Zu (N:Nat):(Zb N).all (·.oneCell')=true:=by simp[Zb,Value.oneCell']
theorem Z0 (N:Nat):(Xp N).size=256:=by simp[Xp]
theorem WA (N i:Nat)(h:i<256):(Xp N)[i]?=some (.bool (N.testBit i)):=by simp[Xp,h]
theorem X0 (N:Nat):(Xp N).all (·.oneCell')=true:=by
 rw[cA0];intro v hv;simp only[Xp,Array.mem_ofFn]at hv;obtain⟨i,rfl⟩:=hv;rfl
theorem Qs:Xp 0=Array.replicate 256 (.bool false):=by
 apply B_;intro i;by_cases h:i<256
 ·rw[WA 0 i h];simp[h]
 ·rw[h_ (by rw[Z0];omega),h_ (by simp;omega)]
theorem Gg (N M k:Nat)(b:Bool)(h: ∀i,i<256->M.testBit i=if i=k then b else N.testBit i):(Xp N).setIfInBounds k (.bool b)=Xp M:=by
 apply B_;intro i;by_cases hi:i<256
 ·rw[aI0,WA M i hi,h i hi];by_cases hk:k=i
  ·subst hk;simp[Z0,hi]
  ·rw[j_ hk,WA N i hi,j_ (fun e=>hk e.symm)]
 ·rw[h_ (by simp[Z0];omega),h_ (by rw[Z0];omega)]
theorem Qt (N k:Nat)(b:Bool)(hb:b=N.testBit k):(Xp (N%2^k)).setIfInBounds k (.bool b)=Xp (N%2^(k+1)):=
 Gg _ _ _ _ fun i _=>by
  subst hb;rw[o_,o_];by_cases e:i=k
  ·subst e;simp
  ·rw[j_ e];by_cases h1:i<k
   ·simp[h1,cY0 h1]
   ·simp[h1,show ¬i<k+1 by omega]
theorem Kh (N:Nat):Xp (N%2^256)=Xp N:=by
 apply B_;intro i;by_cases hi:i<256
 ·rw[WA _ i hi,WA N i hi,o_];simp[hi]
 ·rw[h_ (by rw[Z0];omega),h_ (by rw[Z0];omega)]
theorem Ki (N k:Nat):(lm N (k/64)).testBit (k%64)=N.testBit k:=by
 unfold lm;rw[o_,bC0];have:k%64<64:=n_ _ (by decide);simp only[this,decide_true,aF0]
 congr 1
 omega
theorem Gh (L j:Nat)(h:L<18446744073709551616):(bits .and .u64 ((L:Int)/2^j) 1==1)=L.testBit j:=by
 have h1:((L:Int)/2^j)=((L/2^j:Nat):Int):=by simp
 have h2:L/2^j<18446744073709551616:=X_ (bP0 _ _) h;rw[h1,show(1:Int)=((1:Nat):Int)from rfl,u64_and_nat _ _ h2 (by decide),iB0,bB0];by_cases e:L/2^j%2=1
 ·rw[e];rfl
 ·have:L/2^j%2=0:=by omega
  rw[this];rfl
theorem ZP (N i j:Nat):(lm N i).testBit j=(decide (j<64)&&N.testBit (64*i+j)):=by
 unfold lm;rw[o_,bC0,bT0]
theorem WB (N M j v:Nat)(hj:j<4)(hv:lm M j=v)(h: ∀i,i<4->i≠j->lm M i=lm N i):(Zb N).setIfInBounds j (.int .u64 v)=Zb M:=by
 apply B_;intro i;by_cases hi:i<4
 ·rw[aI0,Yk M i hi];by_cases e:j=i
  ·subst e;simp[Zk,hj,hv]
  ·rw[j_ e,Yk N i hi,h i hi (fun x=>e x.symm)]
 ·rw[h_ (by simp[Zk];omega),h_ (by rw[Zk];omega)]
theorem wrap_u64 (x:Nat)(h:x<18446744073709551616):IntKind.u64.wrap (x:Int)=(x:Int):=by
 rw[U_];omega
theorem zB (L j:Nat)(hL:L<18446744073709551616)(hj:j<64):bits .or .u64 (L:Int) (IntKind.u64.wrap (2^j))=((L|||2^j:Nat):Int):=by
 have h2:2^j<18446744073709551616:=hG0 (a:=2) (n:=j) (m:=64) (by decide) hj;rw[show((2:Int)^j)=((2^j:Nat):Int) by simp,wrap_u64 _ h2,hO0 _ _ hL h2]
theorem Tp (N k:Nat)(h:N.testBit k=false):N%2^(k+1)=N%2^k:=by
 apply x_;intro i;rw[o_,o_];by_cases e:i=k
 ·subst e;simp[h]
 ·by_cases h1:i<k
  ·simp[h1,cY0 h1]
  ·simp[h1,show ¬i<k+1 by omega]
theorem Kj (N k:Nat)(h:N.testBit k=true)(hk:k<256):(Zb (N%2^k)).setIfInBounds (k/64) (.int .u64 ((lm (N%2^k) (k/64)|||2^(k%64):Nat):Int))=Zb (N%2^(k+1)):=by
 refine WB _ _ _ _ (by omega) ?_ ?_
 ·apply x_;intro j;rw[cM0,eU0,ZP,ZP,o_,o_];by_cases hj:j<64
  ·by_cases e:k%64=j
   ·have e2:64*(k/64)+j=k:=by omega
    rw[e2];simp[hj,e,h]
   ·have e2: ¬(64*(k/64)+j=k):=by omega
    by_cases h1:64*(k/64)+j<k
    ·simp[h1,cY0 h1,e]
    ·simp[h1,show ¬64*(k/64)+j<k+1 by omega,e]
  ·simp[hj,show ¬k%64=j by omega]
 ·intro i hi hne;apply x_;intro j;rw[ZP,ZP,o_,o_];by_cases hj:j<64
  ·have e2: ¬(64*i+j=k):=by omega
   by_cases h1:64*i+j<k
   ·simp[h1,cY0 h1]
   ·simp[h1,show ¬64*i+j<k+1 by omega]
  ·simp[hj]
theorem UB (N i:Nat)(hi:i<4):lm (N%2^256) i=lm N i:=by
 apply x_;intro j;rw[ZP,ZP,o_];by_cases hj:j<64
 ·simp[hj,show 64*i+j<256 by omega]
 ·simp[hj]
theorem Yp (N:Nat):Zb (N%2^256)=Zb N:=by
 unfold Zb;rw[UB N 0 (by omega),UB N 1 (by omega),UB N 2 (by omega),UB N 3 (by omega)]
theorem Gi {N M:Nat}(h:Zb N=Zb M):N%2^256=M%2^256:=by
 have hl: ∀i,i<4->lm N i=lm M i:=fun i hi=>by
  have h1:=Yk N i hi;rw[h,Yk M i hi]at h1;simp only[aT0,Value.int.injEq,iV0]at h1;omega
 apply x_;intro k;rw[o_,o_];by_cases hk:k<256
 ·rw[<-Ki N k,<-Ki M k,hl _ (by omega)]
 ·simp[hk]
def Kk (A B k:Nat):Bool:=decide (2^k<=A%2^k+B%2^k)
theorem MN (A B:Nat):Kk A B 0=false:=by simp[Kk,aW0]
theorem Kl (A k:Nat):(A.testBit k=false/\A/2^k%2=0/\A%2^(k+1)=A%2^k)∨(A.testBit k=true/\A/2^k%2=1/\A%2^(k+1)=A%2^k+2^k):=by
 rw[bB0,Nat.mod_pow_succ];have h:A/2^k%2=0∨A/2^k%2=1:=by omega
 rcases h with h|h<;>rw[h]<;>simp
theorem Km (A B P:Nat)(hP:0<P):(A+B)/P=A/P+B/P+if P<=A%P+B%P then 1 else 0:=by
 have h1:A+B=P*(A/P+B/P)+(A%P+B%P):=by
  have:=R_ A P;have:=R_ B P;rw[aM0];omega
 have ha:=n_ A hP;have hb:=n_ B hP;rw[h1,cT0 hP]
 split
 ·rw[show(A%P+B%P)/P=1 from Nat.div_eq_of_lt_le (by omega) (by omega)]
 ·rw[show(A%P+B%P)/P=0 from K_ (by omega)]
theorem wrap_i64 (x:Nat)(h:x<9223372036854775808):IntKind.i64.wrap (x:Int)=(x:Int):=by
 rw[O_];omega
theorem VH (a b:Nat)(ha:a<9223372036854775808)(hb:b<9223372036854775808):bits .and .i64 (a:Int) (b:Int)=((a&&&b:Nat):Int):=by
 have hx:a&&&b<2^63:=Nat.and_lt_two_pow _ (by omega);show IntKind.i64.wrap ((BitVec.ofInt 64 (a:Int)&&&BitVec.ofInt 64 (b:Int)).toNat:Int)=_
 rw[BitVec.toNat_and,ofInt_u64 a (by omega),ofInt_u64 b (by omega)];exact wrap_i64 _ hx
theorem MO (a b:Nat)(ha:a<9223372036854775808)(hb:b<9223372036854775808):bits .or .i64 (a:Int) (b:Int)=((a|||b:Nat):Int):=by
 have hx:a|||b<2^63:=Nat.or_lt_two_pow (by omega) (by omega);show IntKind.i64.wrap ((BitVec.ofInt 64 (a:Int)|||BitVec.ofInt 64 (b:Int)).toNat:Int)=_
 rw[BitVec.toNat_or,ofInt_u64 a (by omega),ofInt_u64 b (by omega)];exact wrap_i64 _ hx
theorem MP (L j:Nat)(h:L<9223372036854775808):(bits .and .i64 ((L:Int)/2^j) 1==1)=L.testBit j:=by
 have h1:((L:Int)/2^j)=((L/2^j:Nat):Int):=by simp
 have h2:L/2^j<9223372036854775808:=X_ (bP0 _ _) h;rw[h1,show(1:Int)=((1:Nat):Int)from rfl,VH _ _ h2 (by decide),iB0,bB0];by_cases e:L/2^j%2=1
 ·rw[e];rfl
 ·have:L/2^j%2=0:=by omega
  rw[this];rfl
theorem Nl (L j:Nat)(hL:L<9223372036854775808)(hj:j<63):bits .or .i64 (L:Int) (IntKind.i64.wrap (2^j))=((L|||2^j:Nat):Int):=by
 have h2:2^j<9223372036854775808:=hG0 (a:=2) (n:=j) (m:=63) (by decide) hj;rw[show((2:Int)^j)=((2^j:Nat):Int) by simp,wrap_i64 _ h2,MO _ _ hL h2]
theorem P8 (N k:Nat)(h:N.testBit k=true):N%2^k|||2^k=N%2^(k+1):=by
 apply x_;intro i;rw[cM0,eU0,o_,o_];by_cases e:k=i
 ·subst e;simp[h]
 ·by_cases h1:i<k
  ·simp[h1,cY0 h1,e]
  ·simp[h1,show ¬i<k+1 by omega,e]
theorem Qu:(Tryz.prog.info? 140).map (fun i=>(i.zero,i.size))=some (some (.agg (Array.replicate 256 (.bool false))),256):=by kernel_rfl
theorem XT (w:World):(zeroValue 140).run Tryz.prog w= .ok (.agg (Xp 0)) w:=by rw[Qs];exact(V_ Qu).1 w
theorem YH:(Tryz.prog.info? 140).map (·.size)=some 256:=(V_ Qu).2
theorem UC:Tryz.prog.built 140 []=some (Xp 0):=by rw[Qs];kernel_rfl
theorem Nm:(Tryz.prog.info? 57).map (fun i=>(i.zero,i.size))=some (some (.agg (Zb 0)),4):=by kernel_rfl
theorem Zm (w:World):(zeroValue 57).run Tryz.prog w= .ok (.agg (Zb 0)) w:=(V_ Nm).1 w
theorem Zc:(Tryz.prog.info? 57).map (·.size)=some 4:=(V_ Nm).2
theorem ZA:Tryz.prog.built 57 []=some (Zb 0):=by kernel_rfl
theorem ZW {w:World}{b N:Nat}(h:Row w b (Zb N) 57)(i:Nat)(hi:i<4):w.cell? ⟨b,i,none⟩=some (.int .u64 (lm N i)):=by rw[h.cell];exact Yk _ _ hi
theorem WZ {w:World}{b N:Nat}(h:Row w b (Xp N) 140)(i:Nat)(hi:i<256):w.cell? ⟨b,i,none⟩=some (.bool (N.testBit i)):=by rw[h.cell];exact WA _ _ hi
set_option maxRecDepth 100000 in
set_option maxHeartbeats 400000 in
theorem Tq (N:Nat)(w:World):
  Calls Tryz.prog 104 #[.agg (Zb N)] w fun e w'=>e= .returned (.agg (Xp N))/\Below w.heap.size w w':=by
 go_enter Tryz.func104,Tryz.ntmps104
 go_wp2_with (first
  |refine Zj rfl 57 _ rfl _ rfl ?_
  |refine Zf rfl 140 rfl _ XT ?_
  |refine Zt rfl 140 rfl _ UC ?_
  |(refine fS0 rfl 140 _ _ rfl _ (Xp 0) rfl rfl 140 (Xp 0) (gU0 _ _) (by rw[Z0];exact YH) rfl (X0 _) ?_))
 have s0:Row ((((w.alloc (.cells (Zb N) 57)).alloc (.cells (Xp 0) 140)).alloc (.cells (Xp 0) 140)).setRow (w.heap.size+1+1) (Xp 0)) w.heap.size (Zb N) 57:=
  (((Row.new w _ _).alloc _).alloc _).setRow_far _ _ (by omega)
 have s1:Row ((((w.alloc (.cells (Zb N) 57)).alloc (.cells (Xp 0) 140)).alloc (.cells (Xp 0) 140)).setRow (w.heap.size+1+1) (Xp 0)) (w.heap.size+1) (Xp 0) 140:=
  by have:=(Row.new (w.alloc (.cells (Zb N) 57)) (Xp 0) 140).alloc (.cells (Xp 0) 140);rw[ZX]at this;exact this.setRow_far _ _ (by omega)
 have s2:Row ((((w.alloc (.cells (Zb N) 57)).alloc (.cells (Xp 0) 140)).alloc (.cells (Xp 0) 140)).setRow (w.heap.size+1+1) (Xp 0)) (w.heap.size+1+1) (Xp 0) 140:=
  by have:=Row.new ((w.alloc (.cells (Zb N) 57)).alloc (.cells (Xp 0) 140)) (Xp 0) 140;rw[ZX,ZX]at this;exact this.setRow _
 have s3:Below w.heap.size w ((((w.alloc (.cells (Zb N) 57)).alloc (.cells (Xp 0) 140)).alloc (.cells (Xp 0) 140)).setRow (w.heap.size+1+1) (Xp 0)):=
  Zr ((((H_ _ _).alloc (e_ _) _).alloc (by simp) _).alloc (by simp;omega) _) (by omega) _
 go_loopg [4] 256 (fun g s4 wr=> ∃k:Nat,k+g=256/\s4= .int .i64 k/\Row wr w.heap.size (Zb N) 57/\Row wr (w.heap.size+1) (Xp 0) 140/\Row wr (w.heap.size+1+1) (Xp (N%2^k)) 140/\Below w.heap.size w wr)
 case atStart=>exact⟨0,by omega,rfl,s0,s1,by simpa[aW0]using s2,s3⟩
 case round=>
  obtain⟨k,hk,rfl,r0,r1,r2,hb⟩:=hrel
  cases gk with
  |zero=>
   obtain rfl:k=256:=by omega
   rw[Kh]at r2;clear s0 s1 s2 s3 hk;have hx: ¬((256:Int)<256):=by omega
   go_wp2_with (first
    |refine wpList_load_row rfl 140 _ rfl _ rfl 140 _ (0,0) _ r2 Tryz.underlying140 rfl (by rw[Z0];exact YH) ?_
    |refine fS0 rfl 140 _ _ rfl _ (Xp N) rfl rfl 140 (Xp 0) r1 (by rw[Z0];exact YH) (by rw[Z0,Z0]) (X0 _) ?_)
   refine ZN rfl _ rfl (r1.setRow _) 256 _ Tryz.underlying140 (by rw[Z0];exact YH) rfl ⟨rfl,Zr hb (by omega) _⟩
  |succ g=>
   have hlt:(k:Int)<256:=by omega
   have hc0:wr.cell? ⟨w.heap.size,k/64,none⟩=some (.int .u64 (lm N (k/64))):=by rw[r0.cell];exact Yk _ _ (by omega)
   have hc2:wr.cell? ⟨w.heap.size+1+1,k,none⟩=some (.bool ((N%2^k).testBit k)):=by rw[r2.cell];exact WA _ _ (by omega)
   have hf2:=r2.frozen k;have hlm:=Xt N (k/64);have R:Aside (Row wr w.heap.size (Zb N) 57/\Row wr (w.heap.size+1) (Xp 0) 140/\Row wr (w.heap.size+1+1) (Xp (N%2^k)) 140/\Below w.heap.size w wr):=⟨r0,r1,r2,hb⟩;clear s0 s1 s2 s3 r0 r1 r2 hb;go_wp2;obtain⟨r0,r1,r2,hb⟩:=R.out
   go_roundg g
   case measure=>omega
   case rel=>
    refine⟨k+1,by omega,by go_num,r0.setCell_far _ _ _ (by omega),r1.setCell_far _ _ _ (by omega),?_,ZO hb (by omega) _ _⟩;have:=r2.setCell k (.bool (bits BinOp.and IntKind.u64 (↑(lm N (k/64))/2^(k%64)) 1==1));rw[Qt N k _ (by rw[Gh _ _ hlm,Ki])]at this;exact this
set_option maxRecDepth 100000 in
set_option maxHeartbeats 400000 in
theorem Nn (N:Nat)(w:World):
  Calls Tryz.prog 89 #[.agg (Xp N)] w fun e w'=>e= .returned (.agg (Zb N))/\Below w.heap.size w w':=by
 go_enter Tryz.func89,Tryz.ntmps89
 go_wp2_with (first
  |refine Zj rfl 140 _ rfl _ rfl ?_
  |refine Zf rfl 57 rfl _ Zm ?_
  |refine Zt rfl 57 rfl _ ZA ?_
  |refine ZM rfl 57 _ _ rfl _ rfl rfl _ _ (by exact Zc) (by simp only[Zk]) (Zu _) ?_)
 go_loopg [4] 256 (fun g s4 wr=> ∃k:Nat,k+g=256/\s4= .int .i64 k/\Row wr w.heap.size (Xp N) 140/\Row wr (w.heap.size+1) (Zb 0) 57/\Row wr (w.heap.size+1+1) (Zb (N%2^k)) 57/\Below w.heap.size w wr)
 case atStart=>exact⟨0,by omega,rfl,((Row.here rfl).alloc _).alloc _,(Row.here (by simp)).alloc _,by rw[aB0,aW0];exact Row.here (by simp),(((H_ _ _).alloc (e_ _) _).alloc (by simp) _).alloc (by simp;omega) _⟩
 case round=>
  obtain⟨k,hk,rfl,r0,r1,r2,hb⟩:=hrel
  cases gk with
  |zero=>
   obtain rfl:k=256:=by omega
   rw[Yp]at r2;clear hk;have hx: ¬((256:Int)<256):=by omega
   go_wp2_with (first
    |refine wpList_load_row rfl 57 _ rfl _ rfl 57 _ (0,0) _ r2 fP0 rfl (by exact Zc) ?_
    |refine fS0 rfl 57 _ _ rfl _ (Zb N) rfl rfl 57 (Zb 0) r1 (by exact Zc) (by rfl) (Zu _) ?_)
   exact ZN rfl _ rfl (r1.setRow _) 4 _ fP0 (by exact Zc) rfl ⟨rfl,Zr hb (by omega) _⟩
  |succ g=>
   have hlt:(k:Int)<256:=by omega
   have hc0:=WZ r0 k (by omega);have hc2:=ZW r2 (k/64) (by omega);have hf2:=r2.frozen (k/64);have hlm:=Xt (N%2^k) (k/64);have R:Aside (Row wr w.heap.size (Xp N) 140/\Row wr (w.heap.size+1) (Zb 0) 57/\Row wr (w.heap.size+1+1) (Zb (N%2^k)) 57/\Below w.heap.size w wr):=⟨r0,r1,r2,hb⟩;clear r0 r1 r2 hb;cases hbit:N.testBit k
   ·rw[hbit]at hc0;go_wp2;obtain⟨r0,r1,r2,hb⟩:=R.out
    go_roundg g
    ·exact⟨k+1,by omega,by go_num,r0,r1,by rw[Tp N k hbit];exact r2,hb⟩
    omega
   ·rw[hbit]at hc0;go_wp2
    go_region
    go_wp2;obtain⟨r0,r1,r2,hb⟩:=R.out
    go_roundg g
    case measure=>omega
    case rel=>
     refine⟨k+1,by omega,by go_num,(r0.setCell_far _ _ _ (by omega)).drew,(r1.setCell_far _ _ _ (by omega)).drew,?_,(ZO hb (by omega) _ _).drew⟩;have:=r2.setCell (k/64) (.int .u64 ((lm (N%2^k) (k/64)|||2^(k%64):Nat):Int));rw[Kj N k hbit (by omega)]at this;rw[zB _ _ hlm (by omega)];exact this.drew
section
variable {P:Program}
theorem Qv (p q:Nat->Bool)(i:Nat)(hi:q i=true)(hn:p i=false): ∀(l:List Nat),i∈l->(∀x,p x=true->q x=true)->l.countP p<l.countP q
 |[],h,_=>by cases h
 |x::r,h,hpq=>by
  have hm:r.countP p<=r.countP q:=List.countP_mono_left fun y _=>hpq y
  rw[List.countP_cons,List.countP_cons];by_cases e:x=i
  ·subst e;rw[hi,hn];simp;omega
  ·have h':i∈r:=by
    cases h with
    |head=>exact absurd rfl e
    |tail _ h=>exact h
   have:=Qv p q i hi hn r h' hpq;by_cases hp:p x=true
   ·rw[hp,hpq x hp];simp;omega
   ·simp[hp];split<;>omega
def left (n:Nat)(d:Nat->Bool):Nat:=(List.range n).countP fun j=> !d j
theorem Kn {ops:Array Oper}{Q:Exit->Act->World->Prop}{md:Region.Mode}(Inv:(Nat->Bool)->Act->World->Prop)
  (hlex: ∀(i:Nat) (o:Oper),ops[i]?=some o-> ∀e∈o.after,Region.binds md e=true->e.on<i)
  (hstep: ∀(i:Nat) (o:Oper),ops[i]?=some o-> ∀d a w,Inv d a w->d i=false->(∀e∈o.after,Region.binds md e=true->d e.on=true)->
   if Region.wanted o (yielded ops a.tmps)=true then o.wp P a w (Inv fun j=>j==i||d j) Q else Inv (fun j=>j==i||d j) (a.put o.dst undef) w)
  (hend: ∀d a w,Inv d a w->(∀j,j<ops.size->d j=true)->Q .normal a w):
  ∀(fuel:Nat) (L:Array Bool) (a:Act) (w:World),L.size=ops.size->left ops.size (fun j=>L.getD j false)<=fuel->Inv (fun j=>L.getD j false) a w->wpAny P md ops Q fuel L a w:=by
 have hnone: ∀(L:Array Bool),L.size=ops.size->Region.ready md ops L=[]-> ∀j,j<ops.size->L.getD j false=true:=by
  intro L hL hr j
  induction j using Nat.strongRecOn with
  |_ j ih=>
   intro hj
   cases hd:L.getD j false with
   |true=>rfl
   |false=>
    have hm:j∈Region.ready md ops L:=mem_ready.2 ⟨by
      have h1:L[j]?=some (L[j]'(by omega)):=W_ (by omega);simp[h1]at hd ⊢
      exact hd,ops[j],W_ hj,fun e he hbd=>ih e.on (hlex j _ (W_ hj) e he hbd) (E_ (hlex j _ (W_ hj) e he hbd) hj)⟩
    rw[hr]at hm;cases hm
 intro fuel
 induction fuel with
 |zero=>
  intro L a w hL hc hI
  have hr:Region.ready md ops L=[]:=by
   cases hq:Region.ready md ops L with
   |nil=>rfl
   |cons i r=>
    have hi:i∈Region.ready md ops L:=by rw[hq];exact bI0
    obtain⟨hun,o,ho,_⟩:=mem_ready.1 hi;have hlt:i<ops.size:=(T_.1 ho).1
    have hpos:0<left ops.size (fun j=>L.getD j false):=by
     unfold left;refine List.countP_pos_iff.2 ⟨i,fD0.2 hlt,?_⟩;have h1:L[i]?=some (L[i]'(by omega)):=W_ (by omega);simp[h1]at hun ⊢;exact hun
    omega
  exact⟨hr,hend _ a w hI (hnone L hL hr)⟩
 |succ fuel ih=>
  intro L a w hL hc hI;refine⟨fun hr=>hend _ a w hI (hnone L hL hr),fun i hi=>?_⟩;obtain⟨hun,o,ho,hpre⟩:=mem_ready.1 hi;have hlt:i<ops.size:=(T_.1 ho).1
  have hd:L.getD i false=false:=by
   have h1:L[i]?=some (L[i]'(by omega)):=W_ (by omega);simp[h1]at hun ⊢;exact hun
  have hset:(fun j=>(L.setIfInBounds i true).getD j false)=fun j=>j==i||L.getD j false:=by
   funext j
   by_cases e:j=i
   ·subst e;simp[show j<L.size by omega]
   ·have:(j==i)=false:=by simp[e]
    simp[Array.getElem?_setIfInBounds_ne (Ne.symm e),this]
  have hnext: ∀a' w',Inv (fun j=>j==i||L.getD j false) a' w'->wpAny P md ops Q fuel (L.setIfInBounds i true) a' w':=by
   intro a' w' h';refine ih _ a' w' (by simp[hL]) ?_ (by rw[hset];exact h');rw[hset]
   have:=Qv (fun j=> !(j==i||L.getD j false)) (fun j=> !L.getD j false) i (by rw[hd];rfl) (by simp) (List.range ops.size) (fD0.2 hlt) (fun x hx=>by
    rw[cF0]at hx ⊢;rw[hH0]at hx
    exact hx.2)
   exact Nat.le_of_lt_succ (l_ this hc)
  have h:=hstep i o ho _ a w hI hd hpre;unfold wpOp;simp only[ho]
  split
  ·rename_i hw
   rw[i_ hw]at h;exact .inl (Oper.wp_mono hnext h)
  ·rename_i hw
   rw[j_ hw]at h;exact hnext _ _ h
theorem V5 {id:Nat}{l:List Oper}{a:Act}{w:World}{Q:Exit->Act->World->Prop}(hm:P.follows .mixedOrders=true)(Inv:(Nat->Bool)->Act->World->Prop)
  (hlex:(l.zipIdx.all fun x=>x.1.after.all fun e=> !Region.binds .any e||decide (e.on<x.2))=true)
  (h0:Inv (fun _=>false) a w.drew)
  (hstep: ∀(i:Nat) (o:Oper),l[i]?=some o-> ∀d a w,Inv d a w->d i=false->(∀e∈o.after,Region.binds .any e=true->d e.on=true)->
   if Region.wanted o (yielded l.toArray a.tmps)=true then o.wp P a w (Inv fun j=>j==i||d j) Q else Inv (fun j=>j==i||d j) (a.put o.dst undef) w)
  (hend: ∀d a w,Inv d a w->(∀j,j<l.length->d j=true)->Q .normal a w):(Code.region id l.toArray true).wp P Q a w:=by
 refine wp_region_any hm ?_;refine Kn Inv (fun i o ho e he hbd=>?_) (fun i o ho=>hstep i o (by simpa using ho)) (fun d a w hI hd=>hend d a w hI (by simpa using hd)) _ _ _ _ (by simp) ?_ ?_
 ·have h1:(o,i)∈l.zipIdx:=by
   rw[bL0]
   simpa using ho
  have h2:=aX0.1 hlex _ h1;have h3:=cA0.1 h2 e he;rw[hbd]at h3
  simpa using h3
 ·unfold left;exact f_ List.countP_le_length (by simp)
 ·have:(fun j=>(Array.replicate l.toArray.size false).getD j false)=fun _=>false:=by
   funext j
   by_cases hj:j<l.length
   ·simp[hj]
   ·simp[hj]
  rw[this];exact h0
theorem Ci {ops:Array Oper}{o:Oper}{a:Act}{w:World}{K:Act->World->Prop}{Q:Exit->Act->World->Prop}{E:Prop}(hg:o.guard=none)(h:o.wp P a w K Q):
  if Region.wanted o (yielded ops a.tmps)=true then o.wp P a w K Q else E:=by
 rw[i_ (by simp[Region.wanted,hg])];exact h
structure OpW (P:Program)(o:Oper)(a:Act)(w:World)(K:Act->World->Prop)(Q:Exit->Act->World->Prop):Prop where
 out:o.wp P a w K Q
theorem SB {id:Nat}{l:List Oper}{a:Act}{w:World}{Q:Exit->Act->World->Prop}(hm:P.follows .mixedOrders=true)(Inv:(Nat->Bool)->Act->World->Prop)
  (hlex:(l.zipIdx.all fun x=>x.1.guard.isNone&&x.1.after.all fun e=> !Region.binds .any e||decide (e.on<x.2))=true)
  (h0:Inv (fun _=>false) a w.drew)
  (hstep: ∀(i:Nat) (o:Oper),l[i]?=some o-> ∀d a w,Inv d a w->d i=false->(∀e∈o.after,Region.binds .any e=true->d e.on=true)->OpW P o a w (Inv fun j=>j==i||d j) Q)
  (hend: ∀d a w,Inv d a w->(∀j,j<l.length->d j=true)->Q .normal a w):(Code.region id l.toArray true).wp P Q a w:=by
 refine V5 hm Inv ?_ h0 (fun i o ho d a w hI hd hpre=>?_) hend
 ·rw[aX0]at hlex ⊢;intro x hx;have:=hlex x hx;rw[p_]at this;exact this.2
 ·have h1:(o,i)∈l.zipIdx:=by
   rw[bL0]
   simpa using ho
  have h2:=aX0.1 hlex _ h1;rw[p_]at h2;exact Ci (by simpa using h2.1) (hstep i o ho d a w hI hd hpre).out
theorem Z6 {f:FuncId}{fn:Func}(hf:P.funcs[f]?=some fn)(hb:(fn.name== "runtime.NumGoroutine" ||fn.body.isNone)=false)(args:Array Value)(w:World):
  (callFunc f args).run P w= .ok (.enter f args) w:=by
 rw[hH0]at hb;have h1:fn.name≠ "runtime.NumGoroutine" :=by simpa using hb.1
 have h2:fn.body≠none:=fun e=>by rw[e]at hb;exact absurd hb.2 (by decide)
 simp[callFunc,hf,h1,h2]
theorem Qw {o:Oper}{a:Act}{w:World}{K:Act->World->Prop}{Q:Exit->Act->World->Prop}{fn:Func}(f:FuncId)(args:Array Operand)(ts:Array TypeId)
  (ho:o.op= .call {callee:=.value (.func f),args:=args,argTypes:=ts})(hf:P.funcs[f]?=some fn)(hb:(fn.name== "runtime.NumGoroutine" ||fn.body.isNone)=false)
  (vs:Array Value)(hv':args.toList.map a.eval=vs.toList)
  (h:Calls P f vs w fun e w'=> ∃v,e= .returned v/\K (a.put o.dst v) w'):o.wp P a w K Q:=by
 have hv:args.map a.eval=vs:=by apply bN0.1;rw[aY0];exact hv'
 unfold Oper.wp execOp;have hr:=Z6 (P:=P) hf hb vs w;simp only[ho,resolve,hv,Act.eval]
 have hd:(do let d<-Deferred.ofValue (Value.func (Fn.func f) #[] #[]) vs;invoke d.target d.args:Sem Next).run P w= .ok (.enter f vs) w:=by
  simp[Deferred.ofValue,invoke,hr]
 rw[hd,Oper.upon_enter]
 exact h.mono fun e w' ⟨v,he,hk⟩=>by subst he;exact hk
theorem No {o:Oper}{a:Act}{w:World}{K:Act->World->Prop}{Q:Exit->Act->World->Prop}{fn:Func}(f:FuncId)(args:Array Operand)(ts:Array TypeId)
  (ho:o.op= .call {callee:=.value (.func f),args:=args,argTypes:=ts})(hf:P.funcs[f]?=some fn)(hb:(fn.name== "runtime.NumGoroutine" ||fn.body.isNone)=false)
  (vs:Array Value)(hv':args.toList.map a.eval=vs.toList)
  (h:Calls P f vs w fun e w'=> ∃v,e= .returned v/\K (a.put o.dst v) w'):OpW P o a w K Q:=⟨Qw f args ts ho hf hb vs hv' h⟩
def SI:Array Value->Sem Value:=
 match Extern.MathBitsCarry.rows with
 |[_,row]=>row.2
 |_=>fun _=>pure undef
def xW (x y b:Nat):Nat:=(x+18446744073709551616-y-b)%18446744073709551616
def vI (x y b:Nat):Nat:=if x<y+b then 1 else 0
def SJ (x y c:Nat):Nat:=(x+y+c)%18446744073709551616
def P1 (x y c:Nat):Nat:=(x+y+c)/18446744073709551616
theorem Ko (x y b:Nat)(hb:b<=1)(w:World):
  (SI #[.int .u64 x,.int .u64 y,.int .u64 b]).run P w= .ok (.tuple #[.int .u64 (xW x y b:Nat),.int .u64 (vI x y b:Nat)]) w:=by
 have:b=0∨b=1:=by omega
 rcases this with rfl|rfl<;>rfl
theorem YP (x y c:Nat)(hc:c<=1)(w:World):
  (add64Entry #[.int .u64 x,.int .u64 y,.int .u64 c]).run P w= .ok (.tuple #[.int .u64 (SJ x y c:Nat),.int .u64 (P1 x y c:Nat)]) w:=by
 have:c=0∨c=1:=by omega
 rcases this with rfl|rfl<;>rfl
theorem VI {ops:Array Oper}{o:Oper}{a:Act}{w:World}{K:Act->World->Prop}{Q:Exit->Act->World->Prop}{E:Prop}{fn:Func}{en:Array Value->Sem Value}(hg:o.guard=none)
  (f:FuncId)(args:Array Operand)(ts:Array TypeId)(ho:o.op= .call {callee:=.value (.func f),args:=args,argTypes:=ts})
  (hf:P.funcs[f]?=some fn)(hname:(fn.name== "runtime.NumGoroutine")=false)(hb:fn.body.isNone=true)(hn:Extern.findNext fn=none)(he:Extern.find fn=some en)
  (vs:Array Value)(hv':args.toList.map a.eval=vs.toList)(v:Value)(hr:(en vs).run P w= .ok v w)(hK:K (a.put o.dst v) w):
  if Region.wanted o (yielded ops a.tmps)=true then Oper.wp P o a w K Q else E:=by
 rw[i_ (by simp[Region.wanted,hg])]
 have hv:args.map a.eval=vs:=by apply bN0.1;rw[aY0];exact hv'
 unfold Oper.wp execOp;have hc:=run_callFunc_extern (P:=P) hf hname hb hn he vs w;rw[hr]at hc;simp only[ho,resolve,hv,Act.eval]
 have hd:(do let d<-Deferred.ofValue (Value.func (Fn.func f) #[] #[]) vs;invoke d.target d.args:Sem Next).run P w= .ok (.value v) w:=by
  simp[Deferred.ofValue,invoke,hc]
 rw[hd];exact hK
end
theorem Qx (N k i:Nat):lm (N%2^(64*k)) i=if i<k then lm N i else 0:=by
 apply x_;intro j;rw[ZP,o_]
 split
 ·rw[ZP];by_cases hj:j<64
  ·simp[hj,show 64*i+j<64*k by omega]
  ·simp[hj]
 ·rw[Nat.zero_testBit];by_cases hj:j<64
  ·simp[show ¬64*i+j<64*k by omega]
  ·simp[hj]
theorem XU (N k v:Nat)(hk:k<4)(hv:v=lm N k):(Zb (N%2^(64*k))).setIfInBounds k (.int .u64 v)=Zb (N%2^(64*(k+1))):=by
 subst hv;refine WB _ _ _ _ hk ?_ ?_
 ·rw[Qx,i_ (by omega)]
 ·intro i _ hne;rw[Qx,Qx];by_cases h:i<k
  ·rw[i_ (by omega),i_ h]
  ·rw[j_ (by omega),j_ h]
def cN (A B k:Nat):Nat:=if Kk A B k=true then 1 else 0
theorem Cj (A B k:Nat):cN A B k<=1:=by unfold cN;split<;>omega
theorem Kp (A B k:Nat):cN A B k=if 2^k<=A%2^k+B%2^k then 1 else 0:=by unfold cN Kk;simp
theorem Xq (k:Nat):2^(64*(k+1))=2^(64*k)*18446744073709551616:=by
 rw[show 64*(k+1)=64*k+64 by omega,aG0]
theorem Gj (A B k:Nat):lm (A+B) k=(lm A k+lm B k+cN A B (64*k))%18446744073709551616:=by
 have hP:=v_ (64*k);rw[Kp];show(A+B)/2^(64*k)%18446744073709551616=(A/2^(64*k)%18446744073709551616+B/2^(64*k)%18446744073709551616+_)%18446744073709551616
 rw[Km A B _ hP];omega
theorem Wk (A k:Nat):A%2^(64*(k+1))=A%2^(64*k)+2^(64*k)*lm A k:=by
 rw[Xq,Nat.mod_mul];rfl
theorem Kq (A B k:Nat):cN A B (64*(k+1))=(lm A k+lm B k+cN A B (64*k))/18446744073709551616:=by
 have hP:=v_ (64*k);have ha:=n_ A hP;have hb:=n_ B hP;have la:=Xt A k;have lb:=Xt B k;rw[Kp,Kp,Wk,Wk,Xq];generalize lm A k=x at*;generalize lm B k=y at*;generalize 2^(64*k)=P at*;generalize A%P=a at*;generalize B%P=b at*;have key: ∀u v:Nat,u<=v->P*u<=P*v:=fun u v h=>aH0 P h
 have e1:P*(x+y)=P*x+P*y:=aM0 P x y;by_cases hc:P<=a+b
 ·rw[i_ hc];by_cases hm:18446744073709551616<=x+y+1
  ·have:=key 18446744073709551616 (x+y+1) hm;rw[aM0,I_]at this;rw[i_ (by omega)];omega
  ·have:=key (x+y+2) 18446744073709551616 (by omega);rw[aM0]at this;rw[j_ (by omega)];omega
 ·rw[j_ hc];by_cases hm:18446744073709551616<=x+y
  ·have:=key 18446744073709551616 (x+y) hm;rw[i_ (by omega)];omega
  ·have:=key (x+y+1) 18446744073709551616 (by omega);rw[aM0,I_]at this;rw[j_ (by omega)];omega
def bN (A B k:Nat):Nat:=if A%2^k<B%2^k then 1 else 0
theorem Gk (A B k:Nat):bN A B k<=1:=by unfold bN;split<;>omega
theorem MQ (A B k:Nat):bN A B (64*(k+1))=if lm A k<lm B k+bN A B (64*k)then 1 else 0:=by
 have hP:=v_ (64*k);have ha:=n_ A hP;have hb:=n_ B hP;unfold bN;rw[Wk,Wk];generalize lm A k=x at*;generalize lm B k=y at*;generalize 2^(64*k)=P at*;generalize A%P=a at*;generalize B%P=b at*;have key: ∀u v:Nat,u<=v->P*u<=P*v:=fun u v h=>aH0 P h
 obtain⟨c,hc,e⟩: ∃c,(if a<b then 1 else 0)=c/\((a<b/\c=1)∨(¬a<b/\c=0)):=⟨_,rfl,by
  by_cases hc:a<b
  ·exact .inl ⟨hc,i_ hc⟩
  ·exact .inr ⟨hc,j_ hc⟩⟩
 rw[hc];rcases Nat.lt_trichotomy x y with h|h|h
 ·have:=key (x+1) y h;rw[aM0,I_]at this;rw[i_ (by omega),i_ (by omega)]
 ·subst h;rcases e with ⟨e1,e2⟩|⟨e1,e2⟩
  ·rw[i_ (by omega),i_ (by omega)]
  ·rw[j_ (by omega),j_ (by omega)]
 ·have:=key (y+1) x h;rw[aM0,I_]at this;rw[j_ (by omega),j_ (by omega)]
def WC (A B:Nat):Nat:=A+(2^256-B)
theorem Gl (A B Q P:Nat)(hP:0<P)(hB:B<P*Q):(A+(P*Q-B))/P=A/P+Q-B/P-if A%P<B%P then 1 else 0:=by
 have ha:=R_ A P;have hb:=R_ B P;have ma:=n_ A hP;have mb:=n_ B hP;have hbQ:B/P<Q:=aP0 hB;generalize A/P=x at*;generalize B/P=y at*;generalize A%P=a at*;generalize B%P=b at*;obtain⟨z,rfl⟩: ∃z,Q=y+1+z:=⟨Q-(y+1),by omega⟩
 have e:P*(y+1+z)=P*y+P+P*z:=by rw[aM0,aM0,I_]
 split
 ·have:A+(P*(y+1+z)-B)=P*(x+z)+(P+a-b):=by have e2:P*(x+z)=P*x+P*z:=aM0 _ _ _;omega
  rw[this,cT0 hP,K_ (by omega)];omega
 ·have e2:P*(x+z+1)=P*x+P*z+P:=by rw[aM0,aM0,I_]
  have:A+(P*(y+1+z)-B)=P*(x+z+1)+(a-b):=by omega
  rw[this,cT0 hP,K_ (by omega)];omega
theorem Gm (A B k:Nat)(hk:k<4)(hB:B<2^256):lm (WC A B) k=(lm A k+18446744073709551616-lm B k-bN A B (64*k))%18446744073709551616:=by
 have hP:=v_ (64*k)
 have hQ:2^256=2^(64*k)*(2^(64*(3-k))*18446744073709551616):=by
  rw[<-w_,<-aG0,show 18446744073709551616=2^64 from rfl,<-aG0]
  congr 1;omega
 unfold WC bN lm;rw[hQ]at hB ⊢;rw[Gl A B _ _ hP hB];have hbQ:B/2^(64*k)<2^(64*(3-k))*18446744073709551616:=aP0 hB;generalize A/2^(64*k)=x at*;generalize B/2^(64*k)=y at*;generalize 2^(64*(3-k))=z at*
 split<;>omega
