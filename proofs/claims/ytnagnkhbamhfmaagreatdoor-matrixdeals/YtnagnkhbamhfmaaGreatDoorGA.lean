import Derived.WalkKit
import Derived.WalkSpells
import Derived.Deep.WholeRow
import Derived.Deep.LoopGhost
import Derived.Deep.QuietTactic
import Derived.BigQuiet
import Derived.Test.YtnagnkhbamhfmaaGreatDoorRows
namespace Go.Proofs.YtnagnkhbamhfmaaGreatDoor
set_option linter.all false
open Go.Proofs.Tryz
abbrev a_:=@List.nodup_nil
abbrev b_:=@Go.Proofs.Tryz.underlying57
abbrev c_:=@Nat.le_refl
abbrev d_:=@decide_eq_true
abbrev e_:=@decide_eq_false
abbrev f_:=@Nat.le_trans
abbrev g_:=@Nat.mod_eq_of_lt
abbrev h_:=@Array.getElem?_eq_none
abbrev i_:=@if_neg
abbrev j_:=@if_pos
abbrev k_:=@Go.Result.andThen_ok
abbrev l_:=@Nat.lt_of_lt_of_le
abbrev m_:=@Nat.mod_lt
abbrev n_:=@Nat.testBit_mod_two_pow
abbrev o_:=@Array.getElem?_toList
abbrev p_:=@Go.Sem.run_bind
abbrev q_:=@Int.toNat_natCast
abbrev r_:=@Go.Proofs.Tryz.underlying22
abbrev s_:=@Bool.and_eq_true
abbrev t_:=@Nat.mul_comm
abbrev u_:=@List.getD_eq_getElem?_getD
abbrev v_:=@Nat.div_div_eq_div_mul
abbrev w_:=@Nat.two_pow_pos
abbrev x_:=@Nat.mul_assoc
abbrev y_:=@Nat.eq_of_testBit_eq
abbrev z_:=@Nat.mul_le_mul_right
abbrev A_:=@Array.length_toList
abbrev B_:=@Nat.zero_add
abbrev C_:=@Array.ext_getElem?
abbrev D_:=@List.mem_singleton
abbrev E_:=@Nat.lt_trans
abbrev F_:=@Nat.div_eq_of_lt
abbrev G_:=@Nat.add_mul_mod_self_left
abbrev H_:=@Go.RowKit.Below.refl
abbrev I_:=@Nat.div_add_mod
abbrev J_:=@Go.IntKind.wrap_i64
abbrev K_:=@List.mem_cons_of_mem
abbrev L_:=@Nat.mul_le_mul
abbrev M_:=@Nat.mul_one
abbrev N_:=@Go.Proofs.Tryz.underlying9
abbrev O_:=@Array.getElem?_eq_some_iff
abbrev P_:=@Go.IntKind.wrap_u64
abbrev Q_:=@Go.zero_of_info
abbrev R_:=@Nat.mul_le_mul_left
abbrev S_:=@Array.getElem?_eq_getElem
abbrev T_:=@Nat.lt_of_le_of_lt
abbrev U_:=@Array.getElem?_setIfInBounds
abbrev V_:=@Go.run_underlying
abbrev W_:=@Nat.pow_zero
abbrev X_:=@decide_eq_true_iff
abbrev Y_:=@Go.Sem.run_pure
abbrev Z_:=@Nat.pow_add
abbrev aA0:=@List.setIfInBounds_toArray
abbrev aB0:=@Nat.mul_add
abbrev aC0:=@Nat.lt_or_ge
abbrev aD0:=@Go.Proofs.Tryz.isAgg22
abbrev aE0:=@Nat.div_lt_of_lt_mul
abbrev aF0:=@Nat.pow_le_pow_right
abbrev aG0:=@Go.Proofs.Tryz.underlying64
abbrev aH0:=@Nat.mul_mod
abbrev aI0:=@Option.some.inj
abbrev aJ0:=@Go.Proofs.Tryz.sizeOf3
abbrev aK0:=@Nat.eq_zero_or_pos
abbrev aL0:=@Option.some.injEq
abbrev aM0:=@Int.eq_ofNat_of_zero_le
abbrev aN0:=@Nat.add_sub_cancel_left
abbrev aO0:=@Go.Proofs.Tryz.sizeOf22
abbrev aP0:=@Nat.mod_one
abbrev aQ0:=@List.all_eq_true
abbrev aR0:=@Array.toList_map
abbrev aS0:=@Option.map_some
abbrev aT0:=@Nat.testBit_eq_decide_div_mod_eq
abbrev aU0:=@Nat.testBit_div_two_pow
abbrev aV0:=@Nat.add_mul
abbrev aW0:=@Go.Proofs.Tryz.underlying206
abbrev aX0:=@Nat.div_lt_iff_lt_mul
abbrev aY0:=@Go.Proofs.Tryz.underlying59
abbrev aZ0:=@Go.Proofs.Tryz.underlying32
abbrev bA0:=@List.mem_cons_self
abbrev bB0:=@List.length_cons
abbrev bC0:=@List.length_append
abbrev bD0:=@Bool.true_and
abbrev bE0:=@Nat.mul_zero
abbrev bF0:=@Go.Proofs.Tryz.underlying50
abbrev bG0:=@Go.Proofs.Tryz.isAgg3
abbrev bH0:=@Go.Proofs.Tryz.underlying31
abbrev bI0:=@Bool.false_and
abbrev bJ0:=@Go.Proofs.Tryz.sizeOf57
abbrev bK0:=@List.eq_nil_of_length_eq_zero
abbrev bL0:=@List.mem_zipIdx_iff_getElem?
abbrev bM0:=@Nat.add_comm
abbrev bN0:=@Go.Proofs.Tryz.underlying111
abbrev bO0:=@Array.toList_inj
abbrev bP0:=@Nat.div_le_self
abbrev bQ0:=@Bool.or_eq_true
abbrev bR0:=@Nat.div_one
abbrev bS0:=@Go.Proofs.Tryz.underlying3
abbrev bT0:=@List.set_cons_zero
abbrev bU0:=@List.mem_append_right
abbrev bV0:=@Nat.ne_of_lt
abbrev bW0:=@Nat.div_mul_le_self
abbrev bX0:=@Go.Proofs.Tryz.underlying5
abbrev bY0:=@Go.Proofs.Tryz.underlying197
abbrev bZ0:=@Array.all_eq_true_iff_forall_mem
abbrev cA0:=@Go.Proofs.Tryz.sizeOf55
abbrev cB0:=@Go.run_loadVar_row
abbrev cC0:=@Nat.add_zero
abbrev cD0:=@Nat.zero_mul
abbrev cE0:=@Go.Proofs.Tryz.underlying27
abbrev cF0:=@List.map_toArray
abbrev cG0:=@List.length_drop
abbrev cH0:=@Go.Proofs.Tryz.sizeOf196
abbrev cI0:=@Nat.testBit_or
abbrev cJ0:=@Int.natCast_mul
abbrev cK0:=@decide_eq_decide
abbrev cL0:=@Go.Proofs.Tryz.underlying200
abbrev cM0:=@Nat.one_mul
abbrev cN0:=@Nat.pow_succ
abbrev cO0:=@Nat.le_div_iff_mul_le
abbrev cP0:=@Go.Proofs.Tryz.underlying67
abbrev cQ0:=@List.getElem?_eq_getElem
abbrev cR0:=@Go.Proofs.Tryz.underlying30
abbrev cS0:=@UInt8.toNat_ofNat_of_lt'
abbrev cT0:=@Nat.mul_add_div
abbrev cU0:=@Array.getD_eq_getD_getElem?
abbrev cV0:=@List.getElem?_map
abbrev cW0:=@Go.Proofs.Tryz.underlying228
abbrev cX0:=@Nat.and_two_pow_sub_one_eq_mod
abbrev cY0:=@congrArg
abbrev cZ0:=@List.mem_append_left
abbrev dA0:=@Go.Proofs.Tryz.underlying160
abbrev dB0:=@Nat.lt_irrefl
abbrev dC0:=@List.map_cons
abbrev dD0:=@Go.Proofs.Tryz.underlying225
abbrev dE0:=@Prod.mk.injEq
abbrev dF0:=@Go.Proofs.Tryz.underlying106
abbrev dG0:=@Go.Proofs.Tryz.underlying118
abbrev dH0:=@Go.Proofs.Tryz.underlying23
abbrev dI0:=@Bool.not_eq_true'
abbrev dJ0:=@decide_eq_true_eq
abbrev dK0:=@Int.mul_left_comm
abbrev dL0:=@List.append_assoc
abbrev dM0:=@Nat.mod_mod
abbrev dN0:=@Go.RowKit.Below.alloc
abbrev dO0:=@Option.map_none
abbrev dP0:=@List.append_nil
abbrev dQ0:=@Nat.dvd_of_mod_eq_zero
abbrev dR0:=@Int.add_mul_emod_self_left
abbrev dS0:=@Int.tmod_eq_emod_of_nonneg
abbrev dT0:=@List.length_take
abbrev dU0:=@Bool.false_or
abbrev dV0:=@Go.Proofs.Tryz.underlying55
abbrev dW0:=@Nat.lt_div_mul_add
abbrev dX0:=@Go.Proofs.Tryz.underlying226
abbrev dY0:=@Nat.le_of_dvd
abbrev dZ0:=@Go.Proofs.Tryz.underlying54
abbrev eA0:=@List.getElem?_eq_some_iff
abbrev eB0:=@List.getElem?_append_left
abbrev eC0:=@Go.Proofs.Tryz.isAgg196
abbrev eD0:=@Go.Proofs.Tryz.sizeOf64
abbrev eE0:=@Nat.lt_succ_of_lt
abbrev eF0:=@Option.isSome_iff_exists
abbrev eG0:=@Go.Proofs.Tryz.isAgg55
abbrev eH0:=@Nat.mul_left_comm
abbrev eI0:=@Array.size_setIfInBounds
abbrev eJ0:=@List.length_nil
abbrev eK0:=@Bool.eq_false_iff
abbrev eL0:=@Go.Proofs.Tryz.isAgg25
abbrev eM0:=@Go.bodyPost_ret
abbrev eN0:=@Nat.zero_mod
abbrev eO0:=@Go.Proofs.Tryz.underlying56
abbrev eP0:=@List.map_nil
abbrev eQ0:=@Nat.testBit_two_pow
abbrev eR0:=@Nat.add_mod
abbrev eS0:=@List.mem_cons
abbrev eT0:=@Go.Proofs.Tryz.isAgg50
abbrev eU0:=@Nat.zero_le
abbrev eV0:=@Go.Proofs.Tryz.underlying198
abbrev eW0:=@Nat.le_of_not_lt
abbrev eX0:=@List.mem_range
abbrev eY0:=@Nat.testBit_lt_two_pow
abbrev eZ0:=@List.mem_map
abbrev fA0:=@List.contains_iff_mem
abbrev fB0:=@Go.bitLen_shift
abbrev fC0:=@Nat.mul_lt_mul_of_pos_right
abbrev fD0:=@Nat.mod_mul_mod
abbrev fE0:=@Nat.succ_mul
abbrev fF0:=@Nat.two_pow_add_eq_or_of_lt
abbrev fG0:=@Go.Proofs.Tryz.sizeOf5
abbrev fH0:=@Go.Proofs.Tryz.isAgg31
abbrev fI0:=@Go.Proofs.Tryz.underlying181
abbrev fJ0:=@of_decide_eq_true
abbrev fK0:=@Nat.add_mul_mod_self_right
abbrev fL0:=@List.getElem?_append_right
abbrev fM0:=@Go.size_madeCells
abbrev fN0:=@Go.wpList_store_row
abbrev fO0:=@Int.natCast_emod
abbrev fP0:=@Nat.mul_mod_left
abbrev fQ0:=@Bool.or_true
abbrev fR0:=@Nat.sub_self
abbrev fS0:=@Go.heap_setCell_other
abbrev fT0:=@List.mem_append
abbrev fU0:=@Go.run_makeSlice
abbrev fV0:=@Nat.mul_right_comm
abbrev fW0:=@Nat.testBit_two_pow_mul
abbrev fX0:=@Array.setIfInBounds_setIfInBounds
abbrev fY0:=@Nat.mul_div_cancel
abbrev fZ0:=@Go.Proofs.Tryz.func156
abbrev gA0:=@List.length_eq_zero_iff
abbrev gB0:=@Go.Exit.noGoto_ret
abbrev gC0:=@Nat.not_lt_zero
abbrev gD0:=@UInt8.toNat_ofNat'
abbrev gE0:=@Nat.testBit_and
abbrev gF0:=@Go.Proofs.Tryz.underlying196
abbrev gG0:=@List.getElem?_cons_succ
abbrev gH0:=@ByteArray.data_extract
abbrev gI0:=@List.take_of_length_le
abbrev gJ0:=@Go.bitLen_le8
abbrev gK0:=@Int.emod_eq_of_lt
abbrev gL0:=@Array.all_eq_true
abbrev gM0:=@Go.World.ownsRow_nil
abbrev gN0:=@Go.Value.slice.injEq
abbrev gO0:=@Go.heap_alloc_new
abbrev gP0:=@Go.Proofs.Tryz.sizeOf54
abbrev gQ0:=@Go.wpList_plain
abbrev gR0:=@Nat.mul_div_mul_right
abbrev gS0:=@List.getElem?_eq_none
abbrev gT0:=@Go.World.ownsRow.lt
abbrev gU0:=@Nat.pow_lt_pow_of_lt
abbrev gV0:=@Bool.or_eq_false_iff
abbrev gW0:=@Nat.div_le_div_right
abbrev gX0:=@List.getElem?_append
abbrev gY0:=@Go.u64_or_nat
abbrev gZ0:=@Go.Proofs.Tryz.func57
abbrev hB0:=@Nat.log2_lt
abbrev hC0:=@List.getElem?_range
abbrev hE0:=@Nat.mod_add_div
abbrev hG0:=@Nat.pow_one
abbrev hH0:=@Go.Proofs.Tryz.sizeOf106
abbrev hI0:=@Nat.testBit_xor
abbrev hJ0:=@List.set_cons_succ
abbrev hK0:=@Nat.and_one_is_mod
abbrev hO0:=@List.find?_eq_none
abbrev hP0:=@Nat.le_of_lt
abbrev hQ0:=@Nat.gcd_zero_right
abbrev hR0:=@Go.Proofs.Tryz.isAgg225
abbrev hV0:=@Go.run_sliceAt_string
abbrev hY0:=@Go.Proofs.Tryz.func158
abbrev hZ0:=@Go.Proofs.Tryz.isAgg54
abbrev iA0:=@Go.run_append_own
abbrev iB0:=@Go.size_zeroCells
abbrev iC0:=@Go.DataW.trod_int
abbrev iD0:=@Go.Proofs.Tryz.func213
abbrev iE0:=@Go.run_build
abbrev iF0:=@Go.Proofs.Tryz.func33
abbrev iG0:=@Go.Proofs.Tryz.underlying140
abbrev iH0:=@Go.Proofs.Tryz.func112
abbrev iI0:=@Go.Proofs.Tryz.ntmps153
abbrev iJ0:=@Nat.add_assoc
abbrev iK0:=@Int.lt_irrefl
abbrev iL0:=@Nat.pow_mul
abbrev iM0:=@Nat.pow_mod
abbrev iN0:=@Nat.le_zero
abbrev iO0:=@Go.Proofs.Tryz.func154
abbrev iP0:=@Go.Proofs.Tryz.func161
abbrev iQ0:=@Go.Proofs.Tryz.func40
theorem pb {α:Type}(l:List α)(i:Nat)(a:α):l.toArray.setIfInBounds i a=(l.set i a).toArray:=aA0 l i a
theorem pc {α:Type}{a b:α}{l:List α}:(a::l).set 0 b=b::l:=bT0
theorem pd {α:Type}{a b:α}{n:Nat}{l:List α}:(a::l).set (n+1) b=a::l.set n b:=hJ0
theorem pu {α:Type}:(∀(l:List α) (i:Nat) (a:α),l.toArray.setIfInBounds i a=(l.set i a).toArray)/\(∀(a b:α) (l:List α),(a::l).set 0 b=b::l)/\(∀(a b:α) (n:Nat) (l:List α),(a::l).set (n+1) b=a::l.set n b):=⟨pb,fun _ _ _=>pc,fun _ _ _ _=>pd⟩
theorem pv:(∀(a:Act) (d:Nat) (v:Value),a.put (some d) v=⟨a.tmps.setIfInBounds d v,a.defers⟩)/\(∀(a:Act) (v:Value),a.put none v=a)/\(∀(l:List Value) (i:Nat) (a:Value),l.toArray.setIfInBounds i a=(l.set i a).toArray)/\(∀(a b:Value) (l:List Value),(a::l).set 0 b=b::l)/\(∀(a b:Value) (n:Nat) (l:List Value),(a::l).set (n+1) b=a::l.set n b):=⟨fun _ _ _=>rfl,fun _ _=>rfl,pu⟩
theorem rg {P:Program}{i:Nat}{l:Array Oper}{b:Bool}{Q:Exit->Act->World->Prop}{a:Act}{w:World}(h:(Code.region i l b).wp P Q a w):(Code.region i l b).wp P Q a w:=h
open Go.RowKit
abbrev Rt (v:Value)(w:World):Ending->World->Prop:=fun e w'=>e= .returned v/\Below w.heap.size w w'
section
variable {P:Program}
theorem Zg {ops:Array Oper}{rest:List Oper}{o:Oper}{a:Act}{w:World}{Q:Exit->Act->World->Prop}(hgd:o.guard=none)(t:TypeId)(ho:o.op= .alloc t)
  (c:Array Value)(hz: ∀w,(zeroValue t).run P w= .ok (.agg c) w)
  (h:wpList P ops Q rest (a.put o.dst (.pointer (some ⟨w.heap.size,0,none⟩))) (w.alloc (.cells c t))):wpList P ops Q (o::rest) a w:=
 gQ0 hgd fun _ hK=>by
  unfold Oper.wp execOp;simp only[ho,Instr.alloc,p_,hz,k_,newVar,newRow];exact hK _ _ h
theorem Zl {ops:Array Oper}{rest:List Oper}{o:Oper}{a:Act}{w:World}{Q:Exit->Act->World->Prop}(hgd:o.guard=none)(t:TypeId)(x:Operand)(ho:o.op= .box t x)
  (c:Array Value)(hx:a.eval x= .agg c)
  (h:wpList P ops Q rest (a.put o.dst (.pointer (some ⟨w.heap.size,0,none⟩))) (w.alloc (.cells c t))):wpList P ops Q (o::rest) a w:=
 gQ0 hgd fun _ hK=>by
  unfold Oper.wp execOp;simp only[ho,hx,Instr.box,p_,newVar,newRow];exact hK _ _ h
theorem Zv {ops:Array Oper}{rest:List Oper}{o:Oper}{a:Act}{w:World}{Q:Exit->Act->World->Prop}(hgd:o.guard=none)(t:TypeId)(ho:o.op= .build t #[])
  (c:Array Value)(hb:P.built t []=some c)
  (h:wpList P ops Q rest (a.put o.dst (.agg c)) w):wpList P ops Q (o::rest) a w:=
 gQ0 hgd fun _ hK=>by
  unfold Oper.wp execOp;simp only[ho,p_,iE0 w t #[] c hb,Array.map_empty,k_];exact hK _ _ h
theorem Zq {B:Nat}{a w:World}(h:Below B a w){g:Nat}(hg:B<=g)(cs:Array Value):Below B a (w.setRow g cs):=
 h.trans ⟨rfl,rfl,rfl,by simp,fun k hk=>setRow_other w g k cs (by omega)⟩
theorem ZN {B:Nat}{a w:World}(h:Below B a w){g:Nat}(hg:B<=g)(i:Nat)(v:Value):Below B a (w.setCell ⟨g,i,none⟩ v):=h.setCell hg v
theorem ZL {ops:Array Oper}{rest:List Oper}{o:Oper}{a:Act}{w:World}{Q:Exit->Act->World->Prop}(hgd:o.guard=none)(ty:TypeId)(x y:Operand)(ho:o.op= .store ty x y)
  (cells:Array Value)(hx:a.eval x= .pointer (some ⟨w.heap.size,0,none⟩))(hy:a.eval y= .agg cells)
  (t:TypeId)(old:Array Value)(hi:(P.info? ty).map (·.size)=some cells.size)(hold:old.size=cells.size)(h1:cells.all (·.oneCell')=true)
  (h:wpList P ops Q rest (a.put o.dst undef) (w.alloc (.cells cells t))):wpList P ops Q (o::rest) a (w.alloc (.cells old t)):=
 fN0 hgd ty x y ho w.heap.size cells hx hy t old (gO0 w _) hi hold h1 (by rw[World.setRow_alloc_new];exact h)
def Row (w:World)(b:Nat)(c:Array Value)(t:TypeId):Prop:=w.heap[b]?=some (.cells c t (0,0))
theorem Row.lt {w:World}{b:Nat}{c:Array Value}{t:TypeId}(h:Row w b c t):b<w.heap.size:=(O_.1 h).1
theorem Row.cell {w:World}{b:Nat}{c:Array Value}{t:TypeId}(h:Row w b c t)(i:Nat):w.cell? ⟨b,i,none⟩=c[i]?:=cell_of_row w b i c t (0,0) h
theorem Row.frozen {w:World}{b:Nat}{c:Array Value}{t:TypeId}(h:Row w b c t)(i:Nat):w.frozen? ⟨b,i,none⟩=false:=frozen_of_row w b i c t h
theorem Row.new (w:World)(c:Array Value)(t:TypeId):Row (w.alloc (.cells c t)) w.heap.size c t:=gO0 w _
theorem Row.here {w:World}{b:Nat}{c:Array Value}{t:TypeId}(h:b=w.heap.size):Row (w.alloc (.cells c t)) b c t:=h▸Row.new w c t
theorem Row.alloc {w:World}{b:Nat}{c:Array Value}{t:TypeId}(h:Row w b c t)(o:Obj):Row (w.alloc o) b c t:=by
 unfold Row;exact(Below.heap_alloc w o b h.lt).trans h
theorem Row.below {w w':World}{B b:Nat}{c:Array Value}{t:TypeId}(h:Row w b c t)(hb:Below B w w')(hlt:b<B):Row w' b c t:=(hb.block b hlt).trans h
theorem Row.belowAll {w w':World}{b:Nat}{c:Array Value}{t:TypeId}(h:Row w b c t)(hb:Below w.heap.size w w'):Row w' b c t:=h.below hb h.lt
theorem Row.setCell {w:World}{b:Nat}{c:Array Value}{t:TypeId}(h:Row w b c t)(i:Nat)(v:Value):Row (w.setCell ⟨b,i,none⟩ v) b (c.setIfInBounds i v) t:=heap_setCell_same w b i c t v h
theorem Row.setCell_far {w:World}{b:Nat}{c:Array Value}{t:TypeId}(h:Row w b c t)(g i:Nat)(v:Value)(hp:b≠g):Row (w.setCell ⟨g,i,none⟩ v) b c t:=(fS0 w ⟨g,i,none⟩ b v hp).trans h
theorem Row.setRow {w:World}{b:Nat}{c:Array Value}{t:TypeId}(h:Row w b c t)(c':Array Value):Row (w.setRow b c') b c' t:=setRow_heap w b c c' t _ h
theorem Row.setRow_far {w:World}{b:Nat}{c:Array Value}{t:TypeId}(h:Row w b c t)(g:Nat)(c':Array Value)(hp:b≠g):Row (w.setRow g c') b c t:=(setRow_other w g b c' hp).trans h
theorem Row.drew {w:World}{b:Nat}{c:Array Value}{t:TypeId}(h:Row w b c t):Row w.drew b c t:=h
theorem Zj {ops:Array Oper}{rest:List Oper}{o:Oper}{a:Act}{w:World}{Q:Exit->Act->World->Prop}(hgd:o.guard=none)(ty:TypeId)(x:Operand)(ho:o.op= .load ty x)
  (g:Nat)(hx:a.eval x= .pointer (some ⟨g,0,none⟩)){t:TypeId}{cs:Array Value}(hg:Row w g cs t)(n:Nat)(e:TypeId)
  (hu:P.underlying ty=some (.array n e))(hi:(P.info? ty).map (·.size)=some cs.size)
  (h:wpList P ops Q rest (a.put o.dst (.agg cs)) w):wpList P ops Q (o::rest) a w:=wpList_load_row hgd ty x ho g hx t cs (0,0) _ hg hu rfl hi h
theorem Zr {ops:Array Oper}{rest:List Oper}{o:Oper}{a:Act}{w:World}{Q:Exit->Act->World->Prop}(hgd:o.guard=none)(ty:TypeId)(x y:Operand)(ho:o.op= .store ty x y)
  (g:Nat)(cells:Array Value)(hx:a.eval x= .pointer (some ⟨g,0,none⟩))(hy:a.eval y= .agg cells)
  {t:TypeId}{old:Array Value}(hg:Row w g old t)(hi:(P.info? ty).map (·.size)=some cells.size)
  (hold:old.size=cells.size)(h1:cells.all (·.oneCell')=true)
  (h:wpList P ops Q rest (a.put o.dst undef) (w.setRow g cells)):wpList P ops Q (o::rest) a w:=fN0 hgd ty x y ho g cells hx hy t old hg hi hold h1 h
theorem Row.one {w:World}{b:Nat}{c:Array Value}{t:TypeId}{o:Obj}(h:b=w.heap.size):Row ((w.alloc (.cells c t)).alloc o) b c t:=(Row.here h).alloc o
theorem Row.two {w:World}{b:Nat}{c:Array Value}{t:TypeId}{o o':Obj}(h:b=w.heap.size):Row (((w.alloc (.cells c t)).alloc o).alloc o') b c t:=(Row.one h).alloc o'
theorem Z6 {w:World}(o:Obj):Below w.heap.size w (w.alloc o):=(H_ _ _).alloc (c_ _) _
theorem Z1 {w:World}(o o':Obj):Below w.heap.size w ((w.alloc o).alloc o'):=(Z6 o).alloc (by simp) _
theorem YD {w:World}(o o' o'':Obj):Below w.heap.size w (((w.alloc o).alloc o').alloc o''):=(Z1 o o').alloc (by simp;omega) _
theorem Zk {B:Nat}{a w w':World}(h:Below B a w)(hB:B<=a.heap.size)(k:Below w.heap.size w w'):Below B a w':=h.trans (k.mono (f_ hB h.size))
theorem ZM {fn:Func}{R:Ending->World->Prop}{a:Act}{w:World}{p:Tmp}{ty:TypeId}(hf:fn.results=#[.cell p ty])(g:Nat)(hp:a.tmps.getD p undef= .pointer (some ⟨g,0,none⟩))
  {t:TypeId}{cs:Array Value}(hr:Row w g cs t)(n:Nat)(e:TypeId)(hu:P.underlying ty=some (.array n e))(hi:(P.info? ty).map (·.size)=some cs.size)(hd:a.defers=[])
  (h:R (.returned (.agg cs)) w):bodyPost P fn R .ret a w:=
 eM0 (results_cell_row hf a.tmps w g t cs (0,0) _ hp hr hu rfl hi) hd h
theorem Z9 {fn:Func}{R:Ending->World->Prop}{a:Act}{w:World}{p u:Tmp}{ty:TypeId}(hf:fn.results=#[.cell p ty,.tmp u])(g:Nat)(hp:a.tmps.getD p undef= .pointer (some ⟨g,0,none⟩))
  {t:TypeId}{cs:Array Value}(hr:Row w g cs t)(n:Nat)(e:TypeId)(hu:P.underlying ty=some (.array n e))(hi:(P.info? ty).map (·.size)=some cs.size)(hd:a.defers=[])
  (v:Value)(hv:a.tmps.getD u undef=v)(h:R (.returned (.tuple #[.agg cs,v])) w):bodyPost P fn R .ret a w:=by
 refine eM0 (v:=.tuple #[.agg cs,v]) ?_ hd h;rw[results_cell_tmp hf,hp,hv];simp only[asAddr,Y_,k_];rw[cB0 w g t ty cs (0,0) _ hr hu rfl hi];rfl
theorem W1 (w:World)(p:Addr)(v:Value):(w.setCell p v).heap.size=w.heap.size:=by simp[World.setCell]
theorem ZW (w:World)(o:Obj):(w.alloc o).heap.size=w.heap.size+1:=by show(w.heap.push o).size=_;simp
end
def lm (N i:Nat):Nat:=N/2^(64*i)%2^64
def Zc (N:Nat):Array Value:=#[.int .u64 (lm N 0),.int .u64 (lm N 1),.int .u64 (lm N 2),.int .u64 (lm N 3)]
def YE (N:Nat):Array Value:=Array.ofFn (n:=256) fun i=>.bool (N.testBit i)
theorem Xj (N i:Nat):lm N i<18446744073709551616:=m_ _ (by decide)
theorem Zo (N:Nat):(Zc N).size=4:=rfl
theorem Yh (N i:Nat)(h:i<4):(Zc N)[i]?=some (.int .u64 (lm N i)):=by
 match i,h with
 |0,_=>rfl
 |1,_=>rfl
 |2,_=>rfl
 |3,_=>rfl
theorem Zu (N:Nat):(Zc N).all (·.oneCell')=true:=by simp[Zc,Value.oneCell']
theorem ZQ (N:Nat):(YE N).size=256:=by simp[YE]
theorem WA (N i:Nat)(h:i<256):(YE N)[i]?=some (.bool (N.testBit i)):=by simp[YE,h]
theorem Xt (N:Nat):(YE N).all (·.oneCell')=true:=by
 rw[bZ0];intro v hv;simp only[YE,Array.mem_ofFn]at hv;obtain⟨i,rfl⟩:=hv;rfl
theorem Qa:YE 0=Array.replicate 256 (.bool false):=by
 apply C_;intro i;by_cases h:i<256
 ·rw[WA 0 i h];simp[h]
 ·rw[h_ (by rw[ZQ];omega),h_ (by simp;omega)]
theorem IT (N M k:Nat)(b:Bool)(h: ∀i,i<256->M.testBit i=if i=k then b else N.testBit i):(YE N).setIfInBounds k (.bool b)=YE M:=by
 apply C_;intro i;by_cases hi:i<256
 ·rw[U_,WA M i hi,h i hi];by_cases hk:k=i
  ·subst hk;simp[ZQ,hi]
  ·rw[i_ hk,WA N i hi,i_ (fun e=>hk e.symm)]
 ·rw[h_ (by simp[ZQ];omega),h_ (by rw[ZQ];omega)]
theorem Qb (N k:Nat)(b:Bool)(hb:b=N.testBit k):(YE (N%2^k)).setIfInBounds k (.bool b)=YE (N%2^(k+1)):=
 IT _ _ _ _ fun i _=>by
  subst hb;rw[n_,n_];by_cases e:i=k
  ·subst e;simp
  ·rw[i_ e];by_cases h1:i<k
   ·simp[h1,eE0 h1]
   ·simp[h1,show ¬i<k+1 by omega]
theorem LD (N:Nat):YE (N%2^256)=YE N:=by
 apply C_;intro i;by_cases hi:i<256
 ·rw[WA _ i hi,WA N i hi,n_];simp[hi]
 ·rw[h_ (by rw[ZQ];omega),h_ (by rw[ZQ];omega)]
theorem LE (N k:Nat):(lm N (k/64)).testBit (k%64)=N.testBit k:=by
 unfold lm;rw[n_,aU0];have:k%64<64:=m_ _ (by decide);simp only[this,decide_true,bD0]
 congr 1
 omega
theorem IU (L j:Nat)(h:L<18446744073709551616):(bits .and .u64 ((L:Int)/2^j) 1==1)=L.testBit j:=by
 have h1:((L:Int)/2^j)=((L/2^j:Nat):Int):=by simp
 have h2:L/2^j<18446744073709551616:=T_ (bP0 _ _) h;rw[h1,show(1:Int)=((1:Nat):Int)from rfl,u64_and_nat _ _ h2 (by decide),hK0,aT0];by_cases e:L/2^j%2=1
 ·rw[e];rfl
 ·have:L/2^j%2=0:=by omega
  rw[this];rfl
theorem ZP (N i j:Nat):(lm N i).testBit j=(decide (j<64)&&N.testBit (64*i+j)):=by
 unfold lm;rw[n_,aU0,bM0]
theorem WB (N M j v:Nat)(hj:j<4)(hv:lm M j=v)(h: ∀i,i<4->i≠j->lm M i=lm N i):(Zc N).setIfInBounds j (.int .u64 v)=Zc M:=by
 apply C_;intro i;by_cases hi:i<4
 ·rw[U_,Yh M i hi];by_cases e:j=i
  ·subst e;simp[Zo,hj,hv]
  ·rw[i_ e,Yh N i hi,h i hi (fun x=>e x.symm)]
 ·rw[h_ (by simp[Zo];omega),h_ (by rw[Zo];omega)]
theorem wrap_u64 (x:Nat)(h:x<18446744073709551616):IntKind.u64.wrap (x:Int)=(x:Int):=by
 rw[P_];omega
theorem AL (L j:Nat)(hL:L<18446744073709551616)(hj:j<64):bits .or .u64 (L:Int) (IntKind.u64.wrap (2^j))=((L|||2^j:Nat):Int):=by
 have h2:2^j<18446744073709551616:=gU0 (a:=2) (n:=j) (m:=64) (by decide) hj;rw[show((2:Int)^j)=((2^j:Nat):Int) by simp,wrap_u64 _ h2,gY0 _ _ hL h2]
theorem Tn (N k:Nat)(h:N.testBit k=false):N%2^(k+1)=N%2^k:=by
 apply y_;intro i;rw[n_,n_];by_cases e:i=k
 ·subst e;simp[h]
 ·by_cases h1:i<k
  ·simp[h1,eE0 h1]
  ·simp[h1,show ¬i<k+1 by omega]
theorem LF (N k:Nat)(h:N.testBit k=true)(hk:k<256):(Zc (N%2^k)).setIfInBounds (k/64) (.int .u64 ((lm (N%2^k) (k/64)|||2^(k%64):Nat):Int))=Zc (N%2^(k+1)):=by
 refine WB _ _ _ _ (by omega) ?_ ?_
 ·apply y_;intro j;rw[cI0,eQ0,ZP,ZP,n_,n_];by_cases hj:j<64
  ·by_cases e:k%64=j
   ·have e2:64*(k/64)+j=k:=by omega
    rw[e2];simp[hj,e,h]
   ·have e2: ¬(64*(k/64)+j=k):=by omega
    by_cases h1:64*(k/64)+j<k
    ·simp[h1,eE0 h1,e]
    ·simp[h1,show ¬64*(k/64)+j<k+1 by omega,e]
  ·simp[hj,show ¬k%64=j by omega]
 ·intro i hi hne;apply y_;intro j;rw[ZP,ZP,n_,n_];by_cases hj:j<64
  ·have e2: ¬(64*i+j=k):=by omega
   by_cases h1:64*i+j<k
   ·simp[h1,eE0 h1]
   ·simp[h1,show ¬64*i+j<k+1 by omega]
  ·simp[hj]
theorem Ux (N i:Nat)(hi:i<4):lm (N%2^256) i=lm N i:=by
 apply y_;intro j;rw[ZP,ZP,n_];by_cases hj:j<64
 ·simp[hj,show 64*i+j<256 by omega]
 ·simp[hj]
theorem Yl (N:Nat):Zc (N%2^256)=Zc N:=by
 unfold Zc;rw[Ux N 0 (by omega),Ux N 1 (by omega),Ux N 2 (by omega),Ux N 3 (by omega)]
theorem IW {N M:Nat}(h:Zc N=Zc M):N%2^256=M%2^256:=by
 have hl: ∀i,i<4->lm N i=lm M i:=fun i hi=>by
  have h1:=Yh N i hi;rw[h,Yh M i hi]at h1;simp only[aL0,Value.int.injEq,true_and]at h1;omega
 apply y_;intro k;rw[n_,n_];by_cases hk:k<256
 ·rw[<-LE N k,<-LE M k,hl _ (by omega)]
 ·simp[hk]
def LG (A B k:Nat):Bool:=decide (2^k<=A%2^k+B%2^k)
theorem Me (A B:Nat):LG A B 0=false:=by simp[LG,aP0]
theorem To (A k:Nat):(A.testBit k=false/\A/2^k%2=0/\A%2^(k+1)=A%2^k)∨(A.testBit k=true/\A/2^k%2=1/\A%2^(k+1)=A%2^k+2^k):=by
 rw[aT0,Nat.mod_pow_succ];have h:A/2^k%2=0∨A/2^k%2=1:=by omega
 rcases h with h|h<;>rw[h]<;>simp
theorem LH (A B P:Nat)(hP:0<P):(A+B)/P=A/P+B/P+if P<=A%P+B%P then 1 else 0:=by
 have h1:A+B=P*(A/P+B/P)+(A%P+B%P):=by
  have:=I_ A P;have:=I_ B P;rw[aB0];omega
 have ha:=m_ A hP;have hb:=m_ B hP;rw[h1,cT0 hP]
 split
 ·rw[show(A%P+B%P)/P=1 from Nat.div_eq_of_lt_le (by omega) (by omega)]
 ·rw[show(A%P+B%P)/P=0 from F_ (by omega)]
theorem wrap_i64 (x:Nat)(h:x<9223372036854775808):IntKind.i64.wrap (x:Int)=(x:Int):=by
 rw[J_];omega
theorem VG (a b:Nat)(ha:a<9223372036854775808)(hb:b<9223372036854775808):bits .and .i64 (a:Int) (b:Int)=((a&&&b:Nat):Int):=by
 have hx:a&&&b<2^63:=Nat.and_lt_two_pow _ (by omega);show IntKind.i64.wrap ((BitVec.ofInt 64 (a:Int)&&&BitVec.ofInt 64 (b:Int)).toNat:Int)=_
 rw[BitVec.toNat_and,ofInt_u64 a (by omega),ofInt_u64 b (by omega)];exact wrap_i64 _ hx
theorem Mf (a b:Nat)(ha:a<9223372036854775808)(hb:b<9223372036854775808):bits .or .i64 (a:Int) (b:Int)=((a|||b:Nat):Int):=by
 have hx:a|||b<2^63:=Nat.or_lt_two_pow (by omega) (by omega);show IntKind.i64.wrap ((BitVec.ofInt 64 (a:Int)|||BitVec.ofInt 64 (b:Int)).toNat:Int)=_
 rw[BitVec.toNat_or,ofInt_u64 a (by omega),ofInt_u64 b (by omega)];exact wrap_i64 _ hx
theorem Mg (L j:Nat)(h:L<9223372036854775808):(bits .and .i64 ((L:Int)/2^j) 1==1)=L.testBit j:=by
 have h1:((L:Int)/2^j)=((L/2^j:Nat):Int):=by simp
 have h2:L/2^j<9223372036854775808:=T_ (bP0 _ _) h;rw[h1,show(1:Int)=((1:Nat):Int)from rfl,VG _ _ h2 (by decide),hK0,aT0];by_cases e:L/2^j%2=1
 ·rw[e];rfl
 ·have:L/2^j%2=0:=by omega
  rw[this];rfl
theorem OV (L j:Nat)(hL:L<9223372036854775808)(hj:j<63):bits .or .i64 (L:Int) (IntKind.i64.wrap (2^j))=((L|||2^j:Nat):Int):=by
 have h2:2^j<9223372036854775808:=gU0 (a:=2) (n:=j) (m:=63) (by decide) hj;rw[show((2:Int)^j)=((2^j:Nat):Int) by simp,wrap_i64 _ h2,Mf _ _ hL h2]
theorem PF (N k:Nat)(h:N.testBit k=true):N%2^k|||2^k=N%2^(k+1):=by
 apply y_;intro i;rw[cI0,eQ0,n_,n_];by_cases e:k=i
 ·subst e;simp[h]
 ·by_cases h1:i<k
  ·simp[h1,eE0 h1,e]
  ·simp[h1,show ¬i<k+1 by omega,e]
theorem Qc:(prog.info? 140).map (fun i=>(i.zero,i.size))=some (some (.agg (Array.replicate 256 (.bool false))),256):=by kernel_rfl
theorem Xf (w:World):(zeroValue 140).run prog w= .ok (.agg (YE 0)) w:=by rw[Qa];exact(Q_ Qc).1 w
theorem Yq:(prog.info? 140).map (·.size)=some 256:=(Q_ Qc).2
theorem Uy:prog.built 140 []=some (YE 0):=by rw[Qa];kernel_rfl
theorem OW:(prog.info? 57).map (fun i=>(i.zero,i.size))=some (some (.agg (Zc 0)),4):=by kernel_rfl
theorem Zp (w:World):(zeroValue 57).run prog w= .ok (.agg (Zc 0)) w:=(Q_ OW).1 w
theorem Zd:(prog.info? 57).map (·.size)=some 4:=(Q_ OW).2
theorem ZA:prog.built 57 []=some (Zc 0):=by kernel_rfl
theorem ZV {w:World}{b N:Nat}(h:Row w b (Zc N) 57)(i:Nat)(hi:i<4):w.cell? ⟨b,i,none⟩=some (.int .u64 (lm N i)):=by rw[h.cell];exact Yh _ _ hi
theorem X6 {w:World}{b N:Nat}(h:Row w b (YE N) 140)(i:Nat)(hi:i<256):w.cell? ⟨b,i,none⟩=some (.bool (N.testBit i)):=by rw[h.cell];exact WA _ _ hi
set_option maxRecDepth 100000 in
set_option maxHeartbeats 400000 in
theorem VH (N:Nat)(w:World):
  Calls prog 104 #[.agg (Zc N)] w fun e w'=>e= .returned (.agg (YE N))/\Below w.heap.size w w':=by
 go_enter func104,ntmps104
 go_wp2_with (first
  |refine Zl rfl 57 _ rfl _ rfl ?_
  |refine Zg rfl 140 rfl _ Xf ?_
  |refine Zv rfl 140 rfl _ Uy ?_
  |(refine fN0 rfl 140 _ _ rfl _ (YE 0) rfl rfl 140 (YE 0) (gO0 _ _) (by rw[ZQ];exact Yq) rfl (Xt _) ?_))
 have s0:Row ((((w.alloc (.cells (Zc N) 57)).alloc (.cells (YE 0) 140)).alloc (.cells (YE 0) 140)).setRow (w.heap.size+1+1) (YE 0)) w.heap.size (Zc N) 57:=
  (((Row.new w _ _).alloc _).alloc _).setRow_far _ _ (by omega)
 have s1:Row ((((w.alloc (.cells (Zc N) 57)).alloc (.cells (YE 0) 140)).alloc (.cells (YE 0) 140)).setRow (w.heap.size+1+1) (YE 0)) (w.heap.size+1) (YE 0) 140:=
  by have:=(Row.new (w.alloc (.cells (Zc N) 57)) (YE 0) 140).alloc (.cells (YE 0) 140);rw[ZW]at this;exact this.setRow_far _ _ (by omega)
 have s2:Row ((((w.alloc (.cells (Zc N) 57)).alloc (.cells (YE 0) 140)).alloc (.cells (YE 0) 140)).setRow (w.heap.size+1+1) (YE 0)) (w.heap.size+1+1) (YE 0) 140:=
  by have:=Row.new ((w.alloc (.cells (Zc N) 57)).alloc (.cells (YE 0) 140)) (YE 0) 140;rw[ZW,ZW]at this;exact this.setRow _
 have s3:Below w.heap.size w ((((w.alloc (.cells (Zc N) 57)).alloc (.cells (YE 0) 140)).alloc (.cells (YE 0) 140)).setRow (w.heap.size+1+1) (YE 0)):=
  Zq ((((H_ _ _).alloc (c_ _) _).alloc (by simp) _).alloc (by simp;omega) _) (by omega) _
 go_loopg [4] 256 (fun g s4 wr=> ∃k:Nat,k+g=256/\s4= .int .i64 k/\Row wr w.heap.size (Zc N) 57/\Row wr (w.heap.size+1) (YE 0) 140/\Row wr (w.heap.size+1+1) (YE (N%2^k)) 140/\Below w.heap.size w wr)
 case atStart=>exact⟨0,by omega,rfl,s0,s1,by simpa[aP0]using s2,s3⟩
 case round=>
  obtain⟨k,hk,rfl,r0,r1,r2,hb⟩:=hrel
  cases gk with
  |zero=>
   obtain rfl:k=256:=by omega
   rw[LD]at r2;clear s0 s1 s2 s3 hk;have hx: ¬((256:Int)<256):=by omega
   go_wp2_with (first
    |refine wpList_load_row rfl 140 _ rfl _ rfl 140 _ (0,0) _ r2 iG0 rfl (by rw[ZQ];exact Yq) ?_
    |refine fN0 rfl 140 _ _ rfl _ (YE N) rfl rfl 140 (YE 0) r1 (by rw[ZQ];exact Yq) (by rw[ZQ,ZQ]) (Xt _) ?_)
   refine ZM rfl _ rfl (r1.setRow _) 256 _ iG0 (by rw[ZQ];exact Yq) rfl ⟨rfl,Zq hb (by omega) _⟩
  |succ g=>
   have hlt:(k:Int)<256:=by omega
   have hc0:wr.cell? ⟨w.heap.size,k/64,none⟩=some (.int .u64 (lm N (k/64))):=by rw[r0.cell];exact Yh _ _ (by omega)
   have hc2:wr.cell? ⟨w.heap.size+1+1,k,none⟩=some (.bool ((N%2^k).testBit k)):=by rw[r2.cell];exact WA _ _ (by omega)
   have hf2:=r2.frozen k;have hlm:=Xj N (k/64);have R:Aside (Row wr w.heap.size (Zc N) 57/\Row wr (w.heap.size+1) (YE 0) 140/\Row wr (w.heap.size+1+1) (YE (N%2^k)) 140/\Below w.heap.size w wr):=⟨r0,r1,r2,hb⟩;clear s0 s1 s2 s3 r0 r1 r2 hb;go_wp2;obtain⟨r0,r1,r2,hb⟩:=R.out
   go_roundg g
   case measure=>omega
   case rel=>
    refine⟨k+1,by omega,by go_num,r0.setCell_far _ _ _ (by omega),r1.setCell_far _ _ _ (by omega),?_,ZN hb (by omega) _ _⟩;have:=r2.setCell k (.bool (bits BinOp.and IntKind.u64 (↑(lm N (k/64))/2^(k%64)) 1==1));rw[Qb N k _ (by rw[IU _ _ hlm,LE])]at this;exact this
set_option maxRecDepth 100000 in
set_option maxHeartbeats 400000 in
theorem OX (N:Nat)(w:World):
  Calls prog 89 #[.agg (YE N)] w fun e w'=>e= .returned (.agg (Zc N))/\Below w.heap.size w w':=by
 go_enter func89,ntmps89
 go_wp2_with (first
  |refine Zl rfl 140 _ rfl _ rfl ?_
  |refine Zg rfl 57 rfl _ Zp ?_
  |refine Zv rfl 57 rfl _ ZA ?_
  |refine ZL rfl 57 _ _ rfl _ rfl rfl _ _ (by exact Zd) (by simp only[Zo]) (Zu _) ?_)
 go_loopg [4] 256 (fun g s4 wr=> ∃k:Nat,k+g=256/\s4= .int .i64 k/\Row wr w.heap.size (YE N) 140/\Row wr (w.heap.size+1) (Zc 0) 57/\Row wr (w.heap.size+1+1) (Zc (N%2^k)) 57/\Below w.heap.size w wr)
 case atStart=>exact⟨0,by omega,rfl,((Row.here rfl).alloc _).alloc _,(Row.here (by simp)).alloc _,by rw[W_,aP0];exact Row.here (by simp),(((H_ _ _).alloc (c_ _) _).alloc (by simp) _).alloc (by simp;omega) _⟩
 case round=>
  obtain⟨k,hk,rfl,r0,r1,r2,hb⟩:=hrel
  cases gk with
  |zero=>
   obtain rfl:k=256:=by omega
   rw[Yl]at r2;clear hk;have hx: ¬((256:Int)<256):=by omega
   go_wp2_with (first
    |refine wpList_load_row rfl 57 _ rfl _ rfl 57 _ (0,0) _ r2 b_ rfl (by exact Zd) ?_
    |refine fN0 rfl 57 _ _ rfl _ (Zc N) rfl rfl 57 (Zc 0) r1 (by exact Zd) (by rfl) (Zu _) ?_)
   exact ZM rfl _ rfl (r1.setRow _) 4 _ b_ (by exact Zd) rfl ⟨rfl,Zq hb (by omega) _⟩
  |succ g=>
   have hlt:(k:Int)<256:=by omega
   have hc0:=X6 r0 k (by omega);have hc2:=ZV r2 (k/64) (by omega);have hf2:=r2.frozen (k/64);have hlm:=Xj (N%2^k) (k/64);have R:Aside (Row wr w.heap.size (YE N) 140/\Row wr (w.heap.size+1) (Zc 0) 57/\Row wr (w.heap.size+1+1) (Zc (N%2^k)) 57/\Below w.heap.size w wr):=⟨r0,r1,r2,hb⟩;clear r0 r1 r2 hb;cases hbit:N.testBit k
   ·rw[hbit]at hc0;go_wp2;obtain⟨r0,r1,r2,hb⟩:=R.out
    go_roundg g
    case measure=>omega
    case rel=>exact⟨k+1,by omega,by go_num,r0,r1,by rw[Tn N k hbit];exact r2,hb⟩
   ·rw[hbit]at hc0;go_wp2
    go_region
    go_wp2;obtain⟨r0,r1,r2,hb⟩:=R.out
    go_roundg g
    case measure=>omega
    case rel=>
     refine⟨k+1,by omega,by go_num,(r0.setCell_far _ _ _ (by omega)).drew,(r1.setCell_far _ _ _ (by omega)).drew,?_,(ZN hb (by omega) _ _).drew⟩;have:=r2.setCell (k/64) (.int .u64 ((lm (N%2^k) (k/64)|||2^(k%64):Nat):Int));rw[LF N k hbit (by omega)]at this;rw[AL _ _ hlm (by omega)];exact this.drew
section
variable {P:Program}
theorem Qd (p q:Nat->Bool)(i:Nat)(hi:q i=true)(hn:p i=false): ∀(l:List Nat),i∈l->(∀x,p x=true->q x=true)->l.countP p<l.countP q
 |[],h,_=>by cases h
 |x::r,h,hpq=>by
  have hm:r.countP p<=r.countP q:=List.countP_mono_left fun y _=>hpq y
  rw[List.countP_cons,List.countP_cons];by_cases e:x=i
  ·subst e;rw[hi,hn];simp;omega
  ·have h':i∈r:=by
    cases h with
    |head=>exact absurd rfl e
    |tail _ h=>exact h
   have:=Qd p q i hi hn r h' hpq;by_cases hp:p x=true
   ·rw[hp,hpq x hp];simp;omega
   ·simp[hp];split<;>omega
def left (n:Nat)(d:Nat->Bool):Nat:=(List.range n).countP fun j=> !d j
theorem LI {ops:Array Oper}{Q:Exit->Act->World->Prop}{md:Region.Mode}(Inv:(Nat->Bool)->Act->World->Prop)
  (hlex: ∀(i:Nat) (o:Oper),ops[i]?=some o-> ∀e∈o.after,Region.binds md e=true->e.on<i)
  (hstep: ∀(i:Nat) (o:Oper),ops[i]?=some o-> ∀d a w,Inv d a w->d i=false->(∀e∈o.after,Region.binds md e=true->d e.on=true)->
   if Region.wanted o (yielded ops a.tmps)=true then o.wp P a w (Inv fun j=>j==i||d j) Q else Inv (fun j=>j==i||d j) (a.put o.dst undef) w)
  (hend: ∀d a w,Inv d a w->(∀j,j<ops.size->d j=true)->Q .normal a w):
  ∀(fuel:Nat) (L:Array Bool) (a:Act) (w:World),L.size=ops.size->left ops.size (fun j=>L.getD j false)<=fuel->Inv (fun j=>L.getD j false) a w->wpAny P md ops Q fuel L a w:=by
 have hnone: ∀(L:Array Bool),L.size=ops.size->Region.ready md ops L=[]-> ∀j,j<ops.size->L.getD j false=true:=by
  intro L hL hr j
  induction j using Nat.strongRecOn with
  |_ j ih=>
   intro hj
   cases hd:L.getD j false with
   |true=>rfl
   |false=>
    have hm:j∈Region.ready md ops L:=mem_ready.2 ⟨by
      have h1:L[j]?=some (L[j]'(by omega)):=S_ (by omega);simp[h1]at hd ⊢
      exact hd,ops[j],S_ hj,fun e he hbd=>ih e.on (hlex j _ (S_ hj) e he hbd) (E_ (hlex j _ (S_ hj) e he hbd) hj)⟩
    rw[hr]at hm;cases hm
 intro fuel
 induction fuel with
 |zero=>
  intro L a w hL hc hI
  have hr:Region.ready md ops L=[]:=by
   cases hq:Region.ready md ops L with
   |nil=>rfl
   |cons i r=>
    have hi:i∈Region.ready md ops L:=by rw[hq];exact bA0
    obtain⟨hun,o,ho,_⟩:=mem_ready.1 hi;have hlt:i<ops.size:=(O_.1 ho).1
    have hpos:0<left ops.size (fun j=>L.getD j false):=by
     unfold left;refine List.countP_pos_iff.2 ⟨i,eX0.2 hlt,?_⟩;have h1:L[i]?=some (L[i]'(by omega)):=S_ (by omega);simp[h1]at hun ⊢;exact hun
    omega
  exact⟨hr,hend _ a w hI (hnone L hL hr)⟩
 |succ fuel ih=>
  intro L a w hL hc hI;refine⟨fun hr=>hend _ a w hI (hnone L hL hr),fun i hi=>?_⟩;obtain⟨hun,o,ho,hpre⟩:=mem_ready.1 hi;have hlt:i<ops.size:=(O_.1 ho).1
  have hd:L.getD i false=false:=by
   have h1:L[i]?=some (L[i]'(by omega)):=S_ (by omega);simp[h1]at hun ⊢;exact hun
  have hset:(fun j=>(L.setIfInBounds i true).getD j false)=fun j=>j==i||L.getD j false:=by
   funext j
   by_cases e:j=i
   ·subst e;simp[show j<L.size by omega]
   ·have:(j==i)=false:=by simp[e]
    simp[Array.getElem?_setIfInBounds_ne (Ne.symm e),this]
  have hnext: ∀a' w',Inv (fun j=>j==i||L.getD j false) a' w'->wpAny P md ops Q fuel (L.setIfInBounds i true) a' w':=by
   intro a' w' h';refine ih _ a' w' (by simp[hL]) ?_ (by rw[hset];exact h');rw[hset]
   have:=Qd (fun j=> !(j==i||L.getD j false)) (fun j=> !L.getD j false) i (by rw[hd];rfl) (by simp) (List.range ops.size) (eX0.2 hlt) (fun x hx=>by
    rw[dI0]at hx ⊢;rw[gV0]at hx
    exact hx.2)
   exact Nat.le_of_lt_succ (l_ this hc)
  have h:=hstep i o ho _ a w hI hd hpre;unfold wpOp;simp only[ho]
  split
  ·rename_i hw
   rw[j_ hw]at h;exact .inl (Oper.wp_mono hnext h)
  ·rename_i hw
   rw[i_ hw]at h;exact hnext _ _ h
theorem V6 {id:Nat}{l:List Oper}{a:Act}{w:World}{Q:Exit->Act->World->Prop}(hm:P.follows .mixedOrders=true)(Inv:(Nat->Bool)->Act->World->Prop)
  (hlex:(l.zipIdx.all fun x=>x.1.after.all fun e=> !Region.binds .any e||decide (e.on<x.2))=true)
  (h0:Inv (fun _=>false) a w.drew)
  (hstep: ∀(i:Nat) (o:Oper),l[i]?=some o-> ∀d a w,Inv d a w->d i=false->(∀e∈o.after,Region.binds .any e=true->d e.on=true)->
   if Region.wanted o (yielded l.toArray a.tmps)=true then o.wp P a w (Inv fun j=>j==i||d j) Q else Inv (fun j=>j==i||d j) (a.put o.dst undef) w)
  (hend: ∀d a w,Inv d a w->(∀j,j<l.length->d j=true)->Q .normal a w):(Code.region id l.toArray true).wp P Q a w:=by
 refine wp_region_any hm ?_;refine LI Inv (fun i o ho e he hbd=>?_) (fun i o ho=>hstep i o (by simpa using ho)) (fun d a w hI hd=>hend d a w hI (by simpa using hd)) _ _ _ _ (by simp) ?_ ?_
 ·have h1:(o,i)∈l.zipIdx:=by
   rw[bL0]
   simpa using ho
  have h2:=aQ0.1 hlex _ h1;have h3:=bZ0.1 h2 e he;rw[hbd]at h3
  simpa using h3
 ·unfold left;exact f_ List.countP_le_length (by simp)
 ·have:(fun j=>(Array.replicate l.toArray.size false).getD j false)=fun _=>false:=by
   funext j
   by_cases hj:j<l.length
   ·simp[hj]
   ·simp[hj]
  rw[this];exact h0
theorem Du {ops:Array Oper}{o:Oper}{a:Act}{w:World}{K:Act->World->Prop}{Q:Exit->Act->World->Prop}{E:Prop}(hg:o.guard=none)(h:o.wp P a w K Q):
  if Region.wanted o (yielded ops a.tmps)=true then o.wp P a w K Q else E:=by
 rw[j_ (by simp[Region.wanted,hg])];exact h
structure OpW (P:Program)(o:Oper)(a:Act)(w:World)(K:Act->World->Prop)(Q:Exit->Act->World->Prop):Prop where
 out:o.wp P a w K Q
theorem VC {id:Nat}{l:List Oper}{a:Act}{w:World}{Q:Exit->Act->World->Prop}(hm:P.follows .mixedOrders=true)(Inv:(Nat->Bool)->Act->World->Prop)
  (hlex:(l.zipIdx.all fun x=>x.1.guard.isNone&&x.1.after.all fun e=> !Region.binds .any e||decide (e.on<x.2))=true)
  (h0:Inv (fun _=>false) a w.drew)
  (hstep: ∀(i:Nat) (o:Oper),l[i]?=some o-> ∀d a w,Inv d a w->d i=false->(∀e∈o.after,Region.binds .any e=true->d e.on=true)->OpW P o a w (Inv fun j=>j==i||d j) Q)
  (hend: ∀d a w,Inv d a w->(∀j,j<l.length->d j=true)->Q .normal a w):(Code.region id l.toArray true).wp P Q a w:=by
 refine V6 hm Inv ?_ h0 (fun i o ho d a w hI hd hpre=>?_) hend
 ·rw[aQ0]at hlex ⊢;intro x hx;have:=hlex x hx;rw[s_]at this;exact this.2
 ·have h1:(o,i)∈l.zipIdx:=by
   rw[bL0]
   simpa using ho
  have h2:=aQ0.1 hlex _ h1;rw[s_]at h2;exact Du (by simpa using h2.1) (hstep i o ho d a w hI hd hpre).out
theorem Qe {o:Oper}{a:Act}{w:World}{K:Act->World->Prop}{Q:Exit->Act->World->Prop}(t:TypeId)(ho:o.op= .alloc t)
  (c:Array Value)(hz: ∀w,(zeroValue t).run P w= .ok (.agg c) w)
  (h:K (a.put o.dst (.pointer (some ⟨w.heap.size,0,none⟩))) (w.alloc (.cells c t))):o.wp P a w K Q:=by
 unfold Oper.wp execOp;simp only[ho,Instr.alloc,p_,hz,k_,newVar,newRow];exact h
theorem Z4 {f:FuncId}{fn:Func}(hf:P.funcs[f]?=some fn)(hb:(fn.name== "runtime.NumGoroutine" ||fn.body.isNone)=false)(args:Array Value)(w:World):
  (callFunc f args).run P w= .ok (.enter f args) w:=by
 rw[gV0]at hb;have h1:fn.name≠ "runtime.NumGoroutine" :=by simpa using hb.1
 have h2:fn.body≠none:=fun e=>by rw[e]at hb;exact absurd hb.2 (by decide)
 simp[callFunc,hf,h1,h2]
theorem Qf {o:Oper}{a:Act}{w:World}{K:Act->World->Prop}{Q:Exit->Act->World->Prop}{fn:Func}(f:FuncId)(args:Array Operand)(ts:Array TypeId)
  (ho:o.op= .call {callee:=.value (.func f),args:=args,argTypes:=ts})(hf:P.funcs[f]?=some fn)(hb:(fn.name== "runtime.NumGoroutine" ||fn.body.isNone)=false)
  (vs:Array Value)(hv':args.toList.map a.eval=vs.toList)
  (h:Calls P f vs w fun e w'=> ∃v,e= .returned v/\K (a.put o.dst v) w'):o.wp P a w K Q:=by
 have hv:args.map a.eval=vs:=by apply bO0.1;rw[aR0];exact hv'
 unfold Oper.wp execOp;have hr:=Z4 (P:=P) hf hb vs w;simp only[ho,resolve,hv,Act.eval]
 have hd:(do let d<-Deferred.ofValue (Value.func (Fn.func f) #[] #[]) vs;invoke d.target d.args:Sem Next).run P w= .ok (.enter f vs) w:=by
  simp[Deferred.ofValue,invoke,hr]
 rw[hd,Oper.upon_enter]
 exact h.mono fun e w' ⟨v,he,hk⟩=>by subst he;exact hk
theorem Qg {o:Oper}{a:Act}{w:World}{K:Act->World->Prop}{Q:Exit->Act->World->Prop}(t:TypeId)(ho:o.op= .alloc t)
  (c:Array Value)(hz: ∀w,(zeroValue t).run P w= .ok (.agg c) w)
  (h:K (a.put o.dst (.pointer (some ⟨w.heap.size,0,none⟩))) (w.alloc (.cells c t))):OpW P o a w K Q:=⟨Qe t ho c hz h⟩
theorem OY {o:Oper}{a:Act}{w:World}{K:Act->World->Prop}{Q:Exit->Act->World->Prop}(ty:TypeId)(x:Operand)(ho:o.op= .load ty x)
  (g:Nat)(hx:a.eval x= .pointer (some ⟨g,0,none⟩)){t:TypeId}{cs:Array Value}(hg:Row w g cs t)(n:Nat)(e:TypeId)
  (hu:P.underlying ty=some (.array n e))(hi:(P.info? ty).map (·.size)=some cs.size)
  (h:K (a.put o.dst (.agg cs)) w):OpW P o a w K Q:=⟨wp_load_row ty x ho g hx t cs (0,0) _ hg hu rfl hi h⟩
theorem Qh {o:Oper}{a:Act}{w:World}{K:Act->World->Prop}{Q:Exit->Act->World->Prop}(ty:TypeId)(x y:Operand)(ho:o.op= .store ty x y)
  (g:Nat)(cells:Array Value)(hx:a.eval x= .pointer (some ⟨g,0,none⟩))(hy:a.eval y= .agg cells)
  {t:TypeId}{old:Array Value}(hg:Row w g old t)(hi:(P.info? ty).map (·.size)=some cells.size)
  (hold:old.size=cells.size)(h1:cells.all (·.oneCell')=true)
  (h:K (a.put o.dst undef) (w.setRow g cells)):OpW P o a w K Q:=⟨wp_store_row ty x y ho g cells hx hy t old hg hi hold h1 h⟩
theorem U1 {o:Oper}{a:Act}{w:World}{K:Act->World->Prop}{Q:Exit->Act->World->Prop}{fn:Func}(f:FuncId)(args:Array Operand)(ts:Array TypeId)
  (ho:o.op= .call {callee:=.value (.func f),args:=args,argTypes:=ts})(hf:P.funcs[f]?=some fn)(hb:(fn.name== "runtime.NumGoroutine" ||fn.body.isNone)=false)
  (vs:Array Value)(hv':args.toList.map a.eval=vs.toList)
  (h:Calls P f vs w fun e w'=> ∃v,e= .returned v/\K (a.put o.dst v) w'):OpW P o a w K Q:=⟨Qf f args ts ho hf hb vs hv' h⟩
def SD:Array Value->Sem Value:=
 match Extern.MathBitsCarry.rows with
 |[_,row]=>row.2
 |_=>fun _=>pure undef
def yW (x y b:Nat):Nat:=(x+18446744073709551616-y-b)%18446744073709551616
def ww (x y b:Nat):Nat:=if x<y+b then 1 else 0
def SE (x y c:Nat):Nat:=(x+y+c)%18446744073709551616
def Py (x y c:Nat):Nat:=(x+y+c)/18446744073709551616
theorem LJ (x y b:Nat)(hb:b<=1)(w:World):
  (SD #[.int .u64 x,.int .u64 y,.int .u64 b]).run P w= .ok (.tuple #[.int .u64 (yW x y b:Nat),.int .u64 (ww x y b:Nat)]) w:=by
 have:b=0∨b=1:=by omega
 rcases this with rfl|rfl<;>rfl
theorem YH (x y c:Nat)(hc:c<=1)(w:World):
  (add64Entry #[.int .u64 x,.int .u64 y,.int .u64 c]).run P w= .ok (.tuple #[.int .u64 (SE x y c:Nat),.int .u64 (Py x y c:Nat)]) w:=by
 have:c=0∨c=1:=by omega
 rcases this with rfl|rfl<;>rfl
theorem VI {ops:Array Oper}{o:Oper}{a:Act}{w:World}{K:Act->World->Prop}{Q:Exit->Act->World->Prop}{E:Prop}{fn:Func}{en:Array Value->Sem Value}(hg:o.guard=none)
  (f:FuncId)(args:Array Operand)(ts:Array TypeId)(ho:o.op= .call {callee:=.value (.func f),args:=args,argTypes:=ts})
  (hf:P.funcs[f]?=some fn)(hname:(fn.name== "runtime.NumGoroutine")=false)(hb:fn.body.isNone=true)(hn:Extern.findNext fn=none)(he:Extern.find fn=some en)
  (vs:Array Value)(hv':args.toList.map a.eval=vs.toList)(v:Value)(hr:(en vs).run P w= .ok v w)(hK:K (a.put o.dst v) w):
  if Region.wanted o (yielded ops a.tmps)=true then Oper.wp P o a w K Q else E:=by
 rw[j_ (by simp[Region.wanted,hg])]
 have hv:args.map a.eval=vs:=by apply bO0.1;rw[aR0];exact hv'
 unfold Oper.wp execOp;have hc:=run_callFunc_extern (P:=P) hf hname hb hn he vs w;rw[hr]at hc;simp only[ho,resolve,hv,Act.eval]
 have hd:(do let d<-Deferred.ofValue (Value.func (Fn.func f) #[] #[]) vs;invoke d.target d.args:Sem Next).run P w= .ok (.value v) w:=by
  simp[Deferred.ofValue,invoke,hc]
 rw[hd];exact hK
end
theorem Qi (N k i:Nat):lm (N%2^(64*k)) i=if i<k then lm N i else 0:=by
 apply y_;intro j;rw[ZP,n_]
 split
 ·rw[ZP];by_cases hj:j<64
  ·simp[hj,show 64*i+j<64*k by omega]
  ·simp[hj]
 ·rw[Nat.zero_testBit];by_cases hj:j<64
  ·simp[show ¬64*i+j<64*k by omega]
  ·simp[hj]
theorem XO (N k v:Nat)(hk:k<4)(hv:v=lm N k):(Zc (N%2^(64*k))).setIfInBounds k (.int .u64 v)=Zc (N%2^(64*(k+1))):=by
 subst hv;refine WB _ _ _ _ hk ?_ ?_
 ·rw[Qi,j_ (by omega)]
 ·intro i _ hne;rw[Qi,Qi];by_cases h:i<k
  ·rw[j_ (by omega),j_ h]
  ·rw[i_ (by omega),i_ h]
def cN (A B k:Nat):Nat:=if LG A B k=true then 1 else 0
theorem Dv (A B k:Nat):cN A B k<=1:=by unfold cN;split<;>omega
theorem LL (A B k:Nat):cN A B k=if 2^k<=A%2^k+B%2^k then 1 else 0:=by unfold cN LG;simp
theorem Xh (k:Nat):2^(64*(k+1))=2^(64*k)*18446744073709551616:=by
 rw[show 64*(k+1)=64*k+64 by omega,Z_]
theorem IX (A B k:Nat):lm (A+B) k=(lm A k+lm B k+cN A B (64*k))%18446744073709551616:=by
 have hP:=w_ (64*k);rw[LL];show(A+B)/2^(64*k)%18446744073709551616=(A/2^(64*k)%18446744073709551616+B/2^(64*k)%18446744073709551616+_)%18446744073709551616
 rw[LH A B _ hP];omega
theorem Wh (A k:Nat):A%2^(64*(k+1))=A%2^(64*k)+2^(64*k)*lm A k:=by
 rw[Xh,Nat.mod_mul];rfl
theorem LM (A B k:Nat):cN A B (64*(k+1))=(lm A k+lm B k+cN A B (64*k))/18446744073709551616:=by
 have hP:=w_ (64*k);have ha:=m_ A hP;have hb:=m_ B hP;have la:=Xj A k;have lb:=Xj B k;rw[LL,LL,Wh,Wh,Xh];generalize lm A k=x at*;generalize lm B k=y at*;generalize 2^(64*k)=P at*;generalize A%P=a at*;generalize B%P=b at*;have key: ∀u v:Nat,u<=v->P*u<=P*v:=fun u v h=>R_ P h
 have e1:P*(x+y)=P*x+P*y:=aB0 P x y;by_cases hc:P<=a+b
 ·rw[j_ hc];by_cases hm:18446744073709551616<=x+y+1
  ·have:=key 18446744073709551616 (x+y+1) hm;rw[aB0,M_]at this;rw[j_ (by omega)];omega
  ·have:=key (x+y+2) 18446744073709551616 (by omega);rw[aB0]at this;rw[i_ (by omega)];omega
 ·rw[i_ hc];by_cases hm:18446744073709551616<=x+y
  ·have:=key 18446744073709551616 (x+y) hm;rw[j_ (by omega)];omega
  ·have:=key (x+y+1) 18446744073709551616 (by omega);rw[aB0,M_]at this;rw[i_ (by omega)];omega
def bN (A B k:Nat):Nat:=if A%2^k<B%2^k then 1 else 0
theorem IY (A B k:Nat):bN A B k<=1:=by unfold bN;split<;>omega
theorem Mh (A B k:Nat):bN A B (64*(k+1))=if lm A k<lm B k+bN A B (64*k)then 1 else 0:=by
 have hP:=w_ (64*k);have ha:=m_ A hP;have hb:=m_ B hP;unfold bN;rw[Wh,Wh];generalize lm A k=x at*;generalize lm B k=y at*;generalize 2^(64*k)=P at*;generalize A%P=a at*;generalize B%P=b at*;have key: ∀u v:Nat,u<=v->P*u<=P*v:=fun u v h=>R_ P h
 obtain⟨c,hc,e⟩: ∃c,(if a<b then 1 else 0)=c/\((a<b/\c=1)∨(¬a<b/\c=0)):=⟨_,rfl,by
  by_cases hc:a<b
  ·exact .inl ⟨hc,j_ hc⟩
  ·exact .inr ⟨hc,i_ hc⟩⟩
 rw[hc];rcases Nat.lt_trichotomy x y with h|h|h
 ·have:=key (x+1) y h;rw[aB0,M_]at this;rw[j_ (by omega),j_ (by omega)]
 ·subst h;rcases e with ⟨e1,e2⟩|⟨e1,e2⟩
  ·rw[j_ (by omega),j_ (by omega)]
  ·rw[i_ (by omega),i_ (by omega)]
 ·have:=key (y+1) x h;rw[aB0,M_]at this;rw[i_ (by omega),i_ (by omega)]
def WC (A B:Nat):Nat:=A+(2^256-B)
theorem IZ (A B Q P:Nat)(hP:0<P)(hB:B<P*Q):(A+(P*Q-B))/P=A/P+Q-B/P-if A%P<B%P then 1 else 0:=by
 have ha:=I_ A P;have hb:=I_ B P;have ma:=m_ A hP;have mb:=m_ B hP;have hbQ:B/P<Q:=aE0 hB;generalize A/P=x at*;generalize B/P=y at*;generalize A%P=a at*;generalize B%P=b at*;obtain⟨z,rfl⟩: ∃z,Q=y+1+z:=⟨Q-(y+1),by omega⟩
 have e:P*(y+1+z)=P*y+P+P*z:=by rw[aB0,aB0,M_]
 split
 ·have:A+(P*(y+1+z)-B)=P*(x+z)+(P+a-b):=by have e2:P*(x+z)=P*x+P*z:=aB0 _ _ _;omega
  rw[this,cT0 hP,F_ (by omega)];omega
 ·have e2:P*(x+z+1)=P*x+P*z+P:=by rw[aB0,aB0,M_]
  have:A+(P*(y+1+z)-B)=P*(x+z+1)+(a-b):=by omega
  rw[this,cT0 hP,F_ (by omega)];omega
theorem I0 (A B k:Nat)(hk:k<4)(hB:B<2^256):lm (WC A B) k=(lm A k+18446744073709551616-lm B k-bN A B (64*k))%18446744073709551616:=by
 have hP:=w_ (64*k)
 have hQ:2^256=2^(64*k)*(2^(64*(3-k))*18446744073709551616):=by
  rw[<-x_,<-Z_,show 18446744073709551616=2^64 from rfl,<-Z_]
  congr 1;omega
 unfold WC bN lm;rw[hQ]at hB ⊢;rw[IZ A B _ _ hP hB];have hbQ:B/2^(64*k)<2^(64*(3-k))*18446744073709551616:=aE0 hB;generalize A/2^(64*k)=x at*;generalize B/2^(64*k)=y at*;generalize 2^(64*(3-k))=z at*
 split<;>omega
end Go.Proofs.YtnagnkhbamhfmaaGreatDoor
