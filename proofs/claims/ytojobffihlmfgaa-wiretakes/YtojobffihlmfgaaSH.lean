/- SHA-256 as plain mathematics: words are naturals below 2^32. -/
import Derived.WalkKit
import Derived.Test.YtojobffihlmfgaaGA
import Derived.Test.YtojobffihlmfgaaGE
import Derived.Test.YtojobffihlmfgaaGH
import Derived.Test.YtojobffihlmfgaaGJ
import Derived.Laws.BitsAllLaws
namespace Go.Proofs.Ytojobffihlmfgaa
set_option linter.unusedVariables false
/-- A word turned round, towards the lower bits. -/
def rr (x n : Nat) : Nat := x / 2 ^ n ||| x * 2 ^ (32 - n) % 4294967296
def ss0 (x : Nat) : Nat := rr x 7 ^^^ rr x 18 ^^^ x / 2 ^ 3
def ss1 (x : Nat) : Nat := rr x 17 ^^^ rr x 19 ^^^ x / 2 ^ 10
def bs0 (x : Nat) : Nat := rr x 2 ^^^ rr x 13 ^^^ rr x 22
def bs1 (x : Nat) : Nat := rr x 6 ^^^ rr x 11 ^^^ rr x 25
def chf (x y z : Nat) : Nat := x &&& y ^^^ (4294967295 ^^^ x) &&& z
def mjf (x y z : Nat) : Nat := x &&& y ^^^ x &&& z ^^^ y &&& z
/-- The constants, and the eight words at first. -/
def kL : List Nat := [1116352408, 1899447441, 3049323471, 3921009573, 961987163, 1508970993, 2453635748, 2870763221, 3624381080, 310598401, 607225278, 1426881987, 1925078388, 2162078206, 2614888103, 3248222580, 3835390401, 4022224774, 264347078, 604807628, 770255983, 1249150122, 1555081692, 1996064986, 2554220882, 2821834349, 2952996808, 3210313671, 3336571891, 3584528711, 113926993, 338241895, 666307205, 773529912, 1294757372, 1396182291, 1695183700, 1986661051, 2177026350, 2456956037, 2730485921, 2820302411, 3259730800, 3345764771, 3516065817, 3600352804, 4094571909, 275423344, 430227734, 506948616, 659060556, 883997877, 958139571, 1322822218, 1537002063, 1747873779, 1955562222, 2024104815, 2227730452, 2361852424, 2428436474, 2756734187, 3204031479, 3329325298]
def ivL : List Nat := [1779033703, 3144134277, 1013904242, 2773480762, 1359893119, 2600822924, 528734635, 1541459225]
def kf (t : Nat) : Nat := kL.getD t 0
def ivf (t : Nat) : Nat := ivL.getD t 0
/-- A block's word. -/
def wrd (b : Nat → Nat) (t : Nat) : Nat := b (4 * t) * 2 ^ 24 ||| b (4 * t + 1) * 2 ^ 16 ||| b (4 * t + 2) * 2 ^ 8 ||| b (4 * t + 3)
def nxt (b : Nat → Nat) (l : List Nat) (n : Nat) : Nat :=
 if n < 16 then wrd b n else (ss1 (l.getD (n - 2) 0) + l.getD (n - 7) 0 + ss0 (l.getD (n - 15) 0) + l.getD (n - 16) 0) % 4294967296
def wl (b : Nat → Nat) : Nat → List Nat
 | 0 => []
 | n + 1 => wl b n ++ [nxt b (wl b n) n]
/-- The words of a block, one for each round. -/
def wf (b : Nat → Nat) (t : Nat) : Nat := (wl b (t + 1)).getD t 0
/-- One round. -/
def t1f (v : Nat → Nat) (k w : Nat) : Nat := v 7 + bs1 (v 4) + chf (v 4) (v 5) (v 6) + k + w
def t2f (v : Nat → Nat) : Nat := bs0 (v 0) + mjf (v 0) (v 1) (v 2)
def stp (v : Nat → Nat) (k w : Nat) (i : Nat) : Nat :=
 if i = 0 then (t1f v k w + t2f v) % 4294967296 else if i = 4 then (v 3 + t1f v k w) % 4294967296 else v (i - 1)
def rnd (W : Nat → Nat) (v : Nat → Nat) : Nat → Nat → Nat
 | 0 => v
 | t + 1 => stp (rnd W v t) (kf t) (W t)
/-- The eight words behind a block. -/
def cmp (v b : Nat → Nat) (i : Nat) : Nat := (v i + rnd (wf b) v 64 i) % 4294967296
/-- Behind so many blocks. -/
def ab (f : Nat → Nat) : Nat → Nat → Nat
 | 0 => ivf
 | n + 1 => cmp (ab f n) fun i => f (64 * n + i)
/-- A text's bytes. -/
def bf (l : List UInt8) (i : Nat) : Nat := (l.getD i 0).toNat
theorem bf_lt (l : List UInt8) (i : Nat) : bf l i < 256 := UInt8.toNat_lt _
theorem bf_left (l s : List UInt8) (i : Nat) (h : i < l.length) : bf (l ++ s) i = bf l i := by
 unfold bf; rw [List.getD_eq_getElem?_getD, List.getD_eq_getElem?_getD, List.getElem?_append_left h]
theorem bf_right (l s : List UInt8) (i : Nat) : bf (l ++ s) (l.length + i) = bf s i := by
 unfold bf; rw [List.getD_eq_getElem?_getD, List.getD_eq_getElem?_getD, List.getElem?_append_right (by omega), Nat.add_sub_cancel_left]
def be8 (m : Nat) : List UInt8 := (List.range 8).map fun k => UInt8.ofNat (m / 2 ^ (8 * (7 - k)) % 256)
def zs (n : Nat) : Nat := (119 - n % 64) % 64
/-- What stands behind so many bytes. -/
def tl (n : Nat) : List UInt8 := 128 :: (List.replicate (zs n) 0 ++ be8 (8 * n))
/-- The eight words of a text that is full blocks. -/
def sw (l : List UInt8) : Nat → Nat := ab (bf l) (l.length / 64)
/-- The digest of so many words. -/
def outL (v : Nat → Nat) : List UInt8 := (List.range 32).map fun i => UInt8.ofNat (v (i / 4) / 2 ^ (8 * (3 - i % 4)) % 256)
/-- SHA-256. -/
def sha (l : List UInt8) : List UInt8 := outL (sw (l ++ tl l.length))
end Go.Proofs.Ytojobffihlmfgaa
/- Single operations on words of 32 bits, on ints and on bytes, by naturals. -/
namespace Go.Proofs.Ytojobffihlmfgaa
open Go.RowKit
set_option linter.unusedVariables false
/-- A row of integers of one kind. -/
def rC (k : IntKind) (n : Nat) (u : Nat → Nat) : Array Value := Array.ofFn (n := n) fun i => .int k (u i : Nat)
theorem rC_size (k : IntKind) (n : Nat) (u : Nat → Nat) : (rC k n u).size = n := by simp [rC]
theorem rC_get (k : IntKind) (n : Nat) (u : Nat → Nat) (i : Nat) (h : i < n) : (rC k n u)[i]? = some (.int k (u i : Nat)) := by simp [rC, h]
section
variable {P : Program} {o : Oper} {ρ : Operand → Value}
theorem xi_and (t : TypeId) (x y : Operand) (u : TypeId) (ho : o.op = .binOp .and t x y u) (n m r : Nat) (hx : ρ x = .int .i64 n) (hy : ρ y = .int .i64 m) (hn : n < 9223372036854775808) (hm : m < 9223372036854775808) (hr : n &&& m = r) (w : World) :
  (execOp ρ o).run P w = .ok (.value (.int .i64 (r : Int))) w := by
 subst hr
 unfold execOp
 simp only [ho, hx, hy]
 simp [go_sem]
 rw [i64_and_nat n m hn hm]
theorem xi_or (t : TypeId) (x y : Operand) (u : TypeId) (ho : o.op = .binOp .or t x y u) (n m : Nat) (hx : ρ x = .int .i64 n) (hy : ρ y = .int .i64 m) (hn : n < 9223372036854775808) (hm : m < 9223372036854775808) (w : World) :
  (execOp ρ o).run P w = .ok (.value (.int .i64 ((n ||| m : Nat) : Int))) w := by
 unfold execOp
 simp only [ho, hx, hy]
 simp [go_sem]
 rw [i64_or_nat n m hn hm]
theorem xi_shr (t : TypeId) (x y : Operand) (u : TypeId) (ho : o.op = .binOp .shr t x y u) (n s : Nat) (k : IntKind) (hx : ρ x = .int .i64 n) (hy : ρ y = .int k s) (hs : s ≤ 64) (w : World) :
  (execOp ρ o).run P w = .ok (.value (.int .i64 ((n / 2 ^ s : Nat) : Int))) w := by
 unfold execOp
 simp only [ho, hx, hy]
 simp [go_sem]
theorem xi_shl (t : TypeId) (x y : Operand) (u : TypeId) (ho : o.op = .binOp .shl t x y u) (n s : Nat) (k : IntKind) (hx : ρ x = .int .i64 n) (hy : ρ y = .int k s) (hs : s ≤ 64) (hl : n * 2 ^ s < 9223372036854775808) (w : World) :
  (execOp ρ o).run P w = .ok (.value (.int .i64 ((n * 2 ^ s : Nat) : Int))) w := by
 unfold execOp
 simp only [ho, hx, hy]
 have h := wrap_i64 (n * 2 ^ s) hl
 have e : (n : Int) * 2 ^ s = ((n * 2 ^ s : Nat) : Int) := by simp
 simp [go_sem]
 rw [e, h]
theorem xi_add (t : TypeId) (x y : Operand) (u : TypeId) (ho : o.op = .binOp .add t x y u) (n m : Nat) (hx : ρ x = .int .i64 n) (hy : ρ y = .int .i64 m) (h : n + m < 9223372036854775808) (w : World) :
  (execOp ρ o).run P w = .ok (.value (.int .i64 ((n + m : Nat) : Int))) w := by
 unfold execOp
 simp only [ho, hx, hy]
 simp [go_sem]
 rw [IntKind.wrap_i64]
 omega
theorem xi_sub (t : TypeId) (x y : Operand) (u : TypeId) (ho : o.op = .binOp .sub t x y u) (n m : Nat) (hx : ρ x = .int .i64 n) (hy : ρ y = .int .i64 m) (hm : m ≤ n) (h : n < 9223372036854775808) (w : World) :
  (execOp ρ o).run P w = .ok (.value (.int .i64 ((n - m : Nat) : Int))) w := by
 unfold execOp
 simp only [ho, hx, hy]
 simp [go_sem]
 rw [IntKind.wrap_i64]
 omega
theorem xi_mul (t : TypeId) (x y : Operand) (u : TypeId) (ho : o.op = .binOp .mul t x y u) (n m r : Nat) (hx : ρ x = .int .i64 n) (hy : ρ y = .int .i64 m) (hr : n * m = r) (h : r < 9223372036854775808) (w : World) :
  (execOp ρ o).run P w = .ok (.value (.int .i64 (r : Int))) w := by
 subst hr
 unfold execOp
 simp only [ho, hx, hy]
 simp [go_sem]
 rw [← Int.natCast_mul, IntKind.wrap_i64]
 omega
/-- Between kinds of integers. -/
theorem x_conv (s d : TypeId) (x : Operand) (ho : o.op = .convert s d x) (ks kd : IntKind) (hs : P.underlying s = some (.int ks)) (hd : P.underlying d = some (.int kd)) (n : Int) (r : Int) (hx : ρ x = .int ks n) (hr : kd.wrap n = r) (w : World) :
  (execOp ρ o).run P w = .ok (.value (.int kd r)) w := by
 subst hr
 unfold execOp
 simp only [ho, hx]
 simp [convert, run_underlying hs, run_underlying hd, go_sem]
theorem wrp8 (n : Nat) (r : Nat) (h : n % 256 = r) : IntKind.u8.wrap (n : Int) = (r : Int) := by rw [IntKind.wrap_u8']; omega
theorem x_lenL (t : TypeId) (x : Operand) (ho : o.op = .call { callee := .builtin .len, args := #[x], argTypes := #[t] }) (q : Option Addr) (n c : Nat) (hx : ρ x = .slice q n c) (hu : P.underlying t = some (.slice (P.elem t))) (w : World) :
  (execOp ρ o).run P w = .ok (.value (.int .i64 n)) w := by
 unfold execOp
 simp only [ho]
 simp [resolve, invoke, builtin, hx, run_len_slice w t _ q n c hu, goInt]
theorem x_lt (t : TypeId) (x y : Operand) (u : TypeId) (ho : o.op = .binOp .lss t x y u) (n m : Int) (hx : ρ x = .int .i64 n) (hy : ρ y = .int .i64 m) (b : Bool) (hb : decide (n < m) = b) (w : World) :
  (execOp ρ o).run P w = .ok (.value (.bool b)) w := by
 subst hb
 unfold execOp
 simp only [ho, hx, hy]
 simp [go_sem]
theorem x_gt (t : TypeId) (x y : Operand) (u : TypeId) (ho : o.op = .binOp .gtr t x y u) (n m : Int) (hx : ρ x = .int .i64 n) (hy : ρ y = .int .i64 m) (b : Bool) (hb : decide (m < n) = b) (w : World) :
  (execOp ρ o).run P w = .ok (.value (.bool b)) w := by
 subst hb
 unfold execOp
 simp only [ho, hx, hy]
 simp [go_sem]
theorem x_eqI (t : TypeId) (x y : Operand) (u : TypeId) (ho : o.op = .binOp .eql t x y u) (k : IntKind) (n m : Int) (hx : ρ x = .int k n) (hy : ρ y = .int k m) (b : Bool) (hb : decide (n = m) = b) (w : World) :
  (execOp ρ o).run P w = .ok (.value (.bool b)) w := by
 subst hb
 unfold execOp
 simp only [ho, hx, hy]
 simp [eqGuard, go_sem]
 rfl
theorem x_index (t : TypeId) (x ix : Operand) (ho : o.op = .index t x ix) (hu : P.underlying t = some .string) (l : List UInt8) (hx : ρ x = .string ⟨l.toArray⟩)
  (k : IntKind) (i : Nat) (hi : ρ ix = .int k i) (h1 : i < l.length) (w : World) : (execOp ρ o).run P w = .ok (.value (.int .u8 (bf l i : Nat))) w := by
 have hs : (⟨l.toArray⟩ : ByteArray).size = l.length := by simp [ByteArray.size]
 unfold execOp
 simp only [ho, hx, hi, Sem.run_bind]
 rw [run_index_string w t ⟨l.toArray⟩ k i hu, dif_pos ⟨by omega, by omega⟩]
 show Result.ok (Next.value _) w = _
 congr 4
 have : (⟨l.toArray⟩ : ByteArray)[(i : Int).toNat]'(by rw [hs]; omega) = l[i] := by
  simp [ByteArray.getElem_eq_getElem_data]
 rw [this]
 unfold bf
 rw [List.getD_eq_getElem?_getD, List.getElem?_eq_getElem h1]
 rfl
end
end Go.Proofs.Ytojobffihlmfgaa
/- The small functions of package sha, and of the document's. -/
namespace Go.Proofs.Ytojobffihlmfgaa
open Go.RowKit
set_option linter.unusedVariables false
end Go.Proofs.Ytojobffihlmfgaa
/- The array types of package sha: their zero values, sizes, literals. -/
namespace Go.Proofs.Ytojobffihlmfgaa
open Go.RowKit
set_option linter.unusedVariables false
/-- Up to a place, and nothing behind it. -/
def upto (F : Nat → Nat) (i j : Nat) : Nat := if j < i then F j else 0
end Go.Proofs.Ytojobffihlmfgaa
/- sha's spreadOf: a word for each round. -/
namespace Go.Proofs.Ytojobffihlmfgaa
open Go.RowKit
set_option linter.unusedVariables false
end Go.Proofs.Ytojobffihlmfgaa
/- sha's mixed: the eight words behind one more block. -/
namespace Go.Proofs.Ytojobffihlmfgaa
open Go.RowKit
set_option linter.unusedVariables false
/-- The constants lie where the program's variable lies. -/
def KT (w : World) : Prop := ∃ cs t, RowR w 0 cs t ∧ ∀ i, i < 64 → cs[i]? = some (.int .u32 (kf i : Nat))
theorem KT.below {w w2 : World} (h : KT w) (hb : Below w.heap.size w w2) : KT w2 := by
 obtain ⟨cs, t, r, hk⟩ := h
 exact ⟨cs, t, r.belowAll hb, hk⟩
theorem KT.kept {w w2 : World} {S : List Nat} (h : KT w) (hk : Kept S w w2) (hS : 0 ∉ S) : KT w2 := by
 obtain ⟨cs, t, r, hc⟩ := h
 exact ⟨cs, t, hk.rowR r hS, hc⟩
theorem KT.lt {w : World} (h : KT w) : 0 < w.heap.size := by
 obtain ⟨cs, t, r, hc⟩ := h
 exact r.lt
/-- One up to a place, the other one behind it. -/
def mixu (F G : Nat → Nat) (i j : Nat) : Nat := if j < i then F j else G j
end Go.Proofs.Ytojobffihlmfgaa
