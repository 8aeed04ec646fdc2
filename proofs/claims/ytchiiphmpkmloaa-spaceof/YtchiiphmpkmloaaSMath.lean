/- SHA-256 as plain mathematics: words are naturals below 2^32. -/
import Derived.WalkKit
namespace Go.Proofs.Ytchiiphmpkmloaa
set_option linter.unusedVariables false
/-- A word turned round, towards the lower bits. -/
def rr (x n : Nat) : Nat := x / 2 ^ n ||| x * 2 ^ (32 - n) % 4294967296
def ss0 (x : Nat) : Nat := rr x 7 ^^^ rr x 18 ^^^ x / 2 ^ 3
def ss1 (x : Nat) : Nat := rr x 17 ^^^ rr x 19 ^^^ x / 2 ^ 10
def bs0 (x : Nat) : Nat := rr x 2 ^^^ rr x 13 ^^^ rr x 22
def bs1 (x : Nat) : Nat := rr x 6 ^^^ rr x 11 ^^^ rr x 25
def chf (x y z : Nat) : Nat := x &&& y ^^^ (4294967295 ^^^ x) &&& z
def mjf (x y z : Nat) : Nat := x &&& y ^^^ x &&& z ^^^ y &&& z
theorem or32 {x y : Nat} (hx : x < 4294967296) (hy : y < 4294967296) : x ||| y < 4294967296 := Nat.or_lt_two_pow (n := 32) hx hy
theorem xor32 {x y : Nat} (hx : x < 4294967296) (hy : y < 4294967296) : x ^^^ y < 4294967296 := Nat.xor_lt_two_pow (n := 32) hx hy
theorem and32 {x y : Nat} (hx : x < 4294967296) : x &&& y < 4294967296 := Nat.lt_of_le_of_lt Nat.and_le_left hx
theorem div32 {x n : Nat} (hx : x < 4294967296) : x / n < 4294967296 := Nat.lt_of_le_of_lt (Nat.div_le_self _ _) hx
theorem mod32 (x : Nat) : x % 4294967296 < 4294967296 := Nat.mod_lt _ (by decide)
theorem rr_lt {x : Nat} (n : Nat) (hx : x < 4294967296) : rr x n < 4294967296 := or32 (div32 hx) (mod32 _)
theorem ss0_lt {x : Nat} (hx : x < 4294967296) : ss0 x < 4294967296 := xor32 (xor32 (rr_lt _ hx) (rr_lt _ hx)) (div32 hx)
theorem ss1_lt {x : Nat} (hx : x < 4294967296) : ss1 x < 4294967296 := xor32 (xor32 (rr_lt _ hx) (rr_lt _ hx)) (div32 hx)
theorem bs0_lt {x : Nat} (hx : x < 4294967296) : bs0 x < 4294967296 := xor32 (xor32 (rr_lt _ hx) (rr_lt _ hx)) (rr_lt _ hx)
theorem bs1_lt {x : Nat} (hx : x < 4294967296) : bs1 x < 4294967296 := xor32 (xor32 (rr_lt _ hx) (rr_lt _ hx)) (rr_lt _ hx)
theorem chf_lt {x y z : Nat} (hx : x < 4294967296) : chf x y z < 4294967296 := xor32 (and32 hx) (and32 (xor32 (by decide) hx))
theorem mjf_lt {x y z : Nat} (hx : x < 4294967296) (hy : y < 4294967296) : mjf x y z < 4294967296 := xor32 (xor32 (and32 hx) (and32 hx)) (and32 hy)
/-- The document's way to turn. -/
theorem rr_ref (x n : Nat) (hx : x < 4294967296) : (x / 2 ^ n ||| x * 2 ^ (32 - n)) &&& 4294967295 = rr x n := by
 rw [show (4294967295 : Nat) = 2 ^ 32 - 1 from rfl, Nat.and_two_pow_sub_one_eq_mod, Nat.or_mod_two_pow, Nat.mod_eq_of_lt (show x / 2 ^ n < 2 ^ 32 from div32 hx)]
 rfl
/-- The code's choice. -/
theorem ch_or (x y z : Nat) (hx : x < 4294967296) : x &&& y ||| (4294967295 - x) &&& z = chf x y z := by
 apply Nat.eq_of_testBit_eq
 intro i
 have h1 : (4294967295 - x).testBit i = (decide (i < 32) && !x.testBit i) := by
  have := Nat.testBit_two_pow_sub_succ (n := 32) hx i
  rw [← this, show 2 ^ 32 - (x + 1) = 4294967295 - x by omega]
 have h2 : (4294967295 : Nat).testBit i = decide (i < 32) := by
  rw [show (4294967295 : Nat) = 2 ^ 32 - 1 from rfl, Nat.testBit_two_pow_sub_one]
 have h3 : ¬ i < 32 → x.testBit i = false := fun h => Nat.testBit_lt_two_pow (Nat.lt_of_lt_of_le hx (by
  have : 2 ^ 32 ≤ 2 ^ i := Nat.pow_le_pow_right (by omega) (by omega)
  simpa using this))
 unfold chf
 rw [Nat.testBit_or, Nat.testBit_and, Nat.testBit_and, Nat.testBit_xor, Nat.testBit_and, Nat.testBit_and, Nat.testBit_xor, h1, h2]
 by_cases h : i < 32
 ·rw [decide_eq_true h]
  cases x.testBit i <;> cases y.testBit i <;> cases z.testBit i <;> rfl
 ·rw [decide_eq_false h, h3 h]
  cases y.testBit i <;> cases z.testBit i <;> rfl
/-- The code's majority. -/
theorem mj_or (x y z : Nat) : x &&& y ||| x &&& z ||| y &&& z = mjf x y z := by
 apply Nat.eq_of_testBit_eq
 intro i
 unfold mjf
 simp only [Nat.testBit_or, Nat.testBit_and, Nat.testBit_xor]
 cases x.testBit i <;> cases y.testBit i <;> cases z.testBit i <;> rfl
/-- The constants, and the eight words at first. -/
def kL : List Nat := [1116352408, 1899447441, 3049323471, 3921009573, 961987163, 1508970993, 2453635748, 2870763221, 3624381080, 310598401, 607225278, 1426881987, 1925078388, 2162078206, 2614888103, 3248222580, 3835390401, 4022224774, 264347078, 604807628, 770255983, 1249150122, 1555081692, 1996064986, 2554220882, 2821834349, 2952996808, 3210313671, 3336571891, 3584528711, 113926993, 338241895, 666307205, 773529912, 1294757372, 1396182291, 1695183700, 1986661051, 2177026350, 2456956037, 2730485921, 2820302411, 3259730800, 3345764771, 3516065817, 3600352804, 4094571909, 275423344, 430227734, 506948616, 659060556, 883997877, 958139571, 1322822218, 1537002063, 1747873779, 1955562222, 2024104815, 2227730452, 2361852424, 2428436474, 2756734187, 3204031479, 3329325298]
def ivL : List Nat := [1779033703, 3144134277, 1013904242, 2773480762, 1359893119, 2600822924, 528734635, 1541459225]
def kf (t : Nat) : Nat := kL.getD t 0
def ivf (t : Nat) : Nat := ivL.getD t 0
theorem getD_lt {l : List Nat} {m : Nat} (h : l.all (fun x => decide (x < m)) = true) (hm : 0 < m) (t : Nat) : l.getD t 0 < m := by
 rw [List.getD_eq_getElem?_getD]
 cases hq : l[t]? with
 | none => exact hm
 | some x => exact of_decide_eq_true (List.all_eq_true.1 h x (List.mem_of_getElem? hq))
theorem kf_lt (t : Nat) : kf t < 4294967296 := getD_lt (by decide) (by decide) t
theorem ivf_lt (t : Nat) : ivf t < 4294967296 := getD_lt (by decide) (by decide) t
/-- A block's word. -/
def wrd (b : Nat → Nat) (t : Nat) : Nat := b (4 * t) * 2 ^ 24 ||| b (4 * t + 1) * 2 ^ 16 ||| b (4 * t + 2) * 2 ^ 8 ||| b (4 * t + 3)
theorem wrd_lt {b : Nat → Nat} (hb : ∀ i, b i < 256) (t : Nat) : wrd b t < 4294967296 := by
 have h0 := hb (4 * t); have h1 := hb (4 * t + 1); have h2 := hb (4 * t + 2); have h3 := hb (4 * t + 3)
 exact or32 (or32 (or32 (by omega) (by omega)) (by omega)) (by omega)
def nxt (b : Nat → Nat) (l : List Nat) (n : Nat) : Nat :=
 if n < 16 then wrd b n else (ss1 (l.getD (n - 2) 0) + l.getD (n - 7) 0 + ss0 (l.getD (n - 15) 0) + l.getD (n - 16) 0) % 4294967296
def wl (b : Nat → Nat) : Nat → List Nat
 | 0 => []
 | n + 1 => wl b n ++ [nxt b (wl b n) n]
/-- The words of a block, one for each round. -/
def wf (b : Nat → Nat) (t : Nat) : Nat := (wl b (t + 1)).getD t 0
theorem wl_length (b : Nat → Nat) : ∀ n, (wl b n).length = n
 | 0 => rfl
 | n + 1 => by unfold wl; rw [List.length_append, wl_length b n]; rfl
theorem wf_nxt (b : Nat → Nat) (t : Nat) : wf b t = nxt b (wl b t) t := by
 show (wl b t ++ [nxt b (wl b t) t]).getD t 0 = _
 rw [List.getD_eq_getElem?_getD, List.getElem?_append_right (by rw [wl_length]; exact Nat.le_refl _), wl_length, Nat.sub_self]
 rfl
theorem wl_get (b : Nat → Nat) (t : Nat) : ∀ n, t < n → (wl b n).getD t 0 = wf b t
 | 0, h => by omega
 | n + 1, h => by
  by_cases e : t = n
  ·subst e; rfl
  ·rw [← wl_get b t n (by omega)]
   show (wl b n ++ [_]).getD t 0 = _
   rw [List.getD_eq_getElem?_getD, List.getElem?_append_left (by rw [wl_length]; omega), ← List.getD_eq_getElem?_getD]
theorem wf_lo (b : Nat → Nat) (t : Nat) (h : t < 16) : wf b t = wrd b t := by rw [wf_nxt]; unfold nxt; rw [if_pos h]
theorem wf_hi (b : Nat → Nat) (t : Nat) (h : 16 ≤ t) : wf b t = (ss1 (wf b (t - 2)) + wf b (t - 7) + ss0 (wf b (t - 15)) + wf b (t - 16)) % 4294967296 := by
 rw [wf_nxt]; unfold nxt
 rw [if_neg (by omega), wl_get b _ t (by omega), wl_get b _ t (by omega), wl_get b _ t (by omega), wl_get b _ t (by omega)]
theorem wf_lt {b : Nat → Nat} (hb : ∀ i, b i < 256) (t : Nat) : wf b t < 4294967296 := by
 by_cases h : t < 16
 ·rw [wf_lo b t h]; exact wrd_lt hb t
 ·rw [wf_hi b t (by omega)]; exact mod32 _
theorem wl_congr {b c : Nat → Nat} (h : ∀ i, i < 64 → b i = c i) : ∀ n, wl b n = wl c n
 | 0 => rfl
 | n + 1 => by
  unfold wl
  rw [wl_congr h n]
  unfold nxt
  by_cases hn : n < 16
  ·rw [if_pos hn, if_pos hn]
   unfold wrd
   rw [h _ (by omega), h _ (by omega), h _ (by omega), h _ (by omega)]
  ·rw [if_neg hn, if_neg hn]
theorem wf_congr {b c : Nat → Nat} (h : ∀ i, i < 64 → b i = c i) : wf b = wf c := by
 funext t; unfold wf; rw [wl_congr h]
/-- One round. -/
def t1f (v : Nat → Nat) (k w : Nat) : Nat := v 7 + bs1 (v 4) + chf (v 4) (v 5) (v 6) + k + w
def t2f (v : Nat → Nat) : Nat := bs0 (v 0) + mjf (v 0) (v 1) (v 2)
def stp (v : Nat → Nat) (k w : Nat) (i : Nat) : Nat :=
 if i = 0 then (t1f v k w + t2f v) % 4294967296 else if i = 4 then (v 3 + t1f v k w) % 4294967296 else v (i - 1)
theorem stp_lt {v : Nat → Nat} (hv : ∀ i, v i < 4294967296) (k w i : Nat) : stp v k w i < 4294967296 := by
 unfold stp
 split
 ·exact mod32 _
 ·split
  ·exact mod32 _
  ·exact hv _
def rnd (W : Nat → Nat) (v : Nat → Nat) : Nat → Nat → Nat
 | 0 => v
 | t + 1 => stp (rnd W v t) (kf t) (W t)
theorem rnd_lt {W v : Nat → Nat} (hv : ∀ i, v i < 4294967296) : ∀ t i, rnd W v t i < 4294967296
 | 0 => hv
 | t + 1 => stp_lt (rnd_lt hv t) _ _
/-- The eight words behind a block. -/
def cmp (v b : Nat → Nat) (i : Nat) : Nat := (v i + rnd (wf b) v 64 i) % 4294967296
theorem scmp_lt (v b : Nat → Nat) (i : Nat) : cmp v b i < 4294967296 := mod32 _
theorem cmp_congr {v b c : Nat → Nat} (h : ∀ i, i < 64 → b i = c i) : cmp v b = cmp v c := by
 funext i; unfold cmp; rw [wf_congr h]
/-- Behind so many blocks. -/
def ab (f : Nat → Nat) : Nat → Nat → Nat
 | 0 => ivf
 | n + 1 => cmp (ab f n) fun i => f (64 * n + i)
theorem ab_lt (f : Nat → Nat) : ∀ n i, ab f n i < 4294967296
 | 0 => ivf_lt
 | _ + 1 => scmp_lt _ _
theorem ab_congr {f g : Nat → Nat} : ∀ n, (∀ i, i < 64 * n → f i = g i) → ab f n = ab g n
 | 0, _ => rfl
 | n + 1, h => by
  unfold ab
  rw [ab_congr n fun i hi => h i (by omega)]
  exact cmp_congr fun i hi => h _ (by omega)
/-- A text's bytes. -/
def bf (l : List UInt8) (i : Nat) : Nat := (l.getD i 0).toNat
theorem bf_lt (l : List UInt8) (i : Nat) : bf l i < 256 := UInt8.toNat_lt _
theorem bf_left (l s : List UInt8) (i : Nat) (h : i < l.length) : bf (l ++ s) i = bf l i := by
 unfold bf; rw [List.getD_eq_getElem?_getD, List.getD_eq_getElem?_getD, List.getElem?_append_left h]
theorem bf_right (l s : List UInt8) (i : Nat) : bf (l ++ s) (l.length + i) = bf s i := by
 unfold bf; rw [List.getD_eq_getElem?_getD, List.getD_eq_getElem?_getD, List.getElem?_append_right (by omega), Nat.add_sub_cancel_left]
theorem bf_drop (l : List UInt8) (k i : Nat) : bf (l.drop k) i = bf l (k + i) := by
 unfold bf; rw [List.getD_eq_getElem?_getD, List.getD_eq_getElem?_getD, List.getElem?_drop]
def be8 (m : Nat) : List UInt8 := (List.range 8).map fun k => UInt8.ofNat (m / 2 ^ (8 * (7 - k)) % 256)
def zs (n : Nat) : Nat := (119 - n % 64) % 64
/-- What stands behind so many bytes. -/
def tl (n : Nat) : List UInt8 := 128 :: (List.replicate (zs n) 0 ++ be8 (8 * n))
theorem be8_length (m : Nat) : (be8 m).length = 8 := by simp [be8]
theorem tl_length (n : Nat) : (tl n).length = 9 + zs n := by simp [tl, be8_length]; omega
theorem full_mod (n : Nat) : (n + (tl n).length) % 64 = 0 := by rw [tl_length]; unfold zs; omega
/-- The eight words of a text that is full blocks. -/
def sw (l : List UInt8) : Nat → Nat := ab (bf l) (l.length / 64)
/-- The digest of so many words. -/
def outL (v : Nat → Nat) : List UInt8 := (List.range 32).map fun i => UInt8.ofNat (v (i / 4) / 2 ^ (8 * (3 - i % 4)) % 256)
theorem outL_length (v : Nat → Nat) : (outL v).length = 32 := by simp [outL]
/-- SHA-256. -/
def sha (l : List UInt8) : List UInt8 := outL (sw (l ++ tl l.length))
theorem sw_lt (l : List UInt8) (i : Nat) : sw l i < 4294967296 := ab_lt _ _ _
end Go.Proofs.Ytchiiphmpkmloaa
