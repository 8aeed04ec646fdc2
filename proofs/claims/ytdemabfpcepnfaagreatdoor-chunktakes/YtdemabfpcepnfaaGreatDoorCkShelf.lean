/- strings.Repeat of noughts; a strings.Builder's WriteString and String: at this program, by the library's contracts. -/
import Derived.Shelf.Strings.Repeat
import Derived.Test.YtdemabfpcepnfaaGreatDoorGA
namespace Go.Proofs.YtdemabfpcepnfaaGreatDoor
open Go.Shelf Go.RowKit
def lays105_ren : Go.Shelf.Ren := ⟨fun | 105 => 53 | 212 => 75 | 99 => 76 | 165 => 77 | 166 => 58 | 170 => 78 | 169 => 59 | 263 => 98 | 264 => 99 | 206 => 100 | 240 => 83 | 241 => 101 | 276 => 105 | 277 => 108 | n => n, fun | 9 => 9 | 3 => 3 | 4 => 4 | 20 => 20 | 0 => 0 | 46 => 119 | 109 => 120 | 5 => 5 | 72 => 98 | 76 => 102 | 51 => 145 | 146 => 146 | 53 => 24 | 148 => 135 | 70 => 96 | 37 => 64 | 75 => 101 | 127 => 131 | 164 => 153 | 80 => 104 | n => n, fun | n => n⟩
theorem lays105 : Go.Proofs.Lays.n105 Tryz.prog lays105_ren := {
 mixed := by kernel_rfl
 f99 := Tryz.func76.trans (congrArg some (by kernel_rfl))
 f105 := Tryz.func53.trans (congrArg some (by kernel_rfl))
 f165 := Tryz.func77.trans (congrArg some (by kernel_rfl))
 f166 := Tryz.func58.trans (congrArg some (by kernel_rfl))
 f169 := Tryz.func59.trans (congrArg some (by kernel_rfl))
 f170 := Tryz.func78.trans (congrArg some (by kernel_rfl))
 f206 := Tryz.func100.trans (congrArg some (by kernel_rfl))
 f212 := Tryz.func75.trans (congrArg some (by kernel_rfl))
 f240 := Tryz.func83.trans (congrArg some (by kernel_rfl))
 f241 := Tryz.func101.trans (congrArg some (by kernel_rfl))
 f263 := Tryz.func98.trans (congrArg some (by kernel_rfl))
 f264 := Tryz.func99.trans (congrArg some (by kernel_rfl))
 f276 := Tryz.func105.trans (congrArg some (by kernel_rfl))
 f277 := Tryz.func108.trans (congrArg some (by kernel_rfl))
 t0 := Tryz.underlying0
 a0 := Tryz.isAgg0
 z0 := Tryz.sizeOf0
 v0 := Tryz.zeroValue0
 t3 := Tryz.underlying3
 a3 := Tryz.isAgg3
 z3 := Tryz.sizeOf3
 v3 := Tryz.zeroValue3
 t4 := Tryz.underlying4
 a4 := Tryz.isAgg4
 z4 := Tryz.sizeOf4
 v4 := Tryz.zeroValue4
 t5 := Tryz.underlying5
 a5 := Tryz.isAgg5
 z5 := Tryz.sizeOf5
 v5 := Tryz.zeroValue5
 t9 := Tryz.underlying9
 a9 := Tryz.isAgg9
 z9 := Tryz.sizeOf9
 v9 := Tryz.zeroValue9
 t20 := Tryz.underlying20
 a20 := Tryz.isAgg20
 z20 := Tryz.sizeOf20
 v20 := Tryz.zeroValue20
 t37 := Tryz.underlying64
 a37 := Tryz.isAgg64
 z37 := Tryz.sizeOf64
 v37 := Tryz.zeroValue64
 t46 := Tryz.underlying119
 a46 := Tryz.isAgg119
 z46 := Tryz.sizeOf119
 v46 := Tryz.zeroValue119
 t51 := Tryz.underlying145
 a51 := Tryz.isAgg145
 z51 := Tryz.sizeOf145
 v51 := Tryz.zeroValue145
 t53 := Tryz.underlying24
 a53 := Tryz.isAgg24
 z53 := Tryz.sizeOf24
 v53 := Tryz.zeroValue24
 t70 := Tryz.underlying96
 a70 := Tryz.isAgg96
 z70 := Tryz.sizeOf96
 v70 := Tryz.zeroValue96
 t72 := Tryz.underlying98
 a72 := Tryz.isAgg98
 z72 := Tryz.sizeOf98
 v72 := Tryz.zeroValue98
 t75 := Tryz.underlying101
 a75 := Tryz.isAgg101
 z75 := Tryz.sizeOf101
 v75 := Tryz.zeroValue101
 t76 := Tryz.underlying102
 a76 := Tryz.isAgg102
 z76 := Tryz.sizeOf102
 v76 := Tryz.zeroValue102
 t109 := Tryz.underlying120
 a109 := Tryz.isAgg120
 z109 := Tryz.sizeOf120
 v109 := Tryz.zeroValue120
 t127 := Tryz.underlying131
 a127 := Tryz.isAgg131
 z127 := Tryz.sizeOf131
 v127 := Tryz.zeroValue131
 t146 := Tryz.underlying146
 a146 := Tryz.isAgg146
 z146 := Tryz.sizeOf146
 v146 := Tryz.zeroValue146
 t148 := Tryz.underlying135
 a148 := Tryz.isAgg135
 z148 := Tryz.sizeOf135
 v148 := Tryz.zeroValue135
 t164 := Tryz.underlying153
 a164 := Tryz.isAgg153
 z164 := Tryz.sizeOf153
 v164 := Tryz.zeroValue153 }
theorem bextra105 : Builder.Extra Tryz.prog lays105_ren := {
 sizeBuilder := by kernel_rfl
 liesBuilder := by kernel_rfl
 t5 := Tryz.underlying5
 a5 := Tryz.isAgg5
 z5 := Tryz.sizeOf5
 v5 := Tryz.zeroValue5
 infoByte := by kernel_rfl
 cellsByte := by kernel_rfl
 sizeByte := by kernel_rfl
 neB5 := by decide }
theorem rep_list (k : Nat) : Lib.repeatL [0] k = List.replicate k 0 := by
 induction k with
 | zero => rfl
 | succ k ih => rw [Lib.repeatL, ih]; rfl
theorem repeat_any (k : Nat) (w : World) (hk : k ≤ 100000) :
  Calls Tryz.prog 53 #[.string { data := #[0] }, .int .i64 k] w fun e w' => e = .returned (.string ⟨(List.replicate k 0).toArray⟩) ∧ Below w.heap.size w w' := by
 have h := Any.strings_Repeat lays105 bextra105 { data := #[0] } k w (by omega) (by show 1 * k ≤ _; omega)
 rw [show (({ data := #[0] } : ByteArray).data.toList) = [0] from rfl, rep_list] at h
 exact h
/-- A builder of the call's own, and its bytes. -/
def BuAt (w : World) (B b : Nat) (l : List UInt8) : Prop := Lib.IsBuilder 98 5 B b (Lib.byteCells l) w
theorem bu_below {B g0 : Nat} {p : Value} {bs : List Value} {w w' : World} (h : Lib.BuilderAt 98 5 B g0 p bs w) (hb : Below w.heap.size w w') : Lib.BuilderAt 98 5 B g0 p bs w' := by
 obtain ⟨hB, v, hbk, hown, hne⟩ := h
 refine ⟨hB, v, (hb.block g0 (Array.getElem?_eq_some_iff.1 hbk).1).trans hbk, ?_, hne⟩
 exact hown.kept (row := none) ⟨hb.os, hb.tape, hb.output, hb.size, fun k hk _ => hb.block k hk⟩ (by cases v.ownBlock <;> simp)
theorem BuAt.below {B b : Nat} {l : List UInt8} {w w' : World} (h : BuAt w B b l) (hb : Below w.heap.size w w') : BuAt w' B b l := h.imp (fun h => bu_below h hb) (fun h => bu_below h hb)
theorem BuAt.fresh {B b : Nat} {w : World} (hB : B ≤ b) (h : Row w b #[.pointer none, .slice none 0 0] 98) : BuAt w B b [] :=
 Or.inl ⟨hB, .slice none 0 0, h, World.ownsRow_nil _ _ _ _, by simp [Value.ownBlock]⟩
theorem wstr_any (B b : Nat) (l s : List UInt8) (w : World) (h : BuAt w B b l) (hlen : l.length + s.length ≤ 100000) (hBw : B ≤ w.heap.size) :
  Calls Tryz.prog 58 #[.pointer (some ⟨b, 0, none⟩), .string ⟨s.toArray⟩] w fun e w' => e = .returned (.tuple #[.int .i64 s.length, .nilIface]) ∧ BuAt w' B b (l ++ s) ∧ Below B w w' := by
 have hs : (⟨s.toArray⟩ : ByteArray).size = s.length := by simp [ByteArray.size]
 have h1 := Any.Builder_WriteString { lays105 with } bextra105 B b (Lib.byteCells l) ⟨s.toArray⟩ w h (by rw [Lib.byteCells_length, hs]; omega) hBw
 rw [hs] at h1
 refine h1.mono fun e w' ⟨he, hb, hl⟩ => ⟨he, .inr ?_, hl⟩
 have e2 : Lib.byteCells l ++ Lib.strCells ⟨s.toArray⟩ = Lib.byteCells (l ++ s) := by simp [Lib.byteCells, Lib.strCells]
 rw [← e2]
 exact hb
theorem bstr_any (B b : Nat) (l : List UInt8) (w : World) (h : BuAt w B b l) (hBw : B ≤ w.heap.size) :
  Calls Tryz.prog 59 #[.pointer (some ⟨b, 0, none⟩)] w fun e w' => e = .returned (.string ⟨l.toArray⟩) ∧ Below B w w' := Any.Builder_String_any { lays105 with } bextra105 B b l w h hBw
end Go.Proofs.YtdemabfpcepnfaaGreatDoor
