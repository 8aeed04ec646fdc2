/- SpaceOf: for any number of servers and clients, up to 20 keys of few bytes and up to 12 numbers: the space that knows them, or that there is none such; of one that there is, it goes on alike; no condition. -/
import Derived.Test.YtchiiphmpkmloaaSpOfNo
import Derived.Test.YtchiiphmpkmloaaSpOfYes
namespace Go.Proofs.Ytchiiphmpkmloaa
open Go.ChangeShapes Go.WideShapes Go.ChangeAt Go.RowKit
set_option linter.unusedVariables false
set_option linter.unusedSectionVars false
set_option linter.unusedSimpArgs false
namespace spaceOfP
theorem walk (n m : Int) (ak : Option Addr) (ck : Nat) (l : List Ky) (gq oq : Nat) (kcs : Array Value) (tk : TypeId) (az : Option Addr) (cz : Nat) (zs : List Int) (gz oz : Nat) (zcs : Array Value) (tz : TypeId) (w : World) (hn2 : n ≤ 9223372036854775807) (hm1 : l.length ≤ maxLen) (hc1 : ak = none → ck = 0) (hk : ElsAt 1 w ak l.length (stC l) gq oq kcs tk) (hm2 : zs.length ≤ maxLen) (hc2 : az = none → cz = 0) (hz : ElsAt 1 w az zs.length (inC zs) gz oz zcs tz) :
  Calls Try.prog 5 #[.agg #[.int .i64 n, .int .i64 m], .slice ak l.length ck, .slice az zs.length cz] w fun e w' => e = .returned (.bool true) ∧ Below w.heap.size w w' := by
 cases h : mayOf n m zs l with
 | false => exact spaceOf_no n m ak ck l gq oq kcs tk az cz zs gz oz zcs tz w hn2 hm1 hc1 hk hm2 hc2 hz h
 | true => exact spaceOf_yes n m ak ck l gq oq kcs tk az cz zs gz oz zcs tz w hn2 hm1 hc1 hk hm2 hc2 hz h
set_option maxRecDepth 100000 in
theorem lifted (os : Os) (started : os.Started) (H : Type) (enc : TypeId × Value → H) :
  ReturnsInHanded {} Try.checked os 5 .any (Rows.spaceOfSpec.pre6 enc Try.prog Try.f5 Rows.spaceOfRow.domain false) (Rows.spaceOfSpec.post enc Try.prog Try.f5 false true false false) := by
 refine returnsInHanded_of_change (C := Try.checked) own started (by kernel_rfl) Try.func5
  (ChangeSpec.witness6 (enc := enc) (C := Try.checked) false ⟨#[], #[.agg #[.int .i64 0, .int .i64 0], .slice none 0 0, .slice none 0 0], []⟩ 8 (by kernel_rfl) (by kernel_rfl) (by kernel_rfl) (by kernel_rfl)) ?_
 intro W base args ds gs before hval0 hW hcnd _
 have hval : ∀ (j : Nat) t v, Try.f5.params[j]? = some t → args[j]? = some v → Value.okWide Try.prog W .any base t v := hval0
 have hW' := hW
 obtain ⟨p, q, hA0, hV, rfl, hfz, hnd⟩ := hW
 have hA : DataW.TrodAll enc Try.prog W 0 (fun _ => true) true Try.f5.params.toList args.toList ds p := hA0
 rw [Try.params5] at hA hval
 obtain ⟨v0, vs0, d0, ds0, p0, q0, hargs, rfl, rfl, h0, r0⟩ := trodAll_cons hA
 obtain ⟨v1, vs1, d1, ds1, p1, q1, rfl, rfl, rfl, h1, r1⟩ := trodAll_cons r0
 obtain ⟨v2, vs2, d2, ds2, p2, q2, rfl, rfl, rfl, h2, r2⟩ := trodAll_cons r1
 obtain ⟨rfl, rfl, rfl⟩ := trodAll_nil r2
 obtain rfl : args = #[v0, v1, v2] := by cases args; simp_all
 obtain ⟨rfl, rfl⟩ := trodVars_none hV
 have k0 := h0
 have lt0 := lt_of_trod h0
 obtain ⟨x0, y0, rfl, hx0⟩ := open_i2 (hval 0 22 v0 rfl rfl) h0
 have k1 := h1
 have lt1 := lt_of_trod h1
 obtain ⟨ab1, c1, L1, gb1, ob1, bcs1, tb1, rfl, hn1, hc1, hz1⟩ := open_kys (hval 1 30 v1 rfl rfl) h1
 have k2 := h2
 have lt2 := lt_of_trod h2
 obtain ⟨ab2, c2, L2, gb2, ob2, bcs2, tb2, rfl, hn2, hc2, hz2⟩ := open_zl (hval 2 31 v2 rfl rfl) h2
 clear hA0 hval0
 refine (walk x0 y0 ab1 c1 L1 gb1 ob1 bcs1 tb1 ab2 c2 L2 gb2 ob2 bcs2 tb2 W hx0 hn1 hc1 hz1 hn2 hc2 hz2).mono fun e W' ⟨he, bel⟩ => ?_
 subst he
 exact ⟨_, rfl, _, _, _, [], _, [], hW', trodAll_mk1 (shut_bool Try.underlying4 _), (trodAll_cons_mk (Below.trod laidOut (by kernel_rfl) (of_decide_eq_true (by kernel_rfl)) k0 bel lt0) (trodAll_cons_mk (Below.trod laidOut (by kernel_rfl) (of_decide_eq_true (by kernel_rfl)) k1 bel lt1) (trodAll_cons_mk (Below.trod laidOut (by kernel_rfl) (of_decide_eq_true (by kernel_rfl)) k2 bel lt2) trodAll_mk0))), rfl, bel.frame _, fun h => by cases h⟩
theorem over : Rows.spaceOfRow.holds Try.pinned (OpenSpec.ofChange Rows.spaceOfSpec) :=
 OpenClaim.holds_of_wide 5 Try.f5 rfl rfl rfl rfl rfl rfl rfl ⟨rfl, rfl, rfl, rfl, rfl⟩ rfl rfl rfl rfl rfl (by kernel_rfl) Try.func5 (by kernel_rfl)
  (of_decide_eq_true (by kernel_rfl)) (by unfold Func.isWrapper; first | (rw [if_pos (by decide +kernel)]; kernel_rfl) | (rw [if_neg (by decide +kernel)]; exact ⟨rfl, rfl⟩))
  (fun os started H enc _ => lifted os started H enc)
end spaceOfP
/-- for any number of servers and clients, up to 20 keys of few bytes and up to 12 numbers: the space that knows them, or that there is none such; of one that there is, it goes on alike; no condition. -/
theorem spaceOf_holds : Rows.SpaceOfSaid := spaceOfP.over
end Go.Proofs.Ytchiiphmpkmloaa
