/- The law GeoApart (craquelurelaw06): for every input that can be read, it returns true, and its arguments read as before: no condition. -/
import Derived.Test.YtpflpampogngiaaRows
import Derived.Test.YtpflpampogngiaaGeoApartW
import Derived.Lib.SmallJoins
import Derived.WalkKit
import Derived.ProofKit
import Derived.OpenShut
import Derived.ShutString
import Derived.ChangeOld
import Derived.Below
import Derived.SliceStrings
namespace Go.Proofs.Ytpflpampogngiaa.geoApart
open Go.ChangeShapes Go.WideShapes Go.ChangeAt Go.RowKit
open Go.ChangeMaps (open_string shut_string)
set_option linter.unusedVariables false
theorem own : ownKnob Try.prog.godebug = none := by kernel_rfl
theorem laidOut : laidOutB Try.prog = true := by kernel_rfl
theorem walk (a0p a0q a0r a0s : Int) (w : World) :
    Calls Try.prog 8 #[.agg #[.int .i64 a0p, .int .i64 a0q, .int .i64 a0r, .int .i64 a0s]] w fun e w' => e = .returned (.bool true) ∧ Below w.heap.size w w' := by
  exact law_GeoApart w
set_option maxRecDepth 100000 in
theorem lifted (os : Os) (started : os.Started) (H : Type) (enc : TypeId × Value → H) :
    ReturnsInHanded {} Try.checked os 8 .any (Rows.geoApartSpec.pre6 enc Try.prog Try.f8 Rows.geoApartRow.domain false) (Rows.geoApartSpec.post enc Try.prog Try.f8 false true false false) := by
  refine returnsInHanded_of_change (C := Try.checked) own started (by kernel_rfl) Try.func8
    (ChangeSpec.witness6 (enc := enc) (C := Try.checked) false ⟨#[], #[.agg #[.int .i64 0, .int .i64 0, .int .i64 0, .int .i64 0]], []⟩ 8 (by kernel_rfl) (by kernel_rfl) (by kernel_rfl) (by kernel_rfl)) ?_
  intro W base args ds gs before hval0 hW hcnd _
  have hval : ∀ (j : Nat) t v, Try.f8.params[j]? = some t → args[j]? = some v → Value.okWide Try.prog W .any base t v := hval0
  have hW' := hW
  obtain ⟨p, q, hA0, hV, rfl, hfz, hnd⟩ := hW
  have hA : DataW.TrodAll enc Try.prog W 0 (fun _ => true) true Try.f8.params.toList args.toList ds p := hA0
  rw [Try.params8] at hA hval
  obtain ⟨v0, vs0, d0, ds0, p0, q0, hargs, rfl, rfl, h0, r0⟩ := trodAll_cons hA
  obtain ⟨rfl, rfl, rfl⟩ := trodAll_nil r0
  obtain rfl : args = #[v0] := by cases args; simp_all
  obtain ⟨rfl, rfl⟩ := trodVars_none hV
  have k0 := h0
  have lt0 : ∀ x ∈ p0, x.block < W.heap.size := by obtain ⟨m, hm⟩ := k0; exact DataW.trod_lt m _ _ _ hm
  obtain ⟨b0p, b0q, b0r, b0s, y0p, y0q, y0r, y0s, n0, rfl, -, -, h0p, h0q, h0r, h0s⟩ := Joins.open_agg4 Try.underlying58 (by kernel_rfl) (by kernel_rfl) (hval 0 58 v0 rfl rfl) h0
  obtain ⟨a0p, e0p, -, -⟩ := DataW.trod_int Try.underlying3 h0p
  obtain rfl : b0p = .int .i64 a0p := by simpa using e0p
  obtain ⟨a0q, e0q, -, -⟩ := DataW.trod_int Try.underlying3 h0q
  obtain rfl : b0q = .int .i64 a0q := by simpa using e0q
  obtain ⟨a0r, e0r, -, -⟩ := DataW.trod_int Try.underlying3 h0r
  obtain rfl : b0r = .int .i64 a0r := by simpa using e0r
  obtain ⟨a0s, e0s, -, -⟩ := DataW.trod_int Try.underlying3 h0s
  obtain rfl : b0s = .int .i64 a0s := by simpa using e0s
  clear h0p h0q h0r h0s h0
  clear hA0 hval0
  refine (walk a0p a0q a0r a0s W).mono fun e W' ⟨he, bel⟩ => ?_
  subst he
  exact ⟨_, rfl, _, _, _, [], _, [], hW', trodAll_mk1 (shut_bool Try.underlying4 _), (trodAll_cons_mk (Below.trod laidOut (by kernel_rfl) (of_decide_eq_true (by kernel_rfl)) k0 bel lt0) trodAll_mk0), rfl, bel.frame _, fun h => by cases h⟩
theorem over : Rows.geoApartRow.holds Try.pinned (OpenSpec.ofChange Rows.geoApartSpec) :=
  OpenClaim.holds_of_wide 8 Try.f8 rfl rfl rfl rfl rfl rfl rfl ⟨rfl, rfl, rfl, rfl, rfl⟩ rfl rfl rfl rfl rfl (by kernel_rfl) Try.func8 (by kernel_rfl)
    (of_decide_eq_true (by kernel_rfl)) (by unfold Func.isWrapper; first | (rw [if_pos (by decide +kernel)]; kernel_rfl) | (rw [if_neg (by decide +kernel)]; exact ⟨rfl, rfl⟩))
    (fun os started H enc _ => lifted os started H enc)
theorem proved : Rows.GeoApartSaid := over
#print axioms proved
end Go.Proofs.Ytpflpampogngiaa.geoApart
