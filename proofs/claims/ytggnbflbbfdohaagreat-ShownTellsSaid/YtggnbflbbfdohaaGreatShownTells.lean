/- The law ShownTells (craquelurelaw19): for every input that can be read, it returns true, and its arguments read as before: no condition. -/
import Derived.Test.YtggnbflbbfdohaaGreatRows
import Derived.Test.YtggnbflbbfdohaaGreatSt37
import Derived.Lib.SmallJoins
import Derived.WalkKit
import Derived.ProofKit
import Derived.OpenShut
import Derived.ShutString
import Derived.ChangeOld
import Derived.Below
import Derived.SliceStrings
namespace Go.Proofs.YtggnbflbbfdohaaGreat.shownTells
open Go.ChangeShapes Go.WideShapes Go.ChangeAt Go.RowKit
open Go.ChangeMaps (open_string shut_string)
set_option linter.unusedVariables false
theorem own : ownKnob Tryz.prog.godebug = none := by kernel_rfl
theorem laidOut : laidOutB Tryz.prog = true := by kernel_rfl
theorem walk (g0 : GeoQ) (u0 a0 : Option Addr) (nu0 cu0 len0 cap0 : Nat) (up0 : List NodV) (ls0 : List (List NodV)) (a1p a1q : Int) (a2 : Option Addr) (len2 cap2 : Nat) (l2 : List ShnV) (w : World) (w0 : nu0 ≤ cu0 ∧ len0 ≤ cap0 ∧ RdE nodEn w (Under w.heap.size) u0 nu0 up0 ∧ RdE layEn w (Under w.heap.size) a0 len0 ls0 ∧ (∀ x ∈ up0, x.ents.length ≤ maxLen) ∧ ∀ ns ∈ ls0, ∀ x ∈ ns, x.ents.length ≤ maxLen) (w2 : len2 ≤ cap2 ∧ RdE shnEn w (Under w.heap.size) a2 len2 l2) :
    Calls Tryz.prog 3 #[.agg (stkC g0 (.slice u0 nu0 cu0) (.slice a0 len0 cap0)).toArray, .agg (prC (a1p, a1q)).toArray, .slice a2 len2 cap2] w fun e w' => e = .returned (.bool true) ∧ Below w.heap.size w w' := by
  exact law_ShownTells (p := (a1p, a1q)) w w0.2.2.1 w0.2.2.2.1 w2.2 (by simpa [FineN, maxLen] using w0.2.2.2.2.1) (by simpa [FineN, maxLen] using w0.2.2.2.2.2)
set_option maxRecDepth 100000 in
theorem lifted (os : Os) (started : os.Started) (H : Type) (enc : TypeId × Value → H) :
    ReturnsInHanded {} Tryz.checked os 3 .any (Rows.shownTellsSpec.pre6 enc Tryz.prog Tryz.f3 Rows.shownTellsRow.domain false) (Rows.shownTellsSpec.post enc Tryz.prog Tryz.f3 false true false false) := by
  refine returnsInHanded_of_change (C := Tryz.checked) own started (by kernel_rfl) Tryz.func3
    (ChangeSpec.witness6 (enc := enc) (C := Tryz.checked) false ⟨#[], #[.agg #[.int .i64 0, .int .i64 0, .int .i64 0, .int .i64 0, .slice none 0 0, .slice none 0 0], .agg #[.int .i64 0, .int .i64 0], .slice none 0 0], []⟩ 8 (by kernel_rfl) (by kernel_rfl) (by kernel_rfl) (by kernel_rfl)) ?_
  intro W base args ds gs before hval0 hW hcnd _;have hval : ∀ (j : Nat) t v, Tryz.f3.params[j]? = some t → args[j]? = some v → Value.okWide Tryz.prog W .any base t v := hval0;have hW' := hW;obtain ⟨p, q, hA0, hV, rfl, hfz, hnd⟩ := hW;have hA : DataW.TrodAll enc Tryz.prog W 0 (fun _ => true) true Tryz.f3.params.toList args.toList ds p := hA0;rw [Tryz.params3] at hA hval;obtain ⟨v0, vs0, d0, ds0, p0, q0, hargs, rfl, rfl, h0, r0⟩ := trodAll_cons hA;obtain ⟨v1, vs1, d1, ds1, p1, q1, rfl, rfl, rfl, h1, r1⟩ := trodAll_cons r0;obtain ⟨v2, vs2, d2, ds2, p2, q2, rfl, rfl, rfl, h2, r2⟩ := trodAll_cons r1;obtain ⟨rfl, rfl, rfl⟩ := trodAll_nil r2
  obtain rfl : args = #[v0, v1, v2] := by cases args; simp_all
  obtain ⟨rfl, rfl⟩ := trodVars_none hV
  have k0 := h0
  have lt0 : ∀ x ∈ p0, x.block < W.heap.size := by obtain ⟨m, hm⟩ := k0; exact DataW.trod_lt m _ _ _ hm
  obtain ⟨g0, u0, a0, nu0, cu0, len0, cap0, up0, ls0, rfl, w0⟩ := open_stack (hval 0 29 v0 rfl rfl) h0
  have k1 := h1
  have lt1 : ∀ x ∈ p1, x.block < W.heap.size := by obtain ⟨m, hm⟩ := k1; exact DataW.trod_lt m _ _ _ hm
  obtain ⟨b1p, b1q, y1p, y1q, n1, rfl, -, -, h1p, h1q⟩ := Joins.open_agg2 Tryz.underlying31 (by kernel_rfl) (by kernel_rfl) (hval 1 31 v1 rfl rfl) h1;obtain ⟨a1p, e1p, -, -⟩ := DataW.trod_int Tryz.underlying3 h1p
  obtain rfl : b1p = .int .i64 a1p := by simpa using e1p
  obtain ⟨a1q, e1q, -, -⟩ := DataW.trod_int Tryz.underlying3 h1q
  obtain rfl : b1q = .int .i64 a1q := by simpa using e1q
  clear h1p h1q h1;obtain ⟨a2, len2, cap2, rfl⟩ := okWide_slice Tryz.underlying32 (hval 2 32 v2 rfl rfl)
  have k2 := h2
  have lt2 : ∀ x ∈ p2, x.block < W.heap.size := by obtain ⟨m, hm⟩ := k2; exact DataW.trod_lt m _ _ _ hm
  obtain ⟨l2, w2⟩ := came_E (E := shnEn) h2 (fun _ _ _ => open_shown);clear hA0 hval0;refine (walk g0 u0 a0 nu0 cu0 len0 cap0 up0 ls0 a1p a1q a2 len2 cap2 l2 W w0 w2).mono fun e W' ⟨he, bel⟩ => ?_;subst he;exact ⟨_, rfl, _, _, _, [], _, [], hW', trodAll_mk1 (shut_bool Tryz.underlying4 _), (trodAll_cons_mk (Below.trod laidOut (by kernel_rfl) (of_decide_eq_true (by kernel_rfl)) k0 bel lt0) (trodAll_cons_mk (Below.trod laidOut (by kernel_rfl) (of_decide_eq_true (by kernel_rfl)) k1 bel lt1) (trodAll_cons_mk (Below.trod laidOut (by kernel_rfl) (of_decide_eq_true (by kernel_rfl)) k2 bel lt2) trodAll_mk0))), rfl, bel.frame _, fun h => by cases h⟩
theorem over : Rows.shownTellsRow.holds Tryz.pinned (OpenSpec.ofChange Rows.shownTellsSpec) :=
  OpenClaim.holds_of_wide 3 Tryz.f3 rfl rfl rfl rfl rfl rfl rfl ⟨rfl, rfl, rfl, rfl, rfl⟩ rfl rfl rfl rfl rfl (by kernel_rfl) Tryz.func3 (by kernel_rfl)
    (of_decide_eq_true (by kernel_rfl)) (by unfold Func.isWrapper; first | (rw [if_pos (by decide +kernel)]; kernel_rfl) | (rw [if_neg (by decide +kernel)]; exact ⟨rfl, rfl⟩))
    (fun os started H enc _ => lifted os started H enc)
theorem proved : Rows.ShownTellsSaid := over
#print axioms proved
end Go.Proofs.YtggnbflbbfdohaaGreat.shownTells
