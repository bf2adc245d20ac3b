/- The law MergeTexts (craquelurelaw18): for every input that can be read, it returns true, and its arguments read as before: no condition. -/
import Derived.Test.YtabhgoekpbmdlaaGreatRows
import Derived.Test.YtabhgoekpbmdlaaGreatMt42
import Derived.Lib.SmallJoins
import Derived.WalkKit
import Derived.ProofKit
import Derived.OpenShut
import Derived.ShutString
import Derived.ChangeOld
import Derived.Below
import Derived.SliceStrings
namespace Go.Proofs.YtabhgoekpbmdlaaGreat.mergeTexts
open Go.ChangeShapes Go.WideShapes Go.ChangeAt Go.RowKit
open Go.ChangeMaps (open_string shut_string)
set_option linter.unusedVariables false
theorem own : ownKnob Tryz.prog.godebug = none := by kernel_rfl
theorem laidOut : laidOutB Tryz.prog = true := by kernel_rfl
theorem walk (g0 : GeoQ) (u0 a0 : Option Addr) (nu0 cu0 len0 cap0 : Nat) (up0 : List NodV) (ls0 : List (List NodV)) (a1 : ByteArray) (ak2 : Int) (au2 ax2 : Option Addr) (nn2 nc2 mm2 mc2 : Nat) (ld2 : List UInt8) (ln2 : List (List UInt8)) (ak3 : Int) (au3 ax3 : Option Addr) (nn3 nc3 mm3 mc3 : Nat) (ld3 : List UInt8) (ln3 : List (List UInt8)) (w : World) (w0 : nu0 ≤ cu0 ∧ len0 ≤ cap0 ∧ RdE nodEn w (Under w.heap.size) u0 nu0 up0 ∧ RdE layEn w (Under w.heap.size) a0 len0 ls0 ∧ (∀ x ∈ up0, x.ents.length ≤ maxLen) ∧ ∀ ns ∈ ls0, ∀ x ∈ ns, x.ents.length ≤ maxLen) (w1 : a1.size ≤ maxLen) (w2 : nn2 ≤ nc2 ∧ RdE Enc.byte w (Under w.heap.size) au2 nn2 ld2 ∧ mm2 ≤ mc2 ∧ RdE Enc.text w (Under w.heap.size) ax2 mm2 ln2) (w3 : nn3 ≤ nc3 ∧ RdE Enc.byte w (Under w.heap.size) au3 nn3 ld3 ∧ mm3 ≤ mc3 ∧ RdE Enc.text w (Under w.heap.size) ax3 mm3 ln3) :
    Calls Tryz.prog 7 #[.agg (stkC g0 (.slice u0 nu0 cu0) (.slice a0 len0 cap0)).toArray, .string a1, .agg (seenC ak2 (.slice au2 nn2 nc2) (.slice ax2 mm2 mc2)).toArray, .agg (seenC ak3 (.slice au3 nn3 nc3) (.slice ax3 mm3 mc3)).toArray] w fun e w' => e = .returned (.bool true) ∧ Below w.heap.size w w' := by
  exact law_MergeTexts (s := a1.data.toList) w w0.2.2.1 w0.2.2.2.1 (by simpa [FineN, maxLen] using w0.2.2.2.2.1) (by simpa [FineN, maxLen] using w0.2.2.2.2.2) w2.2.1 w2.2.2.2 w3.2.1 w3.2.2.2
set_option maxRecDepth 100000 in
theorem lifted (os : Os) (started : os.Started) (H : Type) (enc : TypeId × Value → H) :
    ReturnsInHanded {} Tryz.checked os 7 .any (Rows.mergeTextsSpec.pre6 enc Tryz.prog Tryz.f7 Rows.mergeTextsRow.domain false) (Rows.mergeTextsSpec.post enc Tryz.prog Tryz.f7 false true false false) := by
  refine returnsInHanded_of_change (C := Tryz.checked) own started (by kernel_rfl) Tryz.func7
    (ChangeSpec.witness6 (enc := enc) (C := Tryz.checked) false ⟨#[], #[.agg #[.int .i64 0, .int .i64 0, .int .i64 0, .int .i64 0, .slice none 0 0, .slice none 0 0], .string ByteArray.empty, .agg #[.int .i64 0, .slice none 0 0, .slice none 0 0], .agg #[.int .i64 0, .slice none 0 0, .slice none 0 0]], []⟩ 8 (by kernel_rfl) (by kernel_rfl) (by kernel_rfl) (by kernel_rfl)) ?_
  intro W base args ds gs before hval0 hW hcnd _
  have hval : ∀ (j : Nat) t v, Tryz.f7.params[j]? = some t → args[j]? = some v → Value.okWide Tryz.prog W .any base t v := hval0
  have hW' := hW
  obtain ⟨p, q, hA0, hV, rfl, hfz, hnd⟩ := hW
  have hA : DataW.TrodAll enc Tryz.prog W 0 (fun _ => true) true Tryz.f7.params.toList args.toList ds p := hA0
  rw [Tryz.params7] at hA hval
  obtain ⟨v0, vs0, d0, ds0, p0, q0, hargs, rfl, rfl, h0, r0⟩ := trodAll_cons hA
  obtain ⟨v1, vs1, d1, ds1, p1, q1, rfl, rfl, rfl, h1, r1⟩ := trodAll_cons r0
  obtain ⟨v2, vs2, d2, ds2, p2, q2, rfl, rfl, rfl, h2, r2⟩ := trodAll_cons r1
  obtain ⟨v3, vs3, d3, ds3, p3, q3, rfl, rfl, rfl, h3, r3⟩ := trodAll_cons r2
  obtain ⟨rfl, rfl, rfl⟩ := trodAll_nil r3
  obtain rfl : args = #[v0, v1, v2, v3] := by cases args; simp_all
  obtain ⟨rfl, rfl⟩ := trodVars_none hV
  have k0 := h0
  have lt0 : ∀ x ∈ p0, x.block < W.heap.size := by obtain ⟨m, hm⟩ := k0; exact DataW.trod_lt m _ _ _ hm
  obtain ⟨g0, u0, a0, nu0, cu0, len0, cap0, up0, ls0, rfl, w0⟩ := open_stack (hval 0 29 v0 rfl rfl) h0
  obtain ⟨a1, rfl, rfl, rfl, w1⟩ := open_string Tryz.underlying9 (hval 1 9 v1 rfl rfl) h1
  have k2 := h2
  have lt2 : ∀ x ∈ p2, x.block < W.heap.size := by obtain ⟨m, hm⟩ := k2; exact DataW.trod_lt m _ _ _ hm
  obtain ⟨ak2, au2, ax2, nn2, nc2, mm2, mc2, ld2, ln2, rfl, w2⟩ := open_seen (hval 2 77 v2 rfl rfl) h2
  have k3 := h3
  have lt3 : ∀ x ∈ p3, x.block < W.heap.size := by obtain ⟨m, hm⟩ := k3; exact DataW.trod_lt m _ _ _ hm
  obtain ⟨ak3, au3, ax3, nn3, nc3, mm3, mc3, ld3, ln3, rfl, w3⟩ := open_seen (hval 3 77 v3 rfl rfl) h3
  clear hA0 hval0
  refine (walk g0 u0 a0 nu0 cu0 len0 cap0 up0 ls0 a1 ak2 au2 ax2 nn2 nc2 mm2 mc2 ld2 ln2 ak3 au3 ax3 nn3 nc3 mm3 mc3 ld3 ln3 W w0 w1 w2 w3).mono fun e W' ⟨he, bel⟩ => ?_
  subst he
  exact ⟨_, rfl, _, _, _, [], _, [], hW', trodAll_mk1 (shut_bool Tryz.underlying4 _), (trodAll_cons_mk (Below.trod laidOut (by kernel_rfl) (of_decide_eq_true (by kernel_rfl)) k0 bel lt0) (trodAll_cons_mk (shut_string Tryz.underlying9 w1) (trodAll_cons_mk (Below.trod laidOut (by kernel_rfl) (of_decide_eq_true (by kernel_rfl)) k2 bel lt2) (trodAll_cons_mk (Below.trod laidOut (by kernel_rfl) (of_decide_eq_true (by kernel_rfl)) k3 bel lt3) trodAll_mk0)))), rfl, bel.frame _, fun h => by cases h⟩
theorem over : Rows.mergeTextsRow.holds Tryz.pinned (OpenSpec.ofChange Rows.mergeTextsSpec) :=
  OpenClaim.holds_of_wide 7 Tryz.f7 rfl rfl rfl rfl rfl rfl rfl ⟨rfl, rfl, rfl, rfl, rfl⟩ rfl rfl rfl rfl rfl (by kernel_rfl) Tryz.func7 (by kernel_rfl)
    (of_decide_eq_true (by kernel_rfl)) (by unfold Func.isWrapper; first | (rw [if_pos (by decide +kernel)]; kernel_rfl) | (rw [if_neg (by decide +kernel)]; exact ⟨rfl, rfl⟩))
    (fun os started H enc _ => lifted os started H enc)
theorem proved : Rows.MergeTextsSaid := over
#print axioms proved
end Go.Proofs.YtabhgoekpbmdlaaGreat.mergeTexts
