/- The law MergeShows (craquelurelaw18): for every input that can be read and is of bulk at most 1048576 (values and letters, each counted each time it is reached), it returns true, and its arguments read as before. -/
import Derived.Test.YthdoimgbbabcaaaGreatRows
import Derived.Test.YthdoimgbbabcaaaGreatMs37
import Derived.Test.YthdoimgbbabcaaaGreatMs38
import Derived.Lib.SmallJoins
import Derived.WalkKit
import Derived.ProofKit
import Derived.OpenShut
import Derived.ShutString
import Derived.ChangeOld
import Derived.Below
import Derived.SliceStrings
import Derived.JoinedCond
namespace Go.Proofs.YthdoimgbbabcaaaGreat.mergeShowsUpto
open Go.ChangeShapes Go.WideShapes Go.ChangeAt Go.RowKit
open Go.ChangeMaps (open_string shut_string)
set_option linter.unusedVariables false
theorem own : ownKnob Tryz.prog.godebug = none := by kernel_rfl
theorem laidOut : laidOutB Tryz.prog = true := by kernel_rfl
def IsStrs (w : World) (a : Option Addr) (len cap : Nat) (zs : List ByteArray) : Prop :=
  (a = none ∧ len = 0 ∧ cap = 0 ∧ zs = []) ∨
  ∃ x, a = some x ∧ len ≤ cap ∧ cap ≤ maxLen ∧ zs.length = cap ∧ (∀ i, i < zs.length → w.cell? (x.add i) = some (.string (zs.getD i ByteArray.empty))) ∧ ∀ s ∈ zs, s.size ≤ maxLen
theorem walk (g0 : GeoQ) (u0 a0 : Option Addr) (nu0 cu0 len0 cap0 : Nat) (up0 : List NodV) (ls0 : List (List NodV)) (a1 : Option Addr) (len1 cap1 : Nat) (z1 : List ByteArray) (a2p a2q : Int) (w : World) (w0 : nu0 ≤ cu0 ∧ len0 ≤ cap0 ∧ RdE nodEn w (Under w.heap.size) u0 nu0 up0 ∧ RdE layEn w (Under w.heap.size) a0 len0 ls0 ∧ (∀ x ∈ up0, x.ents.length ≤ maxLen) ∧ ∀ ns ∈ ls0, ∀ x ∈ ns, x.ents.length ≤ maxLen) (w1 : IsStrs w a1 len1 cap1 z1) (b1 : totB (z1.take len1) ≤ 1048576) :
    Calls Tryz.prog 4 #[.agg (stkC g0 (.slice u0 nu0 cu0) (.slice a0 len0 cap0)).toArray, .slice a1 len1 cap1, .agg (prC (a2p, a2q)).toArray] w fun e w' => e = .returned (.bool true) ∧ Below w.heap.size w w' := by
  obtain ⟨⟨l, hl, ht⟩, hnc⟩ := Rd.came2 w1
  exact law_MergeShows (p := (a2p, a2q)) w w0.2.2.1 w0.2.2.2.1 (by simpa [FineN, maxLen] using w0.2.2.2.2.1) (by simpa [FineN, maxLen] using w0.2.2.2.2.2) hl hnc (by rw [ht]; exact b1)
theorem bulk_strs {H : Type} (ss : List ByteArray) : Rows.uptoBulkAll (strs (H := H) ss) = totB ss := by
  induction ss with
  | nil => rfl
  | cons s r ih =>
    have e : s.data.toList.length = s.size := by rw [Array.length_toList]; rfl
    show Rows.uptoBulk (DataW.lit (H := H) (.string s.data.toList)) + Rows.uptoBulkAll (strs (H := H) r) = _
    rw [ih]
    simp only [Rows.uptoBulk, totB, List.map_cons, List.sum_cons, e]
set_option maxRecDepth 100000 in
theorem contract (H : Type) (enc : TypeId × Value → H) (W : World) (base : Nat) (args : Array Value) (ds gs : List (DataW H)) (before : List MemPlace)
    (hval : ∀ (j : Nat) t v, Tryz.f4.params[j]? = some t → args[j]? = some v → Value.okWide Tryz.prog W .any base t v)
    (hW : DataW.Whole enc Tryz.prog Tryz.f4.params.toList Rows.mergeShowsSpec.vars false W args.toList ds gs before) (hk : Rows.uptoSmall H (ds ++ gs) = true) :
    Calls Tryz.prog 4 args W fun e W' => ∃ v, e = .returned v ∧ Rows.mergeShowsSpec.post enc Tryz.prog Tryz.f4 false true false false W args v W' := by
  have hW' := hW
  obtain ⟨p, q, hA0, hV, rfl, hfz, hnd⟩ := hW
  have hA : DataW.TrodAll enc Tryz.prog W 0 (fun _ => true) true Tryz.f4.params.toList args.toList ds p := hA0
  rw [Tryz.params4] at hA hval
  obtain ⟨v0, vs0, d0, ds0, p0, q0, hargs, rfl, rfl, h0, r0⟩ := trodAll_cons hA
  obtain ⟨v1, vs1, d1, ds1, p1, q1, rfl, rfl, rfl, h1, r1⟩ := trodAll_cons r0
  obtain ⟨v2, vs2, d2, ds2, p2, q2, rfl, rfl, rfl, h2, r2⟩ := trodAll_cons r1
  obtain ⟨rfl, rfl, rfl⟩ := trodAll_nil r2
  obtain rfl : args = #[v0, v1, v2] := by cases args; simp_all
  obtain ⟨rfl, rfl⟩ := trodVars_none hV
  have k0 := h0
  have lt0 : ∀ x ∈ p0, x.block < W.heap.size := by obtain ⟨m, hm⟩ := k0; exact DataW.trod_lt m _ _ _ hm
  obtain ⟨g0, u0, a0, nu0, cu0, len0, cap0, up0, ls0, rfl, w0⟩ := open_stack (hval 0 29 v0 rfl rfl) h0
  obtain ⟨a1, len1, cap1, rfl⟩ := okWide_slice Tryz.underlying54 (hval 1 54 v1 rfl rfl)
  have k1 := h1
  have lt1 : ∀ x ∈ p1, x.block < W.heap.size := by obtain ⟨m, hm⟩ := k1; exact DataW.trod_lt m _ _ _ hm
  obtain ⟨z1, w1, b1⟩ : ∃ zs, IsStrs W a1 len1 cap1 zs ∧ totB (zs.take len1) ≤ Rows.uptoBulk d1 := by
    obtain ⟨fuel, hf⟩ := h1
    rcases open_strings Tryz.underlying54 Tryz.underlying9 (by kernel_rfl) hf with ⟨hcs, hd⟩ | ⟨x, l, c, zs, hcs, _, hl, hm, hz, hd, hcell, hwz⟩
    · simp [Value.cells] at hcs
      obtain ⟨rfl, rfl, rfl⟩ := hcs
      exact ⟨[], .inl ⟨rfl, rfl, rfl, rfl⟩, by simp [totB]⟩
    · simp [Value.cells] at hcs
      obtain ⟨rfl, rfl, rfl⟩ := hcs
      exact ⟨zs, .inr ⟨_, rfl, hl, hm, by simpa using hz, hcell, hwz⟩, by have e := congrArg Prod.fst hd; simp only at e; rw [e]; simp only [Rows.uptoBulk]; have := bulk_strs (H := H) (zs.take len1); omega⟩
  have k2 := h2
  have lt2 : ∀ x ∈ p2, x.block < W.heap.size := by obtain ⟨m, hm⟩ := k2; exact DataW.trod_lt m _ _ _ hm
  obtain ⟨b2p, b2q, y2p, y2q, n2, rfl, -, -, h2p, h2q⟩ := Joins.open_agg2 Tryz.underlying49 (by kernel_rfl) (by kernel_rfl) (hval 2 49 v2 rfl rfl) h2
  obtain ⟨a2p, e2p, -, -⟩ := DataW.trod_int Tryz.underlying3 h2p
  obtain rfl : b2p = .int .i64 a2p := by simpa using e2p
  obtain ⟨a2q, e2q, -, -⟩ := DataW.trod_int Tryz.underlying3 h2q
  obtain rfl : b2q = .int .i64 a2q := by simpa using e2q
  clear h2p h2q h2
  clear hA0
  simp only [List.append_nil] at hW' hk
  have hk2 := of_decide_eq_true (p := Rows.uptoBulkAll _ ≤ 1048576) hk
  simp only [Rows.uptoBulkAll] at hk2
  refine (walk g0 u0 a0 nu0 cu0 len0 cap0 up0 ls0 a1 len1 cap1 z1 a2p a2q W w0 w1 (by omega)).mono fun e W' ⟨he, bel⟩ => ?_
  subst he
  exact ⟨_, rfl, _, _, _, [], _, [], hW', trodAll_mk1 (shut_bool Tryz.underlying4 _), (trodAll_cons_mk (Below.trod laidOut (by kernel_rfl) (of_decide_eq_true (by kernel_rfl)) k0 bel lt0) (trodAll_cons_mk (Below.trod laidOut (by kernel_rfl) (of_decide_eq_true (by kernel_rfl)) k1 bel lt1) (trodAll_cons_mk (Below.trod laidOut (by kernel_rfl) (of_decide_eq_true (by kernel_rfl)) k2 bel lt2) trodAll_mk0))), rfl, bel.frame _, fun h => by cases h⟩
set_option maxRecDepth 100000 in
theorem lifted (os : Os) (started : os.Started) (H : Type) (enc : TypeId × Value → H) (F : Stop.Interp) :
    ReturnsInHanded {} Tryz.checked os 4 .any ((Rows.OpenSpec.upto Rows.mergeShowsSpec).pre6 enc Tryz.prog Tryz.f4 Rows.mergeShowsUptoRow.domain false) (((Rows.OpenSpec.upto Rows.mergeShowsSpec).at F).post enc Tryz.prog Tryz.f4 false true false false) := by
  refine returnsInHanded_of_cond (C := Tryz.checked) (s := Rows.OpenSpec.upto Rows.mergeShowsSpec) (k := Rows.uptoSmall) rfl own started (by kernel_rfl) Tryz.func4
    (OpenSpec.witness (enc := enc) (C := Tryz.checked) (s := Rows.OpenSpec.upto Rows.mergeShowsSpec) (k := Rows.uptoSmall) rfl false ⟨#[], #[.agg #[.int .i64 0, .int .i64 0, .int .i64 0, .int .i64 0, .slice none 0 0, .slice none 0 0], .slice none 0 0, .agg #[.int .i64 0, .int .i64 0]], []⟩ 8 (by kernel_rfl) (by kernel_rfl) (by kernel_rfl)
      (x := ([.agg [.agg [.lit (.int .i64 0), .lit (.int .i64 0), .lit (.int .i64 0), .lit (.int .i64 0)], .agg [.nil], .nil], .nil, .agg [.lit (.int .i64 0), .lit (.int .i64 0)]], [], [])) (by kernel_rfl) rfl (by kernel_rfl)) ?_
  intro W base args ds gs before hval hW _ hk _
  exact contract H enc W base args ds gs before hval hW hk
theorem proved : Rows.MergeShowsUptoSaid :=
  OpenClaim.holds_of_cond 4 Tryz.f4 rfl rfl rfl rfl rfl rfl rfl ⟨rfl, rfl, rfl, rfl, rfl⟩ rfl rfl rfl rfl rfl (by kernel_rfl) Tryz.func4 (by kernel_rfl)
    (of_decide_eq_true (by kernel_rfl)) (by unfold Func.isWrapper; first | (rw [if_pos (by decide +kernel)]; kernel_rfl) | (rw [if_neg (by decide +kernel)]; exact ⟨rfl, rfl⟩))
    (fun os started H enc _ F => lifted os started H enc F)
#print axioms proved
end Go.Proofs.YthdoimgbbabcaaaGreat.mergeShowsUpto
