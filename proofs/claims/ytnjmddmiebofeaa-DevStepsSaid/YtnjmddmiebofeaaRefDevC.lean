/- Contracts of the reference's lay and burn (layer 5). -/
import Derived.Test.YtnjmddmiebofeaaRefDevB
import Derived.Test.YtnjmddmiebofeaaRefGeoA
namespace Go.Proofs.Ytnjmddmiebofeaa
open Go.RowKit Plain

theorem info_bytes : (Try.prog.info? 22).map (fun i => (i.zero, i.size, i.bytes)) = some (some (.slice none 0 0), Enc.bytes.k, 24) := by kernel_rfl
theorem OwE.at_base {α : Type} {E : Enc α} {w : World} {base e n c g : Nat} {l : List α} (h : OwE E w base e (some ⟨g, 0, none⟩) n c l) : base ≤ g := by
  obtain ⟨css, hown, _, _⟩ := h
  rcases hown.2 with ⟨h0, _⟩ | ⟨g', cap, cur, h1, h2, _⟩
  · cases h0
  · cases h1; exact h2

theorem OwE.has {β : Type} {F : Enc β} {w : World} {base e n c g : Nat} {l : List (List β)} (h : OwE (Enc.list F) w base e (some ⟨g, 0, none⟩) n c l) (ht : Tags.bad e = false) {i : Nat} (hi : i < n) : ∃ v, w.cell? ⟨g, i, none⟩ = some v := by
  obtain ⟨b, o, e1, _, A1, n1, c1, hc, _⟩ := (h.rd ht).get_list (List.getElem?_eq_getElem (by rw [h.len]; exact hi))
  cases e1
  exact ⟨_, by rwa [Nat.zero_add] at hc⟩

set_option maxHeartbeats 1600000 in
theorem RDLay_any {w : World} {A A1 : Option Addr} {n c n1 c1 i : Nat} {l : List (List UInt8)} {b : List UInt8} (hl : RdE Enc.bytes w (Und w) A n l) (hb : RdE Enc.byte w (Und w) A1 n1 b) (hnc1 : n1 ≤ c1) (hi : i < n) (hn : n ≤ 1000000) :
    Calls Try.prog 52 #[.slice A n c, .agg #[.int .i64 i, .slice A1 n1 c1]] w (ERet Enc.bytes w 22 n (l.set i b)) := by
  have HL := hide hl
  have HLB := hide hb
  clear hl hb
  go_enter Try.func52, Try.ntmps52
  go_wp2_with (at_builtin; (refine wpList_append_OwE _ rfl (.tmp 6) (.tmp 7) 28 rfl (w.heap.size + 1) 22 _ 24 Try.underlying28 info_bytes rfl (by decide) _ 0 _ _ rfl (OwE.empty_up _ _ _ (w.heap.size + 1) _ (by simp) (by omega)) (Und w) _ n _ _ rfl (HL.out.mono (Kept.of_below (below_new (below_new (below_self w) _) _) fun _ h => h.1) fun _ h => h) (fun b hb => ⟨hb.on (below_new (below_new (below_self w) _) _), fun a ha => by cases ha; have := hb.1; show b ≠ w.heap.size + 1; omega⟩) n (by omega) (by omega) (by omega) (by simp <;> omega) ?_); intro A3 c3 w1 hown1 hbel1; obtain ⟨g, rfl, hg, hgl, hfz⟩ := hown1.at_ (by omega); have hf := hfz i; obtain ⟨v0, hv0⟩ := hown1.has (by decide) hi; have k0 := cell_on (b := w.heap.size) (o := 0) (v := .int .i64 i) (by simp) hbel1 (by omega); have k1 := cell_on (b := w.heap.size) (o := 1) (v := .slice A1 n1 c1) (by simp) hbel1 (by omega); have HO1 := hide hown1; have HB1 := hide ((below_new (below_new (below_self w) _) _).trans (hbel1.mono (by omega))); have hs1 := hbel1.size; clear hown1 hbel1)
  go_ret
  have ho := HO1.out
  rw [List.nil_append] at ho
  refine ⟨_, _, rfl, (ho.store (D := Und w) rfl hi ⟨A1, n1, c1, rfl, hnc1, HLB.out.mono (Kept.of_below HB1.out fun _ h => h.1) fun _ h => h⟩ (fun b hb => ⟨hb.on HB1.out, fun a ha => by cases ha; have := hb.1; show b ≠ g; omega⟩)).rebase (by omega), HB1.out.setCell (by show w.heap.size ≤ g; omega) _⟩

/-- A disk's value. -/
def dV (s t : Value) (lf wn fl : Int) (off : Bool) : Value := .agg #[s, t, .int .i64 lf, .int .i64 wn, .int .i64 fl, .bool off]
set_option maxHeartbeats 800000 in
theorem RDBurn_off {A A2 : Option Addr} {n c m c2 : Nat} {lf wn fl : Int} {off : Bool} (w : World) (h : off = true ∨ lf = 0) :
    Calls Try.prog 51 #[.agg #[.slice A n c, .slice A2 m c2, .int .i64 lf, .int .i64 wn, .int .i64 fl, .bool off]] w (VRet w (.tuple #[dV (.slice A n c) (.slice A2 m c2) lf wn fl true, .bool false])) := by
  cases off with
  | true =>
    clear h
    go_enter Try.func51, Try.ntmps51
    go_wp2_with fail
    exact bodyPost_ret (v := .tuple #[dV (.slice A n c) (.slice A2 m c2) lf wn fl true, .bool false]) (by simp [results, Try.results51, go_sem, dV]) rfl (VRet.of (below_new (below_new (below_self w) _) _))
  | false =>
    obtain rfl : lf = 0 := by simpa using h
    clear h
    go_enter Try.func51, Try.ntmps51
    go_wp2_with fail
    exact bodyPost_ret (v := .tuple #[dV (.slice A n c) (.slice A2 m c2) 0 wn fl true, .bool false]) (by simp [results, Try.results51, go_sem, dV]) rfl (VRet.of (below_new (below_new (below_self w) _) _))
set_option maxHeartbeats 800000 in
theorem RDBurn_on {A A2 : Option Addr} {n c m c2 : Nat} {lf wn fl : Int} (w : World) (h : 0 < lf) (h2 : lf ≤ 9223372036854775807) :
    Calls Try.prog 51 #[.agg #[.slice A n c, .slice A2 m c2, .int .i64 lf, .int .i64 wn, .int .i64 fl, .bool false]] w (VRet w (.tuple #[dV (.slice A n c) (.slice A2 m c2) (lf - 1) wn fl false, .bool true])) := by
  have hw : IntKind.i64.wrap (lf - 1) = lf - 1 := IntWalk.i64_in _ (by omega)
  have h0 : (lf == 0) = false := by simp; omega
  have h1 : decide (0 < lf) = true := by simpa using h
  clear h2
  go_enter Try.func51, Try.ntmps51
  go_wp2_with fail
  exact bodyPost_ret (v := .tuple #[dV (.slice A n c) (.slice A2 m c2) (lf - 1) wn fl false, .bool true]) (by simp [results, Try.results51, go_sem, dV]) rfl (VRet.of (below_new (below_new (below_self w) _) _))
set_option maxHeartbeats 800000 in
theorem RDBurn_free {A A2 : Option Addr} {n c m c2 : Nat} {lf wn fl : Int} (w : World) (h : lf < 0) :
    Calls Try.prog 51 #[.agg #[.slice A n c, .slice A2 m c2, .int .i64 lf, .int .i64 wn, .int .i64 fl, .bool false]] w (VRet w (.tuple #[dV (.slice A n c) (.slice A2 m c2) lf wn fl false, .bool true])) := by
  have h0 : (lf == 0) = false := by simp; omega
  have h1 : decide (0 < lf) = false := by simp; omega
  go_enter Try.func51, Try.ntmps51
  go_wp2_with fail
  exact bodyPost_ret (v := .tuple #[dV (.slice A n c) (.slice A2 m c2) lf wn fl false, .bool true]) (by simp [results, Try.results51, go_sem, dV]) rfl (VRet.of (below_new (below_new (below_self w) _) _))
/-- What is left behind one more call that comes through. -/
def leftS (lf : Int) : Int := if 0 < lf then lf - 1 else lf
theorem RDBurn_yes {A A2 : Option Addr} {n c m c2 : Nat} {lf wn fl : Int} (w : World) (h : lf ≠ 0) (h2 : lf ≤ 9223372036854775807) :
    Calls Try.prog 51 #[.agg #[.slice A n c, .slice A2 m c2, .int .i64 lf, .int .i64 wn, .int .i64 fl, .bool false]] w (VRet w (.tuple #[dV (.slice A n c) (.slice A2 m c2) (leftS lf) wn fl false, .bool true])) := by
  unfold leftS
  by_cases h0 : 0 < lf
  · rw [if_pos h0]; exact RDBurn_on w h0 h2
  · rw [if_neg h0]; exact RDBurn_free w (by omega)
end Go.Proofs.Ytnjmddmiebofeaa
