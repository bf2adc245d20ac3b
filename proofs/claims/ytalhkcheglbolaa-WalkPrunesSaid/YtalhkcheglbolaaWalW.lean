/- walk: what WalkOnce asks: mathematics, and slices of ints and ways (layer 13). -/
import Derived.Test.YtalhkcheglbolaaPlnB
namespace Go.Proofs.Ytalhkcheglbolaa
open Go.RowKit Go.Shelf Plain

/-- Each way stands behind the one that names it; one that none names is a root. -/
def UpW (ff : List Int) (l : List WayV) : Prop := ∀ (j : Nat) (y : WayV), l[j]? = some y → y.up < (j : Int) ∧ (y.up < 0 → y.ino ∈ ff)
theorem UpW.snoc {ff : List Int} {l : List WayV} {x : WayV} (h : UpW ff l) (hx : x.up < (l.length : Int) ∧ (x.up < 0 → x.ino ∈ ff)) : UpW ff (l ++ [x]) := by
  intro j y hy
  by_cases hj : j < l.length
  · rw [List.getElem?_append_left hj] at hy
    exact h j y hy
  · rw [List.getElem?_append_right (by omega)] at hy
    have hj0 : j - l.length = 0 := by have := (List.getElem?_eq_some_iff.1 hy).1; simpa using this
    rw [hj0] at hy
    cases hy
    exact ⟨by omega, hx.2⟩
theorem one_up {ff : List Int} {d : Int} {p : Nat} {s : StW} {x : EntV × Nat} (h : p < s.1.length ∧ UpW ff s.1) : p < (oneW d p s x).1.length ∧ UpW ff (oneW d p s x).1 := by
  unfold oneW
  split
  · exact h
  · exact ⟨by simp; omega, h.2.snoc ⟨by show (p : Int) < _; omega, fun h0 => absurd h0 (by show ¬ (p : Int) < 0; omega)⟩⟩
theorem visit_up {ff : List Int} {ns : List NodV} {p : Nat} {s : StW} (h : UpW ff s.1) : UpW ff (visitW ns p s).1 := by
  unfold visitW
  split
  · exact h
  · rename_i y hy
    exact (foldl_keep (P := fun t : StW => p < t.1.length ∧ UpW ff t.1) _ _ ⟨(List.getElem?_eq_some_iff.1 hy).1, h⟩ (fun _ _ _ ht => one_up ht)).2
theorem run_up {ff : List Int} {ns : List NodV} : ∀ (f p : Nat) (s : StW), UpW ff s.1 → UpW ff (runW ns f p s).1
  | 0, _, _, h => h
  | f + 1, p, s, h => by
    unfold runW
    split
    · exact run_up f _ _ (visit_up h)
    · exact h
theorem walk_up (ns : List NodV) (ff : List Int) : UpW ff (walkW ns ff).1 := by
  refine foldl_keep (P := fun s : StW => UpW ff s.1) _ _ (fun j y h => by cases h) (fun s i hi hs => ?_)
  unfold rootW
  split
  · exact run_up _ _ _ (hs.snoc ⟨by show (-1 : Int) < _; omega, fun _ => hi⟩)
  · exact hs
theorem plain_many {ns : List NodV} (h : ns.length ≤ 24) (hp : ∀ x ∈ ns, PlainN x) : Many ns ∧ ∀ x ∈ ns, x.data.length ≤ 1000 :=
  ⟨⟨h, fun x hx => (hp x hx).2.2.2.2.1⟩, fun x hx => by have := (hp x hx).2.2.2.1; omega⟩
theorem take_apart {ns : List NodV} {l : List WayV} (h : OkW ns l) {j : Nat} {y : WayV} (hy : l[j]? = some y) : ∀ x ∈ l.take j, x.ino ≠ y.ino := by
  intro x hx e
  obtain ⟨i, hi, hxi⟩ := List.mem_iff_getElem.1 hx
  rw [List.length_take] at hi
  rw [List.getElem_take] at hxi
  have hj := (List.getElem?_eq_some_iff.1 hy)
  obtain ⟨hjl, hyj⟩ := hj
  have hnd := h.2
  have h1 : (l.map WayV.ino)[i]'(by simp; omega) = (l.map WayV.ino)[j]'(by simp; omega) := by
    simp only [List.getElem_map]
    rw [hxi, hyj, e]
  exact (List.pairwise_iff_getElem.1 hnd) i j (by simp; omega) (by simp; omega) (by omega) h1

def iV (x : Int) : Value := .int .i64 x
theorem RdE.rdI {w : World} {B n : Nat} {A : Option Addr} {l : List Int} (h : RdE Enc.int w (Under B) A n l) : Rd iV w B A n l := ⟨h.1, fun hn => by
  obtain ⟨b, o, e, hb, hc⟩ := h.2 hn
  refine ⟨b, o, e, hb, fun i x hx => ?_⟩
  obtain ⟨cs, hcs, hcell⟩ := hc i x hx
  obtain rfl : cs = [.int .i64 x] := hcs
  have := hcell 0 _ rfl
  rwa [show o + (i * Enc.int.k + 0) = o + i from by show o + (i * 1 + 0) = o + i; omega] at this⟩
theorem Rd.rdeI {w : World} {B n : Nat} {A : Option Addr} {l : List Int} (h : Rd iV w B A n l) : RdE Enc.int w (Under B) A n l := ⟨h.1, fun hn => by
  obtain ⟨b, o, e, hb, hc⟩ := h.2 hn
  refine ⟨b, o, e, hb, fun i x hx => ⟨[.int .i64 x], rfl, fun j v hv => ?_⟩⟩
  have hj : j = 0 := by have := (List.getElem?_eq_some_iff.1 hv).1; simpa using this
  subst hj
  cases hv
  rw [show o + (i * Enc.int.k + 0) = o + i from by show o + (i * 1 + 0) = o + i; omega]
  exact hc i x hx⟩
set_option maxRecDepth 100000 in
theorem intw_info : (Try.prog.info? 3).map (fun i => (i.zero, i.size, i.bytes)) = some (some (.int .i64 0), 1, 8) := by kernel_rfl
set_option maxHeartbeats 1600000 in
theorem IClone_any {A : Option Addr} {n c : Nat} {l : List Int} (w : World) (h : Rd iV w w.heap.size A n l) (hn : n ≤ 100000) : Calls Try.prog 27 #[.slice A n c] w (ORet iV w 3 n l) := by
  have H := hide h
  cases A with
  | none =>
    have h0 : n = 0 := by
      rcases Nat.eq_zero_or_pos n with h0 | h0
      · exact h0
      · obtain ⟨_, _, e, _⟩ := h.2 h0; cases e
    subst h0
    obtain rfl : l = [] := List.eq_nil_of_length_eq_zero h.1
    have hnil := fun W => Lib.run_eql_slice_nil (P := Try.prog) W 25 3 none 0 c 0 0 Try.underlying25
    clear h
    go_enter Try.func27, Try.ntmps27
    go_wp2
    go_ret
    exact ⟨none, 0, rfl, World.ownsRow_nil _ _ _ _, below_self w⟩
  | some a =>
    have hnil := fun W => Lib.run_eql_slice_nil (P := Try.prog) W 25 3 (some a) n c 0 0 Try.underlying25
    clear h
    go_enter Try.func27, Try.ntmps27
    go_wp2_with (at_builtin; refine wpList_append_Rd (f := iV) _ rfl (.tmp 5) (.tmp 6) 25 rfl w.heap.size 3 (.int .i64 0) 8 Try.underlying25 intw_info rfl (fun _ => rfl) (some ⟨w.heap.size, 0, none⟩) 0 0 [] rfl (Ow.lit w 3 (cs := []) rfl rfl (by omega)) w.heap.size (some a) n c l rfl (H.out.below (below_new (below_self w) _)) n (by omega) (by omega) (by omega) (by simp) ?_; intro A5 c5 w5 ho5 hb5; have HO5 := hide ho5; have HB5 := hide hb5; clear ho5 hb5)
    go_ret
    exact ⟨A5, c5, rfl, HO5.out, (below_new (below_self w) _).trans HB5.out⟩
set_option maxRecDepth 100000 in
set_option maxHeartbeats 1600000 in
theorem IIdx_any {A : Option Addr} {n c : Nat} {l : List Int} {v : Int} (w : World) (h : RdE Enc.int w (Under w.heap.size) A n l) (hv : v ∈ l) (hn : n ≤ 100000) :
    Calls Try.prog 43 #[.slice A n c, .int .i64 v] w (fun e w' => ∃ r : Int, e = .returned (.int .i64 r) ∧ Below w.heap.size w w' ∧ 0 ≤ r) := by
  have H := hide h
  have HV := hide hv
  have hl := h.1
  clear h hv
  go_enter Try.func43, Try.ntmps43
  go_wp2
  go_loopw [8] (fun iv wr => ∃ j : Nat, j ≤ n ∧ iv = .int .i64 j ∧ wr = w ∧ ∀ i x, i < j → l[i]? = some x → x ≠ v) (fun iv _ => n - (intOf iv).toNat)
  case atStart => exact ⟨0, by omega, rfl, rfl, fun i x hi => by omega⟩
  case round =>
    obtain ⟨j, hj, rfl, rfl, hall⟩ := hrel
    have HALL := hide hall
    clear hall
    by_cases hlt : j < n
    · obtain ⟨x, hx⟩ : ∃ x, l[j]? = some x := ⟨_, List.getElem?_eq_getElem (by omega)⟩
      obtain ⟨b, o, rfl, q⟩ := int_get H.out hx
      have HX := hide hx
      clear hx
      by_cases e : v = x
      · have he : (v == x) = true := by simpa using e
        clear e
        go_wp2
        go_ret
        exact ⟨(j : Int), rfl, below_self _, by omega⟩
      · have he : (v == x) = false := by simpa using e
        go_wp2
        go_roundw
        case rel => exact ⟨j + 1, by omega, by go_num, (by first | rfl | trivial), fun i y hi hy => by
          by_cases e2 : i = j
          · subst e2
            have := HX.out.symm.trans hy
            cases this
            exact fun e3 => e e3.symm
          · exact HALL.out i y (by omega) hy⟩
        case measure => simp [intOf]; omega
    · exfalso
      obtain ⟨i, hi, hiv⟩ := List.mem_iff_getElem.1 HV.out
      exact HALL.out i v (by omega) (by rw [← hiv]; exact List.getElem?_eq_getElem hi) rfl
theorem IHas_any {A : Option Addr} {n c : Nat} {l : List Int} {v : Int} (w : World) (h : RdE Enc.int w (Under w.heap.size) A n l) (hv : v ∈ l) (hn : n ≤ 100000) :
    Calls Try.prog 26 #[.slice A n c, .int .i64 v] w (BoolB w true) := by
  have H := hide h
  clear h
  go_enter Try.func26, Try.ntmps26
  go_wp2_with fail
  refine (IIdx_any w H.out hv hn).mono ?_
  rintro e w3 ⟨r, rfl, hb3, hr⟩
  have hd : decide (0 ≤ r) = true := by simpa using hr
  have HB3 := hide hb3
  clear hb3
  go_wp2_with fail
  go_ret
  exact ⟨rfl, HB3.out⟩
set_option maxRecDepth 100000 in
theorem Clo_any {g : Nat} {v : Int} {x : WayV} (w : World) (q : w.cell? ⟨g, 0, none⟩ = some (.int .i64 v)) (hg : g < w.heap.size) (hne : x.ino ≠ v) :
    Calls Try.prog 25 #[.agg (wayC x).toArray, .pointer (some ⟨g, 0, none⟩)] w (BoolB w false) := by
  have r := RowL.new w 33 (wayC x)
  have hb := below_new (below_self w) (.cells (wayC x).toArray 33)
  have q0 : (w.alloc (.cells #[.int .i64 x.ino, .int .i64 x.up, .string ⟨x.name.toArray⟩] 33)).cell? ⟨w.heap.size, 0, none⟩ = some (.int .i64 x.ino) := r.cell 0
  have q1 : (w.alloc (.cells #[.int .i64 x.ino, .int .i64 x.up, .string ⟨x.name.toArray⟩] 33)).cell? ⟨g, 0, none⟩ = some (.int .i64 v) := (hb.cell (p := ⟨g, 0, none⟩) hg).trans q
  have he : (x.ino == v) = false := by simpa using hne
  have HB := hide hb
  clear r hb q hne
  unfold wayC
  go_enter Try.func25, Try.ntmps25
  go_wp2
  go_ret
  exact ⟨rfl, HB.out⟩
set_option maxRecDepth 100000 in
set_option maxHeartbeats 1600000 in
theorem WIdx_any {A : Option Addr} {n c g : Nat} {v : Int} {l : List WayV} (w : World) (h : RdE wayEn w (Under w.heap.size) A n l) (q : w.cell? ⟨g, 0, none⟩ = some (.int .i64 v)) (hg : g < w.heap.size) (hne : ∀ x ∈ l, x.ino ≠ v) (hn : n ≤ 100000) :
    Calls Try.prog 42 #[.slice A n c, .func (.func 25) #[] #[.pointer (some ⟨g, 0, none⟩)]] w (fun e w' => e = .returned (.int .i64 (-1)) ∧ Below w.heap.size w w') := by
  have H := hide h
  have HNE := hide hne
  have HQ := hide q
  have hl := h.1
  clear h q hne
  go_enter Try.func42, Try.ntmps42
  go_wp2
  go_loopw [8] (fun iv wr => ∃ j : Nat, j ≤ n ∧ iv = .int .i64 j ∧ Below w.heap.size w wr) (fun iv _ => n - (intOf iv).toNat)
  case atStart => exact ⟨0, by omega, rfl, below_self _⟩
  case round =>
    obtain ⟨j, hj, rfl, hbr⟩ := hrel
    have HBR := hide hbr
    have hbsz := hbr.size
    clear hbr
    by_cases hlt : j < n
    · obtain ⟨x, hx⟩ : ∃ x, l[j]? = some x := ⟨_, List.getElem?_eq_getElem (by omega)⟩
      obtain ⟨b, o, rfl, -, hc⟩ := way_get (H.out.under HBR.out (Nat.le_refl _)) hx
      have HC := hide hc
      have HX := hide (HNE.out x (List.mem_of_getElem? hx))
      clear hc hx
      go_wp2_with (refine wpList_loadX rfl 33 (.tmp 14) rfl 3 way_agg way_size b (o + j * 3) rfl (wayC x) HC.out rfl ?_)
      refine (Clo_any wr ((HBR.out.cell (p := ⟨g, 0, none⟩) hg).trans HQ.out) (by omega) HX.out).mono ?_
      rintro e w3 ⟨rfl, hb3⟩
      have HB3 := hide (below_step HBR.out hb3)
      clear hb3
      go_wp2
      go_roundw
      case rel => exact ⟨j + 1, by omega, by go_num, HB3.out⟩
      case measure => simp [intOf]; omega
    · obtain rfl : j = n := by omega
      go_wp2
      go_ret
      exact ⟨rfl, HBR.out⟩
theorem WHas_any {A : Option Addr} {n c g : Nat} {v : Int} {l : List WayV} (w : World) (h : RdE wayEn w (Under w.heap.size) A n l) (q : w.cell? ⟨g, 0, none⟩ = some (.int .i64 v)) (hg : g < w.heap.size) (hne : ∀ x ∈ l, x.ino ≠ v) (hn : n ≤ 100000) :
    Calls Try.prog 24 #[.slice A n c, .func (.func 25) #[] #[.pointer (some ⟨g, 0, none⟩)]] w (BoolB w false) := by
  have H := hide h
  have HNE := hide hne
  have HQ := hide q
  clear h q hne
  go_enter Try.func24, Try.ntmps24
  go_wp2_with fail
  refine (WIdx_any w H.out HQ.out hg HNE.out hn).mono ?_
  rintro e w3 ⟨rfl, hb3⟩
  have HB3 := hide hb3
  clear hb3
  go_wp2_with fail
  go_ret
  exact ⟨rfl, HB3.out⟩
end Go.Proofs.Ytalhkcheglbolaa
