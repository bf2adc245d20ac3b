/- Steps in memory; the contract of the laws' few (layer 5). -/
import Derived.Test.YtnjmddmiebofeaaDevM
namespace Go.Proofs.Ytnjmddmiebofeaa
open Go.RowKit Plain

theorem step_agg : ∀ w, (isAgg 35).run Try.prog w = .ok true w := fun w => by simp [go_sem]
theorem step_size : ∀ w, (Go.sizeOf 35).run Try.prog w = .ok 4 w := fun w => by simp [go_sem]
def stepEn : Enc StepV where
  k := 4
  R := fun w D cs x => ∃ A1 n1 c1 A2 n2 c2, cs = [.int .i64 x.dd, .int .i64 x.at_, .slice A1 n1 c1, .slice A2 n2 c2] ∧ n1 ≤ c1 ∧ n2 ≤ c2 ∧ RdE Enc.byte w D A1 n1 x.bytes ∧ RdE Enc.bool w D A2 n2 x.kept ∧ x.at_ ≤ 9223372036854775807
  len := fun ⟨_, _, _, _, _, _, h, _⟩ => by rw [h]; rfl
  one := fun ⟨_, _, _, _, _, _, h, _⟩ v hv => by
    rw [h] at hv
    simp only [List.mem_cons, List.not_mem_nil, or_false] at hv
    rcases hv with rfl | rfl | rfl | rfl <;> rfl
  mono := fun ⟨A1, n1, c1, A2, n2, c2, h, h1, h2, h3, h4, h5⟩ hk hD => ⟨A1, n1, c1, A2, n2, c2, h, h1, h2, h3.mono hk hD, h4.mono hk hD, h5⟩
theorem step_get {w : World} {D : Nat → Prop} {A : Option Addr} {n k : Nat} {l : List StepV} {t : StepV} (h : RdE stepEn w D A n l) (hk : l[k]? = some t) :
    ∃ b o A1 n1 c1 A2 n2 c2, A = some ⟨b, o, none⟩ ∧ D b ∧ (∀ j v, [Value.int .i64 t.dd, .int .i64 t.at_, .slice A1 n1 c1, .slice A2 n2 c2][j]? = some v → w.cell? ⟨b, o + k * 4 + j, none⟩ = some v) ∧ n1 ≤ c1 ∧ n2 ≤ c2 ∧ RdE Enc.byte w D A1 n1 t.bytes ∧ RdE Enc.bool w D A2 n2 t.kept ∧ t.at_ ≤ 9223372036854775807 := by
  have hi := (List.getElem?_eq_some_iff.1 hk).1
  obtain ⟨b, o, e, hb, hc⟩ := h.2 (by have := h.1; omega)
  obtain ⟨cs, ⟨A1, n1, c1, A2, n2, c2, hcs, h1, h2, h3, h4, h5⟩, hcell⟩ := hc k t hk
  subst hcs
  exact ⟨b, o, A1, n1, c1, A2, n2, c2, e, hb, fun j v hv => by rw [Nat.add_assoc]; exact hcell j v hv, h1, h2, h3, h4, h5⟩
def badS (t : StepV) : Bool := decide (200 < t.bytes.length) || decide (100 < t.kept.length)
theorem few1_b {n1 k1 n2 k2 : Nat} {A1 A2 : Option Addr} {dd at_ : Int} {r : Bool} (hr : (decide (200 < n1) || decide (100 < n2)) = r) (w : World) :
    Calls Try.prog 40 #[.agg #[.int .i64 dd, .int .i64 at_, .slice A1 n1 k1, .slice A2 n2 k2]] w (fun e w' => e = .returned (.bool r) ∧ Below w.heap.size w w') := by
  subst hr
  by_cases h1 : 200 < n1
  · have d1 : decide ((200 : Int) < (n1 : Int)) = true := by simp; omega
    rw [show decide (200 < n1) = true from by simpa using h1, Bool.true_or]
    go_enter Try.func40, Try.ntmps40
    go_wp2_with fail
    go_ret
    exact ⟨rfl, below_new (below_self w) _⟩
  · have d1 : decide ((200 : Int) < (n1 : Int)) = false := by simp; omega
    rw [show decide (200 < n1) = false from by simpa using h1, Bool.false_or]
    by_cases h2 : 100 < n2
    · have d2 : decide ((100 : Int) < (n2 : Int)) = true := by simp; omega
      rw [show decide (100 < n2) = true from by simpa using h2]
      go_enter Try.func40, Try.ntmps40
      go_wp2_with fail
      go_ret
      exact ⟨rfl, below_new (below_self w) _⟩
    · have d2 : decide ((100 : Int) < (n2 : Int)) = false := by simp; omega
      rw [show decide (100 < n2) = false from by simpa using h2]
      go_enter Try.func40, Try.ntmps40
      go_wp2_with fail
      go_ret
      exact ⟨rfl, below_new (below_self w) _⟩
theorem any_snoc {l : List StepV} {k : Nat} {t : StepV} (ht : l[k]? = some t) (h : (l.take k).any badS = false) (hb : badS t = false) : (l.take (k + 1)).any badS = false := by
  rw [List.take_add_one, ht, List.any_append, h]
  simp [hb]
def IdxRet (w : World) (b : Bool) (x : Ending) (w' : World) : Prop := ∃ r : Int, x = .returned (.int .i64 r) ∧ decide (0 ≤ r) = b ∧ Below w.heap.size w w'
set_option maxRecDepth 100000 in
set_option maxHeartbeats 3200000 in
theorem idx_any {A : Option Addr} {n c : Nat} {l : List StepV} (w : World) (h : RdE stepEn w (Under w.heap.size) A n l) (hn : n ≤ 60) :
    Calls Try.prog 68 #[.slice A n c, .func (.func 40) #[] #[]] w (IdxRet w (l.any badS)) := by
  have hl := h.len
  have HS := hide h
  have HL := hide hl
  clear h hl
  go_enter Try.func68, Try.ntmps68
  go_wp2_with fail
  go_loopw [8] (fun iv wr => ∃ k : Nat, k ≤ n ∧ iv = .int .i64 k ∧ (l.take k).any badS = false ∧ Below w.heap.size w wr) (fun iv _ => n - (intOf iv).toNat)
  case atStart => exact ⟨0, by omega, rfl, by simp, below_self _⟩
  case round =>
    obtain ⟨k, hk, rfl, hno, hbel⟩ := hrel
    have HN := hide hno
    have HB := hide hbel
    by_cases hlt : k < n
    · obtain ⟨t, ht⟩ : ∃ t, l[k]? = some t := ⟨_, List.getElem?_eq_getElem (by have := HL.out; omega)⟩
      obtain ⟨b, o, A1, n1, c1, A2, n2, c2, rfl, hb, hc, h1, h2, h3, h4, h5⟩ := step_get (HS.out.mono (w' := wr) (D' := Under w.heap.size) (Kept.of_below hbel fun _ h => h) (fun _ h => h)) ht
      have HC := hide hc
      have HT := hide ht
      have HE1 : Hid (n1 = t.bytes.length) := hide h3.len.symm
      have HE2 : Hid (n2 = t.kept.length) := hide h4.len.symm
      clear hno hbel ht hb hc h1 h2 h3 h4 h5
      go_wp2_with ((with_reducible refine wpList_loadX rfl 35 (.tmp 14) rfl 4 step_agg step_size b (o + k * 4) rfl [Value.int .i64 t.dd, Value.int .i64 t.at_, Value.slice A1 n1 c1, Value.slice A2 n2 c2] HC.out rfl ?_))
      have HBD : Hid (∃ r, (decide (200 < n1) || decide (100 < n2)) = r ∧ badS t = r) := hide ⟨badS t, by unfold badS; rw [HE1.out, HE2.out], rfl⟩
      obtain ⟨r, hr1, hr2⟩ := HBD.out
      have HR2 := hide hr2
      refine (few1_b hr1 _).mono ?_
      clear hr1 hr2
      rintro e w2 ⟨rfl, hbel⟩
      have HB2 := hide (below_step HB.out hbel)
      clear hbel
      cases r with
      | true =>
        go_wp2_with fail
        go_ret
        exact ⟨(k : Int), rfl, by rw [decide_eq_true (by omega)]; exact (List.any_eq_true.2 ⟨t, List.mem_of_getElem? HT.out, HR2.out⟩).symm, HB2.out⟩
      | false =>
        go_wp2_with fail
        go_roundw
        case rel => exact ⟨k + 1, by omega, by go_num, any_snoc HT.out HN.out HR2.out, HB2.out⟩
        case measure => simp [intOf]; omega
    · obtain rfl : k = n := by omega
      have HL2 : Hid (l.take k = l) := hide (List.take_of_length_le (by have := HL.out; omega))
      clear hno hbel
      go_wp2_with fail
      go_ret
      exact ⟨-1, rfl, by have h := HN.out; rw [HL2.out] at h; rw [h]; rfl, HB.out⟩
set_option maxRecDepth 100000 in
set_option maxHeartbeats 3200000 in
theorem contains_any {A : Option Addr} {n c : Nat} {l : List StepV} (w : World) (h : RdE stepEn w (Under w.heap.size) A n l) (hn : n ≤ 60) :
    Calls Try.prog 39 #[.slice A n c, .func (.func 40) #[] #[]] w (fun e w' => e = .returned (.bool (l.any badS)) ∧ Below w.heap.size w w') := by
  have HS := hide h
  clear h
  go_enter Try.func39, Try.ntmps39
  go_wp2_with fail
  refine (idx_any w HS.out hn).mono ?_
  rintro e w2 ⟨r, rfl, hr, hbel⟩
  have HR := hide hr
  have HB := hide hbel
  clear hr hbel
  go_wp2_with fail
  go_ret
  exact ⟨by rw [← HR.out]; rfl, HB.out⟩
def fewS (m n : Nat) (l : List StepV) : Bool := decide (m ≤ 2000) && decide (n ≤ 60) && !l.any badS
set_option maxRecDepth 100000 in
set_option maxHeartbeats 3200000 in
theorem few_any {A A0 : Option Addr} {n c m c0 : Nat} {l : List StepV} (w : World) (h : RdE stepEn w (Under w.heap.size) A n l) {b : Bool} (hb : fewS m n l = b) :
    Calls Try.prog 6 #[.slice A0 m c0, .slice A n c] w (fun e w' => e = .returned (.bool b) ∧ Below w.heap.size w w') := by
  have HS := hide h
  have HF := hide hb
  clear h hb
  by_cases hm : m ≤ 2000
  · have d1 : decide ((m : Int) ≤ 2000) = true := by simp; omega
    by_cases hn : n ≤ 60
    · have d2 : decide ((n : Int) ≤ 60) = true := by simp; omega
      go_enter Try.func6, Try.ntmps6
      go_wp2_with fail
      refine (contains_any w HS.out hn).mono ?_
      rintro e w2 ⟨rfl, hbel⟩
      have HB := hide hbel
      clear hbel
      go_wp2_with fail
      go_ret
      exact ⟨by rw [← HF.out]; simp [fewS, hm, hn], HB.out⟩
    · have d2 : decide ((n : Int) ≤ 60) = false := by simp; omega
      go_enter Try.func6, Try.ntmps6
      go_wp2_with fail
      go_ret
      exact ⟨by rw [← HF.out]; simp [fewS, hm, hn], below_self _⟩
  · have d1 : decide ((m : Int) ≤ 2000) = false := by simp; omega
    go_enter Try.func6, Try.ntmps6
    go_wp2_with fail
    go_ret
    exact ⟨by rw [← HF.out]; simp [fewS, hm], below_self _⟩
end Go.Proofs.Ytnjmddmiebofeaa
