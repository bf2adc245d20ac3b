/- The contract of the reference's Unpack (layer 3). -/
import Derived.Test.YthjjjeolpdekoaaRefNameB
import Derived.IntWalk
import Derived.BigQuiet
import Derived.Deep.QuietTactic
namespace Go.Proofs.Ythjjjeolpdekoaa
open Go.RowKit Plain

/-- It returns a text and a bool, and nothing that was there has turned. -/
def StRet (w : World) (l : List UInt8) (b : Bool) (x : Ending) (w' : World) : Prop := x = .returned (.tuple #[st l, .bool b]) ∧ Below w.heap.size w w'
theorem StRet.of {w w' : World} {l : List UInt8} {b : Bool} (h : Below w.heap.size w w') : StRet w l b (.returned (.tuple #[.string ⟨l.toArray⟩, .bool b])) w' := ⟨rfl, h⟩

set_option maxHeartbeats 800000 in
theorem RUnpack_no {A : Option Addr} {m c B : Nat} {b : List UInt8} (w : World) (ha : Bs w B A m b) (h : (b.length == 14 && decide ((b.headD 0).toNat ≤ 12)) = false) :
    Calls Try.prog 48 #[.slice A m c] w (StRet w [] false) := by
  by_cases hm : m = 14
  · subst hm
    obtain ⟨bb, o, rfl, _, hcell⟩ := ha.2 (by omega)
    have hl := ha.len
    have h0 : 0 < b.length := by omega
    have hx := hcell 0 b[0] (List.getElem?_eq_getElem h0)
    have hb0 : b.headD 0 = b[0] := by cases b with | nil => simp at h0 | cons x r => rfl
    rw [hb0, hl] at h
    have hgt : 12 < b[0].toNat := by simp at h; omega
    obtain ⟨x, hxe⟩ : ∃ x : Nat, x = b[0].toNat := ⟨_, rfl⟩
    simp only [bv, ← hxe, Nat.add_zero] at hx
    rw [← hxe] at hgt
    have hx256 : x < 256 := by rw [hxe]; exact b[0].toNat_lt
    have hd : decide ((12 : Int) < (x : Int)) = true := by simp; omega
    clear hcell hl h0 hb0 h ha hxe
    go_enter Try.func48, Try.ntmps48
    go_wp2
    go_ret2
    exact StRet.of (below_self w)
  · have hd : ((m : Int) != 14) = true := by simp; omega
    clear ha h
    go_enter Try.func48, Try.ntmps48
    go_wp2
    go_ret2
    exact StRet.of (below_self w)

set_option maxHeartbeats 800000 in
theorem RUnpack_in {A : Option Addr} {c : Nat} {b : List UInt8} (w : World) (ha : Bs w w.heap.size A 14 b) (hc : 14 ≤ c) (h : (b.headD 0).toNat ≤ 12) :
    Calls Try.prog 48 #[.slice A 14 c] w (StRet w (unpackS b) (isPackB b)) := by
  obtain ⟨bb, o, rfl, hbb, hcell⟩ := ha.2 (by omega)
  have hl := ha.len
  have h0 : 0 < b.length := by omega
  have hx := hcell 0 b[0] (List.getElem?_eq_getElem h0)
  have hb0 : b.headD 0 = b[0] := by cases b with | nil => simp at h0 | cons x r => rfl
  obtain ⟨x, hxe⟩ : ∃ x : Nat, x = b[0].toNat := ⟨_, rfl⟩
  have hin : innerS b = (b.drop 1).take x := by unfold innerS; rw [hb0, hxe]
  simp only [bv, ← hxe, Nat.add_zero] at hx
  rw [hb0, ← hxe] at h
  have hcut : Bs w w.heap.size (some ⟨bb, o + 1, none⟩) x (innerS b) := by
    have := ha.cut (lo := 1) (hi := 1 + x) (m := c) (by omega) (by omega) (by omega)
    rw [if_neg (by omega), Nat.add_sub_cancel_left, ← hin] at this
    simpa [Addr.add] using this
  have hstr := fun (c : Nat) => run_string_Bs (P := Try.prog) w 24 5 9 Try.underlying24 Try.underlying5 Try.underlying9 (c := c) hcut
  have hpe : isPackB b = (packS (innerS b) == b) := by
    unfold isPackB
    rw [hb0, ← hxe, ha.len]
    have : decide (x ≤ 12) = true := by simp; omega
    simp [this]
  have HPE := hide hpe
  clear hpe
  have HA := hide ha
  have hw1 : IntKind.i64.wrap (1 + (x : Int)) = 1 + (x : Int) := IntWalk.i64_in _ (by omega)
  have hw2 : (1 + (x : Int)).toNat = 1 + x := by omega
  have hd : decide ((12 : Int) < (x : Int)) = false := by simp; omega
  clear hcell hl h0 hb0 ha hxe hin hcut
  go_enter Try.func48, Try.ntmps48
  go_wp2_with fail
  clear hw1 hw2 hstr
  cases hn : nameB (innerS b) with
  | false =>
    have hp : isPackB b = false := by
      cases h2 : isPackB b with
      | false => rfl
      | true => rw [(isPackB_name h2).1] at hn; cases hn
    have hu : unpackS b = [] := by simp [unpackS, hp]
    have HP := hide hp
    have HU := hide hu
    have HN := hide hn
    clear hp hu hn
    refine (RPack_no HN.out _ (by unfold innerS; rw [List.length_take]; have := (b.headD 0).toNat_lt; omega)).mono ?_
    rintro e w' ⟨rfl, rfl⟩
    go_wp2_with fail
    go_ret2
    rw [HP.out, HU.out]
    exact StRet.of (below_self _)
  | true =>
    have HN := hide hn
    have hpl := packS_length hn
    have HPL := hide hpl
    clear hn hpl
    refine (RPack_yes HN.out _).mono ?_
    rintro e w1 ⟨A1, c1, rfl, hown, hbel⟩
    have HO := hide hown.bs
    have HB := hide hbel
    have HA1 := hide ((HA.out.below hbel).more hbel.size)
    have hcap := hown.cap
    clear hown hbel
    obtain ⟨r, hr⟩ : ∃ r, (packS (innerS b) == b) = r := ⟨_, rfl⟩
    have HR := hide hr
    clear hr
    go_wp2_with fail
    go_loopw [6] (fun i wr => ∃ j q : Nat, j ≤ 14 ∧ i = .int .i64 j ∧ (packS (innerS b)).take j = b.take j ∧ wr = w1.drewN q) (fun i _ => 14 - (intOf i).toNat)
    case atStart => exact ⟨0, 0, by omega, rfl, rfl, rfl⟩
    case round =>
      obtain ⟨j, q, hj, rfl, htake, rfl⟩ := hrel
      have HT := hide htake
      clear htake
      by_cases hlt : j < 14
      · obtain ⟨b1, o1, rfl, _, hc1⟩ := HO.out.2 (by omega)
        obtain ⟨b2, o2, he2, _, hc2⟩ := HA1.out.2 (by omega)
        cases he2
        have hl1 : j < (packS (innerS b)).length := by rw [HPL.out]; exact hlt
        have hl2 : j < b.length := by rw [HA1.out.len]; exact hlt
        have hx1 := hc1 j (packS (innerS b))[j] (List.getElem?_eq_getElem hl1)
        have hx2 := hc2 j b[j] (List.getElem?_eq_getElem hl2)
        clear hc1 hc2
        obtain ⟨u, hu⟩ : ∃ u : Nat, u = (packS (innerS b))[j].toNat := ⟨_, rfl⟩
        obtain ⟨v, hv⟩ : ∃ v : Nat, v = b[j].toNat := ⟨_, rfl⟩
        simp only [bv, ← hu] at hx1
        simp only [bv, ← hv] at hx2
        by_cases hxy : u = v
        · have hjj : (packS (innerS b))[j] = b[j] := UInt8.toNat_inj.1 (by rw [← hu, ← hv, hxy])
          have ht2 : (packS (innerS b)).take (j + 1) = b.take (j + 1) := by
            rw [List.take_succ_eq_append_getElem hl1, List.take_succ_eq_append_getElem hl2, HT.out, hjj]
          have HT2 := hide ht2
          have hne : ((u : Int) != (v : Int)) = false := by simp [hxy]
          clear hu hv hjj ht2 hxy hl1 hl2
          go_wp2
          go_quiet (fail)
          go_wp2
          go_roundw
          case rel => exact ⟨j + 1, _, by omega, by go_num, HT2.out, rfl⟩
          case measure => simp [intOf]; omega
        · have hre : r = false := by
            rw [← HR.out]
            simp only [beq_eq_false_iff_ne, ne_eq]
            intro e
            apply hxy
            rw [hu, hv]
            congr 1
            have e2 : (packS (innerS b))[j]? = b[j]? := by rw [e]
            rw [List.getElem?_eq_getElem hl1, List.getElem?_eq_getElem hl2] at e2
            exact Option.some.inj e2
          have hne : ((u : Int) != (v : Int)) = true := by simp; omega
          have HRE := hide hre
          clear hu hv hre hxy hl1 hl2
          go_wp2
          go_quiet (fail)
          go_wp2
          go_ret2
          have hpf : isPackB b = false := by rw [HPE.out, HR.out, HRE.out]
          have huf : unpackS b = [] := by simp [unpackS, hpf]
          rw [hpf, huf]
          exact StRet.of (below_drewN (below_drewN HB.out _) _)
      · obtain rfl : j = 14 := by omega
        have hre : r = true := by
          rw [← HR.out]
          have e := HT.out
          rw [List.take_of_length_le (by rw [HPL.out]; exact Nat.le_refl _), List.take_of_length_le (by rw [HA1.out.len]; exact Nat.le_refl _)] at e
          rw [e]
          simp
        have HRE := hide hre
        clear hre
        go_wp2
        go_ret2
        have hpf : isPackB b = true := by rw [HPE.out, HR.out, HRE.out]
        have huf : unpackS b = innerS b := by simp [unpackS, hpf]
        rw [hpf, huf]
        exact StRet.of (below_drewN HB.out _)
theorem RUnpack_any {A : Option Addr} {m c : Nat} {b : List UInt8} (w : World) (ha : Bs w w.heap.size A m b) (hc : m ≤ c) :
    Calls Try.prog 48 #[.slice A m c] w (StRet w (unpackS b) (isPackB b)) := by
  cases h : (b.length == 14 && decide ((b.headD 0).toNat ≤ 12)) with
  | false =>
    have hp : isPackB b = false := by unfold isPackB; rw [h]; rfl
    have hu : unpackS b = [] := by simp [unpackS, hp]
    rw [hp, hu]
    exact RUnpack_no w ha h
  | true =>
    simp only [Bool.and_eq_true, beq_iff_eq, decide_eq_true_eq] at h
    have hm : m = 14 := by rw [← ha.len]; exact h.1
    subst hm
    exact RUnpack_in w ha hc h.2
end Go.Proofs.Ythjjjeolpdekoaa
