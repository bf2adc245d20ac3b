/- Contracts of the program's name.Right, of its closure, and of the library's searches that it calls. -/
import Derived.Test.YthjjjeolpdekoaaRefNameA
import Derived.Test.YthjjjeolpdekoaaShelf
namespace Go.Proofs.Ythjjjeolpdekoaa
open Go.RowKit Plain

def lettersL : List UInt8 := [97, 98, 99, 100, 101, 102, 103, 104, 105, 106, 107, 108, 109, 110, 111, 112, 113, 114, 115, 116, 117, 118, 119, 120, 121, 122, 48, 49, 50, 51, 52, 53, 54, 55, 56, 57, 46, 95, 45]
theorem letters_fin : ∀ x : Fin 256, decide (Lib.indexByte lettersL x.val.toUInt8 < 0) = !letB x.val := by decide +kernel
theorem letters_any {x : Nat} (hx : x < 256) : decide (Lib.indexByte lettersL ((x : Int).toNat.toUInt8) < 0) = !letB x := by
  have := letters_fin ⟨x, hx⟩
  simpa using this

set_option maxHeartbeats 400000 in
theorem Strange_any {x : Nat} (hx : x < 256) (w : World) :
    Calls Try.prog 74 #[.int .u8 x] w fun e w' => e = .returned (.bool (!letB x)) ∧ w = w' := by
  obtain ⟨r, hr⟩ : ∃ r, Lib.indexByte lettersL ((x : Int).toNat.toUInt8) = r := ⟨_, rfl⟩
  have hl := letters_any hx
  rw [hr] at hl
  have HL := hide hl
  have hc := Try.strings_IndexByte ⟨lettersL.toArray⟩ x w
  rw [show (⟨lettersL.toArray⟩ : ByteArray).data.toList = lettersL from rfl, hr] at hc
  have HC := hide hc
  clear hl hr hc
  go_enter Try.func74, Try.ntmps74
  go_wp2_with fail
  refine HC.out.mono ?_
  rintro e w' ⟨rfl, rfl⟩
  go_wp2_with fail
  go_ret
  exact ⟨ret_bool HL.out, rfl⟩
/-- Go's function value of the closure. -/
abbrev strangeV : Value := .func (.func 74) #[] #[]
/-- It returns -1 exactly if all bytes are letters; else a place; the world stays. -/
def Found (w : World) (b : Bool) (e : Ending) (w' : World) : Prop := ∃ r : Int, e = .returned (.int .i64 r) ∧ decide (0 ≤ r) = !b ∧ w = w'

set_option maxHeartbeats 400000 in
theorem IndexFunc_b {A : Option Addr} {m c B : Nat} {l : List UInt8} {b : Bool} (w : World) (ha : Bs w B A m l) (hm : m ≤ 140737488355328) (h : (l.all fun x => letB x.toNat) = b) :
    Calls Try.prog 86 #[.slice A m c, strangeV] w (Found w b) := by
  have HB := hide h
  have HA := hide ha
  have hl := ha.len
  clear h ha
  go_enter Try.func86, Try.ntmps86
  go_wp2_with fail
  go_loop [8] (fun i => ∃ k : Nat, k ≤ m ∧ i = .int .i64 k ∧ ((l.take k).all fun x => letB x.toNat) = true) (fun i => m - (intOf i).toNat)
  case atStart => exact ⟨0, Nat.zero_le _, rfl, rfl⟩
  case round =>
    obtain ⟨k, hk, rfl, hall⟩ := hrel
    have HALL := hide hall
    clear hall
    by_cases hlt : k < m
    · obtain ⟨bb, o, rfl, _, hcell⟩ := HA.out.2 (by omega)
      have hkl : k < l.length := by omega
      have hx := hcell k l[k] (List.getElem?_eq_getElem hkl)
      have hb := l[k].toNat_lt
      clear hcell
      obtain ⟨x, hxe⟩ : ∃ x : Nat, l[k].toNat = x := ⟨_, rfl⟩
      simp only [bv, hxe] at hx
      rw [hxe] at hb
      have hts := all_take_succ (p := fun x => letB x.toNat) hkl
      have haf := all_false (p := fun x => letB x.toNat) hkl
      simp only [hxe] at hts haf
      have HTS := hide hts
      have HAF := hide haf
      clear hts haf hxe
      cases hb2 : letB x with
      | true =>
        have HB2 := hide hb2
        clear hb2 hkl hl
        go_wp2_with fail
        refine (Strange_any hb _).mono ?_
        rw [HB2.out]
        rintro e w' ⟨rfl, rfl⟩
        go_wp2_with fail
        go_round
        case rel => exact ⟨k + 1, by omega, by go_num, by rw [HTS.out, HALL.out, HB2.out]; rfl⟩
        case measure => simp [intOf]; omega
      | false =>
        have hbf : b = false := by rw [← HB.out]; exact HAF.out hb2
        have HB2 := hide hb2
        have HBF := hide hbf
        clear hb2 hbf hkl hl
        go_wp2_with fail
        refine (Strange_any hb _).mono ?_
        rw [HB2.out]
        rintro e w' ⟨rfl, rfl⟩
        go_wp2_with fail
        go_ret
        rw [HBF.out]
        exact ⟨_, rfl, by simp, rfl⟩
    · have hbt : b = true := by
        rw [← HB.out]
        have := HALL.out
        rwa [List.take_of_length_le (by omega)] at this
      have HBT := hide hbt
      clear hbt hl
      go_wp2_with fail
      go_ret
      rw [HBT.out]
      exact ⟨_, rfl, by simp, rfl⟩

set_option maxHeartbeats 400000 in
theorem ContainsFunc_b {A : Option Addr} {m c B : Nat} {l : List UInt8} {b : Bool} (w : World) (ha : Bs w B A m l) (hm : m ≤ 140737488355328) (h : (l.all fun x => letB x.toNat) = b) :
    Calls Try.prog 76 #[.slice A m c, strangeV] w fun e w' => e = .returned (.bool (!b)) ∧ w = w' := by
  have HB := hide h
  have HA := hide ha
  clear h ha
  go_enter Try.func76, Try.ntmps76
  go_wp2_with fail
  refine (IndexFunc_b _ HA.out hm HB.out).mono ?_
  rintro e w' ⟨r, rfl, hr, rfl⟩
  have HR := hide hr
  clear hr
  go_wp2_with fail
  go_ret
  exact ⟨ret_bool HR.out, rfl⟩
end Go.Proofs.Ythjjjeolpdekoaa
