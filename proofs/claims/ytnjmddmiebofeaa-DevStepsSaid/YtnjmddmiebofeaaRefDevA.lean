/- The disk of the reference (layer 5) as a datum; contracts of its Waiting and Last. -/
import Derived.Test.YtnjmddmiebofeaaChecked
import Derived.Test.YtnjmddmiebofeaaMemF
import Derived.IntWalk
namespace Go.Proofs.Ytnjmddmiebofeaa
open Go.RowKit Plain

theorem info8d : (Try.prog.info? 5).map (fun i => (i.zero, i.size, i.bytes)) = some (some (.int .u8 0), 1, 1) := by kernel_rfl
theorem own_empty_up (W : World) (e B base : Nat) (h : W.heap.size = B) (hb : base ≤ B) : Own (W.alloc (.cells #[] e)) base e (some ⟨B, 0, none⟩) 0 0 [] := by
  subst h
  exact (own_empty W e).rebase hb
/-- The memory of the program's own disks is another's. -/
instance Tags.dev : Tags := ⟨fun t => t == 76 || t == 79 || t == 90 || t == 31⟩
/-- Writes that wait: each a number and bytes. -/
def penE : Enc (Int × List UInt8) := Enc.pair Enc.int Enc.bytes
/-- What sector i reads as. -/
def lastS (safe : List (List UInt8)) (wait : List (Int × List UInt8)) (i : Nat) : List UInt8 := wait.foldl (fun b p => if p.1 = (i : Int) then p.2 else b) (safe.getD i [])
theorem lastS_snoc (safe : List (List UInt8)) (wait : List (Int × List UInt8)) (p : Int × List UInt8) (i : Nat) : lastS safe (wait ++ [p]) i = if p.1 = (i : Int) then p.2 else lastS safe wait i := by
  simp [lastS]
theorem take_snoc {α : Type} {l : List α} {k : Nat} (h : k < l.length) : l.take (k + 1) = l.take k ++ [l[k]] := by
  rw [List.take_add_one, List.getElem?_eq_getElem h]; rfl

set_option maxHeartbeats 1600000 in
theorem RDLast_any {w : World} {A A2 : Option Addr} {n c m c2 i : Nat} {safe : List (List UInt8)} {wait : List (Int × List UInt8)} (lf wr fl : Int) (off : Bool) (hs : RdE Enc.bytes w (Under w.heap.size) A n safe) (hw : RdE penE w (Under w.heap.size) A2 m wait) (hi : i < n) (hm : m ≤ 1000000) (hN : (lastS safe wait i).length ≤ 1000000) :
    Calls Try.prog 50 #[.agg #[.slice A n c, .slice A2 m c2, .int .i64 lf, .int .i64 wr, .int .i64 fl, .bool off], .int .i64 i] w (BRet w 5 (lastS safe wait i).length (lastS safe wait i)) := by
  have hsl := hs.len
  obtain ⟨s0, hs0⟩ : ∃ s0, safe[i]? = some s0 := ⟨_, List.getElem?_eq_getElem (by omega)⟩
  obtain ⟨b, o, rfl, hb, A3, n3, c3, hc3, hnc3, hr3⟩ := hs.get_list hs0
  have hcA : ∀ ob, (w.alloc ob).cell? ⟨b, o + i, none⟩ = some (.slice A3 n3 c3) := fun ob => ((below_new (below_self w) ob).cell (p := ⟨b, o + i, none⟩) hb).trans hc3
  go_enter Try.func50, Try.ntmps50
  go_wp2
  go_loop [5, 6] (fun bv iv => ∃ (k : Nat) (A1 : Option Addr) (n1 c1 : Nat), k ≤ m ∧ iv = .int .i64 k ∧ bv = .slice A1 n1 c1 ∧ n1 ≤ c1 ∧ RdE Enc.byte w (Under w.heap.size) A1 n1 (lastS safe (wait.take k) i)) (fun _ iv => m - (intOf iv).toNat)
  case atStart => exact ⟨0, _, _, _, by omega, rfl, rfl, hnc3, by simpa [lastS, List.getD, hs0] using hr3⟩
  case round =>
    obtain ⟨k, A1, n1, c1, hk, rfl, rfl, hnc1, hr1⟩ := hrel
    have hwl := hw.len
    by_cases hlt : k < m
    · obtain ⟨p, hp⟩ : ∃ p, wait[k]? = some p := ⟨_, List.getElem?_eq_getElem (by omega)⟩
      obtain ⟨b2, o2, rfl, hb2, hp1, A4, n4, c4, hp2, hnc4, hr4⟩ := hw.get_int_list hp
      have hq1 : ∀ ob, (w.alloc ob).cell? ⟨b2, o2 + k * 2, none⟩ = some (.int .i64 p.1) := fun ob => ((below_new (below_self w) ob).cell (p := ⟨b2, o2 + k * 2, none⟩) hb2).trans hp1
      have hq2 : ∀ ob, (w.alloc ob).cell? ⟨b2, o2 + k * 2 + 1, none⟩ = some (.slice A4 n4 c4) := fun ob => ((below_new (below_self w) ob).cell (p := ⟨b2, o2 + k * 2 + 1, none⟩) hb2).trans hp2
      have hsn : lastS safe (wait.take (k + 1)) i = if p.1 = (i : Int) then p.2 else lastS safe (wait.take k) i := by
        rw [take_snoc (by omega), lastS_snoc]
        rw [List.getElem?_eq_getElem (by omega)] at hp
        cases hp
        rfl
      by_cases he : p.1 = (i : Int)
      · rw [if_pos he] at hsn
        have HSN := hide hsn
        have HR4 := hide hr4
        have hd : (p.1 == (i : Int)) = true := by simpa using he
        clear hsn hr4 he hr1
        go_wp2
        go_round
        case rel => exact ⟨k + 1, _, _, _, by omega, by go_num, rfl, hnc4, by rw [HSN.out]; exact HR4.out⟩
        case measure => simp [intOf]; omega
      · rw [if_neg he] at hsn
        have HSN := hide hsn
        have HR1 := hide hr1
        have hd : (p.1 == (i : Int)) = false := by simpa using he
        clear hsn hr4 he hr1
        go_wp2
        go_round
        case rel => exact ⟨k + 1, _, _, _, by omega, by go_num, rfl, hnc1, by rw [HSN.out]; exact HR1.out⟩
        case measure => simp [intOf]; omega
    · obtain rfl : k = m := by omega
      rw [List.take_of_length_le (by omega)] at hr1
      have hrl := hr1.len
      subst hrl
      have HR := hide (Bs.of_rd hr1)
      clear hr1
      go_wp2_with (at_builtin; (refine wpList_append_Bs _ rfl (.tmp 33) (.tmp 34) 22 rfl w.heap.size 5 Try.underlying22 info8d _ 0 _ _ rfl (own_empty_up _ _ (w.heap.size + 1) _ (by simp) (by omega)) _ _ _ _ _ rfl ((HR.out.alloc (Nat.le_refl _) _).alloc (by simp) _) (lastS safe wait i).length (by omega) (by omega) (by simp <;> omega) ?_); intro A2 c2 w1 hown1 hbel1; have HO1 := hide hown1; have HB1 := hide ((below_new (below_new (below_self w) _) _).trans hbel1); clear hown1 hbel1)
      go_ret
      exact HO1.out.ret HB1.out
end Go.Proofs.Ytnjmddmiebofeaa
