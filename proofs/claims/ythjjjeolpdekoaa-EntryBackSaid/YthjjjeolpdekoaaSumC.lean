/- The contract of sum.Seal. -/
import Derived.Test.YthjjjeolpdekoaaSumB
import Derived.Test.YthjjjeolpdekoaaNumE
import Derived.StillTailTactics
namespace Go.Proofs.Ythjjjeolpdekoaa
open Go.RowKit Plain

/-- The first 60 bytes, and bytes 0 where there are fewer. -/
def bodyS (l : List UInt8) : List UInt8 := splice (zeros 60) 0 (l.take 60)
theorem bodyS_length (l : List UInt8) : (bodyS l).length = 60 := by
  unfold bodyS
  rw [length_splice _ _ _ (by rw [zeros_length, List.length_take]; omega), zeros_length]
/-- These, and their sum. -/
def sealS (l : List UInt8) : List UInt8 := bodyS l ++ nb 4 (ofS (bodyS l))
theorem sealS_length (l : List UInt8) : (sealS l).length = 64 := by
  unfold sealS
  rw [List.length_append, bodyS_length, nb_length]

theorem row60 (w : World) (t : TypeId) : RowL (w.alloc (.cells #[Value.int .u8 0, Value.int .u8 0, Value.int .u8 0, Value.int .u8 0, Value.int .u8 0, Value.int .u8 0, Value.int .u8 0, Value.int .u8 0, Value.int .u8 0, Value.int .u8 0, Value.int .u8 0, Value.int .u8 0, Value.int .u8 0, Value.int .u8 0, Value.int .u8 0, Value.int .u8 0, Value.int .u8 0, Value.int .u8 0, Value.int .u8 0, Value.int .u8 0, Value.int .u8 0, Value.int .u8 0, Value.int .u8 0, Value.int .u8 0, Value.int .u8 0, Value.int .u8 0, Value.int .u8 0, Value.int .u8 0, Value.int .u8 0, Value.int .u8 0, Value.int .u8 0, Value.int .u8 0, Value.int .u8 0, Value.int .u8 0, Value.int .u8 0, Value.int .u8 0, Value.int .u8 0, Value.int .u8 0, Value.int .u8 0, Value.int .u8 0, Value.int .u8 0, Value.int .u8 0, Value.int .u8 0, Value.int .u8 0, Value.int .u8 0, Value.int .u8 0, Value.int .u8 0, Value.int .u8 0, Value.int .u8 0, Value.int .u8 0, Value.int .u8 0, Value.int .u8 0, Value.int .u8 0, Value.int .u8 0, Value.int .u8 0, Value.int .u8 0, Value.int .u8 0, Value.int .u8 0, Value.int .u8 0, Value.int .u8 0] t)) w.heap.size t (bvs (zeros 60)) := by
  have h := RowL.new w t (List.replicate 60 (Value.int .u8 0))
  have e : bvs (zeros 60) = List.replicate 60 (Value.int .u8 0) := by
    unfold bvs zeros
    rw [List.map_replicate]
    congr 1
  rw [e]
  exact h
theorem sub_still {A : Option Addr} {m c B : Nat} {l : List UInt8} (w : World) (ha : Bs w B A m l) (hm : m ≤ 140737488355328) :
    Calls Try.prog 79 #[.slice A m c] w fun e w' => e = .returned (.int .i64 (ofS l)) ∧ w' = w := (Of_any w ha hm).mono fun _ _ h => ⟨h.1, h.2.symm⟩
theorem fits_of (l : List UInt8) : fits (ofS l) 4 = true := by
  have := ofS_lt l
  simp [fits, isz]
  omega

set_option maxRecDepth 100000 in
set_option maxHeartbeats 400000 in
theorem Seal_any {A : Option Addr} {m c : Nat} {l : List UInt8} (w : World) (ha : Bs w w.heap.size A m l) :
    Calls Try.prog 56 #[.slice A m c] w (BRet w 5 64 (sealS l)) := by
  have HA := hide ha
  have hz := row60 w 100
  have HZ := hide hz
  clear ha hz
  go_enter Try.func56, Try.ntmps56
  go_wp2_with (with_reducible refine wpList_copy_min rfl (.tmp 4) (.tmp 5) 24 24 rfl 5 Try.underlying24 u8_size w.heap.size 60 60 rfl _ _ HZ.out A m c rfl _ l (HA.out.alloc (Nat.le_refl _) _) (by rw [bvs_length, zeros_length]) w.heap.size w (below_new (below_self w) _) (Nat.le_refl _) ?_; intro w1 hr1 hb1; have HR1 := hide hr1; have HB1 := hide hb1; have hlt1 := hr1.lt; clear hr1 hb1)
  have hrow : RowL w1 w.heap.size 100 (bvs (bodyS l)) := by
    have := HR1.out
    rw [← bvs_splice] at this
    exact this
  have hbs : Bs w1 w1.heap.size (some ⟨w.heap.size, 0, none⟩) 60 (bodyS l) := by
    have := Bs.of_row (o := 0) (B := w1.heap.size) hrow hlt1 (l := bodyS l) (fun i x hx => by rw [Nat.zero_add]; exact bvs_get hx)
    rwa [bodyS_length] at this
  have E1 := hide (sub_still w1.drew (c := 60) hbs (by omega))
  have HBS := hide hbs
  clear hrow hbs
  go_still_tail 3, (by kernel_rfl)
  still_call E1.out
  refine wpStill_nil ?_
  change wpList _ _ _ _ _ w1.drew
  go_wp2_with fail
  refine (Put_yes (m := 60) (n := ofS (bodyS l)) (s := 4) w1.drew HBS.out (by omega) (fits_of _)).mono ?_
  rintro e w2 ⟨A2, c2, rfl, hown, hbel⟩
  have HO := hide hown
  have HB := hide hbel
  clear hown hbel
  go_wp2_with fail
  go_ret
  have ho := HO.out
  rw [Int.toNat_natCast] at ho
  exact Own.ret (ho.rebase HB1.out.size) (below_step HB1.out.drew HB.out)
end Go.Proofs.Ythjjjeolpdekoaa
