/- Contracts of bytes.Equal and bytes.Clone. -/
import Derived.Test.YthjjjeolpdekoaaRows
import Derived.Test.YthjjjeolpdekoaaMem
namespace Go.Proofs.Ythjjjeolpdekoaa
open Go.RowKit Plain

theorem info_u8 : (Try.prog.info? 5).map (fun i => (i.zero, i.size, i.bytes)) = some (some (.int .u8 0), 1, 1) := by kernel_rfl

set_option maxHeartbeats 400000 in
theorem Equal_any {A B : Option Addr} {n m c d : Nat} {l k : List UInt8} {W1 W2 : Nat} (w : World) (ha : Bs w W1 A n l) (hb : Bs w W2 B m k) :
    Calls Try.prog 16 #[.slice A n c, .slice B m d] w fun e w' => e = .returned (.bool (l == k)) ∧ w = w' := by
  have ra := run_string_Bs (P := Try.prog) w 24 5 9 Try.underlying24 Try.underlying5 Try.underlying9 (c := c) ha
  have rb := run_string_Bs (P := Try.prog) w 24 5 9 Try.underlying24 Try.underlying5 Try.underlying9 (c := d) hb
  clear ha hb
  go_enter Try.func16, Try.ntmps16
  go_wp2
  go_ret
  exact ⟨rfl, rfl⟩

set_option maxHeartbeats 400000 in
theorem Clone_any {A : Option Addr} {n c : Nat} {l : List UInt8} (w : World) (ha : Bs w w.heap.size A n l) (hn : n ≤ 140737488355328) :
    Calls Try.prog 54 #[.slice A n c] w (BRet w 5 n l) := by
  have q := fun (W : World) (A : Option Addr) (n c n' c' : Nat) => Lib.run_eql_slice_nil (P := Try.prog) W _ _ A n c n' c' Try.underlying24
  cases A with
  | none =>
    have h0 : n = 0 := by
      rcases Nat.eq_zero_or_pos n with h0 | h0
      · exact h0
      · obtain ⟨_, _, h, _⟩ := ha.2 h0; cases h
    subst h0
    obtain rfl : l = [] := List.eq_nil_of_length_eq_zero ha.1
    go_enter Try.func54, Try.ntmps54
    go_wp2
    go_ret
    exact BRet.of (World.ownsRow_nil _ _ _ _) (Below.refl _ _)
  | some a =>
    have hb := ha.alloc (Nat.le_refl _) (.cells #[] 5)
    clear ha
    go_enter Try.func54, Try.ntmps54
    go_wp2_with (at_builtin; refine wpList_append_Bs _ rfl (.tmp 5) (.tmp 6) 24 rfl w.heap.size 5 Try.underlying24 info_u8 _ 0 _ [] rfl (own_empty w _) _ (some a) n c l rfl hb n (by omega) (by omega) (by simp) ?_; intro A1 c1 w1 hown1 hbel1; have HO1 := hide hown1; have HB1 := hide hbel1; clear hown1 hbel1)
    go_ret
    exact HO1.out.ret (((Below.refl _ _).alloc (Nat.le_refl _) _).trans HB1.out)
end Go.Proofs.Ythjjjeolpdekoaa
