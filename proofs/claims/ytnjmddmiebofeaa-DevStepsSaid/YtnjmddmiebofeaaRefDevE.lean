/- The contract of the reference's Go (layer 5), where it does not write. -/
import Derived.Test.YtnjmddmiebofeaaRefDevD
namespace Go.Proofs.Ytnjmddmiebofeaa
open Go.RowKit Plain

/-- Returned are a disk, bytes and an error. -/
def GRet (w : World) (n : Nat) (safe : List (List UInt8)) (wait : List (Int × List UInt8)) (lf wn fl : Int) (off : Bool) (out : List UInt8) (err : Int) (x : Ending) (w' : World) : Prop :=
  ∃ A c A2 m c2 A3 n3 c3, x = .returned (.tuple #[dV (.slice A n c) (.slice A2 m c2) lf wn fl off, .slice A3 n3 c3, .int .i64 err]) ∧ n ≤ c ∧ m ≤ c2 ∧ RdE Enc.bytes w' (Und w') A n safe ∧ RdE penE w' (Und w') A2 m wait ∧ Bs w' w'.heap.size A3 n3 out ∧ Below w.heap.size w w'

set_option maxHeartbeats 1600000 in
theorem RDGo_arm {w : World} {A A2 AB AK : Option Addr} {n c m c2 nb cb nk ck : Nat} {safe : List (List UInt8)} {wait : List (Int × List UInt8)} {at_ : Int} {off : Bool} (wn fl : Int) (hs : RdE Enc.bytes w (Und w) A n safe) (hnc : n ≤ c) (hw : RdE penE w (Und w) A2 m wait) (hmc : m ≤ c2) (lf : Int) :
    Calls Try.prog 11 #[.agg #[.slice A n c, .slice A2 m c2, .int .i64 lf, .int .i64 wn, .int .i64 fl, .bool off], .agg #[.int .i64 3, .int .i64 at_, .slice AB nb cb, .slice AK nk ck]] w (GRet w n safe wait (max at_ (-1)) wn fl off [] 0) := by
  by_cases h : -1 < at_
  · have e : max at_ (-1) = at_ := by omega
    rw [e]
    clear e
    have HS := hide hs
    have HW := hide hw
    clear hs hw
    go_enter Try.func11, Try.ntmps11
    go_wp2_with fail
    exact bodyPost_ret (v := .tuple #[dV (.slice A n c) (.slice A2 m c2) at_ wn fl off, .slice none 0 0, .int .i64 0]) (by simp [results, Try.results11, go_sem, dV]) rfl ⟨_, _, _, _, _, _, _, _, rfl, hnc, hmc, HS.out.ond (below_new (below_new (below_new (below_self w) _) _) _), HW.out.ond (below_new (below_new (below_new (below_self w) _) _) _), Bs.none_ _ _ _, below_new (below_new (below_new (below_self w) _) _) _⟩
  by_cases h' : at_ = -1
  · subst h'
    have e : max (-1 : Int) (-1) = -1 := by decide
    rw [e]
    clear e h
    have HS := hide hs
    have HW := hide hw
    clear hs hw
    go_enter Try.func11, Try.ntmps11
    go_wp2_with fail
    exact bodyPost_ret (v := .tuple #[dV (.slice A n c) (.slice A2 m c2) (-1) wn fl off, .slice none 0 0, .int .i64 0]) (by simp [results, Try.results11, go_sem, dV]) rfl ⟨_, _, _, _, _, _, _, _, rfl, hnc, hmc, HS.out.ond (below_new (below_new (below_new (below_self w) _) _) _), HW.out.ond (below_new (below_new (below_new (below_self w) _) _) _), Bs.none_ _ _ _, below_new (below_new (below_new (below_self w) _) _) _⟩
  · have e : max at_ (-1) = -1 := by omega
    have h2 : at_ < -1 := by omega
    rw [e]
    clear e h h'
    have HS := hide hs
    have HW := hide hw
    clear hs hw
    go_enter Try.func11, Try.ntmps11
    go_wp2_with fail
    exact bodyPost_ret (v := .tuple #[dV (.slice A n c) (.slice A2 m c2) (-1) wn fl off, .slice none 0 0, .int .i64 0]) (by simp [results, Try.results11, go_sem, dV]) rfl ⟨_, _, _, _, _, _, _, _, rfl, hnc, hmc, HS.out.ond (below_new (below_new (below_new (below_self w) _) _) _), HW.out.ond (below_new (below_new (below_new (below_self w) _) _) _), Bs.none_ _ _ _, below_new (below_new (below_new (below_self w) _) _) _⟩

set_option maxHeartbeats 1600000 in
theorem RDGo_range {w : World} {A A2 AB AK : Option Addr} {n c m c2 nb cb nk ck : Nat} {safe : List (List UInt8)} {wait : List (Int × List UInt8)} {dd at_ : Int} {off : Bool} (wn fl : Int) (hs : RdE Enc.bytes w (Und w) A n safe) (hnc : n ≤ c) (hw : RdE penE w (Und w) A2 m wait) (hmc : m ≤ c2) (lf : Int) (h3 : (dd == 3) = false) (h4 : (dd == 4) = false) (h2 : (dd != 2) = true) (hr : at_ < 0 ∨ (n : Int) ≤ at_) :
    Calls Try.prog 11 #[.agg #[.slice A n c, .slice A2 m c2, .int .i64 lf, .int .i64 wn, .int .i64 fl, .bool off], .agg #[.int .i64 dd, .int .i64 at_, .slice AB nb cb, .slice AK nk ck]] w (GRet w n safe wait lf wn fl off [] 3) := by
  by_cases h0 : at_ < 0
  · have g0 : decide (at_ < 0) = true := by simpa using h0
    clear hr
    have HS := hide hs
    have HW := hide hw
    clear hs hw
    go_enter Try.func11, Try.ntmps11
    go_wp2_with fail
    exact bodyPost_ret (v := .tuple #[dV (.slice A n c) (.slice A2 m c2) lf wn fl off, .slice none 0 0, .int .i64 3]) (by simp [results, Try.results11, go_sem, dV]) rfl ⟨_, _, _, _, _, _, _, _, rfl, hnc, hmc, HS.out.ond (below_new (below_new (below_new (below_self w) _) _) _), HW.out.ond (below_new (below_new (below_new (below_self w) _) _) _), Bs.none_ _ _ _, below_new (below_new (below_new (below_self w) _) _) _⟩
  · have g0 : decide (at_ < 0) = false := by simpa using h0
    have g1 : decide ((n : Int) ≤ at_) = true := by simp; omega
    clear hr
    have HS := hide hs
    have HW := hide hw
    clear hs hw
    go_enter Try.func11, Try.ntmps11
    go_wp2_with fail
    exact bodyPost_ret (v := .tuple #[dV (.slice A n c) (.slice A2 m c2) lf wn fl off, .slice none 0 0, .int .i64 3]) (by simp [results, Try.results11, go_sem, dV]) rfl ⟨_, _, _, _, _, _, _, _, rfl, hnc, hmc, HS.out.ond (below_new (below_new (below_new (below_self w) _) _) _), HW.out.ond (below_new (below_new (below_new (below_self w) _) _) _), Bs.none_ _ _ _, below_new (below_new (below_new (below_self w) _) _) _⟩

set_option maxHeartbeats 1600000 in
theorem RDGo_arg {w : World} {A A2 AB AK : Option Addr} {n c m c2 nb cb nk ck : Nat} {safe : List (List UInt8)} {wait : List (Int × List UInt8)} {at_ : Int} {off : Bool} (wn fl : Int) (hs : RdE Enc.bytes w (Und w) A n safe) (hnc : n ≤ c) (hw : RdE penE w (Und w) A2 m wait) (hmc : m ≤ c2) (lf : Int) (h0 : 0 ≤ at_) (h1 : at_ < n) (hb : nb ≠ 64) :
    Calls Try.prog 11 #[.agg #[.slice A n c, .slice A2 m c2, .int .i64 lf, .int .i64 wn, .int .i64 fl, .bool off], .agg #[.int .i64 1, .int .i64 at_, .slice AB nb cb, .slice AK nk ck]] w (GRet w n safe wait lf wn fl off [] 1) := by
  have g0 : decide (at_ < 0) = false := by simp; omega
  have g1 : decide ((n : Int) ≤ at_) = false := by simp; omega
  have g2 : ((nb : Int) != 64) = true := by simp; omega
  have HS := hide hs
  have HW := hide hw
  clear hs hw
  go_enter Try.func11, Try.ntmps11
  go_wp2_with fail
  exact bodyPost_ret (v := .tuple #[dV (.slice A n c) (.slice A2 m c2) lf wn fl off, .slice none 0 0, .int .i64 1]) (by simp [results, Try.results11, go_sem, dV]) rfl ⟨_, _, _, _, _, _, _, _, rfl, hnc, hmc, HS.out.ond (below_new (below_new (below_new (below_self w) _) _) _), HW.out.ond (below_new (below_new (below_new (below_self w) _) _) _), Bs.none_ _ _ _, below_new (below_new (below_new (below_self w) _) _) _⟩

set_option maxHeartbeats 1600000 in
theorem RDGo_dark {w : World} {A A2 AB AK : Option Addr} {n c m c2 nb cb nk ck : Nat} {safe : List (List UInt8)} {wait : List (Int × List UInt8)} {dd at_ : Int} (wn fl : Int) (hs : RdE Enc.bytes w (Und w) A n safe) (hnc : n ≤ c) (hw : RdE penE w (Und w) A2 m wait) (hmc : m ≤ c2) (lf : Int) (h3 : (dd == 3) = false) (h4 : (dd == 4) = false) (h2 : (dd != 2) = true) (h1' : (dd == 1) = false) (h1'' : (dd != 1) = true) (h0 : 0 ≤ at_) (h1 : at_ < n) :
    Calls Try.prog 11 #[.agg #[.slice A n c, .slice A2 m c2, .int .i64 lf, .int .i64 wn, .int .i64 fl, .bool true], .agg #[.int .i64 dd, .int .i64 at_, .slice AB nb cb, .slice AK nk ck]] w (GRet w n safe wait lf wn fl true [] 4) := by
  have g0 : decide (at_ < 0) = false := by simp; omega
  have g1 : decide ((n : Int) ≤ at_) = false := by simp; omega
  have HS := hide hs
  have HW := hide hw
  clear hs hw
  go_enter Try.func11, Try.ntmps11
  go_wp2_with fail
  exact bodyPost_ret (v := .tuple #[dV (.slice A n c) (.slice A2 m c2) lf wn fl true, .slice none 0 0, .int .i64 4]) (by simp [results, Try.results11, go_sem, dV]) rfl ⟨_, _, _, _, _, _, _, _, rfl, hnc, hmc, HS.out.ond (below_new (below_new (below_new (below_self w) _) _) _), HW.out.ond (below_new (below_new (below_new (below_self w) _) _) _), Bs.none_ _ _ _, below_new (below_new (below_new (below_self w) _) _) _⟩

end Go.Proofs.Ytnjmddmiebofeaa
