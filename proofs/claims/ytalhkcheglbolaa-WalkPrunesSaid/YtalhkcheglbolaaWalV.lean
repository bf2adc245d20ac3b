/- walk: ways that came in, opened; the law WalkPaths: its walk (layer 13). -/
import Derived.Test.YtalhkcheglbolaaWalU
import Derived.Test.YtalhkcheglbolaaMemP
import Derived.WalkKit
import Derived.Lib.SmallJoins
import Derived.OpenShut
import Derived.ProofKit
import Derived.ChangeArms
namespace Go.Proofs.Ytalhkcheglbolaa
open Go.RowKit Go.Shelf Plain Go.WideShapes Go.ChangeShapes

section
variable {H : Type} {enc : TypeId × Value → H} {w : World} {base : Nat} {spare : Nat → Bool} {held : Bool}
theorem cell_i64 {n : Nat} {c : Value} {y : DataW H × List MemPlace} (h : DataW.trod enc Try.prog w base spare held n 3 [c] = some y) : ∃ a : Int, c = .int .i64 a := by
  obtain ⟨a, e, hy, -⟩ := DataW.trod_int Try.underlying3 h
  exact ⟨a, by simpa using e⟩
theorem cell_str {n : Nat} {c : Value} {y : DataW H × List MemPlace} (h : DataW.trod enc Try.prog w base spare held n 9 [c] = some y) : ∃ l : List UInt8, c = .string ⟨l.toArray⟩ := by
  obtain ⟨s, e, hy, -⟩ := DataW.trod_string Try.underlying9 h
  exact ⟨s.data.toList, by simpa using e⟩
theorem three {l : List Value} (h : l.length = 3) : ∃ a b c, l = [a, b, c] := by
  match l, h with
  | [a, b, c], _ => exact ⟨a, b, c, rfl⟩
set_option maxRecDepth 100000 in
theorem trod_way {fuel : Nat} {cs : List Value} {y : DataW H × List MemPlace} (hl : cs.length = 3) (h : DataW.trod enc Try.prog w base spare held fuel 33 cs = some y) : ∃ x : WayV, cs = wayC x := by
  obtain ⟨c0, c1, c2, rfl⟩ := three hl
  obtain ⟨xs, n, -, rfl, -, hlen, hp⟩ := DataW.trod_struct Try.underlying33 h
  match xs, hlen, hp with
  | [x0, x1, x2], _, hp =>
    obtain ⟨a0, rfl⟩ := cell_i64 (c := c0) (hp 0 _ rfl)
    obtain ⟨a1, rfl⟩ := cell_i64 (c := c1) (hp 1 _ rfl)
    obtain ⟨a2, rfl⟩ := cell_str (c := c2) (hp 2 _ rfl)
    exact ⟨⟨a0, a1, a2⟩, rfl⟩
theorem open_ways {fuel : Nat} {cs : List Value} {x : DataW H × List MemPlace} (h : DataW.trod enc Try.prog w 0 spare held fuel 28 cs = some x) :
    ∃ A n c l, cs = [.slice A n c] ∧ n ≤ c ∧ RdE wayEn w (Under w.heap.size) A n l :=
  open_rde (e := 33) wayEn Try.underlying28 (by kernel_rfl) (by decide) (fun _ _ _ hl hy => by
    obtain ⟨x, h1⟩ := trod_way hl hy
    exact ⟨x, h1⟩) h
end
set_option maxRecDepth 100000 in
set_option maxHeartbeats 1600000 in
theorem law_WalkPaths {A : Option Addr} {n c : Nat} {l : List WayV} (i : Int) (w : World) (h : RdE wayEn w (Under w.heap.size) A n l) :
    Calls Try.prog 4 #[.slice A n c, .int .i64 i] w (LawOk w) := by
  have H := hide h
  clear h
  by_cases hfew : n ≤ 60
  case neg =>
    have hf : decide ((60 : Int) < (n : Int)) = true := by simp; omega
    clear H
    go_enter Try.func4, Try.ntmps4
    go_wp2_with fail
    refine (awake13_any w).mono ?_
    rintro e w' ⟨rfl, hb1⟩
    go_wp2_with fail
    go_ret
    exact LawOk.of hb1
  have hf : decide ((60 : Int) < (n : Int)) = false := by simp; omega
  have HN := hide hfew
  clear hfew
  go_enter Try.func4, Try.ntmps4
  go_wp2_with fail
  refine (Path_any w H.out (by have := HN.out; omega)).mono ?_
  rintro e w1 ⟨A1, c1, rfl, ho1, hb1⟩
  have H1 := hide (H.out.on hb1)
  have O1 := hide ho1
  have B1 := hide hb1
  clear ho1 hb1
  go_wp2_with fail
  refine (RPath_any w1 H1.out (by have := HN.out; omega)).mono ?_
  rintro e w2 ⟨A2, c2, rfl, ho2, hb2⟩
  have O2 := hide ho2
  have P2 := hide ((O1.out.below hb2).rd)
  have B2 := hide (below_step B1.out hb2)
  have hpl : (pathS l i).length ≤ 140737488355328 := by have := upsF_len l l.length i; have := HN.out; have := H.out.1; unfold pathS; rw [List.length_reverse]; omega
  have HPL := hide hpl
  clear ho2 hb2 hpl
  go_wp2_with fail
  refine (EqualS_any w2 P2.out O2.out.rd HPL.out).mono ?_
  rw [show (pathS l i == pathS l i) = true from by simp]
  rintro e w3 ⟨rfl, hb3⟩
  have B3 := hide (below_step B2.out hb3)
  clear hb3
  go_wp2_with fail
  refine (awake13_any w3).mono ?_
  rintro e w4 ⟨rfl, hb4⟩
  have B4 := hide (below_step B3.out hb4)
  clear hb4
  go_wp2_with fail
  go_ret
  exact LawOk.of B4.out
end Go.Proofs.Ytalhkcheglbolaa
