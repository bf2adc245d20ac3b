/- Contracts of strings.Cut and CutPrefix at a stroke. -/
import Derived.Test.YtbdakjepdkmcdaaRefNameA
import Derived.Test.YtbdakjepdkmcdaaShelf
import Derived.Lib.CutLaws
import Derived.IntWalk
namespace Go.Proofs.Ytbdakjepdkmcdaa
open Go.RowKit Plain

theorem index_no {l : List UInt8} (h : ∀ c ∈ l, c ≠ 47) : Lib.indexByte l 47 = -1 := by
  induction l with
  | nil => rfl
  | cons x r ih =>
    have hx : (x == 47) = false := by simpa using h x List.mem_cons_self
    have hr := ih (fun c hc => h c (List.mem_cons_of_mem _ hc))
    unfold Lib.indexByte
    rw [hx, hr]
    rfl
theorem index_yes {p q : List UInt8} (h : ∀ c ∈ p, c ≠ 47) : Lib.indexByte (p ++ 47 :: q) 47 = p.length := by
  induction p with
  | nil => rfl
  | cons x r ih =>
    have hx : (x == 47) = false := by simpa using h x List.mem_cons_self
    have hr := ih (fun c hc => h c (List.mem_cons_of_mem _ hc))
    rw [List.cons_append]
    unfold Lib.indexByte
    rw [hx, hr]
    have : (((r.length : Nat) : Int) == -1) = false := by simp
    rw [this]
    simp

/-- It returns what stands ahead, what stands behind, and whether there is a stroke; nothing has turned but draws. -/
def CutRet (w : World) (p q : List UInt8) (b : Bool) (x : Ending) (w' : World) : Prop := x = .returned (.tuple #[st p, st q, .bool b]) ∧ ∃ n, w' = w.drewN n

set_option maxHeartbeats 400000 in
theorem CutL_no {l : List UInt8} (h : ∀ c ∈ l, c ≠ 47) (w : World) :
    Calls Try.prog 65 #[st l, .string ⟨#[47]⟩] w (CutRet w l [] false) := by
  have hc := fun (w : World) => Try.stringslite_Index_one ⟨l.toArray⟩ 47 w
  simp only [index_no h] at hc
  have HC := hide hc
  clear hc h
  unfold st
  go_enter Try.func65, Try.ntmps65
  go_wp2_with fail
  refine (HC.out _).mono ?_
  rintro e w' ⟨rfl, rfl⟩
  go_wp2_with fail
  go_ret3
  exact ⟨rfl, 0, rfl⟩

set_option maxHeartbeats 400000 in
theorem CutL_yes {p q : List UInt8} (h : ∀ c ∈ p, c ≠ 47) (w : World) (hn : (p ++ 47 :: q).length ≤ 140737488355328) :
    Calls Try.prog 65 #[st (p ++ 47 :: q), .string ⟨#[47]⟩] w (CutRet w p q true) := by
  have hc := fun (w : World) => Try.stringslite_Index_one ⟨(p ++ 47 :: q).toArray⟩ 47 w
  simp only [index_yes h] at hc
  have HC := hide hc
  obtain ⟨l, hl⟩ : ∃ l, p ++ 47 :: q = l := ⟨_, rfl⟩
  rw [hl] at HC hn ⊢
  have hln : p.length + 1 ≤ l.length := by rw [← hl]; simp
  have HL := hide hl
  clear hc h hl
  unfold st
  have c1 : (0 : Int) ≤ (p.length : Int) := by omega
  have c2 : (p.length : Int) ≤ (l.length : Int) := by omega
  have c3 : (0 : Int) ≤ (p.length : Int) + 1 := by omega
  have c4 : (p.length : Int) + 1 ≤ (l.length : Int) := by omega
  have hw1 : IntKind.i64.wrap ((p.length : Int) + 1) = (p.length : Int) + 1 := IntWalk.i64_in _ (by omega)
  have hw2 : ((p.length : Int) + 1).toNat = p.length + 1 := by omega
  go_enter Try.func65, Try.ntmps65
  go_wp2_with fail
  refine (HC.out _).mono ?_
  rintro e w' ⟨rfl, rfl⟩
  go_wp2_with fail
  go_region
  go_wp2
  go_ret3
  have hl := HL.out
  have e1 : ({ data := l.toArray } : ByteArray).extract 0 p.length = ⟨p.toArray⟩ := by rw [Lib.extract_eq, ← hl]; simp
  have e2 : ({ data := l.toArray } : ByteArray).extract (p.length + 1) l.length = ⟨q.toArray⟩ := by
    rw [Lib.extract_eq, ← hl]
    simp
    exact List.take_of_length_le (by omega)
  refine ⟨?_, 1, rfl⟩
  show Ending.returned (.tuple #[.string (({ data := l.toArray } : ByteArray).extract 0 p.length), .string (({ data := l.toArray } : ByteArray).extract (p.length + 1) l.length), .bool true]) = _
  rw [e1, e2]
  rfl
theorem Cut_of {l p q : List UInt8} {b : Bool} (h : ∀ w : World, Calls Try.prog 65 #[st l, .string ⟨#[47]⟩] w (CutRet w p q b)) (w : World) :
    Calls Try.prog 49 #[st l, .string ⟨#[47]⟩] w (CutRet w p q b) := by
  have H := hide h
  clear h
  unfold st
  go_enter Try.func49, Try.ntmps49
  go_wp2_with fail
  refine (H.out _).mono ?_
  rintro e w' ⟨rfl, n, rfl⟩
  go_wp2_with fail
  go_ret3
  exact ⟨rfl, n, rfl⟩
theorem Cut_no {l : List UInt8} (h : ∀ c ∈ l, c ≠ 47) (w : World) : Calls Try.prog 49 #[st l, .string ⟨#[47]⟩] w (CutRet w l [] false) := Cut_of (fun w => CutL_no h w) w
theorem Cut_yes {p q : List UInt8} (h : ∀ c ∈ p, c ≠ 47) (w : World) (hn : (p ++ 47 :: q).length ≤ 140737488355328) : Calls Try.prog 49 #[st (p ++ 47 :: q), .string ⟨#[47]⟩] w (CutRet w p q true) := Cut_of (fun w => CutL_yes h w hn) w
end Go.Proofs.Ytbdakjepdkmcdaa
