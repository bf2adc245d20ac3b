/- Contracts of the program's path.Redirect and Begins; the walk of awake of layer 4's laws. -/
import Derived.Test.YtbdakjepdkmcdaaPathJ
import Derived.Test.YtbdakjepdkmcdaaNameV
namespace Go.Proofs.Ytbdakjepdkmcdaa
open Go.RowKit Plain

set_option maxHeartbeats 400000 in
theorem PBegins_b {A B : Option Addr} {n m c d : Nat} {l k : List (List UInt8)} {W1 W2 : Nat} {b : Bool} (h : beginsS l k = b) (w : World) (ha : Rd st w W1 A n l) (hb : Rd st w W2 B m k) (hn : n ≤ 1000000) (hmd : m ≤ d) :
    Calls Try.prog 26 #[.slice A n c, .slice B m d] w (BRt w b) := by
  have HA := hide ha
  have HB := hide hb
  have hl := ha.len
  have hk := hb.len
  by_cases hnm : n ≤ m
  · have hd : decide ((n : Int) ≤ (m : Int)) = true := by simp; omega
    have hbe : (l == k.take n) = b := by
      rw [← h]
      unfold beginsS
      have : decide (l.length ≤ k.length) = true := by simp; omega
      rw [this, hl]
      rfl
    have HBE := hide hbe
    clear ha hb h hl hk hbe
    have hnd : n ≤ d := by omega
    go_enter Try.func26, Try.ntmps26
    go_wp2_with fail
    refine (EqualS_b HBE.out _ HA.out (HB.out.pre hnm) (by omega)).mono ?_
    rintro e w1 ⟨rfl, hbel⟩
    have HBL := hide hbel
    clear hbel
    go_wp2_with fail
    go_ret
    exact BRt.of HBL.out rfl
  · have hd : decide (n ≤ m) = false := by simp; omega
    have hmn : m < n := by omega
    have hbe : b = false := by
      rw [← h]
      unfold beginsS
      have : decide (l.length ≤ k.length) = false := by simp; omega
      rw [this]
      rfl
    have HBE := hide hbe
    clear ha hb h hl hk hbe HA HB hnm
    go_enter Try.func26, Try.ntmps26
    go_wp2_with fail
    go_ret
    exact BRt.of (below_self w) HBE.out.symm

theorem name_head {s : List UInt8} (h : nameB s = true) : headB s = false := by
  cases s with
  | nil => rfl
  | cons c r =>
    have := nameB_noslash h c List.mem_cons_self
    simpa [headB] using this
theorem red_no {s : List UInt8} (h1 : headB s = false) : splitB s = false ∧ splitS s = [] := by
  have hne : s ≠ [47] := by rintro rfl; simp [headB] at h1
  have hne2 : (s == [47]) = false := by simpa using hne
  refine ⟨by unfold splitB; rw [hne2, h1]; rfl, by unfold splitS; rw [if_neg hne, h1]; rfl⟩
theorem red_split {s : List UInt8} (h : ¬ 24 < s.length) (hn : nameB s = false) : redL s = splitS s ∧ redA s = splitB s ∧ redB s = splitB s := by
  unfold redL redA redB
  rw [if_neg h, if_neg h, if_neg h]
  cases hh : headB s with
  | true => exact ⟨rfl, rfl, rfl⟩
  | false => obtain ⟨a, b⟩ := red_no hh; rw [a, b, hn]; exact ⟨rfl, rfl, rfl⟩
theorem red_name {s : List UInt8} (h : ¬ 24 < s.length) (hn : nameB s = true) : redL s = [s] ∧ redA s = false ∧ redB s = true := by
  unfold redL redA redB
  rw [if_neg h, if_neg h, if_neg h, name_head hn, hn]
  exact ⟨rfl, rfl, rfl⟩

set_option maxHeartbeats 400000 in
theorem PRed_any {s : List UInt8} (w : World) (hs : s.length ≤ 100000) : Calls Try.prog 30 #[st s] w (LRet2 w 9 (redL s) (redA s) (redB s)) := by
  unfold st
  by_cases h : 24 < s.length
  · rw [show redL s = [] from by simp [redL, h], show redA s = false from by simp [redA, h], show redB s = false from by simp [redB, h]]
    have hd : decide ((24 : Int) < (s.length : Int)) = true := by simp; omega
    go_enter Try.func30, Try.ntmps30
    go_wp2_with fail
    go_ret3
    exact LRet2.nil (below_self w)
  have hd : decide ((24 : Int) < (s.length : Int)) = false := by simp; omega
  cases hn : nameB s with
  | true =>
    obtain ⟨e1, e2, e3⟩ := red_name h hn
    rw [e1, e2, e3]
    have HN := hide hn
    clear e1 e2 e3 hn h
    go_enter Try.func30, Try.ntmps30
    go_wp2_with fail
    refine (NRight_b HN.out _ (by omega)).mono ?_
    rintro e w1 ⟨rfl, hbel⟩
    have HB := hide hbel
    clear hbel
    go_wp2_with fail
    go_ret3
    exact ⟨_, _, _, rfl, (Ow.lit w1 9 (f := st) (cs := [.string ⟨s.toArray⟩]) (l := [s]) (n := 1) rfl rfl (by decide)).rebase HB.out.size, below_new HB.out _⟩
  | false =>
    obtain ⟨e1, e2, e3⟩ := red_split h hn
    rw [e1, e2, e3]
    obtain ⟨l, hl⟩ : ∃ l, splitS s = l := ⟨_, rfl⟩
    obtain ⟨b, hb⟩ : ∃ b, splitB s = b := ⟨_, rfl⟩
    rw [hl, hb]
    have HN := hide hn
    have HL := hide hl
    have HBB := hide hb
    clear e1 e2 e3 hn h hl hb
    go_enter Try.func30, Try.ntmps30
    go_wp2_with fail
    refine (NRight_b HN.out _ (by omega)).mono ?_
    rintro e w1 ⟨rfl, hbel⟩
    have HB := hide hbel
    clear hbel
    go_wp2_with fail
    refine (PSplit_any _ hs).mono ?_
    rw [HL.out, HBB.out]
    rintro e w2 ⟨A2, n2, c2, rfl, hown, hbel⟩
    have HO := hide (hown.rebase HB.out.size)
    have HB2 := hide (below_step HB.out hbel)
    clear hown hbel
    go_wp2_with fail
    go_ret3
    exact ⟨_, _, _, rfl, HO.out, HB2.out⟩

theorem PSplit_of {s : List UInt8} {l : List (List UInt8)} {b : Bool} (h1 : splitS s = l) (h2 : splitB s = b) (w : World) (hs : s.length ≤ 100000) : Calls Try.prog 22 #[st s] w (LRet w 9 l b) := by
  have := PSplit_any w hs; rw [h1, h2] at this; exact this
theorem PClean_of {s l : List UInt8} {b : Bool} (h1 : cleanS s = l) (h2 : cleanB s = b) (w : World) (hs : s.length ≤ 100000) : Calls Try.prog 28 #[st s] w (StRet w l b) := by
  have := PClean_any w hs; rw [h1, h2] at this; exact this
theorem PRed_of {s : List UInt8} {l : List (List UInt8)} {a b : Bool} (h1 : redL s = l) (h2 : redA s = a) (h3 : redB s = b) (w : World) (hs : s.length ≤ 100000) : Calls Try.prog 30 #[st s] w (LRet2 w 9 l a b) := by
  have := PRed_any w hs; rw [h1, h2, h3] at this; exact this

set_option maxHeartbeats 800000 in
theorem awake4_any (w : World) : Calls Try.prog 21 #[] w (LawOk w) := by
  go_enter Try.func21, Try.ntmps21
  go_wp2_with fail
  refine (PClean_of (s := [47, 97, 47, 47, 98, 47, 46, 46, 47, 99, 47]) (l := [47, 97, 47, 99]) (b := true) (by decide +kernel) (by decide +kernel) _ (by decide)).mono ?_
  rintro e w1 ⟨rfl, hbel⟩
  have HB1 := hide hbel
  clear hbel
  unfold st
  go_wp2_with fail
  refine (PSplit_of (s := [47, 120, 47, 121]) (l := [[120], [121]]) (b := true) (by decide +kernel) (by decide +kernel) _ (by decide)).mono ?_
  rintro e w2 ⟨A2, n2, c2, rfl, hown, hbel⟩
  obtain rfl : n2 = 2 := hown.len.symm
  have hcap := hown.cap
  have HO2 := hide hown
  have HB2 := hide (below_step HB1.out hbel)
  clear hown hbel
  go_wp2_with fail
  refine (PClean_of (s := [47, 46, 46]) (l := []) (b := false) (by decide +kernel) (by decide +kernel) _ (by decide)).mono ?_
  rintro e w3 ⟨rfl, hbel⟩
  have HO3 := hide (HO2.out.below hbel)
  have HB3 := hide (below_step HB2.out hbel)
  clear hbel
  unfold st
  go_wp2_with fail
  refine (PRed_of (s := [98]) (l := [[98]]) (a := false) (b := true) (by decide +kernel) (by decide +kernel) (by decide +kernel) _ (by decide)).mono ?_
  rintro e w4 ⟨A4, n4, c4, rfl, hown, hbel⟩
  obtain rfl : n4 = 1 := hown.len.symm
  have HO4 := hide (HO3.out.below hbel)
  have HB4 := hide (below_step HB3.out hbel)
  clear hown hbel
  go_wp2_with fail
  refine (EqualS_b (l := [[120], [121]]) (k := [[120], [121]]) (b := true) (by decide +kernel) _ (HO4.out.rd.alloc (Nat.le_refl _) _) (Rd.lit w4 9 (cs := [.string ⟨#[120]⟩, .string ⟨#[121]⟩]) rfl rfl) (by decide)).mono ?_
  rintro e w5 ⟨rfl, hbel⟩
  have HO5 := hide ((HO4.out.alloc _).below hbel)
  have HB5 := hide (below_step (below_new HB4.out _) hbel)
  clear hbel
  go_wp2_with fail
  refine (PJoin_any (l := []) _ (Rd.none_ _ _ _ _) (by decide) (by decide) (by decide)).mono ?_
  rintro e w6 ⟨rfl, hbel⟩
  have HO6 := hide (HO5.out.below hbel)
  have HB6 := hide (below_step HB5.out hbel)
  clear hbel
  rw [show joinS [] = [47] from rfl]
  unfold st
  go_wp2_with fail
  refine (PBegins_b (l := [[120]]) (k := [[120], [121]]) (b := true) (by decide +kernel) _ (HO6.out.rd.pre (i := 1) (by decide)) HO6.out.rd (by decide) hcap).mono ?_
  rintro e w7 ⟨rfl, hbel⟩
  have HB7 := hide (below_step HB6.out hbel)
  clear hbel
  go_wp2_with fail
  go_ret
  exact LawOk.of HB7.out
end Go.Proofs.Ytbdakjepdkmcdaa
