/- Helpers of the law DevSteps: slices.Equal of two that read the same; the words under a step. -/
import Derived.Test.YtnjmddmiebofeaaRefDevK
import Derived.Test.YtnjmddmiebofeaaMemO
import Derived.Test.YtnjmddmiebofeaaShelf
namespace Go.Proofs.Ytnjmddmiebofeaa
open Go.RowKit Plain

theorem RdE.ints {w : World} {D : Nat → Prop} {A : Option Addr} {n : Nat} {l : List Int} (h : RdE Enc.int w D A n l) (hn : 0 < n) : ∃ b o, A = some ⟨b, o, none⟩ ∧ ∀ j, j < l.length → w.cell? ⟨b, o + j, none⟩ = some (.int .i64 (l.getD j 0)) := by
  obtain ⟨b, o, e, -, hc⟩ := h.2 hn
  refine ⟨b, o, e, fun j hj => ?_⟩
  obtain ⟨cs, hR, hcell⟩ := hc j _ (List.getElem?_eq_getElem hj)
  obtain rfl : cs = [.int .i64 l[j]] := hR
  have := hcell 0 _ rfl
  rw [show j * Enc.int.k + 0 = j from by show j * 1 + 0 = j; omega] at this
  rw [this]
  simp [List.getD, List.getElem?_eq_getElem hj]
theorem Ow.rdE {w : World} {base e n c : Nat} {A : Option Addr} {l : List Int} (h : Ow iF w base e A n c l) : RdE Enc.int w (Under w.heap.size) A n l := by
  refine ⟨h.len, fun hn => ?_⟩
  obtain ⟨g, rfl, -, hg, hc, -⟩ := h.at_ hn
  refine ⟨g, 0, rfl, hg, fun i x hx => ⟨[.int .i64 x], rfl, fun j v hv => ?_⟩⟩
  have hj : j = 0 := by have := (List.getElem?_eq_some_iff.1 hv).1; simpa using this
  subst hj
  obtain rfl : Value.int .i64 x = v := by simpa using hv
  rw [show 0 + (i * Enc.int.k + 0) = i from by show 0 + (i * 1 + 0) = i; omega]
  exact hc i x hx
theorem EqI_any {w : World} {D1 D2 : Nat → Prop} {A B : Option Addr} {n m c d : Nat} {l : List Int} (ha : RdE Enc.int w D1 A n l) (hb : RdE Enc.int w D2 B m l) (hn : n ≤ 1000000) :
    Calls Try.prog 16 #[.slice A n c, .slice B m d] w (fun e w' => e = .returned (.bool true) ∧ Below w.heap.size w w') := by
  have h1 := ha.len
  have h2 := hb.len
  obtain rfl : n = m := by omega
  rcases Nat.eq_zero_or_pos n with h0 | h0
  · subst h0
    refine (Try.slices_Equal_int_empty A B c 0 d w (by omega)).mono ?_
    rintro e w' ⟨rfl, rfl⟩
    exact ⟨rfl, below_self _⟩
  · obtain ⟨b1, o1, rfl, hc1⟩ := ha.ints h0
    obtain ⟨b2, o2, rfl, hc2⟩ := hb.ints h0
    refine (Try.slices_Equal_int b1 o1 n c b2 o2 n d l l w (by omega) (by omega) (by omega) (by omega) hc1 hc2).mono ?_
    rintro e w' ⟨rfl, q, rfl⟩
    exact ⟨by simp, below_drewN (below_self w) q⟩
/-- What isn't another's memory stands through a step of the program's disk. -/
theorem Und.far {w : World} {b base : Nat} (h : Und w b) : Far w base b := ⟨h.1, .inr fun hd => by
  obtain ⟨arr, t, fr, h1, h2⟩ := hd
  have := h.2 arr t fr h1
  rcases h2 with rfl | rfl | rfl <;> cases this⟩
theorem DFr.und {α : Type} {E : Enc α} {base n : Nat} {w w' : World} {A : Option Addr} {l : List α} (h : DFr base w w') (hr : RdE E w (Und w) A n l) : RdE E w' (Und w') A n l :=
  hr.mono (fun b hb => h.block b hb.far) fun b hb => hb.eq h.size (h.block b hb.far)
theorem DFr.row {base g t : Nat} {w w' : World} {cs : List Value} (h : DFr base w w') (hr : RowL w g t cs) (h1 : t ≠ 76) (h2 : t ≠ 79) (h3 : t ≠ 90) : RowL w' g t cs := (h.block g (far_row hr h1 h2 h3)).trans hr
theorem row_on {w w' : World} {g t : Nat} {cs : List Value} (h : RowL w g t cs) (hb : Below w.heap.size w w') : RowL w' g t cs := (hb.block g h.lt).trans h
theorem step_len (s : DSt) (t : StepV) : (stepD s t).safe.length = s.safe.length := by
  unfold stepD
  split
  · split
    · rfl
    · split
      · rfl
      · split
        · rfl
        · rfl
  · split
    · split
      · rfl
      · exact flushTo_len _ _ _
    · split
      · rfl
      · split
        · exact crashTo_len _ _ _ _
        · rfl
theorem last_read {s : DSt} {k : Nat} (h : DOkB s k) : s.last = readS s.safe s.wait := by
  rw [h.last]
  apply List.ext_getElem?
  intro i
  unfold readS
  by_cases hi : i < s.safe.length
  · rw [flushTo_get hi (fun p hp => ⟨(h.at_ p hp).1, (h.at_ p hp).2.1⟩) _ (Nat.le_refl _), List.take_of_length_le (Nat.le_refl _), List.getElem?_map, List.getElem?_range hi]
    rfl
  · rw [List.getElem?_eq_none (by rw [flushTo_len]; omega), List.getElem?_eq_none (by simp; omega)]
/-- A row's own cells, six of them, stored. -/
theorem set6 {w : World} {g t : Nat} {a0 a1 a2 a3 a4 a5 b0 b1 b2 b3 b4 b5 : Value} (h : RowL w g t [a0, a1, a2, a3, a4, a5]) : RowL ((((((w.setCell ⟨g, 0, none⟩ b0).setCell ⟨g, 1, none⟩ b1).setCell ⟨g, 2, none⟩ b2).setCell ⟨g, 3, none⟩ b3).setCell ⟨g, 4, none⟩ b4).setCell ⟨g, 5, none⟩ b5) g t [b0, b1, b2, b3, b4, b5] := (((((h.set_ 0 _).set_ 1 _).set_ 2 _).set_ 3 _).set_ 4 _).set_ 5 _
theorem grown_on {w w1 w2 : World} {g : Nat} (h : w.grownBy w1 (some g)) (k : w1.grownBy w2 (some g)) : w.grownBy w2 (some g) :=
  ⟨k.os.trans h.os, k.tape.trans h.tape, k.output.trans h.output, Nat.le_trans h.size k.size, fun b hb hne => (k.block b (Nat.lt_of_lt_of_le hb h.size) hne).trans (h.block b hb hne)⟩
theorem grown6 {w : World} {g : Nat} {b0 b1 b2 b3 b4 b5 : Value} : w.grownBy ((((((w.setCell ⟨g, 0, none⟩ b0).setCell ⟨g, 1, none⟩ b1).setCell ⟨g, 2, none⟩ b2).setCell ⟨g, 3, none⟩ b3).setCell ⟨g, 4, none⟩ b4).setCell ⟨g, 5, none⟩ b5) (some g) :=
  grown_on (grown_on (grown_on (grown_on (grown_on (grown_set _ _ _ _) (grown_set _ _ _ _)) (grown_set _ _ _ _)) (grown_set _ _ _ _)) (grown_set _ _ _ _)) (grown_set _ _ _ _)
theorem DK.past {w w' : World} {base dp g t : Nat} {s : DSt} {k : List Value} (h : DK w base dp s) (hr : RowL w g t k) (h1 : t ≠ 76) (h2 : t ≠ 79) (h3 : t ≠ 90) (hg : w.grownBy w' (some g)) : DK w' base dp s := by
  obtain ⟨gs, cs, gl, cl, A, c, e1, e2, e3, e4, e5, e6⟩ := h
  have hk : ∀ g' t' k', RowL w g' t' k' → t' ≠ t → w'.heap[g']? = w.heap[g']? := fun g' t' k' hgr ht => hg.block g' hgr.lt (fun e => by cases e; exact RowL.ne hgr hr ht rfl)
  refine ⟨gs, cs, gl, cl, A, c, e1, e2, (hk dp _ _ e3 (Ne.symm h2)).trans e3, e4.keep ?_, e5.keep ?_, ownsRow_keep e6 fun g' k' hgr => hk g' _ k' hgr (Ne.symm h3)⟩
  · obtain ⟨_, _, _, _, _, k', hgr, _⟩ := e4
    exact hk gs _ k' hgr (Ne.symm h1)
  · obtain ⟨_, _, _, _, _, k', hgr, _⟩ := e5
    exact hk gl _ k' hgr (Ne.symm h1)
theorem RdE.past {α : Type} {E : Enc α} {w w' : World} {g t n : Nat} {cs : List Value} {A : Option Addr} {l : List α} (h : RdE E w (Und w) A n l) (hr : RowL w g t cs) (ht : Tags.bad t = true) (hg : w.grownBy w' (some g)) : RdE E w' (Und w') A n l := by
  have hne : ∀ b, Und w b → b ≠ g := fun b hb e => by
    subst e
    have := hb.2 _ _ _ hr
    rw [ht] at this
    cases this
  exact h.mono (fun b hb => hg.block b hb.1 (fun e => hne b hb (by cases e; rfl))) fun b hb => hb.eq hg.size (hg.block b hb.1 (fun e => hne b hb (by cases e; rfl)))
theorem Bs.past6 {w w' : World} {g n : Nat} {A : Option Addr} {l : List UInt8} (h : Bs w w.heap.size A n l) (hno : NoByte w g) (hg : w.grownBy w' (some g)) : Bs w' w'.heap.size A n l :=
  (h.off hno (fun b hb => hg.block b hb.1 (fun e => hb.2 (by cases e; rfl)))).more hg.size
theorem EqB_same {w : World} {W1 W2 : Nat} {A B : Option Addr} {n m c d : Nat} {l : List UInt8} (ha : Bs w W1 A n l) (hb : Bs w W2 B m l) : Calls Try.prog 12 #[.slice A n c, .slice B m d] w (fun e w' => e = .returned (.bool true) ∧ w = w') := by
  refine (Equal_any w ha hb).mono ?_
  rintro e w' ⟨rfl, rfl⟩
  exact ⟨by simp, rfl⟩
theorem DFlushes_dk {w : World} {base dp : Nat} {s : DSt} {k : Int} (h : DK w base dp s) (hk : s.fl = k) : Calls Try.prog 15 #[dptr dp] w (fun e w' => e = .returned (.int .i64 k) ∧ w = w') := by
  obtain ⟨gs, cs, gl, cl, A, c, hne, hbd, hr, hs, hl, hw⟩ := h
  subst hk
  exact DFlushes_any hr
end Go.Proofs.Ytnjmddmiebofeaa
