/- What was put is got (layer 9). -/
import Derived.Test.YthjjjeolpdekoaaAttJ
namespace Go.Proofs.Ythjjjeolpdekoaa
open Go.RowKit Plain

theorem seal_pre {b : List UInt8} (h : b.length ≤ 60) : ∃ t, sealS b = b ++ t := by
  refine ⟨zeros (60 - b.length) ++ nb 4 (ofS (bodyS b)), ?_⟩
  have e : bodyS b = b ++ zeros (60 - b.length) := by
    unfold bodyS splice zeros
    rw [List.take_zero, List.nil_append, List.take_of_length_le h, Nat.zero_add, List.drop_replicate]
  unfold sealS
  rw [e, List.append_assoc]
theorem getR_part {L pre : List UInt8} {s v p : Nat} (h : ∃ post, L = pre ++ (nb s v ++ post)) (hp : pre.length = p) (hs : s = 1 ∨ s = 2 ∨ s = 4) (hv : v < 256 ^ s) : getR L (p : Int) (s : Int) = v := by
  obtain ⟨post, rfl⟩ := h
  have hh : hold (pre ++ (nb s v ++ post)).length (p : Int) (s : Int) = true := by
    have hz : isz (s : Int) = true := by rcases hs with rfl | rfl | rfl <;> rfl
    simp only [hold, hz, Bool.true_and, Bool.and_eq_true, decide_eq_true_eq, List.length_append, nb_length]
    omega
  unfold getR
  rw [if_pos hh]
  unfold getS
  rw [Int.toNat_natCast, Int.toNat_natCast, List.drop_left' hp, List.take_left' (nb_length s v), val_nb _ _ hv]
theorem bodyA_len {x : AttV} (h : x.r.length ≤ 24) : (bodyA x).length = 36 := by
  unfold bodyA
  simp only [List.length_append, nb_length, redS_len h]
theorem told_put {x : AttV} (h : rightA x = true) : toldA (putA x) = x := by
  obtain ⟨⟨hh0, hh1⟩, ⟨ho0, ho1⟩, hrl, ⟨hl0, hl1⟩, ⟨hi0, hi1⟩, ⟨hg0, hg1⟩, ⟨hs0, hs1⟩⟩ := right_okA h
  obtain ⟨t, ht⟩ := seal_pre (b := bodyA x) (by rw [bodyA_len hrl]; omega)
  have e : putA x = bodyA x ++ t := by unfold putA; rw [if_pos h, ht]
  have g2 : getR (putA x) 2 1 = x.r.length := getR_part (p := 2) (s := 1) (pre := nb 1 x.h.toNat ++ nb 1 x.o.toNat) ⟨_, by rw [e]; unfold bodyA; simp only [List.append_assoc]; rfl⟩ (by simp [nb_length]) (by omega) (by omega)
  rw [AttV.ext_iff']
  unfold toldA
  refine ⟨?_, ?_, ?_, ?_, ?_, ?_, ?_⟩
  · have := getR_part (L := putA x) (p := 0) (s := 1) (v := x.h.toNat) (pre := []) ⟨_, by rw [e]; unfold bodyA; simp only [List.append_assoc, List.nil_append]; rfl⟩ rfl (by omega) (by omega)
    show ((getR (putA x) 0 1 : Nat) : Int) = x.h
    have e2 : getR (putA x) 0 1 = x.h.toNat := this
    rw [e2]; omega
  · have e2 : getR (putA x) 1 1 = x.o.toNat := getR_part (p := 1) (s := 1) (pre := nb 1 x.h.toNat) ⟨_, by rw [e]; unfold bodyA; simp only [List.append_assoc]; rfl⟩ (by simp [nb_length]) (by omega) (by omega)
    show ((getR (putA x) 1 1 : Nat) : Int) = x.o
    rw [e2]; omega
  · show redG (putA x) (getR (putA x) 2 1) = x.r
    rw [g2]
    unfold redG
    have e3 : (putA x).drop 3 = x.r ++ (zeros (24 - x.r.length) ++ (nb 1 x.l.toNat ++ (nb 2 x.i.toNat ++ (nb 4 x.g.toNat ++ (nb 2 x.s.toNat ++ t))))) := by
      have e4 : putA x = (nb 1 x.h.toNat ++ nb 1 x.o.toNat ++ nb 1 x.r.length) ++ (x.r ++ (zeros (24 - x.r.length) ++ (nb 1 x.l.toNat ++ (nb 2 x.i.toNat ++ (nb 4 x.g.toNat ++ (nb 2 x.s.toNat ++ t)))))) := by
        rw [e]; unfold bodyA redS; simp only [List.append_assoc]
      rw [e4, List.drop_left' (by simp [nb_length])]
    rw [e3, Nat.min_eq_left hrl, List.take_left' rfl]
  · have e2 : getR (putA x) 27 1 = x.l.toNat := getR_part (p := 27) (s := 1) (pre := nb 1 x.h.toNat ++ nb 1 x.o.toNat ++ nb 1 x.r.length ++ redS x.r) ⟨_, by rw [e]; unfold bodyA; simp only [List.append_assoc]; rfl⟩ (by simp [nb_length, redS_len hrl]) (by omega) (by omega)
    show ((getR (putA x) 27 1 : Nat) : Int) = x.l
    rw [e2]; omega
  · have e2 : getR (putA x) 28 2 = x.i.toNat := getR_part (p := 28) (s := 2) (pre := nb 1 x.h.toNat ++ nb 1 x.o.toNat ++ nb 1 x.r.length ++ redS x.r ++ nb 1 x.l.toNat) ⟨_, by rw [e]; unfold bodyA; simp only [List.append_assoc]; rfl⟩ (by simp [nb_length, redS_len hrl]) (by omega) (by omega)
    show ((getR (putA x) 28 2 : Nat) : Int) = x.i
    rw [e2]; omega
  · have e2 : getR (putA x) 30 4 = x.g.toNat := getR_part (p := 30) (s := 4) (pre := nb 1 x.h.toNat ++ nb 1 x.o.toNat ++ nb 1 x.r.length ++ redS x.r ++ nb 1 x.l.toNat ++ nb 2 x.i.toNat) ⟨_, by rw [e]; unfold bodyA; simp only [List.append_assoc]; rfl⟩ (by simp [nb_length, redS_len hrl]) (by omega) (by omega)
    show ((getR (putA x) 30 4 : Nat) : Int) = x.g
    rw [e2]; omega
  · have e2 : getR (putA x) 34 2 = x.s.toNat := getR_part (p := 34) (s := 2) (pre := nb 1 x.h.toNat ++ nb 1 x.o.toNat ++ nb 1 x.r.length ++ redS x.r ++ nb 1 x.l.toNat ++ nb 2 x.i.toNat ++ nb 4 x.g.toNat) ⟨_, by rw [e]; unfold bodyA; simp only [List.append_assoc]; rfl⟩ (by simp [nb_length, redS_len hrl]) (by omega) (by omega)
    show ((getR (putA x) 34 2 : Nat) : Int) = x.s
    rw [e2]; omega
theorem got_put {x : AttV} (h : rightA x = true) : gotA (putA x) = true ∧ attG (putA x) = x := by
  have h1 : gotA (putA x) = true := by rw [gotA_same, told_put h, h]; simp
  refine ⟨h1, ?_⟩
  unfold attG
  rw [if_pos h1, told_put h]
theorem got_none : gotA [] = false ∧ attG [] = att0 := by
  have h1 : gotA [] = false := gotA_len (by simp)
  exact ⟨h1, by unfold attG; rw [h1]; rfl⟩
theorem put_back {l : List UInt8} (h : gotA l = true) : putA (attG l) = l ∧ errA (attG l) = 0 := by
  have e : attG l = toldA l := by unfold attG; rw [if_pos h]
  rw [e]
  rw [gotA_same, Bool.and_eq_true, beq_iff_eq] at h
  exact ⟨h.2, by unfold errA; rw [if_pos h.1]⟩
end Go.Proofs.Ythjjjeolpdekoaa
