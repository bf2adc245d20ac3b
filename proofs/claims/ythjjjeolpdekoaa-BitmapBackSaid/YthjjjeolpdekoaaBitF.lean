/- bitmap (layer 10): the program's Get. -/
import Derived.Test.YthjjjeolpdekoaaBitE
import Derived.Test.YthjjjeolpdekoaaBytEq
namespace Go.Proofs.Ythjjjeolpdekoaa
open Go.RowKit Plain

/-- make([]T, n) of one cell each. -/
theorem wpList_make_Row {P : Program} (w : World) {ops : Array Oper} {rest : List Oper} {o : Oper} {a : Act} {Q : Exit → Act → World → Prop}
    (hg : o.guard = none) (l c : Operand) (t : TypeId) (hop : o.op = Op.makeSlice t l c) (e : TypeId) (h1 : P.underlying t = some (.slice e)) (z : Value) (hz1 : z.cells = #[z]) (k : Nat)
    (hinfo : (P.info? e).map (fun i => (i.zero, i.size, i.bytes)) = some (some z, 1, k))
    (kl kc : IntKind) (L C : Int) (n : Nat) (hl : a.eval l = .int kl L) (hc : a.eval c = .int kc C) (hL : L = (n : Int)) (hC : C = (n : Int)) (hn : k * n ≤ 140737488355328) (hn2 : n ≤ 140737488355328)
    (hK : ∀ w', RowL w' w.heap.size e (List.replicate n z) → Below w.heap.size w w' → wpList P ops Q rest (a.put o.dst (.slice (some ⟨w.heap.size, 0, none⟩) n n)) w') :
    wpList P ops Q (o :: rest) a w := by
  obtain ⟨i, hi, hz, hsz, hby⟩ := info_parts hinfo
  refine wpList_make_full w hg l c t hop w.heap.size e i z 1 h1 hi hz hsz kl kc L C n hl hc hL hC (by rw [hby]; omega) (by simp only [maxLen]; omega) (Nat.le_refl _) ?_
  intro w' hown hgr
  refine hK w' ?_ ((Below.refl _ _).grown hgr (Nat.le_refl _) (by simp))
  have := RowL.of_made hown
  rw [hz1, toList_madeCells_one, Nat.mul_one] at this
  exact this
/-- The first k bits, and nothing yet behind them. -/
def bitRow (l : List UInt8) (k m : Nat) : List Value := (bitsOf l k).map Value.bool ++ List.replicate (m - k) (.bool false)
theorem bitRow_zero (l : List UInt8) (m : Nat) : bitRow l 0 m = List.replicate m (.bool false) := by simp [bitRow, bitsOf]
theorem bitRow_all (l : List UInt8) (m : Nat) : bitRow l m m = (bitsOf l m).map Value.bool := by simp [bitRow]
theorem bitRow_get (l : List UInt8) {k m : Nat} (h : k < m) : (bitRow l k m)[k]? = some (.bool false) := by
  unfold bitRow
  rw [List.getElem?_append_right (by simp [bitsOf_length]), List.length_map, bitsOf_length, Nat.sub_self, List.getElem?_replicate, if_pos (by omega)]
theorem bitRow_set (l : List UInt8) {k m : Nat} (h : k < m) : (bitRow l k m).set k (.bool (bitB l k)) = bitRow l (k + 1) m := by
  unfold bitRow
  rw [List.set_append_right _ _ (by simp [bitsOf_length]), List.length_map, bitsOf_length, Nat.sub_self, bitsOf_succ, List.map_append, List.append_assoc]
  congr 1
  rw [show m - k = (m - (k + 1)) + 1 by omega, List.replicate_succ]
  rfl
theorem bitRow_rd {w : World} {g e : Nat} {l : List UInt8} {m : Nat} (h : RowL w g e (bitRow l m m)) : Rd Value.bool w w.heap.size (some ⟨g, 0, none⟩) m (bitsOf l m) := by
  rw [bitRow_all] at h
  refine ⟨bitsOf_length _ _, fun _ => ⟨g, 0, rfl, h.lt, fun i x hx => ?_⟩⟩
  rw [Nat.zero_add, h.cell, List.getElem?_map, hx]
  rfl
theorem and_1 (q : Nat) (h : q < 256) : bits .and .u8 (q : Int) 1 = ((q % 2 : Nat) : Int) := by
  show IntKind.u8.wrap ((BitVec.ofInt 8 (q : Int) &&& BitVec.ofInt 8 ((1 : Nat) : Int)).toNat : Int) = _
  rw [BitVec.toNat_and, ofInt8 q h, ofInt8 1 (by omega), Nat.and_one_is_mod]
  simp [IntKind.wrap, IntKind.bits, IntKind.signed]
  omega

set_option maxRecDepth 100000 in
set_option maxHeartbeats 800000 in
theorem GetB_any {A : Option Addr} {n c : Nat} {l : List UInt8} (w : World) (h : Bs w w.heap.size A n l) (hn : n ≤ 140737488355328) (m : Int) :
    Calls Try.prog 35 #[.slice A n c, .int .i64 m] w (GetB w l m) := by
  by_cases h64 : n = 64
  case neg =>
    have HE := hide (bmOk_len (m := m) (by rw [h.1]; exact h64))
    clear h
    have hd3 : ((n : Int) != 64) = true := by simp; omega
    go_enter Try.func35, Try.ntmps35
    go_wp2
    go_ret2
    exact GetB.no HE.out (below_self w)
  subst h64
  by_cases hneg : m < 0
  · have HE := hide (bmOk_neg (l := l) hneg)
    clear h
    have hd : decide (m < 0) = true := by simp; omega
    go_enter Try.func35, Try.ntmps35
    go_wp2
    go_ret2
    exact GetB.no HE.out (below_self w)
  by_cases hbig : 512 < m
  · have HE := hide (bmOk_big (l := l) hbig)
    clear h
    have hd : decide (m < 0) = false := by simp; omega
    go_enter Try.func35, Try.ntmps35
    go_wp2
    go_ret2
    exact GetB.no HE.out (below_self w)
  obtain ⟨m, rfl⟩ := Int.eq_ofNat_of_zero_le (by omega : 0 ≤ m)
  have hm5 : m ≤ 512 := by omega
  obtain ⟨r, hr⟩ : ∃ r, (bmS (bitsOf l m) == l) = r := ⟨_, rfl⟩
  have HE := hide (bmOk_in h.1 hm5)
  rw [hr] at HE
  have HR := hide hr
  have H := hide h
  clear h hneg hbig hr
  have hd : decide ((m : Int) < 0) = false := by simp
  have hd2 : decide (512 < (m : Int)) = false := by simp; omega
  go_enter Try.func35, Try.ntmps35
  go_wp2_with (with_reducible refine wpList_make_Row _ rfl _ _ 56 rfl 4 Try.underlying56 (.bool false) rfl 1 info_bool _ _ _ _ m rfl rfl rfl rfl (by omega) (by omega) ?_; intro w1 hr1 hb1; have HR1 := hide hr1; have HB1 := hide hb1; clear hr1 hb1)
  go_loopw [23] (fun j wr => ∃ k : Nat, k ≤ m ∧ j = .int .i64 k ∧ RowL wr w.heap.size 4 (bitRow l k m) ∧ Below w.heap.size w wr) (fun j _ => m - (intOf j).toNat)
  case atStart => exact ⟨0, by omega, rfl, by rw [bitRow_zero]; exact HR1.out, HB1.out⟩
  case round =>
    obtain ⟨k, hk, rfl, hrow, hbel⟩ := hrel
    have HRW := hide hrow
    have HB := hide hbel
    clear hrow hbel HR1 HB1
    by_cases hlt : k < m
    · have hl : k / 8 < l.length := by rw [H.out.len]; omega
      obtain ⟨b, o, hA, hbl, hd⟩ := H.out.2 (by omega)
      subst hA
      obtain ⟨x, hx⟩ : ∃ x, l[k / 8] = x := ⟨_, rfl⟩
      have hc := hd (k / 8) x (by rw [List.getElem?_eq_getElem hl, hx])
      rw [← HB.out.cell (p := ⟨b, o + k / 8, none⟩) hbl] at hc
      have hc2 : wr.cell? ⟨w.heap.size, k, none⟩ = some (.bool false) := by rw [HRW.out.cell, bitRow_get l hlt]
      have hf := HRW.out.frozen k
      have hx8 := x.toNat_lt
      have hbit : bitB l k = decide (x.toNat / 2 ^ (k % 8) % 2 = 1) := by
        unfold bitB
        simp only [List.getD, List.getElem?_eq_getElem hl, Option.getD_some, hx]
        exact testBit_div _ _
      have hval : (bits BinOp.and IntKind.u8 ((x.toNat : Int) / 2 ^ (k % 8)) 1 == 1) = bitB l k := by
        have hq8 : x.toNat / 2 ^ (k % 8) < 256 := by have := Nat.div_le_self x.toNat (2 ^ (k % 8)); omega
        have e : (x.toNat : Int) / 2 ^ (k % 8) = ((x.toNat / 2 ^ (k % 8) : Nat) : Int) := by simp
        rw [e, and_1 _ hq8, hbit, Bool.eq_iff_iff]
        simp only [beq_iff_eq, decide_eq_true_eq]
        omega
      have HV := hide hval
      clear hx hd hbit hval
      simp only [bv] at hc
      go_wp2
      go_roundw
      case rel => exact ⟨k + 1, by omega, by go_num, by rw [HV.out, ← bitRow_set l hlt]; exact HRW.out.set_ _ _, HB.out.setCell (p := ⟨_, _, none⟩) (Nat.le_refl _) _⟩
      case measure => simp [intOf]; omega
    · obtain rfl : k = m := by omega
      have hrd := bitRow_rd HRW.out
      have HRD := hide hrd
      have hbs := (H.out.below HB.out)
      have HBS := hide hbs
      clear hrd hbs
      cases r
      · go_wp2_with (first
          | (go_at_call 37; (with_reducible refine (PutB_any _ HRD.out (by omega) (by omega)).mono ?_); rintro e w2 ⟨A2, c2, rfl, hown2, hbel2⟩; have HO2 := hide hown2; have HB2 := hide hbel2; clear hown2 hbel2)
          | (go_at_call 16; (with_reducible refine (BEqual_b _ HO2.out.bs (HBS.out.below (HB2.out.mono HB.out.size)) HR.out).mono ?_); rintro e w3 ⟨rfl, rfl⟩))
        go_ret2
        exact GetB.no HE.out (below_step HB.out HB2.out)
      · go_wp2_with (first
          | (go_at_call 37; (with_reducible refine (PutB_any _ HRD.out (by omega) (by omega)).mono ?_); rintro e w2 ⟨A2, c2, rfl, hown2, hbel2⟩; have HO2 := hide hown2; have HB2 := hide hbel2; clear hown2 hbel2)
          | (go_at_call 16; (with_reducible refine (BEqual_b _ HO2.out.bs (HBS.out.below (HB2.out.mono HB.out.size)) HR.out).mono ?_); rintro e w3 ⟨rfl, rfl⟩))
        go_ret2
        exact GetB.yes HE.out (HRD.out.on HB2.out) (Nat.le_refl _) (below_step HB.out HB2.out)
end Go.Proofs.Ythjjjeolpdekoaa
