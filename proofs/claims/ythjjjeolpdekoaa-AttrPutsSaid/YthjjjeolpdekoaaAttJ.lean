/- The reference's Get (layer 9). -/
import Derived.Test.YthjjjeolpdekoaaAttI
import Derived.Test.YthjjjeolpdekoaaAttF
import Derived.Test.YthjjjeolpdekoaaSumE
import Derived.Test.YthjjjeolpdekoaaSumF
import Derived.BigRegion
namespace Go.Proofs.Ythjjjeolpdekoaa
open Go.RowKit Plain

theorem getR_at {l : List UInt8} {j : Nat} {b : UInt8} (h : l[j]? = some b) : getR l j 1 = b.toNat := by
  have hj := (List.getElem?_eq_some_iff.1 h).1
  have hh : hold l.length j 1 = true := by simp [hold, isz]; omega
  unfold getR
  rw [if_pos hh]
  unfold getS
  simp only [Int.toNat_natCast]
  rw [List.drop_eq_getElem_cons hj]
  have e : l[j] = b := by rw [List.getElem?_eq_getElem hj] at h; exact Option.some.inj h
  rw [e]
  rfl
theorem u8_int (b : UInt8) : IntKind.i64.wrap ((b.toNat : Nat) : Int) = (b.toNat : Int) := by
  have := b.toNat_lt
  exact IntWalk.i64_in _ (by omega)
theorem gotA_len {l : List UInt8} (h : l.length ≠ 64) : gotA l = false := by
  unfold gotA
  have : (l == sealS l) = false := by
    rw [beq_eq_false_iff_ne]
    intro e
    apply h
    rw [e, sealS_length]
  rw [this]
  rfl
theorem seal_at {b : List UInt8} {j : Nat} (hj : j < 60) (hl : j < b.length) : (sealS b)[j]? = some b[j] := by
  have h1 : (bodyS b).length = 60 := bodyS_length b
  unfold sealS
  rw [List.getElem?_append_left (by omega)]
  unfold bodyS
  rw [splice_get _ _ _ _ (by rw [zeros_length, List.length_take]; omega), if_neg (by omega), if_pos (by rw [List.length_take]; omega), List.getElem?_take_of_lt (by omega), Nat.sub_zero, List.getElem?_eq_getElem hl]
/-- The third byte of right ones' block is how long the redirect is. -/
theorem put_long {x : AttV} (h : rightA x = true) : (putA x)[2]? = some (UInt8.ofNat x.r.length) := by
  have hok := right_okA h
  have hl : 2 < (bodyA x).length := by unfold bodyA; simp only [List.length_append, nb_length]; omega
  unfold putA
  rw [if_pos h, seal_at (by omega) hl]
  rw [← List.getElem?_eq_getElem hl]
  unfold bodyA
  obtain ⟨⟨hh0, hh1⟩, ⟨ho0, ho1⟩, hrl, _⟩ := hok
  rw [nb_one (n := x.h.toNat) (by omega), nb_one (n := x.o.toNat) (by omega), nb_one (n := x.r.length) (by omega)]
  rfl
theorem gotA_long {l : List UInt8} {b : UInt8} (hb : l[2]? = some b) (h : 24 < b.toNat) : gotA l = false := by
  cases hg : gotA l with
  | false => rfl
  | true =>
    unfold gotA at hg
    rw [Bool.and_eq_true, Bool.and_eq_true, beq_iff_eq, beq_iff_eq] at hg
    obtain ⟨-, hr, hp⟩ := hg
    have e := put_long hr
    have hrl := (right_okA hr).2.2.1
    rw [hp, hb] at e
    have e := Option.some.inj e
    rw [e] at h
    simp at h
    omega
/-- Whether the bytes are sealed goes without saying. -/
theorem gotA_same (l : List UInt8) : gotA l = (rightA (toldA l) && (putA (toldA l) == l)) := by
  unfold gotA
  cases hr : rightA (toldA l) with
  | false => rw [Bool.false_and, Bool.and_false]
  | true =>
    cases hp : putA (toldA l) == l with
    | false => rw [Bool.and_false, Bool.and_false]
    | true =>
      have e : sealS l = l := by
        rw [beq_iff_eq] at hp
        rw [← hp]
        unfold putA
        rw [if_pos hr, sealS_sealS]
      rw [e]
      simp
theorem att_zero : ∀ w, (zeroValue 48).run Try.prog w = .ok (.agg #[.int .i64 0, .int .i64 0, .string ⟨#[]⟩, .int .i64 0, .int .i64 0, .int .i64 0, .int .i64 0]) w := fun w => by kernel_rfl
theorem wp_allocC {P : Program} {w : World} {o : Oper} {a : Act} {K : Act → World → Prop} {Q : Exit → Act → World → Prop} (T : Nat) (ho : o.op = .alloc T) (z : Value) (hz : ∀ w, (zeroValue T).run P w = .ok z w)
    (hK : ∀ w', RowL w' w.heap.size T z.cells.toList → Below w.heap.size w w' → w'.heap.size = w.heap.size + 1 → K (a.put o.dst (.pointer (some ⟨w.heap.size, 0, none⟩))) w') : o.wp P a w K Q := by
  unfold Oper.wp execOp
  simp only [ho, Sem.run_bind, Sem.run_pure, Result.andThen_ok, Instr.alloc, hz, newVar, newRow]
  simp
  exact hK _ (by have := RowL.new w T z.cells.toList; simpa using this) (below_new (below_self w) _) (by simp)
theorem execOp_conv {P : Program} {ρ : Operand → Value} {o : Oper} {s d : TypeId} {x : Operand} {u v : Value} {w : World} (ho : o.op = .convert s d x) (hx : ρ x = u) (h : (convert s d u).run P w = .ok v w) : (execOp ρ o).run P w = .ok (.value v) w := by
  unfold execOp
  simp only [ho, Sem.run_bind, Sem.run_pure, Result.andThen_ok, hx, h]
set_option maxRecDepth 100000 in
set_option maxHeartbeats 3200000 in
theorem RAGet_any {A : Option Addr} {m c : Nat} {l : List UInt8} (w : World) (ha : Bs w w.heap.size A m l) (hmc : m ≤ c) (hm : m ≤ 100000) : Calls Try.prog 29 #[.slice A m c] w (ARet w (attG l) (gotA l)) := by
  obtain ⟨hr1, hb, hsz⟩ := rows1 w [.int .i64 0, .int .i64 0, .string ⟨#[]⟩, .int .i64 0, .int .i64 0, .int .i64 0, .int .i64 0] 48
  have HA := hide ((ha.below hb).more hb.size)
  have HR1 := hide hr1
  have HB := hide hb
  have hg1 : w.heap.size < (w.alloc (.cells #[.int .i64 0, .int .i64 0, .string ⟨#[]⟩, .int .i64 0, .int .i64 0, .int .i64 0, .int .i64 0] 48)).heap.size := HR1.out.lt
  have hlen := ha.len
  obtain ⟨ok, hok⟩ : ∃ ok, gotA l = ok := ⟨_, rfl⟩
  obtain ⟨y, hy⟩ : ∃ y, attG l = y := ⟨_, rfl⟩
  have hgi : y = if ok = true then toldA l else att0 := by rw [← hy]; unfold attG; rw [hok]
  rw [hok, hy]
  have HOK := hide hok
  have HGI := hide hgi
  clear hr1 hb hsz ha hok hy hgi
  by_cases h64 : m = 64
  rotate_left
  · obtain rfl : ok = false := by rw [← HOK.out]; exact gotA_len (by rw [hlen]; exact h64)
    obtain rfl : y = att0 := HGI.out
    have hd : ((m : Int) != 64) = true := by simp; omega
    clear hlen
    go_enter Try.func29, Try.ntmps29
    go_wp2_with ((with_reducible refine wpList_storeW rfl 48 (.tmp 2) (.tmp 15) rfl 7 att_size w.heap.size 48 rfl [.int .i64 0, .int .i64 0, .string ⟨#[]⟩, .int .i64 0, .int .i64 0, .int .i64 0, .int .i64 0] [.int .i64 0, .int .i64 0, .string ⟨#[]⟩, .int .i64 0, .int .i64 0, .int .i64 0, .int .i64 0] rfl HR1.out rfl rfl (by simp [Value.oneCell']) ?_); intro w9 hr9 hg9 hs9; have HR9 := hide hr9; have HB9 := hide (HB.out.grown hg9 HB.out.size (fun g hg => by have := Option.some.inj hg; omega)); clear hr9 hg9 hs9)
    exact bodyPost_ret (res_cell2 Try.results29 rfl rfl att_agg att_size HR9.out rfl) rfl ⟨rfl, HB9.out⟩
  subst h64
  obtain ⟨b0, hb0⟩ : ∃ b, l[0]? = some b := ⟨_, List.getElem?_eq_getElem (by omega)⟩
  obtain ⟨b1, hb1⟩ : ∃ b, l[1]? = some b := ⟨_, List.getElem?_eq_getElem (by omega)⟩
  obtain ⟨b2, hb2⟩ : ∃ b, l[2]? = some b := ⟨_, List.getElem?_eq_getElem (by omega)⟩
  obtain ⟨bb, oo, hA, hbb, hcell⟩ := HA.out.2 (by omega)
  subst hA
  have k0 : (w.alloc (.cells #[.int .i64 0, .int .i64 0, .string ⟨#[]⟩, .int .i64 0, .int .i64 0, .int .i64 0, .int .i64 0] 48)).cell? ⟨bb, oo, none⟩ = some (.int .u8 b0.toNat) := hcell 0 b0 hb0
  have k1 : (w.alloc (.cells #[.int .i64 0, .int .i64 0, .string ⟨#[]⟩, .int .i64 0, .int .i64 0, .int .i64 0, .int .i64 0] 48)).cell? ⟨bb, oo + 1, none⟩ = some (.int .u8 b1.toNat) := hcell 1 b1 hb1
  have k2 : (w.alloc (.cells #[.int .i64 0, .int .i64 0, .string ⟨#[]⟩, .int .i64 0, .int .i64 0, .int .i64 0, .int .i64 0] 48)).cell? ⟨bb, oo + 2, none⟩ = some (.int .u8 b2.toNat) := hcell 2 b2 hb2
  have i0 := u8_int b0
  have i1 := u8_int b1
  have i2 := u8_int b2
  have G0 := hide (getR_at hb0)
  have G1 := hide (getR_at hb1)
  have G2 := hide (getR_at hb2)
  have HL2 := hide hb2
  have HLEN := hide hlen
  have h256 := b2.toNat_lt
  clear hb0 hb1 hb2 hcell hlen
  by_cases hlong : 24 < b2.toNat
  · obtain rfl : ok = false := by rw [← HOK.out]; exact gotA_long HL2.out hlong
    obtain rfl : y = att0 := HGI.out
    have hd : decide ((24 : Int) < (b2.toNat : Int)) = true := by simp; omega
    go_enter Try.func29, Try.ntmps29
    go_wp2_with ((with_reducible refine wpList_storeW rfl 48 (.tmp 2) (.tmp 15) rfl 7 att_size w.heap.size 48 rfl [.int .i64 0, .int .i64 0, .string ⟨#[]⟩, .int .i64 0, .int .i64 0, .int .i64 0, .int .i64 0] [.int .i64 0, .int .i64 0, .string ⟨#[]⟩, .int .i64 0, .int .i64 0, .int .i64 0, .int .i64 0] rfl HR1.out rfl rfl (by simp [Value.oneCell']) ?_); intro w9 hr9 hg9 hs9; have HR9 := hide hr9; have HB9 := hide (HB.out.grown hg9 HB.out.size (fun g hg => by have := Option.some.inj hg; omega)); clear hr9 hg9 hs9)
    exact bodyPost_ret (res_cell2 Try.results29 rfl rfl att_agg att_size HR9.out rfl) rfl ⟨rfl, HB9.out⟩
  have hd : decide ((24 : Int) < (b2.toNat : Int)) = false := by simp; omega
  go_enter Try.func29, Try.ntmps29
  go_wp2_with fail
  generalize hW : (w.alloc (.cells #[.int .i64 0, .int .i64 0, .string ⟨#[]⟩, .int .i64 0, .int .i64 0, .int .i64 0, .int .i64 0] 48)) = w1 at *
  obtain ⟨r, hr⟩ : ∃ r, redG l b2.toNat = r := ⟨_, rfl⟩
  have hc3 : ¬ c = 3 := by omega
  have HSL : Hid (Bs w1 w1.heap.size (some ⟨bb, oo + 3, none⟩) b2.toNat r) := hide (by
    have h1 := HA.out.suf (i := 3) (c := c) (o' := oo + 3) (by omega) (by omega) rfl
    rw [if_neg hc3] at h1
    have h2 := h1.pre (i := b2.toNat) (by omega)
    rw [← hr]
    unfold redG
    rw [Nat.min_eq_left (by omega)]
    exact h2)
  have HRR := hide hr
  have hlo : IntKind.i64.wrap ((3 : Int) + (b2.toNat : Int)) = 3 + (b2.toNat : Int) := IntWalk.i64_in _ (by omega)
  have hlo2 : ((3 : Int) + (b2.toNat : Int)).toNat = 3 + b2.toNat := by omega
  have hlo3 : (3 : Int) + (b2.toNat : Int) ≤ (c : Int) := by omega
  have hlo5 : (3 : Int) ≤ (3 : Int) + (b2.toNat : Int) := by omega
  have hlo4 : (0 : Int) ≤ (3 : Int) + (b2.toNat : Int) := by omega
  clear hr hW
  refine wp_region_G (fun w' => ((w'.cell? ⟨bb, oo, none⟩ = some (.int .u8 b0.toNat) ∧ w'.cell? ⟨bb, oo + 1, none⟩ = some (.int .u8 b1.toNat)) ∧ w'.cell? ⟨bb, oo + 2, none⟩ = some (.int .u8 b2.toNat)) ∧ Below w1.heap.size w1 w') (.take 0 (.take 4 (.take 8 (.take 9 (.take 1 (.take 2 (.take 3 (.take 5 (.take 6 (.take 7 (.take 10 (.take 11 (.take 12 (.take 13 (.take 14 (.take 15 (.take 16 (.alt 17 (.alt 18 .leaf .stop) .stop)))))))))))))))))) (by kernel_rfl) (by kernel_rfl) (by kernel_rfl) (by kernel_rfl) rfl (fun _ _ _ _ _ h => h) ⟨⟨⟨k0, k1⟩, k2⟩, below_drew (below_self w1)⟩ (fun hHeld => ?_)
  simp only [PT.map, List.getElem?_toArray, List.getElem?_cons_succ, List.getElem?_cons_zero]
  refine wpPT_take (v := ?_) (by kernel_rfl) (fun wS hSw => ?_) ?_
  rotate_left
  · (try dsimp only at hSw); go_simp; (try with_reducible rfl)
  (try simp only [Act.put, List.setIfInBounds_toArray, List.set_cons_zero, List.set_cons_succ])
  refine wpPT_take (v := ?_) (by kernel_rfl) (fun wS hSw => ?_) ?_
  rotate_left
  · (try dsimp only at hSw); go_simp; (try with_reducible rfl)
  (try simp only [Act.put, List.setIfInBounds_toArray, List.set_cons_zero, List.set_cons_succ])
  refine wpPT_take (v := ?_) (by kernel_rfl) (fun wS hSw => ?_) ?_
  rotate_left
  · (try dsimp only at hSw); go_simp; (try with_reducible rfl)
  (try simp only [Act.put, List.setIfInBounds_toArray, List.set_cons_zero, List.set_cons_succ])
  refine wpPT_take (v := ?_) (by kernel_rfl) (fun wS hSw => ?_) ?_
  rotate_left
  · (try dsimp only at hSw); go_simp; (try with_reducible rfl)
  (try simp only [Act.put, List.setIfInBounds_toArray, List.set_cons_zero, List.set_cons_succ])
  refine wpPT_take (v := ?_) (by kernel_rfl) (fun wS hSw => ?_) ?_
  rotate_left
  · (try dsimp only at hSw); go_simp; (try with_reducible rfl)
  (try simp only [Act.put, List.setIfInBounds_toArray, List.set_cons_zero, List.set_cons_succ])
  refine wpPT_take (v := ?_) (by kernel_rfl) (fun wS hSw => ?_) ?_
  rotate_left
  · (try dsimp only at hSw); go_simp; (try with_reducible rfl)
  (try simp only [Act.put, List.setIfInBounds_toArray, List.set_cons_zero, List.set_cons_succ])
  refine wpPT_take (v := ?_) (by kernel_rfl) (fun wS hSw => ?_) ?_
  rotate_left
  · (try dsimp only at hSw); go_simp; (try with_reducible rfl)
  (try simp only [Act.put, List.setIfInBounds_toArray, List.set_cons_zero, List.set_cons_succ])
  refine wpPT_take (v := ?_) (by kernel_rfl) (fun wS hSw => ?_) ?_
  rotate_left
  · (try dsimp only at hSw); go_simp; (try with_reducible rfl)
  (try simp only [Act.put, List.setIfInBounds_toArray, List.set_cons_zero, List.set_cons_succ])
  refine wpPT_take (v := ?_) (by kernel_rfl) (fun wS hSw => ?_) ?_
  rotate_left
  · (try dsimp only at hSw); go_simp; (try with_reducible rfl)
  (try simp only [Act.put, List.setIfInBounds_toArray, List.set_cons_zero, List.set_cons_succ])
  refine wpPT_take (v := ?_) (by kernel_rfl) (fun wS hSw => ?_) ?_
  rotate_left
  · (try dsimp only at hSw); go_simp; (try with_reducible rfl)
  (try simp only [Act.put, List.setIfInBounds_toArray, List.set_cons_zero, List.set_cons_succ])
  refine wpPT_take (v := ?_) (by kernel_rfl) (fun wS hSw => ?_) ?_
  rotate_left
  · (try dsimp only at hSw); go_simp; (try with_reducible rfl)
  (try simp only [Act.put, List.setIfInBounds_toArray, List.set_cons_zero, List.set_cons_succ])
  refine wpPT_take (v := ?_) (by kernel_rfl) (fun wS hSw => ?_) ?_
  rotate_left
  · (try dsimp only at hSw); go_simp; (try with_reducible rfl)
  (try simp only [Act.put, List.setIfInBounds_toArray, List.set_cons_zero, List.set_cons_succ])
  refine wpPT_take (v := ?_) (by kernel_rfl) (fun wS hSw => ?_) ?_
  rotate_left
  · (try dsimp only at hSw); go_simp; (try with_reducible rfl)
  (try simp only [Act.put, List.setIfInBounds_toArray, List.set_cons_zero, List.set_cons_succ])
  refine wpPT_take (v := ?_) (by kernel_rfl) (fun wS hSw => ?_) ?_
  rotate_left
  · (try dsimp only at hSw); go_simp; (try with_reducible rfl)
  (try simp only [Act.put, List.setIfInBounds_toArray, List.set_cons_zero, List.set_cons_succ])
  refine wpPT_take (v := ?_) (by kernel_rfl) (fun wS hSw => ?_) ?_
  rotate_left
  · (try dsimp only at hSw); go_simp; (try with_reducible rfl)
  (try simp only [Act.put, List.setIfInBounds_toArray, List.set_cons_zero, List.set_cons_succ])
  refine wpPT_take (v := ?_) (by kernel_rfl) (fun wS hSw => ?_) ?_
  rotate_left
  · refine execOp_conv (x := .tmp 30) (s := 24) (d := 9) (u := .slice (some ⟨bb, oo + 3, none⟩) b2.toNat (c - 3)) (v := .string ⟨r.toArray⟩) ?_ ?_ (run_string_Bs (P := Try.prog) wS 24 5 9 Try.underlying24 Try.underlying5 Try.underlying9 (c := c - 3) (HSL.out.below hSw.2)) <;> rfl
  (try simp only [Act.put, List.setIfInBounds_toArray, List.set_cons_zero, List.set_cons_succ])
  refine wpPT_take (v := ?_) (by kernel_rfl) (fun wS hSw => ?_) ?_
  rotate_left
  · (try dsimp only at hSw); go_simp; (try with_reducible rfl)
  (try simp only [Act.put, List.setIfInBounds_toArray, List.set_cons_zero, List.set_cons_succ])
  refine wpPT_alt (by kernel_rfl) (fun K hK => ?_) ?_
  rotate_left
  · exact wpPT_stop
  have hOld := hide hHeld
  clear hHeld
  have hbo : bb < w1.heap.size := hbb
  refine wp_allocC 48 ?_ (.agg #[.int .i64 0, .int .i64 0, .string ⟨#[]⟩, .int .i64 0, .int .i64 0, .int .i64 0, .int .i64 0]) att_zero ?_
  · rfl
  intro w4 hr4 hb4 hs4
  have hb' := hb4.mono (B' := w1.heap.size) (Nat.le_refl _)
  clear hb4 hs4
  generalize hgx : w1.drew.heap.size = gx at *
  have HGX : Hid (w1.heap.size = gx) := hide hgx
  clear hgx
  have HR4 := hide hr4
  clear hr4
  refine hK.out _ _ (⟨⟨⟨(hb'.cell (p := ⟨bb, oo, none⟩) hbo).trans hOld.out.1.1.1, (hb'.cell (p := ⟨bb, oo + 1, none⟩) hbo).trans hOld.out.1.1.2⟩, (hb'.cell (p := ⟨bb, oo + 2, none⟩) hbo).trans hOld.out.1.2⟩, hOld.out.2.trans hb'⟩) (fun hHeld => ?_)
  clear hK K
  (try simp only [Act.put, List.setIfInBounds_toArray, List.set_cons_zero, List.set_cons_succ])
  refine wpPT_alt (by kernel_rfl) (fun K hK => ?_) ?_
  rotate_left
  · exact wpPT_stop
  have hOld := hide hHeld
  clear hHeld
  refine wp_storeC 48 (.tmp 4) (.tmp 32) ?_ 7 att_size gx 0 48 ?_ [.int .i64 0, .int .i64 0, .string ⟨#[]⟩, .int .i64 0, .int .i64 0, .int .i64 0, .int .i64 0] [.int .i64 b0.toNat, .int .i64 b1.toNat, .string ⟨r.toArray⟩, .int .i64 0, .int .i64 0, .int .i64 0, .int .i64 0] ?_ HR4.out rfl (by simp) (by simp [Value.oneCell']) ?_
  · rfl
  · rfl
  · rfl
  intro w5 hr5 hg5 hs5
  have hb' : Below w1.heap.size w4 w5 := (Below.refl _ _).grown hg5 hOld.out.2.size (fun g hg => Nat.le_of_eq (HGX.out.trans (Option.some.inj hg)))
  have HR5 : Hid (RowL w5 gx 48 [.int .i64 b0.toNat, .int .i64 b1.toNat, .string ⟨r.toArray⟩, .int .i64 0, .int .i64 0, .int .i64 0, .int .i64 0]) := hide hr5
  clear hr5 hg5
  refine hK.out _ _ (⟨⟨⟨(hb'.cell (p := ⟨bb, oo, none⟩) hbo).trans hOld.out.1.1.1, (hb'.cell (p := ⟨bb, oo + 1, none⟩) hbo).trans hOld.out.1.1.2⟩, (hb'.cell (p := ⟨bb, oo + 2, none⟩) hbo).trans hOld.out.1.2⟩, hOld.out.2.trans hb'⟩) (fun hHeld => ?_)
  clear hK K
  simp only [Act.put]
  refine wpPT_leaf ?_
  skip
  obtain ⟨b27, hb27⟩ : ∃ b, l[27]? = some b := ⟨_, List.getElem?_eq_getElem (by rw [HLEN.out]; omega)⟩
  have hAr := HA.out.below hHeld.2
  rw [HGX.out] at hAr
  have k27 : w5.cell? ⟨bb, oo + 27, none⟩ = some (.int .u8 b27.toNat) := by
    obtain ⟨_, _, e, _, hc⟩ := hAr.2 (by omega)
    cases e
    exact hc 27 b27 hb27
  have i27 := u8_int b27
  have G27 := hide (getR_at hb27)
  have hgw : w.heap.size < gx := by rw [← HGX.out]; exact hg1
  have HBr := hide (HB.out.trans (hHeld.2.mono HB.out.size))
  have HZr := hide (HR1.out.on hHeld.2)
  have HAr := hide hAr
  clear hHeld hAr HA HB HR1 k0 k1 k2 hb27 HSL hlo hlo2 hlo3 hlo4 hlo5 hg1
  have HA := HAr
  have HB := HBr
  have HZ := HZr
  clear HAr HBr HZr
  obtain ⟨x, hx⟩ : ∃ x, toldA l = x := ⟨_, rfl⟩
  have e0 : (b0.toNat : Int) = x.h := by rw [← hx]; exact (congrArg Int.ofNat G0.out).symm
  have e1 : (b1.toNat : Int) = x.o := by rw [← hx]; exact (congrArg Int.ofNat G1.out).symm
  have e2 : r = x.r := by rw [← hx, ← HRR.out, ← G2.out]; rfl
  have e3 : (b27.toNat : Int) = x.l := by rw [← hx]; exact (congrArg Int.ofNat G27.out).symm
  have E4 : Hid (((getR l 28 2 : Nat) : Int) = x.i) := hide (by rw [← hx]; rfl)
  have E5 : Hid (((getR l 30 4 : Nat) : Int) = x.g) := hide (by rw [← hx]; rfl)
  have E6 : Hid (((getR l 34 2 : Nat) : Int) = x.s) := hide (by rw [← hx]; rfl)
  have hR5 := HR5.out
  rw [e0, e1, e2] at hR5
  have HR := hide hR5
  have HX := hide hx
  have E3 := hide e3
  rw [e3] at k27 i27
  have hx0 : 0 ≤ x.l := by rw [← e3]; omega
  have hx1 : x.l < 256 := by have := b27.toNat_lt; rw [← e3]; omega
  clear hR5 HR5 e0 e1 e2 e3 hx HRR G0 G1 G2 G27
  go_wp2_with ((with_reducible refine wpList_storeV rfl 3 (.tmp 38) (.tmp 36) rfl int_size1 gx 3 48 rfl (.int .i64 x.l) rfl rfl rfl _ HR.out (by simp) ?_); intro w' hr hg hs; have HA' := hide (HA.out.grown hg (Nat.le_of_lt HR.out.lt) (fun g hg => Nat.le_of_eq (Option.some.inj hg))); have HB' := hide (HB.out.grown hg HB.out.size (fun g hg => by have := Option.some.inj hg; omega)); have HZ' := hide (HZ.out.grown hg (by intro e; have := Option.some.inj e; omega)); clear HR HB HZ HA; have HR := hide hr; have HB := HB'; have HZ := HZ'; have HA := HA'; clear hr hg hs HB' HZ' HA')
  refine (RGet_any (p := 28) (s := 2) _ HA.out (by omega)).mono ?_
  rintro e w' ⟨rfl, rfl⟩
  rw [E4.out]
  go_wp2_with ((with_reducible refine wpList_storeV rfl 3 (.tmp 45) (.tmp 42) rfl int_size1 gx 4 48 rfl (.int .i64 x.i) rfl rfl rfl _ HR.out (by simp) ?_); intro w' hr hg hs; have HA' := hide (HA.out.grown hg (Nat.le_of_lt HR.out.lt) (fun g hg => Nat.le_of_eq (Option.some.inj hg))); have HB' := hide (HB.out.grown hg HB.out.size (fun g hg => by have := Option.some.inj hg; omega)); have HZ' := hide (HZ.out.grown hg (by intro e; have := Option.some.inj e; omega)); clear HR HB HZ HA; have HR := hide hr; have HB := HB'; have HZ := HZ'; have HA := HA'; clear hr hg hs HB' HZ' HA')
  refine (RGet_any (p := 30) (s := 4) _ HA.out (by omega)).mono ?_
  rintro e w' ⟨rfl, rfl⟩
  rw [E5.out]
  go_wp2_with ((with_reducible refine wpList_storeV rfl 3 (.tmp 52) (.tmp 49) rfl int_size1 gx 5 48 rfl (.int .i64 x.g) rfl rfl rfl _ HR.out (by simp) ?_); intro w' hr hg hs; have HA' := hide (HA.out.grown hg (Nat.le_of_lt HR.out.lt) (fun g hg => Nat.le_of_eq (Option.some.inj hg))); have HB' := hide (HB.out.grown hg HB.out.size (fun g hg => by have := Option.some.inj hg; omega)); have HZ' := hide (HZ.out.grown hg (by intro e; have := Option.some.inj e; omega)); clear HR HB HZ HA; have HR := hide hr; have HB := HB'; have HZ := HZ'; have HA := HA'; clear hr hg hs HB' HZ' HA')
  refine (RGet_any (p := 34) (s := 2) _ HA.out (by omega)).mono ?_
  rintro e w' ⟨rfl, rfl⟩
  rw [E6.out]
  go_wp2_with (first | ((with_reducible refine wpList_storeV rfl 3 (.tmp 58) (.tmp 56) rfl int_size1 gx 6 48 rfl (.int .i64 x.s) rfl rfl rfl _ HR.out (by simp) ?_); intro w' hr hg hs; have HA' := hide (HA.out.grown hg (Nat.le_of_lt HR.out.lt) (fun g hg => Nat.le_of_eq (Option.some.inj hg))); have HB' := hide (HB.out.grown hg HB.out.size (fun g hg => by have := Option.some.inj hg; omega)); have HZ' := hide (HZ.out.grown hg (by intro e; have := Option.some.inj e; omega)); clear HR HB HZ HA; have HR : Hid (RowL w' gx 48 [.int .i64 x.h, .int .i64 x.o, .string ⟨x.r.toArray⟩, .int .i64 x.l, .int .i64 x.i, .int .i64 x.g, .int .i64 x.s]) := hide hr; have HB := HB'; have HZ := HZ'; have HA := HA'; clear hr hg hs HB' HZ' HA') | (with_reducible refine wpList_loadW rfl 48 (.tmp 4) rfl 7 att_agg att_size gx 48 rfl [.int .i64 x.h, .int .i64 x.o, .string ⟨x.r.toArray⟩, .int .i64 x.l, .int .i64 x.i, .int .i64 x.g, .int .i64 x.s] HR.out rfl ?_))
  clear k27 i27
  cases hxr : rightA x
  · refine (RARight_b x _ hxr).mono ?_
    rintro e w7 ⟨rfl, hbel⟩
    have HB7 := hide (below_step HB.out hbel)
    have HZ7 := hide (HZ.out.on hbel)
    have hg7 : w.heap.size < w7.heap.size := HZ7.out.lt
    obtain rfl : ok = false := by rw [← HOK.out, gotA_same, HX.out, hxr]; rfl
    obtain rfl : y = att0 := HGI.out
    clear hbel hxr
    go_wp2_with ((with_reducible refine wpList_storeW rfl 48 (.tmp 2) (.tmp 69) rfl 7 att_size w.heap.size 48 rfl [.int .i64 0, .int .i64 0, .string ⟨#[]⟩, .int .i64 0, .int .i64 0, .int .i64 0, .int .i64 0] [.int .i64 0, .int .i64 0, .string ⟨#[]⟩, .int .i64 0, .int .i64 0, .int .i64 0, .int .i64 0] rfl HZ7.out rfl rfl (by simp [Value.oneCell']) ?_); intro w9 hr9 hg9 hs9; have HR9 := hide hr9; have HB9 := hide (HB7.out.grown hg9 HB7.out.size (fun g hg => by have := Option.some.inj hg; omega)); clear hr9 hg9 hs9)
    exact bodyPost_ret (res_cell2 Try.results29 rfl rfl att_agg att_size HR9.out rfl) rfl ⟨rfl, HB9.out⟩
  · have hrok := right_okA hxr
    refine (RARight_b x _ hxr).mono ?_
    rintro e w7 ⟨rfl, hbel⟩
    have HB7 := hide (below_step HB.out hbel)
    have HZ7 := hide (HZ.out.on hbel)
    have HR7 := hide (HR.out.on hbel)
    have HA7 := hide ((HA.out.more (Nat.le_of_lt HR.out.lt)).below hbel)
    have HS7 := hide hbel.size
    have hp : putA x = sealS (bodyA x) := by unfold putA; rw [if_pos hxr]
    obtain ⟨q, hq⟩ : ∃ q, (l == sealS (bodyA x)) = q := ⟨_, rfl⟩
    obtain rfl : ok = q := by
      rw [← HOK.out, gotA_same, HX.out, hxr, Bool.true_and, hp, ← hq, Bool.eq_iff_iff, beq_iff_eq, beq_iff_eq]
      exact ⟨fun h => h.symm, fun h => h.symm⟩
    have HQ := hide hq
    have HRO := hide hrok
    have c0 : w7.cell? ⟨gx, 0, none⟩ = some (.int .i64 x.h) := HR7.out.cell 0
    have c1 : w7.cell? ⟨gx, 1, none⟩ = some (.int .i64 x.o) := HR7.out.cell 1
    have c2 : w7.cell? ⟨gx, 2, none⟩ = some (.string ⟨x.r.toArray⟩) := HR7.out.cell 2
    have c3 : w7.cell? ⟨gx, 3, none⟩ = some (.int .i64 x.l) := HR7.out.cell 3
    have c4 : w7.cell? ⟨gx, 4, none⟩ = some (.int .i64 x.i) := HR7.out.cell 4
    have c5 : w7.cell? ⟨gx, 5, none⟩ = some (.int .i64 x.g) := HR7.out.cell 5
    have c6 : w7.cell? ⟨gx, 6, none⟩ = some (.int .i64 x.s) := HR7.out.cell 6
    have hg7 : gx < w7.heap.size := HR7.out.lt
    clear hbel hxr hrok hp hq HB HZ HR HA
    go_wp2_with fail
    refine (RABytes_any _ HRO.out).mono ?_
    rintro e w8 ⟨A8, c8, rfl, hown, hbel⟩
    have HO8 := hide hown
    have HB8 := hide (below_step HB7.out hbel)
    have HZ8 := hide (HZ7.out.on hbel)
    have HR8 := hide (HR7.out.on hbel)
    have HA8 := hide (HA7.out.below (hbel.mono HS7.out))
    clear hown hbel
    clear c0 c1 c2 c3 c4 c5 c6 hg7 HB7 HZ7 HR7 HA7
    go_wp2_with fail
    refine (Same_any _ HA8.out HO8.out.bs (by omega)).mono ?_
    rw [HQ.out]
    rintro e w9 ⟨rfl, hbel⟩
    have HBn := hide (below_step HB8.out hbel)
    have HZn := hide (HZ8.out.on hbel)
    have HRn := hide (HR8.out.on hbel)
    have hgn : w.heap.size < w9.heap.size := HZn.out.lt
    clear hbel HB8 HZ8 HR8 HA8
    cases ok
    · obtain rfl : y = att0 := HGI.out
      go_wp2_with ((with_reducible refine wpList_storeW rfl 48 (.tmp 2) (.tmp 69) rfl 7 att_size w.heap.size 48 rfl [.int .i64 0, .int .i64 0, .string ⟨#[]⟩, .int .i64 0, .int .i64 0, .int .i64 0, .int .i64 0] [.int .i64 0, .int .i64 0, .string ⟨#[]⟩, .int .i64 0, .int .i64 0, .int .i64 0, .int .i64 0] rfl HZn.out rfl rfl (by simp [Value.oneCell']) ?_); intro w10 hr10 hg9 hs9; have HR9 := hide hr10; have HB9 := hide (HBn.out.grown hg9 HBn.out.size (fun g hg => by have := Option.some.inj hg; omega)); clear hr10 hg9 hs9)
      exact bodyPost_ret (res_cell2 Try.results29 rfl rfl att_agg att_size HR9.out rfl) rfl ⟨rfl, HB9.out⟩
    · obtain rfl : y = x := by rw [HGI.out, if_pos rfl, HX.out]
      go_wp2_with (first
        | (with_reducible refine wpList_loadW rfl 48 (.tmp 4) rfl 7 att_agg att_size gx 48 rfl [.int .i64 y.h, .int .i64 y.o, .string ⟨y.r.toArray⟩, .int .i64 y.l, .int .i64 y.i, .int .i64 y.g, .int .i64 y.s] HRn.out rfl ?_)
        | ((with_reducible refine wpList_storeW rfl 48 (.tmp 2) (.tmp 70) rfl 7 att_size w.heap.size 48 rfl [.int .i64 0, .int .i64 0, .string ⟨#[]⟩, .int .i64 0, .int .i64 0, .int .i64 0, .int .i64 0] [.int .i64 y.h, .int .i64 y.o, .string ⟨y.r.toArray⟩, .int .i64 y.l, .int .i64 y.i, .int .i64 y.g, .int .i64 y.s] rfl HZn.out rfl rfl (by simp [Value.oneCell']) ?_); intro w10 hr10 hg9 hs9; have HR9 := hide hr10; have HB9 := hide (HBn.out.grown hg9 HBn.out.size (fun g hg => by have := Option.some.inj hg; omega)); clear hr10 hg9 hs9))
      exact bodyPost_ret (res_cell2 Try.results29 rfl rfl att_agg att_size HR9.out rfl) rfl ⟨rfl, HB9.out⟩
end Go.Proofs.Ythjjjeolpdekoaa
