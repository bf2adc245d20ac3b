/- The contract of bytes.Repeat of one byte, 64 times. -/
import Derived.Test.YtnjmddmiebofeaaDevJ
import Derived.Test.YtnjmddmiebofeaaShelf
import Derived.Lib.MakeNoZero
namespace Go.Proofs.Ytnjmddmiebofeaa
open Go.RowKit Plain

theorem wpList_copyC {P : Program} {w : World} {ops : Array Oper} {rest : List Oper} {o : Oper} {a : Act} {Q : Exit → Act → World → Prop} (hgd : o.guard = none) (d s : Operand) (dT sT : TypeId)
    (ho : o.op = .call { callee := .builtin .copy, args := #[d, s], argTypes := #[dT, sT] }) (elem k : Nat) (hu : P.underlying dT = some (.slice elem)) (hsz : (P.info? elem).map (·.size) = some k)
    (g off N dCap : Nat) (hd : a.eval d = .slice (some ⟨g, off, none⟩) N dCap) (cur : List Value) (t : TypeId) (hr : RowL w g t cur)
    (ad : Addr) (m c : Nat) (hs : a.eval s = .slice (some ad) m c) (M : Nat) (hM : M = min m N) (cs : List Value) (hcs : cs.length = M * k) (hsrc : ∀ j v, cs[j]? = some v → w.cell? (ad.add j) = some v) (hfit : off + cs.length ≤ cur.length) (h1 : ∀ v ∈ cs, v.oneCell' = true)
    (hK : ∀ w', RowL w' g t (splice cur off cs) → w.grownBy w' (some g) → w'.heap.size = w.heap.size → wpList P ops Q rest (a.put o.dst (goInt M)) w') : wpList P ops Q (o :: rest) a w :=
  wpList_plain hgd fun _ hK' => wp_copyC d s dT sT ho elem k hu hsz g off N dCap hd cur t hr ad m c hs M hM cs hcs hsrc hfit h1 fun w' h1 h2 h3 => hK' _ _ (hK w' h1 h2 h3)
def rep (p : Nat) (x : UInt8) : List UInt8 := List.replicate p x
theorem rep_len (p : Nat) (x : UInt8) : (rep p x).length = p := by simp [rep]
theorem rep_double {cs : List Value} {p : Nat} {x : UInt8} (h : cs.take p = bvs (rep p x)) (hl : p + p ≤ cs.length) : (splice cs p (bvs (rep p x))).take (p + p) = bvs (rep (p + p) x) := by
  rw [take_splice cs p (p + p) _ (by rw [bvs_length, rep_len]; omega) hl]
  unfold splice
  rw [List.take_take, Nat.min_eq_left (by omega), h, bvs_length, rep_len, List.drop_take, Nat.sub_self, List.take_zero, List.append_nil, ← bvs_append]
  simp [rep, List.replicate_append_replicate]
def Pw (p : Nat) : Prop := p = 1 ∨ p = 2 ∨ p = 4 ∨ p = 8 ∨ p = 16 ∨ p = 32 ∨ p = 64
/-- It returns bytes in a row of bytes of its own. -/
def RepRet (w : World) (l : List UInt8) (x : Ending) (w' : World) : Prop := ∃ g cs, x = .returned (.slice (some ⟨g, 0, none⟩) 64 64) ∧ RowL w' g 5 cs ∧ cs.take 64 = bvs l ∧ w.heap.size ≤ g ∧ Below w.heap.size w w'
set_option maxRecDepth 100000 in
set_option maxHeartbeats 3200000 in
theorem Repeat64 {A : Option Addr} {c : Nat} {x : UInt8} (w : World) (ha : Bs w w.heap.size A 1 [x]) :
    Calls Try.prog 41 #[.slice A 1 c, .int .i64 64] w (RepRet w (rep 64 x)) := by
  obtain ⟨cs0, hrun, hle, hmax⟩ := Lib.run_makeNoZero (P := Try.prog) w #[3] 22 5 Try.underlying22 64 (by omega)
  have hcall : (callFunc 70 #[.int .i64 64]).run Try.prog w = .ok (.value (.slice (some ⟨w.heap.size, 0, none⟩) 64 cs0.size)) (w.drew.drew.alloc (.cells cs0 5)) := by
    rw [run_callFunc_extern Try.func70 (by kernel_rfl) (by kernel_rfl) (by kernel_rfl) (e := Extern.BytealgMakeNoZero.makeNoZero #[3] #[22]) (by kernel_rfl)]
    have h := hrun
    rw [show (((64 : Nat) : Int)) = 64 from rfl] at h
    rw [h]
    rfl
  have hcm := hmax (by unfold maxLen; omega)
  have hle' : (64 : Int) ≤ (cs0.size : Int) := by omega
  have HA := hide ha
  have HLE := hide hle
  have HCM := hide hcm
  clear ha hrun hmax hle hcm
  go_enter Try.func41, Try.ntmps41
  go_wp2_with fail
  refine (Try.bits_Mul 1 64 (by omega) (by omega) _).mono ?_
  rintro e w' ⟨rfl, hw⟩
  obtain rfl : w = w' := hw.symm
  obtain ⟨bb, oo, rfl, hbb, hcell⟩ := HA.out.2 (by omega)
  have hx0 := hcell 0 x rfl
  have hal : Below w.heap.size w ((w.alloc (.cells cs0 5)).drew.drew) := below_drewN (below_new (below_self w) _) 2
  have hr0 : RowL ((w.alloc (.cells cs0 5)).drew.drew) w.heap.size 5 cs0.toList := by
    exact RowL.new w 5 cs0.toList
  have HX0 := hide ((hal.cell (p := ⟨bb, oo + 0, none⟩) hbb).trans hx0)
  have HAL := hide hal
  have HR0 := hide hr0
  clear hbb hcell hx0 hal hr0
  have hl1 : (bvs (rep 1 x)).length = 1 * 1 := rfl
  have hm1 : 1 = min 1 64 := rfl
  have hsrc : ∀ j v, (bvs (rep 1 x))[j]? = some v → ((w.alloc (.cells cs0 5)).drew.drew).cell? ((⟨bb, oo, none⟩ : Addr).add j) = some v := fun j v hv => by
    cases j with
    | zero =>
      rw [Addr.add_lit]
      have e : some (bv x) = some v := hv
      rw [← e]
      exact HX0.out
    | succ j => simp [bvs, rep] at hv
  have hft : 0 + (bvs (rep 1 x)).length ≤ cs0.toList.length := by rw [bvs_length, rep_len]; have := HLE.out; simp; omega
  have HL1 := hide hl1
  have HM1 := hide hm1
  have HSRC := hide hsrc
  have HFT := hide hft
  clear hl1 hm1 hsrc hft
  go_wp2_with ((with_reducible refine wpList_copyC rfl (.tmp 58) (.tmp 59) 22 22 rfl 5 1 Try.underlying22 u8_isize w.heap.size 0 64 64 rfl cs0.toList 5 HR0.out ⟨bb, oo, none⟩ 1 c rfl 1 HM1.out (bvs (rep 1 x)) HL1.out HSRC.out HFT.out (bvs_one _) ?_); intro w2 hr2 hg2 hz2; have HR2 := hide hr2; have HB2 : Hid (Below w.heap.size w w2) := hide (HAL.out.grown hg2 HAL.out.size (by intro q hq; cases hq; exact Nat.le_refl _)); clear hr2 hg2 hz2)
  go_loopw [10] (fun bv wr => ∃ (p : Nat) (cs : List Value), Pw p ∧ bv = .int .i64 p ∧ RowL wr w.heap.size 5 cs ∧ cs.length = cs0.size ∧ cs.take p = bvs (rep p x) ∧ Below w.heap.size w wr) (fun bv _ => 64 - (intOf bv).toNat)
  case atStart =>
    have hle := HLE.out
    refine ⟨1, _, .inl rfl, rfl, HR2.out, ?_, ?_, HB2.out⟩
    · rw [length_splice _ _ _ (by rw [bvs_length, rep_len]; simp; omega)]
      simp
    · unfold splice
      rw [List.take_zero, List.nil_append]
      rfl
  case round =>
    obtain ⟨p, cs, hp, rfl, hr, hcl, ht, hb⟩ := hrel
    have HR := hide hr
    have HCL := hide hcl
    have HT := hide ht
    have HB := hide hb
    have HP := hide hp
    have hp64 : 1 ≤ p ∧ p ≤ 64 := by unfold Pw at hp; omega
    obtain ⟨hp1, hp64⟩ := hp64
    clear hr hcl ht hb hp
    by_cases hlt : p < 64
    · have hp32 : p ≤ 32 := by have := HP.out; unfold Pw at this; omega
      have hmin : min (p : Int) 64 = (p : Int) := by omega
      have hk64 : (p : Int) ≤ 64 := by omega
      have hk0 : 0 ≤ (p : Int) := by omega
      have hk3 : ((p : Int)).toNat = p := by omega
      have hk7 : (64 = p) = False := by simp; omega
      have hsum : IntKind.i64.wrap ((p : Int) + (p : Int)) = (((p + p : Nat)) : Int) := by
        have e : (p : Int) + (p : Int) = (((p + p : Nat)) : Int) := by omega
        rw [e]; exact IntWalk.i64_in _ (by omega)
      go_wp2_with fail
      refine wp_region_plan (fun w' => True) [(0, true), (1, true), (2, true), (3, true), (4, true), (5, true), (6, true), (7, false), (8, true), (9, true)] (by kernel_rfl) (by kernel_rfl) (by kernel_rfl) (by kernel_rfl) rfl (fun _ _ _ _ _ h => h) trivial (fun hHeld => ?_)
      simp only [planOps, List.filterMap_cons, List.filterMap_nil, List.getElem?_toArray, List.getElem?_cons_succ, List.getElem?_cons_zero, Option.map_some]
      refine wpPlan_take (v := ?_) (by kernel_rfl) (fun wS hSw => ?_) ?_
      rotate_left
      · (try dsimp only at hSw); go_simp; (try with_reducible rfl)
      (try simp only [Act.put, List.setIfInBounds_toArray, List.set_cons_zero, List.set_cons_succ])
      refine wpPlan_take (v := ?_) (by kernel_rfl) (fun wS hSw => ?_) ?_
      rotate_left
      · (try dsimp only at hSw); go_simp; (try with_reducible rfl)
      (try simp only [Act.put, List.setIfInBounds_toArray, List.set_cons_zero, List.set_cons_succ])
      refine wpPlan_take (v := ?_) (by kernel_rfl) (fun wS hSw => ?_) ?_
      rotate_left
      · (try dsimp only at hSw); go_simp; (try with_reducible rfl)
      (try simp only [Act.put, List.setIfInBounds_toArray, List.set_cons_zero, List.set_cons_succ])
      refine wpPlan_take (v := ?_) (by kernel_rfl) (fun wS hSw => ?_) ?_
      rotate_left
      · (try dsimp only at hSw); go_simp; (try with_reducible rfl)
      (try simp only [Act.put, List.setIfInBounds_toArray, List.set_cons_zero, List.set_cons_succ])
      refine wpPlan_take (v := ?_) (by kernel_rfl) (fun wS hSw => ?_) ?_
      rotate_left
      · (try dsimp only at hSw); go_simp; (try with_reducible rfl)
      (try simp only [Act.put, List.setIfInBounds_toArray, List.set_cons_zero, List.set_cons_succ])
      refine wpPlan_take (v := ?_) (by kernel_rfl) (fun wS hSw => ?_) ?_
      rotate_left
      · (try dsimp only at hSw); go_simp; (try with_reducible rfl)
      (try simp only [Act.put, List.setIfInBounds_toArray, List.set_cons_zero, List.set_cons_succ])
      refine wpPlan_take (v := ?_) (by kernel_rfl) (fun wS hSw => ?_) ?_
      rotate_left
      · (try dsimp only at hSw); go_simp; (try with_reducible rfl)
      (try simp only [Act.put, List.setIfInBounds_toArray, List.set_cons_zero, List.set_cons_succ])
      refine wpPlan_call (by kernel_rfl) (fun K hK => ?_)
      have hOld := hide hHeld
      clear hHeld
      refine wp_copyC (.tmp 70) (.tmp 73) _ _ rfl 5 1 Try.underlying22 u8_isize w.heap.size p (64 - p) (64 - p) rfl cs 5 HR.out ⟨w.heap.size, 0, none⟩ p 64 rfl p (by omega) (bvs (rep p x)) (by rw [bvs_length, rep_len]; omega) ?_ ?_ (bvs_one _) ?_
      · intro j v hv
        rw [← HT.out] at hv
        rw [Addr.add_lit, Nat.zero_add]
        rw [List.getElem?_take] at hv
        split at hv
        · exact (HR.out.cell j).trans hv
        · cases hv
      · rw [bvs_length, rep_len]; have := HCL.out; omega
      intro w2 hr2 hg2' hz2
      have hg2 := grown_drew hg2'
      have HR2 : Hid (RowL w2 w.heap.size 5 (splice cs p (bvs (rep p x)))) := hide hr2
      have HB2 : Hid (Below w.heap.size w w2) := hide (HB.out.grown hg2 HB.out.size (by intro q hq; cases hq; exact Nat.le_refl _))
      clear hr2 hg2 hg2' hz2
      refine hK.out _ _ (trivial) (fun hHeld => ?_)
      clear hK K
      (try simp only [Act.put, List.setIfInBounds_toArray, List.set_cons_zero, List.set_cons_succ])
      refine wpPlan_take (v := ?_) (by kernel_rfl) (fun wS hSw => ?_) ?_
      rotate_left
      · (try dsimp only at hSw); go_simp; (try with_reducible rfl)
      (try simp only [Act.put, List.setIfInBounds_toArray, List.set_cons_zero, List.set_cons_succ])
      refine wpPlan_take (v := ?_) (by kernel_rfl) (fun wS hSw => ?_) ?_
      rotate_left
      · (try dsimp only at hSw); go_simp; (try with_reducible rfl)
      (try simp only [Act.put, List.setIfInBounds_toArray, List.set_cons_zero, List.set_cons_succ])
      refine wpPlan_end ?_
      clear hHeld
      go_wp2_with fail
      go_roundw
      case rel =>
        have hle := HLE.out
        have hcl := HCL.out
        refine ⟨p + p, _, ?_, by go_num, HR2.out, ?_, rep_double HT.out (by omega), HB2.out⟩
        · have := HP.out
          unfold Pw at this ⊢
          omega
        · rw [length_splice _ _ _ (by rw [bvs_length, rep_len]; omega)]
          exact hcl
      case measure => simp [intOf]; omega
    · obtain rfl : p = 64 := by omega
      go_wp2_with fail
      go_ret
      exact ⟨_, _, rfl, HR.out, HT.out, Nat.le_refl _, HB.out⟩
end Go.Proofs.Ytnjmddmiebofeaa
