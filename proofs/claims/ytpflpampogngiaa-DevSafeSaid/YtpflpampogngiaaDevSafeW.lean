/- The walk of the law DevSafe. -/
import Derived.Test.YtpflpampogngiaaDevO
import Derived.Test.YtpflpampogngiaaMemO
namespace Go.Proofs.Ytpflpampogngiaa
open Go.RowKit Plain

theorem rd_far {α : Type} {E : Enc α} {w wr : World} {base n : Nat} {A : Option Addr} {l : List α} (h : RdE E w (Under w.heap.size) A n l) (hb : Below w.heap.size w wr) (hbase : w.heap.size ≤ base) : RdE E wr (Far wr base) A n l :=
  h.mono (Kept.of_below hb fun _ h => h) fun _ hb' => ⟨Nat.lt_of_lt_of_le hb' hb.size, .inl (Nat.lt_of_lt_of_le hb' hbase)⟩
theorem own_far {w wr : World} {base n c : Nat} {A : Option Addr} {l : List UInt8} (h : Own wr w.heap.size 5 A n c l) : RdE Enc.byte wr (Far wr base) A n l :=
  RdE.of_bs (B := wr.heap.size) h.bs fun hn a ha => by
    obtain ⟨g, cs, rfl, -, hr, -⟩ := h.row hn
    cases ha
    exact far_row hr (by decide) (by decide) (by decide)
set_option maxRecDepth 100000 in
set_option maxHeartbeats 6400000 in
theorem law_DevSafe {A0 A A2 : Option Addr} {m c0 n c q c2 : Nat} {b : List UInt8} {l : List StepV} {kept : List Bool} (w : World) (hb : Bs w w.heap.size A0 m b) (hmc : m ≤ c0) (hl : RdE stepEn w (Under w.heap.size) A n l) (hk : RdE Enc.bool w (Under w.heap.size) A2 q kept) :
    Calls Try.prog 4 #[.slice A0 m c0, .slice A n c, .slice A2 q c2] w (LawOk w) := by
  obtain ⟨bf, hbf⟩ : ∃ bf, fewS m n l = bf := ⟨_, rfl⟩
  have HB0 := hide hb
  have HL := hide hl
  have HK := hide hk
  have HMC := hide hmc
  have HF := hide hbf
  clear hb hl hk hbf hmc
  go_enter Try.func4, Try.ntmps4
  go_wp2_with fail
  refine (few_any w HL.out HF.out).mono ?_
  rintro e w1 ⟨rfl, hbel⟩
  have HB1 := hide hbel
  clear hbel
  cases bf with
  | false =>
    go_wp2_with fail
    refine (awake5_any _).mono ?_
    rintro e w2 ⟨rfl, hbel⟩
    have HB2 := hide (below_step HB1.out hbel)
    clear hbel
    go_wp2_with fail
    go_ret
    exact LawOk.of HB2.out
  | true =>
    by_cases hq : 100 < q
    · have d1 : decide ((100 : Int) < (q : Int)) = true := by simp; omega
      go_wp2_with fail
      refine (awake5_any _).mono ?_
      rintro e w2 ⟨rfl, hbel⟩
      have HB2 := hide (below_step HB1.out hbel)
      clear hbel
      go_wp2_with fail
      go_ret
      exact LawOk.of HB2.out
    have d1 : decide ((100 : Int) < (q : Int)) = false := by simp; omega
    have HM : Hid (m ≤ 2000 ∧ n ≤ 60) := hide (by have := HF.out; unfold fewS at this; simp only [Bool.and_eq_true, decide_eq_true_eq] at this; exact this.1)
    have hn60 := HM.out.2
    go_wp2_with fail
    clear d1
    refine (DNew_any (n := m / 64) _ ((HB0.out.below HB1.out).more HB1.out.size) HMC.out (by have := HM.out; omega) rfl).mono ?_
    rintro e w2 ⟨dp, rfl, hdk, hbel⟩
    obtain ⟨base, hbase⟩ : ∃ base, w1.heap.size = base := ⟨_, rfl⟩
    rw [hbase] at hdk hbel
    have HK2 := hide hdk
    have HB2 : Hid (Below w.heap.size w w2) := hide (HB1.out.trans (hbel.mono (by rw [← hbase]; exact HB1.out.size)))
    have HBS : Hid (w.heap.size ≤ base) := hide (by rw [← hbase]; exact HB1.out.size)
    have HZ2 : Hid (base ≤ w2.heap.size) := hide (by rw [← hbase] at hbel ⊢; exact hbel.size)
    clear hdk hbel hbase HB1
    unfold dptr
    go_wp2_with fail
    go_loopw [27] (fun iv wr => ∃ (k : Nat) (s : DSt), k ≤ n ∧ iv = .int .i64 k ∧ DK wr base dp s ∧ DOkB s k ∧ Below w.heap.size w wr ∧ base ≤ wr.heap.size) (fun iv _ => n - (intOf iv).toNat)
    case atStart => exact ⟨0, _, by omega, rfl, HK2.out, DOkB.new b (by have := HM.out; omega), HB2.out, HZ2.out⟩
    case round =>
      clear HK2 HB2 HZ2
      obtain ⟨k, s, hk, rfl, hdk, hok, hbel, hz⟩ := hrel
      have HKr := hide hdk
      have HOK := hide hok
      have HBr := hide hbel
      have HZr := hide hz
      clear hdk hok hz
      by_cases hlt : k < n
      · obtain ⟨t, ht⟩ : ∃ t, l[k]? = some t := ⟨_, List.getElem?_eq_getElem (by have := HL.out.len; omega)⟩
        obtain ⟨bb, oo, A1, n1, k1, A2', n2, k2, rfl, hb, hc, h1, h2, h3, h4, h5⟩ := step_get (rd_far HL.out hbel HBS.out) ht
        have HC := hide hc
        have H3 := hide h3
        have H4 := hide h4
        have H5 := hide h5
        clear hbel ht hb hc h1 h2 h3 h4 h5
        go_wp2_with ((with_reducible refine wpList_loadX rfl 35 (.tmp 29) rfl 4 step_agg step_size bb (oo + k * 4) rfl [Value.int .i64 t.dd, Value.int .i64 t.at_, Value.slice A1 n1 k1, Value.slice A2' n2 k2] HC.out rfl ?_))
        have hal := below_new (below_self wr) (.cells #[Value.int .i64 t.dd, Value.int .i64 t.at_, Value.slice A1 n1 k1, Value.slice A2' n2 k2] 35)
        have HZ3 : Hid (base ≤ (wr.alloc (.cells #[Value.int .i64 t.dd, Value.int .i64 t.at_, Value.slice A1 n1 k1, Value.slice A2' n2 k2] 35)).heap.size) := hide (Nat.le_trans HZr.out hal.size)
        have HB3 := hide (below_step HBr.out hal)
        have HK3 := hide (HKr.out.below hal)
        have HX3 := hide ((DFr.of_below (base := base) hal).rd H3.out)
        have HX4 := hide ((DFr.of_below (base := base) hal).rd H4.out)
        clear hal
        refine (do_any HK3.out (HOK.out.ok (by omega)) HX3.out HX4.out).mono ?_
        rintro e w4 ⟨A4, n4, c4, rfl, -, hdk, hfr⟩
        have HK4 := hide hdk
        have HB4 : Hid (Below w.heap.size w w4) := hide (HB3.out.trans ((hfr.below HZ3.out).mono HBS.out))
        have HZ4 : Hid (base ≤ w4.heap.size) := hide (Nat.le_trans HZ3.out hfr.size)
        clear hdk hfr HX3 HX4 HB3 HZ3 HK3
        go_wp2_with fail
        go_roundw
        case rel => exact ⟨k + 1, _, by omega, by go_num, HK4.out, HOK.out.step H5.out, HB4.out, HZ4.out⟩
        case measure => simp [intOf]; omega
      · obtain rfl : k = n := by omega
        clear hbel
        go_wp2_with fail
        clear hlt
        obtain ⟨f, hf⟩ : ∃ f, fails s.armed s.off s.left = f := ⟨_, rfl⟩
        have HFF := hide hf
        clear hf
        cases f with
        | true =>
          refine (DFlush_dark HKr.out HFF.out).mono ?_
          rintro e w5 ⟨rfl, hdk, hfr⟩
          have HK5 := hide hdk
          have HB5 : Hid (Below w.heap.size w w5) := hide (HBr.out.trans ((hfr.below HZr.out).mono HBS.out))
          have HZ5 : Hid (base ≤ w5.heap.size) := hide (Nat.le_trans HZr.out hfr.size)
          have HOK5 := hide HOK.out.dark
          clear hdk hfr HOK
          go_wp2_with fail
          obtain ⟨sx, hsx⟩ : ∃ sx, sx = crashD (dark s) kept := ⟨_, rfl⟩
          refine (DCrash_any HK5.out (HOK5.out.ok (by omega)) (rd_far HK.out HB5.out HBS.out)).mono ?_
          rw [← hsx]
          rintro e wa ⟨rfl, hdk, hfr⟩
          have HKa := hide hdk
          have HBa : Hid (Below w.heap.size w wa) := hide (HB5.out.trans ((hfr.below HZ5.out).mono HBS.out))
          have HOKa : Hid (DOkB sx _) := hide (by rw [hsx]; exact HOK5.out.crash kept)
          have HEa : Hid (sx.last = sx.safe ∧ sx.wait = [] ∧ sx.off = false) := hide (by rw [hsx]; exact ⟨rfl, rfl, rfl⟩)
          clear hsx
          clear hdk hfr
          obtain ⟨N9, hN9⟩ : ∃ N9, sx.safe.length = N9 := ⟨_, rfl⟩
          have HN9 := hide hN9
          have HN8 : Hid (N9 ≤ 1000) := hide (by rw [← hN9]; exact HOKa.out.n)
          clear hN9
          go_wp2_with fail
          refine (DBytes_any HKa.out HN9.out (by have := HN8.out; omega)).mono ?_
          rintro e wb ⟨Ab, cb, rfl, hown, hbel⟩
          have HXb : Hid (Bs wb wb.heap.size Ab (64 * N9) sx.safe.flatten) := hide (by rw [← HEa.out.1]; exact hown.bs)
          have HKb := hide (HKa.out.below hbel)
          have HBb := hide (below_step HBa.out hbel)
          clear hown hbel
          go_wp2_with fail
          refine (DSafe_any HKb.out HN9.out (by have := HN8.out; omega)).mono ?_
          rintro e wc ⟨Ac, cc, rfl, hown, hbel⟩
          have HXc := hide (HXb.out.below hbel)
          have HYc := hide hown.bs
          have HKc := hide (HKb.out.below hbel)
          have HBc := hide (below_step HBb.out hbel)
          clear hown hbel
          go_wp2_with fail
          refine (Equal_any _ HXc.out HYc.out).mono ?_
          rw [show (sx.safe.flatten == sx.safe.flatten) = true from by simp]
          rintro e w' ⟨rfl, rfl⟩
          go_wp2_with fail
          refine (DWaiting_any HKc.out (HOKa.out.ok (by omega))).mono ?_
          rintro e wd ⟨Ad, nd, cd, rfl, how, hbel⟩
          obtain rfl : nd = 0 := by rw [← how.len, HEa.out.2.1]; rfl
          have HKd := hide (HKc.out.below hbel)
          have HBd := hide (below_step HBc.out hbel)
          clear how hbel
          go_wp2_with fail
          refine (DOff_dk HKd.out HEa.out.2.2).mono ?_
          rintro e w' ⟨rfl, rfl⟩
          go_wp2_with fail
          refine (awake5_any _).mono ?_
          rintro e we ⟨rfl, hbel⟩
          have HBe := hide (below_step HBd.out hbel)
          clear hbel
          go_wp2_with fail
          go_ret
          exact LawOk.of HBe.out
        | false =>
          refine (DFlush_ok HKr.out (HOK.out.ok (by omega)) HFF.out).mono ?_
          rintro e w5 ⟨rfl, hdk, hfr⟩
          have HK5 := hide hdk
          have HB5 : Hid (Below w.heap.size w w5) := hide (HBr.out.trans ((hfr.below HZr.out).mono HBS.out))
          have HZ5 : Hid (base ≤ w5.heap.size) := hide (Nat.le_trans HZr.out hfr.size)
          have HOK5 := hide (HOK.out.flush HFF.out)
          clear hdk hfr
          obtain ⟨s5, hs5⟩ : ∃ s5, flushD s = s5 := ⟨_, rfl⟩
          have HE5 : Hid (s5.last = s5.safe ∧ s5.wait = []) := hide (by rw [← hs5]; exact ⟨flush_same HOK.out, rfl⟩)
          rw [hs5] at HK5 HOK5
          clear hs5 HOK
          obtain ⟨N, hN⟩ : ∃ N, s5.safe.length = N := ⟨_, rfl⟩
          have HN := hide hN
          have HN1 : Hid (N ≤ 1000) := hide (by rw [← hN]; exact HOK5.out.n)
          clear hN
          go_wp2_with fail
          refine (DBytes_any HK5.out HN.out (by have := HN1.out; omega)).mono ?_
          rintro e w6 ⟨A6, c6, rfl, hown, hbel⟩
          have HX6 : Hid (RdE Enc.byte w6 (Far w6 base) A6 (64 * N) s5.safe.flatten) := hide (by rw [← HE5.out.1]; exact own_far hown)
          have HK6 := hide (HK5.out.below hbel)
          have HB6 := hide (below_step HB5.out hbel)
          have HZ6 := hide (Nat.le_trans HZ5.out hbel.size)
          clear hown hbel
          go_wp2_with fail
          refine (DCrash_any HK6.out (HOK5.out.ok (by omega)) (rd_far HK.out HB6.out HBS.out)).mono ?_
          rintro e w7 ⟨rfl, hdk, hfr⟩
          have HX7 := hide (hfr.rd HX6.out)
          have HK7 := hide hdk
          have HB7 : Hid (Below w.heap.size w w7) := hide (HB6.out.trans ((hfr.below HZ6.out).mono HBS.out))
          have HZ7 := hide (Nat.le_trans HZ6.out hfr.size)
          have HOK7 := hide (HOK5.out.crash kept)
          have HE7 : Hid ((crashD s5 kept).last = s5.safe) := hide (crash_clean HE5.out.2 kept)
          have HN7 : Hid ((crashD s5 kept).safe.length = N) := hide (by rw [← HN.out]; exact crashTo_len _ _ _ _)
          clear hdk hfr
          go_wp2_with fail
          refine (DBytes_any HK7.out HN7.out (by have := HN1.out; omega)).mono ?_
          rintro e w8 ⟨A8, c8, rfl, hown, hbel⟩
          have HX8 := hide ((DFr.of_below (base := base) hbel).rd HX7.out)
          have HY8 : Hid (Bs w8 w8.heap.size A8 (64 * N) s5.safe.flatten) := hide (by rw [← HE7.out]; exact hown.bs)
          have HK8 := hide (HK7.out.below hbel)
          have HB8 := hide (below_step HB7.out hbel)
          have HZ8 := hide (Nat.le_trans HZ7.out hbel.size)
          clear hown hbel
          go_wp2_with fail
          refine (Equal_any _ HY8.out (bs_of_rd HX8.out)).mono ?_
          rw [show (s5.safe.flatten == s5.safe.flatten) = true from by simp]
          rintro e w' ⟨rfl, rfl⟩
          have HOK8 := HOK7
          go_wp2_with fail
          obtain ⟨sx, hsx⟩ : ∃ sx, sx = crashD (crashD s5 kept) kept := ⟨_, rfl⟩
          refine (DCrash_any HK8.out (HOK8.out.ok (by omega)) (rd_far HK.out HB8.out HBS.out)).mono ?_
          rw [← hsx]
          rintro e wa ⟨rfl, hdk, hfr⟩
          have HKa := hide hdk
          have HBa : Hid (Below w.heap.size w wa) := hide (HB8.out.trans ((hfr.below HZ8.out).mono HBS.out))
          have HOKa : Hid (DOkB sx _) := hide (by rw [hsx]; exact HOK8.out.crash kept)
          have HEa : Hid (sx.last = sx.safe ∧ sx.wait = [] ∧ sx.off = false) := hide (by rw [hsx]; exact ⟨rfl, rfl, rfl⟩)
          clear hsx
          clear hdk hfr
          obtain ⟨N9, hN9⟩ : ∃ N9, sx.safe.length = N9 := ⟨_, rfl⟩
          have HN9 := hide hN9
          have HN8 : Hid (N9 ≤ 1000) := hide (by rw [← hN9]; exact HOKa.out.n)
          clear hN9
          go_wp2_with fail
          refine (DBytes_any HKa.out HN9.out (by have := HN8.out; omega)).mono ?_
          rintro e wb ⟨Ab, cb, rfl, hown, hbel⟩
          have HXb : Hid (Bs wb wb.heap.size Ab (64 * N9) sx.safe.flatten) := hide (by rw [← HEa.out.1]; exact hown.bs)
          have HKb := hide (HKa.out.below hbel)
          have HBb := hide (below_step HBa.out hbel)
          clear hown hbel
          go_wp2_with fail
          refine (DSafe_any HKb.out HN9.out (by have := HN8.out; omega)).mono ?_
          rintro e wc ⟨Ac, cc, rfl, hown, hbel⟩
          have HXc := hide (HXb.out.below hbel)
          have HYc := hide hown.bs
          have HKc := hide (HKb.out.below hbel)
          have HBc := hide (below_step HBb.out hbel)
          clear hown hbel
          go_wp2_with fail
          refine (Equal_any _ HXc.out HYc.out).mono ?_
          rw [show (sx.safe.flatten == sx.safe.flatten) = true from by simp]
          rintro e w' ⟨rfl, rfl⟩
          go_wp2_with fail
          refine (DWaiting_any HKc.out (HOKa.out.ok (by omega))).mono ?_
          rintro e wd ⟨Ad, nd, cd, rfl, how, hbel⟩
          obtain rfl : nd = 0 := by rw [← how.len, HEa.out.2.1]; rfl
          have HKd := hide (HKc.out.below hbel)
          have HBd := hide (below_step HBc.out hbel)
          clear how hbel
          go_wp2_with fail
          refine (DOff_dk HKd.out HEa.out.2.2).mono ?_
          rintro e w' ⟨rfl, rfl⟩
          go_wp2_with fail
          refine (awake5_any _).mono ?_
          rintro e we ⟨rfl, hbel⟩
          have HBe := hide (below_step HBd.out hbel)
          clear hbel
          go_wp2_with fail
          go_ret
          exact LawOk.of HBe.out
end Go.Proofs.Ytpflpampogngiaa
