/- The walk of the law DevSteps. -/
import Derived.Test.YtnjmddmiebofeaaDevP
import Derived.Test.YtnjmddmiebofeaaDevSafeW
import Derived.Test.YtnjmddmiebofeaaPlanN
namespace Go.Proofs.Ytnjmddmiebofeaa
open Go.RowKit Plain

set_option maxRecDepth 100000 in
set_option maxHeartbeats 6400000 in
theorem law_DevSteps {A0 A : Option Addr} {m c0 n c : Nat} {b : List UInt8} {l : List StepV} (w : World) (hb : Bs w w.heap.size A0 m b) (hmc : m ≤ c0) (hl : RdE stepEn w (Under w.heap.size) A n l) :
    Calls Try.prog 3 #[.slice A0 m c0, .slice A n c] w (LawOk w) := by
  obtain ⟨bf, hbf⟩ : ∃ bf, fewS m n l = bf := ⟨_, rfl⟩
  have HB0 := hide hb
  have HL := hide hl
  have HMC := hide hmc
  have HF := hide hbf
  clear hb hl hbf hmc
  go_enter Try.func3, Try.ntmps3
  go_wp2_with fail
  refine (few_any w HL.out HF.out).mono ?_
  rintro e w1 ⟨rfl, hbel⟩
  have HB1 := hide hbel
  clear hbel
  cases bf with
  | false =>
    go_wp2_with fail
    refine (awake5_any _).mono ?_
    rintro e w2 ⟨rfl, hbel⟩
    have HB2 := hide (below_step HB1.out hbel)
    clear hbel
    go_wp2_with fail
    go_ret
    exact LawOk.of HB2.out
  | true =>
    have HM : Hid (m ≤ 2000 ∧ n ≤ 60) := hide (by have := HF.out; unfold fewS at this; simp only [Bool.and_eq_true, decide_eq_true_eq] at this; exact this.1)
    have hn60 := HM.out.2
    obtain ⟨N, hNN⟩ : ∃ N, m / 64 = N := ⟨_, rfl⟩
    have HNN := hide hNN
    clear hNN
    go_wp2_with fail
    refine (DNew_any (n := N) _ ((HB0.out.below HB1.out).more HB1.out.size) HMC.out (by have := HM.out; omega) HNN.out.symm).mono ?_
    rintro e w2 ⟨dp, rfl, hdk, hbel⟩
    obtain ⟨base, hbase⟩ : ∃ base, w1.heap.size = base := ⟨_, rfl⟩
    rw [hbase] at hdk hbel
    have HK2 := hide hdk
    have HB2 : Hid (Below w.heap.size w w2) := hide (HB1.out.trans (hbel.mono (by rw [← hbase]; exact HB1.out.size)))
    have HBS : Hid (w.heap.size ≤ base) := hide (by rw [← hbase]; exact HB1.out.size)
    have HZ2 : Hid (base ≤ w2.heap.size) := hide (by rw [← hbase] at hbel ⊢; exact hbel.size)
    clear hdk hbel hbase HB1
    unfold dptr
    go_wp2_with fail
    refine (RDNew_any (n := N) ((HB0.out.below HB2.out).more HB2.out.size) HMC.out (by have := HM.out; omega) HNN.out.symm).mono ?_
    rintro e w3 ⟨B, cb, he, hncb, hrs, -, hbel⟩
    unfold dV at he
    subst he
    have HK3 := hide (HK2.out.below hbel)
    have HB3 := hide (below_step HB2.out hbel)
    have HZ3 := hide (Nat.le_trans HZ2.out hbel.size)
    have HRS3 := hide hrs
    clear hrs hbel HK2 HB2 HZ2
    go_wp2_with fail
    have hal := below_new (below_self w3) (.cells #[.slice B N cb, .slice none 0 0, .int .i64 (-1), .int .i64 0, .int .i64 0, .bool false] 31)
    have HK4 := hide (HK3.out.below hal)
    have HB4 := hide (below_step HB3.out hal)
    have HZ4 := hide (Nat.le_trans HZ3.out hal.size)
    have HRS4 := hide (HRS3.out.ond hal)
    have HR4 : Hid (RowL (w3.alloc (.cells #[.slice B N cb, .slice none 0 0, .int .i64 (-1), .int .i64 0, .int .i64 0, .bool false] 31)) w3.heap.size 31 [.slice B N cb, .slice none 0 0, .int .i64 (-1), .int .i64 0, .int .i64 0, .bool false]) := hide (RowL.new w3 31 [.slice B N cb, .slice none 0 0, .int .i64 (-1), .int .i64 0, .int .i64 0, .bool false])
    have HG6 : Hid (w.heap.size ≤ w3.heap.size) := hide HB3.out.size
    clear hal HK3 HB3 HZ3 HRS3
    generalize (w3.alloc (.cells #[.slice B N cb, .slice none 0 0, .int .i64 (-1), .int .i64 0, .int .i64 0, .bool false] 31)) = w4 at *
    generalize w3.heap.size = g6 at *
    go_loopw [27] (fun iv wr => ∃ (k : Nat) (s : DSt) (B : Option Addr) (cb : Nat) (B2 : Option Addr) (m2 cb2 : Nat), k ≤ n ∧ iv = .int .i64 k ∧ DK wr base dp s ∧ DOkB s k ∧ All64 s ∧ s.safe.length = N ∧ RowL wr g6 31 [.slice B N cb, .slice B2 m2 cb2, .int .i64 (leftR s), .int .i64 s.wr, .int .i64 s.fl, .bool s.off] ∧ N ≤ cb ∧ m2 ≤ cb2 ∧ RdE Enc.bytes wr (Und wr) B N s.safe ∧ RdE penE wr (Und wr) B2 m2 s.wait ∧ Below w.heap.size w wr ∧ base ≤ wr.heap.size) (fun iv _ => n - (intOf iv).toNat)
    case atStart => exact ⟨0, newD b N, _, _, _, _, _, by omega, rfl, HK4.out, DOkB.new b (by have := HM.out; have := HNN.out; omega), cutS_64 (by have := HB0.out.len; have := HNN.out; omega), cutS_len _ _, HR4.out, hncb, Nat.le_refl _, HRS4.out, RdE.none_ _ _ _ _, HB4.out, HZ4.out⟩
    case round =>
      clear HK4 HB4 HZ4 HRS4 HR4
      obtain ⟨k, s, B, cb, B2, m2, cb2, hk, rfl, hdk, hok, h64, hN, hrow, hnc, hmc2, hrs, hrw, hbel, hz⟩ := hrel
      have HKr := hide hdk
      have HOK := hide hok
      have H64 := hide h64
      have HN := hide hN
      have HR := hide hrow
      have HRS := hide hrs
      have HRW := hide hrw
      have HBr := hide hbel
      have HZr := hide hz
      clear hdk hok h64 hN hrow hrs hrw hz
      by_cases hlt : k < n
      · obtain ⟨t, ht⟩ : ∃ t, l[k]? = some t := ⟨_, List.getElem?_eq_getElem (by have := HL.out.len; omega)⟩
        obtain ⟨bb, oo, A1, n1, k1, A2', n2, k2, rfl, hb, hc, h1, h2, h3, h4, h5⟩ := step_get (rd_far HL.out hbel HBS.out) ht
        obtain ⟨s', hs'⟩ : ∃ s', stepD s t = s' := ⟨_, rfl⟩
        obtain ⟨o', ho'⟩ : ∃ o', stepO s t = o' := ⟨_, rfl⟩
        obtain ⟨e', he'⟩ : ∃ e', stepK s t = e' := ⟨_, rfl⟩
        have HC := hide hc
        have H3 := hide h3
        have H4 := hide h4
        have HOK' : Hid (DOkB s' (k + 1)) := hide (by rw [← hs']; exact HOK.out.step h5)
        have H64' : Hid (All64 s') := hide (by rw [← hs']; exact H64.out.step HOK.out)
        have HN' : Hid (s'.safe.length = N) := hide (by rw [← hs', step_len]; exact HN.out)
        have HS' := hide hs'
        have HO' := hide ho'
        have HE' := hide he'
        clear hbel ht hb hc h1 h2 h3 h4 h5 hs' ho' he'
        go_wp2_with ((with_reducible refine wpList_loadX rfl 35 (.tmp 29) rfl 4 step_agg step_size bb (oo + k * 4) rfl [Value.int .i64 t.dd, Value.int .i64 t.at_, Value.slice A1 n1 k1, Value.slice A2' n2 k2] HC.out rfl ?_))
        have hal := below_new (below_self wr) (.cells #[Value.int .i64 t.dd, Value.int .i64 t.at_, Value.slice A1 n1 k1, Value.slice A2' n2 k2] 35)
        have HZ3 : Hid (base ≤ (wr.alloc (.cells #[Value.int .i64 t.dd, Value.int .i64 t.at_, Value.slice A1 n1 k1, Value.slice A2' n2 k2] 35)).heap.size) := hide (Nat.le_trans HZr.out hal.size)
        have HB3 := hide (below_step HBr.out hal)
        have HK3 := hide (HKr.out.below hal)
        have HX3 := hide ((DFr.of_below (base := base) hal).rd H3.out)
        have HX4 := hide ((DFr.of_below (base := base) hal).rd H4.out)
        have HR3 := hide (row_on HR.out hal)
        have HT3 : Hid (RowL (wr.alloc (.cells #[Value.int .i64 t.dd, Value.int .i64 t.at_, Value.slice A1 n1 k1, Value.slice A2' n2 k2] 35)) wr.heap.size 35 [Value.int .i64 t.dd, Value.int .i64 t.at_, Value.slice A1 n1 k1, Value.slice A2' n2 k2]) := hide (RowL.new wr 35 [Value.int .i64 t.dd, Value.int .i64 t.at_, Value.slice A1 n1 k1, Value.slice A2' n2 k2])
        have HRS3 := hide (HRS.out.ond hal)
        have HRW3 := hide (HRW.out.ond hal)
        clear hal
        have HDO : Hid (Calls Try.prog 10 #[dptr dp, .agg #[Value.int .i64 t.dd, Value.int .i64 t.at_, Value.slice A1 n1 k1, Value.slice A2' n2 k2]] (wr.alloc (.cells #[Value.int .i64 t.dd, Value.int .i64 t.at_, Value.slice A1 n1 k1, Value.slice A2' n2 k2] 35)) (DoRet base (wr.alloc (.cells #[Value.int .i64 t.dd, Value.int .i64 t.at_, Value.slice A1 n1 k1, Value.slice A2' n2 k2] 35)) dp s' o' e')) := hide (by
          rw [← HS'.out, ← HO'.out, ← HE'.out]
          exact do_any HK3.out (HOK.out.ok (by omega)) HX3.out HX4.out)
        refine HDO.out.mono ?_
        clear HDO
        rintro e w4 ⟨A4, n4, c4, rfl, hbs4, hdk, hfr⟩
        have HK4 := hide hdk
        have HB4 : Hid (Below w.heap.size w w4) := hide (HB3.out.trans ((hfr.below HZ3.out).mono HBS.out))
        have HZ4 : Hid (base ≤ w4.heap.size) := hide (Nat.le_trans HZ3.out hfr.size)
        have HR4 := hide (hfr.row HR3.out (by decide) (by decide) (by decide))
        have HT4 := hide (hfr.row HT3.out (by decide) (by decide) (by decide))
        have HRS4 := hide (hfr.und HRS3.out)
        have HRW4 := hide (hfr.und HRW3.out)
        have HX34 := hide (hfr.rd HX3.out)
        have HX44 := hide (hfr.rd HX4.out)
        have HS4 := hide hbs4
        clear hdk hfr HX3 HX4 HB3 HZ3 HK3 HR3 HT3 HRS3 HRW3 hbs4
        have q0 : w4.cell? ⟨g6, 0, none⟩ = some (.slice B N cb) := HR4.out.cell 0
        have q1 : w4.cell? ⟨g6, 1, none⟩ = some (.slice B2 m2 cb2) := HR4.out.cell 1
        have q2 : w4.cell? ⟨g6, 2, none⟩ = some (.int .i64 (leftR s)) := HR4.out.cell 2
        have q3 : w4.cell? ⟨g6, 3, none⟩ = some (.int .i64 s.wr) := HR4.out.cell 3
        have q4 : w4.cell? ⟨g6, 4, none⟩ = some (.int .i64 s.fl) := HR4.out.cell 4
        have q5 : w4.cell? ⟨g6, 5, none⟩ = some (.bool s.off) := HR4.out.cell 5
        have j0 : w4.cell? ⟨wr.heap.size, 0, none⟩ = some (Value.int .i64 t.dd) := HT4.out.cell 0
        have j1 : w4.cell? ⟨wr.heap.size, 1, none⟩ = some (Value.int .i64 t.at_) := HT4.out.cell 1
        have j2 : w4.cell? ⟨wr.heap.size, 2, none⟩ = some (Value.slice A1 n1 k1) := HT4.out.cell 2
        have j3 : w4.cell? ⟨wr.heap.size, 3, none⟩ = some (Value.slice A2' n2 k2) := HT4.out.cell 3
        go_wp2_with fail
        have HGO : Hid (Calls Try.prog 11 #[.agg #[.slice B N cb, .slice B2 m2 cb2, .int .i64 (leftR s), .int .i64 s.wr, .int .i64 s.fl, .bool s.off], .agg #[Value.int .i64 t.dd, Value.int .i64 t.at_, Value.slice A1 n1 k1, Value.slice A2' n2 k2]] w4 (GoRet w4 s' o' e')) := hide (by
          rw [← HS'.out, ← HO'.out, ← HE'.out]
          exact go_any HRS4.out hnc HRW4.out hmc2 HOK.out (by omega) H64.out (bs_of_rd HX34.out) (HX44.out.mono (fun _ _ => rfl) (fun b hb => hb.1)))
        refine HGO.out.mono ?_
        clear HGO
        rintro e w5 ⟨v, A5, n5, c5, rfl, ⟨B6, N6, cb6, B7, m7, cb7, hv, hnc6, hmc7, hrs, hrw⟩, hbs5, hbel⟩
        obtain rfl : N = N6 := by rw [← hrs.len]; exact HN'.out.symm
        unfold dV at hv
        subst hv
        have HR5 := hide (row_on HR4.out hbel)
        have HK5 := hide (HK4.out.below hbel)
        have HB5 := hide (below_step HB4.out hbel)
        have HZ5 := hide (Nat.le_trans HZ4.out hbel.size)
        have HS45 := hide ((HS4.out.below hbel).more hbel.size)
        have HS55 := hide hbs5
        have HRS5 := hide hrs
        have HRW5 := hide hrw
        clear hrs hrw hbs5 hbel q0 q1 q2 q3 q4 q5 j0 j1 j2 j3
        have q0 : w5.cell? ⟨g6, 0, none⟩ = some (.slice B N cb) := HR5.out.cell 0
        have q1 : w5.cell? ⟨g6, 1, none⟩ = some (.slice B2 m2 cb2) := HR5.out.cell 1
        have q2 : w5.cell? ⟨g6, 2, none⟩ = some (.int .i64 (leftR s)) := HR5.out.cell 2
        have q3 : w5.cell? ⟨g6, 3, none⟩ = some (.int .i64 s.wr) := HR5.out.cell 3
        have q4 : w5.cell? ⟨g6, 4, none⟩ = some (.int .i64 s.fl) := HR5.out.cell 4
        have q5 : w5.cell? ⟨g6, 5, none⟩ = some (.bool s.off) := HR5.out.cell 5
        have f0 := HR5.out.frozen 0
        have f1 := HR5.out.frozen 1
        have f2 := HR5.out.frozen 2
        have f3 := HR5.out.frozen 3
        have f4 := HR5.out.frozen 4
        have f5 := HR5.out.frozen 5
        have hg5 : g6 < w5.heap.size := HR5.out.lt
        go_wp2_with fail
        have hr5 := HR5.out
        have hgr5 : w5.grownBy ((((((w5.setCell ⟨g6, 0, none⟩ (.slice B6 N cb6)).setCell ⟨g6, 1, none⟩ (.slice B7 m7 cb7)).setCell ⟨g6, 2, none⟩ (.int .i64 (leftR s'))).setCell ⟨g6, 3, none⟩ (.int .i64 s'.wr)).setCell ⟨g6, 4, none⟩ (.int .i64 s'.fl)).setCell ⟨g6, 5, none⟩ (.bool s'.off)) (some g6) := grown6
        have hno5 : NoByte w5 g6 := RowL.noByte (t := 31) hr5 (by intro v hv x e; subst e; simp at hv)
        have hs5 := hgr5.size
        have hal6 := below_new (below_self ((((((w5.setCell ⟨g6, 0, none⟩ (.slice B6 N cb6)).setCell ⟨g6, 1, none⟩ (.slice B7 m7 cb7)).setCell ⟨g6, 2, none⟩ (.int .i64 (leftR s'))).setCell ⟨g6, 3, none⟩ (.int .i64 s'.wr)).setCell ⟨g6, 4, none⟩ (.int .i64 s'.fl)).setCell ⟨g6, 5, none⟩ (.bool s'.off))) (.cells #[.slice B6 N cb6, .slice B7 m7 cb7, .int .i64 (leftR s'), .int .i64 s'.wr, .int .i64 s'.fl, .bool s'.off] 31)
        have HK6 := hide ((HK5.out.past hr5 (by decide) (by decide) (by decide) hgr5).below hal6)
        have HRS6 := hide ((HRS5.out.past hr5 (by decide) hgr5).ond hal6)
        have HRW6 := hide ((HRW5.out.past hr5 (by decide) hgr5).ond hal6)
        have HS46 := hide (((HS45.out.past6 hno5 hgr5).below hal6).more hal6.size)
        have HS56 := hide (((HS55.out.past6 hno5 hgr5).below hal6).more hal6.size)
        have HR6 : Hid (RowL (((((((w5.setCell ⟨g6, 0, none⟩ (.slice B6 N cb6)).setCell ⟨g6, 1, none⟩ (.slice B7 m7 cb7)).setCell ⟨g6, 2, none⟩ (.int .i64 (leftR s'))).setCell ⟨g6, 3, none⟩ (.int .i64 s'.wr)).setCell ⟨g6, 4, none⟩ (.int .i64 s'.fl)).setCell ⟨g6, 5, none⟩ (.bool s'.off)).alloc (.cells #[.slice B6 N cb6, .slice B7 m7 cb7, .int .i64 (leftR s'), .int .i64 s'.wr, .int .i64 s'.fl, .bool s'.off] 31)) g6 31 [.slice B6 N cb6, .slice B7 m7 cb7, .int .i64 (leftR s'), .int .i64 s'.wr, .int .i64 s'.fl, .bool s'.off]) := hide (row_on (set6 hr5) hal6)
        have HB6 : Hid (Below w.heap.size w (((((((w5.setCell ⟨g6, 0, none⟩ (.slice B6 N cb6)).setCell ⟨g6, 1, none⟩ (.slice B7 m7 cb7)).setCell ⟨g6, 2, none⟩ (.int .i64 (leftR s'))).setCell ⟨g6, 3, none⟩ (.int .i64 s'.wr)).setCell ⟨g6, 4, none⟩ (.int .i64 s'.fl)).setCell ⟨g6, 5, none⟩ (.bool s'.off)).alloc (.cells #[.slice B6 N cb6, .slice B7 m7 cb7, .int .i64 (leftR s'), .int .i64 s'.wr, .int .i64 s'.fl, .bool s'.off] 31))) := hide (below_new (HB5.out.grown hgr5 HB5.out.size (by intro q hq; cases hq; exact HG6.out)) _)
        have HZ6 : Hid (base ≤ (((((((w5.setCell ⟨g6, 0, none⟩ (.slice B6 N cb6)).setCell ⟨g6, 1, none⟩ (.slice B7 m7 cb7)).setCell ⟨g6, 2, none⟩ (.int .i64 (leftR s'))).setCell ⟨g6, 3, none⟩ (.int .i64 s'.wr)).setCell ⟨g6, 4, none⟩ (.int .i64 s'.fl)).setCell ⟨g6, 5, none⟩ (.bool s'.off)).alloc (.cells #[.slice B6 N cb6, .slice B7 m7 cb7, .int .i64 (leftR s'), .int .i64 s'.wr, .int .i64 s'.fl, .bool s'.off] 31)).heap.size) := hide (Nat.le_trans HZ5.out (Nat.le_trans hs5 hal6.size))
        have hm7 : m7 ≤ 1000 := by rw [← HRW6.out.len]; have := HOK'.out.m; omega
        clear hal6 hr5 hgr5 hno5 hs5 HK5 HRS5 HRW5 HS45 HS55 HR5 HB5 HZ5 q0 f0 q1 f1 q2 f2 q3 f3 q4 f4 q5 f5 hg5
        generalize (((((((w5.setCell ⟨g6, 0, none⟩ (.slice B6 N cb6)).setCell ⟨g6, 1, none⟩ (.slice B7 m7 cb7)).setCell ⟨g6, 2, none⟩ (.int .i64 (leftR s'))).setCell ⟨g6, 3, none⟩ (.int .i64 s'.wr)).setCell ⟨g6, 4, none⟩ (.int .i64 s'.fl)).setCell ⟨g6, 5, none⟩ (.bool s'.off)).alloc (.cells #[.slice B6 N cb6, .slice B7 m7 cb7, .int .i64 (leftR s'), .int .i64 s'.wr, .int .i64 s'.fl, .bool s'.off] 31)) = w6 at *
        have hg6 : g6 < w6.heap.size := RowL.lt HR6.out
        have c0 : w6.cell? ⟨g6, 0, none⟩ = some (.slice B6 N cb6) := HR6.out.cell 0
        have c1 : w6.cell? ⟨g6, 1, none⟩ = some (.slice B7 m7 cb7) := HR6.out.cell 1
        have c2 : w6.cell? ⟨g6, 2, none⟩ = some (.int .i64 (leftR s')) := HR6.out.cell 2
        have c3 : w6.cell? ⟨g6, 3, none⟩ = some (.int .i64 s'.wr) := HR6.out.cell 3
        have c4 : w6.cell? ⟨g6, 4, none⟩ = some (.int .i64 s'.fl) := HR6.out.cell 4
        have c5 : w6.cell? ⟨g6, 5, none⟩ = some (.bool s'.off) := HR6.out.cell 5
        refine wp_region_planN (fun w' => Below w6.heap.size w6 w' ∧ w'.cell? ⟨g6, 0, none⟩ = some (.slice B6 N cb6) ∧ w'.cell? ⟨g6, 1, none⟩ = some (.slice B7 m7 cb7) ∧ w'.cell? ⟨g6, 2, none⟩ = some (.int .i64 (leftR s')) ∧ w'.cell? ⟨g6, 3, none⟩ = some (.int .i64 s'.wr) ∧ w'.cell? ⟨g6, 4, none⟩ = some (.int .i64 s'.fl) ∧ w'.cell? ⟨g6, 5, none⟩ = some (.bool s'.off)) [(0, true), (1, true), (2, false), (3, true), (4, true), (5, true), (6, true), (7, true), (8, true), (9, true), (10, true), (12, true), (13, true), (11, false), (14, true), (15, true), (16, true), (17, true), (19, true), (20, true), (18, false), (21, true), (22, true), (23, true), (24, true), (26, true), (27, true), (25, false), (28, true), (29, true), (30, true), (31, true), (33, true), (32, false), (34, false), (35, false), (36, true), (37, true)] (by kernel_rfl) (by kernel_rfl) (by kernel_rfl) (by kernel_rfl) rfl (fun _ _ _ _ _ h => h) ⟨below_drewN (below_self w6) 1, c0, c1, c2, c3, c4, c5⟩ (fun hHeld => ?_)
        simp only [planOps, List.filterMap_cons, List.filterMap_nil, List.getElem?_toArray, List.getElem?_cons_succ, List.getElem?_cons_zero, Option.map_some]
        refine wpPlan_take (v := ?_) (by kernel_rfl) (fun wS hSw => ?_) ?_
        rotate_left
        · (try dsimp only at hSw); go_simp; (try with_reducible rfl)
        (try simp only [Act.put, List.setIfInBounds_toArray, List.set_cons_zero, List.set_cons_succ])
        refine wpPlan_take (v := ?_) (by kernel_rfl) (fun wS hSw => ?_) ?_
        rotate_left
        · (try dsimp only at hSw); go_simp; (try with_reducible rfl)
        (try simp only [Act.put, List.setIfInBounds_toArray, List.set_cons_zero, List.set_cons_succ])
        refine wpPlan_call (by kernel_rfl) (fun K hK => ?_)
        have hOld := hide hHeld
        clear hHeld
        go_simp
        go_at_call 12
        refine (EqB_same (HS46.out.below hOld.out.1) (HS56.out.below hOld.out.1)).mono ?_
        rintro e w' ⟨rfl, rfl⟩
        refine hK.out _ _ (hOld.out) (fun hHeld => ?_)
        clear hK K
        (try simp only [Act.put, List.setIfInBounds_toArray, List.set_cons_zero, List.set_cons_succ])
        refine wpPlan_take (v := ?_) (by kernel_rfl) (fun wS hSw => ?_) ?_
        rotate_left
        · (try dsimp only at hSw); go_simp; (try with_reducible rfl)
        (try simp only [Act.put, List.setIfInBounds_toArray, List.set_cons_zero, List.set_cons_succ])
        refine wpPlan_take (v := ?_) (by kernel_rfl) (fun wS hSw => ?_) ?_
        rotate_left
        · (try dsimp only at hSw); go_simp; (try with_reducible rfl)
        (try simp only [Act.put, List.setIfInBounds_toArray, List.set_cons_zero, List.set_cons_succ])
        refine wpPlan_take (v := ?_) (by kernel_rfl) (fun wS hSw => ?_) ?_
        rotate_left
        · (try dsimp only at hSw); go_simp; (try with_reducible rfl)
        (try simp only [Act.put, List.setIfInBounds_toArray, List.set_cons_zero, List.set_cons_succ])
        refine wpPlan_take (v := ?_) (by kernel_rfl) (fun wS hSw => ?_) ?_
        rotate_left
        · (try dsimp only at hSw); go_simp; (try with_reducible rfl)
        (try simp only [Act.put, List.setIfInBounds_toArray, List.set_cons_zero, List.set_cons_succ])
        refine wpPlan_take (v := ?_) (by kernel_rfl) (fun wS hSw => ?_) ?_
        rotate_left
        · (try dsimp only at hSw); go_simp; (try with_reducible rfl)
        (try simp only [Act.put, List.setIfInBounds_toArray, List.set_cons_zero, List.set_cons_succ])
        refine wpPlan_take (v := ?_) (by kernel_rfl) (fun wS hSw => ?_) ?_
        rotate_left
        · (try dsimp only at hSw); go_simp; (try with_reducible rfl)
        (try simp only [Act.put, List.setIfInBounds_toArray, List.set_cons_zero, List.set_cons_succ])
        refine wpPlan_take (v := ?_) (by kernel_rfl) (fun wS hSw => ?_) ?_
        rotate_left
        · (try dsimp only at hSw); go_simp; (try with_reducible rfl)
        (try simp only [Act.put, List.setIfInBounds_toArray, List.set_cons_zero, List.set_cons_succ])
        refine wpPlan_take (v := ?_) (by kernel_rfl) (fun wS hSw => ?_) ?_
        rotate_left
        · (try dsimp only at hSw); go_simp; (try with_reducible rfl)
        (try simp only [Act.put, List.setIfInBounds_toArray, List.set_cons_zero, List.set_cons_succ])
        refine wpPlan_take (v := ?_) (by kernel_rfl) (fun wS hSw => ?_) ?_
        rotate_left
        · (try dsimp only at hSw); go_simp; (try with_reducible rfl)
        (try simp only [Act.put, List.setIfInBounds_toArray, List.set_cons_zero, List.set_cons_succ])
        refine wpPlan_take (v := ?_) (by kernel_rfl) (fun wS hSw => ?_) ?_
        rotate_left
        · (try dsimp only at hSw); go_simp; (try with_reducible rfl)
        (try simp only [Act.put, List.setIfInBounds_toArray, List.set_cons_zero, List.set_cons_succ])
        refine wpPlan_call (by kernel_rfl) (fun K hK => ?_)
        have hOld := hide hHeld
        clear hHeld
        go_simp
        go_at_call 13
        refine (DOff_dk (HK6.out.below hOld.out.1) rfl).mono ?_
        rintro e w' ⟨rfl, rfl⟩
        refine hK.out _ _ (hOld.out) (fun hHeld => ?_)
        clear hK K
        (try simp only [Act.put, List.setIfInBounds_toArray, List.set_cons_zero, List.set_cons_succ])
        refine wpPlan_take (v := ?_) (by kernel_rfl) (fun wS hSw => ?_) ?_
        rotate_left
        · (try dsimp only at hSw); go_simp; (try with_reducible rfl)
        (try simp only [Act.put, List.setIfInBounds_toArray, List.set_cons_zero, List.set_cons_succ])
        refine wpPlan_take (v := ?_) (by kernel_rfl) (fun wS hSw => ?_) ?_
        rotate_left
        · (try dsimp only at hSw); go_simp; (try with_reducible rfl)
        (try simp only [Act.put, List.setIfInBounds_toArray, List.set_cons_zero, List.set_cons_succ])
        refine wpPlan_take (v := ?_) (by kernel_rfl) (fun wS hSw => ?_) ?_
        rotate_left
        · (try dsimp only at hSw); go_simp; (try with_reducible rfl)
        (try simp only [Act.put, List.setIfInBounds_toArray, List.set_cons_zero, List.set_cons_succ])
        refine wpPlan_take (v := ?_) (by kernel_rfl) (fun wS hSw => ?_) ?_
        rotate_left
        · (try dsimp only at hSw); go_simp; (try with_reducible rfl)
        (try simp only [Act.put, List.setIfInBounds_toArray, List.set_cons_zero, List.set_cons_succ])
        refine wpPlan_take (v := ?_) (by kernel_rfl) (fun wS hSw => ?_) ?_
        rotate_left
        · (try dsimp only at hSw); go_simp; (try with_reducible rfl)
        (try simp only [Act.put, List.setIfInBounds_toArray, List.set_cons_zero, List.set_cons_succ])
        refine wpPlan_take (v := ?_) (by kernel_rfl) (fun wS hSw => ?_) ?_
        rotate_left
        · (try dsimp only at hSw); go_simp; (try with_reducible rfl)
        (try simp only [Act.put, List.setIfInBounds_toArray, List.set_cons_zero, List.set_cons_succ])
        refine wpPlan_call (by kernel_rfl) (fun K hK => ?_)
        have hOld := hide hHeld
        clear hHeld
        go_simp
        go_at_call 14
        refine (DWrites_dk (HK6.out.below hOld.out.1) rfl).mono ?_
        rintro e w' ⟨rfl, rfl⟩
        refine hK.out _ _ (hOld.out) (fun hHeld => ?_)
        clear hK K
        (try simp only [Act.put, List.setIfInBounds_toArray, List.set_cons_zero, List.set_cons_succ])
        refine wpPlan_take (v := ?_) (by kernel_rfl) (fun wS hSw => ?_) ?_
        rotate_left
        · (try dsimp only at hSw); go_simp; (try with_reducible rfl)
        (try simp only [Act.put, List.setIfInBounds_toArray, List.set_cons_zero, List.set_cons_succ])
        refine wpPlan_take (v := ?_) (by kernel_rfl) (fun wS hSw => ?_) ?_
        rotate_left
        · (try dsimp only at hSw); go_simp; (try with_reducible rfl)
        (try simp only [Act.put, List.setIfInBounds_toArray, List.set_cons_zero, List.set_cons_succ])
        refine wpPlan_take (v := ?_) (by kernel_rfl) (fun wS hSw => ?_) ?_
        rotate_left
        · (try dsimp only at hSw); go_simp; (try with_reducible rfl)
        (try simp only [Act.put, List.setIfInBounds_toArray, List.set_cons_zero, List.set_cons_succ])
        refine wpPlan_take (v := ?_) (by kernel_rfl) (fun wS hSw => ?_) ?_
        rotate_left
        · (try dsimp only at hSw); go_simp; (try with_reducible rfl)
        (try simp only [Act.put, List.setIfInBounds_toArray, List.set_cons_zero, List.set_cons_succ])
        refine wpPlan_take (v := ?_) (by kernel_rfl) (fun wS hSw => ?_) ?_
        rotate_left
        · (try dsimp only at hSw); go_simp; (try with_reducible rfl)
        (try simp only [Act.put, List.setIfInBounds_toArray, List.set_cons_zero, List.set_cons_succ])
        refine wpPlan_take (v := ?_) (by kernel_rfl) (fun wS hSw => ?_) ?_
        rotate_left
        · (try dsimp only at hSw); go_simp; (try with_reducible rfl)
        (try simp only [Act.put, List.setIfInBounds_toArray, List.set_cons_zero, List.set_cons_succ])
        refine wpPlan_call (by kernel_rfl) (fun K hK => ?_)
        have hOld := hide hHeld
        clear hHeld
        go_simp
        go_at_call 15
        refine (DFlushes_dk (HK6.out.below hOld.out.1) rfl).mono ?_
        rintro e w' ⟨rfl, rfl⟩
        refine hK.out _ _ (hOld.out) (fun hHeld => ?_)
        clear hK K
        (try simp only [Act.put, List.setIfInBounds_toArray, List.set_cons_zero, List.set_cons_succ])
        refine wpPlan_take (v := ?_) (by kernel_rfl) (fun wS hSw => ?_) ?_
        rotate_left
        · (try dsimp only at hSw); go_simp; (try with_reducible rfl)
        (try simp only [Act.put, List.setIfInBounds_toArray, List.set_cons_zero, List.set_cons_succ])
        refine wpPlan_take (v := ?_) (by kernel_rfl) (fun wS hSw => ?_) ?_
        rotate_left
        · (try dsimp only at hSw); go_simp; (try with_reducible rfl)
        (try simp only [Act.put, List.setIfInBounds_toArray, List.set_cons_zero, List.set_cons_succ])
        refine wpPlan_take (v := ?_) (by kernel_rfl) (fun wS hSw => ?_) ?_
        rotate_left
        · (try dsimp only at hSw); go_simp; (try with_reducible rfl)
        (try simp only [Act.put, List.setIfInBounds_toArray, List.set_cons_zero, List.set_cons_succ])
        refine wpPlan_take (v := ?_) (by kernel_rfl) (fun wS hSw => ?_) ?_
        rotate_left
        · (try dsimp only at hSw); go_simp; (try with_reducible rfl)
        (try simp only [Act.put, List.setIfInBounds_toArray, List.set_cons_zero, List.set_cons_succ])
        refine wpPlan_take (v := ?_) (by kernel_rfl) (fun wS hSw => ?_) ?_
        rotate_left
        · (try dsimp only at hSw); go_simp; (try with_reducible rfl)
        (try simp only [Act.put, List.setIfInBounds_toArray, List.set_cons_zero, List.set_cons_succ])
        refine wpPlan_call (by kernel_rfl) (fun K hK => ?_)
        have hOld := hide hHeld
        clear hHeld
        go_simp
        go_at_call 17
        refine (DWaiting_any (HK6.out.below hOld.out.1) (HOK'.out.ok (by omega))).mono ?_
        rintro e w' ⟨A8, n8, c8, rfl, how, hbel⟩
        have HW8 := hide how.rdE
        have hn8 : n8 ≤ 1000000 := by rw [← how.len, List.length_map]; have := HOK'.out.m; omega
        refine hK.out _ _ (⟨hOld.out.1.trans (hbel.mono hOld.out.1.size), cell_on hOld.out.2.1 hbel (Nat.lt_of_lt_of_le hg6 hOld.out.1.size), cell_on hOld.out.2.2.1 hbel (Nat.lt_of_lt_of_le hg6 hOld.out.1.size), cell_on hOld.out.2.2.2.1 hbel (Nat.lt_of_lt_of_le hg6 hOld.out.1.size), cell_on hOld.out.2.2.2.2.1 hbel (Nat.lt_of_lt_of_le hg6 hOld.out.1.size), cell_on hOld.out.2.2.2.2.2.1 hbel (Nat.lt_of_lt_of_le hg6 hOld.out.1.size), cell_on hOld.out.2.2.2.2.2.2 hbel (Nat.lt_of_lt_of_le hg6 hOld.out.1.size)⟩) (fun hHeld => ?_)
        clear hK K
        (try simp only [Act.put, List.setIfInBounds_toArray, List.set_cons_zero, List.set_cons_succ])
        refine wpPlan_call (by kernel_rfl) (fun K hK => ?_)
        have hOld := hide hHeld
        clear hHeld
        go_simp
        go_at_call 18
        refine (RDWaiting_any _ _ _ _ (HRW6.out.ond hOld.out.1).plain (by omega)).mono ?_
        rintro e w' ⟨A9, c9, rfl, hown, hbel⟩
        have HW9 := hide (hown.rd (by decide))
        have HW89 := hide (HW8.out.on hbel)
        refine hK.out _ _ (⟨hOld.out.1.trans (hbel.mono hOld.out.1.size), cell_on hOld.out.2.1 hbel (Nat.lt_of_lt_of_le hg6 hOld.out.1.size), cell_on hOld.out.2.2.1 hbel (Nat.lt_of_lt_of_le hg6 hOld.out.1.size), cell_on hOld.out.2.2.2.1 hbel (Nat.lt_of_lt_of_le hg6 hOld.out.1.size), cell_on hOld.out.2.2.2.2.1 hbel (Nat.lt_of_lt_of_le hg6 hOld.out.1.size), cell_on hOld.out.2.2.2.2.2.1 hbel (Nat.lt_of_lt_of_le hg6 hOld.out.1.size), cell_on hOld.out.2.2.2.2.2.2 hbel (Nat.lt_of_lt_of_le hg6 hOld.out.1.size)⟩) (fun hHeld => ?_)
        clear hK K
        (try simp only [Act.put, List.setIfInBounds_toArray, List.set_cons_zero, List.set_cons_succ])
        refine wpPlan_call (by kernel_rfl) (fun K hK => ?_)
        have hOld := hide hHeld
        clear hHeld
        go_simp
        go_at_call 16
        refine (EqI_any HW89.out HW9.out hn8).mono ?_
        rintro e w' ⟨rfl, hbel⟩
        refine hK.out _ _ (⟨hOld.out.1.trans (hbel.mono hOld.out.1.size), cell_on hOld.out.2.1 hbel (Nat.lt_of_lt_of_le hg6 hOld.out.1.size), cell_on hOld.out.2.2.1 hbel (Nat.lt_of_lt_of_le hg6 hOld.out.1.size), cell_on hOld.out.2.2.2.1 hbel (Nat.lt_of_lt_of_le hg6 hOld.out.1.size), cell_on hOld.out.2.2.2.2.1 hbel (Nat.lt_of_lt_of_le hg6 hOld.out.1.size), cell_on hOld.out.2.2.2.2.2.1 hbel (Nat.lt_of_lt_of_le hg6 hOld.out.1.size), cell_on hOld.out.2.2.2.2.2.2 hbel (Nat.lt_of_lt_of_le hg6 hOld.out.1.size)⟩) (fun hHeld => ?_)
        clear hK K
        (try simp only [Act.put, List.setIfInBounds_toArray, List.set_cons_zero, List.set_cons_succ])
        refine wpPlan_take (v := ?_) (by kernel_rfl) (fun wS hSw => ?_) ?_
        rotate_left
        · (try dsimp only at hSw); go_simp; (try with_reducible rfl)
        (try simp only [Act.put, List.setIfInBounds_toArray, List.set_cons_zero, List.set_cons_succ])
        refine wpPlan_take (v := ?_) (by kernel_rfl) (fun wS hSw => ?_) ?_
        rotate_left
        · (try dsimp only at hSw); go_simp; (try with_reducible rfl)
        (try simp only [Act.put, List.setIfInBounds_toArray, List.set_cons_zero, List.set_cons_succ])
        refine wpPlan_end ?_
        have HH := hide hHeld.1
        clear hHeld
        go_wp2_with fail
        go_roundw
        case rel => exact ⟨k + 1, s', _, _, _, _, _, by omega, by go_num, HK6.out.below HH.out, HOK'.out, H64'.out, HN'.out, row_on HR6.out HH.out, hnc6, hmc7, HRS6.out.ond HH.out, HRW6.out.ond HH.out, below_step HB6.out HH.out, Nat.le_trans HZ6.out HH.out.size⟩
        case measure => simp [intOf]; omega
      · obtain rfl : k = n := by omega
        clear hbel
        go_wp2_with fail
        clear hlt
        have hg6 : g6 < wr.heap.size := RowL.lt HR.out
        have hN1 : N ≤ 1000 := by rw [← HN.out]; exact HOK.out.n
        have hm2 : m2 ≤ 1000 := by rw [← HRW.out.len]; have := HOK.out.m; omega
        have HW64 : Hid (∀ p ∈ s.wait, p.2.length = 64) := hide (fun p hp => (HOK.out.at_ p hp).2.2)
        have HLR : Hid (s.last = readS s.safe s.wait) := hide (last_read HOK.out)
        have hdv : (((N : Nat) : Int) == IntKind.i64.wrap ((m : Int) / 64)) = true := by
          have h1 := HM.out.1
          have h2 := HNN.out
          rw [IntWalk.i64_in _ (by omega)]
          simp
          omega
        have c0 : wr.cell? ⟨g6, 0, none⟩ = some (.slice B N cb) := HR.out.cell 0
        have c1 : wr.cell? ⟨g6, 1, none⟩ = some (.slice B2 m2 cb2) := HR.out.cell 1
        have c2 : wr.cell? ⟨g6, 2, none⟩ = some (.int .i64 (leftR s)) := HR.out.cell 2
        have c3 : wr.cell? ⟨g6, 3, none⟩ = some (.int .i64 s.wr) := HR.out.cell 3
        have c4 : wr.cell? ⟨g6, 4, none⟩ = some (.int .i64 s.fl) := HR.out.cell 4
        have c5 : wr.cell? ⟨g6, 5, none⟩ = some (.bool s.off) := HR.out.cell 5
        refine wp_region_planN (fun w' => Below wr.heap.size wr w' ∧ w'.cell? ⟨g6, 0, none⟩ = some (.slice B N cb) ∧ w'.cell? ⟨g6, 1, none⟩ = some (.slice B2 m2 cb2) ∧ w'.cell? ⟨g6, 2, none⟩ = some (.int .i64 (leftR s)) ∧ w'.cell? ⟨g6, 3, none⟩ = some (.int .i64 s.wr) ∧ w'.cell? ⟨g6, 4, none⟩ = some (.int .i64 s.fl) ∧ w'.cell? ⟨g6, 5, none⟩ = some (.bool s.off)) [(0, true), (2, true), (1, false), (3, false), (4, false), (5, true), (6, true), (8, true), (7, false), (9, false), (10, false), (11, true), (12, true), (13, true), (15, true), (16, true), (17, true), (14, false), (18, true), (19, true), (20, true), (21, false), (22, true), (23, true)] (by kernel_rfl) (by kernel_rfl) (by kernel_rfl) (by kernel_rfl) rfl (fun _ _ _ _ _ h => h) ⟨below_drewN (below_self wr) 1, c0, c1, c2, c3, c4, c5⟩ (fun hHeld => ?_)
        simp only [planOps, List.filterMap_cons, List.filterMap_nil, List.getElem?_toArray, List.getElem?_cons_succ, List.getElem?_cons_zero, Option.map_some]
        refine wpPlan_take (v := ?_) (by kernel_rfl) (fun wS hSw => ?_) ?_
        rotate_left
        · (try dsimp only at hSw); go_simp; (try with_reducible rfl)
        (try simp only [Act.put, List.setIfInBounds_toArray, List.set_cons_zero, List.set_cons_succ])
        refine wpPlan_take (v := ?_) (by kernel_rfl) (fun wS hSw => ?_) ?_
        rotate_left
        · (try dsimp only at hSw); go_simp; (try with_reducible rfl)
        (try simp only [Act.put, List.setIfInBounds_toArray, List.set_cons_zero, List.set_cons_succ])
        refine wpPlan_call (by kernel_rfl) (fun K hK => ?_)
        have hOld := hide hHeld
        clear hHeld
        go_simp
        go_at_call 19
        refine (DSafe_any (HKr.out.below hOld.out.1) HN.out (by omega)).mono ?_
        rintro e w' ⟨A8, c8, rfl, hown, hbel⟩
        have HX8 := hide hown.bs
        refine hK.out _ _ (⟨hOld.out.1.trans (hbel.mono hOld.out.1.size), cell_on hOld.out.2.1 hbel (Nat.lt_of_lt_of_le hg6 hOld.out.1.size), cell_on hOld.out.2.2.1 hbel (Nat.lt_of_lt_of_le hg6 hOld.out.1.size), cell_on hOld.out.2.2.2.1 hbel (Nat.lt_of_lt_of_le hg6 hOld.out.1.size), cell_on hOld.out.2.2.2.2.1 hbel (Nat.lt_of_lt_of_le hg6 hOld.out.1.size), cell_on hOld.out.2.2.2.2.2.1 hbel (Nat.lt_of_lt_of_le hg6 hOld.out.1.size), cell_on hOld.out.2.2.2.2.2.2 hbel (Nat.lt_of_lt_of_le hg6 hOld.out.1.size)⟩) (fun hHeld => ?_)
        clear hK K
        (try simp only [Act.put, List.setIfInBounds_toArray, List.set_cons_zero, List.set_cons_succ])
        refine wpPlan_call (by kernel_rfl) (fun K hK => ?_)
        have hOld := hide hHeld
        clear hHeld
        go_simp
        go_at_call 20
        refine (RDSafe_any _ _ _ _ (HRS.out.ond hOld.out.1).plain (by omega) H64.out).mono ?_
        rintro e w' ⟨A9, c9, rfl, hown, hbel⟩
        have HX9 := hide hown.bs
        have HX89 := hide (HX8.out.below hbel)
        refine hK.out _ _ (⟨hOld.out.1.trans (hbel.mono hOld.out.1.size), cell_on hOld.out.2.1 hbel (Nat.lt_of_lt_of_le hg6 hOld.out.1.size), cell_on hOld.out.2.2.1 hbel (Nat.lt_of_lt_of_le hg6 hOld.out.1.size), cell_on hOld.out.2.2.2.1 hbel (Nat.lt_of_lt_of_le hg6 hOld.out.1.size), cell_on hOld.out.2.2.2.2.1 hbel (Nat.lt_of_lt_of_le hg6 hOld.out.1.size), cell_on hOld.out.2.2.2.2.2.1 hbel (Nat.lt_of_lt_of_le hg6 hOld.out.1.size), cell_on hOld.out.2.2.2.2.2.2 hbel (Nat.lt_of_lt_of_le hg6 hOld.out.1.size)⟩) (fun hHeld => ?_)
        clear hK K
        (try simp only [Act.put, List.setIfInBounds_toArray, List.set_cons_zero, List.set_cons_succ])
        refine wpPlan_call (by kernel_rfl) (fun K hK => ?_)
        have hOld := hide hHeld
        clear hHeld
        go_simp
        go_at_call 12
        refine (EqB_same HX89.out HX9.out).mono ?_
        rintro e w' ⟨rfl, rfl⟩
        refine hK.out _ _ (hOld.out) (fun hHeld => ?_)
        clear hK K
        (try simp only [Act.put, List.setIfInBounds_toArray, List.set_cons_zero, List.set_cons_succ])
        refine wpPlan_take (v := ?_) (by kernel_rfl) (fun wS hSw => ?_) ?_
        rotate_left
        · (try dsimp only at hSw); go_simp; (try with_reducible rfl)
        (try simp only [Act.put, List.setIfInBounds_toArray, List.set_cons_zero, List.set_cons_succ])
        refine wpPlan_take (v := ?_) (by kernel_rfl) (fun wS hSw => ?_) ?_
        rotate_left
        · (try dsimp only at hSw); go_simp; (try with_reducible rfl)
        (try simp only [Act.put, List.setIfInBounds_toArray, List.set_cons_zero, List.set_cons_succ])
        refine wpPlan_take (v := ?_) (by kernel_rfl) (fun wS hSw => ?_) ?_
        rotate_left
        · (try dsimp only at hSw); go_simp; (try with_reducible rfl)
        (try simp only [Act.put, List.setIfInBounds_toArray, List.set_cons_zero, List.set_cons_succ])
        refine wpPlan_call (by kernel_rfl) (fun K hK => ?_)
        have hOld := hide hHeld
        clear hHeld
        go_simp
        go_at_call 21
        refine (DBytes_any (HKr.out.below hOld.out.1) HN.out (by omega)).mono ?_
        rintro e w' ⟨A10, c10, rfl, hown, hbel⟩
        have HY8 := hide hown.bs
        rw [HLR.out] at HY8
        refine hK.out _ _ (⟨hOld.out.1.trans (hbel.mono hOld.out.1.size), cell_on hOld.out.2.1 hbel (Nat.lt_of_lt_of_le hg6 hOld.out.1.size), cell_on hOld.out.2.2.1 hbel (Nat.lt_of_lt_of_le hg6 hOld.out.1.size), cell_on hOld.out.2.2.2.1 hbel (Nat.lt_of_lt_of_le hg6 hOld.out.1.size), cell_on hOld.out.2.2.2.2.1 hbel (Nat.lt_of_lt_of_le hg6 hOld.out.1.size), cell_on hOld.out.2.2.2.2.2.1 hbel (Nat.lt_of_lt_of_le hg6 hOld.out.1.size), cell_on hOld.out.2.2.2.2.2.2 hbel (Nat.lt_of_lt_of_le hg6 hOld.out.1.size)⟩) (fun hHeld => ?_)
        clear hK K
        (try simp only [Act.put, List.setIfInBounds_toArray, List.set_cons_zero, List.set_cons_succ])
        refine wpPlan_call (by kernel_rfl) (fun K hK => ?_)
        have hOld := hide hHeld
        clear hHeld
        go_simp
        go_at_call 22
        refine (RDBytes_any _ _ _ _ (HRS.out.ond hOld.out.1).plain (HRW.out.ond hOld.out.1).plain (by omega) (by omega) H64.out HW64.out).mono ?_
        rintro e w' ⟨A11, c11, rfl, hown, hbel⟩
        have HY9 := hide hown.bs
        have HY89 := hide (HY8.out.below hbel)
        refine hK.out _ _ (⟨hOld.out.1.trans (hbel.mono hOld.out.1.size), cell_on hOld.out.2.1 hbel (Nat.lt_of_lt_of_le hg6 hOld.out.1.size), cell_on hOld.out.2.2.1 hbel (Nat.lt_of_lt_of_le hg6 hOld.out.1.size), cell_on hOld.out.2.2.2.1 hbel (Nat.lt_of_lt_of_le hg6 hOld.out.1.size), cell_on hOld.out.2.2.2.2.1 hbel (Nat.lt_of_lt_of_le hg6 hOld.out.1.size), cell_on hOld.out.2.2.2.2.2.1 hbel (Nat.lt_of_lt_of_le hg6 hOld.out.1.size), cell_on hOld.out.2.2.2.2.2.2 hbel (Nat.lt_of_lt_of_le hg6 hOld.out.1.size)⟩) (fun hHeld => ?_)
        clear hK K
        (try simp only [Act.put, List.setIfInBounds_toArray, List.set_cons_zero, List.set_cons_succ])
        refine wpPlan_call (by kernel_rfl) (fun K hK => ?_)
        have hOld := hide hHeld
        clear hHeld
        go_simp
        go_at_call 12
        refine (EqB_same HY89.out HY9.out).mono ?_
        rintro e w' ⟨rfl, rfl⟩
        refine hK.out _ _ (hOld.out) (fun hHeld => ?_)
        clear hK K
        (try simp only [Act.put, List.setIfInBounds_toArray, List.set_cons_zero, List.set_cons_succ])
        refine wpPlan_take (v := ?_) (by kernel_rfl) (fun wS hSw => ?_) ?_
        rotate_left
        · (try dsimp only at hSw); go_simp; (try with_reducible rfl)
        (try simp only [Act.put, List.setIfInBounds_toArray, List.set_cons_zero, List.set_cons_succ])
        refine wpPlan_take (v := ?_) (by kernel_rfl) (fun wS hSw => ?_) ?_
        rotate_left
        · (try dsimp only at hSw); go_simp; (try with_reducible rfl)
        (try simp only [Act.put, List.setIfInBounds_toArray, List.set_cons_zero, List.set_cons_succ])
        refine wpPlan_take (v := ?_) (by kernel_rfl) (fun wS hSw => ?_) ?_
        rotate_left
        · (try dsimp only at hSw); go_simp; (try with_reducible rfl)
        (try simp only [Act.put, List.setIfInBounds_toArray, List.set_cons_zero, List.set_cons_succ])
        refine wpPlan_take (v := ?_) (by kernel_rfl) (fun wS hSw => ?_) ?_
        rotate_left
        · (try dsimp only at hSw); go_simp; (try with_reducible rfl)
        (try simp only [Act.put, List.setIfInBounds_toArray, List.set_cons_zero, List.set_cons_succ])
        refine wpPlan_take (v := ?_) (by kernel_rfl) (fun wS hSw => ?_) ?_
        rotate_left
        · (try dsimp only at hSw); go_simp; (try with_reducible rfl)
        (try simp only [Act.put, List.setIfInBounds_toArray, List.set_cons_zero, List.set_cons_succ])
        refine wpPlan_take (v := ?_) (by kernel_rfl) (fun wS hSw => ?_) ?_
        rotate_left
        · (try dsimp only at hSw); go_simp; (try with_reducible rfl)
        (try simp only [Act.put, List.setIfInBounds_toArray, List.set_cons_zero, List.set_cons_succ])
        refine wpPlan_call (by kernel_rfl) (fun K hK => ?_)
        have hOld := hide hHeld
        clear hHeld
        go_simp
        go_at_call 23
        refine (DSize_dk (HKr.out.below hOld.out.1) HN.out).mono ?_
        rintro e w' ⟨rfl, rfl⟩
        refine hK.out _ _ (hOld.out) (fun hHeld => ?_)
        clear hK K
        (try simp only [Act.put, List.setIfInBounds_toArray, List.set_cons_zero, List.set_cons_succ])
        refine wpPlan_take (v := ?_) (by kernel_rfl) (fun wS hSw => ?_) ?_
        rotate_left
        · (try dsimp only at hSw); go_simp; (try with_reducible rfl)
        (try simp only [Act.put, List.setIfInBounds_toArray, List.set_cons_zero, List.set_cons_succ])
        refine wpPlan_take (v := ?_) (by kernel_rfl) (fun wS hSw => ?_) ?_
        rotate_left
        · (try dsimp only at hSw); go_simp; (try with_reducible rfl)
        (try simp only [Act.put, List.setIfInBounds_toArray, List.set_cons_zero, List.set_cons_succ])
        refine wpPlan_take (v := ?_) (by kernel_rfl) (fun wS hSw => ?_) ?_
        rotate_left
        · (try dsimp only at hSw); go_simp; (try with_reducible rfl)
        (try simp only [Act.put, List.setIfInBounds_toArray, List.set_cons_zero, List.set_cons_succ])
        refine wpPlan_call (by kernel_rfl) (fun K hK => ?_)
        have hOld := hide hHeld
        clear hHeld
        go_simp
        go_at_call 7
        refine (awake5_any _).mono ?_
        rintro e w' ⟨rfl, hbel⟩
        refine hK.out _ _ (⟨hOld.out.1.trans (hbel.mono hOld.out.1.size), cell_on hOld.out.2.1 hbel (Nat.lt_of_lt_of_le hg6 hOld.out.1.size), cell_on hOld.out.2.2.1 hbel (Nat.lt_of_lt_of_le hg6 hOld.out.1.size), cell_on hOld.out.2.2.2.1 hbel (Nat.lt_of_lt_of_le hg6 hOld.out.1.size), cell_on hOld.out.2.2.2.2.1 hbel (Nat.lt_of_lt_of_le hg6 hOld.out.1.size), cell_on hOld.out.2.2.2.2.2.1 hbel (Nat.lt_of_lt_of_le hg6 hOld.out.1.size), cell_on hOld.out.2.2.2.2.2.2 hbel (Nat.lt_of_lt_of_le hg6 hOld.out.1.size)⟩) (fun hHeld => ?_)
        clear hK K
        (try simp only [Act.put, List.setIfInBounds_toArray, List.set_cons_zero, List.set_cons_succ])
        refine wpPlan_take (v := ?_) (by kernel_rfl) (fun wS hSw => ?_) ?_
        rotate_left
        · (try dsimp only at hSw); go_simp; (try with_reducible rfl)
        (try simp only [Act.put, List.setIfInBounds_toArray, List.set_cons_zero, List.set_cons_succ])
        refine wpPlan_take (v := ?_) (by kernel_rfl) (fun wS hSw => ?_) ?_
        rotate_left
        · (try dsimp only at hSw); go_simp; (try with_reducible rfl)
        (try simp only [Act.put, List.setIfInBounds_toArray, List.set_cons_zero, List.set_cons_succ])
        refine wpPlan_end ?_
        have HH := hide hHeld.1
        clear hHeld
        go_wp2_with fail
        go_ret
        exact LawOk.of (below_step HBr.out HH.out)
end Go.Proofs.Ytnjmddmiebofeaa
