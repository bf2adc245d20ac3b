/- The walk of the law InodeGets: it is true for any bytes. -/
import Derived.Test.YtnjmddmiebofeaaDoorInoJ
namespace Go.Proofs.YtnjmddmiebofeaaDoor
open Go.RowKit Plain

theorem neq_self (x : InoV) (w : World) : (binOp .neq 24 (.agg #[.int .i64 x.k, .int .i64 x.i, .int .i64 x.n, .int .i64 x.g, .int .i64 x.s, .int .i64 x.p, .int .i64 x.q, .int .i64 x.r, .int .i64 x.t, .int .i64 x.a]) (.agg #[.int .i64 x.k, .int .i64 x.i, .int .i64 x.n, .int .i64 x.g, .int .i64 x.s, .int .i64 x.p, .int .i64 x.q, .int .i64 x.r, .int .i64 x.t, .int .i64 x.a])).run Tryd.prog w = .ok (.bool false) w := by
  simp [go_sem, eq_ptrs]
theorem got_right {l : List UInt8} (h : gotB l = true) : rightI (gotI l) = true ∧ putI (gotI l) = l := by
  have e : gotI l = toldI l := by unfold gotI; rw [if_pos h]
  rw [e]
  unfold gotB at h
  rw [Bool.and_eq_true, beq_iff_eq] at h
  exact ⟨h.1, h.2.symm⟩
set_option maxRecDepth 100000 in
set_option maxHeartbeats 3200000 in
theorem law_InodeGets {A : Option Addr} {m c : Nat} {l : List UInt8} (w : World) (ha : Bs w w.heap.size A m l) (hmc : m ≤ c) (hs : SzW w) : Calls Tryd.prog 4 #[.slice A m c] w (LawOk w) := by
  by_cases hm : 2000 < m
  · clear ha hmc
    have hd : decide ((2000 : Int) < (m : Int)) = true := by simp; omega
    have HS := hide hs
    clear hs
    go_enter Tryd.func4, Tryd.ntmps4
    go_wp2_with fail
    refine (awake7_any _ HS.out).mono ?_
    rintro e w' ⟨rfl, hbel⟩
    have HB := hide hbel
    clear hbel
    go_wp2_with fail
    go_ret
    exact LawOk.of HB.out
  have hd : decide ((2000 : Int) < (m : Int)) = false := by simp; omega
  have hm' : m ≤ 2000 := by omega
  obtain ⟨x, hx⟩ : ∃ x, gotI l = x := ⟨_, rfl⟩
  obtain ⟨ok, hok⟩ : ∃ ok, gotB l = ok := ⟨_, rfl⟩
  have hne := neq_self x
  have hoo : (ok != ok) = false := by simp
  have HA := hide ha
  have HS := hide hs
  have HX := hide hx
  have HOK := hide hok
  clear ha hs hm hx hok
  go_enter Tryd.func4, Tryd.ntmps4
  go_wp2_with fail
  refine (IGet_any _ HA.out hmc (by omega) HS.out).mono ?_
  rintro e w2 ⟨rfl, hbel⟩
  rw [HX.out, HOK.out]
  obtain ⟨hr3, hb3, hs3⟩ := rows1 w2 [.int .i64 x.k, .int .i64 x.i, .int .i64 x.n, .int .i64 x.g, .int .i64 x.s, .int .i64 x.p, .int .i64 x.q, .int .i64 x.r, .int .i64 x.t, .int .i64 x.a] 24
  have HB3 := hide (hbel.trans (hb3.mono hbel.size))
  have HX3 := hide hr3
  have HA3 := hide (HA.out.below HB3.out |>.more HB3.out.size)
  have HS3 := hide (HS.out.below HB3.out)
  clear hbel hr3 hb3 hs3 HA HS
  go_wp2_with fail
  generalize (w2.alloc (.cells [.int .i64 x.k, .int .i64 x.i, .int .i64 x.n, .int .i64 x.g, .int .i64 x.s, .int .i64 x.p, .int .i64 x.q, .int .i64 x.r, .int .i64 x.t, .int .i64 x.a].toArray 24)) = w3 at *
  generalize w2.heap.size = g2 at *
  refine (RIGet_any _ HA3.out (by omega)).mono ?_
  rintro e w4 ⟨rfl, hbel⟩
  rw [HX.out, HOK.out]
  obtain ⟨hr5, hb5, hs5⟩ := rows1 w4 [.int .i64 x.k, .int .i64 x.i, .int .i64 x.n, .int .i64 x.g, .int .i64 x.s, .int .i64 x.p, .int .i64 x.q, .int .i64 x.r, .int .i64 x.t, .int .i64 x.a] 24
  have hbb := hbel.trans (hb5.mono hbel.size)
  have HB5 := hide (below_step HB3.out hbb)
  have HX5 := hide (HX3.out.on hbb)
  have HY5 := hide hr5
  have HA5 := hide (HA3.out.below hbb |>.more hbb.size)
  have HS5 := hide (HS3.out.below hbb)
  clear hbel hr5 hb5 hs5 hbb HA3 HS3 HB3 HX3
  have hg5 : g2 < (w4.alloc (.cells [.int .i64 x.k, .int .i64 x.i, .int .i64 x.n, .int .i64 x.g, .int .i64 x.s, .int .i64 x.p, .int .i64 x.q, .int .i64 x.r, .int .i64 x.t, .int .i64 x.a].toArray 24)).heap.size := HX5.out.lt
  have z0 : (w4.alloc (.cells [.int .i64 x.k, .int .i64 x.i, .int .i64 x.n, .int .i64 x.g, .int .i64 x.s, .int .i64 x.p, .int .i64 x.q, .int .i64 x.r, .int .i64 x.t, .int .i64 x.a].toArray 24)).cell? ⟨g2, 0, none⟩ = some (.int .i64 x.k) := HX5.out.cell 0
  have z1 : (w4.alloc (.cells [.int .i64 x.k, .int .i64 x.i, .int .i64 x.n, .int .i64 x.g, .int .i64 x.s, .int .i64 x.p, .int .i64 x.q, .int .i64 x.r, .int .i64 x.t, .int .i64 x.a].toArray 24)).cell? ⟨g2, 1, none⟩ = some (.int .i64 x.i) := HX5.out.cell 1
  have z2 : (w4.alloc (.cells [.int .i64 x.k, .int .i64 x.i, .int .i64 x.n, .int .i64 x.g, .int .i64 x.s, .int .i64 x.p, .int .i64 x.q, .int .i64 x.r, .int .i64 x.t, .int .i64 x.a].toArray 24)).cell? ⟨g2, 2, none⟩ = some (.int .i64 x.n) := HX5.out.cell 2
  have z3 : (w4.alloc (.cells [.int .i64 x.k, .int .i64 x.i, .int .i64 x.n, .int .i64 x.g, .int .i64 x.s, .int .i64 x.p, .int .i64 x.q, .int .i64 x.r, .int .i64 x.t, .int .i64 x.a].toArray 24)).cell? ⟨g2, 3, none⟩ = some (.int .i64 x.g) := HX5.out.cell 3
  have z4 : (w4.alloc (.cells [.int .i64 x.k, .int .i64 x.i, .int .i64 x.n, .int .i64 x.g, .int .i64 x.s, .int .i64 x.p, .int .i64 x.q, .int .i64 x.r, .int .i64 x.t, .int .i64 x.a].toArray 24)).cell? ⟨g2, 4, none⟩ = some (.int .i64 x.s) := HX5.out.cell 4
  have z5 : (w4.alloc (.cells [.int .i64 x.k, .int .i64 x.i, .int .i64 x.n, .int .i64 x.g, .int .i64 x.s, .int .i64 x.p, .int .i64 x.q, .int .i64 x.r, .int .i64 x.t, .int .i64 x.a].toArray 24)).cell? ⟨g2, 5, none⟩ = some (.int .i64 x.p) := HX5.out.cell 5
  have z6 : (w4.alloc (.cells [.int .i64 x.k, .int .i64 x.i, .int .i64 x.n, .int .i64 x.g, .int .i64 x.s, .int .i64 x.p, .int .i64 x.q, .int .i64 x.r, .int .i64 x.t, .int .i64 x.a].toArray 24)).cell? ⟨g2, 6, none⟩ = some (.int .i64 x.q) := HX5.out.cell 6
  have z7 : (w4.alloc (.cells [.int .i64 x.k, .int .i64 x.i, .int .i64 x.n, .int .i64 x.g, .int .i64 x.s, .int .i64 x.p, .int .i64 x.q, .int .i64 x.r, .int .i64 x.t, .int .i64 x.a].toArray 24)).cell? ⟨g2, 7, none⟩ = some (.int .i64 x.r) := HX5.out.cell 7
  have z8 : (w4.alloc (.cells [.int .i64 x.k, .int .i64 x.i, .int .i64 x.n, .int .i64 x.g, .int .i64 x.s, .int .i64 x.p, .int .i64 x.q, .int .i64 x.r, .int .i64 x.t, .int .i64 x.a].toArray 24)).cell? ⟨g2, 8, none⟩ = some (.int .i64 x.t) := HX5.out.cell 8
  have z9 : (w4.alloc (.cells [.int .i64 x.k, .int .i64 x.i, .int .i64 x.n, .int .i64 x.g, .int .i64 x.s, .int .i64 x.p, .int .i64 x.q, .int .i64 x.r, .int .i64 x.t, .int .i64 x.a].toArray 24)).cell? ⟨g2, 9, none⟩ = some (.int .i64 x.a) := HX5.out.cell 9
  go_wp2_with fail
  refine (IPut_any x _ HS5.out).mono ?_
  rintro e w6 ⟨A6, n6, c6, rfl, hown, hbel⟩
  have HP6 := hide hown.bs
  have HA6 := hide (HA5.out.below hbel)
  have HS6 := hide (HS5.out.below hbel)
  have HB6 := hide (below_step HB5.out hbel)
  clear hown hbel HA5 HS5 HB5 HX5 HY5 hg5 z0 z1 z2 z3 z4 z5 z6 z7 z8 z9
  cases ok with
  | false =>
    go_wp2_with fail
    refine (awake7_any _ HS6.out).mono ?_
    rintro e w7 ⟨rfl, hbel⟩
    have HB7 := hide (below_step HB6.out hbel)
    clear hbel HB6
    go_wp2_with fail
    go_ret
    exact LawOk.of HB7.out
  | true =>
    have hgr := got_right HOK.out
    rw [HX.out] at hgr
    have e1 : errI x = 0 := by unfold errI; rw [hgr.1]; rfl
    rw [e1]
    rw [hgr.2] at HP6
    clear hgr e1
    go_wp2_with fail
    refine (Equal_any _ HA6.out HP6.out).mono ?_
    rintro e w' ⟨rfl, rfl⟩
    rw [beq_self_eq_true]
    go_wp2_with fail
    refine (awake7_any _ HS6.out).mono ?_
    rintro e w7 ⟨rfl, hbel⟩
    have HB7 := hide (below_step HB6.out hbel)
    clear hbel HB6
    go_wp2_with fail
    go_ret
    exact LawOk.of HB7.out
end Go.Proofs.YtnjmddmiebofeaaDoor
