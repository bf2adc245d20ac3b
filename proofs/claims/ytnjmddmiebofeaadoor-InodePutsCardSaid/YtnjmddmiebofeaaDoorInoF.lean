/- inode.told, Get, Fresh (layer 7). -/
import Derived.Test.YtnjmddmiebofeaaDoorInoE
import Derived.Test.YtnjmddmiebofeaaDoorNumL
namespace Go.Proofs.YtnjmddmiebofeaaDoor
open Go.RowKit Plain

/-- Where each number lies. -/
def ofN (j : Nat) : Nat := match j with
  | 0 => 0
  | 1 => 1
  | 2 => 2
  | 3 => 4
  | 4 => 8
  | 5 => 10
  | 6 => 12
  | 7 => 14
  | 8 => 16
  | 9 => 18
  | 10 => 20
  | _ => 0
theorem ofN_succ {j : Nat} (h : j < 10) : ((ofN j : Nat) : Int) + sz0.num j = (ofN (j + 1) : Nat) ∧ ofN j ≤ 18 := by
  obtain rfl | rfl | rfl | rfl | rfl | rfl | rfl | rfl | rfl | rfl : j = 0 ∨ j = 1 ∨ j = 2 ∨ j = 3 ∨ j = 4 ∨ j = 5 ∨ j = 6 ∨ j = 7 ∨ j = 8 ∨ j = 9 := by omega
  all_goals exact ⟨by decide, by decide⟩
theorem sz_index {j : Nat} (h : j < 10) (w : World) : (Instr.index 37 (.agg #[.int .i64 1, .int .i64 1, .int .i64 2, .int .i64 4, .int .i64 2, .int .i64 2, .int .i64 2, .int .i64 2, .int .i64 2, .int .i64 2]) (.int .i64 j)).run Tryd.prog w = .ok (.int .i64 (sz0.num j)) w := num_index sz0 h w
/-- What bytes say of an inode. -/
def toldI (l : List UInt8) : InoV := ⟨getR l 0 1, getR l 1 1, getR l 2 2, getR l 4 4, getR l 8 2, getR l 10 2, getR l 12 2, getR l 14 2, getR l 16 2, getR l 18 2⟩
theorem told_num (l : List UInt8) {j : Nat} (h : j < 10) : (toldI l).num j = getR l (ofN j) (sz0.num j) := by
  obtain rfl | rfl | rfl | rfl | rfl | rfl | rfl | rfl | rfl | rfl : j = 0 ∨ j = 1 ∨ j = 2 ∨ j = 3 ∨ j = 4 ∨ j = 5 ∨ j = 6 ∨ j = 7 ∨ j = 8 ∨ j = 9 := by omega
  all_goals rfl
/-- told's row when j numbers are there. -/
def rowN (x : InoV) (j : Nat) : List Value := [.int .i64 (if 0 < j then x.k else 0), .int .i64 (if 1 < j then x.i else 0), .int .i64 (if 2 < j then x.n else 0), .int .i64 (if 3 < j then x.g else 0), .int .i64 (if 4 < j then x.s else 0), .int .i64 (if 5 < j then x.p else 0), .int .i64 (if 6 < j then x.q else 0), .int .i64 (if 7 < j then x.r else 0), .int .i64 (if 8 < j then x.t else 0), .int .i64 (if 9 < j then x.a else 0)]
theorem rowN_get (x : InoV) {j : Nat} (h : j < 10) : (rowN x j)[j]? = some (.int .i64 0) := by
  obtain rfl | rfl | rfl | rfl | rfl | rfl | rfl | rfl | rfl | rfl : j = 0 ∨ j = 1 ∨ j = 2 ∨ j = 3 ∨ j = 4 ∨ j = 5 ∨ j = 6 ∨ j = 7 ∨ j = 8 ∨ j = 9 := by omega
  all_goals simp [rowN]
theorem rowN_set (x : InoV) {j : Nat} (h : j < 10) : (rowN x j).set j (.int .i64 (x.num j)) = rowN x (j + 1) := by
  obtain rfl | rfl | rfl | rfl | rfl | rfl | rfl | rfl | rfl | rfl : j = 0 ∨ j = 1 ∨ j = 2 ∨ j = 3 ∨ j = 4 ∨ j = 5 ∨ j = 6 ∨ j = 7 ∨ j = 8 ∨ j = 9 := by omega
  all_goals simp [rowN, InoV.num]
theorem rowN_0 (x : InoV) : rowN x 0 = [.int .i64 0, .int .i64 0, .int .i64 0, .int .i64 0, .int .i64 0, .int .i64 0, .int .i64 0, .int .i64 0, .int .i64 0, .int .i64 0] := by simp [rowN]
theorem rowN_10 (x : InoV) : rowN x 10 = [.int .i64 x.k, .int .i64 x.i, .int .i64 x.n, .int .i64 x.g, .int .i64 x.s, .int .i64 x.p, .int .i64 x.q, .int .i64 x.r, .int .i64 x.t, .int .i64 x.a] := by simp [rowN]

set_option maxRecDepth 100000 in
set_option maxHeartbeats 1600000 in
theorem told_any {A : Option Addr} {m c : Nat} {l : List UInt8} {x : InoV} (w : World) (ha : Bs w w.heap.size A m l) (hmc : m ≤ c) (hm : m ≤ 100000) (hs : SzW w) (hx : toldI l = x) : Calls Tryd.prog 21 #[.slice A m c] w (VRet w (.agg #[.int .i64 x.k, .int .i64 x.i, .int .i64 x.n, .int .i64 x.g, .int .i64 x.s, .int .i64 x.p, .int .i64 x.q, .int .i64 x.r, .int .i64 x.t, .int .i64 x.a])) := by
  obtain ⟨hr1, hr2, hb, hsz⟩ := rows2 w [.int .i64 0, .int .i64 0, .int .i64 0, .int .i64 0, .int .i64 0, .int .i64 0, .int .i64 0, .int .i64 0, .int .i64 0, .int .i64 0] [.int .i64 0, .int .i64 0, .int .i64 0, .int .i64 0, .int .i64 0, .int .i64 0, .int .i64 0, .int .i64 0, .int .i64 0, .int .i64 0] 24 37
  have HA := hide (ha.below hb)
  have HR1 := hide hr1
  have HR2 := hide hr2
  have HB := hide hb
  have HS := hide (hs.below hb)
  have c0 := hs 0 (by omega)
  have c1 := hs 1 (by omega)
  have c2 := hs 2 (by omega)
  have c3 := hs 3 (by omega)
  have c4 := hs 4 (by omega)
  have c5 := hs 5 (by omega)
  have c6 := hs 6 (by omega)
  have c7 := hs 7 (by omega)
  have c8 := hs 8 (by omega)
  have c9 := hs 9 (by omega)
  simp only [sz0, InoV.num] at c0 c1 c2 c3 c4 c5 c6 c7 c8 c9
  have hg0 : 0 < w.heap.size := hs.lt
  have HX := hide hx
  clear hr1 hr2 hb hsz ha hx hs
  go_enter Tryd.func21, Tryd.ntmps21
  go_wp2_with fail
  generalize ((w.alloc (.cells [.int .i64 0, .int .i64 0, .int .i64 0, .int .i64 0, .int .i64 0, .int .i64 0, .int .i64 0, .int .i64 0, .int .i64 0, .int .i64 0].toArray 24)).alloc (.cells [.int .i64 0, .int .i64 0, .int .i64 0, .int .i64 0, .int .i64 0, .int .i64 0, .int .i64 0, .int .i64 0, .int .i64 0, .int .i64 0].toArray 37)) = w2 at *
  clear c0 c1 c2 c3 c4 c5 c6 c7 c8 c9
  go_loopw [4, 8] (fun v iv wr => ∃ j : Nat, j ≤ 10 ∧ iv = .int .i64 j ∧ v = .int .i64 (ofN j : Nat) ∧ RowL wr (w.heap.size + 1) 37 (rowN x j) ∧ RowL wr w.heap.size 24 [.int .i64 0, .int .i64 0, .int .i64 0, .int .i64 0, .int .i64 0, .int .i64 0, .int .i64 0, .int .i64 0, .int .i64 0, .int .i64 0] ∧ Below w.heap.size w wr ∧ Bs wr w.heap.size A m l ∧ SzW wr) (fun _ iv _ => 10 - (intOf iv).toNat)
  case atStart => exact ⟨0, by omega, rfl, rfl, by rw [rowN_0]; exact HR2.out, HR1.out, HB.out, HA.out, HS.out⟩
  case round =>
    obtain ⟨j, hj, rfl, rfl, hr2, hr1, hbel, hbs, hsw⟩ := hrel
    have HRj := hide hr2
    have HR0 := hide hr1
    have HBj := hide hbel
    have HAj := hide hbs
    have HSj := hide hsw
    have hg1 : w.heap.size < wr.heap.size := HR0.out.lt
    have hg2 : w.heap.size + 1 < wr.heap.size := HRj.out.lt
    clear hr2 hr1 hbel hbs hsw HA HR1 HR2 HB HS
    by_cases hlt : j < 10
    · have hi := sz_index hlt
      have hc : wr.cell? ⟨w.heap.size + 1, j, none⟩ = some (.int .i64 0) := by rw [HRj.out.cell, rowN_get _ hlt]
      have hf : wr.frozen? ⟨w.heap.size + 1, j, none⟩ = false := HRj.out.frozen _
      obtain ⟨s, hs⟩ : ∃ s, sz0.num j = s := ⟨_, rfl⟩
      obtain ⟨o, ho⟩ : ∃ o, ofN j = o := ⟨_, rfl⟩
      obtain ⟨v, hv⟩ : ∃ v, getR l o s = v := ⟨_, rfl⟩
      have hn := ofN_succ hlt
      have hz := sz_isz hlt
      have ht := told_num l hlt
      rw [hs] at hi
      rw [ho, hs] at hn
      rw [hs] at hz
      rw [ho, hs, hv, HX.out] at ht
      have hs1 := hz.1
      have hs4 := hz.2
      have ho18 := hn.2
      have HN := hide hn.1
      have HV := hide hv
      have HT := hide ht
      have HO := hide ho
      rw [ho]
      clear hs ho hv hn hz ht
      go_wp2_with fail
      refine (Get_any _ HAj.out (by omega) hmc).mono ?_
      rintro e w' ⟨rfl, rfl⟩
      rw [HV.out]
      go_wp2_with fail
      go_roundw
      case rel => exact ⟨j + 1, by omega, by go_num, by rw [HN.out], by rw [← rowN_set _ hlt, HT.out]; exact HRj.out.set_ _ _, HR0.out.grown (grown_cell _ _ _ _) (by intro h; have := Option.some.inj h; omega), HBj.out.setCell (p := ⟨w.heap.size + 1, j, none⟩) (by show _ ≤ w.heap.size + 1; omega) _, HAj.out.grown (grown_cell _ _ _ _) (by omega) (by intro g h; have := Option.some.inj h; omega), fun i hi => (World.cell?_of_block (Below.heap_setCell _ _ _ _ (by show (0 : Nat) ≠ w.heap.size + 1; omega))).trans (HSj.out i hi)⟩
      case measure => simp [intOf]; omega
    · obtain rfl : j = 10 := by omega
      have HRf := HRj
      rw [rowN_10] at HRf
      clear HRj
      go_wp2_with ((with_reducible refine wpList_loadW rfl 37 (.tmp 3) rfl 10 num_agg num_size (w.heap.size + 1) 37 rfl [.int .i64 x.k, .int .i64 x.i, .int .i64 x.n, .int .i64 x.g, .int .i64 x.s, .int .i64 x.p, .int .i64 x.q, .int .i64 x.r, .int .i64 x.t, .int .i64 x.a] HRf.out len10 ?_))
      refine (together_any _ _ _ _ _ _ _ _ _ _ _).mono ?_
      rintro e w3 ⟨rfl, hbel⟩
      have HB3 := hide (below_step HBj.out hbel)
      have HR3 := hide (HR0.out.on hbel)
      clear hbel
      go_wp2_with ((with_reducible refine wpList_storeW rfl 24 (.tmp 2) (.tmp 26) rfl 10 ino_size w.heap.size 24 rfl [.int .i64 0, .int .i64 0, .int .i64 0, .int .i64 0, .int .i64 0, .int .i64 0, .int .i64 0, .int .i64 0, .int .i64 0, .int .i64 0] [.int .i64 x.k, .int .i64 x.i, .int .i64 x.n, .int .i64 x.g, .int .i64 x.s, .int .i64 x.p, .int .i64 x.q, .int .i64 x.r, .int .i64 x.t, .int .i64 x.a] rfl HR3.out len10 len10 ints10 ?_); intro w6 hr6 hg6 hs6; have HR6 := hide hr6; have HB6 := hide (HB3.out.grown hg6 HB3.out.size (fun g hg => by have := Option.some.inj hg; omega)); clear hr6 hg6 hs6)
      exact bodyPost_ret (res_cell Tryd.results21 rfl ino_agg ino_size HR6.out len10) rfl (VRet.of HB6.out)
/-- The inode that bytes are; is there one? -/
def gotB (l : List UInt8) : Bool := rightI (toldI l) && (l == putI (toldI l))
def gotI (l : List UInt8) : InoV := if gotB l = true then toldI l else ino0
/-- It returns an inode, and whether there is one. -/
def IRet (w : World) (x : InoV) (b : Bool) (e : Ending) (w' : World) : Prop := e = .returned (.tuple #[.agg #[.int .i64 x.k, .int .i64 x.i, .int .i64 x.n, .int .i64 x.g, .int .i64 x.s, .int .i64 x.p, .int .i64 x.q, .int .i64 x.r, .int .i64 x.t, .int .i64 x.a], .bool b]) ∧ Below w.heap.size w w'
set_option maxRecDepth 100000 in
set_option maxHeartbeats 1600000 in
theorem IGet_any {A : Option Addr} {m c : Nat} {l : List UInt8} (w : World) (ha : Bs w w.heap.size A m l) (hmc : m ≤ c) (hm : m ≤ 100000) (hs : SzW w) : Calls Tryd.prog 10 #[.slice A m c] w (IRet w (gotI l) (gotB l)) := by
  obtain ⟨x, hx⟩ : ∃ x, toldI l = x := ⟨_, rfl⟩
  obtain ⟨hr1, hb, hsz⟩ := rows1 w [.int .i64 0, .int .i64 0, .int .i64 0, .int .i64 0, .int .i64 0, .int .i64 0, .int .i64 0, .int .i64 0, .int .i64 0, .int .i64 0] 24
  have HA := hide ((ha.below hb).more hb.size)
  have HR1 := hide hr1
  have HB := hide hb
  have HS := hide (hs.below hb)
  have HX := hide hx
  obtain ⟨ok, hok⟩ : ∃ ok, gotB l = ok := ⟨_, rfl⟩
  obtain ⟨y, hy⟩ : ∃ y, gotI l = y := ⟨_, rfl⟩
  have hgo : ok = (rightI x && (l == putI x)) := by rw [← hok, ← hx]; rfl
  have hgi : y = if ok = true then x else ino0 := by rw [← hy]; unfold gotI; rw [hok, hx]
  rw [hok, hy]
  have HGO := hide hgo
  have HGI := hide hgi
  clear hr1 hb hsz ha hs hx hok hy hgo hgi
  go_enter Tryd.func10, Tryd.ntmps10
  go_wp2_with fail
  refine (told_any _ HA.out hmc hm HS.out HX.out).mono ?_
  rintro e w2 ⟨rfl, hbel⟩
  obtain ⟨hr4, hb4, hs4⟩ := rows1 w2 [.int .i64 x.k, .int .i64 x.i, .int .i64 x.n, .int .i64 x.g, .int .i64 x.s, .int .i64 x.p, .int .i64 x.q, .int .i64 x.r, .int .i64 x.t, .int .i64 x.a] 24
  have HB2 := hide (below_step (below_step HB.out hbel) hb4)
  have HR2 := hide ((HR1.out.on hbel).on hb4)
  have HR4 := hide hr4
  have HA2 := hide ((HA.out.below (hbel.trans (hb4.mono hbel.size))).more (Nat.le_trans hbel.size hb4.size))
  have HS2 := hide ((HS.out.below hbel).below hb4)
  clear hbel hr4 hb4 hs4 HB HR1 HA HS
  go_wp2_with fail
  generalize (w2.alloc (.cells [.int .i64 x.k, .int .i64 x.i, .int .i64 x.n, .int .i64 x.g, .int .i64 x.s, .int .i64 x.p, .int .i64 x.q, .int .i64 x.r, .int .i64 x.t, .int .i64 x.a].toArray 24)) = w3 at *
  generalize w2.heap.size = g4 at *
  refine (IPut_any x _ HS2.out).mono ?_
  rintro e w4 ⟨A4, n4, c4, rfl, hown, hbel⟩
  have HO4 := hide hown
  have HBr := hide (below_step HB2.out hbel)
  have HRr := hide (HR2.out.on hbel)
  have HRx := hide (HR4.out.on hbel)
  have HA4 := hide (HA2.out.below hbel)
  clear hbel hown HB2 HR2 HR4 HA2 HS2
  have hg0 : w.heap.size < w4.heap.size := HRr.out.lt
  cases hr : rightI x with
  | false =>
    obtain rfl : ok = false := by rw [HGO.out, hr]; rfl
    obtain rfl : y = ino0 := HGI.out
    have he : errI x = 1 := by unfold errI; rw [hr]; rfl
    rw [he]
    clear he hr HGO HGI
    go_wp2_with ((with_reducible refine wpList_storeW rfl 24 (.tmp 2) (.tmp 22) rfl 10 ino_size w.heap.size 24 rfl [.int .i64 0, .int .i64 0, .int .i64 0, .int .i64 0, .int .i64 0, .int .i64 0, .int .i64 0, .int .i64 0, .int .i64 0, .int .i64 0] [.int .i64 0, .int .i64 0, .int .i64 0, .int .i64 0, .int .i64 0, .int .i64 0, .int .i64 0, .int .i64 0, .int .i64 0, .int .i64 0] rfl HRr.out len10 len10 ints10 ?_); intro w6 hr6 hg6 hs6; have HR6 := hide hr6; have HB6 := hide (HBr.out.grown hg6 HBr.out.size (fun g hg => by have := Option.some.inj hg; omega)); clear hr6 hg6 hs6)
    exact bodyPost_ret (res_cell2 Tryd.results10 rfl rfl ino_agg ino_size HR6.out len10) rfl ⟨rfl, HB6.out⟩
  | true =>
    have he : errI x = 0 := by unfold errI; rw [hr]; rfl
    rw [he]
    obtain ⟨b, hb⟩ : ∃ b, (l == putI x) = b := ⟨_, rfl⟩
    have HEQ := hide hb
    rw [hr, hb, Bool.true_and] at HGO
    obtain rfl := HGO.out
    clear he hr hb HGO
    cases ok with
    | false =>
      obtain rfl : y = ino0 := HGI.out
      clear HGI
      go_wp2_with fail
      refine (Equal_any _ HA4.out HO4.out.bs).mono ?_
      rintro e w' ⟨rfl, rfl⟩
      rw [HEQ.out]
      go_wp2_with ((with_reducible refine wpList_storeW rfl 24 (.tmp 2) (.tmp 22) rfl 10 ino_size w.heap.size 24 rfl [.int .i64 0, .int .i64 0, .int .i64 0, .int .i64 0, .int .i64 0, .int .i64 0, .int .i64 0, .int .i64 0, .int .i64 0, .int .i64 0] [.int .i64 0, .int .i64 0, .int .i64 0, .int .i64 0, .int .i64 0, .int .i64 0, .int .i64 0, .int .i64 0, .int .i64 0, .int .i64 0] rfl HRr.out len10 len10 ints10 ?_); intro w6 hr6 hg6 hs6; have HR6 := hide hr6; have HB6 := hide (HBr.out.grown hg6 HBr.out.size (fun g hg => by have := Option.some.inj hg; omega)); clear hr6 hg6 hs6)
      exact bodyPost_ret (res_cell2 Tryd.results10 rfl rfl ino_agg ino_size HR6.out len10) rfl ⟨rfl, HB6.out⟩
    | true =>
      obtain rfl : y = x := HGI.out
      clear HGI
      go_wp2_with fail
      refine (Equal_any _ HA4.out HO4.out.bs).mono ?_
      rintro e w' ⟨rfl, rfl⟩
      rw [HEQ.out]
      go_wp2_with (first
        | (with_reducible refine wpList_loadW rfl 24 (.tmp 4) rfl 10 ino_agg ino_size g4 24 rfl [.int .i64 y.k, .int .i64 y.i, .int .i64 y.n, .int .i64 y.g, .int .i64 y.s, .int .i64 y.p, .int .i64 y.q, .int .i64 y.r, .int .i64 y.t, .int .i64 y.a] HRx.out len10 ?_)
        | ((with_reducible refine wpList_storeW rfl 24 (.tmp 2) (.tmp 23) rfl 10 ino_size w.heap.size 24 rfl [.int .i64 0, .int .i64 0, .int .i64 0, .int .i64 0, .int .i64 0, .int .i64 0, .int .i64 0, .int .i64 0, .int .i64 0, .int .i64 0] [.int .i64 y.k, .int .i64 y.i, .int .i64 y.n, .int .i64 y.g, .int .i64 y.s, .int .i64 y.p, .int .i64 y.q, .int .i64 y.r, .int .i64 y.t, .int .i64 y.a] rfl HRr.out len10 len10 ints10 ?_); intro w6 hr6 hg6 hs6; have HR6 := hide hr6; have HB6 := hide (HBr.out.grown hg6 HBr.out.size (fun g hg => by have := Option.some.inj hg; omega)); clear hr6 hg6 hs6))
      exact bodyPost_ret (res_cell2 Tryd.results10 rfl rfl ino_agg ino_size HR6.out len10) rfl ⟨rfl, HB6.out⟩
set_option maxHeartbeats 400000 in
theorem IFresh_any (w : World) : Calls Tryd.prog 11 #[] w (VRet w (.agg #[.int .i64 1, .int .i64 0, .int .i64 2, .int .i64 0, .int .i64 0, .int .i64 0, .int .i64 0, .int .i64 0, .int .i64 0, .int .i64 0])) := by
  go_enter Tryd.func11, Tryd.ntmps11
  go_wp2_with fail
  exact bodyPost_ret (res_cell Tryd.results11 rfl ino_agg ino_size (RowL.new w 24 [.int .i64 1, .int .i64 0, .int .i64 2, .int .i64 0, .int .i64 0, .int .i64 0, .int .i64 0, .int .i64 0, .int .i64 0, .int .i64 0]) len10) rfl (VRet.of (below_new (below_self w) _))
end Go.Proofs.YtnjmddmiebofeaaDoor
