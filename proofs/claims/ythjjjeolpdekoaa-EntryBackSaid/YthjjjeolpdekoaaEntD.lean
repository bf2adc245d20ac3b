/- entry.told, Get (layer 8). -/
import Derived.Test.YthjjjeolpdekoaaEntC
import Derived.Test.YthjjjeolpdekoaaPlanG
import Derived.Deep.Cut
import Derived.Deep.CutRange
namespace Go.Proofs.Ythjjjeolpdekoaa
open Go.RowKit Plain

theorem len3 {α : Type} {a b c : α} : [a, b, c].length = 3 := rfl
theorem ents3 {a b : Int} {s : ByteArray} : ∀ v ∈ [Value.int .i64 a, .int .i64 b, .string s], v.oneCell' = true := by simp [Value.oneCell']
/-- It returns an entry, whether there is one, and whether it could be read. -/
def ERet (w : World) (x : EntV) (a b : Bool) (e : Ending) (w' : World) : Prop := e = .returned (.tuple #[.agg #[.int .i64 x.slot, .int .i64 x.ino, .string ⟨x.name.toArray⟩], .bool a, .bool b]) ∧ Below w.heap.size w w'
def EVRet (w : World) (x : EntV) (e : Ending) (w' : World) : Prop := e = .returned (.agg #[.int .i64 x.slot, .int .i64 x.ino, .string ⟨x.name.toArray⟩]) ∧ Below w.heap.size w w'
theorem zero_text : (Value.string ByteArray.empty) = st [] := rfl

set_option maxRecDepth 100000 in
set_option maxHeartbeats 800000 in
theorem Etold_any {A : Option Addr} {c : Nat} {l : List UInt8} {slot : Int} {x : EntV} (w : World) (ha : Bs w w.heap.size A 16 l) (hc : 16 ≤ c) (hx : toldE l slot = x) : Calls Try.prog 45 #[.slice A 16 c, .int .i64 slot] w (EVRet w x) := by
  obtain ⟨hr1, hb, hsz⟩ := rows1 w [.int .i64 0, .int .i64 0, .string ⟨#[]⟩] 23
  have HR1 := hide hr1
  have HB := hide hb
  have HA := hide ((ha.below hb).more hb.size)
  obtain ⟨b, o, rfl, hbl, hcell⟩ := ha.2 (by omega)
  have hc2 : ¬ c = 2 := by omega
  have HS : Hid (Bs (w.alloc (.cells [.int .i64 0, .int .i64 0, .string ⟨#[]⟩].toArray 23)) (w.alloc (.cells [.int .i64 0, .int .i64 0, .string ⟨#[]⟩].toArray 23)).heap.size (some ⟨b, o + 2, none⟩) 14 (l.drop 2)) := hide (by
    have := HA.out.suf (i := 2) (c := c) (o' := o + 2) (by omega) (by omega) rfl
    rwa [if_neg hc2] at this)
  have e1 : slot = x.slot := by rw [← hx]; rfl
  have E2 : Hid (((getR l 0 2 : Nat) : Int) = x.ino) := hide (by rw [← hx]; rfl)
  have E3 : Hid (unpackS (l.drop 2) = x.name) := hide (by rw [← hx]; rfl)
  clear hx
  subst e1
  clear hr1 hb hsz ha hcell
  go_enter Try.func45, Try.ntmps45
  go_wp2_with fail
  refine (Get_any (p := 0) (s := 2) _ HA.out (by omega) hc).mono ?_
  rintro e w' ⟨rfl, rfl⟩
  go_wp2_with fail
  refine (NUnpack_any _ HS.out).mono ?_
  rintro e w3 ⟨rfl, hbel⟩
  have HB3 := hide (below_step HB.out hbel)
  have HR3 := hide (HR1.out.on hbel)
  have hg3 : w.heap.size < w3.heap.size := HR3.out.lt
  clear hbel
  rw [E2.out, E3.out, show st x.name = .string ⟨x.name.toArray⟩ from rfl]
  clear HR1 HB HA HS
  go_wp2_with ((with_reducible refine wpList_storeW rfl 23 (.tmp 4) (.tmp 23) rfl 3 ent_size w.heap.size 23 rfl [.int .i64 0, .int .i64 0, .string ⟨#[]⟩] [.int .i64 x.slot, .int .i64 x.ino, .string ⟨x.name.toArray⟩] rfl HR3.out len3 len3 ents3 ?_); intro w9 hr9 hg9 hs9; have HR9 := hide hr9; have HB9 := hide (HB3.out.grown hg9 HB3.out.size (fun g hg => by have := Option.some.inj hg; omega)); clear hr9 hg9 hs9)
  exact bodyPost_ret (res_cell Try.results45 rfl ent_agg ent_size HR9.out len3) rfl ⟨rfl, HB9.out⟩
theorem arr_at (a : Addr) (c : Nat) (w : World) : (Instr.arrayAt 68 (.slice (some a) 16 c)).run Try.prog w = .ok (.pointer (some a)) w := by
  simp [Instr.arrayAt, run_underlying Try.underlying68, go_sem]
theorem grown_le {w1 w2 : World} {o : Obj} (_ : w2.heap.size = (w1.alloc o).heap.size) : w1.heap.size ≤ (w1.alloc o).heap.size := by simp
theorem unpackS_le (b : List UInt8) : (unpackS b).length ≤ 12 := by
  unfold unpackS
  split
  · rename_i h
    unfold isPackB at h
    rw [Bool.and_eq_true, Bool.and_eq_true, beq_iff_eq, beq_iff_eq] at h
    cases hn : nameB (innerS b) with
    | true => exact (nameB_len hn).2
    | false =>
      have := h.2
      rw [packS_no hn] at this
      rw [← this] at h
      simp at h
  · simp
set_option maxRecDepth 100000 in
set_option maxHeartbeats 1600000 in
theorem EGet_any {A : Option Addr} {m c : Nat} {l : List UInt8} {slot : Int} (w : World) (ha : Bs w w.heap.size A m l) (hmc : m ≤ c) : Calls Try.prog 12 #[.slice A m c, .int .i64 slot] w (ERet w (entE l slot) (gotE l slot) (readE l slot)) := by
  obtain ⟨hr1, hb, hsz⟩ := rows1 w [.int .i64 0, .int .i64 0, .string ⟨#[]⟩] 23
  have HR1 := hide hr1
  have HB := hide hb
  have HA := hide ((ha.below hb).more hb.size)
  have hlen := ha.len
  by_cases hm : m = 16
  rotate_left
  · have e1 : gotE l slot = false := by unfold gotE; rw [show (l.length == 16) = false from by simp; omega]; rfl
    have e3 : readE l slot = false := by
      unfold readE; rw [e1, Bool.false_or, beq_eq_false_iff_ne]; intro e; rw [e] at hlen; rw [zeros_length] at hlen; omega
    have e2 : entE l slot = ent0 := by unfold entE; rw [e1]; rfl
    rw [e1, e2, e3]
    have hd : ((m : Int) != 16) = true := by simp; omega
    clear e1 e2 e3 hr1 hb hsz ha
    have hg : w.heap.size < (w.alloc (.cells [.int .i64 0, .int .i64 0, .string ⟨#[]⟩].toArray 23)).heap.size := HR1.out.lt
    go_enter Try.func12, Try.ntmps12
    go_wp2_with ((with_reducible refine wpList_storeW rfl 23 (.tmp 4) (.tmp 14) rfl 3 ent_size w.heap.size 23 rfl [.int .i64 0, .int .i64 0, .string ⟨#[]⟩] [.int .i64 0, .int .i64 0, .string ⟨#[]⟩] rfl HR1.out len3 len3 ents3 ?_); intro w9 hr9 hg9 hs9; have HR9 := hide hr9; have HB9 := hide (HB.out.grown hg9 HB.out.size (fun g hg => by have := Option.some.inj hg; omega)); clear hr9 hg9 hs9)
    exact bodyPost_ret (res_cell3 Try.results12 rfl rfl rfl ent_agg ent_size HR9.out len3) rfl ⟨rfl, HB9.out⟩
  subst hm
  obtain ⟨b, o, rfl, hbl, hcell⟩ := ha.2 (by omega)
  have hsrc : ∀ j v, (bvs l)[j]? = some v → (w.alloc (.cells [.int .i64 0, .int .i64 0, .string ⟨#[]⟩].toArray 23)).cell? ⟨b, o + j, none⟩ = some v := fun j v hv => by
    obtain ⟨y, hy, rfl⟩ := bvs_of_get hv
    exact (hb.cell hbl).trans (hcell j y hy)
  have hl16 : (bvs l).length = 16 := by rw [bvs_length, hlen]
  have HSRC := hide hsrc
  have HL16 := hide hl16
  have HLEN := hide hlen
  obtain ⟨bz, hbz⟩ : ∃ bz, (l == zeros 16) = bz := ⟨_, rfl⟩
  have HBZ := hide hbz
  have hEz := eq_packed (b := bz) hlen (zeros_length 16) hbz
  rw [← zeros16_cells] at hEz
  obtain ⟨x, hx⟩ : ∃ x, toldE l slot = x := ⟨_, rfl⟩
  have HX := hide hx
  obtain ⟨y, hy⟩ : ∃ y, entE l slot = y := ⟨_, rfl⟩
  obtain ⟨ok, hok⟩ : ∃ ok, gotE l slot = ok := ⟨_, rfl⟩
  obtain ⟨rd, hrd⟩ : ∃ rd, readE l slot = rd := ⟨_, rfl⟩
  rw [hy, hok, hrd]
  have HY := hide hy
  have HOK := hide hok
  have HRD := hide hrd
  have harr := arr_at
  clear hr1 hb hsz ha hcell hsrc hl16 hlen hbz hx hy hok hrd
  go_enter Try.func12, Try.ntmps12
  go_upto_region 3 with fail
  have hg1 : b < (w.alloc (.cells [.int .i64 0, .int .i64 0, .string ⟨#[]⟩].toArray 23)).heap.size := by simp; omega
  generalize (w.alloc (.cells [.int .i64 0, .int .i64 0, .string ⟨#[]⟩].toArray 23)) = w1 at *
  cases bz with
  | true =>
    obtain rfl : ok = false := by rw [← HOK.out]; unfold gotE; rw [HBZ.out, HX.out]; simp
    obtain rfl : y = ent0 := by rw [← HY.out]; unfold entE; rw [HOK.out]; rfl
    obtain rfl : rd = true := by rw [← HRD.out]; unfold readE; rw [HOK.out, HBZ.out]; rfl
    go_wp2_with (first
      | (with_reducible refine wpList_loadX rfl 68 (.tmp 16) rfl 16 pk_agg pk_size b o rfl (bvs l) HSRC.out HL16.out ?_)
      | ((with_reducible refine wpList_storeW rfl 68 (.tmp 7) (.tmp 17) rfl 16 pk_size w1.heap.size 68 rfl _ (bvs l) rfl (RowL.new w1 68 _) HL16.out rfl (bvs_one l) ?_); intro w2 hr2 hg2 hs2; have hb2 := hide ((below_new (below_self w1) _).grown hg2 (grown_le hs2) (fun g hg => Nat.le_of_eq (Option.some.inj hg))); have HP2 := hide hr2; have HB2 := hide (HB.out.trans (hb2.out.mono HB.out.size)); have HR2 := hide (HR1.out.on hb2.out); have HA2 := hide ((HA.out.below hb2.out).more hb2.out.size); have hg2' : w.heap.size < w2.heap.size := HR2.out.lt; clear hr2 hg2 hs2)
      | (with_reducible refine wpList_loadW rfl 68 (.tmp 7) rfl 16 pk_agg pk_size w1.heap.size 68 rfl (bvs l) HP2.out HL16.out ?_)
      | ((with_reducible refine wpList_storeW rfl 23 (.tmp 4) (.tmp 21) rfl 3 ent_size w.heap.size 23 rfl [.int .i64 0, .int .i64 0, .string ⟨#[]⟩] [.int .i64 0, .int .i64 0, .string ⟨#[]⟩] rfl HR2.out len3 len3 ents3 ?_); intro w9 hr9 hg9 hs9; have HR9 := hide hr9; have HB9 := hide (HB2.out.grown hg9 HB2.out.size (fun g hg => by have := Option.some.inj hg; omega)); clear hr9 hg9 hs9))
    exact bodyPost_ret (res_cell3 Try.results12 rfl rfl rfl ent_agg ent_size HR9.out len3) rfl ⟨rfl, HB9.out⟩
  | false =>
    go_wp2_with (first
      | (with_reducible refine wpList_loadX rfl 68 (.tmp 16) rfl 16 pk_agg pk_size b o rfl (bvs l) HSRC.out HL16.out ?_)
      | ((with_reducible refine wpList_storeW rfl 68 (.tmp 7) (.tmp 17) rfl 16 pk_size w1.heap.size 68 rfl _ (bvs l) rfl (RowL.new w1 68 _) HL16.out rfl (bvs_one l) ?_); intro w2 hr2 hg2 hs2; have hb2 := hide ((below_new (below_self w1) _).grown hg2 (grown_le hs2) (fun g hg => Nat.le_of_eq (Option.some.inj hg))); have HP2 := hide hr2; have HB2 := hide (HB.out.trans (hb2.out.mono HB.out.size)); have HR2 := hide (HR1.out.on hb2.out); have HA2 := hide ((HA.out.below hb2.out).more hb2.out.size); have hg2' : w.heap.size < w2.heap.size := HR2.out.lt; clear hr2 hg2 hs2)
      | (with_reducible refine wpList_loadW rfl 68 (.tmp 7) rfl 16 pk_agg pk_size w1.heap.size 68 rfl (bvs l) HP2.out HL16.out ?_))
    refine (Etold_any _ HA2.out hmc HX.out).mono ?_
    rintro e w3 ⟨rfl, hbel⟩
    obtain ⟨hr4, hb4, hs4⟩ := rows1 w3 [.int .i64 x.slot, .int .i64 x.ino, .string ⟨x.name.toArray⟩] 23
    have hbb := hbel.trans (hb4.mono hbel.size)
    have HB4 := hide (below_step HB2.out hbb)
    have HR4 := hide (HR2.out.on hbb)
    have HP4 := hide (HP2.out.on hbb)
    have HE4 := hide hr4
    clear hbel hr4 hb4 hs4 hbb HB2 HR2 HP2 HA2 hb2 hg2'
    go_wp2_with fail
    generalize (w3.alloc (.cells [.int .i64 x.slot, .int .i64 x.ino, .string ⟨x.name.toArray⟩].toArray 23)) = w4 at *
    generalize w3.heap.size = g3 at *
    generalize w1.heap.size = g1 at *
    refine (EPut_any x _ (by rw [← HX.out]; exact Nat.le_trans (unpackS_le _) (by omega))).mono ?_
    rintro e w5 ⟨A5, n5, c5, rfl, hown, hbel⟩
    have HB5 := hide (below_step HB4.out hbel)
    have HR5 := hide (HR4.out.on hbel)
    have HP5 := hide (HP4.out.on hbel)
    have HE5 := hide (HE4.out.on hbel)
    have hg5 : w.heap.size < w5.heap.size := HR5.out.lt
    have HOW := hide hown
    clear hbel HB4 HR4 HP4 HE4 hown
    cases hr : rightE x with
    | false =>
      have he : errE x = 1 := by unfold errE; rw [hr]; rfl
      rw [he]
      obtain rfl : ok = false := by rw [← HOK.out]; unfold gotE; rw [HBZ.out, HX.out, hr]; simp
      obtain rfl : y = ent0 := by rw [← HY.out]; unfold entE; rw [HOK.out]; rfl
      obtain rfl : rd = false := by rw [← HRD.out]; unfold readE; rw [HOK.out, HBZ.out]; rfl
      clear he hr
      go_wp2_with fail
      refine wp_region_G (fun w' => True) (.take 0 (.take 1 (.take 2 (.take 3 (.take 4 (.take 5 (.take 6 (.take 7 (.take 8 .leaf))))))))) (by kernel_rfl) (by kernel_rfl) (by kernel_rfl) (by kernel_rfl) rfl (fun _ _ _ _ _ h => h) trivial (fun hHeld => ?_)
      simp only [PT.map, List.getElem?_toArray, List.getElem?_cons_succ, List.getElem?_cons_zero]
      refine wpPT_take (v := ?_) (by kernel_rfl) (fun wS hSw => ?_) ?_
      rotate_left
      · (try dsimp only at hSw); go_simp; (try with_reducible rfl)
      (try simp only [Act.put, List.setIfInBounds_toArray, List.set_cons_zero, List.set_cons_succ])
      refine wpPT_take (v := ?_) (by kernel_rfl) (fun wS hSw => ?_) ?_
      rotate_left
      · (try dsimp only at hSw); go_simp; (try with_reducible rfl)
      (try simp only [Act.put, List.setIfInBounds_toArray, List.set_cons_zero, List.set_cons_succ])
      refine wpPT_take (v := ?_) (by kernel_rfl) (fun wS hSw => ?_) ?_
      rotate_left
      · (try dsimp only at hSw); go_simp; (try with_reducible rfl)
      (try simp only [Act.put, List.setIfInBounds_toArray, List.set_cons_zero, List.set_cons_succ])
      refine wpPT_skip (by kernel_rfl) ?_
      (try simp only [Act.put, List.setIfInBounds_toArray, List.set_cons_zero, List.set_cons_succ])
      refine wpPT_skip (by kernel_rfl) ?_
      (try simp only [Act.put, List.setIfInBounds_toArray, List.set_cons_zero, List.set_cons_succ])
      refine wpPT_skip (by kernel_rfl) ?_
      (try simp only [Act.put, List.setIfInBounds_toArray, List.set_cons_zero, List.set_cons_succ])
      refine wpPT_skip (by kernel_rfl) ?_
      (try simp only [Act.put, List.setIfInBounds_toArray, List.set_cons_zero, List.set_cons_succ])
      refine wpPT_skip (by kernel_rfl) ?_
      (try simp only [Act.put, List.setIfInBounds_toArray, List.set_cons_zero, List.set_cons_succ])
      refine wpPT_take (v := ?_) (by kernel_rfl) (fun wS hSw => ?_) ?_
      rotate_left
      · (try dsimp only at hSw); go_simp; (try with_reducible rfl)
      (try simp only [Act.put, List.setIfInBounds_toArray, List.set_cons_zero, List.set_cons_succ])
      refine wpPT_leaf ?_
      clear hHeld
      go_wp2_with ((with_reducible refine wpList_storeW rfl 23 (.tmp 4) (.tmp 39) rfl 3 ent_size w.heap.size 23 rfl [.int .i64 0, .int .i64 0, .string ⟨#[]⟩] [.int .i64 0, .int .i64 0, .string ⟨#[]⟩] rfl HR5.out.drew len3 len3 ents3 ?_); intro w9 hr9 hg9 hs9; have HR9 := hide hr9; have HB9 := hide ((below_drew HB5.out).grown hg9 (below_drew HB5.out).size (fun g hg => by have := Option.some.inj hg; omega)); clear hr9 hg9 hs9)
      exact bodyPost_ret (res_cell3 Try.results12 rfl rfl rfl ent_agg ent_size HR9.out len3) rfl ⟨rfl, HB9.out⟩
    | true =>
      have he : errE x = 0 := by unfold errE; rw [hr]; rfl
      rw [he]
      have hpl := putE_len hr
      obtain rfl : n5 = 16 := by rw [← HOW.out.len, hpl]
      obtain ⟨g5, cs5, hA5, -, hrow5, -, hnc5, -, htk5⟩ := HOW.out.row (by omega)
      subst hA5
      have HSRC5 : Hid (∀ j v, (bvs (putE x))[j]? = some v → w5.drew.cell? ⟨g5, 0 + j, none⟩ = some v) := hide (fun j v hv => by
        have hj : j < 16 := by have := (List.getElem?_eq_some_iff.1 hv).1; rw [bvs_length, hpl] at this; exact this
        rw [Nat.zero_add]
        refine (hrow5.drew.cell j).trans ?_
        rw [← hv, ← htk5, List.getElem?_take_of_lt hj])
      have HL5 : Hid ((bvs (putE x)).length = 16) := hide (by rw [bvs_length, hpl])
      have HBX : Hid (∀ j v, (bvs l)[j]? = some v → w5.drew.cell? ⟨g1, 0 + j, none⟩ = some v) := hide (fun j v hv => by rw [Nat.zero_add]; exact (HP5.out.drew.cell j).trans hv)
      obtain ⟨q, hq⟩ : ∃ q, (putE x == l) = q := ⟨_, rfl⟩
      have hNE := neq_packed (b := !q) hpl HLEN.out (by rw [← hq]; rfl)
      obtain rfl : ok = q := by rw [← HOK.out]; unfold gotE; rw [HBZ.out, HX.out, hr, hq, HLEN.out]; simp
      obtain rfl : rd = ok := by rw [← HRD.out]; unfold readE; rw [HOK.out, HBZ.out, Bool.or_false]
      clear he hr hpl hrow5 hnc5 htk5 hq hEz
      go_wp2_with fail
      refine wp_region_G (fun w' => w' = w5.drew) (.take 0 (.take 1 (.take 2 (.take 3 (.take 4 (.take 5 (.take 6 (.take 7 (.take 8 .leaf))))))))) (by kernel_rfl) (by kernel_rfl) (by kernel_rfl) (by kernel_rfl) rfl (fun _ _ _ _ _ h => h) rfl (fun hHeld => ?_)
      simp only [PT.map, List.getElem?_toArray, List.getElem?_cons_succ, List.getElem?_cons_zero]
      refine wpPT_take (v := ?_) (by kernel_rfl) (fun wS hSw => ?_) ?_
      rotate_left
      · (try dsimp only at hSw); go_simp; (try with_reducible rfl)
      (try simp only [Act.put, List.setIfInBounds_toArray, List.set_cons_zero, List.set_cons_succ])
      refine wpPT_take (v := ?_) (by kernel_rfl) (fun wS hSw => ?_) ?_
      rotate_left
      · (try dsimp only at hSw); go_simp; (try with_reducible rfl)
      (try simp only [Act.put, List.setIfInBounds_toArray, List.set_cons_zero, List.set_cons_succ])
      refine wpPT_take (v := ?_) (by kernel_rfl) (fun wS hSw => ?_) ?_
      rotate_left
      · (try dsimp only at hSw); go_simp; (try with_reducible rfl)
      (try simp only [Act.put, List.setIfInBounds_toArray, List.set_cons_zero, List.set_cons_succ])
      refine wpPT_take (v := ?_) (by kernel_rfl) (fun wS hSw => ?_) ?_
      rotate_left
      · (try dsimp only at hSw); go_simp; (try with_reducible rfl)
      (try simp only [Act.put, List.setIfInBounds_toArray, List.set_cons_zero, List.set_cons_succ])
      refine wpPT_take (v := ?_) (by kernel_rfl) (fun wS hSw => ?_) ?_
      rotate_left
      · (try dsimp only at hSw); go_simp; (try with_reducible rfl)
      (try simp only [Act.put, List.setIfInBounds_toArray, List.set_cons_zero, List.set_cons_succ])
      refine wpPT_take (v := ?_) (by kernel_rfl) (fun wS hSw => ?_) ?_
      rotate_left
      · subst hSw; refine execOp_load (x := .tmp 34) (k := 16) (g := g5) (off := 0) (cs := bvs (putE x)) ?_ pk_agg pk_size ?_ HSRC5.out HL5.out <;> rfl
      (try simp only [Act.put, List.setIfInBounds_toArray, List.set_cons_zero, List.set_cons_succ])
      refine wpPT_take (v := ?_) (by kernel_rfl) (fun wS hSw => ?_) ?_
      rotate_left
      · subst hSw; refine execOp_load (x := .tmp 7) (k := 16) (g := g1) (off := 0) (cs := bvs l) ?_ pk_agg pk_size ?_ HBX.out HL16.out <;> rfl
      (try simp only [Act.put, List.setIfInBounds_toArray, List.set_cons_zero, List.set_cons_succ])
      refine wpPT_take (v := ?_) (by kernel_rfl) (fun wS hSw => ?_) ?_
      rotate_left
      · (try dsimp only at hSw); go_simp; (try with_reducible rfl)
      (try simp only [Act.put, List.setIfInBounds_toArray, List.set_cons_zero, List.set_cons_succ])
      refine wpPT_take (v := ?_) (by kernel_rfl) (fun wS hSw => ?_) ?_
      rotate_left
      · (try dsimp only at hSw); go_simp; (try with_reducible rfl)
      (try simp only [Act.put, List.setIfInBounds_toArray, List.set_cons_zero, List.set_cons_succ])
      refine wpPT_leaf ?_
      clear hHeld
      cases rd with
      | false =>
        obtain rfl : y = ent0 := by rw [← HY.out]; unfold entE; rw [HOK.out]; rfl
        go_wp2_with (first
          | ((with_reducible refine wpList_storeW rfl 23 (.tmp 4) (.tmp 39) rfl 3 ent_size w.heap.size 23 rfl [.int .i64 0, .int .i64 0, .string ⟨#[]⟩] [.int .i64 0, .int .i64 0, .string ⟨#[]⟩] rfl HR5.out.drew len3 len3 ents3 ?_); intro w9 hr9 hg9 hs9; have HR9 := hide hr9; have HB9 := hide ((below_drew HB5.out).grown hg9 (below_drew HB5.out).size (fun g hg => by have := Option.some.inj hg; omega)); clear hr9 hg9 hs9))
        exact bodyPost_ret (res_cell3 Try.results12 rfl rfl rfl ent_agg ent_size HR9.out len3) rfl ⟨rfl, HB9.out⟩
      | true =>
        obtain rfl : y = x := by rw [← HY.out]; unfold entE; rw [HOK.out, HX.out]; rfl
        go_wp2_with (first
          | (with_reducible refine wpList_loadW rfl 23 (.tmp 8) rfl 3 ent_agg ent_size g3 23 rfl [.int .i64 y.slot, .int .i64 y.ino, .string ⟨y.name.toArray⟩] HE5.out.drew len3 ?_)
          | ((with_reducible refine wpList_storeW rfl 23 (.tmp 4) (.tmp 40) rfl 3 ent_size w.heap.size 23 rfl [.int .i64 0, .int .i64 0, .string ⟨#[]⟩] [.int .i64 y.slot, .int .i64 y.ino, .string ⟨y.name.toArray⟩] rfl HR5.out.drew len3 len3 ents3 ?_); intro w9 hr9 hg9 hs9; have HR9 := hide hr9; have HB9 := hide ((below_drew HB5.out).grown hg9 (below_drew HB5.out).size (fun g hg => by have := Option.some.inj hg; omega)); clear hr9 hg9 hs9))
        exact bodyPost_ret (res_cell3 Try.results12 rfl rfl rfl ent_agg ent_size HR9.out len3) rfl ⟨rfl, HB9.out⟩
end Go.Proofs.Ythjjjeolpdekoaa
