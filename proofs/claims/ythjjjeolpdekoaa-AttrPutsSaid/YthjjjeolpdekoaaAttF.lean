/- attr.number, text, told, Get (layer 9). -/
import Derived.Test.YthjjjeolpdekoaaAttE
import Derived.Test.YthjjjeolpdekoaaNumL
import Derived.Test.YthjjjeolpdekoaaSumD
import Derived.Test.YthjjjeolpdekoaaBytEq
namespace Go.Proofs.Ythjjjeolpdekoaa
open Go.RowKit Plain

set_option maxHeartbeats 400000 in
theorem number_any {A : Option Addr} {m c B : Nat} {l : List UInt8} {p s : Int} (w : World) (ha : Bs w B A m l) (hm : m ≤ 140737488355000) (hmc : m ≤ c) :
    Calls Try.prog 81 #[.slice A m c, .int .i64 p, .int .i64 s] w fun e w' => e = .returned (.int .i64 (getR l p s)) ∧ w = w' := by
  have HA := hide ha
  clear ha
  go_enter Try.func81, Try.ntmps81
  go_wp2_with fail
  refine (Get_any _ HA.out hm hmc).mono ?_
  rintro e w' ⟨rfl, rfl⟩
  go_wp2_with fail
  go_ret
  exact ⟨rfl, rfl⟩
/-- The redirect that bytes tell of. -/
def redG (l : List UInt8) (k : Nat) : List UInt8 := (l.drop 3).take (min k 24)
/-- It returns a text, and nothing that was there has turned. -/
def TRet (w : World) (l : List UInt8) (e : Ending) (w' : World) : Prop := e = .returned (.string ⟨l.toArray⟩) ∧ Below w.heap.size w w'
theorem copied_24 {l : List UInt8} (h : l.length = 61) : splice ([.int .u8 0, .int .u8 0, .int .u8 0, .int .u8 0, .int .u8 0, .int .u8 0, .int .u8 0, .int .u8 0, .int .u8 0, .int .u8 0, .int .u8 0, .int .u8 0, .int .u8 0, .int .u8 0, .int .u8 0, .int .u8 0, .int .u8 0, .int .u8 0, .int .u8 0, .int .u8 0, .int .u8 0, .int .u8 0, .int .u8 0, .int .u8 0] : List Value) 0 (bvs (l.take 24)) = bvs (l.take 24) := by
  unfold splice
  rw [List.take_zero, List.nil_append, bvs_length, List.length_take, h]
  simp
theorem slice_red (g : Nat) {k : Nat} (hk : k ≤ 24) (w : World) : (Instr.sliceAt 82 (.pointer (some ⟨g, 0, none⟩)) none (some (.int .i64 k)) none).run Try.prog w = .ok (.slice (some ⟨g, 0, none⟩) k 24) w := by
  simp [Instr.sliceAt, run_underlying Try.underlying82, Instr.sliceBounds, Instr.sliceBound, asIntOf, go_sem]
  exact fun h => absurd hk (by omega)
theorem redG_bs {w : World} {g t : Nat} {l r : List UInt8} {k n : Nat} (h : RowL w g t (splice ([.int .u8 0, .int .u8 0, .int .u8 0, .int .u8 0, .int .u8 0, .int .u8 0, .int .u8 0, .int .u8 0, .int .u8 0, .int .u8 0, .int .u8 0, .int .u8 0, .int .u8 0, .int .u8 0, .int .u8 0, .int .u8 0, .int .u8 0, .int .u8 0, .int .u8 0, .int .u8 0, .int .u8 0, .int .u8 0, .int .u8 0, .int .u8 0] : List Value) 0 (bvs ((l.drop 3).take 24)))) (hl : (l.drop 3).length = 61) (hr : redG l k = r) (hn : n = min k 24) : Bs w w.heap.size (some ⟨g, 0, none⟩) n r := by
  subst hn hr
  rw [copied_24 hl] at h
  refine ⟨by unfold redG; rw [List.length_take, hl]; omega, fun _ => ⟨g, 0, rfl, h.lt, fun i x hx => ?_⟩⟩
  have hi := (List.getElem?_eq_some_iff.1 hx).1
  unfold redG at hx hi
  rw [List.length_take] at hi
  rw [List.getElem?_take_of_lt (by omega)] at hx
  rw [Nat.zero_add, h.cell]
  exact bvs_get (by rw [List.getElem?_take_of_lt (by omega)]; exact hx)
set_option maxRecDepth 100000 in
set_option maxHeartbeats 800000 in
theorem text_any {b o c : Nat} {l : List UInt8} (w : World) (ha : Bs w w.heap.size (some ⟨b, o, none⟩) 64 l) (hc : 64 ≤ c) (k : Nat) {r : List UInt8} (hr : redG l k = r) :
    Calls Try.prog 82 #[.slice (some ⟨b, o, none⟩) 64 c, .int .i64 k] w (TRet w r) := by
  obtain ⟨hrz, hbz, hsz⟩ := rows1 w [.int .u8 0, .int .u8 0, .int .u8 0, .int .u8 0, .int .u8 0, .int .u8 0, .int .u8 0, .int .u8 0, .int .u8 0, .int .u8 0, .int .u8 0, .int .u8 0, .int .u8 0, .int .u8 0, .int .u8 0, .int .u8 0, .int .u8 0, .int .u8 0, .int .u8 0, .int .u8 0, .int .u8 0, .int .u8 0, .int .u8 0, .int .u8 0] 82
  have hc3 : ¬ c = 3 := by omega
  have HS : Hid (Bs (w.alloc (.cells #[.int .u8 0, .int .u8 0, .int .u8 0, .int .u8 0, .int .u8 0, .int .u8 0, .int .u8 0, .int .u8 0, .int .u8 0, .int .u8 0, .int .u8 0, .int .u8 0, .int .u8 0, .int .u8 0, .int .u8 0, .int .u8 0, .int .u8 0, .int .u8 0, .int .u8 0, .int .u8 0, .int .u8 0, .int .u8 0, .int .u8 0, .int .u8 0] 82)) (w.alloc (.cells #[.int .u8 0, .int .u8 0, .int .u8 0, .int .u8 0, .int .u8 0, .int .u8 0, .int .u8 0, .int .u8 0, .int .u8 0, .int .u8 0, .int .u8 0, .int .u8 0, .int .u8 0, .int .u8 0, .int .u8 0, .int .u8 0, .int .u8 0, .int .u8 0, .int .u8 0, .int .u8 0, .int .u8 0, .int .u8 0, .int .u8 0, .int .u8 0] 82)).heap.size (some ⟨b, o + 3, none⟩) 61 (l.drop 3)) := hide (by
    have := ((ha.below hbz).more hbz.size).suf (i := 3) (c := c) (o' := o + 3) (by omega) (by omega) rfl
    rwa [if_neg hc3] at this)
  have HZ := hide hrz
  have HB := hide hbz
  have hl61 : (l.drop 3).length = 61 := by rw [List.length_drop, ha.1]
  have HL := hide hl61
  have HR := hide hr
  clear hrz hbz hsz ha hr hl61
  by_cases hk : k ≤ 24
  · have hsr := slice_red w.heap.size hk
    go_enter Try.func82, Try.ntmps82
    go_wp2_with fail
    generalize (w.alloc (.cells #[.int .u8 0, .int .u8 0, .int .u8 0, .int .u8 0, .int .u8 0, .int .u8 0, .int .u8 0, .int .u8 0, .int .u8 0, .int .u8 0, .int .u8 0, .int .u8 0, .int .u8 0, .int .u8 0, .int .u8 0, .int .u8 0, .int .u8 0, .int .u8 0, .int .u8 0, .int .u8 0, .int .u8 0, .int .u8 0, .int .u8 0, .int .u8 0] 82)) = w1 at *
    go_still_tail 3, (by kernel_rfl)
    change wpList _ _ _ _ _ w1.drew
    go_wp2_with ((with_reducible refine wpList_copy_min rfl (.tmp 6) (.tmp 8) 24 24 rfl 5 Try.underlying24 u8_size w.heap.size 24 24 rfl [.int .u8 0, .int .u8 0, .int .u8 0, .int .u8 0, .int .u8 0, .int .u8 0, .int .u8 0, .int .u8 0, .int .u8 0, .int .u8 0, .int .u8 0, .int .u8 0, .int .u8 0, .int .u8 0, .int .u8 0, .int .u8 0, .int .u8 0, .int .u8 0, .int .u8 0, .int .u8 0, .int .u8 0, .int .u8 0, .int .u8 0, .int .u8 0] 82 HZ.out.drew (some ⟨b, o + 3, none⟩) 61 (c - 3) rfl _ (l.drop 3) (Bs.drew HS.out) rfl w.heap.size w (below_drew HB.out) (Nat.le_refl _) ?_); intro w4 hr4 hb4; have HB4 := hide hb4; have hconv := run_string_Bs (P := Try.prog) w4 24 5 9 Try.underlying24 Try.underlying5 Try.underlying9 (c := 24) (redG_bs hr4 HL.out HR.out (n := k) (by omega)); clear hr4 hb4)
    go_ret
    exact ⟨rfl, HB4.out⟩
  · skip
    go_enter Try.func82, Try.ntmps82
    go_wp2_with fail
    generalize (w.alloc (.cells #[.int .u8 0, .int .u8 0, .int .u8 0, .int .u8 0, .int .u8 0, .int .u8 0, .int .u8 0, .int .u8 0, .int .u8 0, .int .u8 0, .int .u8 0, .int .u8 0, .int .u8 0, .int .u8 0, .int .u8 0, .int .u8 0, .int .u8 0, .int .u8 0, .int .u8 0, .int .u8 0, .int .u8 0, .int .u8 0, .int .u8 0, .int .u8 0] 82)) = w1 at *
    go_still_tail 3, (by kernel_rfl)
    change wpList _ _ _ _ _ w1.drew
    go_wp2_with ((with_reducible refine wpList_copy_min rfl (.tmp 6) (.tmp 8) 24 24 rfl 5 Try.underlying24 u8_size w.heap.size 24 24 rfl [.int .u8 0, .int .u8 0, .int .u8 0, .int .u8 0, .int .u8 0, .int .u8 0, .int .u8 0, .int .u8 0, .int .u8 0, .int .u8 0, .int .u8 0, .int .u8 0, .int .u8 0, .int .u8 0, .int .u8 0, .int .u8 0, .int .u8 0, .int .u8 0, .int .u8 0, .int .u8 0, .int .u8 0, .int .u8 0, .int .u8 0, .int .u8 0] 82 HZ.out.drew (some ⟨b, o + 3, none⟩) 61 (c - 3) rfl _ (l.drop 3) (Bs.drew HS.out) rfl w.heap.size w (below_drew HB.out) (Nat.le_refl _) ?_); intro w4 hr4 hb4; have HB4 := hide hb4; have hconv := run_string_Bs (P := Try.prog) w4 24 5 9 Try.underlying24 Try.underlying5 Try.underlying9 (c := 24) (redG_bs hr4 HL.out HR.out (n := 24) (by omega)); clear hr4 hb4)
    go_ret
    exact ⟨rfl, HB4.out⟩

/-- What bytes say of attributes. -/
def toldA (l : List UInt8) : AttV := ⟨getR l 0 1, getR l 1 1, redG l (getR l 2 1), getR l 27 1, getR l 28 2, getR l 30 4, getR l 34 2⟩
set_option maxRecDepth 100000 in
set_option maxHeartbeats 1600000 in
theorem Atold_any {b o c : Nat} {l : List UInt8} {x : AttV} (w : World) (ha : Bs w w.heap.size (some ⟨b, o, none⟩) 64 l) (hc : 64 ≤ c) (hx : toldA l = x) : Calls Try.prog 59 #[.slice (some ⟨b, o, none⟩) 64 c] w (VRet w (.agg #[.int .i64 x.h, .int .i64 x.o, .string ⟨x.r.toArray⟩, .int .i64 x.l, .int .i64 x.i, .int .i64 x.g, .int .i64 x.s])) := by
  obtain ⟨hr1, hb, hsz⟩ := rows1 w [.int .i64 0, .int .i64 0, .string ⟨#[]⟩, .int .i64 0, .int .i64 0, .int .i64 0, .int .i64 0] 48
  have HR1 := hide hr1
  have HB := hide hb
  have HA := hide ((ha.below hb).more hb.size)
  have E0 : Hid (((getR l 0 1 : Nat) : Int) = x.h) := hide (by rw [← hx]; rfl)
  have E1 : Hid (((getR l 1 1 : Nat) : Int) = x.o) := hide (by rw [← hx]; rfl)
  have E2 : Hid (redG l (getR l 2 1) = x.r) := hide (by rw [← hx]; rfl)
  have E3 : Hid (((getR l 27 1 : Nat) : Int) = x.l) := hide (by rw [← hx]; rfl)
  have E4 : Hid (((getR l 28 2 : Nat) : Int) = x.i) := hide (by rw [← hx]; rfl)
  have E5 : Hid (((getR l 30 4 : Nat) : Int) = x.g) := hide (by rw [← hx]; rfl)
  have E6 : Hid (((getR l 34 2 : Nat) : Int) = x.s) := hide (by rw [← hx]; rfl)
  clear hr1 hb hsz ha hx
  go_enter Try.func59, Try.ntmps59
  go_wp2_with fail
  generalize (w.alloc (.cells #[.int .i64 0, .int .i64 0, .string ⟨#[]⟩, .int .i64 0, .int .i64 0, .int .i64 0, .int .i64 0] 48)) = w1 at *
  refine (number_any _ HA.out (by omega) hc).mono ?_
  rintro e w' ⟨rfl, rfl⟩
  rw [E0.out]
  go_wp2_with fail
  refine (number_any _ HA.out (by omega) hc).mono ?_
  rintro e w' ⟨rfl, rfl⟩
  rw [E1.out]
  go_wp2_with fail
  refine (number_any _ HA.out (by omega) hc).mono ?_
  rintro e w' ⟨rfl, rfl⟩
  go_wp2_with fail
  refine (text_any _ HA.out hc _ E2.out).mono ?_
  rintro e w3 ⟨rfl, hbel⟩
  have HB3 := hide (below_step HB.out hbel)
  have HR3 := hide (HR1.out.on hbel)
  have HA3 := hide ((HA.out.below hbel).more hbel.size)
  have hg3 : w.heap.size < w3.heap.size := HR3.out.lt
  clear hbel HB HR1 HA
  go_wp2_with fail
  refine (number_any _ HA3.out (by omega) hc).mono ?_
  rintro e w' ⟨rfl, rfl⟩
  rw [E3.out]
  go_wp2_with fail
  refine (number_any _ HA3.out (by omega) hc).mono ?_
  rintro e w' ⟨rfl, rfl⟩
  rw [E4.out]
  go_wp2_with fail
  refine (number_any _ HA3.out (by omega) hc).mono ?_
  rintro e w' ⟨rfl, rfl⟩
  rw [E5.out]
  go_wp2_with fail
  refine (number_any _ HA3.out (by omega) hc).mono ?_
  rintro e w' ⟨rfl, rfl⟩
  rw [E6.out]
  go_wp2_with ((with_reducible refine wpList_storeW rfl 48 (.tmp 2) (.tmp 20) rfl 7 att_size w.heap.size 48 rfl [.int .i64 0, .int .i64 0, .string ⟨#[]⟩, .int .i64 0, .int .i64 0, .int .i64 0, .int .i64 0] [.int .i64 x.h, .int .i64 x.o, .string ⟨x.r.toArray⟩, .int .i64 x.l, .int .i64 x.i, .int .i64 x.g, .int .i64 x.s] rfl HR3.out rfl rfl (by simp [Value.oneCell']) ?_); intro w9 hr9 hg9 hs9; have HR9 := hide hr9; have HB9 := hide (HB3.out.grown hg9 HB3.out.size (fun g hg => by have := Option.some.inj hg; omega)); clear hr9 hg9 hs9)
  exact bodyPost_ret (res_cell Try.results59 rfl att_agg att_size HR9.out rfl) rfl (VRet.of HB9.out)
/-- Are the bytes attributes? -/
def gotA (l : List UInt8) : Bool := (l == sealS l) && (rightA (toldA l) && (putA (toldA l) == l))
def attG (l : List UInt8) : AttV := if gotA l = true then toldA l else att0
/-- It returns attributes, and whether there are any. -/
def ARet (w : World) (x : AttV) (b : Bool) (e : Ending) (w' : World) : Prop := e = .returned (.tuple #[.agg #[.int .i64 x.h, .int .i64 x.o, .string ⟨x.r.toArray⟩, .int .i64 x.l, .int .i64 x.i, .int .i64 x.g, .int .i64 x.s], .bool b]) ∧ Below w.heap.size w w'
set_option maxRecDepth 100000 in
set_option maxHeartbeats 1600000 in
theorem AGet_any {A : Option Addr} {m c : Nat} {l : List UInt8} (w : World) (ha : Bs w w.heap.size A m l) (hmc : m ≤ c) : Calls Try.prog 28 #[.slice A m c] w (ARet w (attG l) (gotA l)) := by
  obtain ⟨hr1, hb, hsz⟩ := rows1 w [.int .i64 0, .int .i64 0, .string ⟨#[]⟩, .int .i64 0, .int .i64 0, .int .i64 0, .int .i64 0] 48
  have HA := hide ((ha.below hb).more hb.size)
  have HR1 := hide hr1
  have HB := hide hb
  obtain ⟨ok, hok⟩ : ∃ ok, gotA l = ok := ⟨_, rfl⟩
  obtain ⟨y, hy⟩ : ∃ y, attG l = y := ⟨_, rfl⟩
  have hgi : y = if ok = true then toldA l else att0 := by rw [← hy]; unfold attG; rw [hok]
  rw [hok, hy]
  have HOK := hide hok
  have HGI := hide hgi
  have hlen := ha.len
  clear hr1 hb hsz ha hok hy hgi
  cases hs : (l == sealS l) with
  | false =>
    have HS := hide hs
    obtain rfl : ok = false := by rw [← HOK.out]; unfold gotA; rw [hs]; rfl
    obtain rfl : y = att0 := HGI.out
    have hg1 : w.heap.size < (w.alloc (.cells #[.int .i64 0, .int .i64 0, .string ⟨#[]⟩, .int .i64 0, .int .i64 0, .int .i64 0, .int .i64 0] 48)).heap.size := HR1.out.lt
    clear hs hlen
    go_enter Try.func28, Try.ntmps28
    go_wp2_with fail
    refine (Sealed_any _ HA.out).mono ?_
    rw [HS.out]
    rintro e w2 ⟨rfl, hbel⟩
    have HB2 := hide (below_step HB.out hbel)
    have HR2 := hide (HR1.out.on hbel)
    have hg2 : w.heap.size < w2.heap.size := HR2.out.lt
    clear hbel
    go_wp2_with ((with_reducible refine wpList_storeW rfl 48 (.tmp 2) (.tmp 10) rfl 7 att_size w.heap.size 48 rfl [.int .i64 0, .int .i64 0, .string ⟨#[]⟩, .int .i64 0, .int .i64 0, .int .i64 0, .int .i64 0] [.int .i64 0, .int .i64 0, .string ⟨#[]⟩, .int .i64 0, .int .i64 0, .int .i64 0, .int .i64 0] rfl HR2.out rfl rfl (by simp [Value.oneCell']) ?_); intro w9 hr9 hg9 hs9; have HR9 := hide hr9; have HB9 := hide (HB2.out.grown hg9 HB2.out.size (fun g hg => by have := Option.some.inj hg; omega)); clear hr9 hg9 hs9)
    exact bodyPost_ret (res_cell2 Try.results28 rfl rfl att_agg att_size HR9.out rfl) rfl ⟨rfl, HB9.out⟩
  | true =>
    have HS := hide hs
    have h64 : m = 64 := by rw [← hlen]; rw [beq_iff_eq] at hs; rw [hs, sealS_length]
    subst h64
    obtain ⟨b, o, rfl, -, -⟩ := HA.out.2 (by omega)
    obtain ⟨x, hx⟩ : ∃ x, toldA l = x := ⟨_, rfl⟩
    have HX := hide hx
    clear hs hlen hx
    go_enter Try.func28, Try.ntmps28
    go_wp2_with fail
    refine (Sealed_any _ HA.out).mono ?_
    rw [HS.out]
    rintro e w2 ⟨rfl, hbel⟩
    have HB2 := hide (below_step HB.out hbel)
    have HR2 := hide (HR1.out.on hbel)
    have HA2 := hide ((HA.out.below hbel).more hbel.size)
    clear hbel HB HR1 HA
    go_wp2_with fail
    refine (Atold_any _ HA2.out hmc HX.out).mono ?_
    rintro e w3 ⟨rfl, hbel⟩
    obtain ⟨hr4, hb4, hs4⟩ := rows1 w3 [.int .i64 x.h, .int .i64 x.o, .string ⟨x.r.toArray⟩, .int .i64 x.l, .int .i64 x.i, .int .i64 x.g, .int .i64 x.s] 48
    have hbb := hbel.trans (hb4.mono hbel.size)
    have HB4 := hide (below_step HB2.out hbb)
    have HR4 := hide (HR2.out.on hbb)
    have HX4 := hide hr4
    have HA4 := hide ((HA2.out.below hbb).more hbb.size)
    clear hbel hr4 hb4 hs4 hbb HB2 HR2 HA2
    go_wp2_with fail
    generalize (w3.alloc (.cells #[.int .i64 x.h, .int .i64 x.o, .string ⟨x.r.toArray⟩, .int .i64 x.l, .int .i64 x.i, .int .i64 x.g, .int .i64 x.s] 48)) = w4 at *
    generalize w3.heap.size = g3 at *
    refine (APut_any x _).mono ?_
    rintro e w5 ⟨A5, n5, c5, rfl, hown, hbel⟩
    have HB5 := hide (below_step HB4.out hbel)
    have HR5 := hide (HR4.out.on hbel)
    have HX5 := hide (HX4.out.on hbel)
    have HA5 := hide (HA4.out.below hbel)
    have hg5 : w.heap.size < w5.heap.size := HR5.out.lt
    have HO5 := hide hown
    clear hbel hown HB4 HR4 HX4 HA4
    cases hr : rightA x with
    | false =>
      have he : errA x = 1 := by unfold errA; rw [hr]; rfl
      rw [he]
      obtain rfl : ok = false := by rw [← HOK.out]; unfold gotA; rw [HX.out, hr, Bool.false_and, Bool.and_false]
      obtain rfl : y = att0 := HGI.out
      clear he hr
      go_wp2_with ((with_reducible refine wpList_storeW rfl 48 (.tmp 2) (.tmp 26) rfl 7 att_size w.heap.size 48 rfl [.int .i64 0, .int .i64 0, .string ⟨#[]⟩, .int .i64 0, .int .i64 0, .int .i64 0, .int .i64 0] [.int .i64 0, .int .i64 0, .string ⟨#[]⟩, .int .i64 0, .int .i64 0, .int .i64 0, .int .i64 0] rfl HR5.out rfl rfl (by simp [Value.oneCell']) ?_); intro w9 hr9 hg9 hs9; have HR9 := hide hr9; have HB9 := hide (HB5.out.grown hg9 HB5.out.size (fun g hg => by have := Option.some.inj hg; omega)); clear hr9 hg9 hs9)
      exact bodyPost_ret (res_cell2 Try.results28 rfl rfl att_agg att_size HR9.out rfl) rfl ⟨rfl, HB9.out⟩
    | true =>
      have he : errA x = 0 := by unfold errA; rw [hr]; rfl
      rw [he]
      obtain ⟨q, hq⟩ : ∃ q, (putA x == l) = q := ⟨_, rfl⟩
      have HQ := hide hq
      obtain rfl : ok = q := by rw [← HOK.out]; unfold gotA; rw [HX.out, hr, hq, HS.out]; rfl
      clear he hr hq
      cases ok with
      | false =>
        obtain rfl : y = att0 := HGI.out
        go_wp2_with (first
          | (go_at_call 16; (with_reducible refine (BEqual_b _ HO5.out.bs HA5.out HQ.out).mono ?_); rintro e w' ⟨rfl, rfl⟩)
          | ((with_reducible refine wpList_storeW rfl 48 (.tmp 2) (.tmp 26) rfl 7 att_size w.heap.size 48 rfl [.int .i64 0, .int .i64 0, .string ⟨#[]⟩, .int .i64 0, .int .i64 0, .int .i64 0, .int .i64 0] [.int .i64 0, .int .i64 0, .string ⟨#[]⟩, .int .i64 0, .int .i64 0, .int .i64 0, .int .i64 0] rfl HR5.out rfl rfl (by simp [Value.oneCell']) ?_); intro w9 hr9 hg9 hs9; have HR9 := hide hr9; have HB9 := hide (HB5.out.grown hg9 HB5.out.size (fun g hg => by have := Option.some.inj hg; omega)); clear hr9 hg9 hs9))
        exact bodyPost_ret (res_cell2 Try.results28 rfl rfl att_agg att_size HR9.out rfl) rfl ⟨rfl, HB9.out⟩
      | true =>
        obtain rfl : y = x := by rw [HGI.out, if_pos rfl, HX.out]
        go_wp2_with (first
          | (go_at_call 16; (with_reducible refine (BEqual_b _ HO5.out.bs HA5.out HQ.out).mono ?_); rintro e w' ⟨rfl, rfl⟩)
          | (with_reducible refine wpList_loadW rfl 48 (.tmp 4) rfl 7 att_agg att_size g3 48 rfl [.int .i64 y.h, .int .i64 y.o, .string ⟨y.r.toArray⟩, .int .i64 y.l, .int .i64 y.i, .int .i64 y.g, .int .i64 y.s] HX5.out rfl ?_)
          | ((with_reducible refine wpList_storeW rfl 48 (.tmp 2) (.tmp 27) rfl 7 att_size w.heap.size 48 rfl [.int .i64 0, .int .i64 0, .string ⟨#[]⟩, .int .i64 0, .int .i64 0, .int .i64 0, .int .i64 0] [.int .i64 y.h, .int .i64 y.o, .string ⟨y.r.toArray⟩, .int .i64 y.l, .int .i64 y.i, .int .i64 y.g, .int .i64 y.s] rfl HR5.out rfl rfl (by simp [Value.oneCell']) ?_); intro w9 hr9 hg9 hs9; have HR9 := hide hr9; have HB9 := hide (HB5.out.grown hg9 HB5.out.size (fun g hg => by have := Option.some.inj hg; omega)); clear hr9 hg9 hs9))
        exact bodyPost_ret (res_cell2 Try.results28 rfl rfl att_agg att_size HR9.out rfl) rfl ⟨rfl, HB9.out⟩
end Go.Proofs.Ythjjjeolpdekoaa
