/- The law's awake (layer 9). -/
import Derived.Test.YthjjjeolpdekoaaAttF
import Derived.Test.YthjjjeolpdekoaaSumF
namespace Go.Proofs.Ythjjjeolpdekoaa
open Go.RowKit Plain

theorem APut_c (x : AttV) {b : List UInt8} {k : Int} (h1 : putA x = b) (h2 : errA x = k) (w : World) : Calls Try.prog 26 #[.agg #[.int .i64 x.h, .int .i64 x.o, .string ⟨x.r.toArray⟩, .int .i64 x.l, .int .i64 x.i, .int .i64 x.g, .int .i64 x.s]] w (BERet w 5 b k) := by
  subst h1 h2; exact APut_any x w
theorem AGet_c {A : Option Addr} {m c : Nat} {l : List UInt8} {y : AttV} {b : Bool} (h1 : attG l = y) (h2 : gotA l = b) (w : World) (ha : Bs w w.heap.size A m l) (hmc : m ≤ c) : Calls Try.prog 28 #[.slice A m c] w (ARet w y b) := by
  subst h1 h2; exact AGet_any w ha hmc
def aw9 : AttV := ⟨5, 121, [], 1, 2, 3, 0⟩
theorem aw9_1 : rightA aw9 = true := by decide +kernel
theorem aw9_2 : errA aw9 = 0 := by decide +kernel
theorem aw9_3 : gotA (putA aw9) = true := by decide +kernel
theorem aw9_4 : attG (putA aw9) = aw9 := by decide +kernel
theorem aw9_5 : gotA (zeros 64) = false := by decide +kernel
theorem aw9_6 : attG (zeros 64) = att0 := by decide +kernel
theorem aw9_7 : dropA aw9 4 = ⟨1, 121, [], 0, 0, 0, 0⟩ := by decide +kernel
set_option maxRecDepth 100000 in
set_option maxHeartbeats 1600000 in
theorem awake9_any (w : World) : Calls Try.prog 25 #[] w (LawOk w) := by
  obtain ⟨hr1, hb, hsz⟩ := rows1 w [.int .i64 5, .int .i64 121, .string ⟨#[]⟩, .int .i64 1, .int .i64 2, .int .i64 3, .int .i64 0] 48
  have HR1 := hide hr1
  have HB := hide hb
  have hE1 := eq_att (x := aw9) (y := aw9) (b := true) (by decide +kernel)
  have hE2 := eq_att (x := ⟨1, 121, [], 0, 0, 0, 0⟩) (y := ⟨1, 121, [], 0, 0, 0, 0⟩) (b := true) (by decide +kernel)
  simp only [aw9] at hE1 hE2
  clear hr1 hb hsz
  go_enter Try.func25, Try.ntmps25
  go_wp2_with fail
  refine (APut_c aw9 rfl aw9_2 _).mono ?_
  rintro e w2 ⟨A2, n2, k2, rfl, hown, hbel⟩
  have hn2 : n2 = 64 := by rw [← hown.len, putA_len aw9_1]
  subst hn2
  have hcp := hown.cap
  have HO2 := hide hown
  have HR2 := hide (HR1.out.on hbel)
  have HB2 := hide (below_step HB.out hbel)
  clear hown hbel HR1 HB
  go_wp2_with fail
  refine (AGet_c aw9_4 aw9_3 _ HO2.out.bs hcp).mono ?_
  rintro e w3 ⟨rfl, hbel⟩
  obtain ⟨hr4, hb4, hs4⟩ := rows1 w3 [.int .i64 5, .int .i64 121, .string ⟨#[]⟩, .int .i64 1, .int .i64 2, .int .i64 3, .int .i64 0] 48
  have hbb := hbel.trans (hb4.mono hbel.size)
  have HR4 := hide (HR2.out.on hbb)
  have HX4 := hide hr4
  have HB4 := hide (below_step HB2.out hbb)
  clear hbel hr4 hb4 hs4 hbb HR2 HB2
  unfold aw9
  go_wp2_with (with_reducible refine wpList_make_Bs _ rfl _ _ 24 rfl 5 Try.underlying24 info_u8 _ _ _ _ 64 rfl rfl rfl rfl (by omega) ?_; intro w5 hr5 hb5; have HM5 := hide hr5; have HR5 := hide (HR4.out.on hb5); have HX5 := hide (HX4.out.on hb5); have HB5 := hide (below_step HB4.out hb5); clear hr5 hb5)
  have hz : (w3.alloc (.cells #[.int .i64 5, .int .i64 121, .string ⟨#[]⟩, .int .i64 1, .int .i64 2, .int .i64 3, .int .i64 0] 48)).heap.size = w3.heap.size + 1 := by simp
  rw [hz] at HM5
  refine (AGet_c aw9_6 aw9_5 _ (HM5.out.own_bvs (base := 0) rfl (zeros_length 64) (Nat.zero_le _) (by omega)).bs (by omega)).mono ?_
  rintro e w6 ⟨rfl, hbel⟩
  obtain ⟨hr7, hb7, hs7⟩ := rows1 w6 [.int .i64 0, .int .i64 0, .string ⟨#[]⟩, .int .i64 0, .int .i64 0, .int .i64 0, .int .i64 0] 48
  have hbb := hbel.trans (hb7.mono hbel.size)
  have HR7 := hide (HR5.out.on hbb)
  have HX7 := hide (HX5.out.on hbb)
  have HB7 := hide (below_step HB5.out hbb)
  clear hbel hr7 hb7 hs7 hbb HR5 HX5 HB5 HM5 hz
  have c0 : (w6.alloc (.cells #[.int .i64 0, .int .i64 0, .string ⟨#[]⟩, .int .i64 0, .int .i64 0, .int .i64 0, .int .i64 0] 48)).cell? ⟨w.heap.size, 0, none⟩ = some (.int .i64 5) := HR7.out.cell 0
  have c1 : (w6.alloc (.cells #[.int .i64 0, .int .i64 0, .string ⟨#[]⟩, .int .i64 0, .int .i64 0, .int .i64 0, .int .i64 0] 48)).cell? ⟨w.heap.size, 1, none⟩ = some (.int .i64 121) := HR7.out.cell 1
  have c2 : (w6.alloc (.cells #[.int .i64 0, .int .i64 0, .string ⟨#[]⟩, .int .i64 0, .int .i64 0, .int .i64 0, .int .i64 0] 48)).cell? ⟨w.heap.size, 2, none⟩ = some (.string ⟨#[]⟩) := HR7.out.cell 2
  have c3 : (w6.alloc (.cells #[.int .i64 0, .int .i64 0, .string ⟨#[]⟩, .int .i64 0, .int .i64 0, .int .i64 0, .int .i64 0] 48)).cell? ⟨w.heap.size, 3, none⟩ = some (.int .i64 1) := HR7.out.cell 3
  have c4 : (w6.alloc (.cells #[.int .i64 0, .int .i64 0, .string ⟨#[]⟩, .int .i64 0, .int .i64 0, .int .i64 0, .int .i64 0] 48)).cell? ⟨w.heap.size, 4, none⟩ = some (.int .i64 2) := HR7.out.cell 4
  have c5 : (w6.alloc (.cells #[.int .i64 0, .int .i64 0, .string ⟨#[]⟩, .int .i64 0, .int .i64 0, .int .i64 0, .int .i64 0] 48)).cell? ⟨w.heap.size, 5, none⟩ = some (.int .i64 3) := HR7.out.cell 5
  have c6 : (w6.alloc (.cells #[.int .i64 0, .int .i64 0, .string ⟨#[]⟩, .int .i64 0, .int .i64 0, .int .i64 0, .int .i64 0] 48)).cell? ⟨w.heap.size, 6, none⟩ = some (.int .i64 0) := HR7.out.cell 6
  have d0 : (w6.alloc (.cells #[.int .i64 0, .int .i64 0, .string ⟨#[]⟩, .int .i64 0, .int .i64 0, .int .i64 0, .int .i64 0] 48)).cell? ⟨w3.heap.size, 0, none⟩ = some (.int .i64 5) := HX7.out.cell 0
  have d1 : (w6.alloc (.cells #[.int .i64 0, .int .i64 0, .string ⟨#[]⟩, .int .i64 0, .int .i64 0, .int .i64 0, .int .i64 0] 48)).cell? ⟨w3.heap.size, 1, none⟩ = some (.int .i64 121) := HX7.out.cell 1
  have d2 : (w6.alloc (.cells #[.int .i64 0, .int .i64 0, .string ⟨#[]⟩, .int .i64 0, .int .i64 0, .int .i64 0, .int .i64 0] 48)).cell? ⟨w3.heap.size, 2, none⟩ = some (.string ⟨#[]⟩) := HX7.out.cell 2
  have d3 : (w6.alloc (.cells #[.int .i64 0, .int .i64 0, .string ⟨#[]⟩, .int .i64 0, .int .i64 0, .int .i64 0, .int .i64 0] 48)).cell? ⟨w3.heap.size, 3, none⟩ = some (.int .i64 1) := HX7.out.cell 3
  have d4 : (w6.alloc (.cells #[.int .i64 0, .int .i64 0, .string ⟨#[]⟩, .int .i64 0, .int .i64 0, .int .i64 0, .int .i64 0] 48)).cell? ⟨w3.heap.size, 4, none⟩ = some (.int .i64 2) := HX7.out.cell 4
  have d5 : (w6.alloc (.cells #[.int .i64 0, .int .i64 0, .string ⟨#[]⟩, .int .i64 0, .int .i64 0, .int .i64 0, .int .i64 0] 48)).cell? ⟨w3.heap.size, 5, none⟩ = some (.int .i64 3) := HX7.out.cell 5
  have d6 : (w6.alloc (.cells #[.int .i64 0, .int .i64 0, .string ⟨#[]⟩, .int .i64 0, .int .i64 0, .int .i64 0, .int .i64 0] 48)).cell? ⟨w3.heap.size, 6, none⟩ = some (.int .i64 0) := HX7.out.cell 6
  have hg7 : w.heap.size < (w6.alloc (.cells #[.int .i64 0, .int .i64 0, .string ⟨#[]⟩, .int .i64 0, .int .i64 0, .int .i64 0, .int .i64 0] 48)).heap.size := HR7.out.lt
  have hx7 : w3.heap.size < (w6.alloc (.cells #[.int .i64 0, .int .i64 0, .string ⟨#[]⟩, .int .i64 0, .int .i64 0, .int .i64 0, .int .i64 0] 48)).heap.size := HX7.out.lt
  unfold att0
  go_wp2_with fail
  refine (ARight_b aw9 _ aw9_1).mono ?_
  rintro e w8 ⟨rfl, hbel⟩
  have HR8 := hide (HR7.out.on hbel)
  have HB8 := hide (below_step HB7.out hbel)
  clear hbel c0 c1 c2 c3 c4 c5 c6 d0 d1 d2 d3 d4 d5 d6 hg7 hx7
  have c0 : w8.cell? ⟨w.heap.size, 0, none⟩ = some (.int .i64 5) := HR8.out.cell 0
  have c1 : w8.cell? ⟨w.heap.size, 1, none⟩ = some (.int .i64 121) := HR8.out.cell 1
  have c2 : w8.cell? ⟨w.heap.size, 2, none⟩ = some (.string ⟨#[]⟩) := HR8.out.cell 2
  have c3 : w8.cell? ⟨w.heap.size, 3, none⟩ = some (.int .i64 1) := HR8.out.cell 3
  have c4 : w8.cell? ⟨w.heap.size, 4, none⟩ = some (.int .i64 2) := HR8.out.cell 4
  have c5 : w8.cell? ⟨w.heap.size, 5, none⟩ = some (.int .i64 3) := HR8.out.cell 5
  have c6 : w8.cell? ⟨w.heap.size, 6, none⟩ = some (.int .i64 0) := HR8.out.cell 6
  have hg8 : w.heap.size < w8.heap.size := HR8.out.lt
  go_wp2_with fail
  refine (Drop_any aw9 4 _ aw9_7).mono ?_
  rintro e w9 ⟨rfl, hbel⟩
  have HB9 := hide (below_step HB8.out hbel)
  clear hbel
  go_wp2_with fail
  go_ret
  exact LawOk.of HB9.out
end Go.Proofs.Ythjjjeolpdekoaa
