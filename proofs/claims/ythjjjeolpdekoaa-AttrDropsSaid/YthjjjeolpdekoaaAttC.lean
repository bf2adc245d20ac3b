/- The reference's Drop (layer 9). -/
import Derived.Test.YthjjjeolpdekoaaAttB
namespace Go.Proofs.Ythjjjeolpdekoaa
open Go.RowKit Plain

theorem bit_all : ∀ n : Fin 256, ((n.1 : Int) % 2 = if bitI n.1 0 then 1 else 0) ∧ ((n.1 : Int) / 2 % 2 = if bitI n.1 1 then 1 else 0) ∧ ((n.1 : Int) / 4 % 2 = if bitI n.1 2 then 1 else 0) ∧ ((n.1 : Int) / 8 % 2 = if bitI n.1 3 then 1 else 0) := by decide +kernel
set_option maxRecDepth 100000 in
set_option maxHeartbeats 16000000 in
theorem RDrop_any (x : AttV) (n : Nat) (hn : n < 256) (w : World) {y : AttV} (hy : dropA x n = y) : Calls Try.prog 33 #[.agg #[.int .i64 x.h, .int .i64 x.o, .string ⟨x.r.toArray⟩, .int .i64 x.l, .int .i64 x.i, .int .i64 x.g, .int .i64 x.s], .int .i64 n] w (VRet w (.agg #[.int .i64 y.h, .int .i64 y.o, .string ⟨y.r.toArray⟩, .int .i64 y.l, .int .i64 y.i, .int .i64 y.g, .int .i64 y.s])) := by
  obtain ⟨hr1, hr2, hr3, hb, hsz⟩ := rows3 w [.int .i64 x.h, .int .i64 x.o, .string ⟨x.r.toArray⟩, .int .i64 x.l, .int .i64 x.i, .int .i64 x.g, .int .i64 x.s] [.int .i64 0, .int .i64 0, .string ⟨#[]⟩, .int .i64 0, .int .i64 0, .int .i64 0, .int .i64 0] [.int .i64 0, .int .i64 0, .string ⟨#[]⟩, .int .i64 0, .int .i64 0, .int .i64 0, .int .i64 0] 48 48 48
  have c0 : (((w.alloc (.cells [.int .i64 x.h, .int .i64 x.o, .string ⟨x.r.toArray⟩, .int .i64 x.l, .int .i64 x.i, .int .i64 x.g, .int .i64 x.s].toArray 48)).alloc (.cells [.int .i64 0, .int .i64 0, .string ⟨#[]⟩, .int .i64 0, .int .i64 0, .int .i64 0, .int .i64 0].toArray 48)).alloc (.cells [.int .i64 0, .int .i64 0, .string ⟨#[]⟩, .int .i64 0, .int .i64 0, .int .i64 0, .int .i64 0].toArray 48)).cell? ⟨w.heap.size, 0, none⟩ = some (.int .i64 x.h) := hr1.cell 0
  have hgx : w.heap.size < (((w.alloc (.cells [.int .i64 x.h, .int .i64 x.o, .string ⟨x.r.toArray⟩, .int .i64 x.l, .int .i64 x.i, .int .i64 x.g, .int .i64 x.s].toArray 48)).alloc (.cells [.int .i64 0, .int .i64 0, .string ⟨#[]⟩, .int .i64 0, .int .i64 0, .int .i64 0, .int .i64 0].toArray 48)).alloc (.cells [.int .i64 0, .int .i64 0, .string ⟨#[]⟩, .int .i64 0, .int .i64 0, .int .i64 0, .int .i64 0].toArray 48)).heap.size := hr1.lt
  have HX := hide hr1
  have HZ := hide hr2
  have HR := hide hr3
  have HB := hide hb
  have HS := hide hsz
  clear hr1 hr2 hr3 hb hsz
  obtain ⟨h0, h1, h2, h3⟩ := bit_all ⟨n, hn⟩
  simp only at h0 h1 h2 h3
  obtain ⟨z, hz⟩ : ∃ z, bits .andNot .i64 x.h n = z := ⟨_, rfl⟩
  obtain ⟨b0, e0⟩ : ∃ c, bitI n 0 = c := ⟨_, rfl⟩
  obtain ⟨b1, e1⟩ : ∃ c, bitI n 1 = c := ⟨_, rfl⟩
  obtain ⟨b2, e2⟩ : ∃ c, bitI n 2 = c := ⟨_, rfl⟩
  obtain ⟨b3, e3⟩ : ∃ c, bitI n 3 = c := ⟨_, rfl⟩
  have HY : Hid (y = ⟨z, if b0 then 0 else x.o, if b1 then [] else x.r, if b2 then 0 else x.l, if b2 then 0 else x.i, if b2 then 0 else x.g, if b3 then 0 else x.s⟩) := hide (by rw [← hy, ← hz, ← e0, ← e1, ← e2, ← e3]; rfl)
  rw [e0] at h0
  rw [e1] at h1
  rw [e2] at h2
  rw [e3] at h3
  clear hy e0 e1 e2 e3
  cases b0 <;> cases b1 <;> cases b2 <;> cases b3
  all_goals
    simp only [if_true, if_false, Bool.false_eq_true] at h0 h1 h2 h3
    go_enter Try.func33, Try.ntmps33
    go_wp2_with (first
          | ((with_reducible refine wpList_storeW rfl 48 (.tmp 5) (.tmp 6) rfl 7 att_size (w.heap.size + 1 + 1) 48 rfl [.int .i64 0, .int .i64 0, .string ⟨#[]⟩, .int .i64 0, .int .i64 0, .int .i64 0, .int .i64 0] [.int .i64 x.h, .int .i64 x.o, .string ⟨x.r.toArray⟩, .int .i64 x.l, .int .i64 x.i, .int .i64 x.g, .int .i64 x.s] rfl HR.out rfl rfl (by simp [Value.oneCell']) ?_); intro w' hr hg hs; have HB' := hide (HB.out.grown hg HB.out.size (fun g hg => by have := Option.some.inj hg; omega)); have HZ' := hide (HZ.out.grown hg (by intro e; have := Option.some.inj e; omega)); have HX' := hide (HX.out.grown hg (by intro e; have := Option.some.inj e; omega)); have HS' := hide (hs.trans HS.out); clear HR HB HZ HX HS c0 hgx; have HR := hide hr; have HB := HB'; have HZ := HZ'; have HX := HX'; have HS := HS'; have c0 : w'.cell? ⟨w.heap.size, 0, none⟩ = some (.int .i64 x.h) := HX.out.cell 0; have hgx : w.heap.size < w'.heap.size := HX.out.lt; clear hr hg hs HB' HZ' HS' HX')
          | ((with_reducible refine wpList_storeV rfl 3 (.tmp 10) (.const (.int .i64 0)) rfl int_size1 (w.heap.size + 1 + 1) 1 48 rfl (.int .i64 0) rfl rfl rfl _ HR.out (by simp [splice]) ?_); intro w' hr hg hs; have HB' := hide (HB.out.grown hg HB.out.size (fun g hg => by have := Option.some.inj hg; omega)); have HZ' := hide (HZ.out.grown hg (by intro e; have := Option.some.inj e; omega)); have HX' := hide (HX.out.grown hg (by intro e; have := Option.some.inj e; omega)); have HS' := hide (hs.trans HS.out); clear HR HB HZ HX HS c0 hgx; have HR := hide hr; have HB := HB'; have HZ := HZ'; have HX := HX'; have HS := HS'; have c0 : w'.cell? ⟨w.heap.size, 0, none⟩ = some (.int .i64 x.h) := HX.out.cell 0; have hgx : w.heap.size < w'.heap.size := HX.out.lt; clear hr hg hs HB' HZ' HS' HX')
          | ((with_reducible refine wpList_storeV rfl 9 (.tmp 15) (.const (.string ⟨#[]⟩)) rfl str_size1 (w.heap.size + 1 + 1) 2 48 rfl (.string ⟨#[]⟩) rfl rfl rfl _ HR.out (by simp [splice]) ?_); intro w' hr hg hs; have HB' := hide (HB.out.grown hg HB.out.size (fun g hg => by have := Option.some.inj hg; omega)); have HZ' := hide (HZ.out.grown hg (by intro e; have := Option.some.inj e; omega)); have HX' := hide (HX.out.grown hg (by intro e; have := Option.some.inj e; omega)); have HS' := hide (hs.trans HS.out); clear HR HB HZ HX HS c0 hgx; have HR := hide hr; have HB := HB'; have HZ := HZ'; have HX := HX'; have HS := HS'; have c0 : w'.cell? ⟨w.heap.size, 0, none⟩ = some (.int .i64 x.h) := HX.out.cell 0; have hgx : w.heap.size < w'.heap.size := HX.out.lt; clear hr hg hs HB' HZ' HS' HX')
          | ((with_reducible refine wpList_storeC rfl 46 (.tmp 21) (.tmp 20) rfl 3 ori_size (w.heap.size + 1 + 1) 3 48 rfl _ [.int .i64 0, .int .i64 0, .int .i64 0] rfl HR.out rfl (by simp [splice]) (by simp [Value.oneCell']) ?_); intro w' hr hg hs; have HB' := hide (HB.out.grown hg HB.out.size (fun g hg => by have := Option.some.inj hg; omega)); have HZ' := hide (HZ.out.grown hg (by intro e; have := Option.some.inj e; omega)); have HX' := hide (HX.out.grown hg (by intro e; have := Option.some.inj e; omega)); have HS' := hide (hs.trans HS.out); clear HR HB HZ HX HS c0 hgx; have HR := hide hr; have HB := HB'; have HZ := HZ'; have HX := HX'; have HS := HS'; have c0 : w'.cell? ⟨w.heap.size, 0, none⟩ = some (.int .i64 x.h) := HX.out.cell 0; have hgx : w.heap.size < w'.heap.size := HX.out.lt; clear hr hg hs HB' HZ' HS' HX')
          | ((with_reducible refine wpList_storeV rfl 3 (.tmp 26) (.const (.int .i64 0)) rfl int_size1 (w.heap.size + 1 + 1) 6 48 rfl (.int .i64 0) rfl rfl rfl _ HR.out (by simp [splice]) ?_); intro w' hr hg hs; have HB' := hide (HB.out.grown hg HB.out.size (fun g hg => by have := Option.some.inj hg; omega)); have HZ' := hide (HZ.out.grown hg (by intro e; have := Option.some.inj e; omega)); have HX' := hide (HX.out.grown hg (by intro e; have := Option.some.inj e; omega)); have HS' := hide (hs.trans HS.out); clear HR HB HZ HX HS c0 hgx; have HR := hide hr; have HB := HB'; have HZ := HZ'; have HX := HX'; have HS := HS'; have c0 : w'.cell? ⟨w.heap.size, 0, none⟩ = some (.int .i64 x.h) := HX.out.cell 0; have hgx : w.heap.size < w'.heap.size := HX.out.lt; clear hr hg hs HB' HZ' HS' HX')
          | ((with_reducible refine wpList_storeV rfl 3 (.tmp 31) (.tmp 30) rfl int_size1 (w.heap.size + 1 + 1) 0 48 rfl (.int .i64 z) rfl rfl rfl _ HR.out (by simp [splice]) ?_); intro w' hr hg hs; have HB' := hide (HB.out.grown hg HB.out.size (fun g hg => by have := Option.some.inj hg; omega)); have HZ' := hide (HZ.out.grown hg (by intro e; have := Option.some.inj e; omega)); have HX' := hide (HX.out.grown hg (by intro e; have := Option.some.inj e; omega)); have HS' := hide (hs.trans HS.out); clear HR HB HZ HX HS c0 hgx; have HR := hide hr; have HB := HB'; have HZ := HZ'; have HX := HX'; have HS := HS'; have c0 : w'.cell? ⟨w.heap.size, 0, none⟩ = some (.int .i64 x.h) := HX.out.cell 0; have hgx : w.heap.size < w'.heap.size := HX.out.lt; clear hr hg hs HB' HZ' HS' HX')
          | (with_reducible refine wpList_loadW rfl 48 (.tmp 2) rfl 7 att_agg att_size w.heap.size 48 rfl [.int .i64 x.h, .int .i64 x.o, .string ⟨x.r.toArray⟩, .int .i64 x.l, .int .i64 x.i, .int .i64 x.g, .int .i64 x.s] HX.out rfl ?_)
          | (with_reducible refine wpList_loadW rfl 48 (.tmp 5) rfl 7 att_agg att_size (w.heap.size + 1 + 1) 48 rfl _ HR.out (by simp [splice]) ?_)
          | ((with_reducible refine wpList_storeW rfl 48 (.tmp 4) (.tmp 32) rfl 7 att_size (w.heap.size + 1) 48 rfl [.int .i64 0, .int .i64 0, .string ⟨#[]⟩, .int .i64 0, .int .i64 0, .int .i64 0, .int .i64 0] _ rfl HZ.out (by simp [splice]) rfl (by simp [splice, Value.oneCell']) ?_); intro w9 hr9 hg9 hs9; have HR9 := hide hr9; have HB9 := hide (HB.out.grown hg9 HB.out.size (fun g hg => by have := Option.some.inj hg; omega)); clear hr9 hg9 hs9))
    exact bodyPost_ret (res_cell Try.results33 rfl att_agg att_size HR9.out (by simp [splice])) rfl (VRet.eq (by rw [HY.out]; rfl) HB9.out)
end Go.Proofs.Ythjjjeolpdekoaa
