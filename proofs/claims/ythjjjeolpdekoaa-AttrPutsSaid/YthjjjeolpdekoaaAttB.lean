/- attr.Drop (layer 9). -/
import Derived.Test.YthjjjeolpdekoaaAttA
namespace Go.Proofs.Ythjjjeolpdekoaa
open Go.RowKit Plain

theorem int_size1 : ∀ w, (sizeOf 3).run Try.prog w = .ok 1 w := fun w => by kernel_rfl
theorem str_size1 : ∀ w, (sizeOf 9).run Try.prog w = .ok 1 w := fun w => by kernel_rfl
theorem splice_one (l : List Value) (p : Nat) (v : Value) (h : p < l.length) : splice l p [v] = l.set p v := by
  apply List.ext_getElem?
  intro i
  rw [splice_get _ _ _ _ (by simp; omega), List.getElem?_set]
  by_cases h1 : p = i
  · subst h1
    simp [h]
  · rw [if_neg h1]
    by_cases h2 : i < p
    · rw [if_pos h2]
    · have h3 : ¬ i < p + [v].length := by simp; omega
      rw [if_neg h2, if_neg h3]
/-- One cell of a row, stored. -/
theorem wpList_storeV {P : Program} {w : World} {ops : Array Oper} {rest : List Oper} {o : Oper} {a : Act} {Q : Exit → Act → World → Prop} (hgd : o.guard = none) (T : Nat) (x y : Operand) (ho : o.op = .store T x y)
    (hsz : ∀ w, (sizeOf T).run P w = .ok 1 w) (g off t : Nat) (hx : a.eval x = .pointer (some ⟨g, off, none⟩)) (v : Value) (hy : a.eval y = v) (hv : v.cells = #[v]) (h1 : v.oneCell' = true) (cur : List Value) (h : RowL w g t cur) (hfit : off < cur.length)
    (hK : ∀ w', RowL w' g t (cur.set off v) → w.grownBy w' (some g) → w'.heap.size = w.heap.size → wpList P ops Q rest (a.put o.dst undef) w') : wpList P ops Q (o :: rest) a w := by
  refine wpList_plain hgd fun K hK' => ?_
  have hst := run_storeCells_at P g off t [v] 0 cur.toArray w h (by simp; omega) (by simp [h1])
  simp only [Nat.add_zero] at hst
  have hr : (Instr.storeAt T (.pointer (some ⟨g, off, none⟩)) v).run P w = .ok () (w.setRow g (splice cur off [v]).toArray) := by
    simp [Instr.storeAt, Instr.sureAddr, storeVar, hsz, hv, hst, splice]
  unfold Oper.wp execOp
  simp only [ho, Sem.run_bind, Sem.run_pure, Result.andThen_ok, hx, hy, hr]
  have hrow := h.setRow_ (splice cur off [v])
  rw [splice_one _ _ _ hfit] at hrow ⊢
  exact hK' _ _ (hK _ hrow (grownBy_setRow _ _ _) (by simp))

/-- Has the number this bit? -/
def bitI (b : Int) (k : Nat) : Bool := bits .and .i64 b ((2 ^ k : Nat) : Int) != 0
/-- Attributes without some. -/
def dropA (x : AttV) (b : Int) : AttV := ⟨bits .andNot .i64 x.h b, if bitI b 0 then 0 else x.o, if bitI b 1 then [] else x.r, if bitI b 2 then 0 else x.l, if bitI b 2 then 0 else x.i, if bitI b 2 then 0 else x.g, if bitI b 3 then 0 else x.s⟩
set_option maxRecDepth 100000 in
set_option maxHeartbeats 1600000 in
theorem Drop_any (x : AttV) (b : Int) (w : World) {y : AttV} (hy : dropA x b = y) : Calls Try.prog 32 #[.agg #[.int .i64 x.h, .int .i64 x.o, .string ⟨x.r.toArray⟩, .int .i64 x.l, .int .i64 x.i, .int .i64 x.g, .int .i64 x.s], .int .i64 b] w (VRet w (.agg #[.int .i64 y.h, .int .i64 y.o, .string ⟨y.r.toArray⟩, .int .i64 y.l, .int .i64 y.i, .int .i64 y.g, .int .i64 y.s])) := by
  obtain ⟨hr1, hr2, hb, hsz⟩ := rows2 w [.int .i64 x.h, .int .i64 x.o, .string ⟨x.r.toArray⟩, .int .i64 x.l, .int .i64 x.i, .int .i64 x.g, .int .i64 x.s] [.int .i64 0, .int .i64 0, .string ⟨#[]⟩, .int .i64 0, .int .i64 0, .int .i64 0, .int .i64 0] 48 48
  have c0 : ((w.alloc (.cells [.int .i64 x.h, .int .i64 x.o, .string ⟨x.r.toArray⟩, .int .i64 x.l, .int .i64 x.i, .int .i64 x.g, .int .i64 x.s].toArray 48)).alloc (.cells [.int .i64 0, .int .i64 0, .string ⟨#[]⟩, .int .i64 0, .int .i64 0, .int .i64 0, .int .i64 0].toArray 48)).cell? ⟨w.heap.size, 0, none⟩ = some (.int .i64 x.h) := hr1.cell 0
  have HR := hide hr1
  have HZ := hide hr2
  have HB := hide hb
  have HS := hide hsz
  clear hr1 hr2 hb hsz
  obtain ⟨z, hz⟩ : ∃ z, bits .andNot .i64 x.h b = z := ⟨_, rfl⟩
  obtain ⟨b0, h0⟩ : ∃ c, (bits .and .i64 b 1 != 0) = c := ⟨_, rfl⟩
  obtain ⟨b1, h1⟩ : ∃ c, (bits .and .i64 b 2 != 0) = c := ⟨_, rfl⟩
  obtain ⟨b2, h2⟩ : ∃ c, (bits .and .i64 b 4 != 0) = c := ⟨_, rfl⟩
  obtain ⟨b3, h3⟩ : ∃ c, (bits .and .i64 b 8 != 0) = c := ⟨_, rfl⟩
  have HY : Hid (y = ⟨z, if b0 then 0 else x.o, if b1 then [] else x.r, if b2 then 0 else x.l, if b2 then 0 else x.i, if b2 then 0 else x.g, if b3 then 0 else x.s⟩) := hide (by rw [← hy, ← hz, ← h0, ← h1, ← h2, ← h3]; rfl)
  clear hy
  cases b0 <;> cases b1 <;> cases b2 <;> cases b3
  all_goals
    go_enter Try.func32, Try.ntmps32
    go_wp2_with (first
          | ((with_reducible refine wpList_storeV rfl 3 (.tmp 9) (.tmp 8) rfl int_size1 w.heap.size 0 48 rfl (.int .i64 z) rfl rfl rfl _ HR.out (by simp [splice]) ?_); intro w' hr hg hs; have HB' := hide (HB.out.grown hg HB.out.size (fun g hg => Nat.le_of_eq (Option.some.inj hg))); have HZ' := hide (HZ.out.grown hg (by intro e; have := Option.some.inj e; omega)); have HS' := hide (hs.trans HS.out); clear HR HB HZ HS; have HR := hide hr; have HB := HB'; have HZ := HZ'; have HS := HS'; clear hr hg hs HB' HZ' HS')
          | ((with_reducible refine wpList_storeV rfl 3 (.tmp 13) (.const (.int .i64 0)) rfl int_size1 w.heap.size 1 48 rfl (.int .i64 0) rfl rfl rfl _ HR.out (by simp [splice]) ?_); intro w' hr hg hs; have HB' := hide (HB.out.grown hg HB.out.size (fun g hg => Nat.le_of_eq (Option.some.inj hg))); have HZ' := hide (HZ.out.grown hg (by intro e; have := Option.some.inj e; omega)); have HS' := hide (hs.trans HS.out); clear HR HB HZ HS; have HR := hide hr; have HB := HB'; have HZ := HZ'; have HS := HS'; clear hr hg hs HB' HZ' HS')
          | ((with_reducible refine wpList_storeV rfl 9 (.tmp 17) (.const (.string ⟨#[]⟩)) rfl str_size1 w.heap.size 2 48 rfl (.string ⟨#[]⟩) rfl rfl rfl _ HR.out (by simp [splice]) ?_); intro w' hr hg hs; have HB' := hide (HB.out.grown hg HB.out.size (fun g hg => Nat.le_of_eq (Option.some.inj hg))); have HZ' := hide (HZ.out.grown hg (by intro e; have := Option.some.inj e; omega)); have HS' := hide (hs.trans HS.out); clear HR HB HZ HS; have HR := hide hr; have HB := HB'; have HZ := HZ'; have HS := HS'; clear hr hg hs HB' HZ' HS')
          | ((with_reducible refine wpList_storeC rfl 46 (.tmp 22) (.tmp 21) rfl 3 ori_size w.heap.size 3 48 rfl _ [.int .i64 0, .int .i64 0, .int .i64 0] rfl HR.out rfl (by simp [splice]) (by simp [Value.oneCell']) ?_); intro w' hr hg hs; have HB' := hide (HB.out.grown hg HB.out.size (fun g hg => Nat.le_of_eq (Option.some.inj hg))); have HZ' := hide (HZ.out.grown hg (by intro e; have := Option.some.inj e; omega)); have HS' := hide (hs.trans HS.out); clear HR HB HZ HS; have HR := hide hr; have HB := HB'; have HZ := HZ'; have HS := HS'; clear hr hg hs HB' HZ' HS')
          | ((with_reducible refine wpList_storeV rfl 3 (.tmp 26) (.const (.int .i64 0)) rfl int_size1 w.heap.size 6 48 rfl (.int .i64 0) rfl rfl rfl _ HR.out (by simp [splice]) ?_); intro w' hr hg hs; have HB' := hide (HB.out.grown hg HB.out.size (fun g hg => Nat.le_of_eq (Option.some.inj hg))); have HZ' := hide (HZ.out.grown hg (by intro e; have := Option.some.inj e; omega)); have HS' := hide (hs.trans HS.out); clear HR HB HZ HS; have HR := hide hr; have HB := HB'; have HZ := HZ'; have HS := HS'; clear hr hg hs HB' HZ' HS')
          | (with_reducible refine wpList_loadW rfl 48 (.tmp 2) rfl 7 att_agg att_size w.heap.size 48 rfl _ HR.out (by simp [splice]) ?_)
          | ((with_reducible refine wpList_storeW rfl 48 (.tmp 4) (.tmp 27) rfl 7 att_size (w.heap.size + 1) 48 rfl [.int .i64 0, .int .i64 0, .string ⟨#[]⟩, .int .i64 0, .int .i64 0, .int .i64 0, .int .i64 0] _ rfl HZ.out (by simp [splice]) rfl (by simp [splice, Value.oneCell']) ?_); intro w9 hr9 hg9 hs9; have HR9 := hide hr9; have HB9 := hide (HB.out.grown hg9 HB.out.size (fun g hg => by have := Option.some.inj hg; omega)); clear hr9 hg9 hs9))
    exact bodyPost_ret (res_cell Try.results32 rfl att_agg att_size HR9.out (by simp [splice])) rfl (VRet.eq (by rw [HY.out]; rfl) HB9.out)
end Go.Proofs.Ythjjjeolpdekoaa
