/- Append onto an empty literal. Nothing here speaks of a program. -/
import Derived.Test.YtnjmddmiebofeaaMemF
namespace Go.Proofs.Ytnjmddmiebofeaa
open Go.RowKit
variable {α : Type} {E : Enc α}

/-- append onto an empty literal: nothing that was there is turned; the row lies where the literal lay, or in a new block. -/
theorem run_append_lit0 [Tags] {P : Program} (w : World) (base : Nat) (t ty e : TypeId) (z : Value) (k : Nat) (ht : P.underlying t = some (.slice e)) (hinfo : (P.info? e).map (fun i => (i.zero, i.size, i.bytes)) = some (some z, E.k, k)) (hzs : z.cells.size = E.k) (hk : 0 < E.k)
    (p : Nat) (hown : OwE E w base e (some ⟨p, 0, none⟩) 0 0 []) (D : Nat → Prop) (A : Option Addr) (m c : Nat) (l1 : List α) (hb : RdE E w D A m l1) (hD : ∀ b, D b → But w (some ⟨p, 0, none⟩) b)
    (hbytes : m * k ≤ 140737488355328) (hnm : m ≤ 140737488355328) (hbase : base ≤ w.heap.size) :
    ∃ A' c' w', (Builtin.append_ #[t, t] ty #[.slice (some ⟨p, 0, none⟩) 0 0, .slice A m c]).run P w = .ok (.slice A' m c') w' ∧ OwE E w' base e A' m c' l1 ∧ Below w.heap.size w w' ∧ ∀ a, A' = some a → a.block = p ∨ w.heap.size ≤ a.block := by
  obtain ⟨i, hi, hz, hsz, hby⟩ := info_parts hinfo
  obtain ⟨A', c', w', hr, ho, _⟩ := run_append_OwE (P := P) w base t ty e z k ht hinfo hzs hk _ 0 0 [] hown D A m c l1 hb hD (by rw [Nat.zero_add]; exact hbytes) (by omega) hbase
  rw [Nat.zero_add] at hr ho
  rw [List.nil_append] at ho
  refine ⟨A', c', w', hr, ho, ?_⟩
  rcases Nat.eq_zero_or_pos m with hm | hm
  · subst hm
    have h2 : (Builtin.append_ #[t, t] ty #[.slice (some ⟨p, 0, none⟩) 0 0, .slice A 0 c]).run P w = .ok (.slice (some ⟨p, 0, none⟩) 0 0) w := by
      cases A <;> simp [Builtin.append_, run_underlying ht, sizeOf, typeInfo, hi, Builtin.lenOf, Builtin.firstCells, loadCells, loadCellsFrom, storeCells]
    rw [h2] at hr
    cases hr
    exact ⟨Below.refl _ _, fun a ha => by cases ha; exact .inl rfl⟩
  · obtain ⟨b, o, dss, rfl, _, hC, hcell⟩ := hb.cells hm
    have hfl := flat_len hC.lens
    have h2 := run_append_grow (P := P) w t ty e i z ht hi hz ⟨p, 0, none⟩ 0 0 [] (by simp) (by simp) ⟨b, o, none⟩ m c dss.flatten (by rw [hfl, hC.1, hb.1, hsz]) (fun j u hu => by
      have := hcell j u hu
      rw [← this]
      congr 1
      unfold Addr.add
      split
      · rename_i h0; subst h0; rfl
      · rfl) (by omega) (by omega) (growslice_fits (by omega) (by subst hby; simpa using hbytes))
    rw [Nat.zero_add] at h2
    rw [h2] at hr
    cases hr
    exact ⟨(Below.refl _ _).drew.alloc (Nat.le_refl _) _, fun a ha => by cases ha; exact .inr (Nat.le_refl _)⟩
theorem wp_append_lit0 [Tags] {P : Program} (w : World) {o : Oper} {a : Act} {K : Act → World → Prop} {Q : Exit → Act → World → Prop} (s x : Operand) (t : TypeId)
    (ho : o.op = .call { callee := .builtin .append, args := #[s, x], argTypes := #[t, t] })
    (base : Nat) (e : TypeId) (z : Value) (k : Nat) (ht : P.underlying t = some (.slice e)) (hinfo : (P.info? e).map (fun i => (i.zero, i.size, i.bytes)) = some (some z, E.k, k)) (hzs : z.cells.size = E.k) (hk : 0 < E.k)
    (p : Nat) (hs : a.eval s = .slice (some ⟨p, 0, none⟩) 0 0) (hown : OwE E w base e (some ⟨p, 0, none⟩) 0 0 []) (D : Nat → Prop) (A : Option Addr) (m c : Nat) (l1 : List α) (hx : a.eval x = .slice A m c) (hb : RdE E w D A m l1) (hD : ∀ b, D b → But w (some ⟨p, 0, none⟩) b)
    (hbytes : m * k ≤ 140737488355328) (hnm : m ≤ 140737488355328) (hbase : base ≤ w.heap.size)
    (h : ∀ A' c' w', OwE E w' base e A' m c' l1 → Below w.heap.size w w' → (∀ a, A' = some a → a.block = p ∨ w.heap.size ≤ a.block) → K (a.put o.dst (.slice A' m c')) w') : o.wp P a w K Q := by
  obtain ⟨A', c', w', hr, h2, h3, h4⟩ := run_append_lit0 (P := P) w base t o.type e z k ht hinfo hzs hk p hown D A m c l1 hb hD hbytes hnm hbase
  unfold Oper.wp execOp
  simp only [ho, resolve, invoke, builtin, Sem.run_bind, Sem.run_pure, Result.andThen_ok, List.map_toArray, List.map_cons, List.map_nil, hs, hx, hr]
  exact h A' c' w' h2 h3 h4
end Go.Proofs.Ytnjmddmiebofeaa
