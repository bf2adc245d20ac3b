/- 'append(s, make([]byte, k)...)' onto bytes of the call's own. Nothing here speaks of a program. -/
import Derived.Test.YtpflpampogngiaaMem
import Derived.Lib.AppendZerosOnto
namespace Go.Proofs.Ytpflpampogngiaa
open Go.RowKit

theorem zeroCells_u8 (k : Nat) : Builtin.zeroCells #[Value.int .u8 0] k = (bvs (zeros k)).toArray := by
  have e : bvs (zeros k) = List.replicate k (Value.int .u8 0) := by
    unfold bvs zeros
    rw [List.map_replicate]
    rfl
  rw [e]
  apply Array.ext'
  apply List.ext_getElem?
  intro j
  by_cases hj : j < k
  · simp [Builtin.zeroCells, hj, Nat.mod_one]
  · simp [Builtin.zeroCells, hj]

theorem run_append_zeros {P : Program} (w : World) {ty : Nat} (base t tn e : Nat) (ht : P.underlying t = some (.slice e)) (htn : P.underlying tn = some (.int .i64)) (hinfo : (P.info? e).map (fun i => (i.zero, i.size, i.bytes)) = some (some (.int .u8 0), 1, 1))
    {A : Option Addr} {n c : Nat} {l : List UInt8} (hown : Own w base e A n c l) (hn : 0 < n) (k : Nat) (h0 : 0 < k) (hk : n + k ≤ 1000000) (hbase : base ≤ w.heap.size) :
    ∃ A' c' w', (Builtin.append_ #[t, tn] ty #[.slice A n c, .int .i64 k]).run P w = .ok (.slice A' (n + k) c') w' ∧ Own w' base e A' (n + k) c' (l ++ zeros k) ∧ Bs w' w'.heap.size A n l ∧ Below base w w' := by
  obtain ⟨i, hi, hz, hsz, hby⟩ := info_parts hinfo
  have hl := hown.len
  obtain ⟨g, cs, rfl, hbg, hrow, hcl, hnc, hcm, htake⟩ := hown.row hn
  have hw : IntKind.i64.wrap (k : Int) = k := by rw [IntKind.wrap_i64]; omega
  have hneg : ¬ ((k : Int) < 0) := by omega
  have hlen : (bvs (l ++ zeros k)).length = (n + k) * 1 := by rw [bvs_length, List.length_append, zeros_length]; omega
  by_cases hroom : n + k ≤ c
  · have hst := run_storeCells_at P g n e (bvs (zeros k)) 0 cs.toArray w hrow (by simp only [bvs_length, zeros_length, List.size_toArray]; omega) (bvs_one _)
    simp only [Nat.add_zero] at hst
    have hns : ¬ (k = 0) := by omega
    have h48i : ¬ (281474976710656 < (k : Int)) := by omega
    have hr : (Builtin.append_ #[t, tn] ty #[.slice (some ⟨g, 0, none⟩) n c, .int .i64 k]).run P w = .ok (.slice (some ⟨g, 0, none⟩) (n + k) c) (w.setRow g (cs.take n ++ bvs (zeros k) ++ cs.drop (n + (bvs (zeros k)).length)).toArray) := by
      have hcz : (Value.int IntKind.u8 0).cells = #[Value.int .u8 0] := rfl
      simp [Builtin.append_, run_underlying ht, run_underlying htn, sizeOf, typeInfo, zeroValue, hi, hz, hsz, hby, asInt, asIntOf, hw, hroom, hneg, hns, h48i, hcz, zeroCells_u8, Addr.add_lit, hst]
    have hset := setRow_heap w g cs.toArray (cs.take n ++ bvs (zeros k) ++ cs.drop (n + (bvs (zeros k)).length)).toArray e (0, 0) hrow
    have hrow2 : RowL (w.setRow g (cs.take n ++ bvs (zeros k) ++ cs.drop (n + (bvs (zeros k)).length)).toArray) g e (cs.take n ++ bvs (zeros k) ++ cs.drop (n + (bvs (zeros k)).length)) := hset
    have hown2 : World.ownsRow (w.setRow g (cs.take n ++ bvs (zeros k) ++ cs.drop (n + (bvs (zeros k)).length)).toArray) base e 1 (.slice (some ⟨g, 0, none⟩) (n + k) c) (n + k) (bvs (l ++ zeros k)) := by
      refine ⟨hlen, .inr ⟨g, c, _, rfl, hbg, hset, hroom, hcm, ?_, ?_⟩⟩
      · simp only [List.size_toArray, List.length_append, List.length_take, List.length_drop, bvs_length, zeros_length]
        omega
      · rw [htake, bvs_append]
        have : (n + k) * 1 = (bvs l ++ bvs (zeros k)).length := by rw [List.length_append, bvs_length, bvs_length, zeros_length]; omega
        rw [this]
        exact List.take_left
    refine ⟨_, _, _, hr, hown2, ?_, below_setRow (Below.refl _ _) hbg _⟩
    have hb := Bs.of_row (o := 0) (B := (w.setRow g (cs.take n ++ bvs (zeros k) ++ cs.drop (n + (bvs (zeros k)).length)).toArray).heap.size) hrow2 hrow2.lt (l := l) (fun j x hx => by
      rw [Nat.zero_add, htake]
      have hj : j < l.length := (List.getElem?_eq_some_iff.1 hx).1
      rw [List.append_assoc, List.getElem?_append_left (by rw [bvs_length]; omega)]
      exact bvs_get hx)
    rwa [hl] at hb
  · have hold : (Builtin.firstCells i.size n (.slice (some ⟨g, 0, none⟩) n c)).run P w.drew = .ok (bvs l).toArray w.drew := by
      rw [hsz]
      exact run_firstCells_some (P := P) w.drew 1 n ⟨g, 0, none⟩ n c (bvs l) (by rw [bvs_length]; omega) (fun j u hu => by
        have := World.ownsRow.cells hown (g := g) rfl j u hu
        exact this)
    have hr := Lib.run_append_grow_zeros (P := P) w t tn ty e i _ .i64 .i64 ht htn hi hz (some ⟨g, 0, none⟩) n c (bvs l) hold k h0 (by omega) (by omega) (by omega) (by rw [hby]; omega)
      (by rw [hby]; have := growslice_fits (need := n + k) (old := c) (bytes := 1) (by omega) (by omega); omega)
    have hge := grownCap_ge w (n + k) c e
    have hcm2 : grownCap w (n + k) c e ≤ maxLen := grownCap_le_maxLen w (n + k) c e (by unfold maxLen; omega)
    have hbel : Below w.heap.size w (w.drew.alloc (.cells ((bvs l).toArray ++ Builtin.zeroCells (Value.int IntKind.u8 0).cells k ++ Builtin.zeroCells (Value.int IntKind.u8 0).cells (grownCap w (n + k) c e - (n + k))) e)) :=
      (below_drewN (below_self w) 1).alloc (Nat.le_refl _) _
    refine ⟨_, _, _, hr, ?_, (hown.bs.below hbel).more hbel.size, hbel.mono hbase⟩
    refine ⟨hlen, .inr ⟨w.heap.size, _, _, rfl, hbase, heap_alloc_new w.drew _, hge, hcm2, ?_, ?_⟩⟩
    · simp only [Array.size_append, List.size_toArray, size_zeroCells, bvs_length, hl, Value.cells]
      simp
      omega
    · rw [show (Value.int IntKind.u8 0).cells = #[Value.int .u8 0] from rfl, zeroCells_u8, Array.toList_append, Array.toList_append]
      have : (n + k) * 1 = (bvs l ++ bvs (zeros k)).length := by rw [List.length_append, bvs_length, bvs_length, zeros_length]; omega
      rw [this, bvs_append]
      exact List.take_left

theorem wpList_append_zeros {P : Program} (w : World) {ops : Array Oper} {rest : List Oper} {o : Oper} {a : Act} {Q : Exit → Act → World → Prop} (hgd : o.guard = none) (s x : Operand) (t tn : TypeId)
    (ho : o.op = .call { callee := .builtin .append, args := #[s, x], argTypes := #[t, tn] })
    (base e : Nat) (ht : P.underlying t = some (.slice e)) (htn : P.underlying tn = some (.int .i64)) (hinfo : (P.info? e).map (fun i => (i.zero, i.size, i.bytes)) = some (some (.int .u8 0), 1, 1))
    {A : Option Addr} {n c : Nat} {l : List UInt8} (hs : a.eval s = .slice A n c) (hown : Own w base e A n c l) (hn : 0 < n) (k : Nat) (K : Int) (hK : K = (k : Int)) (hx : a.eval x = .int .i64 K) (h0 : 0 < k) (hk : n + k ≤ 1000000) (hbase : base ≤ w.heap.size)
    (h : ∀ A' c' w', Own w' base e A' (n + k) c' (l ++ zeros k) → Bs w' w'.heap.size A n l → Below base w w' → wpList P ops Q rest (a.put o.dst (.slice A' (n + k) c')) w') : wpList P ops Q (o :: rest) a w := by
  subst hK
  obtain ⟨A', c', w', hr, h2, h3, h4⟩ := run_append_zeros (P := P) (ty := o.type) w base t tn e ht htn hinfo hown hn k h0 hk hbase
  refine wpList_plain hgd fun K hK => ?_
  unfold Oper.wp execOp
  simp only [ho, resolve, invoke, builtin, Sem.run_bind, Sem.run_pure, Result.andThen_ok, List.map_toArray, List.map_cons, List.map_nil, hs, hx, hr]
  exact hK _ _ (h A' c' w' h2 h3 h4)
end Go.Proofs.Ytpflpampogngiaa
