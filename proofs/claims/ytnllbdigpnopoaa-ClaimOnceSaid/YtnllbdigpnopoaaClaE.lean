/- claim: lists of pairs; the reference's Used and Bad (layer 11). -/
import Derived.Test.YtnllbdigpnopoaaClaD
import Derived.Test.YtnllbdigpnopoaaBitB
import Derived.Great.BuildSlice
namespace Go.Proofs.Ytnllbdigpnopoaa
open Go.RowKit Go.Shelf Plain

/-- A place as a pair: its inode, and its pointer. -/
def pairC (q : Nat) : List Value := [.int .i64 ((q / 5 + 1 : Nat) : Int), .int .i64 ((q % 5 : Nat) : Int)]
def flatB (L : List Nat) : List Value := L.flatMap pairC
theorem flatB_snoc (L : List Nat) (q : Nat) : flatB (L ++ [q]) = flatB L ++ pairC q := by simp [flatB]
theorem flatB_len (L : List Nat) : (flatB L).length = L.length * 2 := by
  induction L with
  | nil => rfl
  | cons x r ih => rw [show flatB (x :: r) = pairC x ++ flatB r from rfl, List.length_append, ih, List.length_cons]; simp only [pairC, List.length_cons, List.length_nil]; omega
theorem flatB_get {L : List Nat} {i q j : Nat} (h : L[i]? = some q) (hj : j < 2) : (flatB L)[i * 2 + j]? = (pairC q)[j]? := by
  induction L generalizing i with
  | nil => simp at h
  | cons x r ih =>
    rw [show flatB (x :: r) = pairC x ++ flatB r from rfl]
    cases i with
    | zero =>
      simp at h
      subst h
      rw [List.getElem?_append_left (by simp [pairC]; omega)]
      congr 1
      omega
    | succ i =>
      rw [List.getElem?_append_right (by simp [pairC]; omega), show (i + 1) * 2 + j - (pairC x).length = i * 2 + j from by simp [pairC]; omega]
      exact ih (by simpa using h)
theorem pairC_at {i k : Nat} (hk : k < 5) : pairC (5 * i + k) = [.int .i64 (((i : Nat) : Int) + 1), .int .i64 (k : Int)] := by
  have := q_parts (i := i) hk
  simp only [pairC, this.1, this.2]
  rfl
def zpair : Value := .agg #[.int .i64 0, .int .i64 0]
theorem pair_info : (Try.prog.info? 30).map (fun i => (i.zero, i.size, i.bytes)) = some (some zpair, 2, 16) := by kernel_rfl
theorem lit_pair (q : Nat) (W : World) : (Instr.buildSlice 29 1 #[(0, .agg (pairC q).toArray)]).run Try.prog W = .ok (.slice (some ⟨W.heap.size, 0, none⟩) 1 1) (W.alloc (.cells (pairC q).toArray 30)) := by
  obtain ⟨it, hi, hz, hsz, -⟩ := info_parts pair_info
  refine run_buildSlice W _ 30 1 _ _ it zpair Try.underlying29 hi hz (by omega) (by omega) ?_
  rw [hsz]
  have := Great.fill_whole (s := 2) (by omega) [.agg (pairC q).toArray] ((Array.range (1 * 2)).map (zpair.cells[· % zpair.cells.size]!)) (by intro v hv; rw [List.mem_singleton] at hv; subst hv; simp [Value.cells, pairC]) (by simp)
  simpa [Value.cells] using this
/-- It returns a list of pairs of its own. -/
def PairRet (w : World) (L : List Nat) (x : Ending) (w' : World) : Prop := ∃ A n c, x = .returned (.slice A n c) ∧ w'.ownsRow w.heap.size 30 2 (.slice A n c) n (flatB L) ∧ Below w.heap.size w w'
/-- append of one pair. -/
theorem wpList_appP {ops : Array Oper} {rest : List Oper} {o : Oper} {a : Act} {Q : Exit → Act → World → Prop} (W3 : World) (base : Nat) (hg : o.guard = none) (s x : Operand)
    (hop : o.op = Op.call { callee := Callee.builtin Builtin.append, args := #[s, x], argTypes := #[29, 29] }) (A1 : Option Addr) (n1 c1 : Nat) (L1 : List Nat) (y : Nat) (cs : List Value) (hcs : pairC y = cs) (hs : a.eval s = .slice A1 n1 c1) (ho1 : W3.ownsRow base 30 2 (.slice A1 n1 c1) n1 (flatB L1))
    (hx : a.eval x = .slice (some ⟨W3.heap.size, 0, none⟩) 1 1) (hm : n1 ≤ 1000) (hb : base ≤ W3.heap.size)
    (hK : ∀ A5 c5 W5, W5.ownsRow base 30 2 (.slice A5 (n1 + 1) c5) (n1 + 1) (flatB (L1 ++ [y])) → (W3.alloc (.cells cs.toArray 30)).grownBy W5 (Value.slice A1 n1 c1).ownBlock → wpList Try.prog ops Q rest (a.put o.dst (.slice A5 (n1 + 1) c5)) W5) :
    wpList Try.prog ops Q (o :: rest) a (W3.alloc (.cells cs.toArray 30)) := by
  subst hcs
  obtain ⟨ie, hie, hze, hse, hbe⟩ := info_parts pair_info
  have hc := (RowL.new W3 30 (pairC y)).src (off := 0) (m := 2) (l := pairC y) rfl rfl
  have h1c : ∀ u ∈ pairC y, u.oneCell' = true := by simp [pairC, Value.oneCell']
  refine wpList_append_own _ hg s x 29 hop base 30 ie zpair 2 16 Try.underlying29 hie hze hse hbe rfl (by omega) (.slice A1 n1 c1) n1 (flatB L1) hs (ho1.alloc _) ⟨W3.heap.size, 0, none⟩ 1 1 (pairC y) hx rfl hc h1c (by simp only [maxLen]; omega) (by omega) (by rw [World.size_alloc]; omega) ?_
  intro v' W5 ho5 hg5 _
  obtain ⟨A5, c5, rfl⟩ := owns_slice ho5
  rw [← flatB_snoc] at ho5
  exact hK A5 c5 W5 ho5 hg5
/-- The same, inside a fence. -/
theorem wpListIn_appP {F : Fence} {n : Nat} {ops : Array Oper} {rest : List Oper} {o : Oper} {a : Act} {Q : Exit → Act → World → Prop} (W3 : World) (base : Nat) (hg : o.guard = none) (s x : Operand)
    (hop : o.op = Op.call { callee := Callee.builtin Builtin.append, args := #[s, x], argTypes := #[29, 29] }) (A1 : Option Addr) (n1 c1 : Nat) (L1 : List Nat) (y : Nat) (cs : List Value) (hcs : pairC y = cs) (hs : a.eval s = .slice A1 n1 c1) (ho1 : W3.ownsRow base 30 2 (.slice A1 n1 c1) n1 (flatB L1))
    (hx : a.eval x = .slice (some ⟨W3.heap.size, 0, none⟩) 1 1) (hm : n1 ≤ 1000) (hb : base ≤ W3.heap.size)
    (hK : ∀ A5 c5 W5, W5.ownsRow base 30 2 (.slice A5 (n1 + 1) c5) (n1 + 1) (flatB (L1 ++ [y])) → (W3.alloc (.cells cs.toArray 30)).grownBy W5 (Value.slice A1 n1 c1).ownBlock → wpListIn F n Try.prog ops Q rest (a.put o.dst (.slice A5 (n1 + 1) c5)) W5) :
    wpListIn F n Try.prog ops Q (o :: rest) a (W3.alloc (.cells cs.toArray 30)) := by
  subst hcs
  obtain ⟨ie, hie, hze, hse, hbe⟩ := info_parts pair_info
  have hc := (RowL.new W3 30 (pairC y)).src (off := 0) (m := 2) (l := pairC y) rfl rfl
  have h1c : ∀ u ∈ pairC y, u.oneCell' = true := by simp [pairC, Value.oneCell']
  refine wpListIn_append_own _ hg s x 29 hop base 30 ie zpair 2 16 Try.underlying29 hie hze hse hbe rfl (by omega) (.slice A1 n1 c1) n1 (flatB L1) hs (ho1.alloc _) ⟨W3.heap.size, 0, none⟩ 1 1 (pairC y) hx rfl hc h1c (by simp only [maxLen]; omega) (by omega) (by rw [World.size_alloc]; omega) ?_
  intro v' W5 ho5 hg5 _
  obtain ⟨A5, c5, rfl⟩ := owns_slice ho5
  rw [← flatB_snoc] at ho5
  exact hK A5 c5 W5 ho5 hg5
theorem below_owned {w W W' : World} {base e s n1 : Nat} {v1 : Value} {xs : List Value} (hB : Below base w W) (hle : base ≤ W.heap.size) (ho : W.ownsRow base e s v1 n1 xs) (hg : W.grownBy W' v1.ownBlock) : Below base w W' :=
  hB.grown hg hle (fun g hg' => (own_block ho g hg').1)
theorem info_bool' : (Try.prog.info? 4).map (fun i => (i.zero, i.size, i.bytes)) = some (some (.bool false), 1, 1) := by kernel_rfl
theorem usedS_no {ps : List Int} {m : Int} (h : ¬ (1 ≤ m ∧ m ≤ 512)) : usedS ps m = [] := by unfold usedS; rw [if_neg h]
theorem usedS_yes {ps : List Int} {m : Nat} (h : 1 ≤ m) (h2 : m ≤ 512) : usedS ps m = usedQ ps m := by
  unfold usedS
  rw [if_pos (by omega)]
  rfl
theorem ownQ_used {ps : List Int} {m b : Nat} (h : b < m) : (ownQ ps m b).isSome = (fst1 ((b : Int) + 1) ps).isSome := by
  unfold ownQ
  rw [if_pos (by omega)]
theorem lenB (ps : List Int) (m : Int) : (usedS ps m).length ≤ 512 := by
  unfold usedS
  split
  · rw [usedQ_len]; omega
  · simp
set_option maxRecDepth 100000 in
set_option maxHeartbeats 1000000 in
theorem RUsed_any {A : Option Addr} {n c : Nat} {l : List InoV} {m : Int} (w : World) (h : RdE inoEn w (Under w.heap.size) A n l) (hn : n ≤ 100) : Calls Try.prog 16 #[.slice A n c, .int .i64 m] w (ORet Value.bool w 4 (usedS (flatP l) m).length (usedS (flatP l) m)) := by
  by_cases h1 : m < 1
  · rw [usedS_no (by omega)]
    go_enter Try.func16, Try.ntmps16
    go_wp2
    go_ret
    exact (Ow.empty Value.bool w 4).ret (below_new (below_self w) _)
  have d1 : decide (m < 1) = false := by simpa using h1
  by_cases h2 : 512 < m
  · rw [usedS_no (by omega)]
    go_enter Try.func16, Try.ntmps16
    go_wp2
    go_ret
    exact (Ow.empty Value.bool w 4).ret (below_new (below_self w) _)
  have d2 : decide (512 < m) = false := by simpa using h2
  obtain ⟨k, rfl⟩ := Int.eq_ofNat_of_zero_le (by omega : 0 ≤ m)
  rw [usedS_yes (by omega) (by omega), usedQ_len]
  have H := hide h
  clear h
  go_enter Try.func16, Try.ntmps16
  go_wp2
  clear d1 d2
  go_loopw [5, 6] (fun v u wr => ∃ (j : Nat) (A1 : Option Addr) (c1 : Nat), j ≤ k ∧ u = .int .i64 j ∧ v = .slice A1 j c1 ∧ Ow Value.bool wr w.heap.size 4 A1 j c1 (usedQ (flatP l) j) ∧ Below w.heap.size w wr) (fun _ u _ => k - (intOf u).toNat)
  case atStart => exact ⟨0, _, _, by omega, rfl, rfl, Ow.empty Value.bool w 4, below_new (below_self w) _⟩
  case round =>
    obtain ⟨j, A1, c1, hj, rfl, rfl, hown, hbr⟩ := hrel
    by_cases hlt : j < k
    · have HO := hide hown
      have HSN := hide (usedQ_succ (flatP l) j)
      have HUS := hide (ownQ_used (ps := flatP l) hlt)
      have hw6 : w64 (k : Int) := by unfold w64; omega
      have hw7 : w64 (j : Int) := by unfold w64; omega
      have HW6 := hide hw6
      have HW7 := hide hw7
      clear hown hw6 hw7
      obtain ⟨r, hr⟩ : ∃ r, ownQ (flatP l) k j = r := ⟨_, rfl⟩
      have HR := hide hr
      clear hr
      go_wp2_with (first | (go_at_call 8; refine (ROwner_any _ (H.out.on hbr) hn HW6.out HW7.out).mono ?_; rintro e w2 ⟨rfl, hb2⟩; rw [HR.out]; dsimp only [ownV]) | (at_builtin; refine wpList_append_Rd (f := Value.bool) _ rfl (.tmp 31) (.tmp 33) 33 rfl w.heap.size 4 (.bool false) 1 Try.underlying33 info_bool' rfl (fun _ => rfl) _ j _ (usedQ (flatP l) j) rfl ((HO.out.below hb2).alloc _) _ _ 1 1 [r.isSome] rfl (Rd.one _ _ rfl) (j + 1) rfl (by omega) (by omega) (by have := (below_step hbr hb2).size; simp; omega) ?_; intro A5 c5 w5 hown5 hbel5; have HO5 := hide hown5; have HB5 := hide hbel5; clear hown5 hbel5))
      go_roundw
      case rel => exact ⟨j + 1, _, _, by omega, by go_num, rfl, by rw [HSN.out, ← HUS.out, HR.out]; exact HO5.out, ((below_step hbr hb2).alloc (below_step hbr hb2).size _).trans HB5.out⟩
      case measure => simp [intOf]; omega
    · obtain rfl : j = k := by omega
      go_wp2
      go_ret
      exact hown.ret hbr
end Go.Proofs.Ytnllbdigpnopoaa
