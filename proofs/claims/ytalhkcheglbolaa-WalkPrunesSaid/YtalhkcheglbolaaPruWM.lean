import Derived.Test.YtalhkcheglbolaaWalZ
import Derived.Test.YtalhkcheglbolaaWalW
import Derived.Test.YtalhkcheglbolaaRwkB

/- The references' Same of what is the same (layers 1, 8, 12). -/
namespace Go.Proofs.Ytalhkcheglbolaa
open Go.RowKit Go.Shelf Plain

set_option maxRecDepth 100000 in
set_option maxHeartbeats 1600000 in
theorem neq_entw (a : Int × Int × List UInt8) (W : World) : (binOp .neq 67 (.agg #[.int .i64 a.1, .int .i64 a.2.1, .string ⟨a.2.2.toArray⟩]) (.agg #[.int .i64 a.1, .int .i64 a.2.1, .string ⟨a.2.2.toArray⟩])).run Try.prog W = .ok (.bool false) W := by
  simp [go_sem]
set_option maxRecDepth 100000 in
set_option maxHeartbeats 1600000 in
theorem eq_attw (a : AttV) (W : World) : (binOp .eql 62 (.agg #[.int .i64 a.h, .int .i64 a.o, .string ⟨a.r.toArray⟩, .int .i64 a.l, .int .i64 a.i, .int .i64 a.g, .int .i64 a.s]) (.agg #[.int .i64 a.h, .int .i64 a.o, .string ⟨a.r.toArray⟩, .int .i64 a.l, .int .i64 a.i, .int .i64 a.g, .int .i64 a.s])).run Try.prog W = .ok (.bool true) W := by
  simp [go_sem]
theorem ent_cs {w : World} {D : Nat → Prop} {cs : List Value} {x : EntV} (h : entEn.R w D cs x) : cs = cellsE x := by
  obtain ⟨a, b, rfl, h1, c, d, rfl, h2, h3⟩ := h
  rw [show a = [.int .i64 x.slot] from h1, show c = [.int .i64 x.ino] from h2, show d = [.string ⟨x.name.toArray⟩] from h3]
  rfl
set_option maxRecDepth 100000 in
set_option maxHeartbeats 1600000 in
theorem SamE_same {A B : Option Addr} {n m c d : Nat} {L : List EntV} {D D' : Nat → Prop} (w : World) (ha : RdE entEn w D A n L) (hb : RdE entEn w D' B m L) (hn : n ≤ 140737488355328) :
    Calls Try.prog 56 #[.slice A n c, .slice B m d] w (BoolB w true) := by
  obtain rfl : n = m := by rw [← ha.1, ← hb.1]
  have HA := hide ha
  have HB := hide hb
  clear ha hb
  have hd : ((n : Int) != (n : Int)) = false := by simp
  go_enter Try.func56, Try.ntmps56
  go_wp2
  go_loopw [5] (fun i wr => ∃ j q : Nat, j ≤ n ∧ i = .int .i64 j ∧ wr = w.drewN q) (fun i _ => n - (intOf i).toNat)
  case atStart => exact ⟨0, 0, by omega, rfl, rfl⟩
  case round =>
    obtain ⟨j, q, hj, rfl, rfl⟩ := hrel
    by_cases hlt : j < n
    · have hl1 : j < L.length := by rw [HA.out.1]; exact hlt
      obtain ⟨b1, o1, rfl, hc1⟩ := HA.out.cellsR (by omega)
      obtain ⟨b2, o2, rfl, hc2⟩ := HB.out.cellsR (by omega)
      obtain ⟨cs1, hcs1, hc1⟩ := hc1 j _ (List.getElem?_eq_getElem hl1)
      obtain ⟨cs2, hcs2, hc2⟩ := hc2 j _ (List.getElem?_eq_getElem hl1)
      obtain rfl : cs1 = cellsE L[j] := ent_cs hcs1
      obtain rfl : cs2 = cellsE L[j] := ent_cs hcs2
      generalize L[j] = y at hc1 hc2
      obtain ⟨ys, yi, yn⟩ := y
      have hL1 : ∀ q, (Instr.loadAt 67 (.pointer (some ⟨b1, o1 + j * 3, none⟩))).run Try.prog (w.drewN q) = .ok (.agg #[.int .i64 ys, .int .i64 yi, .string ⟨yn.toArray⟩]) (w.drewN q) := fun q => run_loadAt_cells (w := w.drewN q) entw_agg entw_size hc1 rfl
      have hL2 : ∀ q, (Instr.loadAt 67 (.pointer (some ⟨b2, o2 + j * 3, none⟩))).run Try.prog (w.drewN q) = .ok (.agg #[.int .i64 ys, .int .i64 yi, .string ⟨yn.toArray⟩]) (w.drewN q) := fun q => run_loadAt_cells (w := w.drewN q) entw_agg entw_size hc2 rfl
      have hne := fun W => neq_entw (ys, yi, yn) W
      clear hc1 hc2 hl1 hcs1 hcs2
      go_wp2
      refine wp_region_quiet_lit (by kernel_rfl) (by kernel_rfl) ?_
      iterate 3 (quiet_step (fail))
      refine Go.BigFrame.wpQuiet_want rfl (fun K hK => ?_)
      refine quietL 67 (.tmp 19) rfl _ _ rfl (by rintro _ ⟨n', rfl⟩; rw [World.drewN_drewN]; exact hL1 _) (hK _ ?_)
      clear hK K
      iterate 3 (quiet_step (fail))
      refine Go.BigFrame.wpQuiet_want rfl (fun K hK => ?_)
      refine quietL 67 (.tmp 23) rfl _ _ rfl (by rintro _ ⟨n', rfl⟩; rw [World.drewN_drewN]; exact hL2 _) (hK _ ?_)
      clear hK K
      iterate 1 (quiet_step (fail))
      refine wpQuiet_nil ?_
      rintro _ ⟨nq, rfl⟩
      go_wp2
      go_roundw
      case rel => exact ⟨j + 1, _, by omega, by go_num, rfl⟩
      case measure => simp [intOf]; omega
    · obtain rfl : j = n := by omega
      go_wp2
      go_ret
      exact BoolB.of (below_drewN (below_self w) _)
set_option maxRecDepth 100000 in
set_option maxHeartbeats 1600000 in
theorem SamB_same {A B : Option Addr} {n m c d : Nat} {L : List UInt8} {D D' : Nat → Prop} (w : World) (ha : RdE Enc.byte w D A n L) (hb : RdE Enc.byte w D' B m L) (hn : n ≤ 140737488355328) :
    Calls Try.prog 55 #[.slice A n c, .slice B m d] w (BoolB w true) := by
  obtain rfl : n = m := by rw [← ha.1, ← hb.1]
  have HA := hide ha
  have HB := hide hb
  clear ha hb
  have hd : ((n : Int) != (n : Int)) = false := by simp
  go_enter Try.func55, Try.ntmps55
  go_wp2
  go_loopw [5] (fun i wr => ∃ j q : Nat, j ≤ n ∧ i = .int .i64 j ∧ wr = w.drewN q) (fun i _ => n - (intOf i).toNat)
  case atStart => exact ⟨0, 0, by omega, rfl, rfl⟩
  case round =>
    obtain ⟨j, q, hj, rfl, rfl⟩ := hrel
    by_cases hlt : j < n
    · have hl1 : j < L.length := by rw [HA.out.1]; exact hlt
      obtain ⟨b1, o1, rfl, hc1⟩ := HA.out.cellsR (by omega)
      obtain ⟨b2, o2, rfl, hc2⟩ := HB.out.cellsR (by omega)
      obtain ⟨cs1, hcs1, hc1⟩ := hc1 j _ (List.getElem?_eq_getElem hl1)
      obtain ⟨cs2, hcs2, hc2⟩ := hc2 j _ (List.getElem?_eq_getElem hl1)
      obtain rfl : cs1 = [bv L[j]] := hcs1
      obtain rfl : cs2 = [bv L[j]] := hcs2
      generalize L[j] = y at hc1 hc2
      have q1 : w.cell? ⟨b1, o1 + j, none⟩ = some (bv y) := by have := hc1 0 _ rfl; rwa [show o1 + j * Enc.byte.k + 0 = o1 + j from by show o1 + j * 1 + 0 = o1 + j; omega] at this
      have q2 : w.cell? ⟨b2, o2 + j, none⟩ = some (bv y) := by have := hc2 0 _ rfl; rwa [show o2 + j * Enc.byte.k + 0 = o2 + j from by show o2 + j * 1 + 0 = o2 + j; omega] at this
      unfold bv at q1 q2
      have hjn : (j : Int) < (n : Int) := by omega
      clear hc1 hc2 hl1
      go_wp2
      go_quiet (fail)
      go_wp2
      go_roundw
      case rel => exact ⟨j + 1, _, by omega, by go_num, rfl⟩
      case measure => simp [intOf]; omega
    · obtain rfl : j = n := by omega
      go_wp2
      go_ret
      exact BoolB.of (below_drewN (below_self w) _)
set_option maxRecDepth 100000 in
set_option maxHeartbeats 8000000 in
theorem SamN_same {D C D' C' : Option Addr} {n c m d n' c' m' d' : Nat} {x : NodV} (w : World) (hD : RdE Enc.byte w (Under w.heap.size) D n x.data) (hC : RdE entEn w (Under w.heap.size) C m x.ents) (hD' : RdE Enc.byte w (Under w.heap.size) D' n' x.data) (hC' : RdE entEn w (Under w.heap.size) C' m' x.ents) (hn : n ≤ 1000) (hm : m ≤ 1000) :
    Calls Try.prog 40 #[.agg (nodC x (.slice D n c) (.slice C m d)).toArray, .agg (nodC x (.slice D' n' c') (.slice C' m' d')).toArray] w (BoolB w true) := by
  obtain ⟨r0, r1, hb2, hs2⟩ := rows2 w (nodC x (.slice D n c) (.slice C m d)) (nodC x (.slice D' n' c') (.slice C' m' d')) 64 64
  have HD := hide (hD.on hb2)
  have HC := hide (hC.on hb2)
  have HD' := hide (hD'.on hb2)
  have HC' := hide (hC'.on hb2)
  obtain ⟨W2, hW2⟩ : ∃ W2, (w.alloc (.cells (nodC x (.slice D n c) (.slice C m d)).toArray 64)).alloc (.cells (nodC x (.slice D' n' c') (.slice C' m' d')).toArray 64) = W2 := ⟨_, rfl⟩
  rw [hW2] at r0 r1 hb2 HD HC HD' HC'
  have hW2' : (w.alloc (.cells #[.int .i64 x.k, .int .i64 x.p, .int .i64 x.n, .int .i64 x.g, .slice D n c, .slice C m d, .int .i64 x.att.h, .int .i64 x.att.o, .string ⟨x.att.r.toArray⟩, .int .i64 x.att.l, .int .i64 x.att.i, .int .i64 x.att.g, .int .i64 x.att.s] 64)).alloc (.cells #[.int .i64 x.k, .int .i64 x.p, .int .i64 x.n, .int .i64 x.g, .slice D' n' c', .slice C' m' d', .int .i64 x.att.h, .int .i64 x.att.o, .string ⟨x.att.r.toArray⟩, .int .i64 x.att.l, .int .i64 x.att.i, .int .i64 x.att.g, .int .i64 x.att.s] 64) = W2 := hW2
  have qa0 : W2.cell? ⟨w.heap.size, 0, none⟩ = some (.int .i64 x.k) := r0.cell 0
  have qa1 : W2.cell? ⟨w.heap.size, 1, none⟩ = some (.int .i64 x.p) := r0.cell 1
  have qa2 : W2.cell? ⟨w.heap.size, 2, none⟩ = some (.int .i64 x.n) := r0.cell 2
  have qa3 : W2.cell? ⟨w.heap.size, 3, none⟩ = some (.int .i64 x.g) := r0.cell 3
  have qa4 : W2.cell? ⟨w.heap.size, 4, none⟩ = some (.slice D n c) := r0.cell 4
  have qa5 : W2.cell? ⟨w.heap.size, 5, none⟩ = some (.slice C m d) := r0.cell 5
  have qa6 : W2.cell? ⟨w.heap.size, 6, none⟩ = some (.int .i64 x.att.h) := r0.cell 6
  have qa7 : W2.cell? ⟨w.heap.size, 7, none⟩ = some (.int .i64 x.att.o) := r0.cell 7
  have qa8 : W2.cell? ⟨w.heap.size, 8, none⟩ = some (.string ⟨x.att.r.toArray⟩) := r0.cell 8
  have qa9 : W2.cell? ⟨w.heap.size, 9, none⟩ = some (.int .i64 x.att.l) := r0.cell 9
  have qa10 : W2.cell? ⟨w.heap.size, 10, none⟩ = some (.int .i64 x.att.i) := r0.cell 10
  have qa11 : W2.cell? ⟨w.heap.size, 11, none⟩ = some (.int .i64 x.att.g) := r0.cell 11
  have qa12 : W2.cell? ⟨w.heap.size, 12, none⟩ = some (.int .i64 x.att.s) := r0.cell 12
  have qb0 : W2.cell? ⟨w.heap.size + 1, 0, none⟩ = some (.int .i64 x.k) := r1.cell 0
  have qb1 : W2.cell? ⟨w.heap.size + 1, 1, none⟩ = some (.int .i64 x.p) := r1.cell 1
  have qb2 : W2.cell? ⟨w.heap.size + 1, 2, none⟩ = some (.int .i64 x.n) := r1.cell 2
  have qb3 : W2.cell? ⟨w.heap.size + 1, 3, none⟩ = some (.int .i64 x.g) := r1.cell 3
  have qb4 : W2.cell? ⟨w.heap.size + 1, 4, none⟩ = some (.slice D' n' c') := r1.cell 4
  have qb5 : W2.cell? ⟨w.heap.size + 1, 5, none⟩ = some (.slice C' m' d') := r1.cell 5
  have qb6 : W2.cell? ⟨w.heap.size + 1, 6, none⟩ = some (.int .i64 x.att.h) := r1.cell 6
  have qb7 : W2.cell? ⟨w.heap.size + 1, 7, none⟩ = some (.int .i64 x.att.o) := r1.cell 7
  have qb8 : W2.cell? ⟨w.heap.size + 1, 8, none⟩ = some (.string ⟨x.att.r.toArray⟩) := r1.cell 8
  have qb9 : W2.cell? ⟨w.heap.size + 1, 9, none⟩ = some (.int .i64 x.att.l) := r1.cell 9
  have qb10 : W2.cell? ⟨w.heap.size + 1, 10, none⟩ = some (.int .i64 x.att.i) := r1.cell 10
  have qb11 : W2.cell? ⟨w.heap.size + 1, 11, none⟩ = some (.int .i64 x.att.g) := r1.cell 11
  have qb12 : W2.cell? ⟨w.heap.size + 1, 12, none⟩ = some (.int .i64 x.att.s) := r1.cell 12
  have R0 := hide r0
  have R1 := hide r1
  have HB := hide hb2
  have heq := fun W => eq_attw x.att W
  unfold nodC
  clear r0 r1 hb2 hs2 hW2 hD hC hD' hC'
  go_enter Try.func40, Try.ntmps40
  go_wp2_with fail
  refine (SamB_same (L := x.data) W2 HD.out HD'.out (by omega)).mono ?_
  rintro e w3 ⟨rfl, hb3⟩
  have q5 : w3.cell? ⟨w.heap.size, 5, none⟩ = some (.slice C m d) := (R0.out.on hb3).cell 5
  have q6 : w3.cell? ⟨w.heap.size + 1, 5, none⟩ = some (.slice C' m' d') := (R1.out.on hb3).cell 5
  have HE := hide (HC.out.on hb3)
  have HE' := hide (HC'.out.on hb3)
  have HB3 := hide (HB.out.trans (hb3.mono HB.out.size))
  clear hb3 heq hW2' qa0 qa1 qa2 qa3 qa4 qa5 qa6 qa7 qa8 qa9 qa10 qa11 qa12 qb0 qb1 qb2 qb3 qb4 qb5 qb6 qb7 qb8 qb9 qb10 qb11 qb12
  go_wp2_with fail
  refine (SamE_same (L := x.ents) w3 HE.out HE'.out (by omega)).mono ?_
  rintro e w4 ⟨rfl, hb4⟩
  have HB4 := hide (HB3.out.trans (hb4.mono HB3.out.size))
  clear hb4 q5 q6
  go_wp2_with fail
  go_ret
  exact BoolB.of HB4.out
end Go.Proofs.Ytalhkcheglbolaa

/- The reference's Same of layers that are the same; In (layers 12, 13). -/
namespace Go.Proofs.Ytalhkcheglbolaa
open Go.RowKit Go.Shelf Plain

theorem under_up {α : Type} {E : Enc α} {w : World} {B n : Nat} {A : Option Addr} {l : List α} (h : RdE E w (Under B) A n l) (hB : B ≤ w.heap.size) : RdE E w (Under w.heap.size) A n l := h.mono (fun _ _ => rfl) (fun _ hb => Nat.lt_of_lt_of_le hb hB)
set_option maxRecDepth 100000 in
set_option maxHeartbeats 8000000 in
theorem SamL_same {A B : Option Addr} {n m c d : Nat} {ns : List NodV} (w : World) (ha : RdE nodEn w (Under w.heap.size) A n ns) (hb : RdE nodEn w (Under w.heap.size) B m ns) (hn : n ≤ 1000) (hsm : ∀ x ∈ ns, x.data.length ≤ 1000 ∧ x.ents.length ≤ 1000) :
    Calls Try.prog 22 #[.agg #[.slice A n c], .agg #[.slice B m d]] w (BoolB w true) := by
  obtain rfl : n = m := by rw [← ha.1, ← hb.1]
  obtain ⟨r0, r1, hb2, hs2⟩ := rows2 w [.slice A n c] [.slice B n d] 24 24
  have HA0 := hide (ha.on hb2)
  have HB0 := hide (hb.on hb2)
  have hl := ha.1
  obtain ⟨W2, hW2⟩ : ∃ W2, (w.alloc (.cells [Value.slice A n c].toArray 24)).alloc (.cells [Value.slice B n d].toArray 24) = W2 := ⟨_, rfl⟩
  rw [hW2] at r0 r1 hb2 HA0 HB0
  have hW2' : (w.alloc (.cells #[.slice A n c] 24)).alloc (.cells #[.slice B n d] 24) = W2 := hW2
  have qa : W2.cell? ⟨w.heap.size, 0, none⟩ = some (.slice A n c) := r0.cell 0
  have qb : W2.cell? ⟨w.heap.size + 1, 0, none⟩ = some (.slice B n d) := r1.cell 0
  have R0 := hide r0
  have R1 := hide r1
  have HB := hide hb2
  have HSM := hide hsm
  have hd : ((n : Int) != (n : Int)) = false := by simp
  clear r0 r1 hb2 hs2 hW2 ha hb hsm
  go_enter Try.func22, Try.ntmps22
  go_wp2_with fail
  clear hW2' qa qb hd
  go_loopw [5] (fun v5 wr => ∃ j : Nat, j ≤ n ∧ v5 = .int .i64 j ∧ Below W2.heap.size W2 wr) (fun v5 _ => n - (intOf v5).toNat)
  case atStart => exact ⟨0, by omega, rfl, below_self _⟩
  case round =>
    obtain ⟨j, hj, rfl, hbr⟩ := hrel
    have HBR := hide hbr
    have hbsz := hbr.size
    have qa : wr.cell? ⟨w.heap.size, 0, none⟩ = some (.slice A n c) := (R0.out.on hbr).cell 0
    by_cases hlt : j < n
    · obtain ⟨x, hx⟩ : ∃ x, ns[j]? = some x := ⟨_, List.getElem?_eq_getElem (by omega)⟩
      have hsx := HSM.out x (List.mem_of_getElem? hx)
      obtain ⟨b1, o1, cs1, hA1, hb1, hN1, hc1⟩ := (HA0.out.under hbr (Nat.le_refl _)).get_nod hx
      obtain ⟨b2, o2, cs2, hB2, hb2, hN2, hc2⟩ := (HB0.out.under hbr (Nat.le_refl _)).get_nod hx
      obtain ⟨D1, n1, c1, C1, m1, d1, rfl, -, hD1, -, hE1⟩ := hN1
      obtain ⟨D2, n2, c2, C2, m2, d2, rfl, -, hD2, -, hE2⟩ := hN2
      have hn1 : n1 ≤ 1000 := by rw [← hD1.1]; exact hsx.1
      have hm1 : m1 ≤ 1000 := by rw [← hE1.1]; exact hsx.2
      have HD1 := hide (hD1.mono (fun _ _ => rfl) (fun _ hb => Nat.lt_of_lt_of_le hb hbsz) : RdE Enc.byte wr (Under wr.heap.size) D1 n1 x.data)
      have HD2 := hide (hD2.mono (fun _ _ => rfl) (fun _ hb => Nat.lt_of_lt_of_le hb hbsz) : RdE Enc.byte wr (Under wr.heap.size) D2 n2 x.data)
      have HE1 := hide (hE1.mono (fun _ _ => rfl) (fun _ hb => Nat.lt_of_lt_of_le hb hbsz) : RdE entEn wr (Under wr.heap.size) C1 m1 x.ents)
      have HE2 := hide (hE2.mono (fun _ _ => rfl) (fun _ hb => Nat.lt_of_lt_of_le hb hbsz) : RdE entEn wr (Under wr.heap.size) C2 m2 x.ents)
      have hb1' : b1 < wr.heap.size := Nat.lt_of_lt_of_le hb1 hbsz
      have hb2' : b2 < wr.heap.size := Nat.lt_of_lt_of_le hb2 hbsz
      have HCA := hide (fun (W : World) (hb : Below wr.heap.size wr W) (j' : Nat) (v : Value) (hv : (nodC x (.slice D1 n1 c1) (.slice C1 m1 d1))[j']? = some v) => show W.cell? ⟨b1, o1 + j * 13 + j', none⟩ = some v from (hb.cell (p := ⟨b1, o1 + j * 13 + j', none⟩) hb1').trans (hc1 j' v hv))
      have HCB := hide (fun (W : World) (hb : Below wr.heap.size wr W) (j' : Nat) (v : Value) (hv : (nodC x (.slice D2 n2 c2) (.slice C2 m2 d2))[j']? = some v) => show W.cell? ⟨b2, o2 + j * 13 + j', none⟩ = some v from (hb.cell (p := ⟨b2, o2 + j * 13 + j', none⟩) hb2').trans (hc2 j' v hv))
      have HQA := hide (fun (W : World) (hb : Below wr.heap.size wr W) => show W.cell? ⟨w.heap.size, 0, none⟩ = some (.slice A n c) from (R0.out.on (hbr.trans (hb.mono hbsz))).cell 0)
      have HQB := hide (fun (W : World) (hb : Below wr.heap.size wr W) => show W.cell? ⟨w.heap.size + 1, 0, none⟩ = some (.slice B n d) from (R1.out.on (hbr.trans (hb.mono hbsz))).cell 0)
      have hjn : (j : Int) < (n : Int) := by omega
      subst hA1
      subst hB2
      clear hx hsx hc1 hc2 hD1 hD2 hE1 hE2 hbr
      go_wp2_with fail
      clear qa
      refine wp_region_planN (fun w' => Below wr.heap.size wr w') [(0, true), (1, true), (2, true), (3, true), (4, true), (5, true), (6, true), (7, true), (8, true), (9, true), (10, false), (11, true)] (by kernel_rfl) (by kernel_rfl) (by kernel_rfl) (by kernel_rfl) rfl (fun _ _ _ _ _ h => h) (below_drew (below_self wr)) (fun hHeld => ?_)
      simp only [planOps, List.filterMap_cons, List.filterMap_nil, List.getElem?_toArray, List.getElem?_cons_succ, List.getElem?_cons_zero, Option.map_some]
      refine wpPlan_take (v := ?_) (by kernel_rfl) (fun wS hSw => ?_) ?_
      rotate_left
      · (try dsimp only at hSw); go_simp; (try with_reducible rfl)
      (try simp only [Act.put, List.setIfInBounds_toArray, List.set_cons_zero, List.set_cons_succ])
      refine wpPlan_take (v := ?_) (by kernel_rfl) (fun wS hSw => ?_) ?_
      rotate_left
      · have qx := HQA.out wS hSw; go_simp; (try with_reducible rfl)
      (try simp only [Act.put, List.setIfInBounds_toArray, List.set_cons_zero, List.set_cons_succ])
      refine wpPlan_take (v := ?_) (by kernel_rfl) (fun wS hSw => ?_) ?_
      rotate_left
      · (try dsimp only at hSw); go_simp; (try with_reducible rfl)
      (try simp only [Act.put, List.setIfInBounds_toArray, List.set_cons_zero, List.set_cons_succ])
      refine wpPlan_take (v := ?_) (by kernel_rfl) (fun wS hSw => ?_) ?_
      rotate_left
      · (try dsimp only at hSw); go_simp; (try with_reducible rfl)
      (try simp only [Act.put, List.setIfInBounds_toArray, List.set_cons_zero, List.set_cons_succ])
      refine wpPlan_take (v := ?_) (by kernel_rfl) (fun wS hSw => ?_) ?_
      rotate_left
      · refine execOp_load (x := .tmp 23) (k := 13) (g := b1) (off := o1 + j * 13) (cs := nodC x (.slice D1 n1 c1) (.slice C1 m1 d1)) ?_ nod_agg nod_size ?_ (HCA.out wS hSw) rfl <;> rfl
      (try simp only [Act.put, List.setIfInBounds_toArray, List.set_cons_zero, List.set_cons_succ])
      refine wpPlan_take (v := ?_) (by kernel_rfl) (fun wS hSw => ?_) ?_
      rotate_left
      · (try dsimp only at hSw); go_simp; (try with_reducible rfl)
      (try simp only [Act.put, List.setIfInBounds_toArray, List.set_cons_zero, List.set_cons_succ])
      refine wpPlan_take (v := ?_) (by kernel_rfl) (fun wS hSw => ?_) ?_
      rotate_left
      · have qx := HQB.out wS hSw; go_simp; (try with_reducible rfl)
      (try simp only [Act.put, List.setIfInBounds_toArray, List.set_cons_zero, List.set_cons_succ])
      refine wpPlan_take (v := ?_) (by kernel_rfl) (fun wS hSw => ?_) ?_
      rotate_left
      · (try dsimp only at hSw); go_simp; (try with_reducible rfl)
      (try simp only [Act.put, List.setIfInBounds_toArray, List.set_cons_zero, List.set_cons_succ])
      refine wpPlan_take (v := ?_) (by kernel_rfl) (fun wS hSw => ?_) ?_
      rotate_left
      · (try dsimp only at hSw); go_simp; (try with_reducible rfl)
      (try simp only [Act.put, List.setIfInBounds_toArray, List.set_cons_zero, List.set_cons_succ])
      refine wpPlan_take (v := ?_) (by kernel_rfl) (fun wS hSw => ?_) ?_
      rotate_left
      · refine execOp_load (x := .tmp 28) (k := 13) (g := b2) (off := o2 + j * 13) (cs := nodC x (.slice D2 n2 c2) (.slice C2 m2 d2)) ?_ nod_agg nod_size ?_ (HCB.out wS hSw) rfl <;> rfl
      (try simp only [Act.put, List.setIfInBounds_toArray, List.set_cons_zero, List.set_cons_succ])
      refine wpPlan_call (by kernel_rfl) (fun K hK => ?_)
      have hOld := hide hHeld
      clear hHeld
      go_simp
      go_at_call 40
      refine (SamN_same (x := x) _ (HD1.out.on hOld.out) (HE1.out.on hOld.out) (HD2.out.on hOld.out) (HE2.out.on hOld.out) hn1 hm1).mono ?_
      rintro e w' ⟨rfl, hbel⟩
      refine hK.out _ _ (hOld.out.trans (hbel.mono hOld.out.size)) (fun hHeld => ?_)
      clear hK K
      (try simp only [Act.put, List.setIfInBounds_toArray, List.set_cons_zero, List.set_cons_succ])
      refine wpPlan_take (v := ?_) (by kernel_rfl) (fun wS hSw => ?_) ?_
      rotate_left
      · (try dsimp only at hSw); go_simp; (try with_reducible rfl)
      (try simp only [Act.put, List.setIfInBounds_toArray, List.set_cons_zero, List.set_cons_succ])
      refine wpPlan_end ?_
      go_wp2_with fail
      go_roundw
      case rel => exact ⟨j + 1, by omega, by go_num, HBR.out.trans (hHeld.mono hbsz)⟩
      case measure => simp [intOf]; omega
    · obtain rfl : j = n := by omega
      go_wp2_with fail
      go_ret
      exact BoolB.of (HB.out.trans (HBR.out.mono HB.out.size))
set_option maxRecDepth 100000 in
set_option maxHeartbeats 1600000 in
theorem eq_prw (a b : Int × Int) (W : World) : (binOp .eql 36 (.agg #[.int .i64 a.1, .int .i64 a.2]) (.agg #[.int .i64 b.1, .int .i64 b.2])).run Try.prog W = .ok (.bool (decide (a = b))) W := by
  obtain ⟨i, hi⟩ : ∃ i, Try.prog.info? 3 = some i := ⟨_, rfl⟩
  have hc : Try.prog.cellsOf 3 = 1 := by kernel_rfl
  have h : (Op.equalIn 10000 36 (.agg #[.int .i64 a.1, .int .i64 a.2]) (.agg #[.int .i64 b.1, .int .i64 b.2])).run Try.prog W = .ok (decide (a = b)) W := by
    rw [run_equalIn_array W 9999 _ _ Try.underlying36 hi, hc, show List.range 2 = [0, 1] from rfl]
    obtain ⟨a1, a2⟩ := a
    obtain ⟨b1, b2⟩ := b
    by_cases h1 : a1 = b1 <;> by_cases h2 : a2 = b2 <;> simp [Op.eqItems, go_sem, h1, h2]
  simp [go_sem, h]
set_option maxRecDepth 100000 in
set_option maxHeartbeats 1600000 in
theorem In_any {A : Option Addr} {n c : Nat} {L : List (Int × Int)} {z : Int × Int} (w : World) (h : RdE prEn w (Under w.heap.size) A n L) (hn : n ≤ 100000) :
    Calls Try.prog 41 #[.slice A n c, .agg #[.int .i64 z.1, .int .i64 z.2]] w (BoolB w (decide (z ∈ L))) := by
  have r := RowL.new w 36 [.int .i64 z.1, .int .i64 z.2]
  have hb := below_new (below_self w) (.cells [Value.int .i64 z.1, .int .i64 z.2].toArray 36)
  obtain ⟨W1, hW1⟩ : ∃ W1, w.alloc (.cells [Value.int .i64 z.1, .int .i64 z.2].toArray 36) = W1 := ⟨_, rfl⟩
  have H0 := h.on hb
  have hl := h.1
  rw [hW1] at r hb H0
  have hW1' : w.alloc (.cells #[.int .i64 z.1, .int .i64 z.2] 36) = W1 := hW1
  have H := hide H0
  have R := hide r
  have HB := hide hb
  clear r hb hW1 h H0
  go_enter Try.func41, Try.ntmps41
  go_wp2
  clear hW1'
  go_loopw [5] (fun v5 wr => ∃ j q : Nat, j ≤ n ∧ v5 = .int .i64 j ∧ wr = W1.drewN q ∧ decide (z ∈ L.take j) = false) (fun v5 _ => n - (intOf v5).toNat)
  case atStart => exact ⟨0, 0, by omega, rfl, rfl, by simp⟩
  case round =>
    obtain ⟨j, q, hj, rfl, rfl, hall⟩ := hrel
    have HALL := hide hall
    clear hall
    by_cases hlt : j < n
    · have hl1 : j < L.length := by omega
      obtain ⟨b1, o1, rfl, hc1⟩ := H.out.cellsR (by omega)
      obtain ⟨cs1, hcs1, hc1⟩ := hc1 j _ (List.getElem?_eq_getElem hl1)
      obtain rfl : cs1 = prC L[j] := hcs1
      obtain ⟨y, hy⟩ : ∃ y, L[j] = y := ⟨_, rfl⟩
      have HY := hide (show L[j]? = some y from by rw [List.getElem?_eq_getElem hl1, hy])
      rw [hy] at hc1
      have hL1 : ∀ q, (Instr.loadAt 36 (.pointer (some ⟨b1, o1 + j * 2, none⟩))).run Try.prog (W1.drewN q) = .ok (.agg #[.int .i64 y.1, .int .i64 y.2]) (W1.drewN q) := fun q => run_loadAt_cells (w := W1.drewN q) prw_agg prw_size hc1 rfl
      have hL2 : ∀ q, (Instr.loadAt 36 (.pointer (some ⟨w.heap.size, 0, none⟩))).run Try.prog (W1.drewN q) = .ok (.agg #[.int .i64 z.1, .int .i64 z.2]) (W1.drewN q) := fun q => run_loadAt_cells (w := W1.drewN q) prw_agg prw_size (cs := [.int .i64 z.1, .int .i64 z.2]) (fun j' v hv => by rw [Nat.zero_add]; exact (R.out.cell j').trans hv) rfl
      obtain ⟨bq, hbq⟩ : ∃ bq, decide (y = z) = bq := ⟨_, rfl⟩
      have heq := fun W => (eq_prw y z W).trans (by rw [hbq])
      have HBQ := hide hbq
      clear hc1 hy hl1 hbq
      go_wp2
      refine wp_region_quiet_lit (by kernel_rfl) (by kernel_rfl) ?_
      iterate 3 (quiet_step (fail))
      refine Go.BigFrame.wpQuiet_want rfl (fun K hK => ?_)
      refine quietL 36 (.tmp 14) rfl _ _ rfl (by rintro _ ⟨n', rfl⟩; rw [World.drewN_drewN]; exact hL1 _) (hK _ ?_)
      clear hK K
      refine Go.BigFrame.wpQuiet_want rfl (fun K hK => ?_)
      refine quietL 36 (.tmp 3) rfl _ _ rfl (by rintro _ ⟨n', rfl⟩; rw [World.drewN_drewN]; exact hL2 _) (hK _ ?_)
      clear hK K
      iterate 1 (quiet_step (fail))
      refine wpQuiet_nil ?_
      rintro _ ⟨nq, rfl⟩
      cases bq
      · have HST := hide (show decide (z ∈ L.take (j + 1)) = false from by
          have h1 := HALL.out
          have h2 := HBQ.out
          rw [decide_eq_false_iff_not] at h1 h2 ⊢
          rw [List.take_add_one, HY.out, List.mem_append]
          rintro (h | h)
          · exact h1 h
          · exact h2 (by simp at h; exact h.symm))
        clear heq
        go_wp2
        go_roundw
        case rel => exact ⟨j + 1, _, by omega, by go_num, rfl, HST.out⟩
        case measure => simp [intOf]; omega
      · have hmem : decide (z ∈ L) = true := by
          have h2 := HBQ.out
          rw [decide_eq_true_iff] at h2 ⊢
          exact h2 ▸ List.mem_of_getElem? HY.out
        have HMEM := hide hmem
        clear heq hmem
        go_wp2
        go_ret
        rw [HMEM.out]
        exact BoolB.of (below_drewN (below_drewN HB.out _) _)
    · obtain rfl : j = n := by omega
      have hmem : decide (z ∈ L) = false := by have := HALL.out; rwa [List.take_of_length_le (by omega)] at this
      have HMEM := hide hmem
      clear hmem
      go_wp2
      go_ret
      rw [HMEM.out]
      exact BoolB.of (below_drewN HB.out _)
end Go.Proofs.Ytalhkcheglbolaa

/- walk: the reference prunes by slot, the program by place: the same where slots rise (mathematics, layer 13). -/
namespace Go.Proofs.Ytalhkcheglbolaa
open Go.RowKit Go.Shelf Plain

theorem rise_lt {l : List EntV} (h : RiseE l l.length) : ∀ (j i : Nat) (x y : EntV), i < j → l[i]? = some x → l[j]? = some y → x.slot < y.slot := by
  intro j
  induction j with
  | zero => intro i x y hi; omega
  | succ j ih =>
    intro i x y hi hx hy
    have hj := (List.getElem?_eq_some_iff.1 hy).1
    obtain ⟨z, hz⟩ : ∃ z, l[j]? = some z := ⟨_, List.getElem?_eq_getElem (by omega)⟩
    have h1 := (h (j + 1) y hj hy).2.2 z (by omega) (by simpa using hz)
    by_cases e : i = j
    · subst e
      rw [hz] at hx
      cases hx
      exact h1
    · have h2 := ih i x z (by omega) hx hz
      omega
theorem rise_inj {l : List EntV} (h : RiseE l l.length) {i j : Nat} {x y : EntV} (hx : l[i]? = some x) (hy : l[j]? = some y) (e : x.slot = y.slot) : i = j := by
  rcases Nat.lt_trichotomy i j with h1 | h1 | h1
  · have := rise_lt h j i x y h1 hx hy; omega
  · exact h1
  · have := rise_lt h i j y x h1 hy hx; omega
/-- The entries whose slots are not listed. -/
def keepSlot (t : List (Int × Int)) (i : Int) (l : List EntV) : List EntV := l.filter (fun x => !decide ((i, x.slot) ∈ t))
theorem filter_zip {α : Type} (p : α → Bool) : ∀ (l : List α) (k : Nat), l.filter p = ((l.zipIdx k).filter (fun x => p x.1)).map (fun x => x.1)
  | [], _ => rfl
  | a :: r, k => by
    rw [List.zipIdx_cons, List.filter_cons, List.filter_cons, filter_zip p r (k + 1)]
    cases p a <;> simp
theorem slot_place {ns : List NodV} {s : StW} (hc : ComesW ns s) {i : Int} (h : RiseE (nodAt ns i).ents (nodAt ns i).ents.length) {k : Nat} {x : EntV} (hx : (nodAt ns i).ents[k]? = some x) : decide ((i, x.slot) ∈ twiceS ns s) = s.2.contains (i, k) := by
  rw [Bool.eq_iff_iff, decide_eq_true_iff, List.contains_iff_mem]
  unfold twiceS
  rw [List.mem_map]
  constructor
  · rintro ⟨q, hq, e⟩
    obtain ⟨e1, he1, -⟩ := hc q hq
    unfold slotQ at e
    rw [he1] at e
    have h1 := congrArg Prod.fst e
    have h2 := congrArg Prod.snd e
    simp only [Option.getD_some] at h1 h2
    obtain ⟨q1, q2⟩ := q
    simp only at h1 h2 he1
    subst h1
    have := rise_inj h he1 hx h2
    subst this
    exact hq
  · intro hq
    exact ⟨(i, k), hq, by simp [slotQ, hx]⟩
theorem keep_slot {ns : List NodV} {s : StW} (hc : ComesW ns s) {i : Int} (h : RiseE (nodAt ns i).ents (nodAt ns i).ents.length) : keepSlot (twiceS ns s) i (nodAt ns i).ents = keepE s.2 i (nodAt ns i).ents := by
  unfold keepSlot keepE
  rw [filter_zip _ _ 0]
  congr 1
  apply List.filter_congr
  rintro ⟨x, k⟩ hxk
  have hx : (nodAt ns i).ents[k]? = some x := by
    have := List.mem_zipIdx hxk
    obtain ⟨h1, h2, h3⟩ := this
    rw [List.getElem?_eq_getElem (by omega), h3]
    simp
  rw [slot_place hc h hx]
end Go.Proofs.Ytalhkcheglbolaa

/- The reference's Prune: its state (layer 13). -/
namespace Go.Proofs.Ytalhkcheglbolaa
open Go.RowKit Go.Shelf Plain

/-- Where what a node leads to may lie: below B, or in a row of entries. -/
def DomP (B : Nat) (W : World) (b : Nat) : Prop := b < B ∨ ∃ arr fr, W.heap[b]? = some (.cells arr 67 fr)
theorem DomP.lt {B : Nat} {W : World} (hB : B ≤ W.heap.size) {b : Nat} (h : DomP B W b) : b < W.heap.size := by
  rcases h with h | ⟨arr, fr, h⟩
  · omega
  · exact heap_lt h
theorem DomP.eq {B : Nat} {W W' : World} {b : Nat} (h : DomP B W b) (e : W'.heap[b]? = W.heap[b]?) : DomP B W' b := by
  rcases h with h | ⟨arr, fr, h⟩
  · exact .inl h
  · exact .inr ⟨arr, fr, e.trans h⟩
theorem DomP.same {B : Nat} {W W' : World} {row : Option Nat} (hg : W.grownBy W' row) (hB : B ≤ W.heap.size) (hr : ∀ k, row = some k → B ≤ k ∧ ∀ arr fr, W.heap[k]? ≠ some (.cells arr 67 fr)) {b : Nat} (h : DomP B W b) : W'.heap[b]? = W.heap[b]? :=
  hg.block b (h.lt hB) (fun e => by
    obtain ⟨h1, h2⟩ := hr b e.symm
    rcases h with h | ⟨arr, fr, h⟩
    · omega
    · exact h2 _ _ h)
theorem RowL.no_ent {W : World} {k t : Nat} {cs : List Value} (h : RowL W k t cs) (ht : t ≠ 67) : ∀ arr fr, W.heap[k]? ≠ some (.cells arr 67 fr) := by
  intro arr fr e
  have := h.symm.trans e
  injection this with this
  injection this with _ this _
  exact ht this
theorem own_noent {W : World} {base e s n : Nat} {v : Value} {xs : List Value} (h : W.ownsRow base e s v n xs) (he : e ≠ 67) : ∀ k, v.ownBlock = some k → base ≤ k ∧ ∀ arr fr, W.heap[k]? ≠ some (.cells arr 67 fr) := by
  intro k hk
  rcases h.2 with ⟨rfl, _⟩ | ⟨g', cap, cur, rfl, hb, hc, _⟩
  · cases hk
  · obtain rfl : g' = k := Option.some.inj hk
    refine ⟨hb, fun arr fr e => ?_⟩
    have := hc.symm.trans e
    injection this with this
    injection this with _ this _
    exact he this
/-- The nodes so far, in the layer at g. -/
def PruSt (w6 : World) (B g n : Nat) (L : List NodV) (W : World) : Prop := L.length = n ∧ ∃ A5 c5 css, RowL W g 24 [.slice A5 n c5] ∧ W.ownsRow (g + 1) 64 13 (.slice A5 n c5) n css.flatten ∧ CellsE nodEn W (DomP B W) css L ∧ Below g w6 W ∧ B ≤ g
theorem PruSt.on {w6 : World} {B g n : Nat} {L : List NodV} {W W' : World} (h : PruSt w6 B g n L W) (hb : Below W.heap.size W W') : PruSt w6 B g n L W' := by
  obtain ⟨hl, A5, c5, css, h1, h2, h3, h4, h5⟩ := h
  have hlt := h1.lt
  exact ⟨hl, A5, c5, css, h1.on hb, ownsRow_below h2 hb, h3.mono (fun b hb' => hb.block b (hb'.lt (by omega))) (fun b hb' => hb'.eq (hb.block b (hb'.lt (by omega)))), h4.trans (hb.mono (by omega)), h5⟩
theorem PruSt.push {w6 : World} {B g n c5 c7 : Nat} {L : List NodV} {W W5 : World} {A5 A7 : Option Addr} {css : List (List Value)} {x : NodV} {cs : List Value} (hl : L.length = n) (h1 : RowL W g 24 [.slice A5 n c5]) (h2 : W.ownsRow (g + 1) 64 13 (.slice A5 n c5) n css.flatten) (h3 : CellsE nodEn W (DomP B W) css L) (h4 : Below g w6 W) (h5 : B ≤ g)
    (hx : NodR W (DomP B W) cs x) (ho : W5.ownsRow (g + 1) 64 13 (.slice A7 (n + 1) c7) (n + 1) (css.flatten ++ cs)) (hg : (W.alloc (.cells cs.toArray 64)).grownBy W5 (Value.slice A5 n c5).ownBlock) : RowL W5 g 24 [.slice A5 n c5] ∧ PruSt w6 B g (n + 1) (L ++ [x]) (W5.setCell ⟨g, 0, none⟩ (.slice A7 (n + 1) c7)) := by
  have ha := below_new (below_self W) (.cells cs.toArray 64)
  have hlt := h1.lt
  have h1a := h1.on ha
  have h2a := ownsRow_below h2 ha
  have hsz := ha.size
  have hr5 : RowL W5 g 24 [.slice A5 n c5] := h1a.grown hg (row_apart h2a h1a (by decide))
  have hgc := grown_cell W5 g 0 (.slice A7 (n + 1) c7)
  have hs5 := hg.size
  have e1 : ∀ b, DomP B W b → (W5.setCell ⟨g, 0, none⟩ (.slice A7 (n + 1) c7)).heap[b]? = W.heap[b]? := by
    intro b hb
    have q1 := ha.block b (hb.lt (by omega))
    have hb1 : DomP B (W.alloc (.cells cs.toArray 64)) b := hb.eq q1
    have q2 := DomP.same hg (by omega) (fun k hk => by
      obtain ⟨k1, k2⟩ := own_noent h2a (by decide) k hk
      exact ⟨by omega, k2⟩) hb1
    have hb2 : DomP B W5 b := hb1.eq q2
    have q3 := DomP.same hgc (by omega) (fun k hk => by
      obtain rfl := Option.some.inj hk
      exact ⟨h5, hr5.no_ent (by decide)⟩) hb2
    exact q3.trans (q2.trans q1)
  refine ⟨hr5, by rw [List.length_append, hl]; rfl, A7, c7, css ++ [cs], hr5.set_ 0 _, ?_, ?_, ?_, h5⟩
  · rw [List.flatten_append, List.flatten_singleton]
    exact ho.kept hgc (.inr (fun e => row_apart ho hr5 (by decide) e.symm))
  · refine CellsE.append (h3.mono e1 (fun b hb => hb.eq (e1 b hb))) ⟨rfl, fun i c y hc hy => ?_⟩
    have hi : i = 0 := by have := (List.getElem?_eq_some_iff.1 hy).1; simpa using this
    subst hi
    simp at hc hy
    subst hc
    subst hy
    exact NodR.mono hx e1 (fun b hb => hb.eq (e1 b hb))
  · exact ((h4.trans (ha.mono (by omega))).grown hg (by omega) (fun k hk => by have := (own_noent h2a (by decide) k hk).1; omega)).setCell (p := ⟨g, 0, none⟩) (Nat.le_refl _) _
/-- A row of the call's own, read. -/
theorem RdE.of_row {α : Type} {E : Enc α} {W : World} {D : Nat → Prop} {base e n c : Nat} {A : Option Addr} {css : List (List Value)} {l : List α} (ho : W.ownsRow base e E.k (.slice A n c) n css.flatten) (hC : CellsE E W D css l) (hl : l.length = n) (hD : ∀ b, D b → b < W.heap.size) : RdE E W (Under W.heap.size) A n l := by
  refine ⟨hl, fun hn => ?_⟩
  rcases ho.2 with ⟨_, h0⟩ | ⟨g, cap, cur, he, _, hg, _⟩
  · omega
  · simp only [Value.slice.injEq] at he
    obtain ⟨rfl, _, rfl⟩ := he
    refine ⟨g, 0, rfl, heap_lt hg, fun i x hx => ?_⟩
    have hi := (List.getElem?_eq_some_iff.1 hx).1
    have hic : i < css.length := by rw [hC.1]; exact hi
    have hR := hC.2 i _ x (List.getElem?_eq_getElem hic) hx
    refine ⟨_, E.mono hR (fun _ _ => rfl) (fun _ h => hD _ h), fun j v hv => ?_⟩
    have hj := (List.getElem?_eq_some_iff.1 hv).1
    rw [E.len hR] at hj
    have hfl := flat_len hC.lens
    have hlt : i * E.k + j < n * E.k := by
      have : (i + 1) * E.k ≤ n * E.k := Nat.mul_le_mul_right _ (by omega)
      rw [Nat.succ_mul] at this
      omega
    rw [Nat.zero_add]
    refine (World.ownsRow.cellAt (g := g) ho (i * E.k + j) (by first | exact hlt | (rw [hfl, hC.1, hl]; exact hlt))).trans ?_
    rw [flat_get hC.lens (List.getElem?_eq_getElem hic) hj]
    exact hv
theorem PruSt.fin {B g n k : Nat} {L : List NodV} {W W9 : World} {A5 : Option Addr} {c5 : Nat} {css : List (List Value)} {cs : List Value} (hl : L.length = n) (h2 : W.ownsRow (g + 1) 64 13 (.slice A5 n c5) n css.flatten) (h3 : CellsE nodEn W (DomP B W) css L) (hB : B ≤ W.heap.size)
    (hg : W.grownBy W9 (some k)) (hk : RowL W k 24 cs) (hBk : B ≤ k) : RdE nodEn W9 (Under W9.heap.size) A5 n L := by
  have e1 : ∀ b, DomP B W b → W9.heap[b]? = W.heap[b]? := fun b hb => DomP.same hg hB (fun k' hk' => by
    obtain rfl := Option.some.inj hk'
    exact ⟨hBk, hk.no_ent (by decide)⟩) hb
  have hs := hg.size
  exact RdE.of_row (E := nodEn) (h2.kept hg (.inr (fun e => row_apart h2 hk (by decide) e.symm))) (h3.mono e1 (fun b hb => hb.eq (e1 b hb))) hl (fun b hb => hb.lt (by omega))
theorem ent_dom {W : World} {B base n c : Nat} {A : Option Addr} {l : List EntV} (h : W.ownsRow base 67 3 (.slice A n c) n (flatE l)) : RdE entEn W (DomP B W) A n l := by
  refine ⟨ow_flat h, fun h0 => ?_⟩
  rcases h.2 with ⟨_, h0'⟩ | ⟨g, cap, cur, he, hb, hg, _⟩
  · omega
  · simp only [Value.slice.injEq] at he
    obtain ⟨rfl, -, -⟩ := he
    refine ⟨g, 0, rfl, .inr ⟨_, _, hg⟩, fun i x hx => ⟨cellsE x, ⟨[_], [_, _], rfl, rfl, [_], [_], rfl, rfl, rfl⟩, fun j v hv => ?_⟩⟩
    have hj : j < 3 := by have := (List.getElem?_eq_some_iff.1 hv).1; simpa [cellsE] using this
    have hi := (List.getElem?_eq_some_iff.1 hx).1
    have hn := ow_flat h
    rw [Nat.zero_add]
    refine (World.ownsRow.cellAt (g := g) h (i * 3 + j) (by have := h.1; omega)).trans ?_
    have := flat_get (k := 3) (css := l.map cellsE) (fun cs hc => by obtain ⟨z, _, rfl⟩ := List.mem_map.1 hc; rfl) (i := i) (j := j) (cs := cellsE x) (by rw [List.getElem?_map, hx]; rfl) hj
    rw [show flatE l = (l.map cellsE).flatten from by simp [flatE, List.flatMap], this]
    exact hv
set_option maxRecDepth 100000 in
theorem lit_nod (x : NodV) (D C : Option Addr) (n c m d : Nat) (W : World) : (Instr.buildSlice 22 1 #[(0, .agg (nodC x (.slice D n c) (.slice C m d)).toArray)]).run Try.prog W = .ok (.slice (some ⟨W.heap.size, 0, none⟩) 1 1) (W.alloc (.cells (nodC x (.slice D n c) (.slice C m d)).toArray 64)) := by
  obtain ⟨it, hi, hz, hsz, -⟩ := info_parts nodw_info
  refine run_buildSlice W _ 64 1 _ _ it _ Try.underlying22 hi hz (by omega) (by omega) ?_
  rw [hsz]
  have := Great.fill_whole (s := 13) (by omega) [.agg (nodC x (.slice D n c) (.slice C m d)).toArray] ((Array.range (1 * 13)).map ((Value.agg nodZ.toArray).cells[· % (Value.agg nodZ.toArray).cells.size]!)) (by intro v hv; rw [List.mem_singleton] at hv; subst hv; simp [Value.cells, nodC]) (by simp)
  simpa [Value.cells] using this
theorem keepSlot_succ {t : List (Int × Int)} {i : Int} {l : List EntV} {k : Nat} {x : EntV} (h : l[k]? = some x) {b : Bool} (hb : decide ((i, x.slot) ∈ t) = b) : keepSlot t i (l.take (k + 1)) = if b = true then keepSlot t i (l.take k) else keepSlot t i (l.take k) ++ [x] := by
  unfold keepSlot
  rw [List.take_add_one, h, List.filter_append]
  simp only [Option.toList_some, List.filter_cons, List.filter_nil, hb]
  cases b <;> simp
theorem keepSlot_len (t : List (Int × Int)) (i : Int) (l : List EntV) : (keepSlot t i l).length ≤ l.length := List.length_filter_le _ _
theorem In_e {A : Option Addr} {n c : Nat} {L : List (Int × Int)} {i s : Int} {b : Bool} (h0 : decide ((i, s) ∈ L) = b) (w : World) (h : RdE prEn w (Under w.heap.size) A n L) (hn : n ≤ 100000) :
    Calls Try.prog 41 #[.slice A n c, .agg #[.int .i64 i, .int .i64 s]] w (BoolB w b) := by rw [← h0]; exact In_any (z := (i, s)) w h hn
theorem prune_take {ns : List NodV} {s : StW} {j : Nat} {x : NodV} (h : ns[j]? = some x) : (pruneW ns s).take (j + 1) = (pruneW ns s).take j ++ [pruneN s.2 (reachW ns s.1 ((j : Int) + 1)) ((j : Int) + 1) x] := by
  rw [List.take_add_one, prune_get h]
  rfl
theorem keepE_len (t : List (Int × Nat)) (i : Int) (l : List EntV) : (keepE t i l).length ≤ l.length := by
  unfold keepE
  rw [List.length_map]
  refine Nat.le_trans (List.length_filter_le _ _) ?_
  simp
theorem prune_many {ns : List NodV} {s : StW} (hM : Many ns) (hD : ∀ x ∈ ns, x.data.length ≤ 1000) : Many (pruneW ns s) ∧ ∀ x ∈ pruneW ns s, x.data.length ≤ 1000 := by
  have key : ∀ x ∈ pruneW ns s, x.ents.length ≤ 16 ∧ x.data.length ≤ 1000 := by
    intro x hx
    obtain ⟨j, hj, rfl⟩ := List.mem_iff_getElem.1 hx
    have hj' : j < ns.length := by rwa [prune_len] at hj
    have hn : ns[j]? = some ns[j] := List.getElem?_eq_getElem hj'
    have e := prune_get (s := s) hn
    rw [List.getElem?_eq_getElem hj] at e
    have e := Option.some.inj e
    rw [e]
    unfold pruneN
    split
    · exact ⟨Nat.le_trans (keepE_len _ _ _) (hM.2 ns[j] (List.getElem_mem hj')), hD ns[j] (List.getElem_mem hj')⟩
    · exact ⟨by simp [nod0], by simp [nod0]⟩
  exact ⟨⟨by rw [prune_len]; exact hM.1, fun x hx => (key x hx).1⟩, fun x hx => (key x hx).2⟩
end Go.Proofs.Ytalhkcheglbolaa

/- The reference's Prune (layer 13). -/
namespace Go.Proofs.Ytalhkcheglbolaa
open Go.RowKit Go.Shelf Plain

/-- It returns a layer, in whatever memory. -/
def LayRet0 (w : World) (ns : List NodV) (e : Ending) (w' : World) : Prop := ∃ A n c, e = .returned (.agg #[.slice A n c]) ∧ n ≤ c ∧ RdE nodEn w' (Under w'.heap.size) A n ns ∧ Below w.heap.size w w'
theorem own_capN {W : World} {base e s n c : Nat} {A : Option Addr} {xs : List Value} (h : W.ownsRow base e s (.slice A n c) n xs) : n ≤ c := by
  rcases h.2 with ⟨h0, h1⟩ | ⟨g, cap, cur, h1, _, _, h4, _⟩
  · omega
  · cases h1; exact h4
set_option maxRecDepth 100000 in
set_option maxHeartbeats 16000000 in
theorem RPrune_any {A F : Option Addr} {n c k d : Nat} {ns : List NodV} {ff : List Int} (w : World) (h : RdE nodEn w (Under w.heap.size) A n ns) (hf : RdE Enc.int w (Under w.heap.size) F k ff) (hM : Many ns) (hRi : ∀ x ∈ ns, RiseE x.ents x.ents.length) (hk : k ≤ 1000) :
    Calls Try.prog 23 #[.agg #[.slice A n c], .slice F k d] w (LayRet0 w (pruneW ns (walkW ns ff))) := by
  obtain ⟨r0, r1, hb2, hs2⟩ := rows2 w [.slice A n c] [.slice none 0 0] 24 24
  obtain rfl : n = ns.length := h.1.symm
  have H0 := h.on hb2
  have F0 := hf.on hb2
  have hm24 := hM.1
  have htw := walk_tw hM ff
  have hok0 := walk_ok ns ff
  have hle0 := hok0.le
  have HOK := hide hok0
  have HCT := hide (walk_comes ns ff)
  have HM := hide hM
  have HRI := hide hRi
  obtain ⟨S, hS⟩ : ∃ S, walkW ns ff = S := ⟨_, rfl⟩
  rw [hS] at HOK HCT htw hle0 ⊢
  have HSe := hide hS
  clear hS
  obtain ⟨W2, hW2⟩ : ∃ W2, (w.alloc (.cells [Value.slice A ns.length c].toArray 24)).alloc (.cells [Value.slice none 0 0].toArray 24) = W2 := ⟨_, rfl⟩
  rw [hW2] at r0 r1 hb2 H0 F0 hs2
  have hW2' : (w.alloc (.cells #[.slice A ns.length c] 24)).alloc (.cells #[.slice none 0 0] 24) = W2 := hW2
  have HQ := hide (fun W (hb : Below W2.heap.size W2 W) => show W.cell? ⟨w.heap.size, 0, none⟩ = some (.slice A ns.length c) from (r0.on hb).cell 0)
  have R0 := hide r0
  have R1 := hide r1
  have HB2 := hide hb2
  have HN1 := hide H0
  have HF1 := hide F0
  have HNW := hide h
  clear r0 r1 hb2 H0 F0 hW2 h hf hM hok0 hRi
  go_enter Try.func23, Try.ntmps23
  go_wp2_with fail
  clear hW2'
  refine wp_region_planN (fun w' => Below W2.heap.size W2 w') [(0, true), (1, true), (3, true), (4, true), (2, false), (5, false), (6, true), (7, true)] (by kernel_rfl) (by kernel_rfl) (by kernel_rfl) (by kernel_rfl) rfl (fun _ _ _ _ _ h => h) (below_drew (below_self W2)) (fun hHeld => ?_)
  simp only [planOps, List.filterMap_cons, List.filterMap_nil, List.getElem?_toArray, List.getElem?_cons_succ, List.getElem?_cons_zero, Option.map_some]
  refine wpPlan_take (v := ?_) (by kernel_rfl) (fun wS hSw => ?_) ?_
  rotate_left
  · have qx := HQ.out wS hSw; go_simp; (try with_reducible rfl)
  (try simp only [Act.put, List.setIfInBounds_toArray, List.set_cons_zero, List.set_cons_succ])
  refine wpPlan_take (v := ?_) (by kernel_rfl) (fun wS hSw => ?_) ?_
  rotate_left
  · (try dsimp only at hSw); go_simp; (try with_reducible rfl)
  (try simp only [Act.put, List.setIfInBounds_toArray, List.set_cons_zero, List.set_cons_succ])
  refine wpPlan_take (v := ?_) (by kernel_rfl) (fun wS hSw => ?_) ?_
  rotate_left
  · have qx := HQ.out wS hSw; go_simp; (try with_reducible rfl)
  (try simp only [Act.put, List.setIfInBounds_toArray, List.set_cons_zero, List.set_cons_succ])
  refine wpPlan_take (v := ?_) (by kernel_rfl) (fun wS hSw => ?_) ?_
  rotate_left
  · (try dsimp only at hSw); go_simp; (try with_reducible rfl)
  (try simp only [Act.put, List.setIfInBounds_toArray, List.set_cons_zero, List.set_cons_succ])
  refine wpPlan_call (by kernel_rfl) (fun K hK => ?_)
  have hOld := hide hHeld
  clear hHeld
  go_simp
  go_at_call 17
  refine (RReach_any _ (HN1.out.on hOld.out) (HF1.out.on hOld.out) HM.out hk).mono ?_
  rintro e w' ⟨A5, n5, c5, rfl, hc5, h5, hbel, -⟩
  have hn5 := h5.1
  rw [reachL_len] at hn5
  subst hn5
  have HRE := hide h5
  clear h5
  refine hK.out _ _ (hOld.out.trans (hbel.mono hOld.out.size)) (fun hHeld => ?_)
  clear hK K
  (try simp only [Act.put, List.setIfInBounds_toArray, List.set_cons_zero, List.set_cons_succ])
  refine wpPlan_call (by kernel_rfl) (fun K hK => ?_)
  have hOld := hide hHeld
  clear hHeld
  go_simp
  go_at_call 14
  refine (RTwice_any _ (HN1.out.on hOld.out) (HF1.out.on hOld.out) HM.out hk).mono ?_
  rintro e w' ⟨A6, c6, rfl, h6, hbel⟩
  have HTW := hide h6
  have HRE' := hide (HRE.out.on hbel)
  clear HRE
  have HRE := HRE'
  clear HRE'
  clear h6
  refine hK.out _ _ (hOld.out.trans (hbel.mono hOld.out.size)) (fun hHeld => ?_)
  clear hK K
  (try simp only [Act.put, List.setIfInBounds_toArray, List.set_cons_zero, List.set_cons_succ])
  refine wpPlan_take (v := ?_) (by kernel_rfl) (fun wS hSw => ?_) ?_
  rotate_left
  · (try dsimp only at hSw); go_simp; (try with_reducible rfl)
  (try simp only [Act.put, List.setIfInBounds_toArray, List.set_cons_zero, List.set_cons_succ])
  refine wpPlan_take (v := ?_) (by kernel_rfl) (fun wS hSw => ?_) ?_
  rotate_left
  · (try dsimp only at hSw); go_simp; (try with_reducible rfl)
  (try simp only [Act.put, List.setIfInBounds_toArray, List.set_cons_zero, List.set_cons_succ])
  refine wpPlan_end ?_
  generalize hn6 : (twiceS ns (walkW ns ff)).length = n6 at *
  rw [HSe.out] at HRE HTW hn6
  have hn6le : n6 ≤ 384 := by rw [twice_len] at hn6; omega
  clear hn6
  have HB6 := hide (HB2.out.trans (hHeld.mono HB2.out.size))
  have R06 := hide (R0.out.on hHeld)
  have R16 := hide (R1.out.on hHeld)
  have hs26 := hHeld.size
  clear HN1 HF1 HQ hHeld R0 R1 HB2
  generalize w' = w6 at *
  obtain ⟨TW, hTW⟩ : ∃ TW, twiceS ns S = TW := ⟨_, rfl⟩
  rw [hTW] at HTW
  have HTWe := hide hTW
  clear hTW
  have hrg := RowL.new w6 24 [.slice none 0 0]
  have HS0 := hide (show PruSt w6 w.heap.size w6.heap.size 0 ((pruneW ns S).take 0) (w6.alloc (.cells #[.slice none 0 0] 24)) from ⟨rfl, none, 0, [], hrg, World.ownsRow_nil _ _ _ _, ⟨rfl, fun i cs x h => by simp at h⟩, below_new (below_self w6) _, HB6.out.size⟩)
  clear hrg
  go_wp2_with fail
  go_loopw [8] (fun v8 wr => ∃ j : Nat, j ≤ ns.length ∧ v8 = .int .i64 j ∧ PruSt w6 w.heap.size w6.heap.size j ((pruneW ns S).take j) wr) (fun v8 _ => ns.length - (intOf v8).toNat)
  case atStart => exact ⟨0, by omega, rfl, HS0.out⟩
  case round =>
    rename World => wo
    obtain ⟨j, hj, rfl, hst⟩ := hrel
    have HST := hide hst
    obtain ⟨hlT0, A5, c5, css, hrG, hoG, hCG, hbG, -⟩ := hst
    have HLT := hide hlT0
    clear hlT0
    have hgl := hrG.lt
    have HG := hide hrG
    have HO := hide hoG
    have HC := hide hCG
    have HBR := hide hbG
    have hbsz := hbG.size
    have HBW := hide (HB6.out.trans (hbG.mono HB6.out.size))
    have hwsz := HBW.out.size
    have hs6 := HB6.out.size
    have qb : wo.cell? ⟨w.heap.size, 0, none⟩ = some (.slice A ns.length c) := (R06.out.on hbG).cell 0
    clear hrG hoG hCG hbG
    by_cases hlt : j < ns.length
    · obtain ⟨x, hx⟩ : ∃ x, ns[j]? = some x := ⟨_, List.getElem?_eq_getElem hlt⟩
      obtain ⟨b1, o1, cs1, rfl, hb1, hN1, hc1⟩ := (HNW.out.under HBW.out (Nat.le_refl _)).get_nod hx
      obtain ⟨D1, n1, c1, C1, m1, d1, rfl, e2, e3, e4, e5⟩ := hN1
      have hmem := List.mem_of_getElem? hx
      have hm1 : m1 ≤ 16 := by rw [← e5.1]; exact HM.out.2 x hmem
      have hml : x.ents.length ≤ m1 ∧ m1 ≤ x.ents.length := by have := e5.1; omega
      obtain ⟨gR, oR, eR, hgR, hcR⟩ := HRE.out.2 (by omega)
      have hgR' : gR < wo.heap.size := Nat.lt_of_lt_of_le hgR hbsz
      obtain ⟨br, hbr⟩ : ∃ br, reachW ns S.1 ((j : Int) + 1) = br := ⟨_, rfl⟩
      have qr : wo.cell? ⟨gR, oR + j, none⟩ = some (.bool br) := (HBR.out.cell (p := ⟨gR, oR + j, none⟩) hgR).trans (by rw [← hbr]; exact hcR j _ (reachL_get HOK.out hlt))
      subst eR
      have HPT := hide (prune_take (s := S) hx)
      have HBQ := hide hbr
      have HX := hide hx
      have HC1 := hide hc1
      have E3 := hide e3
      have E5 := hide e5
      have HZ := hide (RowL.new wo 64 (nodC nod0 (.slice none 0 0) (.slice none 0 0)))
      have hjn : (j : Int) < (ns.length : Int) := by omega
      have hw1 : IntKind.i64.wrap ((j : Int) + 1) = (j : Int) + 1 := IntWalk.i64_in _ (by omega)
      clear hcR hx hbr hc1 e3 e5
      cases br with
      | false =>
        go_wp2_with (first | (refine wpList_loadX rfl 64 (.tmp 28) rfl 13 nod_agg nod_size b1 (o1 + j * 13) rfl (nodC x (.slice D1 n1 c1) (.slice C1 m1 d1)) HC1.out rfl ?_) | (refine wpList_storeW rfl 64 (.tmp 9) (.tmp 29) rfl 13 nod_size wo.heap.size 64 rfl (nodC nod0 (.slice none 0 0) (.slice none 0 0)) (nodC x (.slice D1 n1 c1) (.slice C1 m1 d1)) rfl HZ.out rfl rfl (nodC_one _ _ _ _ _ _ _) ?_; intro w3 hr3 hg3 hs3; have hb3 := below_stored' hg3; have qr3 : w3.cell? ⟨gR, oR + j, none⟩ = some (.bool false) := (hb3.cell (p := ⟨gR, oR + j, none⟩) hgR').trans qr; have qg3 : w3.cell? ⟨w6.heap.size, 0, none⟩ = some (.slice A5 j c5) := (HG.out.on hb3).cell 0; have fg3 : w3.frozen? ⟨w6.heap.size, 0, none⟩ = false := (HG.out.on hb3).frozen 0; have hl3 : w6.heap.size < w3.heap.size := (HG.out.on hb3).lt; have HB3 := hide hb3; have HR3 := hide hr3; clear hr3 hg3 hs3 hb3) | (refine wpList_litW rfl 22 (.tmp 37) rfl (.agg (nodC nod0 (.slice none 0 0) (.slice none 0 0)).toArray) _ rfl (lit_nod nod0 none none 0 0 0 0 w3) ?_; refine wpList_plain rfl fun K2 hK2 => ?_; go_loud (refine wp_appF w3 (w6.heap.size + 1) _ rfl (.tmp 36) (.tmp 38) 22 64 rfl Try.underlying22 _ 13 144 nodw_info rfl (by omega) (by omega) A5 j c5 _ (nodC nod0 (.slice none 0 0) (.slice none 0 0)) rfl (nodC_one _ _ _ _ _ _ _) rfl (ownsRow_below HO.out HB3.out) rfl (by omega) (by omega) ?_); intro A7 c7 w7 ho7 hg7; have hp7 := PruSt.push HLT.out (HG.out.on HB3.out) (ownsRow_below HO.out HB3.out) (HC.out.mono (fun b hb => HB3.out.block b (hb.lt (by omega))) (fun b hb => hb.eq (HB3.out.block b (hb.lt (by omega))))) (HBR.out.trans (HB3.out.mono hbsz)) hs6 (show NodR w3 (DomP w.heap.size w3) (nodC nod0 (.slice none 0 0) (.slice none 0 0)) nod0 from ⟨none, 0, 0, none, 0, 0, rfl, Nat.le_refl _, RdE.none_ _ _ _ _, Nat.le_refl _, RdE.none_ _ _ _ _⟩) ho7 hg7; have qg7 : w7.cell? ⟨w6.heap.size, 0, none⟩ = some (.slice A5 j c5) := hp7.1.cell 0; have fg7 : w7.frozen? ⟨w6.heap.size, 0, none⟩ = false := hp7.1.frozen 0; have HP7 := hide hp7.2; refine hK2 _ _ ?_; clear hK2 K2 ho7 hg7 hp7))
        go_roundw
        case rel => exact ⟨j + 1, by omega, by go_num, by rw [HPT.out, HBQ.out]; exact HP7.out⟩
        case measure => simp [intOf]; omega
      | true =>
        go_wp2_with (first | (refine wpList_loadX rfl 64 (.tmp 28) rfl 13 nod_agg nod_size b1 (o1 + j * 13) rfl (nodC x (.slice D1 n1 c1) (.slice C1 m1 d1)) HC1.out rfl ?_) | (refine wpList_storeW rfl 64 (.tmp 9) (.tmp 29) rfl 13 nod_size wo.heap.size 64 rfl (nodC nod0 (.slice none 0 0) (.slice none 0 0)) (nodC x (.slice D1 n1 c1) (.slice C1 m1 d1)) rfl HZ.out rfl rfl (nodC_one _ _ _ _ _ _ _) ?_; intro w3 hr3 hg3 hs3; have hb3 := below_stored' hg3; have qr3 : w3.cell? ⟨gR, oR + j, none⟩ = some (.bool true) := (hb3.cell (p := ⟨gR, oR + j, none⟩) hgR').trans qr; have qg3 : w3.cell? ⟨w6.heap.size, 0, none⟩ = some (.slice A5 j c5) := (HG.out.on hb3).cell 0; have fg3 : w3.frozen? ⟨w6.heap.size, 0, none⟩ = false := (HG.out.on hb3).frozen 0; have hl3 : w6.heap.size < w3.heap.size := (HG.out.on hb3).lt; have HB3 := hide hb3; have HR3 := hide hr3; clear hr3 hg3 hs3 hb3))
        have hs3 := HB3.out.size
        clear qr3 qg3 fg3 qb qr HZ
        go_loopw [10, 11] (fun v10 v11 wr => ∃ (i n8 : Nat) (A8 : Option Addr) (c8 : Nat), i ≤ m1 ∧ v11 = .int .i64 i ∧ v10 = .slice A8 n8 c8 ∧ wr.ownsRow w3.heap.size 67 3 (.slice A8 n8 c8) n8 (flatE (keepSlot TW ((j : Int) + 1) (x.ents.take i))) ∧ Below w3.heap.size w3 wr) (fun _ v11 _ => m1 - (intOf v11).toNat)
        case atStart => exact ⟨0, 0, none, 0, by omega, rfl, rfl, World.ownsRow_nil _ _ _ _, below_self _⟩
        case round =>
          obtain ⟨i, n8, A8, c8, hi, rfl, rfl, ho8, hb8⟩ := hrel
          have hn8 : n8 ≤ i := by rw [← ow_flat ho8]; exact Nat.le_trans (keepSlot_len _ _ _) (by rw [List.length_take]; omega)
          have HO8 := hide ho8
          have HB8 := hide hb8
          have hs8 := hb8.size
          have r9 := HR3.out.on hb8
          have q5 : wr.cell? ⟨wo.heap.size, 5, none⟩ = some (.slice C1 m1 d1) := r9.cell 5
          have HR9 := hide r9
          have hbx := HB3.out.trans (hb8.mono HB3.out.size)
          have HBX := hide hbx
          by_cases hlt2 : i < m1
          · obtain ⟨e, he⟩ : ∃ e, x.ents[i]? = some e := ⟨_, List.getElem?_eq_getElem (by omega)⟩
            obtain ⟨bE, oE, rfl, hbE, hcE⟩ := ent_get (E5.out.under hbx hwsz) he
            have qe : wr.cell? ⟨bE, oE + i * 3, none⟩ = some (.int .i64 e.slot) := hcE 0 _ rfl
            have hbE' : bE < wr.heap.size := by have : bE < w.heap.size := hbE; omega
            obtain ⟨bi, hbi⟩ : ∃ bi, decide (((j : Int) + 1, e.slot) ∈ TW) = bi := ⟨_, rfl⟩
            have HKS := hide (keepSlot_succ he hbi)
            have HBI := hide hbi
            have HCE := hide hcE
            have HT9 := hide (HTW.out.on (HBR.out.trans (hbx.mono hbsz)))
            have him : (i : Int) < (m1 : Int) := by omega
            clear ho8 hb8 r9 hbx he hcE hbi
            go_wp2_with fail
            refine (In_e HBI.out wr HT9.out (by omega)).mono ?_
            rintro ez wy ⟨rfl, hby⟩
            have ry := HR9.out.on hby
            have q5y : wy.cell? ⟨wo.heap.size, 5, none⟩ = some (.slice (some ⟨bE, oE, none⟩) m1 d1) := ry.cell 5
            have HCY := hide (fun (j' : Nat) (v : Value) (hv : (cellsE e)[j']? = some v) => show wy.cell? ⟨bE, oE + i * 3 + j', none⟩ = some v from (hby.cell (p := ⟨bE, oE + i * 3 + j', none⟩) hbE').trans (HCE.out j' v hv))
            have hsy := hby.size
            have HBY := hide hby
            clear hby ry qe q5
            cases bi with
            | true =>
              go_wp2_with fail
              go_roundw
              case rel => exact ⟨i + 1, n8, A8, c8, by omega, by go_num, rfl, by rw [HKS.out, if_pos (by simp)]; exact ownsRow_below HO8.out HBY.out, HB8.out.trans (HBY.out.mono hs8)⟩
              case measure => simp [intOf]; omega
            | false =>
              have hoy := ownsRow_below HO8.out HBY.out
              have HOY := hide hoy
              clear hoy
              go_wp2_with (first | (refine wpList_loadX rfl 67 (.tmp 64) rfl 3 entw_agg entw_size bE (oE + i * 3) rfl (cellsE e) HCY.out rfl ?_) | (refine wpList_litW rfl 58 (.tmp 65) rfl (.agg (cellsE e).toArray) _ rfl (lit_entw e wy) ?_; refine wpList_plain rfl fun K2 hK2 => ?_; go_loud (refine wp_appF wy w3.heap.size _ rfl (.tmp 60) (.tmp 66) 58 67 rfl Try.underlying58 _ 3 32 entw_info rfl (by omega) (by omega) A8 n8 c8 _ (cellsE e) rfl (cellsE_one e) rfl HOY.out rfl (by omega) (by omega) ?_); intro A9 c9 w9 ho9 hg9; refine hK2 _ _ ?_; clear hK2 K2; have HO9 := hide ho9; have HG9 := hide hg9; clear ho9 hg9))
              have hbA := ((HB8.out.trans (HBY.out.mono hs8)).alloc (by omega) (.cells (cellsE e).toArray 67))
              go_roundw
              case rel => exact ⟨i + 1, n8 + 1, A9, c9, by omega, by go_num, rfl, by rw [HKS.out, if_neg (by simp), flatE_snoc]; exact HO9.out, hbA.grown HG9.out (by simp only [World.size_alloc]; omega) (fun q hq => (own_block (ownsRow_below HOY.out (below_new (below_self wy) (.cells (cellsE e).toArray 67))) q hq).1)⟩
              case measure => simp [intOf]; omega
          · obtain rfl : i = m1 := by omega
            rw [List.take_of_length_le (by omega)] at ho8
            have f5 : wr.frozen? ⟨wo.heap.size, 5, none⟩ = false := r9.frozen 5
            have hgA := grown_cell wr wo.heap.size 5 (.slice A8 n8 c8)
            have hrA : RowL (wr.setCell ⟨wo.heap.size, 5, none⟩ (.slice A8 n8 c8)) wo.heap.size 64 (nodC x (.slice D1 n1 c1) (.slice A8 n8 c8)) := r9.set_ 5 _
            have hoA := ho8.kept hgA (.inr (fun e => row_apart ho8 r9 (by decide) e.symm))
            have hbA : Below wo.heap.size wo (wr.setCell ⟨wo.heap.size, 5, none⟩ (.slice A8 n8 c8)) := hbx.setCell (p := ⟨wo.heap.size, 5, none⟩) (Nat.le_refl _) _
            obtain ⟨-, A5', c5', css', hGA, hOA', hCA, hBA, -⟩ := HST.out.on hbA
            have eG : A5' = A5 ∧ c5' = c5 := by
              have h1 := (HG.out.on hbA).symm.trans hGA
              simp at h1
              exact ⟨h1.1.symm, h1.2.symm⟩
            obtain ⟨rfl, rfl⟩ := eG
            have qgA : (wr.setCell ⟨wo.heap.size, 5, none⟩ (.slice A8 n8 c8)).cell? ⟨w6.heap.size, 0, none⟩ = some (.slice A5' j c5') := hGA.cell 0
            have fgA : (wr.setCell ⟨wo.heap.size, 5, none⟩ (.slice A8 n8 c8)).frozen? ⟨w6.heap.size, 0, none⟩ = false := hGA.frozen 0
            have HRA := hide hrA
            have HGA := hide hGA
            have HOA := hide hOA'
            have HCA := hide hCA
            have HBA := hide hBA
            have hgA6 := hGA.lt
            have hszA := hbA.size
            have hat : nodAt ns ((j : Int) + 1) = x := nodAt_get HX.out
            have hks := keep_slot HCT.out (i := (j : Int) + 1) (by rw [hat]; exact HRI.out x hmem)
            rw [hat, HTWe.out] at hks
            have HKS := hide hks
            rw [hks] at hoA
            have HND := hide (show NodR (wr.setCell ⟨wo.heap.size, 5, none⟩ (.slice A8 n8 c8)) (DomP w.heap.size (wr.setCell ⟨wo.heap.size, 5, none⟩ (.slice A8 n8 c8))) (nodC x (.slice D1 n1 c1) (.slice A8 n8 c8)) { x with ents := keepE S.2 ((j : Int) + 1) x.ents } from ⟨D1, n1, c1, A8, n8, c8, rfl, e2, E3.out.mono (fun b hb => hbA.block b (Nat.lt_of_lt_of_le hb hwsz)) (fun b hb => .inl hb), own_capN hoA, ent_dom hoA⟩)
            generalize hWA : wr.setCell ⟨wo.heap.size, 5, none⟩ (.slice A8 n8 c8) = wA at *
            clear ho8 hb8 hgA hrA hoA hbA hGA hOA' hCA hBA hat hks hbx
            go_wp2_with (first | (refine wpList_loadW rfl 64 (.tmp 9) rfl 13 nod_agg nod_size wo.heap.size 64 rfl (nodC x (.slice D1 n1 c1) (.slice A8 n8 c8)) HRA.out rfl ?_) | (refine wpList_litW rfl 22 (.tmp 72) rfl (.agg (nodC x (.slice D1 n1 c1) (.slice A8 n8 c8)).toArray) _ rfl (lit_nod x D1 A8 n1 c1 n8 c8 wA) ?_; refine wpList_plain rfl fun K2 hK2 => ?_; go_loud (refine wp_appF wA (w6.heap.size + 1) _ rfl (.tmp 71) (.tmp 73) 22 64 rfl Try.underlying22 _ 13 144 nodw_info rfl (by omega) (by omega) A5' j c5' _ (nodC x (.slice D1 n1 c1) (.slice A8 n8 c8)) rfl (nodC_one _ _ _ _ _ _ _) rfl HOA.out rfl (by omega) (by omega) ?_); intro A7 c7 w7 ho7 hg7; have hp7 := PruSt.push HLT.out HGA.out HOA.out HCA.out HBA.out hs6 HND.out ho7 hg7; have qg7 : w7.cell? ⟨w6.heap.size, 0, none⟩ = some (.slice A5' j c5') := hp7.1.cell 0; have fg7 : w7.frozen? ⟨w6.heap.size, 0, none⟩ = false := hp7.1.frozen 0; have HP7 := hide hp7.2; refine hK2 _ _ ?_; clear hK2 K2 ho7 hg7 hp7))
            go_roundw
            case rel => exact ⟨j + 1, by omega, by go_num, by rw [HPT.out, HBQ.out]; exact HP7.out⟩
            case measure => simp [intOf]; omega
    · obtain rfl : j = ns.length := by omega
      have qg : wo.cell? ⟨w6.heap.size, 0, none⟩ = some (.slice A5 ns.length c5) := HG.out.cell 0
      rw [List.take_of_length_le (by rw [prune_len]; exact Nat.le_refl _)] at HC
      go_wp2_with (refine wpList_storeW rfl 24 (.tmp 4) (.tmp 76) rfl 1 lay_size (w.heap.size + 1) 24 rfl [.slice none 0 0] [.slice A5 ns.length c5] rfl (R16.out.on HBR.out) rfl rfl (by simp [Value.oneCell']) ?_; intro w9 hr9 hg9 hs9; have HR9 := hide hr9; have HG9 := hide hg9; clear hr9 hg9)
      exact bodyPost_ret (res_cell Try.results23 rfl lay_agg lay_size HR9.out rfl) rfl ⟨A5, ns.length, c5, rfl, own_capN HO.out, PruSt.fin (by rw [prune_len]) HO.out HC.out (by omega) HG9.out (R16.out.on HBR.out) (by omega), HBW.out.grown HG9.out (by omega) (fun k hk => by have := Option.some.inj hk; omega)⟩
end Go.Proofs.Ytalhkcheglbolaa

/- The law WalkPrunes: its walk (layer 13). -/
namespace Go.Proofs.Ytalhkcheglbolaa
open Go.RowKit Go.Shelf Plain

theorem prune_twice (ns : List NodV) (ff : List Int) : twiceS (pruneW ns (walkW ns ff)) (walkW (pruneW ns (walkW ns ff)) ff) = [] := by rw [prune_walk]; rfl
set_option maxRecDepth 100000 in
set_option maxHeartbeats 16000000 in
theorem law_WalkPrunes {A F : Option Addr} {n c k d : Nat} {ns : List NodV} {ff : List Int} (w : World) (h : RdE nodEn w (Under w.heap.size) A n ns) (hf : RdE Enc.int w (Under w.heap.size) F k ff) (hfine : ∀ x ∈ ns, x.ents.length ≤ 9223372036854775807) :
    Calls Try.prog 5 #[.agg #[.slice A n c], .slice F k d] w (LawOk w) := by
  have r := RowL.new w 24 [.slice A n c]
  have hb1 := below_new (below_self w) (.cells [Value.slice A n c].toArray 24)
  obtain ⟨W1, hW1⟩ : ∃ W1, w.alloc (.cells [Value.slice A n c].toArray 24) = W1 := ⟨_, rfl⟩
  have H0 := h.on hb1
  have F0 := hf.on hb1
  have HLN := hide h.1
  rw [hW1] at r hb1 H0 F0
  have hW1' : w.alloc (.cells #[.slice A n c] 24) = W1 := hW1
  have q1 : W1.cell? ⟨w.heap.size, 0, none⟩ = some (.slice A n c) := r.cell 0
  have R1 := hide r
  have HB1 := hide hb1
  have HN1 := hide H0
  have HF1 := hide F0
  have HFINE := hide hfine
  clear r hb1 H0 F0 hW1 h hf hfine
  go_enter Try.func5, Try.ntmps5
  go_wp2_with fail
  clear hW1'
  refine (PBranch_any W1 HN1.out (by omega) HFINE.out).mono ?_
  rintro e w2 ⟨p, rfl, hb2, hp⟩
  have HP := hide hp
  have HB2 := hide (HB1.out.trans (hb2.mono HB1.out.size))
  have HNA := hide (HN1.out.on hb2)
  have HFA := hide (HF1.out.on hb2)
  have R2 := hide (R1.out.on hb2)
  have q2 : w2.cell? ⟨w.heap.size, 0, none⟩ = some (.slice A n c) := R2.out.cell 0
  clear hp hb2 q1 HN1 HF1 R1 HFINE
  cases p
  · clear q2
    go_wp2_with fail
    refine (awake13_any _).mono ?_
    rintro e wz ⟨rfl, hbz⟩
    have HBZ := hide (HB2.out.trans (hbz.mono HB2.out.size))
    clear hbz
    go_wp2_with fail
    go_ret
    exact LawOk.of HBZ.out
  obtain ⟨hn24, hpl⟩ := HP.out (by first | rfl | trivial)
  by_cases hk : (10 : Int) < (k : Int)
  · have dk : decide ((10 : Int) < (k : Int)) = true := decide_eq_true hk
    clear hpl q2
    go_wp2_with fail
    refine (awake13_any _).mono ?_
    rintro e wz ⟨rfl, hbz⟩
    have HBZ := hide (HB2.out.trans (hbz.mono HB2.out.size))
    clear hbz
    go_wp2_with fail
    go_ret
    exact LawOk.of HBZ.out
  have dk : decide ((10 : Int) < (k : Int)) = false := decide_eq_false hk
  have hk10 : k ≤ 10 := by omega
  have hn24' : n ≤ 24 := by omega
  have hMD := plain_many (by rw [HLN.out]; exact hn24') hpl
  have HM := hide hMD.1
  have HD := hide hMD.2
  have HRI := hide (fun x (hx : x ∈ ns) => (hpl x hx).1)
  have hPM := prune_many (s := walkW ns ff) hMD.1 hMD.2
  have hPP := prune_prune ns ff
  have hTW := prune_twice ns ff
  have hLL : (pruneW ns (walkW ns ff)).length = n := by rw [prune_len]; exact HLN.out
  clear HP hpl hMD hn24 hk
  go_wp2_with fail
  refine (Prune_any w2 HNA.out HFA.out HM.out HD.out (by omega)).mono ?_
  rintro e w3 ⟨A3, n3, c3, rfl, hc3, h3, hb3⟩
  have hn3 : n3 = n := by rw [← h3.1]; exact hLL
  subst hn3
  have HX3 := hide (h3.mono (fun _ _ => rfl) (fun b hb => hb.2) : RdE nodEn w3 (Under w3.heap.size) A3 n3 (pruneW ns (walkW ns ff)))
  have HB3 := hide (HB2.out.trans (hb3.mono HB2.out.size))
  have HNB := hide (HNA.out.on hb3)
  have HFB := hide (HFA.out.on hb3)
  have R3 := hide (R2.out.on hb3)
  have HML := hide hPM.1
  have HDL := hide hPM.2
  have HSM := hide (fun x (hx : x ∈ pruneW ns (walkW ns ff)) => (show x.data.length ≤ 1000 ∧ x.ents.length ≤ 1000 from ⟨hPM.2 x hx, Nat.le_trans (hPM.1.2 x hx) (by omega)⟩))
  have HPP := hide hPP
  have HTW := hide hTW
  have HLL := hide hLL
  have HZ := hide (RowL.new w3 24 [.slice none 0 0])
  clear h3 hb3 q2 HNA HFA R2 hPM hPP hTW hLL
  go_wp2_with (refine wpList_storeW rfl 24 (.tmp 5) (.tmp 17) rfl 1 lay_size w3.heap.size 24 rfl [.slice none 0 0] [.slice A3 n3 c3] rfl HZ.out rfl rfl (by simp [Value.oneCell']) ?_; intro w4 hr4 hg4 hs4; have hb4 := below_stored' hg4; have R4 := hide hr4; have HB4 := hide (HB3.out.trans (hb4.mono HB3.out.size)); have HNA := hide (HNB.out.on hb4); have HFA := hide (HFB.out.on hb4); have HXA := hide (HX3.out.on hb4); have R5 := hide (R3.out.on hb4); clear hr4 hg4 hs4 hb4)
  clear HNB HFB HX3 HZ R3
  have HQ := hide (fun W (hb : Below w4.heap.size w4 W) => show W.cell? ⟨w.heap.size, 0, none⟩ = some (.slice A n3 c) from (R5.out.on hb).cell 0)
  have HQ5 := hide (fun W (hb : Below w4.heap.size w4 W) => show W.cell? ⟨w3.heap.size, 0, none⟩ = some (.slice A3 n3 c3) from (R4.out.on hb).cell 0)
  obtain ⟨L, hL⟩ : ∃ L, pruneW ns (walkW ns ff) = L := ⟨_, rfl⟩
  rw [hL] at HXA HML HDL HSM HPP HTW HLL
  have HL := hide hL
  clear hL
  (try simp only [Act.put])
  refine wp_region_planN (fun w' => Below w4.heap.size w4 w') [(0, true), (1, true), (2, true), (3, false), (4, false), (5, true), (6, true), (7, true), (9, true), (8, false), (10, false), (11, true), (12, true), (13, true), (14, true), (15, false), (16, true), (17, true), (18, true), (19, true), (20, false), (21, true), (22, true)] (by kernel_rfl) (by kernel_rfl) (by kernel_rfl) (by kernel_rfl) rfl (fun _ _ _ _ _ h => h) (below_drew (below_self w4)) (fun hHeld => ?_)
  simp only [planOps, List.filterMap_cons, List.filterMap_nil, List.getElem?_toArray, List.getElem?_cons_succ, List.getElem?_cons_zero, Option.map_some]
  refine wpPlan_take (v := ?_) (by kernel_rfl) (fun wS hSw => ?_) ?_
  rotate_left
  · have qx := HQ5.out wS hSw; go_simp; (try with_reducible rfl)
  (try simp only [Act.put, List.setIfInBounds_toArray, List.set_cons_zero, List.set_cons_succ])
  refine wpPlan_take (v := ?_) (by kernel_rfl) (fun wS hSw => ?_) ?_
  rotate_left
  · have qx := HQ.out wS hSw; go_simp; (try with_reducible rfl)
  (try simp only [Act.put, List.setIfInBounds_toArray, List.set_cons_zero, List.set_cons_succ])
  refine wpPlan_take (v := ?_) (by kernel_rfl) (fun wS hSw => ?_) ?_
  rotate_left
  · (try dsimp only at hSw); go_simp; (try with_reducible rfl)
  (try simp only [Act.put, List.setIfInBounds_toArray, List.set_cons_zero, List.set_cons_succ])
  refine wpPlan_call (by kernel_rfl) (fun K hK => ?_)
  have hOld := hide hHeld
  clear hHeld
  go_simp
  go_at_call 23
  refine (RPrune_any _ (HNA.out.on hOld.out) (HFA.out.on hOld.out) HM.out HRI.out (by omega)).mono ?_
  rintro e w' ⟨A5, n5, c5, rfl, hc5, h5, hbel⟩
  have hn5 : n5 = n3 := by rw [← h5.1, HL.out]; exact HLL.out
  subst hn5
  rw [HL.out] at h5
  have HU := hide h5
  clear h5
  refine hK.out _ _ (hOld.out.trans (hbel.mono hOld.out.size)) (fun hHeld => ?_)
  clear hK K
  (try simp only [Act.put, List.setIfInBounds_toArray, List.set_cons_zero, List.set_cons_succ])
  refine wpPlan_call (by kernel_rfl) (fun K hK => ?_)
  have hOld := hide hHeld
  clear hHeld
  go_simp
  go_at_call 22
  refine (SamL_same (ns := L) _ (HXA.out.on hOld.out) HU.out (by omega) HSM.out).mono ?_
  rintro e w' ⟨rfl, hbel⟩
  clear HU
  refine hK.out _ _ (hOld.out.trans (hbel.mono hOld.out.size)) (fun hHeld => ?_)
  clear hK K
  (try simp only [Act.put, List.setIfInBounds_toArray, List.set_cons_zero, List.set_cons_succ])
  refine wpPlan_take (v := ?_) (by kernel_rfl) (fun wS hSw => ?_) ?_
  rotate_left
  · (try dsimp only at hSw); go_simp; (try with_reducible rfl)
  (try simp only [Act.put, List.setIfInBounds_toArray, List.set_cons_zero, List.set_cons_succ])
  refine wpPlan_take (v := ?_) (by kernel_rfl) (fun wS hSw => ?_) ?_
  rotate_left
  · have qx := HQ5.out wS hSw; go_simp; (try with_reducible rfl)
  (try simp only [Act.put, List.setIfInBounds_toArray, List.set_cons_zero, List.set_cons_succ])
  refine wpPlan_take (v := ?_) (by kernel_rfl) (fun wS hSw => ?_) ?_
  rotate_left
  · (try dsimp only at hSw); go_simp; (try with_reducible rfl)
  (try simp only [Act.put, List.setIfInBounds_toArray, List.set_cons_zero, List.set_cons_succ])
  refine wpPlan_take (v := ?_) (by kernel_rfl) (fun wS hSw => ?_) ?_
  rotate_left
  · have qx := HQ5.out wS hSw; go_simp; (try with_reducible rfl)
  (try simp only [Act.put, List.setIfInBounds_toArray, List.set_cons_zero, List.set_cons_succ])
  refine wpPlan_call (by kernel_rfl) (fun K hK => ?_)
  have hOld := hide hHeld
  clear hHeld
  go_simp
  go_at_call 21
  refine (Prune_any _ (HXA.out.on hOld.out) (HFA.out.on hOld.out) HML.out HDL.out (by omega)).mono ?_
  rintro e w' ⟨A6, n6, c6, rfl, hc6, h6, hbel⟩
  rw [HPP.out] at h6
  have hn6 : n6 = n5 := by rw [← h6.1]; exact HLL.out
  subst hn6
  have HU := hide (h6.mono (fun _ _ => rfl) (fun b hb => hb.2) : RdE nodEn w' (Under w'.heap.size) A6 n6 L)
  clear h6
  refine hK.out _ _ (hOld.out.trans (hbel.mono hOld.out.size)) (fun hHeld => ?_)
  clear hK K
  (try simp only [Act.put, List.setIfInBounds_toArray, List.set_cons_zero, List.set_cons_succ])
  refine wpPlan_call (by kernel_rfl) (fun K hK => ?_)
  have hOld := hide hHeld
  clear hHeld
  go_simp
  go_at_call 22
  refine (SamL_same (ns := L) _ HU.out (HXA.out.on hOld.out) (by omega) HSM.out).mono ?_
  rintro e w' ⟨rfl, hbel⟩
  clear HU
  refine hK.out _ _ (hOld.out.trans (hbel.mono hOld.out.size)) (fun hHeld => ?_)
  clear hK K
  (try simp only [Act.put, List.setIfInBounds_toArray, List.set_cons_zero, List.set_cons_succ])
  refine wpPlan_take (v := ?_) (by kernel_rfl) (fun wS hSw => ?_) ?_
  rotate_left
  · (try dsimp only at hSw); go_simp; (try with_reducible rfl)
  (try simp only [Act.put, List.setIfInBounds_toArray, List.set_cons_zero, List.set_cons_succ])
  refine wpPlan_take (v := ?_) (by kernel_rfl) (fun wS hSw => ?_) ?_
  rotate_left
  · (try dsimp only at hSw); go_simp; (try with_reducible rfl)
  (try simp only [Act.put, List.setIfInBounds_toArray, List.set_cons_zero, List.set_cons_succ])
  refine wpPlan_take (v := ?_) (by kernel_rfl) (fun wS hSw => ?_) ?_
  rotate_left
  · have qx := HQ5.out wS hSw; go_simp; (try with_reducible rfl)
  (try simp only [Act.put, List.setIfInBounds_toArray, List.set_cons_zero, List.set_cons_succ])
  refine wpPlan_take (v := ?_) (by kernel_rfl) (fun wS hSw => ?_) ?_
  rotate_left
  · (try dsimp only at hSw); go_simp; (try with_reducible rfl)
  (try simp only [Act.put, List.setIfInBounds_toArray, List.set_cons_zero, List.set_cons_succ])
  refine wpPlan_call (by kernel_rfl) (fun K hK => ?_)
  have hOld := hide hHeld
  clear hHeld
  go_simp
  go_at_call 13
  refine (Twice_any _ (HXA.out.on hOld.out) (HFA.out.on hOld.out) HML.out (by omega)).mono ?_
  rintro e w' ⟨A7, n7, c7, rfl, -, h7, hbel⟩
  have hn7 : n7 = 0 := by rw [← h7.1, HTW.out]; rfl
  subst hn7
  clear h7
  refine hK.out _ _ (hOld.out.trans (hbel.mono hOld.out.size)) (fun hHeld => ?_)
  clear hK K
  (try simp only [Act.put, List.setIfInBounds_toArray, List.set_cons_zero, List.set_cons_succ])
  refine wpPlan_take (v := ?_) (by kernel_rfl) (fun wS hSw => ?_) ?_
  rotate_left
  · (try dsimp only at hSw); go_simp; (try with_reducible rfl)
  (try simp only [Act.put, List.setIfInBounds_toArray, List.set_cons_zero, List.set_cons_succ])
  refine wpPlan_take (v := ?_) (by kernel_rfl) (fun wS hSw => ?_) ?_
  rotate_left
  · (try dsimp only at hSw); go_simp; (try with_reducible rfl)
  (try simp only [Act.put, List.setIfInBounds_toArray, List.set_cons_zero, List.set_cons_succ])
  refine wpPlan_take (v := ?_) (by kernel_rfl) (fun wS hSw => ?_) ?_
  rotate_left
  · (try dsimp only at hSw); go_simp; (try with_reducible rfl)
  (try simp only [Act.put, List.setIfInBounds_toArray, List.set_cons_zero, List.set_cons_succ])
  refine wpPlan_take (v := ?_) (by kernel_rfl) (fun wS hSw => ?_) ?_
  rotate_left
  · (try dsimp only at hSw); go_simp; (try with_reducible rfl)
  (try simp only [Act.put, List.setIfInBounds_toArray, List.set_cons_zero, List.set_cons_succ])
  refine wpPlan_call (by kernel_rfl) (fun K hK => ?_)
  have hOld := hide hHeld
  clear hHeld
  go_simp
  go_at_call 8
  refine (awake13_any _).mono ?_
  rintro e w' ⟨rfl, hbel⟩
  refine hK.out _ _ (hOld.out.trans (hbel.mono hOld.out.size)) (fun hHeld => ?_)
  clear hK K
  (try simp only [Act.put, List.setIfInBounds_toArray, List.set_cons_zero, List.set_cons_succ])
  refine wpPlan_take (v := ?_) (by kernel_rfl) (fun wS hSw => ?_) ?_
  rotate_left
  · (try dsimp only at hSw); go_simp; (try with_reducible rfl)
  (try simp only [Act.put, List.setIfInBounds_toArray, List.set_cons_zero, List.set_cons_succ])
  refine wpPlan_take (v := ?_) (by kernel_rfl) (fun wS hSw => ?_) ?_
  rotate_left
  · (try dsimp only at hSw); go_simp; (try with_reducible rfl)
  (try simp only [Act.put, List.setIfInBounds_toArray, List.set_cons_zero, List.set_cons_succ])
  refine wpPlan_end ?_
  have HBX := hide (HB4.out.trans (hHeld.mono HB4.out.size))
  clear hHeld
  go_wp2_with fail
  go_ret
  exact LawOk.of HBX.out
end Go.Proofs.Ytalhkcheglbolaa

