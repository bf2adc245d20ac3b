/- walk: without (layer 13). -/
import Derived.Test.YtalhkcheglbolaaWalP
namespace Go.Proofs.Ytalhkcheglbolaa
open Go.RowKit Go.Shelf Plain

set_option maxRecDepth 100000 in
theorem u8_info' : (Try.prog.info? 5).map (fun i => (i.zero, i.size, i.bytes)) = some (some (.int .u8 0), 1, 1) := by kernel_rfl
set_option maxHeartbeats 800000 in
theorem SClone_any {A : Option Addr} {n c : Nat} {l : List UInt8} (w : World) (h : Bs w w.heap.size A n l) (hn : n ≤ 100000) : Calls Try.prog 54 #[.slice A n c] w (BRet w 5 n l) := by
  have H := hide h
  cases A with
  | none =>
    have h0 : n = 0 := by
      rcases Nat.eq_zero_or_pos n with h0 | h0
      · exact h0
      · obtain ⟨_, _, e, _⟩ := h.2 h0; cases e
    subst h0
    obtain rfl : l = [] := List.eq_nil_of_length_eq_zero h.1
    have hnil := fun W => Lib.run_eql_slice_nil (P := Try.prog) W 57 5 none 0 c 0 0 Try.underlying57
    clear h
    go_enter Try.func54, Try.ntmps54
    go_wp2
    go_ret
    exact (Own.nil_ w w.heap.size 5).ret (below_self w)
  | some a =>
    have hnil := fun W => Lib.run_eql_slice_nil (P := Try.prog) W 57 5 (some a) n c 0 0 Try.underlying57
    clear h
    go_enter Try.func54, Try.ntmps54
    go_wp2_with (at_builtin; refine wpList_append_Bs _ rfl (.tmp 5) (.tmp 6) 57 rfl w.heap.size 5 Try.underlying57 u8_info' (some ⟨w.heap.size, 0, none⟩) 0 0 [] rfl (Own.lit w 5 (cs := []) (l := []) rfl rfl (by omega)) w.heap.size (some a) n c l rfl (H.out.below (below_new (below_self w) _)) n (by omega) (by omega) (by simp) ?_; intro A5 c5 w5 ho5 hb5; have HO5 := hide ho5; have HB5 := hide hb5; clear ho5 hb5)
    go_ret
    exact HO5.out.ret ((below_new (below_self w) _).trans HB5.out)
/-- It returns a node of whatever memory. -/
def NodRet2 (w : World) (x : NodV) (e : Ending) (w' : World) : Prop := ∃ A n c C m d, e = .returned (.agg (nodC x (.slice A n c) (.slice C m d)).toArray) ∧ n ≤ c ∧ RdE Enc.byte w' (fun b => w.heap.size ≤ b ∧ b < w'.heap.size) A n x.data ∧ m ≤ d ∧ RdE entEn w' (fun b => w.heap.size ≤ b ∧ b < w'.heap.size) C m x.ents ∧ Below w.heap.size w w'
def keepF (f : Int × Int → Bool) (i : Int) (l : List EntV) (k : Nat) : List EntV := ((l.zipIdx.take k).filter (fun x => !f (i, (x.2 : Int)))).map (fun x => x.1)
theorem keepF_succ {f : Int × Int → Bool} {i : Int} {l : List EntV} {k : Nat} {x : EntV} (h : l[k]? = some x) : keepF f i l (k + 1) = if f (i, (k : Int)) = true then keepF f i l k else keepF f i l k ++ [x] := by
  have hz : l.zipIdx[k]? = some (x, k) := by rw [List.getElem?_zipIdx, h]; simp
  unfold keepF
  rw [List.take_add_one, hz, List.filter_append, List.map_append]
  cases hd : f (i, (k : Int)) <;> simp [hd]
theorem keepF_len (f : Int × Int → Bool) (i : Int) (l : List EntV) (k : Nat) : (keepF f i l k).length ≤ k := by
  unfold keepF
  rw [List.length_map]
  refine Nat.le_trans (List.length_filter_le _ _) ?_
  rw [List.length_take]
  omega
set_option maxRecDepth 100000 in
theorem entw_info : (Try.prog.info? 67).map (fun i => (i.zero, i.size, i.bytes)) = some (some (.agg #[.int .i64 0, .int .i64 0, .string ⟨#[]⟩]), 3, 32) := by kernel_rfl
theorem lit_entw (x : EntV) (W : World) : (Instr.buildSlice 58 1 #[(0, .agg (cellsE x).toArray)]).run Try.prog W = .ok (.slice (some ⟨W.heap.size, 0, none⟩) 1 1) (W.alloc (.cells (cellsE x).toArray 67)) := by
  obtain ⟨it, hi, hz, hsz, -⟩ := info_parts entw_info
  refine run_buildSlice W _ 67 1 _ _ it _ Try.underlying58 hi hz (by omega) (by omega) ?_
  rw [hsz]
  have := Great.fill_whole (s := 3) (by omega) [.agg (cellsE x).toArray] ((Array.range (1 * 3)).map ((Value.agg #[.int .i64 0, .int .i64 0, .string ⟨#[]⟩]).cells[· % (Value.agg #[.int .i64 0, .int .i64 0, .string ⟨#[]⟩]).cells.size]!)) (by intro v hv; rw [List.mem_singleton] at hv; subst hv; simp [Value.cells, cellsE]) (by simp)
  simpa [Value.cells] using this
theorem own_ent {W : World} {base t n c : Nat} {A : Option Addr} {l : List EntV} (h : W.ownsRow base t 3 (.slice A n c) n (flatE l)) : OwE entEn W base t A n c l := by
  have hl := h.1
  rw [flatE_len] at hl
  refine ⟨l.map cellsE, by rw [show (l.map cellsE).flatten = flatE l from by simp [flatE, List.flatMap]]; exact h, ⟨by simp, fun i cs x h1 h2 => ?_⟩, by omega⟩
  rw [List.getElem?_map, h2] at h1
  cases h1
  exact ⟨[_], [_, _], rfl, rfl, [_], [_], rfl, rfl, rfl⟩
theorem ow_flat {W : World} {base t n c : Nat} {A : Option Addr} {l : List EntV} (h : W.ownsRow base t 3 (.slice A n c) n (flatE l)) : l.length = n := by have hl := h.1; rw [flatE_len] at hl; omega
theorem ent_fresh {W : World} {base t n c : Nat} {A : Option Addr} {l : List EntV} (h : W.ownsRow base t 3 (.slice A n c) n (flatE l)) : RdE entEn W (fun b => base ≤ b ∧ b < W.heap.size) A n l := by
  refine ⟨ow_flat h, fun h0 => ?_⟩
  have hl := h.1
  rcases h.2 with ⟨_, h0'⟩ | ⟨g, cap, cur, he, hb, hg, _⟩
  · omega
  · simp only [Value.slice.injEq] at he
    obtain ⟨rfl, -, -⟩ := he
    refine ⟨g, 0, rfl, ⟨hb, heap_lt hg⟩, fun i x hx => ⟨cellsE x, ⟨[_], [_, _], rfl, rfl, [_], [_], rfl, rfl, rfl⟩, fun j v hv => ?_⟩⟩
    have hj : j < 3 := by have := (List.getElem?_eq_some_iff.1 hv).1; simpa [cellsE] using this
    have hi := (List.getElem?_eq_some_iff.1 hx).1
    have hn := ow_flat h
    rw [Nat.zero_add]
    refine (World.ownsRow.cellAt (g := g) h (i * 3 + j) (by omega)).trans ?_
    have := flat_get (k := 3) (css := l.map cellsE) (fun cs hc => by obtain ⟨z, _, rfl⟩ := List.mem_map.1 hc; rfl) (i := i) (j := j) (cs := cellsE x) (by rw [List.getElem?_map, hx]; rfl) hj
    rw [show flatE l = (l.map cellsE).flatten from by simp [flatE, List.flatMap], this]
    exact hv
theorem byte_fresh {W : World} {base t n c : Nat} {A : Option Addr} {l : List UInt8} (h : W.ownsRow base t 1 (.slice A n c) n (bvs l)) : RdE Enc.byte W (fun b => base ≤ b ∧ b < W.heap.size) A n l := by
  refine RdE.of_bs (Bs.of_own h) (fun h0 a ha => ?_)
  rcases h.2 with ⟨_, h0'⟩ | ⟨g, cap, cur, he, hb, hg, _⟩
  · omega
  · simp only [Value.slice.injEq] at he
    obtain ⟨rfl, -, -⟩ := he
    cases ha
    exact ⟨hb, heap_lt hg⟩
/-- A literal of one element, as the walk meets it. -/
theorem wpList_litW {P : Program} {w w' : World} {ops : Array Oper} {rest : List Oper} {o : Oper} {a : Act} {Q : Exit → Act → World → Prop} (hgd : o.guard = none) (t : Nat) (x : Operand) (ho : o.op = .buildSlice t 1 #[(0, x)]) (vx v : Value) (hx : a.eval x = vx) (hr : (Instr.buildSlice t 1 #[(0, vx)]).run P w = .ok v w') (hK : wpList P ops Q rest (a.put o.dst v) w') : wpList P ops Q (o :: rest) a w := by
  refine wpList_plain hgd fun K hK' => ?_
  unfold Oper.wp execOp
  simp only [ho, List.map_toArray, List.map_cons, List.map_nil, hx, Sem.run_bind, Sem.run_pure, Result.andThen_ok, hr]
  exact hK' _ _ hK
set_option maxRecDepth 100000 in
set_option maxHeartbeats 4000000 in
theorem without_any {D C : Option Addr} {n c m d b cN : Nat} {x : NodV} {i : Int} {f : Int × Int → Bool} (w : World) (hD : RdE Enc.byte w (Under w.heap.size) D n x.data) (hmd : m ≤ d) (hC : RdE entEn w (Under w.heap.size) C m x.ents) (hS : SetN w b cN f) (hi : i64 i) (hn : n ≤ 1000) (hm : m ≤ 16) :
    Calls Try.prog 39 #[.int .i64 i, .agg (nodC x (.slice D n c) (.slice C m d)).toArray, .map (some b)] w (NodRet2 w { x with ents := keepF f i x.ents m }) := by
  obtain ⟨r0, r1, hb2, hs2⟩ := rows2 w (nodC x (.slice D n c) (.slice C m d)) (nodC nod0 (.slice none 0 0) (.slice none 0 0)) 64 64
  have hbw := hS.lt
  have HD := hide hD
  have HC := hide hC
  have HS := hide hS
  obtain ⟨W2, hW2⟩ : ∃ W2, (w.alloc (.cells (nodC x (.slice D n c) (.slice C m d)).toArray 64)).alloc (.cells (nodC nod0 (.slice none 0 0) (.slice none 0 0)).toArray 64) = W2 := ⟨_, rfl⟩
  rw [hW2] at r0 r1 hb2 hs2
  have hW2' : (w.alloc (.cells (nodC x (.slice D n c) (.slice C m d)).toArray 64)).alloc (.cells #[.int .i64 0, .int .i64 0, .int .i64 0, .int .i64 0, .slice none 0 0, .slice none 0 0, .int .i64 0, .int .i64 0, .string ⟨#[]⟩, .int .i64 0, .int .i64 0, .int .i64 0, .int .i64 0] 64) = W2 := hW2
  have q5 : W2.cell? ⟨w.heap.size, 5, none⟩ = some (.slice C m d) := r0.cell 5
  have R0 := hide r0
  have R1 := hide r1
  have HB2 := hide hb2
  clear hD hC hS r0 r1 hb2 hW2
  go_enter Try.func39, Try.ntmps39
  go_wp2
  clear q5
  go_loopw [7, 15] (fun v7 iv wr => ∃ (k n5 : Nat) (A5 : Option Addr) (c5 : Nat), k ≤ m ∧ iv = .int .i64 k ∧ v7 = .slice A5 n5 c5 ∧ wr.ownsRow W2.heap.size 67 3 (.slice A5 n5 c5) n5 (flatE (keepF f i x.ents k)) ∧ Below W2.heap.size W2 wr) (fun _ iv _ => m - (intOf iv).toNat)
  case atStart => exact ⟨0, 0, none, 0, by omega, rfl, rfl, by unfold keepF; rw [List.take_zero]; exact World.ownsRow_nil _ _ _ _, below_self _⟩
  case round =>
    obtain ⟨k, n5, A5, c5, hk, rfl, rfl, ho, hbr⟩ := hrel
    have HO := hide ho
    have HBR := hide hbr
    have hn5 : n5 ≤ k := by rw [← ow_flat ho]; exact keepF_len f i x.ents k
    have hbsz := hbr.size
    have HBW := hide (HB2.out.trans (hbr.mono HB2.out.size))
    have hwsz := HBW.out.size
    clear ho hbr
    by_cases hlt : k < m
    · obtain ⟨e, he⟩ : ∃ e, x.ents[k]? = some e := ⟨_, List.getElem?_eq_getElem (by have := HC.out.1; omega)⟩
      obtain ⟨bE, oE, rfl, hbE, hcE⟩ := ent_get (HC.out.under HBW.out (Nat.le_refl _)) he
      have HCE := hide hcE
      have HZ := hide (RowL.new wr 67 [.int .i64 0, .int .i64 0, .string ⟨#[]⟩])
      have HKS := hide (keepF_succ (f := f) (i := i) he)
      clear he hcE
      cases hfk : f (i, (k : Int)) with
      | true =>
        go_wp2_with (first | (refine wpList_loadX rfl 67 (.tmp 18) rfl 3 entw_agg entw_size bE (oE + k * 3) rfl (cellsE e) HCE.out rfl ?_) | (refine wpList_storeW rfl 67 (.tmp 9) (.tmp 19) rfl 3 entw_size wr.heap.size 67 rfl [.int .i64 0, .int .i64 0, .string ⟨#[]⟩] (cellsE e) rfl HZ.out rfl rfl (cellsE_one e) ?_; intro w3 hr3 hg3 hs3; have HB3 := hide (below_stored' hg3); have HR3 := hide hr3; have hlk := ((HS.out.on (HBW.out.trans ((below_stored' hg3).mono hwsz))).look hi (y := (k : Int)) (by unfold i64; omega)); rw [hfk] at hlk; clear hr3 hg3 hs3))
        go_roundw
        case rel => exact ⟨k + 1, n5, A5, c5, by omega, by go_num, rfl, by rw [HKS.out, hfk]; exact ownsRow_below (ownsRow_below HO.out HB3.out) (below_new (below_self w3) _), (HBR.out.trans (HB3.out.mono hbsz)).alloc (by have := HB3.out.size; omega) _⟩
        case measure => simp [intOf]; omega
      | false =>
        go_wp2_with (first | (refine wpList_loadX rfl 67 (.tmp 18) rfl 3 entw_agg entw_size bE (oE + k * 3) rfl (cellsE e) HCE.out rfl ?_) | (refine wpList_storeW rfl 67 (.tmp 9) (.tmp 19) rfl 3 entw_size wr.heap.size 67 rfl [.int .i64 0, .int .i64 0, .string ⟨#[]⟩] (cellsE e) rfl HZ.out rfl rfl (cellsE_one e) ?_; intro w3 hr3 hg3 hs3; have HB3 := hide (below_stored' hg3); have HR3 := hide hr3; have hlk := ((HS.out.on (HBW.out.trans ((below_stored' hg3).mono hwsz))).look hi (y := (k : Int)) (by unfold i64; omega)); rw [hfk] at hlk; clear hr3 hg3 hs3) | (refine wpList_loadW rfl 67 (.tmp 9) rfl 3 entw_agg entw_size wr.heap.size 67 rfl (cellsE e) (HR3.out.on (below_new (below_self w3) _)) rfl ?_; refine wpList_litW rfl 58 (.tmp 31) rfl (.agg (cellsE e).toArray) _ rfl (lit_entw e (w3.alloc (.cells #[] 84))) ?_; refine wpList_plain rfl fun K2 hK2 => ?_; go_loud (refine wp_appF (w3.alloc (.cells #[] 84)) W2.heap.size _ rfl (.tmp 30) (.tmp 32) 58 67 rfl Try.underlying58 _ 3 32 entw_info rfl (by omega) (by omega) A5 n5 c5 _ (cellsE e) rfl (cellsE_one e) rfl (ownsRow_below (ownsRow_below HO.out HB3.out) (below_new (below_self w3) _)) rfl (by omega) (by have := HB3.out.size; simp only [World.size_alloc]; omega) ?_); intro A6 c6 w6 ho6 hg6; refine hK2 _ _ ?_; clear hK2 K2; have HO6 := hide ho6; have HG6 := hide hg6; clear ho6 hg6))
        have hs3 := HB3.out.size
        have hbw3 : Below W2.heap.size W2 (w3.alloc (.cells #[] 84)) := (HBR.out.trans (HB3.out.mono hbsz)).alloc (by omega) _
        have ho3 := ownsRow_below (ownsRow_below HO.out HB3.out) (below_new (below_self w3) (.cells #[] 84))
        have hbA := hbw3.alloc (by simp only [World.size_alloc]; omega) (.cells (cellsE e).toArray 67)
        go_roundw
        case rel => exact ⟨k + 1, n5 + 1, A6, c6, by omega, by go_num, rfl, by rw [HKS.out, hfk, if_neg (by simp), flatE_snoc]; exact HO6.out, hbA.grown HG6.out (by simp only [World.size_alloc]; omega) (fun q hq => (own_block ho3 q hq).1)⟩
        case measure => simp [intOf]; omega
    · obtain rfl : k = m := by omega
      have hr0 := R0.out.on HBR.out
      have hr1 := R1.out.on HBR.out
      have q5 : wr.cell? ⟨w.heap.size, 5, none⟩ = some (.slice C k d) := hr0.cell 5
      have f5 : wr.frozen? ⟨w.heap.size, 5, none⟩ = false := hr0.frozen 5
      have hgA := grown_cell wr w.heap.size 5 (.slice A5 n5 c5)
      have hrA : RowL (wr.setCell ⟨w.heap.size, 5, none⟩ (.slice A5 n5 c5)) w.heap.size 64 (nodC x (.slice D n c) (.slice A5 n5 c5)) := hr0.set_ 5 _
      have hr1A := hr1.grown hgA (fun e => by have := Option.some.inj e; omega)
      have hoA := HO.out.kept hgA (.inr (fun e => row_apart HO.out hr0 (by decide) e.symm))
      have hbA : Below w.heap.size w (wr.setCell ⟨w.heap.size, 5, none⟩ (.slice A5 n5 c5)) := HBW.out.setCell (p := ⟨w.heap.size, 5, none⟩) (Nat.le_refl _) _
      have q4 : (wr.setCell ⟨w.heap.size, 5, none⟩ (.slice A5 n5 c5)).cell? ⟨w.heap.size, 4, none⟩ = some (.slice D n c) := hrA.cell 4
      have HRA := hide hrA
      have HR1A := hide hr1A
      have HOA := hide hoA
      have HBA := hide hbA
      have HDA := hide ((Bs.of_rd (HD.out.under hbA (Nat.le_refl _))).more hbA.size)
      clear hr0 hr1 hgA hrA hr1A hoA hbA HO HBR HBW HC HS R0 R1
      go_wp2_with (first | (go_at_call 54; refine (SClone_any _ HDA.out (by omega)).mono ?_; rintro e wB ⟨A7, c7, rfl, ho7, hb7⟩; have HO7 := hide ho7; have HB7 := hide hb7; have q4B : wB.cell? ⟨w.heap.size, 4, none⟩ = some (.slice D n c) := (HRA.out.on hb7).cell 4; have f4B : wB.frozen? ⟨w.heap.size, 4, none⟩ = false := (HRA.out.on hb7).frozen 4; have HRC := hide ((HRA.out.on hb7).set_ 4 (.slice A7 n c7)); have HR1C := hide ((HR1A.out.on hb7).grown (grown_cell wB w.heap.size 4 (.slice A7 n c7)) (fun e => by have := Option.some.inj e; omega)); clear ho7 hb7) | (refine wpList_loadW rfl 64 (.tmp 4) rfl 13 nod_agg nod_size w.heap.size 64 rfl (nodC x (.slice A7 n c7) (.slice A5 n5 c5)) HRC.out rfl ?_) | (refine wpList_storeW rfl 64 (.tmp 6) (.tmp 41) rfl 13 nod_size (w.heap.size + 1) 64 rfl (nodC nod0 (.slice none 0 0) (.slice none 0 0)) (nodC x (.slice A7 n c7) (.slice A5 n5 c5)) rfl HR1C.out rfl rfl (nodC_one x A7 A5 n c7 n5 c5) ?_; intro w9 hr9 hg9 hs9; have HR9 := hide hr9; have HG9 := hide hg9; clear hr9 hg9 hs9))
      have hgC := grown_cell wB w.heap.size 4 (.slice A7 n c7)
      have hs7 := HB7.out.size
      have hbC : Below w.heap.size w (wB.setCell ⟨w.heap.size, 4, none⟩ (.slice A7 n c7)) := (HBA.out.trans (HB7.out.mono HBA.out.size)).setCell (p := ⟨w.heap.size, 4, none⟩) (Nat.le_refl _) _
      have hszC := hbC.size
      have hsA := HBA.out.size
      have hb9 : Below w.heap.size w w9 := hbC.grown HG9.out hszC (fun q hq => by have := Option.some.inj hq; omega)
      have hoB := ownsRow_below HOA.out HB7.out
      have hoC := hoB.kept hgC (.inr (fun e => row_apart hoB (HRA.out.on HB7.out) (by decide) e.symm))
      have ho9 := hoC.kept HG9.out (.inr (fun e => row_apart hoC HR1C.out (by decide) e.symm))
      have hd7 : Own wB (wr.setCell ⟨w.heap.size, 5, none⟩ (.slice A5 n5 c5)).heap.size 5 A7 n c7 x.data := HO7.out
      have hdC : (wB.setCell ⟨w.heap.size, 4, none⟩ (.slice A7 n c7)).ownsRow _ 5 1 (.slice A7 n c7) n (bvs x.data) := World.ownsRow.kept hd7 hgC (.inr (fun e => row_apart hd7 (HRA.out.on HB7.out) (by decide) e.symm))
      have hd9 : w9.ownsRow _ 5 1 (.slice A7 n c7) n (bvs x.data) := hdC.kept HG9.out (.inr (fun e => row_apart hdC HR1C.out (by decide) e.symm))
      refine bodyPost_ret (res_cell Try.results39 rfl nod_agg nod_size HR9.out rfl) rfl ⟨A7, n, c7, A5, n5, c5, rfl, HO7.out.cap, (byte_fresh hd9).mono (fun _ _ => rfl) (fun b hb => ⟨Nat.le_trans HBA.out.size hb.1, hb.2⟩), (own_ent ho9).cap, (ent_fresh ho9).mono (fun _ _ => rfl) (fun b hb => ⟨by have := HB2.out.size; omega, hb.2⟩), hb9⟩
end Go.Proofs.Ytalhkcheglbolaa
