/- walk: Prune (layer 13). -/
import Derived.Test.YtalhkcheglbolaaWalR
namespace Go.Proofs.Ytalhkcheglbolaa
open Go.RowKit Go.Shelf Plain

theorem setB_get {bs : List Bool} {i : Int} (hi : 1 ≤ i) (j : Nat) : (setB bs i)[j]? = (bs[j]?).map (fun x => x || i == (j : Int) + 1) := by
  unfold setB
  rw [List.getElem?_set]
  split
  · rename_i h
    have e : i = (j : Int) + 1 := by omega
    rw [e]
    split
    · rename_i hl
      rw [List.getElem?_eq_getElem (by omega)]
      simp
    · rename_i hl
      rw [List.getElem?_eq_none (by omega)]
      rfl
  · rename_i h
    have e : (i == (j : Int) + 1) = false := by rw [beq_eq_false_iff_ne]; omega
    rw [e]
    cases bs[j]? <;> simp
theorem entF_get {ns : List NodV} {bs : List Bool} {e : EntV} {j : Nat} (hj : j < ns.length) : (entF ns bs e)[j]? = (bs[j]?).map (fun x => x || e.ino == (j : Int) + 1) := by
  unfold entF
  split
  · rename_i h
    unfold inN at h
    simp only [Bool.and_eq_true, decide_eq_true_eq] at h
    exact setB_get h.1 j
  · rename_i h
    have e1 : (e.ino == (j : Int) + 1) = false := by
      rw [beq_eq_false_iff_ne]
      intro e2
      apply h
      unfold inN
      simp only [Bool.and_eq_true, decide_eq_true_eq]
      omega
    rw [e1]
    cases bs[j]? <;> simp
theorem entsF_get {ns : List NodV} {j : Nat} (hj : j < ns.length) : ∀ (l : List EntV) (bs : List Bool), (l.foldl (entF ns) bs)[j]? = (bs[j]?).map (fun x => x || l.any (fun e => e.ino == (j : Int) + 1)) := by
  intro l
  induction l with
  | nil => intro bs; cases h : bs[j]? <;> simp [h]
  | cons e r ih =>
    intro bs
    rw [List.foldl_cons, ih, entF_get hj]
    cases bs[j]? <;> simp [Bool.or_assoc]
theorem wayF_get {ns : List NodV} {bs : List Bool} {y : WayV} {j : Nat} (hj : j < ns.length) (hy : 1 ≤ y.ino) : (wayF ns bs y)[j]? = (bs[j]?).map (fun x => x || (y.ino == (j : Int) + 1 || (nodAt ns y.ino).ents.any (fun e => e.ino == (j : Int) + 1))) := by
  unfold wayF
  rw [entsF_get hj, setB_get hy]
  cases bs[j]? <;> simp [Bool.or_assoc]
theorem waysF_get {ns : List NodV} {j : Nat} (hj : j < ns.length) : ∀ (l : List WayV) (_ : ∀ y ∈ l, 1 ≤ y.ino) (bs : List Bool), (l.foldl (wayF ns) bs)[j]? = (bs[j]?).map (fun x => x || reachW ns l ((j : Int) + 1)) := by
  intro l
  induction l with
  | nil => intro _ bs; cases h : bs[j]? <;> simp [h, reachW]
  | cons y r ih =>
    intro hy bs
    rw [List.foldl_cons, ih (fun z hz => hy z (List.mem_cons_of_mem _ hz)), wayF_get hj (hy y List.mem_cons_self)]
    cases bs[j]? <;> simp [Bool.or_assoc, reachW]
theorem reachL_get {ns : List NodV} {l : List WayV} (hok : OkW ns l) {j : Nat} (hj : j < ns.length) : (reachL ns l)[j]? = some (reachW ns l ((j : Int) + 1)) := by
  unfold reachL
  rw [waysF_get hj l (fun y hy => by have := isDir_in (hok.1 y hy); omega), List.getElem?_replicate, if_pos hj]
  simp
theorem cell_same {W W' : World} {b o : Nat} (h : W'.heap[b]? = W.heap[b]?) : W'.cell? ⟨b, o, none⟩ = W.cell? ⟨b, o, none⟩ := by
  unfold World.cell?
  simp only [h]
/-- A key put into a map, as the walk meets it. -/
theorem wpList_put {P : Program} {w w' : World} {ops : Array Oper} {rest : List Oper} {o : Oper} {a : Act} {Q : Exit → Act → World → Prop} (hgd : o.guard = none) (t : Nat) (x y z : Operand) (ho : o.op = .mapUpdate t x y z) (vx vy vz : Value) (hx : a.eval x = vx) (hy : a.eval y = vy) (hz : a.eval z = vz) (hr : (Instr.mapUpdate t vx vy vz).run P w = .ok () w') (hK : wpList P ops Q rest (a.put o.dst undef) w') : wpList P ops Q (o :: rest) a w := by
  refine wpList_plain hgd fun K hK' => ?_
  unfold Oper.wp execOp
  simp only [ho, Sem.run_bind, Sem.run_pure, Result.andThen_ok, hx, hy, hz, hr]
  exact hK' _ _ hK
/-- It returns a layer. -/
def LayRet (w : World) (ns : List NodV) (e : Ending) (w' : World) : Prop := ∃ A n c, e = .returned (.agg #[.slice A n c]) ∧ n ≤ c ∧ RdE nodEn w' (fun b => w.heap.size ≤ b ∧ b < w'.heap.size) A n ns ∧ Below w.heap.size w w'
set_option maxRecDepth 100000 in
theorem lay_agg : ∀ w, (isAgg 24).run Try.prog w = .ok true w := fun w => by kernel_rfl
set_option maxRecDepth 100000 in
theorem lay_size : ∀ w, (Go.sizeOf 24).run Try.prog w = .ok 1 w := fun w => by kernel_rfl
set_option maxRecDepth 100000 in
set_option maxHeartbeats 8000000 in
theorem Prune_any {A F : Option Addr} {n c k d : Nat} {ns : List NodV} {ff : List Int} (w : World) (h : RdE nodEn w (Under w.heap.size) A n ns) (hf : RdE Enc.int w (Under w.heap.size) F k ff) (hM : Many ns) (hD : ∀ x ∈ ns, x.data.length ≤ 1000) (hk : k ≤ 1000) :
    Calls Try.prog 21 #[.agg #[.slice A n c], .slice F k d] w (LayRet w (pruneW ns (walkW ns ff))) := by
  obtain ⟨r0, r1, hb2, hs2⟩ := rows2 w [.slice A n c] [.slice none 0 0] 24 24
  have H1 := hide (h.on hb2)
  have HF1 := hide (hf.on hb2)
  have HB2 := hide hb2
  have hmm := @run_makeMap Try.prog
  have HM := hide hM
  have HD := hide hD
  have hm24 := hM.1
  have hn : n = ns.length := by rw [← h.1]
  subst hn
  have hct := walk_comes ns ff
  have htw := walk_tw hM ff
  have HOK := hide (walk_ok ns ff)
  have hok := (walk_ok ns ff).le
  have HCT := hide hct
  obtain ⟨S', hS'⟩ : ∃ S', walkW ns ff = S' := ⟨_, rfl⟩
  have HWD := hide (fun W hh hh2 => walked_any (A := A) (F := F) (n := ns.length) (c := c) (k := k) (d := d) W (ns := ns) (ff := ff) hh hh2 hM hk)
  rw [hS'] at HWD HCT htw hok HOK ⊢
  obtain ⟨W2, hW2⟩ : ∃ W2, (w.alloc (.cells [Value.slice A ns.length c].toArray 24)).alloc (.cells [Value.slice none 0 0].toArray 24) = W2 := ⟨_, rfl⟩
  rw [hW2] at r0 r1 HB2 hs2 H1 HF1
  have hW2' : (w.alloc (.cells #[.slice A ns.length c] 24)).alloc (.cells #[.slice none 0 0] 24) = W2 := hW2
  have qb0 : W2.cell? ⟨w.heap.size, 0, none⟩ = some (.slice A ns.length c) := r0.cell 0
  have R0 := hide r0
  have R1 := hide r1
  clear h hf hct hS' hM hD r0 r1 hb2 hW2
  go_enter Try.func21, Try.ntmps21
  go_wp2_with (go_at_call 32; refine (HWD.out _ H1.out HF1.out).mono ?_; rintro e w3 ⟨g, b, rfl, hw3, hb3⟩; obtain ⟨hBg, hgl, hBb, hbl⟩ := hw3.lt; have HW3 := hide hw3; have HB3 := hide hb3; have hmb := below_new (below_self w3) (.map #[] 0); obtain ⟨A', n', c', A1, n1, c1', A2, n2, c2, -, -, h3, -, -, -, h7⟩ := hw3; have q3 : (w3.alloc (.map #[] 0)).cell? ⟨g, 3, none⟩ = some (.slice A2 n2 c2) := (h3.on hmb).cell 3; have H7 := hide h7; have HMB := hide (hb3.trans (hmb.mono hb3.size)); clear h3 h7 hb3 hmb)
  clear hmm
  have hn2 : n2 = S'.2.length := by have h8 := H7.out.1; rw [flatT_len] at h8; omega
  subst hn2
  clear q3 qb0
  go_loopw [21] (fun iv wr => ∃ j : Nat, j ≤ S'.2.length ∧ iv = .int .i64 j ∧ SetN wr w3.heap.size j (nameF S'.2 j) ∧ Below w3.heap.size w3 wr) (fun iv _ => S'.2.length - (intOf iv).toNat)
  case atStart => exact ⟨0, by omega, rfl, by rw [nameF_zero]; exact SetN.made w3, below_new (below_self w3) _⟩
  case round =>
    obtain ⟨j, hj, rfl, hsr, hbr⟩ := hrel
    have HSR := hide hsr
    have HBR := hide hbr
    have hbsz := hbr.size
    have hslt := hsr.lt
    clear hsr hbr
    by_cases hlt : j < S'.2.length
    · obtain ⟨q, hq⟩ : ∃ q, S'.2[j]? = some q := ⟨_, List.getElem?_eq_getElem hlt⟩
      obtain ⟨e, he, -⟩ := HCT.out q (List.mem_of_getElem? hq)
      have hqi : i64 q.1 ∧ i64 (q.2 : Int) := by
        have h16 := nodAt_ents HM.out q.1
        have hl2 := (List.getElem?_eq_some_iff.1 he).1
        have hin : inN ns q.1 = true := by
          cases hi : inN ns q.1 with
          | true => rfl
          | false =>
            have e0 : nodAt ns q.1 = nod0 := nodAt_out (by
              unfold inN at hi
              simp only [Bool.and_eq_false_iff, decide_eq_false_iff_not] at hi
              omega)
            rw [e0] at hl2
            simp [nod0] at hl2
        unfold inN at hin
        simp only [Bool.and_eq_true, decide_eq_true_eq] at hin
        unfold i64
        omega
      have HNS := hide (nameF_succ hq)
      have hcellq : ∃ g2, A2 = some ⟨g2, 0, none⟩ ∧ ∀ i v, (twC q)[i]? = some v → wr.cell? ⟨g2, j * 2 + i, none⟩ = some v := by
        rcases H7.out.2 with ⟨_, h0⟩ | ⟨g2, cap, cur, he2, _, hg2, _⟩
        · omega
        · simp only [Value.slice.injEq] at he2
          obtain ⟨rfl, -, rfl⟩ := he2
          refine ⟨g2, rfl, fun i v hv => ?_⟩
          have hi : i < 2 := by have := (List.getElem?_eq_some_iff.1 hv).1; simpa [twC] using this
          refine (HBR.out.cell (p := ⟨g2, j * 2 + i, none⟩) (heap_lt hg2)).trans ?_
          refine (World.ownsRow.cellAt (g := g2) H7.out (j * 2 + i) (by omega)).trans ?_
          rw [flatT_get hq hi]
          exact hv
      obtain ⟨g2, rfl, hcq⟩ := hcellq
      have HCQ := hide hcq
      have HZ := hide (RowL.new wr 78 [.int .i64 0, .int .i64 0])
      have hcap : S'.2.length ≤ c2 := by
        rcases H7.out.2 with ⟨_, h0⟩ | ⟨g2, cap, cur, he2, _, hg2, hle, _⟩
        · omega
        · simp only [Value.slice.injEq] at he2
          omega
      clear hcq hq he
      go_wp2_with (first | (refine wpList_loadX rfl 78 (.tmp 23) rfl 2 nam_agg nam_size g2 (j * 2) rfl (twC q) HCQ.out rfl ?_) | (refine wpList_storeW rfl 78 (.tmp 8) (.tmp 24) rfl 2 nam_size wr.heap.size 78 rfl [.int .i64 0, .int .i64 0] (twC q) rfl HZ.out rfl rfl (twC_one q) ?_; intro w4 hr4 hg4 hs4; have HB4 := hide (below_stored' hg4); have HR4 := hide hr4; have hs4b := hs4; obtain ⟨w5, hrun, hs5, hg5⟩ := (HSR.out.on (below_stored' hg4)).put hqi.1 hqi.2 (by simp only [maxLen]; omega); have HS5 := hide hs5; have HG5 := hide hg5; clear hr4 hg4 hs5 hg5) | (refine wpList_loadW rfl 78 (.tmp 8) rfl 2 nam_agg nam_size wr.heap.size 78 rfl (twC q) HR4.out rfl ?_) | (refine wpList_put rfl _ (.tmp 25) (.tmp 26) (.tmp 27) rfl _ _ _ rfl rfl rfl hrun ?_))
      have hs3 := HB4.out.size
      go_roundw
      case rel => exact ⟨j + 1, by omega, by go_num, by rw [HNS.out]; exact HS5.out, (HBR.out.trans (HB4.out.mono hbsz)).grown HG5.out (by omega) (fun k hk => by have := Option.some.inj hk; omega)⟩
      case measure => simp [intOf]; omega
    · obtain rfl : j = S'.2.length := by omega
      have hb23 := HB3.out.trans (HBR.out.mono HB3.out.size)
      have HB23 := hide hb23
      have HR0 := hide (R0.out.on hb23)
      have qb : wr.cell? ⟨w.heap.size, 0, none⟩ = some (.slice A ns.length c) := (R0.out.on hb23).cell 0
      clear hb23
      go_wp2_with (first | (refine wpList_make_N (B := W2.heap.size) rfl (.tmp 31) (.tmp 31) rfl _ _ ns.length rfl rfl rfl rfl (by omega) ?_; intro w4 hN4 hb4; have HN4 := hide hN4; have HB4 := hide hb4; clear hN4 hb4) | (go_at_call 35; refine (reach_any w4 ((HW3.out.on HBR.out).on HB4.out) HOK.out HM.out).mono ?_; rintro e w5 ⟨A5, n5, c5, rfl, hc5, hr5, hb5, hf5⟩; have HR5 := hide hr5; have HB5 := hide hb5; have HF5 := hide hf5; clear hr5 hb5 hf5))
      have hn5 : n5 = ns.length := by rw [← HR5.out.1, reachL_len]
      subst hn5
      have hlt4 := HN4.out.len
      clear qb
      have HGN := hide (HN4.out.on HB5.out)
      have HSM := hide ((HSR.out.on HB4.out).on HB5.out)
      have hs4 := HB4.out.size
      have hs5 := HB5.out.size
      have HB25 := hide ((HB23.out.trans (HB4.out.mono HB23.out.size)).trans (HB5.out.mono (by have := HB23.out.size; omega)))
      have hgN4 : wr.heap.size < w4.heap.size := by obtain ⟨cs, hcs, -⟩ := hlt4; exact hcs.lt
      generalize hgN : wr.heap.size = gN at *
      go_loopw [36] (fun iv wr => ∃ j : Nat, j ≤ ns.length ∧ iv = .int .i64 j ∧ NodesAt W2.heap.size gN (soFar ns S' j) wr ∧ SetN wr w3.heap.size S'.2.length (nameF S'.2 S'.2.length) ∧ Below W2.heap.size W2 wr ∧ w5.heap.size ≤ wr.heap.size ∧ (∀ b o, A5 = some ⟨b, o, none⟩ → ∀ i x, (reachL ns S'.1)[i]? = some x → wr.cell? ⟨b, o + i, none⟩ = some (.bool x))) (fun iv _ => ns.length - (intOf iv).toNat)
      case atStart => exact ⟨0, by omega, rfl, by rw [soFar_zero]; exact HGN.out, HSM.out, HB25.out, Nat.le_refl _, fun b o e i x hx => by
        obtain ⟨b', o', e', -, hc⟩ := HR5.out.2 (by have := (List.getElem?_eq_some_iff.1 hx).1; rw [reachL_len] at this; omega)
        rw [e'] at e
        cases e
        exact hc i x hx⟩
      case round =>
        obtain ⟨j, hj, rfl, hN, hS, hB, hsz, hC⟩ := hrel
        have hBsz := hB.size
        have hgv : gN < wr.heap.size := by omega
        have hgW : W2.heap.size ≤ gN := by have := HB23.out.size; omega
        have HN := hide hN
        have HS := hide hS
        have HBV := hide hB
        have HC := hide hC
        clear hN hS hB hC
        by_cases hlt : j < ns.length
        · obtain ⟨x, hx⟩ : ∃ x, ns[j]? = some x := ⟨_, List.getElem?_eq_getElem hlt⟩
          obtain ⟨gB, oB, e5, hgB, -⟩ := HR5.out.2 (by omega)
          have hfB := HF5.out gB oB e5
          have qB := HC.out gB oB e5 j _ (reachL_get HOK.out hlt)
          subst e5
          have hsl := soFar_len (s := S') (ns := ns) (k := j) (by omega)
          cases hr : reachW ns S'.1 ((j : Int) + 1) with
          | false =>
            rw [hr] at qB
            have HSK := hide (soFar_skip (s := S') hx hr)
            clear hx
            go_wp2
            go_roundw
            case rel => exact ⟨j + 1, by omega, by go_num, by rw [HSK.out]; exact HN.out, HS.out, HBV.out, by omega, HC.out⟩
            case measure => simp [intOf]; omega
          | true =>
            rw [hr] at qB
            have qb : wr.cell? ⟨w.heap.size, 0, none⟩ = some (.slice A ns.length c) := (R0.out.on HBV.out).cell 0
            obtain ⟨b1, o1, cs, rfl, hb1, hNd, hc1⟩ := (H1.out.under HBV.out (Nat.le_refl _)).get_nod hx
            obtain ⟨D1, n1, c1, C1, m1, d1, rfl, e2, e3, e4, e5⟩ := hNd
            have hmem := List.mem_of_getElem? hx
            have hn1 : n1 ≤ 1000 := by rw [← e3.1]; exact HD.out x hmem
            have hm1 : m1 ≤ 16 := by rw [← e5.1]; exact HM.out.2 x hmem
            have HSK := hide (show soFar ns S' (j + 1) = (soFar ns S' j).set j { x with ents := keepF (nameF S'.2 S'.2.length) ((j : Int) + 1) x.ents m1 } from by
              rw [soFar_succ hx, hr, ← e5.1, keepF_all]
              rfl)
            have HC1 := hide hc1
            have E3 := hide (e3.mono (fun _ _ => rfl) (fun b hb => Nat.lt_of_lt_of_le hb hBsz) : RdE Enc.byte wr (Under wr.heap.size) D1 n1 x.data)
            have E5 := hide (e5.mono (fun _ _ => rfl) (fun b hb => Nat.lt_of_lt_of_le hb hBsz) : RdE entEn wr (Under wr.heap.size) C1 m1 x.ents)
            have hw1 : IntKind.i64.wrap ((j : Int) + 1) = (j : Int) + 1 := IntWalk.i64_in _ (by omega)
            clear hx hc1 e3 e5
            go_wp2_with (first | (refine wpList_loadX rfl 64 (.tmp 49) rfl 13 nod_agg nod_size b1 (o1 + j * 13) rfl (nodC x (.slice D1 n1 c1) (.slice C1 m1 d1)) HC1.out rfl ?_) | (go_at_call 39; refine (without_any wr E3.out e4 E5.out HS.out (show i64 ((j : Int) + 1) by unfold i64; omega) hn1 hm1).mono ?_; rintro e w7 ⟨A7, n7, c7, C7, m7, d7, rfl, hc7, h7, hd7, h8, hb7⟩; obtain ⟨cur, hcur, hcurl⟩ := (HN.out.on hb7).len; have HB7 := hide hb7; have H7B := hide h7; have H8 := hide h8; have HCUR := hide hcur; clear h7 h8 hb7 hcur) | (refine wpList_storeC rfl 64 (.tmp 53) (.tmp 52) rfl 13 nod_size gN (j * 13) 64 rfl cur (nodC { x with ents := keepF (nameF S'.2 S'.2.length) ((j : Int) + 1) x.ents m1 } (.slice A7 n7 c7) (.slice C7 m7 d7)) rfl HCUR.out rfl (by omega) (nodC_one _ _ _ _ _ _ _) ?_; intro w8 hr8 hg8 hs8; have HR8 := hide hr8; have HG8 := hide hg8; clear hr8 hg8))
            have hs7 := HB7.out.size
            go_roundw
            case rel => exact ⟨j + 1, by omega, by go_num, by rw [HSK.out]; exact (HN.out.on HB7.out).put (by omega) ⟨A7, n7, c7, C7, m7, d7, rfl, hc7, H7B.out.mono (fun _ _ => rfl) (fun b hb => ⟨by omega, hb.2, by omega⟩), hd7, H8.out.mono (fun _ _ => rfl) (fun b hb => ⟨by omega, hb.2, by omega⟩)⟩ HCUR.out HR8.out HG8.out, (HS.out.on HB7.out).kept HG8.out (fun e => by have := Option.some.inj e; omega), (HBV.out.trans (HB7.out.mono hBsz)).grown HG8.out (by omega) (fun k hk => by have := Option.some.inj hk; omega), by omega, fun b o e i y hy => by
              cases e
              exact (cell_same (HG8.out.block gB (by omega) (fun e => by have := Option.some.inj e; omega))).trans ((HB7.out.cell (p := ⟨gB, oB + i, none⟩) (by show gB < _; omega)).trans (HC.out gB oB rfl i y hy))⟩
            case measure => simp [intOf]; omega
        · obtain rfl : j = ns.length := by omega
          go_wp2_with (refine wpList_storeW rfl 24 (.tmp 4) (.tmp 56) rfl 1 lay_size (w.heap.size + 1) 24 rfl [.slice none 0 0] [.slice (some ⟨gN, 0, none⟩) ns.length ns.length] rfl (R1.out.on HBV.out) rfl rfl (by simp [Value.oneCell']) ?_; intro w9 hr9 hg9 hs9; have HR9 := hide hr9; have HG9 := hide hg9; clear hr9 hg9)
          have hRD := HN.out.rd hgW (soFar_len (by omega))
          rw [soFar_all] at hRD
          exact bodyPost_ret (res_cell Try.results21 rfl lay_agg lay_size HR9.out rfl) rfl ⟨some ⟨gN, 0, none⟩, ns.length, ns.length, rfl, Nat.le_refl _, hRD.mono (fun b hb => HG9.out.block b hb.2 (fun e => by have := Option.some.inj e; omega)) (fun b hb => ⟨by omega, by omega⟩), (HB2.out.trans (HBV.out.mono HB2.out.size)).grown HG9.out (by have := HB2.out.size; omega) (fun k hk => by have := Option.some.inj hk; omega)⟩
end Go.Proofs.Ytalhkcheglbolaa
