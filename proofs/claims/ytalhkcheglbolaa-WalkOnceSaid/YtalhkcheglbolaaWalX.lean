/- The law WalkOnce: its walk (layer 13). -/
import Derived.Test.YtalhkcheglbolaaWalW
import Derived.Test.YtalhkcheglbolaaPlanG
import Derived.Deep.Cut
import Derived.Deep.CutRange
namespace Go.Proofs.Ytalhkcheglbolaa
open Go.RowKit Go.Shelf Plain

theorem wp_append_RdW {α : Type} {f : α → Value} {P : Program} (w : World) {o : Oper} {a : Act} {K : Act → World → Prop} {Q : Exit → Act → World → Prop} (s x : Operand) (t : TypeId)
    (ho : o.op = .call { callee := .builtin .append, args := #[s, x], argTypes := #[t, t] })
    (base : Nat) (e : TypeId) (z : Value) (k : Nat) (ht : P.underlying t = some (.slice e)) (hinfo : (P.info? e).map (fun i => (i.zero, i.size, i.bytes)) = some (some z, 1, k)) (hzs : z.cells.size = 1)
    (h1 : ∀ x, (f x).oneCell' = true)
    (A0 : Option Addr) (n c0 : Nat) (l0 : List α) (hs : a.eval s = .slice A0 n c0) (hown : Ow f w base e A0 n c0 l0) (B : Nat) (A : Option Addr) (m c : Nat) (l1 : List α) (hx : a.eval x = .slice A m c) (hb : Rd f w B A m l1)
    (N : Nat) (hN : n + m = N) (hbytes : N * k ≤ 140737488355328) (hnm : N ≤ 140737488355328) (hbase : base ≤ w.heap.size)
    (h : ∀ A' c' w', Ow f w' base e A' N c' (l0 ++ l1) → Below base w w' → K (a.put o.dst (.slice A' N c')) w') : o.wp P a w K Q := by
  subst hN
  obtain ⟨v', w', hr, h2, h3⟩ := run_append_Rd (P := P) w base t o.type e z k ht hinfo hzs h1 _ n l0 hown B A m c l1 hb hbytes hnm hbase
  unfold Oper.wp execOp
  simp only [ho, resolve, invoke, builtin, Sem.run_bind, Sem.run_pure, Result.andThen_ok, List.map_toArray, List.map_cons, List.map_nil, hs, hx, hr]
  obtain ⟨A', c', rfl, h4⟩ := Ow.of h2
  exact h A' c' w' h4 h3
set_option maxRecDepth 100000 in
set_option maxHeartbeats 16000000 in
theorem law_WalkOnce {A F : Option Addr} {n c k d : Nat} {ns : List NodV} {ff : List Int} (more : Int) (w : World) (h : RdE nodEn w (Under w.heap.size) A n ns) (hf : RdE Enc.int w (Under w.heap.size) F k ff) (hfine : ∀ x ∈ ns, x.ents.length ≤ 9223372036854775807) :
    Calls Try.prog 6 #[.agg #[.slice A n c], .slice F k d, .int .i64 more] w (LawOk w) := by
  have r := RowL.new w 24 [.slice A n c]
  have hb1 := below_new (below_self w) (.cells [Value.slice A n c].toArray 24)
  obtain ⟨W1, hW1⟩ : ∃ W1, w.alloc (.cells [Value.slice A n c].toArray 24) = W1 := ⟨_, rfl⟩
  have H0 := h.on hb1
  have F0 := hf.on hb1
  have HLN := hide h.1
  have HFL := hide hf.1
  rw [hW1] at r hb1 H0 F0
  have hW1' : w.alloc (.cells #[.slice A n c] 24) = W1 := hW1
  have q1 : W1.cell? ⟨w.heap.size, 0, none⟩ = some (.slice A n c) := r.cell 0
  have HG1 := hide r.lt
  have R1 := hide r
  have HB1 := hide hb1
  have HN1 := hide H0
  have HF1 := hide F0
  have HFINE := hide hfine
  clear r hb1 H0 F0 hW1 h hf hfine
  go_enter Try.func6, Try.ntmps6
  go_wp2_with fail
  clear hW1'
  refine (PBranch_any W1 HN1.out (by omega) HFINE.out).mono ?_
  rintro e w2 ⟨p, rfl, hb2, hp⟩
  have HP := hide hp
  have HB2 := hide (HB1.out.trans (hb2.mono HB1.out.size))
  have HN2 := hide (HN1.out.on hb2)
  have HF2 := hide (HF1.out.on hb2)
  have R2 := hide (R1.out.on hb2)
  clear hp hb2 q1 HN1 HF1 R1 HFINE HG1
  cases p
  · go_wp2_with fail
    refine (awake13_any _).mono ?_
    rintro e wz ⟨rfl, hbz⟩
    have HBZ := hide (HB2.out.trans (hbz.mono HB2.out.size))
    clear hbz
    go_wp2_with fail
    go_ret
    exact LawOk.of HBZ.out
  obtain ⟨hn24, hpl⟩ := HP.out (by first | rfl | trivial)
  by_cases hk : (10 : Int) < (k : Int)
  · have dk : decide ((10 : Int) < (k : Int)) = true := decide_eq_true hk
    clear hpl
    go_wp2_with fail
    refine (awake13_any _).mono ?_
    rintro e wz ⟨rfl, hbz⟩
    have HBZ := hide (HB2.out.trans (hbz.mono HB2.out.size))
    clear hbz
    go_wp2_with fail
    go_ret
    exact LawOk.of HBZ.out
  have dk : decide ((10 : Int) < (k : Int)) = false := decide_eq_false hk
  have hk10 : k ≤ 10 := by omega
  have hn24' : n ≤ 24 := by omega
  have hMD := plain_many (by rw [HLN.out]; exact hn24') hpl
  have HM := hide hMD.1
  clear HP hpl hMD hn24 hk
  have q2 : w2.cell? ⟨w.heap.size, 0, none⟩ = some (.slice A n c) := R2.out.cell 0
  go_wp2_with fail
  refine (Dirs_any w2 HN2.out HF2.out HM.out (by omega)).mono ?_
  have hok := walk_ok ns ff
  have hup := walk_up ns ff
  have hpre : (walkW ns ff).1 <+: (walkW ns (ff ++ [more])).1 := by rw [walk_snoc]; exact root_pre
  have HREL := hide (fun j (hj : j < ns.length) => reachL_get hok hj)
  have HREL2 := hide (fun j (hj : j < ns.length) => reachL_get (walk_ok ns (ff ++ [more])) hj)
  have hDL := fun (W : World) {A' : Option Addr} {c' : Nat} (h1 : RdE nodEn W (Under W.heap.size) A n ns) (h2 : RdE Enc.int W (Under W.heap.size) A' (k + 1) (ff ++ [more])) => Dirs_any (c := c) (d := c') W h1 h2 HM.out (by omega)
  obtain ⟨L2, hL2⟩ : ∃ L2, (walkW ns (ff ++ [more])).1 = L2 := ⟨_, rfl⟩
  obtain ⟨L, hL⟩ : ∃ L, (walkW ns ff).1 = L := ⟨_, rfl⟩
  rw [hL] at hok hup hpre
  rw [hL2] at hpre
  rw [hL2] at hDL
  rw [hL] at HREL
  rw [hL2] at HREL2
  have HDL := hide hDL
  clear hDL
  rw [hL]
  rintro e w3 ⟨A3, n3, c3, rfl, hc3, h3, hb3⟩
  have HOK := hide hok
  have HUP := hide hup
  have HPRE := hide hpre
  have HL := hide hL
  have HL2 := hide hL2
  have hLle : L.length ≤ 24 := by have := hok.le; have := HLN.out; omega
  have hl3 := h3.1
  have HB3 := hide (HB2.out.trans (hb3.mono HB2.out.size))
  have HN3 := hide (HN2.out.on hb3)
  have HF3 := hide (HF2.out.on hb3)
  have R3 := hide (R2.out.on hb3)
  have HW3 := hide (h3.mono (fun _ _ => rfl) (fun b hb => hb.2) : RdE wayEn w3 (Under w3.heap.size) A3 n3 L)
  clear hok hup hpre hL hL2 h3 hb3 q2 HN2 HF2 R2 HB2
  go_wp2_with fail
  go_loopw [28] (fun iv wr => ∃ j : Nat, j ≤ n3 ∧ iv = .int .i64 j ∧ Below w3.heap.size w3 wr) (fun iv _ => n3 - (intOf iv).toNat)
  case atStart => exact ⟨0, by omega, rfl, below_self _⟩
  case round =>
    obtain ⟨j, hj, rfl, hbr⟩ := hrel
    have HBR := hide hbr
    have hbsz := hbr.size
    have hgr : w.heap.size < wr.heap.size := (R3.out.on hbr).lt
    clear hbr
    by_cases hlt : j < n3
    · obtain ⟨y, hy⟩ : ∃ y, L[j]? = some y := ⟨_, List.getElem?_eq_getElem (by omega)⟩
      have hin := isDir_in (HOK.out.1 y (List.mem_of_getElem? hy))
      have hupy := HUP.out j y hy
      have HAP := hide (take_apart HOK.out hy)
      obtain ⟨b, o, hA3, hbB, hc⟩ := way_get (HW3.out.under HBR.out (Nat.le_refl _)) hy
      subst hA3
      have HC := hide hc
      have HZ := hide (RowL.new wr 33 [.int .i64 0, .int .i64 0, .string ⟨#[]⟩])
      have HMEM := hide hupy.2
      have HYI := hide hin
      have HYU := hide hupy.1
      have hjc : j ≤ c3 := by omega
      clear hc hy hin hupy
      go_wp2_with (first | (refine wpList_loadX rfl 33 (.tmp 31) rfl 3 way_agg way_size b (o + j * 3) rfl (wayC y) HC.out rfl ?_) | (refine wpList_storeW rfl 33 (.tmp 9) (.tmp 32) rfl 3 way_size wr.heap.size 33 rfl [.int .i64 0, .int .i64 0, .string ⟨#[]⟩] (wayC y) rfl HZ.out rfl rfl (wayC_one y) ?_; intro w4 hr4 hg4 hs4; have HB4 := hide (below_stored' hg4); have HR4 := hide hr4; clear hr4 hg4 hs4))
      have hb4 := HBR.out.trans (HB4.out.mono hbsz)
      refine (WHas_any (v := y.ino) (l := L.take j) w4 ((HW3.out.on hb4).pre (by omega)) (HR4.out.cell 0) HR4.out.lt HAP.out (by omega)).mono ?_
      rintro e w5 ⟨rfl, hb5⟩
      have hb45 := hb4.trans (hb5.mono (Nat.le_trans hbsz HB4.out.size))
      have HB5 := hide hb45
      have p0 : w5.cell? ⟨wr.heap.size, 0, none⟩ = some (.int .i64 y.ino) := (HR4.out.on hb5).cell 0
      have p1 : w5.cell? ⟨wr.heap.size, 1, none⟩ = some (.int .i64 y.up) := (HR4.out.on hb5).cell 1
      have p3 : w5.cell? ⟨w.heap.size, 0, none⟩ = some (.slice A n c) := (R3.out.on hb45).cell 0
      have d1 : decide ((j : Int) ≤ y.up) = false := decide_eq_false (by have := HYU.out; omega)
      have d2 : decide (y.ino < 1) = false := decide_eq_false (by have := HYI.out; omega)
      have d3 : decide ((n : Int) < y.ino) = false := decide_eq_false (by have := HYI.out; have := HLN.out; omega)
      clear hb4 hb5 hb45
      by_cases hu : y.up < 0
      · have d4 : decide (y.up < 0) = true := decide_eq_true hu
        have HMM := hide (HMEM.out hu)
        clear hu
        go_wp2_with fail
        refine (IHas_any w5 (HF3.out.on HB5.out) HMM.out (by omega)).mono ?_
        rintro e w6 ⟨rfl, hb6⟩
        have HB6 := hide (HB5.out.trans (hb6.mono HB5.out.size))
        clear hb6
        go_wp2_with fail
        go_roundw
        case rel => exact ⟨j + 1, by omega, by go_num, HB6.out⟩
        case measure => simp [intOf]; omega
      · have d4 : decide (y.up < 0) = false := decide_eq_false hu
        clear hu
        go_wp2_with fail
        go_roundw
        case rel => exact ⟨j + 1, by omega, by go_num, HB5.out⟩
        case measure => simp [intOf]; omega
    · obtain rfl : j = n3 := by omega
      go_upto_region 10 with fail
      have qb : wr.cell? ⟨w.heap.size, 0, none⟩ = some (.slice A n c) := (R3.out.on HBR.out).cell 0
      have HG0 := hide hgr
      have HNA := hide (HN3.out.on HBR.out)
      have HFA := hide (HF3.out.on HBR.out)
      go_cut [10, 11] from 70 to 79 (fun v10 v11 wx => ∃ B1 c1 B2 c2, v10 = .slice B1 n c1 ∧ v11 = .slice B2 n c2 ∧ Rd Value.bool wx wx.heap.size B1 n (reachL ns (walkW ns ff).1) ∧ Rd Value.bool wx wx.heap.size B2 n (reachL ns (walkW ns (ff ++ [more])).1) ∧ Below wr.heap.size wr wx)
      case first =>
        refine wp_region_G (fun w' => Below wr.heap.size wr w' ∧ w'.cell? ⟨w.heap.size, 0, none⟩ = some (.slice A n c)) (.take 0 (.take 1 (.take 3 (.take 4 (.take 6 (.alt 2 (.alt 5 (.alt 7 (.alt 8 (.alt 9 (.take 10 (.take 11 .leaf)) .stop) .stop) .stop) (.alt 7 (.alt 5 (.alt 8 (.alt 9 (.take 10 (.take 11 .leaf)) .stop) .stop) .stop) .stop)) (.alt 7 (.alt 2 (.alt 5 (.alt 8 (.alt 9 (.take 10 (.take 11 .leaf)) .stop) .stop) .stop) .stop) .stop))))))) (by kernel_rfl) (by kernel_rfl) (by kernel_rfl) (by kernel_rfl) rfl (fun _ _ _ _ _ h => h) ⟨below_drew (below_self wr), qb⟩ (fun hHeld => ?_)
        clear qb
        generalize wr.drew = wd at *
        simp only [PT.map, List.getElem?_toArray, List.getElem?_cons_succ, List.getElem?_cons_zero]
        refine wpPT_take (v := ?_) (by kernel_rfl) (fun wS hSw => ?_) ?_
        rotate_left
        · (try dsimp only at hSw); go_simp; (try with_reducible rfl)
        (try simp only [Act.put, List.setIfInBounds_toArray, List.set_cons_zero, List.set_cons_succ])
        refine wpPT_take (v := ?_) (by kernel_rfl) (fun wS hSw => ?_) ?_
        rotate_left
        · (try dsimp only at hSw); go_simp; (try with_reducible rfl)
        (try simp only [Act.put, List.setIfInBounds_toArray, List.set_cons_zero, List.set_cons_succ])
        refine wpPT_take (v := ?_) (by kernel_rfl) (fun wS hSw => ?_) ?_
        rotate_left
        · (try dsimp only at hSw); go_simp; (try with_reducible rfl)
        (try simp only [Act.put, List.setIfInBounds_toArray, List.set_cons_zero, List.set_cons_succ])
        refine wpPT_take (v := ?_) (by kernel_rfl) (fun wS hSw => ?_) ?_
        rotate_left
        · (try dsimp only at hSw); go_simp; (try with_reducible rfl)
        (try simp only [Act.put, List.setIfInBounds_toArray, List.set_cons_zero, List.set_cons_succ])
        refine wpPT_take (v := ?_) (by kernel_rfl) (fun wS hSw => ?_) ?_
        rotate_left
        · (try dsimp only at hSw); go_simp; (try with_reducible rfl)
        (try simp only [Act.put, List.setIfInBounds_toArray, List.set_cons_zero, List.set_cons_succ])
        refine wpPT_alt (by kernel_rfl) (fun K hK => ?_) ?_
        · skip
          have hOld := hide hHeld
          clear hHeld
          go_simp
          go_at_call 16
          refine (Reach_any _ (HNA.out.on hOld.out.1) (HFA.out.on hOld.out.1) HM.out (by omega)).mono ?_
          rintro e w' ⟨B1, n1, c1, rfl, hc1, hr1, hb1, -⟩
          have hb' := hb1.mono (B' := wr.heap.size) hOld.out.1.size
          obtain rfl : n = n1 := by rw [← hr1.1, reachL_len]; exact HLN.out.symm
          have HR := hide hr1
          clear hr1 hb1 hc1
          generalize w' = x0 at *
          refine hK.out _ _ (⟨hOld.out.1.trans hb', (hb'.cell (p := ⟨w.heap.size, 0, none⟩) HG0.out).trans hOld.out.2⟩) (fun hHeld => ?_)
          clear hK K
          (try simp only [Act.put, List.setIfInBounds_toArray, List.set_cons_zero, List.set_cons_succ])
          refine wpPT_alt (by kernel_rfl) (fun K hK => ?_) ?_
          · skip
            have hOld := hide hHeld
            clear hHeld
            go_simp
            go_at_call 27
            refine (IClone_any _ (HFA.out.on hOld.out.1).rdI (by omega)).mono ?_
            rintro e w' ⟨A5, c5, rfl, ho5, hb5⟩
            have hb' := hb5.mono (B' := wr.heap.size) hOld.out.1.size
            have hbase := hOld.out.1.size
            have hcs := hb5.size
            have HC := hide ho5
            have HR' := hide (HR.out.below hb5)
            clear HR
            have HR := HR'
            clear HR'
            clear ho5 hb5
            generalize w' = x1 at *
            refine hK.out _ _ (⟨hOld.out.1.trans hb', (hb'.cell (p := ⟨w.heap.size, 0, none⟩) HG0.out).trans hOld.out.2⟩) (fun hHeld => ?_)
            clear hK K
            (try simp only [Act.put, List.setIfInBounds_toArray, List.set_cons_zero, List.set_cons_succ])
            refine wpPT_alt (by kernel_rfl) (fun K hK => ?_) ?_
            rotate_left
            · exact wpPT_stop
            have hOld := hide hHeld
            clear hHeld
            unfold Oper.wp execOp
            go_simp
            have hal := below_new (below_self x1) (.cells #[.int .i64 more] 3)
            have hb' := hal.mono (B' := wr.heap.size) hOld.out.1.size
            have HTN := hide ((Rd.one (f := iV) x1 3 (u := .int .i64 more) (x := more) rfl).more (by simp) : Rd iV (x1.alloc (.cells #[.int .i64 more] 3)) (x1.alloc (.cells #[.int .i64 more] 3)).heap.size (some ⟨x1.heap.size, 0, none⟩) 1 [more])
            refine hK.out _ _ (⟨hOld.out.1.trans hb', (hb'.cell (p := ⟨w.heap.size, 0, none⟩) HG0.out).trans hOld.out.2⟩) (fun hHeld => ?_)
            clear hK K
            have HC' := hide (HC.out.alloc (.cells #[.int .i64 more] 3))
            clear HC
            have HC := HC'
            clear HC'
            have HR' := hide (HR.out.below (hal.mono hcs))
            clear HR
            have HR := HR'
            clear HR'
            have hcs' : x0.heap.size ≤ (x1.alloc (.cells #[.int .i64 more] 3)).heap.size := Nat.le_trans hcs hal.size
            clear hcs
            have hcs := hcs'
            clear hcs'
            have HT := HTN
            clear hal HTN
            obtain ⟨AT, hAT⟩ : ∃ AT, (some ⟨x1.heap.size, 0, none⟩ : Option Addr) = AT := ⟨_, rfl⟩
            rw [hAT] at HT ⊢
            clear hAT
            generalize x1.alloc (.cells #[.int .i64 more] 3) = x2 at *
            (try simp only [Act.put, List.setIfInBounds_toArray, List.set_cons_zero, List.set_cons_succ])
            refine wpPT_alt (by kernel_rfl) (fun K hK => ?_) ?_
            rotate_left
            · exact wpPT_stop
            have hOld := hide hHeld
            clear hHeld
            refine wp_append_RdW x2 (.tmp 75) (.tmp 77) 25 rfl x0.heap.size 3 (.int .i64 0) 8 Try.underlying25 intw_info rfl (fun _ => rfl) A5 k c5 ff rfl HC.out _ AT 1 1 [more] rfl HT.out (k + 1) rfl (by omega) (by omega) hcs ?_
            intro A8 c8 x3 ho8 hb8
            have hb' := hb8.mono (B' := wr.heap.size) hbase
            have HO8 := hide ho8
            refine hK.out _ _ (⟨hOld.out.1.trans hb', (hb'.cell (p := ⟨w.heap.size, 0, none⟩) HG0.out).trans hOld.out.2⟩) (fun hHeld => ?_)
            clear hK K
            have HR' := hide (HR.out.below hb8)
            clear HR
            have HR := HR'
            clear HR'
            have hsz8 := hb8.size
            clear ho8 hb8
            (try simp only [Act.put, List.setIfInBounds_toArray, List.set_cons_zero, List.set_cons_succ])
            refine wpPT_alt (by kernel_rfl) (fun K hK => ?_) ?_
            rotate_left
            · exact wpPT_stop
            have hOld := hide hHeld
            clear hHeld
            go_simp
            go_at_call 16
            refine (Reach_any _ (HNA.out.on hOld.out.1) HO8.out.rd.rdeI HM.out (by omega)).mono ?_
            rintro e w' ⟨B2, n2, c2, rfl, hc2, hr2, hbZ, -⟩
            have hb' := hbZ.mono (B' := wr.heap.size) hOld.out.1.size
            obtain rfl : n = n2 := by rw [← hr2.1, reachL_len]; exact HLN.out.symm
            have HR2 := hide hr2
            have HR1 := hide ((HR.out.below (hbZ.mono (Nat.le_trans hcs hsz8))).more (Nat.le_trans (Nat.le_trans hcs hsz8) hbZ.size))
            clear hr2 hbZ
            generalize w' = x4 at *
            refine hK.out _ _ (⟨hOld.out.1.trans hb', (hb'.cell (p := ⟨w.heap.size, 0, none⟩) HG0.out).trans hOld.out.2⟩) (fun hHeld => ?_)
            clear hK K
            (try simp only [Act.put, List.setIfInBounds_toArray, List.set_cons_zero, List.set_cons_succ])
            refine wpPT_take (v := ?_) (by kernel_rfl) (fun wS hSw => ?_) ?_
            rotate_left
            · (try dsimp only at hSw); go_simp; (try with_reducible rfl)
            (try simp only [Act.put, List.setIfInBounds_toArray, List.set_cons_zero, List.set_cons_succ])
            refine wpPT_take (v := ?_) (by kernel_rfl) (fun wS hSw => ?_) ?_
            rotate_left
            · (try dsimp only at hSw); go_simp; (try with_reducible rfl)
            (try simp only [Act.put, List.setIfInBounds_toArray, List.set_cons_zero, List.set_cons_succ])
            refine wpPT_leaf ?_
            have HBX := hide hHeld.1
            clear hHeld hOld
            go_wp2_with fail
            go_meet
            case rel => exact ⟨B1, c1, B2, c2, rfl, rfl, HR1.out, HR2.out, HBX.out⟩
          refine wpPT_alt (by kernel_rfl) (fun K hK => ?_) ?_
          · skip
            have hOld := hide hHeld
            clear hHeld
            unfold Oper.wp execOp
            go_simp
            have hal := below_new (below_self x0) (.cells #[.int .i64 more] 3)
            have hb' := hal.mono (B' := wr.heap.size) hOld.out.1.size
            have HTN := hide ((Rd.one (f := iV) x0 3 (u := .int .i64 more) (x := more) rfl).more (by simp) : Rd iV (x0.alloc (.cells #[.int .i64 more] 3)) (x0.alloc (.cells #[.int .i64 more] 3)).heap.size (some ⟨x0.heap.size, 0, none⟩) 1 [more])
            refine hK.out _ _ (⟨hOld.out.1.trans hb', (hb'.cell (p := ⟨w.heap.size, 0, none⟩) HG0.out).trans hOld.out.2⟩) (fun hHeld => ?_)
            clear hK K
            have HR' := hide (HR.out.on hal)
            clear HR
            have HR := HR'
            clear HR'
            have HT := HTN
            clear hal HTN
            obtain ⟨AT, hAT⟩ : ∃ AT, (some ⟨x0.heap.size, 0, none⟩ : Option Addr) = AT := ⟨_, rfl⟩
            rw [hAT] at HT ⊢
            clear hAT
            generalize x0.alloc (.cells #[.int .i64 more] 3) = x1 at *
            (try simp only [Act.put, List.setIfInBounds_toArray, List.set_cons_zero, List.set_cons_succ])
            refine wpPT_alt (by kernel_rfl) (fun K hK => ?_) ?_
            rotate_left
            · exact wpPT_stop
            have hOld := hide hHeld
            clear hHeld
            go_simp
            go_at_call 27
            refine (IClone_any _ (HFA.out.on hOld.out.1).rdI (by omega)).mono ?_
            rintro e w' ⟨A5, c5, rfl, ho5, hb5⟩
            have hb' := hb5.mono (B' := wr.heap.size) hOld.out.1.size
            have hbase := hOld.out.1.size
            have hcs := hb5.size
            have HC := hide ho5
            have HT' := hide (HT.out.on hb5)
            clear HT
            have HT := HT'
            clear HT'
            have HR' := hide (HR.out.below hb5)
            clear HR
            have HR := HR'
            clear HR'
            clear ho5 hb5
            generalize w' = x2 at *
            refine hK.out _ _ (⟨hOld.out.1.trans hb', (hb'.cell (p := ⟨w.heap.size, 0, none⟩) HG0.out).trans hOld.out.2⟩) (fun hHeld => ?_)
            clear hK K
            (try simp only [Act.put, List.setIfInBounds_toArray, List.set_cons_zero, List.set_cons_succ])
            refine wpPT_alt (by kernel_rfl) (fun K hK => ?_) ?_
            rotate_left
            · exact wpPT_stop
            have hOld := hide hHeld
            clear hHeld
            refine wp_append_RdW x2 (.tmp 75) (.tmp 77) 25 rfl x1.heap.size 3 (.int .i64 0) 8 Try.underlying25 intw_info rfl (fun _ => rfl) A5 k c5 ff rfl HC.out _ AT 1 1 [more] rfl HT.out (k + 1) rfl (by omega) (by omega) hcs ?_
            intro A8 c8 x3 ho8 hb8
            have hb' := hb8.mono (B' := wr.heap.size) hbase
            have HO8 := hide ho8
            refine hK.out _ _ (⟨hOld.out.1.trans hb', (hb'.cell (p := ⟨w.heap.size, 0, none⟩) HG0.out).trans hOld.out.2⟩) (fun hHeld => ?_)
            clear hK K
            have HR' := hide (HR.out.below hb8)
            clear HR
            have HR := HR'
            clear HR'
            have hsz8 := hb8.size
            clear ho8 hb8
            (try simp only [Act.put, List.setIfInBounds_toArray, List.set_cons_zero, List.set_cons_succ])
            refine wpPT_alt (by kernel_rfl) (fun K hK => ?_) ?_
            rotate_left
            · exact wpPT_stop
            have hOld := hide hHeld
            clear hHeld
            go_simp
            go_at_call 16
            refine (Reach_any _ (HNA.out.on hOld.out.1) HO8.out.rd.rdeI HM.out (by omega)).mono ?_
            rintro e w' ⟨B2, n2, c2, rfl, hc2, hr2, hbZ, -⟩
            have hb' := hbZ.mono (B' := wr.heap.size) hOld.out.1.size
            obtain rfl : n = n2 := by rw [← hr2.1, reachL_len]; exact HLN.out.symm
            have HR2 := hide hr2
            have HR1 := hide ((HR.out.below (hbZ.mono (Nat.le_trans hcs hsz8))).more (Nat.le_trans (Nat.le_trans hcs hsz8) hbZ.size))
            clear hr2 hbZ
            generalize w' = x4 at *
            refine hK.out _ _ (⟨hOld.out.1.trans hb', (hb'.cell (p := ⟨w.heap.size, 0, none⟩) HG0.out).trans hOld.out.2⟩) (fun hHeld => ?_)
            clear hK K
            (try simp only [Act.put, List.setIfInBounds_toArray, List.set_cons_zero, List.set_cons_succ])
            refine wpPT_take (v := ?_) (by kernel_rfl) (fun wS hSw => ?_) ?_
            rotate_left
            · (try dsimp only at hSw); go_simp; (try with_reducible rfl)
            (try simp only [Act.put, List.setIfInBounds_toArray, List.set_cons_zero, List.set_cons_succ])
            refine wpPT_take (v := ?_) (by kernel_rfl) (fun wS hSw => ?_) ?_
            rotate_left
            · (try dsimp only at hSw); go_simp; (try with_reducible rfl)
            (try simp only [Act.put, List.setIfInBounds_toArray, List.set_cons_zero, List.set_cons_succ])
            refine wpPT_leaf ?_
            have HBX := hide hHeld.1
            clear hHeld hOld
            go_wp2_with fail
            go_meet
            case rel => exact ⟨B1, c1, B2, c2, rfl, rfl, HR1.out, HR2.out, HBX.out⟩
          exact wpPT_stop
        refine wpPT_alt (by kernel_rfl) (fun K hK => ?_) ?_
        · skip
          have hOld := hide hHeld
          clear hHeld
          unfold Oper.wp execOp
          go_simp
          have hal := below_new (below_self wd) (.cells #[.int .i64 more] 3)
          have hb' := hal.mono (B' := wr.heap.size) hOld.out.1.size
          have HTN := hide ((Rd.one (f := iV) wd 3 (u := .int .i64 more) (x := more) rfl).more (by simp) : Rd iV (wd.alloc (.cells #[.int .i64 more] 3)) (wd.alloc (.cells #[.int .i64 more] 3)).heap.size (some ⟨wd.heap.size, 0, none⟩) 1 [more])
          refine hK.out _ _ (⟨hOld.out.1.trans hb', (hb'.cell (p := ⟨w.heap.size, 0, none⟩) HG0.out).trans hOld.out.2⟩) (fun hHeld => ?_)
          clear hK K
          have HT := HTN
          clear hal HTN
          obtain ⟨AT, hAT⟩ : ∃ AT, (some ⟨wd.heap.size, 0, none⟩ : Option Addr) = AT := ⟨_, rfl⟩
          rw [hAT] at HT ⊢
          clear hAT
          generalize wd.alloc (.cells #[.int .i64 more] 3) = x0 at *
          (try simp only [Act.put, List.setIfInBounds_toArray, List.set_cons_zero, List.set_cons_succ])
          refine wpPT_alt (by kernel_rfl) (fun K hK => ?_) ?_
          rotate_left
          · exact wpPT_stop
          have hOld := hide hHeld
          clear hHeld
          go_simp
          go_at_call 16
          refine (Reach_any _ (HNA.out.on hOld.out.1) (HFA.out.on hOld.out.1) HM.out (by omega)).mono ?_
          rintro e w' ⟨B1, n1, c1, rfl, hc1, hr1, hb1, -⟩
          have hb' := hb1.mono (B' := wr.heap.size) hOld.out.1.size
          obtain rfl : n = n1 := by rw [← hr1.1, reachL_len]; exact HLN.out.symm
          have HR := hide hr1
          have HT' := hide (HT.out.on hb1)
          clear HT
          have HT := HT'
          clear HT'
          clear hr1 hb1 hc1
          generalize w' = x1 at *
          refine hK.out _ _ (⟨hOld.out.1.trans hb', (hb'.cell (p := ⟨w.heap.size, 0, none⟩) HG0.out).trans hOld.out.2⟩) (fun hHeld => ?_)
          clear hK K
          (try simp only [Act.put, List.setIfInBounds_toArray, List.set_cons_zero, List.set_cons_succ])
          refine wpPT_alt (by kernel_rfl) (fun K hK => ?_) ?_
          rotate_left
          · exact wpPT_stop
          have hOld := hide hHeld
          clear hHeld
          go_simp
          go_at_call 27
          refine (IClone_any _ (HFA.out.on hOld.out.1).rdI (by omega)).mono ?_
          rintro e w' ⟨A5, c5, rfl, ho5, hb5⟩
          have hb' := hb5.mono (B' := wr.heap.size) hOld.out.1.size
          have hbase := hOld.out.1.size
          have hcs := hb5.size
          have HC := hide ho5
          have HT' := hide (HT.out.on hb5)
          clear HT
          have HT := HT'
          clear HT'
          have HR' := hide (HR.out.below hb5)
          clear HR
          have HR := HR'
          clear HR'
          clear ho5 hb5
          generalize w' = x2 at *
          refine hK.out _ _ (⟨hOld.out.1.trans hb', (hb'.cell (p := ⟨w.heap.size, 0, none⟩) HG0.out).trans hOld.out.2⟩) (fun hHeld => ?_)
          clear hK K
          (try simp only [Act.put, List.setIfInBounds_toArray, List.set_cons_zero, List.set_cons_succ])
          refine wpPT_alt (by kernel_rfl) (fun K hK => ?_) ?_
          rotate_left
          · exact wpPT_stop
          have hOld := hide hHeld
          clear hHeld
          refine wp_append_RdW x2 (.tmp 75) (.tmp 77) 25 rfl x1.heap.size 3 (.int .i64 0) 8 Try.underlying25 intw_info rfl (fun _ => rfl) A5 k c5 ff rfl HC.out _ AT 1 1 [more] rfl HT.out (k + 1) rfl (by omega) (by omega) hcs ?_
          intro A8 c8 x3 ho8 hb8
          have hb' := hb8.mono (B' := wr.heap.size) hbase
          have HO8 := hide ho8
          refine hK.out _ _ (⟨hOld.out.1.trans hb', (hb'.cell (p := ⟨w.heap.size, 0, none⟩) HG0.out).trans hOld.out.2⟩) (fun hHeld => ?_)
          clear hK K
          have HR' := hide (HR.out.below hb8)
          clear HR
          have HR := HR'
          clear HR'
          have hsz8 := hb8.size
          clear ho8 hb8
          (try simp only [Act.put, List.setIfInBounds_toArray, List.set_cons_zero, List.set_cons_succ])
          refine wpPT_alt (by kernel_rfl) (fun K hK => ?_) ?_
          rotate_left
          · exact wpPT_stop
          have hOld := hide hHeld
          clear hHeld
          go_simp
          go_at_call 16
          refine (Reach_any _ (HNA.out.on hOld.out.1) HO8.out.rd.rdeI HM.out (by omega)).mono ?_
          rintro e w' ⟨B2, n2, c2, rfl, hc2, hr2, hbZ, -⟩
          have hb' := hbZ.mono (B' := wr.heap.size) hOld.out.1.size
          obtain rfl : n = n2 := by rw [← hr2.1, reachL_len]; exact HLN.out.symm
          have HR2 := hide hr2
          have HR1 := hide ((HR.out.below (hbZ.mono (Nat.le_trans hcs hsz8))).more (Nat.le_trans (Nat.le_trans hcs hsz8) hbZ.size))
          clear hr2 hbZ
          generalize w' = x4 at *
          refine hK.out _ _ (⟨hOld.out.1.trans hb', (hb'.cell (p := ⟨w.heap.size, 0, none⟩) HG0.out).trans hOld.out.2⟩) (fun hHeld => ?_)
          clear hK K
          (try simp only [Act.put, List.setIfInBounds_toArray, List.set_cons_zero, List.set_cons_succ])
          refine wpPT_take (v := ?_) (by kernel_rfl) (fun wS hSw => ?_) ?_
          rotate_left
          · (try dsimp only at hSw); go_simp; (try with_reducible rfl)
          (try simp only [Act.put, List.setIfInBounds_toArray, List.set_cons_zero, List.set_cons_succ])
          refine wpPT_take (v := ?_) (by kernel_rfl) (fun wS hSw => ?_) ?_
          rotate_left
          · (try dsimp only at hSw); go_simp; (try with_reducible rfl)
          (try simp only [Act.put, List.setIfInBounds_toArray, List.set_cons_zero, List.set_cons_succ])
          refine wpPT_leaf ?_
          have HBX := hide hHeld.1
          clear hHeld hOld
          go_wp2_with fail
          go_meet
          case rel => exact ⟨B1, c1, B2, c2, rfl, rfl, HR1.out, HR2.out, HBX.out⟩
        exact wpPT_stop
      case rest =>
        obtain ⟨B1, c1, B2, c2, rfl, rfl, hr1, hr2, hbx⟩ := hcut
        have HX1 := hide hr1
        have HX2 := hide hr2
        have HBX := hide hbx
        have HNX := hide (HNA.out.on hbx)
        have HFX := hide (HFA.out.on hbx)
        have HWX := hide (HW3.out.on (HBR.out.trans (hbx.mono HBR.out.size)))
        have RX := hide (R3.out.on (HBR.out.trans (hbx.mono HBR.out.size)))
        have HBW := hide (HB3.out.trans ((HBR.out.trans (hbx.mono HBR.out.size)).mono HB3.out.size))
        have hd : ((n : Int) != (n : Int)) = false := by simp
        have qx : wc.cell? ⟨w.heap.size, 0, none⟩ = some (.slice A n c) := RX.out.cell 0
        clear hr1 hr2 hbx qb HG0 HNA HFA hgr
        go_wp2_with fail
        go_loopw [95] (fun iv wr => ∃ j : Nat, j ≤ n ∧ iv = .int .i64 j ∧ wr = wc) (fun iv _ => n - (intOf iv).toNat)
        case atStart => exact ⟨0, by omega, rfl, rfl⟩
        case round =>
          obtain ⟨i, hi, rfl, hwr⟩ := hrel
          subst hwr
          by_cases hlt2 : i < n
          · have hin : i < ns.length := by rw [HLN.out]; exact hlt2
            obtain ⟨b1, o1, e1, -, hc1⟩ := HX1.out.2 (by omega)
            obtain ⟨b2, o2, e2, -, hc2⟩ := HX2.out.2 (by omega)
            have x1 := hc1 i _ (by rw [HL.out]; exact HREL.out i hin)
            have x2 := hc2 i _ (by rw [HL2.out]; exact HREL2.out i hin)
            subst e1
            subst e2
            clear hc1 hc2
            cases hra : reachW ns L ((i : Int) + 1) with
            | false =>
              rw [hra] at x1
              clear hra
              go_wp2_with fail
              go_roundw
              case rel => exact ⟨i + 1, by omega, by go_num, (by first | rfl | trivial)⟩
              case measure => simp [intOf]; omega
            | true =>
              have hrb := reach_mono (ns := ns) (i := (i : Int) + 1) (fun y hy => HPRE.out.subset hy) hra
              rw [hra] at x1
              rw [hrb] at x2
              clear hra hrb
              go_wp2_with fail
              go_roundw
              case rel => exact ⟨i + 1, by omega, by go_num, (by first | rfl | trivial)⟩
              case measure => simp [intOf]; omega
          · have hin : n = i := by omega
            subst hin
            have qb : wr.cell? ⟨w.heap.size, 0, none⟩ = some (.slice A n c) := qx
            have HG0 := hide RX.out.lt
            have HNA := HNX
            have HFA := HFX
            have hle := HPRE.out.length_le
            have hlL := HWX.out.1
            clear HX1 HX2 HNX HFX qx hd RX
            go_upto_region 19 with fail
            go_cut [13] from 110 to 116 (fun v13 wx => ∃ B2 c2, v13 = .slice B2 L2.length c2 ∧ L2.length ≤ c2 ∧ RdE wayEn wx (Under wx.heap.size) B2 L2.length L2 ∧ Below wr.heap.size wr wx)
            case first =>
              refine wp_region_G (fun w' => Below wr.heap.size wr w' ∧ w'.cell? ⟨w.heap.size, 0, none⟩ = some (.slice A n c)) (.take 0 (.take 1 (.take 3 (.alt 2 (.alt 4 (.alt 5 (.alt 6 (.take 7 .leaf) .stop) .stop) .stop) (.alt 4 (.alt 2 (.alt 5 (.alt 6 (.take 7 .leaf) .stop) .stop) .stop) .stop))))) (by kernel_rfl) (by kernel_rfl) (by kernel_rfl) (by kernel_rfl) rfl (fun _ _ _ _ _ h => h) ⟨below_drew (below_self wr), qb⟩ (fun hHeld => ?_)
              clear qb
              generalize wr.drew = wd at *
              simp only [PT.map, List.getElem?_toArray, List.getElem?_cons_succ, List.getElem?_cons_zero]
              refine wpPT_take (v := ?_) (by kernel_rfl) (fun wS hSw => ?_) ?_
              rotate_left
              · (try dsimp only at hSw); go_simp; (try with_reducible rfl)
              (try simp only [Act.put, List.setIfInBounds_toArray, List.set_cons_zero, List.set_cons_succ])
              refine wpPT_take (v := ?_) (by kernel_rfl) (fun wS hSw => ?_) ?_
              rotate_left
              · (try dsimp only at hSw); go_simp; (try with_reducible rfl)
              (try simp only [Act.put, List.setIfInBounds_toArray, List.set_cons_zero, List.set_cons_succ])
              refine wpPT_take (v := ?_) (by kernel_rfl) (fun wS hSw => ?_) ?_
              rotate_left
              · (try dsimp only at hSw); go_simp; (try with_reducible rfl)
              (try simp only [Act.put, List.setIfInBounds_toArray, List.set_cons_zero, List.set_cons_succ])
              refine wpPT_alt (by kernel_rfl) (fun K hK => ?_) ?_
              · skip
                have hOld := hide hHeld
                clear hHeld
                go_simp
                go_at_call 27
                refine (IClone_any _ (HFA.out.on hOld.out.1).rdI (by omega)).mono ?_
                rintro e w' ⟨A5, c5, rfl, ho5, hb5⟩
                have hb' := hb5.mono (B' := wr.heap.size) hOld.out.1.size
                have hbase := hOld.out.1.size
                have hcs := hb5.size
                have HC := hide ho5
                clear ho5 hb5
                generalize w' = x0 at *
                refine hK.out _ _ (⟨hOld.out.1.trans hb', (hb'.cell (p := ⟨w.heap.size, 0, none⟩) HG0.out).trans hOld.out.2⟩) (fun hHeld => ?_)
                clear hK K
                (try simp only [Act.put, List.setIfInBounds_toArray, List.set_cons_zero, List.set_cons_succ])
                refine wpPT_alt (by kernel_rfl) (fun K hK => ?_) ?_
                rotate_left
                · exact wpPT_stop
                have hOld := hide hHeld
                clear hHeld
                unfold Oper.wp execOp
                go_simp
                have hal := below_new (below_self x0) (.cells #[.int .i64 more] 3)
                have hb' := hal.mono (B' := wr.heap.size) hOld.out.1.size
                have HTN := hide ((Rd.one (f := iV) x0 3 (u := .int .i64 more) (x := more) rfl).more (by simp) : Rd iV (x0.alloc (.cells #[.int .i64 more] 3)) (x0.alloc (.cells #[.int .i64 more] 3)).heap.size (some ⟨x0.heap.size, 0, none⟩) 1 [more])
                refine hK.out _ _ (⟨hOld.out.1.trans hb', (hb'.cell (p := ⟨w.heap.size, 0, none⟩) HG0.out).trans hOld.out.2⟩) (fun hHeld => ?_)
                clear hK K
                have HC' := hide (HC.out.alloc (.cells #[.int .i64 more] 3))
                clear HC
                have HC := HC'
                clear HC'
                have hcs' : wd.heap.size ≤ (x0.alloc (.cells #[.int .i64 more] 3)).heap.size := Nat.le_trans hcs hal.size
                clear hcs
                have hcs := hcs'
                clear hcs'
                have HT := HTN
                clear hal HTN
                obtain ⟨AT, hAT⟩ : ∃ AT, (some ⟨x0.heap.size, 0, none⟩ : Option Addr) = AT := ⟨_, rfl⟩
                rw [hAT] at HT ⊢
                clear hAT
                generalize x0.alloc (.cells #[.int .i64 more] 3) = x1 at *
                (try simp only [Act.put, List.setIfInBounds_toArray, List.set_cons_zero, List.set_cons_succ])
                refine wpPT_alt (by kernel_rfl) (fun K hK => ?_) ?_
                rotate_left
                · exact wpPT_stop
                have hOld := hide hHeld
                clear hHeld
                refine wp_append_RdW x1 (.tmp 112) (.tmp 114) 25 rfl wd.heap.size 3 (.int .i64 0) 8 Try.underlying25 intw_info rfl (fun _ => rfl) A5 k c5 ff rfl HC.out _ AT 1 1 [more] rfl HT.out (k + 1) rfl (by omega) (by omega) hcs ?_
                intro A8 c8 x2 ho8 hb8
                have hb' := hb8.mono (B' := wr.heap.size) hbase
                have HO8 := hide ho8
                refine hK.out _ _ (⟨hOld.out.1.trans hb', (hb'.cell (p := ⟨w.heap.size, 0, none⟩) HG0.out).trans hOld.out.2⟩) (fun hHeld => ?_)
                clear hK K
                have hsz8 := hb8.size
                clear ho8 hb8
                (try simp only [Act.put, List.setIfInBounds_toArray, List.set_cons_zero, List.set_cons_succ])
                refine wpPT_alt (by kernel_rfl) (fun K hK => ?_) ?_
                rotate_left
                · exact wpPT_stop
                have hOld := hide hHeld
                clear hHeld
                go_simp
                go_at_call 9
                refine (HDL.out _ (HNA.out.on hOld.out.1) HO8.out.rd.rdeI).mono ?_
                rintro e w' ⟨B2, n2, c2, rfl, hc2, hr2, hbZ⟩
                have hb' := hbZ.mono (B' := wr.heap.size) hOld.out.1.size
                obtain rfl : n2 = L2.length := hr2.1.symm
                have HR2 := hide hr2
                clear hr2 hbZ
                generalize w' = x3 at *
                refine hK.out _ _ (⟨hOld.out.1.trans hb', (hb'.cell (p := ⟨w.heap.size, 0, none⟩) HG0.out).trans hOld.out.2⟩) (fun hHeld => ?_)
                clear hK K
                (try simp only [Act.put, List.setIfInBounds_toArray, List.set_cons_zero, List.set_cons_succ])
                refine wpPT_take (v := ?_) (by kernel_rfl) (fun wS hSw => ?_) ?_
                rotate_left
                · (try dsimp only at hSw); go_simp; (try with_reducible rfl)
                (try simp only [Act.put, List.setIfInBounds_toArray, List.set_cons_zero, List.set_cons_succ])
                refine wpPT_leaf ?_
                have HBX := hide hHeld.1
                clear hHeld hOld
                go_wp2_with fail
                go_meet
                case rel => exact ⟨B2, c2, rfl, hc2, HR2.out.mono (fun _ _ => rfl) (fun b hb => hb.2), HBX.out⟩
              refine wpPT_alt (by kernel_rfl) (fun K hK => ?_) ?_
              · skip
                have hOld := hide hHeld
                clear hHeld
                unfold Oper.wp execOp
                go_simp
                have hal := below_new (below_self wd) (.cells #[.int .i64 more] 3)
                have hb' := hal.mono (B' := wr.heap.size) hOld.out.1.size
                have HTN := hide ((Rd.one (f := iV) wd 3 (u := .int .i64 more) (x := more) rfl).more (by simp) : Rd iV (wd.alloc (.cells #[.int .i64 more] 3)) (wd.alloc (.cells #[.int .i64 more] 3)).heap.size (some ⟨wd.heap.size, 0, none⟩) 1 [more])
                refine hK.out _ _ (⟨hOld.out.1.trans hb', (hb'.cell (p := ⟨w.heap.size, 0, none⟩) HG0.out).trans hOld.out.2⟩) (fun hHeld => ?_)
                clear hK K
                have HT := HTN
                clear hal HTN
                obtain ⟨AT, hAT⟩ : ∃ AT, (some ⟨wd.heap.size, 0, none⟩ : Option Addr) = AT := ⟨_, rfl⟩
                rw [hAT] at HT ⊢
                clear hAT
                generalize wd.alloc (.cells #[.int .i64 more] 3) = x0 at *
                (try simp only [Act.put, List.setIfInBounds_toArray, List.set_cons_zero, List.set_cons_succ])
                refine wpPT_alt (by kernel_rfl) (fun K hK => ?_) ?_
                rotate_left
                · exact wpPT_stop
                have hOld := hide hHeld
                clear hHeld
                go_simp
                go_at_call 27
                refine (IClone_any _ (HFA.out.on hOld.out.1).rdI (by omega)).mono ?_
                rintro e w' ⟨A5, c5, rfl, ho5, hb5⟩
                have hb' := hb5.mono (B' := wr.heap.size) hOld.out.1.size
                have hbase := hOld.out.1.size
                have hcs := hb5.size
                have HC := hide ho5
                have HT' := hide (HT.out.on hb5)
                clear HT
                have HT := HT'
                clear HT'
                clear ho5 hb5
                generalize w' = x1 at *
                refine hK.out _ _ (⟨hOld.out.1.trans hb', (hb'.cell (p := ⟨w.heap.size, 0, none⟩) HG0.out).trans hOld.out.2⟩) (fun hHeld => ?_)
                clear hK K
                (try simp only [Act.put, List.setIfInBounds_toArray, List.set_cons_zero, List.set_cons_succ])
                refine wpPT_alt (by kernel_rfl) (fun K hK => ?_) ?_
                rotate_left
                · exact wpPT_stop
                have hOld := hide hHeld
                clear hHeld
                refine wp_append_RdW x1 (.tmp 112) (.tmp 114) 25 rfl x0.heap.size 3 (.int .i64 0) 8 Try.underlying25 intw_info rfl (fun _ => rfl) A5 k c5 ff rfl HC.out _ AT 1 1 [more] rfl HT.out (k + 1) rfl (by omega) (by omega) hcs ?_
                intro A8 c8 x2 ho8 hb8
                have hb' := hb8.mono (B' := wr.heap.size) hbase
                have HO8 := hide ho8
                refine hK.out _ _ (⟨hOld.out.1.trans hb', (hb'.cell (p := ⟨w.heap.size, 0, none⟩) HG0.out).trans hOld.out.2⟩) (fun hHeld => ?_)
                clear hK K
                have hsz8 := hb8.size
                clear ho8 hb8
                (try simp only [Act.put, List.setIfInBounds_toArray, List.set_cons_zero, List.set_cons_succ])
                refine wpPT_alt (by kernel_rfl) (fun K hK => ?_) ?_
                rotate_left
                · exact wpPT_stop
                have hOld := hide hHeld
                clear hHeld
                go_simp
                go_at_call 9
                refine (HDL.out _ (HNA.out.on hOld.out.1) HO8.out.rd.rdeI).mono ?_
                rintro e w' ⟨B2, n2, c2, rfl, hc2, hr2, hbZ⟩
                have hb' := hbZ.mono (B' := wr.heap.size) hOld.out.1.size
                obtain rfl : n2 = L2.length := hr2.1.symm
                have HR2 := hide hr2
                clear hr2 hbZ
                generalize w' = x3 at *
                refine hK.out _ _ (⟨hOld.out.1.trans hb', (hb'.cell (p := ⟨w.heap.size, 0, none⟩) HG0.out).trans hOld.out.2⟩) (fun hHeld => ?_)
                clear hK K
                (try simp only [Act.put, List.setIfInBounds_toArray, List.set_cons_zero, List.set_cons_succ])
                refine wpPT_take (v := ?_) (by kernel_rfl) (fun wS hSw => ?_) ?_
                rotate_left
                · (try dsimp only at hSw); go_simp; (try with_reducible rfl)
                (try simp only [Act.put, List.setIfInBounds_toArray, List.set_cons_zero, List.set_cons_succ])
                refine wpPT_leaf ?_
                have HBX := hide hHeld.1
                clear hHeld hOld
                go_wp2_with fail
                go_meet
                case rel => exact ⟨B2, c2, rfl, hc2, HR2.out.mono (fun _ _ => rfl) (fun b hb => hb.2), HBX.out⟩
              exact wpPT_stop
            case rest =>
              obtain ⟨B2, c2, rfl, hc2, hw2, hbx⟩ := hcut
              have HQ := hide (HWX.out.on hbx)
              have HP2 := hide (hw2.pre (i := j) (by omega))
              have hbsz2 := hbx.size
              have HBY := hide (HBW.out.trans (hbx.mono HBW.out.size))
              have e2 : L2.take j = L := by rw [← hlL]; exact (List.prefix_iff_eq_take.1 HPRE.out).symm
              rw [e2] at HP2
              have d5 : decide ((j : Int) ≤ (L2.length : Int)) = true := decide_eq_true (by omega)
              have hjc2 : j ≤ c2 := by omega
              have hjl2 : j ≤ L2.length := by omega
              clear hw2 hbx e2 qb
              go_wp2_with fail
              refine (EqWay_same (L := L) _ HP2.out HQ.out (by omega)).mono ?_
              rintro e wq ⟨rfl, hbq⟩
              have HBQ := hide (HBY.out.trans (hbq.mono HBY.out.size))
              clear hbq
              go_wp2_with fail
              refine (awake13_any _).mono ?_
              rintro e wz ⟨rfl, hbz⟩
              have HBZ := hide (HBQ.out.trans (hbz.mono HBQ.out.size))
              clear hbz
              go_wp2_with fail
              go_ret
              exact LawOk.of HBZ.out
end Go.Proofs.Ytalhkcheglbolaa
