/- entry.Put; the reference's Bytes, Put (layer 8). -/
import Derived.Test.YthjjjeolpdekoaaEntA
import Derived.Test.YthjjjeolpdekoaaNumF
namespace Go.Proofs.Ythjjjeolpdekoaa
open Go.RowKit Plain

theorem st_one (l : List UInt8) : (st l).oneCell' = true := rfl
set_option maxRecDepth 100000 in
set_option maxHeartbeats 800000 in
theorem EPut_any (x : EntV) (w : World) (hl : x.name.length ≤ 140737488355328) : Calls Try.prog 10 #[.agg #[.int .i64 x.slot, .int .i64 x.ino, st x.name]] w (BERet w 5 (putE x) (errE x)) := by
  obtain ⟨hr1, hb, hsz⟩ := rows1 w [.int .i64 x.slot, .int .i64 x.ino, st x.name] 23
  have HR1 := hide hr1
  have HB := hide hb
  clear hr1 hb hsz
  cases hr : rightE x with
  | false =>
    have e1 : putE x = [] := by unfold putE; rw [hr]; rfl
    have e2 : errE x = 1 := by unfold errE; rw [hr]; rfl
    rw [e1, e2]
    have HR := hide hr
    clear hr e1 e2
    go_enter Try.func10, Try.ntmps10
    go_wp2_with fail
    refine (ERight_any x _ hl).mono ?_
    rintro e w2 ⟨rfl, hbel⟩
    rw [HR.out]
    have HB2 := hide (below_step HB.out hbel)
    clear hbel
    go_wp2_with fail
    go_ret2
    exact ⟨_, _, _, rfl, Own.nil_ _ _ _, HB2.out⟩
  | true =>
    have hp := rightE_parts hr
    have e1 : putE x = putS [] x.ino 2 ++ packS x.name := by
      unfold putE
      rw [if_pos hr]
      congr 1
      have hf : fits x.ino 2 = true := by simp [fits, isz]; omega
      rw [putS_yes hf]; rfl
    have e2 : errE x = 0 := by unfold errE; rw [hr]; rfl
    have hpl := packS_length hp.2.2
    have hql : (putS [] x.ino 2).length = 2 := by
      have hf : fits x.ino 2 = true := by simp [fits, isz]; omega
      rw [putS_yes hf]; rfl
    rw [e1, e2]
    have HR := hide hr
    have HPL := hide hpl
    have HQL := hide hql
    clear hr e1 e2 hp hpl hql
    go_enter Try.func10, Try.ntmps10
    go_wp2_with fail
    refine (ERight_any x _ hl).mono ?_
    rintro e w2 ⟨rfl, hbel⟩
    rw [HR.out]
    have HB2 := hide (below_step HB.out hbel)
    have HR2 := hide (HR1.out.on hbel)
    have c1 : w2.cell? ⟨w.heap.size, 1, none⟩ = some (.int .i64 x.ino) := HR2.out.cell 1
    have hg2 : w.heap.size < w2.heap.size := HR2.out.lt
    clear hbel
    go_wp2_with fail
    refine (Put_any (s := 2) _ (Bs.none_ _ _ _) (by omega)).mono ?_
    rintro e w3 ⟨A3, c3, rfl, hown, hbel⟩
    have HO3 := hide (hown.rebase HB2.out.size)
    have HB3 := hide (below_step HB2.out hbel)
    have HR3 := hide (HR2.out.on hbel)
    have c2 : w3.cell? ⟨w.heap.size, 2, none⟩ = some (st x.name) := HR3.out.cell 2
    have hg3 : w.heap.size < w3.heap.size := HR3.out.lt
    clear hown hbel HB2 HR2 c1 hg2
    go_wp2_with fail
    refine (Pack_any _ _ hl).mono ?_
    rintro e w4 ⟨A4, c4, rfl, hown, hbel⟩
    have HP4 := hide hown.bs
    have HO4 := hide (HO3.out.below hbel)
    have HB4 := hide (below_step HB3.out hbel)
    clear hown hbel HB3 HO3
    go_wp2_with (at_builtin; refine wpList_append_Bs _ rfl (.tmp 11) (.tmp 14) 24 rfl w.heap.size 5 Try.underlying24 info_u8 _ _ _ _ rfl HO4.out _ _ _ _ _ rfl HP4.out 16 (by rw [HQL.out, HPL.out]) (by omega) HB4.out.size ?_; intro A5 c5 w5 hown5 hbel5; have HO5 := hide hown5; have HB5 := hide (HB4.out.trans hbel5); clear hown5 hbel5)
    go_ret2
    exact ⟨_, _, _, rfl, HO5.out, HB5.out⟩
set_option maxRecDepth 100000 in
set_option maxHeartbeats 800000 in
theorem REBytes_yes {x : EntV} (w : World) (hr : rightE x = true) (hl : x.name.length ≤ 140737488355328) : Calls Try.prog 44 #[.agg #[.int .i64 x.slot, .int .i64 x.ino, st x.name]] w (BRet w 5 16 (putE x)) := by
  obtain ⟨hr1, hb, hsz⟩ := rows1 w [.int .i64 x.slot, .int .i64 x.ino, st x.name] 23
  have HR1 := hide hr1
  have HB := hide hb
  have hp := rightE_parts hr
  have e1 : putE x = nb 2 x.ino.toNat ++ packS x.name := by unfold putE; rw [if_pos hr]
  rw [e1]
  have hi0 : 0 ≤ x.ino := by omega
  have hi1 : x.ino < 4294967296 := by omega
  have HPL := hide (packS_length hp.2.2)
  have hg0 : w.heap.size < (w.alloc (.cells #[.int .i64 x.slot, .int .i64 x.ino, st x.name] 23)).heap.size := by simp
  have c1 : (w.alloc (.cells #[.int .i64 x.slot, .int .i64 x.ino, st x.name] 23)).cell? ⟨w.heap.size, 1, none⟩ = some (.int .i64 x.ino) := HR1.out.cell 1
  have c2 : (w.alloc (.cells #[.int .i64 x.slot, .int .i64 x.ino, st x.name] 23)).cell? ⟨w.heap.size, 2, none⟩ = some (st x.name) := HR1.out.cell 2
  clear hr1 hb hsz hp e1 hr
  go_enter Try.func44, Try.ntmps44
  go_wp2_with fail
  generalize (w.alloc (.cells #[.int .i64 x.slot, .int .i64 x.ino, st x.name] 23)) = w1 at *
  refine wp_region_G (fun w' => Below w1.heap.size w1 w' ∧ w'.cell? ⟨w.heap.size, 1, none⟩ = some (.int .i64 x.ino) ∧ w'.cell? ⟨w.heap.size, 2, none⟩ = some (st x.name)) (.take 0 (.take 1 (.take 3 (.take 4 (.alt 2 (.alt 5 (.alt 6 (.take 7 .leaf) .stop) .stop) .stop))))) (by kernel_rfl) (by kernel_rfl) (by kernel_rfl) (by kernel_rfl) rfl (fun _ _ _ _ _ h => h) ⟨below_drew (below_self w1), c1, c2⟩ (fun hHeld => ?_)
  simp only [PT.map, List.getElem?_toArray, List.getElem?_cons_succ, List.getElem?_cons_zero]
  refine wpPT_take (v := ?_) (by kernel_rfl) (fun wS hSw => ?_) ?_
  rotate_left
  · (try dsimp only at hSw); go_simp; (try with_reducible rfl)
  (try simp only [Act.put, List.setIfInBounds_toArray, List.set_cons_zero, List.set_cons_succ])
  refine wpPT_take (v := ?_) (by kernel_rfl) (fun wS hSw => ?_) ?_
  rotate_left
  · (try dsimp only at hSw); go_simp; (try with_reducible rfl)
  (try simp only [Act.put, List.setIfInBounds_toArray, List.set_cons_zero, List.set_cons_succ])
  refine wpPT_take (v := ?_) (by kernel_rfl) (fun wS hSw => ?_) ?_
  rotate_left
  · (try dsimp only at hSw); go_simp; (try with_reducible rfl)
  (try simp only [Act.put, List.setIfInBounds_toArray, List.set_cons_zero, List.set_cons_succ])
  refine wpPT_take (v := ?_) (by kernel_rfl) (fun wS hSw => ?_) ?_
  rotate_left
  · (try dsimp only at hSw); go_simp; (try with_reducible rfl)
  (try simp only [Act.put, List.setIfInBounds_toArray, List.set_cons_zero, List.set_cons_succ])
  refine wpPT_alt (by kernel_rfl) (fun K hK => ?_) ?_
  rotate_left
  · exact wpPT_stop
  have hOld := hide hHeld
  clear hHeld
  go_simp
  go_at_call 69
  refine (RBytes_any (s := 2) _ hi0 hi1 (by omega)).mono ?_
  rintro e w' ⟨A2, c2, rfl, hown, hbel⟩
  have hb' := hbel.mono (B' := w1.heap.size) hOld.out.1.size
  have HN := hide (hown.rebase (b' := w1.heap.size) hOld.out.1.size)
  clear hown hbel
  refine hK.out _ _ (⟨hOld.out.1.trans hb', (hb'.cell (p := ⟨w.heap.size, 1, none⟩) hg0).trans hOld.out.2.1, (hb'.cell (p := ⟨w.heap.size, 2, none⟩) hg0).trans hOld.out.2.2⟩) (fun hHeld => ?_)
  clear hK K
  (try simp only [Act.put, List.setIfInBounds_toArray, List.set_cons_zero, List.set_cons_succ])
  refine wpPT_alt (by kernel_rfl) (fun K hK => ?_) ?_
  rotate_left
  · exact wpPT_stop
  have hOld := hide hHeld
  clear hHeld
  go_simp
  go_at_call 70
  refine (RPack_any _ hl).mono ?_
  rintro e w' ⟨A5, c5, rfl, hown, hbel⟩
  have hb' := hbel.mono (B' := w1.heap.size) hOld.out.1.size
  have HN2 := hide (HN.out.below hbel)
  have HP := hide hown.bs
  clear hown hbel HN
  refine hK.out _ _ (⟨hOld.out.1.trans hb', (hb'.cell (p := ⟨w.heap.size, 1, none⟩) hg0).trans hOld.out.2.1, (hb'.cell (p := ⟨w.heap.size, 2, none⟩) hg0).trans hOld.out.2.2⟩) (fun hHeld => ?_)
  clear hK K
  (try simp only [Act.put, List.setIfInBounds_toArray, List.set_cons_zero, List.set_cons_succ])
  refine wpPT_alt (by kernel_rfl) (fun K hK => ?_) ?_
  rotate_left
  · exact wpPT_stop
  have hOld := hide hHeld
  clear hHeld
  refine wp_append_bytes _ (.tmp 5) (.tmp 8) 24 rfl w1.heap.size 5 Try.underlying24 info_u8 _ 2 _ _ rfl HN2.out _ _ (packS x.name).length _ _ rfl HP.out 16 (by rw [HPL.out]) (by omega) hOld.out.1.size ?_
  intro A6 c6 w6 hown6 hb'
  have HO6 := hide hown6
  clear hown6
  refine hK.out _ _ (⟨hOld.out.1.trans hb', (hb'.cell (p := ⟨w.heap.size, 1, none⟩) hg0).trans hOld.out.2.1, (hb'.cell (p := ⟨w.heap.size, 2, none⟩) hg0).trans hOld.out.2.2⟩) (fun hHeld => ?_)
  clear hK K
  (try simp only [Act.put, List.setIfInBounds_toArray, List.set_cons_zero, List.set_cons_succ])
  refine wpPT_take (v := ?_) (by kernel_rfl) (fun wS hSw => ?_) ?_
  rotate_left
  · (try dsimp only at hSw); go_simp; (try with_reducible rfl)
  (try simp only [Act.put, List.setIfInBounds_toArray, List.set_cons_zero, List.set_cons_succ])
  refine wpPT_leaf ?_
  have HB6 := hide (HB.out.trans (hHeld.1.mono HB.out.size))
  clear hHeld
  go_wp2_with fail
  go_ret
  exact (HO6.out.rebase HB.out.size).ret HB6.out
set_option maxRecDepth 100000 in
set_option maxHeartbeats 800000 in
theorem REPut_any (x : EntV) (w : World) (hl : x.name.length ≤ 140737488355328) : Calls Try.prog 11 #[.agg #[.int .i64 x.slot, .int .i64 x.ino, st x.name]] w (BERet w 5 (putE x) (errE x)) := by
  obtain ⟨hr1, hb, hsz⟩ := rows1 w [.int .i64 x.slot, .int .i64 x.ino, st x.name] 23
  have HR1 := hide hr1
  have HB := hide hb
  clear hr1 hb hsz
  cases hr : rightE x with
  | false =>
    have e1 : putE x = [] := by unfold putE; rw [hr]; rfl
    have e2 : errE x = 1 := by unfold errE; rw [hr]; rfl
    rw [e1, e2]
    have HR := hide hr
    clear hr e1 e2
    go_enter Try.func11, Try.ntmps11
    go_wp2_with fail
    refine (RERight_any x _ hl).mono ?_
    rintro e w2 ⟨rfl, hbel⟩
    rw [HR.out]
    have HB2 := hide (below_step HB.out hbel)
    clear hbel
    go_wp2_with fail
    go_ret2
    exact ⟨_, _, _, rfl, Own.nil_ _ _ _, HB2.out⟩
  | true =>
    have e2 : errE x = 0 := by unfold errE; rw [hr]; rfl
    rw [e2]
    have HR := hide hr
    clear hr e2
    go_enter Try.func11, Try.ntmps11
    go_wp2_with fail
    refine (RERight_any x _ hl).mono ?_
    rintro e w2 ⟨rfl, hbel⟩
    rw [HR.out]
    have HB2 := hide (below_step HB.out hbel)
    have HR2 := hide (HR1.out.on hbel)
    have c0 : w2.cell? ⟨w.heap.size, 0, none⟩ = some (.int .i64 x.slot) := HR2.out.cell 0
    have c1 : w2.cell? ⟨w.heap.size, 1, none⟩ = some (.int .i64 x.ino) := HR2.out.cell 1
    have c2 : w2.cell? ⟨w.heap.size, 2, none⟩ = some (st x.name) := HR2.out.cell 2
    have hg2 : w.heap.size < w2.heap.size := HR2.out.lt
    clear hbel
    go_wp2_with fail
    refine (REBytes_yes _ HR.out hl).mono ?_
    rintro e w4 ⟨A4, c4, rfl, hown, hbel⟩
    have HO4 := hide (hown.rebase HB2.out.size)
    have HB4 := hide (below_step HB2.out hbel)
    clear hown hbel
    go_wp2_with fail
    go_ret2
    exact ⟨_, _, _, rfl, HO4.out, HB4.out⟩
end Go.Proofs.Ythjjjeolpdekoaa
