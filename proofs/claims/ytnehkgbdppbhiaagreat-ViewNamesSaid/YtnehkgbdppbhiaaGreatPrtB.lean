import Derived.Deep.Cut
import Derived.Deep.CutRange
import Derived.Test.YtnehkgbdppbhiaaGreatPlanP
import Derived.Lib.SlicesCompact
import Derived.Sort.Row
import Derived.Test.YtnehkgbdppbhiaaGreatShelf
import Derived.Sort.OwnSorted
import Derived.Lib.RowBridge
import Derived.Test.YtnehkgbdppbhiaaGreatPrtA

/- lower.first (layer 16). -/
namespace Go.Proofs.YtnehkgbdppbhiaaGreat
open Go.RowKit Go.Shelf Plain

theorem First_n {A : Option Addr} {n c : Nat} {ns : List NodV} {i : Int} {nm : List UInt8} {B : Nat} {o : Option EntV} {N : NodV} (ho : firstB ns i nm = o) (hN : nodB ns o = N) (w : World) (h : RdE nodEn w (Under B) A n ns) (hB : B ≤ w.heap.size) (hm : ns.length ≤ 100000) (hel : (entB ns i).length ≤ 16) :
    Calls Tryz.prog 95 #[.agg #[.slice A n c], .int .i64 i, .string ⟨nm.toArray⟩] w (fun e w' => ∃ A n c C m d, e = .returned (.tuple #[.agg (cellsE (entO o)).toArray, .agg (nodC N (.slice A n c) (.slice C m d)).toArray]) ∧ n ≤ c ∧ RdE Enc.byte w' (Under B) A n N.data ∧ m ≤ d ∧ RdE entEn w' (Under B) C m N.ents ∧ Below w.heap.size w w') := by
  subst ho hN
  exact First_any w h hB hm hel
/-- The place, and the node, that a name's first entry tells. -/
def plcO (o : Option (Int × Int)) : Int × Int := o.getD (0, 0)
def plcF (la : Int) (o : Option (Int × Int)) : Int × Int := o.getD (la, 0)
def nodO (ls : List (List NodV)) (o : Option (Int × Int)) : NodV := match o with
  | none => nod0
  | some x => lowAt ls x.1 x.2
def FirstRet (w : World) (B : Nat) (ls : List (List NodV)) (la : Int) (o : Option (Int × Int)) (e : Ending) (w' : World) : Prop := ∃ A n c C m d, e = .returned (.tuple #[.agg (prC (plcF la o)).toArray, .agg (nodC (nodO ls o) (.slice A n c) (.slice C m d)).toArray]) ∧ n ≤ c ∧ RdE Enc.byte w' (Under B) A n (nodO ls o).data ∧ m ≤ d ∧ RdE entEn w' (Under B) C m (nodO ls o).ents ∧ Below w.heap.size w w'
/-- What the last region keeps. -/
def FirstS (wc : World) (base g8 g9 r2 r3 : Nat) (p : Int × Int) (ec nc : List Value) (W : World) : Prop := (RowL W g8 49 ec ∧ RowL W (base + 1) 36 (prC p)) ∧ RowL W g9 71 nc ∧ (∃ cu, RowL W r2 36 cu ∧ cu.length = 2) ∧ (∃ cu, RowL W r3 71 cu ∧ cu.length = 13) ∧ Below base wc W
theorem FirstS.drew {wc : World} {base g8 g9 r2 r3 : Nat} {p : Int × Int} {ec nc : List Value} {W : World} (h : FirstS wc base g8 g9 r2 r3 p ec nc W) : FirstS wc base g8 g9 r2 r3 p ec nc W.drew := ⟨h.1, h.2.1, h.2.2.1, h.2.2.2.1, ⟨h.2.2.2.2.os, h.2.2.2.2.tape, h.2.2.2.2.output, h.2.2.2.2.size, h.2.2.2.2.block⟩⟩
theorem rows4 (w : World) (c1 c2 c3 c4 : List Value) (t1 t2 t3 t4 : Nat) {W : World} (hW : (((w.alloc (.cells c1.toArray t1)).alloc (.cells c2.toArray t2)).alloc (.cells c3.toArray t3)).alloc (.cells c4.toArray t4) = W) : RowL W w.heap.size t1 c1 ∧ RowL W (w.heap.size + 1) t2 c2 ∧ RowL W (w.heap.size + 1 + 1) t3 c3 ∧ RowL W (w.heap.size + 1 + 1 + 1) t4 c4 ∧ Below w.heap.size w W ∧ W.heap.size = w.heap.size + 4 := by
  subst hW
  obtain ⟨r0, r1, r2, hb, hs⟩ := rows3 w c1 c2 c3 t1 t2 t3
  have hb4 := below_new (below_self (((w.alloc (.cells c1.toArray t1)).alloc (.cells c2.toArray t2)).alloc (.cells c3.toArray t3))) (.cells c4.toArray t4)
  refine ⟨r0.on hb4, r1.on hb4, r2.on hb4, ?_, below_step hb hb4, by simp⟩
  have := RowL.new (((w.alloc (.cells c1.toArray t1)).alloc (.cells c2.toArray t2)).alloc (.cells c3.toArray t3)) t4 c4
  rw [hs] at this
  exact this
set_option maxRecDepth 100000 in
set_option maxHeartbeats 16000000 in
theorem LFirst_any {g : GeoQ} {AU AL : Option Addr} {nU cU nL cL : Nat} {ls : List (List NodV)} {p : Int × Int} {nm : List UInt8} {B : Nat} (w : World) (h : RdE layEn w (Under B) AL nL ls) (hB : B ≤ w.heap.size) (hm : ls.length ≤ 100) (hm2 : ∀ ns ∈ ls, ns.length ≤ 1000) (hF : FewL ls) :
    Calls Tryz.prog 70 #[.agg (stkC g (.slice AU nU cU) (.slice AL nL cL)).toArray, .agg (prC p).toArray, .string ⟨nm.toArray⟩] w (FirstRet w B ls p.1 (firstL ls p nm)) := by
  obtain ⟨W4, hW4⟩ : ∃ W4, (((w.alloc (.cells (stkC g (.slice AU nU cU) (.slice AL nL cL)).toArray 29)).alloc (.cells (prC p).toArray 36)).alloc (.cells (prC (0, 0)).toArray 36)).alloc (.cells (nodC nod0 (.slice none 0 0) (.slice none 0 0)).toArray 71) = W4 := ⟨_, rfl⟩
  obtain ⟨r0, r1, r2, r3, hb4, hs4⟩ := rows4 w _ _ _ _ _ _ _ _ hW4
  have hW4' : (((w.alloc (.cells #[.int .i64 g.a, .int .i64 g.b, .int .i64 g.c, .int .i64 g.d, .slice AU nU cU, .slice AL nL cL] 29)).alloc (.cells #[.int .i64 p.1, .int .i64 p.2] 36)).alloc (.cells #[.int .i64 0, .int .i64 0] 36)).alloc (.cells #[.int .i64 0, .int .i64 0, .int .i64 0, .int .i64 0, .slice none 0 0, .slice none 0 0, .int .i64 0, .int .i64 0, .string ⟨#[]⟩, .int .i64 0, .int .i64 0, .int .i64 0, .int .i64 0] 71) = W4 := hW4
  have R0 := hide r0
  have R1 := hide r1
  have R2 := hide r2
  have R3 := hide r3
  have HB4 := hide hb4
  have HL := hide (h.under hb4 hB)
  have HQ0 := hide (fun W (hb : Below W4.heap.size W4 W) => show W.cell? ⟨w.heap.size + 1, 0, none⟩ = some (.int .i64 p.1) from (r1.on hb).cell 0)
  have HQ1 := hide (fun W (hb : Below W4.heap.size W4 W) => show W.cell? ⟨w.heap.size + 1, 1, none⟩ = some (.int .i64 p.2) from (r1.on hb).cell 1)
  have hs4l : w.heap.size + 4 ≤ W4.heap.size := by omega
  have hly := layL_len hm2 p.1
  have hel : (entB (layL ls p.1) p.2).length ≤ 16 := by rw [ent_lay]; exact entL_len hF p
  have hfl := first_lay ls p nm
  obtain ⟨ly, hLY⟩ : ∃ ly, layL ls p.1 = ly := ⟨_, rfl⟩
  obtain ⟨o, hO⟩ : ∃ o, firstB ly p.2 nm = o := ⟨_, rfl⟩
  obtain ⟨N, hN⟩ : ∃ N, nodB ly o = N := ⟨_, rfl⟩
  have hNO : nodO ls (firstL ls p nm) = N := by
    rw [hfl, ← hN, ← hO, ← hLY, nodB_lay]
    rfl
  have hPL : plcF p.1 (firstL ls p nm) = (p.1, (entO o).ino) := by
    rw [hfl, ← hO, ← hLY]
    cases firstB (layL ls p.1) p.2 nm <;> rfl
  have HLY := hide hLY
  have HFO := hide hO
  have HNO := hide hN
  have HPL := hide hPL
  have HNL := hide hNO
  rw [hLY] at hly hel
  unfold stkC prC
  clear r0 r1 r2 r3 hb4 hW4 h hs4 hF hfl hLY hO hN hNO hPL
  go_enter Tryz.func70, Tryz.ntmps70
  go_upto_region 1 with fail
  clear hW4'
  go_cut [8, 9] from 10 to 20 (fun v8 v9 wx => ∃ g8 g9 A2 n2 c2 C2 m2 d2, v8 = .pointer (some ⟨g8, 0, none⟩) ∧ v9 = .pointer (some ⟨g9, 0, none⟩) ∧ RowL wx g8 49 (cellsE (entO o)) ∧ RowL wx g9 71 (nodC N (.slice A2 n2 c2) (.slice C2 m2 d2)) ∧ n2 ≤ c2 ∧ RdE Enc.byte wx (Under B) A2 n2 N.data ∧ m2 ≤ d2 ∧ RdE entEn wx (Under B) C2 m2 N.ents ∧ Below W4.heap.size W4 wx ∧ W4.heap.size ≤ g8 ∧ W4.heap.size ≤ g9)
  case first =>
    refine wp_region_G (fun w' => Below (W4.heap.size) W4 w') (.take 0 (.take 1 (.take 2 (.take 4 (.take 5 (.take 6 (.alt 3 (.alt 7 (.take 8 (.take 9 (.take 10 (.alt 11 (.alt 12 (.alt 13 (.alt 14 .leaf .stop) .stop) .stop) (.alt 12 (.alt 11 (.alt 13 (.alt 14 .leaf .stop) .stop) .stop) .stop))))) (.alt 11 (.alt 7 (.take 8 (.take 9 (.take 10 (.alt 12 (.alt 13 (.alt 14 .leaf .stop) .stop) .stop)))) (.alt 12 (.alt 7 (.take 8 (.take 9 (.take 10 (.alt 13 (.alt 14 .leaf .stop) .stop)))) .stop) .stop)) (.alt 12 (.alt 7 (.take 8 (.take 9 (.take 10 (.alt 11 (.alt 13 (.alt 14 .leaf .stop) .stop) .stop)))) (.alt 11 (.alt 7 (.take 8 (.take 9 (.take 10 (.alt 13 (.alt 14 .leaf .stop) .stop)))) .stop) .stop)) .stop))) (.alt 11 (.alt 3 (.alt 7 (.take 8 (.take 9 (.take 10 (.alt 12 (.alt 13 (.alt 14 .leaf .stop) .stop) .stop)))) (.alt 12 (.alt 7 (.take 8 (.take 9 (.take 10 (.alt 13 (.alt 14 .leaf .stop) .stop)))) .stop) .stop)) (.alt 12 (.alt 3 (.alt 7 (.take 8 (.take 9 (.take 10 (.alt 13 (.alt 14 .leaf .stop) .stop)))) .stop) .stop) .stop)) (.alt 12 (.alt 3 (.alt 7 (.take 8 (.take 9 (.take 10 (.alt 11 (.alt 13 (.alt 14 .leaf .stop) .stop) .stop)))) (.alt 11 (.alt 7 (.take 8 (.take 9 (.take 10 (.alt 13 (.alt 14 .leaf .stop) .stop)))) .stop) .stop)) (.alt 11 (.alt 3 (.alt 7 (.take 8 (.take 9 (.take 10 (.alt 13 (.alt 14 .leaf .stop) .stop)))) .stop) .stop) .stop)) .stop))))))))) (by kernel_rfl) (by kernel_rfl) (by kernel_rfl) (by kernel_rfl) rfl (fun _ _ _ _ _ h => h) (below_drew (below_self W4)) (fun hHeld => ?_)
    generalize W4.drew = wd at *
    simp only [PT.map, List.getElem?_toArray, List.getElem?_cons_succ, List.getElem?_cons_zero]
    refine wpPT_take (v := ?_) (by kernel_rfl) (fun wS hSw => ?_) ?_
    rotate_left
    · refine execOp_load (x := .tmp 3) (k := 6) (g := w.heap.size) (off := 0) (cs := stkC g (.slice AU nU cU) (.slice AL nL cL)) ?_ stk_agg stk_size ?_ (fun j v hv => by rw [Nat.zero_add]; exact ((R0.out.on hSw).cell j).trans hv) rfl <;> rfl
    (try simp only [Act.put, List.setIfInBounds_toArray, List.set_cons_zero, List.set_cons_succ])
    refine wpPT_take (v := ?_) (by kernel_rfl) (fun wS hSw => ?_) ?_
    rotate_left
    · (try dsimp only at hSw); go_simp; (try with_reducible rfl)
    (try simp only [Act.put, List.setIfInBounds_toArray, List.set_cons_zero, List.set_cons_succ])
    refine wpPT_take (v := ?_) (by kernel_rfl) (fun wS hSw => ?_) ?_
    rotate_left
    · have qx := HQ0.out wS hSw; go_simp; (try with_reducible rfl)
    (try simp only [Act.put, List.setIfInBounds_toArray, List.set_cons_zero, List.set_cons_succ])
    refine wpPT_take (v := ?_) (by kernel_rfl) (fun wS hSw => ?_) ?_
    rotate_left
    · (try dsimp only at hSw); go_simp; (try with_reducible rfl)
    (try simp only [Act.put, List.setIfInBounds_toArray, List.set_cons_zero, List.set_cons_succ])
    refine wpPT_take (v := ?_) (by kernel_rfl) (fun wS hSw => ?_) ?_
    rotate_left
    · have qx := HQ1.out wS hSw; go_simp; (try with_reducible rfl)
    (try simp only [Act.put, List.setIfInBounds_toArray, List.set_cons_zero, List.set_cons_succ])
    refine wpPT_take (v := ?_) (by kernel_rfl) (fun wS hSw => ?_) ?_
    rotate_left
    · (try dsimp only at hSw); go_simp; (try with_reducible rfl)
    (try simp only [Act.put, List.setIfInBounds_toArray, List.set_cons_zero, List.set_cons_succ])
    refine wpPT_alt (by kernel_rfl) (fun K hK => ?_) ?_
    · skip
      have hOld := hide hHeld
      clear hHeld
      go_simp
      go_at_call 106
      refine (Beneath_e HLY.out (B := B) _ (HL.out.under hOld.out (by omega)) (by have := hOld.out.size; omega) hm).mono ?_
      rintro e w' ⟨A1, n1, c1, rfl, e2, e3, hbel⟩
      have hb' := hbel.mono (B' := W4.heap.size) (by have := hOld.out.size; omega)
      have HNS := hide e3
      clear e3
      clear hbel
      refine hK.out _ _ (hOld.out.trans hb') (fun hHeld => ?_)
      clear hK K
      (try simp only [Act.put, List.setIfInBounds_toArray, List.set_cons_zero, List.set_cons_succ])
      refine wpPT_alt (by kernel_rfl) (fun K hK => ?_) ?_
      · skip
        have hOld := hide hHeld
        clear hHeld
        go_simp
        go_at_call 95
        refine (First_n HFO.out HNO.out (B := B) _ HNS.out (by have := hOld.out.size; omega) (by omega) hel).mono ?_
        rintro e w' ⟨A2, n2, c2, C2, m2, d2, rfl, f2, f3, f4, f5, hbel⟩
        have hb' := hbel.mono (B' := W4.heap.size) (by have := hOld.out.size; omega)
        have HD := hide f3
        clear f3
        have HE := hide f5
        clear f5
        have HNS' := hide (HNS.out.under hbel (by have := hOld.out.size; omega))
        clear HNS
        have HNS := HNS'
        clear HNS'
        clear hbel
        refine hK.out _ _ (hOld.out.trans hb') (fun hHeld => ?_)
        clear hK K
        (try simp only [Act.put, List.setIfInBounds_toArray, List.set_cons_zero, List.set_cons_succ])
        refine wpPT_take (v := ?_) (by kernel_rfl) (fun wS hSw => ?_) ?_
        rotate_left
        · (try dsimp only at hSw); go_simp; (try with_reducible rfl)
        (try simp only [Act.put, List.setIfInBounds_toArray, List.set_cons_zero, List.set_cons_succ])
        refine wpPT_take (v := ?_) (by kernel_rfl) (fun wS hSw => ?_) ?_
        rotate_left
        · (try dsimp only at hSw); go_simp; (try with_reducible rfl)
        (try simp only [Act.put, List.setIfInBounds_toArray, List.set_cons_zero, List.set_cons_succ])
        refine wpPT_take (v := ?_) (by kernel_rfl) (fun wS hSw => ?_) ?_
        rotate_left
        · (try dsimp only at hSw); go_simp; (try with_reducible rfl)
        (try simp only [Act.put, List.setIfInBounds_toArray, List.set_cons_zero, List.set_cons_succ])
        refine wpPT_alt (by kernel_rfl) (fun K hK => ?_) ?_
        · skip
          have hOld := hide hHeld
          clear hHeld
          unfold Oper.wp execOp
          go_simp
          have hal := below_new (below_self w') (.cells #[.int .i64 0, .int .i64 0, .string ⟨#[]⟩] 49)
          have hb' := hal.mono (B' := W4.heap.size) (by have := hOld.out.size; omega)
          have HFN := hide (show RowL (w'.alloc (.cells #[.int .i64 0, .int .i64 0, .string ⟨#[]⟩] 49)) w'.heap.size 49 [.int .i64 0, .int .i64 0, .string ⟨#[]⟩] from RowL.new w' 49 [.int .i64 0, .int .i64 0, .string ⟨#[]⟩])
          have g8l : W4.heap.size ≤ w'.heap.size := hOld.out.size
          refine hK.out _ _ (hOld.out.trans hb') (fun hHeld => ?_)
          clear hK K
          have HNS' := hide (HNS.out.under hal (by have := hOld.out.size; omega))
          clear HNS
          have HNS := HNS'
          clear HNS'
          have HD' := hide (HD.out.under hal (by have := hOld.out.size; omega))
          clear HD
          have HD := HD'
          clear HD'
          have HE' := hide (HE.out.under hal (by have := hOld.out.size; omega))
          clear HE
          have HE := HE'
          clear HE'
          have R8 := HFN
          clear hal hb' hOld HFN
          generalize w'.alloc (.cells #[.int .i64 0, .int .i64 0, .string ⟨#[]⟩] 49) = z2 at *
          generalize w'.heap.size = g8 at *
          (try simp only [Act.put, List.setIfInBounds_toArray, List.set_cons_zero, List.set_cons_succ])
          refine wpPT_alt (by kernel_rfl) (fun K hK => ?_) ?_
          rotate_left
          · exact wpPT_stop
          have hOld := hide hHeld
          clear hHeld
          unfold Oper.wp execOp
          go_simp
          have hal := below_new (below_self z2) (.cells #[.int .i64 0, .int .i64 0, .int .i64 0, .int .i64 0, .slice none 0 0, .slice none 0 0, .int .i64 0, .int .i64 0, .string ⟨#[]⟩, .int .i64 0, .int .i64 0, .int .i64 0, .int .i64 0] 71)
          have hb' := hal.mono (B' := W4.heap.size) (by have := hOld.out.size; omega)
          have HFN := hide (show RowL (z2.alloc (.cells #[.int .i64 0, .int .i64 0, .int .i64 0, .int .i64 0, .slice none 0 0, .slice none 0 0, .int .i64 0, .int .i64 0, .string ⟨#[]⟩, .int .i64 0, .int .i64 0, .int .i64 0, .int .i64 0] 71)) z2.heap.size 71 (nodC nod0 (.slice none 0 0) (.slice none 0 0)) from RowL.new z2 71 (nodC nod0 (.slice none 0 0) (.slice none 0 0)))
          have g9l : W4.heap.size ≤ z2.heap.size := hOld.out.size
          have g8ng9 : g8 < z2.heap.size := R8.out.lt
          refine hK.out _ _ (hOld.out.trans hb') (fun hHeld => ?_)
          clear hK K
          have HNS' := hide (HNS.out.under hal (by have := hOld.out.size; omega))
          clear HNS
          have HNS := HNS'
          clear HNS'
          have HD' := hide (HD.out.under hal (by have := hOld.out.size; omega))
          clear HD
          have HD := HD'
          clear HD'
          have HE' := hide (HE.out.under hal (by have := hOld.out.size; omega))
          clear HE
          have HE := HE'
          clear HE'
          have R8' := hide (R8.out.on hal)
          clear R8
          have R8 := R8'
          clear R8'
          have R9 := HFN
          clear hal hb' hOld HFN
          generalize z2.alloc (.cells #[.int .i64 0, .int .i64 0, .int .i64 0, .int .i64 0, .slice none 0 0, .slice none 0 0, .int .i64 0, .int .i64 0, .string ⟨#[]⟩, .int .i64 0, .int .i64 0, .int .i64 0, .int .i64 0] 71) = z3 at *
          generalize z2.heap.size = g9 at *
          (try simp only [Act.put, List.setIfInBounds_toArray, List.set_cons_zero, List.set_cons_succ])
          refine wpPT_alt (by kernel_rfl) (fun K hK => ?_) ?_
          rotate_left
          · exact wpPT_stop
          have hOld := hide hHeld
          clear hHeld
          refine wp_storeC 49 (.tmp 8) (.tmp 19) rfl 3 entw_size g8 0 49 rfl [.int .i64 0, .int .i64 0, .string ⟨#[]⟩] (cellsE (entO o)) rfl R8.out rfl (by exact Nat.le_refl _) (cellsE_one _) ?_
          intro w' hr' hg' hs'
          rw [splice_all [.int .i64 0, .int .i64 0, .string ⟨#[]⟩] (cellsE (entO o)) rfl] at hr'
          refine hK.out _ _ (hOld.out.grown hg' (by have := hOld.out.size; omega) (fun k hk => by have := Option.some.inj hk; omega)) (fun hHeld => ?_)
          clear hK K
          have HNS' := hide (HNS.out.mono (show Kept (Under B) _ _ from fun b hb => hg'.block b (by unfold Under at hb; have := hOld.out.size; omega) (fun e => by have := Option.some.inj e; unfold Under at hb; omega)) (fun _ h => h))
          clear HNS
          have HNS := HNS'
          clear HNS'
          have HD' := hide (HD.out.mono (show Kept (Under B) _ _ from fun b hb => hg'.block b (by unfold Under at hb; have := hOld.out.size; omega) (fun e => by have := Option.some.inj e; unfold Under at hb; omega)) (fun _ h => h))
          clear HD
          have HD := HD'
          clear HD'
          have HE' := hide (HE.out.mono (show Kept (Under B) _ _ from fun b hb => hg'.block b (by unfold Under at hb; have := hOld.out.size; omega) (fun e => by have := Option.some.inj e; unfold Under at hb; omega)) (fun _ h => h))
          clear HE
          have HE := HE'
          clear HE'
          have R9' := hide (R9.out.grown hg' (fun e => by have := Option.some.inj e; omega))
          clear R9
          have R9 := R9'
          clear R9'
          clear R8
          have R8 := hide hr'
          clear hg' hs' hr' hOld
          (try simp only [Act.put])
          refine wpPT_alt (by kernel_rfl) (fun K hK => ?_) ?_
          rotate_left
          · exact wpPT_stop
          have hOld := hide hHeld
          clear hHeld
          refine wp_storeC 71 (.tmp 9) (.tmp 20) rfl 13 nod_size g9 0 71 rfl (nodC nod0 (.slice none 0 0) (.slice none 0 0)) (nodC N (.slice A2 n2 c2) (.slice C2 m2 d2)) rfl R9.out rfl (by exact Nat.le_refl _) (nodC_one _ _ _ _ _ _ _) ?_
          intro w' hr' hg' hs'
          rw [splice_all (nodC nod0 (.slice none 0 0) (.slice none 0 0)) (nodC N (.slice A2 n2 c2) (.slice C2 m2 d2)) rfl] at hr'
          refine hK.out _ _ (hOld.out.grown hg' (by have := hOld.out.size; omega) (fun k hk => by have := Option.some.inj hk; omega)) (fun hHeld => ?_)
          clear hK K
          have HNS' := hide (HNS.out.mono (show Kept (Under B) _ _ from fun b hb => hg'.block b (by unfold Under at hb; have := hOld.out.size; omega) (fun e => by have := Option.some.inj e; unfold Under at hb; omega)) (fun _ h => h))
          clear HNS
          have HNS := HNS'
          clear HNS'
          have HD' := hide (HD.out.mono (show Kept (Under B) _ _ from fun b hb => hg'.block b (by unfold Under at hb; have := hOld.out.size; omega) (fun e => by have := Option.some.inj e; unfold Under at hb; omega)) (fun _ h => h))
          clear HD
          have HD := HD'
          clear HD'
          have HE' := hide (HE.out.mono (show Kept (Under B) _ _ from fun b hb => hg'.block b (by unfold Under at hb; have := hOld.out.size; omega) (fun e => by have := Option.some.inj e; unfold Under at hb; omega)) (fun _ h => h))
          clear HE
          have HE := HE'
          clear HE'
          have R8' := hide (R8.out.grown hg' (fun e => by have := Option.some.inj e; omega))
          clear R8
          have R8 := R8'
          clear R8'
          clear R9
          have R9 := hide hr'
          clear hg' hs' hr' hOld
          (try simp only [Act.put])
          refine wpPT_leaf ?_
          have HBX := hide hHeld
          clear hHeld
          go_wp2_with fail
          go_meet
          case rel => exact ⟨g8, g9, A2, n2, c2, C2, m2, d2, rfl, rfl, R8.out, R9.out, f2, HD.out, f4, HE.out, HBX.out, g8l, g9l⟩
        refine wpPT_alt (by kernel_rfl) (fun K hK => ?_) ?_
        · skip
          have hOld := hide hHeld
          clear hHeld
          unfold Oper.wp execOp
          go_simp
          have hal := below_new (below_self w') (.cells #[.int .i64 0, .int .i64 0, .int .i64 0, .int .i64 0, .slice none 0 0, .slice none 0 0, .int .i64 0, .int .i64 0, .string ⟨#[]⟩, .int .i64 0, .int .i64 0, .int .i64 0, .int .i64 0] 71)
          have hb' := hal.mono (B' := W4.heap.size) (by have := hOld.out.size; omega)
          have HFN := hide (show RowL (w'.alloc (.cells #[.int .i64 0, .int .i64 0, .int .i64 0, .int .i64 0, .slice none 0 0, .slice none 0 0, .int .i64 0, .int .i64 0, .string ⟨#[]⟩, .int .i64 0, .int .i64 0, .int .i64 0, .int .i64 0] 71)) w'.heap.size 71 (nodC nod0 (.slice none 0 0) (.slice none 0 0)) from RowL.new w' 71 (nodC nod0 (.slice none 0 0) (.slice none 0 0)))
          have g9l : W4.heap.size ≤ w'.heap.size := hOld.out.size
          refine hK.out _ _ (hOld.out.trans hb') (fun hHeld => ?_)
          clear hK K
          have HNS' := hide (HNS.out.under hal (by have := hOld.out.size; omega))
          clear HNS
          have HNS := HNS'
          clear HNS'
          have HD' := hide (HD.out.under hal (by have := hOld.out.size; omega))
          clear HD
          have HD := HD'
          clear HD'
          have HE' := hide (HE.out.under hal (by have := hOld.out.size; omega))
          clear HE
          have HE := HE'
          clear HE'
          have R9 := HFN
          clear hal hb' hOld HFN
          generalize w'.alloc (.cells #[.int .i64 0, .int .i64 0, .int .i64 0, .int .i64 0, .slice none 0 0, .slice none 0 0, .int .i64 0, .int .i64 0, .string ⟨#[]⟩, .int .i64 0, .int .i64 0, .int .i64 0, .int .i64 0] 71) = z2 at *
          generalize w'.heap.size = g9 at *
          (try simp only [Act.put, List.setIfInBounds_toArray, List.set_cons_zero, List.set_cons_succ])
          refine wpPT_alt (by kernel_rfl) (fun K hK => ?_) ?_
          rotate_left
          · exact wpPT_stop
          have hOld := hide hHeld
          clear hHeld
          unfold Oper.wp execOp
          go_simp
          have hal := below_new (below_self z2) (.cells #[.int .i64 0, .int .i64 0, .string ⟨#[]⟩] 49)
          have hb' := hal.mono (B' := W4.heap.size) (by have := hOld.out.size; omega)
          have HFN := hide (show RowL (z2.alloc (.cells #[.int .i64 0, .int .i64 0, .string ⟨#[]⟩] 49)) z2.heap.size 49 [.int .i64 0, .int .i64 0, .string ⟨#[]⟩] from RowL.new z2 49 [.int .i64 0, .int .i64 0, .string ⟨#[]⟩])
          have g8l : W4.heap.size ≤ z2.heap.size := hOld.out.size
          have g9ng8 : g9 < z2.heap.size := R9.out.lt
          refine hK.out _ _ (hOld.out.trans hb') (fun hHeld => ?_)
          clear hK K
          have HNS' := hide (HNS.out.under hal (by have := hOld.out.size; omega))
          clear HNS
          have HNS := HNS'
          clear HNS'
          have HD' := hide (HD.out.under hal (by have := hOld.out.size; omega))
          clear HD
          have HD := HD'
          clear HD'
          have HE' := hide (HE.out.under hal (by have := hOld.out.size; omega))
          clear HE
          have HE := HE'
          clear HE'
          have R9' := hide (R9.out.on hal)
          clear R9
          have R9 := R9'
          clear R9'
          have R8 := HFN
          clear hal hb' hOld HFN
          generalize z2.alloc (.cells #[.int .i64 0, .int .i64 0, .string ⟨#[]⟩] 49) = z3 at *
          generalize z2.heap.size = g8 at *
          (try simp only [Act.put, List.setIfInBounds_toArray, List.set_cons_zero, List.set_cons_succ])
          refine wpPT_alt (by kernel_rfl) (fun K hK => ?_) ?_
          rotate_left
          · exact wpPT_stop
          have hOld := hide hHeld
          clear hHeld
          refine wp_storeC 49 (.tmp 8) (.tmp 19) rfl 3 entw_size g8 0 49 rfl [.int .i64 0, .int .i64 0, .string ⟨#[]⟩] (cellsE (entO o)) rfl R8.out rfl (by exact Nat.le_refl _) (cellsE_one _) ?_
          intro w' hr' hg' hs'
          rw [splice_all [.int .i64 0, .int .i64 0, .string ⟨#[]⟩] (cellsE (entO o)) rfl] at hr'
          refine hK.out _ _ (hOld.out.grown hg' (by have := hOld.out.size; omega) (fun k hk => by have := Option.some.inj hk; omega)) (fun hHeld => ?_)
          clear hK K
          have HNS' := hide (HNS.out.mono (show Kept (Under B) _ _ from fun b hb => hg'.block b (by unfold Under at hb; have := hOld.out.size; omega) (fun e => by have := Option.some.inj e; unfold Under at hb; omega)) (fun _ h => h))
          clear HNS
          have HNS := HNS'
          clear HNS'
          have HD' := hide (HD.out.mono (show Kept (Under B) _ _ from fun b hb => hg'.block b (by unfold Under at hb; have := hOld.out.size; omega) (fun e => by have := Option.some.inj e; unfold Under at hb; omega)) (fun _ h => h))
          clear HD
          have HD := HD'
          clear HD'
          have HE' := hide (HE.out.mono (show Kept (Under B) _ _ from fun b hb => hg'.block b (by unfold Under at hb; have := hOld.out.size; omega) (fun e => by have := Option.some.inj e; unfold Under at hb; omega)) (fun _ h => h))
          clear HE
          have HE := HE'
          clear HE'
          have R9' := hide (R9.out.grown hg' (fun e => by have := Option.some.inj e; omega))
          clear R9
          have R9 := R9'
          clear R9'
          clear R8
          have R8 := hide hr'
          clear hg' hs' hr' hOld
          (try simp only [Act.put])
          refine wpPT_alt (by kernel_rfl) (fun K hK => ?_) ?_
          rotate_left
          · exact wpPT_stop
          have hOld := hide hHeld
          clear hHeld
          refine wp_storeC 71 (.tmp 9) (.tmp 20) rfl 13 nod_size g9 0 71 rfl (nodC nod0 (.slice none 0 0) (.slice none 0 0)) (nodC N (.slice A2 n2 c2) (.slice C2 m2 d2)) rfl R9.out rfl (by exact Nat.le_refl _) (nodC_one _ _ _ _ _ _ _) ?_
          intro w' hr' hg' hs'
          rw [splice_all (nodC nod0 (.slice none 0 0) (.slice none 0 0)) (nodC N (.slice A2 n2 c2) (.slice C2 m2 d2)) rfl] at hr'
          refine hK.out _ _ (hOld.out.grown hg' (by have := hOld.out.size; omega) (fun k hk => by have := Option.some.inj hk; omega)) (fun hHeld => ?_)
          clear hK K
          have HNS' := hide (HNS.out.mono (show Kept (Under B) _ _ from fun b hb => hg'.block b (by unfold Under at hb; have := hOld.out.size; omega) (fun e => by have := Option.some.inj e; unfold Under at hb; omega)) (fun _ h => h))
          clear HNS
          have HNS := HNS'
          clear HNS'
          have HD' := hide (HD.out.mono (show Kept (Under B) _ _ from fun b hb => hg'.block b (by unfold Under at hb; have := hOld.out.size; omega) (fun e => by have := Option.some.inj e; unfold Under at hb; omega)) (fun _ h => h))
          clear HD
          have HD := HD'
          clear HD'
          have HE' := hide (HE.out.mono (show Kept (Under B) _ _ from fun b hb => hg'.block b (by unfold Under at hb; have := hOld.out.size; omega) (fun e => by have := Option.some.inj e; unfold Under at hb; omega)) (fun _ h => h))
          clear HE
          have HE := HE'
          clear HE'
          have R8' := hide (R8.out.grown hg' (fun e => by have := Option.some.inj e; omega))
          clear R8
          have R8 := R8'
          clear R8'
          clear R9
          have R9 := hide hr'
          clear hg' hs' hr' hOld
          (try simp only [Act.put])
          refine wpPT_leaf ?_
          have HBX := hide hHeld
          clear hHeld
          go_wp2_with fail
          go_meet
          case rel => exact ⟨g8, g9, A2, n2, c2, C2, m2, d2, rfl, rfl, R8.out, R9.out, f2, HD.out, f4, HE.out, HBX.out, g8l, g9l⟩
        exact wpPT_stop
      refine wpPT_alt (by kernel_rfl) (fun K hK => ?_) ?_
      · skip
        have hOld := hide hHeld
        clear hHeld
        unfold Oper.wp execOp
        go_simp
        have hal := below_new (below_self w') (.cells #[.int .i64 0, .int .i64 0, .string ⟨#[]⟩] 49)
        have hb' := hal.mono (B' := W4.heap.size) (by have := hOld.out.size; omega)
        have HFN := hide (show RowL (w'.alloc (.cells #[.int .i64 0, .int .i64 0, .string ⟨#[]⟩] 49)) w'.heap.size 49 [.int .i64 0, .int .i64 0, .string ⟨#[]⟩] from RowL.new w' 49 [.int .i64 0, .int .i64 0, .string ⟨#[]⟩])
        have g8l : W4.heap.size ≤ w'.heap.size := hOld.out.size
        refine hK.out _ _ (hOld.out.trans hb') (fun hHeld => ?_)
        clear hK K
        have HNS' := hide (HNS.out.under hal (by have := hOld.out.size; omega))
        clear HNS
        have HNS := HNS'
        clear HNS'
        have R8 := HFN
        clear hal hb' hOld HFN
        generalize w'.alloc (.cells #[.int .i64 0, .int .i64 0, .string ⟨#[]⟩] 49) = z1 at *
        generalize w'.heap.size = g8 at *
        (try simp only [Act.put, List.setIfInBounds_toArray, List.set_cons_zero, List.set_cons_succ])
        refine wpPT_alt (by kernel_rfl) (fun K hK => ?_) ?_
        · skip
          have hOld := hide hHeld
          clear hHeld
          go_simp
          go_at_call 95
          refine (First_n HFO.out HNO.out (B := B) _ HNS.out (by have := hOld.out.size; omega) (by omega) hel).mono ?_
          rintro e w' ⟨A2, n2, c2, C2, m2, d2, rfl, f2, f3, f4, f5, hbel⟩
          have hb' := hbel.mono (B' := W4.heap.size) (by have := hOld.out.size; omega)
          have HD := hide f3
          clear f3
          have HE := hide f5
          clear f5
          have HNS' := hide (HNS.out.under hbel (by have := hOld.out.size; omega))
          clear HNS
          have HNS := HNS'
          clear HNS'
          have R8' := hide (R8.out.on hbel)
          clear R8
          have R8 := R8'
          clear R8'
          clear hbel
          refine hK.out _ _ (hOld.out.trans hb') (fun hHeld => ?_)
          clear hK K
          (try simp only [Act.put, List.setIfInBounds_toArray, List.set_cons_zero, List.set_cons_succ])
          refine wpPT_take (v := ?_) (by kernel_rfl) (fun wS hSw => ?_) ?_
          rotate_left
          · (try dsimp only at hSw); go_simp; (try with_reducible rfl)
          (try simp only [Act.put, List.setIfInBounds_toArray, List.set_cons_zero, List.set_cons_succ])
          refine wpPT_take (v := ?_) (by kernel_rfl) (fun wS hSw => ?_) ?_
          rotate_left
          · (try dsimp only at hSw); go_simp; (try with_reducible rfl)
          (try simp only [Act.put, List.setIfInBounds_toArray, List.set_cons_zero, List.set_cons_succ])
          refine wpPT_take (v := ?_) (by kernel_rfl) (fun wS hSw => ?_) ?_
          rotate_left
          · (try dsimp only at hSw); go_simp; (try with_reducible rfl)
          (try simp only [Act.put, List.setIfInBounds_toArray, List.set_cons_zero, List.set_cons_succ])
          refine wpPT_alt (by kernel_rfl) (fun K hK => ?_) ?_
          rotate_left
          · exact wpPT_stop
          have hOld := hide hHeld
          clear hHeld
          unfold Oper.wp execOp
          go_simp
          have hal := below_new (below_self w') (.cells #[.int .i64 0, .int .i64 0, .int .i64 0, .int .i64 0, .slice none 0 0, .slice none 0 0, .int .i64 0, .int .i64 0, .string ⟨#[]⟩, .int .i64 0, .int .i64 0, .int .i64 0, .int .i64 0] 71)
          have hb' := hal.mono (B' := W4.heap.size) (by have := hOld.out.size; omega)
          have HFN := hide (show RowL (w'.alloc (.cells #[.int .i64 0, .int .i64 0, .int .i64 0, .int .i64 0, .slice none 0 0, .slice none 0 0, .int .i64 0, .int .i64 0, .string ⟨#[]⟩, .int .i64 0, .int .i64 0, .int .i64 0, .int .i64 0] 71)) w'.heap.size 71 (nodC nod0 (.slice none 0 0) (.slice none 0 0)) from RowL.new w' 71 (nodC nod0 (.slice none 0 0) (.slice none 0 0)))
          have g9l : W4.heap.size ≤ w'.heap.size := hOld.out.size
          have g8ng9 : g8 < w'.heap.size := R8.out.lt
          refine hK.out _ _ (hOld.out.trans hb') (fun hHeld => ?_)
          clear hK K
          have HNS' := hide (HNS.out.under hal (by have := hOld.out.size; omega))
          clear HNS
          have HNS := HNS'
          clear HNS'
          have R8' := hide (R8.out.on hal)
          clear R8
          have R8 := R8'
          clear R8'
          have HD' := hide (HD.out.under hal (by have := hOld.out.size; omega))
          clear HD
          have HD := HD'
          clear HD'
          have HE' := hide (HE.out.under hal (by have := hOld.out.size; omega))
          clear HE
          have HE := HE'
          clear HE'
          have R9 := HFN
          clear hal hb' hOld HFN
          generalize w'.alloc (.cells #[.int .i64 0, .int .i64 0, .int .i64 0, .int .i64 0, .slice none 0 0, .slice none 0 0, .int .i64 0, .int .i64 0, .string ⟨#[]⟩, .int .i64 0, .int .i64 0, .int .i64 0, .int .i64 0] 71) = z3 at *
          generalize w'.heap.size = g9 at *
          (try simp only [Act.put, List.setIfInBounds_toArray, List.set_cons_zero, List.set_cons_succ])
          refine wpPT_alt (by kernel_rfl) (fun K hK => ?_) ?_
          rotate_left
          · exact wpPT_stop
          have hOld := hide hHeld
          clear hHeld
          refine wp_storeC 49 (.tmp 8) (.tmp 19) rfl 3 entw_size g8 0 49 rfl [.int .i64 0, .int .i64 0, .string ⟨#[]⟩] (cellsE (entO o)) rfl R8.out rfl (by exact Nat.le_refl _) (cellsE_one _) ?_
          intro w' hr' hg' hs'
          rw [splice_all [.int .i64 0, .int .i64 0, .string ⟨#[]⟩] (cellsE (entO o)) rfl] at hr'
          refine hK.out _ _ (hOld.out.grown hg' (by have := hOld.out.size; omega) (fun k hk => by have := Option.some.inj hk; omega)) (fun hHeld => ?_)
          clear hK K
          have HNS' := hide (HNS.out.mono (show Kept (Under B) _ _ from fun b hb => hg'.block b (by unfold Under at hb; have := hOld.out.size; omega) (fun e => by have := Option.some.inj e; unfold Under at hb; omega)) (fun _ h => h))
          clear HNS
          have HNS := HNS'
          clear HNS'
          have HD' := hide (HD.out.mono (show Kept (Under B) _ _ from fun b hb => hg'.block b (by unfold Under at hb; have := hOld.out.size; omega) (fun e => by have := Option.some.inj e; unfold Under at hb; omega)) (fun _ h => h))
          clear HD
          have HD := HD'
          clear HD'
          have HE' := hide (HE.out.mono (show Kept (Under B) _ _ from fun b hb => hg'.block b (by unfold Under at hb; have := hOld.out.size; omega) (fun e => by have := Option.some.inj e; unfold Under at hb; omega)) (fun _ h => h))
          clear HE
          have HE := HE'
          clear HE'
          have R9' := hide (R9.out.grown hg' (fun e => by have := Option.some.inj e; omega))
          clear R9
          have R9 := R9'
          clear R9'
          clear R8
          have R8 := hide hr'
          clear hg' hs' hr' hOld
          (try simp only [Act.put])
          refine wpPT_alt (by kernel_rfl) (fun K hK => ?_) ?_
          rotate_left
          · exact wpPT_stop
          have hOld := hide hHeld
          clear hHeld
          refine wp_storeC 71 (.tmp 9) (.tmp 20) rfl 13 nod_size g9 0 71 rfl (nodC nod0 (.slice none 0 0) (.slice none 0 0)) (nodC N (.slice A2 n2 c2) (.slice C2 m2 d2)) rfl R9.out rfl (by exact Nat.le_refl _) (nodC_one _ _ _ _ _ _ _) ?_
          intro w' hr' hg' hs'
          rw [splice_all (nodC nod0 (.slice none 0 0) (.slice none 0 0)) (nodC N (.slice A2 n2 c2) (.slice C2 m2 d2)) rfl] at hr'
          refine hK.out _ _ (hOld.out.grown hg' (by have := hOld.out.size; omega) (fun k hk => by have := Option.some.inj hk; omega)) (fun hHeld => ?_)
          clear hK K
          have HNS' := hide (HNS.out.mono (show Kept (Under B) _ _ from fun b hb => hg'.block b (by unfold Under at hb; have := hOld.out.size; omega) (fun e => by have := Option.some.inj e; unfold Under at hb; omega)) (fun _ h => h))
          clear HNS
          have HNS := HNS'
          clear HNS'
          have R8' := hide (R8.out.grown hg' (fun e => by have := Option.some.inj e; omega))
          clear R8
          have R8 := R8'
          clear R8'
          have HD' := hide (HD.out.mono (show Kept (Under B) _ _ from fun b hb => hg'.block b (by unfold Under at hb; have := hOld.out.size; omega) (fun e => by have := Option.some.inj e; unfold Under at hb; omega)) (fun _ h => h))
          clear HD
          have HD := HD'
          clear HD'
          have HE' := hide (HE.out.mono (show Kept (Under B) _ _ from fun b hb => hg'.block b (by unfold Under at hb; have := hOld.out.size; omega) (fun e => by have := Option.some.inj e; unfold Under at hb; omega)) (fun _ h => h))
          clear HE
          have HE := HE'
          clear HE'
          clear R9
          have R9 := hide hr'
          clear hg' hs' hr' hOld
          (try simp only [Act.put])
          refine wpPT_leaf ?_
          have HBX := hide hHeld
          clear hHeld
          go_wp2_with fail
          go_meet
          case rel => exact ⟨g8, g9, A2, n2, c2, C2, m2, d2, rfl, rfl, R8.out, R9.out, f2, HD.out, f4, HE.out, HBX.out, g8l, g9l⟩
        refine wpPT_alt (by kernel_rfl) (fun K hK => ?_) ?_
        · skip
          have hOld := hide hHeld
          clear hHeld
          unfold Oper.wp execOp
          go_simp
          have hal := below_new (below_self z1) (.cells #[.int .i64 0, .int .i64 0, .int .i64 0, .int .i64 0, .slice none 0 0, .slice none 0 0, .int .i64 0, .int .i64 0, .string ⟨#[]⟩, .int .i64 0, .int .i64 0, .int .i64 0, .int .i64 0] 71)
          have hb' := hal.mono (B' := W4.heap.size) (by have := hOld.out.size; omega)
          have HFN := hide (show RowL (z1.alloc (.cells #[.int .i64 0, .int .i64 0, .int .i64 0, .int .i64 0, .slice none 0 0, .slice none 0 0, .int .i64 0, .int .i64 0, .string ⟨#[]⟩, .int .i64 0, .int .i64 0, .int .i64 0, .int .i64 0] 71)) z1.heap.size 71 (nodC nod0 (.slice none 0 0) (.slice none 0 0)) from RowL.new z1 71 (nodC nod0 (.slice none 0 0) (.slice none 0 0)))
          have g9l : W4.heap.size ≤ z1.heap.size := hOld.out.size
          have g8ng9 : g8 < z1.heap.size := R8.out.lt
          refine hK.out _ _ (hOld.out.trans hb') (fun hHeld => ?_)
          clear hK K
          have HNS' := hide (HNS.out.under hal (by have := hOld.out.size; omega))
          clear HNS
          have HNS := HNS'
          clear HNS'
          have R8' := hide (R8.out.on hal)
          clear R8
          have R8 := R8'
          clear R8'
          have R9 := HFN
          clear hal hb' hOld HFN
          generalize z1.alloc (.cells #[.int .i64 0, .int .i64 0, .int .i64 0, .int .i64 0, .slice none 0 0, .slice none 0 0, .int .i64 0, .int .i64 0, .string ⟨#[]⟩, .int .i64 0, .int .i64 0, .int .i64 0, .int .i64 0] 71) = z2 at *
          generalize z1.heap.size = g9 at *
          (try simp only [Act.put, List.setIfInBounds_toArray, List.set_cons_zero, List.set_cons_succ])
          refine wpPT_alt (by kernel_rfl) (fun K hK => ?_) ?_
          rotate_left
          · exact wpPT_stop
          have hOld := hide hHeld
          clear hHeld
          go_simp
          go_at_call 95
          refine (First_n HFO.out HNO.out (B := B) _ HNS.out (by have := hOld.out.size; omega) (by omega) hel).mono ?_
          rintro e w' ⟨A2, n2, c2, C2, m2, d2, rfl, f2, f3, f4, f5, hbel⟩
          have hb' := hbel.mono (B' := W4.heap.size) (by have := hOld.out.size; omega)
          have HD := hide f3
          clear f3
          have HE := hide f5
          clear f5
          have HNS' := hide (HNS.out.under hbel (by have := hOld.out.size; omega))
          clear HNS
          have HNS := HNS'
          clear HNS'
          have R8' := hide (R8.out.on hbel)
          clear R8
          have R8 := R8'
          clear R8'
          have R9' := hide (R9.out.on hbel)
          clear R9
          have R9 := R9'
          clear R9'
          clear hbel
          refine hK.out _ _ (hOld.out.trans hb') (fun hHeld => ?_)
          clear hK K
          (try simp only [Act.put, List.setIfInBounds_toArray, List.set_cons_zero, List.set_cons_succ])
          refine wpPT_take (v := ?_) (by kernel_rfl) (fun wS hSw => ?_) ?_
          rotate_left
          · (try dsimp only at hSw); go_simp; (try with_reducible rfl)
          (try simp only [Act.put, List.setIfInBounds_toArray, List.set_cons_zero, List.set_cons_succ])
          refine wpPT_take (v := ?_) (by kernel_rfl) (fun wS hSw => ?_) ?_
          rotate_left
          · (try dsimp only at hSw); go_simp; (try with_reducible rfl)
          (try simp only [Act.put, List.setIfInBounds_toArray, List.set_cons_zero, List.set_cons_succ])
          refine wpPT_take (v := ?_) (by kernel_rfl) (fun wS hSw => ?_) ?_
          rotate_left
          · (try dsimp only at hSw); go_simp; (try with_reducible rfl)
          (try simp only [Act.put, List.setIfInBounds_toArray, List.set_cons_zero, List.set_cons_succ])
          refine wpPT_alt (by kernel_rfl) (fun K hK => ?_) ?_
          rotate_left
          · exact wpPT_stop
          have hOld := hide hHeld
          clear hHeld
          refine wp_storeC 49 (.tmp 8) (.tmp 19) rfl 3 entw_size g8 0 49 rfl [.int .i64 0, .int .i64 0, .string ⟨#[]⟩] (cellsE (entO o)) rfl R8.out rfl (by exact Nat.le_refl _) (cellsE_one _) ?_
          intro w' hr' hg' hs'
          rw [splice_all [.int .i64 0, .int .i64 0, .string ⟨#[]⟩] (cellsE (entO o)) rfl] at hr'
          refine hK.out _ _ (hOld.out.grown hg' (by have := hOld.out.size; omega) (fun k hk => by have := Option.some.inj hk; omega)) (fun hHeld => ?_)
          clear hK K
          have HNS' := hide (HNS.out.mono (show Kept (Under B) _ _ from fun b hb => hg'.block b (by unfold Under at hb; have := hOld.out.size; omega) (fun e => by have := Option.some.inj e; unfold Under at hb; omega)) (fun _ h => h))
          clear HNS
          have HNS := HNS'
          clear HNS'
          have R9' := hide (R9.out.grown hg' (fun e => by have := Option.some.inj e; omega))
          clear R9
          have R9 := R9'
          clear R9'
          have HD' := hide (HD.out.mono (show Kept (Under B) _ _ from fun b hb => hg'.block b (by unfold Under at hb; have := hOld.out.size; omega) (fun e => by have := Option.some.inj e; unfold Under at hb; omega)) (fun _ h => h))
          clear HD
          have HD := HD'
          clear HD'
          have HE' := hide (HE.out.mono (show Kept (Under B) _ _ from fun b hb => hg'.block b (by unfold Under at hb; have := hOld.out.size; omega) (fun e => by have := Option.some.inj e; unfold Under at hb; omega)) (fun _ h => h))
          clear HE
          have HE := HE'
          clear HE'
          clear R8
          have R8 := hide hr'
          clear hg' hs' hr' hOld
          (try simp only [Act.put])
          refine wpPT_alt (by kernel_rfl) (fun K hK => ?_) ?_
          rotate_left
          · exact wpPT_stop
          have hOld := hide hHeld
          clear hHeld
          refine wp_storeC 71 (.tmp 9) (.tmp 20) rfl 13 nod_size g9 0 71 rfl (nodC nod0 (.slice none 0 0) (.slice none 0 0)) (nodC N (.slice A2 n2 c2) (.slice C2 m2 d2)) rfl R9.out rfl (by exact Nat.le_refl _) (nodC_one _ _ _ _ _ _ _) ?_
          intro w' hr' hg' hs'
          rw [splice_all (nodC nod0 (.slice none 0 0) (.slice none 0 0)) (nodC N (.slice A2 n2 c2) (.slice C2 m2 d2)) rfl] at hr'
          refine hK.out _ _ (hOld.out.grown hg' (by have := hOld.out.size; omega) (fun k hk => by have := Option.some.inj hk; omega)) (fun hHeld => ?_)
          clear hK K
          have HNS' := hide (HNS.out.mono (show Kept (Under B) _ _ from fun b hb => hg'.block b (by unfold Under at hb; have := hOld.out.size; omega) (fun e => by have := Option.some.inj e; unfold Under at hb; omega)) (fun _ h => h))
          clear HNS
          have HNS := HNS'
          clear HNS'
          have R8' := hide (R8.out.grown hg' (fun e => by have := Option.some.inj e; omega))
          clear R8
          have R8 := R8'
          clear R8'
          have HD' := hide (HD.out.mono (show Kept (Under B) _ _ from fun b hb => hg'.block b (by unfold Under at hb; have := hOld.out.size; omega) (fun e => by have := Option.some.inj e; unfold Under at hb; omega)) (fun _ h => h))
          clear HD
          have HD := HD'
          clear HD'
          have HE' := hide (HE.out.mono (show Kept (Under B) _ _ from fun b hb => hg'.block b (by unfold Under at hb; have := hOld.out.size; omega) (fun e => by have := Option.some.inj e; unfold Under at hb; omega)) (fun _ h => h))
          clear HE
          have HE := HE'
          clear HE'
          clear R9
          have R9 := hide hr'
          clear hg' hs' hr' hOld
          (try simp only [Act.put])
          refine wpPT_leaf ?_
          have HBX := hide hHeld
          clear hHeld
          go_wp2_with fail
          go_meet
          case rel => exact ⟨g8, g9, A2, n2, c2, C2, m2, d2, rfl, rfl, R8.out, R9.out, f2, HD.out, f4, HE.out, HBX.out, g8l, g9l⟩
        exact wpPT_stop
      refine wpPT_alt (by kernel_rfl) (fun K hK => ?_) ?_
      · skip
        have hOld := hide hHeld
        clear hHeld
        unfold Oper.wp execOp
        go_simp
        have hal := below_new (below_self w') (.cells #[.int .i64 0, .int .i64 0, .int .i64 0, .int .i64 0, .slice none 0 0, .slice none 0 0, .int .i64 0, .int .i64 0, .string ⟨#[]⟩, .int .i64 0, .int .i64 0, .int .i64 0, .int .i64 0] 71)
        have hb' := hal.mono (B' := W4.heap.size) (by have := hOld.out.size; omega)
        have HFN := hide (show RowL (w'.alloc (.cells #[.int .i64 0, .int .i64 0, .int .i64 0, .int .i64 0, .slice none 0 0, .slice none 0 0, .int .i64 0, .int .i64 0, .string ⟨#[]⟩, .int .i64 0, .int .i64 0, .int .i64 0, .int .i64 0] 71)) w'.heap.size 71 (nodC nod0 (.slice none 0 0) (.slice none 0 0)) from RowL.new w' 71 (nodC nod0 (.slice none 0 0) (.slice none 0 0)))
        have g9l : W4.heap.size ≤ w'.heap.size := hOld.out.size
        refine hK.out _ _ (hOld.out.trans hb') (fun hHeld => ?_)
        clear hK K
        have HNS' := hide (HNS.out.under hal (by have := hOld.out.size; omega))
        clear HNS
        have HNS := HNS'
        clear HNS'
        have R9 := HFN
        clear hal hb' hOld HFN
        generalize w'.alloc (.cells #[.int .i64 0, .int .i64 0, .int .i64 0, .int .i64 0, .slice none 0 0, .slice none 0 0, .int .i64 0, .int .i64 0, .string ⟨#[]⟩, .int .i64 0, .int .i64 0, .int .i64 0, .int .i64 0] 71) = z1 at *
        generalize w'.heap.size = g9 at *
        (try simp only [Act.put, List.setIfInBounds_toArray, List.set_cons_zero, List.set_cons_succ])
        refine wpPT_alt (by kernel_rfl) (fun K hK => ?_) ?_
        · skip
          have hOld := hide hHeld
          clear hHeld
          go_simp
          go_at_call 95
          refine (First_n HFO.out HNO.out (B := B) _ HNS.out (by have := hOld.out.size; omega) (by omega) hel).mono ?_
          rintro e w' ⟨A2, n2, c2, C2, m2, d2, rfl, f2, f3, f4, f5, hbel⟩
          have hb' := hbel.mono (B' := W4.heap.size) (by have := hOld.out.size; omega)
          have HD := hide f3
          clear f3
          have HE := hide f5
          clear f5
          have HNS' := hide (HNS.out.under hbel (by have := hOld.out.size; omega))
          clear HNS
          have HNS := HNS'
          clear HNS'
          have R9' := hide (R9.out.on hbel)
          clear R9
          have R9 := R9'
          clear R9'
          clear hbel
          refine hK.out _ _ (hOld.out.trans hb') (fun hHeld => ?_)
          clear hK K
          (try simp only [Act.put, List.setIfInBounds_toArray, List.set_cons_zero, List.set_cons_succ])
          refine wpPT_take (v := ?_) (by kernel_rfl) (fun wS hSw => ?_) ?_
          rotate_left
          · (try dsimp only at hSw); go_simp; (try with_reducible rfl)
          (try simp only [Act.put, List.setIfInBounds_toArray, List.set_cons_zero, List.set_cons_succ])
          refine wpPT_take (v := ?_) (by kernel_rfl) (fun wS hSw => ?_) ?_
          rotate_left
          · (try dsimp only at hSw); go_simp; (try with_reducible rfl)
          (try simp only [Act.put, List.setIfInBounds_toArray, List.set_cons_zero, List.set_cons_succ])
          refine wpPT_take (v := ?_) (by kernel_rfl) (fun wS hSw => ?_) ?_
          rotate_left
          · (try dsimp only at hSw); go_simp; (try with_reducible rfl)
          (try simp only [Act.put, List.setIfInBounds_toArray, List.set_cons_zero, List.set_cons_succ])
          refine wpPT_alt (by kernel_rfl) (fun K hK => ?_) ?_
          rotate_left
          · exact wpPT_stop
          have hOld := hide hHeld
          clear hHeld
          unfold Oper.wp execOp
          go_simp
          have hal := below_new (below_self w') (.cells #[.int .i64 0, .int .i64 0, .string ⟨#[]⟩] 49)
          have hb' := hal.mono (B' := W4.heap.size) (by have := hOld.out.size; omega)
          have HFN := hide (show RowL (w'.alloc (.cells #[.int .i64 0, .int .i64 0, .string ⟨#[]⟩] 49)) w'.heap.size 49 [.int .i64 0, .int .i64 0, .string ⟨#[]⟩] from RowL.new w' 49 [.int .i64 0, .int .i64 0, .string ⟨#[]⟩])
          have g8l : W4.heap.size ≤ w'.heap.size := hOld.out.size
          have g9ng8 : g9 < w'.heap.size := R9.out.lt
          refine hK.out _ _ (hOld.out.trans hb') (fun hHeld => ?_)
          clear hK K
          have HNS' := hide (HNS.out.under hal (by have := hOld.out.size; omega))
          clear HNS
          have HNS := HNS'
          clear HNS'
          have R9' := hide (R9.out.on hal)
          clear R9
          have R9 := R9'
          clear R9'
          have HD' := hide (HD.out.under hal (by have := hOld.out.size; omega))
          clear HD
          have HD := HD'
          clear HD'
          have HE' := hide (HE.out.under hal (by have := hOld.out.size; omega))
          clear HE
          have HE := HE'
          clear HE'
          have R8 := HFN
          clear hal hb' hOld HFN
          generalize w'.alloc (.cells #[.int .i64 0, .int .i64 0, .string ⟨#[]⟩] 49) = z3 at *
          generalize w'.heap.size = g8 at *
          (try simp only [Act.put, List.setIfInBounds_toArray, List.set_cons_zero, List.set_cons_succ])
          refine wpPT_alt (by kernel_rfl) (fun K hK => ?_) ?_
          rotate_left
          · exact wpPT_stop
          have hOld := hide hHeld
          clear hHeld
          refine wp_storeC 49 (.tmp 8) (.tmp 19) rfl 3 entw_size g8 0 49 rfl [.int .i64 0, .int .i64 0, .string ⟨#[]⟩] (cellsE (entO o)) rfl R8.out rfl (by exact Nat.le_refl _) (cellsE_one _) ?_
          intro w' hr' hg' hs'
          rw [splice_all [.int .i64 0, .int .i64 0, .string ⟨#[]⟩] (cellsE (entO o)) rfl] at hr'
          refine hK.out _ _ (hOld.out.grown hg' (by have := hOld.out.size; omega) (fun k hk => by have := Option.some.inj hk; omega)) (fun hHeld => ?_)
          clear hK K
          have HNS' := hide (HNS.out.mono (show Kept (Under B) _ _ from fun b hb => hg'.block b (by unfold Under at hb; have := hOld.out.size; omega) (fun e => by have := Option.some.inj e; unfold Under at hb; omega)) (fun _ h => h))
          clear HNS
          have HNS := HNS'
          clear HNS'
          have R9' := hide (R9.out.grown hg' (fun e => by have := Option.some.inj e; omega))
          clear R9
          have R9 := R9'
          clear R9'
          have HD' := hide (HD.out.mono (show Kept (Under B) _ _ from fun b hb => hg'.block b (by unfold Under at hb; have := hOld.out.size; omega) (fun e => by have := Option.some.inj e; unfold Under at hb; omega)) (fun _ h => h))
          clear HD
          have HD := HD'
          clear HD'
          have HE' := hide (HE.out.mono (show Kept (Under B) _ _ from fun b hb => hg'.block b (by unfold Under at hb; have := hOld.out.size; omega) (fun e => by have := Option.some.inj e; unfold Under at hb; omega)) (fun _ h => h))
          clear HE
          have HE := HE'
          clear HE'
          clear R8
          have R8 := hide hr'
          clear hg' hs' hr' hOld
          (try simp only [Act.put])
          refine wpPT_alt (by kernel_rfl) (fun K hK => ?_) ?_
          rotate_left
          · exact wpPT_stop
          have hOld := hide hHeld
          clear hHeld
          refine wp_storeC 71 (.tmp 9) (.tmp 20) rfl 13 nod_size g9 0 71 rfl (nodC nod0 (.slice none 0 0) (.slice none 0 0)) (nodC N (.slice A2 n2 c2) (.slice C2 m2 d2)) rfl R9.out rfl (by exact Nat.le_refl _) (nodC_one _ _ _ _ _ _ _) ?_
          intro w' hr' hg' hs'
          rw [splice_all (nodC nod0 (.slice none 0 0) (.slice none 0 0)) (nodC N (.slice A2 n2 c2) (.slice C2 m2 d2)) rfl] at hr'
          refine hK.out _ _ (hOld.out.grown hg' (by have := hOld.out.size; omega) (fun k hk => by have := Option.some.inj hk; omega)) (fun hHeld => ?_)
          clear hK K
          have HNS' := hide (HNS.out.mono (show Kept (Under B) _ _ from fun b hb => hg'.block b (by unfold Under at hb; have := hOld.out.size; omega) (fun e => by have := Option.some.inj e; unfold Under at hb; omega)) (fun _ h => h))
          clear HNS
          have HNS := HNS'
          clear HNS'
          have HD' := hide (HD.out.mono (show Kept (Under B) _ _ from fun b hb => hg'.block b (by unfold Under at hb; have := hOld.out.size; omega) (fun e => by have := Option.some.inj e; unfold Under at hb; omega)) (fun _ h => h))
          clear HD
          have HD := HD'
          clear HD'
          have HE' := hide (HE.out.mono (show Kept (Under B) _ _ from fun b hb => hg'.block b (by unfold Under at hb; have := hOld.out.size; omega) (fun e => by have := Option.some.inj e; unfold Under at hb; omega)) (fun _ h => h))
          clear HE
          have HE := HE'
          clear HE'
          have R8' := hide (R8.out.grown hg' (fun e => by have := Option.some.inj e; omega))
          clear R8
          have R8 := R8'
          clear R8'
          clear R9
          have R9 := hide hr'
          clear hg' hs' hr' hOld
          (try simp only [Act.put])
          refine wpPT_leaf ?_
          have HBX := hide hHeld
          clear hHeld
          go_wp2_with fail
          go_meet
          case rel => exact ⟨g8, g9, A2, n2, c2, C2, m2, d2, rfl, rfl, R8.out, R9.out, f2, HD.out, f4, HE.out, HBX.out, g8l, g9l⟩
        refine wpPT_alt (by kernel_rfl) (fun K hK => ?_) ?_
        · skip
          have hOld := hide hHeld
          clear hHeld
          unfold Oper.wp execOp
          go_simp
          have hal := below_new (below_self z1) (.cells #[.int .i64 0, .int .i64 0, .string ⟨#[]⟩] 49)
          have hb' := hal.mono (B' := W4.heap.size) (by have := hOld.out.size; omega)
          have HFN := hide (show RowL (z1.alloc (.cells #[.int .i64 0, .int .i64 0, .string ⟨#[]⟩] 49)) z1.heap.size 49 [.int .i64 0, .int .i64 0, .string ⟨#[]⟩] from RowL.new z1 49 [.int .i64 0, .int .i64 0, .string ⟨#[]⟩])
          have g8l : W4.heap.size ≤ z1.heap.size := hOld.out.size
          have g9ng8 : g9 < z1.heap.size := R9.out.lt
          refine hK.out _ _ (hOld.out.trans hb') (fun hHeld => ?_)
          clear hK K
          have HNS' := hide (HNS.out.under hal (by have := hOld.out.size; omega))
          clear HNS
          have HNS := HNS'
          clear HNS'
          have R9' := hide (R9.out.on hal)
          clear R9
          have R9 := R9'
          clear R9'
          have R8 := HFN
          clear hal hb' hOld HFN
          generalize z1.alloc (.cells #[.int .i64 0, .int .i64 0, .string ⟨#[]⟩] 49) = z2 at *
          generalize z1.heap.size = g8 at *
          (try simp only [Act.put, List.setIfInBounds_toArray, List.set_cons_zero, List.set_cons_succ])
          refine wpPT_alt (by kernel_rfl) (fun K hK => ?_) ?_
          rotate_left
          · exact wpPT_stop
          have hOld := hide hHeld
          clear hHeld
          go_simp
          go_at_call 95
          refine (First_n HFO.out HNO.out (B := B) _ HNS.out (by have := hOld.out.size; omega) (by omega) hel).mono ?_
          rintro e w' ⟨A2, n2, c2, C2, m2, d2, rfl, f2, f3, f4, f5, hbel⟩
          have hb' := hbel.mono (B' := W4.heap.size) (by have := hOld.out.size; omega)
          have HD := hide f3
          clear f3
          have HE := hide f5
          clear f5
          have HNS' := hide (HNS.out.under hbel (by have := hOld.out.size; omega))
          clear HNS
          have HNS := HNS'
          clear HNS'
          have R9' := hide (R9.out.on hbel)
          clear R9
          have R9 := R9'
          clear R9'
          have R8' := hide (R8.out.on hbel)
          clear R8
          have R8 := R8'
          clear R8'
          clear hbel
          refine hK.out _ _ (hOld.out.trans hb') (fun hHeld => ?_)
          clear hK K
          (try simp only [Act.put, List.setIfInBounds_toArray, List.set_cons_zero, List.set_cons_succ])
          refine wpPT_take (v := ?_) (by kernel_rfl) (fun wS hSw => ?_) ?_
          rotate_left
          · (try dsimp only at hSw); go_simp; (try with_reducible rfl)
          (try simp only [Act.put, List.setIfInBounds_toArray, List.set_cons_zero, List.set_cons_succ])
          refine wpPT_take (v := ?_) (by kernel_rfl) (fun wS hSw => ?_) ?_
          rotate_left
          · (try dsimp only at hSw); go_simp; (try with_reducible rfl)
          (try simp only [Act.put, List.setIfInBounds_toArray, List.set_cons_zero, List.set_cons_succ])
          refine wpPT_take (v := ?_) (by kernel_rfl) (fun wS hSw => ?_) ?_
          rotate_left
          · (try dsimp only at hSw); go_simp; (try with_reducible rfl)
          (try simp only [Act.put, List.setIfInBounds_toArray, List.set_cons_zero, List.set_cons_succ])
          refine wpPT_alt (by kernel_rfl) (fun K hK => ?_) ?_
          rotate_left
          · exact wpPT_stop
          have hOld := hide hHeld
          clear hHeld
          refine wp_storeC 49 (.tmp 8) (.tmp 19) rfl 3 entw_size g8 0 49 rfl [.int .i64 0, .int .i64 0, .string ⟨#[]⟩] (cellsE (entO o)) rfl R8.out rfl (by exact Nat.le_refl _) (cellsE_one _) ?_
          intro w' hr' hg' hs'
          rw [splice_all [.int .i64 0, .int .i64 0, .string ⟨#[]⟩] (cellsE (entO o)) rfl] at hr'
          refine hK.out _ _ (hOld.out.grown hg' (by have := hOld.out.size; omega) (fun k hk => by have := Option.some.inj hk; omega)) (fun hHeld => ?_)
          clear hK K
          have HNS' := hide (HNS.out.mono (show Kept (Under B) _ _ from fun b hb => hg'.block b (by unfold Under at hb; have := hOld.out.size; omega) (fun e => by have := Option.some.inj e; unfold Under at hb; omega)) (fun _ h => h))
          clear HNS
          have HNS := HNS'
          clear HNS'
          have R9' := hide (R9.out.grown hg' (fun e => by have := Option.some.inj e; omega))
          clear R9
          have R9 := R9'
          clear R9'
          have HD' := hide (HD.out.mono (show Kept (Under B) _ _ from fun b hb => hg'.block b (by unfold Under at hb; have := hOld.out.size; omega) (fun e => by have := Option.some.inj e; unfold Under at hb; omega)) (fun _ h => h))
          clear HD
          have HD := HD'
          clear HD'
          have HE' := hide (HE.out.mono (show Kept (Under B) _ _ from fun b hb => hg'.block b (by unfold Under at hb; have := hOld.out.size; omega) (fun e => by have := Option.some.inj e; unfold Under at hb; omega)) (fun _ h => h))
          clear HE
          have HE := HE'
          clear HE'
          clear R8
          have R8 := hide hr'
          clear hg' hs' hr' hOld
          (try simp only [Act.put])
          refine wpPT_alt (by kernel_rfl) (fun K hK => ?_) ?_
          rotate_left
          · exact wpPT_stop
          have hOld := hide hHeld
          clear hHeld
          refine wp_storeC 71 (.tmp 9) (.tmp 20) rfl 13 nod_size g9 0 71 rfl (nodC nod0 (.slice none 0 0) (.slice none 0 0)) (nodC N (.slice A2 n2 c2) (.slice C2 m2 d2)) rfl R9.out rfl (by exact Nat.le_refl _) (nodC_one _ _ _ _ _ _ _) ?_
          intro w' hr' hg' hs'
          rw [splice_all (nodC nod0 (.slice none 0 0) (.slice none 0 0)) (nodC N (.slice A2 n2 c2) (.slice C2 m2 d2)) rfl] at hr'
          refine hK.out _ _ (hOld.out.grown hg' (by have := hOld.out.size; omega) (fun k hk => by have := Option.some.inj hk; omega)) (fun hHeld => ?_)
          clear hK K
          have HNS' := hide (HNS.out.mono (show Kept (Under B) _ _ from fun b hb => hg'.block b (by unfold Under at hb; have := hOld.out.size; omega) (fun e => by have := Option.some.inj e; unfold Under at hb; omega)) (fun _ h => h))
          clear HNS
          have HNS := HNS'
          clear HNS'
          have R8' := hide (R8.out.grown hg' (fun e => by have := Option.some.inj e; omega))
          clear R8
          have R8 := R8'
          clear R8'
          have HD' := hide (HD.out.mono (show Kept (Under B) _ _ from fun b hb => hg'.block b (by unfold Under at hb; have := hOld.out.size; omega) (fun e => by have := Option.some.inj e; unfold Under at hb; omega)) (fun _ h => h))
          clear HD
          have HD := HD'
          clear HD'
          have HE' := hide (HE.out.mono (show Kept (Under B) _ _ from fun b hb => hg'.block b (by unfold Under at hb; have := hOld.out.size; omega) (fun e => by have := Option.some.inj e; unfold Under at hb; omega)) (fun _ h => h))
          clear HE
          have HE := HE'
          clear HE'
          clear R9
          have R9 := hide hr'
          clear hg' hs' hr' hOld
          (try simp only [Act.put])
          refine wpPT_leaf ?_
          have HBX := hide hHeld
          clear hHeld
          go_wp2_with fail
          go_meet
          case rel => exact ⟨g8, g9, A2, n2, c2, C2, m2, d2, rfl, rfl, R8.out, R9.out, f2, HD.out, f4, HE.out, HBX.out, g8l, g9l⟩
        exact wpPT_stop
      exact wpPT_stop
    refine wpPT_alt (by kernel_rfl) (fun K hK => ?_) ?_
    · skip
      have hOld := hide hHeld
      clear hHeld
      unfold Oper.wp execOp
      go_simp
      have hal := below_new (below_self wd) (.cells #[.int .i64 0, .int .i64 0, .string ⟨#[]⟩] 49)
      have hb' := hal.mono (B' := W4.heap.size) (by have := hOld.out.size; omega)
      have HFN := hide (show RowL (wd.alloc (.cells #[.int .i64 0, .int .i64 0, .string ⟨#[]⟩] 49)) wd.heap.size 49 [.int .i64 0, .int .i64 0, .string ⟨#[]⟩] from RowL.new wd 49 [.int .i64 0, .int .i64 0, .string ⟨#[]⟩])
      have g8l : W4.heap.size ≤ wd.heap.size := hOld.out.size
      refine hK.out _ _ (hOld.out.trans hb') (fun hHeld => ?_)
      clear hK K
      have R8 := HFN
      clear hal hb' hOld HFN
      generalize wd.alloc (.cells #[.int .i64 0, .int .i64 0, .string ⟨#[]⟩] 49) = z0 at *
      generalize wd.heap.size = g8 at *
      (try simp only [Act.put, List.setIfInBounds_toArray, List.set_cons_zero, List.set_cons_succ])
      refine wpPT_alt (by kernel_rfl) (fun K hK => ?_) ?_
      · skip
        have hOld := hide hHeld
        clear hHeld
        go_simp
        go_at_call 106
        refine (Beneath_e HLY.out (B := B) _ (HL.out.under hOld.out (by omega)) (by have := hOld.out.size; omega) hm).mono ?_
        rintro e w' ⟨A1, n1, c1, rfl, e2, e3, hbel⟩
        have hb' := hbel.mono (B' := W4.heap.size) (by have := hOld.out.size; omega)
        have HNS := hide e3
        clear e3
        have R8' := hide (R8.out.on hbel)
        clear R8
        have R8 := R8'
        clear R8'
        clear hbel
        refine hK.out _ _ (hOld.out.trans hb') (fun hHeld => ?_)
        clear hK K
        (try simp only [Act.put, List.setIfInBounds_toArray, List.set_cons_zero, List.set_cons_succ])
        refine wpPT_alt (by kernel_rfl) (fun K hK => ?_) ?_
        · skip
          have hOld := hide hHeld
          clear hHeld
          go_simp
          go_at_call 95
          refine (First_n HFO.out HNO.out (B := B) _ HNS.out (by have := hOld.out.size; omega) (by omega) hel).mono ?_
          rintro e w' ⟨A2, n2, c2, C2, m2, d2, rfl, f2, f3, f4, f5, hbel⟩
          have hb' := hbel.mono (B' := W4.heap.size) (by have := hOld.out.size; omega)
          have HD := hide f3
          clear f3
          have HE := hide f5
          clear f5
          have R8' := hide (R8.out.on hbel)
          clear R8
          have R8 := R8'
          clear R8'
          have HNS' := hide (HNS.out.under hbel (by have := hOld.out.size; omega))
          clear HNS
          have HNS := HNS'
          clear HNS'
          clear hbel
          refine hK.out _ _ (hOld.out.trans hb') (fun hHeld => ?_)
          clear hK K
          (try simp only [Act.put, List.setIfInBounds_toArray, List.set_cons_zero, List.set_cons_succ])
          refine wpPT_take (v := ?_) (by kernel_rfl) (fun wS hSw => ?_) ?_
          rotate_left
          · (try dsimp only at hSw); go_simp; (try with_reducible rfl)
          (try simp only [Act.put, List.setIfInBounds_toArray, List.set_cons_zero, List.set_cons_succ])
          refine wpPT_take (v := ?_) (by kernel_rfl) (fun wS hSw => ?_) ?_
          rotate_left
          · (try dsimp only at hSw); go_simp; (try with_reducible rfl)
          (try simp only [Act.put, List.setIfInBounds_toArray, List.set_cons_zero, List.set_cons_succ])
          refine wpPT_take (v := ?_) (by kernel_rfl) (fun wS hSw => ?_) ?_
          rotate_left
          · (try dsimp only at hSw); go_simp; (try with_reducible rfl)
          (try simp only [Act.put, List.setIfInBounds_toArray, List.set_cons_zero, List.set_cons_succ])
          refine wpPT_alt (by kernel_rfl) (fun K hK => ?_) ?_
          rotate_left
          · exact wpPT_stop
          have hOld := hide hHeld
          clear hHeld
          unfold Oper.wp execOp
          go_simp
          have hal := below_new (below_self w') (.cells #[.int .i64 0, .int .i64 0, .int .i64 0, .int .i64 0, .slice none 0 0, .slice none 0 0, .int .i64 0, .int .i64 0, .string ⟨#[]⟩, .int .i64 0, .int .i64 0, .int .i64 0, .int .i64 0] 71)
          have hb' := hal.mono (B' := W4.heap.size) (by have := hOld.out.size; omega)
          have HFN := hide (show RowL (w'.alloc (.cells #[.int .i64 0, .int .i64 0, .int .i64 0, .int .i64 0, .slice none 0 0, .slice none 0 0, .int .i64 0, .int .i64 0, .string ⟨#[]⟩, .int .i64 0, .int .i64 0, .int .i64 0, .int .i64 0] 71)) w'.heap.size 71 (nodC nod0 (.slice none 0 0) (.slice none 0 0)) from RowL.new w' 71 (nodC nod0 (.slice none 0 0) (.slice none 0 0)))
          have g9l : W4.heap.size ≤ w'.heap.size := hOld.out.size
          have g8ng9 : g8 < w'.heap.size := R8.out.lt
          refine hK.out _ _ (hOld.out.trans hb') (fun hHeld => ?_)
          clear hK K
          have R8' := hide (R8.out.on hal)
          clear R8
          have R8 := R8'
          clear R8'
          have HNS' := hide (HNS.out.under hal (by have := hOld.out.size; omega))
          clear HNS
          have HNS := HNS'
          clear HNS'
          have HD' := hide (HD.out.under hal (by have := hOld.out.size; omega))
          clear HD
          have HD := HD'
          clear HD'
          have HE' := hide (HE.out.under hal (by have := hOld.out.size; omega))
          clear HE
          have HE := HE'
          clear HE'
          have R9 := HFN
          clear hal hb' hOld HFN
          generalize w'.alloc (.cells #[.int .i64 0, .int .i64 0, .int .i64 0, .int .i64 0, .slice none 0 0, .slice none 0 0, .int .i64 0, .int .i64 0, .string ⟨#[]⟩, .int .i64 0, .int .i64 0, .int .i64 0, .int .i64 0] 71) = z3 at *
          generalize w'.heap.size = g9 at *
          (try simp only [Act.put, List.setIfInBounds_toArray, List.set_cons_zero, List.set_cons_succ])
          refine wpPT_alt (by kernel_rfl) (fun K hK => ?_) ?_
          rotate_left
          · exact wpPT_stop
          have hOld := hide hHeld
          clear hHeld
          refine wp_storeC 49 (.tmp 8) (.tmp 19) rfl 3 entw_size g8 0 49 rfl [.int .i64 0, .int .i64 0, .string ⟨#[]⟩] (cellsE (entO o)) rfl R8.out rfl (by exact Nat.le_refl _) (cellsE_one _) ?_
          intro w' hr' hg' hs'
          rw [splice_all [.int .i64 0, .int .i64 0, .string ⟨#[]⟩] (cellsE (entO o)) rfl] at hr'
          refine hK.out _ _ (hOld.out.grown hg' (by have := hOld.out.size; omega) (fun k hk => by have := Option.some.inj hk; omega)) (fun hHeld => ?_)
          clear hK K
          have HNS' := hide (HNS.out.mono (show Kept (Under B) _ _ from fun b hb => hg'.block b (by unfold Under at hb; have := hOld.out.size; omega) (fun e => by have := Option.some.inj e; unfold Under at hb; omega)) (fun _ h => h))
          clear HNS
          have HNS := HNS'
          clear HNS'
          have HD' := hide (HD.out.mono (show Kept (Under B) _ _ from fun b hb => hg'.block b (by unfold Under at hb; have := hOld.out.size; omega) (fun e => by have := Option.some.inj e; unfold Under at hb; omega)) (fun _ h => h))
          clear HD
          have HD := HD'
          clear HD'
          have HE' := hide (HE.out.mono (show Kept (Under B) _ _ from fun b hb => hg'.block b (by unfold Under at hb; have := hOld.out.size; omega) (fun e => by have := Option.some.inj e; unfold Under at hb; omega)) (fun _ h => h))
          clear HE
          have HE := HE'
          clear HE'
          have R9' := hide (R9.out.grown hg' (fun e => by have := Option.some.inj e; omega))
          clear R9
          have R9 := R9'
          clear R9'
          clear R8
          have R8 := hide hr'
          clear hg' hs' hr' hOld
          (try simp only [Act.put])
          refine wpPT_alt (by kernel_rfl) (fun K hK => ?_) ?_
          rotate_left
          · exact wpPT_stop
          have hOld := hide hHeld
          clear hHeld
          refine wp_storeC 71 (.tmp 9) (.tmp 20) rfl 13 nod_size g9 0 71 rfl (nodC nod0 (.slice none 0 0) (.slice none 0 0)) (nodC N (.slice A2 n2 c2) (.slice C2 m2 d2)) rfl R9.out rfl (by exact Nat.le_refl _) (nodC_one _ _ _ _ _ _ _) ?_
          intro w' hr' hg' hs'
          rw [splice_all (nodC nod0 (.slice none 0 0) (.slice none 0 0)) (nodC N (.slice A2 n2 c2) (.slice C2 m2 d2)) rfl] at hr'
          refine hK.out _ _ (hOld.out.grown hg' (by have := hOld.out.size; omega) (fun k hk => by have := Option.some.inj hk; omega)) (fun hHeld => ?_)
          clear hK K
          have R8' := hide (R8.out.grown hg' (fun e => by have := Option.some.inj e; omega))
          clear R8
          have R8 := R8'
          clear R8'
          have HNS' := hide (HNS.out.mono (show Kept (Under B) _ _ from fun b hb => hg'.block b (by unfold Under at hb; have := hOld.out.size; omega) (fun e => by have := Option.some.inj e; unfold Under at hb; omega)) (fun _ h => h))
          clear HNS
          have HNS := HNS'
          clear HNS'
          have HD' := hide (HD.out.mono (show Kept (Under B) _ _ from fun b hb => hg'.block b (by unfold Under at hb; have := hOld.out.size; omega) (fun e => by have := Option.some.inj e; unfold Under at hb; omega)) (fun _ h => h))
          clear HD
          have HD := HD'
          clear HD'
          have HE' := hide (HE.out.mono (show Kept (Under B) _ _ from fun b hb => hg'.block b (by unfold Under at hb; have := hOld.out.size; omega) (fun e => by have := Option.some.inj e; unfold Under at hb; omega)) (fun _ h => h))
          clear HE
          have HE := HE'
          clear HE'
          clear R9
          have R9 := hide hr'
          clear hg' hs' hr' hOld
          (try simp only [Act.put])
          refine wpPT_leaf ?_
          have HBX := hide hHeld
          clear hHeld
          go_wp2_with fail
          go_meet
          case rel => exact ⟨g8, g9, A2, n2, c2, C2, m2, d2, rfl, rfl, R8.out, R9.out, f2, HD.out, f4, HE.out, HBX.out, g8l, g9l⟩
        refine wpPT_alt (by kernel_rfl) (fun K hK => ?_) ?_
        · skip
          have hOld := hide hHeld
          clear hHeld
          unfold Oper.wp execOp
          go_simp
          have hal := below_new (below_self w') (.cells #[.int .i64 0, .int .i64 0, .int .i64 0, .int .i64 0, .slice none 0 0, .slice none 0 0, .int .i64 0, .int .i64 0, .string ⟨#[]⟩, .int .i64 0, .int .i64 0, .int .i64 0, .int .i64 0] 71)
          have hb' := hal.mono (B' := W4.heap.size) (by have := hOld.out.size; omega)
          have HFN := hide (show RowL (w'.alloc (.cells #[.int .i64 0, .int .i64 0, .int .i64 0, .int .i64 0, .slice none 0 0, .slice none 0 0, .int .i64 0, .int .i64 0, .string ⟨#[]⟩, .int .i64 0, .int .i64 0, .int .i64 0, .int .i64 0] 71)) w'.heap.size 71 (nodC nod0 (.slice none 0 0) (.slice none 0 0)) from RowL.new w' 71 (nodC nod0 (.slice none 0 0) (.slice none 0 0)))
          have g9l : W4.heap.size ≤ w'.heap.size := hOld.out.size
          have g8ng9 : g8 < w'.heap.size := R8.out.lt
          refine hK.out _ _ (hOld.out.trans hb') (fun hHeld => ?_)
          clear hK K
          have R8' := hide (R8.out.on hal)
          clear R8
          have R8 := R8'
          clear R8'
          have HNS' := hide (HNS.out.under hal (by have := hOld.out.size; omega))
          clear HNS
          have HNS := HNS'
          clear HNS'
          have R9 := HFN
          clear hal hb' hOld HFN
          generalize w'.alloc (.cells #[.int .i64 0, .int .i64 0, .int .i64 0, .int .i64 0, .slice none 0 0, .slice none 0 0, .int .i64 0, .int .i64 0, .string ⟨#[]⟩, .int .i64 0, .int .i64 0, .int .i64 0, .int .i64 0] 71) = z2 at *
          generalize w'.heap.size = g9 at *
          (try simp only [Act.put, List.setIfInBounds_toArray, List.set_cons_zero, List.set_cons_succ])
          refine wpPT_alt (by kernel_rfl) (fun K hK => ?_) ?_
          rotate_left
          · exact wpPT_stop
          have hOld := hide hHeld
          clear hHeld
          go_simp
          go_at_call 95
          refine (First_n HFO.out HNO.out (B := B) _ HNS.out (by have := hOld.out.size; omega) (by omega) hel).mono ?_
          rintro e w' ⟨A2, n2, c2, C2, m2, d2, rfl, f2, f3, f4, f5, hbel⟩
          have hb' := hbel.mono (B' := W4.heap.size) (by have := hOld.out.size; omega)
          have HD := hide f3
          clear f3
          have HE := hide f5
          clear f5
          have R8' := hide (R8.out.on hbel)
          clear R8
          have R8 := R8'
          clear R8'
          have HNS' := hide (HNS.out.under hbel (by have := hOld.out.size; omega))
          clear HNS
          have HNS := HNS'
          clear HNS'
          have R9' := hide (R9.out.on hbel)
          clear R9
          have R9 := R9'
          clear R9'
          clear hbel
          refine hK.out _ _ (hOld.out.trans hb') (fun hHeld => ?_)
          clear hK K
          (try simp only [Act.put, List.setIfInBounds_toArray, List.set_cons_zero, List.set_cons_succ])
          refine wpPT_take (v := ?_) (by kernel_rfl) (fun wS hSw => ?_) ?_
          rotate_left
          · (try dsimp only at hSw); go_simp; (try with_reducible rfl)
          (try simp only [Act.put, List.setIfInBounds_toArray, List.set_cons_zero, List.set_cons_succ])
          refine wpPT_take (v := ?_) (by kernel_rfl) (fun wS hSw => ?_) ?_
          rotate_left
          · (try dsimp only at hSw); go_simp; (try with_reducible rfl)
          (try simp only [Act.put, List.setIfInBounds_toArray, List.set_cons_zero, List.set_cons_succ])
          refine wpPT_take (v := ?_) (by kernel_rfl) (fun wS hSw => ?_) ?_
          rotate_left
          · (try dsimp only at hSw); go_simp; (try with_reducible rfl)
          (try simp only [Act.put, List.setIfInBounds_toArray, List.set_cons_zero, List.set_cons_succ])
          refine wpPT_alt (by kernel_rfl) (fun K hK => ?_) ?_
          rotate_left
          · exact wpPT_stop
          have hOld := hide hHeld
          clear hHeld
          refine wp_storeC 49 (.tmp 8) (.tmp 19) rfl 3 entw_size g8 0 49 rfl [.int .i64 0, .int .i64 0, .string ⟨#[]⟩] (cellsE (entO o)) rfl R8.out rfl (by exact Nat.le_refl _) (cellsE_one _) ?_
          intro w' hr' hg' hs'
          rw [splice_all [.int .i64 0, .int .i64 0, .string ⟨#[]⟩] (cellsE (entO o)) rfl] at hr'
          refine hK.out _ _ (hOld.out.grown hg' (by have := hOld.out.size; omega) (fun k hk => by have := Option.some.inj hk; omega)) (fun hHeld => ?_)
          clear hK K
          have HNS' := hide (HNS.out.mono (show Kept (Under B) _ _ from fun b hb => hg'.block b (by unfold Under at hb; have := hOld.out.size; omega) (fun e => by have := Option.some.inj e; unfold Under at hb; omega)) (fun _ h => h))
          clear HNS
          have HNS := HNS'
          clear HNS'
          have R9' := hide (R9.out.grown hg' (fun e => by have := Option.some.inj e; omega))
          clear R9
          have R9 := R9'
          clear R9'
          have HD' := hide (HD.out.mono (show Kept (Under B) _ _ from fun b hb => hg'.block b (by unfold Under at hb; have := hOld.out.size; omega) (fun e => by have := Option.some.inj e; unfold Under at hb; omega)) (fun _ h => h))
          clear HD
          have HD := HD'
          clear HD'
          have HE' := hide (HE.out.mono (show Kept (Under B) _ _ from fun b hb => hg'.block b (by unfold Under at hb; have := hOld.out.size; omega) (fun e => by have := Option.some.inj e; unfold Under at hb; omega)) (fun _ h => h))
          clear HE
          have HE := HE'
          clear HE'
          clear R8
          have R8 := hide hr'
          clear hg' hs' hr' hOld
          (try simp only [Act.put])
          refine wpPT_alt (by kernel_rfl) (fun K hK => ?_) ?_
          rotate_left
          · exact wpPT_stop
          have hOld := hide hHeld
          clear hHeld
          refine wp_storeC 71 (.tmp 9) (.tmp 20) rfl 13 nod_size g9 0 71 rfl (nodC nod0 (.slice none 0 0) (.slice none 0 0)) (nodC N (.slice A2 n2 c2) (.slice C2 m2 d2)) rfl R9.out rfl (by exact Nat.le_refl _) (nodC_one _ _ _ _ _ _ _) ?_
          intro w' hr' hg' hs'
          rw [splice_all (nodC nod0 (.slice none 0 0) (.slice none 0 0)) (nodC N (.slice A2 n2 c2) (.slice C2 m2 d2)) rfl] at hr'
          refine hK.out _ _ (hOld.out.grown hg' (by have := hOld.out.size; omega) (fun k hk => by have := Option.some.inj hk; omega)) (fun hHeld => ?_)
          clear hK K
          have R8' := hide (R8.out.grown hg' (fun e => by have := Option.some.inj e; omega))
          clear R8
          have R8 := R8'
          clear R8'
          have HNS' := hide (HNS.out.mono (show Kept (Under B) _ _ from fun b hb => hg'.block b (by unfold Under at hb; have := hOld.out.size; omega) (fun e => by have := Option.some.inj e; unfold Under at hb; omega)) (fun _ h => h))
          clear HNS
          have HNS := HNS'
          clear HNS'
          have HD' := hide (HD.out.mono (show Kept (Under B) _ _ from fun b hb => hg'.block b (by unfold Under at hb; have := hOld.out.size; omega) (fun e => by have := Option.some.inj e; unfold Under at hb; omega)) (fun _ h => h))
          clear HD
          have HD := HD'
          clear HD'
          have HE' := hide (HE.out.mono (show Kept (Under B) _ _ from fun b hb => hg'.block b (by unfold Under at hb; have := hOld.out.size; omega) (fun e => by have := Option.some.inj e; unfold Under at hb; omega)) (fun _ h => h))
          clear HE
          have HE := HE'
          clear HE'
          clear R9
          have R9 := hide hr'
          clear hg' hs' hr' hOld
          (try simp only [Act.put])
          refine wpPT_leaf ?_
          have HBX := hide hHeld
          clear hHeld
          go_wp2_with fail
          go_meet
          case rel => exact ⟨g8, g9, A2, n2, c2, C2, m2, d2, rfl, rfl, R8.out, R9.out, f2, HD.out, f4, HE.out, HBX.out, g8l, g9l⟩
        exact wpPT_stop
      refine wpPT_alt (by kernel_rfl) (fun K hK => ?_) ?_
      · skip
        have hOld := hide hHeld
        clear hHeld
        unfold Oper.wp execOp
        go_simp
        have hal := below_new (below_self z0) (.cells #[.int .i64 0, .int .i64 0, .int .i64 0, .int .i64 0, .slice none 0 0, .slice none 0 0, .int .i64 0, .int .i64 0, .string ⟨#[]⟩, .int .i64 0, .int .i64 0, .int .i64 0, .int .i64 0] 71)
        have hb' := hal.mono (B' := W4.heap.size) (by have := hOld.out.size; omega)
        have HFN := hide (show RowL (z0.alloc (.cells #[.int .i64 0, .int .i64 0, .int .i64 0, .int .i64 0, .slice none 0 0, .slice none 0 0, .int .i64 0, .int .i64 0, .string ⟨#[]⟩, .int .i64 0, .int .i64 0, .int .i64 0, .int .i64 0] 71)) z0.heap.size 71 (nodC nod0 (.slice none 0 0) (.slice none 0 0)) from RowL.new z0 71 (nodC nod0 (.slice none 0 0) (.slice none 0 0)))
        have g9l : W4.heap.size ≤ z0.heap.size := hOld.out.size
        have g8ng9 : g8 < z0.heap.size := R8.out.lt
        refine hK.out _ _ (hOld.out.trans hb') (fun hHeld => ?_)
        clear hK K
        have R8' := hide (R8.out.on hal)
        clear R8
        have R8 := R8'
        clear R8'
        have R9 := HFN
        clear hal hb' hOld HFN
        generalize z0.alloc (.cells #[.int .i64 0, .int .i64 0, .int .i64 0, .int .i64 0, .slice none 0 0, .slice none 0 0, .int .i64 0, .int .i64 0, .string ⟨#[]⟩, .int .i64 0, .int .i64 0, .int .i64 0, .int .i64 0] 71) = z1 at *
        generalize z0.heap.size = g9 at *
        (try simp only [Act.put, List.setIfInBounds_toArray, List.set_cons_zero, List.set_cons_succ])
        refine wpPT_alt (by kernel_rfl) (fun K hK => ?_) ?_
        rotate_left
        · exact wpPT_stop
        have hOld := hide hHeld
        clear hHeld
        go_simp
        go_at_call 106
        refine (Beneath_e HLY.out (B := B) _ (HL.out.under hOld.out (by omega)) (by have := hOld.out.size; omega) hm).mono ?_
        rintro e w' ⟨A1, n1, c1, rfl, e2, e3, hbel⟩
        have hb' := hbel.mono (B' := W4.heap.size) (by have := hOld.out.size; omega)
        have HNS := hide e3
        clear e3
        have R8' := hide (R8.out.on hbel)
        clear R8
        have R8 := R8'
        clear R8'
        have R9' := hide (R9.out.on hbel)
        clear R9
        have R9 := R9'
        clear R9'
        clear hbel
        refine hK.out _ _ (hOld.out.trans hb') (fun hHeld => ?_)
        clear hK K
        (try simp only [Act.put, List.setIfInBounds_toArray, List.set_cons_zero, List.set_cons_succ])
        refine wpPT_alt (by kernel_rfl) (fun K hK => ?_) ?_
        rotate_left
        · exact wpPT_stop
        have hOld := hide hHeld
        clear hHeld
        go_simp
        go_at_call 95
        refine (First_n HFO.out HNO.out (B := B) _ HNS.out (by have := hOld.out.size; omega) (by omega) hel).mono ?_
        rintro e w' ⟨A2, n2, c2, C2, m2, d2, rfl, f2, f3, f4, f5, hbel⟩
        have hb' := hbel.mono (B' := W4.heap.size) (by have := hOld.out.size; omega)
        have HD := hide f3
        clear f3
        have HE := hide f5
        clear f5
        have R8' := hide (R8.out.on hbel)
        clear R8
        have R8 := R8'
        clear R8'
        have R9' := hide (R9.out.on hbel)
        clear R9
        have R9 := R9'
        clear R9'
        have HNS' := hide (HNS.out.under hbel (by have := hOld.out.size; omega))
        clear HNS
        have HNS := HNS'
        clear HNS'
        clear hbel
        refine hK.out _ _ (hOld.out.trans hb') (fun hHeld => ?_)
        clear hK K
        (try simp only [Act.put, List.setIfInBounds_toArray, List.set_cons_zero, List.set_cons_succ])
        refine wpPT_take (v := ?_) (by kernel_rfl) (fun wS hSw => ?_) ?_
        rotate_left
        · (try dsimp only at hSw); go_simp; (try with_reducible rfl)
        (try simp only [Act.put, List.setIfInBounds_toArray, List.set_cons_zero, List.set_cons_succ])
        refine wpPT_take (v := ?_) (by kernel_rfl) (fun wS hSw => ?_) ?_
        rotate_left
        · (try dsimp only at hSw); go_simp; (try with_reducible rfl)
        (try simp only [Act.put, List.setIfInBounds_toArray, List.set_cons_zero, List.set_cons_succ])
        refine wpPT_take (v := ?_) (by kernel_rfl) (fun wS hSw => ?_) ?_
        rotate_left
        · (try dsimp only at hSw); go_simp; (try with_reducible rfl)
        (try simp only [Act.put, List.setIfInBounds_toArray, List.set_cons_zero, List.set_cons_succ])
        refine wpPT_alt (by kernel_rfl) (fun K hK => ?_) ?_
        rotate_left
        · exact wpPT_stop
        have hOld := hide hHeld
        clear hHeld
        refine wp_storeC 49 (.tmp 8) (.tmp 19) rfl 3 entw_size g8 0 49 rfl [.int .i64 0, .int .i64 0, .string ⟨#[]⟩] (cellsE (entO o)) rfl R8.out rfl (by exact Nat.le_refl _) (cellsE_one _) ?_
        intro w' hr' hg' hs'
        rw [splice_all [.int .i64 0, .int .i64 0, .string ⟨#[]⟩] (cellsE (entO o)) rfl] at hr'
        refine hK.out _ _ (hOld.out.grown hg' (by have := hOld.out.size; omega) (fun k hk => by have := Option.some.inj hk; omega)) (fun hHeld => ?_)
        clear hK K
        have R9' := hide (R9.out.grown hg' (fun e => by have := Option.some.inj e; omega))
        clear R9
        have R9 := R9'
        clear R9'
        have HNS' := hide (HNS.out.mono (show Kept (Under B) _ _ from fun b hb => hg'.block b (by unfold Under at hb; have := hOld.out.size; omega) (fun e => by have := Option.some.inj e; unfold Under at hb; omega)) (fun _ h => h))
        clear HNS
        have HNS := HNS'
        clear HNS'
        have HD' := hide (HD.out.mono (show Kept (Under B) _ _ from fun b hb => hg'.block b (by unfold Under at hb; have := hOld.out.size; omega) (fun e => by have := Option.some.inj e; unfold Under at hb; omega)) (fun _ h => h))
        clear HD
        have HD := HD'
        clear HD'
        have HE' := hide (HE.out.mono (show Kept (Under B) _ _ from fun b hb => hg'.block b (by unfold Under at hb; have := hOld.out.size; omega) (fun e => by have := Option.some.inj e; unfold Under at hb; omega)) (fun _ h => h))
        clear HE
        have HE := HE'
        clear HE'
        clear R8
        have R8 := hide hr'
        clear hg' hs' hr' hOld
        (try simp only [Act.put])
        refine wpPT_alt (by kernel_rfl) (fun K hK => ?_) ?_
        rotate_left
        · exact wpPT_stop
        have hOld := hide hHeld
        clear hHeld
        refine wp_storeC 71 (.tmp 9) (.tmp 20) rfl 13 nod_size g9 0 71 rfl (nodC nod0 (.slice none 0 0) (.slice none 0 0)) (nodC N (.slice A2 n2 c2) (.slice C2 m2 d2)) rfl R9.out rfl (by exact Nat.le_refl _) (nodC_one _ _ _ _ _ _ _) ?_
        intro w' hr' hg' hs'
        rw [splice_all (nodC nod0 (.slice none 0 0) (.slice none 0 0)) (nodC N (.slice A2 n2 c2) (.slice C2 m2 d2)) rfl] at hr'
        refine hK.out _ _ (hOld.out.grown hg' (by have := hOld.out.size; omega) (fun k hk => by have := Option.some.inj hk; omega)) (fun hHeld => ?_)
        clear hK K
        have R8' := hide (R8.out.grown hg' (fun e => by have := Option.some.inj e; omega))
        clear R8
        have R8 := R8'
        clear R8'
        have HNS' := hide (HNS.out.mono (show Kept (Under B) _ _ from fun b hb => hg'.block b (by unfold Under at hb; have := hOld.out.size; omega) (fun e => by have := Option.some.inj e; unfold Under at hb; omega)) (fun _ h => h))
        clear HNS
        have HNS := HNS'
        clear HNS'
        have HD' := hide (HD.out.mono (show Kept (Under B) _ _ from fun b hb => hg'.block b (by unfold Under at hb; have := hOld.out.size; omega) (fun e => by have := Option.some.inj e; unfold Under at hb; omega)) (fun _ h => h))
        clear HD
        have HD := HD'
        clear HD'
        have HE' := hide (HE.out.mono (show Kept (Under B) _ _ from fun b hb => hg'.block b (by unfold Under at hb; have := hOld.out.size; omega) (fun e => by have := Option.some.inj e; unfold Under at hb; omega)) (fun _ h => h))
        clear HE
        have HE := HE'
        clear HE'
        clear R9
        have R9 := hide hr'
        clear hg' hs' hr' hOld
        (try simp only [Act.put])
        refine wpPT_leaf ?_
        have HBX := hide hHeld
        clear hHeld
        go_wp2_with fail
        go_meet
        case rel => exact ⟨g8, g9, A2, n2, c2, C2, m2, d2, rfl, rfl, R8.out, R9.out, f2, HD.out, f4, HE.out, HBX.out, g8l, g9l⟩
      exact wpPT_stop
    refine wpPT_alt (by kernel_rfl) (fun K hK => ?_) ?_
    · skip
      have hOld := hide hHeld
      clear hHeld
      unfold Oper.wp execOp
      go_simp
      have hal := below_new (below_self wd) (.cells #[.int .i64 0, .int .i64 0, .int .i64 0, .int .i64 0, .slice none 0 0, .slice none 0 0, .int .i64 0, .int .i64 0, .string ⟨#[]⟩, .int .i64 0, .int .i64 0, .int .i64 0, .int .i64 0] 71)
      have hb' := hal.mono (B' := W4.heap.size) (by have := hOld.out.size; omega)
      have HFN := hide (show RowL (wd.alloc (.cells #[.int .i64 0, .int .i64 0, .int .i64 0, .int .i64 0, .slice none 0 0, .slice none 0 0, .int .i64 0, .int .i64 0, .string ⟨#[]⟩, .int .i64 0, .int .i64 0, .int .i64 0, .int .i64 0] 71)) wd.heap.size 71 (nodC nod0 (.slice none 0 0) (.slice none 0 0)) from RowL.new wd 71 (nodC nod0 (.slice none 0 0) (.slice none 0 0)))
      have g9l : W4.heap.size ≤ wd.heap.size := hOld.out.size
      refine hK.out _ _ (hOld.out.trans hb') (fun hHeld => ?_)
      clear hK K
      have R9 := HFN
      clear hal hb' hOld HFN
      generalize wd.alloc (.cells #[.int .i64 0, .int .i64 0, .int .i64 0, .int .i64 0, .slice none 0 0, .slice none 0 0, .int .i64 0, .int .i64 0, .string ⟨#[]⟩, .int .i64 0, .int .i64 0, .int .i64 0, .int .i64 0] 71) = z0 at *
      generalize wd.heap.size = g9 at *
      (try simp only [Act.put, List.setIfInBounds_toArray, List.set_cons_zero, List.set_cons_succ])
      refine wpPT_alt (by kernel_rfl) (fun K hK => ?_) ?_
      · skip
        have hOld := hide hHeld
        clear hHeld
        go_simp
        go_at_call 106
        refine (Beneath_e HLY.out (B := B) _ (HL.out.under hOld.out (by omega)) (by have := hOld.out.size; omega) hm).mono ?_
        rintro e w' ⟨A1, n1, c1, rfl, e2, e3, hbel⟩
        have hb' := hbel.mono (B' := W4.heap.size) (by have := hOld.out.size; omega)
        have HNS := hide e3
        clear e3
        have R9' := hide (R9.out.on hbel)
        clear R9
        have R9 := R9'
        clear R9'
        clear hbel
        refine hK.out _ _ (hOld.out.trans hb') (fun hHeld => ?_)
        clear hK K
        (try simp only [Act.put, List.setIfInBounds_toArray, List.set_cons_zero, List.set_cons_succ])
        refine wpPT_alt (by kernel_rfl) (fun K hK => ?_) ?_
        · skip
          have hOld := hide hHeld
          clear hHeld
          go_simp
          go_at_call 95
          refine (First_n HFO.out HNO.out (B := B) _ HNS.out (by have := hOld.out.size; omega) (by omega) hel).mono ?_
          rintro e w' ⟨A2, n2, c2, C2, m2, d2, rfl, f2, f3, f4, f5, hbel⟩
          have hb' := hbel.mono (B' := W4.heap.size) (by have := hOld.out.size; omega)
          have HD := hide f3
          clear f3
          have HE := hide f5
          clear f5
          have R9' := hide (R9.out.on hbel)
          clear R9
          have R9 := R9'
          clear R9'
          have HNS' := hide (HNS.out.under hbel (by have := hOld.out.size; omega))
          clear HNS
          have HNS := HNS'
          clear HNS'
          clear hbel
          refine hK.out _ _ (hOld.out.trans hb') (fun hHeld => ?_)
          clear hK K
          (try simp only [Act.put, List.setIfInBounds_toArray, List.set_cons_zero, List.set_cons_succ])
          refine wpPT_take (v := ?_) (by kernel_rfl) (fun wS hSw => ?_) ?_
          rotate_left
          · (try dsimp only at hSw); go_simp; (try with_reducible rfl)
          (try simp only [Act.put, List.setIfInBounds_toArray, List.set_cons_zero, List.set_cons_succ])
          refine wpPT_take (v := ?_) (by kernel_rfl) (fun wS hSw => ?_) ?_
          rotate_left
          · (try dsimp only at hSw); go_simp; (try with_reducible rfl)
          (try simp only [Act.put, List.setIfInBounds_toArray, List.set_cons_zero, List.set_cons_succ])
          refine wpPT_take (v := ?_) (by kernel_rfl) (fun wS hSw => ?_) ?_
          rotate_left
          · (try dsimp only at hSw); go_simp; (try with_reducible rfl)
          (try simp only [Act.put, List.setIfInBounds_toArray, List.set_cons_zero, List.set_cons_succ])
          refine wpPT_alt (by kernel_rfl) (fun K hK => ?_) ?_
          rotate_left
          · exact wpPT_stop
          have hOld := hide hHeld
          clear hHeld
          unfold Oper.wp execOp
          go_simp
          have hal := below_new (below_self w') (.cells #[.int .i64 0, .int .i64 0, .string ⟨#[]⟩] 49)
          have hb' := hal.mono (B' := W4.heap.size) (by have := hOld.out.size; omega)
          have HFN := hide (show RowL (w'.alloc (.cells #[.int .i64 0, .int .i64 0, .string ⟨#[]⟩] 49)) w'.heap.size 49 [.int .i64 0, .int .i64 0, .string ⟨#[]⟩] from RowL.new w' 49 [.int .i64 0, .int .i64 0, .string ⟨#[]⟩])
          have g8l : W4.heap.size ≤ w'.heap.size := hOld.out.size
          have g9ng8 : g9 < w'.heap.size := R9.out.lt
          refine hK.out _ _ (hOld.out.trans hb') (fun hHeld => ?_)
          clear hK K
          have R9' := hide (R9.out.on hal)
          clear R9
          have R9 := R9'
          clear R9'
          have HNS' := hide (HNS.out.under hal (by have := hOld.out.size; omega))
          clear HNS
          have HNS := HNS'
          clear HNS'
          have HD' := hide (HD.out.under hal (by have := hOld.out.size; omega))
          clear HD
          have HD := HD'
          clear HD'
          have HE' := hide (HE.out.under hal (by have := hOld.out.size; omega))
          clear HE
          have HE := HE'
          clear HE'
          have R8 := HFN
          clear hal hb' hOld HFN
          generalize w'.alloc (.cells #[.int .i64 0, .int .i64 0, .string ⟨#[]⟩] 49) = z3 at *
          generalize w'.heap.size = g8 at *
          (try simp only [Act.put, List.setIfInBounds_toArray, List.set_cons_zero, List.set_cons_succ])
          refine wpPT_alt (by kernel_rfl) (fun K hK => ?_) ?_
          rotate_left
          · exact wpPT_stop
          have hOld := hide hHeld
          clear hHeld
          refine wp_storeC 49 (.tmp 8) (.tmp 19) rfl 3 entw_size g8 0 49 rfl [.int .i64 0, .int .i64 0, .string ⟨#[]⟩] (cellsE (entO o)) rfl R8.out rfl (by exact Nat.le_refl _) (cellsE_one _) ?_
          intro w' hr' hg' hs'
          rw [splice_all [.int .i64 0, .int .i64 0, .string ⟨#[]⟩] (cellsE (entO o)) rfl] at hr'
          refine hK.out _ _ (hOld.out.grown hg' (by have := hOld.out.size; omega) (fun k hk => by have := Option.some.inj hk; omega)) (fun hHeld => ?_)
          clear hK K
          have R9' := hide (R9.out.grown hg' (fun e => by have := Option.some.inj e; omega))
          clear R9
          have R9 := R9'
          clear R9'
          have HNS' := hide (HNS.out.mono (show Kept (Under B) _ _ from fun b hb => hg'.block b (by unfold Under at hb; have := hOld.out.size; omega) (fun e => by have := Option.some.inj e; unfold Under at hb; omega)) (fun _ h => h))
          clear HNS
          have HNS := HNS'
          clear HNS'
          have HD' := hide (HD.out.mono (show Kept (Under B) _ _ from fun b hb => hg'.block b (by unfold Under at hb; have := hOld.out.size; omega) (fun e => by have := Option.some.inj e; unfold Under at hb; omega)) (fun _ h => h))
          clear HD
          have HD := HD'
          clear HD'
          have HE' := hide (HE.out.mono (show Kept (Under B) _ _ from fun b hb => hg'.block b (by unfold Under at hb; have := hOld.out.size; omega) (fun e => by have := Option.some.inj e; unfold Under at hb; omega)) (fun _ h => h))
          clear HE
          have HE := HE'
          clear HE'
          clear R8
          have R8 := hide hr'
          clear hg' hs' hr' hOld
          (try simp only [Act.put])
          refine wpPT_alt (by kernel_rfl) (fun K hK => ?_) ?_
          rotate_left
          · exact wpPT_stop
          have hOld := hide hHeld
          clear hHeld
          refine wp_storeC 71 (.tmp 9) (.tmp 20) rfl 13 nod_size g9 0 71 rfl (nodC nod0 (.slice none 0 0) (.slice none 0 0)) (nodC N (.slice A2 n2 c2) (.slice C2 m2 d2)) rfl R9.out rfl (by exact Nat.le_refl _) (nodC_one _ _ _ _ _ _ _) ?_
          intro w' hr' hg' hs'
          rw [splice_all (nodC nod0 (.slice none 0 0) (.slice none 0 0)) (nodC N (.slice A2 n2 c2) (.slice C2 m2 d2)) rfl] at hr'
          refine hK.out _ _ (hOld.out.grown hg' (by have := hOld.out.size; omega) (fun k hk => by have := Option.some.inj hk; omega)) (fun hHeld => ?_)
          clear hK K
          have HNS' := hide (HNS.out.mono (show Kept (Under B) _ _ from fun b hb => hg'.block b (by unfold Under at hb; have := hOld.out.size; omega) (fun e => by have := Option.some.inj e; unfold Under at hb; omega)) (fun _ h => h))
          clear HNS
          have HNS := HNS'
          clear HNS'
          have HD' := hide (HD.out.mono (show Kept (Under B) _ _ from fun b hb => hg'.block b (by unfold Under at hb; have := hOld.out.size; omega) (fun e => by have := Option.some.inj e; unfold Under at hb; omega)) (fun _ h => h))
          clear HD
          have HD := HD'
          clear HD'
          have HE' := hide (HE.out.mono (show Kept (Under B) _ _ from fun b hb => hg'.block b (by unfold Under at hb; have := hOld.out.size; omega) (fun e => by have := Option.some.inj e; unfold Under at hb; omega)) (fun _ h => h))
          clear HE
          have HE := HE'
          clear HE'
          have R8' := hide (R8.out.grown hg' (fun e => by have := Option.some.inj e; omega))
          clear R8
          have R8 := R8'
          clear R8'
          clear R9
          have R9 := hide hr'
          clear hg' hs' hr' hOld
          (try simp only [Act.put])
          refine wpPT_leaf ?_
          have HBX := hide hHeld
          clear hHeld
          go_wp2_with fail
          go_meet
          case rel => exact ⟨g8, g9, A2, n2, c2, C2, m2, d2, rfl, rfl, R8.out, R9.out, f2, HD.out, f4, HE.out, HBX.out, g8l, g9l⟩
        refine wpPT_alt (by kernel_rfl) (fun K hK => ?_) ?_
        · skip
          have hOld := hide hHeld
          clear hHeld
          unfold Oper.wp execOp
          go_simp
          have hal := below_new (below_self w') (.cells #[.int .i64 0, .int .i64 0, .string ⟨#[]⟩] 49)
          have hb' := hal.mono (B' := W4.heap.size) (by have := hOld.out.size; omega)
          have HFN := hide (show RowL (w'.alloc (.cells #[.int .i64 0, .int .i64 0, .string ⟨#[]⟩] 49)) w'.heap.size 49 [.int .i64 0, .int .i64 0, .string ⟨#[]⟩] from RowL.new w' 49 [.int .i64 0, .int .i64 0, .string ⟨#[]⟩])
          have g8l : W4.heap.size ≤ w'.heap.size := hOld.out.size
          have g9ng8 : g9 < w'.heap.size := R9.out.lt
          refine hK.out _ _ (hOld.out.trans hb') (fun hHeld => ?_)
          clear hK K
          have R9' := hide (R9.out.on hal)
          clear R9
          have R9 := R9'
          clear R9'
          have HNS' := hide (HNS.out.under hal (by have := hOld.out.size; omega))
          clear HNS
          have HNS := HNS'
          clear HNS'
          have R8 := HFN
          clear hal hb' hOld HFN
          generalize w'.alloc (.cells #[.int .i64 0, .int .i64 0, .string ⟨#[]⟩] 49) = z2 at *
          generalize w'.heap.size = g8 at *
          (try simp only [Act.put, List.setIfInBounds_toArray, List.set_cons_zero, List.set_cons_succ])
          refine wpPT_alt (by kernel_rfl) (fun K hK => ?_) ?_
          rotate_left
          · exact wpPT_stop
          have hOld := hide hHeld
          clear hHeld
          go_simp
          go_at_call 95
          refine (First_n HFO.out HNO.out (B := B) _ HNS.out (by have := hOld.out.size; omega) (by omega) hel).mono ?_
          rintro e w' ⟨A2, n2, c2, C2, m2, d2, rfl, f2, f3, f4, f5, hbel⟩
          have hb' := hbel.mono (B' := W4.heap.size) (by have := hOld.out.size; omega)
          have HD := hide f3
          clear f3
          have HE := hide f5
          clear f5
          have R9' := hide (R9.out.on hbel)
          clear R9
          have R9 := R9'
          clear R9'
          have HNS' := hide (HNS.out.under hbel (by have := hOld.out.size; omega))
          clear HNS
          have HNS := HNS'
          clear HNS'
          have R8' := hide (R8.out.on hbel)
          clear R8
          have R8 := R8'
          clear R8'
          clear hbel
          refine hK.out _ _ (hOld.out.trans hb') (fun hHeld => ?_)
          clear hK K
          (try simp only [Act.put, List.setIfInBounds_toArray, List.set_cons_zero, List.set_cons_succ])
          refine wpPT_take (v := ?_) (by kernel_rfl) (fun wS hSw => ?_) ?_
          rotate_left
          · (try dsimp only at hSw); go_simp; (try with_reducible rfl)
          (try simp only [Act.put, List.setIfInBounds_toArray, List.set_cons_zero, List.set_cons_succ])
          refine wpPT_take (v := ?_) (by kernel_rfl) (fun wS hSw => ?_) ?_
          rotate_left
          · (try dsimp only at hSw); go_simp; (try with_reducible rfl)
          (try simp only [Act.put, List.setIfInBounds_toArray, List.set_cons_zero, List.set_cons_succ])
          refine wpPT_take (v := ?_) (by kernel_rfl) (fun wS hSw => ?_) ?_
          rotate_left
          · (try dsimp only at hSw); go_simp; (try with_reducible rfl)
          (try simp only [Act.put, List.setIfInBounds_toArray, List.set_cons_zero, List.set_cons_succ])
          refine wpPT_alt (by kernel_rfl) (fun K hK => ?_) ?_
          rotate_left
          · exact wpPT_stop
          have hOld := hide hHeld
          clear hHeld
          refine wp_storeC 49 (.tmp 8) (.tmp 19) rfl 3 entw_size g8 0 49 rfl [.int .i64 0, .int .i64 0, .string ⟨#[]⟩] (cellsE (entO o)) rfl R8.out rfl (by exact Nat.le_refl _) (cellsE_one _) ?_
          intro w' hr' hg' hs'
          rw [splice_all [.int .i64 0, .int .i64 0, .string ⟨#[]⟩] (cellsE (entO o)) rfl] at hr'
          refine hK.out _ _ (hOld.out.grown hg' (by have := hOld.out.size; omega) (fun k hk => by have := Option.some.inj hk; omega)) (fun hHeld => ?_)
          clear hK K
          have R9' := hide (R9.out.grown hg' (fun e => by have := Option.some.inj e; omega))
          clear R9
          have R9 := R9'
          clear R9'
          have HNS' := hide (HNS.out.mono (show Kept (Under B) _ _ from fun b hb => hg'.block b (by unfold Under at hb; have := hOld.out.size; omega) (fun e => by have := Option.some.inj e; unfold Under at hb; omega)) (fun _ h => h))
          clear HNS
          have HNS := HNS'
          clear HNS'
          have HD' := hide (HD.out.mono (show Kept (Under B) _ _ from fun b hb => hg'.block b (by unfold Under at hb; have := hOld.out.size; omega) (fun e => by have := Option.some.inj e; unfold Under at hb; omega)) (fun _ h => h))
          clear HD
          have HD := HD'
          clear HD'
          have HE' := hide (HE.out.mono (show Kept (Under B) _ _ from fun b hb => hg'.block b (by unfold Under at hb; have := hOld.out.size; omega) (fun e => by have := Option.some.inj e; unfold Under at hb; omega)) (fun _ h => h))
          clear HE
          have HE := HE'
          clear HE'
          clear R8
          have R8 := hide hr'
          clear hg' hs' hr' hOld
          (try simp only [Act.put])
          refine wpPT_alt (by kernel_rfl) (fun K hK => ?_) ?_
          rotate_left
          · exact wpPT_stop
          have hOld := hide hHeld
          clear hHeld
          refine wp_storeC 71 (.tmp 9) (.tmp 20) rfl 13 nod_size g9 0 71 rfl (nodC nod0 (.slice none 0 0) (.slice none 0 0)) (nodC N (.slice A2 n2 c2) (.slice C2 m2 d2)) rfl R9.out rfl (by exact Nat.le_refl _) (nodC_one _ _ _ _ _ _ _) ?_
          intro w' hr' hg' hs'
          rw [splice_all (nodC nod0 (.slice none 0 0) (.slice none 0 0)) (nodC N (.slice A2 n2 c2) (.slice C2 m2 d2)) rfl] at hr'
          refine hK.out _ _ (hOld.out.grown hg' (by have := hOld.out.size; omega) (fun k hk => by have := Option.some.inj hk; omega)) (fun hHeld => ?_)
          clear hK K
          have HNS' := hide (HNS.out.mono (show Kept (Under B) _ _ from fun b hb => hg'.block b (by unfold Under at hb; have := hOld.out.size; omega) (fun e => by have := Option.some.inj e; unfold Under at hb; omega)) (fun _ h => h))
          clear HNS
          have HNS := HNS'
          clear HNS'
          have R8' := hide (R8.out.grown hg' (fun e => by have := Option.some.inj e; omega))
          clear R8
          have R8 := R8'
          clear R8'
          have HD' := hide (HD.out.mono (show Kept (Under B) _ _ from fun b hb => hg'.block b (by unfold Under at hb; have := hOld.out.size; omega) (fun e => by have := Option.some.inj e; unfold Under at hb; omega)) (fun _ h => h))
          clear HD
          have HD := HD'
          clear HD'
          have HE' := hide (HE.out.mono (show Kept (Under B) _ _ from fun b hb => hg'.block b (by unfold Under at hb; have := hOld.out.size; omega) (fun e => by have := Option.some.inj e; unfold Under at hb; omega)) (fun _ h => h))
          clear HE
          have HE := HE'
          clear HE'
          clear R9
          have R9 := hide hr'
          clear hg' hs' hr' hOld
          (try simp only [Act.put])
          refine wpPT_leaf ?_
          have HBX := hide hHeld
          clear hHeld
          go_wp2_with fail
          go_meet
          case rel => exact ⟨g8, g9, A2, n2, c2, C2, m2, d2, rfl, rfl, R8.out, R9.out, f2, HD.out, f4, HE.out, HBX.out, g8l, g9l⟩
        exact wpPT_stop
      refine wpPT_alt (by kernel_rfl) (fun K hK => ?_) ?_
      · skip
        have hOld := hide hHeld
        clear hHeld
        unfold Oper.wp execOp
        go_simp
        have hal := below_new (below_self z0) (.cells #[.int .i64 0, .int .i64 0, .string ⟨#[]⟩] 49)
        have hb' := hal.mono (B' := W4.heap.size) (by have := hOld.out.size; omega)
        have HFN := hide (show RowL (z0.alloc (.cells #[.int .i64 0, .int .i64 0, .string ⟨#[]⟩] 49)) z0.heap.size 49 [.int .i64 0, .int .i64 0, .string ⟨#[]⟩] from RowL.new z0 49 [.int .i64 0, .int .i64 0, .string ⟨#[]⟩])
        have g8l : W4.heap.size ≤ z0.heap.size := hOld.out.size
        have g9ng8 : g9 < z0.heap.size := R9.out.lt
        refine hK.out _ _ (hOld.out.trans hb') (fun hHeld => ?_)
        clear hK K
        have R9' := hide (R9.out.on hal)
        clear R9
        have R9 := R9'
        clear R9'
        have R8 := HFN
        clear hal hb' hOld HFN
        generalize z0.alloc (.cells #[.int .i64 0, .int .i64 0, .string ⟨#[]⟩] 49) = z1 at *
        generalize z0.heap.size = g8 at *
        (try simp only [Act.put, List.setIfInBounds_toArray, List.set_cons_zero, List.set_cons_succ])
        refine wpPT_alt (by kernel_rfl) (fun K hK => ?_) ?_
        rotate_left
        · exact wpPT_stop
        have hOld := hide hHeld
        clear hHeld
        go_simp
        go_at_call 106
        refine (Beneath_e HLY.out (B := B) _ (HL.out.under hOld.out (by omega)) (by have := hOld.out.size; omega) hm).mono ?_
        rintro e w' ⟨A1, n1, c1, rfl, e2, e3, hbel⟩
        have hb' := hbel.mono (B' := W4.heap.size) (by have := hOld.out.size; omega)
        have HNS := hide e3
        clear e3
        have R9' := hide (R9.out.on hbel)
        clear R9
        have R9 := R9'
        clear R9'
        have R8' := hide (R8.out.on hbel)
        clear R8
        have R8 := R8'
        clear R8'
        clear hbel
        refine hK.out _ _ (hOld.out.trans hb') (fun hHeld => ?_)
        clear hK K
        (try simp only [Act.put, List.setIfInBounds_toArray, List.set_cons_zero, List.set_cons_succ])
        refine wpPT_alt (by kernel_rfl) (fun K hK => ?_) ?_
        rotate_left
        · exact wpPT_stop
        have hOld := hide hHeld
        clear hHeld
        go_simp
        go_at_call 95
        refine (First_n HFO.out HNO.out (B := B) _ HNS.out (by have := hOld.out.size; omega) (by omega) hel).mono ?_
        rintro e w' ⟨A2, n2, c2, C2, m2, d2, rfl, f2, f3, f4, f5, hbel⟩
        have hb' := hbel.mono (B' := W4.heap.size) (by have := hOld.out.size; omega)
        have HD := hide f3
        clear f3
        have HE := hide f5
        clear f5
        have R9' := hide (R9.out.on hbel)
        clear R9
        have R9 := R9'
        clear R9'
        have R8' := hide (R8.out.on hbel)
        clear R8
        have R8 := R8'
        clear R8'
        have HNS' := hide (HNS.out.under hbel (by have := hOld.out.size; omega))
        clear HNS
        have HNS := HNS'
        clear HNS'
        clear hbel
        refine hK.out _ _ (hOld.out.trans hb') (fun hHeld => ?_)
        clear hK K
        (try simp only [Act.put, List.setIfInBounds_toArray, List.set_cons_zero, List.set_cons_succ])
        refine wpPT_take (v := ?_) (by kernel_rfl) (fun wS hSw => ?_) ?_
        rotate_left
        · (try dsimp only at hSw); go_simp; (try with_reducible rfl)
        (try simp only [Act.put, List.setIfInBounds_toArray, List.set_cons_zero, List.set_cons_succ])
        refine wpPT_take (v := ?_) (by kernel_rfl) (fun wS hSw => ?_) ?_
        rotate_left
        · (try dsimp only at hSw); go_simp; (try with_reducible rfl)
        (try simp only [Act.put, List.setIfInBounds_toArray, List.set_cons_zero, List.set_cons_succ])
        refine wpPT_take (v := ?_) (by kernel_rfl) (fun wS hSw => ?_) ?_
        rotate_left
        · (try dsimp only at hSw); go_simp; (try with_reducible rfl)
        (try simp only [Act.put, List.setIfInBounds_toArray, List.set_cons_zero, List.set_cons_succ])
        refine wpPT_alt (by kernel_rfl) (fun K hK => ?_) ?_
        rotate_left
        · exact wpPT_stop
        have hOld := hide hHeld
        clear hHeld
        refine wp_storeC 49 (.tmp 8) (.tmp 19) rfl 3 entw_size g8 0 49 rfl [.int .i64 0, .int .i64 0, .string ⟨#[]⟩] (cellsE (entO o)) rfl R8.out rfl (by exact Nat.le_refl _) (cellsE_one _) ?_
        intro w' hr' hg' hs'
        rw [splice_all [.int .i64 0, .int .i64 0, .string ⟨#[]⟩] (cellsE (entO o)) rfl] at hr'
        refine hK.out _ _ (hOld.out.grown hg' (by have := hOld.out.size; omega) (fun k hk => by have := Option.some.inj hk; omega)) (fun hHeld => ?_)
        clear hK K
        have R9' := hide (R9.out.grown hg' (fun e => by have := Option.some.inj e; omega))
        clear R9
        have R9 := R9'
        clear R9'
        have HNS' := hide (HNS.out.mono (show Kept (Under B) _ _ from fun b hb => hg'.block b (by unfold Under at hb; have := hOld.out.size; omega) (fun e => by have := Option.some.inj e; unfold Under at hb; omega)) (fun _ h => h))
        clear HNS
        have HNS := HNS'
        clear HNS'
        have HD' := hide (HD.out.mono (show Kept (Under B) _ _ from fun b hb => hg'.block b (by unfold Under at hb; have := hOld.out.size; omega) (fun e => by have := Option.some.inj e; unfold Under at hb; omega)) (fun _ h => h))
        clear HD
        have HD := HD'
        clear HD'
        have HE' := hide (HE.out.mono (show Kept (Under B) _ _ from fun b hb => hg'.block b (by unfold Under at hb; have := hOld.out.size; omega) (fun e => by have := Option.some.inj e; unfold Under at hb; omega)) (fun _ h => h))
        clear HE
        have HE := HE'
        clear HE'
        clear R8
        have R8 := hide hr'
        clear hg' hs' hr' hOld
        (try simp only [Act.put])
        refine wpPT_alt (by kernel_rfl) (fun K hK => ?_) ?_
        rotate_left
        · exact wpPT_stop
        have hOld := hide hHeld
        clear hHeld
        refine wp_storeC 71 (.tmp 9) (.tmp 20) rfl 13 nod_size g9 0 71 rfl (nodC nod0 (.slice none 0 0) (.slice none 0 0)) (nodC N (.slice A2 n2 c2) (.slice C2 m2 d2)) rfl R9.out rfl (by exact Nat.le_refl _) (nodC_one _ _ _ _ _ _ _) ?_
        intro w' hr' hg' hs'
        rw [splice_all (nodC nod0 (.slice none 0 0) (.slice none 0 0)) (nodC N (.slice A2 n2 c2) (.slice C2 m2 d2)) rfl] at hr'
        refine hK.out _ _ (hOld.out.grown hg' (by have := hOld.out.size; omega) (fun k hk => by have := Option.some.inj hk; omega)) (fun hHeld => ?_)
        clear hK K
        have R8' := hide (R8.out.grown hg' (fun e => by have := Option.some.inj e; omega))
        clear R8
        have R8 := R8'
        clear R8'
        have HNS' := hide (HNS.out.mono (show Kept (Under B) _ _ from fun b hb => hg'.block b (by unfold Under at hb; have := hOld.out.size; omega) (fun e => by have := Option.some.inj e; unfold Under at hb; omega)) (fun _ h => h))
        clear HNS
        have HNS := HNS'
        clear HNS'
        have HD' := hide (HD.out.mono (show Kept (Under B) _ _ from fun b hb => hg'.block b (by unfold Under at hb; have := hOld.out.size; omega) (fun e => by have := Option.some.inj e; unfold Under at hb; omega)) (fun _ h => h))
        clear HD
        have HD := HD'
        clear HD'
        have HE' := hide (HE.out.mono (show Kept (Under B) _ _ from fun b hb => hg'.block b (by unfold Under at hb; have := hOld.out.size; omega) (fun e => by have := Option.some.inj e; unfold Under at hb; omega)) (fun _ h => h))
        clear HE
        have HE := HE'
        clear HE'
        clear R9
        have R9 := hide hr'
        clear hg' hs' hr' hOld
        (try simp only [Act.put])
        refine wpPT_leaf ?_
        have HBX := hide hHeld
        clear hHeld
        go_wp2_with fail
        go_meet
        case rel => exact ⟨g8, g9, A2, n2, c2, C2, m2, d2, rfl, rfl, R8.out, R9.out, f2, HD.out, f4, HE.out, HBX.out, g8l, g9l⟩
      exact wpPT_stop
    exact wpPT_stop
  case rest =>
    obtain ⟨g8, g9, A2, n2, c2, C2, m2, d2, rfl, rfl, hr8, hr9, hn2, hd, hm2', he, hbx, hg8, hg9⟩ := hcut
    have HFS := hide (show FirstS wc w.heap.size g8 g9 (w.heap.size + 1 + 1) (w.heap.size + 1 + 1 + 1) p (cellsE (entO o)) (nodC N (.slice A2 n2 c2) (.slice C2 m2 d2)) wc from ⟨⟨hr8, R1.out.on hbx⟩, hr9, ⟨_, R2.out.on hbx, rfl⟩, ⟨_, R3.out.on hbx, rfl⟩, Below.refl _ _⟩)
    have HD := hide hd
    have HE := hide he
    have HBC := hide (HB4.out.trans (hbx.mono (by omega)))
    have hsc := hbx.size
    have hl8 := hr8.lt
    have hl9 := hr9.lt
    clear hr8 hr9 hd he hbx
    go_wp2_with fail
    refine wp_region_planN (fun w' => FirstS wc w.heap.size g8 g9 (w.heap.size + 1 + 1) (w.heap.size + 1 + 1 + 1) p (cellsE (entO o)) (nodC N (.slice A2 n2 c2) (.slice C2 m2 d2)) w') [(0, true), (1, true), (2, true), (3, true), (4, true), (5, true), (6, false), (7, false)] (by kernel_rfl) (by kernel_rfl) (by kernel_rfl) (by kernel_rfl) rfl (fun _ _ _ _ _ h => h) (HFS.out.drew) (fun hHeld => ?_)
    simp only [planOps, List.filterMap_cons, List.filterMap_nil, List.getElem?_toArray, List.getElem?_cons_succ, List.getElem?_cons_zero, Option.map_some]
    refine wpPlan_take (v := ?_) (by kernel_rfl) (fun wS hSw => ?_) ?_
    rotate_left
    · (try dsimp only at hSw); go_simp; (try with_reducible rfl)
    (try simp only [Act.put, List.setIfInBounds_toArray, List.set_cons_zero, List.set_cons_succ])
    refine wpPlan_take (v := ?_) (by kernel_rfl) (fun wS hSw => ?_) ?_
    rotate_left
    · have qx := (hSw.1.2.cell 0).trans (show (prC p)[0]? = some (.int .i64 p.1) from rfl); go_simp; (try with_reducible rfl)
    (try simp only [Act.put, List.setIfInBounds_toArray, List.set_cons_zero, List.set_cons_succ])
    refine wpPlan_take (v := ?_) (by kernel_rfl) (fun wS hSw => ?_) ?_
    rotate_left
    · (try dsimp only at hSw); go_simp; (try with_reducible rfl)
    (try simp only [Act.put, List.setIfInBounds_toArray, List.set_cons_zero, List.set_cons_succ])
    refine wpPlan_take (v := ?_) (by kernel_rfl) (fun wS hSw => ?_) ?_
    rotate_left
    · have qx := (hSw.1.1.cell 1).trans (show (cellsE (entO o))[1]? = some (.int .i64 (entO o).ino) from rfl); go_simp; (try with_reducible rfl)
    (try simp only [Act.put, List.setIfInBounds_toArray, List.set_cons_zero, List.set_cons_succ])
    refine wpPlan_take (v := ?_) (by kernel_rfl) (fun wS hSw => ?_) ?_
    rotate_left
    · (try dsimp only at hSw); go_simp; (try with_reducible rfl)
    (try simp only [Act.put, List.setIfInBounds_toArray, List.set_cons_zero, List.set_cons_succ])
    refine wpPlan_take (v := ?_) (by kernel_rfl) (fun wS hSw => ?_) ?_
    rotate_left
    · refine execOp_load (x := .tmp 9) (k := 13) (g := g9) (off := 0) (cs := (nodC N (.slice A2 n2 c2) (.slice C2 m2 d2))) ?_ nod_agg nod_size ?_ (fun j v hv => by rw [Nat.zero_add]; exact (hSw.2.1.cell j).trans hv) rfl <;> rfl
    (try simp only [Act.put, List.setIfInBounds_toArray, List.set_cons_zero, List.set_cons_succ])
    refine wpPlan_call (by kernel_rfl) (fun K hK => ?_)
    have hOld := hide hHeld
    clear hHeld
    obtain ⟨p1, p2, ⟨cu3, p3, l3⟩, ⟨cu4, p4, l4⟩, p5⟩ := hOld.out
    refine wp_storeC 36 (.tmp 6) (.tmp 25) rfl 2 plc_size (w.heap.size + 1 + 1) 0 36 rfl cu3 (prC (p.1, (entO o).ino)) rfl p3 rfl (by omega) (prC_one _) ?_
    intro w' hr' hg' hs'
    rw [splice_all _ _ (by rw [l3]; rfl)] at hr'
    refine hK.out _ _ (⟨⟨p1.1.grown hg' (fun e => by have := Option.some.inj e; omega), p1.2.grown hg' (fun e => by have := Option.some.inj e; omega)⟩, p2.grown hg' (fun e => by have := Option.some.inj e; omega), ⟨_, hr', rfl⟩, ⟨cu4, p4.grown hg' (fun e => by have := Option.some.inj e; omega), l4⟩, p5.grown hg' (by have := p5.size; omega) (fun k hk => by have := Option.some.inj hk; omega)⟩) (fun hHeld => ?_)
    clear hK K
    have HRP := hide hr'
    clear hr' hg' hs' p1 p2 p3 p4 p5
    (try simp only [Act.put])
    refine wpPlan_call (by kernel_rfl) (fun K hK => ?_)
    have hOld := hide hHeld
    clear hHeld
    obtain ⟨p1, p2, ⟨cu3, p3, l3⟩, ⟨cu4, p4, l4⟩, p5⟩ := hOld.out
    refine wp_storeC 71 (.tmp 7) (.tmp 26) rfl 13 nod_size (w.heap.size + 1 + 1 + 1) 0 71 rfl cu4 (nodC N (.slice A2 n2 c2) (.slice C2 m2 d2)) rfl p4 rfl (by omega) (nodC_one _ _ _ _ _ _ _) ?_
    intro w' hr' hg' hs'
    rw [splice_all _ _ (by rw [l4]; rfl)] at hr'
    refine hK.out _ _ (⟨⟨p1.1.grown hg' (fun e => by have := Option.some.inj e; omega), p1.2.grown hg' (fun e => by have := Option.some.inj e; omega)⟩, p2.grown hg' (fun e => by have := Option.some.inj e; omega), ⟨cu3, p3.grown hg' (fun e => by have := Option.some.inj e; omega), l3⟩, ⟨_, hr', rfl⟩, p5.grown hg' (by have := p5.size; omega) (fun k hk => by have := Option.some.inj hk; omega)⟩) (fun hHeld => ?_)
    clear hK K
    have HRP2 := hide (HRP.out.grown hg' (fun e => by have := Option.some.inj e; omega))
    have HRN := hide hr'
    clear hr' hg' hs' p1 p2 p3 p4 p5
    (try simp only [Act.put])
    refine wpPlan_end ?_
    have HSF := hide hHeld
    clear hHeld
    go_wp2_with fail
    obtain ⟨-, -, -, -, hbF⟩ := HSF.out
    have hkU : Kept (Under B) wc w' := fun b hb => hbF.block b (Nat.lt_of_lt_of_le hb hB)
    refine bodyPost_ret (res_cells Tryz.results70 rfl rfl plc_agg plc_size nod_agg nod_size HRP2.out rfl HRN.out rfl) rfl ⟨A2, n2, c2, C2, m2, d2, by rw [HPL.out, HNL.out], hn2, by rw [HNL.out]; exact HD.out.mono hkU (fun _ h => h), hm2', by rw [HNL.out]; exact HE.out.mono hkU (fun _ h => h), HBC.out.trans hbF⟩
end Go.Proofs.YtnehkgbdppbhiaaGreat

/- The reference's entry (layer 16). -/
namespace Go.Proofs.YtnehkgbdppbhiaaGreat
open Go.RowKit Go.Shelf Plain

def PlcRet (w : World) (o : Option (Int × Int)) (e : Ending) (w' : World) : Prop := e = .returned (.tuple #[.agg (prC (plcO o)).toArray, .bool o.isSome]) ∧ Below w.heap.size w w'
set_option maxRecDepth 100000 in
set_option maxHeartbeats 8000000 in
theorem REntry_any {g : GeoQ} {AU AL : Option Addr} {nU cU nL cL : Nat} {ls : List (List NodV)} {p : Int × Int} {nm : List UInt8} {B : Nat} (w : World) (h : RdE layEn w (Under B) AL nL ls) (hB : B ≤ w.heap.size) (hm : ls.length ≤ 100) (hm2 : ∀ ns ∈ ls, ns.length ≤ 1000) (hF : FewL ls) :
    Calls Tryz.prog 97 #[.agg (stkC g (.slice AU nU cU) (.slice AL nL cL)).toArray, .agg (prC p).toArray, .string ⟨nm.toArray⟩] w (PlcRet w (firstL ls p nm)) := by
  obtain ⟨r0, r1, r2, hb3, hs3⟩ := rows3 w (stkC g (.slice AU nU cU) (.slice AL nL cL)) (prC p) (prC (0, 0)) 29 36 36
  obtain ⟨W3, hW3⟩ : ∃ W3, ((w.alloc (.cells (stkC g (.slice AU nU cU) (.slice AL nL cL)).toArray 29)).alloc (.cells (prC p).toArray 36)).alloc (.cells (prC (0, 0)).toArray 36) = W3 := ⟨_, rfl⟩
  rw [hW3] at r0 r1 r2 hb3 hs3
  have hW3' : ((w.alloc (.cells #[.int .i64 g.a, .int .i64 g.b, .int .i64 g.c, .int .i64 g.d, .slice AU nU cU, .slice AL nL cL] 29)).alloc (.cells #[.int .i64 p.1, .int .i64 p.2] 36)).alloc (.cells #[.int .i64 0, .int .i64 0] 36) = W3 := hW3
  have R0 := hide r0
  have R1 := hide r1
  have R2 := hide r2
  have HB3 := hide hb3
  have HL := hide (h.under hb3 hB)
  have hs3l : w.heap.size + 3 ≤ W3.heap.size := by omega
  have hel := entL_len hF p
  have HFE := hide hF
  obtain ⟨n0, hn0⟩ : ∃ n0, lowAt ls p.1 p.2 = n0 := ⟨_, rfl⟩
  obtain ⟨FO, hFO⟩ : ∃ FO, firstL ls p nm = FO := ⟨_, rfl⟩
  obtain ⟨bk, hbk⟩ : ∃ bk, (n0.k != 1) = bk := ⟨_, rfl⟩
  rw [hFO]
  have HEL := hide (show entL ls p = if bk = true then [] else n0.ents from by
    unfold entL
    rw [hn0, ← hbk]
    by_cases hk : n0.k = 1 <;> simp [hk])
  have HN0 := hide hn0
  have HFO := hide hFO
  have hel0 : (if bk = true then [] else n0.ents).length ≤ 16 := by rw [← HEL.out]; exact hel
  unfold stkC prC
  clear r0 r1 r2 hb3 hW3 h hs3 hFO hF hn0 hel
  go_enter Tryz.func97, Tryz.ntmps97
  cases bk
  rotate_left
  · clear hel0
    go_wp2_with (first | (refine wpList_loadW rfl 29 (.tmp 3) rfl 6 stk_agg stk_size w.heap.size 29 rfl (stkC g (.slice AU nU cU) (.slice AL nL cL)) R0.out rfl ?_) | (refine wpList_loadW rfl 36 (.tmp 4) rfl 2 plc_agg plc_size (w.heap.size + 1) 36 rfl (prC p) R1.out rfl ?_) | (go_at_call 98; refine (RLower_e HN0.out W3 HL.out (by omega) hm hm2).mono ?_; rintro ez w4 ⟨A1, n1, c1, C1, m1, d1, rfl, -, -, e4, e5, hb4⟩; have E5 := hide e5; have HB4 := hide hb4; have hs4 := hb4.size; have HZN := hide (RowL.new w4 71 (nodC nod0 (.slice none 0 0) (.slice none 0 0))); clear e5 hb4) | (refine wpList_storeW rfl 71 (.tmp 8) (.tmp 13) rfl 13 nod_size w4.heap.size 71 rfl (nodC nod0 (.slice none 0 0) (.slice none 0 0)) (nodC n0 (.slice A1 n1 c1) (.slice C1 m1 d1)) rfl HZN.out rfl rfl (nodC_one _ _ _ _ _ _ _) ?_; intro w5 hr5 hg5 hs5; have hb5 := below_stored' hg5; have q0 : w5.cell? ⟨w4.heap.size, 0, none⟩ = some (.int .i64 n0.k) := hr5.cell 0; have q5 : w5.cell? ⟨w4.heap.size, 5, none⟩ = some (.slice C1 m1 d1) := hr5.cell 5; have R5 := hide hr5; have HB35 := hide (HB4.out.trans (hb5.mono hs4)); have HB5 := hide (HB3.out.trans (HB35.out.mono (by omega))); have E6 := hide (E5.out.under hb5 (by omega)); clear hr5 hg5 hs5 hb5) | (refine wpList_storeW rfl 36 (.tmp 6) (.tmp 17) rfl 2 plc_size (w.heap.size + 1 + 1) 36 rfl (prC (0, 0)) (prC (0, 0)) rfl (R2.out.on HB35.out) rfl rfl (prC_one _) ?_; intro w6 hr6 hg6 hs6; have R6 := hide hr6; have HB6 := hide (HB5.out.grown hg6 (by have := HB5.out.size; omega) (fun k hk => by have := Option.some.inj hk; omega)); clear hr6 hg6))
    have eFO : FO = none := by
      rw [← HFO.out]
      unfold firstL
      rw [HEL.out]
      rfl
    subst eFO
    exact bodyPost_ret (res_cell2 Tryz.results97 rfl rfl plc_agg plc_size R6.out rfl) rfl ⟨rfl, HB6.out⟩
  go_wp2_with (first | (refine wpList_loadW rfl 29 (.tmp 3) rfl 6 stk_agg stk_size w.heap.size 29 rfl (stkC g (.slice AU nU cU) (.slice AL nL cL)) R0.out rfl ?_) | (refine wpList_loadW rfl 36 (.tmp 4) rfl 2 plc_agg plc_size (w.heap.size + 1) 36 rfl (prC p) R1.out rfl ?_) | (go_at_call 98; refine (RLower_e HN0.out W3 HL.out (by omega) hm hm2).mono ?_; rintro ez w4 ⟨A1, n1, c1, C1, m1, d1, rfl, -, -, e4, e5, hb4⟩; have E5 := hide e5; have HB4 := hide hb4; have hs4 := hb4.size; have HZN := hide (RowL.new w4 71 (nodC nod0 (.slice none 0 0) (.slice none 0 0))); clear e5 hb4) | (refine wpList_storeW rfl 71 (.tmp 8) (.tmp 13) rfl 13 nod_size w4.heap.size 71 rfl (nodC nod0 (.slice none 0 0) (.slice none 0 0)) (nodC n0 (.slice A1 n1 c1) (.slice C1 m1 d1)) rfl HZN.out rfl rfl (nodC_one _ _ _ _ _ _ _) ?_; intro w5 hr5 hg5 hs5; have hb5 := below_stored' hg5; have q0 : w5.cell? ⟨w4.heap.size, 0, none⟩ = some (.int .i64 n0.k) := hr5.cell 0; have q5 : w5.cell? ⟨w4.heap.size, 5, none⟩ = some (.slice C1 m1 d1) := hr5.cell 5; have R5 := hide hr5; have HB35 := hide (HB4.out.trans (hb5.mono hs4)); have HB5 := hide (HB3.out.trans (HB35.out.mono (by omega))); have E6 := hide (E5.out.under hb5 (by omega)); clear hr5 hg5 hs5 hb5))
  clear hbk
  have HEm := hide (show n0.ents.length ≤ 16 from by simpa using hel0)
  have HEL := hide (show entL ls p = n0.ents from by rw [HEL.out]; simp)
  obtain ⟨EL, hEE⟩ : ∃ EL, n0.ents = EL := ⟨_, rfl⟩
  rw [hEE] at HEm HEL E6
  have hm16 : m1 ≤ 16 := by rw [← E6.out.1]; exact HEm.out
  have HEM := hide E6.out.1
  have hs5 := HB5.out.size
  clear hel0 hEE hW3' q0
  have R05 := hide (R0.out.on HB35.out)
  have R15 := hide (R1.out.on HB35.out)
  have R25 := hide (R2.out.on HB35.out)
  have HL5 := hide (HL.out.under HB35.out (by omega))
  go_loopw [9] (fun v9 wr => ∃ j : Nat, j ≤ m1 ∧ v9 = .int .i64 j ∧ Below w5.heap.size w5 wr ∧ (EL.take j).find? (useE ls p.1 nm) = none) (fun v9 _ => m1 - (intOf v9).toNat)
  case atStart => exact ⟨0, by omega, rfl, below_self _, by simp⟩
  case round =>
    obtain ⟨j, hj, rfl, hbr, hnone⟩ := hrel
    have HN := hide hnone
    have HBR := hide hbr
    have hbsz := hbr.size
    have qs : wr.cell? ⟨w4.heap.size, 5, none⟩ = some (.slice C1 m1 d1) := (R5.out.on hbr).cell 5
    have hB5 : B ≤ w5.heap.size := by omega
    clear hnone hbr q5
    by_cases hlt : j < m1
    · obtain ⟨e, he⟩ : ∃ e, EL[j]? = some e := ⟨_, List.getElem?_eq_getElem (by have := HEM.out; omega)⟩
      obtain ⟨bE, oE, rfl, hbE, hcE⟩ := ent_get (E6.out.under HBR.out hB5) he
      have hbE' : bE < wr.heap.size := by have : bE < B := hbE; omega
      have HCE := hide hcE
      have HEJ := hide he
      obtain ⟨x, hx⟩ : ∃ x, lowAt ls p.1 e.ino = x := ⟨_, rfl⟩
      have HX := hide hx
      obtain ⟨b2, hb2⟩ : ∃ b2, (x.k != 0) = b2 := ⟨_, rfl⟩
      have HU2 := hide (fun (hnm : e.name = nm) => show useE ls p.1 nm e = b2 from by
        rw [← hb2, ← hx]
        unfold useE
        by_cases hk : (lowAt ls p.1 e.ino).k = 0 <;> simp [hk, hnm])
      have HB2 := hide hb2
      have hjm : (j : Int) < (m1 : Int) := by omega
      have HQP := hide (fun W (hb : Below wr.heap.size wr W) => show W.cell? ⟨w.heap.size + 1, 0, none⟩ = some (.int .i64 p.1) from ((R15.out.on HBR.out).on hb).cell 0)
      have HQN := hide (fun W (hb : Below wr.heap.size wr W) => show W.cell? ⟨w4.heap.size, 5, none⟩ = some (.slice (some ⟨bE, oE, none⟩) m1 d1) from ((R5.out.on HBR.out).on hb).cell 5)
      have HQI := hide (fun W (hb : Below wr.heap.size wr W) => show W.cell? ⟨bE, oE + j * 3 + 1, none⟩ = some (.int .i64 e.ino) from (hb.cell (p := ⟨bE, oE + j * 3 + 1, none⟩) hbE').trans (HCE.out 1 _ rfl))
      clear he hcE hx hb2
      go_wp2_with fail
      clear qs
      refine wp_region_planP (fun w' => Below wr.heap.size wr w') [(0, true), (1, true), (2, true), (3, true), (4, true), (5, true), (6, true), (7, true), (8, true), (9, false)] 10 (by kernel_rfl) (by kernel_rfl) (by kernel_rfl) (by kernel_rfl) (by kernel_rfl) rfl (fun _ _ _ _ _ h => h) (below_drew (below_self wr)) (fun hHeld => ?_)
      simp only [planOps, List.filterMap_cons, List.filterMap_nil, List.getElem?_toArray, List.getElem?_cons_succ, List.getElem?_cons_zero, Option.map_some]
      refine wpPlan_take (v := ?_) (by kernel_rfl) (fun wS hSw => ?_) ?_
      rotate_left
      · (try dsimp only at hSw); go_simp; (try with_reducible rfl)
      (try simp only [Act.put, List.setIfInBounds_toArray, List.set_cons_zero, List.set_cons_succ])
      refine wpPlan_take (v := ?_) (by kernel_rfl) (fun wS hSw => ?_) ?_
      rotate_left
      · have qx := HQP.out wS hSw; go_simp; (try with_reducible rfl)
      (try simp only [Act.put, List.setIfInBounds_toArray, List.set_cons_zero, List.set_cons_succ])
      refine wpPlan_take (v := ?_) (by kernel_rfl) (fun wS hSw => ?_) ?_
      rotate_left
      · (try dsimp only at hSw); go_simp; (try with_reducible rfl)
      (try simp only [Act.put, List.setIfInBounds_toArray, List.set_cons_zero, List.set_cons_succ])
      refine wpPlan_take (v := ?_) (by kernel_rfl) (fun wS hSw => ?_) ?_
      rotate_left
      · have qx := HQN.out wS hSw; go_simp; (try with_reducible rfl)
      (try simp only [Act.put, List.setIfInBounds_toArray, List.set_cons_zero, List.set_cons_succ])
      refine wpPlan_take (v := ?_) (by kernel_rfl) (fun wS hSw => ?_) ?_
      rotate_left
      · (try dsimp only at hSw); go_simp; (try with_reducible rfl)
      (try simp only [Act.put, List.setIfInBounds_toArray, List.set_cons_zero, List.set_cons_succ])
      refine wpPlan_take (v := ?_) (by kernel_rfl) (fun wS hSw => ?_) ?_
      rotate_left
      · (try dsimp only at hSw); go_simp; (try with_reducible rfl)
      (try simp only [Act.put, List.setIfInBounds_toArray, List.set_cons_zero, List.set_cons_succ])
      refine wpPlan_take (v := ?_) (by kernel_rfl) (fun wS hSw => ?_) ?_
      rotate_left
      · (try dsimp only at hSw); go_simp; (try with_reducible rfl)
      (try simp only [Act.put, List.setIfInBounds_toArray, List.set_cons_zero, List.set_cons_succ])
      refine wpPlan_take (v := ?_) (by kernel_rfl) (fun wS hSw => ?_) ?_
      rotate_left
      · have qx := HQI.out wS hSw; go_simp; (try with_reducible rfl)
      (try simp only [Act.put, List.setIfInBounds_toArray, List.set_cons_zero, List.set_cons_succ])
      refine wpPlan_take (v := ?_) (by kernel_rfl) (fun wS hSw => ?_) ?_
      rotate_left
      · (try dsimp only at hSw); go_simp; (try with_reducible rfl)
      (try simp only [Act.put, List.setIfInBounds_toArray, List.set_cons_zero, List.set_cons_succ])
      refine wpPlan_call (by kernel_rfl) (fun K hK => ?_)
      have hOld := hide hHeld
      clear hHeld
      unfold Oper.wp execOp
      go_simp
      refine hK.out _ _ (hOld.out.alloc hOld.out.size _) (fun hHeld => ?_)
      clear hK K
      (try simp only [Act.put, List.setIfInBounds_toArray, List.set_cons_zero, List.set_cons_succ])
      refine wpPlan_end ?_
      refine postL_go rfl (by kernel_rfl) ?_
      have hbA := below_new (below_self wr) (.cells (prC (0, 0)).toArray 36)
      refine wp_storeC 36 (.tmp 10) (.tmp 33) rfl 2 plc_size wr.heap.size 0 36 rfl (prC (0, 0)) (prC (p.1, e.ino)) rfl (RowL.new wr 36 (prC (0, 0))) rfl (by exact Nat.le_refl _) (prC_one _) ?_
      intro w7 hr7 hg7 hs7
      rw [splice_all (prC (0, 0)) (prC (p.1, e.ino)) rfl] at hr7
      have hb7 : Below wr.heap.size wr w7 := ⟨hg7.os.trans hbA.os, hg7.tape.trans hbA.tape, hg7.output.trans hbA.output, Nat.le_trans hbA.size hg7.size, fun k hk => (hg7.block k (Nat.lt_of_lt_of_le hk hbA.size) (fun e => by have := Option.some.inj e; omega)).trans (hbA.block k hk)⟩
      have R7 := hide hr7
      have HB7 := hide hb7
      have qn7 : w7.cell? ⟨bE, oE + j * 3 + 2, none⟩ = some (.string ⟨e.name.toArray⟩) := (hb7.cell (p := ⟨bE, oE + j * 3 + 2, none⟩) hbE').trans (HCE.out 2 _ rfl)
      have qs7 : w7.cell? ⟨w4.heap.size, 5, none⟩ = some (.slice (some ⟨bE, oE, none⟩) m1 d1) := HQN.out w7 hb7
      have R07 := hide ((R05.out.on HBR.out).on hb7)
      clear hHeld hr7 hg7 hs7 hb7 hbA
      (try simp only [Act.put])
      by_cases hnm : e.name = nm
      rotate_left
      · have HU := hide (show useE ls p.1 nm e = false from by unfold useE; simp [hnm])
        go_wp2_with fail
        go_roundw
        case rel => exact ⟨j + 1, by omega, by go_num, HBR.out.trans (HB7.out.mono hbsz), find_take_none HN.out HEJ.out HU.out⟩
        case measure => simp [intOf]; omega
      have HU := hide (HU2.out hnm)
      subst hnm
      have s0 : w7.cell? ⟨w.heap.size, 0, none⟩ = some (.int .i64 g.a) := R07.out.cell 0
      have s1 : w7.cell? ⟨w.heap.size, 1, none⟩ = some (.int .i64 g.b) := R07.out.cell 1
      have s2 : w7.cell? ⟨w.heap.size, 2, none⟩ = some (.int .i64 g.c) := R07.out.cell 2
      have s3 : w7.cell? ⟨w.heap.size, 3, none⟩ = some (.int .i64 g.d) := R07.out.cell 3
      have s4 : w7.cell? ⟨w.heap.size, 4, none⟩ = some (.slice AU nU cU) := R07.out.cell 4
      have s5 : w7.cell? ⟨w.heap.size, 5, none⟩ = some (.slice AL nL cL) := R07.out.cell 5
      have t0 : w7.cell? ⟨wr.heap.size, 0, none⟩ = some (.int .i64 p.1) := R7.out.cell 0
      have t1 : w7.cell? ⟨wr.heap.size, 1, none⟩ = some (.int .i64 e.ino) := R7.out.cell 1
      go_wp2_with fail
      clear s0 s1 s2 s3 s4 s5 t0 t1
      refine (RLower_e HX.out w7 (HL5.out.under (HBR.out.trans (HB7.out.mono hbsz)) hB5) (by have := HB7.out.size; omega) hm hm2).mono ?_
      rintro ez w8 ⟨A1', n1', c1', C1', m1', d1', rfl, -, -, -, -, hb8⟩
      have hf0 := nod_f0 x (.slice A1' n1' c1') (.slice C1' m1' d1')
      have hbk2 := HB2.out
      have R8 := hide (R7.out.on hb8)
      have HB8 := hide (HB7.out.trans (hb8.mono HB7.out.size))
      clear hb8
      cases b2
      · go_wp2_with fail
        go_roundw
        case rel => exact ⟨j + 1, by omega, by go_num, HBR.out.trans (HB8.out.mono hbsz), find_take_none HN.out HEJ.out HU.out⟩
        case measure => simp [intOf]; omega
      · have R28 := hide ((R25.out.on HBR.out).on HB8.out)
        have HBF := hide (HB5.out.trans ((HBR.out.trans (HB8.out.mono hbsz)).mono (by omega)))
        go_wp2_with (first | (refine wpList_loadW rfl 36 (.tmp 10) rfl 2 plc_agg plc_size wr.heap.size 36 rfl (prC (p.1, e.ino)) R8.out rfl ?_) | (refine wpList_storeW rfl 36 (.tmp 6) (.tmp 49) rfl 2 plc_size (w.heap.size + 1 + 1) 36 rfl (prC (0, 0)) (prC (p.1, e.ino)) rfl R28.out rfl rfl (prC_one _) ?_; intro w9 hr9 hg9 hs9; have R9 := hide hr9; have HB9 := hide (HBF.out.grown hg9 (by have := HBF.out.size; omega) (fun k hk => by have := Option.some.inj hk; omega)); clear hr9 hg9))
        have eFO : FO = some (p.1, e.ino) := by
          rw [← HFO.out]
          unfold firstL
          rw [HEL.out, find_take_some HN.out HEJ.out HU.out]
          rfl
        subst eFO
        exact bodyPost_ret (res_cell2 Tryz.results97 rfl rfl plc_agg plc_size R9.out rfl) rfl ⟨rfl, HB9.out⟩
    · obtain rfl : j = m1 := by omega
      have R2r := hide (R25.out.on HBR.out)
      have HBF := hide (HB5.out.trans (HBR.out.mono (by omega)))
      go_wp2_with (refine wpList_storeW rfl 36 (.tmp 6) (.tmp 50) rfl 2 plc_size (w.heap.size + 1 + 1) 36 rfl (prC (0, 0)) (prC (0, 0)) rfl R2r.out rfl rfl (prC_one _) ?_; intro w9 hr9 hg9 hs9; have R9 := hide hr9; have HB9 := hide (HBF.out.grown hg9 (by have := HBF.out.size; omega) (fun k hk => by have := Option.some.inj hk; omega)); clear hr9 hg9)
      have eFO : FO = none := by
        rw [← HFO.out]
        unfold firstL
        have h1 := HN.out
        rw [List.take_of_length_le (by have := HEM.out; omega)] at h1
        rw [HEL.out, h1]
        rfl
      subst eFO
      exact bodyPost_ret (res_cell2 Tryz.results97 rfl rfl plc_agg plc_size R9.out rfl) rfl ⟨rfl, HB9.out⟩
end Go.Proofs.YtnehkgbdppbhiaaGreat

/- lower.Find (layer 16). -/
namespace Go.Proofs.YtnehkgbdppbhiaaGreat
open Go.RowKit Go.Shelf Plain

theorem wp_scope_one {P : Program} {a : Act} {w : World} {Q : Exit → Act → World → Prop} {c rest : Code} (l : Nat) (J : Act → World → Prop) (hf : findLabel c l = some (Code.skip.seq rest))
    (pass : ∀ a w, J a w → rest.wp P (Exit.jump l (fun _ _ => False) Q) a w)
    (first : c.wp P (Exit.jump l J Q) a w) : (Code.scope c).wp P Q a w := by
  refine wp_scope_jumps l J (fun _ _ => 0) hf first (fun a w h => wp_seq (wp_skip (Code.wp_mono (fun e a' w' hq => ?_) (pass a w h))))
  cases e with
  | goto l' => exact (hq.2 : False).elim
  | normal => exact hq
  | exit id => exact hq
  | ret => exact hq
  | panic ch => exact hq
  | outgrown => exact hq
/-- It returns a kind, and places. -/
def FindRet (w : World) (R : Int × List (Int × Int)) (e : Ending) (w' : World) : Prop := ∃ A c, e = .returned (.tuple #[.int .i64 R.1, .slice A R.2.length c]) ∧ R.2.length ≤ c ∧ RdE prEn w' (fun b => w.heap.size ≤ b ∧ b < w'.heap.size) A R.2.length R.2 ∧ Below w.heap.size w w'
def kindA (acc : List (Int × Int)) : Int := if acc = [] then 0 else 1
theorem kindA_snoc (acc : List (Int × Int)) (x : Int × Int) : kindA (acc ++ [x]) = 1 := by simp [kindA]
theorem findL_end (ls : List (List NodV)) (nm : List UInt8) (acc : List (Int × Int)) : findL ls nm [] acc = (kindA acc, acc) := by
  unfold findL kindA
  by_cases h : acc = []
  · simp [h]
  · simp [h]
/-- The places so far. -/
def FindSt (base : Nat) (w1 : World) (ls : List (List NodV)) (nm : List UInt8) (l : List (Int × Int)) (R : Int × List (Int × Int)) (j : Nat) (acc : List (Int × Int)) (A : Option Addr) (c : Nat) (W : World) : Prop := W.ownsRow base 36 2 (.slice A acc.length c) acc.length (flatR acc) ∧ Below base w1 W ∧ acc.length ≤ j ∧ findL ls nm (l.drop j) acc = R
theorem pr_fresh {W : World} {base t n c : Nat} {A : Option Addr} {l : List (Int × Int)} (h : W.ownsRow base t 2 (.slice A n c) n (flatR l)) (hn : l.length = n) : RdE prEn W (fun b => base ≤ b ∧ b < W.heap.size) A n l := by
  refine ⟨hn, fun h0 => ?_⟩
  rcases h.2 with ⟨_, h0'⟩ | ⟨g, cap, cur, he, hb, hg, _⟩
  · omega
  · simp only [Value.slice.injEq] at he
    obtain ⟨rfl, -, -⟩ := he
    refine ⟨g, 0, rfl, ⟨hb, heap_lt hg⟩, fun i x hx => ⟨prC x, rfl, fun j v hv => ?_⟩⟩
    have hj : j < 2 := by have := (List.getElem?_eq_some_iff.1 hv).1; simpa [prC] using this
    have hi := (List.getElem?_eq_some_iff.1 hx).1
    rw [Nat.zero_add]
    refine (World.ownsRow.cellAt (g := g) h (i * 2 + j) (by omega)).trans ?_
    have := flat_get (k := 2) (css := l.map prC) (fun cs hc => by obtain ⟨z, _, rfl⟩ := List.mem_map.1 hc; rfl) (i := i) (j := j) (cs := prC x) (by rw [List.getElem?_map, hx]; rfl) hj
    rw [show flatR l = (l.map prC).flatten from rfl, this]
    exact hv
theorem pr_get {w : World} {D : Nat → Prop} {A : Option Addr} {n k : Nat} {l : List (Int × Int)} {x : Int × Int} (h : RdE prEn w D A n l) (hx : l[k]? = some x) : ∃ b o, A = some ⟨b, o, none⟩ ∧ D b ∧ ∀ j v, (prC x)[j]? = some v → w.cell? ⟨b, o + k * 2 + j, none⟩ = some v := by
  have hi := (List.getElem?_eq_some_iff.1 hx).1
  obtain ⟨b, o, e, hb, hc⟩ := h.2 (by have := h.1; omega)
  obtain ⟨cs, hcs, hcell⟩ := hc k x hx
  obtain rfl : cs = prC x := hcs
  refine ⟨b, o, e, hb, fun j v hv => ?_⟩
  have := hcell j v hv
  rwa [show o + (k * prEn.k + j) = o + k * 2 + j from by show o + (k * 2 + j) = o + k * 2 + j; omega] at this
theorem pr_lit1 (W : World) (t : Nat) (x : Int × Int) {B : Nat} (hB : B ≤ W.heap.size) : RdE prEn (W.alloc (.cells (prC x).toArray t)) (fun b => B ≤ b ∧ b < (W.alloc (.cells (prC x).toArray t)).heap.size) (some ⟨W.heap.size, 0, none⟩) 1 [x] := by
  refine ⟨rfl, fun _ => ⟨_, _, rfl, ⟨hB, by simp⟩, fun i y hy => ⟨prC y, rfl, fun j v hv => ?_⟩⟩⟩
  have hi : i = 0 := by have := (List.getElem?_eq_some_iff.1 hy).1; simpa using this
  subst hi
  obtain rfl : x = y := by simpa using hy
  rw [Nat.zero_mul, Nat.zero_add, Nat.zero_add, (RowL.new W t (prC x)).cell]
  exact hv
set_option maxRecDepth 100000 in
theorem plc_info : (Tryz.prog.info? 36).map (fun i => (i.zero, i.size, i.bytes)) = some (some zpr, 2, 16) := by kernel_rfl
theorem lit_plc (q : Int × Int) (W : World) : (Instr.buildSlice 30 1 #[(0, .agg (prC q).toArray)]).run Tryz.prog W = .ok (.slice (some ⟨W.heap.size, 0, none⟩) 1 1) (W.alloc (.cells (prC q).toArray 36)) := by
  obtain ⟨it, hi, hz, hsz, -⟩ := info_parts plc_info
  refine run_buildSlice W _ 36 1 _ _ it zpr Tryz.underlying30 hi hz (by omega) (by omega) ?_
  rw [hsz]
  have := Great.fill_whole (s := 2) (by omega) [.agg (prC q).toArray] ((Array.range (1 * 2)).map (zpr.cells[· % zpr.cells.size]!)) (by intro v hv; rw [List.mem_singleton] at hv; subst hv; simp [Value.cells, prC]) (by simp)
  simpa [Value.cells] using this
theorem own_capP {W : World} {base e s n c : Nat} {A : Option Addr} {xs : List Value} (h : W.ownsRow base e s (.slice A n c) n xs) : n ≤ c := by
  rcases h.2 with ⟨h0, h1⟩ | ⟨g, cap, cur, h1, _, _, h4, _⟩
  · omega
  · cases h1; exact h4
theorem LFirst_e {g : GeoQ} {AU AL : Option Addr} {nU cU nL cL : Nat} {ls : List (List NodV)} {p : Int × Int} {nm : List UInt8} {B : Nat} {o : Option (Int × Int)} (ho : firstL ls p nm = o) (w : World) (h : RdE layEn w (Under B) AL nL ls) (hB : B ≤ w.heap.size) (hm : ls.length ≤ 100) (hm2 : ∀ ns ∈ ls, ns.length ≤ 1000) (hF : FewL ls) :
    Calls Tryz.prog 70 #[.agg (stkC g (.slice AU nU cU) (.slice AL nL cL)).toArray, .agg (prC p).toArray, .string ⟨nm.toArray⟩] w (FirstRet w B ls p.1 o) := by rw [← ho]; exact LFirst_any w h hB hm hm2 hF
set_option maxRecDepth 100000 in
set_option maxHeartbeats 8000000 in
theorem Find_any {g : GeoQ} {AU AL AP : Option Addr} {nU cU nL cL n cP : Nat} {ls : List (List NodV)} {l : List (Int × Int)} {nm : List UInt8} {B : Nat} (w : World) (h : RdE layEn w (Under B) AL nL ls) (hp : RdE prEn w (Under w.heap.size) AP n l) (hB : B ≤ w.heap.size) (hF : FewL ls) (hn : n ≤ 1000) :
    Calls Tryz.prog 25 #[.agg (stkC g (.slice AU nU cU) (.slice AL nL cL)).toArray, .slice AP n cP, .string ⟨nm.toArray⟩] w (FindRet w (findL ls nm l [])) := by
  have r0 := RowL.new w 29 (stkC g (.slice AU nU cU) (.slice AL nL cL))
  have hb1 := below_new (below_self w) (.cells (stkC g (.slice AU nU cU) (.slice AL nL cL)).toArray 29)
  obtain ⟨W1, hW1⟩ : ∃ W1, w.alloc (.cells (stkC g (.slice AU nU cU) (.slice AL nL cL)).toArray 29) = W1 := ⟨_, rfl⟩
  rw [hW1] at r0 hb1
  have hW1' : w.alloc (.cells #[.int .i64 g.a, .int .i64 g.b, .int .i64 g.c, .int .i64 g.d, .slice AU nU cU, .slice AL nL cL] 29) = W1 := hW1
  have hm : ls.length ≤ 100 := by have := hF.1; omega
  have HM2 := hide (fun ns (hh : ns ∈ ls) => (show ns.length ≤ 1000 from Nat.le_trans (hF.2 ns hh).1 (by omega)))
  have R0 := hide r0
  have HB1 := hide hb1
  have hs1 := hb1.size
  have HL := hide (h.under hb1 hB)
  have HP := hide (hp.on hb1)
  have HPL := hide hp.1
  have HF := hide hF
  obtain ⟨R, hR⟩ : ∃ R, findL ls nm l [] = R := ⟨_, rfl⟩
  rw [hR]
  have HR := hide hR
  have hB1 : B ≤ W1.heap.size := by omega
  unfold stkC
  clear r0 hb1 hW1 h hp hF hR
  go_enter Tryz.func25, Tryz.ntmps25
  go_wp2_with fail
  refine wp_scope_one 0 (fun a' w' => ∃ (A : Option Addr) (c : Nat) (u0 u1 u2 u3 u4 u5 u6 u7 u10 u11 u12 u13 u14 u15 u16 u17 u18 u19 u20 u21 u22 u23 u24 u25 u26 u27 u28 u29 u30 u31 u32 u33 u34 u35 u36 u37 u38 u39 u40 u41 u42 u43 u44 u45 u46 u47 u48 u49 u50 : Value), a' = { tmps := #[u0, u1, u2, u3, u4, u5, u6, u7, .int .i64 R.1, .slice A R.2.length c, u10, u11, u12, u13, u14, u15, u16, u17, u18, u19, u20, u21, u22, u23, u24, u25, u26, u27, u28, u29, u30, u31, u32, u33, u34, u35, u36, u37, u38, u39, u40, u41, u42, u43, u44, u45, u46, u47, u48, u49, u50], defers := [] } ∧ R.2.length ≤ c ∧ RdE prEn w' (fun b => w.heap.size ≤ b ∧ b < w'.heap.size) A R.2.length R.2 ∧ Below w.heap.size w w') rfl ?_ ?_
  · rintro a' w' ⟨A, c, u0, u1, u2, u3, u4, u5, u6, u7, u10, u11, u12, u13, u14, u15, u16, u17, u18, u19, u20, u21, u22, u23, u24, u25, u26, u27, u28, u29, u30, u31, u32, u33, u34, u35, u36, u37, u38, u39, u40, u41, u42, u43, u44, u45, u46, u47, u48, u49, u50, rfl, hc, hr, hb⟩
    have HB := hide hb
    have HRD := hide hr
    clear hb hr
    go_wp2_with fail
    (first | go_ret2 | (simp only [Exit.jump]; go_ret2) | (rw [Exit.noGoto_ret]; go_ret2))
    exact ⟨A, c, rfl, hc, HRD.out, HB.out⟩
  go_wp2_with fail
  clear hW1'
  go_loopw [8, 9, 16] (fun v8 v9 v16 wr => ∃ (j : Nat) (acc : List (Int × Int)) (A : Option Addr) (c : Nat), j ≤ n ∧ v16 = .int .i64 j ∧ v8 = .int .i64 (kindA acc) ∧ v9 = .slice A acc.length c ∧ FindSt W1.heap.size W1 ls nm l R j acc A c wr) (fun _ _ v16 _ => n - (intOf v16).toNat)
  case atStart => exact ⟨0, [], none, 0, by omega, rfl, rfl, rfl, World.ownsRow_nil _ _ _ _, below_self _, Nat.le_refl _, by rw [List.drop_zero]; exact HR.out⟩
  case round =>
    obtain ⟨j, acc, A, c, hj, rfl, rfl, rfl, hown, hbr, hal, hfin⟩ := hrel
    have HOW := hide hown
    have HBR := hide hbr
    have HFI := hide hfin
    have hbsz := hbr.size
    have HBw := hide (HB1.out.trans (hbr.mono hs1))
    clear hown hbr hfin
    by_cases hlt : j < n
    · obtain ⟨p, hp⟩ : ∃ p, l[j]? = some p := ⟨_, List.getElem?_eq_getElem (by have := HPL.out; omega)⟩
      obtain ⟨bP, oP, rfl, hbP, hcP⟩ := pr_get (HP.out.under HBR.out (Nat.le_refl _)) hp
      have HCP := hide hcP
      have HZP := hide (RowL.new wr 36 (prC (0, 0)))
      have HDR := hide (show l.drop j = p :: l.drop (j + 1) from by
        have hjl := (List.getElem?_eq_some_iff.1 hp).1
        rw [List.drop_eq_getElem_cons hjl, (List.getElem?_eq_some_iff.1 hp).2])
      have hjn : (j : Int) < (n : Int) := by omega
      obtain ⟨o, ho⟩ : ∃ o, firstL ls p nm = o := ⟨_, rfl⟩
      have HO := hide ho
      obtain ⟨N, hN⟩ : ∃ N, nodO ls o = N := ⟨_, rfl⟩
      have hPN : PlainN N := by
        rw [← hN]
        cases o with
        | none => exact plain0
        | some x => exact low_plain HF.out x.1 x.2
      have HNN := hide hN
      obtain ⟨kk, hkk⟩ : ∃ kk, N.k = kk := ⟨_, rfl⟩
      have hkr := hPN.2.1
      have hath := hPN.2.2.1
      rw [hkk] at hkr
      have HKK := hide hkk
      clear hp hcP ho hN hPN hkk
      rcases (show kk = 0 ∨ kk = 1 ∨ kk = 2 ∨ kk = 3 ∨ kk = 4 by omega) with rfl | rfl | rfl | rfl | rfl
      · -- nothing
        go_wp2_with (first | (refine wpList_loadX rfl 36 (.tmp 18) rfl 2 plc_agg plc_size bP (oP + j * 2) rfl (prC p) HCP.out rfl ?_) | (refine wpList_storeW rfl 36 (.tmp 11) (.tmp 19) rfl 2 plc_size wr.heap.size 36 rfl (prC (0, 0)) (prC p) rfl HZP.out rfl rfl (prC_one _) ?_; intro w6 hr6 hg6 hs6; have hb6 := below_stored' hg6; have R6 := hide hr6; have HB6 := hide hb6; have R06 := hide ((R0.out.on HBR.out).on hb6); have hs6l := hb6.size; clear hr6 hg6 hs6 hb6) | (refine wpList_loadW rfl 29 (.tmp 3) rfl 6 stk_agg stk_size w.heap.size 29 rfl (stkC g (.slice AU nU cU) (.slice AL nL cL)) R06.out rfl ?_) | (refine wpList_loadW rfl 36 (.tmp 11) rfl 2 plc_agg plc_size wr.heap.size 36 rfl (prC p) R6.out rfl ?_) | (go_at_call 70; refine (LFirst_e HO.out w6 (HL.out.under (HBR.out.trans (HB6.out.mono hbsz)) hB1) (by omega) hm HM2.out HF.out).mono ?_; rintro ez w7 ⟨A1, n1, c1, C1, m1, d1, rfl, e2, e3, e4, e5, hb7⟩; have HB7 := hide (HB6.out.trans (hb7.mono hs6l)); obtain ⟨r12, r13, hbz, hsz⟩ := rows2 w7 (prC (0, 0)) (nodC nod0 (.slice none 0 0) (.slice none 0 0)) 36 71; have HZ12 := hide r12; have HZ13 := hide r13; have HBZ := hide hbz; have hs7l := hb7.size; clear e3 e5 hb7 r12 r13 hbz hsz) | (refine wpList_storeW rfl 36 (.tmp 12) (.tmp 25) rfl 2 plc_size w7.heap.size 36 rfl (prC (0, 0)) (prC (plcF p.1 o)) rfl HZ12.out rfl rfl (prC_one _) ?_; intro w8 hr8 hg8 hs8; have R8 := hide hr8; have HZ13' := hide (HZ13.out.grown hg8 (fun e => by have := Option.some.inj e; omega)); have HB8 := hide (HBZ.out.grown hg8 HBZ.out.size (fun k hk => by have := Option.some.inj hk; omega)); clear hr8 hg8 hs8) | (refine wpList_storeW rfl 71 (.tmp 13) (.tmp 26) rfl 13 nod_size (w7.heap.size + 1) 71 rfl (nodC nod0 (.slice none 0 0) (.slice none 0 0)) (nodC (nodO ls o) (.slice A1 n1 c1) (.slice C1 m1 d1)) rfl HZ13'.out rfl rfl (nodC_one _ _ _ _ _ _ _) ?_; intro w9 hr9 hg9 hs9; rw [HNN.out] at hr9; have qk : w9.cell? ⟨w7.heap.size + 1, 0, none⟩ = some (.int .i64 0) := (hr9.cell 0).trans (by rw [show (nodC N (.slice A1 n1 c1) (.slice C1 m1 d1))[0]? = some (.int .i64 N.k) from rfl, HKK.out]); have HR13 := hide hr9; have HR12 := hide (R8.out.grown hg9 (fun e => by have := Option.some.inj e; omega)); have HB79 := hide (HB8.out.grown hg9 (by have := HB8.out.size; omega) (fun k hk => by have := Option.some.inj hk; omega)); have HB9 := hide (HB7.out.trans (HB79.out.mono HB7.out.size)); have hs9l := HB9.out.size; have hs79l := hr9.lt; clear hr9 hg9 hs9))
        have eo : o = none := by
          cases o with
          | none => rfl
          | some x => exact absurd (show (lowAt ls x.1 x.2).k = 0 from by rw [show lowAt ls x.1 x.2 = N from HNN.out]; exact HKK.out) (first_use HO.out)
        subst eo
        go_roundw
        case rel => exact ⟨j + 1, acc, A, c, by omega, by go_num, rfl, rfl, ownsRow_below HOW.out HB9.out, HBR.out.trans (HB9.out.mono hbsz), by omega, by
          have e := HFI.out
          rw [HDR.out] at e
          unfold findL at e
          rw [HO.out] at e
          exact e⟩
        case measure => simp [intOf]; omega
      · -- a directory
        obtain ⟨x, rfl⟩ : ∃ x, o = some x := by
          cases o with
          | none => exact absurd HKK.out (by rw [← HNN.out]; simp [nodO, nod0])
          | some x => exact ⟨x, rfl⟩
        have hNx : lowAt ls x.1 x.2 = N := HNN.out
        have HNX := hide hNx
        clear hNx
        obtain ⟨op, hop⟩ : ∃ op, opq N = op := ⟨_, rfl⟩
        have HOPQ := hide hop
        clear hop
        go_wp2_with (first | (refine wpList_loadX rfl 36 (.tmp 18) rfl 2 plc_agg plc_size bP (oP + j * 2) rfl (prC p) HCP.out rfl ?_) | (refine wpList_storeW rfl 36 (.tmp 11) (.tmp 19) rfl 2 plc_size wr.heap.size 36 rfl (prC (0, 0)) (prC p) rfl HZP.out rfl rfl (prC_one _) ?_; intro w6 hr6 hg6 hs6; have hb6 := below_stored' hg6; have R6 := hide hr6; have HB6 := hide hb6; have R06 := hide ((R0.out.on HBR.out).on hb6); have hs6l := hb6.size; clear hr6 hg6 hs6 hb6) | (refine wpList_loadW rfl 29 (.tmp 3) rfl 6 stk_agg stk_size w.heap.size 29 rfl (stkC g (.slice AU nU cU) (.slice AL nL cL)) R06.out rfl ?_) | (refine wpList_loadW rfl 36 (.tmp 11) rfl 2 plc_agg plc_size wr.heap.size 36 rfl (prC p) R6.out rfl ?_) | (go_at_call 70; refine (LFirst_e HO.out w6 (HL.out.under (HBR.out.trans (HB6.out.mono hbsz)) hB1) (by omega) hm HM2.out HF.out).mono ?_; rintro ez w7 ⟨A1, n1, c1, C1, m1, d1, rfl, e2, e3, e4, e5, hb7⟩; have HB7 := hide (HB6.out.trans (hb7.mono hs6l)); obtain ⟨r12, r13, hbz, hsz⟩ := rows2 w7 (prC (0, 0)) (nodC nod0 (.slice none 0 0) (.slice none 0 0)) 36 71; have HZ12 := hide r12; have HZ13 := hide r13; have HBZ := hide hbz; have hs7l := hb7.size; clear e3 e5 hb7 r12 r13 hbz hsz) | (refine wpList_storeW rfl 36 (.tmp 12) (.tmp 25) rfl 2 plc_size w7.heap.size 36 rfl (prC (0, 0)) (prC (plcF p.1 (some x))) rfl HZ12.out rfl rfl (prC_one _) ?_; intro w8 hr8 hg8 hs8; have R8 := hide hr8; have HZ13' := hide (HZ13.out.grown hg8 (fun e => by have := Option.some.inj e; omega)); have HB8 := hide (HBZ.out.grown hg8 HBZ.out.size (fun k hk => by have := Option.some.inj hk; omega)); clear hr8 hg8 hs8) | (refine wpList_storeW rfl 71 (.tmp 13) (.tmp 26) rfl 13 nod_size (w7.heap.size + 1) 71 rfl (nodC nod0 (.slice none 0 0) (.slice none 0 0)) (nodC (nodO ls (some x)) (.slice A1 n1 c1) (.slice C1 m1 d1)) rfl HZ13'.out rfl rfl (nodC_one _ _ _ _ _ _ _) ?_; intro w9 hr9 hg9 hs9; rw [HNN.out] at hr9; have qk : w9.cell? ⟨w7.heap.size + 1, 0, none⟩ = some (.int .i64 1) := (hr9.cell 0).trans (by rw [show (nodC N (.slice A1 n1 c1) (.slice C1 m1 d1))[0]? = some (.int .i64 N.k) from rfl, HKK.out]); have HR13 := hide hr9; have HR12 := hide (R8.out.grown hg9 (fun e => by have := Option.some.inj e; omega)); have HB79 := hide (HB8.out.grown hg9 (by have := HB8.out.size; omega) (fun k hk => by have := Option.some.inj hk; omega)); have HB9 := hide (HB7.out.trans (HB79.out.mono HB7.out.size)); have hs9l := HB9.out.size; have hs79l := hr9.lt; clear hr9 hg9 hs9) | (refine wpList_loadW rfl 36 (.tmp 12) rfl 2 plc_agg plc_size w7.heap.size 36 rfl (prC x) HR12.out rfl ?_) | (refine wpList_litW rfl 30 (.tmp 43) rfl (.agg (prC x).toArray) _ rfl (lit_plc x w9) ?_; refine wpList_plain rfl fun K2 hK2 => ?_; go_loud (refine wp_appF w9 W1.heap.size _ rfl (.tmp 42) (.tmp 44) 30 36 rfl Tryz.underlying30 _ 2 16 plc_info rfl (by omega) (by omega) A acc.length c _ (prC x) rfl (prC_one x) rfl (ownsRow_below HOW.out HB9.out) rfl (by omega) (by omega) ?_); intro A5 c5 w10 ho10 hg10; refine hK2 _ _ ?_; clear hK2 K2; have HO10 := hide ho10; have HG10 := hide hg10; have hba := below_new (below_self w9) (.cells (prC x).toArray 36); have hoa := ownsRow_below (ownsRow_below HOW.out HB9.out) hba; have HR13b := hide ((HR13.out.on hba).grown hg10 (row_apart hoa (HR13.out.on hba) (by decide))); have HB10 := hide (((HBR.out.trans (HB9.out.mono hbsz)).trans (hba.mono (by omega))).grown hg10 (by have := hba.size; omega) (fun q hq => (own_block hoa q hq).1)); clear ho10 hg10 hba hoa) | (refine wpList_loadW rfl 71 (.tmp 13) rfl 13 nod_agg nod_size (w7.heap.size + 1) 71 rfl (nodC N (.slice A1 n1 c1) (.slice C1 m1 d1)) HR13b.out rfl ?_))
        refine (Marked_b HOPQ.out hath.1 hath.2 _).mono ?_
        rintro ez w11 ⟨rfl, hb11⟩
        have HO11 := hide (ownsRow_below HO10.out hb11)
        have HB11 := hide (HB10.out.trans (hb11.mono (by have := HB10.out.size; omega)))
        clear hb11
        have e := HFI.out
        rw [HDR.out] at e
        unfold findL at e
        rw [HO.out] at e
        simp only [HNX.out, HKK.out, HOPQ.out, if_true] at e
        have HE := hide e
        clear e
        have hka := kindA_snoc acc x
        have hlen : (acc ++ [x]).length = acc.length + 1 := by simp
        have HLEN := hide hlen
        have HKA := hide hka
        clear hka hlen
        cases op with
        | false =>
          go_wp2_with fail
          go_roundw
          case rel => exact ⟨j + 1, acc ++ [x], A5, c5, by omega, by go_num, by rw [HKA.out], by rw [HLEN.out], by rw [HLEN.out, flatR_snoc]; exact HO11.out, HB11.out, by rw [HLEN.out]; omega, by simpa using HE.out⟩
          case measure => simp [intOf]; omega
        | true =>
          have hE : R = (1, acc ++ [x]) := by simpa using HE.out.symm
          subst hE
          go_wp2_with fail
          rw [show acc.length + 1 = (acc ++ [x]).length from HLEN.out.symm]
          go_step3
          exact ⟨rfl, A5, c5, _, _, _, _, _, _, _, _, _, _, _, _, _, _, _, _, _, _, _, _, _, _, _, _, _, _, _, _, _, _, _, _, _, _, _, _, _, _, _, _, _, _, _, _, _, _, _, _, _, rfl, own_capP (by rw [HLEN.out]; exact HO11.out), (pr_fresh (by rw [HLEN.out, flatR_snoc]; exact HO11.out) rfl).mono (fun _ _ => rfl) (fun b hb => ⟨by omega, hb.2⟩), (HB1.out.trans (HB11.out.mono hs1))⟩
      · -- a file
        obtain ⟨x, rfl⟩ : ∃ x, o = some x := by
          cases o with
          | none => exact absurd HKK.out (by rw [← HNN.out]; simp [nodO, nod0])
          | some x => exact ⟨x, rfl⟩
        have hNx : lowAt ls x.1 x.2 = N := HNN.out
        have HNX := hide hNx
        clear hNx
        have e := HFI.out
        rw [HDR.out] at e
        unfold findL at e
        rw [HO.out] at e
        simp only [HNX.out, HKK.out] at e
        by_cases ha : acc = []
        · subst ha
          simp at e
          subst e
          rw [show kindA [] = 0 from rfl]
          go_wp2_with (first | (refine wpList_loadX rfl 36 (.tmp 18) rfl 2 plc_agg plc_size bP (oP + j * 2) rfl (prC p) HCP.out rfl ?_) | (refine wpList_storeW rfl 36 (.tmp 11) (.tmp 19) rfl 2 plc_size wr.heap.size 36 rfl (prC (0, 0)) (prC p) rfl HZP.out rfl rfl (prC_one _) ?_; intro w6 hr6 hg6 hs6; have hb6 := below_stored' hg6; have R6 := hide hr6; have HB6 := hide hb6; have R06 := hide ((R0.out.on HBR.out).on hb6); have hs6l := hb6.size; clear hr6 hg6 hs6 hb6) | (refine wpList_loadW rfl 29 (.tmp 3) rfl 6 stk_agg stk_size w.heap.size 29 rfl (stkC g (.slice AU nU cU) (.slice AL nL cL)) R06.out rfl ?_) | (refine wpList_loadW rfl 36 (.tmp 11) rfl 2 plc_agg plc_size wr.heap.size 36 rfl (prC p) R6.out rfl ?_) | (go_at_call 70; refine (LFirst_e HO.out w6 (HL.out.under (HBR.out.trans (HB6.out.mono hbsz)) hB1) (by omega) hm HM2.out HF.out).mono ?_; rintro ez w7 ⟨A1, n1, c1, C1, m1, d1, rfl, e2, e3, e4, e5, hb7⟩; have HB7 := hide (HB6.out.trans (hb7.mono hs6l)); obtain ⟨r12, r13, hbz, hsz⟩ := rows2 w7 (prC (0, 0)) (nodC nod0 (.slice none 0 0) (.slice none 0 0)) 36 71; have HZ12 := hide r12; have HZ13 := hide r13; have HBZ := hide hbz; have hs7l := hb7.size; clear e3 e5 hb7 r12 r13 hbz hsz) | (refine wpList_storeW rfl 36 (.tmp 12) (.tmp 25) rfl 2 plc_size w7.heap.size 36 rfl (prC (0, 0)) (prC (plcF p.1 (some x))) rfl HZ12.out rfl rfl (prC_one _) ?_; intro w8 hr8 hg8 hs8; have R8 := hide hr8; have HZ13' := hide (HZ13.out.grown hg8 (fun e => by have := Option.some.inj e; omega)); have HB8 := hide (HBZ.out.grown hg8 HBZ.out.size (fun k hk => by have := Option.some.inj hk; omega)); clear hr8 hg8 hs8) | (refine wpList_storeW rfl 71 (.tmp 13) (.tmp 26) rfl 13 nod_size (w7.heap.size + 1) 71 rfl (nodC nod0 (.slice none 0 0) (.slice none 0 0)) (nodC (nodO ls (some x)) (.slice A1 n1 c1) (.slice C1 m1 d1)) rfl HZ13'.out rfl rfl (nodC_one _ _ _ _ _ _ _) ?_; intro w9 hr9 hg9 hs9; rw [HNN.out] at hr9; have qk : w9.cell? ⟨w7.heap.size + 1, 0, none⟩ = some (.int .i64 2) := (hr9.cell 0).trans (by rw [show (nodC N (.slice A1 n1 c1) (.slice C1 m1 d1))[0]? = some (.int .i64 N.k) from rfl, HKK.out]); have HR13 := hide hr9; have HR12 := hide (R8.out.grown hg9 (fun e => by have := Option.some.inj e; omega)); have HB79 := hide (HB8.out.grown hg9 (by have := HB8.out.size; omega) (fun k hk => by have := Option.some.inj hk; omega)); have HB9 := hide (HB7.out.trans (HB79.out.mono HB7.out.size)); have hs9l := HB9.out.size; have hs79l := hr9.lt; clear hr9 hg9 hs9))
          have HQK := hide (fun W (hb : Below w9.heap.size w9 W) => show W.cell? ⟨w7.heap.size + 1, 0, none⟩ = some (.int .i64 2) from ((HR13.out.on hb).cell 0).trans (by rw [show (nodC N (.slice A1 n1 c1) (.slice C1 m1 d1))[0]? = some (.int .i64 N.k) from rfl, HKK.out]))
          clear qk
          refine wp_region_planN (fun w' => Below w9.heap.size w9 w') [(0, true), (1, true), (2, true), (4, true), (3, false), (5, true)] (by kernel_rfl) (by kernel_rfl) (by kernel_rfl) (by kernel_rfl) rfl (fun _ _ _ _ _ h => h) (below_drew (below_self w9)) (fun hHeld => ?_)
          simp only [planOps, List.filterMap_cons, List.filterMap_nil, List.getElem?_toArray, List.getElem?_cons_succ, List.getElem?_cons_zero, Option.map_some]
          refine wpPlan_take (v := ?_) (by kernel_rfl) (fun wS hSw => ?_) ?_
          rotate_left
          · (try dsimp only at hSw); go_simp; (try with_reducible rfl)
          (try simp only [Act.put, List.setIfInBounds_toArray, List.set_cons_zero, List.set_cons_succ])
          refine wpPlan_take (v := ?_) (by kernel_rfl) (fun wS hSw => ?_) ?_
          rotate_left
          · have qx := HQK.out wS hSw; go_simp; (try with_reducible rfl)
          (try simp only [Act.put, List.setIfInBounds_toArray, List.set_cons_zero, List.set_cons_succ])
          refine wpPlan_take (v := ?_) (by kernel_rfl) (fun wS hSw => ?_) ?_
          rotate_left
          · refine execOp_load (x := .tmp 12) (k := 2) (g := w7.heap.size) (off := 0) (cs := prC x) ?_ plc_agg plc_size ?_ (fun j v hv => by rw [Nat.zero_add]; exact ((HR12.out.on hSw).cell j).trans hv) rfl <;> rfl
          (try simp only [Act.put, List.setIfInBounds_toArray, List.set_cons_zero, List.set_cons_succ])
          refine wpPlan_take (v := ?_) (by kernel_rfl) (fun wS hSw => ?_) ?_
          rotate_left
          · (try dsimp only at hSw); go_simp; (try with_reducible rfl)
          (try simp only [Act.put, List.setIfInBounds_toArray, List.set_cons_zero, List.set_cons_succ])
          refine wpPlan_call (by kernel_rfl) (fun K hK => ?_)
          have hOld := hide hHeld
          clear hHeld
          have hlit := lit_plc x
          unfold Oper.wp execOp
          go_simp
          refine hK.out _ _ (hOld.out.alloc hOld.out.size _) (fun hHeld => ?_)
          clear hK K
          (try simp only [Act.put, List.setIfInBounds_toArray, List.set_cons_zero, List.set_cons_succ])
          refine wpPlan_take (v := ?_) (by kernel_rfl) (fun wS hSw => ?_) ?_
          rotate_left
          · (try dsimp only at hSw); go_simp; (try with_reducible rfl)
          (try simp only [Act.put, List.setIfInBounds_toArray, List.set_cons_zero, List.set_cons_succ])
          refine wpPlan_end ?_
          go_wp2_with fail
          go_step3
          exact ⟨rfl, _, _, _, _, _, _, _, _, _, _, _, _, _, _, _, _, _, _, _, _, _, _, _, _, _, _, _, _, _, _, _, _, _, _, _, _, _, _, _, _, _, _, _, _, _, _, _, _, _, _, _, rfl, Nat.le_refl _, pr_lit1 _ _ _ (show w.heap.size ≤ w9.heap.size from by omega), ((HBw.out.trans (HB9.out.mono (by have := HBw.out.size; omega))).trans (hHeld.mono (by omega)))⟩
        · simp [ha] at e
          subst e
          rw [show kindA acc = 1 from by simp [kindA, ha]]
          go_wp2_with (first | (refine wpList_loadX rfl 36 (.tmp 18) rfl 2 plc_agg plc_size bP (oP + j * 2) rfl (prC p) HCP.out rfl ?_) | (refine wpList_storeW rfl 36 (.tmp 11) (.tmp 19) rfl 2 plc_size wr.heap.size 36 rfl (prC (0, 0)) (prC p) rfl HZP.out rfl rfl (prC_one _) ?_; intro w6 hr6 hg6 hs6; have hb6 := below_stored' hg6; have R6 := hide hr6; have HB6 := hide hb6; have R06 := hide ((R0.out.on HBR.out).on hb6); have hs6l := hb6.size; clear hr6 hg6 hs6 hb6) | (refine wpList_loadW rfl 29 (.tmp 3) rfl 6 stk_agg stk_size w.heap.size 29 rfl (stkC g (.slice AU nU cU) (.slice AL nL cL)) R06.out rfl ?_) | (refine wpList_loadW rfl 36 (.tmp 11) rfl 2 plc_agg plc_size wr.heap.size 36 rfl (prC p) R6.out rfl ?_) | (go_at_call 70; refine (LFirst_e HO.out w6 (HL.out.under (HBR.out.trans (HB6.out.mono hbsz)) hB1) (by omega) hm HM2.out HF.out).mono ?_; rintro ez w7 ⟨A1, n1, c1, C1, m1, d1, rfl, e2, e3, e4, e5, hb7⟩; have HB7 := hide (HB6.out.trans (hb7.mono hs6l)); obtain ⟨r12, r13, hbz, hsz⟩ := rows2 w7 (prC (0, 0)) (nodC nod0 (.slice none 0 0) (.slice none 0 0)) 36 71; have HZ12 := hide r12; have HZ13 := hide r13; have HBZ := hide hbz; have hs7l := hb7.size; clear e3 e5 hb7 r12 r13 hbz hsz) | (refine wpList_storeW rfl 36 (.tmp 12) (.tmp 25) rfl 2 plc_size w7.heap.size 36 rfl (prC (0, 0)) (prC (plcF p.1 (some x))) rfl HZ12.out rfl rfl (prC_one _) ?_; intro w8 hr8 hg8 hs8; have R8 := hide hr8; have HZ13' := hide (HZ13.out.grown hg8 (fun e => by have := Option.some.inj e; omega)); have HB8 := hide (HBZ.out.grown hg8 HBZ.out.size (fun k hk => by have := Option.some.inj hk; omega)); clear hr8 hg8 hs8) | (refine wpList_storeW rfl 71 (.tmp 13) (.tmp 26) rfl 13 nod_size (w7.heap.size + 1) 71 rfl (nodC nod0 (.slice none 0 0) (.slice none 0 0)) (nodC (nodO ls (some x)) (.slice A1 n1 c1) (.slice C1 m1 d1)) rfl HZ13'.out rfl rfl (nodC_one _ _ _ _ _ _ _) ?_; intro w9 hr9 hg9 hs9; rw [HNN.out] at hr9; have qk : w9.cell? ⟨w7.heap.size + 1, 0, none⟩ = some (.int .i64 2) := (hr9.cell 0).trans (by rw [show (nodC N (.slice A1 n1 c1) (.slice C1 m1 d1))[0]? = some (.int .i64 N.k) from rfl, HKK.out]); have HR13 := hide hr9; have HR12 := hide (R8.out.grown hg9 (fun e => by have := Option.some.inj e; omega)); have HB79 := hide (HB8.out.grown hg9 (by have := HB8.out.size; omega) (fun k hk => by have := Option.some.inj hk; omega)); have HB9 := hide (HB7.out.trans (HB79.out.mono HB7.out.size)); have hs9l := HB9.out.size; have hs79l := hr9.lt; clear hr9 hg9 hs9))
          go_step3
          exact ⟨rfl, A, c, _, _, _, _, _, _, _, _, _, _, _, _, _, _, _, _, _, _, _, _, _, _, _, _, _, _, _, _, _, _, _, _, _, _, _, _, _, _, _, _, _, _, _, _, _, _, _, _, _, rfl, own_capP HOW.out, (pr_fresh (ownsRow_below HOW.out HB9.out) rfl).mono (fun _ _ => rfl) (fun b hb => ⟨by omega, hb.2⟩), (HBw.out.trans (HB9.out.mono (by have := HBw.out.size; omega)))⟩
      · -- a link
        obtain ⟨x, rfl⟩ : ∃ x, o = some x := by
          cases o with
          | none => exact absurd HKK.out (by rw [← HNN.out]; simp [nodO, nod0])
          | some x => exact ⟨x, rfl⟩
        have hNx : lowAt ls x.1 x.2 = N := HNN.out
        have HNX := hide hNx
        clear hNx
        have e := HFI.out
        rw [HDR.out] at e
        unfold findL at e
        rw [HO.out] at e
        simp only [HNX.out, HKK.out] at e
        by_cases ha : acc = []
        · subst ha
          simp at e
          subst e
          rw [show kindA [] = 0 from rfl]
          go_wp2_with (first | (refine wpList_loadX rfl 36 (.tmp 18) rfl 2 plc_agg plc_size bP (oP + j * 2) rfl (prC p) HCP.out rfl ?_) | (refine wpList_storeW rfl 36 (.tmp 11) (.tmp 19) rfl 2 plc_size wr.heap.size 36 rfl (prC (0, 0)) (prC p) rfl HZP.out rfl rfl (prC_one _) ?_; intro w6 hr6 hg6 hs6; have hb6 := below_stored' hg6; have R6 := hide hr6; have HB6 := hide hb6; have R06 := hide ((R0.out.on HBR.out).on hb6); have hs6l := hb6.size; clear hr6 hg6 hs6 hb6) | (refine wpList_loadW rfl 29 (.tmp 3) rfl 6 stk_agg stk_size w.heap.size 29 rfl (stkC g (.slice AU nU cU) (.slice AL nL cL)) R06.out rfl ?_) | (refine wpList_loadW rfl 36 (.tmp 11) rfl 2 plc_agg plc_size wr.heap.size 36 rfl (prC p) R6.out rfl ?_) | (go_at_call 70; refine (LFirst_e HO.out w6 (HL.out.under (HBR.out.trans (HB6.out.mono hbsz)) hB1) (by omega) hm HM2.out HF.out).mono ?_; rintro ez w7 ⟨A1, n1, c1, C1, m1, d1, rfl, e2, e3, e4, e5, hb7⟩; have HB7 := hide (HB6.out.trans (hb7.mono hs6l)); obtain ⟨r12, r13, hbz, hsz⟩ := rows2 w7 (prC (0, 0)) (nodC nod0 (.slice none 0 0) (.slice none 0 0)) 36 71; have HZ12 := hide r12; have HZ13 := hide r13; have HBZ := hide hbz; have hs7l := hb7.size; clear e3 e5 hb7 r12 r13 hbz hsz) | (refine wpList_storeW rfl 36 (.tmp 12) (.tmp 25) rfl 2 plc_size w7.heap.size 36 rfl (prC (0, 0)) (prC (plcF p.1 (some x))) rfl HZ12.out rfl rfl (prC_one _) ?_; intro w8 hr8 hg8 hs8; have R8 := hide hr8; have HZ13' := hide (HZ13.out.grown hg8 (fun e => by have := Option.some.inj e; omega)); have HB8 := hide (HBZ.out.grown hg8 HBZ.out.size (fun k hk => by have := Option.some.inj hk; omega)); clear hr8 hg8 hs8) | (refine wpList_storeW rfl 71 (.tmp 13) (.tmp 26) rfl 13 nod_size (w7.heap.size + 1) 71 rfl (nodC nod0 (.slice none 0 0) (.slice none 0 0)) (nodC (nodO ls (some x)) (.slice A1 n1 c1) (.slice C1 m1 d1)) rfl HZ13'.out rfl rfl (nodC_one _ _ _ _ _ _ _) ?_; intro w9 hr9 hg9 hs9; rw [HNN.out] at hr9; have qk : w9.cell? ⟨w7.heap.size + 1, 0, none⟩ = some (.int .i64 3) := (hr9.cell 0).trans (by rw [show (nodC N (.slice A1 n1 c1) (.slice C1 m1 d1))[0]? = some (.int .i64 N.k) from rfl, HKK.out]); have HR13 := hide hr9; have HR12 := hide (R8.out.grown hg9 (fun e => by have := Option.some.inj e; omega)); have HB79 := hide (HB8.out.grown hg9 (by have := HB8.out.size; omega) (fun k hk => by have := Option.some.inj hk; omega)); have HB9 := hide (HB7.out.trans (HB79.out.mono HB7.out.size)); have hs9l := HB9.out.size; have hs79l := hr9.lt; clear hr9 hg9 hs9))
          have HQK := hide (fun W (hb : Below w9.heap.size w9 W) => show W.cell? ⟨w7.heap.size + 1, 0, none⟩ = some (.int .i64 3) from ((HR13.out.on hb).cell 0).trans (by rw [show (nodC N (.slice A1 n1 c1) (.slice C1 m1 d1))[0]? = some (.int .i64 N.k) from rfl, HKK.out]))
          clear qk
          refine wp_region_planN (fun w' => Below w9.heap.size w9 w') [(0, true), (1, true), (2, true), (4, true), (3, false), (5, true)] (by kernel_rfl) (by kernel_rfl) (by kernel_rfl) (by kernel_rfl) rfl (fun _ _ _ _ _ h => h) (below_drew (below_self w9)) (fun hHeld => ?_)
          simp only [planOps, List.filterMap_cons, List.filterMap_nil, List.getElem?_toArray, List.getElem?_cons_succ, List.getElem?_cons_zero, Option.map_some]
          refine wpPlan_take (v := ?_) (by kernel_rfl) (fun wS hSw => ?_) ?_
          rotate_left
          · (try dsimp only at hSw); go_simp; (try with_reducible rfl)
          (try simp only [Act.put, List.setIfInBounds_toArray, List.set_cons_zero, List.set_cons_succ])
          refine wpPlan_take (v := ?_) (by kernel_rfl) (fun wS hSw => ?_) ?_
          rotate_left
          · have qx := HQK.out wS hSw; go_simp; (try with_reducible rfl)
          (try simp only [Act.put, List.setIfInBounds_toArray, List.set_cons_zero, List.set_cons_succ])
          refine wpPlan_take (v := ?_) (by kernel_rfl) (fun wS hSw => ?_) ?_
          rotate_left
          · refine execOp_load (x := .tmp 12) (k := 2) (g := w7.heap.size) (off := 0) (cs := prC x) ?_ plc_agg plc_size ?_ (fun j v hv => by rw [Nat.zero_add]; exact ((HR12.out.on hSw).cell j).trans hv) rfl <;> rfl
          (try simp only [Act.put, List.setIfInBounds_toArray, List.set_cons_zero, List.set_cons_succ])
          refine wpPlan_take (v := ?_) (by kernel_rfl) (fun wS hSw => ?_) ?_
          rotate_left
          · (try dsimp only at hSw); go_simp; (try with_reducible rfl)
          (try simp only [Act.put, List.setIfInBounds_toArray, List.set_cons_zero, List.set_cons_succ])
          refine wpPlan_call (by kernel_rfl) (fun K hK => ?_)
          have hOld := hide hHeld
          clear hHeld
          have hlit := lit_plc x
          unfold Oper.wp execOp
          go_simp
          refine hK.out _ _ (hOld.out.alloc hOld.out.size _) (fun hHeld => ?_)
          clear hK K
          (try simp only [Act.put, List.setIfInBounds_toArray, List.set_cons_zero, List.set_cons_succ])
          refine wpPlan_take (v := ?_) (by kernel_rfl) (fun wS hSw => ?_) ?_
          rotate_left
          · (try dsimp only at hSw); go_simp; (try with_reducible rfl)
          (try simp only [Act.put, List.setIfInBounds_toArray, List.set_cons_zero, List.set_cons_succ])
          refine wpPlan_end ?_
          go_wp2_with fail
          go_step3
          exact ⟨rfl, _, _, _, _, _, _, _, _, _, _, _, _, _, _, _, _, _, _, _, _, _, _, _, _, _, _, _, _, _, _, _, _, _, _, _, _, _, _, _, _, _, _, _, _, _, _, _, _, _, _, _, rfl, Nat.le_refl _, pr_lit1 _ _ _ (show w.heap.size ≤ w9.heap.size from by omega), ((HBw.out.trans (HB9.out.mono (by have := HBw.out.size; omega))).trans (hHeld.mono (by omega)))⟩
        · simp [ha] at e
          subst e
          rw [show kindA acc = 1 from by simp [kindA, ha]]
          go_wp2_with (first | (refine wpList_loadX rfl 36 (.tmp 18) rfl 2 plc_agg plc_size bP (oP + j * 2) rfl (prC p) HCP.out rfl ?_) | (refine wpList_storeW rfl 36 (.tmp 11) (.tmp 19) rfl 2 plc_size wr.heap.size 36 rfl (prC (0, 0)) (prC p) rfl HZP.out rfl rfl (prC_one _) ?_; intro w6 hr6 hg6 hs6; have hb6 := below_stored' hg6; have R6 := hide hr6; have HB6 := hide hb6; have R06 := hide ((R0.out.on HBR.out).on hb6); have hs6l := hb6.size; clear hr6 hg6 hs6 hb6) | (refine wpList_loadW rfl 29 (.tmp 3) rfl 6 stk_agg stk_size w.heap.size 29 rfl (stkC g (.slice AU nU cU) (.slice AL nL cL)) R06.out rfl ?_) | (refine wpList_loadW rfl 36 (.tmp 11) rfl 2 plc_agg plc_size wr.heap.size 36 rfl (prC p) R6.out rfl ?_) | (go_at_call 70; refine (LFirst_e HO.out w6 (HL.out.under (HBR.out.trans (HB6.out.mono hbsz)) hB1) (by omega) hm HM2.out HF.out).mono ?_; rintro ez w7 ⟨A1, n1, c1, C1, m1, d1, rfl, e2, e3, e4, e5, hb7⟩; have HB7 := hide (HB6.out.trans (hb7.mono hs6l)); obtain ⟨r12, r13, hbz, hsz⟩ := rows2 w7 (prC (0, 0)) (nodC nod0 (.slice none 0 0) (.slice none 0 0)) 36 71; have HZ12 := hide r12; have HZ13 := hide r13; have HBZ := hide hbz; have hs7l := hb7.size; clear e3 e5 hb7 r12 r13 hbz hsz) | (refine wpList_storeW rfl 36 (.tmp 12) (.tmp 25) rfl 2 plc_size w7.heap.size 36 rfl (prC (0, 0)) (prC (plcF p.1 (some x))) rfl HZ12.out rfl rfl (prC_one _) ?_; intro w8 hr8 hg8 hs8; have R8 := hide hr8; have HZ13' := hide (HZ13.out.grown hg8 (fun e => by have := Option.some.inj e; omega)); have HB8 := hide (HBZ.out.grown hg8 HBZ.out.size (fun k hk => by have := Option.some.inj hk; omega)); clear hr8 hg8 hs8) | (refine wpList_storeW rfl 71 (.tmp 13) (.tmp 26) rfl 13 nod_size (w7.heap.size + 1) 71 rfl (nodC nod0 (.slice none 0 0) (.slice none 0 0)) (nodC (nodO ls (some x)) (.slice A1 n1 c1) (.slice C1 m1 d1)) rfl HZ13'.out rfl rfl (nodC_one _ _ _ _ _ _ _) ?_; intro w9 hr9 hg9 hs9; rw [HNN.out] at hr9; have qk : w9.cell? ⟨w7.heap.size + 1, 0, none⟩ = some (.int .i64 3) := (hr9.cell 0).trans (by rw [show (nodC N (.slice A1 n1 c1) (.slice C1 m1 d1))[0]? = some (.int .i64 N.k) from rfl, HKK.out]); have HR13 := hide hr9; have HR12 := hide (R8.out.grown hg9 (fun e => by have := Option.some.inj e; omega)); have HB79 := hide (HB8.out.grown hg9 (by have := HB8.out.size; omega) (fun k hk => by have := Option.some.inj hk; omega)); have HB9 := hide (HB7.out.trans (HB79.out.mono HB7.out.size)); have hs9l := HB9.out.size; have hs79l := hr9.lt; clear hr9 hg9 hs9))
          go_step3
          exact ⟨rfl, A, c, _, _, _, _, _, _, _, _, _, _, _, _, _, _, _, _, _, _, _, _, _, _, _, _, _, _, _, _, _, _, _, _, _, _, _, _, _, _, _, _, _, _, _, _, _, _, _, _, _, rfl, own_capP HOW.out, (pr_fresh (ownsRow_below HOW.out HB9.out) rfl).mono (fun _ _ => rfl) (fun b hb => ⟨by omega, hb.2⟩), (HBw.out.trans (HB9.out.mono (by have := HBw.out.size; omega)))⟩
      · -- a whiteout
        go_wp2_with (first | (refine wpList_loadX rfl 36 (.tmp 18) rfl 2 plc_agg plc_size bP (oP + j * 2) rfl (prC p) HCP.out rfl ?_) | (refine wpList_storeW rfl 36 (.tmp 11) (.tmp 19) rfl 2 plc_size wr.heap.size 36 rfl (prC (0, 0)) (prC p) rfl HZP.out rfl rfl (prC_one _) ?_; intro w6 hr6 hg6 hs6; have hb6 := below_stored' hg6; have R6 := hide hr6; have HB6 := hide hb6; have R06 := hide ((R0.out.on HBR.out).on hb6); have hs6l := hb6.size; clear hr6 hg6 hs6 hb6) | (refine wpList_loadW rfl 29 (.tmp 3) rfl 6 stk_agg stk_size w.heap.size 29 rfl (stkC g (.slice AU nU cU) (.slice AL nL cL)) R06.out rfl ?_) | (refine wpList_loadW rfl 36 (.tmp 11) rfl 2 plc_agg plc_size wr.heap.size 36 rfl (prC p) R6.out rfl ?_) | (go_at_call 70; refine (LFirst_e HO.out w6 (HL.out.under (HBR.out.trans (HB6.out.mono hbsz)) hB1) (by omega) hm HM2.out HF.out).mono ?_; rintro ez w7 ⟨A1, n1, c1, C1, m1, d1, rfl, e2, e3, e4, e5, hb7⟩; have HB7 := hide (HB6.out.trans (hb7.mono hs6l)); obtain ⟨r12, r13, hbz, hsz⟩ := rows2 w7 (prC (0, 0)) (nodC nod0 (.slice none 0 0) (.slice none 0 0)) 36 71; have HZ12 := hide r12; have HZ13 := hide r13; have HBZ := hide hbz; have hs7l := hb7.size; clear e3 e5 hb7 r12 r13 hbz hsz) | (refine wpList_storeW rfl 36 (.tmp 12) (.tmp 25) rfl 2 plc_size w7.heap.size 36 rfl (prC (0, 0)) (prC (plcF p.1 o)) rfl HZ12.out rfl rfl (prC_one _) ?_; intro w8 hr8 hg8 hs8; have R8 := hide hr8; have HZ13' := hide (HZ13.out.grown hg8 (fun e => by have := Option.some.inj e; omega)); have HB8 := hide (HBZ.out.grown hg8 HBZ.out.size (fun k hk => by have := Option.some.inj hk; omega)); clear hr8 hg8 hs8) | (refine wpList_storeW rfl 71 (.tmp 13) (.tmp 26) rfl 13 nod_size (w7.heap.size + 1) 71 rfl (nodC nod0 (.slice none 0 0) (.slice none 0 0)) (nodC (nodO ls o) (.slice A1 n1 c1) (.slice C1 m1 d1)) rfl HZ13'.out rfl rfl (nodC_one _ _ _ _ _ _ _) ?_; intro w9 hr9 hg9 hs9; rw [HNN.out] at hr9; have qk : w9.cell? ⟨w7.heap.size + 1, 0, none⟩ = some (.int .i64 4) := (hr9.cell 0).trans (by rw [show (nodC N (.slice A1 n1 c1) (.slice C1 m1 d1))[0]? = some (.int .i64 N.k) from rfl, HKK.out]); have HR13 := hide hr9; have HR12 := hide (R8.out.grown hg9 (fun e => by have := Option.some.inj e; omega)); have HB79 := hide (HB8.out.grown hg9 (by have := HB8.out.size; omega) (fun k hk => by have := Option.some.inj hk; omega)); have HB9 := hide (HB7.out.trans (HB79.out.mono HB7.out.size)); have hs9l := HB9.out.size; have hs79l := hr9.lt; clear hr9 hg9 hs9))
        go_step3
        have e := HFI.out
        obtain ⟨x, rfl⟩ : ∃ x, o = some x := by
          cases o with
          | none => exact absurd HKK.out (by rw [← HNN.out]; simp [nodO, nod0])
          | some x => exact ⟨x, rfl⟩
        rw [HDR.out] at e
        unfold findL at e
        rw [HO.out] at e
        have hNx : lowAt ls x.1 x.2 = N := HNN.out
        simp only [hNx, HKK.out] at e
        by_cases ha : acc = []
        · subst ha
          simp at e
          subst e
          exact ⟨rfl, _, _, _, _, _, _, _, _, _, _, _, _, _, _, _, _, _, _, _, _, _, _, _, _, _, _, _, _, _, _, _, _, _, _, _, _, _, _, _, _, _, _, _, _, _, _, _, _, _, _, _, rfl, Nat.zero_le _, RdE.none_ _ _ _ _, (HBw.out.trans (HB9.out.mono (by have := HBw.out.size; omega)))⟩
        · simp [ha] at e
          subst e
          have hka : kindA acc = 1 := by simp [kindA, ha]
          rw [hka]
          exact ⟨rfl, A, c, _, _, _, _, _, _, _, _, _, _, _, _, _, _, _, _, _, _, _, _, _, _, _, _, _, _, _, _, _, _, _, _, _, _, _, _, _, _, _, _, _, _, _, _, _, _, _, _, _, rfl, own_capP HOW.out, (pr_fresh (ownsRow_below HOW.out HB9.out) rfl).mono (fun _ _ => rfl) (fun b hb => ⟨by omega, hb.2⟩), (HBw.out.trans (HB9.out.mono (by have := HBw.out.size; omega)))⟩
    · obtain rfl : j = n := by omega
      have e := HFI.out
      rw [List.drop_of_length_le (by have := HPL.out; omega), findL_end] at e
      subst e
      go_wp2_with fail
      go_step3
      go_wp2_with fail
      (first | go_ret2 | (simp only [Exit.jump]; go_ret2) | (rw [Exit.noGoto_ret]; go_ret2))
      exact ⟨A, c, rfl, own_capP HOW.out, (pr_fresh HOW.out rfl).mono (fun _ _ => rfl) (fun b hb => ⟨by omega, hb.2⟩), HBw.out⟩
end Go.Proofs.YtnehkgbdppbhiaaGreat

/- The reference's Find (layer 16). -/
namespace Go.Proofs.YtnehkgbdppbhiaaGreat
open Go.RowKit Go.Shelf Plain

theorem REntry_e {g : GeoQ} {AU AL : Option Addr} {nU cU nL cL : Nat} {ls : List (List NodV)} {p : Int × Int} {nm : List UInt8} {B : Nat} {o : Option (Int × Int)} (ho : firstL ls p nm = o) (w : World) (h : RdE layEn w (Under B) AL nL ls) (hB : B ≤ w.heap.size) (hm : ls.length ≤ 100) (hm2 : ∀ ns ∈ ls, ns.length ≤ 1000) (hF : FewL ls) :
    Calls Tryz.prog 97 #[.agg (stkC g (.slice AU nU cU) (.slice AL nL cL)).toArray, .agg (prC p).toArray, .string ⟨nm.toArray⟩] w (PlcRet w o) := by rw [← ho]; exact REntry_any w h hB hm hm2 hF
set_option maxRecDepth 100000 in
set_option maxHeartbeats 16000000 in
theorem RFind_any {g : GeoQ} {AU AL AP : Option Addr} {nU cU nL cL n cP : Nat} {ls : List (List NodV)} {l : List (Int × Int)} {nm : List UInt8} {B : Nat} (w : World) (h : RdE layEn w (Under B) AL nL ls) (hp : RdE prEn w (Under w.heap.size) AP n l) (hB : B ≤ w.heap.size) (hF : FewL ls) (hn : n ≤ 1000) :
    Calls Tryz.prog 53 #[.agg (stkC g (.slice AU nU cU) (.slice AL nL cL)).toArray, .slice AP n cP, .string ⟨nm.toArray⟩] w (FindRet w (findL ls nm l [])) := by
  have r0 := RowL.new w 29 (stkC g (.slice AU nU cU) (.slice AL nL cL))
  have hb1 := below_new (below_self w) (.cells (stkC g (.slice AU nU cU) (.slice AL nL cL)).toArray 29)
  obtain ⟨W1, hW1⟩ : ∃ W1, w.alloc (.cells (stkC g (.slice AU nU cU) (.slice AL nL cL)).toArray 29) = W1 := ⟨_, rfl⟩
  rw [hW1] at r0 hb1
  have hW1' : w.alloc (.cells #[.int .i64 g.a, .int .i64 g.b, .int .i64 g.c, .int .i64 g.d, .slice AU nU cU, .slice AL nL cL] 29) = W1 := hW1
  have hm : ls.length ≤ 100 := by have := hF.1; omega
  have HM2 := hide (fun ns (hh : ns ∈ ls) => (show ns.length ≤ 1000 from Nat.le_trans (hF.2 ns hh).1 (by omega)))
  have R0 := hide r0
  have HB1 := hide hb1
  have hs1 := hb1.size
  have HL := hide (h.under hb1 hB)
  have HP := hide (hp.on hb1)
  have HPL := hide hp.1
  have HF := hide hF
  obtain ⟨R, hR⟩ : ∃ R, findL ls nm l [] = R := ⟨_, rfl⟩
  rw [hR]
  have HR := hide hR
  have hB1 : B ≤ W1.heap.size := by omega
  have HO0 := hide (own_lit0 W1 36 2 (base := W1.heap.size) rfl (Nat.le_refl _))
  have HW0 := hide (below_new (below_self W1) (.cells #[] 36))
  unfold stkC
  clear r0 hb1 hW1 h hp hF hR
  go_enter Tryz.func53, Tryz.ntmps53
  go_wp2_with fail
  clear hW1'
  go_loopw [8, 9] (fun v8 v9 wr => ∃ (j : Nat) (acc : List (Int × Int)) (A : Option Addr) (c : Nat), j ≤ n ∧ v9 = .int .i64 j ∧ v8 = .slice A acc.length c ∧ FindSt W1.heap.size W1 ls nm l R j acc A c wr) (fun _ v9 _ => n - (intOf v9).toNat)
  case atStart => exact ⟨0, [], _, 0, by omega, rfl, rfl, HO0.out, HW0.out, Nat.le_refl _, by rw [List.drop_zero]; exact HR.out⟩
  case round =>
    obtain ⟨j, acc, A, c, hj, rfl, rfl, hown, hbr, hal, hfin⟩ := hrel
    have HOW := hide hown
    have HBR := hide hbr
    have HFI := hide hfin
    have hbsz := hbr.size
    have HBw := hide (HB1.out.trans (hbr.mono hs1))
    clear hown hbr hfin
    by_cases hlt : j < n
    · obtain ⟨p, hp⟩ : ∃ p, l[j]? = some p := ⟨_, List.getElem?_eq_getElem (by have := HPL.out; omega)⟩
      obtain ⟨bP, oP, rfl, hbP, hcP⟩ := pr_get (HP.out.under HBR.out (Nat.le_refl _)) hp
      have HCP := hide hcP
      have hbPr : bP < wr.heap.size := by have : bP < W1.heap.size := hbP; omega
      have HDR := hide (show l.drop j = p :: l.drop (j + 1) from by
        have hjl := (List.getElem?_eq_some_iff.1 hp).1
        rw [List.drop_eq_getElem_cons hjl, (List.getElem?_eq_some_iff.1 hp).2])
      have hjn : (j : Int) < (n : Int) := by omega
      obtain ⟨o, ho⟩ : ∃ o, firstL ls p nm = o := ⟨_, rfl⟩
      have HO := hide ho
      have R0r := hide (R0.out.on HBR.out)
      have HLR := hide (fun W (hb : Below wr.heap.size wr W) => HL.out.under (HBR.out.trans (hb.mono hbsz)) hB1)
      clear hp hcP ho
      go_upto_region 5 with fail
      go_cut [10, 11] from 20 to 29 (fun v10 v11 wx => ∃ g10, v10 = .pointer (some ⟨g10, 0, none⟩) ∧ v11 = .bool o.isSome ∧ RowL wx g10 36 (prC (plcO o)) ∧ Below wr.heap.size wr wx)
      case first =>
        refine wp_region_G (fun w' => Below wr.heap.size wr w') (.take 0 (.take 1 (.take 2 (.take 3 (.take 4 (.take 5 (.alt 6 (.take 7 (.take 8 (.take 9 (.alt 10 (.alt 11 (.take 12 .leaf) .stop) .stop)))) (.alt 10 (.alt 6 (.take 7 (.take 8 (.take 9 (.alt 11 (.take 12 .leaf) .stop)))) .stop) .stop)))))))) (by kernel_rfl) (by kernel_rfl) (by kernel_rfl) (by kernel_rfl) rfl (fun _ _ _ _ _ h => h) (below_drew (below_self wr)) (fun hHeld => ?_)
        generalize wr.drew = wd at *
        simp only [PT.map, List.getElem?_toArray, List.getElem?_cons_succ, List.getElem?_cons_zero]
        refine wpPT_take (v := ?_) (by kernel_rfl) (fun wS hSw => ?_) ?_
        rotate_left
        · refine execOp_load (x := .tmp 3) (k := 6) (g := w.heap.size) (off := 0) (cs := stkC g (.slice AU nU cU) (.slice AL nL cL)) ?_ stk_agg stk_size ?_ (fun j' v hv => by rw [Nat.zero_add]; exact ((R0r.out.on hSw).cell j').trans hv) rfl <;> rfl
        (try simp only [Act.put, List.setIfInBounds_toArray, List.set_cons_zero, List.set_cons_succ])
        refine wpPT_take (v := ?_) (by kernel_rfl) (fun wS hSw => ?_) ?_
        rotate_left
        · (try dsimp only at hSw); go_simp; (try with_reducible rfl)
        (try simp only [Act.put, List.setIfInBounds_toArray, List.set_cons_zero, List.set_cons_succ])
        refine wpPT_take (v := ?_) (by kernel_rfl) (fun wS hSw => ?_) ?_
        rotate_left
        · (try dsimp only at hSw); go_simp; (try with_reducible rfl)
        (try simp only [Act.put, List.setIfInBounds_toArray, List.set_cons_zero, List.set_cons_succ])
        refine wpPT_take (v := ?_) (by kernel_rfl) (fun wS hSw => ?_) ?_
        rotate_left
        · (try dsimp only at hSw); go_simp; (try with_reducible rfl)
        (try simp only [Act.put, List.setIfInBounds_toArray, List.set_cons_zero, List.set_cons_succ])
        refine wpPT_take (v := ?_) (by kernel_rfl) (fun wS hSw => ?_) ?_
        rotate_left
        · refine execOp_load (x := .tmp 24) (k := 2) (g := bP) (off := oP + j * 2) (cs := prC p) ?_ plc_agg plc_size ?_ (fun j' v hv => (hSw.cell (p := ⟨bP, oP + j * 2 + j', none⟩) hbPr).trans (HCP.out j' v hv)) rfl <;> rfl
        (try simp only [Act.put, List.setIfInBounds_toArray, List.set_cons_zero, List.set_cons_succ])
        refine wpPT_take (v := ?_) (by kernel_rfl) (fun wS hSw => ?_) ?_
        rotate_left
        · (try dsimp only at hSw); go_simp; (try with_reducible rfl)
        (try simp only [Act.put, List.setIfInBounds_toArray, List.set_cons_zero, List.set_cons_succ])
        refine wpPT_alt (by kernel_rfl) (fun K hK => ?_) ?_
        · skip
          have hOld := hide hHeld
          clear hHeld
          go_simp
          go_at_call 97
          refine (REntry_e HO.out _ (HLR.out _ hOld.out) (by have := hOld.out.size; omega) hm HM2.out HF.out).mono ?_
          rintro e w' ⟨rfl, hbel⟩
          have hsC := (hOld.out.trans (hbel.mono hOld.out.size)).size
          refine hK.out _ _ (hOld.out.trans (hbel.mono hOld.out.size)) (fun hHeld => ?_)
          clear hK K
          (try simp only [Act.put, List.setIfInBounds_toArray, List.set_cons_zero, List.set_cons_succ])
          refine wpPT_take (v := ?_) (by kernel_rfl) (fun wS hSw => ?_) ?_
          rotate_left
          · (try dsimp only at hSw); go_simp; (try with_reducible rfl)
          (try simp only [Act.put, List.setIfInBounds_toArray, List.set_cons_zero, List.set_cons_succ])
          refine wpPT_take (v := ?_) (by kernel_rfl) (fun wS hSw => ?_) ?_
          rotate_left
          · (try dsimp only at hSw); go_simp; (try with_reducible rfl)
          (try simp only [Act.put, List.setIfInBounds_toArray, List.set_cons_zero, List.set_cons_succ])
          refine wpPT_take (v := ?_) (by kernel_rfl) (fun wS hSw => ?_) ?_
          rotate_left
          · (try dsimp only at hSw); go_simp; (try with_reducible rfl)
          (try simp only [Act.put, List.setIfInBounds_toArray, List.set_cons_zero, List.set_cons_succ])
          refine wpPT_alt (by kernel_rfl) (fun K hK => ?_) ?_
          rotate_left
          · exact wpPT_stop
          have hOld := hide hHeld
          clear hHeld
          unfold Oper.wp execOp
          go_simp
          refine hK.out _ _ (hOld.out.alloc hOld.out.size _) (fun hHeld => ?_)
          clear hK K
          (try simp only [Act.put, List.setIfInBounds_toArray, List.set_cons_zero, List.set_cons_succ])
          refine wpPT_alt (by kernel_rfl) (fun K hK => ?_) ?_
          rotate_left
          · exact wpPT_stop
          have hOld := hide hHeld
          clear hHeld
          refine wp_storeC 36 (.tmp 10) (.tmp 28) rfl 2 plc_size w'.heap.size 0 36 rfl (prC (0, 0)) (prC (plcO o)) rfl (RowL.new w' 36 (prC (0, 0))) rfl (by exact Nat.le_refl _) (prC_one _) ?_
          intro w9 hr9 hg9 hs9
          rw [splice_all (prC (0, 0)) (prC (plcO o)) rfl] at hr9
          refine hK.out _ _ (hOld.out.grown hg9 hOld.out.size (fun k hk => by have := Option.some.inj hk; omega)) (fun hHeld => ?_)
          clear hK K
          have HR10 := hide hr9
          clear hr9 hg9 hs9
          (try simp only [Act.put])
          refine wpPT_take (v := ?_) (by kernel_rfl) (fun wS hSw => ?_) ?_
          rotate_left
          · (try dsimp only at hSw); go_simp; (try with_reducible rfl)
          (try simp only [Act.put, List.setIfInBounds_toArray, List.set_cons_zero, List.set_cons_succ])
          refine wpPT_leaf ?_
          have HBX' := hide hHeld
          clear hHeld hOld
          go_wp2_with fail
          go_meet
          case rel => exact ⟨w'.heap.size, rfl, rfl, HR10.out, HBX'.out⟩
        refine wpPT_alt (by kernel_rfl) (fun K hK => ?_) ?_
        · skip
          have hOld := hide hHeld
          clear hHeld
          have hsW := hOld.out.size
          unfold Oper.wp execOp
          go_simp
          refine hK.out _ _ (hOld.out.alloc hOld.out.size _) (fun hHeld => ?_)
          clear hK K
          (try simp only [Act.put, List.setIfInBounds_toArray, List.set_cons_zero, List.set_cons_succ])
          refine wpPT_alt (by kernel_rfl) (fun K hK => ?_) ?_
          rotate_left
          · exact wpPT_stop
          have hOld := hide hHeld
          clear hHeld
          go_simp
          go_at_call 97
          refine (REntry_e HO.out _ (HLR.out _ hOld.out) (by have := hOld.out.size; omega) hm HM2.out HF.out).mono ?_
          rintro e w' ⟨rfl, hbel⟩
          have hsC := (hOld.out.trans (hbel.mono hOld.out.size)).size
          have HBX := hide ((RowL.new wd 36 (prC (0, 0))).on hbel)
          have hsD := hbel.size
          simp only [World.size_alloc] at hsD
          refine hK.out _ _ (hOld.out.trans (hbel.mono hOld.out.size)) (fun hHeld => ?_)
          clear hK K
          (try simp only [Act.put, List.setIfInBounds_toArray, List.set_cons_zero, List.set_cons_succ])
          refine wpPT_take (v := ?_) (by kernel_rfl) (fun wS hSw => ?_) ?_
          rotate_left
          · (try dsimp only at hSw); go_simp; (try with_reducible rfl)
          (try simp only [Act.put, List.setIfInBounds_toArray, List.set_cons_zero, List.set_cons_succ])
          refine wpPT_take (v := ?_) (by kernel_rfl) (fun wS hSw => ?_) ?_
          rotate_left
          · (try dsimp only at hSw); go_simp; (try with_reducible rfl)
          (try simp only [Act.put, List.setIfInBounds_toArray, List.set_cons_zero, List.set_cons_succ])
          refine wpPT_take (v := ?_) (by kernel_rfl) (fun wS hSw => ?_) ?_
          rotate_left
          · (try dsimp only at hSw); go_simp; (try with_reducible rfl)
          (try simp only [Act.put, List.setIfInBounds_toArray, List.set_cons_zero, List.set_cons_succ])
          refine wpPT_alt (by kernel_rfl) (fun K hK => ?_) ?_
          rotate_left
          · exact wpPT_stop
          have hOld := hide hHeld
          clear hHeld
          refine wp_storeC 36 (.tmp 10) (.tmp 28) rfl 2 plc_size wd.heap.size 0 36 rfl (prC (0, 0)) (prC (plcO o)) rfl HBX.out rfl (by exact Nat.le_refl _) (prC_one _) ?_
          intro w9 hr9 hg9 hs9
          rw [splice_all (prC (0, 0)) (prC (plcO o)) rfl] at hr9
          refine hK.out _ _ (hOld.out.grown hg9 hOld.out.size (fun k hk => by have := Option.some.inj hk; omega)) (fun hHeld => ?_)
          clear hK K
          have HR10 := hide hr9
          clear hr9 hg9 hs9
          (try simp only [Act.put])
          refine wpPT_take (v := ?_) (by kernel_rfl) (fun wS hSw => ?_) ?_
          rotate_left
          · (try dsimp only at hSw); go_simp; (try with_reducible rfl)
          (try simp only [Act.put, List.setIfInBounds_toArray, List.set_cons_zero, List.set_cons_succ])
          refine wpPT_leaf ?_
          have HBX' := hide hHeld
          clear hHeld hOld
          go_wp2_with fail
          go_meet
          case rel => exact ⟨wd.heap.size, rfl, rfl, HR10.out, HBX'.out⟩
        exact wpPT_stop
      case rest =>
      obtain ⟨g10, rfl, rfl, hr10, hbx⟩ := hcut
      have HR10c := hide hr10
      have HBX := hide hbx
      have hgx := hr10.lt
      have hsx := hbx.size
      have e := HFI.out
      rw [HDR.out] at e
      unfold findL at e
      rw [HO.out] at e
      have HOX := hide (ownsRow_below HOW.out hbx)
      have HBXr := hide (HBR.out.trans (hbx.mono hbsz))
      have R0x := hide (R0r.out.on hbx)
      clear hr10 hbx
      cases o with
      | none =>
        have HE := hide e
        clear e
        go_wp2_with fail
        go_roundw
        case rel => exact ⟨j + 1, acc, A, c, by omega, by go_num, rfl, HOX.out, HBXr.out, by omega, HE.out⟩
        case measure => simp [intOf]; omega
      | some x =>
        obtain ⟨N, hN⟩ : ∃ N, lowAt ls x.1 x.2 = N := ⟨_, rfl⟩
        have hPN : PlainN N := by rw [← hN]; exact low_plain HF.out x.1 x.2
        have HNX := hide hN
        have hkr := hPN.2.1
        have hath := hPN.2.2.1
        have hu := first_use HO.out
        rw [hN] at hu
        obtain ⟨kk, hkk⟩ : ∃ kk, N.k = kk := ⟨_, rfl⟩
        simp only [hN, hkk] at e
        rw [hkk] at hu hkr
        have HKK := hide hkk
        have HE := hide e
        obtain ⟨ba, hba⟩ : ∃ ba, decide (acc ≠ []) = ba := ⟨_, rfl⟩
        have HBA := hide hba
        clear hN hPN hkk e hba
        rcases (show kk = 1 ∨ kk = 2 ∨ kk = 3 ∨ kk = 4 by omega) with rfl | rfl | rfl | rfl
        · obtain ⟨op, hop⟩ : ∃ op, opq N = op := ⟨_, rfl⟩
          have HOPQ := hide hop
          have he := HE.out
          simp only [hop, if_true] at he
          have HE2 := hide he
          clear hop he
          have HLEN := hide (show (acc ++ [x]).length = acc.length + 1 by simp)
          go_wp2_with (first | (refine wpList_loadW rfl 29 (.tmp 3) rfl 6 stk_agg stk_size w.heap.size 29 rfl (stkC g (.slice AU nU cU) (.slice AL nL cL)) R0x.out rfl ?_) | (refine wpList_loadW rfl 36 (.tmp 10) rfl 2 plc_agg plc_size g10 36 rfl (prC x) HR10c.out rfl ?_) | (go_at_call 98; refine (RLower_e HNX.out wc (HL.out.under HBXr.out hB1) (by omega) hm HM2.out).mono ?_; rintro ez w7 ⟨A1, n1, c1, C1, m1, d1, rfl, e2, e3, e4, e5, hb7⟩; have HB7 := hide hb7; have hs7l := hb7.size; have HZN := hide (RowL.new w7 71 (nodC nod0 (.slice none 0 0) (.slice none 0 0))); have HR107 := hide (HR10c.out.on hb7); clear e3 e5 hb7) | (refine wpList_storeW rfl 71 (.tmp 12) (.tmp 34) rfl 13 nod_size w7.heap.size 71 rfl (nodC nod0 (.slice none 0 0) (.slice none 0 0)) (nodC N (.slice A1 n1 c1) (.slice C1 m1 d1)) rfl HZN.out rfl rfl (nodC_one _ _ _ _ _ _ _) ?_; intro w9 hr9 hg9 hs9; have hb9 := below_stored' hg9; have qk : w9.cell? ⟨w7.heap.size, 0, none⟩ = some (.int .i64 1) := (hr9.cell 0).trans (by rw [show (nodC N (.slice A1 n1 c1) (.slice C1 m1 d1))[0]? = some (.int .i64 N.k) from rfl, HKK.out]); have HR12 := hide hr9; have HR10 := hide (HR107.out.on hb9); have HB9 := hide (HB7.out.trans (hb9.mono hs7l)); have hs9l := HB9.out.size; clear hr9 hg9 hs9 hb9) | (refine wpList_loadW rfl 36 (.tmp 10) rfl 2 plc_agg plc_size g10 36 rfl (prC x) HR10.out rfl ?_) | (refine wpList_litW rfl 30 (.tmp 39) rfl (.agg (prC x).toArray) _ rfl (lit_plc x w9) ?_; refine wpList_plain rfl fun K2 hK2 => ?_; go_loud (refine wp_appF w9 W1.heap.size _ rfl (.tmp 38) (.tmp 40) 30 36 rfl Tryz.underlying30 _ 2 16 plc_info rfl (by omega) (by omega) A acc.length c _ (prC x) rfl (prC_one x) rfl (ownsRow_below HOX.out HB9.out) rfl (by omega) (by omega) ?_); intro A5 c5 w10 ho10 hg10; refine hK2 _ _ ?_; clear hK2 K2; have HO10 := hide ho10; have hba := below_new (below_self w9) (.cells (prC x).toArray 36); have hoa := ownsRow_below (ownsRow_below HOX.out HB9.out) hba; have HR12b := hide ((HR12.out.on hba).grown hg10 (row_apart hoa (HR12.out.on hba) (by decide))); have HB10 := hide (((HBXr.out.trans (HB9.out.mono (by omega))).trans (hba.mono (by omega))).grown hg10 (by have := hba.size; omega) (fun q hq => (own_block hoa q hq).1)); clear ho10 hg10 hba hoa) | (refine wpList_loadW rfl 71 (.tmp 12) rfl 13 nod_agg nod_size w7.heap.size 71 rfl (nodC N (.slice A1 n1 c1) (.slice C1 m1 d1)) HR12b.out rfl ?_))
          refine (ROpq_b HOPQ.out hath.1 hath.2 _).mono ?_
          rintro ez w11 ⟨rfl, hb11⟩
          have HO11 := hide (ownsRow_below HO10.out hb11)
          have HB11 := hide (HB10.out.trans (hb11.mono (by have := HB10.out.size; omega)))
          clear hb11
          cases op with
          | false =>
            go_wp2_with fail
            go_roundw
            case rel => exact ⟨j + 1, acc ++ [x], A5, c5, by omega, by go_num, by rw [HLEN.out], by rw [HLEN.out, flatR_snoc]; exact HO11.out, HB11.out, by rw [HLEN.out]; omega, by simpa using HE2.out⟩
            case measure => simp [intOf]; omega
          | true =>
            have hE : R = (1, acc ++ [x]) := by simpa using HE2.out.symm
            subst hE
            go_wp2_with fail
            rw [show acc.length + 1 = (acc ++ [x]).length from HLEN.out.symm]
            go_ret2
            exact ⟨A5, c5, rfl, own_capP (by rw [HLEN.out]; exact HO11.out), (pr_fresh (by rw [HLEN.out, flatR_snoc]; exact HO11.out) rfl).mono (fun _ _ => rfl) (fun b hb => ⟨by omega, hb.2⟩), HB1.out.trans (HB11.out.mono hs1)⟩
        · cases ba with
          | true =>
            have ha : acc ≠ [] := of_decide_eq_true HBA.out
            have hlp : 0 < acc.length := List.length_pos_iff.2 ha
            have hE : R = (1, acc) := by have := HE.out.symm; simpa [ha] using this
            subst hE
            go_wp2_with (first | (refine wpList_loadW rfl 29 (.tmp 3) rfl 6 stk_agg stk_size w.heap.size 29 rfl (stkC g (.slice AU nU cU) (.slice AL nL cL)) R0x.out rfl ?_) | (refine wpList_loadW rfl 36 (.tmp 10) rfl 2 plc_agg plc_size g10 36 rfl (prC x) HR10c.out rfl ?_) | (go_at_call 98; refine (RLower_e HNX.out wc (HL.out.under HBXr.out hB1) (by omega) hm HM2.out).mono ?_; rintro ez w7 ⟨A1, n1, c1, C1, m1, d1, rfl, e2, e3, e4, e5, hb7⟩; have HB7 := hide hb7; have hs7l := hb7.size; have HZN := hide (RowL.new w7 71 (nodC nod0 (.slice none 0 0) (.slice none 0 0))); have HR107 := hide (HR10c.out.on hb7); clear e3 e5 hb7) | (refine wpList_storeW rfl 71 (.tmp 12) (.tmp 34) rfl 13 nod_size w7.heap.size 71 rfl (nodC nod0 (.slice none 0 0) (.slice none 0 0)) (nodC N (.slice A1 n1 c1) (.slice C1 m1 d1)) rfl HZN.out rfl rfl (nodC_one _ _ _ _ _ _ _) ?_; intro w9 hr9 hg9 hs9; have hb9 := below_stored' hg9; have qk : w9.cell? ⟨w7.heap.size, 0, none⟩ = some (.int .i64 2) := (hr9.cell 0).trans (by rw [show (nodC N (.slice A1 n1 c1) (.slice C1 m1 d1))[0]? = some (.int .i64 N.k) from rfl, HKK.out]); have HR12 := hide hr9; have HR10 := hide (HR107.out.on hb9); have HB9 := hide (HB7.out.trans (hb9.mono hs7l)); have hs9l := HB9.out.size; clear hr9 hg9 hs9 hb9))
            go_ret2
            exact ⟨A, c, rfl, own_capP HOW.out, (pr_fresh (ownsRow_below HOX.out HB9.out) rfl).mono (fun _ _ => rfl) (fun b hb => ⟨by omega, hb.2⟩), HB1.out.trans ((HBXr.out.trans (HB9.out.mono (by omega))).mono hs1)⟩
          | false =>
            have ha : acc = [] := by have := HBA.out; simpa using this
            subst ha
            have hE : R = (2, [x]) := by simpa using HE.out.symm
            subst hE
            go_wp2_with (first | (refine wpList_loadW rfl 29 (.tmp 3) rfl 6 stk_agg stk_size w.heap.size 29 rfl (stkC g (.slice AU nU cU) (.slice AL nL cL)) R0x.out rfl ?_) | (refine wpList_loadW rfl 36 (.tmp 10) rfl 2 plc_agg plc_size g10 36 rfl (prC x) HR10c.out rfl ?_) | (go_at_call 98; refine (RLower_e HNX.out wc (HL.out.under HBXr.out hB1) (by omega) hm HM2.out).mono ?_; rintro ez w7 ⟨A1, n1, c1, C1, m1, d1, rfl, e2, e3, e4, e5, hb7⟩; have HB7 := hide hb7; have hs7l := hb7.size; have HZN := hide (RowL.new w7 71 (nodC nod0 (.slice none 0 0) (.slice none 0 0))); have HR107 := hide (HR10c.out.on hb7); clear e3 e5 hb7) | (refine wpList_storeW rfl 71 (.tmp 12) (.tmp 34) rfl 13 nod_size w7.heap.size 71 rfl (nodC nod0 (.slice none 0 0) (.slice none 0 0)) (nodC N (.slice A1 n1 c1) (.slice C1 m1 d1)) rfl HZN.out rfl rfl (nodC_one _ _ _ _ _ _ _) ?_; intro w9 hr9 hg9 hs9; have hb9 := below_stored' hg9; have qk : w9.cell? ⟨w7.heap.size, 0, none⟩ = some (.int .i64 2) := (hr9.cell 0).trans (by rw [show (nodC N (.slice A1 n1 c1) (.slice C1 m1 d1))[0]? = some (.int .i64 N.k) from rfl, HKK.out]); have HR12 := hide hr9; have HR10 := hide (HR107.out.on hb9); have HB9 := hide (HB7.out.trans (hb9.mono hs7l)); have hs9l := HB9.out.size; clear hr9 hg9 hs9 hb9))
            have HQK := hide (fun W (hb : Below w9.heap.size w9 W) => show W.cell? ⟨w7.heap.size, 0, none⟩ = some (.int .i64 2) from ((HR12.out.on hb).cell 0).trans (by rw [show (nodC N (.slice A1 n1 c1) (.slice C1 m1 d1))[0]? = some (.int .i64 N.k) from rfl, HKK.out]))
            clear qk
            refine wp_region_planN (fun w' => Below w9.heap.size w9 w') [(0, true), (1, true), (2, true), (4, true), (3, false), (5, true)] (by kernel_rfl) (by kernel_rfl) (by kernel_rfl) (by kernel_rfl) rfl (fun _ _ _ _ _ h => h) (below_drew (below_self w9)) (fun hHeld => ?_)
            simp only [planOps, List.filterMap_cons, List.filterMap_nil, List.getElem?_toArray, List.getElem?_cons_succ, List.getElem?_cons_zero, Option.map_some]
            refine wpPlan_take (v := ?_) (by kernel_rfl) (fun wS hSw => ?_) ?_
            rotate_left
            · (try dsimp only at hSw); go_simp; (try with_reducible rfl)
            (try simp only [Act.put, List.setIfInBounds_toArray, List.set_cons_zero, List.set_cons_succ])
            refine wpPlan_take (v := ?_) (by kernel_rfl) (fun wS hSw => ?_) ?_
            rotate_left
            · have qx := HQK.out wS hSw; go_simp; (try with_reducible rfl)
            (try simp only [Act.put, List.setIfInBounds_toArray, List.set_cons_zero, List.set_cons_succ])
            refine wpPlan_take (v := ?_) (by kernel_rfl) (fun wS hSw => ?_) ?_
            rotate_left
            · refine execOp_load (x := .tmp 10) (k := 2) (g := g10) (off := 0) (cs := prC x) ?_ plc_agg plc_size ?_ (fun j v hv => by rw [Nat.zero_add]; exact ((HR10.out.on hSw).cell j).trans hv) rfl <;> rfl
            (try simp only [Act.put, List.setIfInBounds_toArray, List.set_cons_zero, List.set_cons_succ])
            refine wpPlan_take (v := ?_) (by kernel_rfl) (fun wS hSw => ?_) ?_
            rotate_left
            · (try dsimp only at hSw); go_simp; (try with_reducible rfl)
            (try simp only [Act.put, List.setIfInBounds_toArray, List.set_cons_zero, List.set_cons_succ])
            refine wpPlan_call (by kernel_rfl) (fun K hK => ?_)
            have hOld := hide hHeld
            clear hHeld
            have hlit := lit_plc x
            unfold Oper.wp execOp
            go_simp
            refine hK.out _ _ (hOld.out.alloc hOld.out.size _) (fun hHeld => ?_)
            clear hK K
            (try simp only [Act.put, List.setIfInBounds_toArray, List.set_cons_zero, List.set_cons_succ])
            refine wpPlan_take (v := ?_) (by kernel_rfl) (fun wS hSw => ?_) ?_
            rotate_left
            · (try dsimp only at hSw); go_simp; (try with_reducible rfl)
            (try simp only [Act.put, List.setIfInBounds_toArray, List.set_cons_zero, List.set_cons_succ])
            refine wpPlan_end ?_
            go_wp2_with fail
            go_ret2
            exact ⟨_, _, rfl, Nat.le_refl _, pr_lit1 _ _ _ (show w.heap.size ≤ w9.heap.size from by omega), HB1.out.trans (((HBXr.out.trans (HB9.out.mono (by omega))).trans (hHeld.mono (by omega))).mono hs1)⟩
        · cases ba with
          | true =>
            have ha : acc ≠ [] := of_decide_eq_true HBA.out
            have hlp : 0 < acc.length := List.length_pos_iff.2 ha
            have hE : R = (1, acc) := by have := HE.out.symm; simpa [ha] using this
            subst hE
            go_wp2_with (first | (refine wpList_loadW rfl 29 (.tmp 3) rfl 6 stk_agg stk_size w.heap.size 29 rfl (stkC g (.slice AU nU cU) (.slice AL nL cL)) R0x.out rfl ?_) | (refine wpList_loadW rfl 36 (.tmp 10) rfl 2 plc_agg plc_size g10 36 rfl (prC x) HR10c.out rfl ?_) | (go_at_call 98; refine (RLower_e HNX.out wc (HL.out.under HBXr.out hB1) (by omega) hm HM2.out).mono ?_; rintro ez w7 ⟨A1, n1, c1, C1, m1, d1, rfl, e2, e3, e4, e5, hb7⟩; have HB7 := hide hb7; have hs7l := hb7.size; have HZN := hide (RowL.new w7 71 (nodC nod0 (.slice none 0 0) (.slice none 0 0))); have HR107 := hide (HR10c.out.on hb7); clear e3 e5 hb7) | (refine wpList_storeW rfl 71 (.tmp 12) (.tmp 34) rfl 13 nod_size w7.heap.size 71 rfl (nodC nod0 (.slice none 0 0) (.slice none 0 0)) (nodC N (.slice A1 n1 c1) (.slice C1 m1 d1)) rfl HZN.out rfl rfl (nodC_one _ _ _ _ _ _ _) ?_; intro w9 hr9 hg9 hs9; have hb9 := below_stored' hg9; have qk : w9.cell? ⟨w7.heap.size, 0, none⟩ = some (.int .i64 3) := (hr9.cell 0).trans (by rw [show (nodC N (.slice A1 n1 c1) (.slice C1 m1 d1))[0]? = some (.int .i64 N.k) from rfl, HKK.out]); have HR12 := hide hr9; have HR10 := hide (HR107.out.on hb9); have HB9 := hide (HB7.out.trans (hb9.mono hs7l)); have hs9l := HB9.out.size; clear hr9 hg9 hs9 hb9))
            go_ret2
            exact ⟨A, c, rfl, own_capP HOW.out, (pr_fresh (ownsRow_below HOX.out HB9.out) rfl).mono (fun _ _ => rfl) (fun b hb => ⟨by omega, hb.2⟩), HB1.out.trans ((HBXr.out.trans (HB9.out.mono (by omega))).mono hs1)⟩
          | false =>
            have ha : acc = [] := by have := HBA.out; simpa using this
            subst ha
            have hE : R = (3, [x]) := by simpa using HE.out.symm
            subst hE
            go_wp2_with (first | (refine wpList_loadW rfl 29 (.tmp 3) rfl 6 stk_agg stk_size w.heap.size 29 rfl (stkC g (.slice AU nU cU) (.slice AL nL cL)) R0x.out rfl ?_) | (refine wpList_loadW rfl 36 (.tmp 10) rfl 2 plc_agg plc_size g10 36 rfl (prC x) HR10c.out rfl ?_) | (go_at_call 98; refine (RLower_e HNX.out wc (HL.out.under HBXr.out hB1) (by omega) hm HM2.out).mono ?_; rintro ez w7 ⟨A1, n1, c1, C1, m1, d1, rfl, e2, e3, e4, e5, hb7⟩; have HB7 := hide hb7; have hs7l := hb7.size; have HZN := hide (RowL.new w7 71 (nodC nod0 (.slice none 0 0) (.slice none 0 0))); have HR107 := hide (HR10c.out.on hb7); clear e3 e5 hb7) | (refine wpList_storeW rfl 71 (.tmp 12) (.tmp 34) rfl 13 nod_size w7.heap.size 71 rfl (nodC nod0 (.slice none 0 0) (.slice none 0 0)) (nodC N (.slice A1 n1 c1) (.slice C1 m1 d1)) rfl HZN.out rfl rfl (nodC_one _ _ _ _ _ _ _) ?_; intro w9 hr9 hg9 hs9; have hb9 := below_stored' hg9; have qk : w9.cell? ⟨w7.heap.size, 0, none⟩ = some (.int .i64 3) := (hr9.cell 0).trans (by rw [show (nodC N (.slice A1 n1 c1) (.slice C1 m1 d1))[0]? = some (.int .i64 N.k) from rfl, HKK.out]); have HR12 := hide hr9; have HR10 := hide (HR107.out.on hb9); have HB9 := hide (HB7.out.trans (hb9.mono hs7l)); have hs9l := HB9.out.size; clear hr9 hg9 hs9 hb9))
            have HQK := hide (fun W (hb : Below w9.heap.size w9 W) => show W.cell? ⟨w7.heap.size, 0, none⟩ = some (.int .i64 3) from ((HR12.out.on hb).cell 0).trans (by rw [show (nodC N (.slice A1 n1 c1) (.slice C1 m1 d1))[0]? = some (.int .i64 N.k) from rfl, HKK.out]))
            clear qk
            refine wp_region_planN (fun w' => Below w9.heap.size w9 w') [(0, true), (1, true), (2, true), (4, true), (3, false), (5, true)] (by kernel_rfl) (by kernel_rfl) (by kernel_rfl) (by kernel_rfl) rfl (fun _ _ _ _ _ h => h) (below_drew (below_self w9)) (fun hHeld => ?_)
            simp only [planOps, List.filterMap_cons, List.filterMap_nil, List.getElem?_toArray, List.getElem?_cons_succ, List.getElem?_cons_zero, Option.map_some]
            refine wpPlan_take (v := ?_) (by kernel_rfl) (fun wS hSw => ?_) ?_
            rotate_left
            · (try dsimp only at hSw); go_simp; (try with_reducible rfl)
            (try simp only [Act.put, List.setIfInBounds_toArray, List.set_cons_zero, List.set_cons_succ])
            refine wpPlan_take (v := ?_) (by kernel_rfl) (fun wS hSw => ?_) ?_
            rotate_left
            · have qx := HQK.out wS hSw; go_simp; (try with_reducible rfl)
            (try simp only [Act.put, List.setIfInBounds_toArray, List.set_cons_zero, List.set_cons_succ])
            refine wpPlan_take (v := ?_) (by kernel_rfl) (fun wS hSw => ?_) ?_
            rotate_left
            · refine execOp_load (x := .tmp 10) (k := 2) (g := g10) (off := 0) (cs := prC x) ?_ plc_agg plc_size ?_ (fun j v hv => by rw [Nat.zero_add]; exact ((HR10.out.on hSw).cell j).trans hv) rfl <;> rfl
            (try simp only [Act.put, List.setIfInBounds_toArray, List.set_cons_zero, List.set_cons_succ])
            refine wpPlan_take (v := ?_) (by kernel_rfl) (fun wS hSw => ?_) ?_
            rotate_left
            · (try dsimp only at hSw); go_simp; (try with_reducible rfl)
            (try simp only [Act.put, List.setIfInBounds_toArray, List.set_cons_zero, List.set_cons_succ])
            refine wpPlan_call (by kernel_rfl) (fun K hK => ?_)
            have hOld := hide hHeld
            clear hHeld
            have hlit := lit_plc x
            unfold Oper.wp execOp
            go_simp
            refine hK.out _ _ (hOld.out.alloc hOld.out.size _) (fun hHeld => ?_)
            clear hK K
            (try simp only [Act.put, List.setIfInBounds_toArray, List.set_cons_zero, List.set_cons_succ])
            refine wpPlan_take (v := ?_) (by kernel_rfl) (fun wS hSw => ?_) ?_
            rotate_left
            · (try dsimp only at hSw); go_simp; (try with_reducible rfl)
            (try simp only [Act.put, List.setIfInBounds_toArray, List.set_cons_zero, List.set_cons_succ])
            refine wpPlan_end ?_
            go_wp2_with fail
            go_ret2
            exact ⟨_, _, rfl, Nat.le_refl _, pr_lit1 _ _ _ (show w.heap.size ≤ w9.heap.size from by omega), HB1.out.trans (((HBXr.out.trans (HB9.out.mono (by omega))).trans (hHeld.mono (by omega))).mono hs1)⟩
        · cases ba with
          | true =>
            have ha : acc ≠ [] := of_decide_eq_true HBA.out
            have hlp : 0 < acc.length := List.length_pos_iff.2 ha
            have hE : R = (1, acc) := by have := HE.out.symm; simpa [ha] using this
            subst hE
            go_wp2_with (first | (refine wpList_loadW rfl 29 (.tmp 3) rfl 6 stk_agg stk_size w.heap.size 29 rfl (stkC g (.slice AU nU cU) (.slice AL nL cL)) R0x.out rfl ?_) | (refine wpList_loadW rfl 36 (.tmp 10) rfl 2 plc_agg plc_size g10 36 rfl (prC x) HR10c.out rfl ?_) | (go_at_call 98; refine (RLower_e HNX.out wc (HL.out.under HBXr.out hB1) (by omega) hm HM2.out).mono ?_; rintro ez w7 ⟨A1, n1, c1, C1, m1, d1, rfl, e2, e3, e4, e5, hb7⟩; have HB7 := hide hb7; have hs7l := hb7.size; have HZN := hide (RowL.new w7 71 (nodC nod0 (.slice none 0 0) (.slice none 0 0))); have HR107 := hide (HR10c.out.on hb7); clear e3 e5 hb7) | (refine wpList_storeW rfl 71 (.tmp 12) (.tmp 34) rfl 13 nod_size w7.heap.size 71 rfl (nodC nod0 (.slice none 0 0) (.slice none 0 0)) (nodC N (.slice A1 n1 c1) (.slice C1 m1 d1)) rfl HZN.out rfl rfl (nodC_one _ _ _ _ _ _ _) ?_; intro w9 hr9 hg9 hs9; have hb9 := below_stored' hg9; have qk : w9.cell? ⟨w7.heap.size, 0, none⟩ = some (.int .i64 4) := (hr9.cell 0).trans (by rw [show (nodC N (.slice A1 n1 c1) (.slice C1 m1 d1))[0]? = some (.int .i64 N.k) from rfl, HKK.out]); have HR12 := hide hr9; have HR10 := hide (HR107.out.on hb9); have HB9 := hide (HB7.out.trans (hb9.mono hs7l)); have hs9l := HB9.out.size; clear hr9 hg9 hs9 hb9))
            go_ret2
            exact ⟨A, c, rfl, own_capP HOW.out, (pr_fresh (ownsRow_below HOX.out HB9.out) rfl).mono (fun _ _ => rfl) (fun b hb => ⟨by omega, hb.2⟩), HB1.out.trans ((HBXr.out.trans (HB9.out.mono (by omega))).mono hs1)⟩
          | false =>
            have ha : acc = [] := by have := HBA.out; simpa using this
            subst ha
            have hE : R = (0, []) := by simpa using HE.out.symm
            subst hE
            go_wp2_with (first | (refine wpList_loadW rfl 29 (.tmp 3) rfl 6 stk_agg stk_size w.heap.size 29 rfl (stkC g (.slice AU nU cU) (.slice AL nL cL)) R0x.out rfl ?_) | (refine wpList_loadW rfl 36 (.tmp 10) rfl 2 plc_agg plc_size g10 36 rfl (prC x) HR10c.out rfl ?_) | (go_at_call 98; refine (RLower_e HNX.out wc (HL.out.under HBXr.out hB1) (by omega) hm HM2.out).mono ?_; rintro ez w7 ⟨A1, n1, c1, C1, m1, d1, rfl, e2, e3, e4, e5, hb7⟩; have HB7 := hide hb7; have hs7l := hb7.size; have HZN := hide (RowL.new w7 71 (nodC nod0 (.slice none 0 0) (.slice none 0 0))); have HR107 := hide (HR10c.out.on hb7); clear e3 e5 hb7) | (refine wpList_storeW rfl 71 (.tmp 12) (.tmp 34) rfl 13 nod_size w7.heap.size 71 rfl (nodC nod0 (.slice none 0 0) (.slice none 0 0)) (nodC N (.slice A1 n1 c1) (.slice C1 m1 d1)) rfl HZN.out rfl rfl (nodC_one _ _ _ _ _ _ _) ?_; intro w9 hr9 hg9 hs9; have hb9 := below_stored' hg9; have qk : w9.cell? ⟨w7.heap.size, 0, none⟩ = some (.int .i64 4) := (hr9.cell 0).trans (by rw [show (nodC N (.slice A1 n1 c1) (.slice C1 m1 d1))[0]? = some (.int .i64 N.k) from rfl, HKK.out]); have HR12 := hide hr9; have HR10 := hide (HR107.out.on hb9); have HB9 := hide (HB7.out.trans (hb9.mono hs7l)); have hs9l := HB9.out.size; clear hr9 hg9 hs9 hb9))
            go_ret2
            exact ⟨none, 0, rfl, Nat.le_refl _, RdE.none_ _ _ _ _, HB1.out.trans ((HBXr.out.trans (HB9.out.mono (by omega))).mono hs1)⟩
    · obtain rfl : j = n := by omega
      have e := HFI.out
      rw [List.drop_of_length_le (by have := HPL.out; omega), findL_end] at e
      by_cases ha : acc = []
      · subst ha
        rw [show kindA [] = 0 from rfl] at e
        subst e
        go_wp2_with fail
        go_ret2
        exact ⟨none, 0, rfl, Nat.le_refl _, RdE.none_ _ _ _ _, HBw.out⟩
      · rw [show kindA acc = 1 from by unfold kindA; rw [if_neg ha]] at e
        subst e
        have hlp : 0 < acc.length := List.length_pos_iff.2 ha
        clear ha
        go_wp2_with fail
        go_ret2
        exact ⟨A, c, rfl, own_capP HOW.out, (pr_fresh HOW.out rfl).mono (fun _ _ => rfl) (fun b hb => ⟨by omega, hb.2⟩), HBw.out⟩
end Go.Proofs.YtnehkgbdppbhiaaGreat

/- Slices of places; Look, and the reference's (layer 16). -/
namespace Go.Proofs.YtnehkgbdppbhiaaGreat
open Go.RowKit Go.Shelf Plain

set_option maxRecDepth 100000 in
set_option maxHeartbeats 1600000 in
theorem neq_plc (a b : Int) (W : World) : (binOp .neq 36 (.agg #[.int .i64 a, .int .i64 b]) (.agg #[.int .i64 a, .int .i64 b])).run Tryz.prog W = .ok (.bool false) W := by
  simp [go_sem]
set_option maxHeartbeats 1600000 in
theorem EqPlc_same {A B : Option Addr} {n m c d : Nat} {L : List (Int × Int)} {D D' : Nat → Prop} (w : World) (ha : RdE prEn w D A n L) (hb : RdE prEn w D' B m L) (hn : n ≤ 140737488355328) :
    Calls Tryz.prog 17 #[.slice A n c, .slice B m d] w (BoolB w true) := by
  obtain rfl : n = m := by rw [← ha.1, ← hb.1]
  have HA := hide ha
  have HB := hide hb
  clear ha hb
  have hd : ((n : Int) != (n : Int)) = false := by simp
  go_enter Tryz.func17, Tryz.ntmps17
  go_wp2
  go_loopw [13] (fun i wr => ∃ j q : Nat, j ≤ n ∧ i = .int .i64 j ∧ wr = w.drewN q) (fun i _ => n - (intOf i).toNat)
  case atStart => exact ⟨0, 0, by omega, rfl, rfl⟩
  case round =>
    obtain ⟨j, q, hj, rfl, rfl⟩ := hrel
    by_cases hlt : j < n
    · have hl1 : j < L.length := by rw [HA.out.1]; exact hlt
      obtain ⟨b1, o1, rfl, hc1⟩ := HA.out.cellsR (by omega)
      obtain ⟨b2, o2, rfl, hc2⟩ := HB.out.cellsR (by omega)
      obtain ⟨cs1, hcs1, hc1⟩ := hc1 j _ (List.getElem?_eq_getElem hl1)
      obtain ⟨cs2, hcs2, hc2⟩ := hc2 j _ (List.getElem?_eq_getElem hl1)
      obtain rfl : cs1 = prC L[j] := hcs1
      obtain rfl : cs2 = prC L[j] := hcs2
      generalize L[j] = y at hc1 hc2
      obtain ⟨ya, yb⟩ := y
      have hL1 : ∀ q, (Instr.loadAt 36 (.pointer (some ⟨b1, o1 + j * 2, none⟩))).run Tryz.prog (w.drewN q) = .ok (.agg #[.int .i64 ya, .int .i64 yb]) (w.drewN q) := fun q => run_loadAt_cells (w := w.drewN q) plc_agg plc_size hc1 rfl
      have hL2 : ∀ q, (Instr.loadAt 36 (.pointer (some ⟨b2, o2 + j * 2, none⟩))).run Tryz.prog (w.drewN q) = .ok (.agg #[.int .i64 ya, .int .i64 yb]) (w.drewN q) := fun q => run_loadAt_cells (w := w.drewN q) plc_agg plc_size hc2 rfl
      have hne := fun W => neq_plc ya yb W
      clear hc1 hc2 hl1
      go_wp2
      refine wp_region_quiet_lit (by kernel_rfl) (by kernel_rfl) ?_
      iterate 3 (quiet_step (fail))
      refine Go.BigFrame.wpQuiet_want rfl (fun K hK => ?_)
      refine quietL 36 (.tmp 18) rfl _ _ rfl (by rintro _ ⟨n', rfl⟩; rw [World.drewN_drewN]; exact hL1 _) (hK _ ?_)
      clear hK K
      iterate 3 (quiet_step (fail))
      refine Go.BigFrame.wpQuiet_want rfl (fun K hK => ?_)
      refine quietL 36 (.tmp 22) rfl _ _ rfl (by rintro _ ⟨n', rfl⟩; rw [World.drewN_drewN]; exact hL2 _) (hK _ ?_)
      clear hK K
      iterate 1 (quiet_step (fail))
      refine wpQuiet_nil ?_
      rintro _ ⟨nq, rfl⟩
      go_wp2
      go_roundw
      case rel => exact ⟨j + 1, _, by omega, by go_num, rfl⟩
      case measure => simp [intOf]; omega
    · obtain rfl : j = n := by omega
      go_wp2
      go_ret
      exact BoolB.of (below_drewN (below_self w) _)
/-- Places that lie in a part of memory alone. -/
theorem pr_strong {w : World} {D D' : Nat → Prop} {A : Option Addr} {n : Nat} {l : List (Int × Int)} (h : RdE prEn w D A n l) (hA : 0 < n → ∀ b o, A = some ⟨b, o, none⟩ → D' b) : RdE prEn w D' A n l := by
  refine ⟨h.1, fun hn => ?_⟩
  obtain ⟨b, o, e, hb, hc⟩ := h.2 hn
  exact ⟨b, o, e, hA hn b o e, fun i x hx => by
    obtain ⟨cs, hcs, hcell⟩ := hc i x hx
    exact ⟨cs, hcs, hcell⟩⟩
/-- It returns places, in new memory. -/
def PlcsF (w : World) (l : List (Int × Int)) (e : Ending) (w' : World) : Prop := ∃ A c, e = .returned (.slice A l.length c) ∧ RdE prEn w' (fun b => w.heap.size ≤ b ∧ b < w'.heap.size) A l.length l ∧ Below w.heap.size w w'
/-- It returns places. -/
def PlcsRet (w : World) (l : List (Int × Int)) (e : Ending) (w' : World) : Prop := ∃ A c, e = .returned (.slice A l.length c) ∧ RdE prEn w' (Under w'.heap.size) A l.length l ∧ Below w.heap.size w w'
theorem PlcsF.weak {w w' : World} {l : List (Int × Int)} {e : Ending} (h : PlcsF w l e w') : PlcsRet w l e w' := by
  obtain ⟨A, c, rfl, h, hb⟩ := h
  exact ⟨A, c, rfl, h.mono (fun _ _ => rfl) (fun b hb => hb.2), hb⟩
set_option maxRecDepth 100000 in
set_option maxHeartbeats 1600000 in
theorem PClone_f {A : Option Addr} {n c : Nat} {l : List (Int × Int)} (w : World) (h : RdE prEn w (Under w.heap.size) A n l) (hn : n ≤ 100000) : Calls Tryz.prog 125 #[.slice A n c] w (PlcsF w l) := by
  obtain rfl : n = l.length := h.1.symm
  cases A with
  | none =>
    have h0 : l.length = 0 := by
      rcases Nat.eq_zero_or_pos l.length with h0 | h0
      · exact h0
      · obtain ⟨_, _, e, _⟩ := h.2 h0; cases e
    have hnil := fun W => Lib.run_eql_slice_nil (P := Tryz.prog) W 30 36 none l.length c 0 0 Tryz.underlying30
    have H := hide h
    clear h h0
    go_enter Tryz.func125, Tryz.ntmps125
    go_wp2
    go_ret
    have h0 : l = [] := by
      rcases Nat.eq_zero_or_pos l.length with h0 | h0
      · exact List.eq_nil_of_length_eq_zero h0
      · obtain ⟨_, _, e, _⟩ := H.out.2 h0; cases e
    subst h0
    exact ⟨none, 0, rfl, RdE.none_ _ _ _ _, below_self _⟩
  | some a =>
    have hnil := fun W => Lib.run_eql_slice_nil (P := Tryz.prog) W 30 36 (some a) l.length c 0 0 Tryz.underlying30
    have hba := below_new (below_self w) (.cells #[] 36)
    have HS := hide (h.mono (Kept.of_below hba (fun _ hb => hb)) (fun _ hb => hb) : RdE prEn (w.alloc (.cells #[] 36)) (Under w.heap.size) (some a) l.length l)
    have HOE := hide (OwE.empty prEn w 36)
    have HBUT := hide (fun b (hb : Under w.heap.size b) => (show But (w.alloc (.cells #[] 36)) (some ⟨w.heap.size, 0, none⟩) b from ⟨⟨by unfold Under at hb; simp; omega, fun _ _ _ _ => rfl⟩, fun a ha e => by cases ha; unfold Under at hb; simp at e; omega⟩))
    have HBA := hide hba
    clear h hba
    go_enter Tryz.func125, Tryz.ntmps125
    go_wp2_with (at_builtin; refine wpList_append_OwE _ rfl (.tmp 5) (.tmp 6) 30 rfl w.heap.size 36 zpr 16 Tryz.underlying30 plc_info rfl (by decide) (some ⟨w.heap.size, 0, none⟩) 0 0 [] rfl HOE.out (Under w.heap.size) (some a) l.length c l rfl HS.out HBUT.out l.length (by omega) (by omega) (by omega) (by simp) ?_; intro A5 c5 w5 ho5 hb5; have HO5 := hide ho5; have HB5 := hide hb5; clear ho5 hb5)
    go_ret
    exact ⟨A5, c5, rfl, pr_strong (HO5.out.rd rfl).plain (fun h0 b o e => by
      obtain ⟨css, how, -, -⟩ := HO5.out
      have hbb := (HO5.out.rd rfl).plain.2 h0
      obtain ⟨b', o', e', hlt, -⟩ := hbb
      rcases how.2 with ⟨_, h0'⟩ | ⟨g, cap, cur, he, hb, hg, _⟩
      · omega
      · rw [e] at he; rw [e] at e'; simp only [Value.slice.injEq, Option.some.injEq, Addr.mk.injEq] at he e'; obtain ⟨rfl, -⟩ := e'; obtain ⟨⟨rfl, -⟩, -⟩ := he; exact ⟨by omega, hlt⟩), HBA.out.trans HB5.out⟩
/-- Where names lead. -/
def lookL (ls : List (List NodV)) : List (Int × Int) → List (List UInt8) → Option (List (Int × Int))
  | l, [] => some l
  | l, x :: r => if (findL ls x l []).1 = 1 then lookL ls (findL ls x l []).2 r else none
/-- It returns places of a part of memory, if there are any. -/
def LookF (lo : Nat) (w : World) (o : Option (List (Int × Int))) (e : Ending) (w' : World) : Prop := ∃ A n c, e = .returned (.tuple #[.slice A n c, .bool o.isSome]) ∧ RdE prEn w' (fun b => lo ≤ b ∧ b < w'.heap.size) A n (o.getD []) ∧ Below w.heap.size w w'
/-- It returns places, if there are any. -/
def LookRet (w : World) (o : Option (List (Int × Int))) (e : Ending) (w' : World) : Prop := ∃ A n c, e = .returned (.tuple #[.slice A n c, .bool o.isSome]) ∧ RdE prEn w' (Under w'.heap.size) A n (o.getD []) ∧ Below w.heap.size w w'
theorem LookF.weak {lo : Nat} {w w' : World} {o : Option (List (Int × Int))} {e : Ending} (h : LookF lo w o e w') : LookRet w o e w' := by
  obtain ⟨A, n, c, rfl, h, hb⟩ := h
  exact ⟨A, n, c, rfl, h.mono (fun _ _ => rfl) (fun b hb => hb.2), hb⟩
theorem Find_e {g : GeoQ} {AU AL AP : Option Addr} {nU cU nL cL n cP : Nat} {ls : List (List NodV)} {l : List (Int × Int)} {nm : List UInt8} {B : Nat} {R : Int × List (Int × Int)} (hR : findL ls nm l [] = R) (w : World) (h : RdE layEn w (Under B) AL nL ls) (hp : RdE prEn w (Under w.heap.size) AP n l) (hB : B ≤ w.heap.size) (hF : FewL ls) (hn : n ≤ 1000) :
    Calls Tryz.prog 25 #[.agg (stkC g (.slice AU nU cU) (.slice AL nL cL)).toArray, .slice AP n cP, .string ⟨nm.toArray⟩] w (FindRet w R) := by rw [← hR]; exact Find_any w h hp hB hF hn
theorem RFind_e {g : GeoQ} {AU AL AP : Option Addr} {nU cU nL cL n cP : Nat} {ls : List (List NodV)} {l : List (Int × Int)} {nm : List UInt8} {B : Nat} {R : Int × List (Int × Int)} (hR : findL ls nm l [] = R) (w : World) (h : RdE layEn w (Under B) AL nL ls) (hp : RdE prEn w (Under w.heap.size) AP n l) (hB : B ≤ w.heap.size) (hF : FewL ls) (hn : n ≤ 1000) :
    Calls Tryz.prog 53 #[.agg (stkC g (.slice AU nU cU) (.slice AL nL cL)).toArray, .slice AP n cP, .string ⟨nm.toArray⟩] w (FindRet w R) := by rw [← hR]; exact RFind_any w h hp hB hF hn
set_option maxRecDepth 100000 in
set_option maxHeartbeats 8000000 in
theorem Look_f {g : GeoQ} {AU AL AP AN : Option Addr} {nU cU nL cL n cP m cN : Nat} {ls : List (List NodV)} {l : List (Int × Int)} {names : List (List UInt8)} {B : Nat} (w : World) (h : RdE layEn w (Under B) AL nL ls) (hp : RdE prEn w (Under w.heap.size) AP n l) (hs : Rd st w w.heap.size AN m names) (hB : B ≤ w.heap.size) (hF : FewL ls) (hn : n ≤ 1000) (hm1 : m ≤ 1000) :
    Calls Tryz.prog 103 #[.agg (stkC g (.slice AU nU cU) (.slice AL nL cL)).toArray, .slice AP n cP, .slice AN m cN] w (LookF w.heap.size w (lookL ls l names)) := by
  have r0 := RowL.new w 29 (stkC g (.slice AU nU cU) (.slice AL nL cL))
  have hb1 := below_new (below_self w) (.cells (stkC g (.slice AU nU cU) (.slice AL nL cL)).toArray 29)
  obtain ⟨W1, hW1⟩ : ∃ W1, w.alloc (.cells (stkC g (.slice AU nU cU) (.slice AL nL cL)).toArray 29) = W1 := ⟨_, rfl⟩
  rw [hW1] at r0 hb1
  have hW1' : w.alloc (.cells #[.int .i64 g.a, .int .i64 g.b, .int .i64 g.c, .int .i64 g.d, .slice AU nU cU, .slice AL nL cL] 29) = W1 := hW1
  have R0 := hide r0
  have HB1 := hide hb1
  have hs1 := hb1.size
  have HL := hide (h.under hb1 hB)
  have HP := hide (hp.on hb1)
  have HPL := hide hp.1
  have HS := hide (hs.on hb1)
  have HSL := hide hs.len
  have HF := hide hF
  obtain ⟨R0L, hR⟩ : ∃ R0L, lookL ls l names = R0L := ⟨_, rfl⟩
  rw [hR]
  have HR := hide hR
  have hB1 : B ≤ W1.heap.size := by omega
  unfold stkC
  clear r0 hb1 hW1 h hp hs hF hR
  go_enter Tryz.func103, Tryz.ntmps103
  go_wp2_with fail
  clear hW1'
  refine (PClone_f W1 HP.out (by omega)).mono ?_
  rintro ez w2 ⟨A2, c2, rfl, hr2, hb2⟩
  have HR2 := hide (hr2.mono (fun _ _ => rfl) (fun b hb => ⟨Nat.le_trans hs1 hb.1, hb.2⟩) : RdE prEn w2 (fun b => w.heap.size ≤ b ∧ b < w2.heap.size) A2 l.length l)
  have HB2 := hide hb2
  have HLE := hide (show l.length ≤ n from by have := HPL.out; omega)
  clear hr2 hb2
  go_wp2_with fail
  go_loopw [8, 17] (fun v8 v17 wr => ∃ (j : Nat) (cur : List (Int × Int)) (A : Option Addr) (n8 c : Nat), j ≤ m ∧ v17 = .int .i64 j ∧ v8 = .slice A n8 c ∧ n8 ≤ n ∧ cur.length ≤ n ∧ RdE prEn wr (fun b => w.heap.size ≤ b ∧ b < wr.heap.size) A n8 cur ∧ Below W1.heap.size W1 wr ∧ lookL ls cur (names.drop j) = R0L) (fun _ v17 _ => m - (intOf v17).toNat)
  case atStart => exact ⟨0, l, A2, _, c2, by omega, rfl, rfl, HLE.out, HLE.out, HR2.out, HB2.out, by rw [List.drop_zero]; exact HR.out⟩
  case round =>
    obtain ⟨j, cur, A, n8, c, hj, rfl, rfl, hn8, hcl, hcur, hbr, hlk⟩ := hrel
    have HCF := hide hcur
    have HCUR := hide (hcur.mono (fun _ _ => rfl) (fun b hb => hb.2) : RdE prEn wr (Under wr.heap.size) A n8 cur)
    have HBR := hide hbr
    have HLK := hide hlk
    have hbsz := hbr.size
    have R0r := hide (R0.out.on hbr)
    have HLr := hide (fun W (hb : Below wr.heap.size wr W) => HL.out.under (hbr.trans (hb.mono hbsz)) hB1)
    clear hcur hbr hlk
    by_cases hlt : j < m
    · obtain ⟨x, hx⟩ : ∃ x, names[j]? = some x := ⟨_, List.getElem?_eq_getElem (by have := HSL.out; omega)⟩
      obtain ⟨bS, oS, rfl, hbS, hcS⟩ := HS.out.2 (by omega)
      have hqS := hcS j x hx
      have HQS := hide (fun W (hb : Below wr.heap.size wr W) => show W.cell? ⟨bS, oS + j, none⟩ = some (.string ⟨x.toArray⟩) from ((HBR.out.trans (hb.mono hbsz)).cell (p := ⟨bS, oS + j, none⟩) hbS).trans hqS)
      have HDR := hide (show names.drop j = x :: names.drop (j + 1) from by
        have hjl := (List.getElem?_eq_some_iff.1 hx).1
        rw [List.drop_eq_getElem_cons hjl, (List.getElem?_eq_some_iff.1 hx).2])
      obtain ⟨R, hRR⟩ : ∃ R, findL ls x cur [] = R := ⟨_, rfl⟩
      have hRl : R.2.length ≤ n := by have := findL_len ls x cur []; rw [hRR] at this; simp at this; omega
      have HRR := hide hRR
      have e := HLK.out
      rw [HDR.out] at e
      unfold lookL at e
      rw [hRR] at e
      obtain ⟨bk, hbk⟩ : ∃ bk, (R.1 != 1) = bk := ⟨_, rfl⟩
      have HE := hide (show (if bk = true then none else lookL ls R.2 (names.drop (j + 1))) = R0L from by
        rw [← e, ← hbk]
        by_cases hk : R.1 = 1 <;> simp [hk])
      have hjm : (j : Int) < (m : Int) := by omega
      clear hx hcS hqS hRR e
      cases bk
      · have q1 := HQS.out wr (below_self wr)
        go_wp2_with (refine wpList_loadW rfl 29 (.tmp 3) rfl 6 stk_agg stk_size w.heap.size 29 rfl (stkC g (.slice AU nU cU) (.slice AL nL cL)) R0r.out rfl ?_)
        refine (Find_e HRR.out wr (HLr.out wr (below_self wr)) HCUR.out (by omega) HF.out (by omega)).mono ?_
        rintro ez w2 ⟨A2, c2, rfl, hc2, hr2, hb2⟩
        have HRD := hide (hr2.mono (fun _ _ => rfl) (fun b hb => ⟨Nat.le_trans hs1 (Nat.le_trans hbsz hb.1), hb.2⟩) : RdE prEn w2 (fun b => w.heap.size ≤ b ∧ b < w2.heap.size) A2 R.2.length R.2)
        have HB2' := hide hb2
        clear hr2 hb2 q1
        go_wp2_with fail
        go_roundw
        case rel => exact ⟨j + 1, R.2, A2, _, c2, by omega, by go_num, rfl, hRl, hRl, HRD.out, HBR.out.trans (HB2'.out.mono hbsz), by simpa using HE.out⟩
        case measure => simp [intOf]; omega
      · have q1 := HQS.out wr (below_self wr)
        go_wp2_with (refine wpList_loadW rfl 29 (.tmp 3) rfl 6 stk_agg stk_size w.heap.size 29 rfl (stkC g (.slice AU nU cU) (.slice AL nL cL)) R0r.out rfl ?_)
        refine (Find_e HRR.out wr (HLr.out wr (below_self wr)) HCUR.out (by omega) HF.out (by omega)).mono ?_
        rintro ez w2 ⟨A2, c2, rfl, hc2, hr2, hb2⟩
        have HB2' := hide (HB1.out.trans ((HBR.out.trans (hb2.mono hbsz)).mono hs1))
        clear hr2 hb2 q1
        have hE : R0L = none := by simpa using HE.out.symm
        subst hE
        go_wp2_with fail
        go_ret2
        exact ⟨none, 0, 0, rfl, RdE.none_ _ _ _ _, HB2'.out⟩
    · obtain rfl : j = m := by omega
      have e := HLK.out
      rw [List.drop_of_length_le (by have := HSL.out; omega)] at e
      unfold lookL at e
      subst e
      go_wp2_with fail
      go_ret2
      exact ⟨A, n8, c, rfl, HCF.out, HB1.out.trans (HBR.out.mono hs1)⟩
set_option maxRecDepth 100000 in
set_option maxHeartbeats 8000000 in
theorem RLook_f {lo : Nat} {g : GeoQ} {AU AL AP AN : Option Addr} {nU cU nL cL n cP m cN : Nat} {ls : List (List NodV)} {l : List (Int × Int)} {names : List (List UInt8)} {B : Nat} (w : World) (h : RdE layEn w (Under B) AL nL ls) (hlo : lo ≤ w.heap.size) (hpf : RdE prEn w (fun b => lo ≤ b ∧ b < w.heap.size) AP n l) (hs : Rd st w w.heap.size AN m names) (hB : B ≤ w.heap.size) (hF : FewL ls) (hn : n ≤ 1000) (hm1 : m ≤ 1000) :
    Calls Tryz.prog 61 #[.agg (stkC g (.slice AU nU cU) (.slice AL nL cL)).toArray, .slice AP n cP, .slice AN m cN] w (LookF lo w (lookL ls l names)) := by
  have hp : RdE prEn w (Under w.heap.size) AP n l := hpf.mono (fun _ _ => rfl) (fun b hb => hb.2)
  have r0 := RowL.new w 29 (stkC g (.slice AU nU cU) (.slice AL nL cL))
  have hb1 := below_new (below_self w) (.cells (stkC g (.slice AU nU cU) (.slice AL nL cL)).toArray 29)
  obtain ⟨W1, hW1⟩ : ∃ W1, w.alloc (.cells (stkC g (.slice AU nU cU) (.slice AL nL cL)).toArray 29) = W1 := ⟨_, rfl⟩
  rw [hW1] at r0 hb1
  have hW1' : w.alloc (.cells #[.int .i64 g.a, .int .i64 g.b, .int .i64 g.c, .int .i64 g.d, .slice AU nU cU, .slice AL nL cL] 29) = W1 := hW1
  have R0 := hide r0
  have HB1 := hide hb1
  have hs1 := hb1.size
  have HL := hide (h.under hb1 hB)
  have HP := hide (hp.on hb1)
  have HPL := hide hp.1
  have HS := hide (hs.on hb1)
  have HSL := hide hs.len
  have HF := hide hF
  obtain ⟨R0L, hR⟩ : ∃ R0L, lookL ls l names = R0L := ⟨_, rfl⟩
  rw [hR]
  have HR := hide hR
  have hB1 : B ≤ W1.heap.size := by omega
  have hlo2 : lo ≤ W1.heap.size := by omega
  have HPF := hide (hpf.mono (Kept.of_below HB1.out (fun b hb => hb.2)) (fun b hb => ⟨hb.1, Nat.lt_of_lt_of_le hb.2 hs1⟩) : RdE prEn W1 (fun b => lo ≤ b ∧ b < W1.heap.size) AP n l)
  clear hpf
  unfold stkC
  clear r0 hb1 hW1 h hp hs hF hR
  go_enter Tryz.func61, Tryz.ntmps61
  go_wp2_with fail
  clear hW1'
  go_loopw [8, 9] (fun v8 v9 wr => ∃ (j : Nat) (cur : List (Int × Int)) (A : Option Addr) (n8 c : Nat), j ≤ m ∧ v9 = .int .i64 j ∧ v8 = .slice A n8 c ∧ n8 ≤ n ∧ cur.length ≤ n ∧ RdE prEn wr (fun b => lo ≤ b ∧ b < wr.heap.size) A n8 cur ∧ Below W1.heap.size W1 wr ∧ lookL ls cur (names.drop j) = R0L) (fun _ v9 _ => m - (intOf v9).toNat)
  case atStart => exact ⟨0, l, AP, n, cP, by omega, rfl, rfl, Nat.le_refl _, by have := HPL.out; omega, HPF.out, below_self _, by rw [List.drop_zero]; exact HR.out⟩
  case round =>
    obtain ⟨j, cur, A, n8, c, hj, rfl, rfl, hn8, hcl, hcur, hbr, hlk⟩ := hrel
    have HCF := hide hcur
    have HCUR := hide (hcur.mono (fun _ _ => rfl) (fun b hb => hb.2) : RdE prEn wr (Under wr.heap.size) A n8 cur)
    have HBR := hide hbr
    have HLK := hide hlk
    have hbsz := hbr.size
    have R0r := hide (R0.out.on hbr)
    have HLr := hide (fun W (hb : Below wr.heap.size wr W) => HL.out.under (hbr.trans (hb.mono hbsz)) hB1)
    clear hcur hbr hlk
    by_cases hlt : j < m
    · obtain ⟨x, hx⟩ : ∃ x, names[j]? = some x := ⟨_, List.getElem?_eq_getElem (by have := HSL.out; omega)⟩
      obtain ⟨bS, oS, rfl, hbS, hcS⟩ := HS.out.2 (by omega)
      have hqS := hcS j x hx
      have HQS := hide (fun W (hb : Below wr.heap.size wr W) => show W.cell? ⟨bS, oS + j, none⟩ = some (.string ⟨x.toArray⟩) from ((HBR.out.trans (hb.mono hbsz)).cell (p := ⟨bS, oS + j, none⟩) hbS).trans hqS)
      have HDR := hide (show names.drop j = x :: names.drop (j + 1) from by
        have hjl := (List.getElem?_eq_some_iff.1 hx).1
        rw [List.drop_eq_getElem_cons hjl, (List.getElem?_eq_some_iff.1 hx).2])
      obtain ⟨R, hRR⟩ : ∃ R, findL ls x cur [] = R := ⟨_, rfl⟩
      have hRl : R.2.length ≤ n := by have := findL_len ls x cur []; rw [hRR] at this; simp at this; omega
      have HRR := hide hRR
      have e := HLK.out
      rw [HDR.out] at e
      unfold lookL at e
      rw [hRR] at e
      obtain ⟨bk, hbk⟩ : ∃ bk, (R.1 != 1) = bk := ⟨_, rfl⟩
      have HE := hide (show (if bk = true then none else lookL ls R.2 (names.drop (j + 1))) = R0L from by
        rw [← e, ← hbk]
        by_cases hk : R.1 = 1 <;> simp [hk])
      have hjm : (j : Int) < (m : Int) := by omega
      clear hx hcS hqS hRR e
      cases bk
      · go_wp2_with fail
        refine wp_region_planN (fun w' => Below wr.heap.size wr w') [(0, true), (1, true), (2, true), (3, true), (4, true), (5, true), (6, false), (7, true), (8, true), (9, true), (10, true), (11, true)] (by kernel_rfl) (by kernel_rfl) (by kernel_rfl) (by kernel_rfl) rfl (fun _ _ _ _ _ h => h) (below_drew (below_self wr)) (fun hHeld => ?_)
        simp only [planOps, List.filterMap_cons, List.filterMap_nil, List.getElem?_toArray, List.getElem?_cons_succ, List.getElem?_cons_zero, Option.map_some]
        refine wpPlan_take (v := ?_) (by kernel_rfl) (fun wS hSw => ?_) ?_
        rotate_left
        · refine execOp_load (x := .tmp 3) (k := 6) (g := w.heap.size) (off := 0) (cs := stkC g (.slice AU nU cU) (.slice AL nL cL)) ?_ stk_agg stk_size ?_ (fun j' v hv => by rw [Nat.zero_add]; exact ((R0r.out.on hSw).cell j').trans hv) rfl <;> rfl
        (try simp only [Act.put, List.setIfInBounds_toArray, List.set_cons_zero, List.set_cons_succ])
        refine wpPlan_take (v := ?_) (by kernel_rfl) (fun wS hSw => ?_) ?_
        rotate_left
        · (try dsimp only at hSw); go_simp; (try with_reducible rfl)
        (try simp only [Act.put, List.setIfInBounds_toArray, List.set_cons_zero, List.set_cons_succ])
        refine wpPlan_take (v := ?_) (by kernel_rfl) (fun wS hSw => ?_) ?_
        rotate_left
        · (try dsimp only at hSw); go_simp; (try with_reducible rfl)
        (try simp only [Act.put, List.setIfInBounds_toArray, List.set_cons_zero, List.set_cons_succ])
        refine wpPlan_take (v := ?_) (by kernel_rfl) (fun wS hSw => ?_) ?_
        rotate_left
        · (try dsimp only at hSw); go_simp; (try with_reducible rfl)
        (try simp only [Act.put, List.setIfInBounds_toArray, List.set_cons_zero, List.set_cons_succ])
        refine wpPlan_take (v := ?_) (by kernel_rfl) (fun wS hSw => ?_) ?_
        rotate_left
        · (try dsimp only at hSw); go_simp; (try with_reducible rfl)
        (try simp only [Act.put, List.setIfInBounds_toArray, List.set_cons_zero, List.set_cons_succ])
        refine wpPlan_take (v := ?_) (by kernel_rfl) (fun wS hSw => ?_) ?_
        rotate_left
        · have qx := HQS.out wS hSw; go_simp; (try with_reducible rfl)
        (try simp only [Act.put, List.setIfInBounds_toArray, List.set_cons_zero, List.set_cons_succ])
        refine wpPlan_call (by kernel_rfl) (fun K hK => ?_)
        have hOld := hide hHeld
        clear hHeld
        go_simp
        go_at_call 53
        refine (RFind_e HRR.out _ (HLr.out _ hOld.out) (HCUR.out.on hOld.out) (by have := hOld.out.size; omega) HF.out (by omega)).mono ?_
        rintro e w' ⟨A2, c2, rfl, hc2, hr2, hbel⟩
        have HRD := hide (hr2.mono (fun _ _ => rfl) (fun b hb => ⟨Nat.le_trans hlo2 (Nat.le_trans hbsz (Nat.le_trans hOld.out.size hb.1)), hb.2⟩) : RdE prEn w' (fun b => lo ≤ b ∧ b < w'.heap.size) A2 R.2.length R.2)
        clear hr2
        refine hK.out _ _ (hOld.out.trans (hbel.mono hOld.out.size)) (fun hHeld => ?_)
        clear hK K
        (try simp only [Act.put, List.setIfInBounds_toArray, List.set_cons_zero, List.set_cons_succ])
        refine wpPlan_take (v := ?_) (by kernel_rfl) (fun wS hSw => ?_) ?_
        rotate_left
        · (try dsimp only at hSw); go_simp; (try with_reducible rfl)
        (try simp only [Act.put, List.setIfInBounds_toArray, List.set_cons_zero, List.set_cons_succ])
        refine wpPlan_take (v := ?_) (by kernel_rfl) (fun wS hSw => ?_) ?_
        rotate_left
        · (try dsimp only at hSw); go_simp; (try with_reducible rfl)
        (try simp only [Act.put, List.setIfInBounds_toArray, List.set_cons_zero, List.set_cons_succ])
        refine wpPlan_take (v := ?_) (by kernel_rfl) (fun wS hSw => ?_) ?_
        rotate_left
        · (try dsimp only at hSw); go_simp; (try with_reducible rfl)
        (try simp only [Act.put, List.setIfInBounds_toArray, List.set_cons_zero, List.set_cons_succ])
        refine wpPlan_take (v := ?_) (by kernel_rfl) (fun wS hSw => ?_) ?_
        rotate_left
        · (try dsimp only at hSw); go_simp; (try with_reducible rfl)
        (try simp only [Act.put, List.setIfInBounds_toArray, List.set_cons_zero, List.set_cons_succ])
        refine wpPlan_take (v := ?_) (by kernel_rfl) (fun wS hSw => ?_) ?_
        rotate_left
        · (try dsimp only at hSw); go_simp; (try with_reducible rfl)
        (try simp only [Act.put, List.setIfInBounds_toArray, List.set_cons_zero, List.set_cons_succ])
        refine wpPlan_end ?_
        go_wp2_with fail
        go_roundw
        case rel => exact ⟨j + 1, R.2, A2, _, c2, by omega, by go_num, rfl, hRl, hRl, HRD.out, HBR.out.trans (hHeld.mono hbsz), by simpa using HE.out⟩
        case measure => simp [intOf]; omega
      · go_wp2_with fail
        refine wp_region_planN (fun w' => Below wr.heap.size wr w') [(0, true), (1, true), (2, true), (3, true), (4, true), (5, true), (6, false), (7, true), (8, true), (9, true), (10, true), (11, true)] (by kernel_rfl) (by kernel_rfl) (by kernel_rfl) (by kernel_rfl) rfl (fun _ _ _ _ _ h => h) (below_drew (below_self wr)) (fun hHeld => ?_)
        simp only [planOps, List.filterMap_cons, List.filterMap_nil, List.getElem?_toArray, List.getElem?_cons_succ, List.getElem?_cons_zero, Option.map_some]
        refine wpPlan_take (v := ?_) (by kernel_rfl) (fun wS hSw => ?_) ?_
        rotate_left
        · refine execOp_load (x := .tmp 3) (k := 6) (g := w.heap.size) (off := 0) (cs := stkC g (.slice AU nU cU) (.slice AL nL cL)) ?_ stk_agg stk_size ?_ (fun j' v hv => by rw [Nat.zero_add]; exact ((R0r.out.on hSw).cell j').trans hv) rfl <;> rfl
        (try simp only [Act.put, List.setIfInBounds_toArray, List.set_cons_zero, List.set_cons_succ])
        refine wpPlan_take (v := ?_) (by kernel_rfl) (fun wS hSw => ?_) ?_
        rotate_left
        · (try dsimp only at hSw); go_simp; (try with_reducible rfl)
        (try simp only [Act.put, List.setIfInBounds_toArray, List.set_cons_zero, List.set_cons_succ])
        refine wpPlan_take (v := ?_) (by kernel_rfl) (fun wS hSw => ?_) ?_
        rotate_left
        · (try dsimp only at hSw); go_simp; (try with_reducible rfl)
        (try simp only [Act.put, List.setIfInBounds_toArray, List.set_cons_zero, List.set_cons_succ])
        refine wpPlan_take (v := ?_) (by kernel_rfl) (fun wS hSw => ?_) ?_
        rotate_left
        · (try dsimp only at hSw); go_simp; (try with_reducible rfl)
        (try simp only [Act.put, List.setIfInBounds_toArray, List.set_cons_zero, List.set_cons_succ])
        refine wpPlan_take (v := ?_) (by kernel_rfl) (fun wS hSw => ?_) ?_
        rotate_left
        · (try dsimp only at hSw); go_simp; (try with_reducible rfl)
        (try simp only [Act.put, List.setIfInBounds_toArray, List.set_cons_zero, List.set_cons_succ])
        refine wpPlan_take (v := ?_) (by kernel_rfl) (fun wS hSw => ?_) ?_
        rotate_left
        · have qx := HQS.out wS hSw; go_simp; (try with_reducible rfl)
        (try simp only [Act.put, List.setIfInBounds_toArray, List.set_cons_zero, List.set_cons_succ])
        refine wpPlan_call (by kernel_rfl) (fun K hK => ?_)
        have hOld := hide hHeld
        clear hHeld
        go_simp
        go_at_call 53
        refine (RFind_e HRR.out _ (HLr.out _ hOld.out) (HCUR.out.on hOld.out) (by have := hOld.out.size; omega) HF.out (by omega)).mono ?_
        rintro e w' ⟨A2, c2, rfl, hc2, hr2, hbel⟩
        have HRD := hide (hr2.mono (fun _ _ => rfl) (fun b hb => ⟨Nat.le_trans hlo2 (Nat.le_trans hbsz (Nat.le_trans hOld.out.size hb.1)), hb.2⟩) : RdE prEn w' (fun b => lo ≤ b ∧ b < w'.heap.size) A2 R.2.length R.2)
        clear hr2
        refine hK.out _ _ (hOld.out.trans (hbel.mono hOld.out.size)) (fun hHeld => ?_)
        clear hK K
        (try simp only [Act.put, List.setIfInBounds_toArray, List.set_cons_zero, List.set_cons_succ])
        refine wpPlan_take (v := ?_) (by kernel_rfl) (fun wS hSw => ?_) ?_
        rotate_left
        · (try dsimp only at hSw); go_simp; (try with_reducible rfl)
        (try simp only [Act.put, List.setIfInBounds_toArray, List.set_cons_zero, List.set_cons_succ])
        refine wpPlan_take (v := ?_) (by kernel_rfl) (fun wS hSw => ?_) ?_
        rotate_left
        · (try dsimp only at hSw); go_simp; (try with_reducible rfl)
        (try simp only [Act.put, List.setIfInBounds_toArray, List.set_cons_zero, List.set_cons_succ])
        refine wpPlan_take (v := ?_) (by kernel_rfl) (fun wS hSw => ?_) ?_
        rotate_left
        · (try dsimp only at hSw); go_simp; (try with_reducible rfl)
        (try simp only [Act.put, List.setIfInBounds_toArray, List.set_cons_zero, List.set_cons_succ])
        refine wpPlan_take (v := ?_) (by kernel_rfl) (fun wS hSw => ?_) ?_
        rotate_left
        · (try dsimp only at hSw); go_simp; (try with_reducible rfl)
        (try simp only [Act.put, List.setIfInBounds_toArray, List.set_cons_zero, List.set_cons_succ])
        refine wpPlan_take (v := ?_) (by kernel_rfl) (fun wS hSw => ?_) ?_
        rotate_left
        · (try dsimp only at hSw); go_simp; (try with_reducible rfl)
        (try simp only [Act.put, List.setIfInBounds_toArray, List.set_cons_zero, List.set_cons_succ])
        refine wpPlan_end ?_
        have HB2' := hide (HB1.out.trans ((HBR.out.trans (hHeld.mono hbsz)).mono hs1))
        have hE : R0L = none := by simpa using HE.out.symm
        subst hE
        clear hHeld
        go_wp2_with fail
        go_ret2
        exact ⟨none, 0, 0, rfl, RdE.none_ _ _ _ _, HB2'.out⟩
    · obtain rfl : j = m := by omega
      have e := HLK.out
      rw [List.drop_of_length_le (by have := HSL.out; omega)] at e
      unfold lookL at e
      subst e
      go_wp2_with fail
      go_ret2
      exact ⟨A, n8, c, rfl, HCF.out, HB1.out.trans (HBR.out.mono hs1)⟩
theorem PClone_any {A : Option Addr} {n c : Nat} {l : List (Int × Int)} (w : World) (h : RdE prEn w (Under w.heap.size) A n l) (hn : n ≤ 100000) : Calls Tryz.prog 125 #[.slice A n c] w (PlcsRet w l) := (PClone_f w h hn).mono fun _ _ h => h.weak
theorem Look_any {g : GeoQ} {AU AL AP AN : Option Addr} {nU cU nL cL n cP m cN : Nat} {ls : List (List NodV)} {l : List (Int × Int)} {names : List (List UInt8)} {B : Nat} (w : World) (h : RdE layEn w (Under B) AL nL ls) (hp : RdE prEn w (Under w.heap.size) AP n l) (hs : Rd st w w.heap.size AN m names) (hB : B ≤ w.heap.size) (hF : FewL ls) (hn : n ≤ 1000) (hm1 : m ≤ 1000) :
    Calls Tryz.prog 103 #[.agg (stkC g (.slice AU nU cU) (.slice AL nL cL)).toArray, .slice AP n cP, .slice AN m cN] w (LookRet w (lookL ls l names)) := (Look_f w h hp hs hB hF hn hm1).mono fun _ _ h => h.weak
theorem RLook_any {g : GeoQ} {AU AL AP AN : Option Addr} {nU cU nL cL n cP m cN : Nat} {ls : List (List NodV)} {l : List (Int × Int)} {names : List (List UInt8)} {B : Nat} (w : World) (h : RdE layEn w (Under B) AL nL ls) (hp : RdE prEn w (Under w.heap.size) AP n l) (hs : Rd st w w.heap.size AN m names) (hB : B ≤ w.heap.size) (hF : FewL ls) (hn : n ≤ 1000) (hm1 : m ≤ 1000) :
    Calls Tryz.prog 61 #[.agg (stkC g (.slice AU nU cU) (.slice AL nL cL)).toArray, .slice AP n cP, .slice AN m cN] w (LookRet w (lookL ls l names)) := (RLook_f w h (Nat.zero_le _) (hp.mono (fun _ _ => rfl) (fun _ hb => ⟨Nat.zero_le _, hb⟩)) hs hB hF hn hm1).mono fun _ _ h => h.weak
end Go.Proofs.YtnehkgbdppbhiaaGreat

/- The closure of Names; slices.DeleteFunc of texts with it (layer 16). -/
namespace Go.Proofs.YtnehkgbdppbhiaaGreat
open Go.RowKit Go.Shelf Plain

/-- What the closure reads: the stack's box, and the list's. -/
def CtxN (g : GeoQ) (AU AL AP : Option Addr) (nU cU nL cL n cP B gS gL : Nat) (ls : List (List NodV)) (l : List (Int × Int)) (W : World) : Prop := RowL W gS 29 (stkC g (.slice AU nU cU) (.slice AL nL cL)) ∧ RowL W gL 30 [.slice AP n cP] ∧ RdE layEn W (Under B) AL nL ls ∧ RdE prEn W (Under B) AP n l ∧ B ≤ W.heap.size
theorem CtxN.kept {g : GeoQ} {AU AL AP : Option Addr} {nU cU nL cL n cP B B0 gS gL : Nat} {ls : List (List NodV)} {l : List (Int × Int)} {W W' : World} (h : CtxN g AU AL AP nU cU nL cL n cP B gS gL ls l W) (hk : Kept (Under B0) W W') (hS : gS < B0) (hL : gL < B0) (hB : B ≤ B0) (hs : W.heap.size ≤ W'.heap.size) : CtxN g AU AL AP nU cU nL cL n cP B gS gL ls l W' :=
  ⟨(hk gS hS).trans h.1, (hk gL hL).trans h.2.1, h.2.2.1.mono (fun b hb => hk b (Nat.lt_of_lt_of_le hb hB)) (fun _ h => h), h.2.2.2.1.mono (fun b hb => hk b (Nat.lt_of_lt_of_le hb hB)) (fun _ h => h), Nat.le_trans h.2.2.2.2 hs⟩
/-- Does a name tell nothing? -/
def hidS (ls : List (List NodV)) (l : List (Int × Int)) (nm : List UInt8) : Bool := decide ((findL ls nm l []).1 = 0)
set_option maxRecDepth 100000 in
set_option maxHeartbeats 4000000 in
theorem HidN_any {g : GeoQ} {AU AL AP : Option Addr} {nU cU nL cL n cP B gS gL : Nat} {ls : List (List NodV)} {l : List (Int × Int)} {nm : List UInt8} {r : Bool} (hr : hidS ls l nm = r) (W : World) (h : CtxN g AU AL AP nU cU nL cL n cP B gS gL ls l W) (hF : FewL ls) (hn : n ≤ 1000) :
    Calls Tryz.prog 107 #[.string ⟨nm.toArray⟩, .pointer (some ⟨gS, 0, none⟩), .pointer (some ⟨gL, 0, none⟩)] W (BoolB W r) := by
  obtain ⟨h1, h2, h3, h4, h5⟩ := h
  have R1 := hide h1
  have q2 : W.cell? ⟨gL, 0, none⟩ = some (.slice AP n cP) := h2.cell 0
  have HL := hide h3
  have HP := hide (h4.mono (fun _ _ => rfl) (fun b hb => Nat.lt_of_lt_of_le hb h5) : RdE prEn W (Under W.heap.size) AP n l)
  have HF := hide hF
  obtain ⟨R, hR⟩ : ∃ R, findL ls nm l [] = R := ⟨_, rfl⟩
  have hb : (R.1 == 0) = r := by
    rw [← hr, ← hR]
    unfold hidS
    rw [Bool.eq_iff_iff]
    simp
  have HR := hide hR
  clear hr hR h1 h2 h3 h4 hF
  go_enter Tryz.func107, Tryz.ntmps107
  go_wp2_with (refine wpList_loadW rfl 29 (.tmp 1) rfl 6 stk_agg stk_size gS 29 rfl (stkC g (.slice AU nU cU) (.slice AL nL cL)) R1.out rfl ?_)
  refine (Find_e HR.out W HL.out HP.out h5 HF.out hn).mono ?_
  rintro ez w2 ⟨A2, c2, rfl, hc2, hr2, hb2⟩
  have HB2 := hide hb2
  clear hr2 hb2 q2
  go_wp2_with fail
  go_ret
  exact BoolB.of HB2.out
/-- Where the first is of which p tells true. -/
def IdxRet (w : World) (p : List UInt8 → Bool) (l : List (List UInt8)) (e : Ending) (w' : World) : Prop := ∃ i : Int, e = .returned (.int .i64 i) ∧ ((i = -1 ∧ ∀ x ∈ l, p x = false) ∨ ∃ (k : Nat) (x : List UInt8), i = (k : Int) ∧ l[k]? = some x ∧ p x = true ∧ ∀ y ∈ l.take k, p y = false) ∧ Below w.heap.size w w'
theorem st_cell {w : World} {B n k : Nat} {A : Option Addr} {l : List (List UInt8)} {x : List UInt8} (h : Rd st w B A n l) (hx : l[k]? = some x) : ∃ b o, A = some ⟨b, o, none⟩ ∧ b < B ∧ w.cell? ⟨b, o + k, none⟩ = some (.string ⟨x.toArray⟩) := by
  have hi := (List.getElem?_eq_some_iff.1 hx).1
  obtain ⟨b, o, e, hb, hc⟩ := h.2 (by have := h.1; omega)
  exact ⟨b, o, e, hb, hc k x hx⟩
section
variable {gS gL : Nat} {p : List UInt8 → Bool} {B0 : Nat}
set_option maxRecDepth 100000 in
set_option maxHeartbeats 4000000 in
theorem IdxN_any {A : Option Addr} {n c : Nat} {l : List (List UInt8)} (w : World) (h : Rd st w w.heap.size A n l) (hn : n ≤ 100000)
    (hdel : ∀ (W : World) (nm : List UInt8) (r : Bool), p nm = r → Kept (Under B0) w W → w.heap.size ≤ W.heap.size → Calls Tryz.prog 107 #[.string ⟨nm.toArray⟩, .pointer (some ⟨gS, 0, none⟩), .pointer (some ⟨gL, 0, none⟩)] W (BoolB W r)) (hB0 : B0 ≤ w.heap.size) :
    Calls Tryz.prog 108 #[.slice A n c, .func (.func 107) #[] #[.pointer (some ⟨gS, 0, none⟩), .pointer (some ⟨gL, 0, none⟩)]] w (IdxRet w p l) := by
  have H := hide h
  have hl := h.len
  have HD := hide hdel
  clear h hdel
  go_enter Tryz.func108, Tryz.ntmps108
  go_wp2
  go_loopw [8] (fun v8 wr => ∃ j : Nat, j ≤ n ∧ v8 = .int .i64 j ∧ Below w.heap.size w wr ∧ ∀ y ∈ l.take j, p y = false) (fun v8 _ => n - (intOf v8).toNat)
  case atStart => exact ⟨0, by omega, rfl, below_self _, by simp⟩
  case round =>
    obtain ⟨j, hj, rfl, hbr, hall⟩ := hrel
    have HALL := hide hall
    have HBR := hide hbr
    clear hall hbr
    by_cases hlt : j < n
    · obtain ⟨x, hx⟩ : ∃ x, l[j]? = some x := ⟨_, List.getElem?_eq_getElem (by omega)⟩
      obtain ⟨b, o, rfl, hb, hq⟩ := st_cell H.out hx
      have q : wr.cell? ⟨b, o + j, none⟩ = some (.string ⟨x.toArray⟩) := (HBR.out.cell (p := ⟨b, o + j, none⟩) hb).trans hq
      have HX := hide hx
      obtain ⟨r, hr⟩ : ∃ r, p x = r := ⟨_, rfl⟩
      have HR := hide hr
      have hjn : (j : Int) < (n : Int) := by omega
      clear hx hq hr
      go_wp2_with fail
      refine (HD.out wr x r HR.out (Kept.of_below HBR.out (fun b hb => Nat.lt_of_lt_of_le hb hB0)) HBR.out.size).mono ?_
      rintro ez w2 ⟨rfl, hb2⟩
      have HB2 := hide (HBR.out.trans (hb2.mono HBR.out.size))
      clear hb2 q
      cases r with
      | false =>
        go_wp2_with fail
        go_roundw
        case rel => exact ⟨j + 1, by omega, by go_num, HB2.out, fun y hy => by
          rw [List.take_add_one, HX.out, List.mem_append] at hy
          rcases hy with hy | hy
          · exact HALL.out y hy
          · simp at hy; rw [hy]; exact HR.out⟩
        case measure => simp [intOf]; omega
      | true =>
        go_wp2_with fail
        go_ret
        exact ⟨(j : Int), rfl, .inr ⟨j, x, rfl, HX.out, HR.out, HALL.out⟩, HB2.out⟩
    · obtain rfl : j = n := by omega
      go_wp2_with fail
      go_ret
      exact ⟨-1, rfl, .inl ⟨rfl, fun y hy => HALL.out y (by rw [List.take_of_length_le (by omega)]; exact hy)⟩, HBR.out⟩
theorem run_clear_st (w : World) (g off n c tt : Nat) (cur : List Value) (hn : 0 < n) (hr : RowL w g tt cur) (hfit : off + n ≤ cur.length) :
    ∃ Z : List Value, Z.length = n ∧ ∀ ty, (Builtin.clear_ #[44] ty #[.slice (some ⟨g, off, none⟩) n c]).run Tryz.prog w = .ok (.tuple #[]) (w.setRow g (splice cur off Z).toArray) := by
  have hz : ∀ w, (zeroValue 9).run Tryz.prog w = .ok (.string ⟨#[]⟩) w := fun w => by kernel_rfl
  obtain ⟨Z, hZ⟩ : ∃ Z, (Builtin.zeroCells (Value.string ⟨#[]⟩).cells n).toList = Z := ⟨_, rfl⟩
  have hl : Z.length = n := by
    rw [← hZ, show (Value.string ⟨#[]⟩).cells = #[.string ⟨#[]⟩] from rfl]
    simp [Builtin.zeroCells]
  have h1 : ∀ v ∈ Z, v.oneCell' = true := by
    rw [← hZ, show (Value.string ⟨#[]⟩).cells = #[.string ⟨#[]⟩] from rfl]
    intro v hv
    simp only [Builtin.zeroCells, Array.mem_toList_iff, Array.mem_map] at hv
    obtain ⟨i, _, rfl⟩ := hv
    have hi : i % 1 < 1 := Nat.mod_lt _ (by omega)
    show (#[Value.string ⟨#[]⟩][i % 1]!).oneCell' = true
    generalize i % 1 = m at hi
    have : m = 0 := by omega
    subst this
    rfl
  have hst := run_storeCells_at Tryz.prog g off tt Z 0 cur.toArray w hr (by simp; omega) h1
  simp only [Nat.add_zero] at hst
  refine ⟨Z, hl, fun ty => ?_⟩
  obtain ⟨m, rfl⟩ : ∃ m, n = m + 1 := ⟨n - 1, by omega⟩
  simp [Builtin.clear_, run_underlying Tryz.underlying44, hz, hZ, hst, splice]
/-- The row, as far as it was gone through. -/
def DelN (p : List UInt8 → Bool) (l : List (List UInt8)) (n c g a b : Nat) (W : World) : Prop := ∃ cs, RowL W g 9 cs ∧ cs.length = c ∧ n ≤ c ∧ ((l.take b).filter (fun x => !p x)).length = a ∧ cs.take a = ((l.take b).filter (fun x => !p x)).map st ∧ ∀ i x, b ≤ i → l[i]? = some x → cs[i]? = some (st x)
theorem DelN.on {l : List (List UInt8)} {n c g a b : Nat} {W W' : World} (h : DelN p l n c g a b W) (hb : Below W.heap.size W W') : DelN p l n c g a b W' := by
  obtain ⟨cs, h1, h2⟩ := h
  exact ⟨cs, h1.on hb, h2⟩
theorem DelN.skip {l : List (List UInt8)} {n c g a b : Nat} {W : World} {x : List UInt8} (h : DelN p l n c g a b W) (hx : l[b]? = some x) (hp : p x = true) : DelN p l n c g a (b + 1) W := by
  obtain ⟨cs, h1, h2, h3, h4, h5, h6⟩ := h
  have e : (l.take (b + 1)).filter (fun x => !p x) = (l.take b).filter (fun x => !p x) := by rw [List.take_add_one, hx, List.filter_append]; simp [hp]
  exact ⟨cs, h1, h2, h3, by rw [e]; exact h4, by rw [e]; exact h5, fun i y hi hy => h6 i y (by omega) hy⟩
theorem DelN.put {l : List (List UInt8)} {n c g a b : Nat} {W : World} {x : List UInt8} (h : DelN p l n c g a b W) (hx : l[b]? = some x) (hp : p x = false) (hab : a < b) (hbc : b < c) : DelN p l n c g (a + 1) (b + 1) (W.setCell ⟨g, a, none⟩ (st x)) := by
  obtain ⟨cs, h1, h2, h3, h4, h5, h6⟩ := h
  have e : (l.take (b + 1)).filter (fun x => !p x) = (l.take b).filter (fun x => !p x) ++ [x] := by rw [List.take_add_one, hx, List.filter_append]; simp [hp]
  refine ⟨cs.set a (st x), h1.set_ a _, by rw [List.length_set]; exact h2, h3, by rw [e, List.length_append, h4]; rfl, ?_, fun i y hi hy => ?_⟩
  · rw [e, List.map_append, ← h5, List.take_add_one, List.getElem?_set_self (by omega), List.take_set_of_le (Nat.le_refl _)]
    rfl
  · rw [List.getElem?_set_ne (by omega)]
    exact h6 i y (by omega) hy
set_option maxRecDepth 100000 in
set_option maxHeartbeats 8000000 in
theorem DelS_any {base : Nat} {A : Option Addr} {n c : Nat} {l : List (List UInt8)} (w : World) (h : Ow st w base 9 A n c l) (hn : n ≤ 100000)
    (hdel : ∀ (W : World) (nm : List UInt8) (r : Bool), p nm = r → Kept (Under B0) w W → w.heap.size ≤ W.heap.size → Calls Tryz.prog 107 #[.string ⟨nm.toArray⟩, .pointer (some ⟨gS, 0, none⟩), .pointer (some ⟨gL, 0, none⟩)] W (BoolB W r)) (hB0 : B0 ≤ base) (hB1 : B0 ≤ w.heap.size) :
    Calls Tryz.prog 65 #[.slice A n c, .func (.func 107) #[] #[.pointer (some ⟨gS, 0, none⟩), .pointer (some ⟨gL, 0, none⟩)]] w (fun e w' => ∃ A c m, e = .returned (.slice A m c) ∧ Rd st w' w'.heap.size A m (l.filter (fun x => !p x)) ∧ Below B0 w w') := by
  have hl : l.length = n := by have := h.1; simpa using this
  have H := hide h
  have HD := hide hdel
  have HRD := hide h.rd
  clear h hdel
  go_enter Tryz.func65, Tryz.ntmps65
  go_wp2_with fail
  refine (IdxN_any (p := p) (B0 := B0) w HRD.out hn HD.out hB1).mono ?_
  rintro ez w1 ⟨i, rfl, hi, hb1⟩
  have HB1 := hide hb1
  have hs1 := hb1.size
  clear hb1
  rcases hi with ⟨rfl, hall⟩ | ⟨k, x, rfl, hx, hp, hall⟩
  · have HALL := hide hall
    clear hall
    go_wp2_with fail
    go_ret
    refine ⟨A, c, n, rfl, ?_, HB1.out.mono (by omega)⟩
    rw [List.filter_eq_self.2 (fun x hx => by rw [HALL.out x hx]; rfl)]
    exact HRD.out.on HB1.out
  · have hk := (List.getElem?_eq_some_iff.1 hx).1
    obtain ⟨g, cs, hA, hbg, hrow, hcl, hnc, hct⟩ : ∃ g cs, A = some ⟨g, 0, none⟩ ∧ base ≤ g ∧ RowL w g 9 cs ∧ cs.length = c ∧ n ≤ c ∧ cs.take n = l.map st := by
      rcases H.out.2 with ⟨_, h1⟩ | ⟨g, cap, cur, h1, h2, h3, h4, h5, h6, h7⟩
      · omega
      · cases h1
        exact ⟨g, cur.toList, rfl, h2, by simpa [RowL] using h3, by simpa using h6, h4, by simpa using h7⟩
    have hgl := hrow.lt
    have HD0 := hide (show DelN p l n c g k (k + 1) w1 from by
      have e : (l.take k).filter (fun x => !p x) = l.take k := List.filter_eq_self.2 (fun y hy => by rw [hall y hy]; rfl)
      refine DelN.skip (b := k) ⟨cs, hrow.on HB1.out, hcl, hnc, by rw [e, List.length_take]; omega, ?_, fun i y hi hy => ?_⟩ hx hp
      · rw [e]
        have e2 := congrArg (List.take k) hct
        rw [List.take_take, Nat.min_eq_left (by omega), ← List.map_take] at e2
        exact e2
      · have hin := (List.getElem?_eq_some_iff.1 hy).1
        rw [← List.getElem?_take_of_lt (show i < n by omega), hct, List.getElem?_map, hy]
        rfl)
    subst hA
    have hkn : ((k : Int) == -1) = false := by rw [beq_eq_false_iff_ne]; omega
    have HB1K := hide (HB1.out.mono hB1 : Below B0 w w1)
    clear hx hp hall hrow hct hcl
    go_wp2_with fail
    go_loopw [5, 6, 7] (fun iv jv _ wr => ∃ a b : Nat, a < b ∧ b ≤ n ∧ iv = .int .i64 a ∧ jv = .int .i64 b ∧ Hid (DelN p l n c g a b wr) ∧ Below B0 w wr ∧ w.heap.size ≤ wr.heap.size) (fun _ jv _ _ => n - (intOf jv).toNat)
    case atStart => exact ⟨k, k + 1, by omega, by omega, rfl, by go_num, HD0, HB1K.out, hs1⟩
    case round =>
      obtain ⟨a, b, hab, hbn, rfl, rfl, HDA, hbr, hsr⟩ := hrel
      have HBR := hide hbr
      clear hbr
      by_cases hlt : b < n
      · obtain ⟨x, hx⟩ : ∃ x, l[b]? = some x := ⟨_, List.getElem?_eq_getElem (by omega)⟩
        obtain ⟨r, hr⟩ : ∃ r, p x = r := ⟨_, rfl⟩
        have q : wr.cell? ⟨g, b, none⟩ = some (.string ⟨x.toArray⟩) := by
          obtain ⟨cs, h1, h2, h3, h4, h5, h6⟩ := HDA.out
          rw [h1.cell]
          exact h6 b x (Nat.le_refl _) hx
        have HX := hide hx
        have HR := hide hr
        clear hx hr
        go_wp2_with fail
        refine (HD.out wr x r HR.out (Kept.of_below HBR.out (fun b hb => hb)) hsr).mono ?_
        rintro ez w2 ⟨rfl, hb2⟩
        have HD2 := hide (HDA.out.on hb2)
        have HB2 := hide (HBR.out.trans (hb2.mono (by omega)))
        have hs2 := hb2.size
        clear hb2 q
        cases r with
        | true =>
          go_wp2_with fail
          go_roundw
          case rel => exact ⟨a, b + 1, by omega, by omega, rfl, by go_num, hide (HD2.out.skip HX.out HR.out), HB2.out, by omega⟩
          case measure => simp [intOf]; omega
        | false =>
          obtain ⟨ca, qa⟩ : ∃ ca, w2.cell? ⟨g, a, none⟩ = some ca := by
            obtain ⟨cs, h1, h2, h3, h4, h5, h6⟩ := HD2.out
            exact ⟨_, (h1.cell a).trans (List.getElem?_eq_getElem (by omega))⟩
          have fa : w2.frozen? ⟨g, a, none⟩ = false := by
            obtain ⟨cs, h1, -⟩ := HD2.out
            exact h1.frozen a
          go_wp2_with fail
          go_roundw
          case rel => exact ⟨a + 1, b + 1, by omega, by omega, by go_num, by go_num, hide (HD2.out.put HX.out HR.out hab (by omega)), HB2.out.setCell (p := ⟨g, a, none⟩) (by show B0 ≤ g; omega) _, by simp [World.setCell]; omega⟩
          case measure => simp [intOf]; omega
      · obtain rfl : b = n := by omega
        obtain ⟨cs, h1, h2, h3, h4, h5, h6⟩ := HDA.out
        obtain ⟨Z, hZ, hclr⟩ := run_clear_st wr g a (b - a) (c - a) 9 cs (by omega) h1 (by omega)
        have HW := hide (h1.setRow_ (splice cs a Z))
        have HG := hide (grownBy_setRow wr g (splice cs a Z).toArray)
        have ht : (splice cs a Z).take a = (l.filter (fun x => !p x)).map st := by
          rw [take_splice_pre _ _ _ (by rw [hZ]; omega), h5, List.take_of_length_le (by omega)]
        have hla : (l.filter (fun x => !p x)).length = a := by rw [List.take_of_length_le (by omega)] at h4; exact h4
        have HT := hide ht
        have HLA := hide hla
        clear h1 h2 h4 h5 h6 hZ ht hla HDA
        go_wp2_with fail
        go_ret
        refine ⟨_, _, a, rfl, ⟨HLA.out, fun _ => ⟨g, 0, rfl, HW.out.lt, fun i y hy => ?_⟩⟩, HBR.out.grown HG.out (by omega) (fun k hk => by have := Option.some.inj hk; omega)⟩
        rw [Nat.zero_add, HW.out.cell]
        have hi := (List.getElem?_eq_some_iff.1 hy).1
        have e := congrArg (fun z => z[i]?) HT.out
        (try simp only at e)
        rw [List.getElem?_take_of_lt (by have := HLA.out; omega), List.getElem?_map, hy] at e
        exact e
end
end Go.Proofs.YtnehkgbdppbhiaaGreat

/- Sorted texts (layer 3): sorting by the library and striking what stands twice gives the one list in which each text stands once, rising. Nothing here speaks of a program. -/
namespace Go.Proofs.YtnehkgbdppbhiaaGreat.Plain
theorem less_lt {a b : List UInt8} : lessS a b = true ↔ a < b := by
  unfold lessS
  induction a generalizing b with
  | nil => cases b with
    | nil => simp [Op.bytesLess]
    | cons y s => simp [Op.bytesLess]
  | cons x r ih =>
    cases b with
    | nil => simp [Op.bytesLess]
    | cons y s => simp [Op.bytesLess, List.cons_lt_cons_iff, ih]
theorem le_not_less {a b : List UInt8} (h : a ≤ b) : lessS b a = false := by
  cases h2 : lessS b a with
  | false => rfl
  | true => exact absurd (less_lt.1 h2) h
theorem less_of_le_ne {a b : List UInt8} (h : a ≤ b) (hne : a ≠ b) : lessS a b = true := by
  cases h2 : lessS a b with
  | true => rfl
  | false => exact absurd (less_total h2 (le_not_less h)) hne
theorem compact_rising {k : List (List UInt8)} (hk : k.Pairwise fun x y => x ≤ y) : Rising (Lib.compact k) ∧ ∀ y, y ∈ Lib.compact k ↔ y ∈ k := by
  have hget : ∀ j (h : j < k.length), k.toArray[j]! = k[j] := fun j h => by simp [h]
  have hle : ∀ i j (hi : i < j) (hj : j < k.length), k[i]'(by omega) ≤ k[j] := fun i j hi hj => List.pairwise_iff_getElem.1 hk i j (by omega) hj hi
  have main : ∀ m, m ≤ k.length → Rising (Lib.compactUpTo k.toArray m) ∧ ∀ y, y ∈ Lib.compactUpTo k.toArray m ↔ ∃ j, ∃ h : j < k.length, j < m ∧ k[j] = y := by
    intro m
    induction m with
    | zero => intro _; exact ⟨by simp [Lib.compactUpTo, Rising], fun y => by simp [Lib.compactUpTo]⟩
    | succ m ih =>
      intro hm
      obtain ⟨h1, h2⟩ := ih (by omega)
      have hmk : m < k.length := by omega
      rw [Lib.compactUpTo_succ, hget m hmk]
      cases hkp : Lib.keeps k.toArray m with
      | true =>
        rw [if_pos rfl]
        refine ⟨List.pairwise_append.2 ⟨h1, List.pairwise_singleton _ _, fun a ha b hb => ?_⟩, fun y => ?_⟩
        · rw [List.mem_singleton] at hb
          subst hb
          obtain ⟨j, hj, hjm, rfl⟩ := (h2 a).1 ha
          simp only [Lib.keeps, decide_eq_true_eq] at hkp
          have hne : k[m] ≠ k[m - 1] := by
            rcases hkp with h0 | h0
            · omega
            · rwa [hget m hmk, hget (m - 1) (by omega)] at h0
          have hb1 : lessS k[m - 1] k[m] = true := less_of_le_ne (hle (m - 1) m (by omega) hmk) (fun e => hne e.symm)
          by_cases hjm1 : j = m - 1
          · subst hjm1; exact hb1
          · by_cases he : k[j] = k[m - 1]
            · rw [he]; exact hb1
            · exact less_trans (less_of_le_ne (hle j (m - 1) (by omega) (by omega)) he) hb1
        · rw [List.mem_append, List.mem_singleton, h2]
          constructor
          · rintro (⟨j, hj, hjm, rfl⟩ | rfl)
            · exact ⟨j, hj, by omega, rfl⟩
            · exact ⟨m, hmk, by omega, rfl⟩
          · rintro ⟨j, hj, hjm, rfl⟩
            by_cases hjm1 : j = m
            · subst hjm1; exact .inr rfl
            · exact .inl ⟨j, hj, by omega, rfl⟩
      | false =>
        rw [if_neg (by simp), List.append_nil]
        refine ⟨h1, fun y => ?_⟩
        rw [h2]
        simp only [Lib.keeps, decide_eq_false_iff_not, not_or, ne_eq, Decidable.not_not] at hkp
        obtain ⟨hm0, he⟩ := hkp
        rw [hget m hmk, hget (m - 1) (by omega)] at he
        constructor
        · rintro ⟨j, hj, hjm, rfl⟩
          exact ⟨j, hj, by omega, rfl⟩
        · rintro ⟨j, hj, hjm, rfl⟩
          by_cases hjm1 : j = m
          · subst hjm1; exact ⟨j - 1, by omega, by omega, he.symm⟩
          · exact ⟨j, hj, by omega, rfl⟩
  obtain ⟨a, b⟩ := main k.length (Nat.le_refl _)
  refine ⟨a, fun y => (b y).trans ⟨fun ⟨j, hj, _, e⟩ => e ▸ List.getElem_mem hj, fun h => ?_⟩⟩
  obtain ⟨j, hj, e⟩ := List.mem_iff_getElem.1 h
  exact ⟨j, hj, hj, e⟩
theorem sortS_lib (l : List (List UInt8)) : Lib.compact (l.mergeSort fun x y => decide (x ≤ y)) = sortS l := by
  have hs : (l.mergeSort fun x y => decide (x ≤ y)).Pairwise fun x y => x ≤ y := by
    have := List.pairwise_mergeSort (le := fun x y : List UInt8 => decide (x ≤ y)) (fun a b c h1 h2 => by simp only [decide_eq_true_eq] at *; exact List.le_trans h1 h2) (fun a b => by simp only [Bool.or_eq_true, decide_eq_true_eq]; exact List.le_total a b) l
    simpa using this
  obtain ⟨a, b⟩ := compact_rising hs
  exact sortS_unique a fun y => (b y).trans (List.mem_mergeSort)
end Go.Proofs.YtnehkgbdppbhiaaGreat.Plain

/- Contracts of slices.Clone, slices.Sort and slices.Compact at strings, in the words of rows of the call's own; and of the program's name.Sort. -/
namespace Go.Proofs.YtnehkgbdppbhiaaGreat
open Go.RowKit Go.Sort Plain

theorem CloneS_any {A : Option Addr} {m c B : Nat} {l : List (List UInt8)} (w : World) (ha : Rd st w B A m l) (hm : m ≤ 1000000) :
    Calls Tryz.prog 109 #[.slice A m c] w (ORet st w 9 m l) := by
  by_cases h0 : m = 0
  · subst h0
    obtain rfl : l = [] := List.eq_nil_of_length_eq_zero ha.len
    cases A with
    | none =>
      refine (Tryz.slices_Clone_string_nil 0 c w).mono ?_
      rintro e w' ⟨rfl, rfl⟩
      exact (Ow.nil_ st _ _ _).ret (below_self _)
    | some a =>
      refine (Tryz.slices_Clone_string_zero a c w).mono ?_
      rintro e w' ⟨v, rfl, hown, _, hbel⟩
      obtain ⟨A', c', rfl, ho⟩ := Ow.of (f := st) (l := []) hown
      exact ho.ret hbel
  · obtain ⟨b, o, rfl, _, hc⟩ := ha.2 (by omega)
    have hl := ha.len
    have hlen : (l.map fun x => (⟨x.toArray⟩ : ByteArray)).length = m := by simp [hl]
    refine (Tryz.slices_Clone_string b o m c (l.map fun x => ⟨x.toArray⟩) w (by omega) (by omega) (fun j hj => ?_)).mono ?_
    · rw [hc j (l[j]'(by omega)) (List.getElem?_eq_getElem (by omega))]
      simp [st, List.getD, show j < l.length by omega]
    · rintro e w' ⟨v, rfl, hown, _, hbel⟩
      have hmap : ((l.map fun x => (⟨x.toArray⟩ : ByteArray)).take m).map (Value.string) = l.map st := by
        rw [List.take_of_length_le (by omega), List.map_map]
        rfl
      rw [hmap] at hown
      obtain ⟨A', c', rfl, ho⟩ := Ow.of (f := st) hown
      exact ho.ret hbel

theorem SortS_own {base g n c : Nat} {l : List (List UInt8)} (w : World) (h : Ow st w base 9 (some ⟨g, 0, none⟩) n c l) (hn : n ≤ 1000000) :
    Calls Tryz.prog 110 #[.slice (some ⟨g, 0, none⟩) n c] w fun e w' => e = .returned (.tuple #[]) ∧ Ow st w' base 9 (some ⟨g, 0, none⟩) n c (l.mergeSort fun x y => decide (x ≤ y)) ∧ w.grownBy w' (some g) := by
  have hl := h.len
  rcases h.2 with ⟨h0, _⟩ | ⟨g', cap, cur, he, hbase, hb, h1, h2, h3, h4⟩
  · cases h0
  · cases he
    subst hl
    refine (Tryz.slices_Sort_string g 0 c l w (holds_of_block hb (by rw [Nat.mul_one] at h4; exact h4)) (Array.getElem?_eq_some_iff.1 hb).1 (by omega)).mono ?_
    rintro e w' ⟨rfl, k, os, rfl⟩
    exact ⟨rfl, ownsRow_sorted (by simp) hbase hb h1 h2 h3, grownBy_sorted _⟩
theorem grow_none (w : World) : grow w #[] = w := by simp [grow]
theorem CompactS_own {base g n c : Nat} {l : List (List UInt8)} (w : World) (h : Ow st w base 9 (some ⟨g, 0, none⟩) n c l) (hn : n ≤ 1000000) :
    Calls Tryz.prog 111 #[.slice (some ⟨g, 0, none⟩) n c] w fun e w' => e = .returned (.slice (some ⟨g, 0, none⟩) (Lib.compact l).length c) ∧ Ow st w' base 9 (some ⟨g, 0, none⟩) (Lib.compact l).length c (Lib.compact l) ∧ w.grownBy w' (some g) := by
  have hl := h.len
  have hcap := h.cap
  rcases h.2 with ⟨h0, _⟩ | ⟨g', cap, cur, he, hbase, hb, h1, h2, h3, h4⟩
  · cases h0
  · cases he
    subst hl
    have hle := Lib.compact_length_le l
    refine (Tryz.slices_Compact_string g 0 c l w (holds_of_block hb (by rw [Nat.mul_one] at h4; exact h4)) (by omega) hcap).mono ?_
    rintro e w' ⟨rfl, q, rfl⟩
    have ho : Ow st (grow (putRow encStr (Sort.ahead w q) g 0 (Lib.compact l ++ List.replicate (l.length - (Lib.compact l).length) []).toArray) #[]) base 9 (some ⟨g, 0, none⟩) l.length c (Lib.compact l ++ List.replicate (l.length - (Lib.compact l).length) []) :=
      ownsRow_sorted (by simp; omega) hbase hb h1 h2 h3
    have hg := grownBy_sorted (w := w) (g := g) (n := q) (os := #[]) (Lib.compact l ++ List.replicate (l.length - (Lib.compact l).length) []).toArray
    rw [grow_none] at ho hg
    have := ho.cut hle (by simp)
    rw [List.take_left'] at this
    · exact ⟨rfl, this, hg⟩
    · rfl

theorem NSort_any {A : Option Addr} {m c : Nat} {l : List (List UInt8)} (w : World) (ha : Rd st w w.heap.size A m l) (hm : m ≤ 1000000) :
    Calls Tryz.prog 66 #[.slice A m c] w (ORet st w 9 (sortS l).length (sortS l)) := by
  have hl := ha.len
  have HA := hide ha
  clear ha
  by_cases h0 : m = 0
  · subst h0
    obtain rfl : l = [] := List.eq_nil_of_length_eq_zero hl
    go_enter Tryz.func66, Tryz.ntmps66
    go_wp2_with fail
    refine (CloneS_any _ HA.out (by omega)).mono ?_
    rintro e w1 ⟨A1, c1, rfl, hown, hbel⟩
    have HO := hide hown
    have HB := hide hbel
    clear hown hbel
    go_wp2_with fail
    refine (Tryz.slices_Sort_string_none _ _ _).mono ?_
    rintro e w' ⟨rfl, rfl⟩
    go_wp2_with fail
    refine (Tryz.slices_Compact_string_empty _ _ _).mono ?_
    rintro e w'' ⟨rfl, rfl⟩
    go_wp2_with fail
    go_ret
    exact HO.out.ret HB.out
  · have hm0 : 0 < m := by omega
    clear h0
    go_enter Tryz.func66, Tryz.ntmps66
    go_wp2_with fail
    refine (CloneS_any _ HA.out hm).mono ?_
    rintro e w1 ⟨A1, c1, rfl, hown, hbel⟩
    obtain ⟨g, rfl, hbase, _⟩ := hown.at_ hm0
    have HO := hide hown
    have HB := hide hbel
    have HG := hide hbase
    clear hown hbel hbase
    go_wp2_with fail
    refine (SortS_own _ HO.out hm).mono ?_
    rintro e w2 ⟨rfl, hown, hgr⟩
    have HO2 := hide hown
    have HB2 := hide (HB.out.grown hgr HB.out.size (fun j hj => by cases hj; exact HG.out))
    clear hown hgr
    go_wp2_with fail
    refine (CompactS_own _ HO2.out hm).mono ?_
    rw [sortS_lib]
    rintro e w3 ⟨rfl, hown, hgr⟩
    have HO3 := hide hown
    have HB3 := hide (HB2.out.grown hgr HB2.out.size (fun j hj => by cases hj; exact HG.out))
    clear hown hgr
    go_wp2_with fail
    go_ret
    exact HO3.out.ret HB3.out
end Go.Proofs.YtnehkgbdppbhiaaGreat

