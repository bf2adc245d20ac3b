/- The contract of the reference's crash (layer 5). -/
import Derived.Test.YtnjmddmiebofeaaRefDevC
namespace Go.Proofs.Ytnjmddmiebofeaa
open Go.RowKit Plain

/-- A write laid over sectors. -/
def layS (wait : List (Int × List UInt8)) (s : List (List UInt8)) (j : Nat) : List (List UInt8) := s.set (wait.getD j (0, [])).1.toNat (wait.getD j (0, [])).2
/-- The sectors behind a failure, the first k writes looked at. -/
def crashTo (safe : List (List UInt8)) (wait : List (Int × List UInt8)) (kept : List Bool) (k : Nat) : List (List UInt8) := (List.range k).foldl (fun s j => if kept.getD j false = true then layS wait s j else s) safe
theorem crashTo_succ (safe : List (List UInt8)) (wait : List (Int × List UInt8)) (kept : List Bool) (k : Nat) : crashTo safe wait kept (k + 1) = if kept.getD k false = true then layS wait (crashTo safe wait kept k) k else crashTo safe wait kept k := by
  simp [crashTo, List.range_succ]
/-- The sectors behind a flush, the first k writes looked at. -/
def flushTo (safe : List (List UInt8)) (wait : List (Int × List UInt8)) (k : Nat) : List (List UInt8) := (List.range k).foldl (layS wait) safe
theorem flushTo_succ (safe : List (List UInt8)) (wait : List (Int × List UInt8)) (k : Nat) : flushTo safe wait (k + 1) = layS wait (flushTo safe wait k) k := by
  simp [flushTo, List.range_succ]
theorem layS_length (wait : List (Int × List UInt8)) (s : List (List UInt8)) (j : Nat) : (layS wait s j).length = s.length := by simp [layS]
theorem RdE.get_bool {w : World} {D : Nat → Prop} {A : Option Addr} {n : Nat} {l : List Bool} (h : RdE Enc.bool w D A n l) {i : Nat} {x : Bool} (hx : l[i]? = some x) : ∃ b o, A = some ⟨b, o, none⟩ ∧ D b ∧ w.cell? ⟨b, o + i, none⟩ = some (.bool x) := by
  have hi := (List.getElem?_eq_some_iff.1 hx).1
  obtain ⟨b, o, e, hb, hc⟩ := h.2 (by have := h.1; omega)
  obtain ⟨cs, hcs, hcell⟩ := hc i x hx
  obtain rfl : cs = [.bool x] := hcs
  refine ⟨b, o, e, hb, ?_⟩
  have := hcell 0 (.bool x) rfl
  rwa [show i * Enc.bool.k + 0 = i from by show i * 1 + 0 = i; omega] at this
/-- A block that holds no byte. -/
def NoByte (w : World) (g : Nat) : Prop := ∀ o x, w.cell? ⟨g, o, none⟩ ≠ some (.int .u8 x)
section
variable {w w' : World} {D : Nat → Prop} {A : Option Addr} {n g : Nat}
theorem RowL.noByte {t : TypeId} {cs : List Value} (h : RowL w g t cs) (hc : ∀ v ∈ cs, ∀ x, v ≠ .int .u8 x) : NoByte w g := fun o x e => by
  rw [h.cell] at e
  exact hc _ (List.mem_of_getElem? e) x rfl
theorem RdE.notin_byte {l : List UInt8} (h : RdE Enc.byte w D A n l) (hg : NoByte w g) : RdE Enc.byte w (fun b => D b ∧ b ≠ g) A n l := ⟨h.1, fun hn => by
  obtain ⟨b, o, e, hb, hc⟩ := h.2 hn
  refine ⟨b, o, e, ⟨hb, fun hbg => ?_⟩, fun i x hx => hc i x hx⟩
  subst hbg
  obtain ⟨cs, hR, hcell⟩ := hc 0 _ (List.getElem?_eq_getElem (by have := h.1; omega))
  obtain rfl : cs = [bv _] := hR
  exact hg _ _ (hcell 0 _ rfl)⟩
theorem RdE.notin_bytes {l : List (List UInt8)} (h : RdE Enc.bytes w D A n l) (hA : 0 < n → ∀ a, A = some a → a.block ≠ g) (hg : NoByte w g) : RdE Enc.bytes w (fun b => D b ∧ b ≠ g) A n l := ⟨h.1, fun hn => by
  obtain ⟨b, o, e, hb, hc⟩ := h.2 hn
  refine ⟨b, o, e, ⟨hb, hA hn _ e⟩, fun i x hx => ?_⟩
  obtain ⟨cs, ⟨A1, n1, c1, hcs, hle, hr⟩, hcell⟩ := hc i x hx
  exact ⟨cs, ⟨A1, n1, c1, hcs, hle, hr.notin_byte hg⟩, hcell⟩⟩
theorem RdE.notin_pens {l : List (Int × List UInt8)} (h : RdE penE w D A n l) (hA : 0 < n → ∀ a, A = some a → a.block ≠ g) (hg : NoByte w g) : RdE penE w (fun b => D b ∧ b ≠ g) A n l := ⟨h.1, fun hn => by
  obtain ⟨b, o, e, hb, hc⟩ := h.2 hn
  refine ⟨b, o, e, ⟨hb, hA hn _ e⟩, fun i x hx => ?_⟩
  obtain ⟨cs, ⟨u, v, h0, h1, ⟨A1, n1, c1, hcs, hle, hr⟩⟩, hcell⟩ := hc i x hx
  exact ⟨cs, ⟨u, v, h0, h1, ⟨A1, n1, c1, hcs, hle, hr.notin_byte hg⟩⟩, hcell⟩⟩
theorem Kept.set_ (h : Kept D w w') (hD : ∀ b, D b → b ≠ g) (i : Nat) (u : Value) : Kept D w (w'.setCell ⟨g, i, none⟩ u) := fun b hb => (Below.heap_setCell w' ⟨g, i, none⟩ u b (hD b hb)).trans (h b hb)
theorem Und.set {b : Nat} (h : Und w b) (hb : b ≠ g) (i : Nat) (u : Value) : Und (w.setCell ⟨g, i, none⟩ u) b := h.eq (by simp [World.setCell]) (Below.heap_setCell w ⟨g, i, none⟩ u b hb)
theorem Kept.refl (D : Nat → Prop) (w : World) : Kept D w w := fun _ _ => rfl
theorem RdE.off {α : Type} {E : Enc α} {B : Nat} {l : List α} (h : RdE E w (Under B) A n l) (hA : 0 < n → B ≤ g) : 0 < n → ∀ a, A = some a → a.block ≠ g := fun hn a ha => by
  obtain ⟨b, o, e, hb, _⟩ := h.2 hn
  rw [e] at ha
  cases ha
  have := hA hn
  unfold Under at hb
  show b ≠ g
  omega
theorem OwE.far {α : Type} {E : Enc α} {base e c B : Nat} {l : List α} (h : OwE E w base e A n c l) (hg : g < base) : 0 < n → ∀ a, A = some a → a.block < B ∨ g < a.block := fun hn a ha => by
  obtain ⟨g', e', hb, _⟩ := h.at_ hn
  rw [e'] at ha
  cases ha
  right
  show g < g'
  omega
theorem OwE.off {α : Type} {E : Enc α} {base e c : Nat} {l : List α} (h : OwE E w base e A n c l) (hg : g < base) : 0 < n → ∀ a, A = some a → a.block ≠ g := fun hn a ha => by
  obtain ⟨g', e', hb, _⟩ := h.at_ hn
  rw [e'] at ha
  cases ha
  show g' ≠ g
  omega
end
/-- Cells of a new disk. -/
def d0 : List Value := [.slice none 0 0, .slice none 0 0, .int .i64 0, .int .i64 0, .int .i64 0, .bool false]
/-- Returned is a disk. -/
def DRet (w : World) (B n : Nat) (safe : List (List UInt8)) (lf wn fl : Int) (x : Ending) (w' : World) : Prop := ∃ A c, x = .returned (dV (.slice A n c) (.slice none 0 0) lf wn fl false) ∧ n ≤ c ∧ RdE Enc.bytes w' (Und w') A n safe ∧ (0 < n → ∀ a, A = some a → a.block < B ∨ w.heap.size ≤ a.block) ∧ Below w.heap.size w w'

set_option maxHeartbeats 3200000 in
theorem RDCrash_any {w : World} {A A2 A3 : Option Addr} {n c m c2 m3 c3 B : Nat} {safe : List (List UInt8)} {wait : List (Int × List UInt8)} {kept : List Bool} (lf wn fl : Int) (off : Bool) (hB : B ≤ w.heap.size) (hs : RdE Enc.bytes w (Und w) A n safe) (hsb : 0 < n → ∀ a, A = some a → a.block < B) (hnc : n ≤ c) (hw : RdE penE w (Und w) A2 m wait) (hk : RdE Enc.bool w (Under w.heap.size) A3 m3 kept) (hn : n ≤ 1000000) (hm : m ≤ 1000000) (hat : ∀ p ∈ wait, 0 ≤ p.1 ∧ p.1 < n) :
    Calls Try.prog 49 #[.agg #[.slice A n c, .slice A2 m c2, .int .i64 lf, .int .i64 wn, .int .i64 fl, .bool off], .slice A3 m3 c3] w (DRet w B n (crashTo safe wait kept m) (-1) wn fl) := by
  have hwl := hw.len
  have hkl := hk.len
  have HS := hide hs
  have HNC := hide hnc
  clear hs hnc
  go_enter Try.func49, Try.ntmps49
  go_wp2_with fail
  go_loopw [5, 6] (fun v iv wr => ∃ (k : Nat) (A1 : Option Addr) (c1 : Nat), k ≤ m ∧ iv = .int .i64 k ∧ v = .slice A1 n c1 ∧ n ≤ c1 ∧ RdE Enc.bytes wr (Und wr) A1 n (crashTo safe wait kept k) ∧ (wr.cell? ⟨w.heap.size, 1, none⟩ = some (.slice A2 m c2) ∧ wr.cell? ⟨w.heap.size, 3, none⟩ = some (.int .i64 wn) ∧ wr.cell? ⟨w.heap.size, 4, none⟩ = some (.int .i64 fl)) ∧ (0 < n → ∀ a, A1 = some a → a.block < B ∨ w.heap.size + 1 < a.block) ∧ RowL wr (w.heap.size + 1) 31 d0 ∧ Below w.heap.size w wr ∧ w.heap.size + 1 < wr.heap.size) (fun _ iv _ => m - (intOf iv).toNat)
  case atStart =>
    refine ⟨0, _, _, by omega, rfl, rfl, HNC.out, HS.out.ond (below_new (below_new (below_self w) _) _), ⟨by simp, by simp, by simp⟩, (fun hn a ha => .inl (hsb hn a ha)), ?_, below_new (below_new (below_self w) _) _, by simp⟩
    have := RowL.new (w.alloc (.cells #[.slice A n c, .slice A2 m c2, .int .i64 lf, .int .i64 wn, .int .i64 fl, .bool off] 31)) 31 d0
    simpa [d0] using this
  case round =>
    obtain ⟨k, A1, c1, hkm, rfl, rfl, hnc1, hr1, ⟨k1, k3, k4⟩, hoff, hrow, hbel, hsz⟩ := hrel
    by_cases hlt : k < m
    · obtain ⟨p, hp⟩ : ∃ p, wait[k]? = some p := ⟨_, List.getElem?_eq_getElem (by omega)⟩
      obtain ⟨hp0, hpn⟩ := hat p (List.mem_of_getElem? hp)
      obtain ⟨b2, o2, rfl, hb2, hp1, A4, n4, c4, hp2, hnc4, hr4⟩ := hw.get_int_list hp
      obtain ⟨q, hq⟩ : ∃ q : Nat, p.1 = q := ⟨p.1.toNat, by omega⟩
      rw [hq] at hp1 hpn
      have hq1 := cell_on hp1 hbel hb2.1
      have hq2 := cell_on hp2 hbel hb2.1
      have hlay : layS wait (crashTo safe wait kept k) k = (crashTo safe wait kept k).set q p.2 := by
        unfold layS
        simp [List.getD, hp, hq]
      have hsn := crashTo_succ safe wait kept k
      rw [hlay] at hsn
      have HB := hide hbel
      have HR := hide hr1
      have HRW := hide hrow
      have HOF := hide hoff
      clear hoff
      by_cases hk3 : k < m3
      · obtain ⟨y, hy⟩ : ∃ y, kept[k]? = some y := ⟨_, List.getElem?_eq_getElem (by omega)⟩
        obtain ⟨b3, o3, rfl, hb3, hy1⟩ := hk.get_bool hy
        have hyw := cell_on hy1 hbel hb3
        have hgd : kept.getD k false = y := by simp [List.getD, hy]
        rw [hgd] at hsn
        cases y with
        | true =>
          simp only [if_true] at hsn
          have HSN := hide hsn
          have HR4 := hide (hr4.mono (Kept.of_below hbel fun _ h => h.1) (D' := Und wr) fun _ h => h.on hbel)
          clear hsn hlay hgd hbel hr1 hr4 hrow hp hp1 hp2
          go_wp2_with fail
          refine (RDLay_any HR.out HR4.out hnc4 (by omega) hn).mono ?_
          rintro e w1 ⟨A5, c5, rfl, hown, hbel2⟩
          have hcap := hown.cap
          have HRD := hide (hown.rd (by decide))
          have HOF2 := hide (hown.far (g := w.heap.size + 1) (B := B) hsz)
          have j1 := cell_on k1 hbel2 (by omega)
          have j3 := cell_on k3 hbel2 (by omega)
          have j4 := cell_on k4 hbel2 (by omega)
          have HRW2 := hide ((hbel2.block _ hsz).trans HRW.out)
          have HB2 := hide (below_step HB.out hbel2)
          have hs2 := hbel2.size
          clear hown hbel2
          go_wp2_with fail
          go_roundw
          case rel => exact ⟨k + 1, _, _, by omega, by go_num, rfl, hcap, by rw [HSN.out]; exact HRD.out, ⟨j1, j3, j4⟩, HOF2.out, HRW2.out, HB2.out, by omega⟩
          case measure => simp [intOf]; omega
        | false =>
          simp only [Bool.false_eq_true, if_false] at hsn
          have HSN := hide hsn
          clear hsn hlay hgd hbel hr1 hr4 hrow hp hp1 hp2
          go_wp2_with fail
          go_roundw
          case rel => exact ⟨k + 1, _, _, by omega, by go_num, rfl, hnc1, by rw [HSN.out]; exact HR.out, ⟨k1, k3, k4⟩, HOF.out, HRW.out, HB.out, hsz⟩
          case measure => simp [intOf]; omega
      · have hgd : kept.getD k false = false := by simp [List.getD, List.getElem?_eq_none (show kept.length ≤ k by omega)]
        rw [hgd] at hsn
        simp only [Bool.false_eq_true, if_false] at hsn
        have HSN := hide hsn
        clear hsn hlay hgd hbel hr1 hr4 hrow hp hp1 hp2
        go_wp2_with fail
        go_roundw
        case rel => exact ⟨k + 1, _, _, by omega, by go_num, rfl, hnc1, by rw [HSN.out]; exact HR.out, ⟨k1, k3, k4⟩, HOF.out, HRW.out, HB.out, hsz⟩
        case measure => simp [intOf]; omega
    · obtain rfl : k = m := by omega
      have hr2 := hr1.notin_bytes (g := w.heap.size + 1) (fun hn a ha => by have := hoff hn a ha; omega) (hrow.noByte (by intro v hv x e; subst e; simp [d0] at hv))
      have hr3 : RdE Enc.bytes ((((((wr.setCell ⟨w.heap.size + 1, 0, none⟩ (.slice A1 n c1)).setCell ⟨w.heap.size + 1, 1, none⟩ (.slice none 0 0)).setCell ⟨w.heap.size + 1, 2, none⟩ (.int .i64 (-1))).setCell ⟨w.heap.size + 1, 3, none⟩ (.int .i64 wn)).setCell ⟨w.heap.size + 1, 4, none⟩ (.int .i64 fl)).setCell ⟨w.heap.size + 1, 5, none⟩ (.bool false)) (Und ((((((wr.setCell ⟨w.heap.size + 1, 0, none⟩ (.slice A1 n c1)).setCell ⟨w.heap.size + 1, 1, none⟩ (.slice none 0 0)).setCell ⟨w.heap.size + 1, 2, none⟩ (.int .i64 (-1))).setCell ⟨w.heap.size + 1, 3, none⟩ (.int .i64 wn)).setCell ⟨w.heap.size + 1, 4, none⟩ (.int .i64 fl)).setCell ⟨w.heap.size + 1, 5, none⟩ (.bool false))) A1 n (crashTo safe wait kept k) :=
        hr2.mono (((((((Kept.refl _ wr).set_ (fun _ h => h.2) _ _).set_ (fun _ h => h.2) _ _).set_ (fun _ h => h.2) _ _).set_ (fun _ h => h.2) _ _).set_ (fun _ h => h.2) _ _).set_ (fun _ h => h.2) _ _) (fun _ h => (((((h.1.set h.2 _ _).set h.2 _ _).set h.2 _ _).set h.2 _ _).set h.2 _ _).set h.2 _ _)
      have HR3 := hide hr3
      have hof3 : 0 < n → ∀ a, A1 = some a → a.block < B ∨ w.heap.size ≤ a.block := fun hn a ha => by have := hoff hn a ha; omega
      have HOF3 := hide hof3
      clear hr2 hr3 hoff hof3
      have HB := hide hbel
      have r0 : wr.cell? ⟨w.heap.size + 1, 0, none⟩ = some (.slice none 0 0) := hrow.cell 0
      have r1 : wr.cell? ⟨w.heap.size + 1, 1, none⟩ = some (.slice none 0 0) := hrow.cell 1
      have r2 : wr.cell? ⟨w.heap.size + 1, 2, none⟩ = some (.int .i64 0) := hrow.cell 2
      have r3 : wr.cell? ⟨w.heap.size + 1, 3, none⟩ = some (.int .i64 0) := hrow.cell 3
      have r4 : wr.cell? ⟨w.heap.size + 1, 4, none⟩ = some (.int .i64 0) := hrow.cell 4
      have r5 : wr.cell? ⟨w.heap.size + 1, 5, none⟩ = some (.bool false) := hrow.cell 5
      have f0 := hrow.frozen 0
      have f1 := hrow.frozen 1
      have f2 := hrow.frozen 2
      have f3 := hrow.frozen 3
      have f4 := hrow.frozen 4
      have f5 := hrow.frozen 5
      clear hbel hr1 hrow
      go_wp2_with fail
      have hb : Below w.heap.size w ((((((wr.setCell ⟨w.heap.size + 1, 0, none⟩ (.slice A1 n c1)).setCell ⟨w.heap.size + 1, 1, none⟩ (.slice none 0 0)).setCell ⟨w.heap.size + 1, 2, none⟩ (.int .i64 (-1))).setCell ⟨w.heap.size + 1, 3, none⟩ (.int .i64 wn)).setCell ⟨w.heap.size + 1, 4, none⟩ (.int .i64 fl)).setCell ⟨w.heap.size + 1, 5, none⟩ (.bool false)) := (((((HB.out.setCell (by simp) _).setCell (by simp) _).setCell (by simp) _).setCell (by simp) _).setCell (by simp) _).setCell (by simp) _
      exact bodyPost_ret (v := dV (.slice A1 n c1) (.slice none 0 0) (-1) wn fl false) (by simp [results, Try.results49, go_sem, dV, r0, r1, r2, r3, r4, r5]) rfl ⟨_, _, rfl, hnc1, HR3.out, HOF3.out, hb⟩
end Go.Proofs.Ytnjmddmiebofeaa
