/- The contract of the reference's Go (layer 5): crash, power, read. -/
import Derived.Test.YtnjmddmiebofeaaRefDevE
import Derived.Test.YtnjmddmiebofeaaPlan
namespace Go.Proofs.Ytnjmddmiebofeaa
open Go.RowKit Plain

theorem RdE.size {α : Type} {E : Enc α} {w : World} {A : Option Addr} {n B B' : Nat} {l : List α} (h : RdE E w (Under B) A n l) (hB : B = B') : RdE E w (Under B') A n l := by subst hB; exact h
theorem RdE.addr {α : Type} {E : Enc α} {w : World} {A : Option Addr} {n B : Nat} {l : List α} (h : RdE E w (Under B) A n l) : 0 < n → ∀ a, A = some a → a.block < B := fun hn a ha => by
  obtain ⟨b, o, e, hb, _⟩ := h.2 hn
  rw [e] at ha
  cases ha
  exact hb
theorem d0_byte {w : World} {g t : Nat} (h : RowL w g t d0) : NoByte w g := h.noByte (by intro v hv x e; subst e; simp [d0] at hv)
set_option maxRecDepth 100000 in
set_option maxHeartbeats 3200000 in
theorem RDGo_crash {w : World} {A A2 AB AK : Option Addr} {n c m c2 nb cb nk ck : Nat} {safe : List (List UInt8)} {wait : List (Int × List UInt8)} {at_ : Int} {off : Bool} {kept : List Bool} (wn fl : Int) (hs : RdE Enc.bytes w (Und w) A n safe) (hnc : n ≤ c) (hw : RdE penE w (Und w) A2 m wait) (_ : m ≤ c2) (lf : Int) (hk : RdE Enc.bool w (Under w.heap.size) AK nk kept) (hn : n ≤ 1000000) (hm : m ≤ 1000000) (hat : ∀ p ∈ wait, 0 ≤ p.1 ∧ p.1 < n) :
    Calls Try.prog 11 #[.agg #[.slice A n c, .slice A2 m c2, .int .i64 lf, .int .i64 wn, .int .i64 fl, .bool off], .agg #[.int .i64 4, .int .i64 at_, .slice AB nb cb, .slice AK nk ck]] w (GRet w n (crashTo safe wait kept m) [] (-1) wn fl false [] 0) := by
  have HS := hide hs
  have HW := hide hw
  have HA := hide hs.plain.addr
  have HK := hide hk
  clear hs hw hk
  go_enter Try.func11, Try.ntmps11
  go_wp2_with fail
  refine (RDCrash_any (B := w.heap.size) lf wn fl off (by simp; omega) (HS.out.ond (below_new (below_new (below_new (below_self w) _) _) _)) HA.out hnc (HW.out.ond (below_new (below_new (below_new (below_self w) _) _) _)) (HK.out.on (below_new (below_new (below_new (below_self w) _) _) _)) hn hm hat).mono ?_
  rintro e w1 ⟨A5, c5, he, hnc5, hr5, hoff, hbel⟩
  unfold dV at he
  subst he
  have hrow : RowL w1 (w.heap.size + 2) 31 d0 := by
    have := RowL.new ((w.alloc (.cells #[.slice A n c, .slice A2 m c2, .int .i64 lf, .int .i64 wn, .int .i64 fl, .bool off] 31)).alloc (.cells #[.int .i64 4, .int .i64 at_, .slice AB nb cb, .slice AK nk ck] 41)) 31 d0
    exact (hbel.block _ (by simp)).trans (by simpa [d0, RowL] using this)
  have hr6 := hr5.notin_bytes (g := w.heap.size + 2) (fun hn a ha => by have := hoff hn a ha; simp at this; omega) (d0_byte hrow)
  have hr7 : RdE Enc.bytes ((((((w1.setCell ⟨w.heap.size + 2, 0, none⟩ (.slice A5 n c5)).setCell ⟨w.heap.size + 2, 1, none⟩ (.slice none 0 0)).setCell ⟨w.heap.size + 2, 2, none⟩ (.int .i64 (-1))).setCell ⟨w.heap.size + 2, 3, none⟩ (.int .i64 wn)).setCell ⟨w.heap.size + 2, 4, none⟩ (.int .i64 fl)).setCell ⟨w.heap.size + 2, 5, none⟩ (.bool false)) (Und ((((((w1.setCell ⟨w.heap.size + 2, 0, none⟩ (.slice A5 n c5)).setCell ⟨w.heap.size + 2, 1, none⟩ (.slice none 0 0)).setCell ⟨w.heap.size + 2, 2, none⟩ (.int .i64 (-1))).setCell ⟨w.heap.size + 2, 3, none⟩ (.int .i64 wn)).setCell ⟨w.heap.size + 2, 4, none⟩ (.int .i64 fl)).setCell ⟨w.heap.size + 2, 5, none⟩ (.bool false))) A5 n (crashTo safe wait kept m) := hr6.mono (((((((Kept.refl _ w1).set_ (fun _ h => h.2) _ _).set_ (fun _ h => h.2) _ _).set_ (fun _ h => h.2) _ _).set_ (fun _ h => h.2) _ _).set_ (fun _ h => h.2) _ _).set_ (fun _ h => h.2) _ _) (fun _ h => ((((((h.1.set h.2 _ _).set h.2 _ _).set h.2 _ _).set h.2 _ _).set h.2 _ _).set h.2 _ _))
  have HR := hide hr7
  have HB := hide (below_step (below_new (below_new (below_new (below_self w) _) _) _) hbel)
  have r0 : w1.cell? ⟨w.heap.size + 2, 0, none⟩ = some (.slice none 0 0) := hrow.cell 0
  have r1 : w1.cell? ⟨w.heap.size + 2, 1, none⟩ = some (.slice none 0 0) := hrow.cell 1
  have r2 : w1.cell? ⟨w.heap.size + 2, 2, none⟩ = some (.int .i64 0) := hrow.cell 2
  have r3 : w1.cell? ⟨w.heap.size + 2, 3, none⟩ = some (.int .i64 0) := hrow.cell 3
  have r4 : w1.cell? ⟨w.heap.size + 2, 4, none⟩ = some (.int .i64 0) := hrow.cell 4
  have r5 : w1.cell? ⟨w.heap.size + 2, 5, none⟩ = some (.bool false) := hrow.cell 5
  have f0 := hrow.frozen 0
  have f1 := hrow.frozen 1
  have f2 := hrow.frozen 2
  have f3 := hrow.frozen 3
  have f4 := hrow.frozen 4
  have f5 := hrow.frozen 5
  have hlt : w.heap.size + 2 < w1.heap.size := by have := hbel.size; simp at this; omega
  clear hr5 hr6 hr7 hrow hbel hoff
  go_wp2_with fail
  have hb : Below w.heap.size w ((((((w1.setCell ⟨w.heap.size + 2, 0, none⟩ (.slice A5 n c5)).setCell ⟨w.heap.size + 2, 1, none⟩ (.slice none 0 0)).setCell ⟨w.heap.size + 2, 2, none⟩ (.int .i64 (-1))).setCell ⟨w.heap.size + 2, 3, none⟩ (.int .i64 wn)).setCell ⟨w.heap.size + 2, 4, none⟩ (.int .i64 fl)).setCell ⟨w.heap.size + 2, 5, none⟩ (.bool false)) := ((((((HB.out.setCell (by simp) _).setCell (by simp) _).setCell (by simp) _).setCell (by simp) _).setCell (by simp) _).setCell (by simp) _)
  exact bodyPost_ret (v := .tuple #[dV (.slice A5 n c5) (.slice none 0 0) (-1) wn fl false, .slice none 0 0, .int .i64 0]) (by simp [results, Try.results11, go_sem, dV, r0, r1, r2, r3, r4, r5]) rfl ⟨_, _, _, _, _, _, _, _, rfl, hnc5, Nat.le_refl _, HR.out, RdE.none_ _ _ _ _, Bs.none_ _ _ _, hb⟩

set_option maxRecDepth 100000 in
set_option maxHeartbeats 3200000 in
theorem RDGo_wpower {w : World} {A A2 AB AK : Option Addr} {n c m c2 nb cb nk ck : Nat} {safe : List (List UInt8)} {wait : List (Int × List UInt8)} {at_ lf : Int} {off : Bool} (wn fl : Int) (hs : RdE Enc.bytes w (Und w) A n safe) (hnc : n ≤ c) (hw : RdE penE w (Und w) A2 m wait) (hmc : m ≤ c2) (h : off = true ∨ lf = 0) (h0 : 0 ≤ at_) (h1 : at_ < n) (h64 : nb = 64) :
    Calls Try.prog 11 #[.agg #[.slice A n c, .slice A2 m c2, .int .i64 lf, .int .i64 wn, .int .i64 fl, .bool off], .agg #[.int .i64 1, .int .i64 at_, .slice AB nb cb, .slice AK nk ck]] w (GRet w n safe wait lf wn fl true [] 4) := by
  have g0 : decide (at_ < 0) = false := by simp; omega
  have g1 : decide ((n : Int) ≤ at_) = false := by simp; omega
  subst h64
  have HS := hide hs
  have HW := hide hw
  clear hs hw
  go_enter Try.func11, Try.ntmps11
  go_wp2_with fail
  refine (RDBurn_off _ h).mono ?_
  rintro e w1 ⟨he, hbel⟩
  unfold dV at he
  subst he
  have hrow : RowL w1 (w.heap.size + 2) 31 d0 := by
    have := RowL.new ((w.alloc (.cells #[.slice A n c, .slice A2 m c2, .int .i64 lf, .int .i64 wn, .int .i64 fl, .bool off] 31)).alloc (.cells #[.int .i64 1, .int .i64 at_, .slice AB 64 cb, .slice AK nk ck] 41)) 31 d0
    exact (hbel.block _ (by simp)).trans (by simpa [d0, RowL] using this)
  have hbox : RowL w1 w.heap.size 31 [.slice A n c, .slice A2 m c2, .int .i64 lf, .int .i64 wn, .int .i64 fl, .bool off] := by
    have := ((RowL.new w 31 [.slice A n c, .slice A2 m c2, .int .i64 lf, .int .i64 wn, .int .i64 fl, .bool off]).grown (World.grownBy_alloc _ (.cells #[.int .i64 1, .int .i64 at_, .slice AB 64 cb, .slice AK nk ck] 41) none) (by simp)).grown (World.grownBy_alloc _ (.cells d0.toArray 31) none) (by simp)
    exact (hbel.block _ (by simp; omega)).trans this
  have r0 : w1.cell? ⟨w.heap.size + 2, 0, none⟩ = some (.slice none 0 0) := hrow.cell 0
  have r1 : w1.cell? ⟨w.heap.size + 2, 1, none⟩ = some (.slice none 0 0) := hrow.cell 1
  have r2 : w1.cell? ⟨w.heap.size + 2, 2, none⟩ = some (.int .i64 0) := hrow.cell 2
  have r3 : w1.cell? ⟨w.heap.size + 2, 3, none⟩ = some (.int .i64 0) := hrow.cell 3
  have r4 : w1.cell? ⟨w.heap.size + 2, 4, none⟩ = some (.int .i64 0) := hrow.cell 4
  have r5 : w1.cell? ⟨w.heap.size + 2, 5, none⟩ = some (.bool false) := hrow.cell 5
  have f0 := hrow.frozen 0
  have f1 := hrow.frozen 1
  have f2 := hrow.frozen 2
  have f3 := hrow.frozen 3
  have f4 := hrow.frozen 4
  have f5 := hrow.frozen 5
  have k0 : w1.cell? ⟨w.heap.size, 0, none⟩ = some (.slice A n c) := hbox.cell 0
  have e0 := hbox.frozen 0
  have k1 : w1.cell? ⟨w.heap.size, 1, none⟩ = some (.slice A2 m c2) := hbox.cell 1
  have e1 := hbox.frozen 1
  have k2 : w1.cell? ⟨w.heap.size, 2, none⟩ = some (.int .i64 lf) := hbox.cell 2
  have e2 := hbox.frozen 2
  have k3 : w1.cell? ⟨w.heap.size, 3, none⟩ = some (.int .i64 wn) := hbox.cell 3
  have e3 := hbox.frozen 3
  have k4 : w1.cell? ⟨w.heap.size, 4, none⟩ = some (.int .i64 fl) := hbox.cell 4
  have e4 := hbox.frozen 4
  have k5 : w1.cell? ⟨w.heap.size, 5, none⟩ = some (.bool off) := hbox.cell 5
  have e5 := hbox.frozen 5
  have hlt : w.heap.size + 2 < w1.heap.size := by have := hbel.size; simp at this; omega
  have HB := hide (below_step (below_new (below_new (below_new (below_self w) _) _) _) hbel)
  clear hrow hbox hbel h
  go_wp2_with fail
  have hb : Below w.heap.size w ((((((((((((w1.setCell ⟨w.heap.size, 0, none⟩ (.slice A n c)).setCell ⟨w.heap.size, 1, none⟩ (.slice A2 m c2)).setCell ⟨w.heap.size, 2, none⟩ (.int .i64 lf)).setCell ⟨w.heap.size, 3, none⟩ (.int .i64 wn)).setCell ⟨w.heap.size, 4, none⟩ (.int .i64 fl)).setCell ⟨w.heap.size, 5, none⟩ (.bool true)).setCell ⟨w.heap.size + 2, 0, none⟩ (.slice A n c)).setCell ⟨w.heap.size + 2, 1, none⟩ (.slice A2 m c2)).setCell ⟨w.heap.size + 2, 2, none⟩ (.int .i64 lf)).setCell ⟨w.heap.size + 2, 3, none⟩ (.int .i64 wn)).setCell ⟨w.heap.size + 2, 4, none⟩ (.int .i64 fl)).setCell ⟨w.heap.size + 2, 5, none⟩ (.bool true)) := ((((((((((((HB.out.setCell (by simp) _).setCell (by simp) _).setCell (by simp) _).setCell (by simp) _).setCell (by simp) _).setCell (by simp) _).setCell (by simp) _).setCell (by simp) _).setCell (by simp) _).setCell (by simp) _).setCell (by simp) _).setCell (by simp) _)
  exact bodyPost_ret (v := .tuple #[dV (.slice A n c) (.slice A2 m c2) lf wn fl true, .slice none 0 0, .int .i64 4]) (by simp [results, Try.results11, go_sem, dV, r0, r1, r2, r3, r4, r5]) rfl ⟨_, _, _, _, _, _, _, _, rfl, hnc, hmc, HS.out.ond hb, HW.out.ond hb, Bs.none_ _ _ _, hb⟩

set_option maxRecDepth 100000 in
set_option maxHeartbeats 3200000 in
theorem RDGo_fpower {w : World} {A A2 AB AK : Option Addr} {n c m c2 nb cb nk ck : Nat} {safe : List (List UInt8)} {wait : List (Int × List UInt8)} {at_ lf : Int} {off : Bool} (wn fl : Int) (hs : RdE Enc.bytes w (Und w) A n safe) (hnc : n ≤ c) (hw : RdE penE w (Und w) A2 m wait) (hmc : m ≤ c2) (h : off = true ∨ lf = 0) :
    Calls Try.prog 11 #[.agg #[.slice A n c, .slice A2 m c2, .int .i64 lf, .int .i64 wn, .int .i64 fl, .bool off], .agg #[.int .i64 2, .int .i64 at_, .slice AB nb cb, .slice AK nk ck]] w (GRet w n safe wait lf wn fl true [] 4) := by
  have HS := hide hs
  have HW := hide hw
  clear hs hw
  go_enter Try.func11, Try.ntmps11
  go_wp2_with fail
  refine (RDBurn_off _ h).mono ?_
  rintro e w1 ⟨he, hbel⟩
  unfold dV at he
  subst he
  have hrow : RowL w1 (w.heap.size + 2) 31 d0 := by
    have := RowL.new ((w.alloc (.cells #[.slice A n c, .slice A2 m c2, .int .i64 lf, .int .i64 wn, .int .i64 fl, .bool off] 31)).alloc (.cells #[.int .i64 2, .int .i64 at_, .slice AB nb cb, .slice AK nk ck] 41)) 31 d0
    exact (hbel.block _ (by simp)).trans (by simpa [d0, RowL] using this)
  have hbox : RowL w1 w.heap.size 31 [.slice A n c, .slice A2 m c2, .int .i64 lf, .int .i64 wn, .int .i64 fl, .bool off] := by
    have := ((RowL.new w 31 [.slice A n c, .slice A2 m c2, .int .i64 lf, .int .i64 wn, .int .i64 fl, .bool off]).grown (World.grownBy_alloc _ (.cells #[.int .i64 2, .int .i64 at_, .slice AB nb cb, .slice AK nk ck] 41) none) (by simp)).grown (World.grownBy_alloc _ (.cells d0.toArray 31) none) (by simp)
    exact (hbel.block _ (by simp; omega)).trans this
  have r0 : w1.cell? ⟨w.heap.size + 2, 0, none⟩ = some (.slice none 0 0) := hrow.cell 0
  have r1 : w1.cell? ⟨w.heap.size + 2, 1, none⟩ = some (.slice none 0 0) := hrow.cell 1
  have r2 : w1.cell? ⟨w.heap.size + 2, 2, none⟩ = some (.int .i64 0) := hrow.cell 2
  have r3 : w1.cell? ⟨w.heap.size + 2, 3, none⟩ = some (.int .i64 0) := hrow.cell 3
  have r4 : w1.cell? ⟨w.heap.size + 2, 4, none⟩ = some (.int .i64 0) := hrow.cell 4
  have r5 : w1.cell? ⟨w.heap.size + 2, 5, none⟩ = some (.bool false) := hrow.cell 5
  have f0 := hrow.frozen 0
  have f1 := hrow.frozen 1
  have f2 := hrow.frozen 2
  have f3 := hrow.frozen 3
  have f4 := hrow.frozen 4
  have f5 := hrow.frozen 5
  have k0 : w1.cell? ⟨w.heap.size, 0, none⟩ = some (.slice A n c) := hbox.cell 0
  have e0 := hbox.frozen 0
  have k1 : w1.cell? ⟨w.heap.size, 1, none⟩ = some (.slice A2 m c2) := hbox.cell 1
  have e1 := hbox.frozen 1
  have k2 : w1.cell? ⟨w.heap.size, 2, none⟩ = some (.int .i64 lf) := hbox.cell 2
  have e2 := hbox.frozen 2
  have k3 : w1.cell? ⟨w.heap.size, 3, none⟩ = some (.int .i64 wn) := hbox.cell 3
  have e3 := hbox.frozen 3
  have k4 : w1.cell? ⟨w.heap.size, 4, none⟩ = some (.int .i64 fl) := hbox.cell 4
  have e4 := hbox.frozen 4
  have k5 : w1.cell? ⟨w.heap.size, 5, none⟩ = some (.bool off) := hbox.cell 5
  have e5 := hbox.frozen 5
  have hlt : w.heap.size + 2 < w1.heap.size := by have := hbel.size; simp at this; omega
  have HB := hide (below_step (below_new (below_new (below_new (below_self w) _) _) _) hbel)
  clear hrow hbox hbel h
  go_wp2_with fail
  have hb : Below w.heap.size w ((((((((((((w1.setCell ⟨w.heap.size, 0, none⟩ (.slice A n c)).setCell ⟨w.heap.size, 1, none⟩ (.slice A2 m c2)).setCell ⟨w.heap.size, 2, none⟩ (.int .i64 lf)).setCell ⟨w.heap.size, 3, none⟩ (.int .i64 wn)).setCell ⟨w.heap.size, 4, none⟩ (.int .i64 fl)).setCell ⟨w.heap.size, 5, none⟩ (.bool true)).setCell ⟨w.heap.size + 2, 0, none⟩ (.slice A n c)).setCell ⟨w.heap.size + 2, 1, none⟩ (.slice A2 m c2)).setCell ⟨w.heap.size + 2, 2, none⟩ (.int .i64 lf)).setCell ⟨w.heap.size + 2, 3, none⟩ (.int .i64 wn)).setCell ⟨w.heap.size + 2, 4, none⟩ (.int .i64 fl)).setCell ⟨w.heap.size + 2, 5, none⟩ (.bool true)) := ((((((((((((HB.out.setCell (by simp) _).setCell (by simp) _).setCell (by simp) _).setCell (by simp) _).setCell (by simp) _).setCell (by simp) _).setCell (by simp) _).setCell (by simp) _).setCell (by simp) _).setCell (by simp) _).setCell (by simp) _).setCell (by simp) _)
  exact bodyPost_ret (v := .tuple #[dV (.slice A n c) (.slice A2 m c2) lf wn fl true, .slice none 0 0, .int .i64 4]) (by simp [results, Try.results11, go_sem, dV, r0, r1, r2, r3, r4, r5]) rfl ⟨_, _, _, _, _, _, _, _, rfl, hnc, hmc, HS.out.ond hb, HW.out.ond hb, Bs.none_ _ _ _, hb⟩

end Go.Proofs.Ytnjmddmiebofeaa
