/- Steps of the laws of layer 5, and the contract of their do. -/
import Derived.Test.YtnjmddmiebofeaaDevL
namespace Go.Proofs.Ytnjmddmiebofeaa
open Go.RowKit Plain

/-- A call. -/
structure StepV where
  dd : Int
  at_ : Int
  bytes : List UInt8
  kept : List Bool
def badAt (s : DSt) (i : Int) : Bool := decide (i < 0) || decide ((s.safe.length : Int) ≤ i)
def armD (s : DSt) (i : Int) : DSt := { s with armed := decide (0 ≤ i), left := i }
/-- The disk behind a call. -/
def stepD (s : DSt) (t : StepV) : DSt :=
  if t.dd = 1 then (if badAt s t.at_ = true then s else if t.bytes.length ≠ 64 then s else if fails s.armed s.off s.left = true then dark s else writeD s t.at_.toNat t.bytes)
  else if t.dd = 2 then (if fails s.armed s.off s.left = true then dark s else flushD s)
  else if t.dd = 3 then armD s t.at_
  else if t.dd = 4 then crashD s t.kept
  else s
/-- What it tells: the error. -/
def stepK (s : DSt) (t : StepV) : Int :=
  if t.dd = 1 then (if badAt s t.at_ = true then 3 else if t.bytes.length ≠ 64 then 1 else if fails s.armed s.off s.left = true then 4 else 0)
  else if t.dd = 2 then (if fails s.armed s.off s.left = true then 4 else 0)
  else if t.dd = 3 then 0
  else if t.dd = 4 then 0
  else if badAt s t.at_ = true then 3 else if s.off = true then 4 else 0
/-- And what is read. -/
def stepO (s : DSt) (t : StepV) : List UInt8 :=
  if t.dd = 1 ∨ t.dd = 2 ∨ t.dd = 3 ∨ t.dd = 4 then [] else if badAt s t.at_ = true then [] else if s.off = true then [] else s.last.getD t.at_.toNat []
def DoRet (base : Nat) (w : World) (dp : Nat) (s : DSt) (l : List UInt8) (k : Int) (x : Ending) (w' : World) : Prop := ∃ A n c, x = .returned (.tuple #[.slice A n c, .int .i64 k]) ∧ Bs w' w'.heap.size A n l ∧ DK w' base dp s ∧ DFr base w w'
theorem DArm_dk {w : World} {base dp : Nat} {s : DSt} (h : DK w base dp s) (i : Int) : Calls Try.prog 48 #[dptr dp, .int .i64 i] w (fun e w' => e = .returned (.tuple #[]) ∧ DK w' base dp (armD s i) ∧ DFr base w w') := by
  obtain ⟨gs, cs, gl, cl, A, c, hne, hbd, hr, hs, hl, hw⟩ := h
  refine (DArm_any hr i).mono ?_
  rintro e w' ⟨he, hr', hg, _⟩
  exact ⟨he, DK.head (s := armD s i) hne hbd hs hl hw hr hg hr', DFr.of_grown hg hbd hr (.inr (.inl rfl))⟩
theorem badAt_no {s : DSt} {i : Int} (h : badAt s i = false) : 0 ≤ i ∧ i < s.safe.length := by
  unfold badAt at h
  rw [Bool.or_eq_false_iff, decide_eq_false_iff_not, decide_eq_false_iff_not] at h
  omega
theorem badAt_yes {s : DSt} {i : Int} (h : badAt s i = true) : i < 0 ∨ (s.safe.length : Int) ≤ i := by
  unfold badAt at h
  rwa [Bool.or_eq_true, decide_eq_true_eq, decide_eq_true_eq] at h
set_option maxRecDepth 100000 in
set_option maxHeartbeats 1600000 in
theorem do_w_range {w : World} {base dp n1 k1 n2 k2 : Nat} {A1 A2 : Option Addr} {s : DSt} {at_ : Int} (h : DK w base dp s) (hi : badAt s at_ = true) :
    Calls Try.prog 10 #[dptr dp, .agg #[.int .i64 1, .int .i64 at_, .slice A1 n1 k1, .slice A2 n2 k2]] w (DoRet base w dp (s) ([]) 3) := by
  have hal := below_new (below_self w) (.cells #[Value.int .i64 1, Value.int .i64 at_, Value.slice A1 n1 k1, Value.slice A2 n2 k2] 35)
  have HKb := hide (h.below hal)
  have HFb : Hid (DFr base w (w.alloc (.cells #[Value.int .i64 1, Value.int .i64 at_, Value.slice A1 n1 k1, Value.slice A2 n2 k2] 35))) := hide (DFr.of_below hal)
  have HI := hide (badAt_yes hi)
  clear h hal hi
  go_enter Try.func10, Try.ntmps10
  go_wp2_with fail
  refine (DWrite_range HKb.out HI.out).mono ?_
  rintro e w1 ⟨rfl, hdk, hfr⟩
  have HK1 := hide hdk
  have HF1 := hide hfr
  clear hdk hfr
  go_wp2_with fail
  go_ret2
  exact ⟨_, _, _, rfl, Bs.none_ _ _ _, HK1.out, HFb.out.trans HF1.out⟩
set_option maxRecDepth 100000 in
set_option maxHeartbeats 1600000 in
theorem do_w_arg {w : World} {base dp n1 k1 n2 k2 : Nat} {A1 A2 : Option Addr} {s : DSt} {at_ : Int} (h : DK w base dp s) (hi : badAt s at_ = false) (hm : n1 ≠ 64) :
    Calls Try.prog 10 #[dptr dp, .agg #[.int .i64 1, .int .i64 at_, .slice A1 n1 k1, .slice A2 n2 k2]] w (DoRet base w dp (s) ([]) 1) := by
  have hal := below_new (below_self w) (.cells #[Value.int .i64 1, Value.int .i64 at_, Value.slice A1 n1 k1, Value.slice A2 n2 k2] 35)
  have HKb := hide (h.below hal)
  have HFb : Hid (DFr base w (w.alloc (.cells #[Value.int .i64 1, Value.int .i64 at_, Value.slice A1 n1 k1, Value.slice A2 n2 k2] 35))) := hide (DFr.of_below hal)
  have HI := hide (badAt_no hi)
  have HM := hide hm
  clear h hal hi hm
  go_enter Try.func10, Try.ntmps10
  go_wp2_with fail
  refine (DWrite_arg HKb.out HI.out.1 HI.out.2 HM.out).mono ?_
  rintro e w1 ⟨rfl, hdk, hfr⟩
  have HK1 := hide hdk
  have HF1 := hide hfr
  clear hdk hfr
  go_wp2_with fail
  go_ret2
  exact ⟨_, _, _, rfl, Bs.none_ _ _ _, HK1.out, HFb.out.trans HF1.out⟩
set_option maxRecDepth 100000 in
set_option maxHeartbeats 1600000 in
theorem do_w_dark {w : World} {base dp k1 n2 k2 : Nat} {A1 A2 : Option Addr} {s : DSt} {at_ : Int} (h : DK w base dp s) (hi : badAt s at_ = false) (hf : fails s.armed s.off s.left = true) :
    Calls Try.prog 10 #[dptr dp, .agg #[.int .i64 1, .int .i64 at_, .slice A1 64 k1, .slice A2 n2 k2]] w (DoRet base w dp (dark s) ([]) 4) := by
  have hal := below_new (below_self w) (.cells #[Value.int .i64 1, Value.int .i64 at_, Value.slice A1 64 k1, Value.slice A2 n2 k2] 35)
  have HKb := hide (h.below hal)
  have HFb : Hid (DFr base w (w.alloc (.cells #[Value.int .i64 1, Value.int .i64 at_, Value.slice A1 64 k1, Value.slice A2 n2 k2] 35))) := hide (DFr.of_below hal)
  have HI := hide (badAt_no hi)
  have HM := hide hf
  clear h hal hi hf
  go_enter Try.func10, Try.ntmps10
  go_wp2_with fail
  refine (DWrite_dark HKb.out HI.out.1 HI.out.2 HM.out).mono ?_
  rintro e w1 ⟨rfl, hdk, hfr⟩
  have HK1 := hide hdk
  have HF1 := hide hfr
  clear hdk hfr
  go_wp2_with fail
  go_ret2
  exact ⟨_, _, _, rfl, Bs.none_ _ _ _, HK1.out, HFb.out.trans HF1.out⟩
set_option maxRecDepth 100000 in
set_option maxHeartbeats 1600000 in
theorem do_w_ok {w : World} {base dp k1 n2 k2 : Nat} {A1 A2 : Option Addr} {s : DSt} {i : Nat} (h : DK w base dp s) (ok : DOk s) (hi : i < s.safe.length) (hf : fails s.armed s.off s.left = false) {x : List UInt8} (hx : RdE Enc.byte w (Far w base) A1 64 x) :
    Calls Try.prog 10 #[dptr dp, .agg #[.int .i64 1, .int .i64 i, .slice A1 64 k1, .slice A2 n2 k2]] w (DoRet base w dp (writeD s i x) ([]) 0) := by
  have hal := below_new (below_self w) (.cells #[Value.int .i64 1, Value.int .i64 i, Value.slice A1 64 k1, Value.slice A2 n2 k2] 35)
  have HKb := hide (h.below hal)
  have HFb : Hid (DFr base w (w.alloc (.cells #[Value.int .i64 1, Value.int .i64 i, Value.slice A1 64 k1, Value.slice A2 n2 k2] 35))) := hide (DFr.of_below hal)
  have HI := hide hi
  have HM := hide hf
  have HO := hide ok
  have HX := hide (HFb.out.rd hx)
  clear h hal hi hf ok hx
  go_enter Try.func10, Try.ntmps10
  go_wp2_with fail
  refine (DWrite_ok HKb.out HO.out HI.out HX.out HM.out).mono ?_
  rintro e w1 ⟨rfl, hdk, hfr⟩
  have HK1 := hide hdk
  have HF1 := hide hfr
  clear hdk hfr
  go_wp2_with fail
  go_ret2
  exact ⟨_, _, _, rfl, Bs.none_ _ _ _, HK1.out, HFb.out.trans HF1.out⟩
set_option maxRecDepth 100000 in
set_option maxHeartbeats 1600000 in
theorem do_f_dark {w : World} {base dp n1 k1 n2 k2 : Nat} {A1 A2 : Option Addr} {s : DSt} {at_ : Int} (h : DK w base dp s) (hf : fails s.armed s.off s.left = true) :
    Calls Try.prog 10 #[dptr dp, .agg #[.int .i64 2, .int .i64 at_, .slice A1 n1 k1, .slice A2 n2 k2]] w (DoRet base w dp (dark s) ([]) 4) := by
  have hal := below_new (below_self w) (.cells #[Value.int .i64 2, Value.int .i64 at_, Value.slice A1 n1 k1, Value.slice A2 n2 k2] 35)
  have HKb := hide (h.below hal)
  have HFb : Hid (DFr base w (w.alloc (.cells #[Value.int .i64 2, Value.int .i64 at_, Value.slice A1 n1 k1, Value.slice A2 n2 k2] 35))) := hide (DFr.of_below hal)
  have HM := hide hf
  clear h hal hf
  go_enter Try.func10, Try.ntmps10
  go_wp2_with fail
  refine (DFlush_dark HKb.out HM.out).mono ?_
  rintro e w1 ⟨rfl, hdk, hfr⟩
  have HK1 := hide hdk
  have HF1 := hide hfr
  clear hdk hfr
  go_wp2_with fail
  go_ret2
  exact ⟨_, _, _, rfl, Bs.none_ _ _ _, HK1.out, HFb.out.trans HF1.out⟩
set_option maxRecDepth 100000 in
set_option maxHeartbeats 1600000 in
theorem do_f_ok {w : World} {base dp n1 k1 n2 k2 : Nat} {A1 A2 : Option Addr} {s : DSt} {at_ : Int} (h : DK w base dp s) (ok : DOk s) (hf : fails s.armed s.off s.left = false) :
    Calls Try.prog 10 #[dptr dp, .agg #[.int .i64 2, .int .i64 at_, .slice A1 n1 k1, .slice A2 n2 k2]] w (DoRet base w dp (flushD s) ([]) 0) := by
  have hal := below_new (below_self w) (.cells #[Value.int .i64 2, Value.int .i64 at_, Value.slice A1 n1 k1, Value.slice A2 n2 k2] 35)
  have HKb := hide (h.below hal)
  have HFb : Hid (DFr base w (w.alloc (.cells #[Value.int .i64 2, Value.int .i64 at_, Value.slice A1 n1 k1, Value.slice A2 n2 k2] 35))) := hide (DFr.of_below hal)
  have HM := hide hf
  have HO := hide ok
  clear h hal hf ok
  go_enter Try.func10, Try.ntmps10
  go_wp2_with fail
  refine (DFlush_ok HKb.out HO.out HM.out).mono ?_
  rintro e w1 ⟨rfl, hdk, hfr⟩
  have HK1 := hide hdk
  have HF1 := hide hfr
  clear hdk hfr
  go_wp2_with fail
  go_ret2
  exact ⟨_, _, _, rfl, Bs.none_ _ _ _, HK1.out, HFb.out.trans HF1.out⟩
set_option maxRecDepth 100000 in
set_option maxHeartbeats 1600000 in
theorem do_arm {w : World} {base dp n1 k1 n2 k2 : Nat} {A1 A2 : Option Addr} {s : DSt} {at_ : Int} (h : DK w base dp s)  :
    Calls Try.prog 10 #[dptr dp, .agg #[.int .i64 3, .int .i64 at_, .slice A1 n1 k1, .slice A2 n2 k2]] w (DoRet base w dp (armD s at_) ([]) 0) := by
  have hal := below_new (below_self w) (.cells #[Value.int .i64 3, Value.int .i64 at_, Value.slice A1 n1 k1, Value.slice A2 n2 k2] 35)
  have HKb := hide (h.below hal)
  have HFb : Hid (DFr base w (w.alloc (.cells #[Value.int .i64 3, Value.int .i64 at_, Value.slice A1 n1 k1, Value.slice A2 n2 k2] 35))) := hide (DFr.of_below hal)
  clear h hal
  go_enter Try.func10, Try.ntmps10
  go_wp2_with fail
  refine (DArm_dk HKb.out _).mono ?_
  rintro e w1 ⟨rfl, hdk, hfr⟩
  have HK1 := hide hdk
  have HF1 := hide hfr
  clear hdk hfr
  go_wp2_with fail
  go_ret2
  exact ⟨_, _, _, rfl, Bs.none_ _ _ _, HK1.out, HFb.out.trans HF1.out⟩
set_option maxRecDepth 100000 in
set_option maxHeartbeats 1600000 in
theorem do_crash {w : World} {base dp n1 k1 n2 k2 : Nat} {A1 A2 : Option Addr} {s : DSt} {at_ : Int} (h : DK w base dp s) (ok : DOk s) {kept : List Bool} (hk : RdE Enc.bool w (Far w base) A2 n2 kept) :
    Calls Try.prog 10 #[dptr dp, .agg #[.int .i64 4, .int .i64 at_, .slice A1 n1 k1, .slice A2 n2 k2]] w (DoRet base w dp (crashD s kept) ([]) 0) := by
  have hal := below_new (below_self w) (.cells #[Value.int .i64 4, Value.int .i64 at_, Value.slice A1 n1 k1, Value.slice A2 n2 k2] 35)
  have HKb := hide (h.below hal)
  have HFb : Hid (DFr base w (w.alloc (.cells #[Value.int .i64 4, Value.int .i64 at_, Value.slice A1 n1 k1, Value.slice A2 n2 k2] 35))) := hide (DFr.of_below hal)
  have HO := hide ok
  have HX := hide (HFb.out.rd hk)
  clear h hal ok hk
  go_enter Try.func10, Try.ntmps10
  go_wp2_with fail
  refine (DCrash_any HKb.out HO.out HX.out).mono ?_
  rintro e w1 ⟨rfl, hdk, hfr⟩
  have HK1 := hide hdk
  have HF1 := hide hfr
  clear hdk hfr
  go_wp2_with fail
  go_ret2
  exact ⟨_, _, _, rfl, Bs.none_ _ _ _, HK1.out, HFb.out.trans HF1.out⟩
set_option maxRecDepth 100000 in
set_option maxHeartbeats 1600000 in
theorem do_r_range {w : World} {base dp n1 k1 n2 k2 : Nat} {A1 A2 : Option Addr} {s : DSt} {dd at_ : Int} (h : DK w base dp s) (d1 : (dd == 1) = false) (d2 : (dd == 2) = false) (d3 : (dd == 3) = false) (d4 : (dd == 4) = false) (hi : badAt s at_ = true) :
    Calls Try.prog 10 #[dptr dp, .agg #[.int .i64 dd, .int .i64 at_, .slice A1 n1 k1, .slice A2 n2 k2]] w (DoRet base w dp (s) ([]) 3) := by
  have hal := below_new (below_self w) (.cells #[Value.int .i64 dd, Value.int .i64 at_, Value.slice A1 n1 k1, Value.slice A2 n2 k2] 35)
  have HKb := hide (h.below hal)
  have HFb : Hid (DFr base w (w.alloc (.cells #[Value.int .i64 dd, Value.int .i64 at_, Value.slice A1 n1 k1, Value.slice A2 n2 k2] 35))) := hide (DFr.of_below hal)
  have HI := hide (badAt_yes hi)
  clear h hal hi
  go_enter Try.func10, Try.ntmps10
  go_wp2_with fail
  refine (DRead_range HKb.out HI.out).mono ?_
  rintro e w1 ⟨A5, n5, k5, rfl, hbs, hbel⟩
  have HS1 := hide hbs
  have HK1 := hide (HKb.out.below hbel)
  have HF1 : Hid (DFr base w w1) := hide (HFb.out.trans (DFr.of_below hbel))
  clear hbs hbel
  go_wp2_with fail
  go_ret2
  exact ⟨_, _, _, rfl, HS1.out, HK1.out, HF1.out⟩
set_option maxRecDepth 100000 in
set_option maxHeartbeats 1600000 in
theorem do_r_off {w : World} {base dp n1 k1 n2 k2 : Nat} {A1 A2 : Option Addr} {s : DSt} {dd at_ : Int} (h : DK w base dp s) (d1 : (dd == 1) = false) (d2 : (dd == 2) = false) (d3 : (dd == 3) = false) (d4 : (dd == 4) = false) (hi : badAt s at_ = false) (ho : s.off = true) :
    Calls Try.prog 10 #[dptr dp, .agg #[.int .i64 dd, .int .i64 at_, .slice A1 n1 k1, .slice A2 n2 k2]] w (DoRet base w dp (s) ([]) 4) := by
  have hal := below_new (below_self w) (.cells #[Value.int .i64 dd, Value.int .i64 at_, Value.slice A1 n1 k1, Value.slice A2 n2 k2] 35)
  have HKb := hide (h.below hal)
  have HFb : Hid (DFr base w (w.alloc (.cells #[Value.int .i64 dd, Value.int .i64 at_, Value.slice A1 n1 k1, Value.slice A2 n2 k2] 35))) := hide (DFr.of_below hal)
  have HI := hide (badAt_no hi)
  have HM := hide ho
  clear h hal hi ho
  go_enter Try.func10, Try.ntmps10
  go_wp2_with fail
  refine (DRead_off HKb.out HI.out.1 HI.out.2 HM.out).mono ?_
  rintro e w1 ⟨A5, n5, k5, rfl, hbs, hbel⟩
  have HS1 := hide hbs
  have HK1 := hide (HKb.out.below hbel)
  have HF1 : Hid (DFr base w w1) := hide (HFb.out.trans (DFr.of_below hbel))
  clear hbs hbel
  go_wp2_with fail
  go_ret2
  exact ⟨_, _, _, rfl, HS1.out, HK1.out, HF1.out⟩
set_option maxRecDepth 100000 in
set_option maxHeartbeats 1600000 in
theorem do_r_ok {w : World} {base dp n1 k1 n2 k2 : Nat} {A1 A2 : Option Addr} {s : DSt} {dd : Int} {i : Nat} (h : DK w base dp s) (d1 : (dd == 1) = false) (d2 : (dd == 2) = false) (d3 : (dd == 3) = false) (d4 : (dd == 4) = false) (ok : DOk s) (hi : i < s.safe.length) (ho : s.off = false) {x : List UInt8} (hx : s.last[i]? = some x) :
    Calls Try.prog 10 #[dptr dp, .agg #[.int .i64 dd, .int .i64 i, .slice A1 n1 k1, .slice A2 n2 k2]] w (DoRet base w dp (s) (x) 0) := by
  have hal := below_new (below_self w) (.cells #[Value.int .i64 dd, Value.int .i64 i, Value.slice A1 n1 k1, Value.slice A2 n2 k2] 35)
  have HKb := hide (h.below hal)
  have HFb : Hid (DFr base w (w.alloc (.cells #[Value.int .i64 dd, Value.int .i64 i, Value.slice A1 n1 k1, Value.slice A2 n2 k2] 35))) := hide (DFr.of_below hal)
  have HI := hide hi
  have HM := hide ho
  have HO := hide ok
  have HX := hide hx
  clear h hal hi ho ok hx
  go_enter Try.func10, Try.ntmps10
  go_wp2_with fail
  refine (DRead_ok HKb.out HI.out HM.out HX.out HO.out.n).mono ?_
  rintro e w1 ⟨A5, n5, k5, rfl, hbs, hbel⟩
  have HS1 := hide hbs
  have HK1 := hide (HKb.out.below hbel)
  have HF1 : Hid (DFr base w w1) := hide (HFb.out.trans (DFr.of_below hbel))
  clear hbs hbel
  go_wp2_with fail
  go_ret2
  exact ⟨_, _, _, rfl, HS1.out, HK1.out, HF1.out⟩
theorem do_any {w : World} {base dp n1 k1 n2 k2 : Nat} {A1 A2 : Option Addr} {s : DSt} {dd at_ : Int} {bytes : List UInt8} {kept : List Bool} (h : DK w base dp s) (ok : DOk s) (hb : RdE Enc.byte w (Far w base) A1 n1 bytes) (hk : RdE Enc.bool w (Far w base) A2 n2 kept) :
    Calls Try.prog 10 #[dptr dp, .agg #[.int .i64 dd, .int .i64 at_, .slice A1 n1 k1, .slice A2 n2 k2]] w (DoRet base w dp (stepD s ⟨dd, at_, bytes, kept⟩) (stepO s ⟨dd, at_, bytes, kept⟩) (stepK s ⟨dd, at_, bytes, kept⟩)) := by
  have hbl := hb.len
  by_cases h1 : dd = 1
  · subst h1
    simp only [stepD, stepO, stepK, if_pos, true_or]
    cases hi : badAt s at_ with
    | true => simpa using do_w_range h hi
    | false =>
      by_cases hm : n1 = 64
      · subst hm
        cases hf : fails s.armed s.off s.left with
        | true => simpa [hbl] using do_w_dark h hi hf
        | false =>
          obtain ⟨h0, h2⟩ := badAt_no hi
          obtain ⟨i, rfl⟩ := Int.eq_ofNat_of_zero_le h0
          simpa [hbl] using do_w_ok h ok (by omega) hf hb
      · simpa [hbl, hm] using do_w_arg h hi hm
  by_cases h2 : dd = 2
  · subst h2
    simp only [stepD, stepO, stepK, if_pos, true_or, or_true]
    cases hf : fails s.armed s.off s.left with
    | true => simpa using do_f_dark h hf
    | false => simpa using do_f_ok h ok hf
  by_cases h3 : dd = 3
  · subst h3
    simpa [stepD, stepO, stepK] using do_arm h
  by_cases h4 : dd = 4
  · subst h4
    simpa [stepD, stepO, stepK] using do_crash h ok hk
  have d1 : (dd == 1) = false := by simpa using h1
  have d2 : (dd == 2) = false := by simpa using h2
  have d3 : (dd == 3) = false := by simpa using h3
  have d4 : (dd == 4) = false := by simpa using h4
  simp only [stepD, stepO, stepK, h1, h2, h3, h4, if_false, or_self]
  cases hi : badAt s at_ with
  | true => simpa using do_r_range h d1 d2 d3 d4 hi
  | false =>
    cases ho : s.off with
    | true => simpa using do_r_off h d1 d2 d3 d4 hi ho
    | false =>
      obtain ⟨h0, h5⟩ := badAt_no hi
      obtain ⟨i, rfl⟩ := Int.eq_ofNat_of_zero_le h0
      have hll : s.last.length = s.safe.length := by obtain ⟨gs, cs, gl, cl, A, c, hne, hbd, hr, hs, hl, hw⟩ := h; exact hl.len
      have hx : s.last[i]? = some (s.last.getD i []) := by
        rw [List.getElem?_eq_getElem (by omega)]
        simp [List.getD, show i < s.last.length by omega]
      simpa using do_r_ok h d1 d2 d3 d4 ok (by omega) ho hx
end Go.Proofs.Ytnjmddmiebofeaa
