/- The program's disk (layer 5) in memory; contracts of its reach, draw, Arm, Off, Size, Writes, Flushes, and of all calls of nil. -/
import Derived.Test.YtnjmddmiebofeaaChecked
import Derived.Test.YtnjmddmiebofeaaMemD
import Derived.Test.YtnjmddmiebofeaaMemF
import Derived.IntWalk
namespace Go.Proofs.Ytnjmddmiebofeaa
open Go.RowKit Plain

/-- What a disk holds. -/
structure DSt where
  safe : List (List UInt8)
  last : List (List UInt8)
  wait : List (Int × List UInt8)
  armed : Bool
  off : Bool
  left : Int
  wr : Int
  fl : Int
/-- Is the block one of a disk's memory? -/
def DTag (w : World) (b : Nat) : Prop := ∃ arr t fr, w.heap[b]? = some (.cells arr t fr) ∧ (t = 76 ∨ t = 79 ∨ t = 90)
/-- What is not of the disks' memory from base on. -/
def Far (w : World) (base b : Nat) : Prop := b < w.heap.size ∧ (b < base ∨ ¬ DTag w b)
/-- Nothing but disks' memory, from base on, has turned. -/
structure DFr (base : Nat) (w w' : World) : Prop where
  os : w'.os = w.os
  tape : w'.tape = w.tape
  output : w'.output = w.output
  size : w.heap.size ≤ w'.heap.size
  block : ∀ b, Far w base b → w'.heap[b]? = w.heap[b]?
theorem DFr.refl (base : Nat) (w : World) : DFr base w w := ⟨rfl, rfl, rfl, Nat.le_refl _, fun _ _ => rfl⟩
theorem DTag.of_eq {w w' : World} {b : Nat} (h : w'.heap[b]? = w.heap[b]?) (hd : DTag w' b) : DTag w b := by
  obtain ⟨arr, t, fr, h1, h2⟩ := hd
  exact ⟨arr, t, fr, h ▸ h1, h2⟩
theorem Far.on {base b : Nat} {w w' : World} (hf : Far w base b) (h : DFr base w w') : Far w' base b :=
  ⟨Nat.lt_of_lt_of_le hf.1 h.size, hf.2.elim .inl fun hn => .inr fun hd => hn (hd.of_eq (h.block b hf))⟩
theorem DFr.trans {base : Nat} {a b c : World} (h : DFr base a b) (k : DFr base b c) : DFr base a c :=
  ⟨k.os.trans h.os, k.tape.trans h.tape, k.output.trans h.output, Nat.le_trans h.size k.size, fun i hi => (k.block i (hi.on h)).trans (h.block i hi)⟩
theorem DFr.of_below {base : Nat} {w w' : World} (h : Below w.heap.size w w') : DFr base w w' := ⟨h.os, h.tape, h.output, h.size, fun b hb => h.block b hb.1⟩
theorem DFr.below {base : Nat} {w w' : World} (h : DFr base w w') (hb : base ≤ w.heap.size) : Below base w w' := ⟨h.os, h.tape, h.output, h.size, fun b hlt => h.block b ⟨Nat.lt_of_lt_of_le hlt hb, .inl hlt⟩⟩
theorem DFr.of_grown {base : Nat} {w w' : World} {g t : Nat} {cs : List Value} (h : w.grownBy w' (some g)) (hg : base ≤ g) (hr : RowL w g t cs) (ht : t = 76 ∨ t = 79 ∨ t = 90) : DFr base w w' :=
  ⟨h.os, h.tape, h.output, h.size, fun b hb => h.block b hb.1 (fun e => by cases e; exact hb.2.elim (fun hlt => by omega) (fun hn => hn ⟨_, _, _, hr, ht⟩))⟩
theorem DFr.drew (base : Nat) (w : World) : DFr base w w.drew := ⟨rfl, rfl, rfl, Nat.le_refl _, fun _ _ => rfl⟩
/-- What is not a disk's stays. -/
theorem DFr.kept {base : Nat} {w w' : World} (h : DFr base w w') : Kept (Far w base) w w' := fun b hb => h.block b hb
theorem DFr.rd {α : Type} {E : Enc α} {base n : Nat} {w w' : World} {A : Option Addr} {l : List α} (h : DFr base w w') (hr : RdE E w (Far w base) A n l) : RdE E w' (Far w' base) A n l := hr.mono h.kept fun _ hb => hb.on h
theorem grown_set (w : World) (g i : Nat) (u : Value) : w.grownBy (w.setCell ⟨g, i, none⟩ u) (some g) := ⟨rfl, rfl, rfl, by simp, fun k _ hk => Below.heap_setCell _ _ _ _ (fun e => hk (by rw [e]))⟩

/-- n sectors in a row of the memory from base on. -/
def SecR (w : World) (base g n c : Nat) (l : List (List UInt8)) : Prop := base ≤ g ∧ n ≤ c ∧ c ≤ maxLen ∧ l.length = n ∧ (∀ s ∈ l, s.length = 64) ∧ ∃ cs, RowL w g 76 cs ∧ cs.length = 64 * c ∧ cs.take (64 * n) = bvs l.flatten
def wcells (l : List (Int × List UInt8)) : List Value := l.flatMap fun p => Value.int .i64 p.1 :: bvs p.2
/-- The cells of a disk. -/
def dcells (gs cs gl cl : Nat) (A : Option Addr) (c : Nat) (s : DSt) : List Value :=
  [.slice (some ⟨gs, 0, none⟩) s.safe.length cs, .slice (some ⟨gl, 0, none⟩) s.safe.length cl, .slice A s.wait.length c, .bool s.armed, .bool s.off, .int .i64 s.left, .int .i64 s.wr, .int .i64 s.fl]
/-- A disk at dp, all of it in the memory from base on. -/
def DK (w : World) (base dp : Nat) (s : DSt) : Prop := ∃ gs cs gl cl A c, gs ≠ gl ∧ base ≤ dp ∧ RowL w dp 79 (dcells gs cs gl cl A c s) ∧ SecR w base gs s.safe.length cs s.safe ∧ SecR w base gl s.safe.length cl s.last ∧
  w.ownsRow base 90 65 (.slice A s.wait.length c) s.wait.length (wcells s.wait)
/-- May its numbers be? -/
structure DOk (s : DSt) : Prop where
  n : s.safe.length ≤ 100000
  m : s.wait.length ≤ 100000
  at_ : ∀ p ∈ s.wait, 0 ≤ p.1 ∧ p.1 < s.safe.length ∧ p.2.length = 64
  left0 : s.armed = true → 0 ≤ s.left
  left1 : s.left ≤ 9223372036854775807
  wr : 0 ≤ s.wr ∧ s.wr ≤ 100000
  fl : 0 ≤ s.fl ∧ s.fl ≤ 100000
/-- The pointer to a disk. -/
def dptr (dp : Nat) : Value := .pointer (some ⟨dp, 0, none⟩)
section
variable {w w' : World} {base g n c g' t : Nat} {l : List (List UInt8)}
theorem SecR.keep (h : SecR w base g n c l) (hb : w'.heap[g]? = w.heap[g]?) : SecR w' base g n c l := by
  obtain ⟨h1, h2, h3, h4, h5, cs, h6, h7, h8⟩ := h
  exact ⟨h1, h2, h3, h4, h5, cs, hb.trans h6, h7, h8⟩
theorem SecR.lt (h : SecR w base g n c l) : g < w.heap.size := by
  obtain ⟨_, _, _, _, _, cs, h6, _⟩ := h
  exact h6.lt
theorem ownsRow_keep {base e size n : Nat} {v : Value} {xs : List Value} (h : w.ownsRow base e size v n xs) (hb : ∀ g cs, RowL w g e cs → w'.heap[g]? = w.heap[g]?) : w'.ownsRow base e size v n xs := by
  refine ⟨h.1, ?_⟩
  rcases h.2 with h0 | ⟨g, cap, cur, h1, h2, h3, h4⟩
  · exact .inl h0
  · exact .inr ⟨g, cap, cur, h1, h2, (hb g cur.toList (by simpa [RowL] using h3)).trans h3, h4⟩
theorem DK.below {base dp : Nat} {s : DSt} (h : DK w base dp s) (hb : Below w.heap.size w w') : DK w' base dp s := by
  obtain ⟨gs, cs, gl, cl, A, c, h1, h2, h3, h4, h5, h6⟩ := h
  exact ⟨gs, cs, gl, cl, A, c, h1, h2, (hb.block dp h3.lt).trans h3, h4.keep (hb.block gs h4.lt), h5.keep (hb.block gl h5.lt), ownsRow_keep h6 fun g cs hr => hb.block g hr.lt⟩
theorem DK.drew {base dp : Nat} {s : DSt} (h : DK w base dp s) : DK w.drew base dp s := h
theorem RowL.ne {t t' : Nat} {cs cs' : List Value} (h : RowL w g t cs) (h' : RowL w g' t' cs') (hne : t ≠ t') : g ≠ g' := by
  intro e
  subst e
  have := h.symm.trans h'
  simp at this
  exact hne this.2
/-- The disk's own cells have turned. -/
theorem DK.head {base dp : Nat} {s : DSt} {gs cs gl cl : Nat} {A : Option Addr} {c : Nat} (h0 : gs ≠ gl) (h1 : base ≤ dp) (h4 : SecR w base gs s.safe.length cs s.safe) (h5 : SecR w base gl s.safe.length cl s.last)
    (h6 : w.ownsRow base 90 65 (.slice A s.wait.length c) s.wait.length (wcells s.wait)) {k : List Value} (h3 : RowL w dp 79 k) (hg : w.grownBy w' (some dp)) (hr : RowL w' dp 79 (dcells gs cs gl cl A c s)) : DK w' base dp s := by
  have hk : ∀ g t k', RowL w g t k' → t ≠ 79 → w'.heap[g]? = w.heap[g]? := fun g t k' hgr ht => hg.block g hgr.lt (fun e => by cases e; exact RowL.ne hgr h3 ht rfl)
  refine ⟨gs, cs, gl, cl, A, c, h0, h1, hr, h4.keep ?_, h5.keep ?_, ownsRow_keep h6 fun g k' hgr => hk g _ k' hgr (by decide)⟩
  · obtain ⟨_, _, _, _, _, k', hgr, _⟩ := h4
    exact hk gs _ k' hgr (by decide)
  · obtain ⟨_, _, _, _, _, k', hgr, _⟩ := h5
    exact hk gl _ k' hgr (by decide)
theorem RowL.eight {t : Nat} {a b c d e f g' h' : Value} (h : RowL w g t [a, b, c, d, e, f, g', h']) :
    (w.cell? ⟨g, 0, none⟩ = some a ∧ w.cell? ⟨g, 1, none⟩ = some b ∧ w.cell? ⟨g, 2, none⟩ = some c ∧ w.cell? ⟨g, 3, none⟩ = some d ∧ w.cell? ⟨g, 4, none⟩ = some e ∧ w.cell? ⟨g, 5, none⟩ = some f ∧ w.cell? ⟨g, 6, none⟩ = some g' ∧ w.cell? ⟨g, 7, none⟩ = some h') ∧ (w.frozen? ⟨g, 0, none⟩ = false ∧ w.frozen? ⟨g, 1, none⟩ = false ∧ w.frozen? ⟨g, 2, none⟩ = false ∧ w.frozen? ⟨g, 3, none⟩ = false ∧ w.frozen? ⟨g, 4, none⟩ = false ∧ w.frozen? ⟨g, 5, none⟩ = false ∧ w.frozen? ⟨g, 6, none⟩ = false ∧ w.frozen? ⟨g, 7, none⟩ = false) :=
  ⟨⟨h.cell 0, h.cell 1, h.cell 2, h.cell 3, h.cell 4, h.cell 5, h.cell 6, h.cell 7⟩, h.frozen 0, h.frozen 1, h.frozen 2, h.frozen 3, h.frozen 4, h.frozen 5, h.frozen 6, h.frozen 7⟩
end
set_option maxHeartbeats 800000 in
theorem DReach_no {w : World} {dp n cs : Nat} {L A : Value} {S : Option Addr} {armed off : Bool} {left wr fl : Int} (hr : RowL w dp 79 [.slice S n cs, L, A, .bool armed, .bool off, .int .i64 left, .int .i64 wr, .int .i64 fl]) {i : Int} (hi : i < 0 ∨ (n : Int) ≤ i) :
    Calls Try.prog 71 #[dptr dp, .int .i64 i] w (fun e w' => e = .returned (.int .i64 3) ∧ w = w') := by
  unfold dptr
  obtain ⟨⟨c0, c1, c2, c3, c4, c5, c6, c7⟩, f0, f1, f2, f3, f4, f5, f6, f7⟩ := RowL.eight hr
  clear hr
  by_cases h0 : i < 0
  · have d0 : decide (i < 0) = true := by simpa using h0
    go_enter Try.func71, Try.ntmps71
    go_wp2_with fail
    go_ret
    exact ⟨rfl, rfl⟩
  · have d0 : decide (i < 0) = false := by simpa using h0
    have d1 : decide ((n : Int) ≤ i) = true := by simp; omega
    clear hi
    go_enter Try.func71, Try.ntmps71
    go_wp2_with fail
    go_ret
    exact ⟨rfl, rfl⟩
set_option maxHeartbeats 800000 in
theorem DReach_ok {w : World} {dp n cs : Nat} {L A : Value} {S : Option Addr} {armed off : Bool} {left wr fl : Int} (hr : RowL w dp 79 [.slice S n cs, L, A, .bool armed, .bool off, .int .i64 left, .int .i64 wr, .int .i64 fl]) {i : Int} (h0 : 0 ≤ i) (hi : i < n) :
    Calls Try.prog 71 #[dptr dp, .int .i64 i] w (fun e w' => e = .returned (.int .i64 0) ∧ w = w') := by
  unfold dptr
  obtain ⟨⟨c0, c1, c2, c3, c4, c5, c6, c7⟩, f0, f1, f2, f3, f4, f5, f6, f7⟩ := RowL.eight hr
  clear hr
  have d0 : decide (i < 0) = false := by simp; omega
  have d1 : decide ((n : Int) ≤ i) = false := by simp; omega
  go_enter Try.func71, Try.ntmps71
  go_wp2_with fail
  go_ret
  exact ⟨rfl, rfl⟩
/-- The power that is left behind a write or a flush. -/
def leftD (armed : Bool) (left : Int) : Int := if armed = true then left - 1 else left
def fails (armed off : Bool) (left : Int) : Bool := off || (armed && left == 0)
/-- What draw does. -/
def DrawRet (w : World) (dp k : Nat) (cs : List Value) (x : Ending) (w' : World) : Prop := x = .returned (.int .i64 k) ∧ RowL w' dp 79 cs ∧ w.grownBy w' (some dp) ∧ w'.heap.size = w.heap.size
theorem grown_self (w : World) (r : Option Nat) : w.grownBy w r := ⟨rfl, rfl, rfl, Nat.le_refl _, fun _ _ _ => rfl⟩
set_option maxHeartbeats 800000 in
theorem DDraw_no {w : World} {dp n cs : Nat} {L A : Value} {S : Option Addr} {armed off : Bool} {left wr fl : Int} (hr : RowL w dp 79 [.slice S n cs, L, A, .bool armed, .bool off, .int .i64 left, .int .i64 wr, .int .i64 fl]) (h : fails armed off left = true) :
    Calls Try.prog 72 #[dptr dp] w (DrawRet w dp 4 [.slice S n cs, L, A, .bool armed, .bool true, .int .i64 left, .int .i64 wr, .int .i64 fl]) := by
  unfold dptr
  obtain ⟨⟨c0, c1, c2, c3, c4, c5, c6, c7⟩, f0, f1, f2, f3, f4, f5, f6, f7⟩ := RowL.eight hr
  unfold fails at h
  cases hal : (armed && left == 0) with
  | true =>
    obtain ⟨rfl, hl⟩ : armed = true ∧ left = 0 := by simpa using hal
    subst hl
    have hr2 := hr.set_ 4 (.bool true)
    have HR := hide hr2
    clear hr hr2 h hal
    go_enter Try.func72, Try.ntmps72
    go_wp2_with fail
    go_ret
    exact ⟨rfl, HR.out, grown_set _ _ _ _, by simp⟩
  | false =>
    obtain rfl : off = true := by rw [hal] at h; simpa using h
    have HR := hide hr
    clear hr h
    cases armed with
    | false =>
      go_enter Try.func72, Try.ntmps72
      go_wp2_with fail
      go_ret
      exact ⟨rfl, HR.out, grown_self _ _, rfl⟩
    | true =>
      have d0 : (left == 0) = false := by simpa using hal
      clear hal
      go_enter Try.func72, Try.ntmps72
      go_wp2_with fail
      go_ret
      exact ⟨rfl, HR.out, grown_self _ _, rfl⟩
set_option maxHeartbeats 800000 in
theorem DDraw_yes {w : World} {dp n cs : Nat} {L A : Value} {S : Option Addr} {armed off : Bool} {left wr fl : Int} (hr : RowL w dp 79 [.slice S n cs, L, A, .bool armed, .bool off, .int .i64 left, .int .i64 wr, .int .i64 fl]) (h : fails armed off left = false) (hl0 : armed = true → 0 ≤ left) (hl1 : left ≤ 9223372036854775807) :
    Calls Try.prog 72 #[dptr dp] w (DrawRet w dp 0 [.slice S n cs, L, A, .bool armed, .bool off, .int .i64 (leftD armed left), .int .i64 wr, .int .i64 fl]) := by
  unfold dptr
  obtain ⟨⟨c0, c1, c2, c3, c4, c5, c6, c7⟩, f0, f1, f2, f3, f4, f5, f6, f7⟩ := RowL.eight hr
  unfold fails at h
  rw [Bool.or_eq_false_iff] at h
  obtain ⟨rfl, h⟩ := h
  cases armed with
  | false =>
    have HR := hide hr
    clear hr h hl0
    go_enter Try.func72, Try.ntmps72
    go_wp2_with fail
    go_ret
    exact ⟨rfl, HR.out, grown_self _ _, rfl⟩
  | true =>
    have d0 : (left == 0) = false := by simpa using h
    have hl := hl0 rfl
    have hw : IntKind.i64.wrap (left - 1) = left - 1 := IntWalk.i64_in _ (by omega)
    have hr2 := hr.set_ 5 (.int .i64 (left - 1))
    have HR := hide hr2
    clear hr hr2 h hl0
    go_enter Try.func72, Try.ntmps72
    go_wp2_with fail
    go_ret
    exact ⟨rfl, HR.out, grown_set _ _ _ _, by simp⟩
def UnitRet (w : World) (dp : Nat) (cs : List Value) (x : Ending) (w' : World) : Prop := x = .returned (.tuple #[]) ∧ RowL w' dp 79 cs ∧ w.grownBy w' (some dp) ∧ w'.heap.size = w.heap.size
set_option maxHeartbeats 800000 in
theorem DArm_any {w : World} {dp n cs : Nat} {L A : Value} {S : Option Addr} {armed off : Bool} {left wr fl : Int} (hr : RowL w dp 79 [.slice S n cs, L, A, .bool armed, .bool off, .int .i64 left, .int .i64 wr, .int .i64 fl]) (i : Int) :
    Calls Try.prog 48 #[dptr dp, .int .i64 i] w (UnitRet w dp [.slice S n cs, L, A, .bool (decide (0 ≤ i)), .bool off, .int .i64 i, .int .i64 wr, .int .i64 fl]) := by
  unfold dptr
  obtain ⟨⟨c0, c1, c2, c3, c4, c5, c6, c7⟩, f0, f1, f2, f3, f4, f5, f6, f7⟩ := RowL.eight hr
  have hr2 := (hr.set_ 3 (.bool (decide (0 ≤ i)))).set_ 5 (.int .i64 i)
  have HR := hide hr2
  clear hr hr2
  go_enter Try.func48, Try.ntmps48
  go_wp2_with fail
  refine bodyPost_ret (v := .tuple #[]) (by simp [results, Try.results48, go_sem]) rfl ⟨rfl, HR.out, only_setCell (grown_set _ _ _ _) _ _, by simp⟩
set_option maxHeartbeats 800000 in
theorem DOff_any {w : World} {dp n cs : Nat} {L A : Value} {S : Option Addr} {armed off : Bool} {left wr fl : Int} (hr : RowL w dp 79 [.slice S n cs, L, A, .bool armed, .bool off, .int .i64 left, .int .i64 wr, .int .i64 fl]) :
    Calls Try.prog 13 #[dptr dp] w (fun e w' => e = .returned (.bool off) ∧ w = w') := by
  unfold dptr
  obtain ⟨⟨c0, c1, c2, c3, c4, c5, c6, c7⟩, f0, f1, f2, f3, f4, f5, f6, f7⟩ := RowL.eight hr
  clear hr
  go_enter Try.func13, Try.ntmps13
  go_wp2_with fail
  go_ret
  exact ⟨rfl, rfl⟩
set_option maxHeartbeats 800000 in
theorem DWrites_any {w : World} {dp n cs : Nat} {L A : Value} {S : Option Addr} {armed off : Bool} {left wr fl : Int} (hr : RowL w dp 79 [.slice S n cs, L, A, .bool armed, .bool off, .int .i64 left, .int .i64 wr, .int .i64 fl]) :
    Calls Try.prog 14 #[dptr dp] w (fun e w' => e = .returned (.int .i64 wr) ∧ w = w') := by
  unfold dptr
  obtain ⟨⟨c0, c1, c2, c3, c4, c5, c6, c7⟩, f0, f1, f2, f3, f4, f5, f6, f7⟩ := RowL.eight hr
  clear hr
  go_enter Try.func14, Try.ntmps14
  go_wp2_with fail
  go_ret
  exact ⟨rfl, rfl⟩
set_option maxHeartbeats 800000 in
theorem DFlushes_any {w : World} {dp n cs : Nat} {L A : Value} {S : Option Addr} {armed off : Bool} {left wr fl : Int} (hr : RowL w dp 79 [.slice S n cs, L, A, .bool armed, .bool off, .int .i64 left, .int .i64 wr, .int .i64 fl]) :
    Calls Try.prog 15 #[dptr dp] w (fun e w' => e = .returned (.int .i64 fl) ∧ w = w') := by
  unfold dptr
  obtain ⟨⟨c0, c1, c2, c3, c4, c5, c6, c7⟩, f0, f1, f2, f3, f4, f5, f6, f7⟩ := RowL.eight hr
  clear hr
  go_enter Try.func15, Try.ntmps15
  go_wp2_with fail
  go_ret
  exact ⟨rfl, rfl⟩
set_option maxHeartbeats 800000 in
theorem DSize_any {w : World} {dp n cs : Nat} {L A : Value} {S : Option Addr} {armed off : Bool} {left wr fl : Int} (hr : RowL w dp 79 [.slice S n cs, L, A, .bool armed, .bool off, .int .i64 left, .int .i64 wr, .int .i64 fl]) :
    Calls Try.prog 23 #[dptr dp] w (fun e w' => e = .returned (.int .i64 n) ∧ w = w') := by
  unfold dptr
  obtain ⟨⟨c0, c1, c2, c3, c4, c5, c6, c7⟩, f0, f1, f2, f3, f4, f5, f6, f7⟩ := RowL.eight hr
  clear hr
  go_enter Try.func23, Try.ntmps23
  go_wp2_with fail
  go_ret
  exact ⟨rfl, rfl⟩
set_option maxHeartbeats 800000 in
theorem DFlush_nil (w : World) : Calls Try.prog 47 #[.pointer none] w (fun e w' => e = .returned (.int .i64 7) ∧ w = w') := by
  go_enter Try.func47, Try.ntmps47
  go_wp2_with fail
  go_ret
  exact ⟨rfl, rfl⟩
set_option maxHeartbeats 800000 in
theorem DReach_nil (i : Int) (w : World) : Calls Try.prog 71 #[.pointer none, .int .i64 i] w (fun e w' => e = .returned (.int .i64 7) ∧ w = w') := by
  go_enter Try.func71, Try.ntmps71
  go_wp2_with fail
  go_ret
  exact ⟨rfl, rfl⟩
set_option maxHeartbeats 800000 in
theorem DRead_nil (i : Int) (w : World) : Calls Try.prog 44 #[.pointer none, .int .i64 i] w (fun e w' => e = .returned (.tuple #[.slice none 0 0, .int .i64 7]) ∧ w = w') := by
  go_enter Try.func44, Try.ntmps44
  go_wp2_with (go_at_call 71; refine (DReach_nil _ _).mono ?_; rintro e w' ⟨rfl, rfl⟩)
  go_ret2
  exact ⟨rfl, rfl⟩
set_option maxHeartbeats 800000 in
theorem DWrite_nil {i : Int} {B : Option Addr} {m c : Nat} (w : World) : Calls Try.prog 42 #[.pointer none, .int .i64 i, .slice B m c] w (fun e w' => e = .returned (.int .i64 7) ∧ w = w') := by
  go_enter Try.func42, Try.ntmps42
  go_wp2_with (go_at_call 71; refine (DReach_nil _ _).mono ?_; rintro e w' ⟨rfl, rfl⟩)
  go_ret
  exact ⟨rfl, rfl⟩
set_option maxHeartbeats 800000 in
theorem DSize_nil (w : World) : Calls Try.prog 23 #[.pointer none] w (fun e w' => e = .returned (.int .i64 0) ∧ w = w') := by
  go_enter Try.func23, Try.ntmps23
  go_wp2_with fail
  go_ret
  exact ⟨rfl, rfl⟩
set_option maxHeartbeats 800000 in
theorem DWrites_nil (w : World) : Calls Try.prog 14 #[.pointer none] w (fun e w' => e = .returned (.int .i64 0) ∧ w = w') := by
  go_enter Try.func14, Try.ntmps14
  go_wp2_with fail
  go_ret
  exact ⟨rfl, rfl⟩
set_option maxHeartbeats 800000 in
theorem DFlushes_nil (w : World) : Calls Try.prog 15 #[.pointer none] w (fun e w' => e = .returned (.int .i64 0) ∧ w = w') := by
  go_enter Try.func15, Try.ntmps15
  go_wp2_with fail
  go_ret
  exact ⟨rfl, rfl⟩
set_option maxHeartbeats 800000 in
theorem DWaiting_nil (w : World) : Calls Try.prog 17 #[.pointer none] w (fun e w' => e = .returned (.slice none 0 0) ∧ w = w') := by
  go_enter Try.func17, Try.ntmps17
  go_wp2_with fail
  go_ret
  exact ⟨rfl, rfl⟩
set_option maxHeartbeats 800000 in
theorem DSafe_nil (w : World) : Calls Try.prog 19 #[.pointer none] w (fun e w' => e = .returned (.slice none 0 0) ∧ w = w') := by
  go_enter Try.func19, Try.ntmps19
  go_wp2_with fail
  go_ret
  exact ⟨rfl, rfl⟩
set_option maxHeartbeats 800000 in
theorem DBytes_nil (w : World) : Calls Try.prog 21 #[.pointer none] w (fun e w' => e = .returned (.slice none 0 0) ∧ w = w') := by
  go_enter Try.func21, Try.ntmps21
  go_wp2_with fail
  go_ret
  exact ⟨rfl, rfl⟩
set_option maxHeartbeats 800000 in
theorem DOff_nil (w : World) : Calls Try.prog 13 #[.pointer none] w (fun e w' => e = .returned (.bool false) ∧ w = w') := by
  go_enter Try.func13, Try.ntmps13
  go_wp2_with fail
  go_ret
  exact ⟨rfl, rfl⟩
set_option maxHeartbeats 800000 in
theorem DArm_nil {i : Int} (w : World) : Calls Try.prog 48 #[.pointer none, .int .i64 i] w (fun e w' => e = .returned (.tuple #[]) ∧ w = w') := by
  go_enter Try.func48, Try.ntmps48
  go_wp2_with fail
  exact bodyPost_end (v := .tuple #[]) (by simp [results, Try.results48, go_sem]) rfl ⟨rfl, rfl⟩
set_option maxHeartbeats 800000 in
theorem DCrash_nil {B : Option Addr} {m c : Nat} (w : World) : Calls Try.prog 43 #[.pointer none, .slice B m c] w (fun e w' => e = .returned (.tuple #[]) ∧ w = w') := by
  go_enter Try.func43, Try.ntmps43
  go_wp2_with fail
  exact bodyPost_ret (v := .tuple #[]) (by simp [results, Try.results43, go_sem]) rfl ⟨rfl, rfl⟩
end Go.Proofs.Ytnjmddmiebofeaa
