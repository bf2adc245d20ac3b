/- Contracts of the program's dev Safe, Bytes, Read, Waiting. -/
import Derived.Test.YtnjmddmiebofeaaDevD
import Derived.Test.YtnjmddmiebofeaaMemR
namespace Go.Proofs.Ytnjmddmiebofeaa
open Go.RowKit Plain

set_option maxRecDepth 100000 in
set_option maxHeartbeats 1600000 in
theorem DSafe_any {w : World} {base dp n : Nat} {s : DSt} (h : DK w base dp s) (hn : s.safe.length = n) (hn2 : n ≤ 100000) :
    Calls Try.prog 19 #[dptr dp] w (BRet w 5 (64 * n) s.safe.flatten) := by
  unfold dptr
  obtain ⟨safe, last, wait, armed, off, left, wn, fl⟩ := s
  obtain ⟨gs, cs, gl, cl, A, c, hne, hbd, hr, hs, hl, hw⟩ := h
  simp only [dcells] at hr hs hl hw
  dsimp only at hn ⊢
  rw [hn] at hr hs
  obtain ⟨⟨c0, c1, c2, c3, c4, c5, c6, c7⟩, f0, f1, f2, f3, f4, f5, f6, f7⟩ := RowL.eight hr
  have HS := hide hs
  clear hs hl hw hr hn
  go_enter Try.func19, Try.ntmps19
  go_wp2_with fail
  refine (DJoined_any _ HS.out (by omega)).mono ?_
  rintro e w' ⟨A1, c1, rfl, hown, hbel⟩
  have HO := hide hown
  have HB := hide hbel
  clear hown hbel
  go_wp2_with fail
  go_ret
  exact HO.out.ret HB.out
set_option maxRecDepth 100000 in
set_option maxHeartbeats 1600000 in
theorem DBytes_any {w : World} {base dp n : Nat} {s : DSt} (h : DK w base dp s) (hn : s.safe.length = n) (hn2 : n ≤ 100000) :
    Calls Try.prog 21 #[dptr dp] w (BRet w 5 (64 * n) s.last.flatten) := by
  unfold dptr
  obtain ⟨safe, last, wait, armed, off, left, wn, fl⟩ := s
  obtain ⟨gs, cs, gl, cl, A, c, hne, hbd, hr, hs, hl, hw⟩ := h
  simp only [dcells] at hr hs hl hw
  dsimp only at hn ⊢
  rw [hn] at hr hl
  obtain ⟨⟨c0, c1, c2, c3, c4, c5, c6, c7⟩, f0, f1, f2, f3, f4, f5, f6, f7⟩ := RowL.eight hr
  have HS := hide hl
  clear hs hl hw hr hn
  go_enter Try.func21, Try.ntmps21
  go_wp2_with fail
  refine (DJoined_any _ HS.out (by omega)).mono ?_
  rintro e w' ⟨A1, c1, rfl, hown, hbel⟩
  have HO := hide hown
  have HB := hide hbel
  clear hown hbel
  go_wp2_with fail
  go_ret
  exact HO.out.ret HB.out
/-- What Read answers. -/
def RdRet (w : World) (l : List UInt8) (k : Int) (x : Ending) (w' : World) : Prop := ∃ A n c, x = .returned (.tuple #[.slice A n c, .int .i64 k]) ∧ Bs w' w'.heap.size A n l ∧ Below w.heap.size w w'
set_option maxRecDepth 100000 in
set_option maxHeartbeats 1600000 in
theorem DRead_range {w : World} {base dp : Nat} {s : DSt} {i : Int} (h : DK w base dp s) (hi : i < 0 ∨ (s.safe.length : Int) ≤ i) :
    Calls Try.prog 44 #[dptr dp, .int .i64 i] w (RdRet w [] 3) := by
  obtain ⟨safe, last, wait, armed, off, left, wn, fl⟩ := s
  obtain ⟨gs, cs, gl, cl, A, c, hne, hbd, hr, hs, hl, hw⟩ := h
  simp only [dcells] at hr hs hl hw
  dsimp only at hi
  have HR := hide hr
  have HI := hide hi
  clear hs hl hw hr hi
  go_enter Try.func44, Try.ntmps44
  go_wp2_with fail
  refine (DReach_no HR.out HI.out).mono ?_
  rintro e w' ⟨rfl, rfl⟩
  go_wp2_with fail
  go_ret2
  exact ⟨_, _, _, rfl, Bs.none_ _ _ _, below_self _⟩
set_option maxRecDepth 100000 in
set_option maxHeartbeats 1600000 in
theorem DRead_off {w : World} {base dp : Nat} {s : DSt} {i : Int} (h : DK w base dp s) (h0 : 0 ≤ i) (hi : i < (s.safe.length : Int)) (hoff : s.off = true) :
    Calls Try.prog 44 #[dptr dp, .int .i64 i] w (RdRet w [] 4) := by
  obtain ⟨safe, last, wait, armed, off, left, wn, fl⟩ := s
  obtain ⟨gs, cs, gl, cl, A, c, hne, hbd, hr, hs, hl, hw⟩ := h
  simp only [dcells] at hr hs hl hw
  dsimp only at hi hoff
  subst hoff
  have HR := hide hr
  obtain ⟨⟨c0, c1, c2, c3, c4, c5, c6, c7⟩, f0, f1, f2, f3, f4, f5, f6, f7⟩ := RowL.eight hr
  have HI := hide hi
  clear hs hl hw hr hi
  unfold dptr
  go_enter Try.func44, Try.ntmps44
  go_wp2_with fail
  refine (DReach_ok HR.out h0 HI.out).mono ?_
  rintro e w' ⟨rfl, rfl⟩
  go_wp2_with fail
  go_ret2
  exact ⟨_, _, _, rfl, Bs.none_ _ _ _, below_self _⟩
set_option maxRecDepth 100000 in
set_option maxHeartbeats 1600000 in
theorem DRead_ok {w : World} {base dp i : Nat} {s : DSt} {x : List UInt8} (h : DK w base dp s) (hi : i < s.safe.length) (hoff : s.off = false) (hx : s.last[i]? = some x) (hn : s.safe.length ≤ 100000) :
    Calls Try.prog 44 #[dptr dp, .int .i64 i] w (RdRet w x 0) := by
  obtain ⟨safe, last, wait, armed, off, left, wn, fl⟩ := s
  obtain ⟨gs, cs, gl, cl, A, c, hne, hbd, hr, hs, hl, hw⟩ := h
  simp only [dcells] at hr hs hl hw
  dsimp only at hi hoff hx hn
  subst hoff
  have HR := hide hr
  obtain ⟨⟨c0, c1, c2, c3, c4, c5, c6, c7⟩, f0, f1, f2, f3, f4, f5, f6, f7⟩ := RowL.eight hr
  obtain ⟨n, hnn⟩ : ∃ n, safe.length = n := ⟨_, rfl⟩
  rw [hnn] at hl hi hn c1
  obtain ⟨xs, hrow, hcs, hs64, hcl⟩ := hl.get hx
  have hsl : x.length = 64 := by rw [bvs_length] at hs64; exact hs64
  have HN := hide hnn
  have HROW := hide hrow
  have HCS := hide hcs
  have HS64 := hide hs64
  have HSL := hide hsl
  clear hs hl hw hr hnn hrow hcs hs64 hsl hcl hx c0
  unfold dptr
  go_enter Try.func44, Try.ntmps44
  go_wp2_with fail
  refine (DReach_ok HR.out (by omega) (by have := HN.out; omega)).mono ?_
  rintro e w' ⟨rfl, rfl⟩
  go_wp2_with (first
    | (with_reducible refine wpList_loadC rfl 76 (.tmp 23) rfl 64 sec_agg sec_size gl (i * 64) 76 rfl xs (bvs x) HROW.out HCS.out HS64.out ?_)
    | (with_reducible refine wpList_allocC rfl 76 rfl zsec sec_zero ?_; intro w2 hr2 hb2 hz2; have HR2 := hide hr2; have HB2 := hide hb2; clear hr2 hb2 hz2)
    | (with_reducible refine wpList_storeC rfl 76 (.tmp 7) (.tmp 24) rfl 64 sec_size w.heap.size 0 76 rfl _ (bvs x) rfl HR2.out HS64.out (by decide) (bvs_one _) ?_; intro w3 hr3 hb3 hz3; have HR3 : Hid (Bs w3 w3.heap.size (some ⟨w.heap.size, 0, none⟩) 64 x) := hide (bs_sec hr3 HSL.out); have HB3 : Hid (Below w.heap.size w w3) := hide (HB2.out.grown hb3 HB2.out.size (by intro q hq; cases hq; exact Nat.le_refl _)); clear hr3 hb3 hz3))
  go_ret2
  exact ⟨_, _, _, rfl, HR3.out, HB3.out⟩
end Go.Proofs.Ytnjmddmiebofeaa
