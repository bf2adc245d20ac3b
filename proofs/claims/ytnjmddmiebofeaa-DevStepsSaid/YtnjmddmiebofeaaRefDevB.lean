/- Contracts of the reference's Waiting, Safe, Bytes (layer 5). -/
import Derived.Test.YtnjmddmiebofeaaRefDevA
namespace Go.Proofs.Ytnjmddmiebofeaa
open Go.RowKit Plain

/-- Returned is a row of the call's own. -/
def ERet {α : Type} (E : Enc α) (w : World) (e n : Nat) (l : List α) (x : Ending) (w' : World) : Prop := ∃ A c, x = .returned (.slice A n c) ∧ OwE E w' w.heap.size e A n c l ∧ Below w.heap.size w w'
section
variable {α : Type} {E : Enc α} {w : World} {base e n c : Nat} {A : Option Addr} {l : List α}
theorem OwE.apart (h : OwE E w base e A n c l) {arr : Array Value} {t : TypeId} (ht : Tags.bad t = false) : But (w.alloc (.cells arr t)) A w.heap.size := by
  refine ⟨Und.row (heap_alloc_new w _) ht, fun a ha hb => ?_⟩
  subst ha
  obtain ⟨css, hown, _, _⟩ := h
  rcases hown.2 with ⟨h0, _⟩ | ⟨g, cap, cur, h1, h2, h3, h4⟩
  · cases h0
  · cases h1
    have hlt : g < w.heap.size := by
      rcases Nat.lt_or_ge g w.heap.size with hlt | hge
      · exact hlt
      · rw [Array.getElem?_eq_none hge] at h3; cases h3
    have : w.heap.size = g := hb
    omega
theorem OwE.empty_up (E : Enc α) (W : World) (e B base : Nat) (h : W.heap.size = B) (hb : base ≤ B) : OwE E (W.alloc (.cells #[] e)) base e (some ⟨B, 0, none⟩) 0 0 [] := by
  subst h
  exact (OwE.empty E W e).rebase hb
theorem RdE.lit1 {W : World} {cs : List Value} {x : α} (t B : Nat) (h : E.R W (fun _ => False) cs x) (hB : W.heap.size = B) : RdE E (W.alloc (.cells cs.toArray t)) (fun b => b = B) (some ⟨B, 0, none⟩) 1 [x] := by
  subst hB
  refine (RdE.one (w := W) t h (fun _ h => h.elim)).mono (fun _ _ => rfl) (fun b hb => ?_)
  rcases hb with hb | hb
  · exact hb.elim
  · exact hb
end
theorem info_int : (Try.prog.info? 3).map (fun i => (i.zero, i.size, i.bytes)) = some (some (.int .i64 0), Enc.int.k, 8) := by kernel_rfl
theorem cell_on {B : Nat} {w w' : World} {b o : Nat} {v : Value} (h : w.cell? ⟨b, o, none⟩ = some v) (hb : Below B w w') (hlt : b < B) : w'.cell? ⟨b, o, none⟩ = some v := (hb.cell (p := ⟨b, o, none⟩) hlt).trans h

set_option maxHeartbeats 1600000 in
theorem RDWaiting_any {w : World} {A A2 : Option Addr} {n c m c2 : Nat} {wait : List (Int × List UInt8)} (lf wn fl : Int) (off : Bool) (hw : RdE penE w (Under w.heap.size) A2 m wait) (hm : m ≤ 1000000) :
    Calls Try.prog 18 #[.agg #[.slice A n c, .slice A2 m c2, .int .i64 lf, .int .i64 wn, .int .i64 fl, .bool off]] w (ERet Enc.int w 3 m (wait.map (·.1))) := by
  have hwl := hw.len
  go_enter Try.func18, Try.ntmps18
  go_wp2
  go_loopw [3, 4] (fun v iv wr => ∃ (k : Nat) (A1 : Option Addr) (c1 : Nat), k ≤ m ∧ iv = .int .i64 k ∧ v = .slice A1 k c1 ∧ OwE Enc.int wr (w.heap.size + 1) 3 A1 k c1 ((wait.take k).map (·.1)) ∧ wr.cell? ⟨w.heap.size, 1, none⟩ = some (.slice A2 m c2) ∧ Below w.heap.size w wr ∧ w.heap.size < wr.heap.size) (fun _ iv _ => m - (intOf iv).toNat)
  case atStart => exact ⟨0, _, _, by omega, rfl, rfl, OwE.empty_up _ _ _ (w.heap.size + 1) _ (by simp) (by omega), by simp, below_new (below_new (below_self w) _) _, by simp; omega⟩
  case round =>
    obtain ⟨k, A1, c1, hk, rfl, rfl, hown, hc1, hbel, hsz⟩ := hrel
    have HO := hide hown
    have HB := hide hbel
    by_cases hlt : k < m
    · obtain ⟨p, hp⟩ : ∃ p, wait[k]? = some p := ⟨_, List.getElem?_eq_getElem (by omega)⟩
      obtain ⟨b2, o2, rfl, hb2, hp1, -⟩ := hw.get_int_list hp
      have hq1 := cell_on hp1 hbel hb2
      have hsn : (wait.take (k + 1)).map (·.1) = (wait.take k).map (·.1) ++ [p.1] := by
        rw [take_snoc (by omega), List.map_append]
        rw [List.getElem?_eq_getElem (by omega)] at hp
        cases hp
        rfl
      have HSN := hide hsn
      clear hsn hown hbel hp1
      go_wp2_with (at_builtin; refine wpList_append_OwE _ rfl (.tmp 13) (.tmp 20) 45 rfl (w.heap.size + 1) 3 _ 8 Try.underlying45 info_int rfl (by decide) _ k _ _ rfl (HO.out.alloc _) _ _ 1 1 _ rfl (RdE.lit1 _ _ rfl rfl) (fun b hb => by subst hb; exact HO.out.apart (by decide)) (k + 1) rfl (by omega) (by omega) (by simp; omega) ?_; intro A3 c3 w1 hown1 hbel1; have HO1 := hide hown1; have HB1 := hide hbel1; clear hown1 hbel1)
      go_roundw
      case rel => 
        have hb1 := below_new HB.out (.cells #[.int .i64 p.1] 3)
        exact ⟨k + 1, _, _, by omega, by go_num, rfl, by rw [HSN.out]; exact HO1.out, cell_on (cell_on hc1 ((Below.refl (w.heap.size + 1) wr).alloc (by omega) _) (by omega)) HB1.out (by omega), hb1.trans (HB1.out.mono (by omega)), by have := HB1.out.size; simp at this; omega⟩
      case measure => simp [intOf]; omega
    · obtain rfl : k = m := by omega
      have hl : (wait.take k).map (·.1) = wait.map (·.1) := by rw [List.take_of_length_le (by omega)]
      have HL := hide hl
      clear hown hbel hl
      go_wp2
      go_ret
      exact ⟨_, _, rfl, by rw [← HL.out]; exact HO.out.rebase (by omega), HB.out⟩

theorem flat64 {l : List (List UInt8)} (h : ∀ s ∈ l, s.length = 64) : l.flatten.length = 64 * l.length := by
  induction l with
  | nil => rfl
  | cons a r ih =>
    rw [List.flatten_cons, List.length_append, ih (fun s hs => h s (List.mem_cons_of_mem _ hs)), h a List.mem_cons_self, List.length_cons]
    omega
theorem flat_snoc {l : List (List UInt8)} {k : Nat} {x : List UInt8} (h : l[k]? = some x) : (l.take (k + 1)).flatten = (l.take k).flatten ++ x := by
  have hk := (List.getElem?_eq_some_iff.1 h).1
  rw [take_snoc hk, List.flatten_append]
  rw [List.getElem?_eq_getElem hk] at h
  cases h
  simp

set_option maxHeartbeats 1600000 in
theorem RDSafe_any {w : World} {A A2 : Option Addr} {n c m c2 : Nat} {safe : List (List UInt8)} (lf wn fl : Int) (off : Bool) (hs : RdE Enc.bytes w (Under w.heap.size) A n safe) (hn : n ≤ 1000000) (h64 : ∀ s ∈ safe, s.length = 64) :
    Calls Try.prog 20 #[.agg #[.slice A n c, .slice A2 m c2, .int .i64 lf, .int .i64 wn, .int .i64 fl, .bool off]] w (BRet w 5 (64 * n) safe.flatten) := by
  have hsl := hs.len
  go_enter Try.func20, Try.ntmps20
  go_wp2
  go_loopw [3, 4] (fun v iv wr => ∃ (k : Nat) (A1 : Option Addr) (c1 : Nat), k ≤ n ∧ iv = .int .i64 k ∧ v = .slice A1 (64 * k) c1 ∧ Own wr (w.heap.size + 1) 5 A1 (64 * k) c1 (safe.take k).flatten ∧ wr.cell? ⟨w.heap.size, 0, none⟩ = some (.slice A n c) ∧ Below w.heap.size w wr ∧ w.heap.size < wr.heap.size) (fun _ iv _ => n - (intOf iv).toNat)
  case atStart => exact ⟨0, _, _, by omega, rfl, rfl, own_empty_up _ _ (w.heap.size + 1) _ (by simp) (by omega), by simp, below_new (below_new (below_self w) _) _, by simp; omega⟩
  case round =>
    obtain ⟨k, A1, c1, hk, rfl, rfl, hown, hc1, hbel, hsz⟩ := hrel
    have HO := hide hown
    have HB := hide hbel
    by_cases hlt : k < n
    · obtain ⟨p, hp⟩ : ∃ p, safe[k]? = some p := ⟨_, List.getElem?_eq_getElem (by omega)⟩
      obtain ⟨b2, o2, rfl, hb2, A4, n4, c4, hp1, hnc4, hr4⟩ := hs.get_list hp
      have hq1 := cell_on hp1 hbel hb2
      obtain rfl : n4 = 64 := by rw [← hr4.len]; exact h64 p (List.mem_of_getElem? hp)
      have hbs := (Bs.of_rd hr4).below hbel
      have HBS := hide hbs
      have hsn := flat_snoc hp
      have HSN := hide hsn
      clear hsn hown hbel hp1 hr4 hbs
      go_wp2_with (at_builtin; refine wpList_append_Bs _ rfl (.tmp 13) (.tmp 18) 22 rfl (w.heap.size + 1) 5 Try.underlying22 info8d _ (64 * k) _ _ rfl HO.out _ _ _ _ _ rfl HBS.out (64 * (k + 1)) (by omega) (by omega) (by omega) ?_; intro A3 c3 w1 hown1 hbel1; have HO1 := hide hown1; have HB1 := hide hbel1; clear hown1 hbel1)
      go_roundw
      case rel => exact ⟨k + 1, _, _, by omega, by go_num, rfl, by rw [HSN.out]; exact HO1.out, cell_on hc1 HB1.out (by omega), HB.out.trans (HB1.out.mono (by omega)), by have := HB1.out.size; omega⟩
      case measure => simp [intOf]; omega
    · obtain rfl : k = n := by omega
      have hl : (safe.take k).flatten = safe.flatten := by rw [List.take_of_length_le (by omega)]
      have HL := hide hl
      clear hown hbel hl
      go_wp2
      go_ret
      exact ⟨_, _, rfl, by rw [← HL.out]; exact HO.out.rebase (by omega), HB.out⟩

/-- All as it is read. -/
def readS (safe : List (List UInt8)) (wait : List (Int × List UInt8)) : List (List UInt8) := (List.range safe.length).map (lastS safe wait)
theorem lastS_len {safe : List (List UInt8)} {wait : List (Int × List UInt8)} {i : Nat} (h64 : ∀ s ∈ safe, s.length = 64) (w64 : ∀ p ∈ wait, p.2.length = 64) (hi : i < safe.length) : (lastS safe wait i).length = 64 := by
  unfold lastS
  have h0 : (safe.getD i []).length = 64 := by
    apply h64
    simp only [List.getD]
    rw [List.getElem?_eq_getElem hi]
    exact List.getElem_mem hi
  revert h0
  generalize safe.getD i [] = b
  intro h0
  induction wait generalizing b with
  | nil => exact h0
  | cons p r ih =>
    rw [List.foldl_cons]
    apply ih (fun q hq => w64 q (List.mem_cons_of_mem _ hq))
    split
    · exact w64 p List.mem_cons_self
    · exact h0

theorem RDLast_x {w : World} {A A2 : Option Addr} {n c m c2 i : Nat} {safe : List (List UInt8)} {wait : List (Int × List UInt8)} {x : List UInt8} (lf wn fl : Int) (off : Bool) (hs : RdE Enc.bytes w (Under w.heap.size) A n safe) (hw : RdE penE w (Under w.heap.size) A2 m wait) (hi : i < n) (hm : m ≤ 1000000) (hx : lastS safe wait i = x) (hxl : x.length = 64) :
    Calls Try.prog 50 #[.agg #[.slice A n c, .slice A2 m c2, .int .i64 lf, .int .i64 wn, .int .i64 fl, .bool off], .int .i64 i] w (BRet w 5 64 x) := by
  subst hx
  have := RDLast_any (c := c) (c2 := c2) lf wn fl off hs hw hi hm (by omega)
  rwa [hxl] at this
set_option maxHeartbeats 1600000 in
theorem RDBytes_any {w : World} {A A2 : Option Addr} {n c m c2 : Nat} {safe : List (List UInt8)} {wait : List (Int × List UInt8)} (lf wn fl : Int) (off : Bool) (hs : RdE Enc.bytes w (Under w.heap.size) A n safe) (hw : RdE penE w (Under w.heap.size) A2 m wait) (hn : n ≤ 1000000) (hm : m ≤ 1000000) (h64 : ∀ s ∈ safe, s.length = 64) (w64 : ∀ p ∈ wait, p.2.length = 64) :
    Calls Try.prog 22 #[.agg #[.slice A n c, .slice A2 m c2, .int .i64 lf, .int .i64 wn, .int .i64 fl, .bool off]] w (BRet w 5 (64 * n) (readS safe wait).flatten) := by
  have hsl := hs.len
  go_enter Try.func22, Try.ntmps22
  go_wp2
  go_loopw [3, 4] (fun v iv wr' => ∃ (k : Nat) (A1 : Option Addr) (c1 : Nat), k ≤ n ∧ iv = .int .i64 k ∧ v = .slice A1 (64 * k) c1 ∧ Own wr' (w.heap.size + 1) 5 A1 (64 * k) c1 ((readS safe wait).take k).flatten ∧ (wr'.cell? ⟨w.heap.size, 0, none⟩ = some (.slice A n c) ∧ wr'.cell? ⟨w.heap.size, 1, none⟩ = some (.slice A2 m c2) ∧ wr'.cell? ⟨w.heap.size, 2, none⟩ = some (.int .i64 lf) ∧ wr'.cell? ⟨w.heap.size, 3, none⟩ = some (.int .i64 wn) ∧ wr'.cell? ⟨w.heap.size, 4, none⟩ = some (.int .i64 fl) ∧ wr'.cell? ⟨w.heap.size, 5, none⟩ = some (.bool off)) ∧ Below w.heap.size w wr' ∧ w.heap.size < wr'.heap.size) (fun _ iv _ => n - (intOf iv).toNat)
  case atStart => exact ⟨0, _, _, by omega, rfl, rfl, own_empty_up _ _ (w.heap.size + 1) _ (by simp) (by omega), ⟨by simp, by simp, by simp, by simp, by simp, by simp⟩, below_new (below_new (below_self w) _) _, by simp; omega⟩
  case round =>
    obtain ⟨k, A1, c1, hk, rfl, rfl, hown, ⟨k0, k1, k2, k3, k4, k5⟩, hbel, hsz⟩ := hrel
    have HO := hide hown
    have HB := hide hbel
    have hrl : (readS safe wait).length = n := by simp [readS, hsl]
    by_cases hlt : k < n
    · obtain ⟨x, hx⟩ : ∃ x, lastS safe wait k = x := ⟨_, rfl⟩
      have hxl : x.length = 64 := by rw [← hx]; exact lastS_len h64 w64 (by omega)
      have hp : (readS safe wait)[k]? = some x := by
        unfold readS
        rw [List.getElem?_map, List.getElem?_range (by omega)]
        simp [hx]
      have hsn := flat_snoc hp
      have HSN := hide hsn
      have HS := hide (hs.on hbel)
      have HW := hide (hw.on hbel)
      clear hsn hown hbel hp
      go_wp2_with fail
      refine (RDLast_x lf wn fl off HS.out HW.out (by omega) hm hx hxl).mono ?_
      rintro e w1 ⟨A3, c3, rfl, hown3, hbel3⟩
      have HO3 := hide hown3
      have HO1 := hide (HO.out.below hbel3)
      have HB3 := hide hbel3
      have hs3 := hbel3.size
      clear hown3 hbel3
      go_wp2_with (at_builtin; refine wpList_append_Bs _ rfl (.tmp 13) (.tmp 16) 22 rfl (w.heap.size + 1) 5 Try.underlying22 info8d _ (64 * k) _ _ rfl HO1.out _ _ _ _ _ rfl HO3.out.bs (64 * (k + 1)) (by omega) (by omega) (by omega) ?_; intro A4 c4 w2 hown4 hbel4; have HO4 := hide hown4; have HB4 := hide hbel4; clear hown4 hbel4)
      go_roundw
      case rel =>
        have hb := (HB3.out.mono (B' := w.heap.size + 1) (by omega)).trans HB4.out
        exact ⟨k + 1, _, _, by omega, by go_num, rfl, by rw [HSN.out]; exact HO4.out, ⟨cell_on k0 hb (by omega), cell_on k1 hb (by omega), cell_on k2 hb (by omega), cell_on k3 hb (by omega), cell_on k4 hb (by omega), cell_on k5 hb (by omega)⟩, HB.out.trans (hb.mono (by omega)), by have := hb.size; omega⟩
      case measure => simp [intOf]; omega
    · obtain rfl : k = n := by omega
      have hl : ((readS safe wait).take k).flatten = (readS safe wait).flatten := by rw [List.take_of_length_le (by omega)]
      have HL := hide hl
      clear hown hbel hl
      go_wp2
      go_ret
      exact ⟨_, _, rfl, by rw [← HL.out]; exact HO.out.rebase (by omega), HB.out⟩
end Go.Proofs.Ytnjmddmiebofeaa
