/- Entries in a slice; entry.first (layer 8). -/
import Derived.Test.YthjjjeolpdekoaaEntE
import Derived.Test.YthjjjeolpdekoaaMemF
namespace Go.Proofs.Ythjjjeolpdekoaa
open Go.RowKit Plain

/-- An entry in three cells. -/
def entEn : Enc EntV := (Enc.pair Enc.int (Enc.pair Enc.int Enc.text)).as (fun x => (x.slot, x.ino, x.name))
theorem ent_cells {w : World} {D : Nat → Prop} {cs : List Value} {x : EntV} (h : entEn.R w D cs x) : cs = [.int .i64 x.slot, .int .i64 x.ino, .string ⟨x.name.toArray⟩] := by
  obtain ⟨c1, c2, rfl, h1, c3, c4, rfl, h2, h3⟩ := h
  have e1 : c1 = [.int .i64 x.slot] := h1
  have e2 : c3 = [.int .i64 x.ino] := h2
  have e3 : c4 = [.string ⟨x.name.toArray⟩] := h3
  rw [e1, e2, e3]
  rfl
theorem ent_get {w : World} {D : Nat → Prop} {A : Option Addr} {n k : Nat} {l : List EntV} {x : EntV} (h : RdE entEn w D A n l) (hx : l[k]? = some x) :
    ∃ b o, A = some ⟨b, o, none⟩ ∧ D b ∧ ∀ j v, [Value.int .i64 x.slot, .int .i64 x.ino, .string ⟨x.name.toArray⟩][j]? = some v → w.cell? ⟨b, o + k * 3 + j, none⟩ = some v := by
  have hk := (List.getElem?_eq_some_iff.1 hx).1
  obtain ⟨b, o, e, hb, hc⟩ := h.2 (by rw [← h.1]; omega)
  obtain ⟨cs, hR, hcs⟩ := hc k x hx
  have e2 := ent_cells hR
  subst e2
  refine ⟨b, o, e, hb, fun j v hv => ?_⟩
  have := hcs j v hv
  rw [Nat.add_assoc]
  exact this
/-- The bytes of the first one that is right and has the slot. -/
def firstS (slot : Int) : List EntV → List UInt8
  | [] => []
  | x :: r => if (x.slot == slot && rightE x) = true then putE x else firstS slot r
theorem firstS_drop {slot : Int} {l : List EntV} {k : Nat} {x : EntV} (h : l[k]? = some x) : firstS slot (l.drop k) = if (x.slot == slot && rightE x) = true then putE x else firstS slot (l.drop (k + 1)) := by
  have hk := (List.getElem?_eq_some_iff.1 h).1
  have e : l[k] = x := (List.getElem?_eq_some_iff.1 h).2
  rw [List.drop_eq_getElem_cons hk, e]
  rfl
def Short (l : List EntV) : Prop := ∀ x ∈ l, x.name.length ≤ 140737488355328
/-- It returns a slice that reads as these bytes. -/
def SRet (w : World) (l : List UInt8) (e : Ending) (w' : World) : Prop := ∃ A n c, e = .returned (.slice A n c) ∧ n ≤ c ∧ Bs w' w'.heap.size A n l ∧ Below w.heap.size w w'
set_option maxRecDepth 100000 in
set_option maxHeartbeats 1600000 in
theorem first_any {A : Option Addr} {n c : Nat} {l : List EntV} {slot : Int} {f : List UInt8} (w : World) (h : RdE entEn w (Under w.heap.size) A n l) (hsh : Short l) (hf : firstS slot l = f) (hn : n ≤ 140737488355328) : Calls Try.prog 52 #[.slice A n c, .int .i64 slot] w (SRet w f) := by
  have H := hide h
  have HSH := hide hsh
  have HF := hide hf
  clear h hsh hf
  go_enter Try.func52, Try.ntmps52
  go_wp2_with fail
  go_loopw [11] (fun iv wr => ∃ k : Nat, k ≤ n ∧ iv = .int .i64 k ∧ Hid (firstS slot (l.drop k) = f) ∧ Below w.heap.size w wr) (fun iv _ => n - (intOf iv).toNat)
  case atStart => exact ⟨0, by omega, rfl, hide (by rw [List.drop_zero]; exact HF.out), below_self _⟩
  case round =>
    obtain ⟨k, hk, rfl, HK, hbel⟩ := hrel
    have HB := hide hbel
    clear hbel
    by_cases hlt : k < n
    · obtain ⟨x, hx⟩ : ∃ x, l[k]? = some x := ⟨_, List.getElem?_eq_getElem (by have := H.out.len; omega)⟩
      have hd := firstS_drop (slot := slot) hx
      rw [HK.out] at hd
      have HD := hide hd
      obtain ⟨b, o, hA, hbl, hc⟩ := ent_get (H.out.mono (w' := wr) (D' := Under w.heap.size) (Kept.of_below HB.out fun _ h => h) (fun _ h => h)) hx
      subst hA
      have HC := hide hc
      have HXS := hide (HSH.out x (List.mem_of_getElem? hx))
      obtain ⟨hr1, hb1, hs1⟩ := rows1 wr [.int .i64 x.slot, .int .i64 x.ino, .string ⟨x.name.toArray⟩] 23
      have HR1 := hide hr1
      have HB1 := hide (below_step HB.out hb1)
      clear hx hd hc hr1 hb1 hs1 hbl HK
      by_cases hs : x.slot = slot
      · subst hs
        go_wp2_with ((with_reducible refine wpList_loadX rfl 23 (.tmp 13) rfl 3 ent_agg ent_size b (o + k * 3) rfl [Value.int .i64 x.slot, .int .i64 x.ino, .string ⟨x.name.toArray⟩] HC.out len3 ?_))
        refine (EPut_any x _ HXS.out).mono ?_
        rintro e w2 ⟨A2, n2, c2, rfl, hown, hbel⟩
        have HB2 := hide (below_step HB1.out hbel)
        have HO2 := hide hown
        clear hown hbel HB1 HR1
        cases hr : rightE x with
        | true =>
          have he : errE x = 0 := by unfold errE; rw [hr]; rfl
          have hff : f = putE x := by rw [HD.out, hr]; simp
          rw [he]
          have HFF := hide hff
          clear he hr hff
          go_wp2_with fail
          go_ret
          exact ⟨_, _, _, rfl, HO2.out.cap, by rw [HFF.out]; exact HO2.out.bs, HB2.out⟩
        | false =>
          have he : errE x = 1 := by unfold errE; rw [hr]; rfl
          have hff : f = firstS x.slot (l.drop (k + 1)) := by rw [HD.out, hr]; simp
          rw [he]
          have HFF := hide hff
          clear he hr hff
          go_wp2_with fail
          go_roundw
          case rel => exact ⟨k + 1, by omega, by go_num, hide HFF.out.symm, HB2.out⟩
          case measure => simp [intOf]; omega
      · have hne : (x.slot != slot) = true := by simpa using hs
        have hff : f = firstS slot (l.drop (k + 1)) := by rw [HD.out, show (x.slot == slot) = false from by simpa using hs]; simp
        have HFF := hide hff
        clear hff
        go_wp2_with ((with_reducible refine wpList_loadX rfl 23 (.tmp 13) rfl 3 ent_agg ent_size b (o + k * 3) rfl [Value.int .i64 x.slot, .int .i64 x.ino, .string ⟨x.name.toArray⟩] HC.out len3 ?_))
        go_roundw
        case rel => exact ⟨k + 1, by omega, by go_num, hide HFF.out.symm, HB1.out⟩
        case measure => simp [intOf]; omega
    · obtain rfl : k = n := by omega
      have hff : f = [] := by rw [← HK.out, List.drop_of_length_le (by have := H.out.len; omega)]; rfl
      have HFF := hide hff
      clear hff
      go_wp2_with fail
      go_ret
      exact ⟨_, _, _, rfl, by omega, by rw [HFF.out]; exact Bs.none_ _ _ _, HB.out⟩
end Go.Proofs.Ythjjjeolpdekoaa
