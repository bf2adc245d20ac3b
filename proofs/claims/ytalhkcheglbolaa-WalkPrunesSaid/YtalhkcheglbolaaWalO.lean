/- walk's references: Path, At, place (layer 13). -/
import Derived.Test.YtalhkcheglbolaaWalN
namespace Go.Proofs.Ytalhkcheglbolaa
open Go.RowKit Go.Shelf Plain

set_option maxRecDepth 100000 in
set_option maxHeartbeats 4000000 in
theorem RPath_any {A : Option Addr} {n c : Nat} {l : List WayV} {i : Int} (w : World) (h : RdE wayEn w (Under w.heap.size) A n l) (hn : n ≤ 1000) :
    Calls Try.prog 20 #[.slice A n c, .int .i64 i] w (ORet st w 9 (pathS l i).length (pathS l i)) := by
  have H := hide h
  have hl := h.1
  obtain ⟨T, hT⟩ : ∃ T, pathS l i = T := ⟨_, rfl⟩
  have hTl : T.length ≤ 1000 := by have := upsF_len l l.length i; rw [← hT]; unfold pathS; rw [List.length_reverse]; omega
  rw [hT]
  have hb0 := below_new (below_self w) (.cells #[] 9)
  have ho0 := Ow.empty st w 9
  have HB0 := hide hb0
  have HO0 := hide ho0
  clear h hb0 ho0
  go_enter Try.func20, Try.ntmps20
  go_wp2
  go_loopw [1, 5] (fun vi v5 wr => ∃ (f : Nat) (i' : Int) (A5 : Option Addr) (c5 : Nat) (acc : List (List UInt8)), vi = .int .i64 i' ∧ v5 = .slice A5 acc.length c5 ∧ Ow st wr w.heap.size 9 A5 acc.length c5 acc ∧ (upsF l f i').reverse ++ acc = T ∧ (i' < (l.length : Int) → (i' + 1).toNat ≤ f) ∧ Below w.heap.size w wr) (fun vi _ _ => match vi with | .int _ x => if x < (l.length : Int) then (x + 1).toNat else l.length + 1 | _ => 0)
  case atStart => exact ⟨l.length, i, _, 0, [], rfl, rfl, HO0.out, by rw [List.append_nil]; exact hT, fun h => by omega, HB0.out⟩
  case round =>
    obtain ⟨f, i', A5, c5, acc, rfl, rfl, ho, ht, hf, hbr⟩ := hrel
    have HO := hide ho
    have HBR := hide hbr
    have HT := hide ht
    have hbr' := hbr
    clear ho hbr ht
    cases hw : wayI l i' with
    | none =>
      rw [upsF_none hw, List.reverse_nil, List.nil_append] at HT
      obtain rfl : acc = T := HT.out
      clear HT
      by_cases h1 : 0 ≤ i'
      · have d1 : decide (0 ≤ i') = true := by simpa using h1
        have d2 : decide (i' < (n : Int)) = false := by
          unfold wayI at hw
          split at hw
          · rename_i hh
            rw [List.getElem?_eq_getElem (by omega)] at hw
            cases hw
          · rw [decide_eq_false_iff_not]
            omega
        clear hw
        go_wp2
        go_ret
        exact ⟨A5, c5, rfl, HO.out, HBR.out⟩
      · have d1 : decide (0 ≤ i') = false := by simpa using h1
        clear hw
        go_wp2
        go_ret
        exact ⟨A5, c5, rfl, HO.out, HBR.out⟩
    | some y =>
      obtain ⟨j, rfl, hy⟩ := wayI_some hw
      have hjl := (List.getElem?_eq_some_iff.1 hy).1
      obtain ⟨b, o, rfl, hbB, hcy⟩ := way_get (H.out.under hbr' (Nat.le_refl _)) hy
      have qu : wr.cell? ⟨b, o + j * 3 + 1, none⟩ = some (.int .i64 y.up) := hcy 1 _ rfl
      have qn : wr.cell? ⟨b, o + j * 3 + 2, none⟩ = some (.string ⟨y.name.toArray⟩) := hcy 2 _ rfl
      have d1 : decide (0 ≤ (j : Int)) = true := by simp
      have d2 : decide ((j : Int) < (n : Int)) = true := by simp; omega
      have hjt : ((j : Nat) : Int).toNat = j := by omega
      have hjn : j < n := by omega
      clear hcy
      by_cases h2 : 0 ≤ y.up
      · have d3 : decide (0 ≤ y.up) = true := by simpa using h2
        by_cases h1 : y.up < (j : Int)
        · have d4 : decide (y.up < (j : Int)) = true := by simpa using h1
          have hfj := hf (by omega)
          obtain ⟨f', rfl⟩ : ∃ f', f = f' + 1 := ⟨f - 1, by omega⟩
          rw [upsF_go hw ⟨h2, h1⟩] at HT
          have hacc : acc.length + 1 ≤ 1000 := by have := congrArg List.length HT.out; rw [List.length_append, List.length_reverse, List.length_cons] at this; omega
          have hbsz := HBR.out.size
          clear hw hy hf
          go_wp2_with (at_builtin; refine wpList_append_Rd (f := st) _ rfl (.tmp 37) (.tmp 38) 44 rfl wr.heap.size 9 (.string ⟨#[]⟩) 16 Try.underlying44 str_info rfl (fun _ => rfl) _ 1 _ [y.name] rfl (Ow.lit wr 9 rfl rfl (by omega)) _ _ acc.length _ acc rfl (HO.out.alloc _).rd (acc.length + 1) (by omega) (by omega) (by omega) (by simp only [World.size_alloc]; omega) ?_; intro A6 c6 w6 ho6 hb6; have HO6 := hide ho6; have HB6 := hide hb6; have qu6 : w6.cell? ⟨b, o + j * 3 + 1, none⟩ = some (.int .i64 y.up) := (hb6.cell (p := ⟨b, o + j * 3 + 1, none⟩) (Nat.lt_of_lt_of_le hbB hbsz)).trans (((below_new (below_self _) _).cell (p := ⟨b, o + j * 3 + 1, none⟩) (Nat.lt_of_lt_of_le hbB hbsz)).trans qu); clear ho6 hb6)
          go_roundw
          case rel => exact ⟨f', y.up, A6, c6, y.name :: acc, rfl, rfl, HO6.out.rebase hbsz, by have e := HT.out; rw [List.reverse_cons, List.append_assoc] at e; exact e, fun _ => by omega, (HBR.out.alloc hbsz _).trans (HB6.out.mono hbsz)⟩
          case measure =>
            have e1 : y.up < (l.length : Int) := by omega
            have e2 : (j : Int) < (l.length : Int) := by omega
            simp only [e1, e2, if_true]
            omega
        · have d4 : decide (y.up < (j : Int)) = false := by simpa using h1
          rw [upsF_stop hw (fun h => h1 h.2), List.reverse_nil, List.nil_append] at HT
          obtain rfl : acc = T := HT.out
          clear HT hw hy hf
          go_wp2
          go_ret
          exact ⟨A5, c5, rfl, HO.out, HBR.out⟩
      · have d3 : decide (0 ≤ y.up) = false := by simpa using h2
        rw [upsF_stop hw (fun h => h2 h.1), List.reverse_nil, List.nil_append] at HT
        obtain rfl : acc = T := HT.out
        clear HT hw hy hf
        go_wp2
        go_ret
        exact ⟨A5, c5, rfl, HO.out, HBR.out⟩
set_option maxRecDepth 100000 in
set_option maxHeartbeats 1600000 in
theorem At_any {A : Option Addr} {n c : Nat} {ns : List NodV} {i : Int} (w : World) (h : RdE nodEn w (Under w.heap.size) A n ns) (hm : ns.length ≤ 100000) : Calls Try.prog 36 #[.agg #[.slice A n c], .int .i64 i] w (NodRet w w.heap.size (nodAt ns i)) := by
  have hl := h.1
  obtain ⟨rz0, rz, hbz, -⟩ := rows2 w [.slice A n c] (nodC nod0 (.slice none 0 0) (.slice none 0 0)) 24 64
  have HZ := hide rz
  have HB := hide hbz
  have qb : ((w.alloc (.cells [Value.slice A n c].toArray 24)).alloc (.cells (nodC nod0 (.slice none 0 0) (.slice none 0 0)).toArray 64)).cell? ⟨w.heap.size, 0, none⟩ = some (.slice A n c) := rz0.cell 0
  have hN := h
  by_cases h1 : i < 1
  · have e : nodAt ns i = nod0 := nodAt_out (by omega)
    have d1 : decide (i < 1) = true := by simpa using h1
    rw [e]
    clear h hN rz rz0 hbz e
    go_enter Try.func36, Try.ntmps36
    go_wp2_with (refine wpList_storeW rfl 64 (.tmp 4) (.tmp 14) rfl 13 nod_size (w.heap.size + 1) 64 rfl (nodC nod0 (.slice none 0 0) (.slice none 0 0)) (nodC nod0 (.slice none 0 0) (.slice none 0 0)) rfl HZ.out rfl rfl (nodC_one nod0 none none 0 0 0 0) ?_; intro w9 hr9 hg9 hs9; have HR9 := hide hr9; have HB9 := hide (HB.out.grown hg9 HB.out.size (fun k hk => by have := Option.some.inj hk; omega)); clear hr9 hg9 hs9)
    exact bodyPost_ret (res_cell Try.results36 rfl nod_agg nod_size HR9.out rfl) rfl (NodRet.of (Nat.le_refl _) (RdE.none_ _ _ _ _) (Nat.le_refl _) (RdE.none_ _ _ _ _) HB9.out (Nat.le_refl _))
  · have d1 : decide (i < 1) = false := by simpa using h1
    by_cases h2 : (n : Int) < i
    · have e : nodAt ns i = nod0 := nodAt_out (by omega)
      have d2 : decide ((n : Int) < i) = true := by simpa using h2
      rw [e]
      clear h hN rz rz0 hbz e
      go_enter Try.func36, Try.ntmps36
      go_wp2_with (refine wpList_storeW rfl 64 (.tmp 4) (.tmp 14) rfl 13 nod_size (w.heap.size + 1) 64 rfl (nodC nod0 (.slice none 0 0) (.slice none 0 0)) (nodC nod0 (.slice none 0 0) (.slice none 0 0)) rfl HZ.out rfl rfl (nodC_one nod0 none none 0 0 0 0) ?_; intro w9 hr9 hg9 hs9; have HR9 := hide hr9; have HB9 := hide (HB.out.grown hg9 HB.out.size (fun k hk => by have := Option.some.inj hk; omega)); clear hr9 hg9 hs9)
      exact bodyPost_ret (res_cell Try.results36 rfl nod_agg nod_size HR9.out rfl) rfl (NodRet.of (Nat.le_refl _) (RdE.none_ _ _ _ _) (Nat.le_refl _) (RdE.none_ _ _ _ _) HB9.out (Nat.le_refl _))
    · have d2 : decide ((n : Int) < i) = false := by simpa using h2
      obtain ⟨j, x, rfl, hx, e⟩ := nodAt_in (ns := ns) (i := i) (by omega)
      rw [e]
      obtain ⟨b, o, cs, rfl, hbB, hNd, hcell⟩ := hN.get_nod hx
      have hjn : j < n := by omega
      have hcell1 := fun j' v (hv : cs[j']? = some v) => (hbz.cell (p := ⟨b, o + j * 13 + j', none⟩) hbB).trans (hcell j' v hv)
      obtain ⟨A1, n1, c1, C1, m1, d1', rfl, e2, e3, e4, e5⟩ := hNd
      have HC := hide hcell1
      have E3 := hide e3
      have E5 := hide e5
      have hw1 : IntKind.i64.wrap ((j : Int) + 1 - 1) = (j : Int) := by rw [show (j : Int) + 1 - 1 = j from by omega]; exact IntWalk.i64_in _ (by omega)
      have hw2 : IntKind.i64.wrap (j : Int) = (j : Int) := IntWalk.i64_in _ (by omega)
      clear h hN rz rz0 hbz e hcell hcell1 e3 e5 hx h1 h2
      go_enter Try.func36, Try.ntmps36
      go_wp2_with (first | (refine wpList_loadX rfl 64 (.tmp 19) rfl 13 nod_agg nod_size b (o + j * 13) rfl (nodC x (.slice A1 n1 c1) (.slice C1 m1 d1')) HC.out rfl ?_) | (refine wpList_storeW rfl 64 (.tmp 4) (.tmp 20) rfl 13 nod_size (w.heap.size + 1) 64 rfl (nodC nod0 (.slice none 0 0) (.slice none 0 0)) (nodC x (.slice A1 n1 c1) (.slice C1 m1 d1')) rfl HZ.out rfl rfl (nodC_one x A1 C1 n1 c1 m1 d1') ?_; intro w9 hr9 hg9 hs9; have HR9 := hide hr9; have HB9 := hide (HB.out.grown hg9 HB.out.size (fun k hk => by have := Option.some.inj hk; omega)); clear hr9 hg9 hs9))
      exact bodyPost_ret (res_cell Try.results36 rfl nod_agg nod_size HR9.out rfl) rfl (NodRet.of e2 E3.out e4 E5.out HB9.out (Nat.le_refl _))
end Go.Proofs.Ytalhkcheglbolaa
