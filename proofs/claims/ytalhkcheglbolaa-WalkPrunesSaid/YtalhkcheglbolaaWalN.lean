/- walk: Reach, Path; the reference's Path (layer 13). -/
import Derived.Test.YtalhkcheglbolaaWalM
import Derived.Test.YtalhkcheglbolaaRefNameA
import Derived.Test.YtalhkcheglbolaaShelf
import Derived.Sort.OwnSorted
import Derived.Lib.RowBridge
namespace Go.Proofs.Ytalhkcheglbolaa
open Go.RowKit Go.Shelf Plain Go.Sort

set_option maxRecDepth 100000 in
set_option maxHeartbeats 1600000 in
theorem Reach_any {A F : Option Addr} {n c k d : Nat} {ns : List NodV} {ff : List Int} (w : World) (h : RdE nodEn w (Under w.heap.size) A n ns) (hf : RdE Enc.int w (Under w.heap.size) F k ff) (hM : Many ns) (hk : k ≤ 1000) :
    Calls Try.prog 16 #[.agg #[.slice A n c], .slice F k d] w (BoolsRet w (reachL ns (walkW ns ff).1)) := by
  have hb1 := below_new (below_self w) (.cells #[.slice A n c] 24)
  have H1 := hide (h.on hb1)
  have HF1 := hide (hf.on hb1)
  have HB1 := hide hb1
  have HM := hide hM
  clear h hf hb1
  go_enter Try.func16, Try.ntmps16
  go_wp2_with (first | (go_at_call 32; refine (walked_any _ H1.out HF1.out HM.out hk).mono ?_; rintro e w2 ⟨g, b, rfl, hw2, hb2⟩; have HW2 := hide hw2; have HB2 := hide (below_step HB1.out hb2); clear hw2 hb2) | (go_at_call 35; refine (reach_any _ HW2.out (walk_ok ns ff) HM.out).mono ?_; rintro e w3 ⟨A3, n3, c3, rfl, hn3, hr3, hb3, hf3⟩; have HR3 := hide hr3; have HF3 := hide hf3; clear hf3; have HB3 := hide (HB2.out.trans (hb3.mono HB2.out.size)); clear hr3 hb3))
  go_ret
  exact ⟨A3, n3, c3, rfl, hn3, HR3.out, HB3.out, fun b o e => Nat.le_trans HB2.out.size (HF3.out b o e)⟩
/-! Path -/
def wayI (l : List WayV) (i : Int) : Option WayV := if 0 ≤ i ∧ i < (l.length : Int) then l[i.toNat]? else none
def upsF (l : List WayV) : Nat → Int → List (List UInt8)
  | 0, _ => []
  | f + 1, i => match wayI l i with
    | none => []
    | some y => if 0 ≤ y.up ∧ y.up < i then y.name :: upsF l f y.up else []
def pathS (l : List WayV) (i : Int) : List (List UInt8) := (upsF l l.length i).reverse
theorem upsF_len (l : List WayV) : ∀ (f : Nat) (i : Int), (upsF l f i).length ≤ f
  | 0, _ => by simp [upsF]
  | f + 1, i => by
    unfold upsF
    split
    · simp
    · rename_i y _
      split
      · have := upsF_len l f y.up
        simp only [List.length_cons]
        omega
      · simp
theorem upsF_none {l : List WayV} {i : Int} (h : wayI l i = none) : ∀ f, upsF l f i = []
  | 0 => rfl
  | f + 1 => by unfold upsF; rw [h]
theorem upsF_stop {l : List WayV} {i : Int} {y : WayV} (h : wayI l i = some y) (hn : ¬ (0 ≤ y.up ∧ y.up < i)) : ∀ f, upsF l f i = []
  | 0 => rfl
  | f + 1 => by unfold upsF; rw [h]; simp only [if_neg hn]
theorem upsF_go {l : List WayV} {i : Int} {y : WayV} {f : Nat} (h : wayI l i = some y) (hn : 0 ≤ y.up ∧ y.up < i) : upsF l (f + 1) i = y.name :: upsF l f y.up := by
  conv => lhs; unfold upsF
  rw [h]
  simp only [if_pos hn]
theorem wayI_some {l : List WayV} {i : Int} {y : WayV} (h : wayI l i = some y) : ∃ j : Nat, i = (j : Int) ∧ l[j]? = some y := by
  unfold wayI at h
  split at h
  · rename_i hh
    obtain ⟨j, rfl⟩ := Int.eq_ofNat_of_zero_le hh.1
    exact ⟨j, rfl, by simpa using h⟩
  · cases h
theorem way_get {w : World} {D : Nat → Prop} {A : Option Addr} {n j : Nat} {l : List WayV} {y : WayV} (h : RdE wayEn w D A n l) (hy : l[j]? = some y) : ∃ b o, A = some ⟨b, o, none⟩ ∧ D b ∧ ∀ i v, (wayC y)[i]? = some v → w.cell? ⟨b, o + j * 3 + i, none⟩ = some v := by
  have hj := (List.getElem?_eq_some_iff.1 hy).1
  obtain ⟨b, o, e, hb, hc⟩ := h.2 (by rw [← h.1]; omega)
  obtain ⟨cs, hR, hcs⟩ := hc j y hy
  refine ⟨b, o, e, hb, fun i v hv => ?_⟩
  have := hcs i v (by rw [show cs = wayC y from hR]; exact hv)
  rwa [show o + (j * wayEn.k + i) = o + j * 3 + i from by show o + (j * 3 + i) = o + j * 3 + i; omega] at this
theorem ReverseS_own {base g n c : Nat} {l : List (List UInt8)} (w : World) (h : Ow st w base 9 (some ⟨g, 0, none⟩) n c l) (hn : n ≤ 1000000) :
    Calls Try.prog 38 #[.slice (some ⟨g, 0, none⟩) n c] w fun e w' => e = .returned (.tuple #[]) ∧ Ow st w' base 9 (some ⟨g, 0, none⟩) n c l.reverse ∧ w.grownBy w' (some g) := by
  have hl := h.len
  rcases h.2 with ⟨h0, _⟩ | ⟨g', cap, cur, he, hbase, hb, h1, h2, h3, h4⟩
  · cases h0
  · cases he
    subst hl
    refine (Try.slices_Reverse_string g 0 c l w (holds_of_block hb (by rw [Nat.mul_one] at h4; exact h4)) (by omega)).mono ?_
    rintro e w' ⟨rfl, q, rfl⟩
    have ho : Ow st (grow (putRow encStr (Sort.ahead w q) g 0 l.reverse.toArray) #[]) base 9 (some ⟨g, 0, none⟩) l.length c l.reverse :=
      ownsRow_sorted (by simp) hbase hb h1 h2 h3
    have hg := grownBy_sorted (w := w) (g := g) (n := q) (os := #[]) l.reverse.toArray
    rw [show ∀ w : World, grow w #[] = w from fun w => by simp [grow]] at ho hg
    exact ⟨rfl, ho, hg⟩
set_option maxRecDepth 100000 in
theorem str_info : (Try.prog.info? 9).map (fun i => (i.zero, i.size, i.bytes)) = some (some (.string ⟨#[]⟩), 1, 16) := by kernel_rfl
set_option maxRecDepth 100000 in
set_option maxHeartbeats 4000000 in
theorem Path_any {A : Option Addr} {n c : Nat} {l : List WayV} {i : Int} (w : World) (h : RdE wayEn w (Under w.heap.size) A n l) (hn : n ≤ 1000) :
    Calls Try.prog 19 #[.slice A n c, .int .i64 i] w (ORet st w 9 (pathS l i).length (pathS l i)) := by
  have H := hide h
  have hl := h.1
  obtain ⟨T, hT⟩ : ∃ T, upsF l l.length i = T := ⟨_, rfl⟩
  have hTl : T.length ≤ 1000 := by have := upsF_len l l.length i; rw [hT] at this; omega
  have HP := hide (show pathS l i = T.reverse from by unfold pathS; rw [hT])
  rw [HP.out, List.length_reverse]
  clear h HP
  go_enter Try.func19, Try.ntmps19
  go_wp2
  go_loopw [1, 5] (fun vi v5 wr => ∃ (f : Nat) (i' : Int) (A5 : Option Addr) (c5 : Nat) (acc : List (List UInt8)), vi = .int .i64 i' ∧ v5 = .slice A5 acc.length c5 ∧ Ow st wr w.heap.size 9 A5 acc.length c5 acc ∧ acc ++ upsF l f i' = T ∧ (i' < (l.length : Int) → (i' + 1).toNat ≤ f) ∧ Below w.heap.size w wr) (fun vi _ _ => match vi with | .int _ x => if x < (l.length : Int) then (x + 1).toNat else l.length + 1 | _ => 0)
  case atStart => exact ⟨l.length, i, none, 0, [], rfl, rfl, Ow.nil_ _ _ _ _, hT, fun h => by omega, below_self _⟩
  case round =>
    obtain ⟨f, i', A5, c5, acc, rfl, rfl, ho, ht, hf, hbr⟩ := hrel
    have HO := hide ho
    have HBR := hide hbr
    have HT := hide ht
    have hbr' := hbr
    clear ho hbr ht
    cases hw : wayI l i' with
    | none =>
      have hr1 : (decide (0 ≤ i') && decide (i' < (n : Int))) = false := by
        unfold wayI at hw
        split at hw
        · rename_i hh
          rw [List.getElem?_eq_getElem (by omega)] at hw
          cases hw
        · rename_i hh
          rw [Bool.and_eq_false_iff, decide_eq_false_iff_not, decide_eq_false_iff_not]
          omega
      rw [upsF_none hw] at HT
      clear hw
      rw [List.append_nil] at HT
      obtain rfl : acc = T := HT.out
      clear HT
      by_cases h0 : acc.length = 0
      · obtain rfl : acc = [] := List.eq_nil_of_length_eq_zero h0
        simp only [List.length_nil] at HO ⊢
        go_wp2_with (first | (go_at_call 37; refine (there_any _ hr1).mono ?_; rintro e w' ⟨rfl, rfl⟩; clear hr1) | (go_at_call 38; refine (Try.slices_Reverse_string_empty A5 c5 _).mono ?_; rintro e w' ⟨rfl, rfl⟩))
        go_ret
        exact ⟨A5, c5, rfl, HO.out, HBR.out⟩
      · obtain ⟨g5, rfl, hb5, -⟩ := HO.out.at_ (by omega)
        have hbsz := HBR.out.size
        go_wp2_with (first | (go_at_call 37; refine (there_any _ hr1).mono ?_; rintro e w' ⟨rfl, rfl⟩; clear hr1) | (go_at_call 38; refine (ReverseS_own _ HO.out (by omega)).mono ?_; rintro e w' ⟨rfl, ho2, hg2⟩; have HO2 := hide ho2; have HG2 := hide hg2; clear ho2 hg2))
        go_ret
        exact ⟨some ⟨g5, 0, none⟩, c5, rfl, HO2.out, HBR.out.grown HG2.out hbsz (fun k hk => by have := Option.some.inj hk; omega)⟩
    | some y =>
      obtain ⟨j, rfl, hy⟩ := wayI_some hw
      have hjl := (List.getElem?_eq_some_iff.1 hy).1
      obtain ⟨b, o, rfl, hbB, hcy⟩ := way_get (H.out.under hbr' (Nat.le_refl _)) hy
      have qu : wr.cell? ⟨b, o + j * 3 + 1, none⟩ = some (.int .i64 y.up) := hcy 1 _ rfl
      have qn : wr.cell? ⟨b, o + j * 3 + 2, none⟩ = some (.string ⟨y.name.toArray⟩) := hcy 2 _ rfl
      have hr1 : (decide (0 ≤ (j : Int)) && decide ((j : Int) < (n : Int))) = true := by simp; omega
      have hjt : ((j : Nat) : Int).toNat = j := by omega
      have hjn : j < n := by omega
      clear hcy
      by_cases h1 : y.up < (j : Int)
      · have hd1 : decide (y.up < (j : Int)) = true := by simpa using h1
        by_cases h2 : 0 ≤ y.up
        · have hr2 : (decide (0 ≤ y.up) && decide (y.up < (n : Int))) = true := by simp; omega
          have hfj := hf (by omega)
          obtain ⟨f', rfl⟩ : ∃ f', f = f' + 1 := ⟨f - 1, by omega⟩
          rw [upsF_go hw ⟨h2, h1⟩] at HT
          have hacc : acc.length + 1 ≤ 1000 := by have := congrArg List.length HT.out; rw [List.length_append, List.length_cons] at this; omega
          have hbsz := HBR.out.size
          clear hw hy hf
          go_wp2_with (first | (go_at_call 37; refine (there_any _ hr1).mono ?_; rintro e w' ⟨rfl, rfl⟩; clear hr1) | (go_at_call 37; refine (there_any _ hr2).mono ?_; rintro e w' ⟨rfl, rfl⟩; clear hr2) | (at_builtin; refine wpList_append_Rd (f := st) _ rfl (.tmp 27) (.tmp 33) 44 rfl w.heap.size 9 (.string ⟨#[]⟩) 16 Try.underlying44 str_info rfl (fun _ => rfl) _ acc.length _ acc rfl (HO.out.alloc _) _ _ 1 1 [y.name] rfl (Rd.one _ _ rfl) (acc.length + 1) rfl (by omega) (by omega) (by simp only [World.size_alloc]; omega) ?_; intro A6 c6 w6 ho6 hb6; have HO6 := hide ho6; have HB6 := hide hb6; have qu6 : w6.cell? ⟨b, o + j * 3 + 1, none⟩ = some (.int .i64 y.up) := (hb6.cell (p := ⟨b, o + j * 3 + 1, none⟩) hbB).trans (((below_new (below_self _) _).cell (p := ⟨b, o + j * 3 + 1, none⟩) (Nat.lt_of_lt_of_le hbB hbsz)).trans qu); clear ho6 hb6))
          go_roundw
          case rel => exact ⟨f', y.up, A6, c6, acc ++ [y.name], rfl, by rw [List.length_append]; rfl, by rw [List.length_append]; exact HO6.out, by rw [List.append_assoc]; exact HT.out, fun _ => by omega, (HBR.out.alloc hbsz _).trans HB6.out⟩
          case measure =>
            have e1 : y.up < (l.length : Int) := by omega
            have e2 : (j : Int) < (l.length : Int) := by omega
            simp only [e1, e2, if_true]
            omega
        · have hr2 : (decide (0 ≤ y.up) && decide (y.up < (n : Int))) = false := by simp; omega
          rw [upsF_stop hw (fun h => h2 h.1)] at HT
          clear hw hy hf
          rw [List.append_nil] at HT
          obtain rfl : acc = T := HT.out
          clear HT
          by_cases h0 : acc.length = 0
          · obtain rfl : acc = [] := List.eq_nil_of_length_eq_zero h0
            simp only [List.length_nil] at HO ⊢
            go_wp2_with (first | (go_at_call 37; refine (there_any _ hr1).mono ?_; rintro e w' ⟨rfl, rfl⟩; clear hr1) | (go_at_call 37; refine (there_any _ hr2).mono ?_; rintro e w' ⟨rfl, rfl⟩; clear hr2) | (go_at_call 38; refine (Try.slices_Reverse_string_empty A5 c5 _).mono ?_; rintro e w' ⟨rfl, rfl⟩))
            go_ret
            exact ⟨A5, c5, rfl, HO.out, HBR.out⟩
          · obtain ⟨g5, rfl, hb5, -⟩ := HO.out.at_ (by omega)
            have hbsz := HBR.out.size
            go_wp2_with (first | (go_at_call 37; refine (there_any _ hr1).mono ?_; rintro e w' ⟨rfl, rfl⟩; clear hr1) | (go_at_call 37; refine (there_any _ hr2).mono ?_; rintro e w' ⟨rfl, rfl⟩; clear hr2) | (go_at_call 38; refine (ReverseS_own _ HO.out (by omega)).mono ?_; rintro e w' ⟨rfl, ho2, hg2⟩; have HO2 := hide ho2; have HG2 := hide hg2; clear ho2 hg2))
            go_ret
            exact ⟨some ⟨g5, 0, none⟩, c5, rfl, HO2.out, HBR.out.grown HG2.out hbsz (fun k hk => by have := Option.some.inj hk; omega)⟩
      · have hd1 : decide (y.up < (j : Int)) = false := by simpa using h1
        rw [upsF_stop hw (fun h => h1 h.2)] at HT
        clear hw hy hf
        rw [List.append_nil] at HT
        obtain rfl : acc = T := HT.out
        clear HT
        by_cases h0 : acc.length = 0
        · obtain rfl : acc = [] := List.eq_nil_of_length_eq_zero h0
          simp only [List.length_nil] at HO ⊢
          go_wp2_with (first | (go_at_call 37; refine (there_any _ hr1).mono ?_; rintro e w' ⟨rfl, rfl⟩; clear hr1) | (go_at_call 38; refine (Try.slices_Reverse_string_empty A5 c5 _).mono ?_; rintro e w' ⟨rfl, rfl⟩))
          go_ret
          exact ⟨A5, c5, rfl, HO.out, HBR.out⟩
        · obtain ⟨g5, rfl, hb5, -⟩ := HO.out.at_ (by omega)
          have hbsz := HBR.out.size
          go_wp2_with (first | (go_at_call 37; refine (there_any _ hr1).mono ?_; rintro e w' ⟨rfl, rfl⟩; clear hr1) | (go_at_call 38; refine (ReverseS_own _ HO.out (by omega)).mono ?_; rintro e w' ⟨rfl, ho2, hg2⟩; have HO2 := hide ho2; have HG2 := hide hg2; clear ho2 hg2))
          go_ret
          exact ⟨some ⟨g5, 0, none⟩, c5, rfl, HO2.out, HBR.out.grown HG2.out hbsz (fun k hk => by have := Option.some.inj hk; omega)⟩
end Go.Proofs.Ytalhkcheglbolaa
