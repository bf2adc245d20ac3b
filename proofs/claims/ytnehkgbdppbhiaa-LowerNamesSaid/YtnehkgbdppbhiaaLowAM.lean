import Derived.Test.YtnehkgbdppbhiaaPlnA
import Derived.Test.YtnehkgbdppbhiaaSortQ
import Derived.Test.YtnehkgbdppbhiaaWalZ
import Derived.Test.YtnehkgbdppbhiaaPlanL
import Derived.Test.YtnehkgbdppbhiaaPlanG
import Derived.Deep.Cut
import Derived.Deep.CutRange

/- Lower directories, as they are shown together: the mathematics (layer 16). Nothing here speaks of a program. -/
namespace Go.Proofs.Ytnehkgbdppbhiaa
open Go.RowKit Plain

/-- A lower node; a free one where there is none. -/
def lowAt (ls : List (List NodV)) (la i : Int) : NodV := if 1 ≤ la ∧ la ≤ (ls.length : Int) then nodAt ((ls[(la - 1).toNat]?).getD []) i else nod0
theorem low_out {ls : List (List NodV)} {la i : Int} (h : ¬ (1 ≤ la ∧ la ≤ (ls.length : Int))) : lowAt ls la i = nod0 := by unfold lowAt; rw [if_neg h]
theorem low_in {ls : List (List NodV)} {la i : Int} (h : 1 ≤ la ∧ la ≤ (ls.length : Int)) : ∃ (j : Nat) (ns : List NodV), la = (j : Int) + 1 ∧ ls[j]? = some ns ∧ lowAt ls la i = nodAt ns i := by
  obtain ⟨j, hj⟩ := Int.eq_ofNat_of_zero_le (show 0 ≤ la - 1 by omega)
  have hl : j < ls.length := by omega
  refine ⟨j, ls[j], by omega, List.getElem?_eq_getElem hl, ?_⟩
  unfold lowAt
  rw [if_pos h, hj]
  simp [hl]
/-- Few layers of few nodes that may be. -/
def FewL (ls : List (List NodV)) : Prop := ls.length ≤ 3 ∧ ∀ ns ∈ ls, ns.length ≤ 24 ∧ ∀ x ∈ ns, PlainN x
theorem plain0 : PlainN nod0 := by
  refine ⟨fun i e _ h => by simp [nod0] at h, ?_, ?_, ?_, ?_, ?_, fun e h => by simp [nod0] at h⟩ <;> simp [nod0, att0]
theorem nodAt_plain {ns : List NodV} (h : ∀ x ∈ ns, PlainN x) (i : Int) : PlainN (nodAt ns i) := by
  unfold nodAt
  split
  · cases hx : ns[(i - 1).toNat]? with
    | none => exact plain0
    | some x => exact h x (List.mem_of_getElem? hx)
  · exact plain0
theorem low_plain {ls : List (List NodV)} (h : FewL ls) (la i : Int) : PlainN (lowAt ls la i) := by
  by_cases hh : 1 ≤ la ∧ la ≤ (ls.length : Int)
  · obtain ⟨j, ns, -, hn, e⟩ := low_in (i := i) hh
    rw [e]
    exact nodAt_plain (h.2 ns (List.mem_of_getElem? hn)).2 i
  · rw [low_out hh]
    exact plain0
/-- Is a node opaque? -/
def opq (n : NodV) : Bool := decide (n.att.h % 2 = 1) && decide (n.att.o = 121)
/-- The entries of a place; none of what is no directory. -/
def entL (ls : List (List NodV)) (p : Int × Int) : List EntV := if (lowAt ls p.1 p.2).k = 1 then (lowAt ls p.1 p.2).ents else []
theorem entL_len {ls : List (List NodV)} (h : FewL ls) (p : Int × Int) : (entL ls p).length ≤ 16 := by
  unfold entL
  split
  · exact (low_plain h p.1 p.2).2.2.2.2.1
  · simp
/-- The first entry of a name that is of use. -/
def useE (ls : List (List NodV)) (la : Int) (nm : List UInt8) (e : EntV) : Bool := decide (e.name = nm) && decide ((lowAt ls la e.ino).k ≠ 0)
def firstL (ls : List (List NodV)) (p : Int × Int) (nm : List UInt8) : Option (Int × Int) := ((entL ls p).find? (useE ls p.1 nm)).map (fun e => (p.1, e.ino))
/-- A lower layer; one without nodes where there is none. -/
def layL (ls : List (List NodV)) (la : Int) : List NodV := if 1 ≤ la ∧ la ≤ (ls.length : Int) then (ls[(la - 1).toNat]?).getD [] else []
theorem nodAt_nil (i : Int) : nodAt [] i = nod0 := by unfold nodAt; rw [if_neg]; simp; omega
theorem lay_at (ls : List (List NodV)) (la i : Int) : nodAt (layL ls la) i = lowAt ls la i := by
  unfold layL lowAt
  split
  · rfl
  · exact nodAt_nil i
/-- The entries of a directory of a layer; none of what is no directory. -/
def entB (ns : List NodV) (i : Int) : List EntV := if (nodAt ns i).k = 1 then (nodAt ns i).ents else []
def useB (ns : List NodV) (nm : List UInt8) (e : EntV) : Bool := decide (e.name = nm) && decide ((nodAt ns e.ino).k ≠ 0)
/-- The first entry of a name that is of use. -/
def firstB (ns : List NodV) (i : Int) (nm : List UInt8) : Option EntV := (entB ns i).find? (useB ns nm)
def entO (o : Option EntV) : EntV := o.getD ent0
def nodB (ns : List NodV) (o : Option EntV) : NodV := match o with
  | none => nod0
  | some e => nodAt ns e.ino
theorem ent_lay (ls : List (List NodV)) (p : Int × Int) : entB (layL ls p.1) p.2 = entL ls p := by unfold entB entL; rw [lay_at]
theorem use_lay (ls : List (List NodV)) (la : Int) (nm : List UInt8) : useB (layL ls la) nm = useE ls la nm := by funext e; unfold useB useE; rw [lay_at]
theorem first_lay (ls : List (List NodV)) (p : Int × Int) (nm : List UInt8) : firstL ls p nm = (firstB (layL ls p.1) p.2 nm).map (fun e => (p.1, e.ino)) := by unfold firstL firstB; rw [ent_lay, use_lay]
theorem nodB_lay (ls : List (List NodV)) (la : Int) (o : Option EntV) : nodB (layL ls la) o = (match o.map (fun e => (la, e.ino)) with | none => nod0 | some x => lowAt ls x.1 x.2) := by
  cases o with
  | none => rfl
  | some e => exact lay_at ls la e.ino
theorem firstB_use {ns : List NodV} {i : Int} {nm : List UInt8} {e : EntV} (h : firstB ns i nm = some e) : (nodAt ns e.ino).k ≠ 0 ∧ e.name = nm ∧ e ∈ entB ns i := by
  have h1 := List.find?_some h
  unfold useB at h1
  simp only [Bool.and_eq_true, decide_eq_true_eq] at h1
  exact ⟨h1.2, h1.1, List.mem_of_find?_eq_some h⟩
theorem lay_few {ls : List (List NodV)} (h : FewL ls) (la : Int) : (layL ls la).length ≤ 24 ∧ ∀ x ∈ layL ls la, PlainN x := by
  unfold layL
  split
  · cases hx : ls[(la - 1).toNat]? with
    | none => simp
    | some ns => exact h.2 ns (List.mem_of_getElem? hx)
  · simp
/-- What a name shows in the directories of a list, with those told ahead. -/
def findL (ls : List (List NodV)) (nm : List UInt8) : List (Int × Int) → List (Int × Int) → Int × List (Int × Int)
  | [], acc => if acc = [] then (0, []) else (1, acc)
  | p :: r, acc => match firstL ls p nm with
    | none => findL ls nm r acc
    | some x => if (lowAt ls x.1 x.2).k = 1 then (if opq (lowAt ls x.1 x.2) then (1, acc ++ [x]) else findL ls nm r (acc ++ [x]))
      else if acc ≠ [] then (1, acc) else if (lowAt ls x.1 x.2).k = 4 then (0, []) else ((lowAt ls x.1 x.2).k, [x])
theorem first_use {ls : List (List NodV)} {p x : Int × Int} {nm : List UInt8} (h : firstL ls p nm = some x) : (lowAt ls x.1 x.2).k ≠ 0 := by
  unfold firstL at h
  rw [Option.map_eq_some_iff] at h
  obtain ⟨e, he, rfl⟩ := h
  have := List.find?_some he
  unfold useE at this
  simp only [Bool.and_eq_true, decide_eq_true_eq] at this
  exact this.2
theorem findL_len (ls : List (List NodV)) (nm : List UInt8) : ∀ (l acc : List (Int × Int)), (findL ls nm l acc).2.length ≤ l.length + acc.length
  | [], acc => by unfold findL; split <;> simp
  | p :: r, acc => by
    unfold findL
    have h1 := findL_len ls nm r acc
    split
    · simp only [List.length_cons]; omega
    · rename_i x _
      have h2 := findL_len ls nm r (acc ++ [x])
      simp only [List.length_append, List.length_cons, List.length_nil] at h2 ⊢
      (repeat' split) <;> (try simp only [List.length_append, List.length_cons, List.length_nil]) <;> (first | omega | (dsimp only; omega))
/-- How a list of what was told reads: its kind. -/
theorem findL_kind {ls : List (List NodV)} (hF : FewL ls) (nm : List UInt8) : ∀ (l acc : List (Int × Int)), let R := findL ls nm l acc; (R.1 ≠ 0 ↔ R.2 ≠ []) ∧ (R.1 ≠ 1 → R.2.length ≤ 1) ∧ 0 ≤ R.1 ∧ R.1 ≤ 3
  | [], acc => by
    unfold findL
    split <;> simp_all
  | p :: r, acc => by
    have h1 := findL_kind hF nm r acc
    unfold findL
    cases hx : firstL ls p nm with
    | none => exact h1
    | some x =>
      have h2 := findL_kind hF nm r (acc ++ [x])
      have hk := (low_plain hF x.1 x.2).2.1
      have hu := first_use hx
      simp only
      by_cases k1 : (lowAt ls x.1 x.2).k = 1
      · rw [if_pos k1]
        cases opq (lowAt ls x.1 x.2)
        · simpa using h2
        · simp
      · rw [if_neg k1]
        by_cases ha : acc ≠ []
        · rw [if_pos ha]
          simp [ha]
        · rw [if_neg ha]
          by_cases k4 : (lowAt ls x.1 x.2).k = 4
          · rw [if_pos k4]; simp
          · rw [if_neg k4]
            simp [hu]
            omega
end Go.Proofs.Ytnehkgbdppbhiaa

/- nodes.Beneath and nodes.Lower: a lower layer, and the node of a place in one. -/
namespace Go.Proofs.Ytnehkgbdppbhiaa
open Go.RowKit Go.Shelf Plain

/-- A layout, as four numbers. -/
structure GeoQ where
  (a b c d : Int)
/-- A stack's cells. -/
def stkC (g : GeoQ) (U L : Value) : List Value := [.int .i64 g.a, .int .i64 g.b, .int .i64 g.c, .int .i64 g.d, U, L]
/-- A layer: a slice of nodes. -/
def layEn : Enc (List NodV) := Enc.list nodEn
/-- It returns a layer. -/
def LayB (w : World) (B : Nat) (ns : List NodV) (e : Ending) (w' : World) : Prop := ∃ A n c, e = .returned (.agg #[.slice A n c]) ∧ n ≤ c ∧ RdE nodEn w' (Under B) A n ns ∧ Below w.heap.size w w'
theorem lay_out {ls : List (List NodV)} {la : Int} (h : ¬ (1 ≤ la ∧ la ≤ (ls.length : Int))) : layL ls la = [] := by unfold layL; rw [if_neg h]
theorem lay_in {ls : List (List NodV)} {la : Int} (h : 1 ≤ la ∧ la ≤ (ls.length : Int)) : ∃ (j : Nat) (ns : List NodV), la = (j : Int) + 1 ∧ ls[j]? = some ns ∧ layL ls la = ns := by
  obtain ⟨j, hj⟩ := Int.eq_ofNat_of_zero_le (show 0 ≤ la - 1 by omega)
  have hl : j < ls.length := by omega
  refine ⟨j, ls[j], by omega, List.getElem?_eq_getElem hl, ?_⟩
  unfold layL
  rw [if_pos h, hj]
  simp [hl]
theorem slc_one (A : Option Addr) (n c : Nat) : ∀ v ∈ [Value.slice A n c], v.oneCell' = true := by simp [Value.oneCell']
set_option maxRecDepth 100000 in
theorem stk_agg : ∀ w, (isAgg 29).run Try.prog w = .ok true w := fun w => by kernel_rfl
set_option maxRecDepth 100000 in
theorem stk_size : ∀ w, (Go.sizeOf 29).run Try.prog w = .ok 6 w := fun w => by kernel_rfl
set_option maxRecDepth 100000 in
theorem plc_agg : ∀ w, (isAgg 38).run Try.prog w = .ok true w := fun w => by kernel_rfl
set_option maxRecDepth 100000 in
theorem plc_size : ∀ w, (Go.sizeOf 38).run Try.prog w = .ok 2 w := fun w => by kernel_rfl
set_option maxRecDepth 100000 in
theorem brn_agg : ∀ w, (isAgg 26).run Try.prog w = .ok true w := fun w => by kernel_rfl
set_option maxRecDepth 100000 in
theorem brn_size : ∀ w, (Go.sizeOf 26).run Try.prog w = .ok 1 w := fun w => by kernel_rfl
set_option maxRecDepth 100000 in
set_option maxHeartbeats 1600000 in
theorem Beneath_any {g : GeoQ} {AU AL : Option Addr} {nU cU nL cL : Nat} {ls : List (List NodV)} {la : Int} {B : Nat} (w : World) (h : RdE layEn w (Under B) AL nL ls) (hB : B ≤ w.heap.size) (hm : ls.length ≤ 100) :
    Calls Try.prog 31 #[.agg (stkC g (.slice AU nU cU) (.slice AL nL cL)).toArray, .int .i64 la] w (LayB w B (layL ls la)) := by
  obtain ⟨r0, r1, hb2, hs2⟩ := rows2 w (stkC g (.slice AU nU cU) (.slice AL nL cL)) [.slice none 0 0] 29 26
  obtain ⟨W3, hW3⟩ : ∃ W3, (w.alloc (.cells (stkC g (.slice AU nU cU) (.slice AL nL cL)).toArray 29)).alloc (.cells [Value.slice none 0 0].toArray 26) = W3 := ⟨_, rfl⟩
  rw [hW3] at r0 r1 hb2 hs2
  have hW3' : (w.alloc (.cells #[.int .i64 g.a, .int .i64 g.b, .int .i64 g.c, .int .i64 g.d, .slice AU nU cU, .slice AL nL cL] 29)).alloc (.cells #[.slice none 0 0] 26) = W3 := hW3
  have hl := h.1
  have q5 : W3.cell? ⟨w.heap.size, 5, none⟩ = some (.slice AL nL cL) := r0.cell 5
  have HZ := hide r1
  have HB3 := hide hb2
  have hs3 : w.heap.size ≤ W3.heap.size := hb2.size
  have HL := hide (h.under hb2 hB)
  unfold stkC
  by_cases h1 : la ≤ 0
  · have e : layL ls la = [] := lay_out (by omega)
    have d1 : decide (la ≤ 0) = true := by simpa using h1
    rw [e]
    clear h r0 r1 hb2 hW3 e h1
    go_enter Try.func31, Try.ntmps31
    go_wp2_with (refine wpList_storeW rfl 26 (.tmp 4) (.tmp 14) rfl 1 brn_size (w.heap.size + 1) 26 rfl [.slice none 0 0] [.slice none 0 0] rfl HZ.out rfl rfl (slc_one _ _ _) ?_; intro w9 hr9 hg9 hs9; have HR9 := hide hr9; have HB9 := hide (HB3.out.grown hg9 HB3.out.size (fun k hk => by have := Option.some.inj hk; omega)); clear hr9 hg9 hs9)
    exact bodyPost_ret (res_cell Try.results31 rfl brn_agg brn_size HR9.out rfl) rfl ⟨none, 0, 0, rfl, Nat.le_refl _, RdE.none_ _ _ _ _, HB9.out⟩
  · have d1 : decide (la ≤ 0) = false := by simpa using h1
    by_cases h2 : (nL : Int) < la
    · have e : layL ls la = [] := lay_out (by omega)
      have d2 : decide ((nL : Int) < la) = true := by simpa using h2
      rw [e]
      clear h r0 r1 hb2 hW3 e h1 h2
      go_enter Try.func31, Try.ntmps31
      go_wp2_with (refine wpList_storeW rfl 26 (.tmp 4) (.tmp 14) rfl 1 brn_size (w.heap.size + 1) 26 rfl [.slice none 0 0] [.slice none 0 0] rfl HZ.out rfl rfl (slc_one _ _ _) ?_; intro w9 hr9 hg9 hs9; have HR9 := hide hr9; have HB9 := hide (HB3.out.grown hg9 HB3.out.size (fun k hk => by have := Option.some.inj hk; omega)); clear hr9 hg9 hs9)
      exact bodyPost_ret (res_cell Try.results31 rfl brn_agg brn_size HR9.out rfl) rfl ⟨none, 0, 0, rfl, Nat.le_refl _, RdE.none_ _ _ _ _, HB9.out⟩
    · have d2 : decide ((nL : Int) < la) = false := by simpa using h2
      obtain ⟨j, ns, hla, hns, e⟩ := lay_in (ls := ls) (la := la) (by omega)
      rw [e]
      obtain ⟨bL, oL, hAL, hbL, A2, n2, c2, hcL, hc2, hN2⟩ := RdE.get_list (F := nodEn) HL.out hns
      have hjn : j < nL := by omega
      have HNS := hide hN2
      subst hla
      subst hAL
      have hw1 : IntKind.i64.wrap ((j : Int) + 1 - 1) = (j : Int) := by rw [show (j : Int) + 1 - 1 = j from by omega]; exact IntWalk.i64_in _ (by omega)
      have hw2 : IntKind.i64.wrap (j : Int) = (j : Int) := IntWalk.i64_in _ (by omega)
      have hjl : (j : Int) < (nL : Int) := by omega
      clear h r0 r1 hb2 hW3 e h1 h2 hN2 hns hl
      go_enter Try.func31, Try.ntmps31
      go_wp2_with (first | fail | (refine wpList_storeW rfl 26 (.tmp 4) (.tmp 20) rfl 1 brn_size (w.heap.size + 1) 26 rfl [.slice none 0 0] [.slice A2 n2 c2] rfl HZ.out rfl rfl (slc_one _ _ _) ?_; intro w9 hr9 hg9 hs9; have HR9 := hide hr9; have HB9 := hide (HB3.out.grown hg9 HB3.out.size (fun k hk => by have := Option.some.inj hk; omega)); have HN9 := hide (HNS.out.mono (show Kept (Under B) W3 w9 from fun b hb => hg9.block b (by unfold Under at hb; omega) (fun e => by have := Option.some.inj e; unfold Under at hb; omega)) (fun _ h => h)); clear hr9 hg9 hs9))
      exact bodyPost_ret (res_cell Try.results31 rfl brn_agg brn_size HR9.out rfl) rfl ⟨A2, n2, c2, rfl, hc2, HN9.out, HB9.out⟩
theorem Beneath_e {g : GeoQ} {AU AL : Option Addr} {nU cU nL cL : Nat} {ls : List (List NodV)} {ns : List NodV} {la : Int} {B : Nat} (hx : layL ls la = ns) (w : World) (h : RdE layEn w (Under B) AL nL ls) (hB : B ≤ w.heap.size) (hm : ls.length ≤ 100) :
    Calls Try.prog 31 #[.agg (stkC g (.slice AU nU cU) (.slice AL nL cL)).toArray, .int .i64 la] w (LayB w B ns) := by rw [← hx]; exact Beneath_any w h hB hm
theorem Of_e {A : Option Addr} {B : Nat} {n c : Nat} {ns : List NodV} {i : Int} {x : NodV} (hx : nodAt ns i = x) (w : World) (h : RdE nodEn w (Under B) A n ns) (hB : B ≤ w.heap.size) (hm : ns.length ≤ 100000) : Calls Try.prog 47 #[.agg #[.slice A n c], .int .i64 i] w (NodRet w B x) := by rw [← hx]; exact Of_any w h hB hm
theorem layL_len {ls : List (List NodV)} (h : ∀ ns ∈ ls, ns.length ≤ 1000) (la : Int) : (layL ls la).length ≤ 1000 := by
  unfold layL
  split
  · cases hx : ls[(la - 1).toNat]? with
    | none => simp
    | some ns => exact h ns (List.mem_of_getElem? hx)
  · simp
set_option maxRecDepth 100000 in
set_option maxHeartbeats 4000000 in
theorem NLower_any {g : GeoQ} {AU AL : Option Addr} {nU cU nL cL : Nat} {ls : List (List NodV)} {la i : Int} {B : Nat} (w : World) (h : RdE layEn w (Under B) AL nL ls) (hB : B ≤ w.heap.size) (hm : ls.length ≤ 100) (hm2 : ∀ ns ∈ ls, ns.length ≤ 1000) :
    Calls Try.prog 29 #[.agg (stkC g (.slice AU nU cU) (.slice AL nL cL)).toArray, .agg #[.int .i64 la, .int .i64 i]] w (NodRet w B (lowAt ls la i)) := by
  obtain ⟨r0, r1, r2, hb3, hs3⟩ := rows3 w (stkC g (.slice AU nU cU) (.slice AL nL cL)) [.int .i64 la, .int .i64 i] (nodC nod0 (.slice none 0 0) (.slice none 0 0)) 29 38 59
  obtain ⟨W3, hW3⟩ : ∃ W3, ((w.alloc (.cells (stkC g (.slice AU nU cU) (.slice AL nL cL)).toArray 29)).alloc (.cells [Value.int .i64 la, .int .i64 i].toArray 38)).alloc (.cells (nodC nod0 (.slice none 0 0) (.slice none 0 0)).toArray 59) = W3 := ⟨_, rfl⟩
  rw [hW3] at r0 r1 r2 hb3 hs3
  have hW3' : ((w.alloc (.cells #[.int .i64 g.a, .int .i64 g.b, .int .i64 g.c, .int .i64 g.d, .slice AU nU cU, .slice AL nL cL] 29)).alloc (.cells #[.int .i64 la, .int .i64 i] 38)).alloc (.cells #[.int .i64 0, .int .i64 0, .int .i64 0, .int .i64 0, .slice none 0 0, .slice none 0 0, .int .i64 0, .int .i64 0, .string ⟨#[]⟩, .int .i64 0, .int .i64 0, .int .i64 0, .int .i64 0] 59) = W3 := hW3
  have HQ0 := hide (fun W (hb : Below W3.heap.size W3 W) => show W.cell? ⟨w.heap.size + 1, 0, none⟩ = some (.int .i64 la) from (r1.on hb).cell 0)
  have HQ1 := hide (fun W (hb : Below W3.heap.size W3 W) => show W.cell? ⟨w.heap.size + 1, 1, none⟩ = some (.int .i64 i) from (r1.on hb).cell 1)
  have R0 := hide r0
  have R2 := hide r2
  have HB3 := hide hb3
  have hs3 : w.heap.size ≤ W3.heap.size := hb3.size
  have HL := hide (h.under hb3 hB)
  have hlay := layL_len hm2 la
  rw [← lay_at]
  obtain ⟨x, hx⟩ : ∃ x, nodAt (layL ls la) i = x := ⟨_, rfl⟩
  obtain ⟨ly, hly⟩ : ∃ ly, layL ls la = ly := ⟨_, rfl⟩
  rw [hly] at hx hlay
  have HLY := hide hly
  unfold stkC
  clear h r0 r1 r2 hb3 hW3
  rw [hly, hx]
  have HX := hide hx
  clear hx hly
  go_enter Try.func29, Try.ntmps29
  go_wp2_with fail
  clear hW3'
  refine wp_region_planL (fun w' => Below W3.heap.size W3 w') [(0, true), (1, true), (2, true), (4, true), (5, true), (3, false), (6, false)] 7 (by kernel_rfl) (by kernel_rfl) (by kernel_rfl) (by kernel_rfl) (by kernel_rfl) rfl (fun _ _ _ _ _ h => h) (below_drew (below_self W3)) (fun hHeld => ?_)
  simp only [planOps, List.filterMap_cons, List.filterMap_nil, List.getElem?_toArray, List.getElem?_cons_succ, List.getElem?_cons_zero, Option.map_some]
  refine wpPlan_take (v := ?_) (by kernel_rfl) (fun wS hSw => ?_) ?_
  rotate_left
  · refine execOp_load (x := .tmp 2) (k := 6) (g := w.heap.size) (off := 0) (cs := stkC g (.slice AU nU cU) (.slice AL nL cL)) ?_ stk_agg stk_size ?_ (fun j v hv => by rw [Nat.zero_add]; exact ((R0.out.on hSw).cell j).trans hv) rfl <;> rfl
  (try simp only [Act.put, List.setIfInBounds_toArray, List.set_cons_zero, List.set_cons_succ])
  refine wpPlan_take (v := ?_) (by kernel_rfl) (fun wS hSw => ?_) ?_
  rotate_left
  · (try dsimp only at hSw); go_simp; (try with_reducible rfl)
  (try simp only [Act.put, List.setIfInBounds_toArray, List.set_cons_zero, List.set_cons_succ])
  refine wpPlan_take (v := ?_) (by kernel_rfl) (fun wS hSw => ?_) ?_
  rotate_left
  · have qx := HQ0.out wS hSw; go_simp; (try with_reducible rfl)
  (try simp only [Act.put, List.setIfInBounds_toArray, List.set_cons_zero, List.set_cons_succ])
  refine wpPlan_take (v := ?_) (by kernel_rfl) (fun wS hSw => ?_) ?_
  rotate_left
  · (try dsimp only at hSw); go_simp; (try with_reducible rfl)
  (try simp only [Act.put, List.setIfInBounds_toArray, List.set_cons_zero, List.set_cons_succ])
  refine wpPlan_take (v := ?_) (by kernel_rfl) (fun wS hSw => ?_) ?_
  rotate_left
  · have qx := HQ1.out wS hSw; go_simp; (try with_reducible rfl)
  (try simp only [Act.put, List.setIfInBounds_toArray, List.set_cons_zero, List.set_cons_succ])
  refine wpPlan_call (by kernel_rfl) (fun K hK => ?_)
  have hOld := hide hHeld
  clear hHeld
  go_simp
  go_at_call 31
  refine (Beneath_e HLY.out (B := B) _ (HL.out.under hOld.out (by omega)) (by have := hOld.out.size; omega) hm).mono ?_
  rintro e w' ⟨A1, n1, c1, rfl, e2, e3, hbel⟩
  have HN := hide e3
  clear e3
  refine hK.out _ _ (hOld.out.trans (hbel.mono hOld.out.size)) (fun hHeld => ?_)
  clear hK K
  (try simp only [Act.put, List.setIfInBounds_toArray, List.set_cons_zero, List.set_cons_succ])
  refine wpPlan_call (by kernel_rfl) (fun K hK => ?_)
  have hOld := hide hHeld
  clear hHeld
  go_simp
  go_at_call 47
  refine (Of_e HX.out (B := B) _ HN.out (by have := hOld.out.size; omega) (by omega)).mono ?_
  rintro e w' ⟨A2, n2, c2, C2, m2, d2, rfl, f2, f3, f4, f5, hbel⟩
  have E3 := hide f3
  have E5 := hide f5
  clear f3 f5
  refine hK.out _ _ (hOld.out.trans (hbel.mono hOld.out.size)) (fun hHeld => ?_)
  clear hK K
  (try simp only [Act.put, List.setIfInBounds_toArray, List.set_cons_zero, List.set_cons_succ])
  refine wpPlan_end ?_
  refine postL_go rfl (by kernel_rfl) ?_
  have R9 := hide (R2.out.on hHeld)
  have HBX := hide (HB3.out.trans (hHeld.mono hs3))
  have hsX := hHeld.size
  clear hHeld
  refine wp_storeC 59 (.tmp 4) (.tmp 11) rfl 13 nod_size (w.heap.size + 1 + 1) 0 59 rfl (nodC nod0 (.slice none 0 0) (.slice none 0 0)) (nodC x (.slice A2 n2 c2) (.slice C2 m2 d2)) rfl R9.out rfl (by exact Nat.le_refl _) (nodC_one _ _ _ _ _ _ _) ?_
  intro w9 hr9 hg9 hs9
  have e9 : splice (nodC nod0 (.slice none 0 0) (.slice none 0 0)) 0 (nodC x (.slice A2 n2 c2) (.slice C2 m2 d2)) = nodC x (.slice A2 n2 c2) (.slice C2 m2 d2) := by simp [splice, nodC]
  rw [e9] at hr9
  have HR9 := hide hr9
  have HG9 := hide hg9
  clear hr9 hg9 e9
  (try simp only [Act.put])
  go_wp2_with fail
  have hk : Kept (Under B) w' w9 := fun b hb => HG9.out.block b (by unfold Under at hb; omega) (fun e => by have := Option.some.inj e; unfold Under at hb; omega)
  exact bodyPost_ret (res_cell Try.results29 rfl nod_agg nod_size HR9.out rfl) rfl ⟨A2, n2, c2, C2, m2, d2, rfl, f2, E3.out.mono hk (fun _ h => h), f4, E5.out.mono hk (fun _ h => h), HBX.out.grown HG9.out (by omega) (fun k hk => by have := Option.some.inj hk; omega)⟩
end Go.Proofs.Ytnehkgbdppbhiaa

/- nodes.Has, nodes.Marked, nodes.Entries, nodes.First. -/
namespace Go.Proofs.Ytnehkgbdppbhiaa
open Go.RowKit Go.Shelf Plain

theorem bit_one : ∀ h : Fin 32, (bits .and .i64 (h.1 : Int) 1 != 0) = decide ((h.1 : Int) % 2 = 1) := by decide +kernel
theorem bit_one' {h : Int} (h0 : 0 ≤ h) (h1 : h ≤ 31) : (bits .and .i64 h 1 != 0) = decide (h % 2 = 1) := by
  obtain ⟨n, rfl⟩ := Int.eq_ofNat_of_zero_le h0
  exact bit_one ⟨n, by omega⟩
theorem bit_is1 : ∀ h : Fin 32, (bits .and .i64 (h.1 : Int) 1 == 1) = decide ((h.1 : Int) % 2 = 1) := by decide +kernel
theorem bit_is1' {h : Int} (h0 : 0 ≤ h) (h1 : h ≤ 31) : (bits .and .i64 h 1 == 1) = decide (h % 2 = 1) := by
  obtain ⟨n, rfl⟩ := Int.eq_ofNat_of_zero_le h0
  exact bit_is1 ⟨n, by omega⟩
theorem bit_is2 : ∀ h : Fin 32, (bits .and .i64 (h.1 : Int) 2 == 2) = decide ((h.1 : Int) / 2 % 2 = 1) := by decide +kernel
theorem bit_is2' {h : Int} (h0 : 0 ≤ h) (h1 : h ≤ 31) : (bits .and .i64 h 2 == 2) = decide (h / 2 % 2 = 1) := by
  obtain ⟨n, rfl⟩ := Int.eq_ofNat_of_zero_le h0
  exact bit_is2 ⟨n, by omega⟩
theorem bit_is20 : ∀ h : Fin 32, (bits .and .i64 (h.1 : Int) 20 == 20) = (decide ((h.1 : Int) / 4 % 2 = 1) && decide ((h.1 : Int) / 16 % 2 = 1)) := by decide +kernel
theorem bit_is20' {h : Int} (h0 : 0 ≤ h) (h1 : h ≤ 31) : (bits .and .i64 h 20 == 20) = (decide (h / 4 % 2 = 1) && decide (h / 16 % 2 = 1)) := by
  obtain ⟨n, rfl⟩ := Int.eq_ofNat_of_zero_le h0
  exact bit_is20 ⟨n, by omega⟩
set_option maxRecDepth 100000 in
set_option maxHeartbeats 1600000 in
theorem NHas_b {x : NodV} {D C : Option Addr} {n c m d : Nat} {q : Int} {b : Bool} (hb : (bits .and .i64 x.att.h q == q) = b) (w : World) : Calls Try.prog 44 #[.agg (nodC x (.slice D n c) (.slice C m d)).toArray, .int .i64 q] w (BoolB w b) := by
  have r := RowL.new w 59 (nodC x (.slice D n c) (.slice C m d))
  have hb1 := below_new (below_self w) (.cells (nodC x (.slice D n c) (.slice C m d)).toArray 59)
  obtain ⟨W1, hW1⟩ : ∃ W1, w.alloc (.cells (nodC x (.slice D n c) (.slice C m d)).toArray 59) = W1 := ⟨_, rfl⟩
  rw [hW1] at r hb1
  have hW1' : w.alloc (.cells #[.int .i64 x.k, .int .i64 x.p, .int .i64 x.n, .int .i64 x.g, .slice D n c, .slice C m d, .int .i64 x.att.h, .int .i64 x.att.o, .string ⟨x.att.r.toArray⟩, .int .i64 x.att.l, .int .i64 x.att.i, .int .i64 x.att.g, .int .i64 x.att.s] 59) = W1 := hW1
  have q6 : W1.cell? ⟨w.heap.size, 6, none⟩ = some (.int .i64 x.att.h) := r.cell 6
  have HB1 := hide hb1
  have HBB := hide hb
  unfold nodC
  clear r hb1 hW1
  go_enter Try.func44, Try.ntmps44
  go_wp2
  go_ret
  exact BoolB.of HB1.out
set_option maxRecDepth 100000 in
set_option maxHeartbeats 1600000 in
theorem Marked_b {x : NodV} {D C : Option Addr} {n c m d : Nat} {b : Bool} (hb : opq x = b) (h0 : 0 ≤ x.att.h) (h1 : x.att.h ≤ 31) (w : World) : Calls Try.prog 24 #[.agg (nodC x (.slice D n c) (.slice C m d)).toArray] w (BoolB w b) := by
  have r := RowL.new w 59 (nodC x (.slice D n c) (.slice C m d))
  have hb1 := below_new (below_self w) (.cells (nodC x (.slice D n c) (.slice C m d)).toArray 59)
  obtain ⟨W1, hW1⟩ : ∃ W1, w.alloc (.cells (nodC x (.slice D n c) (.slice C m d)).toArray 59) = W1 := ⟨_, rfl⟩
  rw [hW1] at r hb1
  have hW1' : w.alloc (.cells #[.int .i64 x.k, .int .i64 x.p, .int .i64 x.n, .int .i64 x.g, .slice D n c, .slice C m d, .int .i64 x.att.h, .int .i64 x.att.o, .string ⟨x.att.r.toArray⟩, .int .i64 x.att.l, .int .i64 x.att.i, .int .i64 x.att.g, .int .i64 x.att.s] 59) = W1 := hW1
  have R := hide r
  have HB1 := hide hb1
  obtain ⟨b1, hb1'⟩ : ∃ b1, (bits .and .i64 x.att.h 1 == 1) = b1 := ⟨_, rfl⟩
  obtain ⟨b2, hb2⟩ : ∃ b2, (x.att.o == 121) = b2 := ⟨_, rfl⟩
  have e : b = (b1 && b2) := by
    rw [← hb, ← hb1', ← hb2, bit_is1' h0 h1]
    unfold opq
    congr 1
  have HB1' := hide hb1'
  subst e
  unfold nodC
  clear r hb1 hW1 hb h0 h1 hb1'
  cases b1 <;> cases b2
  all_goals
    go_enter Try.func24, Try.ntmps24
    go_wp2_with (first | (refine wpList_loadW rfl 59 (.tmp 1) rfl 13 nod_agg nod_size w.heap.size 59 rfl (nodC x (.slice D n c) (.slice C m d)) R.out rfl ?_) | (go_at_call 44; refine (NHas_b HB1'.out _).mono ?_; rintro e w' ⟨rfl, hb3⟩; have q7 : w'.cell? ⟨w.heap.size, 7, none⟩ = some (.int .i64 x.att.o) := (R.out.on hb3).cell 7; have HB3 := hide hb3; clear hb3))
    go_ret
    exact BoolB.of (HB1.out.trans (HB3.out.mono HB1.out.size))
/-- It returns entries. -/
def EntsRet (w : World) (B : Nat) (l : List EntV) (e : Ending) (w' : World) : Prop := ∃ C m d, e = .returned (.slice C m d) ∧ m ≤ d ∧ RdE entEn w' (Under B) C m l ∧ Below w.heap.size w w'
set_option maxRecDepth 100000 in
set_option maxHeartbeats 4000000 in
theorem Entries_any {A : Option Addr} {n c : Nat} {ns : List NodV} {i : Int} {B : Nat} (w : World) (h : RdE nodEn w (Under B) A n ns) (hB : B ≤ w.heap.size) (hm : ns.length ≤ 100000) :
    Calls Try.prog 30 #[.agg #[.slice A n c], .int .i64 i] w (EntsRet w B (entB ns i)) := by
  have r0 := RowL.new w 26 [.slice A n c]
  have hb1 := below_new (below_self w) (.cells [Value.slice A n c].toArray 26)
  obtain ⟨W1, hW1⟩ : ∃ W1, w.alloc (.cells [Value.slice A n c].toArray 26) = W1 := ⟨_, rfl⟩
  rw [hW1] at r0 hb1
  have hW1' : w.alloc (.cells #[.slice A n c] 26) = W1 := hW1
  have q0 : W1.cell? ⟨w.heap.size, 0, none⟩ = some (.slice A n c) := r0.cell 0
  have HB1 := hide hb1
  have HL := hide (h.under hb1 hB)
  have hs1 : w.heap.size ≤ W1.heap.size := hb1.size
  obtain ⟨x, hx⟩ : ∃ x, nodAt ns i = x := ⟨_, rfl⟩
  have HX := hide hx
  obtain ⟨bk, hbk⟩ : ∃ bk, (x.k != 1) = bk := ⟨_, rfl⟩
  have HE := hide (show entB ns i = if bk = true then [] else x.ents from by
    unfold entB
    rw [hx, ← hbk]
    by_cases hk : x.k = 1 <;> simp [hk])
  clear r0 hb1 hW1 h hx
  rw [HE.out]
  go_enter Try.func30, Try.ntmps30
  cases bk
  all_goals
    go_wp2_with (first | (go_at_call 47; refine (Of_e HX.out W1 HL.out (Nat.le_trans hB hs1) hm).mono ?_; rintro e w3 ⟨A1, n1, c1, C1, m1, d1, rfl, e2, e3, e4, e5, hb3⟩; have E5 := hide e5; have HB3 := hide (HB1.out.trans (hb3.mono hs1)); have hs3 := hb3.size; have HZ := hide (RowL.new w3 59 (nodC nod0 (.slice none 0 0) (.slice none 0 0))); clear e3 e5 hb3) | (refine wpList_storeW rfl 59 (.tmp 5) (.tmp 8) rfl 13 nod_size w3.heap.size 59 rfl (nodC nod0 (.slice none 0 0) (.slice none 0 0)) (nodC x (.slice A1 n1 c1) (.slice C1 m1 d1)) rfl HZ.out rfl rfl (nodC_one _ _ _ _ _ _ _) ?_; intro w4 hr4 hg4 hs4; have hb4 := below_stored' hg4; have q0 : w4.cell? ⟨w3.heap.size, 0, none⟩ = some (.int .i64 x.k) := hr4.cell 0; have q5 : w4.cell? ⟨w3.heap.size, 5, none⟩ = some (.slice C1 m1 d1) := hr4.cell 5; have HB4 := hide (HB3.out.trans (hb4.mono HB3.out.size)); have E6 := hide (E5.out.under hb4 (by omega)); clear hr4 hg4 hs4 hb4))
    go_ret
    first | exact ⟨C1, m1, d1, rfl, e4, E6.out, HB4.out⟩ | exact ⟨none, 0, 0, rfl, Nat.le_refl _, RdE.none_ _ _ _ _, HB4.out⟩
end Go.Proofs.Ytnehkgbdppbhiaa

/- The reference's node of a place in a lower layer (layers 15, 16). -/
namespace Go.Proofs.Ytnehkgbdppbhiaa
open Go.RowKit Go.Shelf Plain

set_option maxRecDepth 100000 in
set_option maxHeartbeats 4000000 in
theorem RLower_any {g : GeoQ} {AU AL : Option Addr} {nU cU nL cL : Nat} {ls : List (List NodV)} {la i : Int} {B : Nat} (w : World) (h : RdE layEn w (Under B) AL nL ls) (hB : B ≤ w.heap.size) (hm : ls.length ≤ 100) (hm2 : ∀ ns ∈ ls, ns.length ≤ 1000) :
    Calls Try.prog 26 #[.agg (stkC g (.slice AU nU cU) (.slice AL nL cL)).toArray, .agg #[.int .i64 la, .int .i64 i]] w (NodRet w B (lowAt ls la i)) := by
  obtain ⟨r0, r1, r2, hb3, hs3⟩ := rows3 w (stkC g (.slice AU nU cU) (.slice AL nL cL)) [.int .i64 la, .int .i64 i] (nodC nod0 (.slice none 0 0) (.slice none 0 0)) 29 38 59
  obtain ⟨W3, hW3⟩ : ∃ W3, ((w.alloc (.cells (stkC g (.slice AU nU cU) (.slice AL nL cL)).toArray 29)).alloc (.cells [Value.int .i64 la, .int .i64 i].toArray 38)).alloc (.cells (nodC nod0 (.slice none 0 0) (.slice none 0 0)).toArray 59) = W3 := ⟨_, rfl⟩
  rw [hW3] at r0 r1 r2 hb3 hs3
  have hW3' : ((w.alloc (.cells #[.int .i64 g.a, .int .i64 g.b, .int .i64 g.c, .int .i64 g.d, .slice AU nU cU, .slice AL nL cL] 29)).alloc (.cells #[.int .i64 la, .int .i64 i] 38)).alloc (.cells #[.int .i64 0, .int .i64 0, .int .i64 0, .int .i64 0, .slice none 0 0, .slice none 0 0, .int .i64 0, .int .i64 0, .string ⟨#[]⟩, .int .i64 0, .int .i64 0, .int .i64 0, .int .i64 0] 59) = W3 := hW3
  have hl := h.1
  have q5 : W3.cell? ⟨w.heap.size, 5, none⟩ = some (.slice AL nL cL) := r0.cell 5
  have p0 : W3.cell? ⟨w.heap.size + 1, 0, none⟩ = some (.int .i64 la) := r1.cell 0
  have HQL := hide (fun W (hb : Below W3.heap.size W3 W) => show W.cell? ⟨w.heap.size, 5, none⟩ = some (.slice AL nL cL) from (r0.on hb).cell 5)
  have HQ0 := hide (fun W (hb : Below W3.heap.size W3 W) => show W.cell? ⟨w.heap.size + 1, 0, none⟩ = some (.int .i64 la) from (r1.on hb).cell 0)
  have HQ1 := hide (fun W (hb : Below W3.heap.size W3 W) => show W.cell? ⟨w.heap.size + 1, 1, none⟩ = some (.int .i64 i) from (r1.on hb).cell 1)
  have R2 := hide r2
  have HB3 := hide hb3
  have hs3 : w.heap.size ≤ W3.heap.size := hb3.size
  have HL := hide (h.under hb3 hB)
  unfold stkC
  by_cases h1 : la < 1
  · have e : lowAt ls la i = nod0 := low_out (by omega)
    have d1 : decide (la < 1) = true := by simpa using h1
    rw [e]
    clear h r0 r1 r2 hb3 hW3 e h1
    go_enter Try.func26, Try.ntmps26
    go_wp2_with (refine wpList_storeW rfl 59 (.tmp 4) (.tmp 16) rfl 13 nod_size (w.heap.size + 1 + 1) 59 rfl (nodC nod0 (.slice none 0 0) (.slice none 0 0)) (nodC nod0 (.slice none 0 0) (.slice none 0 0)) rfl R2.out rfl rfl (nodC_one nod0 none none 0 0 0 0) ?_; intro w9 hr9 hg9 hs9; have HR9 := hide hr9; have HB9 := hide (HB3.out.grown hg9 HB3.out.size (fun k hk => by have := Option.some.inj hk; omega)); clear hr9 hg9)
    exact bodyPost_ret (res_cell Try.results26 rfl nod_agg nod_size HR9.out rfl) rfl (NodRet.of (Nat.le_refl _) (RdE.none_ _ _ _ _) (Nat.le_refl _) (RdE.none_ _ _ _ _) HB9.out hB)
  · have d1 : decide (la < 1) = false := by simpa using h1
    by_cases h2 : (nL : Int) < la
    · have e : lowAt ls la i = nod0 := low_out (by omega)
      have d2 : decide ((nL : Int) < la) = true := by simpa using h2
      rw [e]
      clear h r0 r1 r2 hb3 hW3 e h1 h2
      go_enter Try.func26, Try.ntmps26
      go_wp2_with (refine wpList_storeW rfl 59 (.tmp 4) (.tmp 16) rfl 13 nod_size (w.heap.size + 1 + 1) 59 rfl (nodC nod0 (.slice none 0 0) (.slice none 0 0)) (nodC nod0 (.slice none 0 0) (.slice none 0 0)) rfl R2.out rfl rfl (nodC_one nod0 none none 0 0 0 0) ?_; intro w9 hr9 hg9 hs9; have HR9 := hide hr9; have HB9 := hide (HB3.out.grown hg9 HB3.out.size (fun k hk => by have := Option.some.inj hk; omega)); clear hr9 hg9)
      exact bodyPost_ret (res_cell Try.results26 rfl nod_agg nod_size HR9.out rfl) rfl (NodRet.of (Nat.le_refl _) (RdE.none_ _ _ _ _) (Nat.le_refl _) (RdE.none_ _ _ _ _) HB9.out hB)
    · have d2 : decide ((nL : Int) < la) = false := by simpa using h2
      obtain ⟨j, ns, hla, hns, e⟩ := low_in (ls := ls) (la := la) (i := i) (by omega)
      rw [e]
      obtain ⟨bL, oL, hAL, hbL, A2, n2, c2, hcL, hc2, hN2⟩ := RdE.get_list (F := nodEn) HL.out hns
      have hjn : j < nL := by omega
      have hbW : bL < W3.heap.size := Nat.lt_of_lt_of_le hbL (Nat.le_trans hB hs3)
      have HQB := hide (fun W (hb : Below W3.heap.size W3 W) => show W.cell? ⟨bL, oL + j, none⟩ = some (.slice A2 n2 c2) from (hb.cell (p := ⟨bL, oL + j, none⟩) hbW).trans hcL)
      have HNS := hide hN2
      have hnl : ns.length ≤ 1000 := hm2 ns (List.mem_of_getElem? hns)
      subst hla
      subst hAL
      have hw1 : IntKind.i64.wrap ((j : Int) + 1 - 1) = (j : Int) := by rw [show (j : Int) + 1 - 1 = j from by omega]; exact IntWalk.i64_in _ (by omega)
      have hw2 : IntKind.i64.wrap (j : Int) = (j : Int) := IntWalk.i64_in _ (by omega)
      have hjl : (j : Int) < (nL : Int) := by omega
      have hnlL : nL ≤ 100 := by omega
      clear h r0 r1 r2 hb3 hW3 e h1 h2 hcL hN2 hns hl hm2
      go_enter Try.func26, Try.ntmps26
      go_wp2_with fail
      clear q5 p0 hW3'
      refine wp_region_planL (fun w' => Below W3.heap.size W3 w') [(0, true), (1, true), (2, true), (3, true), (4, true), (5, true), (6, true), (7, true), (8, true), (9, false)] 10 (by kernel_rfl) (by kernel_rfl) (by kernel_rfl) (by kernel_rfl) (by kernel_rfl) rfl (fun _ _ _ _ _ h => h) (below_drew (below_self W3)) (fun hHeld => ?_)
      simp only [planOps, List.filterMap_cons, List.filterMap_nil, List.getElem?_toArray, List.getElem?_cons_succ, List.getElem?_cons_zero, Option.map_some]
      refine wpPlan_take (v := ?_) (by kernel_rfl) (fun wS hSw => ?_) ?_
      rotate_left
      · (try dsimp only at hSw); go_simp; (try with_reducible rfl)
      (try simp only [Act.put, List.setIfInBounds_toArray, List.set_cons_zero, List.set_cons_succ])
      refine wpPlan_take (v := ?_) (by kernel_rfl) (fun wS hSw => ?_) ?_
      rotate_left
      · have qx := HQL.out wS hSw; go_simp; (try with_reducible rfl)
      (try simp only [Act.put, List.setIfInBounds_toArray, List.set_cons_zero, List.set_cons_succ])
      refine wpPlan_take (v := ?_) (by kernel_rfl) (fun wS hSw => ?_) ?_
      rotate_left
      · (try dsimp only at hSw); go_simp; (try with_reducible rfl)
      (try simp only [Act.put, List.setIfInBounds_toArray, List.set_cons_zero, List.set_cons_succ])
      refine wpPlan_take (v := ?_) (by kernel_rfl) (fun wS hSw => ?_) ?_
      rotate_left
      · have qx := HQ0.out wS hSw; go_simp; (try with_reducible rfl)
      (try simp only [Act.put, List.setIfInBounds_toArray, List.set_cons_zero, List.set_cons_succ])
      refine wpPlan_take (v := ?_) (by kernel_rfl) (fun wS hSw => ?_) ?_
      rotate_left
      · (try dsimp only at hSw); go_simp; (try with_reducible rfl)
      (try simp only [Act.put, List.setIfInBounds_toArray, List.set_cons_zero, List.set_cons_succ])
      refine wpPlan_take (v := ?_) (by kernel_rfl) (fun wS hSw => ?_) ?_
      rotate_left
      · (try dsimp only at hSw); go_simp; (try with_reducible rfl)
      (try simp only [Act.put, List.setIfInBounds_toArray, List.set_cons_zero, List.set_cons_succ])
      refine wpPlan_take (v := ?_) (by kernel_rfl) (fun wS hSw => ?_) ?_
      rotate_left
      · have qx := HQB.out wS hSw; go_simp; (try with_reducible rfl)
      (try simp only [Act.put, List.setIfInBounds_toArray, List.set_cons_zero, List.set_cons_succ])
      refine wpPlan_take (v := ?_) (by kernel_rfl) (fun wS hSw => ?_) ?_
      rotate_left
      · (try dsimp only at hSw); go_simp; (try with_reducible rfl)
      (try simp only [Act.put, List.setIfInBounds_toArray, List.set_cons_zero, List.set_cons_succ])
      refine wpPlan_take (v := ?_) (by kernel_rfl) (fun wS hSw => ?_) ?_
      rotate_left
      · have qx := HQ1.out wS hSw; go_simp; (try with_reducible rfl)
      (try simp only [Act.put, List.setIfInBounds_toArray, List.set_cons_zero, List.set_cons_succ])
      refine wpPlan_call (by kernel_rfl) (fun K hK => ?_)
      have hOld := hide hHeld
      clear hHeld
      go_simp
      go_at_call 45
      refine (At_anyB (B := B) _ (HNS.out.under hOld.out (by omega)) (Nat.le_trans hB (Nat.le_trans hs3 hOld.out.size)) (by omega)).mono ?_
      rintro e w' ⟨A1, n1, c1, C1, m1, d1, rfl, e2, e3, e4, e5, hbel⟩
      have E3 := hide e3
      have E5 := hide e5
      clear e3 e5
      refine hK.out _ _ (hOld.out.trans (hbel.mono hOld.out.size)) (fun hHeld => ?_)
      clear hK K
      (try simp only [Act.put, List.setIfInBounds_toArray, List.set_cons_zero, List.set_cons_succ])
      refine wpPlan_end ?_
      refine postL_go rfl (by kernel_rfl) ?_
      have R9 := hide (R2.out.on hHeld)
      have HBX := hide (HB3.out.trans (hHeld.mono hs3))
      have hsX := hHeld.size
      clear hHeld
      refine wp_storeC 59 (.tmp 4) (.tmp 26) rfl 13 nod_size (w.heap.size + 1 + 1) 0 59 rfl (nodC nod0 (.slice none 0 0) (.slice none 0 0)) (nodC (nodAt ns i) (.slice A1 n1 c1) (.slice C1 m1 d1)) rfl R9.out rfl (by exact Nat.le_refl _) (nodC_one _ _ _ _ _ _ _) ?_
      intro w9 hr9 hg9 hs9
      have e9 : splice (nodC nod0 (.slice none 0 0) (.slice none 0 0)) 0 (nodC (nodAt ns i) (.slice A1 n1 c1) (.slice C1 m1 d1)) = nodC (nodAt ns i) (.slice A1 n1 c1) (.slice C1 m1 d1) := by simp [splice, nodC]
      rw [e9] at hr9
      have HR9 := hide hr9
      have HG9 := hide hg9
      clear hr9 hg9 e9
      (try simp only [Act.put])
      go_wp2_with fail
      have hk : Kept (Under B) w' w9 := fun b hb => HG9.out.block b (by unfold Under at hb; omega) (fun e => by have := Option.some.inj e; unfold Under at hb; omega)
      exact bodyPost_ret (res_cell Try.results26 rfl nod_agg nod_size HR9.out rfl) rfl ⟨A1, n1, c1, C1, m1, d1, rfl, e2, E3.out.mono hk (fun _ h => h), e4, E5.out.mono hk (fun _ h => h), HBX.out.grown HG9.out (by omega) (fun k hk => by have := Option.some.inj hk; omega)⟩
theorem NLower_e {g : GeoQ} {AU AL : Option Addr} {nU cU nL cL : Nat} {ls : List (List NodV)} {la i : Int} {B : Nat} {x : NodV} (hx : lowAt ls la i = x) (w : World) (h : RdE layEn w (Under B) AL nL ls) (hB : B ≤ w.heap.size) (hm : ls.length ≤ 100) (hm2 : ∀ ns ∈ ls, ns.length ≤ 1000) :
    Calls Try.prog 29 #[.agg (stkC g (.slice AU nU cU) (.slice AL nL cL)).toArray, .agg #[.int .i64 la, .int .i64 i]] w (NodRet w B x) := by rw [← hx]; exact NLower_any w h hB hm hm2
theorem RLower_e {g : GeoQ} {AU AL : Option Addr} {nU cU nL cL : Nat} {ls : List (List NodV)} {la i : Int} {B : Nat} {x : NodV} (hx : lowAt ls la i = x) (w : World) (h : RdE layEn w (Under B) AL nL ls) (hB : B ≤ w.heap.size) (hm : ls.length ≤ 100) (hm2 : ∀ ns ∈ ls, ns.length ≤ 1000) :
    Calls Try.prog 26 #[.agg (stkC g (.slice AU nU cU) (.slice AL nL cL)).toArray, .agg #[.int .i64 la, .int .i64 i]] w (NodRet w B x) := by rw [← hx]; exact RLower_any w h hB hm hm2
end Go.Proofs.Ytnehkgbdppbhiaa

/- lower: opaque, and the reference's; entries (layer 16). -/
namespace Go.Proofs.Ytnehkgbdppbhiaa
open Go.RowKit Go.Shelf Plain

/-- A node's box, and what is read of it. -/
theorem nod_cell {w : World} {g : Nat} {cs : List Value} (h : RowL w g 59 cs) {i : Nat} {v : Value} (hv : cs[i]? = some v) : w.cell? ⟨g, i, none⟩ = some v := (h.cell i).trans hv
set_option maxHeartbeats 800000 in
theorem rhas_b {h : Int} {r : Bool} (h0 : 0 ≤ h) (h1 : h ≤ 31) (hr : decide (h % 2 = 1) = r) (w : World) : Calls Try.prog 56 #[.int .i64 h, .int .i64 1] w fun e w' => e = .returned (.bool r) ∧ w = w' := by
  have hv : (h % 2 == 1) = r := by
    rw [← hr, Bool.eq_iff_iff]
    simp
  have HV := hide hv
  clear hr hv
  go_enter Try.func56, Try.ntmps56
  go_wp2
  go_ret
  exact ⟨by rw [← HV.out]; (first | rfl | simp), rfl⟩
set_option maxRecDepth 100000 in
theorem att_agg : ∀ w, (isAgg 57).run Try.prog w = .ok true w := fun w => by kernel_rfl
set_option maxRecDepth 100000 in
theorem att_size : ∀ w, (Go.sizeOf 57).run Try.prog w = .ok 7 w := fun w => by kernel_rfl
def attC (a : AttV) : List Value := [.int .i64 a.h, .int .i64 a.o, .string ⟨a.r.toArray⟩, .int .i64 a.l, .int .i64 a.i, .int .i64 a.g, .int .i64 a.s]
set_option maxRecDepth 100000 in
set_option maxHeartbeats 1600000 in
theorem RHas_b {a : AttV} {r : Bool} (h0 : 0 ≤ a.h) (h1 : a.h ≤ 31) (hr : decide (a.h % 2 = 1) = r) (w : World) : Calls Try.prog 46 #[.agg (attC a).toArray, .int .i64 1] w (BoolB w r) := by
  have r0 := RowL.new w 57 (attC a)
  have hb1 := below_new (below_self w) (.cells (attC a).toArray 57)
  obtain ⟨W1, hW1⟩ : ∃ W1, w.alloc (.cells (attC a).toArray 57) = W1 := ⟨_, rfl⟩
  rw [hW1] at r0 hb1
  have hW1' : w.alloc (.cells #[.int .i64 a.h, .int .i64 a.o, .string ⟨a.r.toArray⟩, .int .i64 a.l, .int .i64 a.i, .int .i64 a.g, .int .i64 a.s] 57) = W1 := hW1
  have q0 : W1.cell? ⟨w.heap.size, 0, none⟩ = some (.int .i64 a.h) := r0.cell 0
  have HB1 := hide hb1
  have HR := hide hr
  have d0 : decide (0 ≤ a.h) = true := decide_eq_true h0
  unfold attC
  clear r0 hb1 hW1 hr
  go_enter Try.func46, Try.ntmps46
  go_wp2_with (go_at_call 56; refine (rhas_b h0 h1 HR.out _).mono ?_; rintro e w' ⟨rfl, rfl⟩)
  go_ret
  exact BoolB.of HB1.out
set_option maxRecDepth 100000 in
set_option maxHeartbeats 1600000 in
theorem ROpq_b {x : NodV} {D C : Option Addr} {n c m d : Nat} {b : Bool} (hb : opq x = b) (h0 : 0 ≤ x.att.h) (h1 : x.att.h ≤ 31) (w : World) : Calls Try.prog 27 #[.agg (nodC x (.slice D n c) (.slice C m d)).toArray] w (BoolB w b) := by
  have r := RowL.new w 59 (nodC x (.slice D n c) (.slice C m d))
  have hb1 := below_new (below_self w) (.cells (nodC x (.slice D n c) (.slice C m d)).toArray 59)
  obtain ⟨W1, hW1⟩ : ∃ W1, w.alloc (.cells (nodC x (.slice D n c) (.slice C m d)).toArray 59) = W1 := ⟨_, rfl⟩
  rw [hW1] at r hb1
  have hW1' : w.alloc (.cells #[.int .i64 x.k, .int .i64 x.p, .int .i64 x.n, .int .i64 x.g, .slice D n c, .slice C m d, .int .i64 x.att.h, .int .i64 x.att.o, .string ⟨x.att.r.toArray⟩, .int .i64 x.att.l, .int .i64 x.att.i, .int .i64 x.att.g, .int .i64 x.att.s] 59) = W1 := hW1
  have HA := hide (fun (j : Nat) (v : Value) (hv : (attC x.att)[j]? = some v) => show W1.cell? ⟨w.heap.size, 6 + j, none⟩ = some v from (r.cell (6 + j)).trans (by rw [← hv]; unfold nodC attC; rw [Nat.add_comm 6 j]; rfl))
  have HRR := hide r
  have HB1 := hide hb1
  obtain ⟨b1, hb1'⟩ : ∃ b1, decide (x.att.h % 2 = 1) = b1 := ⟨_, rfl⟩
  obtain ⟨b2, hb2⟩ : ∃ b2, (x.att.o == 121) = b2 := ⟨_, rfl⟩
  have e : b = (b1 && b2) := by
    rw [← hb, ← hb1', ← hb2]
    unfold opq
    congr 1
  have HBB := hide hb1'
  subst e
  unfold nodC
  clear r hb1 hW1 hb hb1'
  cases b1 <;> cases b2
  all_goals
    go_enter Try.func27, Try.ntmps27
    go_wp2_with (first | (refine wpList_loadX rfl 57 (.tmp 3) rfl 7 att_agg att_size w.heap.size 6 rfl (attC x.att) HA.out rfl ?_) | (go_at_call 46; refine (RHas_b h0 h1 HBB.out _).mono ?_; rintro e w' ⟨rfl, hb3⟩; have q7 : w'.cell? ⟨w.heap.size, 7, none⟩ = some (.int .i64 x.att.o) := (HRR.out.on hb3).cell 7; have HB3 := hide hb3; clear hb3))
    go_ret
    exact BoolB.of (HB1.out.trans (HB3.out.mono HB1.out.size))
theorem prC_one (q : Int × Int) : ∀ v ∈ prC q, v.oneCell' = true := by simp [prC, Value.oneCell']
end Go.Proofs.Ytnehkgbdppbhiaa

/- nodes.First. -/
namespace Go.Proofs.Ytnehkgbdppbhiaa
open Go.RowKit Go.Shelf Plain

section
variable {P : Program} {T T' k k' : Nat}
/-- Two results that lie in memory. -/
theorem res_cells {fn : Func} {tmps : Array Value} {w : World} {s g t s' g' t' : Nat} {cs cs' : List Value} (hr : fn.results = #[.cell s T, .cell s' T']) (ht : tmps.getD s undef = .pointer (some ⟨g, 0, none⟩)) (ht' : tmps.getD s' undef = .pointer (some ⟨g', 0, none⟩)) (hag : ∀ w, (isAgg T).run P w = .ok true w) (hsz : ∀ w, (sizeOf T).run P w = .ok k w) (hag' : ∀ w, (isAgg T').run P w = .ok true w) (hsz' : ∀ w, (sizeOf T').run P w = .ok k' w)
    (h : RowL w g t cs) (hk : cs.length = k) (h' : RowL w g' t' cs') (hk' : cs'.length = k') : (results fn tmps).run P w = .ok (.tuple #[.agg cs.toArray, .agg cs'.toArray]) w := by
  have hl := run_loadRow (P := P) h hk
  have hl' := run_loadRow (P := P) h' hk'
  have ht1 : tmps[s]?.getD undef = .pointer (some ⟨g, 0, none⟩) := by simpa using ht
  have ht2 : tmps[s']?.getD undef = .pointer (some ⟨g', 0, none⟩) := by simpa using ht'
  simp [results, hr, ht1, ht2, hag, hsz, hl, hag', hsz', hl', go_sem]
end
/-- It returns the first entry of a name, and its node. -/
def FirstB (w : World) (B : Nat) (ns : List NodV) (o : Option EntV) (e : Ending) (w' : World) : Prop := ∃ A n c C m d, e = .returned (.tuple #[.agg (cellsE (entO o)).toArray, .agg (nodC (nodB ns o) (.slice A n c) (.slice C m d)).toArray]) ∧ n ≤ c ∧ RdE Enc.byte w' (Under B) A n (nodB ns o).data ∧ m ≤ d ∧ RdE entEn w' (Under B) C m (nodB ns o).ents ∧ Below w.heap.size w w'
/-- What the last region keeps. -/
def FirstBS (w9 : World) (base ge gn r1 r2 : Nat) (ec nc : List Value) (W : World) : Prop := RowL W ge 70 ec ∧ RowL W gn 59 nc ∧ (∃ cu, RowL W r1 70 cu ∧ cu.length = 3) ∧ (∃ cu, RowL W r2 59 cu ∧ cu.length = 13) ∧ Below base w9 W
theorem FirstBS.drew {w9 : World} {base ge gn r1 r2 : Nat} {ec nc : List Value} {W : World} (h : FirstBS w9 base ge gn r1 r2 ec nc W) : FirstBS w9 base ge gn r1 r2 ec nc W.drew := ⟨h.1, h.2.1, h.2.2.1, h.2.2.2.1, ⟨h.2.2.2.2.os, h.2.2.2.2.tape, h.2.2.2.2.output, h.2.2.2.2.size, h.2.2.2.2.block⟩⟩
theorem find_take_none {α : Type} {f : α → Bool} {l : List α} {k : Nat} {x : α} (h : (l.take k).find? f = none) (hx : l[k]? = some x) (hf : f x = false) : (l.take (k + 1)).find? f = none := by
  rw [List.take_add_one, hx, List.find?_append, h]
  simp [hf]
theorem find_take_some {α : Type} {f : α → Bool} {l : List α} {k : Nat} {x : α} (h : (l.take k).find? f = none) (hx : l[k]? = some x) (hf : f x = true) : l.find? f = some x := by
  have hk := (List.getElem?_eq_some_iff.1 hx).1
  have hd : l = l.take k ++ x :: l.drop (k + 1) := by
    rw [(List.getElem?_eq_some_iff.1 hx).2.symm, ← List.drop_eq_getElem_cons hk, List.take_append_drop]
  rw [hd, List.find?_append, h]
  simp [hf]
set_option maxRecDepth 100000 in
set_option maxHeartbeats 8000000 in
theorem First_any {A : Option Addr} {n c : Nat} {ns : List NodV} {i : Int} {nm : List UInt8} {B : Nat} (w : World) (h : RdE nodEn w (Under B) A n ns) (hB : B ≤ w.heap.size) (hm : ns.length ≤ 100000) (hel : (entB ns i).length ≤ 16) :
    Calls Try.prog 43 #[.agg #[.slice A n c], .int .i64 i, .string ⟨nm.toArray⟩] w (FirstB w B ns (firstB ns i nm)) := by
  obtain ⟨r0, r1, r2, hb4, hs4⟩ := rows3 w [.slice A n c] [.int .i64 0, .int .i64 0, .string ⟨#[]⟩] (nodC nod0 (.slice none 0 0) (.slice none 0 0)) 26 70 59
  obtain ⟨W4, hW4⟩ : ∃ W4, ((w.alloc (.cells [Value.slice A n c].toArray 26)).alloc (.cells [Value.int .i64 0, .int .i64 0, .string ⟨#[]⟩].toArray 70)).alloc (.cells (nodC nod0 (.slice none 0 0) (.slice none 0 0)).toArray 59) = W4 := ⟨_, rfl⟩
  rw [hW4] at r0 r1 r2 hb4 hs4
  have hW4' : ((w.alloc (.cells #[.slice A n c] 26)).alloc (.cells #[.int .i64 0, .int .i64 0, .string ⟨#[]⟩] 70)).alloc (.cells #[.int .i64 0, .int .i64 0, .int .i64 0, .int .i64 0, .slice none 0 0, .slice none 0 0, .int .i64 0, .int .i64 0, .string ⟨#[]⟩, .int .i64 0, .int .i64 0, .int .i64 0, .int .i64 0] 59) = W4 := hW4
  have q0 : W4.cell? ⟨w.heap.size, 0, none⟩ = some (.slice A n c) := r0.cell 0
  have R0 := hide r0
  have R1 := hide r1
  have R2 := hide r2
  have HB4 := hide hb4
  have HL := hide (h.under hb4 hB)
  have hs4l : w.heap.size + 3 ≤ W4.heap.size := by omega
  obtain ⟨EL, hEL⟩ : ∃ EL, entB ns i = EL := ⟨_, rfl⟩
  obtain ⟨FO, hFO⟩ : ∃ FO, firstB ns i nm = FO := ⟨_, rfl⟩
  rw [hFO]
  rw [hEL] at hel
  have HEL := hide hEL
  have HFO := hide hFO
  clear r0 r1 r2 hb4 hW4 h hEL hs4 hFO
  go_enter Try.func43, Try.ntmps43
  go_wp2_with (first | (go_at_call 30; refine (Entries_any W4 HL.out (by omega) hm).mono ?_; rw [HEL.out]; rintro e w5 ⟨C, m, d, rfl, hmd, hE, hb5⟩; have HE := hide hE; have HB5 := hide hb5; clear hE hb5))
  have hEm := HE.out.1
  have hm16 : m ≤ 16 := by omega
  have HEM := hide hEm
  clear hEm hW4' hel q0
  go_loopw [15] (fun v15 wr => ∃ j : Nat, j ≤ m ∧ v15 = .int .i64 j ∧ Below w5.heap.size w5 wr ∧ (EL.take j).find? (useB ns nm) = none) (fun v15 _ => m - (intOf v15).toNat)
  case atStart => exact ⟨0, by omega, rfl, below_self _, by simp⟩
  case round =>
    obtain ⟨j, hj, rfl, hbr, hnone⟩ := hrel
    have HN := hide hnone
    have HBR := hide hbr
    have hbsz := hbr.size
    have hs5 := HB5.out.size
    have HB4r := hide (HB5.out.trans (hbr.mono hs5))
    have HBw := hide (HB4.out.trans (HB4r.out.mono (by omega)))
    clear hnone hbr
    by_cases hlt : j < m
    · obtain ⟨e, he⟩ : ∃ e, EL[j]? = some e := ⟨_, List.getElem?_eq_getElem (by have := HEM.out; omega)⟩
      obtain ⟨bE, oE, rfl, hbE, hcE⟩ := ent_get (HE.out.under HBR.out (by omega)) he
      have HCE := hide hcE
      have HEJ := hide he
      have HZE := hide (RowL.new wr 70 [.int .i64 0, .int .i64 0, .string ⟨#[]⟩])
      obtain ⟨x, hx⟩ : ∃ x, nodAt ns e.ino = x := ⟨_, rfl⟩
      have HX := hide hx
      obtain ⟨b2, hb2⟩ : ∃ b2, (x.k != 0) = b2 := ⟨_, rfl⟩
      have hjm : (j : Int) < (m : Int) := by omega
      clear he hcE
      by_cases hnm : e.name = nm
      rotate_left
      · have HU := hide (show useB ns nm e = false from by unfold useB; simp [hnm])
        have hnb1 : (e.name == nm) = false := by simpa using hnm
        have hnb2 : (e.name != nm) = true := by simpa using hnm
        have hnb3 : ¬ ({ data := e.name.toArray } : ByteArray) = { data := nm.toArray } := by simpa using hnm
        clear hx
        go_wp2_with (first | (refine wpList_loadX rfl 70 (.tmp 17) rfl 3 entw_agg entw_size bE (oE + j * 3) rfl (cellsE e) HCE.out rfl ?_) | (refine wpList_storeW rfl 70 (.tmp 9) (.tmp 18) rfl 3 entw_size wr.heap.size 70 rfl [.int .i64 0, .int .i64 0, .string ⟨#[]⟩] (cellsE e) rfl HZE.out rfl rfl (cellsE_one e) ?_; intro w6 hr6 hg6 hs6; have hb6 := below_stored' hg6; have qe1 : w6.cell? ⟨wr.heap.size, 1, none⟩ = some (.int .i64 e.ino) := hr6.cell 1; have qe2 : w6.cell? ⟨wr.heap.size, 2, none⟩ = some (.string ⟨e.name.toArray⟩) := hr6.cell 2; have qb : w6.cell? ⟨w.heap.size, 0, none⟩ = some (.slice A n c) := ((R0.out.on HB4r.out).on hb6).cell 0; have R6 := hide hr6; have HB6 := hide hb6; clear hr6 hg6 hs6 hb6))
        go_roundw
        case rel => exact ⟨j + 1, by omega, by go_num, HBR.out.trans (HB6.out.mono hbsz), find_take_none HN.out HEJ.out HU.out⟩
        case measure => simp [intOf]; omega
      have HU := hide (show useB ns nm e = b2 from by
        rw [← hb2, ← hx]
        unfold useB
        by_cases hk : (nodAt ns e.ino).k = 0 <;> simp [hk, hnm])
      subst hnm
      clear hx
      cases b2
      · skip
        go_wp2_with (first | (refine wpList_loadX rfl 70 (.tmp 17) rfl 3 entw_agg entw_size bE (oE + j * 3) rfl (cellsE e) HCE.out rfl ?_) | (refine wpList_storeW rfl 70 (.tmp 9) (.tmp 18) rfl 3 entw_size wr.heap.size 70 rfl [.int .i64 0, .int .i64 0, .string ⟨#[]⟩] (cellsE e) rfl HZE.out rfl rfl (cellsE_one e) ?_; intro w6 hr6 hg6 hs6; have hb6 := below_stored' hg6; have qe1 : w6.cell? ⟨wr.heap.size, 1, none⟩ = some (.int .i64 e.ino) := hr6.cell 1; have qe2 : w6.cell? ⟨wr.heap.size, 2, none⟩ = some (.string ⟨e.name.toArray⟩) := hr6.cell 2; have qb : w6.cell? ⟨w.heap.size, 0, none⟩ = some (.slice A n c) := ((R0.out.on HB4r.out).on hb6).cell 0; have R6 := hide hr6; have HB6 := hide hb6; clear hr6 hg6 hs6 hb6) | (go_at_call 47; refine (Of_e HX.out w6 (HL.out.under (HB4r.out.trans (HB6.out.mono (by omega))) (by omega)) (by have := HB6.out.size; omega) hm).mono ?_; rintro ez w8 ⟨A1, n1, c1, C1, m1, d1, rfl, e2, e3, e4, e5, hb8⟩; have E3 := hide e3; have E5 := hide e5; have HB8 := hide hb8; have HZN := hide (RowL.new w8 59 (nodC nod0 (.slice none 0 0) (.slice none 0 0))); clear e3 e5 hb8) | (refine wpList_storeW rfl 59 (.tmp 10) (.tmp 26) rfl 13 nod_size w8.heap.size 59 rfl (nodC nod0 (.slice none 0 0) (.slice none 0 0)) (nodC x (.slice A1 n1 c1) (.slice C1 m1 d1)) rfl HZN.out rfl rfl (nodC_one _ _ _ _ _ _ _) ?_; intro w9 hr9 hg9 hs9; have hb9 := below_stored' hg9; have qk : w9.cell? ⟨w8.heap.size, 0, none⟩ = some (.int .i64 x.k) := hr9.cell 0; have R9 := hide hr9; have HB9 := hide (HB6.out.trans ((HB8.out.trans (hb9.mono HB8.out.size)).mono HB6.out.size)); have R69 := hide ((R6.out.on HB8.out).on hb9); have hs9l := hr9.lt; have E39 := hide (E3.out.under hb9 (by have := HB6.out.size; have := HB8.out.size; omega)); have E59 := hide (E5.out.under hb9 (by have := HB6.out.size; have := HB8.out.size; omega)); clear hr9 hg9 hs9 hb9))
        go_roundw
        case rel => exact ⟨j + 1, by omega, by go_num, HBR.out.trans (HB9.out.mono hbsz), find_take_none HN.out HEJ.out HU.out⟩
        case measure => simp [intOf]; omega
      · skip
        go_wp2_with (first | (refine wpList_loadX rfl 70 (.tmp 17) rfl 3 entw_agg entw_size bE (oE + j * 3) rfl (cellsE e) HCE.out rfl ?_) | (refine wpList_storeW rfl 70 (.tmp 9) (.tmp 18) rfl 3 entw_size wr.heap.size 70 rfl [.int .i64 0, .int .i64 0, .string ⟨#[]⟩] (cellsE e) rfl HZE.out rfl rfl (cellsE_one e) ?_; intro w6 hr6 hg6 hs6; have hb6 := below_stored' hg6; have qe1 : w6.cell? ⟨wr.heap.size, 1, none⟩ = some (.int .i64 e.ino) := hr6.cell 1; have qe2 : w6.cell? ⟨wr.heap.size, 2, none⟩ = some (.string ⟨e.name.toArray⟩) := hr6.cell 2; have qb : w6.cell? ⟨w.heap.size, 0, none⟩ = some (.slice A n c) := ((R0.out.on HB4r.out).on hb6).cell 0; have R6 := hide hr6; have HB6 := hide hb6; clear hr6 hg6 hs6 hb6) | (go_at_call 47; refine (Of_e HX.out w6 (HL.out.under (HB4r.out.trans (HB6.out.mono (by omega))) (by omega)) (by have := HB6.out.size; omega) hm).mono ?_; rintro ez w8 ⟨A1, n1, c1, C1, m1, d1, rfl, e2, e3, e4, e5, hb8⟩; have E3 := hide e3; have E5 := hide e5; have HB8 := hide hb8; have HZN := hide (RowL.new w8 59 (nodC nod0 (.slice none 0 0) (.slice none 0 0))); clear e3 e5 hb8) | (refine wpList_storeW rfl 59 (.tmp 10) (.tmp 26) rfl 13 nod_size w8.heap.size 59 rfl (nodC nod0 (.slice none 0 0) (.slice none 0 0)) (nodC x (.slice A1 n1 c1) (.slice C1 m1 d1)) rfl HZN.out rfl rfl (nodC_one _ _ _ _ _ _ _) ?_; intro w9 hr9 hg9 hs9; have hb9 := below_stored' hg9; have qk : w9.cell? ⟨w8.heap.size, 0, none⟩ = some (.int .i64 x.k) := hr9.cell 0; have R9 := hide hr9; have HB9 := hide (HB6.out.trans ((HB8.out.trans (hb9.mono HB8.out.size)).mono HB6.out.size)); have R69 := hide ((R6.out.on HB8.out).on hb9); have hs9l := hr9.lt; have E39 := hide (E3.out.under hb9 (by have := HB6.out.size; have := HB8.out.size; omega)); have E59 := hide (E5.out.under hb9 (by have := HB6.out.size; have := HB8.out.size; omega)); clear hr9 hg9 hs9 hb9))
        have hsw6 := HB6.out.size
        have hsw8 := HB8.out.size
        have HFS := hide (show FirstBS w9 w.heap.size wr.heap.size w8.heap.size (w.heap.size + 1) (w.heap.size + 1 + 1) (cellsE e) (nodC x (.slice A1 n1 c1) (.slice C1 m1 d1)) w9 from ⟨R69.out, R9.out, ⟨_, (R1.out.on HB4r.out).on HB9.out, rfl⟩, ⟨_, (R2.out.on HB4r.out).on HB9.out, rfl⟩, Below.refl _ _⟩)
        have hsum : w.heap.size + 3 ≤ wr.heap.size := by omega
        have hs69 : w.heap.size ≤ w9.heap.size := by omega
        clear qk qe1 qe2 qb
        (try simp only [Act.put])
        refine wp_region_planN (fun w' => FirstBS w9 w.heap.size wr.heap.size w8.heap.size (w.heap.size + 1) (w.heap.size + 1 + 1) (cellsE e) (nodC x (.slice A1 n1 c1) (.slice C1 m1 d1)) w') [(0, true), (1, true), (2, false), (3, false)] (by kernel_rfl) (by kernel_rfl) (by kernel_rfl) (by kernel_rfl) rfl (fun _ _ _ _ _ h => h) (HFS.out.drew) (fun hHeld => ?_)
        simp only [planOps, List.filterMap_cons, List.filterMap_nil, List.getElem?_toArray, List.getElem?_cons_succ, List.getElem?_cons_zero, Option.map_some]
        refine wpPlan_take (v := ?_) (by kernel_rfl) (fun wS hSw => ?_) ?_
        rotate_left
        · refine execOp_load (x := .tmp 9) (k := 3) (g := wr.heap.size) (off := 0) (cs := cellsE e) ?_ entw_agg entw_size ?_ (fun j v hv => by rw [Nat.zero_add]; exact (hSw.1.cell j).trans hv) rfl <;> rfl
        (try simp only [Act.put, List.setIfInBounds_toArray, List.set_cons_zero, List.set_cons_succ])
        refine wpPlan_take (v := ?_) (by kernel_rfl) (fun wS hSw => ?_) ?_
        rotate_left
        · refine execOp_load (x := .tmp 10) (k := 13) (g := w8.heap.size) (off := 0) (cs := (nodC x (.slice A1 n1 c1) (.slice C1 m1 d1))) ?_ nod_agg nod_size ?_ (fun j v hv => by rw [Nat.zero_add]; exact (hSw.2.1.cell j).trans hv) rfl <;> rfl
        (try simp only [Act.put, List.setIfInBounds_toArray, List.set_cons_zero, List.set_cons_succ])
        refine wpPlan_call (by kernel_rfl) (fun K hK => ?_)
        have hOld := hide hHeld
        clear hHeld
        obtain ⟨p1, p2, ⟨cu3, p3, l3⟩, ⟨cu4, p4, l4⟩, p5⟩ := hOld.out
        refine wp_storeC 70 (.tmp 6) (.tmp 30) rfl 3 entw_size (w.heap.size + 1) 0 70 rfl cu3 (cellsE e) rfl p3 rfl (by omega) (cellsE_one e) ?_
        intro w' hr' hg' hs'
        rw [splice_all _ _ (by rw [l3]; rfl)] at hr'
        refine hK.out _ _ (⟨p1.grown hg' (fun e => by have := Option.some.inj e; omega), p2.grown hg' (fun e => by have := Option.some.inj e; omega), ⟨_, hr', rfl⟩, ⟨cu4, p4.grown hg' (fun e => by have := Option.some.inj e; omega), l4⟩, p5.grown hg' (by have := p5.size; omega) (fun k hk => by have := Option.some.inj hk; omega)⟩) (fun hHeld => ?_)
        clear hK K
        have HRP := hide hr'
        clear hr' hg' hs' p1 p2 p3 p4 p5
        (try simp only [Act.put])
        refine wpPlan_call (by kernel_rfl) (fun K hK => ?_)
        have hOld := hide hHeld
        clear hHeld
        obtain ⟨p1, p2, ⟨cu3, p3, l3⟩, ⟨cu4, p4, l4⟩, p5⟩ := hOld.out
        refine wp_storeC 59 (.tmp 7) (.tmp 31) rfl 13 nod_size (w.heap.size + 1 + 1) 0 59 rfl cu4 (nodC x (.slice A1 n1 c1) (.slice C1 m1 d1)) rfl p4 rfl (by omega) (nodC_one _ _ _ _ _ _ _) ?_
        intro w' hr' hg' hs'
        rw [splice_all _ _ (by rw [l4]; rfl)] at hr'
        refine hK.out _ _ (⟨p1.grown hg' (fun e => by have := Option.some.inj e; omega), p2.grown hg' (fun e => by have := Option.some.inj e; omega), ⟨cu3, p3.grown hg' (fun e => by have := Option.some.inj e; omega), l3⟩, ⟨_, hr', rfl⟩, p5.grown hg' (by have := p5.size; omega) (fun k hk => by have := Option.some.inj hk; omega)⟩) (fun hHeld => ?_)
        clear hK K
        have HRP2 := hide (HRP.out.grown hg' (fun e => by have := Option.some.inj e; omega))
        have HRN := hide hr'
        clear hr' hg' hs' p1 p2 p3 p4 p5
        (try simp only [Act.put])
        refine wpPlan_end ?_
        have HSF := hide hHeld
        clear hHeld
        go_wp2_with fail
        obtain ⟨-, -, -, -, hbF⟩ := HSF.out
        have eFO : FO = some e := by
          rw [← HFO.out]
          unfold firstB
          rw [HEL.out, find_take_some HN.out HEJ.out HU.out]
        have hkU : Kept (Under B) w9 w' := fun b hb => hbF.block b (Nat.lt_of_lt_of_le hb hB)
        subst eFO
        have hx2 : nodB ns (some e) = x := HX.out
        refine bodyPost_ret (res_cells Try.results43 rfl rfl entw_agg entw_size nod_agg nod_size HRP2.out rfl HRN.out rfl) rfl ⟨A1, n1, c1, C1, m1, d1, by rw [hx2]; rfl, e2, by rw [hx2]; exact E39.out.mono hkU (fun _ h => h), e4, by rw [hx2]; exact E59.out.mono hkU (fun _ h => h), (HBw.out.trans (HB9.out.mono (by omega))).trans hbF⟩
    · obtain rfl : j = m := by omega
      have HR1 := hide (R1.out.on HB4r.out)
      have HR2 := hide (R2.out.on HB4r.out)
      go_wp2_with (first | (refine wpList_storeW rfl 70 (.tmp 6) (.tmp 33) rfl 3 entw_size (w.heap.size + 1) 70 rfl [.int .i64 0, .int .i64 0, .string ⟨#[]⟩] (cellsE ent0) rfl HR1.out rfl rfl (cellsE_one ent0) ?_; intro w6 hr6 hg6 hs6; have R6 := hide hr6; have R36 := hide (HR2.out.grown hg6 (fun e => by have := Option.some.inj e; omega)); have HB6 := hide (HBw.out.grown hg6 (by omega) (fun k hk => by have := Option.some.inj hk; omega)); clear hr6 hg6) | (refine wpList_storeW rfl 59 (.tmp 7) (.tmp 34) rfl 13 nod_size (w.heap.size + 1 + 1) 59 rfl (nodC nod0 (.slice none 0 0) (.slice none 0 0)) (nodC nod0 (.slice none 0 0) (.slice none 0 0)) rfl R36.out rfl rfl (nodC_one nod0 none none 0 0 0 0) ?_; intro w7 hr7 hg7 hs7; have R7 := hide hr7; have R67 := hide (R6.out.grown hg7 (fun e => by have := Option.some.inj e; omega)); have HB7 := hide (HB6.out.grown hg7 (by omega) (fun k hk => by have := Option.some.inj hk; omega)); clear hr7 hg7))
      have eFO : FO = none := by
        rw [← HFO.out]
        unfold firstB
        have h1 := HN.out
        rw [List.take_of_length_le (by have := HEM.out; omega)] at h1
        rw [HEL.out, h1]
      subst eFO
      exact bodyPost_ret (res_cells Try.results43 rfl rfl entw_agg entw_size nod_agg nod_size R67.out rfl R7.out rfl) rfl ⟨none, 0, 0, none, 0, 0, rfl, Nat.le_refl _, RdE.none_ _ _ _ _, Nat.le_refl _, RdE.none_ _ _ _ _, HB7.out⟩
theorem First_e {A : Option Addr} {n c : Nat} {ns : List NodV} {i : Int} {nm : List UInt8} {B : Nat} {o : Option EntV} (ho : firstB ns i nm = o) (w : World) (h : RdE nodEn w (Under B) A n ns) (hB : B ≤ w.heap.size) (hm : ns.length ≤ 100000) (hel : (entB ns i).length ≤ 16) :
    Calls Try.prog 43 #[.agg #[.slice A n c], .int .i64 i, .string ⟨nm.toArray⟩] w (FirstB w B ns o) := by rw [← ho]; exact First_any w h hB hm hel
end Go.Proofs.Ytnehkgbdppbhiaa

/- lower.first (layer 16). -/
namespace Go.Proofs.Ytnehkgbdppbhiaa
open Go.RowKit Go.Shelf Plain

theorem First_n {A : Option Addr} {n c : Nat} {ns : List NodV} {i : Int} {nm : List UInt8} {B : Nat} {o : Option EntV} {N : NodV} (ho : firstB ns i nm = o) (hN : nodB ns o = N) (w : World) (h : RdE nodEn w (Under B) A n ns) (hB : B ≤ w.heap.size) (hm : ns.length ≤ 100000) (hel : (entB ns i).length ≤ 16) :
    Calls Try.prog 43 #[.agg #[.slice A n c], .int .i64 i, .string ⟨nm.toArray⟩] w (fun e w' => ∃ A n c C m d, e = .returned (.tuple #[.agg (cellsE (entO o)).toArray, .agg (nodC N (.slice A n c) (.slice C m d)).toArray]) ∧ n ≤ c ∧ RdE Enc.byte w' (Under B) A n N.data ∧ m ≤ d ∧ RdE entEn w' (Under B) C m N.ents ∧ Below w.heap.size w w') := by
  subst ho hN
  exact First_any w h hB hm hel
/-- The place, and the node, that a name's first entry tells. -/
def plcO (o : Option (Int × Int)) : Int × Int := o.getD (0, 0)
def plcF (la : Int) (o : Option (Int × Int)) : Int × Int := o.getD (la, 0)
def nodO (ls : List (List NodV)) (o : Option (Int × Int)) : NodV := match o with
  | none => nod0
  | some x => lowAt ls x.1 x.2
def FirstRet (w : World) (B : Nat) (ls : List (List NodV)) (la : Int) (o : Option (Int × Int)) (e : Ending) (w' : World) : Prop := ∃ A n c C m d, e = .returned (.tuple #[.agg (prC (plcF la o)).toArray, .agg (nodC (nodO ls o) (.slice A n c) (.slice C m d)).toArray]) ∧ n ≤ c ∧ RdE Enc.byte w' (Under B) A n (nodO ls o).data ∧ m ≤ d ∧ RdE entEn w' (Under B) C m (nodO ls o).ents ∧ Below w.heap.size w w'
/-- What the last region keeps. -/
def FirstS (wc : World) (base g8 g9 r2 r3 : Nat) (p : Int × Int) (ec nc : List Value) (W : World) : Prop := (RowL W g8 70 ec ∧ RowL W (base + 1) 38 (prC p)) ∧ RowL W g9 59 nc ∧ (∃ cu, RowL W r2 38 cu ∧ cu.length = 2) ∧ (∃ cu, RowL W r3 59 cu ∧ cu.length = 13) ∧ Below base wc W
theorem FirstS.drew {wc : World} {base g8 g9 r2 r3 : Nat} {p : Int × Int} {ec nc : List Value} {W : World} (h : FirstS wc base g8 g9 r2 r3 p ec nc W) : FirstS wc base g8 g9 r2 r3 p ec nc W.drew := ⟨h.1, h.2.1, h.2.2.1, h.2.2.2.1, ⟨h.2.2.2.2.os, h.2.2.2.2.tape, h.2.2.2.2.output, h.2.2.2.2.size, h.2.2.2.2.block⟩⟩
theorem rows4 (w : World) (c1 c2 c3 c4 : List Value) (t1 t2 t3 t4 : Nat) {W : World} (hW : (((w.alloc (.cells c1.toArray t1)).alloc (.cells c2.toArray t2)).alloc (.cells c3.toArray t3)).alloc (.cells c4.toArray t4) = W) : RowL W w.heap.size t1 c1 ∧ RowL W (w.heap.size + 1) t2 c2 ∧ RowL W (w.heap.size + 1 + 1) t3 c3 ∧ RowL W (w.heap.size + 1 + 1 + 1) t4 c4 ∧ Below w.heap.size w W ∧ W.heap.size = w.heap.size + 4 := by
  subst hW
  obtain ⟨r0, r1, r2, hb, hs⟩ := rows3 w c1 c2 c3 t1 t2 t3
  have hb4 := below_new (below_self (((w.alloc (.cells c1.toArray t1)).alloc (.cells c2.toArray t2)).alloc (.cells c3.toArray t3))) (.cells c4.toArray t4)
  refine ⟨r0.on hb4, r1.on hb4, r2.on hb4, ?_, below_step hb hb4, by simp⟩
  have := RowL.new (((w.alloc (.cells c1.toArray t1)).alloc (.cells c2.toArray t2)).alloc (.cells c3.toArray t3)) t4 c4
  rw [hs] at this
  exact this
set_option maxRecDepth 100000 in
set_option maxHeartbeats 16000000 in
theorem LFirst_any {g : GeoQ} {AU AL : Option Addr} {nU cU nL cL : Nat} {ls : List (List NodV)} {p : Int × Int} {nm : List UInt8} {B : Nat} (w : World) (h : RdE layEn w (Under B) AL nL ls) (hB : B ≤ w.heap.size) (hm : ls.length ≤ 100) (hm2 : ∀ ns ∈ ls, ns.length ≤ 1000) (hF : FewL ls) :
    Calls Try.prog 23 #[.agg (stkC g (.slice AU nU cU) (.slice AL nL cL)).toArray, .agg (prC p).toArray, .string ⟨nm.toArray⟩] w (FirstRet w B ls p.1 (firstL ls p nm)) := by
  obtain ⟨W4, hW4⟩ : ∃ W4, (((w.alloc (.cells (stkC g (.slice AU nU cU) (.slice AL nL cL)).toArray 29)).alloc (.cells (prC p).toArray 38)).alloc (.cells (prC (0, 0)).toArray 38)).alloc (.cells (nodC nod0 (.slice none 0 0) (.slice none 0 0)).toArray 59) = W4 := ⟨_, rfl⟩
  obtain ⟨r0, r1, r2, r3, hb4, hs4⟩ := rows4 w _ _ _ _ _ _ _ _ hW4
  have hW4' : (((w.alloc (.cells #[.int .i64 g.a, .int .i64 g.b, .int .i64 g.c, .int .i64 g.d, .slice AU nU cU, .slice AL nL cL] 29)).alloc (.cells #[.int .i64 p.1, .int .i64 p.2] 38)).alloc (.cells #[.int .i64 0, .int .i64 0] 38)).alloc (.cells #[.int .i64 0, .int .i64 0, .int .i64 0, .int .i64 0, .slice none 0 0, .slice none 0 0, .int .i64 0, .int .i64 0, .string ⟨#[]⟩, .int .i64 0, .int .i64 0, .int .i64 0, .int .i64 0] 59) = W4 := hW4
  have R0 := hide r0
  have R1 := hide r1
  have R2 := hide r2
  have R3 := hide r3
  have HB4 := hide hb4
  have HL := hide (h.under hb4 hB)
  have HQ0 := hide (fun W (hb : Below W4.heap.size W4 W) => show W.cell? ⟨w.heap.size + 1, 0, none⟩ = some (.int .i64 p.1) from (r1.on hb).cell 0)
  have HQ1 := hide (fun W (hb : Below W4.heap.size W4 W) => show W.cell? ⟨w.heap.size + 1, 1, none⟩ = some (.int .i64 p.2) from (r1.on hb).cell 1)
  have hs4l : w.heap.size + 4 ≤ W4.heap.size := by omega
  have hly := layL_len hm2 p.1
  have hel : (entB (layL ls p.1) p.2).length ≤ 16 := by rw [ent_lay]; exact entL_len hF p
  have hfl := first_lay ls p nm
  obtain ⟨ly, hLY⟩ : ∃ ly, layL ls p.1 = ly := ⟨_, rfl⟩
  obtain ⟨o, hO⟩ : ∃ o, firstB ly p.2 nm = o := ⟨_, rfl⟩
  obtain ⟨N, hN⟩ : ∃ N, nodB ly o = N := ⟨_, rfl⟩
  have hNO : nodO ls (firstL ls p nm) = N := by
    rw [hfl, ← hN, ← hO, ← hLY, nodB_lay]
    rfl
  have hPL : plcF p.1 (firstL ls p nm) = (p.1, (entO o).ino) := by
    rw [hfl, ← hO, ← hLY]
    cases firstB (layL ls p.1) p.2 nm <;> rfl
  have HLY := hide hLY
  have HFO := hide hO
  have HNO := hide hN
  have HPL := hide hPL
  have HNL := hide hNO
  rw [hLY] at hly hel
  unfold stkC prC
  clear r0 r1 r2 r3 hb4 hW4 h hs4 hF hfl hLY hO hN hNO hPL
  go_enter Try.func23, Try.ntmps23
  go_upto_region 1 with fail
  clear hW4'
  go_cut [8, 9] from 10 to 20 (fun v8 v9 wx => ∃ g8 g9 A2 n2 c2 C2 m2 d2, v8 = .pointer (some ⟨g8, 0, none⟩) ∧ v9 = .pointer (some ⟨g9, 0, none⟩) ∧ RowL wx g8 70 (cellsE (entO o)) ∧ RowL wx g9 59 (nodC N (.slice A2 n2 c2) (.slice C2 m2 d2)) ∧ n2 ≤ c2 ∧ RdE Enc.byte wx (Under B) A2 n2 N.data ∧ m2 ≤ d2 ∧ RdE entEn wx (Under B) C2 m2 N.ents ∧ Below W4.heap.size W4 wx ∧ W4.heap.size ≤ g8 ∧ W4.heap.size ≤ g9)
  case first =>
    refine wp_region_G (fun w' => Below (W4.heap.size) W4 w') (.take 0 (.take 1 (.take 2 (.take 4 (.take 5 (.take 6 (.alt 3 (.alt 7 (.take 8 (.take 9 (.take 10 (.alt 11 (.alt 12 (.alt 13 (.alt 14 .leaf .stop) .stop) .stop) (.alt 12 (.alt 11 (.alt 13 (.alt 14 .leaf .stop) .stop) .stop) .stop))))) (.alt 11 (.alt 7 (.take 8 (.take 9 (.take 10 (.alt 12 (.alt 13 (.alt 14 .leaf .stop) .stop) .stop)))) (.alt 12 (.alt 7 (.take 8 (.take 9 (.take 10 (.alt 13 (.alt 14 .leaf .stop) .stop)))) .stop) .stop)) (.alt 12 (.alt 7 (.take 8 (.take 9 (.take 10 (.alt 11 (.alt 13 (.alt 14 .leaf .stop) .stop) .stop)))) (.alt 11 (.alt 7 (.take 8 (.take 9 (.take 10 (.alt 13 (.alt 14 .leaf .stop) .stop)))) .stop) .stop)) .stop))) (.alt 11 (.alt 3 (.alt 7 (.take 8 (.take 9 (.take 10 (.alt 12 (.alt 13 (.alt 14 .leaf .stop) .stop) .stop)))) (.alt 12 (.alt 7 (.take 8 (.take 9 (.take 10 (.alt 13 (.alt 14 .leaf .stop) .stop)))) .stop) .stop)) (.alt 12 (.alt 3 (.alt 7 (.take 8 (.take 9 (.take 10 (.alt 13 (.alt 14 .leaf .stop) .stop)))) .stop) .stop) .stop)) (.alt 12 (.alt 3 (.alt 7 (.take 8 (.take 9 (.take 10 (.alt 11 (.alt 13 (.alt 14 .leaf .stop) .stop) .stop)))) (.alt 11 (.alt 7 (.take 8 (.take 9 (.take 10 (.alt 13 (.alt 14 .leaf .stop) .stop)))) .stop) .stop)) (.alt 11 (.alt 3 (.alt 7 (.take 8 (.take 9 (.take 10 (.alt 13 (.alt 14 .leaf .stop) .stop)))) .stop) .stop) .stop)) .stop))))))))) (by kernel_rfl) (by kernel_rfl) (by kernel_rfl) (by kernel_rfl) rfl (fun _ _ _ _ _ h => h) (below_drew (below_self W4)) (fun hHeld => ?_)
    generalize W4.drew = wd at *
    simp only [PT.map, List.getElem?_toArray, List.getElem?_cons_succ, List.getElem?_cons_zero]
    refine wpPT_take (v := ?_) (by kernel_rfl) (fun wS hSw => ?_) ?_
    rotate_left
    · refine execOp_load (x := .tmp 3) (k := 6) (g := w.heap.size) (off := 0) (cs := stkC g (.slice AU nU cU) (.slice AL nL cL)) ?_ stk_agg stk_size ?_ (fun j v hv => by rw [Nat.zero_add]; exact ((R0.out.on hSw).cell j).trans hv) rfl <;> rfl
    (try simp only [Act.put, List.setIfInBounds_toArray, List.set_cons_zero, List.set_cons_succ])
    refine wpPT_take (v := ?_) (by kernel_rfl) (fun wS hSw => ?_) ?_
    rotate_left
    · (try dsimp only at hSw); go_simp; (try with_reducible rfl)
    (try simp only [Act.put, List.setIfInBounds_toArray, List.set_cons_zero, List.set_cons_succ])
    refine wpPT_take (v := ?_) (by kernel_rfl) (fun wS hSw => ?_) ?_
    rotate_left
    · have qx := HQ0.out wS hSw; go_simp; (try with_reducible rfl)
    (try simp only [Act.put, List.setIfInBounds_toArray, List.set_cons_zero, List.set_cons_succ])
    refine wpPT_take (v := ?_) (by kernel_rfl) (fun wS hSw => ?_) ?_
    rotate_left
    · (try dsimp only at hSw); go_simp; (try with_reducible rfl)
    (try simp only [Act.put, List.setIfInBounds_toArray, List.set_cons_zero, List.set_cons_succ])
    refine wpPT_take (v := ?_) (by kernel_rfl) (fun wS hSw => ?_) ?_
    rotate_left
    · have qx := HQ1.out wS hSw; go_simp; (try with_reducible rfl)
    (try simp only [Act.put, List.setIfInBounds_toArray, List.set_cons_zero, List.set_cons_succ])
    refine wpPT_take (v := ?_) (by kernel_rfl) (fun wS hSw => ?_) ?_
    rotate_left
    · (try dsimp only at hSw); go_simp; (try with_reducible rfl)
    (try simp only [Act.put, List.setIfInBounds_toArray, List.set_cons_zero, List.set_cons_succ])
    refine wpPT_alt (by kernel_rfl) (fun K hK => ?_) ?_
    · skip
      have hOld := hide hHeld
      clear hHeld
      go_simp
      go_at_call 31
      refine (Beneath_e HLY.out (B := B) _ (HL.out.under hOld.out (by omega)) (by have := hOld.out.size; omega) hm).mono ?_
      rintro e w' ⟨A1, n1, c1, rfl, e2, e3, hbel⟩
      have hb' := hbel.mono (B' := W4.heap.size) (by have := hOld.out.size; omega)
      have HNS := hide e3
      clear e3
      clear hbel
      refine hK.out _ _ (hOld.out.trans hb') (fun hHeld => ?_)
      clear hK K
      (try simp only [Act.put, List.setIfInBounds_toArray, List.set_cons_zero, List.set_cons_succ])
      refine wpPT_alt (by kernel_rfl) (fun K hK => ?_) ?_
      · skip
        have hOld := hide hHeld
        clear hHeld
        go_simp
        go_at_call 43
        refine (First_n HFO.out HNO.out (B := B) _ HNS.out (by have := hOld.out.size; omega) (by omega) hel).mono ?_
        rintro e w' ⟨A2, n2, c2, C2, m2, d2, rfl, f2, f3, f4, f5, hbel⟩
        have hb' := hbel.mono (B' := W4.heap.size) (by have := hOld.out.size; omega)
        have HD := hide f3
        clear f3
        have HE := hide f5
        clear f5
        have HNS' := hide (HNS.out.under hbel (by have := hOld.out.size; omega))
        clear HNS
        have HNS := HNS'
        clear HNS'
        clear hbel
        refine hK.out _ _ (hOld.out.trans hb') (fun hHeld => ?_)
        clear hK K
        (try simp only [Act.put, List.setIfInBounds_toArray, List.set_cons_zero, List.set_cons_succ])
        refine wpPT_take (v := ?_) (by kernel_rfl) (fun wS hSw => ?_) ?_
        rotate_left
        · (try dsimp only at hSw); go_simp; (try with_reducible rfl)
        (try simp only [Act.put, List.setIfInBounds_toArray, List.set_cons_zero, List.set_cons_succ])
        refine wpPT_take (v := ?_) (by kernel_rfl) (fun wS hSw => ?_) ?_
        rotate_left
        · (try dsimp only at hSw); go_simp; (try with_reducible rfl)
        (try simp only [Act.put, List.setIfInBounds_toArray, List.set_cons_zero, List.set_cons_succ])
        refine wpPT_take (v := ?_) (by kernel_rfl) (fun wS hSw => ?_) ?_
        rotate_left
        · (try dsimp only at hSw); go_simp; (try with_reducible rfl)
        (try simp only [Act.put, List.setIfInBounds_toArray, List.set_cons_zero, List.set_cons_succ])
        refine wpPT_alt (by kernel_rfl) (fun K hK => ?_) ?_
        · skip
          have hOld := hide hHeld
          clear hHeld
          unfold Oper.wp execOp
          go_simp
          have hal := below_new (below_self w') (.cells #[.int .i64 0, .int .i64 0, .string ⟨#[]⟩] 70)
          have hb' := hal.mono (B' := W4.heap.size) (by have := hOld.out.size; omega)
          have HFN := hide (show RowL (w'.alloc (.cells #[.int .i64 0, .int .i64 0, .string ⟨#[]⟩] 70)) w'.heap.size 70 [.int .i64 0, .int .i64 0, .string ⟨#[]⟩] from RowL.new w' 70 [.int .i64 0, .int .i64 0, .string ⟨#[]⟩])
          have g8l : W4.heap.size ≤ w'.heap.size := hOld.out.size
          refine hK.out _ _ (hOld.out.trans hb') (fun hHeld => ?_)
          clear hK K
          have HNS' := hide (HNS.out.under hal (by have := hOld.out.size; omega))
          clear HNS
          have HNS := HNS'
          clear HNS'
          have HD' := hide (HD.out.under hal (by have := hOld.out.size; omega))
          clear HD
          have HD := HD'
          clear HD'
          have HE' := hide (HE.out.under hal (by have := hOld.out.size; omega))
          clear HE
          have HE := HE'
          clear HE'
          have R8 := HFN
          clear hal hb' hOld HFN
          generalize w'.alloc (.cells #[.int .i64 0, .int .i64 0, .string ⟨#[]⟩] 70) = z2 at *
          generalize w'.heap.size = g8 at *
          (try simp only [Act.put, List.setIfInBounds_toArray, List.set_cons_zero, List.set_cons_succ])
          refine wpPT_alt (by kernel_rfl) (fun K hK => ?_) ?_
          rotate_left
          · exact wpPT_stop
          have hOld := hide hHeld
          clear hHeld
          unfold Oper.wp execOp
          go_simp
          have hal := below_new (below_self z2) (.cells #[.int .i64 0, .int .i64 0, .int .i64 0, .int .i64 0, .slice none 0 0, .slice none 0 0, .int .i64 0, .int .i64 0, .string ⟨#[]⟩, .int .i64 0, .int .i64 0, .int .i64 0, .int .i64 0] 59)
          have hb' := hal.mono (B' := W4.heap.size) (by have := hOld.out.size; omega)
          have HFN := hide (show RowL (z2.alloc (.cells #[.int .i64 0, .int .i64 0, .int .i64 0, .int .i64 0, .slice none 0 0, .slice none 0 0, .int .i64 0, .int .i64 0, .string ⟨#[]⟩, .int .i64 0, .int .i64 0, .int .i64 0, .int .i64 0] 59)) z2.heap.size 59 (nodC nod0 (.slice none 0 0) (.slice none 0 0)) from RowL.new z2 59 (nodC nod0 (.slice none 0 0) (.slice none 0 0)))
          have g9l : W4.heap.size ≤ z2.heap.size := hOld.out.size
          have g8ng9 : g8 < z2.heap.size := R8.out.lt
          refine hK.out _ _ (hOld.out.trans hb') (fun hHeld => ?_)
          clear hK K
          have HNS' := hide (HNS.out.under hal (by have := hOld.out.size; omega))
          clear HNS
          have HNS := HNS'
          clear HNS'
          have HD' := hide (HD.out.under hal (by have := hOld.out.size; omega))
          clear HD
          have HD := HD'
          clear HD'
          have HE' := hide (HE.out.under hal (by have := hOld.out.size; omega))
          clear HE
          have HE := HE'
          clear HE'
          have R8' := hide (R8.out.on hal)
          clear R8
          have R8 := R8'
          clear R8'
          have R9 := HFN
          clear hal hb' hOld HFN
          generalize z2.alloc (.cells #[.int .i64 0, .int .i64 0, .int .i64 0, .int .i64 0, .slice none 0 0, .slice none 0 0, .int .i64 0, .int .i64 0, .string ⟨#[]⟩, .int .i64 0, .int .i64 0, .int .i64 0, .int .i64 0] 59) = z3 at *
          generalize z2.heap.size = g9 at *
          (try simp only [Act.put, List.setIfInBounds_toArray, List.set_cons_zero, List.set_cons_succ])
          refine wpPT_alt (by kernel_rfl) (fun K hK => ?_) ?_
          rotate_left
          · exact wpPT_stop
          have hOld := hide hHeld
          clear hHeld
          refine wp_storeC 70 (.tmp 8) (.tmp 19) rfl 3 entw_size g8 0 70 rfl [.int .i64 0, .int .i64 0, .string ⟨#[]⟩] (cellsE (entO o)) rfl R8.out rfl (by exact Nat.le_refl _) (cellsE_one _) ?_
          intro w' hr' hg' hs'
          rw [splice_all [.int .i64 0, .int .i64 0, .string ⟨#[]⟩] (cellsE (entO o)) rfl] at hr'
          refine hK.out _ _ (hOld.out.grown hg' (by have := hOld.out.size; omega) (fun k hk => by have := Option.some.inj hk; omega)) (fun hHeld => ?_)
          clear hK K
          have HNS' := hide (HNS.out.mono (show Kept (Under B) _ _ from fun b hb => hg'.block b (by unfold Under at hb; have := hOld.out.size; omega) (fun e => by have := Option.some.inj e; unfold Under at hb; omega)) (fun _ h => h))
          clear HNS
          have HNS := HNS'
          clear HNS'
          have HD' := hide (HD.out.mono (show Kept (Under B) _ _ from fun b hb => hg'.block b (by unfold Under at hb; have := hOld.out.size; omega) (fun e => by have := Option.some.inj e; unfold Under at hb; omega)) (fun _ h => h))
          clear HD
          have HD := HD'
          clear HD'
          have HE' := hide (HE.out.mono (show Kept (Under B) _ _ from fun b hb => hg'.block b (by unfold Under at hb; have := hOld.out.size; omega) (fun e => by have := Option.some.inj e; unfold Under at hb; omega)) (fun _ h => h))
          clear HE
          have HE := HE'
          clear HE'
          have R9' := hide (R9.out.grown hg' (fun e => by have := Option.some.inj e; omega))
          clear R9
          have R9 := R9'
          clear R9'
          clear R8
          have R8 := hide hr'
          clear hg' hs' hr' hOld
          (try simp only [Act.put])
          refine wpPT_alt (by kernel_rfl) (fun K hK => ?_) ?_
          rotate_left
          · exact wpPT_stop
          have hOld := hide hHeld
          clear hHeld
          refine wp_storeC 59 (.tmp 9) (.tmp 20) rfl 13 nod_size g9 0 59 rfl (nodC nod0 (.slice none 0 0) (.slice none 0 0)) (nodC N (.slice A2 n2 c2) (.slice C2 m2 d2)) rfl R9.out rfl (by exact Nat.le_refl _) (nodC_one _ _ _ _ _ _ _) ?_
          intro w' hr' hg' hs'
          rw [splice_all (nodC nod0 (.slice none 0 0) (.slice none 0 0)) (nodC N (.slice A2 n2 c2) (.slice C2 m2 d2)) rfl] at hr'
          refine hK.out _ _ (hOld.out.grown hg' (by have := hOld.out.size; omega) (fun k hk => by have := Option.some.inj hk; omega)) (fun hHeld => ?_)
          clear hK K
          have HNS' := hide (HNS.out.mono (show Kept (Under B) _ _ from fun b hb => hg'.block b (by unfold Under at hb; have := hOld.out.size; omega) (fun e => by have := Option.some.inj e; unfold Under at hb; omega)) (fun _ h => h))
          clear HNS
          have HNS := HNS'
          clear HNS'
          have HD' := hide (HD.out.mono (show Kept (Under B) _ _ from fun b hb => hg'.block b (by unfold Under at hb; have := hOld.out.size; omega) (fun e => by have := Option.some.inj e; unfold Under at hb; omega)) (fun _ h => h))
          clear HD
          have HD := HD'
          clear HD'
          have HE' := hide (HE.out.mono (show Kept (Under B) _ _ from fun b hb => hg'.block b (by unfold Under at hb; have := hOld.out.size; omega) (fun e => by have := Option.some.inj e; unfold Under at hb; omega)) (fun _ h => h))
          clear HE
          have HE := HE'
          clear HE'
          have R8' := hide (R8.out.grown hg' (fun e => by have := Option.some.inj e; omega))
          clear R8
          have R8 := R8'
          clear R8'
          clear R9
          have R9 := hide hr'
          clear hg' hs' hr' hOld
          (try simp only [Act.put])
          refine wpPT_leaf ?_
          have HBX := hide hHeld
          clear hHeld
          go_wp2_with fail
          go_meet
          case rel => exact ⟨g8, g9, A2, n2, c2, C2, m2, d2, rfl, rfl, R8.out, R9.out, f2, HD.out, f4, HE.out, HBX.out, g8l, g9l⟩
        refine wpPT_alt (by kernel_rfl) (fun K hK => ?_) ?_
        · skip
          have hOld := hide hHeld
          clear hHeld
          unfold Oper.wp execOp
          go_simp
          have hal := below_new (below_self w') (.cells #[.int .i64 0, .int .i64 0, .int .i64 0, .int .i64 0, .slice none 0 0, .slice none 0 0, .int .i64 0, .int .i64 0, .string ⟨#[]⟩, .int .i64 0, .int .i64 0, .int .i64 0, .int .i64 0] 59)
          have hb' := hal.mono (B' := W4.heap.size) (by have := hOld.out.size; omega)
          have HFN := hide (show RowL (w'.alloc (.cells #[.int .i64 0, .int .i64 0, .int .i64 0, .int .i64 0, .slice none 0 0, .slice none 0 0, .int .i64 0, .int .i64 0, .string ⟨#[]⟩, .int .i64 0, .int .i64 0, .int .i64 0, .int .i64 0] 59)) w'.heap.size 59 (nodC nod0 (.slice none 0 0) (.slice none 0 0)) from RowL.new w' 59 (nodC nod0 (.slice none 0 0) (.slice none 0 0)))
          have g9l : W4.heap.size ≤ w'.heap.size := hOld.out.size
          refine hK.out _ _ (hOld.out.trans hb') (fun hHeld => ?_)
          clear hK K
          have HNS' := hide (HNS.out.under hal (by have := hOld.out.size; omega))
          clear HNS
          have HNS := HNS'
          clear HNS'
          have HD' := hide (HD.out.under hal (by have := hOld.out.size; omega))
          clear HD
          have HD := HD'
          clear HD'
          have HE' := hide (HE.out.under hal (by have := hOld.out.size; omega))
          clear HE
          have HE := HE'
          clear HE'
          have R9 := HFN
          clear hal hb' hOld HFN
          generalize w'.alloc (.cells #[.int .i64 0, .int .i64 0, .int .i64 0, .int .i64 0, .slice none 0 0, .slice none 0 0, .int .i64 0, .int .i64 0, .string ⟨#[]⟩, .int .i64 0, .int .i64 0, .int .i64 0, .int .i64 0] 59) = z2 at *
          generalize w'.heap.size = g9 at *
          (try simp only [Act.put, List.setIfInBounds_toArray, List.set_cons_zero, List.set_cons_succ])
          refine wpPT_alt (by kernel_rfl) (fun K hK => ?_) ?_
          rotate_left
          · exact wpPT_stop
          have hOld := hide hHeld
          clear hHeld
          unfold Oper.wp execOp
          go_simp
          have hal := below_new (below_self z2) (.cells #[.int .i64 0, .int .i64 0, .string ⟨#[]⟩] 70)
          have hb' := hal.mono (B' := W4.heap.size) (by have := hOld.out.size; omega)
          have HFN := hide (show RowL (z2.alloc (.cells #[.int .i64 0, .int .i64 0, .string ⟨#[]⟩] 70)) z2.heap.size 70 [.int .i64 0, .int .i64 0, .string ⟨#[]⟩] from RowL.new z2 70 [.int .i64 0, .int .i64 0, .string ⟨#[]⟩])
          have g8l : W4.heap.size ≤ z2.heap.size := hOld.out.size
          have g9ng8 : g9 < z2.heap.size := R9.out.lt
          refine hK.out _ _ (hOld.out.trans hb') (fun hHeld => ?_)
          clear hK K
          have HNS' := hide (HNS.out.under hal (by have := hOld.out.size; omega))
          clear HNS
          have HNS := HNS'
          clear HNS'
          have HD' := hide (HD.out.under hal (by have := hOld.out.size; omega))
          clear HD
          have HD := HD'
          clear HD'
          have HE' := hide (HE.out.under hal (by have := hOld.out.size; omega))
          clear HE
          have HE := HE'
          clear HE'
          have R9' := hide (R9.out.on hal)
          clear R9
          have R9 := R9'
          clear R9'
          have R8 := HFN
          clear hal hb' hOld HFN
          generalize z2.alloc (.cells #[.int .i64 0, .int .i64 0, .string ⟨#[]⟩] 70) = z3 at *
          generalize z2.heap.size = g8 at *
          (try simp only [Act.put, List.setIfInBounds_toArray, List.set_cons_zero, List.set_cons_succ])
          refine wpPT_alt (by kernel_rfl) (fun K hK => ?_) ?_
          rotate_left
          · exact wpPT_stop
          have hOld := hide hHeld
          clear hHeld
          refine wp_storeC 70 (.tmp 8) (.tmp 19) rfl 3 entw_size g8 0 70 rfl [.int .i64 0, .int .i64 0, .string ⟨#[]⟩] (cellsE (entO o)) rfl R8.out rfl (by exact Nat.le_refl _) (cellsE_one _) ?_
          intro w' hr' hg' hs'
          rw [splice_all [.int .i64 0, .int .i64 0, .string ⟨#[]⟩] (cellsE (entO o)) rfl] at hr'
          refine hK.out _ _ (hOld.out.grown hg' (by have := hOld.out.size; omega) (fun k hk => by have := Option.some.inj hk; omega)) (fun hHeld => ?_)
          clear hK K
          have HNS' := hide (HNS.out.mono (show Kept (Under B) _ _ from fun b hb => hg'.block b (by unfold Under at hb; have := hOld.out.size; omega) (fun e => by have := Option.some.inj e; unfold Under at hb; omega)) (fun _ h => h))
          clear HNS
          have HNS := HNS'
          clear HNS'
          have HD' := hide (HD.out.mono (show Kept (Under B) _ _ from fun b hb => hg'.block b (by unfold Under at hb; have := hOld.out.size; omega) (fun e => by have := Option.some.inj e; unfold Under at hb; omega)) (fun _ h => h))
          clear HD
          have HD := HD'
          clear HD'
          have HE' := hide (HE.out.mono (show Kept (Under B) _ _ from fun b hb => hg'.block b (by unfold Under at hb; have := hOld.out.size; omega) (fun e => by have := Option.some.inj e; unfold Under at hb; omega)) (fun _ h => h))
          clear HE
          have HE := HE'
          clear HE'
          have R9' := hide (R9.out.grown hg' (fun e => by have := Option.some.inj e; omega))
          clear R9
          have R9 := R9'
          clear R9'
          clear R8
          have R8 := hide hr'
          clear hg' hs' hr' hOld
          (try simp only [Act.put])
          refine wpPT_alt (by kernel_rfl) (fun K hK => ?_) ?_
          rotate_left
          · exact wpPT_stop
          have hOld := hide hHeld
          clear hHeld
          refine wp_storeC 59 (.tmp 9) (.tmp 20) rfl 13 nod_size g9 0 59 rfl (nodC nod0 (.slice none 0 0) (.slice none 0 0)) (nodC N (.slice A2 n2 c2) (.slice C2 m2 d2)) rfl R9.out rfl (by exact Nat.le_refl _) (nodC_one _ _ _ _ _ _ _) ?_
          intro w' hr' hg' hs'
          rw [splice_all (nodC nod0 (.slice none 0 0) (.slice none 0 0)) (nodC N (.slice A2 n2 c2) (.slice C2 m2 d2)) rfl] at hr'
          refine hK.out _ _ (hOld.out.grown hg' (by have := hOld.out.size; omega) (fun k hk => by have := Option.some.inj hk; omega)) (fun hHeld => ?_)
          clear hK K
          have HNS' := hide (HNS.out.mono (show Kept (Under B) _ _ from fun b hb => hg'.block b (by unfold Under at hb; have := hOld.out.size; omega) (fun e => by have := Option.some.inj e; unfold Under at hb; omega)) (fun _ h => h))
          clear HNS
          have HNS := HNS'
          clear HNS'
          have HD' := hide (HD.out.mono (show Kept (Under B) _ _ from fun b hb => hg'.block b (by unfold Under at hb; have := hOld.out.size; omega) (fun e => by have := Option.some.inj e; unfold Under at hb; omega)) (fun _ h => h))
          clear HD
          have HD := HD'
          clear HD'
          have HE' := hide (HE.out.mono (show Kept (Under B) _ _ from fun b hb => hg'.block b (by unfold Under at hb; have := hOld.out.size; omega) (fun e => by have := Option.some.inj e; unfold Under at hb; omega)) (fun _ h => h))
          clear HE
          have HE := HE'
          clear HE'
          have R8' := hide (R8.out.grown hg' (fun e => by have := Option.some.inj e; omega))
          clear R8
          have R8 := R8'
          clear R8'
          clear R9
          have R9 := hide hr'
          clear hg' hs' hr' hOld
          (try simp only [Act.put])
          refine wpPT_leaf ?_
          have HBX := hide hHeld
          clear hHeld
          go_wp2_with fail
          go_meet
          case rel => exact ⟨g8, g9, A2, n2, c2, C2, m2, d2, rfl, rfl, R8.out, R9.out, f2, HD.out, f4, HE.out, HBX.out, g8l, g9l⟩
        exact wpPT_stop
      refine wpPT_alt (by kernel_rfl) (fun K hK => ?_) ?_
      · skip
        have hOld := hide hHeld
        clear hHeld
        unfold Oper.wp execOp
        go_simp
        have hal := below_new (below_self w') (.cells #[.int .i64 0, .int .i64 0, .string ⟨#[]⟩] 70)
        have hb' := hal.mono (B' := W4.heap.size) (by have := hOld.out.size; omega)
        have HFN := hide (show RowL (w'.alloc (.cells #[.int .i64 0, .int .i64 0, .string ⟨#[]⟩] 70)) w'.heap.size 70 [.int .i64 0, .int .i64 0, .string ⟨#[]⟩] from RowL.new w' 70 [.int .i64 0, .int .i64 0, .string ⟨#[]⟩])
        have g8l : W4.heap.size ≤ w'.heap.size := hOld.out.size
        refine hK.out _ _ (hOld.out.trans hb') (fun hHeld => ?_)
        clear hK K
        have HNS' := hide (HNS.out.under hal (by have := hOld.out.size; omega))
        clear HNS
        have HNS := HNS'
        clear HNS'
        have R8 := HFN
        clear hal hb' hOld HFN
        generalize w'.alloc (.cells #[.int .i64 0, .int .i64 0, .string ⟨#[]⟩] 70) = z1 at *
        generalize w'.heap.size = g8 at *
        (try simp only [Act.put, List.setIfInBounds_toArray, List.set_cons_zero, List.set_cons_succ])
        refine wpPT_alt (by kernel_rfl) (fun K hK => ?_) ?_
        · skip
          have hOld := hide hHeld
          clear hHeld
          go_simp
          go_at_call 43
          refine (First_n HFO.out HNO.out (B := B) _ HNS.out (by have := hOld.out.size; omega) (by omega) hel).mono ?_
          rintro e w' ⟨A2, n2, c2, C2, m2, d2, rfl, f2, f3, f4, f5, hbel⟩
          have hb' := hbel.mono (B' := W4.heap.size) (by have := hOld.out.size; omega)
          have HD := hide f3
          clear f3
          have HE := hide f5
          clear f5
          have HNS' := hide (HNS.out.under hbel (by have := hOld.out.size; omega))
          clear HNS
          have HNS := HNS'
          clear HNS'
          have R8' := hide (R8.out.on hbel)
          clear R8
          have R8 := R8'
          clear R8'
          clear hbel
          refine hK.out _ _ (hOld.out.trans hb') (fun hHeld => ?_)
          clear hK K
          (try simp only [Act.put, List.setIfInBounds_toArray, List.set_cons_zero, List.set_cons_succ])
          refine wpPT_take (v := ?_) (by kernel_rfl) (fun wS hSw => ?_) ?_
          rotate_left
          · (try dsimp only at hSw); go_simp; (try with_reducible rfl)
          (try simp only [Act.put, List.setIfInBounds_toArray, List.set_cons_zero, List.set_cons_succ])
          refine wpPT_take (v := ?_) (by kernel_rfl) (fun wS hSw => ?_) ?_
          rotate_left
          · (try dsimp only at hSw); go_simp; (try with_reducible rfl)
          (try simp only [Act.put, List.setIfInBounds_toArray, List.set_cons_zero, List.set_cons_succ])
          refine wpPT_take (v := ?_) (by kernel_rfl) (fun wS hSw => ?_) ?_
          rotate_left
          · (try dsimp only at hSw); go_simp; (try with_reducible rfl)
          (try simp only [Act.put, List.setIfInBounds_toArray, List.set_cons_zero, List.set_cons_succ])
          refine wpPT_alt (by kernel_rfl) (fun K hK => ?_) ?_
          rotate_left
          · exact wpPT_stop
          have hOld := hide hHeld
          clear hHeld
          unfold Oper.wp execOp
          go_simp
          have hal := below_new (below_self w') (.cells #[.int .i64 0, .int .i64 0, .int .i64 0, .int .i64 0, .slice none 0 0, .slice none 0 0, .int .i64 0, .int .i64 0, .string ⟨#[]⟩, .int .i64 0, .int .i64 0, .int .i64 0, .int .i64 0] 59)
          have hb' := hal.mono (B' := W4.heap.size) (by have := hOld.out.size; omega)
          have HFN := hide (show RowL (w'.alloc (.cells #[.int .i64 0, .int .i64 0, .int .i64 0, .int .i64 0, .slice none 0 0, .slice none 0 0, .int .i64 0, .int .i64 0, .string ⟨#[]⟩, .int .i64 0, .int .i64 0, .int .i64 0, .int .i64 0] 59)) w'.heap.size 59 (nodC nod0 (.slice none 0 0) (.slice none 0 0)) from RowL.new w' 59 (nodC nod0 (.slice none 0 0) (.slice none 0 0)))
          have g9l : W4.heap.size ≤ w'.heap.size := hOld.out.size
          have g8ng9 : g8 < w'.heap.size := R8.out.lt
          refine hK.out _ _ (hOld.out.trans hb') (fun hHeld => ?_)
          clear hK K
          have HNS' := hide (HNS.out.under hal (by have := hOld.out.size; omega))
          clear HNS
          have HNS := HNS'
          clear HNS'
          have R8' := hide (R8.out.on hal)
          clear R8
          have R8 := R8'
          clear R8'
          have HD' := hide (HD.out.under hal (by have := hOld.out.size; omega))
          clear HD
          have HD := HD'
          clear HD'
          have HE' := hide (HE.out.under hal (by have := hOld.out.size; omega))
          clear HE
          have HE := HE'
          clear HE'
          have R9 := HFN
          clear hal hb' hOld HFN
          generalize w'.alloc (.cells #[.int .i64 0, .int .i64 0, .int .i64 0, .int .i64 0, .slice none 0 0, .slice none 0 0, .int .i64 0, .int .i64 0, .string ⟨#[]⟩, .int .i64 0, .int .i64 0, .int .i64 0, .int .i64 0] 59) = z3 at *
          generalize w'.heap.size = g9 at *
          (try simp only [Act.put, List.setIfInBounds_toArray, List.set_cons_zero, List.set_cons_succ])
          refine wpPT_alt (by kernel_rfl) (fun K hK => ?_) ?_
          rotate_left
          · exact wpPT_stop
          have hOld := hide hHeld
          clear hHeld
          refine wp_storeC 70 (.tmp 8) (.tmp 19) rfl 3 entw_size g8 0 70 rfl [.int .i64 0, .int .i64 0, .string ⟨#[]⟩] (cellsE (entO o)) rfl R8.out rfl (by exact Nat.le_refl _) (cellsE_one _) ?_
          intro w' hr' hg' hs'
          rw [splice_all [.int .i64 0, .int .i64 0, .string ⟨#[]⟩] (cellsE (entO o)) rfl] at hr'
          refine hK.out _ _ (hOld.out.grown hg' (by have := hOld.out.size; omega) (fun k hk => by have := Option.some.inj hk; omega)) (fun hHeld => ?_)
          clear hK K
          have HNS' := hide (HNS.out.mono (show Kept (Under B) _ _ from fun b hb => hg'.block b (by unfold Under at hb; have := hOld.out.size; omega) (fun e => by have := Option.some.inj e; unfold Under at hb; omega)) (fun _ h => h))
          clear HNS
          have HNS := HNS'
          clear HNS'
          have HD' := hide (HD.out.mono (show Kept (Under B) _ _ from fun b hb => hg'.block b (by unfold Under at hb; have := hOld.out.size; omega) (fun e => by have := Option.some.inj e; unfold Under at hb; omega)) (fun _ h => h))
          clear HD
          have HD := HD'
          clear HD'
          have HE' := hide (HE.out.mono (show Kept (Under B) _ _ from fun b hb => hg'.block b (by unfold Under at hb; have := hOld.out.size; omega) (fun e => by have := Option.some.inj e; unfold Under at hb; omega)) (fun _ h => h))
          clear HE
          have HE := HE'
          clear HE'
          have R9' := hide (R9.out.grown hg' (fun e => by have := Option.some.inj e; omega))
          clear R9
          have R9 := R9'
          clear R9'
          clear R8
          have R8 := hide hr'
          clear hg' hs' hr' hOld
          (try simp only [Act.put])
          refine wpPT_alt (by kernel_rfl) (fun K hK => ?_) ?_
          rotate_left
          · exact wpPT_stop
          have hOld := hide hHeld
          clear hHeld
          refine wp_storeC 59 (.tmp 9) (.tmp 20) rfl 13 nod_size g9 0 59 rfl (nodC nod0 (.slice none 0 0) (.slice none 0 0)) (nodC N (.slice A2 n2 c2) (.slice C2 m2 d2)) rfl R9.out rfl (by exact Nat.le_refl _) (nodC_one _ _ _ _ _ _ _) ?_
          intro w' hr' hg' hs'
          rw [splice_all (nodC nod0 (.slice none 0 0) (.slice none 0 0)) (nodC N (.slice A2 n2 c2) (.slice C2 m2 d2)) rfl] at hr'
          refine hK.out _ _ (hOld.out.grown hg' (by have := hOld.out.size; omega) (fun k hk => by have := Option.some.inj hk; omega)) (fun hHeld => ?_)
          clear hK K
          have HNS' := hide (HNS.out.mono (show Kept (Under B) _ _ from fun b hb => hg'.block b (by unfold Under at hb; have := hOld.out.size; omega) (fun e => by have := Option.some.inj e; unfold Under at hb; omega)) (fun _ h => h))
          clear HNS
          have HNS := HNS'
          clear HNS'
          have R8' := hide (R8.out.grown hg' (fun e => by have := Option.some.inj e; omega))
          clear R8
          have R8 := R8'
          clear R8'
          have HD' := hide (HD.out.mono (show Kept (Under B) _ _ from fun b hb => hg'.block b (by unfold Under at hb; have := hOld.out.size; omega) (fun e => by have := Option.some.inj e; unfold Under at hb; omega)) (fun _ h => h))
          clear HD
          have HD := HD'
          clear HD'
          have HE' := hide (HE.out.mono (show Kept (Under B) _ _ from fun b hb => hg'.block b (by unfold Under at hb; have := hOld.out.size; omega) (fun e => by have := Option.some.inj e; unfold Under at hb; omega)) (fun _ h => h))
          clear HE
          have HE := HE'
          clear HE'
          clear R9
          have R9 := hide hr'
          clear hg' hs' hr' hOld
          (try simp only [Act.put])
          refine wpPT_leaf ?_
          have HBX := hide hHeld
          clear hHeld
          go_wp2_with fail
          go_meet
          case rel => exact ⟨g8, g9, A2, n2, c2, C2, m2, d2, rfl, rfl, R8.out, R9.out, f2, HD.out, f4, HE.out, HBX.out, g8l, g9l⟩
        refine wpPT_alt (by kernel_rfl) (fun K hK => ?_) ?_
        · skip
          have hOld := hide hHeld
          clear hHeld
          unfold Oper.wp execOp
          go_simp
          have hal := below_new (below_self z1) (.cells #[.int .i64 0, .int .i64 0, .int .i64 0, .int .i64 0, .slice none 0 0, .slice none 0 0, .int .i64 0, .int .i64 0, .string ⟨#[]⟩, .int .i64 0, .int .i64 0, .int .i64 0, .int .i64 0] 59)
          have hb' := hal.mono (B' := W4.heap.size) (by have := hOld.out.size; omega)
          have HFN := hide (show RowL (z1.alloc (.cells #[.int .i64 0, .int .i64 0, .int .i64 0, .int .i64 0, .slice none 0 0, .slice none 0 0, .int .i64 0, .int .i64 0, .string ⟨#[]⟩, .int .i64 0, .int .i64 0, .int .i64 0, .int .i64 0] 59)) z1.heap.size 59 (nodC nod0 (.slice none 0 0) (.slice none 0 0)) from RowL.new z1 59 (nodC nod0 (.slice none 0 0) (.slice none 0 0)))
          have g9l : W4.heap.size ≤ z1.heap.size := hOld.out.size
          have g8ng9 : g8 < z1.heap.size := R8.out.lt
          refine hK.out _ _ (hOld.out.trans hb') (fun hHeld => ?_)
          clear hK K
          have HNS' := hide (HNS.out.under hal (by have := hOld.out.size; omega))
          clear HNS
          have HNS := HNS'
          clear HNS'
          have R8' := hide (R8.out.on hal)
          clear R8
          have R8 := R8'
          clear R8'
          have R9 := HFN
          clear hal hb' hOld HFN
          generalize z1.alloc (.cells #[.int .i64 0, .int .i64 0, .int .i64 0, .int .i64 0, .slice none 0 0, .slice none 0 0, .int .i64 0, .int .i64 0, .string ⟨#[]⟩, .int .i64 0, .int .i64 0, .int .i64 0, .int .i64 0] 59) = z2 at *
          generalize z1.heap.size = g9 at *
          (try simp only [Act.put, List.setIfInBounds_toArray, List.set_cons_zero, List.set_cons_succ])
          refine wpPT_alt (by kernel_rfl) (fun K hK => ?_) ?_
          rotate_left
          · exact wpPT_stop
          have hOld := hide hHeld
          clear hHeld
          go_simp
          go_at_call 43
          refine (First_n HFO.out HNO.out (B := B) _ HNS.out (by have := hOld.out.size; omega) (by omega) hel).mono ?_
          rintro e w' ⟨A2, n2, c2, C2, m2, d2, rfl, f2, f3, f4, f5, hbel⟩
          have hb' := hbel.mono (B' := W4.heap.size) (by have := hOld.out.size; omega)
          have HD := hide f3
          clear f3
          have HE := hide f5
          clear f5
          have HNS' := hide (HNS.out.under hbel (by have := hOld.out.size; omega))
          clear HNS
          have HNS := HNS'
          clear HNS'
          have R8' := hide (R8.out.on hbel)
          clear R8
          have R8 := R8'
          clear R8'
          have R9' := hide (R9.out.on hbel)
          clear R9
          have R9 := R9'
          clear R9'
          clear hbel
          refine hK.out _ _ (hOld.out.trans hb') (fun hHeld => ?_)
          clear hK K
          (try simp only [Act.put, List.setIfInBounds_toArray, List.set_cons_zero, List.set_cons_succ])
          refine wpPT_take (v := ?_) (by kernel_rfl) (fun wS hSw => ?_) ?_
          rotate_left
          · (try dsimp only at hSw); go_simp; (try with_reducible rfl)
          (try simp only [Act.put, List.setIfInBounds_toArray, List.set_cons_zero, List.set_cons_succ])
          refine wpPT_take (v := ?_) (by kernel_rfl) (fun wS hSw => ?_) ?_
          rotate_left
          · (try dsimp only at hSw); go_simp; (try with_reducible rfl)
          (try simp only [Act.put, List.setIfInBounds_toArray, List.set_cons_zero, List.set_cons_succ])
          refine wpPT_take (v := ?_) (by kernel_rfl) (fun wS hSw => ?_) ?_
          rotate_left
          · (try dsimp only at hSw); go_simp; (try with_reducible rfl)
          (try simp only [Act.put, List.setIfInBounds_toArray, List.set_cons_zero, List.set_cons_succ])
          refine wpPT_alt (by kernel_rfl) (fun K hK => ?_) ?_
          rotate_left
          · exact wpPT_stop
          have hOld := hide hHeld
          clear hHeld
          refine wp_storeC 70 (.tmp 8) (.tmp 19) rfl 3 entw_size g8 0 70 rfl [.int .i64 0, .int .i64 0, .string ⟨#[]⟩] (cellsE (entO o)) rfl R8.out rfl (by exact Nat.le_refl _) (cellsE_one _) ?_
          intro w' hr' hg' hs'
          rw [splice_all [.int .i64 0, .int .i64 0, .string ⟨#[]⟩] (cellsE (entO o)) rfl] at hr'
          refine hK.out _ _ (hOld.out.grown hg' (by have := hOld.out.size; omega) (fun k hk => by have := Option.some.inj hk; omega)) (fun hHeld => ?_)
          clear hK K
          have HNS' := hide (HNS.out.mono (show Kept (Under B) _ _ from fun b hb => hg'.block b (by unfold Under at hb; have := hOld.out.size; omega) (fun e => by have := Option.some.inj e; unfold Under at hb; omega)) (fun _ h => h))
          clear HNS
          have HNS := HNS'
          clear HNS'
          have R9' := hide (R9.out.grown hg' (fun e => by have := Option.some.inj e; omega))
          clear R9
          have R9 := R9'
          clear R9'
          have HD' := hide (HD.out.mono (show Kept (Under B) _ _ from fun b hb => hg'.block b (by unfold Under at hb; have := hOld.out.size; omega) (fun e => by have := Option.some.inj e; unfold Under at hb; omega)) (fun _ h => h))
          clear HD
          have HD := HD'
          clear HD'
          have HE' := hide (HE.out.mono (show Kept (Under B) _ _ from fun b hb => hg'.block b (by unfold Under at hb; have := hOld.out.size; omega) (fun e => by have := Option.some.inj e; unfold Under at hb; omega)) (fun _ h => h))
          clear HE
          have HE := HE'
          clear HE'
          clear R8
          have R8 := hide hr'
          clear hg' hs' hr' hOld
          (try simp only [Act.put])
          refine wpPT_alt (by kernel_rfl) (fun K hK => ?_) ?_
          rotate_left
          · exact wpPT_stop
          have hOld := hide hHeld
          clear hHeld
          refine wp_storeC 59 (.tmp 9) (.tmp 20) rfl 13 nod_size g9 0 59 rfl (nodC nod0 (.slice none 0 0) (.slice none 0 0)) (nodC N (.slice A2 n2 c2) (.slice C2 m2 d2)) rfl R9.out rfl (by exact Nat.le_refl _) (nodC_one _ _ _ _ _ _ _) ?_
          intro w' hr' hg' hs'
          rw [splice_all (nodC nod0 (.slice none 0 0) (.slice none 0 0)) (nodC N (.slice A2 n2 c2) (.slice C2 m2 d2)) rfl] at hr'
          refine hK.out _ _ (hOld.out.grown hg' (by have := hOld.out.size; omega) (fun k hk => by have := Option.some.inj hk; omega)) (fun hHeld => ?_)
          clear hK K
          have HNS' := hide (HNS.out.mono (show Kept (Under B) _ _ from fun b hb => hg'.block b (by unfold Under at hb; have := hOld.out.size; omega) (fun e => by have := Option.some.inj e; unfold Under at hb; omega)) (fun _ h => h))
          clear HNS
          have HNS := HNS'
          clear HNS'
          have R8' := hide (R8.out.grown hg' (fun e => by have := Option.some.inj e; omega))
          clear R8
          have R8 := R8'
          clear R8'
          have HD' := hide (HD.out.mono (show Kept (Under B) _ _ from fun b hb => hg'.block b (by unfold Under at hb; have := hOld.out.size; omega) (fun e => by have := Option.some.inj e; unfold Under at hb; omega)) (fun _ h => h))
          clear HD
          have HD := HD'
          clear HD'
          have HE' := hide (HE.out.mono (show Kept (Under B) _ _ from fun b hb => hg'.block b (by unfold Under at hb; have := hOld.out.size; omega) (fun e => by have := Option.some.inj e; unfold Under at hb; omega)) (fun _ h => h))
          clear HE
          have HE := HE'
          clear HE'
          clear R9
          have R9 := hide hr'
          clear hg' hs' hr' hOld
          (try simp only [Act.put])
          refine wpPT_leaf ?_
          have HBX := hide hHeld
          clear hHeld
          go_wp2_with fail
          go_meet
          case rel => exact ⟨g8, g9, A2, n2, c2, C2, m2, d2, rfl, rfl, R8.out, R9.out, f2, HD.out, f4, HE.out, HBX.out, g8l, g9l⟩
        exact wpPT_stop
      refine wpPT_alt (by kernel_rfl) (fun K hK => ?_) ?_
      · skip
        have hOld := hide hHeld
        clear hHeld
        unfold Oper.wp execOp
        go_simp
        have hal := below_new (below_self w') (.cells #[.int .i64 0, .int .i64 0, .int .i64 0, .int .i64 0, .slice none 0 0, .slice none 0 0, .int .i64 0, .int .i64 0, .string ⟨#[]⟩, .int .i64 0, .int .i64 0, .int .i64 0, .int .i64 0] 59)
        have hb' := hal.mono (B' := W4.heap.size) (by have := hOld.out.size; omega)
        have HFN := hide (show RowL (w'.alloc (.cells #[.int .i64 0, .int .i64 0, .int .i64 0, .int .i64 0, .slice none 0 0, .slice none 0 0, .int .i64 0, .int .i64 0, .string ⟨#[]⟩, .int .i64 0, .int .i64 0, .int .i64 0, .int .i64 0] 59)) w'.heap.size 59 (nodC nod0 (.slice none 0 0) (.slice none 0 0)) from RowL.new w' 59 (nodC nod0 (.slice none 0 0) (.slice none 0 0)))
        have g9l : W4.heap.size ≤ w'.heap.size := hOld.out.size
        refine hK.out _ _ (hOld.out.trans hb') (fun hHeld => ?_)
        clear hK K
        have HNS' := hide (HNS.out.under hal (by have := hOld.out.size; omega))
        clear HNS
        have HNS := HNS'
        clear HNS'
        have R9 := HFN
        clear hal hb' hOld HFN
        generalize w'.alloc (.cells #[.int .i64 0, .int .i64 0, .int .i64 0, .int .i64 0, .slice none 0 0, .slice none 0 0, .int .i64 0, .int .i64 0, .string ⟨#[]⟩, .int .i64 0, .int .i64 0, .int .i64 0, .int .i64 0] 59) = z1 at *
        generalize w'.heap.size = g9 at *
        (try simp only [Act.put, List.setIfInBounds_toArray, List.set_cons_zero, List.set_cons_succ])
        refine wpPT_alt (by kernel_rfl) (fun K hK => ?_) ?_
        · skip
          have hOld := hide hHeld
          clear hHeld
          go_simp
          go_at_call 43
          refine (First_n HFO.out HNO.out (B := B) _ HNS.out (by have := hOld.out.size; omega) (by omega) hel).mono ?_
          rintro e w' ⟨A2, n2, c2, C2, m2, d2, rfl, f2, f3, f4, f5, hbel⟩
          have hb' := hbel.mono (B' := W4.heap.size) (by have := hOld.out.size; omega)
          have HD := hide f3
          clear f3
          have HE := hide f5
          clear f5
          have HNS' := hide (HNS.out.under hbel (by have := hOld.out.size; omega))
          clear HNS
          have HNS := HNS'
          clear HNS'
          have R9' := hide (R9.out.on hbel)
          clear R9
          have R9 := R9'
          clear R9'
          clear hbel
          refine hK.out _ _ (hOld.out.trans hb') (fun hHeld => ?_)
          clear hK K
          (try simp only [Act.put, List.setIfInBounds_toArray, List.set_cons_zero, List.set_cons_succ])
          refine wpPT_take (v := ?_) (by kernel_rfl) (fun wS hSw => ?_) ?_
          rotate_left
          · (try dsimp only at hSw); go_simp; (try with_reducible rfl)
          (try simp only [Act.put, List.setIfInBounds_toArray, List.set_cons_zero, List.set_cons_succ])
          refine wpPT_take (v := ?_) (by kernel_rfl) (fun wS hSw => ?_) ?_
          rotate_left
          · (try dsimp only at hSw); go_simp; (try with_reducible rfl)
          (try simp only [Act.put, List.setIfInBounds_toArray, List.set_cons_zero, List.set_cons_succ])
          refine wpPT_take (v := ?_) (by kernel_rfl) (fun wS hSw => ?_) ?_
          rotate_left
          · (try dsimp only at hSw); go_simp; (try with_reducible rfl)
          (try simp only [Act.put, List.setIfInBounds_toArray, List.set_cons_zero, List.set_cons_succ])
          refine wpPT_alt (by kernel_rfl) (fun K hK => ?_) ?_
          rotate_left
          · exact wpPT_stop
          have hOld := hide hHeld
          clear hHeld
          unfold Oper.wp execOp
          go_simp
          have hal := below_new (below_self w') (.cells #[.int .i64 0, .int .i64 0, .string ⟨#[]⟩] 70)
          have hb' := hal.mono (B' := W4.heap.size) (by have := hOld.out.size; omega)
          have HFN := hide (show RowL (w'.alloc (.cells #[.int .i64 0, .int .i64 0, .string ⟨#[]⟩] 70)) w'.heap.size 70 [.int .i64 0, .int .i64 0, .string ⟨#[]⟩] from RowL.new w' 70 [.int .i64 0, .int .i64 0, .string ⟨#[]⟩])
          have g8l : W4.heap.size ≤ w'.heap.size := hOld.out.size
          have g9ng8 : g9 < w'.heap.size := R9.out.lt
          refine hK.out _ _ (hOld.out.trans hb') (fun hHeld => ?_)
          clear hK K
          have HNS' := hide (HNS.out.under hal (by have := hOld.out.size; omega))
          clear HNS
          have HNS := HNS'
          clear HNS'
          have R9' := hide (R9.out.on hal)
          clear R9
          have R9 := R9'
          clear R9'
          have HD' := hide (HD.out.under hal (by have := hOld.out.size; omega))
          clear HD
          have HD := HD'
          clear HD'
          have HE' := hide (HE.out.under hal (by have := hOld.out.size; omega))
          clear HE
          have HE := HE'
          clear HE'
          have R8 := HFN
          clear hal hb' hOld HFN
          generalize w'.alloc (.cells #[.int .i64 0, .int .i64 0, .string ⟨#[]⟩] 70) = z3 at *
          generalize w'.heap.size = g8 at *
          (try simp only [Act.put, List.setIfInBounds_toArray, List.set_cons_zero, List.set_cons_succ])
          refine wpPT_alt (by kernel_rfl) (fun K hK => ?_) ?_
          rotate_left
          · exact wpPT_stop
          have hOld := hide hHeld
          clear hHeld
          refine wp_storeC 70 (.tmp 8) (.tmp 19) rfl 3 entw_size g8 0 70 rfl [.int .i64 0, .int .i64 0, .string ⟨#[]⟩] (cellsE (entO o)) rfl R8.out rfl (by exact Nat.le_refl _) (cellsE_one _) ?_
          intro w' hr' hg' hs'
          rw [splice_all [.int .i64 0, .int .i64 0, .string ⟨#[]⟩] (cellsE (entO o)) rfl] at hr'
          refine hK.out _ _ (hOld.out.grown hg' (by have := hOld.out.size; omega) (fun k hk => by have := Option.some.inj hk; omega)) (fun hHeld => ?_)
          clear hK K
          have HNS' := hide (HNS.out.mono (show Kept (Under B) _ _ from fun b hb => hg'.block b (by unfold Under at hb; have := hOld.out.size; omega) (fun e => by have := Option.some.inj e; unfold Under at hb; omega)) (fun _ h => h))
          clear HNS
          have HNS := HNS'
          clear HNS'
          have R9' := hide (R9.out.grown hg' (fun e => by have := Option.some.inj e; omega))
          clear R9
          have R9 := R9'
          clear R9'
          have HD' := hide (HD.out.mono (show Kept (Under B) _ _ from fun b hb => hg'.block b (by unfold Under at hb; have := hOld.out.size; omega) (fun e => by have := Option.some.inj e; unfold Under at hb; omega)) (fun _ h => h))
          clear HD
          have HD := HD'
          clear HD'
          have HE' := hide (HE.out.mono (show Kept (Under B) _ _ from fun b hb => hg'.block b (by unfold Under at hb; have := hOld.out.size; omega) (fun e => by have := Option.some.inj e; unfold Under at hb; omega)) (fun _ h => h))
          clear HE
          have HE := HE'
          clear HE'
          clear R8
          have R8 := hide hr'
          clear hg' hs' hr' hOld
          (try simp only [Act.put])
          refine wpPT_alt (by kernel_rfl) (fun K hK => ?_) ?_
          rotate_left
          · exact wpPT_stop
          have hOld := hide hHeld
          clear hHeld
          refine wp_storeC 59 (.tmp 9) (.tmp 20) rfl 13 nod_size g9 0 59 rfl (nodC nod0 (.slice none 0 0) (.slice none 0 0)) (nodC N (.slice A2 n2 c2) (.slice C2 m2 d2)) rfl R9.out rfl (by exact Nat.le_refl _) (nodC_one _ _ _ _ _ _ _) ?_
          intro w' hr' hg' hs'
          rw [splice_all (nodC nod0 (.slice none 0 0) (.slice none 0 0)) (nodC N (.slice A2 n2 c2) (.slice C2 m2 d2)) rfl] at hr'
          refine hK.out _ _ (hOld.out.grown hg' (by have := hOld.out.size; omega) (fun k hk => by have := Option.some.inj hk; omega)) (fun hHeld => ?_)
          clear hK K
          have HNS' := hide (HNS.out.mono (show Kept (Under B) _ _ from fun b hb => hg'.block b (by unfold Under at hb; have := hOld.out.size; omega) (fun e => by have := Option.some.inj e; unfold Under at hb; omega)) (fun _ h => h))
          clear HNS
          have HNS := HNS'
          clear HNS'
          have HD' := hide (HD.out.mono (show Kept (Under B) _ _ from fun b hb => hg'.block b (by unfold Under at hb; have := hOld.out.size; omega) (fun e => by have := Option.some.inj e; unfold Under at hb; omega)) (fun _ h => h))
          clear HD
          have HD := HD'
          clear HD'
          have HE' := hide (HE.out.mono (show Kept (Under B) _ _ from fun b hb => hg'.block b (by unfold Under at hb; have := hOld.out.size; omega) (fun e => by have := Option.some.inj e; unfold Under at hb; omega)) (fun _ h => h))
          clear HE
          have HE := HE'
          clear HE'
          have R8' := hide (R8.out.grown hg' (fun e => by have := Option.some.inj e; omega))
          clear R8
          have R8 := R8'
          clear R8'
          clear R9
          have R9 := hide hr'
          clear hg' hs' hr' hOld
          (try simp only [Act.put])
          refine wpPT_leaf ?_
          have HBX := hide hHeld
          clear hHeld
          go_wp2_with fail
          go_meet
          case rel => exact ⟨g8, g9, A2, n2, c2, C2, m2, d2, rfl, rfl, R8.out, R9.out, f2, HD.out, f4, HE.out, HBX.out, g8l, g9l⟩
        refine wpPT_alt (by kernel_rfl) (fun K hK => ?_) ?_
        · skip
          have hOld := hide hHeld
          clear hHeld
          unfold Oper.wp execOp
          go_simp
          have hal := below_new (below_self z1) (.cells #[.int .i64 0, .int .i64 0, .string ⟨#[]⟩] 70)
          have hb' := hal.mono (B' := W4.heap.size) (by have := hOld.out.size; omega)
          have HFN := hide (show RowL (z1.alloc (.cells #[.int .i64 0, .int .i64 0, .string ⟨#[]⟩] 70)) z1.heap.size 70 [.int .i64 0, .int .i64 0, .string ⟨#[]⟩] from RowL.new z1 70 [.int .i64 0, .int .i64 0, .string ⟨#[]⟩])
          have g8l : W4.heap.size ≤ z1.heap.size := hOld.out.size
          have g9ng8 : g9 < z1.heap.size := R9.out.lt
          refine hK.out _ _ (hOld.out.trans hb') (fun hHeld => ?_)
          clear hK K
          have HNS' := hide (HNS.out.under hal (by have := hOld.out.size; omega))
          clear HNS
          have HNS := HNS'
          clear HNS'
          have R9' := hide (R9.out.on hal)
          clear R9
          have R9 := R9'
          clear R9'
          have R8 := HFN
          clear hal hb' hOld HFN
          generalize z1.alloc (.cells #[.int .i64 0, .int .i64 0, .string ⟨#[]⟩] 70) = z2 at *
          generalize z1.heap.size = g8 at *
          (try simp only [Act.put, List.setIfInBounds_toArray, List.set_cons_zero, List.set_cons_succ])
          refine wpPT_alt (by kernel_rfl) (fun K hK => ?_) ?_
          rotate_left
          · exact wpPT_stop
          have hOld := hide hHeld
          clear hHeld
          go_simp
          go_at_call 43
          refine (First_n HFO.out HNO.out (B := B) _ HNS.out (by have := hOld.out.size; omega) (by omega) hel).mono ?_
          rintro e w' ⟨A2, n2, c2, C2, m2, d2, rfl, f2, f3, f4, f5, hbel⟩
          have hb' := hbel.mono (B' := W4.heap.size) (by have := hOld.out.size; omega)
          have HD := hide f3
          clear f3
          have HE := hide f5
          clear f5
          have HNS' := hide (HNS.out.under hbel (by have := hOld.out.size; omega))
          clear HNS
          have HNS := HNS'
          clear HNS'
          have R9' := hide (R9.out.on hbel)
          clear R9
          have R9 := R9'
          clear R9'
          have R8' := hide (R8.out.on hbel)
          clear R8
          have R8 := R8'
          clear R8'
          clear hbel
          refine hK.out _ _ (hOld.out.trans hb') (fun hHeld => ?_)
          clear hK K
          (try simp only [Act.put, List.setIfInBounds_toArray, List.set_cons_zero, List.set_cons_succ])
          refine wpPT_take (v := ?_) (by kernel_rfl) (fun wS hSw => ?_) ?_
          rotate_left
          · (try dsimp only at hSw); go_simp; (try with_reducible rfl)
          (try simp only [Act.put, List.setIfInBounds_toArray, List.set_cons_zero, List.set_cons_succ])
          refine wpPT_take (v := ?_) (by kernel_rfl) (fun wS hSw => ?_) ?_
          rotate_left
          · (try dsimp only at hSw); go_simp; (try with_reducible rfl)
          (try simp only [Act.put, List.setIfInBounds_toArray, List.set_cons_zero, List.set_cons_succ])
          refine wpPT_take (v := ?_) (by kernel_rfl) (fun wS hSw => ?_) ?_
          rotate_left
          · (try dsimp only at hSw); go_simp; (try with_reducible rfl)
          (try simp only [Act.put, List.setIfInBounds_toArray, List.set_cons_zero, List.set_cons_succ])
          refine wpPT_alt (by kernel_rfl) (fun K hK => ?_) ?_
          rotate_left
          · exact wpPT_stop
          have hOld := hide hHeld
          clear hHeld
          refine wp_storeC 70 (.tmp 8) (.tmp 19) rfl 3 entw_size g8 0 70 rfl [.int .i64 0, .int .i64 0, .string ⟨#[]⟩] (cellsE (entO o)) rfl R8.out rfl (by exact Nat.le_refl _) (cellsE_one _) ?_
          intro w' hr' hg' hs'
          rw [splice_all [.int .i64 0, .int .i64 0, .string ⟨#[]⟩] (cellsE (entO o)) rfl] at hr'
          refine hK.out _ _ (hOld.out.grown hg' (by have := hOld.out.size; omega) (fun k hk => by have := Option.some.inj hk; omega)) (fun hHeld => ?_)
          clear hK K
          have HNS' := hide (HNS.out.mono (show Kept (Under B) _ _ from fun b hb => hg'.block b (by unfold Under at hb; have := hOld.out.size; omega) (fun e => by have := Option.some.inj e; unfold Under at hb; omega)) (fun _ h => h))
          clear HNS
          have HNS := HNS'
          clear HNS'
          have R9' := hide (R9.out.grown hg' (fun e => by have := Option.some.inj e; omega))
          clear R9
          have R9 := R9'
          clear R9'
          have HD' := hide (HD.out.mono (show Kept (Under B) _ _ from fun b hb => hg'.block b (by unfold Under at hb; have := hOld.out.size; omega) (fun e => by have := Option.some.inj e; unfold Under at hb; omega)) (fun _ h => h))
          clear HD
          have HD := HD'
          clear HD'
          have HE' := hide (HE.out.mono (show Kept (Under B) _ _ from fun b hb => hg'.block b (by unfold Under at hb; have := hOld.out.size; omega) (fun e => by have := Option.some.inj e; unfold Under at hb; omega)) (fun _ h => h))
          clear HE
          have HE := HE'
          clear HE'
          clear R8
          have R8 := hide hr'
          clear hg' hs' hr' hOld
          (try simp only [Act.put])
          refine wpPT_alt (by kernel_rfl) (fun K hK => ?_) ?_
          rotate_left
          · exact wpPT_stop
          have hOld := hide hHeld
          clear hHeld
          refine wp_storeC 59 (.tmp 9) (.tmp 20) rfl 13 nod_size g9 0 59 rfl (nodC nod0 (.slice none 0 0) (.slice none 0 0)) (nodC N (.slice A2 n2 c2) (.slice C2 m2 d2)) rfl R9.out rfl (by exact Nat.le_refl _) (nodC_one _ _ _ _ _ _ _) ?_
          intro w' hr' hg' hs'
          rw [splice_all (nodC nod0 (.slice none 0 0) (.slice none 0 0)) (nodC N (.slice A2 n2 c2) (.slice C2 m2 d2)) rfl] at hr'
          refine hK.out _ _ (hOld.out.grown hg' (by have := hOld.out.size; omega) (fun k hk => by have := Option.some.inj hk; omega)) (fun hHeld => ?_)
          clear hK K
          have HNS' := hide (HNS.out.mono (show Kept (Under B) _ _ from fun b hb => hg'.block b (by unfold Under at hb; have := hOld.out.size; omega) (fun e => by have := Option.some.inj e; unfold Under at hb; omega)) (fun _ h => h))
          clear HNS
          have HNS := HNS'
          clear HNS'
          have R8' := hide (R8.out.grown hg' (fun e => by have := Option.some.inj e; omega))
          clear R8
          have R8 := R8'
          clear R8'
          have HD' := hide (HD.out.mono (show Kept (Under B) _ _ from fun b hb => hg'.block b (by unfold Under at hb; have := hOld.out.size; omega) (fun e => by have := Option.some.inj e; unfold Under at hb; omega)) (fun _ h => h))
          clear HD
          have HD := HD'
          clear HD'
          have HE' := hide (HE.out.mono (show Kept (Under B) _ _ from fun b hb => hg'.block b (by unfold Under at hb; have := hOld.out.size; omega) (fun e => by have := Option.some.inj e; unfold Under at hb; omega)) (fun _ h => h))
          clear HE
          have HE := HE'
          clear HE'
          clear R9
          have R9 := hide hr'
          clear hg' hs' hr' hOld
          (try simp only [Act.put])
          refine wpPT_leaf ?_
          have HBX := hide hHeld
          clear hHeld
          go_wp2_with fail
          go_meet
          case rel => exact ⟨g8, g9, A2, n2, c2, C2, m2, d2, rfl, rfl, R8.out, R9.out, f2, HD.out, f4, HE.out, HBX.out, g8l, g9l⟩
        exact wpPT_stop
      exact wpPT_stop
    refine wpPT_alt (by kernel_rfl) (fun K hK => ?_) ?_
    · skip
      have hOld := hide hHeld
      clear hHeld
      unfold Oper.wp execOp
      go_simp
      have hal := below_new (below_self wd) (.cells #[.int .i64 0, .int .i64 0, .string ⟨#[]⟩] 70)
      have hb' := hal.mono (B' := W4.heap.size) (by have := hOld.out.size; omega)
      have HFN := hide (show RowL (wd.alloc (.cells #[.int .i64 0, .int .i64 0, .string ⟨#[]⟩] 70)) wd.heap.size 70 [.int .i64 0, .int .i64 0, .string ⟨#[]⟩] from RowL.new wd 70 [.int .i64 0, .int .i64 0, .string ⟨#[]⟩])
      have g8l : W4.heap.size ≤ wd.heap.size := hOld.out.size
      refine hK.out _ _ (hOld.out.trans hb') (fun hHeld => ?_)
      clear hK K
      have R8 := HFN
      clear hal hb' hOld HFN
      generalize wd.alloc (.cells #[.int .i64 0, .int .i64 0, .string ⟨#[]⟩] 70) = z0 at *
      generalize wd.heap.size = g8 at *
      (try simp only [Act.put, List.setIfInBounds_toArray, List.set_cons_zero, List.set_cons_succ])
      refine wpPT_alt (by kernel_rfl) (fun K hK => ?_) ?_
      · skip
        have hOld := hide hHeld
        clear hHeld
        go_simp
        go_at_call 31
        refine (Beneath_e HLY.out (B := B) _ (HL.out.under hOld.out (by omega)) (by have := hOld.out.size; omega) hm).mono ?_
        rintro e w' ⟨A1, n1, c1, rfl, e2, e3, hbel⟩
        have hb' := hbel.mono (B' := W4.heap.size) (by have := hOld.out.size; omega)
        have HNS := hide e3
        clear e3
        have R8' := hide (R8.out.on hbel)
        clear R8
        have R8 := R8'
        clear R8'
        clear hbel
        refine hK.out _ _ (hOld.out.trans hb') (fun hHeld => ?_)
        clear hK K
        (try simp only [Act.put, List.setIfInBounds_toArray, List.set_cons_zero, List.set_cons_succ])
        refine wpPT_alt (by kernel_rfl) (fun K hK => ?_) ?_
        · skip
          have hOld := hide hHeld
          clear hHeld
          go_simp
          go_at_call 43
          refine (First_n HFO.out HNO.out (B := B) _ HNS.out (by have := hOld.out.size; omega) (by omega) hel).mono ?_
          rintro e w' ⟨A2, n2, c2, C2, m2, d2, rfl, f2, f3, f4, f5, hbel⟩
          have hb' := hbel.mono (B' := W4.heap.size) (by have := hOld.out.size; omega)
          have HD := hide f3
          clear f3
          have HE := hide f5
          clear f5
          have R8' := hide (R8.out.on hbel)
          clear R8
          have R8 := R8'
          clear R8'
          have HNS' := hide (HNS.out.under hbel (by have := hOld.out.size; omega))
          clear HNS
          have HNS := HNS'
          clear HNS'
          clear hbel
          refine hK.out _ _ (hOld.out.trans hb') (fun hHeld => ?_)
          clear hK K
          (try simp only [Act.put, List.setIfInBounds_toArray, List.set_cons_zero, List.set_cons_succ])
          refine wpPT_take (v := ?_) (by kernel_rfl) (fun wS hSw => ?_) ?_
          rotate_left
          · (try dsimp only at hSw); go_simp; (try with_reducible rfl)
          (try simp only [Act.put, List.setIfInBounds_toArray, List.set_cons_zero, List.set_cons_succ])
          refine wpPT_take (v := ?_) (by kernel_rfl) (fun wS hSw => ?_) ?_
          rotate_left
          · (try dsimp only at hSw); go_simp; (try with_reducible rfl)
          (try simp only [Act.put, List.setIfInBounds_toArray, List.set_cons_zero, List.set_cons_succ])
          refine wpPT_take (v := ?_) (by kernel_rfl) (fun wS hSw => ?_) ?_
          rotate_left
          · (try dsimp only at hSw); go_simp; (try with_reducible rfl)
          (try simp only [Act.put, List.setIfInBounds_toArray, List.set_cons_zero, List.set_cons_succ])
          refine wpPT_alt (by kernel_rfl) (fun K hK => ?_) ?_
          rotate_left
          · exact wpPT_stop
          have hOld := hide hHeld
          clear hHeld
          unfold Oper.wp execOp
          go_simp
          have hal := below_new (below_self w') (.cells #[.int .i64 0, .int .i64 0, .int .i64 0, .int .i64 0, .slice none 0 0, .slice none 0 0, .int .i64 0, .int .i64 0, .string ⟨#[]⟩, .int .i64 0, .int .i64 0, .int .i64 0, .int .i64 0] 59)
          have hb' := hal.mono (B' := W4.heap.size) (by have := hOld.out.size; omega)
          have HFN := hide (show RowL (w'.alloc (.cells #[.int .i64 0, .int .i64 0, .int .i64 0, .int .i64 0, .slice none 0 0, .slice none 0 0, .int .i64 0, .int .i64 0, .string ⟨#[]⟩, .int .i64 0, .int .i64 0, .int .i64 0, .int .i64 0] 59)) w'.heap.size 59 (nodC nod0 (.slice none 0 0) (.slice none 0 0)) from RowL.new w' 59 (nodC nod0 (.slice none 0 0) (.slice none 0 0)))
          have g9l : W4.heap.size ≤ w'.heap.size := hOld.out.size
          have g8ng9 : g8 < w'.heap.size := R8.out.lt
          refine hK.out _ _ (hOld.out.trans hb') (fun hHeld => ?_)
          clear hK K
          have R8' := hide (R8.out.on hal)
          clear R8
          have R8 := R8'
          clear R8'
          have HNS' := hide (HNS.out.under hal (by have := hOld.out.size; omega))
          clear HNS
          have HNS := HNS'
          clear HNS'
          have HD' := hide (HD.out.under hal (by have := hOld.out.size; omega))
          clear HD
          have HD := HD'
          clear HD'
          have HE' := hide (HE.out.under hal (by have := hOld.out.size; omega))
          clear HE
          have HE := HE'
          clear HE'
          have R9 := HFN
          clear hal hb' hOld HFN
          generalize w'.alloc (.cells #[.int .i64 0, .int .i64 0, .int .i64 0, .int .i64 0, .slice none 0 0, .slice none 0 0, .int .i64 0, .int .i64 0, .string ⟨#[]⟩, .int .i64 0, .int .i64 0, .int .i64 0, .int .i64 0] 59) = z3 at *
          generalize w'.heap.size = g9 at *
          (try simp only [Act.put, List.setIfInBounds_toArray, List.set_cons_zero, List.set_cons_succ])
          refine wpPT_alt (by kernel_rfl) (fun K hK => ?_) ?_
          rotate_left
          · exact wpPT_stop
          have hOld := hide hHeld
          clear hHeld
          refine wp_storeC 70 (.tmp 8) (.tmp 19) rfl 3 entw_size g8 0 70 rfl [.int .i64 0, .int .i64 0, .string ⟨#[]⟩] (cellsE (entO o)) rfl R8.out rfl (by exact Nat.le_refl _) (cellsE_one _) ?_
          intro w' hr' hg' hs'
          rw [splice_all [.int .i64 0, .int .i64 0, .string ⟨#[]⟩] (cellsE (entO o)) rfl] at hr'
          refine hK.out _ _ (hOld.out.grown hg' (by have := hOld.out.size; omega) (fun k hk => by have := Option.some.inj hk; omega)) (fun hHeld => ?_)
          clear hK K
          have HNS' := hide (HNS.out.mono (show Kept (Under B) _ _ from fun b hb => hg'.block b (by unfold Under at hb; have := hOld.out.size; omega) (fun e => by have := Option.some.inj e; unfold Under at hb; omega)) (fun _ h => h))
          clear HNS
          have HNS := HNS'
          clear HNS'
          have HD' := hide (HD.out.mono (show Kept (Under B) _ _ from fun b hb => hg'.block b (by unfold Under at hb; have := hOld.out.size; omega) (fun e => by have := Option.some.inj e; unfold Under at hb; omega)) (fun _ h => h))
          clear HD
          have HD := HD'
          clear HD'
          have HE' := hide (HE.out.mono (show Kept (Under B) _ _ from fun b hb => hg'.block b (by unfold Under at hb; have := hOld.out.size; omega) (fun e => by have := Option.some.inj e; unfold Under at hb; omega)) (fun _ h => h))
          clear HE
          have HE := HE'
          clear HE'
          have R9' := hide (R9.out.grown hg' (fun e => by have := Option.some.inj e; omega))
          clear R9
          have R9 := R9'
          clear R9'
          clear R8
          have R8 := hide hr'
          clear hg' hs' hr' hOld
          (try simp only [Act.put])
          refine wpPT_alt (by kernel_rfl) (fun K hK => ?_) ?_
          rotate_left
          · exact wpPT_stop
          have hOld := hide hHeld
          clear hHeld
          refine wp_storeC 59 (.tmp 9) (.tmp 20) rfl 13 nod_size g9 0 59 rfl (nodC nod0 (.slice none 0 0) (.slice none 0 0)) (nodC N (.slice A2 n2 c2) (.slice C2 m2 d2)) rfl R9.out rfl (by exact Nat.le_refl _) (nodC_one _ _ _ _ _ _ _) ?_
          intro w' hr' hg' hs'
          rw [splice_all (nodC nod0 (.slice none 0 0) (.slice none 0 0)) (nodC N (.slice A2 n2 c2) (.slice C2 m2 d2)) rfl] at hr'
          refine hK.out _ _ (hOld.out.grown hg' (by have := hOld.out.size; omega) (fun k hk => by have := Option.some.inj hk; omega)) (fun hHeld => ?_)
          clear hK K
          have R8' := hide (R8.out.grown hg' (fun e => by have := Option.some.inj e; omega))
          clear R8
          have R8 := R8'
          clear R8'
          have HNS' := hide (HNS.out.mono (show Kept (Under B) _ _ from fun b hb => hg'.block b (by unfold Under at hb; have := hOld.out.size; omega) (fun e => by have := Option.some.inj e; unfold Under at hb; omega)) (fun _ h => h))
          clear HNS
          have HNS := HNS'
          clear HNS'
          have HD' := hide (HD.out.mono (show Kept (Under B) _ _ from fun b hb => hg'.block b (by unfold Under at hb; have := hOld.out.size; omega) (fun e => by have := Option.some.inj e; unfold Under at hb; omega)) (fun _ h => h))
          clear HD
          have HD := HD'
          clear HD'
          have HE' := hide (HE.out.mono (show Kept (Under B) _ _ from fun b hb => hg'.block b (by unfold Under at hb; have := hOld.out.size; omega) (fun e => by have := Option.some.inj e; unfold Under at hb; omega)) (fun _ h => h))
          clear HE
          have HE := HE'
          clear HE'
          clear R9
          have R9 := hide hr'
          clear hg' hs' hr' hOld
          (try simp only [Act.put])
          refine wpPT_leaf ?_
          have HBX := hide hHeld
          clear hHeld
          go_wp2_with fail
          go_meet
          case rel => exact ⟨g8, g9, A2, n2, c2, C2, m2, d2, rfl, rfl, R8.out, R9.out, f2, HD.out, f4, HE.out, HBX.out, g8l, g9l⟩
        refine wpPT_alt (by kernel_rfl) (fun K hK => ?_) ?_
        · skip
          have hOld := hide hHeld
          clear hHeld
          unfold Oper.wp execOp
          go_simp
          have hal := below_new (below_self w') (.cells #[.int .i64 0, .int .i64 0, .int .i64 0, .int .i64 0, .slice none 0 0, .slice none 0 0, .int .i64 0, .int .i64 0, .string ⟨#[]⟩, .int .i64 0, .int .i64 0, .int .i64 0, .int .i64 0] 59)
          have hb' := hal.mono (B' := W4.heap.size) (by have := hOld.out.size; omega)
          have HFN := hide (show RowL (w'.alloc (.cells #[.int .i64 0, .int .i64 0, .int .i64 0, .int .i64 0, .slice none 0 0, .slice none 0 0, .int .i64 0, .int .i64 0, .string ⟨#[]⟩, .int .i64 0, .int .i64 0, .int .i64 0, .int .i64 0] 59)) w'.heap.size 59 (nodC nod0 (.slice none 0 0) (.slice none 0 0)) from RowL.new w' 59 (nodC nod0 (.slice none 0 0) (.slice none 0 0)))
          have g9l : W4.heap.size ≤ w'.heap.size := hOld.out.size
          have g8ng9 : g8 < w'.heap.size := R8.out.lt
          refine hK.out _ _ (hOld.out.trans hb') (fun hHeld => ?_)
          clear hK K
          have R8' := hide (R8.out.on hal)
          clear R8
          have R8 := R8'
          clear R8'
          have HNS' := hide (HNS.out.under hal (by have := hOld.out.size; omega))
          clear HNS
          have HNS := HNS'
          clear HNS'
          have R9 := HFN
          clear hal hb' hOld HFN
          generalize w'.alloc (.cells #[.int .i64 0, .int .i64 0, .int .i64 0, .int .i64 0, .slice none 0 0, .slice none 0 0, .int .i64 0, .int .i64 0, .string ⟨#[]⟩, .int .i64 0, .int .i64 0, .int .i64 0, .int .i64 0] 59) = z2 at *
          generalize w'.heap.size = g9 at *
          (try simp only [Act.put, List.setIfInBounds_toArray, List.set_cons_zero, List.set_cons_succ])
          refine wpPT_alt (by kernel_rfl) (fun K hK => ?_) ?_
          rotate_left
          · exact wpPT_stop
          have hOld := hide hHeld
          clear hHeld
          go_simp
          go_at_call 43
          refine (First_n HFO.out HNO.out (B := B) _ HNS.out (by have := hOld.out.size; omega) (by omega) hel).mono ?_
          rintro e w' ⟨A2, n2, c2, C2, m2, d2, rfl, f2, f3, f4, f5, hbel⟩
          have hb' := hbel.mono (B' := W4.heap.size) (by have := hOld.out.size; omega)
          have HD := hide f3
          clear f3
          have HE := hide f5
          clear f5
          have R8' := hide (R8.out.on hbel)
          clear R8
          have R8 := R8'
          clear R8'
          have HNS' := hide (HNS.out.under hbel (by have := hOld.out.size; omega))
          clear HNS
          have HNS := HNS'
          clear HNS'
          have R9' := hide (R9.out.on hbel)
          clear R9
          have R9 := R9'
          clear R9'
          clear hbel
          refine hK.out _ _ (hOld.out.trans hb') (fun hHeld => ?_)
          clear hK K
          (try simp only [Act.put, List.setIfInBounds_toArray, List.set_cons_zero, List.set_cons_succ])
          refine wpPT_take (v := ?_) (by kernel_rfl) (fun wS hSw => ?_) ?_
          rotate_left
          · (try dsimp only at hSw); go_simp; (try with_reducible rfl)
          (try simp only [Act.put, List.setIfInBounds_toArray, List.set_cons_zero, List.set_cons_succ])
          refine wpPT_take (v := ?_) (by kernel_rfl) (fun wS hSw => ?_) ?_
          rotate_left
          · (try dsimp only at hSw); go_simp; (try with_reducible rfl)
          (try simp only [Act.put, List.setIfInBounds_toArray, List.set_cons_zero, List.set_cons_succ])
          refine wpPT_take (v := ?_) (by kernel_rfl) (fun wS hSw => ?_) ?_
          rotate_left
          · (try dsimp only at hSw); go_simp; (try with_reducible rfl)
          (try simp only [Act.put, List.setIfInBounds_toArray, List.set_cons_zero, List.set_cons_succ])
          refine wpPT_alt (by kernel_rfl) (fun K hK => ?_) ?_
          rotate_left
          · exact wpPT_stop
          have hOld := hide hHeld
          clear hHeld
          refine wp_storeC 70 (.tmp 8) (.tmp 19) rfl 3 entw_size g8 0 70 rfl [.int .i64 0, .int .i64 0, .string ⟨#[]⟩] (cellsE (entO o)) rfl R8.out rfl (by exact Nat.le_refl _) (cellsE_one _) ?_
          intro w' hr' hg' hs'
          rw [splice_all [.int .i64 0, .int .i64 0, .string ⟨#[]⟩] (cellsE (entO o)) rfl] at hr'
          refine hK.out _ _ (hOld.out.grown hg' (by have := hOld.out.size; omega) (fun k hk => by have := Option.some.inj hk; omega)) (fun hHeld => ?_)
          clear hK K
          have HNS' := hide (HNS.out.mono (show Kept (Under B) _ _ from fun b hb => hg'.block b (by unfold Under at hb; have := hOld.out.size; omega) (fun e => by have := Option.some.inj e; unfold Under at hb; omega)) (fun _ h => h))
          clear HNS
          have HNS := HNS'
          clear HNS'
          have R9' := hide (R9.out.grown hg' (fun e => by have := Option.some.inj e; omega))
          clear R9
          have R9 := R9'
          clear R9'
          have HD' := hide (HD.out.mono (show Kept (Under B) _ _ from fun b hb => hg'.block b (by unfold Under at hb; have := hOld.out.size; omega) (fun e => by have := Option.some.inj e; unfold Under at hb; omega)) (fun _ h => h))
          clear HD
          have HD := HD'
          clear HD'
          have HE' := hide (HE.out.mono (show Kept (Under B) _ _ from fun b hb => hg'.block b (by unfold Under at hb; have := hOld.out.size; omega) (fun e => by have := Option.some.inj e; unfold Under at hb; omega)) (fun _ h => h))
          clear HE
          have HE := HE'
          clear HE'
          clear R8
          have R8 := hide hr'
          clear hg' hs' hr' hOld
          (try simp only [Act.put])
          refine wpPT_alt (by kernel_rfl) (fun K hK => ?_) ?_
          rotate_left
          · exact wpPT_stop
          have hOld := hide hHeld
          clear hHeld
          refine wp_storeC 59 (.tmp 9) (.tmp 20) rfl 13 nod_size g9 0 59 rfl (nodC nod0 (.slice none 0 0) (.slice none 0 0)) (nodC N (.slice A2 n2 c2) (.slice C2 m2 d2)) rfl R9.out rfl (by exact Nat.le_refl _) (nodC_one _ _ _ _ _ _ _) ?_
          intro w' hr' hg' hs'
          rw [splice_all (nodC nod0 (.slice none 0 0) (.slice none 0 0)) (nodC N (.slice A2 n2 c2) (.slice C2 m2 d2)) rfl] at hr'
          refine hK.out _ _ (hOld.out.grown hg' (by have := hOld.out.size; omega) (fun k hk => by have := Option.some.inj hk; omega)) (fun hHeld => ?_)
          clear hK K
          have R8' := hide (R8.out.grown hg' (fun e => by have := Option.some.inj e; omega))
          clear R8
          have R8 := R8'
          clear R8'
          have HNS' := hide (HNS.out.mono (show Kept (Under B) _ _ from fun b hb => hg'.block b (by unfold Under at hb; have := hOld.out.size; omega) (fun e => by have := Option.some.inj e; unfold Under at hb; omega)) (fun _ h => h))
          clear HNS
          have HNS := HNS'
          clear HNS'
          have HD' := hide (HD.out.mono (show Kept (Under B) _ _ from fun b hb => hg'.block b (by unfold Under at hb; have := hOld.out.size; omega) (fun e => by have := Option.some.inj e; unfold Under at hb; omega)) (fun _ h => h))
          clear HD
          have HD := HD'
          clear HD'
          have HE' := hide (HE.out.mono (show Kept (Under B) _ _ from fun b hb => hg'.block b (by unfold Under at hb; have := hOld.out.size; omega) (fun e => by have := Option.some.inj e; unfold Under at hb; omega)) (fun _ h => h))
          clear HE
          have HE := HE'
          clear HE'
          clear R9
          have R9 := hide hr'
          clear hg' hs' hr' hOld
          (try simp only [Act.put])
          refine wpPT_leaf ?_
          have HBX := hide hHeld
          clear hHeld
          go_wp2_with fail
          go_meet
          case rel => exact ⟨g8, g9, A2, n2, c2, C2, m2, d2, rfl, rfl, R8.out, R9.out, f2, HD.out, f4, HE.out, HBX.out, g8l, g9l⟩
        exact wpPT_stop
      refine wpPT_alt (by kernel_rfl) (fun K hK => ?_) ?_
      · skip
        have hOld := hide hHeld
        clear hHeld
        unfold Oper.wp execOp
        go_simp
        have hal := below_new (below_self z0) (.cells #[.int .i64 0, .int .i64 0, .int .i64 0, .int .i64 0, .slice none 0 0, .slice none 0 0, .int .i64 0, .int .i64 0, .string ⟨#[]⟩, .int .i64 0, .int .i64 0, .int .i64 0, .int .i64 0] 59)
        have hb' := hal.mono (B' := W4.heap.size) (by have := hOld.out.size; omega)
        have HFN := hide (show RowL (z0.alloc (.cells #[.int .i64 0, .int .i64 0, .int .i64 0, .int .i64 0, .slice none 0 0, .slice none 0 0, .int .i64 0, .int .i64 0, .string ⟨#[]⟩, .int .i64 0, .int .i64 0, .int .i64 0, .int .i64 0] 59)) z0.heap.size 59 (nodC nod0 (.slice none 0 0) (.slice none 0 0)) from RowL.new z0 59 (nodC nod0 (.slice none 0 0) (.slice none 0 0)))
        have g9l : W4.heap.size ≤ z0.heap.size := hOld.out.size
        have g8ng9 : g8 < z0.heap.size := R8.out.lt
        refine hK.out _ _ (hOld.out.trans hb') (fun hHeld => ?_)
        clear hK K
        have R8' := hide (R8.out.on hal)
        clear R8
        have R8 := R8'
        clear R8'
        have R9 := HFN
        clear hal hb' hOld HFN
        generalize z0.alloc (.cells #[.int .i64 0, .int .i64 0, .int .i64 0, .int .i64 0, .slice none 0 0, .slice none 0 0, .int .i64 0, .int .i64 0, .string ⟨#[]⟩, .int .i64 0, .int .i64 0, .int .i64 0, .int .i64 0] 59) = z1 at *
        generalize z0.heap.size = g9 at *
        (try simp only [Act.put, List.setIfInBounds_toArray, List.set_cons_zero, List.set_cons_succ])
        refine wpPT_alt (by kernel_rfl) (fun K hK => ?_) ?_
        rotate_left
        · exact wpPT_stop
        have hOld := hide hHeld
        clear hHeld
        go_simp
        go_at_call 31
        refine (Beneath_e HLY.out (B := B) _ (HL.out.under hOld.out (by omega)) (by have := hOld.out.size; omega) hm).mono ?_
        rintro e w' ⟨A1, n1, c1, rfl, e2, e3, hbel⟩
        have hb' := hbel.mono (B' := W4.heap.size) (by have := hOld.out.size; omega)
        have HNS := hide e3
        clear e3
        have R8' := hide (R8.out.on hbel)
        clear R8
        have R8 := R8'
        clear R8'
        have R9' := hide (R9.out.on hbel)
        clear R9
        have R9 := R9'
        clear R9'
        clear hbel
        refine hK.out _ _ (hOld.out.trans hb') (fun hHeld => ?_)
        clear hK K
        (try simp only [Act.put, List.setIfInBounds_toArray, List.set_cons_zero, List.set_cons_succ])
        refine wpPT_alt (by kernel_rfl) (fun K hK => ?_) ?_
        rotate_left
        · exact wpPT_stop
        have hOld := hide hHeld
        clear hHeld
        go_simp
        go_at_call 43
        refine (First_n HFO.out HNO.out (B := B) _ HNS.out (by have := hOld.out.size; omega) (by omega) hel).mono ?_
        rintro e w' ⟨A2, n2, c2, C2, m2, d2, rfl, f2, f3, f4, f5, hbel⟩
        have hb' := hbel.mono (B' := W4.heap.size) (by have := hOld.out.size; omega)
        have HD := hide f3
        clear f3
        have HE := hide f5
        clear f5
        have R8' := hide (R8.out.on hbel)
        clear R8
        have R8 := R8'
        clear R8'
        have R9' := hide (R9.out.on hbel)
        clear R9
        have R9 := R9'
        clear R9'
        have HNS' := hide (HNS.out.under hbel (by have := hOld.out.size; omega))
        clear HNS
        have HNS := HNS'
        clear HNS'
        clear hbel
        refine hK.out _ _ (hOld.out.trans hb') (fun hHeld => ?_)
        clear hK K
        (try simp only [Act.put, List.setIfInBounds_toArray, List.set_cons_zero, List.set_cons_succ])
        refine wpPT_take (v := ?_) (by kernel_rfl) (fun wS hSw => ?_) ?_
        rotate_left
        · (try dsimp only at hSw); go_simp; (try with_reducible rfl)
        (try simp only [Act.put, List.setIfInBounds_toArray, List.set_cons_zero, List.set_cons_succ])
        refine wpPT_take (v := ?_) (by kernel_rfl) (fun wS hSw => ?_) ?_
        rotate_left
        · (try dsimp only at hSw); go_simp; (try with_reducible rfl)
        (try simp only [Act.put, List.setIfInBounds_toArray, List.set_cons_zero, List.set_cons_succ])
        refine wpPT_take (v := ?_) (by kernel_rfl) (fun wS hSw => ?_) ?_
        rotate_left
        · (try dsimp only at hSw); go_simp; (try with_reducible rfl)
        (try simp only [Act.put, List.setIfInBounds_toArray, List.set_cons_zero, List.set_cons_succ])
        refine wpPT_alt (by kernel_rfl) (fun K hK => ?_) ?_
        rotate_left
        · exact wpPT_stop
        have hOld := hide hHeld
        clear hHeld
        refine wp_storeC 70 (.tmp 8) (.tmp 19) rfl 3 entw_size g8 0 70 rfl [.int .i64 0, .int .i64 0, .string ⟨#[]⟩] (cellsE (entO o)) rfl R8.out rfl (by exact Nat.le_refl _) (cellsE_one _) ?_
        intro w' hr' hg' hs'
        rw [splice_all [.int .i64 0, .int .i64 0, .string ⟨#[]⟩] (cellsE (entO o)) rfl] at hr'
        refine hK.out _ _ (hOld.out.grown hg' (by have := hOld.out.size; omega) (fun k hk => by have := Option.some.inj hk; omega)) (fun hHeld => ?_)
        clear hK K
        have R9' := hide (R9.out.grown hg' (fun e => by have := Option.some.inj e; omega))
        clear R9
        have R9 := R9'
        clear R9'
        have HNS' := hide (HNS.out.mono (show Kept (Under B) _ _ from fun b hb => hg'.block b (by unfold Under at hb; have := hOld.out.size; omega) (fun e => by have := Option.some.inj e; unfold Under at hb; omega)) (fun _ h => h))
        clear HNS
        have HNS := HNS'
        clear HNS'
        have HD' := hide (HD.out.mono (show Kept (Under B) _ _ from fun b hb => hg'.block b (by unfold Under at hb; have := hOld.out.size; omega) (fun e => by have := Option.some.inj e; unfold Under at hb; omega)) (fun _ h => h))
        clear HD
        have HD := HD'
        clear HD'
        have HE' := hide (HE.out.mono (show Kept (Under B) _ _ from fun b hb => hg'.block b (by unfold Under at hb; have := hOld.out.size; omega) (fun e => by have := Option.some.inj e; unfold Under at hb; omega)) (fun _ h => h))
        clear HE
        have HE := HE'
        clear HE'
        clear R8
        have R8 := hide hr'
        clear hg' hs' hr' hOld
        (try simp only [Act.put])
        refine wpPT_alt (by kernel_rfl) (fun K hK => ?_) ?_
        rotate_left
        · exact wpPT_stop
        have hOld := hide hHeld
        clear hHeld
        refine wp_storeC 59 (.tmp 9) (.tmp 20) rfl 13 nod_size g9 0 59 rfl (nodC nod0 (.slice none 0 0) (.slice none 0 0)) (nodC N (.slice A2 n2 c2) (.slice C2 m2 d2)) rfl R9.out rfl (by exact Nat.le_refl _) (nodC_one _ _ _ _ _ _ _) ?_
        intro w' hr' hg' hs'
        rw [splice_all (nodC nod0 (.slice none 0 0) (.slice none 0 0)) (nodC N (.slice A2 n2 c2) (.slice C2 m2 d2)) rfl] at hr'
        refine hK.out _ _ (hOld.out.grown hg' (by have := hOld.out.size; omega) (fun k hk => by have := Option.some.inj hk; omega)) (fun hHeld => ?_)
        clear hK K
        have R8' := hide (R8.out.grown hg' (fun e => by have := Option.some.inj e; omega))
        clear R8
        have R8 := R8'
        clear R8'
        have HNS' := hide (HNS.out.mono (show Kept (Under B) _ _ from fun b hb => hg'.block b (by unfold Under at hb; have := hOld.out.size; omega) (fun e => by have := Option.some.inj e; unfold Under at hb; omega)) (fun _ h => h))
        clear HNS
        have HNS := HNS'
        clear HNS'
        have HD' := hide (HD.out.mono (show Kept (Under B) _ _ from fun b hb => hg'.block b (by unfold Under at hb; have := hOld.out.size; omega) (fun e => by have := Option.some.inj e; unfold Under at hb; omega)) (fun _ h => h))
        clear HD
        have HD := HD'
        clear HD'
        have HE' := hide (HE.out.mono (show Kept (Under B) _ _ from fun b hb => hg'.block b (by unfold Under at hb; have := hOld.out.size; omega) (fun e => by have := Option.some.inj e; unfold Under at hb; omega)) (fun _ h => h))
        clear HE
        have HE := HE'
        clear HE'
        clear R9
        have R9 := hide hr'
        clear hg' hs' hr' hOld
        (try simp only [Act.put])
        refine wpPT_leaf ?_
        have HBX := hide hHeld
        clear hHeld
        go_wp2_with fail
        go_meet
        case rel => exact ⟨g8, g9, A2, n2, c2, C2, m2, d2, rfl, rfl, R8.out, R9.out, f2, HD.out, f4, HE.out, HBX.out, g8l, g9l⟩
      exact wpPT_stop
    refine wpPT_alt (by kernel_rfl) (fun K hK => ?_) ?_
    · skip
      have hOld := hide hHeld
      clear hHeld
      unfold Oper.wp execOp
      go_simp
      have hal := below_new (below_self wd) (.cells #[.int .i64 0, .int .i64 0, .int .i64 0, .int .i64 0, .slice none 0 0, .slice none 0 0, .int .i64 0, .int .i64 0, .string ⟨#[]⟩, .int .i64 0, .int .i64 0, .int .i64 0, .int .i64 0] 59)
      have hb' := hal.mono (B' := W4.heap.size) (by have := hOld.out.size; omega)
      have HFN := hide (show RowL (wd.alloc (.cells #[.int .i64 0, .int .i64 0, .int .i64 0, .int .i64 0, .slice none 0 0, .slice none 0 0, .int .i64 0, .int .i64 0, .string ⟨#[]⟩, .int .i64 0, .int .i64 0, .int .i64 0, .int .i64 0] 59)) wd.heap.size 59 (nodC nod0 (.slice none 0 0) (.slice none 0 0)) from RowL.new wd 59 (nodC nod0 (.slice none 0 0) (.slice none 0 0)))
      have g9l : W4.heap.size ≤ wd.heap.size := hOld.out.size
      refine hK.out _ _ (hOld.out.trans hb') (fun hHeld => ?_)
      clear hK K
      have R9 := HFN
      clear hal hb' hOld HFN
      generalize wd.alloc (.cells #[.int .i64 0, .int .i64 0, .int .i64 0, .int .i64 0, .slice none 0 0, .slice none 0 0, .int .i64 0, .int .i64 0, .string ⟨#[]⟩, .int .i64 0, .int .i64 0, .int .i64 0, .int .i64 0] 59) = z0 at *
      generalize wd.heap.size = g9 at *
      (try simp only [Act.put, List.setIfInBounds_toArray, List.set_cons_zero, List.set_cons_succ])
      refine wpPT_alt (by kernel_rfl) (fun K hK => ?_) ?_
      · skip
        have hOld := hide hHeld
        clear hHeld
        go_simp
        go_at_call 31
        refine (Beneath_e HLY.out (B := B) _ (HL.out.under hOld.out (by omega)) (by have := hOld.out.size; omega) hm).mono ?_
        rintro e w' ⟨A1, n1, c1, rfl, e2, e3, hbel⟩
        have hb' := hbel.mono (B' := W4.heap.size) (by have := hOld.out.size; omega)
        have HNS := hide e3
        clear e3
        have R9' := hide (R9.out.on hbel)
        clear R9
        have R9 := R9'
        clear R9'
        clear hbel
        refine hK.out _ _ (hOld.out.trans hb') (fun hHeld => ?_)
        clear hK K
        (try simp only [Act.put, List.setIfInBounds_toArray, List.set_cons_zero, List.set_cons_succ])
        refine wpPT_alt (by kernel_rfl) (fun K hK => ?_) ?_
        · skip
          have hOld := hide hHeld
          clear hHeld
          go_simp
          go_at_call 43
          refine (First_n HFO.out HNO.out (B := B) _ HNS.out (by have := hOld.out.size; omega) (by omega) hel).mono ?_
          rintro e w' ⟨A2, n2, c2, C2, m2, d2, rfl, f2, f3, f4, f5, hbel⟩
          have hb' := hbel.mono (B' := W4.heap.size) (by have := hOld.out.size; omega)
          have HD := hide f3
          clear f3
          have HE := hide f5
          clear f5
          have R9' := hide (R9.out.on hbel)
          clear R9
          have R9 := R9'
          clear R9'
          have HNS' := hide (HNS.out.under hbel (by have := hOld.out.size; omega))
          clear HNS
          have HNS := HNS'
          clear HNS'
          clear hbel
          refine hK.out _ _ (hOld.out.trans hb') (fun hHeld => ?_)
          clear hK K
          (try simp only [Act.put, List.setIfInBounds_toArray, List.set_cons_zero, List.set_cons_succ])
          refine wpPT_take (v := ?_) (by kernel_rfl) (fun wS hSw => ?_) ?_
          rotate_left
          · (try dsimp only at hSw); go_simp; (try with_reducible rfl)
          (try simp only [Act.put, List.setIfInBounds_toArray, List.set_cons_zero, List.set_cons_succ])
          refine wpPT_take (v := ?_) (by kernel_rfl) (fun wS hSw => ?_) ?_
          rotate_left
          · (try dsimp only at hSw); go_simp; (try with_reducible rfl)
          (try simp only [Act.put, List.setIfInBounds_toArray, List.set_cons_zero, List.set_cons_succ])
          refine wpPT_take (v := ?_) (by kernel_rfl) (fun wS hSw => ?_) ?_
          rotate_left
          · (try dsimp only at hSw); go_simp; (try with_reducible rfl)
          (try simp only [Act.put, List.setIfInBounds_toArray, List.set_cons_zero, List.set_cons_succ])
          refine wpPT_alt (by kernel_rfl) (fun K hK => ?_) ?_
          rotate_left
          · exact wpPT_stop
          have hOld := hide hHeld
          clear hHeld
          unfold Oper.wp execOp
          go_simp
          have hal := below_new (below_self w') (.cells #[.int .i64 0, .int .i64 0, .string ⟨#[]⟩] 70)
          have hb' := hal.mono (B' := W4.heap.size) (by have := hOld.out.size; omega)
          have HFN := hide (show RowL (w'.alloc (.cells #[.int .i64 0, .int .i64 0, .string ⟨#[]⟩] 70)) w'.heap.size 70 [.int .i64 0, .int .i64 0, .string ⟨#[]⟩] from RowL.new w' 70 [.int .i64 0, .int .i64 0, .string ⟨#[]⟩])
          have g8l : W4.heap.size ≤ w'.heap.size := hOld.out.size
          have g9ng8 : g9 < w'.heap.size := R9.out.lt
          refine hK.out _ _ (hOld.out.trans hb') (fun hHeld => ?_)
          clear hK K
          have R9' := hide (R9.out.on hal)
          clear R9
          have R9 := R9'
          clear R9'
          have HNS' := hide (HNS.out.under hal (by have := hOld.out.size; omega))
          clear HNS
          have HNS := HNS'
          clear HNS'
          have HD' := hide (HD.out.under hal (by have := hOld.out.size; omega))
          clear HD
          have HD := HD'
          clear HD'
          have HE' := hide (HE.out.under hal (by have := hOld.out.size; omega))
          clear HE
          have HE := HE'
          clear HE'
          have R8 := HFN
          clear hal hb' hOld HFN
          generalize w'.alloc (.cells #[.int .i64 0, .int .i64 0, .string ⟨#[]⟩] 70) = z3 at *
          generalize w'.heap.size = g8 at *
          (try simp only [Act.put, List.setIfInBounds_toArray, List.set_cons_zero, List.set_cons_succ])
          refine wpPT_alt (by kernel_rfl) (fun K hK => ?_) ?_
          rotate_left
          · exact wpPT_stop
          have hOld := hide hHeld
          clear hHeld
          refine wp_storeC 70 (.tmp 8) (.tmp 19) rfl 3 entw_size g8 0 70 rfl [.int .i64 0, .int .i64 0, .string ⟨#[]⟩] (cellsE (entO o)) rfl R8.out rfl (by exact Nat.le_refl _) (cellsE_one _) ?_
          intro w' hr' hg' hs'
          rw [splice_all [.int .i64 0, .int .i64 0, .string ⟨#[]⟩] (cellsE (entO o)) rfl] at hr'
          refine hK.out _ _ (hOld.out.grown hg' (by have := hOld.out.size; omega) (fun k hk => by have := Option.some.inj hk; omega)) (fun hHeld => ?_)
          clear hK K
          have R9' := hide (R9.out.grown hg' (fun e => by have := Option.some.inj e; omega))
          clear R9
          have R9 := R9'
          clear R9'
          have HNS' := hide (HNS.out.mono (show Kept (Under B) _ _ from fun b hb => hg'.block b (by unfold Under at hb; have := hOld.out.size; omega) (fun e => by have := Option.some.inj e; unfold Under at hb; omega)) (fun _ h => h))
          clear HNS
          have HNS := HNS'
          clear HNS'
          have HD' := hide (HD.out.mono (show Kept (Under B) _ _ from fun b hb => hg'.block b (by unfold Under at hb; have := hOld.out.size; omega) (fun e => by have := Option.some.inj e; unfold Under at hb; omega)) (fun _ h => h))
          clear HD
          have HD := HD'
          clear HD'
          have HE' := hide (HE.out.mono (show Kept (Under B) _ _ from fun b hb => hg'.block b (by unfold Under at hb; have := hOld.out.size; omega) (fun e => by have := Option.some.inj e; unfold Under at hb; omega)) (fun _ h => h))
          clear HE
          have HE := HE'
          clear HE'
          clear R8
          have R8 := hide hr'
          clear hg' hs' hr' hOld
          (try simp only [Act.put])
          refine wpPT_alt (by kernel_rfl) (fun K hK => ?_) ?_
          rotate_left
          · exact wpPT_stop
          have hOld := hide hHeld
          clear hHeld
          refine wp_storeC 59 (.tmp 9) (.tmp 20) rfl 13 nod_size g9 0 59 rfl (nodC nod0 (.slice none 0 0) (.slice none 0 0)) (nodC N (.slice A2 n2 c2) (.slice C2 m2 d2)) rfl R9.out rfl (by exact Nat.le_refl _) (nodC_one _ _ _ _ _ _ _) ?_
          intro w' hr' hg' hs'
          rw [splice_all (nodC nod0 (.slice none 0 0) (.slice none 0 0)) (nodC N (.slice A2 n2 c2) (.slice C2 m2 d2)) rfl] at hr'
          refine hK.out _ _ (hOld.out.grown hg' (by have := hOld.out.size; omega) (fun k hk => by have := Option.some.inj hk; omega)) (fun hHeld => ?_)
          clear hK K
          have HNS' := hide (HNS.out.mono (show Kept (Under B) _ _ from fun b hb => hg'.block b (by unfold Under at hb; have := hOld.out.size; omega) (fun e => by have := Option.some.inj e; unfold Under at hb; omega)) (fun _ h => h))
          clear HNS
          have HNS := HNS'
          clear HNS'
          have HD' := hide (HD.out.mono (show Kept (Under B) _ _ from fun b hb => hg'.block b (by unfold Under at hb; have := hOld.out.size; omega) (fun e => by have := Option.some.inj e; unfold Under at hb; omega)) (fun _ h => h))
          clear HD
          have HD := HD'
          clear HD'
          have HE' := hide (HE.out.mono (show Kept (Under B) _ _ from fun b hb => hg'.block b (by unfold Under at hb; have := hOld.out.size; omega) (fun e => by have := Option.some.inj e; unfold Under at hb; omega)) (fun _ h => h))
          clear HE
          have HE := HE'
          clear HE'
          have R8' := hide (R8.out.grown hg' (fun e => by have := Option.some.inj e; omega))
          clear R8
          have R8 := R8'
          clear R8'
          clear R9
          have R9 := hide hr'
          clear hg' hs' hr' hOld
          (try simp only [Act.put])
          refine wpPT_leaf ?_
          have HBX := hide hHeld
          clear hHeld
          go_wp2_with fail
          go_meet
          case rel => exact ⟨g8, g9, A2, n2, c2, C2, m2, d2, rfl, rfl, R8.out, R9.out, f2, HD.out, f4, HE.out, HBX.out, g8l, g9l⟩
        refine wpPT_alt (by kernel_rfl) (fun K hK => ?_) ?_
        · skip
          have hOld := hide hHeld
          clear hHeld
          unfold Oper.wp execOp
          go_simp
          have hal := below_new (below_self w') (.cells #[.int .i64 0, .int .i64 0, .string ⟨#[]⟩] 70)
          have hb' := hal.mono (B' := W4.heap.size) (by have := hOld.out.size; omega)
          have HFN := hide (show RowL (w'.alloc (.cells #[.int .i64 0, .int .i64 0, .string ⟨#[]⟩] 70)) w'.heap.size 70 [.int .i64 0, .int .i64 0, .string ⟨#[]⟩] from RowL.new w' 70 [.int .i64 0, .int .i64 0, .string ⟨#[]⟩])
          have g8l : W4.heap.size ≤ w'.heap.size := hOld.out.size
          have g9ng8 : g9 < w'.heap.size := R9.out.lt
          refine hK.out _ _ (hOld.out.trans hb') (fun hHeld => ?_)
          clear hK K
          have R9' := hide (R9.out.on hal)
          clear R9
          have R9 := R9'
          clear R9'
          have HNS' := hide (HNS.out.under hal (by have := hOld.out.size; omega))
          clear HNS
          have HNS := HNS'
          clear HNS'
          have R8 := HFN
          clear hal hb' hOld HFN
          generalize w'.alloc (.cells #[.int .i64 0, .int .i64 0, .string ⟨#[]⟩] 70) = z2 at *
          generalize w'.heap.size = g8 at *
          (try simp only [Act.put, List.setIfInBounds_toArray, List.set_cons_zero, List.set_cons_succ])
          refine wpPT_alt (by kernel_rfl) (fun K hK => ?_) ?_
          rotate_left
          · exact wpPT_stop
          have hOld := hide hHeld
          clear hHeld
          go_simp
          go_at_call 43
          refine (First_n HFO.out HNO.out (B := B) _ HNS.out (by have := hOld.out.size; omega) (by omega) hel).mono ?_
          rintro e w' ⟨A2, n2, c2, C2, m2, d2, rfl, f2, f3, f4, f5, hbel⟩
          have hb' := hbel.mono (B' := W4.heap.size) (by have := hOld.out.size; omega)
          have HD := hide f3
          clear f3
          have HE := hide f5
          clear f5
          have R9' := hide (R9.out.on hbel)
          clear R9
          have R9 := R9'
          clear R9'
          have HNS' := hide (HNS.out.under hbel (by have := hOld.out.size; omega))
          clear HNS
          have HNS := HNS'
          clear HNS'
          have R8' := hide (R8.out.on hbel)
          clear R8
          have R8 := R8'
          clear R8'
          clear hbel
          refine hK.out _ _ (hOld.out.trans hb') (fun hHeld => ?_)
          clear hK K
          (try simp only [Act.put, List.setIfInBounds_toArray, List.set_cons_zero, List.set_cons_succ])
          refine wpPT_take (v := ?_) (by kernel_rfl) (fun wS hSw => ?_) ?_
          rotate_left
          · (try dsimp only at hSw); go_simp; (try with_reducible rfl)
          (try simp only [Act.put, List.setIfInBounds_toArray, List.set_cons_zero, List.set_cons_succ])
          refine wpPT_take (v := ?_) (by kernel_rfl) (fun wS hSw => ?_) ?_
          rotate_left
          · (try dsimp only at hSw); go_simp; (try with_reducible rfl)
          (try simp only [Act.put, List.setIfInBounds_toArray, List.set_cons_zero, List.set_cons_succ])
          refine wpPT_take (v := ?_) (by kernel_rfl) (fun wS hSw => ?_) ?_
          rotate_left
          · (try dsimp only at hSw); go_simp; (try with_reducible rfl)
          (try simp only [Act.put, List.setIfInBounds_toArray, List.set_cons_zero, List.set_cons_succ])
          refine wpPT_alt (by kernel_rfl) (fun K hK => ?_) ?_
          rotate_left
          · exact wpPT_stop
          have hOld := hide hHeld
          clear hHeld
          refine wp_storeC 70 (.tmp 8) (.tmp 19) rfl 3 entw_size g8 0 70 rfl [.int .i64 0, .int .i64 0, .string ⟨#[]⟩] (cellsE (entO o)) rfl R8.out rfl (by exact Nat.le_refl _) (cellsE_one _) ?_
          intro w' hr' hg' hs'
          rw [splice_all [.int .i64 0, .int .i64 0, .string ⟨#[]⟩] (cellsE (entO o)) rfl] at hr'
          refine hK.out _ _ (hOld.out.grown hg' (by have := hOld.out.size; omega) (fun k hk => by have := Option.some.inj hk; omega)) (fun hHeld => ?_)
          clear hK K
          have R9' := hide (R9.out.grown hg' (fun e => by have := Option.some.inj e; omega))
          clear R9
          have R9 := R9'
          clear R9'
          have HNS' := hide (HNS.out.mono (show Kept (Under B) _ _ from fun b hb => hg'.block b (by unfold Under at hb; have := hOld.out.size; omega) (fun e => by have := Option.some.inj e; unfold Under at hb; omega)) (fun _ h => h))
          clear HNS
          have HNS := HNS'
          clear HNS'
          have HD' := hide (HD.out.mono (show Kept (Under B) _ _ from fun b hb => hg'.block b (by unfold Under at hb; have := hOld.out.size; omega) (fun e => by have := Option.some.inj e; unfold Under at hb; omega)) (fun _ h => h))
          clear HD
          have HD := HD'
          clear HD'
          have HE' := hide (HE.out.mono (show Kept (Under B) _ _ from fun b hb => hg'.block b (by unfold Under at hb; have := hOld.out.size; omega) (fun e => by have := Option.some.inj e; unfold Under at hb; omega)) (fun _ h => h))
          clear HE
          have HE := HE'
          clear HE'
          clear R8
          have R8 := hide hr'
          clear hg' hs' hr' hOld
          (try simp only [Act.put])
          refine wpPT_alt (by kernel_rfl) (fun K hK => ?_) ?_
          rotate_left
          · exact wpPT_stop
          have hOld := hide hHeld
          clear hHeld
          refine wp_storeC 59 (.tmp 9) (.tmp 20) rfl 13 nod_size g9 0 59 rfl (nodC nod0 (.slice none 0 0) (.slice none 0 0)) (nodC N (.slice A2 n2 c2) (.slice C2 m2 d2)) rfl R9.out rfl (by exact Nat.le_refl _) (nodC_one _ _ _ _ _ _ _) ?_
          intro w' hr' hg' hs'
          rw [splice_all (nodC nod0 (.slice none 0 0) (.slice none 0 0)) (nodC N (.slice A2 n2 c2) (.slice C2 m2 d2)) rfl] at hr'
          refine hK.out _ _ (hOld.out.grown hg' (by have := hOld.out.size; omega) (fun k hk => by have := Option.some.inj hk; omega)) (fun hHeld => ?_)
          clear hK K
          have HNS' := hide (HNS.out.mono (show Kept (Under B) _ _ from fun b hb => hg'.block b (by unfold Under at hb; have := hOld.out.size; omega) (fun e => by have := Option.some.inj e; unfold Under at hb; omega)) (fun _ h => h))
          clear HNS
          have HNS := HNS'
          clear HNS'
          have R8' := hide (R8.out.grown hg' (fun e => by have := Option.some.inj e; omega))
          clear R8
          have R8 := R8'
          clear R8'
          have HD' := hide (HD.out.mono (show Kept (Under B) _ _ from fun b hb => hg'.block b (by unfold Under at hb; have := hOld.out.size; omega) (fun e => by have := Option.some.inj e; unfold Under at hb; omega)) (fun _ h => h))
          clear HD
          have HD := HD'
          clear HD'
          have HE' := hide (HE.out.mono (show Kept (Under B) _ _ from fun b hb => hg'.block b (by unfold Under at hb; have := hOld.out.size; omega) (fun e => by have := Option.some.inj e; unfold Under at hb; omega)) (fun _ h => h))
          clear HE
          have HE := HE'
          clear HE'
          clear R9
          have R9 := hide hr'
          clear hg' hs' hr' hOld
          (try simp only [Act.put])
          refine wpPT_leaf ?_
          have HBX := hide hHeld
          clear hHeld
          go_wp2_with fail
          go_meet
          case rel => exact ⟨g8, g9, A2, n2, c2, C2, m2, d2, rfl, rfl, R8.out, R9.out, f2, HD.out, f4, HE.out, HBX.out, g8l, g9l⟩
        exact wpPT_stop
      refine wpPT_alt (by kernel_rfl) (fun K hK => ?_) ?_
      · skip
        have hOld := hide hHeld
        clear hHeld
        unfold Oper.wp execOp
        go_simp
        have hal := below_new (below_self z0) (.cells #[.int .i64 0, .int .i64 0, .string ⟨#[]⟩] 70)
        have hb' := hal.mono (B' := W4.heap.size) (by have := hOld.out.size; omega)
        have HFN := hide (show RowL (z0.alloc (.cells #[.int .i64 0, .int .i64 0, .string ⟨#[]⟩] 70)) z0.heap.size 70 [.int .i64 0, .int .i64 0, .string ⟨#[]⟩] from RowL.new z0 70 [.int .i64 0, .int .i64 0, .string ⟨#[]⟩])
        have g8l : W4.heap.size ≤ z0.heap.size := hOld.out.size
        have g9ng8 : g9 < z0.heap.size := R9.out.lt
        refine hK.out _ _ (hOld.out.trans hb') (fun hHeld => ?_)
        clear hK K
        have R9' := hide (R9.out.on hal)
        clear R9
        have R9 := R9'
        clear R9'
        have R8 := HFN
        clear hal hb' hOld HFN
        generalize z0.alloc (.cells #[.int .i64 0, .int .i64 0, .string ⟨#[]⟩] 70) = z1 at *
        generalize z0.heap.size = g8 at *
        (try simp only [Act.put, List.setIfInBounds_toArray, List.set_cons_zero, List.set_cons_succ])
        refine wpPT_alt (by kernel_rfl) (fun K hK => ?_) ?_
        rotate_left
        · exact wpPT_stop
        have hOld := hide hHeld
        clear hHeld
        go_simp
        go_at_call 31
        refine (Beneath_e HLY.out (B := B) _ (HL.out.under hOld.out (by omega)) (by have := hOld.out.size; omega) hm).mono ?_
        rintro e w' ⟨A1, n1, c1, rfl, e2, e3, hbel⟩
        have hb' := hbel.mono (B' := W4.heap.size) (by have := hOld.out.size; omega)
        have HNS := hide e3
        clear e3
        have R9' := hide (R9.out.on hbel)
        clear R9
        have R9 := R9'
        clear R9'
        have R8' := hide (R8.out.on hbel)
        clear R8
        have R8 := R8'
        clear R8'
        clear hbel
        refine hK.out _ _ (hOld.out.trans hb') (fun hHeld => ?_)
        clear hK K
        (try simp only [Act.put, List.setIfInBounds_toArray, List.set_cons_zero, List.set_cons_succ])
        refine wpPT_alt (by kernel_rfl) (fun K hK => ?_) ?_
        rotate_left
        · exact wpPT_stop
        have hOld := hide hHeld
        clear hHeld
        go_simp
        go_at_call 43
        refine (First_n HFO.out HNO.out (B := B) _ HNS.out (by have := hOld.out.size; omega) (by omega) hel).mono ?_
        rintro e w' ⟨A2, n2, c2, C2, m2, d2, rfl, f2, f3, f4, f5, hbel⟩
        have hb' := hbel.mono (B' := W4.heap.size) (by have := hOld.out.size; omega)
        have HD := hide f3
        clear f3
        have HE := hide f5
        clear f5
        have R9' := hide (R9.out.on hbel)
        clear R9
        have R9 := R9'
        clear R9'
        have R8' := hide (R8.out.on hbel)
        clear R8
        have R8 := R8'
        clear R8'
        have HNS' := hide (HNS.out.under hbel (by have := hOld.out.size; omega))
        clear HNS
        have HNS := HNS'
        clear HNS'
        clear hbel
        refine hK.out _ _ (hOld.out.trans hb') (fun hHeld => ?_)
        clear hK K
        (try simp only [Act.put, List.setIfInBounds_toArray, List.set_cons_zero, List.set_cons_succ])
        refine wpPT_take (v := ?_) (by kernel_rfl) (fun wS hSw => ?_) ?_
        rotate_left
        · (try dsimp only at hSw); go_simp; (try with_reducible rfl)
        (try simp only [Act.put, List.setIfInBounds_toArray, List.set_cons_zero, List.set_cons_succ])
        refine wpPT_take (v := ?_) (by kernel_rfl) (fun wS hSw => ?_) ?_
        rotate_left
        · (try dsimp only at hSw); go_simp; (try with_reducible rfl)
        (try simp only [Act.put, List.setIfInBounds_toArray, List.set_cons_zero, List.set_cons_succ])
        refine wpPT_take (v := ?_) (by kernel_rfl) (fun wS hSw => ?_) ?_
        rotate_left
        · (try dsimp only at hSw); go_simp; (try with_reducible rfl)
        (try simp only [Act.put, List.setIfInBounds_toArray, List.set_cons_zero, List.set_cons_succ])
        refine wpPT_alt (by kernel_rfl) (fun K hK => ?_) ?_
        rotate_left
        · exact wpPT_stop
        have hOld := hide hHeld
        clear hHeld
        refine wp_storeC 70 (.tmp 8) (.tmp 19) rfl 3 entw_size g8 0 70 rfl [.int .i64 0, .int .i64 0, .string ⟨#[]⟩] (cellsE (entO o)) rfl R8.out rfl (by exact Nat.le_refl _) (cellsE_one _) ?_
        intro w' hr' hg' hs'
        rw [splice_all [.int .i64 0, .int .i64 0, .string ⟨#[]⟩] (cellsE (entO o)) rfl] at hr'
        refine hK.out _ _ (hOld.out.grown hg' (by have := hOld.out.size; omega) (fun k hk => by have := Option.some.inj hk; omega)) (fun hHeld => ?_)
        clear hK K
        have R9' := hide (R9.out.grown hg' (fun e => by have := Option.some.inj e; omega))
        clear R9
        have R9 := R9'
        clear R9'
        have HNS' := hide (HNS.out.mono (show Kept (Under B) _ _ from fun b hb => hg'.block b (by unfold Under at hb; have := hOld.out.size; omega) (fun e => by have := Option.some.inj e; unfold Under at hb; omega)) (fun _ h => h))
        clear HNS
        have HNS := HNS'
        clear HNS'
        have HD' := hide (HD.out.mono (show Kept (Under B) _ _ from fun b hb => hg'.block b (by unfold Under at hb; have := hOld.out.size; omega) (fun e => by have := Option.some.inj e; unfold Under at hb; omega)) (fun _ h => h))
        clear HD
        have HD := HD'
        clear HD'
        have HE' := hide (HE.out.mono (show Kept (Under B) _ _ from fun b hb => hg'.block b (by unfold Under at hb; have := hOld.out.size; omega) (fun e => by have := Option.some.inj e; unfold Under at hb; omega)) (fun _ h => h))
        clear HE
        have HE := HE'
        clear HE'
        clear R8
        have R8 := hide hr'
        clear hg' hs' hr' hOld
        (try simp only [Act.put])
        refine wpPT_alt (by kernel_rfl) (fun K hK => ?_) ?_
        rotate_left
        · exact wpPT_stop
        have hOld := hide hHeld
        clear hHeld
        refine wp_storeC 59 (.tmp 9) (.tmp 20) rfl 13 nod_size g9 0 59 rfl (nodC nod0 (.slice none 0 0) (.slice none 0 0)) (nodC N (.slice A2 n2 c2) (.slice C2 m2 d2)) rfl R9.out rfl (by exact Nat.le_refl _) (nodC_one _ _ _ _ _ _ _) ?_
        intro w' hr' hg' hs'
        rw [splice_all (nodC nod0 (.slice none 0 0) (.slice none 0 0)) (nodC N (.slice A2 n2 c2) (.slice C2 m2 d2)) rfl] at hr'
        refine hK.out _ _ (hOld.out.grown hg' (by have := hOld.out.size; omega) (fun k hk => by have := Option.some.inj hk; omega)) (fun hHeld => ?_)
        clear hK K
        have R8' := hide (R8.out.grown hg' (fun e => by have := Option.some.inj e; omega))
        clear R8
        have R8 := R8'
        clear R8'
        have HNS' := hide (HNS.out.mono (show Kept (Under B) _ _ from fun b hb => hg'.block b (by unfold Under at hb; have := hOld.out.size; omega) (fun e => by have := Option.some.inj e; unfold Under at hb; omega)) (fun _ h => h))
        clear HNS
        have HNS := HNS'
        clear HNS'
        have HD' := hide (HD.out.mono (show Kept (Under B) _ _ from fun b hb => hg'.block b (by unfold Under at hb; have := hOld.out.size; omega) (fun e => by have := Option.some.inj e; unfold Under at hb; omega)) (fun _ h => h))
        clear HD
        have HD := HD'
        clear HD'
        have HE' := hide (HE.out.mono (show Kept (Under B) _ _ from fun b hb => hg'.block b (by unfold Under at hb; have := hOld.out.size; omega) (fun e => by have := Option.some.inj e; unfold Under at hb; omega)) (fun _ h => h))
        clear HE
        have HE := HE'
        clear HE'
        clear R9
        have R9 := hide hr'
        clear hg' hs' hr' hOld
        (try simp only [Act.put])
        refine wpPT_leaf ?_
        have HBX := hide hHeld
        clear hHeld
        go_wp2_with fail
        go_meet
        case rel => exact ⟨g8, g9, A2, n2, c2, C2, m2, d2, rfl, rfl, R8.out, R9.out, f2, HD.out, f4, HE.out, HBX.out, g8l, g9l⟩
      exact wpPT_stop
    exact wpPT_stop
  case rest =>
    obtain ⟨g8, g9, A2, n2, c2, C2, m2, d2, rfl, rfl, hr8, hr9, hn2, hd, hm2', he, hbx, hg8, hg9⟩ := hcut
    have HFS := hide (show FirstS wc w.heap.size g8 g9 (w.heap.size + 1 + 1) (w.heap.size + 1 + 1 + 1) p (cellsE (entO o)) (nodC N (.slice A2 n2 c2) (.slice C2 m2 d2)) wc from ⟨⟨hr8, R1.out.on hbx⟩, hr9, ⟨_, R2.out.on hbx, rfl⟩, ⟨_, R3.out.on hbx, rfl⟩, Below.refl _ _⟩)
    have HD := hide hd
    have HE := hide he
    have HBC := hide (HB4.out.trans (hbx.mono (by omega)))
    have hsc := hbx.size
    have hl8 := hr8.lt
    have hl9 := hr9.lt
    clear hr8 hr9 hd he hbx
    go_wp2_with fail
    refine wp_region_planN (fun w' => FirstS wc w.heap.size g8 g9 (w.heap.size + 1 + 1) (w.heap.size + 1 + 1 + 1) p (cellsE (entO o)) (nodC N (.slice A2 n2 c2) (.slice C2 m2 d2)) w') [(0, true), (1, true), (2, true), (3, true), (4, true), (5, true), (6, false), (7, false)] (by kernel_rfl) (by kernel_rfl) (by kernel_rfl) (by kernel_rfl) rfl (fun _ _ _ _ _ h => h) (HFS.out.drew) (fun hHeld => ?_)
    simp only [planOps, List.filterMap_cons, List.filterMap_nil, List.getElem?_toArray, List.getElem?_cons_succ, List.getElem?_cons_zero, Option.map_some]
    refine wpPlan_take (v := ?_) (by kernel_rfl) (fun wS hSw => ?_) ?_
    rotate_left
    · (try dsimp only at hSw); go_simp; (try with_reducible rfl)
    (try simp only [Act.put, List.setIfInBounds_toArray, List.set_cons_zero, List.set_cons_succ])
    refine wpPlan_take (v := ?_) (by kernel_rfl) (fun wS hSw => ?_) ?_
    rotate_left
    · have qx := (hSw.1.2.cell 0).trans (show (prC p)[0]? = some (.int .i64 p.1) from rfl); go_simp; (try with_reducible rfl)
    (try simp only [Act.put, List.setIfInBounds_toArray, List.set_cons_zero, List.set_cons_succ])
    refine wpPlan_take (v := ?_) (by kernel_rfl) (fun wS hSw => ?_) ?_
    rotate_left
    · (try dsimp only at hSw); go_simp; (try with_reducible rfl)
    (try simp only [Act.put, List.setIfInBounds_toArray, List.set_cons_zero, List.set_cons_succ])
    refine wpPlan_take (v := ?_) (by kernel_rfl) (fun wS hSw => ?_) ?_
    rotate_left
    · have qx := (hSw.1.1.cell 1).trans (show (cellsE (entO o))[1]? = some (.int .i64 (entO o).ino) from rfl); go_simp; (try with_reducible rfl)
    (try simp only [Act.put, List.setIfInBounds_toArray, List.set_cons_zero, List.set_cons_succ])
    refine wpPlan_take (v := ?_) (by kernel_rfl) (fun wS hSw => ?_) ?_
    rotate_left
    · (try dsimp only at hSw); go_simp; (try with_reducible rfl)
    (try simp only [Act.put, List.setIfInBounds_toArray, List.set_cons_zero, List.set_cons_succ])
    refine wpPlan_take (v := ?_) (by kernel_rfl) (fun wS hSw => ?_) ?_
    rotate_left
    · refine execOp_load (x := .tmp 9) (k := 13) (g := g9) (off := 0) (cs := (nodC N (.slice A2 n2 c2) (.slice C2 m2 d2))) ?_ nod_agg nod_size ?_ (fun j v hv => by rw [Nat.zero_add]; exact (hSw.2.1.cell j).trans hv) rfl <;> rfl
    (try simp only [Act.put, List.setIfInBounds_toArray, List.set_cons_zero, List.set_cons_succ])
    refine wpPlan_call (by kernel_rfl) (fun K hK => ?_)
    have hOld := hide hHeld
    clear hHeld
    obtain ⟨p1, p2, ⟨cu3, p3, l3⟩, ⟨cu4, p4, l4⟩, p5⟩ := hOld.out
    refine wp_storeC 38 (.tmp 6) (.tmp 25) rfl 2 plc_size (w.heap.size + 1 + 1) 0 38 rfl cu3 (prC (p.1, (entO o).ino)) rfl p3 rfl (by omega) (prC_one _) ?_
    intro w' hr' hg' hs'
    rw [splice_all _ _ (by rw [l3]; rfl)] at hr'
    refine hK.out _ _ (⟨⟨p1.1.grown hg' (fun e => by have := Option.some.inj e; omega), p1.2.grown hg' (fun e => by have := Option.some.inj e; omega)⟩, p2.grown hg' (fun e => by have := Option.some.inj e; omega), ⟨_, hr', rfl⟩, ⟨cu4, p4.grown hg' (fun e => by have := Option.some.inj e; omega), l4⟩, p5.grown hg' (by have := p5.size; omega) (fun k hk => by have := Option.some.inj hk; omega)⟩) (fun hHeld => ?_)
    clear hK K
    have HRP := hide hr'
    clear hr' hg' hs' p1 p2 p3 p4 p5
    (try simp only [Act.put])
    refine wpPlan_call (by kernel_rfl) (fun K hK => ?_)
    have hOld := hide hHeld
    clear hHeld
    obtain ⟨p1, p2, ⟨cu3, p3, l3⟩, ⟨cu4, p4, l4⟩, p5⟩ := hOld.out
    refine wp_storeC 59 (.tmp 7) (.tmp 26) rfl 13 nod_size (w.heap.size + 1 + 1 + 1) 0 59 rfl cu4 (nodC N (.slice A2 n2 c2) (.slice C2 m2 d2)) rfl p4 rfl (by omega) (nodC_one _ _ _ _ _ _ _) ?_
    intro w' hr' hg' hs'
    rw [splice_all _ _ (by rw [l4]; rfl)] at hr'
    refine hK.out _ _ (⟨⟨p1.1.grown hg' (fun e => by have := Option.some.inj e; omega), p1.2.grown hg' (fun e => by have := Option.some.inj e; omega)⟩, p2.grown hg' (fun e => by have := Option.some.inj e; omega), ⟨cu3, p3.grown hg' (fun e => by have := Option.some.inj e; omega), l3⟩, ⟨_, hr', rfl⟩, p5.grown hg' (by have := p5.size; omega) (fun k hk => by have := Option.some.inj hk; omega)⟩) (fun hHeld => ?_)
    clear hK K
    have HRP2 := hide (HRP.out.grown hg' (fun e => by have := Option.some.inj e; omega))
    have HRN := hide hr'
    clear hr' hg' hs' p1 p2 p3 p4 p5
    (try simp only [Act.put])
    refine wpPlan_end ?_
    have HSF := hide hHeld
    clear hHeld
    go_wp2_with fail
    obtain ⟨-, -, -, -, hbF⟩ := HSF.out
    have hkU : Kept (Under B) wc w' := fun b hb => hbF.block b (Nat.lt_of_lt_of_le hb hB)
    refine bodyPost_ret (res_cells Try.results23 rfl rfl plc_agg plc_size nod_agg nod_size HRP2.out rfl HRN.out rfl) rfl ⟨A2, n2, c2, C2, m2, d2, by rw [HPL.out, HNL.out], hn2, by rw [HNL.out]; exact HD.out.mono hkU (fun _ h => h), hm2', by rw [HNL.out]; exact HE.out.mono hkU (fun _ h => h), HBC.out.trans hbF⟩
end Go.Proofs.Ytnehkgbdppbhiaa

