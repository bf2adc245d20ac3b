import Derived.Test.YthjjjeolpdekoaaEntA
import Derived.WalkKit
import Derived.Lib.SmallJoins
import Derived.OpenShut
import Derived.ProofKit
import Derived.ChangeArms
import Derived.SizedLaws
import Derived.Test.YthjjjeolpdekoaaEntG
import Derived.Test.YthjjjeolpdekoaaMemP

/- An entry that came in, opened (layer 8); how long its name may be. -/
namespace Go.Proofs.Ythjjjeolpdekoaa
open Go.RowKit Go.WideShapes Go.ChangeShapes Plain

section
variable {H : Type} {enc : TypeId × Value → H} {w : World} {base : Nat} {spare : Nat → Bool} {held : Bool}
/-- An entry as a datum. -/
def datE (x : EntV) : DataW H := .agg [.lit (.int .i64 x.slot), .lit (.int .i64 x.ino), .lit (.string x.name)]
theorem ent_i64 {n : Nat} {c : Value} {y : DataW H × List MemPlace} (h : DataW.trod enc Try.prog w base spare held n 3 [c] = some y) : ∃ a : Int, c = .int .i64 a ∧ y.1 = .lit (.int .i64 a) := by
  obtain ⟨a, e, hy, -⟩ := DataW.trod_int Try.underlying3 h
  exact ⟨a, by simpa using e, by rw [hy]⟩
theorem ent_str {n : Nat} {c : Value} {y : DataW H × List MemPlace} (h : DataW.trod enc Try.prog w base spare held n 9 [c] = some y) : ∃ l : List UInt8, c = .string ⟨l.toArray⟩ ∧ y.1 = .lit (.string l) := by
  obtain ⟨s, e, hy, -⟩ := DataW.trod_string Try.underlying9 h
  exact ⟨s.data.toList, by simpa using e, by rw [hy]⟩
theorem three {l : List Value} (h : l.length = 3) : ∃ a b c, l = [a, b, c] := by
  match l, h with
  | [a, b, c], _ => exact ⟨a, b, c, rfl⟩
set_option maxRecDepth 100000 in
theorem trod_ent {fuel : Nat} {cs : List Value} {y : DataW H × List MemPlace} (hl : cs.length = 3) (h : DataW.trod enc Try.prog w base spare held fuel 23 cs = some y) :
    ∃ x : EntV, cs = [.int .i64 x.slot, .int .i64 x.ino, .string ⟨x.name.toArray⟩] ∧ y.1 = datE x := by
  obtain ⟨c0, c1, c2, rfl⟩ := three hl
  obtain ⟨xs, n, -, rfl, -, hlen, hp⟩ := DataW.trod_struct Try.underlying23 h
  match xs, hlen, hp with
  | [x0, x1, x2], _, hp =>
    have p0 := hp 0 _ rfl
    have p1 := hp 1 _ rfl
    have p2 := hp 2 _ rfl
    obtain ⟨a0, rfl, e0⟩ := ent_i64 (c := c0) p0
    obtain ⟨a1, rfl, e1⟩ := ent_i64 (c := c1) p1
    obtain ⟨a2, rfl, e2⟩ := ent_str (c := c2) p2
    exact ⟨⟨a0, a1, a2⟩, rfl, by simp [datE, e0, e1, e2]⟩
set_option maxRecDepth 100000 in
theorem open_ent {r : Reach} {b0 : Nat} {v : Value} {d : DataW H} {p : List MemPlace} (hv : Value.okWide Try.prog w r b0 23 v) (h : DataW.Trod enc Try.prog w base spare held 23 v d p) :
    ∃ x : EntV, v = .agg #[.int .i64 x.slot, .int .i64 x.ino, .string ⟨x.name.toArray⟩] ∧ d = datE x := by
  obtain ⟨cs, rfl, hsz⟩ := okWide_struct Try.underlying23 hv
  have hC : Try.prog.cellsOf 23 = 3 := by kernel_rfl
  obtain ⟨l⟩ := cs
  obtain ⟨fuel, hf⟩ := h
  obtain ⟨x, hx, hd⟩ := trod_ent (hsz.trans hC) hf
  simp only at hx
  exact ⟨x, by rw [show l = _ from hx], hd⟩
set_option maxRecDepth 100000 in
theorem ent_weight (x : EntV) : x.name.length ∈ (datE (H := H) x).weights Try.prog 23 := by
  simp [datE, DataW.weights, DataW.weightsEach, Try.underlying23]
set_option maxRecDepth 100000 in
theorem ent_reach {ts : List TypeId} {ds : List (DataW H)} (h : (DataW.weightsEach Try.prog ts ds).all (· ≤ reachBytes) = true) {j : Nat} {x : EntV} (ht : ts[j]? = some 23) (hd : ds[j]? = some (datE x)) : x.name.length ≤ 140737488355328 := by
  have := List.all_eq_true.1 h _ (DataW.weights_mem_each ht hd x.name.length (ent_weight x))
  simp only [decide_eq_true_eq] at this
  exact Nat.le_trans this (by decide)
end
end Go.Proofs.Ythjjjeolpdekoaa

/- Entries that came in, opened: a slice of them, each name's length by the form's reach (layer 8). -/
namespace Go.Proofs.Ythjjjeolpdekoaa
open Go.RowKit Go.WideShapes Go.ChangeShapes Plain

section
variable {α H : Type} {enc : TypeId × Value → H} {P : Program} {w : World} {spare : Nat → Bool} {held : Bool}
/-- As open_rde, with a fact of each element. -/
theorem open_rdeQ {t e : TypeId} {fuel : Nat} {cs : List Value} {x : DataW H × List MemPlace} (E : Enc α) (Good : DataW H → Prop) (Fine : α → Prop) (ht : P.underlying t = some (.slice e)) (hc : P.cellsOf e = E.k) (hk : 0 < E.k)
    (hel : ∀ n cs y, cs.length = E.k → DataW.trod enc P w 0 spare held n e cs = some y → Good y.1 → ∃ x, E.R w (Under w.heap.size) cs x ∧ Fine x)
    (hg : ∀ es rs, x.1 = .slice es rs → ∀ y ∈ es, Good y)
    (h : DataW.trod enc P w 0 spare held fuel t cs = some x) : ∃ A n c l, cs = [.slice A n c] ∧ n ≤ c ∧ RdE E w (Under w.heap.size) A n l ∧ ∀ x ∈ l, Fine x := by
  rcases DataW.trod_slice ht h with ⟨rfl, -⟩ | ⟨a, len, cap, elems, rest, n, -, rfl, hx, -, hl, -, hlen, hcel, -, -⟩
  · exact ⟨_, _, _, [], rfl, Nat.le_refl _, RdE.none_ _ _ _ _, fun x hx => by cases hx⟩
  · have each : ∀ i, i < len → ∃ y, ∃ cs, w.cells? 0 (a.add (i * E.k)) E.k = some cs ∧ E.R w (Under w.heap.size) cs y ∧ Fine y := by
      intro i hi
      have h1 := hcel i hi
      rw [hc, List.getElem?_eq_getElem (by omega), Option.bind_eq_some_iff] at h1
      obtain ⟨cs', hcs, hy⟩ := h1
      obtain ⟨x, hx, hf⟩ := hel _ _ _ (World.cells?_some hcs).2.1 hy (hg _ _ (by rw [hx]) _ (List.mem_map.2 ⟨_, List.getElem_mem _, rfl⟩))
      exact ⟨x, cs', hcs, hx, hf⟩
    refine ⟨_, _, _, List.ofFn (fun i : Fin len => Classical.choose (each i.1 i.2)), rfl, hl, ⟨by simp, fun hn => ?_⟩, fun y hy => ?_⟩
    · obtain ⟨y, cs0, hcs0, -⟩ := each 0 hn
      obtain ⟨-, hl0, h0⟩ := World.cells?_some hcs0
      have hcell0 := h0 0 hk
      rw [List.getElem?_eq_getElem (by omega)] at hcell0
      obtain ⟨b, off, spot⟩ := a
      have hspot : spot = none := by simpa [Addr.add] using World.cell?_spot hcell0
      subst hspot
      have hadd : ∀ o i, (⟨b, o, none⟩ : Addr).add i = ⟨b, o + i, none⟩ := by
        intro o i
        unfold Addr.add
        split
        · rename_i h0; subst h0; rfl
        · rfl
      refine ⟨b, off, rfl, ?_, fun i y hy => ?_⟩
      · have := block_lt_of_cell hcell0
        rw [hadd, hadd] at this
        exact this
      · rw [List.getElem?_ofFn] at hy
        split at hy
        · next hi =>
          obtain rfl := Option.some.inj hy
          obtain ⟨cs, hcs, hr, -⟩ := Classical.choose_spec (each i hi)
          obtain ⟨-, hl1, h1⟩ := World.cells?_some hcs
          refine ⟨cs, hr, fun j v hj => ?_⟩
          have hjl := (List.getElem?_eq_some_iff.1 hj).1
          have := h1 j (by omega)
          rw [hadd, hadd, hj] at this
          rw [← this, Nat.add_assoc]
        · cases hy
    · rw [List.mem_ofFn] at hy
      obtain ⟨i, rfl⟩ := hy
      obtain ⟨cs, -, -, hf⟩ := Classical.choose_spec (each i.1 i.2)
      exact hf
theorem weights_all {e : TypeId} {y : DataW H} {m : Nat} : ∀ {es : List (DataW H)}, y ∈ es → m ∈ y.weights P e → m ∈ DataW.weightsAll P e es
  | [], h, _ => by cases h
  | d :: r, h, hm => by
    simp only [DataW.weightsAll, List.mem_append]
    rcases List.mem_cons.1 h with rfl | h
    · exact Or.inl hm
    · exact Or.inr (weights_all h hm)
end
section
variable {H : Type} {enc : TypeId × Value → H} {w : World} {spare : Nat → Bool} {held : Bool}
set_option maxRecDepth 100000 in
theorem open_ents {fuel : Nat} {cs : List Value} {x : DataW H × List MemPlace} (hw : ∀ m ∈ x.1.weights Try.prog 34, m ≤ reachBytes) (h : DataW.trod enc Try.prog w 0 spare held fuel 34 cs = some x) :
    ∃ A n c l, cs = [.slice A n c] ∧ n ≤ c ∧ RdE entEn w (Under w.heap.size) A n l ∧ Short l := by
  refine open_rdeQ (e := 23) entEn (fun y => ∀ m ∈ y.weights Try.prog 23, m ≤ reachBytes) (fun x => x.name.length ≤ 140737488355328) Try.underlying34 (by kernel_rfl) (by decide) (fun n cs y hl hy hg => ?_) (fun es rs hx y hy m hm => ?_) h
  · obtain ⟨x, rfl, hd⟩ := trod_ent hl hy
    refine ⟨x, ⟨[_], [_, _], rfl, rfl, [_], [_], rfl, rfl, rfl⟩, ?_⟩
    rw [hd] at hg
    exact Nat.le_trans (hg _ (ent_weight x)) (by decide)
  · refine hw m ?_
    rw [hx]
    simp only [DataW.weights, Try.underlying34, List.mem_cons, List.mem_append]
    first | exact Or.inr (weights_all hy hm) | exact Or.inr (Or.inl (weights_all hy hm)) | exact Or.inl (weights_all hy hm)
theorem came_ents {a : Option Addr} {len cap : Nat} {d : DataW H} {p : List MemPlace} (hw : ∀ m ∈ d.weights Try.prog 34, m ≤ reachBytes) (h : ∃ fuel, DataW.trod enc Try.prog w 0 spare held fuel 34 (Value.slice a len cap).cells.toList = some (d, p)) : ∃ l, len ≤ cap ∧ RdE entEn w (Under w.heap.size) a len l ∧ Short l := by
  obtain ⟨fuel, hf⟩ := h
  obtain ⟨A, n, c, l, hcs, hnc, hr⟩ := open_ents hw hf
  simp [Value.cells] at hcs
  obtain ⟨rfl, rfl, rfl⟩ := hcs
  exact ⟨l, hnc, hr⟩
/-- What one datum weighs. -/
theorem one_reach {ts : List TypeId} {ds : List (DataW H)} {P : Program} (h : (DataW.weightsEach P ts ds).all (· ≤ reachBytes) = true) {j : Nat} {t : TypeId} {d : DataW H} (ht : ts[j]? = some t) (hd : ds[j]? = some d) : ∀ m ∈ d.weights P t, m ≤ reachBytes := fun m hm => by
  have := List.all_eq_true.1 h _ (DataW.weights_mem_each ht hd m hm)
  simpa only [decide_eq_true_eq] using this
end
end Go.Proofs.Ythjjjeolpdekoaa

