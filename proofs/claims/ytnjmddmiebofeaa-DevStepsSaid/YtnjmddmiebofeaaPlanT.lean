/- A region that draws its order, walked in orders that the text names, where two operations may come up. Nothing here speaks of a program. -/
import Derived.Test.YtnjmddmiebofeaaPlanL
namespace Go.Proofs.Ytnjmddmiebofeaa
open Go

/-- Orders: an operation (taken, or the only one that may), or two that may, each with what follows it. -/
inductive Tree (α : Type) where
  | leaf : Tree α
  | one : α → Bool → Tree α → Tree α
  | two : α → Tree α → α → Tree α → Tree α
def Tree.map {α β : Type} (f : α → β) : Tree α → Tree β
  | .leaf => .leaf
  | .one x p t => .one (f x) p (t.map f)
  | .two x t y u => .two (f x) (t.map f) (f y) (u.map f)
def Tree.depth {α : Type} : Tree α → Nat
  | .leaf => 0
  | .one _ _ t => t.depth + 1
  | .two _ t _ u => max t.depth u.depth + 1
def treeOk (md : Region.Mode) (ops : Array Oper) : Array Bool → Tree Nat → Bool
  | listed, .leaf => (Region.ready md ops listed).isEmpty
  | listed, .one i p t => (if p then Region.free md ops listed i && (Region.ready md ops listed).contains i else Region.ready md ops listed == [i]) && treeOk md ops (listed.setIfInBounds i true) t
  | listed, .two i t j u => Region.ready md ops listed == [i, j] && (treeOk md ops (listed.setIfInBounds i true) t && treeOk md ops (listed.setIfInBounds j true) u)
section
variable {P : Program} {ops : Array Oper} {Q : Exit → Act → World → Prop} {S : World → Prop}
def wpTree (P : Program) (ops : Array Oper) (Q : Exit → Act → World → Prop) (S : World → Prop) : Tree (Option Oper) → Act → World → Prop
  | .leaf, a, w => Q .normal a w
  | .one (some o) true t, a, w => ∃ v, YieldsIf P ops S o v a ∧ wpTree P ops Q S t (a.put o.dst v) w
  | .one (some o) false t, a, w => if Region.wanted o (yielded ops a.tmps) = true then Oper.wp P o a w (fun a' w' => S w' ∧ wpTree P ops Q S t a' w') Q else wpTree P ops Q S t (a.put o.dst undef) w
  | .two (some o) t (some o') u, a, w => (if Region.wanted o (yielded ops a.tmps) = true then Oper.wp P o a w (fun a' w' => S w' ∧ wpTree P ops Q S t a' w') Q else wpTree P ops Q S t (a.put o.dst undef) w) ∧
      (if Region.wanted o' (yielded ops a.tmps) = true then Oper.wp P o' a w (fun a' w' => S w' ∧ wpTree P ops Q S u a' w') Q else wpTree P ops Q S u (a.put o'.dst undef) w)
  | _, _, _ => False
theorem wpAnyH_tree {md : Region.Mode} (hs : Region.noSelect ops = true) (hQ : ∀ c a d v w, Q (.panic c) (Act.put a d v) w → Q (.panic c) a w) :
    ∀ (t : Tree Nat) (fuel : Nat) (listed : Array Bool) (a : Act) (w : World), treeOk md ops listed t = true → t.depth ≤ fuel → S w → wpTree P ops Q S (t.map fun i => ops[i]?) a w → wpAnyH P md ops Q S fuel listed a w := by
  intro t
  induction t with
  | leaf =>
    intro fuel listed a w hok _ _ h
    exact wpAnyH_done (List.isEmpty_iff.1 hok) h fuel
  | one i p t ih =>
    intro fuel listed a w hok hl hS h
    obtain ⟨fuel, rfl⟩ : ∃ k, fuel = k + 1 := ⟨fuel - 1, by simp [Tree.depth] at hl; omega⟩
    have hl' : t.depth ≤ fuel := by simpa [Tree.depth] using hl
    unfold treeOk at hok
    rw [Bool.and_eq_true] at hok
    obtain ⟨h1, h2⟩ := hok
    cases p with
    | true =>
      simp only [if_true, Bool.and_eq_true] at h1
      obtain ⟨o, ho⟩ := ready_some (md := md) (listed := listed) (by simpa using h1.2)
      simp only [Tree.map, ho] at h
      obtain ⟨v, hy, hr⟩ := h
      exact wpAnyH_take ho hs h1.1 h1.2 (fun c a w => hQ c a _ _ w) hy hS (ih fuel _ _ w h2 hl' hS hr)
    | false =>
      simp only [Bool.false_eq_true, if_false, beq_iff_eq] at h1
      obtain ⟨o, ho⟩ := ready_some (md := md) (listed := listed) (i := i) (by rw [h1]; simp)
      simp only [Tree.map, ho] at h
      refine wpAnyH_all h1 (by simp) (fun j hj => ?_)
      obtain rfl : j = i := by simpa using hj
      unfold wpOp
      simp only [ho]
      unfold wpTree at h
      split
      · rename_i hw
        rw [if_pos hw] at h
        exact .inl (Oper.wp_mono (fun a' w' hk => ⟨hk.1, ih fuel _ _ _ h2 hl' hk.1 hk.2⟩) h)
      · rename_i hw
        rw [if_neg hw] at h
        exact ⟨hS, ih fuel _ _ w h2 hl' hS h⟩
  | two i t j u iht ihu =>
    intro fuel listed a w hok hl hS h
    obtain ⟨fuel, rfl⟩ : ∃ k, fuel = k + 1 := ⟨fuel - 1, by simp [Tree.depth] at hl; omega⟩
    have hl1 : t.depth ≤ fuel := by simp [Tree.depth] at hl; omega
    have hl2 : u.depth ≤ fuel := by simp [Tree.depth] at hl; omega
    unfold treeOk at hok
    rw [Bool.and_eq_true, Bool.and_eq_true, beq_iff_eq] at hok
    obtain ⟨h1, h2, h3⟩ := hok
    obtain ⟨o, ho⟩ := ready_some (md := md) (listed := listed) (i := i) (by rw [h1]; simp)
    obtain ⟨o', ho'⟩ := ready_some (md := md) (listed := listed) (i := j) (by rw [h1]; simp)
    simp only [Tree.map, ho, ho'] at h
    unfold wpTree at h
    refine wpAnyH_all h1 (by simp) (fun x hx => ?_)
    have hx' : x = i ∨ x = j := by simpa using hx
    rcases hx' with rfl | rfl
    · unfold wpOp
      simp only [ho]
      have h := h.1
      split
      · rename_i hw
        rw [if_pos hw] at h
        exact .inl (Oper.wp_mono (fun a' w' hk => ⟨hk.1, iht fuel _ _ _ h2 hl1 hk.1 hk.2⟩) h)
      · rename_i hw
        rw [if_neg hw] at h
        exact ⟨hS, iht fuel _ _ w h2 hl1 hS h⟩
    · unfold wpOp
      simp only [ho']
      have h := h.2
      split
      · rename_i hw
        rw [if_pos hw] at h
        exact .inl (Oper.wp_mono (fun a' w' hk => ⟨hk.1, ihu fuel _ _ _ h3 hl2 hk.1 hk.2⟩) h)
      · rename_i hw
        rw [if_neg hw] at h
        exact ⟨hS, ihu fuel _ _ w h3 hl2 hS h⟩

theorem wpTree_leaf {a : Act} {w : World} (h : Q .normal a w) : wpTree P ops Q S .leaf a w := h
theorem wpTree_take {o : Oper} {t : Tree (Option Oper)} {a : Act} {w : World} {v : Value} (hw : Region.wanted o (yielded ops a.tmps) = true) (hv : ∀ w, S w → (execOp a.eval o).run P w = .ok (.value v) w)
    (h : wpTree P ops Q S t (a.put o.dst v) w) : wpTree P ops Q S (.one (some o) true t) a w := ⟨v, .inl ⟨hw, hv⟩, h⟩
theorem wpTree_call {o : Oper} {t : Tree (Option Oper)} {a : Act} {w : World} (hw : Region.wanted o (yielded ops a.tmps) = true)
    (h : ∀ K' : Act → World → Prop, Shut (∀ a' w', S w' → (S w' → wpTree P ops Q S t a' w') → K' a' w') → Oper.wp P o a w K' Q) : wpTree P ops Q S (.one (some o) false t) a w := by
  unfold wpTree
  rw [if_pos hw]
  exact h _ (fun a' w' hS hr => ⟨hS, hr hS⟩)
theorem wpTree_two {o o' : Oper} {t u : Tree (Option Oper)} {a : Act} {w : World} (hw : Region.wanted o (yielded ops a.tmps) = true) (hw' : Region.wanted o' (yielded ops a.tmps) = true)
    (h : ∀ K' : Act → World → Prop, Shut (∀ a' w', S w' → (S w' → wpTree P ops Q S t a' w') → K' a' w') → Oper.wp P o a w K' Q)
    (h' : ∀ K' : Act → World → Prop, Shut (∀ a' w', S w' → (S w' → wpTree P ops Q S u a' w') → K' a' w') → Oper.wp P o' a w K' Q) : wpTree P ops Q S (.two (some o) t (some o') u) a w := by
  unfold wpTree
  rw [if_pos hw, if_pos hw']
  exact ⟨h _ (fun a' w' hS hr => ⟨hS, hr hS⟩), h' _ (fun a' w' hS hr => ⟨hS, hr hS⟩)⟩
/-- A drawn region in the orders of a tree, S kept up to its last operation. -/
theorem wp_region_treeL {id : Nat} {a : Act} {w : World} (S : World → Prop) (t : Tree Nat) (L : Nat) {l : Tree (Option Oper)} (hm : P.follows .mixedOrders = true) (hlast : lastOk .any ops L = true) (hok : treeOk .any ops ((Array.replicate ops.size false).setIfInBounds L true) t = true) (hn : Region.noSelect ops = true) (hlen : decide (t.depth + 1 ≤ ops.size) = true)
    (hl : t.map (fun i => ops[i]?) = l) (hQ : ∀ c a k v w, Q (.panic c) (Act.put a (some k) v) w → Q (.panic c) a w) (hS : S w.drew) (h : S w.drew → wpTree P ops (postL P ops Q L) S l a w.drew) : (Code.region id ops true).wp P Q a w := by
  subst hl
  have hlen' := of_decide_eq_true hlen
  refine wp_region_any hm ?_
  obtain ⟨k, hk⟩ : ∃ k, ops.size = k + 1 := ⟨ops.size - 1, by omega⟩
  have hLs := (lastOk_parts hlast).1
  have H : wpAny P .any ops Q (k + 1) (Array.replicate ops.size false) a w.drew := wpAny_last (S := S) hlast k _ a w.drew (by simp) (by rw [Array.getD_eq_getD_getElem?, Array.getElem?_replicate, if_pos hLs]; rfl) (wpAnyH_tree (S := S) (Q := postL P ops Q L) hn (panic_put (Q := postL P ops Q L) fun c a k v w h => hQ c a k v w h) t k _ a w.drew hok (by omega) hS (h hS))
  rw [← hk] at H
  exact H
end
end Go.Proofs.Ytnjmddmiebofeaa
