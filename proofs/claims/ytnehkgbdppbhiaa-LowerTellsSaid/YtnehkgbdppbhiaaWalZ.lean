/- walk's references: place; empty rows; the fold by steps (layer 13). -/
import Derived.Test.YtnehkgbdppbhiaaWalW
namespace Go.Proofs.Ytnehkgbdppbhiaa
open Go.RowKit Go.Shelf Plain

/-- A literal of no elements. -/
theorem own_lit0 (w : World) (e s : Nat) {B base : Nat} (h : w.heap.size = B) (hb : base ≤ B) : (w.alloc (.cells #[] e)).ownsRow base e s (.slice (some ⟨B, 0, none⟩) 0 0) 0 [] := by
  subst h
  have h : (w.alloc (.cells #[] e)).ownsRow w.heap.size e s (.slice (some ⟨w.heap.size, 0, none⟩) 0 0) 0 [] := World.ownsRow_lit w #[] 0 (Nat.le_refl _) (by simp [maxLen]) (by simp)
  refine ⟨h.1, ?_⟩
  rcases h.2 with h1 | ⟨g, cap, cur, h1, h2, h3⟩
  · exact .inl h1
  · exact .inr ⟨g, cap, cur, h1, Nat.le_trans hb h2, h3⟩
/-- The entries so far, in a directory. -/
def entsW (ns : List NodV) (d : Int) (p : Nat) (s : StW) (l : List EntV) (i : Nat) : StW := ((l.zipIdx.take i).filter (fun x => isDir ns x.1.ino)).foldl (oneW d p) s
theorem entsW_zero (ns : List NodV) (d : Int) (p : Nat) (s : StW) (l : List EntV) : entsW ns d p s l 0 = s := by simp [entsW]
theorem entsW_succ {ns : List NodV} {d : Int} {p : Nat} {s : StW} {l : List EntV} {i : Nat} {x : EntV} (h : l[i]? = some x) : entsW ns d p s l (i + 1) = if isDir ns x.ino = true then oneW d p (entsW ns d p s l i) (x, i) else entsW ns d p s l i := by
  have hz : l.zipIdx[i]? = some (x, i) := by rw [List.getElem?_zipIdx, h]; simp
  unfold entsW
  rw [List.take_add_one, hz, List.filter_append, List.foldl_append]
  cases hd : isDir ns x.ino <;> simp [hd]
theorem entsW_pre {ns : List NodV} {d : Int} {p : Nat} {s : StW} {l : List EntV} {i : Nat} : s.1 <+: (entsW ns d p s l i).1 := by
  unfold entsW
  exact foldl_keep (P := fun t : StW => s.1 <+: t.1) _ _ (List.prefix_refl _) (fun _ _ _ hs => hs.trans one_pre)
theorem entsW_ok {ns : List NodV} {d : Int} {p : Nat} {s : StW} {l : List EntV} {i : Nat} (h : OkW ns s.1) : OkW ns (entsW ns d p s l i).1 := by
  unfold entsW
  exact foldl_keep (P := fun t : StW => OkW ns t.1) _ _ h (fun _ x hx hs => one_ok hs (List.mem_filter.1 hx).2)
theorem entsW_tw {ns : List NodV} {d : Int} {p : Nat} {s : StW} {l : List EntV} {i : Nat} : (entsW ns d p s l i).2.length ≤ s.2.length + l.length := by
  unfold entsW
  have h1 := fold_tw d p ((l.zipIdx.take i).filter (fun x => isDir ns x.1.ino)) s
  have h2 : ((l.zipIdx.take i).filter (fun x => isDir ns x.1.ino)).length ≤ l.length := Nat.le_trans (List.length_filter_le _ _) (by rw [List.length_take, List.length_zipIdx]; omega)
  omega
theorem entsW_all {ns : List NodV} {p : Nat} {s : StW} {y : WayV} (h : s.1[p]? = some y) : entsW ns y.ino p s (nodAt ns y.ino).ents (nodAt ns y.ino).ents.length = visitW ns p s := by
  unfold entsW visitW
  rw [List.take_of_length_le (by simp), h]
  rfl
set_option maxRecDepth 100000 in
set_option maxHeartbeats 1600000 in
theorem At_anyB {A : Option Addr} {B : Nat} {n c : Nat} {ns : List NodV} {i : Int} (w : World) (h : RdE nodEn w (Under B) A n ns) (hB : B ≤ w.heap.size) (hm : ns.length ≤ 100000) : Calls Try.prog 45 #[.agg #[.slice A n c], .int .i64 i] w (NodRet w B (nodAt ns i)) := by
  have hl := h.1
  obtain ⟨rz0, rz, hbz, -⟩ := rows2 w [.slice A n c] (nodC nod0 (.slice none 0 0) (.slice none 0 0)) 26 59
  have HZ := hide rz
  have HB := hide hbz
  have qb : ((w.alloc (.cells [Value.slice A n c].toArray 26)).alloc (.cells (nodC nod0 (.slice none 0 0) (.slice none 0 0)).toArray 59)).cell? ⟨w.heap.size, 0, none⟩ = some (.slice A n c) := rz0.cell 0
  have hN := h
  by_cases h1 : i < 1
  · have e : nodAt ns i = nod0 := nodAt_out (by omega)
    have d1 : decide (i < 1) = true := by simpa using h1
    rw [e]
    clear h hN rz rz0 hbz e
    go_enter Try.func45, Try.ntmps45
    go_wp2_with (refine wpList_storeW rfl 59 (.tmp 4) (.tmp 14) rfl 13 nod_size (w.heap.size + 1) 59 rfl (nodC nod0 (.slice none 0 0) (.slice none 0 0)) (nodC nod0 (.slice none 0 0) (.slice none 0 0)) rfl HZ.out rfl rfl (nodC_one nod0 none none 0 0 0 0) ?_; intro w9 hr9 hg9 hs9; have HR9 := hide hr9; have HB9 := hide (HB.out.grown hg9 HB.out.size (fun k hk => by have := Option.some.inj hk; omega)); clear hr9 hg9 hs9)
    exact bodyPost_ret (res_cell Try.results45 rfl nod_agg nod_size HR9.out rfl) rfl (NodRet.of (Nat.le_refl _) (RdE.none_ _ _ _ _) (Nat.le_refl _) (RdE.none_ _ _ _ _) HB9.out hB)
  · have d1 : decide (i < 1) = false := by simpa using h1
    by_cases h2 : (n : Int) < i
    · have e : nodAt ns i = nod0 := nodAt_out (by omega)
      have d2 : decide ((n : Int) < i) = true := by simpa using h2
      rw [e]
      clear h hN rz rz0 hbz e
      go_enter Try.func45, Try.ntmps45
      go_wp2_with (refine wpList_storeW rfl 59 (.tmp 4) (.tmp 14) rfl 13 nod_size (w.heap.size + 1) 59 rfl (nodC nod0 (.slice none 0 0) (.slice none 0 0)) (nodC nod0 (.slice none 0 0) (.slice none 0 0)) rfl HZ.out rfl rfl (nodC_one nod0 none none 0 0 0 0) ?_; intro w9 hr9 hg9 hs9; have HR9 := hide hr9; have HB9 := hide (HB.out.grown hg9 HB.out.size (fun k hk => by have := Option.some.inj hk; omega)); clear hr9 hg9 hs9)
      exact bodyPost_ret (res_cell Try.results45 rfl nod_agg nod_size HR9.out rfl) rfl (NodRet.of (Nat.le_refl _) (RdE.none_ _ _ _ _) (Nat.le_refl _) (RdE.none_ _ _ _ _) HB9.out hB)
    · have d2 : decide ((n : Int) < i) = false := by simpa using h2
      obtain ⟨j, x, rfl, hx, e⟩ := nodAt_in (ns := ns) (i := i) (by omega)
      rw [e]
      obtain ⟨b, o, cs, rfl, hbB, hNd, hcell⟩ := hN.get_nod hx
      have hjn : j < n := by omega
      have hcell1 := fun j' v (hv : cs[j']? = some v) => (hbz.cell (p := ⟨b, o + j * 13 + j', none⟩) (Nat.lt_of_lt_of_le hbB hB)).trans (hcell j' v hv)
      obtain ⟨A1, n1, c1, C1, m1, d1', rfl, e2, e3, e4, e5⟩ := hNd
      have HC := hide hcell1
      have E3 := hide e3
      have E5 := hide e5
      have hw1 : IntKind.i64.wrap ((j : Int) + 1 - 1) = (j : Int) := by rw [show (j : Int) + 1 - 1 = j from by omega]; exact IntWalk.i64_in _ (by omega)
      have hw2 : IntKind.i64.wrap (j : Int) = (j : Int) := IntWalk.i64_in _ (by omega)
      clear h hN rz rz0 hbz e hcell hcell1 e3 e5 hx h1 h2
      go_enter Try.func45, Try.ntmps45
      go_wp2_with (first | (refine wpList_loadX rfl 59 (.tmp 19) rfl 13 nod_agg nod_size b (o + j * 13) rfl (nodC x (.slice A1 n1 c1) (.slice C1 m1 d1')) HC.out rfl ?_) | (refine wpList_storeW rfl 59 (.tmp 4) (.tmp 20) rfl 13 nod_size (w.heap.size + 1) 59 rfl (nodC nod0 (.slice none 0 0) (.slice none 0 0)) (nodC x (.slice A1 n1 c1) (.slice C1 m1 d1')) rfl HZ.out rfl rfl (nodC_one x A1 C1 n1 c1 m1 d1') ?_; intro w9 hr9 hg9 hs9; have HR9 := hide hr9; have HB9 := hide (HB.out.grown hg9 HB.out.size (fun k hk => by have := Option.some.inj hk; omega)); clear hr9 hg9 hs9))
      exact bodyPost_ret (res_cell Try.results45 rfl nod_agg nod_size HR9.out rfl) rfl (NodRet.of e2 E3.out e4 E5.out HB9.out hB)
theorem two_way {B : Nat} {W0 wr w9 : World} {v6 v7 : Value} {n6 n7 e6 e7 s6 s7 : Nat} {L6 L7 cs : List Value} {t : Nat} (ho6 : wr.ownsRow B e6 s6 v6 n6 L6) (ho7 : wr.ownsRow B e7 s7 v7 n7 L7) (he : e6 ≠ e7) (hb : Below B W0 wr) (hB : B ≤ wr.heap.size) (hg : (wr.alloc (.cells cs.toArray t)).grownBy w9 v6.ownBlock) : w9.ownsRow B e7 s7 v7 n7 L7 ∧ Below B W0 w9 := by
  have ha := below_new (below_self wr) (.cells cs.toArray t)
  have h6 := ownsRow_below ho6 ha
  have h7 := ownsRow_below ho7 ha
  exact ⟨h7.kept hg (owns_apart h6 h7 he), (hb.trans (ha.mono hB)).grown hg (by have := ha.size; omega) (fun q hq => (own_block h6 q hq).1)⟩
end Go.Proofs.Ytnehkgbdppbhiaa
