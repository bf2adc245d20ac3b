/- Arrays of bytes by value: loaded, stored, compared; what bytes say of an entry (layer 8). -/
import Derived.Test.YthjjjeolpdekoaaEntB
import Derived.Test.YthjjjeolpdekoaaMemQ
import Derived.Test.YthjjjeolpdekoaaNumL
import Derived.ChangeKeysEq
namespace Go.Proofs.Ythjjjeolpdekoaa
open Go.RowKit Plain

theorem nb_val : ∀ l : List UInt8, nb l.length (val l) = l
  | [] => rfl
  | b :: r => by
    have h := b.toNat_lt
    have e1 : (b.toNat + 256 * val r) % 256 = b.toNat := by omega
    have e2 : (b.toNat + 256 * val r) / 256 = val r := by omega
    show UInt8.ofNat ((b.toNat + 256 * val r) % 256) :: nb r.length ((b.toNat + 256 * val r) / 256) = _
    rw [e1, e2, nb_val r]
    simp
/-- What bytes say of an entry. -/
def toldE (l : List UInt8) (slot : Int) : EntV := ⟨slot, getR l 0 2, unpackS (l.drop 2)⟩
def gotE (l : List UInt8) (slot : Int) : Bool := l.length == 16 && (!(l == zeros 16) && (rightE (toldE l slot) && (putE (toldE l slot) == l)))
def entE (l : List UInt8) (slot : Int) : EntV := if gotE l slot = true then toldE l slot else ent0
/-- Could it be read? -/
def readE (l : List UInt8) (slot : Int) : Bool := gotE l slot || l == zeros 16
theorem told_same {l : List UInt8} {slot : Int} (h : l.length = 16) : (rightE (toldE l slot) && (putE (toldE l slot) == l)) = (isPackB (l.drop 2) && rightE (toldE l slot)) := by
  cases hr : rightE (toldE l slot) with
  | false => rw [Bool.false_and, Bool.and_false]
  | true =>
    rw [Bool.true_and, Bool.and_true]
    have hp : putE (toldE l slot) = nb 2 (toldE l slot).ino.toNat ++ packS (toldE l slot).name := by unfold putE; rw [if_pos hr]
    have hh : hold l.length 0 2 = true := by rw [h]; rfl
    have hi : (toldE l slot).ino.toNat = val (l.take 2) := by
      show ((getR l 0 2 : Nat) : Int).toNat = _
      unfold getR
      rw [if_pos hh]
      unfold getS
      simp
    have hn : nb 2 (toldE l slot).ino.toNat = l.take 2 := by
      have := nb_val (l.take 2)
      rw [List.length_take, Nat.min_eq_left (by omega)] at this
      rw [hi, this]
    rw [hp, hn]
    cases hk : isPackB (l.drop 2) with
    | true =>
      have hu : (toldE l slot).name = innerS (l.drop 2) := by show unpackS (l.drop 2) = _; unfold unpackS; rw [if_pos hk]
      have hq : packS (innerS (l.drop 2)) = l.drop 2 := by
        unfold isPackB at hk
        rw [Bool.and_eq_true, beq_iff_eq] at hk
        exact hk.2
      rw [hu, hq, List.take_append_drop, beq_self_eq_true]
    | false =>
      rw [beq_eq_false_iff_ne]
      intro e
      have hd : packS (toldE l slot).name = l.drop 2 := by
        have := congrArg (List.drop 2) e
        rw [List.drop_left' (by rw [List.length_take]; omega)] at this
        exact this
      have := (isPackB_packS (rightE_parts hr).2.2).1
      rw [hd, hk] at this
      cases this

section
variable {P : Program} {T e : TypeId} {n : Nat}
/-- Bytes by value, compared. -/
theorem run_eqItems_bytes (d : Nat) (w : World) (he : P.underlying e = some (.int .u8)) (h1 : P.cellsOf e = 1) (hg : ∀ w, (isAgg e).run P w = .ok false w) (l k : List UInt8) : ∀ is : List Nat, (∀ i ∈ is, i < l.length ∧ i < k.length) →
    (Op.eqItems (d + 1) e (P.cellsOf e) (bvs l).toArray (bvs k).toArray is).run P w = .ok (decide (∀ i ∈ is, l[i]? = k[i]?)) w
  | [], _ => by simp [Op.eqItems]
  | i :: is, h => by
    obtain ⟨hl, hk⟩ := h i (by simp)
    have ih := run_eqItems_bytes d w he h1 hg l k is (fun j hj => h j (by simp [hj]))
    have ga : (bvs l).toArray[i * P.cellsOf e]? = some (bv l[i]) := by rw [h1, Nat.mul_one]; simp [bvs, hl]
    have gb : (bvs k).toArray[i * P.cellsOf e]? = some (bv k[i]) := by rw [h1, Nat.mul_one]; simp [bvs, hk]
    have pa : (part e (bvs l).toArray (i * P.cellsOf e)).run P w = .ok (bv l[i]) w := by simp [part, hg, ga]
    have pb : (part e (bvs k).toArray (i * P.cellsOf e)).run P w = .ok (bv k[i]) w := by simp [part, hg, gb]
    have hq : (Op.equalIn (d + 1) e (bv l[i]) (bv k[i])).run P w = .ok (l[i] == k[i]) w := by
      have := run_equalIn_int w d e .u8 .u8 (l[i].toNat : Int) (k[i].toNat : Int) he
      unfold bv
      rw [this]
      congr 1
      rw [Bool.eq_iff_iff]
      simp [← UInt8.toNat_inj]
      omega
    simp only [Op.eqItems, Sem.run_bind, pa, pb, hq, Result.andThen_ok]
    have gl : l[i]? = some l[i] := List.getElem?_eq_getElem hl
    have gk : k[i]? = some k[i] := List.getElem?_eq_getElem hk
    by_cases hh : l[i] = k[i]
    · have : (!(l[i] == k[i])) = false := by simp [hh]
      rw [if_neg (by rw [this]; simp), ih]
      congr 1
      rw [Bool.eq_iff_iff]
      simp [gl, gk, hh]
    · have : (!(l[i] == k[i])) = true := by simp [hh]
      rw [if_pos this]
      simp [gl, gk, hh]
theorem run_equal_bytes (w : World) (hu : P.underlying T = some (.array n e)) (he : P.underlying e = some (.int .u8)) (h1 : P.cellsOf e = 1) (hg : ∀ w, (isAgg e).run P w = .ok false w) {i : TypeInfo} (hi : P.info? e = some i) {l k : List UInt8} (hl : l.length = n) (hk : k.length = n) :
    (Op.equalIn 10000 T (.agg (bvs l).toArray) (.agg (bvs k).toArray)).run P w = .ok (l == k) w := by
  rw [run_equalIn_array w 9999 _ _ hu hi, run_eqItems_bytes 9998 w he h1 hg l k _ (fun j hj => by have := List.mem_range.1 hj; omega)]
  congr 1
  rw [Bool.eq_iff_iff, decide_eq_true_eq, beq_iff_eq]
  constructor
  · intro h
    apply List.ext_getElem?
    intro j
    rcases Nat.lt_or_ge j n with hj | hj
    · exact h j (List.mem_range.2 hj)
    · rw [List.getElem?_eq_none (by omega), List.getElem?_eq_none (by omega)]
  · intro h j _
    rw [h]
end
theorem pk_agg : ∀ w, (isAgg 68).run Try.prog w = .ok true w := fun w => by simp [go_sem]
theorem pk_size : ∀ w, (Go.sizeOf 68).run Try.prog w = .ok 16 w := fun w => by simp [go_sem]
theorem ent_agg : ∀ w, (isAgg 23).run Try.prog w = .ok true w := fun w => by simp [go_sem]
theorem ent_size : ∀ w, (Go.sizeOf 23).run Try.prog w = .ok 3 w := fun w => by simp [go_sem]
theorem eq_packed {l k : List UInt8} {b : Bool} (hl : l.length = 16) (hk : k.length = 16) (h : (l == k) = b) (w : World) : (binOp .eql 68 (.agg (bvs l).toArray) (.agg (bvs k).toArray)).run Try.prog w = .ok (.bool b) w := by
  obtain ⟨i, hi⟩ := Option.isSome_iff_exists.1 (show (Try.prog.info? 5).isSome = true by kernel_rfl)
  have := run_equal_bytes (P := Try.prog) (T := 68) (e := 5) (n := 16) w Try.underlying68 Try.underlying5 (by kernel_rfl) (fun w => by simp [go_sem]) hi hl hk
  rw [run_eql_struct, this, h]
  rfl
theorem neq_packed {l k : List UInt8} {b : Bool} (hl : l.length = 16) (hk : k.length = 16) (h : (l != k) = b) (w : World) : (binOp .neq 68 (.agg (bvs l).toArray) (.agg (bvs k).toArray)).run Try.prog w = .ok (.bool b) w := by
  obtain ⟨i, hi⟩ := Option.isSome_iff_exists.1 (show (Try.prog.info? 5).isSome = true by kernel_rfl)
  have := run_equal_bytes (P := Try.prog) (T := 68) (e := 5) (n := 16) w Try.underlying68 Try.underlying5 (by kernel_rfl) (fun w => by simp [go_sem]) hi hl hk
  rw [run_neq_struct, this, ← h]
  rfl
theorem zeros16_cells : (#[.int .u8 0, .int .u8 0, .int .u8 0, .int .u8 0, .int .u8 0, .int .u8 0, .int .u8 0, .int .u8 0, .int .u8 0, .int .u8 0, .int .u8 0, .int .u8 0, .int .u8 0, .int .u8 0, .int .u8 0, .int .u8 0] : Array Value) = (bvs (zeros 16)).toArray := by simp [bvs, bv, zeros, List.replicate]
end Go.Proofs.Ythjjjeolpdekoaa
