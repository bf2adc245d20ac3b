/- The reference's Get (layer 8). -/
import Derived.Test.YthjjjeolpdekoaaEntD
import Derived.Test.YthjjjeolpdekoaaSumE
namespace Go.Proofs.Ythjjjeolpdekoaa
open Go.RowKit Plain

theorem make16 : ∃ Z : Array Value, (∀ w : World, (Instr.makeSlice 24 (.int .i64 16) (.int .i64 16)).run Try.prog w = .ok (.slice (some ⟨w.heap.size, 0, none⟩) 16 16) (w.alloc (.cells Z 5))) ∧ Z.toList = bvs (zeros 16) := by
  obtain ⟨i, hi, hz, hsz, hby⟩ := info_parts info_u8
  refine ⟨madeCells (Value.int .u8 0).cells ((16 : Int).toNat * i.size), fun w => run_make w _ _ i _ Try.underlying24 hi hz .i64 .i64 16 16 (by omega) (by omega) (by rw [hby]; omega) (by omega), ?_⟩
  rw [hsz, show (Value.int .u8 0).cells = #[Value.int .u8 0] from rfl, toList_madeCells_one]
  simp [bvs, zeros, bv]
theorem isPack_unpack {b : List UInt8} (h : isPackB b = false) : unpackS b = [] := by unfold unpackS; rw [h]; rfl
set_option maxRecDepth 100000 in
set_option maxHeartbeats 1600000 in
theorem REGet_any {A : Option Addr} {m c : Nat} {l : List UInt8} {slot : Int} (w : World) (ha : Bs w w.heap.size A m l) (hmc : m ≤ c) (hm : m ≤ 140737488355000) : Calls Try.prog 13 #[.slice A m c, .int .i64 slot] w (ERet w (entE l slot) (gotE l slot) (readE l slot)) := by
  obtain ⟨hr1, hb, hsz⟩ := rows1 w [.int .i64 0, .int .i64 0, .string ⟨#[]⟩] 23
  obtain ⟨Z, hZ, hzl⟩ := make16
  have HZL := hide hzl
  have hal := below_new (below_self (w.alloc (.cells [.int .i64 0, .int .i64 0, .string ⟨#[]⟩].toArray 23))) (.cells Z 5)
  have HB := hide (below_step hb hal)
  have HR1 := hide (hr1.on hal)
  have HA := hide ((ha.below (below_step hb hal)).more (below_step hb hal).size)
  have HZ : Hid (Bs ((w.alloc (.cells [.int .i64 0, .int .i64 0, .string ⟨#[]⟩].toArray 23)).alloc (.cells Z 5)) ((w.alloc (.cells [.int .i64 0, .int .i64 0, .string ⟨#[]⟩].toArray 23)).alloc (.cells Z 5)).heap.size (some ⟨w.heap.size + 1, 0, none⟩) 16 (zeros 16)) := hide (by
    have := (Bs.lit (w.alloc (.cells [.int .i64 0, .int .i64 0, .string ⟨#[]⟩].toArray 23)) 5 (cs := Z.toList) HZL.out (zeros_length 16)).more (B' := ((w.alloc (.cells [.int .i64 0, .int .i64 0, .string ⟨#[]⟩].toArray 23)).alloc (.cells Z 5)).heap.size) (by simp)
    rw [show (w.alloc (.cells [.int .i64 0, .int .i64 0, .string ⟨#[]⟩].toArray 23)).heap.size = w.heap.size + 1 from by simp] at this
    exact this)
  have hlen := ha.len
  by_cases hm16 : m = 16
  rotate_left
  · have e1 : gotE l slot = false := by unfold gotE; rw [show (l.length == 16) = false from by simp; omega]; rfl
    have e3 : readE l slot = false := by
      unfold readE; rw [e1, Bool.false_or, beq_eq_false_iff_ne]; intro e; rw [e] at hlen; rw [zeros_length] at hlen; omega
    have e2 : entE l slot = ent0 := by unfold entE; rw [e1]; rfl
    rw [e1, e2, e3]
    have hd : ((m : Int) != 16) = true := by simp; omega
    clear e1 e2 e3 hr1 hb hsz ha hal hzl
    go_enter Try.func13, Try.ntmps13
    go_wp2_with fail
    refine (Same_len _ hm16).mono ?_
    rintro e w3 ⟨rfl, hbel⟩
    have HB3 := hide (below_step HB.out hbel)
    have HR3 := hide (HR1.out.on hbel)
    have hg3 : w.heap.size < w3.heap.size := HR3.out.lt
    clear hbel
    go_wp2_with (first
      | ((with_reducible refine wpList_storeW rfl 23 (.tmp 4) (.tmp 19) rfl 3 ent_size w.heap.size 23 rfl [.int .i64 0, .int .i64 0, .string ⟨#[]⟩] [.int .i64 0, .int .i64 0, .string ⟨#[]⟩] rfl HR3.out len3 len3 ents3 ?_); intro w9 hr9 hg9 hs9; have HR9 := hide hr9; have HB9 := hide (HB3.out.grown hg9 HB3.out.size (fun g hg => by have := Option.some.inj hg; omega)); clear hr9 hg9 hs9))
    exact bodyPost_ret (res_cell3 Try.results13 rfl rfl rfl ent_agg ent_size HR9.out len3) rfl ⟨rfl, HB9.out⟩
  subst hm16
  obtain ⟨b, o, rfl, hbl, hcell⟩ := ha.2 (by omega)
  have hc2 : ¬ c = 2 := by omega
  have HLEN := hide hlen
  obtain ⟨bz, hbz⟩ : ∃ bz, (l == zeros 16) = bz := ⟨_, rfl⟩
  have HBZ := hide hbz
  obtain ⟨x, hx⟩ : ∃ x, toldE l slot = x := ⟨_, rfl⟩
  have HX := hide hx
  obtain ⟨y, hy⟩ : ∃ y, entE l slot = y := ⟨_, rfl⟩
  obtain ⟨ok, hok⟩ : ∃ ok, gotE l slot = ok := ⟨_, rfl⟩
  obtain ⟨rd, hrd⟩ : ∃ rd, readE l slot = rd := ⟨_, rfl⟩
  rw [hy, hok, hrd]
  have HY := hide hy
  have HOK := hide hok
  have HRD := hide hrd
  have e1 : slot = x.slot := by rw [← hx]; rfl
  have E2 : Hid (((getR l 0 2 : Nat) : Int) = x.ino) := hide (by rw [← hx]; rfl)
  have E3 : Hid (unpackS (l.drop 2) = x.name) := hide (by rw [← hx]; rfl)
  clear hr1 hb hsz ha hal hzl hcell hlen hbz hx hy hok hrd
  subst e1
  go_enter Try.func13, Try.ntmps13
  go_wp2_with fail
  refine (Same_any _ HA.out HZ.out (by omega)).mono ?_
  rintro e w3 ⟨rfl, hbel⟩
  rw [HBZ.out]
  have HB3 := hide (below_step HB.out hbel)
  have HR3 := hide (HR1.out.on hbel)
  have HA3 := hide ((HA.out.below hbel).more hbel.size)
  have hg3 : w.heap.size < w3.heap.size := HR3.out.lt
  have HS3 : Hid (Bs w3 w3.heap.size (some ⟨b, o + 2, none⟩) 14 (l.drop 2)) := hide (by
    have := HA3.out.suf (i := 2) (c := c) (o' := o + 2) (by omega) (by omega) rfl
    rwa [if_neg hc2] at this)
  clear hbel HB HR1 HA HZ hZ
  cases bz with
  | true =>
    obtain rfl : ok = false := by rw [← HOK.out]; unfold gotE; rw [HBZ.out]; simp
    obtain rfl : y = ent0 := by rw [← HY.out]; unfold entE; rw [HOK.out]; rfl
    obtain rfl : rd = true := by rw [← HRD.out]; unfold readE; rw [HOK.out, HBZ.out]; rfl
    go_wp2_with (first
      | ((with_reducible refine wpList_storeW rfl 23 (.tmp 4) (.tmp 15) rfl 3 ent_size w.heap.size 23 rfl [.int .i64 0, .int .i64 0, .string ⟨#[]⟩] [.int .i64 0, .int .i64 0, .string ⟨#[]⟩] rfl HR3.out len3 len3 ents3 ?_); intro w9 hr9 hg9 hs9; have HR9 := hide hr9; have HB9 := hide (HB3.out.grown hg9 HB3.out.size (fun g hg => by have := Option.some.inj hg; omega)); clear hr9 hg9 hs9))
    exact bodyPost_ret (res_cell3 Try.results13 rfl rfl rfl ent_agg ent_size HR9.out len3) rfl ⟨rfl, HB9.out⟩
  | false =>
    go_wp2_with fail
    refine (RGet_any (p := 0) (s := 2) _ HA3.out (by omega)).mono ?_
    rintro e w' ⟨rfl, rfl⟩
    rw [E2.out]
    go_wp2_with fail
    refine (RUnpack_any _ HS3.out (by omega)).mono ?_
    rintro e w4 ⟨rfl, hbel⟩
    rw [E3.out, show st x.name = .string ⟨x.name.toArray⟩ from rfl]
    obtain ⟨hr5, hb5, hs5⟩ := rows1 w4 [.int .i64 x.slot, .int .i64 x.ino, .string ⟨x.name.toArray⟩] 23
    have hbb := hbel.trans (hb5.mono hbel.size)
    have HB5 := hide (below_step HB3.out hbb)
    have HR5 := hide (HR3.out.on hbb)
    have HE5 := hide hr5
    have hg5 : w.heap.size < (w4.alloc (.cells [.int .i64 x.slot, .int .i64 x.ino, .string ⟨x.name.toArray⟩].toArray 23)).heap.size := HR5.out.lt
    obtain ⟨pk, hpk⟩ : ∃ pk, isPackB (l.drop 2) = pk := ⟨_, rfl⟩
    have HPK := hide hpk
    rw [hpk]
    clear hbel hr5 hb5 hs5 hbb HB3 HR3 HA3 HS3 hg3 hpk
    cases pk with
    | false =>
      obtain rfl : ok = false := by rw [← HOK.out]; unfold gotE; rw [told_same HLEN.out, HPK.out]; simp
      obtain rfl : y = ent0 := by rw [← HY.out]; unfold entE; rw [HOK.out]; rfl
      obtain rfl : rd = false := by rw [← HRD.out]; unfold readE; rw [HOK.out, HBZ.out]; rfl
      go_wp2_with (first
        | ((with_reducible refine wpList_storeW rfl 23 (.tmp 4) (.tmp 42) rfl 3 ent_size w.heap.size 23 rfl [.int .i64 0, .int .i64 0, .string ⟨#[]⟩] [.int .i64 0, .int .i64 0, .string ⟨#[]⟩] rfl HR5.out len3 len3 ents3 ?_); intro w9 hr9 hg9 hs9; have HR9 := hide hr9; have HB9 := hide (HB5.out.grown hg9 HB5.out.size (fun g hg => by have := Option.some.inj hg; omega)); clear hr9 hg9 hs9))
      exact bodyPost_ret (res_cell3 Try.results13 rfl rfl rfl ent_agg ent_size HR9.out len3) rfl ⟨rfl, HB9.out⟩
    | true =>
      go_wp2_with fail
      refine (RERight_any x _ (by rw [← E3.out]; exact Nat.le_trans (unpackS_le _) (by omega))).mono ?_
      rintro e w6 ⟨rfl, hbel⟩
      have HB6 := hide (below_step HB5.out hbel)
      have HR6 := hide (HR5.out.on hbel)
      have HE6 := hide (HE5.out.on hbel)
      have hg6 : w.heap.size < w6.heap.size := HR6.out.lt
      clear hbel HB5 HR5 HE5 hg5
      obtain ⟨q, hq⟩ : ∃ q, rightE x = q := ⟨_, rfl⟩
      rw [hq]
      obtain rfl : ok = q := by rw [← HOK.out]; unfold gotE; rw [told_same HLEN.out, HPK.out, HX.out, HBZ.out, hq, HLEN.out]; simp
      obtain rfl : rd = ok := by rw [← HRD.out]; unfold readE; rw [HOK.out, HBZ.out, Bool.or_false]
      clear hq
      cases rd with
      | false =>
        obtain rfl : y = ent0 := by rw [← HY.out]; unfold entE; rw [HOK.out]; rfl
        go_wp2_with (first
          | ((with_reducible refine wpList_storeW rfl 23 (.tmp 4) (.tmp 42) rfl 3 ent_size w.heap.size 23 rfl [.int .i64 0, .int .i64 0, .string ⟨#[]⟩] [.int .i64 0, .int .i64 0, .string ⟨#[]⟩] rfl HR6.out len3 len3 ents3 ?_); intro w9 hr9 hg9 hs9; have HR9 := hide hr9; have HB9 := hide (HB6.out.grown hg9 HB6.out.size (fun g hg => by have := Option.some.inj hg; omega)); clear hr9 hg9 hs9))
        exact bodyPost_ret (res_cell3 Try.results13 rfl rfl rfl ent_agg ent_size HR9.out len3) rfl ⟨rfl, HB9.out⟩
      | true =>
        obtain rfl : y = x := by rw [← HY.out]; unfold entE; rw [HOK.out, HX.out]; rfl
        go_wp2_with (first
          | (with_reducible refine wpList_loadW rfl 23 (.tmp 11) rfl 3 ent_agg ent_size w4.heap.size 23 rfl [.int .i64 y.slot, .int .i64 y.ino, .string ⟨y.name.toArray⟩] HE6.out len3 ?_)
          | ((with_reducible refine wpList_storeW rfl 23 (.tmp 4) (.tmp 43) rfl 3 ent_size w.heap.size 23 rfl [.int .i64 0, .int .i64 0, .string ⟨#[]⟩] [.int .i64 y.slot, .int .i64 y.ino, .string ⟨y.name.toArray⟩] rfl HR6.out len3 len3 ents3 ?_); intro w9 hr9 hg9 hs9; have HR9 := hide hr9; have HB9 := hide (HB6.out.grown hg9 HB6.out.size (fun g hg => by have := Option.some.inj hg; omega)); clear hr9 hg9 hs9))
        exact bodyPost_ret (res_cell3 Try.results13 rfl rfl rfl ent_agg ent_size HR9.out len3) rfl ⟨rfl, HB9.out⟩
end Go.Proofs.Ythjjjeolpdekoaa
