import Derived.Test.YtnhegahpfacdgaaDoorHn24
import Derived.Test.YtnhegahpfacdgaaDoorHn21
import Derived.Test.YtnhegahpfacdgaaDoorHn18
import Derived.Deep.Cut
import Derived.Deep.CutRange

namespace Go.Proofs.YtnhegahpfacdgaaDoor
open Go.RowKit Plain

def oriC (o:OriV):List Value:=[.int .i64 o.1,.int .i64 o.2.1,.int .i64 o.2.2]
theorem ori_agg:∀w,(isAgg 23).run Tryd.prog w=.ok true w:=fun w=>by kernel_rfl
theorem ori_size:∀w,(Go.sizeOf 23).run Tryd.prog w=.ok 3 w:=fun w=>by kernel_rfl
theorem oriC_one (o:OriV):∀v∈oriC o,v.oneCell'=true:=by simp [oriC,Value.oneCell']
set_option maxRecDepth 100000 in
set_option maxHeartbeats 3200000 in
theorem RName_any (o:OriV) (w:World):Calls Tryd.prog 7 #[.agg (oriC o).toArray] w (fun e w'=>e=.returned (.tuple #[.string ⟨(nameH o).toArray⟩,.bool (mayH o)])∧Below w.heap.size w w'):=by
 obtain ⟨a,b,c⟩:=o
 obtain ⟨W1,hW1⟩:∃W1,w.alloc (.cells (oriC (a,b,c)).toArray 23)=W1:=⟨_,rfl⟩
 obtain ⟨r0,hb1,hs1⟩:=rowA1 w _ _ hW1
 have hW1':w.alloc (.cells #[.int .i64 a,.int .i64 b,.int .i64 c] 23)=W1:=hW1
 have HB:=hide hb1
 have hs1':w.heap.size+1≤W1.heap.size:=by omega
 have q0:W1.cell? ⟨w.heap.size,0,none⟩=some (.int .i64 a):=r0.cell 0
 have q1:W1.cell? ⟨w.heap.size,1,none⟩=some (.int .i64 b):=r0.cell 1
 have q2:W1.cell? ⟨w.heap.size,2,none⟩=some (.int .i64 c):=r0.cell 2
 unfold oriC
 clear hW1 r0 hb1 hs1
 go_enter Tryd.func7,Tryd.ntmps7
 by_cases h1:a < 1
 ·have hm:mayH (a,b,c)=false:=decide_eq_false (by show ¬(1≤a∧a≤15∧0≤b∧b≤65535∧0≤c∧c≤268435455);omega)
  have hnm:nameH (a,b,c)=[]:=by unfold nameH;rw [hm];rfl
  have HM:=hide hm
  have HNM:=hide hnm
  clear hm hnm
  go_wp2_with fail
  go_ret2
  exact ⟨by rw [HM.out,HNM.out];rfl,HB.out⟩
 by_cases h2:15 < a
 ·have hm:mayH (a,b,c)=false:=decide_eq_false (by show ¬(1≤a∧a≤15∧0≤b∧b≤65535∧0≤c∧c≤268435455);omega)
  have hnm:nameH (a,b,c)=[]:=by unfold nameH;rw [hm];rfl
  have HM:=hide hm
  have HNM:=hide hnm
  clear hm hnm
  go_wp2_with fail
  go_ret2
  exact ⟨by rw [HM.out,HNM.out];rfl,HB.out⟩
 by_cases h3:b < 0
 ·have hm:mayH (a,b,c)=false:=decide_eq_false (by show ¬(1≤a∧a≤15∧0≤b∧b≤65535∧0≤c∧c≤268435455);omega)
  have hnm:nameH (a,b,c)=[]:=by unfold nameH;rw [hm];rfl
  have HM:=hide hm
  have HNM:=hide hnm
  clear hm hnm
  go_wp2_with fail
  go_ret2
  exact ⟨by rw [HM.out,HNM.out];rfl,HB.out⟩
 by_cases h4:65535 < b
 ·have hm:mayH (a,b,c)=false:=decide_eq_false (by show ¬(1≤a∧a≤15∧0≤b∧b≤65535∧0≤c∧c≤268435455);omega)
  have hnm:nameH (a,b,c)=[]:=by unfold nameH;rw [hm];rfl
  have HM:=hide hm
  have HNM:=hide hnm
  clear hm hnm
  go_wp2_with fail
  go_ret2
  exact ⟨by rw [HM.out,HNM.out];rfl,HB.out⟩
 by_cases h5:c < 0
 ·have hm:mayH (a,b,c)=false:=decide_eq_false (by show ¬(1≤a∧a≤15∧0≤b∧b≤65535∧0≤c∧c≤268435455);omega)
  have hnm:nameH (a,b,c)=[]:=by unfold nameH;rw [hm];rfl
  have HM:=hide hm
  have HNM:=hide hnm
  clear hm hnm
  go_wp2_with fail
  go_ret2
  exact ⟨by rw [HM.out,HNM.out];rfl,HB.out⟩
 by_cases h6:268435455 < c
 ·have hm:mayH (a,b,c)=false:=decide_eq_false (by show ¬(1≤a∧a≤15∧0≤b∧b≤65535∧0≤c∧c≤268435455);omega)
  have hnm:nameH (a,b,c)=[]:=by unfold nameH;rw [hm];rfl
  have HM:=hide hm
  have HNM:=hide hnm
  clear hm hnm
  go_wp2_with fail
  go_ret2
  exact ⟨by rw [HM.out,HNM.out];rfl,HB.out⟩
 obtain ⟨a,rfl⟩:=Int.eq_ofNat_of_zero_le (show 0≤a by omega)
 obtain ⟨b,rfl⟩:=Int.eq_ofNat_of_zero_le (show 0≤b by omega)
 obtain ⟨c,rfl⟩:=Int.eq_ofNat_of_zero_le (show 0≤c by omega)
 have hm:mayH ((a:Int),(b:Int),(c:Int))=true:=decide_eq_true (by show (1≤(a:Int)∧(a:Int)≤15∧0≤(b:Int)∧(b:Int)≤65535∧0≤(c:Int)∧(c:Int)≤268435455);omega)
 obtain ⟨z,hz⟩:∃z,hexN 1 a++hexN 4 b=z:=⟨_,rfl⟩
 have hzl:z.length=5:=by rw [←hz,List.length_append,hexN_len,hexN_len]
 have hnm:nameH ((a:Int),(b:Int),(c:Int))=z++hexN 7 c:=by unfold nameH;rw [hm,if_pos rfl,←hz];rfl
 obtain ⟨z2,hz2⟩:∃z2,z++hexN 7 c=z2:=⟨_,rfl⟩
 have hl1:=hexN_len 1 a
 have hl2:=hexN_len 4 b
 have hl3:=hexN_len 7 c
 have ad:=add_lists (P:=Tryd.prog) (x:=hexN 1 a) (y:=hexN 4 b) (z:=z) (by omega) hz
 have ad2:=add_lists (P:=Tryd.prog) (x:=z) (y:=hexN 7 c) (z:=z2) (by omega) hz2
 rw [hz2] at hnm
 have HM:=hide hm
 have HNM:=hide hnm
 have j1:a≤15:=by omega
 have j2:b≤65535:=by omega
 have j3:c≤268435455:=by omega
 clear hm hnm hz hz2 hl1 hl2 hl3 hzl
 go_wp2_with fail
 refine wp_region_planN (fun w'=>Below W1.heap.size W1 w') [(0,true),(1,true),(3,true),(4,true),(7,true),(8,true),(2,false),(5,false),(6,true),(9,false),(10,true),(11,true),(12,true)] (by kernel_rfl) (by kernel_rfl) (by kernel_rfl) (by kernel_rfl) rfl (fun _ _ _ _ _ h=>h) (below_drew (below_self W1)) (fun hHeld=>?_)
 simp only [planOps,List.filterMap_cons,List.filterMap_nil,List.getElem?_toArray,List.getElem?_cons_succ,List.getElem?_cons_zero,Option.map_some]
 refine wpPlan_take (v:=?_) (by kernel_rfl) (fun wS hSw=>?_) ?_
 rotate_left
 ·(try dsimp only at hSw);go_simp;(try with_reducible rfl)
 (try simp only [Act.put,pu1,pu2,pu3])
 refine wpPlan_take (v:=?_) (by kernel_rfl) (fun wS hSw=>?_) ?_
 rotate_left
 ·have qx:=(hSw.cell (p:=⟨w.heap.size,0,none⟩) (by show w.heap.size < _;omega)).trans q0;go_simp;(try with_reducible rfl)
 (try simp only [Act.put,pu1,pu2,pu3])
 refine wpPlan_take (v:=?_) (by kernel_rfl) (fun wS hSw=>?_) ?_
 rotate_left
 ·(try dsimp only at hSw);go_simp;(try with_reducible rfl)
 (try simp only [Act.put,pu1,pu2,pu3])
 refine wpPlan_take (v:=?_) (by kernel_rfl) (fun wS hSw=>?_) ?_
 rotate_left
 ·have qx:=(hSw.cell (p:=⟨w.heap.size,1,none⟩) (by show w.heap.size < _;omega)).trans q1;go_simp;(try with_reducible rfl)
 (try simp only [Act.put,pu1,pu2,pu3])
 refine wpPlan_take (v:=?_) (by kernel_rfl) (fun wS hSw=>?_) ?_
 rotate_left
 ·(try dsimp only at hSw);go_simp;(try with_reducible rfl)
 (try simp only [Act.put,pu1,pu2,pu3])
 refine wpPlan_take (v:=?_) (by kernel_rfl) (fun wS hSw=>?_) ?_
 rotate_left
 ·have qx:=(hSw.cell (p:=⟨w.heap.size,2,none⟩) (by show w.heap.size < _;omega)).trans q2;go_simp;(try with_reducible rfl)
 (try simp only [Act.put,pu1,pu2,pu3])
 refine wpPlan_call (by kernel_rfl) (fun K hK=>?_)
 have hOld:=hide hHeld
 clear hHeld
 go_simp
 go_at_call 19
 refine (RHex_any (n:=a) (k:=1) (by omega) (by omega) _).mono ?_
 rintro e w' ⟨rfl,rfl⟩
 refine hK.out _ _ (hOld.out) (fun hHeld=>?_)
 clear hK K
 (try simp only [Act.put,pu1,pu2,pu3])
 refine wpPlan_call (by kernel_rfl) (fun K hK=>?_)
 have hOld:=hide hHeld
 clear hHeld
 go_simp
 go_at_call 19
 refine (RHex_any (n:=b) (k:=4) (by omega) (by omega) _).mono ?_
 rintro e w' ⟨rfl,rfl⟩
 refine hK.out _ _ (hOld.out) (fun hHeld=>?_)
 clear hK K
 (try simp only [Act.put,pu1,pu2,pu3])
 refine wpPlan_take (v:=?_) (by kernel_rfl) (fun wS hSw=>?_) ?_
 rotate_left
 ·(try dsimp only at hSw);go_simp;(try with_reducible rfl)
 (try simp only [Act.put,pu1,pu2,pu3])
 refine wpPlan_call (by kernel_rfl) (fun K hK=>?_)
 have hOld:=hide hHeld
 clear hHeld
 go_simp
 go_at_call 19
 refine (RHex_any (n:=c) (k:=7) (by omega) (by omega) _).mono ?_
 rintro e w' ⟨rfl,rfl⟩
 refine hK.out _ _ (hOld.out) (fun hHeld=>?_)
 clear hK K
 (try simp only [Act.put,pu1,pu2,pu3])
 iterate 3
  refine wpPlan_take (v:=?_) (by kernel_rfl) (fun wS hSw=>?_) ?_
  rotate_left
  ·(try dsimp only at hSw);go_simp;(try with_reducible rfl)
  (try simp only [Act.put,pu1,pu2,pu3])
 refine wpPlan_end ?_
 generalize W1.drew=wH at hHeld ⊢
 have HBH:=hide (HB.out.trans (hHeld.mono (by omega)))
 clear hHeld
 go_wp2_with fail
 go_ret2
 exact ⟨by rw [HM.out,HNM.out];rfl,HBH.out⟩
end Go.Proofs.YtnhegahpfacdgaaDoor

