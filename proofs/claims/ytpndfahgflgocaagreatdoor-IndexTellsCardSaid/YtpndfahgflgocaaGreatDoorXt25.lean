import Derived.Test.YtpndfahgflgocaaGreatDoorXt24

namespace Go.Proofs.YtpndfahgflgocaaGreatDoor
open Go.RowKit Go.Shelf Plain

theorem ori_iff (s:List UInt8):(mayH (oriH s)=true∧nameH (oriH s)=s)↔isN s=true:=by
 constructor
 ·rintro ⟨h1,h2⟩
  unfold nameH at h2
  rw [if_pos h1] at h2
  exact (name_iff.1 ⟨h1,h2⟩).1
 ·intro h
  obtain ⟨h1,h2⟩:=name_iff.2 ⟨h,rfl⟩
  refine ⟨h1,?_⟩
  unfold nameH
  rw [if_pos h1]
  exact h2
theorem isN_len {s:List UInt8} (h:s.length≠12):isN s=false:=by
 unfold isN
 rw [decide_eq_false h]
 rfl
set_option maxRecDepth 100000 in
set_option maxHeartbeats 8000000 in
theorem RParse_any {s:List UInt8} (w:World):Calls Tryz.prog 29 #[.string ⟨s.toArray⟩] w (fun e w'=>e=.returned (.tuple #[.agg (oriC (parseH s)).toArray,.bool (isN s)])∧Below w.heap.size w w'):=by
 have r2:=RowL.new w 47 [.int .i64 0,.int .i64 0,.int .i64 0]
 have hb1:=below_new (below_self w) (.cells #[.int .i64 0,.int .i64 0,.int .i64 0] 47)
 have hz1:(w.alloc (.cells #[.int .i64 0,.int .i64 0,.int .i64 0] 47)).heap.size=w.heap.size+1:=by simp
 obtain ⟨w1,hw1⟩:∃w1,w.alloc (.cells #[.int .i64 0,.int .i64 0,.int .i64 0] 47)=w1:=⟨_,rfl⟩
 have R2:=hide (show RowL w1 w.heap.size 47 [.int .i64 0,.int .i64 0,.int .i64 0] from by rw [←hw1];exact r2)
 rw [hw1] at hb1 hz1
 have HB:=hide hb1
 have hz1':w.heap.size+1≤w1.heap.size:=by omega
 obtain ⟨n,hn⟩:∃n,s.length=n:=⟨_,rfl⟩
 have hsz:(⟨s.toArray⟩:ByteArray).size=n:=by rw [←hn];simp [ByteArray.size]
 have HN:=hide hn
 clear r2 hb1 hz1 hn
 go_enter Tryz.func29,Tryz.ntmps29
 by_cases h12:n=12
 ·subst h12
  obtain ⟨p1,hp1⟩:∃p1,s.take 1=p1:=⟨_,rfl⟩
  obtain ⟨p2,hp2⟩:∃p2,(s.drop 1).take 4=p2:=⟨_,rfl⟩
  obtain ⟨p3,hp3⟩:∃p3,s.drop 5=p3:=⟨_,rfl⟩
  have hl1:p1.length≤7:=by rw [←hp1,List.length_take];omega
  have hl2:p2.length≤7:=by rw [←hp2,List.length_take];omega
  have hl3:p3.length≤7:=by rw [←hp3,List.length_drop,HN.out];omega
  have hc1:(⟨s.toArray⟩:ByteArray).extract 0 1=⟨p1.toArray⟩:=by rw [←hp1];exact cut_listH s 0 1
  have hc2:(⟨s.toArray⟩:ByteArray).extract 1 5=⟨p2.toArray⟩:=by rw [←hp2];exact cut_listH s 1 5
  have hc3:(⟨s.toArray⟩:ByteArray).extract 5 12=⟨p3.toArray⟩:=by
   rw [cut_listH,List.take_of_length_le (by rw [List.length_drop,HN.out];omega),hp3]
  have HOI:=hide (show oriH s=(((numH p1:Nat):Int),((numH p2:Nat):Int),((numH p3:Nat):Int)) from by unfold oriH;rw [hp1,hp2,hp3])
  clear hp1 hp2 hp3
  go_upto_region 3 with fail
  go_cut [4] from 11 to 21 (fun v4 wx=>∃g9:Nat,v4=.pointer (some ⟨g9,0,none⟩)∧w1.heap.size≤g9∧RowL wx g9 47 (oriC (((numH p1:Nat):Int),((numH p2:Nat):Int),((numH p3:Nat):Int)))∧Below w1.heap.size w1 wx)
  case first =>
   refine wp_region_G (fun w'=>Below (w1.heap.size) w1 w') (.take 0 (.take 1 (.take 3 (.take 4 (.take 6 (.take 7 (.alt 2 (.alt 5 (.alt 8 (.take 9 (.alt 10 (.alt 11 .leaf .stop) .stop)) (.alt 10 (.alt 8 (.take 9 (.alt 11 .leaf .stop)) .stop) .stop)) (.alt 10 (.alt 5 (.alt 8 (.take 9 (.alt 11 .leaf .stop)) .stop) .stop) .stop)) (.alt 10 (.alt 2 (.alt 5 (.alt 8 (.take 9 (.alt 11 .leaf .stop)) .stop) .stop) .stop) .stop)))))))) (by kernel_rfl) (by kernel_rfl) (by kernel_rfl) (by kernel_rfl) rfl (fun _ _ _ _ _ h=>h) (below_drew (below_self w1)) (fun hHeld=>?_)
   generalize w1.drew=wd at *
   simp only [PT.map,List.getElem?_toArray,List.getElem?_cons_succ,List.getElem?_cons_zero]
   refine wpPT_take (v:=?_) (by kernel_rfl) (fun wS hSw=>?_) ?_
   rotate_left
   ·(try dsimp only at hSw);go_simp;(try with_reducible rfl)
   (try simp only [Act.put,pu1,pu2,pu3])
   refine wpPT_take (v:=?_) (by kernel_rfl) (fun wS hSw=>?_) ?_
   rotate_left
   ·(try dsimp only at hSw);go_simp;(try simp only [hc1]);(try with_reducible rfl)
   (try simp only [Act.put,pu1,pu2,pu3])
   refine wpPT_take (v:=?_) (by kernel_rfl) (fun wS hSw=>?_) ?_
   rotate_left
   ·(try dsimp only at hSw);go_simp;(try with_reducible rfl)
   (try simp only [Act.put,pu1,pu2,pu3])
   refine wpPT_take (v:=?_) (by kernel_rfl) (fun wS hSw=>?_) ?_
   rotate_left
   ·(try dsimp only at hSw);go_simp;(try simp only [hc2]);(try with_reducible rfl)
   (try simp only [Act.put,pu1,pu2,pu3])
   refine wpPT_take (v:=?_) (by kernel_rfl) (fun wS hSw=>?_) ?_
   rotate_left
   ·(try dsimp only at hSw);go_simp;(try with_reducible rfl)
   (try simp only [Act.put,pu1,pu2,pu3])
   refine wpPT_take (v:=?_) (by kernel_rfl) (fun wS hSw=>?_) ?_
   rotate_left
   ·(try dsimp only at hSw);go_simp;(try simp only [hc3]);(try with_reducible rfl)
   (try simp only [Act.put,pu1,pu2,pu3])
   refine wpPT_alt (by kernel_rfl) (fun K hK=>?_) ?_
   ·skip
    have hOld:=hide hHeld
    clear hHeld
    go_simp
    go_at_call 50
    refine (RNumber_any (s:=p1) hl1 _).mono ?_
    rintro e w' ⟨rfl,hbel⟩
    have hb':=hbel.mono (B':=w1.heap.size) (by have:=hOld.out.size;omega)
    clear hbel
    refine hK.out _ _ (hOld.out.trans hb') (fun hHeld=>?_)
    clear hK K
    (try simp only [Act.put,pu1,pu2,pu3])
    refine wpPT_alt (by kernel_rfl) (fun K hK=>?_) ?_
    ·skip
     have hOld:=hide hHeld
     clear hHeld
     go_simp
     go_at_call 50
     refine (RNumber_any (s:=p2) hl2 _).mono ?_
     rintro e w' ⟨rfl,hbel⟩
     have hb':=hbel.mono (B':=w1.heap.size) (by have:=hOld.out.size;omega)
     clear hbel
     refine hK.out _ _ (hOld.out.trans hb') (fun hHeld=>?_)
     clear hK K
     (try simp only [Act.put,pu1,pu2,pu3])
     refine wpPT_alt (by kernel_rfl) (fun K hK=>?_) ?_
     ·skip
      have hOld:=hide hHeld
      clear hHeld
      go_simp
      go_at_call 50
      refine (RNumber_any (s:=p3) hl3 _).mono ?_
      rintro e w' ⟨rfl,hbel⟩
      have hb':=hbel.mono (B':=w1.heap.size) (by have:=hOld.out.size;omega)
      clear hbel
      refine hK.out _ _ (hOld.out.trans hb') (fun hHeld=>?_)
      clear hK K
      (try simp only [Act.put,pu1,pu2,pu3])
      refine wpPT_take (v:=?_) (by kernel_rfl) (fun wS hSw=>?_) ?_
      rotate_left
      ·(try dsimp only at hSw);go_simp;(try with_reducible rfl)
      (try simp only [Act.put,pu1,pu2,pu3])
      refine wpPT_alt (by kernel_rfl) (fun K hK=>?_) ?_
      rotate_left
      ·exact wpPT_stop
      have hOld:=hide hHeld
      clear hHeld
      unfold Oper.wp execOp
      go_simp
      have hal:=below_new (below_self w') (.cells #[.int .i64 0,.int .i64 0,.int .i64 0] 47)
      have hb':=hal.mono (B':=w1.heap.size) (by have:=hOld.out.size;omega)
      have HFN:=hide (show RowL (w'.alloc (.cells #[.int .i64 0,.int .i64 0,.int .i64 0] 47)) w'.heap.size 47 (oriC (0,0,0)) from RowL.new w' 47 (oriC (0,0,0)))
      have g9l:w1.heap.size≤w'.heap.size:=hOld.out.size
      refine hK.out _ _ (hOld.out.trans hb') (fun hHeld=>?_)
      clear hK K
      have R9:=HFN
      clear hal hb' hOld HFN
      generalize w'.alloc (.cells #[.int .i64 0,.int .i64 0,.int .i64 0] 47)=z3 at *
      generalize w'.heap.size=g9 at *
      (try simp only [Act.put,pu1,pu2,pu3])
      refine wpPT_alt (by kernel_rfl) (fun K hK=>?_) ?_
      rotate_left
      ·exact wpPT_stop
      have hOld:=hide hHeld
      clear hHeld
      refine wp_storeC 47 (.tmp 4) (.tmp 20) rfl 3 ori_size g9 0 47 rfl (oriC (0,0,0)) (oriC (((numH p1:Nat):Int),((numH p2:Nat):Int),((numH p3:Nat):Int))) rfl R9.out rfl (by exact Nat.le_refl _) (oriC_one _) ?_
      intro w' hr' hg' hs'
      rw [splice_all (oriC (0,0,0)) (oriC (((numH p1:Nat):Int),((numH p2:Nat):Int),((numH p3:Nat):Int))) rfl] at hr'
      refine hK.out _ _ (hOld.out.grown hg' (by have:=hOld.out.size;omega) (pu4 (by omega))) (fun hHeld=>?_)
      clear hK K
      clear R9
      have R9:=hide hr'
      clear hg' hs' hr' hOld
      (try simp only [Act.put])
      refine wpPT_leaf ?_
      have HBX:=hide hHeld
      clear hHeld
      go_wp2_with fail
      go_meet
      case rel=>exact ⟨g9,rfl,g9l,R9.out,HBX.out⟩
     refine wpPT_alt (by kernel_rfl) (fun K hK=>?_) ?_
     ·skip
      have hOld:=hide hHeld
      clear hHeld
      unfold Oper.wp execOp
      go_simp
      have hal:=below_new (below_self w') (.cells #[.int .i64 0,.int .i64 0,.int .i64 0] 47)
      have hb':=hal.mono (B':=w1.heap.size) (by have:=hOld.out.size;omega)
      have HFN:=hide (show RowL (w'.alloc (.cells #[.int .i64 0,.int .i64 0,.int .i64 0] 47)) w'.heap.size 47 (oriC (0,0,0)) from RowL.new w' 47 (oriC (0,0,0)))
      have g9l:w1.heap.size≤w'.heap.size:=hOld.out.size
      refine hK.out _ _ (hOld.out.trans hb') (fun hHeld=>?_)
      clear hK K
      have R9:=HFN
      clear hal hb' hOld HFN
      generalize w'.alloc (.cells #[.int .i64 0,.int .i64 0,.int .i64 0] 47)=z2 at *
      generalize w'.heap.size=g9 at *
      (try simp only [Act.put,pu1,pu2,pu3])
      refine wpPT_alt (by kernel_rfl) (fun K hK=>?_) ?_
      rotate_left
      ·exact wpPT_stop
      have hOld:=hide hHeld
      clear hHeld
      go_simp
      go_at_call 50
      refine (RNumber_any (s:=p3) hl3 _).mono ?_
      rintro e w' ⟨rfl,hbel⟩
      have hb':=hbel.mono (B':=w1.heap.size) (by have:=hOld.out.size;omega)
      have R9':=hide (R9.out.on hbel)
      clear R9
      have R9:=R9'
      clear R9'
      clear hbel
      refine hK.out _ _ (hOld.out.trans hb') (fun hHeld=>?_)
      clear hK K
      (try simp only [Act.put,pu1,pu2,pu3])
      refine wpPT_take (v:=?_) (by kernel_rfl) (fun wS hSw=>?_) ?_
      rotate_left
      ·(try dsimp only at hSw);go_simp;(try with_reducible rfl)
      (try simp only [Act.put,pu1,pu2,pu3])
      refine wpPT_alt (by kernel_rfl) (fun K hK=>?_) ?_
      rotate_left
      ·exact wpPT_stop
      have hOld:=hide hHeld
      clear hHeld
      refine wp_storeC 47 (.tmp 4) (.tmp 20) rfl 3 ori_size g9 0 47 rfl (oriC (0,0,0)) (oriC (((numH p1:Nat):Int),((numH p2:Nat):Int),((numH p3:Nat):Int))) rfl R9.out rfl (by exact Nat.le_refl _) (oriC_one _) ?_
      intro w' hr' hg' hs'
      rw [splice_all (oriC (0,0,0)) (oriC (((numH p1:Nat):Int),((numH p2:Nat):Int),((numH p3:Nat):Int))) rfl] at hr'
      refine hK.out _ _ (hOld.out.grown hg' (by have:=hOld.out.size;omega) (pu4 (by omega))) (fun hHeld=>?_)
      clear hK K
      clear R9
      have R9:=hide hr'
      clear hg' hs' hr' hOld
      (try simp only [Act.put])
      refine wpPT_leaf ?_
      have HBX:=hide hHeld
      clear hHeld
      go_wp2_with fail
      go_meet
      case rel=>exact ⟨g9,rfl,g9l,R9.out,HBX.out⟩
     exact wpPT_stop
    refine wpPT_alt (by kernel_rfl) (fun K hK=>?_) ?_
    ·skip
     have hOld:=hide hHeld
     clear hHeld
     unfold Oper.wp execOp
     go_simp
     have hal:=below_new (below_self w') (.cells #[.int .i64 0,.int .i64 0,.int .i64 0] 47)
     have hb':=hal.mono (B':=w1.heap.size) (by have:=hOld.out.size;omega)
     have HFN:=hide (show RowL (w'.alloc (.cells #[.int .i64 0,.int .i64 0,.int .i64 0] 47)) w'.heap.size 47 (oriC (0,0,0)) from RowL.new w' 47 (oriC (0,0,0)))
     have g9l:w1.heap.size≤w'.heap.size:=hOld.out.size
     refine hK.out _ _ (hOld.out.trans hb') (fun hHeld=>?_)
     clear hK K
     have R9:=HFN
     clear hal hb' hOld HFN
     generalize w'.alloc (.cells #[.int .i64 0,.int .i64 0,.int .i64 0] 47)=z1 at *
     generalize w'.heap.size=g9 at *
     (try simp only [Act.put,pu1,pu2,pu3])
     refine wpPT_alt (by kernel_rfl) (fun K hK=>?_) ?_
     rotate_left
     ·exact wpPT_stop
     have hOld:=hide hHeld
     clear hHeld
     go_simp
     go_at_call 50
     refine (RNumber_any (s:=p2) hl2 _).mono ?_
     rintro e w' ⟨rfl,hbel⟩
     have hb':=hbel.mono (B':=w1.heap.size) (by have:=hOld.out.size;omega)
     have R9':=hide (R9.out.on hbel)
     clear R9
     have R9:=R9'
     clear R9'
     clear hbel
     refine hK.out _ _ (hOld.out.trans hb') (fun hHeld=>?_)
     clear hK K
     (try simp only [Act.put,pu1,pu2,pu3])
     refine wpPT_alt (by kernel_rfl) (fun K hK=>?_) ?_
     rotate_left
     ·exact wpPT_stop
     have hOld:=hide hHeld
     clear hHeld
     go_simp
     go_at_call 50
     refine (RNumber_any (s:=p3) hl3 _).mono ?_
     rintro e w' ⟨rfl,hbel⟩
     have hb':=hbel.mono (B':=w1.heap.size) (by have:=hOld.out.size;omega)
     have R9':=hide (R9.out.on hbel)
     clear R9
     have R9:=R9'
     clear R9'
     clear hbel
     refine hK.out _ _ (hOld.out.trans hb') (fun hHeld=>?_)
     clear hK K
     (try simp only [Act.put,pu1,pu2,pu3])
     refine wpPT_take (v:=?_) (by kernel_rfl) (fun wS hSw=>?_) ?_
     rotate_left
     ·(try dsimp only at hSw);go_simp;(try with_reducible rfl)
     (try simp only [Act.put,pu1,pu2,pu3])
     refine wpPT_alt (by kernel_rfl) (fun K hK=>?_) ?_
     rotate_left
     ·exact wpPT_stop
     have hOld:=hide hHeld
     clear hHeld
     refine wp_storeC 47 (.tmp 4) (.tmp 20) rfl 3 ori_size g9 0 47 rfl (oriC (0,0,0)) (oriC (((numH p1:Nat):Int),((numH p2:Nat):Int),((numH p3:Nat):Int))) rfl R9.out rfl (by exact Nat.le_refl _) (oriC_one _) ?_
     intro w' hr' hg' hs'
     rw [splice_all (oriC (0,0,0)) (oriC (((numH p1:Nat):Int),((numH p2:Nat):Int),((numH p3:Nat):Int))) rfl] at hr'
     refine hK.out _ _ (hOld.out.grown hg' (by have:=hOld.out.size;omega) (pu4 (by omega))) (fun hHeld=>?_)
     clear hK K
     clear R9
     have R9:=hide hr'
     clear hg' hs' hr' hOld
     (try simp only [Act.put])
     refine wpPT_leaf ?_
     have HBX:=hide hHeld
     clear hHeld
     go_wp2_with fail
     go_meet
     case rel=>exact ⟨g9,rfl,g9l,R9.out,HBX.out⟩
    exact wpPT_stop
   refine wpPT_alt (by kernel_rfl) (fun K hK=>?_) ?_
   ·skip
    have hOld:=hide hHeld
    clear hHeld
    unfold Oper.wp execOp
    go_simp
    have hal:=below_new (below_self wd) (.cells #[.int .i64 0,.int .i64 0,.int .i64 0] 47)
    have hb':=hal.mono (B':=w1.heap.size) (by have:=hOld.out.size;omega)
    have HFN:=hide (show RowL (wd.alloc (.cells #[.int .i64 0,.int .i64 0,.int .i64 0] 47)) wd.heap.size 47 (oriC (0,0,0)) from RowL.new wd 47 (oriC (0,0,0)))
    have g9l:w1.heap.size≤wd.heap.size:=hOld.out.size
    refine hK.out _ _ (hOld.out.trans hb') (fun hHeld=>?_)
    clear hK K
    have R9:=HFN
    clear hal hb' hOld HFN
    generalize wd.alloc (.cells #[.int .i64 0,.int .i64 0,.int .i64 0] 47)=z0 at *
    generalize wd.heap.size=g9 at *
    (try simp only [Act.put,pu1,pu2,pu3])
    refine wpPT_alt (by kernel_rfl) (fun K hK=>?_) ?_
    rotate_left
    ·exact wpPT_stop
    have hOld:=hide hHeld
    clear hHeld
    go_simp
    go_at_call 50
    refine (RNumber_any (s:=p1) hl1 _).mono ?_
    rintro e w' ⟨rfl,hbel⟩
    have hb':=hbel.mono (B':=w1.heap.size) (by have:=hOld.out.size;omega)
    have R9':=hide (R9.out.on hbel)
    clear R9
    have R9:=R9'
    clear R9'
    clear hbel
    refine hK.out _ _ (hOld.out.trans hb') (fun hHeld=>?_)
    clear hK K
    (try simp only [Act.put,pu1,pu2,pu3])
    refine wpPT_alt (by kernel_rfl) (fun K hK=>?_) ?_
    rotate_left
    ·exact wpPT_stop
    have hOld:=hide hHeld
    clear hHeld
    go_simp
    go_at_call 50
    refine (RNumber_any (s:=p2) hl2 _).mono ?_
    rintro e w' ⟨rfl,hbel⟩
    have hb':=hbel.mono (B':=w1.heap.size) (by have:=hOld.out.size;omega)
    have R9':=hide (R9.out.on hbel)
    clear R9
    have R9:=R9'
    clear R9'
    clear hbel
    refine hK.out _ _ (hOld.out.trans hb') (fun hHeld=>?_)
    clear hK K
    (try simp only [Act.put,pu1,pu2,pu3])
    refine wpPT_alt (by kernel_rfl) (fun K hK=>?_) ?_
    rotate_left
    ·exact wpPT_stop
    have hOld:=hide hHeld
    clear hHeld
    go_simp
    go_at_call 50
    refine (RNumber_any (s:=p3) hl3 _).mono ?_
    rintro e w' ⟨rfl,hbel⟩
    have hb':=hbel.mono (B':=w1.heap.size) (by have:=hOld.out.size;omega)
    have R9':=hide (R9.out.on hbel)
    clear R9
    have R9:=R9'
    clear R9'
    clear hbel
    refine hK.out _ _ (hOld.out.trans hb') (fun hHeld=>?_)
    clear hK K
    (try simp only [Act.put,pu1,pu2,pu3])
    refine wpPT_take (v:=?_) (by kernel_rfl) (fun wS hSw=>?_) ?_
    rotate_left
    ·(try dsimp only at hSw);go_simp;(try with_reducible rfl)
    (try simp only [Act.put,pu1,pu2,pu3])
    refine wpPT_alt (by kernel_rfl) (fun K hK=>?_) ?_
    rotate_left
    ·exact wpPT_stop
    have hOld:=hide hHeld
    clear hHeld
    refine wp_storeC 47 (.tmp 4) (.tmp 20) rfl 3 ori_size g9 0 47 rfl (oriC (0,0,0)) (oriC (((numH p1:Nat):Int),((numH p2:Nat):Int),((numH p3:Nat):Int))) rfl R9.out rfl (by exact Nat.le_refl _) (oriC_one _) ?_
    intro w' hr' hg' hs'
    rw [splice_all (oriC (0,0,0)) (oriC (((numH p1:Nat):Int),((numH p2:Nat):Int),((numH p3:Nat):Int))) rfl] at hr'
    refine hK.out _ _ (hOld.out.grown hg' (by have:=hOld.out.size;omega) (pu4 (by omega))) (fun hHeld=>?_)
    clear hK K
    clear R9
    have R9:=hide hr'
    clear hg' hs' hr' hOld
    (try simp only [Act.put])
    refine wpPT_leaf ?_
    have HBX:=hide hHeld
    clear hHeld
    go_wp2_with fail
    go_meet
    case rel=>exact ⟨g9,rfl,g9l,R9.out,HBX.out⟩
   exact wpPT_stop
  case rest =>
   obtain ⟨g9,rfl,hg9,hr9,hbx⟩:=hcut
   rename World=>w3
   have hz3:=hbx.size
   have hlt9:=hr9.lt
   obtain ⟨o,ho⟩:∃o,oriH s=o:=⟨_,rfl⟩
   have h1:=HOI.out
   rw [ho] at h1
   rw [←h1] at hr9
   have R98:=hide hr9
   have R28:=hide (R2.out.on hbx)
   have HB8:=hide (HB.out.trans (hbx.mono (by omega)))
   have HTE:=hide (ori_iff s)
   rw [ho] at HTE
   have HOO:=hide ho
   clear hr9 hbx h1 ho HOI R2 HB hc1 hc2 hc3 hw1
   go_upto_region 5 with (first|(refine wpList_loadW rfl 47 (.tmp 4) rfl 3 ori_agg ori_size g9 47 rfl [.int .i64 o.1,.int .i64 o.2.1,.int .i64 o.2.2] R98.out rfl ?_)|(go_at_call 51;refine (RName_any o w3).mono ?_;rintro e9 w9 ⟨rfl,hbel⟩;have hz9:=hbel.size;have R99:=hide (R98.out.on hbel);have R29:=hide (R28.out.on hbel);have HBX:=hide (HB8.out.trans (hbel.mono (by omega)));clear hbel R98 R28))
   obtain ⟨m,hm⟩:∃m,mayH o=m:=⟨_,rfl⟩
   obtain ⟨t,ht⟩:∃t,nameH o=t:=⟨_,rfl⟩
   rw [hm,ht] at HTE ⊢
   clear hm ht
   cases m with
   | false =>
    have HNO:=hide (show ¬(false=true∧t=s) from fun h=>by cases h.1)
    have HPZ:=hide (show parseH s=(0,0,0)∧isN s=false from by
     have hf:isN s=false:=by
      cases hq:isN s with
      | false=>rfl
      | true=>exact absurd (HTE.out.2 hq) HNO.out
     unfold parseH
     rw [hf]
     exact ⟨rfl,rfl⟩)
    go_upto_region 6 with fail
    go_wp2_with (first|(refine wpList_storeW rfl 47 (.tmp 2) (.tmp 33) rfl 3 ori_size (w.heap.size) 47 rfl [.int .i64 0,.int .i64 0,.int .i64 0] [.int .i64 0,.int .i64 0,.int .i64 0] rfl R29.out rfl rfl (by simp [Value.oneCell']) ?_;intro wz hrz hgz hsz2;have R2z:=hide hrz;have HBZ:=hide (HBX.out.grown hgz (by omega) (pu4 (by omega)));clear hrz hgz hsz2))
    exact bodyPost_ret (res_ctH Tryz.results29 rfl rfl ori_agg ori_size R2z.out rfl) rfl ⟨by rw [HPZ.out.1,HPZ.out.2];rfl,HBZ.out⟩
   | true =>
    by_cases hts:t=s
    ·have HPO:=hide (show parseH s=o∧isN s=true from by
      have hq:=HTE.out.1 ⟨rfl,hts⟩
      unfold parseH
      rw [hq]
      exact ⟨HOO.out,rfl⟩)
     have hb1:(t==s)=true:=by simpa using hts
     have hb2:(t != s)=false:=by simpa using hts
     clear hts
     go_upto_region 7 with fail
     go_wp2_with (first|(refine wpList_loadW rfl 47 (.tmp 4) rfl 3 ori_agg ori_size g9 47 rfl [.int .i64 o.1,.int .i64 o.2.1,.int .i64 o.2.2] R99.out rfl ?_)|(refine wpList_storeW rfl 47 (.tmp 2) (.tmp 34) rfl 3 ori_size (w.heap.size) 47 rfl [.int .i64 0,.int .i64 0,.int .i64 0] [.int .i64 o.1,.int .i64 o.2.1,.int .i64 o.2.2] rfl R29.out rfl rfl (by simp [Value.oneCell']) ?_;intro wz hrz hgz hsz2;have R2z:=hide hrz;have HBZ:=hide (HBX.out.grown hgz (by omega) (pu4 (by omega)));clear hrz hgz hsz2))
     exact bodyPost_ret (res_ctH Tryz.results29 rfl rfl ori_agg ori_size R2z.out rfl) rfl ⟨by rw [HPO.out.1,HPO.out.2];rfl,HBZ.out⟩
    ·have HNO:=hide (show ¬(true=true∧t=s) from fun h=>hts h.2)
     have hb1:(t==s)=false:=by simpa using hts
     have hb2:(t != s)=true:=by simpa using hts
     clear hts
     have HPZ:=hide (show parseH s=(0,0,0)∧isN s=false from by
      have hf:isN s=false:=by
       cases hq:isN s with
       | false=>rfl
       | true=>exact absurd (HTE.out.2 hq) HNO.out
      unfold parseH
      rw [hf]
      exact ⟨rfl,rfl⟩)
     go_upto_region 6 with fail
     go_wp2_with (first|(refine wpList_storeW rfl 47 (.tmp 2) (.tmp 33) rfl 3 ori_size (w.heap.size) 47 rfl [.int .i64 0,.int .i64 0,.int .i64 0] [.int .i64 0,.int .i64 0,.int .i64 0] rfl R29.out rfl rfl (by simp [Value.oneCell']) ?_;intro wz hrz hgz hsz2;have R2z:=hide hrz;have HBZ:=hide (HBX.out.grown hgz (by omega) (pu4 (by omega)));clear hrz hgz hsz2))
     exact bodyPost_ret (res_ctH Tryz.results29 rfl rfl ori_agg ori_size R2z.out rfl) rfl ⟨by rw [HPZ.out.1,HPZ.out.2];rfl,HBZ.out⟩
 ·have hnn:¬(n:Int)=12:=by omega
  have HPZ:=hide (show parseH s=(0,0,0)∧isN s=false from by
   have hf:=isN_len (s:=s) (by rw [HN.out];exact h12)
   unfold parseH
   rw [hf]
   exact ⟨rfl,rfl⟩)
  have HBX:=hide HB.out
  go_upto_region 2 with fail
  go_wp2_with (first|(refine wpList_storeW rfl 47 (.tmp 2) (.tmp 10) rfl 3 ori_size (w.heap.size) 47 rfl [.int .i64 0,.int .i64 0,.int .i64 0] [.int .i64 0,.int .i64 0,.int .i64 0] rfl R2.out rfl rfl (by simp [Value.oneCell']) ?_;intro wz hrz hgz hsz2;have R2z:=hide hrz;have HBZ:=hide (HBX.out.grown hgz (by omega) (pu4 (by omega)));clear hrz hgz hsz2))
  exact bodyPost_ret (res_ctH Tryz.results29 rfl rfl ori_agg ori_size R2z.out rfl) rfl ⟨by rw [HPZ.out.1,HPZ.out.2];rfl,HBZ.out⟩
end Go.Proofs.YtpndfahgflgocaaGreatDoor

