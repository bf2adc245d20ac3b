import Derived.Test.YtnhegahpfacdgaaDoorHn33

namespace Go.Proofs.YtnhegahpfacdgaaDoor
open Go.RowKit Go.Shelf Plain

theorem name_len (o:OriV):(nameH o).length≤12:=by
 unfold nameH
 split
 ·simp [textH,hexN_len]
 ·simp
theorem par_none:parseH []=(0,0,0)∧isN []=false:=by decide +kernel
theorem back_ori (o:OriV):∃z,parseH (nameH o)=z∧isN (nameH o)=mayH o∧(mayH o=true→o=z):=by
 cases hm:mayH o with
 | true =>
  obtain ⟨h1,h2⟩:=told_par (s:=nameH o) ⟨hm,rfl⟩
  exact ⟨o,h1,h2,fun _=>rfl⟩
 | false =>
  have e:nameH o=[]:=by unfold nameH;rw [hm];rfl
  rw [e]
  exact ⟨_,rfl,par_none.2,fun h=>by cases h⟩
theorem back_txt (s:List UInt8):∃c,nameH (parseH s)=c∧mayH (parseH s)=isN s∧(isN s=true→s=c):=by
 cases hm:isN s with
 | true =>
  have e:parseH s=oriH s:=by unfold parseH;rw [hm];rfl
  rw [e]
  obtain ⟨h1,h2⟩:=(ori_iff s).2 hm
  exact ⟨s,h2,h1,fun _=>rfl⟩
 | false =>
  have e:parseH s=(0,0,0):=by unfold parseH;rw [hm];rfl
  rw [e]
  exact ⟨_,rfl,by decide +kernel,fun h=>by cases h⟩
theorem RName_e {o:OriV} {t:List UInt8} {b:Bool} (h:mayH o=b∧nameH o=t) (w:World):Calls Tryd.prog 7 #[.agg (oriC o).toArray] w (fun e w'=>e=.returned (.tuple #[.string ⟨t.toArray⟩,.bool b])∧Below w.heap.size w w'):=by
 obtain ⟨rfl,rfl⟩:=h
 exact RName_any o w
theorem RParse_e {s:List UInt8} {o:OriV} {b:Bool} (h:parseH s=o∧isN s=b) (w:World):Calls Tryd.prog 9 #[.string ⟨s.toArray⟩] w (fun e w'=>e=.returned (.tuple #[.agg (oriC o).toArray,.bool b])∧Below w.heap.size w w'):=by
 obtain ⟨rfl,rfl⟩:=h
 exact RParse_any w
set_option maxRecDepth 100000 in
set_option maxHeartbeats 16000000 in
theorem law_HandleNames {o:OriV} {s:List UInt8} (w:World) (hw:HanW w):Calls Tryd.prog 3 #[.agg (oriC o).toArray,.string ⟨s.toArray⟩] w (LawOk w):=by
 obtain ⟨W1,hW1⟩:∃W1,w.alloc (.cells (oriC o).toArray 23)=W1:=⟨_,rfl⟩
 obtain ⟨r0,hb1,hs1⟩:=rowA1 w _ _ hW1
 have hW1':w.alloc (.cells #[.int .i64 o.1,.int .i64 o.2.1,.int .i64 o.2.2] 23)=W1:=hW1
 have R2:=hide r0
 have HB:=hide hb1
 have HW:=hide (hw.below hb1)
 have hs1':w.heap.size+1≤W1.heap.size:=by omega
 obtain ⟨k,hk⟩:∃k,s.length=k:=⟨_,rfl⟩
 have hsz:(⟨s.toArray⟩:ByteArray).size=k:=by rw [←hk];simp [ByteArray.size]
 unfold oriC
 clear hW1 r0 hb1 hs1 hw
 go_enter Tryd.func3,Tryd.ntmps3
 by_cases hk1:(100:Int) < (k:Int)
 ·go_wp2_with fail
  refine (awake15_any _ HW.out).mono ?_
  rintro e98 wz ⟨rfl,hbz⟩
  have HBZ:=hide (HB.out.trans (hbz.mono (by have:=HB.out.size;omega)))
  clear hbz
  go_wp2_with fail
  go_ret
  exact LawOk.of HBZ.out
 ·have hk100:k≤100:=by omega
  obtain ⟨b,hb⟩:∃b,mayH o=b:=⟨_,rfl⟩
  obtain ⟨t,ht⟩:∃t,nameH o=t:=⟨_,rfl⟩
  obtain ⟨x,hx⟩:∃x,parseH s=x:=⟨_,rfl⟩
  obtain ⟨h,hh⟩:∃h,isN s=h:=⟨_,rfl⟩
  have htl:=name_len o
  rw [ht] at htl
  obtain ⟨z,hz1,hz2,hz3⟩:=back_ori o
  obtain ⟨c,hc1,hc2,hc3⟩:=back_txt s
  rw [ht] at hz1 hz2
  rw [hb] at hz2 hz3
  rw [hx] at hc1 hc2
  rw [hh] at hc2 hc3
  have HON:=hide (And.intro hb ht)
  have HSN:=hide (And.intro hx hh)
  have HTN:=hide (And.intro hz1 hz2)
  have HXN:=hide (And.intro hc2 hc1)
  have HZ:=hide hz3
  have HC:=hide hc3
  have hneq:=fun W=>neq_ori x x (r:=true) (by simp) W
  have heqo:=fun W=>eq_ori o o (r:=true) (by simp) W
  clear hb ht hx hh hz1 hz2 hc1 hc2 hz3 hc3
  have hcase:(b=false∨(b=true∧o=z))∧(h=false∨(h=true∧s=c)):=by
   have h1:=HZ.out
   have h2:=HC.out
   cases b <;> cases h <;> simp_all
  clear HZ HC
  obtain ⟨h1,h2⟩:=hcase
  rcases h1 with rfl|⟨rfl,rfl⟩ <;> rcases h2 with rfl|⟨rfl,rfl⟩
  ·go_upto_region 7 with (first|(refine wpList_loadW rfl 23 (.tmp 2) rfl 3 ori_agg ori_size (w.heap.size) 23 rfl [.int .i64 o.1,.int .i64 o.2.1,.int .i64 o.2.2] R2.out rfl ?_)|(go_at_call 6;refine (HName_e (o:=o) HON.out _ HW.out).mono ?_;rintro ew1 w1 ⟨rfl,hbw1⟩;replace HB:=hide (HB.out.trans (hbw1.mono (by omega)));replace HW:=hide (HW.out.below hbw1);replace R2:=hide (R2.out.on hbw1);have hzhbw1:=hbw1.size;clear hbw1)|(go_at_call 7;refine (RName_e (o:=o) HON.out _).mono ?_;rintro ew2 w2 ⟨rfl,hbw2⟩;replace HB:=hide (HB.out.trans (hbw2.mono (by omega)));replace HW:=hide (HW.out.below hbw2);replace R2:=hide (R2.out.on hbw2);have hzhbw2:=hbw2.size;clear hbw2)|(go_at_call 8;refine (HParse_e (s:=s) (by omega) HSN.out _ HW.out).mono ?_;rintro ew3 w3 ⟨rfl,hbw3⟩;replace HB:=hide (HB.out.trans (hbw3.mono (by omega)));replace HW:=hide (HW.out.below hbw3);replace R2:=hide (R2.out.on hbw3);have hzhbw3:=hbw3.size;clear hbw3)|(refine wpList_storeW rfl 23 (.tmp 9) (.tmp 34) rfl 3 ori_size (w3.heap.size) 23 rfl [.int .i64 0,.int .i64 0,.int .i64 0] [.int .i64 x.1,.int .i64 x.2.1,.int .i64 x.2.2] rfl (RowL.new w3 23 [.int .i64 0,.int .i64 0,.int .i64 0]) rfl rfl (by simp [Value.oneCell']) ?_;intro w4 hrw4 hgw4 hsw4;have R9:=hide hrw4;have hbw4:=below_stored' hgw4;replace HB:=hide (HB.out.trans (hbw4.mono (by omega)));replace HW:=hide (HW.out.below hbw4);replace R2:=hide (R2.out.on hbw4);have hzhbw4:=hbw4.size;clear hrw4 hgw4 hsw4 hbw4)|(go_at_call 9;refine (RParse_e (s:=s) HSN.out _).mono ?_;rintro ew5 w5 ⟨rfl,hbw5⟩;replace HB:=hide (HB.out.trans (hbw5.mono (by omega)));replace HW:=hide (HW.out.below hbw5);replace R2:=hide (R2.out.on hbw5);replace R9:=hide (R9.out.on hbw5);have hzhbw5:=hbw5.size;clear hbw5)|(refine wpList_storeW rfl 23 (.tmp 11) (.tmp 39) rfl 3 ori_size (w5.heap.size) 23 rfl [.int .i64 0,.int .i64 0,.int .i64 0] [.int .i64 x.1,.int .i64 x.2.1,.int .i64 x.2.2] rfl (RowL.new w5 23 [.int .i64 0,.int .i64 0,.int .i64 0]) rfl rfl (by simp [Value.oneCell']) ?_;intro w6 hrw6 hgw6 hsw6;have R11:=hide hrw6;have hbw6:=below_stored' hgw6;replace HB:=hide (HB.out.trans (hbw6.mono (by omega)));replace HW:=hide (HW.out.below hbw6);replace R2:=hide (R2.out.on hbw6);replace R9:=hide (R9.out.on hbw6);have hzhbw6:=hbw6.size;clear hrw6 hgw6 hsw6 hbw6))
   have q9_0:w6.cell? ⟨w3.heap.size,0,none⟩=some (.int .i64 x.1):=R9.out.cell 0
   have q9_1:w6.cell? ⟨w3.heap.size,1,none⟩=some (.int .i64 x.2.1):=R9.out.cell 1
   have q9_2:w6.cell? ⟨w3.heap.size,2,none⟩=some (.int .i64 x.2.2):=R9.out.cell 2
   have q11_0:w6.cell? ⟨w5.heap.size,0,none⟩=some (.int .i64 x.1):=R11.out.cell 0
   have q11_1:w6.cell? ⟨w5.heap.size,1,none⟩=some (.int .i64 x.2.1):=R11.out.cell 1
   have q11_2:w6.cell? ⟨w5.heap.size,2,none⟩=some (.int .i64 x.2.2):=R11.out.cell 2
   go_upto_region 9 with fail
   clear hneq q9_0 q9_1 q9_2 q11_0 q11_1 q11_2
   go_upto_region 11 with (first|(go_at_call 8;refine (HParse_e (s:=t) (by omega) HTN.out _ HW.out).mono ?_;rintro ew7 w7 ⟨rfl,hbw7⟩;replace HB:=hide (HB.out.trans (hbw7.mono (by omega)));replace HW:=hide (HW.out.below hbw7);replace R2:=hide (R2.out.on hbw7);replace R9:=hide (R9.out.on hbw7);replace R11:=hide (R11.out.on hbw7);have hzhbw7:=hbw7.size;clear hbw7)|(refine wpList_storeW rfl 23 (.tmp 13) (.tmp 62) rfl 3 ori_size (w7.heap.size) 23 rfl [.int .i64 0,.int .i64 0,.int .i64 0] [.int .i64 z.1,.int .i64 z.2.1,.int .i64 z.2.2] rfl (RowL.new w7 23 [.int .i64 0,.int .i64 0,.int .i64 0]) rfl rfl (by simp [Value.oneCell']) ?_;intro w8 hrw8 hgw8 hsw8;have R13:=hide hrw8;have hbw8:=below_stored' hgw8;replace HB:=hide (HB.out.trans (hbw8.mono (by omega)));replace HW:=hide (HW.out.below hbw8);replace R2:=hide (R2.out.on hbw8);replace R9:=hide (R9.out.on hbw8);replace R11:=hide (R11.out.on hbw8);have hzhbw8:=hbw8.size;clear hrw8 hgw8 hsw8 hbw8)|(refine wpList_loadW rfl 23 (.tmp 9) rfl 3 ori_agg ori_size (w3.heap.size) 23 rfl [.int .i64 x.1,.int .i64 x.2.1,.int .i64 x.2.2] R9.out rfl ?_)|(go_at_call 6;refine (HName_e (o:=x) HXN.out _ HW.out).mono ?_;rintro ew9 w9 ⟨rfl,hbw9⟩;replace HB:=hide (HB.out.trans (hbw9.mono (by omega)));replace HW:=hide (HW.out.below hbw9);replace R2:=hide (R2.out.on hbw9);replace R9:=hide (R9.out.on hbw9);replace R11:=hide (R11.out.on hbw9);replace R13:=hide (R13.out.on hbw9);have hzhbw9:=hbw9.size;clear hbw9))
   have q13_0:w9.cell? ⟨w7.heap.size,0,none⟩=some (.int .i64 z.1):=R13.out.cell 0
   have q13_1:w9.cell? ⟨w7.heap.size,1,none⟩=some (.int .i64 z.2.1):=R13.out.cell 1
   have q13_2:w9.cell? ⟨w7.heap.size,2,none⟩=some (.int .i64 z.2.2):=R13.out.cell 2
   have q2_0:w9.cell? ⟨w.heap.size,0,none⟩=some (.int .i64 o.1):=R2.out.cell 0
   have q2_1:w9.cell? ⟨w.heap.size,1,none⟩=some (.int .i64 o.2.1):=R2.out.cell 1
   have q2_2:w9.cell? ⟨w.heap.size,2,none⟩=some (.int .i64 o.2.2):=R2.out.cell 2
   clear R9 R11 R13 R2 hW1'
   go_wp2_with (first|(go_at_call 5;refine (awake15_any _ HW.out).mono ?_;rintro e98 wz ⟨rfl,hbz⟩;have HBZ:=hide (HB.out.trans (hbz.mono (by have:=HB.out.size;omega)));clear hbz))
   go_ret
   exact LawOk.of HBZ.out
  ·go_upto_region 7 with (first|(refine wpList_loadW rfl 23 (.tmp 2) rfl 3 ori_agg ori_size (w.heap.size) 23 rfl [.int .i64 o.1,.int .i64 o.2.1,.int .i64 o.2.2] R2.out rfl ?_)|(go_at_call 6;refine (HName_e (o:=o) HON.out _ HW.out).mono ?_;rintro ew1 w1 ⟨rfl,hbw1⟩;replace HB:=hide (HB.out.trans (hbw1.mono (by omega)));replace HW:=hide (HW.out.below hbw1);replace R2:=hide (R2.out.on hbw1);have hzhbw1:=hbw1.size;clear hbw1)|(go_at_call 7;refine (RName_e (o:=o) HON.out _).mono ?_;rintro ew2 w2 ⟨rfl,hbw2⟩;replace HB:=hide (HB.out.trans (hbw2.mono (by omega)));replace HW:=hide (HW.out.below hbw2);replace R2:=hide (R2.out.on hbw2);have hzhbw2:=hbw2.size;clear hbw2)|(go_at_call 8;refine (HParse_e (s:=s) (by omega) HSN.out _ HW.out).mono ?_;rintro ew3 w3 ⟨rfl,hbw3⟩;replace HB:=hide (HB.out.trans (hbw3.mono (by omega)));replace HW:=hide (HW.out.below hbw3);replace R2:=hide (R2.out.on hbw3);have hzhbw3:=hbw3.size;clear hbw3)|(refine wpList_storeW rfl 23 (.tmp 9) (.tmp 34) rfl 3 ori_size (w3.heap.size) 23 rfl [.int .i64 0,.int .i64 0,.int .i64 0] [.int .i64 x.1,.int .i64 x.2.1,.int .i64 x.2.2] rfl (RowL.new w3 23 [.int .i64 0,.int .i64 0,.int .i64 0]) rfl rfl (by simp [Value.oneCell']) ?_;intro w4 hrw4 hgw4 hsw4;have R9:=hide hrw4;have hbw4:=below_stored' hgw4;replace HB:=hide (HB.out.trans (hbw4.mono (by omega)));replace HW:=hide (HW.out.below hbw4);replace R2:=hide (R2.out.on hbw4);have hzhbw4:=hbw4.size;clear hrw4 hgw4 hsw4 hbw4)|(go_at_call 9;refine (RParse_e (s:=s) HSN.out _).mono ?_;rintro ew5 w5 ⟨rfl,hbw5⟩;replace HB:=hide (HB.out.trans (hbw5.mono (by omega)));replace HW:=hide (HW.out.below hbw5);replace R2:=hide (R2.out.on hbw5);replace R9:=hide (R9.out.on hbw5);have hzhbw5:=hbw5.size;clear hbw5)|(refine wpList_storeW rfl 23 (.tmp 11) (.tmp 39) rfl 3 ori_size (w5.heap.size) 23 rfl [.int .i64 0,.int .i64 0,.int .i64 0] [.int .i64 x.1,.int .i64 x.2.1,.int .i64 x.2.2] rfl (RowL.new w5 23 [.int .i64 0,.int .i64 0,.int .i64 0]) rfl rfl (by simp [Value.oneCell']) ?_;intro w6 hrw6 hgw6 hsw6;have R11:=hide hrw6;have hbw6:=below_stored' hgw6;replace HB:=hide (HB.out.trans (hbw6.mono (by omega)));replace HW:=hide (HW.out.below hbw6);replace R2:=hide (R2.out.on hbw6);replace R9:=hide (R9.out.on hbw6);have hzhbw6:=hbw6.size;clear hrw6 hgw6 hsw6 hbw6))
   have q9_0:w6.cell? ⟨w3.heap.size,0,none⟩=some (.int .i64 x.1):=R9.out.cell 0
   have q9_1:w6.cell? ⟨w3.heap.size,1,none⟩=some (.int .i64 x.2.1):=R9.out.cell 1
   have q9_2:w6.cell? ⟨w3.heap.size,2,none⟩=some (.int .i64 x.2.2):=R9.out.cell 2
   have q11_0:w6.cell? ⟨w5.heap.size,0,none⟩=some (.int .i64 x.1):=R11.out.cell 0
   have q11_1:w6.cell? ⟨w5.heap.size,1,none⟩=some (.int .i64 x.2.1):=R11.out.cell 1
   have q11_2:w6.cell? ⟨w5.heap.size,2,none⟩=some (.int .i64 x.2.2):=R11.out.cell 2
   go_upto_region 9 with fail
   clear hneq q9_0 q9_1 q9_2 q11_0 q11_1 q11_2
   go_upto_region 11 with (first|(go_at_call 8;refine (HParse_e (s:=t) (by omega) HTN.out _ HW.out).mono ?_;rintro ew7 w7 ⟨rfl,hbw7⟩;replace HB:=hide (HB.out.trans (hbw7.mono (by omega)));replace HW:=hide (HW.out.below hbw7);replace R2:=hide (R2.out.on hbw7);replace R9:=hide (R9.out.on hbw7);replace R11:=hide (R11.out.on hbw7);have hzhbw7:=hbw7.size;clear hbw7)|(refine wpList_storeW rfl 23 (.tmp 13) (.tmp 62) rfl 3 ori_size (w7.heap.size) 23 rfl [.int .i64 0,.int .i64 0,.int .i64 0] [.int .i64 z.1,.int .i64 z.2.1,.int .i64 z.2.2] rfl (RowL.new w7 23 [.int .i64 0,.int .i64 0,.int .i64 0]) rfl rfl (by simp [Value.oneCell']) ?_;intro w8 hrw8 hgw8 hsw8;have R13:=hide hrw8;have hbw8:=below_stored' hgw8;replace HB:=hide (HB.out.trans (hbw8.mono (by omega)));replace HW:=hide (HW.out.below hbw8);replace R2:=hide (R2.out.on hbw8);replace R9:=hide (R9.out.on hbw8);replace R11:=hide (R11.out.on hbw8);have hzhbw8:=hbw8.size;clear hrw8 hgw8 hsw8 hbw8)|(refine wpList_loadW rfl 23 (.tmp 9) rfl 3 ori_agg ori_size (w3.heap.size) 23 rfl [.int .i64 x.1,.int .i64 x.2.1,.int .i64 x.2.2] R9.out rfl ?_)|(go_at_call 6;refine (HName_e (o:=x) HXN.out _ HW.out).mono ?_;rintro ew9 w9 ⟨rfl,hbw9⟩;replace HB:=hide (HB.out.trans (hbw9.mono (by omega)));replace HW:=hide (HW.out.below hbw9);replace R2:=hide (R2.out.on hbw9);replace R9:=hide (R9.out.on hbw9);replace R11:=hide (R11.out.on hbw9);replace R13:=hide (R13.out.on hbw9);have hzhbw9:=hbw9.size;clear hbw9))
   have q13_0:w9.cell? ⟨w7.heap.size,0,none⟩=some (.int .i64 z.1):=R13.out.cell 0
   have q13_1:w9.cell? ⟨w7.heap.size,1,none⟩=some (.int .i64 z.2.1):=R13.out.cell 1
   have q13_2:w9.cell? ⟨w7.heap.size,2,none⟩=some (.int .i64 z.2.2):=R13.out.cell 2
   have q2_0:w9.cell? ⟨w.heap.size,0,none⟩=some (.int .i64 o.1):=R2.out.cell 0
   have q2_1:w9.cell? ⟨w.heap.size,1,none⟩=some (.int .i64 o.2.1):=R2.out.cell 1
   have q2_2:w9.cell? ⟨w.heap.size,2,none⟩=some (.int .i64 o.2.2):=R2.out.cell 2
   clear R9 R11 R13 R2 hW1'
   go_wp2_with (first|(go_at_call 5;refine (awake15_any _ HW.out).mono ?_;rintro e98 wz ⟨rfl,hbz⟩;have HBZ:=hide (HB.out.trans (hbz.mono (by have:=HB.out.size;omega)));clear hbz))
   go_ret
   exact LawOk.of HBZ.out
  ·go_upto_region 7 with (first|(refine wpList_loadW rfl 23 (.tmp 2) rfl 3 ori_agg ori_size (w.heap.size) 23 rfl [.int .i64 o.1,.int .i64 o.2.1,.int .i64 o.2.2] R2.out rfl ?_)|(go_at_call 6;refine (HName_e (o:=o) HON.out _ HW.out).mono ?_;rintro ew1 w1 ⟨rfl,hbw1⟩;replace HB:=hide (HB.out.trans (hbw1.mono (by omega)));replace HW:=hide (HW.out.below hbw1);replace R2:=hide (R2.out.on hbw1);have hzhbw1:=hbw1.size;clear hbw1)|(go_at_call 7;refine (RName_e (o:=o) HON.out _).mono ?_;rintro ew2 w2 ⟨rfl,hbw2⟩;replace HB:=hide (HB.out.trans (hbw2.mono (by omega)));replace HW:=hide (HW.out.below hbw2);replace R2:=hide (R2.out.on hbw2);have hzhbw2:=hbw2.size;clear hbw2)|(go_at_call 8;refine (HParse_e (s:=s) (by omega) HSN.out _ HW.out).mono ?_;rintro ew3 w3 ⟨rfl,hbw3⟩;replace HB:=hide (HB.out.trans (hbw3.mono (by omega)));replace HW:=hide (HW.out.below hbw3);replace R2:=hide (R2.out.on hbw3);have hzhbw3:=hbw3.size;clear hbw3)|(refine wpList_storeW rfl 23 (.tmp 9) (.tmp 34) rfl 3 ori_size (w3.heap.size) 23 rfl [.int .i64 0,.int .i64 0,.int .i64 0] [.int .i64 x.1,.int .i64 x.2.1,.int .i64 x.2.2] rfl (RowL.new w3 23 [.int .i64 0,.int .i64 0,.int .i64 0]) rfl rfl (by simp [Value.oneCell']) ?_;intro w4 hrw4 hgw4 hsw4;have R9:=hide hrw4;have hbw4:=below_stored' hgw4;replace HB:=hide (HB.out.trans (hbw4.mono (by omega)));replace HW:=hide (HW.out.below hbw4);replace R2:=hide (R2.out.on hbw4);have hzhbw4:=hbw4.size;clear hrw4 hgw4 hsw4 hbw4)|(go_at_call 9;refine (RParse_e (s:=s) HSN.out _).mono ?_;rintro ew5 w5 ⟨rfl,hbw5⟩;replace HB:=hide (HB.out.trans (hbw5.mono (by omega)));replace HW:=hide (HW.out.below hbw5);replace R2:=hide (R2.out.on hbw5);replace R9:=hide (R9.out.on hbw5);have hzhbw5:=hbw5.size;clear hbw5)|(refine wpList_storeW rfl 23 (.tmp 11) (.tmp 39) rfl 3 ori_size (w5.heap.size) 23 rfl [.int .i64 0,.int .i64 0,.int .i64 0] [.int .i64 x.1,.int .i64 x.2.1,.int .i64 x.2.2] rfl (RowL.new w5 23 [.int .i64 0,.int .i64 0,.int .i64 0]) rfl rfl (by simp [Value.oneCell']) ?_;intro w6 hrw6 hgw6 hsw6;have R11:=hide hrw6;have hbw6:=below_stored' hgw6;replace HB:=hide (HB.out.trans (hbw6.mono (by omega)));replace HW:=hide (HW.out.below hbw6);replace R2:=hide (R2.out.on hbw6);replace R9:=hide (R9.out.on hbw6);have hzhbw6:=hbw6.size;clear hrw6 hgw6 hsw6 hbw6))
   have q9_0:w6.cell? ⟨w3.heap.size,0,none⟩=some (.int .i64 x.1):=R9.out.cell 0
   have q9_1:w6.cell? ⟨w3.heap.size,1,none⟩=some (.int .i64 x.2.1):=R9.out.cell 1
   have q9_2:w6.cell? ⟨w3.heap.size,2,none⟩=some (.int .i64 x.2.2):=R9.out.cell 2
   have q11_0:w6.cell? ⟨w5.heap.size,0,none⟩=some (.int .i64 x.1):=R11.out.cell 0
   have q11_1:w6.cell? ⟨w5.heap.size,1,none⟩=some (.int .i64 x.2.1):=R11.out.cell 1
   have q11_2:w6.cell? ⟨w5.heap.size,2,none⟩=some (.int .i64 x.2.2):=R11.out.cell 2
   go_upto_region 9 with fail
   clear hneq q9_0 q9_1 q9_2 q11_0 q11_1 q11_2
   go_upto_region 11 with (first|(go_at_call 8;refine (HParse_e (s:=t) (by omega) HTN.out _ HW.out).mono ?_;rintro ew7 w7 ⟨rfl,hbw7⟩;replace HB:=hide (HB.out.trans (hbw7.mono (by omega)));replace HW:=hide (HW.out.below hbw7);replace R2:=hide (R2.out.on hbw7);replace R9:=hide (R9.out.on hbw7);replace R11:=hide (R11.out.on hbw7);have hzhbw7:=hbw7.size;clear hbw7)|(refine wpList_storeW rfl 23 (.tmp 13) (.tmp 62) rfl 3 ori_size (w7.heap.size) 23 rfl [.int .i64 0,.int .i64 0,.int .i64 0] [.int .i64 o.1,.int .i64 o.2.1,.int .i64 o.2.2] rfl (RowL.new w7 23 [.int .i64 0,.int .i64 0,.int .i64 0]) rfl rfl (by simp [Value.oneCell']) ?_;intro w8 hrw8 hgw8 hsw8;have R13:=hide hrw8;have hbw8:=below_stored' hgw8;replace HB:=hide (HB.out.trans (hbw8.mono (by omega)));replace HW:=hide (HW.out.below hbw8);replace R2:=hide (R2.out.on hbw8);replace R9:=hide (R9.out.on hbw8);replace R11:=hide (R11.out.on hbw8);have hzhbw8:=hbw8.size;clear hrw8 hgw8 hsw8 hbw8)|(refine wpList_loadW rfl 23 (.tmp 9) rfl 3 ori_agg ori_size (w3.heap.size) 23 rfl [.int .i64 x.1,.int .i64 x.2.1,.int .i64 x.2.2] R9.out rfl ?_)|(go_at_call 6;refine (HName_e (o:=x) HXN.out _ HW.out).mono ?_;rintro ew9 w9 ⟨rfl,hbw9⟩;replace HB:=hide (HB.out.trans (hbw9.mono (by omega)));replace HW:=hide (HW.out.below hbw9);replace R2:=hide (R2.out.on hbw9);replace R9:=hide (R9.out.on hbw9);replace R11:=hide (R11.out.on hbw9);replace R13:=hide (R13.out.on hbw9);have hzhbw9:=hbw9.size;clear hbw9))
   have q13_0:w9.cell? ⟨w7.heap.size,0,none⟩=some (.int .i64 o.1):=R13.out.cell 0
   have q13_1:w9.cell? ⟨w7.heap.size,1,none⟩=some (.int .i64 o.2.1):=R13.out.cell 1
   have q13_2:w9.cell? ⟨w7.heap.size,2,none⟩=some (.int .i64 o.2.2):=R13.out.cell 2
   have q2_0:w9.cell? ⟨w.heap.size,0,none⟩=some (.int .i64 o.1):=R2.out.cell 0
   have q2_1:w9.cell? ⟨w.heap.size,1,none⟩=some (.int .i64 o.2.1):=R2.out.cell 1
   have q2_2:w9.cell? ⟨w.heap.size,2,none⟩=some (.int .i64 o.2.2):=R2.out.cell 2
   clear R9 R11 R13 R2 hW1'
   go_wp2_with (first|(go_at_call 5;refine (awake15_any _ HW.out).mono ?_;rintro e98 wz ⟨rfl,hbz⟩;have HBZ:=hide (HB.out.trans (hbz.mono (by have:=HB.out.size;omega)));clear hbz))
   go_ret
   exact LawOk.of HBZ.out
  ·go_upto_region 7 with (first|(refine wpList_loadW rfl 23 (.tmp 2) rfl 3 ori_agg ori_size (w.heap.size) 23 rfl [.int .i64 o.1,.int .i64 o.2.1,.int .i64 o.2.2] R2.out rfl ?_)|(go_at_call 6;refine (HName_e (o:=o) HON.out _ HW.out).mono ?_;rintro ew1 w1 ⟨rfl,hbw1⟩;replace HB:=hide (HB.out.trans (hbw1.mono (by omega)));replace HW:=hide (HW.out.below hbw1);replace R2:=hide (R2.out.on hbw1);have hzhbw1:=hbw1.size;clear hbw1)|(go_at_call 7;refine (RName_e (o:=o) HON.out _).mono ?_;rintro ew2 w2 ⟨rfl,hbw2⟩;replace HB:=hide (HB.out.trans (hbw2.mono (by omega)));replace HW:=hide (HW.out.below hbw2);replace R2:=hide (R2.out.on hbw2);have hzhbw2:=hbw2.size;clear hbw2)|(go_at_call 8;refine (HParse_e (s:=s) (by omega) HSN.out _ HW.out).mono ?_;rintro ew3 w3 ⟨rfl,hbw3⟩;replace HB:=hide (HB.out.trans (hbw3.mono (by omega)));replace HW:=hide (HW.out.below hbw3);replace R2:=hide (R2.out.on hbw3);have hzhbw3:=hbw3.size;clear hbw3)|(refine wpList_storeW rfl 23 (.tmp 9) (.tmp 34) rfl 3 ori_size (w3.heap.size) 23 rfl [.int .i64 0,.int .i64 0,.int .i64 0] [.int .i64 x.1,.int .i64 x.2.1,.int .i64 x.2.2] rfl (RowL.new w3 23 [.int .i64 0,.int .i64 0,.int .i64 0]) rfl rfl (by simp [Value.oneCell']) ?_;intro w4 hrw4 hgw4 hsw4;have R9:=hide hrw4;have hbw4:=below_stored' hgw4;replace HB:=hide (HB.out.trans (hbw4.mono (by omega)));replace HW:=hide (HW.out.below hbw4);replace R2:=hide (R2.out.on hbw4);have hzhbw4:=hbw4.size;clear hrw4 hgw4 hsw4 hbw4)|(go_at_call 9;refine (RParse_e (s:=s) HSN.out _).mono ?_;rintro ew5 w5 ⟨rfl,hbw5⟩;replace HB:=hide (HB.out.trans (hbw5.mono (by omega)));replace HW:=hide (HW.out.below hbw5);replace R2:=hide (R2.out.on hbw5);replace R9:=hide (R9.out.on hbw5);have hzhbw5:=hbw5.size;clear hbw5)|(refine wpList_storeW rfl 23 (.tmp 11) (.tmp 39) rfl 3 ori_size (w5.heap.size) 23 rfl [.int .i64 0,.int .i64 0,.int .i64 0] [.int .i64 x.1,.int .i64 x.2.1,.int .i64 x.2.2] rfl (RowL.new w5 23 [.int .i64 0,.int .i64 0,.int .i64 0]) rfl rfl (by simp [Value.oneCell']) ?_;intro w6 hrw6 hgw6 hsw6;have R11:=hide hrw6;have hbw6:=below_stored' hgw6;replace HB:=hide (HB.out.trans (hbw6.mono (by omega)));replace HW:=hide (HW.out.below hbw6);replace R2:=hide (R2.out.on hbw6);replace R9:=hide (R9.out.on hbw6);have hzhbw6:=hbw6.size;clear hrw6 hgw6 hsw6 hbw6))
   have q9_0:w6.cell? ⟨w3.heap.size,0,none⟩=some (.int .i64 x.1):=R9.out.cell 0
   have q9_1:w6.cell? ⟨w3.heap.size,1,none⟩=some (.int .i64 x.2.1):=R9.out.cell 1
   have q9_2:w6.cell? ⟨w3.heap.size,2,none⟩=some (.int .i64 x.2.2):=R9.out.cell 2
   have q11_0:w6.cell? ⟨w5.heap.size,0,none⟩=some (.int .i64 x.1):=R11.out.cell 0
   have q11_1:w6.cell? ⟨w5.heap.size,1,none⟩=some (.int .i64 x.2.1):=R11.out.cell 1
   have q11_2:w6.cell? ⟨w5.heap.size,2,none⟩=some (.int .i64 x.2.2):=R11.out.cell 2
   go_upto_region 9 with fail
   clear hneq q9_0 q9_1 q9_2 q11_0 q11_1 q11_2
   go_upto_region 11 with (first|(go_at_call 8;refine (HParse_e (s:=t) (by omega) HTN.out _ HW.out).mono ?_;rintro ew7 w7 ⟨rfl,hbw7⟩;replace HB:=hide (HB.out.trans (hbw7.mono (by omega)));replace HW:=hide (HW.out.below hbw7);replace R2:=hide (R2.out.on hbw7);replace R9:=hide (R9.out.on hbw7);replace R11:=hide (R11.out.on hbw7);have hzhbw7:=hbw7.size;clear hbw7)|(refine wpList_storeW rfl 23 (.tmp 13) (.tmp 62) rfl 3 ori_size (w7.heap.size) 23 rfl [.int .i64 0,.int .i64 0,.int .i64 0] [.int .i64 o.1,.int .i64 o.2.1,.int .i64 o.2.2] rfl (RowL.new w7 23 [.int .i64 0,.int .i64 0,.int .i64 0]) rfl rfl (by simp [Value.oneCell']) ?_;intro w8 hrw8 hgw8 hsw8;have R13:=hide hrw8;have hbw8:=below_stored' hgw8;replace HB:=hide (HB.out.trans (hbw8.mono (by omega)));replace HW:=hide (HW.out.below hbw8);replace R2:=hide (R2.out.on hbw8);replace R9:=hide (R9.out.on hbw8);replace R11:=hide (R11.out.on hbw8);have hzhbw8:=hbw8.size;clear hrw8 hgw8 hsw8 hbw8)|(refine wpList_loadW rfl 23 (.tmp 9) rfl 3 ori_agg ori_size (w3.heap.size) 23 rfl [.int .i64 x.1,.int .i64 x.2.1,.int .i64 x.2.2] R9.out rfl ?_)|(go_at_call 6;refine (HName_e (o:=x) HXN.out _ HW.out).mono ?_;rintro ew9 w9 ⟨rfl,hbw9⟩;replace HB:=hide (HB.out.trans (hbw9.mono (by omega)));replace HW:=hide (HW.out.below hbw9);replace R2:=hide (R2.out.on hbw9);replace R9:=hide (R9.out.on hbw9);replace R11:=hide (R11.out.on hbw9);replace R13:=hide (R13.out.on hbw9);have hzhbw9:=hbw9.size;clear hbw9))
   have q13_0:w9.cell? ⟨w7.heap.size,0,none⟩=some (.int .i64 o.1):=R13.out.cell 0
   have q13_1:w9.cell? ⟨w7.heap.size,1,none⟩=some (.int .i64 o.2.1):=R13.out.cell 1
   have q13_2:w9.cell? ⟨w7.heap.size,2,none⟩=some (.int .i64 o.2.2):=R13.out.cell 2
   have q2_0:w9.cell? ⟨w.heap.size,0,none⟩=some (.int .i64 o.1):=R2.out.cell 0
   have q2_1:w9.cell? ⟨w.heap.size,1,none⟩=some (.int .i64 o.2.1):=R2.out.cell 1
   have q2_2:w9.cell? ⟨w.heap.size,2,none⟩=some (.int .i64 o.2.2):=R2.out.cell 2
   clear R9 R11 R13 R2 hW1'
   go_wp2_with (first|(go_at_call 5;refine (awake15_any _ HW.out).mono ?_;rintro e98 wz ⟨rfl,hbz⟩;have HBZ:=hide (HB.out.trans (hbz.mono (by have:=HB.out.size;omega)));clear hbz))
   go_ret
   exact LawOk.of HBZ.out
end Go.Proofs.YtnhegahpfacdgaaDoor

