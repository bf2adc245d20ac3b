import Derived.Test.YtfdbhldnohaopaaDoorOt28
import Derived.Test.YtfdbhldnohaopaaDoorOt29

namespace Go.Proofs.YtfdbhldnohaopaaDoor
open Go.RowKit Go.Shelf Plain

theorem bit_is4:∀h:Fin 32,(bits .and .i64 (h.1:Int) 4==4)=decide ((h.1:Int) / 4 % 2=1):=by decide +kernel
theorem bit_is4' {h:Int} (h0:0≤h) (h1:h≤31):(bits .and .i64 h 4==4)=decide (h / 4 % 2=1):=by
 obtain ⟨n,rfl⟩:=Int.eq_ofNat_of_zero_le h0
 exact bit_is4 ⟨n,by omega⟩
theorem bit_is16:∀h:Fin 32,(bits .and .i64 (h.1:Int) 16==16)=decide ((h.1:Int) / 16 % 2=1):=by decide +kernel
theorem bit_is16' {h:Int} (h0:0≤h) (h1:h≤31):(bits .and .i64 h 16==16)=decide (h / 16 % 2=1):=by
 obtain ⟨n,rfl⟩:=Int.eq_ofNat_of_zero_le h0
 exact bit_is16 ⟨n,by omega⟩
theorem ne_dec (a b:Int):decide (a≠b)=(a != b):=by by_cases h:a=b <;> simp [h]
theorem eq_dec (a b:Int):decide (a=b)=(a==b):=by by_cases h:a=b <;> simp [h]
theorem handF_no {ls:List (List NodV)} {o:Int×Int×Int} {y:NodV} (h:handF ls o=(y,false)):y=nod0:=by
 unfold handF at h
 split at h
 ·cases h
 ·cases h;rfl
theorem kind_case (k:Int):((k==1)=true∧(k==2)=false∧(k==3)=false∧(k != 1)=false∧(k != 2)=true∧(k != 3)=true)∨((k==1)=false∧(k==2)=true∧(k==3)=false∧(k != 1)=true∧(k != 2)=false∧(k != 3)=true)∨((k==1)=false∧(k==2)=false∧(k==3)=true∧(k != 1)=true∧(k != 2)=true∧(k != 3)=false)∨((k==1)=false∧(k==2)=false∧(k==3)=false∧(k != 1)=true∧(k != 2)=true∧(k != 3)=true):=by
 by_cases h1:k=1
 ·simp [h1]
 ·by_cases h2:k=2
  ·simp [h2]
  ·by_cases h3:k=3
   ·simp [h3]
   ·simp [h1,h2,h3]
set_option maxRecDepth 100000 in
set_option maxHeartbeats 4000000 in
theorem Odd_any {x:NodV} {D C:Option Addr} {n c m d:Nat} {b:Bool} (hb:oddO x=b) (h0:0≤x.att.h) (h1:x.att.h≤31) (w:World):Calls Tryd.prog 11 #[.agg (nodC x (.slice D n c) (.slice C m d)).toArray] w (BoolB w b):=by
 obtain ⟨W1,hW1⟩:∃W1,(w.alloc (.cells (nodC x (.slice D n c) (.slice C m d)).toArray 37))=W1:=⟨_,rfl⟩
 obtain ⟨r0,hb1,hs1⟩:=rowA1 w _ _ hW1
 have hW1':(w.alloc (.cells #[.int .i64 x.k,.int .i64 x.p,.int .i64 x.n,.int .i64 x.g,.slice D n c,.slice C m d,.int .i64 x.att.h,.int .i64 x.att.o,.string ⟨x.att.r.toArray⟩,.int .i64 x.att.l,.int .i64 x.att.i,.int .i64 x.att.g,.int .i64 x.att.s] 37))=W1:=hW1
 have R1:=hide r0
 have HB:=hide hb1
 have hsz0:=hb1.size
 obtain ⟨b1,e1⟩:∃b1,has1 x=b1:=⟨_,rfl⟩
 obtain ⟨b2,e2⟩:∃b2,(x.k != 1)=b2:=⟨_,rfl⟩
 obtain ⟨b3,e3⟩:∃b3,(x.att.o != 121)=b3:=⟨_,rfl⟩
 have hh:=And.intro h0 h1
 have HBT:=hide (show (bits .and .i64 x.att.h 1==1)=b1 from by rw [bit_is1' h0 h1];exact e1)
 have HRT:=hide (show decide (x.att.h % 2=1)=b1 from e1)
 have e:b=(b1&&(b2||b3)):=by
  rw [←hb,←e1,←e2,←e3]
  unfold oddO
  rw [ne_dec,ne_dec]
 subst e
 have q1_0:W1.cell? ⟨w.heap.size,0,none⟩=some (.int .i64 x.k):=R1.out.cell 0
 have q1_7:W1.cell? ⟨w.heap.size,7,none⟩=some (.int .i64 x.att.o):=R1.out.cell 7
 unfold nodC
 clear r0 hb1 hW1 hb e1 h0 h1
 cases b1 <;> cases b2 <;> cases b3
 all_goals go_enter Tryd.func11,Tryd.ntmps11
 all_goals go_wp2_with (first|(refine wpList_loadW rfl 37 (.tmp 1) rfl 13 nod_agg nod_size (w.heap.size) 37 rfl (nodC x (.slice D n c) (.slice C m d)) R1.out rfl ?_))
 all_goals (go_at_call 27;refine (NHas_b HBT.out W1).mono ?_;rintro e1 wH ⟨rfl,hbel⟩;clear q1_0 q1_7;replace HB:=hide (HB.out.trans (hbel.mono HB.out.size));replace R1:=hide (R1.out.on hbel);have hsz2:=hbel.size;have q1_0:wH.cell? ⟨w.heap.size,0,none⟩=some (.int .i64 x.k):=R1.out.cell 0;have q1_7:wH.cell? ⟨w.heap.size,7,none⟩=some (.int .i64 x.att.o):=R1.out.cell 7;clear hbel)
 all_goals go_wp2_with fail
 all_goals go_ret
 all_goals exact BoolB.eq rfl HB.out
set_option maxRecDepth 100000 in
set_option maxHeartbeats 4000000 in
theorem ROdd_any {x:NodV} {D C:Option Addr} {n c m d:Nat} {b:Bool} (hb:oddO x=b) (h0:0≤x.att.h) (h1:x.att.h≤31) (w:World):Calls Tryd.prog 12 #[.agg (nodC x (.slice D n c) (.slice C m d)).toArray] w (BoolB w b):=by
 obtain ⟨W1,hW1⟩:∃W1,(w.alloc (.cells (nodC x (.slice D n c) (.slice C m d)).toArray 37))=W1:=⟨_,rfl⟩
 obtain ⟨r0,hb1,hs1⟩:=rowA1 w _ _ hW1
 have hW1':(w.alloc (.cells #[.int .i64 x.k,.int .i64 x.p,.int .i64 x.n,.int .i64 x.g,.slice D n c,.slice C m d,.int .i64 x.att.h,.int .i64 x.att.o,.string ⟨x.att.r.toArray⟩,.int .i64 x.att.l,.int .i64 x.att.i,.int .i64 x.att.g,.int .i64 x.att.s] 37))=W1:=hW1
 have R1:=hide r0
 have HB:=hide hb1
 have hsz0:=hb1.size
 obtain ⟨b1,e1⟩:∃b1,has1 x=b1:=⟨_,rfl⟩
 obtain ⟨b2,e2⟩:∃b2,(x.k != 1)=b2:=⟨_,rfl⟩
 obtain ⟨b3,e3⟩:∃b3,(x.att.o != 121)=b3:=⟨_,rfl⟩
 have hh:=And.intro h0 h1
 have HBT:=hide (show (bits .and .i64 x.att.h 1==1)=b1 from by rw [bit_is1' h0 h1];exact e1)
 have HRT:=hide (show decide (x.att.h % 2=1)=b1 from e1)
 have e:b=(b1&&(b2||b3)):=by
  rw [←hb,←e1,←e2,←e3]
  unfold oddO
  rw [ne_dec,ne_dec]
 subst e
 have q1_0:W1.cell? ⟨w.heap.size,0,none⟩=some (.int .i64 x.k):=R1.out.cell 0
 have q1_7:W1.cell? ⟨w.heap.size,7,none⟩=some (.int .i64 x.att.o):=R1.out.cell 7
 unfold nodC
 clear r0 hb1 hW1 hb e1 h0 h1
 cases b1 <;> cases b2 <;> cases b3
 all_goals go_enter Tryd.func12,Tryd.ntmps12
 all_goals go_wp2_with (first|(refine wpList_loadC rfl 35 (.tmp 3) rfl 7 att_agg att_size (w.heap.size) 6 37 rfl (nodC x (.slice D n c) (.slice C m d)) (attC x.att) R1.out rfl rfl ?_))
 all_goals (go_at_call 28;refine (RHas_b (a:=x.att) hh.1 hh.2 HRT.out W1).mono ?_;rintro e1 wH ⟨rfl,hbel⟩;clear q1_0 q1_7;replace HB:=hide (HB.out.trans (hbel.mono HB.out.size));replace R1:=hide (R1.out.on hbel);have hsz2:=hbel.size;have q1_0:wH.cell? ⟨w.heap.size,0,none⟩=some (.int .i64 x.k):=R1.out.cell 0;have q1_7:wH.cell? ⟨w.heap.size,7,none⟩=some (.int .i64 x.att.o):=R1.out.cell 7;clear hbel)
 all_goals go_wp2_with fail
 all_goals go_ret
 all_goals exact BoolB.eq rfl HB.out
set_option maxRecDepth 100000 in
set_option maxHeartbeats 16000000 in
theorem Stale_any {g:GeoQ} {AU AL:Option Addr} {nU cU nL cL B:Nat} {up:List NodV} {ls:List (List NodV)} {x:NodV} {D C:Option Addr} {n c m d:Nat} {b:Bool} (hb:staleO ls x=b) (h0:0≤x.att.h) (h1:x.att.h≤31) (w:World) (hu:RdE nodEn w (Under B) AU nU up) (h:RdE layEn w (Under B) AL nL ls) (hB:B≤w.heap.size) (hF:FewL ls) (hup:FewU up):Calls Tryd.prog 13 #[.agg (stkC g (.slice AU nU cU) (.slice AL nL cL)).toArray,.agg (nodC x (.slice D n c) (.slice C m d)).toArray] w (BoolB w b):=by
 obtain ⟨W1,hW1⟩:∃W1,((w.alloc (.cells (stkC g (.slice AU nU cU) (.slice AL nL cL)).toArray 29)).alloc (.cells (nodC x (.slice D n c) (.slice C m d)).toArray 37))=W1:=⟨_,rfl⟩
 obtain ⟨r0,r1,hb1,hs1⟩:=rowA2 w _ _ _ _ hW1
 have hW1':((w.alloc (.cells #[.int .i64 g.a,.int .i64 g.b,.int .i64 g.c,.int .i64 g.d,.slice AU nU cU,.slice AL nL cL] 29)).alloc (.cells #[.int .i64 x.k,.int .i64 x.p,.int .i64 x.n,.int .i64 x.g,.slice D n c,.slice C m d,.int .i64 x.att.h,.int .i64 x.att.o,.string ⟨x.att.r.toArray⟩,.int .i64 x.att.l,.int .i64 x.att.i,.int .i64 x.att.g,.int .i64 x.att.s] 37))=W1:=hW1
 have R2:=hide r0
 have R3:=hide r1
 have HB:=hide hb1
 have hsz0:=hb1.size
 have HU:=hide (hu.under hb1 hB)
 have HL:=hide (h.under hb1 hB)
 have HF:=hide hF
 have HFU:=hide hup
 obtain ⟨b4,e4⟩:∃b4,has4 x=b4:=⟨_,rfl⟩
 obtain ⟨b16,e16⟩:∃b16,has16 x=b16:=⟨_,rfl⟩
 have hh:=And.intro h0 h1
 have HB4:=hide (show (bits .and .i64 x.att.h 4==4)=b4 from by rw [bit_is4' h0 h1];exact e4)
 have HR4:=hide (show decide (x.att.h / 4 % 2=1)=b4 from e4)
 have HB16:=hide (show (bits .and .i64 x.att.h 16==16)=b16 from by rw [bit_is16' h0 h1];exact e16)
 have HR16:=hide (show decide (x.att.h / 16 % 2=1)=b16 from e16)
 obtain ⟨⟨y,r⟩,hH⟩:∃R,handF ls (orgOf x)=R:=⟨_,rfl⟩
 have HH:=hide hH
 have HS:=hide (show b=(b4&&(if x.k=1 then (y.k != 1) else if x.k=2∨x.k=3 then (!r||(y.k==1)) else true)) from by
  rw [←hb]
  unfold staleO
  rw [hH,e4,ne_dec,eq_dec]
  all_goals cases r
  all_goals (first|(rw [handF_no hH];by_cases h1:x.k=1 <;> simp [h1,nod0];done)|simp))
 have q3_0:W1.cell? ⟨w.heap.size+1,0,none⟩=some (.int .i64 x.k):=R3.out.cell 0
 unfold stkC nodC
 clear r0 r1 hb1 hW1 hu h hF hup hb hH h0 h1 e4 e16
 cases b4
 ·go_enter Tryd.func13,Tryd.ntmps13
  go_wp2_with (first|(refine wpList_loadW rfl 37 (.tmp 3) rfl 13 nod_agg nod_size (w.heap.size+1) 37 rfl (nodC x (.slice D n c) (.slice C m d)) R3.out rfl ?_))
  (go_at_call 27;refine (NHas_b (by first|exact HB4.out|exact HB16.out) W1).mono ?_;rintro e1 wH ⟨rfl,hbel⟩;clear q3_0;replace HB:=hide (HB.out.trans (hbel.mono HB.out.size));replace R2:=hide (R2.out.on hbel);replace R3:=hide (R3.out.on hbel);replace HU:=hide (HU.out.under hbel (by omega));replace HL:=hide (HL.out.under hbel (by omega));have hsz2:=hbel.size;have q3_0:wH.cell? ⟨w.heap.size+1,0,none⟩=some (.int .i64 x.k):=R3.out.cell 0;clear hbel)
  go_wp2_with fail
  go_ret
  exact BoolB.eq (by rw [HS.out];rfl) HB.out
 ·go_enter Tryd.func13,Tryd.ntmps13
  go_wp2_with (first|(refine wpList_loadW rfl 37 (.tmp 3) rfl 13 nod_agg nod_size (w.heap.size+1) 37 rfl (nodC x (.slice D n c) (.slice C m d)) R3.out rfl ?_))
  (go_at_call 27;refine (NHas_b (by first|exact HB4.out|exact HB16.out) W1).mono ?_;rintro e1 wH ⟨rfl,hbel⟩;clear q3_0;replace HB:=hide (HB.out.trans (hbel.mono HB.out.size));replace R2:=hide (R2.out.on hbel);replace R3:=hide (R3.out.on hbel);replace HU:=hide (HU.out.under hbel (by omega));replace HL:=hide (HL.out.under hbel (by omega));have hsz2:=hbel.size;have q3_0:wH.cell? ⟨w.heap.size+1,0,none⟩=some (.int .i64 x.k):=R3.out.cell 0;clear hbel)
  go_wp2_with (first|(refine wpList_loadW rfl 29 (.tmp 2) rfl 6 stk_agg stk_size (w.heap.size) 29 rfl (stkC g (.slice AU nU cU) (.slice AL nL cL)) R2.out rfl ?_)|(refine wpList_loadC rfl 33 (.tmp 13) rfl 3 org_agg org_size (w.heap.size+1) 9 37 rfl (nodC x (.slice D n c) (.slice C m d)) (orgC (orgOf x)) R3.out rfl rfl ?_))
  (go_at_call 29;refine (HFind_p HH.out wH HU.out HL.out (by omega) HF.out HFU.out).mono ?_;rintro e3 wF ⟨A7,n7,c7,C7,m7,d7,rfl,h7,hbel⟩;clear h7;clear q3_0;replace HB:=hide (HB.out.trans (hbel.mono HB.out.size));replace R2:=hide (R2.out.on hbel);replace R3:=hide (R3.out.on hbel);replace HU:=hide (HU.out.under hbel (by omega));replace HL:=hide (HL.out.under hbel (by omega));have hsz4:=hbel.size;have q3_0:wF.cell? ⟨w.heap.size+1,0,none⟩=some (.int .i64 x.k):=R3.out.cell 0;clear hbel)
  cases r <;> rcases kind_case x.k with ⟨q1,q2,q3,p1,p2,p3⟩|⟨q1,q2,q3,p1,p2,p3⟩|⟨q1,q2,q3,p1,p2,p3⟩|⟨q1,q2,q3,p1,p2,p3⟩
  all_goals go_wp2_with (first|(refine wpList_storeW rfl 37 (.tmp 5) (.tmp 16) rfl 13 nod_size (wF.heap.size) 37 rfl (nodC nod0 (.slice none 0 0) (.slice none 0 0)) (nodC y (.slice A7 n7 c7) (.slice C7 m7 d7)) rfl (RowL.new wF 37 (nodC nod0 (.slice none 0 0) (.slice none 0 0))) rfl rfl (nodC_one _ _ _ _ _ _ _) ?_;intro wS5 hr5 hg5 hs5;have hzb:=below_stored' hg5;clear q3_0;replace HB:=hide (HB.out.trans (hzb.mono HB.out.size));replace R2:=hide (R2.out.on hzb);replace R3:=hide (R3.out.on hzb);replace HU:=hide (HU.out.under hzb (by omega));replace HL:=hide (HL.out.under hzb (by omega));have hsz6:=hzb.size;have q3_0:wS5.cell? ⟨w.heap.size+1,0,none⟩=some (.int .i64 x.k):=R3.out.cell 0;have R5:=hide hr5;have hlt5:=hr5.lt;have q5_0:wS5.cell? ⟨wF.heap.size,0,none⟩=some (.int .i64 y.k):=R5.out.cell 0;clear hzb hr5;clear hg5 hs5))
  all_goals go_ret
  all_goals exact BoolB.eq (by rw [HS.out];simp only [beq_iff_eq,beq_eq_false_iff_ne] at q1 q2 q3;(first|(simp [q1,q2,q3];done)|simp_all [bne])) HB.out
set_option maxRecDepth 100000 in
set_option maxHeartbeats 16000000 in
theorem RStale_any {g:GeoQ} {AU AL:Option Addr} {nU cU nL cL B:Nat} {up:List NodV} {ls:List (List NodV)} {x:NodV} {D C:Option Addr} {n c m d:Nat} {b:Bool} (hb:staleO ls x=b) (h0:0≤x.att.h) (h1:x.att.h≤31) (w:World) (hu:RdE nodEn w (Under B) AU nU up) (h:RdE layEn w (Under B) AL nL ls) (hB:B≤w.heap.size) (hF:FewL ls) (hup:FewU up):Calls Tryd.prog 14 #[.agg (stkC g (.slice AU nU cU) (.slice AL nL cL)).toArray,.agg (nodC x (.slice D n c) (.slice C m d)).toArray] w (BoolB w b):=by
 obtain ⟨W1,hW1⟩:∃W1,((w.alloc (.cells (stkC g (.slice AU nU cU) (.slice AL nL cL)).toArray 29)).alloc (.cells (nodC x (.slice D n c) (.slice C m d)).toArray 37))=W1:=⟨_,rfl⟩
 obtain ⟨r0,r1,hb1,hs1⟩:=rowA2 w _ _ _ _ hW1
 have hW1':((w.alloc (.cells #[.int .i64 g.a,.int .i64 g.b,.int .i64 g.c,.int .i64 g.d,.slice AU nU cU,.slice AL nL cL] 29)).alloc (.cells #[.int .i64 x.k,.int .i64 x.p,.int .i64 x.n,.int .i64 x.g,.slice D n c,.slice C m d,.int .i64 x.att.h,.int .i64 x.att.o,.string ⟨x.att.r.toArray⟩,.int .i64 x.att.l,.int .i64 x.att.i,.int .i64 x.att.g,.int .i64 x.att.s] 37))=W1:=hW1
 have R2:=hide r0
 have R3:=hide r1
 have HB:=hide hb1
 have hsz0:=hb1.size
 have HU:=hide (hu.under hb1 hB)
 have HL:=hide (h.under hb1 hB)
 have HF:=hide hF
 have HFU:=hide hup
 obtain ⟨b4,e4⟩:∃b4,has4 x=b4:=⟨_,rfl⟩
 obtain ⟨b16,e16⟩:∃b16,has16 x=b16:=⟨_,rfl⟩
 have hh:=And.intro h0 h1
 have HB4:=hide (show (bits .and .i64 x.att.h 4==4)=b4 from by rw [bit_is4' h0 h1];exact e4)
 have HR4:=hide (show decide (x.att.h / 4 % 2=1)=b4 from e4)
 have HB16:=hide (show (bits .and .i64 x.att.h 16==16)=b16 from by rw [bit_is16' h0 h1];exact e16)
 have HR16:=hide (show decide (x.att.h / 16 % 2=1)=b16 from e16)
 obtain ⟨⟨y,r⟩,hH⟩:∃R,handF ls (orgOf x)=R:=⟨_,rfl⟩
 have HH:=hide hH
 have HS:=hide (show b=(b4&&(if x.k=1 then (!r||(y.k != 1)) else if x.k=2∨x.k=3 then (!r||(y.k==1)) else true)) from by
  rw [←hb]
  unfold staleO
  rw [hH,e4,ne_dec,eq_dec]
  all_goals cases r
  all_goals (first|(rw [handF_no hH];by_cases h1:x.k=1 <;> simp [h1,nod0];done)|simp))
 have q3_0:W1.cell? ⟨w.heap.size+1,0,none⟩=some (.int .i64 x.k):=R3.out.cell 0
 unfold stkC nodC
 clear r0 r1 hb1 hW1 hu h hF hup hb hH h0 h1 e4 e16
 cases b4
 ·go_enter Tryd.func14,Tryd.ntmps14
  go_wp2_with (first|(refine wpList_loadC rfl 35 (.tmp 7) rfl 7 att_agg att_size (w.heap.size+1) 6 37 rfl (nodC x (.slice D n c) (.slice C m d)) (attC x.att) R3.out rfl rfl ?_))
  (go_at_call 28;refine (RHasQ_b (a:=x.att) hh.1 hh.2 (by first|exact .inl ⟨rfl,HR4.out⟩|exact .inr ⟨rfl,HR16.out⟩) _).mono ?_;rintro e1 wH ⟨rfl,hbel⟩;clear q3_0;replace HB:=hide (HB.out.trans (hbel.mono HB.out.size));replace R2:=hide (R2.out.on hbel);replace R3:=hide (R3.out.on hbel);replace HU:=hide (HU.out.under hbel (by omega));replace HL:=hide (HL.out.under hbel (by omega));have hsz2:=hbel.size;have q3_0:wH.cell? ⟨w.heap.size+1,0,none⟩=some (.int .i64 x.k):=R3.out.cell 0;clear hbel)
  go_wp2_with fail
  go_ret
  exact BoolB.eq (by rw [HS.out];rfl) HB.out
 ·go_enter Tryd.func14,Tryd.ntmps14
  go_wp2_with (first|(refine wpList_loadC rfl 35 (.tmp 7) rfl 7 att_agg att_size (w.heap.size+1) 6 37 rfl (nodC x (.slice D n c) (.slice C m d)) (attC x.att) R3.out rfl rfl ?_))
  (go_at_call 28;refine (RHasQ_b (a:=x.att) hh.1 hh.2 (by first|exact .inl ⟨rfl,HR4.out⟩|exact .inr ⟨rfl,HR16.out⟩) _).mono ?_;rintro e1 wH ⟨rfl,hbel⟩;clear q3_0;replace HB:=hide (HB.out.trans (hbel.mono HB.out.size));replace R2:=hide (R2.out.on hbel);replace R3:=hide (R3.out.on hbel);replace HU:=hide (HU.out.under hbel (by omega));replace HL:=hide (HL.out.under hbel (by omega));have hsz2:=hbel.size;have q3_0:wH.cell? ⟨w.heap.size+1,0,none⟩=some (.int .i64 x.k):=R3.out.cell 0;clear hbel)
  go_wp2_with (first|(refine wpList_loadW rfl 29 (.tmp 2) rfl 6 stk_agg stk_size (w.heap.size) 29 rfl (stkC g (.slice AU nU cU) (.slice AL nL cL)) R2.out rfl ?_)|(refine wpList_loadC rfl 33 (.tmp 14) rfl 3 org_agg org_size (w.heap.size+1) 9 37 rfl (nodC x (.slice D n c) (.slice C m d)) (orgC (orgOf x)) R3.out rfl rfl ?_))
  (go_at_call 30;refine (RFind15_p HH.out wH HU.out HL.out (by omega) HF.out HFU.out).mono ?_;rintro e3 wF ⟨A7,n7,c7,C7,m7,d7,rfl,h7,hbel⟩;clear h7;clear q3_0;replace HB:=hide (HB.out.trans (hbel.mono HB.out.size));replace R2:=hide (R2.out.on hbel);replace R3:=hide (R3.out.on hbel);replace HU:=hide (HU.out.under hbel (by omega));replace HL:=hide (HL.out.under hbel (by omega));have hsz4:=hbel.size;have q3_0:wF.cell? ⟨w.heap.size+1,0,none⟩=some (.int .i64 x.k):=R3.out.cell 0;clear hbel)
  cases r <;> rcases kind_case x.k with ⟨q1,q2,q3,p1,p2,p3⟩|⟨q1,q2,q3,p1,p2,p3⟩|⟨q1,q2,q3,p1,p2,p3⟩|⟨q1,q2,q3,p1,p2,p3⟩
  all_goals go_wp2_with (first|(refine wpList_storeW rfl 37 (.tmp 5) (.tmp 17) rfl 13 nod_size (wF.heap.size) 37 rfl (nodC nod0 (.slice none 0 0) (.slice none 0 0)) (nodC y (.slice A7 n7 c7) (.slice C7 m7 d7)) rfl (RowL.new wF 37 (nodC nod0 (.slice none 0 0) (.slice none 0 0))) rfl rfl (nodC_one _ _ _ _ _ _ _) ?_;intro wS5 hr5 hg5 hs5;have hzb:=below_stored' hg5;clear q3_0;replace HB:=hide (HB.out.trans (hzb.mono HB.out.size));replace R2:=hide (R2.out.on hzb);replace R3:=hide (R3.out.on hzb);replace HU:=hide (HU.out.under hzb (by omega));replace HL:=hide (HL.out.under hzb (by omega));have hsz6:=hzb.size;have q3_0:wS5.cell? ⟨w.heap.size+1,0,none⟩=some (.int .i64 x.k):=R3.out.cell 0;have R5:=hide hr5;have hlt5:=hr5.lt;have q5_0:wS5.cell? ⟨wF.heap.size,0,none⟩=some (.int .i64 y.k):=R5.out.cell 0;clear hzb hr5;clear hg5 hs5))
  all_goals go_ret
  all_goals exact BoolB.eq (by rw [HS.out];simp only [beq_iff_eq,beq_eq_false_iff_ne] at q1 q2 q3;(first|(simp [q1,q2,q3];done)|simp_all [bne])) HB.out
set_option maxRecDepth 100000 in
set_option maxHeartbeats 16000000 in
theorem Lacks_any {g:GeoQ} {AU AL:Option Addr} {nU cU nL cL B:Nat} {up:List NodV} {ls:List (List NodV)} {x:NodV} {D C:Option Addr} {n c m d:Nat} {b:Bool} (hb:lacksO ls x=b) (h0:0≤x.att.h) (h1:x.att.h≤31) (w:World) (hu:RdE nodEn w (Under B) AU nU up) (h:RdE layEn w (Under B) AL nL ls) (hB:B≤w.heap.size) (hF:FewL ls) (hup:FewU up):Calls Tryd.prog 15 #[.agg (stkC g (.slice AU nU cU) (.slice AL nL cL)).toArray,.agg (nodC x (.slice D n c) (.slice C m d)).toArray] w (BoolB w b):=by
 obtain ⟨W1,hW1⟩:∃W1,((w.alloc (.cells (stkC g (.slice AU nU cU) (.slice AL nL cL)).toArray 29)).alloc (.cells (nodC x (.slice D n c) (.slice C m d)).toArray 37))=W1:=⟨_,rfl⟩
 obtain ⟨r0,r1,hb1,hs1⟩:=rowA2 w _ _ _ _ hW1
 have hW1':((w.alloc (.cells #[.int .i64 g.a,.int .i64 g.b,.int .i64 g.c,.int .i64 g.d,.slice AU nU cU,.slice AL nL cL] 29)).alloc (.cells #[.int .i64 x.k,.int .i64 x.p,.int .i64 x.n,.int .i64 x.g,.slice D n c,.slice C m d,.int .i64 x.att.h,.int .i64 x.att.o,.string ⟨x.att.r.toArray⟩,.int .i64 x.att.l,.int .i64 x.att.i,.int .i64 x.att.g,.int .i64 x.att.s] 37))=W1:=hW1
 have R2:=hide r0
 have R3:=hide r1
 have HB:=hide hb1
 have hsz0:=hb1.size
 have HU:=hide (hu.under hb1 hB)
 have HL:=hide (h.under hb1 hB)
 have HF:=hide hF
 have HFU:=hide hup
 obtain ⟨b4,e4⟩:∃b4,has4 x=b4:=⟨_,rfl⟩
 obtain ⟨b16,e16⟩:∃b16,has16 x=b16:=⟨_,rfl⟩
 have hh:=And.intro h0 h1
 have HB4:=hide (show (bits .and .i64 x.att.h 4==4)=b4 from by rw [bit_is4' h0 h1];exact e4)
 have HR4:=hide (show decide (x.att.h / 4 % 2=1)=b4 from e4)
 have HB16:=hide (show (bits .and .i64 x.att.h 16==16)=b16 from by rw [bit_is16' h0 h1];exact e16)
 have HR16:=hide (show decide (x.att.h / 16 % 2=1)=b16 from e16)
 obtain ⟨⟨y,r⟩,hH⟩:∃R,handF ls (orgOf x)=R:=⟨_,rfl⟩
 have HH:=hide hH
 have HS:=hide (show b=(b16&&((x.k != 2)||!b4||(y.k != 2))) from by
  rw [←hb]
  unfold lacksO
  rw [hH,e4,e16,ne_dec,ne_dec]
  all_goals cases r
  all_goals (first|(rw [handF_no hH];simp [nod0];done)|simp))
 have q3_0:W1.cell? ⟨w.heap.size+1,0,none⟩=some (.int .i64 x.k):=R3.out.cell 0
 have q3_1:W1.cell? ⟨w.heap.size+1,1,none⟩=some (.int .i64 x.p):=R3.out.cell 1
 have q3_2:W1.cell? ⟨w.heap.size+1,2,none⟩=some (.int .i64 x.n):=R3.out.cell 2
 have q3_3:W1.cell? ⟨w.heap.size+1,3,none⟩=some (.int .i64 x.g):=R3.out.cell 3
 have q3_4:W1.cell? ⟨w.heap.size+1,4,none⟩=some (.slice D n c):=R3.out.cell 4
 have q3_5:W1.cell? ⟨w.heap.size+1,5,none⟩=some (.slice C m d):=R3.out.cell 5
 have q3_6:W1.cell? ⟨w.heap.size+1,6,none⟩=some (.int .i64 x.att.h):=R3.out.cell 6
 have q3_7:W1.cell? ⟨w.heap.size+1,7,none⟩=some (.int .i64 x.att.o):=R3.out.cell 7
 have q3_8:W1.cell? ⟨w.heap.size+1,8,none⟩=some (.string ⟨x.att.r.toArray⟩):=R3.out.cell 8
 have q3_9:W1.cell? ⟨w.heap.size+1,9,none⟩=some (.int .i64 x.att.l):=R3.out.cell 9
 have q3_10:W1.cell? ⟨w.heap.size+1,10,none⟩=some (.int .i64 x.att.i):=R3.out.cell 10
 have q3_11:W1.cell? ⟨w.heap.size+1,11,none⟩=some (.int .i64 x.att.g):=R3.out.cell 11
 have q3_12:W1.cell? ⟨w.heap.size+1,12,none⟩=some (.int .i64 x.att.s):=R3.out.cell 12
 unfold stkC nodC
 clear r0 r1 hb1 hW1 hu h hF hup hb hH h0 h1 e4 e16
 cases b16
 ·go_enter Tryd.func15,Tryd.ntmps15
  go_wp2_with (first|(refine wpList_loadW rfl 37 (.tmp 3) rfl 13 nod_agg nod_size (w.heap.size+1) 37 rfl (nodC x (.slice D n c) (.slice C m d)) R3.out rfl ?_))
  (go_at_call 27;refine (NHas_b (by first|exact HB4.out|exact HB16.out) W1).mono ?_;rintro e1 wH ⟨rfl,hbel⟩;clear q3_0 q3_1 q3_2 q3_3 q3_4 q3_5 q3_6 q3_7 q3_8 q3_9 q3_10 q3_11 q3_12;replace HB:=hide (HB.out.trans (hbel.mono HB.out.size));replace R2:=hide (R2.out.on hbel);replace R3:=hide (R3.out.on hbel);replace HU:=hide (HU.out.under hbel (by omega));replace HL:=hide (HL.out.under hbel (by omega));have hsz2:=hbel.size;have q3_0:wH.cell? ⟨w.heap.size+1,0,none⟩=some (.int .i64 x.k):=R3.out.cell 0;have q3_1:wH.cell? ⟨w.heap.size+1,1,none⟩=some (.int .i64 x.p):=R3.out.cell 1;have q3_2:wH.cell? ⟨w.heap.size+1,2,none⟩=some (.int .i64 x.n):=R3.out.cell 2;have q3_3:wH.cell? ⟨w.heap.size+1,3,none⟩=some (.int .i64 x.g):=R3.out.cell 3;have q3_4:wH.cell? ⟨w.heap.size+1,4,none⟩=some (.slice D n c):=R3.out.cell 4;have q3_5:wH.cell? ⟨w.heap.size+1,5,none⟩=some (.slice C m d):=R3.out.cell 5;have q3_6:wH.cell? ⟨w.heap.size+1,6,none⟩=some (.int .i64 x.att.h):=R3.out.cell 6;have q3_7:wH.cell? ⟨w.heap.size+1,7,none⟩=some (.int .i64 x.att.o):=R3.out.cell 7;have q3_8:wH.cell? ⟨w.heap.size+1,8,none⟩=some (.string ⟨x.att.r.toArray⟩):=R3.out.cell 8;have q3_9:wH.cell? ⟨w.heap.size+1,9,none⟩=some (.int .i64 x.att.l):=R3.out.cell 9;have q3_10:wH.cell? ⟨w.heap.size+1,10,none⟩=some (.int .i64 x.att.i):=R3.out.cell 10;have q3_11:wH.cell? ⟨w.heap.size+1,11,none⟩=some (.int .i64 x.att.g):=R3.out.cell 11;have q3_12:wH.cell? ⟨w.heap.size+1,12,none⟩=some (.int .i64 x.att.s):=R3.out.cell 12;clear hbel)
  go_wp2_with fail
  go_ret
  exact BoolB.eq (by rw [HS.out];rfl) HB.out
 ·go_enter Tryd.func15,Tryd.ntmps15
  go_wp2_with (first|(refine wpList_loadW rfl 37 (.tmp 3) rfl 13 nod_agg nod_size (w.heap.size+1) 37 rfl (nodC x (.slice D n c) (.slice C m d)) R3.out rfl ?_))
  (go_at_call 27;refine (NHas_b (by first|exact HB4.out|exact HB16.out) W1).mono ?_;rintro e1 wH ⟨rfl,hbel⟩;clear q3_0 q3_1 q3_2 q3_3 q3_4 q3_5 q3_6 q3_7 q3_8 q3_9 q3_10 q3_11 q3_12;replace HB:=hide (HB.out.trans (hbel.mono HB.out.size));replace R2:=hide (R2.out.on hbel);replace R3:=hide (R3.out.on hbel);replace HU:=hide (HU.out.under hbel (by omega));replace HL:=hide (HL.out.under hbel (by omega));have hsz2:=hbel.size;have q3_0:wH.cell? ⟨w.heap.size+1,0,none⟩=some (.int .i64 x.k):=R3.out.cell 0;have q3_1:wH.cell? ⟨w.heap.size+1,1,none⟩=some (.int .i64 x.p):=R3.out.cell 1;have q3_2:wH.cell? ⟨w.heap.size+1,2,none⟩=some (.int .i64 x.n):=R3.out.cell 2;have q3_3:wH.cell? ⟨w.heap.size+1,3,none⟩=some (.int .i64 x.g):=R3.out.cell 3;have q3_4:wH.cell? ⟨w.heap.size+1,4,none⟩=some (.slice D n c):=R3.out.cell 4;have q3_5:wH.cell? ⟨w.heap.size+1,5,none⟩=some (.slice C m d):=R3.out.cell 5;have q3_6:wH.cell? ⟨w.heap.size+1,6,none⟩=some (.int .i64 x.att.h):=R3.out.cell 6;have q3_7:wH.cell? ⟨w.heap.size+1,7,none⟩=some (.int .i64 x.att.o):=R3.out.cell 7;have q3_8:wH.cell? ⟨w.heap.size+1,8,none⟩=some (.string ⟨x.att.r.toArray⟩):=R3.out.cell 8;have q3_9:wH.cell? ⟨w.heap.size+1,9,none⟩=some (.int .i64 x.att.l):=R3.out.cell 9;have q3_10:wH.cell? ⟨w.heap.size+1,10,none⟩=some (.int .i64 x.att.i):=R3.out.cell 10;have q3_11:wH.cell? ⟨w.heap.size+1,11,none⟩=some (.int .i64 x.att.g):=R3.out.cell 11;have q3_12:wH.cell? ⟨w.heap.size+1,12,none⟩=some (.int .i64 x.att.s):=R3.out.cell 12;clear hbel)
  go_wp2_with (first|(refine wpList_loadW rfl 29 (.tmp 2) rfl 6 stk_agg stk_size (w.heap.size) 29 rfl (stkC g (.slice AU nU cU) (.slice AL nL cL)) R2.out rfl ?_)|(refine wpList_loadC rfl 33 (.tmp 13) rfl 3 org_agg org_size (w.heap.size+1) 9 37 rfl (nodC x (.slice D n c) (.slice C m d)) (orgC (orgOf x)) R3.out rfl rfl ?_))
  (go_at_call 29;refine (HFind_p HH.out wH HU.out HL.out (by omega) HF.out HFU.out).mono ?_;rintro e3 wF ⟨A7,n7,c7,C7,m7,d7,rfl,h7,hbel⟩;clear h7;clear q3_0 q3_1 q3_2 q3_3 q3_4 q3_5 q3_6 q3_7 q3_8 q3_9 q3_10 q3_11 q3_12;replace HB:=hide (HB.out.trans (hbel.mono HB.out.size));replace R2:=hide (R2.out.on hbel);replace R3:=hide (R3.out.on hbel);replace HU:=hide (HU.out.under hbel (by omega));replace HL:=hide (HL.out.under hbel (by omega));have hsz4:=hbel.size;have q3_0:wF.cell? ⟨w.heap.size+1,0,none⟩=some (.int .i64 x.k):=R3.out.cell 0;have q3_1:wF.cell? ⟨w.heap.size+1,1,none⟩=some (.int .i64 x.p):=R3.out.cell 1;have q3_2:wF.cell? ⟨w.heap.size+1,2,none⟩=some (.int .i64 x.n):=R3.out.cell 2;have q3_3:wF.cell? ⟨w.heap.size+1,3,none⟩=some (.int .i64 x.g):=R3.out.cell 3;have q3_4:wF.cell? ⟨w.heap.size+1,4,none⟩=some (.slice D n c):=R3.out.cell 4;have q3_5:wF.cell? ⟨w.heap.size+1,5,none⟩=some (.slice C m d):=R3.out.cell 5;have q3_6:wF.cell? ⟨w.heap.size+1,6,none⟩=some (.int .i64 x.att.h):=R3.out.cell 6;have q3_7:wF.cell? ⟨w.heap.size+1,7,none⟩=some (.int .i64 x.att.o):=R3.out.cell 7;have q3_8:wF.cell? ⟨w.heap.size+1,8,none⟩=some (.string ⟨x.att.r.toArray⟩):=R3.out.cell 8;have q3_9:wF.cell? ⟨w.heap.size+1,9,none⟩=some (.int .i64 x.att.l):=R3.out.cell 9;have q3_10:wF.cell? ⟨w.heap.size+1,10,none⟩=some (.int .i64 x.att.i):=R3.out.cell 10;have q3_11:wF.cell? ⟨w.heap.size+1,11,none⟩=some (.int .i64 x.att.g):=R3.out.cell 11;have q3_12:wF.cell? ⟨w.heap.size+1,12,none⟩=some (.int .i64 x.att.s):=R3.out.cell 12;clear hbel)
  obtain ⟨k2,ek2⟩:∃k2,(x.k != 2)=k2:=⟨_,rfl⟩
  rw [ek2] at HS
  cases k2
  ·cases r <;> cases b4
   all_goals go_wp2_with (first|(refine wpList_storeW rfl 37 (.tmp 5) (.tmp 16) rfl 13 nod_size (wF.heap.size) 37 rfl (nodC nod0 (.slice none 0 0) (.slice none 0 0)) (nodC y (.slice A7 n7 c7) (.slice C7 m7 d7)) rfl (RowL.new wF 37 (nodC nod0 (.slice none 0 0) (.slice none 0 0))) rfl rfl (nodC_one _ _ _ _ _ _ _) ?_;intro wS5 hr5 hg5 hs5;have hzb:=below_stored' hg5;clear q3_0 q3_1 q3_2 q3_3 q3_4 q3_5 q3_6 q3_7 q3_8 q3_9 q3_10 q3_11 q3_12;replace HB:=hide (HB.out.trans (hzb.mono HB.out.size));replace R2:=hide (R2.out.on hzb);replace R3:=hide (R3.out.on hzb);replace HU:=hide (HU.out.under hzb (by omega));replace HL:=hide (HL.out.under hzb (by omega));have hsz6:=hzb.size;have q3_0:wS5.cell? ⟨w.heap.size+1,0,none⟩=some (.int .i64 x.k):=R3.out.cell 0;have q3_1:wS5.cell? ⟨w.heap.size+1,1,none⟩=some (.int .i64 x.p):=R3.out.cell 1;have q3_2:wS5.cell? ⟨w.heap.size+1,2,none⟩=some (.int .i64 x.n):=R3.out.cell 2;have q3_3:wS5.cell? ⟨w.heap.size+1,3,none⟩=some (.int .i64 x.g):=R3.out.cell 3;have q3_4:wS5.cell? ⟨w.heap.size+1,4,none⟩=some (.slice D n c):=R3.out.cell 4;have q3_5:wS5.cell? ⟨w.heap.size+1,5,none⟩=some (.slice C m d):=R3.out.cell 5;have q3_6:wS5.cell? ⟨w.heap.size+1,6,none⟩=some (.int .i64 x.att.h):=R3.out.cell 6;have q3_7:wS5.cell? ⟨w.heap.size+1,7,none⟩=some (.int .i64 x.att.o):=R3.out.cell 7;have q3_8:wS5.cell? ⟨w.heap.size+1,8,none⟩=some (.string ⟨x.att.r.toArray⟩):=R3.out.cell 8;have q3_9:wS5.cell? ⟨w.heap.size+1,9,none⟩=some (.int .i64 x.att.l):=R3.out.cell 9;have q3_10:wS5.cell? ⟨w.heap.size+1,10,none⟩=some (.int .i64 x.att.i):=R3.out.cell 10;have q3_11:wS5.cell? ⟨w.heap.size+1,11,none⟩=some (.int .i64 x.att.g):=R3.out.cell 11;have q3_12:wS5.cell? ⟨w.heap.size+1,12,none⟩=some (.int .i64 x.att.s):=R3.out.cell 12;have R5:=hide hr5;have hlt5:=hr5.lt;have q5_0:wS5.cell? ⟨wF.heap.size,0,none⟩=some (.int .i64 y.k):=R5.out.cell 0;clear hzb hr5;clear hg5 hs5)|(go_at_call 27;refine (NHas_b (by first|exact HB4.out|exact HB16.out) wS5).mono ?_;rintro e7 wH4 ⟨rfl,hbel⟩;clear q3_0 q3_1 q3_2 q3_3 q3_4 q3_5 q3_6 q3_7 q3_8 q3_9 q3_10 q3_11 q3_12 q5_0;replace HB:=hide (HB.out.trans (hbel.mono HB.out.size));replace R2:=hide (R2.out.on hbel);replace R3:=hide (R3.out.on hbel);replace HU:=hide (HU.out.under hbel (by omega));replace HL:=hide (HL.out.under hbel (by omega));replace R5:=hide (R5.out.on hbel);have hsz8:=hbel.size;have q3_0:wH4.cell? ⟨w.heap.size+1,0,none⟩=some (.int .i64 x.k):=R3.out.cell 0;have q3_1:wH4.cell? ⟨w.heap.size+1,1,none⟩=some (.int .i64 x.p):=R3.out.cell 1;have q3_2:wH4.cell? ⟨w.heap.size+1,2,none⟩=some (.int .i64 x.n):=R3.out.cell 2;have q3_3:wH4.cell? ⟨w.heap.size+1,3,none⟩=some (.int .i64 x.g):=R3.out.cell 3;have q3_4:wH4.cell? ⟨w.heap.size+1,4,none⟩=some (.slice D n c):=R3.out.cell 4;have q3_5:wH4.cell? ⟨w.heap.size+1,5,none⟩=some (.slice C m d):=R3.out.cell 5;have q3_6:wH4.cell? ⟨w.heap.size+1,6,none⟩=some (.int .i64 x.att.h):=R3.out.cell 6;have q3_7:wH4.cell? ⟨w.heap.size+1,7,none⟩=some (.int .i64 x.att.o):=R3.out.cell 7;have q3_8:wH4.cell? ⟨w.heap.size+1,8,none⟩=some (.string ⟨x.att.r.toArray⟩):=R3.out.cell 8;have q3_9:wH4.cell? ⟨w.heap.size+1,9,none⟩=some (.int .i64 x.att.l):=R3.out.cell 9;have q3_10:wH4.cell? ⟨w.heap.size+1,10,none⟩=some (.int .i64 x.att.i):=R3.out.cell 10;have q3_11:wH4.cell? ⟨w.heap.size+1,11,none⟩=some (.int .i64 x.att.g):=R3.out.cell 11;have q3_12:wH4.cell? ⟨w.heap.size+1,12,none⟩=some (.int .i64 x.att.s):=R3.out.cell 12;have q5_0:wH4.cell? ⟨wF.heap.size,0,none⟩=some (.int .i64 y.k):=R5.out.cell 0;clear hbel))
   all_goals go_ret
   all_goals exact BoolB.eq (by rw [HS.out];simp) HB.out
  ·cases r <;> cases b4
   all_goals go_wp2_with (first|(refine wpList_storeW rfl 37 (.tmp 5) (.tmp 16) rfl 13 nod_size (wF.heap.size) 37 rfl (nodC nod0 (.slice none 0 0) (.slice none 0 0)) (nodC y (.slice A7 n7 c7) (.slice C7 m7 d7)) rfl (RowL.new wF 37 (nodC nod0 (.slice none 0 0) (.slice none 0 0))) rfl rfl (nodC_one _ _ _ _ _ _ _) ?_;intro wS5 hr5 hg5 hs5;have hzb:=below_stored' hg5;clear q3_0 q3_1 q3_2 q3_3 q3_4 q3_5 q3_6 q3_7 q3_8 q3_9 q3_10 q3_11 q3_12;replace HB:=hide (HB.out.trans (hzb.mono HB.out.size));replace R2:=hide (R2.out.on hzb);replace R3:=hide (R3.out.on hzb);replace HU:=hide (HU.out.under hzb (by omega));replace HL:=hide (HL.out.under hzb (by omega));have hsz6:=hzb.size;have q3_0:wS5.cell? ⟨w.heap.size+1,0,none⟩=some (.int .i64 x.k):=R3.out.cell 0;have q3_1:wS5.cell? ⟨w.heap.size+1,1,none⟩=some (.int .i64 x.p):=R3.out.cell 1;have q3_2:wS5.cell? ⟨w.heap.size+1,2,none⟩=some (.int .i64 x.n):=R3.out.cell 2;have q3_3:wS5.cell? ⟨w.heap.size+1,3,none⟩=some (.int .i64 x.g):=R3.out.cell 3;have q3_4:wS5.cell? ⟨w.heap.size+1,4,none⟩=some (.slice D n c):=R3.out.cell 4;have q3_5:wS5.cell? ⟨w.heap.size+1,5,none⟩=some (.slice C m d):=R3.out.cell 5;have q3_6:wS5.cell? ⟨w.heap.size+1,6,none⟩=some (.int .i64 x.att.h):=R3.out.cell 6;have q3_7:wS5.cell? ⟨w.heap.size+1,7,none⟩=some (.int .i64 x.att.o):=R3.out.cell 7;have q3_8:wS5.cell? ⟨w.heap.size+1,8,none⟩=some (.string ⟨x.att.r.toArray⟩):=R3.out.cell 8;have q3_9:wS5.cell? ⟨w.heap.size+1,9,none⟩=some (.int .i64 x.att.l):=R3.out.cell 9;have q3_10:wS5.cell? ⟨w.heap.size+1,10,none⟩=some (.int .i64 x.att.i):=R3.out.cell 10;have q3_11:wS5.cell? ⟨w.heap.size+1,11,none⟩=some (.int .i64 x.att.g):=R3.out.cell 11;have q3_12:wS5.cell? ⟨w.heap.size+1,12,none⟩=some (.int .i64 x.att.s):=R3.out.cell 12;have R5:=hide hr5;have hlt5:=hr5.lt;have q5_0:wS5.cell? ⟨wF.heap.size,0,none⟩=some (.int .i64 y.k):=R5.out.cell 0;clear hzb hr5;clear hg5 hs5))
   all_goals go_ret
   all_goals exact BoolB.eq (by rw [HS.out];simp) HB.out
set_option maxRecDepth 100000 in
set_option maxHeartbeats 16000000 in
theorem RLacks_any {g:GeoQ} {AU AL:Option Addr} {nU cU nL cL B:Nat} {up:List NodV} {ls:List (List NodV)} {x:NodV} {D C:Option Addr} {n c m d:Nat} {b:Bool} (hb:lacksO ls x=b) (h0:0≤x.att.h) (h1:x.att.h≤31) (w:World) (hu:RdE nodEn w (Under B) AU nU up) (h:RdE layEn w (Under B) AL nL ls) (hB:B≤w.heap.size) (hF:FewL ls) (hup:FewU up):Calls Tryd.prog 16 #[.agg (stkC g (.slice AU nU cU) (.slice AL nL cL)).toArray,.agg (nodC x (.slice D n c) (.slice C m d)).toArray] w (BoolB w b):=by
 obtain ⟨W1,hW1⟩:∃W1,((w.alloc (.cells (stkC g (.slice AU nU cU) (.slice AL nL cL)).toArray 29)).alloc (.cells (nodC x (.slice D n c) (.slice C m d)).toArray 37))=W1:=⟨_,rfl⟩
 obtain ⟨r0,r1,hb1,hs1⟩:=rowA2 w _ _ _ _ hW1
 have hW1':((w.alloc (.cells #[.int .i64 g.a,.int .i64 g.b,.int .i64 g.c,.int .i64 g.d,.slice AU nU cU,.slice AL nL cL] 29)).alloc (.cells #[.int .i64 x.k,.int .i64 x.p,.int .i64 x.n,.int .i64 x.g,.slice D n c,.slice C m d,.int .i64 x.att.h,.int .i64 x.att.o,.string ⟨x.att.r.toArray⟩,.int .i64 x.att.l,.int .i64 x.att.i,.int .i64 x.att.g,.int .i64 x.att.s] 37))=W1:=hW1
 have R2:=hide r0
 have R3:=hide r1
 have HB:=hide hb1
 have hsz0:=hb1.size
 have HU:=hide (hu.under hb1 hB)
 have HL:=hide (h.under hb1 hB)
 have HF:=hide hF
 have HFU:=hide hup
 obtain ⟨b4,e4⟩:∃b4,has4 x=b4:=⟨_,rfl⟩
 obtain ⟨b16,e16⟩:∃b16,has16 x=b16:=⟨_,rfl⟩
 have hh:=And.intro h0 h1
 have HB4:=hide (show (bits .and .i64 x.att.h 4==4)=b4 from by rw [bit_is4' h0 h1];exact e4)
 have HR4:=hide (show decide (x.att.h / 4 % 2=1)=b4 from e4)
 have HB16:=hide (show (bits .and .i64 x.att.h 16==16)=b16 from by rw [bit_is16' h0 h1];exact e16)
 have HR16:=hide (show decide (x.att.h / 16 % 2=1)=b16 from e16)
 obtain ⟨⟨y,r⟩,hH⟩:∃R,handF ls (orgOf x)=R:=⟨_,rfl⟩
 have HH:=hide hH
 have HS:=hide (show b=(b16&&((x.k != 2)||!b4||(!r||(y.k != 2)))) from by
  rw [←hb]
  unfold lacksO
  rw [hH,e4,e16,ne_dec,ne_dec]
  all_goals cases r
  all_goals (first|(rw [handF_no hH];simp [nod0];done)|simp))
 have q3_0:W1.cell? ⟨w.heap.size+1,0,none⟩=some (.int .i64 x.k):=R3.out.cell 0
 have q3_6:W1.cell? ⟨w.heap.size+1,6,none⟩=some (.int .i64 x.att.h):=R3.out.cell 6
 have q3_7:W1.cell? ⟨w.heap.size+1,7,none⟩=some (.int .i64 x.att.o):=R3.out.cell 7
 have q3_8:W1.cell? ⟨w.heap.size+1,8,none⟩=some (.string ⟨x.att.r.toArray⟩):=R3.out.cell 8
 have q3_9:W1.cell? ⟨w.heap.size+1,9,none⟩=some (.int .i64 x.att.l):=R3.out.cell 9
 have q3_10:W1.cell? ⟨w.heap.size+1,10,none⟩=some (.int .i64 x.att.i):=R3.out.cell 10
 have q3_11:W1.cell? ⟨w.heap.size+1,11,none⟩=some (.int .i64 x.att.g):=R3.out.cell 11
 have q3_12:W1.cell? ⟨w.heap.size+1,12,none⟩=some (.int .i64 x.att.s):=R3.out.cell 12
 unfold stkC nodC
 clear r0 r1 hb1 hW1 hu h hF hup hb hH h0 h1 e4 e16
 cases b16
 ·go_enter Tryd.func16,Tryd.ntmps16
  go_wp2_with (first|(refine wpList_loadC rfl 35 (.tmp 7) rfl 7 att_agg att_size (w.heap.size+1) 6 37 rfl (nodC x (.slice D n c) (.slice C m d)) (attC x.att) R3.out rfl rfl ?_))
  (go_at_call 28;refine (RHasQ_b (a:=x.att) hh.1 hh.2 (by first|exact .inl ⟨rfl,HR4.out⟩|exact .inr ⟨rfl,HR16.out⟩) _).mono ?_;rintro e1 wH ⟨rfl,hbel⟩;clear q3_0 q3_6 q3_7 q3_8 q3_9 q3_10 q3_11 q3_12;replace HB:=hide (HB.out.trans (hbel.mono HB.out.size));replace R2:=hide (R2.out.on hbel);replace R3:=hide (R3.out.on hbel);replace HU:=hide (HU.out.under hbel (by omega));replace HL:=hide (HL.out.under hbel (by omega));have hsz2:=hbel.size;have q3_0:wH.cell? ⟨w.heap.size+1,0,none⟩=some (.int .i64 x.k):=R3.out.cell 0;have q3_6:wH.cell? ⟨w.heap.size+1,6,none⟩=some (.int .i64 x.att.h):=R3.out.cell 6;have q3_7:wH.cell? ⟨w.heap.size+1,7,none⟩=some (.int .i64 x.att.o):=R3.out.cell 7;have q3_8:wH.cell? ⟨w.heap.size+1,8,none⟩=some (.string ⟨x.att.r.toArray⟩):=R3.out.cell 8;have q3_9:wH.cell? ⟨w.heap.size+1,9,none⟩=some (.int .i64 x.att.l):=R3.out.cell 9;have q3_10:wH.cell? ⟨w.heap.size+1,10,none⟩=some (.int .i64 x.att.i):=R3.out.cell 10;have q3_11:wH.cell? ⟨w.heap.size+1,11,none⟩=some (.int .i64 x.att.g):=R3.out.cell 11;have q3_12:wH.cell? ⟨w.heap.size+1,12,none⟩=some (.int .i64 x.att.s):=R3.out.cell 12;clear hbel)
  go_wp2_with fail
  go_ret
  exact BoolB.eq (by rw [HS.out];rfl) HB.out
 ·go_enter Tryd.func16,Tryd.ntmps16
  go_wp2_with (first|(refine wpList_loadC rfl 35 (.tmp 7) rfl 7 att_agg att_size (w.heap.size+1) 6 37 rfl (nodC x (.slice D n c) (.slice C m d)) (attC x.att) R3.out rfl rfl ?_))
  (go_at_call 28;refine (RHasQ_b (a:=x.att) hh.1 hh.2 (by first|exact .inl ⟨rfl,HR4.out⟩|exact .inr ⟨rfl,HR16.out⟩) _).mono ?_;rintro e1 wH ⟨rfl,hbel⟩;clear q3_0 q3_6 q3_7 q3_8 q3_9 q3_10 q3_11 q3_12;replace HB:=hide (HB.out.trans (hbel.mono HB.out.size));replace R2:=hide (R2.out.on hbel);replace R3:=hide (R3.out.on hbel);replace HU:=hide (HU.out.under hbel (by omega));replace HL:=hide (HL.out.under hbel (by omega));have hsz2:=hbel.size;have q3_0:wH.cell? ⟨w.heap.size+1,0,none⟩=some (.int .i64 x.k):=R3.out.cell 0;have q3_6:wH.cell? ⟨w.heap.size+1,6,none⟩=some (.int .i64 x.att.h):=R3.out.cell 6;have q3_7:wH.cell? ⟨w.heap.size+1,7,none⟩=some (.int .i64 x.att.o):=R3.out.cell 7;have q3_8:wH.cell? ⟨w.heap.size+1,8,none⟩=some (.string ⟨x.att.r.toArray⟩):=R3.out.cell 8;have q3_9:wH.cell? ⟨w.heap.size+1,9,none⟩=some (.int .i64 x.att.l):=R3.out.cell 9;have q3_10:wH.cell? ⟨w.heap.size+1,10,none⟩=some (.int .i64 x.att.i):=R3.out.cell 10;have q3_11:wH.cell? ⟨w.heap.size+1,11,none⟩=some (.int .i64 x.att.g):=R3.out.cell 11;have q3_12:wH.cell? ⟨w.heap.size+1,12,none⟩=some (.int .i64 x.att.s):=R3.out.cell 12;clear hbel)
  go_wp2_with (first|(refine wpList_loadW rfl 29 (.tmp 2) rfl 6 stk_agg stk_size (w.heap.size) 29 rfl (stkC g (.slice AU nU cU) (.slice AL nL cL)) R2.out rfl ?_)|(refine wpList_loadC rfl 33 (.tmp 14) rfl 3 org_agg org_size (w.heap.size+1) 9 37 rfl (nodC x (.slice D n c) (.slice C m d)) (orgC (orgOf x)) R3.out rfl rfl ?_))
  (go_at_call 30;refine (RFind15_p HH.out wH HU.out HL.out (by omega) HF.out HFU.out).mono ?_;rintro e3 wF ⟨A7,n7,c7,C7,m7,d7,rfl,h7,hbel⟩;clear h7;clear q3_0 q3_6 q3_7 q3_8 q3_9 q3_10 q3_11 q3_12;replace HB:=hide (HB.out.trans (hbel.mono HB.out.size));replace R2:=hide (R2.out.on hbel);replace R3:=hide (R3.out.on hbel);replace HU:=hide (HU.out.under hbel (by omega));replace HL:=hide (HL.out.under hbel (by omega));have hsz4:=hbel.size;have q3_0:wF.cell? ⟨w.heap.size+1,0,none⟩=some (.int .i64 x.k):=R3.out.cell 0;have q3_6:wF.cell? ⟨w.heap.size+1,6,none⟩=some (.int .i64 x.att.h):=R3.out.cell 6;have q3_7:wF.cell? ⟨w.heap.size+1,7,none⟩=some (.int .i64 x.att.o):=R3.out.cell 7;have q3_8:wF.cell? ⟨w.heap.size+1,8,none⟩=some (.string ⟨x.att.r.toArray⟩):=R3.out.cell 8;have q3_9:wF.cell? ⟨w.heap.size+1,9,none⟩=some (.int .i64 x.att.l):=R3.out.cell 9;have q3_10:wF.cell? ⟨w.heap.size+1,10,none⟩=some (.int .i64 x.att.i):=R3.out.cell 10;have q3_11:wF.cell? ⟨w.heap.size+1,11,none⟩=some (.int .i64 x.att.g):=R3.out.cell 11;have q3_12:wF.cell? ⟨w.heap.size+1,12,none⟩=some (.int .i64 x.att.s):=R3.out.cell 12;clear hbel)
  obtain ⟨k2,ek2⟩:∃k2,(x.k != 2)=k2:=⟨_,rfl⟩
  rw [ek2] at HS
  cases k2
  ·cases r <;> cases b4
   all_goals go_wp2_with (first|(refine wpList_storeW rfl 37 (.tmp 5) (.tmp 17) rfl 13 nod_size (wF.heap.size) 37 rfl (nodC nod0 (.slice none 0 0) (.slice none 0 0)) (nodC y (.slice A7 n7 c7) (.slice C7 m7 d7)) rfl (RowL.new wF 37 (nodC nod0 (.slice none 0 0) (.slice none 0 0))) rfl rfl (nodC_one _ _ _ _ _ _ _) ?_;intro wS5 hr5 hg5 hs5;have hzb:=below_stored' hg5;clear q3_0 q3_6 q3_7 q3_8 q3_9 q3_10 q3_11 q3_12;replace HB:=hide (HB.out.trans (hzb.mono HB.out.size));replace R2:=hide (R2.out.on hzb);replace R3:=hide (R3.out.on hzb);replace HU:=hide (HU.out.under hzb (by omega));replace HL:=hide (HL.out.under hzb (by omega));have hsz6:=hzb.size;have q3_0:wS5.cell? ⟨w.heap.size+1,0,none⟩=some (.int .i64 x.k):=R3.out.cell 0;have q3_6:wS5.cell? ⟨w.heap.size+1,6,none⟩=some (.int .i64 x.att.h):=R3.out.cell 6;have q3_7:wS5.cell? ⟨w.heap.size+1,7,none⟩=some (.int .i64 x.att.o):=R3.out.cell 7;have q3_8:wS5.cell? ⟨w.heap.size+1,8,none⟩=some (.string ⟨x.att.r.toArray⟩):=R3.out.cell 8;have q3_9:wS5.cell? ⟨w.heap.size+1,9,none⟩=some (.int .i64 x.att.l):=R3.out.cell 9;have q3_10:wS5.cell? ⟨w.heap.size+1,10,none⟩=some (.int .i64 x.att.i):=R3.out.cell 10;have q3_11:wS5.cell? ⟨w.heap.size+1,11,none⟩=some (.int .i64 x.att.g):=R3.out.cell 11;have q3_12:wS5.cell? ⟨w.heap.size+1,12,none⟩=some (.int .i64 x.att.s):=R3.out.cell 12;have R5:=hide hr5;have hlt5:=hr5.lt;have q5_0:wS5.cell? ⟨wF.heap.size,0,none⟩=some (.int .i64 y.k):=R5.out.cell 0;clear hzb hr5;clear hg5 hs5)|(go_at_call 28;refine (RHasQ_b (a:=x.att) hh.1 hh.2 (by first|exact .inl ⟨rfl,HR4.out⟩|exact .inr ⟨rfl,HR16.out⟩) _).mono ?_;rintro e7 wH4 ⟨rfl,hbel⟩;clear q3_0 q3_6 q3_7 q3_8 q3_9 q3_10 q3_11 q3_12 q5_0;replace HB:=hide (HB.out.trans (hbel.mono HB.out.size));replace R2:=hide (R2.out.on hbel);replace R3:=hide (R3.out.on hbel);replace HU:=hide (HU.out.under hbel (by omega));replace HL:=hide (HL.out.under hbel (by omega));replace R5:=hide (R5.out.on hbel);have hsz8:=hbel.size;have q3_0:wH4.cell? ⟨w.heap.size+1,0,none⟩=some (.int .i64 x.k):=R3.out.cell 0;have q3_6:wH4.cell? ⟨w.heap.size+1,6,none⟩=some (.int .i64 x.att.h):=R3.out.cell 6;have q3_7:wH4.cell? ⟨w.heap.size+1,7,none⟩=some (.int .i64 x.att.o):=R3.out.cell 7;have q3_8:wH4.cell? ⟨w.heap.size+1,8,none⟩=some (.string ⟨x.att.r.toArray⟩):=R3.out.cell 8;have q3_9:wH4.cell? ⟨w.heap.size+1,9,none⟩=some (.int .i64 x.att.l):=R3.out.cell 9;have q3_10:wH4.cell? ⟨w.heap.size+1,10,none⟩=some (.int .i64 x.att.i):=R3.out.cell 10;have q3_11:wH4.cell? ⟨w.heap.size+1,11,none⟩=some (.int .i64 x.att.g):=R3.out.cell 11;have q3_12:wH4.cell? ⟨w.heap.size+1,12,none⟩=some (.int .i64 x.att.s):=R3.out.cell 12;have q5_0:wH4.cell? ⟨wF.heap.size,0,none⟩=some (.int .i64 y.k):=R5.out.cell 0;clear hbel))
   all_goals go_ret
   all_goals exact BoolB.eq (by rw [HS.out];simp) HB.out
  ·cases r <;> cases b4
   all_goals go_wp2_with (first|(refine wpList_storeW rfl 37 (.tmp 5) (.tmp 17) rfl 13 nod_size (wF.heap.size) 37 rfl (nodC nod0 (.slice none 0 0) (.slice none 0 0)) (nodC y (.slice A7 n7 c7) (.slice C7 m7 d7)) rfl (RowL.new wF 37 (nodC nod0 (.slice none 0 0) (.slice none 0 0))) rfl rfl (nodC_one _ _ _ _ _ _ _) ?_;intro wS5 hr5 hg5 hs5;have hzb:=below_stored' hg5;clear q3_0 q3_6 q3_7 q3_8 q3_9 q3_10 q3_11 q3_12;replace HB:=hide (HB.out.trans (hzb.mono HB.out.size));replace R2:=hide (R2.out.on hzb);replace R3:=hide (R3.out.on hzb);replace HU:=hide (HU.out.under hzb (by omega));replace HL:=hide (HL.out.under hzb (by omega));have hsz6:=hzb.size;have q3_0:wS5.cell? ⟨w.heap.size+1,0,none⟩=some (.int .i64 x.k):=R3.out.cell 0;have q3_6:wS5.cell? ⟨w.heap.size+1,6,none⟩=some (.int .i64 x.att.h):=R3.out.cell 6;have q3_7:wS5.cell? ⟨w.heap.size+1,7,none⟩=some (.int .i64 x.att.o):=R3.out.cell 7;have q3_8:wS5.cell? ⟨w.heap.size+1,8,none⟩=some (.string ⟨x.att.r.toArray⟩):=R3.out.cell 8;have q3_9:wS5.cell? ⟨w.heap.size+1,9,none⟩=some (.int .i64 x.att.l):=R3.out.cell 9;have q3_10:wS5.cell? ⟨w.heap.size+1,10,none⟩=some (.int .i64 x.att.i):=R3.out.cell 10;have q3_11:wS5.cell? ⟨w.heap.size+1,11,none⟩=some (.int .i64 x.att.g):=R3.out.cell 11;have q3_12:wS5.cell? ⟨w.heap.size+1,12,none⟩=some (.int .i64 x.att.s):=R3.out.cell 12;have R5:=hide hr5;have hlt5:=hr5.lt;have q5_0:wS5.cell? ⟨wF.heap.size,0,none⟩=some (.int .i64 y.k):=R5.out.cell 0;clear hzb hr5;clear hg5 hs5))
   all_goals go_ret
   all_goals exact BoolB.eq (by rw [HS.out];simp) HB.out
end Go.Proofs.YtfdbhldnohaopaaDoor

