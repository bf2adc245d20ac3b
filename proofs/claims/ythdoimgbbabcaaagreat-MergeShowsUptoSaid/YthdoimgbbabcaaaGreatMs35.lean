import Derived.Test.YthdoimgbbabcaaaGreatMs34
import Derived.Test.YthdoimgbbabcaaaGreatMs31

namespace Go.Proofs.YthdoimgbbabcaaaGreat
open Go.RowKit Go.Shelf Plain

set_option maxRecDepth 100000 in
set_option maxHeartbeats 4000000 in
theorem RNode_any {g:GeoQ} {AU AL:Option Addr} {nU cU nL cL B:Nat} {up:List NodV} {ls:List (List NodV)} {p:Int×Int} {x:NodV} (hx:plAt up ls p=x) (w:World) (hu:RdE nodEn w (Under B) AU nU up) (h:RdE layEn w (Under B) AL nL ls) (hB:B≤w.heap.size) (hF:FewL ls) (hup:FewU up):Calls Tryz.prog 82 #[.agg (stkC g (.slice AU nU cU) (.slice AL nL cL)).toArray,.agg (prC p).toArray] w (NodRet w B x):=by
 obtain ⟨W1,hW1⟩:∃W1,(((w.alloc (.cells (stkC g (.slice AU nU cU) (.slice AL nL cL)).toArray 29)).alloc (.cells (prC p).toArray 49)).alloc (.cells (nodC nod0 (.slice none 0 0) (.slice none 0 0)).toArray 38))=W1:=⟨_,rfl⟩
 obtain ⟨r0,r1,r2,hb1,hs1⟩:=rowA3 w _ _ _ _ _ _ hW1
 have hW1':(((w.alloc (.cells #[.int .i64 g.a,.int .i64 g.b,.int .i64 g.c,.int .i64 g.d,.slice AU nU cU,.slice AL nL cL] 29)).alloc (.cells #[.int .i64 p.1,.int .i64 p.2] 49)).alloc (.cells #[.int .i64 0,.int .i64 0,.int .i64 0,.int .i64 0,.slice none 0 0,.slice none 0 0,.int .i64 0,.int .i64 0,.string ⟨#[]⟩,.int .i64 0,.int .i64 0,.int .i64 0,.int .i64 0] 38))=W1:=hW1
 have R2:=hide r0
 have R3:=hide r1
 have R4:=hide r2
 have HB:=hide hb1
 have hsz0:=hb1.size
 have HU:=hide (hu.under hb1 hB)
 have HL:=hide (h.under hb1 hB)
 have HF:=hide hF
 have HFU:=hide hup
 have q3_0:W1.cell? ⟨w.heap.size+1,0,none⟩=some (.int .i64 p.1):=R3.out.cell 0
 have q2_4:W1.cell? ⟨w.heap.size,4,none⟩=some (.slice AU nU cU):=R2.out.cell 4
 have q3_1:W1.cell? ⟨w.heap.size+1,1,none⟩=some (.int .i64 p.2):=R3.out.cell 1
 unfold stkC prC
 unfold plAt at hx
 by_cases hp:p.1=0
 ·rw [if_pos hp] at hx
  have HX:=hide hx
  have hp1:(p.1==0)=true:=by simpa using hp
  clear r0 r1 r2 hb1 hW1 hu h hF hup hx hp
  go_enter Tryz.func82,Tryz.ntmps82
  go_wp2_with (first|(go_at_call 101;refine (At_e HX.out W1 HU.out (by omega) (by have:=HFU.out.1;omega)).mono ?_;rintro e1 wN ⟨A1,n1,c1,C1,m1,d1,rfl,hn1,hd,hm1,he,hbel⟩;clear q3_0 q2_4 q3_1;replace HB:=hide (HB.out.trans (hbel.mono HB.out.size));replace R2:=hide (R2.out.on hbel);replace R3:=hide (R3.out.on hbel);replace R4:=hide (R4.out.on hbel);replace HU:=hide (HU.out.under hbel (by omega));replace HL:=hide (HL.out.under hbel (by omega));have hsz2:=hbel.size;have q3_0:wN.cell? ⟨w.heap.size+1,0,none⟩=some (.int .i64 p.1):=R3.out.cell 0;have q2_4:wN.cell? ⟨w.heap.size,4,none⟩=some (.slice AU nU cU):=R2.out.cell 4;have q3_1:wN.cell? ⟨w.heap.size+1,1,none⟩=some (.int .i64 p.2):=R3.out.cell 1;have HD:=hide hd;clear hd;have HE:=hide he;clear he;clear hbel)|(refine wpList_storeW rfl 38 (.tmp 4) (.tmp 12) rfl 13 nod_size (w.heap.size+1+1) 38 rfl (nodC nod0 (.slice none 0 0) (.slice none 0 0)) (nodC x (.slice A1 n1 c1) (.slice C1 m1 d1)) rfl R4.out rfl rfl (nodC_one _ _ _ _ _ _ _) ?_;intro wS3 hr3 hg3 hs3;clear q3_0 q2_4 q3_1;replace HB:=hide (HB.out.grown hg3 (by omega) (pu4 (by omega)));replace R2:=hide (R2.out.grown hg3 (pu5 (by omega)));replace R3:=hide (R3.out.grown hg3 (pu5 (by omega)));replace HU:=hide (und_grown HU.out hg3 (by omega) (by omega));replace HL:=hide (und_grown HL.out hg3 (by omega) (by omega));replace HD:=hide (und_grown HD.out hg3 (by omega) (by omega));replace HE:=hide (und_grown HE.out hg3 (by omega) (by omega));have hsz4:=hg3.size;replace R4:=hide hr3;have q3_0:wS3.cell? ⟨w.heap.size+1,0,none⟩=some (.int .i64 p.1):=R3.out.cell 0;have q2_4:wS3.cell? ⟨w.heap.size,4,none⟩=some (.slice AU nU cU):=R2.out.cell 4;have q3_1:wS3.cell? ⟨w.heap.size+1,1,none⟩=some (.int .i64 p.2):=R3.out.cell 1;clear hr3 hg3 hs3))
  exact bodyPost_ret (res_cell Tryz.results82 rfl nod_agg nod_size R4.out rfl) rfl ⟨A1,n1,c1,C1,m1,d1,rfl,hn1,HD.out,hm1,HE.out,HB.out⟩
 ·rw [if_neg hp] at hx
  have HX:=hide hx
  have hp1:(p.1==0)=false:=by simpa using hp
  clear r0 r1 r2 hb1 hW1 hu h hF hup hx hp
  go_enter Tryz.func82,Tryz.ntmps82
  go_wp2_with (first|(refine wpList_loadW rfl 29 (.tmp 2) rfl 6 stk_agg stk_size (w.heap.size) 29 rfl (stkC g (.slice AU nU cU) (.slice AL nL cL)) R2.out rfl ?_)|(refine wpList_loadW rfl 49 (.tmp 3) rfl 2 plc_agg plc_size (w.heap.size+1) 49 rfl (prC p) R3.out rfl ?_)|(go_at_call 131;refine (RLower_e HX.out W1 HL.out (by omega) (by have:=HF.out.1;omega) (fewl_len HF.out)).mono ?_;rintro e1 wN ⟨A1,n1,c1,C1,m1,d1,rfl,hn1,hd,hm1,he,hbel⟩;clear q3_0 q2_4 q3_1;replace HB:=hide (HB.out.trans (hbel.mono HB.out.size));replace R2:=hide (R2.out.on hbel);replace R3:=hide (R3.out.on hbel);replace R4:=hide (R4.out.on hbel);replace HU:=hide (HU.out.under hbel (by omega));replace HL:=hide (HL.out.under hbel (by omega));have hsz2:=hbel.size;have q3_0:wN.cell? ⟨w.heap.size+1,0,none⟩=some (.int .i64 p.1):=R3.out.cell 0;have q2_4:wN.cell? ⟨w.heap.size,4,none⟩=some (.slice AU nU cU):=R2.out.cell 4;have q3_1:wN.cell? ⟨w.heap.size+1,1,none⟩=some (.int .i64 p.2):=R3.out.cell 1;have HD:=hide hd;clear hd;have HE:=hide he;clear he;clear hbel)|(refine wpList_storeW rfl 38 (.tmp 4) (.tmp 15) rfl 13 nod_size (w.heap.size+1+1) 38 rfl (nodC nod0 (.slice none 0 0) (.slice none 0 0)) (nodC x (.slice A1 n1 c1) (.slice C1 m1 d1)) rfl R4.out rfl rfl (nodC_one _ _ _ _ _ _ _) ?_;intro wS3 hr3 hg3 hs3;clear q3_0 q2_4 q3_1;replace HB:=hide (HB.out.grown hg3 (by omega) (pu4 (by omega)));replace R2:=hide (R2.out.grown hg3 (pu5 (by omega)));replace R3:=hide (R3.out.grown hg3 (pu5 (by omega)));replace HU:=hide (und_grown HU.out hg3 (by omega) (by omega));replace HL:=hide (und_grown HL.out hg3 (by omega) (by omega));replace HD:=hide (und_grown HD.out hg3 (by omega) (by omega));replace HE:=hide (und_grown HE.out hg3 (by omega) (by omega));have hsz4:=hg3.size;replace R4:=hide hr3;have q3_0:wS3.cell? ⟨w.heap.size+1,0,none⟩=some (.int .i64 p.1):=R3.out.cell 0;have q2_4:wS3.cell? ⟨w.heap.size,4,none⟩=some (.slice AU nU cU):=R2.out.cell 4;have q3_1:wS3.cell? ⟨w.heap.size+1,1,none⟩=some (.int .i64 p.2):=R3.out.cell 1;clear hr3 hg3 hs3))
  exact bodyPost_ret (res_cell Tryz.results82 rfl nod_agg nod_size R4.out rfl) rfl ⟨A1,n1,c1,C1,m1,d1,rfl,hn1,HD.out,hm1,HE.out,HB.out⟩
theorem find_case (x:NodV) (g:Int):((x.k != 1)=false∧(x.k != 2)=true∧(x.k != 3)=true∧(x.g != g)=false∧(hdl x.k=true∧x.g=g))∨((x.k != 1)=true∧(x.k != 2)=false∧(x.k != 3)=true∧(x.g != g)=false∧(hdl x.k=true∧x.g=g))∨((x.k != 1)=true∧(x.k != 2)=true∧(x.k != 3)=false∧(x.g != g)=false∧(hdl x.k=true∧x.g=g))∨((x.k != 1)=false∧(x.k != 2)=true∧(x.k != 3)=true∧(x.g != g)=true∧¬(hdl x.k=true∧x.g=g))∨((x.k != 1)=true∧(x.k != 2)=false∧(x.k != 3)=true∧(x.g != g)=true∧¬(hdl x.k=true∧x.g=g))∨((x.k != 1)=true∧(x.k != 2)=true∧(x.k != 3)=false∧(x.g != g)=true∧¬(hdl x.k=true∧x.g=g))∨((x.k != 1)=true∧(x.k != 2)=true∧(x.k != 3)=true∧True∧¬(hdl x.k=true∧x.g=g)):=by
 by_cases hg:x.g=g
 ·by_cases h1:x.k=1
  ·simp [hdl,h1,hg]
  ·by_cases h2:x.k=2
   ·simp [hdl,h2,hg]
   ·by_cases h3:x.k=3
    ·simp [hdl,h3,hg]
    ·simp [hdl,h1,h2,h3]
 ·by_cases h1:x.k=1
  ·simp [h1,hg]
  ·by_cases h2:x.k=2
   ·simp [h2,hg]
   ·by_cases h3:x.k=3
    ·simp [h3,hg]
    ·simp [h1,h2,h3,hg]
def HandB (B:Nat) (w:World) (R:NodV×Bool) (e:Ending) (w':World):Prop:=∃A n c C m d,e=.returned (.tuple #[.agg (nodC R.1 (.slice A n c) (.slice C m d)).toArray,.bool R.2])∧RdE Enc.byte w' (Under B) A n R.1.data∧Below w.heap.size w w'
set_option maxRecDepth 100000 in
set_option maxHeartbeats 8000000 in
theorem RFind15_any {g:GeoQ} {AU AL:Option Addr} {nU cU nL cL B:Nat} {up:List NodV} {ls:List (List NodV)} {o:Int×Int×Int} {R:NodV×Bool} (hR:handF ls o=R) (w:World) (hu:RdE nodEn w (Under B) AU nU up) (h:RdE layEn w (Under B) AL nL ls) (hB:B≤w.heap.size) (hF:FewL ls) (hup:FewU up):Calls Tryz.prog 84 #[.agg (stkC g (.slice AU nU cU) (.slice AL nL cL)).toArray,.agg (orgC o).toArray] w (HandB B w R):=by
 obtain ⟨W1,hW1⟩:∃W1,(((w.alloc (.cells (stkC g (.slice AU nU cU) (.slice AL nL cL)).toArray 29)).alloc (.cells (orgC o).toArray 34)).alloc (.cells (nodC nod0 (.slice none 0 0) (.slice none 0 0)).toArray 38))=W1:=⟨_,rfl⟩
 obtain ⟨r0,r1,r2,hb1,hs1⟩:=rowA3 w _ _ _ _ _ _ hW1
 have hW1':(((w.alloc (.cells #[.int .i64 g.a,.int .i64 g.b,.int .i64 g.c,.int .i64 g.d,.slice AU nU cU,.slice AL nL cL] 29)).alloc (.cells #[.int .i64 o.1,.int .i64 o.2.1,.int .i64 o.2.2] 34)).alloc (.cells #[.int .i64 0,.int .i64 0,.int .i64 0,.int .i64 0,.slice none 0 0,.slice none 0 0,.int .i64 0,.int .i64 0,.string ⟨#[]⟩,.int .i64 0,.int .i64 0,.int .i64 0,.int .i64 0] 38))=W1:=hW1
 have R2:=hide r0
 have R3:=hide r1
 have R4:=hide r2
 have HB:=hide hb1
 have hsz0:=hb1.size
 have HU:=hide (hu.under hb1 hB)
 have HL:=hide (h.under hb1 hB)
 have HF:=hide hF
 have HFU:=hide hup
 obtain ⟨x,hx⟩:∃x,lowAt ls o.1 o.2.1=x:=⟨_,rfl⟩
 have HX:=hide hx
 have q3_0:W1.cell? ⟨w.heap.size+1,0,none⟩=some (.int .i64 o.1):=R3.out.cell 0
 have q3_1:W1.cell? ⟨w.heap.size+1,1,none⟩=some (.int .i64 o.2.1):=R3.out.cell 1
 have q3_2:W1.cell? ⟨w.heap.size+1,2,none⟩=some (.int .i64 o.2.2):=R3.out.cell 2
 unfold stkC orgC
 unfold handF at hR
 rw [hx] at hR
 rcases find_case x o.2.2 with ⟨k1,k2,k3,hg1,hc⟩|⟨k1,k2,k3,hg1,hc⟩|⟨k1,k2,k3,hg1,hc⟩|⟨k1,k2,k3,hg1,hc⟩|⟨k1,k2,k3,hg1,hc⟩|⟨k1,k2,k3,hg1,hc⟩|⟨k1,k2,k3,hg1,hc⟩
 all_goals (first|rw [if_pos hc] at hR|rw [if_neg hc] at hR)
 all_goals subst hR
 all_goals clear r0 r1 r2 hb1 hW1 hu h hF hup hx hc
 all_goals go_enter Tryz.func84,Tryz.ntmps84
 all_goals go_wp2_with (first|(refine wpList_loadW rfl 29 (.tmp 2) rfl 6 stk_agg stk_size (w.heap.size) 29 rfl (stkC g (.slice AU nU cU) (.slice AL nL cL)) R2.out rfl ?_)|(go_at_call 131;refine (RLower_e HX.out W1 HL.out (by omega) (by have:=HF.out.1;omega) (fewl_len HF.out)).mono ?_;rintro e1 wN ⟨A1,n1,c1,C1,m1,d1,rfl,hn1,hd,hm1,he,hbel⟩;clear q3_0 q3_1 q3_2;replace HB:=hide (HB.out.trans (hbel.mono HB.out.size));replace R2:=hide (R2.out.on hbel);replace R3:=hide (R3.out.on hbel);replace R4:=hide (R4.out.on hbel);replace HU:=hide (HU.out.under hbel (by omega));replace HL:=hide (HL.out.under hbel (by omega));have hsz2:=hbel.size;have q3_0:wN.cell? ⟨w.heap.size+1,0,none⟩=some (.int .i64 o.1):=R3.out.cell 0;have q3_1:wN.cell? ⟨w.heap.size+1,1,none⟩=some (.int .i64 o.2.1):=R3.out.cell 1;have q3_2:wN.cell? ⟨w.heap.size+1,2,none⟩=some (.int .i64 o.2.2):=R3.out.cell 2;have HD:=hide hd;clear hd;have HE:=hide he;clear he;clear hbel)|(refine wpList_storeW rfl 38 (.tmp 6) (.tmp 13) rfl 13 nod_size (wN.heap.size) 38 rfl (nodC nod0 (.slice none 0 0) (.slice none 0 0)) (nodC x (.slice A1 n1 c1) (.slice C1 m1 d1)) rfl (RowL.new wN 38 (nodC nod0 (.slice none 0 0) (.slice none 0 0))) rfl rfl (nodC_one _ _ _ _ _ _ _) ?_;intro wS3 hr3 hg3 hs3;have hzb:=below_stored' hg3;clear q3_0 q3_1 q3_2;replace HB:=hide (HB.out.trans (hzb.mono HB.out.size));replace R2:=hide (R2.out.on hzb);replace R3:=hide (R3.out.on hzb);replace R4:=hide (R4.out.on hzb);replace HU:=hide (HU.out.under hzb (by omega));replace HL:=hide (HL.out.under hzb (by omega));replace HD:=hide (HD.out.under hzb (by omega));replace HE:=hide (HE.out.under hzb (by omega));have hsz4:=hzb.size;have q3_0:wS3.cell? ⟨w.heap.size+1,0,none⟩=some (.int .i64 o.1):=R3.out.cell 0;have q3_1:wS3.cell? ⟨w.heap.size+1,1,none⟩=some (.int .i64 o.2.1):=R3.out.cell 1;have q3_2:wS3.cell? ⟨w.heap.size+1,2,none⟩=some (.int .i64 o.2.2):=R3.out.cell 2;have R6:=hide hr3;have hlt3:=hr3.lt;have q6_0:wS3.cell? ⟨wN.heap.size,0,none⟩=some (.int .i64 x.k):=R6.out.cell 0;have q6_3:wS3.cell? ⟨wN.heap.size,3,none⟩=some (.int .i64 x.g):=R6.out.cell 3;clear hzb hr3;clear hg3 hs3)|(refine wpList_storeW rfl 38 (.tmp 4) (.tmp 34) rfl 13 nod_size (w.heap.size+1+1) 38 rfl (nodC nod0 (.slice none 0 0) (.slice none 0 0)) (nodC nod0 (.slice none 0 0) (.slice none 0 0)) rfl R4.out rfl rfl (nodC_one _ _ _ _ _ _ _) ?_;intro wS5 hr5 hg5 hs5;clear q3_0 q3_1 q6_0 q6_3 q3_2;replace HB:=hide (HB.out.grown hg5 (by omega) (pu4 (by omega)));replace R2:=hide (R2.out.grown hg5 (pu5 (by omega)));replace R3:=hide (R3.out.grown hg5 (pu5 (by omega)));replace HU:=hide (und_grown HU.out hg5 (by omega) (by omega));replace HL:=hide (und_grown HL.out hg5 (by omega) (by omega));replace HD:=hide (und_grown HD.out hg5 (by omega) (by omega));replace HE:=hide (und_grown HE.out hg5 (by omega) (by omega));replace R6:=hide (R6.out.grown hg5 (pu5 (by omega)));have hsz6:=hg5.size;replace R4:=hide hr5;have q3_0:wS5.cell? ⟨w.heap.size+1,0,none⟩=some (.int .i64 o.1):=R3.out.cell 0;have q3_1:wS5.cell? ⟨w.heap.size+1,1,none⟩=some (.int .i64 o.2.1):=R3.out.cell 1;have q6_0:wS5.cell? ⟨wN.heap.size,0,none⟩=some (.int .i64 x.k):=R6.out.cell 0;have q6_3:wS5.cell? ⟨wN.heap.size,3,none⟩=some (.int .i64 x.g):=R6.out.cell 3;have q3_2:wS5.cell? ⟨w.heap.size+1,2,none⟩=some (.int .i64 o.2.2):=R3.out.cell 2;clear hr5 hg5 hs5)|(refine wpList_loadW rfl 38 (.tmp 6) rfl 13 nod_agg nod_size (wN.heap.size) 38 rfl (nodC x (.slice A1 n1 c1) (.slice C1 m1 d1)) R6.out rfl ?_)|(refine wpList_storeW rfl 38 (.tmp 4) (.tmp 35) rfl 13 nod_size (w.heap.size+1+1) 38 rfl (nodC nod0 (.slice none 0 0) (.slice none 0 0)) (nodC x (.slice A1 n1 c1) (.slice C1 m1 d1)) rfl R4.out rfl rfl (nodC_one _ _ _ _ _ _ _) ?_;intro wS5 hr5 hg5 hs5;clear q3_0 q3_1 q6_0 q6_3 q3_2;replace HB:=hide (HB.out.grown hg5 (by omega) (pu4 (by omega)));replace R2:=hide (R2.out.grown hg5 (pu5 (by omega)));replace R3:=hide (R3.out.grown hg5 (pu5 (by omega)));replace HU:=hide (und_grown HU.out hg5 (by omega) (by omega));replace HL:=hide (und_grown HL.out hg5 (by omega) (by omega));replace HD:=hide (und_grown HD.out hg5 (by omega) (by omega));replace HE:=hide (und_grown HE.out hg5 (by omega) (by omega));replace R6:=hide (R6.out.grown hg5 (pu5 (by omega)));have hsz6:=hg5.size;replace R4:=hide hr5;have q3_0:wS5.cell? ⟨w.heap.size+1,0,none⟩=some (.int .i64 o.1):=R3.out.cell 0;have q3_1:wS5.cell? ⟨w.heap.size+1,1,none⟩=some (.int .i64 o.2.1):=R3.out.cell 1;have q6_0:wS5.cell? ⟨wN.heap.size,0,none⟩=some (.int .i64 x.k):=R6.out.cell 0;have q6_3:wS5.cell? ⟨wN.heap.size,3,none⟩=some (.int .i64 x.g):=R6.out.cell 3;have q3_2:wS5.cell? ⟨w.heap.size+1,2,none⟩=some (.int .i64 o.2.2):=R3.out.cell 2;clear hr5 hg5 hs5))
 all_goals (first|exact bodyPost_ret (res_ct Tryz.results84 rfl rfl nod_agg nod_size R4.out rfl) rfl ⟨A1,n1,c1,C1,m1,d1,rfl,HD.out,HB.out⟩|exact bodyPost_ret (res_ct Tryz.results84 rfl rfl nod_agg nod_size R4.out rfl) rfl ⟨none,0,0,none,0,0,rfl,RdE.none_ _ _ _ _,HB.out⟩)
theorem RFind15_p {g:GeoQ} {AU AL:Option Addr} {nU cU nL cL B:Nat} {up:List NodV} {ls:List (List NodV)} {o:Int×Int×Int} {y:NodV} {r:Bool} (hR:handF ls o=(y,r)) (w:World) (hu:RdE nodEn w (Under B) AU nU up) (h:RdE layEn w (Under B) AL nL ls) (hB:B≤w.heap.size) (hF:FewL ls) (hup:FewU up):Calls Tryz.prog 84 #[.agg (stkC g (.slice AU nU cU) (.slice AL nL cL)).toArray,.agg (orgC o).toArray] w (fun e w'=>∃A n c C m d,e=.returned (.tuple #[.agg (nodC y (.slice A n c) (.slice C m d)).toArray,.bool r])∧RdE Enc.byte w' (Under B) A n y.data∧Below w.heap.size w w'):=RFind15_any hR w hu h hB hF hup
theorem RHasQ_b {a:AttV} {q:Int} {r:Bool} (h0:0≤a.h) (h1:a.h≤31) (hq:(q=4∧decide (a.h / 4 % 2=1)=r)∨(q=16∧decide (a.h / 16 % 2=1)=r)) (w:World):Calls Tryz.prog 83 #[.agg (attC a).toArray,.int .i64 q] w (BoolB w r):=by
 rcases hq with ⟨rfl,hr⟩|⟨rfl,hr⟩
 ·exact RHas4_b h0 h1 hr w
 ·exact RHas16_b h0 h1 hr w
def BytB (B:Nat) (w:World) (l:List UInt8) (e:Ending) (w':World):Prop:=∃A n c,e=.returned (.slice A n c)∧RdE Enc.byte w' (Under B) A n l∧Below w.heap.size w w'
set_option maxRecDepth 100000 in
set_option maxHeartbeats 8000000 in
theorem RMBytes_any {g:GeoQ} {AU AL:Option Addr} {nU cU nL cL B:Nat} {up:List NodV} {ls:List (List NodV)} {p:Int×Int} {l:List UInt8} (hl:bytM up ls p=l) (w:World) (hu:RdE nodEn w (Under B) AU nU up) (h:RdE layEn w (Under B) AL nL ls) (hB:B≤w.heap.size) (hF:FewL ls) (hup:FewU up):Calls Tryz.prog 25 #[.agg (stkC g (.slice AU nU cU) (.slice AL nL cL)).toArray,.agg (prC p).toArray] w (BytB B w l):=by
 obtain ⟨W1,hW1⟩:∃W1,((w.alloc (.cells (stkC g (.slice AU nU cU) (.slice AL nL cL)).toArray 29)).alloc (.cells (prC p).toArray 49))=W1:=⟨_,rfl⟩
 obtain ⟨r0,r1,hb1,hs1⟩:=rowA2 w _ _ _ _ hW1
 have hW1':((w.alloc (.cells #[.int .i64 g.a,.int .i64 g.b,.int .i64 g.c,.int .i64 g.d,.slice AU nU cU,.slice AL nL cL] 29)).alloc (.cells #[.int .i64 p.1,.int .i64 p.2] 49))=W1:=hW1
 have R2:=hide r0
 have R3:=hide r1
 have HB:=hide hb1
 have hsz0:=hb1.size
 have HU:=hide (hu.under hb1 hB)
 have HL:=hide (h.under hb1 hB)
 have HF:=hide hF
 have HFU:=hide hup
 obtain ⟨x,hx⟩:∃x,plAt up ls p=x:=⟨_,rfl⟩
 have HX:=hide hx
 have hh:0≤x.att.h∧x.att.h≤31:=by rw [←hx];unfold plAt;split;exact (nodAt_plain hup.2 _).2.2.1;exact (low_plain hF _ _).2.2.1
 obtain ⟨b16,h16⟩:∃b,decide (x.att.h / 16 % 2=1)=b:=⟨_,rfl⟩
 obtain ⟨b4,h4⟩:∃b,decide (x.att.h / 4 % 2=1)=b:=⟨_,rfl⟩
 have H16:=hide h16
 have H4:=hide h4
 obtain ⟨⟨y,r⟩,hy⟩:∃R,handF ls (orgOf x)=R:=⟨_,rfl⟩
 have HS:=hide hy
 have q3_0:W1.cell? ⟨w.heap.size+1,0,none⟩=some (.int .i64 p.1):=R3.out.cell 0
 unfold stkC prC
 have key:((p.1==0)=false∧x.data=l)∨((p.1==0)=true∧(x.k==2)=false∧x.data=l)∨((p.1==0)=true∧(x.k==2)=true∧b16=false∧x.data=l)∨((p.1==0)=true∧(x.k==2)=true∧b16=true∧b4=false∧x.data=l)∨((p.1==0)=true∧(x.k==2)=true∧b16=true∧b4=true∧r=false∧x.data=l)∨((p.1==0)=true∧(x.k==2)=true∧b16=true∧b4=true∧r=true∧(y.k==2)=false∧x.data=l)∨((p.1==0)=true∧(x.k==2)=true∧b16=true∧b4=true∧r=true∧(y.k==2)=true∧y.data=l):=by
  clear r0 r1 hb1 hW1 hW1' hu h
  unfold bytM at hl
  unfold plAt at hx
  by_cases hp:p.1=0
  ·rw [if_pos hp] at hl hx
   rw [hx] at hl
   unfold srcM metaB at hl
   rw [hy,h16,h4] at hl
   dsimp only at hl
   by_cases hk:x.k=2
   ·cases b16
    ·simp at hl;simp [hp,hk,hl]
    ·cases b4
     ·simp at hl;simp [hp,hk,hl]
     ·cases r
      ·simp at hl;simp [hp,hk,hl]
      ·by_cases hyk:y.k=2
       ·rw [if_pos ⟨hk,rfl,rfl,hyk⟩] at hl;simp [hp,hk,hyk,hl]
       ·rw [if_neg (fun e=>hyk e.2.2.2)] at hl;simp [hp,hk,hyk,hl]
   ·rw [if_neg (fun e=>hk e.1)] at hl;simp [hp,hk,hl]
  ·rw [if_neg hp] at hl hx
   rw [hx] at hl
   simp [hp,hl]
 clear r0 r1 hb1 hW1 hu h hF hup hx hy h16 h4 hl
 rcases key with ⟨hp1,rfl⟩|⟨hp1,hk1,rfl⟩|⟨hp1,hk1,rfl,rfl⟩|⟨hp1,hk1,rfl,rfl,rfl⟩|⟨hp1,hk1,rfl,rfl,rfl,rfl⟩|⟨hp1,hk1,rfl,rfl,rfl,hyk1,rfl⟩|⟨hp1,hk1,rfl,rfl,rfl,hyk1,rfl⟩
 all_goals go_enter Tryz.func25,Tryz.ntmps25
 all_goals go_wp2_with (first|(refine wpList_loadW rfl 29 (.tmp 2) rfl 6 stk_agg stk_size (w.heap.size) 29 rfl (stkC g (.slice AU nU cU) (.slice AL nL cL)) R2.out rfl ?_)|(refine wpList_loadW rfl 49 (.tmp 3) rfl 2 plc_agg plc_size (w.heap.size+1) 49 rfl (prC p) R3.out rfl ?_)|(go_at_call 82;refine (RNode_any HX.out W1 HU.out HL.out (by omega) HF.out HFU.out).mono ?_;rintro e1 wN ⟨A1,n1,c1,C1,m1,d1,rfl,hn1,hd,hm1,he,hbel⟩;clear q3_0;replace HB:=hide (HB.out.trans (hbel.mono HB.out.size));replace R2:=hide (R2.out.on hbel);replace R3:=hide (R3.out.on hbel);replace HU:=hide (HU.out.under hbel (by omega));replace HL:=hide (HL.out.under hbel (by omega));have hsz2:=hbel.size;have q3_0:wN.cell? ⟨w.heap.size+1,0,none⟩=some (.int .i64 p.1):=R3.out.cell 0;have HD:=hide hd;clear hd;have HE:=hide he;clear he;clear hbel)|(refine wpList_storeW rfl 38 (.tmp 5) (.tmp 10) rfl 13 nod_size (wN.heap.size) 38 rfl (nodC nod0 (.slice none 0 0) (.slice none 0 0)) (nodC x (.slice A1 n1 c1) (.slice C1 m1 d1)) rfl (RowL.new wN 38 (nodC nod0 (.slice none 0 0) (.slice none 0 0))) rfl rfl (nodC_one _ _ _ _ _ _ _) ?_;intro wS3 hr3 hg3 hs3;have hzb:=below_stored' hg3;clear q3_0;replace HB:=hide (HB.out.trans (hzb.mono HB.out.size));replace R2:=hide (R2.out.on hzb);replace R3:=hide (R3.out.on hzb);replace HU:=hide (HU.out.under hzb (by omega));replace HL:=hide (HL.out.under hzb (by omega));replace HD:=hide (HD.out.under hzb (by omega));replace HE:=hide (HE.out.under hzb (by omega));have hsz4:=hzb.size;have q3_0:wS3.cell? ⟨w.heap.size+1,0,none⟩=some (.int .i64 p.1):=R3.out.cell 0;have R5:=hide hr3;have hlt3:=hr3.lt;have q5_0:wS3.cell? ⟨wN.heap.size,0,none⟩=some (.int .i64 x.k):=R5.out.cell 0;have q5_6:wS3.cell? ⟨wN.heap.size,6,none⟩=some (.int .i64 x.att.h):=R5.out.cell 6;have q5_7:wS3.cell? ⟨wN.heap.size,7,none⟩=some (.int .i64 x.att.o):=R5.out.cell 7;have q5_8:wS3.cell? ⟨wN.heap.size,8,none⟩=some (.string ⟨x.att.r.toArray⟩):=R5.out.cell 8;have q5_9:wS3.cell? ⟨wN.heap.size,9,none⟩=some (.int .i64 x.att.l):=R5.out.cell 9;have q5_10:wS3.cell? ⟨wN.heap.size,10,none⟩=some (.int .i64 x.att.i):=R5.out.cell 10;have q5_11:wS3.cell? ⟨wN.heap.size,11,none⟩=some (.int .i64 x.att.g):=R5.out.cell 11;have q5_12:wS3.cell? ⟨wN.heap.size,12,none⟩=some (.int .i64 x.att.s):=R5.out.cell 12;have q5_4:wS3.cell? ⟨wN.heap.size,4,none⟩=some (.slice A1 n1 c1):=R5.out.cell 4;clear hzb hr3;clear hg3 hs3)|(go_at_call 83;refine (RHasQ_b (a:=x.att) hh.1 hh.2 (by first|exact .inr ⟨rfl,H16.out⟩|exact .inl ⟨rfl,H4.out⟩) _).mono ?_;rintro e5 w16 ⟨rfl,hbel⟩;clear q3_0 q5_0 q5_6 q5_7 q5_8 q5_9 q5_10 q5_11 q5_12 q5_4;replace HB:=hide (HB.out.trans (hbel.mono HB.out.size));replace R2:=hide (R2.out.on hbel);replace R3:=hide (R3.out.on hbel);replace HU:=hide (HU.out.under hbel (by omega));replace HL:=hide (HL.out.under hbel (by omega));replace HD:=hide (HD.out.under hbel (by omega));replace HE:=hide (HE.out.under hbel (by omega));replace R5:=hide (R5.out.on hbel);have hsz6:=hbel.size;have q3_0:w16.cell? ⟨w.heap.size+1,0,none⟩=some (.int .i64 p.1):=R3.out.cell 0;have q5_0:w16.cell? ⟨wN.heap.size,0,none⟩=some (.int .i64 x.k):=R5.out.cell 0;have q5_6:w16.cell? ⟨wN.heap.size,6,none⟩=some (.int .i64 x.att.h):=R5.out.cell 6;have q5_7:w16.cell? ⟨wN.heap.size,7,none⟩=some (.int .i64 x.att.o):=R5.out.cell 7;have q5_8:w16.cell? ⟨wN.heap.size,8,none⟩=some (.string ⟨x.att.r.toArray⟩):=R5.out.cell 8;have q5_9:w16.cell? ⟨wN.heap.size,9,none⟩=some (.int .i64 x.att.l):=R5.out.cell 9;have q5_10:w16.cell? ⟨wN.heap.size,10,none⟩=some (.int .i64 x.att.i):=R5.out.cell 10;have q5_11:w16.cell? ⟨wN.heap.size,11,none⟩=some (.int .i64 x.att.g):=R5.out.cell 11;have q5_12:w16.cell? ⟨wN.heap.size,12,none⟩=some (.int .i64 x.att.s):=R5.out.cell 12;have q5_4:w16.cell? ⟨wN.heap.size,4,none⟩=some (.slice A1 n1 c1):=R5.out.cell 4;clear hbel)|(refine wpList_loadW rfl 29 (.tmp 2) rfl 6 stk_agg stk_size (w.heap.size) 29 rfl (stkC g (.slice AU nU cU) (.slice AL nL cL)) R2.out rfl ?_)|(refine wpList_loadC rfl 34 (.tmp 32) rfl 3 org_agg org_size (wN.heap.size) 9 38 rfl (nodC x (.slice A1 n1 c1) (.slice C1 m1 d1)) (orgC (orgOf x)) R5.out rfl rfl ?_)|(go_at_call 84;refine (RFind15_p HS.out w16 HU.out HL.out (by omega) HF.out HFU.out).mono ?_;rintro e7 wF ⟨A7,n7,c7,C7,m7,d7,rfl,h7,hbel⟩;clear q3_0 q5_0 q5_6 q5_7 q5_8 q5_9 q5_10 q5_11 q5_12 q5_4;replace HB:=hide (HB.out.trans (hbel.mono HB.out.size));replace R2:=hide (R2.out.on hbel);replace R3:=hide (R3.out.on hbel);replace HU:=hide (HU.out.under hbel (by omega));replace HL:=hide (HL.out.under hbel (by omega));replace HD:=hide (HD.out.under hbel (by omega));replace HE:=hide (HE.out.under hbel (by omega));replace R5:=hide (R5.out.on hbel);have hsz8:=hbel.size;have q3_0:wF.cell? ⟨w.heap.size+1,0,none⟩=some (.int .i64 p.1):=R3.out.cell 0;have q5_0:wF.cell? ⟨wN.heap.size,0,none⟩=some (.int .i64 x.k):=R5.out.cell 0;have q5_6:wF.cell? ⟨wN.heap.size,6,none⟩=some (.int .i64 x.att.h):=R5.out.cell 6;have q5_7:wF.cell? ⟨wN.heap.size,7,none⟩=some (.int .i64 x.att.o):=R5.out.cell 7;have q5_8:wF.cell? ⟨wN.heap.size,8,none⟩=some (.string ⟨x.att.r.toArray⟩):=R5.out.cell 8;have q5_9:wF.cell? ⟨wN.heap.size,9,none⟩=some (.int .i64 x.att.l):=R5.out.cell 9;have q5_10:wF.cell? ⟨wN.heap.size,10,none⟩=some (.int .i64 x.att.i):=R5.out.cell 10;have q5_11:wF.cell? ⟨wN.heap.size,11,none⟩=some (.int .i64 x.att.g):=R5.out.cell 11;have q5_12:wF.cell? ⟨wN.heap.size,12,none⟩=some (.int .i64 x.att.s):=R5.out.cell 12;have q5_4:wF.cell? ⟨wN.heap.size,4,none⟩=some (.slice A1 n1 c1):=R5.out.cell 4;have H7:=hide h7;clear h7;clear hbel)|(refine wpList_storeW rfl 38 (.tmp 6) (.tmp 35) rfl 13 nod_size (wF.heap.size) 38 rfl (nodC nod0 (.slice none 0 0) (.slice none 0 0)) (nodC y (.slice A7 n7 c7) (.slice C7 m7 d7)) rfl (RowL.new wF 38 (nodC nod0 (.slice none 0 0) (.slice none 0 0))) rfl rfl (nodC_one _ _ _ _ _ _ _) ?_;intro wS9 hr9 hg9 hs9;have hzb:=below_stored' hg9;clear q3_0 q5_0 q5_6 q5_7 q5_8 q5_9 q5_10 q5_11 q5_12 q5_4;replace HB:=hide (HB.out.trans (hzb.mono HB.out.size));replace R2:=hide (R2.out.on hzb);replace R3:=hide (R3.out.on hzb);replace HU:=hide (HU.out.under hzb (by omega));replace HL:=hide (HL.out.under hzb (by omega));replace HD:=hide (HD.out.under hzb (by omega));replace HE:=hide (HE.out.under hzb (by omega));replace R5:=hide (R5.out.on hzb);replace H7:=hide (H7.out.under hzb (by omega));have hsz10:=hzb.size;have q3_0:wS9.cell? ⟨w.heap.size+1,0,none⟩=some (.int .i64 p.1):=R3.out.cell 0;have q5_0:wS9.cell? ⟨wN.heap.size,0,none⟩=some (.int .i64 x.k):=R5.out.cell 0;have q5_6:wS9.cell? ⟨wN.heap.size,6,none⟩=some (.int .i64 x.att.h):=R5.out.cell 6;have q5_7:wS9.cell? ⟨wN.heap.size,7,none⟩=some (.int .i64 x.att.o):=R5.out.cell 7;have q5_8:wS9.cell? ⟨wN.heap.size,8,none⟩=some (.string ⟨x.att.r.toArray⟩):=R5.out.cell 8;have q5_9:wS9.cell? ⟨wN.heap.size,9,none⟩=some (.int .i64 x.att.l):=R5.out.cell 9;have q5_10:wS9.cell? ⟨wN.heap.size,10,none⟩=some (.int .i64 x.att.i):=R5.out.cell 10;have q5_11:wS9.cell? ⟨wN.heap.size,11,none⟩=some (.int .i64 x.att.g):=R5.out.cell 11;have q5_12:wS9.cell? ⟨wN.heap.size,12,none⟩=some (.int .i64 x.att.s):=R5.out.cell 12;have q5_4:wS9.cell? ⟨wN.heap.size,4,none⟩=some (.slice A1 n1 c1):=R5.out.cell 4;have R6:=hide hr9;have hlt9:=hr9.lt;have q6_0:wS9.cell? ⟨wF.heap.size,0,none⟩=some (.int .i64 y.k):=R6.out.cell 0;have q6_4:wS9.cell? ⟨wF.heap.size,4,none⟩=some (.slice A7 n7 c7):=R6.out.cell 4;clear hzb hr9;clear hg9 hs9))
 all_goals go_ret
 all_goals (first|exact ⟨A7,n7,c7,rfl,H7.out,HB.out⟩|exact ⟨A1,n1,c1,rfl,HD.out,HB.out⟩)
end Go.Proofs.YthdoimgbbabcaaaGreat

