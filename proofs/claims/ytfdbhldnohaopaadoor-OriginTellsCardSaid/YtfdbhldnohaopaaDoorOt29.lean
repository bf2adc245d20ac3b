import Derived.Test.YtfdbhldnohaopaaDoorOt28

namespace Go.Proofs.YtfdbhldnohaopaaDoor
open Go.RowKit Go.Shelf Plain

theorem find_case (x:NodV) (g:Int):((x.k != 1)=false∧(x.k != 2)=true∧(x.k != 3)=true∧(x.g != g)=false∧(hdl x.k=true∧x.g=g))∨((x.k != 1)=true∧(x.k != 2)=false∧(x.k != 3)=true∧(x.g != g)=false∧(hdl x.k=true∧x.g=g))∨((x.k != 1)=true∧(x.k != 2)=true∧(x.k != 3)=false∧(x.g != g)=false∧(hdl x.k=true∧x.g=g))∨((x.k != 1)=false∧(x.k != 2)=true∧(x.k != 3)=true∧(x.g != g)=true∧¬(hdl x.k=true∧x.g=g))∨((x.k != 1)=true∧(x.k != 2)=false∧(x.k != 3)=true∧(x.g != g)=true∧¬(hdl x.k=true∧x.g=g))∨((x.k != 1)=true∧(x.k != 2)=true∧(x.k != 3)=false∧(x.g != g)=true∧¬(hdl x.k=true∧x.g=g))∨((x.k != 1)=true∧(x.k != 2)=true∧(x.k != 3)=true∧True∧¬(hdl x.k=true∧x.g=g)):=by
 by_cases hg:x.g=g
 ·by_cases h1:x.k=1
  ·simp [hdl,h1,hg]
  ·by_cases h2:x.k=2
   ·simp [hdl,h2,hg]
   ·by_cases h3:x.k=3
    ·simp [hdl,h3,hg]
    ·simp [hdl,h1,h2,h3]
 ·by_cases h1:x.k=1
  ·simp [h1,hg]
  ·by_cases h2:x.k=2
   ·simp [h2,hg]
   ·by_cases h3:x.k=3
    ·simp [h3,hg]
    ·simp [h1,h2,h3,hg]
def HandB (B:Nat) (w:World) (R:NodV×Bool) (e:Ending) (w':World):Prop:=∃A n c C m d,e=.returned (.tuple #[.agg (nodC R.1 (.slice A n c) (.slice C m d)).toArray,.bool R.2])∧RdE Enc.byte w' (Under B) A n R.1.data∧Below w.heap.size w w'
set_option maxRecDepth 100000 in
set_option maxHeartbeats 8000000 in
theorem RFind15_any {g:GeoQ} {AU AL:Option Addr} {nU cU nL cL B:Nat} {up:List NodV} {ls:List (List NodV)} {o:Int×Int×Int} {R:NodV×Bool} (hR:handF ls o=R) (w:World) (hu:RdE nodEn w (Under B) AU nU up) (h:RdE layEn w (Under B) AL nL ls) (hB:B≤w.heap.size) (hF:FewL ls) (hup:FewU up):Calls Tryd.prog 30 #[.agg (stkC g (.slice AU nU cU) (.slice AL nL cL)).toArray,.agg (orgC o).toArray] w (HandB B w R):=by
 obtain ⟨W1,hW1⟩:∃W1,(((w.alloc (.cells (stkC g (.slice AU nU cU) (.slice AL nL cL)).toArray 29)).alloc (.cells (orgC o).toArray 33)).alloc (.cells (nodC nod0 (.slice none 0 0) (.slice none 0 0)).toArray 37))=W1:=⟨_,rfl⟩
 obtain ⟨r0,r1,r2,hb1,hs1⟩:=rowA3 w _ _ _ _ _ _ hW1
 have hW1':(((w.alloc (.cells #[.int .i64 g.a,.int .i64 g.b,.int .i64 g.c,.int .i64 g.d,.slice AU nU cU,.slice AL nL cL] 29)).alloc (.cells #[.int .i64 o.1,.int .i64 o.2.1,.int .i64 o.2.2] 33)).alloc (.cells #[.int .i64 0,.int .i64 0,.int .i64 0,.int .i64 0,.slice none 0 0,.slice none 0 0,.int .i64 0,.int .i64 0,.string ⟨#[]⟩,.int .i64 0,.int .i64 0,.int .i64 0,.int .i64 0] 37))=W1:=hW1
 have R2:=hide r0
 have R3:=hide r1
 have R4:=hide r2
 have HB:=hide hb1
 have hsz0:=hb1.size
 have HU:=hide (hu.under hb1 hB)
 have HL:=hide (h.under hb1 hB)
 have HF:=hide hF
 have HFU:=hide hup
 obtain ⟨x,hx⟩:∃x,lowAt ls o.1 o.2.1=x:=⟨_,rfl⟩
 have HX:=hide hx
 have q3_0:W1.cell? ⟨w.heap.size+1,0,none⟩=some (.int .i64 o.1):=R3.out.cell 0
 have q3_1:W1.cell? ⟨w.heap.size+1,1,none⟩=some (.int .i64 o.2.1):=R3.out.cell 1
 have q3_2:W1.cell? ⟨w.heap.size+1,2,none⟩=some (.int .i64 o.2.2):=R3.out.cell 2
 unfold stkC orgC
 unfold handF at hR
 rw [hx] at hR
 rcases find_case x o.2.2 with ⟨k1,k2,k3,hg1,hc⟩|⟨k1,k2,k3,hg1,hc⟩|⟨k1,k2,k3,hg1,hc⟩|⟨k1,k2,k3,hg1,hc⟩|⟨k1,k2,k3,hg1,hc⟩|⟨k1,k2,k3,hg1,hc⟩|⟨k1,k2,k3,hg1,hc⟩
 all_goals (first|rw [if_pos hc] at hR|rw [if_neg hc] at hR)
 all_goals subst hR
 all_goals clear r0 r1 r2 hb1 hW1 hu h hF hup hx hc
 all_goals go_enter Tryd.func30,Tryd.ntmps30
 all_goals go_wp2_with (first|(refine wpList_loadW rfl 29 (.tmp 2) rfl 6 stk_agg stk_size (w.heap.size) 29 rfl (stkC g (.slice AU nU cU) (.slice AL nL cL)) R2.out rfl ?_)|(go_at_call 46;refine (RLower_e HX.out W1 HL.out (by omega) (by have:=HF.out.1;omega) (fewl_len HF.out)).mono ?_;rintro e1 wN ⟨A1,n1,c1,C1,m1,d1,rfl,hn1,hd,hm1,he,hbel⟩;clear q3_0 q3_1 q3_2;replace HB:=hide (HB.out.trans (hbel.mono HB.out.size));replace R2:=hide (R2.out.on hbel);replace R3:=hide (R3.out.on hbel);replace R4:=hide (R4.out.on hbel);replace HU:=hide (HU.out.under hbel (by omega));replace HL:=hide (HL.out.under hbel (by omega));have hsz2:=hbel.size;have q3_0:wN.cell? ⟨w.heap.size+1,0,none⟩=some (.int .i64 o.1):=R3.out.cell 0;have q3_1:wN.cell? ⟨w.heap.size+1,1,none⟩=some (.int .i64 o.2.1):=R3.out.cell 1;have q3_2:wN.cell? ⟨w.heap.size+1,2,none⟩=some (.int .i64 o.2.2):=R3.out.cell 2;have HD:=hide hd;clear hd;have HE:=hide he;clear he;clear hbel)|(refine wpList_storeW rfl 37 (.tmp 6) (.tmp 13) rfl 13 nod_size (wN.heap.size) 37 rfl (nodC nod0 (.slice none 0 0) (.slice none 0 0)) (nodC x (.slice A1 n1 c1) (.slice C1 m1 d1)) rfl (RowL.new wN 37 (nodC nod0 (.slice none 0 0) (.slice none 0 0))) rfl rfl (nodC_one _ _ _ _ _ _ _) ?_;intro wS3 hr3 hg3 hs3;have hzb:=below_stored' hg3;clear q3_0 q3_1 q3_2;replace HB:=hide (HB.out.trans (hzb.mono HB.out.size));replace R2:=hide (R2.out.on hzb);replace R3:=hide (R3.out.on hzb);replace R4:=hide (R4.out.on hzb);replace HU:=hide (HU.out.under hzb (by omega));replace HL:=hide (HL.out.under hzb (by omega));replace HD:=hide (HD.out.under hzb (by omega));replace HE:=hide (HE.out.under hzb (by omega));have hsz4:=hzb.size;have q3_0:wS3.cell? ⟨w.heap.size+1,0,none⟩=some (.int .i64 o.1):=R3.out.cell 0;have q3_1:wS3.cell? ⟨w.heap.size+1,1,none⟩=some (.int .i64 o.2.1):=R3.out.cell 1;have q3_2:wS3.cell? ⟨w.heap.size+1,2,none⟩=some (.int .i64 o.2.2):=R3.out.cell 2;have R6:=hide hr3;have hlt3:=hr3.lt;have q6_0:wS3.cell? ⟨wN.heap.size,0,none⟩=some (.int .i64 x.k):=R6.out.cell 0;have q6_3:wS3.cell? ⟨wN.heap.size,3,none⟩=some (.int .i64 x.g):=R6.out.cell 3;clear hzb hr3;clear hg3 hs3)|(refine wpList_storeW rfl 37 (.tmp 4) (.tmp 34) rfl 13 nod_size (w.heap.size+1+1) 37 rfl (nodC nod0 (.slice none 0 0) (.slice none 0 0)) (nodC nod0 (.slice none 0 0) (.slice none 0 0)) rfl R4.out rfl rfl (nodC_one _ _ _ _ _ _ _) ?_;intro wS5 hr5 hg5 hs5;clear q3_0 q3_1 q6_0 q6_3 q3_2;replace HB:=hide (HB.out.grown hg5 (by omega) (pu4 (by omega)));replace R2:=hide (R2.out.grown hg5 (pu5 (by omega)));replace R3:=hide (R3.out.grown hg5 (pu5 (by omega)));replace HU:=hide (und_grown HU.out hg5 (by omega) (by omega));replace HL:=hide (und_grown HL.out hg5 (by omega) (by omega));replace HD:=hide (und_grown HD.out hg5 (by omega) (by omega));replace HE:=hide (und_grown HE.out hg5 (by omega) (by omega));replace R6:=hide (R6.out.grown hg5 (pu5 (by omega)));have hsz6:=hg5.size;replace R4:=hide hr5;have q3_0:wS5.cell? ⟨w.heap.size+1,0,none⟩=some (.int .i64 o.1):=R3.out.cell 0;have q3_1:wS5.cell? ⟨w.heap.size+1,1,none⟩=some (.int .i64 o.2.1):=R3.out.cell 1;have q6_0:wS5.cell? ⟨wN.heap.size,0,none⟩=some (.int .i64 x.k):=R6.out.cell 0;have q6_3:wS5.cell? ⟨wN.heap.size,3,none⟩=some (.int .i64 x.g):=R6.out.cell 3;have q3_2:wS5.cell? ⟨w.heap.size+1,2,none⟩=some (.int .i64 o.2.2):=R3.out.cell 2;clear hr5 hg5 hs5)|(refine wpList_loadW rfl 37 (.tmp 6) rfl 13 nod_agg nod_size (wN.heap.size) 37 rfl (nodC x (.slice A1 n1 c1) (.slice C1 m1 d1)) R6.out rfl ?_)|(refine wpList_storeW rfl 37 (.tmp 4) (.tmp 35) rfl 13 nod_size (w.heap.size+1+1) 37 rfl (nodC nod0 (.slice none 0 0) (.slice none 0 0)) (nodC x (.slice A1 n1 c1) (.slice C1 m1 d1)) rfl R4.out rfl rfl (nodC_one _ _ _ _ _ _ _) ?_;intro wS5 hr5 hg5 hs5;clear q3_0 q3_1 q6_0 q6_3 q3_2;replace HB:=hide (HB.out.grown hg5 (by omega) (pu4 (by omega)));replace R2:=hide (R2.out.grown hg5 (pu5 (by omega)));replace R3:=hide (R3.out.grown hg5 (pu5 (by omega)));replace HU:=hide (und_grown HU.out hg5 (by omega) (by omega));replace HL:=hide (und_grown HL.out hg5 (by omega) (by omega));replace HD:=hide (und_grown HD.out hg5 (by omega) (by omega));replace HE:=hide (und_grown HE.out hg5 (by omega) (by omega));replace R6:=hide (R6.out.grown hg5 (pu5 (by omega)));have hsz6:=hg5.size;replace R4:=hide hr5;have q3_0:wS5.cell? ⟨w.heap.size+1,0,none⟩=some (.int .i64 o.1):=R3.out.cell 0;have q3_1:wS5.cell? ⟨w.heap.size+1,1,none⟩=some (.int .i64 o.2.1):=R3.out.cell 1;have q6_0:wS5.cell? ⟨wN.heap.size,0,none⟩=some (.int .i64 x.k):=R6.out.cell 0;have q6_3:wS5.cell? ⟨wN.heap.size,3,none⟩=some (.int .i64 x.g):=R6.out.cell 3;have q3_2:wS5.cell? ⟨w.heap.size+1,2,none⟩=some (.int .i64 o.2.2):=R3.out.cell 2;clear hr5 hg5 hs5))
 all_goals (first|exact bodyPost_ret (res_ct Tryd.results30 rfl rfl nod_agg nod_size R4.out rfl) rfl ⟨A1,n1,c1,C1,m1,d1,rfl,HD.out,HB.out⟩|exact bodyPost_ret (res_ct Tryd.results30 rfl rfl nod_agg nod_size R4.out rfl) rfl ⟨none,0,0,none,0,0,rfl,RdE.none_ _ _ _ _,HB.out⟩)
theorem RFind15_p {g:GeoQ} {AU AL:Option Addr} {nU cU nL cL B:Nat} {up:List NodV} {ls:List (List NodV)} {o:Int×Int×Int} {y:NodV} {r:Bool} (hR:handF ls o=(y,r)) (w:World) (hu:RdE nodEn w (Under B) AU nU up) (h:RdE layEn w (Under B) AL nL ls) (hB:B≤w.heap.size) (hF:FewL ls) (hup:FewU up):Calls Tryd.prog 30 #[.agg (stkC g (.slice AU nU cU) (.slice AL nL cL)).toArray,.agg (orgC o).toArray] w (fun e w'=>∃A n c C m d,e=.returned (.tuple #[.agg (nodC y (.slice A n c) (.slice C m d)).toArray,.bool r])∧RdE Enc.byte w' (Under B) A n y.data∧Below w.heap.size w w'):=RFind15_any hR w hu h hB hF hup
theorem RHasQ_b {a:AttV} {q:Int} {r:Bool} (h0:0≤a.h) (h1:a.h≤31) (hq:(q=4∧decide (a.h / 4 % 2=1)=r)∨(q=16∧decide (a.h / 16 % 2=1)=r)) (w:World):Calls Tryd.prog 28 #[.agg (attC a).toArray,.int .i64 q] w (BoolB w r):=by
 rcases hq with ⟨rfl,hr⟩|⟨rfl,hr⟩
 ·exact RHas4_b h0 h1 hr w
 ·exact RHas16_b h0 h1 hr w
end Go.Proofs.YtfdbhldnohaopaaDoor

