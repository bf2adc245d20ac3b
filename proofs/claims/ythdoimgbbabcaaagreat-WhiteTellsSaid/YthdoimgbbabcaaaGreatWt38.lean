import Derived.Test.YthdoimgbbabcaaaGreatWt37
import Derived.Test.YthdoimgbbabcaaaGreatWt34

namespace Go.Proofs.YthdoimgbbabcaaaGreat
open Go.RowKit Go.Shelf Plain

theorem aw_find:findW upI lsB (treeV upI lsB (walkW upI [1]).1)=[⟨15,0,1,1⟩]:=by decide +kernel
theorem wb_find:findW upB lsB (treeV upB lsB (walkW upB [1]).1)=[]:=by decide +kernel
theorem aw_h1:hidesW lsB [(1,1)] [97]=true:=by decide +kernel
theorem aw_h2:hidesW lsB [(1,1)] [122]=false:=by decide +kernel
theorem aw_wn:wnamesW upI 1=[[122]]:=by decide +kernel
theorem bu_few:FewU upB:=by
 refine ⟨by decide,fun x hx=>?_⟩
 simp only [upB,List.mem_cons,List.not_mem_nil,or_false] at hx
 rcases hx with rfl|rfl|rfl|rfl|rfl
 ·exact ⟨fun i e hi he=>absurd hi (by simp [ndD,nod0]),by decide,by decide,by decide,by decide,by decide,fun e he=>by simp [ndD,nod0] at he⟩
 ·exact ⟨fun i e hi he=>absurd hi (by simp [ndD,nod0]),by decide,by decide,by decide,by decide,by decide,fun e he=>by simp [ndD,nod0] at he⟩
 ·exact ⟨fun i e hi he=>absurd hi (by simp [ndD,nod0]),by decide,by decide,by decide,by decide,by decide,fun e he=>by simp [ndD,nod0] at he⟩
 ·exact plain0
 ·exact plain0
def FinsP (w:World) (n:Nat) (l:List FinV) (e:Ending) (w':World):Prop:=∃A c,e=.returned (.slice A n c)∧RdE finEn w' (Under w'.heap.size) A n l∧Below w.heap.size w w'
theorem FinsO.p {w w':World} {l:List FinV} {n:Nat} {e:Ending} (h:FinsO w l e w') (hn:l.length=n):FinsP w n l e w':=by
 obtain ⟨A,m,c,h1,h2,h3⟩:=h
 obtain rfl:n=m:=by rw [←hn];exact h2.1
 exact ⟨A,c,h1,h2,h3⟩
theorem WFinds_p {g:GeoQ} {AU AL:Option Addr} {nU cU nL cL B:Nat} {up:List NodV} {ls:List (List NodV)} {R:List FinV} {n:Nat} (hR:findW up ls (treeV up ls (walkW up [1]).1)=R) (hn:R.length=n) (w:World) (hu:RdE nodEn w (Under B) AU nU up) (h:RdE layEn w (Under B) AL nL ls) (hB:B≤w.heap.size) (hF:FewL ls) (hup:FewU up):Calls Tryz.prog 49 #[.agg (stkC g (.slice AU nU cU) (.slice AL nL cL)).toArray] w (FinsP w n R):=by
 refine (WFinds_any rfl rfl w hu h hB hF hup).mono fun e w' hh=>?_
 rw [hR] at hh
 exact hh.p hn
theorem RFinds_p {g:GeoQ} {AU AL:Option Addr} {nU cU nL cL B:Nat} {up:List NodV} {ls:List (List NodV)} {R:List FinV} {n:Nat} (hR:findW up ls (treeV up ls (walkW up [1]).1)=R) (hn:R.length=n) (w:World) (hu:RdE nodEn w (Under B) AU nU up) (h:RdE layEn w (Under B) AL nL ls) (hB:B≤w.heap.size) (hF:FewL ls) (hup:FewU up):Calls Tryz.prog 50 #[.agg (stkC g (.slice AU nU cU) (.slice AL nL cL)).toArray] w (FinsP w n R):=by
 refine (RFinds_any rfl rfl w hu h hB hF hup).mono fun e w' hh=>?_
 rw [hR] at hh
 exact hh.p hn
theorem WNames_p {g:GeoQ} {AU AL:Option Addr} {nU cU nL cL B:Nat} {up:List NodV} {u:Int} {AV:Option Addr} {nV cV:Nat} {L:List (List UInt8)} (hL:wnamesW up u=L) (w:World) (hu:RdE nodEn w (Under B) AU nU up) (hB:B≤w.heap.size) (hup:FewU up):Calls Tryz.prog 53 #[.agg (stkC g (.slice AU nU cU) (.slice AL nL cL)).toArray,.agg (viwC u (.slice AV nV cV)).toArray] w (NamesO w L):=by rw [←hL];exact WNames_any w hu hB hup
theorem RWNames_p {g:GeoQ} {AU AL:Option Addr} {nU cU nL cL B:Nat} {up:List NodV} {u:Int} {AV:Option Addr} {nV cV:Nat} {L:List (List UInt8)} (hL:wnamesW up u=L) (w:World) (hu:RdE nodEn w (Under B) AU nU up) (hB:B≤w.heap.size) (hup:FewU up):Calls Tryz.prog 54 #[.agg (stkC g (.slice AU nU cU) (.slice AL nL cL)).toArray,.agg (viwC u (.slice AV nV cV)).toArray] w (NamesO w L):=by rw [←hL];exact RWNames_any w hu hB hup
set_option maxRecDepth 100000 in
set_option maxHeartbeats 4000000 in
theorem awake20_any (w:World):Calls Tryz.prog 47 #[] w (LawOk w):=by
 have HB:=hide (below_self w)
 have hlit:=fun W=>litW_fin 15 0 1 1 W
 go_enter Tryz.func47,Tryz.ntmps47
 go_wp2_with (first|(go_at_call 62;refine (Idle_any w).mono ?_;rintro e1 wI ⟨AU,nU,cU,AL,nL,cL,rfl,hu,hl,hbel⟩;replace HB:=hide (HB.out.trans (hbel.mono HB.out.size));have hsz2:=hbel.size;have HU:=hide hu;clear hu;have HL:=hide hl;clear hl;clear hbel)|(refine wpList_storeW rfl 29 (.tmp 1) (.tmp 3) rfl 6 stk_size (wI.heap.size) 29 rfl (stkC ⟨0,0,0,0⟩ (.slice none 0 0) (.slice none 0 0)) (stkC gB (.slice AU nU cU) (.slice AL nL cL)) rfl (RowL.new wI 29 (stkC ⟨0,0,0,0⟩ (.slice none 0 0) (.slice none 0 0))) rfl rfl (stkC_one _ _ _ _ _ _ _) ?_;intro wS3 hr3 hg3 hs3;have hzb:=below_stored' hg3;replace HB:=hide (HB.out.trans (hzb.mono HB.out.size));replace HU:=hide (HU.out.under hzb (by omega));replace HL:=hide (HL.out.under hzb (by omega));have hsz4:=hzb.size;have RS:=hide hr3;have hlt3:=hr3.lt;have q1_0:wS3.cell? ⟨wI.heap.size,0,none⟩=some (.int .i64 1):=RS.out.cell 0;have q1_1:wS3.cell? ⟨wI.heap.size,1,none⟩=some (.int .i64 5):=RS.out.cell 1;have q1_2:wS3.cell? ⟨wI.heap.size,2,none⟩=some (.int .i64 6):=RS.out.cell 2;have q1_3:wS3.cell? ⟨wI.heap.size,3,none⟩=some (.int .i64 5):=RS.out.cell 3;have q1_4:wS3.cell? ⟨wI.heap.size,4,none⟩=some (.slice AU nU cU):=RS.out.cell 4;have q1_5:wS3.cell? ⟨wI.heap.size,5,none⟩=some (.slice AL nL cL):=RS.out.cell 5;clear hzb hr3;clear hg3 hs3)|(refine wpList_loadW rfl 29 (.tmp 1) rfl 6 stk_agg stk_size (wI.heap.size) 29 rfl (stkC gB (.slice AU nU cU) (.slice AL nL cL)) RS.out rfl ?_)|(go_at_call 17;refine (VRoot_e (g:=gB) aw_root wS3 HU.out HL.out (by omega) ba_few aw_few).mono ?_;rintro e5 wR ⟨A2,c2,rfl,h2,hbel⟩;replace h2:RdE prEn wR (Under wR.heap.size) A2 1 [(1,1)]:=fr_under h2;clear q1_0 q1_1 q1_2 q1_3 q1_4 q1_5;replace HB:=hide (HB.out.trans (hbel.mono HB.out.size));replace HU:=hide (HU.out.under hbel (by omega));replace HL:=hide (HL.out.under hbel (by omega));replace RS:=hide (RS.out.on hbel);have hsz6:=hbel.size;have q1_0:wR.cell? ⟨wI.heap.size,0,none⟩=some (.int .i64 1):=RS.out.cell 0;have q1_1:wR.cell? ⟨wI.heap.size,1,none⟩=some (.int .i64 5):=RS.out.cell 1;have q1_2:wR.cell? ⟨wI.heap.size,2,none⟩=some (.int .i64 6):=RS.out.cell 2;have q1_3:wR.cell? ⟨wI.heap.size,3,none⟩=some (.int .i64 5):=RS.out.cell 3;have q1_4:wR.cell? ⟨wI.heap.size,4,none⟩=some (.slice AU nU cU):=RS.out.cell 4;have q1_5:wR.cell? ⟨wI.heap.size,5,none⟩=some (.slice AL nL cL):=RS.out.cell 5;have HV:=hide h2;clear h2;clear hbel)|(refine wpList_storeW rfl 47 (.tmp 2) (.tmp 5) rfl 2 viw_size (wR.heap.size) 47 rfl (viwC 0 (.slice none 0 0)) (viwC 1 (.slice A2 1 c2)) rfl (RowL.new wR 47 (viwC 0 (.slice none 0 0))) rfl rfl (viwC_one _ _ _ _) ?_;intro wS7 hr7 hg7 hs7;have hzb:=below_stored' hg7;clear q1_0 q1_1 q1_2 q1_3 q1_4 q1_5;replace HB:=hide (HB.out.trans (hzb.mono HB.out.size));replace HU:=hide (HU.out.under hzb (by omega));replace HL:=hide (HL.out.under hzb (by omega));replace RS:=hide (RS.out.on hzb);replace HV:=hide (HV.out.under hzb (by omega));have hsz8:=hzb.size;have q1_0:wS7.cell? ⟨wI.heap.size,0,none⟩=some (.int .i64 1):=RS.out.cell 0;have q1_1:wS7.cell? ⟨wI.heap.size,1,none⟩=some (.int .i64 5):=RS.out.cell 1;have q1_2:wS7.cell? ⟨wI.heap.size,2,none⟩=some (.int .i64 6):=RS.out.cell 2;have q1_3:wS7.cell? ⟨wI.heap.size,3,none⟩=some (.int .i64 5):=RS.out.cell 3;have q1_4:wS7.cell? ⟨wI.heap.size,4,none⟩=some (.slice AU nU cU):=RS.out.cell 4;have q1_5:wS7.cell? ⟨wI.heap.size,5,none⟩=some (.slice AL nL cL):=RS.out.cell 5;have RV:=hide hr7;have hlt7:=hr7.lt;have q2_0:wS7.cell? ⟨wR.heap.size,0,none⟩=some (.int .i64 1):=RV.out.cell 0;have q2_1:wS7.cell? ⟨wR.heap.size,1,none⟩=some (.slice A2 1 c2):=RV.out.cell 1;clear hzb hr7;clear hg7 hs7)|(refine wpList_loadW rfl 29 (.tmp 1) rfl 6 stk_agg stk_size (wI.heap.size) 29 rfl (stkC gB (.slice AU nU cU) (.slice AL nL cL)) RS.out rfl ?_)|(go_at_call 49;refine (WFinds_p (g:=gB) (n:=1) aw_find rfl wS7 HU.out HL.out (by omega) ba_few aw_few).mono ?_;rintro e9 wF ⟨A5,c5,rfl,h5,hbel⟩;clear q1_0 q1_1 q1_2 q1_3 q1_4 q1_5 q2_0 q2_1;replace HB:=hide (HB.out.trans (hbel.mono HB.out.size));replace HU:=hide (HU.out.under hbel (by omega));replace HL:=hide (HL.out.under hbel (by omega));replace RS:=hide (RS.out.on hbel);replace HV:=hide (HV.out.under hbel (by omega));replace RV:=hide (RV.out.on hbel);have hsz10:=hbel.size;have q1_0:wF.cell? ⟨wI.heap.size,0,none⟩=some (.int .i64 1):=RS.out.cell 0;have q1_1:wF.cell? ⟨wI.heap.size,1,none⟩=some (.int .i64 5):=RS.out.cell 1;have q1_2:wF.cell? ⟨wI.heap.size,2,none⟩=some (.int .i64 6):=RS.out.cell 2;have q1_3:wF.cell? ⟨wI.heap.size,3,none⟩=some (.int .i64 5):=RS.out.cell 3;have q1_4:wF.cell? ⟨wI.heap.size,4,none⟩=some (.slice AU nU cU):=RS.out.cell 4;have q1_5:wF.cell? ⟨wI.heap.size,5,none⟩=some (.slice AL nL cL):=RS.out.cell 5;have q2_0:wF.cell? ⟨wR.heap.size,0,none⟩=some (.int .i64 1):=RV.out.cell 0;have q2_1:wF.cell? ⟨wR.heap.size,1,none⟩=some (.slice A2 1 c2):=RV.out.cell 1;have HF5:=hide h5;clear h5;clear hbel)|(go_at_call 48;refine (EqualFin_same (L:=[⟨15,0,1,1⟩]) _ (und_up (HF5.out.under (below_new (below_self wF) _) (by omega)) (by simp)) (fr_under (enc_lit1 (fin_R ⟨15,0,1,1⟩) wF 87 (lo:=0) (Nat.zero_le _))) (by omega)).mono ?_;rintro e99 wE ⟨rfl,hbel0⟩;have hbel:Below wF.heap.size wF wE:=(below_new (below_self wF) (.cells #[.int .i64 15,.int .i64 0,.int .i64 1,.int .i64 1] 87)).trans (hbel0.mono (by simp));clear q1_0 q1_1 q1_2 q1_3 q1_4 q1_5 q2_0 q2_1;replace HB:=hide (HB.out.trans (hbel.mono HB.out.size));replace HU:=hide (HU.out.under hbel (by omega));replace HL:=hide (HL.out.under hbel (by omega));replace RS:=hide (RS.out.on hbel);replace HV:=hide (HV.out.under hbel (by omega));replace RV:=hide (RV.out.on hbel);replace HF5:=hide (HF5.out.under hbel (by omega));have hsz11:=hbel.size;have q1_0:wE.cell? ⟨wI.heap.size,0,none⟩=some (.int .i64 1):=RS.out.cell 0;have q1_1:wE.cell? ⟨wI.heap.size,1,none⟩=some (.int .i64 5):=RS.out.cell 1;have q1_2:wE.cell? ⟨wI.heap.size,2,none⟩=some (.int .i64 6):=RS.out.cell 2;have q1_3:wE.cell? ⟨wI.heap.size,3,none⟩=some (.int .i64 5):=RS.out.cell 3;have q1_4:wE.cell? ⟨wI.heap.size,4,none⟩=some (.slice AU nU cU):=RS.out.cell 4;have q1_5:wE.cell? ⟨wI.heap.size,5,none⟩=some (.slice AL nL cL):=RS.out.cell 5;have q2_0:wE.cell? ⟨wR.heap.size,0,none⟩=some (.int .i64 1):=RV.out.cell 0;have q2_1:wE.cell? ⟨wR.heap.size,1,none⟩=some (.slice A2 1 c2):=RV.out.cell 1;clear hbel hbel0 HF5)|(go_at_call 105;refine (Base_any wE).mono ?_;rintro e12 wB ⟨BU,mU,dU,BL,mL,dL,rfl,hu2,hl2,hbel⟩;clear q1_0 q1_1 q1_2 q1_3 q1_4 q1_5 q2_0 q2_1;replace HB:=hide (HB.out.trans (hbel.mono HB.out.size));replace HU:=hide (HU.out.under hbel (by omega));replace HL:=hide (HL.out.under hbel (by omega));replace RS:=hide (RS.out.on hbel);replace HV:=hide (HV.out.under hbel (by omega));replace RV:=hide (RV.out.on hbel);have hsz13:=hbel.size;have q1_0:wB.cell? ⟨wI.heap.size,0,none⟩=some (.int .i64 1):=RS.out.cell 0;have q1_1:wB.cell? ⟨wI.heap.size,1,none⟩=some (.int .i64 5):=RS.out.cell 1;have q1_2:wB.cell? ⟨wI.heap.size,2,none⟩=some (.int .i64 6):=RS.out.cell 2;have q1_3:wB.cell? ⟨wI.heap.size,3,none⟩=some (.int .i64 5):=RS.out.cell 3;have q1_4:wB.cell? ⟨wI.heap.size,4,none⟩=some (.slice AU nU cU):=RS.out.cell 4;have q1_5:wB.cell? ⟨wI.heap.size,5,none⟩=some (.slice AL nL cL):=RS.out.cell 5;have q2_0:wB.cell? ⟨wR.heap.size,0,none⟩=some (.int .i64 1):=RV.out.cell 0;have q2_1:wB.cell? ⟨wR.heap.size,1,none⟩=some (.slice A2 1 c2):=RV.out.cell 1;have HU2:=hide hu2;clear hu2;have HL2:=hide hl2;clear hl2;clear hbel)|(go_at_call 49;refine (WFinds_p (g:=gB) (n:=0) wb_find rfl wB HU2.out HL2.out (by omega) ba_few bu_few).mono ?_;rintro e14 wG ⟨A6,c6,rfl,h6,hbel⟩;clear h6;clear q1_0 q1_1 q1_2 q1_3 q1_4 q1_5 q2_0 q2_1;replace HB:=hide (HB.out.trans (hbel.mono HB.out.size));replace HU:=hide (HU.out.under hbel (by omega));replace HL:=hide (HL.out.under hbel (by omega));replace RS:=hide (RS.out.on hbel);replace HV:=hide (HV.out.under hbel (by omega));replace RV:=hide (RV.out.on hbel);replace HU2:=hide (HU2.out.under hbel (by omega));replace HL2:=hide (HL2.out.under hbel (by omega));have hsz15:=hbel.size;have q1_0:wG.cell? ⟨wI.heap.size,0,none⟩=some (.int .i64 1):=RS.out.cell 0;have q1_1:wG.cell? ⟨wI.heap.size,1,none⟩=some (.int .i64 5):=RS.out.cell 1;have q1_2:wG.cell? ⟨wI.heap.size,2,none⟩=some (.int .i64 6):=RS.out.cell 2;have q1_3:wG.cell? ⟨wI.heap.size,3,none⟩=some (.int .i64 5):=RS.out.cell 3;have q1_4:wG.cell? ⟨wI.heap.size,4,none⟩=some (.slice AU nU cU):=RS.out.cell 4;have q1_5:wG.cell? ⟨wI.heap.size,5,none⟩=some (.slice AL nL cL):=RS.out.cell 5;have q2_0:wG.cell? ⟨wR.heap.size,0,none⟩=some (.int .i64 1):=RV.out.cell 0;have q2_1:wG.cell? ⟨wR.heap.size,1,none⟩=some (.slice A2 1 c2):=RV.out.cell 1;clear hbel)|(go_at_call 51;refine (WHides_b (g:=gB) (u:=1) (cV:=c2) aw_h1 wG HU.out HL.out (by omega) ba_few aw_few HV.out (by omega) (by omega)).mono ?_;rintro e16 wH ⟨rfl,hbel⟩;clear q1_0 q1_1 q1_2 q1_3 q1_4 q1_5 q2_0 q2_1;replace HB:=hide (HB.out.trans (hbel.mono HB.out.size));replace HU:=hide (HU.out.under hbel (by omega));replace HL:=hide (HL.out.under hbel (by omega));replace RS:=hide (RS.out.on hbel);replace HV:=hide (HV.out.under hbel (by omega));replace RV:=hide (RV.out.on hbel);replace HU2:=hide (HU2.out.under hbel (by omega));replace HL2:=hide (HL2.out.under hbel (by omega));have hsz17:=hbel.size;have q1_0:wH.cell? ⟨wI.heap.size,0,none⟩=some (.int .i64 1):=RS.out.cell 0;have q1_1:wH.cell? ⟨wI.heap.size,1,none⟩=some (.int .i64 5):=RS.out.cell 1;have q1_2:wH.cell? ⟨wI.heap.size,2,none⟩=some (.int .i64 6):=RS.out.cell 2;have q1_3:wH.cell? ⟨wI.heap.size,3,none⟩=some (.int .i64 5):=RS.out.cell 3;have q1_4:wH.cell? ⟨wI.heap.size,4,none⟩=some (.slice AU nU cU):=RS.out.cell 4;have q1_5:wH.cell? ⟨wI.heap.size,5,none⟩=some (.slice AL nL cL):=RS.out.cell 5;have q2_0:wH.cell? ⟨wR.heap.size,0,none⟩=some (.int .i64 1):=RV.out.cell 0;have q2_1:wH.cell? ⟨wR.heap.size,1,none⟩=some (.slice A2 1 c2):=RV.out.cell 1;clear hbel)|(go_at_call 51;refine (WHides_b (g:=gB) (u:=1) (cV:=c2) aw_h2 wH HU.out HL.out (by omega) ba_few aw_few HV.out (by omega) (by omega)).mono ?_;rintro e18 wK ⟨rfl,hbel⟩;clear q1_0 q1_1 q1_2 q1_3 q1_4 q1_5 q2_0 q2_1;replace HB:=hide (HB.out.trans (hbel.mono HB.out.size));replace HU:=hide (HU.out.under hbel (by omega));replace HL:=hide (HL.out.under hbel (by omega));replace RS:=hide (RS.out.on hbel);replace HV:=hide (HV.out.under hbel (by omega));replace RV:=hide (RV.out.on hbel);replace HU2:=hide (HU2.out.under hbel (by omega));replace HL2:=hide (HL2.out.under hbel (by omega));have hsz19:=hbel.size;have q1_0:wK.cell? ⟨wI.heap.size,0,none⟩=some (.int .i64 1):=RS.out.cell 0;have q1_1:wK.cell? ⟨wI.heap.size,1,none⟩=some (.int .i64 5):=RS.out.cell 1;have q1_2:wK.cell? ⟨wI.heap.size,2,none⟩=some (.int .i64 6):=RS.out.cell 2;have q1_3:wK.cell? ⟨wI.heap.size,3,none⟩=some (.int .i64 5):=RS.out.cell 3;have q1_4:wK.cell? ⟨wI.heap.size,4,none⟩=some (.slice AU nU cU):=RS.out.cell 4;have q1_5:wK.cell? ⟨wI.heap.size,5,none⟩=some (.slice AL nL cL):=RS.out.cell 5;have q2_0:wK.cell? ⟨wR.heap.size,0,none⟩=some (.int .i64 1):=RV.out.cell 0;have q2_1:wK.cell? ⟨wR.heap.size,1,none⟩=some (.slice A2 1 c2):=RV.out.cell 1;clear hbel)|(go_at_call 53;refine (WNames_p (g:=gB) (u:=1) (cV:=c2) aw_wn wK HU.out (by omega) aw_few).mono ?_;rintro e20 wN ⟨A7,n7,c7,rfl,h7,hbel⟩;clear q1_0 q1_1 q1_2 q1_3 q1_4 q1_5 q2_0 q2_1;replace HB:=hide (HB.out.trans (hbel.mono HB.out.size));replace HU:=hide (HU.out.under hbel (by omega));replace HL:=hide (HL.out.under hbel (by omega));replace RS:=hide (RS.out.on hbel);replace HV:=hide (HV.out.under hbel (by omega));replace RV:=hide (RV.out.on hbel);replace HU2:=hide (HU2.out.under hbel (by omega));replace HL2:=hide (HL2.out.under hbel (by omega));have hsz21:=hbel.size;have q1_0:wN.cell? ⟨wI.heap.size,0,none⟩=some (.int .i64 1):=RS.out.cell 0;have q1_1:wN.cell? ⟨wI.heap.size,1,none⟩=some (.int .i64 5):=RS.out.cell 1;have q1_2:wN.cell? ⟨wI.heap.size,2,none⟩=some (.int .i64 6):=RS.out.cell 2;have q1_3:wN.cell? ⟨wI.heap.size,3,none⟩=some (.int .i64 5):=RS.out.cell 3;have q1_4:wN.cell? ⟨wI.heap.size,4,none⟩=some (.slice AU nU cU):=RS.out.cell 4;have q1_5:wN.cell? ⟨wI.heap.size,5,none⟩=some (.slice AL nL cL):=RS.out.cell 5;have q2_0:wN.cell? ⟨wR.heap.size,0,none⟩=some (.int .i64 1):=RV.out.cell 0;have q2_1:wN.cell? ⟨wR.heap.size,1,none⟩=some (.slice A2 1 c2):=RV.out.cell 1;have HN:=hide h7;clear h7;clear hbel)|(go_at_call 36;refine (EqS_b (show (([[122]]:List (List UInt8))==[[122]])=true from by decide) _ (HN.out.rd.on (below_new (below_self wN) _)) (Rd.one wN 9 (f:=st) (u:=.string ⟨#[122]⟩) (x:=[122]) rfl) (by have:=HN.out.rd.len;simp at this;omega)).mono ?_;rintro e98 wE2 ⟨rfl,hbel⟩;replace HB:=hide (HB.out.trans (((below_new (below_self wN) _).trans (hbel.mono (by simp))).mono HB.out.size));clear hbel))
 go_ret
 exact LawOk.of HB.out
set_option maxRecDepth 100000 in
set_option maxHeartbeats 16000000 in
theorem law_WhiteTells {g:GeoQ} {AU AL AV:Option Addr} {nU cU nL cL nV cV:Nat} {up:List NodV} {ls:List (List NodV)} {u:Int} {vl:List (Int×Int)} {nm:List UInt8} (w:World) (hu:RdE nodEn w (Under w.heap.size) AU nU up) (h:RdE layEn w (Under w.heap.size) AL nL ls) (hv:RdE prEn w (Under w.heap.size) AV nV vl) (hfu:FineN up) (hfl:∀ns∈ls,FineN ns) :
  Calls Tryz.prog 9 #[.agg (stkC g (.slice AU nU cU) (.slice AL nL cL)).toArray,.agg (viwC u (.slice AV nV cV)).toArray,.string ⟨nm.toArray⟩] w (LawOk w):=by
 obtain ⟨W1,hW1⟩:∃W1,((w.alloc (.cells (stkC g (.slice AU nU cU) (.slice AL nL cL)).toArray 29)).alloc (.cells (viwC u (.slice AV nV cV)).toArray 47))=W1:=⟨_,rfl⟩
 obtain ⟨r0,r1,hb1,hs1⟩:=rowA2 w _ _ _ _ hW1
 have hW1':((w.alloc (.cells #[.int .i64 g.a,.int .i64 g.b,.int .i64 g.c,.int .i64 g.d,.slice AU nU cU,.slice AL nL cL] 29)).alloc (.cells #[.int .i64 u,.slice AV nV cV] 47))=W1:=hW1
 have R3:=hide r0
 have R4:=hide r1
 have HB:=hide hb1
 have hsz0:=hb1.size
 have HU:=hide (hu.under hb1 (Nat.le_refl _))
 have HL:=hide (h.under hb1 (Nat.le_refl _))
 have HV:=hide (hv.under hb1 (Nat.le_refl _))
 have HFN:=hide hfu
 have HFL:=hide hfl
 have hvn:=hv.1
 have q4_1:W1.cell? ⟨w.heap.size+1,1,none⟩=some (.slice AV nV cV):=R4.out.cell 1
 have q3_0:W1.cell? ⟨w.heap.size,0,none⟩=some (.int .i64 g.a):=R3.out.cell 0
 have q3_1:W1.cell? ⟨w.heap.size,1,none⟩=some (.int .i64 g.b):=R3.out.cell 1
 have q3_2:W1.cell? ⟨w.heap.size,2,none⟩=some (.int .i64 g.c):=R3.out.cell 2
 have q3_3:W1.cell? ⟨w.heap.size,3,none⟩=some (.int .i64 g.d):=R3.out.cell 3
 have q3_4:W1.cell? ⟨w.heap.size,4,none⟩=some (.slice AU nU cU):=R3.out.cell 4
 have q3_5:W1.cell? ⟨w.heap.size,5,none⟩=some (.slice AL nL cL):=R3.out.cell 5
 have q4_0:W1.cell? ⟨w.heap.size+1,0,none⟩=some (.int .i64 u):=R4.out.cell 0
 unfold stkC viwC
 clear r0 r1 hb1 hW1 hu h hv hfu hfl
 go_enter Tryz.func9,Tryz.ntmps9
 go_wp2_with (first|(refine wpList_loadW rfl 29 (.tmp 3) rfl 6 stk_agg stk_size (w.heap.size) 29 rfl (stkC g (.slice AU nU cU) (.slice AL nL cL)) R3.out rfl ?_))
 clear hW1'
 refine (PStack_any W1 (und_up HU.out (by omega)) (und_up HL.out (by omega)) HFN.out HFL.out).mono ?_
 rintro e w2 ⟨p,rfl,hb2,hq⟩
 have HQ:=hide hq
 clear q4_1 q3_0 q3_1 q3_2 q3_3 q3_4 q3_5 q4_0
 replace HB:=hide (HB.out.trans (hb2.mono HB.out.size))
 replace R3:=hide (R3.out.on hb2)
 replace R4:=hide (R4.out.on hb2)
 replace HU:=hide (HU.out.under hb2 (by omega))
 replace HL:=hide (HL.out.under hb2 (by omega))
 replace HV:=hide (HV.out.under hb2 (by omega))
 have hsz1:=hb2.size
 have q4_1:w2.cell? ⟨w.heap.size+1,1,none⟩=some (.slice AV nV cV):=R4.out.cell 1
 have q3_0:w2.cell? ⟨w.heap.size,0,none⟩=some (.int .i64 g.a):=R3.out.cell 0
 have q3_1:w2.cell? ⟨w.heap.size,1,none⟩=some (.int .i64 g.b):=R3.out.cell 1
 have q3_2:w2.cell? ⟨w.heap.size,2,none⟩=some (.int .i64 g.c):=R3.out.cell 2
 have q3_3:w2.cell? ⟨w.heap.size,3,none⟩=some (.int .i64 g.d):=R3.out.cell 3
 have q3_4:w2.cell? ⟨w.heap.size,4,none⟩=some (.slice AU nU cU):=R3.out.cell 4
 have q3_5:w2.cell? ⟨w.heap.size,5,none⟩=some (.slice AL nL cL):=R3.out.cell 5
 have q4_0:w2.cell? ⟨w.heap.size+1,0,none⟩=some (.int .i64 u):=R4.out.cell 0
 clear hq hb2
 cases p
 ·go_wp2_with (go_at_call 47;refine (awake20_any _).mono ?_;rintro e98 wz ⟨rfl,hbz⟩;replace HB:=hide (HB.out.trans (hbz.mono HB.out.size));clear hbz)
  go_ret
  exact LawOk.of HB.out
 by_cases hk8:(8:Int) < (nV:Int)
 ·have dk8:decide ((8:Int) < (nV:Int))=true:=decide_eq_true hk8
  go_wp2_with (go_at_call 47;refine (awake20_any _).mono ?_;rintro e98 wz ⟨rfl,hbz⟩;replace HB:=hide (HB.out.trans (hbz.mono HB.out.size));clear hbz)
  go_ret
  exact LawOk.of HB.out
 have dk8:decide ((8:Int) < (nV:Int))=false:=decide_eq_false hk8
 by_cases hk:(40:Int) < (nm.length:Int)
 ·have dk:decide ((40:Int) < (nm.length:Int))=true:=decide_eq_true hk
  go_wp2_with (go_at_call 47;refine (awake20_any _).mono ?_;rintro e98 wz ⟨rfl,hbz⟩;replace HB:=hide (HB.out.trans (hbz.mono HB.out.size));clear hbz)
  go_ret
  exact LawOk.of HB.out
 have dk:decide ((40:Int) < (nm.length:Int))=false:=decide_eq_false hk
 obtain ⟨hF,hfew⟩:=HQ.out (by first|rfl|trivial)
 have HF:=hide hF
 have HFU:=hide (show FewU up from ⟨by have:=hfew.1;omega,hfew.2⟩)
 have hnV:nV≤1000:=by omega
 obtain ⟨R,hR⟩:∃R,findW up ls (treeV up ls (walkW up [1]).1)=R:=⟨_,rfl⟩
 have hR5:R.length≤140737488355328:=by
  rw [←hR]
  have h1:=find_few (ls:=ls) HFU.out (treeV up ls (walkW up [1]).1)
  have h2:=tree_len up ls (walkW up [1]).1
  have h3:=(walk_ok up [1]).le
  have h4:=HFU.out.1
  omega
 have HR:=hide hR
 obtain ⟨hd,hh⟩:∃b,hidesW ls vl nm=b:=⟨_,rfl⟩
 have HH:=hide hh
 obtain ⟨NL,hNL⟩:∃NL,wnamesW up u=NL:=⟨_,rfl⟩
 have HNL:=hide (show NL.length≤1000 from by
  rw [←hNL]
  refine Nat.le_trans (sortS_length _) ?_
  rw [List.length_map]
  have:=whites_len HFU.out u
  omega)
 have HN:=hide hNL
 clear hF hfew hk hk8 HQ HFN HFL hR hNL hh
 go_wp2_with fail
 refine wp_region_planN (fun w'=>Below w2.heap.size w2 w') [(0,true),(2,true),(1,false),(3,false),(4,false),(5,true),(6,true),(7,true),(8,true),(10,true),(11,true),(12,true),(9,false),(13,false),(14,true),(15,true),(16,true),(17,true),(18,true),(20,true),(21,true),(19,false),(22,false),(23,false),(24,true),(25,true),(26,false),(27,true),(28,true)] (by kernel_rfl) (by kernel_rfl) (by kernel_rfl) (by kernel_rfl) rfl (fun _ _ _ _ _ h=>h) (below_drew (below_self w2)) (fun hHeld=>?_)
 simp only [planOps,List.filterMap_cons,List.filterMap_nil,List.getElem?_toArray,List.getElem?_cons_succ,List.getElem?_cons_zero,Option.map_some]
 refine wpPlan_take (v:=?_) (by kernel_rfl) (fun wS hSw=>?_) ?_
 rotate_left
 ·refine execOp_load (x:=.tmp 3) (k:=6) (g:=w.heap.size) (off:=0) (cs:=(stkC g (.slice AU nU cU) (.slice AL nL cL))) ?_ stk_agg stk_size ?_ (fun j v hv=>by rw [Nat.zero_add];exact ((R3.out.on hSw).cell j).trans hv) rfl <;> rfl
 (try simp only [Act.put,pu1,pu2,pu3])
 refine wpPlan_take (v:=?_) (by kernel_rfl) (fun wS hSw=>?_) ?_
 rotate_left
 ·refine execOp_load (x:=.tmp 3) (k:=6) (g:=w.heap.size) (off:=0) (cs:=(stkC g (.slice AU nU cU) (.slice AL nL cL))) ?_ stk_agg stk_size ?_ (fun j v hv=>by rw [Nat.zero_add];exact ((R3.out.on hSw).cell j).trans hv) rfl <;> rfl
 (try simp only [Act.put,pu1,pu2,pu3])
 refine wpPlan_call (by kernel_rfl) (fun K hK=>?_)
 have hOld:=hide hHeld
 clear hHeld
 go_simp
 go_at_call 49
 refine (WFinds_p HR.out rfl (B:=w.heap.size) _ (HU.out.under hOld.out (by omega)) (HL.out.under hOld.out (by omega)) (by have:=hOld.out.size;omega) HF.out HFU.out).mono ?_
 rintro e w' ⟨A5,c5,rfl,h5,hbel⟩
 have H5:=hide h5
 clear h5
 refine hK.out _ _ (hOld.out.trans (hbel.mono hOld.out.size)) (fun hHeld=>?_)
 clear hK K
 (try simp only [Act.put,pu1,pu2,pu3])
 refine wpPlan_call (by kernel_rfl) (fun K hK=>?_)
 have hOld:=hide hHeld
 clear hHeld
 go_simp
 go_at_call 50
 refine (RFinds_p HR.out rfl (B:=w.heap.size) _ (HU.out.under hOld.out (by omega)) (HL.out.under hOld.out (by omega)) (by have:=hOld.out.size;omega) HF.out HFU.out).mono ?_
 rintro e w' ⟨A6,c6,rfl,h6,hbel⟩
 have H6:=hide h6
 have H5':=hide (und_up (H5.out.under hbel (Nat.le_refl _)) hbel.size)
 clear H5 h6
 refine hK.out _ _ (hOld.out.trans (hbel.mono hOld.out.size)) (fun hHeld=>?_)
 clear hK K
 (try simp only [Act.put,pu1,pu2,pu3])
 refine wpPlan_call (by kernel_rfl) (fun K hK=>?_)
 have hOld:=hide hHeld
 clear hHeld
 go_simp
 go_at_call 48
 refine (EqualFin_same _ H5'.out H6.out hR5).mono ?_
 rintro e w' ⟨rfl,hbel⟩
 clear H5' H6
 refine hK.out _ _ (hOld.out.trans (hbel.mono hOld.out.size)) (fun hHeld=>?_)
 clear hK K
 (try simp only [Act.put,pu1,pu2,pu3])
 refine wpPlan_take (v:=?_) (by kernel_rfl) (fun wS hSw=>?_) ?_
 rotate_left
 ·(try dsimp only at hSw);go_simp;(try with_reducible rfl)
 (try simp only [Act.put,pu1,pu2,pu3])
 refine wpPlan_take (v:=?_) (by kernel_rfl) (fun wS hSw=>?_) ?_
 rotate_left
 ·refine execOp_load (x:=.tmp 3) (k:=6) (g:=w.heap.size) (off:=0) (cs:=(stkC g (.slice AU nU cU) (.slice AL nL cL))) ?_ stk_agg stk_size ?_ (fun j v hv=>by rw [Nat.zero_add];exact ((R3.out.on hSw).cell j).trans hv) rfl <;> rfl
 (try simp only [Act.put,pu1,pu2,pu3])
 refine wpPlan_take (v:=?_) (by kernel_rfl) (fun wS hSw=>?_) ?_
 rotate_left
 ·refine execOp_load (x:=.tmp 4) (k:=2) (g:=w.heap.size+1) (off:=0) (cs:=(viwC u (.slice AV nV cV))) ?_ viw_agg viw_size ?_ (fun j v hv=>by rw [Nat.zero_add];exact ((R4.out.on hSw).cell j).trans hv) rfl <;> rfl
 (try simp only [Act.put,pu1,pu2,pu3])
 refine wpPlan_take (v:=?_) (by kernel_rfl) (fun wS hSw=>?_) ?_
 rotate_left
 ·(try dsimp only at hSw);go_simp;(try with_reducible rfl)
 (try simp only [Act.put,pu1,pu2,pu3])
 refine wpPlan_take (v:=?_) (by kernel_rfl) (fun wS hSw=>?_) ?_
 rotate_left
 ·refine execOp_load (x:=.tmp 3) (k:=6) (g:=w.heap.size) (off:=0) (cs:=(stkC g (.slice AU nU cU) (.slice AL nL cL))) ?_ stk_agg stk_size ?_ (fun j v hv=>by rw [Nat.zero_add];exact ((R3.out.on hSw).cell j).trans hv) rfl <;> rfl
 (try simp only [Act.put,pu1,pu2,pu3])
 refine wpPlan_take (v:=?_) (by kernel_rfl) (fun wS hSw=>?_) ?_
 rotate_left
 ·refine execOp_load (x:=.tmp 4) (k:=2) (g:=w.heap.size+1) (off:=0) (cs:=(viwC u (.slice AV nV cV))) ?_ viw_agg viw_size ?_ (fun j v hv=>by rw [Nat.zero_add];exact ((R4.out.on hSw).cell j).trans hv) rfl <;> rfl
 (try simp only [Act.put,pu1,pu2,pu3])
 refine wpPlan_take (v:=?_) (by kernel_rfl) (fun wS hSw=>?_) ?_
 rotate_left
 ·(try dsimp only at hSw);go_simp;(try with_reducible rfl)
 (try simp only [Act.put,pu1,pu2,pu3])
 refine wpPlan_call (by kernel_rfl) (fun K hK=>?_)
 have hOld:=hide hHeld
 clear hHeld
 go_simp
 go_at_call 51
 refine (WHides_b (u:=u) (cV:=cV) HH.out _ (HU.out.under hOld.out (by omega)) (HL.out.under hOld.out (by omega)) (by have:=hOld.out.size;omega) HF.out HFU.out (HV.out.under hOld.out (by omega)) (by have:=hOld.out.size;omega) hnV).mono ?_
 rintro e w' ⟨rfl,hbel⟩
 refine hK.out _ _ (hOld.out.trans (hbel.mono hOld.out.size)) (fun hHeld=>?_)
 clear hK K
 (try simp only [Act.put,pu1,pu2,pu3])
 refine wpPlan_call (by kernel_rfl) (fun K hK=>?_)
 have hOld:=hide hHeld
 clear hHeld
 go_simp
 go_at_call 52
 refine (RHides_b (u:=u) (cV:=cV) HH.out _ (HU.out.under hOld.out (by omega)) (HL.out.under hOld.out (by omega)) (by have:=hOld.out.size;omega) HF.out HFU.out (HV.out.under hOld.out (by omega)) (by have:=hOld.out.size;omega) hnV).mono ?_
 rintro e w' ⟨rfl,hbel⟩
 refine hK.out _ _ (hOld.out.trans (hbel.mono hOld.out.size)) (fun hHeld=>?_)
 clear hK K
 (try simp only [Act.put,pu1,pu2,pu3])
 refine wpPlan_take (v:=?_) (by kernel_rfl) (fun wS hSw=>?_) ?_
 rotate_left
 ·(try dsimp only at hSw);have qx:(hd==hd)=true:=(by simp);go_simp;(try with_reducible rfl)
 (try simp only [Act.put,pu1,pu2,pu3])
 iterate 2
  refine wpPlan_take (v:=?_) (by kernel_rfl) (fun wS hSw=>?_) ?_
  rotate_left
  ·(try dsimp only at hSw);go_simp;(try with_reducible rfl)
  (try simp only [Act.put,pu1,pu2,pu3])
 refine wpPlan_take (v:=?_) (by kernel_rfl) (fun wS hSw=>?_) ?_
 rotate_left
 ·refine execOp_load (x:=.tmp 3) (k:=6) (g:=w.heap.size) (off:=0) (cs:=(stkC g (.slice AU nU cU) (.slice AL nL cL))) ?_ stk_agg stk_size ?_ (fun j v hv=>by rw [Nat.zero_add];exact ((R3.out.on hSw).cell j).trans hv) rfl <;> rfl
 (try simp only [Act.put,pu1,pu2,pu3])
 refine wpPlan_take (v:=?_) (by kernel_rfl) (fun wS hSw=>?_) ?_
 rotate_left
 ·refine execOp_load (x:=.tmp 4) (k:=2) (g:=w.heap.size+1) (off:=0) (cs:=(viwC u (.slice AV nV cV))) ?_ viw_agg viw_size ?_ (fun j v hv=>by rw [Nat.zero_add];exact ((R4.out.on hSw).cell j).trans hv) rfl <;> rfl
 (try simp only [Act.put,pu1,pu2,pu3])
 refine wpPlan_take (v:=?_) (by kernel_rfl) (fun wS hSw=>?_) ?_
 rotate_left
 ·refine execOp_load (x:=.tmp 3) (k:=6) (g:=w.heap.size) (off:=0) (cs:=(stkC g (.slice AU nU cU) (.slice AL nL cL))) ?_ stk_agg stk_size ?_ (fun j v hv=>by rw [Nat.zero_add];exact ((R3.out.on hSw).cell j).trans hv) rfl <;> rfl
 (try simp only [Act.put,pu1,pu2,pu3])
 refine wpPlan_take (v:=?_) (by kernel_rfl) (fun wS hSw=>?_) ?_
 rotate_left
 ·refine execOp_load (x:=.tmp 4) (k:=2) (g:=w.heap.size+1) (off:=0) (cs:=(viwC u (.slice AV nV cV))) ?_ viw_agg viw_size ?_ (fun j v hv=>by rw [Nat.zero_add];exact ((R4.out.on hSw).cell j).trans hv) rfl <;> rfl
 (try simp only [Act.put,pu1,pu2,pu3])
 refine wpPlan_call (by kernel_rfl) (fun K hK=>?_)
 have hOld:=hide hHeld
 clear hHeld
 go_simp
 go_at_call 53
 refine (WNames_p (u:=u) (cV:=cV) HN.out _ (HU.out.under hOld.out (by omega)) (by have:=hOld.out.size;omega) HFU.out).mono ?_
 rintro e w' ⟨A7,n7,c7,rfl,h7,hbel⟩
 have H7:=hide h7.rd
 clear h7
 refine hK.out _ _ (hOld.out.trans (hbel.mono hOld.out.size)) (fun hHeld=>?_)
 clear hK K
 (try simp only [Act.put,pu1,pu2,pu3])
 refine wpPlan_call (by kernel_rfl) (fun K hK=>?_)
 have hOld:=hide hHeld
 clear hHeld
 go_simp
 go_at_call 54
 refine (RWNames_p (u:=u) (cV:=cV) HN.out _ (HU.out.under hOld.out (by omega)) (by have:=hOld.out.size;omega) HFU.out).mono ?_
 rintro e w' ⟨A8,n8,c8,rfl,h8,hbel⟩
 have H8:=hide h8.rd
 have H7':=hide (H7.out.on hbel)
 clear H7 h8
 refine hK.out _ _ (hOld.out.trans (hbel.mono hOld.out.size)) (fun hHeld=>?_)
 clear hK K
 (try simp only [Act.put,pu1,pu2,pu3])
 refine wpPlan_call (by kernel_rfl) (fun K hK=>?_)
 have hOld:=hide hHeld
 clear hHeld
 go_simp
 go_at_call 36
 refine (EqS_b (show (NL==NL)=true from by simp) _ H7'.out H8.out (by have:=HNL.out;have:=H7'.out.len;omega)).mono ?_
 rintro e w' ⟨rfl,hbel⟩
 clear H7' H8
 refine hK.out _ _ (hOld.out.trans (hbel.mono hOld.out.size)) (fun hHeld=>?_)
 clear hK K
 (try simp only [Act.put,pu1,pu2,pu3])
 iterate 2
  refine wpPlan_take (v:=?_) (by kernel_rfl) (fun wS hSw=>?_) ?_
  rotate_left
  ·(try dsimp only at hSw);go_simp;(try with_reducible rfl)
  (try simp only [Act.put,pu1,pu2,pu3])
 refine wpPlan_call (by kernel_rfl) (fun K hK=>?_)
 have hOld:=hide hHeld
 clear hHeld
 go_simp
 go_at_call 47
 refine (awake20_any _).mono ?_
 rintro e w' ⟨rfl,hbel⟩
 refine hK.out _ _ (hOld.out.trans (hbel.mono hOld.out.size)) (fun hHeld=>?_)
 clear hK K
 (try simp only [Act.put,pu1,pu2,pu3])
 iterate 2
  refine wpPlan_take (v:=?_) (by kernel_rfl) (fun wS hSw=>?_) ?_
  rotate_left
  ·(try dsimp only at hSw);go_simp;(try with_reducible rfl)
  (try simp only [Act.put,pu1,pu2,pu3])
 refine wpPlan_end ?_
 have HBX:=hide (HB.out.trans (hHeld.mono HB.out.size))
 clear hHeld
 go_wp2_with fail
 go_ret
 exact LawOk.of HBX.out
end Go.Proofs.YthdoimgbbabcaaaGreat

