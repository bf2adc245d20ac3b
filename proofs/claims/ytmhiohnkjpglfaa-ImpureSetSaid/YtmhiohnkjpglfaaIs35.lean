import Derived.Test.YtmhiohnkjpglfaaIs33
import Derived.Test.YtmhiohnkjpglfaaIs28
import Derived.Test.YtmhiohnkjpglfaaIs22
import Derived.Test.YtmhiohnkjpglfaaIs21
import Derived.BigQuiet
import Derived.Deep.QuietTactic
import Derived.Lib.Join
import Derived.Test.YtmhiohnkjpglfaaProg
import Derived.Lib.Bytealg
import Derived.Lib.CutLaws
import Derived.Shelf.Small.Wraps
import Derived.Shelf.Small.Strs
import Derived.Shelf.Strings.Prefix
import Derived.Shelf.Slices.Clone
import Derived.Shelf.Slices.CompactS
import Derived.Shelf.Slices.Cells
import Derived.Test.YtmhiohnkjpglfaaIs2
import Derived.Test.YtmhiohnkjpglfaaRows
import Derived.IntWalk
import Derived.Laws.Cover3
import Derived.Test.YtmhiohnkjpglfaaIs1
import Derived.Lib.SlicesCompact
import Derived.Sort.Row
import Derived.Sort.OwnSorted
import Derived.Lib.RowBridge
import Derived.Test.YtmhiohnkjpglfaaIs12
import Derived.Test.YtmhiohnkjpglfaaIs34
import Derived.Test.YtmhiohnkjpglfaaIs30
import Derived.Test.YtmhiohnkjpglfaaIs31
import Derived.Test.YtmhiohnkjpglfaaIs25
import Derived.Test.YtmhiohnkjpglfaaIs27

namespace Go.Proofs.Ytmhiohnkjpglfaa
open Go.RowKit Go.Shelf Plain

def ndC4:NodV:={ndD with ents:=[⟨0,4,[99]⟩]}
def ndM:NodV:={nod0 with k:=2,att:={att0 with h:=4}}
def upM:List NodV:=[ndC4,ndD,ndD,ndM,nod0]
def upCM (E:Value):List Value:=nodC ndD (.slice none 0 0) E++(nodC ndD (.slice none 0 0) (.slice none 0 0)++(nodC ndD (.slice none 0 0) (.slice none 0 0)++(nodC ndM (.slice none 0 0) (.slice none 0 0)++nodC nod0 (.slice none 0 0) (.slice none 0 0))))
theorem up_M (E:Value):splice (upC1 E) 39 (nodC ndM (.slice none 0 0) (.slice none 0 0))=upCM E:=rfl
theorem nods_M {w:World} {g0 gE:Nat} (h:RowL w g0 46 (upCM (.slice (some ⟨gE,0,none⟩) 1 1))) (he:RowL w gE 53 (cellsE ⟨0,4,[99]⟩)):RdE nodEn w (Under w.heap.size) (some ⟨g0,0,none⟩) 5 upM:=nods_row h h.lt ⟨none,0,0,_,1,1,rfl,Nat.le_refl _,RdE.none_ _ _ _ _,Nat.le_refl _,ent_row (l:=[⟨0,4,[99]⟩]) he he.lt⟩ (ndDR _ _) (ndDR _ _) ⟨none,0,0,none,0,0,rfl,Nat.le_refl _,RdE.none_ _ _ _ _,Nat.le_refl _,RdE.none_ _ _ _ _⟩ (nod0R _ _)
def rsM:List Bool:=[true,false,false,true,false]
def rsB0:List Bool:=[true,false,false,false,false]
theorem aw_rsM:reachL upM (walkW upM [1]).1=rsM:=by decide +kernel
theorem aw_rsB:reachL upB (walkW upB [1]).1=rsB0:=by decide +kernel
theorem aw_w1:wantI upM rsM 1=121:=by decide +kernel
theorem aw_w2:wantI upM rsM 2=0:=by decide +kernel
theorem aw_fM:findI upM rsM upM.length=[⟨18,0,1,-1⟩]:=by decide +kernel
theorem aw_fB:findI upB rsB0 upB.length=[]:=by decide +kernel
theorem few_M:FewU upM:=by
 refine ⟨by decide,fun x hx=>?_⟩
 simp only [upM,List.mem_cons,List.not_mem_nil,or_false] at hx
 rcases hx with rfl|rfl|rfl|rfl|rfl
 ·refine ⟨fun i e hi he=>?_,by decide,by decide,by decide,by decide,by decide,fun e he=>?_⟩
  ·obtain rfl:i=0:=by have:i < 1:=hi;omega
   cases he
   exact ⟨by decide,by decide,fun p h=>absurd h (by omega)⟩
  ·rw [List.mem_singleton.1 he]
   decide
 ·exact ⟨fun i e hi he=>absurd hi (by simp [ndD,nod0]),by decide,by decide,by decide,by decide,by decide,fun e he=>by simp [ndD,nod0] at he⟩
 ·exact ⟨fun i e hi he=>absurd hi (by simp [ndD,nod0]),by decide,by decide,by decide,by decide,by decide,fun e he=>by simp [ndD,nod0] at he⟩
 ·exact ⟨fun i e hi he=>absurd hi (by simp [ndM,nod0]),by decide,by decide,by decide,by decide,by decide,fun e he=>by simp [ndM,nod0] at he⟩
 ·exact plain0
theorem IFinds_p {g:GeoQ} {AU AL:Option Addr} {nU cU nL cL B:Nat} {up:List NodV} {rs:List Bool} {R:List FinV} {n:Nat} (hrs:reachL up (walkW up [1]).1=rs) (hR:findI up rs up.length=R) (hn:R.length=n) (w:World) (hu:RdE nodEn w (Under B) AU nU up) (hB:B≤w.heap.size) (hup:FewU up):Calls Try.prog 8 #[.agg (stkC g (.slice AU nU cU) (.slice AL nL cL)).toArray] w (FinsP w n R):=by
 refine (IFinds_any hrs w hu hB hup).mono fun e w' hh=>?_
 rw [hR] at hh
 exact hh.p hn
set_option maxRecDepth 100000 in
set_option maxHeartbeats 8000000 in
theorem awake24_any (w:World):Calls Try.prog 6 #[] w (LawOk w):=by
 have HB:=hide (below_self w)
 have hlit:=fun W=>litW_fin 18 0 1 (-1) W
 have hlit2:=fun W=>litW_ent ⟨0,4,[99]⟩ W
 go_enter Try.func6,Try.ntmps6
 go_upto_region 4 with (first|(go_at_call 16;refine (Base_o w).mono ?_;rintro e1 wB ⟨g0,AL,nL,cL,rfl,hrow,hlay,hg0,hbel⟩;have hg0l:=hrow.lt;clear hlay;replace HB:=hide (HB.out.trans (hbel.mono HB.out.size));have hsz2:=hbel.size;have HG:=hide hrow;clear hrow;clear hbel)|(refine wpList_storeW rfl 29 (.tmp 1) (.tmp 2) rfl 6 stk_size (wB.heap.size) 29 rfl (stkC ⟨0,0,0,0⟩ (.slice none 0 0) (.slice none 0 0)) (stkC gB (.slice (some ⟨g0,0,none⟩) 5 5) (.slice AL nL cL)) rfl (RowL.new wB 29 (stkC ⟨0,0,0,0⟩ (.slice none 0 0) (.slice none 0 0))) rfl rfl (stkC_one _ _ _ _ _ _ _) ?_;intro wS3 hr3 hg3 hs3;have hzb:=below_stored' hg3;replace HB:=hide (HB.out.trans (hzb.mono HB.out.size));replace HG:=hide (HG.out.on hzb);have hsz4:=hzb.size;have R1:=hide hr3;have hlt3:=hr3.lt;have q1_4:wS3.cell? ⟨wB.heap.size,4,none⟩=some (.slice (some ⟨g0,0,none⟩) 5 5):=R1.out.cell 4;have q1_0:wS3.cell? ⟨wB.heap.size,0,none⟩=some (.int .i64 1):=R1.out.cell 0;have q1_1:wS3.cell? ⟨wB.heap.size,1,none⟩=some (.int .i64 5):=R1.out.cell 1;have q1_2:wS3.cell? ⟨wB.heap.size,2,none⟩=some (.int .i64 6):=R1.out.cell 2;have q1_3:wS3.cell? ⟨wB.heap.size,3,none⟩=some (.int .i64 5):=R1.out.cell 3;have q1_5:wS3.cell? ⟨wB.heap.size,5,none⟩=some (.slice AL nL cL):=R1.out.cell 5;clear hzb hr3;clear hg3 hs3)|(refine wpList_storeV rfl 40 (.tmp 9) (.tmp 7) rfl ens_size g0 5 46 rfl (.slice (some ⟨wS3.heap.size,0,none⟩) 1 1) rfl rfl rfl upC (HG.out.on (below_new (below_self wS3) (.cells #[.int .i64 0,.int .i64 4,.string ⟨#[99]⟩] 53))) (show 5 < 65 from by decide) ?_;intro w5 hr5 hg5 hs5;replace hr5:RowL w5 g0 46 (upC1 (.slice (some ⟨wS3.heap.size,0,none⟩) 1 1)):=hr5;have hbe:=(below_new (below_self wS3) (.cells #[.int .i64 0,.int .i64 4,.string ⟨#[99]⟩] 53));have hbs:=hbe.size;have HG5:=hide hr5;have HB5:=hide ((HB.out.trans (hbe.mono HB.out.size)).grown hg5 (by omega) (pu4 (by omega)));have R15:=hide ((R1.out.on hbe).grown hg5 (pu5 (by omega)));have HE5:=hide ((RowL.new wS3 53 (cellsE ⟨0,4,[99]⟩)).grown hg5 (pu5 (by omega)));have hs5l:=hg5.size;have q4:w5.cell? ⟨wB.heap.size,4,none⟩=some (.slice (some ⟨g0,0,none⟩) 5 5):=R15.out.cell 4;clear hr5 hg5 hs5 hbe HG R1 HB)|(refine wpList_storeC rfl 46 (.tmp 15) (.tmp 14) rfl 13 nod_size g0 39 46 rfl (upC1 (.slice (some ⟨wS3.heap.size,0,none⟩) 1 1)) (nodC ndM (.slice none 0 0) (.slice none 0 0)) rfl HG5.out rfl (show 39+13≤65 from (by decide)) (nodC_one _ _ _ _ _ _ _) ?_;intro w6 hr6 hg6 hs6;rw [up_M] at hr6;have HG6:=hide hr6;have HB6:=hide (HB5.out.grown hg6 HB5.out.size (pu4 (by omega)));have R16:=hide (R15.out.grown hg6 (pu5 (by omega)));have HE6:=hide (HE5.out.grown hg6 (pu5 (by omega)));have hs6l:=hg6.size;clear q4 hr6 hg6 hs6;have HU:=hide (nods_M HG6.out HE6.out);clear HG6 HE6;have q1_4:w6.cell? ⟨wB.heap.size,4,none⟩=some (.slice (some ⟨g0,0,none⟩) 5 5):=R16.out.cell 4;have q1_0:w6.cell? ⟨wB.heap.size,0,none⟩=some (.int .i64 1):=R16.out.cell 0;have q1_1:w6.cell? ⟨wB.heap.size,1,none⟩=some (.int .i64 5):=R16.out.cell 1;have q1_2:w6.cell? ⟨wB.heap.size,2,none⟩=some (.int .i64 6):=R16.out.cell 2;have q1_3:w6.cell? ⟨wB.heap.size,3,none⟩=some (.int .i64 5):=R16.out.cell 3;have q1_5:w6.cell? ⟨wB.heap.size,5,none⟩=some (.slice AL nL cL):=R16.out.cell 5))
 go_wp2_with (first|(refine wpList_loadW rfl 29 (.tmp 1) rfl 6 stk_agg stk_size (wB.heap.size) 29 rfl (stkC gB (.slice (some ⟨g0,0,none⟩) 5 5) (.slice AL nL cL)) R16.out rfl ?_)|(go_at_call 10;refine (IWant_any (g:=gB) aw_rsM aw_w1 w6 HU.out (by omega) few_M).mono ?_;rintro e61 wV1 ⟨rfl,hbel⟩;clear q1_4 q1_0 q1_1 q1_2 q1_3 q1_5;replace HB6:=hide (HB6.out.trans (hbel.mono HB6.out.size));replace R16:=hide (R16.out.on hbel);replace HU:=hide (HU.out.under hbel (by omega));have hsz62:=hbel.size;have q1_4:wV1.cell? ⟨wB.heap.size,4,none⟩=some (.slice (some ⟨g0,0,none⟩) 5 5):=R16.out.cell 4;have q1_0:wV1.cell? ⟨wB.heap.size,0,none⟩=some (.int .i64 1):=R16.out.cell 0;have q1_1:wV1.cell? ⟨wB.heap.size,1,none⟩=some (.int .i64 5):=R16.out.cell 1;have q1_2:wV1.cell? ⟨wB.heap.size,2,none⟩=some (.int .i64 6):=R16.out.cell 2;have q1_3:wV1.cell? ⟨wB.heap.size,3,none⟩=some (.int .i64 5):=R16.out.cell 3;have q1_5:wV1.cell? ⟨wB.heap.size,5,none⟩=some (.slice AL nL cL):=R16.out.cell 5;clear hbel)|(go_at_call 10;refine (IWant_any (g:=gB) aw_rsM aw_w2 wV1 HU.out (by omega) few_M).mono ?_;rintro e63 wV2 ⟨rfl,hbel⟩;clear q1_4 q1_0 q1_1 q1_2 q1_3 q1_5;replace HB6:=hide (HB6.out.trans (hbel.mono HB6.out.size));replace R16:=hide (R16.out.on hbel);replace HU:=hide (HU.out.under hbel (by omega));have hsz64:=hbel.size;have q1_4:wV2.cell? ⟨wB.heap.size,4,none⟩=some (.slice (some ⟨g0,0,none⟩) 5 5):=R16.out.cell 4;have q1_0:wV2.cell? ⟨wB.heap.size,0,none⟩=some (.int .i64 1):=R16.out.cell 0;have q1_1:wV2.cell? ⟨wB.heap.size,1,none⟩=some (.int .i64 5):=R16.out.cell 1;have q1_2:wV2.cell? ⟨wB.heap.size,2,none⟩=some (.int .i64 6):=R16.out.cell 2;have q1_3:wV2.cell? ⟨wB.heap.size,3,none⟩=some (.int .i64 5):=R16.out.cell 3;have q1_5:wV2.cell? ⟨wB.heap.size,5,none⟩=some (.slice AL nL cL):=R16.out.cell 5;clear hbel)|(go_at_call 8;refine (IFinds_p (g:=gB) (n:=1) aw_rsM aw_fM rfl wV2 HU.out (by omega) few_M).mono ?_;rintro e65 wF ⟨A5,c5,rfl,h5,hbel⟩;clear q1_4 q1_0 q1_1 q1_2 q1_3 q1_5;replace HB6:=hide (HB6.out.trans (hbel.mono HB6.out.size));replace R16:=hide (R16.out.on hbel);replace HU:=hide (HU.out.under hbel (by omega));have hsz66:=hbel.size;have q1_4:wF.cell? ⟨wB.heap.size,4,none⟩=some (.slice (some ⟨g0,0,none⟩) 5 5):=R16.out.cell 4;have q1_0:wF.cell? ⟨wB.heap.size,0,none⟩=some (.int .i64 1):=R16.out.cell 0;have q1_1:wF.cell? ⟨wB.heap.size,1,none⟩=some (.int .i64 5):=R16.out.cell 1;have q1_2:wF.cell? ⟨wB.heap.size,2,none⟩=some (.int .i64 6):=R16.out.cell 2;have q1_3:wF.cell? ⟨wB.heap.size,3,none⟩=some (.int .i64 5):=R16.out.cell 3;have q1_5:wF.cell? ⟨wB.heap.size,5,none⟩=some (.slice AL nL cL):=R16.out.cell 5;have HF5:=hide h5;clear h5;clear hbel)|(go_at_call 7;refine (EqualFin_same (L:=[⟨18,0,1,-1⟩]) _ (und_up (HF5.out.under (below_new (below_self wF) _) (by omega)) (by simp)) (fr_under (enc_lit1 (OFin_R ⟨18,0,1,-1⟩) wF 35 (lo:=0) (Nat.zero_le _))) (by omega)).mono ?_;rintro e99 wE ⟨rfl,hbel0⟩;have hbel:Below wF.heap.size wF wE:=(below_new (below_self wF) (.cells #[.int .i64 18,.int .i64 0,.int .i64 1,.int .i64 (-1)] 35)).trans (hbel0.mono (by simp));clear q1_4 q1_0 q1_1 q1_2 q1_3 q1_5;replace HB6:=hide (HB6.out.trans (hbel.mono HB6.out.size));replace R16:=hide (R16.out.on hbel);replace HU:=hide (HU.out.under hbel (by omega));replace HF5:=hide (HF5.out.under hbel (by omega));have hsz67:=hbel.size;have q1_4:wE.cell? ⟨wB.heap.size,4,none⟩=some (.slice (some ⟨g0,0,none⟩) 5 5):=R16.out.cell 4;have q1_0:wE.cell? ⟨wB.heap.size,0,none⟩=some (.int .i64 1):=R16.out.cell 0;have q1_1:wE.cell? ⟨wB.heap.size,1,none⟩=some (.int .i64 5):=R16.out.cell 1;have q1_2:wE.cell? ⟨wB.heap.size,2,none⟩=some (.int .i64 6):=R16.out.cell 2;have q1_3:wE.cell? ⟨wB.heap.size,3,none⟩=some (.int .i64 5):=R16.out.cell 3;have q1_5:wE.cell? ⟨wB.heap.size,5,none⟩=some (.slice AL nL cL):=R16.out.cell 5;clear hbel hbel0 HF5)|(go_at_call 16;refine (Base_any wE).mono ?_;rintro e68 wB2 ⟨BU,mU,dU,BL,mL,dL,rfl,hu2,hl2,hbel⟩;clear hl2;clear q1_4 q1_0 q1_1 q1_2 q1_3 q1_5;replace HB6:=hide (HB6.out.trans (hbel.mono HB6.out.size));replace R16:=hide (R16.out.on hbel);replace HU:=hide (HU.out.under hbel (by omega));have hsz69:=hbel.size;have q1_4:wB2.cell? ⟨wB.heap.size,4,none⟩=some (.slice (some ⟨g0,0,none⟩) 5 5):=R16.out.cell 4;have q1_0:wB2.cell? ⟨wB.heap.size,0,none⟩=some (.int .i64 1):=R16.out.cell 0;have q1_1:wB2.cell? ⟨wB.heap.size,1,none⟩=some (.int .i64 5):=R16.out.cell 1;have q1_2:wB2.cell? ⟨wB.heap.size,2,none⟩=some (.int .i64 6):=R16.out.cell 2;have q1_3:wB2.cell? ⟨wB.heap.size,3,none⟩=some (.int .i64 5):=R16.out.cell 3;have q1_5:wB2.cell? ⟨wB.heap.size,5,none⟩=some (.slice AL nL cL):=R16.out.cell 5;have HU2:=hide hu2;clear hu2;clear hbel)|(go_at_call 8;refine (IFinds_p (g:=gB) (n:=0) aw_rsB aw_fB rfl wB2 HU2.out (by omega) bu_few).mono ?_;rintro e70 wG2 ⟨A6,c6,rfl,h6,hbel⟩;clear h6;clear q1_4 q1_0 q1_1 q1_2 q1_3 q1_5;replace HB6:=hide (HB6.out.trans (hbel.mono HB6.out.size));replace R16:=hide (R16.out.on hbel);replace HU:=hide (HU.out.under hbel (by omega));replace HU2:=hide (HU2.out.under hbel (by omega));have hsz71:=hbel.size;have q1_4:wG2.cell? ⟨wB.heap.size,4,none⟩=some (.slice (some ⟨g0,0,none⟩) 5 5):=R16.out.cell 4;have q1_0:wG2.cell? ⟨wB.heap.size,0,none⟩=some (.int .i64 1):=R16.out.cell 0;have q1_1:wG2.cell? ⟨wB.heap.size,1,none⟩=some (.int .i64 5):=R16.out.cell 1;have q1_2:wG2.cell? ⟨wB.heap.size,2,none⟩=some (.int .i64 6):=R16.out.cell 2;have q1_3:wG2.cell? ⟨wB.heap.size,3,none⟩=some (.int .i64 5):=R16.out.cell 3;have q1_5:wG2.cell? ⟨wB.heap.size,5,none⟩=some (.slice AL nL cL):=R16.out.cell 5;clear hbel))
 go_ret
 exact LawOk.of HB6.out
end Go.Proofs.Ytmhiohnkjpglfaa

