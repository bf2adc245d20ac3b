import Derived.Test.YtggnbflbbfdohaaGreatRo36
import Derived.Test.YtggnbflbbfdohaaGreatRo30
import Derived.Test.YtggnbflbbfdohaaGreatRo17
import Derived.Test.YtggnbflbbfdohaaGreatRo18
import Derived.Test.YtggnbflbbfdohaaGreatRo11
import Derived.Test.YtggnbflbbfdohaaGreatRo27
import Derived.Test.YtggnbflbbfdohaaGreatRo19
import Derived.Test.YtggnbflbbfdohaaGreatRo25
import Derived.Test.YtggnbflbbfdohaaGreatRows
import Derived.Test.YtggnbflbbfdohaaGreatRo1
import Derived.IntWalk
import Derived.Test.YtggnbflbbfdohaaGreatRo3
import Derived.Test.YtggnbflbbfdohaaGreatRo2
import Derived.ChangeKeysEq

namespace Go.Proofs.YtggnbflbbfdohaaGreat
open Go.RowKit Go.Shelf Plain

def ndH:NodV:={ndD with ents:=[⟨0,4,[100]⟩]}
def ndL (t:List UInt8):NodV:={nod0 with k:=1,n:=2,att:={att0 with h:=2,r:=t}}
def upL (t:List UInt8):List NodV:=[ndH,ndD,ndD,ndL t,nod0]
def upCL (E:Value) (t:List UInt8):List Value:=nodC ndD (.slice none 0 0) E++(nodC ndD (.slice none 0 0) (.slice none 0 0)++(nodC ndD (.slice none 0 0) (.slice none 0 0)++(nodC (ndL t) (.slice none 0 0) (.slice none 0 0)++nodC nod0 (.slice none 0 0) (.slice none 0 0))))
theorem up_L (E:Value) (t:List UInt8):splice (upC1 E) 39 (nodC (ndL t) (.slice none 0 0) (.slice none 0 0))=upCL E t:=rfl
set_option maxRecDepth 100000 in
set_option maxHeartbeats 1600000 in
theorem Loop21_any (t:List UInt8) (w:World):Calls Tryz.prog 47 #[st t] w (StkRet w gB (upL t) lsB):=by
 obtain ⟨W1,hW1⟩:∃W1,(w.alloc (.cells (stkC ⟨0,0,0,0⟩ (.slice none 0 0) (.slice none 0 0)).toArray 29))=W1:=⟨_,rfl⟩
 obtain ⟨r0,hb1,hs1⟩:=rowA1 w _ _ hW1
 have hW1':(w.alloc (.cells #[.int .i64 0,.int .i64 0,.int .i64 0,.int .i64 0,.slice none 0 0,.slice none 0 0] 29))=W1:=hW1
 have R2:=hide r0
 have HB:=hide hb1
 have hsz0:=hb1.size
 clear r0 hb1 hW1
 unfold st
 go_enter Tryz.func47,Tryz.ntmps47
 go_wp2_with (first|(go_at_call 48;refine (Base_o W1).mono ?_;rintro e1 wB ⟨g0,AL,nL,cL,rfl,hrow,hlay,hg0,hbel⟩;have hg0l:=hrow.lt;replace HB:=hide (HB.out.trans (hbel.mono HB.out.size));replace R2:=hide (R2.out.on hbel);have hsz2:=hbel.size;have HG:=hide hrow;clear hrow;have HLY:=hide hlay;clear hlay;clear hbel)|(refine wpList_storeW rfl 29 (.tmp 3) (.tmp 4) rfl 6 stk_size (wB.heap.size) 29 rfl (stkC ⟨0,0,0,0⟩ (.slice none 0 0) (.slice none 0 0)) (stkC gB (.slice (some ⟨g0,0,none⟩) 5 5) (.slice AL nL cL)) rfl (RowL.new wB 29 (stkC ⟨0,0,0,0⟩ (.slice none 0 0) (.slice none 0 0))) rfl rfl (stkC_one _ _ _ _ _ _ _) ?_;intro wS3 hr3 hg3 hs3;have hzb:=below_stored' hg3;replace HB:=hide (HB.out.trans (hzb.mono HB.out.size));replace R2:=hide (R2.out.on hzb);replace HG:=hide (HG.out.on hzb);replace HLY:=hide (btw_on HLY.out hzb (by omega));have hsz4:=hzb.size;have R3:=hide hr3;have hlt3:=hr3.lt;have q3_4:wS3.cell? ⟨wB.heap.size,4,none⟩=some (.slice (some ⟨g0,0,none⟩) 5 5):=R3.out.cell 4;clear hzb hr3;clear hg3 hs3)|(refine wpList_storeV rfl 59 (.tmp 11) (.tmp 9) rfl ens_size g0 5 65 rfl (.slice (some ⟨wS3.heap.size,0,none⟩) 1 1) rfl rfl rfl upC (HG.out.on (below_new (below_self wS3) (.cells #[.int .i64 0,.int .i64 4,.string ⟨#[100]⟩] 95))) (show 5 < 65 from by decide) ?_;intro w5 hr5 hg5 hs5;replace hr5:RowL w5 g0 65 (upC1 (.slice (some ⟨wS3.heap.size,0,none⟩) 1 1)):=hr5;have hbe:=(below_new (below_self wS3) (.cells #[.int .i64 0,.int .i64 4,.string ⟨#[100]⟩] 95));have hbs:=hbe.size;have HG5:=hide hr5;have HB5:=hide ((HB.out.trans (hbe.mono HB.out.size)).grown hg5 (by omega) (pu4 (by omega)));have R25:=hide ((R2.out.on hbe).grown hg5 (pu5 (by omega)));have R35:=hide ((R3.out.on hbe).grown hg5 (pu5 (by omega)));have HE5:=hide ((RowL.new wS3 95 (cellsE ⟨0,4,[100]⟩)).grown hg5 (pu5 (by omega)));have HL5:=hide (btw_grown (btw_on HLY.out hbe (by omega)) hg5 (by omega) (by omega));have hs5l:=hg5.size;have q4:w5.cell? ⟨wB.heap.size,4,none⟩=some (.slice (some ⟨g0,0,none⟩) 5 5):=R35.out.cell 4;clear hr5 hg5 hs5 hbe HG R2 R3 HLY HB)|(refine wpList_storeC rfl 65 (.tmp 18) (.tmp 17) rfl 13 nod_size g0 39 65 rfl (upC1 (.slice (some ⟨wS3.heap.size,0,none⟩) 1 1)) (nodC (ndL t) (.slice none 0 0) (.slice none 0 0)) rfl HG5.out rfl (show 39+13≤65 from (by decide)) (nodC_one _ _ _ _ _ _ _) ?_;intro w6 hr6 hg6 hs6;rw [up_L] at hr6;have HG6:=hide hr6;have HB6:=hide (HB5.out.grown hg6 HB5.out.size (pu4 (by omega)));have R26:=hide (R25.out.grown hg6 (pu5 (by omega)));have R36:=hide (R35.out.grown hg6 (pu5 (by omega)));have HE6:=hide (HE5.out.grown hg6 (pu5 (by omega)));have HL6:=hide (btw_grown HL5.out hg6 (by omega) (by omega));have hs6l:=hg6.size;clear hr6 hg6 hs6)|(refine wpList_loadW rfl 29 (.tmp 3) rfl 6 stk_agg stk_size (wB.heap.size) 29 rfl (stkC gB (.slice (some ⟨g0,0,none⟩) 5 5) (.slice AL nL cL)) R36.out rfl ?_)|(refine wpList_storeW rfl 29 (.tmp 2) (.tmp 19) rfl 6 stk_size (w.heap.size) 29 rfl (stkC ⟨0,0,0,0⟩ (.slice none 0 0) (.slice none 0 0)) (stkC gB (.slice (some ⟨g0,0,none⟩) 5 5) (.slice AL nL cL)) rfl R26.out rfl rfl (stkC_one _ _ _ _ _ _ _) ?_;intro w7 hr7 hg7 hs7;have HR7:=hide hr7;have HG7:=hide (HG6.out.grown hg7 (pu5 (by omega)));have HB7:=hide (HB6.out.grown hg7 HB6.out.size (pu4 (by omega)));have HE7:=hide (HE6.out.grown hg7 (pu5 (by omega)));have HL7:=hide (RdE.mono (btw_grown HL6.out hg7 (by omega) (by omega)) (w':=w7) (D':=Under w7.heap.size) (fun _ _=>rfl) (fun b hb=>by have:=hg7.size;unfold Under;omega));clear hr7 hg7 hs7))
 have u7:RdE nodEn w7 (Under w7.heap.size) (some ⟨g0,0,none⟩) 5 (upL t):=nods_row HG7.out HG7.out.lt ⟨none,0,0,_,1,1,rfl,Nat.le_refl _,RdE.none_ _ _ _ _,Nat.le_refl _,ent_row (l:=[⟨0,4,[100]⟩]) HE7.out HE7.out.lt⟩ (ndDR _ _) (ndDR _ _) ⟨none,0,0,none,0,0,rfl,Nat.le_refl _,RdE.none_ _ _ _ _,Nat.le_refl _,RdE.none_ _ _ _ _⟩ (nod0R _ _)
 exact bodyPost_ret (res_cell Tryz.results47 rfl stk_agg stk_size HR7.out rfl) rfl ⟨_,_,_,AL,nL,cL,rfl,u7,HL7.out,HB7.out⟩
theorem upL_few {t:List UInt8} (ht:t.length≤40):FewU (upL t):=by
 refine ⟨by simp [upL],fun x hx=>?_⟩
 simp only [upL,List.mem_cons,List.not_mem_nil,or_false] at hx
 rcases hx with rfl|rfl|rfl|rfl|rfl
 ·refine ⟨fun i e hi he=>?_,by decide,by decide,by decide,by decide,by decide,fun e he=>?_⟩
  ·obtain rfl:i=0:=by have:i < 1:=hi;omega
   cases he
   exact ⟨by decide,by decide,fun p h=>absurd h (by omega)⟩
  ·rw [List.mem_singleton.1 he]
   decide
 ·exact ⟨fun i e hi he=>absurd hi (by simp [ndD,nod0]),by decide,by decide,by decide,by decide,by decide,fun e he=>by simp [ndD,nod0] at he⟩
 ·exact ⟨fun i e hi he=>absurd hi (by simp [ndD,nod0]),by decide,by decide,by decide,by decide,by decide,fun e he=>by simp [ndD,nod0] at he⟩
 ·exact ⟨fun i e hi he=>absurd hi (by simp [ndL,nod0]),⟨by simp [ndL],by simp [ndL]⟩,⟨by simp [ndL],by simp [ndL]⟩,by simp [ndL,nod0],by simp [ndL,nod0],ht,fun e he=>by simp [ndL,nod0] at he⟩
 ·exact plain0
theorem RFinds21_p {g:GeoQ} {AU AL:Option Addr} {nU cU nL cL B:Nat} {up:List NodV} {ls:List (List NodV)} {R:List FinV} {n:Nat} (hR:allR up ls=R) (hn:R.length=n) (w:World) (hu:RdE nodEn w (Under B) AU nU up) (h:RdE layEn w (Under B) AL nL ls) (hB:B≤w.heap.size) (hF:FewL ls) (hup:FewU up):Calls Tryz.prog 18 #[.agg (stkC g (.slice AU nU cU) (.slice AL nL cL)).toArray] w (fun e w'=>∃A c,e=.returned (.slice A n c)∧RdE finEn w' (Under w'.heap.size) A n R∧Below w.heap.size w w'):=by
 refine (RFinds21_any rfl rfl w hu h hB hF hup).mono fun e w' hh=>?_
 obtain ⟨A,m,c,h1,h2,h3⟩:=hh
 have h4:findR up (reachL up (walkW up [1]).1) (walkW up [1]).1 (runR up ls (walkW up [1]).1 (walkW up [1]).1.length).2 up.length=R:=hR
 rw [h4] at h2
 obtain rfl:n=m:=by rw [←hn];exact h2.1
 exact ⟨A,c,h1,h2,h3⟩
theorem fr_und {α:Type} {E:Enc α} {w:World} {lo hi:Nat} {A:Option Addr} {n:Nat} {l:List α} (h:RdE E w (fun b=>lo≤b∧b < hi) A n l):RdE E w (Under hi) A n l:=h.mono (fun _ _=>rfl) (fun _ h=>h.2)
set_option maxRecDepth 100000 in
set_option maxHeartbeats 4000000 in
theorem IsF_any {t:List UInt8} {c:Int} (hR:allR (upL t) lsB=[⟨c,0,4,-1⟩]) (ht:t.length≤40) (w:World):Calls Tryz.prog 46 #[st t,.int .i64 c] w (BoolB w true):=by
 have HB:=hide (below_self w)
 have HR:=hide hR
 have HTL:=hide ht
 have hlit:=fun W=>litW_fin c 0 4 (-1) W
 unfold st
 clear hR ht
 go_enter Tryz.func46,Tryz.ntmps46
 go_wp2_with (first|(go_at_call 47;refine (Loop21_any t w).mono ?_;rintro e1 wS ⟨AU,nU,cU,AL,nL,cL,rfl,hu,hl,hbel⟩;replace HB:=hide (HB.out.trans (hbel.mono HB.out.size));have hsz2:=hbel.size;have HU:=hide hu;clear hu;have HL:=hide hl;clear hl;clear hbel)|(go_at_call 18;refine (RFinds21_p (n:=1) HR.out rfl wS HU.out HL.out (by omega) ba_few (upL_few HTL.out)).mono ?_;rintro e3 wF ⟨A5,c5,rfl,h5,hbel⟩;replace HB:=hide (HB.out.trans (hbel.mono HB.out.size));replace HU:=hide (HU.out.under hbel (by omega));replace HL:=hide (HL.out.under hbel (by omega));have hsz4:=hbel.size;have HF5:=hide h5;clear h5;clear hbel)|(go_at_call 17;refine (EqualFin_same (L:=[⟨c,0,4,-1⟩]) _ (und_up (HF5.out.under (below_new (below_self wF) _) (by omega)) (by simp)) (fr_und (enc_lit1 (OFin_R ⟨c,0,4,-1⟩) wF 47 (lo:=0) (Nat.zero_le _))) (by omega)).mono ?_;rintro e99 wE ⟨rfl,hbel0⟩;have hbel:Below wF.heap.size wF wE:=(below_new (below_self wF) (.cells #[.int .i64 c,.int .i64 0,.int .i64 4,.int .i64 (-1)] 47)).trans (hbel0.mono (by simp));replace HB:=hide (HB.out.trans (hbel.mono HB.out.size));clear hbel hbel0 HF5))
 go_ret
 exact BoolB.of HB.out
theorem aw21_0:allR (upL [47,100]) lsB=[⟨10,0,4,-1⟩]:=by decide +kernel
theorem aw21_1:allR (upL [47]) lsB=[⟨10,0,4,-1⟩]:=by decide +kernel
theorem aw21_2:allR (upL [47,120]) lsB=[⟨11,0,4,-1⟩]:=by decide +kernel
theorem aw21_3:allR (upL [97]) lsB=[⟨11,0,4,-1⟩]:=by decide +kernel
theorem aw21_4:allR (upL [97,47]) lsB=[⟨9,0,4,-1⟩]:=by decide +kernel
theorem aw21_l:loopR [[100]] [100]=true:=by decide +kernel
theorem aw21_w:(walkW upB [1]).1.length=1:=by decide +kernel
theorem aw21_c:(treeV upB lsB (walkW upB [1]).1).map clmR=[(1,1)]:=by decide +kernel
theorem bu_few21:FewU upB:=by
 refine ⟨by decide,fun x hx=>?_⟩
 simp only [upB,List.mem_cons,List.not_mem_nil,or_false] at hx
 have h1:PlainN ndD:=⟨fun i e hi he=>absurd hi (by simp [ndD,nod0]),by decide,by decide,by decide,by decide,by decide,fun e he=>by simp [ndD,nod0] at he⟩
 rcases hx with rfl|rfl|rfl|rfl|rfl
 ·exact h1
 ·exact h1
 ·exact h1
 ·exact plain0
 ·exact plain0
theorem str_row1 {w:World} {g:Nat} {x:List UInt8} (h:RowL w g 9 [.string ⟨x.toArray⟩]):Rd st w w.heap.size (some ⟨g,0,none⟩) 1 [x]:=by
 refine ⟨rfl,fun _=>⟨g,0,rfl,h.lt,fun i y hy=>?_⟩⟩
 have hi:i=0:=by have:=(List.getElem?_eq_some_iff.1 hy).1;simpa using this
 subst hi
 obtain rfl:x=y:=by simpa using hy
 exact h.cell 0
theorem IsM_any {t:List UInt8} {c:Int} (h:(t,c)∈([([47,100],10),([47],10),([47,120],11),([97],11),([97,47],9)]:List (List UInt8×Int))) (w:World):Calls Tryz.prog 46 #[st t,.int .i64 c] w (BoolB w true):=by
 simp only [List.mem_cons,List.not_mem_nil,or_false,Prod.mk.injEq] at h
 rcases h with ⟨rfl,rfl⟩|⟨rfl,rfl⟩|⟨rfl,rfl⟩|⟨rfl,rfl⟩|⟨rfl,rfl⟩
 ·exact IsF_any aw21_0 (by decide) w
 ·exact IsF_any aw21_1 (by decide) w
 ·exact IsF_any aw21_2 (by decide) w
 ·exact IsF_any aw21_3 (by decide) w
 ·exact IsF_any aw21_4 (by decide) w
theorem Claims21_p {g:GeoQ} {AU AL:Option Addr} {nU cU nL cL B:Nat} {up:List NodV} {ls:List (List NodV)} {C:List (Int×Int)} {n:Nat} (hC:(treeV up ls (walkW up [1]).1).map clmR=C) (hn:(walkW up [1]).1.length=n) (w:World) (hu:RdE nodEn w (Under B) AU nU up) (h:RdE layEn w (Under B) AL nL ls) (hB:B≤w.heap.size) (hF:FewL ls) (hup:FewU up):Calls Tryz.prog 21 #[.agg (stkC g (.slice AU nU cU) (.slice AL nL cL)).toArray] w (fun e w'=>∃A c,e=.returned (.slice A n c)∧RdE prEn w' (Under w'.heap.size) A n C∧Below w.heap.size w w'):=by
 rw [←hC]
 exact Claims21_any rfl rfl hn w hu h hB hF hup
set_option maxRecDepth 100000 in
set_option maxHeartbeats 8000000 in
theorem awake21_any (w:World):Calls Tryz.prog 16 #[] w (LawOk w):=by
 have HB:=hide (below_self w)
 have hlit:=fun W=>lit_str1 [100] W
 have hlit2:=fun W=>lit_plcx 1 1 W
 go_enter Tryz.func16,Tryz.ntmps16
 go_wp2_with (first|(go_at_call 46;refine (IsM_any (by decide) _).mono ?_;rintro e7 wI ⟨rfl,hbel⟩;replace HB:=hide (HB.out.trans (hbel.mono HB.out.size));clear hbel)|(go_at_call 23;refine (RLoops_b (own:=[[100]]) (s:=[100]) aw21_l _ (str_row1 (RowL.new wI 9 [.string ⟨#[100]⟩])) (Nat.le_refl _) (by decide) (by decide) (by decide)).mono ?_;rintro e99 wE ⟨rfl,hbel0⟩;have hbel:Below wI.heap.size wI wE:=(below_new (below_self wI) (.cells #[.string ⟨#[100]⟩] 9)).trans (hbel0.mono (by simp));replace HB:=hide (HB.out.trans (hbel.mono HB.out.size));clear hbel hbel0)|(go_at_call 48;refine (Base_any wE).mono ?_;rintro e1 wB2 ⟨BU,mU,dU,BL,mL,dL,rfl,hu2,hl2,hbel⟩;replace HB:=hide (HB.out.trans (hbel.mono HB.out.size));have hsz2:=hbel.size;have HU2:=hide hu2;clear hu2;have HL2:=hide hl2;clear hl2;clear hbel)|(go_at_call 21;refine (Claims21_p (n:=1) aw21_c aw21_w wB2 HU2.out HL2.out (by omega) ba_few bu_few21).mono ?_;rintro e3 wC ⟨A5,c5,rfl,h5,hbel⟩;replace HB:=hide (HB.out.trans (hbel.mono HB.out.size));replace HU2:=hide (HU2.out.under hbel (by omega));replace HL2:=hide (HL2.out.under hbel (by omega));have hsz4:=hbel.size;have HC5:=hide h5;clear h5;clear hbel)|(go_at_call 20;refine (EqPlc_same (L:=[(1,1)]) _ (HC5.out.under (below_new (below_self wC) (.cells #[.int .i64 1,.int .i64 1] 31)) (by omega)) (enc_lit1 (E:=prEn) (x:=(1,1)) (cs:=[.int .i64 1,.int .i64 1]) (fun _ _=>rfl) wC 31 (lo:=0) (Nat.zero_le _)) (by omega)).mono ?_;rintro e97 wG ⟨rfl,hbel0⟩;have hbel:Below wC.heap.size wC wG:=(below_new (below_self wC) (.cells #[.int .i64 1,.int .i64 1] 31)).trans (hbel0.mono (by simp));replace HB:=hide (HB.out.trans (hbel.mono HB.out.size));clear hbel hbel0 HC5))
 go_ret
 exact LawOk.of HB.out
end Go.Proofs.YtggnbflbbfdohaaGreat

namespace Go.Proofs.YtggnbflbbfdohaaGreat
open Go.RowKit Go.Shelf Plain

set_option maxRecDepth 100000 in
set_option maxHeartbeats 800000 in
theorem CloneNod_d {B:Nat} {A:Option Addr} {n c:Nat} {l:List NodV} (w:World) (h:RdE nodEn w (Under B) A n l) (hB:B≤w.heap.size) (hn:n≤100000):Calls Tryz.prog 26 #[.slice A n c] w (fun e w'=>∃A' c',e=.returned (.slice A' n c')∧OwD nodEn (Under B) w' w.heap.size 65 A' n c' l∧Below w.heap.size w w'):=by
 have H:=hide h
 cases A with
 | none =>
  have h0:n=0:=by
   rcases Nat.eq_zero_or_pos n with h0|h0
   ·exact h0
   ·obtain ⟨_,_,e,_⟩:=h.2 h0;cases e
  subst h0
  obtain rfl:l=[]:=List.eq_nil_of_length_eq_zero h.1
  have hnil:=fun W=>Lib.run_eql_slice_nil (P:=Tryz.prog) W 24 65 none 0 c 0 0 Tryz.underlying24
  clear h
  go_enter Tryz.func26,Tryz.ntmps26
  go_wp2
  go_ret
  exact ⟨none,0,rfl,OwD.nil_ _ _ _ _ (fun _ h=>Nat.lt_of_lt_of_le h hB),below_self w⟩
 | some a =>
  have hnil:=fun W=>Lib.run_eql_slice_nil (P:=Tryz.prog) W 24 65 (some a) n c 0 0 Tryz.underlying24
  clear h
  go_enter Tryz.func26,Tryz.ntmps26
  go_wp2_with (at_builtin;refine wpList_append_OwD (E:=nodEn) _ rfl (.tmp 5) (.tmp 6) 24 rfl w.heap.size 65 (.agg nodZ.toArray) 144 Tryz.underlying24 nodw_info rfl (by decide) (fun _=>False) (some ⟨w.heap.size,0,none⟩) 0 0 [] rfl (OwD.empty nodEn w 65) (Under B) (some a) n c l rfl (und_at H.out (below_new (below_self w) _) hB) (fun b hb=>⟨by unfold Under at hb;simp;omega,fun a' ha=>by cases ha;exact Nat.ne_of_lt (Nat.lt_of_lt_of_le hb hB)⟩) n (by omega) (by omega) (by omega) (by simp) ?_;intro A5 c5 w5 ho5 hb5;have HO5:=hide ho5;have HB5:=hide hb5;clear ho5 hb5)
  go_ret
  exact ⟨A5,c5,rfl,HO5.out.dom (fun _ h=>h.elim (fun h=>h.elim) (fun h=>h)) (fun _ h=>.inr h),(below_new (below_self w) _).trans HB5.out⟩
end Go.Proofs.YtggnbflbbfdohaaGreat

namespace Go.Proofs.YtggnbflbbfdohaaGreat
open Go.RowKit

def VRet (w:World) (v:Value) (x:Ending) (w':World):Prop:=x=.returned v∧Below w.heap.size w w'
theorem VRet.of {w w':World} {v:Value} (h:Below w.heap.size w w'):VRet w v (.returned v) w':=⟨rfl,h⟩
theorem VRet.eq {w w':World} {u v:Value} (e:u=v) (h:Below w.heap.size w w'):VRet w v (.returned u) w':=⟨by rw [e],h⟩
end Go.Proofs.YtggnbflbbfdohaaGreat

namespace Go.Proofs.YtggnbflbbfdohaaGreat
open Go.RowKit Plain

theorem ori_size:∀w,(sizeOf 61).run Tryz.prog w=.ok 3 w:=fun w=>by kernel_rfl
end Go.Proofs.YtggnbflbbfdohaaGreat

namespace Go.Proofs.YtggnbflbbfdohaaGreat
open Go.RowKit Plain

theorem int_size1:∀w,(sizeOf 3).run Tryz.prog w=.ok 1 w:=fun w=>by kernel_rfl
theorem str_size1:∀w,(sizeOf 9).run Tryz.prog w=.ok 1 w:=fun w=>by kernel_rfl
def bitI (b:Int) (k:Nat):Bool:=bits .and .i64 b ((2 ^ k:Nat):Int) != 0
def dropA (x:AttV) (b:Int):AttV:=⟨bits .andNot .i64 x.h b,if bitI b 0 then 0 else x.o,if bitI b 1 then [] else x.r,if bitI b 2 then 0 else x.l,if bitI b 2 then 0 else x.i,if bitI b 2 then 0 else x.g,if bitI b 3 then 0 else x.s⟩
end Go.Proofs.YtggnbflbbfdohaaGreat

namespace Go.Proofs.YtggnbflbbfdohaaGreat
open Go.RowKit Plain

theorem bit_all:∀n:Fin 256,((n.1:Int) % 2=if bitI n.1 0 then 1 else 0)∧((n.1:Int) / 2 % 2=if bitI n.1 1 then 1 else 0)∧((n.1:Int) / 4 % 2=if bitI n.1 2 then 1 else 0)∧((n.1:Int) / 8 % 2=if bitI n.1 3 then 1 else 0):=by decide +kernel
set_option maxRecDepth 100000 in
set_option maxHeartbeats 16000000 in
theorem RDrop_any (x:AttV) (n:Nat) (hn:n < 256) (w:World) {y:AttV} (hy:dropA x n=y):Calls Tryz.prog 28 #[.agg #[.int .i64 x.h,.int .i64 x.o,.string ⟨x.r.toArray⟩,.int .i64 x.l,.int .i64 x.i,.int .i64 x.g,.int .i64 x.s],.int .i64 n] w (VRet w (.agg #[.int .i64 y.h,.int .i64 y.o,.string ⟨y.r.toArray⟩,.int .i64 y.l,.int .i64 y.i,.int .i64 y.g,.int .i64 y.s])):=by
 obtain ⟨hr1,hr2,hr3,hb,hsz⟩:=rows3 w [.int .i64 x.h,.int .i64 x.o,.string ⟨x.r.toArray⟩,.int .i64 x.l,.int .i64 x.i,.int .i64 x.g,.int .i64 x.s] [.int .i64 0,.int .i64 0,.string ⟨#[]⟩,.int .i64 0,.int .i64 0,.int .i64 0,.int .i64 0] [.int .i64 0,.int .i64 0,.string ⟨#[]⟩,.int .i64 0,.int .i64 0,.int .i64 0,.int .i64 0] 63 63 63
 have c0:(((w.alloc (.cells [.int .i64 x.h,.int .i64 x.o,.string ⟨x.r.toArray⟩,.int .i64 x.l,.int .i64 x.i,.int .i64 x.g,.int .i64 x.s].toArray 63)).alloc (.cells [.int .i64 0,.int .i64 0,.string ⟨#[]⟩,.int .i64 0,.int .i64 0,.int .i64 0,.int .i64 0].toArray 63)).alloc (.cells [.int .i64 0,.int .i64 0,.string ⟨#[]⟩,.int .i64 0,.int .i64 0,.int .i64 0,.int .i64 0].toArray 63)).cell? ⟨w.heap.size,0,none⟩=some (.int .i64 x.h):=hr1.cell 0
 have hgx:w.heap.size < (((w.alloc (.cells [.int .i64 x.h,.int .i64 x.o,.string ⟨x.r.toArray⟩,.int .i64 x.l,.int .i64 x.i,.int .i64 x.g,.int .i64 x.s].toArray 63)).alloc (.cells [.int .i64 0,.int .i64 0,.string ⟨#[]⟩,.int .i64 0,.int .i64 0,.int .i64 0,.int .i64 0].toArray 63)).alloc (.cells [.int .i64 0,.int .i64 0,.string ⟨#[]⟩,.int .i64 0,.int .i64 0,.int .i64 0,.int .i64 0].toArray 63)).heap.size:=hr1.lt
 have HX:=hide hr1
 have HZ:=hide hr2
 have HR:=hide hr3
 have HB:=hide hb
 have HS:=hide hsz
 clear hr1 hr2 hr3 hb hsz
 obtain ⟨h0,h1,h2,h3⟩:=bit_all ⟨n,hn⟩
 simp only at h0 h1 h2 h3
 obtain ⟨z,hz⟩:∃z,bits .andNot .i64 x.h n=z:=⟨_,rfl⟩
 obtain ⟨b0,e0⟩:∃c,bitI n 0=c:=⟨_,rfl⟩
 obtain ⟨b1,e1⟩:∃c,bitI n 1=c:=⟨_,rfl⟩
 obtain ⟨b2,e2⟩:∃c,bitI n 2=c:=⟨_,rfl⟩
 obtain ⟨b3,e3⟩:∃c,bitI n 3=c:=⟨_,rfl⟩
 have HY:Hid (y=⟨z,if b0 then 0 else x.o,if b1 then [] else x.r,if b2 then 0 else x.l,if b2 then 0 else x.i,if b2 then 0 else x.g,if b3 then 0 else x.s⟩):=hide (by rw [←hy,←hz,←e0,←e1,←e2,←e3];rfl)
 rw [e0] at h0
 rw [e1] at h1
 rw [e2] at h2
 rw [e3] at h3
 clear hy e0 e1 e2 e3
 cases b0 <;> cases b1 <;> cases b2 <;> cases b3
 all_goals
  simp only [if_true,if_false,Bool.false_eq_true] at h0 h1 h2 h3
  go_enter Tryz.func28,Tryz.ntmps28
  go_wp2_with (first
     | ((with_reducible refine wpList_storeW rfl 63 (.tmp 5) (.tmp 6) rfl 7 att_size (w.heap.size+1+1) 63 rfl [.int .i64 0,.int .i64 0,.string ⟨#[]⟩,.int .i64 0,.int .i64 0,.int .i64 0,.int .i64 0] [.int .i64 x.h,.int .i64 x.o,.string ⟨x.r.toArray⟩,.int .i64 x.l,.int .i64 x.i,.int .i64 x.g,.int .i64 x.s] rfl HR.out rfl rfl (by simp [Value.oneCell']) ?_);intro w' hr hg hs;have HB':=hide (HB.out.grown hg HB.out.size (fun g hg=>by have:=Option.some.inj hg;omega));have HZ':=hide (HZ.out.grown hg (by intro e;have:=Option.some.inj e;omega));have HX':=hide (HX.out.grown hg (by intro e;have:=Option.some.inj e;omega));have HS':=hide (hs.trans HS.out);clear HR HB HZ HX HS c0 hgx;have HR:=hide hr;have HB:=HB';have HZ:=HZ';have HX:=HX';have HS:=HS';have c0:w'.cell? ⟨w.heap.size,0,none⟩=some (.int .i64 x.h):=HX.out.cell 0;have hgx:w.heap.size < w'.heap.size:=HX.out.lt;clear hr hg hs HB' HZ' HS' HX')
     | ((with_reducible refine wpList_storeV rfl 3 (.tmp 10) (.const (.int .i64 0)) rfl int_size1 (w.heap.size+1+1) 1 63 rfl (.int .i64 0) rfl rfl rfl _ HR.out (by simp [splice]) ?_);intro w' hr hg hs;have HB':=hide (HB.out.grown hg HB.out.size (fun g hg=>by have:=Option.some.inj hg;omega));have HZ':=hide (HZ.out.grown hg (by intro e;have:=Option.some.inj e;omega));have HX':=hide (HX.out.grown hg (by intro e;have:=Option.some.inj e;omega));have HS':=hide (hs.trans HS.out);clear HR HB HZ HX HS c0 hgx;have HR:=hide hr;have HB:=HB';have HZ:=HZ';have HX:=HX';have HS:=HS';have c0:w'.cell? ⟨w.heap.size,0,none⟩=some (.int .i64 x.h):=HX.out.cell 0;have hgx:w.heap.size < w'.heap.size:=HX.out.lt;clear hr hg hs HB' HZ' HS' HX')
     | ((with_reducible refine wpList_storeV rfl 9 (.tmp 15) (.const (.string ⟨#[]⟩)) rfl str_size1 (w.heap.size+1+1) 2 63 rfl (.string ⟨#[]⟩) rfl rfl rfl _ HR.out (by simp [splice]) ?_);intro w' hr hg hs;have HB':=hide (HB.out.grown hg HB.out.size (fun g hg=>by have:=Option.some.inj hg;omega));have HZ':=hide (HZ.out.grown hg (by intro e;have:=Option.some.inj e;omega));have HX':=hide (HX.out.grown hg (by intro e;have:=Option.some.inj e;omega));have HS':=hide (hs.trans HS.out);clear HR HB HZ HX HS c0 hgx;have HR:=hide hr;have HB:=HB';have HZ:=HZ';have HX:=HX';have HS:=HS';have c0:w'.cell? ⟨w.heap.size,0,none⟩=some (.int .i64 x.h):=HX.out.cell 0;have hgx:w.heap.size < w'.heap.size:=HX.out.lt;clear hr hg hs HB' HZ' HS' HX')
     | ((with_reducible refine wpList_storeC rfl 61 (.tmp 21) (.tmp 20) rfl 3 ori_size (w.heap.size+1+1) 3 63 rfl _ [.int .i64 0,.int .i64 0,.int .i64 0] rfl HR.out rfl (by simp [splice]) (by simp [Value.oneCell']) ?_);intro w' hr hg hs;have HB':=hide (HB.out.grown hg HB.out.size (fun g hg=>by have:=Option.some.inj hg;omega));have HZ':=hide (HZ.out.grown hg (by intro e;have:=Option.some.inj e;omega));have HX':=hide (HX.out.grown hg (by intro e;have:=Option.some.inj e;omega));have HS':=hide (hs.trans HS.out);clear HR HB HZ HX HS c0 hgx;have HR:=hide hr;have HB:=HB';have HZ:=HZ';have HX:=HX';have HS:=HS';have c0:w'.cell? ⟨w.heap.size,0,none⟩=some (.int .i64 x.h):=HX.out.cell 0;have hgx:w.heap.size < w'.heap.size:=HX.out.lt;clear hr hg hs HB' HZ' HS' HX')
     | ((with_reducible refine wpList_storeV rfl 3 (.tmp 26) (.const (.int .i64 0)) rfl int_size1 (w.heap.size+1+1) 6 63 rfl (.int .i64 0) rfl rfl rfl _ HR.out (by simp [splice]) ?_);intro w' hr hg hs;have HB':=hide (HB.out.grown hg HB.out.size (fun g hg=>by have:=Option.some.inj hg;omega));have HZ':=hide (HZ.out.grown hg (by intro e;have:=Option.some.inj e;omega));have HX':=hide (HX.out.grown hg (by intro e;have:=Option.some.inj e;omega));have HS':=hide (hs.trans HS.out);clear HR HB HZ HX HS c0 hgx;have HR:=hide hr;have HB:=HB';have HZ:=HZ';have HX:=HX';have HS:=HS';have c0:w'.cell? ⟨w.heap.size,0,none⟩=some (.int .i64 x.h):=HX.out.cell 0;have hgx:w.heap.size < w'.heap.size:=HX.out.lt;clear hr hg hs HB' HZ' HS' HX')
     | ((with_reducible refine wpList_storeV rfl 3 (.tmp 31) (.tmp 30) rfl int_size1 (w.heap.size+1+1) 0 63 rfl (.int .i64 z) rfl rfl rfl _ HR.out (by simp [splice]) ?_);intro w' hr hg hs;have HB':=hide (HB.out.grown hg HB.out.size (fun g hg=>by have:=Option.some.inj hg;omega));have HZ':=hide (HZ.out.grown hg (by intro e;have:=Option.some.inj e;omega));have HX':=hide (HX.out.grown hg (by intro e;have:=Option.some.inj e;omega));have HS':=hide (hs.trans HS.out);clear HR HB HZ HX HS c0 hgx;have HR:=hide hr;have HB:=HB';have HZ:=HZ';have HX:=HX';have HS:=HS';have c0:w'.cell? ⟨w.heap.size,0,none⟩=some (.int .i64 x.h):=HX.out.cell 0;have hgx:w.heap.size < w'.heap.size:=HX.out.lt;clear hr hg hs HB' HZ' HS' HX')
     | (with_reducible refine wpList_loadW rfl 63 (.tmp 2) rfl 7 att_agg att_size w.heap.size 63 rfl [.int .i64 x.h,.int .i64 x.o,.string ⟨x.r.toArray⟩,.int .i64 x.l,.int .i64 x.i,.int .i64 x.g,.int .i64 x.s] HX.out rfl ?_)
     | (with_reducible refine wpList_loadW rfl 63 (.tmp 5) rfl 7 att_agg att_size (w.heap.size+1+1) 63 rfl _ HR.out (by simp [splice]) ?_)
     | ((with_reducible refine wpList_storeW rfl 63 (.tmp 4) (.tmp 32) rfl 7 att_size (w.heap.size+1) 63 rfl [.int .i64 0,.int .i64 0,.string ⟨#[]⟩,.int .i64 0,.int .i64 0,.int .i64 0,.int .i64 0] _ rfl HZ.out (by simp [splice]) rfl (by simp [splice,Value.oneCell']) ?_);intro w9 hr9 hg9 hs9;have HR9:=hide hr9;have HB9:=hide (HB.out.grown hg9 HB.out.size (fun g hg=>by have:=Option.some.inj hg;omega));clear hr9 hg9 hs9))
  exact bodyPost_ret (res_cell Tryz.results28 rfl att_agg att_size HR9.out (by simp [splice])) rfl (VRet.eq (by rw [HY.out];rfl) HB9.out)
end Go.Proofs.YtggnbflbbfdohaaGreat

