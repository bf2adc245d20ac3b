import Derived.Test.YtnhegahpfacdgaaGreatRt32
import Derived.Test.YtnhegahpfacdgaaGreatRt29
import Derived.Test.YtnhegahpfacdgaaGreatRt17
import Derived.Test.YtnhegahpfacdgaaGreatRt25
import Derived.Test.YtnhegahpfacdgaaGreatRt30

namespace Go.Proofs.YtnhegahpfacdgaaGreat
open Go.RowKit Go.Shelf Plain

def ndH:NodV:={ndD with ents:=[⟨0,4,[100]⟩]}
def ndL (t:List UInt8):NodV:={nod0 with k:=1,n:=2,att:={att0 with h:=2,r:=t}}
def upL (t:List UInt8):List NodV:=[ndH,ndD,ndD,ndL t,nod0]
def upCL (E:Value) (t:List UInt8):List Value:=nodC ndD (.slice none 0 0) E++(nodC ndD (.slice none 0 0) (.slice none 0 0)++(nodC ndD (.slice none 0 0) (.slice none 0 0)++(nodC (ndL t) (.slice none 0 0) (.slice none 0 0)++nodC nod0 (.slice none 0 0) (.slice none 0 0))))
theorem up_L (E:Value) (t:List UInt8):splice (upC1 E) 39 (nodC (ndL t) (.slice none 0 0) (.slice none 0 0))=upCL E t:=rfl
set_option maxRecDepth 100000 in
set_option maxHeartbeats 1600000 in
theorem Loop21_any (t:List UInt8) (w:World):Calls Tryz.prog 18 #[st t] w (StkRet w gB (upL t) lsB):=by
 obtain ⟨W1,hW1⟩:∃W1,(w.alloc (.cells (stkC ⟨0,0,0,0⟩ (.slice none 0 0) (.slice none 0 0)).toArray 29))=W1:=⟨_,rfl⟩
 obtain ⟨r0,hb1,hs1⟩:=rowA1 w _ _ hW1
 have hW1':(w.alloc (.cells #[.int .i64 0,.int .i64 0,.int .i64 0,.int .i64 0,.slice none 0 0,.slice none 0 0] 29))=W1:=hW1
 have R2:=hide r0
 have HB:=hide hb1
 have hsz0:=hb1.size
 clear r0 hb1 hW1
 unfold st
 go_enter Tryz.func18,Tryz.ntmps18
 go_wp2_with (first|(go_at_call 19;refine (Base_o W1).mono ?_;rintro e1 wB ⟨g0,AL,nL,cL,rfl,hrow,hlay,hg0,hbel⟩;have hg0l:=hrow.lt;replace HB:=hide (HB.out.trans (hbel.mono HB.out.size));replace R2:=hide (R2.out.on hbel);have hsz2:=hbel.size;have HG:=hide hrow;clear hrow;have HLY:=hide hlay;clear hlay;clear hbel)|(refine wpList_storeW rfl 29 (.tmp 3) (.tmp 4) rfl 6 stk_size (wB.heap.size) 29 rfl (stkC ⟨0,0,0,0⟩ (.slice none 0 0) (.slice none 0 0)) (stkC gB (.slice (some ⟨g0,0,none⟩) 5 5) (.slice AL nL cL)) rfl (RowL.new wB 29 (stkC ⟨0,0,0,0⟩ (.slice none 0 0) (.slice none 0 0))) rfl rfl (stkC_one _ _ _ _ _ _ _) ?_;intro wS3 hr3 hg3 hs3;have hzb:=below_stored' hg3;replace HB:=hide (HB.out.trans (hzb.mono HB.out.size));replace R2:=hide (R2.out.on hzb);replace HG:=hide (HG.out.on hzb);replace HLY:=hide (btw_on HLY.out hzb (by omega));have hsz4:=hzb.size;have R3:=hide hr3;have hlt3:=hr3.lt;have q3_4:wS3.cell? ⟨wB.heap.size,4,none⟩=some (.slice (some ⟨g0,0,none⟩) 5 5):=R3.out.cell 4;clear hzb hr3;clear hg3 hs3)|(refine wpList_storeV rfl 59 (.tmp 11) (.tmp 9) rfl ens_size g0 5 65 rfl (.slice (some ⟨wS3.heap.size,0,none⟩) 1 1) rfl rfl rfl upC (HG.out.on (below_new (below_self wS3) (.cells #[.int .i64 0,.int .i64 4,.string ⟨#[100]⟩] 87))) (show 5 < 65 from by decide) ?_;intro w5 hr5 hg5 hs5;replace hr5:RowL w5 g0 65 (upC1 (.slice (some ⟨wS3.heap.size,0,none⟩) 1 1)):=hr5;have hbe:=(below_new (below_self wS3) (.cells #[.int .i64 0,.int .i64 4,.string ⟨#[100]⟩] 87));have hbs:=hbe.size;have HG5:=hide hr5;have HB5:=hide ((HB.out.trans (hbe.mono HB.out.size)).grown hg5 (by omega) (pu4 (by omega)));have R25:=hide ((R2.out.on hbe).grown hg5 (pu5 (by omega)));have R35:=hide ((R3.out.on hbe).grown hg5 (pu5 (by omega)));have HE5:=hide ((RowL.new wS3 87 (cellsE ⟨0,4,[100]⟩)).grown hg5 (pu5 (by omega)));have HL5:=hide (btw_grown (btw_on HLY.out hbe (by omega)) hg5 (by omega) (by omega));have hs5l:=hg5.size;have q4:w5.cell? ⟨wB.heap.size,4,none⟩=some (.slice (some ⟨g0,0,none⟩) 5 5):=R35.out.cell 4;clear hr5 hg5 hs5 hbe HG R2 R3 HLY HB)|(refine wpList_storeC rfl 65 (.tmp 18) (.tmp 17) rfl 13 nod_size g0 39 65 rfl (upC1 (.slice (some ⟨wS3.heap.size,0,none⟩) 1 1)) (nodC (ndL t) (.slice none 0 0) (.slice none 0 0)) rfl HG5.out rfl (show 39+13≤65 from (by decide)) (nodC_one _ _ _ _ _ _ _) ?_;intro w6 hr6 hg6 hs6;rw [up_L] at hr6;have HG6:=hide hr6;have HB6:=hide (HB5.out.grown hg6 HB5.out.size (pu4 (by omega)));have R26:=hide (R25.out.grown hg6 (pu5 (by omega)));have R36:=hide (R35.out.grown hg6 (pu5 (by omega)));have HE6:=hide (HE5.out.grown hg6 (pu5 (by omega)));have HL6:=hide (btw_grown HL5.out hg6 (by omega) (by omega));have hs6l:=hg6.size;clear hr6 hg6 hs6)|(refine wpList_loadW rfl 29 (.tmp 3) rfl 6 stk_agg stk_size (wB.heap.size) 29 rfl (stkC gB (.slice (some ⟨g0,0,none⟩) 5 5) (.slice AL nL cL)) R36.out rfl ?_)|(refine wpList_storeW rfl 29 (.tmp 2) (.tmp 19) rfl 6 stk_size (w.heap.size) 29 rfl (stkC ⟨0,0,0,0⟩ (.slice none 0 0) (.slice none 0 0)) (stkC gB (.slice (some ⟨g0,0,none⟩) 5 5) (.slice AL nL cL)) rfl R26.out rfl rfl (stkC_one _ _ _ _ _ _ _) ?_;intro w7 hr7 hg7 hs7;have HR7:=hide hr7;have HG7:=hide (HG6.out.grown hg7 (pu5 (by omega)));have HB7:=hide (HB6.out.grown hg7 HB6.out.size (pu4 (by omega)));have HE7:=hide (HE6.out.grown hg7 (pu5 (by omega)));have HL7:=hide (RdE.mono (btw_grown HL6.out hg7 (by omega) (by omega)) (w':=w7) (D':=Under w7.heap.size) (fun _ _=>rfl) (fun b hb=>by have:=hg7.size;unfold Under;omega));clear hr7 hg7 hs7))
 have u7:RdE nodEn w7 (Under w7.heap.size) (some ⟨g0,0,none⟩) 5 (upL t):=nods_row HG7.out HG7.out.lt ⟨none,0,0,_,1,1,rfl,Nat.le_refl _,RdE.none_ _ _ _ _,Nat.le_refl _,ent_row (l:=[⟨0,4,[100]⟩]) HE7.out HE7.out.lt⟩ (ndDR _ _) (ndDR _ _) ⟨none,0,0,none,0,0,rfl,Nat.le_refl _,RdE.none_ _ _ _ _,Nat.le_refl _,RdE.none_ _ _ _ _⟩ (nod0R _ _)
 exact bodyPost_ret (res_cell Tryz.results18 rfl stk_agg stk_size HR7.out rfl) rfl ⟨_,_,_,AL,nL,cL,rfl,u7,HL7.out,HB7.out⟩
theorem upL_few {t:List UInt8} (ht:t.length≤40):FewU (upL t):=by
 refine ⟨by simp [upL],fun x hx=>?_⟩
 simp only [upL,List.mem_cons,List.not_mem_nil,or_false] at hx
 rcases hx with rfl|rfl|rfl|rfl|rfl
 ·refine ⟨fun i e hi he=>?_,by decide,by decide,by decide,by decide,by decide,fun e he=>?_⟩
  ·obtain rfl:i=0:=by have:i < 1:=hi;omega
   cases he
   exact ⟨by decide,by decide,fun p h=>absurd h (by omega)⟩
  ·rw [List.mem_singleton.1 he]
   decide
 ·exact ⟨fun i e hi he=>absurd hi (by simp [ndD,nod0]),by decide,by decide,by decide,by decide,by decide,fun e he=>by simp [ndD,nod0] at he⟩
 ·exact ⟨fun i e hi he=>absurd hi (by simp [ndD,nod0]),by decide,by decide,by decide,by decide,by decide,fun e he=>by simp [ndD,nod0] at he⟩
 ·exact ⟨fun i e hi he=>absurd hi (by simp [ndL,nod0]),⟨by simp [ndL],by simp [ndL]⟩,⟨by simp [ndL],by simp [ndL]⟩,by simp [ndL,nod0],by simp [ndL,nod0],ht,fun e he=>by simp [ndL,nod0] at he⟩
 ·exact plain0
theorem RFinds21_p {g:GeoQ} {AU AL:Option Addr} {nU cU nL cL B:Nat} {up:List NodV} {ls:List (List NodV)} {R:List FinV} {n:Nat} (hR:allR up ls=R) (hn:R.length=n) (w:World) (hu:RdE nodEn w (Under B) AU nU up) (h:RdE layEn w (Under B) AL nL ls) (hB:B≤w.heap.size) (hF:FewL ls) (hup:FewU up):Calls Tryz.prog 7 #[.agg (stkC g (.slice AU nU cU) (.slice AL nL cL)).toArray] w (fun e w'=>∃A c,e=.returned (.slice A n c)∧RdE finEn w' (Under w'.heap.size) A n R∧Below w.heap.size w w'):=by
 refine (RFinds21_any rfl rfl w hu h hB hF hup).mono fun e w' hh=>?_
 obtain ⟨A,m,c,h1,h2,h3⟩:=hh
 have h4:findR up (reachL up (walkW up [1]).1) (walkW up [1]).1 (runR up ls (walkW up [1]).1 (walkW up [1]).1.length).2 up.length=R:=hR
 rw [h4] at h2
 obtain rfl:n=m:=by rw [←hn];exact h2.1
 exact ⟨A,c,h1,h2,h3⟩
theorem fr_und {α:Type} {E:Enc α} {w:World} {lo hi:Nat} {A:Option Addr} {n:Nat} {l:List α} (h:RdE E w (fun b=>lo≤b∧b < hi) A n l):RdE E w (Under hi) A n l:=h.mono (fun _ _=>rfl) (fun _ h=>h.2)
set_option maxRecDepth 100000 in
set_option maxHeartbeats 4000000 in
theorem IsF_any {t:List UInt8} {c:Int} (hR:allR (upL t) lsB=[⟨c,0,4,-1⟩]) (ht:t.length≤40) (w:World):Calls Tryz.prog 17 #[st t,.int .i64 c] w (BoolB w true):=by
 have HB:=hide (below_self w)
 have HR:=hide hR
 have HTL:=hide ht
 have hlit:=fun W=>litW_fin c 0 4 (-1) W
 unfold st
 clear hR ht
 go_enter Tryz.func17,Tryz.ntmps17
 go_wp2_with (first|(go_at_call 18;refine (Loop21_any t w).mono ?_;rintro e1 wS ⟨AU,nU,cU,AL,nL,cL,rfl,hu,hl,hbel⟩;replace HB:=hide (HB.out.trans (hbel.mono HB.out.size));have hsz2:=hbel.size;have HU:=hide hu;clear hu;have HL:=hide hl;clear hl;clear hbel)|(go_at_call 7;refine (RFinds21_p (n:=1) HR.out rfl wS HU.out HL.out (by omega) ba_few (upL_few HTL.out)).mono ?_;rintro e3 wF ⟨A5,c5,rfl,h5,hbel⟩;replace HB:=hide (HB.out.trans (hbel.mono HB.out.size));replace HU:=hide (HU.out.under hbel (by omega));replace HL:=hide (HL.out.under hbel (by omega));have hsz4:=hbel.size;have HF5:=hide h5;clear h5;clear hbel)|(go_at_call 6;refine (EqualFin_same (L:=[⟨c,0,4,-1⟩]) _ (und_up (HF5.out.under (below_new (below_self wF) _) (by omega)) (by simp)) (fr_und (enc_lit1 (OFin_R ⟨c,0,4,-1⟩) wF 36 (lo:=0) (Nat.zero_le _))) (by omega)).mono ?_;rintro e99 wE ⟨rfl,hbel0⟩;have hbel:Below wF.heap.size wF wE:=(below_new (below_self wF) (.cells #[.int .i64 c,.int .i64 0,.int .i64 4,.int .i64 (-1)] 36)).trans (hbel0.mono (by simp));replace HB:=hide (HB.out.trans (hbel.mono HB.out.size));clear hbel hbel0 HF5))
 go_ret
 exact BoolB.of HB.out
theorem aw21_0:allR (upL [47,100]) lsB=[⟨10,0,4,-1⟩]:=by decide +kernel
theorem aw21_1:allR (upL [47]) lsB=[⟨10,0,4,-1⟩]:=by decide +kernel
theorem aw21_2:allR (upL [47,120]) lsB=[⟨11,0,4,-1⟩]:=by decide +kernel
theorem aw21_3:allR (upL [97]) lsB=[⟨11,0,4,-1⟩]:=by decide +kernel
theorem aw21_4:allR (upL [97,47]) lsB=[⟨9,0,4,-1⟩]:=by decide +kernel
theorem aw21_l:loopR [[100]] [100]=true:=by decide +kernel
theorem aw21_w:(walkW upB [1]).1.length=1:=by decide +kernel
theorem aw21_c:(treeV upB lsB (walkW upB [1]).1).map clmR=[(1,1)]:=by decide +kernel
theorem bu_few21:FewU upB:=by
 refine ⟨by decide,fun x hx=>?_⟩
 simp only [upB,List.mem_cons,List.not_mem_nil,or_false] at hx
 have h1:PlainN ndD:=⟨fun i e hi he=>absurd hi (by simp [ndD,nod0]),by decide,by decide,by decide,by decide,by decide,fun e he=>by simp [ndD,nod0] at he⟩
 rcases hx with rfl|rfl|rfl|rfl|rfl
 ·exact h1
 ·exact h1
 ·exact h1
 ·exact plain0
 ·exact plain0
theorem str_row1 {w:World} {g:Nat} {x:List UInt8} (h:RowL w g 9 [.string ⟨x.toArray⟩]):Rd st w w.heap.size (some ⟨g,0,none⟩) 1 [x]:=by
 refine ⟨rfl,fun _=>⟨g,0,rfl,h.lt,fun i y hy=>?_⟩⟩
 have hi:i=0:=by have:=(List.getElem?_eq_some_iff.1 hy).1;simpa using this
 subst hi
 obtain rfl:x=y:=by simpa using hy
 exact h.cell 0
theorem IsM_any {t:List UInt8} {c:Int} (h:(t,c)∈([([47,100],10),([47],10),([47,120],11),([97],11),([97,47],9)]:List (List UInt8×Int))) (w:World):Calls Tryz.prog 17 #[st t,.int .i64 c] w (BoolB w true):=by
 simp only [List.mem_cons,List.not_mem_nil,or_false,Prod.mk.injEq] at h
 rcases h with ⟨rfl,rfl⟩|⟨rfl,rfl⟩|⟨rfl,rfl⟩|⟨rfl,rfl⟩|⟨rfl,rfl⟩
 ·exact IsF_any aw21_0 (by decide) w
 ·exact IsF_any aw21_1 (by decide) w
 ·exact IsF_any aw21_2 (by decide) w
 ·exact IsF_any aw21_3 (by decide) w
 ·exact IsF_any aw21_4 (by decide) w
theorem Claims21_p {g:GeoQ} {AU AL:Option Addr} {nU cU nL cL B:Nat} {up:List NodV} {ls:List (List NodV)} {C:List (Int×Int)} {n:Nat} (hC:(treeV up ls (walkW up [1]).1).map clmR=C) (hn:(walkW up [1]).1.length=n) (w:World) (hu:RdE nodEn w (Under B) AU nU up) (h:RdE layEn w (Under B) AL nL ls) (hB:B≤w.heap.size) (hF:FewL ls) (hup:FewU up):Calls Tryz.prog 10 #[.agg (stkC g (.slice AU nU cU) (.slice AL nL cL)).toArray] w (fun e w'=>∃A c,e=.returned (.slice A n c)∧RdE prEn w' (Under w'.heap.size) A n C∧Below w.heap.size w w'):=by
 rw [←hC]
 exact Claims21_any rfl rfl hn w hu h hB hF hup
set_option maxRecDepth 100000 in
set_option maxHeartbeats 8000000 in
theorem awake21_any (w:World):Calls Tryz.prog 5 #[] w (LawOk w):=by
 have HB:=hide (below_self w)
 have hlit:=fun W=>lit_str1 [100] W
 have hlit2:=fun W=>lit_plcx 1 1 W
 go_enter Tryz.func5,Tryz.ntmps5
 go_wp2_with (first|(go_at_call 17;refine (IsM_any (by decide) _).mono ?_;rintro e7 wI ⟨rfl,hbel⟩;replace HB:=hide (HB.out.trans (hbel.mono HB.out.size));clear hbel)|(go_at_call 12;refine (RLoops_b (own:=[[100]]) (s:=[100]) aw21_l _ (str_row1 (RowL.new wI 9 [.string ⟨#[100]⟩])) (Nat.le_refl _) (by decide) (by decide) (by decide)).mono ?_;rintro e99 wE ⟨rfl,hbel0⟩;have hbel:Below wI.heap.size wI wE:=(below_new (below_self wI) (.cells #[.string ⟨#[100]⟩] 9)).trans (hbel0.mono (by simp));replace HB:=hide (HB.out.trans (hbel.mono HB.out.size));clear hbel hbel0)|(go_at_call 19;refine (Base_any wE).mono ?_;rintro e1 wB2 ⟨BU,mU,dU,BL,mL,dL,rfl,hu2,hl2,hbel⟩;replace HB:=hide (HB.out.trans (hbel.mono HB.out.size));have hsz2:=hbel.size;have HU2:=hide hu2;clear hu2;have HL2:=hide hl2;clear hl2;clear hbel)|(go_at_call 10;refine (Claims21_p (n:=1) aw21_c aw21_w wB2 HU2.out HL2.out (by omega) ba_few bu_few21).mono ?_;rintro e3 wC ⟨A5,c5,rfl,h5,hbel⟩;replace HB:=hide (HB.out.trans (hbel.mono HB.out.size));replace HU2:=hide (HU2.out.under hbel (by omega));replace HL2:=hide (HL2.out.under hbel (by omega));have hsz4:=hbel.size;have HC5:=hide h5;clear h5;clear hbel)|(go_at_call 9;refine (EqPlc_same (L:=[(1,1)]) _ (HC5.out.under (below_new (below_self wC) (.cells #[.int .i64 1,.int .i64 1] 41)) (by omega)) (enc_lit1 (E:=prEn) (x:=(1,1)) (cs:=[.int .i64 1,.int .i64 1]) (fun _ _=>rfl) wC 41 (lo:=0) (Nat.zero_le _)) (by omega)).mono ?_;rintro e97 wG ⟨rfl,hbel0⟩;have hbel:Below wC.heap.size wC wG:=(below_new (below_self wC) (.cells #[.int .i64 1,.int .i64 1] 41)).trans (hbel0.mono (by simp));replace HB:=hide (HB.out.trans (hbel.mono HB.out.size));clear hbel hbel0 HC5))
 go_ret
 exact LawOk.of HB.out
end Go.Proofs.YtnhegahpfacdgaaGreat

namespace Go.Proofs.YtnhegahpfacdgaaGreat
open Go.RowKit Go.Shelf Plain

set_option maxRecDepth 100000 in
theorem nod_f6 (x:NodV) (A B:Option Addr) (n c m d:Nat) (W:World):(Instr.field 65 (.agg (nodC x (.slice A n c) (.slice B m d)).toArray) 6).run Tryz.prog W=.ok (.agg (attC x.att).toArray) W:=by
 kernel_rfl
set_option maxRecDepth 100000 in
set_option maxHeartbeats 1600000 in
theorem RRedd21_b {g:GeoQ} {AU AL:Option Addr} {nU cU nL cL B:Nat} {up:List NodV} {i:Int} {x:NodV} {b:Bool} (hx:nodAt up i=x) (hb:hasR x=b) (w:World) (hu:RdE nodEn w (Under B) AU nU up) (hB:B≤w.heap.size) (hup:FewU up):Calls Tryz.prog 27 #[.agg (stkC g (.slice AU nU cU) (.slice AL nL cL)).toArray,.int .i64 i] w (BoolB w b):=by
 obtain ⟨W1,hW1⟩:∃W1,(w.alloc (.cells (stkC g (.slice AU nU cU) (.slice AL nL cL)).toArray 29))=W1:=⟨_,rfl⟩
 obtain ⟨r0,hb1,hs1⟩:=rowA1 w _ _ hW1
 have hW1':(w.alloc (.cells #[.int .i64 g.a,.int .i64 g.b,.int .i64 g.c,.int .i64 g.d,.slice AU nU cU,.slice AL nL cL] 29))=W1:=hW1
 have R2:=hide r0
 have HB:=hide hb1
 have hsz0:=hb1.size
 have HU:=hide (hu.under hb1 hB)
 have HFU:=hide hup
 have HX:=hide hx
 have hxp:PlainN x:=by rw [←hx];exact nodAt_plain hup.2 _
 have hxh:=hxp.2.2.1
 have HRB:=hide (show decide (x.att.h / 2 % 2=1)=b from hb)
 have q2_4:W1.cell? ⟨w.heap.size,4,none⟩=some (.slice AU nU cU):=R2.out.cell 4
 unfold stkC
 clear r0 hb1 hW1 hu hup hx hb hxp
 go_enter Tryz.func27,Tryz.ntmps27
 go_wp2_with (first|(refine wpList_loadC rfl 26 (.tmp 5) rfl 1 lay_agg lay_size (w.heap.size) 4 29 rfl (stkC g (.slice AU nU cU) (.slice AL nL cL)) [.slice AU nU cU] R2.out rfl rfl ?_)|(go_at_call 50;refine (At_e HX.out W1 HU.out (by omega) (by have:=HFU.out.1;omega)).mono ?_;rintro e1 wN ⟨Ad,nd,kd,Ce,me,de,rfl,-,-,-,-,hbel⟩;clear q2_4;replace HB:=hide (HB.out.trans (hbel.mono HB.out.size));replace R2:=hide (R2.out.on hbel);replace HU:=hide (HU.out.under hbel (by omega));have hsz2:=hbel.size;have q2_4:wN.cell? ⟨w.heap.size,4,none⟩=some (.slice AU nU cU):=R2.out.cell 4;have hf6:=fun W=>nod_f6 x Ad Ce nd kd me de W;clear hbel)|(go_at_call 51;refine (RHas2_b (a:=x.att) hxh.1 hxh.2 HRB.out wN).mono ?_;rintro e3 wH ⟨rfl,hbel⟩;clear q2_4;replace HB:=hide (HB.out.trans (hbel.mono HB.out.size));replace R2:=hide (R2.out.on hbel);replace HU:=hide (HU.out.under hbel (by omega));have hsz4:=hbel.size;have q2_4:wH.cell? ⟨w.heap.size,4,none⟩=some (.slice AU nU cU):=R2.out.cell 4;clear hbel))
 go_ret
 exact BoolB.of HB.out
theorem in_take {l:List (Int×Int)} {q:Int×Int} (h:∀i x,i < l.length→l[i]?=some x→x≠q):decide (q∈l)=false:=by
 refine decide_eq_false (fun hm=>?_)
 obtain ⟨i,hi⟩:=List.mem_iff_getElem?.1 hm
 exact h i q (List.getElem?_eq_some_iff.1 hi).1 hi rfl
set_option maxRecDepth 100000 in
set_option maxHeartbeats 3200000 in
theorem RIn21_b {AL:Option Addr} {nL cL B:Nat} {l:List (Int×Int)} {q:Int×Int} {b:Bool} (hb:decide (q∈l)=b) (w:World) (hl:RdE prEn w (Under B) AL nL l) (hB:B≤w.heap.size) (hn:nL≤1000):Calls Tryz.prog 49 #[.slice AL nL cL,.agg (prC q).toArray] w (BoolB w b):=by
 obtain ⟨W1,hW1⟩:∃W1,(w.alloc (.cells (prC q).toArray 41))=W1:=⟨_,rfl⟩
 obtain ⟨r0,hb1,hs1⟩:=rowA1 w _ _ hW1
 have hW1':(w.alloc (.cells #[.int .i64 q.1,.int .i64 q.2] 41))=W1:=hW1
 have R3:=hide r0
 have HB:=hide hb1
 have hsz0:=hb1.size
 have HL:=hide (hl.under hb1 hB)
 have hln:nL=l.length:=hl.1.symm
 subst hln
 have HQ:=hide hb
 unfold prC
 clear r0 hb1 hW1 hl hb
 go_enter Tryz.func49,Tryz.ntmps49
 go_wp2_with fail
 go_loopw [5] (fun v5 wr=>∃j:Nat,j≤l.length∧v5=.int .i64 j∧Below W1.heap.size W1 wr∧∀i x,i < j→l[i]?=some x→x≠q) (fun v5 _=>l.length - (intOf v5).toNat)
 case atStart=>exact ⟨0,by omega,rfl,Below.refl _ _,fun i x hi=>by omega⟩
 case round =>
  obtain ⟨j,hj,rfl,hbr,hall⟩:=hrel
  have hbs:=hbr.size
  have HBQ:=hide hbr
  have HALL:=hide hall
  have R3:=hide (R3.out.on hbr)
  have HL:=hide (HL.out.under hbr (by omega))
  clear hbr hall
  by_cases hlt:j < l.length
  ·obtain ⟨p,hp⟩:∃p,l[j]?=some p:=⟨_,List.getElem?_eq_getElem hlt⟩
   obtain ⟨bL,oL,hA,hbL,hc⟩:=HL.out.2 (by omega)
   obtain ⟨cs,hR,hcs⟩:=hc j p hp
   obtain rfl:cs=prC p:=hR
   have HCP:=hide (show ∀k v,[Value.int .i64 p.1,.int .i64 p.2][k]?=some v→wr.cell? ⟨bL,oL+j*2+k,none⟩=some v from fun k v hv=>by have h1:=hcs k v hv;rw [show prEn.k=2 from rfl,←Nat.add_assoc] at h1;exact h1)
   have hbl:bL < wr.heap.size:=by have h1:bL < B:=hbL;omega
   have HP:=hide hp
   have hjl:(j:Int) < (l.length:Int):=by omega
   obtain ⟨r,heq⟩:∃r,decide (p.1=q.1∧p.2=q.2)=r:=⟨_,rfl⟩
   have hq2:=fun W=>eq_plcB (a:=p.1) (b:=p.2) (c:=q.1) (d:=q.2) heq W
   subst hA
   clear hc hcs hp hbL
   go_wp2_with fail
   cases r with
   | true =>
    have hpq:p=q:=by have h1:=of_decide_eq_true heq;exact Prod.ext h1.1 h1.2
    have hif:p.1=q.1:=by rw [hpq]
    have hif2:p.2=q.2:=by rw [hpq]
    have HBT:=hide (show b=true from by rw [←HQ.out];exact decide_eq_true (by rw [←hpq];exact List.mem_of_getElem? HP.out))
    clear hpq hq2 heq
    refine wp_region_planN (fun w'=>Below wr.heap.size wr w') [(0,true),(1,true),(2,true),(3,true),(4,true),(5,true)] (by kernel_rfl) (by kernel_rfl) (by kernel_rfl) (by kernel_rfl) rfl (fun _ _ _ _ _ h=>h) (below_drew (below_self wr)) (fun hHeld=>?_)
    simp only [planOps,List.filterMap_cons,List.filterMap_nil,List.getElem?_toArray,List.getElem?_cons_succ,List.getElem?_cons_zero,Option.map_some]
    iterate 3
     refine wpPlan_take (v:=?_) (by kernel_rfl) (fun wS hSw=>?_) ?_
     rotate_left
     ·(try dsimp only at hSw);go_simp;(try with_reducible rfl)
     (try simp only [Act.put,pu1,pu2,pu3])
    refine wpPlan_take (v:=?_) (by kernel_rfl) (fun wS hSw=>?_) ?_
    rotate_left
    ·refine execOp_load (x:=.tmp 14) (k:=2) (g:=bL) (off:=oL+j*2) (cs:=[.int .i64 p.1,.int .i64 p.2]) ?_ plc_agg plc_size ?_ (fun k v hv=>(hSw.cell (by show bL < _;omega)).trans (HCP.out k v hv)) rfl <;> rfl
    (try simp only [Act.put,pu1,pu2,pu3])
    refine wpPlan_take (v:=?_) (by kernel_rfl) (fun wS hSw=>?_) ?_
    rotate_left
    ·refine execOp_load (x:=.tmp 3) (k:=2) (g:=w.heap.size) (off:=0) (cs:=[.int .i64 q.1,.int .i64 q.2]) ?_ plc_agg plc_size ?_ (fun k v hv=>by rw [Nat.zero_add];exact ((R3.out.on hSw).cell k).trans hv) rfl <;> rfl
    (try simp only [Act.put,pu1,pu2,pu3])
    refine wpPlan_take (v:=?_) (by kernel_rfl) (fun wS hSw=>?_) ?_
    rotate_left
    ·(try dsimp only at hSw);go_simp;(try simp only [hif,hif2,if_pos]);(try with_reducible rfl)
    (try simp only [Act.put,pu1,pu2,pu3])
    refine wpPlan_end ?_
    have hHX:=hide (HB.out.trans ((HBQ.out.trans (hHeld.mono hbs)).mono HB.out.size))
    clear hHeld
    go_wp2_with fail
    go_ret
    exact BoolB.eq HBT.out.symm hHX.out
   | false =>
    have hne:p≠q:=fun e=>by have h1:=of_decide_eq_false heq;exact h1 ⟨by rw [e],by rw [e]⟩
    have HNE:=hide hne
    clear hne
    refine wp_region_planN (fun w'=>Below wr.heap.size wr w') [(0,true),(1,true),(2,true),(3,true),(4,true),(5,true)] (by kernel_rfl) (by kernel_rfl) (by kernel_rfl) (by kernel_rfl) rfl (fun _ _ _ _ _ h=>h) (below_drew (below_self wr)) (fun hHeld=>?_)
    simp only [planOps,List.filterMap_cons,List.filterMap_nil,List.getElem?_toArray,List.getElem?_cons_succ,List.getElem?_cons_zero,Option.map_some]
    iterate 3
     refine wpPlan_take (v:=?_) (by kernel_rfl) (fun wS hSw=>?_) ?_
     rotate_left
     ·(try dsimp only at hSw);go_simp;(try with_reducible rfl)
     (try simp only [Act.put,pu1,pu2,pu3])
    refine wpPlan_take (v:=?_) (by kernel_rfl) (fun wS hSw=>?_) ?_
    rotate_left
    ·refine execOp_load (x:=.tmp 14) (k:=2) (g:=bL) (off:=oL+j*2) (cs:=[.int .i64 p.1,.int .i64 p.2]) ?_ plc_agg plc_size ?_ (fun k v hv=>(hSw.cell (by show bL < _;omega)).trans (HCP.out k v hv)) rfl <;> rfl
    (try simp only [Act.put,pu1,pu2,pu3])
    refine wpPlan_take (v:=?_) (by kernel_rfl) (fun wS hSw=>?_) ?_
    rotate_left
    ·refine execOp_load (x:=.tmp 3) (k:=2) (g:=w.heap.size) (off:=0) (cs:=[.int .i64 q.1,.int .i64 q.2]) ?_ plc_agg plc_size ?_ (fun k v hv=>by rw [Nat.zero_add];exact ((R3.out.on hSw).cell k).trans hv) rfl <;> rfl
    (try simp only [Act.put,pu1,pu2,pu3])
    refine wpPlan_take (v:=?_) (by kernel_rfl) (fun wS hSw=>?_) ?_
    rotate_left
    ·(try dsimp only at hSw);have hq3:=hq2 wS;go_simp;(try with_reducible rfl)
    (try simp only [Act.put,pu1,pu2,pu3])
    refine wpPlan_end ?_
    have hHX:=hide (HBQ.out.trans (hHeld.mono hbs))
    clear hHeld
    go_wp2_with fail
    go_roundw
    case rel=>exact ⟨j+1,by omega,by go_num,hHX.out,fun i y hi hy=>by
     by_cases e:i=j
     ·subst e
      have:=HP.out.symm.trans hy
      cases this
      exact HNE.out
     ·exact HALL.out i y (by omega) hy⟩
    case measure=>simp [intOf];omega
  ·obtain rfl:j=l.length:=by omega
   have HBF:=hide (show b=false from by rw [←HQ.out];exact in_take HALL.out)
   have hjl:¬((l.length:Int) < (l.length:Int)):=by omega
   have hHX:=hide (HB.out.trans (HBQ.out.mono HB.out.size))
   go_wp2_with fail
   go_ret
   exact BoolB.eq HBF.out.symm hHX.out
end Go.Proofs.YtnhegahpfacdgaaGreat

namespace Go.Proofs.YtnhegahpfacdgaaGreat
open Go.RowKit Go.Shelf Plain Go.Maps

set_option maxRecDepth 100000 in
set_option maxHeartbeats 3200000 in
theorem RefLoops_b {AO:Option Addr} {n c B:Nat} {own:List (List UInt8)} {s:List UInt8} {b:Bool} (hb:loopR own s=b) (w:World) (ho:Rd st w B AO n own) (hB:B≤w.heap.size) (hn:n≤1000000) (hc:n≤c) (hs:s.length≤100000):Calls Tryz.prog 13 #[.slice AO n c,.string ⟨s.toArray⟩] w (BoolB w b):=by
 obtain ⟨l,hl⟩:∃l,redL s=l:=⟨_,rfl⟩
 obtain ⟨ra,hra⟩:∃ra,redA s=ra:=⟨_,rfl⟩
 obtain ⟨rb,hrb⟩:∃rb,redB s=rb:=⟨_,rfl⟩
 have HRD:=hide (fun W=>RRed_e hl hra hrb W)
 have HO:=hide ho
 have HLB:=hide hb
 have HL:=hide hl
 have HRA:=hide hra
 have HRB:=hide hrb
 have hnl:own.length=n:=ho.len
 clear hb ho hl hra hrb
 go_enter Tryz.func13,Tryz.ntmps13
 go_wp2_with fail
 refine (HRD.out w).mono ?_
 rintro e1 w2 ⟨AN,nN,cN,rfl,hon,hbel⟩
 have HB2:=hide hbel
 have HON:=hide hon
 have HO2:=hide (HO.out.below (hbel.mono hB))
 have hs2:=hbel.size
 clear hon hbel
 cases rb with
 | false =>
  go_wp2_with fail
  go_ret
  exact BoolB.eq (by rw [←HLB.out];unfold loopR;rw [HRB.out];rfl) HB2.out
 | true =>
  cases ra with
  | true =>
   have hbg:beginsS l own=b:=by rw [←HLB.out];unfold loopR;rw [HRB.out,HRA.out,HL.out];rfl
   have HBG:=hide hbg
   have hnN:nN≤1000000:=by
    have h1:l.length=nN:=HON.out.rd.len
    have h2:=redq_len s
    rw [HL.out] at h2
    omega
   clear hbg
   go_wp2_with (go_at_call 31;refine (RBegins_any w2 HON.out.rd HO2.out (by omega)).mono ?_;rintro e3 w3 ⟨rfl,hbel⟩;rw [HBG.out];have HB3:=hide (HB2.out.trans (hbel.mono hs2));clear hbel)
   go_ret
   exact BoolB.of HB3.out
  | false =>
   have hl1:l=[s]:=by rw [←HL.out];exact redq_one HRB.out HRA.out
   have hnN:nN=1:=by have h1:=HON.out.rd.len;rw [hl1] at h1;simpa using h1.symm
   subst hnN
   obtain ⟨bN,oN,rfl,hbN,hcN⟩:=HON.out.rd.2 (by omega)
   have qs:w2.cell? ⟨bN,oN,none⟩=some (.string ⟨s.toArray⟩):=by
    have h1:=hcN 0 s (by rw [hl1];rfl)
    exact h1
   by_cases hn0:n=0
   ·have hbb:b=false:=by
     rw [←HLB.out]
     unfold loopR
     rw [HRB.out,HRA.out]
     have h0:own=[]:=List.length_eq_zero_iff.1 (by omega)
     rw [h0]
     rfl
    subst hbb
    subst hn0
    clear hcN
    have hjd:decide (0 < 0)=false:=rfl
    go_wp2_with fail
    refine wp_region_planN (fun w'=>Below w2.heap.size w2 w') [(0,true),(1,true),(2,true),(3,true),(4,true),(5,true),(6,true),(7,true),(8,true),(9,true),(10,true),(11,true),(12,true),(13,true),(14,true),(15,true)] (by kernel_rfl) (by kernel_rfl) (by kernel_rfl) (by kernel_rfl) rfl (fun _ _ _ _ _ h=>h) (below_drew (below_self w2)) (fun hHeld=>?_)
    simp only [planOps,List.filterMap_cons,List.filterMap_nil,List.getElem?_toArray,List.getElem?_cons_succ,List.getElem?_cons_zero,Option.map_some]
    iterate 2
     refine wpPlan_take (v:=?_) (by kernel_rfl) (fun wS hSw=>?_) ?_
     rotate_left
     ·(try dsimp only at hSw);go_simp;(try with_reducible rfl)
     (try simp only [Act.put,pu1,pu2,pu3])
    refine wpPlan_take (v:=?_) (by kernel_rfl) (fun wS hSw=>?_) ?_
    rotate_left
    ·(try dsimp only at hSw);go_simp;(try simp only [hjd]);(try with_reducible rfl)
    (try simp only [Act.put,pu1,pu2,pu3])
    refine wpPlan_take (v:=?_) (by kernel_rfl) (fun wS hSw=>?_) ?_
    rotate_left
    ·(try dsimp only at hSw);go_simp;(try with_reducible rfl)
    (try simp only [Act.put,pu1,pu2,pu3])
    refine wpPlan_skip (by kernel_rfl) ?_
    (try simp only [Act.put,pu1,pu2,pu3])
    refine wpPlan_skip (by kernel_rfl) ?_
    (try simp only [Act.put,pu1,pu2,pu3])
    refine wpPlan_skip (by kernel_rfl) ?_
    (try simp only [Act.put,pu1,pu2,pu3])
    refine wpPlan_skip (by kernel_rfl) ?_
    (try simp only [Act.put,pu1,pu2,pu3])
    refine wpPlan_skip (by kernel_rfl) ?_
    (try simp only [Act.put,pu1,pu2,pu3])
    refine wpPlan_skip (by kernel_rfl) ?_
    (try simp only [Act.put,pu1,pu2,pu3])
    refine wpPlan_skip (by kernel_rfl) ?_
    (try simp only [Act.put,pu1,pu2,pu3])
    refine wpPlan_skip (by kernel_rfl) ?_
    (try simp only [Act.put,pu1,pu2,pu3])
    refine wpPlan_skip (by kernel_rfl) ?_
    (try simp only [Act.put,pu1,pu2,pu3])
    refine wpPlan_skip (by kernel_rfl) ?_
    (try simp only [Act.put,pu1,pu2,pu3])
    iterate 2
     refine wpPlan_take (v:=?_) (by kernel_rfl) (fun wS hSw=>?_) ?_
     rotate_left
     ·(try dsimp only at hSw);go_simp;(try with_reducible rfl)
     (try simp only [Act.put,pu1,pu2,pu3])
    refine wpPlan_end ?_
    have HB3:=hide (HB2.out.trans (hHeld.mono hs2))
    clear hHeld
    go_wp2_with fail
    go_ret
    exact BoolB.of HB3.out
   ·obtain ⟨k,hk⟩:∃k,n=k+1:=⟨n - 1,by omega⟩
    obtain ⟨z,hz⟩:∃z,own[k]?=some z:=⟨_,List.getElem?_eq_getElem (by omega)⟩
    have hbb:(z==s)=b:=by
     rw [←HLB.out]
     unfold loopR
     rw [HRB.out,HRA.out,HL.out,hl1,List.getLast?_eq_getElem?,hnl,hk]
     show _=(own[k+1 - 1]?==some s)
     rw [Nat.add_sub_cancel,hz]
     rfl
    have heq:=fun W=>eq_txt z s W
    have HBBQ:=hide hbb
    obtain ⟨bO,oO,rfl,hbO',hcO⟩:=HO2.out.2 (by omega)
    have qz:=hcO k z hz
    have hbO:bO < w2.heap.size:=by omega
    have hw1:IntKind.i64.wrap ((n:Int) - 1)=(k:Int):=by rw [show (n:Int) - 1=(k:Int) by omega];exact IntWalk.i64_in _ (by omega)
    have hkn:k < n:=by omega
    have hkn2:(k:Int) < (n:Int):=by omega
    have hjd:decide (0 < n)=true:=decide_eq_true (by omega)
    clear hcN hcO hz hbb hk
    go_wp2_with fail
    refine wp_region_planN (fun w'=>Below w2.heap.size w2 w') [(0,true),(1,true),(2,true),(3,true),(4,true),(5,true),(6,true),(7,true),(8,true),(9,true),(10,true),(11,true),(12,true),(13,true),(14,true),(15,true)] (by kernel_rfl) (by kernel_rfl) (by kernel_rfl) (by kernel_rfl) rfl (fun _ _ _ _ _ h=>h) (below_drew (below_self w2)) (fun hHeld=>?_)
    simp only [planOps,List.filterMap_cons,List.filterMap_nil,List.getElem?_toArray,List.getElem?_cons_succ,List.getElem?_cons_zero,Option.map_some]
    iterate 2
     refine wpPlan_take (v:=?_) (by kernel_rfl) (fun wS hSw=>?_) ?_
     rotate_left
     ·(try dsimp only at hSw);go_simp;(try with_reducible rfl)
     (try simp only [Act.put,pu1,pu2,pu3])
    refine wpPlan_take (v:=?_) (by kernel_rfl) (fun wS hSw=>?_) ?_
    rotate_left
    ·(try dsimp only at hSw);go_simp;(try simp only [hjd]);(try with_reducible rfl)
    (try simp only [Act.put,pu1,pu2,pu3])
    iterate 6
     refine wpPlan_take (v:=?_) (by kernel_rfl) (fun wS hSw=>?_) ?_
     rotate_left
     ·(try dsimp only at hSw);go_simp;(try with_reducible rfl)
     (try simp only [Act.put,pu1,pu2,pu3])
    refine wpPlan_take (v:=?_) (by kernel_rfl) (fun wS hSw=>?_) ?_
    rotate_left
    ·have qx':wS.cell? ⟨bO,oO+k,none⟩=some (.string ⟨z.toArray⟩):=(hSw.cell hbO).trans qz;go_simp;(try with_reducible rfl)
    (try simp only [Act.put,pu1,pu2,pu3])
    iterate 2
     refine wpPlan_take (v:=?_) (by kernel_rfl) (fun wS hSw=>?_) ?_
     rotate_left
     ·(try dsimp only at hSw);go_simp;(try with_reducible rfl)
     (try simp only [Act.put,pu1,pu2,pu3])
    refine wpPlan_take (v:=?_) (by kernel_rfl) (fun wS hSw=>?_) ?_
    rotate_left
    ·have qx':wS.cell? ⟨bN,oN,none⟩=some (.string ⟨s.toArray⟩):=(hSw.cell hbN).trans qs;go_simp;(try with_reducible rfl)
    (try simp only [Act.put,pu1,pu2,pu3])
    refine wpPlan_take (v:=?_) (by kernel_rfl) (fun wS hSw=>?_) ?_
    rotate_left
    ·have qx':=heq wS;go_simp;(try with_reducible rfl)
    (try simp only [Act.put,pu1,pu2,pu3])
    iterate 2
     refine wpPlan_take (v:=?_) (by kernel_rfl) (fun wS hSw=>?_) ?_
     rotate_left
     ·(try dsimp only at hSw);go_simp;(try with_reducible rfl)
     (try simp only [Act.put,pu1,pu2,pu3])
    refine wpPlan_end ?_
    have HB3:=hide (HB2.out.trans (hHeld.mono hs2))
    clear hHeld
    go_wp2_with fail
    go_ret
    exact BoolB.eq HBBQ.out HB3.out
set_option maxRecDepth 100000 in
set_option maxHeartbeats 8000000 in
theorem RefClaims_any {g:GeoQ} {AU AL:Option Addr} {nU cU nL cL B:Nat} {up:List NodV} {ls:List (List NodV)} {l:List WayV} {TV:List ViewV} {n:Nat} (hl:(walkW up [1]).1=l) (hT:treeV up ls l=TV) (hn:l.length=n) (w:World) (hu:RdE nodEn w (Under B) AU nU up) (h:RdE layEn w (Under B) AL nL ls) (hB:B≤w.heap.size) (hF:FewL ls) (hup:FewU up):Calls Tryz.prog 11 #[.agg (stkC g (.slice AU nU cU) (.slice AL nL cL)).toArray] w (fun e w'=>∃A c,e=.returned (.slice A n c)∧RdE prEn w' (Under w'.heap.size) A n (TV.map clmR)∧Below w.heap.size w w'):=by
 obtain ⟨W1,hW1⟩:∃W1,(w.alloc (.cells (stkC g (.slice AU nU cU) (.slice AL nL cL)).toArray 29))=W1:=⟨_,rfl⟩
 obtain ⟨r0,hb1,hs1⟩:=rowA1 w _ _ hW1
 have hW1':(w.alloc (.cells #[.int .i64 g.a,.int .i64 g.b,.int .i64 g.c,.int .i64 g.d,.slice AU nU cU,.slice AL nL cL] 29))=W1:=hW1
 have R1:=hide r0
 have HB:=hide hb1
 have hsz0:=hb1.size
 have HU:=hide (hu.under hb1 hB)
 have HL:=hide (h.under hb1 hB)
 have HF:=hide hF
 have HFU:=hide hup
 have HWS:=hide hl
 have HT:=hide hT
 have HN:=hide hn
 have hn24:n≤24:=by
  have h1:=(walk_ok up [1]).le
  rw [hl] at h1
  have h2:=hup.1
  omega
 have hs1':w.heap.size+1≤W1.heap.size:=by omega
 have HVN:=hide (show TV.length=n from by rw [←hT,tree_len];exact hn)
 clear r0 hb1 hW1 hu h hF hup hl hT hn hs1
 unfold stkC
 go_enter Tryz.func11,Tryz.ntmps11
 go_upto_region 2 with fail
 have HE0:=hide (OwE.empty prEn W1 41)
 have hbe:=below_new (below_self W1) (.cells #[] 41)
 have hWE:W1.heap.size+1=(W1.alloc (.cells #[] 41)).heap.size:=by simp
 generalize W1.alloc (.cells #[] 41)=wE at *
 have hWE1:W1.heap.size+1≤wE.heap.size:=by omega
 have hWE2:wE.heap.size≤W1.heap.size+1:=by omega
 clear hWE
 replace R1:=hide (R1.out.on hbe)
 replace HU:=hide (und_at HU.out hbe (by omega))
 replace HL:=hide (und_at HL.out hbe (by omega))
 replace HB:=hide (HB.out.trans (hbe.mono HB.out.size))
 have hbesz:=hbe.size
 clear hbe hW1'
 go_wp2_with (first|(refine wpList_loadW rfl 29 (.tmp 1) rfl 6 stk_agg stk_size (w.heap.size) 29 rfl (stkC g (.slice AU nU cU) (.slice AL nL cL)) R1.out rfl ?_)|(go_at_call 24;refine (RVTree_p HWS.out HT.out HN.out wE HU.out HL.out (by omega) HF.out HFU.out).mono ?_;rintro e1 wT ⟨A3,c3,A4,c4,rfl,-,h4,hbel⟩;replace HE0:=hide (HE0.out.below hbel);replace HB:=hide (HB.out.trans (hbel.mono HB.out.size));replace R1:=hide (R1.out.on hbel);replace HU:=hide (HU.out.under hbel (by omega));replace HL:=hide (HL.out.under hbel (by omega));have hsz2:=hbel.size;have H4:=hide h4;clear h4;clear hbel))
 go_loopw [3,6] (fun v3 v6 wr=>∃(j:Nat) (A6:Option Addr) (c6:Nat),j≤n∧v6=.int .i64 j∧v3=.slice A6 j c6∧OwL prEn wr W1.heap.size wT.heap.size 41 A6 j c6 ((TV.take j).map clmR)∧Below wT.heap.size wT wr) (fun _ v6 _=>n - (intOf v6).toNat)
 case atStart=>exact ⟨0,_,0,by omega,rfl,rfl,.inr ⟨_,rfl,rfl,rfl,rfl,HE0.out⟩,Below.refl _ _⟩
 case round =>
  obtain ⟨j,A6,c6,hj,rfl,rfl,ho,hbr⟩:=hrel
  have hbsz:=hbr.size
  have HBQ:=hide hbr
  have HO2:=hide ho
  have H4r:=hide (und_at H4.out hbr (by omega))
  clear ho hbr
  by_cases hlt:j < n
  ·obtain ⟨v,hv⟩:∃v,TV[j]?=some v:=⟨_,List.getElem?_eq_getElem (by have:=HVN.out;omega)⟩
   obtain ⟨b1,o1,A2,c2,hAV,hbD,hcv,hp⟩:=view_get H4r.out hv
   have qv:wr.cell? ⟨b1,o1+j*2+1,none⟩=some (.slice A2 v.2.length c2):=hcv 1 _ rfl
   have HTK:=hide (show (TV.take (j+1)).map clmR=(TV.take j).map clmR++[clmR v] from by rw [List.take_add_one,hv,Option.toList_some,List.map_append];rfl)
   have hjn:(j:Int) < (n:Int):=by omega
   subst hAV
   have HCM:=hide (show clmR v=v.2.headD (0,0) from rfl)
   have HVP:=hide hp
   clear hv hcv hp hbD H4r
   generalize v.2=vl at *
   cases vl with
   | nil =>
    have hlit:=fun W=>lit_plcx 0 0 W
    have HCM0:=hide (show clmR v=(0,0) from HCM.out)
    simp only [List.length_nil] at qv
    clear HCM HVP
    go_wp2_with (first|(at_builtin;have hba:=below_new (below_self wr) (.cells #[.int .i64 0,.int .i64 0] 41);refine wpList_append_OwL (E:=prEn) _ rfl (.tmp 36) (.tmp 38) 39 rfl W1.heap.size wT.heap.size 41 zpr 16 Tryz.underlying39 plc_info rfl (by decide) A6 j c6 _ rfl (HO2.out.below hba) (fun b=>wr.heap.size≤b∧b < (wr.alloc (.cells #[.int .i64 0,.int .i64 0] 41)).heap.size) (some ⟨wr.heap.size,0,none⟩) 1 1 [((0:Int),(0:Int))] rfl (enc_lit1 (E:=prEn) (x:=((0:Int),(0:Int))) (cs:=[.int .i64 0,.int .i64 0]) (fun _ _=>rfl) wr 41 (Nat.le_refl _)) (fun b hb=>⟨⟨hb.2,fun _ _ _ _=>rfl⟩,fun a ha=>(fun e=>by have h1:=hb.1;rw [e] at h1;have:=HO2.out.ltB a ha;omega)⟩) (by omega) (j+1) rfl (by omega) (by omega) (by simp;omega) (by simp;omega) ?_;intro A9 c9 w9 ho9 hb9 _;have HO9:=hide ho9;have HB9:=hide ((HBQ.out.alloc (by omega) _).trans hb9);clear ho9 hb9 hba))
    go_roundw
    case rel=>exact ⟨j+1,A9,c9,by omega,by go_num,rfl,by rw [HTK.out,HCM0.out];exact .inl HO9.out,HB9.out⟩
    case measure=>simp [intOf];omega
   | cons p r =>
    obtain ⟨b2,o2,hA2,-,hc2⟩:=HVP.out.2 (by simp)
    obtain ⟨cs,hR,hcs⟩:=hc2 0 p rfl
    obtain rfl:cs=prC p:=hR
    have HCP:=hide (show ∀k v,[Value.int .i64 p.1,.int .i64 p.2][k]?=some v→wr.cell? ⟨b2,o2+k,none⟩=some v from fun k v hv=>by have h1:=hcs k v hv;rw [show (0:Nat)*prEn.k+k=k from by omega] at h1;exact h1)
    have HCM0:=hide (show clmR v=(p.1,p.2) from HCM.out)
    have hlit:=fun W=>lit_plcx p.1 p.2 W
    have hNp:0 < (p::r).length:=by simp
    subst hA2
    clear hc2 hcs HCM HVP
    generalize (p::r).length=N at *
    go_wp2_with (first|(refine wpList_loadX rfl 41 (.tmp 32) rfl 2 plc_agg plc_size b2 o2 rfl [.int .i64 p.1,.int .i64 p.2] HCP.out rfl ?_)|(at_builtin;have hba:=below_new (below_self wr) (.cells #[.int .i64 p.1,.int .i64 p.2] 41);refine wpList_append_OwL (E:=prEn) _ rfl (.tmp 26) (.tmp 34) 39 rfl W1.heap.size wT.heap.size 41 zpr 16 Tryz.underlying39 plc_info rfl (by decide) A6 j c6 _ rfl (HO2.out.below hba) (fun b=>wr.heap.size≤b∧b < (wr.alloc (.cells #[.int .i64 p.1,.int .i64 p.2] 41)).heap.size) (some ⟨wr.heap.size,0,none⟩) 1 1 [(p.1,p.2)] rfl (enc_lit1 (E:=prEn) (x:=(p.1,p.2)) (cs:=[.int .i64 p.1,.int .i64 p.2]) (fun _ _=>rfl) wr 41 (Nat.le_refl _)) (fun b hb=>⟨⟨hb.2,fun _ _ _ _=>rfl⟩,fun a ha=>(fun e=>by have h1:=hb.1;rw [e] at h1;have:=HO2.out.ltB a ha;omega)⟩) (by omega) (j+1) rfl (by omega) (by omega) (by simp;omega) (by simp;omega) ?_;intro A9 c9 w9 ho9 hb9 _;have HO9:=hide ho9;have HB9:=hide ((HBQ.out.alloc (by omega) _).trans hb9);clear ho9 hb9 hba))
    go_roundw
    case rel=>exact ⟨j+1,A9,c9,by omega,by go_num,rfl,by rw [HTK.out,HCM0.out];exact .inl HO9.out,HB9.out⟩
    case measure=>simp [intOf];omega
  ·obtain rfl:n=j:=by omega
   have hjn:¬((n:Int) < (n:Int)):=by omega
   have hR:=HO2.out.read rfl
   rw [List.take_of_length_le (by have:=HVN.out;omega)] at hR
   have HR:=hide hR
   have HBZ:=hide (HB.out.trans (HBQ.out.mono (by have:=HB.out.size;omega)))
   clear hR
   go_wp2_with fail
   go_ret
   first
   | exact ⟨A6,c6,rfl,HR.out,HBZ.out⟩
   | exact ⟨A6,⟨c6,rfl⟩,HR.out,HBZ.out⟩
end Go.Proofs.YtnhegahpfacdgaaGreat

