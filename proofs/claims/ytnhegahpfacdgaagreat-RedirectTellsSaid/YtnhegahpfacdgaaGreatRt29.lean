import Derived.Test.YtnhegahpfacdgaaGreatRt28
import Derived.Test.YtnhegahpfacdgaaGreatRt24
import Derived.Test.YtnhegahpfacdgaaGreatRt26
import Derived.Test.YtnhegahpfacdgaaGreatRt10
import Derived.BigRegion
import Derived.Test.YtnhegahpfacdgaaGreatRt23
import Derived.Test.YtnhegahpfacdgaaGreatRt25
import Derived.Test.YtnhegahpfacdgaaGreatRt18
import Derived.WalkMore
import Derived.ScopeJumps

namespace Go.Proofs.YtnhegahpfacdgaaGreat
open Go.RowKit Go.Shelf Plain

def upC:List Value:=nodC ndD (.slice none 0 0) (.slice none 0 0)++(nodC ndD (.slice none 0 0) (.slice none 0 0)++(nodC ndD (.slice none 0 0) (.slice none 0 0)++(nodC nod0 (.slice none 0 0) (.slice none 0 0)++nodC nod0 (.slice none 0 0) (.slice none 0 0))))
def BaseRet (w:World) (e:Ending) (w':World):Prop:=∃g0 AL nL cL,e=.returned (.agg (stkC gB (.slice (some ⟨g0,0,none⟩) 5 5) (.slice AL nL cL)).toArray)∧RowL w' g0 65 upC∧RdE layEn w' (fun b=>w.heap.size≤b∧b < g0) AL nL lsB∧w.heap.size≤g0∧Below w.heap.size w w'
set_option maxRecDepth 100000 in
set_option maxHeartbeats 1000000 in
theorem Base_o (w:World):Calls Tryz.prog 19 #[] w (BaseRet w):=by
 obtain ⟨r0,r1,hb2,hs2⟩:=rows2 w (stkC ⟨0,0,0,0⟩ (.slice none 0 0) (.slice none 0 0)) (stkC ⟨0,0,0,0⟩ (.slice none 0 0) (.slice none 0 0)) 29 29
 have R0:=hide r0
 have R1:=hide r1
 have HB2:=hide hb2
 clear r0 r1 hb2 hs2
 go_enter Tryz.func19,Tryz.ntmps19
 go_wp2_with (refine wpList_storeW rfl 29 (.tmp 1) (.tmp 3) rfl 6 stk_size (w.heap.size+1) 29 rfl (stkC ⟨0,0,0,0⟩ (.slice none 0 0) (.slice none 0 0)) (stkC gB (.slice none 0 0) (.slice none 0 0)) rfl R1.out rfl rfl (by simp [stkC,Value.oneCell']) ?_;intro w3 hr3 hg3 hs3;have R3:=hide hr3;have R03:=hide (R0.out.grown hg3 (pu5 (by omega)));have HB3:=hide (HB2.out.grown hg3 HB2.out.size (pu4 (by omega)));have hl3:=hr3.lt;have HE3:=hide (RowL.new w3 87 (flatE [⟨0,2,[97]⟩]));have hbe:=below_new (below_self w3) (.cells (flatE [⟨0,2,[97]⟩]).toArray 87);have HBE:=hide hbe;clear hr3 hg3 hs3 hbe)
 refine (Dir_any _).mono ?_
 rintro ez w4 ⟨rfl,hb4⟩
 have HE4:=hide (HE3.out.on hb4)
 have HB4:=hide ((HB3.out.trans (HBE.out.mono HB3.out.size)).trans (hb4.mono (Nat.le_trans HB3.out.size HBE.out.size)))
 have hbe4:=HBE.out.trans (hb4.mono HBE.out.size)
 have HR34:=hide (R3.out.on hbe4)
 have HR04:=hide (R03.out.on hbe4)
 have q5:w4.cell? ⟨w.heap.size+1,5,none⟩=some (.slice none 0 0):=HR34.out.cell 5
 have f5:w4.frozen? ⟨w.heap.size+1,5,none⟩=false:=HR34.out.frozen 5
 have hl4:w.heap.size+1 < w4.heap.size:=HR34.out.lt
 have hl34:=HE4.out.lt
 clear hb4 hbe4
 have HRU:=hide (RowL.new w4 5 [.int .u8 120])
 have HBU:=hide (below_new (below_self w4) (.cells #[.int .u8 120] 5))
 go_wp2_with (first|(refine wpList_lit5N (w:=w4.alloc (.cells #[.int .u8 120] 5)) rfl (.tmp 6) (.tmp 8) (.tmp 9) (.tmp 10) (.tmp 11) rfl (c0:=nodC ndD (.slice none 0 0) (.slice (some ⟨w3.heap.size,0,none⟩) 1 1)) (c1:=nodC ndF (.slice (some ⟨w4.heap.size,0,none⟩) 1 1) (.slice none 0 0)) (c2:=nodC nod0 (.slice none 0 0) (.slice none 0 0)) (c3:=nodC nod0 (.slice none 0 0) (.slice none 0 0)) (c4:=nodC nod0 (.slice none 0 0) (.slice none 0 0)) rfl rfl rfl rfl rfl rfl rfl rfl rfl rfl ?_;intro w6 hr6 hb6;simp only [World.size_alloc] at hr6;have HR6:=hide hr6;have HB6:=hide (HBU.out.trans (hb6.mono HBU.out.size));have HRU6:=hide (HRU.out.on hb6);have q56:w6.cell? ⟨w.heap.size+1,5,none⟩=some (.slice none 0 0):=(HB6.out.cell (p:=⟨w.heap.size+1,5,none⟩) hl4).trans q5;have f56:w6.frozen? ⟨w.heap.size+1,5,none⟩=false:=(HB6.out.frozen (p:=⟨w.heap.size+1,5,none⟩) hl4).trans f5;have hl6:w.heap.size+1 < w6.heap.size:=Nat.lt_of_lt_of_le hl4 HB6.out.size;clear hr6 hb6)|fail)
 have hw2:w.heap.size+2≤w3.heap.size:=by have:=R3.out.lt;omega
 have hs34:w3.heap.size < w4.heap.size:=hl34
 have hs46:=HB6.out.size
 have hr6l:=HR6.out.lt
 have hg7:=grown_cell w6 (w.heap.size+1) 5 (.slice (some ⟨w6.heap.size,0,none⟩) 1 1)
 have n6:RdE nodEn w6 (Fr (w.heap.size+2) w6) (some ⟨w4.heap.size+1,0,none⟩) 5 lyB:=nods_row HR6.out ⟨by omega,hr6l⟩ ⟨none,0,0,_,1,1,rfl,Nat.le_refl _,RdE.none_ _ _ _ _,Nat.le_refl _,ent_row (HE4.out.on HB6.out) ⟨by omega,by omega⟩⟩ ⟨_,1,1,none,0,0,rfl,Nat.le_refl _,byte_row (l:=[120]) HRU6.out ⟨by omega,by omega⟩,Nat.le_refl _,RdE.none_ _ _ _ _⟩ (nod0R _ _) (nod0R _ _) (nod0R _ _)
 have n7:=n6.grF hg7 (by omega)
 have x7:RowL (w6.setCell ⟨w.heap.size+1,5,none⟩ (.slice (some ⟨w6.heap.size,0,none⟩) 1 1)) (w.heap.size+1) 29 (stkC gB (.slice none 0 0) (.slice (some ⟨w6.heap.size,0,none⟩) 1 1)):=(HR34.out.on HB6.out).set_ 5 _
 have y7:=(HR04.out.on HB6.out).grown hg7 (pu5 (by omega))
 have hs7:(w6.setCell ⟨w.heap.size+1,5,none⟩ (.slice (some ⟨w6.heap.size,0,none⟩) 1 1)).heap.size=w6.heap.size:=by simp [World.setCell]
 have hb7:Below w.heap.size w (w6.setCell ⟨w.heap.size+1,5,none⟩ (.slice (some ⟨w6.heap.size,0,none⟩) 1 1)):=(HB4.out.trans (HB6.out.mono (by omega))).setCell (p:=⟨w.heap.size+1,5,none⟩) (by show w.heap.size≤w.heap.size+1;omega) _
 clear q5 f5 hl4 hg7 n6
 refine (Dir_any _).mono ?_
 rintro ez w9 ⟨rfl,hb9⟩
 generalize w6.setCell ⟨w.heap.size+1,5,none⟩ (.slice (some ⟨w6.heap.size,0,none⟩) 1 1)=w7 at *
 have r8:=RowL.new w7 26 [Value.slice (some ⟨w4.heap.size+1,0,none⟩) 5 5]
 have b8:=below_new (below_self w7) (.cells [Value.slice (some ⟨w4.heap.size+1,0,none⟩) 5 5].toArray 26)
 have l8:RdE layEn (w7.alloc (.cells [Value.slice (some ⟨w4.heap.size+1,0,none⟩) 5 5].toArray 26)) (Fr (w.heap.size+2) (w7.alloc (.cells [Value.slice (some ⟨w4.heap.size+1,0,none⟩) 5 5].toArray 26))) (some ⟨w6.heap.size,0,none⟩) 1 lsB:=lay_row (by rw [←hs7];exact r8) ⟨by omega,by simp;omega⟩ (Nat.le_refl _) (n7.onF b8)
 have X9:=hide ((x7.on b8).on hb9)
 have Y9:=hide ((y7.on b8).on hb9)
 have L9:=hide (l8.onF hb9)
 have B9:=hide ((hb7.trans (b8.mono hb7.size)).trans (hb9.mono (Nat.le_trans hb7.size b8.size)))
 clear r8 b8 l8 x7 y7 n7 hb7 hb9 hs7
 go_wp2_with fail
 refine (Dir_any _).mono ?_
 rintro ez w10 ⟨rfl,hb10⟩
 have HB10:=hide hb10
 clear hb10
 go_wp2_with fail
 refine (Dir_any _).mono ?_
 rintro ez w11 ⟨rfl,hb11⟩
 have HB11:=hide (HB10.out.trans (hb11.mono HB10.out.size))
 clear hb11
 go_wp2_with (first|(refine wpList_lit5N (w:=w11) rfl (.tmp 16) (.tmp 17) (.tmp 18) (.tmp 19) (.tmp 20) rfl (c0:=nodC ndD (.slice none 0 0) (.slice none 0 0)) (c1:=nodC ndD (.slice none 0 0) (.slice none 0 0)) (c2:=nodC ndD (.slice none 0 0) (.slice none 0 0)) (c3:=nodC nod0 (.slice none 0 0) (.slice none 0 0)) (c4:=nodC nod0 (.slice none 0 0) (.slice none 0 0)) rfl rfl rfl rfl rfl rfl rfl rfl rfl rfl ?_;intro w12 hr12 hb12;have HR12:=hide hr12;have HB12:=hide (HB11.out.trans (hb12.mono HB11.out.size));have hl12:=hr12.lt;clear hr12 hb12)|(refine wpList_storeC rfl 26 (.tmp 23) (.tmp 22) rfl 1 lay_size (w.heap.size+1) 4 29 rfl (stkC gB (.slice none 0 0) (.slice (some ⟨w6.heap.size,0,none⟩) 1 1)) [.slice (some ⟨w11.heap.size,0,none⟩) 5 5] rfl (X9.out.on HB12.out) rfl (by simp [stkC]) (by simp [Value.oneCell']) ?_;intro w13 hr13 hg13 hs13;have HX13:=hide (show RowL w13 (w.heap.size+1) 29 (stkC gB (.slice (some ⟨w11.heap.size,0,none⟩) 5 5) (.slice (some ⟨w6.heap.size,0,none⟩) 1 1)) from hr13);have HG13:=hide hg13;clear hr13 hg13)|(refine wpList_loadW rfl 29 (.tmp 1) rfl 6 stk_agg stk_size (w.heap.size+1) 29 rfl (stkC gB (.slice (some ⟨w11.heap.size,0,none⟩) 5 5) (.slice (some ⟨w6.heap.size,0,none⟩) 1 1)) HX13.out rfl ?_)|(refine wpList_storeW rfl 29 (.tmp 0) (.tmp 24) rfl 6 stk_size w.heap.size 29 rfl (stkC ⟨0,0,0,0⟩ (.slice none 0 0) (.slice none 0 0)) (stkC gB (.slice (some ⟨w11.heap.size,0,none⟩) 5 5) (.slice (some ⟨w6.heap.size,0,none⟩) 1 1)) rfl ((Y9.out.on HB12.out).grown HG13.out (pu5 (by omega))) rfl rfl (by simp [stkC,Value.oneCell']) ?_;intro w14 hr14 hg14 hs14;have HR14:=hide hr14;have HG14:=hide hg14;clear hr14 hg14)|fail)
 have hx9:=X9.out.lt
 have hs9:=B9.out.size
 have hs12:=HB12.out.size
 have hs11:=HB11.out.size
 have l12:RdE layEn w12 (fun b=>w.heap.size+2≤b∧b < w9.heap.size) _ 1 lsB:=L9.out.mono (fun b hb=>HB12.out.block b hb.2) (fun _ h=>h)
 have l13:=l12.mono (w':=w13) (D':=fun b=>w.heap.size+2≤b∧b < w9.heap.size) (fun b hb=>HG13.out.block b (by have:=hb.2;omega) (fun e=>by have:=Option.some.inj e;have:=hb.1;omega)) (fun _ h=>h)
 have hs13:=HG13.out.size
 have l14:=l13.mono (w':=w14) (D':=fun b=>w.heap.size≤b∧b < w11.heap.size) (fun b hb=>HG14.out.block b (by have:=hb.2;omega) (fun e=>by have:=Option.some.inj e;have:=hb.1;omega)) (fun _ h=>⟨by have:=h.1;omega,by have:=h.2;omega⟩)
 exact bodyPost_ret (res_cell Tryz.results19 rfl stk_agg stk_size HR14.out rfl) rfl ⟨w11.heap.size,_,1,1,rfl,(HR12.out.grown HG13.out (pu5 (by omega))).grown HG14.out (pu5 (by omega)),l14,by omega,((B9.out.trans (HB12.out.mono hs9)).grown HG13.out (by omega) (pu4 (by omega))).grown HG14.out (by have:=HG13.out.size;omega) (pu4 (by omega))⟩
theorem btw_on {α:Type} {E:Enc α} {w w':World} {lo hi:Nat} {A:Option Addr} {n:Nat} {l:List α} (h:RdE E w (fun b=>lo≤b∧b < hi) A n l) (hb:Below w.heap.size w w') (hh:hi≤w.heap.size):RdE E w' (fun b=>lo≤b∧b < hi) A n l:=h.mono (Kept.of_below hb fun _ h=>Nat.lt_of_lt_of_le h.2 hh) fun _ h=>h
theorem btw_grown {α:Type} {E:Enc α} {w w':World} {lo hi g:Nat} {A:Option Addr} {n:Nat} {l:List α} (h:RdE E w (fun b=>lo≤b∧b < hi) A n l) (hg:w.grownBy w' (some g)) (hh:hi≤w.heap.size) (hne:g < lo∨hi≤g):RdE E w' (fun b=>lo≤b∧b < hi) A n l:=h.mono (fun b hb=>hg.block b (Nat.lt_of_lt_of_le hb.2 hh) (fun e=>by have:=Option.some.inj e;have h1:=hb.1;have h2:=hb.2;omega)) fun _ h=>h
theorem stkC_one (g:GeoQ) (A B:Option Addr) (n c m d:Nat):∀v∈stkC g (.slice A n c) (.slice B m d),v.oneCell'=true:=by simp [stkC,Value.oneCell']
end Go.Proofs.YtnhegahpfacdgaaGreat

namespace Go.Proofs.YtnhegahpfacdgaaGreat
open Go.RowKit Go.Shelf Plain

theorem OwE.lt {α:Type} {E:Enc α} {w:World} {base e n c:Nat} {A:Option Addr} {l:List α} (h:OwE E w base e A n c l):∀a,A=some a→a.block < w.heap.size:=by
 obtain ⟨css,hrow,-,-⟩:=h
 intro a ha
 subst ha
 rcases hrow.2 with ⟨h0,-⟩|⟨g,cap,cur,h0,-,hg,-⟩
 ·cases h0
 ·cases h0
  exact (Array.getElem?_eq_some_iff.1 hg).1
theorem KeepS.cell {wX W:World} {B b o:Nat} {vc:List Value} (h:KeepS wX B b o vc W) {p:Addr} (hp:p.block < wX.heap.size) (hne:p.block≠b):W.cell? p=wX.cell? p:=World.cell?_of_block (w:=wX) (h.2.1 p.block hp hne)
set_option maxRecDepth 100000 in
set_option maxHeartbeats 4000000 in
theorem RVTree_any {g:GeoQ} {AU AL:Option Addr} {nU cU nL cL B:Nat} {up:List NodV} {ls:List (List NodV)} {ws:List WayV} (hw:(walkW up [1]).1=ws) (w:World) (hu:RdE nodEn w (Under B) AU nU up) (h:RdE layEn w (Under B) AL nL ls) (hB:B≤w.heap.size) (hF:FewL ls) (hup:FewU up):Calls Tryz.prog 24 #[.agg (stkC g (.slice AU nU cU) (.slice AL nL cL)).toArray] w (TreeF w ws (treeV up ls ws)):=by
 obtain ⟨W1,hW1⟩:∃W1,(w.alloc (.cells (stkC g (.slice AU nU cU) (.slice AL nL cL)).toArray 29))=W1:=⟨_,rfl⟩
 obtain ⟨r0,hb1,hs1⟩:=rowA1 w _ _ hW1
 have hW1':(w.alloc (.cells #[.int .i64 g.a,.int .i64 g.b,.int .i64 g.c,.int .i64 g.d,.slice AU nU cU,.slice AL nL cL] 29))=W1:=hW1
 have R1:=hide r0
 have HB:=hide hb1
 have hsz0:=hb1.size
 have HU:=hide (hu.under hb1 hB)
 have HL:=hide (h.under hb1 hB)
 have HF:=hide hF
 have HFU:=hide hup
 have HW:=hide hw
 obtain ⟨V,hV⟩:∃V,rootV up ls=V:=⟨_,rfl⟩
 have HV:=hide hV
 have HINT:=hide (show RdE Enc.int (W1.alloc (.cells #[.int .i64 1] 3)) (Under (W1.alloc (.cells #[.int .i64 1] 3)).heap.size) (some ⟨w.heap.size+1,0,none⟩) 1 [1] from by rw [←hs1];exact int_one W1)
 have HUP:=hide (show UpV ws from by rw [←hw];exact walk_upv up)
 have hwl:ws.length≤24:=by have h1:=(walk_ok up [1]).le;rw [hw] at h1;have:=hup.1;omega
 have hll:ls.length≤100:=by have:=hF.1;omega
 have q1_4:W1.cell? ⟨w.heap.size,4,none⟩=some (.slice AU nU cU):=R1.out.cell 4
 unfold stkC
 clear r0 hb1 hW1 hu h hF hup hw hV
 go_enter Tryz.func24,Tryz.ntmps24
 go_wp2_with (first|(go_at_call 45;refine (RDirs_any _ (und_up (HU.out.under (below_new (below_self W1) _) (by omega)) (by simp;omega)) HINT.out (plain_many HFU.out.1 HFU.out.2).1 (by omega)).mono ?_;rintro e1 wD ⟨A4,c4,rfl,hc4,h4,hbel0⟩;have hbel:Below W1.heap.size W1 wD:=(below_new (below_self W1) (.cells #[.int .i64 1] 3)).trans (hbel0.mono (by simp));rw [HW.out] at h4 hc4 ⊢;replace h4:=fr_low h4 (lo':=W1.heap.size) (by simp);clear q1_4;replace HB:=hide (HB.out.trans (hbel.mono HB.out.size));replace R1:=hide (R1.out.on hbel);replace HU:=hide (HU.out.under hbel (by omega));replace HL:=hide (HL.out.under hbel (by omega));have hsz1:=hbel.size;have q1_4:wD.cell? ⟨w.heap.size,4,none⟩=some (.slice AU nU cU):=R1.out.cell 4;have H4:=hide h4;clear h4 hbel hbel0))
 have hWD:W1.heap.size≤wD.heap.size:=by omega
 obtain ⟨n4,hn4⟩:∃n4,ws.length=n4:=⟨_,rfl⟩
 rw [hn4] at H4 hc4 ⊢
 clear hW1' q1_4
 go_loopw [5,6] (fun v5 v6 wr=>∃j:Nat,j≤n4∧v6=.int .i64 j∧(∃A c,v5=.slice A j c∧OwE viewEn wr wD.heap.size 80 A j c (treeV up ls (ws.take j)))∧Below wD.heap.size wD wr) (fun _ v6 _=>n4 - (intOf v6).toNat)
 case atStart=>exact ⟨0,by omega,rfl,⟨_,_,rfl,OwE.empty _ _ _⟩,below_new (below_self _) _⟩
 case round =>
  obtain ⟨j,hj,rfl,⟨A5,c5,rfl,ho⟩,hbr⟩:=hrel
  have hbsz:=hbr.size
  replace HB:=hide (HB.out.trans (hbr.mono HB.out.size))
  replace R1:=hide (R1.out.on hbr)
  replace HU:=hide (HU.out.under hbr (by omega))
  replace HL:=hide (HL.out.under hbr (by omega))
  replace H4:=hide (btw_on H4.out hbr (by omega))
  have hsz2:=hbr.size
  have HBR:=hide hbr
  have HO:=hide ho
  clear hbr ho
  by_cases hlt:j < n4
  ·have hjn:(j:Int) < (n4:Int):=by omega
   obtain ⟨y,hy⟩:∃y,ws[j]?=some y:=⟨_,List.getElem?_eq_getElem (by omega)⟩
   obtain ⟨bW,oW,rfl,hbW,hcW⟩:=way_get H4.out hy
   have HCW:=hide hcW
   have hq1:wr.cell? ⟨bW,oW+j*3+1,none⟩=some (.int .i64 y.up):=hcW 1 _ rfl
   obtain ⟨hu0,hu1⟩:=HUP.out j y hy
   have HTS:=hide (tree_succ up ls hy)
   clear hcW hy
   by_cases hj0:j=0
   ·subst hj0
    have hyu:=(hu0 rfl).1
    have hA5:=HO.out.lt
    clear hu0 hu1
    go_wp2_with (first|(refine wpList_loadW rfl 29 (.tmp 1) rfl 6 stk_agg stk_size (w.heap.size) 29 rfl (stkC g (.slice AU nU cU) (.slice AL nL cL)) R1.out rfl ?_)|(go_at_call 46;refine (RVRoot_e HV.out wr HU.out HL.out (by omega) HF.out HFU.out).mono ?_;rintro e61 wR ⟨A6,c6,rfl,h6,hbel⟩;have HBX:=hide hbel;have HO5:=hide ((HO.out.below hbel).alloc (.cells #[.int .i64 V.1,.slice A6 V.2.length c6] 80));replace HB:=hide (HB.out.trans (hbel.mono HB.out.size));replace R1:=hide (R1.out.on hbel);replace HU:=hide (HU.out.under hbel (by omega));replace HL:=hide (HL.out.under hbel (by omega));replace H4:=hide (btw_on H4.out hbel (by omega));replace HO:=hide (HO.out.below hbel);have hsz62:=hbel.size;have H6:=hide h6;clear h6;simp only [viwC];have hlit:(Instr.buildSlice 68 1 #[(0,.agg #[.int .i64 V.1,.slice A6 V.2.length c6])]).run Tryz.prog wR=.ok (.slice (some ⟨wR.heap.size,0,none⟩) 1 1) (wR.alloc (.cells #[.int .i64 V.1,.slice A6 V.2.length c6] 80)):=lit_viw V.1 A6 V.2.length c6 wR;clear hbel)|(at_builtin;refine wpList_append_OwE (E:=viewEn) _ rfl (.tmp 24) (.tmp 27) 68 rfl wD.heap.size 80 zviw 32 Tryz.underlying68 viw_info rfl (by decide) A5 0 c5 (treeV up ls (ws.take 0)) rfl HO5.out (fun b=>wr.heap.size≤b∧b < (wR.alloc (.cells (viwC V.1 (.slice A6 V.2.length c6)).toArray 80)).heap.size) (some ⟨wR.heap.size,0,none⟩) 1 1 [V] rfl (viw_lit1 wR V H6.out (by omega)) (fun b hb=>⟨⟨hb.2,fun _ _ _ _=>rfl⟩,fun a ha=>Nat.ne_of_gt (Nat.lt_of_lt_of_le (hA5 a ha) hb.1)⟩) 1 rfl (by omega) (by omega) (by simp;omega) ?_;intro A7 c7 w7 ho7 hb7;have HB7:=hide (HBR.out.trans (((HBX.out.mono (by omega)).alloc (by omega) _).trans hb7));have HO7:=hide ho7;clear ho7 hb7))
    go_roundw
    case rel =>
     refine ⟨1,by omega,rfl,⟨_,_,rfl,?_⟩,HB7.out⟩
     have h1:=HO7.out
     rw [HTS.out]
     rw [show wayView up ls (treeV up ls (ws.take 0)) y=V from by unfold wayView;rw [hyu,if_pos (by decide)];exact HV.out]
     exact h1
    case measure=>simp [intOf];omega
   ·obtain ⟨p,hyp,hpj⟩:=hu1 (by omega)
    have hpl:p < (treeV up ls (ws.take j)).length:=by rw [tree_take,List.length_take];omega
    obtain ⟨v,hv⟩:∃v,(treeV up ls (ws.take j))[p]?=some v:=⟨_,List.getElem?_eq_getElem hpl⟩
    obtain ⟨P,hP⟩:∃P,partV up ls v.2 y.ino y.name=P:=⟨_,rfl⟩
    have HP:=hide hP
    have hvf:v.2.length≤ls.length:=tree_few up ls _ v (List.mem_of_getElem? hv)
    have HWV:=hide (show wayView up ls (treeV up ls (ws.take j)) y=(y.ino,P) from by unfold wayView;rw [hyp,if_neg (by omega),Int.toNat_natCast,hv];show (y.ino,partV up ls v.2 y.ino y.name)=_;rw [hP])
    obtain ⟨gO,A2,c2,rfl,hgb,hgl,hcv,hrv⟩:=OwE.get_view HO.out hv
    have HVC:=hide hcv
    have hpj':(p:Int) < (j:Int):=by omega
    have hp0:(0:Int)≤(p:Int):=by omega
    have hpn:decide ((p:Int) < 0)=false:=decide_eq_false (by omega)
    have hyu:y.up=(p:Int):=hyp
    have hbWl:bW < wD.heap.size:=by have:=hbW.2;omega
    clear hu0 hu1 hP hv hpl hcv
    go_wp2_with fail
    clear hq1
    refine wp_region_planN (fun w'=>KeepS wr wD.heap.size gO (p*2) (viwC v.1 (.slice A2 v.2.length c2)) w') [(0,true),(1,true),(2,true),(3,true),(4,true),(5,true),(6,true),(7,true),(8,true),(9,true),(10,true),(11,true),(12,true),(13,true),(14,true),(15,true),(16,true),(17,true),(18,true),(19,true),(20,true),(21,true),(22,true),(23,true),(24,true),(25,false),(26,true),(27,false),(28,false),(29,true)] (by kernel_rfl) (by kernel_rfl) (by kernel_rfl) (by kernel_rfl) rfl (fun _ _ _ _ _ h=>h) (KeepS.start HVC.out) (fun hHeld=>?_)
    have hwds:wr.drew.heap.size=wr.heap.size:=rfl
    replace HO:=hide (show OwE viewEn wr.drew wD.heap.size 80 (some ⟨gO,0,none⟩) j c5 (treeV up ls (ws.take j)) from HO.out)
    replace HU:=hide (show RdE nodEn wr.drew (Under B) AU nU up from HU.out)
    replace HL:=hide (show RdE layEn wr.drew (Under B) AL nL ls from HL.out)
    have HVL:=hide (show RdE prEn wr.drew (Under wr.drew.heap.size) A2 v.2.length v.2 from hrv.mono (fun _ _=>rfl) (fun b hb=>hb.1))
    clear hrv
    generalize wr.drew=wd at *
    simp only [planOps,List.filterMap_cons,List.filterMap_nil,List.getElem?_toArray,List.getElem?_cons_succ,List.getElem?_cons_zero,Option.map_some]
    iterate 5
     refine wpPlan_take (v:=?_) (by kernel_rfl) (fun wS hSw=>?_) ?_
     rotate_left
     ·(try dsimp only at hSw);go_simp;(try with_reducible rfl)
     (try simp only [Act.put,pu1,pu2,pu3])
    refine wpPlan_take (v:=?_) (by kernel_rfl) (fun wS hSw=>?_) ?_
    rotate_left
    ·have qx:wS.cell? ⟨bW,oW+j*3,none⟩=some (.int .i64 y.ino):=(hSw.cell (p:=⟨bW,oW+j*3,none⟩) (by show bW < _;omega) (by show bW≠_;omega)).trans (HCW.out 0 _ rfl);go_simp;(try with_reducible rfl)
    (try simp only [Act.put,pu1,pu2,pu3])
    refine wpPlan_take (v:=?_) (by kernel_rfl) (fun wS hSw=>?_) ?_
    rotate_left
    ·refine execOp_load (x:=.tmp 1) (k:=6) (g:=w.heap.size) (off:=0) (cs:=[.int .i64 g.a,.int .i64 g.b,.int .i64 g.c,.int .i64 g.d,.slice AU nU cU,.slice AL nL cL]) ?_ stk_agg stk_size ?_ (fun j v hv=>by rw [Nat.zero_add];exact ((hSw.row R1.out (by omega)).cell j).trans hv) rfl <;> rfl
    (try simp only [Act.put,pu1,pu2,pu3])
    iterate 5
     refine wpPlan_take (v:=?_) (by kernel_rfl) (fun wS hSw=>?_) ?_
     rotate_left
     ·(try dsimp only at hSw);go_simp;(try with_reducible rfl)
     (try simp only [Act.put,pu1,pu2,pu3])
    refine wpPlan_take (v:=?_) (by kernel_rfl) (fun wS hSw=>?_) ?_
    rotate_left
    ·have qx:wS.cell? ⟨bW,oW+j*3+1,none⟩=some (.int .i64 y.up):=(hSw.cell (p:=⟨bW,oW+j*3+1,none⟩) (by show bW < _;omega) (by show bW≠_;omega)).trans (HCW.out 1 _ rfl);go_simp;(try with_reducible rfl)
    (try simp only [Act.put,pu1,pu2,pu3])
    refine wpPlan_take (v:=?_) (by kernel_rfl) (fun wS hSw=>?_) ?_
    rotate_left
    ·(try dsimp only at hSw);go_simp;(try with_reducible rfl)
    (try simp only [Act.put,pu1,pu2,pu3])
    refine wpPlan_take (v:=?_) (by kernel_rfl) (fun wS hSw=>?_) ?_
    rotate_left
    ·refine execOp_load (x:=.tmp 42) (k:=2) (g:=gO) (off:=p*2) (cs:=[.int .i64 v.1,.slice A2 v.2.length c2]) ?_ viw_agg viw_size ?_ (fun j v hv=>hSw.2.2 j v hv) rfl <;> rfl
    (try simp only [Act.put,pu1,pu2,pu3])
    iterate 4
     refine wpPlan_take (v:=?_) (by kernel_rfl) (fun wS hSw=>?_) ?_
     rotate_left
     ·(try dsimp only at hSw);go_simp;(try with_reducible rfl)
     (try simp only [Act.put,pu1,pu2,pu3])
    refine wpPlan_take (v:=?_) (by kernel_rfl) (fun wS hSw=>?_) ?_
    rotate_left
    ·have qx:wS.cell? ⟨bW,oW+j*3,none⟩=some (.int .i64 y.ino):=(hSw.cell (p:=⟨bW,oW+j*3,none⟩) (by show bW < _;omega) (by show bW≠_;omega)).trans (HCW.out 0 _ rfl);go_simp;(try with_reducible rfl)
    (try simp only [Act.put,pu1,pu2,pu3])
    iterate 4
     refine wpPlan_take (v:=?_) (by kernel_rfl) (fun wS hSw=>?_) ?_
     rotate_left
     ·(try dsimp only at hSw);go_simp;(try with_reducible rfl)
     (try simp only [Act.put,pu1,pu2,pu3])
    refine wpPlan_take (v:=?_) (by kernel_rfl) (fun wS hSw=>?_) ?_
    rotate_left
    ·have qx:wS.cell? ⟨bW,oW+j*3+2,none⟩=some (.string ⟨y.name.toArray⟩):=(hSw.cell (p:=⟨bW,oW+j*3+2,none⟩) (by show bW < _;omega) (by show bW≠_;omega)).trans (HCW.out 2 _ rfl);go_simp;(try with_reducible rfl)
    (try simp only [Act.put,pu1,pu2,pu3])
    refine wpPlan_call (by kernel_rfl) (fun K hK=>?_)
    have hOld:=hide hHeld
    clear hHeld
    go_simp
    go_at_call 47
    refine (RVPart_e (u:=v.1) (cV:=c2) (BV:=wd.heap.size) HP.out _ HU.out HL.out (by omega) HF.out HFU.out HVL.out (Nat.le_refl _) (by omega)).mono ?_
    rintro e w' ⟨A6,c6,rfl,h6,hbel⟩
    have H6:=hide h6
    have HO2:=hide (HO.out.below hbel)
    have hszc:=hbel.size
    clear h6
    refine hK.out _ _ (hOld.out.on hbel (by omega) (by omega)) (fun hHeld=>?_)
    clear hK K
    (try dsimp only)
    refine wpPlan_take (v:=?_) (by kernel_rfl) (fun wS hSw=>?_) ?_
    rotate_left
    ·(try dsimp only at hSw);go_simp;(try with_reducible rfl)
    (try simp only [Act.put,pu1,pu2,pu3])
    refine wpPlan_call (by kernel_rfl) (fun K hK=>?_)
    have hOld:=hide hHeld
    clear hHeld
    unfold Oper.wp execOp
    have hlit:(Instr.buildSlice 68 1 #[(0,.agg #[.int .i64 y.ino,.slice A6 P.length c6])]).run Tryz.prog w'=.ok (.slice (some ⟨w'.heap.size,0,none⟩) 1 1) (w'.alloc (.cells #[.int .i64 y.ino,.slice A6 P.length c6] 80)):=lit_viw y.ino A6 P.length c6 w'
    go_simp
    have hal:=below_new (below_self w') (.cells #[.int .i64 y.ino,.slice A6 P.length c6] 80)
    refine hK.out _ _ (hOld.out.on hal (by omega) (by omega)) (fun hHeld=>?_)
    clear hK K
    have HO3:=hide (HO2.out.alloc (.cells #[.int .i64 y.ino,.slice A6 P.length c6] 80))
    clear hlit hal HO2 hOld
    (try simp only [Act.put,pu1,pu2,pu3])
    refine wpPlan_call (by kernel_rfl) (fun K hK=>?_)
    have hOld:=hide hHeld
    clear hHeld
    refine wp_append_OwK (E:=viewEn) _ (.tmp 29) (.tmp 56) 68 rfl wD.heap.size 80 zviw 32 Tryz.underlying68 viw_info rfl (by decide) (some ⟨gO,0,none⟩) j c5 (treeV up ls (ws.take j)) rfl HO3.out (fun b=>wd.heap.size≤b∧b < (w'.alloc (.cells (viwC y.ino (.slice A6 P.length c6)).toArray 80)).heap.size) (some ⟨w'.heap.size,0,none⟩) 1 1 [(y.ino,P)] rfl (viw_lit1 w' (y.ino,P) H6.out (by omega)) (fun b hb=>⟨⟨hb.2,fun _ _ _ _=>rfl⟩,fun a ha=>by cases ha;exact (fun e=>by have h1:=hb.1;rw [e] at h1;exact absurd h1 (by show ¬wd.heap.size≤gO;omega))⟩) (by omega) (j+1) rfl (by omega) (by omega) (by simp;omega) ?_
    intro A7 c7 w7 ho7 hb7 hk7 hg7
    refine hK.out _ _ (hOld.out.grow hb7 hg7 (m:=j*2) (by simp only [viwC,List.length_cons,List.length_nil];omega) (fun i u hi hu=>hk7 gO i u rfl hi hu)) (fun hHeld=>?_)
    clear hK K
    have HO7:=hide ho7
    clear ho7 hb7 hk7 hg7 hOld
    (try simp only [Act.put,pu1,pu2,pu3])
    refine wpPlan_take (v:=?_) (by kernel_rfl) (fun wS hSw=>?_) ?_
    rotate_left
    ·(try dsimp only at hSw);go_simp;(try with_reducible rfl)
    (try simp only [Act.put,pu1,pu2,pu3])
    refine wpPlan_end ?_
    go_wp2_with fail
    go_roundw
    case rel =>
     refine ⟨j+1,by omega,by go_num,⟨_,_,rfl,?_⟩,HBR.out.trans hHeld.1⟩
     rw [HTS.out,HWV.out]
     exact HO7.out
    case measure=>simp [intOf];omega
  ·obtain rfl:j=n4:=by omega
   have hj2:¬(j:Int) < (j:Int):=by omega
   go_wp2_with fail
   go_ret2
   have ht:ws.take j=ws:=List.take_of_length_le (by omega)
   have h5:=(HO.out.rd rfl).plain
   rw [ht] at h5
   refine ⟨A4,c4,A5,c5,by rw [tree_len,hn4];rfl,by rw [hn4];exact H4.out.mono (fun _ _=>rfl) (fun b hb=>⟨by have:=hb.1;omega,by have:=hb.2;omega⟩),by rw [tree_len,hn4];exact h5,HB.out⟩
end Go.Proofs.YtnhegahpfacdgaaGreat

namespace Go.Proofs.YtnhegahpfacdgaaGreat
open Go.RowKit Go.Shelf Plain

def upC1 (E:Value):List Value:=nodC ndD (.slice none 0 0) E++(nodC ndD (.slice none 0 0) (.slice none 0 0)++(nodC ndD (.slice none 0 0) (.slice none 0 0)++(nodC nod0 (.slice none 0 0) (.slice none 0 0)++nodC nod0 (.slice none 0 0) (.slice none 0 0))))
end Go.Proofs.YtnhegahpfacdgaaGreat

namespace Go.Proofs.YtnhegahpfacdgaaGreat
open Go.RowKit Go.Shelf Plain

def TreeP (w:World) (n:Nat) (ws:List WayV) (vs:List ViewV) (e:Ending) (w':World):Prop:=∃A c A' c',e=.returned (.tuple #[.slice A n c,.slice A' n c'])∧RdE wayEn w' (fun b=>w.heap.size≤b∧b < w'.heap.size) A n ws∧RdE viewEn w' (Under w'.heap.size) A' n vs∧Below w.heap.size w w'
theorem TreeF.p {w w':World} {ws:List WayV} {vs:List ViewV} {n:Nat} {e:Ending} (h:TreeF w ws vs e w') (h1:ws.length=n) (h2:vs.length=n):TreeP w n ws vs e w':=by
 obtain ⟨A,c,A',c',he,ha,hb,hbl⟩:=h
 rw [h1] at he ha
 rw [h2] at he hb
 exact ⟨A,c,A',c',he,ha,hb,hbl⟩
theorem VTree_p {g:GeoQ} {AU AL:Option Addr} {nU cU nL cL B:Nat} {up:List NodV} {ls:List (List NodV)} {ws:List WayV} {T:List ViewV} {n:Nat} (hw:(walkW up [1]).1=ws) (hT:treeV up ls ws=T) (hn:ws.length=n) (w:World) (hu:RdE nodEn w (Under B) AU nU up) (h:RdE layEn w (Under B) AL nL ls) (hB:B≤w.heap.size) (hF:FewL ls) (hup:FewU up):Calls Tryz.prog 37 #[.agg (stkC g (.slice AU nU cU) (.slice AL nL cL)).toArray] w (TreeP w n ws T) :=
 (VTree_any hw w hu h hB hF hup).mono (fun e w' he=>TreeF.p (by rw [←hT];exact he) hn (by rw [←hT,tree_len];exact hn))
theorem RVTree_p {g:GeoQ} {AU AL:Option Addr} {nU cU nL cL B:Nat} {up:List NodV} {ls:List (List NodV)} {ws:List WayV} {T:List ViewV} {n:Nat} (hw:(walkW up [1]).1=ws) (hT:treeV up ls ws=T) (hn:ws.length=n) (w:World) (hu:RdE nodEn w (Under B) AU nU up) (h:RdE layEn w (Under B) AL nL ls) (hB:B≤w.heap.size) (hF:FewL ls) (hup:FewU up):Calls Tryz.prog 24 #[.agg (stkC g (.slice AU nU cU) (.slice AL nL cL)).toArray] w (TreeP w n ws T) :=
 (RVTree_any hw w hu h hB hF hup).mono (fun e w' he=>TreeF.p (by rw [←hT];exact he) hn (by rw [←hT,tree_len];exact hn))
end Go.Proofs.YtnhegahpfacdgaaGreat

namespace Go.Proofs.YtnhegahpfacdgaaGreat
open Go.RowKit Go.Shelf Plain

theorem enc_lit1 {α:Type} {E:Enc α} {x:α} {cs:List Value} (hR:∀w D,E.R w D cs x) (W:World) (t:Nat) {lo:Nat} (hlo:lo≤W.heap.size):RdE E (W.alloc (.cells cs.toArray t)) (fun b=>lo≤b∧b < (W.alloc (.cells cs.toArray t)).heap.size) (some ⟨W.heap.size,0,none⟩) 1 [x]:=by
 refine ⟨rfl,fun _=>⟨_,_,rfl,⟨hlo,by simp⟩,fun i y hy=>⟨cs,?_,fun j v hv=>?_⟩⟩⟩
 ·have hi:i=0:=by have:=(List.getElem?_eq_some_iff.1 hy).1;simpa using this
  subst hi
  obtain rfl:x=y:=by simpa using hy
  exact hR _ _
 ·have hi:i=0:=by have:=(List.getElem?_eq_some_iff.1 hy).1;simpa using this
  subst hi
  rw [Nat.zero_mul,Nat.zero_add,Nat.zero_add,(RowL.new W t cs).cell]
  exact hv
theorem owe_apart {α:Type} {E:Enc α} {W:World} {base e n c g t:Nat} {A:Option Addr} {l:List α} {cs:List Value} (ho:OwE E W base e A n c l) (hr:RowL W g t cs) (h:t≠e):some g≠(Value.slice A n c).ownBlock:=by
 obtain ⟨css,hrow,-⟩:=ho
 exact row_apart hrow hr h
theorem own_other {α β:Type} {E:Enc α} {F:Enc β} (hE:∀ {w w':World} {D D':Nat→Prop} {cs:List Value} {x:α},E.R w D cs x→E.R w' D' cs x) {w w':World} {b1 e1 n1 c1 b2 e2 n2 c2:Nat} {A1 A2:Option Addr} {l1:List α} {l2:List β} (h1:OwE E w b1 e1 A1 n1 c1 l1) (h2:OwE F w b2 e2 A2 n2 c2 l2) (he:e2≠e1) (hg:w.grownBy w' (Value.slice A2 n2 c2).ownBlock):OwE E w' b1 e1 A1 n1 c1 l1:=by
 obtain ⟨css,hr,hc,hl⟩:=h1
 obtain ⟨_,hr2,-⟩:=h2
 exact ⟨css,hr.kept hg (owns_apart hr2 hr he),⟨hc.1,fun i cs x h3 h4=>hE (hc.2 i cs x h3 h4)⟩,hl⟩
theorem wpList_append_OwK {α : Type} {E : Enc α} {P : Program} (w : World) {ops : Array Oper} {rest : List Oper} {o : Oper} {a : Act} {Q : Exit → Act → World → Prop} (hgd : o.guard = none) (s x : Operand) (t : TypeId)
  (ho:o.op=.call {callee:=.builtin .append,args:=#[s,x],argTypes:=#[t,t]})
  (base:Nat) (e:TypeId) (z:Value) (k:Nat) (ht:P.underlying t=some (.slice e)) (hinfo:(P.info? e).map (fun i=>(i.zero,i.size,i.bytes))=some (some z,E.k,k)) (hzs:z.cells.size=E.k) (hk:0 < E.k)
  (A0:Option Addr) (n c0:Nat) (l0:List α) (hs:a.eval s=.slice A0 n c0) (hown:OwE E w base e A0 n c0 l0) (D:Nat→Prop) (A:Option Addr) (m c:Nat) (l1:List α) (hx:a.eval x=.slice A m c) (hb:RdE E w D A m l1) (hD:∀b,D b→But w A0 b) (hm:0 < m)
  (N:Nat) (hN:n+m=N) (hbytes:N*k≤140737488355328) (hnm:N≤140737488355328) (hbase:base≤w.heap.size)
  (h:∀A' c' w',OwE E w' base e A' N c' (l0++l1)→Below base w w'→w.grownBy w' (Value.slice A0 n c0).ownBlock→wpList P ops Q rest (a.put o.dst (.slice A' N c')) w'):wpList P ops Q (o::rest) a w :=
 wpList_plain hgd fun _ hK=>wp_append_OwK w s x t ho base e z k ht hinfo hzs hk A0 n c0 l0 hs hown D A m c l1 hx hb hD hm N hN hbytes hnm hbase (fun A' c' w' h1 h2 _ h4=>hK _ _ (h A' c' w' h1 h2 h4))
end Go.Proofs.YtnhegahpfacdgaaGreat

namespace Go.Proofs.YtnhegahpfacdgaaGreat
open Go.RowKit Go.Shelf Plain

def StopsR (w:World) (D:Nat→Prop) (raws:List RawS) (ss:List StopV):Prop:=raws.length=ss.length∧∀(i:Nat) (r:RawS) (s:StopV),raws[i]?=some r→ss[i]?=some s→r.1=s.1.1∧r.2.2=pathC s.2∧r.2.1.2.1=s.1.2.length∧RdE prEn w D r.2.1.1 s.1.2.length s.1.2
theorem StopsR.mono {w w':World} {D D':Nat→Prop} {raws:List RawS} {ss:List StopV} (h:StopsR w D raws ss) (hk:Kept D w w') (hD:∀b,D b→D' b):StopsR w' D' raws ss:=⟨h.1,fun i r s h1 h2=>by
 obtain ⟨k1,k2,k3,k4⟩:=h.2 i r s h1 h2
 exact ⟨k1,k2,k3,k4.mono hk hD⟩⟩
theorem StopsR.snoc {w:World} {D:Nat→Prop} {raws:List RawS} {ss:List StopV} {r:RawS} {s:StopV} (h:StopsR w D raws ss) (h1:r.1=s.1.1) (h2:r.2.2=pathC s.2) (h3:r.2.1.2.1=s.1.2.length) (h4:RdE prEn w D r.2.1.1 s.1.2.length s.1.2):StopsR w D (raws++[r]) (ss++[s]):=by
 refine ⟨by rw [List.length_append,List.length_append,h.1];rfl,fun i r' s' hr hs=>?_⟩
 by_cases hi:i < raws.length
 ·rw [List.getElem?_append_left hi] at hr
  rw [List.getElem?_append_left (by rw [←h.1];exact hi)] at hs
  exact h.2 i r' s' hr hs
 ·have hi2:i=raws.length:=by have:=(List.getElem?_eq_some_iff.1 hr).1;simp at this;omega
  subst hi2
  rw [List.getElem?_append_right (Nat.le_refl _),Nat.sub_self] at hr
  rw [h.1,List.getElem?_append_right (Nat.le_refl _),Nat.sub_self] at hs
  obtain rfl:r=r':=by simpa using hr
  obtain rfl:s=s':=by simpa using hs
  exact ⟨h1,h2,h3,h4⟩
theorem run_append_OwG {α : Type} {E : Enc α} {P : Program} (w : World) (base : Nat) (t ty e : TypeId) (z : Value) (k : Nat) (ht : P.underlying t = some (.slice e)) (hinfo : (P.info? e).map (fun i => (i.zero, i.size, i.bytes)) = some (some z, E.k, k)) (hzs : z.cells.size = E.k) (hk : 0 < E.k)
  (D0:Nat→Prop) (A0:Option Addr) (n c0:Nat) (l0:List α) (hown:OwD E D0 w base e A0 n c0 l0) (hR:∀ {w w':World} {D D':Nat→Prop} {cs:List Value} {x:α},E.R w D cs x→E.R w' D' cs x) (D:Nat→Prop) (A:Option Addr) (m c:Nat) (l1:List α) (hb:RdE E w D A m l1)
  (hbytes:(n+m)*k≤140737488355328) (hnm:n+m≤140737488355328) (hbase:base≤w.heap.size) :
  ∃A' c' w',(Builtin.append_ #[t,t] ty #[.slice A0 n c0,.slice A m c]).run P w=.ok (.slice A' (n+m) c') w'∧OwD E D0 w' base e A' (n+m) c' (l0++l1)∧Below base w w'∧w.grownBy w' (Value.slice A0 n c0).ownBlock:=by
 obtain ⟨css,hrow,hc,hl,hD0⟩:=hown
 obtain ⟨v',w',dss,hr,h2,h3,h4,h5,h6⟩:=run_append_E (P:=P) w base t ty e z k ht hinfo hzs hk _ n css hrow D A m c l1 hb hbytes hnm hbase
 have hv:∃A' c',v'=.slice A' (n+m) c':=by
  rcases h2.2 with ⟨rfl,h0⟩|⟨g,cap,cur,rfl,_⟩
  ·exact ⟨none,0,by rw [h0]⟩
  ·exact ⟨_,_,rfl⟩
 obtain ⟨A',c',rfl⟩:=hv
 refine ⟨A',c',w',hr,⟨css++dss,h2,?_,by rw [List.length_append,hl,hb.1],fun b hb=>⟨Nat.lt_of_lt_of_le (hD0 b hb).1 h4.size,fun a ha e=>?_⟩⟩,h4,h5⟩
 ·have hc':CellsE E w' D0 css l0:=⟨hc.1,fun i cs x k1 k2=>hR (hc.2 i cs x k1 k2)⟩
  have h3':CellsE E w' D0 dss l1:=⟨h3.1,fun i cs x k1 k2=>hR (h3.2 i cs x k1 k2)⟩
  exact hc'.append h3'
 ·subst ha
  rcases h6 with h6|h6
  ·cases A0 with
   | none=>simp [Value.ownBlock] at h6
   | some a0 =>
    have e2:a.block=a0.block:=by simpa [Value.ownBlock] using h6
    exact (hD0 b hb).2 a0 rfl (e.trans e2)
  ·have h7:=h6 a.block rfl
   have h8:=(hD0 b hb).1
   omega
theorem wp_append_OwG {α : Type} {E : Enc α} {P : Program} (w : World) {o : Oper} {a : Act} {K : Act → World → Prop} {Q : Exit → Act → World → Prop} (s x : Operand) (t : TypeId)
  (ho:o.op=.call {callee:=.builtin .append,args:=#[s,x],argTypes:=#[t,t]})
  (base:Nat) (e:TypeId) (z:Value) (k:Nat) (ht:P.underlying t=some (.slice e)) (hinfo:(P.info? e).map (fun i=>(i.zero,i.size,i.bytes))=some (some z,E.k,k)) (hzs:z.cells.size=E.k) (hk:0 < E.k)
  (D0:Nat→Prop) (A0:Option Addr) (n c0:Nat) (l0:List α) (hs:a.eval s=.slice A0 n c0) (hown:OwD E D0 w base e A0 n c0 l0) (hR:∀ {w w':World} {D D':Nat→Prop} {cs:List Value} {x:α},E.R w D cs x→E.R w' D' cs x) (D:Nat→Prop) (A:Option Addr) (m c:Nat) (l1:List α) (hx:a.eval x=.slice A m c) (hb:RdE E w D A m l1)
  (N:Nat) (hN:n+m=N) (hbytes:N*k≤140737488355328) (hnm:N≤140737488355328) (hbase:base≤w.heap.size)
  (h:∀A' c' w',OwD E D0 w' base e A' N c' (l0++l1)→Below base w w'→w.grownBy w' (Value.slice A0 n c0).ownBlock→K (a.put o.dst (.slice A' N c')) w'):o.wp P a w K Q:=by
 subst hN
 obtain ⟨A',c',w',hr,h2,h3,h4⟩:=run_append_OwG (P:=P) w base t o.type e z k ht hinfo hzs hk D0 A0 n c0 l0 hown hR D A m c l1 hb hbytes hnm hbase
 unfold Oper.wp execOp
 simp only [ho,resolve,invoke,builtin,Sem.run_bind,Sem.run_pure,Result.andThen_ok,List.map_toArray,List.map_cons,List.map_nil,hs,hx,hr]
 exact h A' c' w' h2 h3 h4
theorem OwD.more {α:Type} {E:Enc α} {D D':Nat→Prop} {w:World} {base e n c:Nat} {A:Option Addr} {l:List α} (h:OwD E D w base e A n c l) (h1:∀b,D b→D' b) (h2:∀b,D' b→b < w.heap.size∧∀a,A=some a→b≠a.block):OwD E D' w base e A n c l:=by
 obtain ⟨css,k1,k2,k3,k4⟩:=h
 exact ⟨css,k1,k2.mono (fun _ _=>rfl) h1,k3,h2⟩
end Go.Proofs.YtnhegahpfacdgaaGreat

namespace Go.Proofs.YtnhegahpfacdgaaGreat
open Go.RowKit Go.Shelf Plain

theorem wp_storeVo {P : Program} {w : World} {o : Oper} {a : Act} {K : Act → World → Prop} {Q : Exit → Act → World → Prop} (T : Nat) (x y : Operand) (ho : o.op = .store T x y)
  (hsz:∀w,(sizeOf T).run P w=.ok 1 w) (g off t:Nat) (hx:a.eval x=.pointer (some ⟨g,off,none⟩)) (v:Value) (hy:a.eval y=v) (hv:v.cells=#[v]) (h1:v.oneCell'=true) (cur:List Value) (h:RowL w g t cur) (hfit:off < cur.length)
  (hK:∀w',RowL w' g t (cur.set off v)→w.grownBy w' (some g)→w'.heap.size=w.heap.size→K (a.put o.dst undef) w'):o.wp P a w K Q:=by
 have hst:=run_storeCells_at P g off t [v] 0 cur.toArray w h (by simp;omega) (by simp [h1])
 simp only [Nat.add_zero] at hst
 have hr:(Instr.storeAt T (.pointer (some ⟨g,off,none⟩)) v).run P w=.ok () (w.setRow g (splice cur off [v]).toArray):=by
  simp [Instr.storeAt,Instr.sureAddr,storeVar,hsz,hv,hst,splice]
 unfold Oper.wp execOp
 simp only [ho,Sem.run_bind,Sem.run_pure,Result.andThen_ok,hx,hy,hr]
 have hrow:=h.setRow_ (splice cur off [v])
 rw [splice_one _ _ _ hfit] at hrow ⊢
 exact hK _ hrow (grownBy_setRow _ _ _) (by simp)
end Go.Proofs.YtnhegahpfacdgaaGreat

