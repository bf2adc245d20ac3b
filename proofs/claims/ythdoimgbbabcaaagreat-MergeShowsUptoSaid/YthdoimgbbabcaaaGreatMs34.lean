import Derived.Test.YthdoimgbbabcaaaGreatMs33
import Derived.Test.YthdoimgbbabcaaaGreatMs28
import Derived.Test.YthdoimgbbabcaaaGreatMs32

namespace Go.Proofs.YthdoimgbbabcaaaGreat
open Go.RowKit Go.Shelf Plain

theorem RVRoot_e {g:GeoQ} {AU AL:Option Addr} {nU cU nL cL B:Nat} {up:List NodV} {ls:List (List NodV)} {V:ViewV} (hV:rootV up ls=V) (w:World) (hu:RdE nodEn w (Under B) AU nU up) (h:RdE layEn w (Under B) AL nL ls) (hB:B≤w.heap.size) (hF:FewL ls) (hup:FewU up):Calls Tryz.prog 46 #[.agg (stkC g (.slice AU nU cU) (.slice AL nL cL)).toArray] w (ViewF w.heap.size w V):=by rw [←hV];exact RVRoot_any w hu h hB hF hup
theorem RVNames_e {g:GeoQ} {AU AL:Option Addr} {nU cU nL cL B:Nat} {up:List NodV} {ls:List (List NodV)} {u:Int} {AV:Option Addr} {nV cV BV:Nat} {vl:List (Int×Int)} {L:List (List UInt8)} (hL:namesV up ls (u,vl)=L) (w:World) (hu:RdE nodEn w (Under B) AU nU up) (h:RdE layEn w (Under B) AL nL ls) (hB:B≤w.heap.size) (hF:FewL ls) (hup:FewU up) (hv:RdE prEn w (Under BV) AV nV vl) (hBV:BV≤w.heap.size) (hnV:nV≤1000):Calls Tryz.prog 45 #[.agg (stkC g (.slice AU nU cU) (.slice AL nL cL)).toArray,.agg (viwC u (.slice AV nV cV)).toArray] w (NamesO w L):=by rw [←hL];exact RVNames_any w hu h hB hF hup hv hBV hnV
end Go.Proofs.YthdoimgbbabcaaaGreat

namespace Go.Proofs.YthdoimgbbabcaaaGreat
open Go.RowKit Go.Shelf Plain

def Cut2 (lo g h:Nat) (w:World) (b:Nat):Prop:=lo≤b∧b < w.heap.size∧b≠g∧b≠h
theorem cut2_und {α:Type} {E:Enc α} {w:World} {lo g h:Nat} {A:Option Addr} {n:Nat} {l:List α} (hr:RdE E w (Cut2 lo g h w) A n l):RdE E w (Under w.heap.size) A n l:=hr.mono (fun _ _=>rfl) (fun _ hk=>hk.2.1)
theorem cut2_fr {α:Type} {E:Enc α} {w:World} {lo g h:Nat} {A:Option Addr} {n:Nat} {l:List α} (hr:RdE E w (Cut2 lo g h w) A n l):RdE E w (fun b=>lo≤b∧b < w.heap.size) A n l:=hr.mono (fun _ _=>rfl) (fun _ hk=>⟨hk.1,hk.2.1⟩)
theorem fr_cut2 {α:Type} {E:Enc α} {w:World} {lo lo' g h:Nat} {A:Option Addr} {n:Nat} {l:List α} (hr:RdE E w (fun b=>lo'≤b∧b < w.heap.size) A n l) (hl:lo≤lo') (hg:g < lo') (hh:h < lo'):RdE E w (Cut2 lo g h w) A n l:=hr.mono (fun _ _=>rfl) (fun _ hk=>⟨Nat.le_trans hl hk.1,hk.2,by omega,by omega⟩)
theorem btw_cut2 {α:Type} {E:Enc α} {w:World} {lo hi g h:Nat} {A:Option Addr} {n:Nat} {l:List α} (hr:RdE E w (fun b=>lo≤b∧b < hi) A n l) (hh:hi≤w.heap.size) (hg:hi≤g) (h2:hi≤h):RdE E w (Cut2 lo g h w) A n l:=hr.mono (fun _ _=>rfl) (fun _ hk=>⟨hk.1,by omega,by omega,by omega⟩)
theorem TwoS.keep {Wx W:World} {base r5 t5 k5 r6 t6 k6:Nat} (h:TwoS Wx base r5 t5 k5 r6 t6 k6 W) {b o:Nat} (hb:b < Wx.heap.size) (h5:b≠r5) (h6:b≠r6):W.cell? ⟨b,o,none⟩=Wx.cell? ⟨b,o,none⟩:=World.cell?_of_block (w:=Wx) (h.1 b hb h5 h6)
theorem go_no (up:List NodV) (ls:List (List NodV)) (x:List UInt8):goM up ls noStep x=noStep:=by unfold goM noStep;rw [if_neg (by decide)]
theorem fold_no (up : List NodV) (ls : List (List NodV)) : ∀ l : List (List UInt8), l.foldl (goM up ls) noStep = noStep
 | []=>rfl
 | x::r=>by rw [List.foldl_cons,go_no];exact fold_no up ls r
theorem at_no {up:List NodV} {ls:List (List NodV)} {l:List (List UInt8)} {j:Nat} (hj:j < l.length) (h:(atM up ls (l.take j)).1≠1):atM up ls l=noStep:=by
 obtain ⟨x,hx⟩:∃x,l[j]?=some x:=⟨_,List.getElem?_eq_getElem hj⟩
 have h1:=at_take up ls hx
 have h2:atM up ls (l.take (j+1))=noStep:=by rw [h1];unfold goM;rw [if_neg h]
 have h3:l=l.take (j+1)++l.drop (j+1):=(List.take_append_drop _ _).symm
 rw [h3]
 unfold atM at h2 ⊢
 rw [List.foldl_append,h2]
 exact fold_no up ls _
theorem RVRoot_p {g:GeoQ} {AU AL:Option Addr} {nU cU nL cL B:Nat} {up:List NodV} {ls:List (List NodV)} {u:Int} {vl:List (Int×Int)} {nl:Nat} (hV:rootV up ls=(u,vl)) (hnl:vl.length=nl) (w:World) (hu:RdE nodEn w (Under B) AU nU up) (h:RdE layEn w (Under B) AL nL ls) (hB:B≤w.heap.size) (hF:FewL ls) (hup:FewU up):Calls Tryz.prog 46 #[.agg (stkC g (.slice AU nU cU) (.slice AL nL cL)).toArray] w (fun e w'=>∃A c,e=.returned (.agg (viwC u (.slice A nl c)).toArray)∧RdE prEn w' (fun b=>w.heap.size≤b∧b < w'.heap.size) A nl vl∧Below w.heap.size w w'):=by
 subst hnl
 exact RVRoot_e hV w hu h hB hF hup
set_option maxRecDepth 100000 in
set_option maxHeartbeats 8000000 in
theorem RMAt_any {g:GeoQ} {AU AL:Option Addr} {nU cU nL cL B:Nat} {up:List NodV} {ls:List (List NodV)} {AN:Option Addr} {nN cN:Nat} {names:List (List UInt8)} {R:StepV} (hR:atM up ls names=R) (w:World) (hu:RdE nodEn w (Under B) AU nU up) (h:RdE layEn w (Under B) AL nL ls) (hB:B≤w.heap.size) (hF:FewL ls) (hup:FewU up) {BN:Nat} (hn:Rd st w BN AN nN names) (hBN:BN≤w.heap.size) (hnN:nN≤100000000):Calls Tryz.prog 22 #[.agg (stkC g (.slice AU nU cU) (.slice AL nL cL)).toArray,.slice AN nN cN] w (StepF w.heap.size w R):=by
 obtain ⟨W1,hW1⟩:∃W1,(((w.alloc (.cells (stkC g (.slice AU nU cU) (.slice AL nL cL)).toArray 29)).alloc (.cells (viwC 0 (.slice none 0 0)).toArray 47)).alloc (.cells (prC (0,0)).toArray 49))=W1:=⟨_,rfl⟩
 obtain ⟨r0,r1,r2,hb1,hs1⟩:=rowA3 w _ _ _ _ _ _ hW1
 have hW1':(((w.alloc (.cells #[.int .i64 g.a,.int .i64 g.b,.int .i64 g.c,.int .i64 g.d,.slice AU nU cU,.slice AL nL cL] 29)).alloc (.cells #[.int .i64 0,.slice none 0 0] 47)).alloc (.cells #[.int .i64 0,.int .i64 0] 49))=W1:=hW1
 have R2:=hide r0
 have R5:=hide r1
 have R6:=hide r2
 have HB:=hide hb1
 have hsz0:=hb1.size
 have HU:=hide (hu.under hb1 hB)
 have HL:=hide (h.under hb1 hB)
 have HF:=hide hF
 have HFU:=hide hup
 have HN:=hide (hn.below (hb1.mono hBN))
 have HR:=hide hR
 have hll:ls.length≤100:=by have:=hF.1;omega
 obtain ⟨V,hV⟩:∃V,rootV up ls=V:=⟨_,rfl⟩
 have HV:=hide hV
 have hu01:V.1=0∨V.1=1:=by rw [←hV];unfold rootV;dsimp only;split;exact .inr rfl;exact .inl rfl
 have hvl:V.2.length≤ls.length:=by rw [←hV];exact rootV_len up ls
 obtain ⟨u,vl⟩:=V
 dsimp only at hu01 hvl
 obtain ⟨nl,hnl⟩:∃nl,vl.length=nl:=⟨_,rfl⟩
 have HNL:=hide hnl
 obtain ⟨p9,hp9⟩:∃p9,(if u=0 then vl.headD (0,0) else (0,1))=p9:=⟨_,rfl⟩
 have HM:=hide (show atM up ls []=(1,(u,vl),p9) from by show beginM up ls=_;unfold beginM;rw [hV];dsimp only;rw [hp9])
 have hnmn:names.length=nN:=hn.1
 unfold stkC
 clear r0 r1 r2 hb1 hW1 hu h hF hup hn hR hV
 go_enter Tryz.func22,Tryz.ntmps22
 go_upto_if 16 with (first|(refine wpList_loadW rfl 29 (.tmp 2) rfl 6 stk_agg stk_size (w.heap.size) 29 rfl (stkC g (.slice AU nU cU) (.slice AL nL cL)) R2.out rfl ?_)|(go_at_call 46;refine (RVRoot_p HV.out HNL.out W1 HU.out HL.out (by omega) HF.out HFU.out).mono ?_;rintro e1 wB ⟨A8,c8,rfl,h8,hbel⟩;replace HB:=hide (HB.out.trans (hbel.mono HB.out.size));replace R2:=hide (R2.out.on hbel);replace R5:=hide (R5.out.on hbel);replace R6:=hide (R6.out.on hbel);replace HU:=hide (HU.out.under hbel (by omega));replace HL:=hide (HL.out.under hbel (by omega));replace HN:=hide (HN.out.below (hbel.mono (by omega)));have hsz2:=hbel.size;have H8:=hide h8;clear h8;clear hbel)|(refine wpList_storeW rfl 47 (.tmp 7) (.tmp 12) rfl 2 viw_size (wB.heap.size) 47 rfl (viwC 0 (.slice none 0 0)) (viwC u (.slice A8 nl c8)) rfl (RowL.new wB 47 (viwC 0 (.slice none 0 0))) rfl rfl (viwC_one _ _ _ _) ?_;intro wS3 hr3 hg3 hs3;have hzb:=below_stored' hg3;replace HB:=hide (HB.out.trans (hzb.mono HB.out.size));replace R2:=hide (R2.out.on hzb);replace R5:=hide (R5.out.on hzb);replace R6:=hide (R6.out.on hzb);replace HU:=hide (HU.out.under hzb (by omega));replace HL:=hide (HL.out.under hzb (by omega));replace HN:=hide (HN.out.below (hzb.mono (by omega)));replace H8:=hide (btw_on H8.out hzb (by omega));have hsz4:=hzb.size;have R7:=hide hr3;have hlt3:=hr3.lt;have q7_0:wS3.cell? ⟨wB.heap.size,0,none⟩=some (.int .i64 u):=R7.out.cell 0;have q7_1:wS3.cell? ⟨wB.heap.size,1,none⟩=some (.slice A8 nl c8):=R7.out.cell 1;clear hzb hr3;clear hg3 hs3)|(refine wpList_storeW rfl 49 (.tmp 9) (.tmp 13) rfl 2 plc_size (wS3.heap.size) 49 rfl (prC (0,0)) (prC (0,0)) rfl (RowL.new wS3 49 (prC (0,0))) rfl rfl (prC_one _) ?_;intro wS5 hr5 hg5 hs5;have hzb:=below_stored' hg5;clear q7_0 q7_1;replace HB:=hide (HB.out.trans (hzb.mono HB.out.size));replace R2:=hide (R2.out.on hzb);replace R5:=hide (R5.out.on hzb);replace R6:=hide (R6.out.on hzb);replace HU:=hide (HU.out.under hzb (by omega));replace HL:=hide (HL.out.under hzb (by omega));replace HN:=hide (HN.out.below (hzb.mono (by omega)));replace H8:=hide (btw_on H8.out hzb (by omega));replace R7:=hide (R7.out.on hzb);have hsz6:=hzb.size;have q7_0:wS5.cell? ⟨wB.heap.size,0,none⟩=some (.int .i64 u):=R7.out.cell 0;have q7_1:wS5.cell? ⟨wB.heap.size,1,none⟩=some (.slice A8 nl c8):=R7.out.cell 1;have R9:=hide hr5;have hlt5:=hr5.lt;clear hzb hr5;clear hg5 hs5))
 have R9X:=hide R9.out
 go_cut [] from 14 to 25 (fun wx=>wS5.grownBy wx (some (wS3.heap.size))∧RowL wx (wS3.heap.size) 49 (prC p9))
 case first =>
  rcases hu01 with hu0|hu0
  ·have hup0:decide ((0:Int) < u)=false:=decide_eq_false (by omega)
   have hup1:¬(0:Int) < u:=by omega
   rw [if_pos hu0] at hp9
   by_cases hl0:nl=0
   ·rw [show vl.headD (0,0)=(0,0) from by rw [List.eq_nil_of_length_eq_zero (by omega:vl.length=0)];rfl] at hp9
    subst hp9
    clear HNL hnl
    subst hl0
    clear hu0
    go_wp2_with (first|fail)
    go_meet
    case rel=>exact ⟨⟨rfl,rfl,rfl,Nat.le_refl _,fun _ _ _=>rfl⟩,R9.out⟩
   ·have hl1:decide ((0:Int) < (nl:Int))=true:=decide_eq_true (by omega)
    have hl3:0 < nl:=by omega
    have hl2:0 < vl.length:=by omega
    obtain ⟨p,hp0⟩:∃p,vl[0]?=some p:=⟨_,List.getElem?_eq_getElem hl2⟩
    rw [show vl.headD (0,0)=p from by cases vl with|nil=>simp at hl2|cons a r=>simpa using hp0] at hp9
    subst hp9
    obtain ⟨bP,oP,rfl,hbP,hcP⟩:=pr_get H8.out hp0
    have HCP:=hide (fun (j:Nat) (v:Value) (hv:(prC p)[j]?=some v)=>show wS5.cell? ⟨bP,oP+j,none⟩=some v from by have:=hcP j v hv;simpa using this)
    clear hcP hbP hu0 hl0
    go_wp2_with (first|(refine wpList_loadX rfl 49 (.tmp 24) rfl 2 plc_agg plc_size bP oP rfl (prC p) HCP.out rfl ?_)|(refine wpList_storeW rfl 49 (.tmp 9) (.tmp 25) rfl 2 plc_size (wS3.heap.size) 49 rfl (prC (0,0)) (prC p) rfl R9.out rfl rfl (prC_one _) ?_;intro wS7 hr7 hg7 hs7;have HGS:=hide hg7;clear q7_0 q7_1;replace HB:=hide (HB.out.grown hg7 (by omega) (pu4 (by omega)));replace R2:=hide (R2.out.grown hg7 (pu5 (by omega)));replace R5:=hide (R5.out.grown hg7 (pu5 (by omega)));replace R6:=hide (R6.out.grown hg7 (pu5 (by omega)));replace HU:=hide (und_grown HU.out hg7 (by omega) (by omega));replace HL:=hide (und_grown HL.out hg7 (by omega) (by omega));replace HN:=hide (rd_grown HN.out hg7 (by omega) (by omega));replace H8:=hide (btw_grown H8.out hg7 (by omega) (by omega));replace R7:=hide (R7.out.grown hg7 (pu5 (by omega)));have hsz8:=hg7.size;replace R9:=hide hr7;have q7_0:wS7.cell? ⟨wB.heap.size,0,none⟩=some (.int .i64 u):=R7.out.cell 0;have q7_1:wS7.cell? ⟨wB.heap.size,1,none⟩=some (.slice (some ⟨bP,oP,none⟩) nl c8):=R7.out.cell 1;clear hr7 hg7 hs7))
    go_meet
    case rel=>exact ⟨HGS.out,R9.out⟩
  ·have hup0:decide ((0:Int) < u)=true:=decide_eq_true (by omega)
   have hup1:(0:Int) < u:=by omega
   rw [if_neg (by omega)] at hp9
   subst hp9
   clear hu0
   go_wp2_with (first|(refine wpList_storeW rfl 49 (.tmp 9) (.tmp 17) rfl 2 plc_size (wS3.heap.size) 49 rfl (prC (0,0)) (prC (0,1)) rfl R9.out rfl rfl (prC_one _) ?_;intro wS7 hr7 hg7 hs7;have HGS:=hide hg7;clear q7_0 q7_1;replace HB:=hide (HB.out.grown hg7 (by omega) (pu4 (by omega)));replace R2:=hide (R2.out.grown hg7 (pu5 (by omega)));replace R5:=hide (R5.out.grown hg7 (pu5 (by omega)));replace R6:=hide (R6.out.grown hg7 (pu5 (by omega)));replace HU:=hide (und_grown HU.out hg7 (by omega) (by omega));replace HL:=hide (und_grown HL.out hg7 (by omega) (by omega));replace HN:=hide (rd_grown HN.out hg7 (by omega) (by omega));replace H8:=hide (btw_grown H8.out hg7 (by omega) (by omega));replace R7:=hide (R7.out.grown hg7 (pu5 (by omega)));have hsz8:=hg7.size;replace R9:=hide hr7;have q7_0:wS7.cell? ⟨wB.heap.size,0,none⟩=some (.int .i64 u):=R7.out.cell 0;have q7_1:wS7.cell? ⟨wB.heap.size,1,none⟩=some (.slice A8 nl c8):=R7.out.cell 1;clear hr7 hg7 hs7))
   go_meet
   case rel=>exact ⟨HGS.out,R9.out⟩
 case rest =>
 obtain ⟨hg,hr9⟩:=hcut
 clear hu01 R9X
 replace HB:=hide (HB.out.grown hg (by omega) (pu4 (by omega)))
 replace R2:=hide (R2.out.grown hg (pu5 (by omega)))
 replace R5:=hide (R5.out.grown hg (pu5 (by omega)))
 replace R6:=hide (R6.out.grown hg (pu5 (by omega)))
 replace HU:=hide (und_grown HU.out hg (by omega) (by omega))
 replace HL:=hide (und_grown HL.out hg (by omega) (by omega))
 replace HN:=hide (rd_grown HN.out hg (by omega) (by omega))
 replace H8:=hide (btw_grown H8.out hg (by omega) (by omega))
 replace R7:=hide (R7.out.grown hg (pu5 (by omega)))
 have hsz7:=hg.size
 replace R9:=hide hr9
 clear hg hr9
 have hl9:=R9.out.lt
 have hl7:=R7.out.lt
 go_wp2_with fail
 go_loopw [8,10] (fun v8 v10 wr=>∃j:Nat,j≤nN∧v10=.int .i64 j∧v8=.int .i64 (atM up ls (names.take j)).1∧(∃A c,RowL wr (wB.heap.size) 47 (viwC (atM up ls (names.take j)).2.1.1 (.slice A (atM up ls (names.take j)).2.1.2.length c))∧RowL wr (wS3.heap.size) 49 (prC (atM up ls (names.take j)).2.2)∧RdE prEn wr (Cut2 W1.heap.size (wB.heap.size) (wS3.heap.size) wr) A (atM up ls (names.take j)).2.1.2.length (atM up ls (names.take j)).2.1.2)∧Below (wB.heap.size) wc wr) (fun _ v10 _=>nN - (intOf v10).toNat)
 case atStart =>
  refine ⟨0,by omega,rfl,by rw [List.take_zero,HM.out],⟨A8,c8,?_,?_,?_⟩,Below.refl _ _⟩
  ·rw [List.take_zero,HM.out]
   show RowL wc _ _ (viwC u (.slice A8 vl.length c8))
   rw [HNL.out]
   exact R7.out
  ·rw [List.take_zero,HM.out]
   exact R9.out
  ·rw [List.take_zero,HM.out]
   show RdE prEn wc _ A8 vl.length vl
   rw [HNL.out]
   exact btw_cut2 H8.out (by omega) (by omega) (by omega)
 case round =>
  obtain ⟨j,hj,rfl,rfl,⟨A5,c5,hr7,hr9,h5⟩,hbr⟩:=hrel
  clear R7 R9 H8
  have hbsz:=hbr.size
  replace HB:=hide (HB.out.trans (hbr.mono (by omega)))
  replace R2:=hide (row_at R2.out hbr (by omega))
  replace R5:=hide (row_at R5.out hbr (by omega))
  replace R6:=hide (row_at R6.out hbr (by omega))
  replace HU:=hide (und_at HU.out hbr (by omega))
  replace HL:=hide (und_at HL.out hbr (by omega))
  replace HN:=hide (HN.out.below (hbr.mono (by omega)))
  have HBR:=hide hbr
  obtain ⟨S,hS⟩:∃S,atM up ls (names.take j)=S:=⟨_,rfl⟩
  have hSn:S.2.1.2.length≤1000:=by rw [←hS];have:=at_few up ls (names.take j);omega
  have HSS:=hide hS
  rw [hS] at hr7 hr9 h5 ⊢
  have R7:=hide hr7
  have R9:=hide hr9
  have H5:=hide h5
  clear hbr hS hr7 hr9 h5
  by_cases hlt:j < nN
  ·have hjn:(j:Int) < (nN:Int):=by omega
   by_cases hk:S.1=1
   ·have hk1:(S.1 != 1)=false:=by simpa using hk
    obtain ⟨x,hx⟩:∃x,names[j]?=some x:=⟨_,List.getElem?_eq_getElem (by omega)⟩
    obtain ⟨bS,oS,rfl,hbS,qS⟩:=st_cell HN.out hx
    obtain ⟨G,hG⟩:∃G,goM up ls S x=G:=⟨_,rfl⟩
    have HTK:=hide (show atM up ls (names.take (j+1))=G from by rw [at_take up ls hx,HSS.out,hG])
    have HG:=hide (show stepV up ls (S.2.1.1,S.2.1.2) x=G from by rw [←hG];unfold goM;rw [if_pos hk])
    clear hG hx hk
    go_wp2_with fail
    refine wp_region_planN (fun w'=>TwoS wr wB.heap.size (wB.heap.size) 47 2 (wS3.heap.size) 49 2 w') [(0,true),(2,true),(3,true),(4,true),(5,true),(1,false),(6,false),(7,true),(8,true),(9,true),(10,true),(11,true),(12,false),(13,false)] (by kernel_rfl) (by kernel_rfl) (by kernel_rfl) (by kernel_rfl) rfl (fun _ _ _ _ _ h=>h) (TwoS.start (base:=wB.heap.size) R7.out rfl R9.out rfl) (fun hHeld=>?_)
    have hwds:wr.drew.heap.size=wr.heap.size:=rfl
    have R7D:=hide (show RowL wr.drew (wB.heap.size) 47 (viwC S.2.1.1 (.slice A5 S.2.1.2.length c5)) from R7.out)
    have HUD:=hide (show RdE nodEn wr.drew (Under B) AU nU up from HU.out)
    have HLD:=hide (show RdE layEn wr.drew (Under B) AL nL ls from HL.out)
    have HVD:=hide (show RdE prEn wr.drew (Under wr.drew.heap.size) A5 S.2.1.2.length S.2.1.2 from cut2_und H5.out)
    generalize wr.drew=wd at *
    simp only [planOps,List.filterMap_cons,List.filterMap_nil,List.getElem?_toArray,List.getElem?_cons_succ,List.getElem?_cons_zero,Option.map_some]
    refine wpPlan_take (v:=?_) (by kernel_rfl) (fun wS hSw=>?_) ?_
    rotate_left
    ·refine execOp_load (x:=.tmp 2) (k:=6) (g:=w.heap.size) (off:=0) (cs:=(stkC g (.slice AU nU cU) (.slice AL nL cL))) ?_ stk_agg stk_size ?_ (fun j v hv=>by rw [Nat.zero_add];exact ((hSw.row R2.out (by omega) (by omega)).cell j).trans hv) rfl <;> rfl
    (try simp only [Act.put,pu1,pu2,pu3])
    iterate 3
     refine wpPlan_take (v:=?_) (by kernel_rfl) (fun wS hSw=>?_) ?_
     rotate_left
     ·(try dsimp only at hSw);go_simp;(try with_reducible rfl)
     (try simp only [Act.put,pu1,pu2,pu3])
    refine wpPlan_take (v:=?_) (by kernel_rfl) (fun wS hSw=>?_) ?_
    rotate_left
    ·have qx:wS.cell? ⟨bS,oS+j,none⟩=some (.string ⟨x.toArray⟩):=(hSw.keep (show bS < wr.heap.size by omega) (by omega) (by omega)).trans qS;go_simp;(try with_reducible rfl)
    (try simp only [Act.put,pu1,pu2,pu3])
    refine wpPlan_call (by kernel_rfl) (fun K hK=>?_)
    have hOld:=hide hHeld
    clear hHeld
    have q0:wd.cell? ⟨wB.heap.size,0,none⟩=some (.int .i64 S.2.1.1):=R7D.out.cell 0
    have q1:wd.cell? ⟨wB.heap.size,1,none⟩=some (.slice A5 S.2.1.2.length c5):=R7D.out.cell 1
    unfold Oper.wp execOp
    go_simp
    refine hK.out _ _ (hOld.out) (fun hHeld=>?_)
    clear hK K
    clear q0 q1 hOld
    (try simp only [Act.put,pu1,pu2,pu3])
    refine wpPlan_call (by kernel_rfl) (fun K hK=>?_)
    have hOld:=hide hHeld
    clear hHeld
    go_simp
    go_at_call 78
    refine (RVStep_e (u:=S.2.1.1) (cV:=c5) (BV:=wd.heap.size) HG.out wd HUD.out HLD.out (by omega) HF.out HFU.out HVD.out (Nat.le_refl _) hSn).mono ?_
    rintro e w' ⟨A9,c9,rfl,h9,hbel⟩
    have H9:=hide (fr_low h9 (lo':=wr.heap.size) (by omega))
    clear h9
    refine hK.out _ _ (hOld.out.on hbel (by omega)) (fun hHeld=>?_)
    clear hK K
    (try dsimp only)
    iterate 5
     refine wpPlan_take (v:=?_) (by kernel_rfl) (fun wS hSw=>?_) ?_
     rotate_left
     ·(try dsimp only at hSw);go_simp;(try with_reducible rfl)
     (try simp only [Act.put,pu1,pu2,pu3])
    refine wpPlan_call (by kernel_rfl) (fun K hK=>?_)
    have hOld:=hide hHeld
    clear hHeld
    obtain ⟨pk,⟨cu5,p5,l5⟩,p6,pb⟩:=hOld.out
    refine wp_storeC 47 (.tmp 7) (.tmp 45) rfl 2 viw_size (wB.heap.size) 0 47 rfl cu5 (viwC G.2.1.1 (.slice A9 G.2.1.2.length c9)) rfl p5 rfl (by omega) (viwC_one _ _ _ _) ?_
    intro w' hr' hg' hs'
    rw [splice_all _ _ (by rw [l5];rfl)] at hr'
    refine hK.out _ _ (hOld.out.st5 hg' hr' rfl (by omega) (by omega) (by omega)) (fun hHeld=>?_)
    clear hK K
    have hsO:=hOld.out.2.2.2.size
    replace H9:=hide (fr_grown H9.out hg' (by omega))
    have HR5:=hide hr'
    clear hr' hg' hs' pk p5 p6 pb hsO
    (try simp only [Act.put])
    refine wpPlan_call (by kernel_rfl) (fun K hK=>?_)
    have hOld:=hide hHeld
    clear hHeld
    obtain ⟨pk,p5,⟨cu6,p6,l6⟩,pb⟩:=hOld.out
    refine wp_storeC 49 (.tmp 9) (.tmp 46) rfl 2 plc_size (wS3.heap.size) 0 49 rfl cu6 (prC G.2.2) rfl p6 rfl (by omega) (prC_one _) ?_
    intro w' hr' hg' hs'
    rw [splice_all _ _ (by rw [l6];rfl)] at hr'
    refine hK.out _ _ (hOld.out.st6 hg' hr' rfl (by omega) (by omega) (by omega)) (fun hHeld=>?_)
    clear hK K
    have hsO:=hOld.out.2.2.2.size
    replace H9:=hide (fr_grown H9.out hg' (by omega))
    have HR6:=hide hr'
    replace HR5:=hide (HR5.out.grown hg' (pu5 (by omega)))
    clear hr' hg' hs' pk p5 p6 pb hsO
    (try simp only [Act.put])
    refine wpPlan_end ?_
    have HSF:=hide hHeld
    clear hHeld
    go_wp2_with fail
    go_roundw
    case rel=>exact ⟨j+1,by omega,by go_num,by rw [HTK.out],⟨A9,c9,by rw [HTK.out];exact HR5.out,by rw [HTK.out];exact HR6.out,by rw [HTK.out];exact fr_cut2 H9.out (by omega) (by omega) (by omega)⟩,HBR.out.trans HSF.out.2.2.2⟩
    case measure=>simp [intOf];omega
   ·have hk1:(S.1 != 1)=true:=by simpa using hk
    have hRn:R=noStep:=by rw [←HR.out];exact at_no (j:=j) (by omega) (by rw [HSS.out];exact hk)
    subst hRn
    clear hk
    go_wp2_with (first|(refine wpList_storeW rfl 47 (.tmp 5) (.tmp 34) rfl 2 viw_size (w.heap.size+1) 47 rfl (viwC 0 (.slice none 0 0)) (viwC 0 (.slice none 0 0)) rfl R5.out rfl rfl (viwC_one _ _ _ _) ?_;intro wS41 hr41 hg41 hs41;replace HB:=hide (HB.out.grown hg41 (by omega) (pu4 (by omega)));replace R2:=hide (R2.out.grown hg41 (pu5 (by omega)));replace R6:=hide (R6.out.grown hg41 (pu5 (by omega)));replace HU:=hide (und_grown HU.out hg41 (by omega) (by omega));replace HL:=hide (und_grown HL.out hg41 (by omega) (by omega));replace HN:=hide (rd_grown HN.out hg41 (by omega) (by omega));replace R7:=hide (R7.out.grown hg41 (pu5 (by omega)));replace R9:=hide (R9.out.grown hg41 (pu5 (by omega)));have hsz42:=hg41.size;replace R5:=hide hr41;clear hr41 hg41 hs41)|(refine wpList_storeW rfl 49 (.tmp 6) (.tmp 35) rfl 2 plc_size (w.heap.size+1+1) 49 rfl (prC (0,0)) (prC (0,0)) rfl R6.out rfl rfl (prC_one _) ?_;intro wS43 hr43 hg43 hs43;replace HB:=hide (HB.out.grown hg43 (by omega) (pu4 (by omega)));replace R2:=hide (R2.out.grown hg43 (pu5 (by omega)));replace R5:=hide (R5.out.grown hg43 (pu5 (by omega)));replace HU:=hide (und_grown HU.out hg43 (by omega) (by omega));replace HL:=hide (und_grown HL.out hg43 (by omega) (by omega));replace HN:=hide (rd_grown HN.out hg43 (by omega) (by omega));replace R7:=hide (R7.out.grown hg43 (pu5 (by omega)));replace R9:=hide (R9.out.grown hg43 (pu5 (by omega)));have hsz44:=hg43.size;replace R6:=hide hr43;clear hr43 hg43 hs43))
    exact bodyPost_ret (res_tcc Tryz.results22 rfl rfl rfl viw_agg viw_size plc_agg plc_size R5.out rfl R6.out rfl) rfl ⟨none,0,rfl,RdE.none_ _ _ _ _,HB.out⟩
  ·obtain rfl:j=nN:=by omega
   have hj2:¬(j:Int) < (j:Int):=by omega
   have hSR:S=R:=by rw [←HSS.out,List.take_of_length_le (by omega)];exact HR.out
   subst hSR
   go_wp2_with fail
   refine wp_region_planN (fun w'=>TwoS wr w.heap.size (w.heap.size+1) 47 2 (w.heap.size+1+1) 49 2 w') [(0,true),(1,true),(2,true),(3,true),(4,false),(5,false)] (by kernel_rfl) (by kernel_rfl) (by kernel_rfl) (by kernel_rfl) rfl (fun _ _ _ _ _ h=>h) (TwoS.start (base:=w.heap.size) R5.out rfl R6.out rfl) (fun hHeld=>?_)
   simp only [planOps,List.filterMap_cons,List.filterMap_nil,List.getElem?_toArray,List.getElem?_cons_succ,List.getElem?_cons_zero,Option.map_some]
   refine wpPlan_take (v:=?_) (by kernel_rfl) (fun wS hSw=>?_) ?_
   rotate_left
   ·(try dsimp only at hSw);go_simp;(try with_reducible rfl)
   (try simp only [Act.put,pu1,pu2,pu3])
   refine wpPlan_take (v:=?_) (by kernel_rfl) (fun wS hSw=>?_) ?_
   rotate_left
   ·refine execOp_load (x:=.tmp 7) (k:=2) (g:=wB.heap.size) (off:=0) (cs:=(viwC S.2.1.1 (.slice A5 S.2.1.2.length c5))) ?_ viw_agg viw_size ?_ (fun j v hv=>by rw [Nat.zero_add];exact ((hSw.row R7.out (by omega) (by omega)).cell j).trans hv) rfl <;> rfl
   (try simp only [Act.put,pu1,pu2,pu3])
   refine wpPlan_take (v:=?_) (by kernel_rfl) (fun wS hSw=>?_) ?_
   rotate_left
   ·refine execOp_load (x:=.tmp 9) (k:=2) (g:=wS3.heap.size) (off:=0) (cs:=(prC S.2.2)) ?_ plc_agg plc_size ?_ (fun j v hv=>by rw [Nat.zero_add];exact ((hSw.row R9.out (by omega) (by omega)).cell j).trans hv) rfl <;> rfl
   (try simp only [Act.put,pu1,pu2,pu3])
   refine wpPlan_take (v:=?_) (by kernel_rfl) (fun wS hSw=>?_) ?_
   rotate_left
   ·(try dsimp only at hSw);go_simp;(try with_reducible rfl)
   (try simp only [Act.put,pu1,pu2,pu3])
   refine wpPlan_call (by kernel_rfl) (fun K hK=>?_)
   have hOld:=hide hHeld
   clear hHeld
   obtain ⟨pk,⟨cu5,p5,l5⟩,p6,pb⟩:=hOld.out
   refine wp_storeC 47 (.tmp 5) (.tmp 48) rfl 2 viw_size (w.heap.size+1) 0 47 rfl cu5 (viwC S.2.1.1 (.slice A5 S.2.1.2.length c5)) rfl p5 rfl (by omega) (viwC_one _ _ _ _) ?_
   intro w' hr' hg' hs'
   rw [splice_all _ _ (by rw [l5];rfl)] at hr'
   refine hK.out _ _ (hOld.out.st5 hg' hr' rfl (by omega) (by omega) (by omega)) (fun hHeld=>?_)
   clear hK K
   have hsO:=hOld.out.2.2.2.size
   have HR5:=hide hr'
   clear hr' hg' hs' pk p5 p6 pb hsO
   (try simp only [Act.put])
   refine wpPlan_call (by kernel_rfl) (fun K hK=>?_)
   have hOld:=hide hHeld
   clear hHeld
   obtain ⟨pk,p5,⟨cu6,p6,l6⟩,pb⟩:=hOld.out
   refine wp_storeC 49 (.tmp 6) (.tmp 49) rfl 2 plc_size (w.heap.size+1+1) 0 49 rfl cu6 (prC S.2.2) rfl p6 rfl (by omega) (prC_one _) ?_
   intro w' hr' hg' hs'
   rw [splice_all _ _ (by rw [l6];rfl)] at hr'
   refine hK.out _ _ (hOld.out.st6 hg' hr' rfl (by omega) (by omega) (by omega)) (fun hHeld=>?_)
   clear hK K
   have hsO:=hOld.out.2.2.2.size
   have HR6:=hide hr'
   replace HR5:=hide (HR5.out.grown hg' (pu5 (by omega)))
   clear hr' hg' hs' pk p5 p6 pb hsO
   (try simp only [Act.put])
   refine wpPlan_end ?_
   have HSF:=hide hHeld
   clear hHeld
   go_wp2_with fail
   exact bodyPost_ret (res_tcc Tryz.results22 rfl rfl rfl viw_agg viw_size plc_agg plc_size HR5.out rfl HR6.out rfl) rfl ⟨A5,c5,rfl,fr_low (HSF.out.fr (cut2_fr H5.out) (by omega) (by omega)) (by omega),HB.out.trans HSF.out.2.2.2⟩
end Go.Proofs.YthdoimgbbabcaaaGreat

