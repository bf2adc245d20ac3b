import Derived.Test.YtmhiohnkjpglfaaGreatWs16
import Derived.Test.YtmhiohnkjpglfaaGreatWs27
import Derived.Test.YtmhiohnkjpglfaaGreatWs23
import Derived.Test.YtmhiohnkjpglfaaGreatWs21
import Derived.Test.YtmhiohnkjpglfaaGreatWs22
import Derived.Test.YtmhiohnkjpglfaaGreatWs20
import Derived.Test.YtmhiohnkjpglfaaGreatWs24
import Derived.Test.YtmhiohnkjpglfaaGreatWs25
import Derived.Test.YtmhiohnkjpglfaaGreatWs12
import Derived.Test.YtmhiohnkjpglfaaGreatWs18
import Derived.Test.YtmhiohnkjpglfaaGreatWs11
import Derived.BigRegion

namespace Go.Proofs.YtmhiohnkjpglfaaGreat
open Go.RowKit Go.Shelf Plain

theorem hcell {w w':World} {b o:Nat} {cs:List Value} (h:∀k x,cs[k]?=some x→w.cell? ⟨b,o+k,none⟩=some x) {B:Nat} (hb:Below B w w') (hlt:b < B):∀k x,cs[k]?=some x→w'.cell? ⟨b,o+k,none⟩=some x:=fun k x hx=>(hb.cell (p:=⟨b,o+k,none⟩) hlt).trans (h k x hx)
theorem view_get {w:World} {D:Nat→Prop} {A:Option Addr} {n j:Nat} {l:List ViewV} {v:ViewV} (h:RdE viewEn w D A n l) (hv:l[j]?=some v):∃b o A2 c2,A=some ⟨b,o,none⟩∧D b∧(∀k x,(viwC v.1 (.slice A2 v.2.length c2))[k]?=some x→w.cell? ⟨b,o+j*2+k,none⟩=some x)∧RdE prEn w D A2 v.2.length v.2:=by
 have hj:j < l.length:=(List.getElem?_eq_some_iff.1 hv).1
 obtain ⟨b,o,e,hD,hc⟩:=h.2 (by have:=h.1;omega)
 obtain ⟨cs,⟨A2,c2,rfl,hr⟩,hcs⟩:=hc j v hv
 exact ⟨b,o,A2,c2,e,hD,fun k x hx=>by have h1:=hcs k x hx;rw [show viewEn.k=2 from rfl,←Nat.add_assoc] at h1;exact h1,hr⟩
end Go.Proofs.YtmhiohnkjpglfaaGreat

namespace Go.Proofs.YtmhiohnkjpglfaaGreat
open Go.RowKit Go.Shelf Plain

def TreeF (w:World) (ws:List WayV) (vs:List ViewV) (e:Ending) (w':World):Prop:=∃A c A' c',e=.returned (.tuple #[.slice A ws.length c,.slice A' vs.length c'])∧RdE wayEn w' (fun b=>w.heap.size≤b∧b < w'.heap.size) A ws.length ws∧RdE viewEn w' (Under w'.heap.size) A' vs.length vs∧Below w.heap.size w w'
theorem OwE.get_view {w:World} {base e n c:Nat} {A:Option Addr} {l:List ViewV} {j:Nat} {v:ViewV} (h:OwE viewEn w base e A n c l) (hv:l[j]?=some v):∃g A2 c2,A=some ⟨g,0,none⟩∧base≤g∧g < w.heap.size∧(∀k x,(viwC v.1 (.slice A2 v.2.length c2))[k]?=some x→w.cell? ⟨g,j*2+k,none⟩=some x)∧RdE prEn w (fun b=>b < w.heap.size∧b≠g) A2 v.2.length v.2:=by
 obtain ⟨css,hrow,hC,hl⟩:=h
 have hjl:=(List.getElem?_eq_some_iff.1 hv).1
 have hj:j < css.length:=by rw [hC.1];exact hjl
 obtain ⟨cs,hcs⟩:∃cs,css[j]?=some cs:=⟨_,List.getElem?_eq_getElem hj⟩
 obtain ⟨A2,c2,rfl,hr⟩:=hC.2 j cs v hcs hv
 rcases hrow.2 with ⟨h0,h1⟩|⟨g,cap,cur,h0,hbg,hg,-⟩
 ·cases h0
  omega
 ·cases h0
  refine ⟨g,A2,c2,rfl,hbg,(Array.getElem?_eq_some_iff.1 hg).1,fun k x hx=>?_,hr.mono (fun _ _=>rfl) (fun b hb=>⟨hb.1.1,hb.2 _ rfl⟩)⟩
  have hk:k < 2:=(List.getElem?_eq_some_iff.1 hx).1
  have h3:=hrow.cells (g:=g) rfl (j*2+k) x ((flat_get hC.lens hcs hk).trans hx)
  rw [add_flat] at h3
  exact h3
set_option maxRecDepth 100000 in
set_option maxHeartbeats 4000000 in
theorem VTree_any {g:GeoQ} {AU AL:Option Addr} {nU cU nL cL B:Nat} {up:List NodV} {ls:List (List NodV)} {ws:List WayV} (hw:(walkW up [1]).1=ws) (w:World) (hu:RdE nodEn w (Under B) AU nU up) (h:RdE layEn w (Under B) AL nL ls) (hB:B≤w.heap.size) (hF:FewL ls) (hup:FewU up):Calls Tryz.prog 80 #[.agg (stkC g (.slice AU nU cU) (.slice AL nL cL)).toArray] w (TreeF w ws (treeV up ls ws)):=by
 obtain ⟨W1,hW1⟩:∃W1,(w.alloc (.cells (stkC g (.slice AU nU cU) (.slice AL nL cL)).toArray 29))=W1:=⟨_,rfl⟩
 obtain ⟨r0,hb1,hs1⟩:=rowA1 w _ _ hW1
 have hW1':(w.alloc (.cells #[.int .i64 g.a,.int .i64 g.b,.int .i64 g.c,.int .i64 g.d,.slice AU nU cU,.slice AL nL cL] 29))=W1:=hW1
 have R1:=hide r0
 have HB:=hide hb1
 have hsz0:=hb1.size
 have HU:=hide (hu.under hb1 hB)
 have HL:=hide (h.under hb1 hB)
 have HF:=hide hF
 have HFU:=hide hup
 have HW:=hide hw
 obtain ⟨V,hV⟩:∃V,rootV up ls=V:=⟨_,rfl⟩
 have HV:=hide hV
 have HINT:=hide (show RdE Enc.int (W1.alloc (.cells #[.int .i64 1] 3)) (Under (W1.alloc (.cells #[.int .i64 1] 3)).heap.size) (some ⟨w.heap.size+1,0,none⟩) 1 [1] from by rw [←hs1];exact int_one W1)
 have HUP:=hide (show UpV ws from by rw [←hw];exact walk_upv up)
 have hwl:ws.length≤24:=by have h1:=(walk_ok up [1]).le;rw [hw] at h1;have:=hup.1;omega
 have hll:ls.length≤100:=by have:=hF.1;omega
 have q1_4:W1.cell? ⟨w.heap.size,4,none⟩=some (.slice AU nU cU):=R1.out.cell 4
 unfold stkC
 clear r0 hb1 hW1 hu h hF hup hw hV
 go_enter Tryz.func80,Tryz.ntmps80
 go_wp2_with (first|(go_at_call 126;refine (Dirs_any _ (und_up (HU.out.under (below_new (below_self W1) _) (by omega)) (by simp;omega)) HINT.out (plain_many HFU.out.1 HFU.out.2).1 (by omega)).mono ?_;rintro e1 wD ⟨A4,n4,c4,rfl,hc4,h4,hbel0⟩;have hbel:Below W1.heap.size W1 wD:=(below_new (below_self W1) (.cells #[.int .i64 1] 3)).trans (hbel0.mono (by simp));rw [HW.out] at h4;replace h4:=fr_low h4 (lo':=W1.heap.size) (by simp);clear q1_4;replace HB:=hide (HB.out.trans (hbel.mono HB.out.size));replace R1:=hide (R1.out.on hbel);replace HU:=hide (HU.out.under hbel (by omega));replace HL:=hide (HL.out.under hbel (by omega));have hsz1:=hbel.size;have q1_4:wD.cell? ⟨w.heap.size,4,none⟩=some (.slice AU nU cU):=R1.out.cell 4;have H4:=hide h4;clear h4 hbel hbel0))
 have hn4:ws.length=n4:=H4.out.1
 have hWD:W1.heap.size≤wD.heap.size:=by omega
 clear hW1' q1_4
 go_loopw [5,14] (fun v5 v14 wr=>∃j:Nat,j≤n4∧v14=.int .i64 j∧(∃A c,v5=.slice A j c∧(j=0→A=none∧c=0)∧OwE viewEn wr wD.heap.size 51 A j c (treeV up ls (ws.take j)))∧Below wD.heap.size wD wr) (fun _ v14 _=>n4 - (intOf v14).toNat)
 case atStart=>exact ⟨0,by omega,rfl,⟨none,0,rfl,fun _=>⟨rfl,rfl⟩,OwE.nil_ _ _ _ _⟩,below_self _⟩
 case round =>
  obtain ⟨j,hj,rfl,⟨A5,c5,rfl,h0,ho⟩,hbr⟩:=hrel
  have hbsz:=hbr.size
  replace HB:=hide (HB.out.trans (hbr.mono HB.out.size))
  replace R1:=hide (R1.out.on hbr)
  replace HU:=hide (HU.out.under hbr (by omega))
  replace HL:=hide (HL.out.under hbr (by omega))
  replace H4:=hide (fr_on H4.out hbr)
  have hsz2:=hbr.size
  have HBR:=hide hbr
  have HO:=hide ho
  clear hbr ho
  by_cases hlt:j < n4
  ·have hjn:(j:Int) < (n4:Int):=by omega
   obtain ⟨y,hy⟩:∃y,ws[j]?=some y:=⟨_,List.getElem?_eq_getElem (by omega)⟩
   obtain ⟨bW,oW,rfl,hbW,hcW⟩:=way_get H4.out hy
   have HCW:=hide hcW
   obtain ⟨hu0,hu1⟩:=HUP.out j y hy
   have HTS:=hide (tree_succ up ls hy)
   clear hcW hy
   by_cases hj0:j=0
   ·subst hj0
    obtain ⟨rfl,rfl⟩:=h0 rfl
    have hyu:=(hu0 rfl).1
    clear h0 hu0 hu1 HO
    go_wp2_with (first|(refine wpList_loadX rfl 149 (.tmp 17) rfl 3 way_agg way_size bW (oW+0*3) rfl (wayC y) HCW.out rfl ?_)|(refine wpList_storeW rfl 149 (.tmp 7) (.tmp 18) rfl 3 way_size (wr.heap.size) 149 rfl [.int .i64 0,.int .i64 0,.string ⟨#[]⟩] (wayC y) rfl (RowL.new wr 149 [.int .i64 0,.int .i64 0,.string ⟨#[]⟩]) rfl rfl (wayC_one _) ?_;intro wS61 hr61 hg61 hs61;have hzb:=below_stored' hg61;have HBx:=hide hzb;replace HB:=hide (HB.out.trans (hzb.mono HB.out.size));replace R1:=hide (R1.out.on hzb);replace HU:=hide (HU.out.under hzb (by omega));replace HL:=hide (HL.out.under hzb (by omega));replace H4:=hide (fr_on H4.out hzb);have hsz62:=hzb.size;have RW:=hide hr61;have hlt61:=hr61.lt;have q7_1:wS61.cell? ⟨wr.heap.size,1,none⟩=some (.int .i64 y.up):=RW.out.cell 1;have q7_0:wS61.cell? ⟨wr.heap.size,0,none⟩=some (.int .i64 y.ino):=RW.out.cell 0;have q7_2:wS61.cell? ⟨wr.heap.size,2,none⟩=some (.string ⟨y.name.toArray⟩):=RW.out.cell 2;clear hzb hr61;clear hg61 hs61)|(refine wpList_loadW rfl 29 (.tmp 1) rfl 6 stk_agg stk_size (w.heap.size) 29 rfl (stkC g (.slice AU nU cU) (.slice AL nL cL)) R1.out rfl ?_)|(go_at_call 76;refine (VRoot_e HV.out wS61 HU.out HL.out (by omega) HF.out HFU.out).mono ?_;rintro e63 wR ⟨A6,c6,rfl,h6,hbel⟩;have HBX:=hide (HBx.out.trans (hbel.mono HBx.out.size));clear q7_1 q7_0 q7_2;replace HB:=hide (HB.out.trans (hbel.mono HB.out.size));replace R1:=hide (R1.out.on hbel);replace HU:=hide (HU.out.under hbel (by omega));replace HL:=hide (HL.out.under hbel (by omega));replace H4:=hide (fr_on H4.out hbel);replace RW:=hide (RW.out.on hbel);have hsz64:=hbel.size;have q7_1:wR.cell? ⟨wr.heap.size,1,none⟩=some (.int .i64 y.up):=RW.out.cell 1;have q7_0:wR.cell? ⟨wr.heap.size,0,none⟩=some (.int .i64 y.ino):=RW.out.cell 0;have q7_2:wR.cell? ⟨wr.heap.size,2,none⟩=some (.string ⟨y.name.toArray⟩):=RW.out.cell 2;have H6:=hide h6;clear h6;simp only [viwC];have hlit:(Instr.buildSlice 134 1 #[(0,.agg #[.int .i64 V.1,.slice A6 V.2.length c6])]).run Tryz.prog wR=.ok (.slice (some ⟨wR.heap.size,0,none⟩) 1 1) (wR.alloc (.cells #[.int .i64 V.1,.slice A6 V.2.length c6] 51)):=lit_viw V.1 A6 V.2.length c6 wR;clear hbel)|(at_builtin;refine wpList_append_OwE (E:=viewEn) _ rfl (.tmp 21) (.tmp 24) 134 rfl wD.heap.size 51 zviw 32 Tryz.underlying134 viw_info rfl (by decide) none 0 0 [] rfl (OwE.nil_ _ _ _ _) (fun b=>wS61.heap.size≤b∧b < (wR.alloc (.cells (viwC V.1 (.slice A6 V.2.length c6)).toArray 51)).heap.size) (some ⟨wR.heap.size,0,none⟩) 1 1 [V] rfl (viw_lit1 wR V H6.out (by omega)) (fun b hb=>⟨⟨hb.2,fun _ _ _ _=>rfl⟩,fun a ha=>by cases ha⟩) 1 rfl (by omega) (by omega) (by simp;omega) ?_;intro A7 c7 w7 ho7 hb7;have HB7:=hide (HBR.out.trans (((HBX.out.mono (by omega)).alloc (by omega) _).trans hb7));have HO7:=hide ho7;clear ho7 hb7))
    go_roundw
    case rel =>
     refine ⟨1,by omega,rfl,⟨_,_,rfl,fun h=>by omega,?_⟩,HB7.out⟩
     have h1:=HO7.out
     rw [HTS.out]
     rw [show wayView up ls (treeV up ls (ws.take 0)) y=V from by unfold wayView;rw [hyu,if_pos (by decide)];exact HV.out]
     exact h1
    case measure=>simp [intOf];omega
   ·obtain ⟨p,hyp,hpj⟩:=hu1 (by omega)
    have hpl:p < (treeV up ls (ws.take j)).length:=by rw [tree_take,List.length_take];omega
    obtain ⟨v,hv⟩:∃v,(treeV up ls (ws.take j))[p]?=some v:=⟨_,List.getElem?_eq_getElem hpl⟩
    obtain ⟨P,hP⟩:∃P,partV up ls v.2 y.ino y.name=P:=⟨_,rfl⟩
    have HP:=hide hP
    have hvf:v.2.length≤ls.length:=tree_few up ls _ v (List.mem_of_getElem? hv)
    have HWV:=hide (show wayView up ls (treeV up ls (ws.take j)) y=(y.ino,P) from by unfold wayView;rw [hyp,if_neg (by omega),Int.toNat_natCast,hv];show (y.ino,partV up ls v.2 y.ino y.name)=_;rw [hP])
    have HVV:=hide hv
    have hj0':((j:Int)==0)=false:=by simpa using (by omega:¬(j:Int)=0)
    obtain ⟨gO,rfl,-,hgr,-⟩:=HO.out.at_ (by omega)
    clear h0 hu0 hu1 hP hv hpl
    go_wp2_with (first|(refine wpList_loadX rfl 149 (.tmp 17) rfl 3 way_agg way_size bW (oW+j*3) rfl (wayC y) HCW.out rfl ?_)|(refine wpList_storeW rfl 149 (.tmp 7) (.tmp 18) rfl 3 way_size (wr.heap.size) 149 rfl [.int .i64 0,.int .i64 0,.string ⟨#[]⟩] (wayC y) rfl (RowL.new wr 149 [.int .i64 0,.int .i64 0,.string ⟨#[]⟩]) rfl rfl (wayC_one _) ?_;intro wS61 hr61 hg61 hs61;have hzb:=below_stored' hg61;have HBx:=hide hzb;replace HB:=hide (HB.out.trans (hzb.mono HB.out.size));replace R1:=hide (R1.out.on hzb);replace HU:=hide (HU.out.under hzb (by omega));replace HL:=hide (HL.out.under hzb (by omega));replace H4:=hide (fr_on H4.out hzb);replace HO:=hide (HO.out.below hzb);have hsz62:=hzb.size;have RW:=hide hr61;have hlt61:=hr61.lt;have q7_1:wS61.cell? ⟨wr.heap.size,1,none⟩=some (.int .i64 y.up):=RW.out.cell 1;have q7_0:wS61.cell? ⟨wr.heap.size,0,none⟩=some (.int .i64 y.ino):=RW.out.cell 0;have q7_2:wS61.cell? ⟨wr.heap.size,2,none⟩=some (.string ⟨y.name.toArray⟩):=RW.out.cell 2;clear hzb hr61;clear hg61 hs61))
    obtain ⟨g',A2,c2,hge,hgb,hgl,hcv,hrv⟩:=OwE.get_view HO.out HVV.out
    cases hge
    have HVC:=hide hcv
    have hpj':(p:Int) < (j:Int):=by omega
    have hp0:(0:Int)≤(p:Int):=by omega
    have hyu:y.up=(p:Int):=hyp
    clear hcv q7_1 q7_0 q7_2
    refine wp_region_planN (fun w'=>KeepS wS61 wD.heap.size gO (p*2) (viwC v.1 (.slice A2 v.2.length c2)) w') [(0,true),(1,true),(2,true),(3,true),(4,true),(5,true),(6,true),(7,true),(8,true),(9,true),(10,true),(11,true),(12,false),(13,false),(14,false),(15,true)] (by kernel_rfl) (by kernel_rfl) (by kernel_rfl) (by kernel_rfl) rfl (fun _ _ _ _ _ h=>h) (KeepS.start HVC.out) (fun hHeld=>?_)
    have hwds:wS61.drew.heap.size=wS61.heap.size:=rfl
    replace HO:=hide (show OwE viewEn wS61.drew wD.heap.size 51 (some ⟨gO,0,none⟩) j c5 (treeV up ls (ws.take j)) from HO.out)
    replace HU:=hide (show RdE nodEn wS61.drew (Under B) AU nU up from HU.out)
    replace HL:=hide (show RdE layEn wS61.drew (Under B) AL nL ls from HL.out)
    have HVL:=hide (show RdE prEn wS61.drew (Under wS61.drew.heap.size) A2 v.2.length v.2 from hrv.mono (fun _ _=>rfl) (fun b hb=>hb.1))
    clear hrv
    generalize wS61.drew=wd at *
    simp only [planOps,List.filterMap_cons,List.filterMap_nil,List.getElem?_toArray,List.getElem?_cons_succ,List.getElem?_cons_zero,Option.map_some]
    refine wpPlan_take (v:=?_) (by kernel_rfl) (fun wS hSw=>?_) ?_
    rotate_left
    ·(try dsimp only at hSw);go_simp;(try with_reducible rfl)
    (try simp only [Act.put,pu1,pu2,pu3])
    refine wpPlan_take (v:=?_) (by kernel_rfl) (fun wS hSw=>?_) ?_
    rotate_left
    ·refine execOp_load (x:=.tmp 1) (k:=6) (g:=w.heap.size) (off:=0) (cs:=[.int .i64 g.a,.int .i64 g.b,.int .i64 g.c,.int .i64 g.d,.slice AU nU cU,.slice AL nL cL]) ?_ stk_agg stk_size ?_ (fun j v hv=>by rw [Nat.zero_add];exact ((hSw.row R1.out (by omega)).cell j).trans hv) rfl <;> rfl
    (try simp only [Act.put,pu1,pu2,pu3])
    iterate 2
     refine wpPlan_take (v:=?_) (by kernel_rfl) (fun wS hSw=>?_) ?_
     rotate_left
     ·(try dsimp only at hSw);go_simp;(try with_reducible rfl)
     (try simp only [Act.put,pu1,pu2,pu3])
    refine wpPlan_take (v:=?_) (by kernel_rfl) (fun wS hSw=>?_) ?_
    rotate_left
    ·have qx:=((hSw.row RW.out (by omega)).cell 1).trans (show (wayC y)[1]?=some (.int .i64 y.up) from rfl);go_simp;(try with_reducible rfl)
    (try simp only [Act.put,pu1,pu2,pu3])
    refine wpPlan_take (v:=?_) (by kernel_rfl) (fun wS hSw=>?_) ?_
    rotate_left
    ·(try dsimp only at hSw);go_simp;(try with_reducible rfl)
    (try simp only [Act.put,pu1,pu2,pu3])
    refine wpPlan_take (v:=?_) (by kernel_rfl) (fun wS hSw=>?_) ?_
    rotate_left
    ·refine execOp_load (x:=.tmp 31) (k:=2) (g:=gO) (off:=p*2) (cs:=[.int .i64 v.1,.slice A2 v.2.length c2]) ?_ viw_agg viw_size ?_ (fun j v hv=>hSw.2.2 j v hv) rfl <;> rfl
    (try simp only [Act.put,pu1,pu2,pu3])
    iterate 2
     refine wpPlan_take (v:=?_) (by kernel_rfl) (fun wS hSw=>?_) ?_
     rotate_left
     ·(try dsimp only at hSw);go_simp;(try with_reducible rfl)
     (try simp only [Act.put,pu1,pu2,pu3])
    refine wpPlan_take (v:=?_) (by kernel_rfl) (fun wS hSw=>?_) ?_
    rotate_left
    ·have qx:=((hSw.row RW.out (by omega)).cell 0).trans (show (wayC y)[0]?=some (.int .i64 y.ino) from rfl);go_simp;(try with_reducible rfl)
    (try simp only [Act.put,pu1,pu2,pu3])
    refine wpPlan_take (v:=?_) (by kernel_rfl) (fun wS hSw=>?_) ?_
    rotate_left
    ·(try dsimp only at hSw);go_simp;(try with_reducible rfl)
    (try simp only [Act.put,pu1,pu2,pu3])
    refine wpPlan_take (v:=?_) (by kernel_rfl) (fun wS hSw=>?_) ?_
    rotate_left
    ·have qx:=((hSw.row RW.out (by omega)).cell 2).trans (show (wayC y)[2]?=some (.string ⟨y.name.toArray⟩) from rfl);go_simp;(try with_reducible rfl)
    (try simp only [Act.put,pu1,pu2,pu3])
    refine wpPlan_call (by kernel_rfl) (fun K hK=>?_)
    have hOld:=hide hHeld
    clear hHeld
    go_simp
    go_at_call 127
    refine (VAbove_any (u:=v.1) (cV:=c2) (BV:=wd.heap.size) HP.out _ HU.out HL.out (by omega) HF.out HFU.out HVL.out (Nat.le_refl _) (by omega)).mono ?_
    rintro e w' ⟨A6,c6,rfl,h6,hbel⟩
    have H6:=hide h6
    have HO2:=hide (HO.out.below hbel)
    have hszc:=hbel.size
    clear h6
    refine hK.out _ _ (hOld.out.on hbel (by omega) (by omega)) (fun hHeld=>?_)
    clear hK K
    (try dsimp only)
    refine wpPlan_call (by kernel_rfl) (fun K hK=>?_)
    have hOld:=hide hHeld
    clear hHeld
    unfold Oper.wp execOp
    have hlit:(Instr.buildSlice 134 1 #[(0,.agg #[.int .i64 y.ino,.slice A6 P.length c6])]).run Tryz.prog w'=.ok (.slice (some ⟨w'.heap.size,0,none⟩) 1 1) (w'.alloc (.cells #[.int .i64 y.ino,.slice A6 P.length c6] 51)):=lit_viw y.ino A6 P.length c6 w'
    simp only [viwC]
    go_simp
    have hal:=below_new (below_self w') (.cells #[.int .i64 y.ino,.slice A6 P.length c6] 51)
    refine hK.out _ _ (hOld.out.on hal (by omega) (by omega)) (fun hHeld=>?_)
    clear hK K
    have HO3:=hide (HO2.out.alloc (.cells #[.int .i64 y.ino,.slice A6 P.length c6] 51))
    clear hlit hal HO2 hOld
    (try simp only [Act.put,pu1,pu2,pu3])
    refine wpPlan_call (by kernel_rfl) (fun K hK=>?_)
    have hOld:=hide hHeld
    clear hHeld
    refine wp_append_OwK (E:=viewEn) _ (.tmp 26) (.tmp 39) 134 rfl wD.heap.size 51 zviw 32 Tryz.underlying134 viw_info rfl (by decide) (some ⟨gO,0,none⟩) j c5 (treeV up ls (ws.take j)) rfl HO3.out (fun b=>wd.heap.size≤b∧b < (w'.alloc (.cells (viwC y.ino (.slice A6 P.length c6)).toArray 51)).heap.size) (some ⟨w'.heap.size,0,none⟩) 1 1 [(y.ino,P)] rfl (viw_lit1 w' (y.ino,P) H6.out (by omega)) (fun b hb=>⟨⟨hb.2,fun _ _ _ _=>rfl⟩,fun a ha=>by cases ha;exact (fun e=>by have h1:=hb.1;rw [e] at h1;exact absurd h1 (by show ¬wd.heap.size≤gO;omega))⟩) (by omega) (j+1) rfl (by omega) (by omega) (by simp;omega) ?_
    intro A7 c7 w7 ho7 hb7 hk7 hg7
    refine hK.out _ _ (hOld.out.grow hb7 hg7 (m:=j*2) (by simp only [viwC,List.length_cons,List.length_nil];omega) (fun i u hi hu=>hk7 gO i u rfl hi hu)) (fun hHeld=>?_)
    clear hK K
    have HO7:=hide ho7
    clear ho7 hb7 hk7 hg7 hOld
    (try simp only [Act.put,pu1,pu2,pu3])
    refine wpPlan_take (v:=?_) (by kernel_rfl) (fun wS hSw=>?_) ?_
    rotate_left
    ·(try dsimp only at hSw);go_simp;(try with_reducible rfl)
    (try simp only [Act.put,pu1,pu2,pu3])
    refine wpPlan_end ?_
    go_wp2_with fail
    go_roundw
    case rel =>
     refine ⟨j+1,by omega,by go_num,⟨_,_,rfl,fun h=>by omega,?_⟩,(HBR.out.trans (HBx.out.mono (by omega))).trans hHeld.1⟩
     rw [HTS.out,HWV.out]
     exact HO7.out
    case measure=>simp [intOf];omega
  ·obtain rfl:j=n4:=by omega
   have hj2:¬(j:Int) < (j:Int):=by omega
   go_wp2_with fail
   go_ret2
   have ht:ws.take j=ws:=List.take_of_length_le (by omega)
   have h5:=(HO.out.rd rfl).plain
   rw [ht] at h5
   refine ⟨A4,c4,A5,c5,by rw [tree_len,hn4];rfl,by rw [hn4];exact fr_low H4.out (by omega),by rw [tree_len,hn4];exact h5,HB.out⟩
end Go.Proofs.YtmhiohnkjpglfaaGreat

namespace Go.Proofs.YtmhiohnkjpglfaaGreat
open Go.RowKit Go.Shelf Plain

theorem OwE.lt {α:Type} {E:Enc α} {w:World} {base e n c:Nat} {A:Option Addr} {l:List α} (h:OwE E w base e A n c l):∀a,A=some a→a.block < w.heap.size:=by
 obtain ⟨css,hrow,-,-⟩:=h
 intro a ha
 subst ha
 rcases hrow.2 with ⟨h0,-⟩|⟨g,cap,cur,h0,-,hg,-⟩
 ·cases h0
 ·cases h0
  exact (Array.getElem?_eq_some_iff.1 hg).1
theorem KeepS.cell {wX W:World} {B b o:Nat} {vc:List Value} (h:KeepS wX B b o vc W) {p:Addr} (hp:p.block < wX.heap.size) (hne:p.block≠b):W.cell? p=wX.cell? p:=World.cell?_of_block (w:=wX) (h.2.1 p.block hp hne)
end Go.Proofs.YtmhiohnkjpglfaaGreat

namespace Go.Proofs.YtmhiohnkjpglfaaGreat
open Go.RowKit Go.Shelf Plain

def ndZ:NodV:={ndD with ents:=[⟨1,4,[122]⟩]}
def ndW:NodV:={nod0 with k:=4,n:=1}
def upI:List NodV:=[ndZ,ndD,ndD,ndW,nod0]
def upC1 (E:Value):List Value:=nodC ndD (.slice none 0 0) E++(nodC ndD (.slice none 0 0) (.slice none 0 0)++(nodC ndD (.slice none 0 0) (.slice none 0 0)++(nodC nod0 (.slice none 0 0) (.slice none 0 0)++nodC nod0 (.slice none 0 0) (.slice none 0 0))))
def upC2 (E:Value):List Value:=nodC ndD (.slice none 0 0) E++(nodC ndD (.slice none 0 0) (.slice none 0 0)++(nodC ndD (.slice none 0 0) (.slice none 0 0)++(nodC ndW (.slice none 0 0) (.slice none 0 0)++nodC nod0 (.slice none 0 0) (.slice none 0 0))))
theorem up_one (E:Value):splice upC 0 (nodC ndD (.slice none 0 0) E)=upC1 E:=rfl
theorem up_two (E:Value):splice (upC1 E) 39 (nodC ndW (.slice none 0 0) (.slice none 0 0))=upC2 E:=rfl
set_option maxRecDepth 100000 in
set_option maxHeartbeats 1600000 in
theorem Idle_any (w:World):Calls Tryz.prog 53 #[] w (StkRet w gB upI lsB):=by
 obtain ⟨W1,hW1⟩:∃W1,(w.alloc (.cells (stkC ⟨0,0,0,0⟩ (.slice none 0 0) (.slice none 0 0)).toArray 29))=W1:=⟨_,rfl⟩
 obtain ⟨r0,hb1,hs1⟩:=rowA1 w _ _ hW1
 have hW1':(w.alloc (.cells #[.int .i64 0,.int .i64 0,.int .i64 0,.int .i64 0,.slice none 0 0,.slice none 0 0] 29))=W1:=hW1
 have R0:=hide r0
 have HB:=hide hb1
 have hsz0:=hb1.size
 clear r0 hb1 hW1
 go_enter Tryz.func53,Tryz.ntmps53
 go_wp2_with (first|(go_at_call 77;refine (Base_o W1).mono ?_;rintro e1 wB ⟨g0,AL,nL,cL,rfl,hrow,hlay,hg0,hbel⟩;have hg0l:=hrow.lt;replace HB:=hide (HB.out.trans (hbel.mono HB.out.size));replace R0:=hide (R0.out.on hbel);have hsz2:=hbel.size;have HG:=hide hrow;clear hrow;have HLY:=hide hlay;clear hlay;clear hbel)|(refine wpList_storeW rfl 29 (.tmp 1) (.tmp 2) rfl 6 stk_size (wB.heap.size) 29 rfl (stkC ⟨0,0,0,0⟩ (.slice none 0 0) (.slice none 0 0)) (stkC gB (.slice (some ⟨g0,0,none⟩) 5 5) (.slice AL nL cL)) rfl (RowL.new wB 29 (stkC ⟨0,0,0,0⟩ (.slice none 0 0) (.slice none 0 0))) rfl rfl (stkC_one _ _ _ _ _ _ _) ?_;intro wS3 hr3 hg3 hs3;have hzb:=below_stored' hg3;replace HB:=hide (HB.out.trans (hzb.mono HB.out.size));replace R0:=hide (R0.out.on hzb);replace HG:=hide (HG.out.on hzb);replace HLY:=hide (btw_on HLY.out hzb (by omega));have hsz4:=hzb.size;have RS:=hide hr3;have hlt3:=hr3.lt;have q1_4:wS3.cell? ⟨wB.heap.size,4,none⟩=some (.slice (some ⟨g0,0,none⟩) 5 5):=RS.out.cell 4;clear hzb hr3;clear hg3 hs3))
 refine wp_region_planL (fun w'=>Below wS3.heap.size wS3 w') [(0,true),(1,true),(2,true),(3,true),(4,false),(5,false),(6,true)] 7 (by kernel_rfl) (by kernel_rfl) (by kernel_rfl) (by kernel_rfl) (by kernel_rfl) rfl (fun _ _ _ _ _ h=>h) (below_drew (below_self wS3)) (fun hHeld=>?_)
 simp only [planOps,List.filterMap_cons,List.filterMap_nil,List.getElem?_toArray,List.getElem?_cons_succ,List.getElem?_cons_zero,Option.map_some]
 iterate 2
  refine wpPlan_take (v:=?_) (by kernel_rfl) (fun wS hSw=>?_) ?_
  rotate_left
  ·(try dsimp only at hSw);go_simp;(try with_reducible rfl)
  (try simp only [Act.put,pu1,pu2,pu3])
 refine wpPlan_take (v:=?_) (by kernel_rfl) (fun wS hSw=>?_) ?_
 rotate_left
 ·have qx:=((RS.out.on hSw).cell 4).trans (show (stkC gB (.slice (some ⟨g0,0,none⟩) 5 5) (.slice AL nL cL))[4]?=some (.slice (some ⟨g0,0,none⟩) 5 5) from rfl);go_simp;(try with_reducible rfl)
 (try simp only [Act.put,pu1,pu2,pu3])
 refine wpPlan_take (v:=?_) (by kernel_rfl) (fun wS hSw=>?_) ?_
 rotate_left
 ·(try dsimp only at hSw);go_simp;(try with_reducible rfl)
 (try simp only [Act.put,pu1,pu2,pu3])
 refine wpPlan_call (by kernel_rfl) (fun K hK=>?_)
 have hOld:=hide hHeld
 clear hHeld
 have HE0:=hide (RowL.new wS3.drew 75 (cellsE ⟨1,4,[122]⟩))
 unfold Oper.wp execOp
 go_simp
 refine hK.out _ _ (hOld.out.alloc hOld.out.size _) (fun hHeld=>?_)
 clear hK K
 (try simp only [Act.put,pu1,pu2,pu3])
 refine wpPlan_call (by kernel_rfl) (fun K hK=>?_)
 have hOld:=hide hHeld
 clear hHeld
 go_simp
 go_at_call 103
 refine (Dir_any _).mono ?_
 rintro e w' ⟨rfl,hbel⟩
 have HE1:=hide (HE0.out.on hbel)
 clear HE0
 refine hK.out _ _ (hOld.out.trans (hbel.mono hOld.out.size)) (fun hHeld=>?_)
 clear hK K
 (try simp only [Act.put,pu1,pu2,pu3])
 refine wpPlan_take (v:=?_) (by kernel_rfl) (fun wS hSw=>?_) ?_
 rotate_left
 ·(try dsimp only at hSw);go_simp;(try with_reducible rfl)
 (try simp only [Act.put,pu1,pu2,pu3])
 refine wpPlan_end ?_
 refine postL_go rfl (by kernel_rfl) ?_
 have hsx:=hHeld.size
 refine wp_storeC 67 (.tmp 9) (.tmp 8) rfl 13 nod_size g0 0 67 rfl upC (nodC ndD (.slice none 0 0) (.slice (some ⟨wS3.heap.size,0,none⟩) 1 1)) rfl (HG.out.on hHeld) rfl (by decide) (nodC_one _ _ _ _ _ _ _) ?_
 intro w5 hr5 hg5 hs5
 rw [up_one] at hr5
 have HG5:=hide hr5
 have HB5:=hide ((HB.out.trans (hHeld.mono HB.out.size)).grown hg5 (by omega) (pu4 (by omega)))
 have R05:=hide ((R0.out.on hHeld).grown hg5 (pu5 (by omega)))
 have RS5:=hide ((RS.out.on hHeld).grown hg5 (pu5 (by omega)))
 have HE5:=hide (HE1.out.grown hg5 (fun e=>by have:=Option.some.inj e;have:(wS3.drew).heap.size=wS3.heap.size:=rfl;omega))
 have HL5:=hide (btw_grown (btw_on HLY.out hHeld (by omega)) hg5 (by omega) (by omega))
 have hs5l:=hg5.size
 clear hr5 hg5 hs5 hHeld HG R0 RS HE1 HLY HB
 have q4:w5.cell? ⟨wB.heap.size,4,none⟩=some (.slice (some ⟨g0,0,none⟩) 5 5):=RS5.out.cell 4
 (try simp only [Act.put])
 go_wp2_with (first|(refine wpList_storeC rfl 67 (.tmp 14) (.tmp 13) rfl 13 nod_size g0 39 67 rfl (upC1 (.slice (some ⟨wS3.heap.size,0,none⟩) 1 1)) (nodC ndW (.slice none 0 0) (.slice none 0 0)) rfl HG5.out rfl (show 39+13≤65 from (by decide)) (nodC_one _ _ _ _ _ _ _) ?_;intro w6 hr6 hg6 hs6;rw [up_two] at hr6;have HG6:=hide hr6;have HB6:=hide (HB5.out.grown hg6 HB5.out.size (pu4 (by omega)));have R06:=hide (R05.out.grown hg6 (pu5 (by omega)));have RS6:=hide (RS5.out.grown hg6 (pu5 (by omega)));have HE6:=hide (HE5.out.grown hg6 (fun e=>by have:=Option.some.inj e;have:(wS3.drew).heap.size=wS3.heap.size:=rfl;omega));have HL6:=hide (btw_grown HL5.out hg6 (by omega) (by omega));have hs6l:=hg6.size;clear hr6 hg6 hs6)|(refine wpList_loadW rfl 29 (.tmp 1) rfl 6 stk_agg stk_size (wB.heap.size) 29 rfl (stkC gB (.slice (some ⟨g0,0,none⟩) 5 5) (.slice AL nL cL)) RS6.out rfl ?_)|(refine wpList_storeW rfl 29 (.tmp 0) (.tmp 15) rfl 6 stk_size w.heap.size 29 rfl (stkC ⟨0,0,0,0⟩ (.slice none 0 0) (.slice none 0 0)) (stkC gB (.slice (some ⟨g0,0,none⟩) 5 5) (.slice AL nL cL)) rfl R06.out rfl rfl (stkC_one _ _ _ _ _ _ _) ?_;intro w7 hr7 hg7 hs7;have HR7:=hide hr7;have HG7:=hide (HG6.out.grown hg7 (pu5 (by omega)));have HB7:=hide (HB6.out.grown hg7 HB6.out.size (pu4 (by omega)));have HE7:=hide (HE6.out.grown hg7 (fun e=>by have:=Option.some.inj e;have:(wS3.drew).heap.size=wS3.heap.size:=rfl;omega));have HL7:=hide ((btw_grown HL6.out hg7 (by omega) (by omega)).mono (fun _ _=>rfl) (fun b hb=>(show b < w7.heap.size from by have h2:=hb.2;have h3:=hg7.size;omega)):RdE layEn w7 (Under w7.heap.size) AL nL lsB);clear hr7 hg7 hs7))
 have u7:RdE nodEn w7 (Under w7.heap.size) (some ⟨g0,0,none⟩) 5 upI:=nods_row HG7.out HG7.out.lt ⟨none,0,0,_,1,1,rfl,Nat.le_refl _,RdE.none_ _ _ _ _,Nat.le_refl _,ent_row (l:=[⟨1,4,[122]⟩]) HE7.out HE7.out.lt⟩ (ndDR _ _) (ndDR _ _) ⟨none,0,0,none,0,0,rfl,Nat.le_refl _,RdE.none_ _ _ _ _,Nat.le_refl _,RdE.none_ _ _ _ _⟩ (nod0R _ _)
 exact bodyPost_ret (res_cell Tryz.results53 rfl stk_agg stk_size HR7.out rfl) rfl ⟨_,5,5,AL,nL,cL,rfl,u7,HL7.out,HB7.out⟩
end Go.Proofs.YtmhiohnkjpglfaaGreat

namespace Go.Proofs.YtmhiohnkjpglfaaGreat
open Go.RowKit Go.Shelf Plain

theorem EqS_b {A B:Option Addr} {n m c d:Nat} {l k:List (List UInt8)} {W1 W2:Nat} {b:Bool} (h:(l==k)=b) (w:World) (ha:Rd st w W1 A n l) (hb:Rd st w W2 B m k) (hn:n≤140737488355328) :
  Calls Tryz.prog 16 #[.slice A n c,.slice B m d] w (BRt w b):=by rw [←h];exact EqualS_any w ha hb hn
section
variable {AU AL AP AN : Option Addr} {nU cU nL cL cP cN : Nat}
end
end Go.Proofs.YtmhiohnkjpglfaaGreat

namespace Go.Proofs.YtmhiohnkjpglfaaGreat
open Go.RowKit Go.Shelf Plain

theorem aw_root:rootV upI lsB=(1,[(1,1)]):=by decide +kernel
theorem aw_few:FewU upI:=by
 refine ⟨by decide,fun x hx=>?_⟩
 simp only [upI,List.mem_cons,List.not_mem_nil,or_false] at hx
 rcases hx with rfl|rfl|rfl|rfl|rfl
 ·refine ⟨fun i e hi he=>?_,by decide,by decide,by decide,by decide,by decide,fun e he=>?_⟩
  ·obtain rfl:i=0:=by have:i < 1:=hi;omega
   cases he
   exact ⟨by decide,by decide,fun p h=>absurd h (by omega)⟩
  ·rw [List.mem_singleton.1 he]
   decide
 ·exact ⟨fun i e hi he=>absurd hi (by simp [ndD,nod0]),by decide,by decide,by decide,by decide,by decide,fun e he=>by simp [ndD,nod0] at he⟩
 ·exact ⟨fun i e hi he=>absurd hi (by simp [ndD,nod0]),by decide,by decide,by decide,by decide,by decide,fun e he=>by simp [ndD,nod0] at he⟩
 ·exact ⟨fun i e hi he=>absurd hi (by simp [ndW,nod0]),by decide,by decide,by decide,by decide,by decide,fun e he=>by simp [ndW,nod0] at he⟩
 ·exact plain0
end Go.Proofs.YtmhiohnkjpglfaaGreat

namespace Go.Proofs.YtmhiohnkjpglfaaGreat
open Go.RowKit Go.Shelf Plain

theorem tree_get (up:List NodV) (ls:List (List NodV)) {l:List WayV} {j:Nat} {y:WayV} (h:l[j]?=some y):(treeV up ls l)[j]?=some (wayView up ls (treeV up ls (l.take j)) y):=by
 have h1:=tree_succ up ls h
 have hj:=(List.getElem?_eq_some_iff.1 h).1
 have h2:treeV up ls l=treeV up ls (l.take (j+1))++(l.drop (j+1)).foldl (fun vs x=>vs++[wayView up ls (treeV up ls (l.take (j+1))++vs) x]) []:=by
  have key:∀(r:List WayV) (p q:List ViewV),r.foldl (fun vs x=>vs++[wayView up ls vs x]) (p++q)=p++r.foldl (fun vs x=>vs++[wayView up ls (p++vs) x]) q:=by
   intro r
   induction r with
   | nil=>intro p q;rfl
   | cons a r ih=>intro p q;simp only [List.foldl_cons];rw [List.append_assoc];exact ih p _
  have h3:=key (l.drop (j+1)) (treeV up ls (l.take (j+1))) []
  rw [List.append_nil] at h3
  rw [←h3]
  show treeV up ls l=_
  unfold treeV
  rw [←List.foldl_append,List.take_append_drop]
 rw [h2,h1,List.append_assoc,List.getElem?_append_right (by rw [tree_take,List.length_take];omega)]
 rw [tree_take,List.length_take,Nat.min_eq_left (by omega),Nat.sub_self]
 rfl
theorem tree_ino {up:List NodV} {ls:List (List NodV)} {l:List WayV} {j:Nat} {y:WayV} (hl:(walkW up [1]).1=l) (h:l[j]?=some y):(wayView up ls (treeV up ls (l.take j)) y).1=y.ino∧(opqD (nodAt up y.ino)=true→(wayView up ls (treeV up ls (l.take j)) y).2=[]):=by
 have hup:=walk_upv up
 have hok:=walk_ok up [1]
 rw [hl] at hup hok
 have hd:=hok.1 y (List.mem_of_getElem? h)
 have hk:(nodAt up y.ino).k=1:=of_decide_eq_true hd
 obtain ⟨h0,h1⟩:=hup j y h
 unfold wayView
 by_cases hj:j=0
 ·obtain ⟨hu,hi⟩:=h0 hj
  rw [hu,if_pos (by decide)]
  rw [hi] at hk ⊢
  unfold rootV
  rw [if_pos hk]
  exact ⟨rfl,fun ho=>by dsimp only;rw [if_pos ho]⟩
 ·obtain ⟨p,hp,-⟩:=h1 (by omega)
  rw [hp,if_neg (by omega)]
  refine ⟨rfl,fun ho=>?_⟩
  dsimp only
  unfold partV
  have ho':opq (nodAt up y.ino)=true:=by unfold opqD at ho;simp at ho;exact ho.2
  rw [if_pos hk,if_pos ho']
def TreeP (w:World) (n:Nat) (ws:List WayV) (vs:List ViewV) (e:Ending) (w':World):Prop:=∃A c A' c',e=.returned (.tuple #[.slice A n c,.slice A' n c'])∧RdE wayEn w' (fun b=>w.heap.size≤b∧b < w'.heap.size) A n ws∧RdE viewEn w' (Under w'.heap.size) A' n vs∧Below w.heap.size w w'
theorem TreeF.p {w w':World} {ws:List WayV} {vs:List ViewV} {n:Nat} {e:Ending} (h:TreeF w ws vs e w') (h1:ws.length=n) (h2:vs.length=n):TreeP w n ws vs e w':=by
 obtain ⟨A,c,A',c',he,ha,hb,hbl⟩:=h
 rw [h1] at he ha
 rw [h2] at he hb
 exact ⟨A,c,A',c',he,ha,hb,hbl⟩
theorem VTree_p {g:GeoQ} {AU AL:Option Addr} {nU cU nL cL B:Nat} {up:List NodV} {ls:List (List NodV)} {ws:List WayV} {T:List ViewV} {n:Nat} (hw:(walkW up [1]).1=ws) (hT:treeV up ls ws=T) (hn:ws.length=n) (w:World) (hu:RdE nodEn w (Under B) AU nU up) (h:RdE layEn w (Under B) AL nL ls) (hB:B≤w.heap.size) (hF:FewL ls) (hup:FewU up):Calls Tryz.prog 80 #[.agg (stkC g (.slice AU nU cU) (.slice AL nL cL)).toArray] w (TreeP w n ws T) :=
 (VTree_any hw w hu h hB hF hup).mono (fun e w' he=>TreeF.p (by rw [←hT];exact he) hn (by rw [←hT,tree_len];exact hn))
end Go.Proofs.YtmhiohnkjpglfaaGreat

