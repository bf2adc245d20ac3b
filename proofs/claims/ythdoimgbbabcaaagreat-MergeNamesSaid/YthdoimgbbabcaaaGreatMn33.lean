import Derived.Test.YthdoimgbbabcaaaGreatMn27
import Derived.Test.YthdoimgbbabcaaaGreatMn18
import Derived.Test.YthdoimgbbabcaaaGreatMn32

namespace Go.Proofs.YthdoimgbbabcaaaGreat
open Go.RowKit Go.Shelf Plain

def ndZ:NodV:={ndD with ents:=[⟨1,4,[122]⟩]}
def ndW:NodV:={nod0 with k:=4,n:=1}
def upI:List NodV:=[ndZ,ndD,ndD,ndW,nod0]
def upC1 (E:Value):List Value:=nodC ndD (.slice none 0 0) E++(nodC ndD (.slice none 0 0) (.slice none 0 0)++(nodC ndD (.slice none 0 0) (.slice none 0 0)++(nodC nod0 (.slice none 0 0) (.slice none 0 0)++nodC nod0 (.slice none 0 0) (.slice none 0 0))))
def upC2 (E:Value):List Value:=nodC ndD (.slice none 0 0) E++(nodC ndD (.slice none 0 0) (.slice none 0 0)++(nodC ndD (.slice none 0 0) (.slice none 0 0)++(nodC ndW (.slice none 0 0) (.slice none 0 0)++nodC nod0 (.slice none 0 0) (.slice none 0 0))))
theorem up_one (E:Value):splice upC 0 (nodC ndD (.slice none 0 0) E)=upC1 E:=rfl
theorem up_two (E:Value):splice (upC1 E) 39 (nodC ndW (.slice none 0 0) (.slice none 0 0))=upC2 E:=rfl
set_option maxRecDepth 100000 in
set_option maxHeartbeats 1600000 in
theorem Idle_any (w:World):Calls Tryz.prog 62 #[] w (StkRet w gB upI lsB):=by
 obtain ⟨W1,hW1⟩:∃W1,(w.alloc (.cells (stkC ⟨0,0,0,0⟩ (.slice none 0 0) (.slice none 0 0)).toArray 29))=W1:=⟨_,rfl⟩
 obtain ⟨r0,hb1,hs1⟩:=rowA1 w _ _ hW1
 have hW1':(w.alloc (.cells #[.int .i64 0,.int .i64 0,.int .i64 0,.int .i64 0,.slice none 0 0,.slice none 0 0] 29))=W1:=hW1
 have R0:=hide r0
 have HB:=hide hb1
 have hsz0:=hb1.size
 clear r0 hb1 hW1
 go_enter Tryz.func62,Tryz.ntmps62
 go_wp2_with (first|(go_at_call 105;refine (Base_o W1).mono ?_;rintro e1 wB ⟨g0,AL,nL,cL,rfl,hrow,hlay,hg0,hbel⟩;have hg0l:=hrow.lt;replace HB:=hide (HB.out.trans (hbel.mono HB.out.size));replace R0:=hide (R0.out.on hbel);have hsz2:=hbel.size;have HG:=hide hrow;clear hrow;have HLY:=hide hlay;clear hlay;clear hbel)|(refine wpList_storeW rfl 29 (.tmp 1) (.tmp 2) rfl 6 stk_size (wB.heap.size) 29 rfl (stkC ⟨0,0,0,0⟩ (.slice none 0 0) (.slice none 0 0)) (stkC gB (.slice (some ⟨g0,0,none⟩) 5 5) (.slice AL nL cL)) rfl (RowL.new wB 29 (stkC ⟨0,0,0,0⟩ (.slice none 0 0) (.slice none 0 0))) rfl rfl (stkC_one _ _ _ _ _ _ _) ?_;intro wS3 hr3 hg3 hs3;have hzb:=below_stored' hg3;replace HB:=hide (HB.out.trans (hzb.mono HB.out.size));replace R0:=hide (R0.out.on hzb);replace HG:=hide (HG.out.on hzb);replace HLY:=hide (btw_on HLY.out hzb (by omega));have hsz4:=hzb.size;have RS:=hide hr3;have hlt3:=hr3.lt;have q1_4:wS3.cell? ⟨wB.heap.size,4,none⟩=some (.slice (some ⟨g0,0,none⟩) 5 5):=RS.out.cell 4;clear hzb hr3;clear hg3 hs3))
 refine wp_region_planL (fun w'=>Below wS3.heap.size wS3 w') [(0,true),(1,true),(2,true),(3,true),(4,false),(5,false),(6,true)] 7 (by kernel_rfl) (by kernel_rfl) (by kernel_rfl) (by kernel_rfl) (by kernel_rfl) rfl (fun _ _ _ _ _ h=>h) (below_drew (below_self wS3)) (fun hHeld=>?_)
 simp only [planOps,List.filterMap_cons,List.filterMap_nil,List.getElem?_toArray,List.getElem?_cons_succ,List.getElem?_cons_zero,Option.map_some]
 iterate 2
  refine wpPlan_take (v:=?_) (by kernel_rfl) (fun wS hSw=>?_) ?_
  rotate_left
  ·(try dsimp only at hSw);go_simp;(try with_reducible rfl)
  (try simp only [Act.put,pu1,pu2,pu3])
 refine wpPlan_take (v:=?_) (by kernel_rfl) (fun wS hSw=>?_) ?_
 rotate_left
 ·have qx:=((RS.out.on hSw).cell 4).trans (show (stkC gB (.slice (some ⟨g0,0,none⟩) 5 5) (.slice AL nL cL))[4]?=some (.slice (some ⟨g0,0,none⟩) 5 5) from rfl);go_simp;(try with_reducible rfl)
 (try simp only [Act.put,pu1,pu2,pu3])
 refine wpPlan_take (v:=?_) (by kernel_rfl) (fun wS hSw=>?_) ?_
 rotate_left
 ·(try dsimp only at hSw);go_simp;(try with_reducible rfl)
 (try simp only [Act.put,pu1,pu2,pu3])
 refine wpPlan_call (by kernel_rfl) (fun K hK=>?_)
 have hOld:=hide hHeld
 clear hHeld
 have HE0:=hide (RowL.new wS3.drew 42 (cellsE ⟨1,4,[122]⟩))
 unfold Oper.wp execOp
 go_simp
 refine hK.out _ _ (hOld.out.alloc hOld.out.size _) (fun hHeld=>?_)
 clear hK K
 (try simp only [Act.put,pu1,pu2,pu3])
 refine wpPlan_call (by kernel_rfl) (fun K hK=>?_)
 have hOld:=hide hHeld
 clear hHeld
 go_simp
 go_at_call 115
 refine (Dir_any _).mono ?_
 rintro e w' ⟨rfl,hbel⟩
 have HE1:=hide (HE0.out.on hbel)
 clear HE0
 refine hK.out _ _ (hOld.out.trans (hbel.mono hOld.out.size)) (fun hHeld=>?_)
 clear hK K
 (try simp only [Act.put,pu1,pu2,pu3])
 refine wpPlan_take (v:=?_) (by kernel_rfl) (fun wS hSw=>?_) ?_
 rotate_left
 ·(try dsimp only at hSw);go_simp;(try with_reducible rfl)
 (try simp only [Act.put,pu1,pu2,pu3])
 refine wpPlan_end ?_
 refine postL_go rfl (by kernel_rfl) ?_
 have hsx:=hHeld.size
 refine wp_storeC 38 (.tmp 9) (.tmp 8) rfl 13 nod_size g0 0 38 rfl upC (nodC ndD (.slice none 0 0) (.slice (some ⟨wS3.heap.size,0,none⟩) 1 1)) rfl (HG.out.on hHeld) rfl (by decide) (nodC_one _ _ _ _ _ _ _) ?_
 intro w5 hr5 hg5 hs5
 rw [up_one] at hr5
 have HG5:=hide hr5
 have HB5:=hide ((HB.out.trans (hHeld.mono HB.out.size)).grown hg5 (by omega) (pu4 (by omega)))
 have R05:=hide ((R0.out.on hHeld).grown hg5 (pu5 (by omega)))
 have RS5:=hide ((RS.out.on hHeld).grown hg5 (pu5 (by omega)))
 have HE5:=hide (HE1.out.grown hg5 (fun e=>by have:=Option.some.inj e;have:(wS3.drew).heap.size=wS3.heap.size:=rfl;omega))
 have HL5:=hide (btw_grown (btw_on HLY.out hHeld (by omega)) hg5 (by omega) (by omega))
 have hs5l:=hg5.size
 clear hr5 hg5 hs5 hHeld HG R0 RS HE1 HLY HB
 have q4:w5.cell? ⟨wB.heap.size,4,none⟩=some (.slice (some ⟨g0,0,none⟩) 5 5):=RS5.out.cell 4
 (try simp only [Act.put])
 go_wp2_with (first|(refine wpList_storeC rfl 38 (.tmp 14) (.tmp 13) rfl 13 nod_size g0 39 38 rfl (upC1 (.slice (some ⟨wS3.heap.size,0,none⟩) 1 1)) (nodC ndW (.slice none 0 0) (.slice none 0 0)) rfl HG5.out rfl (show 39+13≤65 from (by decide)) (nodC_one _ _ _ _ _ _ _) ?_;intro w6 hr6 hg6 hs6;rw [up_two] at hr6;have HG6:=hide hr6;have HB6:=hide (HB5.out.grown hg6 HB5.out.size (pu4 (by omega)));have R06:=hide (R05.out.grown hg6 (pu5 (by omega)));have RS6:=hide (RS5.out.grown hg6 (pu5 (by omega)));have HE6:=hide (HE5.out.grown hg6 (fun e=>by have:=Option.some.inj e;have:(wS3.drew).heap.size=wS3.heap.size:=rfl;omega));have HL6:=hide (btw_grown HL5.out hg6 (by omega) (by omega));have hs6l:=hg6.size;clear hr6 hg6 hs6)|(refine wpList_loadW rfl 29 (.tmp 1) rfl 6 stk_agg stk_size (wB.heap.size) 29 rfl (stkC gB (.slice (some ⟨g0,0,none⟩) 5 5) (.slice AL nL cL)) RS6.out rfl ?_)|(refine wpList_storeW rfl 29 (.tmp 0) (.tmp 15) rfl 6 stk_size w.heap.size 29 rfl (stkC ⟨0,0,0,0⟩ (.slice none 0 0) (.slice none 0 0)) (stkC gB (.slice (some ⟨g0,0,none⟩) 5 5) (.slice AL nL cL)) rfl R06.out rfl rfl (stkC_one _ _ _ _ _ _ _) ?_;intro w7 hr7 hg7 hs7;have HR7:=hide hr7;have HG7:=hide (HG6.out.grown hg7 (pu5 (by omega)));have HB7:=hide (HB6.out.grown hg7 HB6.out.size (pu4 (by omega)));have HE7:=hide (HE6.out.grown hg7 (fun e=>by have:=Option.some.inj e;have:(wS3.drew).heap.size=wS3.heap.size:=rfl;omega));have HL7:=hide ((btw_grown HL6.out hg7 (by omega) (by omega)).mono (fun _ _=>rfl) (fun b hb=>(show b < w7.heap.size from by have h2:=hb.2;have h3:=hg7.size;omega)):RdE layEn w7 (Under w7.heap.size) AL nL lsB);clear hr7 hg7 hs7))
 have u7:RdE nodEn w7 (Under w7.heap.size) (some ⟨g0,0,none⟩) 5 upI:=nods_row HG7.out HG7.out.lt ⟨none,0,0,_,1,1,rfl,Nat.le_refl _,RdE.none_ _ _ _ _,Nat.le_refl _,ent_row (l:=[⟨1,4,[122]⟩]) HE7.out HE7.out.lt⟩ (ndDR _ _) (ndDR _ _) ⟨none,0,0,none,0,0,rfl,Nat.le_refl _,RdE.none_ _ _ _ _,Nat.le_refl _,RdE.none_ _ _ _ _⟩ (nod0R _ _)
 exact bodyPost_ret (res_cell Tryz.results62 rfl stk_agg stk_size HR7.out rfl) rfl ⟨_,5,5,AL,nL,cL,rfl,u7,HL7.out,HB7.out⟩
end Go.Proofs.YthdoimgbbabcaaaGreat

namespace Go.Proofs.YthdoimgbbabcaaaGreat
open Go.RowKit Go.Shelf Plain

theorem EqS_b {A B:Option Addr} {n m c d:Nat} {l k:List (List UInt8)} {W1 W2:Nat} {b:Bool} (h:(l==k)=b) (w:World) (ha:Rd st w W1 A n l) (hb:Rd st w W2 B m k) (hn:n≤140737488355328) :
  Calls Tryz.prog 36 #[.slice A n c,.slice B m d] w (BRt w b):=by rw [←h];exact EqualS_any w ha hb hn
section
variable {AU AL AP AN : Option Addr} {nU cU nL cL cP cN : Nat}
end
end Go.Proofs.YthdoimgbbabcaaaGreat

namespace Go.Proofs.YthdoimgbbabcaaaGreat
open Go.RowKit Go.Shelf Plain

theorem aw_few:FewU upI:=by
 refine ⟨by decide,fun x hx=>?_⟩
 simp only [upI,List.mem_cons,List.not_mem_nil,or_false] at hx
 rcases hx with rfl|rfl|rfl|rfl|rfl
 ·refine ⟨fun i e hi he=>?_,by decide,by decide,by decide,by decide,by decide,fun e he=>?_⟩
  ·obtain rfl:i=0:=by have:i < 1:=hi;omega
   cases he
   exact ⟨by decide,by decide,fun p h=>absurd h (by omega)⟩
  ·rw [List.mem_singleton.1 he]
   decide
 ·exact ⟨fun i e hi he=>absurd hi (by simp [ndD,nod0]),by decide,by decide,by decide,by decide,by decide,fun e he=>by simp [ndD,nod0] at he⟩
 ·exact ⟨fun i e hi he=>absurd hi (by simp [ndD,nod0]),by decide,by decide,by decide,by decide,by decide,fun e he=>by simp [ndD,nod0] at he⟩
 ·exact ⟨fun i e hi he=>absurd hi (by simp [ndW,nod0]),by decide,by decide,by decide,by decide,by decide,fun e he=>by simp [ndW,nod0] at he⟩
 ·exact plain0
theorem VNames_e {g:GeoQ} {AU AL:Option Addr} {nU cU nL cL B:Nat} {up:List NodV} {ls:List (List NodV)} {u:Int} {AV:Option Addr} {nV cV BV:Nat} {vl:List (Int×Int)} {L:List (List UInt8)} (hL:namesV up ls (u,vl)=L) (w:World) (hu:RdE nodEn w (Under B) AU nU up) (h:RdE layEn w (Under B) AL nL ls) (hB:B≤w.heap.size) (hF:FewL ls) (hup:FewU up) (hv:RdE prEn w (Under BV) AV nV vl) (hBV:BV≤w.heap.size) (hnV:nV≤1000):Calls Tryz.prog 19 #[.agg (stkC g (.slice AU nU cU) (.slice AL nL cL)).toArray,.agg (viwC u (.slice AV nV cV)).toArray] w (NamesO w L):=by rw [←hL];exact VNames_any w hu h hB hF hup hv hBV hnV
end Go.Proofs.YthdoimgbbabcaaaGreat

