import Derived.Test.YtnhegahpfacdgaaGreatRt34
import Derived.Test.YtnhegahpfacdgaaGreatRt29

namespace Go.Proofs.YtnhegahpfacdgaaGreat
open Go.RowKit Go.Shelf Plain Go.Maps

theorem pr_anyR {w w':World} {D D':Nat→Prop} {cs:List Value} {x:Int×Int} (h:prEn.R w D cs x):prEn.R w' D' cs x:=h
theorem int_anyR {w w':World} {D D':Nat→Prop} {cs:List Value} {x:Int} (h:Enc.int.R w D cs x):Enc.int.R w' D' cs x:=h
theorem int_infR:(Tryz.prog.info? 3).map (fun i=>(i.zero,i.size,i.bytes))=some (some (.int .i64 0),Enc.int.k,8):=by kernel_rfl
theorem lit_intR (c:Int) (W:World):(Instr.buildSlice 71 1 #[(0,.int .i64 c)]).run Tryz.prog W=.ok (.slice (some ⟨W.heap.size,0,none⟩) 1 1) (W.alloc (.cells #[.int .i64 c] 3)):=by
 obtain ⟨it,hi,hz,hsz,-⟩:=info_parts (show (Tryz.prog.info? 3).map (fun i=>(i.zero,i.size,i.bytes))=some (some (.int .i64 0),1,8) from by kernel_rfl)
 refine run_buildSlice W _ 3 1 _ _ it (.int .i64 0) Tryz.underlying71 hi hz (by omega) (by omega) ?_
 rw [hsz]
 have:=Great.fill_whole (s:=1) (by omega) [.int .i64 c] ((Array.range (1*1)).map ((Value.int .i64 0).cells[· % (Value.int .i64 0).cells.size]!)) (by intro v hv;rw [List.mem_singleton] at hv;subst hv;simp [Value.cells]) (by simp)
 simpa [Value.cells] using this
theorem neq_plcR {a b:Int} {r:Bool} (h:decide ((a,b)=((0:Int),(0:Int)))=r) (W:World):(binOp .neq 41 (.agg #[.int .i64 a,.int .i64 b]) (.agg #[.int .i64 0,.int .i64 0])).run Tryz.prog W=.ok (.bool (!r)) W:=by
 subst h
 by_cases h1:a=0
 rotate_left
 ·simp [go_sem,h1]
 by_cases h2:b=0
 rotate_left
 ·simp [go_sem,h1,h2]
 simp [go_sem,h1,h2]
set_option maxRecDepth 100000 in
set_option maxHeartbeats 16000000 in
theorem RefClauses_any {g:GeoQ} {AU AL:Option Addr} {nU cU nL cL B:Nat} {up:List NodV} {ls:List (List NodV)} {l:List WayV} {TV:List ViewV} {n:Nat} (hl:(walkW up [1]).1=l) (hT:treeV up ls l=TV) (hn:l.length=n) (w:World) (hu:RdE nodEn w (Under B) AU nU up) (h:RdE layEn w (Under B) AL nL ls) (hB:B≤w.heap.size) (hF:FewL ls) (hup:FewU up):Calls Tryz.prog 25 #[.agg (stkC g (.slice AU nU cU) (.slice AL nL cL)).toArray] w (fun e w'=>∃A c,e=.returned (.slice A n c)∧RdE Enc.int w' (Under w'.heap.size) A n (runR up ls l l.length).2∧Below w.heap.size w w'):=by
 obtain ⟨W1,hW1⟩:∃W1,(w.alloc (.cells (stkC g (.slice AU nU cU) (.slice AL nL cL)).toArray 29))=W1:=⟨_,rfl⟩
 obtain ⟨r0,hb1,hs1⟩:=rowA1 w _ _ hW1
 have hW1':(w.alloc (.cells #[.int .i64 g.a,.int .i64 g.b,.int .i64 g.c,.int .i64 g.d,.slice AU nU cU,.slice AL nL cL] 29))=W1:=hW1
 have R1:=hide r0
 have HB:=hide hb1
 have hsz0:=hb1.size
 have HU:=hide (hu.under hb1 hB)
 have HL:=hide (h.under hb1 hB)
 have HF:=hide hF
 have HFU:=hide hup
 have HWS:=hide hl
 have HT:=hide hT
 have HN:=hide hn
 have hn24:n≤24:=by
  have h1:=(walk_ok up [1]).le
  rw [hl] at h1
  have h2:=hup.1
  omega
 have hs1':w.heap.size+1≤W1.heap.size:=by omega
 have HVN:=hide (show TV.length=n from by rw [←hT,tree_len];exact hn)
 have HPO:=hide (show ∀v∈TV,PosL v.2 from by rw [←hT];exact tree_pos up hF l)
 have HRI:=hide (fun k=>runR_in (up:=up) (ls:=ls) (l:=l) k)
 clear r0 hb1 hW1 hu h hF hup hl hT hn hs1
 unfold stkC
 go_enter Tryz.func25,Tryz.ntmps25
 go_upto_region 3 with (first|(refine wpList_loadW rfl 29 (.tmp 1) rfl 6 stk_agg stk_size (w.heap.size) 29 rfl [.int .i64 g.a,.int .i64 g.b,.int .i64 g.c,.int .i64 g.d,.slice AU nU cU,.slice AL nL cL] R1.out rfl ?_)|(go_at_call 24;refine (RVTree_p HWS.out HT.out HN.out W1 HU.out HL.out (by omega) HF.out HFU.out).mono ?_;rintro e1 wT ⟨A3,c3,A4,c4,rfl,h3,h4,hbel⟩;have hzT:=hbel.size;have H3:=hide (h3.mono (D':=Under wT.heap.size) (fun _ _=>rfl) (fun b hb=>hb.2));have H4:=hide h4;replace R1:=hide (R1.out.on hbel);replace HB:=hide (HB.out.trans (hbel.mono HB.out.size));replace HU:=hide (HU.out.under hbel (by omega));replace HL:=hide (HL.out.under hbel (by omega));clear h3 h4 hbel)|(go_at_call 11;refine (RefClaims_any HWS.out HT.out HN.out wT HU.out HL.out (by omega) HF.out HFU.out).mono ?_;rintro e2 wC ⟨A5,c5,rfl,h5,hbel⟩;have hzC:=hbel.size;have H5:=hide h5;replace H3:=hide (H3.out.under hbel (Nat.le_refl _));replace H4:=hide (H4.out.under hbel (Nat.le_refl _));replace R1:=hide (R1.out.on hbel);replace HB:=hide (HB.out.trans (hbel.mono HB.out.size));replace HU:=hide (HU.out.under hbel (by omega));replace HL:=hide (HL.out.under hbel (by omega));clear h5 hbel))
 clear hW1'
 have HE0:=hide (OwE.empty prEn wC 41)
 have hbe:=below_new (below_self wC) (.cells #[] 41)
 have hlt0:wC.heap.size < (wC.alloc (.cells #[] 41)).heap.size:=by simp
 go_wp2_with fail
 generalize wC.alloc (.cells #[] 41)=wE at *
 have HBE:=hide hbe
 clear hbe
 go_loopw [6,7] (fun v6 v7 wr=>∃(j n6:Nat) (A6:Option Addr) (c6:Nat),j≤n∧n6≤j∧v7=.int .i64 j∧v6=.slice A6 n6 c6∧OwE prEn wr wC.heap.size 41 A6 n6 c6 (takR up ls l j)∧Below wC.heap.size wC wr) (fun _ v7 _=>n - (intOf v7).toNat)
 case atStart=>exact ⟨0,0,_,0,by omega,by omega,rfl,rfl,HE0.out,HBE.out⟩
 case round =>
  obtain ⟨j,n6,A6,c6,hj,hn6,rfl,rfl,ho,hbr⟩:=hrel
  have hbsz:=hbr.size
  have HBQ:=hide hbr
  have HO2:=hide ho
  have R1r:=hide (R1.out.on hbr)
  have HUr:=hide (HU.out.under hbr (by omega))
  have H3r:=hide (H3.out.under hbr (by omega))
  have H5r:=hide (H5.out.under hbr (by omega))
  clear ho hbr
  by_cases hlt:j < n
  ·obtain ⟨y,hy⟩:∃y,l[j]?=some y:=⟨_,List.getElem?_eq_getElem (by have:=HN.out;omega)⟩
   obtain ⟨v,hv⟩:∃v,TV[j]?=some v:=⟨_,List.getElem?_eq_getElem (by have:=HVN.out;omega)⟩
   obtain ⟨x,hx⟩:∃x,nodAt up y.ino=x:=⟨_,rfl⟩
   obtain ⟨r,hr⟩:∃r,hasR x=r:=⟨_,rfl⟩
   have HTK:=hide (show takR up ls l (j+1)=if r=true then takR up ls l j else takR up ls l j++[clmR v] from by rw [takR_succ hy (by rw [HT.out];exact hv),hx,hr])
   obtain ⟨bW,oW,hAW,hbW,hcW⟩:=way_get H3r.out hy
   have qy:wr.cell? ⟨bW,oW+j*3,none⟩=some (.int .i64 y.ino):=hcW 0 _ rfl
   have hbWr:bW < wr.heap.size:=by have h1:bW < wT.heap.size:=hbW;omega
   obtain ⟨q,hq⟩:∃q,clmR v=q:=⟨_,rfl⟩
   have hqj:(TV.map clmR)[j]?=some q:=by rw [List.getElem?_map,hv,Option.map_some,hq]
   rw [hq] at HTK
   obtain ⟨bC,oC,hAC,hbC,hc⟩:=H5r.out.2 (by omega)
   obtain ⟨cs,hR,hcs⟩:=hc j q hqj
   obtain rfl:cs=prC q:=hR
   have HCP:=hide (show ∀k v,[Value.int .i64 q.1,.int .i64 q.2][k]?=some v→wr.cell? ⟨bC,oC+j*2+k,none⟩=some v from fun k v hv=>by have h1:=hcs k v hv;rw [show prEn.k=2 from rfl,←Nat.add_assoc] at h1;exact h1)
   have hbCr:bC < wr.heap.size:=by have h1:bC < wC.heap.size:=hbC;omega
   have HX:=hide hx
   have HRB:=hide hr
   have hjn:(j:Int) < (n:Int):=by omega
   have hlit:=fun W=>lit_plcx q.1 q.2 W
   subst hAW hAC
   clear hy hv hx hr hq hqj hc hcs hbC hcW hbW
   go_wp2_with fail
   refine wp_region_planN (fun w'=>Below wr.heap.size wr w') [(0,true),(1,true),(2,true),(3,true),(4,true),(5,true),(6,false),(7,true)] (by kernel_rfl) (by kernel_rfl) (by kernel_rfl) (by kernel_rfl) rfl (fun _ _ _ _ _ h=>h) (below_drew (below_self wr)) (fun hHeld=>?_)
   simp only [planOps,List.filterMap_cons,List.filterMap_nil,List.getElem?_toArray,List.getElem?_cons_succ,List.getElem?_cons_zero,Option.map_some]
   refine wpPlan_take (v:=?_) (by kernel_rfl) (fun wS hSw=>?_) ?_
   rotate_left
   ·refine execOp_load (x:=.tmp 1) (k:=6) (g:=w.heap.size) (off:=0) (cs:=[.int .i64 g.a,.int .i64 g.b,.int .i64 g.c,.int .i64 g.d,.slice AU nU cU,.slice AL nL cL]) ?_ stk_agg stk_size ?_ (fun j v hv=>by rw [Nat.zero_add];exact ((R1r.out.on hSw).cell j).trans hv) rfl <;> rfl
   (try simp only [Act.put,pu1,pu2,pu3])
   iterate 4
    refine wpPlan_take (v:=?_) (by kernel_rfl) (fun wS hSw=>?_) ?_
    rotate_left
    ·(try dsimp only at hSw);go_simp;(try with_reducible rfl)
    (try simp only [Act.put,pu1,pu2,pu3])
   refine wpPlan_take (v:=?_) (by kernel_rfl) (fun wS hSw=>?_) ?_
   rotate_left
   ·have qx':wS.cell? ⟨bW,oW+j*3,none⟩=some (.int .i64 y.ino):=(hSw.cell hbWr).trans qy;go_simp;(try with_reducible rfl)
   (try simp only [Act.put,pu1,pu2,pu3])
   refine wpPlan_call (by kernel_rfl) (fun K hK=>?_)
   have hOld:=hide hHeld
   clear hHeld
   go_simp
   go_at_call 27
   refine (RRedd21_b HX.out HRB.out _ (HUr.out.under hOld.out (by omega)) (by have:=hOld.out.size;omega) HFU.out).mono ?_
   rintro e w' ⟨rfl,hbel⟩
   refine hK.out _ _ (hOld.out.trans (hbel.mono hOld.out.size)) (fun hHeld=>?_)
   clear hK K
   (try simp only [Act.put,pu1,pu2,pu3])
   refine wpPlan_take (v:=?_) (by kernel_rfl) (fun wS hSw=>?_) ?_
   rotate_left
   ·(try dsimp only at hSw);go_simp;(try with_reducible rfl)
   (try simp only [Act.put,pu1,pu2,pu3])
   refine wpPlan_end ?_
   rename World=>wq
   have hzq:=hHeld.size
   have HBX:=hide (HBQ.out.trans (hHeld.mono (by have:=HBQ.out.size;omega)))
   have HO3:=hide (HO2.out.below hHeld)
   have HCP3:=hide (show ∀k v,[Value.int .i64 q.1,.int .i64 q.2][k]?=some v→wq.cell? ⟨bC,oC+j*2+k,none⟩=some v from fun k v hv=>(hHeld.cell (p:=⟨bC,oC+j*2+k,none⟩) (by show bC < _;omega)).trans (HCP.out k v hv))
   clear hHeld
   cases r with
   | true =>
    have HTK2:=hide (show takR up ls l (j+1)=takR up ls l j from by rw [HTK.out,if_pos rfl])
    go_wp2_with fail
    go_roundw
    case rel=>exact ⟨j+1,n6,A6,c6,by omega,by omega,by go_num,rfl,by rw [HTK2.out];exact HO3.out,HBX.out⟩
    case measure=>simp [intOf];omega
   | false =>
    have HTK2:=hide (show takR up ls l (j+1)=takR up ls l j++[(q.1,q.2)] from by rw [HTK.out,if_neg (by simp)])
    go_wp2_with (first|(refine wpList_loadX rfl 41 (.tmp 36) rfl 2 plc_agg plc_size bC (oC+j*2) rfl [.int .i64 q.1,.int .i64 q.2] HCP3.out rfl ?_)|(at_builtin;have hba:=below_new (below_self wq) (.cells #[.int .i64 q.1,.int .i64 q.2] 41);refine wpList_append_OwK (E:=prEn) _ rfl (.tmp 33) (.tmp 38) 39 rfl wC.heap.size 41 zpr 16 Tryz.underlying39 plc_info rfl (by decide) A6 n6 c6 _ rfl (HO3.out.below hba) (fun b=>wq.heap.size≤b∧b < (wq.alloc (.cells #[.int .i64 q.1,.int .i64 q.2] 41)).heap.size) (some ⟨wq.heap.size,0,none⟩) 1 1 [(q.1,q.2)] rfl (enc_lit1 (E:=prEn) (x:=(q.1,q.2)) (cs:=[.int .i64 q.1,.int .i64 q.2]) (fun _ _=>rfl) wq 41 (Nat.le_refl _)) (fun b hb=>⟨⟨hb.2,fun _ _ _ _=>rfl⟩,fun a ha=>(fun e=>by have h1:=hb.1;rw [e] at h1;have:=HO3.out.ltB a ha;omega)⟩) (by omega) (n6+1) rfl (by omega) (by omega) (by simp;omega) ?_;intro A9 c9 w9 ho9 hb9 hg9;have HO9:=hide ho9;have HB9:=hide ((HBX.out.alloc (by omega) _).trans hb9);clear ho9 hb9 hg9 hba))
    go_roundw
    case rel=>exact ⟨j+1,n6+1,A9,c9,by omega,by omega,by go_num,rfl,by rw [HTK2.out];exact HO9.out,HB9.out⟩
    case measure=>simp [intOf];omega
  ·obtain rfl:n=j:=by omega
   have hjn:¬((n:Int) < (n:Int)):=by omega
   have HTL:=hide (show takR up ls l n=(runR up ls l 0).1 from by rw [runR,HN.out])
   have HE8:=hide ((OwE.empty Enc.int wr 3).rebase (b':=wC.heap.size) (by omega))
   have hbe:=below_new (below_self wr) (.cells #[] 3)
   have HB8:=hide (HBQ.out.trans (hbe.mono (by omega)))
   have HO8:=hide (HO2.out.below hbe)
   have hz8:=hbe.size
   clear R1r HUr H3r H5r HO2 HBQ hbe
   go_wp2_with fail
   generalize wr.alloc (.cells #[] 3)=w8 at *
   go_loopw [6,8,9] (fun v6 v8 v9 wr=>∃(j n6:Nat) (A6:Option Addr) (c6:Nat) (A8:Option Addr) (c8:Nat),j≤n∧n6≤n+j∧v9=.int .i64 j∧v6=.slice A6 n6 c6∧v8=.slice A8 j c8∧OwE prEn wr wC.heap.size 41 A6 n6 c6 (runR up ls l j).1∧OwE Enc.int wr wC.heap.size 3 A8 j c8 (runR up ls l j).2∧Below wC.heap.size wC wr) (fun _ _ v9 _=>n - (intOf v9).toNat)
   case atStart=>exact ⟨0,n6,A6,c6,_,0,by omega,by omega,rfl,rfl,rfl,by rw [←HTL.out];exact HO8.out,HE8.out,HB8.out⟩
   case round =>
    obtain ⟨j,n6,A6,c6,A8,c8,hj,hn6,rfl,rfl,rfl,ho,ho8,hbr⟩:=hrel
    have hbsz:=hbr.size
    have HBQ:=hide hbr
    have HO2:=hide ho
    have HI2:=hide ho8
    have R1r:=hide (R1.out.on hbr)
    have HUr:=hide (HU.out.under hbr (by omega))
    have H3r:=hide (H3.out.under hbr (by omega))
    have H4r:=hide (H4.out.under hbr (by omega))
    have H5r:=hide (H5.out.under hbr (by omega))
    clear ho ho8 hbr
    by_cases hlt:j < n
    ·obtain ⟨y,hy⟩:∃y,l[j]?=some y:=⟨_,List.getElem?_eq_getElem (by have:=HN.out;omega)⟩
     obtain ⟨v,hv⟩:∃v,TV[j]?=some v:=⟨_,List.getElem?_eq_getElem (by have:=HVN.out;omega)⟩
     obtain ⟨x,hx⟩:∃x,nodAt up y.ino=x:=⟨_,rfl⟩
     obtain ⟨r,hr⟩:∃r,hasR x=r:=⟨_,rfl⟩
     obtain ⟨bW,oW,hAW,hbW,hcW⟩:=way_get H3r.out hy
     have qy:wr.cell? ⟨bW,oW+j*3,none⟩=some (.int .i64 y.ino):=hcW 0 _ rfl
     have hbWr:bW < wr.heap.size:=by have h1:bW < wT.heap.size:=hbW;omega
     obtain ⟨q,hq⟩:∃q,clmR v=q:=⟨_,rfl⟩
     have hqj:(TV.map clmR)[j]?=some q:=by rw [List.getElem?_map,hv,Option.map_some,hq]
     have HRN:=hide (show runR up ls l (j+1)=if r=true then stepR (runR up ls l j) (clR up l v j y) q else ((runR up ls l j).1,(runR up ls l j).2++[0]) from by rw [runR_succ hy (by rw [HT.out];exact hv),hx,hr,hq])
     obtain ⟨bC,oC,hAC,hbC,hc⟩:=H5r.out.2 (by omega)
     obtain ⟨cs,hR,hcs⟩:=hc j q hqj
     obtain rfl:cs=prC q:=hR
     have HCP:=hide (show ∀k v,[Value.int .i64 q.1,.int .i64 q.2][k]?=some v→wr.cell? ⟨bC,oC+j*2+k,none⟩=some v from fun k v hv=>by have h1:=hcs k v hv;rw [show prEn.k=2 from rfl,←Nat.add_assoc] at h1;exact h1)
     have hbCr:bC < wr.heap.size:=by have h1:bC < wC.heap.size:=hbC;omega
     have HX:=hide hx
     have HRB:=hide hr
     have HY:=hide hy
     have HV:=hide hv
     have HQ:=hide hq
     have hjn:(j:Int) < (n:Int):=by omega
     have hlit:=fun W=>lit_plcx q.1 q.2 W
     subst hAW hAC
     clear hy hv hx hr hq hqj hc hcs hbC hcW hbW
     go_wp2_with fail
     refine wp_region_planN (fun w'=>Below wr.heap.size wr w') [(0,true),(1,true),(2,true),(3,true),(4,true),(5,true),(6,false)] (by kernel_rfl) (by kernel_rfl) (by kernel_rfl) (by kernel_rfl) rfl (fun _ _ _ _ _ h=>h) (below_drew (below_self wr)) (fun hHeld=>?_)
     simp only [planOps,List.filterMap_cons,List.filterMap_nil,List.getElem?_toArray,List.getElem?_cons_succ,List.getElem?_cons_zero,Option.map_some]
     refine wpPlan_take (v:=?_) (by kernel_rfl) (fun wS hSw=>?_) ?_
     rotate_left
     ·refine execOp_load (x:=.tmp 1) (k:=6) (g:=w.heap.size) (off:=0) (cs:=[.int .i64 g.a,.int .i64 g.b,.int .i64 g.c,.int .i64 g.d,.slice AU nU cU,.slice AL nL cL]) ?_ stk_agg stk_size ?_ (fun j v hv=>by rw [Nat.zero_add];exact ((R1r.out.on hSw).cell j).trans hv) rfl <;> rfl
     (try simp only [Act.put,pu1,pu2,pu3])
     iterate 4
      refine wpPlan_take (v:=?_) (by kernel_rfl) (fun wS hSw=>?_) ?_
      rotate_left
      ·(try dsimp only at hSw);go_simp;(try with_reducible rfl)
      (try simp only [Act.put,pu1,pu2,pu3])
     refine wpPlan_take (v:=?_) (by kernel_rfl) (fun wS hSw=>?_) ?_
     rotate_left
     ·have qx':wS.cell? ⟨bW,oW+j*3,none⟩=some (.int .i64 y.ino):=(hSw.cell hbWr).trans qy;go_simp;(try with_reducible rfl)
     (try simp only [Act.put,pu1,pu2,pu3])
     refine wpPlan_call (by kernel_rfl) (fun K hK=>?_)
     have hOld:=hide hHeld
     clear hHeld
     go_simp
     go_at_call 27
     refine (RRedd21_b HX.out HRB.out _ (HUr.out.under hOld.out (by omega)) (by have:=hOld.out.size;omega) HFU.out).mono ?_
     rintro e w' ⟨rfl,hbel⟩
     refine hK.out _ _ (hOld.out.trans (hbel.mono hOld.out.size)) (fun hHeld=>?_)
     clear hK K
     (try simp only [Act.put,pu1,pu2,pu3])
     refine wpPlan_end ?_
     rename World=>wq
     have hzq:=hHeld.size
     have HBX:=hide (HBQ.out.trans (hHeld.mono (by have:=HBQ.out.size;omega)))
     have HO3:=hide (HO2.out.below hHeld)
     have HI3:=hide (HI2.out.below hHeld)
     have HCP3:=hide (show ∀k v,[Value.int .i64 q.1,.int .i64 q.2][k]?=some v→wq.cell? ⟨bC,oC+j*2+k,none⟩=some v from fun k v hv=>(hHeld.cell (p:=⟨bC,oC+j*2+k,none⟩) (by show bC < _;omega)).trans (HCP.out k v hv))
     have R1q:=hide (R1r.out.on hHeld)
     have HUq:=hide (HUr.out.under hHeld (by omega))
     have H3q:=hide (H3r.out.under hHeld (by omega))
     have H4q:=hide (H4r.out.under hHeld (by omega))
     clear hHeld H4r H5r HCP
     cases r with
     | false =>
      have HR1:=hide (show (runR up ls l (j+1)).1=(runR up ls l j).1 from by rw [HRN.out,if_neg (by simp)])
      have HR2:=hide (show (runR up ls l (j+1)).2=(runR up ls l j).2++[0] from by rw [HRN.out,if_neg (by simp)])
      have hlit0:=fun W=>lit_intR 0 W
      go_wp2_with (first|(at_builtin;have hba:=below_new (below_self wq) (.cells #[.int .i64 0] 3);refine wpList_append_OwK (E:=Enc.int) _ rfl (.tmp 86) (.tmp 88) 71 rfl wC.heap.size 3 (.int .i64 0) 8 Tryz.underlying71 int_infR rfl (by decide) A8 j c8 _ rfl (HI3.out.below hba) (fun b=>wq.heap.size≤b∧b < (wq.alloc (.cells #[.int .i64 0] 3)).heap.size) (some ⟨wq.heap.size,0,none⟩) 1 1 [0] rfl (enc_lit1 (E:=Enc.int) (x:=(0:Int)) (cs:=[.int .i64 0]) (fun _ _=>rfl) wq 3 (Nat.le_refl _)) (fun b hb=>⟨⟨hb.2,fun _ _ _ _=>rfl⟩,fun a ha=>(fun e=>by have h1:=hb.1;rw [e] at h1;have:=HI3.out.ltB a ha;omega)⟩) (by omega) (j+1) rfl (by omega) (by omega) (by simp;omega) ?_;intro A7 c7 w7 ho7 hb7 hg7;have HO7:=hide ho7;have HB7:=hide ((HBX.out.alloc (by omega) _).trans hb7);have HS6:=hide (own_other pr_anyR (HO3.out.below hba) (HI3.out.below hba) (by decide) hg7);clear ho7 hb7 hg7 hba))
      go_roundw
      case rel=>exact ⟨j+1,n6,A6,c6,A7,c7,by omega,by omega,by go_num,rfl,rfl,by rw [HR1.out];exact HS6.out,by rw [HR2.out];exact HO7.out,HB7.out⟩
      case measure=>simp [intOf];omega
     | true =>
      obtain ⟨c0,hc0⟩:∃c0,clR up l v j y=c0:=⟨_,rfl⟩
      have HC0:=hide hc0
      have HR1:=hide (show (runR up ls l (j+1)).1=if endR (runR up ls l j).1 c0 q=0 then (runR up ls l j).1++[q] else (runR up ls l j).1 from by rw [HRN.out,if_pos rfl,hc0];rfl)
      have HR2:=hide (show (runR up ls l (j+1)).2=(runR up ls l j).2++[endR (runR up ls l j).1 c0 q] from by rw [HRN.out,if_pos rfl,hc0];rfl)
      have hcin:=clR_in up l v j y
      rw [hc0] at hcin
      clear hc0
      obtain ⟨tk,htk⟩:∃tk,(runR up ls l j).1=tk:=⟨_,rfl⟩
      rw [htk] at HR1 HR2
      have HTKE:=hide htk
      clear htk
      go_upto_region 16 with (first|(refine wpList_loadW rfl 29 (.tmp 1) rfl 6 stk_agg stk_size (w.heap.size) 29 rfl [.int .i64 g.a,.int .i64 g.b,.int .i64 g.c,.int .i64 g.d,.slice AU nU cU,.slice AL nL cL] R1q.out rfl ?_)|(go_at_call 48;refine (RefClause_any HY.out HX.out HV.out HC0.out (clm_zero (HPO.out v (List.mem_of_getElem? HV.out))) (up_oneR HWS.out HY.out) hn24 wq H3q.out (by omega) H4q.out (by omega) HUq.out (by omega) HFU.out).mono ?_;rintro e4 wk ⟨rfl,hbel⟩;have hzk:=hbel.size;replace HBX:=hide (HBX.out.trans (hbel.mono (by have:=HBX.out.size;omega)));replace HO3:=hide (HO3.out.below hbel);replace HI3:=hide (HI3.out.below hbel);have HCP4:=hide (show ∀k v,[Value.int .i64 q.1,.int .i64 q.2][k]?=some v→wk.cell? ⟨bC,oC+j*2+k,none⟩=some v from fun k v hv=>(hbel.cell (p:=⟨bC,oC+j*2+k,none⟩) (by show bC < _;omega)).trans (HCP3.out k v hv));clear hbel R1q HUq H3q H4q HCP3))
      have HTQ:=hide (show OwE prEn wk wC.heap.size 41 A6 n6 c6 tk from by rw [←HTKE.out];exact HO3.out)
      have qc0:wk.cell? ⟨bC,oC+j*2,none⟩=some (.int .i64 q.1):=HCP4.out 0 _ rfl
      have qc1:wk.cell? ⟨bC,oC+j*2+1,none⟩=some (.int .i64 q.2):=HCP4.out 1 _ rfl
      by_cases hc0:c0=0
      ·subst hc0
       obtain ⟨z,hz⟩:∃z,decide ((q.1,q.2)=((0:Int),(0:Int)))=z:=⟨_,rfl⟩
       have hneq:=fun W=>neq_plcR hz W
       have HZ:=hide hz
       clear hz
       cases z with
       | true =>
        have HEE:=hide (show endR tk 0 q=0 from by unfold endR;rw [if_neg (fun h=>h.2.1 (by have:=of_decide_eq_true HZ.out;exact this))])
        have HR1a:=hide (show (runR up ls l (j+1)).1=(runR up ls l j).1++[(q.1,q.2)] from by rw [HR1.out,HTKE.out,if_pos HEE.out])
        have HR2a:=hide (show (runR up ls l (j+1)).2=(runR up ls l j).2++[0] from by rw [HR2.out,HEE.out])
        have hlit0:=fun W=>lit_intR 0 W
        clear HR1 HR2 HEE
        go_wp2_with (first|(refine wpList_loadX rfl 41 (.tmp 82) rfl 2 plc_agg plc_size bC (oC+j*2) rfl [.int .i64 q.1,.int .i64 q.2] HCP4.out rfl ?_)|(at_builtin;have hba:=below_new (below_self wk) (.cells #[.int .i64 q.1,.int .i64 q.2] 41);refine wpList_append_OwK (E:=prEn) _ rfl (.tmp 79) (.tmp 84) 39 rfl wC.heap.size 41 zpr 16 Tryz.underlying39 plc_info rfl (by decide) A6 n6 c6 _ rfl (HO3.out.below hba) (fun b=>wk.heap.size≤b∧b < (wk.alloc (.cells #[.int .i64 q.1,.int .i64 q.2] 41)).heap.size) (some ⟨wk.heap.size,0,none⟩) 1 1 [(q.1,q.2)] rfl (enc_lit1 (E:=prEn) (x:=(q.1,q.2)) (cs:=[.int .i64 q.1,.int .i64 q.2]) (fun _ _=>rfl) wk 41 (Nat.le_refl _)) (fun b hb=>⟨⟨hb.2,fun _ _ _ _=>rfl⟩,fun a ha=>(fun e=>by have h1:=hb.1;rw [e] at h1;have:=HO3.out.ltB a ha;omega)⟩) (by omega) (n6+1) rfl (by omega) (by omega) (by simp;omega) ?_;intro A9 c9 w9 ho9 hb9 hg9;have HO9:=hide ho9;have HB9:=hide ((HBX.out.alloc (by omega) _).trans hb9);have HI9:=hide (own_other int_anyR (HI3.out.below hba) (HO3.out.below hba) (by decide) hg9);have hz9:=HB9.out.size;clear ho9 hb9 hg9 hba)|(at_builtin;have hba:=below_new (below_self w9) (.cells #[.int .i64 0] 3);refine wpList_append_OwK (E:=Enc.int) _ rfl (.tmp 86) (.tmp 88) 71 rfl wC.heap.size 3 (.int .i64 0) 8 Tryz.underlying71 int_infR rfl (by decide) A8 j c8 _ rfl (HI9.out.below hba) (fun b=>w9.heap.size≤b∧b < (w9.alloc (.cells #[.int .i64 0] 3)).heap.size) (some ⟨w9.heap.size,0,none⟩) 1 1 [0] rfl (enc_lit1 (E:=Enc.int) (x:=(0:Int)) (cs:=[.int .i64 0]) (fun _ _=>rfl) w9 3 (Nat.le_refl _)) (fun b hb=>⟨⟨hb.2,fun _ _ _ _=>rfl⟩,fun a ha=>(fun e=>by have h1:=hb.1;rw [e] at h1;have:=HI9.out.ltB a ha;omega)⟩) (by omega) (j+1) rfl (by omega) (by omega) (by simp;omega) ?_;intro A7 c7 w7 ho7 hb7 hg7;have HO7:=hide ho7;have HB7:=hide ((HB9.out.alloc (by omega) _).trans hb7);have HS6:=hide (own_other pr_anyR (HO9.out.below hba) (HI9.out.below hba) (by decide) hg7);clear ho7 hb7 hg7 hba))
        go_roundw
        case rel=>exact ⟨j+1,n6+1,A9,c9,A7,c7,by omega,by omega,by go_num,rfl,rfl,by rw [HR1a.out];exact HS6.out,by rw [HR2a.out];exact HO7.out,HB7.out⟩
        case measure=>simp [intOf];omega
       | false =>
        obtain ⟨b,hb⟩:∃b,decide (q∈tk)=b:=⟨_,rfl⟩
        have HBB:=hide hb
        clear hb
        have hqz:q≠(0,0):=fun e=>(of_decide_eq_false HZ.out) e
        cases b with
        | true =>
         have HEE:=hide (show endR tk 0 q=12 from by unfold endR;rw [if_pos ⟨rfl,hqz,of_decide_eq_true HBB.out⟩])
         have HR1a:=hide (show (runR up ls l (j+1)).1=(runR up ls l j).1 from by rw [HR1.out,HTKE.out,if_neg (by rw [HEE.out];omega)])
         have HR2a:=hide (show (runR up ls l (j+1)).2=(runR up ls l j).2++[12] from by rw [HR2.out,HEE.out])
         have hlit0:=fun W=>lit_intR 12 W
         clear HR1 HR2 HEE
         go_wp2_with (first|(go_at_call 49;refine (RIn21_b (q:=q) HBB.out wk ((HTQ.out.rd rfl).plain) (Nat.le_refl _) (by omega)).mono ?_;rintro e5 wn ⟨rfl,hbel⟩;have hzn:=hbel.size;replace HBX:=hide (HBX.out.trans (hbel.mono (by have:=HBX.out.size;omega)));replace HO3:=hide (HO3.out.below hbel);replace HI3:=hide (HI3.out.below hbel);replace HCP4:=hide (show ∀k v,[Value.int .i64 q.1,.int .i64 q.2][k]?=some v→wn.cell? ⟨bC,oC+j*2+k,none⟩=some v from fun k v hv=>(hbel.cell (p:=⟨bC,oC+j*2+k,none⟩) (by show bC < _;omega)).trans (HCP4.out k v hv));clear hbel qc0 qc1)|(at_builtin;have hba:=below_new (below_self wn) (.cells #[.int .i64 12] 3);refine wpList_append_OwK (E:=Enc.int) _ rfl (.tmp 86) (.tmp 88) 71 rfl wC.heap.size 3 (.int .i64 0) 8 Tryz.underlying71 int_infR rfl (by decide) A8 j c8 _ rfl (HI3.out.below hba) (fun b=>wn.heap.size≤b∧b < (wn.alloc (.cells #[.int .i64 12] 3)).heap.size) (some ⟨wn.heap.size,0,none⟩) 1 1 [12] rfl (enc_lit1 (E:=Enc.int) (x:=(12:Int)) (cs:=[.int .i64 12]) (fun _ _=>rfl) wn 3 (Nat.le_refl _)) (fun b hb=>⟨⟨hb.2,fun _ _ _ _=>rfl⟩,fun a ha=>(fun e=>by have h1:=hb.1;rw [e] at h1;have:=HI3.out.ltB a ha;omega)⟩) (by omega) (j+1) rfl (by omega) (by omega) (by simp;omega) ?_;intro A7 c7 w7 ho7 hb7 hg7;have HO7:=hide ho7;have HB7:=hide ((HBX.out.alloc (by omega) _).trans hb7);have HS6:=hide (own_other pr_anyR (HO3.out.below hba) (HI3.out.below hba) (by decide) hg7);clear ho7 hb7 hg7 hba))
         go_roundw
         case rel=>exact ⟨j+1,n6,A6,c6,A7,c7,by omega,by omega,by go_num,rfl,rfl,by rw [HR1a.out];exact HS6.out,by rw [HR2a.out];exact HO7.out,HB7.out⟩
         case measure=>simp [intOf];omega
        | false =>
         have HEE:=hide (show endR tk 0 q=0 from by unfold endR;rw [if_neg (fun h=>of_decide_eq_false HBB.out h.2.2)])
         have HR1a:=hide (show (runR up ls l (j+1)).1=(runR up ls l j).1++[(q.1,q.2)] from by rw [HR1.out,HTKE.out,if_pos HEE.out])
         have HR2a:=hide (show (runR up ls l (j+1)).2=(runR up ls l j).2++[0] from by rw [HR2.out,HEE.out])
         have hlit0:=fun W=>lit_intR 0 W
         clear HR1 HR2 HEE
         go_wp2_with (first|(go_at_call 49;refine (RIn21_b (q:=q) HBB.out wk ((HTQ.out.rd rfl).plain) (Nat.le_refl _) (by omega)).mono ?_;rintro e5 wn ⟨rfl,hbel⟩;have hzn:=hbel.size;replace HBX:=hide (HBX.out.trans (hbel.mono (by have:=HBX.out.size;omega)));replace HO3:=hide (HO3.out.below hbel);replace HI3:=hide (HI3.out.below hbel);replace HCP4:=hide (show ∀k v,[Value.int .i64 q.1,.int .i64 q.2][k]?=some v→wn.cell? ⟨bC,oC+j*2+k,none⟩=some v from fun k v hv=>(hbel.cell (p:=⟨bC,oC+j*2+k,none⟩) (by show bC < _;omega)).trans (HCP4.out k v hv));clear hbel qc0 qc1)|(refine wpList_loadX rfl 41 (.tmp 82) rfl 2 plc_agg plc_size bC (oC+j*2) rfl [.int .i64 q.1,.int .i64 q.2] HCP4.out rfl ?_)|(at_builtin;have hba:=below_new (below_self wn) (.cells #[.int .i64 q.1,.int .i64 q.2] 41);refine wpList_append_OwK (E:=prEn) _ rfl (.tmp 79) (.tmp 84) 39 rfl wC.heap.size 41 zpr 16 Tryz.underlying39 plc_info rfl (by decide) A6 n6 c6 _ rfl (HO3.out.below hba) (fun b=>wn.heap.size≤b∧b < (wn.alloc (.cells #[.int .i64 q.1,.int .i64 q.2] 41)).heap.size) (some ⟨wn.heap.size,0,none⟩) 1 1 [(q.1,q.2)] rfl (enc_lit1 (E:=prEn) (x:=(q.1,q.2)) (cs:=[.int .i64 q.1,.int .i64 q.2]) (fun _ _=>rfl) wn 41 (Nat.le_refl _)) (fun b hb=>⟨⟨hb.2,fun _ _ _ _=>rfl⟩,fun a ha=>(fun e=>by have h1:=hb.1;rw [e] at h1;have:=HO3.out.ltB a ha;omega)⟩) (by omega) (n6+1) rfl (by omega) (by omega) (by simp;omega) ?_;intro A9 c9 w9 ho9 hb9 hg9;have HO9:=hide ho9;have HB9:=hide ((HBX.out.alloc (by omega) _).trans hb9);have HI9:=hide (own_other int_anyR (HI3.out.below hba) (HO3.out.below hba) (by decide) hg9);have hz9:=HB9.out.size;clear ho9 hb9 hg9 hba)|(at_builtin;have hba:=below_new (below_self w9) (.cells #[.int .i64 0] 3);refine wpList_append_OwK (E:=Enc.int) _ rfl (.tmp 86) (.tmp 88) 71 rfl wC.heap.size 3 (.int .i64 0) 8 Tryz.underlying71 int_infR rfl (by decide) A8 j c8 _ rfl (HI9.out.below hba) (fun b=>w9.heap.size≤b∧b < (w9.alloc (.cells #[.int .i64 0] 3)).heap.size) (some ⟨w9.heap.size,0,none⟩) 1 1 [0] rfl (enc_lit1 (E:=Enc.int) (x:=(0:Int)) (cs:=[.int .i64 0]) (fun _ _=>rfl) w9 3 (Nat.le_refl _)) (fun b hb=>⟨⟨hb.2,fun _ _ _ _=>rfl⟩,fun a ha=>(fun e=>by have h1:=hb.1;rw [e] at h1;have:=HI9.out.ltB a ha;omega)⟩) (by omega) (j+1) rfl (by omega) (by omega) (by simp;omega) ?_;intro A7 c7 w7 ho7 hb7 hg7;have HO7:=hide ho7;have HB7:=hide ((HB9.out.alloc (by omega) _).trans hb7);have HS6:=hide (own_other pr_anyR (HO9.out.below hba) (HI9.out.below hba) (by decide) hg7);clear ho7 hb7 hg7 hba))
         go_roundw
         case rel=>exact ⟨j+1,n6+1,A9,c9,A7,c7,by omega,by omega,by go_num,rfl,rfl,by rw [HR1a.out];exact HS6.out,by rw [HR2a.out];exact HO7.out,HB7.out⟩
         case measure=>simp [intOf];omega
      ·have hcd:decide (c0=0)=false:=decide_eq_false hc0
       have hcb:(c0==0)=false:=by simpa using hc0
       have HEE:=hide (show endR tk c0 q=c0 from by unfold endR;rw [if_neg (fun h=>hc0 h.1)])
       have HR1a:=hide (show (runR up ls l (j+1)).1=(runR up ls l j).1 from by rw [HR1.out,HTKE.out,if_neg (by rw [HEE.out];omega)])
       have HR2a:=hide (show (runR up ls l (j+1)).2=(runR up ls l j).2++[c0] from by rw [HR2.out,HEE.out])
       have hlit0:=fun W=>lit_intR c0 W
       clear HR1 HR2 HEE
       go_wp2_with (first|(at_builtin;have hba:=below_new (below_self wk) (.cells #[.int .i64 c0] 3);refine wpList_append_OwK (E:=Enc.int) _ rfl (.tmp 86) (.tmp 88) 71 rfl wC.heap.size 3 (.int .i64 0) 8 Tryz.underlying71 int_infR rfl (by decide) A8 j c8 _ rfl (HI3.out.below hba) (fun b=>wk.heap.size≤b∧b < (wk.alloc (.cells #[.int .i64 c0] 3)).heap.size) (some ⟨wk.heap.size,0,none⟩) 1 1 [c0] rfl (enc_lit1 (E:=Enc.int) (x:=(c0:Int)) (cs:=[.int .i64 c0]) (fun _ _=>rfl) wk 3 (Nat.le_refl _)) (fun b hb=>⟨⟨hb.2,fun _ _ _ _=>rfl⟩,fun a ha=>(fun e=>by have h1:=hb.1;rw [e] at h1;have:=HI3.out.ltB a ha;omega)⟩) (by omega) (j+1) rfl (by omega) (by omega) (by simp;omega) ?_;intro A7 c7 w7 ho7 hb7 hg7;have HO7:=hide ho7;have HB7:=hide ((HBX.out.alloc (by omega) _).trans hb7);have HS6:=hide (own_other pr_anyR (HO3.out.below hba) (HI3.out.below hba) (by decide) hg7);clear ho7 hb7 hg7 hba))
       go_roundw
       case rel=>exact ⟨j+1,n6,A6,c6,A7,c7,by omega,by omega,by go_num,rfl,rfl,by rw [HR1a.out];exact HS6.out,by rw [HR2a.out];exact HO7.out,HB7.out⟩
       case measure=>simp [intOf];omega
    ·obtain rfl:n=j:=by omega
     have hjn:¬((n:Int) < (n:Int)):=by omega
     have HR:=hide ((HI2.out.rd rfl).plain)
     have HFIN:=hide (HB.out.trans (HBQ.out.mono (by have:=HB.out.size;omega)))
     clear HO2 HI2
     go_wp2_with fail
     go_ret
     exact ⟨A8,⟨c8,rfl⟩,by rw [HN.out];exact HR.out,HFIN.out⟩
end Go.Proofs.YtnhegahpfacdgaaGreat

