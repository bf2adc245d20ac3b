import Derived.Test.YtggnbflbbfdohaaGreatRo33
import Derived.Test.YtggnbflbbfdohaaGreatRo32

namespace Go.Proofs.YtggnbflbbfdohaaGreat
open Go.RowKit Go.Shelf Plain Go.Maps

theorem path_len (l:List WayV) (i:Int):(pathS l i).length≤l.length:=by
 have h:=upsF_len l l.length i
 unfold pathS
 rw [List.length_reverse]
 exact h

set_option maxRecDepth 100000 in
set_option maxHeartbeats 8000000 in
theorem Clause_any {g:GeoQ} {AU AL AW AC:Option Addr} {nU cU nL cL n cW cC B lo hi gT bM cM:Nat} {up:List NodV} {l:List WayV} {cl:List (Int×Int)} {f:Int×Int→Bool} {i:Nat} {v:ViewV} {y:WayV} {x:NodV} {q:Int×Int} {c0:Int} {ft:Bool} (hy:l[i]?=some y) (hx:nodAt up y.ino=x) (hq:cl[i]?=some q) (hv:clmR v=q) (hc0:clR up l v i y=c0) (hqi:i64 q.1∧i64 q.2) (hft:f q=ft) (hn:n≤24) (w:World) (ht:TrQ w lo hi gT bM cM g AU AL AW AC nU cU nL cL n cW cC l cl f) (hu:RdE nodEn w (Under B) AU nU up) (hB:B≤w.heap.size) (hup:FewU up):Calls Tryz.prog 86 #[.pointer (some ⟨gT,0,none⟩),.int .i64 i] w (fun e w'=>e=.returned (.int .i64 (if c0=0∧ft=true then 12 else c0))∧Below w.heap.size w w'):=by
 have HB:=hide (below_self w)
 have HY:=hide hy
 have HX:=hide hx
 have HV:=hide hv
 have HC0:=hide hc0
 have HQI:=hide hqi
 have HFT:=hide hft
 have HU:=hide hu
 have HFU:=hide hup
 have hxp:PlainN x:=by rw [←hx];exact nodAt_plain hup.2 _
 have HXP:=hide hxp
 have hil:i < n:=by have h1:=(List.getElem?_eq_some_iff.1 hy).1;have h2:=ht.ways.1;omega
 obtain ⟨bC,oC,rfl,hbC,hc⟩:=ht.clms.2 (by omega)
 obtain ⟨cs,hR,hcs⟩:=hc i q hq
 obtain rfl:cs=prC q:=hR
 have hcq:∀j v,[Value.int .i64 q.1,.int .i64 q.2][j]?=some v→w.cell? ⟨bC,oC+i*2+j,none⟩=some v:=fun j v hv=>by have h1:=hcs j v hv;rw [show prEn.k=2 from rfl,←Nat.add_assoc] at h1;exact h1
 have hbCl:bC < w.heap.size:=Nat.lt_of_lt_of_le hbC.2.1 ht.hiw
 obtain ⟨bW,oW,rfl,hbW,hcW⟩:=way_get ht.ways hy
 have hci:w.cell? ⟨bW,oW+i*3,none⟩=some (.int .i64 y.ino):=hcW 0 _ rfl
 have hbWl:bW < w.heap.size:=Nat.lt_of_lt_of_le hbW.2.1 ht.hiw
 have HCQ:=hide hcq
 have HCI:=hide hci
 have HT:=hide ht
 have hsz0:w.heap.size≤w.heap.size:=Nat.le_refl _
 have hin:(i:Int) < (n:Int):=by omega
 obtain ⟨rl,hrl⟩:∃rl,redL x.att.r=rl:=⟨_,rfl⟩
 obtain ⟨ra,hra⟩:∃ra,redA x.att.r=ra:=⟨_,rfl⟩
 obtain ⟨rb,hrb⟩:∃rb,redB x.att.r=rb:=⟨_,rfl⟩
 have HRD:=hide (fun W=>PRed_of hrl hra hrb W (by have:=hxp.2.2.2.2.2.1;omega))
 have HRB:=hide hrb
 have hloop:∃b2,loopR (pathS l (i:Int)) x.att.r=b2:=⟨_,rfl⟩
 obtain ⟨b2,hb2⟩:=hloop
 have HB2:=hide hb2
 obtain ⟨ob,hob⟩:∃ob,opqD x=ob:=⟨_,rfl⟩
 have HOB:=hide hob
 have hcl:clR up l v i y=if y.ino=1∨rb=false then 9 else if b2=true then 10 else if q=(0,0)∧ob=false then 11 else 0:=by
  unfold clR
  rw [hx,hrb,hb2,hob,hv]
 rw [hc0] at hcl
 have HCL:=hide hcl
 clear hy hx hv hc0 hqi hft hq hc hcs hbC hcq hcW hci hbW ht hu hup hrl hra hrb hb2 hob hcl hxp
 go_enter Tryz.func86,Tryz.ntmps86
 go_wp2_with (first|(go_at_call 84;refine (Node21_any HY.out HX.out w HT.out HU.out (by omega) HFU.out).mono ?_;rintro e1 wN ⟨Ad,nd,kd,Ce,me,de,rfl,-,-,-,-,hbel⟩;replace HB:=hide (HB.out.trans (hbel.mono HB.out.size));replace HT:=hide (HT.out.on hbel);replace HU:=hide (HU.out.under hbel (by omega));replace HCQ:=hide ((fun j v hv=>(hbel.cell (p:=⟨bC,oC+i*2+j,none⟩) (by show bC < _;omega)).trans (HCQ.out j v hv)));replace HCI:=hide ((hbel.cell (p:=⟨bW,oW+i*3,none⟩) (by show bW < _;omega)).trans HCI.out);have hsz2:=hbel.size;clear hbel)|(refine wpList_storeW rfl 65 (.tmp 5) (.tmp 14) rfl 13 nod_size (wN.heap.size) 65 rfl (nodC nod0 (.slice none 0 0) (.slice none 0 0)) (nodC x (.slice Ad nd kd) (.slice Ce me de)) rfl (RowL.new wN 65 (nodC nod0 (.slice none 0 0) (.slice none 0 0))) rfl rfl (nodC_one _ _ _ _ _ _ _) ?_;intro wS3 hr3 hg3 hs3;have hzb:=below_stored' hg3;replace HB:=hide (HB.out.trans (hzb.mono HB.out.size));replace HT:=hide (HT.out.on hzb);replace HU:=hide (HU.out.under hzb (by omega));replace HCQ:=hide ((fun j v hv=>(hzb.cell (p:=⟨bC,oC+i*2+j,none⟩) (by show bC < _;omega)).trans (HCQ.out j v hv)));replace HCI:=hide ((hzb.cell (p:=⟨bW,oW+i*3,none⟩) (by show bW < _;omega)).trans HCI.out);have hsz4:=hzb.size;have R5:=hide hr3;have hlt3:=hr3.lt;have q5_8:wS3.cell? ⟨wN.heap.size,8,none⟩=some (.string ⟨x.att.r.toArray⟩):=R5.out.cell 8;have q5_0:wS3.cell? ⟨wN.heap.size,0,none⟩=some (.int .i64 x.k):=R5.out.cell 0;have q5_1:wS3.cell? ⟨wN.heap.size,1,none⟩=some (.int .i64 x.p):=R5.out.cell 1;have q5_2:wS3.cell? ⟨wN.heap.size,2,none⟩=some (.int .i64 x.n):=R5.out.cell 2;have q5_3:wS3.cell? ⟨wN.heap.size,3,none⟩=some (.int .i64 x.g):=R5.out.cell 3;have q5_4:wS3.cell? ⟨wN.heap.size,4,none⟩=some (.slice Ad nd kd):=R5.out.cell 4;have q5_5:wS3.cell? ⟨wN.heap.size,5,none⟩=some (.slice Ce me de):=R5.out.cell 5;have q5_6:wS3.cell? ⟨wN.heap.size,6,none⟩=some (.int .i64 x.att.h):=R5.out.cell 6;have q5_7:wS3.cell? ⟨wN.heap.size,7,none⟩=some (.int .i64 x.att.o):=R5.out.cell 7;have q5_9:wS3.cell? ⟨wN.heap.size,9,none⟩=some (.int .i64 x.att.l):=R5.out.cell 9;have q5_10:wS3.cell? ⟨wN.heap.size,10,none⟩=some (.int .i64 x.att.i):=R5.out.cell 10;have q5_11:wS3.cell? ⟨wN.heap.size,11,none⟩=some (.int .i64 x.att.g):=R5.out.cell 11;have q5_12:wS3.cell? ⟨wN.heap.size,12,none⟩=some (.int .i64 x.att.s):=R5.out.cell 12;clear hzb hr3;clear hg3 hs3))
 refine (HRD.out _).mono ?_
 rintro e3 w3 ⟨AN,nN,cN,rfl,-,hbel3⟩
 clear q5_8 q5_0 q5_1 q5_2 q5_3 q5_4 q5_5 q5_6 q5_7 q5_9 q5_10 q5_11 q5_12
 replace HB:=hide (HB.out.trans (hbel3.mono HB.out.size))
 replace HT:=hide (HT.out.on hbel3)
 replace HU:=hide (HU.out.under hbel3 (by omega))
 replace HCQ:=hide ((fun j v hv=>(hbel3.cell (p:=⟨bC,oC+i*2+j,none⟩) (by show bC < _;omega)).trans (HCQ.out j v hv)))
 replace HCI:=hide ((hbel3.cell (p:=⟨bW,oW+i*3,none⟩) (by show bW < _;omega)).trans HCI.out)
 replace R5:=hide (R5.out.on hbel3)
 have hsz5:=hbel3.size
 have q5_8:w3.cell? ⟨wN.heap.size,8,none⟩=some (.string ⟨x.att.r.toArray⟩):=R5.out.cell 8
 have q5_0:w3.cell? ⟨wN.heap.size,0,none⟩=some (.int .i64 x.k):=R5.out.cell 0
 have q5_1:w3.cell? ⟨wN.heap.size,1,none⟩=some (.int .i64 x.p):=R5.out.cell 1
 have q5_2:w3.cell? ⟨wN.heap.size,2,none⟩=some (.int .i64 x.n):=R5.out.cell 2
 have q5_3:w3.cell? ⟨wN.heap.size,3,none⟩=some (.int .i64 x.g):=R5.out.cell 3
 have q5_4:w3.cell? ⟨wN.heap.size,4,none⟩=some (.slice Ad nd kd):=R5.out.cell 4
 have q5_5:w3.cell? ⟨wN.heap.size,5,none⟩=some (.slice Ce me de):=R5.out.cell 5
 have q5_6:w3.cell? ⟨wN.heap.size,6,none⟩=some (.int .i64 x.att.h):=R5.out.cell 6
 have q5_7:w3.cell? ⟨wN.heap.size,7,none⟩=some (.int .i64 x.att.o):=R5.out.cell 7
 have q5_9:w3.cell? ⟨wN.heap.size,9,none⟩=some (.int .i64 x.att.l):=R5.out.cell 9
 have q5_10:w3.cell? ⟨wN.heap.size,10,none⟩=some (.int .i64 x.att.i):=R5.out.cell 10
 have q5_11:w3.cell? ⟨wN.heap.size,11,none⟩=some (.int .i64 x.att.g):=R5.out.cell 11
 have q5_12:w3.cell? ⟨wN.heap.size,12,none⟩=some (.int .i64 x.att.s):=R5.out.cell 12
 clear hbel3
 go_wp2_with fail
 refine wp_region_planN (fun w'=>Below w3.heap.size w3 w') [(0,true),(1,true),(2,true),(3,true),(4,true),(5,true),(6,true),(7,true),(8,true),(9,true),(10,true),(11,true),(12,true),(13,true),(14,true),(15,false),(16,false),(17,true)] (by kernel_rfl) (by kernel_rfl) (by kernel_rfl) (by kernel_rfl) rfl (fun _ _ _ _ _ h=>h) (below_drew (below_self w3)) (fun hHeld=>?_)
 simp only [planOps,List.filterMap_cons,List.filterMap_nil,List.getElem?_toArray,List.getElem?_cons_succ,List.getElem?_cons_zero,Option.map_some]
 iterate 3
  refine wpPlan_take (v:=?_) (by kernel_rfl) (fun wS hSw=>?_) ?_
  rotate_left
  ·(try dsimp only at hSw);go_simp;(try with_reducible rfl)
  (try simp only [Act.put,pu1,pu2,pu3])
 refine wpPlan_take (v:=?_) (by kernel_rfl) (fun wS hSw=>?_) ?_
 rotate_left
 ·have qx:=((HT.out.row.on hSw).cell 8).trans (show (trC g (.slice AU nU cU) (.slice AL nL cL) (.slice (some ⟨bW,oW,none⟩) n cW) (.slice (some ⟨bC,oC,none⟩) n cC) (.map (some bM)))[8]?=some (.map (some bM)) from rfl);go_simp;(try with_reducible rfl)
 (try simp only [Act.put,pu1,pu2,pu3])
 iterate 3
  refine wpPlan_take (v:=?_) (by kernel_rfl) (fun wS hSw=>?_) ?_
  rotate_left
  ·(try dsimp only at hSw);go_simp;(try with_reducible rfl)
  (try simp only [Act.put,pu1,pu2,pu3])
 refine wpPlan_take (v:=?_) (by kernel_rfl) (fun wS hSw=>?_) ?_
 rotate_left
 ·have qx:=((HT.out.row.on hSw).cell 7).trans (show (trC g (.slice AU nU cU) (.slice AL nL cL) (.slice (some ⟨bW,oW,none⟩) n cW) (.slice (some ⟨bC,oC,none⟩) n cC) (.map (some bM)))[7]?=some (.slice (some ⟨bC,oC,none⟩) n cC) from rfl);go_simp;(try with_reducible rfl)
 (try simp only [Act.put,pu1,pu2,pu3])
 iterate 2
  refine wpPlan_take (v:=?_) (by kernel_rfl) (fun wS hSw=>?_) ?_
  rotate_left
  ·(try dsimp only at hSw);go_simp;(try with_reducible rfl)
  (try simp only [Act.put,pu1,pu2,pu3])
 refine wpPlan_take (v:=?_) (by kernel_rfl) (fun wS hSw=>?_) ?_
 rotate_left
 ·refine execOp_load (x:=.tmp 34) (k:=2) (g:=bC) (off:=oC+i*2) (cs:=[.int .i64 q.1,.int .i64 q.2]) ?_ plc_agg plc_size ?_ (fun j v hv=>(hSw.cell (by show bC < _;omega)).trans (HCQ.out j v hv)) rfl <;> rfl
 (try simp only [Act.put,pu1,pu2,pu3])
 refine wpPlan_take (v:=?_) (by kernel_rfl) (fun wS hSw=>?_) ?_
 rotate_left
 ·have qx:=(HT.out.set.on hSw).look HQI.out.1 HQI.out.2;rw [HFT.out] at qx;(try dsimp only at hSw);go_simp;(try with_reducible rfl)
 (try simp only [Act.put,pu1,pu2,pu3])
 iterate 3
  refine wpPlan_take (v:=?_) (by kernel_rfl) (fun wS hSw=>?_) ?_
  rotate_left
  ·(try dsimp only at hSw);go_simp;(try with_reducible rfl)
  (try simp only [Act.put,pu1,pu2,pu3])
 refine wpPlan_call (by kernel_rfl) (fun K hK=>?_)
 have hOld:=hide hHeld
 clear hHeld
 unfold Oper.wp execOp
 go_simp
 refine hK.out _ _ (hOld.out.alloc hOld.out.size _) (fun hHeld=>?_)
 clear hK K
 (try simp only [Act.put,pu1,pu2,pu3])
 refine wpPlan_call (by kernel_rfl) (fun K hK=>?_)
 have hOld:=hide hHeld
 clear hHeld
 unfold Oper.wp execOp
 go_simp
 refine hK.out _ _ (hOld.out) (fun hHeld=>?_)
 clear hK K
 (try simp only [Act.put,pu1,pu2,pu3])
 refine wpPlan_take (v:=?_) (by kernel_rfl) (fun wS hSw=>?_) ?_
 rotate_left
 ·(try dsimp only at hSw);go_simp;(try with_reducible rfl)
 (try simp only [Act.put,pu1,pu2,pu3])
 refine wpPlan_end ?_
 generalize (w3.alloc (Obj.cells #[] 132)).drew=w5 at hHeld ⊢
 clear q5_8 q5_0 q5_1 q5_2 q5_3 q5_4 q5_5 q5_6 q5_7 q5_9 q5_10 q5_11 q5_12
 replace HB:=hide (HB.out.trans (hHeld.mono HB.out.size))
 replace HT:=hide (HT.out.on hHeld)
 replace HU:=hide (HU.out.under hHeld (by omega))
 replace HCQ:=hide ((fun j v hv=>(hHeld.cell (p:=⟨bC,oC+i*2+j,none⟩) (by show bC < _;omega)).trans (HCQ.out j v hv)))
 replace HCI:=hide ((hHeld.cell (p:=⟨bW,oW+i*3,none⟩) (by show bW < _;omega)).trans HCI.out)
 replace R5:=hide (R5.out.on hHeld)
 have hsz6:=hHeld.size
 have q5_8:w5.cell? ⟨wN.heap.size,8,none⟩=some (.string ⟨x.att.r.toArray⟩):=R5.out.cell 8
 have q5_0:w5.cell? ⟨wN.heap.size,0,none⟩=some (.int .i64 x.k):=R5.out.cell 0
 have q5_1:w5.cell? ⟨wN.heap.size,1,none⟩=some (.int .i64 x.p):=R5.out.cell 1
 have q5_2:w5.cell? ⟨wN.heap.size,2,none⟩=some (.int .i64 x.n):=R5.out.cell 2
 have q5_3:w5.cell? ⟨wN.heap.size,3,none⟩=some (.int .i64 x.g):=R5.out.cell 3
 have q5_4:w5.cell? ⟨wN.heap.size,4,none⟩=some (.slice Ad nd kd):=R5.out.cell 4
 have q5_5:w5.cell? ⟨wN.heap.size,5,none⟩=some (.slice Ce me de):=R5.out.cell 5
 have q5_6:w5.cell? ⟨wN.heap.size,6,none⟩=some (.int .i64 x.att.h):=R5.out.cell 6
 have q5_7:w5.cell? ⟨wN.heap.size,7,none⟩=some (.int .i64 x.att.o):=R5.out.cell 7
 have q5_9:w5.cell? ⟨wN.heap.size,9,none⟩=some (.int .i64 x.att.l):=R5.out.cell 9
 have q5_10:w5.cell? ⟨wN.heap.size,10,none⟩=some (.int .i64 x.att.i):=R5.out.cell 10
 have q5_11:w5.cell? ⟨wN.heap.size,11,none⟩=some (.int .i64 x.att.g):=R5.out.cell 11
 have q5_12:w5.cell? ⟨wN.heap.size,12,none⟩=some (.int .i64 x.att.s):=R5.out.cell 12
 clear hHeld
 have qT6:w5.cell? ⟨gT,6,none⟩=some (.slice (some ⟨bW,oW,none⟩) n cW):=HT.out.row.cell 6
 have qT7:w5.cell? ⟨gT,7,none⟩=some (.slice (some ⟨bC,oC,none⟩) n cC):=HT.out.row.cell 7
 have qI:=HCI.out
 by_cases hy1:y.ino=1
 ·have hc9:c0=9:=by rw [HCL.out,if_pos (.inl hy1)]
  subst hc9
  go_wp2_with fail
  go_ret
  exact ⟨by simp,HB.out⟩
 cases rb with
 | false =>
  have hc9:c0=9:=by rw [HCL.out,if_pos (.inr rfl)]
  subst hc9
  go_wp2_with fail
  go_ret
  exact ⟨by simp,HB.out⟩
 | true =>
  have hcl2:c0=if b2=true then 10 else if q=(0,0)∧ob=false then 11 else 0:=by rw [HCL.out,if_neg (by simp [hy1])]
  have HCL2:=hide hcl2
  clear hcl2
  go_wp2_with (first|(go_at_call 118;refine (Path_any w5 (RdE.mono HT.out.ways (fun _ _=>rfl) (fun b hb=>Nat.lt_of_lt_of_le hb.2.1 HT.out.hiw)) (by omega)).mono ?_;rintro e6 w6 ⟨AP,cP,rfl,hop,hbel6⟩;have HOP:=hide hop;clear hop))
  clear q5_8 q5_0 q5_1 q5_2 q5_3 q5_4 q5_5 q5_6 q5_7 q5_9 q5_10 q5_11 q5_12
  replace HB:=hide (HB.out.trans (hbel6.mono HB.out.size))
  replace HT:=hide (HT.out.on hbel6)
  replace HU:=hide (HU.out.under hbel6 (by omega))
  replace HCQ:=hide ((fun j v hv=>(hbel6.cell (p:=⟨bC,oC+i*2+j,none⟩) (by show bC < _;omega)).trans (HCQ.out j v hv)))
  replace HCI:=hide ((hbel6.cell (p:=⟨bW,oW+i*3,none⟩) (by show bW < _;omega)).trans HCI.out)
  replace R5:=hide (R5.out.on hbel6)
  have hsz7:=hbel6.size
  have q5_8:w6.cell? ⟨wN.heap.size,8,none⟩=some (.string ⟨x.att.r.toArray⟩):=R5.out.cell 8
  have q5_0:w6.cell? ⟨wN.heap.size,0,none⟩=some (.int .i64 x.k):=R5.out.cell 0
  have q5_1:w6.cell? ⟨wN.heap.size,1,none⟩=some (.int .i64 x.p):=R5.out.cell 1
  have q5_2:w6.cell? ⟨wN.heap.size,2,none⟩=some (.int .i64 x.n):=R5.out.cell 2
  have q5_3:w6.cell? ⟨wN.heap.size,3,none⟩=some (.int .i64 x.g):=R5.out.cell 3
  have q5_4:w6.cell? ⟨wN.heap.size,4,none⟩=some (.slice Ad nd kd):=R5.out.cell 4
  have q5_5:w6.cell? ⟨wN.heap.size,5,none⟩=some (.slice Ce me de):=R5.out.cell 5
  have q5_6:w6.cell? ⟨wN.heap.size,6,none⟩=some (.int .i64 x.att.h):=R5.out.cell 6
  have q5_7:w6.cell? ⟨wN.heap.size,7,none⟩=some (.int .i64 x.att.o):=R5.out.cell 7
  have q5_9:w6.cell? ⟨wN.heap.size,9,none⟩=some (.int .i64 x.att.l):=R5.out.cell 9
  have q5_10:w6.cell? ⟨wN.heap.size,10,none⟩=some (.int .i64 x.att.i):=R5.out.cell 10
  have q5_11:w6.cell? ⟨wN.heap.size,11,none⟩=some (.int .i64 x.att.g):=R5.out.cell 11
  have q5_12:w6.cell? ⟨wN.heap.size,12,none⟩=some (.int .i64 x.att.s):=R5.out.cell 12
  have HOP6:=hide HOP.out.rd
  have hop6:=HOP.out.cap
  have hpl:(pathS l (i:Int)).length≤24:=by
   have h1:=path_len l (i:Int)
   have h2:=HT.out.ways.1
   omega
  refine (RLoops_b HB2.out w6 HOP6.out (by omega) (by omega) hop6 (by have:=HXP.out.2.2.2.2.2.1;omega)).mono ?_
  rintro e7 w7 ⟨rfl,hbel7⟩
  clear q5_8 q5_0 q5_1 q5_2 q5_3 q5_4 q5_5 q5_6 q5_7 q5_9 q5_10 q5_11 q5_12
  replace HB:=hide (HB.out.trans (hbel7.mono HB.out.size))
  replace HT:=hide (HT.out.on hbel7)
  replace HU:=hide (HU.out.under hbel7 (by omega))
  replace HCQ:=hide ((fun j v hv=>(hbel7.cell (p:=⟨bC,oC+i*2+j,none⟩) (by show bC < _;omega)).trans (HCQ.out j v hv)))
  replace HCI:=hide ((hbel7.cell (p:=⟨bW,oW+i*3,none⟩) (by show bW < _;omega)).trans HCI.out)
  replace R5:=hide (R5.out.on hbel7)
  have hsz8:=hbel7.size
  have q5_8:w7.cell? ⟨wN.heap.size,8,none⟩=some (.string ⟨x.att.r.toArray⟩):=R5.out.cell 8
  have q5_0:w7.cell? ⟨wN.heap.size,0,none⟩=some (.int .i64 x.k):=R5.out.cell 0
  have q5_1:w7.cell? ⟨wN.heap.size,1,none⟩=some (.int .i64 x.p):=R5.out.cell 1
  have q5_2:w7.cell? ⟨wN.heap.size,2,none⟩=some (.int .i64 x.n):=R5.out.cell 2
  have q5_3:w7.cell? ⟨wN.heap.size,3,none⟩=some (.int .i64 x.g):=R5.out.cell 3
  have q5_4:w7.cell? ⟨wN.heap.size,4,none⟩=some (.slice Ad nd kd):=R5.out.cell 4
  have q5_5:w7.cell? ⟨wN.heap.size,5,none⟩=some (.slice Ce me de):=R5.out.cell 5
  have q5_6:w7.cell? ⟨wN.heap.size,6,none⟩=some (.int .i64 x.att.h):=R5.out.cell 6
  have q5_7:w7.cell? ⟨wN.heap.size,7,none⟩=some (.int .i64 x.att.o):=R5.out.cell 7
  have q5_9:w7.cell? ⟨wN.heap.size,9,none⟩=some (.int .i64 x.att.l):=R5.out.cell 9
  have q5_10:w7.cell? ⟨wN.heap.size,10,none⟩=some (.int .i64 x.att.i):=R5.out.cell 10
  have q5_11:w7.cell? ⟨wN.heap.size,11,none⟩=some (.int .i64 x.att.g):=R5.out.cell 11
  have q5_12:w7.cell? ⟨wN.heap.size,12,none⟩=some (.int .i64 x.att.s):=R5.out.cell 12
  clear hbel6 hbel7 HOP HOP6 hop6
  cases b2 with
  | true =>
   have hc9:c0=10:=by rw [HCL2.out,if_pos rfl]
   subst hc9
   go_wp2_with fail
   go_ret
   exact ⟨by simp,HB.out⟩
  | false =>
   have hcl3:c0=if q=(0,0)∧ob=false then 11 else 0:=by rw [HCL2.out,if_neg (by simp)]
   have HCL3:=hide hcl3
   have qT7:w7.cell? ⟨gT,7,none⟩=some (.slice (some ⟨bC,oC,none⟩) n cC):=HT.out.row.cell 7
   clear hcl3
   obtain ⟨r0,hr0⟩:∃r0,decide (q.1=0∧q.2=0)=r0:=⟨_,rfl⟩
   have heq:=fun W=>eq_plcB hr0 W
   have HR0:=hide hr0
   clear hr0
   cases r0 with
   | false =>
    have hc9:c0=0:=by rw [HCL3.out,if_neg (fun h=>by have h1:=of_decide_eq_false HR0.out;exact h1 ⟨by rw [h.1],by rw [h.1]⟩)]
    subst hc9
    cases ft with
    | false =>
     go_wp2_with (first|(refine wpList_loadX rfl 31 (.tmp 68) rfl 2 plc_agg plc_size bC (oC+i*2) rfl [.int .i64 q.1,.int .i64 q.2] HCQ.out rfl ?_))
     go_ret
     exact ⟨by simp,HB.out⟩
    | true =>
     go_wp2_with (first|(refine wpList_loadX rfl 31 (.tmp 68) rfl 2 plc_agg plc_size bC (oC+i*2) rfl [.int .i64 q.1,.int .i64 q.2] HCQ.out rfl ?_))
     go_ret
     exact ⟨by simp,HB.out⟩
   | true =>
    have hq0:q=(0,0):=by have h1:=of_decide_eq_true HR0.out;exact Prod.ext h1.1 h1.2
    go_wp2_with (first|(refine wpList_loadX rfl 31 (.tmp 68) rfl 2 plc_agg plc_size bC (oC+i*2) rfl [.int .i64 q.1,.int .i64 q.2] HCQ.out rfl ?_))
    refine (VOpq_b HOB.out HXP.out.2.2.1.1 HXP.out.2.2.1.2 w7).mono ?_
    rintro e8 w8 ⟨rfl,hbel8⟩
    have HB8:=hide (HB.out.trans (hbel8.mono HB.out.size))
    clear hbel8
    cases ob with
    | false =>
     have hc9:c0=11:=by rw [HCL3.out,if_pos ⟨hq0,rfl⟩]
     subst hc9
     go_wp2_with fail
     go_ret
     exact ⟨by simp,HB8.out⟩
    | true =>
     have hc9:c0=0:=by rw [HCL3.out,if_neg (by simp)]
     subst hc9
     cases ft with
     | false =>
      go_wp2_with fail
      go_ret
      exact ⟨by simp,HB8.out⟩
     | true =>
      go_wp2_with fail
      go_ret
      exact ⟨by simp,HB8.out⟩
end Go.Proofs.YtggnbflbbfdohaaGreat

