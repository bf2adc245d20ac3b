import Derived.Test.YtpndfahgflgocaaGreatDoorXt33
import Derived.Test.YtpndfahgflgocaaGreatDoorXt35
import Derived.Test.YtpndfahgflgocaaGreatDoorXt17
import Derived.Test.YtpndfahgflgocaaGreatDoorXt15
import Derived.Test.YtpndfahgflgocaaGreatDoorXt28
import Derived.Test.YtpndfahgflgocaaGreatDoorXt12
import Derived.Test.YtpndfahgflgocaaGreatDoorXt3
import Derived.Test.YtpndfahgflgocaaGreatDoorXt1
import Derived.Test.YtpndfahgflgocaaGreatDoorProg
import Derived.WalkKit
import Derived.Lib.SmallJoins
import Derived.OpenShut
import Derived.ProofKit
import Derived.ChangeArms

namespace Go.Proofs.YtpndfahgflgocaaGreatDoor
open Go.RowKit Go.Shelf Plain

theorem findX_len {up:List NodV} {ls:List (List NodV)} {rs:List Bool} (h:FewU up):(findX up ls rs).length≤32:=by
 unfold findX
 have h1:=wrkX_len (rowX up ls rs (entB up 3) (entB up 3).length) (entB up 2) (entB up 2).length
 have h2:=rowX_len up ls rs (entB up 3) (entB up 3).length
 have h3:=entB_len h.2 3
 have h4:=entB_len h.2 2
 omega
theorem RXFinds_p {g:GeoQ} {AU AL:Option Addr} {nU cU nL cL B:Nat} {up:List NodV} {ls:List (List NodV)} {n:Nat} {rs:List Bool} {R:List FinV} (hrs:reachL up (walkW up [1]).1=rs) (hR:findX up ls rs=R) (hn:R.length=n) (w:World) (hu:RdE nodEn w (Under B) AU nU up) (h:RdE layEn w (Under B) AL nL ls) (hB:B≤w.heap.size) (hF:FewL ls) (hup:FewU up):Calls Tryz.prog 10 #[.agg (stkC g (.slice AU nU cU) (.slice AL nL cL)).toArray] w (fun e w'=>∃A c,e=.returned (.slice A n c)∧RdE finEn w' (Under w'.heap.size) A n R∧Below w.heap.size w w'):=by
 refine (RXFinds_any hrs w hu h hB hF hup).mono ?_
 rintro e w' ⟨A,m,c,h1,h2,h3⟩
 rw [hR] at h2
 obtain rfl:n=m:=by rw [←hn];exact h2.1
 exact ⟨A,c,h1,h2,h3⟩
set_option maxRecDepth 100000 in
set_option maxHeartbeats 16000000 in
theorem law_IndexTells {g:GeoQ} {AU AL:Option Addr} {nU cU nL cL:Nat} {up:List NodV} {ls:List (List NodV)} {e:EntV} {i:Int} (w:World) (hu:RdE nodEn w (Under w.heap.size) AU nU up) (h:RdE layEn w (Under w.heap.size) AL nL ls) (hfu:FineN up) (hfl:∀ns∈ls,FineN ns) (hw:HanW w) :
  Calls Tryz.prog 3 #[.agg (stkC g (.slice AU nU cU) (.slice AL nL cL)).toArray,.agg #[.int .i64 e.slot,.int .i64 e.ino,.string ⟨e.name.toArray⟩],.int .i64 i] w (LawOk w):=by
 obtain ⟨W1,hW1⟩:∃W1,((w.alloc (.cells (stkC g (.slice AU nU cU) (.slice AL nL cL)).toArray 29)).alloc (.cells (cellsE e).toArray 31))=W1:=⟨_,rfl⟩
 obtain ⟨r0,r1,hb1,hs1⟩:=rowA2 w _ _ _ _ hW1
 have hW1':((w.alloc (.cells #[.int .i64 g.a,.int .i64 g.b,.int .i64 g.c,.int .i64 g.d,.slice AU nU cU,.slice AL nL cL] 29)).alloc (.cells #[.int .i64 e.slot,.int .i64 e.ino,.string ⟨e.name.toArray⟩] 31))=W1:=hW1
 have R3:=hide r0
 have R4:=hide r1
 have HB:=hide hb1
 have hsz0:=hb1.size
 have HU:=hide (hu.under hb1 (Nat.le_refl _))
 have HL:=hide (h.under hb1 (Nat.le_refl _))
 have HFN:=hide hfu
 have HFL:=hide hfl
 have HW:=hide (hw.below hb1)
 have q4_2:W1.cell? ⟨w.heap.size+1,2,none⟩=some (.string ⟨e.name.toArray⟩):=R4.out.cell 2
 have q4_0:W1.cell? ⟨w.heap.size+1,0,none⟩=some (.int .i64 e.slot):=R4.out.cell 0
 have q4_1:W1.cell? ⟨w.heap.size+1,1,none⟩=some (.int .i64 e.ino):=R4.out.cell 1
 unfold stkC
 clear r0 r1 hb1 hW1 hu h hfu hfl hw
 go_enter Tryz.func3,Tryz.ntmps3
 go_wp2_with (first|(refine wpList_loadW rfl 29 (.tmp 3) rfl 6 stk_agg stk_size (w.heap.size) 29 rfl (stkC g (.slice AU nU cU) (.slice AL nL cL)) R3.out rfl ?_))
 clear hW1'
 refine (PStackM_any (by omega) W1 (und_up HU.out (by omega)) (und_up HL.out (by omega)) HFN.out HFL.out).mono ?_
 rintro ee w2 ⟨p,rfl,hb2,hq⟩
 have HQ:=hide hq
 clear q4_2 q4_0 q4_1
 replace HB:=hide (HB.out.trans (hb2.mono HB.out.size))
 replace R3:=hide (R3.out.on hb2)
 replace R4:=hide (R4.out.on hb2)
 replace HU:=hide (HU.out.under hb2 (by omega))
 replace HL:=hide (HL.out.under hb2 (by omega))
 replace HW:=hide (HW.out.below hb2)
 have hsz1:=hb2.size
 have q4_2:w2.cell? ⟨w.heap.size+1,2,none⟩=some (.string ⟨e.name.toArray⟩):=R4.out.cell 2
 have q4_0:w2.cell? ⟨w.heap.size+1,0,none⟩=some (.int .i64 e.slot):=R4.out.cell 0
 have q4_1:w2.cell? ⟨w.heap.size+1,1,none⟩=some (.int .i64 e.ino):=R4.out.cell 1
 clear hq hb2
 cases p with
 | false =>
  go_wp2_with fail
  refine (awake23_any _ HW.out).mono ?_
  rintro e98 wz ⟨rfl,hbz⟩
  have HBZ:=hide (HB.out.trans (hbz.mono (by have:=(HB.out).size;omega)))
  clear hbz
  go_wp2_with fail
  go_ret
  exact LawOk.of HBZ.out
 | true =>
  obtain ⟨hF,hfew⟩:=HQ.out (by first|rfl|trivial)
  have hup:FewU up:=⟨by have h1:=hfew.1;omega,hfew.2⟩
  have HF:=hide hF
  have HFU:=hide hup
  have hfl32:=findX_len (ls:=ls) (rs:=reachL up (walkW up [1]).1) hup
  clear hF hfew hup HQ HFN HFL
  by_cases hk1:(40:Int) < (e.name.length:Int)
  ·have dk1:decide ((40:Int) < (e.name.length:Int))=true:=decide_eq_true hk1
   go_wp2_with fail
   refine (awake23_any _ HW.out).mono ?_
   rintro e98 wz ⟨rfl,hbz⟩
   have HBZ:=hide (HB.out.trans (hbz.mono (by have:=(HB.out).size;omega)))
   clear hbz
   go_wp2_with fail
   go_ret
   exact LawOk.of HBZ.out
  have dk1:decide ((40:Int) < (e.name.length:Int))=false:=decide_eq_false hk1
  have HNL:=hide (show e.name.length≤1000 from by omega)
  obtain ⟨rs,hrs⟩:∃rs,reachL up (walkW up [1]).1=rs:=⟨_,rfl⟩
  rw [hrs] at hfl32
  have HRS:=hide hrs
  obtain ⟨b,hb⟩:∃b,badX up ls rs e=b:=⟨_,rfl⟩
  have HBD:=hide hb
  obtain ⟨r,hr⟩:∃r,inX up ls rs i=r:=⟨_,rfl⟩
  have HIN:=hide hr
  obtain ⟨fl,hfi⟩:∃fl,findX up ls rs=fl:=⟨_,rfl⟩
  rw [hfi] at hfl32
  have HFI:=hide hfi
  obtain ⟨nF,hnF⟩:∃nF,fl.length=nF:=⟨_,rfl⟩
  rw [hnF] at hfl32
  clear hrs hb hr hfi hk1
  go_upto_region 3 with fail
  refine wp_region_planN (fun w'=>Below w2.heap.size w2 w') [(0,true),(2,true),(1,false),(3,false),(4,false),(5,true),(6,true),(7,true),(9,true),(10,true),(8,false),(11,false),(12,true),(13,true),(14,true),(15,true),(16,true),(18,true),(19,true),(17,false),(20,false),(21,true),(22,true),(23,true),(24,false),(25,true),(26,true)] (by kernel_rfl) (by kernel_rfl) (by kernel_rfl) (by kernel_rfl) rfl (fun _ _ _ _ _ h=>h) (below_drew (below_self w2)) (fun hHeld=>?_)
  simp only [planOps,List.filterMap_cons,List.filterMap_nil,List.getElem?_toArray,List.getElem?_cons_succ,List.getElem?_cons_zero,Option.map_some]
  refine wpPlan_take (v:=?_) (by kernel_rfl) (fun wS hSw=>?_) ?_
  rotate_left
  ·refine execOp_load (x:=.tmp 3) (k:=6) (g:=w.heap.size) (off:=0) (cs:=(stkC g (.slice AU nU cU) (.slice AL nL cL))) ?_ stk_agg stk_size ?_ (fun j v hv=>by rw [Nat.zero_add];exact ((R3.out.on hSw).cell j).trans hv) rfl <;> rfl
  (try simp only [Act.put,pu1,pu2,pu3])
  refine wpPlan_take (v:=?_) (by kernel_rfl) (fun wS hSw=>?_) ?_
  rotate_left
  ·refine execOp_load (x:=.tmp 3) (k:=6) (g:=w.heap.size) (off:=0) (cs:=(stkC g (.slice AU nU cU) (.slice AL nL cL))) ?_ stk_agg stk_size ?_ (fun j v hv=>by rw [Nat.zero_add];exact ((R3.out.on hSw).cell j).trans hv) rfl <;> rfl
  (try simp only [Act.put,pu1,pu2,pu3])
  refine wpPlan_call (by kernel_rfl) (fun K hK=>?_)
  have hOld:=hide hHeld
  clear hHeld
  go_simp
  go_at_call 9
  refine (XFinds_p (g:=g) HRS.out HFI.out hnF _ (HU.out.under hOld.out (by omega)) (HL.out.under hOld.out (by omega)) (by have:=hOld.out.size;omega) HF.out HFU.out (HW.out.below hOld.out)).mono ?_
  rintro e w' ⟨A6,c6,rfl,h6,hbel⟩
  have H6:=hide h6
  have hz6:=hbel.size
  refine hK.out _ _ (hOld.out.trans (hbel.mono hOld.out.size)) (fun hHeld=>?_)
  clear hK K
  (try simp only [Act.put,pu1,pu2,pu3])
  refine wpPlan_call (by kernel_rfl) (fun K hK=>?_)
  have hOld:=hide hHeld
  clear hHeld
  go_simp
  go_at_call 10
  refine (RXFinds_p (g:=g) HRS.out HFI.out hnF _ (HU.out.under hOld.out (by omega)) (HL.out.under hOld.out (by omega)) (by have:=hOld.out.size;omega) HF.out HFU.out).mono ?_
  rintro e w' ⟨A7,c7,rfl,h7,hbel⟩
  have H7:=hide h7
  have H6b:=hide (H6.out.under hbel (Nat.le_refl _))
  have hz7:=hbel.size
  refine hK.out _ _ (hOld.out.trans (hbel.mono hOld.out.size)) (fun hHeld=>?_)
  clear hK K
  (try simp only [Act.put,pu1,pu2,pu3])
  refine wpPlan_call (by kernel_rfl) (fun K hK=>?_)
  have hOld:=hide hHeld
  clear hHeld
  go_simp
  go_at_call 8
  refine (EqualFin_same (L:=fl) _ (und_up H6b.out (by omega)) H7.out (by omega)).mono ?_
  rintro e w' ⟨rfl,hbel⟩
  refine hK.out _ _ (hOld.out.trans (hbel.mono hOld.out.size)) (fun hHeld=>?_)
  clear hK K
  (try simp only [Act.put,pu1,pu2,pu3])
  refine wpPlan_take (v:=?_) (by kernel_rfl) (fun wS hSw=>?_) ?_
  rotate_left
  ·(try dsimp only at hSw);go_simp;(try with_reducible rfl)
  (try simp only [Act.put,pu1,pu2,pu3])
  refine wpPlan_take (v:=?_) (by kernel_rfl) (fun wS hSw=>?_) ?_
  rotate_left
  ·refine execOp_load (x:=.tmp 3) (k:=6) (g:=w.heap.size) (off:=0) (cs:=(stkC g (.slice AU nU cU) (.slice AL nL cL))) ?_ stk_agg stk_size ?_ (fun j v hv=>by rw [Nat.zero_add];exact ((R3.out.on hSw).cell j).trans hv) rfl <;> rfl
  (try simp only [Act.put,pu1,pu2,pu3])
  refine wpPlan_take (v:=?_) (by kernel_rfl) (fun wS hSw=>?_) ?_
  rotate_left
  ·refine execOp_load (x:=.tmp 4) (k:=3) (g:=w.heap.size+1) (off:=0) (cs:=(cellsE e)) ?_ ixe_agg ixe_size ?_ (fun j v hv=>by rw [Nat.zero_add];exact ((R4.out.on hSw).cell j).trans hv) rfl <;> rfl
  (try simp only [Act.put,pu1,pu2,pu3])
  refine wpPlan_take (v:=?_) (by kernel_rfl) (fun wS hSw=>?_) ?_
  rotate_left
  ·refine execOp_load (x:=.tmp 3) (k:=6) (g:=w.heap.size) (off:=0) (cs:=(stkC g (.slice AU nU cU) (.slice AL nL cL))) ?_ stk_agg stk_size ?_ (fun j v hv=>by rw [Nat.zero_add];exact ((R3.out.on hSw).cell j).trans hv) rfl <;> rfl
  (try simp only [Act.put,pu1,pu2,pu3])
  refine wpPlan_take (v:=?_) (by kernel_rfl) (fun wS hSw=>?_) ?_
  rotate_left
  ·refine execOp_load (x:=.tmp 4) (k:=3) (g:=w.heap.size+1) (off:=0) (cs:=(cellsE e)) ?_ ixe_agg ixe_size ?_ (fun j v hv=>by rw [Nat.zero_add];exact ((R4.out.on hSw).cell j).trans hv) rfl <;> rfl
  (try simp only [Act.put,pu1,pu2,pu3])
  refine wpPlan_call (by kernel_rfl) (fun K hK=>?_)
  have hOld:=hide hHeld
  clear hHeld
  go_simp
  go_at_call 11
  refine (XBadS_any (g:=g) (e:=e) HRS.out HBD.out _ (HU.out.under hOld.out (by omega)) (HL.out.under hOld.out (by omega)) (by have:=hOld.out.size;omega) HF.out HFU.out HNL.out (HW.out.below hOld.out)).mono ?_
  rintro e w' ⟨rfl,hbel⟩
  refine hK.out _ _ (hOld.out.trans (hbel.mono hOld.out.size)) (fun hHeld=>?_)
  clear hK K
  (try simp only [Act.put,pu1,pu2,pu3])
  refine wpPlan_call (by kernel_rfl) (fun K hK=>?_)
  have hOld:=hide hHeld
  clear hHeld
  go_simp
  go_at_call 12
  refine (RXBad_any (g:=g) (e:=e) HRS.out HBD.out _ (HU.out.under hOld.out (by omega)) (HL.out.under hOld.out (by omega)) (by have:=hOld.out.size;omega) HF.out HFU.out).mono ?_
  rintro e w' ⟨rfl,hbel⟩
  refine hK.out _ _ (hOld.out.trans (hbel.mono hOld.out.size)) (fun hHeld=>?_)
  clear hK K
  (try simp only [Act.put,pu1,pu2,pu3])
  refine wpPlan_take (v:=?_) (by kernel_rfl) (fun wS hSw=>?_) ?_
  rotate_left
  ·(try dsimp only at hSw);go_simp;(try simp only [beq_self_eq_true]);(try with_reducible rfl)
  (try simp only [Act.put,pu1,pu2,pu3])
  iterate 2
   refine wpPlan_take (v:=?_) (by kernel_rfl) (fun wS hSw=>?_) ?_
   rotate_left
   ·(try dsimp only at hSw);go_simp;(try with_reducible rfl)
   (try simp only [Act.put,pu1,pu2,pu3])
  refine wpPlan_take (v:=?_) (by kernel_rfl) (fun wS hSw=>?_) ?_
  rotate_left
  ·refine execOp_load (x:=.tmp 3) (k:=6) (g:=w.heap.size) (off:=0) (cs:=(stkC g (.slice AU nU cU) (.slice AL nL cL))) ?_ stk_agg stk_size ?_ (fun j v hv=>by rw [Nat.zero_add];exact ((R3.out.on hSw).cell j).trans hv) rfl <;> rfl
  (try simp only [Act.put,pu1,pu2,pu3])
  refine wpPlan_take (v:=?_) (by kernel_rfl) (fun wS hSw=>?_) ?_
  rotate_left
  ·(try dsimp only at hSw);go_simp;(try with_reducible rfl)
  (try simp only [Act.put,pu1,pu2,pu3])
  refine wpPlan_take (v:=?_) (by kernel_rfl) (fun wS hSw=>?_) ?_
  rotate_left
  ·refine execOp_load (x:=.tmp 3) (k:=6) (g:=w.heap.size) (off:=0) (cs:=(stkC g (.slice AU nU cU) (.slice AL nL cL))) ?_ stk_agg stk_size ?_ (fun j v hv=>by rw [Nat.zero_add];exact ((R3.out.on hSw).cell j).trans hv) rfl <;> rfl
  (try simp only [Act.put,pu1,pu2,pu3])
  refine wpPlan_take (v:=?_) (by kernel_rfl) (fun wS hSw=>?_) ?_
  rotate_left
  ·(try dsimp only at hSw);go_simp;(try with_reducible rfl)
  (try simp only [Act.put,pu1,pu2,pu3])
  refine wpPlan_call (by kernel_rfl) (fun K hK=>?_)
  have hOld:=hide hHeld
  clear hHeld
  go_simp
  go_at_call 13
  refine (XIn_any (g:=g) HRS.out HIN.out _ (HU.out.under hOld.out (by omega)) (HL.out.under hOld.out (by omega)) (by have:=hOld.out.size;omega) HF.out HFU.out (HW.out.below hOld.out)).mono ?_
  rintro e w' ⟨rfl,hbel⟩
  refine hK.out _ _ (hOld.out.trans (hbel.mono hOld.out.size)) (fun hHeld=>?_)
  clear hK K
  (try simp only [Act.put,pu1,pu2,pu3])
  refine wpPlan_call (by kernel_rfl) (fun K hK=>?_)
  have hOld:=hide hHeld
  clear hHeld
  go_simp
  go_at_call 14
  refine (RXIn_any (g:=g) HRS.out HIN.out _ (HU.out.under hOld.out (by omega)) (HL.out.under hOld.out (by omega)) (by have:=hOld.out.size;omega) HF.out HFU.out).mono ?_
  rintro e w' ⟨rfl,hbel⟩
  refine hK.out _ _ (hOld.out.trans (hbel.mono hOld.out.size)) (fun hHeld=>?_)
  clear hK K
  (try simp only [Act.put,pu1,pu2,pu3])
  refine wpPlan_take (v:=?_) (by kernel_rfl) (fun wS hSw=>?_) ?_
  rotate_left
  ·(try dsimp only at hSw);go_simp;(try simp only [beq_self_eq_true]);(try with_reducible rfl)
  (try simp only [Act.put,pu1,pu2,pu3])
  iterate 2
   refine wpPlan_take (v:=?_) (by kernel_rfl) (fun wS hSw=>?_) ?_
   rotate_left
   ·(try dsimp only at hSw);go_simp;(try with_reducible rfl)
   (try simp only [Act.put,pu1,pu2,pu3])
  refine wpPlan_call (by kernel_rfl) (fun K hK=>?_)
  have hOld:=hide hHeld
  clear hHeld
  go_simp
  go_at_call 7
  refine (awake23_any _ (HW.out.below hOld.out)).mono ?_
  rintro e w' ⟨rfl,hbel⟩
  refine hK.out _ _ (hOld.out.trans (hbel.mono hOld.out.size)) (fun hHeld=>?_)
  clear hK K
  (try simp only [Act.put,pu1,pu2,pu3])
  iterate 2
   refine wpPlan_take (v:=?_) (by kernel_rfl) (fun wS hSw=>?_) ?_
   rotate_left
   ·(try dsimp only at hSw);go_simp;(try with_reducible rfl)
   (try simp only [Act.put,pu1,pu2,pu3])
  refine wpPlan_end ?_
  have HBX:=hide (HB.out.trans (hHeld.mono (by omega)))
  clear hHeld
  go_wp2_with fail
  go_ret
  exact LawOk.of HBX.out
end Go.Proofs.YtpndfahgflgocaaGreatDoor

namespace Go.Proofs.YtpndfahgflgocaaGreatDoor
open Go.RowKit Go.Shelf Plain Go.WideShapes Go.ChangeShapes

section
variable {H : Type} {enc : TypeId × Value → H} {w : World} {spare : Nat → Bool} {held : Bool}
theorem six_ {l:List Value} (h:l.length=6):∃a b c d e f,l=[a,b,c,d,e,f]:=by
 match l,h with
 | [a,b,c,d,e,f],_=>exact ⟨a,b,c,d,e,f,rfl⟩
set_option maxRecDepth 100000 in
theorem trod_lay {fuel:Nat} {cs:List Value} {y:DataW H×List MemPlace} (hl:cs.length=1) (h:DataW.trod enc Tryz.prog w 0 spare held fuel 26 cs=some y):∃x:List NodV,layEn.R w (Under w.heap.size) cs x∧∀d∈x,d.ents.length≤maxLen:=by
 obtain ⟨c0,rfl⟩:=one_cell hl
 obtain ⟨xs,n,-,-,-,hlen,hp⟩:=DataW.trod_struct Tryz.underlying26 h
 match xs,hlen,hp with
 | [x0],_,hp =>
  obtain ⟨A,n,c,ns,e1,hn,-,r,hfine⟩:=open_rdeF (e:=51) (cs:=[c0]) nodEn (fun x=>x.ents.length≤maxLen) Tryz.underlying24 (by kernel_rfl) (by decide) (fun _ cs _ hl hy=>trod_node hl hy) (hp 0 _ rfl)
  cases e1
  exact ⟨ns,⟨A,n,c,rfl,hn,r⟩,hfine⟩
set_option maxRecDepth 100000 in
theorem open_stack {r:Reach} {b0:Nat} {v:Value} {d:DataW H} {p:List MemPlace} (hv:Value.okWide Tryz.prog w r b0 29 v) (h:DataW.Trod enc Tryz.prog w 0 spare held 29 v d p) :
  ∃(g:GeoQ) (AU AL:Option Addr) (nU cU nL cL:Nat) (up:List NodV) (ls:List (List NodV)),v=.agg (stkC g (.slice AU nU cU) (.slice AL nL cL)).toArray∧nU≤cU∧nL≤cL∧RdE nodEn w (Under w.heap.size) AU nU up∧RdE layEn w (Under w.heap.size) AL nL ls∧(∀x∈up,x.ents.length≤maxLen)∧∀ns∈ls,∀x∈ns,x.ents.length≤maxLen:=by
 obtain ⟨cs,rfl,hsz⟩:=okWide_struct Tryz.underlying29 hv
 have hC:Tryz.prog.cellsOf 29=6:=by kernel_rfl
 obtain ⟨l⟩:=cs
 obtain ⟨c0,c1,c2,c3,c4,c5,rfl⟩:=six_ (l:=l) (hsz.trans hC)
 obtain ⟨fuel,hf⟩:=h
 obtain ⟨xs,n,-,-,-,hlen,hp⟩:=DataW.trod_struct Tryz.underlying29 hf
 match xs,hlen,hp with
 | [x0,x1,x2],_,hp =>
  have p0:=hp 0 _ rfl
  have p1:=hp 1 _ rfl
  obtain ⟨ys,m,-,-,-,hyl,hq⟩:=DataW.trod_struct Tryz.underlying23 (cs:=[c0,c1,c2,c3]) p0
  match ys,hyl,hq with
  | [y0,y1,y2,y3],_,hq =>
   obtain ⟨a0,rfl⟩:=cell_i64 (c:=c0) (hq 0 _ rfl)
   obtain ⟨a1,rfl⟩:=cell_i64 (c:=c1) (hq 1 _ rfl)
   obtain ⟨a2,rfl⟩:=cell_i64 (c:=c2) (hq 2 _ rfl)
   obtain ⟨a3,rfl⟩:=cell_i64 (c:=c3) (hq 3 _ rfl)
   obtain ⟨up,⟨AU,nU,cU,eU,hU,rU⟩,fU⟩:=trod_lay (cs:=[c4]) rfl p1
   obtain ⟨AL,nL,cL,ls,eL,hL,-,rL,fL⟩:=open_rdeF (e:=26) (cs:=[c5]) layEn (fun ns=>∀x∈ns,x.ents.length≤maxLen) Tryz.underlying27 (by kernel_rfl) (by decide) (fun _ cs _ hl hy=>trod_lay hl hy) (hp 2 _ rfl)
   cases eU
   cases eL
   exact ⟨⟨a0,a1,a2,a3⟩,AU,AL,nU,cU,nL,cL,up,ls,rfl,hU,hL,rU,rL,fU,fL⟩
end
end Go.Proofs.YtpndfahgflgocaaGreatDoor

namespace Go.Proofs.YtpndfahgflgocaaGreatDoor
open Go.RowKit Go.WideShapes Go.ChangeShapes Plain

section
variable {H : Type} {enc : TypeId × Value → H} {w : World} {base : Nat} {spare : Nat → Bool} {held : Bool}
def datEF (x:EntV):DataW H:=.agg [.lit (.int .i64 x.slot),.lit (.int .i64 x.ino),.lit (.string x.name)]
theorem ent_i64F {n:Nat} {c:Value} {y:DataW H×List MemPlace} (h:DataW.trod enc Tryz.prog w base spare held n 3 [c]=some y):∃a:Int,c=.int .i64 a∧y.1=.lit (.int .i64 a):=by
 obtain ⟨a,e,hy,-⟩:=DataW.trod_int Tryz.underlying3 h
 exact ⟨a,by simpa using e,by rw [hy]⟩
theorem ent_strF {n:Nat} {c:Value} {y:DataW H×List MemPlace} (h:DataW.trod enc Tryz.prog w base spare held n 9 [c]=some y):∃l:List UInt8,c=.string ⟨l.toArray⟩∧y.1=.lit (.string l):=by
 obtain ⟨s,e,hy,-⟩:=DataW.trod_string Tryz.underlying9 h
 exact ⟨s.data.toList,by simpa using e,by rw [hy]⟩
theorem threeF {l:List Value} (h:l.length=3):∃a b c,l=[a,b,c]:=by
 match l,h with
 | [a,b,c],_=>exact ⟨a,b,c,rfl⟩
set_option maxRecDepth 100000 in
theorem trod_entF {fuel:Nat} {cs:List Value} {y:DataW H×List MemPlace} (hl:cs.length=3) (h:DataW.trod enc Tryz.prog w base spare held fuel 31 cs=some y) :
  ∃x:EntV,cs=[.int .i64 x.slot,.int .i64 x.ino,.string ⟨x.name.toArray⟩]∧y.1=datEF x:=by
 obtain ⟨c0,c1,c2,rfl⟩:=threeF hl
 obtain ⟨xs,n,-,rfl,-,hlen,hp⟩:=DataW.trod_struct Tryz.underlying31 h
 match xs,hlen,hp with
 | [x0,x1,x2],_,hp =>
  have p0:=hp 0 _ rfl
  have p1:=hp 1 _ rfl
  have p2:=hp 2 _ rfl
  obtain ⟨a0,rfl,e0⟩:=ent_i64F (c:=c0) p0
  obtain ⟨a1,rfl,e1⟩:=ent_i64F (c:=c1) p1
  obtain ⟨a2,rfl,e2⟩:=ent_strF (c:=c2) p2
  exact ⟨⟨a0,a1,a2⟩,rfl,by simp [datEF,e0,e1,e2]⟩
set_option maxRecDepth 100000 in
theorem open_entF {r:Reach} {b0:Nat} {v:Value} {d:DataW H} {p:List MemPlace} (hv:Value.okWide Tryz.prog w r b0 31 v) (h:DataW.Trod enc Tryz.prog w base spare held 31 v d p) :
  ∃x:EntV,v=.agg #[.int .i64 x.slot,.int .i64 x.ino,.string ⟨x.name.toArray⟩]∧d=datEF x:=by
 obtain ⟨cs,rfl,hsz⟩:=okWide_struct Tryz.underlying31 hv
 have hC:Tryz.prog.cellsOf 31=3:=by kernel_rfl
 obtain ⟨l⟩:=cs
 obtain ⟨fuel,hf⟩:=h
 obtain ⟨x,hx,hd⟩:=trod_entF (hsz.trans hC) hf
 simp only at hx
 exact ⟨x,by rw [show l=_ from hx],hd⟩
end
end Go.Proofs.YtpndfahgflgocaaGreatDoor

