import Derived.Test.YtpndfahgflgocaaGreatDoorXt15

namespace Go.Proofs.YtpndfahgflgocaaGreatDoor
open Go.RowKit Go.Shelf Plain

theorem int_get2 {w:World} {D:Nat→Prop} {A:Option Addr} {n k:Nat} {l:List Int} {x:Int} (h:RdE Enc.int w D A n l) (hx:l[k]?=some x):∃b o,A=some ⟨b,o,none⟩∧D b∧w.cell? ⟨b,o+k,none⟩=some (.int .i64 x):=by
 have hi:=(List.getElem?_eq_some_iff.1 hx).1
 obtain ⟨b,o,e,hb,hc⟩:=h.2 (by have:=h.1;omega)
 obtain ⟨b',o',e',hcell⟩:=int_get h hx
 rw [e'] at e
 cases e
 exact ⟨b,o,e',hb,hcell⟩
def TwoL (B:Nat) (W0:World) (ns:List NodV) (s:StW) (v6 v7:Value) (wr:World):Prop:=∃A6 c6 A7 c7,v6=.slice A6 s.1.length c6∧v7=.slice A7 s.2.length c7∧wr.ownsRow B 92 3 (.slice A6 s.1.length c6) s.1.length (flatW s.1)∧wr.ownsRow B 137 2 (.slice A7 s.2.length c7) s.2.length (flatR (twiceS ns s))∧Below B W0 wr
def TwoRet (w:World) (ns:List NodV) (s:StW) (e:Ending) (w':World):Prop:=∃A6 c6 A7 c7,e=.returned (.tuple #[.slice A6 s.1.length c6,.slice A7 s.2.length c7])∧s.1.length≤c6∧s.2.length≤c7∧RdE wayEn w' (fun b=>w.heap.size≤b∧b < w'.heap.size) A6 s.1.length s.1∧RdE prEn w' (Under w'.heap.size) A7 s.2.length (twiceS ns s)∧Below w.heap.size w w'
set_option maxRecDepth 100000 in
set_option maxHeartbeats 16000000 in
theorem RWalk_any {A F:Option Addr} {n c k d:Nat} {ns:List NodV} {ff:List Int} (w:World) (h:RdE nodEn w (Under w.heap.size) A n ns) (hf:RdE Enc.int w (Under w.heap.size) F k ff) (hM:Many ns) (hk:k≤1000) :
  Calls Tryz.prog 70 #[.agg #[.slice A n c],.slice F k d] w (TwoRet w ns (walkW ns ff)):=by
 have r:=RowL.new w 26 [.slice A n c]
 have hb1:=below_new (below_self w) (.cells [Value.slice A n c].toArray 26)
 obtain ⟨W1,hW1⟩:∃W1,w.alloc (.cells [Value.slice A n c].toArray 26)=W1:=⟨_,rfl⟩
 have H0:=h.on hb1
 have F0:=hf.on hb1
 have HLN:=hide h.1
 have HFL:=hide hf.1
 rw [hW1] at r hb1 H0 F0
 have hW1':w.alloc (.cells #[.slice A n c] 26)=W1:=hW1
 have o6:=own_lit0 W1 92 3 (base:=W1.heap.size) rfl (Nat.le_refl _)
 have b2:=below_new (below_self W1) (.cells #[] 92)
 have o7:=own_lit0 (W1.alloc (.cells #[] 92)) 137 2 (base:=W1.heap.size) (B:=W1.heap.size+1) (by simp) (by omega)
 have b3:=below_new (below_self (W1.alloc (.cells #[] 92))) (.cells #[] 137)
 have O6:=hide (ownsRow_below o6 b3)
 have O7:=hide o7
 have HW0:=hide (below_step b2 b3)
 have HR1:=hide r
 have HB1:=hide hb1
 have HN1:=hide H0
 have HF1:=hide F0
 have HM:=hide hM
 have hm24:=hM.1
 clear r hb1 H0 F0 hW1 h hf hM o6 o7 b2 b3
 go_enter Tryz.func70,Tryz.ntmps70
 go_wp2_with fail
 clear hW1'
 go_loopw [6,7,8,9] (fun v6 v7 v8 v9 wr=>∃j:Nat,j≤k∧v9=.int .i64 j∧v8=.int .i64 ((walkW ns (ff.take j)).1.length:Nat)∧TwoL W1.heap.size W1 ns (walkW ns (ff.take j)) v6 v7 wr) (fun _ _ _ v9 _=>k - (intOf v9).toNat)
 case atStart=>exact ⟨0,by omega,rfl,by rw [List.take_zero];rfl,by rw [List.take_zero];exact ⟨_,_,_,_,rfl,rfl,O6.out,O7.out,HW0.out⟩⟩
 case round =>
  obtain ⟨j,hj,rfl,rfl,A6,c6,A7,c7,rfl,rfl,ho6,ho7,hbr⟩:=hrel
  have O6:=hide ho6
  have O7:=hide ho7
  have HBR:=hide hbr
  have hbsz:=hbr.size
  have hok:=walk_ok ns (ff.take j)
  have htw:=walk_tw HM.out (ff.take j)
  have HQB:=hide (fun W (hb:Below wr.heap.size wr W)=>show W.cell? ⟨w.heap.size,0,none⟩=some (.slice A n c) from (HR1.out.on (hbr.trans (hb.mono hbsz))).cell 0)
  have HNW:=hide (fun W (hb:Below wr.heap.size wr W)=>HN1.out.on (hbr.trans (hb.mono hbsz)))
  have hle:=hok.le
  clear ho6 ho7 hbr
  by_cases hlt:j < k
  ·obtain ⟨i,hi⟩:∃i,ff[j]?=some i:=⟨_,List.getElem?_eq_getElem (by have:=HFL.out;omega)⟩
   have HTW:=hide (take_walk (ns:=ns) hi)
   obtain ⟨bF,oF,hF,hbF,hcF⟩:=int_get2 (HF1.out.under HBR.out (Nat.le_refl _)) hi
   have hbF2:bF < wr.heap.size:=Nat.lt_of_lt_of_le hbF hbsz
   have HQF:=hide (fun W (hb:Below wr.heap.size wr W)=>show W.cell? ⟨bF,oF+j,none⟩=some (.int .i64 i) from (hb.cell (p:=⟨bF,oF+j,none⟩) hbF2).trans hcF)
   subst hF
   generalize walkW ns (ff.take j)=S' at *
   have HOK:=hide hok
   clear hi hcF hok
   have hjk:(j:Int) < (k:Int):=by omega
   cases hd:isDir ns i with
   | false =>
    have HR:=hide (show rootW ns S' i=S' from by unfold rootW;rw [hd];rfl)
    have hne:((nodAt ns i).k != 1)=true:=by unfold isDir at hd;simpa using hd
    clear hd
    go_wp2_with fail
    refine wp_region_planN (fun w'=>Below wr.heap.size wr w') [(0,true),(1,true),(2,true),(3,true),(4,true),(5,false),(6,true),(7,true),(8,true),(9,true),(10,true),(11,true),(12,true),(13,true),(14,false),(15,true),(16,true)] (by kernel_rfl) (by kernel_rfl) (by kernel_rfl) (by kernel_rfl) rfl (fun _ _ _ _ _ h=>h) (below_drew (below_self wr)) (fun hHeld=>?_)
    simp only [planOps,List.filterMap_cons,List.filterMap_nil,List.getElem?_toArray,List.getElem?_cons_succ,List.getElem?_cons_zero,Option.map_some]
    refine wpPlan_take (v:=?_) (by kernel_rfl) (fun wS hSw=>?_) ?_
    rotate_left
    ·have qx:=HQB.out wS hSw;go_simp;(try with_reducible rfl)
    (try simp only [Act.put,pu1,pu2,pu3])
    iterate 3
     refine wpPlan_take (v:=?_) (by kernel_rfl) (fun wS hSw=>?_) ?_
     rotate_left
     ·(try dsimp only at hSw);go_simp;(try with_reducible rfl)
     (try simp only [Act.put,pu1,pu2,pu3])
    refine wpPlan_take (v:=?_) (by kernel_rfl) (fun wS hSw=>?_) ?_
    rotate_left
    ·have qx:=HQF.out wS hSw;go_simp;(try with_reducible rfl)
    (try simp only [Act.put,pu1,pu2,pu3])
    refine wpPlan_call (by kernel_rfl) (fun K hK=>?_)
    have hOld:=hide hHeld
    clear hHeld
    go_simp
    go_at_call 31
    refine (At_any (i:=i) _ (HNW.out _ hOld.out) (by omega)).mono ?_
    rintro e w' ⟨A8,n8,c8,C8,m8,d8,rfl,-,-,-,-,hbel⟩
    have hf0:=nod_f0 (nodAt ns i) (.slice A8 n8 c8) (.slice C8 m8 d8)
    refine hK.out _ _ (hOld.out.trans (hbel.mono hOld.out.size)) (fun hHeld=>?_)
    clear hK K
    (try simp only [Act.put,pu1,pu2,pu3])
    iterate 3
     refine wpPlan_take (v:=?_) (by kernel_rfl) (fun wS hSw=>?_) ?_
     rotate_left
     ·(try dsimp only at hSw);go_simp;(try with_reducible rfl)
     (try simp only [Act.put,pu1,pu2,pu3])
    refine wpPlan_skip (by kernel_rfl) ?_
    (try simp only [Act.put,pu1,pu2,pu3])
    refine wpPlan_skip (by kernel_rfl) ?_
    (try simp only [Act.put,pu1,pu2,pu3])
    refine wpPlan_skip (by kernel_rfl) ?_
    (try simp only [Act.put,pu1,pu2,pu3])
    refine wpPlan_skip (by kernel_rfl) ?_
    (try simp only [Act.put,pu1,pu2,pu3])
    refine wpPlan_skip (by kernel_rfl) ?_
    (try simp only [Act.put,pu1,pu2,pu3])
    refine wpPlan_skip (by kernel_rfl) ?_
    (try simp only [Act.put,pu1,pu2,pu3])
    refine wpPlan_skip (by kernel_rfl) ?_
    (try simp only [Act.put,pu1,pu2,pu3])
    refine wpPlan_take (v:=?_) (by kernel_rfl) (fun wS hSw=>?_) ?_
    rotate_left
    ·(try dsimp only at hSw);go_simp;(try with_reducible rfl)
    (try simp only [Act.put,pu1,pu2,pu3])
    refine wpPlan_end ?_
    clear hf0
    go_wp2_with fail
    go_roundw
    case rel=>exact ⟨j+1,by omega,by go_num,by rw [HTW.out,HR.out],by rw [HTW.out,HR.out];exact ⟨_,_,_,_,rfl,rfl,ownsRow_below O6.out hHeld,ownsRow_below O7.out hHeld,HBR.out.trans (hHeld.mono hbsz)⟩⟩
    case measure=>simp [intOf];omega
   | true =>
    have hne:((nodAt ns i).k != 1)=false:=by unfold isDir at hd;simpa using hd
    cases hc:cameW S'.1 i with
    | true =>
     have HR:=hide (show rootW ns S' i=S' from by unfold rootW;rw [hd,hc];rfl)
     clear hd
     go_wp2_with fail
     refine wp_region_planN (fun w'=>Below wr.heap.size wr w') [(0,true),(1,true),(2,true),(3,true),(4,true),(5,false),(6,true),(7,true),(8,true),(9,true),(10,true),(11,true),(12,true),(13,true),(14,false),(15,true),(16,true)] (by kernel_rfl) (by kernel_rfl) (by kernel_rfl) (by kernel_rfl) rfl (fun _ _ _ _ _ h=>h) (below_drew (below_self wr)) (fun hHeld=>?_)
     simp only [planOps,List.filterMap_cons,List.filterMap_nil,List.getElem?_toArray,List.getElem?_cons_succ,List.getElem?_cons_zero,Option.map_some]
     refine wpPlan_take (v:=?_) (by kernel_rfl) (fun wS hSw=>?_) ?_
     rotate_left
     ·have qx:=HQB.out wS hSw;go_simp;(try with_reducible rfl)
     (try simp only [Act.put,pu1,pu2,pu3])
     iterate 3
      refine wpPlan_take (v:=?_) (by kernel_rfl) (fun wS hSw=>?_) ?_
      rotate_left
      ·(try dsimp only at hSw);go_simp;(try with_reducible rfl)
      (try simp only [Act.put,pu1,pu2,pu3])
     refine wpPlan_take (v:=?_) (by kernel_rfl) (fun wS hSw=>?_) ?_
     rotate_left
     ·have qx:=HQF.out wS hSw;go_simp;(try with_reducible rfl)
     (try simp only [Act.put,pu1,pu2,pu3])
     refine wpPlan_call (by kernel_rfl) (fun K hK=>?_)
     have hOld:=hide hHeld
     clear hHeld
     go_simp
     go_at_call 31
     refine (At_any (i:=i) _ (HNW.out _ hOld.out) (by omega)).mono ?_
     rintro e w' ⟨A8,n8,c8,C8,m8,d8,rfl,-,-,-,-,hbel⟩
     have hf0:=nod_f0 (nodAt ns i) (.slice A8 n8 c8) (.slice C8 m8 d8)
     refine hK.out _ _ (hOld.out.trans (hbel.mono hOld.out.size)) (fun hHeld=>?_)
     clear hK K
     (try simp only [Act.put,pu1,pu2,pu3])
     iterate 7
      refine wpPlan_take (v:=?_) (by kernel_rfl) (fun wS hSw=>?_) ?_
      rotate_left
      ·(try dsimp only at hSw);go_simp;(try with_reducible rfl)
      (try simp only [Act.put,pu1,pu2,pu3])
     refine wpPlan_take (v:=?_) (by kernel_rfl) (fun wS hSw=>?_) ?_
     rotate_left
     ·have qx:=HQF.out wS hSw;go_simp;(try with_reducible rfl)
     (try simp only [Act.put,pu1,pu2,pu3])
     refine wpPlan_call (by kernel_rfl) (fun K hK=>?_)
     have hOld:=hide hHeld
     clear hHeld
     go_simp
     go_at_call 97
     refine (place_any (l:=S'.1) _ ((own_way (ownsRow_below O6.out hOld.out)).rd rfl).plain (by omega)).mono ?_
     rintro e w' ⟨r,rfl,rfl,hr⟩
     rw [hc] at hr
     refine hK.out _ _ (hOld.out) (fun hHeld=>?_)
     clear hK K
     (try simp only [Act.put,pu1,pu2,pu3])
     iterate 2
      refine wpPlan_take (v:=?_) (by kernel_rfl) (fun wS hSw=>?_) ?_
      rotate_left
      ·(try dsimp only at hSw);go_simp;(try with_reducible rfl)
      (try simp only [Act.put,pu1,pu2,pu3])
     refine wpPlan_end ?_
     clear hf0
     go_wp2_with fail
     go_roundw
     case rel=>exact ⟨j+1,by omega,by go_num,by rw [HTW.out,HR.out],by rw [HTW.out,HR.out];exact ⟨_,_,_,_,rfl,rfl,ownsRow_below O6.out hHeld,ownsRow_below O7.out hHeld,HBR.out.trans (hHeld.mono hbsz)⟩⟩
     case measure=>simp [intOf];omega
    | false =>
     obtain ⟨R,hR⟩:∃R,runW ns (ns.length - S'.1.length) S'.1.length (S'.1++[⟨i,-1,[]⟩],S'.2)=R:=⟨_,rfl⟩
     have HR:=hide (show rootW ns S' i=R from by unfold rootW;rw [hd,hc];exact hR)
     have HRUN:=hide hR
     have HOK1:=hide (OkW.snoc (x:=⟨i,-1,[]⟩) HOK.out hd hc)
     clear hR hd
     go_wp2_with fail
     refine wp_region_planN (fun w'=>Below wr.heap.size wr w') [(0,true),(1,true),(2,true),(3,true),(4,true),(5,false),(6,true),(7,true),(8,true),(9,true),(10,true),(11,true),(12,true),(13,true),(14,false),(15,true),(16,true)] (by kernel_rfl) (by kernel_rfl) (by kernel_rfl) (by kernel_rfl) rfl (fun _ _ _ _ _ h=>h) (below_drew (below_self wr)) (fun hHeld=>?_)
     simp only [planOps,List.filterMap_cons,List.filterMap_nil,List.getElem?_toArray,List.getElem?_cons_succ,List.getElem?_cons_zero,Option.map_some]
     refine wpPlan_take (v:=?_) (by kernel_rfl) (fun wS hSw=>?_) ?_
     rotate_left
     ·have qx:=HQB.out wS hSw;go_simp;(try with_reducible rfl)
     (try simp only [Act.put,pu1,pu2,pu3])
     iterate 3
      refine wpPlan_take (v:=?_) (by kernel_rfl) (fun wS hSw=>?_) ?_
      rotate_left
      ·(try dsimp only at hSw);go_simp;(try with_reducible rfl)
      (try simp only [Act.put,pu1,pu2,pu3])
     refine wpPlan_take (v:=?_) (by kernel_rfl) (fun wS hSw=>?_) ?_
     rotate_left
     ·have qx:=HQF.out wS hSw;go_simp;(try with_reducible rfl)
     (try simp only [Act.put,pu1,pu2,pu3])
     refine wpPlan_call (by kernel_rfl) (fun K hK=>?_)
     have hOld:=hide hHeld
     clear hHeld
     go_simp
     go_at_call 31
     refine (At_any (i:=i) _ (HNW.out _ hOld.out) (by omega)).mono ?_
     rintro e w' ⟨A8,n8,c8,C8,m8,d8,rfl,-,-,-,-,hbel⟩
     have hf0:=nod_f0 (nodAt ns i) (.slice A8 n8 c8) (.slice C8 m8 d8)
     refine hK.out _ _ (hOld.out.trans (hbel.mono hOld.out.size)) (fun hHeld=>?_)
     clear hK K
     (try simp only [Act.put,pu1,pu2,pu3])
     iterate 7
      refine wpPlan_take (v:=?_) (by kernel_rfl) (fun wS hSw=>?_) ?_
      rotate_left
      ·(try dsimp only at hSw);go_simp;(try with_reducible rfl)
      (try simp only [Act.put,pu1,pu2,pu3])
     refine wpPlan_take (v:=?_) (by kernel_rfl) (fun wS hSw=>?_) ?_
     rotate_left
     ·have qx:=HQF.out wS hSw;go_simp;(try with_reducible rfl)
     (try simp only [Act.put,pu1,pu2,pu3])
     refine wpPlan_call (by kernel_rfl) (fun K hK=>?_)
     have hOld:=hide hHeld
     clear hHeld
     go_simp
     go_at_call 97
     refine (place_any (l:=S'.1) _ ((own_way (ownsRow_below O6.out hOld.out)).rd rfl).plain (by omega)).mono ?_
     rintro e w' ⟨r,rfl,rfl,hr⟩
     rw [hc] at hr
     refine hK.out _ _ (hOld.out) (fun hHeld=>?_)
     clear hK K
     (try simp only [Act.put,pu1,pu2,pu3])
     iterate 2
      refine wpPlan_take (v:=?_) (by kernel_rfl) (fun wS hSw=>?_) ?_
      rotate_left
      ·(try dsimp only at hSw);go_simp;(try with_reducible rfl)
      (try simp only [Act.put,pu1,pu2,pu3])
     refine wpPlan_end ?_
     clear hf0
     have hb6:=HBR.out.trans (hHeld.mono hbsz)
     have qx7:=HQF.out w' hHeld
     have HO6:=hide (ownsRow_below O6.out hHeld)
     have HO7:=hide (ownsRow_below O7.out hHeld)
     have HB6:=hide hb6
     have hs6:=hb6.size
     clear hHeld hb6
     go_wp2_with (refine wpList_litW rfl 89 (.tmp 42) rfl (.agg (wayC ⟨i,-1,[]⟩).toArray) _ rfl (lit_way ⟨i,-1,[]⟩ w') ?_;refine wpList_plain rfl fun K2 hK2=>?_;go_loud (refine wp_appF w' W1.heap.size _ rfl (.tmp 37) (.tmp 43) 89 92 rfl Tryz.underlying89 _ 3 32 way_info rfl (by omega) (by omega) A6 S'.1.length c6 (flatW S'.1) (wayC ⟨i,-1,[]⟩) rfl (wayC_one _) rfl HO6.out rfl (by omega) (by omega) ?_);intro A9 c9 w9 ho9 hg9;refine hK2 _ _ ?_;clear hK2 K2;have HO9:=hide ho9;have HT9:=hide (two_way HO6.out HO7.out (by decide) HB6.out hs6 hg9);clear ho9 hg9)
     clear qx7
     go_loopw [6,7,8] (fun v6 v7 v8 wr=>∃(p:Nat) (st:StW),v8=.int .i64 p∧p≤st.1.length∧OkW ns st.1∧st.2.length≤16*p∧runW ns (ns.length - p) p st=R∧TwoL W1.heap.size W1 ns st v6 v7 wr) (fun _ _ v8 _=>ns.length+1 - (intOf v8).toNat)
     case atStart=>exact ⟨S'.1.length,(S'.1++[⟨i,-1,[]⟩],S'.2),rfl,by simp,HOK1.out,htw,HRUN.out,A9,c9,A7,c7,by simp,rfl,by simpa [flatW_snoc] using HO9.out,HT9.out.1,HT9.out.2⟩
     case round =>
      obtain ⟨p,st,rfl,hp,hok2,htw2,hrun,B6,d6,B7,d7,rfl,rfl,hw6,hw7,hbw⟩:=hrel
      have hle2:=hok2.le
      by_cases hlt2:p < st.1.length
      ·obtain ⟨y,hy⟩:∃y,st.1[p]?=some y:=⟨_,List.getElem?_eq_getElem hlt2⟩
       obtain ⟨gW,hB6,hgW,hcW,hcy⟩:=way_at hw6 hy
       have hbsz2:=hbw.size
       have HQ1:=hide (fun W (hb:Below W1.heap.size W1 W)=>show W.cell? ⟨w.heap.size,0,none⟩=some (.slice A n c) from (HR1.out.on hb).cell 0)
       have HQY:=hide (fun W (hb:Below wr.heap.size wr W)=>show W.cell? ⟨gW,p*3,none⟩=some (.int .i64 y.ino) from (hb.cell (p:=⟨gW,p*3,none⟩) hgW).trans (hcy 0 _ rfl))
       have HY:=hide hy
       have HW6:=hide hw6
       have HW7:=hide hw7
       have HBW:=hide hbw
       have HOK2:=hide hok2
       obtain ⟨f,hf⟩:∃f,ns.length - p=f+1:=⟨ns.length - (p+1),by omega⟩
       have hf2:f=ns.length - (p+1):=by omega
       rw [hf] at hrun
       unfold runW at hrun
       rw [if_pos hlt2,hf2] at hrun
       have HRN:=hide hrun
       subst hB6
       clear hcy hy hw6 hw7 hbw hok2 hrun hf hf2
       have hpl:(p:Int) < (st.1.length:Int):=by omega
       go_wp2_with fail
       refine wp_region_planN (fun w'=>Below wr.heap.size wr w') [(0,true),(1,true),(2,true),(3,true),(4,true),(5,true),(6,false),(7,true),(8,true)] (by kernel_rfl) (by kernel_rfl) (by kernel_rfl) (by kernel_rfl) rfl (fun _ _ _ _ _ h=>h) (below_drew (below_self wr)) (fun hHeld=>?_)
       simp only [planOps,List.filterMap_cons,List.filterMap_nil,List.getElem?_toArray,List.getElem?_cons_succ,List.getElem?_cons_zero,Option.map_some]
       refine wpPlan_take (v:=?_) (by kernel_rfl) (fun wS hSw=>?_) ?_
       rotate_left
       ·have qx:=HQ1.out wS (HBW.out.trans (hSw.mono hbsz2));go_simp;(try with_reducible rfl)
       (try simp only [Act.put,pu1,pu2,pu3])
       iterate 4
        refine wpPlan_take (v:=?_) (by kernel_rfl) (fun wS hSw=>?_) ?_
        rotate_left
        ·(try dsimp only at hSw);go_simp;(try with_reducible rfl)
        (try simp only [Act.put,pu1,pu2,pu3])
       refine wpPlan_take (v:=?_) (by kernel_rfl) (fun wS hSw=>?_) ?_
       rotate_left
       ·have qx:=HQY.out wS hSw;go_simp;(try with_reducible rfl)
       (try simp only [Act.put,pu1,pu2,pu3])
       refine wpPlan_call (by kernel_rfl) (fun K hK=>?_)
       have hOld:=hide hHeld
       clear hHeld
       go_simp
       go_at_call 31
       refine (At_anyB (B:=W1.heap.size) (i:=y.ino) _ (HN1.out.under (HBW.out.trans (hOld.out.mono hbsz2)) (Nat.le_refl _)) (HBW.out.trans (hOld.out.mono hbsz2)).size (by omega)).mono ?_
       rintro e w' ⟨A8,n8,c8,C8,m8,d8,rfl,-,-,hmd8,hE,hbel⟩
       have hf5:=nod_f5 (nodAt ns y.ino) A8 C8 n8 c8 m8 d8
       refine hK.out _ _ (hOld.out.trans (hbel.mono hOld.out.size)) (fun hHeld=>?_)
       clear hK K
       (try simp only [Act.put,pu1,pu2,pu3])
       iterate 2
        refine wpPlan_take (v:=?_) (by kernel_rfl) (fun wS hSw=>?_) ?_
        rotate_left
        ·(try dsimp only at hSw);go_simp;(try with_reducible rfl)
        (try simp only [Act.put,pu1,pu2,pu3])
       refine wpPlan_end ?_
       have HE1:=hide (hE.mono (fun b hb=>((HBW.out.trans (hHeld.mono hbsz2)).block b hb).symm) (fun _ h=>h):RdE entEn W1 (Under W1.heap.size) C8 m8 (nodAt ns y.ino).ents)
       have hm16:m8≤16:=by rw [←hE.1];exact nodAt_ents HM.out y.ino
       have HVIS:=hide (entsW_all (ns:=ns) HY.out)
       have HT5:=hide (show TwoL W1.heap.size W1 ns st (.slice (some ⟨gW,0,none⟩) st.1.length d6) (.slice B7 st.2.length d7) w' from ⟨_,_,_,_,rfl,rfl,ownsRow_below HW6.out hHeld,ownsRow_below HW7.out hHeld,HBW.out.trans (hHeld.mono hbsz2)⟩)
       clear hE hHeld
       generalize w'=w5 at *
       go_wp2_with fail
       clear hf5
       go_loopw [6,7,11] (fun v6 v7 v11 wr=>∃q:Nat,q≤m8∧v11=.int .i64 q∧TwoL W1.heap.size W1 ns (entsW ns y.ino p st (nodAt ns y.ino).ents q) v6 v7 wr) (fun _ _ v11 _=>m8 - (intOf v11).toNat)
       case atStart=>exact ⟨0,by omega,rfl,by rw [entsW_zero];exact HT5.out⟩
       case round =>
        obtain ⟨q,hq,rfl,E6,f6,E7,f7,rfl,rfl,he6,he7,hbe⟩:=hrel
        have hok3:=entsW_ok (d:=y.ino) (p:=p) (l:=(nodAt ns y.ino).ents) (i:=q) HOK2.out
        have htw3:=entsW_tw (ns:=ns) (d:=y.ino) (p:=p) (s:=st) (l:=(nodAt ns y.ino).ents) (i:=q)
        have hle3:=hok3.le
        have hentl:=HE1.out.1
        by_cases hlt3:q < m8
        ·obtain ⟨e,he⟩:∃e,(nodAt ns y.ino).ents[q]?=some e:=⟨_,List.getElem?_eq_getElem (by omega)⟩
         obtain ⟨bE,oE,hC8,hbE,hcE⟩:=ent_get HE1.out he
         have HQS:=hide (fun W (hb:Below W1.heap.size W1 W)=>show W.cell? ⟨bE,oE+q*3,none⟩=some (.int .i64 e.slot) from (hb.cell (p:=⟨bE,oE+q*3,none⟩) hbE).trans (hcE 0 _ rfl))
         have HQI:=hide (fun W (hb:Below W1.heap.size W1 W)=>show W.cell? ⟨bE,oE+q*3+1,none⟩=some (.int .i64 e.ino) from (hb.cell (p:=⟨bE,oE+q*3+1,none⟩) hbE).trans (hcE 1 _ rfl))
         have HQN:=hide (fun W (hb:Below W1.heap.size W1 W)=>show W.cell? ⟨bE,oE+q*3+2,none⟩=some (.string ⟨e.name.toArray⟩) from (hb.cell (p:=⟨bE,oE+q*3+2,none⟩) hbE).trans (hcE 2 _ rfl))
         have HES:=hide (entsW_succ (ns:=ns) (d:=y.ino) (p:=p) (s:=st) he)
         have HYP:=hide (show (entsW ns y.ino p st (nodAt ns y.ino).ents q).1[p]?=some y from by
          obtain ⟨t,ht⟩:=entsW_pre (ns:=ns) (d:=y.ino) (p:=p) (s:=st) (l:=(nodAt ns y.ino).ents) (i:=q)
          rw [←ht,List.getElem?_append_left hlt2]
          exact HY.out)
         have hpl3:p < (entsW ns y.ino p st (nodAt ns y.ino).ents q).1.length:=(List.getElem?_eq_some_iff.1 HYP.out).1
         have HSQ:=hide (show slotQ ns (y.ino,q)=(y.ino,e.slot) from by simp [slotQ,he])
         subst hC8
         generalize entsW ns y.ino p st (nodAt ns y.ino).ents q=st3 at *
         have HE6:=hide he6
         have HE7:=hide he7
         have HBE:=hide hbe
         have hbsz3:=hbe.size
         have hqm:(q:Int) < (m8:Int):=by omega
         have hpl4:(p:Int) < (st3.1.length:Int):=by omega
         clear he hcE he6 he7 hbe hok3
         cases hd:isDir ns e.ino with
         | false =>
          have HN:=hide (show entsW ns y.ino p st (nodAt ns y.ino).ents (q+1)=st3 from by rw [HES.out,if_neg (by rw [hd];simp)])
          have hne:((nodAt ns e.ino).k != 1)=true:=by unfold isDir at hd;simpa using hd
          clear hd
          go_wp2_with fail
          refine wp_region_planN (fun w'=>Below wr.heap.size wr w') [(0,true),(1,true),(2,true),(3,true),(4,true),(5,true),(6,false),(7,true),(8,true)] (by kernel_rfl) (by kernel_rfl) (by kernel_rfl) (by kernel_rfl) rfl (fun _ _ _ _ _ h=>h) (below_drew (below_self wr)) (fun hHeld=>?_)
          simp only [planOps,List.filterMap_cons,List.filterMap_nil,List.getElem?_toArray,List.getElem?_cons_succ,List.getElem?_cons_zero,Option.map_some]
          refine wpPlan_take (v:=?_) (by kernel_rfl) (fun wS hSw=>?_) ?_
          rotate_left
          ·have qx:=HQ1.out wS (HBE.out.trans (hSw.mono hbsz3));go_simp;(try with_reducible rfl)
          (try simp only [Act.put,pu1,pu2,pu3])
          iterate 4
           refine wpPlan_take (v:=?_) (by kernel_rfl) (fun wS hSw=>?_) ?_
           rotate_left
           ·(try dsimp only at hSw);go_simp;(try with_reducible rfl)
           (try simp only [Act.put,pu1,pu2,pu3])
          refine wpPlan_take (v:=?_) (by kernel_rfl) (fun wS hSw=>?_) ?_
          rotate_left
          ·have qx:=HQI.out wS (HBE.out.trans (hSw.mono hbsz3));go_simp;(try with_reducible rfl)
          (try simp only [Act.put,pu1,pu2,pu3])
          refine wpPlan_call (by kernel_rfl) (fun K hK=>?_)
          have hOld:=hide hHeld
          clear hHeld
          go_simp
          go_at_call 31
          refine (At_anyB (B:=W1.heap.size) (i:=e.ino) _ (HN1.out.under (HBE.out.trans (hOld.out.mono hbsz3)) (Nat.le_refl _)) (HBE.out.trans (hOld.out.mono hbsz3)).size (by omega)).mono ?_
          rintro e' w' ⟨A9,n9,c9,C9,m9,d9,rfl,-,-,-,-,hbel⟩
          have hf0:=nod_f0 (nodAt ns e.ino) (.slice A9 n9 c9) (.slice C9 m9 d9)
          refine hK.out _ _ (hOld.out.trans (hbel.mono hOld.out.size)) (fun hHeld=>?_)
          clear hK K
          (try simp only [Act.put,pu1,pu2,pu3])
          iterate 2
           refine wpPlan_take (v:=?_) (by kernel_rfl) (fun wS hSw=>?_) ?_
           rotate_left
           ·(try dsimp only at hSw);go_simp;(try with_reducible rfl)
           (try simp only [Act.put,pu1,pu2,pu3])
          refine wpPlan_end ?_
          clear hf0
          go_wp2_with fail
          go_roundw
          case rel=>exact ⟨q+1,by omega,by go_num,by rw [HN.out];exact ⟨_,_,_,_,rfl,rfl,ownsRow_below HE6.out hHeld,ownsRow_below HE7.out hHeld,HBE.out.trans (hHeld.mono hbsz3)⟩⟩
          case measure=>simp [intOf];omega
         | true =>
          have hne:((nodAt ns e.ino).k != 1)=false:=by unfold isDir at hd;simpa using hd
          cases hc:cameW st3.1 e.ino with
          | true =>
           have HN:=hide (show entsW ns y.ino p st (nodAt ns y.ino).ents (q+1)=(st3.1,st3.2++[(y.ino,q)]) from by rw [HES.out,if_pos hd];unfold oneW;rw [if_pos hc])
           clear hd
           go_wp2_with fail
           refine wp_region_planN (fun w'=>Below wr.heap.size wr w') [(0,true),(1,true),(2,true),(3,true),(4,true),(5,true),(6,false),(7,true),(8,true)] (by kernel_rfl) (by kernel_rfl) (by kernel_rfl) (by kernel_rfl) rfl (fun _ _ _ _ _ h=>h) (below_drew (below_self wr)) (fun hHeld=>?_)
           simp only [planOps,List.filterMap_cons,List.filterMap_nil,List.getElem?_toArray,List.getElem?_cons_succ,List.getElem?_cons_zero,Option.map_some]
           refine wpPlan_take (v:=?_) (by kernel_rfl) (fun wS hSw=>?_) ?_
           rotate_left
           ·have qx:=HQ1.out wS (HBE.out.trans (hSw.mono hbsz3));go_simp;(try with_reducible rfl)
           (try simp only [Act.put,pu1,pu2,pu3])
           iterate 4
            refine wpPlan_take (v:=?_) (by kernel_rfl) (fun wS hSw=>?_) ?_
            rotate_left
            ·(try dsimp only at hSw);go_simp;(try with_reducible rfl)
            (try simp only [Act.put,pu1,pu2,pu3])
           refine wpPlan_take (v:=?_) (by kernel_rfl) (fun wS hSw=>?_) ?_
           rotate_left
           ·have qx:=HQI.out wS (HBE.out.trans (hSw.mono hbsz3));go_simp;(try with_reducible rfl)
           (try simp only [Act.put,pu1,pu2,pu3])
           refine wpPlan_call (by kernel_rfl) (fun K hK=>?_)
           have hOld:=hide hHeld
           clear hHeld
           go_simp
           go_at_call 31
           refine (At_anyB (B:=W1.heap.size) (i:=e.ino) _ (HN1.out.under (HBE.out.trans (hOld.out.mono hbsz3)) (Nat.le_refl _)) (HBE.out.trans (hOld.out.mono hbsz3)).size (by omega)).mono ?_
           rintro e' w' ⟨A9,n9,c9,C9,m9,d9,rfl,-,-,-,-,hbel⟩
           have hf0:=nod_f0 (nodAt ns e.ino) (.slice A9 n9 c9) (.slice C9 m9 d9)
           refine hK.out _ _ (hOld.out.trans (hbel.mono hOld.out.size)) (fun hHeld=>?_)
           clear hK K
           (try simp only [Act.put,pu1,pu2,pu3])
           iterate 2
            refine wpPlan_take (v:=?_) (by kernel_rfl) (fun wS hSw=>?_) ?_
            rotate_left
            ·(try dsimp only at hSw);go_simp;(try with_reducible rfl)
            (try simp only [Act.put,pu1,pu2,pu3])
           refine wpPlan_end ?_
           clear hf0
           have HP6:=hide (ownsRow_below HE6.out hHeld)
           have HP7:=hide (ownsRow_below HE7.out hHeld)
           have HBP:=hide (HBE.out.trans (hHeld.mono hbsz3))
           clear hHeld
           generalize w'=wp at *
           have qi:=HQI.out wp HBP.out
           go_wp2_with fail
           refine (place_any (l:=st3.1) wp ((own_way HP6.out).rd rfl).plain (by omega)).mono ?_
           rintro e2 ww ⟨r,rfl,rfl,hr⟩
           rw [hc] at hr
           clear qi
           go_wp2_with fail
           have HD6:=hide HP6.out.drew
           have HD7:=hide HP7.out.drew
           have hBd:=below_drew HBP.out
           have hbd:=HBP.out.size
           have HBD:=hide hBd
           have hbd2:W1.heap.size≤wp.drew.heap.size:=hbd
           clear hBd
           obtain ⟨gW2,hE6,hgW2,-,hcy2⟩:=way_at HP6.out HYP.out
           have hcy3:wp.drew.cell? ⟨gW2,p*3,none⟩=some (.int .i64 y.ino):=hcy2 0 _ rfl
           have hgd:gW2 < wp.drew.heap.size:=hgW2
           subst hE6
           clear hcy2
           refine wp_region_planN (fun w'=>Below W1.heap.size W1 w'∧w'.cell? ⟨gW2,p*3,none⟩=some (.int .i64 y.ino)) [(0,true),(1,true),(2,true),(3,true),(4,true),(5,true),(6,true),(7,true),(8,true),(9,true),(10,true),(11,true),(12,false),(13,false),(14,true)] (by kernel_rfl) (by kernel_rfl) (by kernel_rfl) (by kernel_rfl) rfl (fun _ _ _ _ _ h=>h) ⟨HBD.out,hcy3⟩ (fun hHeld=>?_)
           generalize wp.drew=wd at *
           simp only [planOps,List.filterMap_cons,List.filterMap_nil,List.getElem?_toArray,List.getElem?_cons_succ,List.getElem?_cons_zero,Option.map_some]
           iterate 5
            refine wpPlan_take (v:=?_) (by kernel_rfl) (fun wS hSw=>?_) ?_
            rotate_left
            ·(try dsimp only at hSw);go_simp;(try with_reducible rfl)
            (try simp only [Act.put,pu1,pu2,pu3])
           refine wpPlan_take (v:=?_) (by kernel_rfl) (fun wS hSw=>?_) ?_
           rotate_left
           ·have qx:=hSw.2;go_simp;(try with_reducible rfl)
           (try simp only [Act.put,pu1,pu2,pu3])
           iterate 4
            refine wpPlan_take (v:=?_) (by kernel_rfl) (fun wS hSw=>?_) ?_
            rotate_left
            ·(try dsimp only at hSw);go_simp;(try with_reducible rfl)
            (try simp only [Act.put,pu1,pu2,pu3])
           refine wpPlan_take (v:=?_) (by kernel_rfl) (fun wS hSw=>?_) ?_
           rotate_left
           ·have qx:=HQS.out wS hSw.1;go_simp;(try with_reducible rfl)
           (try simp only [Act.put,pu1,pu2,pu3])
           refine wpPlan_take (v:=?_) (by kernel_rfl) (fun wS hSw=>?_) ?_
           rotate_left
           ·(try dsimp only at hSw);go_simp;(try with_reducible rfl)
           (try simp only [Act.put,pu1,pu2,pu3])
           refine wpPlan_call (by kernel_rfl) (fun K hK=>?_)
           have hOld:=hide hHeld
           clear hHeld
           unfold Oper.wp execOp
           have hlit:=lit_pr (y.ino,e.slot) wd
           unfold prC at hlit
           go_simp
           refine hK.out _ _ (⟨hOld.out.1.trans ((below_new (below_self wd) (.cells (prC (y.ino,e.slot)).toArray 137)).mono hOld.out.1.size),((below_new (below_self wd) (.cells (prC (y.ino,e.slot)).toArray 137)).cell (p:=⟨gW2,p*3,none⟩) hgd).trans hOld.out.2⟩) (fun hHeld=>?_)
           clear hK K
           (try simp only [Act.put,pu1,pu2,pu3])
           refine wpPlan_call (by kernel_rfl) (fun K hK=>?_)
           have hOld:=hide hHeld
           clear hHeld
           refine wp_appF wd W1.heap.size wd.heap.size rfl (.tmp 80) (.tmp 92) 112 137 rfl Tryz.underlying112 _ 2 16 pr_info rfl (by omega) (by omega) E7 st3.2.length f7 _ (prC (y.ino,e.slot)) rfl (by simp [prC,Value.oneCell']) rfl HD7.out rfl (by omega) hbd2 ?_
           intro A6x c6x w6 ho6 hg6
           have HO6x:=hide ho6
           have HT6:=hide (two_way HD7.out HD6.out (by decide) HBD.out hbd2 hg6)
           have hsame:=cell_same (o:=p*3) (hg6.block gW2 (by simp;omega) (fun e'=>by rcases owns_apart (ownsRow_below HD7.out (below_new (below_self wd) (.cells (prC (y.ino,e.slot)).toArray 137))) (ownsRow_below HD6.out (below_new (below_self wd) (.cells (prC (y.ino,e.slot)).toArray 137))) (by decide) with h|h;cases h;exact h e'))
           clear ho6 hg6
           refine hK.out _ _ (⟨HT6.out.2,hsame.trans hOld.out.2⟩) (fun hHeld=>?_)
           clear hK K
           clear hsame
           (try simp only [Act.put,pu1,pu2,pu3])
           refine wpPlan_take (v:=?_) (by kernel_rfl) (fun wS hSw=>?_) ?_
           rotate_left
           ·(try dsimp only at hSw);go_simp;(try with_reducible rfl)
           (try simp only [Act.put,pu1,pu2,pu3])
           refine wpPlan_end ?_
           clear hcy3
           go_wp2_with fail
           go_roundw
           case rel=>exact ⟨q+1,by omega,by go_num,by rw [HN.out];exact ⟨_,_,A6x,c6x,rfl,by simp,HT6.out.1,by rw [show twiceS ns (st3.1,st3.2++[(y.ino,q)])=twiceS ns st3++[(y.ino,e.slot)] from by unfold twiceS;rw [List.map_append,List.map_cons,List.map_nil,HSQ.out],flatR_snoc,List.length_append];exact HO6x.out,HT6.out.2⟩⟩
           case measure=>simp [intOf];omega
          | false =>
           have HN:=hide (show entsW ns y.ino p st (nodAt ns y.ino).ents (q+1)=(st3.1++[⟨e.ino,p,e.name⟩],st3.2) from by rw [HES.out,if_pos hd];unfold oneW;rw [if_neg (by rw [hc];simp)])
           clear hd
           go_wp2_with fail
           refine wp_region_planN (fun w'=>Below wr.heap.size wr w') [(0,true),(1,true),(2,true),(3,true),(4,true),(5,true),(6,false),(7,true),(8,true)] (by kernel_rfl) (by kernel_rfl) (by kernel_rfl) (by kernel_rfl) rfl (fun _ _ _ _ _ h=>h) (below_drew (below_self wr)) (fun hHeld=>?_)
           simp only [planOps,List.filterMap_cons,List.filterMap_nil,List.getElem?_toArray,List.getElem?_cons_succ,List.getElem?_cons_zero,Option.map_some]
           refine wpPlan_take (v:=?_) (by kernel_rfl) (fun wS hSw=>?_) ?_
           rotate_left
           ·have qx:=HQ1.out wS (HBE.out.trans (hSw.mono hbsz3));go_simp;(try with_reducible rfl)
           (try simp only [Act.put,pu1,pu2,pu3])
           iterate 4
            refine wpPlan_take (v:=?_) (by kernel_rfl) (fun wS hSw=>?_) ?_
            rotate_left
            ·(try dsimp only at hSw);go_simp;(try with_reducible rfl)
            (try simp only [Act.put,pu1,pu2,pu3])
           refine wpPlan_take (v:=?_) (by kernel_rfl) (fun wS hSw=>?_) ?_
           rotate_left
           ·have qx:=HQI.out wS (HBE.out.trans (hSw.mono hbsz3));go_simp;(try with_reducible rfl)
           (try simp only [Act.put,pu1,pu2,pu3])
           refine wpPlan_call (by kernel_rfl) (fun K hK=>?_)
           have hOld:=hide hHeld
           clear hHeld
           go_simp
           go_at_call 31
           refine (At_anyB (B:=W1.heap.size) (i:=e.ino) _ (HN1.out.under (HBE.out.trans (hOld.out.mono hbsz3)) (Nat.le_refl _)) (HBE.out.trans (hOld.out.mono hbsz3)).size (by omega)).mono ?_
           rintro e' w' ⟨A9,n9,c9,C9,m9,d9,rfl,-,-,-,-,hbel⟩
           have hf0:=nod_f0 (nodAt ns e.ino) (.slice A9 n9 c9) (.slice C9 m9 d9)
           refine hK.out _ _ (hOld.out.trans (hbel.mono hOld.out.size)) (fun hHeld=>?_)
           clear hK K
           (try simp only [Act.put,pu1,pu2,pu3])
           iterate 2
            refine wpPlan_take (v:=?_) (by kernel_rfl) (fun wS hSw=>?_) ?_
            rotate_left
            ·(try dsimp only at hSw);go_simp;(try with_reducible rfl)
            (try simp only [Act.put,pu1,pu2,pu3])
           refine wpPlan_end ?_
           clear hf0
           have HP6:=hide (ownsRow_below HE6.out hHeld)
           have HP7:=hide (ownsRow_below HE7.out hHeld)
           have HBP:=hide (HBE.out.trans (hHeld.mono hbsz3))
           clear hHeld
           generalize w'=wp at *
           have qi:=HQI.out wp HBP.out
           go_wp2_with fail
           refine (place_any (l:=st3.1) wp ((own_way HP6.out).rd rfl).plain (by omega)).mono ?_
           rintro e2 ww ⟨r,rfl,rfl,hr⟩
           rw [hc] at hr
           clear qi
           go_wp2_with fail
           have HD6:=hide HP6.out.drew
           have HD7:=hide HP7.out.drew
           have hBd:=below_drew HBP.out
           have hbd:=HBP.out.size
           have HBD:=hide hBd
           have hbd2:W1.heap.size≤wp.drew.heap.size:=hbd
           clear hBd
           refine wp_region_planN (fun w'=>Below W1.heap.size W1 w') [(0,true),(1,true),(2,true),(3,true),(4,true),(5,true),(6,true),(7,true),(8,true),(9,true),(10,true),(11,true),(12,true),(13,false),(14,false),(15,true)] (by kernel_rfl) (by kernel_rfl) (by kernel_rfl) (by kernel_rfl) rfl (fun _ _ _ _ _ h=>h) HBD.out (fun hHeld=>?_)
           generalize wp.drew=wd at *
           simp only [planOps,List.filterMap_cons,List.filterMap_nil,List.getElem?_toArray,List.getElem?_cons_succ,List.getElem?_cons_zero,Option.map_some]
           iterate 5
            refine wpPlan_take (v:=?_) (by kernel_rfl) (fun wS hSw=>?_) ?_
            rotate_left
            ·(try dsimp only at hSw);go_simp;(try with_reducible rfl)
            (try simp only [Act.put,pu1,pu2,pu3])
           refine wpPlan_take (v:=?_) (by kernel_rfl) (fun wS hSw=>?_) ?_
           rotate_left
           ·have qx:=HQI.out wS hSw;go_simp;(try with_reducible rfl)
           (try simp only [Act.put,pu1,pu2,pu3])
           iterate 5
            refine wpPlan_take (v:=?_) (by kernel_rfl) (fun wS hSw=>?_) ?_
            rotate_left
            ·(try dsimp only at hSw);go_simp;(try with_reducible rfl)
            (try simp only [Act.put,pu1,pu2,pu3])
           refine wpPlan_take (v:=?_) (by kernel_rfl) (fun wS hSw=>?_) ?_
           rotate_left
           ·have qx:=HQN.out wS hSw;go_simp;(try with_reducible rfl)
           (try simp only [Act.put,pu1,pu2,pu3])
           refine wpPlan_take (v:=?_) (by kernel_rfl) (fun wS hSw=>?_) ?_
           rotate_left
           ·(try dsimp only at hSw);go_simp;(try with_reducible rfl)
           (try simp only [Act.put,pu1,pu2,pu3])
           refine wpPlan_call (by kernel_rfl) (fun K hK=>?_)
           have hOld:=hide hHeld
           clear hHeld
           unfold Oper.wp execOp
           have hlit:=lit_way ⟨e.ino,p,e.name⟩ wd
           unfold wayC at hlit
           go_simp
           refine hK.out _ _ (hOld.out.trans ((below_new (below_self wd) (.cells (wayC ⟨e.ino,p,e.name⟩).toArray 92)).mono hOld.out.size)) (fun hHeld=>?_)
           clear hK K
           (try simp only [Act.put,pu1,pu2,pu3])
           refine wpPlan_call (by kernel_rfl) (fun K hK=>?_)
           have hOld:=hide hHeld
           clear hHeld
           refine wp_appF wd W1.heap.size wd.heap.size rfl (.tmp 94) (.tmp 107) 89 92 rfl Tryz.underlying89 _ 3 32 way_info rfl (by omega) (by omega) E6 st3.1.length f6 _ (wayC ⟨e.ino,p,e.name⟩) rfl (by simp [wayC,Value.oneCell']) rfl HD6.out rfl (by omega) hbd2 ?_
           intro A6x c6x w6 ho6 hg6
           have HO6x:=hide ho6
           have HT6:=hide (two_way HD6.out HD7.out (by decide) HBD.out hbd2 hg6)
           clear ho6 hg6
           refine hK.out _ _ (HT6.out.2) (fun hHeld=>?_)
           clear hK K
           (try simp only [Act.put,pu1,pu2,pu3])
           refine wpPlan_take (v:=?_) (by kernel_rfl) (fun wS hSw=>?_) ?_
           rotate_left
           ·(try dsimp only at hSw);go_simp;(try with_reducible rfl)
           (try simp only [Act.put,pu1,pu2,pu3])
           refine wpPlan_end ?_
           go_wp2_with fail
           go_roundw
           case rel=>exact ⟨q+1,by omega,by go_num,by rw [HN.out];exact ⟨A6x,c6x,_,_,by simp,rfl,by rw [flatW_snoc,List.length_append];exact HO6x.out,HT6.out.1,HT6.out.2⟩⟩
           case measure=>simp [intOf];omega
        ·obtain rfl:q=m8:=by omega
         have hvis:entsW ns y.ino p st (nodAt ns y.ino).ents q=visitW ns p st:=by rw [←hentl];exact HVIS.out
         rw [hvis] at he6 he7 hok3 htw3 hle3 ⊢
         have HX6:=hide he6
         have HX7:=hide he7
         have HBX:=hide hbe
         have hpre:=(visit_pre (ns:=ns) (p:=p) (s:=st)).length_le
         have HOK3:=hide hok3
         clear he6 he7 hbe hvis hok3
         go_wp2_with fail
         go_roundw
         case rel=>exact ⟨p+1,visitW ns p st,by go_num,by omega,HOK3.out,by omega,HRN.out,_,_,_,_,rfl,rfl,HX6.out,HX7.out,HBX.out⟩
         case measure=>simp [intOf];omega
      ·obtain rfl:p=st.1.length:=by omega
       have hst:=run_stop (ns:=ns) (p:=st.1.length) (s:=st) hlt2 (ns.length - st.1.length)
       rw [hst] at hrun
       subst hrun
       have HW6:=hide hw6
       have HW7:=hide hw7
       have HBW:=hide hbw
       clear hw6 hw7 hbw hst
       go_wp2_with fail
       go_roundw
       case rel=>exact ⟨j+1,by omega,by go_num,by rw [HTW.out,HR.out],by rw [HTW.out,HR.out];exact ⟨_,_,_,_,rfl,rfl,HW6.out,HW7.out,HBW.out⟩⟩
       case measure=>simp [intOf];omega
  ·obtain rfl:j=k:=by omega
   have hall:ff.take j=ff:=List.take_of_length_le (by rw [HFL.out];exact Nat.le_refl _)
   rw [hall] at O6 O7 hle ⊢
   go_wp2_with fail
   refine bodyPost_ret (v:=.tuple #[.slice A6 (walkW ns ff).1.length c6,.slice A7 (walkW ns ff).2.length c7]) (by simp [results,Tryz.results70,go_sem]) rfl ⟨A6,c6,A7,c7,rfl,(own_way O6.out).cap,(own_pr O7.out).cap,(way_fresh O6.out).mono (fun _ _=>rfl) (fun b hb=>⟨Nat.le_trans HB1.out.size hb.1,hb.2⟩),((own_pr O7.out).rd rfl).plain,HB1.out.trans (HBR.out.mono HB1.out.size)⟩
end Go.Proofs.YtpndfahgflgocaaGreatDoor

