import Derived.Test.YthdoimgbbabcaaaGreatWt35
import Derived.Test.YthdoimgbbabcaaaGreatWt21
import Derived.Test.YthdoimgbbabcaaaGreatWt29
import Derived.Test.YthdoimgbbabcaaaGreatWt28
import Derived.Test.YthdoimgbbabcaaaGreatWt30
import Derived.Test.YthdoimgbbabcaaaGreatWt31
import Derived.Test.YthdoimgbbabcaaaGreatWt3

namespace Go.Proofs.YthdoimgbbabcaaaGreat
open Go.RowKit Go.Shelf Plain

theorem take_names {p:EntV→Bool} {l:List EntV} {i:Nat} {e:EntV} {b:Bool} (h:l[i]?=some e) (hb:p e=b):((l.take (i+1)).filter p).map EntV.name=if b=true then ((l.take i).filter p).map EntV.name++[e.name] else ((l.take i).filter p).map EntV.name:=by
 rw [take_filter h hb]
 cases b <;> simp
theorem take_map {l:List EntV} {i:Nat} {e:EntV} (h:l[i]?=some e):(l.take (i+1)).map EntV.name=(l.take i).map EntV.name++[e.name]:=by
 rw [List.take_add_one,h,Option.toList_some,List.map_append]
 rfl
set_option maxRecDepth 100000 in
set_option maxHeartbeats 8000000 in
theorem WNames_any {g:GeoQ} {AU AL:Option Addr} {nU cU nL cL B:Nat} {up:List NodV} {u:Int} {AV:Option Addr} {nV cV:Nat} (w:World) (hu:RdE nodEn w (Under B) AU nU up) (hB:B≤w.heap.size) (hup:FewU up):Calls Tryz.prog 53 #[.agg (stkC g (.slice AU nU cU) (.slice AL nL cL)).toArray,.agg (viwC u (.slice AV nV cV)).toArray] w (NamesO w (wnamesW up u)):=by
 obtain ⟨W1,hW1⟩:∃W1,((w.alloc (.cells (stkC g (.slice AU nU cU) (.slice AL nL cL)).toArray 29)).alloc (.cells (viwC u (.slice AV nV cV)).toArray 47))=W1:=⟨_,rfl⟩
 obtain ⟨r0,r1,hb1,hs1⟩:=rowA2 w _ _ _ _ hW1
 have hW1':((w.alloc (.cells #[.int .i64 g.a,.int .i64 g.b,.int .i64 g.c,.int .i64 g.d,.slice AU nU cU,.slice AL nL cL] 29)).alloc (.cells #[.int .i64 u,.slice AV nV cV] 47))=W1:=hW1
 have R2:=hide r0
 have R3:=hide r1
 have HB:=hide hb1
 have hsz0:=hb1.size
 have HU:=hide (hu.under hb1 hB)
 have HFU:=hide hup
 obtain ⟨L,hL⟩:∃L,whitesW up u=L:=⟨_,rfl⟩
 have hll:L.length≤16:=by rw [←hL];exact whites_len hup u
 have HWT:=hide (show wnamesW up u=sortS (L.map EntV.name) from by unfold wnamesW;rw [hL])
 have HLW:=hide hL
 unfold stkC viwC
 clear r0 r1 hb1 hW1 hu hup hL
 go_enter Tryz.func53,Tryz.ntmps53
 go_wp2_with (first|(refine wpList_loadW rfl 29 (.tmp 2) rfl 6 stk_agg stk_size (w.heap.size) 29 rfl (stkC g (.slice AU nU cU) (.slice AL nL cL)) R2.out rfl ?_)|(refine wpList_loadW rfl 47 (.tmp 3) rfl 2 viw_agg viw_size (w.heap.size+1) 47 rfl (viwC u (.slice AV nV cV)) R3.out rfl ?_)|(go_at_call 106;refine (Whites_any (u:=u) (cV:=cV) W1 HU.out (by omega) HFU.out).mono ?_;rintro e1 wE ⟨A1,m,c1,rfl,hE,hbel⟩;replace HB:=hide (HB.out.trans (hbel.mono HB.out.size));replace R2:=hide (R2.out.on hbel);replace R3:=hide (R3.out.on hbel);replace HU:=hide (HU.out.under hbel (by omega));have hsz2:=hbel.size;rw [HLW.out] at hE;have HE:=hide ((hE.rd rfl).plain);clear hE;clear hbel))
 have hm16:m≤16:=by have:=HE.out.1;omega
 have hWE:w.heap.size≤wE.heap.size:=HB.out.size
 clear hW1'
 go_loopw [5,12] (fun v5 v12 wr=>∃(i n5:Nat) (A5:Option Addr) (c5:Nat),i≤m∧v12=.int .i64 i∧v5=.slice A5 n5 c5∧n5≤i∧Ow st wr wE.heap.size 9 A5 n5 c5 ((L.take i).map EntV.name)∧Below wE.heap.size wE wr) (fun _ v12 _=>m - (intOf v12).toNat)
 case atStart=>exact ⟨0,0,none,0,by omega,rfl,rfl,by omega,Ow.nil_ _ _ _ _,Below.refl _ _⟩
 case round =>
  obtain ⟨i,n5,A5,c5,hi,rfl,rfl,hn5,ho,hbr⟩:=hrel
  have hbsz:=hbr.size
  have HBR:=hide hbr
  have HO:=hide ho
  have HEr:=hide (HE.out.mono (fun b hb=>hbr.block b hb) (fun _ h=>h):RdE entEn wr (Under wE.heap.size) A1 m L)
  clear ho hbr
  by_cases hlt:i < m
  ·obtain ⟨e,he⟩:∃e,L[i]?=some e:=⟨_,List.getElem?_eq_getElem (by have:=HE.out.1;omega)⟩
   obtain ⟨bE,oE,rfl,hbE,hcE⟩:=ent_get HEr.out he
   have HCE:=hide hcE
   have HT:=hide (take_map he)
   have him:(i:Int) < (m:Int):=by omega
   clear he hcE
   go_wp2_with (first|(refine wpList_loadX rfl 42 (.tmp 14) rfl 3 entw_agg entw_size bE (oE+i*3) rfl (cellsE e) HCE.out rfl ?_)|(refine wpList_storeW rfl 42 (.tmp 7) (.tmp 15) rfl 3 entw_size (wr.heap.size) 42 rfl [.int .i64 0,.int .i64 0,.string ⟨#[]⟩] (cellsE e) rfl (RowL.new wr 42 [.int .i64 0,.int .i64 0,.string ⟨#[]⟩]) rfl rfl (cellsE_one _) ?_;intro wS61 hr61 hg61 hs61;have hzb:=below_stored' hg61;replace HBR:=hide (HBR.out.trans (hzb.mono (by omega)));replace HO:=hide (HO.out.below hzb);have hsz62:=hzb.size;have RE:=hide hr61;have hlt61:=hr61.lt;have q7_2:wS61.cell? ⟨wr.heap.size,2,none⟩=some (.string ⟨e.name.toArray⟩):=RE.out.cell 2;clear hzb hr61;clear hg61 hs61)|(at_builtin;refine wpList_append_Rd (f:=st) _ rfl (.tmp 16) (.tmp 19) 54 rfl wE.heap.size 9 _ 16 Tryz.underlying54 info_st rfl (fun _=>rfl) A5 n5 c5 _ rfl (HO.out.below (below_new (below_self wS61) _)) _ _ 1 1 [e.name] rfl (Rd.one _ _ rfl) (n5+1) rfl (by omega) (by omega) (by simp;omega) ?_;intro A7 c7 w7 ho7 hb7;have HO7:=hide ho7;have HB7:=hide ((HBR.out.alloc (by omega) _).trans hb7);clear ho7 hb7))
   go_roundw
   case rel=>exact ⟨i+1,n5+1,A7,c7,by omega,by go_num,rfl,by omega,by rw [HT.out];exact HO7.out,HB7.out⟩
   case measure=>simp [intOf];omega
  ·obtain rfl:m=i:=by omega
   have hnlt:¬((m:Int) < (m:Int)):=by omega
   have ho:=HO.out
   rw [List.take_of_length_le (by have:=HE.out.1;omega)] at ho
   have HO5:=hide ho
   clear ho
   go_wp2_with fail
   refine (NSort_any wr HO5.out.rd (by omega)).mono ?_
   rintro ez w3 ⟨A3,c3,rfl,ho3,hb3⟩
   have HO3:=hide ho3
   have HB3:=hide (HB.out.trans ((HBR.out.trans (hb3.mono hbsz)).mono hWE))
   clear hb3 ho3
   go_wp2_with fail
   go_ret
   rw [HWT.out]
   exact ⟨A3,_,c3,rfl,HO3.out.rebase (by omega),HB3.out⟩
set_option maxRecDepth 100000 in
set_option maxHeartbeats 8000000 in
theorem RWNames_any {g:GeoQ} {AU AL:Option Addr} {nU cU nL cL B:Nat} {up:List NodV} {u:Int} {AV:Option Addr} {nV cV:Nat} (w:World) (hu:RdE nodEn w (Under B) AU nU up) (hB:B≤w.heap.size) (hup:FewU up):Calls Tryz.prog 54 #[.agg (stkC g (.slice AU nU cU) (.slice AL nL cL)).toArray,.agg (viwC u (.slice AV nV cV)).toArray] w (NamesO w (wnamesW up u)):=by
 obtain ⟨W1,hW1⟩:∃W1,((w.alloc (.cells (stkC g (.slice AU nU cU) (.slice AL nL cL)).toArray 29)).alloc (.cells (viwC u (.slice AV nV cV)).toArray 47))=W1:=⟨_,rfl⟩
 obtain ⟨r0,r1,hb1,hs1⟩:=rowA2 w _ _ _ _ hW1
 have hW1':((w.alloc (.cells #[.int .i64 g.a,.int .i64 g.b,.int .i64 g.c,.int .i64 g.d,.slice AU nU cU,.slice AL nL cL] 29)).alloc (.cells #[.int .i64 u,.slice AV nV cV] 47))=W1:=hW1
 have R2:=hide r0
 have R3:=hide r1
 have HB:=hide hb1
 have hsz0:=hb1.size
 have HU:=hide (hu.under hb1 hB)
 have HFU:=hide hup
 obtain ⟨N,hN⟩:∃N,nodAt up u=N:=⟨_,rfl⟩
 have hel:N.ents.length≤16:=by rw [←hN];exact (nodAt_plain hup.2 u).2.2.2.2.1
 have HN:=hide hN
 have HWT:=hide (show wnamesW up u=sortS ((N.ents.filter (whiE up)).map EntV.name) from by unfold wnamesW whitesW;rw [hN])
 obtain ⟨W2,hW2⟩:∃W2,W1.alloc (.cells #[] 9)=W2:=⟨_,rfl⟩
 have ho0:Ow st (W1.alloc (.cells #[] 9)) W1.heap.size 9 (some ⟨W1.heap.size,0,none⟩) 0 0 []:=own_lit0 W1 9 1 (base:=W1.heap.size) rfl (Nat.le_refl _)
 have hb2:=below_new (below_self W1) (.cells #[] 9)
 rw [hW2] at ho0 hb2
 have HO0:=hide ho0
 replace HB:=hide (HB.out.trans (hb2.mono HB.out.size))
 replace R2:=hide (R2.out.on hb2)
 replace R3:=hide (R3.out.on hb2)
 replace HU:=hide (HU.out.under hb2 (by omega))
 have hsz1:=hb2.size
 have q2_4:W2.cell? ⟨w.heap.size,4,none⟩=some (.slice AU nU cU):=R2.out.cell 4
 have q3_0:W2.cell? ⟨w.heap.size+1,0,none⟩=some (.int .i64 u):=R3.out.cell 0
 clear ho0 hb2
 unfold stkC viwC
 have hs1':w.heap.size+2≤W1.heap.size:=by omega
 clear r0 r1 hb1 hW1 hu hup hN hs1
 go_enter Tryz.func54,Tryz.ntmps54
 go_wp2_with (first|(go_at_call 101;refine (At_e HN.out W2 HU.out (by omega) (by have:=HFU.out.1;omega)).mono ?_;rintro e2 wA ⟨D1,n1,c1,C1,m,d1,rfl,-,hD,hmd,hE,hbel⟩;clear hD hmd;clear q2_4 q3_0;replace HB:=hide (HB.out.trans (hbel.mono HB.out.size));replace R2:=hide (R2.out.on hbel);replace R3:=hide (R3.out.on hbel);replace HU:=hide (HU.out.under hbel (by omega));replace HO0:=hide (HO0.out.below hbel);have hsz3:=hbel.size;have q2_4:wA.cell? ⟨w.heap.size,4,none⟩=some (.slice AU nU cU):=R2.out.cell 4;have q3_0:wA.cell? ⟨w.heap.size+1,0,none⟩=some (.int .i64 u):=R3.out.cell 0;have HE:=hide hE;clear hE;clear hbel)|(refine wpList_storeW rfl 38 (.tmp 6) (.tmp 13) rfl 13 nod_size (wA.heap.size) 38 rfl (nodC nod0 (.slice none 0 0) (.slice none 0 0)) (nodC N (.slice D1 n1 c1) (.slice C1 m d1)) rfl (RowL.new wA 38 (nodC nod0 (.slice none 0 0) (.slice none 0 0))) rfl rfl (nodC_one _ _ _ _ _ _ _) ?_;intro wS4 hr4 hg4 hs4;have hzb:=below_stored' hg4;clear q2_4 q3_0;replace HB:=hide (HB.out.trans (hzb.mono HB.out.size));replace R2:=hide (R2.out.on hzb);replace R3:=hide (R3.out.on hzb);replace HU:=hide (HU.out.under hzb (by omega));replace HO0:=hide (HO0.out.below hzb);replace HE:=hide (HE.out.under hzb (by omega));have hsz5:=hzb.size;have q2_4:wS4.cell? ⟨w.heap.size,4,none⟩=some (.slice AU nU cU):=R2.out.cell 4;have q3_0:wS4.cell? ⟨w.heap.size+1,0,none⟩=some (.int .i64 u):=R3.out.cell 0;have RN:=hide hr4;have hlt4:=hr4.lt;have q6_5:wS4.cell? ⟨wA.heap.size,5,none⟩=some (.slice C1 m d1):=RN.out.cell 5;clear hzb hr4;clear hg4 hs4))
 have hm16:m≤16:=by have:=HE.out.1;omega
 have hW1w:w.heap.size≤W1.heap.size:=hsz0
 go_loopw [5,7] (fun v5 v7 wr=>∃(i n5:Nat) (A5:Option Addr) (c5:Nat),i≤m∧v7=.int .i64 i∧v5=.slice A5 n5 c5∧n5≤i∧Ow st wr W1.heap.size 9 A5 n5 c5 (((N.ents.take i).filter (whiE up)).map EntV.name)∧Below W1.heap.size wS4 wr∧RowL wr (wA.heap.size) 38 (nodC N (.slice D1 n1 c1) (.slice C1 m d1))) (fun _ v7 _=>m - (intOf v7).toNat)
 case atStart=>exact ⟨0,0,_,0,by omega,rfl,rfl,by omega,HO0.out,Below.refl _ _,RN.out⟩
 case round =>
  obtain ⟨i,n5,A5,c5,hi,rfl,rfl,hn5,ho,hbr,hrn⟩:=hrel
  have hbsz:=hbr.size
  have hk1:∀b,b < W1.heap.size→wr.heap[b]?=wS4.heap[b]?:=fun b hb=>hbr.block b hb
  have HBR:=hide hbr
  have HO:=hide ho
  have RNr:=hide hrn
  have R2r:=hide (show RowL wr w.heap.size _ _ from (hk1 _ (by omega)).trans R2.out)
  have HUr:=hide (HU.out.mono (fun b hb=>hk1 b (Nat.lt_of_lt_of_le hb (by omega))) (fun _ h=>h):RdE nodEn wr (Under B) AU nU up)
  have HEr:=hide (HE.out.mono (fun b hb=>hk1 b (Nat.lt_of_lt_of_le hb (by omega))) (fun _ h=>h):RdE entEn wr (Under B) C1 m N.ents)
  have qs:wr.cell? ⟨wA.heap.size,5,none⟩=some (.slice C1 m d1):=hrn.cell 5
  clear ho hbr hk1 hrn
  by_cases hlt:i < m
  ·obtain ⟨e,he⟩:∃e,N.ents[i]?=some e:=⟨_,List.getElem?_eq_getElem (by have:=HE.out.1;omega)⟩
   obtain ⟨bE,oE,rfl,hbE,hcE⟩:=ent_get HEr.out he
   have hbE':bE < wr.heap.size:=by have:bE < B:=hbE;omega
   have HCE:=hide hcE
   obtain ⟨X,hX⟩:∃X,nodAt up e.ino=X:=⟨_,rfl⟩
   have HX:=hide hX
   obtain ⟨b4,hb4⟩:∃b4,whiE up e=b4:=⟨_,rfl⟩
   have HT:=hide (take_names he hb4)
   have hk4:(X.k==4)=b4:=by
    rw [←hb4,←hX]
    unfold whiE
    by_cases hk:(nodAt up e.ino).k=4 <;> simp [hk]
   have him:(i:Int) < (m:Int):=by omega
   clear he hcE hX hb4
   go_wp2_with fail
   clear qs
   refine wp_region_planN (fun w'=>Below wr.heap.size wr w') [(0,true),(1,true),(2,true),(3,true),(4,true),(5,true),(6,true),(7,true),(8,false),(9,true),(10,true)] (by kernel_rfl) (by kernel_rfl) (by kernel_rfl) (by kernel_rfl) rfl (fun _ _ _ _ _ h=>h) (below_drew (below_self wr)) (fun hHeld=>?_)
   simp only [planOps,List.filterMap_cons,List.filterMap_nil,List.getElem?_toArray,List.getElem?_cons_succ,List.getElem?_cons_zero,Option.map_some]
   refine wpPlan_take (v:=?_) (by kernel_rfl) (fun wS hSw=>?_) ?_
   rotate_left
   ·(try dsimp only at hSw);go_simp;(try with_reducible rfl)
   (try simp only [Act.put,pu1,pu2,pu3])
   refine wpPlan_take (v:=?_) (by kernel_rfl) (fun wS hSw=>?_) ?_
   rotate_left
   ·have qx:=((R2r.out.on hSw).cell 4).trans (show (stkC g (.slice AU nU cU) (.slice AL nL cL))[4]?=some (.slice AU nU cU) from rfl);go_simp;(try with_reducible rfl)
   (try simp only [Act.put,pu1,pu2,pu3])
   refine wpPlan_take (v:=?_) (by kernel_rfl) (fun wS hSw=>?_) ?_
   rotate_left
   ·(try dsimp only at hSw);go_simp;(try with_reducible rfl)
   (try simp only [Act.put,pu1,pu2,pu3])
   refine wpPlan_take (v:=?_) (by kernel_rfl) (fun wS hSw=>?_) ?_
   rotate_left
   ·have qx:=((RNr.out.on hSw).cell 5).trans (show (nodC N (.slice D1 n1 c1) (.slice (some ⟨bE,oE,none⟩) m d1))[5]?=some (.slice (some ⟨bE,oE,none⟩) m d1) from rfl);go_simp;(try with_reducible rfl)
   (try simp only [Act.put,pu1,pu2,pu3])
   iterate 3
    refine wpPlan_take (v:=?_) (by kernel_rfl) (fun wS hSw=>?_) ?_
    rotate_left
    ·(try dsimp only at hSw);go_simp;(try with_reducible rfl)
    (try simp only [Act.put,pu1,pu2,pu3])
   refine wpPlan_take (v:=?_) (by kernel_rfl) (fun wS hSw=>?_) ?_
   rotate_left
   ·have qx:=(cell_same (hSw.block bE hbE')).trans (HCE.out 1 _ rfl);go_simp;(try with_reducible rfl)
   (try simp only [Act.put,pu1,pu2,pu3])
   refine wpPlan_call (by kernel_rfl) (fun K hK=>?_)
   have hOld:=hide hHeld
   clear hHeld
   go_simp
   go_at_call 101
   refine (At_e HX.out (B:=B) _ (HUr.out.under hOld.out (by omega)) (by have:=hOld.out.size;omega) (by have:=HFU.out.1;omega)).mono ?_
   rintro e w' ⟨D2,n2,c2,C2,m2,d2,rfl,-,hD,hmd,hE2,hbel⟩
   clear hD hmd hE2
   refine hK.out _ _ (hOld.out.trans (hbel.mono hOld.out.size)) (fun hHeld=>?_)
   clear hK K
   (try simp only [Act.put,pu1,pu2,pu3])
   refine wpPlan_take (v:=?_) (by kernel_rfl) (fun wS hSw=>?_) ?_
   rotate_left
   ·have qx:=nod_f0 X (.slice D2 n2 c2) (.slice C2 m2 d2);(try dsimp only at hSw);go_simp;(try with_reducible rfl)
   (try simp only [Act.put,pu1,pu2,pu3])
   refine wpPlan_take (v:=?_) (by kernel_rfl) (fun wS hSw=>?_) ?_
   rotate_left
   ·(try dsimp only at hSw);go_simp;(try with_reducible rfl)
   (try simp only [Act.put,pu1,pu2,pu3])
   refine wpPlan_end ?_
   have HBX:=hide hHeld
   have hbx:=hHeld
   clear hHeld
   have qs:w'.cell? ⟨wA.heap.size,5,none⟩=some (.slice (some ⟨bE,oE,none⟩) m d1):=(RNr.out.on hbx).cell 5
   have qn:w'.cell? ⟨bE,oE+i*3+2,none⟩=some (.string ⟨e.name.toArray⟩):=(cell_same (hbx.block bE hbE')).trans (HCE.out 2 _ rfl)
   have hbxs:=hbx.size
   clear hbx
   cases b4 with
   | false =>
    go_wp2_with fail
    go_roundw
    case rel=>exact ⟨i+1,n5,A5,c5,by omega,by go_num,rfl,by omega,by rw [HT.out,if_neg (by simp)];exact HO.out.below HBX.out,HBR.out.trans (HBX.out.mono (by omega)),RNr.out.on HBX.out⟩
    case measure=>simp [intOf];omega
   | true =>
    go_wp2_with (at_builtin;refine wpList_append_Rd' (f:=st) _ rfl (.tmp 32) (.tmp 39) 54 rfl W1.heap.size 9 _ 16 Tryz.underlying54 info_st rfl (fun _=>rfl) A5 n5 c5 _ rfl ((HO.out.below HBX.out).below (below_new (below_self w') _)) _ _ 1 1 [e.name] rfl (Rd.one _ _ rfl) (n5+1) rfl (by omega) (by omega) (by simp;omega) ?_;intro A7 c7 w9 ho9 hb9 hg9;have HO9:=hide ho9;have HB9:=hide (((HBR.out.trans (HBX.out.mono (by omega))).alloc (by omega) _).trans hb9);have hba:=below_new (below_self w') (.cells #[.string ⟨e.name.toArray⟩] 9);have HR9:=hide (((RNr.out.on HBX.out).on hba).grown hg9 (row_apart ((HO.out.below HBX.out).below hba) ((RNr.out.on HBX.out).on hba) (by decide)));clear ho9 hb9 hg9 hba)
    go_roundw
    case rel=>exact ⟨i+1,n5+1,A7,c7,by omega,by go_num,rfl,by omega,by rw [HT.out,if_pos (by simp)];exact HO9.out,HB9.out,HR9.out⟩
    case measure=>simp [intOf];omega
  ·obtain rfl:m=i:=by omega
   have hnlt:¬((m:Int) < (m:Int)):=by omega
   have ho:=HO.out
   rw [List.take_of_length_le (by have:=HE.out.1;omega)] at ho
   have HO5:=hide ho
   clear ho
   go_wp2_with fail
   refine (RSort_any wr HO5.out.rd (by omega)).mono ?_
   rintro ez w3 ⟨A3,c3,rfl,ho3,hb3⟩
   have HO3:=hide ho3
   have HB3:=hide (HB.out.trans ((HBR.out.trans (hb3.mono (by omega))).mono hW1w))
   clear hb3 ho3
   go_wp2_with fail
   go_ret
   rw [HWT.out]
   exact ⟨A3,_,c3,rfl,HO3.out.rebase (by omega),HB3.out⟩
end Go.Proofs.YthdoimgbbabcaaaGreat

namespace Go.Proofs.YthdoimgbbabcaaaGreat
open Go.RowKit
variable {α : Type} {E : Enc α}

theorem OwE.up [Tags] {w:World} {base b' e n c:Nat} {A:Option Addr} {l:List α} (h:OwE E w base e A n c l) (hb:∀a,A=some a→b'≤a.block):OwE E w b' e A n c l:=by
 obtain ⟨css,⟨h1,h2⟩,h3⟩:=h
 refine ⟨css,⟨h1,?_⟩,h3⟩
 rcases h2 with h2|⟨g,cap,cur,he,hbg,hr⟩
 ·exact .inl h2
 ·refine .inr ⟨g,cap,cur,he,?_,hr⟩
  simp only [Value.slice.injEq] at he
  exact hb _ he.1
theorem OwE.rowApart [Tags] {W:World} {base e n c g t:Nat} {A:Option Addr} {l:List α} {cs:List Value} (ho:OwE E W base e A n c l) (hr:RowL W g t cs) (h:t≠e):some g≠(Value.slice A n c).ownBlock:=by
 obtain ⟨css,hrow,-⟩:=ho
 exact row_apart hrow hr h
theorem OwE.ltB [Tags] {w:World} {base e n c:Nat} {A:Option Addr} {l:List α} (h:OwE E w base e A n c l):∀a,A=some a→a.block < w.heap.size:=by
 obtain ⟨css,⟨h1,h2⟩,h3⟩:=h
 intro a ha
 rcases h2 with ⟨h2,-⟩|⟨g,cap,cur,he,hbg,hr,-⟩
 ·simp only [Value.slice.injEq] at h2
  rw [h2.1] at ha;cases ha
 ·simp only [Value.slice.injEq] at he
  rw [he.1] at ha
  cases ha
  exact (Array.getElem?_eq_some_iff.1 hr).1
theorem run_append_lit1 [Tags] {P : Program} (w : World) (base : Nat) (t ty e : TypeId) (z : Value) (k : Nat) (ht : P.underlying t = some (.slice e)) (hinfo : (P.info? e).map (fun i => (i.zero, i.size, i.bytes)) = some (some z, E.k, k)) (hzs : z.cells.size = E.k) (hk : 0 < E.k)
  (p:Nat) (hown:OwE E w base e (some ⟨p,0,none⟩) 0 0 []) (D:Nat→Prop) (A:Option Addr) (m c:Nat) (l1:List α) (hb:RdE E w D A m l1) (hD:∀b,D b→But w (some ⟨p,0,none⟩) b) (hm:0 < m)
  (hbytes:m*k≤140737488355328) (hnm:m≤140737488355328) (hbase:base≤w.heap.size) :
  ∃A' c' w',(Builtin.append_ #[t,t] ty #[.slice (some ⟨p,0,none⟩) 0 0,.slice A m c]).run P w=.ok (.slice A' m c') w'∧OwE E w' base e A' m c' l1∧Below w.heap.size w w'∧∀a,A'=some a→w.heap.size≤a.block:=by
 obtain ⟨i,hi,hz,hsz,hby⟩:=info_parts hinfo
 obtain ⟨A',c',w',hr,ho,_⟩:=run_append_OwE (P:=P) w base t ty e z k ht hinfo hzs hk _ 0 0 [] hown D A m c l1 hb hD (by rw [Nat.zero_add];exact hbytes) (by omega) hbase
 rw [Nat.zero_add] at hr ho
 rw [List.nil_append] at ho
 refine ⟨A',c',w',hr,ho,?_⟩
 obtain ⟨b,o,dss,rfl,_,hC,hcell⟩:=hb.cells hm
 have hfl:=flat_len hC.lens
 have h2:=run_append_grow (P:=P) w t ty e i z ht hi hz ⟨p,0,none⟩ 0 0 [] (by simp) (by simp) ⟨b,o,none⟩ m c dss.flatten (by rw [hfl,hC.1,hb.1,hsz]) (fun j u hu=>by
  have:=hcell j u hu
  rw [←this]
  congr 1
  unfold Addr.add
  split
  ·rename_i h0;subst h0;rfl
  ·rfl) (by omega) (by omega) (growslice_fits (by omega) (by subst hby;simpa using hbytes))
 rw [Nat.zero_add] at h2
 rw [h2] at hr
 cases hr
 exact ⟨(Below.refl _ _).drew.alloc (Nat.le_refl _) _,fun a ha=>by cases ha;exact Nat.le_refl _⟩
theorem wp_append_lit1 [Tags] {P : Program} (w : World) {o : Oper} {a : Act} {K : Act → World → Prop} {Q : Exit → Act → World → Prop} (s x : Operand) (t : TypeId)
  (ho:o.op=.call {callee:=.builtin .append,args:=#[s,x],argTypes:=#[t,t]})
  (base:Nat) (e:TypeId) (z:Value) (k:Nat) (ht:P.underlying t=some (.slice e)) (hinfo:(P.info? e).map (fun i=>(i.zero,i.size,i.bytes))=some (some z,E.k,k)) (hzs:z.cells.size=E.k) (hk:0 < E.k)
  (p:Nat) (hs:a.eval s=.slice (some ⟨p,0,none⟩) 0 0) (hown:OwE E w base e (some ⟨p,0,none⟩) 0 0 []) (D:Nat→Prop) (A:Option Addr) (m c:Nat) (l1:List α) (hx:a.eval x=.slice A m c) (hb:RdE E w D A m l1) (hD:∀b,D b→But w (some ⟨p,0,none⟩) b) (hm:0 < m)
  (hbytes:m*k≤140737488355328) (hnm:m≤140737488355328) (hbase:base≤w.heap.size)
  (h:∀A' c' w',OwE E w' base e A' m c' l1→Below w.heap.size w w'→(∀a,A'=some a→w.heap.size≤a.block)→K (a.put o.dst (.slice A' m c')) w'):o.wp P a w K Q:=by
 obtain ⟨A',c',w',hr,h2,h3,h4⟩:=run_append_lit1 (P:=P) w base t o.type e z k ht hinfo hzs hk p hown D A m c l1 hb hD hm hbytes hnm hbase
 unfold Oper.wp execOp
 simp only [ho,resolve,invoke,builtin,Sem.run_bind,Sem.run_pure,Result.andThen_ok,List.map_toArray,List.map_cons,List.map_nil,hs,hx,hr]
 exact h A' c' w' h2 h3 h4
def OwL [Tags] (E:Enc α) (w:World) (base lo e:Nat) (A:Option Addr) (n c:Nat) (l:List α):Prop:=OwE E w lo e A n c l∨∃p,A=some ⟨p,0,none⟩∧n=0∧c=0∧l=[]∧OwE E w base e (some ⟨p,0,none⟩) 0 0 []
theorem OwL.below [Tags] {w w':World} {base lo e n c:Nat} {A:Option Addr} {l:List α} (h:OwL E w base lo e A n c l) (hb:Below w.heap.size w w'):OwL E w' base lo e A n c l:=by
 rcases h with h|⟨p,h1,h2,h3,h4,h5⟩
 ·exact .inl (h.below hb)
 ·exact .inr ⟨p,h1,h2,h3,h4,h5.below hb⟩
theorem OwL.ltB [Tags] {w:World} {base lo e n c:Nat} {A:Option Addr} {l:List α} (h:OwL E w base lo e A n c l):∀a,A=some a→a.block < w.heap.size:=by
 rcases h with h|⟨p,rfl,-,-,-,h5⟩
 ·exact h.ltB
 ·exact h5.ltB
theorem OwL.read [Tags] {w:World} {base lo e n c:Nat} {A:Option Addr} {l:List α} (h:OwL E w base lo e A n c l) (ht:Tags.bad e=false):RdE E w (Under w.heap.size) A n l:=by
 rcases h with h|⟨p,rfl,rfl,rfl,rfl,-⟩
 ·exact (h.rd ht).plain
 ·exact RdE.none_ _ _ _ _
theorem OwL.len [Tags] {w:World} {base lo e n c:Nat} {A:Option Addr} {l:List α} (h:OwL E w base lo e A n c l):l.length=n:=by
 rcases h with h|⟨p,rfl,rfl,rfl,rfl,-⟩
 ·exact h.len
 ·rfl
theorem wp_append_OwL [Tags] {P : Program} (w : World) {o : Oper} {a : Act} {K : Act → World → Prop} {Q : Exit → Act → World → Prop} (s x : Operand) (t : TypeId)
  (ho:o.op=.call {callee:=.builtin .append,args:=#[s,x],argTypes:=#[t,t]})
  (base lo:Nat) (e:TypeId) (z:Value) (k:Nat) (ht:P.underlying t=some (.slice e)) (hinfo:(P.info? e).map (fun i=>(i.zero,i.size,i.bytes))=some (some z,E.k,k)) (hzs:z.cells.size=E.k) (hk:0 < E.k)
  (A0:Option Addr) (n c0:Nat) (l0:List α) (hs:a.eval s=.slice A0 n c0) (hown:OwL E w base lo e A0 n c0 l0) (D:Nat→Prop) (A:Option Addr) (m c:Nat) (l1:List α) (hx:a.eval x=.slice A m c) (hb:RdE E w D A m l1) (hD:∀b,D b→But w A0 b) (hm:0 < m)
  (N:Nat) (hN:n+m=N) (hbytes:N*k≤140737488355328) (hnm:N≤140737488355328) (hbase:base≤w.heap.size) (hlo:lo≤w.heap.size)
  (h:∀A' c' w',OwE E w' lo e A' N c' (l0++l1)→Below lo w w'→(∀g t cs,RowL w g t cs→t≠e→RowL w' g t cs)→K (a.put o.dst (.slice A' N c')) w'):o.wp P a w K Q:=by
 rcases hown with hown|⟨p,rfl,rfl,rfl,rfl,hown⟩
 ·exact wp_append_OwK w s x t ho lo e z k ht hinfo hzs hk A0 n c0 l0 hs hown D A m c l1 hx hb hD hm N hN hbytes hnm hlo fun A' c' w' h1 h2 _ h4=>h A' c' w' h1 h2 fun g t cs hr hne=>hr.grown h4 (OwE.rowApart hown hr hne)
 ·have hN':m=N:=by omega
  subst hN'
  refine wp_append_lit1 w s x t ho base e z k ht hinfo hzs hk p hs hown D A m c l1 hx hb hD hm hbytes hnm hbase fun A' c' w' h1 h2 h3=>?_
  exact h A' c' w' (h1.up fun a ha=>Nat.le_trans hlo (h3 a ha)) (h2.mono hlo) fun g t cs hr _=>hr.on h2
end Go.Proofs.YthdoimgbbabcaaaGreat

