import Derived.Test.YtnhegahpfacdgaaGreatRt30

namespace Go.Proofs.YtnhegahpfacdgaaGreat
open Go.RowKit Go.Shelf Plain Go.Maps

theorem redq_len (s:List UInt8):(redL s).length≤1+s.length:=by
 unfold redL
 split
 ·simp
 ·split
  ·exact split_few s
  ·split <;> simp
set_option maxRecDepth 100000 in
set_option maxHeartbeats 3200000 in
theorem RLoops_b {AO:Option Addr} {n c B:Nat} {own:List (List UInt8)} {s:List UInt8} {b:Bool} (hb:loopR own s=b) (w:World) (ho:Rd st w B AO n own) (hB:B≤w.heap.size) (hn:n≤1000000) (hc:n≤c) (hs:s.length≤100000):Calls Tryz.prog 12 #[.slice AO n c,.string ⟨s.toArray⟩] w (BoolB w b):=by
 obtain ⟨l,hl⟩:∃l,redL s=l:=⟨_,rfl⟩
 obtain ⟨ra,hra⟩:∃ra,redA s=ra:=⟨_,rfl⟩
 obtain ⟨rb,hrb⟩:∃rb,redB s=rb:=⟨_,rfl⟩
 have HRD:=hide (fun W=>PRed_of hl hra hrb W hs)
 have HO:=hide ho
 have HLB:=hide hb
 have HL:=hide hl
 have HRA:=hide hra
 have HRB:=hide hrb
 have hnl:own.length=n:=ho.len
 clear hb ho hl hra hrb
 go_enter Tryz.func12,Tryz.ntmps12
 go_wp2_with fail
 refine (HRD.out w).mono ?_
 rintro e1 w2 ⟨AN,nN,cN,rfl,hon,hbel⟩
 have HB2:=hide hbel
 have HON:=hide hon
 have HO2:=hide (HO.out.below (hbel.mono hB))
 have hs2:=hbel.size
 clear hon hbel
 cases rb with
 | false =>
  go_wp2_with fail
  go_ret
  exact BoolB.eq (by rw [←HLB.out];unfold loopR;rw [HRB.out];rfl) HB2.out
 | true =>
  cases ra with
  | true =>
   have hbg:beginsS l own=b:=by rw [←HLB.out];unfold loopR;rw [HRB.out,HRA.out,HL.out];rfl
   have HBG:=hide hbg
   have hnN:nN≤1000000:=by
    have h1:l.length=nN:=HON.out.rd.len
    have h2:=redq_len s
    rw [HL.out] at h2
    omega
   clear hbg
   go_wp2_with (go_at_call 29;refine (PBegins_b HBG.out w2 HON.out.rd HO2.out hnN hc).mono ?_;rintro e3 w3 ⟨rfl,hbel⟩;have HB3:=hide (HB2.out.trans (hbel.mono hs2));clear hbel)
   go_ret
   exact BoolB.of HB3.out
  | false =>
   have hl1:l=[s]:=by rw [←HL.out];exact redq_one HRB.out HRA.out
   have hnN:nN=1:=by have h1:=HON.out.rd.len;rw [hl1] at h1;simpa using h1.symm
   subst hnN
   obtain ⟨bN,oN,rfl,hbN,hcN⟩:=HON.out.rd.2 (by omega)
   have qs:w2.cell? ⟨bN,oN,none⟩=some (.string ⟨s.toArray⟩):=by
    have h1:=hcN 0 s (by rw [hl1];rfl)
    exact h1
   by_cases hn0:n=0
   ·have hbb:b=false:=by
     rw [←HLB.out]
     unfold loopR
     rw [HRB.out,HRA.out]
     have h0:own=[]:=List.length_eq_zero_iff.1 (by omega)
     rw [h0]
     rfl
    subst hbb
    subst hn0
    clear hcN
    go_wp2_with fail
    refine wp_region_planN (fun w'=>Below w2.heap.size w2 w') [(0,true),(1,true),(2,true),(3,true),(4,true),(5,true),(6,true),(7,true),(8,true),(9,true),(10,true),(11,true),(12,true)] (by kernel_rfl) (by kernel_rfl) (by kernel_rfl) (by kernel_rfl) rfl (fun _ _ _ _ _ h=>h) (below_drew (below_self w2)) (fun hHeld=>?_)
    simp only [planOps,List.filterMap_cons,List.filterMap_nil,List.getElem?_toArray,List.getElem?_cons_succ,List.getElem?_cons_zero,Option.map_some]
    iterate 3
     refine wpPlan_take (v:=?_) (by kernel_rfl) (fun wS hSw=>?_) ?_
     rotate_left
     ·(try dsimp only at hSw);go_simp;(try with_reducible rfl)
     (try simp only [Act.put,pu1,pu2,pu3])
    refine wpPlan_skip (by kernel_rfl) ?_
    (try simp only [Act.put,pu1,pu2,pu3])
    refine wpPlan_skip (by kernel_rfl) ?_
    (try simp only [Act.put,pu1,pu2,pu3])
    refine wpPlan_skip (by kernel_rfl) ?_
    (try simp only [Act.put,pu1,pu2,pu3])
    refine wpPlan_skip (by kernel_rfl) ?_
    (try simp only [Act.put,pu1,pu2,pu3])
    refine wpPlan_skip (by kernel_rfl) ?_
    (try simp only [Act.put,pu1,pu2,pu3])
    refine wpPlan_skip (by kernel_rfl) ?_
    (try simp only [Act.put,pu1,pu2,pu3])
    refine wpPlan_skip (by kernel_rfl) ?_
    (try simp only [Act.put,pu1,pu2,pu3])
    refine wpPlan_skip (by kernel_rfl) ?_
    (try simp only [Act.put,pu1,pu2,pu3])
    iterate 2
     refine wpPlan_take (v:=?_) (by kernel_rfl) (fun wS hSw=>?_) ?_
     rotate_left
     ·(try dsimp only at hSw);go_simp;(try with_reducible rfl)
     (try simp only [Act.put,pu1,pu2,pu3])
    refine wpPlan_end ?_
    have HB3:=hide (HB2.out.trans (hHeld.mono hs2))
    clear hHeld
    go_wp2_with fail
    go_ret
    exact BoolB.of HB3.out
   ·obtain ⟨k,hk⟩:∃k,n=k+1:=⟨n - 1,by omega⟩
    obtain ⟨z,hz⟩:∃z,own[k]?=some z:=⟨_,List.getElem?_eq_getElem (by omega)⟩
    have hbb:(z==s)=b:=by
     rw [←HLB.out]
     unfold loopR
     rw [HRB.out,HRA.out,HL.out,hl1,List.getLast?_eq_getElem?,hnl,hk]
     show _=(own[k+1 - 1]?==some s)
     rw [Nat.add_sub_cancel,hz]
     rfl
    have heq:=fun W=>eq_txt z s W
    have HBBQ:=hide hbb
    obtain ⟨bO,oO,rfl,hbO',hcO⟩:=HO2.out.2 (by omega)
    have qz:=hcO k z hz
    have hbO:bO < w2.heap.size:=by omega
    have hw1:IntKind.i64.wrap ((n:Int) - 1)=(k:Int):=by rw [show (n:Int) - 1=(k:Int) by omega];exact IntWalk.i64_in _ (by omega)
    have hkn:k < n:=by omega
    have hkn2:(k:Int) < (n:Int):=by omega
    clear hcN hcO hz hbb hk
    go_wp2_with fail
    refine wp_region_planN (fun w'=>Below w2.heap.size w2 w') [(0,true),(1,true),(2,true),(3,true),(4,true),(5,true),(6,true),(7,true),(8,true),(9,true),(10,true),(11,true),(12,true)] (by kernel_rfl) (by kernel_rfl) (by kernel_rfl) (by kernel_rfl) rfl (fun _ _ _ _ _ h=>h) (below_drew (below_self w2)) (fun hHeld=>?_)
    simp only [planOps,List.filterMap_cons,List.filterMap_nil,List.getElem?_toArray,List.getElem?_cons_succ,List.getElem?_cons_zero,Option.map_some]
    iterate 6
     refine wpPlan_take (v:=?_) (by kernel_rfl) (fun wS hSw=>?_) ?_
     rotate_left
     ·(try dsimp only at hSw);go_simp;(try with_reducible rfl)
     (try simp only [Act.put,pu1,pu2,pu3])
    refine wpPlan_take (v:=?_) (by kernel_rfl) (fun wS hSw=>?_) ?_
    rotate_left
    ·have qx':wS.cell? ⟨bO,oO+k,none⟩=some (.string ⟨z.toArray⟩):=(hSw.cell hbO).trans qz;go_simp;(try with_reducible rfl)
    (try simp only [Act.put,pu1,pu2,pu3])
    iterate 2
     refine wpPlan_take (v:=?_) (by kernel_rfl) (fun wS hSw=>?_) ?_
     rotate_left
     ·(try dsimp only at hSw);go_simp;(try with_reducible rfl)
     (try simp only [Act.put,pu1,pu2,pu3])
    refine wpPlan_take (v:=?_) (by kernel_rfl) (fun wS hSw=>?_) ?_
    rotate_left
    ·have qx':wS.cell? ⟨bN,oN,none⟩=some (.string ⟨s.toArray⟩):=(hSw.cell hbN).trans qs;go_simp;(try with_reducible rfl)
    (try simp only [Act.put,pu1,pu2,pu3])
    refine wpPlan_take (v:=?_) (by kernel_rfl) (fun wS hSw=>?_) ?_
    rotate_left
    ·have qx':=heq wS;go_simp;(try with_reducible rfl)
    (try simp only [Act.put,pu1,pu2,pu3])
    iterate 2
     refine wpPlan_take (v:=?_) (by kernel_rfl) (fun wS hSw=>?_) ?_
     rotate_left
     ·(try dsimp only at hSw);go_simp;(try with_reducible rfl)
     (try simp only [Act.put,pu1,pu2,pu3])
    refine wpPlan_end ?_
    have HB3:=hide (HB2.out.trans (hHeld.mono hs2))
    clear hHeld
    go_wp2_with fail
    go_ret
    exact BoolB.eq HBBQ.out HB3.out
set_option maxRecDepth 100000 in
set_option maxHeartbeats 4000000 in
theorem Node21_any {g:GeoQ} {AU AL AW AC:Option Addr} {nU cU nL cL n cW cC B lo hi gT bM cM:Nat} {up:List NodV} {l:List WayV} {cl:List (Int×Int)} {f:Int×Int→Bool} {i:Nat} {y:WayV} {x:NodV} (hy:l[i]?=some y) (hx:nodAt up y.ino=x) (w:World) (ht:TrQ w lo hi gT bM cM g AU AL AW AC nU cU nL cL n cW cC l cl f) (hu:RdE nodEn w (Under B) AU nU up) (hB:B≤w.heap.size) (hup:FewU up):Calls Tryz.prog 39 #[.pointer (some ⟨gT,0,none⟩),.int .i64 i] w (NodRet w B x):=by
 obtain ⟨W1,hW1⟩:∃W1,w.alloc (.cells (nodC nod0 (.slice none 0 0) (.slice none 0 0)).toArray 65)=W1:=⟨_,rfl⟩
 obtain ⟨r0,hb1,hs1⟩:=rowA1 w _ _ hW1
 have hW1':w.alloc (.cells #[.int .i64 0,.int .i64 0,.int .i64 0,.int .i64 0,.slice none 0 0,.slice none 0 0,.int .i64 0,.int .i64 0,.string ⟨#[]⟩,.int .i64 0,.int .i64 0,.int .i64 0,.int .i64 0] 65)=W1:=hW1
 have hil:i < n:=by have h1:=(List.getElem?_eq_some_iff.1 hy).1;have h2:=ht.ways.1;omega
 have R4:=hide r0
 have HB:=hide hb1
 have HU:=hide (hu.under hb1 hB)
 have HFU:=hide hup
 have HX:=hide hx
 have ht1:=ht.on hb1
 have HROW:=hide ht1.row
 obtain ⟨bW,oW,rfl,hbW,hcW⟩:=way_get ht1.ways hy
 have qi:W1.cell? ⟨bW,oW+i*3,none⟩=some (.int .i64 y.ino):=hcW 0 _ rfl
 have hbWl:bW < W1.heap.size:=Nat.lt_of_lt_of_le hbW.2.1 ht1.hiw
 have hin:(i:Int) < (n:Int):=by omega
 have hsR:w.heap.size < W1.heap.size:=by omega
 clear r0 hb1 hW1 hy hx ht ht1 hu hup hcW hbW
 go_enter Tryz.func39,Tryz.ntmps39
 go_wp2_with fail
 refine wp_region_planL (fun w'=>Below W1.heap.size W1 w') [(0,true),(1,true),(2,true),(3,true),(4,true),(5,true),(6,true),(7,true),(8,true),(9,true),(10,true),(11,true),(12,true),(13,false)] 14 (by kernel_rfl) (by kernel_rfl) (by kernel_rfl) (by kernel_rfl) (by kernel_rfl) rfl (fun _ _ _ _ _ h=>h) (below_drew (below_self W1)) (fun hHeld=>?_)
 simp only [planOps,List.filterMap_cons,List.filterMap_nil,List.getElem?_toArray,List.getElem?_cons_succ,List.getElem?_cons_zero,Option.map_some]
 iterate 4
  refine wpPlan_take (v:=?_) (by kernel_rfl) (fun wS hSw=>?_) ?_
  rotate_left
  ·(try dsimp only at hSw);go_simp;(try with_reducible rfl)
  (try simp only [Act.put,pu1,pu2,pu3])
 refine wpPlan_take (v:=?_) (by kernel_rfl) (fun wS hSw=>?_) ?_
 rotate_left
 ·refine execOp_load (x:=.tmp 8) (k:=1) (g:=gT) (off:=4) (cs:=[.slice AU nU cU]) ?_ lay_agg lay_size ?_ (fun j v hv=>((HROW.out.on hSw).cell (4+j)).trans (sub_cell (cur:=(trC g (.slice AU nU cU) (.slice AL nL cL) (.slice (some ⟨bW,oW,none⟩) n cW) (.slice AC n cC) (.map (some bM)))) (k:=1) rfl hv)) rfl <;> rfl
 (try simp only [Act.put,pu1,pu2,pu3])
 iterate 3
  refine wpPlan_take (v:=?_) (by kernel_rfl) (fun wS hSw=>?_) ?_
  rotate_left
  ·(try dsimp only at hSw);go_simp;(try with_reducible rfl)
  (try simp only [Act.put,pu1,pu2,pu3])
 refine wpPlan_take (v:=?_) (by kernel_rfl) (fun wS hSw=>?_) ?_
 rotate_left
 ·have qx:=((HROW.out.on hSw).cell 6).trans (show (trC g (.slice AU nU cU) (.slice AL nL cL) (.slice (some ⟨bW,oW,none⟩) n cW) (.slice AC n cC) (.map (some bM)))[6]?=some (.slice (some ⟨bW,oW,none⟩) n cW) from rfl);go_simp;(try with_reducible rfl)
 (try simp only [Act.put,pu1,pu2,pu3])
 iterate 3
  refine wpPlan_take (v:=?_) (by kernel_rfl) (fun wS hSw=>?_) ?_
  rotate_left
  ·(try dsimp only at hSw);go_simp;(try with_reducible rfl)
  (try simp only [Act.put,pu1,pu2,pu3])
 refine wpPlan_take (v:=?_) (by kernel_rfl) (fun wS hSw=>?_) ?_
 rotate_left
 ·have qx:=(hSw.cell hbWl).trans qi;go_simp;(try with_reducible rfl)
 (try simp only [Act.put,pu1,pu2,pu3])
 refine wpPlan_call (by kernel_rfl) (fun K hK=>?_)
 have hOld:=hide hHeld
 clear hHeld
 go_simp
 go_at_call 63
 refine (Of_e HX.out _ (HU.out.under hOld.out (by omega)) (by have:=hOld.out.size;omega) (by have:=HFU.out.1;omega)).mono ?_
 rintro e w' ⟨A8,n8,c8,C8,m8,d8,rfl,hn8,hd8,hm8,he8,hbel⟩
 have HD8:=hide hd8
 have HE8:=hide he8
 clear hd8 he8
 refine hK.out _ _ (hOld.out.trans (hbel.mono hOld.out.size)) (fun hHeld=>?_)
 clear hK K
 (try simp only [Act.put,pu1,pu2,pu3])
 refine wpPlan_end ?_
 refine postL_go rfl (by kernel_rfl) ?_
 have hsx:=hHeld.size
 refine wp_storeC 65 (.tmp 4) (.tmp 18) rfl 13 nod_size (w.heap.size) 0 65 rfl (nodC nod0 (.slice none 0 0) (.slice none 0 0)) (nodC x (.slice A8 n8 c8) (.slice C8 m8 d8)) rfl (R4.out.on hHeld) rfl (by decide) (nodC_one _ _ _ _ _ _ _) ?_
 intro w5 hr5 hg5 hs5
 rw [splice_all (nodC nod0 (.slice none 0 0) (.slice none 0 0)) (nodC x (.slice A8 n8 c8) (.slice C8 m8 d8)) rfl] at hr5
 have HR5:=hide hr5
 have HD5:=hide (und_grown HD8.out hg5 (by omega) hB)
 have HE5:=hide (und_grown HE8.out hg5 (by omega) hB)
 have HB5:=hide ((HB.out.trans (hHeld.mono (by omega))).grown hg5 (by omega) (pu4 (by omega)))
 clear hr5 hg5 hs5 hHeld
 (try simp only [Act.put])
 go_wp2_with fail
 exact bodyPost_ret (res_cell Tryz.results39 rfl nod_agg nod_size HR5.out rfl) rfl ⟨A8,n8,c8,C8,m8,d8,rfl,hn8,HD5.out,hm8,HE5.out,HB5.out⟩
def takF (t:List (Int×Int)) (p:Int×Int):Bool:=decide (p∈t)&&!decide (p=(0,0))
theorem takF_snoc (t:List (Int×Int)) (q:Int×Int):(fun p=>(takF t p||decide (p=q))&&!decide (p=(0,0)))=takF (t++[q]):=by
 funext p
 unfold takF
 by_cases h1:p=(0,0) <;> by_cases h2:p∈t <;> by_cases h3:p=q <;> simp [h1,h2,h3]
set_option maxRecDepth 100000 in
set_option maxHeartbeats 4000000 in
theorem Take_any {g:GeoQ} {AU AL AW AC:Option Addr} {nU cU nL cL n cW cC lo hi gT bM cM:Nat} {l:List WayV} {cl:List (Int×Int)} {t:List (Int×Int)} {i:Nat} {q:Int×Int} (hq:cl[i]?=some q) (hqi:i64 q.1∧i64 q.2) (w:World) (ht:TrQ w lo hi gT bM cM g AU AL AW AC nU cU nL cL n cW cC l cl (takF t)) (hcM:cM≤1000):Calls Tryz.prog 40 #[.pointer (some ⟨gT,0,none⟩),.int .i64 i] w (fun e w'=>e=.returned (.tuple #[])∧TrQ w' lo hi gT bM (cM+1) g AU AL AW AC nU cU nL cL n cW cC l cl (takF (t++[q]))∧w.grownBy w' (some bM)):=by
 have hil:i < n:=by have h1:=(List.getElem?_eq_some_iff.1 hq).1;have h2:=ht.clms.1;omega
 have HT:=hide ht
 have HROW:=hide ht.row
 obtain ⟨bC,oC,rfl,hbC,hc⟩:=ht.clms.2 (by omega)
 obtain ⟨cs,hR,hcs⟩:=hc i q hq
 obtain rfl:cs=prC q:=hR
 have HCQ:=hide (show ∀j v,[Value.int .i64 q.1,.int .i64 q.2][j]?=some v→w.cell? ⟨bC,oC+i*2+j,none⟩=some v from fun j v hv=>by have h1:=hcs j v hv;rw [show prEn.k=2 from rfl,←Nat.add_assoc] at h1;exact h1)
 have hbCl:bC < w.heap.size:=Nat.lt_of_lt_of_le hbC.2.1 ht.hiw
 have hin:(i:Int) < (n:Int):=by omega
 clear hq ht hc hcs hbC
 go_enter Tryz.func40,Tryz.ntmps40
 go_wp2_with fail
 refine wp_region_planL (fun w'=>Below w.heap.size w w') [(0,true),(1,true),(2,true),(3,true),(4,true),(5,true),(6,true),(7,true),(8,true),(9,true),(10,true),(11,true)] 12 (by kernel_rfl) (by kernel_rfl) (by kernel_rfl) (by kernel_rfl) (by kernel_rfl) rfl (fun _ _ _ _ _ h=>h) (below_drew (below_self w)) (fun hHeld=>?_)
 simp only [planOps,List.filterMap_cons,List.filterMap_nil,List.getElem?_toArray,List.getElem?_cons_succ,List.getElem?_cons_zero,Option.map_some]
 iterate 3
  refine wpPlan_take (v:=?_) (by kernel_rfl) (fun wS hSw=>?_) ?_
  rotate_left
  ·(try dsimp only at hSw);go_simp;(try with_reducible rfl)
  (try simp only [Act.put,pu1,pu2,pu3])
 refine wpPlan_take (v:=?_) (by kernel_rfl) (fun wS hSw=>?_) ?_
 rotate_left
 ·have qx:=((HROW.out.on hSw).cell 8).trans (show (trC g (.slice AU nU cU) (.slice AL nL cL) (.slice AW n cW) (.slice (some ⟨bC,oC,none⟩) n cC) (.map (some bM)))[8]?=some (.map (some bM)) from rfl);go_simp;(try with_reducible rfl)
 (try simp only [Act.put,pu1,pu2,pu3])
 iterate 3
  refine wpPlan_take (v:=?_) (by kernel_rfl) (fun wS hSw=>?_) ?_
  rotate_left
  ·(try dsimp only at hSw);go_simp;(try with_reducible rfl)
  (try simp only [Act.put,pu1,pu2,pu3])
 refine wpPlan_take (v:=?_) (by kernel_rfl) (fun wS hSw=>?_) ?_
 rotate_left
 ·have qx:=((HROW.out.on hSw).cell 7).trans (show (trC g (.slice AU nU cU) (.slice AL nL cL) (.slice AW n cW) (.slice (some ⟨bC,oC,none⟩) n cC) (.map (some bM)))[7]?=some (.slice (some ⟨bC,oC,none⟩) n cC) from rfl);go_simp;(try with_reducible rfl)
 (try simp only [Act.put,pu1,pu2,pu3])
 iterate 2
  refine wpPlan_take (v:=?_) (by kernel_rfl) (fun wS hSw=>?_) ?_
  rotate_left
  ·(try dsimp only at hSw);go_simp;(try with_reducible rfl)
  (try simp only [Act.put,pu1,pu2,pu3])
 refine wpPlan_take (v:=?_) (by kernel_rfl) (fun wS hSw=>?_) ?_
 rotate_left
 ·refine execOp_load (x:=.tmp 13) (k:=2) (g:=bC) (off:=oC+i*2) (cs:=[.int .i64 q.1,.int .i64 q.2]) ?_ plc_agg plc_size ?_ (fun j v hv=>(hSw.cell hbCl).trans (HCQ.out j v hv)) rfl <;> rfl
 (try simp only [Act.put,pu1,pu2,pu3])
 refine wpPlan_take (v:=?_) (by kernel_rfl) (fun wS hSw=>?_) ?_
 rotate_left
 ·(try dsimp only at hSw);go_simp;(try with_reducible rfl)
 (try simp only [Act.put,pu1,pu2,pu3])
 refine wpPlan_end ?_
 refine postL_go rfl (by kernel_rfl) ?_
 have hT2:=HT.out.on hHeld
 obtain ⟨w5,hrun,hs5,hg5⟩:=hT2.set.put hqi.1 hqi.2 (by simp only [maxLen];omega)
 have HT5:=hide (hT2.turn hg5 hs5)
 have HG5:=hide (((grown_below hHeld).but (some bM)).trans hg5)
 have q8:w5.cell? ⟨gT,8,none⟩=some (.map (some bM)):=HT5.out.row.cell 8
 obtain ⟨w6,hrun6,hs6,hg6⟩:=HT5.out.set.drop (x:=0) (y:=0) (by simp [i64]) (by simp [i64]) 0
 have HT6:=hide (HT5.out.turn hg6 hs6)
 have HG6:=hide (HG5.out.trans hg6)
 clear hT2 hs5 hg5 hs6 hg6 HT HROW HCQ HT5 HG5
 unfold Oper.wp execOp
 go_simp
 clear hrun hHeld
 (try simp only [Act.put])
 go_wp2_with fail
 refine bodyPost_end (v:=.tuple #[]) (by simp [results,Tryz.results40,go_sem]) rfl ?_
 have h6:=HT6.out
 rw [takF_snoc] at h6
 exact ⟨rfl,h6,HG6.out⟩
end Go.Proofs.YtnhegahpfacdgaaGreat

namespace Go.Proofs.YtnhegahpfacdgaaGreat
open Go.RowKit Go.Shelf Plain Go.Maps

theorem path_len (l:List WayV) (i:Int):(pathS l i).length≤l.length:=by
 have h:=upsF_len l l.length i
 unfold pathS
 rw [List.length_reverse]
 exact h

set_option maxRecDepth 100000 in
set_option maxHeartbeats 8000000 in
theorem Clause_any {g:GeoQ} {AU AL AW AC:Option Addr} {nU cU nL cL n cW cC B lo hi gT bM cM:Nat} {up:List NodV} {l:List WayV} {cl:List (Int×Int)} {f:Int×Int→Bool} {i:Nat} {v:ViewV} {y:WayV} {x:NodV} {q:Int×Int} {c0:Int} {ft:Bool} (hy:l[i]?=some y) (hx:nodAt up y.ino=x) (hq:cl[i]?=some q) (hv:clmR v=q) (hc0:clR up l v i y=c0) (hqi:i64 q.1∧i64 q.2) (hft:f q=ft) (hn:n≤24) (w:World) (ht:TrQ w lo hi gT bM cM g AU AL AW AC nU cU nL cL n cW cC l cl f) (hu:RdE nodEn w (Under B) AU nU up) (hB:B≤w.heap.size) (hup:FewU up):Calls Tryz.prog 41 #[.pointer (some ⟨gT,0,none⟩),.int .i64 i] w (fun e w'=>e=.returned (.int .i64 (if c0=0∧ft=true then 12 else c0))∧Below w.heap.size w w'):=by
 have HB:=hide (below_self w)
 have HY:=hide hy
 have HX:=hide hx
 have HV:=hide hv
 have HC0:=hide hc0
 have HQI:=hide hqi
 have HFT:=hide hft
 have HU:=hide hu
 have HFU:=hide hup
 have hxp:PlainN x:=by rw [←hx];exact nodAt_plain hup.2 _
 have HXP:=hide hxp
 have hil:i < n:=by have h1:=(List.getElem?_eq_some_iff.1 hy).1;have h2:=ht.ways.1;omega
 obtain ⟨bC,oC,rfl,hbC,hc⟩:=ht.clms.2 (by omega)
 obtain ⟨cs,hR,hcs⟩:=hc i q hq
 obtain rfl:cs=prC q:=hR
 have hcq:∀j v,[Value.int .i64 q.1,.int .i64 q.2][j]?=some v→w.cell? ⟨bC,oC+i*2+j,none⟩=some v:=fun j v hv=>by have h1:=hcs j v hv;rw [show prEn.k=2 from rfl,←Nat.add_assoc] at h1;exact h1
 have hbCl:bC < w.heap.size:=Nat.lt_of_lt_of_le hbC.2.1 ht.hiw
 obtain ⟨bW,oW,rfl,hbW,hcW⟩:=way_get ht.ways hy
 have hci:w.cell? ⟨bW,oW+i*3,none⟩=some (.int .i64 y.ino):=hcW 0 _ rfl
 have hbWl:bW < w.heap.size:=Nat.lt_of_lt_of_le hbW.2.1 ht.hiw
 have HCQ:=hide hcq
 have HCI:=hide hci
 have HT:=hide ht
 have hsz0:w.heap.size≤w.heap.size:=Nat.le_refl _
 have hin:(i:Int) < (n:Int):=by omega
 obtain ⟨rl,hrl⟩:∃rl,redL x.att.r=rl:=⟨_,rfl⟩
 obtain ⟨ra,hra⟩:∃ra,redA x.att.r=ra:=⟨_,rfl⟩
 obtain ⟨rb,hrb⟩:∃rb,redB x.att.r=rb:=⟨_,rfl⟩
 have HRD:=hide (fun W=>PRed_of hrl hra hrb W (by have:=hxp.2.2.2.2.2.1;omega))
 have HRB:=hide hrb
 have hloop:∃b2,loopR (pathS l (i:Int)) x.att.r=b2:=⟨_,rfl⟩
 obtain ⟨b2,hb2⟩:=hloop
 have HB2:=hide hb2
 obtain ⟨ob,hob⟩:∃ob,opqD x=ob:=⟨_,rfl⟩
 have HOB:=hide hob
 have hcl:clR up l v i y=if y.ino=1∨rb=false then 9 else if b2=true then 10 else if q=(0,0)∧ob=false then 11 else 0:=by
  unfold clR
  rw [hx,hrb,hb2,hob,hv]
 rw [hc0] at hcl
 have HCL:=hide hcl
 clear hy hx hv hc0 hqi hft hq hc hcs hbC hcq hcW hci hbW ht hu hup hrl hra hrb hb2 hob hcl hxp
 go_enter Tryz.func41,Tryz.ntmps41
 go_wp2_with (first|(go_at_call 39;refine (Node21_any HY.out HX.out w HT.out HU.out (by omega) HFU.out).mono ?_;rintro e1 wN ⟨Ad,nd,kd,Ce,me,de,rfl,-,-,-,-,hbel⟩;replace HB:=hide (HB.out.trans (hbel.mono HB.out.size));replace HT:=hide (HT.out.on hbel);replace HU:=hide (HU.out.under hbel (by omega));replace HCQ:=hide ((fun j v hv=>(hbel.cell (p:=⟨bC,oC+i*2+j,none⟩) (by show bC < _;omega)).trans (HCQ.out j v hv)));replace HCI:=hide ((hbel.cell (p:=⟨bW,oW+i*3,none⟩) (by show bW < _;omega)).trans HCI.out);have hsz2:=hbel.size;clear hbel)|(refine wpList_storeW rfl 65 (.tmp 5) (.tmp 14) rfl 13 nod_size (wN.heap.size) 65 rfl (nodC nod0 (.slice none 0 0) (.slice none 0 0)) (nodC x (.slice Ad nd kd) (.slice Ce me de)) rfl (RowL.new wN 65 (nodC nod0 (.slice none 0 0) (.slice none 0 0))) rfl rfl (nodC_one _ _ _ _ _ _ _) ?_;intro wS3 hr3 hg3 hs3;have hzb:=below_stored' hg3;replace HB:=hide (HB.out.trans (hzb.mono HB.out.size));replace HT:=hide (HT.out.on hzb);replace HU:=hide (HU.out.under hzb (by omega));replace HCQ:=hide ((fun j v hv=>(hzb.cell (p:=⟨bC,oC+i*2+j,none⟩) (by show bC < _;omega)).trans (HCQ.out j v hv)));replace HCI:=hide ((hzb.cell (p:=⟨bW,oW+i*3,none⟩) (by show bW < _;omega)).trans HCI.out);have hsz4:=hzb.size;have R5:=hide hr3;have hlt3:=hr3.lt;have q5_8:wS3.cell? ⟨wN.heap.size,8,none⟩=some (.string ⟨x.att.r.toArray⟩):=R5.out.cell 8;have q5_0:wS3.cell? ⟨wN.heap.size,0,none⟩=some (.int .i64 x.k):=R5.out.cell 0;have q5_1:wS3.cell? ⟨wN.heap.size,1,none⟩=some (.int .i64 x.p):=R5.out.cell 1;have q5_2:wS3.cell? ⟨wN.heap.size,2,none⟩=some (.int .i64 x.n):=R5.out.cell 2;have q5_3:wS3.cell? ⟨wN.heap.size,3,none⟩=some (.int .i64 x.g):=R5.out.cell 3;have q5_4:wS3.cell? ⟨wN.heap.size,4,none⟩=some (.slice Ad nd kd):=R5.out.cell 4;have q5_5:wS3.cell? ⟨wN.heap.size,5,none⟩=some (.slice Ce me de):=R5.out.cell 5;have q5_6:wS3.cell? ⟨wN.heap.size,6,none⟩=some (.int .i64 x.att.h):=R5.out.cell 6;have q5_7:wS3.cell? ⟨wN.heap.size,7,none⟩=some (.int .i64 x.att.o):=R5.out.cell 7;have q5_9:wS3.cell? ⟨wN.heap.size,9,none⟩=some (.int .i64 x.att.l):=R5.out.cell 9;have q5_10:wS3.cell? ⟨wN.heap.size,10,none⟩=some (.int .i64 x.att.i):=R5.out.cell 10;have q5_11:wS3.cell? ⟨wN.heap.size,11,none⟩=some (.int .i64 x.att.g):=R5.out.cell 11;have q5_12:wS3.cell? ⟨wN.heap.size,12,none⟩=some (.int .i64 x.att.s):=R5.out.cell 12;clear hzb hr3;clear hg3 hs3))
 refine (HRD.out _).mono ?_
 rintro e3 w3 ⟨AN,nN,cN,rfl,-,hbel3⟩
 clear q5_8 q5_0 q5_1 q5_2 q5_3 q5_4 q5_5 q5_6 q5_7 q5_9 q5_10 q5_11 q5_12
 replace HB:=hide (HB.out.trans (hbel3.mono HB.out.size))
 replace HT:=hide (HT.out.on hbel3)
 replace HU:=hide (HU.out.under hbel3 (by omega))
 replace HCQ:=hide ((fun j v hv=>(hbel3.cell (p:=⟨bC,oC+i*2+j,none⟩) (by show bC < _;omega)).trans (HCQ.out j v hv)))
 replace HCI:=hide ((hbel3.cell (p:=⟨bW,oW+i*3,none⟩) (by show bW < _;omega)).trans HCI.out)
 replace R5:=hide (R5.out.on hbel3)
 have hsz5:=hbel3.size
 have q5_8:w3.cell? ⟨wN.heap.size,8,none⟩=some (.string ⟨x.att.r.toArray⟩):=R5.out.cell 8
 have q5_0:w3.cell? ⟨wN.heap.size,0,none⟩=some (.int .i64 x.k):=R5.out.cell 0
 have q5_1:w3.cell? ⟨wN.heap.size,1,none⟩=some (.int .i64 x.p):=R5.out.cell 1
 have q5_2:w3.cell? ⟨wN.heap.size,2,none⟩=some (.int .i64 x.n):=R5.out.cell 2
 have q5_3:w3.cell? ⟨wN.heap.size,3,none⟩=some (.int .i64 x.g):=R5.out.cell 3
 have q5_4:w3.cell? ⟨wN.heap.size,4,none⟩=some (.slice Ad nd kd):=R5.out.cell 4
 have q5_5:w3.cell? ⟨wN.heap.size,5,none⟩=some (.slice Ce me de):=R5.out.cell 5
 have q5_6:w3.cell? ⟨wN.heap.size,6,none⟩=some (.int .i64 x.att.h):=R5.out.cell 6
 have q5_7:w3.cell? ⟨wN.heap.size,7,none⟩=some (.int .i64 x.att.o):=R5.out.cell 7
 have q5_9:w3.cell? ⟨wN.heap.size,9,none⟩=some (.int .i64 x.att.l):=R5.out.cell 9
 have q5_10:w3.cell? ⟨wN.heap.size,10,none⟩=some (.int .i64 x.att.i):=R5.out.cell 10
 have q5_11:w3.cell? ⟨wN.heap.size,11,none⟩=some (.int .i64 x.att.g):=R5.out.cell 11
 have q5_12:w3.cell? ⟨wN.heap.size,12,none⟩=some (.int .i64 x.att.s):=R5.out.cell 12
 clear hbel3
 go_wp2_with fail
 refine wp_region_planN (fun w'=>Below w3.heap.size w3 w') [(0,true),(1,true),(2,true),(3,true),(4,true),(5,true),(6,true),(7,true),(8,true),(9,true),(10,true),(11,true),(12,true),(13,true),(14,true),(15,false),(16,false),(17,true)] (by kernel_rfl) (by kernel_rfl) (by kernel_rfl) (by kernel_rfl) rfl (fun _ _ _ _ _ h=>h) (below_drew (below_self w3)) (fun hHeld=>?_)
 simp only [planOps,List.filterMap_cons,List.filterMap_nil,List.getElem?_toArray,List.getElem?_cons_succ,List.getElem?_cons_zero,Option.map_some]
 iterate 3
  refine wpPlan_take (v:=?_) (by kernel_rfl) (fun wS hSw=>?_) ?_
  rotate_left
  ·(try dsimp only at hSw);go_simp;(try with_reducible rfl)
  (try simp only [Act.put,pu1,pu2,pu3])
 refine wpPlan_take (v:=?_) (by kernel_rfl) (fun wS hSw=>?_) ?_
 rotate_left
 ·have qx:=((HT.out.row.on hSw).cell 8).trans (show (trC g (.slice AU nU cU) (.slice AL nL cL) (.slice (some ⟨bW,oW,none⟩) n cW) (.slice (some ⟨bC,oC,none⟩) n cC) (.map (some bM)))[8]?=some (.map (some bM)) from rfl);go_simp;(try with_reducible rfl)
 (try simp only [Act.put,pu1,pu2,pu3])
 iterate 3
  refine wpPlan_take (v:=?_) (by kernel_rfl) (fun wS hSw=>?_) ?_
  rotate_left
  ·(try dsimp only at hSw);go_simp;(try with_reducible rfl)
  (try simp only [Act.put,pu1,pu2,pu3])
 refine wpPlan_take (v:=?_) (by kernel_rfl) (fun wS hSw=>?_) ?_
 rotate_left
 ·have qx:=((HT.out.row.on hSw).cell 7).trans (show (trC g (.slice AU nU cU) (.slice AL nL cL) (.slice (some ⟨bW,oW,none⟩) n cW) (.slice (some ⟨bC,oC,none⟩) n cC) (.map (some bM)))[7]?=some (.slice (some ⟨bC,oC,none⟩) n cC) from rfl);go_simp;(try with_reducible rfl)
 (try simp only [Act.put,pu1,pu2,pu3])
 iterate 2
  refine wpPlan_take (v:=?_) (by kernel_rfl) (fun wS hSw=>?_) ?_
  rotate_left
  ·(try dsimp only at hSw);go_simp;(try with_reducible rfl)
  (try simp only [Act.put,pu1,pu2,pu3])
 refine wpPlan_take (v:=?_) (by kernel_rfl) (fun wS hSw=>?_) ?_
 rotate_left
 ·refine execOp_load (x:=.tmp 34) (k:=2) (g:=bC) (off:=oC+i*2) (cs:=[.int .i64 q.1,.int .i64 q.2]) ?_ plc_agg plc_size ?_ (fun j v hv=>(hSw.cell (by show bC < _;omega)).trans (HCQ.out j v hv)) rfl <;> rfl
 (try simp only [Act.put,pu1,pu2,pu3])
 refine wpPlan_take (v:=?_) (by kernel_rfl) (fun wS hSw=>?_) ?_
 rotate_left
 ·have qx:=(HT.out.set.on hSw).look HQI.out.1 HQI.out.2;rw [HFT.out] at qx;(try dsimp only at hSw);go_simp;(try with_reducible rfl)
 (try simp only [Act.put,pu1,pu2,pu3])
 iterate 3
  refine wpPlan_take (v:=?_) (by kernel_rfl) (fun wS hSw=>?_) ?_
  rotate_left
  ·(try dsimp only at hSw);go_simp;(try with_reducible rfl)
  (try simp only [Act.put,pu1,pu2,pu3])
 refine wpPlan_call (by kernel_rfl) (fun K hK=>?_)
 have hOld:=hide hHeld
 clear hHeld
 unfold Oper.wp execOp
 go_simp
 refine hK.out _ _ (hOld.out.alloc hOld.out.size _) (fun hHeld=>?_)
 clear hK K
 (try simp only [Act.put,pu1,pu2,pu3])
 refine wpPlan_call (by kernel_rfl) (fun K hK=>?_)
 have hOld:=hide hHeld
 clear hHeld
 unfold Oper.wp execOp
 go_simp
 refine hK.out _ _ (hOld.out) (fun hHeld=>?_)
 clear hK K
 (try simp only [Act.put,pu1,pu2,pu3])
 refine wpPlan_take (v:=?_) (by kernel_rfl) (fun wS hSw=>?_) ?_
 rotate_left
 ·(try dsimp only at hSw);go_simp;(try with_reducible rfl)
 (try simp only [Act.put,pu1,pu2,pu3])
 refine wpPlan_end ?_
 generalize (w3.alloc (Obj.cells #[] 114)).drew=w5 at hHeld ⊢
 clear q5_8 q5_0 q5_1 q5_2 q5_3 q5_4 q5_5 q5_6 q5_7 q5_9 q5_10 q5_11 q5_12
 replace HB:=hide (HB.out.trans (hHeld.mono HB.out.size))
 replace HT:=hide (HT.out.on hHeld)
 replace HU:=hide (HU.out.under hHeld (by omega))
 replace HCQ:=hide ((fun j v hv=>(hHeld.cell (p:=⟨bC,oC+i*2+j,none⟩) (by show bC < _;omega)).trans (HCQ.out j v hv)))
 replace HCI:=hide ((hHeld.cell (p:=⟨bW,oW+i*3,none⟩) (by show bW < _;omega)).trans HCI.out)
 replace R5:=hide (R5.out.on hHeld)
 have hsz6:=hHeld.size
 have q5_8:w5.cell? ⟨wN.heap.size,8,none⟩=some (.string ⟨x.att.r.toArray⟩):=R5.out.cell 8
 have q5_0:w5.cell? ⟨wN.heap.size,0,none⟩=some (.int .i64 x.k):=R5.out.cell 0
 have q5_1:w5.cell? ⟨wN.heap.size,1,none⟩=some (.int .i64 x.p):=R5.out.cell 1
 have q5_2:w5.cell? ⟨wN.heap.size,2,none⟩=some (.int .i64 x.n):=R5.out.cell 2
 have q5_3:w5.cell? ⟨wN.heap.size,3,none⟩=some (.int .i64 x.g):=R5.out.cell 3
 have q5_4:w5.cell? ⟨wN.heap.size,4,none⟩=some (.slice Ad nd kd):=R5.out.cell 4
 have q5_5:w5.cell? ⟨wN.heap.size,5,none⟩=some (.slice Ce me de):=R5.out.cell 5
 have q5_6:w5.cell? ⟨wN.heap.size,6,none⟩=some (.int .i64 x.att.h):=R5.out.cell 6
 have q5_7:w5.cell? ⟨wN.heap.size,7,none⟩=some (.int .i64 x.att.o):=R5.out.cell 7
 have q5_9:w5.cell? ⟨wN.heap.size,9,none⟩=some (.int .i64 x.att.l):=R5.out.cell 9
 have q5_10:w5.cell? ⟨wN.heap.size,10,none⟩=some (.int .i64 x.att.i):=R5.out.cell 10
 have q5_11:w5.cell? ⟨wN.heap.size,11,none⟩=some (.int .i64 x.att.g):=R5.out.cell 11
 have q5_12:w5.cell? ⟨wN.heap.size,12,none⟩=some (.int .i64 x.att.s):=R5.out.cell 12
 clear hHeld
 have qT6:w5.cell? ⟨gT,6,none⟩=some (.slice (some ⟨bW,oW,none⟩) n cW):=HT.out.row.cell 6
 have qT7:w5.cell? ⟨gT,7,none⟩=some (.slice (some ⟨bC,oC,none⟩) n cC):=HT.out.row.cell 7
 have qI:=HCI.out
 by_cases hy1:y.ino=1
 ·have hc9:c0=9:=by rw [HCL.out,if_pos (.inl hy1)]
  subst hc9
  go_wp2_with fail
  go_ret
  exact ⟨by simp,HB.out⟩
 cases rb with
 | false =>
  have hc9:c0=9:=by rw [HCL.out,if_pos (.inr rfl)]
  subst hc9
  go_wp2_with fail
  go_ret
  exact ⟨by simp,HB.out⟩
 | true =>
  have hcl2:c0=if b2=true then 10 else if q=(0,0)∧ob=false then 11 else 0:=by rw [HCL.out,if_neg (by simp [hy1])]
  have HCL2:=hide hcl2
  clear hcl2
  go_wp2_with (first|(go_at_call 64;refine (Path_any w5 (RdE.mono HT.out.ways (fun _ _=>rfl) (fun b hb=>Nat.lt_of_lt_of_le hb.2.1 HT.out.hiw)) (by omega)).mono ?_;rintro e6 w6 ⟨AP,cP,rfl,hop,hbel6⟩;have HOP:=hide hop;clear hop))
  clear q5_8 q5_0 q5_1 q5_2 q5_3 q5_4 q5_5 q5_6 q5_7 q5_9 q5_10 q5_11 q5_12
  replace HB:=hide (HB.out.trans (hbel6.mono HB.out.size))
  replace HT:=hide (HT.out.on hbel6)
  replace HU:=hide (HU.out.under hbel6 (by omega))
  replace HCQ:=hide ((fun j v hv=>(hbel6.cell (p:=⟨bC,oC+i*2+j,none⟩) (by show bC < _;omega)).trans (HCQ.out j v hv)))
  replace HCI:=hide ((hbel6.cell (p:=⟨bW,oW+i*3,none⟩) (by show bW < _;omega)).trans HCI.out)
  replace R5:=hide (R5.out.on hbel6)
  have hsz7:=hbel6.size
  have q5_8:w6.cell? ⟨wN.heap.size,8,none⟩=some (.string ⟨x.att.r.toArray⟩):=R5.out.cell 8
  have q5_0:w6.cell? ⟨wN.heap.size,0,none⟩=some (.int .i64 x.k):=R5.out.cell 0
  have q5_1:w6.cell? ⟨wN.heap.size,1,none⟩=some (.int .i64 x.p):=R5.out.cell 1
  have q5_2:w6.cell? ⟨wN.heap.size,2,none⟩=some (.int .i64 x.n):=R5.out.cell 2
  have q5_3:w6.cell? ⟨wN.heap.size,3,none⟩=some (.int .i64 x.g):=R5.out.cell 3
  have q5_4:w6.cell? ⟨wN.heap.size,4,none⟩=some (.slice Ad nd kd):=R5.out.cell 4
  have q5_5:w6.cell? ⟨wN.heap.size,5,none⟩=some (.slice Ce me de):=R5.out.cell 5
  have q5_6:w6.cell? ⟨wN.heap.size,6,none⟩=some (.int .i64 x.att.h):=R5.out.cell 6
  have q5_7:w6.cell? ⟨wN.heap.size,7,none⟩=some (.int .i64 x.att.o):=R5.out.cell 7
  have q5_9:w6.cell? ⟨wN.heap.size,9,none⟩=some (.int .i64 x.att.l):=R5.out.cell 9
  have q5_10:w6.cell? ⟨wN.heap.size,10,none⟩=some (.int .i64 x.att.i):=R5.out.cell 10
  have q5_11:w6.cell? ⟨wN.heap.size,11,none⟩=some (.int .i64 x.att.g):=R5.out.cell 11
  have q5_12:w6.cell? ⟨wN.heap.size,12,none⟩=some (.int .i64 x.att.s):=R5.out.cell 12
  have HOP6:=hide HOP.out.rd
  have hop6:=HOP.out.cap
  have hpl:(pathS l (i:Int)).length≤24:=by
   have h1:=path_len l (i:Int)
   have h2:=HT.out.ways.1
   omega
  refine (RLoops_b HB2.out w6 HOP6.out (by omega) (by omega) hop6 (by have:=HXP.out.2.2.2.2.2.1;omega)).mono ?_
  rintro e7 w7 ⟨rfl,hbel7⟩
  clear q5_8 q5_0 q5_1 q5_2 q5_3 q5_4 q5_5 q5_6 q5_7 q5_9 q5_10 q5_11 q5_12
  replace HB:=hide (HB.out.trans (hbel7.mono HB.out.size))
  replace HT:=hide (HT.out.on hbel7)
  replace HU:=hide (HU.out.under hbel7 (by omega))
  replace HCQ:=hide ((fun j v hv=>(hbel7.cell (p:=⟨bC,oC+i*2+j,none⟩) (by show bC < _;omega)).trans (HCQ.out j v hv)))
  replace HCI:=hide ((hbel7.cell (p:=⟨bW,oW+i*3,none⟩) (by show bW < _;omega)).trans HCI.out)
  replace R5:=hide (R5.out.on hbel7)
  have hsz8:=hbel7.size
  have q5_8:w7.cell? ⟨wN.heap.size,8,none⟩=some (.string ⟨x.att.r.toArray⟩):=R5.out.cell 8
  have q5_0:w7.cell? ⟨wN.heap.size,0,none⟩=some (.int .i64 x.k):=R5.out.cell 0
  have q5_1:w7.cell? ⟨wN.heap.size,1,none⟩=some (.int .i64 x.p):=R5.out.cell 1
  have q5_2:w7.cell? ⟨wN.heap.size,2,none⟩=some (.int .i64 x.n):=R5.out.cell 2
  have q5_3:w7.cell? ⟨wN.heap.size,3,none⟩=some (.int .i64 x.g):=R5.out.cell 3
  have q5_4:w7.cell? ⟨wN.heap.size,4,none⟩=some (.slice Ad nd kd):=R5.out.cell 4
  have q5_5:w7.cell? ⟨wN.heap.size,5,none⟩=some (.slice Ce me de):=R5.out.cell 5
  have q5_6:w7.cell? ⟨wN.heap.size,6,none⟩=some (.int .i64 x.att.h):=R5.out.cell 6
  have q5_7:w7.cell? ⟨wN.heap.size,7,none⟩=some (.int .i64 x.att.o):=R5.out.cell 7
  have q5_9:w7.cell? ⟨wN.heap.size,9,none⟩=some (.int .i64 x.att.l):=R5.out.cell 9
  have q5_10:w7.cell? ⟨wN.heap.size,10,none⟩=some (.int .i64 x.att.i):=R5.out.cell 10
  have q5_11:w7.cell? ⟨wN.heap.size,11,none⟩=some (.int .i64 x.att.g):=R5.out.cell 11
  have q5_12:w7.cell? ⟨wN.heap.size,12,none⟩=some (.int .i64 x.att.s):=R5.out.cell 12
  clear hbel6 hbel7 HOP HOP6 hop6
  cases b2 with
  | true =>
   have hc9:c0=10:=by rw [HCL2.out,if_pos rfl]
   subst hc9
   go_wp2_with fail
   go_ret
   exact ⟨by simp,HB.out⟩
  | false =>
   have hcl3:c0=if q=(0,0)∧ob=false then 11 else 0:=by rw [HCL2.out,if_neg (by simp)]
   have HCL3:=hide hcl3
   have qT7:w7.cell? ⟨gT,7,none⟩=some (.slice (some ⟨bC,oC,none⟩) n cC):=HT.out.row.cell 7
   clear hcl3
   obtain ⟨r0,hr0⟩:∃r0,decide (q.1=0∧q.2=0)=r0:=⟨_,rfl⟩
   have heq:=fun W=>eq_plcB hr0 W
   have HR0:=hide hr0
   clear hr0
   cases r0 with
   | false =>
    have hc9:c0=0:=by rw [HCL3.out,if_neg (fun h=>by have h1:=of_decide_eq_false HR0.out;exact h1 ⟨by rw [h.1],by rw [h.1]⟩)]
    subst hc9
    cases ft with
    | false =>
     go_wp2_with (first|(refine wpList_loadX rfl 41 (.tmp 68) rfl 2 plc_agg plc_size bC (oC+i*2) rfl [.int .i64 q.1,.int .i64 q.2] HCQ.out rfl ?_))
     go_ret
     exact ⟨by simp,HB.out⟩
    | true =>
     go_wp2_with (first|(refine wpList_loadX rfl 41 (.tmp 68) rfl 2 plc_agg plc_size bC (oC+i*2) rfl [.int .i64 q.1,.int .i64 q.2] HCQ.out rfl ?_))
     go_ret
     exact ⟨by simp,HB.out⟩
   | true =>
    have hq0:q=(0,0):=by have h1:=of_decide_eq_true HR0.out;exact Prod.ext h1.1 h1.2
    go_wp2_with (first|(refine wpList_loadX rfl 41 (.tmp 68) rfl 2 plc_agg plc_size bC (oC+i*2) rfl [.int .i64 q.1,.int .i64 q.2] HCQ.out rfl ?_))
    refine (VOpq_b HOB.out HXP.out.2.2.1.1 HXP.out.2.2.1.2 w7).mono ?_
    rintro e8 w8 ⟨rfl,hbel8⟩
    have HB8:=hide (HB.out.trans (hbel8.mono HB.out.size))
    clear hbel8
    cases ob with
    | false =>
     have hc9:c0=11:=by rw [HCL3.out,if_pos ⟨hq0,rfl⟩]
     subst hc9
     go_wp2_with fail
     go_ret
     exact ⟨by simp,HB8.out⟩
    | true =>
     have hc9:c0=0:=by rw [HCL3.out,if_neg (by simp)]
     subst hc9
     cases ft with
     | false =>
      go_wp2_with fail
      go_ret
      exact ⟨by simp,HB8.out⟩
     | true =>
      go_wp2_with fail
      go_ret
      exact ⟨by simp,HB8.out⟩
end Go.Proofs.YtnhegahpfacdgaaGreat

