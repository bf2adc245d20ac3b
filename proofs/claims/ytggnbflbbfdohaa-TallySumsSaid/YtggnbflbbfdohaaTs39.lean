import Derived.Test.YtggnbflbbfdohaaTs38
import Derived.Test.YtggnbflbbfdohaaTs29

namespace Go.Proofs.Ytggnbflbbfdohaa
open Go.RowKit Go.Shelf Plain

set_option maxRecDepth 100000 in
set_option maxHeartbeats 16000000 in
theorem law_TallySums {AU:Option Addr} {nU cU:Nat} {ns:List NodV} (w:World) (hu:RdE nodEn w (Under w.heap.size) AU nU ns) (hfine:∀x∈ns,x.ents.length≤9223372036854775807):Calls Try.prog 3 #[.agg #[.slice AU nU cU]] w (LawOk w):=by
 obtain ⟨W1,hW1⟩:∃W1,(w.alloc (.cells ([.slice AU nU cU]:List Value).toArray 24))=W1:=⟨_,rfl⟩
 obtain ⟨r0,hb1,hs1⟩:=rowA1 w _ _ hW1
 have hW1':(w.alloc (.cells #[.slice AU nU cU] 24))=W1:=hW1
 have R1:=hide r0
 have HB:=hide hb1
 have hsz0:=hb1.size
 have HU:=hide (hu.under hb1 (Nat.le_refl _))
 have HFINE:=hide hfine
 have hnU:ns.length=nU:=hu.1
 obtain ⟨B,hBw⟩:∃B,w.heap.size=B:=⟨_,rfl⟩
 have hB:B≤w.heap.size:=by omega
 replace HU:=hide (show RdE nodEn W1 (Under B) AU nU ns from by rw [←hBw];exact HU.out)
 clear r0 hb1 hW1 hu hfine hBw
 go_enter Try.func3,Try.ntmps3
 go_wp2_with (refine wpList_loadW rfl 24 (.tmp 1) rfl 1 brn_agg brn_size (w.heap.size) 24 rfl [.slice AU nU cU] R1.out rfl ?_)
 refine (PBranch_any W1 (und_up HU.out (by omega)) (by omega) HFINE.out).mono ?_
 rintro e w2 ⟨p,rfl,hb2,hp⟩
 have HP:=hide hp
 replace HB:=hide (HB.out.trans (hb2.mono (by omega)))
 replace R1:=hide (R1.out.on hb2)
 replace HU:=hide (HU.out.under hb2 (by omega))
 have hsz2:=hb2.size
 clear hp hb2
 cases p
 ·go_wp2_with (go_at_call 5;refine (awake25_any _).mono ?_;rintro e98 wz ⟨rfl,hbz⟩;have HBZ:=hide (HB.out.trans (hbz.mono (by have:=HB.out.size;omega)));clear hbz)
  go_ret
  exact LawOk.of HBZ.out
 obtain ⟨hn24,hpl⟩:=HP.out (by first|rfl|trivial)
 have hMM:=(plain_many (ns:=ns) (by omega) hpl).1
 have HMM:=hide hMM
 obtain ⟨rs,hrs⟩:∃rs,reachL ns (waysT ns)=rs:=⟨_,rfl⟩
 have HRS:=hide hrs
 obtain ⟨l,hl⟩:∃l,waysT ns=l:=⟨_,rfl⟩
 have hdl:(walkW ns [1,3,2]).1=l:=hl
 have HDL:=hide hdl
 have hok:OkW ns (waysT ns):=walk_ok ns [1,3,2]
 have hall:=all_both rs hok
 rw [hl] at hok hall
 have hlw:=hok.le
 obtain ⟨cs,hcs⟩:∃cs,cntT ns rs (waysT ns)=cs:=⟨_,rfl⟩
 have HCS:=hide hcs
 rw [hl] at hcs
 rw [hcs] at hall
 have hlc:cs.length=ns.length:=by rw [←hcs,cntT_len]
 have HLC:=hide hlc
 have HALL:=hide hall
 have HOK:=hide hok
 have hn24':ns.length≤24:=by omega
 have hlit:=fun W=>lit_trees W
 subst hnU
 clear hMM hrs hl hdl hok hall hcs hpl hn24 HP HFINE hlc
 go_wp2_with (refine wpList_loadW rfl 24 (.tmp 1) rfl 1 brn_agg brn_size (w.heap.size) 24 rfl [.slice AU ns.length cU] R1.out rfl ?_)
 have hba:=below_new (below_self w2) (.cells #[.int .i64 1,.int .i64 3,.int .i64 2] 3)
 refine (Dirs_any _ (und_up (HU.out.under hba (by omega)) (by have:=hba.size;omega)) (trees_row (RowL.new w2 3 [.int .i64 1,.int .i64 3,.int .i64 2])) HMM.out (by decide)).mono ?_
 rintro e wT ⟨AW,nW,cW,rfl,-,hwy,hbel⟩
 have hbl:=hba.trans (hbel.mono hba.size)
 rw [HDL.out] at hwy
 have hnW:l.length=nW:=hwy.1
 subst hnW
 have HWT:=hide (show WyR wT 0 wT.heap.size AW l.length l from ⟨hwy.mono (fun _ _=>rfl) (fun b hb=>⟨Nat.zero_le _,hb.2⟩),Nat.le_refl _⟩)
 have HBT:=hide (HB.out.trans (hbl.mono (by omega)))
 have R1T:=hide (R1.out.on hbl)
 have HUT:=hide (HU.out.under hbl (by omega))
 have hszT:=hbl.size
 clear hba hwy hbel hbl HB R1 HU HDL hlit
 go_wp2_with fail
 go_loopw [3,4,19] (fun v3 v4 v19 wr=>∃j:Nat,j≤l.length∧v19=.int .i64 j∧v3=.int .i64 (((l.take j).foldl (tW ns) (0,0)).1:Nat)∧v4=.int .i64 (((l.take j).foldl (tW ns) (0,0)).2:Nat)∧Below wT.heap.size wT wr) (fun _ _ v19 _=>l.length - (intOf v19).toNat)
 case atStart=>exact ⟨0,by omega,rfl,rfl,rfl,Below.refl _ _⟩
 case round =>
  obtain ⟨j,hj,rfl,rfl,rfl,hbr⟩:=hrel
  have hbrs:=hbr.size
  obtain ⟨S,hS⟩:∃S,(l.take j).foldl (tW ns) (0,0)=S:=⟨_,rfl⟩
  have hSle:=tWs_le HMM.out (l.take j) (0,0)
  rw [hS] at hSle ⊢
  have hSl:(l.take j).length≤24:=by rw [List.length_take];omega
  have hS1:S.1≤432:=by have:=hSle.1;simp only [Nat.zero_add] at this;omega
  have hS2:S.2≤432:=by have:=hSle.2;simp only [Nat.zero_add] at this;omega
  by_cases hlt:j < l.length
  ·have HBQ:=hide hbr
   have R1:=hide (R1T.out.on hbr)
   have HU:=hide (HUT.out.under hbr (by omega))
   have HWY:=hide (wy_on HWT.out hbr)
   obtain ⟨y,hy⟩:∃y,l[j]?=some y:=⟨_,List.getElem?_eq_getElem hlt⟩
   have hdy:=HOK.out.1 y (List.mem_of_getElem? hy)
   have hin:=isDir_in hdy
   obtain ⟨m,hm⟩:∃m:Nat,y.ino=(m:Int)+1:=by
    obtain ⟨m,hm⟩:=Int.eq_ofNat_of_zero_le (show 0≤y.ino - 1 by omega)
    exact ⟨m,by omega⟩
   have HST:=hide (show (l.take (j+1)).foldl (tW ns) (0,0)=tW ns S y from by rw [List.take_add_one,hy,List.foldl_append,hS];rfl)
   obtain ⟨bW,oW,hAW,hbW,hcy⟩:=way_get HWY.out.1 hy
   have HCY:=hide hcy
   obtain ⟨bU,oU,hAU⟩:=rde_some HU.out (by omega)
   obtain ⟨x,hx⟩:∃x,ns[m]?=some x:=⟨_,List.getElem?_eq_getElem (by omega)⟩
   have hxa:nodAt ns y.ino=x:=by rw [hm];exact nodAt_get hx
   have HXA:=hide hxa
   have HX:=hide hx
   have hel:x.ents.length≤16:=by rw [←hxa];exact nodAt_ents HMM.out y.ino
   have hw1:IntKind.i64.wrap (y.ino - 1)=(m:Int):=by rw [hm,show (m:Int)+1 - 1=m from by omega];exact IntWalk.i64_in _ (by omega)
   have hi1:¬y.ino < 1:=by omega
   have hi2:¬(ns.length:Int) < y.ino:=by omega
   have hmn:m < ns.length:=by omega
   have hmi:(m:Int) < (ns.length:Int):=by omega
   have hjl:(j:Int) < (l.length:Int):=by omega
   have hdw:IntKind.i64.wrap ((S.2:Int)+2)=((S.2+2:Nat):Int):=by rw [show (S.2:Int)+2=((S.2+2:Nat):Int) by omega];exact IntWalk.i64_in _ (by omega)
   subst hAW
   subst hAU
   clear hy hdy hin hcy hx hxa hbr hSle hS hm
   have q1_0:wr.cell? ⟨w.heap.size,0,none⟩=some (.slice (some ⟨bU,oU,none⟩) ns.length cU):=R1.out.cell 0
   go_upto_region 10 with (first|(refine wpList_loadW rfl 24 (.tmp 1) rfl 1 brn_agg brn_size (w.heap.size) 24 rfl [.slice (some ⟨bU,oU,none⟩) ns.length cU] R1.out rfl ?_)|(refine wpList_loadX rfl 30 (.tmp 21) rfl 3 way_agg way_size bW (oW+j*3) rfl (wayC y) HCY.out rfl ?_)|(refine wpList_storeW rfl 30 (.tmp 6) (.tmp 22) rfl 3 way_size (wr.heap.size) 30 rfl [.int .i64 0,.int .i64 0,.string ⟨#[]⟩] (wayC y) rfl (RowL.new wr 30 [.int .i64 0,.int .i64 0,.string ⟨#[]⟩]) rfl rfl (wayC_one _) ?_;intro wS121 hr121 hg121 hs121;have hzb:=below_stored' hg121;clear q1_0;replace HBQ:=hide (HBQ.out.trans (hzb.mono (by omega)));replace R1:=hide (R1.out.on hzb);replace HU:=hide (HU.out.under hzb (by omega));replace HWY:=hide (wy_on HWY.out hzb);have hsz122:=hzb.size;have q1_0:wS121.cell? ⟨w.heap.size,0,none⟩=some (.slice (some ⟨bU,oU,none⟩) ns.length cU):=R1.out.cell 0;have R6:=hide hr121;have hlt121:=hr121.lt;have q6_0:wS121.cell? ⟨wr.heap.size,0,none⟩=some (.int .i64 y.ino):=R6.out.cell 0;clear hzb hr121;clear hg121 hs121))
   obtain ⟨b',o',_,hAU,hbU,⟨A0,n0,k0,C0,m0,d0,rfl,hn0,hdat,hm0,hE⟩,hcs0⟩:=HU.out.get_nod HX.out
   cases hAU
   have q5:wS121.cell? ⟨bU,oU+m*13+5,none⟩=some (.slice C0 m0 d0):=hcs0 5 _ rfl
   have HE0:=hide hE
   have hm0l:x.ents.length=m0:=hE.1
   have hbl2:bU < wS121.heap.size:=by have h1:bU < B:=hbU;omega
   have hq0:=hcs0 0 _ rfl
   have HSW:=hide (show tW ns S y=x.ents.foldl (tE ns) (S.1,S.2+2) from by unfold tW;rw [HXA.out])
   clear hcs0 hdat hE
   subst hm0l
   go_wp2_with fail
   rename World=>wX
   obtain ⟨L,hL⟩:∃L,x.ents=L:=⟨_,rfl⟩
   rw [hL] at HE0 HSW hel
   rw [hL]
   have HBX:=HBQ
   have R1X:=R1
   have HUX:=HU
   have hszX:=HBQ.out.size
   clear hL q5 hq0 hn0 hm0 R1 HU HWY q6_0 q1_0
   go_loopw [3,4,45] (fun v3 v4 v45 wq=>∃i:Nat,i≤L.length∧v45=.int .i64 i∧v3=.int .i64 (((L.take i).foldl (tE ns) (S.1,S.2+2)).1:Nat)∧v4=.int .i64 (((L.take i).foldl (tE ns) (S.1,S.2+2)).2:Nat)∧Below wX.heap.size wX wq) (fun _ _ v45 _=>L.length - (intOf v45).toNat)
   case atStart=>exact ⟨0,by omega,rfl,rfl,rfl,Below.refl _ _⟩
   case round =>
    rename World=>wq
    obtain ⟨i,hi,rfl,rfl,rfl,hbq⟩:=hrel
    have hbqs:=hbq.size
    obtain ⟨V,hV⟩:∃V,(L.take i).foldl (tE ns) (S.1,S.2+2)=V:=⟨_,rfl⟩
    have hVle:=tEs_le ns (L.take i) (S.1,S.2+2)
    rw [hV] at hVle ⊢
    have hVl:(L.take i).length≤16:=by rw [List.length_take];omega
    have hV1:V.1≤500:=by have:=hVle.1;simp only at this;omega
    have hV2:V.2≤500:=by have:=hVle.2;simp only at this;omega
    by_cases hli:i < L.length
    ·have HBI:=hide hbq
     have R1:=hide (R1X.out.on hbq)
     have HU:=hide (HUX.out.under hbq (by omega))
     have HE:=hide (HE0.out.under hbq (by omega))
     obtain ⟨e,he⟩:∃e,L[i]?=some e:=⟨_,List.getElem?_eq_getElem hli⟩
     obtain ⟨bE,oE,hCE,-,hce⟩:=ent_get HE.out he
     have HCE:=hide hce
     have HSI:=hide (show (L.take (i+1)).foldl (tE ns) (S.1,S.2+2)=tE ns V e from by rw [List.take_add_one,he,List.foldl_append,hV];rfl)
     have hil:(i:Int) < (L.length:Int):=by omega
     subst hCE
     clear hbq he hce hVle hV
     have q1_0:wq.cell? ⟨w.heap.size,0,none⟩=some (.slice (some ⟨bU,oU,none⟩) ns.length cU):=R1.out.cell 0
     by_cases hv1:1≤e.ino∧e.ino≤(ns.length:Int)
     ·obtain ⟨m2,hm2⟩:∃m2:Nat,e.ino=(m2:Int)+1:=by
       obtain ⟨m2,hm2⟩:=Int.eq_ofNat_of_zero_le (show 0≤e.ino - 1 by omega)
       exact ⟨m2,by omega⟩
      obtain ⟨x2,hx2⟩:∃x2,ns[m2]?=some x2:=⟨_,List.getElem?_eq_getElem (by omega)⟩
      obtain ⟨b',o',A1,n1,k1,C1,m1,d1,hAU,hbU1,hcs1⟩:=nod_cells HU.out hx2
      cases hAU
      have qk0:wq.cell? ⟨bU,oU+m2*13,none⟩=some (.int .i64 x2.k):=hcs1 0 _ rfl
      have hbl3:bU < wq.heap.size:=by have h1:bU < B:=hbU1;omega
      have hw2:IntKind.i64.wrap (e.ino - 1)=(m2:Int):=by rw [hm2,show (m2:Int)+1 - 1=m2 from by omega];exact IntWalk.i64_in _ (by omega)
      have hin2:inN ns e.ino=true:=inN_iff.2 hv1
      have hdx:isDir ns e.ino=decide (x2.k=1):=by unfold isDir;rw [hm2,nodAt_get hx2]
      have hv11:¬e.ino < 1:=by omega
      have hv12:¬(ns.length:Int) < e.ino:=by omega
      have hm2n:m2 < ns.length:=by omega
      have hm2i:(m2:Int) < (ns.length:Int):=by omega
      have hcell:=fun (W:World) (hb:Below wq.heap.size wq W)=>show W.cell? ⟨bU,oU+m2*13,none⟩=some (.int .i64 x2.k) from (hb.cell (p:=⟨bU,oU+m2*13,none⟩) hbl3).trans qk0
      have HCK:=hide hcell
      clear hcs1 hx2 hm2 hv1 hcell qk0
      by_cases hk:x2.k=1
      ·have HTE:=hide (show tE ns V e=(V.1,V.2+1) from by unfold tE;rw [if_pos hin2,if_pos (by rw [hdx];simp [hk])])
       have hdw2:IntKind.i64.wrap ((V.2:Int)+1)=((V.2+1:Nat):Int):=by rw [show (V.2:Int)+1=((V.2+1:Nat):Int) by omega];exact IntWalk.i64_in _ (by omega)
       clear hin2 hdx
       go_wp2_with (first|(refine wpList_loadW rfl 24 (.tmp 1) rfl 1 brn_agg brn_size (w.heap.size) 24 rfl [.slice (some ⟨bU,oU,none⟩) ns.length cU] R1.out rfl ?_)|(refine wpList_loadX rfl 40 (.tmp 47) rfl 3 entw_agg entw_size bE (oE+i*3) rfl (cellsE e) HCE.out rfl ?_)|(refine wpList_storeW rfl 40 (.tmp 8) (.tmp 48) rfl 3 entw_size (wq.heap.size) 40 rfl [.int .i64 0,.int .i64 0,.string ⟨#[]⟩] (cellsE e) rfl (RowL.new wq 40 [.int .i64 0,.int .i64 0,.string ⟨#[]⟩]) rfl rfl (cellsE_one _) ?_;intro wS201 hr201 hg201 hs201;have qk:=HCK.out _ (below_stored' hg201);have hzb:=below_stored' hg201;clear q1_0;replace HBI:=hide (HBI.out.trans (hzb.mono (by omega)));replace R1:=hide (R1.out.on hzb);replace HU:=hide (HU.out.under hzb (by omega));replace HE:=hide (HE.out.under hzb (by omega));have hsz202:=hzb.size;have q1_0:wS201.cell? ⟨w.heap.size,0,none⟩=some (.slice (some ⟨bU,oU,none⟩) ns.length cU):=R1.out.cell 0;have R8:=hide hr201;have hlt201:=hr201.lt;have q8_1:wS201.cell? ⟨wq.heap.size,1,none⟩=some (.int .i64 e.ino):=R8.out.cell 1;clear hzb hr201;clear hg201 hs201))
       go_roundw
       case rel=>exact ⟨i+1,by omega,by go_num,by rw [HSI.out,HTE.out],by rw [HSI.out,HTE.out];first|rfl|go_num,HBI.out⟩
       case measure=>simp [intOf];omega
      ·have HTE:=hide (show tE ns V e=(V.1+1,V.2) from by unfold tE;rw [if_pos hin2,if_neg (by rw [hdx];simp [hk])])
       have hdw2:IntKind.i64.wrap ((V.1:Int)+1)=((V.1+1:Nat):Int):=by rw [show (V.1:Int)+1=((V.1+1:Nat):Int) by omega];exact IntWalk.i64_in _ (by omega)
       clear hin2 hdx
       go_wp2_with (first|(refine wpList_loadW rfl 24 (.tmp 1) rfl 1 brn_agg brn_size (w.heap.size) 24 rfl [.slice (some ⟨bU,oU,none⟩) ns.length cU] R1.out rfl ?_)|(refine wpList_loadX rfl 40 (.tmp 47) rfl 3 entw_agg entw_size bE (oE+i*3) rfl (cellsE e) HCE.out rfl ?_)|(refine wpList_storeW rfl 40 (.tmp 8) (.tmp 48) rfl 3 entw_size (wq.heap.size) 40 rfl [.int .i64 0,.int .i64 0,.string ⟨#[]⟩] (cellsE e) rfl (RowL.new wq 40 [.int .i64 0,.int .i64 0,.string ⟨#[]⟩]) rfl rfl (cellsE_one _) ?_;intro wS201 hr201 hg201 hs201;have qk:=HCK.out _ (below_stored' hg201);have hzb:=below_stored' hg201;clear q1_0;replace HBI:=hide (HBI.out.trans (hzb.mono (by omega)));replace R1:=hide (R1.out.on hzb);replace HU:=hide (HU.out.under hzb (by omega));replace HE:=hide (HE.out.under hzb (by omega));have hsz202:=hzb.size;have q1_0:wS201.cell? ⟨w.heap.size,0,none⟩=some (.slice (some ⟨bU,oU,none⟩) ns.length cU):=R1.out.cell 0;have R8:=hide hr201;have hlt201:=hr201.lt;have q8_1:wS201.cell? ⟨wq.heap.size,1,none⟩=some (.int .i64 e.ino):=R8.out.cell 1;clear hzb hr201;clear hg201 hs201))
       go_roundw
       case rel=>exact ⟨i+1,by omega,by go_num,by rw [HSI.out,HTE.out];first|rfl|go_num,by rw [HSI.out,HTE.out],HBI.out⟩
       case measure=>simp [intOf];omega
     ·have HTE:=hide (show tE ns V e=V from by unfold tE;rw [if_neg (fun h=>hv1 (inN_iff.1 h))])
      by_cases hv2:e.ino < 1
      ·clear hv1
       go_wp2_with (first|(refine wpList_loadW rfl 24 (.tmp 1) rfl 1 brn_agg brn_size (w.heap.size) 24 rfl [.slice (some ⟨bU,oU,none⟩) ns.length cU] R1.out rfl ?_)|(refine wpList_loadX rfl 40 (.tmp 47) rfl 3 entw_agg entw_size bE (oE+i*3) rfl (cellsE e) HCE.out rfl ?_)|(refine wpList_storeW rfl 40 (.tmp 8) (.tmp 48) rfl 3 entw_size (wq.heap.size) 40 rfl [.int .i64 0,.int .i64 0,.string ⟨#[]⟩] (cellsE e) rfl (RowL.new wq 40 [.int .i64 0,.int .i64 0,.string ⟨#[]⟩]) rfl rfl (cellsE_one _) ?_;intro wS201 hr201 hg201 hs201;have hzb:=below_stored' hg201;clear q1_0;replace HBI:=hide (HBI.out.trans (hzb.mono (by omega)));replace R1:=hide (R1.out.on hzb);replace HU:=hide (HU.out.under hzb (by omega));replace HE:=hide (HE.out.under hzb (by omega));have hsz202:=hzb.size;have q1_0:wS201.cell? ⟨w.heap.size,0,none⟩=some (.slice (some ⟨bU,oU,none⟩) ns.length cU):=R1.out.cell 0;have R8:=hide hr201;have hlt201:=hr201.lt;have q8_1:wS201.cell? ⟨wq.heap.size,1,none⟩=some (.int .i64 e.ino):=R8.out.cell 1;clear hzb hr201;clear hg201 hs201))
       go_roundw
       case rel=>exact ⟨i+1,by omega,by go_num,by rw [HSI.out,HTE.out],by rw [HSI.out,HTE.out],HBI.out⟩
       case measure=>simp [intOf];omega
      ·have hv3:(ns.length:Int) < e.ino:=by omega
       clear hv1
       go_wp2_with (first|(refine wpList_loadW rfl 24 (.tmp 1) rfl 1 brn_agg brn_size (w.heap.size) 24 rfl [.slice (some ⟨bU,oU,none⟩) ns.length cU] R1.out rfl ?_)|(refine wpList_loadX rfl 40 (.tmp 47) rfl 3 entw_agg entw_size bE (oE+i*3) rfl (cellsE e) HCE.out rfl ?_)|(refine wpList_storeW rfl 40 (.tmp 8) (.tmp 48) rfl 3 entw_size (wq.heap.size) 40 rfl [.int .i64 0,.int .i64 0,.string ⟨#[]⟩] (cellsE e) rfl (RowL.new wq 40 [.int .i64 0,.int .i64 0,.string ⟨#[]⟩]) rfl rfl (cellsE_one _) ?_;intro wS201 hr201 hg201 hs201;have hzb:=below_stored' hg201;clear q1_0;replace HBI:=hide (HBI.out.trans (hzb.mono (by omega)));replace R1:=hide (R1.out.on hzb);replace HU:=hide (HU.out.under hzb (by omega));replace HE:=hide (HE.out.under hzb (by omega));have hsz202:=hzb.size;have q1_0:wS201.cell? ⟨w.heap.size,0,none⟩=some (.slice (some ⟨bU,oU,none⟩) ns.length cU):=R1.out.cell 0;have R8:=hide hr201;have hlt201:=hr201.lt;have q8_1:wS201.cell? ⟨wq.heap.size,1,none⟩=some (.int .i64 e.ino):=R8.out.cell 1;clear hzb hr201;clear hg201 hs201))
       go_roundw
       case rel=>exact ⟨i+1,by omega,by go_num,by rw [HSI.out,HTE.out],by rw [HSI.out,HTE.out],HBI.out⟩
       case measure=>simp [intOf];omega
    ·obtain rfl:i=L.length:=by omega
     have hil:¬((L.length:Int) < (L.length:Int)):=by omega
     rw [List.take_length] at hV
     have HV:=hide (show (l.take (j+1)).foldl (tW ns) (0,0)=V from by rw [HST.out,HSW.out,hV])
     have HBN:=hide (HBX.out.trans (hbq.mono (by omega)))
     clear hbq hV hVle
     go_wp2_with fail
     go_roundw
     case rel=>exact ⟨j+1,by omega,by go_num,by rw [HV.out],by rw [HV.out],HBN.out⟩
     case measure=>simp [intOf];omega
  ·obtain rfl:j=l.length:=by omega
   have hjl:¬((l.length:Int) < (l.length:Int)):=by omega
   rw [List.take_length] at hS
   have hall:=HALL.out
   rw [hS] at hall
   have hNS:sumT (nonP ns) 0 cs=S.1:=congrArg Prod.fst hall
   have hDS:sumT (dirP ns) 0 cs=S.2:=congrArg Prod.snd hall
   have HNS:=hide hNS
   have HDS:=hide hDS
   have HBQ0:=hide hbr
   have R10:=hide (R1T.out.on hbr)
   have HU0:=hide (HUT.out.under hbr (by omega))
   have q1_0:wr.cell? ⟨w.heap.size,0,none⟩=some (.slice AU ns.length cU):=R10.out.cell 0
   clear hbr hall hNS hDS hS hSle HWT R1T HUT
   go_wp2_with fail
   rename World=>wY
   clear q1_0
   go_loopw [3,4,78] (fun v3 v4 v78 wr=>∃(j:Nat) (p q:Nat),j≤ns.length∧v78=.int .i64 j∧v3=.int .i64 (p:Nat)∧v4=.int .i64 (q:Nat)∧p+sumT (nonP ns) 0 (cs.take j)=S.1∧q+sumT (dirP ns) 0 (cs.take j)=S.2∧Below wY.heap.size wY wr) (fun _ _ v78 _=>ns.length - (intOf v78).toNat)
   case atStart=>exact ⟨0,S.1,S.2,by omega,rfl,rfl,rfl,rfl,rfl,Below.refl _ _⟩
   case round =>
    obtain ⟨j,p,q,hj,rfl,rfl,rfl,hp,hq,hbr⟩:=hrel
    have hbrs:=hbr.size
    by_cases hlt:j < ns.length
    ·have HBQ:=hide hbr
     have R1:=hide (R10.out.on hbr)
     have HU:=hide (HU0.out.under hbr (by omega))
     obtain ⟨bU,oU,hAU⟩:=rde_some HU.out (by omega)
     obtain ⟨x,hx⟩:∃x,ns[j]?=some x:=⟨_,List.getElem?_eq_getElem hlt⟩
     obtain ⟨b',o',A0,n0,k0,C0,m0,d0,hAU2,-,hcx⟩:=nod_cells HU.out hx
     have HCX:=hide hcx
     obtain ⟨z,hz⟩:∃z,cs[j]?=some z:=⟨_,List.getElem?_eq_getElem (by have:=HLC.out;omega)⟩
     have hnm:nameT cs ((j:Int)+1)=z.1:=by unfold nameT;rw [if_pos (by have:=HLC.out;omega),show ((j:Int)+1 - 1).toNat=j by omega,hz];rfl
     have hdx:isDir ns ((j:Int)+1)=decide (x.k=1):=by unfold isDir;rw [nodAt_get hx]
     have HN1:=sumT_take (nonP ns) hz
     have HD1:=sumT_take (dirP ns) hz
     have hp1:=sumT_part (nonP ns) cs (j+1)
     have hq1:=sumT_part (dirP ns) cs (j+1)
     rw [HNS.out] at hp1
     rw [HDS.out] at hq1
     unfold nonP at HN1
     unfold dirP at HD1
     rw [hdx] at HN1 HD1
     have hjn:(j:Int) < (ns.length:Int):=by omega
     have hwj:IntKind.i64.wrap ((j:Int)+1)=(j:Int)+1:=IntWalk.i64_in _ (by omega)
     subst hAU
     cases hAU2
     clear hbr hx hcx hz hdx
     have q1_0:wr.cell? ⟨w.heap.size,0,none⟩=some (.slice (some ⟨bU,oU,none⟩) ns.length cU):=R1.out.cell 0
     by_cases hk:x.k=1
     ·have hn1:sumT (nonP ns) 0 (cs.take (j+1))=sumT (nonP ns) 0 (cs.take j):=by unfold nonP;rw [HN1];simp [hk]
      have hd1:sumT (dirP ns) 0 (cs.take (j+1))=sumT (dirP ns) 0 (cs.take j)+z.1:=by unfold dirP;rw [HD1];simp [hk]
      have hdw2:IntKind.i64.wrap ((q:Int) - (z.1:Int))=((q - z.1:Nat):Int):=by rw [show (q:Int) - (z.1:Int)=((q - z.1:Nat):Int) by omega];exact IntWalk.i64_in _ (by omega)
      clear HN1 HD1
      go_wp2_with (first|(refine wpList_loadW rfl 24 (.tmp 1) rfl 1 brn_agg brn_size (w.heap.size) 24 rfl [.slice (some ⟨bU,oU,none⟩) ns.length cU] R1.out rfl ?_)|(refine wpList_loadX rfl 38 (.tmp 81) rfl 13 nod_agg nod_size bU (oU+j*13) rfl (nodC x (.slice A0 n0 k0) (.slice C0 m0 d0)) HCX.out rfl ?_)|(refine wpList_storeW rfl 38 (.tmp 10) (.tmp 82) rfl 13 nod_size (wr.heap.size) 38 rfl (nodC nod0 (.slice none 0 0) (.slice none 0 0)) (nodC x (.slice A0 n0 k0) (.slice C0 m0 d0)) rfl (RowL.new wr 38 (nodC nod0 (.slice none 0 0) (.slice none 0 0))) rfl rfl (nodC_one _ _ _ _ _ _ _) ?_;intro wS301 hr301 hg301 hs301;have hzb:=below_stored' hg301;clear q1_0;replace HBQ:=hide (HBQ.out.trans (hzb.mono (by omega)));replace R1:=hide (R1.out.on hzb);replace HU:=hide (HU.out.under hzb (by omega));have hsz302:=hzb.size;have q1_0:wS301.cell? ⟨w.heap.size,0,none⟩=some (.slice (some ⟨bU,oU,none⟩) ns.length cU):=R1.out.cell 0;have R10:=hide hr301;have hlt301:=hr301.lt;have q10_0:wS301.cell? ⟨wr.heap.size,0,none⟩=some (.int .i64 x.k):=R10.out.cell 0;clear hzb hr301;clear hg301 hs301)|(go_at_call 7;refine (TNames_any HRS.out HCS.out hnm wS301 HU.out (by omega) HMM.out).mono ?_;rintro e303 wN ⟨rfl,hbel⟩;clear q1_0 q10_0;replace HBQ:=hide (HBQ.out.trans (hbel.mono (by omega)));replace R1:=hide (R1.out.on hbel);replace HU:=hide (HU.out.under hbel (by omega));replace R10:=hide (R10.out.on hbel);have hsz304:=hbel.size;have q1_0:wN.cell? ⟨w.heap.size,0,none⟩=some (.slice (some ⟨bU,oU,none⟩) ns.length cU):=R1.out.cell 0;have q10_0:wN.cell? ⟨wr.heap.size,0,none⟩=some (.int .i64 x.k):=R10.out.cell 0;clear hbel))
      go_roundw
      case rel=>exact ⟨j+1,p,q - z.1,by omega,by go_num,rfl,rfl,by omega,by omega,HBQ.out⟩
      case measure=>simp [intOf];omega
     ·have hn1:sumT (nonP ns) 0 (cs.take (j+1))=sumT (nonP ns) 0 (cs.take j)+z.1:=by unfold nonP;rw [HN1];simp [hk]
      have hd1:sumT (dirP ns) 0 (cs.take (j+1))=sumT (dirP ns) 0 (cs.take j):=by unfold dirP;rw [HD1];simp [hk]
      have hdw2:IntKind.i64.wrap ((p:Int) - (z.1:Int))=((p - z.1:Nat):Int):=by rw [show (p:Int) - (z.1:Int)=((p - z.1:Nat):Int) by omega];exact IntWalk.i64_in _ (by omega)
      clear HN1 HD1
      go_wp2_with (first|(refine wpList_loadW rfl 24 (.tmp 1) rfl 1 brn_agg brn_size (w.heap.size) 24 rfl [.slice (some ⟨bU,oU,none⟩) ns.length cU] R1.out rfl ?_)|(refine wpList_loadX rfl 38 (.tmp 81) rfl 13 nod_agg nod_size bU (oU+j*13) rfl (nodC x (.slice A0 n0 k0) (.slice C0 m0 d0)) HCX.out rfl ?_)|(refine wpList_storeW rfl 38 (.tmp 10) (.tmp 82) rfl 13 nod_size (wr.heap.size) 38 rfl (nodC nod0 (.slice none 0 0) (.slice none 0 0)) (nodC x (.slice A0 n0 k0) (.slice C0 m0 d0)) rfl (RowL.new wr 38 (nodC nod0 (.slice none 0 0) (.slice none 0 0))) rfl rfl (nodC_one _ _ _ _ _ _ _) ?_;intro wS301 hr301 hg301 hs301;have hzb:=below_stored' hg301;clear q1_0;replace HBQ:=hide (HBQ.out.trans (hzb.mono (by omega)));replace R1:=hide (R1.out.on hzb);replace HU:=hide (HU.out.under hzb (by omega));have hsz302:=hzb.size;have q1_0:wS301.cell? ⟨w.heap.size,0,none⟩=some (.slice (some ⟨bU,oU,none⟩) ns.length cU):=R1.out.cell 0;have R10:=hide hr301;have hlt301:=hr301.lt;have q10_0:wS301.cell? ⟨wr.heap.size,0,none⟩=some (.int .i64 x.k):=R10.out.cell 0;clear hzb hr301;clear hg301 hs301)|(go_at_call 7;refine (TNames_any HRS.out HCS.out hnm wS301 HU.out (by omega) HMM.out).mono ?_;rintro e303 wN ⟨rfl,hbel⟩;clear q1_0 q10_0;replace HBQ:=hide (HBQ.out.trans (hbel.mono (by omega)));replace R1:=hide (R1.out.on hbel);replace HU:=hide (HU.out.under hbel (by omega));replace R10:=hide (R10.out.on hbel);have hsz304:=hbel.size;have q1_0:wN.cell? ⟨w.heap.size,0,none⟩=some (.slice (some ⟨bU,oU,none⟩) ns.length cU):=R1.out.cell 0;have q10_0:wN.cell? ⟨wr.heap.size,0,none⟩=some (.int .i64 x.k):=R10.out.cell 0;clear hbel))
      go_roundw
      case rel=>exact ⟨j+1,p - z.1,q,by omega,by go_num,rfl,rfl,by omega,by omega,HBQ.out⟩
      case measure=>simp [intOf];omega
    ·obtain rfl:j=ns.length:=by omega
     have hjn:¬((ns.length:Int) < (ns.length:Int)):=by omega
     rw [List.take_of_length_le (by have:=HLC.out;omega),HNS.out] at hp
     rw [List.take_of_length_le (by have:=HLC.out;omega),HDS.out] at hq
     have hp0:p=0:=by omega
     have hq0:q=0:=by omega
     subst hp0
     subst hq0
     have HB9:=hide (HBT.out.trans ((HBQ0.out.mono (by omega)).trans (hbr.mono (by omega))))
     clear hbr hp hq
     go_wp2_with (go_at_call 5;refine (awake25_any _).mono ?_;rintro e98 wz ⟨rfl,hbz⟩;have HBZ:=hide (HB9.out.trans (hbz.mono (by have:=HB9.out.size;omega)));clear hbz)
     go_ret
     exact LawOk.of HBZ.out
end Go.Proofs.Ytggnbflbbfdohaa

