import Derived.Test.YtggnbflbbfdohaaTs36

namespace Go.Proofs.Ytggnbflbbfdohaa
open Go.RowKit Go.Shelf Plain

theorem run_add2 {P:Program} {a b:Nat} (t:TypeId) (ha:a < 1000000) (hb:okF b) (W:World):(binOp .add t (.complex .f64 (F a) b) (.complex .f64 4611686018427387904 0)).run P W=.ok (.complex .f64 (F (a+2)) (zF b)) W:=by
 have h:=c_bump (a:=a) (b:=b) (k:=2) (by omega) hb
 rw [F_two] at h
 exact run_complex_sum W .add (.inl rfl) t .f64 _ _ _ _ _ _ h
theorem run_add1 {P:Program} {a b:Nat} (t:TypeId) (ha:a < 1000000) (hb:okF b) (W:World):(binOp .add t (.complex .f64 (F a) b) (.complex .f64 4607182418800017408 0)).run P W=.ok (.complex .f64 (F (a+1)) (zF b)) W:=by
 have h:=c_bump (a:=a) (b:=b) (k:=1) (by omega) hb
 rw [F_1] at h
 exact run_complex_sum W .add (.inl rfl) t .f64 _ _ _ _ _ _ h
theorem cT_cell {w:World} {g t:Nat} {cs:List (Nat×Nat)} {j:Nat} {z:Nat×Nat} (h:RowL w g t (cs.map cT)) (hz:cs[j]?=some z):w.cell? ⟨g,j,none⟩=some (.complex .f64 (F z.1) z.2):=by rw [h.cell,List.getElem?_map,hz];rfl
theorem addT_row {w:World} {g t:Nat} {cs:List (Nat×Nat)} {j k:Nat} {z:Nat×Nat} (h:RowL w g t ((cs.map cT).set j (.complex .f64 (F (z.1+k)) (zF z.2)))) (hz:cs[j]?=some z):RowL w g t ((addT cs j k).map cT):=by
 rw [addT_is hz,List.map_set]
 exact h
def WyR (w:World) (lo hi:Nat) (A:Option Addr) (n:Nat) (l:List WayV):Prop:=RdE wayEn w (fun b=>lo≤b∧b < hi) A n l∧hi≤w.heap.size
theorem wy_on {w w':World} {lo hi n:Nat} {A:Option Addr} {l:List WayV} (h:WyR w lo hi A n l) (hb:Below w.heap.size w w'):WyR w' lo hi A n l:=⟨h.1.mono (Kept.of_below hb (fun _ hb2=>Nat.lt_of_lt_of_le hb2.2 h.2)) (fun _ h=>h),Nat.le_trans h.2 hb.size⟩
theorem wy_grown {w w':World} {lo hi n g:Nat} {A:Option Addr} {l:List WayV} (h:WyR w lo hi A n l) (hg:w.grownBy w' (some g)) (hne:g < lo∨hi≤g):WyR w' lo hi A n l:=⟨h.1.mono (fun b hb=>hg.block b (Nat.lt_of_lt_of_le hb.2 h.2) (fun e=>by have e2:b=g:=Option.some.inj e;have h1:=hb.1;have h2:=hb.2;omega)) (fun _ h=>h),Nat.le_trans h.2 hg.size⟩
set_option maxRecDepth 100000 in
set_option maxHeartbeats 16000000 in
theorem Counts_any {AU:Option Addr} {nU cU B:Nat} {ns:List NodV} {rs:List Bool} (hrs:reachL ns (waysT ns)=rs) (w:World) (hu:RdE nodEn w (Under B) AU nU ns) (hB:B≤w.heap.size) (hM:Many ns):Calls Try.prog 12 #[.agg #[.slice AU nU cU]] w (CntRet w nU (cntT ns rs (waysT ns))):=by
 obtain ⟨W1,hW1⟩:∃W1,(w.alloc (.cells ([.slice AU nU cU]:List Value).toArray 24))=W1:=⟨_,rfl⟩
 obtain ⟨r0,hb1,hs1⟩:=rowA1 w _ _ hW1
 have hW1':(w.alloc (.cells #[.slice AU nU cU] 24))=W1:=hW1
 have R1:=hide r0
 have HB:=hide hb1
 have hsz0:=hb1.size
 have HU:=hide (hu.under hb1 hB)
 have HMM:=hide hM
 have hm24:=hM.1
 have hML:ns.length≤100000:=by omega
 have HML:=hide hML
 have HRS:=hide hrs
 have hok:OkW ns (waysT ns):=walk_ok ns [1,3,2]
 have hlw:=hok.le
 have hnU:ns.length=nU:=hu.1
 obtain ⟨l,hl⟩:∃l,waysT ns=l:=⟨_,rfl⟩
 have hdl:(walkW ns [1,3,2]).1=l:=hl
 have HDL:=hide hdl
 rw [hl] at hok hlw
 rw [hl]
 have HOK:=hide hok
 have HSL:=sayT_len ns rs ns.length
 have HSO:=hide (sayT_ok ns rs ns.length)
 clear r0 hb1 hW1 hu hM hrs hok hl hdl hML
 go_enter Try.func12,Try.ntmps12
 go_wp2_with (first|(refine wpList_loadW rfl 24 (.tmp 1) rfl 1 brn_agg brn_size (w.heap.size) 24 rfl [.slice AU nU cU] R1.out rfl ?_)|(go_at_call 21;refine (Said_any HRS.out W1 HU.out (by omega) HMM.out).mono ?_;rintro e1 w2 ⟨gC,rfl,hgC,hrc,hbel⟩;replace R1:=hide (R1.out.on hbel);replace HB:=hide (HB.out.trans (hbel.mono (by omega)));replace HU:=hide (HU.out.under hbel (by omega));have RC:=hide hrc;have hz2:=hbel.size;clear hrc hbel))
 have hgl:=RC.out.lt
 refine wp_region_planN (fun w'=>Below w2.heap.size w2 w') [(0,true),(4,true),(1,false),(2,false),(3,true)] (by kernel_rfl) (by kernel_rfl) (by kernel_rfl) (by kernel_rfl) rfl (fun _ _ _ _ _ h=>h) (below_drew (below_self w2)) (fun hHeld=>?_)
 simp only [planOps,List.filterMap_cons,List.filterMap_nil,List.getElem?_toArray,List.getElem?_cons_succ,List.getElem?_cons_zero,Option.map_some]
 refine wpPlan_take (v:=?_) (by kernel_rfl) (fun wS hSw=>?_) ?_
 rotate_left
 ·refine execOp_load (x:=.tmp 1) (k:=1) (g:=w.heap.size) (off:=0) (cs:=[.slice AU nU cU]) ?_ brn_agg brn_size ?_ (fun j v hv=>by rw [Nat.zero_add];exact ((R1.out.on hSw).cell j).trans hv) rfl <;> rfl
 (try simp only [Act.put,pu1,pu2,pu3])
 refine wpPlan_take (v:=?_) (by kernel_rfl) (fun wS hSw=>?_) ?_
 rotate_left
 ·(try dsimp only at hSw);go_simp;(try with_reducible rfl)
 (try simp only [Act.put,pu1,pu2,pu3])
 refine wpPlan_call (by kernel_rfl) (fun K hK=>?_)
 have hOld:=hide hHeld
 clear hHeld
 go_simp
 go_at_call 22
 refine (trees_any _).mono ?_
 rintro e w' ⟨rfl,hrt,hbel⟩
 have HRT:=hide hrt
 have hz4:=hOld.out.size
 clear hrt
 refine hK.out _ _ (hOld.out.trans (hbel.mono hOld.out.size)) (fun hHeld=>?_)
 clear hK K
 (try simp only [Act.put,pu1,pu2,pu3])
 refine wpPlan_call (by kernel_rfl) (fun K hK=>?_)
 have hOld:=hide hHeld
 clear hHeld
 go_simp
 go_at_call 6
 refine (Dirs_any _ (und_up (HU.out.under hOld.out (by omega)) (by have:=hOld.out.size;omega)) (trees_row HRT.out) HMM.out (by decide)).mono ?_
 rintro e w' ⟨AW,nW,cW,rfl,-,hwy,hbel⟩
 have HWY:=hide hwy
 have hz5:=hOld.out.size
 clear hwy
 refine hK.out _ _ (hOld.out.trans (hbel.mono hOld.out.size)) (fun hHeld=>?_)
 clear hK K
 (try simp only [Act.put,pu1,pu2,pu3])
 refine wpPlan_take (v:=?_) (by kernel_rfl) (fun wS hSw=>?_) ?_
 rotate_left
 ·(try dsimp only at hSw);go_simp;(try with_reducible rfl)
 (try simp only [Act.put,pu1,pu2,pu3])
 refine wpPlan_end ?_
 rename World=>wT
 have hszT:=hHeld.size
 have hnW:l.length=nW:=by have h1:=HWY.out.1;rw [HDL.out] at h1;exact h1
 subst hnW
 have hwy:=HWY.out
 rw [HDL.out] at hwy
 replace HWY:=hide (show WyR wT (gC+1) wT.heap.size AW l.length l from ⟨hwy.mono (fun _ _=>rfl) (fun b hb=>⟨by have:=hb.1;omega,hb.2⟩),Nat.le_refl _⟩)
 have HBT:=hide (HB.out.trans (hHeld.mono (by omega)))
 have R1T:=hide (R1.out.on hHeld)
 have HUT:=hide (HU.out.under hHeld (by omega))
 have RCT:=hide (RC.out.on hHeld)
 have HWT:=HWY
 clear HRT hHeld HB HU R1 RC HWY hwy HDL HRS
 go_wp2_with fail
 unfold cntT
 go_loopw [15] (fun v15 wr=>∃j:Nat,j≤l.length∧v15=.int .i64 j∧RowL wr gC 54 (((l.take j).foldl (wayT ns) (sayT ns rs ns.length)).map cT)∧wT.grownBy wr (some gC)) (fun v15 _=>l.length - (intOf v15).toNat)
 case atStart=>exact ⟨0,by omega,rfl,by rw [List.take_zero];exact RCT.out,World.grownBy.refl _ _⟩
 case round =>
  obtain ⟨j,hj,rfl,hrc,hg⟩:=hrel
  have hgs:=hg.size
  by_cases hlt:j < l.length
  ·have RC:=hide hrc
   have HG:=hide hg
   have R1:=hide (R1T.out.grown hg (by intro e;have:=Option.some.inj e;omega))
   have HU:=hide (und_grown HUT.out hg (by omega) (by omega))
   have HWY:=hide (wy_grown HWT.out hg (.inl (by omega)))
   obtain ⟨y,hy⟩:∃y,l[j]?=some y:=⟨_,List.getElem?_eq_getElem hlt⟩
   have hdy:=HOK.out.1 y (List.mem_of_getElem? hy)
   have hin:=isDir_in hdy
   obtain ⟨m,hm⟩:∃m:Nat,y.ino=(m:Int)+1:=by
    obtain ⟨m,hm⟩:=Int.eq_ofNat_of_zero_le (show 0≤y.ino - 1 by omega)
    exact ⟨m,by omega⟩
   have HST:=hide (show (l.take (j+1)).foldl (wayT ns) (sayT ns rs ns.length)=wayT ns ((l.take j).foldl (wayT ns) (sayT ns rs ns.length)) y from by rw [List.take_add_one,hy,List.foldl_append];rfl)
   have hlen:((l.take j).foldl (wayT ns) (sayT ns rs ns.length)).length=ns.length:=by rw [waysT_len,HSL]
   have hok0:OkT (18*l.length) ((l.take j).foldl (wayT ns) (sayT ns rs ns.length)):=(waysT_ok HMM.out (l.take j) HSO.out).more (by rw [List.length_take];omega)
   obtain ⟨bW,oW,hAW,hbW,hcy⟩:=way_get HWY.out.1 hy
   have HCY:=hide hcy
   have hgl2:=hrc.lt
   have HEB:=hide (show entB ns y.ino=(nodAt ns y.ino).ents from by unfold entB;rw [if_pos (by simpa [isDir] using hdy)])
   have hel:=nodAt_ents HMM.out y.ino
   clear hrc hg
   generalize (l.take j).foldl (wayT ns) (sayT ns rs ns.length)=cs at *
   obtain ⟨z,hz⟩:∃z,cs[m]?=some z:=⟨_,List.getElem?_eq_getElem (by omega)⟩
   have hzo:=hok0 z (List.mem_of_getElem? hz)
   have hadd:=fun W=>run_add2 (P:=Try.prog) (a:=z.1) (b:=z.2) 54 (by have:=hzo.1;omega) hzo.2 W
   have hw1:IntKind.i64.wrap (y.ino - 1)=(m:Int):=by rw [hm,show (m:Int)+1 - 1=m from by omega];exact IntWalk.i64_in _ (by omega)
   have HOK0:=hide hok0
   have HM2:=hide hm
   have hmn:m < ns.length:=by omega
   have hmn2:(m:Int) < (ns.length:Int):=by omega
   have hjl:(j:Int) < (l.length:Int):=by omega
   subst hnU
   subst hAW
   clear hy hdy hcy hok0 hzo hm
   go_upto_region 6 with (first|(refine wpList_loadX rfl 30 (.tmp 17) rfl 3 way_agg way_size bW (oW+j*3) rfl (wayC y) HCY.out rfl ?_)|(refine wpList_storeW rfl 30 (.tmp 5) (.tmp 18) rfl 3 way_size (wr.heap.size) 30 rfl [.int .i64 0,.int .i64 0,.string ⟨#[]⟩] (wayC y) rfl (RowL.new wr 30 [.int .i64 0,.int .i64 0,.string ⟨#[]⟩]) rfl rfl (wayC_one _) ?_;intro wS121 hr121 hg121 hs121;have hzb:=below_stored' hg121;replace HG:=hide (HG.out.trans ((grown_below hzb).but (some gC)));replace R1:=hide (R1.out.on hzb);replace RC:=hide (RC.out.on hzb);replace HU:=hide (HU.out.under hzb (by omega));replace HWY:=hide (wy_on HWY.out hzb);have hsz122:=hzb.size;have R5:=hide hr121;have hlt121:=hr121.lt;have q5_0:wS121.cell? ⟨wr.heap.size,0,none⟩=some (.int .i64 y.ino):=R5.out.cell 0;clear hzb hr121;clear hg121 hs121;have qq:=cT_cell RC.out hz)|(refine wpList_storeV rfl 54 (.tmp 26) (.tmp 25) rfl cx_size gC m 54 rfl (.complex .f64 (F (z.1+2)) (zF z.2)) rfl rfl rfl (cs.map cT) RC.out (by rw [List.length_map];omega) ?_;intro w4 hr4' hgs4 hs4e))
   have hr4:RowL w4 gC 54 ((addT cs m 2).map cT):=addT_row hr4' hz
   have hg5:wr.heap.size < wS121.heap.size:=by omega
   have hB4:wr.heap.size≤wS121.heap.size:=by omega
   replace HG:=hide (HG.out.trans hgs4)
   replace R1:=hide (R1.out.grown hgs4 (by intro e;have:=Option.some.inj e;omega))
   replace HU:=hide (und_grown HU.out hgs4 (by omega) (by omega))
   replace HWY:=hide (wy_grown HWY.out hgs4 (.inl (by omega)))
   replace R5:=hide (R5.out.grown hgs4 (by intro e;have:=Option.some.inj e;omega))
   replace RC:=hide hr4
   have hl2:(addT cs m 2).length=ns.length:=by rw [addT_len];exact hlen
   have hok2:=HOK0.out.add m 2
   have HOK2:=hide hok2
   have HST2:=hide (show wayT ns cs y=(nodAt ns y.ino).ents.foldl (entT ns y.ino) (addT cs m 2) from by unfold wayT;rw [show (y.ino - 1).toNat=m by have:=HM2.out;omega])
   have hs4:=hgs4.size
   clear qq hadd hr4 hr4' hs4e hgs4 HOK0 q5_0
   generalize addT cs m 2=cs2 at *
   generalize wr.heap.size=g5 at *
   obtain ⟨L,hL⟩:∃L,(nodAt ns y.ino).ents=L:=⟨_,rfl⟩
   rw [hL] at HEB HST2 hel
   clear hL
   have q5_0:w4.cell? ⟨g5,0,none⟩=some (.int .i64 y.ino):=R5.out.cell 0
   go_wp2_with (first|(refine wpList_loadW rfl 24 (.tmp 1) rfl 1 brn_agg brn_size (w.heap.size) 24 rfl [.slice AU ns.length cU] R1.out rfl ?_)|(go_at_call 23;refine (Entries_any w4 HU.out (by omega) HML.out).mono ?_;rintro e161 w5 ⟨CE,m8,d8,rfl,-,hE,hbel⟩;clear q5_0;replace HG:=hide (HG.out.trans ((grown_below hbel).but (some gC)));replace R1:=hide (R1.out.on hbel);replace RC:=hide (RC.out.on hbel);replace HU:=hide (HU.out.under hbel (by omega));replace HWY:=hide (wy_on HWY.out hbel);replace R5:=hide (R5.out.on hbel);have hsz162:=hbel.size;have q5_0:w5.cell? ⟨g5,0,none⟩=some (.int .i64 y.ino):=R5.out.cell 0;have HE:=hide hE;clear hE;clear hbel))
   rename World=>w5
   have hE:=HE.out
   rw [HEB.out] at hE
   replace HE:=hide hE
   have hm8:L.length=m8:=hE.1
   subst hm8
   have HG5:=HG
   have R15:=R1
   have RC5:=RC
   have HU5:=HU
   have R55:=R5
   have HE5:=HE
   have HEY:=hide (show ∀(i:Nat) (e:EntV),L[i]?=some e→True from fun _ _ _=>trivial)
   have hsz5:=HG.out.size
   clear hE R1 RC HU R5 HE HWY HEB HEY q5_0
   go_loopw [32] (fun v32 wq=>∃i:Nat,i≤L.length∧v32=.int .i64 i∧RowL wq gC 54 (((L.take i).foldl (entT ns y.ino) cs2).map cT)∧w5.grownBy wq (some gC)) (fun v32 _=>L.length - (intOf v32).toNat)
   case atStart=>exact ⟨0,by omega,rfl,by rw [List.take_zero];exact RC5.out,World.grownBy.refl _ _⟩
   case round =>
    rename World=>wq
    obtain ⟨i,hi,rfl,hrc,hg⟩:=hrel
    have hgq:=hg.size
    by_cases hli:i < L.length
    ·have RC:=hide hrc
     have HQ:=hide hg
     have R1:=hide (R15.out.grown hg (by intro e;have:=Option.some.inj e;omega))
     have HU:=hide (und_grown HU5.out hg (by omega) (by omega))
     have R5:=hide (R55.out.grown hg (by intro e;have:=Option.some.inj e;omega))
     have HE:=hide (und_grown HE5.out hg (by omega) (by omega))
     obtain ⟨e,he⟩:∃e,L[i]?=some e:=⟨_,List.getElem?_eq_getElem hli⟩
     obtain ⟨bE,oE,hCE,-,hce⟩:=ent_get HE.out he
     have HCE:=hide hce
     have HSI:=hide (show (L.take (i+1)).foldl (entT ns y.ino) cs2=entT ns y.ino ((L.take i).foldl (entT ns y.ino) cs2) e from by rw [List.take_add_one,he,List.foldl_append];rfl)
     have hlen2:((L.take i).foldl (entT ns y.ino) cs2).length=ns.length:=by rw [entsT_len,hl2]
     have hok3:OkT (18*l.length+2+L.length) ((L.take i).foldl (entT ns y.ino) cs2):=(entsT_ok (L.take i) HOK2.out).more (by rw [List.length_take];omega)
     have HOK3:=hide hok3
     have hgl3:=hrc.lt
     have hil:(i:Int) < (L.length:Int):=by omega
     obtain ⟨v,hv⟩:∃v,credT ns y.ino e=v:=⟨_,rfl⟩
     have HV:=hide hv
     clear hrc hg he hce hok3
     generalize (L.take i).foldl (entT ns y.ino) cs2=cs3 at *
     subst hCE
     have q5_0:wq.cell? ⟨g5,0,none⟩=some (.int .i64 y.ino):=R5.out.cell 0
     by_cases hv1:1≤v∧v≤(ns.length:Int)
     ·have HEN:=hide (show entT ns y.ino cs3 e=addT cs3 (v - 1).toNat 1 from by unfold entT;rw [hv,if_pos (inN_iff.2 hv1)])
      obtain ⟨m2,hm2⟩:∃m2:Nat,v=(m2:Int)+1:=by
       obtain ⟨m2,hm2⟩:=Int.eq_ofNat_of_zero_le (show 0≤v - 1 by omega)
       exact ⟨m2,by omega⟩
      have hmt:(v - 1).toNat=m2:=by omega
      rw [hmt] at HEN
      obtain ⟨z2,hz2⟩:∃z2,cs3[m2]?=some z2:=⟨_,List.getElem?_eq_getElem (by omega)⟩
      have hzo:=HOK3.out z2 (List.mem_of_getElem? hz2)
      have hadd:=fun W=>run_add1 (P:=Try.prog) (a:=z2.1) (b:=z2.2) 54 (by have:=hzo.1;omega) hzo.2 W
      have hw2:IntKind.i64.wrap (v - 1)=(m2:Int):=by rw [hm2,show (m2:Int)+1 - 1=m2 from by omega];exact IntWalk.i64_in _ (by omega)
      have hv11:=hv1.1
      have hv12:=hv1.2
      have hm2n:m2 < ns.length:=by omega
      have hm2i:(m2:Int) < (ns.length:Int):=by omega
      clear hv hzo hmt hv1 hm2
      go_wp2_with (first|(refine wpList_loadW rfl 24 (.tmp 1) rfl 1 brn_agg brn_size (w.heap.size) 24 rfl [.slice AU ns.length cU] R1.out rfl ?_)|(refine wpList_loadX rfl 40 (.tmp 34) rfl 3 entw_agg entw_size bE (oE+i*3) rfl (cellsE e) HCE.out rfl ?_)|(refine wpList_storeW rfl 40 (.tmp 7) (.tmp 35) rfl 3 entw_size (wq.heap.size) 40 rfl [.int .i64 0,.int .i64 0,.string ⟨#[]⟩] (cellsE e) rfl (RowL.new wq 40 [.int .i64 0,.int .i64 0,.string ⟨#[]⟩]) rfl rfl (cellsE_one _) ?_;intro wS201 hr201 hg201 hs201;have hzb:=below_stored' hg201;clear q5_0;replace HQ:=hide (HQ.out.trans ((grown_below hzb).but (some gC)));replace R1:=hide (R1.out.on hzb);replace RC:=hide (RC.out.on hzb);replace HU:=hide (HU.out.under hzb (by omega));replace R5:=hide (R5.out.on hzb);replace HE:=hide (HE.out.under hzb (by omega));have hsz202:=hzb.size;have q5_0:wS201.cell? ⟨g5,0,none⟩=some (.int .i64 y.ino):=R5.out.cell 0;have R7:=hide hr201;have hlt201:=hr201.lt;clear hzb hr201;clear hg201 hs201)|(refine wpList_loadW rfl 40 (.tmp 7) rfl 3 entw_agg entw_size (wq.heap.size) 40 rfl (cellsE e) R7.out rfl ?_)|(go_at_call 24;refine (Cred_any HV.out wS201 HU.out (by omega) HML.out).mono ?_;rintro e203 w9 ⟨rfl,hbel⟩;clear q5_0;replace HQ:=hide (HQ.out.trans ((grown_below hbel).but (some gC)));replace R1:=hide (R1.out.on hbel);replace RC:=hide (RC.out.on hbel);replace HU:=hide (HU.out.under hbel (by omega));replace R5:=hide (R5.out.on hbel);replace HE:=hide (HE.out.under hbel (by omega));replace R7:=hide (R7.out.on hbel);have hsz204:=hbel.size;have q5_0:w9.cell? ⟨g5,0,none⟩=some (.int .i64 y.ino):=R5.out.cell 0;have qq:=cT_cell RC.out hz2;clear hbel)|(refine wpList_storeV rfl 54 (.tmp 55) (.tmp 54) rfl cx_size gC m2 54 rfl (.complex .f64 (F (z2.1+1)) (zF z2.2)) rfl rfl rfl (cs3.map cT) RC.out (by rw [List.length_map];omega) ?_;intro wE hrE hgE hsE;have RE:=hide hrE;have HGE:=hide (HQ.out.trans hgE);clear hrE hgE hsE))
      go_roundw
      case rel=>exact ⟨i+1,by omega,by go_num,by rw [HSI.out,HEN.out];exact addT_row RE.out hz2,HGE.out⟩
      case measure=>simp [intOf];omega
     ·have HEN:=hide (show entT ns y.ino cs3 e=cs3 from by unfold entT;rw [hv,if_neg (fun h=>hv1 (inN_iff.1 h))])
      clear hv
      by_cases hv2:1≤v
      ·have hv3:¬v≤(ns.length:Int):=by omega
       clear hv1
       go_wp2_with (first|(refine wpList_loadW rfl 24 (.tmp 1) rfl 1 brn_agg brn_size (w.heap.size) 24 rfl [.slice AU ns.length cU] R1.out rfl ?_)|(refine wpList_loadX rfl 40 (.tmp 34) rfl 3 entw_agg entw_size bE (oE+i*3) rfl (cellsE e) HCE.out rfl ?_)|(refine wpList_storeW rfl 40 (.tmp 7) (.tmp 35) rfl 3 entw_size (wq.heap.size) 40 rfl [.int .i64 0,.int .i64 0,.string ⟨#[]⟩] (cellsE e) rfl (RowL.new wq 40 [.int .i64 0,.int .i64 0,.string ⟨#[]⟩]) rfl rfl (cellsE_one _) ?_;intro wS201 hr201 hg201 hs201;have hzb:=below_stored' hg201;clear q5_0;replace HQ:=hide (HQ.out.trans ((grown_below hzb).but (some gC)));replace R1:=hide (R1.out.on hzb);replace RC:=hide (RC.out.on hzb);replace HU:=hide (HU.out.under hzb (by omega));replace R5:=hide (R5.out.on hzb);replace HE:=hide (HE.out.under hzb (by omega));have hsz202:=hzb.size;have q5_0:wS201.cell? ⟨g5,0,none⟩=some (.int .i64 y.ino):=R5.out.cell 0;have R7:=hide hr201;have hlt201:=hr201.lt;clear hzb hr201;clear hg201 hs201)|(refine wpList_loadW rfl 40 (.tmp 7) rfl 3 entw_agg entw_size (wq.heap.size) 40 rfl (cellsE e) R7.out rfl ?_)|(go_at_call 24;refine (Cred_any HV.out wS201 HU.out (by omega) HML.out).mono ?_;rintro e203 w9 ⟨rfl,hbel⟩;clear q5_0;replace HQ:=hide (HQ.out.trans ((grown_below hbel).but (some gC)));replace R1:=hide (R1.out.on hbel);replace RC:=hide (RC.out.on hbel);replace HU:=hide (HU.out.under hbel (by omega));replace R5:=hide (R5.out.on hbel);replace HE:=hide (HE.out.under hbel (by omega));replace R7:=hide (R7.out.on hbel);have hsz204:=hbel.size;have q5_0:w9.cell? ⟨g5,0,none⟩=some (.int .i64 y.ino):=R5.out.cell 0;clear hbel))
       go_roundw
       case rel=>exact ⟨i+1,by omega,by go_num,by rw [HSI.out,HEN.out];exact RC.out,HQ.out⟩
       case measure=>simp [intOf];omega
      ·clear hv1
       go_wp2_with (first|(refine wpList_loadW rfl 24 (.tmp 1) rfl 1 brn_agg brn_size (w.heap.size) 24 rfl [.slice AU ns.length cU] R1.out rfl ?_)|(refine wpList_loadX rfl 40 (.tmp 34) rfl 3 entw_agg entw_size bE (oE+i*3) rfl (cellsE e) HCE.out rfl ?_)|(refine wpList_storeW rfl 40 (.tmp 7) (.tmp 35) rfl 3 entw_size (wq.heap.size) 40 rfl [.int .i64 0,.int .i64 0,.string ⟨#[]⟩] (cellsE e) rfl (RowL.new wq 40 [.int .i64 0,.int .i64 0,.string ⟨#[]⟩]) rfl rfl (cellsE_one _) ?_;intro wS201 hr201 hg201 hs201;have hzb:=below_stored' hg201;clear q5_0;replace HQ:=hide (HQ.out.trans ((grown_below hzb).but (some gC)));replace R1:=hide (R1.out.on hzb);replace RC:=hide (RC.out.on hzb);replace HU:=hide (HU.out.under hzb (by omega));replace R5:=hide (R5.out.on hzb);replace HE:=hide (HE.out.under hzb (by omega));have hsz202:=hzb.size;have q5_0:wS201.cell? ⟨g5,0,none⟩=some (.int .i64 y.ino):=R5.out.cell 0;have R7:=hide hr201;have hlt201:=hr201.lt;clear hzb hr201;clear hg201 hs201)|(refine wpList_loadW rfl 40 (.tmp 7) rfl 3 entw_agg entw_size (wq.heap.size) 40 rfl (cellsE e) R7.out rfl ?_)|(go_at_call 24;refine (Cred_any HV.out wS201 HU.out (by omega) HML.out).mono ?_;rintro e203 w9 ⟨rfl,hbel⟩;clear q5_0;replace HQ:=hide (HQ.out.trans ((grown_below hbel).but (some gC)));replace R1:=hide (R1.out.on hbel);replace RC:=hide (RC.out.on hbel);replace HU:=hide (HU.out.under hbel (by omega));replace R5:=hide (R5.out.on hbel);replace HE:=hide (HE.out.under hbel (by omega));replace R7:=hide (R7.out.on hbel);have hsz204:=hbel.size;have q5_0:w9.cell? ⟨g5,0,none⟩=some (.int .i64 y.ino):=R5.out.cell 0;clear hbel))
       go_roundw
       case rel=>exact ⟨i+1,by omega,by go_num,by rw [HSI.out,HEN.out];exact RC.out,HQ.out⟩
       case measure=>simp [intOf];omega
    ·obtain rfl:i=L.length:=by omega
     have hil:¬((L.length:Int) < (L.length:Int)):=by omega
     have hst:=HST.out
     rw [HST2.out] at hst
     rw [List.take_length] at hrc
     have HRC:=hide hrc
     have HGQ:=hide (HG5.out.trans hg)
     clear hrc hg
     go_wp2_with fail
     go_roundw
     case rel=>exact ⟨j+1,by omega,by go_num,by rw [hst];exact HRC.out,HGQ.out⟩
     case measure=>simp [intOf];omega
  ·obtain rfl:j=l.length:=by omega
   have hjl:¬((l.length:Int) < (l.length:Int)):=by omega
   rw [List.take_length] at hrc
   have HRC:=hide hrc
   have HGQ:=hide hg
   clear hrc hg
   go_wp2_with fail
   go_ret
   exact ⟨gC,rfl,by omega,HRC.out,HBT.out.grown HGQ.out (by omega) (pu4 (by omega))⟩
def nameT (cs:List (Nat×Nat)) (i:Int):Nat:=if 1≤i∧i≤(cs.length:Int) then ((cs[(i - 1).toNat]?).getD (0,0)).1 else 0
set_option maxRecDepth 100000 in
set_option maxHeartbeats 4000000 in
theorem TNames_any {AU:Option Addr} {nU cU B:Nat} {ns:List NodV} {rs:List Bool} {cs:List (Nat×Nat)} {i:Int} {v:Nat} (hrs:reachL ns (waysT ns)=rs) (hcs:cntT ns rs (waysT ns)=cs) (hv:nameT cs i=v) (w:World) (hu:RdE nodEn w (Under B) AU nU ns) (hB:B≤w.heap.size) (hM:Many ns):Calls Try.prog 7 #[.agg #[.slice AU nU cU],.int .i64 i] w (fun x w'=>x=.returned (.int .i64 (v:Int))∧Below w.heap.size w w'):=by
 obtain ⟨W1,hW1⟩:∃W1,(w.alloc (.cells ([.slice AU nU cU]:List Value).toArray 24))=W1:=⟨_,rfl⟩
 obtain ⟨r0,hb1,hs1⟩:=rowA1 w _ _ hW1
 have hW1':(w.alloc (.cells #[.slice AU nU cU] 24))=W1:=hW1
 have R2:=hide r0
 have HB:=hide hb1
 have hsz0:=hb1.size
 have HU:=hide (hu.under hb1 hB)
 have HMM:=hide hM
 have hm24:=hM.1
 have HRS:=hide hrs
 have hlc:cs.length=ns.length:=by rw [←hcs,cntT_len]
 have hok:OkW ns (waysT ns):=walk_ok ns [1,3,2]
 have hlw:=hok.le
 have hko:=cntT_ok hM rs (waysT ns)
 rw [hcs] at hko
 have hnU:ns.length=nU:=hu.1
 have HCS:=hide hcs
 by_cases hi:1≤i∧i≤(cs.length:Int)
 ·obtain ⟨m,hm⟩:∃m:Nat,i=(m:Int)+1:=by
   obtain ⟨m,hm⟩:=Int.eq_ofNat_of_zero_le (show 0≤i - 1 by omega)
   exact ⟨m,by omega⟩
  obtain ⟨z,hz⟩:∃z,cs[m]?=some z:=⟨_,List.getElem?_eq_getElem (by omega)⟩
  have hzo:=hko z (List.mem_of_getElem? hz)
  have hvz:v=z.1:=by rw [←hv];unfold nameT;rw [if_pos hi,show (i - 1).toNat=m by omega,hz];rfl
  subst hvz
  have ca:floatToIntVal .f64 (F z.1) .i64=some (z.1:Int):=by
   have:=F_int (n:=z.1) (by have:=hzo.1;omega)
   have e:(FloatKind.f64.decode (F z.1)).toInt .zero=some (z.1:Int):=this
   unfold floatToIntVal
   rw [e]
   simp [IntKind.min,IntKind.max,IntKind.signed,IntKind.bits]
   have:=hzo.1
   omega
  have r1:=fun W=>run_convert_float_int (P:=Try.prog) W 53 3 .f64 .i64 (F z.1) z.1 (by rw [Try.underlying53];rfl) Try.underlying3 ca
  have HZ:=hide hz
  have hw1:IntKind.i64.wrap (i - 1)=(m:Int):=by rw [hm,show (m:Int)+1 - 1=m from by omega];exact IntWalk.i64_in _ (by omega)
  have hi1:=hi.1
  have hi2:i≤(nU:Int):=by omega
  have hmn:m < nU:=by omega
  have hmi:(m:Int) < (nU:Int):=by omega
  clear r0 hb1 hW1 hu hM hrs hcs hv hok hko hi hm hz hzo ca
  go_enter Try.func7,Try.ntmps7
  go_wp2_with (first|(refine wpList_loadW rfl 24 (.tmp 2) rfl 1 brn_agg brn_size (w.heap.size) 24 rfl [.slice AU nU cU] R2.out rfl ?_)|(go_at_call 12;refine (Counts_any HRS.out W1 HU.out (by omega) HMM.out).mono ?_;rintro e1 w2 ⟨gC,rfl,hgC,hrc,hbel⟩;have HB2:=hide (HB.out.trans (hbel.mono (by omega)));rw [HCS.out] at hrc;have RC:=hide hrc;clear hrc hbel;have qq:=cT_cell RC.out HZ.out))
  go_ret
  exact ⟨rfl,HB2.out⟩
 ·have hvz:v=0:=by rw [←hv];unfold nameT;rw [if_neg hi]
  subst hvz
  clear r0 hb1 hW1 hu hM hrs hcs hv hok hko
  by_cases hi1:1≤i
  ·have hi2:¬i≤(nU:Int):=by omega
   clear hi
   go_enter Try.func7,Try.ntmps7
   go_wp2_with (first|(refine wpList_loadW rfl 24 (.tmp 2) rfl 1 brn_agg brn_size (w.heap.size) 24 rfl [.slice AU nU cU] R2.out rfl ?_)|(go_at_call 12;refine (Counts_any HRS.out W1 HU.out (by omega) HMM.out).mono ?_;rintro e1 w2 ⟨gC,rfl,hgC,hrc,hbel⟩;have HB2:=hide (HB.out.trans (hbel.mono (by omega)));rw [HCS.out] at hrc;have RC:=hide hrc;clear hrc hbel))
   go_ret
   exact ⟨rfl,HB2.out⟩
  ·clear hi
   go_enter Try.func7,Try.ntmps7
   go_wp2_with (first|(refine wpList_loadW rfl 24 (.tmp 2) rfl 1 brn_agg brn_size (w.heap.size) 24 rfl [.slice AU nU cU] R2.out rfl ?_)|(go_at_call 12;refine (Counts_any HRS.out W1 HU.out (by omega) HMM.out).mono ?_;rintro e1 w2 ⟨gC,rfl,hgC,hrc,hbel⟩;have HB2:=hide (HB.out.trans (hbel.mono (by omega)));rw [HCS.out] at hrc;have RC:=hide hrc;clear hrc hbel))
   go_ret
   exact ⟨rfl,HB2.out⟩
end Go.Proofs.Ytggnbflbbfdohaa

