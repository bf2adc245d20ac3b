import Derived.Test.YtggnbflbbfdohaaGreatSt24
import Derived.Test.YtggnbflbbfdohaaGreatSt15
import Derived.Test.YtggnbflbbfdohaaGreatSt34
import Derived.Test.YtggnbflbbfdohaaGreatSt31
import Derived.Test.YtggnbflbbfdohaaGreatSt32

namespace Go.Proofs.YtggnbflbbfdohaaGreat
open Go.RowKit Go.Shelf Plain

set_option maxRecDepth 100000 in
set_option maxHeartbeats 1600000 in
theorem neq_shn (t:List UInt8) (k a b:Int) (W:World):(binOp .neq 37 (.agg #[.string ⟨t.toArray⟩,.int .i64 k,.int .i64 a,.int .i64 b]) (.agg #[.string ⟨t.toArray⟩,.int .i64 k,.int .i64 a,.int .i64 b])).run Tryz.prog W=.ok (.bool false) W:=by
 simp [go_sem]
set_option maxHeartbeats 1600000 in
theorem EqShn_same {A B:Option Addr} {n m c d:Nat} {L:List ShnV} {D D':Nat→Prop} (w:World) (ha:RdE shnEn w D A n L) (hb:RdE shnEn w D' B m L) (hn:n≤140737488355328) :
  Calls Tryz.prog 8 #[.slice A n c,.slice B m d] w (BoolB w true):=by
 obtain rfl:n=m:=by rw [←ha.1,←hb.1]
 have HA:=hide ha;have HB:=hide hb;clear ha hb
 have hd:((n:Int) != (n:Int))=false:=by simp
 go_enter Tryz.func8,Tryz.ntmps8
 go_wp2
 go_loopw [13] (fun i wr=>∃j q:Nat,j≤n∧i=.int .i64 j∧wr=w.drewN q) (fun i _=>n - (intOf i).toNat)
 case atStart=>exact ⟨0,0,by omega,rfl,rfl⟩
 case round =>
  obtain ⟨j,q,hj,rfl,rfl⟩:=hrel
  by_cases hlt:j < n
  ·have hl1:j < L.length:=by rw [HA.out.1];exact hlt
   obtain ⟨b1,o1,rfl,hc1⟩:=HA.out.cellsR (by omega);obtain ⟨b2,o2,rfl,hc2⟩:=HB.out.cellsR (by omega);obtain ⟨cs1,hcs1,hc1⟩:=hc1 j _ (List.getElem?_eq_getElem hl1);obtain ⟨cs2,hcs2,hc2⟩:=hc2 j _ (List.getElem?_eq_getElem hl1);obtain rfl:cs1=shnC L[j]:=hcs1;obtain rfl:cs2=shnC L[j]:=hcs2
   generalize L[j]=y at hc1 hc2
   obtain ⟨yt,yk,ya,yb⟩:=y;have hL1:∀q,(Instr.loadAt 37 (.pointer (some ⟨b1,o1+j*4,none⟩))).run Tryz.prog (w.drewN q)=.ok (.agg #[.string ⟨yt.toArray⟩,.int .i64 yk,.int .i64 ya,.int .i64 yb]) (w.drewN q):=fun q=>run_loadAt_cells (w:=w.drewN q) shn_agg shn_size hc1 rfl;have hL2:∀q,(Instr.loadAt 37 (.pointer (some ⟨b2,o2+j*4,none⟩))).run Tryz.prog (w.drewN q)=.ok (.agg #[.string ⟨yt.toArray⟩,.int .i64 yk,.int .i64 ya,.int .i64 yb]) (w.drewN q):=fun q=>run_loadAt_cells (w:=w.drewN q) shn_agg shn_size hc2 rfl;have hne:=fun W=>neq_shn yt yk ya yb W;clear hc1 hc2 hl1
   go_wp2
   refine wp_region_quiet_lit (by kernel_rfl) (by kernel_rfl) ?_
   iterate 3 (quiet_step (fail))
   refine Go.BigFrame.wpQuiet_want rfl (fun K hK=>?_);refine quietL 37 (.tmp 18) rfl _ _ rfl (by rintro _ ⟨n',rfl⟩;rw [World.drewN_drewN];exact hL1 _) (hK _ ?_);clear hK K
   iterate 3 (quiet_step (fail))
   refine Go.BigFrame.wpQuiet_want rfl (fun K hK=>?_);refine quietL 37 (.tmp 22) rfl _ _ rfl (by rintro _ ⟨n',rfl⟩;rw [World.drewN_drewN];exact hL2 _) (hK _ ?_);clear hK K
   iterate 1 (quiet_step (fail))
   refine wpQuiet_nil ?_
   rintro _ ⟨nq,rfl⟩
   go_wp2
   go_roundw
   case rel=>exact ⟨j+1,_,by omega,by go_num,rfl⟩
   case measure=>simp [intOf];omega
  ·obtain rfl:j=n:=by omega
   go_wp2
   go_ret
   exact BoolB.of (below_drewN (below_self w) _)
end Go.Proofs.YtggnbflbbfdohaaGreat

namespace Go.Proofs.YtggnbflbbfdohaaGreat
open Go.RowKit Go.Shelf Plain

theorem eq_plcB {a b c d:Int} {r:Bool} (h:decide (a=c∧b=d)=r) (W:World):(binOp .eql 31 (.agg #[.int .i64 a,.int .i64 b]) (.agg #[.int .i64 c,.int .i64 d])).run Tryz.prog W=.ok (.bool r) W:=by
 subst h
 by_cases h1:a=c
 rotate_left
 ·simp [go_sem,h1]
 by_cases h2:b=d
 rotate_left
 ·simp [go_sem,h1,h2]
 simp [go_sem,h1,h2]
theorem shn_get {w:World} {D:Nat→Prop} {A:Option Addr} {n j:Nat} {l:List ShnV} {x:ShnV} (h:RdE shnEn w D A n l) (hx:l[j]?=some x):∃b o,A=some ⟨b,o,none⟩∧D b∧∀k v,(shnC x)[k]?=some v→w.cell? ⟨b,o+j*4+k,none⟩=some v:=by
 obtain ⟨b,o,e,hb,hc⟩:=h.2 (by have h1:=(List.getElem?_eq_some_iff.1 hx).1;have h2:=h.1;omega);obtain ⟨cs,hR,hcs⟩:=hc j x hx;obtain rfl:cs=shnC x:=hR;exact ⟨b,o,e,hb,fun k v hv=>by have h1:=hcs k v hv;rw [show shnEn.k=4 from rfl,←Nat.add_assoc] at h1;exact h1⟩
set_option maxRecDepth 100000 in
set_option maxHeartbeats 8000000 in
theorem Paths_any {A:Option Addr} {n c:Nat} {l:List ShnV} (w:World) (h:RdE shnEn w (Under w.heap.size) A n l) (hn:n≤1000000000):Calls Tryz.prog 14 #[.slice A n c] w (fun e w'=>∃A' c',e=.returned (.slice A' n c')∧Ow st w' w.heap.size 9 A' n c' (l.map (fun x=>x.1))∧Below w.heap.size w w'):=by
 have H:=hide h;have hln:l.length=n:=h.1;clear h
 go_enter Tryz.func14,Tryz.ntmps14
 go_wp2_with fail
 go_loopw [8,3] (fun v8 v3 wr=>∃(j:Nat) (A':Option Addr) (c':Nat),j≤n∧v8=.int .i64 j∧v3=.slice A' j c'∧Ow st wr w.heap.size 9 A' j c' ((l.take j).map (fun x=>x.1))∧Below w.heap.size w wr) (fun v8 _ _=>n - (intOf v8).toNat)
 case atStart=>exact ⟨0,none,0,by omega,rfl,rfl,Ow.nil_ _ _ _ _,below_self _⟩
 case round =>
  obtain ⟨j,A',c',hj,rfl,rfl,ho,hbr⟩:=hrel;have HO:=hide ho;have HBR:=hide hbr;have hbs:=hbr.size
  by_cases hlt:j < n
  ·obtain ⟨x,hx⟩:∃x,l[j]?=some x:=⟨_,List.getElem?_eq_getElem (by omega)⟩
   obtain ⟨b,o,rfl,-,hc⟩:=shn_get (H.out.on hbr) hx;have HCX:=hide hc
   have hjn:(j:Int) < (n:Int):=by omega
   have HT:=hide (show (l.take (j+1)).map (fun x=>x.1)=(l.take j).map (fun x=>x.1)++[x.1] from by rw [List.take_add_one,hx,Option.toList_some,List.map_append];rfl);clear ho hbr hc hx
   go_wp2_with (first|(refine wpList_loadX rfl 37 (.tmp 10) rfl 4 shn_agg shn_size b (o+j*4) rfl (shnC x) HCX.out rfl ?_)|(refine wpList_storeW rfl 37 (.tmp 5) (.tmp 11) rfl 4 shn_size (wr.heap.size) 37 rfl [.string ⟨#[]⟩,.int .i64 0,.int .i64 0,.int .i64 0] (shnC x) rfl (RowL.new wr 37 [.string ⟨#[]⟩,.int .i64 0,.int .i64 0,.int .i64 0]) rfl rfl (shnC_one _) ?_;intro wS121 hr121 hg121 hs121;have hzb:=below_stored' hg121;replace HBR:=hide (HBR.out.trans (hzb.mono (by omega)));replace HO:=hide (HO.out.below hzb);have hsz122:=hzb.size;have R5:=hide hr121;have hlt121:=hr121.lt;have q5_0:=cel R5.out 0 rfl;clear hzb hr121;clear hg121 hs121)|(at_builtin;refine wpList_append_Rd _ rfl (.tmp 12) (.tmp 15) 41 rfl w.heap.size 9 _ 16 Tryz.underlying41 info_st rfl st_one _ j _ _ rfl (HO.out.alloc _) _ _ 1 1 _ rfl (Rd.one _ _ (show Value.string ⟨x.1.toArray⟩=st x.1 from rfl)) (j+1) rfl (by omega) (by omega) (by have:=HBR.out.size;simp;omega) ?_;intro A9 c9 w9 hown9 hbel9;have HO9:=hide hown9;have HB9:=hide ((HBR.out.alloc HBR.out.size _).trans hbel9);clear hown9 hbel9))
   go_roundw
   case rel=>exact ⟨j+1,A9,c9,by omega,by go_num,rfl,by rw [HT.out];exact HO9.out,HB9.out⟩
   case measure=>simp [intOf];omega
  ·obtain rfl:j=n:=by omega
   have hjn:¬((j:Int) < (j:Int)):=by omega
   clear ho hbr
   go_wp2_with fail
   go_ret
   refine ⟨A',c',rfl,?_,HBR.out⟩;have h1:=HO.out;rw [List.take_of_length_le (by omega)] at h1;exact h1
def cntS (l:List ShnV) (p:Int×Int):Nat:=(l.filter (fun x=>decide (x.2.1≠1)&&decide (x.2.2.1=p.1∧x.2.2.2=p.2))).length
theorem cnt_succ {l:List ShnV} {p:Int×Int} {j:Nat} {x:ShnV} (h:l[j]?=some x):cntS (l.take (j+1)) p=cntS (l.take j) p+(if x.2.1=1 then 0 else if x.2.2.1=p.1∧x.2.2.2=p.2 then 1 else 0):=by
 unfold cntS;rw [List.take_add_one,h,Option.toList_some,List.filter_append,List.length_append]
 congr 1
 by_cases h1:x.2.1=1
 ·simp [h1]
 ·by_cases h2:x.2.2.1=p.1∧x.2.2.2=p.2
  ·simp [h1,h2]
  ·simp only [List.filter_cons,List.filter_nil,h1,h2,if_false]
   simp
theorem cnt_le (l:List ShnV) (p:Int×Int):cntS l p≤l.length:=List.length_filter_le _ _
theorem all_len {up:List NodV} {ls:List (List NodV)} (hF:FewL ls) (hup:FewU up):(allS up ls).length≤180000000:=by
 unfold allS
 split
 ·simp
 ·rename_i h
  exact (tour_more (tang_tree (by simpa using h)) hF hup 1800).2
set_option maxRecDepth 100000 in
set_option maxHeartbeats 8000000 in
theorem Count_any {g:GeoQ} {AU AL:Option Addr} {nU cU nL cL B:Nat} {up:List NodV} {ls:List (List NodV)} {p:Int×Int} (w:World) (hu:RdE nodEn w (Under B) AU nU up) (h:RdE layEn w (Under B) AL nL ls) (hB:B≤w.heap.size) (hF:FewL ls) (hup:FewU up):Calls Tryz.prog 11 #[.agg (stkC g (.slice AU nU cU) (.slice AL nL cL)).toArray,.agg (prC p).toArray] w (fun e w'=>e=.returned (.int .i64 (cntS (allS up ls) p))∧Below w.heap.size w w'):=by
 obtain ⟨W1,hW1⟩:∃W1,((w.alloc (.cells (stkC g (.slice AU nU cU) (.slice AL nL cL)).toArray 29)).alloc (.cells ([.int .i64 p.1,.int .i64 p.2]:List Value).toArray 31))=W1:=⟨_,rfl⟩;obtain ⟨r0,r1,hb1,hs1⟩:=rowA2 w _ _ _ _ hW1;have hW1':((w.alloc (.cells #[.int .i64 g.a,.int .i64 g.b,.int .i64 g.c,.int .i64 g.d,.slice AU nU cU,.slice AL nL cL] 29)).alloc (.cells #[.int .i64 p.1,.int .i64 p.2] 31))=W1:=hW1;have R2:=hide r0;have R3:=hide r1;have HB:=hide hb1;have hsz0:=hb1.size;have HU:=hide (hu.under hb1 hB);have HL:=hide (h.under hb1 hB);have HF:=hide hF;have HFU:=hide hup;have hal:=all_len HF.out HFU.out;obtain ⟨l,hl⟩:∃l,allS up ls=l:=⟨_,rfl⟩;have HLL:=hide hl;rw [hl] at hal;rw [hl]
 have hs1':w.heap.size+1≤W1.heap.size:=by omega
 have hs2':w.heap.size+1 < W1.heap.size:=by omega
 unfold stkC prC;clear r0 r1 hb1 hW1 hu h hF hup hs1 hl
 go_enter Tryz.func11,Tryz.ntmps11
 go_wp2_with (first|(refine wpList_loadW rfl 29 (.tmp 2) rfl 6 stk_agg stk_size (w.heap.size) 29 rfl (stkC g (.slice AU nU cU) (.slice AL nL cL)) R2.out rfl ?_))
 refine (All_any W1 HU.out HL.out (by omega) HF.out HFU.out).mono ?_
 rintro e1 w2 ⟨A9,n9,c9,rfl,-,hrd,hbel⟩
 rw [HLL.out] at hrd;have hln:l.length=n9:=hrd.1;have H:=hide hrd;have HB2:=hide (HB.out.trans (hbel.mono (by omega)));have R32:=hide (R3.out.on hbel);have hz2:=hbel.size;clear hrd hbel HU HL
 go_wp2_with fail
 go_loopw [11,5] (fun v11 v5 wr=>∃j:Nat,j≤n9∧v11=.int .i64 j∧v5=.int .i64 (cntS (l.take j) p)∧Below w2.heap.size w2 wr) (fun v11 _ _=>n9 - (intOf v11).toNat)
 case atStart=>exact ⟨0,by omega,rfl,rfl,below_self _⟩
 case round =>
  obtain ⟨j,hj,rfl,rfl,hbr⟩:=hrel;have HBR:=hide hbr;have hbs:=hbr.size;have R3r:=hide (R32.out.on hbr)
  by_cases hlt:j < n9
  ·obtain ⟨x,hx⟩:∃x,l[j]?=some x:=⟨_,List.getElem?_eq_getElem (by omega)⟩
   obtain ⟨b,o,rfl,-,hc⟩:=shn_get (H.out.on hbr) hx;have HCX:=hide hc
   have hjn:(j:Int) < (n9:Int):=by omega
   have hct:=cnt_succ (p:=p) hx;have hcl:cntS (l.take j) p≤180000000:=Nat.le_trans (cnt_le _ _) (by rw [List.length_take];omega);clear hbr hc hx
   have q3_0:=cel R3r.out 0 rfl
   have q3_1:=cel R3r.out 1 rfl
   by_cases hk:x.2.1=1
   ·rw [if_pos hk,Nat.add_zero] at hct
    have HCT:=hide hct
    have hkn:(!decide (x.2.1=1))=false:=by simp [hk]
    clear hct
    go_wp2_with (first|(refine wpList_loadX rfl 37 (.tmp 13) rfl 4 shn_agg shn_size b (o+j*4) rfl (shnC x) HCX.out rfl ?_)|(refine wpList_storeW rfl 37 (.tmp 7) (.tmp 14) rfl 4 shn_size (wr.heap.size) 37 rfl [.string ⟨#[]⟩,.int .i64 0,.int .i64 0,.int .i64 0] (shnC x) rfl (RowL.new wr 37 [.string ⟨#[]⟩,.int .i64 0,.int .i64 0,.int .i64 0]) rfl rfl (shnC_one _) ?_;intro wS141 hr141 hg141 hs141;have hzb:=below_stored' hg141;clear q3_0 q3_1;replace HBR:=hide (HBR.out.trans (hzb.mono (by omega)));replace R3r:=hide (R3r.out.on hzb);have hsz142:=hzb.size;have q3_0:=cel R3r.out 0 rfl;have q3_1:=cel R3r.out 1 rfl;have R7:=hide hr141;have hlt141:=hr141.lt;have q7_1:=cel R7.out 1 rfl;have q7_2:=cel R7.out 2 rfl;have q7_3:=cel R7.out 3 rfl;clear hzb hr141;clear hg141 hs141))
    refine ⟨⟨j+1,by omega,by go_num,by rw [HCT.out];rfl,HBR.out⟩,?_⟩;simp [intOf];omega
   ·rw [if_neg hk] at hct
    obtain ⟨r,hr⟩:∃r,decide (x.2.2.1=p.1∧x.2.2.2=p.2)=r:=⟨_,rfl⟩;have heq:=fun W=>eq_plcB hr W
    have hkn:(!decide (x.2.1=1))=true:=by simp [hk]
    have HCT:=hide hct;have HR:=hide hr;clear hct hr
    cases r with
    | true =>
     go_wp2_with (first|(refine wpList_loadX rfl 37 (.tmp 13) rfl 4 shn_agg shn_size b (o+j*4) rfl (shnC x) HCX.out rfl ?_)|(refine wpList_storeW rfl 37 (.tmp 7) (.tmp 14) rfl 4 shn_size (wr.heap.size) 37 rfl [.string ⟨#[]⟩,.int .i64 0,.int .i64 0,.int .i64 0] (shnC x) rfl (RowL.new wr 37 [.string ⟨#[]⟩,.int .i64 0,.int .i64 0,.int .i64 0]) rfl rfl (shnC_one _) ?_;intro wS141 hr141 hg141 hs141;have hzb:=below_stored' hg141;clear q3_0 q3_1;replace HBR:=hide (HBR.out.trans (hzb.mono (by omega)));replace R3r:=hide (R3r.out.on hzb);have hsz142:=hzb.size;have q3_0:=cel R3r.out 0 rfl;have q3_1:=cel R3r.out 1 rfl;have R7:=hide hr141;have hlt141:=hr141.lt;have q7_1:=cel R7.out 1 rfl;have q7_2:=cel R7.out 2 rfl;have q7_3:=cel R7.out 3 rfl;clear hzb hr141;clear hg141 hs141))
     refine ⟨⟨j+1,by omega,by go_num,by rw [HCT.out,if_pos (of_decide_eq_true HR.out)];rfl,HBR.out⟩,?_⟩;simp [intOf];omega
    | false =>
     go_wp2_with (first|(refine wpList_loadX rfl 37 (.tmp 13) rfl 4 shn_agg shn_size b (o+j*4) rfl (shnC x) HCX.out rfl ?_)|(refine wpList_storeW rfl 37 (.tmp 7) (.tmp 14) rfl 4 shn_size (wr.heap.size) 37 rfl [.string ⟨#[]⟩,.int .i64 0,.int .i64 0,.int .i64 0] (shnC x) rfl (RowL.new wr 37 [.string ⟨#[]⟩,.int .i64 0,.int .i64 0,.int .i64 0]) rfl rfl (shnC_one _) ?_;intro wS141 hr141 hg141 hs141;have hzb:=below_stored' hg141;clear q3_0 q3_1;replace HBR:=hide (HBR.out.trans (hzb.mono (by omega)));replace R3r:=hide (R3r.out.on hzb);have hsz142:=hzb.size;have q3_0:=cel R3r.out 0 rfl;have q3_1:=cel R3r.out 1 rfl;have R7:=hide hr141;have hlt141:=hr141.lt;have q7_1:=cel R7.out 1 rfl;have q7_2:=cel R7.out 2 rfl;have q7_3:=cel R7.out 3 rfl;clear hzb hr141;clear hg141 hs141))
     refine ⟨⟨j+1,by omega,by go_num,by rw [HCT.out,if_neg (of_decide_eq_false HR.out),Nat.add_zero],HBR.out⟩,?_⟩;simp [intOf];omega
  ·obtain rfl:j=n9:=by omega
   have hjn:¬((j:Int) < (j:Int)):=by omega
   clear hbr
   go_wp2_with fail
   go_ret
   have h2:l.take j=l:=List.take_of_length_le (by omega);rw [h2];exact ⟨rfl,HB2.out.trans (HBR.out.mono (by omega))⟩
end Go.Proofs.YtggnbflbbfdohaaGreat

namespace Go.Proofs.YtggnbflbbfdohaaGreat
open Go.RowKit Go.Shelf Plain

theorem aw_tang:lsB.any tangB=false:=by decide +kernel
theorem aw_tour:tourS upI lsB 1=([((1,[(1,1)]),[])],[([47,97],2,(1,2))]):=by kernel_rfl
theorem aw_all:allS upI lsB=[([47,97],2,(1,2))]:=by
 unfold allS;rw [if_neg (by rw [aw_tang];simp)];have h:=tour_end (up:=upI) (ls:=lsB) (k:=1) (by rw [aw_tour];simp) 1799;rw [show 1+1799=1800 from rfl] at h;rw [h,aw_tour]
theorem aw_cnt:cntS [([47,97],2,(1,2))] (1,2)=1:=by kernel_rfl
def ShnP (w:World) (n:Nat) (l:List ShnV) (e:Ending) (w':World):Prop:=∃A c,e=.returned (.slice A n c)∧RdE shnEn w' (Under w'.heap.size) A n l∧Below w.heap.size w w'
theorem All_p {g:GeoQ} {AU AL:Option Addr} {nU cU nL cL B:Nat} {up:List NodV} {ls:List (List NodV)} {R:List ShnV} {n:Nat} (hR:allS up ls=R) (hn:R.length=n) (w:World) (hu:RdE nodEn w (Under B) AU nU up) (h:RdE layEn w (Under B) AL nL ls) (hB:B≤w.heap.size) (hF:FewL ls) (hup:FewU up):Calls Tryz.prog 9 #[.agg (stkC g (.slice AU nU cU) (.slice AL nL cL)).toArray] w (ShnP w n R):=by
 refine (All_any w hu h hB hF hup).mono ?_
 rintro e w' ⟨A,m,c,rfl,-,h2,h3⟩
 rw [hR] at h2
 obtain rfl:n=m:=by rw [←hn];exact h2.1
 exact ⟨A,c,rfl,h2,h3⟩
theorem Count_e {g:GeoQ} {AU AL:Option Addr} {nU cU nL cL B:Nat} {up:List NodV} {ls:List (List NodV)} {p:Int×Int} {m:Nat} (hm:cntS (allS up ls) p=m) (w:World) (hu:RdE nodEn w (Under B) AU nU up) (h:RdE layEn w (Under B) AL nL ls) (hB:B≤w.heap.size) (hF:FewL ls) (hup:FewU up):Calls Tryz.prog 11 #[.agg (stkC g (.slice AU nU cU) (.slice AL nL cL)).toArray,.agg #[.int .i64 p.1,.int .i64 p.2]] w (fun e w'=>e=.returned (.int .i64 m)∧Below w.heap.size w w'):=by
 rw [←hm];exact Count_any w hu h hB hF hup
set_option maxRecDepth 100000 in
set_option maxHeartbeats 4000000 in
theorem awake19_any (w:World):Calls Tryz.prog 7 #[] w (LawOk w):=by
 have HB:=hide (below_self w);have hlit:=fun W=>lit_shn [47,97] 2 1 2 W
 go_enter Tryz.func7,Tryz.ntmps7
 go_wp2_with (first|(go_at_call 34;refine (Idle_any w).mono ?_;rintro e1 wI ⟨AU,nU,cU,AL,nL,cL,rfl,hu,hl,hbel⟩;replace HB:=trH HB hbel;have hsz2:=hbel.size;have HU:=hide hu;clear hu;have HL:=hide hl;clear hl;clear hbel)|(refine wpList_storeW rfl 29 (.tmp 1) (.tmp 3) rfl 6 stk_size (wI.heap.size) 29 rfl (stkC ⟨0,0,0,0⟩ (.slice none 0 0) (.slice none 0 0)) (stkC gB (.slice AU nU cU) (.slice AL nL cL)) rfl (RowL.new wI 29 (stkC ⟨0,0,0,0⟩ (.slice none 0 0) (.slice none 0 0))) rfl rfl (stkC_one _ _ _ _ _ _ _) ?_;intro wS3 hr3 hg3 hs3;have hzb:=below_stored' hg3;replace HB:=trH HB hzb;replace HU:=unH HU hzb (by omega);replace HL:=unH HL hzb (by omega);have hsz4:=hzb.size;have RS:=hide hr3;have hlt3:=hr3.lt;have q1_0:=cel RS.out 0 rfl;have q1_1:=cel RS.out 1 rfl;have q1_2:=cel RS.out 2 rfl;have q1_3:=cel RS.out 3 rfl;have q1_4:=cel RS.out 4 rfl;have q1_5:=cel RS.out 5 rfl;clear hzb hr3;clear hg3 hs3)|(refine wpList_loadW rfl 29 (.tmp 1) rfl 6 stk_agg stk_size (wI.heap.size) 29 rfl (stkC gB (.slice AU nU cU) (.slice AL nL cL)) RS.out rfl ?_)|(go_at_call 9;refine (All_p (g:=gB) (n:=1) aw_all rfl wS3 HU.out HL.out (by omega) ba_few aw_few).mono ?_;rintro e5 wR ⟨A5,c5,rfl,h5,hbel⟩;clear q1_0 q1_1 q1_2 q1_3 q1_4 q1_5;replace HB:=trH HB hbel;replace HU:=unH HU hbel (by omega);replace HL:=unH HL hbel (by omega);replace RS:=hide (RS.out.on hbel);have hsz6:=hbel.size;have q1_0:=cel RS.out 0 rfl;have q1_1:=cel RS.out 1 rfl;have q1_2:=cel RS.out 2 rfl;have q1_3:=cel RS.out 3 rfl;have q1_4:=cel RS.out 4 rfl;have q1_5:=cel RS.out 5 rfl;have H5:=hide h5;clear h5;clear hbel)|(go_at_call 8;refine (EqShn_same (L:=[([47,97],2,(1,2))]) _ (H5.out.under (below_new (below_self wR) _) (by omega)) (enc_lit1 (E:=shnEn) (x:=([47,97],2,(1,2))) (cs:=shnC ([47,97],2,(1,2))) (fun _ _=>rfl) wR 37 (lo:=0) (Nat.zero_le _)) (by omega)).mono ?_;rintro e99 wE ⟨rfl,hbel0⟩;have hbel:Below wR.heap.size wR wE:=(below_new (below_self wR) (.cells #[.string ⟨#[47,97]⟩,.int .i64 2,.int .i64 1,.int .i64 2] 37)).trans (hbel0.mono (by simp));clear q1_0 q1_1 q1_2 q1_3 q1_4 q1_5;replace HB:=trH HB hbel;replace HU:=unH HU hbel (by omega);replace HL:=unH HL hbel (by omega);replace RS:=hide (RS.out.on hbel);replace H5:=unH H5 hbel (by omega);have hsz7:=hbel.size;have q1_0:=cel RS.out 0 rfl;have q1_1:=cel RS.out 1 rfl;have q1_2:=cel RS.out 2 rfl;have q1_3:=cel RS.out 3 rfl;have q1_4:=cel RS.out 4 rfl;have q1_5:=cel RS.out 5 rfl;clear hbel hbel0)|(go_at_call 11;refine (Count_e (g:=gB) (p:=(1,2)) (m:=1) (by rw [aw_all];exact aw_cnt) wE HU.out HL.out (by omega) ba_few aw_few).mono ?_;rintro e8 wC ⟨rfl,hbel⟩;clear q1_0 q1_1 q1_2 q1_3 q1_4 q1_5;replace HB:=trH HB hbel;replace HU:=unH HU hbel (by omega);replace HL:=unH HL hbel (by omega);replace RS:=hide (RS.out.on hbel);replace H5:=unH H5 hbel (by omega);have hsz9:=hbel.size;have q1_0:=cel RS.out 0 rfl;have q1_1:=cel RS.out 1 rfl;have q1_2:=cel RS.out 2 rfl;have q1_3:=cel RS.out 3 rfl;have q1_4:=cel RS.out 4 rfl;have q1_5:=cel RS.out 5 rfl;clear hbel)|(go_at_call 14;refine (Paths_any wC (und_up H5.out (by omega)) (by omega)).mono ?_;rintro e10 wN ⟨A7,c7,rfl,h7,hbel⟩;clear q1_0 q1_1 q1_2 q1_3 q1_4 q1_5;replace HB:=trH HB hbel;replace HU:=unH HU hbel (by omega);replace HL:=unH HL hbel (by omega);replace RS:=hide (RS.out.on hbel);replace H5:=unH H5 hbel (by omega);have hsz11:=hbel.size;have q1_0:=cel RS.out 0 rfl;have q1_1:=cel RS.out 1 rfl;have q1_2:=cel RS.out 2 rfl;have q1_3:=cel RS.out 3 rfl;have q1_4:=cel RS.out 4 rfl;have q1_5:=cel RS.out 5 rfl;have HN:=hide h7;clear h7;clear hbel)|(go_at_call 13;refine (EqS_b (show (([[47,97]]:List (List UInt8))==[[47,97]])=true from by decide) _ (HN.out.rd.on (below_new (below_self wN) _)) (Rd.one wN 9 (f:=st) (u:=.string ⟨#[47,97]⟩) (x:=[47,97]) rfl) (by omega)).mono ?_;rintro e98 wE2 ⟨rfl,hbel⟩;replace HB:=hide (HB.out.trans (((below_new (below_self wN) _).trans (hbel.mono (by simp))).mono HB.out.size));clear hbel))
 go_ret
 exact LawOk.of HB.out
end Go.Proofs.YtggnbflbbfdohaaGreat

namespace Go.Proofs.YtggnbflbbfdohaaGreat
open Go.RowKit Go.Shelf Plain

set_option maxRecDepth 100000 in
set_option maxHeartbeats 8000000 in
theorem RPaths_any {A:Option Addr} {n c:Nat} {l:List ShnV} (w:World) (h:RdE shnEn w (Under w.heap.size) A n l) (hn:n≤1000000000):Calls Tryz.prog 15 #[.slice A n c] w (fun e w'=>∃A' c',e=.returned (.slice A' n c')∧Ow st w' w.heap.size 9 A' n c' (l.map (fun x=>x.1))∧Below w.heap.size w w'):=by
 have H:=hide h;have hln:l.length=n:=h.1;clear h
 go_enter Tryz.func15,Tryz.ntmps15
 go_wp2_with fail
 go_loopw [4,3] (fun v4 v3 wr=>∃(j:Nat) (A':Option Addr) (c':Nat),j≤n∧v4=.int .i64 j∧v3=.slice A' j c'∧Ow st wr w.heap.size 9 A' j c' ((l.take j).map (fun x=>x.1))∧Below w.heap.size w wr) (fun v4 _ _=>n - (intOf v4).toNat)
 case atStart=>exact ⟨0,_,_,by omega,rfl,rfl,Ow.empty st w 9,below_new (below_self w) (.cells #[] 9)⟩
 case round =>
  obtain ⟨j,A',c',hj,rfl,rfl,ho,hbr⟩:=hrel;have HO:=hide ho;have HBR:=hide hbr;have hbs:=hbr.size
  by_cases hlt:j < n
  ·obtain ⟨x,hx⟩:∃x,l[j]?=some x:=⟨_,List.getElem?_eq_getElem (by omega)⟩
   obtain ⟨b,o,rfl,-,hc⟩:=shn_get (H.out.on hbr) hx
   have qx:wr.cell? ⟨b,o+j*4,none⟩=some (.string ⟨x.1.toArray⟩):=hc 0 (.string ⟨x.1.toArray⟩) rfl
   have hjn:(j:Int) < (n:Int):=by omega
   have HT:=hide (show (l.take (j+1)).map (fun x=>x.1)=(l.take j).map (fun x=>x.1)++[x.1] from by rw [List.take_add_one,hx,Option.toList_some,List.map_append];rfl);clear ho hbr hc hx
   go_wp2_with (at_builtin;refine wpList_append_Rd _ rfl (.tmp 12) (.tmp 18) 41 rfl w.heap.size 9 _ 16 Tryz.underlying41 info_st rfl st_one _ j _ _ rfl (HO.out.alloc _) _ _ 1 1 _ rfl (Rd.one _ _ (show Value.string ⟨x.1.toArray⟩=st x.1 from rfl)) (j+1) rfl (by omega) (by omega) (by have:=HBR.out.size;simp;omega) ?_;intro A9 c9 w9 hown9 hbel9;have HO9:=hide hown9;have HB9:=hide ((HBR.out.alloc HBR.out.size _).trans hbel9);clear hown9 hbel9)
   go_roundw
   case rel=>exact ⟨j+1,A9,c9,by omega,by go_num,rfl,by rw [HT.out];exact HO9.out,HB9.out⟩
   case measure=>simp [intOf];omega
  ·obtain rfl:j=n:=by omega
   have hjn:¬((j:Int) < (j:Int)):=by omega
   clear ho hbr
   go_wp2_with fail
   go_ret
   refine ⟨A',c',rfl,?_,HBR.out⟩;have h1:=HO.out;rw [List.take_of_length_le (by omega)] at h1;exact h1
end Go.Proofs.YtggnbflbbfdohaaGreat

