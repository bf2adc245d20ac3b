import Derived.Test.YthdoimgbbabcaaaGreatWt36

namespace Go.Proofs.YthdoimgbbabcaaaGreat
open Go.RowKit Go.Shelf Plain

theorem take_fin {p:EntV→Bool} {l:List EntV} {i:Nat} {e:EntV} {b:Bool} (u:Int) (h:l[i]?=some e) (hb:p e=b):((l.take (i+1)).filter p).map (idleF u)=if b=true then ((l.take i).filter p).map (idleF u)++[idleF u e] else ((l.take i).filter p).map (idleF u):=by
 rw [take_filter h hb]
 cases b <;> simp
theorem find_succ (up:List NodV) (ls:List (List NodV)) {vs:List ViewV} {j:Nat} {v:ViewV} (h:vs[j]?=some v):findW up ls (vs.take (j+1))=findW up ls (vs.take j)++finW up ls v:=by
 unfold findW
 rw [List.take_add_one,h,Option.toList_some,List.flatMap_append]
 simp
theorem fin_R (x:FinV):∀(w:World) (D:Nat→Prop),finEn.R w D (finC x) x:=fun _ _=>rfl
theorem find_few {up : List NodV} {ls : List (List NodV)} (hup : FewU up) : ∀ (vs : List ViewV), (findW up ls vs).length ≤ 16 * vs.length
 | []=>by simp [findW]
 | v::r=>by
  have h1:=find_few (ls:=ls) hup r
  have h2:(finW up ls v).length≤16:=by
   unfold finW
   rw [List.length_map]
   exact Nat.le_trans (List.length_filter_le _ _) (whites_len hup v.1)
  unfold findW at h1 ⊢
  rw [List.flatMap_cons,List.length_append,List.length_cons]
  omega
theorem finW_info:(Tryz.prog.info? 87).map (fun i=>(i.zero,i.size,i.bytes))=some (some (.agg #[.int .i64 0,.int .i64 0,.int .i64 0,.int .i64 0]),4,32):=by kernel_rfl
theorem litW_fin (a b c d:Int) (W:World):(Instr.buildSlice 85 1 #[(0,.agg #[.int .i64 a,.int .i64 b,.int .i64 c,.int .i64 d])]).run Tryz.prog W=.ok (.slice (some ⟨W.heap.size,0,none⟩) 1 1) (W.alloc (.cells #[.int .i64 a,.int .i64 b,.int .i64 c,.int .i64 d] 87)):=by
 obtain ⟨it,hi,hz,hsz,-⟩:=info_parts finW_info
 refine run_buildSlice W _ 87 1 _ _ it (.agg #[.int .i64 0,.int .i64 0,.int .i64 0,.int .i64 0]) Tryz.underlying85 hi hz (by omega) (by omega) ?_
 rw [hsz]
 have:=Great.fill_whole (s:=4) (by omega) [.agg #[.int .i64 a,.int .i64 b,.int .i64 c,.int .i64 d]] ((Array.range (1*4)).map ((Value.agg #[.int .i64 0,.int .i64 0,.int .i64 0,.int .i64 0]).cells[· % (Value.agg #[.int .i64 0,.int .i64 0,.int .i64 0,.int .i64 0]).cells.size]!)) (by intro v hv;rw [List.mem_singleton] at hv;subst hv;simp [Value.cells]) (by simp)
 simpa [Value.cells] using this
def FinsO (w:World) (l:List FinV) (e:Ending) (w':World):Prop:=∃A n c,e=.returned (.slice A n c)∧RdE finEn w' (Under w'.heap.size) A n l∧Below w.heap.size w w'
set_option maxRecDepth 100000 in
set_option maxHeartbeats 16000000 in
theorem WFinds_any {g:GeoQ} {AU AL:Option Addr} {nU cU nL cL B:Nat} {up:List NodV} {ls:List (List NodV)} {ws:List WayV} {TV:List ViewV} (hw:(walkW up [1]).1=ws) (hT:treeV up ls ws=TV) (w:World) (hu:RdE nodEn w (Under B) AU nU up) (h:RdE layEn w (Under B) AL nL ls) (hB:B≤w.heap.size) (hF:FewL ls) (hup:FewU up):Calls Tryz.prog 49 #[.agg (stkC g (.slice AU nU cU) (.slice AL nL cL)).toArray] w (FinsO w (findW up ls TV)):=by
 obtain ⟨W1,hW1⟩:∃W1,(w.alloc (.cells (stkC g (.slice AU nU cU) (.slice AL nL cL)).toArray 29))=W1:=⟨_,rfl⟩
 obtain ⟨r0,hb1,hs1⟩:=rowA1 w _ _ hW1
 have hW1':(w.alloc (.cells #[.int .i64 g.a,.int .i64 g.b,.int .i64 g.c,.int .i64 g.d,.slice AU nU cU,.slice AL nL cL] 29))=W1:=hW1
 have R1:=hide r0
 have HB:=hide hb1
 have hsz0:=hb1.size
 have HU:=hide (hu.under hb1 hB)
 have HL:=hide (h.under hb1 hB)
 have HF:=hide hF
 have HFU:=hide hup
 obtain ⟨n,hn⟩:∃n,ws.length=n:=⟨_,rfl⟩
 have HW:=hide hw
 have HT:=hide hT
 have HN:=hide hn
 have hn24:n≤24:=by have h1:=(walk_ok up [1]).le;rw [hw] at h1;have:=hup.1;omega
 have HFW:=hide (fun v (hv:v∈TV)=>show v.2.length≤100 from by have h1:=tree_few up ls ws v (by rw [hT];exact hv);have:=hF.1;omega)
 unfold stkC
 clear r0 hb1 hW1 hu h hF hup hw hT hn
 go_enter Tryz.func49,Tryz.ntmps49
 go_wp2_with (first|(refine wpList_loadW rfl 29 (.tmp 1) rfl 6 stk_agg stk_size (w.heap.size) 29 rfl (stkC g (.slice AU nU cU) (.slice AL nL cL)) R1.out rfl ?_)|(go_at_call 63;refine (VTree_p HW.out HT.out HN.out W1 HU.out HL.out (by omega) HF.out HFU.out).mono ?_;rintro e1 wT ⟨A4,c4,A5,c5,rfl,hw4,hv5,hbel⟩;clear hw4;replace HB:=hide (HB.out.trans (hbel.mono HB.out.size));replace R1:=hide (R1.out.on hbel);replace HU:=hide (HU.out.under hbel (by omega));replace HL:=hide (HL.out.under hbel (by omega));have hsz2:=hbel.size;have HV:=hide hv5;clear hv5;clear hbel))
 have hWT:W1.heap.size≤wT.heap.size:=by omega
 have hVN:TV.length=n:=HV.out.1
 clear hW1' 
 go_loopw [3,17] (fun v3 v17 wr=>∃(j n3:Nat) (A3:Option Addr) (c3:Nat),j≤n∧v17=.int .i64 j∧v3=.slice A3 n3 c3∧n3≤16*j∧OwE finEn wr wT.heap.size 87 A3 n3 c3 (findW up ls (TV.take j))∧Below wT.heap.size wT wr) (fun _ v17 _=>n - (intOf v17).toNat)
 case atStart=>exact ⟨0,0,none,0,by omega,rfl,rfl,by omega,OwE.nil_ _ _ _ _,Below.refl _ _⟩
 case round =>
  rename World=>wo
  obtain ⟨j,n3,A3,c3,hj,rfl,rfl,hn3,ho,hbr⟩:=hrel
  have hbsz:=hbr.size
  have HBR:=hide hbr
  have HO:=hide ho
  have HB0:=HB
  replace R1:=hide (show RowL wo w.heap.size _ _ from (hbr.block _ (by omega)).trans R1.out)
  replace HU:=hide (und_at HU.out hbr (by omega))
  replace HL:=hide (und_at HL.out hbr (by omega))
  replace HV:=hide (und_at HV.out hbr (by omega))
  clear ho hbr
  by_cases hlt:j < n
  ·obtain ⟨v,hv⟩:∃v,TV[j]?=some v:=⟨_,List.getElem?_eq_getElem (by omega)⟩
   obtain ⟨bV,oV,A2,c2,rfl,hbV,hcV,hrV⟩:=view_get HV.out hv
   have HCV:=hide hcV
   have HVL:=hide (hrV:RdE prEn wo (Under wT.heap.size) A2 v.2.length v.2)
   have hvl:v.2.length≤100:=HFW.out v (List.mem_of_getElem? hv)
   have HFS:=hide (find_succ up ls hv)
   obtain ⟨L,hL⟩:∃L,whitesW up v.1=L:=⟨_,rfl⟩
   have HLW:=hide hL
   have hll:L.length≤16:=by rw [←hL];exact whites_len HFU.out v.1
   have HFN:=hide (show finW up ls v=(L.filter (fun e=>!hidesW ls v.2 e.name)).map (idleF v.1) from by unfold finW;rw [hL])
   have hjn:(j:Int) < (n:Int):=by omega
   clear hcV hrV hv hL
   go_wp2_with (first|(refine wpList_loadX rfl 47 (.tmp 19) rfl 2 viw_agg viw_size bV (oV+j*2) rfl (viwC v.1 (.slice A2 v.2.length c2)) HCV.out rfl ?_)|(refine wpList_storeW rfl 47 (.tmp 7) (.tmp 20) rfl 2 viw_size (wo.heap.size) 47 rfl (viwC 0 (.slice none 0 0)) (viwC v.1 (.slice A2 v.2.length c2)) rfl (RowL.new wo 47 (viwC 0 (.slice none 0 0))) rfl rfl (viwC_one _ _ _ _) ?_;intro wS61 hr61 hg61 hs61;have hzb:=below_stored' hg61;replace HBR:=hide (HBR.out.trans (hzb.mono (by omega)));replace R1:=hide (R1.out.on hzb);replace HU:=hide (HU.out.under hzb (by omega));replace HL:=hide (HL.out.under hzb (by omega));replace HVL:=hide (HVL.out.under hzb (by omega));replace HO:=hide (HO.out.below hzb);have hsz62:=hzb.size;have R7:=hide hr61;have hlt61:=hr61.lt;have q7_0:wS61.cell? ⟨wo.heap.size,0,none⟩=some (.int .i64 v.1):=R7.out.cell 0;clear hzb hr61;clear hg61 hs61)|(refine wpList_loadW rfl 29 (.tmp 1) rfl 6 stk_agg stk_size (w.heap.size) 29 rfl (stkC g (.slice AU nU cU) (.slice AL nL cL)) R1.out rfl ?_)|(refine wpList_loadW rfl 47 (.tmp 7) rfl 2 viw_agg viw_size (wo.heap.size) 47 rfl (viwC v.1 (.slice A2 v.2.length c2)) R7.out rfl ?_)|(go_at_call 106;refine (Whites_any (u:=v.1) (cV:=c2) wS61 HU.out (by omega) HFU.out).mono ?_;rintro e63 wE ⟨A8,m,c8,rfl,hE,hbel⟩;clear q7_0;replace HBR:=hide (HBR.out.trans (hbel.mono (by omega)));replace R1:=hide (R1.out.on hbel);replace HU:=hide (HU.out.under hbel (by omega));replace HL:=hide (HL.out.under hbel (by omega));replace HVL:=hide (HVL.out.under hbel (by omega));replace HO:=hide (HO.out.below hbel);replace R7:=hide (R7.out.on hbel);have hsz64:=hbel.size;have q7_0:wE.cell? ⟨wo.heap.size,0,none⟩=some (.int .i64 v.1):=R7.out.cell 0;rw [HLW.out] at hE;have HE:=hide hE;clear hE;clear hbel))
   have hm16:m≤16:=by have:=HE.out.len;omega
   have hEL:L.length=m:=HE.out.len
   have hWE:wo.heap.size≤wE.heap.size:=by omega
   clear q7_0
   go_loopw [3,25] (fun v3 v25 wr=>∃(i n6:Nat) (A6:Option Addr) (c6:Nat),i≤m∧v25=.int .i64 i∧v3=.slice A6 n6 c6∧n6≤n3+i∧OwE finEn wr wT.heap.size 87 A6 n6 c6 (findW up ls (TV.take j)++((L.take i).filter (fun e=>!hidesW ls v.2 e.name)).map (idleF v.1))∧Below wT.heap.size wE wr∧RowL wr (wo.heap.size) 47 (viwC v.1 (.slice A2 v.2.length c2))∧OwE entEn wr wS61.heap.size 42 A8 m c8 L) (fun _ v25 _=>m - (intOf v25).toNat)
   case atStart=>exact ⟨0,n3,A3,c3,by omega,rfl,rfl,by omega,by simpa using HO.out,Below.refl _ _,R7.out,HE.out⟩
   case round =>
    obtain ⟨i,n6,A6,c6,hi,rfl,rfl,hn6,ho,hbr,hr7,he8⟩:=hrel
    have hbsz2:=hbr.size
    have HBQ:=hide hbr
    have HO2:=hide ho
    replace R1:=hide (show RowL wr w.heap.size _ _ from (hbr.block _ (by omega)).trans R1.out)
    replace HU:=hide (und_at HU.out hbr (by omega))
    replace HL:=hide (und_at HL.out hbr (by omega))
    replace HVL:=hide (und_at HVL.out hbr (by omega))
    clear R7 HE
    have R7:=hide hr7
    have HE:=hide he8
    have hr7l:=hr7.lt
    clear ho hbr hr7 he8
    have q7_0:wr.cell? ⟨wo.heap.size,0,none⟩=some (.int .i64 v.1):=R7.out.cell 0
    by_cases hlt2:i < m
    ·obtain ⟨e,he⟩:∃e,L[i]?=some e:=⟨_,List.getElem?_eq_getElem (by omega)⟩
     obtain ⟨bE,oE,rfl,hbE,hcE⟩:=ent_get ((HE.out.rd rfl).plain) he
     have HCE:=hide hcE
     obtain ⟨h,hh⟩:∃h,hidesW ls v.2 e.name=h:=⟨_,rfl⟩
     have HBH:=hide hh
     have HTF:=hide (take_fin (p:=fun e=>!hidesW ls v.2 e.name) (b:=!h) v.1 he (by rw [hh]))
     have him:(i:Int) < (m:Int):=by omega
     clear he hcE hh
     cases h with
     | true =>
      go_wp2_with (first|(refine wpList_loadX rfl 42 (.tmp 27) rfl 3 entw_agg entw_size bE (oE+i*3) rfl (cellsE e) HCE.out rfl ?_)|(refine wpList_storeW rfl 42 (.tmp 9) (.tmp 28) rfl 3 entw_size (wr.heap.size) 42 rfl [.int .i64 0,.int .i64 0,.string ⟨#[]⟩] (cellsE e) rfl (RowL.new wr 42 [.int .i64 0,.int .i64 0,.string ⟨#[]⟩]) rfl rfl (cellsE_one _) ?_;intro wS121 hr121 hg121 hs121;have hzb:=below_stored' hg121;clear q7_0;replace HBQ:=hide (HBQ.out.trans (hzb.mono (by omega)));replace R1:=hide (R1.out.on hzb);replace R7:=hide (R7.out.on hzb);replace HU:=hide (HU.out.under hzb (by omega));replace HL:=hide (HL.out.under hzb (by omega));replace HVL:=hide (HVL.out.under hzb (by omega));replace HO2:=hide (HO2.out.below hzb);replace HE:=hide (HE.out.below hzb);have hsz122:=hzb.size;have q7_0:wS121.cell? ⟨wo.heap.size,0,none⟩=some (.int .i64 v.1):=R7.out.cell 0;have R9:=hide hr121;have hlt121:=hr121.lt;have q9_2:wS121.cell? ⟨wr.heap.size,2,none⟩=some (.string ⟨e.name.toArray⟩):=R9.out.cell 2;have q9_0:wS121.cell? ⟨wr.heap.size,0,none⟩=some (.int .i64 e.slot):=R9.out.cell 0;clear hzb hr121;clear hg121 hs121)|(refine wpList_loadW rfl 29 (.tmp 1) rfl 6 stk_agg stk_size (w.heap.size) 29 rfl (stkC g (.slice AU nU cU) (.slice AL nL cL)) R1.out rfl ?_)|(refine wpList_loadW rfl 47 (.tmp 7) rfl 2 viw_agg viw_size (wo.heap.size) 47 rfl (viwC v.1 (.slice A2 v.2.length c2)) R7.out rfl ?_)|(go_at_call 51;refine (WHides_b (u:=v.1) (cV:=c2) HBH.out wS121 HU.out HL.out (by omega) HF.out HFU.out HVL.out (by omega) (by omega)).mono ?_;rintro e123 wH ⟨rfl,hbel⟩;clear q9_2 q7_0 q9_0;replace HBQ:=hide (HBQ.out.trans (hbel.mono (by omega)));replace R1:=hide (R1.out.on hbel);replace R7:=hide (R7.out.on hbel);replace HU:=hide (HU.out.under hbel (by omega));replace HL:=hide (HL.out.under hbel (by omega));replace HVL:=hide (HVL.out.under hbel (by omega));replace HO2:=hide (HO2.out.below hbel);replace HE:=hide (HE.out.below hbel);replace R9:=hide (R9.out.on hbel);have hsz124:=hbel.size;have q9_2:wH.cell? ⟨wr.heap.size,2,none⟩=some (.string ⟨e.name.toArray⟩):=R9.out.cell 2;have q7_0:wH.cell? ⟨wo.heap.size,0,none⟩=some (.int .i64 v.1):=R7.out.cell 0;have q9_0:wH.cell? ⟨wr.heap.size,0,none⟩=some (.int .i64 e.slot):=R9.out.cell 0;clear hbel))
      go_roundw
      case rel=>exact ⟨i+1,n6,A6,c6,by omega,by go_num,rfl,by omega,by rw [HTF.out,if_neg (by simp)];exact HO2.out,HBQ.out,R7.out,HE.out⟩
      case measure=>simp [intOf];omega
     | false =>
      go_wp2_with (first|(refine wpList_loadX rfl 42 (.tmp 27) rfl 3 entw_agg entw_size bE (oE+i*3) rfl (cellsE e) HCE.out rfl ?_)|(refine wpList_storeW rfl 42 (.tmp 9) (.tmp 28) rfl 3 entw_size (wr.heap.size) 42 rfl [.int .i64 0,.int .i64 0,.string ⟨#[]⟩] (cellsE e) rfl (RowL.new wr 42 [.int .i64 0,.int .i64 0,.string ⟨#[]⟩]) rfl rfl (cellsE_one _) ?_;intro wS121 hr121 hg121 hs121;have hzb:=below_stored' hg121;clear q7_0;replace HBQ:=hide (HBQ.out.trans (hzb.mono (by omega)));replace R1:=hide (R1.out.on hzb);replace R7:=hide (R7.out.on hzb);replace HU:=hide (HU.out.under hzb (by omega));replace HL:=hide (HL.out.under hzb (by omega));replace HVL:=hide (HVL.out.under hzb (by omega));replace HO2:=hide (HO2.out.below hzb);replace HE:=hide (HE.out.below hzb);have hsz122:=hzb.size;have q7_0:wS121.cell? ⟨wo.heap.size,0,none⟩=some (.int .i64 v.1):=R7.out.cell 0;have R9:=hide hr121;have hlt121:=hr121.lt;have q9_2:wS121.cell? ⟨wr.heap.size,2,none⟩=some (.string ⟨e.name.toArray⟩):=R9.out.cell 2;have q9_0:wS121.cell? ⟨wr.heap.size,0,none⟩=some (.int .i64 e.slot):=R9.out.cell 0;clear hzb hr121;clear hg121 hs121)|(refine wpList_loadW rfl 29 (.tmp 1) rfl 6 stk_agg stk_size (w.heap.size) 29 rfl (stkC g (.slice AU nU cU) (.slice AL nL cL)) R1.out rfl ?_)|(refine wpList_loadW rfl 47 (.tmp 7) rfl 2 viw_agg viw_size (wo.heap.size) 47 rfl (viwC v.1 (.slice A2 v.2.length c2)) R7.out rfl ?_)|(go_at_call 51;refine (WHides_b (u:=v.1) (cV:=c2) HBH.out wS121 HU.out HL.out (by omega) HF.out HFU.out HVL.out (by omega) (by omega)).mono ?_;rintro e123 wH ⟨rfl,hbel⟩;clear q9_2 q7_0 q9_0;replace HBQ:=hide (HBQ.out.trans (hbel.mono (by omega)));replace R1:=hide (R1.out.on hbel);replace R7:=hide (R7.out.on hbel);replace HU:=hide (HU.out.under hbel (by omega));replace HL:=hide (HL.out.under hbel (by omega));replace HVL:=hide (HVL.out.under hbel (by omega));replace HO2:=hide (HO2.out.below hbel);replace HE:=hide (HE.out.below hbel);replace R9:=hide (R9.out.on hbel);have hsz124:=hbel.size;have q9_2:wH.cell? ⟨wr.heap.size,2,none⟩=some (.string ⟨e.name.toArray⟩):=R9.out.cell 2;have q7_0:wH.cell? ⟨wo.heap.size,0,none⟩=some (.int .i64 v.1):=R7.out.cell 0;have q9_0:wH.cell? ⟨wr.heap.size,0,none⟩=some (.int .i64 e.slot):=R9.out.cell 0;have hlit:=litW_fin 15 0 v.1 e.slot wH;clear hbel)|(at_builtin;have hba:=below_new (below_self wH) (.cells #[.int .i64 15,.int .i64 0,.int .i64 v.1,.int .i64 e.slot] 87);refine wpList_append_OwK (E:=finEn) _ rfl (.tmp 35) (.tmp 41) 85 rfl wT.heap.size 87 (.agg #[.int .i64 0,.int .i64 0,.int .i64 0,.int .i64 0]) 32 Tryz.underlying85 finW_info rfl (by decide) A6 n6 c6 _ rfl (HO2.out.below hba) (fun b=>wH.heap.size≤b∧b < (wH.alloc (.cells (finC (idleF v.1 e)).toArray 87)).heap.size) (some ⟨wH.heap.size,0,none⟩) 1 1 [idleF v.1 e] rfl (enc_lit1 (fin_R (idleF v.1 e)) wH 87 (Nat.le_refl _)) (fun b hb=>⟨⟨hb.2,fun _ _ _ _=>rfl⟩,fun a ha=>(fun e=>by have h1:=hb.1;rw [e] at h1;have:=OwE.lt HO2.out a ha;omega)⟩) (by omega) (n6+1) rfl (by omega) (by omega) (by simp;omega) ?_;intro A9 c9 w9 ho9 hb9 hg9;have HO9:=hide ho9;have HB9:=hide ((HBQ.out.alloc (by omega) _).trans hb9);have R79:=hide ((R7.out.on hba).grown hg9 (owe_apart (HO2.out.below hba) (R7.out.on hba) (by decide)));have HE9:=hide (own_other (E:=entEn) ent_any (HE.out.below hba) (HO2.out.below hba) (by decide) hg9);clear ho9 hb9 hg9 hba))
      go_roundw
      case rel=>exact ⟨i+1,n6+1,A9,c9,by omega,by go_num,rfl,by omega,by rw [HTF.out,if_pos (by simp),←List.append_assoc];exact HO9.out,HB9.out,R79.out,HE9.out⟩
      case measure=>simp [intOf];omega
    ·obtain rfl:m=i:=by omega
     have hnlt2:¬((m:Int) < (m:Int)):=by omega
     have ho:=HO2.out
     rw [List.take_of_length_le (l:=L) (by omega),←HFN.out,←HFS.out] at ho
     go_wp2_with fail
     go_roundw
     case rel=>exact ⟨j+1,n6,A6,c6,by omega,by go_num,rfl,by omega,ho,HBR.out.trans (HBQ.out.mono (by omega))⟩
     case measure=>simp [intOf];omega
  ·obtain rfl:n=j:=by omega
   have hnlt:¬((n:Int) < (n:Int)):=by omega
   go_wp2_with fail
   go_ret
   have ho:=(HO.out.rd rfl).plain
   rw [List.take_of_length_le (by omega)] at ho
   exact ⟨A3,n3,c3,rfl,ho,HB.out.trans (HBR.out.mono (by omega))⟩
set_option maxRecDepth 100000 in
set_option maxHeartbeats 16000000 in
theorem RFinds_any {g:GeoQ} {AU AL:Option Addr} {nU cU nL cL B:Nat} {up:List NodV} {ls:List (List NodV)} {ws:List WayV} {TV:List ViewV} (hw:(walkW up [1]).1=ws) (hT:treeV up ls ws=TV) (w:World) (hu:RdE nodEn w (Under B) AU nU up) (h:RdE layEn w (Under B) AL nL ls) (hB:B≤w.heap.size) (hF:FewL ls) (hup:FewU up):Calls Tryz.prog 50 #[.agg (stkC g (.slice AU nU cU) (.slice AL nL cL)).toArray] w (FinsO w (findW up ls TV)):=by
 obtain ⟨W1,hW1⟩:∃W1,(w.alloc (.cells (stkC g (.slice AU nU cU) (.slice AL nL cL)).toArray 29))=W1:=⟨_,rfl⟩
 obtain ⟨r0,hb1,hs1⟩:=rowA1 w _ _ hW1
 have hW1':(w.alloc (.cells #[.int .i64 g.a,.int .i64 g.b,.int .i64 g.c,.int .i64 g.d,.slice AU nU cU,.slice AL nL cL] 29))=W1:=hW1
 have R1:=hide r0
 have HB:=hide hb1
 have hsz0:=hb1.size
 have HU:=hide (hu.under hb1 hB)
 have HL:=hide (h.under hb1 hB)
 have HF:=hide hF
 have HFU:=hide hup
 obtain ⟨n,hn⟩:∃n,ws.length=n:=⟨_,rfl⟩
 have HW:=hide hw
 have HT:=hide hT
 have HN:=hide hn
 have hn24:n≤24:=by have h1:=(walk_ok up [1]).le;rw [hw] at h1;have:=hup.1;omega
 have HFW:=hide (fun v (hv:v∈TV)=>show v.2.length≤100 from by have h1:=tree_few up ls ws v (by rw [hT];exact hv);have:=hF.1;omega)
 obtain ⟨W2,hW2⟩:∃W2,W1.alloc (.cells #[] 87)=W2:=⟨_,rfl⟩
 have ho0:OwE finEn (W1.alloc (.cells #[] 87)) W1.heap.size 87 (some ⟨W1.heap.size,0,none⟩) 0 0 []:=OwE.empty finEn W1 87
 have hb2:=below_new (below_self W1) (.cells #[] 87)
 rw [hW2] at ho0 hb2
 have HO0:=hide ho0
 replace HB:=hide (HB.out.trans (hb2.mono HB.out.size))
 replace R1:=hide (R1.out.on hb2)
 replace HU:=hide (HU.out.under hb2 (by omega))
 replace HL:=hide (HL.out.under hb2 (by omega))
 have hsz1:=hb2.size
 have q1_4:W2.cell? ⟨w.heap.size,4,none⟩=some (.slice AU nU cU):=R1.out.cell 4
 have q1_0:W2.cell? ⟨w.heap.size,0,none⟩=some (.int .i64 g.a):=R1.out.cell 0
 have q1_1:W2.cell? ⟨w.heap.size,1,none⟩=some (.int .i64 g.b):=R1.out.cell 1
 have q1_2:W2.cell? ⟨w.heap.size,2,none⟩=some (.int .i64 g.c):=R1.out.cell 2
 have q1_3:W2.cell? ⟨w.heap.size,3,none⟩=some (.int .i64 g.d):=R1.out.cell 3
 have q1_5:W2.cell? ⟨w.heap.size,5,none⟩=some (.slice AL nL cL):=R1.out.cell 5
 unfold stkC
 have hs1':w.heap.size+1≤W1.heap.size:=by omega
 clear r0 hb1 hW1 hu h hF hup hw hT hn ho0 hb2 hs1
 go_enter Tryz.func50,Tryz.ntmps50
 go_wp2_with (first|(refine wpList_loadW rfl 29 (.tmp 1) rfl 6 stk_agg stk_size (w.heap.size) 29 rfl (stkC g (.slice AU nU cU) (.slice AL nL cL)) R1.out rfl ?_)|(go_at_call 107;refine (RVTree_p HW.out HT.out HN.out W2 HU.out HL.out (by omega) HF.out HFU.out).mono ?_;rintro e2 wT ⟨A4,c4,A5,c5,rfl,hw4,hv5,hbel⟩;clear hw4;clear q1_4 q1_0 q1_1 q1_2 q1_3 q1_5;replace HB:=hide (HB.out.trans (hbel.mono HB.out.size));replace R1:=hide (R1.out.on hbel);replace HU:=hide (HU.out.under hbel (by omega));replace HL:=hide (HL.out.under hbel (by omega));replace HO0:=hide (HO0.out.below hbel);have hsz3:=hbel.size;have q1_4:wT.cell? ⟨w.heap.size,4,none⟩=some (.slice AU nU cU):=R1.out.cell 4;have q1_0:wT.cell? ⟨w.heap.size,0,none⟩=some (.int .i64 g.a):=R1.out.cell 0;have q1_1:wT.cell? ⟨w.heap.size,1,none⟩=some (.int .i64 g.b):=R1.out.cell 1;have q1_2:wT.cell? ⟨w.heap.size,2,none⟩=some (.int .i64 g.c):=R1.out.cell 2;have q1_3:wT.cell? ⟨w.heap.size,3,none⟩=some (.int .i64 g.d):=R1.out.cell 3;have q1_5:wT.cell? ⟨w.heap.size,5,none⟩=some (.slice AL nL cL):=R1.out.cell 5;have HV:=hide hv5;clear hv5;clear hbel))
 have hWT:W1.heap.size≤wT.heap.size:=by omega
 have hVN:TV.length=n:=HV.out.1
 clear q1_4 q1_0 q1_1 q1_2 q1_3 q1_5
 go_loopw [3,6] (fun v3 v6 wr=>∃(j n3:Nat) (A3:Option Addr) (c3:Nat),j≤n∧v6=.int .i64 j∧v3=.slice A3 n3 c3∧n3≤16*j∧OwL finEn wr W1.heap.size wT.heap.size 87 A3 n3 c3 (findW up ls (TV.take j))∧Below wT.heap.size wT wr) (fun _ v6 _=>n - (intOf v6).toNat)
 case atStart=>exact ⟨0,0,_,0,by omega,rfl,rfl,by omega,.inr ⟨_,rfl,rfl,rfl,rfl,HO0.out⟩,Below.refl _ _⟩
 case round =>
  rename World=>wo
  obtain ⟨j,n3,A3,c3,hj,rfl,rfl,hn3,ho,hbr⟩:=hrel
  have hbsz:=hbr.size
  have HBR:=hide hbr
  have HO:=hide ho
  replace R1:=hide (show RowL wo w.heap.size _ _ from (hbr.block _ (by omega)).trans R1.out)
  replace HU:=hide (und_at HU.out hbr (by omega))
  replace HL:=hide (und_at HL.out hbr (by omega))
  replace HV:=hide (und_at HV.out hbr (by omega))
  clear ho hbr
  by_cases hlt:j < n
  ·obtain ⟨v,hv⟩:∃v,TV[j]?=some v:=⟨_,List.getElem?_eq_getElem (by omega)⟩
   obtain ⟨bV,oV,A2,c2,rfl,hbV,hcV,hrV⟩:=view_get HV.out hv
   have hbV':bV < wo.heap.size:=by have:bV < wT.heap.size:=hbV;omega
   have HCV:=hide hcV
   have HVL:=hide (hrV:RdE prEn wo (Under wT.heap.size) A2 v.2.length v.2)
   have hvl:v.2.length≤100:=HFW.out v (List.mem_of_getElem? hv)
   have HFS:=hide (find_succ up ls hv)
   obtain ⟨N,hN⟩:∃N,nodAt up v.1=N:=⟨_,rfl⟩
   have HN1:=hide hN
   have hel:N.ents.length≤16:=by rw [←hN];exact (nodAt_plain HFU.out.2 v.1).2.2.2.2.1
   have HFN:=hide (show finW up ls v=(N.ents.filter (fun e=>whiE up e&&!hidesW ls v.2 e.name)).map (idleF v.1) from by unfold finW whitesW;rw [hN,List.filter_filter];congr 2;funext e;exact Bool.and_comm _ _)
   have hjn:(j:Int) < (n:Int):=by omega
   clear hcV hrV hv hN
   go_wp2_with fail
   go_upto_region 6 with fail
   go_cut [7] from 22 to 29 (fun v7 wx=>∃(g7:Nat) (D1:Option Addr) (n1 c1:Nat) (C1:Option Addr) (m d1:Nat),v7=.pointer (some ⟨g7,0,none⟩)∧wo.heap.size≤g7∧RowL wx g7 38 (nodC N (.slice D1 n1 c1) (.slice C1 m d1))∧RdE entEn wx (Under B) C1 m N.ents∧Below wo.heap.size wo wx)
   case first =>
    refine wp_region_G (fun w'=>Below (wo.heap.size) wo w') (.take 0 (.take 1 (.take 2 (.take 3 (.take 4 (.take 5 (.take 6 (.alt 7 (.alt 8 (.alt 9 .leaf .stop) .stop) (.alt 8 (.alt 7 (.alt 9 .leaf .stop) .stop) .stop))))))))) (by kernel_rfl) (by kernel_rfl) (by kernel_rfl) (by kernel_rfl) rfl (fun _ _ _ _ _ h=>h) (below_drew (below_self wo)) (fun hHeld=>?_)
    generalize wo.drew=wd at *
    simp only [PT.map,List.getElem?_toArray,List.getElem?_cons_succ,List.getElem?_cons_zero]
    refine wpPT_take (v:=?_) (by kernel_rfl) (fun wS hSw=>?_) ?_
    rotate_left
    ·(try dsimp only at hSw);go_simp;(try with_reducible rfl)
    (try simp only [Act.put,pu1,pu2,pu3])
    refine wpPT_take (v:=?_) (by kernel_rfl) (fun wS hSw=>?_) ?_
    rotate_left
    ·have qx:=((R1.out.on hSw).cell 4).trans (show (stkC g (.slice AU nU cU) (.slice AL nL cL))[4]?=some (.slice AU nU cU) from rfl);go_simp;(try with_reducible rfl)
    (try simp only [Act.put,pu1,pu2,pu3])
    iterate 4
     refine wpPT_take (v:=?_) (by kernel_rfl) (fun wS hSw=>?_) ?_
     rotate_left
     ·(try dsimp only at hSw);go_simp;(try with_reducible rfl)
     (try simp only [Act.put,pu1,pu2,pu3])
    refine wpPT_take (v:=?_) (by kernel_rfl) (fun wS hSw=>?_) ?_
    rotate_left
    ·have qx:=(show wS.cell? ⟨bV,oV+j*2,none⟩=some (.int .i64 v.1) from (cell_same (hSw.block bV hbV')).trans (HCV.out 0 _ rfl));go_simp;(try with_reducible rfl)
    (try simp only [Act.put,pu1,pu2,pu3])
    refine wpPT_alt (by kernel_rfl) (fun K hK=>?_) ?_
    ·skip
     have hOld:=hide hHeld
     clear hHeld
     go_simp
     go_at_call 101
     refine (At_e HN1.out (B:=B) _ (HU.out.under hOld.out (by omega)) (by have:=hOld.out.size;omega) (by have:=HFU.out.1;omega)).mono ?_
     rintro e w' ⟨D1,n1,c1,C1,m,d1,rfl,-,hD,hmd,hE,hbel⟩
     have hb':=hbel.mono (B':=wo.heap.size) (by have:=hOld.out.size;omega)
     clear hD hmd
     have HE:=hide hE
     clear hE
     clear hbel
     refine hK.out _ _ (hOld.out.trans hb') (fun hHeld=>?_)
     clear hK K
     (try simp only [Act.put,pu1,pu2,pu3])
     refine wpPT_alt (by kernel_rfl) (fun K hK=>?_) ?_
     rotate_left
     ·exact wpPT_stop
     have hOld:=hide hHeld
     clear hHeld
     unfold Oper.wp execOp
     go_simp
     have hal:=below_new (below_self w') (.cells #[.int .i64 0,.int .i64 0,.int .i64 0,.int .i64 0,.slice none 0 0,.slice none 0 0,.int .i64 0,.int .i64 0,.string ⟨#[]⟩,.int .i64 0,.int .i64 0,.int .i64 0,.int .i64 0] 38)
     have hb':=hal.mono (B':=wo.heap.size) (by have:=hOld.out.size;omega)
     have HFN:=hide (show RowL (w'.alloc (.cells #[.int .i64 0,.int .i64 0,.int .i64 0,.int .i64 0,.slice none 0 0,.slice none 0 0,.int .i64 0,.int .i64 0,.string ⟨#[]⟩,.int .i64 0,.int .i64 0,.int .i64 0,.int .i64 0] 38)) w'.heap.size 38 (nodC nod0 (.slice none 0 0) (.slice none 0 0)) from RowL.new w' 38 (nodC nod0 (.slice none 0 0) (.slice none 0 0)))
     have g7l:wo.heap.size≤w'.heap.size:=hOld.out.size
     refine hK.out _ _ (hOld.out.trans hb') (fun hHeld=>?_)
     clear hK K
     have HE':=hide (HE.out.under hal (by have:=hOld.out.size;omega))
     clear HE
     have HE:=HE'
     clear HE'
     have R7:=HFN
     clear hal hb' hOld HFN
     generalize w'.alloc (.cells #[.int .i64 0,.int .i64 0,.int .i64 0,.int .i64 0,.slice none 0 0,.slice none 0 0,.int .i64 0,.int .i64 0,.string ⟨#[]⟩,.int .i64 0,.int .i64 0,.int .i64 0,.int .i64 0] 38)=z1 at *
     generalize w'.heap.size=g7 at *
     (try simp only [Act.put,pu1,pu2,pu3])
     refine wpPT_alt (by kernel_rfl) (fun K hK=>?_) ?_
     rotate_left
     ·exact wpPT_stop
     have hOld:=hide hHeld
     clear hHeld
     refine wp_storeC 38 (.tmp 7) (.tmp 29) rfl 13 nod_size g7 0 38 rfl (nodC nod0 (.slice none 0 0) (.slice none 0 0)) (nodC N (.slice D1 n1 c1) (.slice C1 m d1)) rfl R7.out rfl (by exact Nat.le_refl _) (nodC_one _ _ _ _ _ _ _) ?_
     intro w' hr' hg' hs'
     rw [splice_all (nodC nod0 (.slice none 0 0) (.slice none 0 0)) (nodC N (.slice D1 n1 c1) (.slice C1 m d1)) rfl] at hr'
     refine hK.out _ _ (hOld.out.grown hg' (by have:=hOld.out.size;omega) (pu4 (by omega))) (fun hHeld=>?_)
     clear hK K
     have HE':=hide (HE.out.mono (show Kept (Under B) _ _ from fun b hb=>hg'.block b (by unfold Under at hb;have:=hOld.out.size;omega) (fun e=>by have:=Option.some.inj e;unfold Under at hb;omega)) (fun _ h=>h))
     clear HE
     have HE:=HE'
     clear HE'
     clear R7
     have R7:=hide hr'
     clear hg' hs' hr' hOld
     (try simp only [Act.put])
     refine wpPT_leaf ?_
     have HBX:=hide hHeld
     clear hHeld
     go_wp2_with fail
     go_meet
     case rel=>exact ⟨_,_,_,_,_,_,_,rfl,by omega,R7.out,HE.out,HBX.out⟩
    refine wpPT_alt (by kernel_rfl) (fun K hK=>?_) ?_
    ·skip
     have hOld:=hide hHeld
     clear hHeld
     unfold Oper.wp execOp
     go_simp
     have hal:=below_new (below_self wd) (.cells #[.int .i64 0,.int .i64 0,.int .i64 0,.int .i64 0,.slice none 0 0,.slice none 0 0,.int .i64 0,.int .i64 0,.string ⟨#[]⟩,.int .i64 0,.int .i64 0,.int .i64 0,.int .i64 0] 38)
     have hb':=hal.mono (B':=wo.heap.size) (by have:=hOld.out.size;omega)
     have HFN:=hide (show RowL (wd.alloc (.cells #[.int .i64 0,.int .i64 0,.int .i64 0,.int .i64 0,.slice none 0 0,.slice none 0 0,.int .i64 0,.int .i64 0,.string ⟨#[]⟩,.int .i64 0,.int .i64 0,.int .i64 0,.int .i64 0] 38)) wd.heap.size 38 (nodC nod0 (.slice none 0 0) (.slice none 0 0)) from RowL.new wd 38 (nodC nod0 (.slice none 0 0) (.slice none 0 0)))
     have g7l:wo.heap.size≤wd.heap.size:=hOld.out.size
     refine hK.out _ _ (hOld.out.trans hb') (fun hHeld=>?_)
     clear hK K
     have R7:=HFN
     clear hal hb' hOld HFN
     generalize wd.alloc (.cells #[.int .i64 0,.int .i64 0,.int .i64 0,.int .i64 0,.slice none 0 0,.slice none 0 0,.int .i64 0,.int .i64 0,.string ⟨#[]⟩,.int .i64 0,.int .i64 0,.int .i64 0,.int .i64 0] 38)=z0 at *
     generalize wd.heap.size=g7 at *
     (try simp only [Act.put,pu1,pu2,pu3])
     refine wpPT_alt (by kernel_rfl) (fun K hK=>?_) ?_
     rotate_left
     ·exact wpPT_stop
     have hOld:=hide hHeld
     clear hHeld
     go_simp
     go_at_call 101
     refine (At_e HN1.out (B:=B) _ (HU.out.under hOld.out (by omega)) (by have:=hOld.out.size;omega) (by have:=HFU.out.1;omega)).mono ?_
     rintro e w' ⟨D1,n1,c1,C1,m,d1,rfl,-,hD,hmd,hE,hbel⟩
     have hb':=hbel.mono (B':=wo.heap.size) (by have:=hOld.out.size;omega)
     clear hD hmd
     have HE:=hide hE
     clear hE
     have R7':=hide (R7.out.on hbel)
     clear R7
     have R7:=R7'
     clear R7'
     clear hbel
     refine hK.out _ _ (hOld.out.trans hb') (fun hHeld=>?_)
     clear hK K
     (try simp only [Act.put,pu1,pu2,pu3])
     refine wpPT_alt (by kernel_rfl) (fun K hK=>?_) ?_
     rotate_left
     ·exact wpPT_stop
     have hOld:=hide hHeld
     clear hHeld
     refine wp_storeC 38 (.tmp 7) (.tmp 29) rfl 13 nod_size g7 0 38 rfl (nodC nod0 (.slice none 0 0) (.slice none 0 0)) (nodC N (.slice D1 n1 c1) (.slice C1 m d1)) rfl R7.out rfl (by exact Nat.le_refl _) (nodC_one _ _ _ _ _ _ _) ?_
     intro w' hr' hg' hs'
     rw [splice_all (nodC nod0 (.slice none 0 0) (.slice none 0 0)) (nodC N (.slice D1 n1 c1) (.slice C1 m d1)) rfl] at hr'
     refine hK.out _ _ (hOld.out.grown hg' (by have:=hOld.out.size;omega) (pu4 (by omega))) (fun hHeld=>?_)
     clear hK K
     have HE':=hide (HE.out.mono (show Kept (Under B) _ _ from fun b hb=>hg'.block b (by unfold Under at hb;have:=hOld.out.size;omega) (fun e=>by have:=Option.some.inj e;unfold Under at hb;omega)) (fun _ h=>h))
     clear HE
     have HE:=HE'
     clear HE'
     clear R7
     have R7:=hide hr'
     clear hg' hs' hr' hOld
     (try simp only [Act.put])
     refine wpPT_leaf ?_
     have HBX:=hide hHeld
     clear hHeld
     go_wp2_with fail
     go_meet
     case rel=>exact ⟨_,_,_,_,_,_,_,rfl,by omega,R7.out,HE.out,HBX.out⟩
    exact wpPT_stop
   case rest =>
   obtain ⟨g7,D1,n1,c1,C1,m,d1,rfl,hg7,hr7,hE,hbx⟩:=hcut
   have hbxs:=hbx.size
   replace R1:=hide (R1.out.on hbx)
   replace HU:=hide (HU.out.under hbx (by omega))
   replace HL:=hide (HL.out.under hbx (by omega))
   replace HVL:=hide (HVL.out.under hbx (by omega))
   replace HCV:=hide (fun (k:Nat) (x:Value) (hx:(viwC v.1 (.slice A2 v.2.length c2))[k]?=some x)=>show wc.cell? ⟨bV,oV+j*2+k,none⟩=some x from (cell_same (hbx.block bV hbV')).trans (HCV.out k x hx))
   replace HO:=hide (HO.out.below hbx)
   replace HBR:=hide (HBR.out.trans (hbx.mono (by omega)))
   have R7:=hide hr7
   have HE:=hide hE
   have hm16:m≤16:=by have:=hE.1;omega
   have hEL:N.ents.length=m:=hE.1
   clear hbx hr7 hE
   go_wp2_with fail
   go_loopw [3,8] (fun v3 v8 wr=>∃(i n6:Nat) (A6:Option Addr) (c6:Nat),i≤m∧v8=.int .i64 i∧v3=.slice A6 n6 c6∧n6≤n3+i∧OwL finEn wr W1.heap.size wT.heap.size 87 A6 n6 c6 (findW up ls (TV.take j)++((N.ents.take i).filter (fun e=>whiE up e&&!hidesW ls v.2 e.name)).map (idleF v.1))∧Below wT.heap.size wc wr∧RowL wr g7 38 (nodC N (.slice D1 n1 c1) (.slice C1 m d1))) (fun _ v8 _=>m - (intOf v8).toNat)
   case atStart=>exact ⟨0,n3,A3,c3,by omega,rfl,rfl,by omega,by simpa using HO.out,Below.refl _ _,R7.out⟩
   case round =>
    obtain ⟨i,n6,A6,c6,hi,rfl,rfl,hn6,ho,hbr,hr7⟩:=hrel
    have hbsz2:=hbr.size
    have HBQ:=hide hbr
    have HO2:=hide ho
    replace R1:=hide (show RowL wr w.heap.size _ _ from (hbr.block _ (by omega)).trans R1.out)
    replace HU:=hide (und_at HU.out hbr (by omega))
    replace HL:=hide (und_at HL.out hbr (by omega))
    replace HVL:=hide (und_at HVL.out hbr (by omega))
    replace HE:=hide (und_at HE.out hbr (by omega))
    replace HCV:=hide (fun (k:Nat) (x:Value) (hx:(viwC v.1 (.slice A2 v.2.length c2))[k]?=some x)=>show wr.cell? ⟨bV,oV+j*2+k,none⟩=some x from (cell_same (hbr.block bV hbV)).trans (HCV.out k x hx))
    clear R7
    have R7:=hide hr7
    have hr7l:=hr7.lt
    clear ho hbr hr7
    have q7_5:wr.cell? ⟨g7,5,none⟩=some (.slice C1 m d1):=R7.out.cell 5
    by_cases hlt2:i < m
    ·obtain ⟨e,he⟩:∃e,N.ents[i]?=some e:=⟨_,List.getElem?_eq_getElem (by omega)⟩
     obtain ⟨bE,oE,rfl,hbE,hcE⟩:=ent_get HE.out he
     have HCE:=hide hcE
     obtain ⟨X,hX⟩:∃X,nodAt up e.ino=X:=⟨_,rfl⟩
     have HX:=hide hX
     obtain ⟨b4,hb4⟩:∃b4,whiE up e=b4:=⟨_,rfl⟩
     obtain ⟨h,hh⟩:∃h,hidesW ls v.2 e.name=h:=⟨_,rfl⟩
     have HBH:=hide hh
     have HTF:=hide (take_fin (p:=fun e=>whiE up e&&!hidesW ls v.2 e.name) (b:=b4&&!h) v.1 he (by rw [hh,hb4]))
     have hk4:(X.k==4)=b4:=by
      rw [←hb4,←hX]
      unfold whiE
      by_cases hk:(nodAt up e.ino).k=4 <;> simp [hk]
     have him:(i:Int) < (m:Int):=by omega
     clear he hcE hh hX hb4
     go_wp2_with (first|(refine wpList_loadX rfl 42 (.tmp 40) rfl 3 entw_agg entw_size bE (oE+i*3) rfl (cellsE e) HCE.out rfl ?_)|(refine wpList_storeW rfl 42 (.tmp 9) (.tmp 41) rfl 3 entw_size (wr.heap.size) 42 rfl [.int .i64 0,.int .i64 0,.string ⟨#[]⟩] (cellsE e) rfl (RowL.new wr 42 [.int .i64 0,.int .i64 0,.string ⟨#[]⟩]) rfl rfl (cellsE_one _) ?_;intro wS121 hr121 hg121 hs121;have hzb:=below_stored' hg121;have HZ:=hide hzb;clear q7_5;replace HBQ:=hide (HBQ.out.trans (hzb.mono (by omega)));replace R1:=hide (R1.out.on hzb);replace R7:=hide (R7.out.on hzb);replace HU:=hide (HU.out.under hzb (by omega));replace HL:=hide (HL.out.under hzb (by omega));replace HVL:=hide (HVL.out.under hzb (by omega));replace HO2:=hide (HO2.out.below hzb);have hsz122:=hzb.size;have q7_5:wS121.cell? ⟨g7,5,none⟩=some (.slice (some ⟨bE,oE,none⟩) m d1):=R7.out.cell 5;have R9:=hide hr121;have hlt121:=hr121.lt;have q9_1:wS121.cell? ⟨wr.heap.size,1,none⟩=some (.int .i64 e.ino):=R9.out.cell 1;have q9_2:wS121.cell? ⟨wr.heap.size,2,none⟩=some (.string ⟨e.name.toArray⟩):=R9.out.cell 2;have q9_0:wS121.cell? ⟨wr.heap.size,0,none⟩=some (.int .i64 e.slot):=R9.out.cell 0;clear hzb hr121;clear hg121 hs121))
     have hbVy:bV < wS121.heap.size:=by have:bV < wT.heap.size:=hbV;omega
     have HCVy:=hide (fun (k:Nat) (x:Value) (hx:(viwC v.1 (.slice A2 v.2.length c2))[k]?=some x)=>show wS121.cell? ⟨bV,oV+j*2+k,none⟩=some x from (cell_same (HZ.out.block bV (by have:bV < wT.heap.size:=hbV;omega))).trans (HCV.out k x hx))
     cases b4 with
     | false =>
      refine wp_region_planN (fun w'=>Below wS121.heap.size wS121 w') [(0,true),(1,true),(2,true),(3,true),(4,false),(5,true),(6,true),(7,true),(8,true),(9,true),(10,true),(11,true),(12,true),(13,true),(14,true),(15,false),(16,true),(17,true)] (by kernel_rfl) (by kernel_rfl) (by kernel_rfl) (by kernel_rfl) rfl (fun _ _ _ _ _ h=>h) (below_drew (below_self wS121)) (fun hHeld=>?_)
      simp only [planOps,List.filterMap_cons,List.filterMap_nil,List.getElem?_toArray,List.getElem?_cons_succ,List.getElem?_cons_zero,Option.map_some]
      refine wpPlan_take (v:=?_) (by kernel_rfl) (fun wS hSw=>?_) ?_
      rotate_left
      ·(try dsimp only at hSw);go_simp;(try with_reducible rfl)
      (try simp only [Act.put,pu1,pu2,pu3])
      refine wpPlan_take (v:=?_) (by kernel_rfl) (fun wS hSw=>?_) ?_
      rotate_left
      ·have qx:=((R1.out.on hSw).cell 4).trans (show (stkC g (.slice AU nU cU) (.slice AL nL cL))[4]?=some (.slice AU nU cU) from rfl);go_simp;(try with_reducible rfl)
      (try simp only [Act.put,pu1,pu2,pu3])
      refine wpPlan_take (v:=?_) (by kernel_rfl) (fun wS hSw=>?_) ?_
      rotate_left
      ·(try dsimp only at hSw);go_simp;(try with_reducible rfl)
      (try simp only [Act.put,pu1,pu2,pu3])
      refine wpPlan_take (v:=?_) (by kernel_rfl) (fun wS hSw=>?_) ?_
      rotate_left
      ·have qx:=((R9.out.on hSw).cell 1).trans (show (cellsE e)[1]?=some (.int .i64 e.ino) from rfl);go_simp;(try with_reducible rfl)
      (try simp only [Act.put,pu1,pu2,pu3])
      refine wpPlan_call (by kernel_rfl) (fun K hK=>?_)
      have hOld:=hide hHeld
      clear hHeld
      go_simp
      go_at_call 101
      refine (At_e HX.out (B:=B) _ (HU.out.under hOld.out (by omega)) (by have:=hOld.out.size;omega) (by have:=HFU.out.1;omega)).mono ?_
      rintro e w' ⟨D2,n2,c3,C2,m2,d2,rfl,-,hD,hmd,hE2,hbel⟩
      clear hD hmd hE2
      refine hK.out _ _ (hOld.out.trans (hbel.mono hOld.out.size)) (fun hHeld=>?_)
      clear hK K
      (try simp only [Act.put,pu1,pu2,pu3])
      refine wpPlan_take (v:=?_) (by kernel_rfl) (fun wS hSw=>?_) ?_
      rotate_left
      ·have qx:=nod_f0 X (.slice D2 n2 c3) (.slice C2 m2 d2);(try dsimp only at hSw);go_simp;(try with_reducible rfl)
      (try simp only [Act.put,pu1,pu2,pu3])
      iterate 2
       refine wpPlan_take (v:=?_) (by kernel_rfl) (fun wS hSw=>?_) ?_
       rotate_left
       ·(try dsimp only at hSw);go_simp;(try with_reducible rfl)
       (try simp only [Act.put,pu1,pu2,pu3])
      refine wpPlan_skip (by kernel_rfl) ?_
      (try simp only [Act.put,pu1,pu2,pu3])
      refine wpPlan_skip (by kernel_rfl) ?_
      (try simp only [Act.put,pu1,pu2,pu3])
      refine wpPlan_skip (by kernel_rfl) ?_
      (try simp only [Act.put,pu1,pu2,pu3])
      refine wpPlan_skip (by kernel_rfl) ?_
      (try simp only [Act.put,pu1,pu2,pu3])
      refine wpPlan_skip (by kernel_rfl) ?_
      (try simp only [Act.put,pu1,pu2,pu3])
      refine wpPlan_skip (by kernel_rfl) ?_
      (try simp only [Act.put,pu1,pu2,pu3])
      refine wpPlan_skip (by kernel_rfl) ?_
      (try simp only [Act.put,pu1,pu2,pu3])
      refine wpPlan_skip (by kernel_rfl) ?_
      (try simp only [Act.put,pu1,pu2,pu3])
      refine wpPlan_skip (by kernel_rfl) ?_
      (try simp only [Act.put,pu1,pu2,pu3])
      refine wpPlan_take (v:=?_) (by kernel_rfl) (fun wS hSw=>?_) ?_
      rotate_left
      ·(try dsimp only at hSw);go_simp;(try with_reducible rfl)
      (try simp only [Act.put,pu1,pu2,pu3])
      refine wpPlan_end ?_
      have HBX:=hide hHeld
      clear hHeld
      go_wp2_with fail
      go_roundw
      case rel=>exact ⟨i+1,n6,A6,c6,by omega,by go_num,rfl,by omega,by rw [HTF.out,if_neg (by simp)];exact HO2.out.below HBX.out,HBQ.out.trans (HBX.out.mono (by omega)),R7.out.on HBX.out⟩
      case measure=>simp [intOf];omega
     | true =>
      refine wp_region_planN (fun w'=>Below wS121.heap.size wS121 w') [(0,true),(1,true),(2,true),(3,true),(4,false),(5,true),(6,true),(7,true),(8,true),(9,true),(10,true),(11,true),(12,true),(13,true),(14,true),(15,false),(16,true),(17,true)] (by kernel_rfl) (by kernel_rfl) (by kernel_rfl) (by kernel_rfl) rfl (fun _ _ _ _ _ h=>h) (below_drew (below_self wS121)) (fun hHeld=>?_)
      simp only [planOps,List.filterMap_cons,List.filterMap_nil,List.getElem?_toArray,List.getElem?_cons_succ,List.getElem?_cons_zero,Option.map_some]
      refine wpPlan_take (v:=?_) (by kernel_rfl) (fun wS hSw=>?_) ?_
      rotate_left
      ·(try dsimp only at hSw);go_simp;(try with_reducible rfl)
      (try simp only [Act.put,pu1,pu2,pu3])
      refine wpPlan_take (v:=?_) (by kernel_rfl) (fun wS hSw=>?_) ?_
      rotate_left
      ·have qx:=((R1.out.on hSw).cell 4).trans (show (stkC g (.slice AU nU cU) (.slice AL nL cL))[4]?=some (.slice AU nU cU) from rfl);go_simp;(try with_reducible rfl)
      (try simp only [Act.put,pu1,pu2,pu3])
      refine wpPlan_take (v:=?_) (by kernel_rfl) (fun wS hSw=>?_) ?_
      rotate_left
      ·(try dsimp only at hSw);go_simp;(try with_reducible rfl)
      (try simp only [Act.put,pu1,pu2,pu3])
      refine wpPlan_take (v:=?_) (by kernel_rfl) (fun wS hSw=>?_) ?_
      rotate_left
      ·have qx:=((R9.out.on hSw).cell 1).trans (show (cellsE e)[1]?=some (.int .i64 e.ino) from rfl);go_simp;(try with_reducible rfl)
      (try simp only [Act.put,pu1,pu2,pu3])
      refine wpPlan_call (by kernel_rfl) (fun K hK=>?_)
      have hOld:=hide hHeld
      clear hHeld
      go_simp
      go_at_call 101
      refine (At_e HX.out (B:=B) _ (HU.out.under hOld.out (by omega)) (by have:=hOld.out.size;omega) (by have:=HFU.out.1;omega)).mono ?_
      rintro e w' ⟨D2,n2,c3,C2,m2,d2,rfl,-,hD,hmd,hE2,hbel⟩
      clear hD hmd hE2
      refine hK.out _ _ (hOld.out.trans (hbel.mono hOld.out.size)) (fun hHeld=>?_)
      clear hK K
      (try simp only [Act.put,pu1,pu2,pu3])
      refine wpPlan_take (v:=?_) (by kernel_rfl) (fun wS hSw=>?_) ?_
      rotate_left
      ·have qx:=nod_f0 X (.slice D2 n2 c3) (.slice C2 m2 d2);(try dsimp only at hSw);go_simp;(try with_reducible rfl)
      (try simp only [Act.put,pu1,pu2,pu3])
      iterate 2
       refine wpPlan_take (v:=?_) (by kernel_rfl) (fun wS hSw=>?_) ?_
       rotate_left
       ·(try dsimp only at hSw);go_simp;(try with_reducible rfl)
       (try simp only [Act.put,pu1,pu2,pu3])
      refine wpPlan_take (v:=?_) (by kernel_rfl) (fun wS hSw=>?_) ?_
      rotate_left
      ·refine execOp_load (x:=.tmp 1) (k:=6) (g:=w.heap.size) (off:=0) (cs:=stkC g (.slice AU nU cU) (.slice AL nL cL)) ?_ stk_agg stk_size ?_ (fun j v hv=>by rw [Nat.zero_add];exact ((R1.out.on hSw).cell j).trans hv) rfl <;> rfl
      (try simp only [Act.put,pu1,pu2,pu3])
      iterate 3
       refine wpPlan_take (v:=?_) (by kernel_rfl) (fun wS hSw=>?_) ?_
       rotate_left
       ·(try dsimp only at hSw);go_simp;(try with_reducible rfl)
       (try simp only [Act.put,pu1,pu2,pu3])
      refine wpPlan_take (v:=?_) (by kernel_rfl) (fun wS hSw=>?_) ?_
      rotate_left
      ·refine execOp_load (x:=.tmp 53) (k:=2) (g:=bV) (off:=oV+j*2) (cs:=viwC v.1 (.slice A2 v.2.length c2)) ?_ viw_agg viw_size ?_ (fun k x hx=>(cell_same (hSw.block bV hbVy)).trans (HCVy.out k x hx)) rfl <;> rfl
      (try simp only [Act.put,pu1,pu2,pu3])
      refine wpPlan_take (v:=?_) (by kernel_rfl) (fun wS hSw=>?_) ?_
      rotate_left
      ·(try dsimp only at hSw);go_simp;(try with_reducible rfl)
      (try simp only [Act.put,pu1,pu2,pu3])
      refine wpPlan_take (v:=?_) (by kernel_rfl) (fun wS hSw=>?_) ?_
      rotate_left
      ·have qx:=((R9.out.on hSw).cell 2).trans (show (cellsE e)[2]?=some (.string ⟨e.name.toArray⟩) from rfl);go_simp;(try with_reducible rfl)
      (try simp only [Act.put,pu1,pu2,pu3])
      refine wpPlan_call (by kernel_rfl) (fun K hK=>?_)
      have hOld:=hide hHeld
      clear hHeld
      go_simp
      go_at_call 52
      refine (RHides_b (u:=v.1) (cV:=c2) HBH.out _ (HU.out.under hOld.out (by omega)) (HL.out.under hOld.out (by omega)) (by have:=hOld.out.size;omega) HF.out HFU.out (HVL.out.under hOld.out (by omega)) (by have:=hOld.out.size;omega) (by omega)).mono ?_
      rintro e w' ⟨rfl,hbel⟩
      refine hK.out _ _ (hOld.out.trans (hbel.mono hOld.out.size)) (fun hHeld=>?_)
      clear hK K
      (try simp only [Act.put,pu1,pu2,pu3])
      iterate 2
       refine wpPlan_take (v:=?_) (by kernel_rfl) (fun wS hSw=>?_) ?_
       rotate_left
       ·(try dsimp only at hSw);go_simp;(try with_reducible rfl)
       (try simp only [Act.put,pu1,pu2,pu3])
      refine wpPlan_end ?_
      cases h with
      | true =>
       have HBX:=hide hHeld
       clear hHeld
       go_wp2_with fail
       go_roundw
       case rel=>exact ⟨i+1,n6,A6,c6,by omega,by go_num,rfl,by omega,by rw [HTF.out,if_neg (by simp)];exact HO2.out.below HBX.out,HBQ.out.trans (HBX.out.mono (by omega)),R7.out.on HBX.out⟩
       case measure=>simp [intOf];omega
      | false =>
       have HBX:=hide hHeld
       have hbx2:=hHeld
       clear hHeld
       rename World=>wz
       have hbzs:=hbx2.size
       have hbd:=hbx2.trans ((below_drew (below_self wz)).mono hbzs)
       have HOD:=hide (HO2.out.below hbd)
       have RX7:=hide (show RowL wz.drew g7 38 (nodC N (.slice D1 n1 c1) (.slice (some ⟨bE,oE,none⟩) m d1)) from R7.out.on hbd)
       have RX9:=hide (show RowL wz.drew (wr.heap.size) 42 (cellsE e) from R9.out.on hbd)
       have HCVz:=hide (fun (k:Nat) (x:Value) (hx:(viwC v.1 (.slice A2 v.2.length c2))[k]?=some x)=>show wz.cell? ⟨bV,oV+j*2+k,none⟩=some x from (cell_same (hbx2.block bV hbVy)).trans (HCVy.out k x hx))
       clear hbx2 hbd
       go_wp2_with fail
       refine wp_region_planN (fun w'=>Below wT.heap.size wz w'∧RowL w' (wr.heap.size) 42 (cellsE e)) [(0,true),(1,true),(2,true),(3,true),(4,true),(5,true),(6,true),(7,true),(8,true),(9,false),(10,false),(11,true)] (by kernel_rfl) (by kernel_rfl) (by kernel_rfl) (by kernel_rfl) rfl (fun _ _ _ _ _ h=>h) ⟨(Below.refl _ _).drew,RX9.out⟩ (fun hHeld=>?_)
       have hwds:wz.heap.size≤wz.drew.heap.size:=Nat.le_refl _
       generalize wz.drew=wd at *
       simp only [planOps,List.filterMap_cons,List.filterMap_nil,List.getElem?_toArray,List.getElem?_cons_succ,List.getElem?_cons_zero,Option.map_some]
       iterate 5
        refine wpPlan_take (v:=?_) (by kernel_rfl) (fun wS hSw=>?_) ?_
        rotate_left
        ·(try dsimp only at hSw);go_simp;(try with_reducible rfl)
        (try simp only [Act.put,pu1,pu2,pu3])
       refine wpPlan_take (v:=?_) (by kernel_rfl) (fun wS hSw=>?_) ?_
       rotate_left
       ·have qx:=(show wS.cell? ⟨bV,oV+j*2,none⟩=some (.int .i64 v.1) from (cell_same (hSw.1.block bV hbV)).trans (HCVz.out 0 _ rfl));go_simp;(try with_reducible rfl)
       (try simp only [Act.put,pu1,pu2,pu3])
       refine wpPlan_take (v:=?_) (by kernel_rfl) (fun wS hSw=>?_) ?_
       rotate_left
       ·(try dsimp only at hSw);go_simp;(try with_reducible rfl)
       (try simp only [Act.put,pu1,pu2,pu3])
       refine wpPlan_take (v:=?_) (by kernel_rfl) (fun wS hSw=>?_) ?_
       rotate_left
       ·have qx:=(hSw.2.cell 0).trans (show (cellsE e)[0]?=some (.int .i64 e.slot) from rfl);go_simp;(try with_reducible rfl)
       (try simp only [Act.put,pu1,pu2,pu3])
       refine wpPlan_take (v:=?_) (by kernel_rfl) (fun wS hSw=>?_) ?_
       rotate_left
       ·(try dsimp only at hSw);go_simp;(try with_reducible rfl)
       (try simp only [Act.put,pu1,pu2,pu3])
       refine wpPlan_call (by kernel_rfl) (fun K hK=>?_)
       have hOld:=hide hHeld
       clear hHeld
       unfold Oper.wp execOp
       have hlit:=litW_fin 15 0 v.1 e.slot wd
       go_simp
       have hba:=below_new (below_self wd) (.cells #[.int .i64 15,.int .i64 0,.int .i64 v.1,.int .i64 e.slot] 87)
       refine hK.out _ _ (⟨hOld.out.1.alloc (by omega) _,hOld.out.2.on hba⟩) (fun hHeld=>?_)
       clear hK K
       clear hlit
       (try simp only [Act.put,pu1,pu2,pu3])
       refine wpPlan_call (by kernel_rfl) (fun K hK=>?_)
       have hOld:=hide hHeld
       clear hHeld
       refine wp_append_OwL (E:=finEn) _ (.tmp 60) (.tmp 69) 85 rfl W1.heap.size wT.heap.size 87 (.agg #[.int .i64 0,.int .i64 0,.int .i64 0,.int .i64 0]) 32 Tryz.underlying85 finW_info rfl (by decide) A6 n6 c6 _ rfl (HOD.out.below hba) (fun b=>wd.heap.size≤b∧b < (wd.alloc (.cells (finC (idleF v.1 e)).toArray 87)).heap.size) (some ⟨wd.heap.size,0,none⟩) 1 1 [idleF v.1 e] rfl (enc_lit1 (fin_R (idleF v.1 e)) wd 87 (Nat.le_refl _)) (fun b hb=>⟨⟨hb.2,fun _ _ _ _=>rfl⟩,fun a ha=>(fun e=>by have h1:=hb.1;rw [e] at h1;have:=HOD.out.ltB a ha;omega)⟩) (by omega) (n6+1) rfl (by omega) (by omega) (by simp;omega) (by simp;omega) ?_
       intro A9 c9 w9 ho9 hb9 hk9
       refine hK.out _ _ (⟨hOld.out.1.trans hb9,hk9 _ _ _ hOld.out.2 (by decide)⟩) (fun hHeld=>?_)
       clear hK K
       have HO9:=hide ho9
       have R79:=hide (hk9 _ _ _ (RX7.out.on hba) (by decide))
       clear ho9 hb9 hk9 hba
       (try simp only [Act.put,pu1,pu2,pu3])
       refine wpPlan_take (v:=?_) (by kernel_rfl) (fun wS hSw=>?_) ?_
       rotate_left
       ·(try dsimp only at hSw);go_simp;(try with_reducible rfl)
       (try simp only [Act.put,pu1,pu2,pu3])
       refine wpPlan_end ?_
       go_wp2_with fail
       go_roundw
       case rel=>exact ⟨i+1,n6+1,A9,c9,by omega,by go_num,rfl,by omega,.inl (by rw [HTF.out,if_pos (by simp),←List.append_assoc];exact HO9.out),HBQ.out.trans (HBX.out.mono (by omega) |>.trans hHeld.1),R79.out⟩
       case measure=>simp [intOf];omega
    ·obtain rfl:m=i:=by omega
     have hnlt2:¬((m:Int) < (m:Int)):=by omega
     have ho:=HO2.out
     rw [List.take_of_length_le (l:=N.ents) (by omega),←HFN.out,←HFS.out] at ho
     go_wp2_with fail
     go_roundw
     case rel=>exact ⟨j+1,n6,A6,c6,by omega,by go_num,rfl,by omega,ho,HBR.out.trans (HBQ.out.mono (by omega))⟩
     case measure=>simp [intOf];omega
  ·obtain rfl:n=j:=by omega
   have hnlt:¬((n:Int) < (n:Int)):=by omega
   go_wp2_with fail
   go_ret
   have ho:=HO.out.read rfl
   rw [List.take_of_length_le (by omega)] at ho
   exact ⟨A3,n3,c3,rfl,ho,HB.out.trans (HBR.out.mono (by omega))⟩
end Go.Proofs.YthdoimgbbabcaaaGreat

