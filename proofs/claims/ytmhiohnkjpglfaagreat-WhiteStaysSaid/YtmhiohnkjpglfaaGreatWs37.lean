import Derived.Test.YtmhiohnkjpglfaaGreatWs34
import Derived.Test.YtmhiohnkjpglfaaGreatWs36
import Derived.Test.YtmhiohnkjpglfaaGreatWs30
import Derived.Test.YtmhiohnkjpglfaaGreatWs17

namespace Go.Proofs.YtmhiohnkjpglfaaGreat
open Go.RowKit Go.Shelf Plain

set_option maxRecDepth 100000 in
theorem nods_sizeW:∀w,(Go.sizeOf 24).run Tryz.prog w=.ok 1 w:=fun w=>by kernel_rfl
theorem finC_one (x:FinV):∀v∈finC x,v.oneCell'=true:=by simp [finC,Value.oneCell']
theorem fin_lo {w:World} {B lo n:Nat} {A:Option Addr} {l:List FinV} (h:RdE finEn w (Under B) A n l) (hA:∀a,A=some a→lo≤a.block):RdE finEn w (fun b=>lo≤b∧b < B) A n l:=⟨h.1,fun hn=>by
 obtain ⟨b,o,e,hb,hc⟩:=h.2 hn
 exact ⟨b,o,e,⟨hA _ e,hb⟩,hc⟩⟩
def FinsF (w:World) (l:List FinV) (e:Ending) (w':World):Prop:=∃A n c,e=.returned (.slice A n c)∧RdE finEn w' (fun b=>w.heap.size≤b∧b < w'.heap.size) A n l∧Below w.heap.size w w'
set_option maxRecDepth 100000 in
set_option maxHeartbeats 8000000 in
theorem WFinds_f {g:GeoQ} {AU AL:Option Addr} {nU cU nL cL B:Nat} {up:List NodV} {ls:List (List NodV)} {ws:List WayV} {TV:List ViewV} (hw:(walkW up [1]).1=ws) (hT:treeV up ls ws=TV) (w:World) (hu:RdE nodEn w (Under B) AU nU up) (h:RdE layEn w (Under B) AL nL ls) (hB:B≤w.heap.size) (hF:FewL ls) (hup:FewU up):Calls Tryz.prog 32 #[.agg (stkC g (.slice AU nU cU) (.slice AL nL cL)).toArray] w (FinsF w (findW up ls TV)):=by
 obtain ⟨W1,hW1⟩:∃W1,(w.alloc (.cells (stkC g (.slice AU nU cU) (.slice AL nL cL)).toArray 29))=W1:=⟨_,rfl⟩
 obtain ⟨r0,hb1,hs1⟩:=rowA1 w _ _ hW1
 have hW1':(w.alloc (.cells #[.int .i64 g.a,.int .i64 g.b,.int .i64 g.c,.int .i64 g.d,.slice AU nU cU,.slice AL nL cL] 29))=W1:=hW1
 have R1:=hide r0
 have HB:=hide hb1
 have hsz0:=hb1.size
 have HU:=hide (hu.under hb1 hB)
 have HL:=hide (h.under hb1 hB)
 have HF:=hide hF
 have HFU:=hide hup
 obtain ⟨n,hn⟩:∃n,ws.length=n:=⟨_,rfl⟩
 have HW:=hide hw
 have HT:=hide hT
 have HN:=hide hn
 have hn24:n≤24:=by have h1:=(walk_ok up [1]).le;rw [hw] at h1;have:=hup.1;omega
 have HFW:=hide (fun v (hv:v∈TV)=>show v.2.length≤100 from by have h1:=tree_few up ls ws v (by rw [hT];exact hv);have:=hF.1;omega)
 unfold stkC
 clear r0 hb1 hW1 hu h hF hup hw hT hn
 go_enter Tryz.func32,Tryz.ntmps32
 go_wp2_with (first|(refine wpList_loadW rfl 29 (.tmp 1) rfl 6 stk_agg stk_size (w.heap.size) 29 rfl (stkC g (.slice AU nU cU) (.slice AL nL cL)) R1.out rfl ?_)|(go_at_call 80;refine (VTree_p HW.out HT.out HN.out W1 HU.out HL.out (by omega) HF.out HFU.out).mono ?_;rintro e1 wT ⟨A4,c4,A5,c5,rfl,hw4,hv5,hbel⟩;clear hw4;replace HB:=hide (HB.out.trans (hbel.mono HB.out.size));replace R1:=hide (R1.out.on hbel);replace HU:=hide (HU.out.under hbel (by omega));replace HL:=hide (HL.out.under hbel (by omega));have hsz2:=hbel.size;have HV:=hide hv5;clear hv5;clear hbel))
 have hWT:W1.heap.size≤wT.heap.size:=by omega
 have hVN:TV.length=n:=HV.out.1
 clear hW1' 
 go_loopw [3,17] (fun v3 v17 wr=>∃(j n3:Nat) (A3:Option Addr) (c3:Nat),j≤n∧v17=.int .i64 j∧v3=.slice A3 n3 c3∧n3≤16*j∧OwE finEn wr wT.heap.size 71 A3 n3 c3 (findW up ls (TV.take j))∧Below wT.heap.size wT wr) (fun _ v17 _=>n - (intOf v17).toNat)
 case atStart=>exact ⟨0,0,none,0,by omega,rfl,rfl,by omega,OwE.nil_ _ _ _ _,Below.refl _ _⟩
 case round =>
  rename World=>wo
  obtain ⟨j,n3,A3,c3,hj,rfl,rfl,hn3,ho,hbr⟩:=hrel
  have hbsz:=hbr.size
  have HBR:=hide hbr
  have HO:=hide ho
  have HB0:=HB
  replace R1:=hide (show RowL wo w.heap.size _ _ from (hbr.block _ (by omega)).trans R1.out)
  replace HU:=hide (und_at HU.out hbr (by omega))
  replace HL:=hide (und_at HL.out hbr (by omega))
  replace HV:=hide (und_at HV.out hbr (by omega))
  clear ho hbr
  by_cases hlt:j < n
  ·obtain ⟨v,hv⟩:∃v,TV[j]?=some v:=⟨_,List.getElem?_eq_getElem (by omega)⟩
   obtain ⟨bV,oV,A2,c2,rfl,hbV,hcV,hrV⟩:=view_get HV.out hv
   have HCV:=hide hcV
   have HVL:=hide (hrV:RdE prEn wo (Under wT.heap.size) A2 v.2.length v.2)
   have hvl:v.2.length≤100:=HFW.out v (List.mem_of_getElem? hv)
   have HFS:=hide (find_succ up ls hv)
   obtain ⟨L,hL⟩:∃L,whitesW up v.1=L:=⟨_,rfl⟩
   have HLW:=hide hL
   have hll:L.length≤16:=by rw [←hL];exact whites_len HFU.out v.1
   have HFN:=hide (show finW up ls v=(L.filter (fun e=>!hidesW ls v.2 e.name)).map (idleF v.1) from by unfold finW;rw [hL])
   have hjn:(j:Int) < (n:Int):=by omega
   clear hcV hrV hv hL
   go_wp2_with (first|(refine wpList_loadX rfl 51 (.tmp 19) rfl 2 viw_agg viw_size bV (oV+j*2) rfl (viwC v.1 (.slice A2 v.2.length c2)) HCV.out rfl ?_)|(refine wpList_storeW rfl 51 (.tmp 7) (.tmp 20) rfl 2 viw_size (wo.heap.size) 51 rfl (viwC 0 (.slice none 0 0)) (viwC v.1 (.slice A2 v.2.length c2)) rfl (RowL.new wo 51 (viwC 0 (.slice none 0 0))) rfl rfl (viwC_one _ _ _ _) ?_;intro wS61 hr61 hg61 hs61;have hzb:=below_stored' hg61;replace HBR:=hide (HBR.out.trans (hzb.mono (by omega)));replace R1:=hide (R1.out.on hzb);replace HU:=hide (HU.out.under hzb (by omega));replace HL:=hide (HL.out.under hzb (by omega));replace HVL:=hide (HVL.out.under hzb (by omega));replace HO:=hide (HO.out.below hzb);have hsz62:=hzb.size;have R7:=hide hr61;have hlt61:=hr61.lt;have q7_0:wS61.cell? ⟨wo.heap.size,0,none⟩=some (.int .i64 v.1):=R7.out.cell 0;clear hzb hr61;clear hg61 hs61)|(refine wpList_loadW rfl 29 (.tmp 1) rfl 6 stk_agg stk_size (w.heap.size) 29 rfl (stkC g (.slice AU nU cU) (.slice AL nL cL)) R1.out rfl ?_)|(refine wpList_loadW rfl 51 (.tmp 7) rfl 2 viw_agg viw_size (wo.heap.size) 51 rfl (viwC v.1 (.slice A2 v.2.length c2)) R7.out rfl ?_)|(go_at_call 81;refine (Whites_any (u:=v.1) (cV:=c2) wS61 HU.out (by omega) HFU.out).mono ?_;rintro e63 wE ⟨A8,m,c8,rfl,hE,hbel⟩;clear q7_0;replace HBR:=hide (HBR.out.trans (hbel.mono (by omega)));replace R1:=hide (R1.out.on hbel);replace HU:=hide (HU.out.under hbel (by omega));replace HL:=hide (HL.out.under hbel (by omega));replace HVL:=hide (HVL.out.under hbel (by omega));replace HO:=hide (HO.out.below hbel);replace R7:=hide (R7.out.on hbel);have hsz64:=hbel.size;have q7_0:wE.cell? ⟨wo.heap.size,0,none⟩=some (.int .i64 v.1):=R7.out.cell 0;rw [HLW.out] at hE;have HE:=hide hE;clear hE;clear hbel))
   have hm16:m≤16:=by have:=HE.out.len;omega
   have hEL:L.length=m:=HE.out.len
   have hWE:wo.heap.size≤wE.heap.size:=by omega
   clear q7_0
   go_loopw [3,25] (fun v3 v25 wr=>∃(i n6:Nat) (A6:Option Addr) (c6:Nat),i≤m∧v25=.int .i64 i∧v3=.slice A6 n6 c6∧n6≤n3+i∧OwE finEn wr wT.heap.size 71 A6 n6 c6 (findW up ls (TV.take j)++((L.take i).filter (fun e=>!hidesW ls v.2 e.name)).map (idleF v.1))∧Below wT.heap.size wE wr∧RowL wr (wo.heap.size) 51 (viwC v.1 (.slice A2 v.2.length c2))∧OwE entEn wr wS61.heap.size 75 A8 m c8 L) (fun _ v25 _=>m - (intOf v25).toNat)
   case atStart=>exact ⟨0,n3,A3,c3,by omega,rfl,rfl,by omega,by simpa using HO.out,Below.refl _ _,R7.out,HE.out⟩
   case round =>
    obtain ⟨i,n6,A6,c6,hi,rfl,rfl,hn6,ho,hbr,hr7,he8⟩:=hrel
    have hbsz2:=hbr.size
    have HBQ:=hide hbr
    have HO2:=hide ho
    replace R1:=hide (show RowL wr w.heap.size _ _ from (hbr.block _ (by omega)).trans R1.out)
    replace HU:=hide (und_at HU.out hbr (by omega))
    replace HL:=hide (und_at HL.out hbr (by omega))
    replace HVL:=hide (und_at HVL.out hbr (by omega))
    clear R7 HE
    have R7:=hide hr7
    have HE:=hide he8
    have hr7l:=hr7.lt
    clear ho hbr hr7 he8
    have q7_0:wr.cell? ⟨wo.heap.size,0,none⟩=some (.int .i64 v.1):=R7.out.cell 0
    by_cases hlt2:i < m
    ·obtain ⟨e,he⟩:∃e,L[i]?=some e:=⟨_,List.getElem?_eq_getElem (by omega)⟩
     obtain ⟨bE,oE,rfl,hbE,hcE⟩:=ent_get ((HE.out.rd rfl).plain) he
     have HCE:=hide hcE
     obtain ⟨h,hh⟩:∃h,hidesW ls v.2 e.name=h:=⟨_,rfl⟩
     have HBH:=hide hh
     have HTF:=hide (take_fin (p:=fun e=>!hidesW ls v.2 e.name) (b:=!h) v.1 he (by rw [hh]))
     have him:(i:Int) < (m:Int):=by omega
     clear he hcE hh
     cases h with
     | true =>
      go_wp2_with (first|(refine wpList_loadX rfl 75 (.tmp 27) rfl 3 entw_agg entw_size bE (oE+i*3) rfl (cellsE e) HCE.out rfl ?_)|(refine wpList_storeW rfl 75 (.tmp 9) (.tmp 28) rfl 3 entw_size (wr.heap.size) 75 rfl [.int .i64 0,.int .i64 0,.string ⟨#[]⟩] (cellsE e) rfl (RowL.new wr 75 [.int .i64 0,.int .i64 0,.string ⟨#[]⟩]) rfl rfl (cellsE_one _) ?_;intro wS121 hr121 hg121 hs121;have hzb:=below_stored' hg121;clear q7_0;replace HBQ:=hide (HBQ.out.trans (hzb.mono (by omega)));replace R1:=hide (R1.out.on hzb);replace R7:=hide (R7.out.on hzb);replace HU:=hide (HU.out.under hzb (by omega));replace HL:=hide (HL.out.under hzb (by omega));replace HVL:=hide (HVL.out.under hzb (by omega));replace HO2:=hide (HO2.out.below hzb);replace HE:=hide (HE.out.below hzb);have hsz122:=hzb.size;have q7_0:wS121.cell? ⟨wo.heap.size,0,none⟩=some (.int .i64 v.1):=R7.out.cell 0;have R9:=hide hr121;have hlt121:=hr121.lt;have q9_2:wS121.cell? ⟨wr.heap.size,2,none⟩=some (.string ⟨e.name.toArray⟩):=R9.out.cell 2;have q9_0:wS121.cell? ⟨wr.heap.size,0,none⟩=some (.int .i64 e.slot):=R9.out.cell 0;clear hzb hr121;clear hg121 hs121)|(refine wpList_loadW rfl 29 (.tmp 1) rfl 6 stk_agg stk_size (w.heap.size) 29 rfl (stkC g (.slice AU nU cU) (.slice AL nL cL)) R1.out rfl ?_)|(refine wpList_loadW rfl 51 (.tmp 7) rfl 2 viw_agg viw_size (wo.heap.size) 51 rfl (viwC v.1 (.slice A2 v.2.length c2)) R7.out rfl ?_)|(go_at_call 78;refine (WHides_b (u:=v.1) (cV:=c2) HBH.out wS121 HU.out HL.out (by omega) HF.out HFU.out HVL.out (by omega) (by omega)).mono ?_;rintro e123 wH ⟨rfl,hbel⟩;clear q9_2 q7_0 q9_0;replace HBQ:=hide (HBQ.out.trans (hbel.mono (by omega)));replace R1:=hide (R1.out.on hbel);replace R7:=hide (R7.out.on hbel);replace HU:=hide (HU.out.under hbel (by omega));replace HL:=hide (HL.out.under hbel (by omega));replace HVL:=hide (HVL.out.under hbel (by omega));replace HO2:=hide (HO2.out.below hbel);replace HE:=hide (HE.out.below hbel);replace R9:=hide (R9.out.on hbel);have hsz124:=hbel.size;have q9_2:wH.cell? ⟨wr.heap.size,2,none⟩=some (.string ⟨e.name.toArray⟩):=R9.out.cell 2;have q7_0:wH.cell? ⟨wo.heap.size,0,none⟩=some (.int .i64 v.1):=R7.out.cell 0;have q9_0:wH.cell? ⟨wr.heap.size,0,none⟩=some (.int .i64 e.slot):=R9.out.cell 0;clear hbel))
      go_roundw
      case rel=>exact ⟨i+1,n6,A6,c6,by omega,by go_num,rfl,by omega,by rw [HTF.out,if_neg (by simp)];exact HO2.out,HBQ.out,R7.out,HE.out⟩
      case measure=>simp [intOf];omega
     | false =>
      go_wp2_with (first|(refine wpList_loadX rfl 75 (.tmp 27) rfl 3 entw_agg entw_size bE (oE+i*3) rfl (cellsE e) HCE.out rfl ?_)|(refine wpList_storeW rfl 75 (.tmp 9) (.tmp 28) rfl 3 entw_size (wr.heap.size) 75 rfl [.int .i64 0,.int .i64 0,.string ⟨#[]⟩] (cellsE e) rfl (RowL.new wr 75 [.int .i64 0,.int .i64 0,.string ⟨#[]⟩]) rfl rfl (cellsE_one _) ?_;intro wS121 hr121 hg121 hs121;have hzb:=below_stored' hg121;clear q7_0;replace HBQ:=hide (HBQ.out.trans (hzb.mono (by omega)));replace R1:=hide (R1.out.on hzb);replace R7:=hide (R7.out.on hzb);replace HU:=hide (HU.out.under hzb (by omega));replace HL:=hide (HL.out.under hzb (by omega));replace HVL:=hide (HVL.out.under hzb (by omega));replace HO2:=hide (HO2.out.below hzb);replace HE:=hide (HE.out.below hzb);have hsz122:=hzb.size;have q7_0:wS121.cell? ⟨wo.heap.size,0,none⟩=some (.int .i64 v.1):=R7.out.cell 0;have R9:=hide hr121;have hlt121:=hr121.lt;have q9_2:wS121.cell? ⟨wr.heap.size,2,none⟩=some (.string ⟨e.name.toArray⟩):=R9.out.cell 2;have q9_0:wS121.cell? ⟨wr.heap.size,0,none⟩=some (.int .i64 e.slot):=R9.out.cell 0;clear hzb hr121;clear hg121 hs121)|(refine wpList_loadW rfl 29 (.tmp 1) rfl 6 stk_agg stk_size (w.heap.size) 29 rfl (stkC g (.slice AU nU cU) (.slice AL nL cL)) R1.out rfl ?_)|(refine wpList_loadW rfl 51 (.tmp 7) rfl 2 viw_agg viw_size (wo.heap.size) 51 rfl (viwC v.1 (.slice A2 v.2.length c2)) R7.out rfl ?_)|(go_at_call 78;refine (WHides_b (u:=v.1) (cV:=c2) HBH.out wS121 HU.out HL.out (by omega) HF.out HFU.out HVL.out (by omega) (by omega)).mono ?_;rintro e123 wH ⟨rfl,hbel⟩;clear q9_2 q7_0 q9_0;replace HBQ:=hide (HBQ.out.trans (hbel.mono (by omega)));replace R1:=hide (R1.out.on hbel);replace R7:=hide (R7.out.on hbel);replace HU:=hide (HU.out.under hbel (by omega));replace HL:=hide (HL.out.under hbel (by omega));replace HVL:=hide (HVL.out.under hbel (by omega));replace HO2:=hide (HO2.out.below hbel);replace HE:=hide (HE.out.below hbel);replace R9:=hide (R9.out.on hbel);have hsz124:=hbel.size;have q9_2:wH.cell? ⟨wr.heap.size,2,none⟩=some (.string ⟨e.name.toArray⟩):=R9.out.cell 2;have q7_0:wH.cell? ⟨wo.heap.size,0,none⟩=some (.int .i64 v.1):=R7.out.cell 0;have q9_0:wH.cell? ⟨wr.heap.size,0,none⟩=some (.int .i64 e.slot):=R9.out.cell 0;have hlit:=litW_fin 15 0 v.1 e.slot wH;clear hbel)|(at_builtin;have hba:=below_new (below_self wH) (.cells #[.int .i64 15,.int .i64 0,.int .i64 v.1,.int .i64 e.slot] 71);refine wpList_append_OwK (E:=finEn) _ rfl (.tmp 35) (.tmp 41) 68 rfl wT.heap.size 71 (.agg #[.int .i64 0,.int .i64 0,.int .i64 0,.int .i64 0]) 32 Tryz.underlying68 finW_info rfl (by decide) A6 n6 c6 _ rfl (HO2.out.below hba) (fun b=>wH.heap.size≤b∧b < (wH.alloc (.cells (finC (idleF v.1 e)).toArray 71)).heap.size) (some ⟨wH.heap.size,0,none⟩) 1 1 [idleF v.1 e] rfl (enc_lit1 (fin_R (idleF v.1 e)) wH 71 (Nat.le_refl _)) (fun b hb=>⟨⟨hb.2,fun _ _ _ _=>rfl⟩,fun a ha=>(fun e=>by have h1:=hb.1;rw [e] at h1;have:=OwE.lt HO2.out a ha;omega)⟩) (by omega) (n6+1) rfl (by omega) (by omega) (by simp;omega) ?_;intro A9 c9 w9 ho9 hb9 hg9;have HO9:=hide ho9;have HB9:=hide ((HBQ.out.alloc (by omega) _).trans hb9);have R79:=hide ((R7.out.on hba).grown hg9 (owe_apart (HO2.out.below hba) (R7.out.on hba) (by decide)));have HE9:=hide (own_other (E:=entEn) ent_any (HE.out.below hba) (HO2.out.below hba) (by decide) hg9);clear ho9 hb9 hg9 hba))
      go_roundw
      case rel=>exact ⟨i+1,n6+1,A9,c9,by omega,by go_num,rfl,by omega,by rw [HTF.out,if_pos (by simp),←List.append_assoc];exact HO9.out,HB9.out,R79.out,HE9.out⟩
      case measure=>simp [intOf];omega
    ·obtain rfl:m=i:=by omega
     have hnlt2:¬((m:Int) < (m:Int)):=by omega
     have ho:=HO2.out
     rw [List.take_of_length_le (l:=L) (by omega),←HFN.out,←HFS.out] at ho
     go_wp2_with fail
     go_roundw
     case rel=>exact ⟨j+1,n6,A6,c6,by omega,by go_num,rfl,by omega,ho,HBR.out.trans (HBQ.out.mono (by omega))⟩
     case measure=>simp [intOf];omega
  ·obtain rfl:n=j:=by omega
   have hnlt:¬((n:Int) < (n:Int)):=by omega
   go_wp2_with fail
   go_ret
   have ho:=(HO.out.rd rfl).plain
   rw [List.take_of_length_le (by omega)] at ho
   exact ⟨A3,n3,c3,rfl,fin_lo ho (fun a ha=>Nat.le_trans HB.out.size (HO.out.baseP a ha)),HB.out.trans (HBR.out.mono (by omega))⟩
theorem WFinds_v {g:GeoQ} {AU AL:Option Addr} {nU cU nL cL B:Nat} {up:List NodV} {ls:List (List NodV)} (w:World) (hu:RdE nodEn w (Under B) AU nU up) (h:RdE layEn w (Under B) AL nL ls) (hB:B≤w.heap.size) (hF:FewL ls) (hup:FewU up):Calls Tryz.prog 32 #[.agg (stkC g (.slice AU nU cU) (.slice AL nL cL)).toArray] w (FinsF w (findW up ls (viewsT up ls))):=WFinds_f rfl rfl w hu h hB hF hup
theorem rise_ltW {l:List EntV} (h:RiseE l l.length):l.Pairwise (fun a b=>a.slot < b.slot):=by
 have key:∀(d i:Nat) (a b:EntV),l[i]?=some a→l[i+d+1]?=some b→a.slot < b.slot:=by
  intro d
  induction d with
  | zero =>
   intro i a b ha hb
   exact (h (i+1) b (List.getElem?_eq_some_iff.1 hb).1 hb).2.2 a (by omega) ha
  | succ d ih =>
   intro i a b ha hb
   have hlt:=(List.getElem?_eq_some_iff.1 hb).1
   obtain ⟨c,hc⟩:∃c,l[i+d+1]?=some c:=⟨_,List.getElem?_eq_getElem (by omega)⟩
   have h1:=ih i a c ha hc
   have h2:=(h (i+(d+1)+1) b hlt hb).2.2 c (by omega) hc
   omega
 rw [List.pairwise_iff_getElem]
 intro i j hi hj hij
 exact key (j - i - 1) i _ _ (List.getElem?_eq_getElem hi) (by rw [show i+(j - i - 1)+1=j from by omega];exact List.getElem?_eq_getElem hj)
theorem rise_of {l:List EntV} (h1:∀e∈l,0≤e.slot∧e.slot < 16) (h2:l.Pairwise (fun a b=>a.slot < b.slot)):RiseE l l.length:=fun i e hi he=>by
 obtain ⟨a1,a2⟩:=h1 e (List.mem_of_getElem? he)
 refine ⟨a1,a2,fun p h0 hp=>?_⟩
 obtain ⟨hi1,e1⟩:=List.getElem?_eq_some_iff.1 hp
 obtain ⟨hi2,e2⟩:=List.getElem?_eq_some_iff.1 he
 have:=(List.pairwise_iff_getElem.1 h2) (i - 1) i hi1 hi2 (by omega)
 rw [e1,e2] at this
 exact this
theorem rise_filter {l:List EntV} (p:EntV→Bool) (h:RiseE l l.length):RiseE (l.filter p) (l.filter p).length:=rise_of (fun e he=>by
 obtain ⟨i,hi⟩:=List.getElem?_of_mem (List.mem_filter.1 he).1
 have h1:=h i e (List.getElem?_eq_some_iff.1 hi).1 hi
 exact ⟨h1.1,h1.2.1⟩) (List.Pairwise.sublist List.filter_sublist (rise_ltW h))
theorem cutW_get (keep:Int→EntV→Bool) {up:List NodV} {k:Nat} {x:NodV} (h:up[k]?=some x):(cutU keep up)[k]?=some {x with ents:=x.ents.filter (keep ((k:Int)+1))}:=by
 unfold cutU
 rw [List.getElem?_mapIdx,h]
 rfl
theorem cutW_plain {up:List NodV} (h:FewU up) (keep:Int→EntV→Bool):FewU (cutU keep up):=by
 refine ⟨by rw [cutW_len];exact h.1,fun y hy=>?_⟩
 obtain ⟨k,hk⟩:=List.getElem?_of_mem hy
 cases hx:up[k]? with
 | none =>
  unfold cutU at hk
  rw [List.getElem?_mapIdx,hx] at hk
  cases hk
 | some x =>
  rw [cutW_get keep hx] at hk
  have e:=Option.some.inj hk
  subst e
  obtain ⟨p1,p2,p3,p4,p5,p6,p7⟩:=h.2 x (List.mem_of_getElem? hx)
  exact ⟨rise_filter _ p1,p2,p3,p4,Nat.le_trans (List.length_filter_le _ _) p5,p6,fun e he=>p7 e (List.mem_filter.1 he).1⟩
theorem cutW_zero (up:List NodV):cutU (keepW []) up=up:=by
 apply List.ext_getElem?
 intro k
 cases hx:up[k]? with
 | none =>
  unfold cutU
  rw [List.getElem?_mapIdx,hx]
  rfl
 | some x =>
  rw [cutW_get _ hx]
  have:x.ents.filter (keepW [] ((k:Int)+1))=x.ents:=by
   rw [List.filter_eq_self]
   intro e _
   simp [keepW]
  rw [this]
theorem keep_take {F:List FinV} {j:Nat} {f:FinV} (h:F[j]?=some f) (i:Int) (e:EntV):keepW (F.take (j+1)) i e=(keepW (F.take j) i e&&!((⟨15,0,i,e.slot⟩:FinV)==f)):=by
 unfold keepW
 rw [List.take_add_one,h,Option.toList_some,List.contains_eq_any_beq,List.contains_eq_any_beq,List.any_append,Bool.not_or]
 congr 2
 simp
theorem cutW_put {up:List NodV} {F:List FinV} {j k:Nat} {x:NodV} {s:Int} (hf:F[j]?=some ⟨15,0,(k:Int)+1,s⟩) (hx:up[k]?=some x):cutU (keepW (F.take (j+1))) up=(cutU (keepW (F.take j)) up).set k {x with ents:=(x.ents.filter (keepW (F.take j) ((k:Int)+1))).filter (fun e=>!(e.slot==s))}:=by
 apply List.ext_getElem?
 intro i
 rw [List.getElem?_set]
 by_cases hik:k=i
 ·subst hik
  have hk:=(List.getElem?_eq_some_iff.1 hx).1
  rw [if_pos rfl,if_pos (by rw [cutW_len];exact hk),cutW_get _ hx,List.filter_filter]
  congr 2
  refine List.filter_congr fun e _=>?_
  rw [keep_take hf,Bool.and_comm]
  congr 2
  rw [Bool.eq_iff_iff]
  simp
 ·rw [if_neg hik]
  cases hy:up[i]? with
  | none =>
   unfold cutU
   rw [List.getElem?_mapIdx,List.getElem?_mapIdx,hy]
   rfl
  | some y =>
   rw [cutW_get _ hy,cutW_get _ hy]
   congr 2
   refine List.filter_congr fun e _=>?_
   rw [keep_take hf]
   have:((⟨15,0,(i:Int)+1,e.slot⟩:FinV)==⟨15,0,(k:Int)+1,s⟩)=false:=by
    rw [beq_eq_false_iff_ne]
    intro h
    injection h with _ _ h3 _
    omega
   rw [this]
   simp
theorem fin_at {up:List NodV} {ls:List (List NodV)} {j:Nat} {f:FinV} (h:(findW up ls (viewsT up ls))[j]?=some f):∃(k:Nat) (x:NodV) (s:Int),f=⟨15,0,(k:Int)+1,s⟩∧up[k]?=some x:=by
 have hm:=List.mem_of_getElem? h
 unfold findW at hm
 obtain ⟨v,hv,hm⟩:=List.mem_flatMap.1 hm
 unfold finW at hm
 obtain ⟨e,he,rfl⟩:=List.mem_map.1 hm
 have h1:=(List.mem_filter.1 he).1
 unfold whitesW at h1
 have h2:=(List.mem_filter.1 h1).1
 by_cases hin:1≤v.1∧v.1≤(up.length:Int)
 ·obtain ⟨k,x,e1,e2,-⟩:=nodAt_in hin
  exact ⟨k,x,e.slot,by unfold idleF;rw [e1],e2⟩
 ·rw [nodAt_out hin] at h2
  simp [nod0] at h2
theorem OwD.widen {α:Type} {E:Enc α} {D D':Nat→Prop} {w:World} {base e n c:Nat} {A:Option Addr} {l:List α} (h:OwD E D w base e A n c l) (h1:∀b,D b→D' b) (h2:∀b,D' b→b < w.heap.size∧∀a,A=some a→b≠a.block):OwD E D' w base e A n c l:=by
 obtain ⟨css,hr,hc,hl,-⟩:=h
 exact ⟨css,hr,⟨hc.1,fun i cs x h3 h4=>E.mono (hc.2 i cs x h3 h4) (fun _ _=>rfl) h1⟩,hl,h2⟩
def ButR (w:World) (A:Option Addr) (b:Nat):Prop:=b < w.heap.size∧∀a,A=some a→b≠a.block
theorem set_partW {L cs:List Value} {p j k:Nat} {v:Value} (h:(L.drop p).take k=cs) (hl:p+k≤L.length) (hj:j < k):L.set (p+j) v=splice L p (cs.set j v):=by
 have hcl:cs.length=k:=by rw [←h,List.length_take,List.length_drop];omega
 have e1:L=L.take p++(cs++L.drop (p+k)):=by
  rw [←h,←List.drop_drop,List.take_append_drop,List.take_append_drop]
 have hp:(L.take p).length=p:=by rw [List.length_take];omega
 have e2:splice L p (cs.set j v)=L.take p++(cs.set j v++L.drop (p+k)):=by
  unfold splice
  rw [List.length_set,hcl]
 rw [e2]
 conv=>lhs;rw [e1]
 rw [List.set_append_right _ _ (by rw [hp];omega),hp,show p+j - p=j from by omega,List.set_append_left _ _ (by omega)]
theorem ents_put {w w':World} {base g n c i m d:Nat} {C:Option Addr} {l:List NodV} {x:NodV} {es:List EntV} {cur:List Value} (h:OwD nodEn (ButR w (some ⟨g,0,none⟩)) w base 67 (some ⟨g,0,none⟩) n c l) (hx:l[i]?=some x) (hm:m≤d) (he:RdE entEn w (ButR w (some ⟨g,0,none⟩)) C m es) (hcur:RowL w g 67 cur) (hr:RowL w' g 67 (cur.set (i*13+5) (.slice C m d))) (hg:w.grownBy w' (some g)) (hs:w'.heap.size=w.heap.size):OwD nodEn (ButR w' (some ⟨g,0,none⟩)) w' base 67 (some ⟨g,0,none⟩) n c (l.set i {x with ents:=es}):=by
 have hi:i < n:=by have h1:=(List.getElem?_eq_some_iff.1 hx).1;have h2:=h.len;omega
 obtain ⟨cur',cs,hr',hR,htk,hlen⟩:=h.at hx
 have ecur:cur'=cur:=by
  have:=hr'.symm.trans hcur
  injection this with this
  injection this with this
  simpa using this
 subst ecur
 obtain ⟨A,a,b,C1,d1,e1,h1,h2,h3,h4,h5⟩:=hR
 have htk':(cur'.drop (i*13)).take 13=cs:=htk
 have hlen':i*13+13≤cur'.length:=hlen
 rw [set_partW (j:=5) (v:=.slice C m d) htk' hlen' (by decide),h1] at hr
 have hp:=h.put hi (show NodR w (ButR w (some ⟨g,0,none⟩)) (nodC {x with ents:=es} (.slice A a b) (.slice C m d)) {x with ents:=es} from ⟨A,a,b,C,m,d,rfl,h2,h3,hm,he⟩) hcur hr hg
 exact hp.widen (fun b hb=>⟨by rw [hs];exact hb.1,hb.2⟩) (fun b hb=>hb)
set_option maxRecDepth 100000 in
set_option maxHeartbeats 16000000 in
theorem law_WhiteStays {g:GeoQ} {AU AL:Option Addr} {nU cU nL cL:Nat} {up:List NodV} {ls:List (List NodV)} (w:World) (hu:RdE nodEn w (Under w.heap.size) AU nU up) (h:RdE layEn w (Under w.heap.size) AL nL ls) (hfu:FineN up) (hfl:∀ns∈ls,FineN ns) :
  Calls Tryz.prog 6 #[.agg (stkC g (.slice AU nU cU) (.slice AL nL cL)).toArray] w (LawOk w):=by
 obtain ⟨W1,hW1⟩:∃W1,(w.alloc (.cells (stkC g (.slice AU nU cU) (.slice AL nL cL)).toArray 29))=W1:=⟨_,rfl⟩
 obtain ⟨r0,hb1,hs1⟩:=rowA1 w _ _ hW1
 have hW1':(w.alloc (.cells #[.int .i64 g.a,.int .i64 g.b,.int .i64 g.c,.int .i64 g.d,.slice AU nU cU,.slice AL nL cL] 29))=W1:=hW1
 have R1:=hide r0
 have HB:=hide hb1
 have hsz0:=hb1.size
 have HU:=hide (hu.under hb1 (Nat.le_refl _))
 have HL:=hide (h.under hb1 (Nat.le_refl _))
 have HFN:=hide hfu
 have HFL:=hide hfl
 have q1_0:W1.cell? ⟨w.heap.size,0,none⟩=some (.int .i64 g.a):=R1.out.cell 0
 have q1_1:W1.cell? ⟨w.heap.size,1,none⟩=some (.int .i64 g.b):=R1.out.cell 1
 have q1_2:W1.cell? ⟨w.heap.size,2,none⟩=some (.int .i64 g.c):=R1.out.cell 2
 have q1_3:W1.cell? ⟨w.heap.size,3,none⟩=some (.int .i64 g.d):=R1.out.cell 3
 have q1_4:W1.cell? ⟨w.heap.size,4,none⟩=some (.slice AU nU cU):=R1.out.cell 4
 have q1_5:W1.cell? ⟨w.heap.size,5,none⟩=some (.slice AL nL cL):=R1.out.cell 5
 unfold stkC
 have hs1':w.heap.size+1≤W1.heap.size:=by omega
 clear r0 hb1 hW1 hu h hfu hfl hs1
 go_enter Tryz.func6,Tryz.ntmps6
 go_wp2_with (first|(refine wpList_loadW rfl 29 (.tmp 1) rfl 6 stk_agg stk_size (w.heap.size) 29 rfl (stkC g (.slice AU nU cU) (.slice AL nL cL)) R1.out rfl ?_))
 clear hW1'
 refine (PStackM_any (by omega) W1 (und_up HU.out (by omega)) (und_up HL.out (by omega)) HFN.out HFL.out).mono ?_
 rintro e w2 ⟨p,rfl,hb2,hq⟩
 have HQ:=hide hq
 clear q1_0 q1_1 q1_2 q1_3 q1_4 q1_5
 replace HB:=hide (HB.out.trans (hb2.mono HB.out.size))
 replace R1:=hide (R1.out.on hb2)
 replace HU:=hide (HU.out.under hb2 (by omega))
 replace HL:=hide (HL.out.under hb2 (by omega))
 have hsz1:=hb2.size
 have q1_0:w2.cell? ⟨w.heap.size,0,none⟩=some (.int .i64 g.a):=R1.out.cell 0
 have q1_1:w2.cell? ⟨w.heap.size,1,none⟩=some (.int .i64 g.b):=R1.out.cell 1
 have q1_2:w2.cell? ⟨w.heap.size,2,none⟩=some (.int .i64 g.c):=R1.out.cell 2
 have q1_3:w2.cell? ⟨w.heap.size,3,none⟩=some (.int .i64 g.d):=R1.out.cell 3
 have q1_4:w2.cell? ⟨w.heap.size,4,none⟩=some (.slice AU nU cU):=R1.out.cell 4
 have q1_5:w2.cell? ⟨w.heap.size,5,none⟩=some (.slice AL nL cL):=R1.out.cell 5
 clear hq hb2
 cases p
 ·go_wp2_with (go_at_call 30;refine (awake20_any _).mono ?_;rintro e98 wz ⟨rfl,hbz⟩;replace HB:=hide (HB.out.trans (hbz.mono HB.out.size));clear hbz)
  go_ret
  exact LawOk.of HB.out
 obtain ⟨hF,hB10⟩:=HQ.out (by first|rfl|trivial)
 have HF:=hide hF
 have HFU:=hide (show FewU up from ⟨by have h1:=hB10.1;omega,hB10.2⟩)
 have hul:up.length=nU:=HU.out.1
 have hn24:nU≤24:=by have:=HFU.out.1;omega
 clear hF hB10 HQ HFN HFL
 go_wp2_with fail
 refine (Once_any w2 HU.out (by omega) HFU.out).mono ?_
 rintro e w3 ⟨b,rfl,hb3,hon⟩
 have HON:=hide hon
 clear q1_0 q1_1 q1_2 q1_3 q1_4 q1_5
 replace HB:=hide (HB.out.trans (hb3.mono HB.out.size))
 replace R1:=hide (R1.out.on hb3)
 replace HU:=hide (HU.out.under hb3 (by omega))
 replace HL:=hide (HL.out.under hb3 (by omega))
 have hsz2:=hb3.size
 have q1_0:w3.cell? ⟨w.heap.size,0,none⟩=some (.int .i64 g.a):=R1.out.cell 0
 have q1_1:w3.cell? ⟨w.heap.size,1,none⟩=some (.int .i64 g.b):=R1.out.cell 1
 have q1_2:w3.cell? ⟨w.heap.size,2,none⟩=some (.int .i64 g.c):=R1.out.cell 2
 have q1_3:w3.cell? ⟨w.heap.size,3,none⟩=some (.int .i64 g.d):=R1.out.cell 3
 have q1_4:w3.cell? ⟨w.heap.size,4,none⟩=some (.slice AU nU cU):=R1.out.cell 4
 have q1_5:w3.cell? ⟨w.heap.size,5,none⟩=some (.slice AL nL cL):=R1.out.cell 5
 clear hb3 hon
 cases b
 rotate_left
 ·go_wp2_with (go_at_call 30;refine (awake20_any _).mono ?_;rintro e98 wz ⟨rfl,hbz⟩;replace HB:=hide (HB.out.trans (hbz.mono HB.out.size));clear hbz)
  go_ret
  exact LawOk.of HB.out
 have HONE:=hide (HON.out rfl)
 clear HON
 go_upto_region 5 with (first|(refine wpList_loadW rfl 29 (.tmp 1) rfl 6 stk_agg stk_size (w.heap.size) 29 rfl (stkC g (.slice AU nU cU) (.slice AL nL cL)) R1.out rfl ?_)|(refine wpList_storeW rfl 29 (.tmp 3) (.tmp 15) rfl 6 stk_size (w3.heap.size) 29 rfl (stkC ⟨0,0,0,0⟩ (.slice none 0 0) (.slice none 0 0)) (stkC g (.slice AU nU cU) (.slice AL nL cL)) rfl (RowL.new w3 29 (stkC ⟨0,0,0,0⟩ (.slice none 0 0) (.slice none 0 0))) rfl rfl (stkC_one _ _ _ _ _ _ _) ?_;intro wS3 hr3 hg3 hs3;have hzb:=below_stored' hg3;clear q1_0 q1_1 q1_2 q1_3 q1_4 q1_5;replace HB:=hide (HB.out.trans (hzb.mono HB.out.size));replace R1:=hide (R1.out.on hzb);replace HU:=hide (HU.out.under hzb (by omega));replace HL:=hide (HL.out.under hzb (by omega));have hsz4:=hzb.size;have q1_0:wS3.cell? ⟨w.heap.size,0,none⟩=some (.int .i64 g.a):=R1.out.cell 0;have q1_1:wS3.cell? ⟨w.heap.size,1,none⟩=some (.int .i64 g.b):=R1.out.cell 1;have q1_2:wS3.cell? ⟨w.heap.size,2,none⟩=some (.int .i64 g.c):=R1.out.cell 2;have q1_3:wS3.cell? ⟨w.heap.size,3,none⟩=some (.int .i64 g.d):=R1.out.cell 3;have q1_4:wS3.cell? ⟨w.heap.size,4,none⟩=some (.slice AU nU cU):=R1.out.cell 4;have q1_5:wS3.cell? ⟨w.heap.size,5,none⟩=some (.slice AL nL cL):=R1.out.cell 5;have R3:=hide hr3;have hlt3:=hr3.lt;have q3_4:wS3.cell? ⟨w3.heap.size,4,none⟩=some (.slice AU nU cU):=R3.out.cell 4;have q3_0:wS3.cell? ⟨w3.heap.size,0,none⟩=some (.int .i64 g.a):=R3.out.cell 0;have q3_1:wS3.cell? ⟨w3.heap.size,1,none⟩=some (.int .i64 g.b):=R3.out.cell 1;have q3_2:wS3.cell? ⟨w3.heap.size,2,none⟩=some (.int .i64 g.c):=R3.out.cell 2;have q3_3:wS3.cell? ⟨w3.heap.size,3,none⟩=some (.int .i64 g.d):=R3.out.cell 3;have q3_5:wS3.cell? ⟨w3.heap.size,5,none⟩=some (.slice AL nL cL):=R3.out.cell 5;clear hzb hr3;clear hg3 hs3)|(go_at_call 31;refine (CloneNod_d (B:=w.heap.size) wS3 HU.out (by omega) (by have:=HU.out.1;have:=HFU.out.1;omega)).mono ?_;rintro e5 wC ⟨A8,c8,rfl,h8,hbel⟩;clear q1_0 q1_1 q1_2 q1_3 q1_4 q1_5 q3_4 q3_0 q3_1 q3_2 q3_3 q3_5;replace HB:=hide (HB.out.trans (hbel.mono HB.out.size));replace R1:=hide (R1.out.on hbel);replace HU:=hide (HU.out.under hbel (by omega));replace HL:=hide (HL.out.under hbel (by omega));replace R3:=hide (R3.out.on hbel);have hsz6:=hbel.size;have q1_0:wC.cell? ⟨w.heap.size,0,none⟩=some (.int .i64 g.a):=R1.out.cell 0;have q1_1:wC.cell? ⟨w.heap.size,1,none⟩=some (.int .i64 g.b):=R1.out.cell 1;have q1_2:wC.cell? ⟨w.heap.size,2,none⟩=some (.int .i64 g.c):=R1.out.cell 2;have q1_3:wC.cell? ⟨w.heap.size,3,none⟩=some (.int .i64 g.d):=R1.out.cell 3;have q1_4:wC.cell? ⟨w.heap.size,4,none⟩=some (.slice AU nU cU):=R1.out.cell 4;have q1_5:wC.cell? ⟨w.heap.size,5,none⟩=some (.slice AL nL cL):=R1.out.cell 5;have q3_4:wC.cell? ⟨w3.heap.size,4,none⟩=some (.slice AU nU cU):=R3.out.cell 4;have q3_0:wC.cell? ⟨w3.heap.size,0,none⟩=some (.int .i64 g.a):=R3.out.cell 0;have q3_1:wC.cell? ⟨w3.heap.size,1,none⟩=some (.int .i64 g.b):=R3.out.cell 1;have q3_2:wC.cell? ⟨w3.heap.size,2,none⟩=some (.int .i64 g.c):=R3.out.cell 2;have q3_3:wC.cell? ⟨w3.heap.size,3,none⟩=some (.int .i64 g.d):=R3.out.cell 3;have q3_5:wC.cell? ⟨w3.heap.size,5,none⟩=some (.slice AL nL cL):=R3.out.cell 5;have H8:=hide h8;clear h8;clear hbel)|(refine wpList_storeV rfl 24 (.tmp 21) (.tmp 19) rfl nods_sizeW (w3.heap.size) 4 29 rfl (.slice A8 nU c8) rfl rfl rfl (stkC g (.slice AU nU cU) (.slice AL nL cL)) R3.out (by show 4 < 6;omega) ?_;intro wS7 hr7 hg7 hs7;replace hr7:RowL wS7 (w3.heap.size) 29 [.int .i64 g.a,.int .i64 g.b,.int .i64 g.c,.int .i64 g.d,.slice A8 nU c8,.slice AL nL cL]:=hr7;clear q1_0 q1_1 q1_2 q1_3 q1_4 q1_5 q3_4 q3_0 q3_1 q3_2 q3_3 q3_5;replace HB:=hide (HB.out.grown hg7 (by omega) (pu4 (by omega)));replace R1:=hide (R1.out.grown hg7 (pu5 (by omega)));replace HU:=hide (und_grown HU.out hg7 (by omega) (by omega));replace HL:=hide (und_grown HL.out hg7 (by omega) (by omega));replace H8:=hide (H8.out.grown hg7 (fun k hk=>by have:=Option.some.inj hk;subst this;exact ⟨by unfold Under;omega,fun a ha=>by have:=H8.out.base8 a ha;omega⟩));have hsz8:=hg7.size;replace R3:=hide hr7;have q1_0:wS7.cell? ⟨w.heap.size,0,none⟩=some (.int .i64 g.a):=R1.out.cell 0;have q1_1:wS7.cell? ⟨w.heap.size,1,none⟩=some (.int .i64 g.b):=R1.out.cell 1;have q1_2:wS7.cell? ⟨w.heap.size,2,none⟩=some (.int .i64 g.c):=R1.out.cell 2;have q1_3:wS7.cell? ⟨w.heap.size,3,none⟩=some (.int .i64 g.d):=R1.out.cell 3;have q1_4:wS7.cell? ⟨w.heap.size,4,none⟩=some (.slice AU nU cU):=R1.out.cell 4;have q1_5:wS7.cell? ⟨w.heap.size,5,none⟩=some (.slice AL nL cL):=R1.out.cell 5;have q3_4:wS7.cell? ⟨w3.heap.size,4,none⟩=some (.slice A8 nU c8):=R3.out.cell 4;have q3_0:wS7.cell? ⟨w3.heap.size,0,none⟩=some (.int .i64 g.a):=R3.out.cell 0;have q3_1:wS7.cell? ⟨w3.heap.size,1,none⟩=some (.int .i64 g.b):=R3.out.cell 1;have q3_2:wS7.cell? ⟨w3.heap.size,2,none⟩=some (.int .i64 g.c):=R3.out.cell 2;have q3_3:wS7.cell? ⟨w3.heap.size,3,none⟩=some (.int .i64 g.d):=R3.out.cell 3;have q3_5:wS7.cell? ⟨w3.heap.size,5,none⟩=some (.slice AL nL cL):=R3.out.cell 5;clear hr7 hg7 hs7))
 have hg8w:∀a,A8=some a→wS3.heap.size≤a.block∧a.block < wS7.heap.size:=fun a ha=>⟨H8.out.base8 a ha,H8.out.lt a ha⟩
 go_wp2_with (first|(refine wpList_loadW rfl 29 (.tmp 1) rfl 6 stk_agg stk_size (w.heap.size) 29 rfl (stkC g (.slice AU nU cU) (.slice AL nL cL)) R1.out rfl ?_)|(go_at_call 32;refine (WFinds_v wS7 HU.out HL.out (by omega) HF.out HFU.out).mono ?_;rintro e9 wT ⟨A5,n5,c5,rfl,h5,hbel⟩;clear q1_0 q1_1 q1_2 q1_3 q1_4 q1_5 q3_4 q3_0 q3_1 q3_2 q3_3 q3_5;replace HB:=hide (HB.out.trans (hbel.mono HB.out.size));replace R1:=hide (R1.out.on hbel);replace HU:=hide (HU.out.under hbel (by omega));replace HL:=hide (HL.out.under hbel (by omega));replace R3:=hide (R3.out.on hbel);replace H8:=hide (H8.out.grown (grown_below hbel) (by simp));have hsz10:=hbel.size;have q1_0:wT.cell? ⟨w.heap.size,0,none⟩=some (.int .i64 g.a):=R1.out.cell 0;have q1_1:wT.cell? ⟨w.heap.size,1,none⟩=some (.int .i64 g.b):=R1.out.cell 1;have q1_2:wT.cell? ⟨w.heap.size,2,none⟩=some (.int .i64 g.c):=R1.out.cell 2;have q1_3:wT.cell? ⟨w.heap.size,3,none⟩=some (.int .i64 g.d):=R1.out.cell 3;have q1_4:wT.cell? ⟨w.heap.size,4,none⟩=some (.slice AU nU cU):=R1.out.cell 4;have q1_5:wT.cell? ⟨w.heap.size,5,none⟩=some (.slice AL nL cL):=R1.out.cell 5;have q3_4:wT.cell? ⟨w3.heap.size,4,none⟩=some (.slice A8 nU c8):=R3.out.cell 4;have q3_0:wT.cell? ⟨w3.heap.size,0,none⟩=some (.int .i64 g.a):=R3.out.cell 0;have q3_1:wT.cell? ⟨w3.heap.size,1,none⟩=some (.int .i64 g.b):=R3.out.cell 1;have q3_2:wT.cell? ⟨w3.heap.size,2,none⟩=some (.int .i64 g.c):=R3.out.cell 2;have q3_3:wT.cell? ⟨w3.heap.size,3,none⟩=some (.int .i64 g.d):=R3.out.cell 3;have q3_5:wT.cell? ⟨w3.heap.size,5,none⟩=some (.slice AL nL cL):=R3.out.cell 5;have HF5:=hide h5;clear h5;clear hbel))
 have HG8:=hide hg8w
 obtain ⟨F,hFd⟩:∃F,findW up ls (viewsT up ls)=F:=⟨_,rfl⟩
 rw [hFd] at HF5
 have HFD:=hide hFd
 have hFl:F.length=n5:=HF5.out.1
 have hn5:n5≤1000:=by
  rw [←hFl,←hFd]
  have h1:=find_few (ls:=ls) HFU.out (viewsT up ls)
  have h2:(viewsT up ls).length=(walkW up [1]).1.length:=tree_len up ls _
  have h3:=(walk_ok up [1]).le
  omega
 have H8':=hide (OwD.widen (D':=ButR wT A8) H8.out (fun b hb=>⟨by unfold Under at hb;omega,fun a ha=>by have:=HG8.out a ha;unfold Under at hb;omega⟩) (fun b hb=>hb))
 have hXw:w.heap.size < w3.heap.size:=by omega
 have hX3:w3.heap.size < wS3.heap.size:=by omega
 have hXC:wS3.heap.size≤wS7.heap.size:=by omega
 have hCT:wS7.heap.size≤wT.heap.size:=by omega
 clear q1_0 q1_1 q1_2 q1_3 q1_4 q1_5 q3_4 q3_0 q3_1 q3_2 q3_3 q3_5 hFd hg8w H8
 generalize w3.heap.size=g3 at *
 go_wp2_with fail
 go_loopw [25] (fun v25 wr=>∃j:Nat,j≤n5∧v25=.int .i64 j∧OwD nodEn (ButR wr A8) wr wS3.heap.size 67 A8 nU c8 (cutU (keepW (F.take j)) up)∧wT.grownBy wr (A8.map (fun a=>a.block))) (fun v25 _=>n5 - (intOf v25).toNat)
 case atStart=>exact ⟨0,by omega,rfl,by rw [List.take_zero,cutW_zero];exact H8'.out,World.grownBy.refl _ _⟩
 case round =>
  obtain ⟨j,hj,rfl,ho,hbr⟩:=hrel
  have hbsz:=hbr.size
  have HBQ:=hide hbr
  have HO:=hide ho
  have hne:∀b,b < wS3.heap.size→A8.map (fun a=>a.block)≠some b:=fun b hb e=>by
   obtain ⟨a,ha,rfl⟩:=Option.map_eq_some_iff.1 e
   have:=(HG8.out a ha).1
   omega
  replace R1:=hide (show RowL wr w.heap.size _ _ from R1.out.grown hbr (fun e=>hne _ (by omega) e.symm))
  replace R3:=hide (show RowL wr g3 _ _ from R3.out.grown hbr (fun e=>hne _ (by omega) e.symm))
  replace HU:=hide (RdE.mono HU.out (w':=wr) (D':=Under w.heap.size) (fun b hb=>hbr.block b (by unfold Under at hb;omega) (fun e=>hne b (by unfold Under at hb;omega) e.symm)) (fun _ h=>h))
  replace HL:=hide (RdE.mono HL.out (w':=wr) (D':=Under w.heap.size) (fun b hb=>hbr.block b (by unfold Under at hb;omega) (fun e=>hne b (by unfold Under at hb;omega) e.symm)) (fun _ h=>h))
  clear ho hbr hne
  by_cases hlt:j < n5
  ·obtain ⟨f,hfj⟩:∃f,F[j]?=some f:=⟨_,List.getElem?_eq_getElem (by omega)⟩
   obtain ⟨k,x,s,rfl,hx⟩:=fin_at (by rw [HFD.out];exact hfj)
   have hkn:k < nU:=by rw [←hul];exact (List.getElem?_eq_some_iff.1 hx).1
   obtain ⟨b5,o5,rfl,hb5,hc5⟩:=HF5.out.get_fin hfj
   obtain ⟨g8,rfl,hg8,hg8l⟩:=HO.out.some_ (by omega)
   have hg8C:=(HG8.out _ rfl).2
   have hb5g:b5≠g8:=by have h1:wS7.heap.size≤b5:=hb5.1;have h2:g8 < wS7.heap.size:=hg8C;omega
   have HCF:=hide (fun i v (hv:(finC ⟨15,0,(k:Int)+1,s⟩)[i]?=some v)=>(HBQ.out.cell (hc5 i v hv) (fun e=>hb5g (Option.some.inj e))))
   have hy:=cutW_get (keepW (F.take j)) hx
   obtain ⟨cur,cs,hcur,hR,htk,hlen⟩:=HO.out.at hy
   obtain ⟨D0,n0,k0,C0,m0,d0,rfl,-,-,hmd,hen⟩:=hR
   have hlen':k*13+13≤cur.length:=hlen
   have HCUR:=hide hcur
   have HEN:=hide hen
   have HY:=hide hy
   have HPUT:=hide (cutW_put hfj hx)
   have qe:wr.cell? ⟨g8,k*13+5,none⟩=some (.slice C0 m0 d0):=(hcur.cell (k*13+5)).trans (sub_cell (k:=13) htk rfl)
   have hm16:m0≤16:=by rw [←hen.1];have h1:=(HFU.out.2 x (List.mem_of_getElem? hx)).2.2.2.2.1;exact Nat.le_trans (List.length_filter_le _ _) h1
   have hjn:(j:Int) < (n5:Int):=by omega
   have hkI:(k:Int) < (nU:Int):=by omega
   have hk1:¬((k:Int)+1 < 1):=by omega
   have hk2:¬((nU:Int) < (k:Int)+1):=by omega
   have hw1:IntKind.i64.wrap ((k:Int)+1 - 1)=(k:Int):=by rw [show (k:Int)+1 - 1=(k:Int) from by omega];exact IntWalk.i64_in _ (by omega)
   have hwk:IntKind.i64.wrap (k:Int)=(k:Int):=IntWalk.i64_in _ (by omega)
   clear hfj hx hc5 hcur htk hlen hy hen hb5
   have HB7:=hide (below_self wr)
   go_upto_region 8 with (first|(refine wpList_loadX rfl 71 (.tmp 27) rfl 4 fin_agg fin_size b5 (o5+j*4) rfl (finC ⟨15,0,(k:Int)+1,s⟩) HCF.out rfl ?_)|(refine wpList_storeW rfl 71 (.tmp 5) (.tmp 28) rfl 4 fin_size (wr.heap.size) 71 rfl [.int .i64 0,.int .i64 0,.int .i64 0,.int .i64 0] (finC ⟨15,0,(k:Int)+1,s⟩) rfl (RowL.new wr 71 [.int .i64 0,.int .i64 0,.int .i64 0,.int .i64 0]) rfl rfl (finC_one _) ?_;intro wS121 hr121 hg121 hs121;have hzb:=below_stored' hg121;replace HB7:=hide (HB7.out.trans (hzb.mono HB7.out.size));replace R3:=hide (R3.out.on hzb);replace HO:=hide (HO.out.grown (grown_below hzb) (by simp));have hsz122:=hzb.size;have R5:=hide hr121;have hlt121:=hr121.lt;have q5_2:wS121.cell? ⟨wr.heap.size,2,none⟩=some (.int .i64 ((k:Int)+1)):=R5.out.cell 2;clear hzb hr121;clear hg121 hs121))
   have q3_4:wS121.cell? ⟨g3,4,none⟩=some (.slice (some ⟨g8,0,none⟩) nU c8):=R3.out.cell 4
   have qe7:wS121.cell? ⟨g8,k*13+5,none⟩=some (.slice C0 m0 d0):=(HB7.out.cell (p:=⟨g8,k*13+5,none⟩) (by show g8 < wr.heap.size;omega)).trans qe
   go_wp2_with fail
   refine (CloneEnt_any wS121 (RdE.mono HEN.out (w':=wS121) (D':=Under wS121.heap.size) (fun b hb=>HB7.out.block b hb.1) (fun b hb=>Nat.lt_of_lt_of_le hb.1 HB7.out.size)) (by omega)).mono ?_
   rintro e9 wA ⟨A7,c7,rfl,ho7,hbA⟩
   have hrow7:=own_flat ho7
   have hblk7:∀b,(Value.slice A7 m0 c7).ownBlock=some b→wS121.heap.size≤b∧b < wA.heap.size:=fun b hb=>hrow7.lt b hb
   have HBA:=hide (HB7.out.trans (hbA.mono HB7.out.size))
   have R5A:=hide (R5.out.on hbA)
   have hszA:=hbA.size
   have hlt5:=R5.out.lt
   have HA7:=hide hbA
   clear qe qe7 q3_4 hbA
   go_wp2_with fail
   refine (DeleteW_any (r:=(x.ents.filter (keepW (F.take j) ((k:Int)+1))).filter (fun e=>!(e.slot==s))) wA hrow7 (by omega) (R5A.out.cell 3) (fun e=>by have h1:=(hblk7 _ e).1;omega) rfl).mono ?_
   rintro e10 wD ⟨A9,m9,c9,rfl,hm9,hr9,hg9,hA9,hmc9⟩
   have HBD:=hide (HBA.out.grown hg9 (by omega) (fun b hb=>by have h1:=(hblk7 b hb).1;have h2:=HB7.out.size;omega))
   have hszD:=HBD.out.size
   have H7D:=hide (HA7.out.grown hg9 (by omega) (fun b hb=>(hblk7 b hb).1))
   have HC9:=hide (HCUR.out.on HBD.out)
   have HE9:=hide (show m9≤c9∧RdE entEn wD (ButR wD (some ⟨g8,0,none⟩)) A9 m9 _ from ⟨hmc9,hr9.1,fun hn=>by
    obtain ⟨b,o,e,hb,hc⟩:=hr9.2 hn
    have h1:=(hblk7 _ (hA9 _ e)).1
    refine ⟨b,o,e,⟨hb,fun a ha=>?_⟩,fun i y hy=>?_⟩
    ·cases ha
     show b≠g8
     have h2:=HB7.out.size
     have h3:wS121.heap.size≤b:=h1
     omega
    ·obtain ⟨cs,h2,h3⟩:=hc i y hy
     exact ⟨cs,ent_any h2,h3⟩⟩)
   have HO9:=hide (OwD.widen (D':=ButR wD (some ⟨g8,0,none⟩)) (HO.out.grown (grown_below H7D.out) (by simp)) (fun b hb=>⟨Nat.lt_of_lt_of_le hb.1 HBD.out.size,hb.2⟩) (fun b hb=>hb))
   clear hr9 hg9 hA9 hrow7 hblk7 ho7
   go_wp2_with (refine wpList_storeV rfl 61 (.tmp 57) (.tmp 55) rfl ens_size g8 (k*13+5) 67 rfl (.slice A9 m9 c9) rfl rfl rfl cur HC9.out (by omega) ?_;intro w7 hr7 hg7 hs7;have HP:=hide (ents_put HO9.out HY.out HE9.out.1 HE9.out.2 HC9.out hr7 hg7 hs7);have HG7:=hide (grown_t (grown_on HBQ.out HBD.out) hg7);clear hr7 hg7 hs7)
   go_roundw
   case rel=>exact ⟨j+1,by omega,by go_num,by rw [HPUT.out];exact HP.out,HG7.out⟩
   case measure=>simp [intOf];omega
  ·obtain rfl:n5=j:=by omega
   have hnlt:¬((n5:Int) < (n5:Int)):=by omega
   have HX8:=hide (show RdE nodEn wr (Under wr.heap.size) A8 nU (sweptU up ls) from by have h1:=HO.out.rd;rw [List.take_of_length_le (by omega),←HFD.out] at h1;exact h1)
   have HFS:=hide (show FewU (sweptU up ls) from cutW_plain HFU.out _)
   obtain ⟨L,hL⟩:∃L,allS up ls=L:=⟨_,rfl⟩
   have hlL:L.length≤140737488355328:=by rw [←hL];have:=all_len HF.out HFU.out;omega
   have HAS:=hide hL
   have HAX:=hide (show allS (sweptU up ls) ls=L from by rw [swept_all HFU.out HONE.out];exact hL)
   have HNO:=hide (show findW (sweptU up ls) ls (treeV (sweptU up ls) ls (walkW (sweptU up ls) [1]).1)=[] from swept_none HFU.out)
   have HWR:=hide (show w.heap.size≤wr.heap.size from by omega)
   replace HB:=hide (HB.out.grown HBQ.out (by have:=HB.out.size;omega) (fun b hb=>by
    obtain ⟨a,ha,rfl⟩:=Option.map_eq_some_iff.1 hb
    have:=(HG8.out a ha).1
    omega))
   clear hL HO HBQ HF5 H8'
   go_wp2_with fail
   refine wp_region_planN (fun w'=>Below wr.heap.size wr w') [(0,true),(2,true),(1,false),(3,false),(4,false),(5,true),(6,true),(7,false),(8,true),(9,true),(10,true),(11,true),(12,false),(13,true),(14,true)] (by kernel_rfl) (by kernel_rfl) (by kernel_rfl) (by kernel_rfl) rfl (fun _ _ _ _ _ h=>h) (below_drew (below_self wr)) (fun hHeld=>?_)
   simp only [planOps,List.filterMap_cons,List.filterMap_nil,List.getElem?_toArray,List.getElem?_cons_succ,List.getElem?_cons_zero,Option.map_some]
   refine wpPlan_take (v:=?_) (by kernel_rfl) (fun wS hSw=>?_) ?_
   rotate_left
   ·refine execOp_load (x:=.tmp 1) (k:=6) (g:=w.heap.size) (off:=0) (cs:=[.int .i64 g.a,.int .i64 g.b,.int .i64 g.c,.int .i64 g.d,.slice AU nU cU,.slice AL nL cL]) ?_ stk_agg stk_size ?_ (fun j v hv=>by rw [Nat.zero_add];exact ((R1.out.on hSw).cell j).trans hv) rfl <;> rfl
   (try simp only [Act.put,pu1,pu2,pu3])
   refine wpPlan_take (v:=?_) (by kernel_rfl) (fun wS hSw=>?_) ?_
   rotate_left
   ·refine execOp_load (x:=.tmp 3) (k:=6) (g:=g3) (off:=0) (cs:=[.int .i64 g.a,.int .i64 g.b,.int .i64 g.c,.int .i64 g.d,.slice A8 nU c8,.slice AL nL cL]) ?_ stk_agg stk_size ?_ (fun j v hv=>by rw [Nat.zero_add];exact ((R3.out.on hSw).cell j).trans hv) rfl <;> rfl
   (try simp only [Act.put,pu1,pu2,pu3])
   refine wpPlan_call (by kernel_rfl) (fun K hK=>?_)
   have hOld:=hide hHeld
   clear hHeld
   go_simp
   go_at_call 12
   refine (All_p HAS.out rfl (B:=w.heap.size) _ (HU.out.under hOld.out (by omega)) (HL.out.under hOld.out (by omega)) (by have:=hOld.out.size;omega) HF.out HFU.out).mono ?_
   rintro e w' ⟨A6,c6,rfl,h6,hbel⟩
   have H6:=hide h6
   clear h6
   refine hK.out _ _ (hOld.out.trans (hbel.mono hOld.out.size)) (fun hHeld=>?_)
   clear hK K
   (try simp only [Act.put,pu1,pu2,pu3])
   refine wpPlan_call (by kernel_rfl) (fun K hK=>?_)
   have hOld:=hide hHeld
   clear hHeld
   go_simp
   go_at_call 12
   refine (All_p HAX.out rfl _ (und_up (HX8.out.under hOld.out (Nat.le_refl _)) hOld.out.size) (und_up (HL.out.under hOld.out HWR.out) (Nat.le_trans HWR.out hOld.out.size)) (Nat.le_refl _) HF.out HFS.out).mono ?_
   rintro e w' ⟨A7,c7,rfl,h7,hbel⟩
   have H7:=hide h7
   have H6':=hide (und_up (H6.out.under hbel (Nat.le_refl _)) hbel.size)
   clear H6 h7
   refine hK.out _ _ (hOld.out.trans (hbel.mono hOld.out.size)) (fun hHeld=>?_)
   clear hK K
   (try simp only [Act.put,pu1,pu2,pu3])
   refine wpPlan_call (by kernel_rfl) (fun K hK=>?_)
   have hOld:=hide hHeld
   clear hHeld
   go_simp
   go_at_call 11
   refine (EqShn_same _ H6'.out H7.out hlL).mono ?_
   rintro e w' ⟨rfl,hbel⟩
   clear H6' H7
   refine hK.out _ _ (hOld.out.trans (hbel.mono hOld.out.size)) (fun hHeld=>?_)
   clear hK K
   (try simp only [Act.put,pu1,pu2,pu3])
   refine wpPlan_take (v:=?_) (by kernel_rfl) (fun wS hSw=>?_) ?_
   rotate_left
   ·(try dsimp only at hSw);go_simp;(try with_reducible rfl)
   (try simp only [Act.put,pu1,pu2,pu3])
   refine wpPlan_take (v:=?_) (by kernel_rfl) (fun wS hSw=>?_) ?_
   rotate_left
   ·refine execOp_load (x:=.tmp 3) (k:=6) (g:=g3) (off:=0) (cs:=[.int .i64 g.a,.int .i64 g.b,.int .i64 g.c,.int .i64 g.d,.slice A8 nU c8,.slice AL nL cL]) ?_ stk_agg stk_size ?_ (fun j v hv=>by rw [Nat.zero_add];exact ((R3.out.on hSw).cell j).trans hv) rfl <;> rfl
   (try simp only [Act.put,pu1,pu2,pu3])
   refine wpPlan_call (by kernel_rfl) (fun K hK=>?_)
   have hOld:=hide hHeld
   clear hHeld
   go_simp
   go_at_call 32
   refine (WFinds_p HNO.out rfl _ (und_up (HX8.out.under hOld.out (Nat.le_refl _)) hOld.out.size) (und_up (HL.out.under hOld.out HWR.out) (Nat.le_trans HWR.out hOld.out.size)) (Nat.le_refl _) HF.out HFS.out).mono ?_
   rintro e w' ⟨A9,c9,rfl,h9,hbel⟩
   clear h9
   refine hK.out _ _ (hOld.out.trans (hbel.mono hOld.out.size)) (fun hHeld=>?_)
   clear hK K
   (try simp only [Act.put,pu1,pu2,pu3])
   iterate 4
    refine wpPlan_take (v:=?_) (by kernel_rfl) (fun wS hSw=>?_) ?_
    rotate_left
    ·(try dsimp only at hSw);go_simp;(try with_reducible rfl)
    (try simp only [Act.put,pu1,pu2,pu3])
   refine wpPlan_call (by kernel_rfl) (fun K hK=>?_)
   have hOld:=hide hHeld
   clear hHeld
   go_simp
   go_at_call 30
   refine (awake20_any _).mono ?_
   rintro e w' ⟨rfl,hbel⟩
   refine hK.out _ _ (hOld.out.trans (hbel.mono hOld.out.size)) (fun hHeld=>?_)
   clear hK K
   (try simp only [Act.put,pu1,pu2,pu3])
   iterate 2
    refine wpPlan_take (v:=?_) (by kernel_rfl) (fun wS hSw=>?_) ?_
    rotate_left
    ·(try dsimp only at hSw);go_simp;(try with_reducible rfl)
    (try simp only [Act.put,pu1,pu2,pu3])
   refine wpPlan_end ?_
   have HBX:=hide (HB.out.trans (hHeld.mono (by omega)))
   clear hHeld
   go_wp2_with fail
   go_ret
   exact LawOk.of HBX.out
end Go.Proofs.YtmhiohnkjpglfaaGreat

