import Derived.Test.YtmhiohnkjpglfaaGreatWs25
import Derived.Test.YtmhiohnkjpglfaaGreatWs5
import Derived.Test.YtmhiohnkjpglfaaGreatWs34

namespace Go.Proofs.YtmhiohnkjpglfaaGreat
open Go.RowKit
variable {α : Type} {E : Enc α}

theorem OwE.up [Tags] {w:World} {base b' e n c:Nat} {A:Option Addr} {l:List α} (h:OwE E w base e A n c l) (hb:∀a,A=some a→b'≤a.block):OwE E w b' e A n c l:=by
 obtain ⟨css,⟨h1,h2⟩,h3⟩:=h
 refine ⟨css,⟨h1,?_⟩,h3⟩
 rcases h2 with h2|⟨g,cap,cur,he,hbg,hr⟩
 ·exact .inl h2
 ·refine .inr ⟨g,cap,cur,he,?_,hr⟩
  simp only [Value.slice.injEq] at he
  exact hb _ he.1
def OwL [Tags] (E:Enc α) (w:World) (base lo e:Nat) (A:Option Addr) (n c:Nat) (l:List α):Prop:=OwE E w lo e A n c l∨∃p,A=some ⟨p,0,none⟩∧n=0∧c=0∧l=[]∧OwE E w base e (some ⟨p,0,none⟩) 0 0 []
theorem OwL.below [Tags] {w w':World} {base lo e n c:Nat} {A:Option Addr} {l:List α} (h:OwL E w base lo e A n c l) (hb:Below w.heap.size w w'):OwL E w' base lo e A n c l:=by
 rcases h with h|⟨p,h1,h2,h3,h4,h5⟩
 ·exact .inl (h.below hb)
 ·exact .inr ⟨p,h1,h2,h3,h4,h5.below hb⟩
theorem OwL.read [Tags] {w:World} {base lo e n c:Nat} {A:Option Addr} {l:List α} (h:OwL E w base lo e A n c l) (ht:Tags.bad e=false):RdE E w (Under w.heap.size) A n l:=by
 rcases h with h|⟨p,rfl,rfl,rfl,rfl,-⟩
 ·exact (h.rd ht).plain
 ·exact RdE.none_ _ _ _ _
theorem OwL.len [Tags] {w:World} {base lo e n c:Nat} {A:Option Addr} {l:List α} (h:OwL E w base lo e A n c l):l.length=n:=by
 rcases h with h|⟨p,rfl,rfl,rfl,rfl,-⟩
 ·exact h.len
 ·rfl
end Go.Proofs.YtmhiohnkjpglfaaGreat

namespace Go.Proofs.YtmhiohnkjpglfaaGreat
open Go.RowKit Go.Shelf Plain

theorem take_fin {p:EntV→Bool} {l:List EntV} {i:Nat} {e:EntV} {b:Bool} (u:Int) (h:l[i]?=some e) (hb:p e=b):((l.take (i+1)).filter p).map (idleF u)=if b=true then ((l.take i).filter p).map (idleF u)++[idleF u e] else ((l.take i).filter p).map (idleF u):=by
 rw [take_filter h hb]
 cases b <;> simp
theorem find_succ (up:List NodV) (ls:List (List NodV)) {vs:List ViewV} {j:Nat} {v:ViewV} (h:vs[j]?=some v):findW up ls (vs.take (j+1))=findW up ls (vs.take j)++finW up ls v:=by
 unfold findW
 rw [List.take_add_one,h,Option.toList_some,List.flatMap_append]
 simp
theorem fin_R (x:FinV):∀(w:World) (D:Nat→Prop),finEn.R w D (finC x) x:=fun _ _=>rfl
theorem find_few {up : List NodV} {ls : List (List NodV)} (hup : FewU up) : ∀ (vs : List ViewV), (findW up ls vs).length ≤ 16 * vs.length
 | []=>by simp [findW]
 | v::r=>by
  have h1:=find_few (ls:=ls) hup r
  have h2:(finW up ls v).length≤16:=by
   unfold finW
   rw [List.length_map]
   exact Nat.le_trans (List.length_filter_le _ _) (whites_len hup v.1)
  unfold findW at h1 ⊢
  rw [List.flatMap_cons,List.length_append,List.length_cons]
  omega
theorem finW_info:(Tryz.prog.info? 71).map (fun i=>(i.zero,i.size,i.bytes))=some (some (.agg #[.int .i64 0,.int .i64 0,.int .i64 0,.int .i64 0]),4,32):=by kernel_rfl
theorem litW_fin (a b c d:Int) (W:World):(Instr.buildSlice 68 1 #[(0,.agg #[.int .i64 a,.int .i64 b,.int .i64 c,.int .i64 d])]).run Tryz.prog W=.ok (.slice (some ⟨W.heap.size,0,none⟩) 1 1) (W.alloc (.cells #[.int .i64 a,.int .i64 b,.int .i64 c,.int .i64 d] 71)):=by
 obtain ⟨it,hi,hz,hsz,-⟩:=info_parts finW_info
 refine run_buildSlice W _ 71 1 _ _ it (.agg #[.int .i64 0,.int .i64 0,.int .i64 0,.int .i64 0]) Tryz.underlying68 hi hz (by omega) (by omega) ?_
 rw [hsz]
 have:=Great.fill_whole (s:=4) (by omega) [.agg #[.int .i64 a,.int .i64 b,.int .i64 c,.int .i64 d]] ((Array.range (1*4)).map ((Value.agg #[.int .i64 0,.int .i64 0,.int .i64 0,.int .i64 0]).cells[· % (Value.agg #[.int .i64 0,.int .i64 0,.int .i64 0,.int .i64 0]).cells.size]!)) (by intro v hv;rw [List.mem_singleton] at hv;subst hv;simp [Value.cells]) (by simp)
 simpa [Value.cells] using this
def FinsO (w:World) (l:List FinV) (e:Ending) (w':World):Prop:=∃A n c,e=.returned (.slice A n c)∧RdE finEn w' (Under w'.heap.size) A n l∧Below w.heap.size w w'
set_option maxRecDepth 100000 in
set_option maxHeartbeats 16000000 in
theorem WFinds_any {g:GeoQ} {AU AL:Option Addr} {nU cU nL cL B:Nat} {up:List NodV} {ls:List (List NodV)} {ws:List WayV} {TV:List ViewV} (hw:(walkW up [1]).1=ws) (hT:treeV up ls ws=TV) (w:World) (hu:RdE nodEn w (Under B) AU nU up) (h:RdE layEn w (Under B) AL nL ls) (hB:B≤w.heap.size) (hF:FewL ls) (hup:FewU up):Calls Tryz.prog 32 #[.agg (stkC g (.slice AU nU cU) (.slice AL nL cL)).toArray] w (FinsO w (findW up ls TV)):=by
 obtain ⟨W1,hW1⟩:∃W1,(w.alloc (.cells (stkC g (.slice AU nU cU) (.slice AL nL cL)).toArray 29))=W1:=⟨_,rfl⟩
 obtain ⟨r0,hb1,hs1⟩:=rowA1 w _ _ hW1
 have hW1':(w.alloc (.cells #[.int .i64 g.a,.int .i64 g.b,.int .i64 g.c,.int .i64 g.d,.slice AU nU cU,.slice AL nL cL] 29))=W1:=hW1
 have R1:=hide r0
 have HB:=hide hb1
 have hsz0:=hb1.size
 have HU:=hide (hu.under hb1 hB)
 have HL:=hide (h.under hb1 hB)
 have HF:=hide hF
 have HFU:=hide hup
 obtain ⟨n,hn⟩:∃n,ws.length=n:=⟨_,rfl⟩
 have HW:=hide hw
 have HT:=hide hT
 have HN:=hide hn
 have hn24:n≤24:=by have h1:=(walk_ok up [1]).le;rw [hw] at h1;have:=hup.1;omega
 have HFW:=hide (fun v (hv:v∈TV)=>show v.2.length≤100 from by have h1:=tree_few up ls ws v (by rw [hT];exact hv);have:=hF.1;omega)
 unfold stkC
 clear r0 hb1 hW1 hu h hF hup hw hT hn
 go_enter Tryz.func32,Tryz.ntmps32
 go_wp2_with (first|(refine wpList_loadW rfl 29 (.tmp 1) rfl 6 stk_agg stk_size (w.heap.size) 29 rfl (stkC g (.slice AU nU cU) (.slice AL nL cL)) R1.out rfl ?_)|(go_at_call 80;refine (VTree_p HW.out HT.out HN.out W1 HU.out HL.out (by omega) HF.out HFU.out).mono ?_;rintro e1 wT ⟨A4,c4,A5,c5,rfl,hw4,hv5,hbel⟩;clear hw4;replace HB:=hide (HB.out.trans (hbel.mono HB.out.size));replace R1:=hide (R1.out.on hbel);replace HU:=hide (HU.out.under hbel (by omega));replace HL:=hide (HL.out.under hbel (by omega));have hsz2:=hbel.size;have HV:=hide hv5;clear hv5;clear hbel))
 have hWT:W1.heap.size≤wT.heap.size:=by omega
 have hVN:TV.length=n:=HV.out.1
 clear hW1' 
 go_loopw [3,17] (fun v3 v17 wr=>∃(j n3:Nat) (A3:Option Addr) (c3:Nat),j≤n∧v17=.int .i64 j∧v3=.slice A3 n3 c3∧n3≤16*j∧OwE finEn wr wT.heap.size 71 A3 n3 c3 (findW up ls (TV.take j))∧Below wT.heap.size wT wr) (fun _ v17 _=>n - (intOf v17).toNat)
 case atStart=>exact ⟨0,0,none,0,by omega,rfl,rfl,by omega,OwE.nil_ _ _ _ _,Below.refl _ _⟩
 case round =>
  rename World=>wo
  obtain ⟨j,n3,A3,c3,hj,rfl,rfl,hn3,ho,hbr⟩:=hrel
  have hbsz:=hbr.size
  have HBR:=hide hbr
  have HO:=hide ho
  have HB0:=HB
  replace R1:=hide (show RowL wo w.heap.size _ _ from (hbr.block _ (by omega)).trans R1.out)
  replace HU:=hide (und_at HU.out hbr (by omega))
  replace HL:=hide (und_at HL.out hbr (by omega))
  replace HV:=hide (und_at HV.out hbr (by omega))
  clear ho hbr
  by_cases hlt:j < n
  ·obtain ⟨v,hv⟩:∃v,TV[j]?=some v:=⟨_,List.getElem?_eq_getElem (by omega)⟩
   obtain ⟨bV,oV,A2,c2,rfl,hbV,hcV,hrV⟩:=view_get HV.out hv
   have HCV:=hide hcV
   have HVL:=hide (hrV:RdE prEn wo (Under wT.heap.size) A2 v.2.length v.2)
   have hvl:v.2.length≤100:=HFW.out v (List.mem_of_getElem? hv)
   have HFS:=hide (find_succ up ls hv)
   obtain ⟨L,hL⟩:∃L,whitesW up v.1=L:=⟨_,rfl⟩
   have HLW:=hide hL
   have hll:L.length≤16:=by rw [←hL];exact whites_len HFU.out v.1
   have HFN:=hide (show finW up ls v=(L.filter (fun e=>!hidesW ls v.2 e.name)).map (idleF v.1) from by unfold finW;rw [hL])
   have hjn:(j:Int) < (n:Int):=by omega
   clear hcV hrV hv hL
   go_wp2_with (first|(refine wpList_loadX rfl 51 (.tmp 19) rfl 2 viw_agg viw_size bV (oV+j*2) rfl (viwC v.1 (.slice A2 v.2.length c2)) HCV.out rfl ?_)|(refine wpList_storeW rfl 51 (.tmp 7) (.tmp 20) rfl 2 viw_size (wo.heap.size) 51 rfl (viwC 0 (.slice none 0 0)) (viwC v.1 (.slice A2 v.2.length c2)) rfl (RowL.new wo 51 (viwC 0 (.slice none 0 0))) rfl rfl (viwC_one _ _ _ _) ?_;intro wS61 hr61 hg61 hs61;have hzb:=below_stored' hg61;replace HBR:=hide (HBR.out.trans (hzb.mono (by omega)));replace R1:=hide (R1.out.on hzb);replace HU:=hide (HU.out.under hzb (by omega));replace HL:=hide (HL.out.under hzb (by omega));replace HVL:=hide (HVL.out.under hzb (by omega));replace HO:=hide (HO.out.below hzb);have hsz62:=hzb.size;have R7:=hide hr61;have hlt61:=hr61.lt;have q7_0:wS61.cell? ⟨wo.heap.size,0,none⟩=some (.int .i64 v.1):=R7.out.cell 0;clear hzb hr61;clear hg61 hs61)|(refine wpList_loadW rfl 29 (.tmp 1) rfl 6 stk_agg stk_size (w.heap.size) 29 rfl (stkC g (.slice AU nU cU) (.slice AL nL cL)) R1.out rfl ?_)|(refine wpList_loadW rfl 51 (.tmp 7) rfl 2 viw_agg viw_size (wo.heap.size) 51 rfl (viwC v.1 (.slice A2 v.2.length c2)) R7.out rfl ?_)|(go_at_call 81;refine (Whites_any (u:=v.1) (cV:=c2) wS61 HU.out (by omega) HFU.out).mono ?_;rintro e63 wE ⟨A8,m,c8,rfl,hE,hbel⟩;clear q7_0;replace HBR:=hide (HBR.out.trans (hbel.mono (by omega)));replace R1:=hide (R1.out.on hbel);replace HU:=hide (HU.out.under hbel (by omega));replace HL:=hide (HL.out.under hbel (by omega));replace HVL:=hide (HVL.out.under hbel (by omega));replace HO:=hide (HO.out.below hbel);replace R7:=hide (R7.out.on hbel);have hsz64:=hbel.size;have q7_0:wE.cell? ⟨wo.heap.size,0,none⟩=some (.int .i64 v.1):=R7.out.cell 0;rw [HLW.out] at hE;have HE:=hide hE;clear hE;clear hbel))
   have hm16:m≤16:=by have:=HE.out.len;omega
   have hEL:L.length=m:=HE.out.len
   have hWE:wo.heap.size≤wE.heap.size:=by omega
   clear q7_0
   go_loopw [3,25] (fun v3 v25 wr=>∃(i n6:Nat) (A6:Option Addr) (c6:Nat),i≤m∧v25=.int .i64 i∧v3=.slice A6 n6 c6∧n6≤n3+i∧OwE finEn wr wT.heap.size 71 A6 n6 c6 (findW up ls (TV.take j)++((L.take i).filter (fun e=>!hidesW ls v.2 e.name)).map (idleF v.1))∧Below wT.heap.size wE wr∧RowL wr (wo.heap.size) 51 (viwC v.1 (.slice A2 v.2.length c2))∧OwE entEn wr wS61.heap.size 75 A8 m c8 L) (fun _ v25 _=>m - (intOf v25).toNat)
   case atStart=>exact ⟨0,n3,A3,c3,by omega,rfl,rfl,by omega,by simpa using HO.out,Below.refl _ _,R7.out,HE.out⟩
   case round =>
    obtain ⟨i,n6,A6,c6,hi,rfl,rfl,hn6,ho,hbr,hr7,he8⟩:=hrel
    have hbsz2:=hbr.size
    have HBQ:=hide hbr
    have HO2:=hide ho
    replace R1:=hide (show RowL wr w.heap.size _ _ from (hbr.block _ (by omega)).trans R1.out)
    replace HU:=hide (und_at HU.out hbr (by omega))
    replace HL:=hide (und_at HL.out hbr (by omega))
    replace HVL:=hide (und_at HVL.out hbr (by omega))
    clear R7 HE
    have R7:=hide hr7
    have HE:=hide he8
    have hr7l:=hr7.lt
    clear ho hbr hr7 he8
    have q7_0:wr.cell? ⟨wo.heap.size,0,none⟩=some (.int .i64 v.1):=R7.out.cell 0
    by_cases hlt2:i < m
    ·obtain ⟨e,he⟩:∃e,L[i]?=some e:=⟨_,List.getElem?_eq_getElem (by omega)⟩
     obtain ⟨bE,oE,rfl,hbE,hcE⟩:=ent_get ((HE.out.rd rfl).plain) he
     have HCE:=hide hcE
     obtain ⟨h,hh⟩:∃h,hidesW ls v.2 e.name=h:=⟨_,rfl⟩
     have HBH:=hide hh
     have HTF:=hide (take_fin (p:=fun e=>!hidesW ls v.2 e.name) (b:=!h) v.1 he (by rw [hh]))
     have him:(i:Int) < (m:Int):=by omega
     clear he hcE hh
     cases h with
     | true =>
      go_wp2_with (first|(refine wpList_loadX rfl 75 (.tmp 27) rfl 3 entw_agg entw_size bE (oE+i*3) rfl (cellsE e) HCE.out rfl ?_)|(refine wpList_storeW rfl 75 (.tmp 9) (.tmp 28) rfl 3 entw_size (wr.heap.size) 75 rfl [.int .i64 0,.int .i64 0,.string ⟨#[]⟩] (cellsE e) rfl (RowL.new wr 75 [.int .i64 0,.int .i64 0,.string ⟨#[]⟩]) rfl rfl (cellsE_one _) ?_;intro wS121 hr121 hg121 hs121;have hzb:=below_stored' hg121;clear q7_0;replace HBQ:=hide (HBQ.out.trans (hzb.mono (by omega)));replace R1:=hide (R1.out.on hzb);replace R7:=hide (R7.out.on hzb);replace HU:=hide (HU.out.under hzb (by omega));replace HL:=hide (HL.out.under hzb (by omega));replace HVL:=hide (HVL.out.under hzb (by omega));replace HO2:=hide (HO2.out.below hzb);replace HE:=hide (HE.out.below hzb);have hsz122:=hzb.size;have q7_0:wS121.cell? ⟨wo.heap.size,0,none⟩=some (.int .i64 v.1):=R7.out.cell 0;have R9:=hide hr121;have hlt121:=hr121.lt;have q9_2:wS121.cell? ⟨wr.heap.size,2,none⟩=some (.string ⟨e.name.toArray⟩):=R9.out.cell 2;have q9_0:wS121.cell? ⟨wr.heap.size,0,none⟩=some (.int .i64 e.slot):=R9.out.cell 0;clear hzb hr121;clear hg121 hs121)|(refine wpList_loadW rfl 29 (.tmp 1) rfl 6 stk_agg stk_size (w.heap.size) 29 rfl (stkC g (.slice AU nU cU) (.slice AL nL cL)) R1.out rfl ?_)|(refine wpList_loadW rfl 51 (.tmp 7) rfl 2 viw_agg viw_size (wo.heap.size) 51 rfl (viwC v.1 (.slice A2 v.2.length c2)) R7.out rfl ?_)|(go_at_call 78;refine (WHides_b (u:=v.1) (cV:=c2) HBH.out wS121 HU.out HL.out (by omega) HF.out HFU.out HVL.out (by omega) (by omega)).mono ?_;rintro e123 wH ⟨rfl,hbel⟩;clear q9_2 q7_0 q9_0;replace HBQ:=hide (HBQ.out.trans (hbel.mono (by omega)));replace R1:=hide (R1.out.on hbel);replace R7:=hide (R7.out.on hbel);replace HU:=hide (HU.out.under hbel (by omega));replace HL:=hide (HL.out.under hbel (by omega));replace HVL:=hide (HVL.out.under hbel (by omega));replace HO2:=hide (HO2.out.below hbel);replace HE:=hide (HE.out.below hbel);replace R9:=hide (R9.out.on hbel);have hsz124:=hbel.size;have q9_2:wH.cell? ⟨wr.heap.size,2,none⟩=some (.string ⟨e.name.toArray⟩):=R9.out.cell 2;have q7_0:wH.cell? ⟨wo.heap.size,0,none⟩=some (.int .i64 v.1):=R7.out.cell 0;have q9_0:wH.cell? ⟨wr.heap.size,0,none⟩=some (.int .i64 e.slot):=R9.out.cell 0;clear hbel))
      go_roundw
      case rel=>exact ⟨i+1,n6,A6,c6,by omega,by go_num,rfl,by omega,by rw [HTF.out,if_neg (by simp)];exact HO2.out,HBQ.out,R7.out,HE.out⟩
      case measure=>simp [intOf];omega
     | false =>
      go_wp2_with (first|(refine wpList_loadX rfl 75 (.tmp 27) rfl 3 entw_agg entw_size bE (oE+i*3) rfl (cellsE e) HCE.out rfl ?_)|(refine wpList_storeW rfl 75 (.tmp 9) (.tmp 28) rfl 3 entw_size (wr.heap.size) 75 rfl [.int .i64 0,.int .i64 0,.string ⟨#[]⟩] (cellsE e) rfl (RowL.new wr 75 [.int .i64 0,.int .i64 0,.string ⟨#[]⟩]) rfl rfl (cellsE_one _) ?_;intro wS121 hr121 hg121 hs121;have hzb:=below_stored' hg121;clear q7_0;replace HBQ:=hide (HBQ.out.trans (hzb.mono (by omega)));replace R1:=hide (R1.out.on hzb);replace R7:=hide (R7.out.on hzb);replace HU:=hide (HU.out.under hzb (by omega));replace HL:=hide (HL.out.under hzb (by omega));replace HVL:=hide (HVL.out.under hzb (by omega));replace HO2:=hide (HO2.out.below hzb);replace HE:=hide (HE.out.below hzb);have hsz122:=hzb.size;have q7_0:wS121.cell? ⟨wo.heap.size,0,none⟩=some (.int .i64 v.1):=R7.out.cell 0;have R9:=hide hr121;have hlt121:=hr121.lt;have q9_2:wS121.cell? ⟨wr.heap.size,2,none⟩=some (.string ⟨e.name.toArray⟩):=R9.out.cell 2;have q9_0:wS121.cell? ⟨wr.heap.size,0,none⟩=some (.int .i64 e.slot):=R9.out.cell 0;clear hzb hr121;clear hg121 hs121)|(refine wpList_loadW rfl 29 (.tmp 1) rfl 6 stk_agg stk_size (w.heap.size) 29 rfl (stkC g (.slice AU nU cU) (.slice AL nL cL)) R1.out rfl ?_)|(refine wpList_loadW rfl 51 (.tmp 7) rfl 2 viw_agg viw_size (wo.heap.size) 51 rfl (viwC v.1 (.slice A2 v.2.length c2)) R7.out rfl ?_)|(go_at_call 78;refine (WHides_b (u:=v.1) (cV:=c2) HBH.out wS121 HU.out HL.out (by omega) HF.out HFU.out HVL.out (by omega) (by omega)).mono ?_;rintro e123 wH ⟨rfl,hbel⟩;clear q9_2 q7_0 q9_0;replace HBQ:=hide (HBQ.out.trans (hbel.mono (by omega)));replace R1:=hide (R1.out.on hbel);replace R7:=hide (R7.out.on hbel);replace HU:=hide (HU.out.under hbel (by omega));replace HL:=hide (HL.out.under hbel (by omega));replace HVL:=hide (HVL.out.under hbel (by omega));replace HO2:=hide (HO2.out.below hbel);replace HE:=hide (HE.out.below hbel);replace R9:=hide (R9.out.on hbel);have hsz124:=hbel.size;have q9_2:wH.cell? ⟨wr.heap.size,2,none⟩=some (.string ⟨e.name.toArray⟩):=R9.out.cell 2;have q7_0:wH.cell? ⟨wo.heap.size,0,none⟩=some (.int .i64 v.1):=R7.out.cell 0;have q9_0:wH.cell? ⟨wr.heap.size,0,none⟩=some (.int .i64 e.slot):=R9.out.cell 0;have hlit:=litW_fin 15 0 v.1 e.slot wH;clear hbel)|(at_builtin;have hba:=below_new (below_self wH) (.cells #[.int .i64 15,.int .i64 0,.int .i64 v.1,.int .i64 e.slot] 71);refine wpList_append_OwK (E:=finEn) _ rfl (.tmp 35) (.tmp 41) 68 rfl wT.heap.size 71 (.agg #[.int .i64 0,.int .i64 0,.int .i64 0,.int .i64 0]) 32 Tryz.underlying68 finW_info rfl (by decide) A6 n6 c6 _ rfl (HO2.out.below hba) (fun b=>wH.heap.size≤b∧b < (wH.alloc (.cells (finC (idleF v.1 e)).toArray 71)).heap.size) (some ⟨wH.heap.size,0,none⟩) 1 1 [idleF v.1 e] rfl (enc_lit1 (fin_R (idleF v.1 e)) wH 71 (Nat.le_refl _)) (fun b hb=>⟨⟨hb.2,fun _ _ _ _=>rfl⟩,fun a ha=>(fun e=>by have h1:=hb.1;rw [e] at h1;have:=OwE.lt HO2.out a ha;omega)⟩) (by omega) (n6+1) rfl (by omega) (by omega) (by simp;omega) ?_;intro A9 c9 w9 ho9 hb9 hg9;have HO9:=hide ho9;have HB9:=hide ((HBQ.out.alloc (by omega) _).trans hb9);have R79:=hide ((R7.out.on hba).grown hg9 (owe_apart (HO2.out.below hba) (R7.out.on hba) (by decide)));have HE9:=hide (own_other (E:=entEn) ent_any (HE.out.below hba) (HO2.out.below hba) (by decide) hg9);clear ho9 hb9 hg9 hba))
      go_roundw
      case rel=>exact ⟨i+1,n6+1,A9,c9,by omega,by go_num,rfl,by omega,by rw [HTF.out,if_pos (by simp),←List.append_assoc];exact HO9.out,HB9.out,R79.out,HE9.out⟩
      case measure=>simp [intOf];omega
    ·obtain rfl:m=i:=by omega
     have hnlt2:¬((m:Int) < (m:Int)):=by omega
     have ho:=HO2.out
     rw [List.take_of_length_le (l:=L) (by omega),←HFN.out,←HFS.out] at ho
     go_wp2_with fail
     go_roundw
     case rel=>exact ⟨j+1,n6,A6,c6,by omega,by go_num,rfl,by omega,ho,HBR.out.trans (HBQ.out.mono (by omega))⟩
     case measure=>simp [intOf];omega
  ·obtain rfl:n=j:=by omega
   have hnlt:¬((n:Int) < (n:Int)):=by omega
   go_wp2_with fail
   go_ret
   have ho:=(HO.out.rd rfl).plain
   rw [List.take_of_length_le (by omega)] at ho
   exact ⟨A3,n3,c3,rfl,ho,HB.out.trans (HBR.out.mono (by omega))⟩
end Go.Proofs.YtmhiohnkjpglfaaGreat

