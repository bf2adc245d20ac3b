import Derived.Test.YtnhegahpfacdgaaGreatRt20
import Derived.Test.YtnhegahpfacdgaaGreatRt29
import Derived.Test.YtnhegahpfacdgaaGreatRt24
import Derived.Test.YtnhegahpfacdgaaGreatRt22
import Derived.Test.YtnhegahpfacdgaaGreatRt28
import Derived.Test.YtnhegahpfacdgaaGreatRt10
import Derived.Test.YtnhegahpfacdgaaGreatRt19
import Derived.Test.YtnhegahpfacdgaaGreatRt21
import Derived.Test.YtnhegahpfacdgaaGreatRt23
import Derived.Test.YtnhegahpfacdgaaGreatRt18
import Derived.Test.YtnhegahpfacdgaaGreatRt17
import Derived.Test.YtnhegahpfacdgaaGreatRt26
import Derived.Test.YtnhegahpfacdgaaGreatRt9
import Derived.Deep.QuietTactic
import Derived.BigQuiet
import Derived.Test.YtnhegahpfacdgaaGreatRt25
import Derived.Test.YtnhegahpfacdgaaGreatRt3
import Derived.Test.YtnhegahpfacdgaaGreatRt1
import Derived.Lib.SlicesCompact
import Derived.Sort.Row
import Derived.Sort.OwnSorted
import Derived.Lib.RowBridge
import Derived.Test.YtnhegahpfacdgaaGreatRt4

namespace Go.Proofs.YtnhegahpfacdgaaGreat
open Go.RowKit Go.Shelf Plain Go.Maps

def trC (g:GeoQ) (U L W C M:Value):List Value:=[.int .i64 g.a,.int .i64 g.b,.int .i64 g.c,.int .i64 g.d,U,L,W,C,M]
theorem own_plq {w:World} {D:Nat→Prop} {base e n c:Nat} {A:Option Addr} {l:List (Int×Int)} (h:OwD prEn D w base e A n c l) {P:Nat→Prop} (hP:∀b,base≤b→b < w.heap.size→P b):RdE prEn w P A n l:=by
 have h1:=h.rd
 exact ⟨h1.1,fun hn=>by
  obtain ⟨b,o,rfl,hb,hc⟩:=h1.2 hn
  exact ⟨b,o,rfl,hP b (h.base8 _ rfl) hb,fun i x hx=>by obtain ⟨cs,hR,h2⟩:=hc i x hx;exact ⟨cs,hR,h2⟩⟩⟩
theorem grown_low {a b c:World} {row:Option Nat} (h:a.grownBy b row) (k:Below a.heap.size b c):a.grownBy c row:=⟨k.os.trans h.os,k.tape.trans h.tape,k.output.trans h.output,Nat.le_trans h.size k.size,fun i hi hne=>(k.block i hi).trans (h.block i hi hne)⟩
theorem redd_has {x:NodV} {b:Bool} (hb:hasR x=b) (h0:0≤x.att.h) (h1:x.att.h≤31):(bits .and .i64 x.att.h 2==2)=b:=by rw [bit_is2' h0 h1,←hb];rfl
set_option maxRecDepth 100000 in
set_option maxHeartbeats 1600000 in
theorem Redd_b {x:NodV} {Dd C:Option Addr} {n c m d:Nat} {b:Bool} (hb:hasR x=b) (h0:0≤x.att.h) (h1:x.att.h≤31) (w:World):Calls Tryz.prog 23 #[.agg (nodC x (.slice Dd n c) (.slice C m d)).toArray] w (BoolB w b):=by
 obtain ⟨W1,hW1⟩:∃W1,(w.alloc (.cells (nodC x (.slice Dd n c) (.slice C m d)).toArray 65))=W1:=⟨_,rfl⟩
 obtain ⟨r0,hb1,hs1⟩:=rowA1 w _ _ hW1
 have hW1':(w.alloc (.cells #[.int .i64 x.k,.int .i64 x.p,.int .i64 x.n,.int .i64 x.g,.slice Dd n c,.slice C m d,.int .i64 x.att.h,.int .i64 x.att.o,.string ⟨x.att.r.toArray⟩,.int .i64 x.att.l,.int .i64 x.att.i,.int .i64 x.att.g,.int .i64 x.att.s] 65))=W1:=hW1
 have R1:=hide r0
 have HB:=hide hb1
 have hsz0:=hb1.size
 have HQ:=hide (redd_has hb h0 h1)
 unfold nodC
 clear r0 hb1 hW1 hb h0 h1
 go_enter Tryz.func23,Tryz.ntmps23
 go_wp2_with (first|(refine wpList_loadW rfl 65 (.tmp 1) rfl 13 nod_agg nod_size (w.heap.size) 65 rfl (nodC x (.slice Dd n c) (.slice C m d)) R1.out rfl ?_)|(go_at_call 44;refine (NHas_b HQ.out W1).mono ?_;rintro e1 wN ⟨rfl,hbel⟩;replace HB:=hide (HB.out.trans (hbel.mono HB.out.size));replace R1:=hide (R1.out.on hbel);have hsz2:=hbel.size;clear hbel))
 go_ret
 exact BoolB.of HB.out
set_option maxRecDepth 100000 in
set_option maxHeartbeats 1600000 in
theorem Claim_any {u:Int} {AV:Option Addr} {cV B:Nat} {vl:List (Int×Int)} {q:Int×Int} (hq:clmR (u,vl)=q) (w:World) (hv:RdE prEn w (Under B) AV vl.length vl) (hB:B≤w.heap.size) (hn:vl.length≤1000):Calls Tryz.prog 38 #[.agg (viwC u (.slice AV vl.length cV)).toArray] w (fun e w'=>e=.returned (.agg (prC q).toArray)∧Below w.heap.size w w'):=by
 obtain ⟨W1,hW1⟩:∃W1,((w.alloc (.cells (viwC u (.slice AV vl.length cV)).toArray 80)).alloc (.cells (prC (0,0)).toArray 41))=W1:=⟨_,rfl⟩
 obtain ⟨r0,r1,hb1,hs1⟩:=rowA2 w _ _ _ _ hW1
 have hW1':((w.alloc (.cells #[.int .i64 u,.slice AV vl.length cV] 80)).alloc (.cells #[.int .i64 0,.int .i64 0] 41))=W1:=hW1
 have R1:=hide r0
 have R2:=hide r1
 have HB:=hide hb1
 have hsz0:=hb1.size
 have HV:=hide (hv.under hb1 hB)
 have q1_1:W1.cell? ⟨w.heap.size,1,none⟩=some (.slice AV vl.length cV):=R1.out.cell 1
 have hsR:w.heap.size+1 < W1.heap.size:=by omega
 unfold viwC
 clear r0 r1 hb1 hW1 hv
 cases vl with
 | nil =>
  obtain rfl:q=(0,0):=by rw [←hq];rfl
  simp only [List.length_nil] at *
  go_enter Tryz.func38,Tryz.ntmps38
  go_wp2_with (first|(refine wpList_storeW rfl 41 (.tmp 2) (.tmp 7) rfl 2 plc_size (w.heap.size+1) 41 rfl [.int .i64 0,.int .i64 0] [.int .i64 0,.int .i64 0] rfl R2.out rfl rfl (prC_one (0,0)) ?_;intro wE hrE hgE hsE;have RE:=hide hrE;have HBE:=hide (HB.out.grown hgE HB.out.size (pu4 (by omega)));clear hrE hgE hsE))
  exact bodyPost_ret (res_cell Tryz.results38 rfl plc_agg plc_size RE.out rfl) rfl ⟨rfl,HBE.out⟩
 | cons p r =>
  obtain rfl:q=p:=by rw [←hq];rfl
  obtain ⟨b,o,rfl,hbD,hc⟩:=HV.out.2 (by simp)
  obtain ⟨cs,hR,hcs⟩:=hc 0 q rfl
  obtain rfl:cs=prC q:=hR
  have HCP:=hide (show ∀j v,(prC q)[j]?=some v→W1.cell? ⟨b,o+j,none⟩=some v from fun j v hv=>by have h1:=hcs j v hv;rw [show (0:Nat)*prEn.k+j=j from by omega] at h1;exact h1)
  have hNp:0 < (q::r).length:=by simp
  clear hc hcs hq hbD hn HV
  generalize (q::r).length=N at *
  have hNi:¬(N:Int)=0:=by omega
  have hN0:((N:Int)==0)=false:=by simp;omega
  go_enter Tryz.func38,Tryz.ntmps38
  go_wp2_with (first|(refine wpList_loadX rfl 41 (.tmp 10) rfl 2 plc_agg plc_size b o rfl (prC q) HCP.out rfl ?_)|(refine wpList_storeW rfl 41 (.tmp 2) (.tmp 11) rfl 2 plc_size (w.heap.size+1) 41 rfl [.int .i64 0,.int .i64 0] (prC q) rfl R2.out rfl rfl (prC_one q) ?_;intro wE hrE hgE hsE;have RE:=hide hrE;have HBE:=hide (HB.out.grown hgE HB.out.size (pu4 (by omega)));clear hrE hgE hsE))
  exact bodyPost_ret (res_cell Tryz.results38 rfl plc_agg plc_size RE.out rfl) rfl ⟨rfl,HBE.out⟩
theorem Claim_e {u:Int} {AV:Option Addr} {cV B:Nat} {vl:List (Int×Int)} {q:Int×Int} (hq:clmR (u,vl)=q) (w:World) (hv:RdE prEn w (Under B) AV vl.length vl) (hB:B≤w.heap.size) (hn:vl.length≤1000):Calls Tryz.prog 38 #[.agg (viwC u (.slice AV vl.length cV)).toArray] w (fun e w'=>e=.returned (.agg #[.int .i64 q.1,.int .i64 q.2])∧Below w.heap.size w w'):=Claim_any hq w hv hB hn
theorem lit_plcx (a b:Int) (W:World):(Instr.buildSlice 39 1 #[(0,.agg #[.int .i64 a,.int .i64 b])]).run Tryz.prog W=.ok (.slice (some ⟨W.heap.size,0,none⟩) 1 1) (W.alloc (.cells #[.int .i64 a,.int .i64 b] 41)):=lit_plc (a,b) W
structure TrQ (w : World) (lo hi gT bM cM : Nat) (g : GeoQ) (AU AL AW AC : Option Addr) (nU cU nL cL n cW cC : Nat) (l : List WayV) (cl : List (Int × Int)) (f : Int × Int → Bool) : Prop where
 row:RowL w gT 78 (trC g (.slice AU nU cU) (.slice AL nL cL) (.slice AW n cW) (.slice AC n cC) (.map (some bM)))
 ways:RdE wayEn w (fun b=>lo≤b∧b < hi∧b≠bM) AW n l
 clms:RdE prEn w (fun b=>lo≤b∧b < hi∧b≠bM) AC n cl
 set:SetQ w bM cM f
 lgT:lo≤gT
 lbM:lo≤bM
 ne:gT≠bM
 hiw:hi≤w.heap.size
theorem TrQ.on {w w':World} {lo hi gT bM cM:Nat} {g:GeoQ} {AU AL AW AC:Option Addr} {nU cU nL cL n cW cC:Nat} {l:List WayV} {cl:List (Int×Int)} {f:Int×Int→Bool} (h:TrQ w lo hi gT bM cM g AU AL AW AC nU cU nL cL n cW cC l cl f) (hb:Below w.heap.size w w'):TrQ w' lo hi gT bM cM g AU AL AW AC nU cU nL cL n cW cC l cl f :=
 ⟨h.row.on hb,h.ways.mono (Kept.of_below hb (fun _ hb2=>Nat.lt_of_lt_of_le hb2.2.1 h.hiw)) (fun _ h=>h),h.clms.mono (Kept.of_below hb (fun _ hb2=>Nat.lt_of_lt_of_le hb2.2.1 h.hiw)) (fun _ h=>h),h.set.on hb,h.lgT,h.lbM,h.ne,Nat.le_trans h.hiw hb.size⟩
theorem TrQ.turn {w w':World} {lo hi gT bM cM cM':Nat} {g:GeoQ} {AU AL AW AC:Option Addr} {nU cU nL cL n cW cC:Nat} {l:List WayV} {cl:List (Int×Int)} {f f':Int×Int→Bool} (h:TrQ w lo hi gT bM cM g AU AL AW AC nU cU nL cL n cW cC l cl f) (hg:w.grownBy w' (some bM)) (hs:SetQ w' bM cM' f'):TrQ w' lo hi gT bM cM' g AU AL AW AC nU cU nL cL n cW cC l cl f' :=
 ⟨h.row.grown hg (fun e=>h.ne (Option.some.inj e)),h.ways.mono (fun b hb=>hg.block b (Nat.lt_of_lt_of_le hb.2.1 h.hiw) (fun e=>hb.2.2 (Option.some.inj e))) (fun _ h=>h),h.clms.mono (fun b hb=>hg.block b (Nat.lt_of_lt_of_le hb.2.1 h.hiw) (fun e=>hb.2.2 (Option.some.inj e))) (fun _ h=>h),hs,h.lgT,h.lbM,h.ne,Nat.le_trans h.hiw hg.size⟩
def BegQ (w:World) (g:GeoQ) (AU AL:Option Addr) (nU cU nL cL n:Nat) (l:List WayV) (cl:List (Int×Int)) (e:Ending) (w':World):Prop:=∃gT bM cM AW AC cW cC hi,e=.returned (.pointer (some ⟨gT,0,none⟩))∧TrQ w' w.heap.size hi gT bM cM g AU AL AW AC nU cU nL cL n cW cC l cl (fun _=>false)∧cM=0∧Below w.heap.size w w'
set_option maxRecDepth 100000 in
set_option maxHeartbeats 8000000 in
theorem RBegin_any {g:GeoQ} {AU AL:Option Addr} {nU cU nL cL B:Nat} {up:List NodV} {ls:List (List NodV)} {l:List WayV} {TV:List ViewV} {n:Nat} (hl:(walkW up [1]).1=l) (hT:treeV up ls l=TV) (hn:l.length=n) (w:World) (hu:RdE nodEn w (Under B) AU nU up) (h:RdE layEn w (Under B) AL nL ls) (hB:B≤w.heap.size) (hF:FewL ls) (hup:FewU up):Calls Tryz.prog 20 #[.agg (stkC g (.slice AU nU cU) (.slice AL nL cL)).toArray] w (BegQ w g AU AL nU cU nL cL n l (TV.map clmR)):=by
 obtain ⟨W1,hW1⟩:∃W1,(w.alloc (.cells (stkC g (.slice AU nU cU) (.slice AL nL cL)).toArray 29))=W1:=⟨_,rfl⟩
 obtain ⟨r0,hb1,hs1⟩:=rowA1 w _ _ hW1
 have hW1':(w.alloc (.cells #[.int .i64 g.a,.int .i64 g.b,.int .i64 g.c,.int .i64 g.d,.slice AU nU cU,.slice AL nL cL] 29))=W1:=hW1
 have R1:=hide r0
 have HB:=hide hb1
 have hsz0:=hb1.size
 have HU:=hide (hu.under hb1 hB)
 have HL:=hide (h.under hb1 hB)
 have HF:=hide hF
 have HFU:=hide hup
 have HWS:=hide hl
 have HT:=hide hT
 have HN:=hide hn
 have hn24:n≤24:=by
  have h1:=(walk_ok up [1]).le
  rw [hl] at h1
  have h2:=hup.1
  omega
 have hTl:TV.length=n:=by rw [←hT,tree_len];exact hn
 have hfew:=tree_few up ls l
 rw [hT] at hfew
 have HFW:=hide hfew
 have hs1':w.heap.size+1≤W1.heap.size:=by omega
 have hmm := @run_makeMap Tryz.prog
 unfold stkC
 clear r0 hb1 hW1 hu h hF hup hs1 hl hT hn hfew
 go_enter Tryz.func20,Tryz.ntmps20
 go_upto_region 3 with (first|(refine wpList_loadW rfl 29 (.tmp 1) rfl 6 stk_agg stk_size (w.heap.size) 29 rfl [.int .i64 g.a,.int .i64 g.b,.int .i64 g.c,.int .i64 g.d,.slice AU nU cU,.slice AL nL cL] R1.out rfl ?_)|(go_at_call 37;refine (VTree_p (g:=g) (cU:=cU) (cL:=cL) HWS.out HT.out HN.out W1 HU.out HL.out (by omega) HF.out HFU.out).mono ?_;rintro e1 wV ⟨AW,cW,AV',cV',rfl,hw,hv,hbel⟩;have HW:=hide hw;have HV:=hide hv;replace HB:=hide (HB.out.trans (hbel.mono HB.out.size));replace R1:=hide (R1.out.on hbel);replace HU:=hide (HU.out.under hbel (by omega));replace HL:=hide (HL.out.under hbel (by omega));have hszV:=hbel.size;clear hw hv hbel))
 have HS0:=hide ((SetQ.made wV).on (below_new (below_self (wV.alloc (.map #[] 0))) (.cells #[.int .i64 g.a,.int .i64 g.b,.int .i64 g.c,.int .i64 g.d,.slice AU nU cU,.slice AL nL cL,.slice AW n cW,.slice none 0 0,.map (some wV.heap.size)] 78)))
 have hal1:=below_new (below_self wV) (.map #[] 0)
 have hal2:=below_new (below_self (wV.alloc (.map #[] 0))) (.cells #[.int .i64 g.a,.int .i64 g.b,.int .i64 g.c,.int .i64 g.d,.slice AU nU cU,.slice AL nL cL,.slice AW n cW,.slice none 0 0,.map (some wV.heap.size)] 78)
 have HT0:=hide (show RowL ((wV.alloc (.map #[] 0)).alloc (.cells #[.int .i64 g.a,.int .i64 g.b,.int .i64 g.c,.int .i64 g.d,.slice AU nU cU,.slice AL nL cL,.slice AW n cW,.slice none 0 0,.map (some wV.heap.size)] 78)) (wV.heap.size+1) 78 (trC g (.slice AU nU cU) (.slice AL nL cL) (.slice AW n cW) (.slice none 0 0) (.map (some wV.heap.size))) from by
  have h1:=RowL.new (wV.alloc (.map #[] 0)) 78 (trC g (.slice AU nU cU) (.slice AL nL cL) (.slice AW n cW) (.slice none 0 0) (.map (some wV.heap.size)))
  rw [World.size_alloc] at h1
  exact h1)
 have hb3:=hal1.trans (hal2.mono hal1.size)
 have hs3:((wV.alloc (.map #[] 0)).alloc (.cells #[.int .i64 g.a,.int .i64 g.b,.int .i64 g.c,.int .i64 g.d,.slice AU nU cU,.slice AL nL cL,.slice AW n cW,.slice none 0 0,.map (some wV.heap.size)] 78)).heap.size=wV.heap.size+2:=by simp
 clear hal1 hal2 hmm
 generalize ((wV.alloc (.map #[] 0)).alloc (.cells #[.int .i64 g.a,.int .i64 g.b,.int .i64 g.c,.int .i64 g.d,.slice AU nU cU,.slice AL nL cL,.slice AW n cW,.slice none 0 0,.map (some wV.heap.size)] 78))=w3 at *
 have HB3:=hide (HB.out.trans (hb3.mono HB.out.size))
 have HW3:=hide (HW.out.mono (w':=w3) (Kept.of_below hb3 (fun _ hb2=>hb2.2)) (fun _ h=>h))
 have HV3:=hide (HV.out.under hb3 (Nat.le_refl _))
 obtain ⟨BV,hBVe⟩:∃BV,wV.heap.size=BV:=⟨_,rfl⟩
 have hs3':BV+2≤w3.heap.size:=by omega
 have hsV':W1.heap.size≤BV:=by omega
 rw [hBVe] at HS0 HT0 HV3 HW3 hs3 ⊢
 obtain ⟨gT,hgTe⟩:∃gT,BV+1=gT:=⟨_,rfl⟩
 rw [hgTe] at HT0 ⊢
 have hgT1:gT < w3.heap.size:=by omega
 have hgTB:BV < gT:=by omega
 clear hb3 HW HV HB R1 HU HL hW1' hs3 hBVe hgTe hszV
 go_wp2_with fail
 go_loopw [20] (fun v20 wr=>∃(j:Nat) (AC:Option Addr) (cC:Nat),j≤n∧v20=.int .i64 j∧RowL wr gT 78 (trC g (.slice AU nU cU) (.slice AL nL cL) (.slice AW n cW) (.slice AC j cC) (.map (some BV)))∧OwD prEn (fun _=>False) wr w3.heap.size 41 AC j cC ((TV.take j).map clmR)∧w3.grownBy wr (some gT)) (fun v20 _=>n - (intOf v20).toNat)
 case atStart=>exact ⟨0,none,0,by omega,rfl,HT0.out,OwD.nil_ _ _ _ _ (fun _ h=>h.elim),World.grownBy.refl _ _⟩
 case round =>
  obtain ⟨j,AC,cC,hj,rfl,hrt,ho,hg⟩:=hrel
  have hgs:=hg.size
  have RT:=hide hrt
  have HO2:=hide ho
  have HG:=hide hg
  have HVr:=hide (und_grown HV3.out hg (by omega) (by omega))
  clear hrt ho hg
  by_cases hlt:j < n
  ·obtain ⟨v,hv⟩:∃v,TV[j]?=some v:=⟨_,List.getElem?_eq_getElem (by omega)⟩
   obtain ⟨b1,o1,A2,c2,hAV,hbD,hcv,hp⟩:=view_get HVr.out hv
   have HCV:=hide hcv
   have HP:=hide hp
   have hvl:v.2.length≤1000:=by have h1:=HFW.out v (List.mem_of_getElem? hv);have h2:=HF.out.1;omega
   have HTK:=hide (show (TV.take (j+1)).map clmR=(TV.take j).map clmR++[clmR v] from by rw [List.take_add_one,hv,Option.toList_some,List.map_append];rfl)
   obtain ⟨q,hq⟩:∃q,clmR (v.1,v.2)=q:=⟨_,rfl⟩
   have HQ:=hide hq
   have HQ2:=hide (show clmR v=q from hq)
   have hjn:(j:Int) < (n:Int):=by omega
   subst hAV
   clear hv hcv hp hq hbD HVr
   go_wp2_with (first|(refine wpList_loadX rfl 80 (.tmp 22) rfl 2 viw_agg viw_size b1 (o1+j*2) rfl (viwC v.1 (.slice A2 v.2.length c2)) HCV.out rfl ?_)|(refine wpList_storeW rfl 80 (.tmp 7) (.tmp 23) rfl 2 viw_size (wr.heap.size) 80 rfl (viwC 0 (.slice none 0 0)) (viwC v.1 (.slice A2 v.2.length c2)) rfl (RowL.new wr 80 (viwC 0 (.slice none 0 0))) rfl rfl (viwC_one _ _ _ _) ?_;intro wS121 hr121 hg121 hs121;have hzb:=below_stored' hg121;replace HG:=hide (HG.out.trans ((grown_below hzb).but (some gT)));replace RT:=hide (RT.out.on hzb);replace HO2:=hide (HO2.out.grown (grown_below hzb) (by simp));replace HP:=hide (HP.out.under hzb (by omega));have hsz122:=hzb.size;have R7:=hide hr121;have hlt121:=hr121.lt;clear hzb hr121;clear hg121 hs121))
   rename World=>wj
   have hBV3:BV≤w3.heap.size:=by omega
   have HGj:=HG
   have RTj:=RT
   have HOj:=HO2
   have HPj:=HP
   have R7j:=hide (show RowL wj (wr.heap.size) 80 _ from R7.out)
   have hwj:=HG.out.size
   have hg7l:=R7.out.lt
   obtain ⟨g7,hg7e⟩:∃g7,wr.heap.size=g7:=⟨_,rfl⟩
   rw [hg7e] at R7j ⊢
   clear HG RT HO2 HP R7 hg7e 
   have hdr:=below_drew (below_self wj)
   refine wp_region_planP (fun w'=>RowL w' gT 78 (trC g (.slice AU nU cU) (.slice AL nL cL) (.slice AW n cW) (.slice AC j cC) (.map (some BV)))∧RowL w' g7 80 (viwC v.1 (.slice A2 v.2.length c2))∧Below w3.heap.size wj w') [(0,true),(1,true),(2,true),(3,true),(4,true),(5,true),(6,false),(7,false),(8,false),(9,true),(10,true)] 11 (by kernel_rfl) (by kernel_rfl) (by kernel_rfl) (by kernel_rfl) (by kernel_rfl) rfl (fun _ _ _ _ _ h=>h) ⟨RTj.out.on hdr,R7j.out.on hdr,hdr.mono (by omega)⟩ (fun hHeld=>?_)
   generalize wj.drew=wd at *
   simp only [planOps,List.filterMap_cons,List.filterMap_nil,List.getElem?_toArray,List.getElem?_cons_succ,List.getElem?_cons_zero,Option.map_some]
   iterate 4
    refine wpPlan_take (v:=?_) (by kernel_rfl) (fun wS hSw=>?_) ?_
    rotate_left
    ·(try dsimp only at hSw);go_simp;(try with_reducible rfl)
    (try simp only [Act.put,pu1,pu2,pu3])
   refine wpPlan_take (v:=?_) (by kernel_rfl) (fun wS hSw=>?_) ?_
   rotate_left
   ·have qx:=(hSw.1.cell 7).trans (show (trC g (.slice AU nU cU) (.slice AL nL cL) (.slice AW n cW) (.slice AC j cC) (.map (some BV)))[7]?=some (.slice AC j cC) from rfl);go_simp;(try with_reducible rfl)
   (try simp only [Act.put,pu1,pu2,pu3])
   refine wpPlan_take (v:=?_) (by kernel_rfl) (fun wS hSw=>?_) ?_
   rotate_left
   ·refine execOp_load (x:=.tmp 7) (k:=2) (g:=g7) (off:=0) (cs:=viwC v.1 (.slice A2 v.2.length c2)) ?_ viw_agg viw_size ?_ (fun j v hv=>by rw [Nat.zero_add];exact (hSw.2.1.cell j).trans hv) rfl <;> rfl
   (try simp only [Act.put,pu1,pu2,pu3])
   refine wpPlan_call (by kernel_rfl) (fun K hK=>?_)
   have hOld:=hide hHeld
   clear hHeld
   go_simp
   go_at_call 38
   refine (Claim_e (u:=v.1) (vl:=v.2) HQ.out _ (und_at HPj.out hOld.out.2.2 hBV3) (by have:=hOld.out.2.2.size;omega) hvl).mono ?_
   rintro e w' ⟨rfl,hbel⟩
   have HBC:=hide (hdr.trans (hbel.mono hdr.size))
   refine hK.out _ _ (⟨hOld.out.1.on hbel,hOld.out.2.1.on hbel,hOld.out.2.2.trans (hbel.mono (by have:=hOld.out.2.2.size;omega))⟩) (fun hHeld=>?_)
   clear hK K
   (try simp only [Act.put,pu1,pu2,pu3])
   refine wpPlan_call (by kernel_rfl) (fun K hK=>?_)
   have hOld:=hide hHeld
   clear hHeld
   unfold Oper.wp execOp
   have hlit:=lit_plcx q.1 q.2
   go_simp
   have hba:=below_new (below_self w') (.cells #[.int .i64 q.1,.int .i64 q.2] 41)
   refine hK.out _ _ (⟨hOld.out.1.on hba,hOld.out.2.1.on hba,hOld.out.2.2.trans (hba.mono (by have:=hOld.out.2.2.size;omega))⟩) (fun hHeld=>?_)
   clear hK K
   clear hlit
   have HBD:=hide (HBC.out.trans (hba.mono HBC.out.size))
   have hsd:=HBD.out.size
   (try simp only [Act.put,pu1,pu2,pu3])
   refine wpPlan_call (by kernel_rfl) (fun K hK=>?_)
   have hOld:=hide hHeld
   clear hHeld
   have HOL:=hide (HOj.out.grown (grown_below HBD.out) (by simp))
   refine wp_append_OwG (E:=prEn) _ (.tmp 28) (.tmp 31) 39 rfl w3.heap.size 41 zpr 16 Tryz.underlying39 plc_info rfl (by decide) (fun _=>False) AC j cC _ rfl HOL.out (fun h=>h) (fun b=>w'.heap.size≤b∧b < (w'.alloc (.cells #[.int .i64 q.1,.int .i64 q.2] 41)).heap.size) (some ⟨w'.heap.size,0,none⟩) 1 1 [q] rfl (enc_lit1 (E:=prEn) (x:=q) (cs:=[.int .i64 q.1,.int .i64 q.2]) (fun _ _=>rfl) w' 41 (Nat.le_refl _)) (j+1) rfl (by omega) (by omega) (by omega) (fun A9 c9 w9 ho9 hb9 hg9=>?_)
   refine hK.out _ _ (⟨hOld.out.1.grown hg9 (owe_apart HOL.out.own hOld.out.1 (by decide)),hOld.out.2.1.grown hg9 (owe_apart HOL.out.own hOld.out.2.1 (by decide)),hOld.out.2.2.trans hb9⟩) (fun hHeld=>?_)
   clear hK K
   have HO9:=hide ho9
   have HB9:=hide hb9
   clear ho9 hg9 hb9
   (try simp only [Act.put,pu1,pu2,pu3])
   iterate 2
    refine wpPlan_take (v:=?_) (by kernel_rfl) (fun wS hSw=>?_) ?_
    rotate_left
    ·(try dsimp only at hSw);go_simp;(try with_reducible rfl)
    (try simp only [Act.put,pu1,pu2,pu3])
   refine wpPlan_end ?_
   refine postL_go rfl (by kernel_rfl) ?_
   refine wp_storeVo 39 (.tmp 34) (.tmp 32) rfl plcs_size gT 7 78 rfl (.slice A9 (j+1) c9) rfl rfl rfl (trC g (.slice AU nU cU) (.slice AL nL cL) (.slice AW n cW) (.slice AC j cC) (.map (some BV))) hHeld.1 (by show 7 < 9;omega) ?_
   intro wE hrE hgE hsE
   have hrE':RowL wE gT 78 (trC g (.slice AU nU cU) (.slice AL nL cL) (.slice AW n cW) (.slice A9 (j+1) c9) (.map (some BV))):=hrE
   have HRE:=hide hrE'
   have HOE:=hide (HO9.out.grown hgE (fun g e=>⟨fun h=>h.elim,fun a ha e2=>by have h1:=HO9.out.base8 a ha;have h2:=Option.some.inj e;omega⟩))
   have HGE:=hide ((grown_low HGj.out hHeld.2.2).trans hgE)
   clear hHeld hrE hrE' hgE hsE HO9 HB9 HOL HBC HBD HGj RTj HOj HPj R7j hdr hba
   (try simp only [Act.put])
   go_wp2_with fail
   refine ⟨⟨j+1,A9,c9,by omega,by go_num,HRE.out,by rw [HTK.out,HQ2.out];exact HOE.out,HGE.out⟩,?_⟩
   simp [intOf]
   omega
  ·obtain rfl:j=n:=by omega
   have hjn:¬((j:Int) < (j:Int)):=by omega
   go_wp2_with fail
   go_ret
   have hall:TV.take j=TV:=List.take_of_length_le (by omega)
   have ho:=HO2.out
   rw [hall] at ho
   have hs0:=HS0.out.kept HG.out (by intro e;have:=Option.some.inj e;omega)
   refine ⟨gT,BV,0,AW,AC,cW,cC,wr.heap.size,rfl,⟨RT.out,?_,?_,hs0,by omega,by omega,by omega,Nat.le_refl _⟩,rfl,HB3.out.grown HG.out (by omega) (pu4 (by omega))⟩
   ·refine HW3.out.mono (w':=wr) (fun b hb=>HG.out.block b (by have:=hb.2;omega) (fun e=>by have h1:=Option.some.inj e;have h2:=hb.2;omega)) (fun b hb=>⟨by have:=hb.1;omega,by have:=hb.2;omega,by have:=hb.2;omega⟩)
   ·exact own_plq ho (fun b h1 h2=>⟨by omega,h2,by omega⟩)
end Go.Proofs.YtnhegahpfacdgaaGreat

namespace Go.Proofs.YtnhegahpfacdgaaGreat
open Go.RowKit Go.Shelf Plain

theorem lit_str1 (x:List UInt8) (W:World):(Instr.buildSlice 30 1 #[(0,.string ⟨x.toArray⟩)]).run Tryz.prog W=.ok (.slice (some ⟨W.heap.size,0,none⟩) 1 1) (W.alloc (.cells #[.string ⟨x.toArray⟩] 9)):=by
 obtain ⟨it,hi,hz,hsz,-⟩:=info_parts (show (Tryz.prog.info? 9).map (fun i=>(i.zero,i.size,i.bytes))=some (some (.string ⟨#[]⟩),1,16) from by kernel_rfl)
 refine run_buildSlice W _ 9 1 _ _ it (.string ⟨#[]⟩) Tryz.underlying30 hi hz (by omega) (by omega) ?_
 rw [hsz]
 have:=Great.fill_whole (s:=1) (by omega) [.string ⟨x.toArray⟩] ((Array.range (1*1)).map ((Value.string ⟨#[]⟩).cells[· % (Value.string ⟨#[]⟩).cells.size]!)) (by intro v hv;rw [List.mem_singleton] at hv;subst hv;simp [Value.cells]) (by simp)
 simpa [Value.cells] using this
end Go.Proofs.YtnhegahpfacdgaaGreat

namespace Go.Proofs.YtnhegahpfacdgaaGreat
open Go.RowKit Go.Shelf Plain

theorem eq_plcB {a b c d:Int} {r:Bool} (h:decide (a=c∧b=d)=r) (W:World):(binOp .eql 41 (.agg #[.int .i64 a,.int .i64 b]) (.agg #[.int .i64 c,.int .i64 d])).run Tryz.prog W=.ok (.bool r) W:=by
 subst h
 by_cases h1:a=c
 rotate_left
 ·simp [go_sem,h1]
 by_cases h2:b=d
 rotate_left
 ·simp [go_sem,h1,h2]
 simp [go_sem,h1,h2]
end Go.Proofs.YtnhegahpfacdgaaGreat

namespace Go.Proofs.YtnhegahpfacdgaaGreat
open Go.RowKit Go.Shelf Plain

theorem eq_txt (a b:List UInt8) (W:World):(binOp .eql 9 (.string ⟨a.toArray⟩) (.string ⟨b.toArray⟩)).run Tryz.prog W=.ok (.bool (a==b)) W:=by
 by_cases h:a=b
 ·simp [go_sem,h]
 ·simp [go_sem]
end Go.Proofs.YtnhegahpfacdgaaGreat

namespace Go.Proofs.YtnhegahpfacdgaaGreat
open Go.RowKit Go.Shelf Plain

theorem hcel {w w':World} {b o B:Nat} {p:Int×Int} (h:∀(j:Nat) (v:Value),(prC p)[j]?=some v→w.cell? ⟨b,o+j,none⟩=some v) (hb:Below B w w') (hlt:b < B):∀(j:Nat) (v:Value),(prC p)[j]?=some v→w'.cell? ⟨b,o+j,none⟩=some v:=fun j v hv=>(hb.cell (p:=⟨b,o+j,none⟩) hlt).trans (h j v hv)
end Go.Proofs.YtnhegahpfacdgaaGreat

namespace Go.Proofs.YtnhegahpfacdgaaGreat
open Go.RowKit Go.Shelf Plain

set_option maxRecDepth 100000 in
theorem ens_size:∀w,(Go.sizeOf 59).run Tryz.prog w=.ok 1 w:=fun _=>rfl
def hdl (k:Int):Bool:=decide (k=1)||decide (k=2)||decide (k=3)
end Go.Proofs.YtnhegahpfacdgaaGreat

namespace Go.Proofs.YtnhegahpfacdgaaGreat
open Go.RowKit Go.Shelf Plain

def Two (B lo:Nat) (w:World) (b:Nat):Prop:=b < B∨(lo≤b∧b < w.heap.size)
end Go.Proofs.YtnhegahpfacdgaaGreat

namespace Go.Proofs.YtnhegahpfacdgaaGreat
open Go.RowKit Go.Shelf Plain

theorem split_few (s:List UInt8):(splitS s).length≤1+s.length:=by
 obtain ⟨q1,q2⟩:=split_iff s
 rw [q2]
 split
 ·rename_i h
  rw [h] at q1
  have hc:cleanB s=true:=by
   cases hc:cleanB s with
   | true=>rfl
   | false=>rw [hc] at q1;cases q1
  exact (names_clean hc).2.2.1
 ·simp
end Go.Proofs.YtnhegahpfacdgaaGreat

namespace Go.Proofs.YtnhegahpfacdgaaGreat
open Go.RowKit Go.Shelf Plain

theorem TwoS.keep {Wx W:World} {base r5 t5 k5 r6 t6 k6:Nat} (h:TwoS Wx base r5 t5 k5 r6 t6 k6 W) {b o:Nat} (hb:b < Wx.heap.size) (h5:b≠r5) (h6:b≠r6):W.cell? ⟨b,o,none⟩=Wx.cell? ⟨b,o,none⟩:=World.cell?_of_block (w:=Wx) (h.1 b hb h5 h6)
end Go.Proofs.YtnhegahpfacdgaaGreat

namespace Go.Proofs.YtnhegahpfacdgaaGreat
open Go.RowKit
variable {α : Type} {E : Enc α}

theorem OwE.up [Tags] {w:World} {base b' e n c:Nat} {A:Option Addr} {l:List α} (h:OwE E w base e A n c l) (hb:∀a,A=some a→b'≤a.block):OwE E w b' e A n c l:=by
 obtain ⟨css,⟨h1,h2⟩,h3⟩:=h
 refine ⟨css,⟨h1,?_⟩,h3⟩
 rcases h2 with h2|⟨g,cap,cur,he,hbg,hr⟩
 ·exact .inl h2
 ·refine .inr ⟨g,cap,cur,he,?_,hr⟩
  simp only [Value.slice.injEq] at he
  exact hb _ he.1
theorem OwE.rowApart [Tags] {W:World} {base e n c g t:Nat} {A:Option Addr} {l:List α} {cs:List Value} (ho:OwE E W base e A n c l) (hr:RowL W g t cs) (h:t≠e):some g≠(Value.slice A n c).ownBlock:=by
 obtain ⟨css,hrow,-⟩:=ho
 exact row_apart hrow hr h
theorem OwE.ltB [Tags] {w:World} {base e n c:Nat} {A:Option Addr} {l:List α} (h:OwE E w base e A n c l):∀a,A=some a→a.block < w.heap.size:=by
 obtain ⟨css,⟨h1,h2⟩,h3⟩:=h
 intro a ha
 rcases h2 with ⟨h2,-⟩|⟨g,cap,cur,he,hbg,hr,-⟩
 ·simp only [Value.slice.injEq] at h2
  rw [h2.1] at ha;cases ha
 ·simp only [Value.slice.injEq] at he
  rw [he.1] at ha
  cases ha
  exact (Array.getElem?_eq_some_iff.1 hr).1
theorem run_append_lit1 [Tags] {P : Program} (w : World) (base : Nat) (t ty e : TypeId) (z : Value) (k : Nat) (ht : P.underlying t = some (.slice e)) (hinfo : (P.info? e).map (fun i => (i.zero, i.size, i.bytes)) = some (some z, E.k, k)) (hzs : z.cells.size = E.k) (hk : 0 < E.k)
  (p:Nat) (hown:OwE E w base e (some ⟨p,0,none⟩) 0 0 []) (D:Nat→Prop) (A:Option Addr) (m c:Nat) (l1:List α) (hb:RdE E w D A m l1) (hD:∀b,D b→But w (some ⟨p,0,none⟩) b) (hm:0 < m)
  (hbytes:m*k≤140737488355328) (hnm:m≤140737488355328) (hbase:base≤w.heap.size) :
  ∃A' c' w',(Builtin.append_ #[t,t] ty #[.slice (some ⟨p,0,none⟩) 0 0,.slice A m c]).run P w=.ok (.slice A' m c') w'∧OwE E w' base e A' m c' l1∧Below w.heap.size w w'∧∀a,A'=some a→w.heap.size≤a.block:=by
 obtain ⟨i,hi,hz,hsz,hby⟩:=info_parts hinfo
 obtain ⟨A',c',w',hr,ho,_⟩:=run_append_OwE (P:=P) w base t ty e z k ht hinfo hzs hk _ 0 0 [] hown D A m c l1 hb hD (by rw [Nat.zero_add];exact hbytes) (by omega) hbase
 rw [Nat.zero_add] at hr ho
 rw [List.nil_append] at ho
 refine ⟨A',c',w',hr,ho,?_⟩
 obtain ⟨b,o,dss,rfl,_,hC,hcell⟩:=hb.cells hm
 have hfl:=flat_len hC.lens
 have h2:=run_append_grow (P:=P) w t ty e i z ht hi hz ⟨p,0,none⟩ 0 0 [] (by simp) (by simp) ⟨b,o,none⟩ m c dss.flatten (by rw [hfl,hC.1,hb.1,hsz]) (fun j u hu=>by
  have:=hcell j u hu
  rw [←this]
  congr 1
  unfold Addr.add
  split
  ·rename_i h0;subst h0;rfl
  ·rfl) (by omega) (by omega) (growslice_fits (by omega) (by subst hby;simpa using hbytes))
 rw [Nat.zero_add] at h2
 rw [h2] at hr
 cases hr
 exact ⟨(Below.refl _ _).drew.alloc (Nat.le_refl _) _,fun a ha=>by cases ha;exact Nat.le_refl _⟩
theorem wp_append_lit1 [Tags] {P : Program} (w : World) {o : Oper} {a : Act} {K : Act → World → Prop} {Q : Exit → Act → World → Prop} (s x : Operand) (t : TypeId)
  (ho:o.op=.call {callee:=.builtin .append,args:=#[s,x],argTypes:=#[t,t]})
  (base:Nat) (e:TypeId) (z:Value) (k:Nat) (ht:P.underlying t=some (.slice e)) (hinfo:(P.info? e).map (fun i=>(i.zero,i.size,i.bytes))=some (some z,E.k,k)) (hzs:z.cells.size=E.k) (hk:0 < E.k)
  (p:Nat) (hs:a.eval s=.slice (some ⟨p,0,none⟩) 0 0) (hown:OwE E w base e (some ⟨p,0,none⟩) 0 0 []) (D:Nat→Prop) (A:Option Addr) (m c:Nat) (l1:List α) (hx:a.eval x=.slice A m c) (hb:RdE E w D A m l1) (hD:∀b,D b→But w (some ⟨p,0,none⟩) b) (hm:0 < m)
  (hbytes:m*k≤140737488355328) (hnm:m≤140737488355328) (hbase:base≤w.heap.size)
  (h:∀A' c' w',OwE E w' base e A' m c' l1→Below w.heap.size w w'→(∀a,A'=some a→w.heap.size≤a.block)→K (a.put o.dst (.slice A' m c')) w'):o.wp P a w K Q:=by
 obtain ⟨A',c',w',hr,h2,h3,h4⟩:=run_append_lit1 (P:=P) w base t o.type e z k ht hinfo hzs hk p hown D A m c l1 hb hD hm hbytes hnm hbase
 unfold Oper.wp execOp
 simp only [ho,resolve,invoke,builtin,Sem.run_bind,Sem.run_pure,Result.andThen_ok,List.map_toArray,List.map_cons,List.map_nil,hs,hx,hr]
 exact h A' c' w' h2 h3 h4
def OwL [Tags] (E:Enc α) (w:World) (base lo e:Nat) (A:Option Addr) (n c:Nat) (l:List α):Prop:=OwE E w lo e A n c l∨∃p,A=some ⟨p,0,none⟩∧n=0∧c=0∧l=[]∧OwE E w base e (some ⟨p,0,none⟩) 0 0 []
theorem OwL.below [Tags] {w w':World} {base lo e n c:Nat} {A:Option Addr} {l:List α} (h:OwL E w base lo e A n c l) (hb:Below w.heap.size w w'):OwL E w' base lo e A n c l:=by
 rcases h with h|⟨p,h1,h2,h3,h4,h5⟩
 ·exact .inl (h.below hb)
 ·exact .inr ⟨p,h1,h2,h3,h4,h5.below hb⟩
theorem OwL.ltB [Tags] {w:World} {base lo e n c:Nat} {A:Option Addr} {l:List α} (h:OwL E w base lo e A n c l):∀a,A=some a→a.block < w.heap.size:=by
 rcases h with h|⟨p,rfl,-,-,-,h5⟩
 ·exact h.ltB
 ·exact h5.ltB
theorem OwL.read [Tags] {w:World} {base lo e n c:Nat} {A:Option Addr} {l:List α} (h:OwL E w base lo e A n c l) (ht:Tags.bad e=false):RdE E w (Under w.heap.size) A n l:=by
 rcases h with h|⟨p,rfl,rfl,rfl,rfl,-⟩
 ·exact (h.rd ht).plain
 ·exact RdE.none_ _ _ _ _
theorem OwL.len [Tags] {w:World} {base lo e n c:Nat} {A:Option Addr} {l:List α} (h:OwL E w base lo e A n c l):l.length=n:=by
 rcases h with h|⟨p,rfl,rfl,rfl,rfl,-⟩
 ·exact h.len
 ·rfl
theorem wp_append_OwL [Tags] {P : Program} (w : World) {o : Oper} {a : Act} {K : Act → World → Prop} {Q : Exit → Act → World → Prop} (s x : Operand) (t : TypeId)
  (ho:o.op=.call {callee:=.builtin .append,args:=#[s,x],argTypes:=#[t,t]})
  (base lo:Nat) (e:TypeId) (z:Value) (k:Nat) (ht:P.underlying t=some (.slice e)) (hinfo:(P.info? e).map (fun i=>(i.zero,i.size,i.bytes))=some (some z,E.k,k)) (hzs:z.cells.size=E.k) (hk:0 < E.k)
  (A0:Option Addr) (n c0:Nat) (l0:List α) (hs:a.eval s=.slice A0 n c0) (hown:OwL E w base lo e A0 n c0 l0) (D:Nat→Prop) (A:Option Addr) (m c:Nat) (l1:List α) (hx:a.eval x=.slice A m c) (hb:RdE E w D A m l1) (hD:∀b,D b→But w A0 b) (hm:0 < m)
  (N:Nat) (hN:n+m=N) (hbytes:N*k≤140737488355328) (hnm:N≤140737488355328) (hbase:base≤w.heap.size) (hlo:lo≤w.heap.size)
  (h:∀A' c' w',OwE E w' lo e A' N c' (l0++l1)→Below lo w w'→(∀g t cs,RowL w g t cs→t≠e→RowL w' g t cs)→K (a.put o.dst (.slice A' N c')) w'):o.wp P a w K Q:=by
 rcases hown with hown|⟨p,rfl,rfl,rfl,rfl,hown⟩
 ·exact wp_append_OwK w s x t ho lo e z k ht hinfo hzs hk A0 n c0 l0 hs hown D A m c l1 hx hb hD hm N hN hbytes hnm hlo fun A' c' w' h1 h2 _ h4=>h A' c' w' h1 h2 fun g t cs hr hne=>hr.grown h4 (OwE.rowApart hown hr hne)
 ·have hN':m=N:=by omega
  subst hN'
  refine wp_append_lit1 w s x t ho base e z k ht hinfo hzs hk p hs hown D A m c l1 hx hb hD hm hbytes hnm hbase fun A' c' w' h1 h2 h3=>?_
  exact h A' c' w' (h1.up fun a ha=>Nat.le_trans hlo (h3 a ha)) (h2.mono hlo) fun g t cs hr _=>hr.on h2
theorem wpList_append_OwL [Tags] {P : Program} (w : World) {ops : Array Oper} {rest : List Oper} {o : Oper} {a : Act} {Q : Exit → Act → World → Prop} (hgd : o.guard = none) (s x : Operand) (t : TypeId)
  (ho:o.op=.call {callee:=.builtin .append,args:=#[s,x],argTypes:=#[t,t]})
  (base lo:Nat) (e:TypeId) (z:Value) (k:Nat) (ht:P.underlying t=some (.slice e)) (hinfo:(P.info? e).map (fun i=>(i.zero,i.size,i.bytes))=some (some z,E.k,k)) (hzs:z.cells.size=E.k) (hk:0 < E.k)
  (A0:Option Addr) (n c0:Nat) (l0:List α) (hs:a.eval s=.slice A0 n c0) (hown:OwL E w base lo e A0 n c0 l0) (D:Nat→Prop) (A:Option Addr) (m c:Nat) (l1:List α) (hx:a.eval x=.slice A m c) (hb:RdE E w D A m l1) (hD:∀b,D b→But w A0 b) (hm:0 < m)
  (N:Nat) (hN:n+m=N) (hbytes:N*k≤140737488355328) (hnm:N≤140737488355328) (hbase:base≤w.heap.size) (hlo:lo≤w.heap.size)
  (h:∀A' c' w',OwE E w' lo e A' N c' (l0++l1)→Below lo w w'→(∀g t cs,RowL w g t cs→t≠e→RowL w' g t cs)→wpList P ops Q rest (a.put o.dst (.slice A' N c')) w'):wpList P ops Q (o::rest) a w :=
 wpList_plain hgd fun _ hK=>wp_append_OwL w s x t ho base lo e z k ht hinfo hzs hk A0 n c0 l0 hs hown D A m c l1 hx hb hD hm N hN hbytes hnm hbase hlo (fun A' c' w' h1 h2 h3=>hK _ _ (h A' c' w' h1 h2 h3))
end Go.Proofs.YtnhegahpfacdgaaGreat

namespace Go.Proofs.YtnhegahpfacdgaaGreat
open Go.RowKit Go.Shelf Plain

theorem finW_info:(Tryz.prog.info? 36).map (fun i=>(i.zero,i.size,i.bytes))=some (some (.agg #[.int .i64 0,.int .i64 0,.int .i64 0,.int .i64 0]),4,32):=by kernel_rfl
theorem litW_fin (a b c d:Int) (W:World):(Instr.buildSlice 34 1 #[(0,.agg #[.int .i64 a,.int .i64 b,.int .i64 c,.int .i64 d])]).run Tryz.prog W=.ok (.slice (some ⟨W.heap.size,0,none⟩) 1 1) (W.alloc (.cells #[.int .i64 a,.int .i64 b,.int .i64 c,.int .i64 d] 36)):=by
 obtain ⟨it,hi,hz,hsz,-⟩:=info_parts finW_info
 refine run_buildSlice W _ 36 1 _ _ it (.agg #[.int .i64 0,.int .i64 0,.int .i64 0,.int .i64 0]) Tryz.underlying34 hi hz (by omega) (by omega) ?_
 rw [hsz]
 have:=Great.fill_whole (s:=4) (by omega) [.agg #[.int .i64 a,.int .i64 b,.int .i64 c,.int .i64 d]] ((Array.range (1*4)).map ((Value.agg #[.int .i64 0,.int .i64 0,.int .i64 0,.int .i64 0]).cells[· % (Value.agg #[.int .i64 0,.int .i64 0,.int .i64 0,.int .i64 0]).cells.size]!)) (by intro v hv;rw [List.mem_singleton] at hv;subst hv;simp [Value.cells]) (by simp)
 simpa [Value.cells] using this
def FinsO (w:World) (l:List FinV) (e:Ending) (w':World):Prop:=∃A n c,e=.returned (.slice A n c)∧RdE finEn w' (Under w'.heap.size) A n l∧Below w.heap.size w w'
end Go.Proofs.YtnhegahpfacdgaaGreat

namespace Go.Proofs.YtnhegahpfacdgaaGreat
open Go.RowKit Go.Shelf Plain

def clO : Nat → Int
 | 0=>8
 | 1=>13
 | _=>14
def ClW (w:World):Prop:=∀j,j < 3→w.cell? ⟨0,j,none⟩=some (.int .i64 (clO j))
theorem ClW.lt {w:World} (h:ClW w):0 < w.heap.size:=block_lt_of_cell (h 0 (by omega))
theorem ClW.below {w w':World} (h:ClW w) (hb:Below w.heap.size w w'):ClW w':=fun j hj=>(hb.cell (p:=⟨0,j,none⟩) h.lt).trans (h j hj)
def RchR (w:World) (lo hi:Nat) (A:Option Addr) (n:Nat) (rs:List Bool):Prop:=(rs.length=n∧(0 < n→∃b o,A=some ⟨b,o,none⟩∧lo≤b∧b < hi∧∀i x,rs[i]?=some x→w.cell? ⟨b,o+i,none⟩=some (.bool x)))∧hi≤w.heap.size
theorem rch_rd {w:World} {lo hi n:Nat} {A:Option Addr} {rs:List Bool} (h:RchR w lo hi A n rs):Rd Value.bool w w.heap.size A n rs:=⟨h.1.1,fun hn=>by
 obtain ⟨b,o,e,h1,h2,hc⟩:=h.1.2 hn
 exact ⟨b,o,e,Nat.lt_of_lt_of_le h2 h.2,hc⟩⟩
def ReachO (w:World) (rs:List Bool) (e:Ending) (w':World):Prop:=∃A n c lo hi,e=.returned (.slice A n c)∧w.heap.size≤lo∧RchR w' lo hi A n rs∧Below w.heap.size w w'
theorem lit_one (W:World):(Instr.buildSlice 71 1 #[(0,.int .i64 1)]).run Tryz.prog W=.ok (.slice (some ⟨W.heap.size,0,none⟩) 1 1) (W.alloc (.cells #[.int .i64 1] 3)):=by
 obtain ⟨it,hi,hz,hsz,-⟩:=info_parts (show (Tryz.prog.info? 3).map (fun i=>(i.zero,i.size,i.bytes))=some (some (.int .i64 0),1,8) from by kernel_rfl)
 refine run_buildSlice W _ 3 1 _ _ it (.int .i64 0) Tryz.underlying71 hi hz (by omega) (by omega) ?_
 rw [hsz]
 have:=Great.fill_whole (s:=1) (by omega) [.int .i64 1] ((Array.range (1*1)).map ((Value.int .i64 0).cells[· % (Value.int .i64 0).cells.size]!)) (by intro v hv;rw [List.mem_singleton] at hv;subst hv;simp [Value.cells]) (by simp)
 simpa [Value.cells] using this
theorem one_row {w:World} {g:Nat} (h:RowL w g 3 [.int .i64 1]):RdE Enc.int w (Under w.heap.size) (some ⟨g,0,none⟩) 1 [1]:=by
 refine ⟨rfl,fun _=>⟨g,0,rfl,h.lt,fun i x hx=>⟨[.int .i64 x],rfl,fun j v hv=>?_⟩⟩⟩
 have hi:i=0:=by have:=(List.getElem?_eq_some_iff.1 hx).1;simpa using this
 subst hi
 obtain rfl:1=x:=by simpa using hx
 have hj:j=0:=by have:=(List.getElem?_eq_some_iff.1 hv).1;simpa using this
 subst hj
 obtain rfl:Value.int .i64 1=v:=by simpa using hv
 exact h.cell 0
theorem nod_cells {w:World} {D:Nat→Prop} {A:Option Addr} {n i:Nat} {l:List NodV} {x:NodV} (h:RdE nodEn w D A n l) (hx:l[i]?=some x):∃b o A0 n0 k0 C0 m0 d0,A=some ⟨b,o,none⟩∧D b∧∀k v,(nodC x (.slice A0 n0 k0) (.slice C0 m0 d0))[k]?=some v→w.cell? ⟨b,o+i*13+k,none⟩=some v:=by
 have hj:i < l.length:=(List.getElem?_eq_some_iff.1 hx).1
 obtain ⟨b,o,e,hD,hc⟩:=h.2 (by have:=h.1;omega)
 obtain ⟨cs,⟨A0,n0,k0,C0,m0,d0,rfl,-⟩,hcs⟩:=hc i x hx
 exact ⟨b,o,A0,n0,k0,C0,m0,d0,e,hD,fun k v hv=>by have h1:=hcs k v hv;rw [show nodEn.k=13 from rfl,←Nat.add_assoc] at h1;exact h1⟩
theorem OReach_any {A F:Option Addr} {n c k d:Nat} {ns:List NodV} {rs:List Bool} (hr:reachL ns (walkW ns [1]).1=rs) (w:World) (h:RdE nodEn w (Under w.heap.size) A n ns) (hf:RdE Enc.int w (Under w.heap.size) F k [1]) (hM:Many ns):Calls Tryz.prog 22 #[.agg #[.slice A n c],.slice F k d] w (ReachO w rs):=by
 refine (Reach_any w h hf hM (by have:=hf.1;simp at this;omega)).mono ?_
 rw [hr]
 rintro e w' ⟨A,n,c,rfl,-,hd,hb,hlo⟩
 exact ⟨A,n,c,w.heap.size,w'.heap.size,rfl,Nat.le_refl _,⟨⟨hd.1,fun hn=>by obtain ⟨b,o,e,h1,hc⟩:=hd.2 hn;exact ⟨b,o,e,hlo b o e,h1,hc⟩⟩,Nat.le_refl _⟩,hb⟩
theorem OFin_R (x:FinV):∀(w:World) (D:Nat→Prop),finEn.R w D (finC x) x:=fun _ _=>rfl
theorem rd_cell {w:World} {B b o n:Nat} {rs:List Bool} (h:Rd Value.bool w B (some ⟨b,o,none⟩) n rs) {i:Nat} {r:Bool} (hi:rs[i]?=some r):w.cell? ⟨b,o+i,none⟩=some (.bool r):=by
 obtain ⟨b',o',e,-,hc⟩:=h.2 (by have:=(List.getElem?_eq_some_iff.1 hi).1;have:=h.1;omega)
 cases e
 exact hc i r hi
theorem rd_some {w:World} {B n:Nat} {A:Option Addr} {rs:List Bool} (h:Rd Value.bool w B A n rs) (hn:0 < n):∃b o,A=some ⟨b,o,none⟩:=by
 obtain ⟨b',o',e,-⟩:=h.2 hn
 exact ⟨b',o',e⟩
end Go.Proofs.YtnhegahpfacdgaaGreat

