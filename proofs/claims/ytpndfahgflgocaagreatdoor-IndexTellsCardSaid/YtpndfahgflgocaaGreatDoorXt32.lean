import Derived.Test.YtpndfahgflgocaaGreatDoorXt31
import Derived.Test.YtpndfahgflgocaaGreatDoorXt12
import Derived.Test.YtpndfahgflgocaaGreatDoorXt4

namespace Go.Proofs.YtpndfahgflgocaaGreatDoor
open Go.RowKit Go.Shelf Plain

theorem finX_info:(Tryz.prog.info? 37).map (fun i=>(i.zero,i.size,i.bytes))=some (some (.agg #[.int .i64 0,.int .i64 0,.int .i64 0,.int .i64 0]),4,32):=by kernel_rfl
theorem litX_fin (a b c d:Int) (W:World):(Instr.buildSlice 35 1 #[(0,.agg #[.int .i64 a,.int .i64 b,.int .i64 c,.int .i64 d])]).run Tryz.prog W=.ok (.slice (some ⟨W.heap.size,0,none⟩) 1 1) (W.alloc (.cells #[.int .i64 a,.int .i64 b,.int .i64 c,.int .i64 d] 37)):=by
 obtain ⟨it,hi,hz,hsz,-⟩:=info_parts finX_info
 refine run_buildSlice W _ 37 1 _ _ it (.agg #[.int .i64 0,.int .i64 0,.int .i64 0,.int .i64 0]) Tryz.underlying35 hi hz (by omega) (by omega) ?_
 rw [hsz]
 have:=Great.fill_whole (s:=4) (by omega) [.agg #[.int .i64 a,.int .i64 b,.int .i64 c,.int .i64 d]] ((Array.range (1*4)).map ((Value.agg #[.int .i64 0,.int .i64 0,.int .i64 0,.int .i64 0]).cells[· % (Value.agg #[.int .i64 0,.int .i64 0,.int .i64 0,.int .i64 0]).cells.size]!)) (by intro v hv;rw [List.mem_singleton] at hv;subst hv;simp [Value.cells]) (by simp)
 simpa [Value.cells] using this
def FinsX (w:World) (l:List FinV) (e:Ending) (w':World):Prop:=∃A n c,e=.returned (.slice A n c)∧RdE finEn w' (Under w'.heap.size) A n l∧Below w.heap.size w w'
theorem encX_lit1 {α:Type} {E:Enc α} {x:α} {cs:List Value} (hR:∀w D,E.R w D cs x) (W:World) (t:Nat) {lo:Nat} (hlo:lo≤W.heap.size):RdE E (W.alloc (.cells cs.toArray t)) (fun b=>lo≤b∧b < (W.alloc (.cells cs.toArray t)).heap.size) (some ⟨W.heap.size,0,none⟩) 1 [x]:=by
 refine ⟨rfl,fun _=>⟨_,_,rfl,⟨hlo,by simp⟩,fun i y hy=>⟨cs,?_,fun j v hv=>?_⟩⟩⟩
 ·have hi:i=0:=by have:=(List.getElem?_eq_some_iff.1 hy).1;simpa using this
  subst hi
  obtain rfl:x=y:=by simpa using hy
  exact hR _ _
 ·have hi:i=0:=by have:=(List.getElem?_eq_some_iff.1 hy).1;simpa using this
  subst hi
  rw [Nat.zero_mul,Nat.zero_add,Nat.zero_add,(RowL.new W t cs).cell]
  exact hv
theorem OwE.ltX {α:Type} {E:Enc α} {w:World} {base e n c:Nat} {A:Option Addr} {l:List α} (h:OwE E w base e A n c l):∀a,A=some a→a.block < w.heap.size:=by
 obtain ⟨css,hrow,-,-⟩:=h
 intro a ha
 subst ha
 rcases hrow.2 with ⟨h0,-⟩|⟨g,cap,cur,h0,-,hg,-⟩
 ·cases h0
 ·cases h0
  exact (Array.getElem?_eq_some_iff.1 hg).1
theorem finX_R (x:FinV):∀(w:World) (D:Nat→Prop),finEn.R w D (finC x) x:=fun _ _=>rfl
theorem rowX_succ {up:List NodV} {ls:List (List NodV)} {rs:List Bool} {es:List EntV} {j:Nat} {e:EntV} {b:Bool} (h:es[j]?=some e) (hb:badX up ls rs e=b):rowX up ls rs es (j+1)=if b=true then rowX up ls rs es j++[⟨16,0,3,e.slot⟩] else rowX up ls rs es j:=by
 subst hb
 show (match es[j]? with|some e=>_|none=>_)=_
 rw [h]
theorem wrkX_succ {l:List FinV} {es:List EntV} {j:Nat} {e:EntV} (h:es[j]?=some e):wrkX l es (j+1)=wrkX l es j++[⟨17,0,2,e.slot⟩]:=by
 show (match es[j]? with|some e=>_|none=>_)=_
 rw [h]
set_option maxRecDepth 100000 in
set_option maxHeartbeats 16000000 in
theorem XFinds_any {g:GeoQ} {AU AL:Option Addr} {nU cU nL cL B:Nat} {up:List NodV} {ls:List (List NodV)} {rs:List Bool} (hrs:reachL up (walkW up [1]).1=rs) (w:World) (hu:RdE nodEn w (Under B) AU nU up) (h:RdE layEn w (Under B) AL nL ls) (hB:B≤w.heap.size) (hF:FewL ls) (hup:FewU up) (hw:HanW w):Calls Tryz.prog 9 #[.agg (stkC g (.slice AU nU cU) (.slice AL nL cL)).toArray] w (FinsX w (findX up ls rs)):=by
 obtain ⟨W1,hW1⟩:∃W1,w.alloc (.cells (stkC g (.slice AU nU cU) (.slice AL nL cL)).toArray 29)=W1:=⟨_,rfl⟩
 obtain ⟨r0,hb1,hs1⟩:=rowA1 w _ _ hW1
 have hW1':w.alloc (.cells #[.int .i64 g.a,.int .i64 g.b,.int .i64 g.c,.int .i64 g.d,.slice AU nU cU,.slice AL nL cL] 29)=W1:=hW1
 have R2:=hide r0
 have HB:=hide hb1
 have HU:=hide (hu.under hb1 hB)
 have HL:=hide (h.under hb1 hB)
 have HF:=hide hF
 have HFU:=hide hup
 have HW:=hide (hw.below hb1)
 have HRS:=hide hrs
 have HRL:=hide (show rs.length=up.length from by rw [←hrs,reachL_len])
 have hs1':w.heap.size+1≤W1.heap.size:=by omega
 obtain ⟨EL,hEL⟩:∃EL,entB up 3=EL:=⟨_,rfl⟩
 obtain ⟨WL,hWL⟩:∃WL,entB up 2=WL:=⟨_,rfl⟩
 have HEL:=hide hEL
 have HWL:=hide hWL
 have hl16:=entB_len hup.2 3
 have hw16:=entB_len hup.2 2
 rw [hEL] at hl16
 rw [hWL] at hw16
 have hnm:∀e∈EL,e.name.length≤1000:=fun e he=>by
  rw [←hEL] at he
  unfold entB at he
  split at he
  ·have h1:=nameB_len ((nodAt_plain hup.2 3).2.2.2.2.2.2 e he)
   omega
  ·cases he
 have HNM:=hide hnm
 unfold stkC
 clear hW1 r0 hb1 hu h hF hup hs1 hw hrs hEL hWL hnm
 go_enter Tryz.func9,Tryz.ntmps9
 go_wp2_with (first|(refine wpList_loadW rfl 29 (.tmp 1) rfl 6 stk_agg stk_size (w.heap.size) 29 rfl (stkC g (.slice AU nU cU) (.slice AL nL cL)) R2.out rfl ?_)|(go_at_call 25;refine (XBegin_any (g:=g) (AL:=AL) (nL:=nL) (cU:=cU) (cL:=cL) HRS.out W1 HU.out (by omega) HFU.out).mono ?_;rintro e1 wA ⟨AR,nR,cR,rfl,hrd,hbA⟩;have HRD:=hide hrd;replace HB:=hide (HB.out.trans (hbA.mono (by omega)));replace HU:=hide (HU.out.under hbA (by omega));replace HL:=hide (HL.out.under hbA (by omega));replace HW:=hide (HW.out.below hbA);have hzA:=hbA.size;clear hbA hrd)|(refine wpList_storeW rfl 59 (.tmp 3) (.tmp 10) rfl 7 tix_size (wA.heap.size) 59 rfl (tixC ⟨0,0,0,0⟩ (.slice none 0 0) (.slice none 0 0) (.slice none 0 0)) (tixC g (.slice AU nU cU) (.slice AL nL cL) (.slice AR nR cR)) rfl (RowL.new wA 59 (tixC ⟨0,0,0,0⟩ (.slice none 0 0) (.slice none 0 0) (.slice none 0 0))) rfl rfl (tixC_one _ _ _ _ _ _ _ _ _ _) ?_;intro wB hrB hgB hsB;have hbB:=below_stored' hgB;have RT:=hide hrB;have hltB:=hrB.lt;replace HB:=hide (HB.out.trans (hbB.mono (by omega)));replace HU:=hide (HU.out.under hbB (by omega));replace HL:=hide (HL.out.under hbB (by omega));replace HW:=hide (HW.out.below hbB);replace HRD:=hide (HRD.out.below hbB);have hzB:=hbB.size;clear hrB hgB hsB hbB)|(refine wpList_loadW rfl 59 (.tmp 3) rfl 7 tix_agg tix_size (wA.heap.size) 59 rfl (tixC g (.slice AU nU cU) (.slice AL nL cL) (.slice AR nR cR)) RT.out rfl ?_)|(go_at_call 26;refine (XEnts_any (g:=g) (AL:=AL) (nL:=nL) (cU:=cU) (cL:=cL) (cR:=cR) HEL.out wB HU.out (by omega) HFU.out).mono ?_;rintro e1 w5 ⟨C,m,d,rfl,hmd,he,hbC⟩;have HE:=hide he;replace HB:=hide (HB.out.trans (hbC.mono (by omega)));replace HU:=hide (HU.out.under hbC (by omega));replace HL:=hide (HL.out.under hbC (by omega));replace HW:=hide (HW.out.below hbC);replace HRD:=hide (HRD.out.below (hbC.mono (by omega)));replace RT:=hide (RT.out.on hbC);have hzC:=hbC.size;clear hbC he))
 have hEm:=HE.out.1
 have hm16:m≤16:=by omega
 have HEM:=hide hEm
 clear hEm hl16 hW1'
 have HB5:=HB
 go_loopw [4,14] (fun v4 v14 wr=>∃(j n4:Nat) (A4:Option Addr) (c4:Nat),j≤m∧v14=.int .i64 j∧v4=.slice A4 n4 c4∧n4≤j∧OwE finEn wr w5.heap.size 37 A4 n4 c4 (rowX up ls rs EL j)∧Below w5.heap.size w5 wr) (fun _ v14 _=>m - (intOf v14).toNat)
 case atStart=>exact ⟨0,0,none,0,by omega,rfl,rfl,by omega,OwE.nil_ _ _ _ _,below_self _⟩
 case round =>
  obtain ⟨j,n4,A4,c4,hj,rfl,rfl,hn4,ho,hbr⟩:=hrel
  have HO:=hide ho
  have HBR:=hide hbr
  have hbsz:=hbr.size
  have RTr:=hide (RT.out.on hbr)
  clear ho hbr
  by_cases hlt:j < m
  ·obtain ⟨e,he⟩:∃e,EL[j]?=some e:=⟨_,List.getElem?_eq_getElem (by have:=HEM.out;omega)⟩
   obtain ⟨bE,oE,rfl,hbE,hcE⟩:=ent_get (HE.out.under HBR.out (by omega)) he
   have HCE:=hide hcE
   have HNL:=hide (HNM.out e (List.mem_of_getElem? he))
   have hjm:(j:Int) < (m:Int):=by omega
   obtain ⟨b,hb⟩:∃b,badX up ls rs e=b:=⟨_,rfl⟩
   have HBD:=hide hb
   have HST:=hide (rowX_succ he hb)
   clear he hcE hb
   cases b with
   | true =>
    go_wp2_with (first|(refine wpList_loadX rfl 31 (.tmp 16) rfl 3 ixe_agg ixe_size bE (oE+j*3) rfl (cellsE e) HCE.out rfl ?_)|(refine wpList_storeW rfl 31 (.tmp 6) (.tmp 17) rfl 3 ixe_size (wr.heap.size) 31 rfl [.int .i64 0,.int .i64 0,.string ⟨#[]⟩] (cellsE e) rfl (RowL.new wr 31 [.int .i64 0,.int .i64 0,.string ⟨#[]⟩]) rfl rfl (cellsE_one e) ?_;intro w6 hr6 hg6 hs6;have hb6:=below_stored' hg6;have R6:=hide hr6;have HBR6:=hide (HBR.out.trans (hb6.mono (by omega)));have RT6:=hide (RTr.out.on hb6);have hz6:=hb6.size;have HO6:=hide (HO.out.below hb6);clear hr6 hg6 hs6 hb6)|(refine wpList_loadW rfl 59 (.tmp 3) rfl 7 tix_agg tix_size (wA.heap.size) 59 rfl (tixC g (.slice AU nU cU) (.slice AL nL cL) (.slice AR nR cR)) RT6.out rfl ?_)|(refine wpList_loadW rfl 31 (.tmp 6) rfl 3 ixe_agg ixe_size (wr.heap.size) 31 rfl (cellsE e) R6.out rfl ?_)|(go_at_call 27;refine (XBad_any (g:=g) (cU:=cU) (cL:=cL) (cR:=cR) HBD.out w6 (HU.out.under HBR6.out (by omega)) (HL.out.under HBR6.out (by omega)) (by omega) HF.out HFU.out ((HRD.out.below (HBR6.out.mono (by omega))).upto (by omega)) HRL.out HNL.out (HW.out.below HBR6.out)).mono ?_;rintro e8 w8 ⟨rfl,hb8⟩;have HBR8:=hide (HBR6.out.trans (hb8.mono (by omega)));have HO8:=hide (HO6.out.below hb8);have qe_0:w8.cell? ⟨wr.heap.size,0,none⟩=some (.int .i64 e.slot):=(R6.out.on hb8).cell 0;have hlit:=litX_fin 16 0 3 e.slot w8;have hz8:=hb8.size;clear hb8)|(at_builtin;have hba:=below_new (below_self w8) (.cells (finC ⟨16,0,3,e.slot⟩).toArray 37);refine wpList_append_OwE (E:=finEn) _ rfl (.tmp 21) (.tmp 25) 35 rfl w5.heap.size 37 (.agg #[.int .i64 0,.int .i64 0,.int .i64 0,.int .i64 0]) 32 Tryz.underlying35 finX_info rfl (by decide) A4 n4 c4 _ rfl (HO8.out.below hba) (fun b=>w8.heap.size≤b∧b < (w8.alloc (.cells (finC ⟨16,0,3,e.slot⟩).toArray 37)).heap.size) (some ⟨w8.heap.size,0,none⟩) 1 1 [⟨16,0,3,e.slot⟩] rfl (encX_lit1 (finX_R ⟨16,0,3,e.slot⟩) w8 37 (Nat.le_refl _)) (fun b hb=>⟨⟨hb.2,fun _ _ _ _=>rfl⟩,fun a ha=>(fun e=>by have h1:=hb.1;rw [e] at h1;have:=OwE.ltX HO8.out a ha;omega)⟩) (n4+1) rfl (by omega) (by omega) (by simp;omega) ?_;intro A9 c9 w9 ho9 hb9;have HO9:=hide ho9;have HB9:=hide ((HBR8.out.alloc (by omega) _).trans hb9);clear ho9 hb9 hba))
    go_roundw
    case rel=>exact ⟨j+1,n4+1,A9,c9,by omega,by go_num,rfl,by omega,by (first|rw [HST.out,if_pos rfl]|rw [HST.out,if_pos trivial]);exact HO9.out,HB9.out⟩
    case measure=>simp [intOf];omega
   | false =>
    go_wp2_with (first|(refine wpList_loadX rfl 31 (.tmp 16) rfl 3 ixe_agg ixe_size bE (oE+j*3) rfl (cellsE e) HCE.out rfl ?_)|(refine wpList_storeW rfl 31 (.tmp 6) (.tmp 17) rfl 3 ixe_size (wr.heap.size) 31 rfl [.int .i64 0,.int .i64 0,.string ⟨#[]⟩] (cellsE e) rfl (RowL.new wr 31 [.int .i64 0,.int .i64 0,.string ⟨#[]⟩]) rfl rfl (cellsE_one e) ?_;intro w6 hr6 hg6 hs6;have hb6:=below_stored' hg6;have R6:=hide hr6;have HBR6:=hide (HBR.out.trans (hb6.mono (by omega)));have RT6:=hide (RTr.out.on hb6);have hz6:=hb6.size;have HO6:=hide (HO.out.below hb6);clear hr6 hg6 hs6 hb6)|(refine wpList_loadW rfl 59 (.tmp 3) rfl 7 tix_agg tix_size (wA.heap.size) 59 rfl (tixC g (.slice AU nU cU) (.slice AL nL cL) (.slice AR nR cR)) RT6.out rfl ?_)|(refine wpList_loadW rfl 31 (.tmp 6) rfl 3 ixe_agg ixe_size (wr.heap.size) 31 rfl (cellsE e) R6.out rfl ?_)|(go_at_call 27;refine (XBad_any (g:=g) (cU:=cU) (cL:=cL) (cR:=cR) HBD.out w6 (HU.out.under HBR6.out (by omega)) (HL.out.under HBR6.out (by omega)) (by omega) HF.out HFU.out ((HRD.out.below (HBR6.out.mono (by omega))).upto (by omega)) HRL.out HNL.out (HW.out.below HBR6.out)).mono ?_;rintro e8 w8 ⟨rfl,hb8⟩;have HBR8:=hide (HBR6.out.trans (hb8.mono (by omega)));have HO8:=hide (HO6.out.below hb8);have qe_0:w8.cell? ⟨wr.heap.size,0,none⟩=some (.int .i64 e.slot):=(R6.out.on hb8).cell 0;have hlit:=litX_fin 16 0 3 e.slot w8;have hz8:=hb8.size;clear hb8))
    go_roundw
    case rel=>exact ⟨j+1,n4,A4,c4,by omega,by go_num,rfl,by omega,by rw [HST.out,if_neg (by simp)];exact HO8.out,HBR8.out⟩
    case measure=>simp [intOf];omega
  ·obtain rfl:j=m:=by omega
   have hEj:EL.length=j:=HEM.out
   replace HU:=hide (HU.out.under HBR.out (by omega))
   replace HL:=hide (HL.out.under HBR.out (by omega))
   replace HW:=hide (HW.out.below HBR.out)
   replace HB:=hide (HB.out.trans (HBR.out.mono (by have:=HB.out.size;omega)))
   have RT:=RTr
   have hBw:B≤w5.heap.size:=by omega
   go_wp2_with (first|(refine wpList_loadW rfl 59 (.tmp 3) rfl 7 tix_agg tix_size (wA.heap.size) 59 rfl (tixC g (.slice AU nU cU) (.slice AL nL cL) (.slice AR nR cR)) RT.out rfl ?_)|(go_at_call 26;refine (XEnts_any (g:=g) (AL:=AL) (nL:=nL) (cU:=cU) (cL:=cL) (cR:=cR) HWL.out wr HU.out (by omega) HFU.out).mono ?_;rintro e1 w15 ⟨C2,m2,d2,rfl,hmd2,he,hbC⟩;have HE2:=hide he;replace HB:=hide (HB.out.trans (hbC.mono (by omega)));replace HU:=hide (HU.out.under hbC (by omega));replace HL:=hide (HL.out.under hbC (by omega));replace HW:=hide (HW.out.below hbC);replace RT:=hide (RT.out.on hbC);replace HO:=hide (HO.out.below hbC);have HBR2:=hide (HBR.out.trans (hbC.mono (by omega)));have hzC:=hbC.size;clear hbC he))
   have hEm2:=HE2.out.1
   have hm216:m2≤16:=by omega
   have HEM2:=hide hEm2
   clear hEm2 hw16
   obtain ⟨L1,hL1⟩:∃L1,rowX up ls rs EL j=L1:=⟨_,rfl⟩
   rw [hL1] at HO
   have HL1:=hide hL1
   clear hL1
   go_loopw [4,31] (fun v4 v31 wr2=>∃(j2 n4:Nat) (A4:Option Addr) (c4:Nat),j2≤m2∧v31=.int .i64 j2∧v4=.slice A4 n4 c4∧n4≤j+j2∧OwE finEn wr2 w5.heap.size 37 A4 n4 c4 (wrkX L1 WL j2)∧Below w5.heap.size w5 wr2∧RdE entEn wr2 (Under B) C2 m2 WL) (fun _ v31 _=>m2 - (intOf v31).toNat)
   case atStart=>exact ⟨0,n4,A4,c4,by omega,rfl,rfl,by omega,HO.out,HBR2.out,HE2.out⟩
   case round =>
    clear HO HBR HE2
    obtain ⟨j2,n4,A4,c4,hj2,rfl,rfl,hn4,ho,hbr,he2⟩:=hrel
    have HO:=hide ho
    have HBR:=hide hbr
    have HE2:=hide he2
    have hbsz2:=hbr.size
    clear ho hbr he2
    by_cases hlt2:j2 < m2
    ·obtain ⟨e,he⟩:∃e,WL[j2]?=some e:=⟨_,List.getElem?_eq_getElem (by have:=HEM2.out;omega)⟩
     obtain ⟨bE,oE,rfl,hbE,hcE⟩:=ent_get HE2.out he
     have HCE:=hide hcE
     have hjm2:(j2:Int) < (m2:Int):=by omega
     have HST:=hide (wrkX_succ (l:=L1) he)
     clear he hcE
     go_wp2_with (first|(refine wpList_loadX rfl 31 (.tmp 33) rfl 3 ixe_agg ixe_size bE (oE+j2*3) rfl (cellsE e) HCE.out rfl ?_)|(refine wpList_storeW rfl 31 (.tmp 8) (.tmp 34) rfl 3 ixe_size (wr.heap.size) 31 rfl [.int .i64 0,.int .i64 0,.string ⟨#[]⟩] (cellsE e) rfl (RowL.new wr 31 [.int .i64 0,.int .i64 0,.string ⟨#[]⟩]) rfl rfl (cellsE_one e) ?_;intro w6 hr6 hg6 hs6;have hb6:=below_stored' hg6;have R6:=hide hr6;have HBR6:=hide (HBR.out.trans (hb6.mono (by omega)));have hz6:=hb6.size;have HO6:=hide (HO.out.below hb6);have HE6:=hide (HE2.out.under hb6 (by omega));have qe_0:w6.cell? ⟨wr.heap.size,0,none⟩=some (.int .i64 e.slot):=R6.out.cell 0;have hlit:=litX_fin 17 0 2 e.slot w6;clear hr6 hg6 hs6 hb6)|(at_builtin;have hba:=below_new (below_self w6) (.cells (finC ⟨17,0,2,e.slot⟩).toArray 37);refine wpList_append_OwE (E:=finEn) _ rfl (.tmp 35) (.tmp 39) 35 rfl w5.heap.size 37 (.agg #[.int .i64 0,.int .i64 0,.int .i64 0,.int .i64 0]) 32 Tryz.underlying35 finX_info rfl (by decide) A4 n4 c4 _ rfl (HO6.out.below hba) (fun b=>w6.heap.size≤b∧b < (w6.alloc (.cells (finC ⟨17,0,2,e.slot⟩).toArray 37)).heap.size) (some ⟨w6.heap.size,0,none⟩) 1 1 [⟨17,0,2,e.slot⟩] rfl (encX_lit1 (finX_R ⟨17,0,2,e.slot⟩) w6 37 (Nat.le_refl _)) (fun b hb=>⟨⟨hb.2,fun _ _ _ _=>rfl⟩,fun a ha=>(fun e=>by have h1:=hb.1;rw [e] at h1;have:=OwE.ltX HO6.out a ha;omega)⟩) (n4+1) rfl (by omega) (by omega) (by simp;omega) ?_;intro A9 c9 w9 ho9 hb9;have HO9:=hide ho9;have HB9:=hide ((HBR6.out.alloc (by omega) _).trans hb9);have HE9:=hide (und_at HE6.out (((below_new (below_self w6) _).mono (by omega:w5.heap.size≤w6.heap.size)).trans hb9) (by omega));clear ho9 hb9 hba))
     go_roundw
     case rel=>exact ⟨j2+1,n4+1,A9,c9,by omega,by go_num,rfl,by omega,by rw [HST.out];exact HO9.out,HB9.out,HE9.out⟩
     case measure=>simp [intOf];omega
    ·obtain rfl:j2=m2:=by omega
     have hfx:findX up ls rs=wrkX L1 WL j2:=by
      unfold findX
      rw [HEL.out,HWL.out,HEM.out,HEM2.out,HL1.out]
     go_wp2_with fail
     go_ret
     exact ⟨A4,n4,c4,rfl,by rw [hfx];exact (HO.out.rd rfl).plain,HB5.out.trans (HBR.out.mono (by have:=HB5.out.size;omega))⟩
end Go.Proofs.YtpndfahgflgocaaGreatDoor

namespace Go.Proofs.YtpndfahgflgocaaGreatDoor
open Go.RowKit
variable {α : Type} {E : Enc α}

theorem OwE.up [Tags] {w:World} {base b' e n c:Nat} {A:Option Addr} {l:List α} (h:OwE E w base e A n c l) (hb:∀a,A=some a→b'≤a.block):OwE E w b' e A n c l:=by
 obtain ⟨css,⟨h1,h2⟩,h3⟩:=h
 refine ⟨css,⟨h1,?_⟩,h3⟩
 rcases h2 with h2|⟨g,cap,cur,he,hbg,hr⟩
 ·exact .inl h2
 ·refine .inr ⟨g,cap,cur,he,?_,hr⟩
  simp only [Value.slice.injEq] at he
  exact hb _ he.1
theorem OwE.rowApart [Tags] {W:World} {base e n c g t:Nat} {A:Option Addr} {l:List α} {cs:List Value} (ho:OwE E W base e A n c l) (hr:RowL W g t cs) (h:t≠e):some g≠(Value.slice A n c).ownBlock:=by
 obtain ⟨css,hrow,-⟩:=ho
 exact row_apart hrow hr h
theorem OwE.ltB [Tags] {w:World} {base e n c:Nat} {A:Option Addr} {l:List α} (h:OwE E w base e A n c l):∀a,A=some a→a.block < w.heap.size:=by
 obtain ⟨css,⟨h1,h2⟩,h3⟩:=h
 intro a ha
 rcases h2 with ⟨h2,-⟩|⟨g,cap,cur,he,hbg,hr,-⟩
 ·simp only [Value.slice.injEq] at h2
  rw [h2.1] at ha;cases ha
 ·simp only [Value.slice.injEq] at he
  rw [he.1] at ha
  cases ha
  exact (Array.getElem?_eq_some_iff.1 hr).1
theorem run_append_lit1 [Tags] {P : Program} (w : World) (base : Nat) (t ty e : TypeId) (z : Value) (k : Nat) (ht : P.underlying t = some (.slice e)) (hinfo : (P.info? e).map (fun i => (i.zero, i.size, i.bytes)) = some (some z, E.k, k)) (hzs : z.cells.size = E.k) (hk : 0 < E.k)
  (p:Nat) (hown:OwE E w base e (some ⟨p,0,none⟩) 0 0 []) (D:Nat→Prop) (A:Option Addr) (m c:Nat) (l1:List α) (hb:RdE E w D A m l1) (hD:∀b,D b→But w (some ⟨p,0,none⟩) b) (hm:0 < m)
  (hbytes:m*k≤140737488355328) (hnm:m≤140737488355328) (hbase:base≤w.heap.size) :
  ∃A' c' w',(Builtin.append_ #[t,t] ty #[.slice (some ⟨p,0,none⟩) 0 0,.slice A m c]).run P w=.ok (.slice A' m c') w'∧OwE E w' base e A' m c' l1∧Below w.heap.size w w'∧∀a,A'=some a→w.heap.size≤a.block:=by
 obtain ⟨i,hi,hz,hsz,hby⟩:=info_parts hinfo
 obtain ⟨A',c',w',hr,ho,_⟩:=run_append_OwE (P:=P) w base t ty e z k ht hinfo hzs hk _ 0 0 [] hown D A m c l1 hb hD (by rw [Nat.zero_add];exact hbytes) (by omega) hbase
 rw [Nat.zero_add] at hr ho
 rw [List.nil_append] at ho
 refine ⟨A',c',w',hr,ho,?_⟩
 obtain ⟨b,o,dss,rfl,_,hC,hcell⟩:=hb.cells hm
 have hfl:=flat_len hC.lens
 have h2:=run_append_grow (P:=P) w t ty e i z ht hi hz ⟨p,0,none⟩ 0 0 [] (by simp) (by simp) ⟨b,o,none⟩ m c dss.flatten (by rw [hfl,hC.1,hb.1,hsz]) (fun j u hu=>by
  have:=hcell j u hu
  rw [←this]
  congr 1
  unfold Addr.add
  split
  ·rename_i h0;subst h0;rfl
  ·rfl) (by omega) (by omega) (growslice_fits (by omega) (by subst hby;simpa using hbytes))
 rw [Nat.zero_add] at h2
 rw [h2] at hr
 cases hr
 exact ⟨(Below.refl _ _).drew.alloc (Nat.le_refl _) _,fun a ha=>by cases ha;exact Nat.le_refl _⟩
theorem wp_append_lit1 [Tags] {P : Program} (w : World) {o : Oper} {a : Act} {K : Act → World → Prop} {Q : Exit → Act → World → Prop} (s x : Operand) (t : TypeId)
  (ho:o.op=.call {callee:=.builtin .append,args:=#[s,x],argTypes:=#[t,t]})
  (base:Nat) (e:TypeId) (z:Value) (k:Nat) (ht:P.underlying t=some (.slice e)) (hinfo:(P.info? e).map (fun i=>(i.zero,i.size,i.bytes))=some (some z,E.k,k)) (hzs:z.cells.size=E.k) (hk:0 < E.k)
  (p:Nat) (hs:a.eval s=.slice (some ⟨p,0,none⟩) 0 0) (hown:OwE E w base e (some ⟨p,0,none⟩) 0 0 []) (D:Nat→Prop) (A:Option Addr) (m c:Nat) (l1:List α) (hx:a.eval x=.slice A m c) (hb:RdE E w D A m l1) (hD:∀b,D b→But w (some ⟨p,0,none⟩) b) (hm:0 < m)
  (hbytes:m*k≤140737488355328) (hnm:m≤140737488355328) (hbase:base≤w.heap.size)
  (h:∀A' c' w',OwE E w' base e A' m c' l1→Below w.heap.size w w'→(∀a,A'=some a→w.heap.size≤a.block)→K (a.put o.dst (.slice A' m c')) w'):o.wp P a w K Q:=by
 obtain ⟨A',c',w',hr,h2,h3,h4⟩:=run_append_lit1 (P:=P) w base t o.type e z k ht hinfo hzs hk p hown D A m c l1 hb hD hm hbytes hnm hbase
 unfold Oper.wp execOp
 simp only [ho,resolve,invoke,builtin,Sem.run_bind,Sem.run_pure,Result.andThen_ok,List.map_toArray,List.map_cons,List.map_nil,hs,hx,hr]
 exact h A' c' w' h2 h3 h4
def OwL [Tags] (E:Enc α) (w:World) (base lo e:Nat) (A:Option Addr) (n c:Nat) (l:List α):Prop:=OwE E w lo e A n c l∨∃p,A=some ⟨p,0,none⟩∧n=0∧c=0∧l=[]∧OwE E w base e (some ⟨p,0,none⟩) 0 0 []
theorem OwL.below [Tags] {w w':World} {base lo e n c:Nat} {A:Option Addr} {l:List α} (h:OwL E w base lo e A n c l) (hb:Below w.heap.size w w'):OwL E w' base lo e A n c l:=by
 rcases h with h|⟨p,h1,h2,h3,h4,h5⟩
 ·exact .inl (h.below hb)
 ·exact .inr ⟨p,h1,h2,h3,h4,h5.below hb⟩
theorem OwL.ltB [Tags] {w:World} {base lo e n c:Nat} {A:Option Addr} {l:List α} (h:OwL E w base lo e A n c l):∀a,A=some a→a.block < w.heap.size:=by
 rcases h with h|⟨p,rfl,-,-,-,h5⟩
 ·exact h.ltB
 ·exact h5.ltB
theorem OwL.read [Tags] {w:World} {base lo e n c:Nat} {A:Option Addr} {l:List α} (h:OwL E w base lo e A n c l) (ht:Tags.bad e=false):RdE E w (Under w.heap.size) A n l:=by
 rcases h with h|⟨p,rfl,rfl,rfl,rfl,-⟩
 ·exact (h.rd ht).plain
 ·exact RdE.none_ _ _ _ _
theorem OwL.len [Tags] {w:World} {base lo e n c:Nat} {A:Option Addr} {l:List α} (h:OwL E w base lo e A n c l):l.length=n:=by
 rcases h with h|⟨p,rfl,rfl,rfl,rfl,-⟩
 ·exact h.len
 ·rfl
theorem wp_append_OwL [Tags] {P : Program} (w : World) {o : Oper} {a : Act} {K : Act → World → Prop} {Q : Exit → Act → World → Prop} (s x : Operand) (t : TypeId)
  (ho:o.op=.call {callee:=.builtin .append,args:=#[s,x],argTypes:=#[t,t]})
  (base lo:Nat) (e:TypeId) (z:Value) (k:Nat) (ht:P.underlying t=some (.slice e)) (hinfo:(P.info? e).map (fun i=>(i.zero,i.size,i.bytes))=some (some z,E.k,k)) (hzs:z.cells.size=E.k) (hk:0 < E.k)
  (A0:Option Addr) (n c0:Nat) (l0:List α) (hs:a.eval s=.slice A0 n c0) (hown:OwL E w base lo e A0 n c0 l0) (D:Nat→Prop) (A:Option Addr) (m c:Nat) (l1:List α) (hx:a.eval x=.slice A m c) (hb:RdE E w D A m l1) (hD:∀b,D b→But w A0 b) (hm:0 < m)
  (N:Nat) (hN:n+m=N) (hbytes:N*k≤140737488355328) (hnm:N≤140737488355328) (hbase:base≤w.heap.size) (hlo:lo≤w.heap.size)
  (h:∀A' c' w',OwE E w' lo e A' N c' (l0++l1)→Below lo w w'→(∀g t cs,RowL w g t cs→t≠e→RowL w' g t cs)→K (a.put o.dst (.slice A' N c')) w'):o.wp P a w K Q:=by
 rcases hown with hown|⟨p,rfl,rfl,rfl,rfl,hown⟩
 ·exact wp_append_OwK w s x t ho lo e z k ht hinfo hzs hk A0 n c0 l0 hs hown D A m c l1 hx hb hD hm N hN hbytes hnm hlo fun A' c' w' h1 h2 _ h4=>h A' c' w' h1 h2 fun g t cs hr hne=>hr.grown h4 (OwE.rowApart hown hr hne)
 ·have hN':m=N:=by omega
  subst hN'
  refine wp_append_lit1 w s x t ho base e z k ht hinfo hzs hk p hs hown D A m c l1 hx hb hD hm hbytes hnm hbase fun A' c' w' h1 h2 h3=>?_
  exact h A' c' w' (h1.up fun a ha=>Nat.le_trans hlo (h3 a ha)) (h2.mono hlo) fun g t cs hr _=>hr.on h2
theorem wpList_append_OwL [Tags] {P : Program} (w : World) {ops : Array Oper} {rest : List Oper} {o : Oper} {a : Act} {Q : Exit → Act → World → Prop} (hgd : o.guard = none) (s x : Operand) (t : TypeId)
  (ho:o.op=.call {callee:=.builtin .append,args:=#[s,x],argTypes:=#[t,t]})
  (base lo:Nat) (e:TypeId) (z:Value) (k:Nat) (ht:P.underlying t=some (.slice e)) (hinfo:(P.info? e).map (fun i=>(i.zero,i.size,i.bytes))=some (some z,E.k,k)) (hzs:z.cells.size=E.k) (hk:0 < E.k)
  (A0:Option Addr) (n c0:Nat) (l0:List α) (hs:a.eval s=.slice A0 n c0) (hown:OwL E w base lo e A0 n c0 l0) (D:Nat→Prop) (A:Option Addr) (m c:Nat) (l1:List α) (hx:a.eval x=.slice A m c) (hb:RdE E w D A m l1) (hD:∀b,D b→But w A0 b) (hm:0 < m)
  (N:Nat) (hN:n+m=N) (hbytes:N*k≤140737488355328) (hnm:N≤140737488355328) (hbase:base≤w.heap.size) (hlo:lo≤w.heap.size)
  (h:∀A' c' w',OwE E w' lo e A' N c' (l0++l1)→Below lo w w'→(∀g t cs,RowL w g t cs→t≠e→RowL w' g t cs)→wpList P ops Q rest (a.put o.dst (.slice A' N c')) w'):wpList P ops Q (o::rest) a w :=
 wpList_plain hgd fun _ hK=>wp_append_OwL w s x t ho base lo e z k ht hinfo hzs hk A0 n c0 l0 hs hown D A m c l1 hx hb hD hm N hN hbytes hnm hbase hlo (fun A' c' w' h1 h2 h3=>hK _ _ (h A' c' w' h1 h2 h3))
end Go.Proofs.YtpndfahgflgocaaGreatDoor

