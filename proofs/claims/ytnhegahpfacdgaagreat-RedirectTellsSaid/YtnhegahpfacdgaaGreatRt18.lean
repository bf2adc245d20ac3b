import Derived.Test.YtnhegahpfacdgaaGreatRt17
import Derived.Test.YtnhegahpfacdgaaGreatRt9
import Derived.Test.YtnhegahpfacdgaaGreatRt10
import Derived.Test.YtnhegahpfacdgaaGreatRt1
import Derived.Lib.SlicesCompact
import Derived.Sort.Row
import Derived.Sort.OwnSorted
import Derived.Lib.RowBridge
import Derived.Test.YtnhegahpfacdgaaGreatRt4
import Derived.Test.YtnhegahpfacdgaaGreatRt8
import Derived.Test.YtnhegahpfacdgaaGreatRt3
import Derived.Test.YtnhegahpfacdgaaGreatRt2
import Derived.StillTailTactics
import Derived.Test.YtnhegahpfacdgaaGreatProg

namespace Go.Proofs.YtnhegahpfacdgaaGreat
open Go.RowKit Go.Shelf Plain

def rootsL : List (List NodV) → Nat → List (Int × Int)
 | [],_=>[]
 | ns::r,j=>if (nodAt ns 1).k=1 then (if opq (nodAt ns 1)=true then [((j:Int)+1,1)] else ((j:Int)+1,1)::rootsL r (j+1)) else rootsL r (j+1)
theorem low_get {ls:List (List NodV)} {j:Nat} {ns:List NodV} {i:Int} (h:ls[j]?=some ns):lowAt ls ((j:Int)+1) i=nodAt ns i:=by
 have hj:=(List.getElem?_eq_some_iff.1 h).1
 unfold lowAt
 rw [if_pos ⟨by omega,by omega⟩,show ((j:Int)+1 - 1).toNat=j by omega,h]
 rfl
set_option maxRecDepth 100000 in
set_option maxHeartbeats 8000000 in
theorem Roots_f {g:GeoQ} {AU AL:Option Addr} {nU cU nL cL:Nat} {ls:List (List NodV)} (w:World) (h:RdE layEn w (Under w.heap.size) AL nL ls) (hF:FewL ls) :
  Calls Tryz.prog 86 #[.agg (stkC g (.slice AU nU cU) (.slice AL nL cL)).toArray] w (PlcsF w (rootsL ls 0)):=by
 have r0:=RowL.new w 29 (stkC g (.slice AU nU cU) (.slice AL nL cL))
 have hb1:=below_new (below_self w) (.cells (stkC g (.slice AU nU cU) (.slice AL nL cL)).toArray 29)
 obtain ⟨W1,hW1⟩:∃W1,w.alloc (.cells (stkC g (.slice AU nU cU) (.slice AL nL cL)).toArray 29)=W1:=⟨_,rfl⟩
 rw [hW1] at r0 hb1
 have hW1':w.alloc (.cells #[.int .i64 g.a,.int .i64 g.b,.int .i64 g.c,.int .i64 g.d,.slice AU nU cU,.slice AL nL cL] 29)=W1:=hW1
 have q5:W1.cell? ⟨w.heap.size,5,none⟩=some (.slice AL nL cL):=r0.cell 5
 have hm:ls.length≤100:=by have:=hF.1;omega
 have HM2:=hide (fun ns (hh:ns∈ls)=>(show ns.length≤1000 from Nat.le_trans (hF.2 ns hh).1 (by omega)))
 have R0:=hide r0
 have HB1:=hide hb1
 have hs1:=hb1.size
 have HL:=hide (h.under hb1 (Nat.le_refl _))
 have hnL:nL≤3∧ls.length≤nL∧nL≤ls.length:=by have:=h.1;have:=hF.1;omega
 have HF:=hide hF
 obtain ⟨R,hR⟩:∃R,rootsL ls 0=R:=⟨_,rfl⟩
 rw [hR]
 have HR:=hide hR
 have HO0:=hide (own_lit0 W1 41 2 (base:=W1.heap.size) rfl (Nat.le_refl _))
 have HW0:=hide (below_new (below_self W1) (.cells #[] 41))
 unfold stkC
 clear r0 hb1 hW1 h hF hR
 go_enter Tryz.func86,Tryz.ntmps86
 go_wp2_with fail
 clear hW1' q5
 go_loopw [3,10] (fun v3 v10 wr=>∃(j:Nat) (acc:List (Int×Int)) (A:Option Addr) (c:Nat),j≤nL∧v10=.int .i64 j∧v3=.slice A acc.length c∧acc.length≤j∧wr.ownsRow W1.heap.size 41 2 (.slice A acc.length c) acc.length (flatR acc)∧Below W1.heap.size W1 wr∧acc++rootsL (ls.drop j) j=R) (fun v3 v10 _=>nL - (intOf v10).toNat)
 case atStart=>exact ⟨0,[],none,0,by omega,rfl,rfl,Nat.le_refl _,World.ownsRow_nil _ _ _ _,below_self _,by rw [List.drop_zero];exact HR.out⟩
 case round =>
  obtain ⟨j,acc,A,c,hj,rfl,rfl,hal,ho,hbr,hfin⟩:=hrel
  have HO:=hide ho
  have HBR:=hide hbr
  have HFI:=hide hfin
  have hbsz:=hbr.size
  have R0r:=hide (R0.out.on hbr)
  clear ho hbr hfin
  by_cases hlt:j < nL
  ·obtain ⟨ns,hns⟩:∃ns,ls[j]?=some ns:=⟨_,List.getElem?_eq_getElem (by omega)⟩
   obtain ⟨N,hN⟩:∃N,nodAt ns 1=N:=⟨_,rfl⟩
   have hLN:lowAt ls ((j:Int)+1) 1=N:=(low_get hns).trans hN
   have hath:=(low_plain HF.out ((j:Int)+1) 1).2.2.1
   rw [hLN] at hath
   have HLN:=hide hLN
   obtain ⟨bk,hbk⟩:∃bk,(N.k != 1)=bk:=⟨_,rfl⟩
   obtain ⟨op,hop⟩:∃op,opq N=op:=⟨_,rfl⟩
   have HMarked_b:=hide hop
   have e:=HFI.out
   have hjl:=(List.getElem?_eq_some_iff.1 hns).1
   rw [List.drop_eq_getElem_cons hjl,(List.getElem?_eq_some_iff.1 hns).2] at e
   unfold rootsL at e
   rw [hN,hop] at e
   have HE:=hide (show (if bk=false then (if op=true then acc++[((j:Int)+1,1)] else (acc++[((j:Int)+1,1)])++rootsL (ls.drop (j+1)) (j+1)) else acc++rootsL (ls.drop (j+1)) (j+1))=R from by
    rw [←e,←hbk]
    by_cases hk:N.k=1 <;> cases op <;> simp [hk])
   have HZP:=hide (RowL.new wr 41 (prC (0,0)))
   have hjn:(j:Int) < (nL:Int):=by omega
   have hj3:(j:Int)+1≤(nL:Int):=by omega
   clear hns hN hLN hop e
   cases bk with
   | true =>
    go_wp2_with (first|(refine wpList_storeW rfl 41 (.tmp 5) (.tmp 15) rfl 2 plc_size wr.heap.size 41 rfl (prC (0,0)) (prC ((j:Int)+1,1)) rfl HZP.out rfl rfl (prC_one _) ?_;intro w6 hr6 hg6 hs6;have hb6:=below_stored' hg6;have R6:=hide hr6;have HB6:=hide hb6;have R06:=hide (R0r.out.on hb6);have hs6l:=hb6.size;clear hr6 hg6 hs6 hb6)|(refine wpList_loadW rfl 29 (.tmp 1) rfl 6 stk_agg stk_size w.heap.size 29 rfl (stkC g (.slice AU nU cU) (.slice AL nL cL)) R06.out rfl ?_)|(refine wpList_loadW rfl 41 (.tmp 5) rfl 2 plc_agg plc_size wr.heap.size 41 rfl (prC ((j:Int)+1,1)) R6.out rfl ?_)|(go_at_call 102;refine (NLower_e HLN.out w6 (HL.out.under (HBR.out.trans (HB6.out.mono hbsz)) hs1) (by omega) hm HM2.out).mono ?_;rintro ez w7 ⟨A1,n1,c1,C1,m1,d1,rfl,e2,e3,e4,e5,hb7⟩;have HB7:=hide (HB6.out.trans (hb7.mono hs6l));have hs7l:=hb7.size;have HZN:=hide (RowL.new w7 65 (nodC nod0 (.slice none 0 0) (.slice none 0 0)));have R67:=hide (R6.out.on hb7);clear e3 e5 hb7)|(refine wpList_storeW rfl 65 (.tmp 6) (.tmp 18) rfl 13 nod_size w7.heap.size 65 rfl (nodC nod0 (.slice none 0 0) (.slice none 0 0)) (nodC N (.slice A1 n1 c1) (.slice C1 m1 d1)) rfl HZN.out rfl rfl (nodC_one _ _ _ _ _ _ _) ?_;intro w9 hr9 hg9 hs9;have hb9:=below_stored' hg9;have qk:w9.cell? ⟨w7.heap.size,0,none⟩=some (.int .i64 N.k):=hr9.cell 0;have HR6:=hide hr9;have HR5:=hide (R67.out.on hb9);have HB9:=hide (HB7.out.trans (hb9.mono (by omega)));have hs9l:=HB9.out.size;clear hr9 hg9 hs9 hb9))
    go_roundw
    case rel=>exact ⟨j+1,acc,A,c,by omega,by go_num,rfl,by omega,ownsRow_below HO.out HB9.out,HBR.out.trans (HB9.out.mono hbsz),by have:=HE.out;simpa using this⟩
    case measure=>simp [intOf];omega
   | false =>
    have HLEN:=hide (show (acc++[((j:Int)+1,(1:Int))]).length=acc.length+1 by simp)
    go_wp2_with (first|(refine wpList_storeW rfl 41 (.tmp 5) (.tmp 15) rfl 2 plc_size wr.heap.size 41 rfl (prC (0,0)) (prC ((j:Int)+1,1)) rfl HZP.out rfl rfl (prC_one _) ?_;intro w6 hr6 hg6 hs6;have hb6:=below_stored' hg6;have R6:=hide hr6;have HB6:=hide hb6;have R06:=hide (R0r.out.on hb6);have hs6l:=hb6.size;clear hr6 hg6 hs6 hb6)|(refine wpList_loadW rfl 29 (.tmp 1) rfl 6 stk_agg stk_size w.heap.size 29 rfl (stkC g (.slice AU nU cU) (.slice AL nL cL)) R06.out rfl ?_)|(refine wpList_loadW rfl 41 (.tmp 5) rfl 2 plc_agg plc_size wr.heap.size 41 rfl (prC ((j:Int)+1,1)) R6.out rfl ?_)|(go_at_call 102;refine (NLower_e HLN.out w6 (HL.out.under (HBR.out.trans (HB6.out.mono hbsz)) hs1) (by omega) hm HM2.out).mono ?_;rintro ez w7 ⟨A1,n1,c1,C1,m1,d1,rfl,e2,e3,e4,e5,hb7⟩;have HB7:=hide (HB6.out.trans (hb7.mono hs6l));have hs7l:=hb7.size;have HZN:=hide (RowL.new w7 65 (nodC nod0 (.slice none 0 0) (.slice none 0 0)));have R67:=hide (R6.out.on hb7);clear e3 e5 hb7)|(refine wpList_storeW rfl 65 (.tmp 6) (.tmp 18) rfl 13 nod_size w7.heap.size 65 rfl (nodC nod0 (.slice none 0 0) (.slice none 0 0)) (nodC N (.slice A1 n1 c1) (.slice C1 m1 d1)) rfl HZN.out rfl rfl (nodC_one _ _ _ _ _ _ _) ?_;intro w9 hr9 hg9 hs9;have hb9:=below_stored' hg9;have qk:w9.cell? ⟨w7.heap.size,0,none⟩=some (.int .i64 N.k):=hr9.cell 0;have HR6:=hide hr9;have HR5:=hide (R67.out.on hb9);have HB9:=hide (HB7.out.trans (hb9.mono (by omega)));have hs9l:=HB9.out.size;clear hr9 hg9 hs9 hb9)|(refine wpList_loadW rfl 41 (.tmp 5) rfl 2 plc_agg plc_size wr.heap.size 41 rfl (prC ((j:Int)+1,1)) HR5.out rfl ?_)|(refine wpList_litW rfl 39 (.tmp 23) rfl (.agg (prC ((j:Int)+1,1)).toArray) _ rfl (lit_plc ((j:Int)+1,1) w9) ?_;refine wpList_plain rfl fun K2 hK2=>?_;go_loud (refine wp_appF w9 W1.heap.size _ rfl (.tmp 22) (.tmp 24) 39 41 rfl Tryz.underlying39 _ 2 16 plc_info rfl (by omega) (by omega) A acc.length c _ (prC ((j:Int)+1,1)) rfl (prC_one _) rfl (ownsRow_below HO.out HB9.out) rfl (by omega) (by omega) ?_);intro A5 c5 w10 ho10 hg10;refine hK2 _ _ ?_;clear hK2 K2;have HO10:=hide ho10;have hba:=below_new (below_self w9) (.cells (prC ((j:Int)+1,1)).toArray 41);have hoa:=ownsRow_below (ownsRow_below HO.out HB9.out) hba;have HR6b:=hide ((HR6.out.on hba).grown hg10 (row_apart hoa (HR6.out.on hba) (by decide)));have HB10:=hide (((HBR.out.trans (HB9.out.mono hbsz)).trans (hba.mono (by omega))).grown hg10 (by have:=hba.size;omega) (fun q hq=>(own_block hoa q hq).1));clear ho10 hg10 hba hoa)|(refine wpList_loadW rfl 65 (.tmp 6) rfl 13 nod_agg nod_size w7.heap.size 65 rfl (nodC N (.slice A1 n1 c1) (.slice C1 m1 d1)) HR6b.out rfl ?_))
    refine (Marked_b HMarked_b.out hath.1 hath.2 _).mono ?_
    rintro ez w11 ⟨rfl,hb11⟩
    have HO11:=hide (ownsRow_below HO10.out hb11)
    have HB11:=hide (HB10.out.trans (hb11.mono (by have:=HB10.out.size;omega)))
    clear hb11
    cases op with
    | false =>
     go_wp2_with fail
     go_roundw
     case rel=>exact ⟨j+1,acc++[((j:Int)+1,1)],A5,c5,by omega,by go_num,by rw [HLEN.out],by rw [HLEN.out];omega,by rw [HLEN.out,flatR_snoc];exact HO11.out,HB11.out,by have:=HE.out;simpa using this⟩
     case measure=>simp [intOf];omega
    | true =>
     have hE:R=acc++[((j:Int)+1,1)]:=by have:=HE.out.symm;simpa using this
     subst hE
     go_wp2_with fail
     rw [show acc.length+1=(acc++[((j:Int)+1,(1:Int))]).length from HLEN.out.symm]
     go_ret
     exact ⟨A5,c5,rfl,(pr_fresh (by rw [HLEN.out,flatR_snoc];exact HO11.out) rfl).mono (fun _ _=>rfl) (fun b hb=>⟨Nat.le_trans hs1 hb.1,hb.2⟩),HB1.out.trans (HB11.out.mono hs1)⟩
  ·obtain rfl:j=nL:=by omega
   have e:=HFI.out
   rw [List.drop_of_length_le (by omega)] at e
   unfold rootsL at e
   rw [List.append_nil] at e
   subst e
   go_wp2_with fail
   go_ret
   exact ⟨A,c,rfl,(pr_fresh HO.out rfl).mono (fun _ _=>rfl) (fun b hb=>⟨Nat.le_trans hs1 hb.1,hb.2⟩),HB1.out.trans (HBR.out.mono hs1)⟩
set_option maxRecDepth 100000 in
set_option maxHeartbeats 8000000 in
theorem RRoots_f {g:GeoQ} {AU AL:Option Addr} {nU cU nL cL:Nat} {ls:List (List NodV)} (w:World) (h:RdE layEn w (Under w.heap.size) AL nL ls) (hF:FewL ls) :
  Calls Tryz.prog 72 #[.agg (stkC g (.slice AU nU cU) (.slice AL nL cL)).toArray] w (PlcsF w (rootsL ls 0)):=by
 have r0:=RowL.new w 29 (stkC g (.slice AU nU cU) (.slice AL nL cL))
 have hb1:=below_new (below_self w) (.cells (stkC g (.slice AU nU cU) (.slice AL nL cL)).toArray 29)
 obtain ⟨W1,hW1⟩:∃W1,w.alloc (.cells (stkC g (.slice AU nU cU) (.slice AL nL cL)).toArray 29)=W1:=⟨_,rfl⟩
 rw [hW1] at r0 hb1
 have hW1':w.alloc (.cells #[.int .i64 g.a,.int .i64 g.b,.int .i64 g.c,.int .i64 g.d,.slice AU nU cU,.slice AL nL cL] 29)=W1:=hW1
 have q5:W1.cell? ⟨w.heap.size,5,none⟩=some (.slice AL nL cL):=r0.cell 5
 have hm:ls.length≤100:=by have:=hF.1;omega
 have HM2:=hide (fun ns (hh:ns∈ls)=>(show ns.length≤1000 from Nat.le_trans (hF.2 ns hh).1 (by omega)))
 have R0:=hide r0
 have HB1:=hide hb1
 have hs1:=hb1.size
 have HL:=hide (h.under hb1 (Nat.le_refl _))
 have hnL:nL≤3∧ls.length≤nL∧nL≤ls.length:=by have:=h.1;have:=hF.1;omega
 have HF:=hide hF
 obtain ⟨R,hR⟩:∃R,rootsL ls 0=R:=⟨_,rfl⟩
 rw [hR]
 have HR:=hide hR
 have HO0:=hide (own_lit0 W1 41 2 (base:=W1.heap.size) rfl (Nat.le_refl _))
 have HW0:=hide (below_new (below_self W1) (.cells #[] 41))
 unfold stkC
 clear r0 hb1 hW1 h hF hR
 go_enter Tryz.func72,Tryz.ntmps72
 go_wp2_with fail
 clear hW1' q5
 go_loopw [3,4] (fun v3 v4 wr=>∃(j:Nat) (acc:List (Int×Int)) (A:Option Addr) (c:Nat),j≤nL∧v4=.int .i64 ((j:Int)+1)∧v3=.slice A acc.length c∧acc.length≤j∧wr.ownsRow W1.heap.size 41 2 (.slice A acc.length c) acc.length (flatR acc)∧Below W1.heap.size W1 wr∧acc++rootsL (ls.drop j) j=R) (fun v3 v4 _=>nL+1 - (intOf v4).toNat)
 case atStart=>exact ⟨0,[],_,0,by omega,rfl,rfl,Nat.le_refl _,HO0.out,HW0.out,by rw [List.drop_zero];exact HR.out⟩
 case round =>
  obtain ⟨j,acc,A,c,hj,rfl,rfl,hal,ho,hbr,hfin⟩:=hrel
  have HO:=hide ho
  have HBR:=hide hbr
  have HFI:=hide hfin
  have hbsz:=hbr.size
  have R0r:=hide (R0.out.on hbr)
  have q5:wr.cell? ⟨w.heap.size,5,none⟩=some (.slice AL nL cL):=R0r.out.cell 5
  clear ho hbr hfin
  by_cases hlt:j < nL
  ·obtain ⟨ns,hns⟩:∃ns,ls[j]?=some ns:=⟨_,List.getElem?_eq_getElem (by omega)⟩
   obtain ⟨N,hN⟩:∃N,nodAt ns 1=N:=⟨_,rfl⟩
   have hLN:lowAt ls ((j:Int)+1) 1=N:=(low_get hns).trans hN
   have hath:=(low_plain HF.out ((j:Int)+1) 1).2.2.1
   rw [hLN] at hath
   have HLN:=hide hLN
   obtain ⟨bk,hbk⟩:∃bk,(N.k==1)=bk:=⟨_,rfl⟩
   obtain ⟨op,hop⟩:∃op,opq N=op:=⟨_,rfl⟩
   have HROpq_b:=hide hop
   have e:=HFI.out
   have hjl:=(List.getElem?_eq_some_iff.1 hns).1
   rw [List.drop_eq_getElem_cons hjl,(List.getElem?_eq_some_iff.1 hns).2] at e
   unfold rootsL at e
   rw [hN,hop] at e
   have HE:=hide (show (if bk=true then (if op=true then acc++[((j:Int)+1,1)] else (acc++[((j:Int)+1,1)])++rootsL (ls.drop (j+1)) (j+1)) else acc++rootsL (ls.drop (j+1)) (j+1))=R from by
    rw [←e,←hbk]
    by_cases hk:N.k=1 <;> cases op <;> simp [hk])
   have HZP:=hide (RowL.new wr 41 (prC (0,0)))
   have hjn:(j:Int) < (nL:Int):=by omega
   have hj3:(j:Int)+1≤(nL:Int):=by omega
   clear hns hN hLN hop e
   cases bk with
   | false =>
    go_wp2_with (first|(refine wpList_storeW rfl 41 (.tmp 5) (.tmp 16) rfl 2 plc_size wr.heap.size 41 rfl (prC (0,0)) (prC ((j:Int)+1,1)) rfl HZP.out rfl rfl (prC_one _) ?_;intro w6 hr6 hg6 hs6;have hb6:=below_stored' hg6;have R6:=hide hr6;have HB6:=hide hb6;have R06:=hide (R0r.out.on hb6);have hs6l:=hb6.size;clear hr6 hg6 hs6 hb6)|(refine wpList_loadW rfl 29 (.tmp 1) rfl 6 stk_agg stk_size w.heap.size 29 rfl (stkC g (.slice AU nU cU) (.slice AL nL cL)) R06.out rfl ?_)|(refine wpList_loadW rfl 41 (.tmp 5) rfl 2 plc_agg plc_size wr.heap.size 41 rfl (prC ((j:Int)+1,1)) R6.out rfl ?_)|(go_at_call 94;refine (RLower_e HLN.out w6 (HL.out.under (HBR.out.trans (HB6.out.mono hbsz)) hs1) (by omega) hm HM2.out).mono ?_;rintro ez w7 ⟨A1,n1,c1,C1,m1,d1,rfl,e2,e3,e4,e5,hb7⟩;have HB7:=hide (HB6.out.trans (hb7.mono hs6l));have hs7l:=hb7.size;have HZN:=hide (RowL.new w7 65 (nodC nod0 (.slice none 0 0) (.slice none 0 0)));have R67:=hide (R6.out.on hb7);clear e3 e5 hb7)|(refine wpList_storeW rfl 65 (.tmp 6) (.tmp 19) rfl 13 nod_size w7.heap.size 65 rfl (nodC nod0 (.slice none 0 0) (.slice none 0 0)) (nodC N (.slice A1 n1 c1) (.slice C1 m1 d1)) rfl HZN.out rfl rfl (nodC_one _ _ _ _ _ _ _) ?_;intro w9 hr9 hg9 hs9;have hb9:=below_stored' hg9;have qk:w9.cell? ⟨w7.heap.size,0,none⟩=some (.int .i64 N.k):=hr9.cell 0;have HR6:=hide hr9;have HR5:=hide (R67.out.on hb9);have HB9:=hide (HB7.out.trans (hb9.mono (by omega)));have hs9l:=HB9.out.size;clear hr9 hg9 hs9 hb9))
    go_roundw
    case rel=>exact ⟨j+1,acc,A,c,by omega,by go_num,rfl,by omega,ownsRow_below HO.out HB9.out,HBR.out.trans (HB9.out.mono hbsz),by have:=HE.out;simpa using this⟩
    case measure=>simp [intOf];omega
   | true =>
    have HLEN:=hide (show (acc++[((j:Int)+1,(1:Int))]).length=acc.length+1 by simp)
    go_wp2_with (first|(refine wpList_storeW rfl 41 (.tmp 5) (.tmp 16) rfl 2 plc_size wr.heap.size 41 rfl (prC (0,0)) (prC ((j:Int)+1,1)) rfl HZP.out rfl rfl (prC_one _) ?_;intro w6 hr6 hg6 hs6;have hb6:=below_stored' hg6;have R6:=hide hr6;have HB6:=hide hb6;have R06:=hide (R0r.out.on hb6);have hs6l:=hb6.size;clear hr6 hg6 hs6 hb6)|(refine wpList_loadW rfl 29 (.tmp 1) rfl 6 stk_agg stk_size w.heap.size 29 rfl (stkC g (.slice AU nU cU) (.slice AL nL cL)) R06.out rfl ?_)|(refine wpList_loadW rfl 41 (.tmp 5) rfl 2 plc_agg plc_size wr.heap.size 41 rfl (prC ((j:Int)+1,1)) R6.out rfl ?_)|(go_at_call 94;refine (RLower_e HLN.out w6 (HL.out.under (HBR.out.trans (HB6.out.mono hbsz)) hs1) (by omega) hm HM2.out).mono ?_;rintro ez w7 ⟨A1,n1,c1,C1,m1,d1,rfl,e2,e3,e4,e5,hb7⟩;have HB7:=hide (HB6.out.trans (hb7.mono hs6l));have hs7l:=hb7.size;have HZN:=hide (RowL.new w7 65 (nodC nod0 (.slice none 0 0) (.slice none 0 0)));have R67:=hide (R6.out.on hb7);clear e3 e5 hb7)|(refine wpList_storeW rfl 65 (.tmp 6) (.tmp 19) rfl 13 nod_size w7.heap.size 65 rfl (nodC nod0 (.slice none 0 0) (.slice none 0 0)) (nodC N (.slice A1 n1 c1) (.slice C1 m1 d1)) rfl HZN.out rfl rfl (nodC_one _ _ _ _ _ _ _) ?_;intro w9 hr9 hg9 hs9;have hb9:=below_stored' hg9;have qk:w9.cell? ⟨w7.heap.size,0,none⟩=some (.int .i64 N.k):=hr9.cell 0;have HR6:=hide hr9;have HR5:=hide (R67.out.on hb9);have HB9:=hide (HB7.out.trans (hb9.mono (by omega)));have hs9l:=HB9.out.size;clear hr9 hg9 hs9 hb9)|(refine wpList_loadW rfl 41 (.tmp 5) rfl 2 plc_agg plc_size wr.heap.size 41 rfl (prC ((j:Int)+1,1)) HR5.out rfl ?_)|(refine wpList_litW rfl 39 (.tmp 24) rfl (.agg (prC ((j:Int)+1,1)).toArray) _ rfl (lit_plc ((j:Int)+1,1) w9) ?_;refine wpList_plain rfl fun K2 hK2=>?_;go_loud (refine wp_appF w9 W1.heap.size _ rfl (.tmp 23) (.tmp 25) 39 41 rfl Tryz.underlying39 _ 2 16 plc_info rfl (by omega) (by omega) A acc.length c _ (prC ((j:Int)+1,1)) rfl (prC_one _) rfl (ownsRow_below HO.out HB9.out) rfl (by omega) (by omega) ?_);intro A5 c5 w10 ho10 hg10;refine hK2 _ _ ?_;clear hK2 K2;have HO10:=hide ho10;have hba:=below_new (below_self w9) (.cells (prC ((j:Int)+1,1)).toArray 41);have hoa:=ownsRow_below (ownsRow_below HO.out HB9.out) hba;have HR6b:=hide ((HR6.out.on hba).grown hg10 (row_apart hoa (HR6.out.on hba) (by decide)));have HB10:=hide (((HBR.out.trans (HB9.out.mono hbsz)).trans (hba.mono (by omega))).grown hg10 (by have:=hba.size;omega) (fun q hq=>(own_block hoa q hq).1));clear ho10 hg10 hba hoa)|(refine wpList_loadW rfl 65 (.tmp 6) rfl 13 nod_agg nod_size w7.heap.size 65 rfl (nodC N (.slice A1 n1 c1) (.slice C1 m1 d1)) HR6b.out rfl ?_))
    refine (ROpq_b HROpq_b.out hath.1 hath.2 _).mono ?_
    rintro ez w11 ⟨rfl,hb11⟩
    have HO11:=hide (ownsRow_below HO10.out hb11)
    have HB11:=hide (HB10.out.trans (hb11.mono (by have:=HB10.out.size;omega)))
    clear hb11
    cases op with
    | false =>
     go_wp2_with fail
     go_roundw
     case rel=>exact ⟨j+1,acc++[((j:Int)+1,1)],A5,c5,by omega,by go_num,by rw [HLEN.out],by rw [HLEN.out];omega,by rw [HLEN.out,flatR_snoc];exact HO11.out,HB11.out,by have:=HE.out;simpa using this⟩
     case measure=>simp [intOf];omega
    | true =>
     have hE:R=acc++[((j:Int)+1,1)]:=by have:=HE.out.symm;simpa using this
     subst hE
     go_wp2_with fail
     rw [show acc.length+1=(acc++[((j:Int)+1,(1:Int))]).length from HLEN.out.symm]
     go_ret
     exact ⟨A5,c5,rfl,(pr_fresh (by rw [HLEN.out,flatR_snoc];exact HO11.out) rfl).mono (fun _ _=>rfl) (fun b hb=>⟨Nat.le_trans hs1 hb.1,hb.2⟩),HB1.out.trans (HB11.out.mono hs1)⟩
  ·obtain rfl:j=nL:=by omega
   have e:=HFI.out
   rw [List.drop_of_length_le (by omega)] at e
   unfold rootsL at e
   rw [List.append_nil] at e
   subst e
   have hjn:¬((j:Int)+1≤(j:Int)):=by omega
   go_wp2_with fail
   go_ret
   exact ⟨A,c,rfl,(pr_fresh HO.out rfl).mono (fun _ _=>rfl) (fun b hb=>⟨Nat.le_trans hs1 hb.1,hb.2⟩),HB1.out.trans (HBR.out.mono hs1)⟩
end Go.Proofs.YtnhegahpfacdgaaGreat

namespace Go.Proofs.YtnhegahpfacdgaaGreat
open Go.RowKit Go.Shelf Plain

theorem rootsL_len : ∀ (ls : List (List NodV)) (j : Nat), (rootsL ls j).length ≤ ls.length
 | [],j=>by simp [rootsL]
 | ns::r,j=>by
  have:=rootsL_len r (j+1)
  unfold rootsL
  split
  ·split <;> simp <;> omega
  ·simp;omega
theorem lookL_len (ls : List (List NodV)) : ∀ (l : List (Int × Int)) (ns : List (List UInt8)), ((lookL ls l ns).getD []).length ≤ l.length
 | l,[]=>by simp [lookL]
 | l,x::r=>by
  unfold lookL
  have h1:=findL_len ls x l []
  split
  ·have:=lookL_len ls (findL ls x l []).2 r
   simp at h1
   omega
  ·simp
end Go.Proofs.YtnhegahpfacdgaaGreat

namespace Go.Proofs.YtnhegahpfacdgaaGreat.Plain
def stepJ (s:List UInt8×Bool) (x:List UInt8):List UInt8×Bool:=((if s.2=true then s.1 else s.1++[47])++x,false)
def joinS (l:List (List UInt8)):List UInt8:=(l.foldl stepJ ([47],true)).1
def totL (l:List (List UInt8)):Nat:=(l.map fun x=>x.length+1).sum
theorem totL_snoc (l:List (List UInt8)) (x:List UInt8):totL (l++[x])=totL l+(x.length+1):=by simp [totL]
theorem totL_append (a b:List (List UInt8)):totL (a++b)=totL a+totL b:=by simp [totL]
theorem totL_take (l:List (List UInt8)) (k:Nat):totL (l.take k)≤totL l:=by
 have h:=totL_append (l.take k) (l.drop k)
 rw [List.take_append_drop] at h
 omega
theorem flagJ (l:List (List UInt8)):(l.foldl stepJ ([47],true)).2=decide (l.length=0):=by
 suffices h:∀(l:List (List UInt8)) (s:List UInt8×Bool),(l.foldl stepJ s).2=(s.2&&decide (l.length=0)) from by rw [h];simp
 intro l
 induction l with
 | nil=>intro s;simp
 | cons x r ih=>intro s;rw [List.foldl_cons,ih];simp [stepJ]
theorem joinS_snoc (l:List (List UInt8)) (x:List UInt8):joinS (l++[x])=(if l.length=0 then joinS l else joinS l++[47])++x:=by
 unfold joinS
 rw [List.foldl_append,List.foldl_cons,List.foldl_nil]
 show (if (l.foldl stepJ ([47],true)).2=true then _ else _)++x=_
 rw [flagJ]
 simp
theorem joinS_length (l:List (List UInt8)):(joinS l).length≤1+totL l:=by
 suffices h:∀(l:List (List UInt8)) (s:List UInt8×Bool),((l.foldl stepJ s).1).length≤s.1.length+totL l from h l ([47],true)
 intro l
 induction l with
 | nil=>intro s;simp
 | cons x r ih =>
  intro s
  rw [List.foldl_cons]
  have h1:=ih (stepJ s x)
  have h2:(stepJ s x).1.length≤s.1.length+(x.length+1):=by
   unfold stepJ
   simp only [List.length_append]
   split <;> simp <;> omega
  have h3:totL (x::r)=(x.length+1)+totL r:=by simp [totL]
  omega
def stepP (o:List (List UInt8)) (c:UInt8):List (List UInt8):=if c=47 then o++[[]] else o.set (o.length - 1) (o.getD (o.length - 1) []++[c])
def partsTo (s:List UInt8) (j:Nat):List (List UInt8):=((s.take j).drop 1).foldl stepP [[]]
def partsS (s:List UInt8):List (List UInt8):=(s.drop 1).foldl stepP [[]]
theorem partsTo_one (s:List UInt8):partsTo s 1=[[]]:=by
 unfold partsTo
 rw [List.drop_eq_nil_of_le (by rw [List.length_take];omega)]
 rfl
theorem partsTo_succ {s:List UInt8} {j:Nat} (h1:1≤j) (h:j < s.length):partsTo s (j+1)=stepP (partsTo s j) s[j]:=by
 unfold partsTo
 rw [List.take_succ_eq_append_getElem h,List.drop_append_of_le_length (by rw [List.length_take];omega),List.foldl_append]
 rfl
theorem partsTo_all {s:List UInt8} {j:Nat} (h:s.length≤j):partsTo s j=partsS s:=by
 unfold partsTo partsS
 rw [List.take_of_length_le h]
theorem stepP_length (o:List (List UInt8)) (c:UInt8):(stepP o c).length=if c=47 then o.length+1 else o.length:=by
 unfold stepP
 split <;> simp
theorem partsTo_len (s:List UInt8) (j:Nat):1≤(partsTo s j).length∧(partsTo s j).length≤1+j∧∀y∈partsTo s j,y.length≤j:=by
 unfold partsTo
 suffices h:∀(r:List UInt8) (o:List (List UInt8)) (b:Nat),1≤o.length→(∀y∈o,y.length≤b) →
   1≤(r.foldl stepP o).length∧(r.foldl stepP o).length≤o.length+r.length∧∀y∈r.foldl stepP o,y.length≤b+r.length by
  have hl:((s.take j).drop 1).length≤j:=by simp;omega
  obtain ⟨h1,h2,h3⟩:=h ((s.take j).drop 1) [[]] 0 (by simp) (by simp)
  refine ⟨h1,by simp only [List.length_singleton] at h2;omega,fun y hy=>?_⟩
  have:=h3 y hy
  omega
 intro r
 induction r with
 | nil=>intro o b h1 h2;exact ⟨h1,by simp,fun y hy=>by have:=h2 y hy;simpa using this⟩
 | cons c r ih =>
  intro o b h1 h2
  rw [List.foldl_cons]
  have h3:∀y∈stepP o c,y.length≤b+1:=by
   intro y hy
   unfold stepP at hy
   split at hy
   ·rw [List.mem_append] at hy
    rcases hy with hy|hy
    ·have:=h2 y hy;omega
    ·simp at hy;subst hy;simp
   ·rcases List.mem_or_eq_of_mem_set hy with hy|hy
    ·have:=h2 y hy;omega
    ·subst hy
     have hm:o.getD (o.length - 1) []∈o:=by
      simp only [List.getD]
      rw [List.getElem?_eq_getElem (by omega)]
      exact List.getElem_mem (by omega)
     have:=h2 _ hm
     rw [List.length_append,List.length_singleton]
     omega
  have h4:=stepP_length o c
  obtain ⟨a1,a2,a3⟩:=ih (stepP o c) (b+1) (by rw [h4];split <;> omega) h3
  refine ⟨a1,?_,fun y hy=>?_⟩
  ·rw [List.length_cons]
   have:(stepP o c).length≤o.length+1:=by rw [h4];split <;> omega
   omega
  ·have:=a3 y hy
   rw [List.length_cons]
   omega
theorem partsS_len (s:List UInt8):(partsS s).length≤1+s.length∧∀y∈partsS s,y.length≤s.length:=by
 have h:=partsTo_len s s.length
 rw [partsTo_all (Nat.le_refl _)] at h
 exact h.2
def headB (s:List UInt8):Bool:=match s with|[]=>false|c::_=>c==47
def splitB (s:List UInt8):Bool:=s==[47]||(headB s&&(partsS s).all nameB)
def splitS (s:List UInt8):List (List UInt8):=if s=[47] then [] else if (headB s&&(partsS s).all nameB)=true then partsS s else []
def stepC (o:Option (List (List UInt8))) (y:List UInt8):Option (List (List UInt8)) :=
 match o with
 | none=>none
 | some o=>if y=[]∨y=[46] then some o else if y=[46,46] then (if o=[] then none else some o.dropLast) else if nameB y=true then some (o++[y]) else none
def leftS (l:List (List UInt8)):Option (List (List UInt8)):=l.foldl stepC (some [])
theorem leftS_snoc (l:List (List UInt8)) (y:List UInt8):leftS (l++[y])=stepC (leftS l) y:=by simp [leftS]
def cleanB (s:List UInt8):Bool:=headB s&&(leftS (partsS s)).isSome
def cleanS (s:List UInt8):List UInt8:=if headB s=true then (match leftS (partsS s) with|none=>[]|some o=>joinS o) else []
theorem leftS_len (l:List (List UInt8)):∀o,leftS l=some o→o.length≤l.length∧totL o≤totL l:=by
 suffices h:∀(l:List (List UInt8)) (o0:List (List UInt8)),∀o,l.foldl stepC (some o0)=some o→o.length≤o0.length+l.length∧totL o≤totL o0+totL l by
  intro o ho
  have:=h l [] o ho
  simpa [totL] using this
 intro l
 induction l with
 | nil=>intro o0 o ho;cases ho;exact ⟨Nat.le_refl _,Nat.le_refl _⟩
 | cons y r ih =>
  intro o0 o ho
  rw [List.foldl_cons] at ho
  have hy:totL (y::r)=(y.length+1)+totL r:=by simp [totL]
  rw [hy,List.length_cons]
  unfold stepC at ho
  simp only at ho
  split at ho
  ·have:=ih _ _ ho;omega
  ·split at ho
   ·split at ho
    ·exfalso
     clear ih hy
     induction r with
     | nil=>cases ho
     | cons z r ih2=>exact ih2 ho
    ·have h1:=ih _ _ ho
     have h2:totL o0.dropLast≤totL o0:=by rw [List.dropLast_eq_take];exact totL_take _ _
     rw [List.length_dropLast] at h1
     omega
   ·split at ho
    ·have h1:=ih _ _ ho
     rw [totL_snoc,List.length_append,List.length_singleton] at h1
     omega
    ·exfalso
     clear ih hy
     induction r with
     | nil=>cases ho
     | cons z r ih2=>exact ih2 ho
theorem totL_le {l:List (List UInt8)} {b:Nat} (h:∀y∈l,y.length≤b):totL l≤l.length*(b+1):=by
 induction l with
 | nil=>simp [totL]
 | cons y r ih =>
  have h1:=ih (fun z hz=>h z (List.mem_cons_of_mem _ hz))
  have h2:=h y (List.mem_cons_self)
  have:totL (y::r)=(y.length+1)+totL r:=by simp [totL]
  rw [this,List.length_cons,Nat.add_mul]
  omega
def redL (s:List UInt8):List (List UInt8):=if 24 < s.length then [] else if headB s=true then splitS s else if nameB s=true then [s] else []
def redA (s:List UInt8):Bool:=if 24 < s.length then false else if headB s=true then splitB s else false
def redB (s:List UInt8):Bool:=if 24 < s.length then false else if headB s=true then splitB s else nameB s
end Go.Proofs.YtnhegahpfacdgaaGreat.Plain

namespace Go.Proofs.YtnhegahpfacdgaaGreat
open Go.RowKit Plain

def opqD (x:NodV):Bool:=decide (x.k=1)&&opq x
abbrev ViewV:=Int×List (Int×Int)
def benV (ls:List (List NodV)) (vl:List (Int×Int)) (nm:List UInt8):List (Int×Int):=if (findL ls nm vl []).1=1 then (findL ls nm vl []).2 else []
def rootV (up:List NodV) (ls:List (List NodV)):ViewV:=(if (nodAt up 1).k=1 then 1 else 0,if opqD (nodAt up 1)=true then [] else rootsL ls 0)
def redV (ls:List (List NodV)) (vl:List (Int×Int)) (r:List UInt8):List (Int×Int):=if redB r=true then (if redA r=true then (lookL ls (rootsL ls 0) (redL r)).getD [] else benV ls vl ((redL r).headD [])) else []
def hasR (x:NodV):Bool:=decide (x.att.h / 2 % 2=1)
def partV (up:List NodV) (ls:List (List NodV)) (vl:List (Int×Int)) (i:Int) (nm:List UInt8):List (Int×Int):=if (nodAt up i).k=1 then (if opq (nodAt up i)=true then [] else if hasR (nodAt up i)=true then redV ls vl (nodAt up i).att.r else benV ls vl nm) else []
def wayView (up:List NodV) (ls:List (List NodV)) (vs:List ViewV) (x:WayV):ViewV:=if x.up < 0 then rootV up ls else (x.ino,partV up ls ((vs[x.up.toNat]?).getD (0,[])).2 x.ino x.name)
def treeV (up:List NodV) (ls:List (List NodV)) (l:List WayV):List ViewV:=l.foldl (fun vs x=>vs++[wayView up ls vs x]) []
def PlainX (x:NodV):Prop:=True∧(0≤x.k∧x.k≤4)∧(0≤x.att.h∧x.att.h≤31)∧x.data.length≤300∧x.ents.length≤17∧x.att.r.length≤40∧True
theorem PlainN.toX {x:NodV} (h:PlainN x):PlainX x:=⟨trivial,h.2.1,h.2.2.1,h.2.2.2.1,Nat.le_succ_of_le h.2.2.2.2.1,h.2.2.2.2.2.1,trivial⟩
theorem nodAt_plainX {ns:List NodV} (h:∀x∈ns,PlainX x) (i:Int):PlainX (nodAt ns i):=by
 unfold nodAt
 split
 ·cases hx:ns[(i - 1).toNat]? with
  | none=>exact plain0.toX
  | some x=>exact h x (List.mem_of_getElem? hx)
 ·exact plain0.toX
theorem benV_len (ls:List (List NodV)) (vl:List (Int×Int)) (nm:List UInt8):(benV ls vl nm).length≤vl.length:=by
 unfold benV
 have:=findL_len ls nm vl []
 split
 ·simpa using this
 ·simp
theorem partV_len (up:List NodV) (ls:List (List NodV)) (vl:List (Int×Int)) (i:Int) (nm:List UInt8):(partV up ls vl i nm).length≤max ls.length vl.length:=by
 unfold partV redV
 have h1:=benV_len ls vl nm
 have h2:=benV_len ls vl ((redL (nodAt up i).att.r).headD [])
 have h3:=lookL_len ls (rootsL ls 0) (redL (nodAt up i).att.r)
 have h4:=rootsL_len ls 0
 (repeat' split) <;> (first|(simp;done)|omega)
theorem red_one {r:List UInt8} (h1:redB r=true) (h2:redA r=false):redL r=[r]:=by
 unfold redB at h1
 unfold redA at h2
 unfold redL
 split
 ·rename_i h
  rw [if_pos h] at h1
  simp at h1
 ·rename_i h
  rw [if_neg h] at h1 h2
  by_cases hh:headB r=true
  ·rw [if_pos hh] at h1 h2
   rw [h1] at h2
   simp at h2
  ·rw [if_neg hh] at h1 ⊢
   rw [if_pos h1]
theorem redL_len (r:List UInt8):(redL r).length≤25:=by
 unfold redL
 split
 ·simp
 ·split
  ·have:=(partsS_len r).1
   unfold splitS
   split
   ·simp
   ·split
    ·omega
    ·simp
  ·split <;> simp
end Go.Proofs.YtnhegahpfacdgaaGreat

namespace Go.Proofs.YtnhegahpfacdgaaGreat
open Go.RowKit Plain

def UpV (l:List WayV):Prop:=∀(j:Nat) (y:WayV),l[j]?=some y→(j=0→y.up = -1∧y.ino=1)∧(0 < j→∃p:Nat,y.up=(p:Int)∧p < j)
theorem UpV.snoc {l:List WayV} {p:Nat} {i:Int} {nm:List UInt8} (h:UpV l) (hp:p < l.length):UpV (l++[⟨i,p,nm⟩]):=by
 intro j y hy
 by_cases hj:j < l.length
 ·rw [List.getElem?_append_left hj] at hy
  exact h j y hy
 ·have hj2:j=l.length:=by
   have:=(List.getElem?_eq_some_iff.1 hy).1
   simp at this
   omega
  subst hj2
  simp at hy
  subst hy
  exact ⟨fun h0=>by omega,fun _=>⟨p,rfl,hp⟩⟩
theorem one_upv {dir:Int} {p:Nat} {s:StW} {x:EntV×Nat} (h:UpV s.1∧p < s.1.length):UpV (oneW dir p s x).1∧p < (oneW dir p s x).1.length:=by
 unfold oneW
 split
 ·exact h
 ·exact ⟨h.1.snoc h.2,by simp;omega⟩
theorem visit_upv {ns:List NodV} {p:Nat} {s:StW} (h:UpV s.1):UpV (visitW ns p s).1:=by
 unfold visitW
 cases hy:s.1[p]? with
 | none=>exact h
 | some y=>exact (foldl_keep (P:=fun s:StW=>UpV s.1∧p < s.1.length) _ _ ⟨h,(List.getElem?_eq_some_iff.1 hy).1⟩ (fun _ _ _ hs=>one_upv hs)).1
theorem run_upv {ns : List NodV} : ∀ (f p : Nat) (s : StW), UpV s.1 → UpV (runW ns f p s).1
 | 0,_,_,h=>h
 | f+1,p,s,h=>by
  unfold runW
  split
  ·exact run_upv f (p+1) _ (visit_upv h)
  ·exact h
theorem walk_upv (ns:List NodV):UpV (walkW ns [1]).1:=by
 have e:walkW ns [1]=rootW ns ([],[]) 1:=rfl
 rw [e]
 unfold rootW
 split
 ·refine run_upv _ _ _ ?_
  intro j y hy
  have hj:j=0:=by
   have:=(List.getElem?_eq_some_iff.1 hy).1
   simpa using this
  subst hj
  simp at hy
  subst hy
  exact ⟨fun _=>⟨rfl,rfl⟩,fun h=>by omega⟩
 ·intro j y hy
  simp at hy
theorem tree_succ (up:List NodV) (ls:List (List NodV)) {l:List WayV} {j:Nat} {y:WayV} (h:l[j]?=some y):treeV up ls (l.take (j+1))=treeV up ls (l.take j)++[wayView up ls (treeV up ls (l.take j)) y]:=by
 unfold treeV
 rw [List.take_add_one,h,Option.toList_some,List.foldl_append]
 rfl
theorem tree_take (up : List NodV) (ls : List (List NodV)) (l : List WayV) : ∀ j, (treeV up ls (l.take j)).length = (l.take j).length
 | 0=>by simp [treeV]
 | j+1=>by
  by_cases hj:j < l.length
  ·rw [tree_succ up ls (List.getElem?_eq_getElem hj),List.length_append,tree_take up ls l j]
   simp
   omega
  ·rw [List.take_of_length_le (by omega),←List.take_of_length_le (l:=l) (i:=j) (by omega)]
   have:=tree_take up ls l j
   rw [List.take_of_length_le (by omega)] at this ⊢
   exact this
theorem tree_len (up:List NodV) (ls:List (List NodV)) (l:List WayV):(treeV up ls l).length=l.length:=by
 have:=tree_take up ls l l.length
 rwa [List.take_of_length_le (Nat.le_refl _)] at this
theorem rootV_len (up:List NodV) (ls:List (List NodV)):(rootV up ls).2.length≤ls.length:=by
 unfold rootV
 dsimp only
 split
 ·simp
 ·exact rootsL_len ls 0
theorem way_few {up:List NodV} {ls:List (List NodV)} {vs:List ViewV} {x:WayV} (h:∀v∈vs,v.2.length≤ls.length):(wayView up ls vs x).2.length≤ls.length:=by
 unfold wayView
 split
 ·exact rootV_len up ls
 ·have h1:=partV_len up ls ((vs[x.up.toNat]?).getD (0,[])).2 x.ino x.name
  have h2:((vs[x.up.toNat]?).getD (0,[])).2.length≤ls.length:=by
   cases hv:vs[x.up.toNat]? with
   | none=>simp
   | some v=>exact h v (List.mem_of_getElem? hv)
  dsimp only
  omega
theorem tree_few (up:List NodV) (ls:List (List NodV)) (l:List WayV):∀v∈treeV up ls l,v.2.length≤ls.length:=by
 unfold treeV
 refine foldl_keep (P:=fun vs:List ViewV=>∀v∈vs,v.2.length≤ls.length) l [] (fun _ h=>by cases h) (fun vs x _ h v hv=>?_)
 rcases List.mem_append.1 hv with h1|h1
 ·exact h v h1
 ·rw [List.mem_singleton] at h1
  rw [h1]
  exact way_few h
end Go.Proofs.YtnhegahpfacdgaaGreat

namespace Go.Proofs.YtnhegahpfacdgaaGreat
open Go.RowKit Go.Shelf Plain
structure FinV where
 (c l i s:Int)
 deriving DecidableEq
def finC (x:FinV):List Value:=[.int .i64 x.c,.int .i64 x.l,.int .i64 x.i,.int .i64 x.s]
def finEn : Enc FinV where
 k:=4
 R:=fun _ _ cs x=>cs=finC x
 len:=fun h=>by rw [h];rfl
 one:=fun h v hv=>by
  rw [h] at hv
  simp only [finC,List.mem_cons,List.not_mem_nil,or_false] at hv
  rcases hv with rfl|rfl|rfl|rfl <;> rfl
 mono:=fun h _ _=>h
theorem RdE.get_fin {w:World} {D:Nat→Prop} {A:Option Addr} {n:Nat} {l:List FinV} (h:RdE finEn w D A n l) {i:Nat} {x:FinV} (hx:l[i]?=some x) :
  ∃b o,A=some ⟨b,o,none⟩∧D b∧∀j v,(finC x)[j]?=some v→w.cell? ⟨b,o+i*4+j,none⟩=some v:=by
 have hi:=(List.getElem?_eq_some_iff.1 hx).1
 obtain ⟨b,o,e,hb,hc⟩:=h.2 (by have:=h.1;omega)
 obtain ⟨cs,hcs,hcell⟩:=hc i x hx
 refine ⟨b,o,e,hb,fun j v hv=>?_⟩
 have:=hcell j v (by rw [show cs=finC x from hcs];exact hv)
 rwa [show o+(i*finEn.k+j)=o+i*4+j from by show o+(i*4+j)=o+i*4+j;omega] at this
theorem fin_agg:∀w,(isAgg 36).run Tryz.prog w=.ok true w:=fun w=>by kernel_rfl
theorem fin_size:∀w,(Go.sizeOf 36).run Tryz.prog w=.ok 4 w:=fun w=>by kernel_rfl
set_option maxHeartbeats 1600000 in
set_option maxRecDepth 100000 in
theorem neq_fin (x:FinV) (W:World):(binOp .neq 36 (.agg #[.int .i64 x.c,.int .i64 x.l,.int .i64 x.i,.int .i64 x.s]) (.agg #[.int .i64 x.c,.int .i64 x.l,.int .i64 x.i,.int .i64 x.s])).run Tryz.prog W=.ok (.bool false) W:=by
 simp [go_sem]
set_option maxHeartbeats 800000 in
theorem EqualFin_same {A B:Option Addr} {n m c d:Nat} {L:List FinV} (w:World) (ha:RdE finEn w (Under w.heap.size) A n L) (hb:RdE finEn w (Under w.heap.size) B m L) (hn:n≤140737488355328) :
  Calls Tryz.prog 6 #[.slice A n c,.slice B m d] w (BoolB w true):=by
 obtain rfl:n=m:=by rw [←ha.1,←hb.1]
 have HA:=hide ha
 have HB:=hide hb
 clear ha hb
 have hd:((n:Int) != (n:Int))=false:=by simp
 go_enter Tryz.func6,Tryz.ntmps6
 go_wp2
 go_loopw [13] (fun i wr=>∃j q:Nat,j≤n∧i=.int .i64 j∧wr=w.drewN q) (fun i _=>n - (intOf i).toNat)
 case atStart=>exact ⟨0,0,by omega,rfl,rfl⟩
 case round =>
  obtain ⟨j,q,hj,rfl,rfl⟩:=hrel
  by_cases hlt:j < n
  ·have hl1:j < L.length:=by rw [HA.out.1];exact hlt
   obtain ⟨b1,o1,rfl,-,hc1⟩:=HA.out.get_fin (List.getElem?_eq_getElem hl1)
   obtain ⟨b2,o2,rfl,-,hc2⟩:=HB.out.get_fin (List.getElem?_eq_getElem hl1)
   generalize L[j]=y at hc1 hc2
   have hL1:∀q,(Instr.loadAt 36 (.pointer (some ⟨b1,o1+j*4,none⟩))).run Tryz.prog (w.drewN q)=.ok (.agg #[.int .i64 y.c,.int .i64 y.l,.int .i64 y.i,.int .i64 y.s]) (w.drewN q):=fun q=>run_loadAt_cells (w:=w.drewN q) fin_agg fin_size hc1 rfl
   have hL2:∀q,(Instr.loadAt 36 (.pointer (some ⟨b2,o2+j*4,none⟩))).run Tryz.prog (w.drewN q)=.ok (.agg #[.int .i64 y.c,.int .i64 y.l,.int .i64 y.i,.int .i64 y.s]) (w.drewN q):=fun q=>run_loadAt_cells (w:=w.drewN q) fin_agg fin_size hc2 rfl
   have hne:=fun W=>neq_fin y W
   clear hc1 hc2 hl1
   go_wp2
   refine wp_region_quiet_lit (by kernel_rfl) (by kernel_rfl) ?_
   iterate 3 (quiet_step (fail))
   refine Go.BigFrame.wpQuiet_want rfl (fun K hK=>?_)
   refine quietL 36 (.tmp 18) rfl _ _ rfl (by rintro _ ⟨n',rfl⟩;rw [World.drewN_drewN];exact hL1 _) (hK _ ?_)
   clear hK K
   iterate 3 (quiet_step (fail))
   refine Go.BigFrame.wpQuiet_want rfl (fun K hK=>?_)
   refine quietL 36 (.tmp 22) rfl _ _ rfl (by rintro _ ⟨n',rfl⟩;rw [World.drewN_drewN];exact hL2 _) (hK _ ?_)
   clear hK K
   iterate 1 (quiet_step (fail))
   refine wpQuiet_nil ?_
   rintro _ ⟨nq,rfl⟩
   go_wp2
   go_roundw
   case rel=>exact ⟨j+1,_,by omega,by go_num,rfl⟩
   case measure=>simp [intOf];omega
  ·obtain rfl:j=n:=by omega
   go_wp2
   go_ret
   exact BoolB.of (below_drewN (below_self w) _)
end Go.Proofs.YtnhegahpfacdgaaGreat

