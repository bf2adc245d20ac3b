import Derived.Test.YtfdbhldnohaopaaGreatVw11
import Derived.Test.YtfdbhldnohaopaaGreatVw12
import Derived.Test.YtfdbhldnohaopaaGreatVw19
import Derived.Sort.OwnSorted
import Derived.Lib.RowBridge
import Derived.Test.YtfdbhldnohaopaaGreatVw10
import Derived.BigQuiet
import Derived.Deep.QuietTactic
import Derived.Test.YtfdbhldnohaopaaGreatVw6

namespace Go.Proofs.YtfdbhldnohaopaaGreat
open Go.RowKit Go.Sort Plain

theorem CloneS_any {A:Option Addr} {m c B:Nat} {l:List (List UInt8)} (w:World) (ha:Rd st w B A m l) (hm:m≤1000000) :
  Calls Tryz.prog 130 #[.slice A m c] w (ORet st w 9 m l):=by
 by_cases h0:m=0
 ·subst h0
  obtain rfl:l=[]:=List.eq_nil_of_length_eq_zero ha.len
  cases A with
  | none =>
   refine (Tryz.slices_Clone_string_nil 0 c w).mono ?_
   rintro e w' ⟨rfl,rfl⟩
   exact (Ow.nil_ st _ _ _).ret (below_self _)
  | some a =>
   refine (Tryz.slices_Clone_string_zero a c w).mono ?_
   rintro e w' ⟨v,rfl,hown,_,hbel⟩
   obtain ⟨A',c',rfl,ho⟩:=Ow.of (f:=st) (l:=[]) hown
   exact ho.ret hbel
 ·obtain ⟨b,o,rfl,_,hc⟩:=ha.2 (by omega)
  have hl:=ha.len
  have hlen:(l.map fun x=>(⟨x.toArray⟩:ByteArray)).length=m:=by simp [hl]
  refine (Tryz.slices_Clone_string b o m c (l.map fun x=>⟨x.toArray⟩) w (by omega) (by omega) (fun j hj=>?_)).mono ?_
  ·rw [hc j (l[j]'(by omega)) (List.getElem?_eq_getElem (by omega))]
   simp [st,List.getD,show j < l.length by omega]
  ·rintro e w' ⟨v,rfl,hown,_,hbel⟩
   have hmap:((l.map fun x=>(⟨x.toArray⟩:ByteArray)).take m).map (Value.string)=l.map st:=by
    rw [List.take_of_length_le (by omega),List.map_map]
    rfl
   rw [hmap] at hown
   obtain ⟨A',c',rfl,ho⟩:=Ow.of (f:=st) hown
   exact ho.ret hbel

theorem SortS_own {base g n c:Nat} {l:List (List UInt8)} (w:World) (h:Ow st w base 9 (some ⟨g,0,none⟩) n c l) (hn:n≤1000000) :
  Calls Tryz.prog 131 #[.slice (some ⟨g,0,none⟩) n c] w fun e w'=>e=.returned (.tuple #[])∧Ow st w' base 9 (some ⟨g,0,none⟩) n c (l.mergeSort fun x y=>decide (x≤y))∧w.grownBy w' (some g):=by
 have hl:=h.len
 rcases h.2 with ⟨h0,_⟩|⟨g',cap,cur,he,hbase,hb,h1,h2,h3,h4⟩
 ·cases h0
 ·cases he
  subst hl
  refine (Tryz.slices_Sort_string g 0 c l w (holds_of_block hb (by rw [Nat.mul_one] at h4;exact h4)) (Array.getElem?_eq_some_iff.1 hb).1 (by omega)).mono ?_
  rintro e w' ⟨rfl,k,os,rfl⟩
  exact ⟨rfl,ownsRow_sorted (by simp) hbase hb h1 h2 h3,grownBy_sorted _⟩
theorem grow_none (w:World):grow w #[]=w:=by simp [grow]
theorem CompactS_own {base g n c:Nat} {l:List (List UInt8)} (w:World) (h:Ow st w base 9 (some ⟨g,0,none⟩) n c l) (hn:n≤1000000) :
  Calls Tryz.prog 132 #[.slice (some ⟨g,0,none⟩) n c] w fun e w'=>e=.returned (.slice (some ⟨g,0,none⟩) (Lib.compact l).length c)∧Ow st w' base 9 (some ⟨g,0,none⟩) (Lib.compact l).length c (Lib.compact l)∧w.grownBy w' (some g):=by
 have hl:=h.len
 have hcap:=h.cap
 rcases h.2 with ⟨h0,_⟩|⟨g',cap,cur,he,hbase,hb,h1,h2,h3,h4⟩
 ·cases h0
 ·cases he
  subst hl
  have hle:=Lib.compact_length_le l
  refine (Tryz.slices_Compact_string g 0 c l w (holds_of_block hb (by rw [Nat.mul_one] at h4;exact h4)) (by omega) hcap).mono ?_
  rintro e w' ⟨rfl,q,rfl⟩
  have ho:Ow st (grow (putRow encStr (Sort.ahead w q) g 0 (Lib.compact l++List.replicate (l.length - (Lib.compact l).length) []).toArray) #[]) base 9 (some ⟨g,0,none⟩) l.length c (Lib.compact l++List.replicate (l.length - (Lib.compact l).length) []) :=
   ownsRow_sorted (by simp;omega) hbase hb h1 h2 h3
  have hg:=grownBy_sorted (w:=w) (g:=g) (n:=q) (os:=#[]) (Lib.compact l++List.replicate (l.length - (Lib.compact l).length) []).toArray
  rw [grow_none] at ho hg
  have:=ho.cut hle (by simp)
  rw [List.take_left'] at this
  ·exact ⟨rfl,this,hg⟩
  ·rfl

theorem NSort_any {A:Option Addr} {m c:Nat} {l:List (List UInt8)} (w:World) (ha:Rd st w w.heap.size A m l) (hm:m≤1000000) :
  Calls Tryz.prog 73 #[.slice A m c] w (ORet st w 9 (sortS l).length (sortS l)):=by
 have hl:=ha.len
 have HA:=hide ha
 clear ha
 by_cases h0:m=0
 ·subst h0
  obtain rfl:l=[]:=List.eq_nil_of_length_eq_zero hl
  go_enter Tryz.func73,Tryz.ntmps73
  go_wp2_with fail
  refine (CloneS_any _ HA.out (by omega)).mono ?_
  rintro e w1 ⟨A1,c1,rfl,hown,hbel⟩
  have HO:=hide hown
  have HB:=hide hbel
  clear hown hbel
  go_wp2_with fail
  refine (Tryz.slices_Sort_string_none _ _ _).mono ?_
  rintro e w' ⟨rfl,rfl⟩
  go_wp2_with fail
  refine (Tryz.slices_Compact_string_empty _ _ _).mono ?_
  rintro e w'' ⟨rfl,rfl⟩
  go_wp2_with fail
  go_ret
  exact HO.out.ret HB.out
 ·have hm0:0 < m:=by omega
  clear h0
  go_enter Tryz.func73,Tryz.ntmps73
  go_wp2_with fail
  refine (CloneS_any _ HA.out hm).mono ?_
  rintro e w1 ⟨A1,c1,rfl,hown,hbel⟩
  obtain ⟨g,rfl,hbase,_⟩:=hown.at_ hm0
  have HO:=hide hown
  have HB:=hide hbel
  have HG:=hide hbase
  clear hown hbel hbase
  go_wp2_with fail
  refine (SortS_own _ HO.out hm).mono ?_
  rintro e w2 ⟨rfl,hown,hgr⟩
  have HO2:=hide hown
  have HB2:=hide (HB.out.grown hgr HB.out.size (fun j hj=>by cases hj;exact HG.out))
  clear hown hgr
  go_wp2_with fail
  refine (CompactS_own _ HO2.out hm).mono ?_
  rw [sortS_lib]
  rintro e w3 ⟨rfl,hown,hgr⟩
  have HO3:=hide hown
  have HB3:=hide (HB2.out.grown hgr HB2.out.size (fun j hj=>by cases hj;exact HG.out))
  clear hown hgr
  go_wp2_with fail
  go_ret
  exact HO3.out.ret HB3.out
end Go.Proofs.YtfdbhldnohaopaaGreat

namespace Go.Proofs.YtfdbhldnohaopaaGreat
open Go.RowKit Plain
theorem info_st:(Tryz.prog.info? 9).map (fun i=>(i.zero,i.size,i.bytes))=some (some (.string ⟨#[]⟩),1,16):=by kernel_rfl
theorem st_one (l:List UInt8):(st l).oneCell'=true:=rfl

end Go.Proofs.YtfdbhldnohaopaaGreat

namespace Go.Proofs.YtfdbhldnohaopaaGreat
open Go.RowKit Go.Shelf Plain

theorem Entries_e {A:Option Addr} {n c:Nat} {ns:List NodV} {i:Int} {B:Nat} {l:List EntV} (hl:entB ns i=l) (w:World) (h:RdE nodEn w (Under B) A n ns) (hB:B≤w.heap.size) (hm:ns.length≤100000) :
  Calls Tryz.prog 70 #[.agg #[.slice A n c],.int .i64 i] w (EntsRet w B l):=by rw [←hl];exact Entries_any w h hB hm
def allN (ls:List (List NodV)) (l:List (Int×Int)):List (List UInt8):=l.flatMap (fun p=>(entL ls p).map EntV.name)
theorem allN_succ {ls:List (List NodV)} {l:List (Int×Int)} {j:Nat} {p:Int×Int} (h:l[j]?=some p):allN ls (l.take (j+1))=allN ls (l.take j)++(entL ls p).map EntV.name:=by
 unfold allN
 rw [List.take_add_one,h,List.flatMap_append]
 simp
theorem allN_len {ls:List (List NodV)} (hF:FewL ls) (l:List (Int×Int)):(allN ls l).length≤16*l.length:=by
 unfold allN
 induction l with
 | nil=>simp
 | cons p r ih =>
  rw [List.flatMap_cons,List.length_append,List.length_map,List.length_cons]
  have:=entL_len hF p
  omega
def namesL (ls:List (List NodV)) (l:List (Int×Int)):List (List UInt8):=(sortS (allN ls l)).filter (fun x=>!hidS ls l x)
theorem names_snoc {l:List EntV} {i:Nat} {e:EntV} (h:l[i]?=some e) (a:List (List UInt8)):a++(l.take (i+1)).map EntV.name=(a++(l.take i).map EntV.name)++[e.name]:=by
 rw [List.take_add_one,h]
 simp
end Go.Proofs.YtfdbhldnohaopaaGreat

namespace Go.Proofs.YtfdbhldnohaopaaGreat
open Go.RowKit Go.Shelf Plain

def rootsL : List (List NodV) → Nat → List (Int × Int)
 | [],_=>[]
 | ns::r,j=>if (nodAt ns 1).k=1 then (if opq (nodAt ns 1)=true then [((j:Int)+1,1)] else ((j:Int)+1,1)::rootsL r (j+1)) else rootsL r (j+1)
theorem low_get {ls:List (List NodV)} {j:Nat} {ns:List NodV} {i:Int} (h:ls[j]?=some ns):lowAt ls ((j:Int)+1) i=nodAt ns i:=by
 have hj:=(List.getElem?_eq_some_iff.1 h).1
 unfold lowAt
 rw [if_pos ⟨by omega,by omega⟩,show ((j:Int)+1 - 1).toNat=j by omega,h]
 rfl
set_option maxRecDepth 100000 in
set_option maxHeartbeats 8000000 in
theorem Roots_f {g:GeoQ} {AU AL:Option Addr} {nU cU nL cL:Nat} {ls:List (List NodV)} (w:World) (h:RdE layEn w (Under w.heap.size) AL nL ls) (hF:FewL ls) :
  Calls Tryz.prog 67 #[.agg (stkC g (.slice AU nU cU) (.slice AL nL cL)).toArray] w (PlcsF w (rootsL ls 0)):=by
 have r0:=RowL.new w 29 (stkC g (.slice AU nU cU) (.slice AL nL cL))
 have hb1:=below_new (below_self w) (.cells (stkC g (.slice AU nU cU) (.slice AL nL cL)).toArray 29)
 obtain ⟨W1,hW1⟩:∃W1,w.alloc (.cells (stkC g (.slice AU nU cU) (.slice AL nL cL)).toArray 29)=W1:=⟨_,rfl⟩
 rw [hW1] at r0 hb1
 have hW1':w.alloc (.cells #[.int .i64 g.a,.int .i64 g.b,.int .i64 g.c,.int .i64 g.d,.slice AU nU cU,.slice AL nL cL] 29)=W1:=hW1
 have q5:W1.cell? ⟨w.heap.size,5,none⟩=some (.slice AL nL cL):=r0.cell 5
 have hm:ls.length≤100:=by have:=hF.1;omega
 have HM2:=hide (fun ns (hh:ns∈ls)=>(show ns.length≤1000 from Nat.le_trans (hF.2 ns hh).1 (by omega)))
 have R0:=hide r0
 have HB1:=hide hb1
 have hs1:=hb1.size
 have HL:=hide (h.under hb1 (Nat.le_refl _))
 have hnL:nL≤3∧ls.length≤nL∧nL≤ls.length:=by have:=h.1;have:=hF.1;omega
 have HF:=hide hF
 obtain ⟨R,hR⟩:∃R,rootsL ls 0=R:=⟨_,rfl⟩
 rw [hR]
 have HR:=hide hR
 have HO0:=hide (own_lit0 W1 49 2 (base:=W1.heap.size) rfl (Nat.le_refl _))
 have HW0:=hide (below_new (below_self W1) (.cells #[] 49))
 unfold stkC
 clear r0 hb1 hW1 h hF hR
 go_enter Tryz.func67,Tryz.ntmps67
 go_wp2_with fail
 clear hW1' q5
 go_loopw [3,10] (fun v3 v10 wr=>∃(j:Nat) (acc:List (Int×Int)) (A:Option Addr) (c:Nat),j≤nL∧v10=.int .i64 j∧v3=.slice A acc.length c∧acc.length≤j∧wr.ownsRow W1.heap.size 49 2 (.slice A acc.length c) acc.length (flatR acc)∧Below W1.heap.size W1 wr∧acc++rootsL (ls.drop j) j=R) (fun v3 v10 _=>nL - (intOf v10).toNat)
 case atStart=>exact ⟨0,[],none,0,by omega,rfl,rfl,Nat.le_refl _,World.ownsRow_nil _ _ _ _,below_self _,by rw [List.drop_zero];exact HR.out⟩
 case round =>
  obtain ⟨j,acc,A,c,hj,rfl,rfl,hal,ho,hbr,hfin⟩:=hrel
  have HO:=hide ho
  have HBR:=hide hbr
  have HFI:=hide hfin
  have hbsz:=hbr.size
  have R0r:=hide (R0.out.on hbr)
  clear ho hbr hfin
  by_cases hlt:j < nL
  ·obtain ⟨ns,hns⟩:∃ns,ls[j]?=some ns:=⟨_,List.getElem?_eq_getElem (by omega)⟩
   obtain ⟨N,hN⟩:∃N,nodAt ns 1=N:=⟨_,rfl⟩
   have hLN:lowAt ls ((j:Int)+1) 1=N:=(low_get hns).trans hN
   have hath:=(low_plain HF.out ((j:Int)+1) 1).2.2.1
   rw [hLN] at hath
   have HLN:=hide hLN
   obtain ⟨bk,hbk⟩:∃bk,(N.k != 1)=bk:=⟨_,rfl⟩
   obtain ⟨op,hop⟩:∃op,opq N=op:=⟨_,rfl⟩
   have HMarked_b:=hide hop
   have e:=HFI.out
   have hjl:=(List.getElem?_eq_some_iff.1 hns).1
   rw [List.drop_eq_getElem_cons hjl,(List.getElem?_eq_some_iff.1 hns).2] at e
   unfold rootsL at e
   rw [hN,hop] at e
   have HE:=hide (show (if bk=false then (if op=true then acc++[((j:Int)+1,1)] else (acc++[((j:Int)+1,1)])++rootsL (ls.drop (j+1)) (j+1)) else acc++rootsL (ls.drop (j+1)) (j+1))=R from by
    rw [←e,←hbk]
    by_cases hk:N.k=1 <;> cases op <;> simp [hk])
   have HZP:=hide (RowL.new wr 49 (prC (0,0)))
   have hjn:(j:Int) < (nL:Int):=by omega
   have hj3:(j:Int)+1≤(nL:Int):=by omega
   clear hns hN hLN hop e
   cases bk with
   | true =>
    go_wp2_with (first|(refine wpList_storeW rfl 49 (.tmp 5) (.tmp 15) rfl 2 plc_size wr.heap.size 49 rfl (prC (0,0)) (prC ((j:Int)+1,1)) rfl HZP.out rfl rfl (prC_one _) ?_;intro w6 hr6 hg6 hs6;have hb6:=below_stored' hg6;have R6:=hide hr6;have HB6:=hide hb6;have R06:=hide (R0r.out.on hb6);have hs6l:=hb6.size;clear hr6 hg6 hs6 hb6)|(refine wpList_loadW rfl 29 (.tmp 1) rfl 6 stk_agg stk_size w.heap.size 29 rfl (stkC g (.slice AU nU cU) (.slice AL nL cL)) R06.out rfl ?_)|(refine wpList_loadW rfl 49 (.tmp 5) rfl 2 plc_agg plc_size wr.heap.size 49 rfl (prC ((j:Int)+1,1)) R6.out rfl ?_)|(go_at_call 125;refine (NLower_e HLN.out w6 (HL.out.under (HBR.out.trans (HB6.out.mono hbsz)) hs1) (by omega) hm HM2.out).mono ?_;rintro ez w7 ⟨A1,n1,c1,C1,m1,d1,rfl,e2,e3,e4,e5,hb7⟩;have HB7:=hide (HB6.out.trans (hb7.mono hs6l));have hs7l:=hb7.size;have HZN:=hide (RowL.new w7 38 (nodC nod0 (.slice none 0 0) (.slice none 0 0)));have R67:=hide (R6.out.on hb7);clear e3 e5 hb7)|(refine wpList_storeW rfl 38 (.tmp 6) (.tmp 18) rfl 13 nod_size w7.heap.size 38 rfl (nodC nod0 (.slice none 0 0) (.slice none 0 0)) (nodC N (.slice A1 n1 c1) (.slice C1 m1 d1)) rfl HZN.out rfl rfl (nodC_one _ _ _ _ _ _ _) ?_;intro w9 hr9 hg9 hs9;have hb9:=below_stored' hg9;have qk:w9.cell? ⟨w7.heap.size,0,none⟩=some (.int .i64 N.k):=hr9.cell 0;have HR6:=hide hr9;have HR5:=hide (R67.out.on hb9);have HB9:=hide (HB7.out.trans (hb9.mono (by omega)));have hs9l:=HB9.out.size;clear hr9 hg9 hs9 hb9))
    go_roundw
    case rel=>exact ⟨j+1,acc,A,c,by omega,by go_num,rfl,by omega,ownsRow_below HO.out HB9.out,HBR.out.trans (HB9.out.mono hbsz),by have:=HE.out;simpa using this⟩
    case measure=>simp [intOf];omega
   | false =>
    have HLEN:=hide (show (acc++[((j:Int)+1,(1:Int))]).length=acc.length+1 by simp)
    go_wp2_with (first|(refine wpList_storeW rfl 49 (.tmp 5) (.tmp 15) rfl 2 plc_size wr.heap.size 49 rfl (prC (0,0)) (prC ((j:Int)+1,1)) rfl HZP.out rfl rfl (prC_one _) ?_;intro w6 hr6 hg6 hs6;have hb6:=below_stored' hg6;have R6:=hide hr6;have HB6:=hide hb6;have R06:=hide (R0r.out.on hb6);have hs6l:=hb6.size;clear hr6 hg6 hs6 hb6)|(refine wpList_loadW rfl 29 (.tmp 1) rfl 6 stk_agg stk_size w.heap.size 29 rfl (stkC g (.slice AU nU cU) (.slice AL nL cL)) R06.out rfl ?_)|(refine wpList_loadW rfl 49 (.tmp 5) rfl 2 plc_agg plc_size wr.heap.size 49 rfl (prC ((j:Int)+1,1)) R6.out rfl ?_)|(go_at_call 125;refine (NLower_e HLN.out w6 (HL.out.under (HBR.out.trans (HB6.out.mono hbsz)) hs1) (by omega) hm HM2.out).mono ?_;rintro ez w7 ⟨A1,n1,c1,C1,m1,d1,rfl,e2,e3,e4,e5,hb7⟩;have HB7:=hide (HB6.out.trans (hb7.mono hs6l));have hs7l:=hb7.size;have HZN:=hide (RowL.new w7 38 (nodC nod0 (.slice none 0 0) (.slice none 0 0)));have R67:=hide (R6.out.on hb7);clear e3 e5 hb7)|(refine wpList_storeW rfl 38 (.tmp 6) (.tmp 18) rfl 13 nod_size w7.heap.size 38 rfl (nodC nod0 (.slice none 0 0) (.slice none 0 0)) (nodC N (.slice A1 n1 c1) (.slice C1 m1 d1)) rfl HZN.out rfl rfl (nodC_one _ _ _ _ _ _ _) ?_;intro w9 hr9 hg9 hs9;have hb9:=below_stored' hg9;have qk:w9.cell? ⟨w7.heap.size,0,none⟩=some (.int .i64 N.k):=hr9.cell 0;have HR6:=hide hr9;have HR5:=hide (R67.out.on hb9);have HB9:=hide (HB7.out.trans (hb9.mono (by omega)));have hs9l:=HB9.out.size;clear hr9 hg9 hs9 hb9)|(refine wpList_loadW rfl 49 (.tmp 5) rfl 2 plc_agg plc_size wr.heap.size 49 rfl (prC ((j:Int)+1,1)) HR5.out rfl ?_)|(refine wpList_litW rfl 45 (.tmp 23) rfl (.agg (prC ((j:Int)+1,1)).toArray) _ rfl (lit_plc ((j:Int)+1,1) w9) ?_;refine wpList_plain rfl fun K2 hK2=>?_;go_loud (refine wp_appF w9 W1.heap.size _ rfl (.tmp 22) (.tmp 24) 45 49 rfl Tryz.underlying45 _ 2 16 plc_info rfl (by omega) (by omega) A acc.length c _ (prC ((j:Int)+1,1)) rfl (prC_one _) rfl (ownsRow_below HO.out HB9.out) rfl (by omega) (by omega) ?_);intro A5 c5 w10 ho10 hg10;refine hK2 _ _ ?_;clear hK2 K2;have HO10:=hide ho10;have hba:=below_new (below_self w9) (.cells (prC ((j:Int)+1,1)).toArray 49);have hoa:=ownsRow_below (ownsRow_below HO.out HB9.out) hba;have HR6b:=hide ((HR6.out.on hba).grown hg10 (row_apart hoa (HR6.out.on hba) (by decide)));have HB10:=hide (((HBR.out.trans (HB9.out.mono hbsz)).trans (hba.mono (by omega))).grown hg10 (by have:=hba.size;omega) (fun q hq=>(own_block hoa q hq).1));clear ho10 hg10 hba hoa)|(refine wpList_loadW rfl 38 (.tmp 6) rfl 13 nod_agg nod_size w7.heap.size 38 rfl (nodC N (.slice A1 n1 c1) (.slice C1 m1 d1)) HR6b.out rfl ?_))
    refine (Marked_b HMarked_b.out hath.1 hath.2 _).mono ?_
    rintro ez w11 ⟨rfl,hb11⟩
    have HO11:=hide (ownsRow_below HO10.out hb11)
    have HB11:=hide (HB10.out.trans (hb11.mono (by have:=HB10.out.size;omega)))
    clear hb11
    cases op with
    | false =>
     go_wp2_with fail
     go_roundw
     case rel=>exact ⟨j+1,acc++[((j:Int)+1,1)],A5,c5,by omega,by go_num,by rw [HLEN.out],by rw [HLEN.out];omega,by rw [HLEN.out,flatR_snoc];exact HO11.out,HB11.out,by have:=HE.out;simpa using this⟩
     case measure=>simp [intOf];omega
    | true =>
     have hE:R=acc++[((j:Int)+1,1)]:=by have:=HE.out.symm;simpa using this
     subst hE
     go_wp2_with fail
     rw [show acc.length+1=(acc++[((j:Int)+1,(1:Int))]).length from HLEN.out.symm]
     go_ret
     exact ⟨A5,c5,rfl,(pr_fresh (by rw [HLEN.out,flatR_snoc];exact HO11.out) rfl).mono (fun _ _=>rfl) (fun b hb=>⟨Nat.le_trans hs1 hb.1,hb.2⟩),HB1.out.trans (HB11.out.mono hs1)⟩
  ·obtain rfl:j=nL:=by omega
   have e:=HFI.out
   rw [List.drop_of_length_le (by omega)] at e
   unfold rootsL at e
   rw [List.append_nil] at e
   subst e
   go_wp2_with fail
   go_ret
   exact ⟨A,c,rfl,(pr_fresh HO.out rfl).mono (fun _ _=>rfl) (fun b hb=>⟨Nat.le_trans hs1 hb.1,hb.2⟩),HB1.out.trans (HBR.out.mono hs1)⟩
end Go.Proofs.YtfdbhldnohaopaaGreat

namespace Go.Proofs.YtfdbhldnohaopaaGreat
open Go.RowKit Go.Shelf Plain

theorem rootsL_len : ∀ (ls : List (List NodV)) (j : Nat), (rootsL ls j).length ≤ ls.length
 | [],j=>by simp [rootsL]
 | ns::r,j=>by
  have:=rootsL_len r (j+1)
  unfold rootsL
  split
  ·split <;> simp <;> omega
  ·simp;omega
end Go.Proofs.YtfdbhldnohaopaaGreat

