import Derived.Test.YtpndfahgflgocaaGreatDoorLn18
import Derived.Test.YtpndfahgflgocaaGreatDoorLn33
import Derived.Test.YtpndfahgflgocaaGreatDoorLn12
import Derived.Test.YtpndfahgflgocaaGreatDoorLn16

namespace Go.Proofs.YtpndfahgflgocaaGreatDoor
open Go.RowKit Go.Shelf Plain

def tixC (g:GeoQ) (U L R:Value):List Value:=[.int .i64 g.a,.int .i64 g.b,.int .i64 g.c,.int .i64 g.d,U,L,R]
theorem tixC_one (g:GeoQ) (A B C:Option Addr) (n c m d k e:Nat):∀v∈tixC g (.slice A n c) (.slice B m d) (.slice C k e),v.oneCell'=true:=by simp [tixC,Value.oneCell']
set_option maxRecDepth 100000 in
theorem tix_agg:∀w,(isAgg 59).run Tryz.prog w=.ok true w:=fun w=>by kernel_rfl
set_option maxRecDepth 100000 in
theorem tix_size:∀w,(Go.sizeOf 59).run Tryz.prog w=.ok 7 w:=fun w=>by kernel_rfl
theorem bit_ix4:∀h:Fin 32,(bits .and .i64 (h.1:Int) 4==4)=decide ((h.1:Int) / 4 % 2=1):=by decide +kernel
theorem bit_ix4' {h:Int} (h0:0≤h) (h1:h≤31):(bits .and .i64 h 4==4)=decide (h / 4 % 2=1):=by
 obtain ⟨n,rfl⟩:=Int.eq_ofNat_of_zero_le h0
 exact bit_ix4 ⟨n,by omega⟩
set_option maxRecDepth 100000 in
set_option maxHeartbeats 8000000 in
theorem XOrg_any {g:GeoQ} {AU AL AR:Option Addr} {nU cU nL cL nR cR B:Nat} {up:List NodV} {ls:List (List NodV)} {o:OriV} {b:Bool} (hb:orX ls o=b) (w:World) (hu:RdE nodEn w (Under B) AU nU up) (h:RdE layEn w (Under B) AL nL ls) (hB:B≤w.heap.size) (hF:FewL ls) (hup:FewU up):Calls Tryz.prog 48 #[.agg (tixC g (.slice AU nU cU) (.slice AL nL cL) (.slice AR nR cR)).toArray,.agg (oriC o).toArray] w (BoolB w b):=by
 obtain ⟨W1,hW1⟩:∃W1,(w.alloc (.cells (tixC g (.slice AU nU cU) (.slice AL nL cL) (.slice AR nR cR)).toArray 59)).alloc (.cells (oriC o).toArray 47)=W1:=⟨_,rfl⟩
 obtain ⟨r0,r1,hb1,hs1⟩:=rowA2 w _ _ _ _ hW1
 have hW1':(w.alloc (.cells #[.int .i64 g.a,.int .i64 g.b,.int .i64 g.c,.int .i64 g.d,.slice AU nU cU,.slice AL nL cL,.slice AR nR cR] 59)).alloc (.cells #[.int .i64 o.1,.int .i64 o.2.1,.int .i64 o.2.2] 47)=W1:=hW1
 have R2:=hide r0
 have R3:=hide r1
 have HB:=hide hb1
 have HU:=hide (hu.under hb1 hB)
 have HL:=hide (h.under hb1 hB)
 have HF:=hide hF
 have HFU:=hide hup
 have hs1':w.heap.size+2≤W1.heap.size:=by omega
 obtain ⟨⟨x,b1⟩,hx⟩:∃q:NodV×Bool,handF ls o=q:=⟨_,rfl⟩
 have HX:=hide hx
 have hcase:(b1=false∧b=false)∨(b1=true∧(x.k != 1)=false∧b=false)∨(b1=true∧(x.k != 1)=true∧b=true):=by
  rw [←hb]
  unfold orX
  rw [hx]
  cases b1
  ·simp
  ·by_cases hk:x.k=1 <;> simp [hk]
 unfold tixC oriC
 clear hW1 r0 r1 hb1 hu h hF hup hs1 hx hb
 rcases hcase with ⟨rfl,rfl⟩|⟨rfl,hk1,rfl⟩|⟨rfl,hk1,rfl⟩
 all_goals (
  go_enter Tryz.func48,Tryz.ntmps48
  go_wp2_with (first|(refine wpList_loadC rfl 29 (.tmp 8) rfl 6 stk_agg stk_size (w.heap.size) 0 59 rfl (tixC g (.slice AU nU cU) (.slice AL nL cL) (.slice AR nR cR)) (stkC g (.slice AU nU cU) (.slice AL nL cL)) R2.out rfl rfl ?_)|(refine wpList_loadW rfl 47 (.tmp 3) rfl 3 ori_agg ori_size (w.heap.size+1) 47 rfl [.int .i64 o.1,.int .i64 o.2.1,.int .i64 o.2.2] R3.out rfl ?_)|(go_at_call 66;refine (HFind_e (g:=g) (cU:=cU) (cL:=cL) HX.out W1 (und_up HU.out (by omega)) (und_up HL.out (by omega)) HF.out HFU.out).mono ?_;rintro eA wA ⟨A,n,c,C,m,d,rfl,-,-,hbA⟩;replace HB:=hide (HB.out.trans (hbA.mono (by omega)));have hzA:=hbA.size;clear hbA)|(refine wpList_storeW rfl 51 (.tmp 5) (.tmp 12) rfl 13 nod_size (wA.heap.size) 51 rfl (nodC nod0 (.slice none 0 0) (.slice none 0 0)) (nodC x (.slice A n c) (.slice C m d)) rfl (RowL.new wA 51 (nodC nod0 (.slice none 0 0) (.slice none 0 0))) rfl rfl (nodC_one _ _ _ _ _ _ _) ?_;intro wB hr6 hg6 hs6;have hb6:=below_stored' hg6;replace HB:=hide (HB.out.trans (hb6.mono (by omega)));have q5:wB.cell? ⟨wA.heap.size,0,none⟩=some (.int .i64 x.k):=hr6.cell 0;clear hr6 hg6 hs6 hb6))
  go_ret
  exact BoolB.of HB.out)
set_option maxRecDepth 100000 in
set_option maxHeartbeats 16000000 in
theorem XStands_any {g:GeoQ} {AU AL AR:Option Addr} {nU cU nL cL nR cR B:Nat} {up:List NodV} {rs:List Bool} {o:OriV} {i:Int} {b:Bool} (hb:stX up rs i o=b) (w:World) (hu:RdE nodEn w (Under B) AU nU up) (hB:B≤w.heap.size) (hup:FewU up) (hR:Rd Value.bool w w.heap.size AR nR rs) (hrl:rs.length=up.length):Calls Tryz.prog 49 #[.agg (tixC g (.slice AU nU cU) (.slice AL nL cL) (.slice AR nR cR)).toArray,.int .i64 i,.agg (oriC o).toArray] w (BoolB w b):=by
 obtain ⟨W1,hW1⟩:∃W1,(w.alloc (.cells (tixC g (.slice AU nU cU) (.slice AL nL cL) (.slice AR nR cR)).toArray 59)).alloc (.cells (oriC o).toArray 47)=W1:=⟨_,rfl⟩
 obtain ⟨r0,r1,hb1,hs1⟩:=rowA2 w _ _ _ _ hW1
 have hW1':(w.alloc (.cells #[.int .i64 g.a,.int .i64 g.b,.int .i64 g.c,.int .i64 g.d,.slice AU nU cU,.slice AL nL cL,.slice AR nR cR] 59)).alloc (.cells #[.int .i64 o.1,.int .i64 o.2.1,.int .i64 o.2.2] 47)=W1:=hW1
 have R3:=hide r0
 have R5:=hide r1
 have HB:=hide hb1
 have HU:=hide (hu.under hb1 hB)
 have HFU:=hide hup
 have HRD:=hide (hR.below hb1)
 have hs1':w.heap.size+2≤W1.heap.size:=by omega
 obtain ⟨x,hx⟩:∃x,nodAt up i=x:=⟨_,rfl⟩
 have HX:=hide hx
 have hpl:=nodAt_plain hup.2 i
 rw [hx] at hpl
 obtain ⟨hh,hhx⟩:∃hh,(bits .and .i64 x.att.h 4==4)=hh:=⟨_,rfl⟩
 have HH:=hide hhx
 obtain ⟨s,hsx⟩:∃s,decide (orgOf x=o)=s:=⟨_,rfl⟩
 have HS:=hide hsx
 have hho:hasO x=hh:=by unfold hasO;rw [←bit_ix4' hpl.2.2.1.1 hpl.2.2.1.2,hhx]
 have hcase:((x.k==4)=true∧b=true)∨((x.k==4)=false∧(x.k==2)=false∧(x.k==3)=false∧b=false)∨((x.k==4)=false∧(x.k==2)=true∧∃(j:Nat) (r:Bool),i=(j:Int)+1∧rs[j]?=some r∧b=(r&&hh&&s))∨((x.k==4)=false∧(x.k==2)=false∧(x.k==3)=true∧∃(j:Nat) (r:Bool),i=(j:Int)+1∧rs[j]?=some r∧b=(r&&hh&&s)):=by
  unfold stX at hb
  rw [hx] at hb
  by_cases h4:x.k=4
  ·rw [if_pos h4] at hb
   exact .inl ⟨by simpa using h4,hb.symm⟩
  rw [if_neg h4] at hb
  have h4':(x.k==4)=false:=by simpa using h4
  by_cases h23:x.k=2∨x.k=3
  ·rw [if_pos h23] at hb
   have hr:1≤i∧i≤(up.length:Int):=by
    by_cases hr:1≤i∧i≤(up.length:Int)
    ·exact hr
    ·rw [nodAt_out hr] at hx
     rw [←hx] at h23
     simp [nod0] at h23
   obtain ⟨j,hj⟩:∃j:Nat,i=(j:Int)+1:=⟨(i - 1).toNat,by omega⟩
   subst hj
   have hjl:j < rs.length:=by omega
   have hg:rs[j]?=some rs[j]:=List.getElem?_eq_getElem hjl
   have he:b=(rs[j]&&hh&&s):=by
    rw [←hb,show ((j:Int)+1 - 1).toNat=j from by omega,hg,hho,hsx]
    rfl
   rcases h23 with h2|h3
   ·exact .inr (.inr (.inl ⟨h4',by simpa using h2,j,_,rfl,hg,he⟩))
   ·exact .inr (.inr (.inr ⟨h4',by rw [h3];rfl,by simpa using h3,j,_,rfl,hg,he⟩))
  ·rw [if_neg h23] at hb
   exact .inr (.inl ⟨h4',by simpa using fun h=>h23 (.inl h),by simpa using fun h=>h23 (.inr h),hb.symm⟩)
 unfold tixC oriC
 clear hW1 r0 r1 hb1 hu hup hs1 hx hb hR hhx hsx hho hpl
 rcases hcase with ⟨k4,rfl⟩|⟨k4,k2,k3,rfl⟩|⟨k4,k2,j,r,rfl,hj,rfl⟩|⟨k4,k2,k3,j,r,rfl,hj,rfl⟩
 ·go_enter Tryz.func49,Tryz.ntmps49
  go_wp2_with (first|(refine wpList_loadC rfl 26 (.tmp 9) rfl 1 lay_agg lay_size (w.heap.size) 4 59 rfl (tixC g (.slice AU nU cU) (.slice AL nL cL) (.slice AR nR cR)) [.slice AU nU cU] R3.out rfl rfl ?_)|(go_at_call 36;refine (Of_e HX.out W1 HU.out (by omega) (by have:=HFU.out.1;omega)).mono ?_;rintro eA wA ⟨A,n,c,C,m,d,rfl,-,-,-,-,hbA⟩;replace HB:=hide (HB.out.trans (hbA.mono (by omega)));replace R3:=hide (R3.out.on hbA);replace R5:=hide (R5.out.on hbA);replace HRD:=hide (HRD.out.below (hbA.mono (by omega)));have hzA:=hbA.size;clear hbA)|(refine wpList_storeW rfl 51 (.tmp 7) (.tmp 12) rfl 13 nod_size (wA.heap.size) 51 rfl (nodC nod0 (.slice none 0 0) (.slice none 0 0)) (nodC x (.slice A n c) (.slice C m d)) rfl (RowL.new wA 51 (nodC nod0 (.slice none 0 0) (.slice none 0 0))) rfl rfl (nodC_one _ _ _ _ _ _ _) ?_;intro wB hr6 hg6 hs6;have hb6:=below_stored' hg6;replace HB:=hide (HB.out.trans (hb6.mono (by omega)));replace R3:=hide (R3.out.on hb6);replace R5:=hide (R5.out.on hb6);replace HRD:=hide (HRD.out.below (hb6.mono (by omega)));have R7:=hide hr6;have hzB:=hb6.size;have hltB:=hr6.lt;have q7_0:wB.cell? ⟨wA.heap.size,0,none⟩=some (.int .i64 x.k):=R7.out.cell 0;have q7_1:wB.cell? ⟨wA.heap.size,1,none⟩=some (.int .i64 x.p):=R7.out.cell 1;have q7_2:wB.cell? ⟨wA.heap.size,2,none⟩=some (.int .i64 x.n):=R7.out.cell 2;have q7_3:wB.cell? ⟨wA.heap.size,3,none⟩=some (.int .i64 x.g):=R7.out.cell 3;have q7_4:wB.cell? ⟨wA.heap.size,4,none⟩=some (.slice A n c):=R7.out.cell 4;have q7_5:wB.cell? ⟨wA.heap.size,5,none⟩=some (.slice C m d):=R7.out.cell 5;have q7_6:wB.cell? ⟨wA.heap.size,6,none⟩=some (.int .i64 x.att.h):=R7.out.cell 6;have q7_7:wB.cell? ⟨wA.heap.size,7,none⟩=some (.int .i64 x.att.o):=R7.out.cell 7;have q7_8:wB.cell? ⟨wA.heap.size,8,none⟩=some (.string ⟨x.att.r.toArray⟩):=R7.out.cell 8;have q7_9:wB.cell? ⟨wA.heap.size,9,none⟩=some (.int .i64 x.att.l):=R7.out.cell 9;have q7_10:wB.cell? ⟨wA.heap.size,10,none⟩=some (.int .i64 x.att.i):=R7.out.cell 10;have q7_11:wB.cell? ⟨wA.heap.size,11,none⟩=some (.int .i64 x.att.g):=R7.out.cell 11;have q7_12:wB.cell? ⟨wA.heap.size,12,none⟩=some (.int .i64 x.att.s):=R7.out.cell 12;have q5_0:wB.cell? ⟨w.heap.size+1,0,none⟩=some (.int .i64 o.1):=R5.out.cell 0;have q5_1:wB.cell? ⟨w.heap.size+1,1,none⟩=some (.int .i64 o.2.1):=R5.out.cell 1;have q5_2:wB.cell? ⟨w.heap.size+1,2,none⟩=some (.int .i64 o.2.2):=R5.out.cell 2;have q3_6:wB.cell? ⟨w.heap.size,6,none⟩=some (.slice AR nR cR):=R3.out.cell 6;clear hr6 hg6 hs6 hb6))
  go_ret
  exact BoolB.of HB.out
 ·go_enter Tryz.func49,Tryz.ntmps49
  go_wp2_with (first|(refine wpList_loadC rfl 26 (.tmp 9) rfl 1 lay_agg lay_size (w.heap.size) 4 59 rfl (tixC g (.slice AU nU cU) (.slice AL nL cL) (.slice AR nR cR)) [.slice AU nU cU] R3.out rfl rfl ?_)|(go_at_call 36;refine (Of_e HX.out W1 HU.out (by omega) (by have:=HFU.out.1;omega)).mono ?_;rintro eA wA ⟨A,n,c,C,m,d,rfl,-,-,-,-,hbA⟩;replace HB:=hide (HB.out.trans (hbA.mono (by omega)));replace R3:=hide (R3.out.on hbA);replace R5:=hide (R5.out.on hbA);replace HRD:=hide (HRD.out.below (hbA.mono (by omega)));have hzA:=hbA.size;clear hbA)|(refine wpList_storeW rfl 51 (.tmp 7) (.tmp 12) rfl 13 nod_size (wA.heap.size) 51 rfl (nodC nod0 (.slice none 0 0) (.slice none 0 0)) (nodC x (.slice A n c) (.slice C m d)) rfl (RowL.new wA 51 (nodC nod0 (.slice none 0 0) (.slice none 0 0))) rfl rfl (nodC_one _ _ _ _ _ _ _) ?_;intro wB hr6 hg6 hs6;have hb6:=below_stored' hg6;replace HB:=hide (HB.out.trans (hb6.mono (by omega)));replace R3:=hide (R3.out.on hb6);replace R5:=hide (R5.out.on hb6);replace HRD:=hide (HRD.out.below (hb6.mono (by omega)));have R7:=hide hr6;have hzB:=hb6.size;have hltB:=hr6.lt;have q7_0:wB.cell? ⟨wA.heap.size,0,none⟩=some (.int .i64 x.k):=R7.out.cell 0;have q7_1:wB.cell? ⟨wA.heap.size,1,none⟩=some (.int .i64 x.p):=R7.out.cell 1;have q7_2:wB.cell? ⟨wA.heap.size,2,none⟩=some (.int .i64 x.n):=R7.out.cell 2;have q7_3:wB.cell? ⟨wA.heap.size,3,none⟩=some (.int .i64 x.g):=R7.out.cell 3;have q7_4:wB.cell? ⟨wA.heap.size,4,none⟩=some (.slice A n c):=R7.out.cell 4;have q7_5:wB.cell? ⟨wA.heap.size,5,none⟩=some (.slice C m d):=R7.out.cell 5;have q7_6:wB.cell? ⟨wA.heap.size,6,none⟩=some (.int .i64 x.att.h):=R7.out.cell 6;have q7_7:wB.cell? ⟨wA.heap.size,7,none⟩=some (.int .i64 x.att.o):=R7.out.cell 7;have q7_8:wB.cell? ⟨wA.heap.size,8,none⟩=some (.string ⟨x.att.r.toArray⟩):=R7.out.cell 8;have q7_9:wB.cell? ⟨wA.heap.size,9,none⟩=some (.int .i64 x.att.l):=R7.out.cell 9;have q7_10:wB.cell? ⟨wA.heap.size,10,none⟩=some (.int .i64 x.att.i):=R7.out.cell 10;have q7_11:wB.cell? ⟨wA.heap.size,11,none⟩=some (.int .i64 x.att.g):=R7.out.cell 11;have q7_12:wB.cell? ⟨wA.heap.size,12,none⟩=some (.int .i64 x.att.s):=R7.out.cell 12;have q5_0:wB.cell? ⟨w.heap.size+1,0,none⟩=some (.int .i64 o.1):=R5.out.cell 0;have q5_1:wB.cell? ⟨w.heap.size+1,1,none⟩=some (.int .i64 o.2.1):=R5.out.cell 1;have q5_2:wB.cell? ⟨w.heap.size+1,2,none⟩=some (.int .i64 o.2.2):=R5.out.cell 2;have q3_6:wB.cell? ⟨w.heap.size,6,none⟩=some (.slice AR nR cR):=R3.out.cell 6;clear hr6 hg6 hs6 hb6))
  go_ret
  exact BoolB.of HB.out
 all_goals (
  have hjr:j < nR:=by
   have h1:=HRD.out.1
   have h2:=(List.getElem?_eq_some_iff.1 hj).1
   omega
  have hj24:j < 24:=by
   have h1:=HFU.out.1
   have h2:=HRD.out.1
   omega
  obtain ⟨bR,oR,rfl⟩:=rd_some HRD.out (by omega)
  have HJ:=hide hj
  clear hj hrl
  go_enter Tryz.func49,Tryz.ntmps49
  go_upto_region 7 with (first|(refine wpList_loadC rfl 26 (.tmp 9) rfl 1 lay_agg lay_size (w.heap.size) 4 59 rfl (tixC g (.slice AU nU cU) (.slice AL nL cL) (.slice (some ⟨bR,oR,none⟩) nR cR)) [.slice AU nU cU] R3.out rfl rfl ?_)|(go_at_call 36;refine (Of_e HX.out W1 HU.out (by omega) (by have:=HFU.out.1;omega)).mono ?_;rintro eA wA ⟨A,n,c,C,m,d,rfl,-,-,-,-,hbA⟩;replace HB:=hide (HB.out.trans (hbA.mono (by omega)));replace R3:=hide (R3.out.on hbA);replace R5:=hide (R5.out.on hbA);replace HRD:=hide (HRD.out.below (hbA.mono (by omega)));have hzA:=hbA.size;clear hbA)|(refine wpList_storeW rfl 51 (.tmp 7) (.tmp 12) rfl 13 nod_size (wA.heap.size) 51 rfl (nodC nod0 (.slice none 0 0) (.slice none 0 0)) (nodC x (.slice A n c) (.slice C m d)) rfl (RowL.new wA 51 (nodC nod0 (.slice none 0 0) (.slice none 0 0))) rfl rfl (nodC_one _ _ _ _ _ _ _) ?_;intro wB hr6 hg6 hs6;have hb6:=below_stored' hg6;replace HB:=hide (HB.out.trans (hb6.mono (by omega)));replace R3:=hide (R3.out.on hb6);replace R5:=hide (R5.out.on hb6);replace HRD:=hide (HRD.out.below (hb6.mono (by omega)));have R7:=hide hr6;have hzB:=hb6.size;have hltB:=hr6.lt;have q7_0:wB.cell? ⟨wA.heap.size,0,none⟩=some (.int .i64 x.k):=R7.out.cell 0;have q7_1:wB.cell? ⟨wA.heap.size,1,none⟩=some (.int .i64 x.p):=R7.out.cell 1;have q7_2:wB.cell? ⟨wA.heap.size,2,none⟩=some (.int .i64 x.n):=R7.out.cell 2;have q7_3:wB.cell? ⟨wA.heap.size,3,none⟩=some (.int .i64 x.g):=R7.out.cell 3;have q7_4:wB.cell? ⟨wA.heap.size,4,none⟩=some (.slice A n c):=R7.out.cell 4;have q7_5:wB.cell? ⟨wA.heap.size,5,none⟩=some (.slice C m d):=R7.out.cell 5;have q7_6:wB.cell? ⟨wA.heap.size,6,none⟩=some (.int .i64 x.att.h):=R7.out.cell 6;have q7_7:wB.cell? ⟨wA.heap.size,7,none⟩=some (.int .i64 x.att.o):=R7.out.cell 7;have q7_8:wB.cell? ⟨wA.heap.size,8,none⟩=some (.string ⟨x.att.r.toArray⟩):=R7.out.cell 8;have q7_9:wB.cell? ⟨wA.heap.size,9,none⟩=some (.int .i64 x.att.l):=R7.out.cell 9;have q7_10:wB.cell? ⟨wA.heap.size,10,none⟩=some (.int .i64 x.att.i):=R7.out.cell 10;have q7_11:wB.cell? ⟨wA.heap.size,11,none⟩=some (.int .i64 x.att.g):=R7.out.cell 11;have q7_12:wB.cell? ⟨wA.heap.size,12,none⟩=some (.int .i64 x.att.s):=R7.out.cell 12;have q5_0:wB.cell? ⟨w.heap.size+1,0,none⟩=some (.int .i64 o.1):=R5.out.cell 0;have q5_1:wB.cell? ⟨w.heap.size+1,1,none⟩=some (.int .i64 o.2.1):=R5.out.cell 1;have q5_2:wB.cell? ⟨w.heap.size+1,2,none⟩=some (.int .i64 o.2.2):=R5.out.cell 2;have q3_6:wB.cell? ⟨w.heap.size,6,none⟩=some (.slice (some ⟨bR,oR,none⟩) nR cR):=R3.out.cell 6;clear hr6 hg6 hs6 hb6))
  have qb:=rd_cell HRD.out HJ.out
  cases r
  ·go_wp2_with fail
   go_ret
   exact BoolB.of HB.out
  ·cases hh
   ·go_wp2_with (first|(go_at_call 60;refine (NHas_b HH.out _).mono ?_;rintro eC wC ⟨rfl,hbC⟩;clear q7_0 q7_1 q7_2 q7_3 q7_4 q7_5 q7_6 q7_7 q7_8 q7_9 q7_10 q7_11 q7_12 q5_0 q5_1 q5_2 q3_6;replace HB:=hide (HB.out.trans (hbC.mono (by omega)));replace R5:=hide (R5.out.on hbC);replace R7:=hide (R7.out.on hbC);have hzC:=hbC.size;have q7_9:wC.cell? ⟨wA.heap.size,9,none⟩=some (.int .i64 x.att.l):=R7.out.cell 9;have q7_10:wC.cell? ⟨wA.heap.size,10,none⟩=some (.int .i64 x.att.i):=R7.out.cell 10;have q7_11:wC.cell? ⟨wA.heap.size,11,none⟩=some (.int .i64 x.att.g):=R7.out.cell 11;have q5_0:wC.cell? ⟨w.heap.size+1,0,none⟩=some (.int .i64 o.1):=R5.out.cell 0;have q5_1:wC.cell? ⟨w.heap.size+1,1,none⟩=some (.int .i64 o.2.1):=R5.out.cell 1;have q5_2:wC.cell? ⟨w.heap.size+1,2,none⟩=some (.int .i64 o.2.2):=R5.out.cell 2;clear hbC))
    go_ret
    exact BoolB.of HB.out
   ·go_wp2_with (first|(go_at_call 60;refine (NHas_b HH.out _).mono ?_;rintro eC wC ⟨rfl,hbC⟩;clear q7_0 q7_1 q7_2 q7_3 q7_4 q7_5 q7_6 q7_7 q7_8 q7_9 q7_10 q7_11 q7_12 q5_0 q5_1 q5_2 q3_6;replace HB:=hide (HB.out.trans (hbC.mono (by omega)));replace R5:=hide (R5.out.on hbC);replace R7:=hide (R7.out.on hbC);have hzC:=hbC.size;have q7_9:wC.cell? ⟨wA.heap.size,9,none⟩=some (.int .i64 x.att.l):=R7.out.cell 9;have q7_10:wC.cell? ⟨wA.heap.size,10,none⟩=some (.int .i64 x.att.i):=R7.out.cell 10;have q7_11:wC.cell? ⟨wA.heap.size,11,none⟩=some (.int .i64 x.att.g):=R7.out.cell 11;have q5_0:wC.cell? ⟨w.heap.size+1,0,none⟩=some (.int .i64 o.1):=R5.out.cell 0;have q5_1:wC.cell? ⟨w.heap.size+1,1,none⟩=some (.int .i64 o.2.1):=R5.out.cell 1;have q5_2:wC.cell? ⟨w.heap.size+1,2,none⟩=some (.int .i64 o.2.2):=R5.out.cell 2;clear hbC)|(go_at_call 67;refine (HSame_any (a:=orgOf x) (b:=o) HS.out _).mono ?_;rintro eD wD ⟨rfl,hbD⟩;replace HB:=hide (HB.out.trans (hbD.mono (by omega)));clear hbD))
    go_ret
    exact BoolB.of HB.out)
theorem Rd.upto {α:Type} {f:α→Value} {w:World} {B B':Nat} {A:Option Addr} {n:Nat} {l:List α} (h:Rd f w B A n l) (hb:B≤B'):Rd f w B' A n l:=⟨h.1,fun hn=>by
 obtain ⟨b,o,e,h1,h2⟩:=h.2 hn
 exact ⟨b,o,e,Nat.lt_of_lt_of_le h1 hb,h2⟩⟩
set_option maxRecDepth 100000 in
set_option maxHeartbeats 16000000 in
theorem XBad_any {g:GeoQ} {AU AL AR:Option Addr} {nU cU nL cL nR cR B:Nat} {up:List NodV} {ls:List (List NodV)} {rs:List Bool} {e:EntV} {b:Bool} (hb:badX up ls rs e=b) (w:World) (hu:RdE nodEn w (Under B) AU nU up) (h:RdE layEn w (Under B) AL nL ls) (hB:B≤w.heap.size) (hF:FewL ls) (hup:FewU up) (hR:Rd Value.bool w w.heap.size AR nR rs) (hrl:rs.length=up.length) (he:e.name.length≤1000) (hw:HanW w):Calls Tryz.prog 27 #[.agg (tixC g (.slice AU nU cU) (.slice AL nL cL) (.slice AR nR cR)).toArray,.agg #[.int .i64 e.slot,.int .i64 e.ino,.string ⟨e.name.toArray⟩]] w (BoolB w b):=by
 obtain ⟨W1,hW1⟩:∃W1,(w.alloc (.cells (tixC g (.slice AU nU cU) (.slice AL nL cL) (.slice AR nR cR)).toArray 59)).alloc (.cells ([.int .i64 e.slot,.int .i64 e.ino,.string ⟨e.name.toArray⟩]:List Value).toArray 31)=W1:=⟨_,rfl⟩
 obtain ⟨r0,r1,hb1,hs1⟩:=rowA2 w _ _ _ _ hW1
 have hW1':(w.alloc (.cells #[.int .i64 g.a,.int .i64 g.b,.int .i64 g.c,.int .i64 g.d,.slice AU nU cU,.slice AL nL cL,.slice AR nR cR] 59)).alloc (.cells #[.int .i64 e.slot,.int .i64 e.ino,.string ⟨e.name.toArray⟩] 31)=W1:=hW1
 have R2:=hide r0
 have R3:=hide r1
 have HB:=hide hb1
 have HU:=hide (hu.under hb1 hB)
 have HL:=hide (h.under hb1 hB)
 have HF:=hide hF
 have HFU:=hide hup
 have HRD:=hide (hR.below hb1)
 have HW:=hide (hw.below hb1)
 have HEL:=hide he
 have hs1':w.heap.size+2≤W1.heap.size:=by omega
 have q3_2:W1.cell? ⟨w.heap.size+1,2,none⟩=some (.string ⟨e.name.toArray⟩):=r1.cell 2
 obtain ⟨o,ho⟩:∃o,parseH e.name=o:=⟨_,rfl⟩
 obtain ⟨p,hp⟩:∃p,isN e.name=p:=⟨_,rfl⟩
 obtain ⟨oi,hoi⟩:∃oi,orX ls o=oi:=⟨_,rfl⟩
 obtain ⟨st,hst⟩:∃st,stX up rs e.ino o=st:=⟨_,rfl⟩
 have HP:=hide (And.intro ho hp)
 have HOI:=hide hoi
 have HST:=hide hst
 have hcase:(p=false∧b=true)∨(p=true∧oi=false∧b=true)∨(p=true∧oi=true∧b=!st):=by
  rw [←hb]
  unfold badX
  rw [ho,hp,hoi,hst]
  cases p <;> cases oi <;> simp
 unfold tixC
 clear hW1 r0 r1 hb1 hu h hF hup hs1 hb hR he hw ho hp hoi hst
 rcases hcase with ⟨rfl,rfl⟩|⟨rfl,rfl,rfl⟩|⟨rfl,rfl,rfl⟩
 all_goals (
  go_enter Tryz.func27,Tryz.ntmps27
  go_wp2_with (first|(go_at_call 47;refine (HParse_e (s:=e.name) HEL.out HP.out W1 HW.out).mono ?_;rintro eA wA ⟨rfl,hbA⟩;clear q3_2;replace HB:=hide (HB.out.trans (hbA.mono (by omega)));replace R2:=hide (R2.out.on hbA);replace R3:=hide (R3.out.on hbA);replace HU:=hide (HU.out.under hbA (by omega));replace HL:=hide (HL.out.under hbA (by omega));replace HRD:=hide (HRD.out.below (hbA.mono (by omega)));have hzhbA:=hbA.size;clear hbA)|(refine wpList_storeW rfl 47 (.tmp 5) (.tmp 11) rfl 3 ori_size (wA.heap.size) 47 rfl [.int .i64 0,.int .i64 0,.int .i64 0] [.int .i64 o.1,.int .i64 o.2.1,.int .i64 o.2.2] rfl (RowL.new wA 47 [.int .i64 0,.int .i64 0,.int .i64 0]) rfl rfl (by simp [Value.oneCell']) ?_;intro wB hr6 hg6 hs6;have hb6:=below_stored' hg6;have R5:=hide hr6;have hltB:=hr6.lt;replace HB:=hide (HB.out.trans (hb6.mono (by omega)));replace R2:=hide (R2.out.on hb6);replace R3:=hide (R3.out.on hb6);replace HU:=hide (HU.out.under hb6 (by omega));replace HL:=hide (HL.out.under hb6 (by omega));replace HRD:=hide (HRD.out.below (hb6.mono (by omega)));have hzhb6:=hb6.size;have q2_0:wB.cell? ⟨w.heap.size,0,none⟩=some (.int .i64 g.a):=R2.out.cell 0;have q2_1:wB.cell? ⟨w.heap.size,1,none⟩=some (.int .i64 g.b):=R2.out.cell 1;have q2_2:wB.cell? ⟨w.heap.size,2,none⟩=some (.int .i64 g.c):=R2.out.cell 2;have q2_3:wB.cell? ⟨w.heap.size,3,none⟩=some (.int .i64 g.d):=R2.out.cell 3;have q2_4:wB.cell? ⟨w.heap.size,4,none⟩=some (.slice AU nU cU):=R2.out.cell 4;have q2_5:wB.cell? ⟨w.heap.size,5,none⟩=some (.slice AL nL cL):=R2.out.cell 5;have q2_6:wB.cell? ⟨w.heap.size,6,none⟩=some (.slice AR nR cR):=R2.out.cell 6;have q5_0:wB.cell? ⟨wA.heap.size,0,none⟩=some (.int .i64 o.1):=R5.out.cell 0;have q5_1:wB.cell? ⟨wA.heap.size,1,none⟩=some (.int .i64 o.2.1):=R5.out.cell 1;have q5_2:wB.cell? ⟨wA.heap.size,2,none⟩=some (.int .i64 o.2.2):=R5.out.cell 2;have q3_1:wB.cell? ⟨w.heap.size+1,1,none⟩=some (.int .i64 e.ino):=R3.out.cell 1;clear hr6 hg6 hs6 hb6)|(go_at_call 48;refine (XOrg_any (g:=g) (cR:=cR) HOI.out wB HU.out HL.out (by omega) HF.out HFU.out).mono ?_;rintro eC wC ⟨rfl,hbC⟩;clear q2_0 q2_1 q2_2 q2_3 q2_4 q2_5 q2_6 q5_0 q5_1 q5_2 q3_1;replace R5:=hide (R5.out.on hbC);replace HB:=hide (HB.out.trans (hbC.mono (by omega)));replace R2:=hide (R2.out.on hbC);replace R3:=hide (R3.out.on hbC);replace HU:=hide (HU.out.under hbC (by omega));replace HL:=hide (HL.out.under hbC (by omega));replace HRD:=hide (HRD.out.below (hbC.mono (by omega)));have hzhbC:=hbC.size;have q2_0:wC.cell? ⟨w.heap.size,0,none⟩=some (.int .i64 g.a):=R2.out.cell 0;have q2_1:wC.cell? ⟨w.heap.size,1,none⟩=some (.int .i64 g.b):=R2.out.cell 1;have q2_2:wC.cell? ⟨w.heap.size,2,none⟩=some (.int .i64 g.c):=R2.out.cell 2;have q2_3:wC.cell? ⟨w.heap.size,3,none⟩=some (.int .i64 g.d):=R2.out.cell 3;have q2_4:wC.cell? ⟨w.heap.size,4,none⟩=some (.slice AU nU cU):=R2.out.cell 4;have q2_5:wC.cell? ⟨w.heap.size,5,none⟩=some (.slice AL nL cL):=R2.out.cell 5;have q2_6:wC.cell? ⟨w.heap.size,6,none⟩=some (.slice AR nR cR):=R2.out.cell 6;have q5_0:wC.cell? ⟨wA.heap.size,0,none⟩=some (.int .i64 o.1):=R5.out.cell 0;have q5_1:wC.cell? ⟨wA.heap.size,1,none⟩=some (.int .i64 o.2.1):=R5.out.cell 1;have q5_2:wC.cell? ⟨wA.heap.size,2,none⟩=some (.int .i64 o.2.2):=R5.out.cell 2;have q3_1:wC.cell? ⟨w.heap.size+1,1,none⟩=some (.int .i64 e.ino):=R3.out.cell 1;clear hbC)|(go_at_call 49;refine (XStands_any (g:=g) (AL:=AL) (nL:=nL) (cL:=cL) (cR:=cR) HST.out wC HU.out (by omega) HFU.out (HRD.out.upto (by omega)) hrl).mono ?_;rintro eD wD ⟨rfl,hbD⟩;replace HB:=hide (HB.out.trans (hbD.mono (by omega)));clear hbD))
  go_ret
  exact BoolB.of HB.out)
def TixRet (w:World) (g:GeoQ) (AU AL:Option Addr) (nU cU nL cL:Nat) (rs:List Bool) (e:Ending) (w':World):Prop:=∃AR nR cR,e=.returned (.agg (tixC g (.slice AU nU cU) (.slice AL nL cL) (.slice AR nR cR)).toArray)∧Rd Value.bool w' w'.heap.size AR nR rs∧Below w.heap.size w w'
set_option maxRecDepth 100000 in
set_option maxHeartbeats 8000000 in
theorem XBegin_any {g:GeoQ} {AU AL:Option Addr} {nU cU nL cL B:Nat} {up:List NodV} {rs:List Bool} (hrs:reachL up (walkW up [1]).1=rs) (w:World) (hu:RdE nodEn w (Under B) AU nU up) (hB:B≤w.heap.size) (hup:FewU up):Calls Tryz.prog 25 #[.agg (stkC g (.slice AU nU cU) (.slice AL nL cL)).toArray] w (TixRet w g AU AL nU cU nL cL rs):=by
 obtain ⟨W1,hW1⟩:∃W1,((w.alloc (.cells (stkC g (.slice AU nU cU) (.slice AL nL cL)).toArray 29)).alloc (.cells (tixC ⟨0,0,0,0⟩ (.slice none 0 0) (.slice none 0 0) (.slice none 0 0)).toArray 59))=W1:=⟨_,rfl⟩
 obtain ⟨r0,r1,hb1,hs1⟩:=rowA2 w _ _ _ _ hW1
 have hW1':((w.alloc (.cells #[.int .i64 g.a,.int .i64 g.b,.int .i64 g.c,.int .i64 g.d,.slice AU nU cU,.slice AL nL cL] 29)).alloc (.cells #[.int .i64 0,.int .i64 0,.int .i64 0,.int .i64 0,.slice none 0 0,.slice none 0 0,.slice none 0 0] 59))=W1:=hW1
 have R1:=hide r0
 have R2:=hide r1
 have HB:=hide hb1
 have hsz0:=hb1.size
 have HU:=hide (hu.under hb1 hB)
 have HFU:=hide hup
 have HRS:=hide hrs
 have hs1':w.heap.size+2≤W1.heap.size:=by omega
 clear r0 r1 hb1 hW1 hu hup hrs hs1
 unfold stkC
 go_enter Tryz.func25,Tryz.ntmps25
 go_wp2_with fail
 refine wp_region_planLN (fun w'=>Below W1.heap.size W1 w') [(0,true),(1,true),(2,true),(3,false),(4,false),(5,true)] 6 (by kernel_rfl) (by kernel_rfl) (by kernel_rfl) (by kernel_rfl) (by kernel_rfl) rfl (fun _ _ _ _ _ h=>h) (below_drew (below_self W1)) (fun hHeld=>?_)
 simp only [planOps,List.filterMap_cons,List.filterMap_nil,List.getElem?_toArray,List.getElem?_cons_succ,List.getElem?_cons_zero,Option.map_some]
 refine wpPlan_take (v:=?_) (by kernel_rfl) (fun wS hSw=>?_) ?_
 rotate_left
 ·refine execOp_load (x:=.tmp 1) (k:=6) (g:=w.heap.size) (off:=0) (cs:=[.int .i64 g.a,.int .i64 g.b,.int .i64 g.c,.int .i64 g.d,.slice AU nU cU,.slice AL nL cL]) ?_ stk_agg stk_size ?_ (fun j v hv=>by rw [Nat.zero_add];exact ((R1.out.on hSw).cell j).trans hv) rfl <;> rfl
 (try simp only [Act.put,pu1,pu2,pu3])
 refine wpPlan_take (v:=?_) (by kernel_rfl) (fun wS hSw=>?_) ?_
 rotate_left
 ·(try dsimp only at hSw);go_simp;(try with_reducible rfl)
 (try simp only [Act.put,pu1,pu2,pu3])
 refine wpPlan_take (v:=?_) (by kernel_rfl) (fun wS hSw=>?_) ?_
 rotate_left
 ·refine execOp_load (x:=.tmp 4) (k:=1) (g:=w.heap.size) (off:=4) (cs:=[.slice AU nU cU]) ?_ lay_agg lay_size ?_ (fun j v hv=>((R1.out.on hSw).cell (4+j)).trans (sub_cell (cur:=(stkC g (.slice AU nU cU) (.slice AL nL cL))) (k:=1) rfl hv)) rfl <;> rfl
 (try simp only [Act.put,pu1,pu2,pu3])
 refine wpPlan_call (by kernel_rfl) (fun K hK=>?_)
 have hOld:=hide hHeld
 clear hHeld
 unfold Oper.wp execOp
 have hlit:=lit_one W1.drew
 go_simp
 have hal:=below_new (below_self W1.drew) (.cells #[.int .i64 1] 3)
 have R12:=hide (RowL.new W1.drew 3 [.int .i64 1])
 refine hK.out _ _ (hOld.out.trans (hal.mono hOld.out.size)) (fun hHeld=>?_)
 clear hK K
 clear hlit hal hOld
 (try simp only [Act.put,pu1,pu2,pu3])
 refine wpPlan_call (by kernel_rfl) (fun K hK=>?_)
 have hOld:=hide hHeld
 clear hHeld
 go_simp
 go_at_call 40
 refine (OReach_any HRS.out _ (und_up (HU.out.under hOld.out (by omega)) (by have:=hOld.out.size;omega)) (one_row R12.out) (plain_many HFU.out.1 HFU.out.2).1).mono ?_
 rintro e w' ⟨AR,nR,cR,lo,hi,rfl,hlo,hr5,hbel⟩
 have HRC:=hide (show RchR w' W1.heap.size w'.heap.size AR nR rs from ⟨⟨hr5.1.1,fun hn=>by obtain ⟨b,o,e,h1,h2,h3⟩:=hr5.1.2 hn;exact ⟨b,o,e,by have:=hOld.out.size;omega,by have:=hr5.2;omega,h3⟩⟩,Nat.le_refl _⟩)
 clear hr5 R12
 refine hK.out _ _ (hOld.out.trans (hbel.mono hOld.out.size)) (fun hHeld=>?_)
 clear hK K
 (try simp only [Act.put,pu1,pu2,pu3])
 refine wpPlan_take (v:=?_) (by kernel_rfl) (fun wS hSw=>?_) ?_
 rotate_left
 ·(try dsimp only at hSw);go_simp;(try with_reducible rfl)
 (try simp only [Act.put,pu1,pu2,pu3])
 refine wpPlan_end ?_
 refine postL_go rfl (by kernel_rfl) ?_
 have hsx:=hHeld.size
 refine wp_storeC 59 (.tmp 2) (.tmp 8) rfl 7 tix_size (w.heap.size+1) 0 59 rfl (tixC ⟨0,0,0,0⟩ (.slice none 0 0) (.slice none 0 0) (.slice none 0 0)) (tixC g (.slice AU nU cU) (.slice AL nL cL) (.slice AR nR cR)) rfl (R2.out.on hHeld) rfl (by decide) (tixC_one _ _ _ _ _ _ _ _ _ _) ?_
 intro w5 hr5 hg5 hs5
 replace hr5:RowL w5 (w.heap.size+1) 59 (tixC g (.slice AU nU cU) (.slice AL nL cL) (.slice AR nR cR)):=hr5
 have HR5:=hide hr5
 have HB5:=hide ((HB.out.trans (hHeld.mono HB.out.size)).grown hg5 (by omega) (pu4 (by omega)))
 have HRD:=hide (rch_rd (rch_grown HRC.out hg5 (by omega)))
 clear hr5 hg5 hs5 hHeld
 (try simp only [Act.put])
 go_wp2_with fail
 exact bodyPost_ret (res_cell Tryz.results25 rfl tix_agg tix_size HR5.out rfl) rfl ⟨AR,nR,cR,rfl,HRD.out,HB5.out⟩
set_option maxRecDepth 100000 in
theorem ixe_agg:∀w,(isAgg 31).run Tryz.prog w=.ok true w:=fun w=>by kernel_rfl
set_option maxRecDepth 100000 in
theorem ixe_size:∀w,(Go.sizeOf 31).run Tryz.prog w=.ok 3 w:=fun w=>by kernel_rfl
end Go.Proofs.YtpndfahgflgocaaGreatDoor

