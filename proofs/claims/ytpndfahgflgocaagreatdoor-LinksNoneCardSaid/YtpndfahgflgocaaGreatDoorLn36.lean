import Derived.Test.YtpndfahgflgocaaGreatDoorLn30
import Derived.Test.YtpndfahgflgocaaGreatDoorLn35

namespace Go.Proofs.YtpndfahgflgocaaGreatDoor
open Go.RowKit Go.Shelf Plain

set_option maxRecDepth 100000 in
set_option maxHeartbeats 4000000 in
theorem KTree_any {g:GeoQ} {AU AL:Option Addr} {nU cU nL cL B:Nat} {up:List NodV} {rs:List Bool} (hrs:reachL up (walkW up [1]).1=rs) {i:Int} {j:Nat} {r:Bool} (hi:i=(j:Int)+1) (hr:rs[j]?=some r) (w:World) (hu:RdE nodEn w (Under B) AU nU up) (hB:B≤w.heap.size) (hup:FewU up):Calls Tryz.prog 37 #[.agg (stkC g (.slice AU nU cU) (.slice AL nL cL)).toArray,.int .i64 i] w (BoolB w r):=by
 obtain ⟨W1,hW1⟩:∃W1,(w.alloc (.cells (stkC g (.slice AU nU cU) (.slice AL nL cL)).toArray 29))=W1:=⟨_,rfl⟩
 obtain ⟨r0,hb1,hs1⟩:=rowA1 w _ _ hW1
 have hW1':(w.alloc (.cells #[.int .i64 g.a,.int .i64 g.b,.int .i64 g.c,.int .i64 g.d,.slice AU nU cU,.slice AL nL cL] 29))=W1:=hW1
 have R2:=hide r0
 have HB:=hide hb1
 have hsz0:=hb1.size
 have HU:=hide (hu.under hb1 hB)
 have HFU:=hide hup
 have HRS:=hide hrs
 have HRJ:=hide hr
 have hs1':w.heap.size+1≤W1.heap.size:=by omega
 have hj24:j < 24:=by
  have h1:=(List.getElem?_eq_some_iff.1 hr).1
  rw [←hrs,reachL_len] at h1
  have:=hup.1
  omega
 have hwr:IntKind.i64.wrap (i - 1)=(j:Int):=by rw [hi,show (j:Int)+1 - 1=(j:Int) from by omega];exact IntWalk.i64_in _ (by omega)
 unfold stkC
 clear r0 hb1 hW1 hu hup hrs hr hs1 hi
 go_enter Tryz.func37,Tryz.ntmps37
 go_wp2_with (first|(refine wpList_loadC rfl 26 (.tmp 5) rfl 1 lay_agg lay_size (w.heap.size) 4 29 rfl (stkC g (.slice AU nU cU) (.slice AL nL cL)) [.slice AU nU cU] R2.out rfl rfl ?_)|(go_at_call 40;refine (OReach_any HRS.out _ (und_up (HU.out.under (below_new (below_self W1) (.cells #[.int .i64 1] 3)) (by omega)) (by first|(simp;omega)|simp)) (one_row (RowL.new W1 3 [.int .i64 1])) (plain_many HFU.out.1 HFU.out.2).1).mono ?_;rintro e1 wT ⟨AR,nR,cR,lo,hi,rfl,hlo,hrd0,hbel0⟩;have hbel:Below W1.heap.size W1 wT:=(below_new (below_self W1) (.cells #[.int .i64 1] 3)).trans (hbel0.mono (by simp));have hrd:=rch_rd hrd0;have hjR:j < nR:=(by have h1:=hrd.1;have h2:=(List.getElem?_eq_some_iff.1 HRJ.out).1;omega);obtain ⟨bR,oR,rfl⟩:=rd_some hrd (by omega);have qr:=rd_cell hrd HRJ.out;have hjI:(j:Int) < (nR:Int):=(by omega);replace HB:=hide (HB.out.trans (hbel.mono (by omega)));clear hrd hrd0 hbel hbel0))
 go_ret
 exact BoolB.of HB.out
theorem wantK_free {up:List NodV} {ls:List (List NodV)} {rs:List Bool} {i:Int} {x:NodV} (hx:nodAt up i=x) (h2:x.k≠2) (h3:x.k≠3):wantK up ls rs i=(0,false):=by
 unfold wantK
 rw [hx,if_neg (fun h=>h.1.elim h2 h3)]
theorem wantK_at {up:List NodV} {ls:List (List NodV)} {rs:List Bool} {i:Int} {j:Nat} {x:NodV} {r b:Bool} (hx:nodAt up i=x) (hk:x.k=2∨x.k=3) (hi:i=(j:Int)+1) (hr:rs[j]?=some r) (hb:inX up ls rs i=b):wantK up ls rs i=if (r&&b)=true then (min (cntS (allS up ls) (x.att.l,x.att.i):Int) 65535,true) else (0,false):=by
 unfold wantK
 rw [hx,hb,show (rs[(i - 1).toNat]?).getD false=r from by rw [hi,show ((j:Int)+1 - 1).toNat=j from by omega,hr];rfl]
 cases r <;> cases b <;> simp [hk]
def NumB (w:World) (p:Int×Bool) (e:Ending) (w':World):Prop:=e=.returned (.tuple #[.int .i64 p.1,.bool p.2])∧Below w.heap.size w w'
set_option maxRecDepth 100000 in
set_option maxHeartbeats 16000000 in
theorem KWant_any {g:GeoQ} {AU AL:Option Addr} {nU cU nL cL B:Nat} {up:List NodV} {ls:List (List NodV)} {rs:List Bool} (hrs:reachL up (walkW up [1]).1=rs) {i:Int} {p:Int×Bool} (hp:wantK up ls rs i=p) (w:World) (hu:RdE nodEn w (Under B) AU nU up) (h:RdE layEn w (Under B) AL nL ls) (hB:B≤w.heap.size) (hF:FewL ls) (hup:FewU up) (hw:HanW w):Calls Tryz.prog 16 #[.agg (stkC g (.slice AU nU cU) (.slice AL nL cL)).toArray,.int .i64 i] w (NumB w p):=by
 obtain ⟨W1,hW1⟩:∃W1,(w.alloc (.cells (stkC g (.slice AU nU cU) (.slice AL nL cL)).toArray 29))=W1:=⟨_,rfl⟩
 obtain ⟨r0,hb1,hs1⟩:=rowA1 w _ _ hW1
 have hW1':(w.alloc (.cells #[.int .i64 g.a,.int .i64 g.b,.int .i64 g.c,.int .i64 g.d,.slice AU nU cU,.slice AL nL cL] 29))=W1:=hW1
 have R2:=hide r0
 have HB:=hide hb1
 have hsz0:=hb1.size
 have HU:=hide (hu.under hb1 hB)
 have HL:=hide (h.under hb1 hB)
 have HF:=hide hF
 have HFU:=hide hup
 have HW:=hide (hw.below hb1)
 have hs1':w.heap.size+1≤W1.heap.size:=by omega
 have HRS:=hide hrs
 obtain ⟨x,hx⟩:∃x,nodAt up i=x:=⟨_,rfl⟩
 have HX:=hide hx
 have hrl:rs.length=up.length:=by rw [←hrs,reachL_len]
 have hcs:(x.k≠2∧x.k≠3∧p=(0,false))∨((x.k=2∨x.k=3)∧∃(j:Nat) (r b:Bool),i=(j:Int)+1∧rs[j]?=some r∧inX up ls rs i=b∧p=if (r&&b)=true then (min (cntS (allS up ls) (x.att.l,x.att.i):Int) 65535,true) else (0,false)):=by
  by_cases hk:x.k=2∨x.k=3
  ·have hin:1≤i∧i≤(up.length:Int):=by
    by_cases h1:1≤i∧i≤(up.length:Int)
    ·exact h1
    ·rw [nodAt_out h1] at hx
     subst hx
     simp [nod0] at hk
   have hj:(i - 1).toNat < rs.length:=by omega
   exact .inr ⟨hk,(i - 1).toNat,rs[(i - 1).toNat],_,by omega,List.getElem?_eq_getElem hj,rfl,by rw [←hp];exact wantK_at hx hk (by omega) (List.getElem?_eq_getElem hj) rfl⟩
  ·exact .inl ⟨fun h=>hk (.inl h),fun h=>hk (.inr h),by rw [←hp];exact wantK_free hx (fun h=>hk (.inl h)) (fun h=>hk (.inr h))⟩
 have q2_4:W1.cell? ⟨w.heap.size,4,none⟩=some (.slice AU nU cU):=R2.out.cell 4
 have q2_0:W1.cell? ⟨w.heap.size,0,none⟩=some (.int .i64 g.a):=R2.out.cell 0
 have q2_1:W1.cell? ⟨w.heap.size,1,none⟩=some (.int .i64 g.b):=R2.out.cell 1
 have q2_2:W1.cell? ⟨w.heap.size,2,none⟩=some (.int .i64 g.c):=R2.out.cell 2
 have q2_3:W1.cell? ⟨w.heap.size,3,none⟩=some (.int .i64 g.d):=R2.out.cell 3
 have q2_5:W1.cell? ⟨w.heap.size,5,none⟩=some (.slice AL nL cL):=R2.out.cell 5
 unfold stkC
 clear r0 hb1 hW1 hu h hF hup hs1 hrs hp hw hx
 rcases hcs with ⟨hk2,hk3,rfl⟩|⟨hk,j,r,b,hi,hr,hb,hpp⟩
 ·have hk5:(x.k != 2)=true:=by simp [hk2]
  have hk6:(x.k != 3)=true:=by simp [hk3]
  clear hk2 hk3
  go_enter Tryz.func16,Tryz.ntmps16
  go_upto_region 2 with (first|(refine wpList_loadC rfl 26 (.tmp 8) rfl 1 lay_agg lay_size (w.heap.size) 4 29 rfl (stkC g (.slice AU nU cU) (.slice AL nL cL)) [.slice AU nU cU] R2.out rfl rfl ?_)|(go_at_call 36;refine (Of_e HX.out W1 HU.out (by omega) (by have:=HFU.out.1;omega)).mono ?_;rintro e1 wA ⟨A0,n0,k0,C0,m0,d0,rfl,-,-,hmd,he,hbel⟩;clear he hmd;clear q2_4 q2_0 q2_1 q2_2 q2_3 q2_5;replace HB:=hide (HB.out.trans (hbel.mono HB.out.size));replace R2:=hide (R2.out.on hbel);replace HU:=hide (HU.out.under hbel (by omega));replace HL:=hide (HL.out.under hbel (by omega));replace HW:=hide (HW.out.below hbel);have hsz2:=hbel.size;have q2_4:wA.cell? ⟨w.heap.size,4,none⟩=some (.slice AU nU cU):=R2.out.cell 4;have q2_0:wA.cell? ⟨w.heap.size,0,none⟩=some (.int .i64 g.a):=R2.out.cell 0;have q2_1:wA.cell? ⟨w.heap.size,1,none⟩=some (.int .i64 g.b):=R2.out.cell 1;have q2_2:wA.cell? ⟨w.heap.size,2,none⟩=some (.int .i64 g.c):=R2.out.cell 2;have q2_3:wA.cell? ⟨w.heap.size,3,none⟩=some (.int .i64 g.d):=R2.out.cell 3;have q2_5:wA.cell? ⟨w.heap.size,5,none⟩=some (.slice AL nL cL):=R2.out.cell 5;clear hbel)|(refine wpList_storeW rfl 51 (.tmp 6) (.tmp 11) rfl 13 nod_size (wA.heap.size) 51 rfl (nodC nod0 (.slice none 0 0) (.slice none 0 0)) (nodC x (.slice A0 n0 k0) (.slice C0 m0 d0)) rfl (RowL.new wA 51 (nodC nod0 (.slice none 0 0) (.slice none 0 0))) rfl rfl (nodC_one _ _ _ _ _ _ _) ?_;intro wS3 hr3 hg3 hs3;have hzb:=below_stored' hg3;clear q2_4 q2_0 q2_1 q2_2 q2_3 q2_5;replace HB:=hide (HB.out.trans (hzb.mono HB.out.size));replace R2:=hide (R2.out.on hzb);replace HU:=hide (HU.out.under hzb (by omega));replace HL:=hide (HL.out.under hzb (by omega));replace HW:=hide (HW.out.below hzb);have hsz4:=hzb.size;have q2_4:wS3.cell? ⟨w.heap.size,4,none⟩=some (.slice AU nU cU):=R2.out.cell 4;have q2_0:wS3.cell? ⟨w.heap.size,0,none⟩=some (.int .i64 g.a):=R2.out.cell 0;have q2_1:wS3.cell? ⟨w.heap.size,1,none⟩=some (.int .i64 g.b):=R2.out.cell 1;have q2_2:wS3.cell? ⟨w.heap.size,2,none⟩=some (.int .i64 g.c):=R2.out.cell 2;have q2_3:wS3.cell? ⟨w.heap.size,3,none⟩=some (.int .i64 g.d):=R2.out.cell 3;have q2_5:wS3.cell? ⟨w.heap.size,5,none⟩=some (.slice AL nL cL):=R2.out.cell 5;have R6:=hide hr3;have hlt3:=hr3.lt;have q6_0:wS3.cell? ⟨wA.heap.size,0,none⟩=some (.int .i64 x.k):=R6.out.cell 0;have q6_9:wS3.cell? ⟨wA.heap.size,9,none⟩=some (.int .i64 x.att.l):=R6.out.cell 9;have q6_10:wS3.cell? ⟨wA.heap.size,10,none⟩=some (.int .i64 x.att.i):=R6.out.cell 10;clear hzb hr3;clear hg3 hs3))
  go_wp2_with fail
  go_ret2
  exact ⟨rfl,HB.out⟩
 ·have HIJ:=hide hi
  have HRJ:=hide hr
  have HIN:=hide hb
  obtain ⟨q,hq⟩:∃q,(r&&b)=q:=⟨_,rfl⟩
  rw [hq] at hpp
  have HP:=hide hpp
  have HQ:=hide hq
  obtain ⟨cn,hcn⟩:∃cn,cntS (allS up ls) (x.att.l,x.att.i)=cn:=⟨_,rfl⟩
  have HCN:=hide hcn
  clear hi hr hb hpp hq hcn hrl
  go_enter Tryz.func16,Tryz.ntmps16
  go_upto_region 2 with (first|(refine wpList_loadC rfl 26 (.tmp 8) rfl 1 lay_agg lay_size (w.heap.size) 4 29 rfl (stkC g (.slice AU nU cU) (.slice AL nL cL)) [.slice AU nU cU] R2.out rfl rfl ?_)|(go_at_call 36;refine (Of_e HX.out W1 HU.out (by omega) (by have:=HFU.out.1;omega)).mono ?_;rintro e1 wA ⟨A0,n0,k0,C0,m0,d0,rfl,-,-,hmd,he,hbel⟩;clear he hmd;clear q2_4 q2_0 q2_1 q2_2 q2_3 q2_5;replace HB:=hide (HB.out.trans (hbel.mono HB.out.size));replace R2:=hide (R2.out.on hbel);replace HU:=hide (HU.out.under hbel (by omega));replace HL:=hide (HL.out.under hbel (by omega));replace HW:=hide (HW.out.below hbel);have hsz2:=hbel.size;have q2_4:wA.cell? ⟨w.heap.size,4,none⟩=some (.slice AU nU cU):=R2.out.cell 4;have q2_0:wA.cell? ⟨w.heap.size,0,none⟩=some (.int .i64 g.a):=R2.out.cell 0;have q2_1:wA.cell? ⟨w.heap.size,1,none⟩=some (.int .i64 g.b):=R2.out.cell 1;have q2_2:wA.cell? ⟨w.heap.size,2,none⟩=some (.int .i64 g.c):=R2.out.cell 2;have q2_3:wA.cell? ⟨w.heap.size,3,none⟩=some (.int .i64 g.d):=R2.out.cell 3;have q2_5:wA.cell? ⟨w.heap.size,5,none⟩=some (.slice AL nL cL):=R2.out.cell 5;clear hbel)|(refine wpList_storeW rfl 51 (.tmp 6) (.tmp 11) rfl 13 nod_size (wA.heap.size) 51 rfl (nodC nod0 (.slice none 0 0) (.slice none 0 0)) (nodC x (.slice A0 n0 k0) (.slice C0 m0 d0)) rfl (RowL.new wA 51 (nodC nod0 (.slice none 0 0) (.slice none 0 0))) rfl rfl (nodC_one _ _ _ _ _ _ _) ?_;intro wS3 hr3 hg3 hs3;have hzb:=below_stored' hg3;clear q2_4 q2_0 q2_1 q2_2 q2_3 q2_5;replace HB:=hide (HB.out.trans (hzb.mono HB.out.size));replace R2:=hide (R2.out.on hzb);replace HU:=hide (HU.out.under hzb (by omega));replace HL:=hide (HL.out.under hzb (by omega));replace HW:=hide (HW.out.below hzb);have hsz4:=hzb.size;have q2_4:wS3.cell? ⟨w.heap.size,4,none⟩=some (.slice AU nU cU):=R2.out.cell 4;have q2_0:wS3.cell? ⟨w.heap.size,0,none⟩=some (.int .i64 g.a):=R2.out.cell 0;have q2_1:wS3.cell? ⟨w.heap.size,1,none⟩=some (.int .i64 g.b):=R2.out.cell 1;have q2_2:wS3.cell? ⟨w.heap.size,2,none⟩=some (.int .i64 g.c):=R2.out.cell 2;have q2_3:wS3.cell? ⟨w.heap.size,3,none⟩=some (.int .i64 g.d):=R2.out.cell 3;have q2_5:wS3.cell? ⟨w.heap.size,5,none⟩=some (.slice AL nL cL):=R2.out.cell 5;have R6:=hide hr3;have hlt3:=hr3.lt;have q6_0:wS3.cell? ⟨wA.heap.size,0,none⟩=some (.int .i64 x.k):=R6.out.cell 0;have q6_9:wS3.cell? ⟨wA.heap.size,9,none⟩=some (.int .i64 x.att.l):=R6.out.cell 9;have q6_10:wS3.cell? ⟨wA.heap.size,10,none⟩=some (.int .i64 x.att.i):=R6.out.cell 10;clear hzb hr3;clear hg3 hs3))
  (try simp only [Act.put])
  go_cut [31] from 12 to 31 (fun v31 wx=>v31=.bool (!q)∧Below wS3.heap.size wS3 wx)
  case first =>
   have HX0:=hide (below_self wS3)
   cases r with
   | false =>
    have hqf:q=false:=by rw [←HQ.out];rfl
    subst hqf
    rcases hk with hk|hk
    ·have hk2:(x.k != 2)=false:=by simp [hk]
     clear hk
     go_wp2_with fail
     go_at_call 37
     refine (KTree_any (g:=g) (cU:=cU) (AL:=AL) (nL:=nL) (cL:=cL) HRS.out HIJ.out HRJ.out wS3 HU.out (by omega) HFU.out).mono ?_
     rintro e5 wT ⟨rfl,hbel⟩
     have HBT:=hide hbel
     clear q2_4 q6_0 q2_0 q2_1 q2_2 q2_3 q2_5 q6_9 q6_10
     replace HB:=hide (HB.out.trans (hbel.mono HB.out.size))
     replace R2:=hide (R2.out.on hbel)
     replace HU:=hide (HU.out.under hbel (by omega))
     replace HL:=hide (HL.out.under hbel (by omega))
     replace HW:=hide (HW.out.below hbel)
     replace R6:=hide (R6.out.on hbel)
     have hsz6:=hbel.size
     have q2_4:wT.cell? ⟨w.heap.size,4,none⟩=some (.slice AU nU cU):=R2.out.cell 4
     have q6_0:wT.cell? ⟨wA.heap.size,0,none⟩=some (.int .i64 x.k):=R6.out.cell 0
     have q2_0:wT.cell? ⟨w.heap.size,0,none⟩=some (.int .i64 g.a):=R2.out.cell 0
     have q2_1:wT.cell? ⟨w.heap.size,1,none⟩=some (.int .i64 g.b):=R2.out.cell 1
     have q2_2:wT.cell? ⟨w.heap.size,2,none⟩=some (.int .i64 g.c):=R2.out.cell 2
     have q2_3:wT.cell? ⟨w.heap.size,3,none⟩=some (.int .i64 g.d):=R2.out.cell 3
     have q2_5:wT.cell? ⟨w.heap.size,5,none⟩=some (.slice AL nL cL):=R2.out.cell 5
     have q6_9:wT.cell? ⟨wA.heap.size,9,none⟩=some (.int .i64 x.att.l):=R6.out.cell 9
     have q6_10:wT.cell? ⟨wA.heap.size,10,none⟩=some (.int .i64 x.att.i):=R6.out.cell 10
     clear hbel
     go_wp2_with fail
     go_meet
     case rel=>exact ⟨rfl,HBT.out⟩
    ·have hk2:(x.k != 2)=true:=by simp [hk]
     have hk3:(x.k != 3)=false:=by simp [hk]
     clear hk
     go_wp2_with fail
     go_at_call 37
     refine (KTree_any (g:=g) (cU:=cU) (AL:=AL) (nL:=nL) (cL:=cL) HRS.out HIJ.out HRJ.out wS3 HU.out (by omega) HFU.out).mono ?_
     rintro e5 wT ⟨rfl,hbel⟩
     have HBT:=hide hbel
     clear q2_4 q6_0 q2_0 q2_1 q2_2 q2_3 q2_5 q6_9 q6_10
     replace HB:=hide (HB.out.trans (hbel.mono HB.out.size))
     replace R2:=hide (R2.out.on hbel)
     replace HU:=hide (HU.out.under hbel (by omega))
     replace HL:=hide (HL.out.under hbel (by omega))
     replace HW:=hide (HW.out.below hbel)
     replace R6:=hide (R6.out.on hbel)
     have hsz6:=hbel.size
     have q2_4:wT.cell? ⟨w.heap.size,4,none⟩=some (.slice AU nU cU):=R2.out.cell 4
     have q6_0:wT.cell? ⟨wA.heap.size,0,none⟩=some (.int .i64 x.k):=R6.out.cell 0
     have q2_0:wT.cell? ⟨w.heap.size,0,none⟩=some (.int .i64 g.a):=R2.out.cell 0
     have q2_1:wT.cell? ⟨w.heap.size,1,none⟩=some (.int .i64 g.b):=R2.out.cell 1
     have q2_2:wT.cell? ⟨w.heap.size,2,none⟩=some (.int .i64 g.c):=R2.out.cell 2
     have q2_3:wT.cell? ⟨w.heap.size,3,none⟩=some (.int .i64 g.d):=R2.out.cell 3
     have q2_5:wT.cell? ⟨w.heap.size,5,none⟩=some (.slice AL nL cL):=R2.out.cell 5
     have q6_9:wT.cell? ⟨wA.heap.size,9,none⟩=some (.int .i64 x.att.l):=R6.out.cell 9
     have q6_10:wT.cell? ⟨wA.heap.size,10,none⟩=some (.int .i64 x.att.i):=R6.out.cell 10
     clear hbel
     go_wp2_with fail
     go_meet
     case rel=>exact ⟨rfl,HBT.out⟩
   | true =>
    have hqf:q=b:=by rw [←HQ.out];rfl
    subst hqf
    rcases hk with hk|hk
    ·have hk2:(x.k != 2)=false:=by simp [hk]
     clear hk
     go_wp2_with fail
     go_at_call 37
     refine (KTree_any (g:=g) (cU:=cU) (AL:=AL) (nL:=nL) (cL:=cL) HRS.out HIJ.out HRJ.out wS3 HU.out (by omega) HFU.out).mono ?_
     rintro e5 wT ⟨rfl,hbel⟩
     have HBT:=hide hbel
     clear q2_4 q6_0 q2_0 q2_1 q2_2 q2_3 q2_5 q6_9 q6_10
     replace HB:=hide (HB.out.trans (hbel.mono HB.out.size))
     replace R2:=hide (R2.out.on hbel)
     replace HU:=hide (HU.out.under hbel (by omega))
     replace HL:=hide (HL.out.under hbel (by omega))
     replace HW:=hide (HW.out.below hbel)
     replace R6:=hide (R6.out.on hbel)
     have hsz6:=hbel.size
     have q2_4:wT.cell? ⟨w.heap.size,4,none⟩=some (.slice AU nU cU):=R2.out.cell 4
     have q6_0:wT.cell? ⟨wA.heap.size,0,none⟩=some (.int .i64 x.k):=R6.out.cell 0
     have q2_0:wT.cell? ⟨w.heap.size,0,none⟩=some (.int .i64 g.a):=R2.out.cell 0
     have q2_1:wT.cell? ⟨w.heap.size,1,none⟩=some (.int .i64 g.b):=R2.out.cell 1
     have q2_2:wT.cell? ⟨w.heap.size,2,none⟩=some (.int .i64 g.c):=R2.out.cell 2
     have q2_3:wT.cell? ⟨w.heap.size,3,none⟩=some (.int .i64 g.d):=R2.out.cell 3
     have q2_5:wT.cell? ⟨w.heap.size,5,none⟩=some (.slice AL nL cL):=R2.out.cell 5
     have q6_9:wT.cell? ⟨wA.heap.size,9,none⟩=some (.int .i64 x.att.l):=R6.out.cell 9
     have q6_10:wT.cell? ⟨wA.heap.size,10,none⟩=some (.int .i64 x.att.i):=R6.out.cell 10
     clear hbel
     go_wp2_with fail
     go_at_call 13
     refine (XIn_any (g:=g) (cU:=cU) (cL:=cL) HRS.out HIN.out wT HU.out HL.out (by omega) HF.out HFU.out HW.out).mono ?_
     rintro e7 wI ⟨rfl,hbel⟩
     have HBI:=hide hbel
     clear q2_4 q6_0 q2_0 q2_1 q2_2 q2_3 q2_5 q6_9 q6_10
     replace HB:=hide (HB.out.trans (hbel.mono HB.out.size))
     replace R2:=hide (R2.out.on hbel)
     replace HU:=hide (HU.out.under hbel (by omega))
     replace HL:=hide (HL.out.under hbel (by omega))
     replace HW:=hide (HW.out.below hbel)
     replace R6:=hide (R6.out.on hbel)
     have hsz8:=hbel.size
     have q2_4:wI.cell? ⟨w.heap.size,4,none⟩=some (.slice AU nU cU):=R2.out.cell 4
     have q6_0:wI.cell? ⟨wA.heap.size,0,none⟩=some (.int .i64 x.k):=R6.out.cell 0
     have q2_0:wI.cell? ⟨w.heap.size,0,none⟩=some (.int .i64 g.a):=R2.out.cell 0
     have q2_1:wI.cell? ⟨w.heap.size,1,none⟩=some (.int .i64 g.b):=R2.out.cell 1
     have q2_2:wI.cell? ⟨w.heap.size,2,none⟩=some (.int .i64 g.c):=R2.out.cell 2
     have q2_3:wI.cell? ⟨w.heap.size,3,none⟩=some (.int .i64 g.d):=R2.out.cell 3
     have q2_5:wI.cell? ⟨w.heap.size,5,none⟩=some (.slice AL nL cL):=R2.out.cell 5
     have q6_9:wI.cell? ⟨wA.heap.size,9,none⟩=some (.int .i64 x.att.l):=R6.out.cell 9
     have q6_10:wI.cell? ⟨wA.heap.size,10,none⟩=some (.int .i64 x.att.i):=R6.out.cell 10
     clear hbel
     go_wp2_with fail
     go_meet
     case rel=>exact ⟨rfl,HBT.out.trans (HBI.out.mono (by have:=HBT.out.size;omega))⟩
    ·have hk2:(x.k != 2)=true:=by simp [hk]
     have hk3:(x.k != 3)=false:=by simp [hk]
     clear hk
     go_wp2_with fail
     go_at_call 37
     refine (KTree_any (g:=g) (cU:=cU) (AL:=AL) (nL:=nL) (cL:=cL) HRS.out HIJ.out HRJ.out wS3 HU.out (by omega) HFU.out).mono ?_
     rintro e5 wT ⟨rfl,hbel⟩
     have HBT:=hide hbel
     clear q2_4 q6_0 q2_0 q2_1 q2_2 q2_3 q2_5 q6_9 q6_10
     replace HB:=hide (HB.out.trans (hbel.mono HB.out.size))
     replace R2:=hide (R2.out.on hbel)
     replace HU:=hide (HU.out.under hbel (by omega))
     replace HL:=hide (HL.out.under hbel (by omega))
     replace HW:=hide (HW.out.below hbel)
     replace R6:=hide (R6.out.on hbel)
     have hsz6:=hbel.size
     have q2_4:wT.cell? ⟨w.heap.size,4,none⟩=some (.slice AU nU cU):=R2.out.cell 4
     have q6_0:wT.cell? ⟨wA.heap.size,0,none⟩=some (.int .i64 x.k):=R6.out.cell 0
     have q2_0:wT.cell? ⟨w.heap.size,0,none⟩=some (.int .i64 g.a):=R2.out.cell 0
     have q2_1:wT.cell? ⟨w.heap.size,1,none⟩=some (.int .i64 g.b):=R2.out.cell 1
     have q2_2:wT.cell? ⟨w.heap.size,2,none⟩=some (.int .i64 g.c):=R2.out.cell 2
     have q2_3:wT.cell? ⟨w.heap.size,3,none⟩=some (.int .i64 g.d):=R2.out.cell 3
     have q2_5:wT.cell? ⟨w.heap.size,5,none⟩=some (.slice AL nL cL):=R2.out.cell 5
     have q6_9:wT.cell? ⟨wA.heap.size,9,none⟩=some (.int .i64 x.att.l):=R6.out.cell 9
     have q6_10:wT.cell? ⟨wA.heap.size,10,none⟩=some (.int .i64 x.att.i):=R6.out.cell 10
     clear hbel
     go_wp2_with fail
     go_at_call 13
     refine (XIn_any (g:=g) (cU:=cU) (cL:=cL) HRS.out HIN.out wT HU.out HL.out (by omega) HF.out HFU.out HW.out).mono ?_
     rintro e7 wI ⟨rfl,hbel⟩
     have HBI:=hide hbel
     clear q2_4 q6_0 q2_0 q2_1 q2_2 q2_3 q2_5 q6_9 q6_10
     replace HB:=hide (HB.out.trans (hbel.mono HB.out.size))
     replace R2:=hide (R2.out.on hbel)
     replace HU:=hide (HU.out.under hbel (by omega))
     replace HL:=hide (HL.out.under hbel (by omega))
     replace HW:=hide (HW.out.below hbel)
     replace R6:=hide (R6.out.on hbel)
     have hsz8:=hbel.size
     have q2_4:wI.cell? ⟨w.heap.size,4,none⟩=some (.slice AU nU cU):=R2.out.cell 4
     have q6_0:wI.cell? ⟨wA.heap.size,0,none⟩=some (.int .i64 x.k):=R6.out.cell 0
     have q2_0:wI.cell? ⟨w.heap.size,0,none⟩=some (.int .i64 g.a):=R2.out.cell 0
     have q2_1:wI.cell? ⟨w.heap.size,1,none⟩=some (.int .i64 g.b):=R2.out.cell 1
     have q2_2:wI.cell? ⟨w.heap.size,2,none⟩=some (.int .i64 g.c):=R2.out.cell 2
     have q2_3:wI.cell? ⟨w.heap.size,3,none⟩=some (.int .i64 g.d):=R2.out.cell 3
     have q2_5:wI.cell? ⟨w.heap.size,5,none⟩=some (.slice AL nL cL):=R2.out.cell 5
     have q6_9:wI.cell? ⟨wA.heap.size,9,none⟩=some (.int .i64 x.att.l):=R6.out.cell 9
     have q6_10:wI.cell? ⟨wA.heap.size,10,none⟩=some (.int .i64 x.att.i):=R6.out.cell 10
     clear hbel
     go_wp2_with fail
     go_meet
     case rel=>exact ⟨rfl,HBT.out.trans (HBI.out.mono (by have:=HBT.out.size;omega))⟩
  case rest =>
  obtain ⟨rfl,hbx⟩:=hcut
  clear q2_4 q6_0 q2_0 q2_1 q2_2 q2_3 q2_5 q6_9 q6_10
  replace HB:=hide (HB.out.trans (hbx.mono (by omega)))
  replace R2:=hide (R2.out.on hbx)
  replace R6:=hide (R6.out.on hbx)
  replace HU:=hide (HU.out.under hbx (by omega))
  replace HL:=hide (HL.out.under hbx (by omega))
  replace HW:=hide (HW.out.below hbx)
  have hszx:=hbx.size
  clear hbx
  have q2_4:wc.cell? ⟨w.heap.size,4,none⟩=some (.slice AU nU cU):=R2.out.cell 4
  have q6_0:wc.cell? ⟨wA.heap.size,0,none⟩=some (.int .i64 x.k):=R6.out.cell 0
  have q2_0:wc.cell? ⟨w.heap.size,0,none⟩=some (.int .i64 g.a):=R2.out.cell 0
  have q2_1:wc.cell? ⟨w.heap.size,1,none⟩=some (.int .i64 g.b):=R2.out.cell 1
  have q2_2:wc.cell? ⟨w.heap.size,2,none⟩=some (.int .i64 g.c):=R2.out.cell 2
  have q2_3:wc.cell? ⟨w.heap.size,3,none⟩=some (.int .i64 g.d):=R2.out.cell 3
  have q2_5:wc.cell? ⟨w.heap.size,5,none⟩=some (.slice AL nL cL):=R2.out.cell 5
  have q6_9:wc.cell? ⟨wA.heap.size,9,none⟩=some (.int .i64 x.att.l):=R6.out.cell 9
  have q6_10:wc.cell? ⟨wA.heap.size,10,none⟩=some (.int .i64 x.att.i):=R6.out.cell 10
  cases q with
  | false =>
   have hpf:p=(0,false):=by rw [HP.out];simp
   have HPF:=hide hpf
   go_wp2_with fail
   go_ret2
   exact ⟨by rw [HPF.out];rfl,HB.out⟩
  | true =>
   have hpt:p=(min (cn:Int) 65535,true):=by rw [HP.out,HCN.out];simp
   have HPT:=hide hpt
   clear hpt
   go_wp2_with (first|(refine wpList_storeW rfl 75 (.tmp 7) (.tmp 40) rfl 2 plc_size (wc.heap.size) 75 rfl (prC (0,0)) (prC (x.att.l,x.att.i)) rfl (RowL.new wc 75 (prC (0,0))) rfl rfl (prC_one _) ?_;intro wS61 hr61 hg61 hs61;have hzb:=below_stored' hg61;clear q2_4 q6_0 q2_0 q2_1 q2_2 q2_3 q2_5 q6_9 q6_10;replace HB:=hide (HB.out.trans (hzb.mono HB.out.size));replace R2:=hide (R2.out.on hzb);replace R6:=hide (R6.out.on hzb);replace HU:=hide (HU.out.under hzb (by omega));replace HL:=hide (HL.out.under hzb (by omega));have hsz62:=hzb.size;have q2_4:wS61.cell? ⟨w.heap.size,4,none⟩=some (.slice AU nU cU):=R2.out.cell 4;have q6_0:wS61.cell? ⟨wA.heap.size,0,none⟩=some (.int .i64 x.k):=R6.out.cell 0;have q2_0:wS61.cell? ⟨w.heap.size,0,none⟩=some (.int .i64 g.a):=R2.out.cell 0;have q2_1:wS61.cell? ⟨w.heap.size,1,none⟩=some (.int .i64 g.b):=R2.out.cell 1;have q2_2:wS61.cell? ⟨w.heap.size,2,none⟩=some (.int .i64 g.c):=R2.out.cell 2;have q2_3:wS61.cell? ⟨w.heap.size,3,none⟩=some (.int .i64 g.d):=R2.out.cell 3;have q2_5:wS61.cell? ⟨w.heap.size,5,none⟩=some (.slice AL nL cL):=R2.out.cell 5;have q6_9:wS61.cell? ⟨wA.heap.size,9,none⟩=some (.int .i64 x.att.l):=R6.out.cell 9;have q6_10:wS61.cell? ⟨wA.heap.size,10,none⟩=some (.int .i64 x.att.i):=R6.out.cell 10;have R7:=hide hr61;have hlt61:=hr61.lt;clear hzb hr61;clear hg61 hs61)|(refine wpList_loadW rfl 29 (.tmp 2) rfl 6 stk_agg stk_size (w.heap.size) 29 rfl (stkC g (.slice AU nU cU) (.slice AL nL cL)) R2.out rfl ?_)|(refine wpList_loadW rfl 75 (.tmp 7) rfl 2 plc_agg plc_size (wc.heap.size) 75 rfl (prC (x.att.l,x.att.i)) R7.out rfl ?_)|(go_at_call 38;refine (Count_e (p:=(x.att.l,x.att.i)) HCN.out wS61 HU.out HL.out (by omega) HF.out HFU.out).mono ?_;rintro e63 wC ⟨rfl,hbel⟩;clear q2_4 q6_0 q2_0 q2_1 q2_2 q2_3 q2_5 q6_9 q6_10;replace HB:=hide (HB.out.trans (hbel.mono HB.out.size));replace R2:=hide (R2.out.on hbel);replace R6:=hide (R6.out.on hbel);replace HU:=hide (HU.out.under hbel (by omega));replace HL:=hide (HL.out.under hbel (by omega));replace R7:=hide (R7.out.on hbel);have hsz64:=hbel.size;have q2_4:wC.cell? ⟨w.heap.size,4,none⟩=some (.slice AU nU cU):=R2.out.cell 4;have q6_0:wC.cell? ⟨wA.heap.size,0,none⟩=some (.int .i64 x.k):=R6.out.cell 0;have q2_0:wC.cell? ⟨w.heap.size,0,none⟩=some (.int .i64 g.a):=R2.out.cell 0;have q2_1:wC.cell? ⟨w.heap.size,1,none⟩=some (.int .i64 g.b):=R2.out.cell 1;have q2_2:wC.cell? ⟨w.heap.size,2,none⟩=some (.int .i64 g.c):=R2.out.cell 2;have q2_3:wC.cell? ⟨w.heap.size,3,none⟩=some (.int .i64 g.d):=R2.out.cell 3;have q2_5:wC.cell? ⟨w.heap.size,5,none⟩=some (.slice AL nL cL):=R2.out.cell 5;have q6_9:wC.cell? ⟨wA.heap.size,9,none⟩=some (.int .i64 x.att.l):=R6.out.cell 9;have q6_10:wC.cell? ⟨wA.heap.size,10,none⟩=some (.int .i64 x.att.i):=R6.out.cell 10;clear hbel))
   go_ret2
   exact ⟨by rw [HPT.out];rfl,HB.out⟩
end Go.Proofs.YtpndfahgflgocaaGreatDoor

namespace Go.Proofs.YtpndfahgflgocaaGreatDoor
open Go.RowKit Go.Shelf Plain

theorem finX_info:(Tryz.prog.info? 37).map (fun i=>(i.zero,i.size,i.bytes))=some (some (.agg #[.int .i64 0,.int .i64 0,.int .i64 0,.int .i64 0]),4,32):=by kernel_rfl
theorem litX_fin (a b c d:Int) (W:World):(Instr.buildSlice 35 1 #[(0,.agg #[.int .i64 a,.int .i64 b,.int .i64 c,.int .i64 d])]).run Tryz.prog W=.ok (.slice (some ⟨W.heap.size,0,none⟩) 1 1) (W.alloc (.cells #[.int .i64 a,.int .i64 b,.int .i64 c,.int .i64 d] 37)):=by
 obtain ⟨it,hi,hz,hsz,-⟩:=info_parts finX_info
 refine run_buildSlice W _ 37 1 _ _ it (.agg #[.int .i64 0,.int .i64 0,.int .i64 0,.int .i64 0]) Tryz.underlying35 hi hz (by omega) (by omega) ?_
 rw [hsz]
 have:=Great.fill_whole (s:=4) (by omega) [.agg #[.int .i64 a,.int .i64 b,.int .i64 c,.int .i64 d]] ((Array.range (1*4)).map ((Value.agg #[.int .i64 0,.int .i64 0,.int .i64 0,.int .i64 0]).cells[· % (Value.agg #[.int .i64 0,.int .i64 0,.int .i64 0,.int .i64 0]).cells.size]!)) (by intro v hv;rw [List.mem_singleton] at hv;subst hv;simp [Value.cells]) (by simp)
 simpa [Value.cells] using this
def FinsX (w:World) (l:List FinV) (e:Ending) (w':World):Prop:=∃A n c,e=.returned (.slice A n c)∧RdE finEn w' (Under w'.heap.size) A n l∧Below w.heap.size w w'
theorem encX_lit1 {α:Type} {E:Enc α} {x:α} {cs:List Value} (hR:∀w D,E.R w D cs x) (W:World) (t:Nat) {lo:Nat} (hlo:lo≤W.heap.size):RdE E (W.alloc (.cells cs.toArray t)) (fun b=>lo≤b∧b < (W.alloc (.cells cs.toArray t)).heap.size) (some ⟨W.heap.size,0,none⟩) 1 [x]:=by
 refine ⟨rfl,fun _=>⟨_,_,rfl,⟨hlo,by simp⟩,fun i y hy=>⟨cs,?_,fun j v hv=>?_⟩⟩⟩
 ·have hi:i=0:=by have:=(List.getElem?_eq_some_iff.1 hy).1;simpa using this
  subst hi
  obtain rfl:x=y:=by simpa using hy
  exact hR _ _
 ·have hi:i=0:=by have:=(List.getElem?_eq_some_iff.1 hy).1;simpa using this
  subst hi
  rw [Nat.zero_mul,Nat.zero_add,Nat.zero_add,(RowL.new W t cs).cell]
  exact hv
theorem OwE.ltX {α:Type} {E:Enc α} {w:World} {base e n c:Nat} {A:Option Addr} {l:List α} (h:OwE E w base e A n c l):∀a,A=some a→a.block < w.heap.size:=by
 obtain ⟨css,hrow,-,-⟩:=h
 intro a ha
 subst ha
 rcases hrow.2 with ⟨h0,-⟩|⟨g,cap,cur,h0,-,hg,-⟩
 ·cases h0
 ·cases h0
  exact (Array.getElem?_eq_some_iff.1 hg).1
theorem finX_R (x:FinV):∀(w:World) (D:Nat→Prop),finEn.R w D (finC x) x:=fun _ _=>rfl
end Go.Proofs.YtpndfahgflgocaaGreatDoor

