import Derived.Test.YtpndfahgflgocaaGreatDoorXt19
import Derived.Test.YtpndfahgflgocaaGreatDoorXt25
import Derived.Test.YtpndfahgflgocaaGreatDoorXt27
import Derived.Test.YtpndfahgflgocaaGreatDoorXt28
import Derived.Test.YtpndfahgflgocaaGreatDoorXt29

namespace Go.Proofs.YtpndfahgflgocaaGreatDoor
open Go.RowKit Go.Shelf Plain

set_option maxHeartbeats 800000 in
theorem rhas4_x {h:Int} {r:Bool} (h0:0≤h) (h1:h≤31) (hr:decide (h / 4 % 2=1)=r) (w:World):Calls Tryz.prog 53 #[.int .i64 h,.int .i64 4] w fun e w'=>e=.returned (.bool r)∧w=w':=by
 obtain ⟨k,hk⟩:∃k,h / 4=k:=⟨_,rfl⟩
 have hk0:0≤k:=by omega
 have hk1:k≤31:=by omega
 have ht:Int.tdiv h 4=k:=by rw [Int.tdiv_eq_ediv_of_nonneg h0,hk]
 have hw1:IntKind.i64.wrap k=k:=IntWalk.i64_in _ (by omega)
 have ht2:Int.tmod k 2=k % 2:=Int.tmod_eq_emod_of_nonneg hk0
 have hw2:IntKind.i64.wrap (k % 2)=k % 2:=IntWalk.i64_in _ (by omega)
 have hv:(k % 2==1)=r:=by
  rw [←hr,hk,Bool.eq_iff_iff]
  simp
 clear hr hk
 go_enter Tryz.func53,Tryz.ntmps53
 go_wp2
 go_ret
 exact ⟨by first|rfl|(rw [←hv])|(simp [hv])|(rw [←hv];simp),rfl⟩
set_option maxRecDepth 100000 in
set_option maxHeartbeats 1600000 in
theorem RHas4_x {a:AttV} {r:Bool} (h0:0≤a.h) (h1:a.h≤31) (hr:decide (a.h / 4 % 2=1)=r) (w:World):Calls Tryz.prog 32 #[.agg (attC a).toArray,.int .i64 4] w (BoolB w r):=by
 have r0:=RowL.new w 49 (attC a)
 have hb1:=below_new (below_self w) (.cells (attC a).toArray 49)
 obtain ⟨W1,hW1⟩:∃W1,w.alloc (.cells (attC a).toArray 49)=W1:=⟨_,rfl⟩
 rw [hW1] at r0 hb1
 have hW1':w.alloc (.cells #[.int .i64 a.h,.int .i64 a.o,.string ⟨a.r.toArray⟩,.int .i64 a.l,.int .i64 a.i,.int .i64 a.g,.int .i64 a.s] 49)=W1:=hW1
 have q0:W1.cell? ⟨w.heap.size,0,none⟩=some (.int .i64 a.h):=r0.cell 0
 have HB1:=hide hb1
 have HR:=hide hr
 have d0:decide (0≤a.h)=true:=decide_eq_true h0
 unfold attC
 clear r0 hb1 hW1 hr
 go_enter Tryz.func32,Tryz.ntmps32
 go_wp2_with (go_at_call 53;refine (rhas4_x h0 h1 HR.out _).mono ?_;rintro e w' ⟨rfl,rfl⟩)
 go_ret
 exact BoolB.of HB1.out
theorem RParse_e {s:List UInt8} {o:OriV} {b:Bool} (ho:parseH s=o) (hb:isN s=b) (w:World):Calls Tryz.prog 29 #[.string ⟨s.toArray⟩] w (fun e w'=>e=.returned (.tuple #[.agg (oriC o).toArray,.bool b])∧Below w.heap.size w w'):=by
 subst ho hb
 exact RParse_any w
set_option maxRecDepth 100000 in
set_option maxHeartbeats 4000000 in
theorem RXEnts_any {g:GeoQ} {AU AL:Option Addr} {nU cU nL cL B:Nat} {up:List NodV} {i:Int} {l:List EntV} (hl:entB up i=l) (w:World) (hu:RdE nodEn w (Under B) AU nU up) (hB:B≤w.heap.size) (hup:FewU up):Calls Tryz.prog 28 #[.agg (stkC g (.slice AU nU cU) (.slice AL nL cL)).toArray,.int .i64 i] w (EntsRet w B l):=by
 obtain ⟨W1,hW1⟩:∃W1,(w.alloc (.cells (stkC g (.slice AU nU cU) (.slice AL nL cL)).toArray 29))=W1:=⟨_,rfl⟩
 obtain ⟨r0,hb1,hs1⟩:=rowA1 w _ _ hW1
 have hW1':(w.alloc (.cells #[.int .i64 g.a,.int .i64 g.b,.int .i64 g.c,.int .i64 g.d,.slice AU nU cU,.slice AL nL cL] 29))=W1:=hW1
 have R2:=hide r0
 have HB:=hide hb1
 have hsz0:=hb1.size
 have HU:=hide (hu.under hb1 hB)
 have HFU:=hide hup
 have hs1':w.heap.size+1≤W1.heap.size:=by omega
 obtain ⟨x,hx⟩:∃x,nodAt up i=x:=⟨_,rfl⟩
 have HX:=hide hx
 have q2_4:W1.cell? ⟨w.heap.size,4,none⟩=some (.slice AU nU cU):=R2.out.cell 4
 have hcase:(x.k=1∧l=x.ents)∨(x.k≠1∧l=[]):=by
  rw [←hl]
  unfold entB
  rw [hx]
  by_cases h1:x.k=1
  ·exact .inl ⟨h1,by simp [h1]⟩
  ·exact .inr ⟨h1,by simp [h1]⟩
 unfold stkC
 clear r0 hb1 hW1 hu hup hl hx hs1
 rcases hcase with ⟨hk,rfl⟩|⟨hk,rfl⟩
 ·have hk1:(x.k != 1)=false:=by simp [hk]
  have HMD:=hide hk
  clear hk
  go_enter Tryz.func28,Tryz.ntmps28
  go_wp2_with (first|(refine wpList_loadC rfl 26 (.tmp 7) rfl 1 lay_agg lay_size (w.heap.size) 4 29 rfl (stkC g (.slice AU nU cU) (.slice AL nL cL)) [.slice AU nU cU] R2.out rfl rfl ?_)|(go_at_call 31;refine (At_e HX.out W1 HU.out (by omega) (by have:=HFU.out.1;omega)).mono ?_;rintro e1 wA ⟨A0,n0,k0,C0,m0,d0,rfl,-,-,hmd,he,hbel⟩;clear q2_4;replace HB:=hide (HB.out.trans (hbel.mono HB.out.size));replace R2:=hide (R2.out.on hbel);replace HU:=hide (HU.out.under hbel (by omega));have hsz2:=hbel.size;have q2_4:wA.cell? ⟨w.heap.size,4,none⟩=some (.slice AU nU cU):=R2.out.cell 4;have HE:=hide he;clear he;clear hbel)|(refine wpList_storeW rfl 51 (.tmp 5) (.tmp 9) rfl 13 nod_size (wA.heap.size) 51 rfl (nodC nod0 (.slice none 0 0) (.slice none 0 0)) (nodC x (.slice A0 n0 k0) (.slice C0 m0 d0)) rfl (RowL.new wA 51 (nodC nod0 (.slice none 0 0) (.slice none 0 0))) rfl rfl (nodC_one _ _ _ _ _ _ _) ?_;intro wS3 hr3 hg3 hs3;have hzb:=below_stored' hg3;clear q2_4;replace HB:=hide (HB.out.trans (hzb.mono HB.out.size));replace R2:=hide (R2.out.on hzb);replace HU:=hide (HU.out.under hzb (by omega));replace HE:=hide (HE.out.under hzb (by omega));have hsz4:=hzb.size;have q2_4:wS3.cell? ⟨w.heap.size,4,none⟩=some (.slice AU nU cU):=R2.out.cell 4;have R5:=hide hr3;have hlt3:=hr3.lt;have q5_0:wS3.cell? ⟨wA.heap.size,0,none⟩=some (.int .i64 x.k):=R5.out.cell 0;have q5_5:wS3.cell? ⟨wA.heap.size,5,none⟩=some (.slice C0 m0 d0):=R5.out.cell 5;clear hzb hr3;clear hg3 hs3))
  go_ret
  exact ⟨C0,m0,d0,rfl,hmd,HE.out,HB.out⟩
 ·have hk1:(x.k != 1)=true:=by simp [hk]
  clear hk
  go_enter Tryz.func28,Tryz.ntmps28
  go_wp2_with (first|(refine wpList_loadC rfl 26 (.tmp 7) rfl 1 lay_agg lay_size (w.heap.size) 4 29 rfl (stkC g (.slice AU nU cU) (.slice AL nL cL)) [.slice AU nU cU] R2.out rfl rfl ?_)|(go_at_call 31;refine (At_e HX.out W1 HU.out (by omega) (by have:=HFU.out.1;omega)).mono ?_;rintro e1 wA ⟨A0,n0,k0,C0,m0,d0,rfl,-,-,hmd,he,hbel⟩;clear q2_4;replace HB:=hide (HB.out.trans (hbel.mono HB.out.size));replace R2:=hide (R2.out.on hbel);replace HU:=hide (HU.out.under hbel (by omega));have hsz2:=hbel.size;have q2_4:wA.cell? ⟨w.heap.size,4,none⟩=some (.slice AU nU cU):=R2.out.cell 4;have HE:=hide he;clear he;clear hbel)|(refine wpList_storeW rfl 51 (.tmp 5) (.tmp 9) rfl 13 nod_size (wA.heap.size) 51 rfl (nodC nod0 (.slice none 0 0) (.slice none 0 0)) (nodC x (.slice A0 n0 k0) (.slice C0 m0 d0)) rfl (RowL.new wA 51 (nodC nod0 (.slice none 0 0) (.slice none 0 0))) rfl rfl (nodC_one _ _ _ _ _ _ _) ?_;intro wS3 hr3 hg3 hs3;have hzb:=below_stored' hg3;clear q2_4;replace HB:=hide (HB.out.trans (hzb.mono HB.out.size));replace R2:=hide (R2.out.on hzb);replace HU:=hide (HU.out.under hzb (by omega));replace HE:=hide (HE.out.under hzb (by omega));have hsz4:=hzb.size;have q2_4:wS3.cell? ⟨w.heap.size,4,none⟩=some (.slice AU nU cU):=R2.out.cell 4;have R5:=hide hr3;have hlt3:=hr3.lt;have q5_0:wS3.cell? ⟨wA.heap.size,0,none⟩=some (.int .i64 x.k):=R5.out.cell 0;have q5_5:wS3.cell? ⟨wA.heap.size,5,none⟩=some (.slice C0 m0 d0):=R5.out.cell 5;clear hzb hr3;clear hg3 hs3))
  go_ret
  exact ⟨none,0,0,rfl,Nat.le_refl _,RdE.none_ _ _ _ _,HB.out⟩
theorem bad_cases {up:List NodV} {ls:List (List NodV)} {rs:List Bool} {e:EntV} {b b0 b1:Bool} {o:OriV} {x y:NodV} (hb:badX up ls rs e=b) (hb0:isN e.name=b0) (ho:parseH e.name=o) (hfx:handF ls o=(y,b1)) (hx:nodAt up e.ino=x) :
  (b0=false∧b=true)∨(b0=true∧b1=false∧b=true)∨(b0=true∧b1=true∧y.k=1∧b=true)∨(b0=true∧b1=true∧y.k≠1∧x.k=4∧b=false)∨(b0=true∧b1=true∧y.k≠1∧x.k≠4∧((x.k≠2∧x.k≠3∧b=true)∨((x.k=2∨x.k=3)∧hasO x=false∧b=true)∨((x.k=2∨x.k=3)∧hasO x=true∧orgOf x≠o∧b=true)∨((x.k=2∨x.k=3)∧hasO x=true∧orgOf x=o∧b=!((rs[(e.ino - 1).toNat]?).getD false)))):=by
 subst hb
 unfold badX orX stX
 rw [ho,hfx,hx,hb0]
 cases b0 with
 | false=>exact .inl ⟨rfl,rfl⟩
 | true =>
  cases b1 with
  | false=>exact .inr (.inl ⟨rfl,rfl,rfl⟩)
  | true =>
   by_cases h2:y.k=1
   ·exact .inr (.inr (.inl ⟨rfl,rfl,h2,by simp [h2]⟩))
   ·by_cases h3:x.k=4
    ·exact .inr (.inr (.inr (.inl ⟨rfl,rfl,h2,h3,by simp [h2,h3]⟩)))
    ·by_cases h4:x.k=2∨x.k=3
     ·rw [if_neg h3,if_pos h4]
      cases h5:hasO x with
      | false=>exact .inr (.inr (.inr (.inr ⟨rfl,rfl,h2,h3,.inr (.inl ⟨h4,rfl,by simp [h2]⟩)⟩)))
      | true =>
       by_cases h6:orgOf x=o
       ·exact .inr (.inr (.inr (.inr ⟨rfl,rfl,h2,h3,.inr (.inr (.inr ⟨h4,rfl,h6,by simp [h2,h6]⟩))⟩)))
       ·exact .inr (.inr (.inr (.inr ⟨rfl,rfl,h2,h3,.inr (.inr (.inl ⟨h4,rfl,h6,by simp [h2,h6]⟩))⟩)))
     ·have h5:x.k≠2:=fun h=>h4 (.inl h)
      have h6:x.k≠3:=fun h=>h4 (.inr h)
      exact .inr (.inr (.inr (.inr ⟨rfl,rfl,h2,h3,.inl ⟨h5,h6,by simp [h2,h3,h4]⟩⟩)))
set_option maxRecDepth 100000 in
set_option maxHeartbeats 16000000 in
theorem RXBad_any {g:GeoQ} {AU AL:Option Addr} {nU cU nL cL B:Nat} {up:List NodV} {ls:List (List NodV)} {rs:List Bool} (hrs:reachL up (walkW up [1]).1=rs) {e:EntV} {b:Bool} (hb:badX up ls rs e=b) (w:World) (hu:RdE nodEn w (Under B) AU nU up) (h:RdE layEn w (Under B) AL nL ls) (hB:B≤w.heap.size) (hF:FewL ls) (hup:FewU up):Calls Tryz.prog 12 #[.agg (stkC g (.slice AU nU cU) (.slice AL nL cL)).toArray,.agg #[.int .i64 e.slot,.int .i64 e.ino,.string ⟨e.name.toArray⟩]] w (BoolB w b):=by
 obtain ⟨W1,hW1⟩:∃W1,((w.alloc (.cells (stkC g (.slice AU nU cU) (.slice AL nL cL)).toArray 29)).alloc (.cells (cellsE e).toArray 31))=W1:=⟨_,rfl⟩
 obtain ⟨r0,r1,hb1,hs1⟩:=rowA2 w _ _ _ _ hW1
 have hW1':((w.alloc (.cells #[.int .i64 g.a,.int .i64 g.b,.int .i64 g.c,.int .i64 g.d,.slice AU nU cU,.slice AL nL cL] 29)).alloc (.cells #[.int .i64 e.slot,.int .i64 e.ino,.string ⟨e.name.toArray⟩] 31))=W1:=hW1
 have R2:=hide r0
 have R3:=hide r1
 have HB:=hide hb1
 have hsz0:=hb1.size
 have HU:=hide (hu.under hb1 hB)
 have HL:=hide (h.under hb1 hB)
 have HF:=hide hF
 have HFU:=hide hup
 have hs1':w.heap.size+2≤W1.heap.size:=by omega
 obtain ⟨o,ho⟩:∃o,parseH e.name=o:=⟨_,rfl⟩
 have HO:=hide ho
 obtain ⟨b0,hb0⟩:∃b0,isN e.name=b0:=⟨_,rfl⟩
 have HN:=hide hb0
 obtain ⟨⟨y,b1⟩,hfx⟩:∃q:NodV×Bool,handF ls o=q:=⟨_,rfl⟩
 have HFX:=hide hfx
 obtain ⟨x,hx⟩:∃x,nodAt up e.ino=x:=⟨_,rfl⟩
 have HX:=hide hx
 have hxp:0≤x.att.h∧x.att.h≤31:=by rw [←hx];exact (nodAt_plain hup.2 e.ino).2.2.1
 have HXP:=hide hxp
 have hbc:=bad_cases hb hb0 ho hfx hx
 have HRS:=hide hrs
 have HRL:=hide (show rs.length=up.length from by rw [←hrs,reachL_len])
 have q3_2:W1.cell? ⟨w.heap.size+1,2,none⟩=some (.string ⟨e.name.toArray⟩):=R3.out.cell 2
 have q2_4:W1.cell? ⟨w.heap.size,4,none⟩=some (.slice AU nU cU):=R2.out.cell 4
 have q3_1:W1.cell? ⟨w.heap.size+1,1,none⟩=some (.int .i64 e.ino):=R3.out.cell 1
 unfold stkC
 clear r0 r1 hb1 hW1 hu h hF hup hrs hb hs1 ho hb0 hfx hxp
 rcases hbc with ⟨rfl,rfl⟩|⟨rfl,rfl,rfl⟩|⟨rfl,rfl,hy,rfl⟩|⟨rfl,rfl,hy,hk,rfl⟩|⟨rfl,rfl,hy,hk4,hrest⟩
 ·clear hx
  go_enter Tryz.func12,Tryz.ntmps12
  go_wp2_with (first|(go_at_call 29;refine (RParse_e (s:=e.name) HO.out HN.out W1).mono ?_;rintro e1 wP ⟨rfl,hbel⟩;clear q3_2 q2_4 q3_1;replace HB:=hide (HB.out.trans (hbel.mono HB.out.size));replace R2:=hide (R2.out.on hbel);replace R3:=hide (R3.out.on hbel);replace HU:=hide (HU.out.under hbel (by omega));replace HL:=hide (HL.out.under hbel (by omega));have hsz2:=hbel.size;have q3_2:wP.cell? ⟨w.heap.size+1,2,none⟩=some (.string ⟨e.name.toArray⟩):=R3.out.cell 2;have q2_4:wP.cell? ⟨w.heap.size,4,none⟩=some (.slice AU nU cU):=R2.out.cell 4;have q3_1:wP.cell? ⟨w.heap.size+1,1,none⟩=some (.int .i64 e.ino):=R3.out.cell 1;clear hbel)|(refine wpList_storeW rfl 47 (.tmp 5) (.tmp 14) rfl 3 ori_size (wP.heap.size) 47 rfl [.int .i64 0,.int .i64 0,.int .i64 0] (oriC o) rfl (RowL.new wP 47 [.int .i64 0,.int .i64 0,.int .i64 0]) rfl rfl (oriC_one _) ?_;intro wS3 hr3 hg3 hs3;have hzb:=below_stored' hg3;clear q3_2 q2_4 q3_1;replace HB:=hide (HB.out.trans (hzb.mono HB.out.size));replace R2:=hide (R2.out.on hzb);replace R3:=hide (R3.out.on hzb);replace HU:=hide (HU.out.under hzb (by omega));replace HL:=hide (HL.out.under hzb (by omega));have hsz4:=hzb.size;have q3_2:wS3.cell? ⟨w.heap.size+1,2,none⟩=some (.string ⟨e.name.toArray⟩):=R3.out.cell 2;have q2_4:wS3.cell? ⟨w.heap.size,4,none⟩=some (.slice AU nU cU):=R2.out.cell 4;have q3_1:wS3.cell? ⟨w.heap.size+1,1,none⟩=some (.int .i64 e.ino):=R3.out.cell 1;have R5:=hide hr3;have hlt3:=hr3.lt;have q5_0:wS3.cell? ⟨wP.heap.size,0,none⟩=some (.int .i64 o.1):=R5.out.cell 0;have q5_1:wS3.cell? ⟨wP.heap.size,1,none⟩=some (.int .i64 o.2.1):=R5.out.cell 1;have q5_2:wS3.cell? ⟨wP.heap.size,2,none⟩=some (.int .i64 o.2.2):=R5.out.cell 2;clear hzb hr3;clear hg3 hs3))
  go_ret
  exact BoolB.of HB.out
 ·clear hx
  go_enter Tryz.func12,Tryz.ntmps12
  go_wp2_with (first|(go_at_call 29;refine (RParse_e (s:=e.name) HO.out HN.out W1).mono ?_;rintro e1 wP ⟨rfl,hbel⟩;clear q3_2 q2_4 q3_1;replace HB:=hide (HB.out.trans (hbel.mono HB.out.size));replace R2:=hide (R2.out.on hbel);replace R3:=hide (R3.out.on hbel);replace HU:=hide (HU.out.under hbel (by omega));replace HL:=hide (HL.out.under hbel (by omega));have hsz2:=hbel.size;have q3_2:wP.cell? ⟨w.heap.size+1,2,none⟩=some (.string ⟨e.name.toArray⟩):=R3.out.cell 2;have q2_4:wP.cell? ⟨w.heap.size,4,none⟩=some (.slice AU nU cU):=R2.out.cell 4;have q3_1:wP.cell? ⟨w.heap.size+1,1,none⟩=some (.int .i64 e.ino):=R3.out.cell 1;clear hbel)|(refine wpList_storeW rfl 47 (.tmp 5) (.tmp 14) rfl 3 ori_size (wP.heap.size) 47 rfl [.int .i64 0,.int .i64 0,.int .i64 0] (oriC o) rfl (RowL.new wP 47 [.int .i64 0,.int .i64 0,.int .i64 0]) rfl rfl (oriC_one _) ?_;intro wS3 hr3 hg3 hs3;have hzb:=below_stored' hg3;clear q3_2 q2_4 q3_1;replace HB:=hide (HB.out.trans (hzb.mono HB.out.size));replace R2:=hide (R2.out.on hzb);replace R3:=hide (R3.out.on hzb);replace HU:=hide (HU.out.under hzb (by omega));replace HL:=hide (HL.out.under hzb (by omega));have hsz4:=hzb.size;have q3_2:wS3.cell? ⟨w.heap.size+1,2,none⟩=some (.string ⟨e.name.toArray⟩):=R3.out.cell 2;have q2_4:wS3.cell? ⟨w.heap.size,4,none⟩=some (.slice AU nU cU):=R2.out.cell 4;have q3_1:wS3.cell? ⟨w.heap.size+1,1,none⟩=some (.int .i64 e.ino):=R3.out.cell 1;have R5:=hide hr3;have hlt3:=hr3.lt;have q5_0:wS3.cell? ⟨wP.heap.size,0,none⟩=some (.int .i64 o.1):=R5.out.cell 0;have q5_1:wS3.cell? ⟨wP.heap.size,1,none⟩=some (.int .i64 o.2.1):=R5.out.cell 1;have q5_2:wS3.cell? ⟨wP.heap.size,2,none⟩=some (.int .i64 o.2.2):=R5.out.cell 2;clear hzb hr3;clear hg3 hs3)|(refine wpList_loadW rfl 29 (.tmp 2) rfl 6 stk_agg stk_size (w.heap.size) 29 rfl (stkC g (.slice AU nU cU) (.slice AL nL cL)) R2.out rfl ?_)|(refine wpList_loadW rfl 47 (.tmp 5) rfl 3 ori_agg ori_size (wP.heap.size) 47 rfl (oriC o) R5.out rfl ?_)|(go_at_call 30;refine (RFind15E_any (g:=g) (cU:=cU) (cL:=cL) (o:=o) HFX.out wS3 HU.out HL.out (by omega) HF.out HFU.out).mono ?_;rintro e5 wF ⟨A1,n1,c1,C1,m1,d1,rfl,-,-,hbel⟩;clear q3_2 q2_4 q3_1 q5_0 q5_1 q5_2;replace HB:=hide (HB.out.trans (hbel.mono HB.out.size));replace R2:=hide (R2.out.on hbel);replace R3:=hide (R3.out.on hbel);replace HU:=hide (HU.out.under hbel (by omega));replace HL:=hide (HL.out.under hbel (by omega));replace R5:=hide (R5.out.on hbel);have hsz6:=hbel.size;have q3_2:wF.cell? ⟨w.heap.size+1,2,none⟩=some (.string ⟨e.name.toArray⟩):=R3.out.cell 2;have q2_4:wF.cell? ⟨w.heap.size,4,none⟩=some (.slice AU nU cU):=R2.out.cell 4;have q3_1:wF.cell? ⟨w.heap.size+1,1,none⟩=some (.int .i64 e.ino):=R3.out.cell 1;have q5_0:wF.cell? ⟨wP.heap.size,0,none⟩=some (.int .i64 o.1):=R5.out.cell 0;have q5_1:wF.cell? ⟨wP.heap.size,1,none⟩=some (.int .i64 o.2.1):=R5.out.cell 1;have q5_2:wF.cell? ⟨wP.heap.size,2,none⟩=some (.int .i64 o.2.2):=R5.out.cell 2;clear hbel)|(refine wpList_storeW rfl 51 (.tmp 7) (.tmp 22) rfl 13 nod_size (wF.heap.size) 51 rfl (nodC nod0 (.slice none 0 0) (.slice none 0 0)) (nodC y (.slice A1 n1 c1) (.slice C1 m1 d1)) rfl (RowL.new wF 51 (nodC nod0 (.slice none 0 0) (.slice none 0 0))) rfl rfl (nodC_one _ _ _ _ _ _ _) ?_;intro wS7 hr7 hg7 hs7;have hzb:=below_stored' hg7;clear q3_2 q2_4 q3_1 q5_0 q5_1 q5_2;replace HB:=hide (HB.out.trans (hzb.mono HB.out.size));replace R2:=hide (R2.out.on hzb);replace R3:=hide (R3.out.on hzb);replace HU:=hide (HU.out.under hzb (by omega));replace HL:=hide (HL.out.under hzb (by omega));replace R5:=hide (R5.out.on hzb);have hsz8:=hzb.size;have q3_2:wS7.cell? ⟨w.heap.size+1,2,none⟩=some (.string ⟨e.name.toArray⟩):=R3.out.cell 2;have q2_4:wS7.cell? ⟨w.heap.size,4,none⟩=some (.slice AU nU cU):=R2.out.cell 4;have q3_1:wS7.cell? ⟨w.heap.size+1,1,none⟩=some (.int .i64 e.ino):=R3.out.cell 1;have q5_0:wS7.cell? ⟨wP.heap.size,0,none⟩=some (.int .i64 o.1):=R5.out.cell 0;have q5_1:wS7.cell? ⟨wP.heap.size,1,none⟩=some (.int .i64 o.2.1):=R5.out.cell 1;have q5_2:wS7.cell? ⟨wP.heap.size,2,none⟩=some (.int .i64 o.2.2):=R5.out.cell 2;have R7:=hide hr7;have hlt7:=hr7.lt;have q7_0:wS7.cell? ⟨wF.heap.size,0,none⟩=some (.int .i64 y.k):=R7.out.cell 0;clear hzb hr7;clear hg7 hs7))
  go_ret
  exact BoolB.of HB.out
 ·have hy1:(y.k==1)=true:=by simp [hy]
  clear hx hy
  go_enter Tryz.func12,Tryz.ntmps12
  go_wp2_with (first|(go_at_call 29;refine (RParse_e (s:=e.name) HO.out HN.out W1).mono ?_;rintro e1 wP ⟨rfl,hbel⟩;clear q3_2 q2_4 q3_1;replace HB:=hide (HB.out.trans (hbel.mono HB.out.size));replace R2:=hide (R2.out.on hbel);replace R3:=hide (R3.out.on hbel);replace HU:=hide (HU.out.under hbel (by omega));replace HL:=hide (HL.out.under hbel (by omega));have hsz2:=hbel.size;have q3_2:wP.cell? ⟨w.heap.size+1,2,none⟩=some (.string ⟨e.name.toArray⟩):=R3.out.cell 2;have q2_4:wP.cell? ⟨w.heap.size,4,none⟩=some (.slice AU nU cU):=R2.out.cell 4;have q3_1:wP.cell? ⟨w.heap.size+1,1,none⟩=some (.int .i64 e.ino):=R3.out.cell 1;clear hbel)|(refine wpList_storeW rfl 47 (.tmp 5) (.tmp 14) rfl 3 ori_size (wP.heap.size) 47 rfl [.int .i64 0,.int .i64 0,.int .i64 0] (oriC o) rfl (RowL.new wP 47 [.int .i64 0,.int .i64 0,.int .i64 0]) rfl rfl (oriC_one _) ?_;intro wS3 hr3 hg3 hs3;have hzb:=below_stored' hg3;clear q3_2 q2_4 q3_1;replace HB:=hide (HB.out.trans (hzb.mono HB.out.size));replace R2:=hide (R2.out.on hzb);replace R3:=hide (R3.out.on hzb);replace HU:=hide (HU.out.under hzb (by omega));replace HL:=hide (HL.out.under hzb (by omega));have hsz4:=hzb.size;have q3_2:wS3.cell? ⟨w.heap.size+1,2,none⟩=some (.string ⟨e.name.toArray⟩):=R3.out.cell 2;have q2_4:wS3.cell? ⟨w.heap.size,4,none⟩=some (.slice AU nU cU):=R2.out.cell 4;have q3_1:wS3.cell? ⟨w.heap.size+1,1,none⟩=some (.int .i64 e.ino):=R3.out.cell 1;have R5:=hide hr3;have hlt3:=hr3.lt;have q5_0:wS3.cell? ⟨wP.heap.size,0,none⟩=some (.int .i64 o.1):=R5.out.cell 0;have q5_1:wS3.cell? ⟨wP.heap.size,1,none⟩=some (.int .i64 o.2.1):=R5.out.cell 1;have q5_2:wS3.cell? ⟨wP.heap.size,2,none⟩=some (.int .i64 o.2.2):=R5.out.cell 2;clear hzb hr3;clear hg3 hs3)|(refine wpList_loadW rfl 29 (.tmp 2) rfl 6 stk_agg stk_size (w.heap.size) 29 rfl (stkC g (.slice AU nU cU) (.slice AL nL cL)) R2.out rfl ?_)|(refine wpList_loadW rfl 47 (.tmp 5) rfl 3 ori_agg ori_size (wP.heap.size) 47 rfl (oriC o) R5.out rfl ?_)|(go_at_call 30;refine (RFind15E_any (g:=g) (cU:=cU) (cL:=cL) (o:=o) HFX.out wS3 HU.out HL.out (by omega) HF.out HFU.out).mono ?_;rintro e5 wF ⟨A1,n1,c1,C1,m1,d1,rfl,-,-,hbel⟩;clear q3_2 q2_4 q3_1 q5_0 q5_1 q5_2;replace HB:=hide (HB.out.trans (hbel.mono HB.out.size));replace R2:=hide (R2.out.on hbel);replace R3:=hide (R3.out.on hbel);replace HU:=hide (HU.out.under hbel (by omega));replace HL:=hide (HL.out.under hbel (by omega));replace R5:=hide (R5.out.on hbel);have hsz6:=hbel.size;have q3_2:wF.cell? ⟨w.heap.size+1,2,none⟩=some (.string ⟨e.name.toArray⟩):=R3.out.cell 2;have q2_4:wF.cell? ⟨w.heap.size,4,none⟩=some (.slice AU nU cU):=R2.out.cell 4;have q3_1:wF.cell? ⟨w.heap.size+1,1,none⟩=some (.int .i64 e.ino):=R3.out.cell 1;have q5_0:wF.cell? ⟨wP.heap.size,0,none⟩=some (.int .i64 o.1):=R5.out.cell 0;have q5_1:wF.cell? ⟨wP.heap.size,1,none⟩=some (.int .i64 o.2.1):=R5.out.cell 1;have q5_2:wF.cell? ⟨wP.heap.size,2,none⟩=some (.int .i64 o.2.2):=R5.out.cell 2;clear hbel)|(refine wpList_storeW rfl 51 (.tmp 7) (.tmp 22) rfl 13 nod_size (wF.heap.size) 51 rfl (nodC nod0 (.slice none 0 0) (.slice none 0 0)) (nodC y (.slice A1 n1 c1) (.slice C1 m1 d1)) rfl (RowL.new wF 51 (nodC nod0 (.slice none 0 0) (.slice none 0 0))) rfl rfl (nodC_one _ _ _ _ _ _ _) ?_;intro wS7 hr7 hg7 hs7;have hzb:=below_stored' hg7;clear q3_2 q2_4 q3_1 q5_0 q5_1 q5_2;replace HB:=hide (HB.out.trans (hzb.mono HB.out.size));replace R2:=hide (R2.out.on hzb);replace R3:=hide (R3.out.on hzb);replace HU:=hide (HU.out.under hzb (by omega));replace HL:=hide (HL.out.under hzb (by omega));replace R5:=hide (R5.out.on hzb);have hsz8:=hzb.size;have q3_2:wS7.cell? ⟨w.heap.size+1,2,none⟩=some (.string ⟨e.name.toArray⟩):=R3.out.cell 2;have q2_4:wS7.cell? ⟨w.heap.size,4,none⟩=some (.slice AU nU cU):=R2.out.cell 4;have q3_1:wS7.cell? ⟨w.heap.size+1,1,none⟩=some (.int .i64 e.ino):=R3.out.cell 1;have q5_0:wS7.cell? ⟨wP.heap.size,0,none⟩=some (.int .i64 o.1):=R5.out.cell 0;have q5_1:wS7.cell? ⟨wP.heap.size,1,none⟩=some (.int .i64 o.2.1):=R5.out.cell 1;have q5_2:wS7.cell? ⟨wP.heap.size,2,none⟩=some (.int .i64 o.2.2):=R5.out.cell 2;have R7:=hide hr7;have hlt7:=hr7.lt;have q7_0:wS7.cell? ⟨wF.heap.size,0,none⟩=some (.int .i64 y.k):=R7.out.cell 0;clear hzb hr7;clear hg7 hs7))
  go_ret
  exact BoolB.of HB.out
 ·have hy1:(y.k==1)=false:=by simp [hy]
  have hk1:(x.k==4)=true:=by simp [hk]
  clear hx hy hk
  go_enter Tryz.func12,Tryz.ntmps12
  go_wp2_with (first|(go_at_call 29;refine (RParse_e (s:=e.name) HO.out HN.out W1).mono ?_;rintro e1 wP ⟨rfl,hbel⟩;clear q3_2 q2_4 q3_1;replace HB:=hide (HB.out.trans (hbel.mono HB.out.size));replace R2:=hide (R2.out.on hbel);replace R3:=hide (R3.out.on hbel);replace HU:=hide (HU.out.under hbel (by omega));replace HL:=hide (HL.out.under hbel (by omega));have hsz2:=hbel.size;have q3_2:wP.cell? ⟨w.heap.size+1,2,none⟩=some (.string ⟨e.name.toArray⟩):=R3.out.cell 2;have q2_4:wP.cell? ⟨w.heap.size,4,none⟩=some (.slice AU nU cU):=R2.out.cell 4;have q3_1:wP.cell? ⟨w.heap.size+1,1,none⟩=some (.int .i64 e.ino):=R3.out.cell 1;clear hbel)|(refine wpList_storeW rfl 47 (.tmp 5) (.tmp 14) rfl 3 ori_size (wP.heap.size) 47 rfl [.int .i64 0,.int .i64 0,.int .i64 0] (oriC o) rfl (RowL.new wP 47 [.int .i64 0,.int .i64 0,.int .i64 0]) rfl rfl (oriC_one _) ?_;intro wS3 hr3 hg3 hs3;have hzb:=below_stored' hg3;clear q3_2 q2_4 q3_1;replace HB:=hide (HB.out.trans (hzb.mono HB.out.size));replace R2:=hide (R2.out.on hzb);replace R3:=hide (R3.out.on hzb);replace HU:=hide (HU.out.under hzb (by omega));replace HL:=hide (HL.out.under hzb (by omega));have hsz4:=hzb.size;have q3_2:wS3.cell? ⟨w.heap.size+1,2,none⟩=some (.string ⟨e.name.toArray⟩):=R3.out.cell 2;have q2_4:wS3.cell? ⟨w.heap.size,4,none⟩=some (.slice AU nU cU):=R2.out.cell 4;have q3_1:wS3.cell? ⟨w.heap.size+1,1,none⟩=some (.int .i64 e.ino):=R3.out.cell 1;have R5:=hide hr3;have hlt3:=hr3.lt;have q5_0:wS3.cell? ⟨wP.heap.size,0,none⟩=some (.int .i64 o.1):=R5.out.cell 0;have q5_1:wS3.cell? ⟨wP.heap.size,1,none⟩=some (.int .i64 o.2.1):=R5.out.cell 1;have q5_2:wS3.cell? ⟨wP.heap.size,2,none⟩=some (.int .i64 o.2.2):=R5.out.cell 2;clear hzb hr3;clear hg3 hs3)|(refine wpList_loadW rfl 29 (.tmp 2) rfl 6 stk_agg stk_size (w.heap.size) 29 rfl (stkC g (.slice AU nU cU) (.slice AL nL cL)) R2.out rfl ?_)|(refine wpList_loadW rfl 47 (.tmp 5) rfl 3 ori_agg ori_size (wP.heap.size) 47 rfl (oriC o) R5.out rfl ?_)|(go_at_call 30;refine (RFind15E_any (g:=g) (cU:=cU) (cL:=cL) (o:=o) HFX.out wS3 HU.out HL.out (by omega) HF.out HFU.out).mono ?_;rintro e5 wF ⟨A1,n1,c1,C1,m1,d1,rfl,-,-,hbel⟩;clear q3_2 q2_4 q3_1 q5_0 q5_1 q5_2;replace HB:=hide (HB.out.trans (hbel.mono HB.out.size));replace R2:=hide (R2.out.on hbel);replace R3:=hide (R3.out.on hbel);replace HU:=hide (HU.out.under hbel (by omega));replace HL:=hide (HL.out.under hbel (by omega));replace R5:=hide (R5.out.on hbel);have hsz6:=hbel.size;have q3_2:wF.cell? ⟨w.heap.size+1,2,none⟩=some (.string ⟨e.name.toArray⟩):=R3.out.cell 2;have q2_4:wF.cell? ⟨w.heap.size,4,none⟩=some (.slice AU nU cU):=R2.out.cell 4;have q3_1:wF.cell? ⟨w.heap.size+1,1,none⟩=some (.int .i64 e.ino):=R3.out.cell 1;have q5_0:wF.cell? ⟨wP.heap.size,0,none⟩=some (.int .i64 o.1):=R5.out.cell 0;have q5_1:wF.cell? ⟨wP.heap.size,1,none⟩=some (.int .i64 o.2.1):=R5.out.cell 1;have q5_2:wF.cell? ⟨wP.heap.size,2,none⟩=some (.int .i64 o.2.2):=R5.out.cell 2;clear hbel)|(refine wpList_storeW rfl 51 (.tmp 7) (.tmp 22) rfl 13 nod_size (wF.heap.size) 51 rfl (nodC nod0 (.slice none 0 0) (.slice none 0 0)) (nodC y (.slice A1 n1 c1) (.slice C1 m1 d1)) rfl (RowL.new wF 51 (nodC nod0 (.slice none 0 0) (.slice none 0 0))) rfl rfl (nodC_one _ _ _ _ _ _ _) ?_;intro wS7 hr7 hg7 hs7;have hzb:=below_stored' hg7;clear q3_2 q2_4 q3_1 q5_0 q5_1 q5_2;replace HB:=hide (HB.out.trans (hzb.mono HB.out.size));replace R2:=hide (R2.out.on hzb);replace R3:=hide (R3.out.on hzb);replace HU:=hide (HU.out.under hzb (by omega));replace HL:=hide (HL.out.under hzb (by omega));replace R5:=hide (R5.out.on hzb);have hsz8:=hzb.size;have q3_2:wS7.cell? ⟨w.heap.size+1,2,none⟩=some (.string ⟨e.name.toArray⟩):=R3.out.cell 2;have q2_4:wS7.cell? ⟨w.heap.size,4,none⟩=some (.slice AU nU cU):=R2.out.cell 4;have q3_1:wS7.cell? ⟨w.heap.size+1,1,none⟩=some (.int .i64 e.ino):=R3.out.cell 1;have q5_0:wS7.cell? ⟨wP.heap.size,0,none⟩=some (.int .i64 o.1):=R5.out.cell 0;have q5_1:wS7.cell? ⟨wP.heap.size,1,none⟩=some (.int .i64 o.2.1):=R5.out.cell 1;have q5_2:wS7.cell? ⟨wP.heap.size,2,none⟩=some (.int .i64 o.2.2):=R5.out.cell 2;have R7:=hide hr7;have hlt7:=hr7.lt;have q7_0:wS7.cell? ⟨wF.heap.size,0,none⟩=some (.int .i64 y.k):=R7.out.cell 0;clear hzb hr7;clear hg7 hs7)|(refine wpList_loadC rfl 26 (.tmp 32) rfl 1 lay_agg lay_size (w.heap.size) 4 29 rfl (stkC g (.slice AU nU cU) (.slice AL nL cL)) [.slice AU nU cU] R2.out rfl rfl ?_)|(go_at_call 31;refine (At_e HX.out wS7 HU.out (by omega) (by have:=HFU.out.1;omega)).mono ?_;rintro e9 wA ⟨A0,n0,k0,C0,m0,d0,rfl,-,-,hmd,he,hbel⟩;clear he hmd;clear q3_2 q7_0 q2_4 q3_1 q5_0 q5_1 q5_2;replace HB:=hide (HB.out.trans (hbel.mono HB.out.size));replace R2:=hide (R2.out.on hbel);replace R3:=hide (R3.out.on hbel);replace HU:=hide (HU.out.under hbel (by omega));replace HL:=hide (HL.out.under hbel (by omega));replace R5:=hide (R5.out.on hbel);replace R7:=hide (R7.out.on hbel);have hsz10:=hbel.size;have q3_2:wA.cell? ⟨w.heap.size+1,2,none⟩=some (.string ⟨e.name.toArray⟩):=R3.out.cell 2;have q7_0:wA.cell? ⟨wF.heap.size,0,none⟩=some (.int .i64 y.k):=R7.out.cell 0;have q2_4:wA.cell? ⟨w.heap.size,4,none⟩=some (.slice AU nU cU):=R2.out.cell 4;have q3_1:wA.cell? ⟨w.heap.size+1,1,none⟩=some (.int .i64 e.ino):=R3.out.cell 1;have q5_0:wA.cell? ⟨wP.heap.size,0,none⟩=some (.int .i64 o.1):=R5.out.cell 0;have q5_1:wA.cell? ⟨wP.heap.size,1,none⟩=some (.int .i64 o.2.1):=R5.out.cell 1;have q5_2:wA.cell? ⟨wP.heap.size,2,none⟩=some (.int .i64 o.2.2):=R5.out.cell 2;clear hbel)|(refine wpList_storeW rfl 51 (.tmp 9) (.tmp 35) rfl 13 nod_size (wA.heap.size) 51 rfl (nodC nod0 (.slice none 0 0) (.slice none 0 0)) (nodC x (.slice A0 n0 k0) (.slice C0 m0 d0)) rfl (RowL.new wA 51 (nodC nod0 (.slice none 0 0) (.slice none 0 0))) rfl rfl (nodC_one _ _ _ _ _ _ _) ?_;intro wS11 hr11 hg11 hs11;have hzb:=below_stored' hg11;clear q3_2 q7_0 q2_4 q3_1 q5_0 q5_1 q5_2;replace HB:=hide (HB.out.trans (hzb.mono HB.out.size));replace R2:=hide (R2.out.on hzb);replace R3:=hide (R3.out.on hzb);replace HU:=hide (HU.out.under hzb (by omega));replace HL:=hide (HL.out.under hzb (by omega));replace R5:=hide (R5.out.on hzb);replace R7:=hide (R7.out.on hzb);have hsz12:=hzb.size;have q3_2:wS11.cell? ⟨w.heap.size+1,2,none⟩=some (.string ⟨e.name.toArray⟩):=R3.out.cell 2;have q7_0:wS11.cell? ⟨wF.heap.size,0,none⟩=some (.int .i64 y.k):=R7.out.cell 0;have q2_4:wS11.cell? ⟨w.heap.size,4,none⟩=some (.slice AU nU cU):=R2.out.cell 4;have q3_1:wS11.cell? ⟨w.heap.size+1,1,none⟩=some (.int .i64 e.ino):=R3.out.cell 1;have q5_0:wS11.cell? ⟨wP.heap.size,0,none⟩=some (.int .i64 o.1):=R5.out.cell 0;have q5_1:wS11.cell? ⟨wP.heap.size,1,none⟩=some (.int .i64 o.2.1):=R5.out.cell 1;have q5_2:wS11.cell? ⟨wP.heap.size,2,none⟩=some (.int .i64 o.2.2):=R5.out.cell 2;have R9:=hide hr11;have hlt11:=hr11.lt;have q9_0:wS11.cell? ⟨wA.heap.size,0,none⟩=some (.int .i64 x.k):=R9.out.cell 0;have q9_6:wS11.cell? ⟨wA.heap.size,6,none⟩=some (.int .i64 x.att.h):=R9.out.cell 6;have q9_7:wS11.cell? ⟨wA.heap.size,7,none⟩=some (.int .i64 x.att.o):=R9.out.cell 7;have q9_8:wS11.cell? ⟨wA.heap.size,8,none⟩=some (.string ⟨x.att.r.toArray⟩):=R9.out.cell 8;have q9_9:wS11.cell? ⟨wA.heap.size,9,none⟩=some (.int .i64 x.att.l):=R9.out.cell 9;have q9_10:wS11.cell? ⟨wA.heap.size,10,none⟩=some (.int .i64 x.att.i):=R9.out.cell 10;have q9_11:wS11.cell? ⟨wA.heap.size,11,none⟩=some (.int .i64 x.att.g):=R9.out.cell 11;have q9_12:wS11.cell? ⟨wA.heap.size,12,none⟩=some (.int .i64 x.att.s):=R9.out.cell 12;clear hzb hr11;clear hg11 hs11))
  go_ret
  exact BoolB.of HB.out
 ·have hy1:(y.k==1)=false:=by simp [hy]
  have hk1:(x.k==4)=false:=by simp [hk4]
  have HREST:=hide hrest
  clear hx hy hk4 hrest
  go_enter Tryz.func12,Tryz.ntmps12
  go_upto_region 2 with (first|(go_at_call 29;refine (RParse_e (s:=e.name) HO.out HN.out W1).mono ?_;rintro e1 wP ⟨rfl,hbel⟩;clear q3_2 q2_4 q3_1;replace HB:=hide (HB.out.trans (hbel.mono HB.out.size));replace R2:=hide (R2.out.on hbel);replace R3:=hide (R3.out.on hbel);replace HU:=hide (HU.out.under hbel (by omega));replace HL:=hide (HL.out.under hbel (by omega));have hsz2:=hbel.size;have q3_2:wP.cell? ⟨w.heap.size+1,2,none⟩=some (.string ⟨e.name.toArray⟩):=R3.out.cell 2;have q2_4:wP.cell? ⟨w.heap.size,4,none⟩=some (.slice AU nU cU):=R2.out.cell 4;have q3_1:wP.cell? ⟨w.heap.size+1,1,none⟩=some (.int .i64 e.ino):=R3.out.cell 1;clear hbel)|(refine wpList_storeW rfl 47 (.tmp 5) (.tmp 14) rfl 3 ori_size (wP.heap.size) 47 rfl [.int .i64 0,.int .i64 0,.int .i64 0] (oriC o) rfl (RowL.new wP 47 [.int .i64 0,.int .i64 0,.int .i64 0]) rfl rfl (oriC_one _) ?_;intro wS3 hr3 hg3 hs3;have hzb:=below_stored' hg3;clear q3_2 q2_4 q3_1;replace HB:=hide (HB.out.trans (hzb.mono HB.out.size));replace R2:=hide (R2.out.on hzb);replace R3:=hide (R3.out.on hzb);replace HU:=hide (HU.out.under hzb (by omega));replace HL:=hide (HL.out.under hzb (by omega));have hsz4:=hzb.size;have q3_2:wS3.cell? ⟨w.heap.size+1,2,none⟩=some (.string ⟨e.name.toArray⟩):=R3.out.cell 2;have q2_4:wS3.cell? ⟨w.heap.size,4,none⟩=some (.slice AU nU cU):=R2.out.cell 4;have q3_1:wS3.cell? ⟨w.heap.size+1,1,none⟩=some (.int .i64 e.ino):=R3.out.cell 1;have R5:=hide hr3;have hlt3:=hr3.lt;have q5_0:wS3.cell? ⟨wP.heap.size,0,none⟩=some (.int .i64 o.1):=R5.out.cell 0;have q5_1:wS3.cell? ⟨wP.heap.size,1,none⟩=some (.int .i64 o.2.1):=R5.out.cell 1;have q5_2:wS3.cell? ⟨wP.heap.size,2,none⟩=some (.int .i64 o.2.2):=R5.out.cell 2;clear hzb hr3;clear hg3 hs3))
  go_upto_region 5 with (first|(refine wpList_loadW rfl 29 (.tmp 2) rfl 6 stk_agg stk_size (w.heap.size) 29 rfl (stkC g (.slice AU nU cU) (.slice AL nL cL)) R2.out rfl ?_)|(refine wpList_loadW rfl 47 (.tmp 5) rfl 3 ori_agg ori_size (wP.heap.size) 47 rfl (oriC o) R5.out rfl ?_)|(go_at_call 30;refine (RFind15E_any (g:=g) (cU:=cU) (cL:=cL) (o:=o) HFX.out wS3 HU.out HL.out (by omega) HF.out HFU.out).mono ?_;rintro e5 wF ⟨A1,n1,c1,C1,m1,d1,rfl,-,-,hbel⟩;clear q3_2 q2_4 q3_1 q5_0 q5_1 q5_2;replace HB:=hide (HB.out.trans (hbel.mono HB.out.size));replace R2:=hide (R2.out.on hbel);replace R3:=hide (R3.out.on hbel);replace HU:=hide (HU.out.under hbel (by omega));replace HL:=hide (HL.out.under hbel (by omega));replace R5:=hide (R5.out.on hbel);have hsz6:=hbel.size;have q3_2:wF.cell? ⟨w.heap.size+1,2,none⟩=some (.string ⟨e.name.toArray⟩):=R3.out.cell 2;have q2_4:wF.cell? ⟨w.heap.size,4,none⟩=some (.slice AU nU cU):=R2.out.cell 4;have q3_1:wF.cell? ⟨w.heap.size+1,1,none⟩=some (.int .i64 e.ino):=R3.out.cell 1;have q5_0:wF.cell? ⟨wP.heap.size,0,none⟩=some (.int .i64 o.1):=R5.out.cell 0;have q5_1:wF.cell? ⟨wP.heap.size,1,none⟩=some (.int .i64 o.2.1):=R5.out.cell 1;have q5_2:wF.cell? ⟨wP.heap.size,2,none⟩=some (.int .i64 o.2.2):=R5.out.cell 2;clear hbel)|(refine wpList_storeW rfl 51 (.tmp 7) (.tmp 22) rfl 13 nod_size (wF.heap.size) 51 rfl (nodC nod0 (.slice none 0 0) (.slice none 0 0)) (nodC y (.slice A1 n1 c1) (.slice C1 m1 d1)) rfl (RowL.new wF 51 (nodC nod0 (.slice none 0 0) (.slice none 0 0))) rfl rfl (nodC_one _ _ _ _ _ _ _) ?_;intro wS7 hr7 hg7 hs7;have hzb:=below_stored' hg7;clear q3_2 q2_4 q3_1 q5_0 q5_1 q5_2;replace HB:=hide (HB.out.trans (hzb.mono HB.out.size));replace R2:=hide (R2.out.on hzb);replace R3:=hide (R3.out.on hzb);replace HU:=hide (HU.out.under hzb (by omega));replace HL:=hide (HL.out.under hzb (by omega));replace R5:=hide (R5.out.on hzb);have hsz8:=hzb.size;have q3_2:wS7.cell? ⟨w.heap.size+1,2,none⟩=some (.string ⟨e.name.toArray⟩):=R3.out.cell 2;have q2_4:wS7.cell? ⟨w.heap.size,4,none⟩=some (.slice AU nU cU):=R2.out.cell 4;have q3_1:wS7.cell? ⟨w.heap.size+1,1,none⟩=some (.int .i64 e.ino):=R3.out.cell 1;have q5_0:wS7.cell? ⟨wP.heap.size,0,none⟩=some (.int .i64 o.1):=R5.out.cell 0;have q5_1:wS7.cell? ⟨wP.heap.size,1,none⟩=some (.int .i64 o.2.1):=R5.out.cell 1;have q5_2:wS7.cell? ⟨wP.heap.size,2,none⟩=some (.int .i64 o.2.2):=R5.out.cell 2;have R7:=hide hr7;have hlt7:=hr7.lt;have q7_0:wS7.cell? ⟨wF.heap.size,0,none⟩=some (.int .i64 y.k):=R7.out.cell 0;clear hzb hr7;clear hg7 hs7))
  go_upto_region 7 with fail
  go_upto_region 8 with (first|(refine wpList_loadC rfl 26 (.tmp 32) rfl 1 lay_agg lay_size (w.heap.size) 4 29 rfl (stkC g (.slice AU nU cU) (.slice AL nL cL)) [.slice AU nU cU] R2.out rfl rfl ?_)|(go_at_call 31;refine (At_e HX.out wS7 HU.out (by omega) (by have:=HFU.out.1;omega)).mono ?_;rintro e9 wA ⟨A0,n0,k0,C0,m0,d0,rfl,-,-,hmd,he,hbel⟩;clear he hmd;clear q3_2 q7_0 q2_4 q3_1 q5_0 q5_1 q5_2;replace HB:=hide (HB.out.trans (hbel.mono HB.out.size));replace R2:=hide (R2.out.on hbel);replace R3:=hide (R3.out.on hbel);replace HU:=hide (HU.out.under hbel (by omega));replace HL:=hide (HL.out.under hbel (by omega));replace R5:=hide (R5.out.on hbel);replace R7:=hide (R7.out.on hbel);have hsz10:=hbel.size;have q3_2:wA.cell? ⟨w.heap.size+1,2,none⟩=some (.string ⟨e.name.toArray⟩):=R3.out.cell 2;have q7_0:wA.cell? ⟨wF.heap.size,0,none⟩=some (.int .i64 y.k):=R7.out.cell 0;have q2_4:wA.cell? ⟨w.heap.size,4,none⟩=some (.slice AU nU cU):=R2.out.cell 4;have q3_1:wA.cell? ⟨w.heap.size+1,1,none⟩=some (.int .i64 e.ino):=R3.out.cell 1;have q5_0:wA.cell? ⟨wP.heap.size,0,none⟩=some (.int .i64 o.1):=R5.out.cell 0;have q5_1:wA.cell? ⟨wP.heap.size,1,none⟩=some (.int .i64 o.2.1):=R5.out.cell 1;have q5_2:wA.cell? ⟨wP.heap.size,2,none⟩=some (.int .i64 o.2.2):=R5.out.cell 2;clear hbel)|(refine wpList_storeW rfl 51 (.tmp 9) (.tmp 35) rfl 13 nod_size (wA.heap.size) 51 rfl (nodC nod0 (.slice none 0 0) (.slice none 0 0)) (nodC x (.slice A0 n0 k0) (.slice C0 m0 d0)) rfl (RowL.new wA 51 (nodC nod0 (.slice none 0 0) (.slice none 0 0))) rfl rfl (nodC_one _ _ _ _ _ _ _) ?_;intro wS11 hr11 hg11 hs11;have hzb:=below_stored' hg11;clear q3_2 q7_0 q2_4 q3_1 q5_0 q5_1 q5_2;replace HB:=hide (HB.out.trans (hzb.mono HB.out.size));replace R2:=hide (R2.out.on hzb);replace R3:=hide (R3.out.on hzb);replace HU:=hide (HU.out.under hzb (by omega));replace HL:=hide (HL.out.under hzb (by omega));replace R5:=hide (R5.out.on hzb);replace R7:=hide (R7.out.on hzb);have hsz12:=hzb.size;have q3_2:wS11.cell? ⟨w.heap.size+1,2,none⟩=some (.string ⟨e.name.toArray⟩):=R3.out.cell 2;have q7_0:wS11.cell? ⟨wF.heap.size,0,none⟩=some (.int .i64 y.k):=R7.out.cell 0;have q2_4:wS11.cell? ⟨w.heap.size,4,none⟩=some (.slice AU nU cU):=R2.out.cell 4;have q3_1:wS11.cell? ⟨w.heap.size+1,1,none⟩=some (.int .i64 e.ino):=R3.out.cell 1;have q5_0:wS11.cell? ⟨wP.heap.size,0,none⟩=some (.int .i64 o.1):=R5.out.cell 0;have q5_1:wS11.cell? ⟨wP.heap.size,1,none⟩=some (.int .i64 o.2.1):=R5.out.cell 1;have q5_2:wS11.cell? ⟨wP.heap.size,2,none⟩=some (.int .i64 o.2.2):=R5.out.cell 2;have R9:=hide hr11;have hlt11:=hr11.lt;have q9_0:wS11.cell? ⟨wA.heap.size,0,none⟩=some (.int .i64 x.k):=R9.out.cell 0;have q9_6:wS11.cell? ⟨wA.heap.size,6,none⟩=some (.int .i64 x.att.h):=R9.out.cell 6;have q9_7:wS11.cell? ⟨wA.heap.size,7,none⟩=some (.int .i64 x.att.o):=R9.out.cell 7;have q9_8:wS11.cell? ⟨wA.heap.size,8,none⟩=some (.string ⟨x.att.r.toArray⟩):=R9.out.cell 8;have q9_9:wS11.cell? ⟨wA.heap.size,9,none⟩=some (.int .i64 x.att.l):=R9.out.cell 9;have q9_10:wS11.cell? ⟨wA.heap.size,10,none⟩=some (.int .i64 x.att.i):=R9.out.cell 10;have q9_11:wS11.cell? ⟨wA.heap.size,11,none⟩=some (.int .i64 x.att.g):=R9.out.cell 11;have q9_12:wS11.cell? ⟨wA.heap.size,12,none⟩=some (.int .i64 x.att.s):=R9.out.cell 12;clear hzb hr11;clear hg11 hs11))
  go_upto_region 10 with fail
  rcases HREST.out with ⟨hk2,hk3,rfl⟩|⟨hk,hh,rfl⟩|⟨hk,hh,ho,rfl⟩|⟨hk,hh,ho,rfl⟩
  ·have hk5:(x.k != 2)=true:=by simp [hk2]
   have hk6:(x.k != 3)=true:=by simp [hk3]
   clear HREST hk2 hk3
   go_wp2_with fail
   go_ret
   exact BoolB.of HB.out
  ·have HH:=hide (show decide (x.att.h / 4 % 2=1)=false from hh)
   clear HREST hh
   rcases hk with hk|hk
   ·have hk2:(x.k != 2)=false:=by simp [hk]
    clear hk
    go_wp2_with fail
    go_at_call 32
    refine (RHas4_x HXP.out.1 HXP.out.2 HH.out wS11).mono ?_
    rintro e13 wH ⟨rfl,hbel⟩
    clear q3_2 q7_0 q2_4 q3_1 q9_0 q9_6 q9_7 q9_8 q9_9 q9_10 q9_11 q9_12 q5_0 q5_1 q5_2
    replace HB:=hide (HB.out.trans (hbel.mono HB.out.size))
    replace R2:=hide (R2.out.on hbel)
    replace R3:=hide (R3.out.on hbel)
    replace HU:=hide (HU.out.under hbel (by omega))
    replace HL:=hide (HL.out.under hbel (by omega))
    replace R5:=hide (R5.out.on hbel)
    replace R7:=hide (R7.out.on hbel)
    replace R9:=hide (R9.out.on hbel)
    have hsz14:=hbel.size
    have q3_2:wH.cell? ⟨w.heap.size+1,2,none⟩=some (.string ⟨e.name.toArray⟩):=R3.out.cell 2
    have q7_0:wH.cell? ⟨wF.heap.size,0,none⟩=some (.int .i64 y.k):=R7.out.cell 0
    have q2_4:wH.cell? ⟨w.heap.size,4,none⟩=some (.slice AU nU cU):=R2.out.cell 4
    have q3_1:wH.cell? ⟨w.heap.size+1,1,none⟩=some (.int .i64 e.ino):=R3.out.cell 1
    have q9_0:wH.cell? ⟨wA.heap.size,0,none⟩=some (.int .i64 x.k):=R9.out.cell 0
    have q9_6:wH.cell? ⟨wA.heap.size,6,none⟩=some (.int .i64 x.att.h):=R9.out.cell 6
    have q9_7:wH.cell? ⟨wA.heap.size,7,none⟩=some (.int .i64 x.att.o):=R9.out.cell 7
    have q9_8:wH.cell? ⟨wA.heap.size,8,none⟩=some (.string ⟨x.att.r.toArray⟩):=R9.out.cell 8
    have q9_9:wH.cell? ⟨wA.heap.size,9,none⟩=some (.int .i64 x.att.l):=R9.out.cell 9
    have q9_10:wH.cell? ⟨wA.heap.size,10,none⟩=some (.int .i64 x.att.i):=R9.out.cell 10
    have q9_11:wH.cell? ⟨wA.heap.size,11,none⟩=some (.int .i64 x.att.g):=R9.out.cell 11
    have q9_12:wH.cell? ⟨wA.heap.size,12,none⟩=some (.int .i64 x.att.s):=R9.out.cell 12
    have q5_0:wH.cell? ⟨wP.heap.size,0,none⟩=some (.int .i64 o.1):=R5.out.cell 0
    have q5_1:wH.cell? ⟨wP.heap.size,1,none⟩=some (.int .i64 o.2.1):=R5.out.cell 1
    have q5_2:wH.cell? ⟨wP.heap.size,2,none⟩=some (.int .i64 o.2.2):=R5.out.cell 2
    clear hbel
    go_wp2_with fail
    go_ret
    exact BoolB.of HB.out
   ·have hk2:(x.k != 2)=true:=by simp [hk]
    have hk3:(x.k != 3)=false:=by simp [hk]
    clear hk
    go_wp2_with fail
    go_at_call 32
    refine (RHas4_x HXP.out.1 HXP.out.2 HH.out wS11).mono ?_
    rintro e13 wH ⟨rfl,hbel⟩
    clear q3_2 q7_0 q2_4 q3_1 q9_0 q9_6 q9_7 q9_8 q9_9 q9_10 q9_11 q9_12 q5_0 q5_1 q5_2
    replace HB:=hide (HB.out.trans (hbel.mono HB.out.size))
    replace R2:=hide (R2.out.on hbel)
    replace R3:=hide (R3.out.on hbel)
    replace HU:=hide (HU.out.under hbel (by omega))
    replace HL:=hide (HL.out.under hbel (by omega))
    replace R5:=hide (R5.out.on hbel)
    replace R7:=hide (R7.out.on hbel)
    replace R9:=hide (R9.out.on hbel)
    have hsz14:=hbel.size
    have q3_2:wH.cell? ⟨w.heap.size+1,2,none⟩=some (.string ⟨e.name.toArray⟩):=R3.out.cell 2
    have q7_0:wH.cell? ⟨wF.heap.size,0,none⟩=some (.int .i64 y.k):=R7.out.cell 0
    have q2_4:wH.cell? ⟨w.heap.size,4,none⟩=some (.slice AU nU cU):=R2.out.cell 4
    have q3_1:wH.cell? ⟨w.heap.size+1,1,none⟩=some (.int .i64 e.ino):=R3.out.cell 1
    have q9_0:wH.cell? ⟨wA.heap.size,0,none⟩=some (.int .i64 x.k):=R9.out.cell 0
    have q9_6:wH.cell? ⟨wA.heap.size,6,none⟩=some (.int .i64 x.att.h):=R9.out.cell 6
    have q9_7:wH.cell? ⟨wA.heap.size,7,none⟩=some (.int .i64 x.att.o):=R9.out.cell 7
    have q9_8:wH.cell? ⟨wA.heap.size,8,none⟩=some (.string ⟨x.att.r.toArray⟩):=R9.out.cell 8
    have q9_9:wH.cell? ⟨wA.heap.size,9,none⟩=some (.int .i64 x.att.l):=R9.out.cell 9
    have q9_10:wH.cell? ⟨wA.heap.size,10,none⟩=some (.int .i64 x.att.i):=R9.out.cell 10
    have q9_11:wH.cell? ⟨wA.heap.size,11,none⟩=some (.int .i64 x.att.g):=R9.out.cell 11
    have q9_12:wH.cell? ⟨wA.heap.size,12,none⟩=some (.int .i64 x.att.s):=R9.out.cell 12
    have q5_0:wH.cell? ⟨wP.heap.size,0,none⟩=some (.int .i64 o.1):=R5.out.cell 0
    have q5_1:wH.cell? ⟨wP.heap.size,1,none⟩=some (.int .i64 o.2.1):=R5.out.cell 1
    have q5_2:wH.cell? ⟨wP.heap.size,2,none⟩=some (.int .i64 o.2.2):=R5.out.cell 2
    clear hbel
    go_wp2_with fail
    go_ret
    exact BoolB.of HB.out
  ·have HH:=hide (show decide (x.att.h / 4 % 2=1)=true from hh)
   have hneq:∀W:World,(binOp .neq 47 (.agg #[.int .i64 x.att.l,.int .i64 x.att.i,.int .i64 x.att.g]) (.agg #[.int .i64 o.1,.int .i64 o.2.1,.int .i64 o.2.2])).run Tryz.prog W=.ok (.bool (!false)) W:=fun W=>neq_ori (x.att.l,x.att.i,x.att.g) o (decide_eq_false ho) W
   clear HREST hh ho
   rcases hk with hk|hk
   ·have hk2:(x.k != 2)=false:=by simp [hk]
    clear hk
    go_wp2_with fail
    go_at_call 32
    refine (RHas4_x HXP.out.1 HXP.out.2 HH.out wS11).mono ?_
    rintro e13 wH ⟨rfl,hbel⟩
    clear q3_2 q7_0 q2_4 q3_1 q9_0 q9_6 q9_7 q9_8 q9_9 q9_10 q9_11 q9_12 q5_0 q5_1 q5_2
    replace HB:=hide (HB.out.trans (hbel.mono HB.out.size))
    replace R2:=hide (R2.out.on hbel)
    replace R3:=hide (R3.out.on hbel)
    replace HU:=hide (HU.out.under hbel (by omega))
    replace HL:=hide (HL.out.under hbel (by omega))
    replace R5:=hide (R5.out.on hbel)
    replace R7:=hide (R7.out.on hbel)
    replace R9:=hide (R9.out.on hbel)
    have hsz14:=hbel.size
    have q3_2:wH.cell? ⟨w.heap.size+1,2,none⟩=some (.string ⟨e.name.toArray⟩):=R3.out.cell 2
    have q7_0:wH.cell? ⟨wF.heap.size,0,none⟩=some (.int .i64 y.k):=R7.out.cell 0
    have q2_4:wH.cell? ⟨w.heap.size,4,none⟩=some (.slice AU nU cU):=R2.out.cell 4
    have q3_1:wH.cell? ⟨w.heap.size+1,1,none⟩=some (.int .i64 e.ino):=R3.out.cell 1
    have q9_0:wH.cell? ⟨wA.heap.size,0,none⟩=some (.int .i64 x.k):=R9.out.cell 0
    have q9_6:wH.cell? ⟨wA.heap.size,6,none⟩=some (.int .i64 x.att.h):=R9.out.cell 6
    have q9_7:wH.cell? ⟨wA.heap.size,7,none⟩=some (.int .i64 x.att.o):=R9.out.cell 7
    have q9_8:wH.cell? ⟨wA.heap.size,8,none⟩=some (.string ⟨x.att.r.toArray⟩):=R9.out.cell 8
    have q9_9:wH.cell? ⟨wA.heap.size,9,none⟩=some (.int .i64 x.att.l):=R9.out.cell 9
    have q9_10:wH.cell? ⟨wA.heap.size,10,none⟩=some (.int .i64 x.att.i):=R9.out.cell 10
    have q9_11:wH.cell? ⟨wA.heap.size,11,none⟩=some (.int .i64 x.att.g):=R9.out.cell 11
    have q9_12:wH.cell? ⟨wA.heap.size,12,none⟩=some (.int .i64 x.att.s):=R9.out.cell 12
    have q5_0:wH.cell? ⟨wP.heap.size,0,none⟩=some (.int .i64 o.1):=R5.out.cell 0
    have q5_1:wH.cell? ⟨wP.heap.size,1,none⟩=some (.int .i64 o.2.1):=R5.out.cell 1
    have q5_2:wH.cell? ⟨wP.heap.size,2,none⟩=some (.int .i64 o.2.2):=R5.out.cell 2
    clear hbel
    go_wp2_with fail
    go_ret
    exact BoolB.of HB.out
   ·have hk2:(x.k != 2)=true:=by simp [hk]
    have hk3:(x.k != 3)=false:=by simp [hk]
    clear hk
    go_wp2_with fail
    go_at_call 32
    refine (RHas4_x HXP.out.1 HXP.out.2 HH.out wS11).mono ?_
    rintro e13 wH ⟨rfl,hbel⟩
    clear q3_2 q7_0 q2_4 q3_1 q9_0 q9_6 q9_7 q9_8 q9_9 q9_10 q9_11 q9_12 q5_0 q5_1 q5_2
    replace HB:=hide (HB.out.trans (hbel.mono HB.out.size))
    replace R2:=hide (R2.out.on hbel)
    replace R3:=hide (R3.out.on hbel)
    replace HU:=hide (HU.out.under hbel (by omega))
    replace HL:=hide (HL.out.under hbel (by omega))
    replace R5:=hide (R5.out.on hbel)
    replace R7:=hide (R7.out.on hbel)
    replace R9:=hide (R9.out.on hbel)
    have hsz14:=hbel.size
    have q3_2:wH.cell? ⟨w.heap.size+1,2,none⟩=some (.string ⟨e.name.toArray⟩):=R3.out.cell 2
    have q7_0:wH.cell? ⟨wF.heap.size,0,none⟩=some (.int .i64 y.k):=R7.out.cell 0
    have q2_4:wH.cell? ⟨w.heap.size,4,none⟩=some (.slice AU nU cU):=R2.out.cell 4
    have q3_1:wH.cell? ⟨w.heap.size+1,1,none⟩=some (.int .i64 e.ino):=R3.out.cell 1
    have q9_0:wH.cell? ⟨wA.heap.size,0,none⟩=some (.int .i64 x.k):=R9.out.cell 0
    have q9_6:wH.cell? ⟨wA.heap.size,6,none⟩=some (.int .i64 x.att.h):=R9.out.cell 6
    have q9_7:wH.cell? ⟨wA.heap.size,7,none⟩=some (.int .i64 x.att.o):=R9.out.cell 7
    have q9_8:wH.cell? ⟨wA.heap.size,8,none⟩=some (.string ⟨x.att.r.toArray⟩):=R9.out.cell 8
    have q9_9:wH.cell? ⟨wA.heap.size,9,none⟩=some (.int .i64 x.att.l):=R9.out.cell 9
    have q9_10:wH.cell? ⟨wA.heap.size,10,none⟩=some (.int .i64 x.att.i):=R9.out.cell 10
    have q9_11:wH.cell? ⟨wA.heap.size,11,none⟩=some (.int .i64 x.att.g):=R9.out.cell 11
    have q9_12:wH.cell? ⟨wA.heap.size,12,none⟩=some (.int .i64 x.att.s):=R9.out.cell 12
    have q5_0:wH.cell? ⟨wP.heap.size,0,none⟩=some (.int .i64 o.1):=R5.out.cell 0
    have q5_1:wH.cell? ⟨wP.heap.size,1,none⟩=some (.int .i64 o.2.1):=R5.out.cell 1
    have q5_2:wH.cell? ⟨wP.heap.size,2,none⟩=some (.int .i64 o.2.2):=R5.out.cell 2
    clear hbel
    go_wp2_with fail
    go_ret
    exact BoolB.of HB.out
  ·have HH:=hide (show decide (x.att.h / 4 % 2=1)=true from hh)
   have hneq:∀W:World,(binOp .neq 47 (.agg #[.int .i64 x.att.l,.int .i64 x.att.i,.int .i64 x.att.g]) (.agg #[.int .i64 o.1,.int .i64 o.2.1,.int .i64 o.2.2])).run Tryz.prog W=.ok (.bool (!true)) W:=fun W=>neq_ori (x.att.l,x.att.i,x.att.g) o (decide_eq_true ho) W
   obtain ⟨j,hj⟩:∃j:Nat,e.ino=(j:Int)+1∧j < up.length:=by
    by_cases hr:1≤e.ino∧e.ino≤(up.length:Int)
    ·exact ⟨(e.ino - 1).toNat,by omega,by omega⟩
    ·have hx:=HX.out
     rw [nodAt_out hr] at hx
     subst hx
     simp [nod0] at hk
   obtain ⟨hj,hjl⟩:=hj
   obtain ⟨r,hr⟩:∃r,rs[j]?=some r:=⟨_,List.getElem?_eq_getElem (by have:=HRL.out;omega)⟩
   have HRJ:=hide hr
   have hres:(rs[(e.ino - 1).toNat]?).getD false=r:=by rw [hj,show ((j:Int)+1 - 1).toNat=j from by omega,hr];rfl
   have HRES:=hide hres
   have hjl2:j < 24:=by have:=HFU.out.1;omega
   have hwr:IntKind.i64.wrap (e.ino - 1)=(j:Int):=by rw [hj,show (j:Int)+1 - 1=(j:Int) from by omega];exact IntWalk.i64_in _ (by omega)
   clear hr hres hj
   clear HREST hh ho
   rcases hk with hk|hk
   ·have hk2:(x.k != 2)=false:=by simp [hk]
    clear hk
    go_wp2_with fail
    go_at_call 32
    refine (RHas4_x HXP.out.1 HXP.out.2 HH.out wS11).mono ?_
    rintro e13 wH ⟨rfl,hbel⟩
    clear q3_2 q7_0 q2_4 q3_1 q9_0 q9_6 q9_7 q9_8 q9_9 q9_10 q9_11 q9_12 q5_0 q5_1 q5_2
    replace HB:=hide (HB.out.trans (hbel.mono HB.out.size))
    replace R2:=hide (R2.out.on hbel)
    replace R3:=hide (R3.out.on hbel)
    replace HU:=hide (HU.out.under hbel (by omega))
    replace HL:=hide (HL.out.under hbel (by omega))
    replace R5:=hide (R5.out.on hbel)
    replace R7:=hide (R7.out.on hbel)
    replace R9:=hide (R9.out.on hbel)
    have hsz14:=hbel.size
    have q3_2:wH.cell? ⟨w.heap.size+1,2,none⟩=some (.string ⟨e.name.toArray⟩):=R3.out.cell 2
    have q7_0:wH.cell? ⟨wF.heap.size,0,none⟩=some (.int .i64 y.k):=R7.out.cell 0
    have q2_4:wH.cell? ⟨w.heap.size,4,none⟩=some (.slice AU nU cU):=R2.out.cell 4
    have q3_1:wH.cell? ⟨w.heap.size+1,1,none⟩=some (.int .i64 e.ino):=R3.out.cell 1
    have q9_0:wH.cell? ⟨wA.heap.size,0,none⟩=some (.int .i64 x.k):=R9.out.cell 0
    have q9_6:wH.cell? ⟨wA.heap.size,6,none⟩=some (.int .i64 x.att.h):=R9.out.cell 6
    have q9_7:wH.cell? ⟨wA.heap.size,7,none⟩=some (.int .i64 x.att.o):=R9.out.cell 7
    have q9_8:wH.cell? ⟨wA.heap.size,8,none⟩=some (.string ⟨x.att.r.toArray⟩):=R9.out.cell 8
    have q9_9:wH.cell? ⟨wA.heap.size,9,none⟩=some (.int .i64 x.att.l):=R9.out.cell 9
    have q9_10:wH.cell? ⟨wA.heap.size,10,none⟩=some (.int .i64 x.att.i):=R9.out.cell 10
    have q9_11:wH.cell? ⟨wA.heap.size,11,none⟩=some (.int .i64 x.att.g):=R9.out.cell 11
    have q9_12:wH.cell? ⟨wA.heap.size,12,none⟩=some (.int .i64 x.att.s):=R9.out.cell 12
    have q5_0:wH.cell? ⟨wP.heap.size,0,none⟩=some (.int .i64 o.1):=R5.out.cell 0
    have q5_1:wH.cell? ⟨wP.heap.size,1,none⟩=some (.int .i64 o.2.1):=R5.out.cell 1
    have q5_2:wH.cell? ⟨wP.heap.size,2,none⟩=some (.int .i64 o.2.2):=R5.out.cell 2
    clear hbel
    go_upto_region 12 with fail
    refine wp_region_plan (fun w'=>Below wH.heap.size wH w') [(0,true),(1,true),(4,true),(5,true),(6,true),(2,false),(3,false),(7,true),(8,false),(9,true),(10,true)] (by kernel_rfl) (by kernel_rfl) (by kernel_rfl) (by kernel_rfl) rfl (fun _ _ _ _ _ h=>h) (below_drew (below_self wH)) (fun hHeld=>?_)
    simp only [planOps,List.filterMap_cons,List.filterMap_nil,List.getElem?_toArray,List.getElem?_cons_succ,List.getElem?_cons_zero,Option.map_some]
    refine wpPlan_take (v:=?_) (by kernel_rfl) (fun wS hSw=>?_) ?_
    rotate_left
    ·(try dsimp only at hSw);go_simp;(try with_reducible rfl)
    (try simp only [Act.put,pu1,pu2,pu3])
    refine wpPlan_take (v:=?_) (by kernel_rfl) (fun wS hSw=>?_) ?_
    rotate_left
    ·refine execOp_load (x:=.tmp 60) (k:=1) (g:=w.heap.size) (off:=4) (cs:=[.slice AU nU cU]) ?_ lay_agg lay_size ?_ (fun j v hv=>((R2.out.on hSw).cell (4+j)).trans (sub_cell (cur:=(stkC g (.slice AU nU cU) (.slice AL nL cL))) (k:=1) rfl hv)) rfl <;> rfl
    (try simp only [Act.put,pu1,pu2,pu3])
    refine wpPlan_take (v:=?_) (by kernel_rfl) (fun wS hSw=>?_) ?_
    rotate_left
    ·(try dsimp only at hSw);go_simp;(try with_reducible rfl)
    (try simp only [Act.put,pu1,pu2,pu3])
    refine wpPlan_take (v:=?_) (by kernel_rfl) (fun wS hSw=>?_) ?_
    rotate_left
    ·have qx:=((R3.out.on hSw).cell 1).trans (show (cellsE e)[1]?=some (.int .i64 e.ino) from rfl);go_simp;(try with_reducible rfl)
    (try simp only [Act.put,pu1,pu2,pu3])
    refine wpPlan_take (v:=?_) (by kernel_rfl) (fun wS hSw=>?_) ?_
    rotate_left
    ·(try dsimp only at hSw);go_simp;(try simp only [hwr]);(try with_reducible rfl)
    (try simp only [Act.put,pu1,pu2,pu3])
    refine wpPlan_call (by kernel_rfl) (fun K hK=>?_)
    have hOld:=hide hHeld
    clear hHeld
    have HL1:=hide (one_row (RowL.new wH.drew 3 [.int .i64 1]))
    unfold Oper.wp execOp
    have hlit:=lit_one
    go_simp
    refine hK.out _ _ (hOld.out.alloc hOld.out.size _) (fun hHeld=>?_)
    clear hK K
    clear hlit
    (try simp only [Act.put,pu1,pu2,pu3])
    refine wpPlan_call (by kernel_rfl) (fun K hK=>?_)
    have hOld:=hide hHeld
    clear hHeld
    go_simp
    go_at_call 33
    refine (RReach_any _ (und_up (HU.out.under hOld.out (by omega)) (by have:=hOld.out.size;omega)) HL1.out (plain_many HFU.out.1 HFU.out.2).1 (by omega)).mono ?_
    rintro e w' ⟨AR,nR,cR,rfl,-,hrd,hbel,-⟩
    rw [HRS.out] at hrd
    have hjR:j < nR:=by have h1:=hrd.1;have h2:=HRL.out;omega
    obtain ⟨bR,oR,rfl⟩:=rd_some hrd (by omega)
    have qr:=rd_cell hrd HRJ.out
    have hjI:(j:Int) < (nR:Int):=by omega
    clear hrd
    refine hK.out _ _ (hOld.out.trans (hbel.mono hOld.out.size)) (fun hHeld=>?_)
    clear hK K
    (try simp only [Act.put,pu1,pu2,pu3])
    refine wpPlan_take (v:=?_) (by kernel_rfl) (fun wS hSw=>?_) ?_
    rotate_left
    ·(try dsimp only at hSw);go_simp;(try with_reducible rfl)
    (try simp only [Act.put,pu1,pu2,pu3])
    refine wpPlan_call (by kernel_rfl) (fun K hK=>?_)
    have hOld:=hide hHeld
    clear hHeld
    unfold Oper.wp execOp
    go_simp
    refine hK.out _ _ (hOld.out) (fun hHeld=>?_)
    clear hK K
    have HBZ:=hide (HB.out.trans (hHeld.mono (by omega)))
    (try simp only [Act.put,pu1,pu2,pu3])
    iterate 2
     refine wpPlan_take (v:=?_) (by kernel_rfl) (fun wS hSw=>?_) ?_
     rotate_left
     ·(try dsimp only at hSw);go_simp;(try with_reducible rfl)
     (try simp only [Act.put,pu1,pu2,pu3])
    refine wpPlan_end ?_
    go_wp2_with fail
    go_ret
    rw [HRES.out]
    exact BoolB.of HBZ.out
   ·have hk2:(x.k != 2)=true:=by simp [hk]
    have hk3:(x.k != 3)=false:=by simp [hk]
    clear hk
    go_wp2_with fail
    go_at_call 32
    refine (RHas4_x HXP.out.1 HXP.out.2 HH.out wS11).mono ?_
    rintro e13 wH ⟨rfl,hbel⟩
    clear q3_2 q7_0 q2_4 q3_1 q9_0 q9_6 q9_7 q9_8 q9_9 q9_10 q9_11 q9_12 q5_0 q5_1 q5_2
    replace HB:=hide (HB.out.trans (hbel.mono HB.out.size))
    replace R2:=hide (R2.out.on hbel)
    replace R3:=hide (R3.out.on hbel)
    replace HU:=hide (HU.out.under hbel (by omega))
    replace HL:=hide (HL.out.under hbel (by omega))
    replace R5:=hide (R5.out.on hbel)
    replace R7:=hide (R7.out.on hbel)
    replace R9:=hide (R9.out.on hbel)
    have hsz14:=hbel.size
    have q3_2:wH.cell? ⟨w.heap.size+1,2,none⟩=some (.string ⟨e.name.toArray⟩):=R3.out.cell 2
    have q7_0:wH.cell? ⟨wF.heap.size,0,none⟩=some (.int .i64 y.k):=R7.out.cell 0
    have q2_4:wH.cell? ⟨w.heap.size,4,none⟩=some (.slice AU nU cU):=R2.out.cell 4
    have q3_1:wH.cell? ⟨w.heap.size+1,1,none⟩=some (.int .i64 e.ino):=R3.out.cell 1
    have q9_0:wH.cell? ⟨wA.heap.size,0,none⟩=some (.int .i64 x.k):=R9.out.cell 0
    have q9_6:wH.cell? ⟨wA.heap.size,6,none⟩=some (.int .i64 x.att.h):=R9.out.cell 6
    have q9_7:wH.cell? ⟨wA.heap.size,7,none⟩=some (.int .i64 x.att.o):=R9.out.cell 7
    have q9_8:wH.cell? ⟨wA.heap.size,8,none⟩=some (.string ⟨x.att.r.toArray⟩):=R9.out.cell 8
    have q9_9:wH.cell? ⟨wA.heap.size,9,none⟩=some (.int .i64 x.att.l):=R9.out.cell 9
    have q9_10:wH.cell? ⟨wA.heap.size,10,none⟩=some (.int .i64 x.att.i):=R9.out.cell 10
    have q9_11:wH.cell? ⟨wA.heap.size,11,none⟩=some (.int .i64 x.att.g):=R9.out.cell 11
    have q9_12:wH.cell? ⟨wA.heap.size,12,none⟩=some (.int .i64 x.att.s):=R9.out.cell 12
    have q5_0:wH.cell? ⟨wP.heap.size,0,none⟩=some (.int .i64 o.1):=R5.out.cell 0
    have q5_1:wH.cell? ⟨wP.heap.size,1,none⟩=some (.int .i64 o.2.1):=R5.out.cell 1
    have q5_2:wH.cell? ⟨wP.heap.size,2,none⟩=some (.int .i64 o.2.2):=R5.out.cell 2
    clear hbel
    go_upto_region 12 with fail
    refine wp_region_plan (fun w'=>Below wH.heap.size wH w') [(0,true),(1,true),(4,true),(5,true),(6,true),(2,false),(3,false),(7,true),(8,false),(9,true),(10,true)] (by kernel_rfl) (by kernel_rfl) (by kernel_rfl) (by kernel_rfl) rfl (fun _ _ _ _ _ h=>h) (below_drew (below_self wH)) (fun hHeld=>?_)
    simp only [planOps,List.filterMap_cons,List.filterMap_nil,List.getElem?_toArray,List.getElem?_cons_succ,List.getElem?_cons_zero,Option.map_some]
    refine wpPlan_take (v:=?_) (by kernel_rfl) (fun wS hSw=>?_) ?_
    rotate_left
    ·(try dsimp only at hSw);go_simp;(try with_reducible rfl)
    (try simp only [Act.put,pu1,pu2,pu3])
    refine wpPlan_take (v:=?_) (by kernel_rfl) (fun wS hSw=>?_) ?_
    rotate_left
    ·refine execOp_load (x:=.tmp 60) (k:=1) (g:=w.heap.size) (off:=4) (cs:=[.slice AU nU cU]) ?_ lay_agg lay_size ?_ (fun j v hv=>((R2.out.on hSw).cell (4+j)).trans (sub_cell (cur:=(stkC g (.slice AU nU cU) (.slice AL nL cL))) (k:=1) rfl hv)) rfl <;> rfl
    (try simp only [Act.put,pu1,pu2,pu3])
    refine wpPlan_take (v:=?_) (by kernel_rfl) (fun wS hSw=>?_) ?_
    rotate_left
    ·(try dsimp only at hSw);go_simp;(try with_reducible rfl)
    (try simp only [Act.put,pu1,pu2,pu3])
    refine wpPlan_take (v:=?_) (by kernel_rfl) (fun wS hSw=>?_) ?_
    rotate_left
    ·have qx:=((R3.out.on hSw).cell 1).trans (show (cellsE e)[1]?=some (.int .i64 e.ino) from rfl);go_simp;(try with_reducible rfl)
    (try simp only [Act.put,pu1,pu2,pu3])
    refine wpPlan_take (v:=?_) (by kernel_rfl) (fun wS hSw=>?_) ?_
    rotate_left
    ·(try dsimp only at hSw);go_simp;(try simp only [hwr]);(try with_reducible rfl)
    (try simp only [Act.put,pu1,pu2,pu3])
    refine wpPlan_call (by kernel_rfl) (fun K hK=>?_)
    have hOld:=hide hHeld
    clear hHeld
    have HL1:=hide (one_row (RowL.new wH.drew 3 [.int .i64 1]))
    unfold Oper.wp execOp
    have hlit:=lit_one
    go_simp
    refine hK.out _ _ (hOld.out.alloc hOld.out.size _) (fun hHeld=>?_)
    clear hK K
    clear hlit
    (try simp only [Act.put,pu1,pu2,pu3])
    refine wpPlan_call (by kernel_rfl) (fun K hK=>?_)
    have hOld:=hide hHeld
    clear hHeld
    go_simp
    go_at_call 33
    refine (RReach_any _ (und_up (HU.out.under hOld.out (by omega)) (by have:=hOld.out.size;omega)) HL1.out (plain_many HFU.out.1 HFU.out.2).1 (by omega)).mono ?_
    rintro e w' ⟨AR,nR,cR,rfl,-,hrd,hbel,-⟩
    rw [HRS.out] at hrd
    have hjR:j < nR:=by have h1:=hrd.1;have h2:=HRL.out;omega
    obtain ⟨bR,oR,rfl⟩:=rd_some hrd (by omega)
    have qr:=rd_cell hrd HRJ.out
    have hjI:(j:Int) < (nR:Int):=by omega
    clear hrd
    refine hK.out _ _ (hOld.out.trans (hbel.mono hOld.out.size)) (fun hHeld=>?_)
    clear hK K
    (try simp only [Act.put,pu1,pu2,pu3])
    refine wpPlan_take (v:=?_) (by kernel_rfl) (fun wS hSw=>?_) ?_
    rotate_left
    ·(try dsimp only at hSw);go_simp;(try with_reducible rfl)
    (try simp only [Act.put,pu1,pu2,pu3])
    refine wpPlan_call (by kernel_rfl) (fun K hK=>?_)
    have hOld:=hide hHeld
    clear hHeld
    unfold Oper.wp execOp
    go_simp
    refine hK.out _ _ (hOld.out) (fun hHeld=>?_)
    clear hK K
    have HBZ:=hide (HB.out.trans (hHeld.mono (by omega)))
    (try simp only [Act.put,pu1,pu2,pu3])
    iterate 2
     refine wpPlan_take (v:=?_) (by kernel_rfl) (fun wS hSw=>?_) ?_
     rotate_left
     ·(try dsimp only at hSw);go_simp;(try with_reducible rfl)
     (try simp only [Act.put,pu1,pu2,pu3])
    refine wpPlan_end ?_
    go_wp2_with fail
    go_ret
    rw [HRES.out]
    exact BoolB.of HBZ.out
end Go.Proofs.YtpndfahgflgocaaGreatDoor

