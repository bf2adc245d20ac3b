import Derived.Test.YtpndfahgflgocaaGreatDoorLn36
import Derived.Test.YtpndfahgflgocaaGreatDoorLn12
import Derived.Test.YtpndfahgflgocaaGreatDoorLn32
import Derived.Test.YtpndfahgflgocaaGreatDoorRows
import Derived.Lib.SmallJoins
import Derived.OpenShut
import Derived.ProofKit
import Derived.LaidMore
import Derived.Stop.Joined
import Derived.Stop.LaidErr
import Derived.Test.YtpndfahgflgocaaGreatDoorLn35
import Derived.Test.YtpndfahgflgocaaGreatDoorLn15
import Derived.Test.YtpndfahgflgocaaGreatDoorLn27

namespace Go.Proofs.YtpndfahgflgocaaGreatDoor
open Go.RowKit Go.Shelf Plain

theorem bit_is8:∀h:Fin 32,(bits .and .i64 (h.1:Int) 8==8)=decide ((h.1:Int) / 8 % 2=1):=by decide +kernel
theorem bit_is8' {h:Int} (h0:0≤h) (h1:h≤31):(bits .and .i64 h 8==8)=decide (h / 8 % 2=1):=by
 obtain ⟨n,rfl⟩:=Int.eq_ofNat_of_zero_le h0
 exact bit_is8 ⟨n,by omega⟩
set_option maxRecDepth 100000 in
set_option maxHeartbeats 16000000 in
theorem KRight_any {g:GeoQ} {AU AL:Option Addr} {nU cU nL cL B:Nat} {up:List NodV} {ls:List (List NodV)} {rs:List Bool} (hrs:reachL up (walkW up [1]).1=rs) {i:Int} {r:Bool} (hr:rightK (nodAt up i) (wantK up ls rs i)=r) (w:World) (hu:RdE nodEn w (Under B) AU nU up) (h:RdE layEn w (Under B) AL nL ls) (hB:B≤w.heap.size) (hF:FewL ls) (hup:FewU up) (hw:HanW w):Calls Tryz.prog 41 #[.agg (stkC g (.slice AU nU cU) (.slice AL nL cL)).toArray,.int .i64 i] w (BoolB w r):=by
 obtain ⟨W1,hW1⟩:∃W1,(w.alloc (.cells (stkC g (.slice AU nU cU) (.slice AL nL cL)).toArray 29))=W1:=⟨_,rfl⟩
 obtain ⟨r0,hb1,hs1⟩:=rowA1 w _ _ hW1
 have hW1':(w.alloc (.cells #[.int .i64 g.a,.int .i64 g.b,.int .i64 g.c,.int .i64 g.d,.slice AU nU cU,.slice AL nL cL] 29))=W1:=hW1
 have R2:=hide r0
 have HB:=hide hb1
 have hsz0:=hb1.size
 have HU:=hide (hu.under hb1 hB)
 have HL:=hide (h.under hb1 hB)
 have HF:=hide hF
 have HFU:=hide hup
 have HW:=hide (hw.below hb1)
 have hs1':w.heap.size+1≤W1.heap.size:=by omega
 have HRS:=hide hrs
 obtain ⟨x,hx⟩:∃x,nodAt up i=x:=⟨_,rfl⟩
 have HX:=hide hx
 have hxp:0≤x.att.h∧x.att.h≤31:=by rw [←hx];exact (nodAt_plain hup.2 i).2.2.1
 obtain ⟨⟨n,b2⟩,hp⟩:∃q:Int×Bool,wantK up ls rs i=q:=⟨_,rfl⟩
 have HP:=hide hp
 obtain ⟨b1,hb1'⟩:∃b1,saysK x=b1:=⟨_,rfl⟩
 have HHS:=hide (show (bits .and .i64 x.att.h 8==8)=b1 from by rw [bit_is8' hxp.1 hxp.2,←hb1'];rfl)
 obtain ⟨v,hv⟩:∃v,decide (x.att.s=n)=v:=⟨_,rfl⟩
 have hvb:(x.att.s==n)=v:=by rw [←hv,Bool.eq_iff_iff];simp
 have HR:=hide (show (if b1=b2 then !b1||v else false)=r from by
  rw [←hr,hx,hp]
  unfold rightK
  rw [hb1',←hv])
 have q2_4:W1.cell? ⟨w.heap.size,4,none⟩=some (.slice AU nU cU):=R2.out.cell 4
 unfold stkC
 clear r0 hb1 hW1 hu h hF hup hs1 hrs hp hw hx hr hxp hb1'
 go_enter Tryz.func41,Tryz.ntmps41
 go_upto_region 2 with (first|(refine wpList_loadC rfl 26 (.tmp 9) rfl 1 lay_agg lay_size (w.heap.size) 4 29 rfl (stkC g (.slice AU nU cU) (.slice AL nL cL)) [.slice AU nU cU] R2.out rfl rfl ?_)|(go_at_call 36;refine (Of_e HX.out W1 HU.out (by omega) (by have:=HFU.out.1;omega)).mono ?_;rintro e1 wA ⟨A0,n0,k0,C0,m0,d0,rfl,-,-,hmd,he,hbel⟩;clear he hmd;clear q2_4;replace HB:=hide (HB.out.trans (hbel.mono HB.out.size));replace R2:=hide (R2.out.on hbel);replace HU:=hide (HU.out.under hbel (by omega));replace HL:=hide (HL.out.under hbel (by omega));replace HW:=hide (HW.out.below hbel);have hsz2:=hbel.size;have q2_4:wA.cell? ⟨w.heap.size,4,none⟩=some (.slice AU nU cU):=R2.out.cell 4;clear hbel)|(refine wpList_storeW rfl 51 (.tmp 5) (.tmp 12) rfl 13 nod_size (wA.heap.size) 51 rfl (nodC nod0 (.slice none 0 0) (.slice none 0 0)) (nodC x (.slice A0 n0 k0) (.slice C0 m0 d0)) rfl (RowL.new wA 51 (nodC nod0 (.slice none 0 0) (.slice none 0 0))) rfl rfl (nodC_one _ _ _ _ _ _ _) ?_;intro wS3 hr3 hg3 hs3;have hzb:=below_stored' hg3;clear q2_4;replace HB:=hide (HB.out.trans (hzb.mono HB.out.size));replace R2:=hide (R2.out.on hzb);replace HU:=hide (HU.out.under hzb (by omega));replace HL:=hide (HL.out.under hzb (by omega));replace HW:=hide (HW.out.below hzb);have hsz4:=hzb.size;have q2_4:wS3.cell? ⟨w.heap.size,4,none⟩=some (.slice AU nU cU):=R2.out.cell 4;have R5:=hide hr3;have hlt3:=hr3.lt;have q5_12:wS3.cell? ⟨wA.heap.size,12,none⟩=some (.int .i64 x.att.s):=R5.out.cell 12;clear hzb hr3;clear hg3 hs3))
 go_upto_region 3 with (first|(refine wpList_loadW rfl 29 (.tmp 2) rfl 6 stk_agg stk_size (w.heap.size) 29 rfl (stkC g (.slice AU nU cU) (.slice AL nL cL)) R2.out rfl ?_)|(go_at_call 16;refine (KWant_any (g:=g) (cU:=cU) (cL:=cL) HRS.out HP.out wS3 HU.out HL.out (by omega) HF.out HFU.out HW.out).mono ?_;rintro e5 wN ⟨rfl,hbel⟩;clear q2_4 q5_12;replace HB:=hide (HB.out.trans (hbel.mono HB.out.size));replace R2:=hide (R2.out.on hbel);replace HU:=hide (HU.out.under hbel (by omega));replace HL:=hide (HL.out.under hbel (by omega));replace HW:=hide (HW.out.below hbel);replace R5:=hide (R5.out.on hbel);have hsz6:=hbel.size;have q2_4:wN.cell? ⟨w.heap.size,4,none⟩=some (.slice AU nU cU):=R2.out.cell 4;have q5_12:wN.cell? ⟨wA.heap.size,12,none⟩=some (.int .i64 x.att.s):=R5.out.cell 12;clear hbel))
 go_upto_region 4 with (first|(refine wpList_loadW rfl 51 (.tmp 5) rfl 13 nod_agg nod_size (wA.heap.size) 51 rfl (nodC x (.slice A0 n0 k0) (.slice C0 m0 d0)) R5.out rfl ?_)|(go_at_call 60;refine (NHas_b HHS.out wN).mono ?_;rintro e7 wH ⟨rfl,hbel⟩;clear q2_4 q5_12;replace HB:=hide (HB.out.trans (hbel.mono HB.out.size));replace R2:=hide (R2.out.on hbel);replace HU:=hide (HU.out.under hbel (by omega));replace HL:=hide (HL.out.under hbel (by omega));replace HW:=hide (HW.out.below hbel);replace R5:=hide (R5.out.on hbel);have hsz8:=hbel.size;have q2_4:wH.cell? ⟨w.heap.size,4,none⟩=some (.slice AU nU cU):=R2.out.cell 4;have q5_12:wH.cell? ⟨wA.heap.size,12,none⟩=some (.int .i64 x.att.s):=R5.out.cell 12;clear hbel))
 have q5_x:wH.cell? ⟨wA.heap.size,12,none⟩=some (.int .i64 x.att.s):=R5.out.cell 12
 cases b1 <;> cases b2 <;> (go_wp2_with fail;go_ret;rw [←HR.out];exact BoolB.of HB.out)
set_option maxRecDepth 100000 in
set_option maxHeartbeats 16000000 in
theorem KFinds_any {g:GeoQ} {AU AL:Option Addr} {nU cU nL cL B:Nat} {up:List NodV} {ls:List (List NodV)} {rs:List Bool} (hrs:reachL up (walkW up [1]).1=rs) (w:World) (hu:RdE nodEn w (Under B) AU nU up) (h:RdE layEn w (Under B) AL nL ls) (hB:B≤w.heap.size) (hF:FewL ls) (hup:FewU up) (hw:HanW w):Calls Tryz.prog 18 #[.agg (stkC g (.slice AU nU cU) (.slice AL nL cL)).toArray] w (FinsX w (findK up ls rs rs.length)):=by
 obtain ⟨W1,hW1⟩:∃W1,(w.alloc (.cells (stkC g (.slice AU nU cU) (.slice AL nL cL)).toArray 29))=W1:=⟨_,rfl⟩
 obtain ⟨r0,hb1,hs1⟩:=rowA1 w _ _ hW1
 have hW1':(w.alloc (.cells #[.int .i64 g.a,.int .i64 g.b,.int .i64 g.c,.int .i64 g.d,.slice AU nU cU,.slice AL nL cL] 29))=W1:=hW1
 have R1:=hide r0
 have HB:=hide hb1
 have hsz0:=hb1.size
 have HU:=hide (hu.under hb1 hB)
 have HL:=hide (h.under hb1 hB)
 have HF:=hide hF
 have HFU:=hide hup
 have HW:=hide (hw.below hb1)
 have hs1':w.heap.size+1≤W1.heap.size:=by omega
 have HRS:=hide hrs
 have hr24:rs.length≤24:=by rw [←hrs,reachL_len];exact hup.1
 unfold stkC
 clear r0 hb1 hW1 hu h hF hup hs1 hrs hw
 go_enter Tryz.func18,Tryz.ntmps18
 go_wp2_with fail
 go_step3
 go_wp2_with fail
 go_step3
 go_wp2_with (first|(refine wpList_loadC rfl 26 (.tmp 7) rfl 1 lay_agg lay_size (w.heap.size) 4 29 rfl (stkC g (.slice AU nU cU) (.slice AL nL cL)) [.slice AU nU cU] R1.out rfl rfl ?_)|(go_at_call 40;refine (OReach_any HRS.out _ (und_up (HU.out.under (below_new (below_self W1) (.cells #[.int .i64 1] 3)) (by omega)) (by first|(simp;omega)|simp)) (one_row (RowL.new W1 3 [.int .i64 1])) (plain_many HFU.out.1 HFU.out.2).1).mono ?_;rintro e1 wT ⟨AR,nR,cR,lo,hi,rfl,hlo,hrd0,hbel0⟩;have hbel:Below W1.heap.size W1 wT:=(below_new (below_self W1) (.cells #[.int .i64 1] 3)).trans (hbel0.mono (by simp));have HRD:=hide (rch_rd hrd0);replace HB:=hide (HB.out.trans (hbel.mono (by omega)));replace R1:=hide (R1.out.on hbel);replace HU:=hide (HU.out.under hbel (by omega));replace HL:=hide (HL.out.under hbel (by omega));replace HW:=hide (HW.out.below hbel);have hszT:=hbel.size;clear hrd0 hbel hbel0))
 have hnR:rs.length=nR:=HRD.out.1
 have hn24:nR≤24:=by omega
 clear hW1'
 go_loopw [3,12] (fun v3 v12 wr=>∃(j n6:Nat) (A6:Option Addr) (c6:Nat),j≤nR∧v12=.int .i64 j∧v3=.slice A6 n6 c6∧n6≤j∧OwE finEn wr wT.heap.size 37 A6 n6 c6 (findK up ls rs j)∧Below wT.heap.size wT wr) (fun _ v12 _=>nR - (intOf v12).toNat)
 case atStart=>exact ⟨0,0,none,0,by omega,rfl,rfl,by omega,OwE.nil_ _ _ _ _,below_self _⟩
 case round =>
  obtain ⟨j,n6,A6,c6,hj,rfl,rfl,hn6,ho,hbr⟩:=hrel
  have hbsz:=hbr.size
  have HBR:=hide hbr
  have HO:=hide ho
  have R1r:=hide (R1.out.on hbr)
  have HUr:=hide (HU.out.under hbr (by omega))
  have HLr:=hide (HL.out.under hbr (by omega))
  have HWr:=hide (HW.out.below hbr)
  have HRDr:=hide (HRD.out.below hbr)
  clear ho hbr
  by_cases hlt:j < nR
  ·obtain ⟨r,hr⟩:∃r,rs[j]?=some r:=⟨_,List.getElem?_eq_getElem (by omega)⟩
   obtain ⟨bR,oR,rfl⟩:=rd_some HRDr.out (by omega)
   have qr:=rd_cell HRDr.out hr
   have hjn:(j:Int) < (nR:Int):=by omega
   have hw1:IntKind.i64.wrap ((j:Int)+1)=(j:Int)+1:=IntWalk.i64_in _ (by omega)
   cases r with
   | false =>
    have HST:=hide (findK_skip (up:=up) (ls:=ls) (rs:=rs) (j:=j) (by rw [hr];rfl))
    clear hr
    go_wp2_with fail
    go_roundw
    case rel=>exact ⟨j+1,n6,A6,c6,by omega,by go_num,rfl,by omega,by rw [HST.out];exact HO.out,HBR.out⟩
    case measure=>simp [intOf];omega
   | true =>
    obtain ⟨k,hk⟩:∃k,rightK (nodAt up ((j:Int)+1)) (wantK up ls rs ((j:Int)+1))=k:=⟨_,rfl⟩
    have HRK:=hide hk
    have HRJ:=hide (show (rs[j]?).getD false=true from by rw [hr];rfl)
    clear hr hk
    have q1_4:wr.cell? ⟨w.heap.size,4,none⟩=some (.slice AU nU cU):=R1r.out.cell 4
    have q1_0:wr.cell? ⟨w.heap.size,0,none⟩=some (.int .i64 g.a):=R1r.out.cell 0
    have q1_1:wr.cell? ⟨w.heap.size,1,none⟩=some (.int .i64 g.b):=R1r.out.cell 1
    have q1_2:wr.cell? ⟨w.heap.size,2,none⟩=some (.int .i64 g.c):=R1r.out.cell 2
    have q1_3:wr.cell? ⟨w.heap.size,3,none⟩=some (.int .i64 g.d):=R1r.out.cell 3
    have q1_5:wr.cell? ⟨w.heap.size,5,none⟩=some (.slice AL nL cL):=R1r.out.cell 5
    cases k with
    | true =>
     have HST:=hide (findK_ok (up:=up) (ls:=ls) (rs:=rs) (j:=j) HRK.out)
     go_wp2_with fail
     go_at_call 41
     refine (KRight_any (g:=g) (cU:=cU) (cL:=cL) HRS.out HRK.out wr HUr.out HLr.out (by omega) HF.out HFU.out HWr.out).mono ?_
     rintro e8 w8 ⟨rfl,hb8⟩
     have HO8:=hide (HO.out.below hb8)
     have HBR8:=hide (HBR.out.trans (hb8.mono (by omega)))
     have hz8:=hb8.size
     clear hb8
     go_wp2_with fail
     go_roundw
     case rel=>exact ⟨j+1,n6,A6,c6,by omega,by go_num,rfl,by omega,by rw [HST.out];exact HO8.out,HBR8.out⟩
     case measure=>simp [intOf];omega
    | false =>
     have HST:=hide (findK_bad (up:=up) (ls:=ls) (rs:=rs) (j:=j) HRJ.out HRK.out)
     go_wp2_with fail
     go_at_call 41
     refine (KRight_any (g:=g) (cU:=cU) (cL:=cL) HRS.out HRK.out wr HUr.out HLr.out (by omega) HF.out HFU.out HWr.out).mono ?_
     rintro e8 w8 ⟨rfl,hb8⟩
     have HO8:=hide (HO.out.below hb8)
     have HBR8:=hide (HBR.out.trans (hb8.mono (by omega)))
     have hz8:=hb8.size
     clear hb8
     have hlit:=litX_fin 20 0 ((j:Int)+1) (-1) w8
     go_wp2_with (at_builtin;have hba:=below_new (below_self w8) (.cells (finC ⟨20,0,(j:Int)+1,-1⟩).toArray 37);refine wpList_append_OwE (E:=finEn) _ rfl (.tmp 26) (.tmp 29) 35 rfl wT.heap.size 37 (.agg #[.int .i64 0,.int .i64 0,.int .i64 0,.int .i64 0]) 32 Tryz.underlying35 finX_info rfl (by decide) A6 n6 c6 _ rfl (HO8.out.below hba) (fun b=>w8.heap.size≤b∧b < (w8.alloc (.cells (finC ⟨20,0,(j:Int)+1,-1⟩).toArray 37)).heap.size) (some ⟨w8.heap.size,0,none⟩) 1 1 [⟨20,0,(j:Int)+1,-1⟩] rfl (encX_lit1 (finX_R ⟨20,0,(j:Int)+1,-1⟩) w8 37 (Nat.le_refl _)) (fun b hb=>⟨⟨hb.2,fun _ _ _ _=>rfl⟩,fun a ha=>(fun e=>by have h1:=hb.1;rw [e] at h1;have:=OwE.ltX HO8.out a ha;omega)⟩) (n6+1) rfl (by omega) (by omega) (by simp;omega) ?_;intro A9 c9 w9 ho9 hb9;have HO9:=hide ho9;have HB9:=hide ((HBR8.out.alloc (by omega) _).trans hb9);clear ho9 hb9 hba)
     go_roundw
     case rel=>exact ⟨j+1,n6+1,A9,c9,by omega,by go_num,rfl,by omega,by rw [HST.out];exact HO9.out,HB9.out⟩
     case measure=>simp [intOf];omega
  ·obtain rfl:j=nR:=by omega
   have hjn:¬((j:Int) < (j:Int)):=by omega
   go_wp2_with fail
   (try go_ret)
   exact ⟨A6,n6,c6,rfl,(HO.out.rd rfl).plain,HB.out.trans (HBR.out.mono (by have:=HB.out.size;omega))⟩
theorem KFinds_p {g:GeoQ} {AU AL:Option Addr} {nU cU nL cL B:Nat} {up:List NodV} {ls:List (List NodV)} {n:Nat} {rs:List Bool} {R:List FinV} (hrs:reachL up (walkW up [1]).1=rs) (hR:findK up ls rs rs.length=R) (hn:R.length=n) (w:World) (hu:RdE nodEn w (Under B) AU nU up) (h:RdE layEn w (Under B) AL nL ls) (hB:B≤w.heap.size) (hF:FewL ls) (hup:FewU up) (hw:HanW w):Calls Tryz.prog 18 #[.agg (stkC g (.slice AU nU cU) (.slice AL nL cL)).toArray] w (fun e w'=>∃A c,e=.returned (.slice A n c)∧RdE finEn w' (Under w'.heap.size) A n R∧Below w.heap.size w w'):=by
 refine (KFinds_any hrs w hu h hB hF hup hw).mono ?_
 rintro e w' ⟨A,m,c,h1,h2,h3⟩
 rw [hR] at h2
 obtain rfl:n=m:=by rw [←hn];exact h2.1
 exact ⟨A,c,h1,h2,h3⟩
end Go.Proofs.YtpndfahgflgocaaGreatDoor

namespace Go.Proofs.YtpndfahgflgocaaGreatDoor
open Go.RowKit Go.WideShapes Go.ChangeShapes Plain

theorem star_err : "*" ++ "errors.errorString" = "*errors.errorString" := by decide
set_option maxRecDepth 100000 in
theorem row_err (u : TypeId) (h : Tryz.prog.typeName? 3 u = some "*errors.errorString") : u = 240 :=
 typeName_ptr_named (nm := "errors.errorString") (by rw [star_err]; kernel_rfl) (by kernel_rfl) (by decide) u (by rw [star_err]; exact h)
theorem cut_oneP {l:List Value} {j:Nat} (h:j < l.length):(l.drop j).take 1=[l[j]]:=by
 rw [List.drop_eq_getElem_cons h,List.take_succ_cons,List.take_zero]
theorem ev_of_laid {r : List (String × DataW Unit)} {W : World} (h : laidMet Tryz.prog (("strconv.ErrSyntax", Rows.laid_strconv_ErrSyntax) :: r) W) : EvW W := by
 obtain ⟨a,s,hv,-,-,-⟩:=laid_sentinel (g:=1) (ti:=151) (te:=242) (ts:=9) h (by kernel_rfl) (by kernel_rfl) Tryz.underlying151 row_err Tryz.underlying240 Tryz.underlying242 rfl rfl Tryz.underlying9 (by kernel_rfl) (by kernel_rfl)
 refine ⟨_,World.var?_cell (g:=1) (by kernel_rfl) hv 0,.inr ⟨_,_,rfl⟩⟩
set_option maxRecDepth 100000 in
theorem bz_of_laid {r : List (String × DataW Unit)} {W : World} (h : laidMet Tryz.prog (("math/bits.deBruijn64tab", Rows.laid_math_bits_deBruijn64tab) :: r) W) : BzW W := by
 obtain ⟨ps,⟨g0,t0,cs0,f0,p0,q0,hg0,ht0,hv0,hd0,_,_⟩,_,_⟩:=h
 have gN : Tryz.prog.globalNamed "math/bits.deBruijn64tab" = some 6 := by kernel_rfl
 have tN:(Tryz.prog.globals[6]?).map (·.type)=some 265:=by kernel_rfl
 obtain rfl:=Option.some.inj (gN.symm.trans hg0)
 obtain rfl:=Option.some.inj (tN.symm.trans ht0)
 obtain ⟨xs,m1,rfl,hx1,hlen,hn,hel⟩:=DataW.trod_array Tryz.underlying265 hd0
 have c1:Tryz.prog.cellsOf 5=1:=by kernel_rfl
 have c64:Tryz.prog.cellsOf 265=64:=by kernel_rfl
 have hj:15 < cs0.toList.length:=by rw [hlen,c64];omega
 have he:=hel 15 (by omega)
 rw [c1,Nat.mul_one,cut_oneP hj,List.getElem?_eq_getElem (show 15 < xs.length by omega)] at he
 obtain ⟨k,e1,e2,_⟩:=DataW.trod_int Tryz.underlying5 he
 have ec:cs0.toList[15]=.int .u8 k:=by simpa using e1
 have hk:k=4:=by
  have hx:=congrArg Prod.fst hx1
  simp only [Rows.laid_math_bits_deBruijn64tab,DataW.agg.injEq] at hx
  have h1:(xs.map (·.1))[15]?=some (xs[15]'(by omega)).1:=by rw [List.getElem?_map,List.getElem?_eq_getElem (show 15 < xs.length by omega)];rfl
  rw [←hx,e2] at h1
  simp at h1
  omega
 unfold BzW
 rw [World.var?_cell hg0 hv0 15,←Array.getElem?_toList,List.getElem?_eq_getElem hj,ec,hk]
set_option maxRecDepth 100000 in
theorem trod_prt {n:Nat} {l:List Value} {a b c:Int} {q:List MemPlace} {W:World} {enc:TypeId×Value→Unit} {base:Nat} {sp:Nat→Bool} {held:Bool} (hl:l.length=3) (h:DataW.trod enc Tryz.prog W base sp held n 107 l=some (.agg [.lit (.int .i64 a),.lit (.int .i64 b),.lit (.int .i64 c)],q)):l=[.int .i64 a,.int .i64 b,.int .i64 c]:=by
 obtain ⟨xs,m,-,hx,-,hlen,hp⟩:=DataW.trod_struct Tryz.underlying107 h
 have h1:Tryz.prog.cellsOf 3=1:=by kernel_rfl
 match xs,l,hlen,hl,hp,hx with
 | [x0,x1,x2],[c0,c1,c2],_,_,hp,hx =>
  have p0:=hp 0 _ rfl
  have p1:=hp 1 _ rfl
  have p2:=hp 2 _ rfl
  obtain ⟨k0,e0,f0,-⟩:=DataW.trod_int Tryz.underlying3 (cs:=[c0]) p0
  obtain ⟨k1,e1,f1,-⟩:=DataW.trod_int Tryz.underlying3 (cs:=[c1]) p1
  obtain ⟨k2,e2,f2,-⟩:=DataW.trod_int Tryz.underlying3 (cs:=[c2]) p2
  subst f0 f1 f2
  simp at hx e0 e1 e2
  obtain ⟨⟨rfl,rfl,rfl⟩,-⟩:=hx
  rw [e0,e1,e2]
set_option maxRecDepth 100000 in
theorem pt_of_laid {r : List (String × DataW Unit)} {W : World} (h : laidMet Tryz.prog (("craquelure/handle.parts", Rows.laid_craquelure_handle_parts) :: r) W) : PtW W := by
 obtain ⟨ps,⟨g0,t0,cs0,f0,p0,q0,hg0,ht0,hv0,hd0,_,_⟩,_,_⟩:=h
 have gN : Tryz.prog.globalNamed "craquelure/handle.parts" = some 0 := by kernel_rfl
 have tN:(Tryz.prog.globals[0]?).map (·.type)=some 108:=by kernel_rfl
 obtain rfl:=Option.some.inj (gN.symm.trans hg0)
 obtain rfl:=Option.some.inj (tN.symm.trans ht0)
 obtain ⟨xs,m1,rfl,hx1,hlen,hn,hel⟩:=DataW.trod_array Tryz.underlying108 hd0
 have c3:Tryz.prog.cellsOf 107=3:=by kernel_rfl
 have c9:Tryz.prog.cellsOf 108=9:=by kernel_rfl
 have hl9:cs0.toList.length=9:=by rw [hlen,c9]
 have e0:=hel 0 (by omega)
 have e1:=hel 1 (by omega)
 have e2:=hel 2 (by omega)
 rw [c3] at e0 e1 e2
 match xs,hn,hx1,e0,e1,e2 with
 | [x0,x1,x2],_,hx1,e0,e1,e2 =>
  have hx:=congrArg Prod.fst hx1
  simp only [Rows.laid_craquelure_handle_parts,List.map_cons,List.map_nil,DataW.agg.injEq,List.cons.injEq,and_true] at hx
  obtain ⟨y0,y1,y2⟩:=hx
  have f0:=trod_prt (q:=x0.2) (by simp [hl9]) (e0.trans (by rw [y0];rfl))
  have f1:=trod_prt (q:=x1.2) (by simp [hl9]) (e1.trans (by rw [y1];rfl))
  have f2:=trod_prt (q:=x2.2) (by simp [hl9]) (e2.trans (by rw [y2];rfl))
  have hcs:cs0.toList=prtC 0++prtC 1++prtC 2:=by
   have h0:cs0.toList=(cs0.toList.drop (0*3)).take 3++((cs0.toList.drop (1*3)).take 3++(cs0.toList.drop (2*3)).take 3):=by
    generalize cs0.toList=l at hl9 ⊢
    match l,hl9 with
    | [_,_,_,_,_,_,_,_,_],_=>rfl
   rw [h0,f0,f1,f2]
   rfl
  intro j v hv
  rw [World.var?_cell hg0 hv0 j,←Array.getElem?_toList,hcs]
  exact hv
theorem han_of_laid {W : World} (h : laidMetH Tryz.prog [("math/bits.deBruijn32tab", Rows.laid_math_bits_deBruijn32tab), ("math/bits.deBruijn64tab", Rows.laid_math_bits_deBruijn64tab), ("internal/strconv.uint64pow10", Rows.laid_internal_strconv_uint64pow10), ("strconv.ErrRange", Rows.laid_strconv_ErrRange), ("strconv.ErrSyntax", Rows.laid_strconv_ErrSyntax), ("craquelure/handle.parts", Rows.laid_craquelure_handle_parts)] W) : HanW W := by
 rw [MakeChecks.laidMetH_plain _ _ _ (by kernel_rfl)] at h
 exact ⟨pt_of_laid h.tail.tail.tail.tail.tail,bz_of_laid h.tail,ev_of_laid h.tail.tail.tail.tail⟩
end Go.Proofs.YtpndfahgflgocaaGreatDoor

namespace Go.Proofs.YtpndfahgflgocaaGreatDoor
open Go.RowKit Go.Shelf Plain

def upK1 (E F:Value):List Value:=nodC ndD (.slice none 0 0) E++(nodC ndD (.slice none 0 0) (.slice none 0 0)++(nodC ndD (.slice none 0 0) F++(nodC nod0 (.slice none 0 0) (.slice none 0 0)++nodC nod0 (.slice none 0 0) (.slice none 0 0))))
def rsK:List Bool:=[true,false,false,true,false]
def nmK:List UInt8:=[49,48,48,48,50,48,48,48,48,48,48,51]
theorem ndD_plain:PlainN ndD:=⟨fun i e hi he=>absurd hi (by simp [ndD,nod0]),by decide,by decide,by decide,by decide,by decide,fun e he=>by simp [ndD,nod0] at he⟩
theorem ndK_plain {s i:Int} {t:List UInt8} (hs:0≤s∧s < 16) (ht:nameB t=true):PlainN {ndD with ents:=[⟨s,i,t⟩]}:=by
 refine ⟨fun j e hj he=>?_,ndD_plain.2.1,ndD_plain.2.2.1,ndD_plain.2.2.2.1,by simp,ndD_plain.2.2.2.2.2.1,fun e he=>?_⟩
 ·obtain rfl:j=0:=by have:j < 1:=hj;omega
  cases he
  exact ⟨hs.1,hs.2,fun p h=>absurd h (by omega)⟩
 ·rw [List.mem_singleton.1 he]
  exact ht
end Go.Proofs.YtpndfahgflgocaaGreatDoor

namespace Go.Proofs.YtpndfahgflgocaaGreatDoor
open Go.RowKit Go.Shelf Plain

def ndKB:NodV:={ndD with ents:=[⟨0,4,[98]⟩]}
def ndKN:NodV:={ndD with ents:=[⟨0,4,nmK⟩]}
def ndP (h s:Int):NodV:={nod0 with k:=2,n:=2,att:={att0 with h:=h,l:=1,i:=2,g:=3,s:=s}}
def upP (h s:Int):List NodV:=[ndKB,ndD,ndKN,ndP h s,nod0]
def upK3 (E F:Value) (h s:Int):List Value:=nodC ndD (.slice none 0 0) E++(nodC ndD (.slice none 0 0) (.slice none 0 0)++(nodC ndD (.slice none 0 0) F++(nodC (ndP h s) (.slice none 0 0) (.slice none 0 0)++nodC nod0 (.slice none 0 0) (.slice none 0 0))))
theorem upK_P (E F:Value) (h s:Int):splice (upK1 E F) 39 (nodC (ndP h s) (.slice none 0 0) (.slice none 0 0))=upK3 E F h s:=rfl
theorem ndPR (h s:Int) (w:World) (D:Nat→Prop):NodR w D (nodC (ndP h s) (.slice none 0 0) (.slice none 0 0)) (ndP h s):=⟨none,0,0,none,0,0,rfl,Nat.le_refl _,RdE.none_ _ _ _ _,Nat.le_refl _,RdE.none_ _ _ _ _⟩
set_option maxRecDepth 100000 in
set_option maxHeartbeats 3200000 in
theorem Kept26_b (has tt:Int) (w:World):Calls Tryz.prog 34 #[.int .i64 has,.int .i64 tt] w (StkRet w gB (upP (bits .or .i64 4 has) tt) lsB):=by
 obtain ⟨W1,hW1⟩:∃W1,(w.alloc (.cells (stkC ⟨0,0,0,0⟩ (.slice none 0 0) (.slice none 0 0)).toArray 29))=W1:=⟨_,rfl⟩
 obtain ⟨r0,hb1,hs1⟩:=rowA1 w _ _ hW1
 have hW1':(w.alloc (.cells #[.int .i64 0,.int .i64 0,.int .i64 0,.int .i64 0,.slice none 0 0,.slice none 0 0] 29))=W1:=hW1
 have R4:=hide r0
 have HB:=hide hb1
 have hsz0:=hb1.size
 clear r0 hb1 hW1
 go_enter Tryz.func34,Tryz.ntmps34
 go_wp2_with (first|(go_at_call 35;refine (Base_oX W1).mono ?_;rintro e1 wB ⟨g0,AL,nL,cL,rfl,hrow,hlay,hg0,hbel⟩;have hg0l:=hrow.lt;replace HB:=hide (HB.out.trans (hbel.mono HB.out.size));replace R4:=hide (R4.out.on hbel);have hsz2:=hbel.size;have HG:=hide hrow;clear hrow;have HLY:=hide hlay;clear hlay;clear hbel)|(refine wpList_storeW rfl 29 (.tmp 5) (.tmp 6) rfl 6 stk_size (wB.heap.size) 29 rfl (stkC ⟨0,0,0,0⟩ (.slice none 0 0) (.slice none 0 0)) (stkC gB (.slice (some ⟨g0,0,none⟩) 5 5) (.slice AL nL cL)) rfl (RowL.new wB 29 (stkC ⟨0,0,0,0⟩ (.slice none 0 0) (.slice none 0 0))) rfl rfl (stkC_oneX _ _ _ _ _ _ _) ?_;intro wS3 hr3 hg3 hs3;have hzb:=below_stored' hg3;replace HB:=hide (HB.out.trans (hzb.mono HB.out.size));replace R4:=hide (R4.out.on hzb);replace HG:=hide (HG.out.on hzb);replace HLY:=hide (btw_onX HLY.out hzb (by omega));have hsz4:=hzb.size;have R5:=hide hr3;have hlt3:=hr3.lt;have q5_4:wS3.cell? ⟨wB.heap.size,4,none⟩=some (.slice (some ⟨g0,0,none⟩) 5 5):=R5.out.cell 4;clear hzb hr3;clear hg3 hs3)|(refine wpList_storeV rfl 45 (.tmp 13) (.tmp 11) rfl ens_size g0 5 51 rfl (.slice (some ⟨wS3.heap.size,0,none⟩) 1 1) rfl rfl rfl upCX (HG.out.on (below_new (below_self wS3) (.cells #[.int .i64 0,.int .i64 4,.string ⟨#[98]⟩] 31))) (show 5 < 65 from by decide) ?_;intro w5 hr5 hg5 hs5;replace hr5:RowL w5 g0 51 (upC1X (.slice (some ⟨wS3.heap.size,0,none⟩) 1 1)):=hr5;have hbe:=(below_new (below_self wS3) (.cells #[.int .i64 0,.int .i64 4,.string ⟨#[98]⟩] 31));have hbs:=hbe.size;have HG5:=hide hr5;have HB5:=hide ((HB.out.trans (hbe.mono HB.out.size)).grown hg5 (by omega) (pu4 (by omega)));have R45:=hide ((R4.out.on hbe).grown hg5 (pu5 (by omega)));have R55:=hide ((R5.out.on hbe).grown hg5 (pu5 (by omega)));have HE5:=hide ((RowL.new wS3 31 (cellsE ⟨0,4,[98]⟩)).grown hg5 (pu5 (by omega)));have HL5:=hide (btw_grownX (btw_onX HLY.out hbe (by omega)) hg5 (by omega) (by omega));have hs5l:=hg5.size;have q4:w5.cell? ⟨wB.heap.size,4,none⟩=some (.slice (some ⟨g0,0,none⟩) 5 5):=R55.out.cell 4;clear hr5 hg5 hs5 hbe HG R4 R5 HLY HB)|(refine wpList_storeV rfl 45 (.tmp 20) (.tmp 18) rfl ens_size g0 31 51 rfl (.slice (some ⟨w5.heap.size,0,none⟩) 1 1) rfl rfl rfl (upC1X (.slice (some ⟨wS3.heap.size,0,none⟩) 1 1)) (HG5.out.on (below_new (below_self w5) (.cells #[.int .i64 0,.int .i64 4,.string ⟨#[49,48,48,48,50,48,48,48,48,48,48,51]⟩] 31))) (show 31 < 65 from by decide) ?_;intro wU hrU hgU hsU;replace hrU:RowL wU g0 51 (upK1 (.slice (some ⟨wS3.heap.size,0,none⟩) 1 1) (.slice (some ⟨w5.heap.size,0,none⟩) 1 1)):=hrU;have hbe:=(below_new (below_self w5) (.cells #[.int .i64 0,.int .i64 4,.string ⟨#[49,48,48,48,50,48,48,48,48,48,48,51]⟩] 31));have hbsU:=hbe.size;have HGU:=hide hrU;have HBU:=hide ((HB5.out.trans (hbe.mono HB5.out.size)).grown hgU (by omega) (pu4 (by omega)));have R4U:=hide ((R45.out.on hbe).grown hgU (pu5 (by omega)));have R5U:=hide ((R55.out.on hbe).grown hgU (pu5 (by omega)));have HEU:=hide ((HE5.out.on hbe).grown hgU (pu5 (by omega)));have HFU:=hide ((RowL.new w5 31 (cellsE ⟨0,4,nmK⟩)).grown hgU (pu5 (by omega)));have HLU:=hide (btw_grownX (btw_onX HL5.out hbe (by omega)) hgU (by omega) (by omega));have hsUl:=hgU.size;have q4:wU.cell? ⟨wB.heap.size,4,none⟩=some (.slice (some ⟨g0,0,none⟩) 5 5):=R5U.out.cell 4;clear hrU hgU hsU hbe HG5 R45 R55 HL5 HB5 HE5)|(refine wpList_storeC rfl 51 (.tmp 30) (.tmp 29) rfl 13 nod_size g0 39 51 rfl (upK1 (.slice (some ⟨wS3.heap.size,0,none⟩) 1 1) (.slice (some ⟨w5.heap.size,0,none⟩) 1 1)) (nodC (ndP (bits .or .i64 4 has) tt) (.slice none 0 0) (.slice none 0 0)) rfl HGU.out rfl (show 39+13≤65 from (by decide)) (nodC_one _ _ _ _ _ _ _) ?_;intro w6 hr6 hg6 hs6;rw [upK_P] at hr6;have HG6:=hide hr6;have HB6:=hide (HBU.out.grown hg6 HBU.out.size (pu4 (by omega)));have R46:=hide (R4U.out.grown hg6 (pu5 (by omega)));have R56:=hide (R5U.out.grown hg6 (pu5 (by omega)));have HE6:=hide (HEU.out.grown hg6 (pu5 (by omega)));have HF6:=hide (HFU.out.grown hg6 (pu5 (by omega)));have HL6:=hide (btw_grownX HLU.out hg6 (by omega) (by omega));have hs6l:=hg6.size;clear hr6 hg6 hs6)|(refine wpList_loadW rfl 29 (.tmp 5) rfl 6 stk_agg stk_size (wB.heap.size) 29 rfl (stkC gB (.slice (some ⟨g0,0,none⟩) 5 5) (.slice AL nL cL)) R56.out rfl ?_)|(refine wpList_storeW rfl 29 (.tmp 4) (.tmp 31) rfl 6 stk_size (w.heap.size) 29 rfl (stkC ⟨0,0,0,0⟩ (.slice none 0 0) (.slice none 0 0)) (stkC gB (.slice (some ⟨g0,0,none⟩) 5 5) (.slice AL nL cL)) rfl R46.out rfl rfl (stkC_oneX _ _ _ _ _ _ _) ?_;intro w7 hr7 hg7 hs7;have HR7:=hide hr7;have HG7:=hide (HG6.out.grown hg7 (pu5 (by omega)));have HB7:=hide (HB6.out.grown hg7 HB6.out.size (pu4 (by omega)));have HE7:=hide (HE6.out.grown hg7 (pu5 (by omega)));have HF7:=hide (HF6.out.grown hg7 (pu5 (by omega)));have HL7:=hide (RdE.mono (btw_grownX HL6.out hg7 (by omega) (by omega)) (w':=w7) (D':=Under w7.heap.size) (fun _ _=>rfl) (fun b hb=>by have:=hg7.size;unfold Under;omega));have hs7l:=hg7.size;clear hr7 hg7 hs7))
 have u7:RdE nodEn w7 (Under w7.heap.size) (some ⟨g0,0,none⟩) 5 (upP (bits .or .i64 4 has) tt):=nods_row HG7.out HG7.out.lt ⟨none,0,0,_,1,1,rfl,Nat.le_refl _,RdE.none_ _ _ _ _,Nat.le_refl _,ent_row (l:=[⟨0,4,[98]⟩]) HE7.out HE7.out.lt⟩ (ndDR _ _) ⟨none,0,0,_,1,1,rfl,Nat.le_refl _,RdE.none_ _ _ _ _,Nat.le_refl _,ent_row (l:=[⟨0,4,nmK⟩]) HF7.out HF7.out.lt⟩ (ndPR _ _ _ _) (nod0R _ _)
 exact bodyPost_ret (res_cell Tryz.results34 rfl stk_agg stk_size HR7.out rfl) rfl ⟨_,_,_,AL,nL,cL,rfl,u7,HL7.out,HB7.out⟩
theorem Kept26_any {has hh tt:Int} (h:bits .or .i64 4 has=hh) (w:World):Calls Tryz.prog 34 #[.int .i64 has,.int .i64 tt] w (StkRet w gB (upP hh tt) lsB):=by
 rw [←h]
 exact Kept26_b has tt w
theorem or_40:bits .or .i64 4 0=4:=by decide +kernel
theorem or_48:bits .or .i64 4 8=12:=by decide +kernel
theorem awP_r0:reachL (upP 4 0) (walkW (upP 4 0) [1]).1=rsK:=by decide +kernel
theorem awP_r1:reachL (upP 12 1) (walkW (upP 12 1) [1]).1=rsK:=by decide +kernel
theorem awP_r2:reachL (upP 12 2) (walkW (upP 12 2) [1]).1=rsK:=by decide +kernel
theorem awP_rb:reachL upB (walkW upB [1]).1=[true,false,false,false,false]:=by decide +kernel
theorem awP_wb:wantK upB lsB [true,false,false,false,false] 4=(0,false):=wantK_free (x:=nod0) rfl (by decide) (by decide)
def shP:List ShnV:=[([47,97],2,(1,2)),([47,98],2,(0,4))]
theorem awP_t0:tourS (upP 4 0) lsB 1=([((1,[(1,1)]),[])],shP):=by kernel_rfl
theorem awP_t1:tourS (upP 12 1) lsB 1=([((1,[(1,1)]),[])],shP):=by kernel_rfl
theorem awP_t2:tourS (upP 12 2) lsB 1=([((1,[(1,1)]),[])],shP):=by kernel_rfl
theorem awP_all {up:List NodV} (ht:tourS up lsB 1=([((1,[(1,1)]),[])],shP)):allS up lsB=shP:=by
 unfold allS
 rw [if_neg (by rw [aw_tang];simp)]
 have h:=tour_end (up:=up) (ls:=lsB) (k:=1) (by rw [ht];simp) 1799
 rw [show 1+1799=1800 from rfl] at h
 rw [h,ht]
theorem awP_cnt:(min (cntS shP (1,2):Int) 65535)=1:=by decide +kernel
theorem awP_i0:inX (upP 4 0) lsB rsK 4=true:=by decide +kernel
theorem awP_i1:inX (upP 12 1) lsB rsK 4=true:=by decide +kernel
theorem awP_i2:inX (upP 12 2) lsB rsK 4=true:=by decide +kernel
theorem wantP {h s:Int} (ht:tourS (upP h s) lsB 1=([((1,[(1,1)]),[])],shP)) (hi:inX (upP h s) lsB rsK 4=true):wantK (upP h s) lsB rsK 4=(1,true):=by
 have h1:wantK (upP h s) lsB rsK 4=_:=wantK_at (x:=ndP h s) (i:=4) (j:=3) (r:=true) (b:=true) rfl (.inl rfl) rfl rfl hi
 rw [h1,awP_all ht]
 show ((min (cntS shP (1,2):Int) 65535),true)=_
 rw [awP_cnt]
theorem findP {h s:Int} {b:Bool} (ht:tourS (upP h s) lsB 1=([((1,[(1,1)]),[])],shP)) (hi:inX (upP h s) lsB rsK 4=true) (hb:rightK (ndP h s) (1,true)=b):findK (upP h s) lsB rsK rsK.length=if b=true then [] else [⟨20,0,4,-1⟩]:=by
 have h0:wantK (upP h s) lsB rsK 1=(0,false):=wantK_free (x:=ndKB) rfl (by decide) (by decide)
 have e4:findK (upP h s) lsB rsK 5=findK (upP h s) lsB rsK 4:=findK_skip (j:=4) rfl
 have e1:findK (upP h s) lsB rsK 1=findK (upP h s) lsB rsK 0:=findK_ok (j:=0) (by show rightK (nodAt (upP h s) 1) (wantK (upP h s) lsB rsK 1)=true;rw [h0];rfl)
 have e2:findK (upP h s) lsB rsK 2=findK (upP h s) lsB rsK 1:=findK_skip (j:=1) rfl
 have e3:findK (upP h s) lsB rsK 3=findK (upP h s) lsB rsK 2:=findK_skip (j:=2) rfl
 have hr:rightK (nodAt (upP h s) (((3:Nat):Int)+1)) (wantK (upP h s) lsB rsK (((3:Nat):Int)+1))=b:=by
  show rightK (ndP h s) (wantK (upP h s) lsB rsK 4)=b
  rw [wantP ht hi];exact hb
 show findK (upP h s) lsB rsK 5=_
 rw [e4]
 cases b with
 | true=>rw [findK_ok (j:=3) hr,e3,e2,e1];rfl
 | false=>rw [findK_bad (j:=3) rfl hr,e3,e2,e1];rfl
theorem awP_w:wantK (upP 4 0) lsB rsK 4=(1,true):=wantP awP_t0 awP_i0
theorem awP_f0:findK (upP 4 0) lsB rsK rsK.length=[⟨20,0,4,-1⟩]:=by rw [findP awP_t0 awP_i0 (b:=false) (by decide +kernel)];rfl
theorem awP_f1:findK (upP 12 1) lsB rsK rsK.length=[]:=by rw [findP awP_t1 awP_i1 (b:=true) (by decide +kernel)];rfl
theorem awP_f2:findK (upP 12 2) lsB rsK rsK.length=[⟨20,0,4,-1⟩]:=by rw [findP awP_t2 awP_i2 (b:=false) (by decide +kernel)];rfl
theorem ndP_plain {h s:Int} (hh:0≤h∧h≤31):PlainN (ndP h s):=⟨fun i e hi he=>absurd hi (by simp [ndP,nod0]),by simp [ndP],hh,by simp [ndP,nod0],by simp [ndP,nod0],by simp [ndP,att0],fun e he=>by simp [ndP,nod0] at he⟩
theorem upP_few {h s:Int} (hh:0≤h∧h≤31):FewU (upP h s):=by
 refine ⟨by simp [upP],fun x hx=>?_⟩
 simp only [upP,List.mem_cons,List.not_mem_nil,or_false] at hx
 rcases hx with rfl|rfl|rfl|rfl|rfl
 ·exact ndK_plain (by decide) (by decide)
 ·exact ndD_plain
 ·exact ndK_plain (by decide) (by decide)
 ·exact ndP_plain hh
 ·exact plain0
set_option maxRecDepth 100000 in
set_option maxHeartbeats 8000000 in
theorem awake26_any (w:World) (hw:HanW w):Calls Tryz.prog 15 #[] w (LawOk w):=by
 have HB:=hide (below_self w)
 have HW:=hide hw
 have hlit:=fun W=>litX_fin 20 0 4 (-1) W
 clear hw
 go_enter Tryz.func15,Tryz.ntmps15
 go_upto_region 2 with (first|(go_at_call 34;refine (Kept26_any or_40 w).mono ?_;rintro e1 wK1 ⟨AU1,nU1,cU1,AL1,nL1,cL1,rfl,hu,hl,hbel⟩;replace HB:=hide (HB.out.trans (hbel.mono HB.out.size));replace HW:=hide (HW.out.below hbel);have hsz2:=hbel.size;have HU1:=hide hu;clear hu;have HL1:=hide hl;clear hl;clear hbel)|(go_at_call 16;refine (KWant_any (g:=gB) awP_r0 awP_w wK1 HU1.out HL1.out (by omega) ba_few (upP_few (h:=4) (by decide)) HW.out).mono ?_;rintro e3 wN1 ⟨rfl,hbel⟩;replace HB:=hide (HB.out.trans (hbel.mono HB.out.size));replace HW:=hide (HW.out.below hbel);replace HU1:=hide (HU1.out.under hbel (by omega));replace HL1:=hide (HL1.out.under hbel (by omega));have hsz4:=hbel.size;clear hbel))
 go_upto_region 3 with (first|(go_at_call 35;refine (Base_any wN1).mono ?_;rintro e5 wB ⟨BU,mU,dU,BL,mL,dL,rfl,hu,hl,hbel⟩;replace HB:=hide (HB.out.trans (hbel.mono HB.out.size));replace HW:=hide (HW.out.below hbel);replace HU1:=hide (HU1.out.under hbel (by omega));replace HL1:=hide (HL1.out.under hbel (by omega));have hsz6:=hbel.size;have HU2:=hide hu;clear hu;have HL2:=hide hl;clear hl;clear hbel)|(go_at_call 16;refine (KWant_any (g:=gB) awP_rb awP_wb wB HU2.out HL2.out (by omega) ba_few buF_few HW.out).mono ?_;rintro e7 wN2 ⟨rfl,hbel⟩;replace HB:=hide (HB.out.trans (hbel.mono HB.out.size));replace HW:=hide (HW.out.below hbel);replace HU1:=hide (HU1.out.under hbel (by omega));replace HL1:=hide (HL1.out.under hbel (by omega));replace HU2:=hide (HU2.out.under hbel (by omega));replace HL2:=hide (HL2.out.under hbel (by omega));have hsz8:=hbel.size;clear hbel))
 go_upto_region 4 with fail
 have hba:=below_new (below_self wN2) (.cells #[.int .i64 20,.int .i64 0,.int .i64 4,.int .i64 (-1)] 37)
 have HLT:=hide (show RdE finEn (wN2.alloc (.cells #[.int .i64 20,.int .i64 0,.int .i64 4,.int .i64 (-1)] 37)) (Under (wN2.alloc (.cells #[.int .i64 20,.int .i64 0,.int .i64 4,.int .i64 (-1)] 37)).heap.size) (some ⟨wN2.heap.size,0,none⟩) 1 [⟨20,0,4,-1⟩] from (encX_lit1 (finX_R ⟨20,0,4,-1⟩) wN2 37 (lo:=0) (Nat.zero_le _)).mono (fun _ _=>rfl) (fun _ h=>h.2))
 replace HB:=hide (HB.out.trans (hba.mono HB.out.size))
 replace HW:=hide (HW.out.below hba)
 clear hba
 generalize wN2.alloc (.cells #[.int .i64 20,.int .i64 0,.int .i64 4,.int .i64 (-1)] 37)=wQ at *
 go_wp2_with fail
 go_at_call 34
 refine (Kept26_any or_48 wQ).mono ?_
 rintro e9 wK3 ⟨AU3,nU3,cU3,AL3,nL3,cL3,rfl,hu,hl,hbel⟩
 replace HB:=hide (HB.out.trans (hbel.mono HB.out.size))
 replace HW:=hide (HW.out.below hbel)
 replace HLT:=hide (HLT.out.under hbel (by omega))
 have hsz10:=hbel.size
 have HU3:=hide hu
 clear hu
 have HL3:=hide hl
 clear hl
 clear hbel
 go_wp2_with fail
 go_at_call 18
 refine (KFinds_p (g:=gB) (n:=0) awP_r1 awP_f1 rfl wK3 HU3.out HL3.out (by omega) ba_few (upP_few (h:=12) (by decide)) HW.out).mono ?_
 rintro e11 wF3 ⟨A3,c3,rfl,h3,hbel⟩
 clear h3
 replace HB:=hide (HB.out.trans (hbel.mono HB.out.size))
 replace HW:=hide (HW.out.below hbel)
 replace HLT:=hide (HLT.out.under hbel (by omega))
 replace HU3:=hide (HU3.out.under hbel (by omega))
 replace HL3:=hide (HL3.out.under hbel (by omega))
 have hsz12:=hbel.size
 clear hbel
 go_wp2_with fail
 go_at_call 34
 refine (Kept26_any or_48 wF3).mono ?_
 rintro e13 wK4 ⟨AU4,nU4,cU4,AL4,nL4,cL4,rfl,hu,hl,hbel⟩
 replace HB:=hide (HB.out.trans (hbel.mono HB.out.size))
 replace HW:=hide (HW.out.below hbel)
 replace HLT:=hide (HLT.out.under hbel (by omega))
 replace HU3:=hide (HU3.out.under hbel (by omega))
 replace HL3:=hide (HL3.out.under hbel (by omega))
 have hsz14:=hbel.size
 have HU4:=hide hu
 clear hu
 have HL4:=hide hl
 clear hl
 clear hbel
 go_wp2_with fail
 go_at_call 18
 refine (KFinds_p (g:=gB) (n:=1) awP_r2 awP_f2 rfl wK4 HU4.out HL4.out (by omega) ba_few (upP_few (h:=12) (by decide)) HW.out).mono ?_
 rintro e15 wF4 ⟨A4,c4,rfl,h4,hbel⟩
 replace HB:=hide (HB.out.trans (hbel.mono HB.out.size))
 replace HW:=hide (HW.out.below hbel)
 replace HLT:=hide (HLT.out.under hbel (by omega))
 replace HU3:=hide (HU3.out.under hbel (by omega))
 replace HL3:=hide (HL3.out.under hbel (by omega))
 replace HU4:=hide (HU4.out.under hbel (by omega))
 replace HL4:=hide (HL4.out.under hbel (by omega))
 have hsz16:=hbel.size
 have HF4:=hide h4
 clear h4
 clear hbel
 go_wp2_with fail
 go_at_call 8
 refine (EqualFin_same (L:=[⟨20,0,4,-1⟩]) _ (und_up HF4.out (by omega)) (und_up HLT.out (by omega)) (by omega)).mono ?_
 rintro e99 wE1 ⟨rfl,hbel⟩
 replace HB:=hide (HB.out.trans (hbel.mono HB.out.size))
 replace HW:=hide (HW.out.below hbel)
 replace HLT:=hide (HLT.out.under hbel (by omega))
 replace HU3:=hide (HU3.out.under hbel (by omega))
 replace HL3:=hide (HL3.out.under hbel (by omega))
 replace HU4:=hide (HU4.out.under hbel (by omega))
 replace HL4:=hide (HL4.out.under hbel (by omega))
 replace HF4:=hide (HF4.out.under hbel (by omega))
 have hsz17:=hbel.size
 clear hbel
 go_wp2_with fail
 go_at_call 34
 refine (Kept26_any or_40 wE1).mono ?_
 rintro e18 wK5 ⟨AU5,nU5,cU5,AL5,nL5,cL5,rfl,hu,hl,hbel⟩
 replace HB:=hide (HB.out.trans (hbel.mono HB.out.size))
 replace HW:=hide (HW.out.below hbel)
 replace HLT:=hide (HLT.out.under hbel (by omega))
 replace HU3:=hide (HU3.out.under hbel (by omega))
 replace HL3:=hide (HL3.out.under hbel (by omega))
 replace HU4:=hide (HU4.out.under hbel (by omega))
 replace HL4:=hide (HL4.out.under hbel (by omega))
 replace HF4:=hide (HF4.out.under hbel (by omega))
 have hsz19:=hbel.size
 have HU5:=hide hu
 clear hu
 have HL5:=hide hl
 clear hl
 clear hbel
 go_wp2_with fail
 go_at_call 18
 refine (KFinds_p (g:=gB) (n:=1) awP_r0 awP_f0 rfl wK5 HU5.out HL5.out (by omega) ba_few (upP_few (h:=4) (by decide)) HW.out).mono ?_
 rintro e20 wF5 ⟨A5,c5,rfl,h5,hbel⟩
 replace HB:=hide (HB.out.trans (hbel.mono HB.out.size))
 replace HW:=hide (HW.out.below hbel)
 replace HLT:=hide (HLT.out.under hbel (by omega))
 replace HU3:=hide (HU3.out.under hbel (by omega))
 replace HL3:=hide (HL3.out.under hbel (by omega))
 replace HU4:=hide (HU4.out.under hbel (by omega))
 replace HL4:=hide (HL4.out.under hbel (by omega))
 replace HF4:=hide (HF4.out.under hbel (by omega))
 replace HU5:=hide (HU5.out.under hbel (by omega))
 replace HL5:=hide (HL5.out.under hbel (by omega))
 have hsz21:=hbel.size
 have HF5:=hide h5
 clear h5
 clear hbel
 go_wp2_with fail
 go_at_call 8
 refine (EqualFin_same (L:=[⟨20,0,4,-1⟩]) _ (und_up HF5.out (by omega)) (und_up HLT.out (by omega)) (by omega)).mono ?_
 rintro e99 wE2 ⟨rfl,hbel⟩
 replace HB:=hide (HB.out.trans (hbel.mono HB.out.size))
 replace HW:=hide (HW.out.below hbel)
 replace HLT:=hide (HLT.out.under hbel (by omega))
 replace HU3:=hide (HU3.out.under hbel (by omega))
 replace HL3:=hide (HL3.out.under hbel (by omega))
 replace HU4:=hide (HU4.out.under hbel (by omega))
 replace HL4:=hide (HL4.out.under hbel (by omega))
 replace HF4:=hide (HF4.out.under hbel (by omega))
 replace HU5:=hide (HU5.out.under hbel (by omega))
 replace HL5:=hide (HL5.out.under hbel (by omega))
 replace HF5:=hide (HF5.out.under hbel (by omega))
 have hsz22:=hbel.size
 clear hbel
 go_wp2_with fail
 go_ret
 exact LawOk.of HB.out
end Go.Proofs.YtpndfahgflgocaaGreatDoor

