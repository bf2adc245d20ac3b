import Derived.Test.YtpndfahgflgocaaGreatDoorLn14
import Derived.Test.YtpndfahgflgocaaGreatDoorLn10
import Derived.Test.YtpndfahgflgocaaGreatDoorLn11
import Derived.Lib.SlicesCompact
import Derived.Sort.Row
import Derived.Test.YtpndfahgflgocaaGreatDoorLn9
import Derived.Sort.OwnSorted
import Derived.Lib.RowBridge
import Derived.Test.YtpndfahgflgocaaGreatDoorLn8
import Derived.BigQuiet
import Derived.Deep.QuietTactic
import Derived.Test.YtpndfahgflgocaaGreatDoorLn5

namespace Go.Proofs.YtpndfahgflgocaaGreatDoor
open Go.RowKit Go.Shelf Plain

theorem pr_strong {w:World} {D D':Nat→Prop} {A:Option Addr} {n:Nat} {l:List (Int×Int)} (h:RdE prEn w D A n l) (hA:0 < n→∀b o,A=some ⟨b,o,none⟩→D' b):RdE prEn w D' A n l:=by
 refine ⟨h.1,fun hn=>?_⟩
 obtain ⟨b,o,e,hb,hc⟩:=h.2 hn
 exact ⟨b,o,e,hA hn b o e,fun i x hx=>by
  obtain ⟨cs,hcs,hcell⟩:=hc i x hx
  exact ⟨cs,hcs,hcell⟩⟩
def PlcsF (w:World) (l:List (Int×Int)) (e:Ending) (w':World):Prop:=∃A c,e=.returned (.slice A l.length c)∧RdE prEn w' (fun b=>w.heap.size≤b∧b < w'.heap.size) A l.length l∧Below w.heap.size w w'
set_option maxRecDepth 100000 in
set_option maxHeartbeats 1600000 in
theorem PClone_f {A:Option Addr} {n c:Nat} {l:List (Int×Int)} (w:World) (h:RdE prEn w (Under w.heap.size) A n l) (hn:n≤100000):Calls Tryz.prog 197 #[.slice A n c] w (PlcsF w l):=by
 obtain rfl:n=l.length:=h.1.symm
 cases A with
 | none =>
  have h0:l.length=0:=by
   rcases Nat.eq_zero_or_pos l.length with h0|h0
   ·exact h0
   ·obtain ⟨_,_,e,_⟩:=h.2 h0;cases e
  have hnil:=fun W=>Lib.run_eql_slice_nil (P:=Tryz.prog) W 118 75 none l.length c 0 0 Tryz.underlying118
  have H:=hide h
  clear h h0
  go_enter Tryz.func197,Tryz.ntmps197
  go_wp2
  go_ret
  have h0:l=[]:=by
   rcases Nat.eq_zero_or_pos l.length with h0|h0
   ·exact List.eq_nil_of_length_eq_zero h0
   ·obtain ⟨_,_,e,_⟩:=H.out.2 h0;cases e
  subst h0
  exact ⟨none,0,rfl,RdE.none_ _ _ _ _,below_self _⟩
 | some a =>
  have hnil:=fun W=>Lib.run_eql_slice_nil (P:=Tryz.prog) W 118 75 (some a) l.length c 0 0 Tryz.underlying118
  have hba:=below_new (below_self w) (.cells #[] 75)
  have HS:=hide (h.mono (Kept.of_below hba (fun _ hb=>hb)) (fun _ hb=>hb):RdE prEn (w.alloc (.cells #[] 75)) (Under w.heap.size) (some a) l.length l)
  have HOE:=hide (OwE.empty prEn w 75)
  have HBUT:=hide (fun b (hb:Under w.heap.size b)=>(show But (w.alloc (.cells #[] 75)) (some ⟨w.heap.size,0,none⟩) b from ⟨⟨by unfold Under at hb;simp;omega,fun _ _ _ _=>rfl⟩,fun a ha e=>by cases ha;unfold Under at hb;simp at e;omega⟩))
  have HBA:=hide hba
  clear h hba
  go_enter Tryz.func197,Tryz.ntmps197
  go_wp2_with (at_builtin;refine wpList_append_OwE _ rfl (.tmp 5) (.tmp 6) 118 rfl w.heap.size 75 zpr 16 Tryz.underlying118 plc_info rfl (by decide) (some ⟨w.heap.size,0,none⟩) 0 0 [] rfl HOE.out (Under w.heap.size) (some a) l.length c l rfl HS.out HBUT.out l.length (by omega) (by omega) (by omega) (by simp) ?_;intro A5 c5 w5 ho5 hb5;have HO5:=hide ho5;have HB5:=hide hb5;clear ho5 hb5)
  go_ret
  exact ⟨A5,c5,rfl,pr_strong (HO5.out.rd rfl).plain (fun h0 b o e=>by
   obtain ⟨css,how,-,-⟩:=HO5.out
   have hbb:=(HO5.out.rd rfl).plain.2 h0
   obtain ⟨b',o',e',hlt,-⟩:=hbb
   rcases how.2 with ⟨_,h0'⟩|⟨g,cap,cur,he,hb,hg,_⟩
   ·omega
   ·rw [e] at he;rw [e] at e';simp only [Value.slice.injEq,Option.some.injEq,Addr.mk.injEq] at he e';obtain ⟨rfl,-⟩:=e';obtain ⟨⟨rfl,-⟩,-⟩:=he;exact ⟨by omega,hlt⟩),HBA.out.trans HB5.out⟩
def lookL (ls : List (List NodV)) : List (Int × Int) → List (List UInt8) → Option (List (Int × Int))
 | l,[]=>some l
 | l,x::r=>if (findL ls x l []).1=1 then lookL ls (findL ls x l []).2 r else none
def LookF (lo:Nat) (w:World) (o:Option (List (Int×Int))) (e:Ending) (w':World):Prop:=∃A n c,e=.returned (.tuple #[.slice A n c,.bool o.isSome])∧RdE prEn w' (fun b=>lo≤b∧b < w'.heap.size) A n (o.getD [])∧Below w.heap.size w w'
theorem Find_e {g:GeoQ} {AU AL AP:Option Addr} {nU cU nL cL n cP:Nat} {ls:List (List NodV)} {l:List (Int×Int)} {nm:List UInt8} {B:Nat} {R:Int×List (Int×Int)} (hR:findL ls nm l []=R) (w:World) (h:RdE layEn w (Under B) AL nL ls) (hp:RdE prEn w (Under w.heap.size) AP n l) (hB:B≤w.heap.size) (hF:FewL ls) (hn:n≤1000) :
  Calls Tryz.prog 147 #[.agg (stkC g (.slice AU nU cU) (.slice AL nL cL)).toArray,.slice AP n cP,.string ⟨nm.toArray⟩] w (FindRet w R):=by rw [←hR];exact Find_any w h hp hB hF hn
set_option maxRecDepth 100000 in
set_option maxHeartbeats 8000000 in
theorem Look_f {g:GeoQ} {AU AL AP AN:Option Addr} {nU cU nL cL n cP m cN:Nat} {ls:List (List NodV)} {l:List (Int×Int)} {names:List (List UInt8)} {B:Nat} (w:World) (h:RdE layEn w (Under B) AL nL ls) (hp:RdE prEn w (Under w.heap.size) AP n l) (hs:Rd st w w.heap.size AN m names) (hB:B≤w.heap.size) (hF:FewL ls) (hn:n≤1000) (hm1:m≤1000) :
  Calls Tryz.prog 182 #[.agg (stkC g (.slice AU nU cU) (.slice AL nL cL)).toArray,.slice AP n cP,.slice AN m cN] w (LookF w.heap.size w (lookL ls l names)):=by
 have r0:=RowL.new w 29 (stkC g (.slice AU nU cU) (.slice AL nL cL))
 have hb1:=below_new (below_self w) (.cells (stkC g (.slice AU nU cU) (.slice AL nL cL)).toArray 29)
 obtain ⟨W1,hW1⟩:∃W1,w.alloc (.cells (stkC g (.slice AU nU cU) (.slice AL nL cL)).toArray 29)=W1:=⟨_,rfl⟩
 rw [hW1] at r0 hb1
 have hW1':w.alloc (.cells #[.int .i64 g.a,.int .i64 g.b,.int .i64 g.c,.int .i64 g.d,.slice AU nU cU,.slice AL nL cL] 29)=W1:=hW1
 have R0:=hide r0
 have HB1:=hide hb1
 have hs1:=hb1.size
 have HL:=hide (h.under hb1 hB)
 have HP:=hide (hp.on hb1)
 have HPL:=hide hp.1
 have HS:=hide (hs.on hb1)
 have HSL:=hide hs.len
 have HF:=hide hF
 obtain ⟨R0L,hR⟩:∃R0L,lookL ls l names=R0L:=⟨_,rfl⟩
 rw [hR]
 have HR:=hide hR
 have hB1:B≤W1.heap.size:=by omega
 unfold stkC
 clear r0 hb1 hW1 h hp hs hF hR
 go_enter Tryz.func182,Tryz.ntmps182
 go_wp2_with fail
 clear hW1'
 refine (PClone_f W1 HP.out (by omega)).mono ?_
 rintro ez w2 ⟨A2,c2,rfl,hr2,hb2⟩
 have HR2:=hide (hr2.mono (fun _ _=>rfl) (fun b hb=>⟨Nat.le_trans hs1 hb.1,hb.2⟩):RdE prEn w2 (fun b=>w.heap.size≤b∧b < w2.heap.size) A2 l.length l)
 have HB2:=hide hb2
 have HLE:=hide (show l.length≤n from by have:=HPL.out;omega)
 clear hr2 hb2
 go_wp2_with fail
 go_loopw [8,17] (fun v8 v17 wr=>∃(j:Nat) (cur:List (Int×Int)) (A:Option Addr) (n8 c:Nat),j≤m∧v17=.int .i64 j∧v8=.slice A n8 c∧n8≤n∧cur.length≤n∧RdE prEn wr (fun b=>w.heap.size≤b∧b < wr.heap.size) A n8 cur∧Below W1.heap.size W1 wr∧lookL ls cur (names.drop j)=R0L) (fun _ v17 _=>m - (intOf v17).toNat)
 case atStart=>exact ⟨0,l,A2,_,c2,by omega,rfl,rfl,HLE.out,HLE.out,HR2.out,HB2.out,by rw [List.drop_zero];exact HR.out⟩
 case round =>
  obtain ⟨j,cur,A,n8,c,hj,rfl,rfl,hn8,hcl,hcur,hbr,hlk⟩:=hrel
  have HCF:=hide hcur
  have HCUR:=hide (hcur.mono (fun _ _=>rfl) (fun b hb=>hb.2):RdE prEn wr (Under wr.heap.size) A n8 cur)
  have HBR:=hide hbr
  have HLK:=hide hlk
  have hbsz:=hbr.size
  have R0r:=hide (R0.out.on hbr)
  have HLr:=hide (fun W (hb:Below wr.heap.size wr W)=>HL.out.under (hbr.trans (hb.mono hbsz)) hB1)
  clear hcur hbr hlk
  by_cases hlt:j < m
  ·obtain ⟨x,hx⟩:∃x,names[j]?=some x:=⟨_,List.getElem?_eq_getElem (by have:=HSL.out;omega)⟩
   obtain ⟨bS,oS,rfl,hbS,hcS⟩:=HS.out.2 (by omega)
   have hqS:=hcS j x hx
   have HQS:=hide (fun W (hb:Below wr.heap.size wr W)=>show W.cell? ⟨bS,oS+j,none⟩=some (.string ⟨x.toArray⟩) from ((HBR.out.trans (hb.mono hbsz)).cell (p:=⟨bS,oS+j,none⟩) hbS).trans hqS)
   have HDR:=hide (show names.drop j=x::names.drop (j+1) from by
    have hjl:=(List.getElem?_eq_some_iff.1 hx).1
    rw [List.drop_eq_getElem_cons hjl,(List.getElem?_eq_some_iff.1 hx).2])
   obtain ⟨R,hRR⟩:∃R,findL ls x cur []=R:=⟨_,rfl⟩
   have hRl:R.2.length≤n:=by have:=findL_len ls x cur [];rw [hRR] at this;simp at this;omega
   have HRR:=hide hRR
   have e:=HLK.out
   rw [HDR.out] at e
   unfold lookL at e
   rw [hRR] at e
   obtain ⟨bk,hbk⟩:∃bk,(R.1 != 1)=bk:=⟨_,rfl⟩
   have HE:=hide (show (if bk=true then none else lookL ls R.2 (names.drop (j+1)))=R0L from by
    rw [←e,←hbk]
    by_cases hk:R.1=1 <;> simp [hk])
   have hjm:(j:Int) < (m:Int):=by omega
   clear hx hcS hqS hRR e
   cases bk
   ·have q1:=HQS.out wr (below_self wr)
    go_wp2_with (refine wpList_loadW rfl 29 (.tmp 3) rfl 6 stk_agg stk_size w.heap.size 29 rfl (stkC g (.slice AU nU cU) (.slice AL nL cL)) R0r.out rfl ?_)
    refine (Find_e HRR.out wr (HLr.out wr (below_self wr)) HCUR.out (by omega) HF.out (by omega)).mono ?_
    rintro ez w2 ⟨A2,c2,rfl,hc2,hr2,hb2⟩
    have HRD:=hide (hr2.mono (fun _ _=>rfl) (fun b hb=>⟨Nat.le_trans hs1 (Nat.le_trans hbsz hb.1),hb.2⟩):RdE prEn w2 (fun b=>w.heap.size≤b∧b < w2.heap.size) A2 R.2.length R.2)
    have HB2':=hide hb2
    clear hr2 hb2 q1
    go_wp2_with fail
    go_roundw
    case rel=>exact ⟨j+1,R.2,A2,_,c2,by omega,by go_num,rfl,hRl,hRl,HRD.out,HBR.out.trans (HB2'.out.mono hbsz),by simpa using HE.out⟩
    case measure=>simp [intOf];omega
   ·have q1:=HQS.out wr (below_self wr)
    go_wp2_with (refine wpList_loadW rfl 29 (.tmp 3) rfl 6 stk_agg stk_size w.heap.size 29 rfl (stkC g (.slice AU nU cU) (.slice AL nL cL)) R0r.out rfl ?_)
    refine (Find_e HRR.out wr (HLr.out wr (below_self wr)) HCUR.out (by omega) HF.out (by omega)).mono ?_
    rintro ez w2 ⟨A2,c2,rfl,hc2,hr2,hb2⟩
    have HB2':=hide (HB1.out.trans ((HBR.out.trans (hb2.mono hbsz)).mono hs1))
    clear hr2 hb2 q1
    have hE:R0L=none:=by simpa using HE.out.symm
    subst hE
    go_wp2_with fail
    go_ret2
    exact ⟨none,0,0,rfl,RdE.none_ _ _ _ _,HB2'.out⟩
  ·obtain rfl:j=m:=by omega
   have e:=HLK.out
   rw [List.drop_of_length_le (by have:=HSL.out;omega)] at e
   unfold lookL at e
   subst e
   go_wp2_with fail
   go_ret2
   exact ⟨A,n8,c,rfl,HCF.out,HB1.out.trans (HBR.out.mono hs1)⟩
end Go.Proofs.YtpndfahgflgocaaGreatDoor

namespace Go.Proofs.YtpndfahgflgocaaGreatDoor
open Go.RowKit Go.Shelf Plain

def CtxN (g:GeoQ) (AU AL AP:Option Addr) (nU cU nL cL n cP B gS gL:Nat) (ls:List (List NodV)) (l:List (Int×Int)) (W:World):Prop:=RowL W gS 29 (stkC g (.slice AU nU cU) (.slice AL nL cL))∧RowL W gL 118 [.slice AP n cP]∧RdE layEn W (Under B) AL nL ls∧RdE prEn W (Under B) AP n l∧B≤W.heap.size
theorem CtxN.kept {g:GeoQ} {AU AL AP:Option Addr} {nU cU nL cL n cP B B0 gS gL:Nat} {ls:List (List NodV)} {l:List (Int×Int)} {W W':World} (h:CtxN g AU AL AP nU cU nL cL n cP B gS gL ls l W) (hk:Kept (Under B0) W W') (hS:gS < B0) (hL:gL < B0) (hB:B≤B0) (hs:W.heap.size≤W'.heap.size):CtxN g AU AL AP nU cU nL cL n cP B gS gL ls l W' :=
 ⟨(hk gS hS).trans h.1,(hk gL hL).trans h.2.1,h.2.2.1.mono (fun b hb=>hk b (Nat.lt_of_lt_of_le hb hB)) (fun _ h=>h),h.2.2.2.1.mono (fun b hb=>hk b (Nat.lt_of_lt_of_le hb hB)) (fun _ h=>h),Nat.le_trans h.2.2.2.2 hs⟩
def hidS (ls:List (List NodV)) (l:List (Int×Int)) (nm:List UInt8):Bool:=decide ((findL ls nm l []).1=0)
set_option maxRecDepth 100000 in
set_option maxHeartbeats 4000000 in
theorem HidN_any {g:GeoQ} {AU AL AP:Option Addr} {nU cU nL cL n cP B gS gL:Nat} {ls:List (List NodV)} {l:List (Int×Int)} {nm:List UInt8} {r:Bool} (hr:hidS ls l nm=r) (W:World) (h:CtxN g AU AL AP nU cU nL cL n cP B gS gL ls l W) (hF:FewL ls) (hn:n≤1000) :
  Calls Tryz.prog 146 #[.string ⟨nm.toArray⟩,.pointer (some ⟨gS,0,none⟩),.pointer (some ⟨gL,0,none⟩)] W (BoolB W r):=by
 obtain ⟨h1,h2,h3,h4,h5⟩:=h
 have R1:=hide h1
 have q2:W.cell? ⟨gL,0,none⟩=some (.slice AP n cP):=h2.cell 0
 have HL:=hide h3
 have HP:=hide (h4.mono (fun _ _=>rfl) (fun b hb=>Nat.lt_of_lt_of_le hb h5):RdE prEn W (Under W.heap.size) AP n l)
 have HF:=hide hF
 obtain ⟨R,hR⟩:∃R,findL ls nm l []=R:=⟨_,rfl⟩
 have hb:(R.1==0)=r:=by
  rw [←hr,←hR]
  unfold hidS
  rw [Bool.eq_iff_iff]
  simp
 have HR:=hide hR
 clear hr hR h1 h2 h3 h4 hF
 go_enter Tryz.func146,Tryz.ntmps146
 go_wp2_with (refine wpList_loadW rfl 29 (.tmp 1) rfl 6 stk_agg stk_size gS 29 rfl (stkC g (.slice AU nU cU) (.slice AL nL cL)) R1.out rfl ?_)
 refine (Find_e HR.out W HL.out HP.out h5 HF.out hn).mono ?_
 rintro ez w2 ⟨A2,c2,rfl,hc2,hr2,hb2⟩
 have HB2:=hide hb2
 clear hr2 hb2 q2
 go_wp2_with fail
 go_ret
 exact BoolB.of HB2.out
def IdxRet (w:World) (p:List UInt8→Bool) (l:List (List UInt8)) (e:Ending) (w':World):Prop:=∃i:Int,e=.returned (.int .i64 i)∧((i = -1∧∀x∈l,p x=false)∨∃(k:Nat) (x:List UInt8),i=(k:Int)∧l[k]?=some x∧p x=true∧∀y∈l.take k,p y=false)∧Below w.heap.size w w'
theorem st_cell {w:World} {B n k:Nat} {A:Option Addr} {l:List (List UInt8)} {x:List UInt8} (h:Rd st w B A n l) (hx:l[k]?=some x):∃b o,A=some ⟨b,o,none⟩∧b < B∧w.cell? ⟨b,o+k,none⟩=some (.string ⟨x.toArray⟩):=by
 have hi:=(List.getElem?_eq_some_iff.1 hx).1
 obtain ⟨b,o,e,hb,hc⟩:=h.2 (by have:=h.1;omega)
 exact ⟨b,o,e,hb,hc k x hx⟩
section
variable {gS gL : Nat} {p : List UInt8 → Bool} {B0 : Nat}
set_option maxRecDepth 100000 in
set_option maxHeartbeats 4000000 in
theorem IdxN_any {A : Option Addr} {n c : Nat} {l : List (List UInt8)} (w : World) (h : Rd st w w.heap.size A n l) (hn : n ≤ 100000)
  (hdel:∀(W:World) (nm:List UInt8) (r:Bool),p nm=r→Kept (Under B0) w W→w.heap.size≤W.heap.size→Calls Tryz.prog 146 #[.string ⟨nm.toArray⟩,.pointer (some ⟨gS,0,none⟩),.pointer (some ⟨gL,0,none⟩)] W (BoolB W r)) (hB0:B0≤w.heap.size) :
  Calls Tryz.prog 150 #[.slice A n c,.func (.func 146) #[] #[.pointer (some ⟨gS,0,none⟩),.pointer (some ⟨gL,0,none⟩)]] w (IdxRet w p l):=by
 have H:=hide h
 have hl:=h.len
 have HD:=hide hdel
 clear h hdel
 go_enter Tryz.func150,Tryz.ntmps150
 go_wp2
 go_loopw [8] (fun v8 wr=>∃j:Nat,j≤n∧v8=.int .i64 j∧Below w.heap.size w wr∧∀y∈l.take j,p y=false) (fun v8 _=>n - (intOf v8).toNat)
 case atStart=>exact ⟨0,by omega,rfl,below_self _,by simp⟩
 case round =>
  obtain ⟨j,hj,rfl,hbr,hall⟩:=hrel
  have HALL:=hide hall
  have HBR:=hide hbr
  clear hall hbr
  by_cases hlt:j < n
  ·obtain ⟨x,hx⟩:∃x,l[j]?=some x:=⟨_,List.getElem?_eq_getElem (by omega)⟩
   obtain ⟨b,o,rfl,hb,hq⟩:=st_cell H.out hx
   have q:wr.cell? ⟨b,o+j,none⟩=some (.string ⟨x.toArray⟩):=(HBR.out.cell (p:=⟨b,o+j,none⟩) hb).trans hq
   have HX:=hide hx
   obtain ⟨r,hr⟩:∃r,p x=r:=⟨_,rfl⟩
   have HR:=hide hr
   have hjn:(j:Int) < (n:Int):=by omega
   clear hx hq hr
   go_wp2_with fail
   refine (HD.out wr x r HR.out (Kept.of_below HBR.out (fun b hb=>Nat.lt_of_lt_of_le hb hB0)) HBR.out.size).mono ?_
   rintro ez w2 ⟨rfl,hb2⟩
   have HB2:=hide (HBR.out.trans (hb2.mono HBR.out.size))
   clear hb2 q
   cases r with
   | false =>
    go_wp2_with fail
    go_roundw
    case rel=>exact ⟨j+1,by omega,by go_num,HB2.out,fun y hy=>by
     rw [List.take_add_one,HX.out,List.mem_append] at hy
     rcases hy with hy|hy
     ·exact HALL.out y hy
     ·simp at hy;rw [hy];exact HR.out⟩
    case measure=>simp [intOf];omega
   | true =>
    go_wp2_with fail
    go_ret
    exact ⟨(j:Int),rfl,.inr ⟨j,x,rfl,HX.out,HR.out,HALL.out⟩,HB2.out⟩
  ·obtain rfl:j=n:=by omega
   go_wp2_with fail
   go_ret
   exact ⟨-1,rfl,.inl ⟨rfl,fun y hy=>HALL.out y (by rw [List.take_of_length_le (by omega)];exact hy)⟩,HBR.out⟩
theorem run_clear_st (w:World) (g off n c tt:Nat) (cur:List Value) (hn:0 < n) (hr:RowL w g tt cur) (hfit:off+n≤cur.length) :
  ∃Z:List Value,Z.length=n∧∀ty,(Builtin.clear_ #[129] ty #[.slice (some ⟨g,off,none⟩) n c]).run Tryz.prog w=.ok (.tuple #[]) (w.setRow g (splice cur off Z).toArray):=by
 have hz:∀w,(zeroValue 9).run Tryz.prog w=.ok (.string ⟨#[]⟩) w:=fun w=>by kernel_rfl
 obtain ⟨Z,hZ⟩:∃Z,(Builtin.zeroCells (Value.string ⟨#[]⟩).cells n).toList=Z:=⟨_,rfl⟩
 have hl:Z.length=n:=by
  rw [←hZ,show (Value.string ⟨#[]⟩).cells=#[.string ⟨#[]⟩] from rfl]
  simp [Builtin.zeroCells]
 have h1:∀v∈Z,v.oneCell'=true:=by
  rw [←hZ,show (Value.string ⟨#[]⟩).cells=#[.string ⟨#[]⟩] from rfl]
  intro v hv
  simp only [Builtin.zeroCells,Array.mem_toList_iff,Array.mem_map] at hv
  obtain ⟨i,_,rfl⟩:=hv
  have hi:i % 1 < 1:=Nat.mod_lt _ (by omega)
  show (#[Value.string ⟨#[]⟩][i % 1]!).oneCell'=true
  generalize i % 1=m at hi
  have:m=0:=by omega
  subst this
  rfl
 have hst:=run_storeCells_at Tryz.prog g off tt Z 0 cur.toArray w hr (by simp;omega) h1
 simp only [Nat.add_zero] at hst
 refine ⟨Z,hl,fun ty=>?_⟩
 obtain ⟨m,rfl⟩:∃m,n=m+1:=⟨n - 1,by omega⟩
 simp [Builtin.clear_,run_underlying Tryz.underlying129,hz,hZ,hst,splice]
def DelN (p:List UInt8→Bool) (l:List (List UInt8)) (n c g a b:Nat) (W:World):Prop:=∃cs,RowL W g 9 cs∧cs.length=c∧n≤c∧((l.take b).filter (fun x=>!p x)).length=a∧cs.take a=((l.take b).filter (fun x=>!p x)).map st∧∀i x,b≤i→l[i]?=some x→cs[i]?=some (st x)
theorem DelN.on {l:List (List UInt8)} {n c g a b:Nat} {W W':World} (h:DelN p l n c g a b W) (hb:Below W.heap.size W W'):DelN p l n c g a b W':=by
 obtain ⟨cs,h1,h2⟩:=h
 exact ⟨cs,h1.on hb,h2⟩
theorem DelN.skip {l:List (List UInt8)} {n c g a b:Nat} {W:World} {x:List UInt8} (h:DelN p l n c g a b W) (hx:l[b]?=some x) (hp:p x=true):DelN p l n c g a (b+1) W:=by
 obtain ⟨cs,h1,h2,h3,h4,h5,h6⟩:=h
 have e:(l.take (b+1)).filter (fun x=>!p x)=(l.take b).filter (fun x=>!p x):=by rw [List.take_add_one,hx,List.filter_append];simp [hp]
 exact ⟨cs,h1,h2,h3,by rw [e];exact h4,by rw [e];exact h5,fun i y hi hy=>h6 i y (by omega) hy⟩
theorem DelN.put {l:List (List UInt8)} {n c g a b:Nat} {W:World} {x:List UInt8} (h:DelN p l n c g a b W) (hx:l[b]?=some x) (hp:p x=false) (hab:a < b) (hbc:b < c):DelN p l n c g (a+1) (b+1) (W.setCell ⟨g,a,none⟩ (st x)):=by
 obtain ⟨cs,h1,h2,h3,h4,h5,h6⟩:=h
 have e:(l.take (b+1)).filter (fun x=>!p x)=(l.take b).filter (fun x=>!p x)++[x]:=by rw [List.take_add_one,hx,List.filter_append];simp [hp]
 refine ⟨cs.set a (st x),h1.set_ a _,by rw [List.length_set];exact h2,h3,by rw [e,List.length_append,h4];rfl,?_,fun i y hi hy=>?_⟩
 ·rw [e,List.map_append,←h5,List.take_add_one,List.getElem?_set_self (by omega),List.take_set_of_le (Nat.le_refl _)]
  rfl
 ·rw [List.getElem?_set_ne (by omega)]
  exact h6 i y (by omega) hy
end
end Go.Proofs.YtpndfahgflgocaaGreatDoor

namespace Go.Proofs.YtpndfahgflgocaaGreatDoor.Plain
theorem less_lt {a b:List UInt8}:lessS a b=true↔a < b:=by
 unfold lessS
 induction a generalizing b with
 | nil=>cases b with
  | nil=>simp [Op.bytesLess]
  | cons y s=>simp [Op.bytesLess]
 | cons x r ih =>
  cases b with
  | nil=>simp [Op.bytesLess]
  | cons y s=>simp [Op.bytesLess,List.cons_lt_cons_iff,ih]
theorem le_not_less {a b:List UInt8} (h:a≤b):lessS b a=false:=by
 cases h2:lessS b a with
 | false=>rfl
 | true=>exact absurd (less_lt.1 h2) h
theorem less_of_le_ne {a b:List UInt8} (h:a≤b) (hne:a≠b):lessS a b=true:=by
 cases h2:lessS a b with
 | true=>rfl
 | false=>exact absurd (less_total h2 (le_not_less h)) hne
theorem compact_rising {k:List (List UInt8)} (hk:k.Pairwise fun x y=>x≤y):Rising (Lib.compact k)∧∀y,y∈Lib.compact k↔y∈k:=by
 have hget:∀j (h:j < k.length),k.toArray[j]! = k[j]:=fun j h=>by simp [h]
 have hle:∀i j (hi:i < j) (hj:j < k.length),k[i]'(by omega)≤k[j]:=fun i j hi hj=>List.pairwise_iff_getElem.1 hk i j (by omega) hj hi
 have main:∀m,m≤k.length→Rising (Lib.compactUpTo k.toArray m)∧∀y,y∈Lib.compactUpTo k.toArray m↔∃j,∃h:j < k.length,j < m∧k[j]=y:=by
  intro m
  induction m with
  | zero=>intro _;exact ⟨by simp [Lib.compactUpTo,Rising],fun y=>by simp [Lib.compactUpTo]⟩
  | succ m ih =>
   intro hm
   obtain ⟨h1,h2⟩:=ih (by omega)
   have hmk:m < k.length:=by omega
   rw [Lib.compactUpTo_succ,hget m hmk]
   cases hkp:Lib.keeps k.toArray m with
   | true =>
    rw [if_pos rfl]
    refine ⟨List.pairwise_append.2 ⟨h1,List.pairwise_singleton _ _,fun a ha b hb=>?_⟩,fun y=>?_⟩
    ·rw [List.mem_singleton] at hb
     subst hb
     obtain ⟨j,hj,hjm,rfl⟩:=(h2 a).1 ha
     simp only [Lib.keeps,decide_eq_true_eq] at hkp
     have hne:k[m]≠k[m - 1]:=by
      rcases hkp with h0|h0
      ·omega
      ·rwa [hget m hmk,hget (m - 1) (by omega)] at h0
     have hb1:lessS k[m - 1] k[m]=true:=less_of_le_ne (hle (m - 1) m (by omega) hmk) (fun e=>hne e.symm)
     by_cases hjm1:j=m - 1
     ·subst hjm1;exact hb1
     ·by_cases he:k[j]=k[m - 1]
      ·rw [he];exact hb1
      ·exact less_trans (less_of_le_ne (hle j (m - 1) (by omega) (by omega)) he) hb1
    ·rw [List.mem_append,List.mem_singleton,h2]
     constructor
     ·rintro (⟨j,hj,hjm,rfl⟩|rfl)
      ·exact ⟨j,hj,by omega,rfl⟩
      ·exact ⟨m,hmk,by omega,rfl⟩
     ·rintro ⟨j,hj,hjm,rfl⟩
      by_cases hjm1:j=m
      ·subst hjm1;exact .inr rfl
      ·exact .inl ⟨j,hj,by omega,rfl⟩
   | false =>
    rw [if_neg (by simp),List.append_nil]
    refine ⟨h1,fun y=>?_⟩
    rw [h2]
    simp only [Lib.keeps,decide_eq_false_iff_not,not_or,ne_eq,Decidable.not_not] at hkp
    obtain ⟨hm0,he⟩:=hkp
    rw [hget m hmk,hget (m - 1) (by omega)] at he
    constructor
    ·rintro ⟨j,hj,hjm,rfl⟩
     exact ⟨j,hj,by omega,rfl⟩
    ·rintro ⟨j,hj,hjm,rfl⟩
     by_cases hjm1:j=m
     ·subst hjm1;exact ⟨j - 1,by omega,by omega,he.symm⟩
     ·exact ⟨j,hj,by omega,rfl⟩
 obtain ⟨a,b⟩:=main k.length (Nat.le_refl _)
 refine ⟨a,fun y=>(b y).trans ⟨fun ⟨j,hj,_,e⟩=>e ▸ List.getElem_mem hj,fun h=>?_⟩⟩
 obtain ⟨j,hj,e⟩:=List.mem_iff_getElem.1 h
 exact ⟨j,hj,hj,e⟩
theorem sortS_lib (l:List (List UInt8)):Lib.compact (l.mergeSort fun x y=>decide (x≤y))=sortS l:=by
 have hs:(l.mergeSort fun x y=>decide (x≤y)).Pairwise fun x y=>x≤y:=by
  have:=List.pairwise_mergeSort (le:=fun x y:List UInt8=>decide (x≤y)) (fun a b c h1 h2=>by simp only [decide_eq_true_eq] at *;exact List.le_trans h1 h2) (fun a b=>by simp only [Bool.or_eq_true,decide_eq_true_eq];exact List.le_total a b) l
  simpa using this
 obtain ⟨a,b⟩:=compact_rising hs
 exact sortS_unique a fun y=>(b y).trans (List.mem_mergeSort)
end Go.Proofs.YtpndfahgflgocaaGreatDoor.Plain

namespace Go.Proofs.YtpndfahgflgocaaGreatDoor
open Go.RowKit Go.Sort Plain

theorem CloneS_any {A:Option Addr} {m c B:Nat} {l:List (List UInt8)} (w:World) (ha:Rd st w B A m l) (hm:m≤1000000) :
  Calls Tryz.prog 151 #[.slice A m c] w (ORet st w 9 m l):=by
 by_cases h0:m=0
 ·subst h0
  obtain rfl:l=[]:=List.eq_nil_of_length_eq_zero ha.len
  cases A with
  | none =>
   refine (Tryz.slices_Clone_string_nil 0 c w).mono ?_
   rintro e w' ⟨rfl,rfl⟩
   exact (Ow.nil_ st _ _ _).ret (below_self _)
  | some a =>
   refine (Tryz.slices_Clone_string_zero a c w).mono ?_
   rintro e w' ⟨v,rfl,hown,_,hbel⟩
   obtain ⟨A',c',rfl,ho⟩:=Ow.of (f:=st) (l:=[]) hown
   exact ho.ret hbel
 ·obtain ⟨b,o,rfl,_,hc⟩:=ha.2 (by omega)
  have hl:=ha.len
  have hlen:(l.map fun x=>(⟨x.toArray⟩:ByteArray)).length=m:=by simp [hl]
  refine (Tryz.slices_Clone_string b o m c (l.map fun x=>⟨x.toArray⟩) w (by omega) (by omega) (fun j hj=>?_)).mono ?_
  ·rw [hc j (l[j]'(by omega)) (List.getElem?_eq_getElem (by omega))]
   simp [st,List.getD,show j < l.length by omega]
  ·rintro e w' ⟨v,rfl,hown,_,hbel⟩
   have hmap:((l.map fun x=>(⟨x.toArray⟩:ByteArray)).take m).map (Value.string)=l.map st:=by
    rw [List.take_of_length_le (by omega),List.map_map]
    rfl
   rw [hmap] at hown
   obtain ⟨A',c',rfl,ho⟩:=Ow.of (f:=st) hown
   exact ho.ret hbel

theorem SortS_own {base g n c:Nat} {l:List (List UInt8)} (w:World) (h:Ow st w base 9 (some ⟨g,0,none⟩) n c l) (hn:n≤1000000) :
  Calls Tryz.prog 152 #[.slice (some ⟨g,0,none⟩) n c] w fun e w'=>e=.returned (.tuple #[])∧Ow st w' base 9 (some ⟨g,0,none⟩) n c (l.mergeSort fun x y=>decide (x≤y))∧w.grownBy w' (some g):=by
 have hl:=h.len
 rcases h.2 with ⟨h0,_⟩|⟨g',cap,cur,he,hbase,hb,h1,h2,h3,h4⟩
 ·cases h0
 ·cases he
  subst hl
  refine (Tryz.slices_Sort_string g 0 c l w (holds_of_block hb (by rw [Nat.mul_one] at h4;exact h4)) (Array.getElem?_eq_some_iff.1 hb).1 (by omega)).mono ?_
  rintro e w' ⟨rfl,k,os,rfl⟩
  exact ⟨rfl,ownsRow_sorted (by simp) hbase hb h1 h2 h3,grownBy_sorted _⟩
theorem grow_none (w:World):grow w #[]=w:=by simp [grow]
theorem CompactS_own {base g n c:Nat} {l:List (List UInt8)} (w:World) (h:Ow st w base 9 (some ⟨g,0,none⟩) n c l) (hn:n≤1000000) :
  Calls Tryz.prog 153 #[.slice (some ⟨g,0,none⟩) n c] w fun e w'=>e=.returned (.slice (some ⟨g,0,none⟩) (Lib.compact l).length c)∧Ow st w' base 9 (some ⟨g,0,none⟩) (Lib.compact l).length c (Lib.compact l)∧w.grownBy w' (some g):=by
 have hl:=h.len
 have hcap:=h.cap
 rcases h.2 with ⟨h0,_⟩|⟨g',cap,cur,he,hbase,hb,h1,h2,h3,h4⟩
 ·cases h0
 ·cases he
  subst hl
  have hle:=Lib.compact_length_le l
  refine (Tryz.slices_Compact_string g 0 c l w (holds_of_block hb (by rw [Nat.mul_one] at h4;exact h4)) (by omega) hcap).mono ?_
  rintro e w' ⟨rfl,q,rfl⟩
  have ho:Ow st (grow (putRow encStr (Sort.ahead w q) g 0 (Lib.compact l++List.replicate (l.length - (Lib.compact l).length) []).toArray) #[]) base 9 (some ⟨g,0,none⟩) l.length c (Lib.compact l++List.replicate (l.length - (Lib.compact l).length) []) :=
   ownsRow_sorted (by simp;omega) hbase hb h1 h2 h3
  have hg:=grownBy_sorted (w:=w) (g:=g) (n:=q) (os:=#[]) (Lib.compact l++List.replicate (l.length - (Lib.compact l).length) []).toArray
  rw [grow_none] at ho hg
  have:=ho.cut hle (by simp)
  rw [List.take_left'] at this
  ·exact ⟨rfl,this,hg⟩
  ·rfl

theorem NSort_any {A:Option Addr} {m c:Nat} {l:List (List UInt8)} (w:World) (ha:Rd st w w.heap.size A m l) (hm:m≤1000000) :
  Calls Tryz.prog 126 #[.slice A m c] w (ORet st w 9 (sortS l).length (sortS l)):=by
 have hl:=ha.len
 have HA:=hide ha
 clear ha
 by_cases h0:m=0
 ·subst h0
  obtain rfl:l=[]:=List.eq_nil_of_length_eq_zero hl
  go_enter Tryz.func126,Tryz.ntmps126
  go_wp2_with fail
  refine (CloneS_any _ HA.out (by omega)).mono ?_
  rintro e w1 ⟨A1,c1,rfl,hown,hbel⟩
  have HO:=hide hown
  have HB:=hide hbel
  clear hown hbel
  go_wp2_with fail
  refine (Tryz.slices_Sort_string_none _ _ _).mono ?_
  rintro e w' ⟨rfl,rfl⟩
  go_wp2_with fail
  refine (Tryz.slices_Compact_string_empty _ _ _).mono ?_
  rintro e w'' ⟨rfl,rfl⟩
  go_wp2_with fail
  go_ret
  exact HO.out.ret HB.out
 ·have hm0:0 < m:=by omega
  clear h0
  go_enter Tryz.func126,Tryz.ntmps126
  go_wp2_with fail
  refine (CloneS_any _ HA.out hm).mono ?_
  rintro e w1 ⟨A1,c1,rfl,hown,hbel⟩
  obtain ⟨g,rfl,hbase,_⟩:=hown.at_ hm0
  have HO:=hide hown
  have HB:=hide hbel
  have HG:=hide hbase
  clear hown hbel hbase
  go_wp2_with fail
  refine (SortS_own _ HO.out hm).mono ?_
  rintro e w2 ⟨rfl,hown,hgr⟩
  have HO2:=hide hown
  have HB2:=hide (HB.out.grown hgr HB.out.size (fun j hj=>by cases hj;exact HG.out))
  clear hown hgr
  go_wp2_with fail
  refine (CompactS_own _ HO2.out hm).mono ?_
  rw [sortS_lib]
  rintro e w3 ⟨rfl,hown,hgr⟩
  have HO3:=hide hown
  have HB3:=hide (HB2.out.grown hgr HB2.out.size (fun j hj=>by cases hj;exact HG.out))
  clear hown hgr
  go_wp2_with fail
  go_ret
  exact HO3.out.ret HB3.out
end Go.Proofs.YtpndfahgflgocaaGreatDoor

namespace Go.Proofs.YtpndfahgflgocaaGreatDoor
open Go.RowKit Plain
theorem info_st:(Tryz.prog.info? 9).map (fun i=>(i.zero,i.size,i.bytes))=some (some (.string ⟨#[]⟩),1,16):=by kernel_rfl
theorem st_one (l:List UInt8):(st l).oneCell'=true:=rfl

end Go.Proofs.YtpndfahgflgocaaGreatDoor

namespace Go.Proofs.YtpndfahgflgocaaGreatDoor
open Go.RowKit Go.Shelf Plain

theorem Entries_e {A:Option Addr} {n c:Nat} {ns:List NodV} {i:Int} {B:Nat} {l:List EntV} (hl:entB ns i=l) (w:World) (h:RdE nodEn w (Under B) A n ns) (hB:B≤w.heap.size) (hm:ns.length≤100000) :
  Calls Tryz.prog 46 #[.agg #[.slice A n c],.int .i64 i] w (EntsRet w B l):=by rw [←hl];exact Entries_any w h hB hm
def allN (ls:List (List NodV)) (l:List (Int×Int)):List (List UInt8):=l.flatMap (fun p=>(entL ls p).map EntV.name)
theorem allN_succ {ls:List (List NodV)} {l:List (Int×Int)} {j:Nat} {p:Int×Int} (h:l[j]?=some p):allN ls (l.take (j+1))=allN ls (l.take j)++(entL ls p).map EntV.name:=by
 unfold allN
 rw [List.take_add_one,h,List.flatMap_append]
 simp
theorem allN_len {ls:List (List NodV)} (hF:FewL ls) (l:List (Int×Int)):(allN ls l).length≤16*l.length:=by
 unfold allN
 induction l with
 | nil=>simp
 | cons p r ih =>
  rw [List.flatMap_cons,List.length_append,List.length_map,List.length_cons]
  have:=entL_len hF p
  omega
def namesL (ls:List (List NodV)) (l:List (Int×Int)):List (List UInt8):=(sortS (allN ls l)).filter (fun x=>!hidS ls l x)
theorem names_snoc {l:List EntV} {i:Nat} {e:EntV} (h:l[i]?=some e) (a:List (List UInt8)):a++(l.take (i+1)).map EntV.name=(a++(l.take i).map EntV.name)++[e.name]:=by
 rw [List.take_add_one,h]
 simp
end Go.Proofs.YtpndfahgflgocaaGreatDoor

namespace Go.Proofs.YtpndfahgflgocaaGreatDoor
open Go.RowKit Go.Shelf Plain

def rootsL : List (List NodV) → Nat → List (Int × Int)
 | [],_=>[]
 | ns::r,j=>if (nodAt ns 1).k=1 then (if opq (nodAt ns 1)=true then [((j:Int)+1,1)] else ((j:Int)+1,1)::rootsL r (j+1)) else rootsL r (j+1)
theorem low_get {ls:List (List NodV)} {j:Nat} {ns:List NodV} {i:Int} (h:ls[j]?=some ns):lowAt ls ((j:Int)+1) i=nodAt ns i:=by
 have hj:=(List.getElem?_eq_some_iff.1 h).1
 unfold lowAt
 rw [if_pos ⟨by omega,by omega⟩,show ((j:Int)+1 - 1).toNat=j by omega,h]
 rfl
set_option maxRecDepth 100000 in
set_option maxHeartbeats 8000000 in
theorem Roots_f {g:GeoQ} {AU AL:Option Addr} {nU cU nL cL:Nat} {ls:List (List NodV)} (w:World) (h:RdE layEn w (Under w.heap.size) AL nL ls) (hF:FewL ls) :
  Calls Tryz.prog 121 #[.agg (stkC g (.slice AU nU cU) (.slice AL nL cL)).toArray] w (PlcsF w (rootsL ls 0)):=by
 have r0:=RowL.new w 29 (stkC g (.slice AU nU cU) (.slice AL nL cL))
 have hb1:=below_new (below_self w) (.cells (stkC g (.slice AU nU cU) (.slice AL nL cL)).toArray 29)
 obtain ⟨W1,hW1⟩:∃W1,w.alloc (.cells (stkC g (.slice AU nU cU) (.slice AL nL cL)).toArray 29)=W1:=⟨_,rfl⟩
 rw [hW1] at r0 hb1
 have hW1':w.alloc (.cells #[.int .i64 g.a,.int .i64 g.b,.int .i64 g.c,.int .i64 g.d,.slice AU nU cU,.slice AL nL cL] 29)=W1:=hW1
 have q5:W1.cell? ⟨w.heap.size,5,none⟩=some (.slice AL nL cL):=r0.cell 5
 have hm:ls.length≤100:=by have:=hF.1;omega
 have HM2:=hide (fun ns (hh:ns∈ls)=>(show ns.length≤1000 from Nat.le_trans (hF.2 ns hh).1 (by omega)))
 have R0:=hide r0
 have HB1:=hide hb1
 have hs1:=hb1.size
 have HL:=hide (h.under hb1 (Nat.le_refl _))
 have hnL:nL≤3∧ls.length≤nL∧nL≤ls.length:=by have:=h.1;have:=hF.1;omega
 have HF:=hide hF
 obtain ⟨R,hR⟩:∃R,rootsL ls 0=R:=⟨_,rfl⟩
 rw [hR]
 have HR:=hide hR
 have HO0:=hide (own_lit0 W1 75 2 (base:=W1.heap.size) rfl (Nat.le_refl _))
 have HW0:=hide (below_new (below_self W1) (.cells #[] 75))
 unfold stkC
 clear r0 hb1 hW1 h hF hR
 go_enter Tryz.func121,Tryz.ntmps121
 go_wp2_with fail
 clear hW1' q5
 go_loopw [3,10] (fun v3 v10 wr=>∃(j:Nat) (acc:List (Int×Int)) (A:Option Addr) (c:Nat),j≤nL∧v10=.int .i64 j∧v3=.slice A acc.length c∧acc.length≤j∧wr.ownsRow W1.heap.size 75 2 (.slice A acc.length c) acc.length (flatR acc)∧Below W1.heap.size W1 wr∧acc++rootsL (ls.drop j) j=R) (fun v3 v10 _=>nL - (intOf v10).toNat)
 case atStart=>exact ⟨0,[],none,0,by omega,rfl,rfl,Nat.le_refl _,World.ownsRow_nil _ _ _ _,below_self _,by rw [List.drop_zero];exact HR.out⟩
 case round =>
  obtain ⟨j,acc,A,c,hj,rfl,rfl,hal,ho,hbr,hfin⟩:=hrel
  have HO:=hide ho
  have HBR:=hide hbr
  have HFI:=hide hfin
  have hbsz:=hbr.size
  have R0r:=hide (R0.out.on hbr)
  clear ho hbr hfin
  by_cases hlt:j < nL
  ·obtain ⟨ns,hns⟩:∃ns,ls[j]?=some ns:=⟨_,List.getElem?_eq_getElem (by omega)⟩
   obtain ⟨N,hN⟩:∃N,nodAt ns 1=N:=⟨_,rfl⟩
   have hLN:lowAt ls ((j:Int)+1) 1=N:=(low_get hns).trans hN
   have hath:=(low_plain HF.out ((j:Int)+1) 1).2.2.1
   rw [hLN] at hath
   have HLN:=hide hLN
   obtain ⟨bk,hbk⟩:∃bk,(N.k != 1)=bk:=⟨_,rfl⟩
   obtain ⟨op,hop⟩:∃op,opq N=op:=⟨_,rfl⟩
   have HMarked_b:=hide hop
   have e:=HFI.out
   have hjl:=(List.getElem?_eq_some_iff.1 hns).1
   rw [List.drop_eq_getElem_cons hjl,(List.getElem?_eq_some_iff.1 hns).2] at e
   unfold rootsL at e
   rw [hN,hop] at e
   have HE:=hide (show (if bk=false then (if op=true then acc++[((j:Int)+1,1)] else (acc++[((j:Int)+1,1)])++rootsL (ls.drop (j+1)) (j+1)) else acc++rootsL (ls.drop (j+1)) (j+1))=R from by
    rw [←e,←hbk]
    by_cases hk:N.k=1 <;> cases op <;> simp [hk])
   have HZP:=hide (RowL.new wr 75 (prC (0,0)))
   have hjn:(j:Int) < (nL:Int):=by omega
   have hj3:(j:Int)+1≤(nL:Int):=by omega
   clear hns hN hLN hop e
   cases bk with
   | true =>
    go_wp2_with (first|(refine wpList_storeW rfl 75 (.tmp 5) (.tmp 15) rfl 2 plc_size wr.heap.size 75 rfl (prC (0,0)) (prC ((j:Int)+1,1)) rfl HZP.out rfl rfl (prC_one _) ?_;intro w6 hr6 hg6 hs6;have hb6:=below_stored' hg6;have R6:=hide hr6;have HB6:=hide hb6;have R06:=hide (R0r.out.on hb6);have hs6l:=hb6.size;clear hr6 hg6 hs6 hb6)|(refine wpList_loadW rfl 29 (.tmp 1) rfl 6 stk_agg stk_size w.heap.size 29 rfl (stkC g (.slice AU nU cU) (.slice AL nL cL)) R06.out rfl ?_)|(refine wpList_loadW rfl 75 (.tmp 5) rfl 2 plc_agg plc_size wr.heap.size 75 rfl (prC ((j:Int)+1,1)) R6.out rfl ?_)|(go_at_call 93;refine (NLower_e HLN.out w6 (HL.out.under (HBR.out.trans (HB6.out.mono hbsz)) hs1) (by omega) hm HM2.out).mono ?_;rintro ez w7 ⟨A1,n1,c1,C1,m1,d1,rfl,e2,e3,e4,e5,hb7⟩;have HB7:=hide (HB6.out.trans (hb7.mono hs6l));have hs7l:=hb7.size;have HZN:=hide (RowL.new w7 51 (nodC nod0 (.slice none 0 0) (.slice none 0 0)));have R67:=hide (R6.out.on hb7);clear e3 e5 hb7)|(refine wpList_storeW rfl 51 (.tmp 6) (.tmp 18) rfl 13 nod_size w7.heap.size 51 rfl (nodC nod0 (.slice none 0 0) (.slice none 0 0)) (nodC N (.slice A1 n1 c1) (.slice C1 m1 d1)) rfl HZN.out rfl rfl (nodC_one _ _ _ _ _ _ _) ?_;intro w9 hr9 hg9 hs9;have hb9:=below_stored' hg9;have qk:w9.cell? ⟨w7.heap.size,0,none⟩=some (.int .i64 N.k):=hr9.cell 0;have HR6:=hide hr9;have HR5:=hide (R67.out.on hb9);have HB9:=hide (HB7.out.trans (hb9.mono (by omega)));have hs9l:=HB9.out.size;clear hr9 hg9 hs9 hb9))
    go_roundw
    case rel=>exact ⟨j+1,acc,A,c,by omega,by go_num,rfl,by omega,ownsRow_below HO.out HB9.out,HBR.out.trans (HB9.out.mono hbsz),by have:=HE.out;simpa using this⟩
    case measure=>simp [intOf];omega
   | false =>
    have HLEN:=hide (show (acc++[((j:Int)+1,(1:Int))]).length=acc.length+1 by simp)
    go_wp2_with (first|(refine wpList_storeW rfl 75 (.tmp 5) (.tmp 15) rfl 2 plc_size wr.heap.size 75 rfl (prC (0,0)) (prC ((j:Int)+1,1)) rfl HZP.out rfl rfl (prC_one _) ?_;intro w6 hr6 hg6 hs6;have hb6:=below_stored' hg6;have R6:=hide hr6;have HB6:=hide hb6;have R06:=hide (R0r.out.on hb6);have hs6l:=hb6.size;clear hr6 hg6 hs6 hb6)|(refine wpList_loadW rfl 29 (.tmp 1) rfl 6 stk_agg stk_size w.heap.size 29 rfl (stkC g (.slice AU nU cU) (.slice AL nL cL)) R06.out rfl ?_)|(refine wpList_loadW rfl 75 (.tmp 5) rfl 2 plc_agg plc_size wr.heap.size 75 rfl (prC ((j:Int)+1,1)) R6.out rfl ?_)|(go_at_call 93;refine (NLower_e HLN.out w6 (HL.out.under (HBR.out.trans (HB6.out.mono hbsz)) hs1) (by omega) hm HM2.out).mono ?_;rintro ez w7 ⟨A1,n1,c1,C1,m1,d1,rfl,e2,e3,e4,e5,hb7⟩;have HB7:=hide (HB6.out.trans (hb7.mono hs6l));have hs7l:=hb7.size;have HZN:=hide (RowL.new w7 51 (nodC nod0 (.slice none 0 0) (.slice none 0 0)));have R67:=hide (R6.out.on hb7);clear e3 e5 hb7)|(refine wpList_storeW rfl 51 (.tmp 6) (.tmp 18) rfl 13 nod_size w7.heap.size 51 rfl (nodC nod0 (.slice none 0 0) (.slice none 0 0)) (nodC N (.slice A1 n1 c1) (.slice C1 m1 d1)) rfl HZN.out rfl rfl (nodC_one _ _ _ _ _ _ _) ?_;intro w9 hr9 hg9 hs9;have hb9:=below_stored' hg9;have qk:w9.cell? ⟨w7.heap.size,0,none⟩=some (.int .i64 N.k):=hr9.cell 0;have HR6:=hide hr9;have HR5:=hide (R67.out.on hb9);have HB9:=hide (HB7.out.trans (hb9.mono (by omega)));have hs9l:=HB9.out.size;clear hr9 hg9 hs9 hb9)|(refine wpList_loadW rfl 75 (.tmp 5) rfl 2 plc_agg plc_size wr.heap.size 75 rfl (prC ((j:Int)+1,1)) HR5.out rfl ?_)|(refine wpList_litW rfl 118 (.tmp 23) rfl (.agg (prC ((j:Int)+1,1)).toArray) _ rfl (lit_plc ((j:Int)+1,1) w9) ?_;refine wpList_plain rfl fun K2 hK2=>?_;go_loud (refine wp_appF w9 W1.heap.size _ rfl (.tmp 22) (.tmp 24) 118 75 rfl Tryz.underlying118 _ 2 16 plc_info rfl (by omega) (by omega) A acc.length c _ (prC ((j:Int)+1,1)) rfl (prC_one _) rfl (ownsRow_below HO.out HB9.out) rfl (by omega) (by omega) ?_);intro A5 c5 w10 ho10 hg10;refine hK2 _ _ ?_;clear hK2 K2;have HO10:=hide ho10;have hba:=below_new (below_self w9) (.cells (prC ((j:Int)+1,1)).toArray 75);have hoa:=ownsRow_below (ownsRow_below HO.out HB9.out) hba;have HR6b:=hide ((HR6.out.on hba).grown hg10 (row_apart hoa (HR6.out.on hba) (by decide)));have HB10:=hide (((HBR.out.trans (HB9.out.mono hbsz)).trans (hba.mono (by omega))).grown hg10 (by have:=hba.size;omega) (fun q hq=>(own_block hoa q hq).1));clear ho10 hg10 hba hoa)|(refine wpList_loadW rfl 51 (.tmp 6) rfl 13 nod_agg nod_size w7.heap.size 51 rfl (nodC N (.slice A1 n1 c1) (.slice C1 m1 d1)) HR6b.out rfl ?_))
    refine (Marked_b HMarked_b.out hath.1 hath.2 _).mono ?_
    rintro ez w11 ⟨rfl,hb11⟩
    have HO11:=hide (ownsRow_below HO10.out hb11)
    have HB11:=hide (HB10.out.trans (hb11.mono (by have:=HB10.out.size;omega)))
    clear hb11
    cases op with
    | false =>
     go_wp2_with fail
     go_roundw
     case rel=>exact ⟨j+1,acc++[((j:Int)+1,1)],A5,c5,by omega,by go_num,by rw [HLEN.out],by rw [HLEN.out];omega,by rw [HLEN.out,flatR_snoc];exact HO11.out,HB11.out,by have:=HE.out;simpa using this⟩
     case measure=>simp [intOf];omega
    | true =>
     have hE:R=acc++[((j:Int)+1,1)]:=by have:=HE.out.symm;simpa using this
     subst hE
     go_wp2_with fail
     rw [show acc.length+1=(acc++[((j:Int)+1,(1:Int))]).length from HLEN.out.symm]
     go_ret
     exact ⟨A5,c5,rfl,(pr_fresh (by rw [HLEN.out,flatR_snoc];exact HO11.out) rfl).mono (fun _ _=>rfl) (fun b hb=>⟨Nat.le_trans hs1 hb.1,hb.2⟩),HB1.out.trans (HB11.out.mono hs1)⟩
  ·obtain rfl:j=nL:=by omega
   have e:=HFI.out
   rw [List.drop_of_length_le (by omega)] at e
   unfold rootsL at e
   rw [List.append_nil] at e
   subst e
   go_wp2_with fail
   go_ret
   exact ⟨A,c,rfl,(pr_fresh HO.out rfl).mono (fun _ _=>rfl) (fun b hb=>⟨Nat.le_trans hs1 hb.1,hb.2⟩),HB1.out.trans (HBR.out.mono hs1)⟩
end Go.Proofs.YtpndfahgflgocaaGreatDoor

namespace Go.Proofs.YtpndfahgflgocaaGreatDoor
open Go.RowKit Go.Shelf Plain

theorem rootsL_len : ∀ (ls : List (List NodV)) (j : Nat), (rootsL ls j).length ≤ ls.length
 | [],j=>by simp [rootsL]
 | ns::r,j=>by
  have:=rootsL_len r (j+1)
  unfold rootsL
  split
  ·split <;> simp <;> omega
  ·simp;omega
theorem lookL_len (ls : List (List NodV)) : ∀ (l : List (Int × Int)) (ns : List (List UInt8)), ((lookL ls l ns).getD []).length ≤ l.length
 | l,[]=>by simp [lookL]
 | l,x::r=>by
  unfold lookL
  have h1:=findL_len ls x l []
  split
  ·have:=lookL_len ls (findL ls x l []).2 r
   simp at h1
   omega
  ·simp
end Go.Proofs.YtpndfahgflgocaaGreatDoor

