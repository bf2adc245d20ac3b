import Derived.Test.YtnhegahpfacdgaaGreatRt16
import Derived.Test.YtnhegahpfacdgaaGreatRt8
import Derived.Test.YtnhegahpfacdgaaGreatRt1
import Derived.BigQuiet
import Derived.Deep.QuietTactic

namespace Go.Proofs.YtnhegahpfacdgaaGreat
open Go.RowKit Go.Shelf Plain

set_option maxRecDepth 100000 in
set_option maxHeartbeats 1600000 in
theorem neq_plc (a b:Int) (W:World):(binOp .neq 41 (.agg #[.int .i64 a,.int .i64 b]) (.agg #[.int .i64 a,.int .i64 b])).run Tryz.prog W=.ok (.bool false) W:=by
 simp [go_sem]
set_option maxHeartbeats 1600000 in
theorem EqPlc_same {A B:Option Addr} {n m c d:Nat} {L:List (Int×Int)} {D D':Nat→Prop} (w:World) (ha:RdE prEn w D A n L) (hb:RdE prEn w D' B m L) (hn:n≤140737488355328) :
  Calls Tryz.prog 9 #[.slice A n c,.slice B m d] w (BoolB w true):=by
 obtain rfl:n=m:=by rw [←ha.1,←hb.1]
 have HA:=hide ha
 have HB:=hide hb
 clear ha hb
 have hd:((n:Int) != (n:Int))=false:=by simp
 go_enter Tryz.func9,Tryz.ntmps9
 go_wp2
 go_loopw [13] (fun i wr=>∃j q:Nat,j≤n∧i=.int .i64 j∧wr=w.drewN q) (fun i _=>n - (intOf i).toNat)
 case atStart=>exact ⟨0,0,by omega,rfl,rfl⟩
 case round =>
  obtain ⟨j,q,hj,rfl,rfl⟩:=hrel
  by_cases hlt:j < n
  ·have hl1:j < L.length:=by rw [HA.out.1];exact hlt
   obtain ⟨b1,o1,rfl,hc1⟩:=HA.out.cellsR (by omega)
   obtain ⟨b2,o2,rfl,hc2⟩:=HB.out.cellsR (by omega)
   obtain ⟨cs1,hcs1,hc1⟩:=hc1 j _ (List.getElem?_eq_getElem hl1)
   obtain ⟨cs2,hcs2,hc2⟩:=hc2 j _ (List.getElem?_eq_getElem hl1)
   obtain rfl:cs1=prC L[j]:=hcs1
   obtain rfl:cs2=prC L[j]:=hcs2
   generalize L[j]=y at hc1 hc2
   obtain ⟨ya,yb⟩:=y
   have hL1:∀q,(Instr.loadAt 41 (.pointer (some ⟨b1,o1+j*2,none⟩))).run Tryz.prog (w.drewN q)=.ok (.agg #[.int .i64 ya,.int .i64 yb]) (w.drewN q):=fun q=>run_loadAt_cells (w:=w.drewN q) plc_agg plc_size hc1 rfl
   have hL2:∀q,(Instr.loadAt 41 (.pointer (some ⟨b2,o2+j*2,none⟩))).run Tryz.prog (w.drewN q)=.ok (.agg #[.int .i64 ya,.int .i64 yb]) (w.drewN q):=fun q=>run_loadAt_cells (w:=w.drewN q) plc_agg plc_size hc2 rfl
   have hne:=fun W=>neq_plc ya yb W
   clear hc1 hc2 hl1
   go_wp2
   refine wp_region_quiet_lit (by kernel_rfl) (by kernel_rfl) ?_
   iterate 3 (quiet_step (fail))
   refine Go.BigFrame.wpQuiet_want rfl (fun K hK=>?_)
   refine quietL 41 (.tmp 18) rfl _ _ rfl (by rintro _ ⟨n',rfl⟩;rw [World.drewN_drewN];exact hL1 _) (hK _ ?_)
   clear hK K
   iterate 3 (quiet_step (fail))
   refine Go.BigFrame.wpQuiet_want rfl (fun K hK=>?_)
   refine quietL 41 (.tmp 22) rfl _ _ rfl (by rintro _ ⟨n',rfl⟩;rw [World.drewN_drewN];exact hL2 _) (hK _ ?_)
   clear hK K
   iterate 1 (quiet_step (fail))
   refine wpQuiet_nil ?_
   rintro _ ⟨nq,rfl⟩
   go_wp2
   go_roundw
   case rel=>exact ⟨j+1,_,by omega,by go_num,rfl⟩
   case measure=>simp [intOf];omega
  ·obtain rfl:j=n:=by omega
   go_wp2
   go_ret
   exact BoolB.of (below_drewN (below_self w) _)
theorem pr_strong {w:World} {D D':Nat→Prop} {A:Option Addr} {n:Nat} {l:List (Int×Int)} (h:RdE prEn w D A n l) (hA:0 < n→∀b o,A=some ⟨b,o,none⟩→D' b):RdE prEn w D' A n l:=by
 refine ⟨h.1,fun hn=>?_⟩
 obtain ⟨b,o,e,hb,hc⟩:=h.2 hn
 exact ⟨b,o,e,hA hn b o e,fun i x hx=>by
  obtain ⟨cs,hcs,hcell⟩:=hc i x hx
  exact ⟨cs,hcs,hcell⟩⟩
def PlcsF (w:World) (l:List (Int×Int)) (e:Ending) (w':World):Prop:=∃A c,e=.returned (.slice A l.length c)∧RdE prEn w' (fun b=>w.heap.size≤b∧b < w'.heap.size) A l.length l∧Below w.heap.size w w'
set_option maxRecDepth 100000 in
set_option maxHeartbeats 1600000 in
theorem PClone_f {A:Option Addr} {n c:Nat} {l:List (Int×Int)} (w:World) (h:RdE prEn w (Under w.heap.size) A n l) (hn:n≤100000):Calls Tryz.prog 114 #[.slice A n c] w (PlcsF w l):=by
 obtain rfl:n=l.length:=h.1.symm
 cases A with
 | none =>
  have h0:l.length=0:=by
   rcases Nat.eq_zero_or_pos l.length with h0|h0
   ·exact h0
   ·obtain ⟨_,_,e,_⟩:=h.2 h0;cases e
  have hnil:=fun W=>Lib.run_eql_slice_nil (P:=Tryz.prog) W 39 41 none l.length c 0 0 Tryz.underlying39
  have H:=hide h
  clear h h0
  go_enter Tryz.func114,Tryz.ntmps114
  go_wp2
  go_ret
  have h0:l=[]:=by
   rcases Nat.eq_zero_or_pos l.length with h0|h0
   ·exact List.eq_nil_of_length_eq_zero h0
   ·obtain ⟨_,_,e,_⟩:=H.out.2 h0;cases e
  subst h0
  exact ⟨none,0,rfl,RdE.none_ _ _ _ _,below_self _⟩
 | some a =>
  have hnil:=fun W=>Lib.run_eql_slice_nil (P:=Tryz.prog) W 39 41 (some a) l.length c 0 0 Tryz.underlying39
  have hba:=below_new (below_self w) (.cells #[] 41)
  have HS:=hide (h.mono (Kept.of_below hba (fun _ hb=>hb)) (fun _ hb=>hb):RdE prEn (w.alloc (.cells #[] 41)) (Under w.heap.size) (some a) l.length l)
  have HOE:=hide (OwE.empty prEn w 41)
  have HBUT:=hide (fun b (hb:Under w.heap.size b)=>(show But (w.alloc (.cells #[] 41)) (some ⟨w.heap.size,0,none⟩) b from ⟨⟨by unfold Under at hb;simp;omega,fun _ _ _ _=>rfl⟩,fun a ha e=>by cases ha;unfold Under at hb;simp at e;omega⟩))
  have HBA:=hide hba
  clear h hba
  go_enter Tryz.func114,Tryz.ntmps114
  go_wp2_with (at_builtin;refine wpList_append_OwE _ rfl (.tmp 5) (.tmp 6) 39 rfl w.heap.size 41 zpr 16 Tryz.underlying39 plc_info rfl (by decide) (some ⟨w.heap.size,0,none⟩) 0 0 [] rfl HOE.out (Under w.heap.size) (some a) l.length c l rfl HS.out HBUT.out l.length (by omega) (by omega) (by omega) (by simp) ?_;intro A5 c5 w5 ho5 hb5;have HO5:=hide ho5;have HB5:=hide hb5;clear ho5 hb5)
  go_ret
  exact ⟨A5,c5,rfl,pr_strong (HO5.out.rd rfl).plain (fun h0 b o e=>by
   obtain ⟨css,how,-,-⟩:=HO5.out
   have hbb:=(HO5.out.rd rfl).plain.2 h0
   obtain ⟨b',o',e',hlt,-⟩:=hbb
   rcases how.2 with ⟨_,h0'⟩|⟨g,cap,cur,he,hb,hg,_⟩
   ·omega
   ·rw [e] at he;rw [e] at e';simp only [Value.slice.injEq,Option.some.injEq,Addr.mk.injEq] at he e';obtain ⟨rfl,-⟩:=e';obtain ⟨⟨rfl,-⟩,-⟩:=he;exact ⟨by omega,hlt⟩),HBA.out.trans HB5.out⟩
def lookL (ls : List (List NodV)) : List (Int × Int) → List (List UInt8) → Option (List (Int × Int))
 | l,[]=>some l
 | l,x::r=>if (findL ls x l []).1=1 then lookL ls (findL ls x l []).2 r else none
def LookF (lo:Nat) (w:World) (o:Option (List (Int×Int))) (e:Ending) (w':World):Prop:=∃A n c,e=.returned (.tuple #[.slice A n c,.bool o.isSome])∧RdE prEn w' (fun b=>lo≤b∧b < w'.heap.size) A n (o.getD [])∧Below w.heap.size w w'
theorem Find_e {g:GeoQ} {AU AL AP:Option Addr} {nU cU nL cL n cP:Nat} {ls:List (List NodV)} {l:List (Int×Int)} {nm:List UInt8} {B:Nat} {R:Int×List (Int×Int)} (hR:findL ls nm l []=R) (w:World) (h:RdE layEn w (Under B) AL nL ls) (hp:RdE prEn w (Under w.heap.size) AP n l) (hB:B≤w.heap.size) (hF:FewL ls) (hn:n≤1000) :
  Calls Tryz.prog 113 #[.agg (stkC g (.slice AU nU cU) (.slice AL nL cL)).toArray,.slice AP n cP,.string ⟨nm.toArray⟩] w (FindRet w R):=by rw [←hR];exact Find_any w h hp hB hF hn
theorem RFind_e {g:GeoQ} {AU AL AP:Option Addr} {nU cU nL cL n cP:Nat} {ls:List (List NodV)} {l:List (Int×Int)} {nm:List UInt8} {B:Nat} {R:Int×List (Int×Int)} (hR:findL ls nm l []=R) (w:World) (h:RdE layEn w (Under B) AL nL ls) (hp:RdE prEn w (Under w.heap.size) AP n l) (hB:B≤w.heap.size) (hF:FewL ls) (hn:n≤1000) :
  Calls Tryz.prog 75 #[.agg (stkC g (.slice AU nU cU) (.slice AL nL cL)).toArray,.slice AP n cP,.string ⟨nm.toArray⟩] w (FindRet w R):=by rw [←hR];exact RFind_any w h hp hB hF hn
set_option maxRecDepth 100000 in
set_option maxHeartbeats 8000000 in
theorem Look_f {g:GeoQ} {AU AL AP AN:Option Addr} {nU cU nL cL n cP m cN:Nat} {ls:List (List NodV)} {l:List (Int×Int)} {names:List (List UInt8)} {B:Nat} (w:World) (h:RdE layEn w (Under B) AL nL ls) (hp:RdE prEn w (Under w.heap.size) AP n l) (hs:Rd st w w.heap.size AN m names) (hB:B≤w.heap.size) (hF:FewL ls) (hn:n≤1000) (hm1:m≤1000) :
  Calls Tryz.prog 104 #[.agg (stkC g (.slice AU nU cU) (.slice AL nL cL)).toArray,.slice AP n cP,.slice AN m cN] w (LookF w.heap.size w (lookL ls l names)):=by
 have r0:=RowL.new w 29 (stkC g (.slice AU nU cU) (.slice AL nL cL))
 have hb1:=below_new (below_self w) (.cells (stkC g (.slice AU nU cU) (.slice AL nL cL)).toArray 29)
 obtain ⟨W1,hW1⟩:∃W1,w.alloc (.cells (stkC g (.slice AU nU cU) (.slice AL nL cL)).toArray 29)=W1:=⟨_,rfl⟩
 rw [hW1] at r0 hb1
 have hW1':w.alloc (.cells #[.int .i64 g.a,.int .i64 g.b,.int .i64 g.c,.int .i64 g.d,.slice AU nU cU,.slice AL nL cL] 29)=W1:=hW1
 have R0:=hide r0
 have HB1:=hide hb1
 have hs1:=hb1.size
 have HL:=hide (h.under hb1 hB)
 have HP:=hide (hp.on hb1)
 have HPL:=hide hp.1
 have HS:=hide (hs.on hb1)
 have HSL:=hide hs.len
 have HF:=hide hF
 obtain ⟨R0L,hR⟩:∃R0L,lookL ls l names=R0L:=⟨_,rfl⟩
 rw [hR]
 have HR:=hide hR
 have hB1:B≤W1.heap.size:=by omega
 unfold stkC
 clear r0 hb1 hW1 h hp hs hF hR
 go_enter Tryz.func104,Tryz.ntmps104
 go_wp2_with fail
 clear hW1'
 refine (PClone_f W1 HP.out (by omega)).mono ?_
 rintro ez w2 ⟨A2,c2,rfl,hr2,hb2⟩
 have HR2:=hide (hr2.mono (fun _ _=>rfl) (fun b hb=>⟨Nat.le_trans hs1 hb.1,hb.2⟩):RdE prEn w2 (fun b=>w.heap.size≤b∧b < w2.heap.size) A2 l.length l)
 have HB2:=hide hb2
 have HLE:=hide (show l.length≤n from by have:=HPL.out;omega)
 clear hr2 hb2
 go_wp2_with fail
 go_loopw [8,17] (fun v8 v17 wr=>∃(j:Nat) (cur:List (Int×Int)) (A:Option Addr) (n8 c:Nat),j≤m∧v17=.int .i64 j∧v8=.slice A n8 c∧n8≤n∧cur.length≤n∧RdE prEn wr (fun b=>w.heap.size≤b∧b < wr.heap.size) A n8 cur∧Below W1.heap.size W1 wr∧lookL ls cur (names.drop j)=R0L) (fun _ v17 _=>m - (intOf v17).toNat)
 case atStart=>exact ⟨0,l,A2,_,c2,by omega,rfl,rfl,HLE.out,HLE.out,HR2.out,HB2.out,by rw [List.drop_zero];exact HR.out⟩
 case round =>
  obtain ⟨j,cur,A,n8,c,hj,rfl,rfl,hn8,hcl,hcur,hbr,hlk⟩:=hrel
  have HCF:=hide hcur
  have HCUR:=hide (hcur.mono (fun _ _=>rfl) (fun b hb=>hb.2):RdE prEn wr (Under wr.heap.size) A n8 cur)
  have HBR:=hide hbr
  have HLK:=hide hlk
  have hbsz:=hbr.size
  have R0r:=hide (R0.out.on hbr)
  have HLr:=hide (fun W (hb:Below wr.heap.size wr W)=>HL.out.under (hbr.trans (hb.mono hbsz)) hB1)
  clear hcur hbr hlk
  by_cases hlt:j < m
  ·obtain ⟨x,hx⟩:∃x,names[j]?=some x:=⟨_,List.getElem?_eq_getElem (by have:=HSL.out;omega)⟩
   obtain ⟨bS,oS,rfl,hbS,hcS⟩:=HS.out.2 (by omega)
   have hqS:=hcS j x hx
   have HQS:=hide (fun W (hb:Below wr.heap.size wr W)=>show W.cell? ⟨bS,oS+j,none⟩=some (.string ⟨x.toArray⟩) from ((HBR.out.trans (hb.mono hbsz)).cell (p:=⟨bS,oS+j,none⟩) hbS).trans hqS)
   have HDR:=hide (show names.drop j=x::names.drop (j+1) from by
    have hjl:=(List.getElem?_eq_some_iff.1 hx).1
    rw [List.drop_eq_getElem_cons hjl,(List.getElem?_eq_some_iff.1 hx).2])
   obtain ⟨R,hRR⟩:∃R,findL ls x cur []=R:=⟨_,rfl⟩
   have hRl:R.2.length≤n:=by have:=findL_len ls x cur [];rw [hRR] at this;simp at this;omega
   have HRR:=hide hRR
   have e:=HLK.out
   rw [HDR.out] at e
   unfold lookL at e
   rw [hRR] at e
   obtain ⟨bk,hbk⟩:∃bk,(R.1 != 1)=bk:=⟨_,rfl⟩
   have HE:=hide (show (if bk=true then none else lookL ls R.2 (names.drop (j+1)))=R0L from by
    rw [←e,←hbk]
    by_cases hk:R.1=1 <;> simp [hk])
   have hjm:(j:Int) < (m:Int):=by omega
   clear hx hcS hqS hRR e
   cases bk
   ·have q1:=HQS.out wr (below_self wr)
    go_wp2_with (refine wpList_loadW rfl 29 (.tmp 3) rfl 6 stk_agg stk_size w.heap.size 29 rfl (stkC g (.slice AU nU cU) (.slice AL nL cL)) R0r.out rfl ?_)
    refine (Find_e HRR.out wr (HLr.out wr (below_self wr)) HCUR.out (by omega) HF.out (by omega)).mono ?_
    rintro ez w2 ⟨A2,c2,rfl,hc2,hr2,hb2⟩
    have HRD:=hide (hr2.mono (fun _ _=>rfl) (fun b hb=>⟨Nat.le_trans hs1 (Nat.le_trans hbsz hb.1),hb.2⟩):RdE prEn w2 (fun b=>w.heap.size≤b∧b < w2.heap.size) A2 R.2.length R.2)
    have HB2':=hide hb2
    clear hr2 hb2 q1
    go_wp2_with fail
    go_roundw
    case rel=>exact ⟨j+1,R.2,A2,_,c2,by omega,by go_num,rfl,hRl,hRl,HRD.out,HBR.out.trans (HB2'.out.mono hbsz),by simpa using HE.out⟩
    case measure=>simp [intOf];omega
   ·have q1:=HQS.out wr (below_self wr)
    go_wp2_with (refine wpList_loadW rfl 29 (.tmp 3) rfl 6 stk_agg stk_size w.heap.size 29 rfl (stkC g (.slice AU nU cU) (.slice AL nL cL)) R0r.out rfl ?_)
    refine (Find_e HRR.out wr (HLr.out wr (below_self wr)) HCUR.out (by omega) HF.out (by omega)).mono ?_
    rintro ez w2 ⟨A2,c2,rfl,hc2,hr2,hb2⟩
    have HB2':=hide (HB1.out.trans ((HBR.out.trans (hb2.mono hbsz)).mono hs1))
    clear hr2 hb2 q1
    have hE:R0L=none:=by simpa using HE.out.symm
    subst hE
    go_wp2_with fail
    go_ret2
    exact ⟨none,0,0,rfl,RdE.none_ _ _ _ _,HB2'.out⟩
  ·obtain rfl:j=m:=by omega
   have e:=HLK.out
   rw [List.drop_of_length_le (by have:=HSL.out;omega)] at e
   unfold lookL at e
   subst e
   go_wp2_with fail
   go_ret2
   exact ⟨A,n8,c,rfl,HCF.out,HB1.out.trans (HBR.out.mono hs1)⟩
set_option maxRecDepth 100000 in
set_option maxHeartbeats 8000000 in
theorem RLook_f {lo:Nat} {g:GeoQ} {AU AL AP AN:Option Addr} {nU cU nL cL n cP m cN:Nat} {ls:List (List NodV)} {l:List (Int×Int)} {names:List (List UInt8)} {B:Nat} (w:World) (h:RdE layEn w (Under B) AL nL ls) (hlo:lo≤w.heap.size) (hpf:RdE prEn w (fun b=>lo≤b∧b < w.heap.size) AP n l) (hs:Rd st w w.heap.size AN m names) (hB:B≤w.heap.size) (hF:FewL ls) (hn:n≤1000) (hm1:m≤1000) :
  Calls Tryz.prog 74 #[.agg (stkC g (.slice AU nU cU) (.slice AL nL cL)).toArray,.slice AP n cP,.slice AN m cN] w (LookF lo w (lookL ls l names)):=by
 have hp:RdE prEn w (Under w.heap.size) AP n l:=hpf.mono (fun _ _=>rfl) (fun b hb=>hb.2)
 have r0:=RowL.new w 29 (stkC g (.slice AU nU cU) (.slice AL nL cL))
 have hb1:=below_new (below_self w) (.cells (stkC g (.slice AU nU cU) (.slice AL nL cL)).toArray 29)
 obtain ⟨W1,hW1⟩:∃W1,w.alloc (.cells (stkC g (.slice AU nU cU) (.slice AL nL cL)).toArray 29)=W1:=⟨_,rfl⟩
 rw [hW1] at r0 hb1
 have hW1':w.alloc (.cells #[.int .i64 g.a,.int .i64 g.b,.int .i64 g.c,.int .i64 g.d,.slice AU nU cU,.slice AL nL cL] 29)=W1:=hW1
 have R0:=hide r0
 have HB1:=hide hb1
 have hs1:=hb1.size
 have HL:=hide (h.under hb1 hB)
 have HP:=hide (hp.on hb1)
 have HPL:=hide hp.1
 have HS:=hide (hs.on hb1)
 have HSL:=hide hs.len
 have HF:=hide hF
 obtain ⟨R0L,hR⟩:∃R0L,lookL ls l names=R0L:=⟨_,rfl⟩
 rw [hR]
 have HR:=hide hR
 have hB1:B≤W1.heap.size:=by omega
 have hlo2:lo≤W1.heap.size:=by omega
 have HPF:=hide (hpf.mono (Kept.of_below HB1.out (fun b hb=>hb.2)) (fun b hb=>⟨hb.1,Nat.lt_of_lt_of_le hb.2 hs1⟩):RdE prEn W1 (fun b=>lo≤b∧b < W1.heap.size) AP n l)
 clear hpf
 unfold stkC
 clear r0 hb1 hW1 h hp hs hF hR
 go_enter Tryz.func74,Tryz.ntmps74
 go_wp2_with fail
 clear hW1'
 go_loopw [8,9] (fun v8 v9 wr=>∃(j:Nat) (cur:List (Int×Int)) (A:Option Addr) (n8 c:Nat),j≤m∧v9=.int .i64 j∧v8=.slice A n8 c∧n8≤n∧cur.length≤n∧RdE prEn wr (fun b=>lo≤b∧b < wr.heap.size) A n8 cur∧Below W1.heap.size W1 wr∧lookL ls cur (names.drop j)=R0L) (fun _ v9 _=>m - (intOf v9).toNat)
 case atStart=>exact ⟨0,l,AP,n,cP,by omega,rfl,rfl,Nat.le_refl _,by have:=HPL.out;omega,HPF.out,below_self _,by rw [List.drop_zero];exact HR.out⟩
 case round =>
  obtain ⟨j,cur,A,n8,c,hj,rfl,rfl,hn8,hcl,hcur,hbr,hlk⟩:=hrel
  have HCF:=hide hcur
  have HCUR:=hide (hcur.mono (fun _ _=>rfl) (fun b hb=>hb.2):RdE prEn wr (Under wr.heap.size) A n8 cur)
  have HBR:=hide hbr
  have HLK:=hide hlk
  have hbsz:=hbr.size
  have R0r:=hide (R0.out.on hbr)
  have HLr:=hide (fun W (hb:Below wr.heap.size wr W)=>HL.out.under (hbr.trans (hb.mono hbsz)) hB1)
  clear hcur hbr hlk
  by_cases hlt:j < m
  ·obtain ⟨x,hx⟩:∃x,names[j]?=some x:=⟨_,List.getElem?_eq_getElem (by have:=HSL.out;omega)⟩
   obtain ⟨bS,oS,rfl,hbS,hcS⟩:=HS.out.2 (by omega)
   have hqS:=hcS j x hx
   have HQS:=hide (fun W (hb:Below wr.heap.size wr W)=>show W.cell? ⟨bS,oS+j,none⟩=some (.string ⟨x.toArray⟩) from ((HBR.out.trans (hb.mono hbsz)).cell (p:=⟨bS,oS+j,none⟩) hbS).trans hqS)
   have HDR:=hide (show names.drop j=x::names.drop (j+1) from by
    have hjl:=(List.getElem?_eq_some_iff.1 hx).1
    rw [List.drop_eq_getElem_cons hjl,(List.getElem?_eq_some_iff.1 hx).2])
   obtain ⟨R,hRR⟩:∃R,findL ls x cur []=R:=⟨_,rfl⟩
   have hRl:R.2.length≤n:=by have:=findL_len ls x cur [];rw [hRR] at this;simp at this;omega
   have HRR:=hide hRR
   have e:=HLK.out
   rw [HDR.out] at e
   unfold lookL at e
   rw [hRR] at e
   obtain ⟨bk,hbk⟩:∃bk,(R.1 != 1)=bk:=⟨_,rfl⟩
   have HE:=hide (show (if bk=true then none else lookL ls R.2 (names.drop (j+1)))=R0L from by
    rw [←e,←hbk]
    by_cases hk:R.1=1 <;> simp [hk])
   have hjm:(j:Int) < (m:Int):=by omega
   clear hx hcS hqS hRR e
   cases bk
   ·go_wp2_with fail
    refine wp_region_planN (fun w'=>Below wr.heap.size wr w') [(0,true),(1,true),(2,true),(3,true),(4,true),(5,true),(6,false),(7,true),(8,true),(9,true),(10,true),(11,true)] (by kernel_rfl) (by kernel_rfl) (by kernel_rfl) (by kernel_rfl) rfl (fun _ _ _ _ _ h=>h) (below_drew (below_self wr)) (fun hHeld=>?_)
    simp only [planOps,List.filterMap_cons,List.filterMap_nil,List.getElem?_toArray,List.getElem?_cons_succ,List.getElem?_cons_zero,Option.map_some]
    refine wpPlan_take (v:=?_) (by kernel_rfl) (fun wS hSw=>?_) ?_
    rotate_left
    ·refine execOp_load (x:=.tmp 3) (k:=6) (g:=w.heap.size) (off:=0) (cs:=stkC g (.slice AU nU cU) (.slice AL nL cL)) ?_ stk_agg stk_size ?_ (fun j' v hv=>by rw [Nat.zero_add];exact ((R0r.out.on hSw).cell j').trans hv) rfl <;> rfl
    (try simp only [Act.put,pu1,pu2,pu3])
    iterate 4
     refine wpPlan_take (v:=?_) (by kernel_rfl) (fun wS hSw=>?_) ?_
     rotate_left
     ·(try dsimp only at hSw);go_simp;(try with_reducible rfl)
     (try simp only [Act.put,pu1,pu2,pu3])
    refine wpPlan_take (v:=?_) (by kernel_rfl) (fun wS hSw=>?_) ?_
    rotate_left
    ·have qx:=HQS.out wS hSw;go_simp;(try with_reducible rfl)
    (try simp only [Act.put,pu1,pu2,pu3])
    refine wpPlan_call (by kernel_rfl) (fun K hK=>?_)
    have hOld:=hide hHeld
    clear hHeld
    go_simp
    go_at_call 75
    refine (RFind_e HRR.out _ (HLr.out _ hOld.out) (HCUR.out.on hOld.out) (by have:=hOld.out.size;omega) HF.out (by omega)).mono ?_
    rintro e w' ⟨A2,c2,rfl,hc2,hr2,hbel⟩
    have HRD:=hide (hr2.mono (fun _ _=>rfl) (fun b hb=>⟨Nat.le_trans hlo2 (Nat.le_trans hbsz (Nat.le_trans hOld.out.size hb.1)),hb.2⟩):RdE prEn w' (fun b=>lo≤b∧b < w'.heap.size) A2 R.2.length R.2)
    clear hr2
    refine hK.out _ _ (hOld.out.trans (hbel.mono hOld.out.size)) (fun hHeld=>?_)
    clear hK K
    (try simp only [Act.put,pu1,pu2,pu3])
    iterate 5
     refine wpPlan_take (v:=?_) (by kernel_rfl) (fun wS hSw=>?_) ?_
     rotate_left
     ·(try dsimp only at hSw);go_simp;(try with_reducible rfl)
     (try simp only [Act.put,pu1,pu2,pu3])
    refine wpPlan_end ?_
    go_wp2_with fail
    go_roundw
    case rel=>exact ⟨j+1,R.2,A2,_,c2,by omega,by go_num,rfl,hRl,hRl,HRD.out,HBR.out.trans (hHeld.mono hbsz),by simpa using HE.out⟩
    case measure=>simp [intOf];omega
   ·go_wp2_with fail
    refine wp_region_planN (fun w'=>Below wr.heap.size wr w') [(0,true),(1,true),(2,true),(3,true),(4,true),(5,true),(6,false),(7,true),(8,true),(9,true),(10,true),(11,true)] (by kernel_rfl) (by kernel_rfl) (by kernel_rfl) (by kernel_rfl) rfl (fun _ _ _ _ _ h=>h) (below_drew (below_self wr)) (fun hHeld=>?_)
    simp only [planOps,List.filterMap_cons,List.filterMap_nil,List.getElem?_toArray,List.getElem?_cons_succ,List.getElem?_cons_zero,Option.map_some]
    refine wpPlan_take (v:=?_) (by kernel_rfl) (fun wS hSw=>?_) ?_
    rotate_left
    ·refine execOp_load (x:=.tmp 3) (k:=6) (g:=w.heap.size) (off:=0) (cs:=stkC g (.slice AU nU cU) (.slice AL nL cL)) ?_ stk_agg stk_size ?_ (fun j' v hv=>by rw [Nat.zero_add];exact ((R0r.out.on hSw).cell j').trans hv) rfl <;> rfl
    (try simp only [Act.put,pu1,pu2,pu3])
    iterate 4
     refine wpPlan_take (v:=?_) (by kernel_rfl) (fun wS hSw=>?_) ?_
     rotate_left
     ·(try dsimp only at hSw);go_simp;(try with_reducible rfl)
     (try simp only [Act.put,pu1,pu2,pu3])
    refine wpPlan_take (v:=?_) (by kernel_rfl) (fun wS hSw=>?_) ?_
    rotate_left
    ·have qx:=HQS.out wS hSw;go_simp;(try with_reducible rfl)
    (try simp only [Act.put,pu1,pu2,pu3])
    refine wpPlan_call (by kernel_rfl) (fun K hK=>?_)
    have hOld:=hide hHeld
    clear hHeld
    go_simp
    go_at_call 75
    refine (RFind_e HRR.out _ (HLr.out _ hOld.out) (HCUR.out.on hOld.out) (by have:=hOld.out.size;omega) HF.out (by omega)).mono ?_
    rintro e w' ⟨A2,c2,rfl,hc2,hr2,hbel⟩
    have HRD:=hide (hr2.mono (fun _ _=>rfl) (fun b hb=>⟨Nat.le_trans hlo2 (Nat.le_trans hbsz (Nat.le_trans hOld.out.size hb.1)),hb.2⟩):RdE prEn w' (fun b=>lo≤b∧b < w'.heap.size) A2 R.2.length R.2)
    clear hr2
    refine hK.out _ _ (hOld.out.trans (hbel.mono hOld.out.size)) (fun hHeld=>?_)
    clear hK K
    (try simp only [Act.put,pu1,pu2,pu3])
    iterate 5
     refine wpPlan_take (v:=?_) (by kernel_rfl) (fun wS hSw=>?_) ?_
     rotate_left
     ·(try dsimp only at hSw);go_simp;(try with_reducible rfl)
     (try simp only [Act.put,pu1,pu2,pu3])
    refine wpPlan_end ?_
    have HB2':=hide (HB1.out.trans ((HBR.out.trans (hHeld.mono hbsz)).mono hs1))
    have hE:R0L=none:=by simpa using HE.out.symm
    subst hE
    clear hHeld
    go_wp2_with fail
    go_ret2
    exact ⟨none,0,0,rfl,RdE.none_ _ _ _ _,HB2'.out⟩
  ·obtain rfl:j=m:=by omega
   have e:=HLK.out
   rw [List.drop_of_length_le (by have:=HSL.out;omega)] at e
   unfold lookL at e
   subst e
   go_wp2_with fail
   go_ret2
   exact ⟨A,n8,c,rfl,HCF.out,HB1.out.trans (HBR.out.mono hs1)⟩
end Go.Proofs.YtnhegahpfacdgaaGreat

namespace Go.Proofs.YtnhegahpfacdgaaGreat
open Go.RowKit Go.Shelf Plain

def CtxN (g:GeoQ) (AU AL AP:Option Addr) (nU cU nL cL n cP B gS gL:Nat) (ls:List (List NodV)) (l:List (Int×Int)) (W:World):Prop:=RowL W gS 29 (stkC g (.slice AU nU cU) (.slice AL nL cL))∧RowL W gL 39 [.slice AP n cP]∧RdE layEn W (Under B) AL nL ls∧RdE prEn W (Under B) AP n l∧B≤W.heap.size
theorem CtxN.kept {g:GeoQ} {AU AL AP:Option Addr} {nU cU nL cL n cP B B0 gS gL:Nat} {ls:List (List NodV)} {l:List (Int×Int)} {W W':World} (h:CtxN g AU AL AP nU cU nL cL n cP B gS gL ls l W) (hk:Kept (Under B0) W W') (hS:gS < B0) (hL:gL < B0) (hB:B≤B0) (hs:W.heap.size≤W'.heap.size):CtxN g AU AL AP nU cU nL cL n cP B gS gL ls l W' :=
 ⟨(hk gS hS).trans h.1,(hk gL hL).trans h.2.1,h.2.2.1.mono (fun b hb=>hk b (Nat.lt_of_lt_of_le hb hB)) (fun _ h=>h),h.2.2.2.1.mono (fun b hb=>hk b (Nat.lt_of_lt_of_le hb hB)) (fun _ h=>h),Nat.le_trans h.2.2.2.2 hs⟩
section
variable {gS gL : Nat} {p : List UInt8 → Bool} {B0 : Nat}
def DelN (p:List UInt8→Bool) (l:List (List UInt8)) (n c g a b:Nat) (W:World):Prop:=∃cs,RowL W g 9 cs∧cs.length=c∧n≤c∧((l.take b).filter (fun x=>!p x)).length=a∧cs.take a=((l.take b).filter (fun x=>!p x)).map st∧∀i x,b≤i→l[i]?=some x→cs[i]?=some (st x)
theorem DelN.on {l:List (List UInt8)} {n c g a b:Nat} {W W':World} (h:DelN p l n c g a b W) (hb:Below W.heap.size W W'):DelN p l n c g a b W':=by
 obtain ⟨cs,h1,h2⟩:=h
 exact ⟨cs,h1.on hb,h2⟩
theorem DelN.skip {l:List (List UInt8)} {n c g a b:Nat} {W:World} {x:List UInt8} (h:DelN p l n c g a b W) (hx:l[b]?=some x) (hp:p x=true):DelN p l n c g a (b+1) W:=by
 obtain ⟨cs,h1,h2,h3,h4,h5,h6⟩:=h
 have e:(l.take (b+1)).filter (fun x=>!p x)=(l.take b).filter (fun x=>!p x):=by rw [List.take_add_one,hx,List.filter_append];simp [hp]
 exact ⟨cs,h1,h2,h3,by rw [e];exact h4,by rw [e];exact h5,fun i y hi hy=>h6 i y (by omega) hy⟩
theorem DelN.put {l:List (List UInt8)} {n c g a b:Nat} {W:World} {x:List UInt8} (h:DelN p l n c g a b W) (hx:l[b]?=some x) (hp:p x=false) (hab:a < b) (hbc:b < c):DelN p l n c g (a+1) (b+1) (W.setCell ⟨g,a,none⟩ (st x)):=by
 obtain ⟨cs,h1,h2,h3,h4,h5,h6⟩:=h
 have e:(l.take (b+1)).filter (fun x=>!p x)=(l.take b).filter (fun x=>!p x)++[x]:=by rw [List.take_add_one,hx,List.filter_append];simp [hp]
 refine ⟨cs.set a (st x),h1.set_ a _,by rw [List.length_set];exact h2,h3,by rw [e,List.length_append,h4];rfl,?_,fun i y hi hy=>?_⟩
 ·rw [e,List.map_append,←h5,List.take_add_one,List.getElem?_set_self (by omega),List.take_set_of_le (Nat.le_refl _)]
  rfl
 ·rw [List.getElem?_set_ne (by omega)]
  exact h6 i y (by omega) hy
end
end Go.Proofs.YtnhegahpfacdgaaGreat

namespace Go.Proofs.YtnhegahpfacdgaaGreat
open Go.RowKit Plain
theorem info_st:(Tryz.prog.info? 9).map (fun i=>(i.zero,i.size,i.bytes))=some (some (.string ⟨#[]⟩),1,16):=by kernel_rfl
theorem st_one (l:List UInt8):(st l).oneCell'=true:=rfl

end Go.Proofs.YtnhegahpfacdgaaGreat

