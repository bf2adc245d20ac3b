import Derived.Test.YtnhegahpfacdgaaDoorHf29
import Derived.Test.YtnhegahpfacdgaaDoorHf32
import Derived.Test.YtnhegahpfacdgaaDoorHf33
import Derived.Test.YtnhegahpfacdgaaDoorHf34

namespace Go.Proofs.YtnhegahpfacdgaaDoor
open Go.RowKit Go.Shelf Plain

theorem eq_ori (a b:OriV) {r:Bool} (h:decide (a=b)=r) (W:World):(binOp .eql 23 (.agg #[.int .i64 a.1,.int .i64 a.2.1,.int .i64 a.2.2]) (.agg #[.int .i64 b.1,.int .i64 b.2.1,.int .i64 b.2.2])).run Tryd.prog W=.ok (.bool r) W:=by
 subst h
 obtain ⟨a1,a2,a3⟩:=a
 obtain ⟨b1,b2,b3⟩:=b
 simp only [Prod.mk.injEq]
 by_cases h1:a1=b1
 rotate_left
 ·simp [go_sem,h1]
 by_cases h2:a2=b2
 rotate_left
 ·simp [go_sem,h1,h2]
 by_cases h3:a3=b3
 ·simp [go_sem,h1,h2,h3]
 ·simp [go_sem,h1,h2,h3]
set_option maxHeartbeats 1600000 in
theorem HSame_any {a b:OriV} {r:Bool} (h:decide (a=b)=r) (w:World):Calls Tryd.prog 14 #[.agg (oriC a).toArray,.agg (oriC b).toArray] w (BoolB w r):=by
 obtain ⟨W1,hW1⟩:∃W1,(w.alloc (.cells (oriC a).toArray 23)).alloc (.cells (oriC b).toArray 23)=W1:=⟨_,rfl⟩
 obtain ⟨r0,r1,hb1,hs1⟩:=rowA2 w _ _ _ _ hW1
 have hW1':(w.alloc (.cells #[.int .i64 a.1,.int .i64 a.2.1,.int .i64 a.2.2] 23)).alloc (.cells #[.int .i64 b.1,.int .i64 b.2.1,.int .i64 b.2.2] 23)=W1:=hW1
 have R2:=hide r0
 have R3:=hide r1
 have HB:=hide hb1
 have heq:=fun W=>eq_ori a b h W
 unfold oriC
 clear hW1 r0 r1 hb1 hs1 h
 go_enter Tryd.func14,Tryd.ntmps14
 go_wp2_with (first|(refine wpList_loadW rfl 23 (.tmp 2) rfl 3 ori_agg ori_size (w.heap.size) 23 rfl [.int .i64 a.1,.int .i64 a.2.1,.int .i64 a.2.2] R2.out rfl ?_)|(refine wpList_loadW rfl 23 (.tmp 3) rfl 3 ori_agg ori_size (w.heap.size+1) 23 rfl [.int .i64 b.1,.int .i64 b.2.1,.int .i64 b.2.2] R3.out rfl ?_))
 go_ret
 exact BoolB.of HB.out
theorem handF_few {ls:List (List NodV)} (h:FewL ls) (o:OriV):(handF ls o).1.data.length≤300∧(handF ls o).1.ents.length≤16:=by
 unfold handF
 split
 ·have hp:=low_plain h o.1 o.2.1
  exact ⟨hp.2.2.2.1,hp.2.2.2.2.1⟩
 ·exact ⟨by simp [nod0],by simp [nod0]⟩
theorem buF_few:FewU upB:=by
 refine ⟨by decide,fun x hx=>?_⟩
 have hd:PlainN ndD:=⟨fun i e hi he=>absurd hi (by simp [ndD,nod0]),by decide,by decide,by decide,by decide,by decide,fun e he=>by simp [ndD,nod0] at he⟩
 simp only [upB,List.mem_cons,List.not_mem_nil,or_false] at hx
 rcases hx with rfl|rfl|rfl|rfl|rfl
 ·exact hd
 ·exact hd
 ·exact hd
 ·exact plain0
 ·exact plain0
theorem aw15_h:handF lsB (1,2,3)=(ndF,true):=by decide +kernel
def nmQ:List UInt8:=[49,48,48,49,97,48,48,48,48,48,48,51]
theorem aw15_n:mayH (1,26,3)=true∧nameH (1,26,3)=nmQ:=by decide +kernel
theorem aw15_p:parseH nmQ=(1,26,3)∧isN nmQ=true:=told_par aw15_n
theorem HName_e {o:OriV} {t:List UInt8} {b:Bool} (h:mayH o=b∧nameH o=t) (w:World) (hw:HanW w):Calls Tryd.prog 6 #[.agg (oriC o).toArray] w (fun e w'=>e=.returned (.tuple #[.string ⟨t.toArray⟩,.bool b])∧Below w.heap.size w w'):=by
 obtain ⟨rfl,rfl⟩:=h
 exact HName_any o w hw
theorem HParse_e {s:List UInt8} {o:OriV} {b:Bool} (hs:s.length≤1000) (h:parseH s=o∧isN s=b) (w:World) (hw:HanW w):Calls Tryd.prog 8 #[.string ⟨s.toArray⟩] w (fun e w'=>e=.returned (.tuple #[.agg (oriC o).toArray,.bool b])∧Below w.heap.size w w'):=by
 obtain ⟨rfl,rfl⟩:=h
 exact HParse_any hs w hw
theorem HFind_e {g:GeoQ} {AU AL:Option Addr} {nU cU nL cL:Nat} {up:List NodV} {ls:List (List NodV)} {o:OriV} {x:NodV} {b:Bool} (hx:handF ls o=(x,b)) (w:World) (hu:RdE nodEn w (Under w.heap.size) AU nU up) (h:RdE layEn w (Under w.heap.size) AL nL ls) (hF:FewL ls) (hup:FewU up):Calls Tryd.prog 11 #[.agg (stkC g (.slice AU nU cU) (.slice AL nL cL)).toArray,.agg (oriC o).toArray] w (fun e w'=>∃A n c C m d,e=.returned (.tuple #[.agg (nodC x (.slice A n c) (.slice C m d)).toArray,.bool b])∧RdE Enc.byte w' (Under w'.heap.size) A n x.data∧RdE entEn w' (Under w'.heap.size) C m x.ents∧Below w.heap.size w w'):=by
 have h1:=HFindE_any (o:=o) w hu h (Nat.le_refl _) hF hup (g:=g) (cU:=cU) (cL:=cL)
 rw [hx] at h1
 refine h1.mono ?_
 rintro e w' ⟨A,n,c,C,m,d,h1,h2,h3,h4⟩
 exact ⟨A,n,c,C,m,d,h1,h2.mono (fun _ _=>rfl) (fun _ h=>h.2),h3.mono (fun _ _=>rfl) (fun _ h=>h.2),h4⟩
set_option maxRecDepth 100000 in
set_option maxHeartbeats 8000000 in
theorem awake15_any (w:World) (hw:HanW w):Calls Tryd.prog 5 #[] w (LawOk w):=by
 have HB:=hide (below_self w)
 have HW:=hide hw
 clear hw
 go_enter Tryd.func5,Tryd.ntmps5
 go_wp2_with (first|(go_at_call 6;refine (HName_e (o:=(1,26,3)) ⟨aw15_n.1,aw15_n.2⟩ _ HW.out).mono ?_;rintro ew1 w1 ⟨rfl,hbel⟩;replace HB:=hide (HB.out.trans (hbel.mono HB.out.size));replace HW:=hide (HW.out.below hbel);clear hbel)|(go_at_call 8;refine (HParse_e (s:=nmQ) (by decide) aw15_p _ HW.out).mono ?_;rintro ew2 w2 ⟨rfl,hbel⟩;replace HB:=hide (HB.out.trans (hbel.mono HB.out.size));replace HW:=hide (HW.out.below hbel);clear hbel)|(refine wpList_storeW rfl 23 (.tmp 3) (.tmp 15) rfl 3 ori_size (w2.heap.size) 23 rfl [.int .i64 0,.int .i64 0,.int .i64 0] [.int .i64 1,.int .i64 26,.int .i64 3] rfl (RowL.new w2 23 [.int .i64 0,.int .i64 0,.int .i64 0]) rfl rfl (by simp [Value.oneCell']) ?_;intro w3 hr3 hg3 hs3;have R3:=hide hr3;have hb3:=below_stored' hg3;replace HB:=hide (HB.out.trans (hb3.mono HB.out.size));replace HW:=hide (HW.out.below hb3);have hlt3:=hr3.lt;clear hr3 hg3 hs3 hb3)|(go_at_call 15;refine (Base_any w3).mono ?_;rintro ew4 w4 ⟨BU,mU,dU,BL,mL,dL,rfl,hu2,hl2,hbel⟩;replace HB:=hide (HB.out.trans (hbel.mono HB.out.size));replace HW:=hide (HW.out.below hbel);have HU:=hide hu2;have HL:=hide hl2;replace R3:=hide (R3.out.on hbel);clear hu2 hl2;clear hbel)|(go_at_call 11;refine (HFind_e (g:=gB) (cU:=dU) (cL:=dL) aw15_h w4 HU.out HL.out ba_few buF_few).mono ?_;rintro ew5 w5 ⟨A,n,c,C,m,d,rfl,-,-,hbel⟩;replace HB:=hide (HB.out.trans (hbel.mono HB.out.size));replace HW:=hide (HW.out.below hbel);replace R3:=hide (R3.out.on hbel);clear hbel)|(refine wpList_storeW rfl 44 (.tmp 5) (.tmp 21) rfl 13 nod_size (w5.heap.size) 44 rfl (nodC nod0 (.slice none 0 0) (.slice none 0 0)) (nodC ndF (.slice A n c) (.slice C m d)) rfl (RowL.new w5 44 (nodC nod0 (.slice none 0 0) (.slice none 0 0))) rfl rfl (nodC_one _ _ _ _ _ _ _) ?_;intro w6 hr6 hg6 hs6;have R5:=hide hr6;have hb6:=below_stored' hg6;replace HB:=hide (HB.out.trans (hb6.mono HB.out.size));replace R3:=hide (R3.out.on hb6);clear hg6 hs6 hb6 hr6;have q30:w6.cell? ⟨w2.heap.size,0,none⟩=some (.int .i64 1):=R3.out.cell 0;have q31:w6.cell? ⟨w2.heap.size,1,none⟩=some (.int .i64 26):=R3.out.cell 1;have q32:w6.cell? ⟨w2.heap.size,2,none⟩=some (.int .i64 3):=R3.out.cell 2;have q5:w6.cell? ⟨w5.heap.size,0,none⟩=some (.int .i64 2):=R5.out.cell 0)|(refine wpList_loadW rfl 23 (.tmp 3) rfl 3 ori_agg ori_size (w2.heap.size) 23 rfl [.int .i64 1,.int .i64 26,.int .i64 3] R3.out rfl ?_)|(go_at_call 14;refine (HSame_any (a:=(1,26,3)) (b:=(1,26,3)) (r:=true) (by decide) _).mono ?_;rintro e7 w7 ⟨rfl,hbel⟩;replace HB:=hide (HB.out.trans (hbel.mono HB.out.size));clear hbel))
 go_ret
 exact LawOk.of HB.out
end Go.Proofs.YtnhegahpfacdgaaDoor

