import Derived.Test.YtpndfahgflgocaaGreatDoorLn18
import Derived.Test.YtpndfahgflgocaaGreatDoorLn16
import Derived.Test.YtpndfahgflgocaaGreatDoorLn10
import Derived.Test.YtpndfahgflgocaaGreatDoorLn9
import Derived.Test.YtpndfahgflgocaaGreatDoorLn24
import Derived.Test.YtpndfahgflgocaaGreatDoorLn3
import Derived.Test.YtpndfahgflgocaaGreatDoorLn37
import Derived.Test.YtpndfahgflgocaaGreatDoorLn11
import Derived.Test.YtpndfahgflgocaaGreatDoorLn27

namespace Go.Proofs.YtpndfahgflgocaaGreatDoor
open Go.RowKit Go.Shelf Plain

def noE (x:NodV):NodV:={x with ents:=[]}
theorem noE_plain {x:NodV} (h:PlainN x):PlainN (noE x):=by
 refine ⟨fun i e hi he=>absurd hi (by simp [noE]),h.2.1,h.2.2.1,h.2.2.2.1,by simp [noE],h.2.2.2.2.2.1,fun e he=>by simp [noE] at he⟩
theorem noE_few {up:List NodV} {k:Nat} {x:NodV} (h:FewU up) (hx:up[k]?=some x):FewU (up.set k (noE x)):=by
 refine ⟨by rw [List.length_set];exact h.1,fun y hy=>?_⟩
 rcases List.mem_or_eq_of_mem_set hy with h1|h1
 ·exact h.2 y h1
 ·rw [h1];exact noE_plain (h.2 x (List.mem_of_getElem? hx))
theorem noE_nil {up:List NodV} {k:Nat} {x:NodV} (hx:up[k]?=some x):entB (up.set k (noE x)) ((k:Int)+1)=[]:=by
 have hk:=(List.getElem?_eq_some_iff.1 hx).1
 unfold entB
 rw [nodAt_get (j:=k) (n:=noE x) (by rw [List.getElem?_set_self hk])]
 split
 ·rfl
 ·rfl
end Go.Proofs.YtpndfahgflgocaaGreatDoor

namespace Go.Proofs.YtpndfahgflgocaaGreatDoor
open Go.RowKit Go.Shelf Plain

set_option maxRecDepth 100000 in
set_option maxHeartbeats 800000 in
theorem CloneNod_d {B:Nat} {A:Option Addr} {n c:Nat} {l:List NodV} (w:World) (h:RdE nodEn w (Under B) A n l) (hB:B≤w.heap.size) (hn:n≤100000):Calls Tryz.prog 20 #[.slice A n c] w (fun e w'=>∃A' c',e=.returned (.slice A' n c')∧OwD nodEn (Under B) w' w.heap.size 51 A' n c' l∧Below w.heap.size w w'):=by
 have H:=hide h
 cases A with
 | none =>
  have h0:n=0:=by
   rcases Nat.eq_zero_or_pos n with h0|h0
   ·exact h0
   ·obtain ⟨_,_,e,_⟩:=h.2 h0;cases e
  subst h0
  obtain rfl:l=[]:=List.eq_nil_of_length_eq_zero h.1
  have hnil:=fun W=>Lib.run_eql_slice_nil (P:=Tryz.prog) W 24 51 none 0 c 0 0 Tryz.underlying24
  clear h
  go_enter Tryz.func20,Tryz.ntmps20
  go_wp2
  go_ret
  exact ⟨none,0,rfl,OwD.nil_ _ _ _ _ (fun _ h=>Nat.lt_of_lt_of_le h hB),below_self w⟩
 | some a =>
  have hnil:=fun W=>Lib.run_eql_slice_nil (P:=Tryz.prog) W 24 51 (some a) n c 0 0 Tryz.underlying24
  clear h
  go_enter Tryz.func20,Tryz.ntmps20
  go_wp2_with (at_builtin;refine wpList_append_OwD (E:=nodEn) _ rfl (.tmp 5) (.tmp 6) 24 rfl w.heap.size 51 (.agg nodZ.toArray) 144 Tryz.underlying24 nodw_info rfl (by decide) (fun _=>False) (some ⟨w.heap.size,0,none⟩) 0 0 [] rfl (OwD.empty nodEn w 51) (Under B) (some a) n c l rfl (und_at H.out (below_new (below_self w) _) hB) (fun b hb=>⟨by unfold Under at hb;simp;omega,fun a' ha=>by cases ha;exact Nat.ne_of_lt (Nat.lt_of_lt_of_le hb hB)⟩) n (by omega) (by omega) (by omega) (by simp) ?_;intro A5 c5 w5 ho5 hb5;have HO5:=hide ho5;have HB5:=hide hb5;clear ho5 hb5)
  go_ret
  exact ⟨A5,c5,rfl,HO5.out.dom (fun _ h=>h.elim (fun h=>h.elim) (fun h=>h)) (fun _ h=>.inr h),(below_new (below_self w) _).trans HB5.out⟩
end Go.Proofs.YtpndfahgflgocaaGreatDoor

namespace Go.Proofs.YtpndfahgflgocaaGreatDoor
open Go.RowKit Go.Shelf Plain

theorem nodsX_size:∀w,(Go.sizeOf 24).run Tryz.prog w=.ok 1 w:=fun w=>by kernel_rfl
theorem noE_put {D:Nat→Prop} {w w':World} {base g n c i:Nat} {l:List NodV} {x:NodV} {cur:List Value} (h:OwD nodEn D w base 51 (some ⟨g,0,none⟩) n c l) (hx:l[i]?=some x) (hcur:RowL w g 51 cur) (hr:RowL w' g 51 (cur.set (i*13+5) (.slice none 0 0))) (hg:w.grownBy w' (some g)):OwD nodEn D w' base 51 (some ⟨g,0,none⟩) n c (l.set i (noE x)):=by
 have hi:i < n:=by have h1:=(List.getElem?_eq_some_iff.1 hx).1;have h2:=h.len;omega
 obtain ⟨cur',cs,hr',hR,htk,hlen⟩:=h.at hx
 have ecur:cur'=cur:=by
  have:=hr'.symm.trans hcur
  injection this with this
  injection this with this
  simpa using this
 subst ecur
 obtain ⟨A,a,b,C,d,e,h1,h2,h3,h4,h5⟩:=hR
 have hset:cur'.set (i*13+5) (.slice none 0 0)=splice cur' (i*13) (nodC (noE x) (.slice A a b) (.slice none 0 0)):=by
  rw [h1] at htk
  apply List.ext_getElem?
  intro j
  have hl:i*13+13≤cur'.length:=hlen
  rw [splice_get cur' (i*13) _ j (by show i*13+13≤_;omega),List.getElem?_set]
  have hc:∀k,k < 13→cur'[i*13+k]?=(nodC x (.slice A a b) (.slice C d e))[k]?:=fun k hk=>by
   have h6:=congrArg (fun z=>z[k]?) htk
   simp only [List.getElem?_take,List.getElem?_drop] at h6
   rw [if_pos (show k < nodEn.k from hk)] at h6
   exact h6
  by_cases e1:j < i*13
  ·rw [if_pos e1,if_neg (by omega)]
  ·by_cases e2:j < i*13+(nodC (noE x) (.slice A a b) (.slice none 0 0)).length
   ·rw [if_neg e1,if_pos e2]
    have e2:j < i*13+13:=e2
    obtain ⟨k,rfl⟩:∃k,j=i*13+k:=⟨j - i*13,by omega⟩
    have hk:k < 13:=by omega
    rw [show i*13+k - i*13=k from by omega]
    by_cases e3:i*13+5=i*13+k
    ·rw [if_pos e3,if_pos (by omega)]
     obtain rfl:k=5:=by omega
     rfl
    ·rw [if_neg e3,hc k hk]
     obtain rfl|rfl|rfl|rfl|rfl|rfl|rfl|rfl|rfl|rfl|rfl|rfl|rfl:k=0∨k=1∨k=2∨k=3∨k=4∨k=5∨k=6∨k=7∨k=8∨k=9∨k=10∨k=11∨k=12:=by omega
     all_goals first|rfl|omega
   ·rw [if_neg e1,if_neg e2,if_neg (by have:¬j < i*13+13:=e2;omega)]
 rw [hset] at hr
 exact h.put hi (show NodR w D (nodC (noE x) (.slice A a b) (.slice none 0 0)) (noE x) from ⟨A,a,b,none,0,0,rfl,h2,h3,Nat.le_refl _,RdE.none_ _ _ _ _⟩) hcur hr hg
end Go.Proofs.YtpndfahgflgocaaGreatDoor

namespace Go.Proofs.YtpndfahgflgocaaGreatDoor
open Go.RowKit Go.Shelf Plain

theorem finK_one (x:FinV):∀v∈finC x,v.oneCell'=true:=by simp [finC,Value.oneCell']
set_option maxRecDepth 100000 in
theorem finK_agg:∀w,(isAgg 37).run Tryz.prog w=.ok true w:=fun w=>by kernel_rfl
set_option maxRecDepth 100000 in
theorem finK_size:∀w,(Go.sizeOf 37).run Tryz.prog w=.ok 4 w:=fun w=>by kernel_rfl
theorem bit_of8:∀h:Fin 32,(bits .and .i64 (h.1:Int) 8==0)=!decide ((h.1:Int) / 8 % 2=1):=by decide +kernel
theorem bit_of8' {h:Int} (h0:0≤h) (h1:h≤31) (hs:decide (h / 8 % 2=1)=true):(bits .and .i64 h 8==0)=false:=by
 obtain ⟨n,rfl⟩:=Int.eq_ofNat_of_zero_le h0
 have:=bit_of8 ⟨n,by omega⟩
 rw [this,hs]
 rfl
theorem fin_get {w:World} {D:Nat→Prop} {A:Option Addr} {n i:Nat} {l:List FinV} {x:FinV} (h:RdE finEn w D A n l) (hx:l[i]?=some x):∃b o,A=some ⟨b,o,none⟩∧D b∧∀k v,(finC x)[k]?=some v→w.cell? ⟨b,o+i*4+k,none⟩=some v:=by
 have hj:i < l.length:=(List.getElem?_eq_some_iff.1 hx).1
 obtain ⟨b,o,e,hD,hc⟩:=h.2 (by have:=h.1;omega)
 obtain ⟨cs,hR,hcs⟩:=hc i x hx
 have hR:cs=finC x:=hR
 subst hR
 exact ⟨b,o,e,hD,fun k v hv=>by have h1:=hcs k v hv;rw [show finEn.k=4 from rfl,←Nat.add_assoc] at h1;exact h1⟩
set_option maxRecDepth 100000 in
set_option maxHeartbeats 16000000 in
theorem law_LinksNone {g:GeoQ} {AU AL:Option Addr} {nU cU nL cL:Nat} {up:List NodV} {ls:List (List NodV)} (w:World) (hu:RdE nodEn w (Under w.heap.size) AU nU up) (h:RdE layEn w (Under w.heap.size) AL nL ls) (hfu:FineN up) (hfl:∀ns∈ls,FineN ns) (hw:HanW w) :
  Calls Tryz.prog 5 #[.agg (stkC g (.slice AU nU cU) (.slice AL nL cL)).toArray] w (LawOk w):=by
 obtain ⟨W1,hW1⟩:∃W1,(w.alloc (.cells (stkC g (.slice AU nU cU) (.slice AL nL cL)).toArray 29))=W1:=⟨_,rfl⟩
 obtain ⟨r0,hb1,hs1⟩:=rowA1 w _ _ hW1
 have hW1':(w.alloc (.cells #[.int .i64 g.a,.int .i64 g.b,.int .i64 g.c,.int .i64 g.d,.slice AU nU cU,.slice AL nL cL] 29))=W1:=hW1
 have R1:=hide r0
 have HB:=hide hb1
 have hsz0:=hb1.size
 have HU:=hide (hu.under hb1 (Nat.le_refl _))
 have HL:=hide (h.under hb1 (Nat.le_refl _))
 have HFN:=hide hfu
 have HFL:=hide hfl
 have HW:=hide (hw.below hb1)
 have HW0:=hide hw
 have q1_4:W1.cell? ⟨w.heap.size,4,none⟩=some (.slice AU nU cU):=R1.out.cell 4
 unfold stkC
 clear r0 hb1 hW1 hu h hfu hfl hw
 go_enter Tryz.func5,Tryz.ntmps5
 go_wp2_with (first|(refine wpList_loadW rfl 29 (.tmp 1) rfl 6 stk_agg stk_size (w.heap.size) 29 rfl (stkC g (.slice AU nU cU) (.slice AL nL cL)) R1.out rfl ?_))
 clear hW1'
 refine (PStackM_any (by omega) W1 (und_up HU.out (by omega)) (und_up HL.out (by omega)) HFN.out HFL.out).mono ?_
 rintro ee w2 ⟨p,rfl,hb2,hq⟩
 have HQ:=hide hq
 clear q1_4
 replace HB:=hide (HB.out.trans (hb2.mono HB.out.size))
 replace R1:=hide (R1.out.on hb2)
 replace HU:=hide (HU.out.under hb2 (by omega))
 replace HL:=hide (HL.out.under hb2 (by omega))
 replace HW:=hide (HW.out.below hb2)
 have hsz1:=hb2.size
 have q1_4:w2.cell? ⟨w.heap.size,4,none⟩=some (.slice AU nU cU):=R1.out.cell 4
 clear hq hb2
 cases p with
 | false =>
  go_wp2_with fail
  refine (awake26_any _ HW.out).mono ?_
  rintro e98 wz ⟨rfl,hbz⟩
  have HBZ:=hide (HB.out.trans (hbz.mono (by have:=(HB.out).size;omega)))
  clear hbz
  go_wp2_with fail
  go_ret
  exact LawOk.of HBZ.out
 | true =>
  obtain ⟨hF,hfew⟩:=HQ.out (by first|rfl|trivial)
  have hup:FewU up:=⟨by have h1:=hfew.1;omega,hfew.2⟩
  have HF:=hide hF
  have HFU:=hide hup
  clear hF hfew hup HQ HFN HFL
  by_cases hk2:(nU:Int) < 3
  ·have dk2:decide ((nU:Int) < 3)=true:=decide_eq_true hk2
   go_wp2_with fail
   refine (awake26_any _ HW.out).mono ?_
   rintro e98 wz ⟨rfl,hbz⟩
   have HBZ:=hide (HB.out.trans (hbz.mono (by have:=(HB.out).size;omega)))
   clear hbz
   go_wp2_with fail
   go_ret
   exact LawOk.of HBZ.out
  have dk2:decide ((nU:Int) < 3)=false:=decide_eq_false hk2
  have hn3:3≤nU:=by omega
  have hul:up.length=nU:=HU.out.1
  have hn24:nU≤24:=by have:=HFU.out.1;omega
  clear hk2
  go_upto_region 4 with (first|(go_at_call 20;refine (CloneNod_d (B:=w.heap.size) w2 HU.out (by omega) (by omega)).mono ?_;rintro e41 wC ⟨A8,c8,rfl,h8,hbel⟩;clear q1_4;replace HB:=hide (HB.out.trans (hbel.mono HB.out.size));replace R1:=hide (R1.out.on hbel);replace HU:=hide (HU.out.under hbel (by omega));replace HL:=hide (HL.out.under hbel (by omega));replace HW:=hide (HW.out.below hbel);have hsz42:=hbel.size;have q1_4:wC.cell? ⟨w.heap.size,4,none⟩=some (.slice AU nU cU):=R1.out.cell 4;have H8:=hide h8;clear h8;clear hbel)|(refine wpList_storeV rfl 24 (.tmp 25) (.tmp 23) rfl nodsX_size (w.heap.size) 4 29 rfl (.slice A8 nU c8) rfl rfl rfl (stkC g (.slice AU nU cU) (.slice AL nL cL)) R1.out (by show 4 < 6;omega) ?_;intro wS43 hr43 hg43 hs43;replace hr43:RowL wS43 (w.heap.size) 29 [.int .i64 g.a,.int .i64 g.b,.int .i64 g.c,.int .i64 g.d,.slice A8 nU c8,.slice AL nL cL]:=hr43;clear q1_4;replace HB:=hide (HB.out.grown hg43 (by omega) (pu4 (by omega)));replace HU:=hide (und_grown HU.out hg43 (by omega) (by omega));replace HL:=hide (und_grown HL.out hg43 (by omega) (by omega));replace HW:=hide (HW0.out.below HB.out);replace H8:=hide (H8.out.grown hg43 (fun k hk=>by have:=Option.some.inj hk;subst this;exact ⟨by unfold Under;omega,fun a ha=>by have:=H8.out.base8 a ha;omega⟩));have hsz44:=hg43.size;replace R1:=hide hr43;have q1_4:wS43.cell? ⟨w.heap.size,4,none⟩=some (.slice A8 nU c8):=R1.out.cell 4;clear hr43 hg43 hs43))
  obtain ⟨g8,rfl,hg8,hg8l⟩:=H8.out.some_ (by omega)
  obtain ⟨x2,hx2⟩:∃x,up[2]?=some x:=⟨_,List.getElem?_eq_getElem (by omega)⟩
  obtain ⟨cur,cs1,hcur,hR1,htk1,hlen1⟩:=H8.out.at hx2
  have hlen39:39≤cur.length:=by have h9:2*13+13≤cur.length:=hlen1;omega
  have HCUR:=hide hcur
  have HX2:=hide hx2
  have h2n:(2:Int) < (nU:Int):=by omega
  clear hcur hR1 htk1 hlen1 hx2 q1_4
  have q1_4:wS43.cell? ⟨w.heap.size,4,none⟩=some (.slice (some ⟨g8,0,none⟩) nU c8):=R1.out.cell 4
  (try simp only [Act.put])
  go_upto_region 5 with (refine wpList_storeV rfl 45 (.tmp 30) (.const (.slice none 0 0)) rfl ens_size g8 31 51 rfl (.slice none 0 0) rfl rfl rfl cur HCUR.out (by omega) ?_;intro w9 hr9 hg9 hs9;have HO9:=hide (noE_put (i:=2) H8.out HX2.out HCUR.out hr9 hg9);have R19:=hide (R1.out.grown hg9 (pu5 (by omega)));have HB9:=hide (HB.out.grown hg9 (by omega) (pu4 (by omega)));have HL9:=hide (und_up (und_grown HL.out hg9 (by omega) (by omega)) (by have:=hg9.size;omega));have HW9:=hide (HW0.out.below HB9.out);have hs9l:=hg9.size;clear hr9 hg9 hs9)
  obtain ⟨u9,hu9⟩:∃u9,up.set 2 (noE x2)=u9:=⟨_,rfl⟩
  have HU9:=hide (show RdE nodEn w9 (Under w9.heap.size) (some ⟨g8,0,none⟩) nU u9 from by rw [←hu9];exact HO9.out.rd)
  have HF9:=hide (show FewU u9 from by rw [←hu9];exact noE_few HFU.out HX2.out)
  have HE3:=hide (show entB u9 3=[] from by rw [←hu9];exact noE_nil (k:=2) HX2.out)
  have hul9:u9.length=nU:=HU9.out.1
  obtain ⟨r9,hr9⟩:∃r9,reachL u9 (walkW u9 [1]).1=r9:=⟨_,rfl⟩
  have HR9:=hide hr9
  have hr9l:r9.length=nU:=by rw [←hr9,reachL_len,hul9]
  obtain ⟨fl,hfi⟩:∃fl,findK u9 ls r9 r9.length=fl:=⟨_,rfl⟩
  have HFI:=hide hfi
  obtain ⟨nF,hnF⟩:∃nF,fl.length=nF:=⟨_,rfl⟩
  have hnF24:nF≤24:=by have h1:=findK_len u9 ls r9 r9.length;rw [hfi] at h1;omega
  have HFA:=hide (show ∀f∈fl,∃i:Nat,i < nU∧f.i=(i:Int)+1∧saysK (nodAt u9 ((i:Int)+1))=true from fun f hf=>by
   have:=findK_none HE3.out r9.length f (by rw [hfi];exact hf)
   rw [hr9l] at this
   exact this)
  clear hu9 hr9 hfi HO9 HCUR HX2 H8 R1 HB HL HU q1_4
  go_upto_region 6 with (first|(refine wpList_loadW rfl 29 (.tmp 1) rfl 6 stk_agg stk_size (w.heap.size) 29 rfl (stkC g (.slice (some ⟨g8,0,none⟩) nU c8) (.slice AL nL cL)) R19.out rfl ?_)|(go_at_call 18;refine (KFinds_p (g:=g) (n:=nF) HR9.out HFI.out hnF w9 HU9.out HL9.out (by omega) HF.out HF9.out HW9.out).mono ?_;rintro e61 wF ⟨A6,c6,rfl,h6,hbel⟩;replace HB9:=hide (HB9.out.trans (hbel.mono HB9.out.size));replace R19:=hide (R19.out.on hbel);replace HU9:=hide (HU9.out.under hbel (by omega));replace HL9:=hide (HL9.out.under hbel (by omega));replace HW9:=hide (HW9.out.below hbel);have hsz62:=hbel.size;have HFI2:=hide h6;clear h6;clear hbel))
  have q1_4:wF.cell? ⟨w.heap.size,4,none⟩=some (.slice (some ⟨g8,0,none⟩) nU c8):=R19.out.cell 4
  go_wp2_with fail
  clear q1_4
  have hszF:w9.heap.size≤wF.heap.size:=by omega
  go_loopw [37] (fun v37 wr=>∃j:Nat,j≤nU∧v37=.int .i64 j∧Below wF.heap.size wF wr) (fun v37 _=>nU - (intOf v37).toNat)
  case atStart=>exact ⟨0,by omega,rfl,below_self _⟩
  case round =>
   obtain ⟨j,hj,rfl,hbr⟩:=hrel
   have hbsz:=hbr.size
   have HBR:=hide hbr
   have HBr:=hide (HB9.out.trans (hbr.mono (by have:=HB9.out.size;omega)))
   have R1r:=hide (R19.out.on hbr)
   have HUr:=hide (HU9.out.under hbr (by omega))
   have HLr:=hide (HL9.out.under hbr (by omega))
   have HWr:=hide (HW9.out.below hbr)
   have HFr:=hide (HFI2.out.under hbr (by omega))
   clear hbr
   by_cases hlt:j < nU
   ·have hjn:(j:Int) < (nU:Int):=by omega
    have hw1:IntKind.i64.wrap ((j:Int)+1)=(j:Int)+1:=IntWalk.i64_in _ (by omega)
    go_wp2_with (first|(refine wpList_loadW rfl 29 (.tmp 1) rfl 6 stk_agg stk_size (w.heap.size) 29 rfl (stkC g (.slice (some ⟨g8,0,none⟩) nU c8) (.slice AL nL cL)) R1r.out rfl ?_)|(go_at_call 16;refine (KWant_any (g:=g) HR9.out (wantK_none HE3.out _) wr HUr.out HLr.out (by omega) HF.out HF9.out HWr.out).mono ?_;rintro e91 wN ⟨rfl,hbel⟩;replace HBr:=hide (HBr.out.trans (hbel.mono HBr.out.size));replace R1r:=hide (R1r.out.on hbel);replace HUr:=hide (HUr.out.under hbel (by omega));replace HLr:=hide (HLr.out.under hbel (by omega));replace HWr:=hide (HWr.out.below hbel);have hsz92:=hbel.size;have HBR2:=hide (HBR.out.trans (hbel.mono (by omega)));clear hbel))
    go_roundw
    case rel=>exact ⟨j+1,by omega,by go_num,HBR2.out⟩
    case measure=>simp [intOf];omega
   ·obtain rfl:nU=j:=by omega
    have hjn:¬((nU:Int) < (nU:Int)):=by omega
    go_upto_region 13 with fail
    clear HB9 R19 HU9 HL9 HW9 HFI2 HBR
    go_wp2_with fail
    obtain ⟨wS,hwS⟩:∃wS,wS=wr:=⟨_,rfl⟩
    subst hwS
    go_loopw [51] (fun v51 wr=>∃k:Nat,k≤nF∧v51=.int .i64 k∧Below wS.heap.size wS wr) (fun v51 _=>nF - (intOf v51).toNat)
    case atStart=>exact ⟨0,by omega,rfl,below_self _⟩
    case round =>
     obtain ⟨k,hk,rfl,hbr⟩:=hrel
     have hbsz2:=hbr.size
     have HBQ:=hide hbr
     have HBx:=hide (HBr.out.trans (hbr.mono (by have:=HBr.out.size;omega)))
     have R1x:=hide (R1r.out.on hbr)
     have HUx:=hide (HUr.out.under hbr (by omega))
     have HFx:=hide (HFr.out.under hbr (by omega))
     have HWx:=hide (HWr.out.below hbr)
     clear hbr
     by_cases hlt2:k < nF
     ·obtain ⟨f,hf⟩:∃f,fl[k]?=some f:=⟨_,List.getElem?_eq_getElem (by omega)⟩
      obtain ⟨i,hi,hfi,hsay⟩:=HFA.out f (List.mem_of_getElem? hf)
      obtain ⟨fc,fo,fi,fs⟩:=f
      have hfi2:fi=(i:Int)+1:=hfi
      subst hfi2
      obtain ⟨bF,oF,rfl,hbF,hcF⟩:=fin_get HFx.out hf
      have HCF:=hide hcF
      obtain ⟨x,hx⟩:∃x,u9[i]?=some x:=⟨_,List.getElem?_eq_getElem (by omega)⟩
      rw [nodAt_get hx] at hsay
      have hxp:=(HF9.out.2 x (List.mem_of_getElem? hx)).2.2.1
      have hb8:=bit_of8' hxp.1 hxp.2 hsay
      obtain ⟨bN,oN,A0,n0,k0,C0,m0,d0,hE,hD,hC⟩:=nod_cells HUx.out hx
      cases hE
      have HCN:=hide (show wr.cell? ⟨g8,i*13+6,none⟩=some (.int .i64 x.att.h) from by have h1:=hC 6 _ rfl;rw [Nat.zero_add] at h1;exact h1)
      have hg8x:g8 < wr.heap.size:=by have h9:g8 < w9.heap.size:=hD;omega
      have hkn:(k:Int) < (nF:Int):=by omega
      have hin:(i:Int) < (nU:Int):=by omega
      have hlt1:¬(i:Int)+1 < 1:=by omega
      have hgt1:¬(nU:Int) < (i:Int)+1:=by omega
      have hw1:IntKind.i64.wrap ((i:Int)+1 - 1)=(i:Int):=by rw [show (i:Int)+1 - 1=(i:Int) from by omega];exact IntWalk.i64_in _ (by omega)
      clear hf hfi hsay hcF hx hxp hC hD
      go_upto_region 16 with (first|(refine wpList_loadX rfl 37 (.tmp 53) rfl 4 finK_agg finK_size bF (oF+k*4) rfl (finC ⟨fc,fo,(i:Int)+1,fs⟩) HCF.out rfl ?_)|(refine wpList_storeW rfl 37 (.tmp 8) (.tmp 54) rfl 4 finK_size (wr.heap.size) 37 rfl [.int .i64 0,.int .i64 0,.int .i64 0,.int .i64 0] (finC ⟨fc,fo,(i:Int)+1,fs⟩) rfl (RowL.new wr 37 [.int .i64 0,.int .i64 0,.int .i64 0,.int .i64 0]) rfl rfl (finK_one _) ?_;intro w6 hr6 hg6 hs6;have hb6:=below_stored' hg6;have qf2:w6.cell? ⟨wr.heap.size,2,none⟩=some (.int .i64 ((i:Int)+1)):=hr6.cell 2;have q1_4:w6.cell? ⟨w.heap.size,4,none⟩=some (.slice (some ⟨g8,0,none⟩) nU c8):=(R1x.out.on hb6).cell 4;have qn:w6.cell? ⟨g8,i*13+6,none⟩=some (.int .i64 x.att.h):=(hb6.cell (p:=⟨g8,i*13+6,none⟩) hg8x).trans HCN.out;have HBQ6:=hide (HBQ.out.trans (hb6.mono (by omega)));clear hr6 hg6 hs6 hb6))
      go_wp2_with fail
      go_roundw
      case rel=>exact ⟨k+1,by omega,by go_num,HBQ6.out⟩
      case measure=>simp [intOf];omega
     ·obtain rfl:k=nF:=by omega
      have hkn:¬((k:Int) < (k:Int)):=by omega
      go_upto_region 19 with fail
      go_wp2_with (go_at_call 15;refine (awake26_any _ HWx.out).mono ?_;rintro e98 wz ⟨rfl,hbz⟩;have HBZ:=hide (HBx.out.trans (hbz.mono (by have:=HBx.out.size;omega)));clear hbz)
      go_ret
      exact LawOk.of HBZ.out
end Go.Proofs.YtpndfahgflgocaaGreatDoor

namespace Go.Proofs.YtpndfahgflgocaaGreatDoor
open Go.RowKit Go.Shelf Plain Go.WideShapes Go.ChangeShapes

section
variable {H : Type} {enc : TypeId × Value → H} {w : World} {spare : Nat → Bool} {held : Bool}
theorem six_ {l:List Value} (h:l.length=6):∃a b c d e f,l=[a,b,c,d,e,f]:=by
 match l,h with
 | [a,b,c,d,e,f],_=>exact ⟨a,b,c,d,e,f,rfl⟩
set_option maxRecDepth 100000 in
theorem trod_lay {fuel:Nat} {cs:List Value} {y:DataW H×List MemPlace} (hl:cs.length=1) (h:DataW.trod enc Tryz.prog w 0 spare held fuel 26 cs=some y):∃x:List NodV,layEn.R w (Under w.heap.size) cs x∧∀d∈x,d.ents.length≤maxLen:=by
 obtain ⟨c0,rfl⟩:=one_cell hl
 obtain ⟨xs,n,-,-,-,hlen,hp⟩:=DataW.trod_struct Tryz.underlying26 h
 match xs,hlen,hp with
 | [x0],_,hp =>
  obtain ⟨A,n,c,ns,e1,hn,-,r,hfine⟩:=open_rdeF (e:=51) (cs:=[c0]) nodEn (fun x=>x.ents.length≤maxLen) Tryz.underlying24 (by kernel_rfl) (by decide) (fun _ cs _ hl hy=>trod_node hl hy) (hp 0 _ rfl)
  cases e1
  exact ⟨ns,⟨A,n,c,rfl,hn,r⟩,hfine⟩
set_option maxRecDepth 100000 in
theorem open_stack {r:Reach} {b0:Nat} {v:Value} {d:DataW H} {p:List MemPlace} (hv:Value.okWide Tryz.prog w r b0 29 v) (h:DataW.Trod enc Tryz.prog w 0 spare held 29 v d p) :
  ∃(g:GeoQ) (AU AL:Option Addr) (nU cU nL cL:Nat) (up:List NodV) (ls:List (List NodV)),v=.agg (stkC g (.slice AU nU cU) (.slice AL nL cL)).toArray∧nU≤cU∧nL≤cL∧RdE nodEn w (Under w.heap.size) AU nU up∧RdE layEn w (Under w.heap.size) AL nL ls∧(∀x∈up,x.ents.length≤maxLen)∧∀ns∈ls,∀x∈ns,x.ents.length≤maxLen:=by
 obtain ⟨cs,rfl,hsz⟩:=okWide_struct Tryz.underlying29 hv
 have hC:Tryz.prog.cellsOf 29=6:=by kernel_rfl
 obtain ⟨l⟩:=cs
 obtain ⟨c0,c1,c2,c3,c4,c5,rfl⟩:=six_ (l:=l) (hsz.trans hC)
 obtain ⟨fuel,hf⟩:=h
 obtain ⟨xs,n,-,-,-,hlen,hp⟩:=DataW.trod_struct Tryz.underlying29 hf
 match xs,hlen,hp with
 | [x0,x1,x2],_,hp =>
  have p0:=hp 0 _ rfl
  have p1:=hp 1 _ rfl
  obtain ⟨ys,m,-,-,-,hyl,hq⟩:=DataW.trod_struct Tryz.underlying23 (cs:=[c0,c1,c2,c3]) p0
  match ys,hyl,hq with
  | [y0,y1,y2,y3],_,hq =>
   obtain ⟨a0,rfl⟩:=cell_i64 (c:=c0) (hq 0 _ rfl)
   obtain ⟨a1,rfl⟩:=cell_i64 (c:=c1) (hq 1 _ rfl)
   obtain ⟨a2,rfl⟩:=cell_i64 (c:=c2) (hq 2 _ rfl)
   obtain ⟨a3,rfl⟩:=cell_i64 (c:=c3) (hq 3 _ rfl)
   obtain ⟨up,⟨AU,nU,cU,eU,hU,rU⟩,fU⟩:=trod_lay (cs:=[c4]) rfl p1
   obtain ⟨AL,nL,cL,ls,eL,hL,-,rL,fL⟩:=open_rdeF (e:=26) (cs:=[c5]) layEn (fun ns=>∀x∈ns,x.ents.length≤maxLen) Tryz.underlying27 (by kernel_rfl) (by decide) (fun _ cs _ hl hy=>trod_lay hl hy) (hp 2 _ rfl)
   cases eU
   cases eL
   exact ⟨⟨a0,a1,a2,a3⟩,AU,AL,nU,cU,nL,cL,up,ls,rfl,hU,hL,rU,rL,fU,fL⟩
end
end Go.Proofs.YtpndfahgflgocaaGreatDoor

