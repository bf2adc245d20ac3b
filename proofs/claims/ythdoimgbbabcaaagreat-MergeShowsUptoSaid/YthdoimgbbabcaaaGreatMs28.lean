import Derived.Test.YthdoimgbbabcaaaGreatMs23
import Derived.Test.YthdoimgbbabcaaaGreatMs16
import Derived.Test.YthdoimgbbabcaaaGreatMs27
import Derived.Test.YthdoimgbbabcaaaGreatMs26
import Derived.Test.YthdoimgbbabcaaaGreatMs19
import Derived.Deep.QuietTactic
import Derived.BigQuiet

namespace Go.Proofs.YthdoimgbbabcaaaGreat
open Go.RowKit Go.Shelf Plain

def ndZ:NodV:={ndD with ents:=[⟨1,4,[122]⟩]}
def ndW:NodV:={nod0 with k:=4,n:=1}
def upI:List NodV:=[ndZ,ndD,ndD,ndW,nod0]
def upC1 (E:Value):List Value:=nodC ndD (.slice none 0 0) E++(nodC ndD (.slice none 0 0) (.slice none 0 0)++(nodC ndD (.slice none 0 0) (.slice none 0 0)++(nodC nod0 (.slice none 0 0) (.slice none 0 0)++nodC nod0 (.slice none 0 0) (.slice none 0 0))))
def upC2 (E:Value):List Value:=nodC ndD (.slice none 0 0) E++(nodC ndD (.slice none 0 0) (.slice none 0 0)++(nodC ndD (.slice none 0 0) (.slice none 0 0)++(nodC ndW (.slice none 0 0) (.slice none 0 0)++nodC nod0 (.slice none 0 0) (.slice none 0 0))))
theorem up_one (E:Value):splice upC 0 (nodC ndD (.slice none 0 0) E)=upC1 E:=rfl
theorem up_two (E:Value):splice (upC1 E) 39 (nodC ndW (.slice none 0 0) (.slice none 0 0))=upC2 E:=rfl
set_option maxRecDepth 100000 in
set_option maxHeartbeats 1600000 in
theorem Idle_any (w:World):Calls Tryz.prog 62 #[] w (StkRet w gB upI lsB):=by
 obtain ⟨W1,hW1⟩:∃W1,(w.alloc (.cells (stkC ⟨0,0,0,0⟩ (.slice none 0 0) (.slice none 0 0)).toArray 29))=W1:=⟨_,rfl⟩
 obtain ⟨r0,hb1,hs1⟩:=rowA1 w _ _ hW1
 have hW1':(w.alloc (.cells #[.int .i64 0,.int .i64 0,.int .i64 0,.int .i64 0,.slice none 0 0,.slice none 0 0] 29))=W1:=hW1
 have R0:=hide r0
 have HB:=hide hb1
 have hsz0:=hb1.size
 clear r0 hb1 hW1
 go_enter Tryz.func62,Tryz.ntmps62
 go_wp2_with (first|(go_at_call 105;refine (Base_o W1).mono ?_;rintro e1 wB ⟨g0,AL,nL,cL,rfl,hrow,hlay,hg0,hbel⟩;have hg0l:=hrow.lt;replace HB:=hide (HB.out.trans (hbel.mono HB.out.size));replace R0:=hide (R0.out.on hbel);have hsz2:=hbel.size;have HG:=hide hrow;clear hrow;have HLY:=hide hlay;clear hlay;clear hbel)|(refine wpList_storeW rfl 29 (.tmp 1) (.tmp 2) rfl 6 stk_size (wB.heap.size) 29 rfl (stkC ⟨0,0,0,0⟩ (.slice none 0 0) (.slice none 0 0)) (stkC gB (.slice (some ⟨g0,0,none⟩) 5 5) (.slice AL nL cL)) rfl (RowL.new wB 29 (stkC ⟨0,0,0,0⟩ (.slice none 0 0) (.slice none 0 0))) rfl rfl (stkC_one _ _ _ _ _ _ _) ?_;intro wS3 hr3 hg3 hs3;have hzb:=below_stored' hg3;replace HB:=hide (HB.out.trans (hzb.mono HB.out.size));replace R0:=hide (R0.out.on hzb);replace HG:=hide (HG.out.on hzb);replace HLY:=hide (btw_on HLY.out hzb (by omega));have hsz4:=hzb.size;have RS:=hide hr3;have hlt3:=hr3.lt;have q1_4:wS3.cell? ⟨wB.heap.size,4,none⟩=some (.slice (some ⟨g0,0,none⟩) 5 5):=RS.out.cell 4;clear hzb hr3;clear hg3 hs3))
 refine wp_region_planL (fun w'=>Below wS3.heap.size wS3 w') [(0,true),(1,true),(2,true),(3,true),(4,false),(5,false),(6,true)] 7 (by kernel_rfl) (by kernel_rfl) (by kernel_rfl) (by kernel_rfl) (by kernel_rfl) rfl (fun _ _ _ _ _ h=>h) (below_drew (below_self wS3)) (fun hHeld=>?_)
 simp only [planOps,List.filterMap_cons,List.filterMap_nil,List.getElem?_toArray,List.getElem?_cons_succ,List.getElem?_cons_zero,Option.map_some]
 iterate 2
  refine wpPlan_take (v:=?_) (by kernel_rfl) (fun wS hSw=>?_) ?_
  rotate_left
  ·(try dsimp only at hSw);go_simp;(try with_reducible rfl)
  (try simp only [Act.put,pu1,pu2,pu3])
 refine wpPlan_take (v:=?_) (by kernel_rfl) (fun wS hSw=>?_) ?_
 rotate_left
 ·have qx:=((RS.out.on hSw).cell 4).trans (show (stkC gB (.slice (some ⟨g0,0,none⟩) 5 5) (.slice AL nL cL))[4]?=some (.slice (some ⟨g0,0,none⟩) 5 5) from rfl);go_simp;(try with_reducible rfl)
 (try simp only [Act.put,pu1,pu2,pu3])
 refine wpPlan_take (v:=?_) (by kernel_rfl) (fun wS hSw=>?_) ?_
 rotate_left
 ·(try dsimp only at hSw);go_simp;(try with_reducible rfl)
 (try simp only [Act.put,pu1,pu2,pu3])
 refine wpPlan_call (by kernel_rfl) (fun K hK=>?_)
 have hOld:=hide hHeld
 clear hHeld
 have HE0:=hide (RowL.new wS3.drew 42 (cellsE ⟨1,4,[122]⟩))
 unfold Oper.wp execOp
 go_simp
 refine hK.out _ _ (hOld.out.alloc hOld.out.size _) (fun hHeld=>?_)
 clear hK K
 (try simp only [Act.put,pu1,pu2,pu3])
 refine wpPlan_call (by kernel_rfl) (fun K hK=>?_)
 have hOld:=hide hHeld
 clear hHeld
 go_simp
 go_at_call 115
 refine (Dir_any _).mono ?_
 rintro e w' ⟨rfl,hbel⟩
 have HE1:=hide (HE0.out.on hbel)
 clear HE0
 refine hK.out _ _ (hOld.out.trans (hbel.mono hOld.out.size)) (fun hHeld=>?_)
 clear hK K
 (try simp only [Act.put,pu1,pu2,pu3])
 refine wpPlan_take (v:=?_) (by kernel_rfl) (fun wS hSw=>?_) ?_
 rotate_left
 ·(try dsimp only at hSw);go_simp;(try with_reducible rfl)
 (try simp only [Act.put,pu1,pu2,pu3])
 refine wpPlan_end ?_
 refine postL_go rfl (by kernel_rfl) ?_
 have hsx:=hHeld.size
 refine wp_storeC 38 (.tmp 9) (.tmp 8) rfl 13 nod_size g0 0 38 rfl upC (nodC ndD (.slice none 0 0) (.slice (some ⟨wS3.heap.size,0,none⟩) 1 1)) rfl (HG.out.on hHeld) rfl (by decide) (nodC_one _ _ _ _ _ _ _) ?_
 intro w5 hr5 hg5 hs5
 rw [up_one] at hr5
 have HG5:=hide hr5
 have HB5:=hide ((HB.out.trans (hHeld.mono HB.out.size)).grown hg5 (by omega) (pu4 (by omega)))
 have R05:=hide ((R0.out.on hHeld).grown hg5 (pu5 (by omega)))
 have RS5:=hide ((RS.out.on hHeld).grown hg5 (pu5 (by omega)))
 have HE5:=hide (HE1.out.grown hg5 (fun e=>by have:=Option.some.inj e;have:(wS3.drew).heap.size=wS3.heap.size:=rfl;omega))
 have HL5:=hide (btw_grown (btw_on HLY.out hHeld (by omega)) hg5 (by omega) (by omega))
 have hs5l:=hg5.size
 clear hr5 hg5 hs5 hHeld HG R0 RS HE1 HLY HB
 have q4:w5.cell? ⟨wB.heap.size,4,none⟩=some (.slice (some ⟨g0,0,none⟩) 5 5):=RS5.out.cell 4
 (try simp only [Act.put])
 go_wp2_with (first|(refine wpList_storeC rfl 38 (.tmp 14) (.tmp 13) rfl 13 nod_size g0 39 38 rfl (upC1 (.slice (some ⟨wS3.heap.size,0,none⟩) 1 1)) (nodC ndW (.slice none 0 0) (.slice none 0 0)) rfl HG5.out rfl (show 39+13≤65 from (by decide)) (nodC_one _ _ _ _ _ _ _) ?_;intro w6 hr6 hg6 hs6;rw [up_two] at hr6;have HG6:=hide hr6;have HB6:=hide (HB5.out.grown hg6 HB5.out.size (pu4 (by omega)));have R06:=hide (R05.out.grown hg6 (pu5 (by omega)));have RS6:=hide (RS5.out.grown hg6 (pu5 (by omega)));have HE6:=hide (HE5.out.grown hg6 (fun e=>by have:=Option.some.inj e;have:(wS3.drew).heap.size=wS3.heap.size:=rfl;omega));have HL6:=hide (btw_grown HL5.out hg6 (by omega) (by omega));have hs6l:=hg6.size;clear hr6 hg6 hs6)|(refine wpList_loadW rfl 29 (.tmp 1) rfl 6 stk_agg stk_size (wB.heap.size) 29 rfl (stkC gB (.slice (some ⟨g0,0,none⟩) 5 5) (.slice AL nL cL)) RS6.out rfl ?_)|(refine wpList_storeW rfl 29 (.tmp 0) (.tmp 15) rfl 6 stk_size w.heap.size 29 rfl (stkC ⟨0,0,0,0⟩ (.slice none 0 0) (.slice none 0 0)) (stkC gB (.slice (some ⟨g0,0,none⟩) 5 5) (.slice AL nL cL)) rfl R06.out rfl rfl (stkC_one _ _ _ _ _ _ _) ?_;intro w7 hr7 hg7 hs7;have HR7:=hide hr7;have HG7:=hide (HG6.out.grown hg7 (pu5 (by omega)));have HB7:=hide (HB6.out.grown hg7 HB6.out.size (pu4 (by omega)));have HE7:=hide (HE6.out.grown hg7 (fun e=>by have:=Option.some.inj e;have:(wS3.drew).heap.size=wS3.heap.size:=rfl;omega));have HL7:=hide ((btw_grown HL6.out hg7 (by omega) (by omega)).mono (fun _ _=>rfl) (fun b hb=>(show b < w7.heap.size from by have h2:=hb.2;have h3:=hg7.size;omega)):RdE layEn w7 (Under w7.heap.size) AL nL lsB);clear hr7 hg7 hs7))
 have u7:RdE nodEn w7 (Under w7.heap.size) (some ⟨g0,0,none⟩) 5 upI:=nods_row HG7.out HG7.out.lt ⟨none,0,0,_,1,1,rfl,Nat.le_refl _,RdE.none_ _ _ _ _,Nat.le_refl _,ent_row (l:=[⟨1,4,[122]⟩]) HE7.out HE7.out.lt⟩ (ndDR _ _) (ndDR _ _) ⟨none,0,0,none,0,0,rfl,Nat.le_refl _,RdE.none_ _ _ _ _,Nat.le_refl _,RdE.none_ _ _ _ _⟩ (nod0R _ _)
 exact bodyPost_ret (res_cell Tryz.results62 rfl stk_agg stk_size HR7.out rfl) rfl ⟨_,5,5,AL,nL,cL,rfl,u7,HL7.out,HB7.out⟩
end Go.Proofs.YthdoimgbbabcaaaGreat

namespace Go.Proofs.YthdoimgbbabcaaaGreat
open Go.RowKit Go.Shelf Plain

theorem EqS_b {A B:Option Addr} {n m c d:Nat} {l k:List (List UInt8)} {W1 W2:Nat} {b:Bool} (h:(l==k)=b) (w:World) (ha:Rd st w W1 A n l) (hb:Rd st w W2 B m k) (hn:n≤140737488355328) :
  Calls Tryz.prog 36 #[.slice A n c,.slice B m d] w (BRt w b):=by rw [←h];exact EqualS_any w ha hb hn
section
variable {AU AL AP AN : Option Addr} {nU cU nL cL cP cN : Nat}
end
end Go.Proofs.YthdoimgbbabcaaaGreat

namespace Go.Proofs.YthdoimgbbabcaaaGreat
open Go.RowKit Go.Shelf Plain

theorem aw_few:FewU upI:=by
 refine ⟨by decide,fun x hx=>?_⟩
 simp only [upI,List.mem_cons,List.not_mem_nil,or_false] at hx
 rcases hx with rfl|rfl|rfl|rfl|rfl
 ·refine ⟨fun i e hi he=>?_,by decide,by decide,by decide,by decide,by decide,fun e he=>?_⟩
  ·obtain rfl:i=0:=by have:i < 1:=hi;omega
   cases he
   exact ⟨by decide,by decide,fun p h=>absurd h (by omega)⟩
  ·rw [List.mem_singleton.1 he]
   decide
 ·exact ⟨fun i e hi he=>absurd hi (by simp [ndD,nod0]),by decide,by decide,by decide,by decide,by decide,fun e he=>by simp [ndD,nod0] at he⟩
 ·exact ⟨fun i e hi he=>absurd hi (by simp [ndD,nod0]),by decide,by decide,by decide,by decide,by decide,fun e he=>by simp [ndD,nod0] at he⟩
 ·exact ⟨fun i e hi he=>absurd hi (by simp [ndW,nod0]),by decide,by decide,by decide,by decide,by decide,fun e he=>by simp [ndW,nod0] at he⟩
 ·exact plain0
theorem VNames_e {g:GeoQ} {AU AL:Option Addr} {nU cU nL cL B:Nat} {up:List NodV} {ls:List (List NodV)} {u:Int} {AV:Option Addr} {nV cV BV:Nat} {vl:List (Int×Int)} {L:List (List UInt8)} (hL:namesV up ls (u,vl)=L) (w:World) (hu:RdE nodEn w (Under B) AU nU up) (h:RdE layEn w (Under B) AL nL ls) (hB:B≤w.heap.size) (hF:FewL ls) (hup:FewU up) (hv:RdE prEn w (Under BV) AV nV vl) (hBV:BV≤w.heap.size) (hnV:nV≤1000):Calls Tryz.prog 19 #[.agg (stkC g (.slice AU nU cU) (.slice AL nL cL)).toArray,.agg (viwC u (.slice AV nV cV)).toArray] w (NamesO w L):=by rw [←hL];exact VNames_any w hu h hB hF hup hv hBV hnV
end Go.Proofs.YthdoimgbbabcaaaGreat

namespace Go.Proofs.YthdoimgbbabcaaaGreat
open Go.RowKit Go.Shelf Plain

theorem split_few (s:List UInt8):(splitS s).length≤1+s.length:=by
 obtain ⟨q1,q2⟩:=split_iff s
 rw [q2]
 split
 ·rename_i h
  rw [h] at q1
  have hc:cleanB s=true:=by
   cases hc:cleanB s with
   | true=>rfl
   | false=>rw [hc] at q1;cases q1
  exact (names_clean hc).2.2.1
 ·simp
def seenC (k:Int) (d n:Value):List Value:=[.int .i64 k,d,n]
theorem seenC_one (k:Int) (A C:Option Addr) (n c m d:Nat):∀v∈seenC k (.slice A n c) (.slice C m d),v.oneCell'=true:=by
 intro v hv
 simp only [seenC,List.mem_cons,List.not_mem_nil,or_false] at hv
 rcases hv with h|h|h <;> (subst h;rfl)
set_option maxRecDepth 100000 in
theorem seen_agg:∀w,(isAgg 61).run Tryz.prog w=.ok true w:=fun _=>rfl
set_option maxRecDepth 100000 in
theorem seen_size:∀w,(Go.sizeOf 61).run Tryz.prog w=.ok 3 w:=fun _=>rfl
abbrev SeenV:=Int×List UInt8×List (List UInt8)
def noSeen:SeenV:=(0,[],[])
def ofM (up:List NodV) (ls:List (List NodV)) (s:List UInt8):SeenV×Bool:=if splitB s=true then (if (atM up ls (splitS s)).1=0 then (noSeen,false) else if (atM up ls (splitS s)).1=1 then ((1,[],namesV up ls (atM up ls (splitS s)).2.1),true) else (((atM up ls (splitS s)).1,bytM up ls (atM up ls (splitS s)).2.2,[]),true)) else (noSeen,false)
theorem ow_fr {w:World} {base e n c:Nat} {A:Option Addr} {l:List (List UInt8)} (h:Ow st w base e A n c l):RdE Enc.text w (fun b=>base≤b∧b < w.heap.size) A n l:=by
 refine ⟨h.len,fun hn=>?_⟩
 obtain ⟨g,rfl,hb,hl,hc,-⟩:=h.at_ hn
 refine ⟨g,0,rfl,⟨hb,hl⟩,fun i x hx=>⟨[st x],rfl,fun j v hv=>?_⟩⟩
 have hj:j=0:=by have:=(List.getElem?_eq_some_iff.1 hv).1;simpa using this
 subst hj
 obtain rfl:st x=v:=by simpa using hv
 have:=hc i x hx
 simpa [Enc.text,Enc.val] using this
theorem txt_rd {w:World} {B n:Nat} {A:Option Addr} {l:List (List UInt8)} (h:RdE Enc.text w (Under B) A n l):Rd st w B A n l:=by
 refine ⟨h.1,fun hn=>?_⟩
 obtain ⟨b,o,e,hb,hc⟩:=h.2 hn
 refine ⟨b,o,e,hb,fun i x hx=>?_⟩
 obtain ⟨cs,hR,hcs⟩:=hc i x hx
 have hR':cs=[st x]:=hR
 subst hR'
 have:=hcs 0 (st x) rfl
 simpa [Enc.text,Enc.val] using this
def SeenF (w:World) (R:SeenV×Bool) (e:Ending) (w':World):Prop:=∃A n c C m d,e=.returned (.tuple #[.agg (seenC R.1.1 (.slice A n c) (.slice C m d)).toArray,.bool R.2])∧RdE Enc.byte w' (fun b=>w.heap.size≤b∧b < w'.heap.size) A n R.1.2.1∧RdE Enc.text w' (fun b=>w.heap.size≤b∧b < w'.heap.size) C m R.1.2.2∧Below w.heap.size w w'
set_option maxRecDepth 100000 in
set_option maxHeartbeats 8000000 in
theorem MOf_any {g:GeoQ} {AU AL:Option Addr} {nU cU nL cL B:Nat} {up:List NodV} {ls:List (List NodV)} {s:List UInt8} (w:World) (hu:RdE nodEn w (Under B) AU nU up) (h:RdE layEn w (Under B) AL nL ls) (hB:B≤w.heap.size) (hF:FewL ls) (hup:FewU up) (hs:s.length≤1100000):Calls Tryz.prog 26 #[.agg (stkC g (.slice AU nU cU) (.slice AL nL cL)).toArray,.string ⟨s.toArray⟩] w (SeenF w (ofM up ls s)):=by
 obtain ⟨W1,hW1⟩:∃W1,((w.alloc (.cells (stkC g (.slice AU nU cU) (.slice AL nL cL)).toArray 29)).alloc (.cells (seenC 0 (.slice none 0 0) (.slice none 0 0)).toArray 61))=W1:=⟨_,rfl⟩
 obtain ⟨r0,r1,hb1,hs1⟩:=rowA2 w _ _ _ _ hW1
 have hW1':((w.alloc (.cells #[.int .i64 g.a,.int .i64 g.b,.int .i64 g.c,.int .i64 g.d,.slice AU nU cU,.slice AL nL cL] 29)).alloc (.cells #[.int .i64 0,.slice none 0 0,.slice none 0 0] 61))=W1:=hW1
 have R2:=hide r0
 have R4:=hide r1
 have HB:=hide hb1
 have hsz0:=hb1.size
 have HU:=hide (hu.under hb1 hB)
 have HL:=hide (h.under hb1 hB)
 have HF:=hide hF
 have HFU:=hide hup
 have hll:ls.length≤100:=by have:=hF.1;omega
 obtain ⟨sl,hsl⟩:∃sl,splitS s=sl:=⟨_,rfl⟩
 obtain ⟨b,hsb⟩:∃b,splitB s=b:=⟨_,rfl⟩
 have HSL:=hide hsl
 have HSB:=hide hsb
 have hsn:sl.length≤1100001:=by rw [←hsl];have:=split_few s;omega
 obtain ⟨S,hS⟩:∃S,atM up ls sl=S:=⟨_,rfl⟩
 have HR:=hide hS
 have hSn:S.2.1.2.length≤1000:=by rw [←hS];have:=at_few up ls sl;omega
 unfold ofM
 rw [hsl,hsb,hS]
 unfold stkC
 clear r0 r1 hb1 hW1 hu h hF hup hsl hsb hS
 cases b
 ·rw [if_neg (by simp)]
  unfold noSeen
  go_enter Tryz.func26,Tryz.ntmps26
  go_wp2_with (first|(go_at_call 39;refine (PSplit_of HSL.out HSB.out W1 hs).mono ?_;rintro e1 wP ⟨A3,n3,c3,rfl,ho3,hbel⟩;have h3:=ho3.rd;replace HB:=hide (HB.out.trans (hbel.mono HB.out.size));replace R2:=hide (R2.out.on hbel);replace R4:=hide (R4.out.on hbel);replace HU:=hide (HU.out.under hbel (by omega));replace HL:=hide (HL.out.under hbel (by omega));have hsz2:=hbel.size;have HN:=hide h3;clear h3;clear ho3;clear hbel)|(refine wpList_storeW rfl 61 (.tmp 4) (.tmp 18) rfl 3 seen_size (w.heap.size+1) 61 rfl (seenC 0 (.slice none 0 0) (.slice none 0 0)) (seenC 0 (.slice none 0 0) (.slice none 0 0)) rfl R4.out rfl rfl (seenC_one _ _ _ _ _ _ _) ?_;intro wS3 hr3 hg3 hs3;replace HB:=hide (HB.out.grown hg3 (by omega) (pu4 (by omega)));replace R2:=hide (R2.out.grown hg3 (pu5 (by omega)));replace HU:=hide (und_grown HU.out hg3 (by omega) (by omega));replace HL:=hide (und_grown HL.out hg3 (by omega) (by omega));have hsz4:=hg3.size;replace R4:=hide hr3;clear hr3 hg3 hs3))
  exact bodyPost_ret (res_ct Tryz.results26 rfl rfl seen_agg seen_size R4.out rfl) rfl ⟨none,0,0,none,0,0,rfl,RdE.none_ _ _ _ _,RdE.none_ _ _ _ _,HB.out⟩
 ·rw [if_pos rfl]
  by_cases h0:S.1=0
  ·rw [if_pos h0]
   unfold noSeen
   have h01:(S.1==0)=true:=by simpa using h0
   clear h0
   go_enter Tryz.func26,Tryz.ntmps26
   go_wp2_with (first|(go_at_call 39;refine (PSplit_of HSL.out HSB.out W1 hs).mono ?_;rintro e1 wP ⟨A3,n3,c3,rfl,ho3,hbel⟩;have h3:=ho3.rd;replace HB:=hide (HB.out.trans (hbel.mono HB.out.size));replace R2:=hide (R2.out.on hbel);replace R4:=hide (R4.out.on hbel);replace HU:=hide (HU.out.under hbel (by omega));replace HL:=hide (HL.out.under hbel (by omega));have hsz2:=hbel.size;have HN:=hide h3;clear h3;clear ho3;clear hbel)|(refine wpList_loadW rfl 29 (.tmp 2) rfl 6 stk_agg stk_size (w.heap.size) 29 rfl (stkC g (.slice AU nU cU) (.slice AL nL cL)) R2.out rfl ?_)|(go_at_call 21;refine (MAt_any HR.out wP HU.out HL.out (by omega) HF.out HFU.out HN.out (Nat.le_refl _) (by have:=HN.out.1;omega)).mono ?_;rintro e3 wA ⟨A5,c5,rfl,h5,hbel⟩;replace HB:=hide (HB.out.trans (hbel.mono HB.out.size));replace R2:=hide (R2.out.on hbel);replace R4:=hide (R4.out.on hbel);replace HU:=hide (HU.out.under hbel (by omega));replace HL:=hide (HL.out.under hbel (by omega));replace HN:=hide (HN.out.below (hbel.mono (by omega)));have hsz4:=hbel.size;have H5:=hide h5;clear h5;clear hbel)|(obtain ⟨hz9,hz10,hzb,hzs⟩:=rows2 wA (viwC 0 (.slice none 0 0)) (prC (0,0)) 47 49;refine wpList_storeW rfl 47 (.tmp 9) (.tmp 24) rfl 2 viw_size (wA.heap.size) 47 rfl (viwC 0 (.slice none 0 0)) (viwC S.2.1.1 (.slice A5 S.2.1.2.length c5)) rfl hz9 rfl rfl (viwC_one _ _ _ _) ?_;intro wS5 hr5 hg5 hs5;replace hzb:=hzb.grown hg5 hzb.size (pu4 (by omega));replace hz10:=hz10.grown hg5 (pu5 (by omega));have hz9:=hr5;clear hg5 hs5 hr5)|(refine wpList_storeW rfl 49 (.tmp 10) (.tmp 25) rfl 2 plc_size (wA.heap.size+1) 49 rfl (prC (0,0)) (prC S.2.2) rfl hz10 rfl rfl (prC_one _) ?_;intro wS6 hr6 hg6 hs6;replace hzb:=hzb.grown hg6 hzb.size (pu4 (by omega));replace hz9:=hz9.grown hg6 (pu5 (by omega));have hz10:=hr6;replace HB:=hide (HB.out.trans (hzb.mono HB.out.size));replace R2:=hide (R2.out.on hzb);replace R4:=hide (R4.out.on hzb);replace HU:=hide (HU.out.under hzb (by omega));replace HL:=hide (HL.out.under hzb (by omega));replace HN:=hide (HN.out.below (hzb.mono (by omega)));replace H5:=hide (fr_on H5.out hzb);have hsz7:=hzb.size;have R9:=hide hz9;have hlt5:=hz9.lt;have R10:=hide hz10;have hlt6:=hz10.lt;clear hzb hzs hz9 hz10;clear hg6 hs6)|(refine wpList_storeW rfl 61 (.tmp 4) (.tmp 29) rfl 3 seen_size (w.heap.size+1) 61 rfl (seenC 0 (.slice none 0 0) (.slice none 0 0)) (seenC 0 (.slice none 0 0) (.slice none 0 0)) rfl R4.out rfl rfl (seenC_one _ _ _ _ _ _ _) ?_;intro wS8 hr8 hg8 hs8;replace HB:=hide (HB.out.grown hg8 (by omega) (pu4 (by omega)));replace R2:=hide (R2.out.grown hg8 (pu5 (by omega)));replace HU:=hide (und_grown HU.out hg8 (by omega) (by omega));replace HL:=hide (und_grown HL.out hg8 (by omega) (by omega));replace H5:=hide (fr_grown H5.out hg8 (by omega));replace R9:=hide (R9.out.grown hg8 (pu5 (by omega)));replace R10:=hide (R10.out.grown hg8 (pu5 (by omega)));have hsz9:=hg8.size;replace R4:=hide hr8;clear hr8 hg8 hs8))
   exact bodyPost_ret (res_ct Tryz.results26 rfl rfl seen_agg seen_size R4.out rfl) rfl ⟨none,0,0,none,0,0,rfl,RdE.none_ _ _ _ _,RdE.none_ _ _ _ _,HB.out⟩
  ·rw [if_neg h0]
   have h01:(S.1==0)=false:=by simpa using h0
   by_cases h1:S.1=1
   ·rw [if_pos h1,←h1]
    have h11:(S.1==1)=true:=by simpa using h1
    obtain ⟨L,hL⟩:∃L,namesV up ls S.2.1=L:=⟨_,rfl⟩
    have HNV:=hide (show namesV up ls (S.2.1.1,S.2.1.2)=L from hL)
    rw [hL]
    clear h0 h1 hL
    go_enter Tryz.func26,Tryz.ntmps26
    go_wp2_with (first|(go_at_call 39;refine (PSplit_of HSL.out HSB.out W1 hs).mono ?_;rintro e1 wP ⟨A3,n3,c3,rfl,ho3,hbel⟩;have h3:=ho3.rd;replace HB:=hide (HB.out.trans (hbel.mono HB.out.size));replace R2:=hide (R2.out.on hbel);replace R4:=hide (R4.out.on hbel);replace HU:=hide (HU.out.under hbel (by omega));replace HL:=hide (HL.out.under hbel (by omega));have hsz2:=hbel.size;have HN:=hide h3;clear h3;clear ho3;clear hbel)|(refine wpList_loadW rfl 29 (.tmp 2) rfl 6 stk_agg stk_size (w.heap.size) 29 rfl (stkC g (.slice AU nU cU) (.slice AL nL cL)) R2.out rfl ?_)|(go_at_call 21;refine (MAt_any HR.out wP HU.out HL.out (by omega) HF.out HFU.out HN.out (Nat.le_refl _) (by have:=HN.out.1;omega)).mono ?_;rintro e3 wA ⟨A5,c5,rfl,h5,hbel⟩;replace HB:=hide (HB.out.trans (hbel.mono HB.out.size));replace R2:=hide (R2.out.on hbel);replace R4:=hide (R4.out.on hbel);replace HU:=hide (HU.out.under hbel (by omega));replace HL:=hide (HL.out.under hbel (by omega));replace HN:=hide (HN.out.below (hbel.mono (by omega)));have hsz4:=hbel.size;have H5:=hide h5;clear h5;clear hbel)|(obtain ⟨hz9,hz10,hzb,hzs⟩:=rows2 wA (viwC 0 (.slice none 0 0)) (prC (0,0)) 47 49;refine wpList_storeW rfl 47 (.tmp 9) (.tmp 24) rfl 2 viw_size (wA.heap.size) 47 rfl (viwC 0 (.slice none 0 0)) (viwC S.2.1.1 (.slice A5 S.2.1.2.length c5)) rfl hz9 rfl rfl (viwC_one _ _ _ _) ?_;intro wS5 hr5 hg5 hs5;replace hzb:=hzb.grown hg5 hzb.size (pu4 (by omega));replace hz10:=hz10.grown hg5 (pu5 (by omega));have hz9:=hr5;clear hg5 hs5 hr5)|(refine wpList_storeW rfl 49 (.tmp 10) (.tmp 25) rfl 2 plc_size (wA.heap.size+1) 49 rfl (prC (0,0)) (prC S.2.2) rfl hz10 rfl rfl (prC_one _) ?_;intro wS6 hr6 hg6 hs6;replace hzb:=hzb.grown hg6 hzb.size (pu4 (by omega));replace hz9:=hz9.grown hg6 (pu5 (by omega));have hz10:=hr6;replace HB:=hide (HB.out.trans (hzb.mono HB.out.size));replace R2:=hide (R2.out.on hzb);replace R4:=hide (R4.out.on hzb);replace HU:=hide (HU.out.under hzb (by omega));replace HL:=hide (HL.out.under hzb (by omega));replace HN:=hide (HN.out.below (hzb.mono (by omega)));replace H5:=hide (fr_on H5.out hzb);have hsz7:=hzb.size;have R9:=hide hz9;have hlt5:=hz9.lt;have R10:=hide hz10;have hlt6:=hz10.lt;clear hzb hzs hz9 hz10;clear hg6 hs6)|(refine wpList_loadW rfl 29 (.tmp 2) rfl 6 stk_agg stk_size (w.heap.size) 29 rfl (stkC g (.slice AU nU cU) (.slice AL nL cL)) R2.out rfl ?_)|(refine wpList_loadW rfl 47 (.tmp 9) rfl 2 viw_agg viw_size (wA.heap.size) 47 rfl (viwC S.2.1.1 (.slice A5 S.2.1.2.length c5)) R9.out rfl ?_)|(go_at_call 19;refine (VNames_e (u:=S.2.1.1) (cV:=c5) HNV.out wS6 HU.out HL.out (by omega) HF.out HFU.out (fr_under H5.out) (Nat.le_refl _) (by omega)).mono ?_;rintro e8 wM ⟨A6,n6,c6,rfl,h6,hbel⟩;replace HB:=hide (HB.out.trans (hbel.mono HB.out.size));replace R2:=hide (R2.out.on hbel);replace R4:=hide (R4.out.on hbel);replace HU:=hide (HU.out.under hbel (by omega));replace HL:=hide (HL.out.under hbel (by omega));replace H5:=hide (fr_on H5.out hbel);replace R9:=hide (R9.out.on hbel);replace R10:=hide (R10.out.on hbel);have hsz9:=hbel.size;have H6:=hide (fr_low (ow_fr h6) (by omega));clear h6;clear hbel)|(refine wpList_storeW rfl 61 (.tmp 4) (.tmp 36) rfl 3 seen_size (w.heap.size+1) 61 rfl (seenC 0 (.slice none 0 0) (.slice none 0 0)) (seenC S.1 (.slice none 0 0) (.slice A6 n6 c6)) rfl R4.out rfl rfl (seenC_one _ _ _ _ _ _ _) ?_;intro wS10 hr10 hg10 hs10;replace HB:=hide (HB.out.grown hg10 (by omega) (pu4 (by omega)));replace R2:=hide (R2.out.grown hg10 (pu5 (by omega)));replace HU:=hide (und_grown HU.out hg10 (by omega) (by omega));replace HL:=hide (und_grown HL.out hg10 (by omega) (by omega));replace H5:=hide (fr_grown H5.out hg10 (by omega));replace R9:=hide (R9.out.grown hg10 (pu5 (by omega)));replace R10:=hide (R10.out.grown hg10 (pu5 (by omega)));replace H6:=hide (fr_grown H6.out hg10 (by omega));have hsz11:=hg10.size;replace R4:=hide hr10;clear hr10 hg10 hs10))
    exact bodyPost_ret (res_ct Tryz.results26 rfl rfl seen_agg seen_size R4.out rfl) rfl ⟨none,0,0,A6,n6,c6,rfl,RdE.none_ _ _ _ _,fr_low H6.out (by omega),HB.out⟩
   ·rw [if_neg h1]
    have h11:(S.1==1)=false:=by simpa using h1
    obtain ⟨L,hL⟩:∃L,bytM up ls S.2.2=L:=⟨_,rfl⟩
    have HBY:=hide hL
    rw [hL]
    clear h0 h1 hL
    go_enter Tryz.func26,Tryz.ntmps26
    go_wp2_with (first|(go_at_call 39;refine (PSplit_of HSL.out HSB.out W1 hs).mono ?_;rintro e1 wP ⟨A3,n3,c3,rfl,ho3,hbel⟩;have h3:=ho3.rd;replace HB:=hide (HB.out.trans (hbel.mono HB.out.size));replace R2:=hide (R2.out.on hbel);replace R4:=hide (R4.out.on hbel);replace HU:=hide (HU.out.under hbel (by omega));replace HL:=hide (HL.out.under hbel (by omega));have hsz2:=hbel.size;have HN:=hide h3;clear h3;clear ho3;clear hbel)|(refine wpList_loadW rfl 29 (.tmp 2) rfl 6 stk_agg stk_size (w.heap.size) 29 rfl (stkC g (.slice AU nU cU) (.slice AL nL cL)) R2.out rfl ?_)|(go_at_call 21;refine (MAt_any HR.out wP HU.out HL.out (by omega) HF.out HFU.out HN.out (Nat.le_refl _) (by have:=HN.out.1;omega)).mono ?_;rintro e3 wA ⟨A5,c5,rfl,h5,hbel⟩;replace HB:=hide (HB.out.trans (hbel.mono HB.out.size));replace R2:=hide (R2.out.on hbel);replace R4:=hide (R4.out.on hbel);replace HU:=hide (HU.out.under hbel (by omega));replace HL:=hide (HL.out.under hbel (by omega));replace HN:=hide (HN.out.below (hbel.mono (by omega)));have hsz4:=hbel.size;have H5:=hide h5;clear h5;clear hbel)|(obtain ⟨hz9,hz10,hzb,hzs⟩:=rows2 wA (viwC 0 (.slice none 0 0)) (prC (0,0)) 47 49;refine wpList_storeW rfl 47 (.tmp 9) (.tmp 24) rfl 2 viw_size (wA.heap.size) 47 rfl (viwC 0 (.slice none 0 0)) (viwC S.2.1.1 (.slice A5 S.2.1.2.length c5)) rfl hz9 rfl rfl (viwC_one _ _ _ _) ?_;intro wS5 hr5 hg5 hs5;replace hzb:=hzb.grown hg5 hzb.size (pu4 (by omega));replace hz10:=hz10.grown hg5 (pu5 (by omega));have hz9:=hr5;clear hg5 hs5 hr5)|(refine wpList_storeW rfl 49 (.tmp 10) (.tmp 25) rfl 2 plc_size (wA.heap.size+1) 49 rfl (prC (0,0)) (prC S.2.2) rfl hz10 rfl rfl (prC_one _) ?_;intro wS6 hr6 hg6 hs6;replace hzb:=hzb.grown hg6 hzb.size (pu4 (by omega));replace hz9:=hz9.grown hg6 (pu5 (by omega));have hz10:=hr6;replace HB:=hide (HB.out.trans (hzb.mono HB.out.size));replace R2:=hide (R2.out.on hzb);replace R4:=hide (R4.out.on hzb);replace HU:=hide (HU.out.under hzb (by omega));replace HL:=hide (HL.out.under hzb (by omega));replace HN:=hide (HN.out.below (hzb.mono (by omega)));replace H5:=hide (fr_on H5.out hzb);have hsz7:=hzb.size;have R9:=hide hz9;have hlt5:=hz9.lt;have R10:=hide hz10;have hlt6:=hz10.lt;clear hzb hzs hz9 hz10;clear hg6 hs6)|(refine wpList_loadW rfl 29 (.tmp 2) rfl 6 stk_agg stk_size (w.heap.size) 29 rfl (stkC g (.slice AU nU cU) (.slice AL nL cL)) R2.out rfl ?_)|(refine wpList_loadW rfl 49 (.tmp 10) rfl 2 plc_agg plc_size (wA.heap.size+1) 49 rfl (prC S.2.2) R10.out rfl ?_)|(go_at_call 24;refine (MBytes_any HBY.out wS6 HU.out HL.out (by omega) HF.out HFU.out).mono ?_;rintro e8 wM ⟨A6,c6,rfl,h6,hbel⟩;replace HB:=hide (HB.out.trans (hbel.mono HB.out.size));replace R2:=hide (R2.out.on hbel);replace R4:=hide (R4.out.on hbel);replace HU:=hide (HU.out.under hbel (by omega));replace HL:=hide (HL.out.under hbel (by omega));replace H5:=hide (fr_on H5.out hbel);replace R9:=hide (R9.out.on hbel);replace R10:=hide (R10.out.on hbel);have hsz9:=hbel.size;have H6:=hide (fr_low (own_fr h6) (by omega));clear h6;clear hbel)|(refine wpList_storeW rfl 61 (.tmp 4) (.tmp 41) rfl 3 seen_size (w.heap.size+1) 61 rfl (seenC 0 (.slice none 0 0) (.slice none 0 0)) (seenC S.1 (.slice A6 L.length c6) (.slice none 0 0)) rfl R4.out rfl rfl (seenC_one _ _ _ _ _ _ _) ?_;intro wS10 hr10 hg10 hs10;replace HB:=hide (HB.out.grown hg10 (by omega) (pu4 (by omega)));replace R2:=hide (R2.out.grown hg10 (pu5 (by omega)));replace HU:=hide (und_grown HU.out hg10 (by omega) (by omega));replace HL:=hide (und_grown HL.out hg10 (by omega) (by omega));replace H5:=hide (fr_grown H5.out hg10 (by omega));replace R9:=hide (R9.out.grown hg10 (pu5 (by omega)));replace R10:=hide (R10.out.grown hg10 (pu5 (by omega)));replace H6:=hide (fr_grown H6.out hg10 (by omega));have hsz11:=hg10.size;replace R4:=hide hr10;clear hr10 hg10 hs10))
    exact bodyPost_ret (res_ct Tryz.results26 rfl rfl seen_agg seen_size R4.out rfl) rfl ⟨A6,L.length,c6,none,0,0,rfl,fr_low H6.out (by omega),RdE.none_ _ _ _ _,HB.out⟩
set_option maxRecDepth 100000 in
set_option maxHeartbeats 4000000 in
theorem MSame_any {S R:SeenV} {A1 A2 C1 C2:Option Addr} {n1 c1 n2 c2 m1 d1 m2 d2:Nat} {b:Bool} (hr:decide (S=R)=b) (w:World) (h1:Bs w w.heap.size A1 n1 S.2.1) (h2:Bs w w.heap.size A2 n2 R.2.1) (k1:Rd st w w.heap.size C1 m1 S.2.2) (k2:Rd st w w.heap.size C2 m2 R.2.2) (hm1:m1≤100000000) :
  Calls Tryz.prog 75 #[.agg (seenC S.1 (.slice A1 n1 c1) (.slice C1 m1 d1)).toArray,.agg (seenC R.1 (.slice A2 n2 c2) (.slice C2 m2 d2)).toArray] w (BoolB w b):=by
 obtain ⟨W1,hW1⟩:∃W1,((w.alloc (.cells (seenC S.1 (.slice A1 n1 c1) (.slice C1 m1 d1)).toArray 61)).alloc (.cells (seenC R.1 (.slice A2 n2 c2) (.slice C2 m2 d2)).toArray 61))=W1:=⟨_,rfl⟩
 obtain ⟨r0,r1,hb1,hs1⟩:=rowA2 w _ _ _ _ hW1
 have hW1':((w.alloc (.cells #[.int .i64 S.1,.slice A1 n1 c1,.slice C1 m1 d1] 61)).alloc (.cells #[.int .i64 R.1,.slice A2 n2 c2,.slice C2 m2 d2] 61))=W1:=hW1
 have R2:=hide r0
 have R3:=hide r1
 have HB:=hide hb1
 have hsz0:=hb1.size
 have HD1:=hide (h1.below hb1)
 have HD2:=hide (h2.below hb1)
 have HN1:=hide (k1.below hb1)
 have HN2:=hide (k2.below hb1)
 obtain ⟨x,hx⟩:∃x,(S.2.1==R.2.1)=x:=⟨_,rfl⟩
 obtain ⟨y,hy⟩:∃y,(S.2.2==R.2.2)=y:=⟨_,rfl⟩
 have hm1':m1≤140737488355328:=by omega
 obtain ⟨k,s1,s2⟩:=S
 obtain ⟨k',r1,r2⟩:=R
 have hbx:b=(decide (k=k')&&(x&&y)):=by
  rw [←hr,←hx,←hy,Bool.eq_iff_iff]
  simp [Prod.ext_iff]
 dsimp only at hx hy HD1 HD2 HN1 HN2 R2 R3
 have HX:=hide hx
 have HY:=hide hy
 have q2_0:W1.cell? ⟨w.heap.size,0,none⟩=some (.int .i64 k):=R2.out.cell 0
 have q3_0:W1.cell? ⟨w.heap.size+1,0,none⟩=some (.int .i64 k'):=R3.out.cell 0
 have q2_1:W1.cell? ⟨w.heap.size,1,none⟩=some (.slice A1 n1 c1):=R2.out.cell 1
 have q3_1:W1.cell? ⟨w.heap.size+1,1,none⟩=some (.slice A2 n2 c2):=R3.out.cell 1
 have q2_2:W1.cell? ⟨w.heap.size,2,none⟩=some (.slice C1 m1 d1):=R2.out.cell 2
 have q3_2:W1.cell? ⟨w.heap.size+1,2,none⟩=some (.slice C2 m2 d2):=R3.out.cell 2
 unfold seenC
 subst hbx
 clear r0 r1 hb1 hW1 h1 h2 k1 k2 hx hy hr
 dsimp only
 by_cases hk:k=k'
 ·have hk1:(k==k')=true:=by simpa using hk
  rw [decide_eq_true hk]
  clear hk
  cases x
  ·go_enter Tryz.func75,Tryz.ntmps75
   go_wp2_with (first|(go_at_call 23;refine (BEqual_b W1 HD1.out HD2.out HX.out).mono ?_;rintro e1 w9 ⟨rfl,rfl⟩))
   go_ret
   exact BoolB.of HB.out
  ·cases y
   ·go_enter Tryz.func75,Tryz.ntmps75
    go_wp2_with (first|(go_at_call 23;refine (BEqual_b W1 HD1.out HD2.out HX.out).mono ?_;rintro e1 w9 ⟨rfl,rfl⟩)|(go_at_call 36;refine (EqS_b HY.out W1 HN1.out HN2.out hm1').mono ?_;rintro e2 wS ⟨rfl,hbel⟩;have HBX:=hide hbel;clear hbel))
    go_ret
    exact BoolB.of (HB.out.trans (HBX.out.mono (by omega)))
   ·go_enter Tryz.func75,Tryz.ntmps75
    go_wp2_with (first|(go_at_call 23;refine (BEqual_b W1 HD1.out HD2.out HX.out).mono ?_;rintro e1 w9 ⟨rfl,rfl⟩)|(go_at_call 36;refine (EqS_b HY.out W1 HN1.out HN2.out hm1').mono ?_;rintro e2 wS ⟨rfl,hbel⟩;have HBX:=hide hbel;clear hbel))
    go_ret
    exact BoolB.of (HB.out.trans (HBX.out.mono (by omega)))
 ·have hk1:(k==k')=false:=by simpa using hk
  rw [decide_eq_false hk]
  clear hk
  go_enter Tryz.func75,Tryz.ntmps75
  go_wp2_with fail
  go_ret
  exact BoolB.of HB.out
end Go.Proofs.YthdoimgbbabcaaaGreat

namespace Go.Proofs.YthdoimgbbabcaaaGreat
open Go.RowKit Go.Shelf Plain

set_option maxHeartbeats 800000 in
theorem RSame1_b {A B:Option Addr} {n m c d:Nat} {l k:List UInt8} {W1 W2:Nat} {r:Bool} (h:(l==k)=r) (w:World) (ha:Bs w W1 A n l) (hb:Bs w W2 B m k) (hn:n≤140737488355328) :
  Calls Tryz.prog 87 #[.slice A n c,.slice B m d] w (BoolB w r):=by
 have HR:=hide h
 have HA:=hide ha
 have HB:=hide hb
 by_cases hnm:n=m
 ·subst hnm
  clear h ha hb
  have hd:((n:Int) != (n:Int))=false:=by simp
  go_enter Tryz.func87,Tryz.ntmps87
  go_wp2
  go_loopw [5] (fun i wr=>∃j q:Nat,j≤n∧i=.int .i64 j∧l.take j=k.take j∧wr=w.drewN q) (fun i _=>n - (intOf i).toNat)
  case atStart=>exact ⟨0,0,by omega,rfl,rfl,rfl⟩
  case round =>
   obtain ⟨j,q,hj,rfl,htake,rfl⟩:=hrel
   have HT:=hide htake
   clear htake
   by_cases hlt:j < n
   ·obtain ⟨b1,o1,rfl,_,hc1⟩:=HA.out.2 (by omega)
    obtain ⟨b2,o2,rfl,_,hc2⟩:=HB.out.2 (by omega)
    have hl1:j < l.length:=by rw [HA.out.len];exact hlt
    have hl2:j < k.length:=by rw [HB.out.len];exact hlt
    have hx1:=hc1 j l[j] (List.getElem?_eq_getElem hl1)
    have hx2:=hc2 j k[j] (List.getElem?_eq_getElem hl2)
    clear hc1 hc2
    obtain ⟨x,hx⟩:∃x:Nat,x=l[j].toNat:=⟨_,rfl⟩
    obtain ⟨y,hy⟩:∃y:Nat,y=k[j].toNat:=⟨_,rfl⟩
    simp only [bv,←hx] at hx1
    simp only [bv,←hy] at hx2
    by_cases hxy:x=y
    ·have hjj:l[j]=k[j]:=UInt8.toNat_inj.1 (by rw [←hx,←hy,hxy])
     have ht2:l.take (j+1)=k.take (j+1):=by
      rw [List.take_succ_eq_append_getElem hl1,List.take_succ_eq_append_getElem hl2,HT.out,hjj]
     have HT2:=hide ht2
     have hne:((x:Int) != (y:Int))=false:=by simp [hxy]
     clear hx hy hjj ht2 hxy
     go_wp2
     go_quiet (fail)
     go_wp2
     go_roundw
     case rel=>exact ⟨j+1,_,by omega,by go_num,HT2.out,rfl⟩
     case measure=>simp [intOf];omega
    ·have hre:r=false:=by
      rw [←HR.out]
      simp only [beq_eq_false_iff_ne,ne_eq]
      intro e
      apply hxy
      subst e
      rw [hx,hy]
     have hne:((x:Int) != (y:Int))=true:=by simp;omega
     have HRE:=hide hre
     clear hx hy hre hxy
     go_wp2
     go_quiet (fail)
     go_wp2
     go_ret
     rw [HRE.out]
     exact BoolB.of (below_drewN (below_drewN (below_self w) _) _)
   ·obtain rfl:j=n:=by omega
    have hre:r=true:=by
     rw [←HR.out]
     have e:=HT.out
     rw [List.take_of_length_le (by rw [HA.out.len];exact Nat.le_refl _),List.take_of_length_le (by rw [HB.out.len];exact Nat.le_refl _)] at e
     simp [e]
    have HRE:=hide hre
    clear hre
    go_wp2
    go_ret
    rw [HRE.out]
    exact BoolB.of (below_drewN (below_self w) _)
 ·have hr:r=false:=by
   rw [←h]
   simp only [beq_eq_false_iff_ne,ne_eq]
   intro e
   exact hnm (by rw [←ha.len,←hb.len,e])
  subst hr
  clear h ha hb
  have hd:((n:Int) != (m:Int))=true:=by simp;omega
  go_enter Tryz.func87,Tryz.ntmps87
  go_wp2
  go_ret
  exact BoolB.of (below_self w)
set_option maxHeartbeats 800000 in
theorem RSame3_b {A B:Option Addr} {n m c d:Nat} {l k:List (List UInt8)} {W1 W2:Nat} {r:Bool} (h:(l==k)=r) (w:World) (ha:Rd st w W1 A n l) (hb:Rd st w W2 B m k) (hn:n≤140737488355328) :
  Calls Tryz.prog 88 #[.slice A n c,.slice B m d] w (BoolB w r):=by
 have HR:=hide h
 have HA:=hide ha
 have HB:=hide hb
 by_cases hnm:n=m
 ·subst hnm
  clear h ha hb
  have hd:((n:Int) != (n:Int))=false:=by simp
  go_enter Tryz.func88,Tryz.ntmps88
  go_wp2
  go_loopw [5] (fun i wr=>∃j q:Nat,j≤n∧i=.int .i64 j∧l.take j=k.take j∧wr=w.drewN q) (fun i _=>n - (intOf i).toNat)
  case atStart=>exact ⟨0,0,by omega,rfl,rfl,rfl⟩
  case round =>
   obtain ⟨j,q,hj,rfl,htake,rfl⟩:=hrel
   have HT:=hide htake
   clear htake
   by_cases hlt:j < n
   ·have hl1:j < l.length:=by rw [HA.out.len];exact hlt
    have hl2:j < k.length:=by rw [HB.out.len];exact hlt
    obtain ⟨x,hx⟩:∃x,l[j]?=some x:=⟨_,List.getElem?_eq_getElem hl1⟩
    obtain ⟨y,hy⟩:∃y,k[j]?=some y:=⟨_,List.getElem?_eq_getElem hl2⟩
    obtain ⟨b1,o1,rfl,_,hx1⟩:=st_cell HA.out hx
    obtain ⟨b2,o2,rfl,_,hx2⟩:=st_cell HB.out hy
    have ht2:l.take (j+1)=k.take (j+1)↔x=y:=by
     rw [List.take_add_one,List.take_add_one,hx,hy,HT.out]
     simp
    by_cases hxy:x=y
    ·have HT2:=hide (ht2.2 hxy)
     subst hxy
     have hne:(x==x)=true:=by simp
     have hne2:(x != x)=false:=by simp
     clear hx hy ht2
     go_wp2
     go_quiet (fail)
     go_wp2
     go_roundw
     case rel=>exact ⟨j+1,_,by omega,by go_num,HT2.out,rfl⟩
     case measure=>simp [intOf];omega
    ·have hre:r=false:=by
      rw [←HR.out]
      simp only [beq_eq_false_iff_ne,ne_eq]
      intro e
      apply hxy
      exact ht2.1 (by rw [e])
     have hne:(x==y)=false:=by simp [hxy]
     have hne2:(x != y)=true:=by simp [hxy]
     have HRE:=hide hre
     clear hx hy hre hxy ht2
     go_wp2
     go_quiet (fail)
     go_wp2
     go_ret
     rw [HRE.out]
     exact BoolB.of (below_drewN (below_drewN (below_self w) _) _)
   ·obtain rfl:j=n:=by omega
    have hre:r=true:=by
     rw [←HR.out]
     have e:=HT.out
     rw [List.take_of_length_le (by rw [HA.out.len];exact Nat.le_refl _),List.take_of_length_le (by rw [HB.out.len];exact Nat.le_refl _)] at e
     simp [e]
    have HRE:=hide hre
    clear hre
    go_wp2
    go_ret
    rw [HRE.out]
    exact BoolB.of (below_drewN (below_self w) _)
 ·have hr:r=false:=by
   rw [←h]
   simp only [beq_eq_false_iff_ne,ne_eq]
   intro e
   exact hnm (by rw [←ha.len,←hb.len,e])
  subst hr
  clear h ha hb
  have hd:((n:Int) != (m:Int))=true:=by simp;omega
  go_enter Tryz.func88,Tryz.ntmps88
  go_wp2
  go_ret
  exact BoolB.of (below_self w)
end Go.Proofs.YthdoimgbbabcaaaGreat

