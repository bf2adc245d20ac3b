import Derived.Test.YtmhiohnkjpglfaaGreatSn30
import Derived.Test.YtmhiohnkjpglfaaGreatSn22
import Derived.Test.YtmhiohnkjpglfaaGreatSn23
import Derived.Test.YtmhiohnkjpglfaaGreatSn17
import Derived.Test.YtmhiohnkjpglfaaGreatSn15
import Derived.Test.YtmhiohnkjpglfaaGreatSn33
import Derived.Test.YtmhiohnkjpglfaaGreatSn18
import Derived.Test.YtmhiohnkjpglfaaGreatSn16

namespace Go.Proofs.YtmhiohnkjpglfaaGreat
open Go.RowKit Go.Shelf Plain

def beginM (up:List NodV) (ls:List (List NodV)):StepV:=(1,rootV up ls,if (rootV up ls).1=0 then (rootV up ls).2.headD (0,0) else (0,1))
def goM (up:List NodV) (ls:List (List NodV)) (c:StepV) (nm:List UInt8):StepV:=if c.1=1 then stepV up ls c.2.1 nm else noStep
def atM (up:List NodV) (ls:List (List NodV)) (l:List (List UInt8)):StepV:=l.foldl (goM up ls) (beginM up ls)
theorem go_few {up:List NodV} {ls:List (List NodV)} {c:StepV} {nm:List UInt8} (h:c.2.1.2.length≤ls.length):(goM up ls c nm).2.1.2.length≤ls.length:=by
 unfold goM
 split
 ·have:=stepV_len up ls c.2.1 nm
  omega
 ·simp [noStep]
theorem fold_few {up : List NodV} {ls : List (List NodV)} : ∀ (l : List (List UInt8)) (c : StepV), c.2.1.2.length ≤ ls.length → (l.foldl (goM up ls) c).2.1.2.length ≤ ls.length
 | [],_,h=>h
 | _::r,_,h=>fold_few r _ (go_few h)
theorem at_few (up:List NodV) (ls:List (List NodV)) (l:List (List UInt8)):(atM up ls l).2.1.2.length≤ls.length:=fold_few l _ (rootV_len up ls)
theorem at_take (up:List NodV) (ls:List (List NodV)) {l:List (List UInt8)} {j:Nat} {x:List UInt8} (h:l[j]?=some x):atM up ls (l.take (j+1))=goM up ls (atM up ls (l.take j)) x:=by
 unfold atM;rw [List.take_add_one,h,List.foldl_append]
 rfl
def comC (S:StepV) (s:Value):List Value:=[.int .i64 S.2.1.1,s,.int .i64 S.2.2.1,.int .i64 S.2.2.2,.int .i64 S.1]
theorem comC_one (S:StepV) (A:Option Addr) (n c:Nat):∀v∈comC S (.slice A n c),v.oneCell'=true:=by
 intro v hv;simp only [comC,List.mem_cons,List.not_mem_nil,or_false] at hv
 rcases hv with h|h|h|h|h <;> (subst h;rfl)
set_option maxRecDepth 100000 in
theorem com_agg:∀w,(isAgg 115).run Tryz.prog w=.ok true w:=fun _=>rfl
set_option maxRecDepth 100000 in
theorem com_size:∀w,(Go.sizeOf 115).run Tryz.prog w=.ok 5 w:=fun _=>rfl
def ComF (lo:Nat) (w:World) (S:StepV) (e:Ending) (w':World):Prop:=∃A c,e=.returned (.agg (comC S (.slice A S.2.1.2.length c)).toArray)∧RdE prEn w' (fun b=>lo≤b∧b < w'.heap.size) A S.2.1.2.length S.2.1.2∧Below w.heap.size w w'
theorem fr_btw {α:Type} {E:Enc α} {w:World} {lo hi:Nat} {A:Option Addr} {n:Nat} {l:List α} (h:RdE E w (fun b=>lo≤b∧b < hi) A n l) (hh:hi≤w.heap.size):RdE E w (fun b=>lo≤b∧b < w.heap.size) A n l:=h.mono (fun _ _=>rfl) (fun _ hb=>⟨hb.1,Nat.lt_of_lt_of_le hb.2 hh⟩)
theorem hcel {w w':World} {b o B:Nat} {p:Int×Int} (h:∀(j:Nat) (v:Value),(prC p)[j]?=some v→w.cell? ⟨b,o+j,none⟩=some v) (hb:Below B w w') (hlt:b < B):∀(j:Nat) (v:Value),(prC p)[j]?=some v→w'.cell? ⟨b,o+j,none⟩=some v:=fun j v hv=>(hb.cell (p:=⟨b,o+j,none⟩) hlt).trans (h j v hv)
set_option maxRecDepth 100000 in
set_option maxHeartbeats 8000000 in
theorem MBegin_any {g:GeoQ} {AU AL:Option Addr} {nU cU nL cL B:Nat} {up:List NodV} {ls:List (List NodV)} (w:World) (hu:RdE nodEn w (Under B) AU nU up) (h:RdE layEn w (Under B) AL nL ls) (hB:B≤w.heap.size) (hF:FewL ls) (hup:FewU up):Calls Tryz.prog 65 #[.agg (stkC g (.slice AU nU cU) (.slice AL nL cL)).toArray] w (ComF w.heap.size w (beginM up ls)):=by
 obtain ⟨W1,hW1⟩:∃W1,((w.alloc (.cells (stkC g (.slice AU nU cU) (.slice AL nL cL)).toArray 29)).alloc (.cells (comC noStep (.slice none 0 0)).toArray 115))=W1:=⟨_,rfl⟩;obtain ⟨r0,r1,hb1,hs1⟩:=rowA2 w _ _ _ _ hW1;have hW1':((w.alloc (.cells #[.int .i64 g.a,.int .i64 g.b,.int .i64 g.c,.int .i64 g.d,.slice AU nU cU,.slice AL nL cL] 29)).alloc (.cells #[.int .i64 0,.slice none 0 0,.int .i64 0,.int .i64 0,.int .i64 0] 115))=W1:=hW1;have R1:=hide r0;have R2:=hide r1;have HB:=hide hb1;have hsz0:=hb1.size;have HU:=hide (hu.under hb1 hB);have HL:=hide (h.under hb1 hB);have HF:=hide hF;have HFU:=hide hup;obtain ⟨V,hV⟩:∃V,rootV up ls=V:=⟨_,rfl⟩;have HV:=hide hV;unfold beginM;rw [hV];obtain ⟨u,vl⟩:=V;unfold stkC;clear r0 r1 hb1 hW1 hu h hF hup hV;dsimp only
 by_cases hu0:u=0
 ·have hu1:(u != 0)=false:=by simpa using hu0
  rw [if_pos hu0];clear hu0
  by_cases hl0:vl.length=0
  ·obtain rfl:=List.eq_nil_of_length_eq_zero hl0
   rw [show ([]:List (Int×Int)).headD (0,0)=(0,0) from rfl];clear hl0
   go_enter Tryz.func65,Tryz.ntmps65
   go_wp2_with (first|(refine qo rfl 29 (.tmp 1) rfl 6 stk_agg stk_size (w.heap.size) 29 rfl (stkC g (.slice AU nU cU) (.slice AL nL cL)) R1.out rfl ?_)|(go_at_call 76;refine (VRoot_e HV.out W1 HU.out HL.out (by omega) HF.out HFU.out).mono ?_;rintro e1 wR ⟨A6,c6,rfl,h6,qg⟩;replace HB:=hide (HB.out.trans (qg.mono HB.out.size));replace R1:=hide (R1.out.on qg);replace R2:=hide (R2.out.on qg);replace HU:=hide (HU.out.under qg (by omega));replace HL:=hide (HL.out.under qg (by omega));have hsz2:=qg.size;have H6:=hide h6;clear h6;simp only [viwC,List.length_nil];clear qg)|(refine ql rfl 115 (.tmp 3) (.tmp 6) rfl 5 com_size (wR.heap.size) 115 rfl (comC noStep (.slice none 0 0)) (comC (1,(u,[]),(0,0)) (.slice A6 0 c6)) rfl (RowL.new wR 115 (comC noStep (.slice none 0 0))) rfl rfl (comC_one _ _ _ _) ?_;intro wS3 hr3 hg3 hs3;have hzb:=below_stored' hg3;replace HB:=hide (HB.out.trans (hzb.mono HB.out.size));replace R1:=hide (R1.out.on hzb);replace R2:=hide (R2.out.on hzb);replace HU:=hide (HU.out.under hzb (by omega));replace HL:=hide (HL.out.under hzb (by omega));replace H6:=hide (btw_on H6.out hzb (by omega));have hsz4:=hzb.size;have R3:=hide hr3;have hlt3:=hr3.lt;have q3_0:wS3.cell? ⟨wR.heap.size,0,none⟩=some (.int .i64 u):=R3.out.cell 0;have q3_1:wS3.cell? ⟨wR.heap.size,1,none⟩=some (.slice A6 0 c6):=R3.out.cell 1;clear hzb hr3;clear hg3 hs3)|(refine qo rfl 115 (.tmp 3) rfl 5 com_agg com_size (wR.heap.size) 115 rfl (comC (1,(u,[]),(0,0)) (.slice A6 0 c6)) R3.out rfl ?_)|(refine ql rfl 115 (.tmp 2) (.tmp 26) rfl 5 com_size (w.heap.size+1) 115 rfl (comC noStep (.slice none 0 0)) (comC (1,(u,[]),(0,0)) (.slice A6 0 c6)) rfl R2.out rfl rfl (comC_one _ _ _ _) ?_;intro wS5 hr5 hg5 hs5;clear q3_0 q3_1;replace HB:=hide (HB.out.grown hg5 (by omega) (pu4 (by omega)));replace R1:=hide (R1.out.grown hg5 (pu5 (by omega)));replace HU:=hide (und_grown HU.out hg5 (by omega) (by omega));replace HL:=hide (und_grown HL.out hg5 (by omega) (by omega));replace H6:=hide (btw_grown H6.out hg5 (by omega) (by omega));replace R3:=hide (R3.out.grown hg5 (pu5 (by omega)));have hsz6:=hg5.size;replace R2:=hide hr5;have q3_0:wS5.cell? ⟨wR.heap.size,0,none⟩=some (.int .i64 u):=R3.out.cell 0;have q3_1:wS5.cell? ⟨wR.heap.size,1,none⟩=some (.slice A6 0 c6):=R3.out.cell 1;clear hr5 hg5 hs5))
   exact bodyPost_ret (res_cell Tryz.results65 rfl com_agg com_size R2.out rfl) rfl ⟨_,c6,rfl,fr_low (fr_btw H6.out (by omega)) (by omega),HB.out⟩
  ·have hl1:decide ((0:Int) < (vl.length:Int))=true:=decide_eq_true (by omega)
   have hl2:0 < vl.length:=by omega
   obtain ⟨p,hp0⟩:∃p,vl[0]?=some p:=⟨_,List.getElem?_eq_getElem hl2⟩;rw [show vl.headD (0,0)=p from by cases vl with|nil=>simp at hl2|cons a r=>simpa using hp0];clear hl0
   go_enter Tryz.func65,Tryz.ntmps65
   go_wp2_with (first|(refine qo rfl 29 (.tmp 1) rfl 6 stk_agg stk_size (w.heap.size) 29 rfl (stkC g (.slice AU nU cU) (.slice AL nL cL)) R1.out rfl ?_)|(go_at_call 76;refine (VRoot_e HV.out W1 HU.out HL.out (by omega) HF.out HFU.out).mono ?_;rintro e1 wR ⟨A6,c6,rfl,h6,qg⟩;replace HB:=hide (HB.out.trans (qg.mono HB.out.size));replace R1:=hide (R1.out.on qg);replace R2:=hide (R2.out.on qg);replace HU:=hide (HU.out.under qg (by omega));replace HL:=hide (HL.out.under qg (by omega));have hsz2:=qg.size;have H6:=hide h6;clear h6;simp only [viwC];obtain ⟨bP,oP,rfl,hbP,hcP⟩:=pr_get H6.out hp0;have hbP2:bP < wR.heap.size:=hbP.2;have HCP:=hide (fun (j:Nat) (v:Value) (hv:(prC p)[j]?=some v)=>show wR.cell? ⟨bP,oP+j,none⟩=some v from by have:=hcP j v hv;simpa using this);clear hcP hbP;clear qg)|(refine ql rfl 115 (.tmp 3) (.tmp 6) rfl 5 com_size (wR.heap.size) 115 rfl (comC noStep (.slice none 0 0)) (comC (1,(u,vl),(0,0)) (.slice (some ⟨bP,oP,none⟩) vl.length c6)) rfl (RowL.new wR 115 (comC noStep (.slice none 0 0))) rfl rfl (comC_one _ _ _ _) ?_;intro wS3 hr3 hg3 hs3;have hzb:=below_stored' hg3;replace HB:=hide (HB.out.trans (hzb.mono HB.out.size));replace R1:=hide (R1.out.on hzb);replace R2:=hide (R2.out.on hzb);replace HU:=hide (HU.out.under hzb (by omega));replace HL:=hide (HL.out.under hzb (by omega));replace H6:=hide (btw_on H6.out hzb (by omega));replace HCP:=hide (hcel HCP.out hzb (by omega));have hsz4:=hzb.size;have R3:=hide hr3;have hlt3:=hr3.lt;have q3_0:wS3.cell? ⟨wR.heap.size,0,none⟩=some (.int .i64 u):=R3.out.cell 0;have q3_1:wS3.cell? ⟨wR.heap.size,1,none⟩=some (.slice (some ⟨bP,oP,none⟩) vl.length c6):=R3.out.cell 1;clear hzb hr3;clear hg3 hs3)|(refine wpList_loadX rfl 31 (.tmp 23) rfl 2 plc_agg plc_size bP oP rfl (prC p) HCP.out rfl ?_)|(refine wpList_storeC rfl 31 (.tmp 25) (.tmp 24) rfl 2 plc_size (wR.heap.size) 2 115 rfl (comC (1,(u,vl),(0,0)) (.slice (some ⟨bP,oP,none⟩) vl.length c6)) (prC p) rfl R3.out rfl (by show 4≤5;omega) (prC_one _) ?_;intro wS5 hr5 hg5 hs5;replace hr5:RowL wS5 (wR.heap.size) 115 (comC (1,(u,vl),p) (.slice (some ⟨bP,oP,none⟩) vl.length c6)):=hr5;clear q3_0 q3_1;replace HB:=hide (HB.out.grown hg5 (by omega) (pu4 (by omega)));replace R1:=hide (R1.out.grown hg5 (pu5 (by omega)));replace R2:=hide (R2.out.grown hg5 (pu5 (by omega)));replace HU:=hide (und_grown HU.out hg5 (by omega) (by omega));replace HL:=hide (und_grown HL.out hg5 (by omega) (by omega));replace H6:=hide (btw_grown H6.out hg5 (by omega) (by omega));have hsz6:=hg5.size;replace R3:=hide hr5;have q3_0:wS5.cell? ⟨wR.heap.size,0,none⟩=some (.int .i64 u):=R3.out.cell 0;have q3_1:wS5.cell? ⟨wR.heap.size,1,none⟩=some (.slice (some ⟨bP,oP,none⟩) vl.length c6):=R3.out.cell 1;clear hr5 hg5 hs5)|(refine qo rfl 115 (.tmp 3) rfl 5 com_agg com_size (wR.heap.size) 115 rfl (comC (1,(u,vl),p) (.slice (some ⟨bP,oP,none⟩) vl.length c6)) R3.out rfl ?_)|(refine ql rfl 115 (.tmp 2) (.tmp 26) rfl 5 com_size (w.heap.size+1) 115 rfl (comC noStep (.slice none 0 0)) (comC (1,(u,vl),p) (.slice (some ⟨bP,oP,none⟩) vl.length c6)) rfl R2.out rfl rfl (comC_one _ _ _ _) ?_;intro wS7 hr7 hg7 hs7;clear q3_0 q3_1;replace HB:=hide (HB.out.grown hg7 (by omega) (pu4 (by omega)));replace R1:=hide (R1.out.grown hg7 (pu5 (by omega)));replace HU:=hide (und_grown HU.out hg7 (by omega) (by omega));replace HL:=hide (und_grown HL.out hg7 (by omega) (by omega));replace H6:=hide (btw_grown H6.out hg7 (by omega) (by omega));replace R3:=hide (R3.out.grown hg7 (pu5 (by omega)));have hsz8:=hg7.size;replace R2:=hide hr7;have q3_0:wS7.cell? ⟨wR.heap.size,0,none⟩=some (.int .i64 u):=R3.out.cell 0;have q3_1:wS7.cell? ⟨wR.heap.size,1,none⟩=some (.slice (some ⟨bP,oP,none⟩) vl.length c6):=R3.out.cell 1;clear hr7 hg7 hs7))
   exact bodyPost_ret (res_cell Tryz.results65 rfl com_agg com_size R2.out rfl) rfl ⟨_,c6,rfl,fr_low (fr_btw H6.out (by omega)) (by omega),HB.out⟩
 ·have hu1:(u != 0)=true:=by simpa using hu0
  rw [if_neg hu0];clear hu0
  go_enter Tryz.func65,Tryz.ntmps65
  go_wp2_with (first|(refine qo rfl 29 (.tmp 1) rfl 6 stk_agg stk_size (w.heap.size) 29 rfl (stkC g (.slice AU nU cU) (.slice AL nL cL)) R1.out rfl ?_)|(go_at_call 76;refine (VRoot_e HV.out W1 HU.out HL.out (by omega) HF.out HFU.out).mono ?_;rintro e1 wR ⟨A6,c6,rfl,h6,qg⟩;replace HB:=hide (HB.out.trans (qg.mono HB.out.size));replace R1:=hide (R1.out.on qg);replace R2:=hide (R2.out.on qg);replace HU:=hide (HU.out.under qg (by omega));replace HL:=hide (HL.out.under qg (by omega));have hsz2:=qg.size;have H6:=hide h6;clear h6;simp only [viwC];clear qg)|(refine ql rfl 115 (.tmp 3) (.tmp 6) rfl 5 com_size (wR.heap.size) 115 rfl (comC noStep (.slice none 0 0)) (comC (1,(u,vl),(0,0)) (.slice A6 vl.length c6)) rfl (RowL.new wR 115 (comC noStep (.slice none 0 0))) rfl rfl (comC_one _ _ _ _) ?_;intro wS3 hr3 hg3 hs3;have hzb:=below_stored' hg3;replace HB:=hide (HB.out.trans (hzb.mono HB.out.size));replace R1:=hide (R1.out.on hzb);replace R2:=hide (R2.out.on hzb);replace HU:=hide (HU.out.under hzb (by omega));replace HL:=hide (HL.out.under hzb (by omega));replace H6:=hide (btw_on H6.out hzb (by omega));have hsz4:=hzb.size;have R3:=hide hr3;have hlt3:=hr3.lt;have q3_0:wS3.cell? ⟨wR.heap.size,0,none⟩=some (.int .i64 u):=R3.out.cell 0;have q3_1:wS3.cell? ⟨wR.heap.size,1,none⟩=some (.slice A6 vl.length c6):=R3.out.cell 1;clear hzb hr3;clear hg3 hs3)|(refine wpList_storeV rfl 3 (.tmp 13) (Operand.const (Value.int IntKind.i64 1)) rfl int_size (wR.heap.size) 3 115 rfl (.int .i64 1) rfl rfl rfl (comC (1,(u,vl),(0,0)) (.slice A6 vl.length c6)) R3.out (by show 3 < 5;omega) ?_;intro wS5 hr5 hg5 hs5;replace hr5:RowL wS5 (wR.heap.size) 115 (comC (1,(u,vl),(0,1)) (.slice A6 vl.length c6)):=hr5;clear q3_0 q3_1;replace HB:=hide (HB.out.grown hg5 (by omega) (pu4 (by omega)));replace R1:=hide (R1.out.grown hg5 (pu5 (by omega)));replace R2:=hide (R2.out.grown hg5 (pu5 (by omega)));replace HU:=hide (und_grown HU.out hg5 (by omega) (by omega));replace HL:=hide (und_grown HL.out hg5 (by omega) (by omega));replace H6:=hide (btw_grown H6.out hg5 (by omega) (by omega));have hsz6:=hg5.size;replace R3:=hide hr5;have q3_0:wS5.cell? ⟨wR.heap.size,0,none⟩=some (.int .i64 u):=R3.out.cell 0;have q3_1:wS5.cell? ⟨wR.heap.size,1,none⟩=some (.slice A6 vl.length c6):=R3.out.cell 1;clear hr5 hg5 hs5)|(refine qo rfl 115 (.tmp 3) rfl 5 com_agg com_size (wR.heap.size) 115 rfl (comC (1,(u,vl),(0,1)) (.slice A6 vl.length c6)) R3.out rfl ?_)|(refine ql rfl 115 (.tmp 2) (.tmp 26) rfl 5 com_size (w.heap.size+1) 115 rfl (comC noStep (.slice none 0 0)) (comC (1,(u,vl),(0,1)) (.slice A6 vl.length c6)) rfl R2.out rfl rfl (comC_one _ _ _ _) ?_;intro wS7 hr7 hg7 hs7;clear q3_0 q3_1;replace HB:=hide (HB.out.grown hg7 (by omega) (pu4 (by omega)));replace R1:=hide (R1.out.grown hg7 (pu5 (by omega)));replace HU:=hide (und_grown HU.out hg7 (by omega) (by omega));replace HL:=hide (und_grown HL.out hg7 (by omega) (by omega));replace H6:=hide (btw_grown H6.out hg7 (by omega) (by omega));replace R3:=hide (R3.out.grown hg7 (pu5 (by omega)));have hsz8:=hg7.size;replace R2:=hide hr7;have q3_0:wS7.cell? ⟨wR.heap.size,0,none⟩=some (.int .i64 u):=R3.out.cell 0;have q3_1:wS7.cell? ⟨wR.heap.size,1,none⟩=some (.slice A6 vl.length c6):=R3.out.cell 1;clear hr7 hg7 hs7))
  exact bodyPost_ret (res_cell Tryz.results65 rfl com_agg com_size R2.out rfl) rfl ⟨_,c6,rfl,fr_low (fr_btw H6.out (by omega)) (by omega),HB.out⟩
end Go.Proofs.YtmhiohnkjpglfaaGreat

namespace Go.Proofs.YtmhiohnkjpglfaaGreat
open Go.RowKit Plain

theorem at_snoc (up:List NodV) (ls:List (List NodV)) (l:List (List UInt8)) (x:List UInt8):atM up ls (l++[x])=goM up ls (atM up ls l) x:=by
 unfold atM;rw [List.foldl_append]
 rfl
def atX (up:List NodV) (ls:List (List NodV)) (n:List (List UInt8)):ShnV:=(pathC n,(atM up ls n).1,(atM up ls n).2.2)
theorem tour_at (up : List NodV) (ls : List (List NodV)) : ∀ k, (∀ s ∈ (tourS up ls k).1, (atM up ls s.2).1 = 1 ∧ (atM up ls s.2).2.1 = s.1) ∧ (tourS up ls k).2 = (tourN up ls k).map (atX up ls)
 | 0=>by
  refine ⟨fun s hs=>?_,rfl⟩;simp only [tourS,List.mem_singleton] at hs;rw [hs];exact ⟨rfl,rfl⟩
 | k+1=>by
  obtain ⟨i1,i2⟩:=tour_at up ls k
  cases hs:(tourS up ls k).1[k]? with
  | none =>
   rw [(tourN_none hs).1,(tourN_none hs).2];exact ⟨i1,i2⟩
  | some s =>
   obtain ⟨a1,a2⟩:=i1 s (List.mem_of_getElem? hs)
   have hstep:∀x,atM up ls (s.2++[x])=stepV up ls s.1 x:=fun x=>by
    rw [at_snoc];unfold goM;rw [if_pos a1,a2]
   rw [tour_some hs,tourN_some hs];refine ⟨fun t ht=>?_,?_⟩
   ·rcases List.mem_append.1 ht with h|h
    ·exact i1 t h
    ·unfold nextS at h
     obtain ⟨x,hx,rfl⟩:=List.mem_map.1 h;have hd:=(List.mem_filter.1 hx).2
     show (atM up ls (s.2++[x])).1=1∧(atM up ls (s.2++[x])).2.1=(stepV up ls s.1 x).2.1
     rw [hstep];exact ⟨by simpa [dirX] using hd,rfl⟩
   ·show (tourS up ls k).2++toldS up ls s=_
    rw [List.map_append,i2]
    congr 1
    unfold toldS toldN;rw [List.map_map];refine List.map_congr_left fun x _=>?_
    show (pathC (s.2++[x]),(stepV up ls s.1 x).1,(stepV up ls s.1 x).2.2)=(pathC (s.2++[x]),(atM up ls (s.2++[x])).1,(atM up ls (s.2++[x])).2.2)
    rw [hstep]
theorem tour_up (up : List NodV) (ls : List (List NodV)) : ∀ (k i : Nat) (n : List (List UInt8)), (tourN up ls k)[i]? = some n → ∃ p x, n = p ++ [x] ∧ (p = [] ∨ ∃ j : Nat, j < i ∧ (tourN up ls k)[j]? = some p)
 | 0,i,n,h=>by simp [tourN] at h
 | k+1,i,n,h=>by
  cases hs:(tourS up ls k).1[k]? with
  | none =>
   rw [(tourN_none hs).1] at h ⊢;exact tour_up up ls k i n h
  | some s =>
   rw [tourN_some hs] at h ⊢
   by_cases hi:i < (tourN up ls k).length
   ·rw [List.getElem?_append_left hi] at h
    obtain ⟨p,x,e,hp⟩:=tour_up up ls k i n h;refine ⟨p,x,e,hp.imp id fun ⟨j,hj,hp⟩=>⟨j,hj,?_⟩⟩;rw [List.getElem?_append_left (by omega)];exact hp
   ·rw [List.getElem?_append_right (by omega)] at h
    have hm:=List.mem_of_getElem? h;obtain ⟨x,-,rfl⟩:=List.mem_map.1 hm;refine ⟨s.2,x,rfl,?_⟩
    rcases (once_tour up ls k).root s (List.mem_of_getElem? hs) with h0|h0
    ·exact .inl h0
    ·obtain ⟨j,hj,hp⟩:=List.mem_iff_getElem.1 h0
     exact .inr ⟨j,by omega,by rw [List.getElem?_append_left hj,List.getElem?_eq_getElem hj,hp]⟩
theorem pathC_inj : ∀ {a b : List (List UInt8)}, (∀ x ∈ a, (47 : UInt8) ∉ x) → (∀ x ∈ b, (47 : UInt8) ∉ x) → pathC a = pathC b → a = b
 | [],[],_,_,_=>rfl
 | [],y::s,_,_,h=>by simp [pathC] at h
 | x::r,[],_,_,h=>by simp [pathC] at h
 | x::r,y::s,ha,hb,h=>by
  have h1:x++pathC r=y++pathC s:=by
   have:47::(x++pathC r)=47::(y++pathC s):=by simpa [pathC] using h
   exact (List.cons.inj this).2
  have key:∀(x y:List UInt8) (p q:List UInt8),(47:UInt8)∉x→(47:UInt8)∉y→(p=[]∨∃t,p=47::t)→(q=[]∨∃t,q=47::t)→x++p=y++q→x=y∧p=q:=by
   intro x
   induction x with
   | nil =>
    intro y p q _ hy hp hq h
    cases y with
    | nil=>exact ⟨rfl,h⟩
    | cons c y =>
     rcases hp with hp|⟨t,hp⟩
     ·rw [hp] at h;simp at h
     ·rw [hp] at h
      simp only [List.nil_append,List.cons_append,List.cons.injEq] at h;exact absurd (by rw [←h.1];exact List.mem_cons_self) hy
   | cons d x ih =>
    intro y p q hx hy hp hq h
    cases y with
    | nil =>
     rcases hq with hq|⟨t,hq⟩
     ·rw [hq] at h;simp at h
     ·rw [hq] at h
      simp only [List.nil_append,List.cons_append,List.cons.injEq] at h;exact absurd (by rw [h.1];exact List.mem_cons_self) hx
    | cons c y =>
     simp only [List.cons_append,List.cons.injEq] at h;obtain ⟨e1,e2⟩:=ih y p q (fun hm=>hx (List.mem_cons_of_mem _ hm)) (fun hm=>hy (List.mem_cons_of_mem _ hm)) hp hq h.2;exact ⟨by rw [h.1,e1],e2⟩
  have hpq:∀l:List (List UInt8),pathC l=[]∨∃t,pathC l=47::t:=fun l=>by
   cases l with
   | nil=>exact .inl rfl
   | cons a r=>exact .inr ⟨a++pathC r,by simp [pathC]⟩
  obtain ⟨e1,e2⟩:=key x y _ _ (ha x List.mem_cons_self) (hb y List.mem_cons_self) (hpq r) (hpq s) h1;rw [e1,pathC_inj (fun z hz=>ha z (List.mem_cons_of_mem _ hz)) (fun z hz=>hb z (List.mem_cons_of_mem _ hz)) e2]
end Go.Proofs.YtmhiohnkjpglfaaGreat

namespace Go.Proofs.YtmhiohnkjpglfaaGreat
open Go.RowKit Plain

theorem names_good {up:List NodV} {ls:List (List NodV)} (hF:FewL ls) (hup:FewU up) {v:ViewV} {x:List UInt8} (h:x∈namesV up ls v):nameB x=true:=by
  unfold namesV at h;have h1:=(List.mem_filter.1 h).1;rw [(sortS_rising _).2] at h1;unfold allV at h1
  have key:∀(ns:List NodV) (i:Int),(∀y∈ns,PlainN y)→∀e∈entB ns i,nameB e.name=true:=fun ns i hns e he=>by
    have h4:e∈(nodAt ns i).ents:=by
      unfold entB at he
      split at he
      · exact he
      · cases he
    exact (nodAt_plain hns i).2.2.2.2.2.2 e h4
  rcases List.mem_append.1 h1 with h2|h2
  · unfold namesL at h2
    have h3:=(List.mem_filter.1 h2).1;rw [(sortS_rising _).2] at h3;unfold allN at h3;obtain ⟨p,-,hp⟩:=List.mem_flatMap.1 h3;obtain ⟨e,he,rfl⟩:=List.mem_map.1 hp;rw [←ent_lay] at he;refine key (layL ls p.1) p.2 (fun y hy=>?_) e he;unfold layL at hy
    first
    | (split at hy
       · rename_i hc
         cases hq:ls[(p.1 - 1).toNat]? with
         | none=>rw [hq] at hy;simp at hy
         | some ns=>rw [hq] at hy;exact (hF.2 ns (List.mem_of_getElem? hq)).2 y (by simpa using hy)
       · cases hy)
  · obtain ⟨e,he,rfl⟩:=List.mem_map.1 h2
    exact key up v.1 hup.2 e he
theorem join_path {l:List (List UInt8)} (h:l≠[]):joinS l=pathC l:=by
  induction l using snoc_ind with
  | h0=>exact absurd rfl h
  | h1 l x ih =>
    rw [joinS_snoc]
    by_cases h0:l=[]
    · subst h0
      simp [pathC,joinS_nil]
    · rw [if_neg (by simpa using h0),ih h0]
      simp [pathC]
theorem tour_good {up : List NodV} {ls : List (List NodV)} (hF : FewL ls) (hup : FewU up) : ∀ k, (∀ n ∈ tourN up ls k, n ≠ [] ∧ n.all nameB = true) ∧ ∀ s ∈ (tourS up ls k).1, s.2.all nameB = true
  | 0=>by
    refine ⟨by simp [tourN],fun s hs=>?_⟩;simp only [tourS,List.mem_singleton] at hs;rw [hs]
    rfl
  | k+1=>by
    obtain ⟨i1,i2⟩:=tour_good hF hup k
    cases hs:(tourS up ls k).1[k]? with
    | none =>
      rw [(tourN_none hs).1,(tourN_none hs).2];exact ⟨i1,i2⟩
    | some s =>
      have h2:=i2 s (List.mem_of_getElem? hs)
      have key:∀x∈keptS up ls s.1,(s.2++[x]).all nameB=true:=fun x hx=>by
        have h3:=names_good hF hup (List.mem_filter.1 hx).1;rw [List.all_append,h2]
        simpa using h3
      rw [tour_some hs,tourN_some hs];refine ⟨fun n hn=>?_,fun t ht=>?_⟩
      · rcases List.mem_append.1 hn with h|h
        · exact i1 n h
        · obtain ⟨x,hx,rfl⟩:=List.mem_map.1 h
          exact ⟨by simp,key x hx⟩
      · rcases List.mem_append.1 ht with h|h
        · exact i2 t h
        · unfold nextS at h
          obtain ⟨x,hx,rfl⟩:=List.mem_map.1 h;exact key x (List.mem_filter.1 hx).1
theorem told_split {n:List (List UInt8)} (h:n≠[]∧n.all nameB=true):splitB (pathC n)=true∧splitS (pathC n)=n:=by
  rw [←join_path h.1];exact split_join h.2
theorem told_once {up:List NodV} {ls:List (List NodV)} (hF:FewL ls) (hup:FewU up) (k:Nat):((tourS up ls k).2.map (fun x=>x.1)).Nodup:=by
  rw [told_names];unfold List.Nodup;rw [List.pairwise_map];have h1:=(once_tour up ls k).told;refine List.Pairwise.imp_of_mem (fun {a b} ha hb hab e=>hab ?_) h1;have g:=(tour_good hF hup k).1;exact pathC_inj (fun x hx hc=>nameB_noslash (List.all_eq_true.1 (g a ha).2 x hx) 47 hc rfl) (fun x hx hc=>nameB_noslash (List.all_eq_true.1 (g b hb).2 x hx) 47 hc rfl) e
end Go.Proofs.YtmhiohnkjpglfaaGreat

namespace Go.Proofs.YtmhiohnkjpglfaaGreat
open Go.RowKit Go.Shelf Plain

theorem totL_path (l:List (List UInt8)):totL l=(pathC l).length:=by
 induction l with
 | nil=>rfl
 | cons x r ih =>
  have h1:totL (x::r)=x.length+1+totL r:=by simp [totL]
  have h2:pathC (x::r)=(47::x)++pathC r:=by simp [pathC]
  rw [h1,h2,List.length_append,List.length_cons,ih]
theorem totL_ge (l:List (List UInt8)):l.length≤totL l:=by
 induction l with
 | nil=>simp
 | cons x r ih =>
  have h1:totL (x::r)=x.length+1+totL r:=by simp [totL]
  rw [h1,List.length_cons];omega
theorem told_short {up : List NodV} {ls : List (List NodV)} (hT : ∀ ns ∈ ls, TreeL ns) (hF : FewL ls) (hup : FewU up) : ∀ k, ∀ x ∈ (tourS up ls k).2, x.1.length ≤ 13 * k
 | 0=>by simp [tourS]
 | k+1=>by
  have ih:=told_short hT hF hup k
  cases hs:(tourS up ls k).1[k]? with
  | none =>
   have hk:(tourS up ls k).1.length≤k:=by simpa using hs
   rw [tour_end hk 1];intro x hx
   have:=ih x hx
   omega
  | some s =>
   rw [tour_some hs];intro t ht
   rcases List.mem_append.1 ht with ht|ht
   ·have:=ih t ht
    omega
   ·unfold toldS at ht
    obtain ⟨x,hx,rfl⟩:=List.mem_map.1 ht;have h3:=names_right hF hup (List.mem_filter.1 hx).1;have h4:=(tour_more hT hF hup k).1 s (List.mem_of_getElem? hs)
    show (pathC (s.2++[x])).length≤13*(k+1)
    rw [path_snoc,List.length_append,List.length_cons];omega
structure ToldN (up : List NodV) (ls : List (List NodV)) (l : List ShnV) (j : Nat) (x : ShnV) (n : List (List UInt8)) : Prop where
 ne:n≠[]
 is:x=atX up ls n
 split:splitB x.1=true∧splitS x.1=n
 few:totL n≤30000
 short:x.1.length≤30000
 once:(l.take j).any (fun y=>y.1==x.1)=false
 behind:1 < n.length→(l.take j).any (fun y=>y.1==joinS (n.take (n.length - 1)))=true
theorem told_atK {up:List NodV} {ls:List (List NodV)} (hF:FewL ls) (hup:FewU up) (hT:∀ns∈ls,TreeL ns) {K:Nat} (hK:K≤1800) {j:Nat} {x:ShnV} (h:(tourS up ls K).2[j]?=some x):∃n,ToldN up ls (tourS up ls K).2 j x n:=by
 obtain ⟨hst,hto⟩:=tour_at up ls K;have hon:=told_once hF hup K;have hsh:=told_short hT hF hup K;have hgo:=(tour_good hF hup K).1;have hup2:=tour_up up ls K;obtain ⟨ns,ens⟩:∃ns,tourN up ls K=ns:=⟨_,rfl⟩;rw [ens] at hto hgo hup2;have h0:=h;rw [hto,List.getElem?_map] at h
 cases hn:ns[j]? with
 | none=>rw [hn] at h;cases h
 | some n =>
  rw [hn] at h
  have hx:atX up ls n=x:=by simpa using h
  subst hx;have hg:=hgo n (List.mem_of_getElem? hn);have hl:=hsh _ (List.mem_of_getElem? h0);have hl2:(pathC n).length≤13*K:=hl;refine ⟨n,hg.1,rfl,told_split hg,?_,by show (pathC n).length≤30000;omega,?_,fun hlen=>?_⟩
  ·rw [totL_path];omega
  ·rw [List.any_eq_false]
   intro y hy he
   have e1:y.1=(atX up ls n).1:=by simpa using he
   obtain ⟨i,hi⟩:=List.getElem?_of_mem hy;rw [List.getElem?_take] at hi
   split at hi
   ·rename_i hij
    have hjl:=(List.getElem?_eq_some_iff.1 h0).1;have hil:=(List.getElem?_eq_some_iff.1 hi).1;have h3:=(List.pairwise_iff_getElem.1 hon) i j (by rw [List.length_map];exact hil) (by rw [List.length_map];exact hjl) hij
    apply h3
    rw [List.getElem_map,List.getElem_map,(List.getElem?_eq_some_iff.1 hi).2,(List.getElem?_eq_some_iff.1 h0).2];exact e1
   ·cases hi
  ·obtain ⟨p,y,e,hp⟩:=hup2 j n hn
   rcases hp with rfl|⟨i,hij,hi⟩
   ·rw [e] at hlen;simp at hlen
   ·rw [List.any_eq_true]
    refine ⟨atX up ls p,?_,?_⟩
    ·rw [List.mem_iff_getElem?]
     refine ⟨i,?_⟩;rw [List.getElem?_take,if_pos hij,hto,List.getElem?_map,hi]
     rfl
    ·have hp:p≠[]:=(hgo p (List.mem_of_getElem? hi)).1
     have e2:n.take (n.length - 1)=p:=by rw [e];simp
     rw [e2,join_path hp];simp [atX]
theorem all_at {up:List NodV} {ls:List (List NodV)} (hF:FewL ls) (hup:FewU up) {j:Nat} {x:ShnV} (h:(allS up ls)[j]?=some x):∃n,ToldN up ls (allS up ls) j x n:=by
 unfold allS at h ⊢
 split at h
 ·cases h
 ·rename_i ht
  rw [if_neg ht];exact told_atK hF hup (tang_tree (by simpa using ht:ls.any tangB=false)) (Nat.le_refl _) h
end Go.Proofs.YtmhiohnkjpglfaaGreat

