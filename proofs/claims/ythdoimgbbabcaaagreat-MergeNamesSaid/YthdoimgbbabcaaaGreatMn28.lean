import Derived.Test.YthdoimgbbabcaaaGreatMn27
import Derived.Test.YthdoimgbbabcaaaGreatMn25
import Derived.Test.YthdoimgbbabcaaaGreatMn26
import Derived.Test.YthdoimgbbabcaaaGreatMn16
import Derived.Test.YthdoimgbbabcaaaGreatMn4

namespace Go.Proofs.YthdoimgbbabcaaaGreat
open Go.RowKit Go.Shelf Plain

def beginM (up:List NodV) (ls:List (List NodV)):StepV:=(1,rootV up ls,if (rootV up ls).1=0 then (rootV up ls).2.headD (0,0) else (0,1))
def goM (up:List NodV) (ls:List (List NodV)) (c:StepV) (nm:List UInt8):StepV:=if c.1=1 then stepV up ls c.2.1 nm else noStep
def atM (up:List NodV) (ls:List (List NodV)) (l:List (List UInt8)):StepV:=l.foldl (goM up ls) (beginM up ls)
theorem go_few {up:List NodV} {ls:List (List NodV)} {c:StepV} {nm:List UInt8} (h:c.2.1.2.length≤ls.length):(goM up ls c nm).2.1.2.length≤ls.length:=by
 unfold goM
 split
 ·have:=stepV_len up ls c.2.1 nm
  omega
 ·simp [noStep]
theorem fold_few {up : List NodV} {ls : List (List NodV)} : ∀ (l : List (List UInt8)) (c : StepV), c.2.1.2.length ≤ ls.length → (l.foldl (goM up ls) c).2.1.2.length ≤ ls.length
 | [],_,h=>h
 | _::r,_,h=>fold_few r _ (go_few h)
theorem at_few (up:List NodV) (ls:List (List NodV)) (l:List (List UInt8)):(atM up ls l).2.1.2.length≤ls.length:=fold_few l _ (rootV_len up ls)
theorem at_take (up:List NodV) (ls:List (List NodV)) {l:List (List UInt8)} {j:Nat} {x:List UInt8} (h:l[j]?=some x):atM up ls (l.take (j+1))=goM up ls (atM up ls (l.take j)) x:=by
 unfold atM
 rw [List.take_add_one,h,List.foldl_append]
 rfl
def comC (S:StepV) (s:Value):List Value:=[.int .i64 S.2.1.1,s,.int .i64 S.2.2.1,.int .i64 S.2.2.2,.int .i64 S.1]
theorem comC_one (S:StepV) (A:Option Addr) (n c:Nat):∀v∈comC S (.slice A n c),v.oneCell'=true:=by
 intro v hv
 simp only [comC,List.mem_cons,List.not_mem_nil,or_false] at hv
 rcases hv with h|h|h|h|h <;> (subst h;rfl)
set_option maxRecDepth 100000 in
theorem com_agg:∀w,(isAgg 115).run Tryz.prog w=.ok true w:=fun _=>rfl
set_option maxRecDepth 100000 in
theorem com_size:∀w,(Go.sizeOf 115).run Tryz.prog w=.ok 5 w:=fun _=>rfl
def ComF (lo:Nat) (w:World) (S:StepV) (e:Ending) (w':World):Prop:=∃A c,e=.returned (.agg (comC S (.slice A S.2.1.2.length c)).toArray)∧RdE prEn w' (fun b=>lo≤b∧b < w'.heap.size) A S.2.1.2.length S.2.1.2∧Below w.heap.size w w'
theorem fr_btw {α:Type} {E:Enc α} {w:World} {lo hi:Nat} {A:Option Addr} {n:Nat} {l:List α} (h:RdE E w (fun b=>lo≤b∧b < hi) A n l) (hh:hi≤w.heap.size):RdE E w (fun b=>lo≤b∧b < w.heap.size) A n l:=h.mono (fun _ _=>rfl) (fun _ hb=>⟨hb.1,Nat.lt_of_lt_of_le hb.2 hh⟩)
theorem hcel {w w':World} {b o B:Nat} {p:Int×Int} (h:∀(j:Nat) (v:Value),(prC p)[j]?=some v→w.cell? ⟨b,o+j,none⟩=some v) (hb:Below B w w') (hlt:b < B):∀(j:Nat) (v:Value),(prC p)[j]?=some v→w'.cell? ⟨b,o+j,none⟩=some v:=fun j v hv=>(hb.cell (p:=⟨b,o+j,none⟩) hlt).trans (h j v hv)
set_option maxRecDepth 100000 in
set_option maxHeartbeats 8000000 in
theorem MBegin_any {g:GeoQ} {AU AL:Option Addr} {nU cU nL cL B:Nat} {up:List NodV} {ls:List (List NodV)} (w:World) (hu:RdE nodEn w (Under B) AU nU up) (h:RdE layEn w (Under B) AL nL ls) (hB:B≤w.heap.size) (hF:FewL ls) (hup:FewU up):Calls Tryz.prog 76 #[.agg (stkC g (.slice AU nU cU) (.slice AL nL cL)).toArray] w (ComF w.heap.size w (beginM up ls)):=by
 obtain ⟨W1,hW1⟩:∃W1,((w.alloc (.cells (stkC g (.slice AU nU cU) (.slice AL nL cL)).toArray 29)).alloc (.cells (comC noStep (.slice none 0 0)).toArray 115))=W1:=⟨_,rfl⟩
 obtain ⟨r0,r1,hb1,hs1⟩:=rowA2 w _ _ _ _ hW1
 have hW1':((w.alloc (.cells #[.int .i64 g.a,.int .i64 g.b,.int .i64 g.c,.int .i64 g.d,.slice AU nU cU,.slice AL nL cL] 29)).alloc (.cells #[.int .i64 0,.slice none 0 0,.int .i64 0,.int .i64 0,.int .i64 0] 115))=W1:=hW1
 have R1:=hide r0
 have R2:=hide r1
 have HB:=hide hb1
 have hsz0:=hb1.size
 have HU:=hide (hu.under hb1 hB)
 have HL:=hide (h.under hb1 hB)
 have HF:=hide hF
 have HFU:=hide hup
 obtain ⟨V,hV⟩:∃V,rootV up ls=V:=⟨_,rfl⟩
 have HV:=hide hV
 unfold beginM
 rw [hV]
 obtain ⟨u,vl⟩:=V
 unfold stkC
 clear r0 r1 hb1 hW1 hu h hF hup hV
 dsimp only
 by_cases hu0:u=0
 ·have hu1:(u != 0)=false:=by simpa using hu0
  rw [if_pos hu0]
  clear hu0
  by_cases hl0:vl.length=0
  ·obtain rfl:=List.eq_nil_of_length_eq_zero hl0
   rw [show ([]:List (Int×Int)).headD (0,0)=(0,0) from rfl]
   clear hl0
   go_enter Tryz.func76,Tryz.ntmps76
   go_wp2_with (first|(refine wpList_loadW rfl 29 (.tmp 1) rfl 6 stk_agg stk_size (w.heap.size) 29 rfl (stkC g (.slice AU nU cU) (.slice AL nL cL)) R1.out rfl ?_)|(go_at_call 17;refine (VRoot_e HV.out W1 HU.out HL.out (by omega) HF.out HFU.out).mono ?_;rintro e1 wR ⟨A6,c6,rfl,h6,hbel⟩;replace HB:=hide (HB.out.trans (hbel.mono HB.out.size));replace R1:=hide (R1.out.on hbel);replace R2:=hide (R2.out.on hbel);replace HU:=hide (HU.out.under hbel (by omega));replace HL:=hide (HL.out.under hbel (by omega));have hsz2:=hbel.size;have H6:=hide h6;clear h6;simp only [viwC,List.length_nil];clear hbel)|(refine wpList_storeW rfl 115 (.tmp 3) (.tmp 6) rfl 5 com_size (wR.heap.size) 115 rfl (comC noStep (.slice none 0 0)) (comC (1,(u,[]),(0,0)) (.slice A6 0 c6)) rfl (RowL.new wR 115 (comC noStep (.slice none 0 0))) rfl rfl (comC_one _ _ _ _) ?_;intro wS3 hr3 hg3 hs3;have hzb:=below_stored' hg3;replace HB:=hide (HB.out.trans (hzb.mono HB.out.size));replace R1:=hide (R1.out.on hzb);replace R2:=hide (R2.out.on hzb);replace HU:=hide (HU.out.under hzb (by omega));replace HL:=hide (HL.out.under hzb (by omega));replace H6:=hide (btw_on H6.out hzb (by omega));have hsz4:=hzb.size;have R3:=hide hr3;have hlt3:=hr3.lt;have q3_0:wS3.cell? ⟨wR.heap.size,0,none⟩=some (.int .i64 u):=R3.out.cell 0;have q3_1:wS3.cell? ⟨wR.heap.size,1,none⟩=some (.slice A6 0 c6):=R3.out.cell 1;clear hzb hr3;clear hg3 hs3)|(refine wpList_loadW rfl 115 (.tmp 3) rfl 5 com_agg com_size (wR.heap.size) 115 rfl (comC (1,(u,[]),(0,0)) (.slice A6 0 c6)) R3.out rfl ?_)|(refine wpList_storeW rfl 115 (.tmp 2) (.tmp 26) rfl 5 com_size (w.heap.size+1) 115 rfl (comC noStep (.slice none 0 0)) (comC (1,(u,[]),(0,0)) (.slice A6 0 c6)) rfl R2.out rfl rfl (comC_one _ _ _ _) ?_;intro wS5 hr5 hg5 hs5;clear q3_0 q3_1;replace HB:=hide (HB.out.grown hg5 (by omega) (pu4 (by omega)));replace R1:=hide (R1.out.grown hg5 (pu5 (by omega)));replace HU:=hide (und_grown HU.out hg5 (by omega) (by omega));replace HL:=hide (und_grown HL.out hg5 (by omega) (by omega));replace H6:=hide (btw_grown H6.out hg5 (by omega) (by omega));replace R3:=hide (R3.out.grown hg5 (pu5 (by omega)));have hsz6:=hg5.size;replace R2:=hide hr5;have q3_0:wS5.cell? ⟨wR.heap.size,0,none⟩=some (.int .i64 u):=R3.out.cell 0;have q3_1:wS5.cell? ⟨wR.heap.size,1,none⟩=some (.slice A6 0 c6):=R3.out.cell 1;clear hr5 hg5 hs5))
   exact bodyPost_ret (res_cell Tryz.results76 rfl com_agg com_size R2.out rfl) rfl ⟨_,c6,rfl,fr_low (fr_btw H6.out (by omega)) (by omega),HB.out⟩
  ·have hl1:decide ((0:Int) < (vl.length:Int))=true:=decide_eq_true (by omega)
   have hl2:0 < vl.length:=by omega
   obtain ⟨p,hp0⟩:∃p,vl[0]?=some p:=⟨_,List.getElem?_eq_getElem hl2⟩
   rw [show vl.headD (0,0)=p from by cases vl with|nil=>simp at hl2|cons a r=>simpa using hp0]
   clear hl0
   go_enter Tryz.func76,Tryz.ntmps76
   go_wp2_with (first|(refine wpList_loadW rfl 29 (.tmp 1) rfl 6 stk_agg stk_size (w.heap.size) 29 rfl (stkC g (.slice AU nU cU) (.slice AL nL cL)) R1.out rfl ?_)|(go_at_call 17;refine (VRoot_e HV.out W1 HU.out HL.out (by omega) HF.out HFU.out).mono ?_;rintro e1 wR ⟨A6,c6,rfl,h6,hbel⟩;replace HB:=hide (HB.out.trans (hbel.mono HB.out.size));replace R1:=hide (R1.out.on hbel);replace R2:=hide (R2.out.on hbel);replace HU:=hide (HU.out.under hbel (by omega));replace HL:=hide (HL.out.under hbel (by omega));have hsz2:=hbel.size;have H6:=hide h6;clear h6;simp only [viwC];obtain ⟨bP,oP,rfl,hbP,hcP⟩:=pr_get H6.out hp0;have hbP2:bP < wR.heap.size:=hbP.2;have HCP:=hide (fun (j:Nat) (v:Value) (hv:(prC p)[j]?=some v)=>show wR.cell? ⟨bP,oP+j,none⟩=some v from by have:=hcP j v hv;simpa using this);clear hcP hbP;clear hbel)|(refine wpList_storeW rfl 115 (.tmp 3) (.tmp 6) rfl 5 com_size (wR.heap.size) 115 rfl (comC noStep (.slice none 0 0)) (comC (1,(u,vl),(0,0)) (.slice (some ⟨bP,oP,none⟩) vl.length c6)) rfl (RowL.new wR 115 (comC noStep (.slice none 0 0))) rfl rfl (comC_one _ _ _ _) ?_;intro wS3 hr3 hg3 hs3;have hzb:=below_stored' hg3;replace HB:=hide (HB.out.trans (hzb.mono HB.out.size));replace R1:=hide (R1.out.on hzb);replace R2:=hide (R2.out.on hzb);replace HU:=hide (HU.out.under hzb (by omega));replace HL:=hide (HL.out.under hzb (by omega));replace H6:=hide (btw_on H6.out hzb (by omega));replace HCP:=hide (hcel HCP.out hzb (by omega));have hsz4:=hzb.size;have R3:=hide hr3;have hlt3:=hr3.lt;have q3_0:wS3.cell? ⟨wR.heap.size,0,none⟩=some (.int .i64 u):=R3.out.cell 0;have q3_1:wS3.cell? ⟨wR.heap.size,1,none⟩=some (.slice (some ⟨bP,oP,none⟩) vl.length c6):=R3.out.cell 1;clear hzb hr3;clear hg3 hs3)|(refine wpList_loadX rfl 49 (.tmp 23) rfl 2 plc_agg plc_size bP oP rfl (prC p) HCP.out rfl ?_)|(refine wpList_storeC rfl 49 (.tmp 25) (.tmp 24) rfl 2 plc_size (wR.heap.size) 2 115 rfl (comC (1,(u,vl),(0,0)) (.slice (some ⟨bP,oP,none⟩) vl.length c6)) (prC p) rfl R3.out rfl (by show 4≤5;omega) (prC_one _) ?_;intro wS5 hr5 hg5 hs5;replace hr5:RowL wS5 (wR.heap.size) 115 (comC (1,(u,vl),p) (.slice (some ⟨bP,oP,none⟩) vl.length c6)):=hr5;clear q3_0 q3_1;replace HB:=hide (HB.out.grown hg5 (by omega) (pu4 (by omega)));replace R1:=hide (R1.out.grown hg5 (pu5 (by omega)));replace R2:=hide (R2.out.grown hg5 (pu5 (by omega)));replace HU:=hide (und_grown HU.out hg5 (by omega) (by omega));replace HL:=hide (und_grown HL.out hg5 (by omega) (by omega));replace H6:=hide (btw_grown H6.out hg5 (by omega) (by omega));have hsz6:=hg5.size;replace R3:=hide hr5;have q3_0:wS5.cell? ⟨wR.heap.size,0,none⟩=some (.int .i64 u):=R3.out.cell 0;have q3_1:wS5.cell? ⟨wR.heap.size,1,none⟩=some (.slice (some ⟨bP,oP,none⟩) vl.length c6):=R3.out.cell 1;clear hr5 hg5 hs5)|(refine wpList_loadW rfl 115 (.tmp 3) rfl 5 com_agg com_size (wR.heap.size) 115 rfl (comC (1,(u,vl),p) (.slice (some ⟨bP,oP,none⟩) vl.length c6)) R3.out rfl ?_)|(refine wpList_storeW rfl 115 (.tmp 2) (.tmp 26) rfl 5 com_size (w.heap.size+1) 115 rfl (comC noStep (.slice none 0 0)) (comC (1,(u,vl),p) (.slice (some ⟨bP,oP,none⟩) vl.length c6)) rfl R2.out rfl rfl (comC_one _ _ _ _) ?_;intro wS7 hr7 hg7 hs7;clear q3_0 q3_1;replace HB:=hide (HB.out.grown hg7 (by omega) (pu4 (by omega)));replace R1:=hide (R1.out.grown hg7 (pu5 (by omega)));replace HU:=hide (und_grown HU.out hg7 (by omega) (by omega));replace HL:=hide (und_grown HL.out hg7 (by omega) (by omega));replace H6:=hide (btw_grown H6.out hg7 (by omega) (by omega));replace R3:=hide (R3.out.grown hg7 (pu5 (by omega)));have hsz8:=hg7.size;replace R2:=hide hr7;have q3_0:wS7.cell? ⟨wR.heap.size,0,none⟩=some (.int .i64 u):=R3.out.cell 0;have q3_1:wS7.cell? ⟨wR.heap.size,1,none⟩=some (.slice (some ⟨bP,oP,none⟩) vl.length c6):=R3.out.cell 1;clear hr7 hg7 hs7))
   exact bodyPost_ret (res_cell Tryz.results76 rfl com_agg com_size R2.out rfl) rfl ⟨_,c6,rfl,fr_low (fr_btw H6.out (by omega)) (by omega),HB.out⟩
 ·have hu1:(u != 0)=true:=by simpa using hu0
  rw [if_neg hu0]
  clear hu0
  go_enter Tryz.func76,Tryz.ntmps76
  go_wp2_with (first|(refine wpList_loadW rfl 29 (.tmp 1) rfl 6 stk_agg stk_size (w.heap.size) 29 rfl (stkC g (.slice AU nU cU) (.slice AL nL cL)) R1.out rfl ?_)|(go_at_call 17;refine (VRoot_e HV.out W1 HU.out HL.out (by omega) HF.out HFU.out).mono ?_;rintro e1 wR ⟨A6,c6,rfl,h6,hbel⟩;replace HB:=hide (HB.out.trans (hbel.mono HB.out.size));replace R1:=hide (R1.out.on hbel);replace R2:=hide (R2.out.on hbel);replace HU:=hide (HU.out.under hbel (by omega));replace HL:=hide (HL.out.under hbel (by omega));have hsz2:=hbel.size;have H6:=hide h6;clear h6;simp only [viwC];clear hbel)|(refine wpList_storeW rfl 115 (.tmp 3) (.tmp 6) rfl 5 com_size (wR.heap.size) 115 rfl (comC noStep (.slice none 0 0)) (comC (1,(u,vl),(0,0)) (.slice A6 vl.length c6)) rfl (RowL.new wR 115 (comC noStep (.slice none 0 0))) rfl rfl (comC_one _ _ _ _) ?_;intro wS3 hr3 hg3 hs3;have hzb:=below_stored' hg3;replace HB:=hide (HB.out.trans (hzb.mono HB.out.size));replace R1:=hide (R1.out.on hzb);replace R2:=hide (R2.out.on hzb);replace HU:=hide (HU.out.under hzb (by omega));replace HL:=hide (HL.out.under hzb (by omega));replace H6:=hide (btw_on H6.out hzb (by omega));have hsz4:=hzb.size;have R3:=hide hr3;have hlt3:=hr3.lt;have q3_0:wS3.cell? ⟨wR.heap.size,0,none⟩=some (.int .i64 u):=R3.out.cell 0;have q3_1:wS3.cell? ⟨wR.heap.size,1,none⟩=some (.slice A6 vl.length c6):=R3.out.cell 1;clear hzb hr3;clear hg3 hs3)|(refine wpList_storeV rfl 3 (.tmp 13) (Operand.const (Value.int IntKind.i64 1)) rfl int_size (wR.heap.size) 3 115 rfl (.int .i64 1) rfl rfl rfl (comC (1,(u,vl),(0,0)) (.slice A6 vl.length c6)) R3.out (by show 3 < 5;omega) ?_;intro wS5 hr5 hg5 hs5;replace hr5:RowL wS5 (wR.heap.size) 115 (comC (1,(u,vl),(0,1)) (.slice A6 vl.length c6)):=hr5;clear q3_0 q3_1;replace HB:=hide (HB.out.grown hg5 (by omega) (pu4 (by omega)));replace R1:=hide (R1.out.grown hg5 (pu5 (by omega)));replace R2:=hide (R2.out.grown hg5 (pu5 (by omega)));replace HU:=hide (und_grown HU.out hg5 (by omega) (by omega));replace HL:=hide (und_grown HL.out hg5 (by omega) (by omega));replace H6:=hide (btw_grown H6.out hg5 (by omega) (by omega));have hsz6:=hg5.size;replace R3:=hide hr5;have q3_0:wS5.cell? ⟨wR.heap.size,0,none⟩=some (.int .i64 u):=R3.out.cell 0;have q3_1:wS5.cell? ⟨wR.heap.size,1,none⟩=some (.slice A6 vl.length c6):=R3.out.cell 1;clear hr5 hg5 hs5)|(refine wpList_loadW rfl 115 (.tmp 3) rfl 5 com_agg com_size (wR.heap.size) 115 rfl (comC (1,(u,vl),(0,1)) (.slice A6 vl.length c6)) R3.out rfl ?_)|(refine wpList_storeW rfl 115 (.tmp 2) (.tmp 26) rfl 5 com_size (w.heap.size+1) 115 rfl (comC noStep (.slice none 0 0)) (comC (1,(u,vl),(0,1)) (.slice A6 vl.length c6)) rfl R2.out rfl rfl (comC_one _ _ _ _) ?_;intro wS7 hr7 hg7 hs7;clear q3_0 q3_1;replace HB:=hide (HB.out.grown hg7 (by omega) (pu4 (by omega)));replace R1:=hide (R1.out.grown hg7 (pu5 (by omega)));replace HU:=hide (und_grown HU.out hg7 (by omega) (by omega));replace HL:=hide (und_grown HL.out hg7 (by omega) (by omega));replace H6:=hide (btw_grown H6.out hg7 (by omega) (by omega));replace R3:=hide (R3.out.grown hg7 (pu5 (by omega)));have hsz8:=hg7.size;replace R2:=hide hr7;have q3_0:wS7.cell? ⟨wR.heap.size,0,none⟩=some (.int .i64 u):=R3.out.cell 0;have q3_1:wS7.cell? ⟨wR.heap.size,1,none⟩=some (.slice A6 vl.length c6):=R3.out.cell 1;clear hr7 hg7 hs7))
  exact bodyPost_ret (res_cell Tryz.results76 rfl com_agg com_size R2.out rfl) rfl ⟨_,c6,rfl,fr_low (fr_btw H6.out (by omega)) (by omega),HB.out⟩
end Go.Proofs.YthdoimgbbabcaaaGreat

namespace Go.Proofs.YthdoimgbbabcaaaGreat
open Go.RowKit
variable {α β : Type} {E : Enc α}

theorem append_stays {P : Program} {w w' : World} {base : Nat} {t ty e : TypeId} {i : TypeInfo} {z : Value} {size k : Nat} (ht : P.underlying t = some (.slice e)) (hi : P.info? e = some i) (hz : i.zero = some z) (hsz : i.size = size) (hby : i.bytes = k)
  {v v':Value} {n:Nat} {xs:List Value} (hown:w.ownsRow base e size v n xs) {a:Addr} {m c:Nat} (hr:(Builtin.append_ #[t,t] ty #[v,.slice (some a) m c]).run P w=.ok v' w') {news:List Value} (hl:news.length=m*size)
  (hnews:∀j u,news[j]?=some u→w.cell? (a.add j)=some u) (h1:∀u∈news,u.oneCell'=true) (hbytes:(n+m)*k≤140737488355328) (hnm:n+m≤140737488355328) :
  v'.ownBlock=v.ownBlock∨Below w.heap.size w w':=by
 subst hsz
 subst hby
 rcases hown.2 with ⟨rfl,rfl⟩|⟨g,cap,cur,rfl,hbg,hg,hnc,hcm,hcs,htake⟩
 ·by_cases hm:m=0
  ·subst hm
   have h2:(Builtin.append_ #[t,t] ty #[.slice none 0 0,.slice (some a) 0 c]).run P w=.ok (.slice none 0 0) w:=by
    simp [Builtin.append_,run_underlying ht,sizeOf,typeInfo,hi,Builtin.lenOf,Builtin.firstCells,loadCells,loadCellsFrom]
   rw [h2] at hr
   cases hr
   exact .inl rfl
  ·have h2:=run_append_nil (P:=P) w t ty e i z ht hi hz a m c news hl hnews (by omega) (by omega) (by have hb:=hbytes;simp only [Nat.zero_add] at hb;omega)
   rw [h2] at hr
   cases hr
   exact .inr ((Below.refl w.heap.size w).drew.alloc (Nat.le_refl _) _)
 ·by_cases hroom:n+m≤cap
  ·have hfit:n*i.size+news.length≤cur.size:=by rw [hl,hcs,←Nat.add_mul];exact Nat.mul_le_mul_right _ hroom
   have h2:=run_append_room (P:=P) w t ty e i ht hi g n cap cur hg a m c news hl hnews h1 hroom hfit
   rw [h2] at hr
   cases hr
   exact .inl rfl
  ·have holds:∀j u,xs[j]?=some u→w.cell? ((⟨g,0,none⟩:Addr).add j)=some u:=hown.cells (g:=g) rfl
   have h2:=run_append_grow (P:=P) w t ty e i z ht hi hz ⟨g,0,none⟩ n cap xs hown.1 holds a m c news hl hnews (by omega) (by omega) (growslice_fits (by omega) hbytes)
   rw [h2] at hr
   cases hr
   exact .inr ((Below.refl w.heap.size w).drew.alloc (Nat.le_refl _) _)
theorem add_flat (g j:Nat):(⟨g,0,none⟩:Addr).add j=⟨g,j,none⟩:=by
 unfold Addr.add
 split
 ·rename_i h0;subst h0;rfl
 ·simp
theorem run_append_OwK [Tags] {P : Program} (w : World) (base : Nat) (t ty e : TypeId) (z : Value) (k : Nat) (ht : P.underlying t = some (.slice e)) (hinfo : (P.info? e).map (fun i => (i.zero, i.size, i.bytes)) = some (some z, E.k, k)) (hzs : z.cells.size = E.k) (hk : 0 < E.k)
  (A0:Option Addr) (n c0:Nat) (l0:List α) (hown:OwE E w base e A0 n c0 l0) (D:Nat→Prop) (A:Option Addr) (m c:Nat) (l1:List α) (hb:RdE E w D A m l1) (hD:∀b,D b→But w A0 b) (hm:0 < m)
  (hbytes:(n+m)*k≤140737488355328) (hnm:n+m≤140737488355328) (hbase:base≤w.heap.size) :
  ∃A' c' w',(Builtin.append_ #[t,t] ty #[.slice A0 n c0,.slice A m c]).run P w=.ok (.slice A' (n+m) c') w'∧OwE E w' base e A' (n+m) c' (l0++l1)∧Below base w w' ∧
   (∀g j u,A0=some ⟨g,0,none⟩→j < n*E.k→w.cell? ⟨g,j,none⟩=some u→w'.cell? ⟨g,j,none⟩=some u)∧w.grownBy w' (Value.slice A0 n c0).ownBlock:=by
 obtain ⟨A',c',w',hr,h2,h3⟩:=run_append_OwE (P:=P) w base t ty e z k ht hinfo hzs hk A0 n c0 l0 hown D A m c l1 hb hD hbytes hnm hbase
 obtain ⟨css,hrow,hc,hl⟩:=hown
 obtain ⟨v',w2,dss,hr2,hrow2,-,-,hgr,-⟩:=run_append_E (P:=P) w base t ty e z k ht hinfo hzs hk _ n css hrow D A m c l1 hb hbytes hnm hbase
 rw [hr] at hr2
 cases hr2
 refine ⟨A',c',w',hr,h2,h3,?_,hgr⟩
 intro g j u hA hj hu
 subst hA
 obtain ⟨i,hi,hz,hsz,hby⟩:=info_parts hinfo
 obtain ⟨b,o,ess,rfl,_,hC,hcell⟩:=hb.cells hm
 have hfl:=flat_len hC.lens
 have hfc:=flat_len hc.lens
 have hs:=append_stays (P:=P) ht hi hz hsz hby hrow hr (news:=ess.flatten) (by rw [hfl,hC.1,hb.1]) (fun j u hu=>by
  have:=hcell j u hu
  rw [←this]
  congr 1
  unfold Addr.add
  split
  ·rename_i h0;subst h0;rfl
  ·rfl) hC.ones hbytes hnm
 have hjl:j < css.flatten.length:=by rw [hfc,hc.1,hl];exact hj
 obtain ⟨x,hx⟩:∃x,css.flatten[j]?=some x:=⟨_,List.getElem?_eq_getElem hjl⟩
 have h4:=hrow.cells (g:=g) rfl j x hx
 rw [add_flat] at h4
 obtain rfl:u=x:=Option.some.inj (hu.symm.trans h4)
 rcases hs with hs|hs
 ·have h5:=hrow2.cells (g:=g) (by rw [hs];rfl) j u (by rw [List.flatten_append,List.getElem?_append_left hjl];exact hx)
  rw [add_flat] at h5
  exact h5
 ·rcases hrow.2 with ⟨h0,-⟩|⟨g',cap,cur,h0,-,hg,-⟩
  ·cases h0
  ·cases h0
   exact (hs.cell (p:=⟨g,j,none⟩) (by have:=Array.getElem?_eq_some_iff.1 hg;exact this.1)).trans hu
theorem wp_append_OwK [Tags] {P : Program} (w : World) {o : Oper} {a : Act} {K : Act → World → Prop} {Q : Exit → Act → World → Prop} (s x : Operand) (t : TypeId)
  (ho:o.op=.call {callee:=.builtin .append,args:=#[s,x],argTypes:=#[t,t]})
  (base:Nat) (e:TypeId) (z:Value) (k:Nat) (ht:P.underlying t=some (.slice e)) (hinfo:(P.info? e).map (fun i=>(i.zero,i.size,i.bytes))=some (some z,E.k,k)) (hzs:z.cells.size=E.k) (hk:0 < E.k)
  (A0:Option Addr) (n c0:Nat) (l0:List α) (hs:a.eval s=.slice A0 n c0) (hown:OwE E w base e A0 n c0 l0) (D:Nat→Prop) (A:Option Addr) (m c:Nat) (l1:List α) (hx:a.eval x=.slice A m c) (hb:RdE E w D A m l1) (hD:∀b,D b→But w A0 b) (hm:0 < m)
  (N:Nat) (hN:n+m=N) (hbytes:N*k≤140737488355328) (hnm:N≤140737488355328) (hbase:base≤w.heap.size)
  (h:∀A' c' w',OwE E w' base e A' N c' (l0++l1)→Below base w w'→(∀g j u,A0=some ⟨g,0,none⟩→j < n*E.k→w.cell? ⟨g,j,none⟩=some u→w'.cell? ⟨g,j,none⟩=some u)→w.grownBy w' (Value.slice A0 n c0).ownBlock→K (a.put o.dst (.slice A' N c')) w'):o.wp P a w K Q:=by
 subst hN
 obtain ⟨A',c',w',hr,h2,h3,h4,h5⟩:=run_append_OwK (P:=P) w base t o.type e z k ht hinfo hzs hk A0 n c0 l0 hown D A m c l1 hb hD hm hbytes hnm hbase
 unfold Oper.wp execOp
 simp only [ho,resolve,invoke,builtin,Sem.run_bind,Sem.run_pure,Result.andThen_ok,List.map_toArray,List.map_cons,List.map_nil,hs,hx,hr]
 exact h A' c' w' h2 h3 h4 h5
def KeepS (wX:World) (B b o:Nat) (vc:List Value) (W:World):Prop:=Below B wX W∧(∀k,k < wX.heap.size→k≠b→W.heap[k]?=wX.heap[k]?)∧∀k x,vc[k]?=some x→W.cell? ⟨b,o+k,none⟩=some x
theorem KeepS.start {wX:World} {B b o:Nat} {vc:List Value} (hc:∀k x,vc[k]?=some x→wX.cell? ⟨b,o+k,none⟩=some x):KeepS wX B b o vc wX.drew:=⟨(Below.refl B wX).drew,fun _ _ _=>rfl,hc⟩
theorem KeepS.on {wX W W':World} {B b o:Nat} {vc:List Value} (h:KeepS wX B b o vc W) (hb:Below W.heap.size W W') (hB:B≤wX.heap.size) (hlt:b < wX.heap.size):KeepS wX B b o vc W':=by
 have hs:=h.1.size
 exact ⟨h.1.trans (hb.mono (by omega)),fun k hk hne=>(hb.block k (by omega)).trans (h.2.1 k hk hne),fun k x hx=>(hb.cell (p:=⟨b,o+k,none⟩) (by exact Nat.lt_of_lt_of_le hlt hs)).trans (h.2.2 k x hx)⟩
theorem KeepS.row {wX W:World} {B b o g t:Nat} {vc cs:List Value} (h:KeepS wX B b o vc W) (hr:RowL wX g t cs) (hg:g≠b):RowL W g t cs:=(h.2.1 g hr.lt hg).trans hr
theorem KeepS.rd {α:Type} {E:Enc α} {wX W:World} {B b o:Nat} {vc:List Value} {D:Nat→Prop} {A:Option Addr} {n:Nat} {l:List α} (h:KeepS wX B b o vc W) (hr:RdE E wX D A n l) (hD:∀k,D k→k < wX.heap.size∧k≠b):RdE E W D A n l :=
 hr.mono (fun k hk=>h.2.1 k (hD k hk).1 (hD k hk).2) (fun _ h=>h)
theorem und_at {α:Type} {E:Enc α} {w w':World} {B C:Nat} {A:Option Addr} {n:Nat} {l:List α} (h:RdE E w (Under B) A n l) (hb:Below C w w') (hBC:B≤C):RdE E w' (Under B) A n l :=
 h.mono (fun b hb'=>hb.block b (by unfold Under at hb';omega)) (fun _ h=>h)
end Go.Proofs.YthdoimgbbabcaaaGreat

