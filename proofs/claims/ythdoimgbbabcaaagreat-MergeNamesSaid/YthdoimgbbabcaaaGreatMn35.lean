import Derived.Test.YthdoimgbbabcaaaGreatMn34
import Derived.Test.YthdoimgbbabcaaaGreatMn33
import Derived.Test.YthdoimgbbabcaaaGreatMn9
import Derived.Deep.QuietTactic
import Derived.BigQuiet
import Derived.Test.YthdoimgbbabcaaaGreatMn17
import Derived.Test.YthdoimgbbabcaaaGreatMn32
import Derived.Test.YthdoimgbbabcaaaGreatMn25
import Derived.Test.YthdoimgbbabcaaaGreatMn23
import Derived.Test.YthdoimgbbabcaaaGreatMn24
import Derived.Test.YthdoimgbbabcaaaGreatMn21
import Derived.Test.YthdoimgbbabcaaaGreatMn28
import Derived.Test.YthdoimgbbabcaaaGreatMn5
import Derived.Test.YthdoimgbbabcaaaGreatMn4

namespace Go.Proofs.YthdoimgbbabcaaaGreat
open Go.RowKit Go.Shelf Plain

theorem aw_of_a:ofM upI lsB [47,97]=((2,[120],[]),true):=by decide +kernel
theorem aw_of_r:ofM upI lsB [47]=((1,[],[[97]]),true):=by decide +kernel
theorem aw_of_z:ofM upI lsB [47,122]=((0,[],[]),false):=by decide +kernel
theorem MOf_p {g:GeoQ} {AU AL:Option Addr} {nU cU nL cL B:Nat} {up:List NodV} {ls:List (List NodV)} {s:List UInt8} {k:Int} {d:List UInt8} {n:List (List UInt8)} {b:Bool} {nd nn:Nat} (hs:ofM up ls s=((k,d,n),b)) (hd:d.length=nd) (hn:n.length=nn) (w:World) (hu:RdE nodEn w (Under B) AU nU up) (h:RdE layEn w (Under B) AL nL ls) (hB:B≤w.heap.size) (hF:FewL ls) (hup:FewU up) (hsl:s.length≤100000):Calls Tryz.prog 26 #[.agg (stkC g (.slice AU nU cU) (.slice AL nL cL)).toArray,.string ⟨s.toArray⟩] w (fun e w'=>∃A c C f,e=.returned (.tuple #[.agg (seenC k (.slice A nd c) (.slice C nn f)).toArray,.bool b])∧RdE Enc.byte w' (Under w'.heap.size) A nd d∧RdE Enc.text w' (Under w'.heap.size) C nn n∧Below w.heap.size w w'):=by
 refine (MOf_any (s:=s) w hu h hB hF hup (by omega)).mono ?_
 rw [hs]
 rintro e w' ⟨A,m,c,C,m',f,rfl,h1,h2,h3⟩
 have e1:nd=m:=by rw [←hd];exact h1.1
 have e2:nn=m':=by rw [←hn];exact h2.1
 subst e1 e2
 exact ⟨A,c,C,f,rfl,fr_under h1,fr_under h2,h3⟩
set_option maxRecDepth 100000 in
set_option maxHeartbeats 4000000 in
theorem awake18_any (w:World):Calls Tryz.prog 20 #[] w (LawOk w):=by
 have HB:=hide (below_self w)
 go_enter Tryz.func20,Tryz.ntmps20
 go_wp2_with (first|(go_at_call 62;refine (Idle_any w).mono ?_;rintro e1 wI ⟨AU,nU,cU,AL,nL,cL,rfl,hu,hl,hbel⟩;replace HB:=hide (HB.out.trans (hbel.mono HB.out.size));have hsz2:=hbel.size;have HU:=hide hu;clear hu;have HL:=hide hl;clear hl;clear hbel)|(refine wpList_storeW rfl 29 (.tmp 1) (.tmp 8) rfl 6 stk_size (wI.heap.size) 29 rfl (stkC ⟨0,0,0,0⟩ (.slice none 0 0) (.slice none 0 0)) (stkC gB (.slice AU nU cU) (.slice AL nL cL)) rfl (RowL.new wI 29 (stkC ⟨0,0,0,0⟩ (.slice none 0 0) (.slice none 0 0))) rfl rfl (stkC_one _ _ _ _ _ _ _) ?_;intro wS3 hr3 hg3 hs3;have hzb:=below_stored' hg3;replace HB:=hide (HB.out.trans (hzb.mono HB.out.size));replace HU:=hide (HU.out.under hzb (by omega));replace HL:=hide (HL.out.under hzb (by omega));have hsz4:=hzb.size;have RS:=hide hr3;have hlt3:=hr3.lt;clear hzb hr3;clear hg3 hs3)|(refine wpList_loadW rfl 29 (.tmp 1) rfl 6 stk_agg stk_size (wI.heap.size) 29 rfl (stkC gB (.slice AU nU cU) (.slice AL nL cL)) RS.out rfl ?_)|(go_at_call 26;refine (MOf_p (g:=gB) aw_of_a rfl rfl wS3 HU.out HL.out (by omega) ba_few aw_few (by decide)).mono ?_;rintro e5 wA ⟨A2,c2,C2,f2,rfl,hd,hn,hbel⟩;replace HB:=hide (HB.out.trans (hbel.mono HB.out.size));replace HU:=hide (HU.out.under hbel (by omega));replace HL:=hide (HL.out.under hbel (by omega));replace RS:=hide (RS.out.on hbel);have hsz6:=hbel.size;have HD2:=hide hd;clear hd;have HN2:=hide hn;clear hn;clear hbel)|(refine wpList_storeW rfl 61 (.tmp 2) (.tmp 12) rfl 3 seen_size (wA.heap.size) 61 rfl (seenC 0 (.slice none 0 0) (.slice none 0 0)) (seenC 2 (.slice A2 1 c2) (.slice C2 0 f2)) rfl (RowL.new wA 61 (seenC 0 (.slice none 0 0) (.slice none 0 0))) rfl rfl (seenC_one _ _ _ _ _ _ _) ?_;intro wS7 hr7 hg7 hs7;have hzb:=below_stored' hg7;replace HB:=hide (HB.out.trans (hzb.mono HB.out.size));replace HU:=hide (HU.out.under hzb (by omega));replace HL:=hide (HL.out.under hzb (by omega));replace RS:=hide (RS.out.on hzb);replace HD2:=hide (HD2.out.under hzb (by omega));replace HN2:=hide (HN2.out.under hzb (by omega));have hsz8:=hzb.size;have RA:=hide hr7;have hlt7:=hr7.lt;have q2_0:wS7.cell? ⟨wA.heap.size,0,none⟩=some (.int .i64 2):=RA.out.cell 0;have q2_1:wS7.cell? ⟨wA.heap.size,1,none⟩=some (.slice A2 1 c2):=RA.out.cell 1;have q2_2:wS7.cell? ⟨wA.heap.size,2,none⟩=some (.slice C2 0 f2):=RA.out.cell 2;clear hzb hr7;clear hg7 hs7)|(refine wpList_loadW rfl 29 (.tmp 1) rfl 6 stk_agg stk_size (wI.heap.size) 29 rfl (stkC gB (.slice AU nU cU) (.slice AL nL cL)) RS.out rfl ?_)|(go_at_call 26;refine (MOf_p (g:=gB) aw_of_r rfl rfl wS7 HU.out HL.out (by omega) ba_few aw_few (by decide)).mono ?_;rintro e9 wR ⟨A4,c4,C4,f4,rfl,hd,hn,hbel⟩;clear q2_0 q2_1 q2_2;replace HB:=hide (HB.out.trans (hbel.mono HB.out.size));replace HU:=hide (HU.out.under hbel (by omega));replace HL:=hide (HL.out.under hbel (by omega));replace RS:=hide (RS.out.on hbel);replace HD2:=hide (HD2.out.under hbel (by omega));replace HN2:=hide (HN2.out.under hbel (by omega));replace RA:=hide (RA.out.on hbel);have hsz10:=hbel.size;have q2_0:wR.cell? ⟨wA.heap.size,0,none⟩=some (.int .i64 2):=RA.out.cell 0;have q2_1:wR.cell? ⟨wA.heap.size,1,none⟩=some (.slice A2 1 c2):=RA.out.cell 1;have q2_2:wR.cell? ⟨wA.heap.size,2,none⟩=some (.slice C2 0 f2):=RA.out.cell 2;have HD4:=hide hd;clear hd;have HN4:=hide hn;clear hn;clear hbel)|(refine wpList_storeW rfl 61 (.tmp 4) (.tmp 17) rfl 3 seen_size (wR.heap.size) 61 rfl (seenC 0 (.slice none 0 0) (.slice none 0 0)) (seenC 1 (.slice A4 0 c4) (.slice C4 1 f4)) rfl (RowL.new wR 61 (seenC 0 (.slice none 0 0) (.slice none 0 0))) rfl rfl (seenC_one _ _ _ _ _ _ _) ?_;intro wS11 hr11 hg11 hs11;have hzb:=below_stored' hg11;clear q2_0 q2_1 q2_2;replace HB:=hide (HB.out.trans (hzb.mono HB.out.size));replace HU:=hide (HU.out.under hzb (by omega));replace HL:=hide (HL.out.under hzb (by omega));replace RS:=hide (RS.out.on hzb);replace HD2:=hide (HD2.out.under hzb (by omega));replace HN2:=hide (HN2.out.under hzb (by omega));replace RA:=hide (RA.out.on hzb);replace HD4:=hide (HD4.out.under hzb (by omega));replace HN4:=hide (HN4.out.under hzb (by omega));have hsz12:=hzb.size;have q2_0:wS11.cell? ⟨wA.heap.size,0,none⟩=some (.int .i64 2):=RA.out.cell 0;have q2_1:wS11.cell? ⟨wA.heap.size,1,none⟩=some (.slice A2 1 c2):=RA.out.cell 1;have q2_2:wS11.cell? ⟨wA.heap.size,2,none⟩=some (.slice C2 0 f2):=RA.out.cell 2;have RR:=hide hr11;have hlt11:=hr11.lt;have q4_0:wS11.cell? ⟨wR.heap.size,0,none⟩=some (.int .i64 1):=RR.out.cell 0;have q4_2:wS11.cell? ⟨wR.heap.size,2,none⟩=some (.slice C4 1 f4):=RR.out.cell 2;have q4_1:wS11.cell? ⟨wR.heap.size,1,none⟩=some (.slice A4 0 c4):=RR.out.cell 1;clear hzb hr11;clear hg11 hs11)|(refine wpList_loadW rfl 29 (.tmp 1) rfl 6 stk_agg stk_size (wI.heap.size) 29 rfl (stkC gB (.slice AU nU cU) (.slice AL nL cL)) RS.out rfl ?_)|(go_at_call 26;refine (MOf_p (g:=gB) aw_of_z rfl rfl wS11 HU.out HL.out (by omega) ba_few aw_few (by decide)).mono ?_;rintro e13 wZ ⟨A6,c6,C6,f6,rfl,hd,hn,hbel⟩;clear q2_0 q2_1 q4_0 q4_2 q2_2 q4_1;replace HB:=hide (HB.out.trans (hbel.mono HB.out.size));replace HU:=hide (HU.out.under hbel (by omega));replace HL:=hide (HL.out.under hbel (by omega));replace RS:=hide (RS.out.on hbel);replace HD2:=hide (HD2.out.under hbel (by omega));replace HN2:=hide (HN2.out.under hbel (by omega));replace RA:=hide (RA.out.on hbel);replace HD4:=hide (HD4.out.under hbel (by omega));replace HN4:=hide (HN4.out.under hbel (by omega));replace RR:=hide (RR.out.on hbel);have hsz14:=hbel.size;have q2_0:wZ.cell? ⟨wA.heap.size,0,none⟩=some (.int .i64 2):=RA.out.cell 0;have q2_1:wZ.cell? ⟨wA.heap.size,1,none⟩=some (.slice A2 1 c2):=RA.out.cell 1;have q4_0:wZ.cell? ⟨wR.heap.size,0,none⟩=some (.int .i64 1):=RR.out.cell 0;have q4_2:wZ.cell? ⟨wR.heap.size,2,none⟩=some (.slice C4 1 f4):=RR.out.cell 2;have q2_2:wZ.cell? ⟨wA.heap.size,2,none⟩=some (.slice C2 0 f2):=RA.out.cell 2;have q4_1:wZ.cell? ⟨wR.heap.size,1,none⟩=some (.slice A4 0 c4):=RR.out.cell 1;have HD6:=hide hd;clear hd;have HN6:=hide hn;clear hn;clear hbel)|(refine wpList_storeW rfl 61 (.tmp 6) (.tmp 22) rfl 3 seen_size (wZ.heap.size) 61 rfl (seenC 0 (.slice none 0 0) (.slice none 0 0)) (seenC 0 (.slice A6 0 c6) (.slice C6 0 f6)) rfl (RowL.new wZ 61 (seenC 0 (.slice none 0 0) (.slice none 0 0))) rfl rfl (seenC_one _ _ _ _ _ _ _) ?_;intro wS15 hr15 hg15 hs15;have hzb:=below_stored' hg15;clear q2_0 q2_1 q4_0 q4_2 q2_2 q4_1;replace HB:=hide (HB.out.trans (hzb.mono HB.out.size));replace HU:=hide (HU.out.under hzb (by omega));replace HL:=hide (HL.out.under hzb (by omega));replace RS:=hide (RS.out.on hzb);replace HD2:=hide (HD2.out.under hzb (by omega));replace HN2:=hide (HN2.out.under hzb (by omega));replace RA:=hide (RA.out.on hzb);replace HD4:=hide (HD4.out.under hzb (by omega));replace HN4:=hide (HN4.out.under hzb (by omega));replace RR:=hide (RR.out.on hzb);replace HD6:=hide (HD6.out.under hzb (by omega));replace HN6:=hide (HN6.out.under hzb (by omega));have hsz16:=hzb.size;have q2_0:wS15.cell? ⟨wA.heap.size,0,none⟩=some (.int .i64 2):=RA.out.cell 0;have q2_1:wS15.cell? ⟨wA.heap.size,1,none⟩=some (.slice A2 1 c2):=RA.out.cell 1;have q4_0:wS15.cell? ⟨wR.heap.size,0,none⟩=some (.int .i64 1):=RR.out.cell 0;have q4_2:wS15.cell? ⟨wR.heap.size,2,none⟩=some (.slice C4 1 f4):=RR.out.cell 2;have q2_2:wS15.cell? ⟨wA.heap.size,2,none⟩=some (.slice C2 0 f2):=RA.out.cell 2;have q4_1:wS15.cell? ⟨wR.heap.size,1,none⟩=some (.slice A4 0 c4):=RR.out.cell 1;have RZ:=hide hr15;have hlt15:=hr15.lt;clear hzb hr15;clear hg15 hs15)|(go_at_call 23;refine (BEqual_b (l:=[120]) (k:=[120]) (b:=true) _ (Bs.of_rd (HD2.out.under (below_new (below_self wS15) (.cells #[.int .u8 120] 5)) (by omega))) (Own.lit wS15 5 (cs:=[.int .u8 120]) (l:=[120]) (n:=1) rfl rfl (by omega)).bs rfl).mono ?_;rintro e99 wE0 ⟨rfl,rfl⟩;generalize hwE:(wS15.alloc (.cells #[.int .u8 120] 5))=wE;have hbel:Below wS15.heap.size wS15 wE:=hwE ▸ below_new (below_self wS15) _;clear q2_0 q2_1 q4_0 q4_2 q2_2 q4_1;replace HB:=hide (HB.out.trans (hbel.mono HB.out.size));replace HU:=hide (HU.out.under hbel (by omega));replace HL:=hide (HL.out.under hbel (by omega));replace RS:=hide (RS.out.on hbel);replace HD2:=hide (HD2.out.under hbel (by omega));replace HN2:=hide (HN2.out.under hbel (by omega));replace RA:=hide (RA.out.on hbel);replace HD4:=hide (HD4.out.under hbel (by omega));replace HN4:=hide (HN4.out.under hbel (by omega));replace RR:=hide (RR.out.on hbel);replace HD6:=hide (HD6.out.under hbel (by omega));replace HN6:=hide (HN6.out.under hbel (by omega));replace RZ:=hide (RZ.out.on hbel);have hsz17:=hbel.size;have q2_0:wE.cell? ⟨wA.heap.size,0,none⟩=some (.int .i64 2):=RA.out.cell 0;have q2_1:wE.cell? ⟨wA.heap.size,1,none⟩=some (.slice A2 1 c2):=RA.out.cell 1;have q4_0:wE.cell? ⟨wR.heap.size,0,none⟩=some (.int .i64 1):=RR.out.cell 0;have q4_2:wE.cell? ⟨wR.heap.size,2,none⟩=some (.slice C4 1 f4):=RR.out.cell 2;have q2_2:wE.cell? ⟨wA.heap.size,2,none⟩=some (.slice C2 0 f2):=RA.out.cell 2;have q4_1:wE.cell? ⟨wR.heap.size,1,none⟩=some (.slice A4 0 c4):=RR.out.cell 1;clear hbel hwE)|(go_at_call 75;refine (MSame_any (m1:=0) (S:=(2,[120],[])) (R:=(2,[120],[])) (b:=true) (by decide) wE (Bs.of_rd (und_up HD2.out (by omega))) (Bs.of_rd (und_up HD2.out (by omega))) (txt_rd (und_up HN2.out (by omega))) (txt_rd (und_up HN2.out (by omega))) (by omega)).mono ?_;rintro e91 wS1 ⟨rfl,hbel⟩;clear q2_0 q2_1 q4_0 q4_2 q2_2 q4_1;replace HB:=hide (HB.out.trans (hbel.mono HB.out.size));replace HU:=hide (HU.out.under hbel (by omega));replace HL:=hide (HL.out.under hbel (by omega));replace RS:=hide (RS.out.on hbel);replace HD2:=hide (HD2.out.under hbel (by omega));replace HN2:=hide (HN2.out.under hbel (by omega));replace RA:=hide (RA.out.on hbel);replace HD4:=hide (HD4.out.under hbel (by omega));replace HN4:=hide (HN4.out.under hbel (by omega));replace RR:=hide (RR.out.on hbel);replace HD6:=hide (HD6.out.under hbel (by omega));replace HN6:=hide (HN6.out.under hbel (by omega));replace RZ:=hide (RZ.out.on hbel);have hsz18:=hbel.size;have q2_0:wS1.cell? ⟨wA.heap.size,0,none⟩=some (.int .i64 2):=RA.out.cell 0;have q2_1:wS1.cell? ⟨wA.heap.size,1,none⟩=some (.slice A2 1 c2):=RA.out.cell 1;have q4_0:wS1.cell? ⟨wR.heap.size,0,none⟩=some (.int .i64 1):=RR.out.cell 0;have q4_2:wS1.cell? ⟨wR.heap.size,2,none⟩=some (.slice C4 1 f4):=RR.out.cell 2;have q2_2:wS1.cell? ⟨wA.heap.size,2,none⟩=some (.slice C2 0 f2):=RA.out.cell 2;have q4_1:wS1.cell? ⟨wR.heap.size,1,none⟩=some (.slice A4 0 c4):=RR.out.cell 1;clear hbel)|(go_at_call 75;refine (MSame_any (m1:=0) (S:=(2,[120],[])) (R:=(1,[],[[97]])) (b:=false) (by decide) wS1 (Bs.of_rd (und_up HD2.out (by omega))) (Bs.of_rd (und_up HD4.out (by omega))) (txt_rd (und_up HN2.out (by omega))) (txt_rd (und_up HN4.out (by omega))) (by omega)).mono ?_;rintro e92 wS2 ⟨rfl,hbel⟩;clear q2_0 q2_1 q4_0 q4_2 q2_2 q4_1;replace HB:=hide (HB.out.trans (hbel.mono HB.out.size));replace HU:=hide (HU.out.under hbel (by omega));replace HL:=hide (HL.out.under hbel (by omega));replace RS:=hide (RS.out.on hbel);replace HD2:=hide (HD2.out.under hbel (by omega));replace HN2:=hide (HN2.out.under hbel (by omega));replace RA:=hide (RA.out.on hbel);replace HD4:=hide (HD4.out.under hbel (by omega));replace HN4:=hide (HN4.out.under hbel (by omega));replace RR:=hide (RR.out.on hbel);replace HD6:=hide (HD6.out.under hbel (by omega));replace HN6:=hide (HN6.out.under hbel (by omega));replace RZ:=hide (RZ.out.on hbel);have hsz19:=hbel.size;have q2_0:wS2.cell? ⟨wA.heap.size,0,none⟩=some (.int .i64 2):=RA.out.cell 0;have q2_1:wS2.cell? ⟨wA.heap.size,1,none⟩=some (.slice A2 1 c2):=RA.out.cell 1;have q4_0:wS2.cell? ⟨wR.heap.size,0,none⟩=some (.int .i64 1):=RR.out.cell 0;have q4_2:wS2.cell? ⟨wR.heap.size,2,none⟩=some (.slice C4 1 f4):=RR.out.cell 2;have q2_2:wS2.cell? ⟨wA.heap.size,2,none⟩=some (.slice C2 0 f2):=RA.out.cell 2;have q4_1:wS2.cell? ⟨wR.heap.size,1,none⟩=some (.slice A4 0 c4):=RR.out.cell 1;clear hbel))
 go_ret
 exact LawOk.of HB.out
end Go.Proofs.YthdoimgbbabcaaaGreat

namespace Go.Proofs.YthdoimgbbabcaaaGreat
open Go.RowKit Go.Shelf Plain

theorem find_told {ls : List (List NodV)} (nm : List UInt8) : ∀ (l : List (Int × Int)), (findL ls nm l []).1 ≠ 0 → ∃ p ∈ l, ∃ x, firstL ls p nm = some x
 | [],h=>by unfold findL at h;simp at h
 | p::r,h=>by
  cases hx:firstL ls p nm with
  | some x=>exact ⟨p,List.mem_cons_self,x,hx⟩
  | none =>
   unfold findL at h
   rw [hx] at h
   obtain ⟨q,hq,x,hqx⟩:=find_told nm r h
   exact ⟨q,List.mem_cons_of_mem _ hq,x,hqx⟩
theorem told_mem {ls:List (List NodV)} {l:List (Int×Int)} {nm:List UInt8}:decide (nm∈namesL ls l)=((findL ls nm l []).1 != 0):=by
 rw [Bool.eq_iff_iff,decide_eq_true_iff]
 unfold namesL
 rw [List.mem_filter,(sortS_rising _).2]
 constructor
 ·rintro ⟨-,h⟩
  unfold hidS at h
  simpa using h
 ·intro h
  have h0:(findL ls nm l []).1≠0:=by simpa using h
  refine ⟨?_,by unfold hidS;simpa using h0⟩
  obtain ⟨p,hp,x,hx⟩:=find_told nm l h0
  unfold firstL at hx
  rw [Option.map_eq_some_iff] at hx
  obtain ⟨e,he,-⟩:=hx
  have h1:=List.find?_some he
  have h2:=List.mem_of_find?_eq_some he
  unfold useE at h1
  simp only [Bool.and_eq_true,decide_eq_true_eq] at h1
  unfold allN
  exact List.mem_flatMap.2 ⟨p,hp,List.mem_map.2 ⟨e,h2,h1.1⟩⟩
end Go.Proofs.YthdoimgbbabcaaaGreat

namespace Go.Proofs.YthdoimgbbabcaaaGreat
open Go.RowKit Go.Shelf Plain

theorem names_few {up:List NodV} {ls:List (List NodV)} {v:ViewV} (hF:FewL ls) (hup:FewU up) (h:v.2.length≤ls.length):(namesV up ls v).length≤1000:=by
 refine Nat.le_trans (List.length_filter_le _ _) (Nat.le_trans (sortS_length _) ?_)
 unfold allV
 rw [List.length_append,List.length_map]
 have h1:(namesL ls v.2).length≤16*v.2.length:=Nat.le_trans (List.length_filter_le _ _) (Nat.le_trans (sortS_length _) (allN_len hF v.2))
 have h2:=entB_len hup.2 v.1
 have h3:=hF.1
 omega
theorem MOf_q {g:GeoQ} {AU AL:Option Addr} {nU cU nL cL B:Nat} {up:List NodV} {ls:List (List NodV)} {s:List UInt8} {k:Int} {d:List UInt8} {n:List (List UInt8)} {b:Bool} (hs:ofM up ls s=((k,d,n),b)) (w:World) (hu:RdE nodEn w (Under B) AU nU up) (h:RdE layEn w (Under B) AL nL ls) (hB:B≤w.heap.size) (hF:FewL ls) (hup:FewU up) (hsl:s.length≤100000):Calls Tryz.prog 26 #[.agg (stkC g (.slice AU nU cU) (.slice AL nL cL)).toArray,.string ⟨s.toArray⟩] w (fun e w'=>∃A nd c C nn f,e=.returned (.tuple #[.agg (seenC k (.slice A nd c) (.slice C nn f)).toArray,.bool b])∧RdE Enc.byte w' (Under w'.heap.size) A nd d∧RdE Enc.text w' (Under w'.heap.size) C nn n∧Below w.heap.size w w'):=by
 refine (MOf_any (s:=s) w hu h hB hF hup (by omega)).mono ?_
 rw [hs]
 rintro e w' ⟨A,m,c,C,m',f,rfl,h1,h2,h3⟩
 exact ⟨A,m,c,C,m',f,rfl,fr_under h1,fr_under h2,h3⟩
end Go.Proofs.YthdoimgbbabcaaaGreat

namespace Go.Proofs.YthdoimgbbabcaaaGreat
open Go.RowKit
variable {α : Type} {E : Enc α}

theorem OwE.up [Tags] {w:World} {base b' e n c:Nat} {A:Option Addr} {l:List α} (h:OwE E w base e A n c l) (hb:∀a,A=some a→b'≤a.block):OwE E w b' e A n c l:=by
 obtain ⟨css,⟨h1,h2⟩,h3⟩:=h
 refine ⟨css,⟨h1,?_⟩,h3⟩
 rcases h2 with h2|⟨g,cap,cur,he,hbg,hr⟩
 ·exact .inl h2
 ·refine .inr ⟨g,cap,cur,he,?_,hr⟩
  simp only [Value.slice.injEq] at he
  exact hb _ he.1
theorem OwE.rowApart [Tags] {W:World} {base e n c g t:Nat} {A:Option Addr} {l:List α} {cs:List Value} (ho:OwE E W base e A n c l) (hr:RowL W g t cs) (h:t≠e):some g≠(Value.slice A n c).ownBlock:=by
 obtain ⟨css,hrow,-⟩:=ho
 exact row_apart hrow hr h
theorem OwE.ltB [Tags] {w:World} {base e n c:Nat} {A:Option Addr} {l:List α} (h:OwE E w base e A n c l):∀a,A=some a→a.block < w.heap.size:=by
 obtain ⟨css,⟨h1,h2⟩,h3⟩:=h
 intro a ha
 rcases h2 with ⟨h2,-⟩|⟨g,cap,cur,he,hbg,hr,-⟩
 ·simp only [Value.slice.injEq] at h2
  rw [h2.1] at ha;cases ha
 ·simp only [Value.slice.injEq] at he
  rw [he.1] at ha
  cases ha
  exact (Array.getElem?_eq_some_iff.1 hr).1
def OwL [Tags] (E:Enc α) (w:World) (base lo e:Nat) (A:Option Addr) (n c:Nat) (l:List α):Prop:=OwE E w lo e A n c l∨∃p,A=some ⟨p,0,none⟩∧n=0∧c=0∧l=[]∧OwE E w base e (some ⟨p,0,none⟩) 0 0 []
theorem OwL.below [Tags] {w w':World} {base lo e n c:Nat} {A:Option Addr} {l:List α} (h:OwL E w base lo e A n c l) (hb:Below w.heap.size w w'):OwL E w' base lo e A n c l:=by
 rcases h with h|⟨p,h1,h2,h3,h4,h5⟩
 ·exact .inl (h.below hb)
 ·exact .inr ⟨p,h1,h2,h3,h4,h5.below hb⟩
theorem OwL.ltB [Tags] {w:World} {base lo e n c:Nat} {A:Option Addr} {l:List α} (h:OwL E w base lo e A n c l):∀a,A=some a→a.block < w.heap.size:=by
 rcases h with h|⟨p,rfl,-,-,-,h5⟩
 ·exact h.ltB
 ·exact h5.ltB
theorem OwL.read [Tags] {w:World} {base lo e n c:Nat} {A:Option Addr} {l:List α} (h:OwL E w base lo e A n c l) (ht:Tags.bad e=false):RdE E w (Under w.heap.size) A n l:=by
 rcases h with h|⟨p,rfl,rfl,rfl,rfl,-⟩
 ·exact (h.rd ht).plain
 ·exact RdE.none_ _ _ _ _
theorem OwL.len [Tags] {w:World} {base lo e n c:Nat} {A:Option Addr} {l:List α} (h:OwL E w base lo e A n c l):l.length=n:=by
 rcases h with h|⟨p,rfl,rfl,rfl,rfl,-⟩
 ·exact h.len
 ·rfl
end Go.Proofs.YthdoimgbbabcaaaGreat

namespace Go.Proofs.YthdoimgbbabcaaaGreat
open Go.RowKit
variable {α : Type} {E : Enc α}

theorem run_append_lit0 [Tags] {P : Program} (w : World) (base : Nat) (t ty e : TypeId) (z : Value) (k : Nat) (ht : P.underlying t = some (.slice e)) (hinfo : (P.info? e).map (fun i => (i.zero, i.size, i.bytes)) = some (some z, E.k, k)) (hzs : z.cells.size = E.k) (hk : 0 < E.k)
  (p:Nat) (hown:OwE E w base e (some ⟨p,0,none⟩) 0 0 []) (D:Nat→Prop) (A:Option Addr) (m c:Nat) (l1:List α) (hb:RdE E w D A m l1) (hD:∀b,D b→But w (some ⟨p,0,none⟩) b)
  (hbytes:m*k≤140737488355328) (hnm:m≤140737488355328) (hbase:base≤w.heap.size) :
  ∃A' c' w',(Builtin.append_ #[t,t] ty #[.slice (some ⟨p,0,none⟩) 0 0,.slice A m c]).run P w=.ok (.slice A' m c') w'∧OwE E w' base e A' m c' l1∧Below w.heap.size w w'∧∀a,A'=some a→a.block=p∨w.heap.size≤a.block:=by
 obtain ⟨i,hi,hz,hsz,hby⟩:=info_parts hinfo
 obtain ⟨A',c',w',hr,ho,_⟩:=run_append_OwE (P:=P) w base t ty e z k ht hinfo hzs hk _ 0 0 [] hown D A m c l1 hb hD (by rw [Nat.zero_add];exact hbytes) (by omega) hbase
 rw [Nat.zero_add] at hr ho
 rw [List.nil_append] at ho
 refine ⟨A',c',w',hr,ho,?_⟩
 rcases Nat.eq_zero_or_pos m with hm|hm
 ·subst hm
  have h2:(Builtin.append_ #[t,t] ty #[.slice (some ⟨p,0,none⟩) 0 0,.slice A 0 c]).run P w=.ok (.slice (some ⟨p,0,none⟩) 0 0) w:=by
   cases A <;> simp [Builtin.append_,run_underlying ht,sizeOf,typeInfo,hi,Builtin.lenOf,Builtin.firstCells,loadCells,loadCellsFrom,storeCells]
  rw [h2] at hr
  cases hr
  exact ⟨Below.refl _ _,fun a ha=>by cases ha;exact .inl rfl⟩
 ·obtain ⟨b,o,dss,rfl,_,hC,hcell⟩:=hb.cells hm
  have hfl:=flat_len hC.lens
  have h2:=run_append_grow (P:=P) w t ty e i z ht hi hz ⟨p,0,none⟩ 0 0 [] (by simp) (by simp) ⟨b,o,none⟩ m c dss.flatten (by rw [hfl,hC.1,hb.1,hsz]) (fun j u hu=>by
   have:=hcell j u hu
   rw [←this]
   congr 1
   unfold Addr.add
   split
   ·rename_i h0;subst h0;rfl
   ·rfl) (by omega) (by omega) (growslice_fits (by omega) (by subst hby;simpa using hbytes))
  rw [Nat.zero_add] at h2
  rw [h2] at hr
  cases hr
  exact ⟨(Below.refl _ _).drew.alloc (Nat.le_refl _) _,fun a ha=>by cases ha;exact .inr (Nat.le_refl _)⟩
theorem wp_append_lit0 [Tags] {P : Program} (w : World) {o : Oper} {a : Act} {K : Act → World → Prop} {Q : Exit → Act → World → Prop} (s x : Operand) (t : TypeId)
  (ho:o.op=.call {callee:=.builtin .append,args:=#[s,x],argTypes:=#[t,t]})
  (base:Nat) (e:TypeId) (z:Value) (k:Nat) (ht:P.underlying t=some (.slice e)) (hinfo:(P.info? e).map (fun i=>(i.zero,i.size,i.bytes))=some (some z,E.k,k)) (hzs:z.cells.size=E.k) (hk:0 < E.k)
  (p:Nat) (hs:a.eval s=.slice (some ⟨p,0,none⟩) 0 0) (hown:OwE E w base e (some ⟨p,0,none⟩) 0 0 []) (D:Nat→Prop) (A:Option Addr) (m c:Nat) (l1:List α) (hx:a.eval x=.slice A m c) (hb:RdE E w D A m l1) (hD:∀b,D b→But w (some ⟨p,0,none⟩) b)
  (hbytes:m*k≤140737488355328) (hnm:m≤140737488355328) (hbase:base≤w.heap.size)
  (h:∀A' c' w',OwE E w' base e A' m c' l1→Below w.heap.size w w'→(∀a,A'=some a→a.block=p∨w.heap.size≤a.block)→K (a.put o.dst (.slice A' m c')) w'):o.wp P a w K Q:=by
 obtain ⟨A',c',w',hr,h2,h3,h4⟩:=run_append_lit0 (P:=P) w base t o.type e z k ht hinfo hzs hk p hown D A m c l1 hb hD hbytes hnm hbase
 unfold Oper.wp execOp
 simp only [ho,resolve,invoke,builtin,Sem.run_bind,Sem.run_pure,Result.andThen_ok,List.map_toArray,List.map_cons,List.map_nil,hs,hx,hr]
 exact h A' c' w' h2 h3 h4
end Go.Proofs.YthdoimgbbabcaaaGreat

