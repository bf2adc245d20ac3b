import Derived.Test.YtpndfahgflgocaaGreatDoorXt12
import Derived.Test.YtpndfahgflgocaaGreatDoorXt17
import Derived.Test.YtpndfahgflgocaaGreatDoorXt16

namespace Go.Proofs.YtpndfahgflgocaaGreatDoor
open Go.RowKit Go.Shelf Plain

def orgC (o:Int×Int×Int):List Value:=[.int .i64 o.1,.int .i64 o.2.1,.int .i64 o.2.2]
def orgOf (x:NodV):Int×Int×Int:=(x.att.l,x.att.i,x.att.g)
def hdl (k:Int):Bool:=decide (k=1)||decide (k=2)||decide (k=3)
def handF (ls:List (List NodV)) (o:Int×Int×Int):NodV×Bool:=if hdl (lowAt ls o.1 o.2.1).k=true∧(lowAt ls o.1 o.2.1).g=o.2.2 then (lowAt ls o.1 o.2.1,true) else (nod0,false)
theorem own_fr {w:World} {base e n c:Nat} {A:Option Addr} {l:List UInt8} (h:Own w base e A n c l):RdE Enc.byte w (fun b=>base≤b∧b < w.heap.size) A n l:=RdE.of_bs h.bs (fun hn a ha=>by
 obtain ⟨g,cs,e1,hb,hr,-⟩:=h.row hn
 subst e1
 cases ha
 exact ⟨hb,hr.lt⟩)
set_option maxRecDepth 100000 in
theorem bys_size:∀w,(Go.sizeOf 44).run Tryz.prog w=.ok 1 w:=fun _=>rfl
set_option maxRecDepth 100000 in
theorem ens_size:∀w,(Go.sizeOf 45).run Tryz.prog w=.ok 1 w:=fun _=>rfl
def zentM:Value:=.agg #[.int .i64 0,.int .i64 0,.string ⟨#[]⟩]
set_option maxRecDepth 100000 in
theorem entM_info:(Tryz.prog.info? 31).map (fun i=>(i.zero,i.size,i.bytes))=some (some zentM,3,32):=by kernel_rfl
set_option maxRecDepth 100000 in
set_option maxHeartbeats 800000 in
theorem CloneEnt_any {A:Option Addr} {n c:Nat} {l:List EntV} (w:World) (h:RdE entEn w (Under w.heap.size) A n l) (hn:n≤100000):Calls Tryz.prog 96 #[.slice A n c] w (fun e w'=>∃A' c',e=.returned (.slice A' n c')∧OwE entEn w' w.heap.size 31 A' n c' l∧Below w.heap.size w w'):=by
 have H:=hide h
 cases A with
 | none =>
  have h0:n=0:=by
   rcases Nat.eq_zero_or_pos n with h0|h0
   ·exact h0
   ·obtain ⟨_,_,e,_⟩:=h.2 h0;cases e
  subst h0
  obtain rfl:l=[]:=List.eq_nil_of_length_eq_zero h.1
  have hnil:=fun W=>Lib.run_eql_slice_nil (P:=Tryz.prog) W 45 31 none 0 c 0 0 Tryz.underlying45
  clear h
  go_enter Tryz.func96,Tryz.ntmps96
  go_wp2
  go_ret
  exact ⟨none,0,rfl,OwE.nil_ _ _ _ _,below_self w⟩
 | some a =>
  have hnil:=fun W=>Lib.run_eql_slice_nil (P:=Tryz.prog) W 45 31 (some a) n c 0 0 Tryz.underlying45
  clear h
  go_enter Tryz.func96,Tryz.ntmps96
  go_wp2_with (at_builtin;refine wpList_append_OwE (E:=entEn) _ rfl (.tmp 5) (.tmp 6) 45 rfl w.heap.size 31 zentM 32 Tryz.underlying45 entM_info rfl (by decide) (some ⟨w.heap.size,0,none⟩) 0 0 [] rfl (OwE.empty entEn w 31) (Under w.heap.size) (some a) n c l rfl (und_at H.out (below_new (below_self w) _) (Nat.le_refl _)) (fun b hb=>⟨⟨by unfold Under at hb;simp;omega,fun _ _ _ _=>rfl⟩,fun a' ha=>by cases ha;exact Nat.ne_of_lt hb⟩) n (by omega) (by omega) (by omega) (by simp) ?_;intro A5 c5 w5 ho5 hb5;have HO5:=hide ho5;have HB5:=hide hb5;clear ho5 hb5)
  go_ret
  exact ⟨A5,c5,rfl,HO5.out,(below_new (below_self w) _).trans HB5.out⟩
set_option maxHeartbeats 800000 in
theorem handled_any {k:Int} {b:Bool} (h:hdl k=b) (w:World):Calls Tryz.prog 94 #[.int .i64 k] w (BoolB w b):=by
 subst h
 unfold hdl
 by_cases h1:k=1
 ·subst h1
  go_enter Tryz.func94,Tryz.ntmps94
  go_wp2
  go_ret
  exact BoolB.of (below_self w)
 by_cases h2:k=2
 ·subst h2
  go_enter Tryz.func94,Tryz.ntmps94
  go_wp2
  go_ret
  exact BoolB.of (below_self w)
 by_cases h3:k=3
 ·subst h3
  go_enter Tryz.func94,Tryz.ntmps94
  go_wp2
  go_ret
  exact BoolB.of (below_self w)
 have e1:(k==1)=false:=by simpa using h1
 have e2:(k==2)=false:=by simpa using h2
 have e3:(k==3)=false:=by simpa using h3
 rw [decide_eq_false h1,decide_eq_false h2,decide_eq_false h3]
 clear h1 h2 h3
 go_enter Tryz.func94,Tryz.ntmps94
 go_wp2
 go_ret
 exact BoolB.of (below_self w)
def HandE (lo:Nat) (w:World) (R:NodV×Bool) (e:Ending) (w':World):Prop:=∃A n c C m d,e=.returned (.tuple #[.agg (nodC R.1 (.slice A n c) (.slice C m d)).toArray,.bool R.2])∧RdE Enc.byte w' (fun b=>lo≤b∧b < w'.heap.size) A n R.1.data∧RdE entEn w' (fun b=>lo≤b∧b < w'.heap.size) C m R.1.ents∧Below w.heap.size w w'
theorem ent_RH (x:EntV):∀(w:World) (D:Nat→Prop),entEn.R w D [.int .i64 x.slot,.int .i64 x.ino,.string ⟨x.name.toArray⟩] x:=fun _ _=>⟨[.int .i64 x.slot],[.int .i64 x.ino,.string ⟨x.name.toArray⟩],rfl,rfl,[.int .i64 x.ino],[.string ⟨x.name.toArray⟩],rfl,rfl,rfl⟩
theorem OwE.entH {w:World} {base n c:Nat} {A:Option Addr} {l:List EntV} {T:Nat} (h:OwE entEn w base T A n c l):RdE entEn w (fun b=>base≤b∧b < w.heap.size) A n l:=by
 have h1:=(h.rd rfl).plain
 refine ⟨h1.1,fun hn=>?_⟩
 obtain ⟨b,o,e,hb,hc⟩:=h1.2 hn
 have hb0:base≤b:=by
  obtain ⟨css,hown,-⟩:=h
  subst e
  exact (World.ownsRow.lt hown b rfl).1
 exact ⟨b,o,e,⟨hb0,hb⟩,fun i x hx=>by obtain ⟨cs,hR,hcs⟩:=hc i x hx;exact ⟨cs,by rw [ent_cells hR];exact ent_RH _ _ _,hcs⟩⟩
theorem fewl_len {ls:List (List NodV)} (h:FewL ls):∀ns∈ls,ns.length≤1000:=fun ns hn=>by have:=(h.2 ns hn).1;omega
theorem res_ct {fn:Func} {tmps:Array Value} {w:World} {s g t s1 T k:Nat} {cs:List Value} {v:Value} (hr:fn.results=#[.cell s T,.tmp s1]) (ht:tmps.getD s undef=.pointer (some ⟨g,0,none⟩)) (ht1:tmps.getD s1 undef=v) (hag:∀w,(isAgg T).run Tryz.prog w=.ok true w) (hsz:∀w,(sizeOf T).run Tryz.prog w=.ok k w) (h:RowL w g t cs) (hk:cs.length=k):(results fn tmps).run Tryz.prog w=.ok (.tuple #[.agg cs.toArray,v]) w:=by
 have hl:=run_loadRow (P:=Tryz.prog) h hk
 have ht':tmps[s]?.getD undef=.pointer (some ⟨g,0,none⟩):=by simpa using ht
 have ht1':tmps[s1]?.getD undef=v:=by simpa using ht1
 simp [results,hr,ht',ht1',hag,hsz,hl,go_sem]
set_option maxRecDepth 100000 in
set_option maxHeartbeats 8000000 in
theorem HFindE_any {g:GeoQ} {AU AL:Option Addr} {nU cU nL cL B:Nat} {up:List NodV} {ls:List (List NodV)} {o:Int×Int×Int} (w:World) (hu:RdE nodEn w (Under B) AU nU up) (h:RdE layEn w (Under B) AL nL ls) (hB:B≤w.heap.size) (hF:FewL ls) (hup:FewU up):Calls Tryz.prog 66 #[.agg (stkC g (.slice AU nU cU) (.slice AL nL cL)).toArray,.agg (orgC o).toArray] w (HandE w.heap.size w (handF ls o)):=by
 obtain ⟨W1,hW1⟩:∃W1,(((w.alloc (.cells (stkC g (.slice AU nU cU) (.slice AL nL cL)).toArray 29)).alloc (.cells (orgC o).toArray 47)).alloc (.cells (nodC nod0 (.slice none 0 0) (.slice none 0 0)).toArray 51))=W1:=⟨_,rfl⟩
 obtain ⟨r0,r1,r2,hb1,hs1⟩:=rowA3 w _ _ _ _ _ _ hW1
 have hW1':(((w.alloc (.cells #[.int .i64 g.a,.int .i64 g.b,.int .i64 g.c,.int .i64 g.d,.slice AU nU cU,.slice AL nL cL] 29)).alloc (.cells #[.int .i64 o.1,.int .i64 o.2.1,.int .i64 o.2.2] 47)).alloc (.cells #[.int .i64 0,.int .i64 0,.int .i64 0,.int .i64 0,.slice none 0 0,.slice none 0 0,.int .i64 0,.int .i64 0,.string ⟨#[]⟩,.int .i64 0,.int .i64 0,.int .i64 0,.int .i64 0] 51))=W1:=hW1
 have R2:=hide r0
 have R3:=hide r1
 have R4:=hide r2
 have HB:=hide hb1
 have hsz0:=hb1.size
 have HU:=hide (hu.under hb1 hB)
 have HL:=hide (h.under hb1 hB)
 have HF:=hide hF
 have HFU:=hide hup
 obtain ⟨x,hx⟩:∃x,lowAt ls o.1 o.2.1=x:=⟨_,rfl⟩
 have HX:=hide hx
 obtain ⟨b,hb⟩:∃b,hdl x.k=b:=⟨_,rfl⟩
 have HH:=hide hb
 have hpl:=low_plain hF o.1 o.2.1
 rw [hx] at hpl
 have hdl1:x.data.length≤300:=hpl.2.2.2.1
 have hel1:x.ents.length≤16:=hpl.2.2.2.2.1
 clear hpl
 have q3_0:W1.cell? ⟨w.heap.size+1,0,none⟩=some (.int .i64 o.1):=R3.out.cell 0
 have q3_1:W1.cell? ⟨w.heap.size+1,1,none⟩=some (.int .i64 o.2.1):=R3.out.cell 1
 have q3_2:W1.cell? ⟨w.heap.size+1,2,none⟩=some (.int .i64 o.2.2):=R3.out.cell 2
 unfold handF
 rw [hx,hb]
 unfold stkC orgC
 clear r0 r1 r2 hb1 hW1 hu h hF hup hx hb
 cases b
 ·rw [if_neg (by simp)]
  go_enter Tryz.func66,Tryz.ntmps66
  go_wp2_with (first|(refine wpList_loadW rfl 29 (.tmp 2) rfl 6 stk_agg stk_size (w.heap.size) 29 rfl (stkC g (.slice AU nU cU) (.slice AL nL cL)) R2.out rfl ?_)|(go_at_call 93;refine (NLower_e HX.out W1 HL.out (by omega) (by have:=HF.out.1;omega) (fewl_len HF.out)).mono ?_;rintro e1 wN ⟨A1,n1,c1,C1,m1,d1,rfl,hn1,hd,hm1,he,hbel⟩;clear q3_0 q3_1 q3_2;replace HB:=hide (HB.out.trans (hbel.mono HB.out.size));replace R2:=hide (R2.out.on hbel);replace R3:=hide (R3.out.on hbel);replace R4:=hide (R4.out.on hbel);replace HU:=hide (HU.out.under hbel (by omega));replace HL:=hide (HL.out.under hbel (by omega));have hsz2:=hbel.size;have q3_0:wN.cell? ⟨w.heap.size+1,0,none⟩=some (.int .i64 o.1):=R3.out.cell 0;have q3_1:wN.cell? ⟨w.heap.size+1,1,none⟩=some (.int .i64 o.2.1):=R3.out.cell 1;have q3_2:wN.cell? ⟨w.heap.size+1,2,none⟩=some (.int .i64 o.2.2):=R3.out.cell 2;have HD:=hide hd;clear hd;have HE:=hide he;clear he;clear hbel)|(refine wpList_storeW rfl 51 (.tmp 6) (.tmp 13) rfl 13 nod_size (wN.heap.size) 51 rfl (nodC nod0 (.slice none 0 0) (.slice none 0 0)) (nodC x (.slice A1 n1 c1) (.slice C1 m1 d1)) rfl (RowL.new wN 51 (nodC nod0 (.slice none 0 0) (.slice none 0 0))) rfl rfl (nodC_one _ _ _ _ _ _ _) ?_;intro wS3 hr3 hg3 hs3;have hzb:=below_stored' hg3;clear q3_0 q3_1 q3_2;replace HB:=hide (HB.out.trans (hzb.mono HB.out.size));replace R2:=hide (R2.out.on hzb);replace R3:=hide (R3.out.on hzb);replace R4:=hide (R4.out.on hzb);replace HU:=hide (HU.out.under hzb (by omega));replace HL:=hide (HL.out.under hzb (by omega));replace HD:=hide (HD.out.under hzb (by omega));replace HE:=hide (HE.out.under hzb (by omega));have hsz4:=hzb.size;have q3_0:wS3.cell? ⟨w.heap.size+1,0,none⟩=some (.int .i64 o.1):=R3.out.cell 0;have q3_1:wS3.cell? ⟨w.heap.size+1,1,none⟩=some (.int .i64 o.2.1):=R3.out.cell 1;have q3_2:wS3.cell? ⟨w.heap.size+1,2,none⟩=some (.int .i64 o.2.2):=R3.out.cell 2;have R6:=hide hr3;have hlt3:=hr3.lt;have q6_0:wS3.cell? ⟨wN.heap.size,0,none⟩=some (.int .i64 x.k):=R6.out.cell 0;have q6_3:wS3.cell? ⟨wN.heap.size,3,none⟩=some (.int .i64 x.g):=R6.out.cell 3;have q6_4:wS3.cell? ⟨wN.heap.size,4,none⟩=some (.slice A1 n1 c1):=R6.out.cell 4;have q6_5:wS3.cell? ⟨wN.heap.size,5,none⟩=some (.slice C1 m1 d1):=R6.out.cell 5;clear hzb hr3;clear hg3 hs3)|(go_at_call 94;refine (handled_any HH.out wS3).mono ?_;rintro e5 wH ⟨rfl,hbel⟩;clear q3_0 q3_1 q6_0 q6_3 q3_2 q6_4 q6_5;replace HB:=hide (HB.out.trans (hbel.mono HB.out.size));replace R2:=hide (R2.out.on hbel);replace R3:=hide (R3.out.on hbel);replace R4:=hide (R4.out.on hbel);replace HU:=hide (HU.out.under hbel (by omega));replace HL:=hide (HL.out.under hbel (by omega));replace HD:=hide (HD.out.under hbel (by omega));replace HE:=hide (HE.out.under hbel (by omega));replace R6:=hide (R6.out.on hbel);have hsz6:=hbel.size;have q3_0:wH.cell? ⟨w.heap.size+1,0,none⟩=some (.int .i64 o.1):=R3.out.cell 0;have q3_1:wH.cell? ⟨w.heap.size+1,1,none⟩=some (.int .i64 o.2.1):=R3.out.cell 1;have q6_0:wH.cell? ⟨wN.heap.size,0,none⟩=some (.int .i64 x.k):=R6.out.cell 0;have q6_3:wH.cell? ⟨wN.heap.size,3,none⟩=some (.int .i64 x.g):=R6.out.cell 3;have q3_2:wH.cell? ⟨w.heap.size+1,2,none⟩=some (.int .i64 o.2.2):=R3.out.cell 2;have q6_4:wH.cell? ⟨wN.heap.size,4,none⟩=some (.slice A1 n1 c1):=R6.out.cell 4;have q6_5:wH.cell? ⟨wN.heap.size,5,none⟩=some (.slice C1 m1 d1):=R6.out.cell 5;clear hbel)|(refine wpList_storeW rfl 51 (.tmp 4) (.tmp 25) rfl 13 nod_size (w.heap.size+1+1) 51 rfl (nodC nod0 (.slice none 0 0) (.slice none 0 0)) (nodC nod0 (.slice none 0 0) (.slice none 0 0)) rfl R4.out rfl rfl (nodC_one _ _ _ _ _ _ _) ?_;intro wS7 hr7 hg7 hs7;clear q3_0 q3_1 q6_0 q6_3 q3_2 q6_4 q6_5;replace HB:=hide (HB.out.grown hg7 (by omega) (pu4 (by omega)));replace R2:=hide (R2.out.grown hg7 (pu5 (by omega)));replace R3:=hide (R3.out.grown hg7 (pu5 (by omega)));replace HU:=hide (und_grown HU.out hg7 (by omega) (by omega));replace HL:=hide (und_grown HL.out hg7 (by omega) (by omega));replace HD:=hide (und_grown HD.out hg7 (by omega) (by omega));replace HE:=hide (und_grown HE.out hg7 (by omega) (by omega));replace R6:=hide (R6.out.grown hg7 (pu5 (by omega)));have hsz8:=hg7.size;replace R4:=hide hr7;have q3_0:wS7.cell? ⟨w.heap.size+1,0,none⟩=some (.int .i64 o.1):=R3.out.cell 0;have q3_1:wS7.cell? ⟨w.heap.size+1,1,none⟩=some (.int .i64 o.2.1):=R3.out.cell 1;have q6_0:wS7.cell? ⟨wN.heap.size,0,none⟩=some (.int .i64 x.k):=R6.out.cell 0;have q6_3:wS7.cell? ⟨wN.heap.size,3,none⟩=some (.int .i64 x.g):=R6.out.cell 3;have q3_2:wS7.cell? ⟨w.heap.size+1,2,none⟩=some (.int .i64 o.2.2):=R3.out.cell 2;have q6_4:wS7.cell? ⟨wN.heap.size,4,none⟩=some (.slice A1 n1 c1):=R6.out.cell 4;have q6_5:wS7.cell? ⟨wN.heap.size,5,none⟩=some (.slice C1 m1 d1):=R6.out.cell 5;clear hr7 hg7 hs7))
  exact bodyPost_ret (res_ct Tryz.results66 rfl rfl nod_agg nod_size R4.out rfl) rfl ⟨none,0,0,none,0,0,rfl,RdE.none_ _ _ _ _,RdE.none_ _ _ _ _,HB.out⟩
 ·by_cases hg:x.g=o.2.2
  ·rw [if_pos ⟨rfl,hg⟩]
   have hg1:(x.g != o.2.2)=false:=by simpa using hg
   clear hg
   go_enter Tryz.func66,Tryz.ntmps66
   go_wp2_with (first|(refine wpList_loadW rfl 29 (.tmp 2) rfl 6 stk_agg stk_size (w.heap.size) 29 rfl (stkC g (.slice AU nU cU) (.slice AL nL cL)) R2.out rfl ?_)|(go_at_call 93;refine (NLower_e HX.out W1 HL.out (by omega) (by have:=HF.out.1;omega) (fewl_len HF.out)).mono ?_;rintro e1 wN ⟨A1,n1,c1,C1,m1,d1,rfl,hn1,hd,hm1,he,hbel⟩;clear q3_0 q3_1 q3_2;replace HB:=hide (HB.out.trans (hbel.mono HB.out.size));replace R2:=hide (R2.out.on hbel);replace R3:=hide (R3.out.on hbel);replace R4:=hide (R4.out.on hbel);replace HU:=hide (HU.out.under hbel (by omega));replace HL:=hide (HL.out.under hbel (by omega));have hsz2:=hbel.size;have q3_0:wN.cell? ⟨w.heap.size+1,0,none⟩=some (.int .i64 o.1):=R3.out.cell 0;have q3_1:wN.cell? ⟨w.heap.size+1,1,none⟩=some (.int .i64 o.2.1):=R3.out.cell 1;have q3_2:wN.cell? ⟨w.heap.size+1,2,none⟩=some (.int .i64 o.2.2):=R3.out.cell 2;have HD:=hide hd;clear hd;have HE:=hide he;clear he;clear hbel)|(refine wpList_storeW rfl 51 (.tmp 6) (.tmp 13) rfl 13 nod_size (wN.heap.size) 51 rfl (nodC nod0 (.slice none 0 0) (.slice none 0 0)) (nodC x (.slice A1 n1 c1) (.slice C1 m1 d1)) rfl (RowL.new wN 51 (nodC nod0 (.slice none 0 0) (.slice none 0 0))) rfl rfl (nodC_one _ _ _ _ _ _ _) ?_;intro wS3 hr3 hg3 hs3;have hzb:=below_stored' hg3;clear q3_0 q3_1 q3_2;replace HB:=hide (HB.out.trans (hzb.mono HB.out.size));replace R2:=hide (R2.out.on hzb);replace R3:=hide (R3.out.on hzb);replace R4:=hide (R4.out.on hzb);replace HU:=hide (HU.out.under hzb (by omega));replace HL:=hide (HL.out.under hzb (by omega));replace HD:=hide (HD.out.under hzb (by omega));replace HE:=hide (HE.out.under hzb (by omega));have hsz4:=hzb.size;have q3_0:wS3.cell? ⟨w.heap.size+1,0,none⟩=some (.int .i64 o.1):=R3.out.cell 0;have q3_1:wS3.cell? ⟨w.heap.size+1,1,none⟩=some (.int .i64 o.2.1):=R3.out.cell 1;have q3_2:wS3.cell? ⟨w.heap.size+1,2,none⟩=some (.int .i64 o.2.2):=R3.out.cell 2;have R6:=hide hr3;have hlt3:=hr3.lt;have q6_0:wS3.cell? ⟨wN.heap.size,0,none⟩=some (.int .i64 x.k):=R6.out.cell 0;have q6_3:wS3.cell? ⟨wN.heap.size,3,none⟩=some (.int .i64 x.g):=R6.out.cell 3;have q6_4:wS3.cell? ⟨wN.heap.size,4,none⟩=some (.slice A1 n1 c1):=R6.out.cell 4;have q6_5:wS3.cell? ⟨wN.heap.size,5,none⟩=some (.slice C1 m1 d1):=R6.out.cell 5;clear hzb hr3;clear hg3 hs3)|(go_at_call 94;refine (handled_any HH.out wS3).mono ?_;rintro e5 wH ⟨rfl,hbel⟩;clear q3_0 q3_1 q6_0 q6_3 q3_2 q6_4 q6_5;replace HB:=hide (HB.out.trans (hbel.mono HB.out.size));replace R2:=hide (R2.out.on hbel);replace R3:=hide (R3.out.on hbel);replace R4:=hide (R4.out.on hbel);replace HU:=hide (HU.out.under hbel (by omega));replace HL:=hide (HL.out.under hbel (by omega));replace HD:=hide (HD.out.under hbel (by omega));replace HE:=hide (HE.out.under hbel (by omega));replace R6:=hide (R6.out.on hbel);have hsz6:=hbel.size;have q3_0:wH.cell? ⟨w.heap.size+1,0,none⟩=some (.int .i64 o.1):=R3.out.cell 0;have q3_1:wH.cell? ⟨w.heap.size+1,1,none⟩=some (.int .i64 o.2.1):=R3.out.cell 1;have q6_0:wH.cell? ⟨wN.heap.size,0,none⟩=some (.int .i64 x.k):=R6.out.cell 0;have q6_3:wH.cell? ⟨wN.heap.size,3,none⟩=some (.int .i64 x.g):=R6.out.cell 3;have q3_2:wH.cell? ⟨w.heap.size+1,2,none⟩=some (.int .i64 o.2.2):=R3.out.cell 2;have q6_4:wH.cell? ⟨wN.heap.size,4,none⟩=some (.slice A1 n1 c1):=R6.out.cell 4;have q6_5:wH.cell? ⟨wN.heap.size,5,none⟩=some (.slice C1 m1 d1):=R6.out.cell 5;clear hbel)|(go_at_call 95;refine (SClone_any wH (Bs.of_rd (und_up HD.out (by omega))) (by have:=HD.out.1;omega)).mono ?_;rintro e7 wC ⟨A7,c7,rfl,ho7,hbel⟩;clear q3_0 q3_1 q6_0 q6_3 q3_2 q6_4 q6_5;replace HB:=hide (HB.out.trans (hbel.mono HB.out.size));replace R2:=hide (R2.out.on hbel);replace R3:=hide (R3.out.on hbel);replace R4:=hide (R4.out.on hbel);replace HU:=hide (HU.out.under hbel (by omega));replace HL:=hide (HL.out.under hbel (by omega));replace HD:=hide (HD.out.under hbel (by omega));replace HE:=hide (HE.out.under hbel (by omega));replace R6:=hide (R6.out.on hbel);have hsz8:=hbel.size;have q3_0:wC.cell? ⟨w.heap.size+1,0,none⟩=some (.int .i64 o.1):=R3.out.cell 0;have q3_1:wC.cell? ⟨w.heap.size+1,1,none⟩=some (.int .i64 o.2.1):=R3.out.cell 1;have q6_0:wC.cell? ⟨wN.heap.size,0,none⟩=some (.int .i64 x.k):=R6.out.cell 0;have q6_3:wC.cell? ⟨wN.heap.size,3,none⟩=some (.int .i64 x.g):=R6.out.cell 3;have q3_2:wC.cell? ⟨w.heap.size+1,2,none⟩=some (.int .i64 o.2.2):=R3.out.cell 2;have q6_4:wC.cell? ⟨wN.heap.size,4,none⟩=some (.slice A1 n1 c1):=R6.out.cell 4;have q6_5:wC.cell? ⟨wN.heap.size,5,none⟩=some (.slice C1 m1 d1):=R6.out.cell 5;have H7:=hide (own_fr ho7);clear ho7;clear hbel)|(refine wpList_storeV rfl 44 (.tmp 29) (.tmp 28) rfl bys_size (wN.heap.size) 4 51 rfl (.slice A7 n1 c7) rfl rfl rfl (nodC x (.slice A1 n1 c1) (.slice C1 m1 d1)) R6.out (by show 4 < 13;omega) ?_;intro wS9 hr9 hg9 hs9;replace hr9:RowL wS9 (wN.heap.size) 51 [.int .i64 x.k,.int .i64 x.p,.int .i64 x.n,.int .i64 x.g,.slice A7 n1 c7,.slice C1 m1 d1,.int .i64 x.att.h,.int .i64 x.att.o,.string ⟨x.att.r.toArray⟩,.int .i64 x.att.l,.int .i64 x.att.i,.int .i64 x.att.g,.int .i64 x.att.s]:=hr9;clear q3_0 q3_1 q6_0 q6_3 q3_2 q6_4 q6_5;replace HB:=hide (HB.out.grown hg9 (by omega) (pu4 (by omega)));replace R2:=hide (R2.out.grown hg9 (pu5 (by omega)));replace R3:=hide (R3.out.grown hg9 (pu5 (by omega)));replace R4:=hide (R4.out.grown hg9 (pu5 (by omega)));replace HU:=hide (und_grown HU.out hg9 (by omega) (by omega));replace HL:=hide (und_grown HL.out hg9 (by omega) (by omega));replace HD:=hide (und_grown HD.out hg9 (by omega) (by omega));replace HE:=hide (und_grown HE.out hg9 (by omega) (by omega));replace H7:=hide (fr_grown H7.out hg9 (by omega));have hsz10:=hg9.size;replace R6:=hide hr9;have q3_0:wS9.cell? ⟨w.heap.size+1,0,none⟩=some (.int .i64 o.1):=R3.out.cell 0;have q3_1:wS9.cell? ⟨w.heap.size+1,1,none⟩=some (.int .i64 o.2.1):=R3.out.cell 1;have q6_0:wS9.cell? ⟨wN.heap.size,0,none⟩=some (.int .i64 x.k):=R6.out.cell 0;have q6_3:wS9.cell? ⟨wN.heap.size,3,none⟩=some (.int .i64 x.g):=R6.out.cell 3;have q3_2:wS9.cell? ⟨w.heap.size+1,2,none⟩=some (.int .i64 o.2.2):=R3.out.cell 2;have q6_4:wS9.cell? ⟨wN.heap.size,4,none⟩=some (.slice A7 n1 c7):=R6.out.cell 4;have q6_5:wS9.cell? ⟨wN.heap.size,5,none⟩=some (.slice C1 m1 d1):=R6.out.cell 5;clear hr9 hg9 hs9)|(go_at_call 96;refine (CloneEnt_any wS9 (und_up HE.out (by omega)) (by have:=HE.out.1;omega)).mono ?_;rintro e11 wE ⟨A8,c8,rfl,ho8,hbel⟩;clear q3_0 q3_1 q6_0 q6_3 q3_2 q6_4 q6_5;replace HB:=hide (HB.out.trans (hbel.mono HB.out.size));replace R2:=hide (R2.out.on hbel);replace R3:=hide (R3.out.on hbel);replace R4:=hide (R4.out.on hbel);replace HU:=hide (HU.out.under hbel (by omega));replace HL:=hide (HL.out.under hbel (by omega));replace HD:=hide (HD.out.under hbel (by omega));replace HE:=hide (HE.out.under hbel (by omega));replace R6:=hide (R6.out.on hbel);replace H7:=hide (fr_on H7.out hbel);have H8:=hide ho8.entH;clear ho8;have hsz12:=hbel.size;have q3_0:wE.cell? ⟨w.heap.size+1,0,none⟩=some (.int .i64 o.1):=R3.out.cell 0;have q3_1:wE.cell? ⟨w.heap.size+1,1,none⟩=some (.int .i64 o.2.1):=R3.out.cell 1;have q6_0:wE.cell? ⟨wN.heap.size,0,none⟩=some (.int .i64 x.k):=R6.out.cell 0;have q6_3:wE.cell? ⟨wN.heap.size,3,none⟩=some (.int .i64 x.g):=R6.out.cell 3;have q3_2:wE.cell? ⟨w.heap.size+1,2,none⟩=some (.int .i64 o.2.2):=R3.out.cell 2;have q6_4:wE.cell? ⟨wN.heap.size,4,none⟩=some (.slice A7 n1 c7):=R6.out.cell 4;have q6_5:wE.cell? ⟨wN.heap.size,5,none⟩=some (.slice C1 m1 d1):=R6.out.cell 5;clear hbel)|(refine wpList_storeV rfl 45 (.tmp 33) (.tmp 32) rfl ens_size (wN.heap.size) 5 51 rfl (.slice A8 m1 c8) rfl rfl rfl [.int .i64 x.k,.int .i64 x.p,.int .i64 x.n,.int .i64 x.g,.slice A7 n1 c7,.slice C1 m1 d1,.int .i64 x.att.h,.int .i64 x.att.o,.string ⟨x.att.r.toArray⟩,.int .i64 x.att.l,.int .i64 x.att.i,.int .i64 x.att.g,.int .i64 x.att.s] R6.out (by show 5 < 13;omega) ?_;intro wS13 hr13 hg13 hs13;replace hr13:RowL wS13 (wN.heap.size) 51 [.int .i64 x.k,.int .i64 x.p,.int .i64 x.n,.int .i64 x.g,.slice A7 n1 c7,.slice A8 m1 c8,.int .i64 x.att.h,.int .i64 x.att.o,.string ⟨x.att.r.toArray⟩,.int .i64 x.att.l,.int .i64 x.att.i,.int .i64 x.att.g,.int .i64 x.att.s]:=hr13;clear q3_0 q3_1 q6_0 q6_3 q3_2 q6_4 q6_5;replace HB:=hide (HB.out.grown hg13 (by omega) (pu4 (by omega)));replace R2:=hide (R2.out.grown hg13 (pu5 (by omega)));replace R3:=hide (R3.out.grown hg13 (pu5 (by omega)));replace R4:=hide (R4.out.grown hg13 (pu5 (by omega)));replace HU:=hide (und_grown HU.out hg13 (by omega) (by omega));replace HL:=hide (und_grown HL.out hg13 (by omega) (by omega));replace HD:=hide (und_grown HD.out hg13 (by omega) (by omega));replace HE:=hide (und_grown HE.out hg13 (by omega) (by omega));replace H7:=hide (fr_grown H7.out hg13 (by omega));replace H8:=hide (fr_grown H8.out hg13 (by omega));have hsz14:=hg13.size;replace R6:=hide hr13;have q3_0:wS13.cell? ⟨w.heap.size+1,0,none⟩=some (.int .i64 o.1):=R3.out.cell 0;have q3_1:wS13.cell? ⟨w.heap.size+1,1,none⟩=some (.int .i64 o.2.1):=R3.out.cell 1;have q6_0:wS13.cell? ⟨wN.heap.size,0,none⟩=some (.int .i64 x.k):=R6.out.cell 0;have q6_3:wS13.cell? ⟨wN.heap.size,3,none⟩=some (.int .i64 x.g):=R6.out.cell 3;have q3_2:wS13.cell? ⟨w.heap.size+1,2,none⟩=some (.int .i64 o.2.2):=R3.out.cell 2;have q6_4:wS13.cell? ⟨wN.heap.size,4,none⟩=some (.slice A7 n1 c7):=R6.out.cell 4;have q6_5:wS13.cell? ⟨wN.heap.size,5,none⟩=some (.slice A8 m1 c8):=R6.out.cell 5;clear hr13 hg13 hs13)|(refine wpList_loadW rfl 51 (.tmp 6) rfl 13 nod_agg nod_size (wN.heap.size) 51 rfl [.int .i64 x.k,.int .i64 x.p,.int .i64 x.n,.int .i64 x.g,.slice A7 n1 c7,.slice A8 m1 c8,.int .i64 x.att.h,.int .i64 x.att.o,.string ⟨x.att.r.toArray⟩,.int .i64 x.att.l,.int .i64 x.att.i,.int .i64 x.att.g,.int .i64 x.att.s] R6.out rfl ?_)|(refine wpList_storeW rfl 51 (.tmp 4) (.tmp 34) rfl 13 nod_size (w.heap.size+1+1) 51 rfl (nodC nod0 (.slice none 0 0) (.slice none 0 0)) (nodC x (.slice A7 n1 c7) (.slice A8 m1 c8)) rfl R4.out rfl rfl (nodC_one _ _ _ _ _ _ _) ?_;intro wS15 hr15 hg15 hs15;clear q3_0 q3_1 q6_0 q6_3 q3_2 q6_4 q6_5;replace HB:=hide (HB.out.grown hg15 (by omega) (pu4 (by omega)));replace R2:=hide (R2.out.grown hg15 (pu5 (by omega)));replace R3:=hide (R3.out.grown hg15 (pu5 (by omega)));replace HU:=hide (und_grown HU.out hg15 (by omega) (by omega));replace HL:=hide (und_grown HL.out hg15 (by omega) (by omega));replace HD:=hide (und_grown HD.out hg15 (by omega) (by omega));replace HE:=hide (und_grown HE.out hg15 (by omega) (by omega));replace R6:=hide (R6.out.grown hg15 (pu5 (by omega)));replace H7:=hide (fr_grown H7.out hg15 (by omega));replace H8:=hide (fr_grown H8.out hg15 (by omega));have hsz16:=hg15.size;replace R4:=hide hr15;have q3_0:wS15.cell? ⟨w.heap.size+1,0,none⟩=some (.int .i64 o.1):=R3.out.cell 0;have q3_1:wS15.cell? ⟨w.heap.size+1,1,none⟩=some (.int .i64 o.2.1):=R3.out.cell 1;have q6_0:wS15.cell? ⟨wN.heap.size,0,none⟩=some (.int .i64 x.k):=R6.out.cell 0;have q6_3:wS15.cell? ⟨wN.heap.size,3,none⟩=some (.int .i64 x.g):=R6.out.cell 3;have q3_2:wS15.cell? ⟨w.heap.size+1,2,none⟩=some (.int .i64 o.2.2):=R3.out.cell 2;have q6_4:wS15.cell? ⟨wN.heap.size,4,none⟩=some (.slice A7 n1 c7):=R6.out.cell 4;have q6_5:wS15.cell? ⟨wN.heap.size,5,none⟩=some (.slice A8 m1 c8):=R6.out.cell 5;clear hr15 hg15 hs15))
   exact bodyPost_ret (res_ct Tryz.results66 rfl rfl nod_agg nod_size R4.out rfl) rfl ⟨A7,n1,c7,A8,m1,c8,rfl,fr_low H7.out (by omega),fr_low H8.out (by omega),HB.out⟩
  ·rw [if_neg (fun h=>hg h.2)]
   have hg1:(x.g != o.2.2)=true:=by simpa using hg
   clear hg
   go_enter Tryz.func66,Tryz.ntmps66
   go_wp2_with (first|(refine wpList_loadW rfl 29 (.tmp 2) rfl 6 stk_agg stk_size (w.heap.size) 29 rfl (stkC g (.slice AU nU cU) (.slice AL nL cL)) R2.out rfl ?_)|(go_at_call 93;refine (NLower_e HX.out W1 HL.out (by omega) (by have:=HF.out.1;omega) (fewl_len HF.out)).mono ?_;rintro e1 wN ⟨A1,n1,c1,C1,m1,d1,rfl,hn1,hd,hm1,he,hbel⟩;clear q3_0 q3_1 q3_2;replace HB:=hide (HB.out.trans (hbel.mono HB.out.size));replace R2:=hide (R2.out.on hbel);replace R3:=hide (R3.out.on hbel);replace R4:=hide (R4.out.on hbel);replace HU:=hide (HU.out.under hbel (by omega));replace HL:=hide (HL.out.under hbel (by omega));have hsz2:=hbel.size;have q3_0:wN.cell? ⟨w.heap.size+1,0,none⟩=some (.int .i64 o.1):=R3.out.cell 0;have q3_1:wN.cell? ⟨w.heap.size+1,1,none⟩=some (.int .i64 o.2.1):=R3.out.cell 1;have q3_2:wN.cell? ⟨w.heap.size+1,2,none⟩=some (.int .i64 o.2.2):=R3.out.cell 2;have HD:=hide hd;clear hd;have HE:=hide he;clear he;clear hbel)|(refine wpList_storeW rfl 51 (.tmp 6) (.tmp 13) rfl 13 nod_size (wN.heap.size) 51 rfl (nodC nod0 (.slice none 0 0) (.slice none 0 0)) (nodC x (.slice A1 n1 c1) (.slice C1 m1 d1)) rfl (RowL.new wN 51 (nodC nod0 (.slice none 0 0) (.slice none 0 0))) rfl rfl (nodC_one _ _ _ _ _ _ _) ?_;intro wS3 hr3 hg3 hs3;have hzb:=below_stored' hg3;clear q3_0 q3_1 q3_2;replace HB:=hide (HB.out.trans (hzb.mono HB.out.size));replace R2:=hide (R2.out.on hzb);replace R3:=hide (R3.out.on hzb);replace R4:=hide (R4.out.on hzb);replace HU:=hide (HU.out.under hzb (by omega));replace HL:=hide (HL.out.under hzb (by omega));replace HD:=hide (HD.out.under hzb (by omega));replace HE:=hide (HE.out.under hzb (by omega));have hsz4:=hzb.size;have q3_0:wS3.cell? ⟨w.heap.size+1,0,none⟩=some (.int .i64 o.1):=R3.out.cell 0;have q3_1:wS3.cell? ⟨w.heap.size+1,1,none⟩=some (.int .i64 o.2.1):=R3.out.cell 1;have q3_2:wS3.cell? ⟨w.heap.size+1,2,none⟩=some (.int .i64 o.2.2):=R3.out.cell 2;have R6:=hide hr3;have hlt3:=hr3.lt;have q6_0:wS3.cell? ⟨wN.heap.size,0,none⟩=some (.int .i64 x.k):=R6.out.cell 0;have q6_3:wS3.cell? ⟨wN.heap.size,3,none⟩=some (.int .i64 x.g):=R6.out.cell 3;have q6_4:wS3.cell? ⟨wN.heap.size,4,none⟩=some (.slice A1 n1 c1):=R6.out.cell 4;have q6_5:wS3.cell? ⟨wN.heap.size,5,none⟩=some (.slice C1 m1 d1):=R6.out.cell 5;clear hzb hr3;clear hg3 hs3)|(go_at_call 94;refine (handled_any HH.out wS3).mono ?_;rintro e5 wH ⟨rfl,hbel⟩;clear q3_0 q3_1 q6_0 q6_3 q3_2 q6_4 q6_5;replace HB:=hide (HB.out.trans (hbel.mono HB.out.size));replace R2:=hide (R2.out.on hbel);replace R3:=hide (R3.out.on hbel);replace R4:=hide (R4.out.on hbel);replace HU:=hide (HU.out.under hbel (by omega));replace HL:=hide (HL.out.under hbel (by omega));replace HD:=hide (HD.out.under hbel (by omega));replace HE:=hide (HE.out.under hbel (by omega));replace R6:=hide (R6.out.on hbel);have hsz6:=hbel.size;have q3_0:wH.cell? ⟨w.heap.size+1,0,none⟩=some (.int .i64 o.1):=R3.out.cell 0;have q3_1:wH.cell? ⟨w.heap.size+1,1,none⟩=some (.int .i64 o.2.1):=R3.out.cell 1;have q6_0:wH.cell? ⟨wN.heap.size,0,none⟩=some (.int .i64 x.k):=R6.out.cell 0;have q6_3:wH.cell? ⟨wN.heap.size,3,none⟩=some (.int .i64 x.g):=R6.out.cell 3;have q3_2:wH.cell? ⟨w.heap.size+1,2,none⟩=some (.int .i64 o.2.2):=R3.out.cell 2;have q6_4:wH.cell? ⟨wN.heap.size,4,none⟩=some (.slice A1 n1 c1):=R6.out.cell 4;have q6_5:wH.cell? ⟨wN.heap.size,5,none⟩=some (.slice C1 m1 d1):=R6.out.cell 5;clear hbel)|(refine wpList_storeW rfl 51 (.tmp 4) (.tmp 25) rfl 13 nod_size (w.heap.size+1+1) 51 rfl (nodC nod0 (.slice none 0 0) (.slice none 0 0)) (nodC nod0 (.slice none 0 0) (.slice none 0 0)) rfl R4.out rfl rfl (nodC_one _ _ _ _ _ _ _) ?_;intro wS7 hr7 hg7 hs7;clear q3_0 q3_1 q6_0 q6_3 q3_2 q6_4 q6_5;replace HB:=hide (HB.out.grown hg7 (by omega) (pu4 (by omega)));replace R2:=hide (R2.out.grown hg7 (pu5 (by omega)));replace R3:=hide (R3.out.grown hg7 (pu5 (by omega)));replace HU:=hide (und_grown HU.out hg7 (by omega) (by omega));replace HL:=hide (und_grown HL.out hg7 (by omega) (by omega));replace HD:=hide (und_grown HD.out hg7 (by omega) (by omega));replace HE:=hide (und_grown HE.out hg7 (by omega) (by omega));replace R6:=hide (R6.out.grown hg7 (pu5 (by omega)));have hsz8:=hg7.size;replace R4:=hide hr7;have q3_0:wS7.cell? ⟨w.heap.size+1,0,none⟩=some (.int .i64 o.1):=R3.out.cell 0;have q3_1:wS7.cell? ⟨w.heap.size+1,1,none⟩=some (.int .i64 o.2.1):=R3.out.cell 1;have q6_0:wS7.cell? ⟨wN.heap.size,0,none⟩=some (.int .i64 x.k):=R6.out.cell 0;have q6_3:wS7.cell? ⟨wN.heap.size,3,none⟩=some (.int .i64 x.g):=R6.out.cell 3;have q3_2:wS7.cell? ⟨w.heap.size+1,2,none⟩=some (.int .i64 o.2.2):=R3.out.cell 2;have q6_4:wS7.cell? ⟨wN.heap.size,4,none⟩=some (.slice A1 n1 c1):=R6.out.cell 4;have q6_5:wS7.cell? ⟨wN.heap.size,5,none⟩=some (.slice C1 m1 d1):=R6.out.cell 5;clear hr7 hg7 hs7))
   exact bodyPost_ret (res_ct Tryz.results66 rfl rfl nod_agg nod_size R4.out rfl) rfl ⟨none,0,0,none,0,0,rfl,RdE.none_ _ _ _ _,RdE.none_ _ _ _ _,HB.out⟩
theorem find_case (x:NodV) (g:Int):((x.k != 1)=false∧(x.k != 2)=true∧(x.k != 3)=true∧(x.g != g)=false∧(hdl x.k=true∧x.g=g))∨((x.k != 1)=true∧(x.k != 2)=false∧(x.k != 3)=true∧(x.g != g)=false∧(hdl x.k=true∧x.g=g))∨((x.k != 1)=true∧(x.k != 2)=true∧(x.k != 3)=false∧(x.g != g)=false∧(hdl x.k=true∧x.g=g))∨((x.k != 1)=false∧(x.k != 2)=true∧(x.k != 3)=true∧(x.g != g)=true∧¬(hdl x.k=true∧x.g=g))∨((x.k != 1)=true∧(x.k != 2)=false∧(x.k != 3)=true∧(x.g != g)=true∧¬(hdl x.k=true∧x.g=g))∨((x.k != 1)=true∧(x.k != 2)=true∧(x.k != 3)=false∧(x.g != g)=true∧¬(hdl x.k=true∧x.g=g))∨((x.k != 1)=true∧(x.k != 2)=true∧(x.k != 3)=true∧True∧¬(hdl x.k=true∧x.g=g)):=by
 by_cases hg:x.g=g
 ·by_cases h1:x.k=1
  ·simp [hdl,h1,hg]
  ·by_cases h2:x.k=2
   ·simp [hdl,h2,hg]
   ·by_cases h3:x.k=3
    ·simp [hdl,h3,hg]
    ·simp [hdl,h1,h2,h3]
 ·by_cases h1:x.k=1
  ·simp [h1,hg]
  ·by_cases h2:x.k=2
   ·simp [h2,hg]
   ·by_cases h3:x.k=3
    ·simp [h3,hg]
    ·simp [h1,h2,h3,hg]
def HandD (B:Nat) (w:World) (R:NodV×Bool) (e:Ending) (w':World):Prop:=∃A n c C m d,e=.returned (.tuple #[.agg (nodC R.1 (.slice A n c) (.slice C m d)).toArray,.bool R.2])∧RdE Enc.byte w' (Under B) A n R.1.data∧RdE entEn w' (Under B) C m R.1.ents∧Below w.heap.size w w'
set_option maxRecDepth 100000 in
set_option maxHeartbeats 8000000 in
theorem RFind15E_any {g:GeoQ} {AU AL:Option Addr} {nU cU nL cL B:Nat} {up:List NodV} {ls:List (List NodV)} {o:Int×Int×Int} {R:NodV×Bool} (hR:handF ls o=R) (w:World) (hu:RdE nodEn w (Under B) AU nU up) (h:RdE layEn w (Under B) AL nL ls) (hB:B≤w.heap.size) (hF:FewL ls) (hup:FewU up):Calls Tryz.prog 30 #[.agg (stkC g (.slice AU nU cU) (.slice AL nL cL)).toArray,.agg (orgC o).toArray] w (HandD B w R):=by
 obtain ⟨W1,hW1⟩:∃W1,(((w.alloc (.cells (stkC g (.slice AU nU cU) (.slice AL nL cL)).toArray 29)).alloc (.cells (orgC o).toArray 47)).alloc (.cells (nodC nod0 (.slice none 0 0) (.slice none 0 0)).toArray 51))=W1:=⟨_,rfl⟩
 obtain ⟨r0,r1,r2,hb1,hs1⟩:=rowA3 w _ _ _ _ _ _ hW1
 have hW1':(((w.alloc (.cells #[.int .i64 g.a,.int .i64 g.b,.int .i64 g.c,.int .i64 g.d,.slice AU nU cU,.slice AL nL cL] 29)).alloc (.cells #[.int .i64 o.1,.int .i64 o.2.1,.int .i64 o.2.2] 47)).alloc (.cells #[.int .i64 0,.int .i64 0,.int .i64 0,.int .i64 0,.slice none 0 0,.slice none 0 0,.int .i64 0,.int .i64 0,.string ⟨#[]⟩,.int .i64 0,.int .i64 0,.int .i64 0,.int .i64 0] 51))=W1:=hW1
 have R2:=hide r0
 have R3:=hide r1
 have R4:=hide r2
 have HB:=hide hb1
 have hsz0:=hb1.size
 have HU:=hide (hu.under hb1 hB)
 have HL:=hide (h.under hb1 hB)
 have HF:=hide hF
 have HFU:=hide hup
 obtain ⟨x,hx⟩:∃x,lowAt ls o.1 o.2.1=x:=⟨_,rfl⟩
 have HX:=hide hx
 have q3_0:W1.cell? ⟨w.heap.size+1,0,none⟩=some (.int .i64 o.1):=R3.out.cell 0
 have q3_1:W1.cell? ⟨w.heap.size+1,1,none⟩=some (.int .i64 o.2.1):=R3.out.cell 1
 have q3_2:W1.cell? ⟨w.heap.size+1,2,none⟩=some (.int .i64 o.2.2):=R3.out.cell 2
 unfold stkC orgC
 unfold handF at hR
 rw [hx] at hR
 rcases find_case x o.2.2 with ⟨k1,k2,k3,hg1,hc⟩|⟨k1,k2,k3,hg1,hc⟩|⟨k1,k2,k3,hg1,hc⟩|⟨k1,k2,k3,hg1,hc⟩|⟨k1,k2,k3,hg1,hc⟩|⟨k1,k2,k3,hg1,hc⟩|⟨k1,k2,k3,hg1,hc⟩
 all_goals (first|rw [if_pos hc] at hR|rw [if_neg hc] at hR)
 all_goals subst hR
 all_goals clear r0 r1 r2 hb1 hW1 hu h hF hup hx hc
 all_goals go_enter Tryz.func30,Tryz.ntmps30
 all_goals go_wp2_with (first|(refine wpList_loadW rfl 29 (.tmp 2) rfl 6 stk_agg stk_size (w.heap.size) 29 rfl (stkC g (.slice AU nU cU) (.slice AL nL cL)) R2.out rfl ?_)|(go_at_call 52;refine (RLower_e HX.out W1 HL.out (by omega) (by have:=HF.out.1;omega) (fewl_len HF.out)).mono ?_;rintro e1 wN ⟨A1,n1,c1,C1,m1,d1,rfl,hn1,hd,hm1,he,hbel⟩;clear q3_0 q3_1 q3_2;replace HB:=hide (HB.out.trans (hbel.mono HB.out.size));replace R2:=hide (R2.out.on hbel);replace R3:=hide (R3.out.on hbel);replace R4:=hide (R4.out.on hbel);replace HU:=hide (HU.out.under hbel (by omega));replace HL:=hide (HL.out.under hbel (by omega));have hsz2:=hbel.size;have q3_0:wN.cell? ⟨w.heap.size+1,0,none⟩=some (.int .i64 o.1):=R3.out.cell 0;have q3_1:wN.cell? ⟨w.heap.size+1,1,none⟩=some (.int .i64 o.2.1):=R3.out.cell 1;have q3_2:wN.cell? ⟨w.heap.size+1,2,none⟩=some (.int .i64 o.2.2):=R3.out.cell 2;have HD:=hide hd;clear hd;have HE:=hide he;clear he;clear hbel)|(refine wpList_storeW rfl 51 (.tmp 6) (.tmp 13) rfl 13 nod_size (wN.heap.size) 51 rfl (nodC nod0 (.slice none 0 0) (.slice none 0 0)) (nodC x (.slice A1 n1 c1) (.slice C1 m1 d1)) rfl (RowL.new wN 51 (nodC nod0 (.slice none 0 0) (.slice none 0 0))) rfl rfl (nodC_one _ _ _ _ _ _ _) ?_;intro wS3 hr3 hg3 hs3;have hzb:=below_stored' hg3;clear q3_0 q3_1 q3_2;replace HB:=hide (HB.out.trans (hzb.mono HB.out.size));replace R2:=hide (R2.out.on hzb);replace R3:=hide (R3.out.on hzb);replace R4:=hide (R4.out.on hzb);replace HU:=hide (HU.out.under hzb (by omega));replace HL:=hide (HL.out.under hzb (by omega));replace HD:=hide (HD.out.under hzb (by omega));replace HE:=hide (HE.out.under hzb (by omega));have hsz4:=hzb.size;have q3_0:wS3.cell? ⟨w.heap.size+1,0,none⟩=some (.int .i64 o.1):=R3.out.cell 0;have q3_1:wS3.cell? ⟨w.heap.size+1,1,none⟩=some (.int .i64 o.2.1):=R3.out.cell 1;have q3_2:wS3.cell? ⟨w.heap.size+1,2,none⟩=some (.int .i64 o.2.2):=R3.out.cell 2;have R6:=hide hr3;have hlt3:=hr3.lt;have q6_0:wS3.cell? ⟨wN.heap.size,0,none⟩=some (.int .i64 x.k):=R6.out.cell 0;have q6_3:wS3.cell? ⟨wN.heap.size,3,none⟩=some (.int .i64 x.g):=R6.out.cell 3;clear hzb hr3;clear hg3 hs3)|(refine wpList_storeW rfl 51 (.tmp 4) (.tmp 34) rfl 13 nod_size (w.heap.size+1+1) 51 rfl (nodC nod0 (.slice none 0 0) (.slice none 0 0)) (nodC nod0 (.slice none 0 0) (.slice none 0 0)) rfl R4.out rfl rfl (nodC_one _ _ _ _ _ _ _) ?_;intro wS5 hr5 hg5 hs5;clear q3_0 q3_1 q6_0 q6_3 q3_2;replace HB:=hide (HB.out.grown hg5 (by omega) (pu4 (by omega)));replace R2:=hide (R2.out.grown hg5 (pu5 (by omega)));replace R3:=hide (R3.out.grown hg5 (pu5 (by omega)));replace HU:=hide (und_grown HU.out hg5 (by omega) (by omega));replace HL:=hide (und_grown HL.out hg5 (by omega) (by omega));replace HD:=hide (und_grown HD.out hg5 (by omega) (by omega));replace HE:=hide (und_grown HE.out hg5 (by omega) (by omega));replace R6:=hide (R6.out.grown hg5 (pu5 (by omega)));have hsz6:=hg5.size;replace R4:=hide hr5;have q3_0:wS5.cell? ⟨w.heap.size+1,0,none⟩=some (.int .i64 o.1):=R3.out.cell 0;have q3_1:wS5.cell? ⟨w.heap.size+1,1,none⟩=some (.int .i64 o.2.1):=R3.out.cell 1;have q6_0:wS5.cell? ⟨wN.heap.size,0,none⟩=some (.int .i64 x.k):=R6.out.cell 0;have q6_3:wS5.cell? ⟨wN.heap.size,3,none⟩=some (.int .i64 x.g):=R6.out.cell 3;have q3_2:wS5.cell? ⟨w.heap.size+1,2,none⟩=some (.int .i64 o.2.2):=R3.out.cell 2;clear hr5 hg5 hs5)|(refine wpList_loadW rfl 51 (.tmp 6) rfl 13 nod_agg nod_size (wN.heap.size) 51 rfl (nodC x (.slice A1 n1 c1) (.slice C1 m1 d1)) R6.out rfl ?_)|(refine wpList_storeW rfl 51 (.tmp 4) (.tmp 35) rfl 13 nod_size (w.heap.size+1+1) 51 rfl (nodC nod0 (.slice none 0 0) (.slice none 0 0)) (nodC x (.slice A1 n1 c1) (.slice C1 m1 d1)) rfl R4.out rfl rfl (nodC_one _ _ _ _ _ _ _) ?_;intro wS5 hr5 hg5 hs5;clear q3_0 q3_1 q6_0 q6_3 q3_2;replace HB:=hide (HB.out.grown hg5 (by omega) (pu4 (by omega)));replace R2:=hide (R2.out.grown hg5 (pu5 (by omega)));replace R3:=hide (R3.out.grown hg5 (pu5 (by omega)));replace HU:=hide (und_grown HU.out hg5 (by omega) (by omega));replace HL:=hide (und_grown HL.out hg5 (by omega) (by omega));replace HD:=hide (und_grown HD.out hg5 (by omega) (by omega));replace HE:=hide (und_grown HE.out hg5 (by omega) (by omega));replace R6:=hide (R6.out.grown hg5 (pu5 (by omega)));have hsz6:=hg5.size;replace R4:=hide hr5;have q3_0:wS5.cell? ⟨w.heap.size+1,0,none⟩=some (.int .i64 o.1):=R3.out.cell 0;have q3_1:wS5.cell? ⟨w.heap.size+1,1,none⟩=some (.int .i64 o.2.1):=R3.out.cell 1;have q6_0:wS5.cell? ⟨wN.heap.size,0,none⟩=some (.int .i64 x.k):=R6.out.cell 0;have q6_3:wS5.cell? ⟨wN.heap.size,3,none⟩=some (.int .i64 x.g):=R6.out.cell 3;have q3_2:wS5.cell? ⟨w.heap.size+1,2,none⟩=some (.int .i64 o.2.2):=R3.out.cell 2;clear hr5 hg5 hs5))
 all_goals (first|exact bodyPost_ret (res_ct Tryz.results30 rfl rfl nod_agg nod_size R4.out rfl) rfl ⟨A1,n1,c1,C1,m1,d1,rfl,HD.out,HE.out,HB.out⟩|exact bodyPost_ret (res_ct Tryz.results30 rfl rfl nod_agg nod_size R4.out rfl) rfl ⟨none,0,0,none,0,0,rfl,RdE.none_ _ _ _ _,RdE.none_ _ _ _ _,HB.out⟩)
end Go.Proofs.YtpndfahgflgocaaGreatDoor

