import Derived.Test.YtpndfahgflgocaaGreatDoorLn9
import Derived.Test.YtpndfahgflgocaaGreatDoorLn16
import Derived.Test.YtpndfahgflgocaaGreatDoorLn12
import Derived.Test.YtpndfahgflgocaaGreatDoorLn1

namespace Go.Proofs.YtpndfahgflgocaaGreatDoor
open Go.RowKit Go.Shelf Plain

def orgC (o:Int×Int×Int):List Value:=[.int .i64 o.1,.int .i64 o.2.1,.int .i64 o.2.2]
def orgOf (x:NodV):Int×Int×Int:=(x.att.l,x.att.i,x.att.g)
def hdl (k:Int):Bool:=decide (k=1)||decide (k=2)||decide (k=3)
def handF (ls:List (List NodV)) (o:Int×Int×Int):NodV×Bool:=if hdl (lowAt ls o.1 o.2.1).k=true∧(lowAt ls o.1 o.2.1).g=o.2.2 then (lowAt ls o.1 o.2.1,true) else (nod0,false)
theorem own_fr {w:World} {base e n c:Nat} {A:Option Addr} {l:List UInt8} (h:Own w base e A n c l):RdE Enc.byte w (fun b=>base≤b∧b < w.heap.size) A n l:=RdE.of_bs h.bs (fun hn a ha=>by
 obtain ⟨g,cs,e1,hb,hr,-⟩:=h.row hn
 subst e1
 cases ha
 exact ⟨hb,hr.lt⟩)
set_option maxRecDepth 100000 in
theorem bys_size:∀w,(Go.sizeOf 44).run Tryz.prog w=.ok 1 w:=fun _=>rfl
set_option maxRecDepth 100000 in
theorem ens_size:∀w,(Go.sizeOf 45).run Tryz.prog w=.ok 1 w:=fun _=>rfl
def zentM:Value:=.agg #[.int .i64 0,.int .i64 0,.string ⟨#[]⟩]
set_option maxRecDepth 100000 in
theorem entM_info:(Tryz.prog.info? 31).map (fun i=>(i.zero,i.size,i.bytes))=some (some zentM,3,32):=by kernel_rfl
set_option maxRecDepth 100000 in
set_option maxHeartbeats 800000 in
theorem CloneEnt_any {A:Option Addr} {n c:Nat} {l:List EntV} (w:World) (h:RdE entEn w (Under w.heap.size) A n l) (hn:n≤100000):Calls Tryz.prog 96 #[.slice A n c] w (fun e w'=>∃A' c',e=.returned (.slice A' n c')∧OwE entEn w' w.heap.size 31 A' n c' l∧Below w.heap.size w w'):=by
 have H:=hide h
 cases A with
 | none =>
  have h0:n=0:=by
   rcases Nat.eq_zero_or_pos n with h0|h0
   ·exact h0
   ·obtain ⟨_,_,e,_⟩:=h.2 h0;cases e
  subst h0
  obtain rfl:l=[]:=List.eq_nil_of_length_eq_zero h.1
  have hnil:=fun W=>Lib.run_eql_slice_nil (P:=Tryz.prog) W 45 31 none 0 c 0 0 Tryz.underlying45
  clear h
  go_enter Tryz.func96,Tryz.ntmps96
  go_wp2
  go_ret
  exact ⟨none,0,rfl,OwE.nil_ _ _ _ _,below_self w⟩
 | some a =>
  have hnil:=fun W=>Lib.run_eql_slice_nil (P:=Tryz.prog) W 45 31 (some a) n c 0 0 Tryz.underlying45
  clear h
  go_enter Tryz.func96,Tryz.ntmps96
  go_wp2_with (at_builtin;refine wpList_append_OwE (E:=entEn) _ rfl (.tmp 5) (.tmp 6) 45 rfl w.heap.size 31 zentM 32 Tryz.underlying45 entM_info rfl (by decide) (some ⟨w.heap.size,0,none⟩) 0 0 [] rfl (OwE.empty entEn w 31) (Under w.heap.size) (some a) n c l rfl (und_at H.out (below_new (below_self w) _) (Nat.le_refl _)) (fun b hb=>⟨⟨by unfold Under at hb;simp;omega,fun _ _ _ _=>rfl⟩,fun a' ha=>by cases ha;exact Nat.ne_of_lt hb⟩) n (by omega) (by omega) (by omega) (by simp) ?_;intro A5 c5 w5 ho5 hb5;have HO5:=hide ho5;have HB5:=hide hb5;clear ho5 hb5)
  go_ret
  exact ⟨A5,c5,rfl,HO5.out,(below_new (below_self w) _).trans HB5.out⟩
set_option maxHeartbeats 800000 in
theorem handled_any {k:Int} {b:Bool} (h:hdl k=b) (w:World):Calls Tryz.prog 94 #[.int .i64 k] w (BoolB w b):=by
 subst h
 unfold hdl
 by_cases h1:k=1
 ·subst h1
  go_enter Tryz.func94,Tryz.ntmps94
  go_wp2
  go_ret
  exact BoolB.of (below_self w)
 by_cases h2:k=2
 ·subst h2
  go_enter Tryz.func94,Tryz.ntmps94
  go_wp2
  go_ret
  exact BoolB.of (below_self w)
 by_cases h3:k=3
 ·subst h3
  go_enter Tryz.func94,Tryz.ntmps94
  go_wp2
  go_ret
  exact BoolB.of (below_self w)
 have e1:(k==1)=false:=by simpa using h1
 have e2:(k==2)=false:=by simpa using h2
 have e3:(k==3)=false:=by simpa using h3
 rw [decide_eq_false h1,decide_eq_false h2,decide_eq_false h3]
 clear h1 h2 h3
 go_enter Tryz.func94,Tryz.ntmps94
 go_wp2
 go_ret
 exact BoolB.of (below_self w)
def HandE (lo:Nat) (w:World) (R:NodV×Bool) (e:Ending) (w':World):Prop:=∃A n c C m d,e=.returned (.tuple #[.agg (nodC R.1 (.slice A n c) (.slice C m d)).toArray,.bool R.2])∧RdE Enc.byte w' (fun b=>lo≤b∧b < w'.heap.size) A n R.1.data∧RdE entEn w' (fun b=>lo≤b∧b < w'.heap.size) C m R.1.ents∧Below w.heap.size w w'
theorem ent_RH (x:EntV):∀(w:World) (D:Nat→Prop),entEn.R w D [.int .i64 x.slot,.int .i64 x.ino,.string ⟨x.name.toArray⟩] x:=fun _ _=>⟨[.int .i64 x.slot],[.int .i64 x.ino,.string ⟨x.name.toArray⟩],rfl,rfl,[.int .i64 x.ino],[.string ⟨x.name.toArray⟩],rfl,rfl,rfl⟩
theorem OwE.entH {w:World} {base n c:Nat} {A:Option Addr} {l:List EntV} {T:Nat} (h:OwE entEn w base T A n c l):RdE entEn w (fun b=>base≤b∧b < w.heap.size) A n l:=by
 have h1:=(h.rd rfl).plain
 refine ⟨h1.1,fun hn=>?_⟩
 obtain ⟨b,o,e,hb,hc⟩:=h1.2 hn
 have hb0:base≤b:=by
  obtain ⟨css,hown,-⟩:=h
  subst e
  exact (World.ownsRow.lt hown b rfl).1
 exact ⟨b,o,e,⟨hb0,hb⟩,fun i x hx=>by obtain ⟨cs,hR,hcs⟩:=hc i x hx;exact ⟨cs,by rw [ent_cells hR];exact ent_RH _ _ _,hcs⟩⟩
theorem fewl_len {ls:List (List NodV)} (h:FewL ls):∀ns∈ls,ns.length≤1000:=fun ns hn=>by have:=(h.2 ns hn).1;omega
theorem res_ct {fn:Func} {tmps:Array Value} {w:World} {s g t s1 T k:Nat} {cs:List Value} {v:Value} (hr:fn.results=#[.cell s T,.tmp s1]) (ht:tmps.getD s undef=.pointer (some ⟨g,0,none⟩)) (ht1:tmps.getD s1 undef=v) (hag:∀w,(isAgg T).run Tryz.prog w=.ok true w) (hsz:∀w,(sizeOf T).run Tryz.prog w=.ok k w) (h:RowL w g t cs) (hk:cs.length=k):(results fn tmps).run Tryz.prog w=.ok (.tuple #[.agg cs.toArray,v]) w:=by
 have hl:=run_loadRow (P:=Tryz.prog) h hk
 have ht':tmps[s]?.getD undef=.pointer (some ⟨g,0,none⟩):=by simpa using ht
 have ht1':tmps[s1]?.getD undef=v:=by simpa using ht1
 simp [results,hr,ht',ht1',hag,hsz,hl,go_sem]
set_option maxRecDepth 100000 in
set_option maxHeartbeats 8000000 in
theorem HFindE_any {g:GeoQ} {AU AL:Option Addr} {nU cU nL cL B:Nat} {up:List NodV} {ls:List (List NodV)} {o:Int×Int×Int} (w:World) (hu:RdE nodEn w (Under B) AU nU up) (h:RdE layEn w (Under B) AL nL ls) (hB:B≤w.heap.size) (hF:FewL ls) (hup:FewU up):Calls Tryz.prog 66 #[.agg (stkC g (.slice AU nU cU) (.slice AL nL cL)).toArray,.agg (orgC o).toArray] w (HandE w.heap.size w (handF ls o)):=by
 obtain ⟨W1,hW1⟩:∃W1,(((w.alloc (.cells (stkC g (.slice AU nU cU) (.slice AL nL cL)).toArray 29)).alloc (.cells (orgC o).toArray 47)).alloc (.cells (nodC nod0 (.slice none 0 0) (.slice none 0 0)).toArray 51))=W1:=⟨_,rfl⟩
 obtain ⟨r0,r1,r2,hb1,hs1⟩:=rowA3 w _ _ _ _ _ _ hW1
 have hW1':(((w.alloc (.cells #[.int .i64 g.a,.int .i64 g.b,.int .i64 g.c,.int .i64 g.d,.slice AU nU cU,.slice AL nL cL] 29)).alloc (.cells #[.int .i64 o.1,.int .i64 o.2.1,.int .i64 o.2.2] 47)).alloc (.cells #[.int .i64 0,.int .i64 0,.int .i64 0,.int .i64 0,.slice none 0 0,.slice none 0 0,.int .i64 0,.int .i64 0,.string ⟨#[]⟩,.int .i64 0,.int .i64 0,.int .i64 0,.int .i64 0] 51))=W1:=hW1
 have R2:=hide r0
 have R3:=hide r1
 have R4:=hide r2
 have HB:=hide hb1
 have hsz0:=hb1.size
 have HU:=hide (hu.under hb1 hB)
 have HL:=hide (h.under hb1 hB)
 have HF:=hide hF
 have HFU:=hide hup
 obtain ⟨x,hx⟩:∃x,lowAt ls o.1 o.2.1=x:=⟨_,rfl⟩
 have HX:=hide hx
 obtain ⟨b,hb⟩:∃b,hdl x.k=b:=⟨_,rfl⟩
 have HH:=hide hb
 have hpl:=low_plain hF o.1 o.2.1
 rw [hx] at hpl
 have hdl1:x.data.length≤300:=hpl.2.2.2.1
 have hel1:x.ents.length≤16:=hpl.2.2.2.2.1
 clear hpl
 have q3_0:W1.cell? ⟨w.heap.size+1,0,none⟩=some (.int .i64 o.1):=R3.out.cell 0
 have q3_1:W1.cell? ⟨w.heap.size+1,1,none⟩=some (.int .i64 o.2.1):=R3.out.cell 1
 have q3_2:W1.cell? ⟨w.heap.size+1,2,none⟩=some (.int .i64 o.2.2):=R3.out.cell 2
 unfold handF
 rw [hx,hb]
 unfold stkC orgC
 clear r0 r1 r2 hb1 hW1 hu h hF hup hx hb
 cases b
 ·rw [if_neg (by simp)]
  go_enter Tryz.func66,Tryz.ntmps66
  go_wp2_with (first|(refine wpList_loadW rfl 29 (.tmp 2) rfl 6 stk_agg stk_size (w.heap.size) 29 rfl (stkC g (.slice AU nU cU) (.slice AL nL cL)) R2.out rfl ?_)|(go_at_call 93;refine (NLower_e HX.out W1 HL.out (by omega) (by have:=HF.out.1;omega) (fewl_len HF.out)).mono ?_;rintro e1 wN ⟨A1,n1,c1,C1,m1,d1,rfl,hn1,hd,hm1,he,hbel⟩;clear q3_0 q3_1 q3_2;replace HB:=hide (HB.out.trans (hbel.mono HB.out.size));replace R2:=hide (R2.out.on hbel);replace R3:=hide (R3.out.on hbel);replace R4:=hide (R4.out.on hbel);replace HU:=hide (HU.out.under hbel (by omega));replace HL:=hide (HL.out.under hbel (by omega));have hsz2:=hbel.size;have q3_0:wN.cell? ⟨w.heap.size+1,0,none⟩=some (.int .i64 o.1):=R3.out.cell 0;have q3_1:wN.cell? ⟨w.heap.size+1,1,none⟩=some (.int .i64 o.2.1):=R3.out.cell 1;have q3_2:wN.cell? ⟨w.heap.size+1,2,none⟩=some (.int .i64 o.2.2):=R3.out.cell 2;have HD:=hide hd;clear hd;have HE:=hide he;clear he;clear hbel)|(refine wpList_storeW rfl 51 (.tmp 6) (.tmp 13) rfl 13 nod_size (wN.heap.size) 51 rfl (nodC nod0 (.slice none 0 0) (.slice none 0 0)) (nodC x (.slice A1 n1 c1) (.slice C1 m1 d1)) rfl (RowL.new wN 51 (nodC nod0 (.slice none 0 0) (.slice none 0 0))) rfl rfl (nodC_one _ _ _ _ _ _ _) ?_;intro wS3 hr3 hg3 hs3;have hzb:=below_stored' hg3;clear q3_0 q3_1 q3_2;replace HB:=hide (HB.out.trans (hzb.mono HB.out.size));replace R2:=hide (R2.out.on hzb);replace R3:=hide (R3.out.on hzb);replace R4:=hide (R4.out.on hzb);replace HU:=hide (HU.out.under hzb (by omega));replace HL:=hide (HL.out.under hzb (by omega));replace HD:=hide (HD.out.under hzb (by omega));replace HE:=hide (HE.out.under hzb (by omega));have hsz4:=hzb.size;have q3_0:wS3.cell? ⟨w.heap.size+1,0,none⟩=some (.int .i64 o.1):=R3.out.cell 0;have q3_1:wS3.cell? ⟨w.heap.size+1,1,none⟩=some (.int .i64 o.2.1):=R3.out.cell 1;have q3_2:wS3.cell? ⟨w.heap.size+1,2,none⟩=some (.int .i64 o.2.2):=R3.out.cell 2;have R6:=hide hr3;have hlt3:=hr3.lt;have q6_0:wS3.cell? ⟨wN.heap.size,0,none⟩=some (.int .i64 x.k):=R6.out.cell 0;have q6_3:wS3.cell? ⟨wN.heap.size,3,none⟩=some (.int .i64 x.g):=R6.out.cell 3;have q6_4:wS3.cell? ⟨wN.heap.size,4,none⟩=some (.slice A1 n1 c1):=R6.out.cell 4;have q6_5:wS3.cell? ⟨wN.heap.size,5,none⟩=some (.slice C1 m1 d1):=R6.out.cell 5;clear hzb hr3;clear hg3 hs3)|(go_at_call 94;refine (handled_any HH.out wS3).mono ?_;rintro e5 wH ⟨rfl,hbel⟩;clear q3_0 q3_1 q6_0 q6_3 q3_2 q6_4 q6_5;replace HB:=hide (HB.out.trans (hbel.mono HB.out.size));replace R2:=hide (R2.out.on hbel);replace R3:=hide (R3.out.on hbel);replace R4:=hide (R4.out.on hbel);replace HU:=hide (HU.out.under hbel (by omega));replace HL:=hide (HL.out.under hbel (by omega));replace HD:=hide (HD.out.under hbel (by omega));replace HE:=hide (HE.out.under hbel (by omega));replace R6:=hide (R6.out.on hbel);have hsz6:=hbel.size;have q3_0:wH.cell? ⟨w.heap.size+1,0,none⟩=some (.int .i64 o.1):=R3.out.cell 0;have q3_1:wH.cell? ⟨w.heap.size+1,1,none⟩=some (.int .i64 o.2.1):=R3.out.cell 1;have q6_0:wH.cell? ⟨wN.heap.size,0,none⟩=some (.int .i64 x.k):=R6.out.cell 0;have q6_3:wH.cell? ⟨wN.heap.size,3,none⟩=some (.int .i64 x.g):=R6.out.cell 3;have q3_2:wH.cell? ⟨w.heap.size+1,2,none⟩=some (.int .i64 o.2.2):=R3.out.cell 2;have q6_4:wH.cell? ⟨wN.heap.size,4,none⟩=some (.slice A1 n1 c1):=R6.out.cell 4;have q6_5:wH.cell? ⟨wN.heap.size,5,none⟩=some (.slice C1 m1 d1):=R6.out.cell 5;clear hbel)|(refine wpList_storeW rfl 51 (.tmp 4) (.tmp 25) rfl 13 nod_size (w.heap.size+1+1) 51 rfl (nodC nod0 (.slice none 0 0) (.slice none 0 0)) (nodC nod0 (.slice none 0 0) (.slice none 0 0)) rfl R4.out rfl rfl (nodC_one _ _ _ _ _ _ _) ?_;intro wS7 hr7 hg7 hs7;clear q3_0 q3_1 q6_0 q6_3 q3_2 q6_4 q6_5;replace HB:=hide (HB.out.grown hg7 (by omega) (pu4 (by omega)));replace R2:=hide (R2.out.grown hg7 (pu5 (by omega)));replace R3:=hide (R3.out.grown hg7 (pu5 (by omega)));replace HU:=hide (und_grown HU.out hg7 (by omega) (by omega));replace HL:=hide (und_grown HL.out hg7 (by omega) (by omega));replace HD:=hide (und_grown HD.out hg7 (by omega) (by omega));replace HE:=hide (und_grown HE.out hg7 (by omega) (by omega));replace R6:=hide (R6.out.grown hg7 (pu5 (by omega)));have hsz8:=hg7.size;replace R4:=hide hr7;have q3_0:wS7.cell? ⟨w.heap.size+1,0,none⟩=some (.int .i64 o.1):=R3.out.cell 0;have q3_1:wS7.cell? ⟨w.heap.size+1,1,none⟩=some (.int .i64 o.2.1):=R3.out.cell 1;have q6_0:wS7.cell? ⟨wN.heap.size,0,none⟩=some (.int .i64 x.k):=R6.out.cell 0;have q6_3:wS7.cell? ⟨wN.heap.size,3,none⟩=some (.int .i64 x.g):=R6.out.cell 3;have q3_2:wS7.cell? ⟨w.heap.size+1,2,none⟩=some (.int .i64 o.2.2):=R3.out.cell 2;have q6_4:wS7.cell? ⟨wN.heap.size,4,none⟩=some (.slice A1 n1 c1):=R6.out.cell 4;have q6_5:wS7.cell? ⟨wN.heap.size,5,none⟩=some (.slice C1 m1 d1):=R6.out.cell 5;clear hr7 hg7 hs7))
  exact bodyPost_ret (res_ct Tryz.results66 rfl rfl nod_agg nod_size R4.out rfl) rfl ⟨none,0,0,none,0,0,rfl,RdE.none_ _ _ _ _,RdE.none_ _ _ _ _,HB.out⟩
 ·by_cases hg:x.g=o.2.2
  ·rw [if_pos ⟨rfl,hg⟩]
   have hg1:(x.g != o.2.2)=false:=by simpa using hg
   clear hg
   go_enter Tryz.func66,Tryz.ntmps66
   go_wp2_with (first|(refine wpList_loadW rfl 29 (.tmp 2) rfl 6 stk_agg stk_size (w.heap.size) 29 rfl (stkC g (.slice AU nU cU) (.slice AL nL cL)) R2.out rfl ?_)|(go_at_call 93;refine (NLower_e HX.out W1 HL.out (by omega) (by have:=HF.out.1;omega) (fewl_len HF.out)).mono ?_;rintro e1 wN ⟨A1,n1,c1,C1,m1,d1,rfl,hn1,hd,hm1,he,hbel⟩;clear q3_0 q3_1 q3_2;replace HB:=hide (HB.out.trans (hbel.mono HB.out.size));replace R2:=hide (R2.out.on hbel);replace R3:=hide (R3.out.on hbel);replace R4:=hide (R4.out.on hbel);replace HU:=hide (HU.out.under hbel (by omega));replace HL:=hide (HL.out.under hbel (by omega));have hsz2:=hbel.size;have q3_0:wN.cell? ⟨w.heap.size+1,0,none⟩=some (.int .i64 o.1):=R3.out.cell 0;have q3_1:wN.cell? ⟨w.heap.size+1,1,none⟩=some (.int .i64 o.2.1):=R3.out.cell 1;have q3_2:wN.cell? ⟨w.heap.size+1,2,none⟩=some (.int .i64 o.2.2):=R3.out.cell 2;have HD:=hide hd;clear hd;have HE:=hide he;clear he;clear hbel)|(refine wpList_storeW rfl 51 (.tmp 6) (.tmp 13) rfl 13 nod_size (wN.heap.size) 51 rfl (nodC nod0 (.slice none 0 0) (.slice none 0 0)) (nodC x (.slice A1 n1 c1) (.slice C1 m1 d1)) rfl (RowL.new wN 51 (nodC nod0 (.slice none 0 0) (.slice none 0 0))) rfl rfl (nodC_one _ _ _ _ _ _ _) ?_;intro wS3 hr3 hg3 hs3;have hzb:=below_stored' hg3;clear q3_0 q3_1 q3_2;replace HB:=hide (HB.out.trans (hzb.mono HB.out.size));replace R2:=hide (R2.out.on hzb);replace R3:=hide (R3.out.on hzb);replace R4:=hide (R4.out.on hzb);replace HU:=hide (HU.out.under hzb (by omega));replace HL:=hide (HL.out.under hzb (by omega));replace HD:=hide (HD.out.under hzb (by omega));replace HE:=hide (HE.out.under hzb (by omega));have hsz4:=hzb.size;have q3_0:wS3.cell? ⟨w.heap.size+1,0,none⟩=some (.int .i64 o.1):=R3.out.cell 0;have q3_1:wS3.cell? ⟨w.heap.size+1,1,none⟩=some (.int .i64 o.2.1):=R3.out.cell 1;have q3_2:wS3.cell? ⟨w.heap.size+1,2,none⟩=some (.int .i64 o.2.2):=R3.out.cell 2;have R6:=hide hr3;have hlt3:=hr3.lt;have q6_0:wS3.cell? ⟨wN.heap.size,0,none⟩=some (.int .i64 x.k):=R6.out.cell 0;have q6_3:wS3.cell? ⟨wN.heap.size,3,none⟩=some (.int .i64 x.g):=R6.out.cell 3;have q6_4:wS3.cell? ⟨wN.heap.size,4,none⟩=some (.slice A1 n1 c1):=R6.out.cell 4;have q6_5:wS3.cell? ⟨wN.heap.size,5,none⟩=some (.slice C1 m1 d1):=R6.out.cell 5;clear hzb hr3;clear hg3 hs3)|(go_at_call 94;refine (handled_any HH.out wS3).mono ?_;rintro e5 wH ⟨rfl,hbel⟩;clear q3_0 q3_1 q6_0 q6_3 q3_2 q6_4 q6_5;replace HB:=hide (HB.out.trans (hbel.mono HB.out.size));replace R2:=hide (R2.out.on hbel);replace R3:=hide (R3.out.on hbel);replace R4:=hide (R4.out.on hbel);replace HU:=hide (HU.out.under hbel (by omega));replace HL:=hide (HL.out.under hbel (by omega));replace HD:=hide (HD.out.under hbel (by omega));replace HE:=hide (HE.out.under hbel (by omega));replace R6:=hide (R6.out.on hbel);have hsz6:=hbel.size;have q3_0:wH.cell? ⟨w.heap.size+1,0,none⟩=some (.int .i64 o.1):=R3.out.cell 0;have q3_1:wH.cell? ⟨w.heap.size+1,1,none⟩=some (.int .i64 o.2.1):=R3.out.cell 1;have q6_0:wH.cell? ⟨wN.heap.size,0,none⟩=some (.int .i64 x.k):=R6.out.cell 0;have q6_3:wH.cell? ⟨wN.heap.size,3,none⟩=some (.int .i64 x.g):=R6.out.cell 3;have q3_2:wH.cell? ⟨w.heap.size+1,2,none⟩=some (.int .i64 o.2.2):=R3.out.cell 2;have q6_4:wH.cell? ⟨wN.heap.size,4,none⟩=some (.slice A1 n1 c1):=R6.out.cell 4;have q6_5:wH.cell? ⟨wN.heap.size,5,none⟩=some (.slice C1 m1 d1):=R6.out.cell 5;clear hbel)|(go_at_call 95;refine (SClone_any wH (Bs.of_rd (und_up HD.out (by omega))) (by have:=HD.out.1;omega)).mono ?_;rintro e7 wC ⟨A7,c7,rfl,ho7,hbel⟩;clear q3_0 q3_1 q6_0 q6_3 q3_2 q6_4 q6_5;replace HB:=hide (HB.out.trans (hbel.mono HB.out.size));replace R2:=hide (R2.out.on hbel);replace R3:=hide (R3.out.on hbel);replace R4:=hide (R4.out.on hbel);replace HU:=hide (HU.out.under hbel (by omega));replace HL:=hide (HL.out.under hbel (by omega));replace HD:=hide (HD.out.under hbel (by omega));replace HE:=hide (HE.out.under hbel (by omega));replace R6:=hide (R6.out.on hbel);have hsz8:=hbel.size;have q3_0:wC.cell? ⟨w.heap.size+1,0,none⟩=some (.int .i64 o.1):=R3.out.cell 0;have q3_1:wC.cell? ⟨w.heap.size+1,1,none⟩=some (.int .i64 o.2.1):=R3.out.cell 1;have q6_0:wC.cell? ⟨wN.heap.size,0,none⟩=some (.int .i64 x.k):=R6.out.cell 0;have q6_3:wC.cell? ⟨wN.heap.size,3,none⟩=some (.int .i64 x.g):=R6.out.cell 3;have q3_2:wC.cell? ⟨w.heap.size+1,2,none⟩=some (.int .i64 o.2.2):=R3.out.cell 2;have q6_4:wC.cell? ⟨wN.heap.size,4,none⟩=some (.slice A1 n1 c1):=R6.out.cell 4;have q6_5:wC.cell? ⟨wN.heap.size,5,none⟩=some (.slice C1 m1 d1):=R6.out.cell 5;have H7:=hide (own_fr ho7);clear ho7;clear hbel)|(refine wpList_storeV rfl 44 (.tmp 29) (.tmp 28) rfl bys_size (wN.heap.size) 4 51 rfl (.slice A7 n1 c7) rfl rfl rfl (nodC x (.slice A1 n1 c1) (.slice C1 m1 d1)) R6.out (by show 4 < 13;omega) ?_;intro wS9 hr9 hg9 hs9;replace hr9:RowL wS9 (wN.heap.size) 51 [.int .i64 x.k,.int .i64 x.p,.int .i64 x.n,.int .i64 x.g,.slice A7 n1 c7,.slice C1 m1 d1,.int .i64 x.att.h,.int .i64 x.att.o,.string ⟨x.att.r.toArray⟩,.int .i64 x.att.l,.int .i64 x.att.i,.int .i64 x.att.g,.int .i64 x.att.s]:=hr9;clear q3_0 q3_1 q6_0 q6_3 q3_2 q6_4 q6_5;replace HB:=hide (HB.out.grown hg9 (by omega) (pu4 (by omega)));replace R2:=hide (R2.out.grown hg9 (pu5 (by omega)));replace R3:=hide (R3.out.grown hg9 (pu5 (by omega)));replace R4:=hide (R4.out.grown hg9 (pu5 (by omega)));replace HU:=hide (und_grown HU.out hg9 (by omega) (by omega));replace HL:=hide (und_grown HL.out hg9 (by omega) (by omega));replace HD:=hide (und_grown HD.out hg9 (by omega) (by omega));replace HE:=hide (und_grown HE.out hg9 (by omega) (by omega));replace H7:=hide (fr_grown H7.out hg9 (by omega));have hsz10:=hg9.size;replace R6:=hide hr9;have q3_0:wS9.cell? ⟨w.heap.size+1,0,none⟩=some (.int .i64 o.1):=R3.out.cell 0;have q3_1:wS9.cell? ⟨w.heap.size+1,1,none⟩=some (.int .i64 o.2.1):=R3.out.cell 1;have q6_0:wS9.cell? ⟨wN.heap.size,0,none⟩=some (.int .i64 x.k):=R6.out.cell 0;have q6_3:wS9.cell? ⟨wN.heap.size,3,none⟩=some (.int .i64 x.g):=R6.out.cell 3;have q3_2:wS9.cell? ⟨w.heap.size+1,2,none⟩=some (.int .i64 o.2.2):=R3.out.cell 2;have q6_4:wS9.cell? ⟨wN.heap.size,4,none⟩=some (.slice A7 n1 c7):=R6.out.cell 4;have q6_5:wS9.cell? ⟨wN.heap.size,5,none⟩=some (.slice C1 m1 d1):=R6.out.cell 5;clear hr9 hg9 hs9)|(go_at_call 96;refine (CloneEnt_any wS9 (und_up HE.out (by omega)) (by have:=HE.out.1;omega)).mono ?_;rintro e11 wE ⟨A8,c8,rfl,ho8,hbel⟩;clear q3_0 q3_1 q6_0 q6_3 q3_2 q6_4 q6_5;replace HB:=hide (HB.out.trans (hbel.mono HB.out.size));replace R2:=hide (R2.out.on hbel);replace R3:=hide (R3.out.on hbel);replace R4:=hide (R4.out.on hbel);replace HU:=hide (HU.out.under hbel (by omega));replace HL:=hide (HL.out.under hbel (by omega));replace HD:=hide (HD.out.under hbel (by omega));replace HE:=hide (HE.out.under hbel (by omega));replace R6:=hide (R6.out.on hbel);replace H7:=hide (fr_on H7.out hbel);have H8:=hide ho8.entH;clear ho8;have hsz12:=hbel.size;have q3_0:wE.cell? ⟨w.heap.size+1,0,none⟩=some (.int .i64 o.1):=R3.out.cell 0;have q3_1:wE.cell? ⟨w.heap.size+1,1,none⟩=some (.int .i64 o.2.1):=R3.out.cell 1;have q6_0:wE.cell? ⟨wN.heap.size,0,none⟩=some (.int .i64 x.k):=R6.out.cell 0;have q6_3:wE.cell? ⟨wN.heap.size,3,none⟩=some (.int .i64 x.g):=R6.out.cell 3;have q3_2:wE.cell? ⟨w.heap.size+1,2,none⟩=some (.int .i64 o.2.2):=R3.out.cell 2;have q6_4:wE.cell? ⟨wN.heap.size,4,none⟩=some (.slice A7 n1 c7):=R6.out.cell 4;have q6_5:wE.cell? ⟨wN.heap.size,5,none⟩=some (.slice C1 m1 d1):=R6.out.cell 5;clear hbel)|(refine wpList_storeV rfl 45 (.tmp 33) (.tmp 32) rfl ens_size (wN.heap.size) 5 51 rfl (.slice A8 m1 c8) rfl rfl rfl [.int .i64 x.k,.int .i64 x.p,.int .i64 x.n,.int .i64 x.g,.slice A7 n1 c7,.slice C1 m1 d1,.int .i64 x.att.h,.int .i64 x.att.o,.string ⟨x.att.r.toArray⟩,.int .i64 x.att.l,.int .i64 x.att.i,.int .i64 x.att.g,.int .i64 x.att.s] R6.out (by show 5 < 13;omega) ?_;intro wS13 hr13 hg13 hs13;replace hr13:RowL wS13 (wN.heap.size) 51 [.int .i64 x.k,.int .i64 x.p,.int .i64 x.n,.int .i64 x.g,.slice A7 n1 c7,.slice A8 m1 c8,.int .i64 x.att.h,.int .i64 x.att.o,.string ⟨x.att.r.toArray⟩,.int .i64 x.att.l,.int .i64 x.att.i,.int .i64 x.att.g,.int .i64 x.att.s]:=hr13;clear q3_0 q3_1 q6_0 q6_3 q3_2 q6_4 q6_5;replace HB:=hide (HB.out.grown hg13 (by omega) (pu4 (by omega)));replace R2:=hide (R2.out.grown hg13 (pu5 (by omega)));replace R3:=hide (R3.out.grown hg13 (pu5 (by omega)));replace R4:=hide (R4.out.grown hg13 (pu5 (by omega)));replace HU:=hide (und_grown HU.out hg13 (by omega) (by omega));replace HL:=hide (und_grown HL.out hg13 (by omega) (by omega));replace HD:=hide (und_grown HD.out hg13 (by omega) (by omega));replace HE:=hide (und_grown HE.out hg13 (by omega) (by omega));replace H7:=hide (fr_grown H7.out hg13 (by omega));replace H8:=hide (fr_grown H8.out hg13 (by omega));have hsz14:=hg13.size;replace R6:=hide hr13;have q3_0:wS13.cell? ⟨w.heap.size+1,0,none⟩=some (.int .i64 o.1):=R3.out.cell 0;have q3_1:wS13.cell? ⟨w.heap.size+1,1,none⟩=some (.int .i64 o.2.1):=R3.out.cell 1;have q6_0:wS13.cell? ⟨wN.heap.size,0,none⟩=some (.int .i64 x.k):=R6.out.cell 0;have q6_3:wS13.cell? ⟨wN.heap.size,3,none⟩=some (.int .i64 x.g):=R6.out.cell 3;have q3_2:wS13.cell? ⟨w.heap.size+1,2,none⟩=some (.int .i64 o.2.2):=R3.out.cell 2;have q6_4:wS13.cell? ⟨wN.heap.size,4,none⟩=some (.slice A7 n1 c7):=R6.out.cell 4;have q6_5:wS13.cell? ⟨wN.heap.size,5,none⟩=some (.slice A8 m1 c8):=R6.out.cell 5;clear hr13 hg13 hs13)|(refine wpList_loadW rfl 51 (.tmp 6) rfl 13 nod_agg nod_size (wN.heap.size) 51 rfl [.int .i64 x.k,.int .i64 x.p,.int .i64 x.n,.int .i64 x.g,.slice A7 n1 c7,.slice A8 m1 c8,.int .i64 x.att.h,.int .i64 x.att.o,.string ⟨x.att.r.toArray⟩,.int .i64 x.att.l,.int .i64 x.att.i,.int .i64 x.att.g,.int .i64 x.att.s] R6.out rfl ?_)|(refine wpList_storeW rfl 51 (.tmp 4) (.tmp 34) rfl 13 nod_size (w.heap.size+1+1) 51 rfl (nodC nod0 (.slice none 0 0) (.slice none 0 0)) (nodC x (.slice A7 n1 c7) (.slice A8 m1 c8)) rfl R4.out rfl rfl (nodC_one _ _ _ _ _ _ _) ?_;intro wS15 hr15 hg15 hs15;clear q3_0 q3_1 q6_0 q6_3 q3_2 q6_4 q6_5;replace HB:=hide (HB.out.grown hg15 (by omega) (pu4 (by omega)));replace R2:=hide (R2.out.grown hg15 (pu5 (by omega)));replace R3:=hide (R3.out.grown hg15 (pu5 (by omega)));replace HU:=hide (und_grown HU.out hg15 (by omega) (by omega));replace HL:=hide (und_grown HL.out hg15 (by omega) (by omega));replace HD:=hide (und_grown HD.out hg15 (by omega) (by omega));replace HE:=hide (und_grown HE.out hg15 (by omega) (by omega));replace R6:=hide (R6.out.grown hg15 (pu5 (by omega)));replace H7:=hide (fr_grown H7.out hg15 (by omega));replace H8:=hide (fr_grown H8.out hg15 (by omega));have hsz16:=hg15.size;replace R4:=hide hr15;have q3_0:wS15.cell? ⟨w.heap.size+1,0,none⟩=some (.int .i64 o.1):=R3.out.cell 0;have q3_1:wS15.cell? ⟨w.heap.size+1,1,none⟩=some (.int .i64 o.2.1):=R3.out.cell 1;have q6_0:wS15.cell? ⟨wN.heap.size,0,none⟩=some (.int .i64 x.k):=R6.out.cell 0;have q6_3:wS15.cell? ⟨wN.heap.size,3,none⟩=some (.int .i64 x.g):=R6.out.cell 3;have q3_2:wS15.cell? ⟨w.heap.size+1,2,none⟩=some (.int .i64 o.2.2):=R3.out.cell 2;have q6_4:wS15.cell? ⟨wN.heap.size,4,none⟩=some (.slice A7 n1 c7):=R6.out.cell 4;have q6_5:wS15.cell? ⟨wN.heap.size,5,none⟩=some (.slice A8 m1 c8):=R6.out.cell 5;clear hr15 hg15 hs15))
   exact bodyPost_ret (res_ct Tryz.results66 rfl rfl nod_agg nod_size R4.out rfl) rfl ⟨A7,n1,c7,A8,m1,c8,rfl,fr_low H7.out (by omega),fr_low H8.out (by omega),HB.out⟩
  ·rw [if_neg (fun h=>hg h.2)]
   have hg1:(x.g != o.2.2)=true:=by simpa using hg
   clear hg
   go_enter Tryz.func66,Tryz.ntmps66
   go_wp2_with (first|(refine wpList_loadW rfl 29 (.tmp 2) rfl 6 stk_agg stk_size (w.heap.size) 29 rfl (stkC g (.slice AU nU cU) (.slice AL nL cL)) R2.out rfl ?_)|(go_at_call 93;refine (NLower_e HX.out W1 HL.out (by omega) (by have:=HF.out.1;omega) (fewl_len HF.out)).mono ?_;rintro e1 wN ⟨A1,n1,c1,C1,m1,d1,rfl,hn1,hd,hm1,he,hbel⟩;clear q3_0 q3_1 q3_2;replace HB:=hide (HB.out.trans (hbel.mono HB.out.size));replace R2:=hide (R2.out.on hbel);replace R3:=hide (R3.out.on hbel);replace R4:=hide (R4.out.on hbel);replace HU:=hide (HU.out.under hbel (by omega));replace HL:=hide (HL.out.under hbel (by omega));have hsz2:=hbel.size;have q3_0:wN.cell? ⟨w.heap.size+1,0,none⟩=some (.int .i64 o.1):=R3.out.cell 0;have q3_1:wN.cell? ⟨w.heap.size+1,1,none⟩=some (.int .i64 o.2.1):=R3.out.cell 1;have q3_2:wN.cell? ⟨w.heap.size+1,2,none⟩=some (.int .i64 o.2.2):=R3.out.cell 2;have HD:=hide hd;clear hd;have HE:=hide he;clear he;clear hbel)|(refine wpList_storeW rfl 51 (.tmp 6) (.tmp 13) rfl 13 nod_size (wN.heap.size) 51 rfl (nodC nod0 (.slice none 0 0) (.slice none 0 0)) (nodC x (.slice A1 n1 c1) (.slice C1 m1 d1)) rfl (RowL.new wN 51 (nodC nod0 (.slice none 0 0) (.slice none 0 0))) rfl rfl (nodC_one _ _ _ _ _ _ _) ?_;intro wS3 hr3 hg3 hs3;have hzb:=below_stored' hg3;clear q3_0 q3_1 q3_2;replace HB:=hide (HB.out.trans (hzb.mono HB.out.size));replace R2:=hide (R2.out.on hzb);replace R3:=hide (R3.out.on hzb);replace R4:=hide (R4.out.on hzb);replace HU:=hide (HU.out.under hzb (by omega));replace HL:=hide (HL.out.under hzb (by omega));replace HD:=hide (HD.out.under hzb (by omega));replace HE:=hide (HE.out.under hzb (by omega));have hsz4:=hzb.size;have q3_0:wS3.cell? ⟨w.heap.size+1,0,none⟩=some (.int .i64 o.1):=R3.out.cell 0;have q3_1:wS3.cell? ⟨w.heap.size+1,1,none⟩=some (.int .i64 o.2.1):=R3.out.cell 1;have q3_2:wS3.cell? ⟨w.heap.size+1,2,none⟩=some (.int .i64 o.2.2):=R3.out.cell 2;have R6:=hide hr3;have hlt3:=hr3.lt;have q6_0:wS3.cell? ⟨wN.heap.size,0,none⟩=some (.int .i64 x.k):=R6.out.cell 0;have q6_3:wS3.cell? ⟨wN.heap.size,3,none⟩=some (.int .i64 x.g):=R6.out.cell 3;have q6_4:wS3.cell? ⟨wN.heap.size,4,none⟩=some (.slice A1 n1 c1):=R6.out.cell 4;have q6_5:wS3.cell? ⟨wN.heap.size,5,none⟩=some (.slice C1 m1 d1):=R6.out.cell 5;clear hzb hr3;clear hg3 hs3)|(go_at_call 94;refine (handled_any HH.out wS3).mono ?_;rintro e5 wH ⟨rfl,hbel⟩;clear q3_0 q3_1 q6_0 q6_3 q3_2 q6_4 q6_5;replace HB:=hide (HB.out.trans (hbel.mono HB.out.size));replace R2:=hide (R2.out.on hbel);replace R3:=hide (R3.out.on hbel);replace R4:=hide (R4.out.on hbel);replace HU:=hide (HU.out.under hbel (by omega));replace HL:=hide (HL.out.under hbel (by omega));replace HD:=hide (HD.out.under hbel (by omega));replace HE:=hide (HE.out.under hbel (by omega));replace R6:=hide (R6.out.on hbel);have hsz6:=hbel.size;have q3_0:wH.cell? ⟨w.heap.size+1,0,none⟩=some (.int .i64 o.1):=R3.out.cell 0;have q3_1:wH.cell? ⟨w.heap.size+1,1,none⟩=some (.int .i64 o.2.1):=R3.out.cell 1;have q6_0:wH.cell? ⟨wN.heap.size,0,none⟩=some (.int .i64 x.k):=R6.out.cell 0;have q6_3:wH.cell? ⟨wN.heap.size,3,none⟩=some (.int .i64 x.g):=R6.out.cell 3;have q3_2:wH.cell? ⟨w.heap.size+1,2,none⟩=some (.int .i64 o.2.2):=R3.out.cell 2;have q6_4:wH.cell? ⟨wN.heap.size,4,none⟩=some (.slice A1 n1 c1):=R6.out.cell 4;have q6_5:wH.cell? ⟨wN.heap.size,5,none⟩=some (.slice C1 m1 d1):=R6.out.cell 5;clear hbel)|(refine wpList_storeW rfl 51 (.tmp 4) (.tmp 25) rfl 13 nod_size (w.heap.size+1+1) 51 rfl (nodC nod0 (.slice none 0 0) (.slice none 0 0)) (nodC nod0 (.slice none 0 0) (.slice none 0 0)) rfl R4.out rfl rfl (nodC_one _ _ _ _ _ _ _) ?_;intro wS7 hr7 hg7 hs7;clear q3_0 q3_1 q6_0 q6_3 q3_2 q6_4 q6_5;replace HB:=hide (HB.out.grown hg7 (by omega) (pu4 (by omega)));replace R2:=hide (R2.out.grown hg7 (pu5 (by omega)));replace R3:=hide (R3.out.grown hg7 (pu5 (by omega)));replace HU:=hide (und_grown HU.out hg7 (by omega) (by omega));replace HL:=hide (und_grown HL.out hg7 (by omega) (by omega));replace HD:=hide (und_grown HD.out hg7 (by omega) (by omega));replace HE:=hide (und_grown HE.out hg7 (by omega) (by omega));replace R6:=hide (R6.out.grown hg7 (pu5 (by omega)));have hsz8:=hg7.size;replace R4:=hide hr7;have q3_0:wS7.cell? ⟨w.heap.size+1,0,none⟩=some (.int .i64 o.1):=R3.out.cell 0;have q3_1:wS7.cell? ⟨w.heap.size+1,1,none⟩=some (.int .i64 o.2.1):=R3.out.cell 1;have q6_0:wS7.cell? ⟨wN.heap.size,0,none⟩=some (.int .i64 x.k):=R6.out.cell 0;have q6_3:wS7.cell? ⟨wN.heap.size,3,none⟩=some (.int .i64 x.g):=R6.out.cell 3;have q3_2:wS7.cell? ⟨w.heap.size+1,2,none⟩=some (.int .i64 o.2.2):=R3.out.cell 2;have q6_4:wS7.cell? ⟨wN.heap.size,4,none⟩=some (.slice A1 n1 c1):=R6.out.cell 4;have q6_5:wS7.cell? ⟨wN.heap.size,5,none⟩=some (.slice C1 m1 d1):=R6.out.cell 5;clear hr7 hg7 hs7))
   exact bodyPost_ret (res_ct Tryz.results66 rfl rfl nod_agg nod_size R4.out rfl) rfl ⟨none,0,0,none,0,0,rfl,RdE.none_ _ _ _ _,RdE.none_ _ _ _ _,HB.out⟩
end Go.Proofs.YtpndfahgflgocaaGreatDoor

namespace Go.Proofs.YtpndfahgflgocaaGreatDoor
open Plain

def digH (n:Nat):UInt8:=if n < 10 then UInt8.ofNat (48+n) else UInt8.ofNat (87+n)
def hexN : Nat → Nat → List UInt8
 | 0,_=>[]
 | k+1,n=>hexN k (n / 16)++[digH (n % 16)]
def isH (c:UInt8):Bool:=decide (48≤c.toNat∧c.toNat≤57)||decide (97≤c.toNat∧c.toNat≤102)
def valH (c:UInt8):Nat:=if c.toNat≤57 then c.toNat - 48 else c.toNat - 87
def numH (l:List UInt8):Nat:=l.foldl (fun a c=>if isH c=true then a*16+valH c else a) 0
theorem dig_fin:∀n:Fin 16,isH (digH n.1)=true∧valH (digH n.1)=n.1∧(digH n.1).toNat=(if n.1 < 10 then 48+n.1 else 87+n.1):=by decide +kernel
theorem dig_is {n:Nat} (h:n < 16):isH (digH n)=true:=(dig_fin ⟨n,h⟩).1
theorem dig_val {n:Nat} (h:n < 16):valH (digH n)=n:=(dig_fin ⟨n,h⟩).2.1
theorem val_dig {c:UInt8} (h:isH c=true):digH (valH c)=c:=by
 have h1:∀n:Fin 256,isH (UInt8.ofNat n.1)=true→digH (valH (UInt8.ofNat n.1))=UInt8.ofNat n.1:=by decide +kernel
 have h2:=h1 ⟨c.toNat,c.toNat_lt⟩
 have e:UInt8.ofNat c.toNat=c:=by simp
 simp only [e] at h2
 exact h2 h
theorem val_lt {c:UInt8} (h:isH c=true):valH c < 16:=by
 unfold isH at h
 unfold valH
 rw [Bool.or_eq_true,decide_eq_true_eq,decide_eq_true_eq] at h
 split <;> omega
theorem hexN_len : ∀ k n, (hexN k n).length = k
 | 0,_=>rfl
 | k+1,n=>by rw [hexN,List.length_append,hexN_len k];rfl
theorem hexN_all : ∀ k n, (hexN k n).all isH = true
 | 0,_=>rfl
 | k+1,n=>by
  rw [hexN,List.all_append,hexN_all k]
  simp [dig_is (Nat.mod_lt n (by decide:16 > 0))]
theorem numH_snoc (l:List UInt8) (c:UInt8):numH (l++[c])=if isH c=true then numH l*16+valH c else numH l:=by
 unfold numH
 rw [List.foldl_append]
 rfl
theorem numH_hex : ∀ k n, n < 16 ^ k → numH (hexN k n) = n
 | 0,n,h=>by simp at h;subst h;rfl
 | k+1,n,h=>by
  have h1:=Nat.mod_lt n (by decide:16 > 0)
  rw [hexN,numH_snoc,if_pos (dig_is h1),dig_val h1,numH_hex k (n / 16) (by rw [Nat.pow_succ] at h;omega)]
  omega
theorem numH_lt : ∀ (k : Nat) (l : List UInt8), l.length = k → numH l < 16 ^ k
 | 0,l,h=>by
  rw [List.length_eq_zero_iff.1 h]
  decide
 | k+1,l,h=>by
  obtain ⟨r,c,rfl⟩:∃r c,l=r++[c]:=by
   rcases List.eq_nil_or_concat l with e|⟨r,c,e⟩
   ·rw [e] at h;cases h
   ·exact ⟨r,c,by rw [e,List.concat_eq_append]⟩
  have h1:=numH_lt k r (by rw [List.length_append] at h;simpa using h)
  rw [numH_snoc,Nat.pow_succ]
  split
  ·rename_i hc
   have:=val_lt hc
   omega
  ·omega
theorem hex_numH : ∀ (k : Nat) (l : List UInt8), l.length = k → l.all isH = true → hexN k (numH l) = l
 | 0,l,h,_=>by rw [List.length_eq_zero_iff.1 h];rfl
 | k+1,l,h,ha=>by
  obtain ⟨r,c,rfl⟩:∃r c,l=r++[c]:=by
   rcases List.eq_nil_or_concat l with e|⟨r,c,e⟩
   ·rw [e] at h;cases h
   ·exact ⟨r,c,by rw [e,List.concat_eq_append]⟩
  rw [List.all_append,Bool.and_eq_true] at ha
  have hc:isH c=true:=by simpa using ha.2
  have hv:=val_lt hc
  rw [numH_snoc,if_pos hc,hexN,show (numH r*16+valH c) / 16=numH r from by omega,show (numH r*16+valH c) % 16=valH c from by omega,hex_numH k r (by rw [List.length_append] at h;simpa using h) ha.1,val_dig hc]
theorem hexN_cons : ∀ j n, hexN (j + 1) n = digH (n / 16 ^ j % 16) :: hexN j n
 | 0,n=>by simp [hexN]
 | j+1,n=>by
  rw [hexN,hexN_cons j (n / 16),hexN.eq_def (j+1) n]
  simp only [List.cons_append]
  rw [Nat.div_div_eq_div_mul,show 16*16 ^ j=16 ^ (j+1) from by rw [Nat.pow_succ,Nat.mul_comm]]
theorem hexN_pad {m n : Nat} (h : n < 16 ^ m) : ∀ d, hexN (d + m) n = List.replicate d 48 ++ hexN m n
 | 0=>by simp
 | d+1=>by
  rw [show d+1+m=d+m+1 from by omega,hexN_cons,hexN_pad h d]
  have h1:n / 16 ^ (d+m)=0:=Nat.div_eq_of_lt (Nat.lt_of_lt_of_le h (Nat.pow_le_pow_right (by decide) (by omega)))
  rw [h1]
  rfl
theorem hexN_few {m n k:Nat} (h:n < 16 ^ k) (h2:m=1∨16 ^ (m - 1)≤n) (hk:1≤k):m≤k:=by
 rcases Nat.lt_or_ge k m with h3|h3
 ·rcases h2 with h2|h2
  ·omega
  ·have:=Nat.pow_le_pow_right (show 16 > 0 by decide) (show k≤m - 1 by omega)
   omega
 ·exact h3

abbrev OriV:=Int×Int×Int
def mayH (o:OriV):Bool:=decide (1≤o.1∧o.1≤15∧0≤o.2.1∧o.2.1≤65535∧0≤o.2.2∧o.2.2≤268435455)
def textH (o:OriV):List UInt8:=hexN 1 o.1.toNat++hexN 4 o.2.1.toNat++hexN 7 o.2.2.toNat
def nameH (o:OriV):List UInt8:=if mayH o=true then textH o else []
def oriH (s:List UInt8):OriV:=((numH (s.take 1):Nat),(numH ((s.drop 1).take 4):Nat),(numH (s.drop 5):Nat))
def isN (s:List UInt8):Bool:=decide (s.length=12)&&s.all isH&&decide (1≤numH (s.take 1))
def parseH (s:List UInt8):OriV:=if isN s=true then oriH s else (0,0,0)
theorem textH_len (o:OriV):(textH o).length=12:=by
 unfold textH
 rw [List.length_append,List.length_append,hexN_len,hexN_len,hexN_len]
theorem text_cuts (o:OriV):(textH o).take 1=hexN 1 o.1.toNat∧((textH o).drop 1).take 4=hexN 4 o.2.1.toNat∧(textH o).drop 5=hexN 7 o.2.2.toNat:=by
 unfold textH
 have h1:=hexN_len 1 o.1.toNat
 have h4:=hexN_len 4 o.2.1.toNat
 refine ⟨?_,?_,?_⟩
 ·rw [List.append_assoc,List.take_append_of_le_length (by omega),List.take_of_length_le (by omega)]
 ·rw [List.append_assoc,List.drop_append,List.drop_of_length_le (by omega),h1,List.nil_append,Nat.sub_self,List.drop_zero,List.take_append_of_le_length (by omega),List.take_of_length_le (by omega)]
 ·rw [List.drop_append,List.drop_of_length_le (by rw [List.length_append];omega),List.length_append,h1,h4,List.nil_append]
  rfl
theorem parse_text {o:OriV} (h:mayH o=true):isN (textH o)=true∧oriH (textH o)=o:=by
 obtain ⟨a,b,c⟩:=o
 have hm:1≤a∧a≤15∧0≤b∧b≤65535∧0≤c∧c≤268435455:=of_decide_eq_true h
 obtain ⟨c1,c2,c3⟩:=text_cuts (a,b,c)
 have n1:=numH_hex 1 a.toNat (by omega)
 have n2:=numH_hex 4 b.toNat (by omega)
 have n3:=numH_hex 7 c.toNat (by omega)
 refine ⟨?_,?_⟩
 ·unfold isN
  rw [c1,n1,textH_len,Bool.and_eq_true,Bool.and_eq_true]
  refine ⟨⟨rfl,?_⟩,decide_eq_true (by omega)⟩
  unfold textH
  rw [List.all_append,List.all_append,hexN_all,hexN_all,hexN_all]
  rfl
 ·unfold oriH
  rw [c1,c2,c3,n1,n2,n3]
  show (((a.toNat:Nat):Int),((b.toNat:Nat):Int),((c.toNat:Nat):Int))=(a,b,c)
  rw [Int.toNat_of_nonneg (by omega),Int.toNat_of_nonneg (by omega),Int.toNat_of_nonneg (by omega)]
theorem text_parse {s:List UInt8} (h:isN s=true):mayH (oriH s)=true∧textH (oriH s)=s:=by
 unfold isN at h
 rw [Bool.and_eq_true,Bool.and_eq_true] at h
 obtain ⟨⟨h1,h2⟩,h3⟩:=h
 have h1:=of_decide_eq_true h1
 have h3:=of_decide_eq_true h3
 have e:s=s.take 1++(s.drop 1).take 4++s.drop 5:=by
  rw [List.append_assoc]
  conv=>lhs;rw [←List.take_append_drop 1 s,←List.take_append_drop 4 (s.drop 1),List.drop_drop]
 have a1:(s.take 1).all isH=true:=List.all_eq_true.2 (fun x hx=>List.all_eq_true.1 h2 x (List.mem_of_mem_take hx))
 have a2:((s.drop 1).take 4).all isH=true:=List.all_eq_true.2 (fun x hx=>List.all_eq_true.1 h2 x (List.mem_of_mem_drop (List.mem_of_mem_take hx)))
 have a3:(s.drop 5).all isH=true:=List.all_eq_true.2 (fun x hx=>List.all_eq_true.1 h2 x (List.mem_of_mem_drop hx))
 have l1:(s.take 1).length=1:=by rw [List.length_take];omega
 have l2:((s.drop 1).take 4).length=4:=by rw [List.length_take,List.length_drop];omega
 have l3:(s.drop 5).length=7:=by rw [List.length_drop];omega
 have b1:=numH_lt 1 _ l1
 have b2:=numH_lt 4 _ l2
 have b3:=numH_lt 7 _ l3
 constructor
 ·unfold mayH oriH
  refine decide_eq_true ?_
  simp only
  omega
 ·unfold textH oriH
  simp only [Int.toNat_natCast]
  rw [hex_numH 1 _ l1 a1,hex_numH 4 _ l2 a2,hex_numH 7 _ l3 a3]
  exact e.symm
theorem name_iff {o:OriV} {s:List UInt8}:(mayH o=true∧textH o=s)↔(isN s=true∧oriH s=o):=by
 constructor
 ·rintro ⟨h,rfl⟩;exact parse_text h
 ·rintro ⟨h,rfl⟩;exact text_parse h
end Go.Proofs.YtpndfahgflgocaaGreatDoor

