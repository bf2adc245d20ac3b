import Derived.Test.YtfdbhldnohaopaaDoorOn33
import Derived.Test.YtfdbhldnohaopaaDoorOn34
import Derived.Test.YtfdbhldnohaopaaDoorOn25
import Derived.Test.YtfdbhldnohaopaaDoorOn19

namespace Go.Proofs.YtfdbhldnohaopaaDoor
open Go.RowKit Go.Shelf Plain

theorem nods_size:∀w,(Go.sizeOf 24).run Tryd.prog w=.ok 1 w:=fun w=>by kernel_rfl
def clrN (x:NodV):NodV:={x with att:=att0}
def clrU (up:List NodV) (i:Nat):List NodV:=(up.take i).map clrN++up.drop i
theorem clrU_at {up:List NodV} {i:Nat} {x:NodV} (h:up[i]?=some x):(clrU up i)[i]?=some x:=by
 have hi:=(List.getElem?_eq_some_iff.1 h).1
 unfold clrU
 rw [List.getElem?_append_right (by rw [List.length_map,List.length_take];omega),List.length_map,List.length_take,show i - min i up.length=0 from by omega,List.getElem?_drop,Nat.add_zero,h]
theorem clrU_succ {up:List NodV} {i:Nat} {x:NodV} (h:up[i]?=some x):clrU up (i+1)=(clrU up i).set i (clrN x):=by
 have hi:=(List.getElem?_eq_some_iff.1 h).1
 unfold clrU
 rw [List.set_append_right _ _ (by rw [List.length_map,List.length_take];omega),List.length_map,List.length_take,show i - min i up.length=0 from by omega,List.take_add_one,h,List.drop_eq_getElem_cons hi,List.set_cons_zero]
 simp
theorem clrU_all (up:List NodV):clrU up up.length=up.map clrN:=by simp [clrU]
theorem clr_few {up:List NodV} (h:FewU up):FewU (up.map clrN):=by
 refine ⟨by rw [List.length_map];exact h.1,fun y hy=>?_⟩
 obtain ⟨x,hx,rfl⟩:=List.mem_map.1 hy
 obtain ⟨h1,h2,h3,h4,h5,h6,h7⟩:=h.2 x hx
 exact ⟨h1,h2,by simp [clrN,att0],h4,h5,by simp [clrN,att0],h7⟩
theorem clr_none (up:List NodV) (ls:List (List NodV)) (rs:List Bool):findO (up.map clrN) ls rs=[]:=findO_none _ _ _ (fun y hy=>by
 obtain ⟨x,hx,rfl⟩:=List.mem_map.1 hy
 rfl)
theorem cleared {D:Nat→Prop} {w w':World} {base g n c i:Nat} {l:List NodV} {x:NodV} {cur:List Value} (h:OwD nodEn D w base 37 (some ⟨g,0,none⟩) n c l) (hx:l[i]?=some x) (hcur:RowL w g 37 cur) (hr:RowL w' g 37 (splice cur (i*13+6) (attC att0))) (hg:w.grownBy w' (some g)):OwD nodEn D w' base 37 (some ⟨g,0,none⟩) n c (l.set i (clrN x)):=by
 have hi:i < n:=by have h1:=(List.getElem?_eq_some_iff.1 hx).1;have h2:=h.len;omega
 obtain ⟨cur',cs,hr',hR,htk,hlen⟩:=h.at hx
 have ecur:cur'=cur:=by
  have:=hr'.symm.trans hcur
  injection this with this
  injection this with this
  simpa using this
 subst ecur
 obtain ⟨A,a,b,C,d,e,h1,h2,h3,h4,h5⟩:=hR
 have h6:(cur'.drop (i*13)).take 6=[.int .i64 x.k,.int .i64 x.p,.int .i64 x.n,.int .i64 x.g,.slice A a b,.slice C d e]:=by
  have:=congrArg (List.take 6) htk
  rw [List.take_take,h1] at this
  exact this
 have hs:=splice_part (L:=cur') (p:=i*13) (a:=[.int .i64 x.k,.int .i64 x.p,.int .i64 x.n,.int .i64 x.g,.slice A a b,.slice C d e]) (b:=attC att0) h6
 rw [show i*13+[Value.int .i64 x.k,.int .i64 x.p,.int .i64 x.n,.int .i64 x.g,.slice A a b,.slice C d e].length=i*13+6 from rfl] at hs
 rw [hs] at hr
 exact h.put hi (show NodR w D (nodC (clrN x) (.slice A a b) (.slice C d e)) (clrN x) from ⟨A,a,b,C,d,e,rfl,h2,h3,h4,h5⟩) hcur hr hg
theorem OwD.base8 {α:Type} {E:Enc α} {D:Nat→Prop} {w:World} {base e n c:Nat} {A:Option Addr} {l:List α} (h:OwD E D w base e A n c l):∀a,A=some a→base≤a.block:=by
 intro a ha
 obtain ⟨css,hown,-⟩:=h
 subst ha
 exact (World.ownsRow.lt hown a.block rfl).1
theorem OwD.rd {α:Type} {E:Enc α} {D:Nat→Prop} {w:World} {base e n c:Nat} {A:Option Addr} {l:List α} (h:OwD E D w base e A n c l):RdE E w (Under w.heap.size) A n l:=(h.own.rd rfl).plain
theorem OwD.some_ {α:Type} {E:Enc α} {D:Nat→Prop} {w:World} {base e n c:Nat} {A:Option Addr} {l:List α} (h:OwD E D w base e A n c l) (hn:0 < n):∃g,A=some ⟨g,0,none⟩∧base≤g∧g < w.heap.size:=by
 obtain ⟨css,hown,-⟩:=h
 rcases hown.2 with ⟨-,h0⟩|⟨g,cap,cur,he,hb,hg,-⟩
 ·omega
 ·simp only [Value.slice.injEq] at he
  exact ⟨g,he.1,hb,RowL.lt (cs:=cur.toList) (by unfold RowL;exact hg)⟩
set_option maxRecDepth 100000 in
set_option maxHeartbeats 800000 in
theorem eq_oriO (a b c a' b' c':Int) (w:World):(Op.equalIn 9999 33 (.agg #[.int .i64 a,.int .i64 b,.int .i64 c]) (.agg #[.int .i64 a',.int .i64 b',.int .i64 c'])).run Tryd.prog w=.ok (decide (a=a'∧b=b'∧c=c')) w:=by
 by_cases ha:a=a'
 rotate_left
 ·simp [go_sem,ha]
 by_cases hb:b=b'
 rotate_left
 ·simp [go_sem,ha,hb]
 by_cases hc:c=c'
 rotate_left
 ·simp [go_sem,ha,hb,hc]
 simp [go_sem,ha,hb,hc]
set_option maxRecDepth 100000 in
set_option maxHeartbeats 800000 in
theorem eq_attO {x y:AttV} {b:Bool} (h:decide (x=y)=b) (w:World):(binOp .eql 35 (.agg #[.int .i64 x.h,.int .i64 x.o,.string ⟨x.r.toArray⟩,.int .i64 x.l,.int .i64 x.i,.int .i64 x.g,.int .i64 x.s]) (.agg #[.int .i64 y.h,.int .i64 y.o,.string ⟨y.r.toArray⟩,.int .i64 y.l,.int .i64 y.i,.int .i64 y.g,.int .i64 y.s])).run Tryd.prog w=.ok (.bool b) w:=by
 subst h
 simp only [AttV.ext_iff']
 by_cases hh:x.h=y.h
 rotate_left
 ·simp [go_sem,eq_oriO,hh]
 by_cases ho:x.o=y.o
 rotate_left
 ·simp [go_sem,eq_oriO,hh,ho]
 by_cases hr:x.r=y.r
 rotate_left
 ·simp [go_sem,eq_oriO,hh,ho,hr]
 by_cases hl:x.l=y.l
 rotate_left
 ·simp [go_sem,eq_oriO,hh,ho,hr,hl]
 by_cases hi:x.i=y.i
 rotate_left
 ·simp [go_sem,eq_oriO,hh,ho,hr,hl,hi]
 by_cases hg:x.g=y.g
 rotate_left
 ·simp [go_sem,eq_oriO,hh,ho,hr,hl,hi,hg]
 by_cases hs:x.s=y.s
 rotate_left
 ·simp [go_sem,eq_oriO,hh,ho,hr,hl,hi,hg,hs]
 simp [go_sem,eq_oriO,hh,ho,hr,hl,hi,hg,hs]
theorem att_eqb (a:AttV) (W:World) {b:Bool} (hb:decide (a=att0)=b):(binOp .eql 35 (.agg #[.int .i64 a.h,.int .i64 a.o,.string ⟨a.r.toArray⟩,.int .i64 a.l,.int .i64 a.i,.int .i64 a.g,.int .i64 a.s]) (.agg #[.int .i64 0,.int .i64 0,.string ⟨#[]⟩,.int .i64 0,.int .i64 0,.int .i64 0,.int .i64 0])).run Tryd.prog W=.ok (.bool b) W:=eq_attO (y:=att0) hb W
set_option maxRecDepth 100000 in
set_option maxHeartbeats 8000000 in
theorem law_OriginNone {g:GeoQ} {AU AL:Option Addr} {nU cU nL cL:Nat} {up:List NodV} {ls:List (List NodV)} (w:World) (hu:RdE nodEn w (Under w.heap.size) AU nU up) (h:RdE layEn w (Under w.heap.size) AL nL ls) (hfu:FineN up) (hfl:∀ns∈ls,FineN ns) (hcw:ClW w) :
  Calls Tryd.prog 4 #[.agg (stkC g (.slice AU nU cU) (.slice AL nL cL)).toArray] w (LawOk w):=by
 obtain ⟨W1,hW1⟩:∃W1,(w.alloc (.cells (stkC g (.slice AU nU cU) (.slice AL nL cL)).toArray 29))=W1:=⟨_,rfl⟩
 obtain ⟨r0,hb1,hs1⟩:=rowA1 w _ _ hW1
 have hW1':(w.alloc (.cells #[.int .i64 g.a,.int .i64 g.b,.int .i64 g.c,.int .i64 g.d,.slice AU nU cU,.slice AL nL cL] 29))=W1:=hW1
 have R1:=hide r0
 have HB:=hide hb1
 have hsz0:=hb1.size
 have HU:=hide (hu.under hb1 (Nat.le_refl _))
 have HL:=hide (h.under hb1 (Nat.le_refl _))
 have HFN:=hide hfu
 have HFL:=hide hfl
 have HC:=hide hcw
 have q1_4:W1.cell? ⟨w.heap.size,4,none⟩=some (.slice AU nU cU):=R1.out.cell 4
 have q1_0:W1.cell? ⟨w.heap.size,0,none⟩=some (.int .i64 g.a):=R1.out.cell 0
 have q1_1:W1.cell? ⟨w.heap.size,1,none⟩=some (.int .i64 g.b):=R1.out.cell 1
 have q1_2:W1.cell? ⟨w.heap.size,2,none⟩=some (.int .i64 g.c):=R1.out.cell 2
 have q1_3:W1.cell? ⟨w.heap.size,3,none⟩=some (.int .i64 g.d):=R1.out.cell 3
 have q1_5:W1.cell? ⟨w.heap.size,5,none⟩=some (.slice AL nL cL):=R1.out.cell 5
 unfold stkC
 clear r0 hb1 hW1 hu h hfu hfl hcw
 go_enter Tryd.func4,Tryd.ntmps4
 go_wp2_with (first|(refine wpList_loadW rfl 29 (.tmp 1) rfl 6 stk_agg stk_size (w.heap.size) 29 rfl (stkC g (.slice AU nU cU) (.slice AL nL cL)) R1.out rfl ?_))
 clear hW1'
 refine (PStack_any W1 (und_up HU.out (by omega)) (und_up HL.out (by omega)) HFN.out HFL.out).mono ?_
 rintro e w2 ⟨p,rfl,hb2,hq⟩
 have HQ:=hide hq
 clear q1_4 q1_0 q1_1 q1_2 q1_3 q1_5
 replace HB:=hide (HB.out.trans (hb2.mono HB.out.size))
 replace R1:=hide (R1.out.on hb2)
 replace HU:=hide (HU.out.under hb2 (by omega))
 replace HL:=hide (HL.out.under hb2 (by omega))
 have hsz1:=hb2.size
 have q1_4:w2.cell? ⟨w.heap.size,4,none⟩=some (.slice AU nU cU):=R1.out.cell 4
 have q1_0:w2.cell? ⟨w.heap.size,0,none⟩=some (.int .i64 g.a):=R1.out.cell 0
 have q1_1:w2.cell? ⟨w.heap.size,1,none⟩=some (.int .i64 g.b):=R1.out.cell 1
 have q1_2:w2.cell? ⟨w.heap.size,2,none⟩=some (.int .i64 g.c):=R1.out.cell 2
 have q1_3:w2.cell? ⟨w.heap.size,3,none⟩=some (.int .i64 g.d):=R1.out.cell 3
 have q1_5:w2.cell? ⟨w.heap.size,5,none⟩=some (.slice AL nL cL):=R1.out.cell 5
 clear hq hb2
 cases p
 ·go_wp2_with (go_at_call 7;refine (awake22_any _ (HC.out.below HB.out)).mono ?_;rintro e98 wz ⟨rfl,hbz⟩;replace HB:=hide (HB.out.trans (hbz.mono HB.out.size));clear hbz)
  go_ret
  exact LawOk.of HB.out
 obtain ⟨hF,hfew⟩:=HQ.out (by first|rfl|trivial)
 have HF:=hide hF
 have HFEW:=hide hfew
 have HFU:=hide (show FewU up from ⟨by have:=hfew.1;omega,hfew.2⟩)
 have hul:up.length=nU:=HU.out.1
 have hn24:nU≤24:=by have:=HFU.out.1;omega
 clear hF hfew HQ HFN HFL
 go_wp2_with (first|(go_at_call 17;refine (CloneNod_d (B:=w.heap.size) w2 HU.out (by omega) (by have:=HU.out.1;have:=HFEW.out.1;omega)).mono ?_;rintro e2 wC ⟨A8,c8,rfl,h8,hbel⟩;clear q1_4 q1_0 q1_1 q1_2 q1_3 q1_5;replace HB:=hide (HB.out.trans (hbel.mono HB.out.size));replace R1:=hide (R1.out.on hbel);replace HU:=hide (HU.out.under hbel (by omega));replace HL:=hide (HL.out.under hbel (by omega));have hsz3:=hbel.size;have q1_4:wC.cell? ⟨w.heap.size,4,none⟩=some (.slice AU nU cU):=R1.out.cell 4;have q1_0:wC.cell? ⟨w.heap.size,0,none⟩=some (.int .i64 g.a):=R1.out.cell 0;have q1_1:wC.cell? ⟨w.heap.size,1,none⟩=some (.int .i64 g.b):=R1.out.cell 1;have q1_2:wC.cell? ⟨w.heap.size,2,none⟩=some (.int .i64 g.c):=R1.out.cell 2;have q1_3:wC.cell? ⟨w.heap.size,3,none⟩=some (.int .i64 g.d):=R1.out.cell 3;have q1_5:wC.cell? ⟨w.heap.size,5,none⟩=some (.slice AL nL cL):=R1.out.cell 5;have H8:=hide h8;clear h8;clear hbel)|(refine wpList_storeV rfl 24 (.tmp 14) (.tmp 12) rfl nods_size (w.heap.size) 4 29 rfl (.slice A8 nU c8) rfl rfl rfl (stkC g (.slice AU nU cU) (.slice AL nL cL)) R1.out (by show 4 < 6;omega) ?_;intro wS4 hr4 hg4 hs4;replace hr4:RowL wS4 (w.heap.size) 29 [.int .i64 g.a,.int .i64 g.b,.int .i64 g.c,.int .i64 g.d,.slice A8 nU c8,.slice AL nL cL]:=hr4;clear q1_4 q1_0 q1_1 q1_2 q1_3 q1_5;replace HB:=hide (HB.out.grown hg4 (by omega) (pu4 (by omega)));replace HU:=hide (und_grown HU.out hg4 (by omega) (by omega));replace HL:=hide (und_grown HL.out hg4 (by omega) (by omega));replace H8:=hide (H8.out.grown hg4 (fun k hk=>by have:=Option.some.inj hk;subst this;exact ⟨by unfold Under;omega,fun a ha=>by have:=H8.out.base8 a ha;omega⟩));have hsz5:=hg4.size;replace R1:=hide hr4;have q1_4:wS4.cell? ⟨w.heap.size,4,none⟩=some (.slice A8 nU c8):=R1.out.cell 4;have q1_0:wS4.cell? ⟨w.heap.size,0,none⟩=some (.int .i64 g.a):=R1.out.cell 0;have q1_1:wS4.cell? ⟨w.heap.size,1,none⟩=some (.int .i64 g.b):=R1.out.cell 1;have q1_2:wS4.cell? ⟨w.heap.size,2,none⟩=some (.int .i64 g.c):=R1.out.cell 2;have q1_3:wS4.cell? ⟨w.heap.size,3,none⟩=some (.int .i64 g.d):=R1.out.cell 3;have q1_5:wS4.cell? ⟨w.heap.size,5,none⟩=some (.slice AL nL cL):=R1.out.cell 5;clear hr4 hg4 hs4))
 have hw2T:w2.heap.size≤wS4.heap.size:=by omega
 clear q1_4 q1_0 q1_1 q1_2 q1_3 q1_5
 go_loopw [19] (fun v19 wr=>∃i:Nat,i≤nU∧v19=.int .i64 i∧OwD nodEn (Under w.heap.size) wr w2.heap.size 37 A8 nU c8 (clrU up i)∧Below w2.heap.size wS4 wr) (fun v19 _=>nU - (intOf v19).toNat)
 case atStart=>exact ⟨0,by omega,rfl,by rw [show clrU up 0=up from by simp [clrU]];exact H8.out,Below.refl _ _⟩
 case round =>
  obtain ⟨i,hi,rfl,ho,hbr⟩:=hrel
  have hbsz:=hbr.size
  have HBQ:=hide hbr
  have HO:=hide ho
  have R1o:=R1
  have HLo:=HL
  replace R1:=hide (show RowL wr w.heap.size _ _ from (hbr.block _ (by omega)).trans R1.out)
  replace HL:=hide (und_at HL.out hbr (by omega))
  clear ho hbr
  by_cases hlt:i < nU
  ·obtain ⟨x,hx⟩:∃x,up[i]?=some x:=⟨_,List.getElem?_eq_getElem (by omega)⟩
   have hiu:=clrU_at hx
   have HCS:=hide (clrU_succ hx)
   have hhx:=(HFU.out.2 x (List.mem_of_getElem? hx)).2.2.1
   obtain ⟨g8,rfl,hg8,hg8l⟩:=HO.out.some_ (by omega)
   obtain ⟨cur,cs,hcur,hR,htk,hlen⟩:=HO.out.at hiu
   obtain ⟨A0,n0,k0,C0,m0,d0,rfl,-⟩:=hR
   have hlen':i*13+13≤cur.length:=hlen
   have HCUR:=hide hcur
   have HCX:=hide (fun k v (hv:(nodC x (.slice A0 n0 k0) (.slice C0 m0 d0))[k]?=some v)=>show wr.cell? ⟨g8,i*13+k,none⟩=some v from (hcur.cell (i*13+k)).trans (sub_cell (k:=13) htk hv))
   have hin:(i:Int) < (nU:Int):=by omega
   obtain ⟨b,hb⟩:∃b,decide (x.att=att0)=b:=⟨_,rfl⟩
   have hxh:b=true→x.att.h=0:=fun e=>by
    rw [e] at hb
    rw [of_decide_eq_true hb];rfl
   have heq:=fun W=>att_eqb x.att W hb
   have HXH:=hide hxh
   clear hx hcur htk hb hlen hxh
   go_upto_region 8 with (first|(refine wpList_loadX rfl 37 (.tmp 22) rfl 13 nod_agg nod_size g8 (i*13) rfl (nodC x (.slice A0 n0 k0) (.slice C0 m0 d0)) HCX.out rfl ?_)|(refine wpList_storeW rfl 37 (.tmp 4) (.tmp 23) rfl 13 nod_size (wr.heap.size) 37 rfl (nodC nod0 (.slice none 0 0) (.slice none 0 0)) (nodC x (.slice A0 n0 k0) (.slice C0 m0 d0)) rfl (RowL.new wr 37 (nodC nod0 (.slice none 0 0) (.slice none 0 0))) rfl rfl (nodC_one _ _ _ _ _ _ _) ?_;intro wS121 hr121 hg121 hs121;have hzb:=below_stored' hg121;replace HBQ:=hide (HBQ.out.trans (hzb.mono (by omega)));replace R1:=hide (R1.out.on hzb);replace HCUR:=hide (HCUR.out.on hzb);replace HO:=hide (HO.out.grown (grown_below hzb) (by simp));have hsz122:=hzb.size;have R4:=hide hr121;have hlt121:=hr121.lt;have q4_0:wS121.cell? ⟨wr.heap.size,0,none⟩=some (.int .i64 x.k):=R4.out.cell 0;have q4_1:wS121.cell? ⟨wr.heap.size,1,none⟩=some (.int .i64 x.p):=R4.out.cell 1;have q4_2:wS121.cell? ⟨wr.heap.size,2,none⟩=some (.int .i64 x.n):=R4.out.cell 2;have q4_3:wS121.cell? ⟨wr.heap.size,3,none⟩=some (.int .i64 x.g):=R4.out.cell 3;have q4_4:wS121.cell? ⟨wr.heap.size,4,none⟩=some (.slice A0 n0 k0):=R4.out.cell 4;have q4_5:wS121.cell? ⟨wr.heap.size,5,none⟩=some (.slice C0 m0 d0):=R4.out.cell 5;have q4_6:wS121.cell? ⟨wr.heap.size,6,none⟩=some (.int .i64 x.att.h):=R4.out.cell 6;have q4_7:wS121.cell? ⟨wr.heap.size,7,none⟩=some (.int .i64 x.att.o):=R4.out.cell 7;have q4_8:wS121.cell? ⟨wr.heap.size,8,none⟩=some (.string ⟨x.att.r.toArray⟩):=R4.out.cell 8;have q4_9:wS121.cell? ⟨wr.heap.size,9,none⟩=some (.int .i64 x.att.l):=R4.out.cell 9;have q4_10:wS121.cell? ⟨wr.heap.size,10,none⟩=some (.int .i64 x.att.i):=R4.out.cell 10;have q4_11:wS121.cell? ⟨wr.heap.size,11,none⟩=some (.int .i64 x.att.g):=R4.out.cell 11;have q4_12:wS121.cell? ⟨wr.heap.size,12,none⟩=some (.int .i64 x.att.s):=R4.out.cell 12;clear hzb hr121;clear hg121 hs121;have q1_4:wS121.cell? ⟨w.heap.size,4,none⟩=some (.slice (some ⟨g8,0,none⟩) nU c8):=R1.out.cell 4)|(refine wpList_storeC rfl 35 (.tmp 30) (.tmp 28) rfl 7 att_size g8 (i*13+6) 37 rfl cur (attC att0) rfl HCUR.out rfl (by omega) (attC_one _) ?_;intro w7 hr7 hg7 hs7;have HP:=hide (cleared HO.out hiu HCUR.out hr7 hg7);have HB7:=hide (HBQ.out.grown hg7 (by omega) (pu4 (by omega)));have R17:=hide (R1.out.grown hg7 (pu5 (by omega)));have R47:=hide (R4.out.grown hg7 (pu5 (by omega)));have hs7l:=hg7.size;clear q1_4 hr7 hg7 hs7))
   have q1_4:w7.cell? ⟨w.heap.size,4,none⟩=some (.slice (some ⟨g8,0,none⟩) nU c8):=R17.out.cell 4
   have q4_0:w7.cell? ⟨wr.heap.size,0,none⟩=some (.int .i64 x.k):=R47.out.cell 0
   have q4_1:w7.cell? ⟨wr.heap.size,1,none⟩=some (.int .i64 x.p):=R47.out.cell 1
   have q4_2:w7.cell? ⟨wr.heap.size,2,none⟩=some (.int .i64 x.n):=R47.out.cell 2
   have q4_3:w7.cell? ⟨wr.heap.size,3,none⟩=some (.int .i64 x.g):=R47.out.cell 3
   have q4_4:w7.cell? ⟨wr.heap.size,4,none⟩=some (.slice A0 n0 k0):=R47.out.cell 4
   have q4_5:w7.cell? ⟨wr.heap.size,5,none⟩=some (.slice C0 m0 d0):=R47.out.cell 5
   have q4_6:w7.cell? ⟨wr.heap.size,6,none⟩=some (.int .i64 x.att.h):=R47.out.cell 6
   have q4_7:w7.cell? ⟨wr.heap.size,7,none⟩=some (.int .i64 x.att.o):=R47.out.cell 7
   have q4_8:w7.cell? ⟨wr.heap.size,8,none⟩=some (.string ⟨x.att.r.toArray⟩):=R47.out.cell 8
   have q4_9:w7.cell? ⟨wr.heap.size,9,none⟩=some (.int .i64 x.att.l):=R47.out.cell 9
   have q4_10:w7.cell? ⟨wr.heap.size,10,none⟩=some (.int .i64 x.att.i):=R47.out.cell 10
   have q4_11:w7.cell? ⟨wr.heap.size,11,none⟩=some (.int .i64 x.att.g):=R47.out.cell 11
   have q4_12:w7.cell? ⟨wr.heap.size,12,none⟩=some (.int .i64 x.att.s):=R47.out.cell 12
   have q1_0:w7.cell? ⟨w.heap.size,0,none⟩=some (.int .i64 g.a):=R17.out.cell 0
   have q1_1:w7.cell? ⟨w.heap.size,1,none⟩=some (.int .i64 g.b):=R17.out.cell 1
   have q1_2:w7.cell? ⟨w.heap.size,2,none⟩=some (.int .i64 g.c):=R17.out.cell 2
   have q1_3:w7.cell? ⟨w.heap.size,3,none⟩=some (.int .i64 g.d):=R17.out.cell 3
   have q1_5:w7.cell? ⟨w.heap.size,5,none⟩=some (.slice AL nL cL):=R17.out.cell 5
   cases b with
   | false =>
    go_wp2_with fail
    go_roundw
    case rel=>exact ⟨i+1,by omega,by go_num,by rw [HCS.out];exact HP.out,HB7.out⟩
    case measure=>simp [intOf];omega
   | true =>
    have hodd:=hide (show oddO x=false from by unfold oddO has1;rw [HXH.out (by first|rfl|trivial)];rfl)
    go_wp2_with fail
    go_at_call 11
    refine (Odd_any (x:=x) hodd.out hhx.1 hhx.2 w7).mono ?_
    rintro e161 wO ⟨rfl,hbel⟩
    clear q1_4 q4_0 q4_1 q4_2 q4_3 q4_4 q4_5 q4_6 q4_7 q4_8 q4_9 q4_10 q4_11 q4_12 q1_0 q1_1 q1_2 q1_3 q1_5
    replace HB7:=hide (HB7.out.trans (hbel.mono (by omega)))
    replace R17:=hide (R17.out.on hbel)
    replace R47:=hide (R47.out.on hbel)
    replace HP:=hide (HP.out.grown (grown_below hbel) (by simp))
    have hsz162:=hbel.size
    have q1_4:wO.cell? ⟨w.heap.size,4,none⟩=some (.slice (some ⟨g8,0,none⟩) nU c8):=R17.out.cell 4
    have q4_0:wO.cell? ⟨wr.heap.size,0,none⟩=some (.int .i64 x.k):=R47.out.cell 0
    have q4_1:wO.cell? ⟨wr.heap.size,1,none⟩=some (.int .i64 x.p):=R47.out.cell 1
    have q4_2:wO.cell? ⟨wr.heap.size,2,none⟩=some (.int .i64 x.n):=R47.out.cell 2
    have q4_3:wO.cell? ⟨wr.heap.size,3,none⟩=some (.int .i64 x.g):=R47.out.cell 3
    have q4_4:wO.cell? ⟨wr.heap.size,4,none⟩=some (.slice A0 n0 k0):=R47.out.cell 4
    have q4_5:wO.cell? ⟨wr.heap.size,5,none⟩=some (.slice C0 m0 d0):=R47.out.cell 5
    have q4_6:wO.cell? ⟨wr.heap.size,6,none⟩=some (.int .i64 x.att.h):=R47.out.cell 6
    have q4_7:wO.cell? ⟨wr.heap.size,7,none⟩=some (.int .i64 x.att.o):=R47.out.cell 7
    have q4_8:wO.cell? ⟨wr.heap.size,8,none⟩=some (.string ⟨x.att.r.toArray⟩):=R47.out.cell 8
    have q4_9:wO.cell? ⟨wr.heap.size,9,none⟩=some (.int .i64 x.att.l):=R47.out.cell 9
    have q4_10:wO.cell? ⟨wr.heap.size,10,none⟩=some (.int .i64 x.att.i):=R47.out.cell 10
    have q4_11:wO.cell? ⟨wr.heap.size,11,none⟩=some (.int .i64 x.att.g):=R47.out.cell 11
    have q4_12:wO.cell? ⟨wr.heap.size,12,none⟩=some (.int .i64 x.att.s):=R47.out.cell 12
    have q1_0:wO.cell? ⟨w.heap.size,0,none⟩=some (.int .i64 g.a):=R17.out.cell 0
    have q1_1:wO.cell? ⟨w.heap.size,1,none⟩=some (.int .i64 g.b):=R17.out.cell 1
    have q1_2:wO.cell? ⟨w.heap.size,2,none⟩=some (.int .i64 g.c):=R17.out.cell 2
    have q1_3:wO.cell? ⟨w.heap.size,3,none⟩=some (.int .i64 g.d):=R17.out.cell 3
    have q1_5:wO.cell? ⟨w.heap.size,5,none⟩=some (.slice AL nL cL):=R17.out.cell 5
    clear hbel
    go_wp2_with fail
    go_at_call 13
    refine (Stale_none (AU:=some ⟨g8,0,none⟩) (cU:=c8) (cL:=cL) (g:=g) (HXH.out (by first|rfl|trivial)) wO).mono ?_
    rintro e163 wT8 ⟨rfl,hbel⟩
    clear q1_4 q4_0 q4_1 q4_2 q4_3 q4_4 q4_5 q4_6 q4_7 q4_8 q4_9 q4_10 q4_11 q4_12 q1_0 q1_1 q1_2 q1_3 q1_5
    replace HB7:=hide (HB7.out.trans (hbel.mono (by omega)))
    replace R17:=hide (R17.out.on hbel)
    replace R47:=hide (R47.out.on hbel)
    replace HP:=hide (HP.out.grown (grown_below hbel) (by simp))
    have hsz164:=hbel.size
    have q1_4:wT8.cell? ⟨w.heap.size,4,none⟩=some (.slice (some ⟨g8,0,none⟩) nU c8):=R17.out.cell 4
    have q4_0:wT8.cell? ⟨wr.heap.size,0,none⟩=some (.int .i64 x.k):=R47.out.cell 0
    have q4_1:wT8.cell? ⟨wr.heap.size,1,none⟩=some (.int .i64 x.p):=R47.out.cell 1
    have q4_2:wT8.cell? ⟨wr.heap.size,2,none⟩=some (.int .i64 x.n):=R47.out.cell 2
    have q4_3:wT8.cell? ⟨wr.heap.size,3,none⟩=some (.int .i64 x.g):=R47.out.cell 3
    have q4_4:wT8.cell? ⟨wr.heap.size,4,none⟩=some (.slice A0 n0 k0):=R47.out.cell 4
    have q4_5:wT8.cell? ⟨wr.heap.size,5,none⟩=some (.slice C0 m0 d0):=R47.out.cell 5
    have q4_6:wT8.cell? ⟨wr.heap.size,6,none⟩=some (.int .i64 x.att.h):=R47.out.cell 6
    have q4_7:wT8.cell? ⟨wr.heap.size,7,none⟩=some (.int .i64 x.att.o):=R47.out.cell 7
    have q4_8:wT8.cell? ⟨wr.heap.size,8,none⟩=some (.string ⟨x.att.r.toArray⟩):=R47.out.cell 8
    have q4_9:wT8.cell? ⟨wr.heap.size,9,none⟩=some (.int .i64 x.att.l):=R47.out.cell 9
    have q4_10:wT8.cell? ⟨wr.heap.size,10,none⟩=some (.int .i64 x.att.i):=R47.out.cell 10
    have q4_11:wT8.cell? ⟨wr.heap.size,11,none⟩=some (.int .i64 x.att.g):=R47.out.cell 11
    have q4_12:wT8.cell? ⟨wr.heap.size,12,none⟩=some (.int .i64 x.att.s):=R47.out.cell 12
    have q1_0:wT8.cell? ⟨w.heap.size,0,none⟩=some (.int .i64 g.a):=R17.out.cell 0
    have q1_1:wT8.cell? ⟨w.heap.size,1,none⟩=some (.int .i64 g.b):=R17.out.cell 1
    have q1_2:wT8.cell? ⟨w.heap.size,2,none⟩=some (.int .i64 g.c):=R17.out.cell 2
    have q1_3:wT8.cell? ⟨w.heap.size,3,none⟩=some (.int .i64 g.d):=R17.out.cell 3
    have q1_5:wT8.cell? ⟨w.heap.size,5,none⟩=some (.slice AL nL cL):=R17.out.cell 5
    clear hbel
    go_wp2_with fail
    go_at_call 15
    refine (Lacks_none (AU:=some ⟨g8,0,none⟩) (cU:=c8) (cL:=cL) (g:=g) (HXH.out (by first|rfl|trivial)) wT8).mono ?_
    rintro e165 wL ⟨rfl,hbel⟩
    clear q1_4 q4_0 q4_1 q4_2 q4_3 q4_4 q4_5 q4_6 q4_7 q4_8 q4_9 q4_10 q4_11 q4_12 q1_0 q1_1 q1_2 q1_3 q1_5
    replace HB7:=hide (HB7.out.trans (hbel.mono (by omega)))
    replace R17:=hide (R17.out.on hbel)
    replace R47:=hide (R47.out.on hbel)
    replace HP:=hide (HP.out.grown (grown_below hbel) (by simp))
    have hsz166:=hbel.size
    have q1_4:wL.cell? ⟨w.heap.size,4,none⟩=some (.slice (some ⟨g8,0,none⟩) nU c8):=R17.out.cell 4
    have q4_0:wL.cell? ⟨wr.heap.size,0,none⟩=some (.int .i64 x.k):=R47.out.cell 0
    have q4_1:wL.cell? ⟨wr.heap.size,1,none⟩=some (.int .i64 x.p):=R47.out.cell 1
    have q4_2:wL.cell? ⟨wr.heap.size,2,none⟩=some (.int .i64 x.n):=R47.out.cell 2
    have q4_3:wL.cell? ⟨wr.heap.size,3,none⟩=some (.int .i64 x.g):=R47.out.cell 3
    have q4_4:wL.cell? ⟨wr.heap.size,4,none⟩=some (.slice A0 n0 k0):=R47.out.cell 4
    have q4_5:wL.cell? ⟨wr.heap.size,5,none⟩=some (.slice C0 m0 d0):=R47.out.cell 5
    have q4_6:wL.cell? ⟨wr.heap.size,6,none⟩=some (.int .i64 x.att.h):=R47.out.cell 6
    have q4_7:wL.cell? ⟨wr.heap.size,7,none⟩=some (.int .i64 x.att.o):=R47.out.cell 7
    have q4_8:wL.cell? ⟨wr.heap.size,8,none⟩=some (.string ⟨x.att.r.toArray⟩):=R47.out.cell 8
    have q4_9:wL.cell? ⟨wr.heap.size,9,none⟩=some (.int .i64 x.att.l):=R47.out.cell 9
    have q4_10:wL.cell? ⟨wr.heap.size,10,none⟩=some (.int .i64 x.att.i):=R47.out.cell 10
    have q4_11:wL.cell? ⟨wr.heap.size,11,none⟩=some (.int .i64 x.att.g):=R47.out.cell 11
    have q4_12:wL.cell? ⟨wr.heap.size,12,none⟩=some (.int .i64 x.att.s):=R47.out.cell 12
    have q1_0:wL.cell? ⟨w.heap.size,0,none⟩=some (.int .i64 g.a):=R17.out.cell 0
    have q1_1:wL.cell? ⟨w.heap.size,1,none⟩=some (.int .i64 g.b):=R17.out.cell 1
    have q1_2:wL.cell? ⟨w.heap.size,2,none⟩=some (.int .i64 g.c):=R17.out.cell 2
    have q1_3:wL.cell? ⟨w.heap.size,3,none⟩=some (.int .i64 g.d):=R17.out.cell 3
    have q1_5:wL.cell? ⟨w.heap.size,5,none⟩=some (.slice AL nL cL):=R17.out.cell 5
    clear hbel
    go_wp2_with fail
    go_roundw
    case rel=>exact ⟨i+1,by omega,by go_num,by rw [HCS.out];exact HP.out,HB7.out⟩
    case measure=>simp [intOf];omega
  ·obtain rfl:nU=i:=by omega
   have hnlt:¬((nU:Int) < (nU:Int)):=by omega
   have HUC:=hide (show RdE nodEn wr (Under wr.heap.size) A8 nU (up.map clrN) from by have h1:=HO.out.rd;rw [←hul,clrU_all,hul] at h1;exact h1)
   replace HB:=hide (HB.out.trans (HBQ.out.mono (by have:=HB.out.size;omega)))
   clear R1o HLo HO HBQ
   have q1_4:wr.cell? ⟨w.heap.size,4,none⟩=some (.slice A8 nU c8):=R1.out.cell 4
   have q1_0:wr.cell? ⟨w.heap.size,0,none⟩=some (.int .i64 g.a):=R1.out.cell 0
   have q1_1:wr.cell? ⟨w.heap.size,1,none⟩=some (.int .i64 g.b):=R1.out.cell 1
   have q1_2:wr.cell? ⟨w.heap.size,2,none⟩=some (.int .i64 g.c):=R1.out.cell 2
   have q1_3:wr.cell? ⟨w.heap.size,3,none⟩=some (.int .i64 g.d):=R1.out.cell 3
   have q1_5:wr.cell? ⟨w.heap.size,5,none⟩=some (.slice AL nL cL):=R1.out.cell 5
   go_wp2_with (first|(refine wpList_loadW rfl 29 (.tmp 1) rfl 6 stk_agg stk_size (w.heap.size) 29 rfl (stkC g (.slice A8 nU c8) (.slice AL nL cL)) R1.out rfl ?_)|(go_at_call 9;refine (OFinds_p (g:=g) (n:=0) (up:=up.map clrN) rfl (clr_none up ls _) rfl wr HUC.out (und_up HL.out (by omega)) (by omega) HF.out (clr_few HFU.out) (HC.out.below HB.out)).mono ?_;rintro e201 wF ⟨A9,c9,rfl,h9,hbel⟩;clear h9;clear q1_4 q1_0 q1_1 q1_2 q1_3 q1_5;replace HB:=hide (HB.out.trans (hbel.mono HB.out.size));replace R1:=hide (R1.out.on hbel);replace HUC:=hide (HUC.out.under hbel (by omega));replace HL:=hide (HL.out.under hbel (by omega));have hsz202:=hbel.size;have q1_4:wF.cell? ⟨w.heap.size,4,none⟩=some (.slice A8 nU c8):=R1.out.cell 4;have q1_0:wF.cell? ⟨w.heap.size,0,none⟩=some (.int .i64 g.a):=R1.out.cell 0;have q1_1:wF.cell? ⟨w.heap.size,1,none⟩=some (.int .i64 g.b):=R1.out.cell 1;have q1_2:wF.cell? ⟨w.heap.size,2,none⟩=some (.int .i64 g.c):=R1.out.cell 2;have q1_3:wF.cell? ⟨w.heap.size,3,none⟩=some (.int .i64 g.d):=R1.out.cell 3;have q1_5:wF.cell? ⟨w.heap.size,5,none⟩=some (.slice AL nL cL):=R1.out.cell 5;clear hbel)|(go_at_call 7;refine (awake22_any _ (HC.out.below HB.out)).mono ?_;rintro e98 wz ⟨rfl,hbz⟩;replace HB:=hide (HB.out.trans (hbz.mono HB.out.size));clear hbz))
   go_ret
   exact LawOk.of HB.out
end Go.Proofs.YtfdbhldnohaopaaDoor

