import Derived.Test.YtpndfahgflgocaaDoorXn36
import Derived.Test.YtpndfahgflgocaaDoorXn37
import Derived.Test.YtpndfahgflgocaaDoorXn31
import Derived.Test.YtpndfahgflgocaaDoorXn19
import Derived.Test.YtpndfahgflgocaaDoorXn11

namespace Go.Proofs.YtpndfahgflgocaaDoor
open Go.RowKit Go.Shelf Plain

theorem nodsX_size:∀w,(Go.sizeOf 24).run Tryd.prog w=.ok 1 w:=fun w=>by kernel_rfl
theorem wp_storeX {P : Program} {w : World} {o : Oper} {a : Act} {K : Act → World → Prop} {Q : Exit → Act → World → Prop} (T : Nat) (x y : Operand) (ho : o.op = .store T x y)
  (hsz:∀w,(sizeOf T).run P w=.ok 1 w) (g off t:Nat) (hx:a.eval x=.pointer (some ⟨g,off,none⟩)) (v:Value) (hy:a.eval y=v) (hv:v.cells=#[v]) (h1:v.oneCell'=true) (cur:List Value) (h:RowL w g t cur) (hfit:off < cur.length)
  (hK:∀w',RowL w' g t (cur.set off v)→w.grownBy w' (some g)→w'.heap.size=w.heap.size→K (a.put o.dst undef) w'):o.wp P a w K Q:=by
 have hst:=run_storeCells_at P g off t [v] 0 cur.toArray w h (by simp;omega) (by simp [h1])
 simp only [Nat.add_zero] at hst
 have hr:(Instr.storeAt T (.pointer (some ⟨g,off,none⟩)) v).run P w=.ok () (w.setRow g (splice cur off [v]).toArray):=by
  simp [Instr.storeAt,Instr.sureAddr,storeVar,hsz,hv,hst,splice]
 unfold Oper.wp execOp
 simp only [ho,Sem.run_bind,Sem.run_pure,Result.andThen_ok,hx,hy,hr]
 have hsp:splice cur off [v]=cur.set off v:=by
  apply List.ext_getElem?
  intro i
  rw [splice_get cur off [v] i (by simp;omega),List.getElem?_set]
  simp only [List.length_singleton]
  by_cases e1:i < off
  ·rw [if_pos e1,if_neg (by omega)]
  ·by_cases e2:off=i
   ·subst e2;rw [if_neg e1,if_pos (by omega),if_pos rfl,if_pos hfit];simp
   ·rw [if_neg e1,if_neg (by omega),if_neg e2]
 have hrow:=h.setRow_ (splice cur off [v])
 rw [hsp] at hrow ⊢
 exact hK _ hrow (grownBy_setRow _ _ _) (by simp)
theorem noE_put {D:Nat→Prop} {w w':World} {base g n c i:Nat} {l:List NodV} {x:NodV} {cur:List Value} (h:OwD nodEn D w base 42 (some ⟨g,0,none⟩) n c l) (hx:l[i]?=some x) (hcur:RowL w g 42 cur) (hr:RowL w' g 42 (cur.set (i*13+5) (.slice none 0 0))) (hg:w.grownBy w' (some g)):OwD nodEn D w' base 42 (some ⟨g,0,none⟩) n c (l.set i (noE x)):=by
 have hi:i < n:=by have h1:=(List.getElem?_eq_some_iff.1 hx).1;have h2:=h.len;omega
 obtain ⟨cur',cs,hr',hR,htk,hlen⟩:=h.at hx
 have ecur:cur'=cur:=by
  have:=hr'.symm.trans hcur
  injection this with this
  injection this with this
  simpa using this
 subst ecur
 obtain ⟨A,a,b,C,d,e,h1,h2,h3,h4,h5⟩:=hR
 have hset:cur'.set (i*13+5) (.slice none 0 0)=splice cur' (i*13) (nodC (noE x) (.slice A a b) (.slice none 0 0)):=by
  rw [h1] at htk
  apply List.ext_getElem?
  intro j
  have hl:i*13+13≤cur'.length:=hlen
  rw [splice_get cur' (i*13) _ j (by show i*13+13≤_;omega),List.getElem?_set]
  have hc:∀k,k < 13→cur'[i*13+k]?=(nodC x (.slice A a b) (.slice C d e))[k]?:=fun k hk=>by
   have h6:=congrArg (fun z=>z[k]?) htk
   simp only [List.getElem?_take,List.getElem?_drop] at h6
   rw [if_pos (show k < nodEn.k from hk)] at h6
   exact h6
  by_cases e1:j < i*13
  ·rw [if_pos e1,if_neg (by omega)]
  ·by_cases e2:j < i*13+(nodC (noE x) (.slice A a b) (.slice none 0 0)).length
   ·rw [if_neg e1,if_pos e2]
    have e2:j < i*13+13:=e2
    obtain ⟨k,rfl⟩:∃k,j=i*13+k:=⟨j - i*13,by omega⟩
    have hk:k < 13:=by omega
    rw [show i*13+k - i*13=k from by omega]
    by_cases e3:i*13+5=i*13+k
    ·rw [if_pos e3,if_pos (by omega)]
     obtain rfl:k=5:=by omega
     rfl
    ·rw [if_neg e3,hc k hk]
     obtain rfl|rfl|rfl|rfl|rfl|rfl|rfl|rfl|rfl|rfl|rfl|rfl|rfl:k=0∨k=1∨k=2∨k=3∨k=4∨k=5∨k=6∨k=7∨k=8∨k=9∨k=10∨k=11∨k=12:=by omega
     all_goals first|rfl|omega
   ·rw [if_neg e1,if_neg e2,if_neg (by have:¬j < i*13+13:=e2;omega)]
 rw [hset] at hr
 exact h.put hi (show NodR w D (nodC (noE x) (.slice A a b) (.slice none 0 0)) (noE x) from ⟨A,a,b,none,0,0,rfl,h2,h3,Nat.le_refl _,RdE.none_ _ _ _ _⟩) hcur hr hg
set_option maxRecDepth 100000 in
set_option maxHeartbeats 16000000 in
theorem law_IndexNone {g:GeoQ} {AU AL:Option Addr} {nU cU nL cL:Nat} {up:List NodV} {ls:List (List NodV)} {sl ino:Int} {nm:List UInt8} (w:World) (hu:RdE nodEn w (Under w.heap.size) AU nU up) (h:RdE layEn w (Under w.heap.size) AL nL ls) (hfu:FineN up) (hfl:∀ns∈ls,FineN ns) (hw:HanW w) :
  Calls Tryd.prog 3 #[.agg (stkC g (.slice AU nU cU) (.slice AL nL cL)).toArray,.agg #[.int .i64 sl,.int .i64 ino,.string ⟨nm.toArray⟩]] w (LawOk w):=by
 obtain ⟨W1,hW1⟩:∃W1,((w.alloc (.cells (stkC g (.slice AU nU cU) (.slice AL nL cL)).toArray 29)).alloc (.cells (cellsE ⟨sl,ino,nm⟩).toArray 31))=W1:=⟨_,rfl⟩
 obtain ⟨r0,r1,hb1,hs1⟩:=rowA2 w _ _ _ _ hW1
 have hW1':((w.alloc (.cells #[.int .i64 g.a,.int .i64 g.b,.int .i64 g.c,.int .i64 g.d,.slice AU nU cU,.slice AL nL cL] 29)).alloc (.cells #[.int .i64 sl,.int .i64 ino,.string ⟨nm.toArray⟩] 31))=W1:=hW1
 have R2:=hide r0
 have R3:=hide r1
 have HB:=hide hb1
 have hsz0:=hb1.size
 have HU:=hide (hu.under hb1 (Nat.le_refl _))
 have HL:=hide (h.under hb1 (Nat.le_refl _))
 have HFN:=hide hfu
 have HFL:=hide hfl
 have HW:=hide (hw.below hb1)
 have HW0:=hide hw
 have q3_2:W1.cell? ⟨w.heap.size+1,2,none⟩=some (.string ⟨nm.toArray⟩):=R3.out.cell 2
 have q2_4:W1.cell? ⟨w.heap.size,4,none⟩=some (.slice AU nU cU):=R2.out.cell 4
 have q3_1:W1.cell? ⟨w.heap.size+1,1,none⟩=some (.int .i64 ino):=R3.out.cell 1
 have q2_0:W1.cell? ⟨w.heap.size,0,none⟩=some (.int .i64 g.a):=R2.out.cell 0
 have q2_1:W1.cell? ⟨w.heap.size,1,none⟩=some (.int .i64 g.b):=R2.out.cell 1
 have q2_2:W1.cell? ⟨w.heap.size,2,none⟩=some (.int .i64 g.c):=R2.out.cell 2
 have q2_3:W1.cell? ⟨w.heap.size,3,none⟩=some (.int .i64 g.d):=R2.out.cell 3
 have q2_5:W1.cell? ⟨w.heap.size,5,none⟩=some (.slice AL nL cL):=R2.out.cell 5
 unfold stkC
 clear r0 r1 hb1 hW1 hu h hfu hfl hw
 go_enter Tryd.func3,Tryd.ntmps3
 go_wp2_with (first|(refine wpList_loadW rfl 29 (.tmp 2) rfl 6 stk_agg stk_size (w.heap.size) 29 rfl (stkC g (.slice AU nU cU) (.slice AL nL cL)) R2.out rfl ?_))
 clear hW1'
 refine (PStackM_any (by omega) W1 (und_up HU.out (by omega)) (und_up HL.out (by omega)) HFN.out HFL.out).mono ?_
 rintro ee w2 ⟨p,rfl,hb2,hq⟩
 have HQ:=hide hq
 clear q3_2 q2_4 q3_1 q2_0 q2_1 q2_2 q2_3 q2_5
 replace HB:=hide (HB.out.trans (hb2.mono HB.out.size))
 replace R2:=hide (R2.out.on hb2)
 replace R3:=hide (R3.out.on hb2)
 replace HU:=hide (HU.out.under hb2 (by omega))
 replace HL:=hide (HL.out.under hb2 (by omega))
 replace HW:=hide (HW.out.below hb2)
 have hsz1:=hb2.size
 have q3_2:w2.cell? ⟨w.heap.size+1,2,none⟩=some (.string ⟨nm.toArray⟩):=R3.out.cell 2
 have q2_4:w2.cell? ⟨w.heap.size,4,none⟩=some (.slice AU nU cU):=R2.out.cell 4
 have q3_1:w2.cell? ⟨w.heap.size+1,1,none⟩=some (.int .i64 ino):=R3.out.cell 1
 have q2_0:w2.cell? ⟨w.heap.size,0,none⟩=some (.int .i64 g.a):=R2.out.cell 0
 have q2_1:w2.cell? ⟨w.heap.size,1,none⟩=some (.int .i64 g.b):=R2.out.cell 1
 have q2_2:w2.cell? ⟨w.heap.size,2,none⟩=some (.int .i64 g.c):=R2.out.cell 2
 have q2_3:w2.cell? ⟨w.heap.size,3,none⟩=some (.int .i64 g.d):=R2.out.cell 3
 have q2_5:w2.cell? ⟨w.heap.size,5,none⟩=some (.slice AL nL cL):=R2.out.cell 5
 clear hq hb2
 cases p with
 | false =>
  go_wp2_with fail
  refine (awake23_any _ HW.out).mono ?_
  rintro e98 wz ⟨rfl,hbz⟩
  have HBZ:=hide (HB.out.trans (hbz.mono (by have:=(HB.out).size;omega)))
  clear hbz
  go_wp2_with fail
  go_ret
  exact LawOk.of HBZ.out
 | true =>
  obtain ⟨hF,hfew⟩:=HQ.out (by first|rfl|trivial)
  have hup:FewU up:=⟨by have h1:=hfew.1;omega,hfew.2⟩
  have HF:=hide hF
  have HFU:=hide hup
  clear hF hfew hup HQ HFN HFL
  by_cases hk1:(40:Int) < (nm.length:Int)
  ·have dk1:decide ((40:Int) < (nm.length:Int))=true:=decide_eq_true hk1
   go_wp2_with fail
   refine (awake23_any _ HW.out).mono ?_
   rintro e98 wz ⟨rfl,hbz⟩
   have HBZ:=hide (HB.out.trans (hbz.mono (by have:=(HB.out).size;omega)))
   clear hbz
   go_wp2_with fail
   go_ret
   exact LawOk.of HBZ.out
  have dk1:decide ((40:Int) < (nm.length:Int))=false:=decide_eq_false hk1
  have HNL:=hide (show nm.length≤1000 from by omega)
  by_cases hk2:(nU:Int) < 3
  ·have dk2:decide ((nU:Int) < 3)=true:=decide_eq_true hk2
   go_wp2_with fail
   refine (awake23_any _ HW.out).mono ?_
   rintro e98 wz ⟨rfl,hbz⟩
   have HBZ:=hide (HB.out.trans (hbz.mono (by have:=(HB.out).size;omega)))
   clear hbz
   go_wp2_with fail
   go_ret
   exact LawOk.of HBZ.out
  have dk2:decide ((nU:Int) < 3)=false:=decide_eq_false hk2
  have hn3:3≤nU:=by omega
  obtain ⟨rs,hrs⟩:∃rs,reachL up (walkW up [1]).1=rs:=⟨_,rfl⟩
  have HRS:=hide hrs
  obtain ⟨b,hb⟩:∃b,badX up ls rs ⟨sl,ino,nm⟩=b:=⟨_,rfl⟩
  have HBD:=hide hb
  have hul:up.length=nU:=HU.out.1
  have hn24:nU≤24:=by have:=HFU.out.1;omega
  clear hrs hb hk1 hk2
  obtain ⟨bU,oU,rfl⟩:=rde_some HU.out (by omega)
  go_upto_region 3 with fail
  go_cut [51] from 21 to 51 (fun v51 wx=>v51=.bool false∧Below w2.heap.size w2 wx)
  case first =>
   cases b with
   | true =>
    go_wp2_with (first|(refine wpList_loadW rfl 29 (.tmp 2) rfl 6 stk_agg stk_size (w.heap.size) 29 rfl (stkC g (.slice (some ⟨bU,oU,none⟩) nU cU) (.slice AL nL cL)) R2.out rfl ?_)|(refine wpList_loadW rfl 31 (.tmp 3) rfl 3 ixe_agg ixe_size (w.heap.size+1) 31 rfl (cellsE ⟨sl,ino,nm⟩) R3.out rfl ?_))
    go_at_call 6
    refine (XBadS_any (g:=g) HRS.out HBD.out w2 HU.out HL.out (by omega) HF.out HFU.out HNL.out HW.out).mono ?_
    rintro e2 w3 ⟨rfl,hbel⟩
    clear q3_2 q2_4 q3_1 q2_0 q2_1 q2_2 q2_3 q2_5
    replace HB:=hide (HB.out.trans (hbel.mono HB.out.size))
    replace R2:=hide (R2.out.on hbel)
    replace R3:=hide (R3.out.on hbel)
    replace HU:=hide (HU.out.under hbel (by omega))
    replace HL:=hide (HL.out.under hbel (by omega))
    replace HW:=hide (HW.out.below hbel)
    have hsz3:=hbel.size
    have q3_2:w3.cell? ⟨w.heap.size+1,2,none⟩=some (.string ⟨nm.toArray⟩):=R3.out.cell 2
    have q2_4:w3.cell? ⟨w.heap.size,4,none⟩=some (.slice (some ⟨bU,oU,none⟩) nU cU):=R2.out.cell 4
    have q3_1:w3.cell? ⟨w.heap.size+1,1,none⟩=some (.int .i64 ino):=R3.out.cell 1
    have q2_0:w3.cell? ⟨w.heap.size,0,none⟩=some (.int .i64 g.a):=R2.out.cell 0
    have q2_1:w3.cell? ⟨w.heap.size,1,none⟩=some (.int .i64 g.b):=R2.out.cell 1
    have q2_2:w3.cell? ⟨w.heap.size,2,none⟩=some (.int .i64 g.c):=R2.out.cell 2
    have q2_3:w3.cell? ⟨w.heap.size,3,none⟩=some (.int .i64 g.d):=R2.out.cell 3
    have q2_5:w3.cell? ⟨w.heap.size,5,none⟩=some (.slice AL nL cL):=R2.out.cell 5
    have HB3:=hide hbel
    clear hbel
    go_wp2_with fail
    go_meet
    case rel=>exact ⟨rfl,HB3.out⟩
   | false =>
    have hnot:=badX_not HBD.out
    obtain ⟨j,rfl⟩:∃j:Nat,ino=(j:Int)+1:=⟨(ino - 1).toNat,by have:=hnot.1.1;show ino=_;have h9:(1:Int)≤ino:=this;omega⟩
    have hj:j < up.length:=by have h9:(j:Int)+1≤(up.length:Int):=hnot.1.2;omega
    obtain ⟨x,hx⟩:∃x,up[j]?=some x:=⟨_,List.getElem?_eq_getElem hj⟩
    have hxk:1 < x.k:=by have h9:=hnot.2;rw [show (⟨sl,(j:Int)+1,nm⟩:EntV).ino=(j:Int)+1 from rfl,nodAt_get hx] at h9;exact h9
    have hlt1:¬(j:Int)+1 < 1:=by omega
    have hgt1:¬(nU:Int) < (j:Int)+1:=by omega
    have hjn:(j:Int) < (nU:Int):=by omega
    have hle1:¬x.k≤1:=by omega
    have hw1:IntKind.i64.wrap ((j:Int)+1 - 1)=(j:Int):=by rw [show (j:Int)+1 - 1=(j:Int) from by omega];exact IntWalk.i64_in _ (by omega)
    have HNC:=hide (nod_cells HU.out hx)
    clear hnot hx hxk
    go_wp2_with (first|(refine wpList_loadW rfl 29 (.tmp 2) rfl 6 stk_agg stk_size (w.heap.size) 29 rfl (stkC g (.slice (some ⟨bU,oU,none⟩) nU cU) (.slice AL nL cL)) R2.out rfl ?_)|(refine wpList_loadW rfl 31 (.tmp 3) rfl 3 ixe_agg ixe_size (w.heap.size+1) 31 rfl (cellsE ⟨sl,(j:Int)+1,nm⟩) R3.out rfl ?_))
    go_at_call 6
    refine (XBadS_any (g:=g) HRS.out HBD.out w2 HU.out HL.out (by omega) HF.out HFU.out HNL.out HW.out).mono ?_
    rintro e2 w3 ⟨rfl,hbel⟩
    clear q3_2 q2_4 q3_1 q2_0 q2_1 q2_2 q2_3 q2_5
    replace HB:=hide (HB.out.trans (hbel.mono HB.out.size))
    replace R2:=hide (R2.out.on hbel)
    replace R3:=hide (R3.out.on hbel)
    replace HU:=hide (HU.out.under hbel (by omega))
    replace HL:=hide (HL.out.under hbel (by omega))
    replace HW:=hide (HW.out.below hbel)
    have hsz3:=hbel.size
    have q3_2:w3.cell? ⟨w.heap.size+1,2,none⟩=some (.string ⟨nm.toArray⟩):=R3.out.cell 2
    have q2_4:w3.cell? ⟨w.heap.size,4,none⟩=some (.slice (some ⟨bU,oU,none⟩) nU cU):=R2.out.cell 4
    have q3_1:w3.cell? ⟨w.heap.size+1,1,none⟩=some (.int .i64 ((j:Int)+1)):=R3.out.cell 1
    have q2_0:w3.cell? ⟨w.heap.size,0,none⟩=some (.int .i64 g.a):=R2.out.cell 0
    have q2_1:w3.cell? ⟨w.heap.size,1,none⟩=some (.int .i64 g.b):=R2.out.cell 1
    have q2_2:w3.cell? ⟨w.heap.size,2,none⟩=some (.int .i64 g.c):=R2.out.cell 2
    have q2_3:w3.cell? ⟨w.heap.size,3,none⟩=some (.int .i64 g.d):=R2.out.cell 3
    have q2_5:w3.cell? ⟨w.heap.size,5,none⟩=some (.slice AL nL cL):=R2.out.cell 5
    have HB3:=hide hbel
    obtain ⟨bN,oN,A0,n0,k0,C0,m0,d0,hE,hD,hC⟩:=HNC.out
    cases hE
    have qn:w3.cell? ⟨bU,oU+j*13,none⟩=some (.int .i64 x.k):=(hbel.cell (p:=⟨bU,oU+j*13,none⟩) (by have h9:bU < w.heap.size:=hD;show bU < _;omega)).trans (hC 0 _ rfl)
    clear hD hC
    clear hbel
    go_wp2_with fail
    go_meet
    case rel=>exact ⟨by rw [show (decide ((j:Int)+1 < 1))=false from decide_eq_false (by omega),show (decide ((nU:Int) < (j:Int)+1))=false from decide_eq_false (by omega),show (decide (x.k≤1))=false from decide_eq_false (by omega)];rfl,HB3.out⟩
  case rest =>
  obtain ⟨rfl,hbc⟩:=hcut
  clear q3_2 q2_4 q3_1 q2_0 q2_1 q2_2 q2_3 q2_5
  replace HB:=hide (HB.out.trans (hbc.mono HB.out.size))
  replace R2:=hide (R2.out.on hbc)
  replace R3:=hide (R3.out.on hbc)
  replace HU:=hide (HU.out.under hbc (by omega))
  replace HL:=hide (HL.out.under hbc (by omega))
  replace HW:=hide (HW.out.below hbc)
  have hsz71:=hbc.size
  have q3_2:wc.cell? ⟨w.heap.size+1,2,none⟩=some (.string ⟨nm.toArray⟩):=R3.out.cell 2
  have q2_4:wc.cell? ⟨w.heap.size,4,none⟩=some (.slice (some ⟨bU,oU,none⟩) nU cU):=R2.out.cell 4
  have q3_1:wc.cell? ⟨w.heap.size+1,1,none⟩=some (.int .i64 ino):=R3.out.cell 1
  have q2_0:wc.cell? ⟨w.heap.size,0,none⟩=some (.int .i64 g.a):=R2.out.cell 0
  have q2_1:wc.cell? ⟨w.heap.size,1,none⟩=some (.int .i64 g.b):=R2.out.cell 1
  have q2_2:wc.cell? ⟨w.heap.size,2,none⟩=some (.int .i64 g.c):=R2.out.cell 2
  have q2_3:wc.cell? ⟨w.heap.size,3,none⟩=some (.int .i64 g.d):=R2.out.cell 3
  have q2_5:wc.cell? ⟨w.heap.size,5,none⟩=some (.slice AL nL cL):=R2.out.cell 5
  clear hbc
  go_wp2_with fail
  go_upto_region 5 with fail
  go_upto_region 6 with (first|(go_at_call 7;refine (CloneNod_d (B:=w.heap.size) wc HU.out (by omega) (by omega)).mono ?_;rintro e81 wC ⟨A8,c8,rfl,h8,hbel⟩;clear q3_2 q2_4 q3_1 q2_0 q2_1 q2_2 q2_3 q2_5;replace HB:=hide (HB.out.trans (hbel.mono HB.out.size));replace R2:=hide (R2.out.on hbel);replace R3:=hide (R3.out.on hbel);replace HU:=hide (HU.out.under hbel (by omega));replace HL:=hide (HL.out.under hbel (by omega));replace HW:=hide (HW.out.below hbel);have hsz82:=hbel.size;have q3_2:wC.cell? ⟨w.heap.size+1,2,none⟩=some (.string ⟨nm.toArray⟩):=R3.out.cell 2;have q2_4:wC.cell? ⟨w.heap.size,4,none⟩=some (.slice (some ⟨bU,oU,none⟩) nU cU):=R2.out.cell 4;have q3_1:wC.cell? ⟨w.heap.size+1,1,none⟩=some (.int .i64 ino):=R3.out.cell 1;have q2_0:wC.cell? ⟨w.heap.size,0,none⟩=some (.int .i64 g.a):=R2.out.cell 0;have q2_1:wC.cell? ⟨w.heap.size,1,none⟩=some (.int .i64 g.b):=R2.out.cell 1;have q2_2:wC.cell? ⟨w.heap.size,2,none⟩=some (.int .i64 g.c):=R2.out.cell 2;have q2_3:wC.cell? ⟨w.heap.size,3,none⟩=some (.int .i64 g.d):=R2.out.cell 3;have q2_5:wC.cell? ⟨w.heap.size,5,none⟩=some (.slice AL nL cL):=R2.out.cell 5;have H8:=hide h8;clear h8;clear hbel)|(refine wpList_storeV rfl 24 (.tmp 57) (.tmp 55) rfl nodsX_size (w.heap.size) 4 29 rfl (.slice A8 nU c8) rfl rfl rfl (stkC g (.slice (some ⟨bU,oU,none⟩) nU cU) (.slice AL nL cL)) R2.out (by show 4 < 6;omega) ?_;intro wS83 hr83 hg83 hs83;replace hr83:RowL wS83 (w.heap.size) 29 [.int .i64 g.a,.int .i64 g.b,.int .i64 g.c,.int .i64 g.d,.slice A8 nU c8,.slice AL nL cL]:=hr83;clear q3_2 q2_4 q3_1 q2_0 q2_1 q2_2 q2_3 q2_5;replace HB:=hide (HB.out.grown hg83 (by omega) (pu4 (by omega)));replace R3:=hide (R3.out.grown hg83 (pu5 (by omega)));replace HU:=hide (und_grown HU.out hg83 (by omega) (by omega));replace HL:=hide (und_grown HL.out hg83 (by omega) (by omega));replace HW:=hide (HW0.out.below HB.out);replace H8:=hide (H8.out.grown hg83 (fun k hk=>by have:=Option.some.inj hk;subst this;exact ⟨by unfold Under;omega,fun a ha=>by have:=H8.out.base8 a ha;omega⟩));have hsz84:=hg83.size;replace R2:=hide hr83;have q3_2:wS83.cell? ⟨w.heap.size+1,2,none⟩=some (.string ⟨nm.toArray⟩):=R3.out.cell 2;have q2_4:wS83.cell? ⟨w.heap.size,4,none⟩=some (.slice A8 nU c8):=R2.out.cell 4;have q3_1:wS83.cell? ⟨w.heap.size+1,1,none⟩=some (.int .i64 ino):=R3.out.cell 1;have q2_0:wS83.cell? ⟨w.heap.size,0,none⟩=some (.int .i64 g.a):=R2.out.cell 0;have q2_1:wS83.cell? ⟨w.heap.size,1,none⟩=some (.int .i64 g.b):=R2.out.cell 1;have q2_2:wS83.cell? ⟨w.heap.size,2,none⟩=some (.int .i64 g.c):=R2.out.cell 2;have q2_3:wS83.cell? ⟨w.heap.size,3,none⟩=some (.int .i64 g.d):=R2.out.cell 3;have q2_5:wS83.cell? ⟨w.heap.size,5,none⟩=some (.slice AL nL cL):=R2.out.cell 5;clear hr83 hg83 hs83))
  obtain ⟨g8,rfl,hg8,hg8l⟩:=H8.out.some_ (by omega)
  obtain ⟨x1,hx1⟩:∃x,up[1]?=some x:=⟨_,List.getElem?_eq_getElem (by omega)⟩
  obtain ⟨x2,hx2⟩:∃x,up[2]?=some x:=⟨_,List.getElem?_eq_getElem (by omega)⟩
  obtain ⟨cur,cs1,hcur,hR1,htk1,hlen1⟩:=H8.out.at hx1
  obtain ⟨cur2,cs2,hcur2,hR2,htk2,hlen2⟩:=H8.out.at hx2
  have ecur:cur=cur2:=by
   have:=hcur.symm.trans hcur2
   injection this with this
   injection this with this
   exact List.toArray_inj this
  subst ecur
  have hlen39:39≤cur.length:=by have h9:2*13+13≤cur.length:=hlen2;omega
  have HCUR:=hide hcur
  have HX1:=hide hx1
  have HX2:=hide hx2
  have h1n:(1:Int) < (nU:Int):=by omega
  have h2n:(2:Int) < (nU:Int):=by omega
  have h1m:1 < nU:=by omega
  have h2m:2 < nU:=by omega
  clear hcur hcur2 hR1 hR2 htk1 htk2 hlen1 hlen2 hx1 hx2 q3_2 q2_4 q3_1 q2_0 q2_1 q2_2 q2_3 q2_5
  (try simp only [Act.put])
  refine wp_region_planP (fun w'=>w'.cell? ⟨w.heap.size,4,none⟩=some (.slice (some ⟨g8,0,none⟩) nU c8)) [(0,true),(1,true),(2,true),(3,true),(4,true),(5,true),(6,true),(7,true),(8,false),(9,true),(10,true)] 11 (by kernel_rfl) (by kernel_rfl) (by kernel_rfl) (by kernel_rfl) (by kernel_rfl) rfl (fun _ _ _ _ _ h=>h) (R2.out.cell 4) (fun hHeld=>?_)
  simp only [planOps,List.filterMap_cons,List.filterMap_nil,List.getElem?_toArray,List.getElem?_cons_succ,List.getElem?_cons_zero,Option.map_some]
  iterate 2
   refine wpPlan_take (v:=?_) (by kernel_rfl) (fun wS hSw=>?_) ?_
   rotate_left
   ·(try dsimp only at hSw);go_simp;(try with_reducible rfl)
   (try simp only [Act.put,pu1,pu2,pu3])
  refine wpPlan_take (v:=?_) (by kernel_rfl) (fun wS hSw=>?_) ?_
  rotate_left
  ·have qx:=hSw;go_simp;(try with_reducible rfl)
  (try simp only [Act.put,pu1,pu2,pu3])
  iterate 2
   refine wpPlan_take (v:=?_) (by kernel_rfl) (fun wS hSw=>?_) ?_
   rotate_left
   ·(try dsimp only at hSw);go_simp;(try with_reducible rfl)
   (try simp only [Act.put,pu1,pu2,pu3])
  refine wpPlan_take (v:=?_) (by kernel_rfl) (fun wS hSw=>?_) ?_
  rotate_left
  ·have qx:=hSw;go_simp;(try with_reducible rfl)
  (try simp only [Act.put,pu1,pu2,pu3])
  iterate 2
   refine wpPlan_take (v:=?_) (by kernel_rfl) (fun wS hSw=>?_) ?_
   rotate_left
   ·(try dsimp only at hSw);go_simp;(try with_reducible rfl)
   (try simp only [Act.put,pu1,pu2,pu3])
  refine wpPlan_call (by kernel_rfl) (fun K hK=>?_)
  have hOld:=hide hHeld
  clear hHeld
  have hdr:Below wS83.heap.size wS83 wS83.drew:=below_drew (below_self wS83)
  replace R2:=hide (R2.out.on hdr)
  replace R3:=hide (R3.out.on hdr)
  replace HB:=hide (HB.out.trans (hdr.mono (by omega)))
  replace HL:=hide (HL.out.under hdr (by omega))
  replace H8:=hide (H8.out.grown (grown_below hdr) (by simp))
  replace HCUR:=hide (HCUR.out.on hdr)
  have hszd:=hdr.size
  generalize wS83.drew=wd at *
  refine wp_storeX 36 (.tmp 65) (.const (.slice none 0 0)) rfl ens_size g8 18 42 rfl (.slice none 0 0) rfl rfl rfl cur HCUR.out (by omega) ?_
  intro w7 hr7 hg7 hs7
  refine hK.out _ _ ((R2.out.grown hg7 (pu5 (by omega))).cell 4) (fun hHeld=>?_)
  clear hK K
  have HCUR7:=hide hr7
  have HO7:=hide (noE_put (i:=1) H8.out HX1.out HCUR.out hr7 hg7)
  have R27:=hide (R2.out.grown hg7 (pu5 (by omega)))
  have R37:=hide (R3.out.grown hg7 (pu5 (by omega)))
  have HB7:=hide (HB.out.grown hg7 (by omega) (pu4 (by omega)))
  have HL7:=hide (und_grown HL.out hg7 (by omega) (by omega))
  have hs7l:=hg7.size
  clear hr7 hg7 hs7
  simp only [Act.put]
  iterate 2
   refine wpPlan_take (v:=?_) (by kernel_rfl) (fun wS hSw=>?_) ?_
   rotate_left
   ·(try dsimp only at hSw);go_simp;(try with_reducible rfl)
   (try simp only [Act.put,pu1,pu2,pu3])
  refine wpPlan_end ?_
  refine postL_go rfl (by kernel_rfl) ?_
  refine wp_storeX 36 (.tmp 67) (.const (.slice none 0 0)) rfl ens_size g8 31 42 rfl (.slice none 0 0) rfl rfl rfl (cur.set 18 (.slice none 0 0)) HCUR7.out (by rw [List.length_set];omega) ?_
  intro w9 hr9 hg9 hs9
  have HX2':=hide (show (up.set 1 (noE x1))[2]?=some x2 from by rw [List.getElem?_set_ne (by omega)];exact HX2.out)
  have HO9:=hide (noE_put (i:=2) HO7.out HX2'.out HCUR7.out hr9 hg9)
  have R29:=hide (R27.out.grown hg9 (pu5 (by omega)))
  have R39:=hide (R37.out.grown hg9 (pu5 (by omega)))
  have HB9:=hide (HB7.out.grown hg9 (by omega) (pu4 (by omega)))
  have HL9:=hide (und_up (und_grown HL7.out hg9 (by omega) (by omega)) (by have:=hg9.size;omega))
  have HW9:=hide (HW0.out.below HB9.out)
  have hs9l:=hg9.size
  clear hr9 hg9 hs9 hHeld
  obtain ⟨u9,hu9⟩:∃u9,(up.set 1 (noE x1)).set 2 (noE x2)=u9:=⟨_,rfl⟩
  have HU9:=hide (show RdE nodEn w9 (Under w9.heap.size) (some ⟨g8,0,none⟩) nU u9 from by rw [←hu9];exact HO9.out.rd)
  have HF9:=hide (show FewU u9 from by rw [←hu9];exact noE_few (noE_few HFU.out HX1.out) HX2'.out)
  have HE3:=hide (show entB u9 3=[] from by rw [←hu9];exact noE_nil (k:=2) HX2'.out)
  have HE2:=hide (show entB u9 2=[] from by rw [←hu9];exact noE_keeps (j:=1) (k:=2) (by omega) (noE_nil (k:=1) HX1.out))
  obtain ⟨r9,hr9⟩:∃r9,reachL u9 (walkW u9 [1]).1=r9:=⟨_,rfl⟩
  have HR9:=hide hr9
  clear hu9 hr9 HO9 HO7 HCUR HCUR7 HX1 HX2 HX2' H8 R2 R27 R3 R37 HB HB7 HL HL7 HU
  have q3_2:w9.cell? ⟨w.heap.size+1,2,none⟩=some (.string ⟨nm.toArray⟩):=R39.out.cell 2
  have q2_4:w9.cell? ⟨w.heap.size,4,none⟩=some (.slice (some ⟨g8,0,none⟩) nU c8):=R29.out.cell 4
  have q3_1:w9.cell? ⟨w.heap.size+1,1,none⟩=some (.int .i64 ino):=R39.out.cell 1
  have q2_0:w9.cell? ⟨w.heap.size,0,none⟩=some (.int .i64 g.a):=R29.out.cell 0
  have q2_1:w9.cell? ⟨w.heap.size,1,none⟩=some (.int .i64 g.b):=R29.out.cell 1
  have q2_2:w9.cell? ⟨w.heap.size,2,none⟩=some (.int .i64 g.c):=R29.out.cell 2
  have q2_3:w9.cell? ⟨w.heap.size,3,none⟩=some (.int .i64 g.d):=R29.out.cell 3
  have q2_5:w9.cell? ⟨w.heap.size,5,none⟩=some (.slice AL nL cL):=R29.out.cell 5
  go_wp2_with (first|(refine wpList_loadW rfl 29 (.tmp 2) rfl 6 stk_agg stk_size (w.heap.size) 29 rfl (stkC g (.slice (some ⟨g8,0,none⟩) nU c8) (.slice AL nL cL)) R29.out rfl ?_))
  go_at_call 8
  refine (XFinds_p (g:=g) (n:=0) HR9.out (findX_nil HE2.out HE3.out) rfl w9 HU9.out HL9.out (by omega) HF.out HF9.out HW9.out).mono ?_
  rintro e121 wF ⟨A9,c9,rfl,h9,hbel⟩
  clear h9
  clear q3_2 q2_4 q3_1 q2_0 q2_1 q2_2 q2_3 q2_5
  replace HB9:=hide (HB9.out.trans (hbel.mono HB9.out.size))
  replace R29:=hide (R29.out.on hbel)
  replace R39:=hide (R39.out.on hbel)
  replace HU9:=hide (HU9.out.under hbel (by omega))
  replace HL9:=hide (HL9.out.under hbel (by omega))
  replace HW9:=hide (HW9.out.below hbel)
  have hsz122:=hbel.size
  have q3_2:wF.cell? ⟨w.heap.size+1,2,none⟩=some (.string ⟨nm.toArray⟩):=R39.out.cell 2
  have q2_4:wF.cell? ⟨w.heap.size,4,none⟩=some (.slice (some ⟨g8,0,none⟩) nU c8):=R29.out.cell 4
  have q3_1:wF.cell? ⟨w.heap.size+1,1,none⟩=some (.int .i64 ino):=R39.out.cell 1
  have q2_0:wF.cell? ⟨w.heap.size,0,none⟩=some (.int .i64 g.a):=R29.out.cell 0
  have q2_1:wF.cell? ⟨w.heap.size,1,none⟩=some (.int .i64 g.b):=R29.out.cell 1
  have q2_2:wF.cell? ⟨w.heap.size,2,none⟩=some (.int .i64 g.c):=R29.out.cell 2
  have q2_3:wF.cell? ⟨w.heap.size,3,none⟩=some (.int .i64 g.d):=R29.out.cell 3
  have q2_5:wF.cell? ⟨w.heap.size,5,none⟩=some (.slice AL nL cL):=R29.out.cell 5
  clear hbel
  go_wp2_with fail
  go_at_call 9
  refine (XIn_any (g:=g) HR9.out (inX_nil HE3.out) wF HU9.out HL9.out (by omega) HF.out HF9.out HW9.out).mono ?_
  rintro e123 wI ⟨rfl,hbel⟩
  clear q3_2 q2_4 q3_1 q2_0 q2_1 q2_2 q2_3 q2_5
  replace HB9:=hide (HB9.out.trans (hbel.mono HB9.out.size))
  replace R29:=hide (R29.out.on hbel)
  replace R39:=hide (R39.out.on hbel)
  replace HU9:=hide (HU9.out.under hbel (by omega))
  replace HL9:=hide (HL9.out.under hbel (by omega))
  replace HW9:=hide (HW9.out.below hbel)
  have hsz124:=hbel.size
  have q3_2:wI.cell? ⟨w.heap.size+1,2,none⟩=some (.string ⟨nm.toArray⟩):=R39.out.cell 2
  have q2_4:wI.cell? ⟨w.heap.size,4,none⟩=some (.slice (some ⟨g8,0,none⟩) nU c8):=R29.out.cell 4
  have q3_1:wI.cell? ⟨w.heap.size+1,1,none⟩=some (.int .i64 ino):=R39.out.cell 1
  have q2_0:wI.cell? ⟨w.heap.size,0,none⟩=some (.int .i64 g.a):=R29.out.cell 0
  have q2_1:wI.cell? ⟨w.heap.size,1,none⟩=some (.int .i64 g.b):=R29.out.cell 1
  have q2_2:wI.cell? ⟨w.heap.size,2,none⟩=some (.int .i64 g.c):=R29.out.cell 2
  have q2_3:wI.cell? ⟨w.heap.size,3,none⟩=some (.int .i64 g.d):=R29.out.cell 3
  have q2_5:wI.cell? ⟨w.heap.size,5,none⟩=some (.slice AL nL cL):=R29.out.cell 5
  clear hbel
  go_wp2_with (go_at_call 5;refine (awake23_any _ HW9.out).mono ?_;rintro e98 wz ⟨rfl,hbz⟩;have HBZ:=hide (HB9.out.trans (hbz.mono HB9.out.size));clear hbz)
  go_ret
  exact LawOk.of HBZ.out
end Go.Proofs.YtpndfahgflgocaaDoor

