import Derived.Test.YtmhiohnkjpglfaaIs35
import Derived.Test.YtmhiohnkjpglfaaIs37

namespace Go.Proofs.Ytmhiohnkjpglfaa
open Go.RowKit Go.Shelf Plain

theorem wp_storeVi {P : Program} {w : World} {o : Oper} {a : Act} {K : Act → World → Prop} {Q : Exit → Act → World → Prop} (T : Nat) (x y : Operand) (ho : o.op = .store T x y)
  (hsz:∀w,(sizeOf T).run P w=.ok 1 w) (g off t:Nat) (hx:a.eval x=.pointer (some ⟨g,off,none⟩)) (v:Value) (hy:a.eval y=v) (hv:v.cells=#[v]) (h1:v.oneCell'=true) (cur:List Value) (h:RowL w g t cur) (hfit:off < cur.length)
  (hK:∀w',RowL w' g t (cur.set off v)→w.grownBy w' (some g)→w'.heap.size=w.heap.size→K (a.put o.dst undef) w'):o.wp P a w K Q:=by
 have hst:=run_storeCells_at P g off t [v] 0 cur.toArray w h (by simp;omega) (by simp [h1])
 simp only [Nat.add_zero] at hst
 have hr:(Instr.storeAt T (.pointer (some ⟨g,off,none⟩)) v).run P w=.ok () (w.setRow g (splice cur off [v]).toArray):=by
  simp [Instr.storeAt,Instr.sureAddr,storeVar,hsz,hv,hst,splice]
 unfold Oper.wp execOp
 simp only [ho,Sem.run_bind,Sem.run_pure,Result.andThen_ok,hx,hy,hr]
 have hrow:=h.setRow_ (splice cur off [v])
 rw [splice_one _ _ _ hfit] at hrow ⊢
 exact hK _ hrow (grownBy_setRow _ _ _) (by simp)
set_option maxRecDepth 100000 in
theorem int_sizeI:∀w,(Go.sizeOf 3).run Try.prog w=.ok 1 w:=fun w=>by kernel_rfl
theorem set_part {L cs:List Value} {p j k:Nat} {v:Value} (h:(L.drop p).take k=cs) (hl:p+k≤L.length) (hj:j < k):L.set (p+j) v=splice L p (cs.set j v):=by
 have hcl:cs.length=k:=by rw [←h,List.length_take,List.length_drop];omega
 have e1:L=L.take p++(cs++L.drop (p+k)):=by
  rw [←h,←List.drop_drop,List.take_append_drop,List.take_append_drop]
 have hp:(L.take p).length=p:=by rw [List.length_take];omega
 have e2:splice L p (cs.set j v)=L.take p++(cs.set j v++L.drop (p+k)):=by
  unfold splice
  rw [List.length_set,hcl]
 rw [e2]
 conv=>lhs;rw [e1]
 rw [List.set_append_right _ _ (by rw [hp];omega),hp,show p+j - p=j from by omega,List.set_append_left _ _ (by omega)]
theorem marked {D:Nat→Prop} {w w':World} {base g n c i:Nat} {l:List NodV} {x:NodV} {cur:List Value} {v:Int} (h:OwD nodEn D w base 46 (some ⟨g,0,none⟩) n c l) (hx:l[i]?=some x) (hcur:RowL w g 46 cur) (hr:RowL w' g 46 (cur.set (i*13+1) (.int .i64 v))) (hg:w.grownBy w' (some g)):OwD nodEn D w' base 46 (some ⟨g,0,none⟩) n c (l.set i {x with p:=v}):=by
 have hi:i < n:=by have h1:=(List.getElem?_eq_some_iff.1 hx).1;have h2:=h.len;omega
 obtain ⟨cur',cs,hr',hR,htk,hlen⟩:=h.at hx
 have ecur:cur'=cur:=by
  have:=hr'.symm.trans hcur
  injection this with this
  injection this with this
  simpa using this
 subst ecur
 obtain ⟨A,a,b,C,d,e,h1,h2,h3,h4,h5⟩:=hR
 have htk':(cur'.drop (i*13)).take 13=cs:=htk
 have hlen':i*13+13≤cur'.length:=hlen
 rw [set_part (j:=1) (v:=.int .i64 v) htk' hlen' (by decide),h1] at hr
 exact h.put hi (show NodR w D (nodC {x with p:=v} (.slice A a b) (.slice C d e)) {x with p:=v} from ⟨A,a,b,C,d,e,rfl,h2,h3,h4,h5⟩) hcur hr hg
set_option maxRecDepth 100000 in
set_option maxHeartbeats 8000000 in
theorem law_ImpureSet {g:GeoQ} {AU AL:Option Addr} {nU cU nL cL:Nat} {up:List NodV} {ls:List (List NodV)} (w:World) (hu:RdE nodEn w (Under w.heap.size) AU nU up) (h:RdE layEn w (Under w.heap.size) AL nL ls) (hfu:FineN up) (hfl:∀ns∈ls,FineN ns) :
  Calls Try.prog 4 #[.agg (stkC g (.slice AU nU cU) (.slice AL nL cL)).toArray] w (LawOk w):=by
 obtain ⟨W1,hW1⟩:∃W1,(w.alloc (.cells (stkC g (.slice AU nU cU) (.slice AL nL cL)).toArray 29))=W1:=⟨_,rfl⟩
 obtain ⟨r0,hb1,hs1⟩:=rowA1 w _ _ hW1
 have hW1':(w.alloc (.cells #[.int .i64 g.a,.int .i64 g.b,.int .i64 g.c,.int .i64 g.d,.slice AU nU cU,.slice AL nL cL] 29))=W1:=hW1
 have R1:=hide r0
 have HB:=hide hb1
 have hsz0:=hb1.size
 have HU:=hide (hu.under hb1 (Nat.le_refl _))
 have HL:=hide (h.under hb1 (Nat.le_refl _))
 have HFN:=hide hfu
 have HFL:=hide hfl
 have q1_4:W1.cell? ⟨w.heap.size,4,none⟩=some (.slice AU nU cU):=R1.out.cell 4
 unfold stkC
 clear r0 hb1 hW1 hu h hfu hfl
 go_enter Try.func4,Try.ntmps4
 go_wp2_with (first|(refine wpList_loadW rfl 29 (.tmp 1) rfl 6 stk_agg stk_size (w.heap.size) 29 rfl (stkC g (.slice AU nU cU) (.slice AL nL cL)) R1.out rfl ?_))
 clear hW1'
 refine (PStack_any W1 (und_up HU.out (by omega)) (und_up HL.out (by omega)) HFN.out HFL.out).mono ?_
 rintro e w2 ⟨p,rfl,hb2,hq⟩
 have HQ:=hide hq
 clear q1_4
 replace HB:=hide (HB.out.trans (hb2.mono HB.out.size))
 replace R1:=hide (R1.out.on hb2)
 replace HU:=hide (HU.out.under hb2 (by omega))
 replace HL:=hide (HL.out.under hb2 (by omega))
 have hsz1:=hb2.size
 have q1_4:w2.cell? ⟨w.heap.size,4,none⟩=some (.slice AU nU cU):=R1.out.cell 4
 clear hq hb2
 cases p
 ·go_wp2_with (go_at_call 6;refine (awake24_any _).mono ?_;rintro e98 wz ⟨rfl,hbz⟩;replace HB:=hide (HB.out.trans (hbz.mono HB.out.size));clear hbz)
  go_ret
  exact LawOk.of HB.out
 obtain ⟨hF,hfew⟩:=HQ.out (by first|rfl|trivial)
 have HFEW:=hide hfew
 have HFU:=hide (show FewU up from ⟨by have:=hfew.1;omega,hfew.2⟩)
 have hul:up.length=nU:=HU.out.1
 have hn24:nU≤24:=by have:=HFU.out.1;omega
 obtain ⟨rs,hrs⟩:∃rs,reachL up (walkW up [1]).1=rs:=⟨_,rfl⟩
 have HRS:=hide hrs
 clear hF hfew HQ HFN HFL hrs
 go_wp2_with (first|(refine wpList_loadW rfl 29 (.tmp 1) rfl 6 stk_agg stk_size (w.heap.size) 29 rfl (stkC g (.slice AU nU cU) (.slice AL nL cL)) R1.out rfl ?_)|(refine wpList_storeW rfl 29 (.tmp 3) (.tmp 9) rfl 6 stk_size (w2.heap.size) 29 rfl (stkC ⟨0,0,0,0⟩ (.slice none 0 0) (.slice none 0 0)) (stkC g (.slice AU nU cU) (.slice AL nL cL)) rfl (RowL.new w2 29 (stkC ⟨0,0,0,0⟩ (.slice none 0 0) (.slice none 0 0))) rfl rfl (stkC_one _ _ _ _ _ _ _) ?_;intro wS2 hr2 hg2 hs2;have hzb:=below_stored' hg2;clear q1_4;replace HB:=hide (HB.out.trans (hzb.mono HB.out.size));replace R1:=hide (R1.out.on hzb);replace HU:=hide (HU.out.under hzb (by omega));replace HL:=hide (HL.out.under hzb (by omega));have hsz3:=hzb.size;have q1_4:wS2.cell? ⟨w.heap.size,4,none⟩=some (.slice AU nU cU):=R1.out.cell 4;have R3:=hide hr2;have hlt2:=hr2.lt;clear hzb hr2;clear hg2 hs2)|(go_at_call 12;refine (CloneNod_d (B:=w.heap.size) wS2 HU.out (by omega) (by have:=HU.out.1;have:=HFEW.out.1;omega)).mono ?_;rintro e4 wC ⟨A8,c8,rfl,h8,hbel⟩;clear q1_4;replace HB:=hide (HB.out.trans (hbel.mono HB.out.size));replace R1:=hide (R1.out.on hbel);replace HU:=hide (HU.out.under hbel (by omega));replace HL:=hide (HL.out.under hbel (by omega));replace R3:=hide (R3.out.on hbel);have hsz5:=hbel.size;have q1_4:wC.cell? ⟨w.heap.size,4,none⟩=some (.slice AU nU cU):=R1.out.cell 4;have H8:=hide h8;clear h8;clear hbel)|(refine wpList_storeV rfl 24 (.tmp 15) (.tmp 13) rfl nods_size (w.heap.size) 4 29 rfl (.slice A8 nU c8) rfl rfl rfl (stkC g (.slice AU nU cU) (.slice AL nL cL)) R1.out (by show 4 < 6;omega) ?_;intro wS6 hr6 hg6 hs6;replace hr6:RowL wS6 (w.heap.size) 29 [.int .i64 g.a,.int .i64 g.b,.int .i64 g.c,.int .i64 g.d,.slice A8 nU c8,.slice AL nL cL]:=hr6;clear q1_4;replace HB:=hide (HB.out.grown hg6 (by omega) (pu4 (by omega)));replace HU:=hide (und_grown HU.out hg6 (by omega) (by omega));replace HL:=hide (und_grown HL.out hg6 (by omega) (by omega));replace R3:=hide (R3.out.grown hg6 (pu5 (by omega)));replace H8:=hide (H8.out.grown hg6 (fun k hk=>by have:=Option.some.inj hk;subst this;exact ⟨by unfold Under;omega,fun a ha=>by have:=H8.out.base8 a ha;omega⟩));have hsz7:=hg6.size;replace R1:=hide hr6;have q1_4:wS6.cell? ⟨w.heap.size,4,none⟩=some (.slice A8 nU c8):=R1.out.cell 4;clear hr6 hg6 hs6))
 have hw2T:w2.heap.size≤wS6.heap.size:=by omega
 have hg3:w2.heap.size < wS2.heap.size:=by omega
 have hg3w:w.heap.size < w2.heap.size:=by omega
 have hx3T:wS2.heap.size≤wS6.heap.size:=by omega
 have hbase:=hide (fun a ha=>H8.out.base8 a ha)
 clear q1_4
 generalize w2.heap.size=g3 at *
 go_loopw [20] (fun v20 wr=>∃i:Nat,i≤nU∧v20=.int .i64 i∧OwD nodEn (Under w.heap.size) wr wS2.heap.size 46 A8 nU c8 (setI up rs i)∧Below wS2.heap.size wS6 wr) (fun v20 _=>nU - (intOf v20).toNat)
 case atStart=>exact ⟨0,by omega,rfl,by rw [setI_zero];exact H8.out,Below.refl _ _⟩
 case round =>
  obtain ⟨i,hi,rfl,ho,hbr⟩:=hrel
  have hbsz:=hbr.size
  have HBQ:=hide hbr
  have HO:=hide ho
  replace R1:=hide (show RowL wr w.heap.size _ _ from (hbr.block _ (by omega)).trans R1.out)
  replace R3:=hide (show RowL wr g3 _ _ from (hbr.block _ (by omega)).trans R3.out)
  replace HU:=hide (und_at HU.out hbr (by omega))
  clear ho hbr
  by_cases hlt:i < nU
  ·obtain ⟨x,hx⟩:∃x,up[i]?=some x:=⟨_,List.getElem?_eq_getElem (by omega)⟩
   have hiu:=setI_at rs hx
   have HCS:=hide (setI_succ rs hx)
   obtain ⟨g8,rfl,hg8,hg8l⟩:=HO.out.some_ (by omega)
   obtain ⟨cur,cs,hcur,hR,htk,hlen⟩:=HO.out.at hiu
   have hlen':i*13+13≤cur.length:=hlen
   have HCUR:=hide hcur
   have HIU:=hide hiu
   obtain ⟨v,hv⟩:∃v,wantI up rs ((i:Int)+1)=v:=⟨_,rfl⟩
   have HV:=hide hv
   have hin:(i:Int) < (nU:Int):=by omega
   have hw1:IntKind.i64.wrap ((i:Int)+1)=(i:Int)+1:=IntWalk.i64_in _ (by omega)
   clear hx hcur hR htk hlen hiu hv
   go_wp2_with fail
   refine wp_region_planP (fun w'=>Below wr.heap.size wr w') [(0,true),(1,true),(2,true),(3,true),(4,true),(5,true),(6,true),(7,false),(8,true),(9,true)] 10 (by kernel_rfl) (by kernel_rfl) (by kernel_rfl) (by kernel_rfl) (by kernel_rfl) rfl (fun _ _ _ _ _ h=>h) (below_drew (below_self wr)) (fun hHeld=>?_)
   simp only [planOps,List.filterMap_cons,List.filterMap_nil,List.getElem?_toArray,List.getElem?_cons_succ,List.getElem?_cons_zero,Option.map_some]
   iterate 2
    refine wpPlan_take (v:=?_) (by kernel_rfl) (fun wS hSw=>?_) ?_
    rotate_left
    ·(try dsimp only at hSw);go_simp;(try with_reducible rfl)
    (try simp only [Act.put,pu1,pu2,pu3])
   refine wpPlan_take (v:=?_) (by kernel_rfl) (fun wS hSw=>?_) ?_
   rotate_left
   ·have qx:wS.cell? ⟨w.heap.size,4,none⟩=some (.slice (some ⟨g8,0,none⟩) nU c8):=(R1.out.on hSw).cell 4;go_simp;(try with_reducible rfl)
   (try simp only [Act.put,pu1,pu2,pu3])
   refine wpPlan_take (v:=?_) (by kernel_rfl) (fun wS hSw=>?_) ?_
   rotate_left
   ·(try dsimp only at hSw);go_simp;(try with_reducible rfl)
   (try simp only [Act.put,pu1,pu2,pu3])
   refine wpPlan_take (v:=?_) (by kernel_rfl) (fun wS hSw=>?_) ?_
   rotate_left
   ·refine execOp_load (x:=.tmp 3) (k:=6) (g:=g3) (off:=0) (cs:=(stkC g (.slice AU nU cU) (.slice AL nL cL))) ?_ stk_agg stk_size ?_ (fun j v hv=>by rw [Nat.zero_add];exact ((R3.out.on hSw).cell j).trans hv) rfl <;> rfl
   (try simp only [Act.put,pu1,pu2,pu3])
   iterate 2
    refine wpPlan_take (v:=?_) (by kernel_rfl) (fun wS hSw=>?_) ?_
    rotate_left
    ·(try dsimp only at hSw);go_simp;(try with_reducible rfl)
    (try simp only [Act.put,pu1,pu2,pu3])
   refine wpPlan_call (by kernel_rfl) (fun K hK=>?_)
   have hOld:=hide hHeld
   clear hHeld
   go_simp
   go_at_call 10
   refine (IWant_any (B:=w.heap.size) HRS.out HV.out _ (HU.out.under hOld.out (by omega)) (by have:=hOld.out.size;omega) HFU.out).mono ?_
   rintro e w' ⟨rfl,hbel⟩
   refine hK.out _ _ (hOld.out.trans (hbel.mono hOld.out.size)) (fun hHeld=>?_)
   clear hK K
   (try simp only [Act.put,pu1,pu2,pu3])
   iterate 2
    refine wpPlan_take (v:=?_) (by kernel_rfl) (fun wS hSw=>?_) ?_
    rotate_left
    ·(try dsimp only at hSw);go_simp;(try with_reducible rfl)
    (try simp only [Act.put,pu1,pu2,pu3])
   refine wpPlan_end ?_
   refine postL_go rfl (by kernel_rfl) ?_
   have hsx:=hHeld.size
   refine wp_storeVi 3 (.tmp 32) (.tmp 30) rfl int_sizeI g8 (i*13+1) 46 rfl (.int .i64 v) rfl rfl rfl cur (HCUR.out.on hHeld) (by omega) ?_
   intro w7 hr7 hg7 hs7
   have HP:=hide (marked (HO.out.grown (grown_below hHeld) (by simp)) HIU.out (HCUR.out.on hHeld) hr7 hg7)
   have HB7:=hide ((HBQ.out.trans (hHeld.mono (by omega))).grown hg7 (by omega) (pu4 (by omega)))
   clear hr7 hg7 hs7 hHeld hsx
   (try simp only [Act.put])
   go_wp2_with fail
   go_roundw
   case rel=>exact ⟨i+1,by omega,by go_num,by rw [HCS.out,HV.out];exact HP.out,HB7.out⟩
   case measure=>simp [intOf];omega
  ·obtain rfl:nU=i:=by omega
   have hnlt:¬((nU:Int) < (nU:Int)):=by omega
   have HRZ:=hide (show findI (setI up rs nU) rs (setI up rs nU).length=[] from by rw [setI_len,←hul];exact set_none up _ (Nat.le_refl _))
   have HUC:=hide (show RdE nodEn wr (Under wr.heap.size) A8 nU (setI up rs nU) from HO.out.rd)
   replace HB:=hide (HB.out.trans (HBQ.out.mono (by have:=HB.out.size;omega)))
   clear HO HBQ
   have q1_4:wr.cell? ⟨w.heap.size,4,none⟩=some (.slice A8 nU c8):=R1.out.cell 4
   go_wp2_with (first|(refine wpList_loadW rfl 29 (.tmp 1) rfl 6 stk_agg stk_size (w.heap.size) 29 rfl (stkC g (.slice A8 nU c8) (.slice AL nL cL)) R1.out rfl ?_)|(go_at_call 8;refine (IFinds_p (g:=g) (n:=0) (up:=setI up rs nU) (rs:=rs) (R:=[]) (by rw [set_reach];exact HRS.out) HRZ.out rfl wr HUC.out (by omega) (setI_plain HFU.out rs nU)).mono ?_;rintro e201 wF ⟨A9,c9,rfl,h9,hbel⟩;clear h9;clear q1_4;replace HB:=hide (HB.out.trans (hbel.mono HB.out.size));replace R1:=hide (R1.out.on hbel);replace HUC:=hide (HUC.out.under hbel (by omega));have hsz202:=hbel.size;have q1_4:wF.cell? ⟨w.heap.size,4,none⟩=some (.slice A8 nU c8):=R1.out.cell 4;clear hbel)|(go_at_call 6;refine (awake24_any _).mono ?_;rintro e98 wz ⟨rfl,hbz⟩;replace HB:=hide (HB.out.trans (hbz.mono HB.out.size));clear hbz))
   go_ret
   exact LawOk.of HB.out
end Go.Proofs.Ytmhiohnkjpglfaa

