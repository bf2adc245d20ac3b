import Derived.Test.YtpndfahgflgocaaGreatDoorLn12
import Derived.Test.YtpndfahgflgocaaGreatDoorLn10
import Derived.Deep.Cut
import Derived.Deep.CutRange

namespace Go.Proofs.YtpndfahgflgocaaGreatDoor
open Go.RowKit Go.Shelf Plain

theorem First_n {A:Option Addr} {n c:Nat} {ns:List NodV} {i:Int} {nm:List UInt8} {B:Nat} {o:Option EntV} {N:NodV} (ho:firstB ns i nm=o) (hN:nodB ns o=N) (w:World) (h:RdE nodEn w (Under B) A n ns) (hB:B≤w.heap.size) (hm:ns.length≤100000) (hel:(entB ns i).length≤16) :
  Calls Tryz.prog 127 #[.agg #[.slice A n c],.int .i64 i,.string ⟨nm.toArray⟩] w (fun e w'=>∃A n c C m d,e=.returned (.tuple #[.agg (cellsE (entO o)).toArray,.agg (nodC N (.slice A n c) (.slice C m d)).toArray])∧n≤c∧RdE Enc.byte w' (Under B) A n N.data∧m≤d∧RdE entEn w' (Under B) C m N.ents∧Below w.heap.size w w'):=by
 subst ho hN
 exact First_any w h hB hm (by omega)
def plcF (la:Int) (o:Option (Int×Int)):Int×Int:=o.getD (la,0)
def nodO (ls:List (List NodV)) (o:Option (Int×Int)):NodV:=match o with
 | none=>nod0
 | some x=>lowAt ls x.1 x.2
def FirstRet (w:World) (B:Nat) (ls:List (List NodV)) (la:Int) (o:Option (Int×Int)) (e:Ending) (w':World):Prop:=∃A n c C m d,e=.returned (.tuple #[.agg (prC (plcF la o)).toArray,.agg (nodC (nodO ls o) (.slice A n c) (.slice C m d)).toArray])∧n≤c∧RdE Enc.byte w' (Under B) A n (nodO ls o).data∧m≤d∧RdE entEn w' (Under B) C m (nodO ls o).ents∧Below w.heap.size w w'
def FirstS (wc:World) (base g8 g9 r2 r3:Nat) (p:Int×Int) (ec nc:List Value) (W:World):Prop:=(RowL W g8 31 ec∧RowL W (base+1) 75 (prC p))∧RowL W g9 51 nc∧(∃cu,RowL W r2 75 cu∧cu.length=2)∧(∃cu,RowL W r3 51 cu∧cu.length=13)∧Below base wc W
theorem FirstS.drew {wc:World} {base g8 g9 r2 r3:Nat} {p:Int×Int} {ec nc:List Value} {W:World} (h:FirstS wc base g8 g9 r2 r3 p ec nc W):FirstS wc base g8 g9 r2 r3 p ec nc W.drew:=⟨h.1,h.2.1,h.2.2.1,h.2.2.2.1,⟨h.2.2.2.2.os,h.2.2.2.2.tape,h.2.2.2.2.output,h.2.2.2.2.size,h.2.2.2.2.block⟩⟩
theorem rows4 (w:World) (c1 c2 c3 c4:List Value) (t1 t2 t3 t4:Nat) {W:World} (hW:(((w.alloc (.cells c1.toArray t1)).alloc (.cells c2.toArray t2)).alloc (.cells c3.toArray t3)).alloc (.cells c4.toArray t4)=W):RowL W w.heap.size t1 c1∧RowL W (w.heap.size+1) t2 c2∧RowL W (w.heap.size+1+1) t3 c3∧RowL W (w.heap.size+1+1+1) t4 c4∧Below w.heap.size w W∧W.heap.size=w.heap.size+4:=by
 subst hW
 obtain ⟨r0,r1,r2,hb,hs⟩:=rows3 w c1 c2 c3 t1 t2 t3
 have hb4:=below_new (below_self (((w.alloc (.cells c1.toArray t1)).alloc (.cells c2.toArray t2)).alloc (.cells c3.toArray t3))) (.cells c4.toArray t4)
 refine ⟨r0.on hb4,r1.on hb4,r2.on hb4,?_,below_step hb hb4,by simp⟩
 have:=RowL.new (((w.alloc (.cells c1.toArray t1)).alloc (.cells c2.toArray t2)).alloc (.cells c3.toArray t3)) t4 c4
 rw [hs] at this
 exact this
set_option maxRecDepth 100000 in
set_option maxHeartbeats 16000000 in
theorem LFirst_any {g:GeoQ} {AU AL:Option Addr} {nU cU nL cL:Nat} {ls:List (List NodV)} {p:Int×Int} {nm:List UInt8} {B:Nat} (w:World) (h:RdE layEn w (Under B) AL nL ls) (hB:B≤w.heap.size) (hm:ls.length≤100) (hm2:∀ns∈ls,ns.length≤1000) (hF:FewL ls) :
  Calls Tryz.prog 168 #[.agg (stkC g (.slice AU nU cU) (.slice AL nL cL)).toArray,.agg (prC p).toArray,.string ⟨nm.toArray⟩] w (FirstRet w B ls p.1 (firstL ls p nm)):=by
 obtain ⟨W4,hW4⟩:∃W4,(((w.alloc (.cells (stkC g (.slice AU nU cU) (.slice AL nL cL)).toArray 29)).alloc (.cells (prC p).toArray 75)).alloc (.cells (prC (0,0)).toArray 75)).alloc (.cells (nodC nod0 (.slice none 0 0) (.slice none 0 0)).toArray 51)=W4:=⟨_,rfl⟩
 obtain ⟨r0,r1,r2,r3,hb4,hs4⟩:=rows4 w _ _ _ _ _ _ _ _ hW4
 have hW4':(((w.alloc (.cells #[.int .i64 g.a,.int .i64 g.b,.int .i64 g.c,.int .i64 g.d,.slice AU nU cU,.slice AL nL cL] 29)).alloc (.cells #[.int .i64 p.1,.int .i64 p.2] 75)).alloc (.cells #[.int .i64 0,.int .i64 0] 75)).alloc (.cells #[.int .i64 0,.int .i64 0,.int .i64 0,.int .i64 0,.slice none 0 0,.slice none 0 0,.int .i64 0,.int .i64 0,.string ⟨#[]⟩,.int .i64 0,.int .i64 0,.int .i64 0,.int .i64 0] 51)=W4:=hW4
 have R0:=hide r0
 have R1:=hide r1
 have R2:=hide r2
 have R3:=hide r3
 have HB4:=hide hb4
 have HL:=hide (h.under hb4 hB)
 have HQ0:=hide (fun W (hb:Below W4.heap.size W4 W)=>show W.cell? ⟨w.heap.size+1,0,none⟩=some (.int .i64 p.1) from (r1.on hb).cell 0)
 have HQ1:=hide (fun W (hb:Below W4.heap.size W4 W)=>show W.cell? ⟨w.heap.size+1,1,none⟩=some (.int .i64 p.2) from (r1.on hb).cell 1)
 have hs4l:w.heap.size+4≤W4.heap.size:=by omega
 have hly:=layL_len hm2 p.1
 have hel:(entB (layL ls p.1) p.2).length≤16:=by rw [ent_lay];exact entL_len hF p
 have hfl:=first_lay ls p nm
 obtain ⟨ly,hLY⟩:∃ly,layL ls p.1=ly:=⟨_,rfl⟩
 obtain ⟨o,hO⟩:∃o,firstB ly p.2 nm=o:=⟨_,rfl⟩
 obtain ⟨N,hN⟩:∃N,nodB ly o=N:=⟨_,rfl⟩
 have hNO:nodO ls (firstL ls p nm)=N:=by
  rw [hfl,←hN,←hO,←hLY,nodB_lay]
  rfl
 have hPL:plcF p.1 (firstL ls p nm)=(p.1,(entO o).ino):=by
  rw [hfl,←hO,←hLY]
  cases firstB (layL ls p.1) p.2 nm <;> rfl
 have HLY:=hide hLY
 have HFO:=hide hO
 have HNO:=hide hN
 have HPL:=hide hPL
 have HNL:=hide hNO
 rw [hLY] at hly hel
 unfold stkC prC
 clear r0 r1 r2 r3 hb4 hW4 h hs4 hF hfl hLY hO hN hNO hPL
 go_enter Tryz.func168,Tryz.ntmps168
 go_upto_region 1 with fail
 clear hW4'
 go_cut [8,9] from 10 to 20 (fun v8 v9 wx=>∃g8 g9 A2 n2 c2 C2 m2 d2,v8=.pointer (some ⟨g8,0,none⟩)∧v9=.pointer (some ⟨g9,0,none⟩)∧RowL wx g8 31 (cellsE (entO o))∧RowL wx g9 51 (nodC N (.slice A2 n2 c2) (.slice C2 m2 d2))∧n2≤c2∧RdE Enc.byte wx (Under B) A2 n2 N.data∧m2≤d2∧RdE entEn wx (Under B) C2 m2 N.ents∧Below W4.heap.size W4 wx∧W4.heap.size≤g8∧W4.heap.size≤g9)
 case first =>
  refine wp_region_G (fun w'=>Below (W4.heap.size) W4 w') (.take 0 (.take 1 (.take 2 (.take 4 (.take 5 (.take 6 (.alt 3 (.alt 7 (.take 8 (.take 9 (.take 10 (.alt 11 (.alt 12 (.alt 13 (.alt 14 .leaf .stop) .stop) .stop) (.alt 12 (.alt 11 (.alt 13 (.alt 14 .leaf .stop) .stop) .stop) .stop))))) (.alt 11 (.alt 7 (.take 8 (.take 9 (.take 10 (.alt 12 (.alt 13 (.alt 14 .leaf .stop) .stop) .stop)))) (.alt 12 (.alt 7 (.take 8 (.take 9 (.take 10 (.alt 13 (.alt 14 .leaf .stop) .stop)))) .stop) .stop)) (.alt 12 (.alt 7 (.take 8 (.take 9 (.take 10 (.alt 11 (.alt 13 (.alt 14 .leaf .stop) .stop) .stop)))) (.alt 11 (.alt 7 (.take 8 (.take 9 (.take 10 (.alt 13 (.alt 14 .leaf .stop) .stop)))) .stop) .stop)) .stop))) (.alt 11 (.alt 3 (.alt 7 (.take 8 (.take 9 (.take 10 (.alt 12 (.alt 13 (.alt 14 .leaf .stop) .stop) .stop)))) (.alt 12 (.alt 7 (.take 8 (.take 9 (.take 10 (.alt 13 (.alt 14 .leaf .stop) .stop)))) .stop) .stop)) (.alt 12 (.alt 3 (.alt 7 (.take 8 (.take 9 (.take 10 (.alt 13 (.alt 14 .leaf .stop) .stop)))) .stop) .stop) .stop)) (.alt 12 (.alt 3 (.alt 7 (.take 8 (.take 9 (.take 10 (.alt 11 (.alt 13 (.alt 14 .leaf .stop) .stop) .stop)))) (.alt 11 (.alt 7 (.take 8 (.take 9 (.take 10 (.alt 13 (.alt 14 .leaf .stop) .stop)))) .stop) .stop)) (.alt 11 (.alt 3 (.alt 7 (.take 8 (.take 9 (.take 10 (.alt 13 (.alt 14 .leaf .stop) .stop)))) .stop) .stop) .stop)) .stop))))))))) (by kernel_rfl) (by kernel_rfl) (by kernel_rfl) (by kernel_rfl) rfl (fun _ _ _ _ _ h=>h) (below_drew (below_self W4)) (fun hHeld=>?_)
  generalize W4.drew=wd at *
  simp only [PT.map,List.getElem?_toArray,List.getElem?_cons_succ,List.getElem?_cons_zero]
  refine wpPT_take (v:=?_) (by kernel_rfl) (fun wS hSw=>?_) ?_
  rotate_left
  ·refine execOp_load (x:=.tmp 3) (k:=6) (g:=w.heap.size) (off:=0) (cs:=stkC g (.slice AU nU cU) (.slice AL nL cL)) ?_ stk_agg stk_size ?_ (fun j v hv=>by rw [Nat.zero_add];exact ((R0.out.on hSw).cell j).trans hv) rfl <;> rfl
  (try simp only [Act.put,pu1,pu2,pu3])
  refine wpPT_take (v:=?_) (by kernel_rfl) (fun wS hSw=>?_) ?_
  rotate_left
  ·(try dsimp only at hSw);go_simp;(try with_reducible rfl)
  (try simp only [Act.put,pu1,pu2,pu3])
  refine wpPT_take (v:=?_) (by kernel_rfl) (fun wS hSw=>?_) ?_
  rotate_left
  ·have qx:=HQ0.out wS hSw;go_simp;(try with_reducible rfl)
  (try simp only [Act.put,pu1,pu2,pu3])
  refine wpPT_take (v:=?_) (by kernel_rfl) (fun wS hSw=>?_) ?_
  rotate_left
  ·(try dsimp only at hSw);go_simp;(try with_reducible rfl)
  (try simp only [Act.put,pu1,pu2,pu3])
  refine wpPT_take (v:=?_) (by kernel_rfl) (fun wS hSw=>?_) ?_
  rotate_left
  ·have qx:=HQ1.out wS hSw;go_simp;(try with_reducible rfl)
  (try simp only [Act.put,pu1,pu2,pu3])
  refine wpPT_take (v:=?_) (by kernel_rfl) (fun wS hSw=>?_) ?_
  rotate_left
  ·(try dsimp only at hSw);go_simp;(try with_reducible rfl)
  (try simp only [Act.put,pu1,pu2,pu3])
  refine wpPT_alt (by kernel_rfl) (fun K hK=>?_) ?_
  ·skip
   have hOld:=hide hHeld
   clear hHeld
   go_simp
   go_at_call 119
   refine (Beneath_e HLY.out (B:=B) _ (HL.out.under hOld.out (by omega)) (by have:=hOld.out.size;omega) hm).mono ?_
   rintro e w' ⟨A1,n1,c1,rfl,e2,e3,hbel⟩
   have hb':=hbel.mono (B':=W4.heap.size) (by have:=hOld.out.size;omega)
   have HNS:=hide e3
   clear e3
   clear hbel
   refine hK.out _ _ (hOld.out.trans hb') (fun hHeld=>?_)
   clear hK K
   (try simp only [Act.put,pu1,pu2,pu3])
   refine wpPT_alt (by kernel_rfl) (fun K hK=>?_) ?_
   ·skip
    have hOld:=hide hHeld
    clear hHeld
    go_simp
    go_at_call 127
    refine (First_n HFO.out HNO.out (B:=B) _ HNS.out (by have:=hOld.out.size;omega) (by omega) hel).mono ?_
    rintro e w' ⟨A2,n2,c2,C2,m2,d2,rfl,f2,f3,f4,f5,hbel⟩
    have hb':=hbel.mono (B':=W4.heap.size) (by have:=hOld.out.size;omega)
    have HD:=hide f3
    clear f3
    have HE:=hide f5
    clear f5
    have HNS':=hide (HNS.out.under hbel (by have:=hOld.out.size;omega))
    clear HNS
    have HNS:=HNS'
    clear HNS'
    clear hbel
    refine hK.out _ _ (hOld.out.trans hb') (fun hHeld=>?_)
    clear hK K
    (try simp only [Act.put,pu1,pu2,pu3])
    iterate 3
     refine wpPT_take (v:=?_) (by kernel_rfl) (fun wS hSw=>?_) ?_
     rotate_left
     ·(try dsimp only at hSw);go_simp;(try with_reducible rfl)
     (try simp only [Act.put,pu1,pu2,pu3])
    refine wpPT_alt (by kernel_rfl) (fun K hK=>?_) ?_
    ·skip
     have hOld:=hide hHeld
     clear hHeld
     unfold Oper.wp execOp
     go_simp
     have hal:=below_new (below_self w') (.cells #[.int .i64 0,.int .i64 0,.string ⟨#[]⟩] 31)
     have hb':=hal.mono (B':=W4.heap.size) (by have:=hOld.out.size;omega)
     have HFN:=hide (show RowL (w'.alloc (.cells #[.int .i64 0,.int .i64 0,.string ⟨#[]⟩] 31)) w'.heap.size 31 [.int .i64 0,.int .i64 0,.string ⟨#[]⟩] from RowL.new w' 31 [.int .i64 0,.int .i64 0,.string ⟨#[]⟩])
     have g8l:W4.heap.size≤w'.heap.size:=hOld.out.size
     refine hK.out _ _ (hOld.out.trans hb') (fun hHeld=>?_)
     clear hK K
     have HNS':=hide (HNS.out.under hal (by have:=hOld.out.size;omega))
     clear HNS
     have HNS:=HNS'
     clear HNS'
     have HD':=hide (HD.out.under hal (by have:=hOld.out.size;omega))
     clear HD
     have HD:=HD'
     clear HD'
     have HE':=hide (HE.out.under hal (by have:=hOld.out.size;omega))
     clear HE
     have HE:=HE'
     clear HE'
     have R8:=HFN
     clear hal hb' hOld HFN
     generalize w'.alloc (.cells #[.int .i64 0,.int .i64 0,.string ⟨#[]⟩] 31)=z2 at *
     generalize w'.heap.size=g8 at *
     (try simp only [Act.put,pu1,pu2,pu3])
     refine wpPT_alt (by kernel_rfl) (fun K hK=>?_) ?_
     rotate_left
     ·exact wpPT_stop
     have hOld:=hide hHeld
     clear hHeld
     unfold Oper.wp execOp
     go_simp
     have hal:=below_new (below_self z2) (.cells #[.int .i64 0,.int .i64 0,.int .i64 0,.int .i64 0,.slice none 0 0,.slice none 0 0,.int .i64 0,.int .i64 0,.string ⟨#[]⟩,.int .i64 0,.int .i64 0,.int .i64 0,.int .i64 0] 51)
     have hb':=hal.mono (B':=W4.heap.size) (by have:=hOld.out.size;omega)
     have HFN:=hide (show RowL (z2.alloc (.cells #[.int .i64 0,.int .i64 0,.int .i64 0,.int .i64 0,.slice none 0 0,.slice none 0 0,.int .i64 0,.int .i64 0,.string ⟨#[]⟩,.int .i64 0,.int .i64 0,.int .i64 0,.int .i64 0] 51)) z2.heap.size 51 (nodC nod0 (.slice none 0 0) (.slice none 0 0)) from RowL.new z2 51 (nodC nod0 (.slice none 0 0) (.slice none 0 0)))
     have g9l:W4.heap.size≤z2.heap.size:=hOld.out.size
     have g8ng9:g8 < z2.heap.size:=R8.out.lt
     refine hK.out _ _ (hOld.out.trans hb') (fun hHeld=>?_)
     clear hK K
     have HNS':=hide (HNS.out.under hal (by have:=hOld.out.size;omega))
     clear HNS
     have HNS:=HNS'
     clear HNS'
     have HD':=hide (HD.out.under hal (by have:=hOld.out.size;omega))
     clear HD
     have HD:=HD'
     clear HD'
     have HE':=hide (HE.out.under hal (by have:=hOld.out.size;omega))
     clear HE
     have HE:=HE'
     clear HE'
     have R8':=hide (R8.out.on hal)
     clear R8
     have R8:=R8'
     clear R8'
     have R9:=HFN
     clear hal hb' hOld HFN
     generalize z2.alloc (.cells #[.int .i64 0,.int .i64 0,.int .i64 0,.int .i64 0,.slice none 0 0,.slice none 0 0,.int .i64 0,.int .i64 0,.string ⟨#[]⟩,.int .i64 0,.int .i64 0,.int .i64 0,.int .i64 0] 51)=z3 at *
     generalize z2.heap.size=g9 at *
     (try simp only [Act.put,pu1,pu2,pu3])
     refine wpPT_alt (by kernel_rfl) (fun K hK=>?_) ?_
     rotate_left
     ·exact wpPT_stop
     have hOld:=hide hHeld
     clear hHeld
     refine wp_storeC 31 (.tmp 8) (.tmp 19) rfl 3 entw_size g8 0 31 rfl [.int .i64 0,.int .i64 0,.string ⟨#[]⟩] (cellsE (entO o)) rfl R8.out rfl (by exact Nat.le_refl _) (cellsE_one _) ?_
     intro w' hr' hg' hs'
     rw [splice_all [.int .i64 0,.int .i64 0,.string ⟨#[]⟩] (cellsE (entO o)) rfl] at hr'
     refine hK.out _ _ (hOld.out.grown hg' (by have:=hOld.out.size;omega) (pu4 (by omega))) (fun hHeld=>?_)
     clear hK K
     have HNS':=hide (HNS.out.mono (show Kept (Under B) _ _ from fun b hb=>hg'.block b (by unfold Under at hb;have:=hOld.out.size;omega) (fun e=>by have:=Option.some.inj e;unfold Under at hb;omega)) (fun _ h=>h))
     clear HNS
     have HNS:=HNS'
     clear HNS'
     have HD':=hide (HD.out.mono (show Kept (Under B) _ _ from fun b hb=>hg'.block b (by unfold Under at hb;have:=hOld.out.size;omega) (fun e=>by have:=Option.some.inj e;unfold Under at hb;omega)) (fun _ h=>h))
     clear HD
     have HD:=HD'
     clear HD'
     have HE':=hide (HE.out.mono (show Kept (Under B) _ _ from fun b hb=>hg'.block b (by unfold Under at hb;have:=hOld.out.size;omega) (fun e=>by have:=Option.some.inj e;unfold Under at hb;omega)) (fun _ h=>h))
     clear HE
     have HE:=HE'
     clear HE'
     have R9':=hide (R9.out.grown hg' (pu5 (by omega)))
     clear R9
     have R9:=R9'
     clear R9'
     clear R8
     have R8:=hide hr'
     clear hg' hs' hr' hOld
     (try simp only [Act.put])
     refine wpPT_alt (by kernel_rfl) (fun K hK=>?_) ?_
     rotate_left
     ·exact wpPT_stop
     have hOld:=hide hHeld
     clear hHeld
     refine wp_storeC 51 (.tmp 9) (.tmp 20) rfl 13 nod_size g9 0 51 rfl (nodC nod0 (.slice none 0 0) (.slice none 0 0)) (nodC N (.slice A2 n2 c2) (.slice C2 m2 d2)) rfl R9.out rfl (by exact Nat.le_refl _) (nodC_one _ _ _ _ _ _ _) ?_
     intro w' hr' hg' hs'
     rw [splice_all (nodC nod0 (.slice none 0 0) (.slice none 0 0)) (nodC N (.slice A2 n2 c2) (.slice C2 m2 d2)) rfl] at hr'
     refine hK.out _ _ (hOld.out.grown hg' (by have:=hOld.out.size;omega) (pu4 (by omega))) (fun hHeld=>?_)
     clear hK K
     have HNS':=hide (HNS.out.mono (show Kept (Under B) _ _ from fun b hb=>hg'.block b (by unfold Under at hb;have:=hOld.out.size;omega) (fun e=>by have:=Option.some.inj e;unfold Under at hb;omega)) (fun _ h=>h))
     clear HNS
     have HNS:=HNS'
     clear HNS'
     have HD':=hide (HD.out.mono (show Kept (Under B) _ _ from fun b hb=>hg'.block b (by unfold Under at hb;have:=hOld.out.size;omega) (fun e=>by have:=Option.some.inj e;unfold Under at hb;omega)) (fun _ h=>h))
     clear HD
     have HD:=HD'
     clear HD'
     have HE':=hide (HE.out.mono (show Kept (Under B) _ _ from fun b hb=>hg'.block b (by unfold Under at hb;have:=hOld.out.size;omega) (fun e=>by have:=Option.some.inj e;unfold Under at hb;omega)) (fun _ h=>h))
     clear HE
     have HE:=HE'
     clear HE'
     have R8':=hide (R8.out.grown hg' (pu5 (by omega)))
     clear R8
     have R8:=R8'
     clear R8'
     clear R9
     have R9:=hide hr'
     clear hg' hs' hr' hOld
     (try simp only [Act.put])
     refine wpPT_leaf ?_
     have HBX:=hide hHeld
     clear hHeld
     go_wp2_with fail
     go_meet
     case rel=>exact ⟨g8,g9,A2,n2,c2,C2,m2,d2,rfl,rfl,R8.out,R9.out,f2,HD.out,f4,HE.out,HBX.out,g8l,g9l⟩
    refine wpPT_alt (by kernel_rfl) (fun K hK=>?_) ?_
    ·skip
     have hOld:=hide hHeld
     clear hHeld
     unfold Oper.wp execOp
     go_simp
     have hal:=below_new (below_self w') (.cells #[.int .i64 0,.int .i64 0,.int .i64 0,.int .i64 0,.slice none 0 0,.slice none 0 0,.int .i64 0,.int .i64 0,.string ⟨#[]⟩,.int .i64 0,.int .i64 0,.int .i64 0,.int .i64 0] 51)
     have hb':=hal.mono (B':=W4.heap.size) (by have:=hOld.out.size;omega)
     have HFN:=hide (show RowL (w'.alloc (.cells #[.int .i64 0,.int .i64 0,.int .i64 0,.int .i64 0,.slice none 0 0,.slice none 0 0,.int .i64 0,.int .i64 0,.string ⟨#[]⟩,.int .i64 0,.int .i64 0,.int .i64 0,.int .i64 0] 51)) w'.heap.size 51 (nodC nod0 (.slice none 0 0) (.slice none 0 0)) from RowL.new w' 51 (nodC nod0 (.slice none 0 0) (.slice none 0 0)))
     have g9l:W4.heap.size≤w'.heap.size:=hOld.out.size
     refine hK.out _ _ (hOld.out.trans hb') (fun hHeld=>?_)
     clear hK K
     have HNS':=hide (HNS.out.under hal (by have:=hOld.out.size;omega))
     clear HNS
     have HNS:=HNS'
     clear HNS'
     have HD':=hide (HD.out.under hal (by have:=hOld.out.size;omega))
     clear HD
     have HD:=HD'
     clear HD'
     have HE':=hide (HE.out.under hal (by have:=hOld.out.size;omega))
     clear HE
     have HE:=HE'
     clear HE'
     have R9:=HFN
     clear hal hb' hOld HFN
     generalize w'.alloc (.cells #[.int .i64 0,.int .i64 0,.int .i64 0,.int .i64 0,.slice none 0 0,.slice none 0 0,.int .i64 0,.int .i64 0,.string ⟨#[]⟩,.int .i64 0,.int .i64 0,.int .i64 0,.int .i64 0] 51)=z2 at *
     generalize w'.heap.size=g9 at *
     (try simp only [Act.put,pu1,pu2,pu3])
     refine wpPT_alt (by kernel_rfl) (fun K hK=>?_) ?_
     rotate_left
     ·exact wpPT_stop
     have hOld:=hide hHeld
     clear hHeld
     unfold Oper.wp execOp
     go_simp
     have hal:=below_new (below_self z2) (.cells #[.int .i64 0,.int .i64 0,.string ⟨#[]⟩] 31)
     have hb':=hal.mono (B':=W4.heap.size) (by have:=hOld.out.size;omega)
     have HFN:=hide (show RowL (z2.alloc (.cells #[.int .i64 0,.int .i64 0,.string ⟨#[]⟩] 31)) z2.heap.size 31 [.int .i64 0,.int .i64 0,.string ⟨#[]⟩] from RowL.new z2 31 [.int .i64 0,.int .i64 0,.string ⟨#[]⟩])
     have g8l:W4.heap.size≤z2.heap.size:=hOld.out.size
     have g9ng8:g9 < z2.heap.size:=R9.out.lt
     refine hK.out _ _ (hOld.out.trans hb') (fun hHeld=>?_)
     clear hK K
     have HNS':=hide (HNS.out.under hal (by have:=hOld.out.size;omega))
     clear HNS
     have HNS:=HNS'
     clear HNS'
     have HD':=hide (HD.out.under hal (by have:=hOld.out.size;omega))
     clear HD
     have HD:=HD'
     clear HD'
     have HE':=hide (HE.out.under hal (by have:=hOld.out.size;omega))
     clear HE
     have HE:=HE'
     clear HE'
     have R9':=hide (R9.out.on hal)
     clear R9
     have R9:=R9'
     clear R9'
     have R8:=HFN
     clear hal hb' hOld HFN
     generalize z2.alloc (.cells #[.int .i64 0,.int .i64 0,.string ⟨#[]⟩] 31)=z3 at *
     generalize z2.heap.size=g8 at *
     (try simp only [Act.put,pu1,pu2,pu3])
     refine wpPT_alt (by kernel_rfl) (fun K hK=>?_) ?_
     rotate_left
     ·exact wpPT_stop
     have hOld:=hide hHeld
     clear hHeld
     refine wp_storeC 31 (.tmp 8) (.tmp 19) rfl 3 entw_size g8 0 31 rfl [.int .i64 0,.int .i64 0,.string ⟨#[]⟩] (cellsE (entO o)) rfl R8.out rfl (by exact Nat.le_refl _) (cellsE_one _) ?_
     intro w' hr' hg' hs'
     rw [splice_all [.int .i64 0,.int .i64 0,.string ⟨#[]⟩] (cellsE (entO o)) rfl] at hr'
     refine hK.out _ _ (hOld.out.grown hg' (by have:=hOld.out.size;omega) (pu4 (by omega))) (fun hHeld=>?_)
     clear hK K
     have HNS':=hide (HNS.out.mono (show Kept (Under B) _ _ from fun b hb=>hg'.block b (by unfold Under at hb;have:=hOld.out.size;omega) (fun e=>by have:=Option.some.inj e;unfold Under at hb;omega)) (fun _ h=>h))
     clear HNS
     have HNS:=HNS'
     clear HNS'
     have HD':=hide (HD.out.mono (show Kept (Under B) _ _ from fun b hb=>hg'.block b (by unfold Under at hb;have:=hOld.out.size;omega) (fun e=>by have:=Option.some.inj e;unfold Under at hb;omega)) (fun _ h=>h))
     clear HD
     have HD:=HD'
     clear HD'
     have HE':=hide (HE.out.mono (show Kept (Under B) _ _ from fun b hb=>hg'.block b (by unfold Under at hb;have:=hOld.out.size;omega) (fun e=>by have:=Option.some.inj e;unfold Under at hb;omega)) (fun _ h=>h))
     clear HE
     have HE:=HE'
     clear HE'
     have R9':=hide (R9.out.grown hg' (pu5 (by omega)))
     clear R9
     have R9:=R9'
     clear R9'
     clear R8
     have R8:=hide hr'
     clear hg' hs' hr' hOld
     (try simp only [Act.put])
     refine wpPT_alt (by kernel_rfl) (fun K hK=>?_) ?_
     rotate_left
     ·exact wpPT_stop
     have hOld:=hide hHeld
     clear hHeld
     refine wp_storeC 51 (.tmp 9) (.tmp 20) rfl 13 nod_size g9 0 51 rfl (nodC nod0 (.slice none 0 0) (.slice none 0 0)) (nodC N (.slice A2 n2 c2) (.slice C2 m2 d2)) rfl R9.out rfl (by exact Nat.le_refl _) (nodC_one _ _ _ _ _ _ _) ?_
     intro w' hr' hg' hs'
     rw [splice_all (nodC nod0 (.slice none 0 0) (.slice none 0 0)) (nodC N (.slice A2 n2 c2) (.slice C2 m2 d2)) rfl] at hr'
     refine hK.out _ _ (hOld.out.grown hg' (by have:=hOld.out.size;omega) (pu4 (by omega))) (fun hHeld=>?_)
     clear hK K
     have HNS':=hide (HNS.out.mono (show Kept (Under B) _ _ from fun b hb=>hg'.block b (by unfold Under at hb;have:=hOld.out.size;omega) (fun e=>by have:=Option.some.inj e;unfold Under at hb;omega)) (fun _ h=>h))
     clear HNS
     have HNS:=HNS'
     clear HNS'
     have HD':=hide (HD.out.mono (show Kept (Under B) _ _ from fun b hb=>hg'.block b (by unfold Under at hb;have:=hOld.out.size;omega) (fun e=>by have:=Option.some.inj e;unfold Under at hb;omega)) (fun _ h=>h))
     clear HD
     have HD:=HD'
     clear HD'
     have HE':=hide (HE.out.mono (show Kept (Under B) _ _ from fun b hb=>hg'.block b (by unfold Under at hb;have:=hOld.out.size;omega) (fun e=>by have:=Option.some.inj e;unfold Under at hb;omega)) (fun _ h=>h))
     clear HE
     have HE:=HE'
     clear HE'
     have R8':=hide (R8.out.grown hg' (pu5 (by omega)))
     clear R8
     have R8:=R8'
     clear R8'
     clear R9
     have R9:=hide hr'
     clear hg' hs' hr' hOld
     (try simp only [Act.put])
     refine wpPT_leaf ?_
     have HBX:=hide hHeld
     clear hHeld
     go_wp2_with fail
     go_meet
     case rel=>exact ⟨g8,g9,A2,n2,c2,C2,m2,d2,rfl,rfl,R8.out,R9.out,f2,HD.out,f4,HE.out,HBX.out,g8l,g9l⟩
    exact wpPT_stop
   refine wpPT_alt (by kernel_rfl) (fun K hK=>?_) ?_
   ·skip
    have hOld:=hide hHeld
    clear hHeld
    unfold Oper.wp execOp
    go_simp
    have hal:=below_new (below_self w') (.cells #[.int .i64 0,.int .i64 0,.string ⟨#[]⟩] 31)
    have hb':=hal.mono (B':=W4.heap.size) (by have:=hOld.out.size;omega)
    have HFN:=hide (show RowL (w'.alloc (.cells #[.int .i64 0,.int .i64 0,.string ⟨#[]⟩] 31)) w'.heap.size 31 [.int .i64 0,.int .i64 0,.string ⟨#[]⟩] from RowL.new w' 31 [.int .i64 0,.int .i64 0,.string ⟨#[]⟩])
    have g8l:W4.heap.size≤w'.heap.size:=hOld.out.size
    refine hK.out _ _ (hOld.out.trans hb') (fun hHeld=>?_)
    clear hK K
    have HNS':=hide (HNS.out.under hal (by have:=hOld.out.size;omega))
    clear HNS
    have HNS:=HNS'
    clear HNS'
    have R8:=HFN
    clear hal hb' hOld HFN
    generalize w'.alloc (.cells #[.int .i64 0,.int .i64 0,.string ⟨#[]⟩] 31)=z1 at *
    generalize w'.heap.size=g8 at *
    (try simp only [Act.put,pu1,pu2,pu3])
    refine wpPT_alt (by kernel_rfl) (fun K hK=>?_) ?_
    ·skip
     have hOld:=hide hHeld
     clear hHeld
     go_simp
     go_at_call 127
     refine (First_n HFO.out HNO.out (B:=B) _ HNS.out (by have:=hOld.out.size;omega) (by omega) hel).mono ?_
     rintro e w' ⟨A2,n2,c2,C2,m2,d2,rfl,f2,f3,f4,f5,hbel⟩
     have hb':=hbel.mono (B':=W4.heap.size) (by have:=hOld.out.size;omega)
     have HD:=hide f3
     clear f3
     have HE:=hide f5
     clear f5
     have HNS':=hide (HNS.out.under hbel (by have:=hOld.out.size;omega))
     clear HNS
     have HNS:=HNS'
     clear HNS'
     have R8':=hide (R8.out.on hbel)
     clear R8
     have R8:=R8'
     clear R8'
     clear hbel
     refine hK.out _ _ (hOld.out.trans hb') (fun hHeld=>?_)
     clear hK K
     (try simp only [Act.put,pu1,pu2,pu3])
     iterate 3
      refine wpPT_take (v:=?_) (by kernel_rfl) (fun wS hSw=>?_) ?_
      rotate_left
      ·(try dsimp only at hSw);go_simp;(try with_reducible rfl)
      (try simp only [Act.put,pu1,pu2,pu3])
     refine wpPT_alt (by kernel_rfl) (fun K hK=>?_) ?_
     rotate_left
     ·exact wpPT_stop
     have hOld:=hide hHeld
     clear hHeld
     unfold Oper.wp execOp
     go_simp
     have hal:=below_new (below_self w') (.cells #[.int .i64 0,.int .i64 0,.int .i64 0,.int .i64 0,.slice none 0 0,.slice none 0 0,.int .i64 0,.int .i64 0,.string ⟨#[]⟩,.int .i64 0,.int .i64 0,.int .i64 0,.int .i64 0] 51)
     have hb':=hal.mono (B':=W4.heap.size) (by have:=hOld.out.size;omega)
     have HFN:=hide (show RowL (w'.alloc (.cells #[.int .i64 0,.int .i64 0,.int .i64 0,.int .i64 0,.slice none 0 0,.slice none 0 0,.int .i64 0,.int .i64 0,.string ⟨#[]⟩,.int .i64 0,.int .i64 0,.int .i64 0,.int .i64 0] 51)) w'.heap.size 51 (nodC nod0 (.slice none 0 0) (.slice none 0 0)) from RowL.new w' 51 (nodC nod0 (.slice none 0 0) (.slice none 0 0)))
     have g9l:W4.heap.size≤w'.heap.size:=hOld.out.size
     have g8ng9:g8 < w'.heap.size:=R8.out.lt
     refine hK.out _ _ (hOld.out.trans hb') (fun hHeld=>?_)
     clear hK K
     have HNS':=hide (HNS.out.under hal (by have:=hOld.out.size;omega))
     clear HNS
     have HNS:=HNS'
     clear HNS'
     have R8':=hide (R8.out.on hal)
     clear R8
     have R8:=R8'
     clear R8'
     have HD':=hide (HD.out.under hal (by have:=hOld.out.size;omega))
     clear HD
     have HD:=HD'
     clear HD'
     have HE':=hide (HE.out.under hal (by have:=hOld.out.size;omega))
     clear HE
     have HE:=HE'
     clear HE'
     have R9:=HFN
     clear hal hb' hOld HFN
     generalize w'.alloc (.cells #[.int .i64 0,.int .i64 0,.int .i64 0,.int .i64 0,.slice none 0 0,.slice none 0 0,.int .i64 0,.int .i64 0,.string ⟨#[]⟩,.int .i64 0,.int .i64 0,.int .i64 0,.int .i64 0] 51)=z3 at *
     generalize w'.heap.size=g9 at *
     (try simp only [Act.put,pu1,pu2,pu3])
     refine wpPT_alt (by kernel_rfl) (fun K hK=>?_) ?_
     rotate_left
     ·exact wpPT_stop
     have hOld:=hide hHeld
     clear hHeld
     refine wp_storeC 31 (.tmp 8) (.tmp 19) rfl 3 entw_size g8 0 31 rfl [.int .i64 0,.int .i64 0,.string ⟨#[]⟩] (cellsE (entO o)) rfl R8.out rfl (by exact Nat.le_refl _) (cellsE_one _) ?_
     intro w' hr' hg' hs'
     rw [splice_all [.int .i64 0,.int .i64 0,.string ⟨#[]⟩] (cellsE (entO o)) rfl] at hr'
     refine hK.out _ _ (hOld.out.grown hg' (by have:=hOld.out.size;omega) (pu4 (by omega))) (fun hHeld=>?_)
     clear hK K
     have HNS':=hide (HNS.out.mono (show Kept (Under B) _ _ from fun b hb=>hg'.block b (by unfold Under at hb;have:=hOld.out.size;omega) (fun e=>by have:=Option.some.inj e;unfold Under at hb;omega)) (fun _ h=>h))
     clear HNS
     have HNS:=HNS'
     clear HNS'
     have HD':=hide (HD.out.mono (show Kept (Under B) _ _ from fun b hb=>hg'.block b (by unfold Under at hb;have:=hOld.out.size;omega) (fun e=>by have:=Option.some.inj e;unfold Under at hb;omega)) (fun _ h=>h))
     clear HD
     have HD:=HD'
     clear HD'
     have HE':=hide (HE.out.mono (show Kept (Under B) _ _ from fun b hb=>hg'.block b (by unfold Under at hb;have:=hOld.out.size;omega) (fun e=>by have:=Option.some.inj e;unfold Under at hb;omega)) (fun _ h=>h))
     clear HE
     have HE:=HE'
     clear HE'
     have R9':=hide (R9.out.grown hg' (pu5 (by omega)))
     clear R9
     have R9:=R9'
     clear R9'
     clear R8
     have R8:=hide hr'
     clear hg' hs' hr' hOld
     (try simp only [Act.put])
     refine wpPT_alt (by kernel_rfl) (fun K hK=>?_) ?_
     rotate_left
     ·exact wpPT_stop
     have hOld:=hide hHeld
     clear hHeld
     refine wp_storeC 51 (.tmp 9) (.tmp 20) rfl 13 nod_size g9 0 51 rfl (nodC nod0 (.slice none 0 0) (.slice none 0 0)) (nodC N (.slice A2 n2 c2) (.slice C2 m2 d2)) rfl R9.out rfl (by exact Nat.le_refl _) (nodC_one _ _ _ _ _ _ _) ?_
     intro w' hr' hg' hs'
     rw [splice_all (nodC nod0 (.slice none 0 0) (.slice none 0 0)) (nodC N (.slice A2 n2 c2) (.slice C2 m2 d2)) rfl] at hr'
     refine hK.out _ _ (hOld.out.grown hg' (by have:=hOld.out.size;omega) (pu4 (by omega))) (fun hHeld=>?_)
     clear hK K
     have HNS':=hide (HNS.out.mono (show Kept (Under B) _ _ from fun b hb=>hg'.block b (by unfold Under at hb;have:=hOld.out.size;omega) (fun e=>by have:=Option.some.inj e;unfold Under at hb;omega)) (fun _ h=>h))
     clear HNS
     have HNS:=HNS'
     clear HNS'
     have R8':=hide (R8.out.grown hg' (pu5 (by omega)))
     clear R8
     have R8:=R8'
     clear R8'
     have HD':=hide (HD.out.mono (show Kept (Under B) _ _ from fun b hb=>hg'.block b (by unfold Under at hb;have:=hOld.out.size;omega) (fun e=>by have:=Option.some.inj e;unfold Under at hb;omega)) (fun _ h=>h))
     clear HD
     have HD:=HD'
     clear HD'
     have HE':=hide (HE.out.mono (show Kept (Under B) _ _ from fun b hb=>hg'.block b (by unfold Under at hb;have:=hOld.out.size;omega) (fun e=>by have:=Option.some.inj e;unfold Under at hb;omega)) (fun _ h=>h))
     clear HE
     have HE:=HE'
     clear HE'
     clear R9
     have R9:=hide hr'
     clear hg' hs' hr' hOld
     (try simp only [Act.put])
     refine wpPT_leaf ?_
     have HBX:=hide hHeld
     clear hHeld
     go_wp2_with fail
     go_meet
     case rel=>exact ⟨g8,g9,A2,n2,c2,C2,m2,d2,rfl,rfl,R8.out,R9.out,f2,HD.out,f4,HE.out,HBX.out,g8l,g9l⟩
    refine wpPT_alt (by kernel_rfl) (fun K hK=>?_) ?_
    ·skip
     have hOld:=hide hHeld
     clear hHeld
     unfold Oper.wp execOp
     go_simp
     have hal:=below_new (below_self z1) (.cells #[.int .i64 0,.int .i64 0,.int .i64 0,.int .i64 0,.slice none 0 0,.slice none 0 0,.int .i64 0,.int .i64 0,.string ⟨#[]⟩,.int .i64 0,.int .i64 0,.int .i64 0,.int .i64 0] 51)
     have hb':=hal.mono (B':=W4.heap.size) (by have:=hOld.out.size;omega)
     have HFN:=hide (show RowL (z1.alloc (.cells #[.int .i64 0,.int .i64 0,.int .i64 0,.int .i64 0,.slice none 0 0,.slice none 0 0,.int .i64 0,.int .i64 0,.string ⟨#[]⟩,.int .i64 0,.int .i64 0,.int .i64 0,.int .i64 0] 51)) z1.heap.size 51 (nodC nod0 (.slice none 0 0) (.slice none 0 0)) from RowL.new z1 51 (nodC nod0 (.slice none 0 0) (.slice none 0 0)))
     have g9l:W4.heap.size≤z1.heap.size:=hOld.out.size
     have g8ng9:g8 < z1.heap.size:=R8.out.lt
     refine hK.out _ _ (hOld.out.trans hb') (fun hHeld=>?_)
     clear hK K
     have HNS':=hide (HNS.out.under hal (by have:=hOld.out.size;omega))
     clear HNS
     have HNS:=HNS'
     clear HNS'
     have R8':=hide (R8.out.on hal)
     clear R8
     have R8:=R8'
     clear R8'
     have R9:=HFN
     clear hal hb' hOld HFN
     generalize z1.alloc (.cells #[.int .i64 0,.int .i64 0,.int .i64 0,.int .i64 0,.slice none 0 0,.slice none 0 0,.int .i64 0,.int .i64 0,.string ⟨#[]⟩,.int .i64 0,.int .i64 0,.int .i64 0,.int .i64 0] 51)=z2 at *
     generalize z1.heap.size=g9 at *
     (try simp only [Act.put,pu1,pu2,pu3])
     refine wpPT_alt (by kernel_rfl) (fun K hK=>?_) ?_
     rotate_left
     ·exact wpPT_stop
     have hOld:=hide hHeld
     clear hHeld
     go_simp
     go_at_call 127
     refine (First_n HFO.out HNO.out (B:=B) _ HNS.out (by have:=hOld.out.size;omega) (by omega) hel).mono ?_
     rintro e w' ⟨A2,n2,c2,C2,m2,d2,rfl,f2,f3,f4,f5,hbel⟩
     have hb':=hbel.mono (B':=W4.heap.size) (by have:=hOld.out.size;omega)
     have HD:=hide f3
     clear f3
     have HE:=hide f5
     clear f5
     have HNS':=hide (HNS.out.under hbel (by have:=hOld.out.size;omega))
     clear HNS
     have HNS:=HNS'
     clear HNS'
     have R8':=hide (R8.out.on hbel)
     clear R8
     have R8:=R8'
     clear R8'
     have R9':=hide (R9.out.on hbel)
     clear R9
     have R9:=R9'
     clear R9'
     clear hbel
     refine hK.out _ _ (hOld.out.trans hb') (fun hHeld=>?_)
     clear hK K
     (try simp only [Act.put,pu1,pu2,pu3])
     iterate 3
      refine wpPT_take (v:=?_) (by kernel_rfl) (fun wS hSw=>?_) ?_
      rotate_left
      ·(try dsimp only at hSw);go_simp;(try with_reducible rfl)
      (try simp only [Act.put,pu1,pu2,pu3])
     refine wpPT_alt (by kernel_rfl) (fun K hK=>?_) ?_
     rotate_left
     ·exact wpPT_stop
     have hOld:=hide hHeld
     clear hHeld
     refine wp_storeC 31 (.tmp 8) (.tmp 19) rfl 3 entw_size g8 0 31 rfl [.int .i64 0,.int .i64 0,.string ⟨#[]⟩] (cellsE (entO o)) rfl R8.out rfl (by exact Nat.le_refl _) (cellsE_one _) ?_
     intro w' hr' hg' hs'
     rw [splice_all [.int .i64 0,.int .i64 0,.string ⟨#[]⟩] (cellsE (entO o)) rfl] at hr'
     refine hK.out _ _ (hOld.out.grown hg' (by have:=hOld.out.size;omega) (pu4 (by omega))) (fun hHeld=>?_)
     clear hK K
     have HNS':=hide (HNS.out.mono (show Kept (Under B) _ _ from fun b hb=>hg'.block b (by unfold Under at hb;have:=hOld.out.size;omega) (fun e=>by have:=Option.some.inj e;unfold Under at hb;omega)) (fun _ h=>h))
     clear HNS
     have HNS:=HNS'
     clear HNS'
     have R9':=hide (R9.out.grown hg' (pu5 (by omega)))
     clear R9
     have R9:=R9'
     clear R9'
     have HD':=hide (HD.out.mono (show Kept (Under B) _ _ from fun b hb=>hg'.block b (by unfold Under at hb;have:=hOld.out.size;omega) (fun e=>by have:=Option.some.inj e;unfold Under at hb;omega)) (fun _ h=>h))
     clear HD
     have HD:=HD'
     clear HD'
     have HE':=hide (HE.out.mono (show Kept (Under B) _ _ from fun b hb=>hg'.block b (by unfold Under at hb;have:=hOld.out.size;omega) (fun e=>by have:=Option.some.inj e;unfold Under at hb;omega)) (fun _ h=>h))
     clear HE
     have HE:=HE'
     clear HE'
     clear R8
     have R8:=hide hr'
     clear hg' hs' hr' hOld
     (try simp only [Act.put])
     refine wpPT_alt (by kernel_rfl) (fun K hK=>?_) ?_
     rotate_left
     ·exact wpPT_stop
     have hOld:=hide hHeld
     clear hHeld
     refine wp_storeC 51 (.tmp 9) (.tmp 20) rfl 13 nod_size g9 0 51 rfl (nodC nod0 (.slice none 0 0) (.slice none 0 0)) (nodC N (.slice A2 n2 c2) (.slice C2 m2 d2)) rfl R9.out rfl (by exact Nat.le_refl _) (nodC_one _ _ _ _ _ _ _) ?_
     intro w' hr' hg' hs'
     rw [splice_all (nodC nod0 (.slice none 0 0) (.slice none 0 0)) (nodC N (.slice A2 n2 c2) (.slice C2 m2 d2)) rfl] at hr'
     refine hK.out _ _ (hOld.out.grown hg' (by have:=hOld.out.size;omega) (pu4 (by omega))) (fun hHeld=>?_)
     clear hK K
     have HNS':=hide (HNS.out.mono (show Kept (Under B) _ _ from fun b hb=>hg'.block b (by unfold Under at hb;have:=hOld.out.size;omega) (fun e=>by have:=Option.some.inj e;unfold Under at hb;omega)) (fun _ h=>h))
     clear HNS
     have HNS:=HNS'
     clear HNS'
     have R8':=hide (R8.out.grown hg' (pu5 (by omega)))
     clear R8
     have R8:=R8'
     clear R8'
     have HD':=hide (HD.out.mono (show Kept (Under B) _ _ from fun b hb=>hg'.block b (by unfold Under at hb;have:=hOld.out.size;omega) (fun e=>by have:=Option.some.inj e;unfold Under at hb;omega)) (fun _ h=>h))
     clear HD
     have HD:=HD'
     clear HD'
     have HE':=hide (HE.out.mono (show Kept (Under B) _ _ from fun b hb=>hg'.block b (by unfold Under at hb;have:=hOld.out.size;omega) (fun e=>by have:=Option.some.inj e;unfold Under at hb;omega)) (fun _ h=>h))
     clear HE
     have HE:=HE'
     clear HE'
     clear R9
     have R9:=hide hr'
     clear hg' hs' hr' hOld
     (try simp only [Act.put])
     refine wpPT_leaf ?_
     have HBX:=hide hHeld
     clear hHeld
     go_wp2_with fail
     go_meet
     case rel=>exact ⟨g8,g9,A2,n2,c2,C2,m2,d2,rfl,rfl,R8.out,R9.out,f2,HD.out,f4,HE.out,HBX.out,g8l,g9l⟩
    exact wpPT_stop
   refine wpPT_alt (by kernel_rfl) (fun K hK=>?_) ?_
   ·skip
    have hOld:=hide hHeld
    clear hHeld
    unfold Oper.wp execOp
    go_simp
    have hal:=below_new (below_self w') (.cells #[.int .i64 0,.int .i64 0,.int .i64 0,.int .i64 0,.slice none 0 0,.slice none 0 0,.int .i64 0,.int .i64 0,.string ⟨#[]⟩,.int .i64 0,.int .i64 0,.int .i64 0,.int .i64 0] 51)
    have hb':=hal.mono (B':=W4.heap.size) (by have:=hOld.out.size;omega)
    have HFN:=hide (show RowL (w'.alloc (.cells #[.int .i64 0,.int .i64 0,.int .i64 0,.int .i64 0,.slice none 0 0,.slice none 0 0,.int .i64 0,.int .i64 0,.string ⟨#[]⟩,.int .i64 0,.int .i64 0,.int .i64 0,.int .i64 0] 51)) w'.heap.size 51 (nodC nod0 (.slice none 0 0) (.slice none 0 0)) from RowL.new w' 51 (nodC nod0 (.slice none 0 0) (.slice none 0 0)))
    have g9l:W4.heap.size≤w'.heap.size:=hOld.out.size
    refine hK.out _ _ (hOld.out.trans hb') (fun hHeld=>?_)
    clear hK K
    have HNS':=hide (HNS.out.under hal (by have:=hOld.out.size;omega))
    clear HNS
    have HNS:=HNS'
    clear HNS'
    have R9:=HFN
    clear hal hb' hOld HFN
    generalize w'.alloc (.cells #[.int .i64 0,.int .i64 0,.int .i64 0,.int .i64 0,.slice none 0 0,.slice none 0 0,.int .i64 0,.int .i64 0,.string ⟨#[]⟩,.int .i64 0,.int .i64 0,.int .i64 0,.int .i64 0] 51)=z1 at *
    generalize w'.heap.size=g9 at *
    (try simp only [Act.put,pu1,pu2,pu3])
    refine wpPT_alt (by kernel_rfl) (fun K hK=>?_) ?_
    ·skip
     have hOld:=hide hHeld
     clear hHeld
     go_simp
     go_at_call 127
     refine (First_n HFO.out HNO.out (B:=B) _ HNS.out (by have:=hOld.out.size;omega) (by omega) hel).mono ?_
     rintro e w' ⟨A2,n2,c2,C2,m2,d2,rfl,f2,f3,f4,f5,hbel⟩
     have hb':=hbel.mono (B':=W4.heap.size) (by have:=hOld.out.size;omega)
     have HD:=hide f3
     clear f3
     have HE:=hide f5
     clear f5
     have HNS':=hide (HNS.out.under hbel (by have:=hOld.out.size;omega))
     clear HNS
     have HNS:=HNS'
     clear HNS'
     have R9':=hide (R9.out.on hbel)
     clear R9
     have R9:=R9'
     clear R9'
     clear hbel
     refine hK.out _ _ (hOld.out.trans hb') (fun hHeld=>?_)
     clear hK K
     (try simp only [Act.put,pu1,pu2,pu3])
     iterate 3
      refine wpPT_take (v:=?_) (by kernel_rfl) (fun wS hSw=>?_) ?_
      rotate_left
      ·(try dsimp only at hSw);go_simp;(try with_reducible rfl)
      (try simp only [Act.put,pu1,pu2,pu3])
     refine wpPT_alt (by kernel_rfl) (fun K hK=>?_) ?_
     rotate_left
     ·exact wpPT_stop
     have hOld:=hide hHeld
     clear hHeld
     unfold Oper.wp execOp
     go_simp
     have hal:=below_new (below_self w') (.cells #[.int .i64 0,.int .i64 0,.string ⟨#[]⟩] 31)
     have hb':=hal.mono (B':=W4.heap.size) (by have:=hOld.out.size;omega)
     have HFN:=hide (show RowL (w'.alloc (.cells #[.int .i64 0,.int .i64 0,.string ⟨#[]⟩] 31)) w'.heap.size 31 [.int .i64 0,.int .i64 0,.string ⟨#[]⟩] from RowL.new w' 31 [.int .i64 0,.int .i64 0,.string ⟨#[]⟩])
     have g8l:W4.heap.size≤w'.heap.size:=hOld.out.size
     have g9ng8:g9 < w'.heap.size:=R9.out.lt
     refine hK.out _ _ (hOld.out.trans hb') (fun hHeld=>?_)
     clear hK K
     have HNS':=hide (HNS.out.under hal (by have:=hOld.out.size;omega))
     clear HNS
     have HNS:=HNS'
     clear HNS'
     have R9':=hide (R9.out.on hal)
     clear R9
     have R9:=R9'
     clear R9'
     have HD':=hide (HD.out.under hal (by have:=hOld.out.size;omega))
     clear HD
     have HD:=HD'
     clear HD'
     have HE':=hide (HE.out.under hal (by have:=hOld.out.size;omega))
     clear HE
     have HE:=HE'
     clear HE'
     have R8:=HFN
     clear hal hb' hOld HFN
     generalize w'.alloc (.cells #[.int .i64 0,.int .i64 0,.string ⟨#[]⟩] 31)=z3 at *
     generalize w'.heap.size=g8 at *
     (try simp only [Act.put,pu1,pu2,pu3])
     refine wpPT_alt (by kernel_rfl) (fun K hK=>?_) ?_
     rotate_left
     ·exact wpPT_stop
     have hOld:=hide hHeld
     clear hHeld
     refine wp_storeC 31 (.tmp 8) (.tmp 19) rfl 3 entw_size g8 0 31 rfl [.int .i64 0,.int .i64 0,.string ⟨#[]⟩] (cellsE (entO o)) rfl R8.out rfl (by exact Nat.le_refl _) (cellsE_one _) ?_
     intro w' hr' hg' hs'
     rw [splice_all [.int .i64 0,.int .i64 0,.string ⟨#[]⟩] (cellsE (entO o)) rfl] at hr'
     refine hK.out _ _ (hOld.out.grown hg' (by have:=hOld.out.size;omega) (pu4 (by omega))) (fun hHeld=>?_)
     clear hK K
     have HNS':=hide (HNS.out.mono (show Kept (Under B) _ _ from fun b hb=>hg'.block b (by unfold Under at hb;have:=hOld.out.size;omega) (fun e=>by have:=Option.some.inj e;unfold Under at hb;omega)) (fun _ h=>h))
     clear HNS
     have HNS:=HNS'
     clear HNS'
     have R9':=hide (R9.out.grown hg' (pu5 (by omega)))
     clear R9
     have R9:=R9'
     clear R9'
     have HD':=hide (HD.out.mono (show Kept (Under B) _ _ from fun b hb=>hg'.block b (by unfold Under at hb;have:=hOld.out.size;omega) (fun e=>by have:=Option.some.inj e;unfold Under at hb;omega)) (fun _ h=>h))
     clear HD
     have HD:=HD'
     clear HD'
     have HE':=hide (HE.out.mono (show Kept (Under B) _ _ from fun b hb=>hg'.block b (by unfold Under at hb;have:=hOld.out.size;omega) (fun e=>by have:=Option.some.inj e;unfold Under at hb;omega)) (fun _ h=>h))
     clear HE
     have HE:=HE'
     clear HE'
     clear R8
     have R8:=hide hr'
     clear hg' hs' hr' hOld
     (try simp only [Act.put])
     refine wpPT_alt (by kernel_rfl) (fun K hK=>?_) ?_
     rotate_left
     ·exact wpPT_stop
     have hOld:=hide hHeld
     clear hHeld
     refine wp_storeC 51 (.tmp 9) (.tmp 20) rfl 13 nod_size g9 0 51 rfl (nodC nod0 (.slice none 0 0) (.slice none 0 0)) (nodC N (.slice A2 n2 c2) (.slice C2 m2 d2)) rfl R9.out rfl (by exact Nat.le_refl _) (nodC_one _ _ _ _ _ _ _) ?_
     intro w' hr' hg' hs'
     rw [splice_all (nodC nod0 (.slice none 0 0) (.slice none 0 0)) (nodC N (.slice A2 n2 c2) (.slice C2 m2 d2)) rfl] at hr'
     refine hK.out _ _ (hOld.out.grown hg' (by have:=hOld.out.size;omega) (pu4 (by omega))) (fun hHeld=>?_)
     clear hK K
     have HNS':=hide (HNS.out.mono (show Kept (Under B) _ _ from fun b hb=>hg'.block b (by unfold Under at hb;have:=hOld.out.size;omega) (fun e=>by have:=Option.some.inj e;unfold Under at hb;omega)) (fun _ h=>h))
     clear HNS
     have HNS:=HNS'
     clear HNS'
     have HD':=hide (HD.out.mono (show Kept (Under B) _ _ from fun b hb=>hg'.block b (by unfold Under at hb;have:=hOld.out.size;omega) (fun e=>by have:=Option.some.inj e;unfold Under at hb;omega)) (fun _ h=>h))
     clear HD
     have HD:=HD'
     clear HD'
     have HE':=hide (HE.out.mono (show Kept (Under B) _ _ from fun b hb=>hg'.block b (by unfold Under at hb;have:=hOld.out.size;omega) (fun e=>by have:=Option.some.inj e;unfold Under at hb;omega)) (fun _ h=>h))
     clear HE
     have HE:=HE'
     clear HE'
     have R8':=hide (R8.out.grown hg' (pu5 (by omega)))
     clear R8
     have R8:=R8'
     clear R8'
     clear R9
     have R9:=hide hr'
     clear hg' hs' hr' hOld
     (try simp only [Act.put])
     refine wpPT_leaf ?_
     have HBX:=hide hHeld
     clear hHeld
     go_wp2_with fail
     go_meet
     case rel=>exact ⟨g8,g9,A2,n2,c2,C2,m2,d2,rfl,rfl,R8.out,R9.out,f2,HD.out,f4,HE.out,HBX.out,g8l,g9l⟩
    refine wpPT_alt (by kernel_rfl) (fun K hK=>?_) ?_
    ·skip
     have hOld:=hide hHeld
     clear hHeld
     unfold Oper.wp execOp
     go_simp
     have hal:=below_new (below_self z1) (.cells #[.int .i64 0,.int .i64 0,.string ⟨#[]⟩] 31)
     have hb':=hal.mono (B':=W4.heap.size) (by have:=hOld.out.size;omega)
     have HFN:=hide (show RowL (z1.alloc (.cells #[.int .i64 0,.int .i64 0,.string ⟨#[]⟩] 31)) z1.heap.size 31 [.int .i64 0,.int .i64 0,.string ⟨#[]⟩] from RowL.new z1 31 [.int .i64 0,.int .i64 0,.string ⟨#[]⟩])
     have g8l:W4.heap.size≤z1.heap.size:=hOld.out.size
     have g9ng8:g9 < z1.heap.size:=R9.out.lt
     refine hK.out _ _ (hOld.out.trans hb') (fun hHeld=>?_)
     clear hK K
     have HNS':=hide (HNS.out.under hal (by have:=hOld.out.size;omega))
     clear HNS
     have HNS:=HNS'
     clear HNS'
     have R9':=hide (R9.out.on hal)
     clear R9
     have R9:=R9'
     clear R9'
     have R8:=HFN
     clear hal hb' hOld HFN
     generalize z1.alloc (.cells #[.int .i64 0,.int .i64 0,.string ⟨#[]⟩] 31)=z2 at *
     generalize z1.heap.size=g8 at *
     (try simp only [Act.put,pu1,pu2,pu3])
     refine wpPT_alt (by kernel_rfl) (fun K hK=>?_) ?_
     rotate_left
     ·exact wpPT_stop
     have hOld:=hide hHeld
     clear hHeld
     go_simp
     go_at_call 127
     refine (First_n HFO.out HNO.out (B:=B) _ HNS.out (by have:=hOld.out.size;omega) (by omega) hel).mono ?_
     rintro e w' ⟨A2,n2,c2,C2,m2,d2,rfl,f2,f3,f4,f5,hbel⟩
     have hb':=hbel.mono (B':=W4.heap.size) (by have:=hOld.out.size;omega)
     have HD:=hide f3
     clear f3
     have HE:=hide f5
     clear f5
     have HNS':=hide (HNS.out.under hbel (by have:=hOld.out.size;omega))
     clear HNS
     have HNS:=HNS'
     clear HNS'
     have R9':=hide (R9.out.on hbel)
     clear R9
     have R9:=R9'
     clear R9'
     have R8':=hide (R8.out.on hbel)
     clear R8
     have R8:=R8'
     clear R8'
     clear hbel
     refine hK.out _ _ (hOld.out.trans hb') (fun hHeld=>?_)
     clear hK K
     (try simp only [Act.put,pu1,pu2,pu3])
     iterate 3
      refine wpPT_take (v:=?_) (by kernel_rfl) (fun wS hSw=>?_) ?_
      rotate_left
      ·(try dsimp only at hSw);go_simp;(try with_reducible rfl)
      (try simp only [Act.put,pu1,pu2,pu3])
     refine wpPT_alt (by kernel_rfl) (fun K hK=>?_) ?_
     rotate_left
     ·exact wpPT_stop
     have hOld:=hide hHeld
     clear hHeld
     refine wp_storeC 31 (.tmp 8) (.tmp 19) rfl 3 entw_size g8 0 31 rfl [.int .i64 0,.int .i64 0,.string ⟨#[]⟩] (cellsE (entO o)) rfl R8.out rfl (by exact Nat.le_refl _) (cellsE_one _) ?_
     intro w' hr' hg' hs'
     rw [splice_all [.int .i64 0,.int .i64 0,.string ⟨#[]⟩] (cellsE (entO o)) rfl] at hr'
     refine hK.out _ _ (hOld.out.grown hg' (by have:=hOld.out.size;omega) (pu4 (by omega))) (fun hHeld=>?_)
     clear hK K
     have HNS':=hide (HNS.out.mono (show Kept (Under B) _ _ from fun b hb=>hg'.block b (by unfold Under at hb;have:=hOld.out.size;omega) (fun e=>by have:=Option.some.inj e;unfold Under at hb;omega)) (fun _ h=>h))
     clear HNS
     have HNS:=HNS'
     clear HNS'
     have R9':=hide (R9.out.grown hg' (pu5 (by omega)))
     clear R9
     have R9:=R9'
     clear R9'
     have HD':=hide (HD.out.mono (show Kept (Under B) _ _ from fun b hb=>hg'.block b (by unfold Under at hb;have:=hOld.out.size;omega) (fun e=>by have:=Option.some.inj e;unfold Under at hb;omega)) (fun _ h=>h))
     clear HD
     have HD:=HD'
     clear HD'
     have HE':=hide (HE.out.mono (show Kept (Under B) _ _ from fun b hb=>hg'.block b (by unfold Under at hb;have:=hOld.out.size;omega) (fun e=>by have:=Option.some.inj e;unfold Under at hb;omega)) (fun _ h=>h))
     clear HE
     have HE:=HE'
     clear HE'
     clear R8
     have R8:=hide hr'
     clear hg' hs' hr' hOld
     (try simp only [Act.put])
     refine wpPT_alt (by kernel_rfl) (fun K hK=>?_) ?_
     rotate_left
     ·exact wpPT_stop
     have hOld:=hide hHeld
     clear hHeld
     refine wp_storeC 51 (.tmp 9) (.tmp 20) rfl 13 nod_size g9 0 51 rfl (nodC nod0 (.slice none 0 0) (.slice none 0 0)) (nodC N (.slice A2 n2 c2) (.slice C2 m2 d2)) rfl R9.out rfl (by exact Nat.le_refl _) (nodC_one _ _ _ _ _ _ _) ?_
     intro w' hr' hg' hs'
     rw [splice_all (nodC nod0 (.slice none 0 0) (.slice none 0 0)) (nodC N (.slice A2 n2 c2) (.slice C2 m2 d2)) rfl] at hr'
     refine hK.out _ _ (hOld.out.grown hg' (by have:=hOld.out.size;omega) (pu4 (by omega))) (fun hHeld=>?_)
     clear hK K
     have HNS':=hide (HNS.out.mono (show Kept (Under B) _ _ from fun b hb=>hg'.block b (by unfold Under at hb;have:=hOld.out.size;omega) (fun e=>by have:=Option.some.inj e;unfold Under at hb;omega)) (fun _ h=>h))
     clear HNS
     have HNS:=HNS'
     clear HNS'
     have R8':=hide (R8.out.grown hg' (pu5 (by omega)))
     clear R8
     have R8:=R8'
     clear R8'
     have HD':=hide (HD.out.mono (show Kept (Under B) _ _ from fun b hb=>hg'.block b (by unfold Under at hb;have:=hOld.out.size;omega) (fun e=>by have:=Option.some.inj e;unfold Under at hb;omega)) (fun _ h=>h))
     clear HD
     have HD:=HD'
     clear HD'
     have HE':=hide (HE.out.mono (show Kept (Under B) _ _ from fun b hb=>hg'.block b (by unfold Under at hb;have:=hOld.out.size;omega) (fun e=>by have:=Option.some.inj e;unfold Under at hb;omega)) (fun _ h=>h))
     clear HE
     have HE:=HE'
     clear HE'
     clear R9
     have R9:=hide hr'
     clear hg' hs' hr' hOld
     (try simp only [Act.put])
     refine wpPT_leaf ?_
     have HBX:=hide hHeld
     clear hHeld
     go_wp2_with fail
     go_meet
     case rel=>exact ⟨g8,g9,A2,n2,c2,C2,m2,d2,rfl,rfl,R8.out,R9.out,f2,HD.out,f4,HE.out,HBX.out,g8l,g9l⟩
    exact wpPT_stop
   exact wpPT_stop
  refine wpPT_alt (by kernel_rfl) (fun K hK=>?_) ?_
  ·skip
   have hOld:=hide hHeld
   clear hHeld
   unfold Oper.wp execOp
   go_simp
   have hal:=below_new (below_self wd) (.cells #[.int .i64 0,.int .i64 0,.string ⟨#[]⟩] 31)
   have hb':=hal.mono (B':=W4.heap.size) (by have:=hOld.out.size;omega)
   have HFN:=hide (show RowL (wd.alloc (.cells #[.int .i64 0,.int .i64 0,.string ⟨#[]⟩] 31)) wd.heap.size 31 [.int .i64 0,.int .i64 0,.string ⟨#[]⟩] from RowL.new wd 31 [.int .i64 0,.int .i64 0,.string ⟨#[]⟩])
   have g8l:W4.heap.size≤wd.heap.size:=hOld.out.size
   refine hK.out _ _ (hOld.out.trans hb') (fun hHeld=>?_)
   clear hK K
   have R8:=HFN
   clear hal hb' hOld HFN
   generalize wd.alloc (.cells #[.int .i64 0,.int .i64 0,.string ⟨#[]⟩] 31)=z0 at *
   generalize wd.heap.size=g8 at *
   (try simp only [Act.put,pu1,pu2,pu3])
   refine wpPT_alt (by kernel_rfl) (fun K hK=>?_) ?_
   ·skip
    have hOld:=hide hHeld
    clear hHeld
    go_simp
    go_at_call 119
    refine (Beneath_e HLY.out (B:=B) _ (HL.out.under hOld.out (by omega)) (by have:=hOld.out.size;omega) hm).mono ?_
    rintro e w' ⟨A1,n1,c1,rfl,e2,e3,hbel⟩
    have hb':=hbel.mono (B':=W4.heap.size) (by have:=hOld.out.size;omega)
    have HNS:=hide e3
    clear e3
    have R8':=hide (R8.out.on hbel)
    clear R8
    have R8:=R8'
    clear R8'
    clear hbel
    refine hK.out _ _ (hOld.out.trans hb') (fun hHeld=>?_)
    clear hK K
    (try simp only [Act.put,pu1,pu2,pu3])
    refine wpPT_alt (by kernel_rfl) (fun K hK=>?_) ?_
    ·skip
     have hOld:=hide hHeld
     clear hHeld
     go_simp
     go_at_call 127
     refine (First_n HFO.out HNO.out (B:=B) _ HNS.out (by have:=hOld.out.size;omega) (by omega) hel).mono ?_
     rintro e w' ⟨A2,n2,c2,C2,m2,d2,rfl,f2,f3,f4,f5,hbel⟩
     have hb':=hbel.mono (B':=W4.heap.size) (by have:=hOld.out.size;omega)
     have HD:=hide f3
     clear f3
     have HE:=hide f5
     clear f5
     have R8':=hide (R8.out.on hbel)
     clear R8
     have R8:=R8'
     clear R8'
     have HNS':=hide (HNS.out.under hbel (by have:=hOld.out.size;omega))
     clear HNS
     have HNS:=HNS'
     clear HNS'
     clear hbel
     refine hK.out _ _ (hOld.out.trans hb') (fun hHeld=>?_)
     clear hK K
     (try simp only [Act.put,pu1,pu2,pu3])
     iterate 3
      refine wpPT_take (v:=?_) (by kernel_rfl) (fun wS hSw=>?_) ?_
      rotate_left
      ·(try dsimp only at hSw);go_simp;(try with_reducible rfl)
      (try simp only [Act.put,pu1,pu2,pu3])
     refine wpPT_alt (by kernel_rfl) (fun K hK=>?_) ?_
     rotate_left
     ·exact wpPT_stop
     have hOld:=hide hHeld
     clear hHeld
     unfold Oper.wp execOp
     go_simp
     have hal:=below_new (below_self w') (.cells #[.int .i64 0,.int .i64 0,.int .i64 0,.int .i64 0,.slice none 0 0,.slice none 0 0,.int .i64 0,.int .i64 0,.string ⟨#[]⟩,.int .i64 0,.int .i64 0,.int .i64 0,.int .i64 0] 51)
     have hb':=hal.mono (B':=W4.heap.size) (by have:=hOld.out.size;omega)
     have HFN:=hide (show RowL (w'.alloc (.cells #[.int .i64 0,.int .i64 0,.int .i64 0,.int .i64 0,.slice none 0 0,.slice none 0 0,.int .i64 0,.int .i64 0,.string ⟨#[]⟩,.int .i64 0,.int .i64 0,.int .i64 0,.int .i64 0] 51)) w'.heap.size 51 (nodC nod0 (.slice none 0 0) (.slice none 0 0)) from RowL.new w' 51 (nodC nod0 (.slice none 0 0) (.slice none 0 0)))
     have g9l:W4.heap.size≤w'.heap.size:=hOld.out.size
     have g8ng9:g8 < w'.heap.size:=R8.out.lt
     refine hK.out _ _ (hOld.out.trans hb') (fun hHeld=>?_)
     clear hK K
     have R8':=hide (R8.out.on hal)
     clear R8
     have R8:=R8'
     clear R8'
     have HNS':=hide (HNS.out.under hal (by have:=hOld.out.size;omega))
     clear HNS
     have HNS:=HNS'
     clear HNS'
     have HD':=hide (HD.out.under hal (by have:=hOld.out.size;omega))
     clear HD
     have HD:=HD'
     clear HD'
     have HE':=hide (HE.out.under hal (by have:=hOld.out.size;omega))
     clear HE
     have HE:=HE'
     clear HE'
     have R9:=HFN
     clear hal hb' hOld HFN
     generalize w'.alloc (.cells #[.int .i64 0,.int .i64 0,.int .i64 0,.int .i64 0,.slice none 0 0,.slice none 0 0,.int .i64 0,.int .i64 0,.string ⟨#[]⟩,.int .i64 0,.int .i64 0,.int .i64 0,.int .i64 0] 51)=z3 at *
     generalize w'.heap.size=g9 at *
     (try simp only [Act.put,pu1,pu2,pu3])
     refine wpPT_alt (by kernel_rfl) (fun K hK=>?_) ?_
     rotate_left
     ·exact wpPT_stop
     have hOld:=hide hHeld
     clear hHeld
     refine wp_storeC 31 (.tmp 8) (.tmp 19) rfl 3 entw_size g8 0 31 rfl [.int .i64 0,.int .i64 0,.string ⟨#[]⟩] (cellsE (entO o)) rfl R8.out rfl (by exact Nat.le_refl _) (cellsE_one _) ?_
     intro w' hr' hg' hs'
     rw [splice_all [.int .i64 0,.int .i64 0,.string ⟨#[]⟩] (cellsE (entO o)) rfl] at hr'
     refine hK.out _ _ (hOld.out.grown hg' (by have:=hOld.out.size;omega) (pu4 (by omega))) (fun hHeld=>?_)
     clear hK K
     have HNS':=hide (HNS.out.mono (show Kept (Under B) _ _ from fun b hb=>hg'.block b (by unfold Under at hb;have:=hOld.out.size;omega) (fun e=>by have:=Option.some.inj e;unfold Under at hb;omega)) (fun _ h=>h))
     clear HNS
     have HNS:=HNS'
     clear HNS'
     have HD':=hide (HD.out.mono (show Kept (Under B) _ _ from fun b hb=>hg'.block b (by unfold Under at hb;have:=hOld.out.size;omega) (fun e=>by have:=Option.some.inj e;unfold Under at hb;omega)) (fun _ h=>h))
     clear HD
     have HD:=HD'
     clear HD'
     have HE':=hide (HE.out.mono (show Kept (Under B) _ _ from fun b hb=>hg'.block b (by unfold Under at hb;have:=hOld.out.size;omega) (fun e=>by have:=Option.some.inj e;unfold Under at hb;omega)) (fun _ h=>h))
     clear HE
     have HE:=HE'
     clear HE'
     have R9':=hide (R9.out.grown hg' (pu5 (by omega)))
     clear R9
     have R9:=R9'
     clear R9'
     clear R8
     have R8:=hide hr'
     clear hg' hs' hr' hOld
     (try simp only [Act.put])
     refine wpPT_alt (by kernel_rfl) (fun K hK=>?_) ?_
     rotate_left
     ·exact wpPT_stop
     have hOld:=hide hHeld
     clear hHeld
     refine wp_storeC 51 (.tmp 9) (.tmp 20) rfl 13 nod_size g9 0 51 rfl (nodC nod0 (.slice none 0 0) (.slice none 0 0)) (nodC N (.slice A2 n2 c2) (.slice C2 m2 d2)) rfl R9.out rfl (by exact Nat.le_refl _) (nodC_one _ _ _ _ _ _ _) ?_
     intro w' hr' hg' hs'
     rw [splice_all (nodC nod0 (.slice none 0 0) (.slice none 0 0)) (nodC N (.slice A2 n2 c2) (.slice C2 m2 d2)) rfl] at hr'
     refine hK.out _ _ (hOld.out.grown hg' (by have:=hOld.out.size;omega) (pu4 (by omega))) (fun hHeld=>?_)
     clear hK K
     have R8':=hide (R8.out.grown hg' (pu5 (by omega)))
     clear R8
     have R8:=R8'
     clear R8'
     have HNS':=hide (HNS.out.mono (show Kept (Under B) _ _ from fun b hb=>hg'.block b (by unfold Under at hb;have:=hOld.out.size;omega) (fun e=>by have:=Option.some.inj e;unfold Under at hb;omega)) (fun _ h=>h))
     clear HNS
     have HNS:=HNS'
     clear HNS'
     have HD':=hide (HD.out.mono (show Kept (Under B) _ _ from fun b hb=>hg'.block b (by unfold Under at hb;have:=hOld.out.size;omega) (fun e=>by have:=Option.some.inj e;unfold Under at hb;omega)) (fun _ h=>h))
     clear HD
     have HD:=HD'
     clear HD'
     have HE':=hide (HE.out.mono (show Kept (Under B) _ _ from fun b hb=>hg'.block b (by unfold Under at hb;have:=hOld.out.size;omega) (fun e=>by have:=Option.some.inj e;unfold Under at hb;omega)) (fun _ h=>h))
     clear HE
     have HE:=HE'
     clear HE'
     clear R9
     have R9:=hide hr'
     clear hg' hs' hr' hOld
     (try simp only [Act.put])
     refine wpPT_leaf ?_
     have HBX:=hide hHeld
     clear hHeld
     go_wp2_with fail
     go_meet
     case rel=>exact ⟨g8,g9,A2,n2,c2,C2,m2,d2,rfl,rfl,R8.out,R9.out,f2,HD.out,f4,HE.out,HBX.out,g8l,g9l⟩
    refine wpPT_alt (by kernel_rfl) (fun K hK=>?_) ?_
    ·skip
     have hOld:=hide hHeld
     clear hHeld
     unfold Oper.wp execOp
     go_simp
     have hal:=below_new (below_self w') (.cells #[.int .i64 0,.int .i64 0,.int .i64 0,.int .i64 0,.slice none 0 0,.slice none 0 0,.int .i64 0,.int .i64 0,.string ⟨#[]⟩,.int .i64 0,.int .i64 0,.int .i64 0,.int .i64 0] 51)
     have hb':=hal.mono (B':=W4.heap.size) (by have:=hOld.out.size;omega)
     have HFN:=hide (show RowL (w'.alloc (.cells #[.int .i64 0,.int .i64 0,.int .i64 0,.int .i64 0,.slice none 0 0,.slice none 0 0,.int .i64 0,.int .i64 0,.string ⟨#[]⟩,.int .i64 0,.int .i64 0,.int .i64 0,.int .i64 0] 51)) w'.heap.size 51 (nodC nod0 (.slice none 0 0) (.slice none 0 0)) from RowL.new w' 51 (nodC nod0 (.slice none 0 0) (.slice none 0 0)))
     have g9l:W4.heap.size≤w'.heap.size:=hOld.out.size
     have g8ng9:g8 < w'.heap.size:=R8.out.lt
     refine hK.out _ _ (hOld.out.trans hb') (fun hHeld=>?_)
     clear hK K
     have R8':=hide (R8.out.on hal)
     clear R8
     have R8:=R8'
     clear R8'
     have HNS':=hide (HNS.out.under hal (by have:=hOld.out.size;omega))
     clear HNS
     have HNS:=HNS'
     clear HNS'
     have R9:=HFN
     clear hal hb' hOld HFN
     generalize w'.alloc (.cells #[.int .i64 0,.int .i64 0,.int .i64 0,.int .i64 0,.slice none 0 0,.slice none 0 0,.int .i64 0,.int .i64 0,.string ⟨#[]⟩,.int .i64 0,.int .i64 0,.int .i64 0,.int .i64 0] 51)=z2 at *
     generalize w'.heap.size=g9 at *
     (try simp only [Act.put,pu1,pu2,pu3])
     refine wpPT_alt (by kernel_rfl) (fun K hK=>?_) ?_
     rotate_left
     ·exact wpPT_stop
     have hOld:=hide hHeld
     clear hHeld
     go_simp
     go_at_call 127
     refine (First_n HFO.out HNO.out (B:=B) _ HNS.out (by have:=hOld.out.size;omega) (by omega) hel).mono ?_
     rintro e w' ⟨A2,n2,c2,C2,m2,d2,rfl,f2,f3,f4,f5,hbel⟩
     have hb':=hbel.mono (B':=W4.heap.size) (by have:=hOld.out.size;omega)
     have HD:=hide f3
     clear f3
     have HE:=hide f5
     clear f5
     have R8':=hide (R8.out.on hbel)
     clear R8
     have R8:=R8'
     clear R8'
     have HNS':=hide (HNS.out.under hbel (by have:=hOld.out.size;omega))
     clear HNS
     have HNS:=HNS'
     clear HNS'
     have R9':=hide (R9.out.on hbel)
     clear R9
     have R9:=R9'
     clear R9'
     clear hbel
     refine hK.out _ _ (hOld.out.trans hb') (fun hHeld=>?_)
     clear hK K
     (try simp only [Act.put,pu1,pu2,pu3])
     iterate 3
      refine wpPT_take (v:=?_) (by kernel_rfl) (fun wS hSw=>?_) ?_
      rotate_left
      ·(try dsimp only at hSw);go_simp;(try with_reducible rfl)
      (try simp only [Act.put,pu1,pu2,pu3])
     refine wpPT_alt (by kernel_rfl) (fun K hK=>?_) ?_
     rotate_left
     ·exact wpPT_stop
     have hOld:=hide hHeld
     clear hHeld
     refine wp_storeC 31 (.tmp 8) (.tmp 19) rfl 3 entw_size g8 0 31 rfl [.int .i64 0,.int .i64 0,.string ⟨#[]⟩] (cellsE (entO o)) rfl R8.out rfl (by exact Nat.le_refl _) (cellsE_one _) ?_
     intro w' hr' hg' hs'
     rw [splice_all [.int .i64 0,.int .i64 0,.string ⟨#[]⟩] (cellsE (entO o)) rfl] at hr'
     refine hK.out _ _ (hOld.out.grown hg' (by have:=hOld.out.size;omega) (pu4 (by omega))) (fun hHeld=>?_)
     clear hK K
     have HNS':=hide (HNS.out.mono (show Kept (Under B) _ _ from fun b hb=>hg'.block b (by unfold Under at hb;have:=hOld.out.size;omega) (fun e=>by have:=Option.some.inj e;unfold Under at hb;omega)) (fun _ h=>h))
     clear HNS
     have HNS:=HNS'
     clear HNS'
     have R9':=hide (R9.out.grown hg' (pu5 (by omega)))
     clear R9
     have R9:=R9'
     clear R9'
     have HD':=hide (HD.out.mono (show Kept (Under B) _ _ from fun b hb=>hg'.block b (by unfold Under at hb;have:=hOld.out.size;omega) (fun e=>by have:=Option.some.inj e;unfold Under at hb;omega)) (fun _ h=>h))
     clear HD
     have HD:=HD'
     clear HD'
     have HE':=hide (HE.out.mono (show Kept (Under B) _ _ from fun b hb=>hg'.block b (by unfold Under at hb;have:=hOld.out.size;omega) (fun e=>by have:=Option.some.inj e;unfold Under at hb;omega)) (fun _ h=>h))
     clear HE
     have HE:=HE'
     clear HE'
     clear R8
     have R8:=hide hr'
     clear hg' hs' hr' hOld
     (try simp only [Act.put])
     refine wpPT_alt (by kernel_rfl) (fun K hK=>?_) ?_
     rotate_left
     ·exact wpPT_stop
     have hOld:=hide hHeld
     clear hHeld
     refine wp_storeC 51 (.tmp 9) (.tmp 20) rfl 13 nod_size g9 0 51 rfl (nodC nod0 (.slice none 0 0) (.slice none 0 0)) (nodC N (.slice A2 n2 c2) (.slice C2 m2 d2)) rfl R9.out rfl (by exact Nat.le_refl _) (nodC_one _ _ _ _ _ _ _) ?_
     intro w' hr' hg' hs'
     rw [splice_all (nodC nod0 (.slice none 0 0) (.slice none 0 0)) (nodC N (.slice A2 n2 c2) (.slice C2 m2 d2)) rfl] at hr'
     refine hK.out _ _ (hOld.out.grown hg' (by have:=hOld.out.size;omega) (pu4 (by omega))) (fun hHeld=>?_)
     clear hK K
     have R8':=hide (R8.out.grown hg' (pu5 (by omega)))
     clear R8
     have R8:=R8'
     clear R8'
     have HNS':=hide (HNS.out.mono (show Kept (Under B) _ _ from fun b hb=>hg'.block b (by unfold Under at hb;have:=hOld.out.size;omega) (fun e=>by have:=Option.some.inj e;unfold Under at hb;omega)) (fun _ h=>h))
     clear HNS
     have HNS:=HNS'
     clear HNS'
     have HD':=hide (HD.out.mono (show Kept (Under B) _ _ from fun b hb=>hg'.block b (by unfold Under at hb;have:=hOld.out.size;omega) (fun e=>by have:=Option.some.inj e;unfold Under at hb;omega)) (fun _ h=>h))
     clear HD
     have HD:=HD'
     clear HD'
     have HE':=hide (HE.out.mono (show Kept (Under B) _ _ from fun b hb=>hg'.block b (by unfold Under at hb;have:=hOld.out.size;omega) (fun e=>by have:=Option.some.inj e;unfold Under at hb;omega)) (fun _ h=>h))
     clear HE
     have HE:=HE'
     clear HE'
     clear R9
     have R9:=hide hr'
     clear hg' hs' hr' hOld
     (try simp only [Act.put])
     refine wpPT_leaf ?_
     have HBX:=hide hHeld
     clear hHeld
     go_wp2_with fail
     go_meet
     case rel=>exact ⟨g8,g9,A2,n2,c2,C2,m2,d2,rfl,rfl,R8.out,R9.out,f2,HD.out,f4,HE.out,HBX.out,g8l,g9l⟩
    exact wpPT_stop
   refine wpPT_alt (by kernel_rfl) (fun K hK=>?_) ?_
   ·skip
    have hOld:=hide hHeld
    clear hHeld
    unfold Oper.wp execOp
    go_simp
    have hal:=below_new (below_self z0) (.cells #[.int .i64 0,.int .i64 0,.int .i64 0,.int .i64 0,.slice none 0 0,.slice none 0 0,.int .i64 0,.int .i64 0,.string ⟨#[]⟩,.int .i64 0,.int .i64 0,.int .i64 0,.int .i64 0] 51)
    have hb':=hal.mono (B':=W4.heap.size) (by have:=hOld.out.size;omega)
    have HFN:=hide (show RowL (z0.alloc (.cells #[.int .i64 0,.int .i64 0,.int .i64 0,.int .i64 0,.slice none 0 0,.slice none 0 0,.int .i64 0,.int .i64 0,.string ⟨#[]⟩,.int .i64 0,.int .i64 0,.int .i64 0,.int .i64 0] 51)) z0.heap.size 51 (nodC nod0 (.slice none 0 0) (.slice none 0 0)) from RowL.new z0 51 (nodC nod0 (.slice none 0 0) (.slice none 0 0)))
    have g9l:W4.heap.size≤z0.heap.size:=hOld.out.size
    have g8ng9:g8 < z0.heap.size:=R8.out.lt
    refine hK.out _ _ (hOld.out.trans hb') (fun hHeld=>?_)
    clear hK K
    have R8':=hide (R8.out.on hal)
    clear R8
    have R8:=R8'
    clear R8'
    have R9:=HFN
    clear hal hb' hOld HFN
    generalize z0.alloc (.cells #[.int .i64 0,.int .i64 0,.int .i64 0,.int .i64 0,.slice none 0 0,.slice none 0 0,.int .i64 0,.int .i64 0,.string ⟨#[]⟩,.int .i64 0,.int .i64 0,.int .i64 0,.int .i64 0] 51)=z1 at *
    generalize z0.heap.size=g9 at *
    (try simp only [Act.put,pu1,pu2,pu3])
    refine wpPT_alt (by kernel_rfl) (fun K hK=>?_) ?_
    rotate_left
    ·exact wpPT_stop
    have hOld:=hide hHeld
    clear hHeld
    go_simp
    go_at_call 119
    refine (Beneath_e HLY.out (B:=B) _ (HL.out.under hOld.out (by omega)) (by have:=hOld.out.size;omega) hm).mono ?_
    rintro e w' ⟨A1,n1,c1,rfl,e2,e3,hbel⟩
    have hb':=hbel.mono (B':=W4.heap.size) (by have:=hOld.out.size;omega)
    have HNS:=hide e3
    clear e3
    have R8':=hide (R8.out.on hbel)
    clear R8
    have R8:=R8'
    clear R8'
    have R9':=hide (R9.out.on hbel)
    clear R9
    have R9:=R9'
    clear R9'
    clear hbel
    refine hK.out _ _ (hOld.out.trans hb') (fun hHeld=>?_)
    clear hK K
    (try simp only [Act.put,pu1,pu2,pu3])
    refine wpPT_alt (by kernel_rfl) (fun K hK=>?_) ?_
    rotate_left
    ·exact wpPT_stop
    have hOld:=hide hHeld
    clear hHeld
    go_simp
    go_at_call 127
    refine (First_n HFO.out HNO.out (B:=B) _ HNS.out (by have:=hOld.out.size;omega) (by omega) hel).mono ?_
    rintro e w' ⟨A2,n2,c2,C2,m2,d2,rfl,f2,f3,f4,f5,hbel⟩
    have hb':=hbel.mono (B':=W4.heap.size) (by have:=hOld.out.size;omega)
    have HD:=hide f3
    clear f3
    have HE:=hide f5
    clear f5
    have R8':=hide (R8.out.on hbel)
    clear R8
    have R8:=R8'
    clear R8'
    have R9':=hide (R9.out.on hbel)
    clear R9
    have R9:=R9'
    clear R9'
    have HNS':=hide (HNS.out.under hbel (by have:=hOld.out.size;omega))
    clear HNS
    have HNS:=HNS'
    clear HNS'
    clear hbel
    refine hK.out _ _ (hOld.out.trans hb') (fun hHeld=>?_)
    clear hK K
    (try simp only [Act.put,pu1,pu2,pu3])
    iterate 3
     refine wpPT_take (v:=?_) (by kernel_rfl) (fun wS hSw=>?_) ?_
     rotate_left
     ·(try dsimp only at hSw);go_simp;(try with_reducible rfl)
     (try simp only [Act.put,pu1,pu2,pu3])
    refine wpPT_alt (by kernel_rfl) (fun K hK=>?_) ?_
    rotate_left
    ·exact wpPT_stop
    have hOld:=hide hHeld
    clear hHeld
    refine wp_storeC 31 (.tmp 8) (.tmp 19) rfl 3 entw_size g8 0 31 rfl [.int .i64 0,.int .i64 0,.string ⟨#[]⟩] (cellsE (entO o)) rfl R8.out rfl (by exact Nat.le_refl _) (cellsE_one _) ?_
    intro w' hr' hg' hs'
    rw [splice_all [.int .i64 0,.int .i64 0,.string ⟨#[]⟩] (cellsE (entO o)) rfl] at hr'
    refine hK.out _ _ (hOld.out.grown hg' (by have:=hOld.out.size;omega) (pu4 (by omega))) (fun hHeld=>?_)
    clear hK K
    have R9':=hide (R9.out.grown hg' (pu5 (by omega)))
    clear R9
    have R9:=R9'
    clear R9'
    have HNS':=hide (HNS.out.mono (show Kept (Under B) _ _ from fun b hb=>hg'.block b (by unfold Under at hb;have:=hOld.out.size;omega) (fun e=>by have:=Option.some.inj e;unfold Under at hb;omega)) (fun _ h=>h))
    clear HNS
    have HNS:=HNS'
    clear HNS'
    have HD':=hide (HD.out.mono (show Kept (Under B) _ _ from fun b hb=>hg'.block b (by unfold Under at hb;have:=hOld.out.size;omega) (fun e=>by have:=Option.some.inj e;unfold Under at hb;omega)) (fun _ h=>h))
    clear HD
    have HD:=HD'
    clear HD'
    have HE':=hide (HE.out.mono (show Kept (Under B) _ _ from fun b hb=>hg'.block b (by unfold Under at hb;have:=hOld.out.size;omega) (fun e=>by have:=Option.some.inj e;unfold Under at hb;omega)) (fun _ h=>h))
    clear HE
    have HE:=HE'
    clear HE'
    clear R8
    have R8:=hide hr'
    clear hg' hs' hr' hOld
    (try simp only [Act.put])
    refine wpPT_alt (by kernel_rfl) (fun K hK=>?_) ?_
    rotate_left
    ·exact wpPT_stop
    have hOld:=hide hHeld
    clear hHeld
    refine wp_storeC 51 (.tmp 9) (.tmp 20) rfl 13 nod_size g9 0 51 rfl (nodC nod0 (.slice none 0 0) (.slice none 0 0)) (nodC N (.slice A2 n2 c2) (.slice C2 m2 d2)) rfl R9.out rfl (by exact Nat.le_refl _) (nodC_one _ _ _ _ _ _ _) ?_
    intro w' hr' hg' hs'
    rw [splice_all (nodC nod0 (.slice none 0 0) (.slice none 0 0)) (nodC N (.slice A2 n2 c2) (.slice C2 m2 d2)) rfl] at hr'
    refine hK.out _ _ (hOld.out.grown hg' (by have:=hOld.out.size;omega) (pu4 (by omega))) (fun hHeld=>?_)
    clear hK K
    have R8':=hide (R8.out.grown hg' (pu5 (by omega)))
    clear R8
    have R8:=R8'
    clear R8'
    have HNS':=hide (HNS.out.mono (show Kept (Under B) _ _ from fun b hb=>hg'.block b (by unfold Under at hb;have:=hOld.out.size;omega) (fun e=>by have:=Option.some.inj e;unfold Under at hb;omega)) (fun _ h=>h))
    clear HNS
    have HNS:=HNS'
    clear HNS'
    have HD':=hide (HD.out.mono (show Kept (Under B) _ _ from fun b hb=>hg'.block b (by unfold Under at hb;have:=hOld.out.size;omega) (fun e=>by have:=Option.some.inj e;unfold Under at hb;omega)) (fun _ h=>h))
    clear HD
    have HD:=HD'
    clear HD'
    have HE':=hide (HE.out.mono (show Kept (Under B) _ _ from fun b hb=>hg'.block b (by unfold Under at hb;have:=hOld.out.size;omega) (fun e=>by have:=Option.some.inj e;unfold Under at hb;omega)) (fun _ h=>h))
    clear HE
    have HE:=HE'
    clear HE'
    clear R9
    have R9:=hide hr'
    clear hg' hs' hr' hOld
    (try simp only [Act.put])
    refine wpPT_leaf ?_
    have HBX:=hide hHeld
    clear hHeld
    go_wp2_with fail
    go_meet
    case rel=>exact ⟨g8,g9,A2,n2,c2,C2,m2,d2,rfl,rfl,R8.out,R9.out,f2,HD.out,f4,HE.out,HBX.out,g8l,g9l⟩
   exact wpPT_stop
  refine wpPT_alt (by kernel_rfl) (fun K hK=>?_) ?_
  ·skip
   have hOld:=hide hHeld
   clear hHeld
   unfold Oper.wp execOp
   go_simp
   have hal:=below_new (below_self wd) (.cells #[.int .i64 0,.int .i64 0,.int .i64 0,.int .i64 0,.slice none 0 0,.slice none 0 0,.int .i64 0,.int .i64 0,.string ⟨#[]⟩,.int .i64 0,.int .i64 0,.int .i64 0,.int .i64 0] 51)
   have hb':=hal.mono (B':=W4.heap.size) (by have:=hOld.out.size;omega)
   have HFN:=hide (show RowL (wd.alloc (.cells #[.int .i64 0,.int .i64 0,.int .i64 0,.int .i64 0,.slice none 0 0,.slice none 0 0,.int .i64 0,.int .i64 0,.string ⟨#[]⟩,.int .i64 0,.int .i64 0,.int .i64 0,.int .i64 0] 51)) wd.heap.size 51 (nodC nod0 (.slice none 0 0) (.slice none 0 0)) from RowL.new wd 51 (nodC nod0 (.slice none 0 0) (.slice none 0 0)))
   have g9l:W4.heap.size≤wd.heap.size:=hOld.out.size
   refine hK.out _ _ (hOld.out.trans hb') (fun hHeld=>?_)
   clear hK K
   have R9:=HFN
   clear hal hb' hOld HFN
   generalize wd.alloc (.cells #[.int .i64 0,.int .i64 0,.int .i64 0,.int .i64 0,.slice none 0 0,.slice none 0 0,.int .i64 0,.int .i64 0,.string ⟨#[]⟩,.int .i64 0,.int .i64 0,.int .i64 0,.int .i64 0] 51)=z0 at *
   generalize wd.heap.size=g9 at *
   (try simp only [Act.put,pu1,pu2,pu3])
   refine wpPT_alt (by kernel_rfl) (fun K hK=>?_) ?_
   ·skip
    have hOld:=hide hHeld
    clear hHeld
    go_simp
    go_at_call 119
    refine (Beneath_e HLY.out (B:=B) _ (HL.out.under hOld.out (by omega)) (by have:=hOld.out.size;omega) hm).mono ?_
    rintro e w' ⟨A1,n1,c1,rfl,e2,e3,hbel⟩
    have hb':=hbel.mono (B':=W4.heap.size) (by have:=hOld.out.size;omega)
    have HNS:=hide e3
    clear e3
    have R9':=hide (R9.out.on hbel)
    clear R9
    have R9:=R9'
    clear R9'
    clear hbel
    refine hK.out _ _ (hOld.out.trans hb') (fun hHeld=>?_)
    clear hK K
    (try simp only [Act.put,pu1,pu2,pu3])
    refine wpPT_alt (by kernel_rfl) (fun K hK=>?_) ?_
    ·skip
     have hOld:=hide hHeld
     clear hHeld
     go_simp
     go_at_call 127
     refine (First_n HFO.out HNO.out (B:=B) _ HNS.out (by have:=hOld.out.size;omega) (by omega) hel).mono ?_
     rintro e w' ⟨A2,n2,c2,C2,m2,d2,rfl,f2,f3,f4,f5,hbel⟩
     have hb':=hbel.mono (B':=W4.heap.size) (by have:=hOld.out.size;omega)
     have HD:=hide f3
     clear f3
     have HE:=hide f5
     clear f5
     have R9':=hide (R9.out.on hbel)
     clear R9
     have R9:=R9'
     clear R9'
     have HNS':=hide (HNS.out.under hbel (by have:=hOld.out.size;omega))
     clear HNS
     have HNS:=HNS'
     clear HNS'
     clear hbel
     refine hK.out _ _ (hOld.out.trans hb') (fun hHeld=>?_)
     clear hK K
     (try simp only [Act.put,pu1,pu2,pu3])
     iterate 3
      refine wpPT_take (v:=?_) (by kernel_rfl) (fun wS hSw=>?_) ?_
      rotate_left
      ·(try dsimp only at hSw);go_simp;(try with_reducible rfl)
      (try simp only [Act.put,pu1,pu2,pu3])
     refine wpPT_alt (by kernel_rfl) (fun K hK=>?_) ?_
     rotate_left
     ·exact wpPT_stop
     have hOld:=hide hHeld
     clear hHeld
     unfold Oper.wp execOp
     go_simp
     have hal:=below_new (below_self w') (.cells #[.int .i64 0,.int .i64 0,.string ⟨#[]⟩] 31)
     have hb':=hal.mono (B':=W4.heap.size) (by have:=hOld.out.size;omega)
     have HFN:=hide (show RowL (w'.alloc (.cells #[.int .i64 0,.int .i64 0,.string ⟨#[]⟩] 31)) w'.heap.size 31 [.int .i64 0,.int .i64 0,.string ⟨#[]⟩] from RowL.new w' 31 [.int .i64 0,.int .i64 0,.string ⟨#[]⟩])
     have g8l:W4.heap.size≤w'.heap.size:=hOld.out.size
     have g9ng8:g9 < w'.heap.size:=R9.out.lt
     refine hK.out _ _ (hOld.out.trans hb') (fun hHeld=>?_)
     clear hK K
     have R9':=hide (R9.out.on hal)
     clear R9
     have R9:=R9'
     clear R9'
     have HNS':=hide (HNS.out.under hal (by have:=hOld.out.size;omega))
     clear HNS
     have HNS:=HNS'
     clear HNS'
     have HD':=hide (HD.out.under hal (by have:=hOld.out.size;omega))
     clear HD
     have HD:=HD'
     clear HD'
     have HE':=hide (HE.out.under hal (by have:=hOld.out.size;omega))
     clear HE
     have HE:=HE'
     clear HE'
     have R8:=HFN
     clear hal hb' hOld HFN
     generalize w'.alloc (.cells #[.int .i64 0,.int .i64 0,.string ⟨#[]⟩] 31)=z3 at *
     generalize w'.heap.size=g8 at *
     (try simp only [Act.put,pu1,pu2,pu3])
     refine wpPT_alt (by kernel_rfl) (fun K hK=>?_) ?_
     rotate_left
     ·exact wpPT_stop
     have hOld:=hide hHeld
     clear hHeld
     refine wp_storeC 31 (.tmp 8) (.tmp 19) rfl 3 entw_size g8 0 31 rfl [.int .i64 0,.int .i64 0,.string ⟨#[]⟩] (cellsE (entO o)) rfl R8.out rfl (by exact Nat.le_refl _) (cellsE_one _) ?_
     intro w' hr' hg' hs'
     rw [splice_all [.int .i64 0,.int .i64 0,.string ⟨#[]⟩] (cellsE (entO o)) rfl] at hr'
     refine hK.out _ _ (hOld.out.grown hg' (by have:=hOld.out.size;omega) (pu4 (by omega))) (fun hHeld=>?_)
     clear hK K
     have R9':=hide (R9.out.grown hg' (pu5 (by omega)))
     clear R9
     have R9:=R9'
     clear R9'
     have HNS':=hide (HNS.out.mono (show Kept (Under B) _ _ from fun b hb=>hg'.block b (by unfold Under at hb;have:=hOld.out.size;omega) (fun e=>by have:=Option.some.inj e;unfold Under at hb;omega)) (fun _ h=>h))
     clear HNS
     have HNS:=HNS'
     clear HNS'
     have HD':=hide (HD.out.mono (show Kept (Under B) _ _ from fun b hb=>hg'.block b (by unfold Under at hb;have:=hOld.out.size;omega) (fun e=>by have:=Option.some.inj e;unfold Under at hb;omega)) (fun _ h=>h))
     clear HD
     have HD:=HD'
     clear HD'
     have HE':=hide (HE.out.mono (show Kept (Under B) _ _ from fun b hb=>hg'.block b (by unfold Under at hb;have:=hOld.out.size;omega) (fun e=>by have:=Option.some.inj e;unfold Under at hb;omega)) (fun _ h=>h))
     clear HE
     have HE:=HE'
     clear HE'
     clear R8
     have R8:=hide hr'
     clear hg' hs' hr' hOld
     (try simp only [Act.put])
     refine wpPT_alt (by kernel_rfl) (fun K hK=>?_) ?_
     rotate_left
     ·exact wpPT_stop
     have hOld:=hide hHeld
     clear hHeld
     refine wp_storeC 51 (.tmp 9) (.tmp 20) rfl 13 nod_size g9 0 51 rfl (nodC nod0 (.slice none 0 0) (.slice none 0 0)) (nodC N (.slice A2 n2 c2) (.slice C2 m2 d2)) rfl R9.out rfl (by exact Nat.le_refl _) (nodC_one _ _ _ _ _ _ _) ?_
     intro w' hr' hg' hs'
     rw [splice_all (nodC nod0 (.slice none 0 0) (.slice none 0 0)) (nodC N (.slice A2 n2 c2) (.slice C2 m2 d2)) rfl] at hr'
     refine hK.out _ _ (hOld.out.grown hg' (by have:=hOld.out.size;omega) (pu4 (by omega))) (fun hHeld=>?_)
     clear hK K
     have HNS':=hide (HNS.out.mono (show Kept (Under B) _ _ from fun b hb=>hg'.block b (by unfold Under at hb;have:=hOld.out.size;omega) (fun e=>by have:=Option.some.inj e;unfold Under at hb;omega)) (fun _ h=>h))
     clear HNS
     have HNS:=HNS'
     clear HNS'
     have HD':=hide (HD.out.mono (show Kept (Under B) _ _ from fun b hb=>hg'.block b (by unfold Under at hb;have:=hOld.out.size;omega) (fun e=>by have:=Option.some.inj e;unfold Under at hb;omega)) (fun _ h=>h))
     clear HD
     have HD:=HD'
     clear HD'
     have HE':=hide (HE.out.mono (show Kept (Under B) _ _ from fun b hb=>hg'.block b (by unfold Under at hb;have:=hOld.out.size;omega) (fun e=>by have:=Option.some.inj e;unfold Under at hb;omega)) (fun _ h=>h))
     clear HE
     have HE:=HE'
     clear HE'
     have R8':=hide (R8.out.grown hg' (pu5 (by omega)))
     clear R8
     have R8:=R8'
     clear R8'
     clear R9
     have R9:=hide hr'
     clear hg' hs' hr' hOld
     (try simp only [Act.put])
     refine wpPT_leaf ?_
     have HBX:=hide hHeld
     clear hHeld
     go_wp2_with fail
     go_meet
     case rel=>exact ⟨g8,g9,A2,n2,c2,C2,m2,d2,rfl,rfl,R8.out,R9.out,f2,HD.out,f4,HE.out,HBX.out,g8l,g9l⟩
    refine wpPT_alt (by kernel_rfl) (fun K hK=>?_) ?_
    ·skip
     have hOld:=hide hHeld
     clear hHeld
     unfold Oper.wp execOp
     go_simp
     have hal:=below_new (below_self w') (.cells #[.int .i64 0,.int .i64 0,.string ⟨#[]⟩] 31)
     have hb':=hal.mono (B':=W4.heap.size) (by have:=hOld.out.size;omega)
     have HFN:=hide (show RowL (w'.alloc (.cells #[.int .i64 0,.int .i64 0,.string ⟨#[]⟩] 31)) w'.heap.size 31 [.int .i64 0,.int .i64 0,.string ⟨#[]⟩] from RowL.new w' 31 [.int .i64 0,.int .i64 0,.string ⟨#[]⟩])
     have g8l:W4.heap.size≤w'.heap.size:=hOld.out.size
     have g9ng8:g9 < w'.heap.size:=R9.out.lt
     refine hK.out _ _ (hOld.out.trans hb') (fun hHeld=>?_)
     clear hK K
     have R9':=hide (R9.out.on hal)
     clear R9
     have R9:=R9'
     clear R9'
     have HNS':=hide (HNS.out.under hal (by have:=hOld.out.size;omega))
     clear HNS
     have HNS:=HNS'
     clear HNS'
     have R8:=HFN
     clear hal hb' hOld HFN
     generalize w'.alloc (.cells #[.int .i64 0,.int .i64 0,.string ⟨#[]⟩] 31)=z2 at *
     generalize w'.heap.size=g8 at *
     (try simp only [Act.put,pu1,pu2,pu3])
     refine wpPT_alt (by kernel_rfl) (fun K hK=>?_) ?_
     rotate_left
     ·exact wpPT_stop
     have hOld:=hide hHeld
     clear hHeld
     go_simp
     go_at_call 127
     refine (First_n HFO.out HNO.out (B:=B) _ HNS.out (by have:=hOld.out.size;omega) (by omega) hel).mono ?_
     rintro e w' ⟨A2,n2,c2,C2,m2,d2,rfl,f2,f3,f4,f5,hbel⟩
     have hb':=hbel.mono (B':=W4.heap.size) (by have:=hOld.out.size;omega)
     have HD:=hide f3
     clear f3
     have HE:=hide f5
     clear f5
     have R9':=hide (R9.out.on hbel)
     clear R9
     have R9:=R9'
     clear R9'
     have HNS':=hide (HNS.out.under hbel (by have:=hOld.out.size;omega))
     clear HNS
     have HNS:=HNS'
     clear HNS'
     have R8':=hide (R8.out.on hbel)
     clear R8
     have R8:=R8'
     clear R8'
     clear hbel
     refine hK.out _ _ (hOld.out.trans hb') (fun hHeld=>?_)
     clear hK K
     (try simp only [Act.put,pu1,pu2,pu3])
     iterate 3
      refine wpPT_take (v:=?_) (by kernel_rfl) (fun wS hSw=>?_) ?_
      rotate_left
      ·(try dsimp only at hSw);go_simp;(try with_reducible rfl)
      (try simp only [Act.put,pu1,pu2,pu3])
     refine wpPT_alt (by kernel_rfl) (fun K hK=>?_) ?_
     rotate_left
     ·exact wpPT_stop
     have hOld:=hide hHeld
     clear hHeld
     refine wp_storeC 31 (.tmp 8) (.tmp 19) rfl 3 entw_size g8 0 31 rfl [.int .i64 0,.int .i64 0,.string ⟨#[]⟩] (cellsE (entO o)) rfl R8.out rfl (by exact Nat.le_refl _) (cellsE_one _) ?_
     intro w' hr' hg' hs'
     rw [splice_all [.int .i64 0,.int .i64 0,.string ⟨#[]⟩] (cellsE (entO o)) rfl] at hr'
     refine hK.out _ _ (hOld.out.grown hg' (by have:=hOld.out.size;omega) (pu4 (by omega))) (fun hHeld=>?_)
     clear hK K
     have R9':=hide (R9.out.grown hg' (pu5 (by omega)))
     clear R9
     have R9:=R9'
     clear R9'
     have HNS':=hide (HNS.out.mono (show Kept (Under B) _ _ from fun b hb=>hg'.block b (by unfold Under at hb;have:=hOld.out.size;omega) (fun e=>by have:=Option.some.inj e;unfold Under at hb;omega)) (fun _ h=>h))
     clear HNS
     have HNS:=HNS'
     clear HNS'
     have HD':=hide (HD.out.mono (show Kept (Under B) _ _ from fun b hb=>hg'.block b (by unfold Under at hb;have:=hOld.out.size;omega) (fun e=>by have:=Option.some.inj e;unfold Under at hb;omega)) (fun _ h=>h))
     clear HD
     have HD:=HD'
     clear HD'
     have HE':=hide (HE.out.mono (show Kept (Under B) _ _ from fun b hb=>hg'.block b (by unfold Under at hb;have:=hOld.out.size;omega) (fun e=>by have:=Option.some.inj e;unfold Under at hb;omega)) (fun _ h=>h))
     clear HE
     have HE:=HE'
     clear HE'
     clear R8
     have R8:=hide hr'
     clear hg' hs' hr' hOld
     (try simp only [Act.put])
     refine wpPT_alt (by kernel_rfl) (fun K hK=>?_) ?_
     rotate_left
     ·exact wpPT_stop
     have hOld:=hide hHeld
     clear hHeld
     refine wp_storeC 51 (.tmp 9) (.tmp 20) rfl 13 nod_size g9 0 51 rfl (nodC nod0 (.slice none 0 0) (.slice none 0 0)) (nodC N (.slice A2 n2 c2) (.slice C2 m2 d2)) rfl R9.out rfl (by exact Nat.le_refl _) (nodC_one _ _ _ _ _ _ _) ?_
     intro w' hr' hg' hs'
     rw [splice_all (nodC nod0 (.slice none 0 0) (.slice none 0 0)) (nodC N (.slice A2 n2 c2) (.slice C2 m2 d2)) rfl] at hr'
     refine hK.out _ _ (hOld.out.grown hg' (by have:=hOld.out.size;omega) (pu4 (by omega))) (fun hHeld=>?_)
     clear hK K
     have HNS':=hide (HNS.out.mono (show Kept (Under B) _ _ from fun b hb=>hg'.block b (by unfold Under at hb;have:=hOld.out.size;omega) (fun e=>by have:=Option.some.inj e;unfold Under at hb;omega)) (fun _ h=>h))
     clear HNS
     have HNS:=HNS'
     clear HNS'
     have R8':=hide (R8.out.grown hg' (pu5 (by omega)))
     clear R8
     have R8:=R8'
     clear R8'
     have HD':=hide (HD.out.mono (show Kept (Under B) _ _ from fun b hb=>hg'.block b (by unfold Under at hb;have:=hOld.out.size;omega) (fun e=>by have:=Option.some.inj e;unfold Under at hb;omega)) (fun _ h=>h))
     clear HD
     have HD:=HD'
     clear HD'
     have HE':=hide (HE.out.mono (show Kept (Under B) _ _ from fun b hb=>hg'.block b (by unfold Under at hb;have:=hOld.out.size;omega) (fun e=>by have:=Option.some.inj e;unfold Under at hb;omega)) (fun _ h=>h))
     clear HE
     have HE:=HE'
     clear HE'
     clear R9
     have R9:=hide hr'
     clear hg' hs' hr' hOld
     (try simp only [Act.put])
     refine wpPT_leaf ?_
     have HBX:=hide hHeld
     clear hHeld
     go_wp2_with fail
     go_meet
     case rel=>exact ⟨g8,g9,A2,n2,c2,C2,m2,d2,rfl,rfl,R8.out,R9.out,f2,HD.out,f4,HE.out,HBX.out,g8l,g9l⟩
    exact wpPT_stop
   refine wpPT_alt (by kernel_rfl) (fun K hK=>?_) ?_
   ·skip
    have hOld:=hide hHeld
    clear hHeld
    unfold Oper.wp execOp
    go_simp
    have hal:=below_new (below_self z0) (.cells #[.int .i64 0,.int .i64 0,.string ⟨#[]⟩] 31)
    have hb':=hal.mono (B':=W4.heap.size) (by have:=hOld.out.size;omega)
    have HFN:=hide (show RowL (z0.alloc (.cells #[.int .i64 0,.int .i64 0,.string ⟨#[]⟩] 31)) z0.heap.size 31 [.int .i64 0,.int .i64 0,.string ⟨#[]⟩] from RowL.new z0 31 [.int .i64 0,.int .i64 0,.string ⟨#[]⟩])
    have g8l:W4.heap.size≤z0.heap.size:=hOld.out.size
    have g9ng8:g9 < z0.heap.size:=R9.out.lt
    refine hK.out _ _ (hOld.out.trans hb') (fun hHeld=>?_)
    clear hK K
    have R9':=hide (R9.out.on hal)
    clear R9
    have R9:=R9'
    clear R9'
    have R8:=HFN
    clear hal hb' hOld HFN
    generalize z0.alloc (.cells #[.int .i64 0,.int .i64 0,.string ⟨#[]⟩] 31)=z1 at *
    generalize z0.heap.size=g8 at *
    (try simp only [Act.put,pu1,pu2,pu3])
    refine wpPT_alt (by kernel_rfl) (fun K hK=>?_) ?_
    rotate_left
    ·exact wpPT_stop
    have hOld:=hide hHeld
    clear hHeld
    go_simp
    go_at_call 119
    refine (Beneath_e HLY.out (B:=B) _ (HL.out.under hOld.out (by omega)) (by have:=hOld.out.size;omega) hm).mono ?_
    rintro e w' ⟨A1,n1,c1,rfl,e2,e3,hbel⟩
    have hb':=hbel.mono (B':=W4.heap.size) (by have:=hOld.out.size;omega)
    have HNS:=hide e3
    clear e3
    have R9':=hide (R9.out.on hbel)
    clear R9
    have R9:=R9'
    clear R9'
    have R8':=hide (R8.out.on hbel)
    clear R8
    have R8:=R8'
    clear R8'
    clear hbel
    refine hK.out _ _ (hOld.out.trans hb') (fun hHeld=>?_)
    clear hK K
    (try simp only [Act.put,pu1,pu2,pu3])
    refine wpPT_alt (by kernel_rfl) (fun K hK=>?_) ?_
    rotate_left
    ·exact wpPT_stop
    have hOld:=hide hHeld
    clear hHeld
    go_simp
    go_at_call 127
    refine (First_n HFO.out HNO.out (B:=B) _ HNS.out (by have:=hOld.out.size;omega) (by omega) hel).mono ?_
    rintro e w' ⟨A2,n2,c2,C2,m2,d2,rfl,f2,f3,f4,f5,hbel⟩
    have hb':=hbel.mono (B':=W4.heap.size) (by have:=hOld.out.size;omega)
    have HD:=hide f3
    clear f3
    have HE:=hide f5
    clear f5
    have R9':=hide (R9.out.on hbel)
    clear R9
    have R9:=R9'
    clear R9'
    have R8':=hide (R8.out.on hbel)
    clear R8
    have R8:=R8'
    clear R8'
    have HNS':=hide (HNS.out.under hbel (by have:=hOld.out.size;omega))
    clear HNS
    have HNS:=HNS'
    clear HNS'
    clear hbel
    refine hK.out _ _ (hOld.out.trans hb') (fun hHeld=>?_)
    clear hK K
    (try simp only [Act.put,pu1,pu2,pu3])
    iterate 3
     refine wpPT_take (v:=?_) (by kernel_rfl) (fun wS hSw=>?_) ?_
     rotate_left
     ·(try dsimp only at hSw);go_simp;(try with_reducible rfl)
     (try simp only [Act.put,pu1,pu2,pu3])
    refine wpPT_alt (by kernel_rfl) (fun K hK=>?_) ?_
    rotate_left
    ·exact wpPT_stop
    have hOld:=hide hHeld
    clear hHeld
    refine wp_storeC 31 (.tmp 8) (.tmp 19) rfl 3 entw_size g8 0 31 rfl [.int .i64 0,.int .i64 0,.string ⟨#[]⟩] (cellsE (entO o)) rfl R8.out rfl (by exact Nat.le_refl _) (cellsE_one _) ?_
    intro w' hr' hg' hs'
    rw [splice_all [.int .i64 0,.int .i64 0,.string ⟨#[]⟩] (cellsE (entO o)) rfl] at hr'
    refine hK.out _ _ (hOld.out.grown hg' (by have:=hOld.out.size;omega) (pu4 (by omega))) (fun hHeld=>?_)
    clear hK K
    have R9':=hide (R9.out.grown hg' (pu5 (by omega)))
    clear R9
    have R9:=R9'
    clear R9'
    have HNS':=hide (HNS.out.mono (show Kept (Under B) _ _ from fun b hb=>hg'.block b (by unfold Under at hb;have:=hOld.out.size;omega) (fun e=>by have:=Option.some.inj e;unfold Under at hb;omega)) (fun _ h=>h))
    clear HNS
    have HNS:=HNS'
    clear HNS'
    have HD':=hide (HD.out.mono (show Kept (Under B) _ _ from fun b hb=>hg'.block b (by unfold Under at hb;have:=hOld.out.size;omega) (fun e=>by have:=Option.some.inj e;unfold Under at hb;omega)) (fun _ h=>h))
    clear HD
    have HD:=HD'
    clear HD'
    have HE':=hide (HE.out.mono (show Kept (Under B) _ _ from fun b hb=>hg'.block b (by unfold Under at hb;have:=hOld.out.size;omega) (fun e=>by have:=Option.some.inj e;unfold Under at hb;omega)) (fun _ h=>h))
    clear HE
    have HE:=HE'
    clear HE'
    clear R8
    have R8:=hide hr'
    clear hg' hs' hr' hOld
    (try simp only [Act.put])
    refine wpPT_alt (by kernel_rfl) (fun K hK=>?_) ?_
    rotate_left
    ·exact wpPT_stop
    have hOld:=hide hHeld
    clear hHeld
    refine wp_storeC 51 (.tmp 9) (.tmp 20) rfl 13 nod_size g9 0 51 rfl (nodC nod0 (.slice none 0 0) (.slice none 0 0)) (nodC N (.slice A2 n2 c2) (.slice C2 m2 d2)) rfl R9.out rfl (by exact Nat.le_refl _) (nodC_one _ _ _ _ _ _ _) ?_
    intro w' hr' hg' hs'
    rw [splice_all (nodC nod0 (.slice none 0 0) (.slice none 0 0)) (nodC N (.slice A2 n2 c2) (.slice C2 m2 d2)) rfl] at hr'
    refine hK.out _ _ (hOld.out.grown hg' (by have:=hOld.out.size;omega) (pu4 (by omega))) (fun hHeld=>?_)
    clear hK K
    have R8':=hide (R8.out.grown hg' (pu5 (by omega)))
    clear R8
    have R8:=R8'
    clear R8'
    have HNS':=hide (HNS.out.mono (show Kept (Under B) _ _ from fun b hb=>hg'.block b (by unfold Under at hb;have:=hOld.out.size;omega) (fun e=>by have:=Option.some.inj e;unfold Under at hb;omega)) (fun _ h=>h))
    clear HNS
    have HNS:=HNS'
    clear HNS'
    have HD':=hide (HD.out.mono (show Kept (Under B) _ _ from fun b hb=>hg'.block b (by unfold Under at hb;have:=hOld.out.size;omega) (fun e=>by have:=Option.some.inj e;unfold Under at hb;omega)) (fun _ h=>h))
    clear HD
    have HD:=HD'
    clear HD'
    have HE':=hide (HE.out.mono (show Kept (Under B) _ _ from fun b hb=>hg'.block b (by unfold Under at hb;have:=hOld.out.size;omega) (fun e=>by have:=Option.some.inj e;unfold Under at hb;omega)) (fun _ h=>h))
    clear HE
    have HE:=HE'
    clear HE'
    clear R9
    have R9:=hide hr'
    clear hg' hs' hr' hOld
    (try simp only [Act.put])
    refine wpPT_leaf ?_
    have HBX:=hide hHeld
    clear hHeld
    go_wp2_with fail
    go_meet
    case rel=>exact ⟨g8,g9,A2,n2,c2,C2,m2,d2,rfl,rfl,R8.out,R9.out,f2,HD.out,f4,HE.out,HBX.out,g8l,g9l⟩
   exact wpPT_stop
  exact wpPT_stop
 case rest =>
  obtain ⟨g8,g9,A2,n2,c2,C2,m2,d2,rfl,rfl,hr8,hr9,hn2,hd,hm2',he,hbx,hg8,hg9⟩:=hcut
  have HFS:=hide (show FirstS wc w.heap.size g8 g9 (w.heap.size+1+1) (w.heap.size+1+1+1) p (cellsE (entO o)) (nodC N (.slice A2 n2 c2) (.slice C2 m2 d2)) wc from ⟨⟨hr8,R1.out.on hbx⟩,hr9,⟨_,R2.out.on hbx,rfl⟩,⟨_,R3.out.on hbx,rfl⟩,Below.refl _ _⟩)
  have HD:=hide hd
  have HE:=hide he
  have HBC:=hide (HB4.out.trans (hbx.mono (by omega)))
  have hsc:=hbx.size
  have hl8:=hr8.lt
  have hl9:=hr9.lt
  clear hr8 hr9 hd he hbx
  go_wp2_with fail
  refine wp_region_planN (fun w'=>FirstS wc w.heap.size g8 g9 (w.heap.size+1+1) (w.heap.size+1+1+1) p (cellsE (entO o)) (nodC N (.slice A2 n2 c2) (.slice C2 m2 d2)) w') [(0,true),(1,true),(2,true),(3,true),(4,true),(5,true),(6,false),(7,false)] (by kernel_rfl) (by kernel_rfl) (by kernel_rfl) (by kernel_rfl) rfl (fun _ _ _ _ _ h=>h) (HFS.out.drew) (fun hHeld=>?_)
  simp only [planOps,List.filterMap_cons,List.filterMap_nil,List.getElem?_toArray,List.getElem?_cons_succ,List.getElem?_cons_zero,Option.map_some]
  refine wpPlan_take (v:=?_) (by kernel_rfl) (fun wS hSw=>?_) ?_
  rotate_left
  ·(try dsimp only at hSw);go_simp;(try with_reducible rfl)
  (try simp only [Act.put,pu1,pu2,pu3])
  refine wpPlan_take (v:=?_) (by kernel_rfl) (fun wS hSw=>?_) ?_
  rotate_left
  ·have qx:=(hSw.1.2.cell 0).trans (show (prC p)[0]?=some (.int .i64 p.1) from rfl);go_simp;(try with_reducible rfl)
  (try simp only [Act.put,pu1,pu2,pu3])
  refine wpPlan_take (v:=?_) (by kernel_rfl) (fun wS hSw=>?_) ?_
  rotate_left
  ·(try dsimp only at hSw);go_simp;(try with_reducible rfl)
  (try simp only [Act.put,pu1,pu2,pu3])
  refine wpPlan_take (v:=?_) (by kernel_rfl) (fun wS hSw=>?_) ?_
  rotate_left
  ·have qx:=(hSw.1.1.cell 1).trans (show (cellsE (entO o))[1]?=some (.int .i64 (entO o).ino) from rfl);go_simp;(try with_reducible rfl)
  (try simp only [Act.put,pu1,pu2,pu3])
  refine wpPlan_take (v:=?_) (by kernel_rfl) (fun wS hSw=>?_) ?_
  rotate_left
  ·(try dsimp only at hSw);go_simp;(try with_reducible rfl)
  (try simp only [Act.put,pu1,pu2,pu3])
  refine wpPlan_take (v:=?_) (by kernel_rfl) (fun wS hSw=>?_) ?_
  rotate_left
  ·refine execOp_load (x:=.tmp 9) (k:=13) (g:=g9) (off:=0) (cs:=(nodC N (.slice A2 n2 c2) (.slice C2 m2 d2))) ?_ nod_agg nod_size ?_ (fun j v hv=>by rw [Nat.zero_add];exact (hSw.2.1.cell j).trans hv) rfl <;> rfl
  (try simp only [Act.put,pu1,pu2,pu3])
  refine wpPlan_call (by kernel_rfl) (fun K hK=>?_)
  have hOld:=hide hHeld
  clear hHeld
  obtain ⟨p1,p2,⟨cu3,p3,l3⟩,⟨cu4,p4,l4⟩,p5⟩:=hOld.out
  refine wp_storeC 75 (.tmp 6) (.tmp 25) rfl 2 plc_size (w.heap.size+1+1) 0 75 rfl cu3 (prC (p.1,(entO o).ino)) rfl p3 rfl (by omega) (prC_one _) ?_
  intro w' hr' hg' hs'
  rw [splice_all _ _ (by rw [l3];rfl)] at hr'
  refine hK.out _ _ (⟨⟨p1.1.grown hg' (pu5 (by omega)),p1.2.grown hg' (pu5 (by omega))⟩,p2.grown hg' (pu5 (by omega)),⟨_,hr',rfl⟩,⟨cu4,p4.grown hg' (pu5 (by omega)),l4⟩,p5.grown hg' (by have:=p5.size;omega) (pu4 (by omega))⟩) (fun hHeld=>?_)
  clear hK K
  have HRP:=hide hr'
  clear hr' hg' hs' p1 p2 p3 p4 p5
  (try simp only [Act.put])
  refine wpPlan_call (by kernel_rfl) (fun K hK=>?_)
  have hOld:=hide hHeld
  clear hHeld
  obtain ⟨p1,p2,⟨cu3,p3,l3⟩,⟨cu4,p4,l4⟩,p5⟩:=hOld.out
  refine wp_storeC 51 (.tmp 7) (.tmp 26) rfl 13 nod_size (w.heap.size+1+1+1) 0 51 rfl cu4 (nodC N (.slice A2 n2 c2) (.slice C2 m2 d2)) rfl p4 rfl (by omega) (nodC_one _ _ _ _ _ _ _) ?_
  intro w' hr' hg' hs'
  rw [splice_all _ _ (by rw [l4];rfl)] at hr'
  refine hK.out _ _ (⟨⟨p1.1.grown hg' (pu5 (by omega)),p1.2.grown hg' (pu5 (by omega))⟩,p2.grown hg' (pu5 (by omega)),⟨cu3,p3.grown hg' (pu5 (by omega)),l3⟩,⟨_,hr',rfl⟩,p5.grown hg' (by have:=p5.size;omega) (pu4 (by omega))⟩) (fun hHeld=>?_)
  clear hK K
  have HRP2:=hide (HRP.out.grown hg' (pu5 (by omega)))
  have HRN:=hide hr'
  clear hr' hg' hs' p1 p2 p3 p4 p5
  (try simp only [Act.put])
  refine wpPlan_end ?_
  have HSF:=hide hHeld
  clear hHeld
  go_wp2_with fail
  obtain ⟨-,-,-,-,hbF⟩:=HSF.out
  have hkU:Kept (Under B) wc w':=fun b hb=>hbF.block b (Nat.lt_of_lt_of_le hb hB)
  refine bodyPost_ret (res_cells Tryz.results168 rfl rfl plc_agg plc_size nod_agg nod_size HRP2.out rfl HRN.out rfl) rfl ⟨A2,n2,c2,C2,m2,d2,by rw [HPL.out,HNL.out],hn2,by rw [HNL.out];exact HD.out.mono hkU (fun _ h=>h),hm2',by rw [HNL.out];exact HE.out.mono hkU (fun _ h=>h),HBC.out.trans hbF⟩
end Go.Proofs.YtpndfahgflgocaaGreatDoor

