import Derived.Test.YtggnbflbbfdohaaTs37
import Derived.Test.YtggnbflbbfdohaaTs34
import Derived.Test.YtggnbflbbfdohaaTs29

namespace Go.Proofs.Ytggnbflbbfdohaa
open Go.RowKit Go.Shelf Plain

def oneT (cs:List (Nat×Nat)) (i:Nat):List FinV:=match cs[i]? with
 | some z=>if badT z=true then [⟨19,0,(i:Int)+1,-1⟩] else []
 | none=>[]
def findT (cs:List (Nat×Nat)) (n:Nat):List FinV:=(List.range n).flatMap (oneT cs)
theorem findT_succ (cs:List (Nat×Nat)) (n:Nat):findT cs (n+1)=findT cs n++oneT cs n:=by
 unfold findT
 rw [List.range_succ,List.flatMap_append]
 simp
theorem oneT_is {cs:List (Nat×Nat)} {i:Nat} {z:Nat×Nat} (h:cs[i]?=some z):oneT cs i=if badT z=true then [⟨19,0,(i:Int)+1,-1⟩] else []:=by unfold oneT;rw [h]
set_option maxRecDepth 100000 in
theorem finT_info:(Try.prog.info? 58).map (fun i=>(i.zero,i.size,i.bytes))=some (some (.agg #[.int .i64 0,.int .i64 0,.int .i64 0,.int .i64 0]),4,32):=by kernel_rfl
theorem litT_fin (a b c d:Int) (W:World):(Instr.buildSlice 56 1 #[(0,.agg #[.int .i64 a,.int .i64 b,.int .i64 c,.int .i64 d])]).run Try.prog W=.ok (.slice (some ⟨W.heap.size,0,none⟩) 1 1) (W.alloc (.cells #[.int .i64 a,.int .i64 b,.int .i64 c,.int .i64 d] 58)):=by
 obtain ⟨it,hi,hz,hsz,-⟩:=info_parts finT_info
 refine run_buildSlice W _ 58 1 _ _ it (.agg #[.int .i64 0,.int .i64 0,.int .i64 0,.int .i64 0]) Try.underlying56 hi hz (by omega) (by omega) ?_
 rw [hsz]
 have:=Great.fill_whole (s:=4) (by omega) [.agg #[.int .i64 a,.int .i64 b,.int .i64 c,.int .i64 d]] ((Array.range (1*4)).map ((Value.agg #[.int .i64 0,.int .i64 0,.int .i64 0,.int .i64 0]).cells[· % (Value.agg #[.int .i64 0,.int .i64 0,.int .i64 0,.int .i64 0]).cells.size]!)) (by intro v hv;rw [List.mem_singleton] at hv;subst hv;simp [Value.cells]) (by simp)
 simpa [Value.cells] using this
theorem finT_lit (x:FinV) (W:World) {lo:Nat} (hlo:lo≤W.heap.size):RdE finEn (W.alloc (.cells (finC x).toArray 58)) (fun b=>lo≤b∧b < (W.alloc (.cells (finC x).toArray 58)).heap.size) (some ⟨W.heap.size,0,none⟩) 1 [x]:=by
 refine ⟨rfl,fun _=>⟨W.heap.size,0,rfl,⟨hlo,by simp⟩,fun i y hy=>⟨finC x,?_,fun j v hv=>?_⟩⟩⟩
 ·have hi:i=0:=by have:=(List.getElem?_eq_some_iff.1 hy).1;simpa using this
  subst hi
  obtain rfl:x=y:=by simpa using hy
  rfl
 ·have hi:i=0:=by have:=(List.getElem?_eq_some_iff.1 hy).1;simpa using this
  subst hi
  have:=(RowL.new W 58 (finC x)).cell j
  rw [show (0:Nat)+(0*finEn.k+j)=j from by omega]
  exact this.trans hv
theorem OwT_lt {α:Type} {E:Enc α} {w:World} {base e n c:Nat} {A:Option Addr} {l:List α} (h:OwE E w base e A n c l):∀a,A=some a→a.block < w.heap.size:=by
 obtain ⟨css,h1,-,-⟩:=h
 intro a ha
 subst ha
 rcases h1.2 with ⟨h2,_⟩|⟨g,cap,cur,he,_,hg,_⟩
 ·cases h2
 ·cases he
  exact heap_lt hg
def FinsT (w:World) (l:List FinV) (e:Ending) (w':World):Prop:=∃A c,e=.returned (.slice A l.length c)∧RdE finEn w' (Under w'.heap.size) A l.length l∧Below w.heap.size w w'
set_option maxRecDepth 100000 in
set_option maxHeartbeats 8000000 in
theorem TFinds_any {g:GeoQ} {AU AL:Option Addr} {nU cU nL cL B:Nat} {ns:List NodV} {rs:List Bool} {cs:List (Nat×Nat)} (hrs:reachL ns (waysT ns)=rs) (hcs:cntT ns rs (waysT ns)=cs) (w:World) (hu:RdE nodEn w (Under B) AU nU ns) (hB:B≤w.heap.size) (hM:Many ns):Calls Try.prog 14 #[.agg (stkC g (.slice AU nU cU) (.slice AL nL cL)).toArray] w (FinsT w (findT cs cs.length)):=by
 obtain ⟨W1,hW1⟩:∃W1,(w.alloc (.cells (stkC g (.slice AU nU cU) (.slice AL nL cL)).toArray 49))=W1:=⟨_,rfl⟩
 obtain ⟨r0,hb1,hs1⟩:=rowA1 w _ _ hW1
 have hW1':(w.alloc (.cells #[.int .i64 g.a,.int .i64 g.b,.int .i64 g.c,.int .i64 g.d,.slice AU nU cU,.slice AL nL cL] 49))=W1:=hW1
 have R1:=hide r0
 have HB:=hide hb1
 have hsz0:=hb1.size
 have HU:=hide (hu.under hb1 hB)
 have HMM:=hide hM
 have hm24:=hM.1
 have HRS:=hide hrs
 have HCS:=hide hcs
 have hlc:cs.length=ns.length:=by rw [←hcs,cntT_len]
 have hnU:ns.length=nU:=hu.1
 unfold stkC
 clear r0 hb1 hW1 hu hM hrs hcs
 go_enter Try.func14,Try.ntmps14
 go_wp2_with fail
 go_step3
 go_wp2_with fail
 go_step3
 go_wp2_with (first|(refine wpList_loadC rfl 24 (.tmp 6) rfl 1 lay_agg lay_size (w.heap.size) 4 49 rfl (stkC g (.slice AU nU cU) (.slice AL nL cL)) [.slice AU nU cU] R1.out rfl rfl ?_)|(go_at_call 12;refine (Counts_any HRS.out W1 HU.out (by omega) HMM.out).mono ?_;rintro e1 wT ⟨gC,rfl,hgC,hrc,hbel⟩;have HBT:=hide (HB.out.trans (hbel.mono (by omega)));rw [HCS.out] at hrc;have RC:=hide hrc;have hszT:=hbel.size;clear hrc hbel))
 have hnc:nU=cs.length:=by omega
 subst hnc
 have hcs24:cs.length≤24:=by omega
 clear HU R1 HB HRS HCS HMM hlc hnU hm24
 go_loopw [3,10] (fun v3 v10 wr=>∃(j n6:Nat) (A6:Option Addr) (c6:Nat),j≤cs.length∧v10=.int .i64 j∧v3=.slice A6 n6 c6∧n6≤j∧OwE finEn wr wT.heap.size 58 A6 n6 c6 (findT cs j)∧Below wT.heap.size wT wr) (fun _ v10 _=>cs.length - (intOf v10).toNat)
 case atStart=>exact ⟨0,0,none,0,by omega,rfl,rfl,by omega,OwE.nil_ _ _ _ _,Below.refl _ _⟩
 case round =>
  obtain ⟨j,n6,A6,c6,hj,rfl,rfl,hn6,ho,hbr⟩:=hrel
  have hbsz:=hbr.size
  have HBQ:=hide hbr
  have HO2:=hide ho
  have RCr:=hide (RC.out.on hbr)
  clear ho hbr
  by_cases hlt:j < cs.length
  ·obtain ⟨z,hz⟩:∃z,cs[j]?=some z:=⟨_,List.getElem?_eq_getElem hlt⟩
   have HTS:=hide (findT_succ cs j)
   have HTO:=hide (oneT_is hz)
   have qc:=cT_cell RCr.out hz
   have hjn:(j:Int) < (cs.length:Int):=by omega
   obtain ⟨o,ho⟩:∃o,FloatKind.f64.format.order (F z.1) z.2=o:=⟨_,rfl⟩
   have hee:(some Ordering.eq==some Ordering.eq)=true:=rfl
   have hbad:badT z=!(o==some .eq):=by rw [←ho];rfl
   clear hz
   by_cases hoe:o=some .eq
   ·subst hoe
    have HBD:=hide (show ¬(badT z=true) from by rw [hbad,hee];simp)
    clear hbad
    go_wp2_with fail
    go_roundw
    case rel=>exact ⟨j+1,n6,A6,c6,by omega,by go_num,rfl,by omega,by rw [HTS.out,HTO.out,if_neg HBD.out,List.append_nil];exact HO2.out,HBQ.out⟩
    case measure=>simp [intOf];omega
   ·have hne:(o==some Ordering.eq)=false:=by simpa using hoe
    have HBD:=hide (show badT z=true from by rw [hbad,hne];rfl)
    have hlit:=fun W=>litT_fin 19 0 ((j:Int)+1) (-1) W
    have hw1:IntKind.i64.wrap ((j:Int)+1)=(j:Int)+1:=IntWalk.i64_in _ (by omega)
    clear hbad hoe
    go_wp2_with (first|(at_builtin;have hba:=below_new (below_self wr) (.cells #[.int .i64 19,.int .i64 0,.int .i64 ((j:Int)+1),.int .i64 (-1)] 58);refine wpList_append_OwE (E:=finEn) _ rfl (.tmp 20) (.tmp 24) 56 rfl wT.heap.size 58 (.agg #[.int .i64 0,.int .i64 0,.int .i64 0,.int .i64 0]) 32 Try.underlying56 finT_info rfl (by decide) A6 n6 c6 _ rfl (HO2.out.below hba) (fun b=>wr.heap.size≤b∧b < (wr.alloc (.cells (finC ⟨19,0,(j:Int)+1,-1⟩).toArray 58)).heap.size) (some ⟨wr.heap.size,0,none⟩) 1 1 [⟨19,0,(j:Int)+1,-1⟩] rfl (finT_lit ⟨19,0,(j:Int)+1,-1⟩ wr (Nat.le_refl _)) (fun b hb=>⟨⟨hb.2,fun _ _ _ _=>rfl⟩,fun a ha=>(fun e=>by have h1:=hb.1;rw [e] at h1;have:=OwT_lt HO2.out a ha;omega)⟩) (n6+1) rfl (by omega) (by omega) (by simp;omega) ?_;intro A9 c9 w9 ho9 hb9;have HO9:=hide ho9;have HB9:=hide ((HBQ.out.alloc (by omega) _).trans hb9);clear ho9 hb9 hba))
    go_roundw
    case rel=>exact ⟨j+1,n6+1,A9,c9,by omega,by go_num,rfl,by omega,by rw [HTS.out,HTO.out,if_pos HBD.out];exact HO9.out,HB9.out⟩
    case measure=>simp [intOf];omega
  ·obtain rfl:j=cs.length:=by omega
   have hjn:¬((cs.length:Int) < (cs.length:Int)):=by omega
   go_wp2_with fail
   (try go_ret)
   have h1:(findT cs cs.length).length=n6:=by obtain ⟨css,-,-,hl⟩:=HO2.out;exact hl
   subst h1
   exact ⟨A6,c6,rfl,(HO2.out.rd rfl).plain,HBT.out.trans (HBQ.out.mono (by omega))⟩
theorem TFinds_p {g:GeoQ} {AU AL:Option Addr} {nU cU nL cL B n:Nat} {ns:List NodV} {rs:List Bool} {cs:List (Nat×Nat)} {R:List FinV} (hrs:reachL ns (waysT ns)=rs) (hcs:cntT ns rs (waysT ns)=cs) (hR:findT cs cs.length=R) (hn:R.length=n) (w:World) (hu:RdE nodEn w (Under B) AU nU ns) (hB:B≤w.heap.size) (hM:Many ns):Calls Try.prog 14 #[.agg (stkC g (.slice AU nU cU) (.slice AL nL cL)).toArray] w (fun e w'=>∃A c,e=.returned (.slice A n c)∧RdE finEn w' (Under w'.heap.size) A n R∧Below w.heap.size w w'):=by
 subst hR hn
 exact TFinds_any hrs hcs w hu hB hM
def IdleRet (w:World) (e:Ending) (w':World):Prop:=∃g0 gE AL nL cL,e=.returned (.agg (stkC gB (.slice (some ⟨g0,0,none⟩) 5 5) (.slice AL nL cL)).toArray)∧RowL w' g0 38 (upC2 (.slice (some ⟨gE,0,none⟩) 1 1))∧RowL w' gE 40 (cellsE ⟨1,4,[122]⟩)∧RdE layEn w' (Under w'.heap.size) AL nL lsB∧w.heap.size≤g0∧Below w.heap.size w w'
theorem row_two {w:World} {g g' t t':Nat} {cs cs':List Value} (h:RowL w g t cs) (k:RowL w g' t' cs') (hne:t≠t'):g≠g':=by
 intro e
 subst e
 have h1:=Option.some.inj (h.symm.trans k)
 simp only [Obj.cells.injEq] at h1
 exact hne h1.2.1
set_option maxRecDepth 100000 in
set_option maxHeartbeats 1600000 in
theorem Idle_o (w:World):Calls Try.prog 11 #[] w (IdleRet w):=by
 obtain ⟨W1,hW1⟩:∃W1,(w.alloc (.cells (stkC ⟨0,0,0,0⟩ (.slice none 0 0) (.slice none 0 0)).toArray 49))=W1:=⟨_,rfl⟩
 obtain ⟨r0,hb1,hs1⟩:=rowA1 w _ _ hW1
 have hW1':(w.alloc (.cells #[.int .i64 0,.int .i64 0,.int .i64 0,.int .i64 0,.slice none 0 0,.slice none 0 0] 49))=W1:=hW1
 have R0:=hide r0
 have HB:=hide hb1
 have hsz0:=hb1.size
 clear r0 hb1 hW1
 go_enter Try.func11,Try.ntmps11
 go_wp2_with (first|(go_at_call 19;refine (Base_o W1).mono ?_;rintro e1 wB ⟨g0,AL,nL,cL,rfl,hrow,hlay,hg0,hbel⟩;have hg0l:=hrow.lt;replace HB:=hide (HB.out.trans (hbel.mono HB.out.size));replace R0:=hide (R0.out.on hbel);have hsz2:=hbel.size;have HG:=hide hrow;clear hrow;have HLY:=hide hlay;clear hlay;clear hbel)|(refine wpList_storeW rfl 49 (.tmp 1) (.tmp 2) rfl 6 stk_size (wB.heap.size) 49 rfl (stkC ⟨0,0,0,0⟩ (.slice none 0 0) (.slice none 0 0)) (stkC gB (.slice (some ⟨g0,0,none⟩) 5 5) (.slice AL nL cL)) rfl (RowL.new wB 49 (stkC ⟨0,0,0,0⟩ (.slice none 0 0) (.slice none 0 0))) rfl rfl (stkC_one _ _ _ _ _ _ _) ?_;intro wS3 hr3 hg3 hs3;have hzb:=below_stored' hg3;replace HB:=hide (HB.out.trans (hzb.mono HB.out.size));replace R0:=hide (R0.out.on hzb);replace HG:=hide (HG.out.on hzb);replace HLY:=hide (btw_on HLY.out hzb (by omega));have hsz4:=hzb.size;have RS:=hide hr3;have hlt3:=hr3.lt;have q1_4:wS3.cell? ⟨wB.heap.size,4,none⟩=some (.slice (some ⟨g0,0,none⟩) 5 5):=RS.out.cell 4;clear hzb hr3;clear hg3 hs3))
 refine wp_region_planL (fun w'=>Below wS3.heap.size wS3 w') [(0,true),(1,true),(2,true),(3,true),(4,false),(5,false),(6,true)] 7 (by kernel_rfl) (by kernel_rfl) (by kernel_rfl) (by kernel_rfl) (by kernel_rfl) rfl (fun _ _ _ _ _ h=>h) (below_drew (below_self wS3)) (fun hHeld=>?_)
 simp only [planOps,List.filterMap_cons,List.filterMap_nil,List.getElem?_toArray,List.getElem?_cons_succ,List.getElem?_cons_zero,Option.map_some]
 iterate 2
  refine wpPlan_take (v:=?_) (by kernel_rfl) (fun wS hSw=>?_) ?_
  rotate_left
  ·(try dsimp only at hSw);go_simp;(try with_reducible rfl)
  (try simp only [Act.put,pu1,pu2,pu3])
 refine wpPlan_take (v:=?_) (by kernel_rfl) (fun wS hSw=>?_) ?_
 rotate_left
 ·have qx:=((RS.out.on hSw).cell 4).trans (show (stkC gB (.slice (some ⟨g0,0,none⟩) 5 5) (.slice AL nL cL))[4]?=some (.slice (some ⟨g0,0,none⟩) 5 5) from rfl);go_simp;(try with_reducible rfl)
 (try simp only [Act.put,pu1,pu2,pu3])
 refine wpPlan_take (v:=?_) (by kernel_rfl) (fun wS hSw=>?_) ?_
 rotate_left
 ·(try dsimp only at hSw);go_simp;(try with_reducible rfl)
 (try simp only [Act.put,pu1,pu2,pu3])
 refine wpPlan_call (by kernel_rfl) (fun K hK=>?_)
 have hOld:=hide hHeld
 clear hHeld
 have HE0:=hide (RowL.new wS3.drew 40 (cellsE ⟨1,4,[122]⟩))
 unfold Oper.wp execOp
 go_simp
 refine hK.out _ _ (hOld.out.alloc hOld.out.size _) (fun hHeld=>?_)
 clear hK K
 (try simp only [Act.put,pu1,pu2,pu3])
 refine wpPlan_call (by kernel_rfl) (fun K hK=>?_)
 have hOld:=hide hHeld
 clear hHeld
 go_simp
 go_at_call 20
 refine (Dir_any _).mono ?_
 rintro e w' ⟨rfl,hbel⟩
 have HE1:=hide (HE0.out.on hbel)
 clear HE0
 refine hK.out _ _ (hOld.out.trans (hbel.mono hOld.out.size)) (fun hHeld=>?_)
 clear hK K
 (try simp only [Act.put,pu1,pu2,pu3])
 refine wpPlan_take (v:=?_) (by kernel_rfl) (fun wS hSw=>?_) ?_
 rotate_left
 ·(try dsimp only at hSw);go_simp;(try with_reducible rfl)
 (try simp only [Act.put,pu1,pu2,pu3])
 refine wpPlan_end ?_
 refine postL_go rfl (by kernel_rfl) ?_
 have hsx:=hHeld.size
 refine wp_storeC 38 (.tmp 9) (.tmp 8) rfl 13 nod_size g0 0 38 rfl upC (nodC ndD (.slice none 0 0) (.slice (some ⟨wS3.heap.size,0,none⟩) 1 1)) rfl (HG.out.on hHeld) rfl (by decide) (nodC_one _ _ _ _ _ _ _) ?_
 intro w5 hr5 hg5 hs5
 rw [up_one] at hr5
 have HG5:=hide hr5
 have HB5:=hide ((HB.out.trans (hHeld.mono HB.out.size)).grown hg5 (by omega) (pu4 (by omega)))
 have R05:=hide ((R0.out.on hHeld).grown hg5 (pu5 (by omega)))
 have RS5:=hide ((RS.out.on hHeld).grown hg5 (pu5 (by omega)))
 have HE5:=hide (HE1.out.grown hg5 (fun e=>by have:=Option.some.inj e;have:(wS3.drew).heap.size=wS3.heap.size:=rfl;omega))
 have HL5:=hide (btw_grown (btw_on HLY.out hHeld (by omega)) hg5 (by omega) (by omega))
 have hs5l:=hg5.size
 clear hr5 hg5 hs5 hHeld HG R0 RS HE1 HLY HB
 have q4:w5.cell? ⟨wB.heap.size,4,none⟩=some (.slice (some ⟨g0,0,none⟩) 5 5):=RS5.out.cell 4
 (try simp only [Act.put])
 go_wp2_with (first|(refine wpList_storeC rfl 38 (.tmp 14) (.tmp 13) rfl 13 nod_size g0 39 38 rfl (upC1 (.slice (some ⟨wS3.heap.size,0,none⟩) 1 1)) (nodC ndW (.slice none 0 0) (.slice none 0 0)) rfl HG5.out rfl (show 39+13≤65 from (by decide)) (nodC_one _ _ _ _ _ _ _) ?_;intro w6 hr6 hg6 hs6;rw [up_two] at hr6;have HG6:=hide hr6;have HB6:=hide (HB5.out.grown hg6 HB5.out.size (pu4 (by omega)));have R06:=hide (R05.out.grown hg6 (pu5 (by omega)));have RS6:=hide (RS5.out.grown hg6 (pu5 (by omega)));have HE6:=hide (HE5.out.grown hg6 (fun e=>by have:=Option.some.inj e;have:(wS3.drew).heap.size=wS3.heap.size:=rfl;omega));have HL6:=hide (btw_grown HL5.out hg6 (by omega) (by omega));have hs6l:=hg6.size;clear hr6 hg6 hs6)|(refine wpList_loadW rfl 49 (.tmp 1) rfl 6 stk_agg stk_size (wB.heap.size) 49 rfl (stkC gB (.slice (some ⟨g0,0,none⟩) 5 5) (.slice AL nL cL)) RS6.out rfl ?_)|(refine wpList_storeW rfl 49 (.tmp 0) (.tmp 15) rfl 6 stk_size w.heap.size 49 rfl (stkC ⟨0,0,0,0⟩ (.slice none 0 0) (.slice none 0 0)) (stkC gB (.slice (some ⟨g0,0,none⟩) 5 5) (.slice AL nL cL)) rfl R06.out rfl rfl (stkC_one _ _ _ _ _ _ _) ?_;intro w7 hr7 hg7 hs7;have HR7:=hide hr7;have HG7:=hide (HG6.out.grown hg7 (pu5 (by omega)));have HB7:=hide (HB6.out.grown hg7 HB6.out.size (pu4 (by omega)));have HE7:=hide (HE6.out.grown hg7 (fun e=>by have:=Option.some.inj e;have:(wS3.drew).heap.size=wS3.heap.size:=rfl;omega));have HL7:=hide ((btw_grown HL6.out hg7 (by omega) (by omega)).mono (fun _ _=>rfl) (fun b hb=>(show b < w7.heap.size from by have h2:=hb.2;have h3:=hg7.size;omega)):RdE layEn w7 (Under w7.heap.size) AL nL lsB);clear hr7 hg7 hs7))
 exact bodyPost_ret (res_cell Try.results11 rfl stk_agg stk_size HR7.out rfl) rfl ⟨_,_,AL,nL,cL,rfl,HG7.out,HE7.out,HL7.out,by omega,HB7.out⟩

def ndV:NodV:={nod0 with k:=4,n:=7}
def upJ:List NodV:=[ndZ,ndD,ndD,ndV,nod0]
def upC4 (E:Value):List Value:=nodC ndD (.slice none 0 0) E++(nodC ndD (.slice none 0 0) (.slice none 0 0)++(nodC ndD (.slice none 0 0) (.slice none 0 0)++(nodC ndV (.slice none 0 0) (.slice none 0 0)++nodC nod0 (.slice none 0 0) (.slice none 0 0))))
theorem up_four (E:Value):(upC2 E).set 41 (.int .i64 7)=upC4 E:=rfl
theorem nods_I {w:World} {g0 gE:Nat} (h:RowL w g0 38 (upC2 (.slice (some ⟨gE,0,none⟩) 1 1))) (he:RowL w gE 40 (cellsE ⟨1,4,[122]⟩)):RdE nodEn w (Under w.heap.size) (some ⟨g0,0,none⟩) 5 upI:=nods_row h h.lt ⟨none,0,0,_,1,1,rfl,Nat.le_refl _,RdE.none_ _ _ _ _,Nat.le_refl _,ent_row (l:=[⟨1,4,[122]⟩]) he he.lt⟩ (ndDR _ _) (ndDR _ _) ⟨none,0,0,none,0,0,rfl,Nat.le_refl _,RdE.none_ _ _ _ _,Nat.le_refl _,RdE.none_ _ _ _ _⟩ (nod0R _ _)
theorem nods_J {w:World} {g0 gE:Nat} (h:RowL w g0 38 (upC4 (.slice (some ⟨gE,0,none⟩) 1 1))) (he:RowL w gE 40 (cellsE ⟨1,4,[122]⟩)):RdE nodEn w (Under w.heap.size) (some ⟨g0,0,none⟩) 5 upJ:=nods_row h h.lt ⟨none,0,0,_,1,1,rfl,Nat.le_refl _,RdE.none_ _ _ _ _,Nat.le_refl _,ent_row (l:=[⟨1,4,[122]⟩]) he he.lt⟩ (ndDR _ _) (ndDR _ _) ⟨none,0,0,none,0,0,rfl,Nat.le_refl _,RdE.none_ _ _ _ _,Nat.le_refl _,RdE.none_ _ _ _ _⟩ (nod0R _ _)
def rsI:List Bool:=[true,true,true,true,false]
theorem aw_rsI:reachL upI (waysT upI)=rsI:=by decide +kernel
theorem aw_rsJ:reachL upJ (waysT upJ)=rsI:=by decide +kernel
def csI:List (Nat×Nat):=[(2,4611686018427387904),(2,4611686018427387904),(2,4611686018427387904),(1,4607182418800017408),(0,0)]
def csJ:List (Nat×Nat):=[(2,4611686018427387904),(2,4611686018427387904),(2,4611686018427387904),(1,4619567317775286272),(0,0)]
theorem aw_csI:cntT upI rsI (waysT upI)=csI:=by decide +kernel
theorem aw_csJ:cntT upJ rsI (waysT upJ)=csJ:=by decide +kernel
theorem aw_findT:findT csJ csJ.length=[⟨19,0,4,-1⟩]:=by decide +kernel
theorem aw_name:nameT csJ 4=1:=by decide +kernel
theorem aw_mI:Many upI:=by
 refine ⟨by decide,?_⟩
 decide
theorem aw_mJ:Many upJ:=by
 refine ⟨by decide,?_⟩
 decide
theorem aw_o2:FloatKind.f64.format.order 4611686018427387904 4611686018427387904=some .eq:=by decide +kernel
theorem aw_o1:FloatKind.f64.format.order 4607182418800017408 4607182418800017408=some .eq:=by decide +kernel
theorem aw_o0:FloatKind.f64.format.order 0 0=some .eq:=by decide +kernel
set_option maxRecDepth 100000 in
set_option maxHeartbeats 8000000 in
theorem awake25_any (w:World):Calls Try.prog 5 #[] w (LawOk w):=by
 have HB:=hide (below_self w)
 have hlit:=fun W=>litT_fin 19 0 4 (-1) W
 go_enter Try.func5,Try.ntmps5
 go_upto_region 4 with (first|(go_at_call 11;refine (Idle_o w).mono ?_;rintro e1 wB ⟨g0,gE,AL,nL,cL,rfl,hrow,hent,hlay,hg0,hbel⟩;have hg0l:=hrow.lt;have hgEl:=hent.lt;have hgne:g0≠gE:=row_two hrow hent (by decide);clear hlay;replace HB:=hide (HB.out.trans (hbel.mono HB.out.size));have hsz2:=hbel.size;have HG:=hide hrow;clear hrow;have HE:=hide hent;clear hent;clear hbel)|(refine wpList_storeW rfl 49 (.tmp 1) (.tmp 3) rfl 6 stk_size (wB.heap.size) 49 rfl (stkC ⟨0,0,0,0⟩ (.slice none 0 0) (.slice none 0 0)) (stkC gB (.slice (some ⟨g0,0,none⟩) 5 5) (.slice AL nL cL)) rfl (RowL.new wB 49 (stkC ⟨0,0,0,0⟩ (.slice none 0 0) (.slice none 0 0))) rfl rfl (stkC_one _ _ _ _ _ _ _) ?_;intro wS3 hr3 hg3 hs3;have hzb:=below_stored' hg3;replace HB:=hide (HB.out.trans (hzb.mono HB.out.size));replace HG:=hide (HG.out.on hzb);replace HE:=hide (HE.out.on hzb);have hsz4:=hzb.size;have R1:=hide hr3;have hlt3:=hr3.lt;have q1_4:wS3.cell? ⟨wB.heap.size,4,none⟩=some (.slice (some ⟨g0,0,none⟩) 5 5):=R1.out.cell 4;have q1_0:wS3.cell? ⟨wB.heap.size,0,none⟩=some (.int .i64 1):=R1.out.cell 0;have q1_1:wS3.cell? ⟨wB.heap.size,1,none⟩=some (.int .i64 5):=R1.out.cell 1;have q1_2:wS3.cell? ⟨wB.heap.size,2,none⟩=some (.int .i64 6):=R1.out.cell 2;have q1_3:wS3.cell? ⟨wB.heap.size,3,none⟩=some (.int .i64 5):=R1.out.cell 3;have q1_5:wS3.cell? ⟨wB.heap.size,5,none⟩=some (.slice AL nL cL):=R1.out.cell 5;clear hzb hr3;clear hg3 hs3;have HU:=hide (nods_I HG.out HE.out))|(refine wpList_loadC rfl 24 (.tmp 4) rfl 1 lay_agg lay_size (wB.heap.size) 4 49 rfl (stkC gB (.slice (some ⟨g0,0,none⟩) 5 5) (.slice AL nL cL)) [.slice (some ⟨g0,0,none⟩) 5 5] R1.out rfl rfl ?_)|(go_at_call 12;refine (Counts_any aw_rsI wS3 HU.out (by omega) aw_mI).mono ?_;rintro e5 wC ⟨gC,rfl,hgC,hrc,hbel⟩;rw [aw_csI] at hrc;clear q1_4 q1_0 q1_1 q1_2 q1_3 q1_5;replace HB:=hide (HB.out.trans (hbel.mono HB.out.size));replace HG:=hide (HG.out.on hbel);replace HE:=hide (HE.out.on hbel);replace R1:=hide (R1.out.on hbel);replace HU:=hide (HU.out.under hbel (by omega));have hsz6:=hbel.size;have q1_4:wC.cell? ⟨wB.heap.size,4,none⟩=some (.slice (some ⟨g0,0,none⟩) 5 5):=R1.out.cell 4;have q1_0:wC.cell? ⟨wB.heap.size,0,none⟩=some (.int .i64 1):=R1.out.cell 0;have q1_1:wC.cell? ⟨wB.heap.size,1,none⟩=some (.int .i64 5):=R1.out.cell 1;have q1_2:wC.cell? ⟨wB.heap.size,2,none⟩=some (.int .i64 6):=R1.out.cell 2;have q1_3:wC.cell? ⟨wB.heap.size,3,none⟩=some (.int .i64 5):=R1.out.cell 3;have q1_5:wC.cell? ⟨wB.heap.size,5,none⟩=some (.slice AL nL cL):=R1.out.cell 5;have RC:=hide hrc;clear hrc;clear hbel;have qx:=HG.out.cell 41;have qf:=HG.out.frozen 41))
 have hgs:=grown_cell wC g0 41 (.int .i64 7)
 have hr4:RowL (wC.setCell ⟨g0,41,none⟩ (.int .i64 7)) g0 38 (upC4 (.slice (some ⟨gE,0,none⟩) 1 1)):=by
  have h:=HG.out.set_ 41 (.int .i64 7)
  rw [up_four] at h
  exact h
 replace HB:=hide (HB.out.grown hgs HB.out.size (pu4 (by omega)))
 replace R1:=hide (R1.out.grown hgs (by intro e;have:=Option.some.inj e;omega))
 replace HE:=hide (HE.out.grown hgs (by intro e;have:=Option.some.inj e;omega))
 replace RC:=hide (RC.out.grown hgs (by intro e;have:=Option.some.inj e;omega))
 replace HU:=hide (nods_J hr4 HE.out)
 have hs4:=hgs.size
 clear qx qf hr4 hgs HG HE q1_4 q1_0 q1_1 q1_2 q1_3 q1_5
 generalize wC.setCell ⟨g0,41,none⟩ (.int .i64 7)=w4 at *
 generalize wB.heap.size=g1 at *
 have q0:w4.cell? ⟨gC,0,none⟩=some (.complex .f64 4611686018427387904 4611686018427387904):=by have h:=RC.out.cell 0;rw [show (csI.map cT)[0]?=some (.complex .f64 (F 2) 4611686018427387904) from rfl,F_two] at h;exact h
 have q3:w4.cell? ⟨gC,3,none⟩=some (.complex .f64 4607182418800017408 4607182418800017408):=by have h:=RC.out.cell 3;rw [show (csI.map cT)[3]?=some (.complex .f64 (F 1) 4607182418800017408) from rfl,F_1] at h;exact h
 have q4:w4.cell? ⟨gC,4,none⟩=some (.complex .f64 0 0):=by have h:=RC.out.cell 4;rw [show (csI.map cT)[4]?=some (cT (0,0)) from rfl,cT_zero] at h;exact h
 have q1_4:w4.cell? ⟨g1,4,none⟩=some (.slice (some ⟨g0,0,none⟩) 5 5):=R1.out.cell 4
 have q1_0:w4.cell? ⟨g1,0,none⟩=some (.int .i64 1):=R1.out.cell 0
 have q1_1:w4.cell? ⟨g1,1,none⟩=some (.int .i64 5):=R1.out.cell 1
 have q1_2:w4.cell? ⟨g1,2,none⟩=some (.int .i64 6):=R1.out.cell 2
 have q1_3:w4.cell? ⟨g1,3,none⟩=some (.int .i64 5):=R1.out.cell 3
 have q1_5:w4.cell? ⟨g1,5,none⟩=some (.slice AL nL cL):=R1.out.cell 5
 have ho2:=aw_o2
 have ho1:=aw_o1
 have ho0:=aw_o0
 go_wp2_with (first|(refine wpList_loadC rfl 24 (.tmp 44) rfl 1 lay_agg lay_size g1 4 49 rfl (stkC gB (.slice (some ⟨g0,0,none⟩) 5 5) (.slice AL nL cL)) [.slice (some ⟨g0,0,none⟩) 5 5] R1.out rfl rfl ?_)|(go_at_call 7;refine (TNames_any aw_rsJ aw_csJ aw_name w4 HU.out (by omega) aw_mJ).mono ?_;rintro e61 wN ⟨rfl,hbel⟩;clear q0 q3 q4;clear q1_4 q1_0 q1_1 q1_2 q1_3 q1_5;replace HB:=hide (HB.out.trans (hbel.mono HB.out.size));replace R1:=hide (R1.out.on hbel);replace HU:=hide (HU.out.under hbel (by omega));have hsz62:=hbel.size;have q1_4:wN.cell? ⟨g1,4,none⟩=some (.slice (some ⟨g0,0,none⟩) 5 5):=R1.out.cell 4;have q1_0:wN.cell? ⟨g1,0,none⟩=some (.int .i64 1):=R1.out.cell 0;have q1_1:wN.cell? ⟨g1,1,none⟩=some (.int .i64 5):=R1.out.cell 1;have q1_2:wN.cell? ⟨g1,2,none⟩=some (.int .i64 6):=R1.out.cell 2;have q1_3:wN.cell? ⟨g1,3,none⟩=some (.int .i64 5):=R1.out.cell 3;have q1_5:wN.cell? ⟨g1,5,none⟩=some (.slice AL nL cL):=R1.out.cell 5;clear hbel)|(go_at_call 14;refine (TFinds_p (g:=gB) (AL:=AL) (nL:=nL) (cL:=cL) (n:=1) aw_rsJ aw_csJ aw_findT rfl wN HU.out (by omega) aw_mJ).mono ?_;rintro e63 wF ⟨A5,c5,rfl,h5,hbel⟩;clear q1_4 q1_0 q1_1 q1_2 q1_3 q1_5;replace HB:=hide (HB.out.trans (hbel.mono HB.out.size));replace R1:=hide (R1.out.on hbel);replace HU:=hide (HU.out.under hbel (by omega));have hsz64:=hbel.size;have q1_4:wF.cell? ⟨g1,4,none⟩=some (.slice (some ⟨g0,0,none⟩) 5 5):=R1.out.cell 4;have q1_0:wF.cell? ⟨g1,0,none⟩=some (.int .i64 1):=R1.out.cell 0;have q1_1:wF.cell? ⟨g1,1,none⟩=some (.int .i64 5):=R1.out.cell 1;have q1_2:wF.cell? ⟨g1,2,none⟩=some (.int .i64 6):=R1.out.cell 2;have q1_3:wF.cell? ⟨g1,3,none⟩=some (.int .i64 5):=R1.out.cell 3;have q1_5:wF.cell? ⟨g1,5,none⟩=some (.slice AL nL cL):=R1.out.cell 5;have HF5:=hide h5;clear h5;clear hbel)|(go_at_call 13;refine (EqualFin_same (L:=[⟨19,0,4,-1⟩]) _ (und_up (HF5.out.under (below_new (below_self wF) _) (by omega)) (by simp)) ((finT_lit ⟨19,0,4,-1⟩ wF (lo:=0) (Nat.zero_le _)).mono (fun _ _=>rfl) (fun _ h=>h.2)) (by omega)).mono ?_;rintro e99 wE ⟨rfl,hbel0⟩;have hbel:Below wF.heap.size wF wE:=(below_new (below_self wF) (.cells #[.int .i64 19,.int .i64 0,.int .i64 4,.int .i64 (-1)] 58)).trans (hbel0.mono (by simp));replace HB:=hide (HB.out.trans (hbel.mono HB.out.size));clear hbel hbel0 HF5)|(refine wpList_loadW rfl 49 (.tmp 1) rfl 6 stk_agg stk_size g1 49 rfl (stkC gB (.slice (some ⟨g0,0,none⟩) 5 5) (.slice AL nL cL)) R1.out rfl ?_))
 go_ret
 exact LawOk.of HB.out
end Go.Proofs.Ytggnbflbbfdohaa

