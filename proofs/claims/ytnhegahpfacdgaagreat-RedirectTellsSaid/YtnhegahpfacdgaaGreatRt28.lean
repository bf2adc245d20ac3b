import Derived.Test.YtnhegahpfacdgaaGreatRt27
import Derived.Test.YtnhegahpfacdgaaGreatRt19

namespace Go.Proofs.YtnhegahpfacdgaaGreat
open Go.RowKit Go.Shelf Plain

def WaysRet0 (w:World) (l:List WayV) (e:Ending) (w':World):Prop:=∃A c,e=.returned (.slice A l.length c)∧l.length≤c∧RdE wayEn w' (fun b=>w.heap.size≤b∧b < w'.heap.size) A l.length l∧Below w.heap.size w w'
theorem RdN.keep {α:Type} {E:Enc α} {W W':World} {g n:Nat} {A:Option Addr} {l:List α} (h:RdN E W g A n l) (hg:W.grownBy W' (some g)):RdN E W' g A n l:=RdE.mono h (fun _ hb=>hg.block _ hb.1 (fun e=>hb.2 (Option.some.inj e))) (fun _ hb=>⟨Nat.lt_of_lt_of_le hb.1 hg.size,hb.2⟩)
set_option maxRecDepth 100000 in
set_option maxHeartbeats 1600000 in
theorem RDirs_any {A F:Option Addr} {n c k d:Nat} {ns:List NodV} {ff:List Int} (w:World) (h:RdE nodEn w (Under w.heap.size) A n ns) (hf:RdE Enc.int w (Under w.heap.size) F k ff) (hM:Many ns) (hk:k≤1000) :
  Calls Tryz.prog 45 #[.agg #[.slice A n c],.slice F k d] w (WaysRet0 w (walkW ns ff).1):=by
 have r:=RowL.new w 26 [.slice A n c]
 have hb1:=below_new (below_self w) (.cells [Value.slice A n c].toArray 26)
 have q1:(w.alloc (.cells #[.slice A n c] 26)).cell? ⟨w.heap.size,0,none⟩=some (.slice A n c):=r.cell 0
 have HN1:=hide (h.on hb1)
 have HF1:=hide (hf.on hb1)
 have HB1:=hide hb1
 have HM:=hide hM
 clear r hb1 h hf hM
 go_enter Tryz.func45,Tryz.ntmps45
 go_wp2_with (go_at_call 71;refine (RWalk_any _ HN1.out HF1.out HM.out hk).mono ?_;rintro e w2 ⟨A6,c6,A7,c7,rfl,h6,h7,hr6,hr7,hb2⟩;have HR6:=hide hr6;have HR7:=hide hr7;have HB2:=hide hb2;clear hr6 hr7 hb2)
 go_ret
 exact ⟨A6,c6,rfl,h6,HR6.out.mono (fun _ _=>rfl) (fun b hb=>⟨Nat.le_trans HB1.out.size hb.1,hb.2⟩),below_step HB1.out HB2.out⟩
set_option maxRecDepth 100000 in
set_option maxHeartbeats 8000000 in
theorem RReach_any {A F:Option Addr} {n c k d:Nat} {ns:List NodV} {ff:List Int} (w:World) (h:RdE nodEn w (Under w.heap.size) A n ns) (hf:RdE Enc.int w (Under w.heap.size) F k ff) (hM:Many ns) (hk:k≤1000) :
  Calls Tryz.prog 26 #[.agg #[.slice A n c],.slice F k d] w (BoolsRet w (reachL ns (walkW ns ff).1)):=by
 have r:=RowL.new w 26 [.slice A n c]
 have hb1:=below_new (below_self w) (.cells [Value.slice A n c].toArray 26)
 obtain ⟨W1,hW1⟩:∃W1,w.alloc (.cells [Value.slice A n c].toArray 26)=W1:=⟨_,rfl⟩
 have H0:=h.on hb1
 have F0:=hf.on hb1
 have hm24:=hM.1
 obtain rfl:n=ns.length:=h.1.symm
 rw [hW1] at r hb1 H0 F0
 have hW1':w.alloc (.cells #[.slice A ns.length c] 26)=W1:=hW1
 have q1:W1.cell? ⟨w.heap.size,0,none⟩=some (.slice A ns.length c):=r.cell 0
 have HR1:=hide r
 have HB1:=hide hb1
 have HN1:=hide H0
 have HF1:=hide F0
 have HM:=hide hM
 have HOK:=hide (walk_ok ns ff)
 have hle:=(walk_ok ns ff).le
 have hDL:=fun (W:World) (h1:RdE nodEn W (Under W.heap.size) A ns.length ns) (h2:RdE Enc.int W (Under W.heap.size) F k ff)=>RDirs_any (c:=c) (d:=d) W h1 h2 HM.out hk
 obtain ⟨L,hL⟩:∃L,(walkW ns ff).1=L:=⟨_,rfl⟩
 rw [hL] at HOK hle hDL ⊢
 have HDL:=hide hDL
 clear r hb1 H0 F0 hW1 h hf hM hDL hL
 go_enter Tryz.func26,Tryz.ntmps26
 go_wp2_with (first|(refine wpList_make_Row' _ rfl _ _ 55 rfl 4 Tryz.underlying55 (.bool false) rfl 1 boolw_info .i64 .i64 _ _ ns.length rfl rfl rfl rfl (by omega) (by omega) ?_;intro w2 hr2 hb2;have HR2:=hide hr2;have HB2:=hide hb2;have q2:w2.cell? ⟨w.heap.size,0,none⟩=some (.slice A ns.length c):=(HR1.out.on hb2).cell 0;clear hr2 hb2)|(go_at_call 45;refine (HDL.out w2 (HN1.out.on HB2.out) (HF1.out.on HB2.out)).mono ?_;rintro e w3 ⟨A6,c6,rfl,hc6,h6,hb3⟩;have H6:=hide h6;have HB3:=hide hb3;clear h6 hb3))
 clear hW1' q1 q2
 have hg2:=HR2.out.lt
 have HRN:=hide (RdN.of_fresh H6.out hg2)
 have hr3:RowL w3 W1.heap.size 4 ((List.replicate ns.length false).map Value.bool):=by rw [List.map_replicate];exact HR2.out.on HB3.out
 have hb13:=HB2.out.trans (HB3.out.mono HB2.out.size)
 clear HDL
 go_loopw [7] (fun v7 wr=>∃j:Nat,j≤L.length∧v7=.int .i64 j∧RowL wr W1.heap.size 4 (((L.take j).foldl (wayF ns) (List.replicate ns.length false)).map Value.bool)∧Below W1.heap.size W1 wr∧RdN wayEn wr W1.heap.size A6 L.length L) (fun v7 _=>L.length - (intOf v7).toNat)
 case atStart=>exact ⟨0,by omega,rfl,by rw [List.take_zero];exact hr3,hb13,HRN.out⟩
 case round =>
  obtain ⟨j,hj,rfl,hrr,hbr,hrn⟩:=hrel
  clear hr3 hb13 HRN
  by_cases hlt:j < L.length
  ·obtain ⟨y,hy⟩:∃y,L[j]?=some y:=⟨_,List.getElem?_eq_getElem hlt⟩
   have hin:=isDir_in (HOK.out.1 y (List.mem_of_getElem? hy))
   obtain ⟨gW,oW,hA6,hDW,hcy⟩:=way_get hrn hy
   obtain ⟨m,hm⟩:∃m:Nat,y.ino=(m:Int)+1:=by
    obtain ⟨m,hm⟩:=Int.eq_ofNat_of_zero_le (show 0≤y.ino - 1 by omega)
    exact ⟨m,by omega⟩
   have HST:=hide (show (L.take (j+1)).foldl (wayF ns) (List.replicate ns.length false)=wayF ns ((L.take j).foldl (wayF ns) (List.replicate ns.length false)) y from by rw [List.take_add_one,hy,List.foldl_append];rfl)
   have hlenb:((L.take j).foldl (wayF ns) (List.replicate ns.length false)).length=ns.length:=by rw [waysF_len];simp
   generalize (L.take j).foldl (wayF ns) (List.replicate ns.length false)=bs at *
   subst hA6
   have hmn:m < ns.length:=by omega
   have hw1:IntKind.i64.wrap (y.ino - 1)=(m:Int):=by rw [hm,show (m:Int)+1 - 1=m from by omega];exact IntWalk.i64_in _ (by omega)
   have qy:wr.cell? ⟨gW,oW+j*3,none⟩=some (.int .i64 y.ino):=hcy 0 _ rfl
   obtain ⟨xb,qb⟩:=bools_cell hrr (j:=m) (by omega)
   have qf:=hrr.frozen m
   have hjl:(j:Int) < (L.length:Int):=by omega
   have hml:(m:Int) < (ns.length:Int):=by omega
   have hgl:=hrr.lt
   have HRR:=hide hrr
   have HBR:=hide hbr
   have HRN:=hide hrn
   have HM2:=hide hm
   have HDW:=hide hDW
   clear hy hcy hrr hbr hrn hm hDW
   go_upto_region 7 with fail
   have hg4:=grown_cell wr W1.heap.size m (.bool true)
   have hr4:RowL (wr.setCell ⟨W1.heap.size,m,none⟩ (.bool true)) W1.heap.size 4 ((setB bs y.ino).map Value.bool):=bools_set HRR.out HM2.out
   have hb4:Below W1.heap.size W1 (wr.setCell ⟨W1.heap.size,m,none⟩ (.bool true)):=HBR.out.setCell (p:=⟨W1.heap.size,m,none⟩) (Nat.le_refl _) _
   have hn4:=HRN.out.keep hg4
   have hgw:gW < (wr.setCell ⟨W1.heap.size,m,none⟩ (.bool true)).heap.size:=Nat.lt_of_lt_of_le HDW.out.1 hg4.size
   have qy4:(wr.setCell ⟨W1.heap.size,m,none⟩ (.bool true)).cell? ⟨gW,oW+j*3,none⟩=some (.int .i64 y.ino):=(cell_same (hg4.block gW HDW.out.1 (fun e=>HDW.out.2 (Option.some.inj e)))).trans qy
   have hlb:(setB bs y.ino).length=ns.length:=by rw [setB_len,hlenb]
   have HST2:=hide (show wayF ns bs y=(nodAt ns y.ino).ents.foldl (entF ns) (setB bs y.ino) from rfl)
   clear qy qb qf hg4
   generalize setB bs y.ino=bs0 at *
   generalize wr.setCell ⟨W1.heap.size,m,none⟩ (.bool true)=w4 at *
   have HB4:=hide hb4
   have HR4:=hide hr4
   have HN4:=hide hn4
   have hs4:=hb4.size
   have HQ1:=hide (fun W (hb:Below w4.heap.size w4 W)=>show W.cell? ⟨w.heap.size,0,none⟩=some (.slice A ns.length c) from (HR1.out.on (hb4.trans (hb.mono hs4))).cell 0)
   have HQY:=hide (fun W (hb:Below w4.heap.size w4 W)=>show W.cell? ⟨gW,oW+j*3,none⟩=some (.int .i64 y.ino) from (hb.cell (p:=⟨gW,oW+j*3,none⟩) hgw).trans qy4)
   clear hb4 hr4 hn4 qy4
   refine wp_region_planN (fun w'=>Below w4.heap.size w4 w') [(0,true),(1,true),(2,true),(3,true),(4,true),(5,true),(6,false),(7,true),(8,true)] (by kernel_rfl) (by kernel_rfl) (by kernel_rfl) (by kernel_rfl) rfl (fun _ _ _ _ _ h=>h) (below_drew (below_self w4)) (fun hHeld=>?_)
   simp only [planOps,List.filterMap_cons,List.filterMap_nil,List.getElem?_toArray,List.getElem?_cons_succ,List.getElem?_cons_zero,Option.map_some]
   refine wpPlan_take (v:=?_) (by kernel_rfl) (fun wS hSw=>?_) ?_
   rotate_left
   ·have qx:=HQ1.out wS hSw;go_simp;(try with_reducible rfl)
   (try simp only [Act.put,pu1,pu2,pu3])
   iterate 4
    refine wpPlan_take (v:=?_) (by kernel_rfl) (fun wS hSw=>?_) ?_
    rotate_left
    ·(try dsimp only at hSw);go_simp;(try with_reducible rfl)
    (try simp only [Act.put,pu1,pu2,pu3])
   refine wpPlan_take (v:=?_) (by kernel_rfl) (fun wS hSw=>?_) ?_
   rotate_left
   ·have qx:=HQY.out wS hSw;go_simp;(try with_reducible rfl)
   (try simp only [Act.put,pu1,pu2,pu3])
   refine wpPlan_call (by kernel_rfl) (fun K hK=>?_)
   have hOld:=hide hHeld
   clear hHeld
   go_simp
   go_at_call 50
   refine (At_anyB (B:=W1.heap.size) (i:=y.ino) _ (HN1.out.under (HB4.out.trans (hOld.out.mono hs4)) (Nat.le_refl _)) (HB4.out.trans (hOld.out.mono hs4)).size (by omega)).mono ?_
   rintro e w' ⟨A8,n8,c8,C8,m8,d8,rfl,-,-,hmd8,hE,hbel⟩
   have hf5:=nod_f5 (nodAt ns y.ino) A8 C8 n8 c8 m8 d8
   refine hK.out _ _ (hOld.out.trans (hbel.mono hOld.out.size)) (fun hHeld=>?_)
   clear hK K
   (try simp only [Act.put,pu1,pu2,pu3])
   iterate 2
    refine wpPlan_take (v:=?_) (by kernel_rfl) (fun wS hSw=>?_) ?_
    rotate_left
    ·(try dsimp only at hSw);go_simp;(try with_reducible rfl)
    (try simp only [Act.put,pu1,pu2,pu3])
   refine wpPlan_end ?_
   have HE1:=hide (hE.mono (fun b hb=>((HB4.out.trans (hHeld.mono hs4)).block b hb).symm) (fun _ h=>h):RdE entEn W1 (Under W1.heap.size) C8 m8 (nodAt ns y.ino).ents)
   have hm16:m8≤16:=by rw [←hE.1];exact nodAt_ents HM.out y.ino
   have hr5:=HR4.out.on hHeld
   have hb5:=HB4.out.trans (hHeld.mono hs4)
   have hn5:=HN4.out.on hHeld
   obtain ⟨LE,hLE⟩:∃LE,(nodAt ns y.ino).ents=LE:=⟨_,rfl⟩
   rw [hLE] at HE1 HST2
   have hEl:=HE1.out.1
   clear hE hHeld hLE
   generalize w'=w5 at *
   go_wp2_with fail
   clear hf5
   go_loopw [9] (fun v9 wr=>∃i:Nat,i≤m8∧v9=.int .i64 i∧RowL wr W1.heap.size 4 (((LE.take i).foldl (entF ns) bs0).map Value.bool)∧Below W1.heap.size W1 wr∧RdN wayEn wr W1.heap.size (some ⟨gW,oW,none⟩) L.length L) (fun v9 _=>m8 - (intOf v9).toNat)
   case atStart=>exact ⟨0,by omega,rfl,by rw [List.take_zero];exact hr5,hb5,hn5⟩
   case round =>
    obtain ⟨i,hi,rfl,hrq,hbq,hnq⟩:=hrel
    clear hr5 hb5 hn5
    by_cases hlt2:i < m8
    ·obtain ⟨x,hx⟩:∃x,LE[i]?=some x:=⟨_,List.getElem?_eq_getElem (by omega)⟩
     obtain ⟨bE,oE,hC8,hbE,hcE⟩:=ent_get HE1.out hx
     have qi:wr.cell? ⟨bE,oE+i*3+1,none⟩=some (.int .i64 x.ino):=(hbq.cell (p:=⟨bE,oE+i*3+1,none⟩) hbE).trans (hcE 1 _ rfl)
     subst hC8
     have HSI:=hide (show (LE.take (i+1)).foldl (entF ns) bs0=entF ns ((LE.take i).foldl (entF ns) bs0) x from by rw [List.take_add_one,hx,List.foldl_append];rfl)
     have hlen2:((LE.take i).foldl (entF ns) bs0).length=ns.length:=by rw [entsF_len,hlb]
     generalize (LE.take i).foldl (entF ns) bs0=bs2 at *
     have him:(i:Int) < (m8:Int):=by omega
     by_cases h1:1≤x.ino
     rotate_left
     ·have d1:decide (1≤x.ino)=false:=decide_eq_false h1
      have HEN:=hide (show entF ns bs2 x=bs2 from by unfold entF inN;rw [d1];rfl)
      have HRQ:=hide hrq
      have HBQ:=hide hbq
      have HNQ:=hide hnq
      clear hx hcE hrq hbq hnq h1
      go_wp2_with fail
      go_roundw
      case rel=>exact ⟨i+1,by omega,by go_num,by rw [HSI.out,HEN.out];exact HRQ.out,HBQ.out,HNQ.out⟩
      case measure=>simp [intOf];omega
     have d1:decide (1≤x.ino)=true:=decide_eq_true h1
     by_cases h2:x.ino≤(ns.length:Int)
     rotate_left
     ·have d2:decide (x.ino≤(ns.length:Int))=false:=decide_eq_false h2
      have HEN:=hide (show entF ns bs2 x=bs2 from by unfold entF inN;rw [d1,d2];rfl)
      have HRQ:=hide hrq
      have HBQ:=hide hbq
      have HNQ:=hide hnq
      clear hx hcE hrq hbq hnq h1 h2
      go_wp2_with fail
      go_roundw
      case rel=>exact ⟨i+1,by omega,by go_num,by rw [HSI.out,HEN.out];exact HRQ.out,HBQ.out,HNQ.out⟩
      case measure=>simp [intOf];omega
     have d2:decide (x.ino≤(ns.length:Int))=true:=decide_eq_true h2
     have HEN:=hide (show entF ns bs2 x=setB bs2 x.ino from by unfold entF inN;rw [d1,d2];rfl)
     obtain ⟨m2,hm2⟩:∃m2:Nat,x.ino=(m2:Int)+1:=by
      obtain ⟨m2,hm2⟩:=Int.eq_ofNat_of_zero_le (show 0≤x.ino - 1 by omega)
      exact ⟨m2,by omega⟩
     have hm2n:m2 < ns.length:=by omega
     have hw2:IntKind.i64.wrap (x.ino - 1)=(m2:Int):=by rw [hm2,show (m2:Int)+1 - 1=m2 from by omega];exact IntWalk.i64_in _ (by omega)
     have hm2l:(m2:Int) < (ns.length:Int):=by omega
     obtain ⟨xb2,qb2⟩:=bools_cell hrq (j:=m2) (by omega)
     have qf2:=hrq.frozen m2
     have hg6:=hide (grown_cell wr W1.heap.size m2 (.bool true))
     have HRQ:=hide hrq
     have HBQ:=hide hbq
     have HNQ:=hide hnq
     have HM3:=hide hm2
     clear hx hcE hrq hbq hnq h1 h2 hm2
     go_wp2_with fail
     go_roundw
     case rel=>exact ⟨i+1,by omega,by go_num,by rw [HSI.out,HEN.out];exact bools_set HRQ.out HM3.out,HBQ.out.setCell (p:=⟨W1.heap.size,m2,none⟩) (Nat.le_refl _) _,HNQ.out.keep hg6.out⟩
     case measure=>simp [intOf];omega
    ·obtain rfl:i=m8:=by omega
     rw [List.take_of_length_le (by omega)] at hrq
     have HRQ:=hide hrq
     have HBQ:=hide hbq
     have HNQ:=hide hnq
     clear hrq hbq hnq
     go_wp2_with fail
     go_roundw
     case rel=>exact ⟨j+1,by omega,by go_num,by rw [HST.out,HST2.out];exact HRQ.out,HBQ.out,HNQ.out⟩
     case measure=>simp [intOf];omega
  ·obtain rfl:j=L.length:=by omega
   go_wp2
   go_ret
   rw [List.take_length] at hrr
   have hl:=reachL_len ns L
   refine ⟨some ⟨W1.heap.size,0,none⟩,ns.length,ns.length,rfl,Nat.le_refl _,⟨hl,fun _=>⟨W1.heap.size,0,rfl,hrr.lt,fun i x hx=>?_⟩⟩,HB1.out.trans (hbr.mono HB1.out.size),fun b o e=>by cases e;exact HB1.out.size⟩
   rw [Nat.zero_add,hrr.cell,List.getElem?_map]
   show ((reachL ns L)[i]?).map _=_
   rw [hx]
   rfl
end Go.Proofs.YtnhegahpfacdgaaGreat

namespace Go.Proofs.YtnhegahpfacdgaaGreat
open Go.RowKit Go.Shelf Plain

def ndD:NodV:={nod0 with k:=1,n:=2}
def ndA:NodV:={nod0 with k:=1,n:=2,ents:=[⟨0,2,[97]⟩]}
def ndF:NodV:={nod0 with k:=2,n:=1,g:=3,data:=[120]}
def upB:List NodV:=[ndD,ndD,ndD,nod0,nod0]
def lyB:List NodV:=[ndA,ndF,nod0,nod0,nod0]
def lsB:List (List NodV):=[lyB]
def gB:GeoQ:=⟨1,5,6,5⟩
theorem ba_few:FewL lsB:=by
 refine ⟨by decide,fun ns hns=>?_⟩
 rw [List.mem_singleton.1 hns]
 refine ⟨by decide,fun x hx=>?_⟩
 simp only [lyB,List.mem_cons,List.not_mem_nil,or_false] at hx
 rcases hx with rfl|rfl|rfl|rfl|rfl
 ·refine ⟨fun i e hi he=>?_,by decide,by decide,by decide,by decide,by decide,fun e he=>?_⟩
  ·obtain rfl:i=0:=by have:i < 1:=hi;omega
   cases he
   exact ⟨by decide,by decide,fun p h=>absurd h (by omega)⟩
  ·rw [List.mem_singleton.1 he]
   decide
 ·exact ⟨fun i e hi he=>absurd hi (by simp [ndF,nod0]),by decide,by decide,by decide,by decide,by decide,fun e he=>by simp [ndF,nod0] at he⟩
 ·exact plain0
 ·exact plain0
 ·exact plain0
def StkRet (w:World) (g:GeoQ) (up:List NodV) (ls:List (List NodV)) (e:Ending) (w':World):Prop:=∃AU nU cU AL nL cL,e=.returned (.agg (stkC g (.slice AU nU cU) (.slice AL nL cL)).toArray)∧RdE nodEn w' (Under w'.heap.size) AU nU up∧RdE layEn w' (Under w'.heap.size) AL nL ls∧Below w.heap.size w w'
def AggRet (w:World) (cs:List Value) (e:Ending) (w':World):Prop:=e=.returned (.agg cs.toArray)∧Below w.heap.size w w'
set_option maxRecDepth 100000 in
set_option maxHeartbeats 1600000 in
theorem Dir_any {C:Option Addr} {m d:Nat} (w:World):Calls Tryz.prog 36 #[.slice C m d] w (AggRet w (nodC ndD (.slice none 0 0) (.slice C m d))):=by
 have hz:=RowL.new w 65 (nodC nod0 (.slice none 0 0) (.slice none 0 0))
 have hb:=below_new (below_self w) (.cells (nodC nod0 (.slice none 0 0) (.slice none 0 0)).toArray 65)
 have HZ:=hide hz
 have HB:=hide hb
 clear hz hb
 go_enter Tryz.func36,Tryz.ntmps36
 go_wp2_with (refine wpList_storeW rfl 65 (.tmp 2) (.tmp 4) rfl 13 nod_size w.heap.size 65 rfl (nodC nod0 (.slice none 0 0) (.slice none 0 0)) (nodC ndD (.slice none 0 0) (.slice C m d)) rfl HZ.out rfl rfl (nodC_one _ _ _ _ _ _ _) ?_;intro w9 hr9 hg9 hs9;have HR9:=hide hr9;have HB9:=hide (HB.out.grown hg9 HB.out.size (pu4 (by omega)));clear hr9 hg9 hs9)
 exact bodyPost_ret (res_cell Tryz.results36 rfl nod_agg nod_size HR9.out rfl) rfl ⟨rfl,HB9.out⟩
set_option maxRecDepth 100000 in
theorem lit_nods {c0 c1 c2 c3 c4:List Value} (h0:c0.length=13) (h1:c1.length=13) (h2:c2.length=13) (h3:c3.length=13) (h4:c4.length=13) (W:World):(Instr.buildSlice 24 5 #[(0,.agg c0.toArray),(1,.agg c1.toArray),(2,.agg c2.toArray),(3,.agg c3.toArray),(4,.agg c4.toArray)]).run Tryz.prog W=.ok (.slice (some ⟨W.heap.size,0,none⟩) 5 5) (W.alloc (.cells (c0++(c1++(c2++(c3++c4)))).toArray 65)):=by
 obtain ⟨it,hi,hz,hsz,-⟩:=info_parts nodw_info
 refine run_buildSlice W _ 65 5 _ _ it _ Tryz.underlying24 hi hz (by omega) (by omega) ?_
 rw [hsz]
 have:=Great.fill_whole (s:=13) (by omega) [.agg c0.toArray,.agg c1.toArray,.agg c2.toArray,.agg c3.toArray,.agg c4.toArray] ((Array.range (5*13)).map ((Value.agg nodZ.toArray).cells[· % (Value.agg nodZ.toArray).cells.size]!)) (by intro v hv;simp only [List.mem_cons,List.not_mem_nil,or_false] at hv;rcases hv with rfl|rfl|rfl|rfl|rfl <;> simp [Value.cells,h0,h1,h2,h3,h4]) (by simp)
 simpa [Value.cells] using this
theorem wpList_lit5 {P:Program} {w w':World} {ops:Array Oper} {rest:List Oper} {o:Oper} {a:Act} {Q:Exit→Act→World→Prop} (hgd:o.guard=none) (t:Nat) (x0 x1 x2 x3 x4:Operand) (ho:o.op=.buildSlice t 5 #[(0,x0),(1,x1),(2,x2),(3,x3),(4,x4)]) (v0 v1 v2 v3 v4 v:Value) (h0:a.eval x0=v0) (h1:a.eval x1=v1) (h2:a.eval x2=v2) (h3:a.eval x3=v3) (h4:a.eval x4=v4) (hr:(Instr.buildSlice t 5 #[(0,v0),(1,v1),(2,v2),(3,v3),(4,v4)]).run P w=.ok v w') (hK:wpList P ops Q rest (a.put o.dst v) w'):wpList P ops Q (o::rest) a w:=by
 refine wpList_plain hgd fun K hK'=>?_
 unfold Oper.wp execOp
 simp only [ho,List.map_toArray,List.map_cons,List.map_nil,h0,h1,h2,h3,h4,Sem.run_bind,Sem.run_pure,Result.andThen_ok,hr]
 exact hK' _ _ hK
theorem nods_row {W:World} {D:Nat→Prop} {g:Nat} {c0 c1 c2 c3 c4:List Value} {x0 x1 x2 x3 x4:NodV} (h:RowL W g 65 (c0++(c1++(c2++(c3++c4))))) (hD:D g) (h0:NodR W D c0 x0) (h1:NodR W D c1 x1) (h2:NodR W D c2 x2) (h3:NodR W D c3 x3) (h4:NodR W D c4 x4):RdE nodEn W D (some ⟨g,0,none⟩) 5 [x0,x1,x2,x3,x4]:=by
 have hcs:CellsE nodEn W D [c0,c1,c2,c3,c4] [x0,x1,x2,x3,x4]:=by
  refine ⟨rfl,fun i cs x hc hx=>?_⟩
  have hi:i < 5:=(List.getElem?_eq_some_iff.1 hx).1
  obtain rfl|rfl|rfl|rfl|rfl:i=0∨i=1∨i=2∨i=3∨i=4:=by omega
  all_goals (cases hc;cases hx;assumption)
 refine ⟨rfl,fun _=>⟨g,0,rfl,hD,fun i x hx=>?_⟩⟩
 have hi:i < 5:=(List.getElem?_eq_some_iff.1 hx).1
 have hc:[c0,c1,c2,c3,c4][i]?=some ([c0,c1,c2,c3,c4][i]'hi):=List.getElem?_eq_getElem (l:=[c0,c1,c2,c3,c4]) hi
 have hR:=hcs.2 i _ x hc hx
 refine ⟨_,hR,fun j v hv=>?_⟩
 have hj:j < 13:=by have:=(List.getElem?_eq_some_iff.1 hv).1;have h13:=nodEn.len hR;rw [h13] at this;exact this
 rw [Nat.zero_add,h.cell]
 have:=flat_get hcs.lens hc hj
 rw [show [c0,c1,c2,c3,c4].flatten=c0++(c1++(c2++(c3++c4))) from by simp] at this
 exact this.trans hv
theorem nod0R (W:World) (D:Nat→Prop):NodR W D (nodC nod0 (.slice none 0 0) (.slice none 0 0)) nod0:=⟨none,0,0,none,0,0,rfl,Nat.le_refl _,RdE.none_ _ _ _ _,Nat.le_refl _,RdE.none_ _ _ _ _⟩
theorem ndDR (W:World) (D:Nat→Prop):NodR W D (nodC ndD (.slice none 0 0) (.slice none 0 0)) ndD:=⟨none,0,0,none,0,0,rfl,Nat.le_refl _,RdE.none_ _ _ _ _,Nat.le_refl _,RdE.none_ _ _ _ _⟩
theorem lay_row {W:World} {D:Nat→Prop} {g t n c:Nat} {A:Option Addr} {ns:List NodV} (h:RowL W g t [.slice A n c]) (hD:D g) (hc:n≤c) (hr:RdE nodEn W D A n ns):RdE layEn W D (some ⟨g,0,none⟩) 1 [ns]:=by
 refine ⟨rfl,fun _=>⟨g,0,rfl,hD,fun i x hx=>?_⟩⟩
 have hi:i=0:=by have:=(List.getElem?_eq_some_iff.1 hx).1;simpa using this
 subst hi
 cases hx
 refine ⟨[.slice A n c],⟨A,n,c,rfl,hc,hr⟩,fun j v hv=>?_⟩
 rw [Nat.zero_mul,Nat.zero_add,Nat.zero_add]
 exact (h.cell j).trans hv
def Fr (base:Nat) (W:World) (b:Nat):Prop:=base≤b∧b < W.heap.size
theorem RdE.onF {α:Type} {E:Enc α} {W W':World} {base n:Nat} {A:Option Addr} {l:List α} (h:RdE E W (Fr base W) A n l) (hb:Below W.heap.size W W'):RdE E W' (Fr base W') A n l:=h.mono (fun b hb'=>hb.block b hb'.2) (fun _ hb'=>⟨hb'.1,Nat.lt_of_lt_of_le hb'.2 hb.size⟩)
theorem RdE.grF {α:Type} {E:Enc α} {W W':World} {base n g:Nat} {A:Option Addr} {l:List α} (h:RdE E W (Fr base W) A n l) (hg:W.grownBy W' (some g)) (hgb:g < base):RdE E W' (Fr base W') A n l:=h.mono (fun b hb'=>hg.block b hb'.2 (fun e=>by have:=Option.some.inj e;have:=hb'.1;omega)) (fun _ hb'=>⟨hb'.1,Nat.lt_of_lt_of_le hb'.2 hg.size⟩)
theorem RdE.unF {α:Type} {E:Enc α} {W:World} {base n:Nat} {A:Option Addr} {l:List α} (h:RdE E W (Fr base W) A n l):RdE E W (Under W.heap.size) A n l:=h.mono (fun _ _=>rfl) (fun _ hb=>hb.2)
theorem wpList_lit5N {w : World} {ops : Array Oper} {rest : List Oper} {o : Oper} {a : Act} {Q : Exit → Act → World → Prop} (hgd : o.guard = none) (x0 x1 x2 x3 x4 : Operand) (ho : o.op = .buildSlice 24 5 #[(0, x0), (1, x1), (2, x2), (3, x3), (4, x4)]) {c0 c1 c2 c3 c4 : List Value} (h0 : a.eval x0 = .agg c0.toArray) (h1 : a.eval x1 = .agg c1.toArray) (h2 : a.eval x2 = .agg c2.toArray) (h3 : a.eval x3 = .agg c3.toArray) (h4 : a.eval x4 = .agg c4.toArray) (k0 : c0.length = 13) (k1 : c1.length = 13) (k2 : c2.length = 13) (k3 : c3.length = 13) (k4 : c4.length = 13)
  (hK:∀w',RowL w' w.heap.size 65 (c0++(c1++(c2++(c3++c4))))→Below w.heap.size w w'→wpList Tryz.prog ops Q rest (a.put o.dst (.slice (some ⟨w.heap.size,0,none⟩) 5 5)) w'):wpList Tryz.prog ops Q (o::rest) a w :=
 wpList_lit5 hgd 24 x0 x1 x2 x3 x4 ho _ _ _ _ _ _ h0 h1 h2 h3 h4 (lit_nods k0 k1 k2 k3 k4 w) (hK _ (RowL.new w 65 _) (below_new (below_self w) _))
theorem byte_row {W:World} {D:Nat→Prop} {g t:Nat} {l:List UInt8} (h:RowL W g t (bvs l)) (hD:D g):RdE Enc.byte W D (some ⟨g,0,none⟩) l.length l :=
 RdE.of_bs (B:=W.heap.size) ⟨rfl,fun _=>⟨g,0,rfl,h.lt,fun i x hx=>by rw [Nat.zero_add,h.cell];exact bvs_get hx⟩⟩ (fun _ a ha=>by cases ha;exact hD)
set_option maxRecDepth 100000 in
set_option maxHeartbeats 1000000 in
theorem Base_any (w:World):Calls Tryz.prog 19 #[] w (StkRet w gB upB lsB):=by
 obtain ⟨r0,r1,hb2,hs2⟩:=rows2 w (stkC ⟨0,0,0,0⟩ (.slice none 0 0) (.slice none 0 0)) (stkC ⟨0,0,0,0⟩ (.slice none 0 0) (.slice none 0 0)) 29 29
 have R0:=hide r0
 have R1:=hide r1
 have HB2:=hide hb2
 clear r0 r1 hb2 hs2
 go_enter Tryz.func19,Tryz.ntmps19
 go_wp2_with (refine wpList_storeW rfl 29 (.tmp 1) (.tmp 3) rfl 6 stk_size (w.heap.size+1) 29 rfl (stkC ⟨0,0,0,0⟩ (.slice none 0 0) (.slice none 0 0)) (stkC gB (.slice none 0 0) (.slice none 0 0)) rfl R1.out rfl rfl (by simp [stkC,Value.oneCell']) ?_;intro w3 hr3 hg3 hs3;have R3:=hide hr3;have R03:=hide (R0.out.grown hg3 (pu5 (by omega)));have HB3:=hide (HB2.out.grown hg3 HB2.out.size (pu4 (by omega)));have hl3:=hr3.lt;have HE3:=hide (RowL.new w3 87 (flatE [⟨0,2,[97]⟩]));have hbe:=below_new (below_self w3) (.cells (flatE [⟨0,2,[97]⟩]).toArray 87);have HBE:=hide hbe;clear hr3 hg3 hs3 hbe)
 refine (Dir_any _).mono ?_
 rintro ez w4 ⟨rfl,hb4⟩
 have HE4:=hide (HE3.out.on hb4)
 have HB4:=hide ((HB3.out.trans (HBE.out.mono HB3.out.size)).trans (hb4.mono (Nat.le_trans HB3.out.size HBE.out.size)))
 have hbe4:=HBE.out.trans (hb4.mono HBE.out.size)
 have HR34:=hide (R3.out.on hbe4)
 have HR04:=hide (R03.out.on hbe4)
 have q5:w4.cell? ⟨w.heap.size+1,5,none⟩=some (.slice none 0 0):=HR34.out.cell 5
 have f5:w4.frozen? ⟨w.heap.size+1,5,none⟩=false:=HR34.out.frozen 5
 have hl4:w.heap.size+1 < w4.heap.size:=HR34.out.lt
 have hl34:=HE4.out.lt
 clear hb4 hbe4
 have HRU:=hide (RowL.new w4 5 [.int .u8 120])
 have HBU:=hide (below_new (below_self w4) (.cells #[.int .u8 120] 5))
 go_wp2_with (first|(refine wpList_lit5N (w:=w4.alloc (.cells #[.int .u8 120] 5)) rfl (.tmp 6) (.tmp 8) (.tmp 9) (.tmp 10) (.tmp 11) rfl (c0:=nodC ndD (.slice none 0 0) (.slice (some ⟨w3.heap.size,0,none⟩) 1 1)) (c1:=nodC ndF (.slice (some ⟨w4.heap.size,0,none⟩) 1 1) (.slice none 0 0)) (c2:=nodC nod0 (.slice none 0 0) (.slice none 0 0)) (c3:=nodC nod0 (.slice none 0 0) (.slice none 0 0)) (c4:=nodC nod0 (.slice none 0 0) (.slice none 0 0)) rfl rfl rfl rfl rfl rfl rfl rfl rfl rfl ?_;intro w6 hr6 hb6;simp only [World.size_alloc] at hr6;have HR6:=hide hr6;have HB6:=hide (HBU.out.trans (hb6.mono HBU.out.size));have HRU6:=hide (HRU.out.on hb6);have q56:w6.cell? ⟨w.heap.size+1,5,none⟩=some (.slice none 0 0):=(HB6.out.cell (p:=⟨w.heap.size+1,5,none⟩) hl4).trans q5;have f56:w6.frozen? ⟨w.heap.size+1,5,none⟩=false:=(HB6.out.frozen (p:=⟨w.heap.size+1,5,none⟩) hl4).trans f5;have hl6:w.heap.size+1 < w6.heap.size:=Nat.lt_of_lt_of_le hl4 HB6.out.size;clear hr6 hb6)|fail)
 have hw2:w.heap.size+2≤w3.heap.size:=by have:=R3.out.lt;omega
 have hs34:w3.heap.size < w4.heap.size:=hl34
 have hs46:=HB6.out.size
 have hr6l:=HR6.out.lt
 have hg7:=grown_cell w6 (w.heap.size+1) 5 (.slice (some ⟨w6.heap.size,0,none⟩) 1 1)
 have n6:RdE nodEn w6 (Fr (w.heap.size+2) w6) (some ⟨w4.heap.size+1,0,none⟩) 5 lyB:=nods_row HR6.out ⟨by omega,hr6l⟩ ⟨none,0,0,_,1,1,rfl,Nat.le_refl _,RdE.none_ _ _ _ _,Nat.le_refl _,ent_row (HE4.out.on HB6.out) ⟨by omega,by omega⟩⟩ ⟨_,1,1,none,0,0,rfl,Nat.le_refl _,byte_row (l:=[120]) HRU6.out ⟨by omega,by omega⟩,Nat.le_refl _,RdE.none_ _ _ _ _⟩ (nod0R _ _) (nod0R _ _) (nod0R _ _)
 have n7:=n6.grF hg7 (by omega)
 have x7:RowL (w6.setCell ⟨w.heap.size+1,5,none⟩ (.slice (some ⟨w6.heap.size,0,none⟩) 1 1)) (w.heap.size+1) 29 (stkC gB (.slice none 0 0) (.slice (some ⟨w6.heap.size,0,none⟩) 1 1)):=(HR34.out.on HB6.out).set_ 5 _
 have y7:=(HR04.out.on HB6.out).grown hg7 (pu5 (by omega))
 have hs7:(w6.setCell ⟨w.heap.size+1,5,none⟩ (.slice (some ⟨w6.heap.size,0,none⟩) 1 1)).heap.size=w6.heap.size:=by simp [World.setCell]
 have hb7:Below w.heap.size w (w6.setCell ⟨w.heap.size+1,5,none⟩ (.slice (some ⟨w6.heap.size,0,none⟩) 1 1)):=(HB4.out.trans (HB6.out.mono (by omega))).setCell (p:=⟨w.heap.size+1,5,none⟩) (by show w.heap.size≤w.heap.size+1;omega) _
 clear q5 f5 hl4 hg7 n6
 refine (Dir_any _).mono ?_
 rintro ez w9 ⟨rfl,hb9⟩
 generalize w6.setCell ⟨w.heap.size+1,5,none⟩ (.slice (some ⟨w6.heap.size,0,none⟩) 1 1)=w7 at *
 have r8:=RowL.new w7 26 [Value.slice (some ⟨w4.heap.size+1,0,none⟩) 5 5]
 have b8:=below_new (below_self w7) (.cells [Value.slice (some ⟨w4.heap.size+1,0,none⟩) 5 5].toArray 26)
 have l8:RdE layEn (w7.alloc (.cells [Value.slice (some ⟨w4.heap.size+1,0,none⟩) 5 5].toArray 26)) (Fr (w.heap.size+2) (w7.alloc (.cells [Value.slice (some ⟨w4.heap.size+1,0,none⟩) 5 5].toArray 26))) (some ⟨w6.heap.size,0,none⟩) 1 lsB:=lay_row (by rw [←hs7];exact r8) ⟨by omega,by simp;omega⟩ (Nat.le_refl _) (n7.onF b8)
 have X9:=hide ((x7.on b8).on hb9)
 have Y9:=hide ((y7.on b8).on hb9)
 have L9:=hide (l8.onF hb9)
 have B9:=hide ((hb7.trans (b8.mono hb7.size)).trans (hb9.mono (Nat.le_trans hb7.size b8.size)))
 clear r8 b8 l8 x7 y7 n7 hb7 hb9 hs7
 go_wp2_with fail
 refine (Dir_any _).mono ?_
 rintro ez w10 ⟨rfl,hb10⟩
 have HB10:=hide hb10
 clear hb10
 go_wp2_with fail
 refine (Dir_any _).mono ?_
 rintro ez w11 ⟨rfl,hb11⟩
 have HB11:=hide (HB10.out.trans (hb11.mono HB10.out.size))
 clear hb11
 go_wp2_with (first|(refine wpList_lit5N (w:=w11) rfl (.tmp 16) (.tmp 17) (.tmp 18) (.tmp 19) (.tmp 20) rfl (c0:=nodC ndD (.slice none 0 0) (.slice none 0 0)) (c1:=nodC ndD (.slice none 0 0) (.slice none 0 0)) (c2:=nodC ndD (.slice none 0 0) (.slice none 0 0)) (c3:=nodC nod0 (.slice none 0 0) (.slice none 0 0)) (c4:=nodC nod0 (.slice none 0 0) (.slice none 0 0)) rfl rfl rfl rfl rfl rfl rfl rfl rfl rfl ?_;intro w12 hr12 hb12;have HR12:=hide hr12;have HB12:=hide (HB11.out.trans (hb12.mono HB11.out.size));have hl12:=hr12.lt;clear hr12 hb12)|(refine wpList_storeC rfl 26 (.tmp 23) (.tmp 22) rfl 1 lay_size (w.heap.size+1) 4 29 rfl (stkC gB (.slice none 0 0) (.slice (some ⟨w6.heap.size,0,none⟩) 1 1)) [.slice (some ⟨w11.heap.size,0,none⟩) 5 5] rfl (X9.out.on HB12.out) rfl (by simp [stkC]) (by simp [Value.oneCell']) ?_;intro w13 hr13 hg13 hs13;have HX13:=hide (show RowL w13 (w.heap.size+1) 29 (stkC gB (.slice (some ⟨w11.heap.size,0,none⟩) 5 5) (.slice (some ⟨w6.heap.size,0,none⟩) 1 1)) from hr13);have HG13:=hide hg13;clear hr13 hg13)|(refine wpList_loadW rfl 29 (.tmp 1) rfl 6 stk_agg stk_size (w.heap.size+1) 29 rfl (stkC gB (.slice (some ⟨w11.heap.size,0,none⟩) 5 5) (.slice (some ⟨w6.heap.size,0,none⟩) 1 1)) HX13.out rfl ?_)|(refine wpList_storeW rfl 29 (.tmp 0) (.tmp 24) rfl 6 stk_size w.heap.size 29 rfl (stkC ⟨0,0,0,0⟩ (.slice none 0 0) (.slice none 0 0)) (stkC gB (.slice (some ⟨w11.heap.size,0,none⟩) 5 5) (.slice (some ⟨w6.heap.size,0,none⟩) 1 1)) rfl ((Y9.out.on HB12.out).grown HG13.out (pu5 (by omega))) rfl rfl (by simp [stkC,Value.oneCell']) ?_;intro w14 hr14 hg14 hs14;have HR14:=hide hr14;have HG14:=hide hg14;clear hr14 hg14)|fail)
 have hx9:=X9.out.lt
 have hs9:=B9.out.size
 have hs12:=HB12.out.size
 have hs11:=HB11.out.size
 have u12:RdE nodEn w12 (Fr (w.heap.size+2) w12) (some ⟨w11.heap.size,0,none⟩) 5 upB:=nods_row HR12.out ⟨by omega,hl12⟩ (ndDR _ _) (ndDR _ _) (ndDR _ _) (nod0R _ _) (nod0R _ _)
 have l12:=L9.out.onF HB12.out
 exact bodyPost_ret (res_cell Tryz.results19 rfl stk_agg stk_size HR14.out rfl) rfl ⟨_,5,5,_,1,1,rfl,((u12.grF HG13.out (by omega)).grF HG14.out (by omega)).unF,((l12.grF HG13.out (by omega)).grF HG14.out (by omega)).unF,((B9.out.trans (HB12.out.mono hs9)).grown HG13.out (by omega) (pu4 (by omega))).grown HG14.out (by have:=HG13.out.size;omega) (pu4 (by omega))⟩
end Go.Proofs.YtnhegahpfacdgaaGreat

