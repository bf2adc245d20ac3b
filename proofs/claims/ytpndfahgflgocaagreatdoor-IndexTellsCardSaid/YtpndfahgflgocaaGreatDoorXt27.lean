import Derived.Test.YtpndfahgflgocaaGreatDoorXt26
import Derived.Test.YtpndfahgflgocaaGreatDoorXt19

namespace Go.Proofs.YtpndfahgflgocaaGreatDoor
open Go.RowKit Go.Shelf Plain

def WaysRet0 (w:World) (l:List WayV) (e:Ending) (w':World):Prop:=∃A c,e=.returned (.slice A l.length c)∧l.length≤c∧RdE wayEn w' (fun b=>w.heap.size≤b∧b < w'.heap.size) A l.length l∧Below w.heap.size w w'
theorem RdN.keep {α:Type} {E:Enc α} {W W':World} {g n:Nat} {A:Option Addr} {l:List α} (h:RdN E W g A n l) (hg:W.grownBy W' (some g)):RdN E W' g A n l:=RdE.mono h (fun _ hb=>hg.block _ hb.1 (fun e=>hb.2 (Option.some.inj e))) (fun _ hb=>⟨Nat.lt_of_lt_of_le hb.1 hg.size,hb.2⟩)
set_option maxRecDepth 100000 in
set_option maxHeartbeats 1600000 in
theorem RDirs_any {A F:Option Addr} {n c k d:Nat} {ns:List NodV} {ff:List Int} (w:World) (h:RdE nodEn w (Under w.heap.size) A n ns) (hf:RdE Enc.int w (Under w.heap.size) F k ff) (hM:Many ns) (hk:k≤1000) :
  Calls Tryz.prog 54 #[.agg #[.slice A n c],.slice F k d] w (WaysRet0 w (walkW ns ff).1):=by
 have r:=RowL.new w 26 [.slice A n c]
 have hb1:=below_new (below_self w) (.cells [Value.slice A n c].toArray 26)
 have q1:(w.alloc (.cells #[.slice A n c] 26)).cell? ⟨w.heap.size,0,none⟩=some (.slice A n c):=r.cell 0
 have HN1:=hide (h.on hb1)
 have HF1:=hide (hf.on hb1)
 have HB1:=hide hb1
 have HM:=hide hM
 clear r hb1 h hf hM
 go_enter Tryz.func54,Tryz.ntmps54
 go_wp2_with (go_at_call 70;refine (RWalk_any _ HN1.out HF1.out HM.out hk).mono ?_;rintro e w2 ⟨A6,c6,A7,c7,rfl,h6,h7,hr6,hr7,hb2⟩;have HR6:=hide hr6;have HR7:=hide hr7;have HB2:=hide hb2;clear hr6 hr7 hb2)
 go_ret
 exact ⟨A6,c6,rfl,h6,HR6.out.mono (fun _ _=>rfl) (fun b hb=>⟨Nat.le_trans HB1.out.size hb.1,hb.2⟩),below_step HB1.out HB2.out⟩
set_option maxRecDepth 100000 in
set_option maxHeartbeats 8000000 in
theorem RReach_any {A F:Option Addr} {n c k d:Nat} {ns:List NodV} {ff:List Int} (w:World) (h:RdE nodEn w (Under w.heap.size) A n ns) (hf:RdE Enc.int w (Under w.heap.size) F k ff) (hM:Many ns) (hk:k≤1000) :
  Calls Tryz.prog 33 #[.agg #[.slice A n c],.slice F k d] w (BoolsRet w (reachL ns (walkW ns ff).1)):=by
 have r:=RowL.new w 26 [.slice A n c]
 have hb1:=below_new (below_self w) (.cells [Value.slice A n c].toArray 26)
 obtain ⟨W1,hW1⟩:∃W1,w.alloc (.cells [Value.slice A n c].toArray 26)=W1:=⟨_,rfl⟩
 have H0:=h.on hb1
 have F0:=hf.on hb1
 have hm24:=hM.1
 obtain rfl:n=ns.length:=h.1.symm
 rw [hW1] at r hb1 H0 F0
 have hW1':w.alloc (.cells #[.slice A ns.length c] 26)=W1:=hW1
 have q1:W1.cell? ⟨w.heap.size,0,none⟩=some (.slice A ns.length c):=r.cell 0
 have HR1:=hide r
 have HB1:=hide hb1
 have HN1:=hide H0
 have HF1:=hide F0
 have HM:=hide hM
 have HOK:=hide (walk_ok ns ff)
 have hle:=(walk_ok ns ff).le
 have hDL:=fun (W:World) (h1:RdE nodEn W (Under W.heap.size) A ns.length ns) (h2:RdE Enc.int W (Under W.heap.size) F k ff)=>RDirs_any (c:=c) (d:=d) W h1 h2 HM.out hk
 obtain ⟨L,hL⟩:∃L,(walkW ns ff).1=L:=⟨_,rfl⟩
 rw [hL] at HOK hle hDL ⊢
 have HDL:=hide hDL
 clear r hb1 H0 F0 hW1 h hf hM hDL hL
 go_enter Tryz.func33,Tryz.ntmps33
 go_wp2_with (first|(refine wpList_make_Row' _ rfl _ _ 57 rfl 4 Tryz.underlying57 (.bool false) rfl 1 boolw_info .i64 .i64 _ _ ns.length rfl rfl rfl rfl (by omega) (by omega) ?_;intro w2 hr2 hb2;have HR2:=hide hr2;have HB2:=hide hb2;have q2:w2.cell? ⟨w.heap.size,0,none⟩=some (.slice A ns.length c):=(HR1.out.on hb2).cell 0;clear hr2 hb2)|(go_at_call 54;refine (HDL.out w2 (HN1.out.on HB2.out) (HF1.out.on HB2.out)).mono ?_;rintro e w3 ⟨A6,c6,rfl,hc6,h6,hb3⟩;have H6:=hide h6;have HB3:=hide hb3;clear h6 hb3))
 clear hW1' q1 q2
 have hg2:=HR2.out.lt
 have HRN:=hide (RdN.of_fresh H6.out hg2)
 have hr3:RowL w3 W1.heap.size 4 ((List.replicate ns.length false).map Value.bool):=by rw [List.map_replicate];exact HR2.out.on HB3.out
 have hb13:=HB2.out.trans (HB3.out.mono HB2.out.size)
 clear HDL
 go_loopw [7] (fun v7 wr=>∃j:Nat,j≤L.length∧v7=.int .i64 j∧RowL wr W1.heap.size 4 (((L.take j).foldl (wayF ns) (List.replicate ns.length false)).map Value.bool)∧Below W1.heap.size W1 wr∧RdN wayEn wr W1.heap.size A6 L.length L) (fun v7 _=>L.length - (intOf v7).toNat)
 case atStart=>exact ⟨0,by omega,rfl,by rw [List.take_zero];exact hr3,hb13,HRN.out⟩
 case round =>
  obtain ⟨j,hj,rfl,hrr,hbr,hrn⟩:=hrel
  clear hr3 hb13 HRN
  by_cases hlt:j < L.length
  ·obtain ⟨y,hy⟩:∃y,L[j]?=some y:=⟨_,List.getElem?_eq_getElem hlt⟩
   have hin:=isDir_in (HOK.out.1 y (List.mem_of_getElem? hy))
   obtain ⟨gW,oW,hA6,hDW,hcy⟩:=way_get hrn hy
   obtain ⟨m,hm⟩:∃m:Nat,y.ino=(m:Int)+1:=by
    obtain ⟨m,hm⟩:=Int.eq_ofNat_of_zero_le (show 0≤y.ino - 1 by omega)
    exact ⟨m,by omega⟩
   have HST:=hide (show (L.take (j+1)).foldl (wayF ns) (List.replicate ns.length false)=wayF ns ((L.take j).foldl (wayF ns) (List.replicate ns.length false)) y from by rw [List.take_add_one,hy,List.foldl_append];rfl)
   have hlenb:((L.take j).foldl (wayF ns) (List.replicate ns.length false)).length=ns.length:=by rw [waysF_len];simp
   generalize (L.take j).foldl (wayF ns) (List.replicate ns.length false)=bs at *
   subst hA6
   have hmn:m < ns.length:=by omega
   have hw1:IntKind.i64.wrap (y.ino - 1)=(m:Int):=by rw [hm,show (m:Int)+1 - 1=m from by omega];exact IntWalk.i64_in _ (by omega)
   have qy:wr.cell? ⟨gW,oW+j*3,none⟩=some (.int .i64 y.ino):=hcy 0 _ rfl
   obtain ⟨xb,qb⟩:=bools_cell hrr (j:=m) (by omega)
   have qf:=hrr.frozen m
   have hjl:(j:Int) < (L.length:Int):=by omega
   have hml:(m:Int) < (ns.length:Int):=by omega
   have hgl:=hrr.lt
   have HRR:=hide hrr
   have HBR:=hide hbr
   have HRN:=hide hrn
   have HM2:=hide hm
   have HDW:=hide hDW
   clear hy hcy hrr hbr hrn hm hDW
   go_upto_region 7 with fail
   have hg4:=grown_cell wr W1.heap.size m (.bool true)
   have hr4:RowL (wr.setCell ⟨W1.heap.size,m,none⟩ (.bool true)) W1.heap.size 4 ((setB bs y.ino).map Value.bool):=bools_set HRR.out HM2.out
   have hb4:Below W1.heap.size W1 (wr.setCell ⟨W1.heap.size,m,none⟩ (.bool true)):=HBR.out.setCell (p:=⟨W1.heap.size,m,none⟩) (Nat.le_refl _) _
   have hn4:=HRN.out.keep hg4
   have hgw:gW < (wr.setCell ⟨W1.heap.size,m,none⟩ (.bool true)).heap.size:=Nat.lt_of_lt_of_le HDW.out.1 hg4.size
   have qy4:(wr.setCell ⟨W1.heap.size,m,none⟩ (.bool true)).cell? ⟨gW,oW+j*3,none⟩=some (.int .i64 y.ino):=(cell_same (hg4.block gW HDW.out.1 (fun e=>HDW.out.2 (Option.some.inj e)))).trans qy
   have hlb:(setB bs y.ino).length=ns.length:=by rw [setB_len,hlenb]
   have HST2:=hide (show wayF ns bs y=(nodAt ns y.ino).ents.foldl (entF ns) (setB bs y.ino) from rfl)
   clear qy qb qf hg4
   generalize setB bs y.ino=bs0 at *
   generalize wr.setCell ⟨W1.heap.size,m,none⟩ (.bool true)=w4 at *
   have HB4:=hide hb4
   have HR4:=hide hr4
   have HN4:=hide hn4
   have hs4:=hb4.size
   have HQ1:=hide (fun W (hb:Below w4.heap.size w4 W)=>show W.cell? ⟨w.heap.size,0,none⟩=some (.slice A ns.length c) from (HR1.out.on (hb4.trans (hb.mono hs4))).cell 0)
   have HQY:=hide (fun W (hb:Below w4.heap.size w4 W)=>show W.cell? ⟨gW,oW+j*3,none⟩=some (.int .i64 y.ino) from (hb.cell (p:=⟨gW,oW+j*3,none⟩) hgw).trans qy4)
   clear hb4 hr4 hn4 qy4
   refine wp_region_planN (fun w'=>Below w4.heap.size w4 w') [(0,true),(1,true),(2,true),(3,true),(4,true),(5,true),(6,false),(7,true),(8,true)] (by kernel_rfl) (by kernel_rfl) (by kernel_rfl) (by kernel_rfl) rfl (fun _ _ _ _ _ h=>h) (below_drew (below_self w4)) (fun hHeld=>?_)
   simp only [planOps,List.filterMap_cons,List.filterMap_nil,List.getElem?_toArray,List.getElem?_cons_succ,List.getElem?_cons_zero,Option.map_some]
   refine wpPlan_take (v:=?_) (by kernel_rfl) (fun wS hSw=>?_) ?_
   rotate_left
   ·have qx:=HQ1.out wS hSw;go_simp;(try with_reducible rfl)
   (try simp only [Act.put,pu1,pu2,pu3])
   iterate 4
    refine wpPlan_take (v:=?_) (by kernel_rfl) (fun wS hSw=>?_) ?_
    rotate_left
    ·(try dsimp only at hSw);go_simp;(try with_reducible rfl)
    (try simp only [Act.put,pu1,pu2,pu3])
   refine wpPlan_take (v:=?_) (by kernel_rfl) (fun wS hSw=>?_) ?_
   rotate_left
   ·have qx:=HQY.out wS hSw;go_simp;(try with_reducible rfl)
   (try simp only [Act.put,pu1,pu2,pu3])
   refine wpPlan_call (by kernel_rfl) (fun K hK=>?_)
   have hOld:=hide hHeld
   clear hHeld
   go_simp
   go_at_call 31
   refine (At_anyB (B:=W1.heap.size) (i:=y.ino) _ (HN1.out.under (HB4.out.trans (hOld.out.mono hs4)) (Nat.le_refl _)) (HB4.out.trans (hOld.out.mono hs4)).size (by omega)).mono ?_
   rintro e w' ⟨A8,n8,c8,C8,m8,d8,rfl,-,-,hmd8,hE,hbel⟩
   have hf5:=nod_f5 (nodAt ns y.ino) A8 C8 n8 c8 m8 d8
   refine hK.out _ _ (hOld.out.trans (hbel.mono hOld.out.size)) (fun hHeld=>?_)
   clear hK K
   (try simp only [Act.put,pu1,pu2,pu3])
   iterate 2
    refine wpPlan_take (v:=?_) (by kernel_rfl) (fun wS hSw=>?_) ?_
    rotate_left
    ·(try dsimp only at hSw);go_simp;(try with_reducible rfl)
    (try simp only [Act.put,pu1,pu2,pu3])
   refine wpPlan_end ?_
   have HE1:=hide (hE.mono (fun b hb=>((HB4.out.trans (hHeld.mono hs4)).block b hb).symm) (fun _ h=>h):RdE entEn W1 (Under W1.heap.size) C8 m8 (nodAt ns y.ino).ents)
   have hm16:m8≤16:=by rw [←hE.1];exact nodAt_ents HM.out y.ino
   have hr5:=HR4.out.on hHeld
   have hb5:=HB4.out.trans (hHeld.mono hs4)
   have hn5:=HN4.out.on hHeld
   obtain ⟨LE,hLE⟩:∃LE,(nodAt ns y.ino).ents=LE:=⟨_,rfl⟩
   rw [hLE] at HE1 HST2
   have hEl:=HE1.out.1
   clear hE hHeld hLE
   generalize w'=w5 at *
   go_wp2_with fail
   clear hf5
   go_loopw [9] (fun v9 wr=>∃i:Nat,i≤m8∧v9=.int .i64 i∧RowL wr W1.heap.size 4 (((LE.take i).foldl (entF ns) bs0).map Value.bool)∧Below W1.heap.size W1 wr∧RdN wayEn wr W1.heap.size (some ⟨gW,oW,none⟩) L.length L) (fun v9 _=>m8 - (intOf v9).toNat)
   case atStart=>exact ⟨0,by omega,rfl,by rw [List.take_zero];exact hr5,hb5,hn5⟩
   case round =>
    obtain ⟨i,hi,rfl,hrq,hbq,hnq⟩:=hrel
    clear hr5 hb5 hn5
    by_cases hlt2:i < m8
    ·obtain ⟨x,hx⟩:∃x,LE[i]?=some x:=⟨_,List.getElem?_eq_getElem (by omega)⟩
     obtain ⟨bE,oE,hC8,hbE,hcE⟩:=ent_get HE1.out hx
     have qi:wr.cell? ⟨bE,oE+i*3+1,none⟩=some (.int .i64 x.ino):=(hbq.cell (p:=⟨bE,oE+i*3+1,none⟩) hbE).trans (hcE 1 _ rfl)
     subst hC8
     have HSI:=hide (show (LE.take (i+1)).foldl (entF ns) bs0=entF ns ((LE.take i).foldl (entF ns) bs0) x from by rw [List.take_add_one,hx,List.foldl_append];rfl)
     have hlen2:((LE.take i).foldl (entF ns) bs0).length=ns.length:=by rw [entsF_len,hlb]
     generalize (LE.take i).foldl (entF ns) bs0=bs2 at *
     have him:(i:Int) < (m8:Int):=by omega
     by_cases h1:1≤x.ino
     rotate_left
     ·have d1:decide (1≤x.ino)=false:=decide_eq_false h1
      have HEN:=hide (show entF ns bs2 x=bs2 from by unfold entF inN;rw [d1];rfl)
      have HRQ:=hide hrq
      have HBQ:=hide hbq
      have HNQ:=hide hnq
      clear hx hcE hrq hbq hnq h1
      go_wp2_with fail
      go_roundw
      case rel=>exact ⟨i+1,by omega,by go_num,by rw [HSI.out,HEN.out];exact HRQ.out,HBQ.out,HNQ.out⟩
      case measure=>simp [intOf];omega
     have d1:decide (1≤x.ino)=true:=decide_eq_true h1
     by_cases h2:x.ino≤(ns.length:Int)
     rotate_left
     ·have d2:decide (x.ino≤(ns.length:Int))=false:=decide_eq_false h2
      have HEN:=hide (show entF ns bs2 x=bs2 from by unfold entF inN;rw [d1,d2];rfl)
      have HRQ:=hide hrq
      have HBQ:=hide hbq
      have HNQ:=hide hnq
      clear hx hcE hrq hbq hnq h1 h2
      go_wp2_with fail
      go_roundw
      case rel=>exact ⟨i+1,by omega,by go_num,by rw [HSI.out,HEN.out];exact HRQ.out,HBQ.out,HNQ.out⟩
      case measure=>simp [intOf];omega
     have d2:decide (x.ino≤(ns.length:Int))=true:=decide_eq_true h2
     have HEN:=hide (show entF ns bs2 x=setB bs2 x.ino from by unfold entF inN;rw [d1,d2];rfl)
     obtain ⟨m2,hm2⟩:∃m2:Nat,x.ino=(m2:Int)+1:=by
      obtain ⟨m2,hm2⟩:=Int.eq_ofNat_of_zero_le (show 0≤x.ino - 1 by omega)
      exact ⟨m2,by omega⟩
     have hm2n:m2 < ns.length:=by omega
     have hw2:IntKind.i64.wrap (x.ino - 1)=(m2:Int):=by rw [hm2,show (m2:Int)+1 - 1=m2 from by omega];exact IntWalk.i64_in _ (by omega)
     have hm2l:(m2:Int) < (ns.length:Int):=by omega
     obtain ⟨xb2,qb2⟩:=bools_cell hrq (j:=m2) (by omega)
     have qf2:=hrq.frozen m2
     have hg6:=hide (grown_cell wr W1.heap.size m2 (.bool true))
     have HRQ:=hide hrq
     have HBQ:=hide hbq
     have HNQ:=hide hnq
     have HM3:=hide hm2
     clear hx hcE hrq hbq hnq h1 h2 hm2
     go_wp2_with fail
     go_roundw
     case rel=>exact ⟨i+1,by omega,by go_num,by rw [HSI.out,HEN.out];exact bools_set HRQ.out HM3.out,HBQ.out.setCell (p:=⟨W1.heap.size,m2,none⟩) (Nat.le_refl _) _,HNQ.out.keep hg6.out⟩
     case measure=>simp [intOf];omega
    ·obtain rfl:i=m8:=by omega
     rw [List.take_of_length_le (by omega)] at hrq
     have HRQ:=hide hrq
     have HBQ:=hide hbq
     have HNQ:=hide hnq
     clear hrq hbq hnq
     go_wp2_with fail
     go_roundw
     case rel=>exact ⟨j+1,by omega,by go_num,by rw [HST.out,HST2.out];exact HRQ.out,HBQ.out,HNQ.out⟩
     case measure=>simp [intOf];omega
  ·obtain rfl:j=L.length:=by omega
   go_wp2
   go_ret
   rw [List.take_length] at hrr
   have hl:=reachL_len ns L
   refine ⟨some ⟨W1.heap.size,0,none⟩,ns.length,ns.length,rfl,Nat.le_refl _,⟨hl,fun _=>⟨W1.heap.size,0,rfl,hrr.lt,fun i x hx=>?_⟩⟩,HB1.out.trans (hbr.mono HB1.out.size),fun b o e=>by cases e;exact HB1.out.size⟩
   rw [Nat.zero_add,hrr.cell,List.getElem?_map]
   show ((reachL ns L)[i]?).map _=_
   rw [hx]
   rfl
end Go.Proofs.YtpndfahgflgocaaGreatDoor

namespace Go.Proofs.YtpndfahgflgocaaGreatDoor
open Go.RowKit Go.Shelf Plain

def RchR (w:World) (lo hi:Nat) (A:Option Addr) (n:Nat) (rs:List Bool):Prop:=(rs.length=n∧(0 < n→∃b o,A=some ⟨b,o,none⟩∧lo≤b∧b < hi∧∀i x,rs[i]?=some x→w.cell? ⟨b,o+i,none⟩=some (.bool x)))∧hi≤w.heap.size
theorem rch_grown {w w':World} {lo hi n g:Nat} {A:Option Addr} {rs:List Bool} (h:RchR w lo hi A n rs) (hg:w.grownBy w' (some g)) (hne:g < lo∨hi≤g):RchR w' lo hi A n rs:=⟨⟨h.1.1,fun hn=>by
 obtain ⟨b,o,e,h1,h2,hc⟩:=h.1.2 hn
 exact ⟨b,o,e,h1,h2,fun i x hx=>(cell_same (hg.block b (Nat.lt_of_lt_of_le h2 h.2) (pu5 (by omega)))).trans (hc i x hx)⟩⟩,Nat.le_trans h.2 hg.size⟩
theorem rch_rd {w:World} {lo hi n:Nat} {A:Option Addr} {rs:List Bool} (h:RchR w lo hi A n rs):Rd Value.bool w w.heap.size A n rs:=⟨h.1.1,fun hn=>by
 obtain ⟨b,o,e,h1,h2,hc⟩:=h.1.2 hn
 exact ⟨b,o,e,Nat.lt_of_lt_of_le h2 h.2,hc⟩⟩
def ReachO (w:World) (rs:List Bool) (e:Ending) (w':World):Prop:=∃A n c lo hi,e=.returned (.slice A n c)∧w.heap.size≤lo∧RchR w' lo hi A n rs∧Below w.heap.size w w'
theorem lit_one (W:World):(Instr.buildSlice 71 1 #[(0,.int .i64 1)]).run Tryz.prog W=.ok (.slice (some ⟨W.heap.size,0,none⟩) 1 1) (W.alloc (.cells #[.int .i64 1] 3)):=by
 obtain ⟨it,hi,hz,hsz,-⟩:=info_parts (show (Tryz.prog.info? 3).map (fun i=>(i.zero,i.size,i.bytes))=some (some (.int .i64 0),1,8) from by kernel_rfl)
 refine run_buildSlice W _ 3 1 _ _ it (.int .i64 0) Tryz.underlying71 hi hz (by omega) (by omega) ?_
 rw [hsz]
 have:=Great.fill_whole (s:=1) (by omega) [.int .i64 1] ((Array.range (1*1)).map ((Value.int .i64 0).cells[· % (Value.int .i64 0).cells.size]!)) (by intro v hv;rw [List.mem_singleton] at hv;subst hv;simp [Value.cells]) (by simp)
 simpa [Value.cells] using this
theorem one_row {w:World} {g:Nat} (h:RowL w g 3 [.int .i64 1]):RdE Enc.int w (Under w.heap.size) (some ⟨g,0,none⟩) 1 [1]:=by
 refine ⟨rfl,fun _=>⟨g,0,rfl,h.lt,fun i x hx=>⟨[.int .i64 x],rfl,fun j v hv=>?_⟩⟩⟩
 have hi:i=0:=by have:=(List.getElem?_eq_some_iff.1 hx).1;simpa using this
 subst hi
 obtain rfl:1=x:=by simpa using hx
 have hj:j=0:=by have:=(List.getElem?_eq_some_iff.1 hv).1;simpa using this
 subst hj
 obtain rfl:Value.int .i64 1=v:=by simpa using hv
 exact h.cell 0
theorem OReach_any {A F:Option Addr} {n c k d:Nat} {ns:List NodV} {rs:List Bool} (hr:reachL ns (walkW ns [1]).1=rs) (w:World) (h:RdE nodEn w (Under w.heap.size) A n ns) (hf:RdE Enc.int w (Under w.heap.size) F k [1]) (hM:Many ns):Calls Tryz.prog 40 #[.agg #[.slice A n c],.slice F k d] w (ReachO w rs):=by
 refine (Reach_any w h hf hM (by have:=hf.1;simp at this;omega)).mono ?_
 rw [hr]
 rintro e w' ⟨A,n,c,rfl,-,hd,hb,hlo⟩
 exact ⟨A,n,c,w.heap.size,w'.heap.size,rfl,Nat.le_refl _,⟨⟨hd.1,fun hn=>by obtain ⟨b,o,e,h1,hc⟩:=hd.2 hn;exact ⟨b,o,e,hlo b o e,h1,hc⟩⟩,Nat.le_refl _⟩,hb⟩
theorem rd_cell {w:World} {B b o n:Nat} {rs:List Bool} (h:Rd Value.bool w B (some ⟨b,o,none⟩) n rs) {i:Nat} {r:Bool} (hi:rs[i]?=some r):w.cell? ⟨b,o+i,none⟩=some (.bool r):=by
 obtain ⟨b',o',e,-,hc⟩:=h.2 (by have:=(List.getElem?_eq_some_iff.1 hi).1;have:=h.1;omega)
 cases e
 exact hc i r hi
theorem rd_some {w:World} {B n:Nat} {A:Option Addr} {rs:List Bool} (h:Rd Value.bool w B A n rs) (hn:0 < n):∃b o,A=some ⟨b,o,none⟩:=by
 obtain ⟨b',o',e,-⟩:=h.2 hn
 exact ⟨b',o',e⟩
end Go.Proofs.YtpndfahgflgocaaGreatDoor

