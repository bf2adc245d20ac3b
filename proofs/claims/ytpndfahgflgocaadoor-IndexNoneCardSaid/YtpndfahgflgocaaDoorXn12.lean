import Derived.Test.YtpndfahgflgocaaDoorXn10
import Derived.Test.YtpndfahgflgocaaDoorXn11

namespace Go.Proofs.YtpndfahgflgocaaDoor
open Go.RowKit Go.Shelf Plain

def WkRet (B g b:Nat) (ns:List NodV) (s:StW) (w:World) (e:Ending) (w':World):Prop:=e=.returned (.tuple #[])∧WkS B g b ns s w'∧TurnW B g b w w'
set_option maxRecDepth 100000 in
set_option maxHeartbeats 1600000 in
theorem add_any {B g b:Nat} {ns:List NodV} {s:StW} {y:WayV} (w:World) (h:WkS B g b ns s w) (hy:i64 y.ino) (hm:s.1.length≤1000):Calls Tryd.prog 56 #[.pointer (some ⟨g,0,none⟩),.agg (wayC y).toArray] w (WkRet B g b ns (s.1++[y],s.2) w):=by
 have hb1:=below_new (below_self w) (.cells (wayC y).toArray 99)
 have hz1:=RowL.new w 99 (wayC y)
 obtain ⟨hBg,hgl,hBb,hbl⟩:=h.lt
 obtain ⟨A,n,c,A1,n1,c1,A2,n2,c2,-,-,h3,h4,h5,h6,h7⟩:=h
 have hn1:n1≤1000:=by have h8:=h5.1;rw [flatW_len] at h8;omega
 have HOB:=hide (own_block h5)
 have HB0:=hide (show B≤w.heap.size by omega)
 obtain ⟨w1,hw1⟩:∃w1,w.alloc (.cells (wayC y).toArray 99)=w1:=⟨_,rfl⟩
 rw [hw1] at hb1 hz1
 have HB1:=hide (show B≤w1.heap.size by have:=hb1.size;omega)
 have HO1:=hide (ownsRow_below h5 hb1)
 have HZ1:=hide hz1
 have HB:=hide hb1
 have HR:=hide (h3.on hb1)
 have HN0:=hide h4
 have HS:=hide (h6.on hb1)
 have HT:=hide (ownsRow_below h7 hb1)
 clear hb1 hz1 h3 h4 h5 h6 h7
 have hne:w.heap.size≠g:=by omega
 go_enter Tryd.func56,Tryd.ntmps56
 go_wp2
 clear hw1
 refine wp_region_planP (fun w'=>RowL w' g 95 [.slice A n c,.slice A1 n1 c1,.map (some b),.slice A2 n2 c2]∧RowL w' w.heap.size 99 (wayC y)) [(0,true),(1,true),(2,true),(3,true),(4,true),(5,true),(6,false),(7,false),(8,true),(9,true)] 10 (by kernel_rfl) (by kernel_rfl) (by kernel_rfl) (by kernel_rfl) (by kernel_rfl) rfl (fun _ _ _ _ _ h=>h) ⟨HR.out.drew,HZ1.out.drew⟩ (fun hHeld=>?_)
 simp only [planOps,List.filterMap_cons,List.filterMap_nil,List.getElem?_toArray,List.getElem?_cons_succ,List.getElem?_cons_zero,Option.map_some]
 iterate 4
  refine wpPlan_take (v:=?_) (by kernel_rfl) (fun wS hSw=>?_) ?_
  rotate_left
  ·(try dsimp only at hSw);go_simp;(try with_reducible rfl)
  (try simp only [Act.put,pu1,pu2,pu3])
 refine wpPlan_take (v:=?_) (by kernel_rfl) (fun wS hSw=>?_) ?_
 rotate_left
 ·obtain ⟨hrg,-⟩:=hSw;have hcg:wS.cell? ⟨g,1,none⟩=some (.slice A1 n1 c1):=hrg.cell 1;clear hrg;go_simp;(try with_reducible rfl)
 (try simp only [Act.put,pu1,pu2,pu3])
 refine wpPlan_take (v:=?_) (by kernel_rfl) (fun wS hSw=>?_) ?_
 rotate_left
 ·obtain ⟨-,hry⟩:=hSw;refine execOp_load (x:=.tmp 3) (k:=3) (g:=w.heap.size) (off:=0) (cs:=wayC y) ?_ way_agg way_size ?_ hry.at0 rfl <;> rfl
 (try simp only [Act.put,pu1,pu2,pu3])
 refine wpPlan_call (by kernel_rfl) (fun K hK=>?_)
 have hOld:=hide hHeld
 clear hHeld
 unfold Oper.wp execOp
 have hlit:=lit_way y w1.drew
 unfold wayC at hlit
 go_simp
 refine hK.out _ _ (⟨hOld.out.1.on (below_new (below_self _) _),hOld.out.2.on (below_new (below_self _) _)⟩) (fun hHeld=>?_)
 clear hK K
 (try simp only [Act.put,pu1,pu2,pu3])
 refine wpPlan_call (by kernel_rfl) (fun K hK=>?_)
 have hOld:=hide hHeld
 clear hHeld
 refine wp_appF w1.drew B w1.heap.size rfl (.tmp 8) (.tmp 10) 92 99 rfl Tryd.underlying92 _ 3 32 way_info rfl (by omega) (by omega) A1 n1 c1 (flatW s.1) (wayC y) rfl (by simp [wayC,Value.oneCell']) rfl HO1.out.drew rfl (by omega) (by have:=HB1.out;show B≤w1.heap.size;omega) ?_
 intro A5 c5 w5 ho5 hg5
 have HO5:=hide ho5
 have HG5:=hide hg5
 clear ho5 hg5
 refine hK.out _ _ (⟨hOld.out.1.grown HG5.out (row_apart HO1.out HR.out (by decide)),hOld.out.2.grown HG5.out (fun e=>by have:=(HOB.out _ e.symm).2.1;omega)⟩) (fun hHeld=>?_)
 clear hK K
 (try simp only [Act.put,pu1,pu2,pu3])
 iterate 2
  refine wpPlan_take (v:=?_) (by kernel_rfl) (fun wS hSw=>?_) ?_
  rotate_left
  ·(try dsimp only at hSw);go_simp;(try with_reducible rfl)
  (try simp only [Act.put,pu1,pu2,pu3])
 refine wpPlan_end ?_
 refine postL_go rfl (by kernel_rfl) ?_
 have hrg5:=hHeld.1
 have hry5:=hHeld.2
 have hcg:w5.cell? ⟨g,1,none⟩=some (.slice A1 n1 c1):=hrg5.cell 1
 have hfg:w5.frozen? ⟨g,1,none⟩=false:=hrg5.frozen 1
 have HRG5:=hide hrg5
 have HRY5:=hide hry5
 clear hHeld hrg5 hry5
 unfold Oper.wp execOp
 go_simp
 have hrg6:RowL (w5.setCell ⟨g,1,none⟩ (.slice A5 (n1+1) c5)) g 95 [.slice A n c,.slice A5 (n1+1) c5,.map (some b),.slice A2 n2 c2]:=HRG5.out.set_ 1 _
 have hg6:=grown_cell w5 g 1 (.slice A5 (n1+1) c5)
 have hry6:RowL (w5.setCell ⟨g,1,none⟩ (.slice A5 (n1+1) c5)) w.heap.size 99 (wayC y):=HRY5.out.grown hg6 (fun e=>hne (Option.some.inj e))
 have ha:=below_new (below_self w1.drew) (.cells (wayC y).toArray 99)
 have ho1:(w1.drew.alloc (.cells (wayC y).toArray 99)).ownsRow B 99 3 (.slice A1 n1 c1) n1 (flatW s.1):=ownsRow_below HO1.out.drew ha
 have hT5:TurnW B g b w w5:=((TurnW.of_below HB.out).trans (TurnW.of_below (A:=w1) (C:=w1.drew.alloc (.cells (wayC y).toArray 99)) ((below_drew (below_self w1)).trans ha))).trans (TurnW.own ho1 (.inl rfl) HG5.out (Nat.le_refl _))
 have hT6:TurnW B g b w (w5.setCell ⟨g,1,none⟩ (.slice A5 (n1+1) c5)):=hT5.trans (TurnW.grown hg6 (fun k e=>by have:=Option.some.inj e;subst this;exact ⟨hBg,.inl rfl⟩))
 have ho6:(w5.setCell ⟨g,1,none⟩ (.slice A5 (n1+1) c5)).ownsRow B 99 3 (.slice A5 (n1+1) c5) (n1+1) (flatW s.1++wayC y):=HO5.out.kept hg6 (.inr (fun e=>row_apart HO5.out HRG5.out (by decide) e.symm))
 have ht5:w5.ownsRow B 125 2 (.slice A2 n2 c2) n2 (flatT s.2):=(ownsRow_below HT.out.drew ha).kept HG5.out (owns_apart ho1 (ownsRow_below HT.out.drew ha) (by decide))
 have ht6:=ht5.kept hg6 (.inr (fun e=>row_apart ht5 HRG5.out (by decide) e.symm))
 have hs5:SetW w5 b n1 (cameW s.1):=(((HS.out.on (below_drew (below_self w1))).on ha).kept HG5.out (fun e=>by
  obtain ⟨o,ho,-,hoc⟩:=((HS.out.on (below_drew (below_self w1))).on ha).obj
  obtain ⟨-,-,o',ho',hoc'⟩:=own_block ho1 b e.symm
  rw [ho] at ho'
  cases Option.some.inj ho'
  rw [hoc] at hoc'
  cases hoc'))
 have hs6:=hs5.kept hg6 (fun e=>by
  obtain ⟨o,ho,-,hoc⟩:=hs5.obj
  have:=Option.some.inj e
  subst this
  rw [show w5.heap[b]?=_ from HRG5.out] at ho
  cases Option.some.inj ho
  cases hoc)
 have HRG6:=hide hrg6
 have HRY6:=hide hry6
 have HT6:=hide hT6
 have HO6:=hide ho6
 have HN6:=hide ht6
 have HS6:=hide hs6
 clear hrg6 hry6 hT5 hT6 ho6 ht5 ht6 hs5 hs6 ho1 ha hg6 hcg hfg HRG5 HRY5 HO5 HG5 HO1 HR HS HT HB
 generalize w5.setCell ⟨g,1,none⟩ (.slice A5 (n1+1) c5)=w6 at *
 go_wp2
 refine wp_region_planP (fun w'=>RowL w' g 95 [.slice A n c,.slice A5 (n1+1) c5,.map (some b),.slice A2 n2 c2]∧RowL w' w.heap.size 99 (wayC y)) [(0,true),(1,true),(2,true),(3,true),(4,true),(5,true),(6,true)] 7 (by kernel_rfl) (by kernel_rfl) (by kernel_rfl) (by kernel_rfl) (by kernel_rfl) rfl (fun _ _ _ _ _ h=>h) ⟨HRG6.out.drew,HRY6.out.drew⟩ (fun hHeld=>?_)
 simp only [planOps,List.filterMap_cons,List.filterMap_nil,List.getElem?_toArray,List.getElem?_cons_succ,List.getElem?_cons_zero,Option.map_some]
 iterate 3
  refine wpPlan_take (v:=?_) (by kernel_rfl) (fun wS hSw=>?_) ?_
  rotate_left
  ·(try dsimp only at hSw);go_simp;(try with_reducible rfl)
  (try simp only [Act.put,pu1,pu2,pu3])
 refine wpPlan_take (v:=?_) (by kernel_rfl) (fun wS hSw=>?_) ?_
 rotate_left
 ·obtain ⟨hrg,-⟩:=hSw;have hcg:wS.cell? ⟨g,2,none⟩=some (.map (some b)):=hrg.cell 2;clear hrg;go_simp;(try with_reducible rfl)
 (try simp only [Act.put,pu1,pu2,pu3])
 refine wpPlan_take (v:=?_) (by kernel_rfl) (fun wS hSw=>?_) ?_
 rotate_left
 ·(try dsimp only at hSw);go_simp;(try with_reducible rfl)
 (try simp only [Act.put,pu1,pu2,pu3])
 refine wpPlan_take (v:=?_) (by kernel_rfl) (fun wS hSw=>?_) ?_
 rotate_left
 ·obtain ⟨-,hry⟩:=hSw;have hcg:wS.cell? ⟨w.heap.size,0,none⟩=some (.int .i64 y.ino):=hry.cell 0;clear hry;go_simp;(try with_reducible rfl)
 (try simp only [Act.put,pu1,pu2,pu3])
 refine wpPlan_take (v:=?_) (by kernel_rfl) (fun wS hSw=>?_) ?_
 rotate_left
 ·(try dsimp only at hSw);go_simp;(try with_reducible rfl)
 (try simp only [Act.put,pu1,pu2,pu3])
 refine wpPlan_end ?_
 refine postL_go rfl (by kernel_rfl) ?_
 obtain ⟨w7,hrun,hs7,hg7⟩:=(HS6.out.on (below_drew (below_self w6))).put hy (by simp only [maxLen];omega)
 have HS7:=hide hs7
 have HG7:=hide hg7
 have HRD:=hide hHeld.1
 clear hs7 hg7 hHeld
 unfold Oper.wp execOp
 go_simp
 refine bodyPost_end (v:=.tuple #[]) (by simp [results,Tryd.results56,go_sem]) rfl ?_
 have hT7:TurnW B g b w w7:=(HT6.out.trans (TurnW.of_below (below_drew (below_self w6)))).trans (TurnW.grown HG7.out (fun k e=>by have:=Option.some.inj e;subst this;exact ⟨hBb,.inr (.inl rfl)⟩))
 have hs6d:=HS6.out.on (below_drew (below_self w6))
 refine ⟨rfl,⟨A,n,c,A5,n1+1,c5,A2,n2,c2,hBg,hBb,HRD.out.grown HG7.out (hs6d.not_row HRD.out),hT7.rd HB0.out HN0.out,?_,HS7.out.eq (came_snoc _ _).symm,?_⟩,hT7⟩
 ·rw [flatW_snoc]
  exact HO6.out.drew.kept HG7.out (hs6d.not_own HO6.out.drew)
 ·exact HN6.out.drew.kept HG7.out (hs6d.not_own HN6.out.drew)
end Go.Proofs.YtpndfahgflgocaaDoor

