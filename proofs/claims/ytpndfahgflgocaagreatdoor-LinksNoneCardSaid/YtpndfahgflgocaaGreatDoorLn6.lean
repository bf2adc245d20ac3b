import Derived.Test.YtpndfahgflgocaaGreatDoorLn5

namespace Go.Proofs.YtpndfahgflgocaaGreatDoor
open Go.RowKit Go.Shelf Plain

def WkRet (B g b:Nat) (ns:List NodV) (s:StW) (w:World) (e:Ending) (w':World):Prop:=e=.returned (.tuple #[])∧WkS B g b ns s w'∧TurnW B g b w w'
set_option maxRecDepth 100000 in
set_option maxHeartbeats 1600000 in
theorem add_any {B g b:Nat} {ns:List NodV} {s:StW} {y:WayV} (w:World) (h:WkS B g b ns s w) (hy:i64 y.ino) (hm:s.1.length≤1000):Calls Tryz.prog 110 #[.pointer (some ⟨g,0,none⟩),.agg (wayC y).toArray] w (WkRet B g b ns (s.1++[y],s.2) w):=by
 have hb1:=below_new (below_self w) (.cells (wayC y).toArray 92)
 have hz1:=RowL.new w 92 (wayC y)
 obtain ⟨hBg,hgl,hBb,hbl⟩:=h.lt
 obtain ⟨A,n,c,A1,n1,c1,A2,n2,c2,-,-,h3,h4,h5,h6,h7⟩:=h
 have hn1:n1≤1000:=by have h8:=h5.1;rw [flatW_len] at h8;omega
 have HOB:=hide (own_block h5)
 have HB0:=hide (show B≤w.heap.size by omega)
 obtain ⟨w1,hw1⟩:∃w1,w.alloc (.cells (wayC y).toArray 92)=w1:=⟨_,rfl⟩
 rw [hw1] at hb1 hz1
 have HB1:=hide (show B≤w1.heap.size by have:=hb1.size;omega)
 have HO1:=hide (ownsRow_below h5 hb1)
 have HZ1:=hide hz1
 have HB:=hide hb1
 have HR:=hide (h3.on hb1)
 have HN0:=hide h4
 have HS:=hide (h6.on hb1)
 have HT:=hide (ownsRow_below h7 hb1)
 clear hb1 hz1 h3 h4 h5 h6 h7
 have hne:w.heap.size≠g:=by omega
 go_enter Tryz.func110,Tryz.ntmps110
 go_wp2
 clear hw1
 refine wp_region_planP (fun w'=>RowL w' g 144 [.slice A n c,.slice A1 n1 c1,.map (some b),.slice A2 n2 c2]∧RowL w' w.heap.size 92 (wayC y)) [(0,true),(1,true),(2,true),(3,true),(4,true),(5,true),(6,false),(7,false),(8,true),(9,true)] 10 (by kernel_rfl) (by kernel_rfl) (by kernel_rfl) (by kernel_rfl) (by kernel_rfl) rfl (fun _ _ _ _ _ h=>h) ⟨HR.out.drew,HZ1.out.drew⟩ (fun hHeld=>?_)
 simp only [planOps,List.filterMap_cons,List.filterMap_nil,List.getElem?_toArray,List.getElem?_cons_succ,List.getElem?_cons_zero,Option.map_some]
 iterate 4
  refine wpPlan_take (v:=?_) (by kernel_rfl) (fun wS hSw=>?_) ?_
  rotate_left
  ·(try dsimp only at hSw);go_simp;(try with_reducible rfl)
  (try simp only [Act.put,pu1,pu2,pu3])
 refine wpPlan_take (v:=?_) (by kernel_rfl) (fun wS hSw=>?_) ?_
 rotate_left
 ·obtain ⟨hrg,-⟩:=hSw;have hcg:wS.cell? ⟨g,1,none⟩=some (.slice A1 n1 c1):=hrg.cell 1;clear hrg;go_simp;(try with_reducible rfl)
 (try simp only [Act.put,pu1,pu2,pu3])
 refine wpPlan_take (v:=?_) (by kernel_rfl) (fun wS hSw=>?_) ?_
 rotate_left
 ·obtain ⟨-,hry⟩:=hSw;refine execOp_load (x:=.tmp 3) (k:=3) (g:=w.heap.size) (off:=0) (cs:=wayC y) ?_ way_agg way_size ?_ hry.at0 rfl <;> rfl
 (try simp only [Act.put,pu1,pu2,pu3])
 refine wpPlan_call (by kernel_rfl) (fun K hK=>?_)
 have hOld:=hide hHeld
 clear hHeld
 unfold Oper.wp execOp
 have hlit:=lit_way y w1.drew
 unfold wayC at hlit
 go_simp
 refine hK.out _ _ (⟨hOld.out.1.on (below_new (below_self _) _),hOld.out.2.on (below_new (below_self _) _)⟩) (fun hHeld=>?_)
 clear hK K
 (try simp only [Act.put,pu1,pu2,pu3])
 refine wpPlan_call (by kernel_rfl) (fun K hK=>?_)
 have hOld:=hide hHeld
 clear hHeld
 refine wp_appF w1.drew B w1.heap.size rfl (.tmp 8) (.tmp 10) 89 92 rfl Tryz.underlying89 _ 3 32 way_info rfl (by omega) (by omega) A1 n1 c1 (flatW s.1) (wayC y) rfl (by simp [wayC,Value.oneCell']) rfl HO1.out.drew rfl (by omega) (by have:=HB1.out;show B≤w1.heap.size;omega) ?_
 intro A5 c5 w5 ho5 hg5
 have HO5:=hide ho5
 have HG5:=hide hg5
 clear ho5 hg5
 refine hK.out _ _ (⟨hOld.out.1.grown HG5.out (row_apart HO1.out HR.out (by decide)),hOld.out.2.grown HG5.out (fun e=>by have:=(HOB.out _ e.symm).2.1;omega)⟩) (fun hHeld=>?_)
 clear hK K
 (try simp only [Act.put,pu1,pu2,pu3])
 iterate 2
  refine wpPlan_take (v:=?_) (by kernel_rfl) (fun wS hSw=>?_) ?_
  rotate_left
  ·(try dsimp only at hSw);go_simp;(try with_reducible rfl)
  (try simp only [Act.put,pu1,pu2,pu3])
 refine wpPlan_end ?_
 refine postL_go rfl (by kernel_rfl) ?_
 have hrg5:=hHeld.1
 have hry5:=hHeld.2
 have hcg:w5.cell? ⟨g,1,none⟩=some (.slice A1 n1 c1):=hrg5.cell 1
 have hfg:w5.frozen? ⟨g,1,none⟩=false:=hrg5.frozen 1
 have HRG5:=hide hrg5
 have HRY5:=hide hry5
 clear hHeld hrg5 hry5
 unfold Oper.wp execOp
 go_simp
 have hrg6:RowL (w5.setCell ⟨g,1,none⟩ (.slice A5 (n1+1) c5)) g 144 [.slice A n c,.slice A5 (n1+1) c5,.map (some b),.slice A2 n2 c2]:=HRG5.out.set_ 1 _
 have hg6:=grown_cell w5 g 1 (.slice A5 (n1+1) c5)
 have hry6:RowL (w5.setCell ⟨g,1,none⟩ (.slice A5 (n1+1) c5)) w.heap.size 92 (wayC y):=HRY5.out.grown hg6 (fun e=>hne (Option.some.inj e))
 have ha:=below_new (below_self w1.drew) (.cells (wayC y).toArray 92)
 have ho1:(w1.drew.alloc (.cells (wayC y).toArray 92)).ownsRow B 92 3 (.slice A1 n1 c1) n1 (flatW s.1):=ownsRow_below HO1.out.drew ha
 have hT5:TurnW B g b w w5:=((TurnW.of_below HB.out).trans (TurnW.of_below (A:=w1) (C:=w1.drew.alloc (.cells (wayC y).toArray 92)) ((below_drew (below_self w1)).trans ha))).trans (TurnW.own ho1 (.inl rfl) HG5.out (Nat.le_refl _))
 have hT6:TurnW B g b w (w5.setCell ⟨g,1,none⟩ (.slice A5 (n1+1) c5)):=hT5.trans (TurnW.grown hg6 (fun k e=>by have:=Option.some.inj e;subst this;exact ⟨hBg,.inl rfl⟩))
 have ho6:(w5.setCell ⟨g,1,none⟩ (.slice A5 (n1+1) c5)).ownsRow B 92 3 (.slice A5 (n1+1) c5) (n1+1) (flatW s.1++wayC y):=HO5.out.kept hg6 (.inr (fun e=>row_apart HO5.out HRG5.out (by decide) e.symm))
 have ht5:w5.ownsRow B 178 2 (.slice A2 n2 c2) n2 (flatT s.2):=(ownsRow_below HT.out.drew ha).kept HG5.out (owns_apart ho1 (ownsRow_below HT.out.drew ha) (by decide))
 have ht6:=ht5.kept hg6 (.inr (fun e=>row_apart ht5 HRG5.out (by decide) e.symm))
 have hs5:SetW w5 b n1 (cameW s.1):=(((HS.out.on (below_drew (below_self w1))).on ha).kept HG5.out (fun e=>by
  obtain ⟨o,ho,-,hoc⟩:=((HS.out.on (below_drew (below_self w1))).on ha).obj
  obtain ⟨-,-,o',ho',hoc'⟩:=own_block ho1 b e.symm
  rw [ho] at ho'
  cases Option.some.inj ho'
  rw [hoc] at hoc'
  cases hoc'))
 have hs6:=hs5.kept hg6 (fun e=>by
  obtain ⟨o,ho,-,hoc⟩:=hs5.obj
  have:=Option.some.inj e
  subst this
  rw [show w5.heap[b]?=_ from HRG5.out] at ho
  cases Option.some.inj ho
  cases hoc)
 have HRG6:=hide hrg6
 have HRY6:=hide hry6
 have HT6:=hide hT6
 have HO6:=hide ho6
 have HN6:=hide ht6
 have HS6:=hide hs6
 clear hrg6 hry6 hT5 hT6 ho6 ht5 ht6 hs5 hs6 ho1 ha hg6 hcg hfg HRG5 HRY5 HO5 HG5 HO1 HR HS HT HB
 generalize w5.setCell ⟨g,1,none⟩ (.slice A5 (n1+1) c5)=w6 at *
 go_wp2
 refine wp_region_planP (fun w'=>RowL w' g 144 [.slice A n c,.slice A5 (n1+1) c5,.map (some b),.slice A2 n2 c2]∧RowL w' w.heap.size 92 (wayC y)) [(0,true),(1,true),(2,true),(3,true),(4,true),(5,true),(6,true)] 7 (by kernel_rfl) (by kernel_rfl) (by kernel_rfl) (by kernel_rfl) (by kernel_rfl) rfl (fun _ _ _ _ _ h=>h) ⟨HRG6.out.drew,HRY6.out.drew⟩ (fun hHeld=>?_)
 simp only [planOps,List.filterMap_cons,List.filterMap_nil,List.getElem?_toArray,List.getElem?_cons_succ,List.getElem?_cons_zero,Option.map_some]
 iterate 3
  refine wpPlan_take (v:=?_) (by kernel_rfl) (fun wS hSw=>?_) ?_
  rotate_left
  ·(try dsimp only at hSw);go_simp;(try with_reducible rfl)
  (try simp only [Act.put,pu1,pu2,pu3])
 refine wpPlan_take (v:=?_) (by kernel_rfl) (fun wS hSw=>?_) ?_
 rotate_left
 ·obtain ⟨hrg,-⟩:=hSw;have hcg:wS.cell? ⟨g,2,none⟩=some (.map (some b)):=hrg.cell 2;clear hrg;go_simp;(try with_reducible rfl)
 (try simp only [Act.put,pu1,pu2,pu3])
 refine wpPlan_take (v:=?_) (by kernel_rfl) (fun wS hSw=>?_) ?_
 rotate_left
 ·(try dsimp only at hSw);go_simp;(try with_reducible rfl)
 (try simp only [Act.put,pu1,pu2,pu3])
 refine wpPlan_take (v:=?_) (by kernel_rfl) (fun wS hSw=>?_) ?_
 rotate_left
 ·obtain ⟨-,hry⟩:=hSw;have hcg:wS.cell? ⟨w.heap.size,0,none⟩=some (.int .i64 y.ino):=hry.cell 0;clear hry;go_simp;(try with_reducible rfl)
 (try simp only [Act.put,pu1,pu2,pu3])
 refine wpPlan_take (v:=?_) (by kernel_rfl) (fun wS hSw=>?_) ?_
 rotate_left
 ·(try dsimp only at hSw);go_simp;(try with_reducible rfl)
 (try simp only [Act.put,pu1,pu2,pu3])
 refine wpPlan_end ?_
 refine postL_go rfl (by kernel_rfl) ?_
 obtain ⟨w7,hrun,hs7,hg7⟩:=(HS6.out.on (below_drew (below_self w6))).put hy (by simp only [maxLen];omega)
 have HS7:=hide hs7
 have HG7:=hide hg7
 have HRD:=hide hHeld.1
 clear hs7 hg7 hHeld
 unfold Oper.wp execOp
 go_simp
 refine bodyPost_end (v:=.tuple #[]) (by simp [results,Tryz.results110,go_sem]) rfl ?_
 have hT7:TurnW B g b w w7:=(HT6.out.trans (TurnW.of_below (below_drew (below_self w6)))).trans (TurnW.grown HG7.out (fun k e=>by have:=Option.some.inj e;subst this;exact ⟨hBb,.inr (.inl rfl)⟩))
 have hs6d:=HS6.out.on (below_drew (below_self w6))
 refine ⟨rfl,⟨A,n,c,A5,n1+1,c5,A2,n2,c2,hBg,hBb,HRD.out.grown HG7.out (hs6d.not_row HRD.out),hT7.rd HB0.out HN0.out,?_,HS7.out.eq (came_snoc _ _).symm,?_⟩,hT7⟩
 ·rw [flatW_snoc]
  exact HO6.out.drew.kept HG7.out (hs6d.not_own HO6.out.drew)
 ·exact HN6.out.drew.kept HG7.out (hs6d.not_own HN6.out.drew)
end Go.Proofs.YtpndfahgflgocaaGreatDoor

namespace Go.Proofs.YtpndfahgflgocaaGreatDoor
open Go.RowKit Go.Shelf Plain
attribute [local go_sem] Oper.semAt_some

def KpN (B g:Nat) (ns:List NodV) (m1 m2:Nat) (W W':World):Prop:=(∀k,k < B→W'.heap[k]?=W.heap[k]?)∧(WkN W B g ns→WkN W' B g ns)∧W'.cell? ⟨m1,0,none⟩=W.cell? ⟨m1,0,none⟩∧W'.cell? ⟨m2,0,none⟩=W.cell? ⟨m2,0,none⟩∧W.heap.size≤W'.heap.size
section
variable {B g m1 m2 : Nat} {ns : List NodV} {U V W : World}
theorem kpN_t (h:KpN B g ns m1 m2 U V) (k:KpN B g ns m1 m2 V W):KpN B g ns m1 m2 U W:=⟨fun i hi=>(k.1 i hi).trans (h.1 i hi),fun hh=>k.2.1 (h.2.1 hh),k.2.2.1.trans h.2.2.1,k.2.2.2.1.trans h.2.2.2.1,Nat.le_trans h.2.2.2.2 k.2.2.2.2⟩
theorem kpN_below {n:Nat} (hB:B≤n) (hg:g < n) (h1:m1 < n) (h2:m2 < n) (h:Below n U V):KpN B g ns m1 m2 U V:=⟨fun i hi=>h.block i (by omega),fun hh=>by
 obtain ⟨A,m,c,h3,h4⟩:=hh
 exact ⟨A,m,c,(h.cell (p:=⟨g,0,none⟩) hg).trans h3,h4.mono (fun b hb=>h.block b (Nat.lt_of_lt_of_le hb hB)) (fun _ h=>h)⟩,h.cell (p:=⟨m1,0,none⟩) h1,h.cell (p:=⟨m2,0,none⟩) h2,h.size⟩
theorem WkN.kp (h:WkN U B g ns) (k:KpN B g ns m1 m2 U V):WkN V B g ns:=k.2.1 h
end
abbrev DirE (ns:List NodV) (l:List EntV):={x:EntV×Nat // x∈dirsOf ns l}
def encN {ns:List NodV} {l:List EntV} (x:DirE ns l):Array Value:=#[.int .i64 (x.1.2:Int),.agg (cellsE x.1.1).toArray]
def dirsK (ns:List NodV) (l:List EntV) (k:Nat):List (EntV×Nat):=(l.zipIdx.take k).filter (fun x=>isDir ns x.1.ino)
theorem dirsK_all {ns:List NodV} {l:List EntV} {k:Nat} (h:l.length≤k):dirsK ns l k=dirsOf ns l:=by
 unfold dirsK dirsOf
 rw [List.take_of_length_le (by simpa using h)]
theorem dirsK_succ {ns:List NodV} {l:List EntV} {k:Nat} {x:EntV} (h:l[k]?=some x):dirsK ns l (k+1)=if isDir ns x.ino=true then dirsK ns l k++[(x,k)] else dirsK ns l k:=by
 have hk:=(List.getElem?_eq_some_iff.1 h).1
 have hz:l.zipIdx[k]?=some (x,k):=by rw [List.getElem?_zipIdx,h];simp
 unfold dirsK
 rw [List.take_add_one,hz,List.filter_append]
 split
 ·rename_i hd
  simp [hd]
 ·rename_i hd
  simp [hd]
theorem dirsK_mem {ns:List NodV} {l:List EntV} {k:Nat} {x:EntV} (h:l[k]?=some x) (hd:isDir ns x.ino=true):(x,k)∈dirsOf ns l:=by
 unfold dirsOf
 refine List.mem_filter.2 ⟨List.mem_zipIdx_iff_getElem?.2 h,hd⟩
theorem dirsK_len {ns:List NodV} {l:List EntV} {k:Nat} {x:EntV} (h:l[k]?=some x) (hd:isDir ns x.ino=true):(dirsK ns l k).length < (dirsOf ns l).length:=by
 have h1:(dirsK ns l (k+1)).length≤(dirsOf ns l).length:=by
  unfold dirsK dirsOf
  exact ((List.take_sublist _ _).filter _).length_le
 rw [dirsK_succ h,if_pos hd,List.length_append] at h1
 simp at h1
 omega
set_option maxRecDepth 100000 in
theorem entw_agg:∀w,(isAgg 31).run Tryz.prog w=.ok true w:=fun w=>by kernel_rfl
set_option maxRecDepth 100000 in
theorem entw_size:∀w,(Go.sizeOf 31).run Tryz.prog w=.ok 3 w:=fun w=>by kernel_rfl
theorem cellsE_one (x:EntV):∀v∈cellsE x,v.oneCell'=true:=by simp [cellsE,Value.oneCell']
theorem below_stored' {W2 W3:World} {o:Obj} (hg:(W2.alloc o).grownBy W3 (some W2.heap.size)):Below W2.heap.size W2 W3:=(below_new (below_self W2) o).grown hg (by simp) (fun g hg=>by have:=Option.some.inj hg;omega)
set_option maxRecDepth 100000 in
set_option maxHeartbeats 1600000 in
theorem names1_stops (n : Nat) (hn : 1 ≤ n) (B g m1 m2 : Nat) (ns : List NodV) (dir : Int) {L : List EntV} (hL : (nodAt ns dir).ents = L) (w : World) (hN : WkN w B g ns) (h1 : w.cell? ⟨m1, 0, none⟩ = some (.pointer (some ⟨g, 0, none⟩))) (h2 : w.cell? ⟨m2, 0, none⟩ = some (.int .i64 dir))
  (hB:B≤w.heap.size) (hg:g < w.heap.size) (hm1:m1 < w.heap.size) (hm2:m2 < w.heap.size) (hm:ns.length≤100000) (hl:L.length≤100000) :
  SeqStopsK Fence.wide n Tryz.prog 133 #[.pointer (some ⟨m1,0,none⟩),.pointer (some ⟨m2,0,none⟩)] (encN (ns:=ns) (l:=L)) (KpN B g ns m1 m2) (fun xs=>xs.map (fun x=>x.1)=dirsOf ns L) (fun _=>True) (dirsOf ns L).length w:=fun l J Jx W hW hAJ _ hY h0=>by
 have hro:Fence.wide.round=none:=rfl
 have k0:=kpN_below (ns:=ns) hB hg hm1 hm2 hW
 have hNW:=hN.kp k0
 have hb1:W.cell? ⟨m1,0,none⟩=some (.pointer (some ⟨g,0,none⟩)):=k0.2.2.1.trans h1
 have hb2:W.cell? ⟨m2,0,none⟩=some (.int .i64 dir):=k0.2.2.2.1.trans h2
 have hsW:=hW.size
 refine callsIn_of_wp Tryz.func133 rfl trivial ?_ rfl
 simp only [Tryz.ntmps133,List.size_toArray,List.length_cons,List.length_nil,Nat.reduceAdd,Nat.reduceSub,Array.replicate_succ,Array.replicate_zero,List.push_toArray,List.append_toArray,List.nil_append,List.cons_append]
 clear h1 h2 k0 hN
 gi_wp2
 refine ⟨trivial,(callsIn_wide.2 (node_any W hNW (by omega) (by omega) hm)).mono ?_⟩
 rintro e W1 ⟨A1,n1,c1,C,m,d,rfl,-,-,hmd,hE,hbel⟩
 have hf5:=nod_f5 (nodAt ns dir) A1 C n1 c1 m d
 have k1:=kpN_below (B:=B) (g:=g) (ns:=ns) (m1:=m1) (m2:=m2) (n:=W.heap.size) (by omega) (by omega) (by omega) (by omega) hbel
 have hN1:=hNW.kp k1
 have hc1:W1.cell? ⟨m1,0,none⟩=some (.pointer (some ⟨g,0,none⟩)):=k1.2.2.1.trans hb1
 have hs1:=hbel.size
 have hJ1:J [] W1:=hAJ _ _ _ none h0 (grown_below hbel) (fun r e=>by cases e)
 rw [hL] at hE
 clear hb1 hb2 hNW h0 hbel k1 hL
 gi_wp2
 clear hf5
 have HE:=hide hE
 have HN:=hide hN1
 have hml:m≤100000:=by rw [←hE.1];exact hl
 clear hE hN1
 gi_loopw [11] (fun iv wr=>∃(k:Nat) (pre:List (DirE ns L)),k≤m∧iv=.int .i64 k∧pre.map (fun x=>x.1)=dirsK ns L k∧J pre wr∧KpN B g ns m1 m2 W1 wr) (fun iv _=>m - (intOf iv).toNat)
 case atStart=>exact ⟨0,[],by omega,rfl,by simp [dirsK],hJ1,⟨fun _ _=>rfl,fun h=>h,rfl,rfl,Nat.le_refl _⟩⟩
 case round =>
  obtain ⟨k,pre,hk,rfl,hpre,hJ,hkp⟩:=hrel
  clear hJ1
  by_cases hlt:k < m
  ·obtain ⟨x,hx⟩:∃x,L[k]?=some x:=⟨_,List.getElem?_eq_getElem (by have:=HE.out.1;omega)⟩
   obtain ⟨b,o,rfl,hbB,hcell⟩:=ent_get HE.out hx
   have HC:=hide (fun j v (hv:(cellsE x)[j]?=some v)=>show wr.cell? ⟨b,o+k*3+j,none⟩=some v from (World.cell?_of_block ((hkp.1 b hbB))).trans (hcell j v hv))
   have hcm:wr.cell? ⟨m1,0,none⟩=some (.pointer (some ⟨g,0,none⟩)):=hkp.2.2.1.trans hc1
   have HX:=hide hx
   have HP:=hide hpre
   have hsr:=hkp.2.2.2.2
   have hz:=RowL.new wr 31 [.int .i64 0,.int .i64 0,.string ⟨#[]⟩]
   have HZ:=hide hz
   clear hx hpre hcell hz
   gi_wp2_with (first|(refine wpListIn_plain rfl fun K2 hK2=>?_;refine wpIn_loadX 31 (.tmp 14) rfl 3 entw_agg entw_size b (o+k*3) rfl (cellsE x) HC.out rfl ?_;refine hK2 _ _ ?_;clear hK2 K2)|(refine wpListIn_plain rfl fun K2 hK2=>?_;refine wpIn_storeW 31 (.tmp 5) (.tmp 15) rfl 3 entw_size wr.heap.size 31 rfl [.int .i64 0,.int .i64 0,.string ⟨#[]⟩] (cellsE x) rfl HZ.out rfl rfl (cellsE_one x) ?_;intro w3 hr3 hg3 hs3;refine hK2 _ _ ?_;clear hK2 K2;have hb3:=below_stored' hg3;have e0:w3.cell? ⟨wr.heap.size,0,none⟩=some (.int .i64 x.slot):=hr3.cell 0;have e1:w3.cell? ⟨wr.heap.size,1,none⟩=some (.int .i64 x.ino):=hr3.cell 1;have e2:w3.cell? ⟨wr.heap.size,2,none⟩=some (.string ⟨x.name.toArray⟩):=hr3.cell 2;have e3:w3.cell? ⟨m1,0,none⟩=some (.pointer (some ⟨g,0,none⟩)):=(hb3.cell (p:=⟨m1,0,none⟩) (by show m1 < _;omega)).trans hcm;have HB3:=hide hb3;have HR3:=hide hr3;clear hb3 hr3 hg3 hs3))
   have hs3:=HB3.out.size
   have k3:=kpN_below (B:=B) (g:=g) (ns:=ns) (m1:=m1) (m2:=m2) (n:=wr.heap.size) (by omega) (by omega) (by omega) (by omega) HB3.out
   refine ⟨trivial,(callsIn_wide.2 (dir_any (i:=x.ino) w3 ((HN.out.kp hkp).kp k3) (by omega) (by omega) hm)).mono ?_⟩
   rintro e w4 ⟨rfl,hb4⟩
   have hb34:=(HB3.out.trans (hb4.mono HB3.out.size))
   have hs4:=hb34.size
   have hr4:=HR3.out.on hb4
   have k4:=kpN_below (B:=B) (g:=g) (ns:=ns) (m1:=m1) (m2:=m2) (n:=wr.heap.size) (by omega) (by omega) (by omega) (by omega) hb34
   have hJ4:J pre w4:=hAJ _ _ _ none hJ (grown_below hb34) (fun r e=>by cases e)
   have HK4:=hide (kpN_t hkp k4)
   clear hJ hb4 hb34 k4 k3 e0 e1 e2 e3 hcm HB3 HR3
   cases hd:isDir ns x.ino with
   | false =>
    have HDS:=hide (dirsK_succ (ns:=ns) HX.out)
    gi_wp2
    refine ⟨fun _ h=>(by cases h),?_⟩
    gi_wp2
    go_roundw
    case rel=>exact ⟨k+1,pre,by omega,by go_num,by rw [HDS.out,hd];exact HP.out,hJ4,HK4.out⟩
    case measure=>simp [intOf];omega
   | true =>
    have e0:w4.cell? ⟨wr.heap.size,0,none⟩=some (.int .i64 x.slot):=hr4.cell 0
    have e1:w4.cell? ⟨wr.heap.size,1,none⟩=some (.int .i64 x.ino):=hr4.cell 1
    have e2:w4.cell? ⟨wr.heap.size,2,none⟩=some (.string ⟨x.name.toArray⟩):=hr4.cell 2
    have hln:pre.length < (dirsOf ns L).length:=by
     have h1:=dirsK_len HX.out hd
     rw [←HP.out,List.length_map] at h1
     exact h1
    obtain ⟨fn,tmps,assign,body,hy,hR⟩:=hY pre ⟨(x,k),dirsK_mem HX.out hd⟩ w4 hJ4 hln
    have HDS:=hide (show dirsK ns L (k+1)=dirsK ns L k++[(x,k)] from by rw [dirsK_succ HX.out,if_pos hd])
    have HR:=hide hR
    clear hR hJ4 hln hr4
    dsimp only [encN,cellsE] at hy
    gi_wp2
    refine HR.out.mono ?_
    rintro e W' (⟨rfl,hJ2,hk2⟩|⟨rfl,hJx2⟩)
    ·gi_wp2
     go_roundw
     case rel=>exact ⟨k+1,pre++[⟨(x,k),dirsK_mem HX.out hd⟩],by omega,by go_num,by rw [HDS.out,List.map_append,HP.out];rfl,hJ2,kpN_t HK4.out hk2⟩
     case measure=>simp [intOf];omega
    ·gi_wp2
     refine bodyPost_ret (results_none rfl _ _ _) rfl ?_
     exact ⟨⟨_,rfl⟩,.inr ⟨pre++[⟨(x,k),dirsK_mem HX.out hd⟩],trivial,hJx2⟩⟩
  ·obtain rfl:k=m:=by omega
   gi_wp2
   go_end0
   exact ⟨⟨_,rfl⟩,.inl ⟨pre,by rw [hpre];exact dirsK_all (by rw [HE.out.1];exact Nat.le_refl _),hJ⟩⟩
end Go.Proofs.YtpndfahgflgocaaGreatDoor

