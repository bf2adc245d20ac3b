import Derived.Test.YtpndfahgflgocaaGreatDoorLn6

namespace Go.Proofs.YtpndfahgflgocaaGreatDoor
open Go.RowKit Go.Shelf Plain
attribute [local go_sem] Oper.semAt_some

theorem wpIn_scope_back {P : Program} {n : Nat} {a : Act} {w : World} {Q : Exit → Act → World → Prop} {c rest : Code} (l : Nat) (J : Act → World → Prop) (μ : Act → World → Nat) (hf : findLabel c l = some (Code.skip.seq rest))
  (pass:∀a w,J a w→rest.wpIn Fence.wide n P (Exit.jump l (fun a' w'=>J a' w'∧μ a' w' < μ a w) Q) a w)
  (first:(∀a w,J a w→rest.wpIn Fence.wide n P (Exit.jump l J Q) a w)→c.wpIn Fence.wide n P (Exit.jump l J Q) a w):(Code.scope c).wpIn Fence.wide n P Q a w:=by
 refine wpIn_wide.2 (wp_scope_jumps l J μ hf (wpIn_wide.1 (first fun a w h=>wpIn_wide.2 (Code.wp_mono (fun e a' w' hq=>?_) (wpIn_wide.1 (pass a w h))))) (fun a w h=>wp_seq (wp_skip (wpIn_wide.1 (pass a w h)))))
 cases e with
 | goto l'=>exact ⟨hq.1,hq.2.1⟩
 | normal=>exact hq
 | exit id=>exact hq
 | ret=>exact hq
 | panic ch=>exact hq
 | outgrown=>exact hq
set_option maxHeartbeats 800000 in
theorem names_any' {g:Nat} {i:Int} (w:World):Calls Tryz.prog 111 #[.pointer (some ⟨g,0,none⟩),.int .i64 i] w (fun e w'=>e=.returned (.func (.func 133) #[] #[.pointer (some ⟨w.heap.size,0,none⟩),.pointer (some ⟨w.heap.size+1,0,none⟩)])∧w'=(w.alloc (.cells #[.pointer (some ⟨g,0,none⟩)] 98)).alloc (.cells #[.int .i64 i] 3)):=by
 go_enter Tryz.func111,Tryz.ntmps111
 go_wp2
 go_ret
 exact ⟨rfl,rfl⟩
def cellN (w:World) (m:Nat):Nat:=match w.cell? ⟨m,0,none⟩ with|some (.int _ n)=>n.toNat|_=>0
theorem ownFrom_wk {β:Type} {f:β→StW} {B g b:Nat} {ns:List NodV} {W6:World} (hB:B≤W6.heap.size) (hb:b < W6.heap.size):OwnFrom W6.heap.size (fun (s:β) W=>WkS B g b ns (f s) W∧TurnW B g b W6 W):=fun _ W W' row hs hg hr =>
 ⟨hs.1.turned hg (fun k e o ho=>by
   obtain ⟨h1,o',h2,h3⟩:=hr k e
   rw [ho] at h2
   cases Option.some.inj h2
   exact ⟨by omega,by omega,fun arr t fr e'=>by rw [e'] at h3;cases h3⟩),
  ⟨hg.os.trans hs.2.os,hg.tape.trans hs.2.tape,hg.output.trans hs.2.output,Nat.le_trans hs.2.size hg.size,fun k o ho hk=>(hg.block k (by have:=heap_lt ho;have:=hs.2.size;omega) (fun e=>by have:=(hr k e.symm).1;have:=heap_lt ho;omega)).trans (hs.2.kept k o ho hk)⟩⟩
theorem TurnW.keeps {B g b n:Nat} {A C:World} (h:TurnW B g b A C) (hg:g < n) (hb:b < n):KeepsFrom n A C:=⟨h.size,fun k o hn hk hc=>h.kept k o hk (.inr ⟨by omega,by omega,fun arr t fr e=>by rw [e] at hc;cases hc⟩)⟩
theorem kpN_turn {B g b m1 m2 t1 t2:Nat} {ns:List NodV} {U V:World} {c1 c2:List Value} (hT:TurnW B g b U V) (hB:B≤U.heap.size) (hN:WkN V B g ns) (r1:RowL U m1 t1 c1) (r2:RowL U m2 t2 c2) (n1:m1≠g∧m1≠b) (n2:m2≠g∧m2≠b) (e1:t1≠92∧t1≠178) (e2:t2≠92∧t2≠178):KpN B g ns m1 m2 U V :=
 ⟨fun _ hk=>hT.low hB hk,fun _=>hN,((hT.row r1 n1.1 n1.2 e1).cell 0).trans (r1.cell 0).symm,((hT.row r2 n2.1 n2.2 e2).cell 0).trans (r2.cell 0).symm,hT.size⟩
def znam:Value:=.agg #[.int .i64 0,.int .i64 0]
set_option maxRecDepth 100000 in
theorem nam_info:(Tryz.prog.info? 178).map (fun i=>(i.zero,i.size,i.bytes))=some (some znam,2,16):=by kernel_rfl
theorem lit_nam (q:Int×Nat) (W:World):(Instr.buildSlice 142 1 #[(0,.agg (twC q).toArray)]).run Tryz.prog W=.ok (.slice (some ⟨W.heap.size,0,none⟩) 1 1) (W.alloc (.cells (twC q).toArray 178)):=by
 obtain ⟨it,hi,hz,hsz,-⟩:=info_parts nam_info
 refine run_buildSlice W _ 178 1 _ _ it znam Tryz.underlying142 hi hz (by omega) (by omega) ?_
 rw [hsz]
 have:=Great.fill_whole (s:=2) (by omega) [.agg (twC q).toArray] ((Array.range (1*2)).map (znam.cells[· % znam.cells.size]!)) (by intro v hv;rw [List.mem_singleton] at hv;subst hv;simp [Value.cells,twC]) (by simp)
 simpa [Value.cells] using this
theorem tw_stored {B g b n c A1n c1 n2 c2 c5 : Nat} {A A1 A2 A5 : Option Addr} {ns : List NodV} {s : StW} {q : Int × Nat} {W W5 : World} (hB : B ≤ W.heap.size) (hBg : B ≤ g) (hBb : B ≤ b) (h3 : RowL W g 144 [.slice A n c, .slice A1 A1n c1, .map (some b), .slice A2 n2 c2]) (h4 : RdE nodEn W (Under B) A n ns) (h5 : W.ownsRow B 92 3 (.slice A1 A1n c1) A1n (flatW s.1)) (h6 : SetW W b A1n (cameW s.1)) (h7 : W.ownsRow B 178 2 (.slice A2 n2 c2) n2 (flatT s.2))
  (ho5:W5.ownsRow B 178 2 (.slice A5 (n2+1) c5) (n2+1) (flatT s.2++twC q)) (hg5:(W.alloc (.cells (twC q).toArray 178)).grownBy W5 (Value.slice A2 n2 c2).ownBlock) :
  WkS B g b ns (s.1,s.2++[q]) (W5.setCell ⟨g,3,none⟩ (.slice A5 (n2+1) c5))∧TurnW B g b W (W5.setCell ⟨g,3,none⟩ (.slice A5 (n2+1) c5)):=by
 have ha:=below_new (below_self W) (.cells (twC q).toArray 178)
 have ho1:=ownsRow_below h7 ha
 have hrg5:RowL W5 g 144 [.slice A n c,.slice A1 A1n c1,.map (some b),.slice A2 n2 c2]:=(h3.on ha).grown hg5 (row_apart ho1 (h3.on ha) (by decide))
 have hg6:=grown_cell W5 g 3 (.slice A5 (n2+1) c5)
 have hT5:TurnW B g b W W5:=(TurnW.of_below ha).trans (TurnW.own ho1 (.inr rfl) hg5 (Nat.le_refl _))
 have hT6:TurnW B g b W (W5.setCell ⟨g,3,none⟩ (.slice A5 (n2+1) c5)):=hT5.trans (TurnW.grown hg6 (fun k e=>by have:=Option.some.inj e;subst this;exact ⟨hBg,.inl rfl⟩))
 have hs5:SetW W5 b A1n (cameW s.1):=(h6.on ha).kept hg5 (fun e=>by
  rcases (h6.on ha).not_own ho1 with h|h
  ·rw [h] at e;cases e
  ·exact h e.symm)
 have hw5:=(ownsRow_below h5 ha).kept hg5 (owns_apart ho1 (ownsRow_below h5 ha) (by decide))
 refine ⟨⟨A,n,c,A1,A1n,c1,A5,n2+1,c5,hBg,hBb,hrg5.set_ 3 _,hT6.rd hB h4,hw5.kept hg6 (.inr (fun e=>row_apart hw5 hrg5 (by decide) e.symm)),hs5.kept hg6 (fun e=>hs5.not_row hrg5 e.symm),?_⟩,hT6⟩
 rw [flatT_snoc]
 exact ho5.kept hg6 (.inr (fun e=>row_apart ho5 hrg5 (by decide) e.symm))
theorem TurnW.marks {B g b n:Nat} {Ds:List Nat} {A C:World} (h:TurnW B g b A C) (hm:Marks n Ds A) (hg:g < n) (hb:b < n):Marks n Ds C:=⟨hm.1,fun D hD=>⟨(hm.2 D hD).1,h.kept D _ (hm.2 D hD).2 (.inr ⟨by have:=(hm.2 D hD).1;omega,by have:=(hm.2 D hD).1;omega,fun _ _ _ e=>by cases e⟩)⟩⟩
theorem run_stop {ns : List NodV} {p : Nat} {s : StW} (h : ¬ p < s.1.length) : ∀ f, runW ns f p s = s
 | 0=>rfl
 | f+1=>by unfold runW;rw [if_neg h]
theorem visit_at {ns:List NodV} {p:Nat} {s:StW} {y:WayV} (hy:s.1[p]?=some y):visitW ns p s=(dirsOf ns (nodAt ns y.ino).ents).foldl (oneW y.ino p) s:=by unfold visitW;rw [hy]
set_option maxHeartbeats 800000 in
theorem there_any {A:Option Addr} {n c:Nat} {i:Int} {r:Bool} (w:World) (hr:(decide (0≤i)&&decide (i < (n:Int)))=r):Calls Tryz.prog 112 #[.slice A n c,.int .i64 i] w (fun e w'=>e=.returned (.bool r)∧w'=w):=by
 subst hr
 cases h1:decide (0≤i) with
 | true =>
  obtain ⟨d,hd⟩:∃d,decide (i < (n:Int))=d:=⟨_,rfl⟩
  rw [hd]
  go_enter Tryz.func112,Tryz.ntmps112
  go_wp2
  go_ret
  exact ⟨rfl,rfl⟩
 | false =>
  go_enter Tryz.func112,Tryz.ntmps112
  go_wp2
  go_ret
  exact ⟨rfl,rfl⟩
def BegI (B g b:Nat) (ns:List NodV) (w:World) (R:StW) (p:Nat) (Ds:List Nat) (st:StW) (w':World):Prop :=
 p < st.1.length∧OkW ns st.1∧st.2.length≤16*p∧runW ns (ns.length - p) p st=R∧WkS B g b ns st w'∧TurnW B g b w w'∧RowL w' w.heap.size 98 [.pointer (some ⟨g,0,none⟩)]∧RowL w' (w.heap.size+1) 3 [.int .i64 p]∧Marks (w.heap.size+2) Ds w'
def NoP (Q : Exit → Act → World → Prop) : Exit → Act → World → Prop
 | .panic _,_,_=>False
 | e,a,w=>Q e a w
theorem noP_le {Q:Exit→Act→World→Prop} (e:Exit) (a:Act) (w:World) (h:NoP Q e a w):Q e a w:=by
 cases e <;> first|exact h|exact h.elim
theorem noP_n {Q:Exit→Act→World→Prop} {a:Act} {w:World} (h:Q .normal a w):NoP Q .normal a w:=h
theorem rows_set2 (W:World) (c1:List Value) (z v:Value) (t1 t2:Nat):RowL (((W.alloc (.cells c1.toArray t1)).alloc (.cells #[z] t2)).setCell ⟨W.heap.size+1,0,none⟩ v) W.heap.size t1 c1∧RowL (((W.alloc (.cells c1.toArray t1)).alloc (.cells #[z] t2)).setCell ⟨W.heap.size+1,0,none⟩ v) (W.heap.size+1) t2 [v] ∧
  Below W.heap.size W (((W.alloc (.cells c1.toArray t1)).alloc (.cells #[z] t2)).setCell ⟨W.heap.size+1,0,none⟩ v)∧(((W.alloc (.cells c1.toArray t1)).alloc (.cells #[z] t2)).setCell ⟨W.heap.size+1,0,none⟩ v).heap.size=W.heap.size+2:=by
 obtain ⟨h1,h2,h3,h4⟩:=rows2 W c1 [z] t1 t2
 have hg:=grown_cell ((W.alloc (.cells c1.toArray t1)).alloc (.cells [z].toArray t2)) (W.heap.size+1) 0 v
 exact ⟨h1.grown hg (pu5 (by omega)),h2.set_ 0 v,h3.grown hg (by rw [h4];omega) (pu4 (by omega)),by simp [World.setCell]⟩
theorem own_same {W W':World} {base e s n:Nat} {v:Value} {xs:List Value} (h:W.ownsRow base e s v n xs) (hk:∀(k:Nat) (o:Obj),W.heap[k]?=some o→(∀x,o≠.deferred x)→W'.heap[k]?=some o):W'.ownsRow base e s v n xs:=by
 refine ⟨h.1,?_⟩
 rcases h.2 with h0|⟨g,cap,cur,h1,h2,h3,h4⟩
 ·exact .inl h0
 ·exact .inr ⟨g,cap,cur,h1,h2,hk _ _ h3 (fun x e=>by cases e),h4⟩
theorem WkS.same {B g b:Nat} {ns:List NodV} {s:StW} {W W':World} (h:WkS B g b ns s W) (hlow:∀k,k < B→W'.heap[k]?=W.heap[k]?) (hk:∀(k:Nat) (o:Obj),W.heap[k]?=some o→(∀x,o≠.deferred x)→W'.heap[k]?=some o):WkS B g b ns s W':=by
 obtain ⟨A,n,c,A1,n1,c1,A2,n2,c2,h1,h2,h3,h4,h5,h6,h7⟩:=h
 obtain ⟨o,ho,hno,-⟩:=h6.obj
 exact ⟨A,n,c,A1,n1,c1,A2,n2,c2,h1,h2,hk _ _ h3 (fun x e=>by cases e),h4.mono (fun k hk'=>hlow k hk') (fun _ h=>h),own_same h5 hk,h6.at_ ((hk b o ho hno).trans ho.symm),own_same h7 hk⟩
def BegJ (B g b:Nat) (ns:List NodV) (w:World) (R:StW) (i:Int) (a':Act) (w':World):Prop:=∃(p:Nat) (Ds:List Nat) (st:StW) (u3 u5 u6 u7 u8 u9 u10 u11 u12 u13 u14 u15 u16 u17 u18 u19 u20 u21 u22 u23 u24 u25 u26 u27 u28 u29 u30 u31 u32 u33 u34 u35 u36 u37 u38 u39 u40 u41 u42 u43 u44 u45 u46 u47 u48 u49 u50 u51 u52 u53 u54 u55 u56 u57 u58 u59 u60 u61:Value),BegI B g b ns w R p Ds st w'∧a'={tmps:=#[Value.pointer (some ⟨g,0,none⟩),Value.int .i64 i,Value.pointer (some ⟨w.heap.size,0,none⟩),u3,Value.pointer (some ⟨w.heap.size+1,0,none⟩),u5,u6,u7,u8,u9,u10,u11,u12,u13,u14,u15,u16,u17,u18,u19,u20,u21,u22,u23,u24,u25,u26,u27,u28,u29,u30,u31,u32,u33,u34,u35,u36,u37,u38,u39,u40,u41,u42,u43,u44,u45,u46,u47,u48,u49,u50,u51,u52,u53,u54,u55,u56,u57,u58,u59,u60,u61],defers:=Ds.map markD}
set_option maxRecDepth 100000 in
set_option maxHeartbeats 4000000 in
theorem begin_any {B g b : Nat} {ns : List NodV} {s : StW} {i : Int} {R : StW} (w : World) (h : WkS B g b ns s w) (hd : isDir ns i = true) (hc : cameW s.1 i = false) (ho : OkW ns s.1) (hM : Many ns) (htw : s.2.length ≤ 16 * s.1.length)
  (hR:runW ns (ns.length - s.1.length) s.1.length (s.1++[⟨i,-1,[]⟩],s.2)=R):Calls Tryz.prog 84 #[.pointer (some ⟨g,0,none⟩),.int .i64 i] w (WkRet B g b ns R w):=by
 have hin:=isDir_in hd
 have HW:=hide h
 have HOK:=hide ho
 have HM:=hide hM
 have hlt:=ho.lt hd hc
 have hm24:=hM.1
 have hgw:=HW.out.lt
 refine (callsIn_wide (n:=5)).1 ?_
 refine callsIn_of_wp_marks Tryz.func84 rfl trivial ?_ rfl
 simp only [Tryz.ntmps84,List.size_toArray,List.length_cons,List.length_nil,Nat.reduceAdd,Nat.reduceSub,Array.replicate_succ,Array.replicate_zero,List.push_toArray,List.append_toArray,List.nil_append,List.cons_append]
 gi_wp2
 refine wpIn_scope_back 0 (BegJ B g b ns w R i) (fun _ w'=>ns.length - cellN w' (w.heap.size+1)) rfl ?_ ?_
 case _ =>
  rintro a' wr ⟨p,Ds,st,u3,u5,u6,u7,u8,u9,u10,u11,u12,u13,u14,u15,u16,u17,u18,u19,u20,u21,u22,u23,u24,u25,u26,u27,u28,u29,u30,u31,u32,u33,u34,u35,u36,u37,u38,u39,u40,u41,u42,u43,u44,u45,u46,u47,u48,u49,u50,u51,u52,u53,u54,u55,u56,u57,u58,u59,u60,u61,⟨hp,hok,htp,hrun,hws,hT,hr0,hr1,hmk⟩,rfl⟩
  clear h hd hc ho htw hR hin hlt
  have hsz2:=hr1.lt
  obtain ⟨hBg,hgl,hBb,hbl⟩:=hws.lt
  obtain ⟨y,hy⟩:∃y,st.1[p]?=some y:=⟨_,List.getElem?_eq_getElem hp⟩
  have hA:∃A n c gW c1 A2 n2 c2,RowL wr g 144 [.slice A n c,.slice (some ⟨gW,0,none⟩) st.1.length c1,.map (some b),.slice A2 n2 c2]∧wr.cell? ⟨gW,p*3,none⟩=some (.int .i64 y.ino)∧gW < wr.heap.size∧st.1.length≤c1:=by
   obtain ⟨A,n,c,A1,n1,c1,A2,n2,c2,-,-,h3,-,h5,-⟩:=hws
   have hn1:n1=st.1.length:=by have h8:=h5.1;rw [flatW_len] at h8;omega
   subst hn1
   rcases h5.2 with ⟨_,h0⟩|⟨gW,cap,cur,he,_,hg,hle,_⟩
   ·omega
   ·simp only [Value.slice.injEq] at he
    obtain ⟨rfl,-,rfl⟩:=he
    refine ⟨A,n,c,gW,c1,A2,n2,c2,h3,?_,heap_lt hg,hle⟩
    refine (World.ownsRow.cellAt (g:=gW) h5 (p*3) (by omega)).trans ?_
    have:=flat_get (k:=3) (css:=st.1.map wayC) (fun cs hc=>by obtain ⟨z,_,rfl⟩:=List.mem_map.1 hc;rfl) (i:=p) (j:=0) (cs:=wayC y) (by rw [List.getElem?_map,hy];rfl) (by omega)
    rw [show flatW st.1=(st.1.map wayC).flatten from by simp [flatW,List.flatMap]]
    exact this
  obtain ⟨A,n,c,gW,c1,A2,n2,c2,hrg,hcy,hgW,hc1⟩:=hA
  have HY:=hide hy
  have HRG:=hide hrg
  have HR1:=hide hr1
  have hpt:((p:Nat):Int).toNat=p:=by omega
  clear hrg
  gi_wp2
  refine wpIn_wide.2 (Code.wp_mono noP_le ?_)
  refine wp_region_planP (fun w'=>w'.cell? ⟨w.heap.size,0,none⟩=some (.pointer (some ⟨g,0,none⟩))∧w'.cell? ⟨w.heap.size+1,0,none⟩=some (.int .i64 p)∧w'.cell? ⟨g,1,none⟩=some (.slice (some ⟨gW,0,none⟩) st.1.length c1)∧w'.cell? ⟨gW,p*3,none⟩=some (.int .i64 y.ino)) [(0,true),(1,true),(2,true),(3,true),(4,true),(5,true),(6,true),(7,true),(8,false)] 9 (by kernel_rfl) (by kernel_rfl) (by kernel_rfl) (by kernel_rfl) (by kernel_rfl) rfl (fun _ _ _ _ _ h=>h) ⟨hr0.cell 0,hr1.cell 0,HRG.out.cell 1,hcy⟩ (fun hHeld=>?_)
  simp only [planOps,List.filterMap_cons,List.filterMap_nil,List.getElem?_toArray,List.getElem?_cons_succ,List.getElem?_cons_zero,Option.map_some]
  iterate 8
   refine wpPlan_take (v:=?_) (by kernel_rfl) (fun wS hSw=>?_) ?_
   rotate_left
   ·(try dsimp only at hSw);go_simp;(try with_reducible rfl)
   (try simp only [Act.put,pu1,pu2,pu3])
  refine wpPlan_call (by kernel_rfl) (fun K hK=>?_)
  have hOld:=hide hHeld
  clear hHeld
  unfold Oper.wp execOp
  go_simp
  refine hK.out _ _ (⟨((below_new (below_self wr) _).cell (p:=⟨w.heap.size,0,none⟩) hr0.lt).trans hOld.out.1,((below_new (below_self wr) _).cell (p:=⟨w.heap.size+1,0,none⟩) hr1.lt).trans hOld.out.2.1,((below_new (below_self wr) _).cell (p:=⟨g,1,none⟩) hgl).trans hOld.out.2.2.1,((below_new (below_self wr) _).cell (p:=⟨gW,p*3,none⟩) hgW).trans hOld.out.2.2.2⟩) (fun hHeld=>?_)
  clear hK K
  (try simp only [Act.put,pu1,pu2,pu3])
  refine wpPlan_end ?_
  refine postL_go rfl (by kernel_rfl) ?_
  clear hHeld
  unfold Oper.wp execOp
  go_simp
  refine noP_n ?_
  have hb4:Below wr.heap.size wr (wr.alloc (.cells #[.int .i64 y.ino] 3)).drew:=below_drew (below_new (below_self wr) (.cells #[.int .i64 y.ino] 3))
  have hr4:RowL (wr.alloc (.cells #[.int .i64 y.ino] 3)).drew wr.heap.size 3 [.int .i64 y.ino]:=(RowL.new wr 3 [.int .i64 y.ino]).drew
  have hs4:(wr.alloc (.cells #[.int .i64 y.ino] 3)).drew.heap.size=wr.heap.size+1:=by simp
  generalize (wr.alloc (.cells #[.int .i64 y.ino] 3)).drew=W4 at *
  have q0:W4.cell? ⟨w.heap.size,0,none⟩=some (.pointer (some ⟨g,0,none⟩)):=(hr0.on hb4).cell 0
  have q5:W4.cell? ⟨wr.heap.size,0,none⟩=some (.int .i64 y.ino):=hr4.cell 0
  gi_wp2
  refine wpIn_label ?_
  gi_wp2
  refine ⟨trivial,(callsIn_wide.2 (names_any' _)).mono ?_⟩
  rintro e w' ⟨rfl,rfl⟩
  gi_wp2
  obtain ⟨m1,m2,hb6,hs6⟩:=rows2 W4 [.pointer (some ⟨g,0,none⟩)] [.int .i64 y.ino] 98 3
  obtain ⟨W6,hW6⟩:∃W6,(W4.alloc (.cells [Value.pointer (some ⟨g,0,none⟩)].toArray 98)).alloc (.cells [Value.int .i64 y.ino].toArray 3)=W6:=⟨_,rfl⟩
  have hW6':(W4.alloc (.cells #[Value.pointer (some ⟨g,0,none⟩)] 98)).alloc (.cells #[Value.int .i64 y.ino] 3)=W6:=hW6
  rw [hW6] at m1 m2 hb6 hs6
  rw [hW6']
  have hb46:=below_step hb4 hb6
  rw [hs4] at m1 m2 hs6
  have hws6:=hws.on hb46
  have hT6:TurnW B g b w W6:=hT.trans (TurnW.of_below hb46)
  have z0:=hr0.on hb46
  have z1:=hr1.on hb46
  have z5:=hr4.on hb6
  have hmk6:=hmk.on hb46
  have hmlt:=hmk6.lt
  clear hW6 hW6' hb4 hr4 q0 q5 hws hT hr0 hr1 hmk HRG hcy hgW
  refine wpIn_rangeFunc_ownH rfl (by omega) (gf := 133) (lb := #[.pointer (some ⟨wr.heap.size + 1, 0, none⟩), .pointer (some ⟨wr.heap.size + 1 + 1, 0, none⟩)]) rfl trivial (enters_of Tryz.func133 (by kernel_rfl) rfl)
   (names1_stops 4 (by omega) B g (wr.heap.size+1) (wr.heap.size+1+1) ns y.ino rfl W6 hws6.n (m1.cell 0) (m2.cell 0) (by omega) (by omega) (by omega) (by omega) (by omega) (by have:=nodAt_ents HM.out y.ino;omega)) (fun h k=>kpN_t h k)
   (fun W l o o' hb hw h1 h2=>kpN_below (n:=W6.heap.size) (by omega) (by omega) (by omega) (by omega) (belowK_b (Nat.le_refl _) W l o o' hb hw h1 h2)) (Below.refl _ _) (fun _=>rfl)
   (fun pre W=>WkS B g b ns ((pre.map (fun x=>x.1)).foldl (oneW y.ino p) st) W∧TurnW B g b W6 W)
   (fun _ _ _=>False)
   (ownFrom_wk (by omega) (by omega))
   (fun _ _ _ _ _ hs _ _=>hs)
   ⟨hws6,TurnW.refl _ _ _ _⟩
   (fun x a' W=>∃be,W6.heap.size≤be∧RowL W be 31 (cellsE x.1.1)∧a'={tmps:=#[Value.pointer (some ⟨g,0,none⟩),Value.int .i64 i,Value.pointer (some ⟨w.heap.size,0,none⟩),u3,Value.pointer (some ⟨w.heap.size+1,0,none⟩),Value.pointer (some ⟨wr.heap.size,0,none⟩),Value.int .i64 (x.1.2:Int),Value.pointer (some ⟨be,0,none⟩),u8,u9,u10,u11,u12,u13,u14,u15,u16,Value.pointer (some ⟨g,0,none⟩),Value.pointer (some ⟨g,0,none⟩),Value.pointer (some ⟨g,1,none⟩),Value.slice (some ⟨gW,0,none⟩) st.1.length c1,Value.int .i64 p,Value.pointer (some ⟨gW,p*3,none⟩),Value.pointer (some ⟨gW,p*3,none⟩),Value.int .i64 y.ino,Value.pointer (some ⟨g,0,none⟩),Value.int .i64 y.ino,Value.func (.func 133) #[] #[.pointer (some ⟨wr.heap.size+1,0,none⟩),.pointer (some ⟨wr.heap.size+1+1,0,none⟩)],Value.int .i64 (x.1.2:Int),Value.agg (cellsE x.1.1).toArray,u30,u31,u32,u33,u34,u35,u36,u37,u38,u39,u40,u41,u42,u43,u44,u45,u46,u47,u48,u49,u50,u51,u52,u53,u54,u55,u56,u57,u58,u59,u60,u61],defers:=[]})
   (fun x a' _ W W' row hs hg hr=>by
    obtain ⟨be,h1,h2,h3⟩:=hs
    exact ⟨be,h1,h2.turned hg (fun r e=>(hr r e).2),h3⟩) ?assign ?body ?done ?stop
  case assign =>
   intro l' pre x W K hi hK
   dsimp only [encN]
   have HZ:=hide (RowL.new W 31 [.int .i64 0,.int .i64 0,.string ⟨#[]⟩])
   have hsW:=hi.2.size
   gi_wp2_with (refine wpListIn_plain rfl fun K2 hK2=>?_;refine wpIn_storeW 31 (.tmp 7) (.tmp 29) rfl 3 entw_size W.heap.size 31 rfl [.int .i64 0,.int .i64 0,.string ⟨#[]⟩] (cellsE x.1.1) rfl HZ.out rfl rfl (cellsE_one x.1.1) ?_;intro w3 hr3 hg3 hs3;refine hK2 _ _ ?_;clear hK2 K2;have HB3:=hide (below_stored' hg3);have HR3:=hide hr3;clear hr3 hg3 hs3)
   exact hK _ _ ((kBelow HB3.out).from _) (kpN_below (n:=W.heap.size) (by omega) (by omega) (by omega) (by omega) HB3.out) ⟨hi.1.on HB3.out,hi.2.trans (TurnW.of_below HB3.out)⟩ ⟨W.heap.size,by omega,HR3.out,rfl⟩
  case body =>
   rintro l' pre x a' W hl' - ⟨hw7,hT7⟩ ⟨be,hbe,hre,rfl⟩ hpl
   obtain ⟨S',hS'⟩:∃S',(pre.map (fun x=>x.1)).foldl (oneW y.ino p) st=S':=⟨_,rfl⟩
   have HS2:=hide (show ((pre++[x]).map (fun x=>x.1)).foldl (oneW y.ino p) st=oneW y.ino p S' x.1 from by rw [List.map_append,List.foldl_append,hS'];rfl)
   have hok7:OkW ns S'.1:=by rw [←hS'];exact foldl_keep (P:=fun s:StW=>OkW ns s.1) _ _ hok (fun s z hz hs=>one_ok hs (by obtain ⟨z',_,rfl⟩:=List.mem_map.1 hz;exact dirsOf_dir _ z'.2))
   have htw7:S'.2.length≤1000:=by
    have h1:=fold_tw y.ino p (pre.map (fun x=>x.1)) st
    rw [hS',List.length_map] at h1
    have h2:=dirsOf_len ns (nodAt ns y.ino).ents
    have h3:=nodAt_ents HM.out y.ino
    have:=hok.le
    omega
   have hle7:=hok7.le
   have hix:=isDir_in (dirsOf_dir _ x.2)
   have hi64:i64 x.1.1.ino:=by unfold i64;omega
   rw [hS'] at hw7
   have y0:=hT7.row z0 (by omega) (by omega) (by decide)
   have y1:=hT7.row z1 (by omega) (by omega) (by decide)
   have y5:=hT7.row z5 (by omega) (by omega) (by decide)
   have k1:=hT7.row m1 (by omega) (by omega) (by decide)
   have k2:=hT7.row m2 (by omega) (by omega) (by decide)
   have hs7:=hT7.size
   obtain ⟨A',n',c',A1,n1,c1',A2',n2',c2',-,-,h3,h4,h5,h6,h7⟩:=id hw7
   have q0:W.cell? ⟨w.heap.size,0,none⟩=some (.pointer (some ⟨g,0,none⟩)):=y0.cell 0
   have qe:W.cell? ⟨be,1,none⟩=some (.int .i64 x.1.1.ino):=hre.cell 1
   have qm:W.cell? ⟨g,2,none⟩=some (.map (some b)):=h3.cell 2
   clear hS' hpl
   gi_wp2
   refine ⟨trivial,(CallsIn.inRound l' (callsIn_wide.2 (came_any W qm h6 hi64 rfl))).mono ?_⟩
   rintro e W2 ⟨rfl,hb2⟩
   clear q0 qe qm
   have HT2:=hide (TurnW.of_below (B:=B) (g:=g) (b:=b) hb2)
   have q0:W2.cell? ⟨w.heap.size,0,none⟩=some (.pointer (some ⟨g,0,none⟩)):=(y0.on hb2).cell 0
   have q1:W2.cell? ⟨w.heap.size+1,0,none⟩=some (.int .i64 p):=(y1.on hb2).cell 0
   have q5:W2.cell? ⟨wr.heap.size,0,none⟩=some (.int .i64 y.ino):=(y5.on hb2).cell 0
   have qe1:W2.cell? ⟨be,1,none⟩=some (.int .i64 x.1.1.ino):=(hre.on hb2).cell 1
   have qe2:W2.cell? ⟨be,2,none⟩=some (.string ⟨x.1.1.name.toArray⟩):=(hre.on hb2).cell 2
   have HW2:=hide (hw7.on hb2)
   cases hcm:cameW S'.1 x.1.1.ino with
   | false =>
    have HON:=hide (show oneW y.ino p S' x.1=(S'.1++[⟨x.1.1.ino,p,x.1.1.name⟩],S'.2) from by unfold oneW;rw [hcm];rfl)
    gi_wp2
    refine ⟨trivial,(CallsIn.inRound l' (callsIn_wide.2 (add_any (y:=⟨x.1.1.ino,p,x.1.1.name⟩) W2 HW2.out hi64 (by omega)))).mono ?_⟩
    rintro e W3 ⟨rfl,hw3,hT3⟩
    gi_wp2
    have hTT:=HT2.out.trans hT3
    exact ⟨hTT.keeps (by omega) (by omega),kpN_turn hTT (by omega) hw3.n k1 k2 (by omega) (by omega) (by decide) (by decide),by rw [HS2.out,HON.out];exact hw3,hT7.trans hTT⟩
   | true =>
    have HON:=hide (show oneW y.ino p S' x.1=(S'.1,S'.2++[(y.ino,x.1.2)]) from by unfold oneW;rw [hcm];rfl)
    have hbd:=hb2.trans ((below_drew (below_self W2)).mono hb2.size)
    have H3:=hide (h3.on hbd)
    have H4:=hide (h4.under hbd (by omega))
    have H5:=hide (ownsRow_below h5 hbd)
    have H6:=hide (h6.on hbd)
    have H7:=hide (ownsRow_below h7 hbd)
    have HY0:=hide (y0.on hbd)
    have HY5:=hide (y5.on hbd)
    have HTD:=hide (TurnW.of_below (B:=B) (g:=g) (b:=b) hbd)
    have qt:W2.cell? ⟨g,3,none⟩=some (.slice A2' n2' c2'):=(h3.on hb2).cell 3
    have hn2:n2'≤1000:=by have h8:=h7.1;rw [flatT_len] at h8;omega
    have HAL:=hide (below_new (below_self W2.drew) (.cells (twC (y.ino,x.1.2)).toArray 178))
    have hsd:W.heap.size≤W2.drew.heap.size:=hb2.size
    clear h3 h4 h5 h6 h7 hbd y0 y1 y5 hw7 HT2 HW2 q1 qe1 qe2
    gi_wp2
    refine wpIn_region_planP (fun w'=>w'.cell? ⟨w.heap.size,0,none⟩=some (.pointer (some ⟨g,0,none⟩))∧w'.cell? ⟨wr.heap.size,0,none⟩=some (.int .i64 y.ino)∧w'.cell? ⟨g,3,none⟩=some (.slice A2' n2' c2')) [(0,true),(1,true),(2,true),(3,true),(4,true),(5,true),(6,true),(7,true),(8,false),(9,false),(10,true),(11,true)] 12 (by kernel_rfl) (by kernel_rfl) (by kernel_rfl) (by kernel_rfl) (by kernel_rfl) (by kernel_rfl) rfl (by rintro ⟨_,_,h⟩;exact h) (fun _ _ _ _ _ h=>h) ⟨q0,q5,qt⟩ (fun hHeld=>?_)
    simp only [planOps,List.filterMap_cons,List.filterMap_nil,List.getElem?_toArray,List.getElem?_cons_succ,List.getElem?_cons_zero,Option.map_some]
    iterate 8
     refine wpPlan_take (v:=?_) (by kernel_rfl) (fun wS hSw=>?_) ?_
     rotate_left
     ·(try dsimp only at hSw);go_simp;(try with_reducible rfl)
     (try simp only [Act.put,pu1,pu2,pu3])
    refine wpPlan_call (by kernel_rfl) (fun K hK=>?_)
    have hOld:=hide hHeld
    clear hHeld
    unfold Oper.wp execOp
    have hlit:=lit_nam (y.ino,x.1.2) W2.drew
    unfold twC at hlit
    go_simp
    refine hK.out _ _ (⟨(HY0.out.on HAL.out).cell 0,(HY5.out.on HAL.out).cell 0,(H3.out.on HAL.out).cell 3⟩) (fun hHeld=>?_)
    clear hK K
    (try simp only [Act.put,pu1,pu2,pu3])
    refine wpPlan_call (by kernel_rfl) (fun K hK=>?_)
    have hOld:=hide hHeld
    clear hHeld
    refine wp_appF W2.drew B W2.heap.size rfl (.tmp 38) (.tmp 42) 142 178 rfl Tryz.underlying142 _ 2 16 nam_info rfl (by omega) (by omega) A2' n2' c2' (flatT S'.2) (twC (y.ino,x.1.2)) rfl (by simp [twC,Value.oneCell']) rfl H7.out rfl (by omega) (by omega) ?_
    intro A5 c5 W5 ho5 hg5
    have HO5:=hide ho5
    have HG5:=hide hg5
    clear ho5 hg5
    refine hK.out _ _ (⟨((HY0.out.on HAL.out).grown HG5.out (row_apart (ownsRow_below H7.out HAL.out) (HY0.out.on HAL.out) (by decide))).cell 0,((HY5.out.on HAL.out).grown HG5.out (row_apart (ownsRow_below H7.out HAL.out) (HY5.out.on HAL.out) (by decide))).cell 0,((H3.out.on HAL.out).grown HG5.out (row_apart (ownsRow_below H7.out HAL.out) (H3.out.on HAL.out) (by decide))).cell 3⟩) (fun hHeld=>?_)
    clear hK K
    (try simp only [Act.put,pu1,pu2,pu3])
    iterate 2
     refine wpPlan_take (v:=?_) (by kernel_rfl) (fun wS hSw=>?_) ?_
     rotate_left
     ·(try dsimp only at hSw);go_simp;(try with_reducible rfl)
     (try simp only [Act.put,pu1,pu2,pu3])
    refine wpPlan_end ?_
    refine postL_go rfl (by kernel_rfl) ?_
    have ho1:=ownsRow_below H7.out HAL.out
    have hrg5:=(H3.out.on HAL.out).grown HG5.out (row_apart ho1 (H3.out.on HAL.out) (by decide))
    have hcg:W5.cell? ⟨g,3,none⟩=some (.slice A2' n2' c2'):=hrg5.cell 3
    have hfg:W5.frozen? ⟨g,3,none⟩=false:=hrg5.frozen 3
    obtain ⟨hw5,hT5⟩:=tw_stored (by omega) hBg hBb H3.out H4.out H5.out H6.out H7.out HO5.out HG5.out
    have HW5:=hide hw5
    have HT5:=hide hT5
    clear hHeld ho1 hrg5 hw5 hT5 q0 q5 qt
    unfold Oper.wp execOp
    go_simp
    generalize W5.setCell ⟨g,3,none⟩ (.slice A5 (n2'+1) c5)=W9 at *
    gi_wp2
    have hTT:=HTD.out.trans HT5.out
    exact ⟨hTT.keeps (by omega) (by omega),kpN_turn hTT (by omega) HW5.out.n k1 k2 (by omega) (by omega) (by decide) (by decide),by rw [HS2.out,HON.out];exact HW5.out,hT7.trans hTT⟩
  case done =>
   rintro D ys W hD hys ⟨hw7,hT7⟩ hK
   rw [hys,←visit_at hy] at hw7
   have hok':=visit_ok (p:=p) hok
   have htw':=visit_tw HM.out p st
   have hpl:=(visit_pre (ns:=ns) (p:=p) (s:=st)).length_le
   have hrun':=hrun
   have hpn:p < ns.length:=Nat.lt_of_lt_of_le hp hok.le
   rw [show ns.length - p=(ns.length - (p+1))+1 from by omega] at hrun'
   unfold runW at hrun'
   rw [if_pos hp] at hrun'
   generalize visitW ns p st=S' at *
   have hle':=hok'.le
   have y0:=hT7.row z0 (by omega) (by omega) (by decide)
   have y1:=hT7.row z1 (by omega) (by omega) (by decide)
   have hs7:=hT7.size
   have hmk7:Marks (w.heap.size+2) (D::Ds) W:=(hT7.marks hmk6 (by omega) (by omega)).more (fun D' h'=>by have:=hmlt D' h';omega) (by omega) hK
   obtain ⟨A',n',c',A1,n1,c1',A2',n2',c2',-,-,h3,h4,h5,h6,h7⟩:=id hw7
   have hn1:n1=S'.1.length:=by have h8:=h5.1;rw [flatW_len] at h8;omega
   subst hn1
   have hT8:=hT6.trans hT7
   have q1:W.cell? ⟨w.heap.size+1,0,none⟩=some (.int .i64 p):=y1.cell 0
   have qf:W.frozen? ⟨w.heap.size+1,0,none⟩=false:=y1.frozen 0
   have hwp:IntKind.i64.wrap ((p:Int)+1)=(p:Int)+1:=IntWalk.i64_in _ (by omega)
   have hg9:=grown_cell W (w.heap.size+1) 0 (.int .i64 ((p:Int)+1))
   have hw9:WkS B g b ns S' (W.setCell ⟨w.heap.size+1,0,none⟩ (.int .i64 ((p:Int)+1))):=hw7.turned hg9 (fun k e o ho=>by
    have:=Option.some.inj e
    subst this
    rw [show W.heap[w.heap.size+1]?=_ from y1] at ho
    cases Option.some.inj ho
    exact ⟨by omega,by omega,fun arr t fr e'=>by injection e' with _ e' _;rw [←e'];decide⟩)
   have x0:=y0.grown hg9 (pu5 (by omega))
   have x1:RowL (W.setCell ⟨w.heap.size+1,0,none⟩ (.int .i64 ((p:Int)+1))) (w.heap.size+1) 3 [.int .i64 ((p:Int)+1)]:=y1.set_ 0 _
   have xg:=h3.grown hg9 (pu5 (by omega))
   have hT9:TurnW B g b w (W.setCell ⟨w.heap.size+1,0,none⟩ (.int .i64 ((p:Int)+1))):=⟨hT8.os,hT8.tape,hT8.output,by simpa [World.setCell] using hT8.size,fun k o ho hk=>(hg9.block k (by have:=heap_lt ho;omega) (fun e=>by have:=Option.some.inj e;have:=heap_lt ho;omega)).trans (hT8.kept k o ho hk)⟩
   have hmk9:=hmk7.grown hg9 (fun r e=>by have:=Option.some.inj e;subst this;exact fun hm=>by have:=(hmk7.2 _ hm).1;omega)
   clear hw7 y0 y1 h3 h4 h5 h6 h7 hT7 hT6 hT8 hmk7 hmk6 hg9 hws6 z0 z1 z5 m1 m2
   gi_wp2
   generalize W.setCell ⟨w.heap.size+1,0,none⟩ (.int .i64 ((p:Int)+1))=W9 at *
   refine wpIn_wide.2 (Code.wp_mono noP_le ?_)
   refine wp_region_planN (fun w'=>w'.cell? ⟨w.heap.size,0,none⟩=some (.pointer (some ⟨g,0,none⟩))∧w'.cell? ⟨w.heap.size+1,0,none⟩=some (.int .i64 ((p:Int)+1))∧w'.cell? ⟨g,1,none⟩=some (.slice A1 S'.1.length c1')) [(0,true),(1,true),(2,true),(3,true),(4,true),(5,false)] (by kernel_rfl) (by kernel_rfl) (by kernel_rfl) (by kernel_rfl) rfl (fun _ _ _ _ _ h=>h) ⟨x0.cell 0,x1.cell 0,xg.cell 1⟩ (fun hHeld=>?_)
   simp only [planOps,List.filterMap_cons,List.filterMap_nil,List.getElem?_toArray,List.getElem?_cons_succ,List.getElem?_cons_zero,Option.map_some]
   iterate 5
    refine wpPlan_take (v:=?_) (by kernel_rfl) (fun wS hSw=>?_) ?_
    rotate_left
    ·(try dsimp only at hSw);go_simp;(try with_reducible rfl)
    (try simp only [Act.put,pu1,pu2,pu3])
   refine wpPlan_call (by kernel_rfl) (fun K hK=>?_)
   have hOld:=hide hHeld
   clear hHeld
   go_simp
   go_at_call 112
   refine (there_any (r:=decide (p+1 < S'.1.length)) _ (by rw [Bool.eq_iff_iff];simp;omega)).mono ?_
   rintro e w' ⟨rfl,rfl⟩
   refine hK.out _ _ (hOld.out) (fun hHeld=>?_)
   clear hK K
   (try simp only [Act.put,pu1,pu2,pu3])
   refine wpPlan_end ?_
   clear hHeld
   refine noP_n ?_
   by_cases hlt2:p+1 < S'.1.length
   ·have hdd:decide (p+1 < S'.1.length)=true:=by simpa using hlt2
    gi_wp2
    refine wpIn_goto ?_
    have q9:W9.cell? ⟨w.heap.size+1,0,none⟩=some (.int .i64 ((p:Int)+1)):=x1.cell 0
    have qr:wr.cell? ⟨w.heap.size+1,0,none⟩=some (.int .i64 (p:Int)):=HR1.out.cell 0
    refine ⟨rfl,⟨p+1,D::Ds,S',_,_,_,_,_,_,_,_,_,_,_,_,_,_,_,_,_,_,_,_,_,_,_,_,_,_,_,_,_,_,_,_,_,_,_,_,_,_,_,_,_,_,_,_,_,_,_,_,_,_,_,_,_,_,_,_,_,_,⟨hlt2,hok',by omega,hrun',hw9.on (below_drew (below_self W9)),hT9.trans (TurnW.of_below (below_drew (below_self W9))),x0.drew,x1.drew,hmk9.on (below_drew (below_self W9))⟩,rfl⟩,?_⟩
    have e1:cellN W9.drew (w.heap.size+1)=p+1:=by
     unfold cellN
     rw [show W9.drew.cell? ⟨w.heap.size+1,0,none⟩=_ from q9]
     show ((p:Int)+1).toNat=p+1
     omega
    have e2:cellN wr (w.heap.size+1)=p:=by
     unfold cellN
     rw [qr]
     show (p:Int).toNat=p
     omega
    rw [e1,e2]
    omega
   ·have hdd:decide (p+1 < S'.1.length)=false:=by simpa using hlt2
    gi_wp2
    rw [run_stop hlt2] at hrun'
    subst hrun'
    have hmkd:=hmk9.on (below_drew (below_self W9))
    refine leaves_marks (D::Ds) _ hmkd ?_
    intro W' hu
    refine ⟨.tuple #[],by simp [results,Tryz.results84,go_sem],rfl,?_,?_⟩
    ·refine (hw9.on (below_drew (below_self W9))).same (fun k hk=>hu.2.2.2.2 k (fun hm=>by have:=(hmkd.2 k hm).1;omega)) (fun k o ho hno=>(hu.2.2.2.2 k (hmkd.notin ho hno)).trans ho)
    ·exact ⟨hu.1.trans hT9.os,hu.2.1.trans hT9.tape,hu.2.2.1.trans hT9.output,by rw [hu.2.2.2.1];exact hT9.size,fun k o ho hk=>(hu.2.2.2.2 k (fun hm=>by have:=(hmkd.2 k hm).1;have:=heap_lt ho;omega)).trans (hT9.kept k o ho hk)⟩
  case stop =>
   rintro D c' pre W _ _ h _
   exact h.elim
 case _ =>
  intro FIRST
  have HF:=hide FIRST
  clear FIRST
  obtain ⟨hBg,hgl,hBb,hbl⟩:=HW.out.lt
  obtain ⟨A,n,c,A1,n1,c1,A2,n2,c2,-,-,h3,-,h5,-⟩:=HW.out
  have hn1:n1=s.1.length:=by have h8:=h5.1;rw [flatW_len] at h8;omega
  subst hn1
  have hcg:(w.alloc (.cells #[.pointer (some ⟨g,0,none⟩)] 98)).cell? ⟨g,1,none⟩=some (.slice A1 s.1.length c1):=(h3.on (below_new (below_self w) _)).cell 1
  obtain ⟨r0,r1,hb2,hs2⟩:=rows_set2 w [.pointer (some ⟨g,0,none⟩)] (.int .i64 0) (.int .i64 s.1.length) 98 3
  obtain ⟨W2,hW2⟩:∃W2,((w.alloc (.cells [Value.pointer (some ⟨g,0,none⟩)].toArray 98)).alloc (.cells #[.int .i64 0] 3)).setCell ⟨w.heap.size+1,0,none⟩ (.int .i64 s.1.length)=W2:=⟨_,rfl⟩
  rw [hW2] at r0 r1 hb2 hs2
  have hW2':((w.alloc (.cells #[Value.pointer (some ⟨g,0,none⟩)] 98)).alloc (.cells #[.int .i64 0] 3)).setCell ⟨w.heap.size+1,0,none⟩ (.int .i64 s.1.length)=W2:=hW2
  have hcb:W2.cell? ⟨w.heap.size,0,none⟩=some (.pointer (some ⟨g,0,none⟩)):=r0.cell 0
  clear hW2 h3 h5
  gi_wp2
  refine ⟨trivial,(callsIn_wide.2 (add_any (y:=⟨i,-1,[]⟩) W2 (HW.out.on hb2) (by unfold i64;dsimp only;omega) (by omega))).mono ?_⟩
  rintro e w3 ⟨rfl,hw3,hT3⟩
  gi_wp2
  refine wpIn_label ?_
  rename_i K0 hK0
  refine hK0 _ _ (HF.out _ _ ⟨s.1.length,[],(s.1++[⟨i,-1,[]⟩],s.2),_,_,_,_,_,_,_,_,_,_,_,_,_,_,_,_,_,_,_,_,_,_,_,_,_,_,_,_,_,_,_,_,_,_,_,_,_,_,_,_,_,_,_,_,_,_,_,_,_,_,_,_,_,_,_,_,_,_,⟨by simp,HOK.out.snoc (x:=⟨i,-1,[]⟩) hd hc,htw,hR,hw3,(TurnW.of_below hb2).trans hT3,hT3.row r0 (by omega) (by omega) (by decide),hT3.row r1 (by omega) (by omega) (by decide),Marks.none_ _ _⟩,rfl⟩)
end Go.Proofs.YtpndfahgflgocaaGreatDoor

