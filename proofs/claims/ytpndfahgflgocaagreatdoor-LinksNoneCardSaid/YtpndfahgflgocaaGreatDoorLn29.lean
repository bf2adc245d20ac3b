import Derived.Test.YtpndfahgflgocaaGreatDoorLn28
import Derived.Test.YtpndfahgflgocaaGreatDoorLn26
import Derived.Test.YtpndfahgflgocaaGreatDoorLn20
import Derived.Test.YtpndfahgflgocaaGreatDoorLn27
import Derived.Test.YtpndfahgflgocaaGreatDoorLn10

namespace Go.Proofs.YtpndfahgflgocaaGreatDoor
open Go.RowKit Go.Shelf Plain

def toldK (up:List NodV) (ls:List (List NodV)) (s:StopV) (L:List (List UInt8)):List ShnV:=(L.filter (fun x=>!againS up s.1.1 x)).map (toldX up ls s)
def nextK (up:List NodV) (ls:List (List NodV)) (s:StopV) (L:List (List UInt8)):List StopV:=((L.filter (fun x=>!againS up s.1.1 x)).filter (dirX up ls s.1)).map (nextX up ls s)
theorem told_all (up:List NodV) (ls:List (List NodV)) (s:StopV):toldK up ls s (namesV up ls s.1)=toldS up ls s:=rfl
theorem next_all (up:List NodV) (ls:List (List NodV)) (s:StopV):nextK up ls s (namesV up ls s.1)=nextS up ls s:=rfl
theorem told_succ (up:List NodV) (ls:List (List NodV)) (s:StopV) {L:List (List UInt8)} {j:Nat} {x:List UInt8} (h:L[j]?=some x):toldK up ls s (L.take (j+1))=toldK up ls s (L.take j)++(if againS up s.1.1 x=true then [] else [toldX up ls s x]):=by
  unfold toldK
  rw [List.take_add_one,h,Option.toList_some,List.filter_append,List.map_append]
  congr 1
  cases hA:againS up s.1.1 x <;> simp [hA]
theorem next_succ (up:List NodV) (ls:List (List NodV)) (s:StopV) {L:List (List UInt8)} {j:Nat} {x:List UInt8} (h:L[j]?=some x):nextK up ls s (L.take (j+1))=nextK up ls s (L.take j)++(if againS up s.1.1 x=true then [] else if (stepV up ls s.1 x).1=1 then [nextX up ls s x] else []):=by
  unfold nextK
  rw [List.take_add_one,h,Option.toList_some,List.filter_append,List.filter_append,List.map_append]
  congr 1
  cases hA:againS up s.1.1 x
  · by_cases hd:(stepV up ls s.1 x).1=1 <;> simp [hA,hd,dirX]
  · simp [hA]
theorem path_snoc (l:List (List UInt8)) (x:List UInt8):pathC (l++[x])=pathC l++47::x:=by simp [pathC]
theorem names_right {up:List NodV} {ls:List (List NodV)} (hF:FewL ls) (hup:FewU up) {v:ViewV} {x:List UInt8} (h:x∈namesV up ls v):x.length≤12:=by
  unfold namesV at h
  have h1:=(List.mem_filter.1 h).1
  rw [(sortS_rising _).2] at h1
  unfold allV at h1
  have key:∀(ns:List NodV) (i:Int),(∀y∈ns,PlainN y)→∀e∈entB ns i,e.name.length≤12:=fun ns i hns e he=>by
    have h4:e∈(nodAt ns i).ents:=by
      unfold entB at he
      split at he
      · exact he
      · cases he
    exact (nameB_len ((nodAt_plain hns i).2.2.2.2.2.2 e h4)).2
  rcases List.mem_append.1 h1 with h2|h2
  · unfold namesL at h2
    have h3:=(List.mem_filter.1 h2).1
    rw [(sortS_rising _).2] at h3
    unfold allN at h3
    obtain ⟨p,-,hp⟩:=List.mem_flatMap.1 h3
    obtain ⟨e,he,rfl⟩:=List.mem_map.1 hp
    rw [←ent_lay] at he
    refine key (layL ls p.1) p.2 (fun y hy=>?_) e he
    unfold layL at hy
    first
    | (split at hy
       · rename_i hc
         cases hq:ls[(p.1 - 1).toNat]? with
         | none=>rw [hq] at hy;simp at hy
         | some ns=>rw [hq] at hy;exact (hF.2 ns (List.mem_of_getElem? hq)).2 y (by simpa using hy)
       · cases hy)
  · obtain ⟨e,he,rfl⟩:=List.mem_map.1 h2
    exact key up v.1 hup.2 e he
theorem names_fewS {up:List NodV} {ls:List (List NodV)} {v:ViewV} (hF:FewL ls) (hup:FewU up) (h:v.2.length≤1000):(namesV up ls v).length≤100000:=by
  refine Nat.le_trans (List.length_filter_le _ _) (Nat.le_trans (sortS_length _) ?_)
  unfold allV
  rw [List.length_append,List.length_map]
  have h1:(namesL ls v.2).length≤16*v.2.length:=Nat.le_trans (List.length_filter_le _ _) (Nat.le_trans (sortS_length _) (allN_len hF v.2))
  have h2:=entB_len hup.2 v.1
  omega
theorem TourI.on {w w' : World} {base gT bM cM : Nat} {AS AX : Option Addr} {nS cS nX cX : Nat} {F : Nat → Prop} {g : GeoQ} {U L : Value} {up : List NodV} {ss : List StopV} {told : List ShnV} (h : TourI w base gT bM cM AS nS cS AX nX cX F g U L up ss told) (hb : Below w.heap.size w w') : TourI w' base gT bM cM AS nS cS AX nX cX F g U L up ss told where
  row:=h.row.on hb
  set:=h.set.on hb
  gTb:=h.gTb
  bMb:=h.bMb
  gTM:=h.gTM
  fre:=fun b hF=>⟨Nat.lt_of_lt_of_le (h.fre b hF).1 hb.size,(h.fre b hF).2⟩
  sto:=by
    obtain ⟨raws,h1,h2⟩:=h.sto
    exact ⟨raws,h1.grown (grown_below hb) (by simp),h2.mono (Kept.of_below hb (fun b hF=>(h.fre b hF).1)) (fun _ h=>h)⟩
  tol:=h.tol.grown (grown_below hb) (by simp)
def StpR (w:World) (lo hi:Nat) (A:Option Addr) (n:Nat) (l:List (Int×Int)):Prop:=RdE prEn w (fun b=>lo≤b∧b < hi) A n l∧hi≤w.heap.size
theorem stp_on {w w':World} {lo hi n:Nat} {A:Option Addr} {l:List (Int×Int)} (h:StpR w lo hi A n l) (hb:Below w.heap.size w w'):StpR w' lo hi A n l :=
  ⟨h.1.mono (Kept.of_below hb (fun _ hb2=>Nat.lt_of_lt_of_le hb2.2 h.2)) (fun _ h=>h),Nat.le_trans h.2 hb.size⟩
theorem stp_grown {w w':World} {lo hi n g:Nat} {A:Option Addr} {l:List (Int×Int)} (h:StpR w lo hi A n l) (hg:w.grownBy w' (some g)) (hne:g < lo∨hi≤g):StpR w' lo hi A n l :=
  ⟨h.1.mono (fun b hb=>hg.block b (Nat.lt_of_lt_of_le hb.2 h.2) (fun e=>by have h1:=Option.some.inj e;have h2:=hb.1;have h3:=hb.2;omega)) (fun _ h=>h),Nat.le_trans h.2 hg.size⟩
theorem VStep_r {g:GeoQ} {AU AL:Option Addr} {nU cU nL cL B:Nat} {up:List NodV} {ls:List (List NodV)} {u:Int} {AV:Option Addr} {nV cV BV:Nat} {vl:List (Int×Int)} {nm:List UInt8} {S:StepV} (hS:stepV up ls (u,vl) nm=S) (w:World) (hu:RdE nodEn w (Under B) AU nU up) (h:RdE layEn w (Under B) AL nL ls) (hB:B≤w.heap.size) (hF:FewL ls) (hup:FewX up) (hv:RdE prEn w (Under BV) AV nV vl) (hBV:BV≤w.heap.size) (hnV:nV≤1000):Calls Tryz.prog 102 #[.agg (stkC g (.slice AU nU cU) (.slice AL nL cL)).toArray,.agg (viwC u (.slice AV nV cV)).toArray,.string ⟨nm.toArray⟩] w (fun e w'=>∃A c lo hi,e=.returned (.tuple #[.int .i64 S.1,.agg (viwC S.2.1.1 (.slice A S.2.1.2.length c)).toArray,.agg (prC S.2.2).toArray])∧w.heap.size≤lo∧StpR w' lo hi A S.2.1.2.length S.2.1.2∧Below w.heap.size w w'):=by
  refine (VStep_any hS w hu h hB hF hup hv hBV hnV).mono ?_
  rintro e w' ⟨A,c,rfl,h1,h2⟩
  exact ⟨A,c,w.heap.size,w'.heap.size,rfl,Nat.le_refl _,⟨h1,Nat.le_refl _⟩,h2⟩
theorem TourI.more {w w':World} {base gT bM cM:Nat} {AS AX:Option Addr} {nS cS nX cX:Nat} {F F':Nat→Prop} {g:GeoQ} {U L:Value} {up:List NodV} {ss:List StopV} {told:List ShnV} (h:TourI w base gT bM cM AS nS cS AX nX cX F g U L up ss told) (hb:Below w.heap.size w w') (h1:∀b,F b→F' b) (h2:∀b,F' b→F b∨(w.heap.size≤b∧b < w'.heap.size)):TourI w' base gT bM cM AS nS cS AX nX cX F' g U L up ss told:=by
  have hn:=h.on hb
  have hgT:=h.row.lt
  obtain ⟨o,ho,-⟩:=h.set.obj
  have hbM:bM < w.heap.size:=(Array.getElem?_eq_some_iff.1 ho).1
  have key:∀(A:Option Addr),(∀a,A=some a→a.block < w.heap.size)→(∀b,F b→b < w'.heap.size∧∀a,A=some a→b≠a.block)→∀b,F' b→b < w'.heap.size∧∀a,A=some a→b≠a.block:=fun A hA hF b hb2=>by
    rcases h2 b hb2 with h3|h3
    · exact hF b h3
    · exact ⟨h3.2,fun a ha=>by have:=hA a ha;omega⟩
  refine ⟨hn.row,hn.set,hn.gTb,hn.bMb,hn.gTM,fun b hb2=>?_,?_,?_⟩
  · rcases h2 b hb2 with h3|h3
    · exact hn.fre b h3
    · exact ⟨h3.2,by omega,by omega⟩
  · obtain ⟨raws,k1,k2⟩:=hn.sto
    obtain ⟨raws0,j1,-⟩:=h.sto
    obtain ⟨css,-,-,-,k6⟩:=id k1
    exact ⟨raws,k1.more h1 (key _ j1.lt k6),k2.mono (fun _ _=>rfl) h1⟩
  · have k1:=hn.tol
    obtain ⟨css,-,-,-,k6⟩:=id k1
    exact k1.more h1 (key _ h.tol.lt k6)
theorem lit_str1 (x:List UInt8) (W:World):(Instr.buildSlice 129 1 #[(0,.string ⟨x.toArray⟩)]).run Tryz.prog W=.ok (.slice (some ⟨W.heap.size,0,none⟩) 1 1) (W.alloc (.cells #[.string ⟨x.toArray⟩] 9)):=by
  obtain ⟨it,hi,hz,hsz,-⟩:=info_parts (show (Tryz.prog.info? 9).map (fun i=>(i.zero,i.size,i.bytes))=some (some (.string ⟨#[]⟩),1,16) from by kernel_rfl)
  refine run_buildSlice W _ 9 1 _ _ it (.string ⟨#[]⟩) Tryz.underlying129 hi hz (by omega) (by omega) ?_
  rw [hsz]
  have:=Great.fill_whole (s:=1) (by omega) [.string ⟨x.toArray⟩] ((Array.range (1*1)).map ((Value.string ⟨#[]⟩).cells[· % (Value.string ⟨#[]⟩).cells.size]!)) (by intro v hv;rw [List.mem_singleton] at hv;subst hv;simp [Value.cells]) (by simp)
  simpa [Value.cells] using this
theorem str_row (W:World) (x:List UInt8):Rd st (W.alloc (.cells #[.string ⟨x.toArray⟩] 9)) (W.alloc (.cells #[.string ⟨x.toArray⟩] 9)).heap.size (some ⟨W.heap.size,0,none⟩) 1 [x]:=⟨rfl,fun _=>⟨W.heap.size,0,rfl,by simp,fun i y hy=>by
  have hi:i=0:=by have:=(List.getElem?_eq_some_iff.1 hy).1;simpa using this
  subst hi
  obtain rfl:x=y:=by simpa using hy
  exact (RowL.new W 9 [st x]).cell 0⟩⟩
theorem join_one (x:List UInt8):joinS [x]=47::x:=by simp [joinS,stepJ]
def VisRet (base gT bM cM:Nat) (F:Nat→Prop) (g:GeoQ) (U L:Value) (up:List NodV) (ls:List (List NodV)) (ss:List StopV) (told:List ShnV) (s:StopV) (w:World) (e:Ending) (w':World):Prop:=e=.returned (.tuple #[])∧∃AS nS cS AX nX cX F',TourI w' base gT bM cM AS nS cS AX nX cX F' g U L up (ss++nextS up ls s) (told++toldS up ls s)∧Below base w w'∧∀b,F b→F' b
set_option maxRecDepth 100000 in
set_option maxHeartbeats 16000000 in
theorem Visit_any {g:GeoQ} {AU AL:Option Addr} {nU cU nL cL B base gT bM cM:Nat} {AS AX:Option Addr} {nS cS nX cX:Nat} {F:Nat→Prop} {up:List NodV} {ls:List (List NodV)} {ss:List StopV} {told:List ShnV} {u:Int} {AV:Option Addr} {nV cV:Nat} {vl:List (Int×Int)} {ps:List (List UInt8)} (w:World) (hT:TourI w base gT bM cM AS nS cS AX nX cX F g (.slice AU nU cU) (.slice AL nL cL) up ss told) (hu:RdE nodEn w (Under B) AU nU up) (h:RdE layEn w (Under B) AL nL ls) (hB:B≤base) (hbase:base≤w.heap.size) (hF:FewL ls) (hup:FewU up) (hv:RdE prEn w F AV nV vl) (hnV:nV≤1000) (hui:i64 u) (hpl:(pathC ps).length≤1000000000) (hnS:nS≤1000000) (hnX:nX≤1000000000):Calls Tryz.prog 73 #[.pointer (some ⟨gT,0,none⟩),.agg (rawC (u,(AV,nV,cV),pathC ps)).toArray] w (VisRet base gT bM cM F g (.slice AU nU cU) (.slice AL nL cL) up ls ss told ((u,vl),ps) w):=by
  obtain ⟨W1,hW1⟩:∃W1,(w.alloc (.cells (rawC (u,(AV,nV,cV),pathC ps)).toArray 122))=W1:=⟨_,rfl⟩
  obtain ⟨r0,hb1,hs1⟩:=rowA1 w _ _ hW1
  have hW1':(w.alloc (.cells #[.int .i64 u,.slice AV nV cV,.string ⟨(pathC ps).toArray⟩] 122))=W1:=hW1
  have R3:=hide r0
  have HB:=hide hb1
  have hsz0:=hb1.size
  have RT:=hide (hT.row.on hb1)
  have HU:=hide (hu.under hb1 (by omega))
  have HL:=hide (h.under hb1 (by omega))
  have HF:=hide hF
  have HFU:=hide hup
  have HV:=hide ((hv.mono (fun _ _=>rfl) (fun b hb=>(hT.fre b hb).1):RdE prEn w (Under w.heap.size) AV nV vl).on hb1)
  have HT1:=hide hT
  have HV1:=hide hv
  have hgT:=hT.row.lt
  have hs1':w.heap.size+1≤W1.heap.size:=by omega
  unfold rawC
  clear r0 hb1 hW1 hu h hF hup hT hs1 hv
  go_enter Tryz.func73,Tryz.ntmps73
  go_wp2_with fail
  go_step3
  go_wp2_with fail
  go_step3
  go_wp2_with fail
  refine wp_region_planN (fun w'=>Below W1.heap.size W1 w') [(0,true),(1,true),(2,true),(3,true),(4,true),(5,true),(8,true),(6,false),(7,true)] (by kernel_rfl) (by kernel_rfl) (by kernel_rfl) (by kernel_rfl) rfl (fun _ _ _ _ _ h=>h) (below_drew (below_self W1)) (fun hHeld=>?_)
  simp only [planOps,List.filterMap_cons,List.filterMap_nil,List.getElem?_toArray,List.getElem?_cons_succ,List.getElem?_cons_zero,Option.map_some]
  iterate 3
   refine wpPlan_take (v:=?_) (by kernel_rfl) (fun wS hSw=>?_) ?_
   rotate_left
   · (try dsimp only at hSw);go_simp;(try with_reducible rfl)
   (try simp only [Act.put,pu1,pu2,pu3])
  refine wpPlan_take (v:=?_) (by kernel_rfl) (fun wS hSw=>?_) ?_
  rotate_left
  · refine execOp_load (x:=.tmp 12) (k:=6) (g:=gT) (off:=0) (cs:=(stkC g (.slice AU nU cU) (.slice AL nL cL))) ?_ stk_agg stk_size ?_ (fun j v hv=>((RT.out.on hSw).cell (0+j)).trans (sub_cell (cur:=(touC g (.slice AU nU cU) (.slice AL nL cL) (.map (some bM)) (.slice AS nS cS) (.slice AX nX cX))) (k:=6) rfl hv)) rfl <;> rfl
  (try simp only [Act.put,pu1,pu2,pu3])
  refine wpPlan_take (v:=?_) (by kernel_rfl) (fun wS hSw=>?_) ?_
  rotate_left
  · (try dsimp only at hSw);go_simp;(try with_reducible rfl)
  (try simp only [Act.put,pu1,pu2,pu3])
  refine wpPlan_take (v:=?_) (by kernel_rfl) (fun wS hSw=>?_) ?_
  rotate_left
  · refine execOp_load (x:=.tmp 14) (k:=2) (g:=w.heap.size) (off:=0) (cs:=(viwC u (.slice AV nV cV))) ?_ viw_agg viw_size ?_ (fun j v hv=>((R3.out.on hSw).cell (0+j)).trans (sub_cell (cur:=(rawC (u,(AV,nV,cV),pathC ps))) (k:=2) rfl hv)) rfl <;> rfl
  (try simp only [Act.put,pu1,pu2,pu3])
  refine wpPlan_take (v:=?_) (by kernel_rfl) (fun wS hSw=>?_) ?_
  rotate_left
  · (try dsimp only at hSw);go_simp;(try with_reducible rfl)
  (try simp only [Act.put,pu1,pu2,pu3])
  refine wpPlan_call (by kernel_rfl) (fun K hK=>?_)
  have hOld:=hide hHeld
  clear hHeld
  go_simp
  go_at_call 100
  refine (VNames_any (u:=u) (vl:=vl) _ (HU.out.under hOld.out (by omega)) (HL.out.under hOld.out (by omega)) (by have:=hOld.out.size;omega) HF.out HFU.out.toX (HV.out.under hOld.out (Nat.le_refl _)) (by have:=hOld.out.size;omega) hnV).mono ?_
  rintro e w' ⟨AN,nN,cN,rfl,hnn,hbel⟩
  have HN:=hide hnn
  have HNB:=hide hOld.out
  clear hnn
  refine hK.out _ _ (hOld.out.trans (hbel.mono hOld.out.size)) (fun hHeld=>?_)
  clear hK K
  (try simp only [Act.put,pu1,pu2,pu3])
  refine wpPlan_take (v:=?_) (by kernel_rfl) (fun wS hSw=>?_) ?_
  rotate_left
  · (try dsimp only at hSw);go_simp;(try with_reducible rfl)
  (try simp only [Act.put,pu1,pu2,pu3])
  refine wpPlan_end ?_
  have HBN:=hide hHeld
  clear hHeld HNB
  rename World=>wN
  have hszN:=HBN.out.size
  have hN1:(namesV up ls (u,vl)).length=nN:=HN.out.rd.len
  have hNL:nN≤100000:=by rw [←hN1];exact names_fewS HF.out HFU.out (by have:=HV1.out.1;show vl.length≤1000;omega)
  have HTN:=hide (((HT1.out.more (F':=fun b=>F b∨b=w.heap.size) HB.out (fun _ h=>.inl h) (fun b hb=>hb.imp id (fun e=>by subst e;exact ⟨Nat.le_refl _,hs1'⟩)))).on HBN.out)
  have R3N:=hide (R3.out.on HBN.out)
  have HUN:=hide (und_at HU.out HBN.out (by omega))
  have HLN:=hide (und_at HL.out HBN.out (by omega))
  have HVN:=hide ((HV1.out.mono (Kept.of_below (HB.out.trans (HBN.out.mono HB.out.size)) (fun b hb=>(HT1.out.fre b hb).1)) (fun _ h=>h)):RdE prEn wN F AV nV vl)
  have HNN:=hide (show Ow st wN W1.heap.size 9 AN nN cN (namesV up ls (u,vl)) from HN.out)
  have HBW:=hide (HB.out.trans (HBN.out.mono HB.out.size))
  clear HN RT R3 HU HL HV hW1'
  go_wp2_with fail
  go_loopw [18] (fun v18 wr=>∃(j:Nat) (AS':Option Addr) (nS' cS':Nat) (AX':Option Addr) (nX' cX':Nat) (F':Nat→Prop),j≤nN∧v18=.int .i64 j∧TourI wr base gT bM cM AS' nS' cS' AX' nX' cX' F' g (.slice AU nU cU) (.slice AL nL cL) up (ss++nextK up ls ((u,vl),ps) ((namesV up ls (u,vl)).take j)) (told++toldK up ls ((u,vl),ps) ((namesV up ls (u,vl)).take j))∧(∀b,F b∨b=w.heap.size→F' b)∧nS'≤nS+j∧nX'≤nX+j∧Ow st wr W1.heap.size 9 AN nN cN (namesV up ls (u,vl))∧RowL wr w.heap.size 122 (rawC (u,(AV,nV,cV),pathC ps))∧RdE prEn wr F AV nV vl∧Below base wN wr) (fun v18 _=>nN - (intOf v18).toNat)
  case atStart=>exact ⟨0,AS,nS,cS,AX,nX,cX,(fun b=>F b∨b=w.heap.size),by omega,rfl,by rw [show nextK up ls ((u,vl),ps) ((namesV up ls (u,vl)).take 0)=[] from rfl,show toldK up ls ((u,vl),ps) ((namesV up ls (u,vl)).take 0)=[] from rfl,List.append_nil,List.append_nil];exact HTN.out,fun _ h=>h,by omega,by omega,HNN.out,R3N.out,HVN.out,Below.refl _ _⟩
  case round =>
    obtain ⟨j,AS',nS',cS',AX',nX',cX',F',hj,rfl,ht,hFF,hns,hnx,hnn,hr3,hvr,hbr⟩:=hrel
    have hbsz:=hbr.size
    have HTr:=hide ht
    have HFF:=hide hFF
    have HNr:=hide hnn
    have R3r:=hide hr3
    have HVr:=hide hvr
    have HBR:=hide hbr
    have HUr:=hide (HUN.out.mono (w':=wr) (Kept.of_below hbr (fun b hb=>by have h1:b < B:=hb;omega)) (fun _ h=>h))
    have HLr:=hide (HLN.out.mono (w':=wr) (Kept.of_below hbr (fun b hb=>by have h1:b < B:=hb;omega)) (fun _ h=>h))
    clear ht hFF hnn hr3 hvr hbr
    by_cases hlt:j < nN
    · obtain ⟨x,hx⟩:∃x,(namesV up ls (u,vl))[j]?=some x:=⟨_,List.getElem?_eq_getElem (by omega)⟩
      have hxl:=names_right HF.out HFU.out (List.mem_of_getElem? hx)
      have HTS:=hide (told_succ up ls ((u,vl),ps) hx)
      have HNS:=hide (next_succ up ls ((u,vl),ps) hx)
      obtain ⟨bN,oN,hAN,hbN,hcN⟩:=HNr.out.rd.2 (by omega)
      subst hAN
      have qx:wr.cell? ⟨bN,oN+j,none⟩=some (.string ⟨x.toArray⟩):=hcN j x hx
      have qu:wr.cell? ⟨w.heap.size,0,none⟩=some (.int .i64 u):=R3r.out.cell 0
      have hjn:(j:Int) < (nN:Int):=by omega
      obtain ⟨r,hr⟩:∃r,againS up u x=r:=⟨_,rfl⟩
      have HA:=hide hr
      clear hx hcN hr
      go_wp2_with fail
      refine (Again_any HA.out wr HTr.out.row HTr.out.set HUr.out (by omega) HFU.out hui).mono ?_
      rintro e1 wA ⟨rfl,hbel⟩
      have HTA:=hide (HTr.out.on hbel)
      have HNA:=hide (HNr.out.below hbel)
      have R3A:=hide (R3r.out.on hbel)
      have HVA:=hide (HVr.out.mono (w':=wA) (Kept.of_below hbel (fun b hb=>(HTr.out.fre b (HFF.out b (.inl hb))).1)) (fun _ h=>h))
      have HBA:=hide (HBR.out.trans (hbel.mono (by omega)))
      have HUA:=hide (und_at HUr.out hbel (by omega))
      have HLA:=hide (und_at HLr.out hbel (by omega))
      have hszA:=hbel.size
      clear hbel qx qu HTr HNr R3r HVr HBR HUr HLr
      cases r
      rotate_left
      · go_wp2_with fail
        go_roundw
        case rel=>exact ⟨j+1,AS',nS',cS',AX',nX',cX',F',by omega,by go_num,by rw [HNS.out,HTS.out,if_pos HA.out,if_pos HA.out,List.append_nil,List.append_nil];exact HTA.out,HFF.out,by omega,by omega,HNA.out,R3A.out,HVA.out,HBA.out⟩
        case measure=>simp [intOf];omega
      · obtain ⟨S,hS⟩:∃S,stepV up ls (u,vl) x=S:=⟨_,rfl⟩
        have HSV:=hide hS
        clear hS
        go_upto_region 5 with fail
        go_cut [6,7,8] from 28 to 39 (fun v6 v7 v8 wx=>∃(g7 g8:Nat) (A2:Option Addr) (c2 lo hi:Nat),v6=.int .i64 S.1∧v7=.pointer (some ⟨g7,0,none⟩)∧v8=.pointer (some ⟨g8,0,none⟩)∧wA.heap.size≤lo∧StpR wx lo hi A2 S.2.1.2.length S.2.1.2∧RowL wx g7 120 (viwC S.2.1.1 (.slice A2 S.2.1.2.length c2))∧RowL wx g8 75 (prC S.2.2)∧Below wA.heap.size wA wx)
        case first =>
          refine wp_region_G (fun w'=>Below (wA.heap.size) wA w') (.take 0 (.take 1 (.take 2 (.take 3 (.take 4 (.take 5 (.take 6 (.alt 7 (.take 8 (.take 9 (.take 10 (.take 11 (.alt 12 (.alt 13 (.take 14 (.alt 15 (.alt 16 .leaf .stop) .stop)) .stop) (.alt 13 (.alt 12 (.take 14 (.alt 15 (.alt 16 .leaf .stop) .stop)) .stop) .stop)))))) (.alt 12 (.alt 7 (.take 8 (.take 9 (.take 10 (.take 11 (.alt 13 (.take 14 (.alt 15 (.alt 16 .leaf .stop) .stop)) .stop))))) (.alt 13 (.alt 7 (.take 8 (.take 9 (.take 10 (.take 11 (.take 14 (.alt 15 (.alt 16 .leaf .stop) .stop)))))) .stop) .stop)) (.alt 13 (.alt 7 (.take 8 (.take 9 (.take 10 (.take 11 (.alt 12 (.take 14 (.alt 15 (.alt 16 .leaf .stop) .stop)) .stop))))) (.alt 12 (.alt 7 (.take 8 (.take 9 (.take 10 (.take 11 (.take 14 (.alt 15 (.alt 16 .leaf .stop) .stop)))))) .stop) .stop)) .stop)))))))))) (by kernel_rfl) (by kernel_rfl) (by kernel_rfl) (by kernel_rfl) rfl (fun _ _ _ _ _ h=>h) (below_drew (below_self wA)) (fun hHeld=>?_)
          generalize wA.drew=wd at *
          simp only [PT.map,List.getElem?_toArray,List.getElem?_cons_succ,List.getElem?_cons_zero]
          iterate 3
           refine wpPT_take (v:=?_) (by kernel_rfl) (fun wS hSw=>?_) ?_
           rotate_left
           · (try dsimp only at hSw);go_simp;(try with_reducible rfl)
           (try simp only [Act.put,pu1,pu2,pu3])
          refine wpPT_take (v:=?_) (by kernel_rfl) (fun wS hSw=>?_) ?_
          rotate_left
          · refine execOp_load (x:=.tmp 31) (k:=6) (g:=gT) (off:=0) (cs:=(stkC g (.slice AU nU cU) (.slice AL nL cL))) ?_ stk_agg stk_size ?_ (fun j v hv=>((HTA.out.row.on hSw).cell (0+j)).trans (sub_cell (cur:=(touC g (.slice AU nU cU) (.slice AL nL cL) (.map (some bM)) (.slice AS' nS' cS') (.slice AX' nX' cX'))) (k:=6) rfl hv)) rfl <;> rfl
          (try simp only [Act.put,pu1,pu2,pu3])
          refine wpPT_take (v:=?_) (by kernel_rfl) (fun wS hSw=>?_) ?_
          rotate_left
          · (try dsimp only at hSw);go_simp;(try with_reducible rfl)
          (try simp only [Act.put,pu1,pu2,pu3])
          refine wpPT_take (v:=?_) (by kernel_rfl) (fun wS hSw=>?_) ?_
          rotate_left
          · refine execOp_load (x:=.tmp 33) (k:=2) (g:=w.heap.size) (off:=0) (cs:=(viwC u (.slice AV nV cV))) ?_ viw_agg viw_size ?_ (fun j v hv=>((R3A.out.on hSw).cell (0+j)).trans (sub_cell (cur:=(rawC (u,(AV,nV,cV),pathC ps))) (k:=2) rfl hv)) rfl <;> rfl
          (try simp only [Act.put,pu1,pu2,pu3])
          refine wpPT_take (v:=?_) (by kernel_rfl) (fun wS hSw=>?_) ?_
          rotate_left
          · (try dsimp only at hSw);go_simp;(try with_reducible rfl)
          (try simp only [Act.put,pu1,pu2,pu3])
          refine wpPT_alt (by kernel_rfl) (fun K hK=>?_) ?_
          · skip
            have hOld:=hide hHeld
            clear hHeld
            go_simp
            go_at_call 102
            refine (VStep_r (u:=u) (cV:=cV) (BV:=wA.heap.size) HSV.out _ (HUA.out.under hOld.out (by omega)) (HLA.out.under hOld.out (by omega)) (by have:=hOld.out.size;omega) HF.out HFU.out.toX (HVA.out.mono (Kept.of_below hOld.out (fun b hb=>(HTA.out.fre b (HFF.out b (.inl hb))).1)) (fun b hb=>(HTA.out.fre b (HFF.out b (.inl hb))).1)) hOld.out.size hnV).mono ?_
            rintro e w' ⟨A2,c2,lo,hi,rfl,hlo,hr5,hbel⟩
            have hb':=hbel.mono (B':=wA.heap.size) (by have:=hOld.out.size;omega)
            (try have hgl7:=R7.out.lt)
            (try have hgl8:=R8.out.lt)
            have HSP:=hide hr5
            have hhi:=hr5.2
            have hlo':wA.heap.size≤lo:=by have:=hOld.out.size;omega
            clear hr5
            clear hbel
            refine hK.out _ _ (hOld.out.trans hb') (fun hHeld=>?_)
            clear hK K
            (try simp only [Act.put,pu1,pu2,pu3])
            iterate 4
             refine wpPT_take (v:=?_) (by kernel_rfl) (fun wS hSw=>?_) ?_
             rotate_left
             · (try dsimp only at hSw);go_simp;(try with_reducible rfl)
             (try simp only [Act.put,pu1,pu2,pu3])
            refine wpPT_alt (by kernel_rfl) (fun K hK=>?_) ?_
            · skip
              have hOld:=hide hHeld
              clear hHeld
              unfold Oper.wp execOp
              go_simp
              have hal:=below_new (below_self w') (.cells #[.int .i64 0,.slice none 0 0] 120)
              have hb':=hal.mono (B':=wA.heap.size) (by have:=hOld.out.size;omega)
              have HFN:=hide (show RowL (w'.alloc (.cells #[.int .i64 0,.slice none 0 0] 120)) w'.heap.size 120 (viwC 0 (.slice none 0 0)) from RowL.new w' 120 (viwC 0 (.slice none 0 0)))
              have g7l:wA.heap.size≤w'.heap.size:=hOld.out.size
              refine hK.out _ _ (hOld.out.trans hb') (fun hHeld=>?_)
              clear hK K
              have HSP':=hide (stp_on HSP.out hal)
              clear HSP
              have HSP:=HSP'
              clear HSP'
              have R7:=HFN
              clear hal hb' hOld HFN
              generalize w'.alloc (.cells #[.int .i64 0,.slice none 0 0] 120)=z1 at *
              generalize w'.heap.size=g7 at *
              (try simp only [Act.put,pu1,pu2,pu3])
              refine wpPT_alt (by kernel_rfl) (fun K hK=>?_) ?_
              rotate_left
              · exact wpPT_stop
              have hOld:=hide hHeld
              clear hHeld
              unfold Oper.wp execOp
              go_simp
              have hal:=below_new (below_self z1) (.cells #[.int .i64 0,.int .i64 0] 75)
              have hb':=hal.mono (B':=wA.heap.size) (by have:=hOld.out.size;omega)
              have HFN:=hide (show RowL (z1.alloc (.cells #[.int .i64 0,.int .i64 0] 75)) z1.heap.size 75 (prC (0,0)) from RowL.new z1 75 (prC (0,0)))
              have g8l:wA.heap.size≤z1.heap.size:=hOld.out.size
              have g7ng8:g7 < z1.heap.size:=R7.out.lt
              refine hK.out _ _ (hOld.out.trans hb') (fun hHeld=>?_)
              clear hK K
              have HSP':=hide (stp_on HSP.out hal)
              clear HSP
              have HSP:=HSP'
              clear HSP'
              have R7':=hide (R7.out.on hal)
              clear R7
              have R7:=R7'
              clear R7'
              have R8:=HFN
              clear hal hb' hOld HFN
              generalize z1.alloc (.cells #[.int .i64 0,.int .i64 0] 75)=z2 at *
              generalize z1.heap.size=g8 at *
              (try simp only [Act.put,pu1,pu2,pu3])
              refine wpPT_take (v:=?_) (by kernel_rfl) (fun wS hSw=>?_) ?_
              rotate_left
              · (try dsimp only at hSw);go_simp;(try with_reducible rfl)
              (try simp only [Act.put,pu1,pu2,pu3])
              refine wpPT_alt (by kernel_rfl) (fun K hK=>?_) ?_
              rotate_left
              · exact wpPT_stop
              have hOld:=hide hHeld
              clear hHeld
              refine wp_storeC 120 (.tmp 7) (.tmp 38) rfl 2 viw_size g7 0 120 rfl (viwC 0 (.slice none 0 0)) (viwC S.2.1.1 (.slice A2 S.2.1.2.length c2)) rfl R7.out rfl (by exact Nat.le_refl _) (viwC_one _ _ _ _) ?_
              intro w' hr' hg' hs'
              rw [splice_all (viwC 0 (.slice none 0 0)) (viwC S.2.1.1 (.slice A2 S.2.1.2.length c2)) rfl] at hr'
              refine hK.out _ _ (hOld.out.grown hg' (by have:=hOld.out.size;omega) (pu4 (by omega))) (fun hHeld=>?_)
              clear hK K
              have HSP':=hide (stp_grown HSP.out hg' (by first|omega|(have:=hOld.out.size;omega)))
              clear HSP
              have HSP:=HSP'
              clear HSP'
              have R8':=hide (R8.out.grown hg' (pu5 (by omega)))
              clear R8
              have R8:=R8'
              clear R8'
              clear R7
              have R7:=hide hr'
              clear hg' hs' hr' hOld
              (try simp only [Act.put])
              refine wpPT_alt (by kernel_rfl) (fun K hK=>?_) ?_
              rotate_left
              · exact wpPT_stop
              have hOld:=hide hHeld
              clear hHeld
              refine wp_storeC 75 (.tmp 8) (.tmp 39) rfl 2 plc_size g8 0 75 rfl (prC (0,0)) (prC S.2.2) rfl R8.out rfl (by exact Nat.le_refl _) (prC_one _) ?_
              intro w' hr' hg' hs'
              rw [splice_all (prC (0,0)) (prC S.2.2) rfl] at hr'
              refine hK.out _ _ (hOld.out.grown hg' (by have:=hOld.out.size;omega) (pu4 (by omega))) (fun hHeld=>?_)
              clear hK K
              have HSP':=hide (stp_grown HSP.out hg' (by first|omega|(have:=hOld.out.size;omega)))
              clear HSP
              have HSP:=HSP'
              clear HSP'
              have R7':=hide (R7.out.grown hg' (pu5 (by omega)))
              clear R7
              have R7:=R7'
              clear R7'
              clear R8
              have R8:=hide hr'
              clear hg' hs' hr' hOld
              (try simp only [Act.put])
              refine wpPT_leaf ?_
              have HBX:=hide hHeld
              clear hHeld
              go_wp2_with fail
              go_meet
              case rel=>exact ⟨_,_,_,_,_,_,rfl,rfl,rfl,hlo',HSP.out,R7.out,R8.out,HBX.out⟩
            refine wpPT_alt (by kernel_rfl) (fun K hK=>?_) ?_
            · skip
              have hOld:=hide hHeld
              clear hHeld
              unfold Oper.wp execOp
              go_simp
              have hal:=below_new (below_self w') (.cells #[.int .i64 0,.int .i64 0] 75)
              have hb':=hal.mono (B':=wA.heap.size) (by have:=hOld.out.size;omega)
              have HFN:=hide (show RowL (w'.alloc (.cells #[.int .i64 0,.int .i64 0] 75)) w'.heap.size 75 (prC (0,0)) from RowL.new w' 75 (prC (0,0)))
              have g8l:wA.heap.size≤w'.heap.size:=hOld.out.size
              refine hK.out _ _ (hOld.out.trans hb') (fun hHeld=>?_)
              clear hK K
              have HSP':=hide (stp_on HSP.out hal)
              clear HSP
              have HSP:=HSP'
              clear HSP'
              have R8:=HFN
              clear hal hb' hOld HFN
              generalize w'.alloc (.cells #[.int .i64 0,.int .i64 0] 75)=z1 at *
              generalize w'.heap.size=g8 at *
              (try simp only [Act.put,pu1,pu2,pu3])
              refine wpPT_alt (by kernel_rfl) (fun K hK=>?_) ?_
              rotate_left
              · exact wpPT_stop
              have hOld:=hide hHeld
              clear hHeld
              unfold Oper.wp execOp
              go_simp
              have hal:=below_new (below_self z1) (.cells #[.int .i64 0,.slice none 0 0] 120)
              have hb':=hal.mono (B':=wA.heap.size) (by have:=hOld.out.size;omega)
              have HFN:=hide (show RowL (z1.alloc (.cells #[.int .i64 0,.slice none 0 0] 120)) z1.heap.size 120 (viwC 0 (.slice none 0 0)) from RowL.new z1 120 (viwC 0 (.slice none 0 0)))
              have g7l:wA.heap.size≤z1.heap.size:=hOld.out.size
              have g8ng7:g8 < z1.heap.size:=R8.out.lt
              refine hK.out _ _ (hOld.out.trans hb') (fun hHeld=>?_)
              clear hK K
              have HSP':=hide (stp_on HSP.out hal)
              clear HSP
              have HSP:=HSP'
              clear HSP'
              have R8':=hide (R8.out.on hal)
              clear R8
              have R8:=R8'
              clear R8'
              have R7:=HFN
              clear hal hb' hOld HFN
              generalize z1.alloc (.cells #[.int .i64 0,.slice none 0 0] 120)=z2 at *
              generalize z1.heap.size=g7 at *
              (try simp only [Act.put,pu1,pu2,pu3])
              refine wpPT_take (v:=?_) (by kernel_rfl) (fun wS hSw=>?_) ?_
              rotate_left
              · (try dsimp only at hSw);go_simp;(try with_reducible rfl)
              (try simp only [Act.put,pu1,pu2,pu3])
              refine wpPT_alt (by kernel_rfl) (fun K hK=>?_) ?_
              rotate_left
              · exact wpPT_stop
              have hOld:=hide hHeld
              clear hHeld
              refine wp_storeC 120 (.tmp 7) (.tmp 38) rfl 2 viw_size g7 0 120 rfl (viwC 0 (.slice none 0 0)) (viwC S.2.1.1 (.slice A2 S.2.1.2.length c2)) rfl R7.out rfl (by exact Nat.le_refl _) (viwC_one _ _ _ _) ?_
              intro w' hr' hg' hs'
              rw [splice_all (viwC 0 (.slice none 0 0)) (viwC S.2.1.1 (.slice A2 S.2.1.2.length c2)) rfl] at hr'
              refine hK.out _ _ (hOld.out.grown hg' (by have:=hOld.out.size;omega) (pu4 (by omega))) (fun hHeld=>?_)
              clear hK K
              have HSP':=hide (stp_grown HSP.out hg' (by first|omega|(have:=hOld.out.size;omega)))
              clear HSP
              have HSP:=HSP'
              clear HSP'
              have R8':=hide (R8.out.grown hg' (pu5 (by omega)))
              clear R8
              have R8:=R8'
              clear R8'
              clear R7
              have R7:=hide hr'
              clear hg' hs' hr' hOld
              (try simp only [Act.put])
              refine wpPT_alt (by kernel_rfl) (fun K hK=>?_) ?_
              rotate_left
              · exact wpPT_stop
              have hOld:=hide hHeld
              clear hHeld
              refine wp_storeC 75 (.tmp 8) (.tmp 39) rfl 2 plc_size g8 0 75 rfl (prC (0,0)) (prC S.2.2) rfl R8.out rfl (by exact Nat.le_refl _) (prC_one _) ?_
              intro w' hr' hg' hs'
              rw [splice_all (prC (0,0)) (prC S.2.2) rfl] at hr'
              refine hK.out _ _ (hOld.out.grown hg' (by have:=hOld.out.size;omega) (pu4 (by omega))) (fun hHeld=>?_)
              clear hK K
              have HSP':=hide (stp_grown HSP.out hg' (by first|omega|(have:=hOld.out.size;omega)))
              clear HSP
              have HSP:=HSP'
              clear HSP'
              have R7':=hide (R7.out.grown hg' (pu5 (by omega)))
              clear R7
              have R7:=R7'
              clear R7'
              clear R8
              have R8:=hide hr'
              clear hg' hs' hr' hOld
              (try simp only [Act.put])
              refine wpPT_leaf ?_
              have HBX:=hide hHeld
              clear hHeld
              go_wp2_with fail
              go_meet
              case rel=>exact ⟨_,_,_,_,_,_,rfl,rfl,rfl,hlo',HSP.out,R7.out,R8.out,HBX.out⟩
            exact wpPT_stop
          refine wpPT_alt (by kernel_rfl) (fun K hK=>?_) ?_
          · skip
            have hOld:=hide hHeld
            clear hHeld
            unfold Oper.wp execOp
            go_simp
            have hal:=below_new (below_self wd) (.cells #[.int .i64 0,.slice none 0 0] 120)
            have hb':=hal.mono (B':=wA.heap.size) (by have:=hOld.out.size;omega)
            have HFN:=hide (show RowL (wd.alloc (.cells #[.int .i64 0,.slice none 0 0] 120)) wd.heap.size 120 (viwC 0 (.slice none 0 0)) from RowL.new wd 120 (viwC 0 (.slice none 0 0)))
            have g7l:wA.heap.size≤wd.heap.size:=hOld.out.size
            refine hK.out _ _ (hOld.out.trans hb') (fun hHeld=>?_)
            clear hK K
            have R7:=HFN
            clear hal hb' hOld HFN
            generalize wd.alloc (.cells #[.int .i64 0,.slice none 0 0] 120)=z0 at *
            generalize wd.heap.size=g7 at *
            (try simp only [Act.put,pu1,pu2,pu3])
            refine wpPT_alt (by kernel_rfl) (fun K hK=>?_) ?_
            · skip
              have hOld:=hide hHeld
              clear hHeld
              go_simp
              go_at_call 102
              refine (VStep_r (u:=u) (cV:=cV) (BV:=wA.heap.size) HSV.out _ (HUA.out.under hOld.out (by omega)) (HLA.out.under hOld.out (by omega)) (by have:=hOld.out.size;omega) HF.out HFU.out.toX (HVA.out.mono (Kept.of_below hOld.out (fun b hb=>(HTA.out.fre b (HFF.out b (.inl hb))).1)) (fun b hb=>(HTA.out.fre b (HFF.out b (.inl hb))).1)) hOld.out.size hnV).mono ?_
              rintro e w' ⟨A2,c2,lo,hi,rfl,hlo,hr5,hbel⟩
              have hb':=hbel.mono (B':=wA.heap.size) (by have:=hOld.out.size;omega)
              (try have hgl7:=R7.out.lt)
              (try have hgl8:=R8.out.lt)
              have HSP:=hide hr5
              have hhi:=hr5.2
              have hlo':wA.heap.size≤lo:=by have:=hOld.out.size;omega
              clear hr5
              have R7':=hide (R7.out.on hbel)
              clear R7
              have R7:=R7'
              clear R7'
              clear hbel
              refine hK.out _ _ (hOld.out.trans hb') (fun hHeld=>?_)
              clear hK K
              (try simp only [Act.put,pu1,pu2,pu3])
              iterate 4
               refine wpPT_take (v:=?_) (by kernel_rfl) (fun wS hSw=>?_) ?_
               rotate_left
               · (try dsimp only at hSw);go_simp;(try with_reducible rfl)
               (try simp only [Act.put,pu1,pu2,pu3])
              refine wpPT_alt (by kernel_rfl) (fun K hK=>?_) ?_
              rotate_left
              · exact wpPT_stop
              have hOld:=hide hHeld
              clear hHeld
              unfold Oper.wp execOp
              go_simp
              have hal:=below_new (below_self w') (.cells #[.int .i64 0,.int .i64 0] 75)
              have hb':=hal.mono (B':=wA.heap.size) (by have:=hOld.out.size;omega)
              have HFN:=hide (show RowL (w'.alloc (.cells #[.int .i64 0,.int .i64 0] 75)) w'.heap.size 75 (prC (0,0)) from RowL.new w' 75 (prC (0,0)))
              have g8l:wA.heap.size≤w'.heap.size:=hOld.out.size
              have g7ng8:g7 < w'.heap.size:=R7.out.lt
              refine hK.out _ _ (hOld.out.trans hb') (fun hHeld=>?_)
              clear hK K
              have R7':=hide (R7.out.on hal)
              clear R7
              have R7:=R7'
              clear R7'
              have HSP':=hide (stp_on HSP.out hal)
              clear HSP
              have HSP:=HSP'
              clear HSP'
              have R8:=HFN
              clear hal hb' hOld HFN
              generalize w'.alloc (.cells #[.int .i64 0,.int .i64 0] 75)=z2 at *
              generalize w'.heap.size=g8 at *
              (try simp only [Act.put,pu1,pu2,pu3])
              refine wpPT_take (v:=?_) (by kernel_rfl) (fun wS hSw=>?_) ?_
              rotate_left
              · (try dsimp only at hSw);go_simp;(try with_reducible rfl)
              (try simp only [Act.put,pu1,pu2,pu3])
              refine wpPT_alt (by kernel_rfl) (fun K hK=>?_) ?_
              rotate_left
              · exact wpPT_stop
              have hOld:=hide hHeld
              clear hHeld
              refine wp_storeC 120 (.tmp 7) (.tmp 38) rfl 2 viw_size g7 0 120 rfl (viwC 0 (.slice none 0 0)) (viwC S.2.1.1 (.slice A2 S.2.1.2.length c2)) rfl R7.out rfl (by exact Nat.le_refl _) (viwC_one _ _ _ _) ?_
              intro w' hr' hg' hs'
              rw [splice_all (viwC 0 (.slice none 0 0)) (viwC S.2.1.1 (.slice A2 S.2.1.2.length c2)) rfl] at hr'
              refine hK.out _ _ (hOld.out.grown hg' (by have:=hOld.out.size;omega) (pu4 (by omega))) (fun hHeld=>?_)
              clear hK K
              have HSP':=hide (stp_grown HSP.out hg' (by first|omega|(have:=hOld.out.size;omega)))
              clear HSP
              have HSP:=HSP'
              clear HSP'
              have R8':=hide (R8.out.grown hg' (pu5 (by omega)))
              clear R8
              have R8:=R8'
              clear R8'
              clear R7
              have R7:=hide hr'
              clear hg' hs' hr' hOld
              (try simp only [Act.put])
              refine wpPT_alt (by kernel_rfl) (fun K hK=>?_) ?_
              rotate_left
              · exact wpPT_stop
              have hOld:=hide hHeld
              clear hHeld
              refine wp_storeC 75 (.tmp 8) (.tmp 39) rfl 2 plc_size g8 0 75 rfl (prC (0,0)) (prC S.2.2) rfl R8.out rfl (by exact Nat.le_refl _) (prC_one _) ?_
              intro w' hr' hg' hs'
              rw [splice_all (prC (0,0)) (prC S.2.2) rfl] at hr'
              refine hK.out _ _ (hOld.out.grown hg' (by have:=hOld.out.size;omega) (pu4 (by omega))) (fun hHeld=>?_)
              clear hK K
              have R7':=hide (R7.out.grown hg' (pu5 (by omega)))
              clear R7
              have R7:=R7'
              clear R7'
              have HSP':=hide (stp_grown HSP.out hg' (by first|omega|(have:=hOld.out.size;omega)))
              clear HSP
              have HSP:=HSP'
              clear HSP'
              clear R8
              have R8:=hide hr'
              clear hg' hs' hr' hOld
              (try simp only [Act.put])
              refine wpPT_leaf ?_
              have HBX:=hide hHeld
              clear hHeld
              go_wp2_with fail
              go_meet
              case rel=>exact ⟨_,_,_,_,_,_,rfl,rfl,rfl,hlo',HSP.out,R7.out,R8.out,HBX.out⟩
            refine wpPT_alt (by kernel_rfl) (fun K hK=>?_) ?_
            · skip
              have hOld:=hide hHeld
              clear hHeld
              unfold Oper.wp execOp
              go_simp
              have hal:=below_new (below_self z0) (.cells #[.int .i64 0,.int .i64 0] 75)
              have hb':=hal.mono (B':=wA.heap.size) (by have:=hOld.out.size;omega)
              have HFN:=hide (show RowL (z0.alloc (.cells #[.int .i64 0,.int .i64 0] 75)) z0.heap.size 75 (prC (0,0)) from RowL.new z0 75 (prC (0,0)))
              have g8l:wA.heap.size≤z0.heap.size:=hOld.out.size
              have g7ng8:g7 < z0.heap.size:=R7.out.lt
              refine hK.out _ _ (hOld.out.trans hb') (fun hHeld=>?_)
              clear hK K
              have R7':=hide (R7.out.on hal)
              clear R7
              have R7:=R7'
              clear R7'
              have R8:=HFN
              clear hal hb' hOld HFN
              generalize z0.alloc (.cells #[.int .i64 0,.int .i64 0] 75)=z1 at *
              generalize z0.heap.size=g8 at *
              (try simp only [Act.put,pu1,pu2,pu3])
              refine wpPT_alt (by kernel_rfl) (fun K hK=>?_) ?_
              rotate_left
              · exact wpPT_stop
              have hOld:=hide hHeld
              clear hHeld
              go_simp
              go_at_call 102
              refine (VStep_r (u:=u) (cV:=cV) (BV:=wA.heap.size) HSV.out _ (HUA.out.under hOld.out (by omega)) (HLA.out.under hOld.out (by omega)) (by have:=hOld.out.size;omega) HF.out HFU.out.toX (HVA.out.mono (Kept.of_below hOld.out (fun b hb=>(HTA.out.fre b (HFF.out b (.inl hb))).1)) (fun b hb=>(HTA.out.fre b (HFF.out b (.inl hb))).1)) hOld.out.size hnV).mono ?_
              rintro e w' ⟨A2,c2,lo,hi,rfl,hlo,hr5,hbel⟩
              have hb':=hbel.mono (B':=wA.heap.size) (by have:=hOld.out.size;omega)
              (try have hgl7:=R7.out.lt)
              (try have hgl8:=R8.out.lt)
              have HSP:=hide hr5
              have hhi:=hr5.2
              have hlo':wA.heap.size≤lo:=by have:=hOld.out.size;omega
              clear hr5
              have R7':=hide (R7.out.on hbel)
              clear R7
              have R7:=R7'
              clear R7'
              have R8':=hide (R8.out.on hbel)
              clear R8
              have R8:=R8'
              clear R8'
              clear hbel
              refine hK.out _ _ (hOld.out.trans hb') (fun hHeld=>?_)
              clear hK K
              (try simp only [Act.put,pu1,pu2,pu3])
              iterate 5
               refine wpPT_take (v:=?_) (by kernel_rfl) (fun wS hSw=>?_) ?_
               rotate_left
               · (try dsimp only at hSw);go_simp;(try with_reducible rfl)
               (try simp only [Act.put,pu1,pu2,pu3])
              refine wpPT_alt (by kernel_rfl) (fun K hK=>?_) ?_
              rotate_left
              · exact wpPT_stop
              have hOld:=hide hHeld
              clear hHeld
              refine wp_storeC 120 (.tmp 7) (.tmp 38) rfl 2 viw_size g7 0 120 rfl (viwC 0 (.slice none 0 0)) (viwC S.2.1.1 (.slice A2 S.2.1.2.length c2)) rfl R7.out rfl (by exact Nat.le_refl _) (viwC_one _ _ _ _) ?_
              intro w' hr' hg' hs'
              rw [splice_all (viwC 0 (.slice none 0 0)) (viwC S.2.1.1 (.slice A2 S.2.1.2.length c2)) rfl] at hr'
              refine hK.out _ _ (hOld.out.grown hg' (by have:=hOld.out.size;omega) (pu4 (by omega))) (fun hHeld=>?_)
              clear hK K
              have R8':=hide (R8.out.grown hg' (pu5 (by omega)))
              clear R8
              have R8:=R8'
              clear R8'
              have HSP':=hide (stp_grown HSP.out hg' (by first|omega|(have:=hOld.out.size;omega)))
              clear HSP
              have HSP:=HSP'
              clear HSP'
              clear R7
              have R7:=hide hr'
              clear hg' hs' hr' hOld
              (try simp only [Act.put])
              refine wpPT_alt (by kernel_rfl) (fun K hK=>?_) ?_
              rotate_left
              · exact wpPT_stop
              have hOld:=hide hHeld
              clear hHeld
              refine wp_storeC 75 (.tmp 8) (.tmp 39) rfl 2 plc_size g8 0 75 rfl (prC (0,0)) (prC S.2.2) rfl R8.out rfl (by exact Nat.le_refl _) (prC_one _) ?_
              intro w' hr' hg' hs'
              rw [splice_all (prC (0,0)) (prC S.2.2) rfl] at hr'
              refine hK.out _ _ (hOld.out.grown hg' (by have:=hOld.out.size;omega) (pu4 (by omega))) (fun hHeld=>?_)
              clear hK K
              have R7':=hide (R7.out.grown hg' (pu5 (by omega)))
              clear R7
              have R7:=R7'
              clear R7'
              have HSP':=hide (stp_grown HSP.out hg' (by first|omega|(have:=hOld.out.size;omega)))
              clear HSP
              have HSP:=HSP'
              clear HSP'
              clear R8
              have R8:=hide hr'
              clear hg' hs' hr' hOld
              (try simp only [Act.put])
              refine wpPT_leaf ?_
              have HBX:=hide hHeld
              clear hHeld
              go_wp2_with fail
              go_meet
              case rel=>exact ⟨_,_,_,_,_,_,rfl,rfl,rfl,hlo',HSP.out,R7.out,R8.out,HBX.out⟩
            exact wpPT_stop
          refine wpPT_alt (by kernel_rfl) (fun K hK=>?_) ?_
          · skip
            have hOld:=hide hHeld
            clear hHeld
            unfold Oper.wp execOp
            go_simp
            have hal:=below_new (below_self wd) (.cells #[.int .i64 0,.int .i64 0] 75)
            have hb':=hal.mono (B':=wA.heap.size) (by have:=hOld.out.size;omega)
            have HFN:=hide (show RowL (wd.alloc (.cells #[.int .i64 0,.int .i64 0] 75)) wd.heap.size 75 (prC (0,0)) from RowL.new wd 75 (prC (0,0)))
            have g8l:wA.heap.size≤wd.heap.size:=hOld.out.size
            refine hK.out _ _ (hOld.out.trans hb') (fun hHeld=>?_)
            clear hK K
            have R8:=HFN
            clear hal hb' hOld HFN
            generalize wd.alloc (.cells #[.int .i64 0,.int .i64 0] 75)=z0 at *
            generalize wd.heap.size=g8 at *
            (try simp only [Act.put,pu1,pu2,pu3])
            refine wpPT_alt (by kernel_rfl) (fun K hK=>?_) ?_
            · skip
              have hOld:=hide hHeld
              clear hHeld
              go_simp
              go_at_call 102
              refine (VStep_r (u:=u) (cV:=cV) (BV:=wA.heap.size) HSV.out _ (HUA.out.under hOld.out (by omega)) (HLA.out.under hOld.out (by omega)) (by have:=hOld.out.size;omega) HF.out HFU.out.toX (HVA.out.mono (Kept.of_below hOld.out (fun b hb=>(HTA.out.fre b (HFF.out b (.inl hb))).1)) (fun b hb=>(HTA.out.fre b (HFF.out b (.inl hb))).1)) hOld.out.size hnV).mono ?_
              rintro e w' ⟨A2,c2,lo,hi,rfl,hlo,hr5,hbel⟩
              have hb':=hbel.mono (B':=wA.heap.size) (by have:=hOld.out.size;omega)
              (try have hgl7:=R7.out.lt)
              (try have hgl8:=R8.out.lt)
              have HSP:=hide hr5
              have hhi:=hr5.2
              have hlo':wA.heap.size≤lo:=by have:=hOld.out.size;omega
              clear hr5
              have R8':=hide (R8.out.on hbel)
              clear R8
              have R8:=R8'
              clear R8'
              clear hbel
              refine hK.out _ _ (hOld.out.trans hb') (fun hHeld=>?_)
              clear hK K
              (try simp only [Act.put,pu1,pu2,pu3])
              iterate 4
               refine wpPT_take (v:=?_) (by kernel_rfl) (fun wS hSw=>?_) ?_
               rotate_left
               · (try dsimp only at hSw);go_simp;(try with_reducible rfl)
               (try simp only [Act.put,pu1,pu2,pu3])
              refine wpPT_alt (by kernel_rfl) (fun K hK=>?_) ?_
              rotate_left
              · exact wpPT_stop
              have hOld:=hide hHeld
              clear hHeld
              unfold Oper.wp execOp
              go_simp
              have hal:=below_new (below_self w') (.cells #[.int .i64 0,.slice none 0 0] 120)
              have hb':=hal.mono (B':=wA.heap.size) (by have:=hOld.out.size;omega)
              have HFN:=hide (show RowL (w'.alloc (.cells #[.int .i64 0,.slice none 0 0] 120)) w'.heap.size 120 (viwC 0 (.slice none 0 0)) from RowL.new w' 120 (viwC 0 (.slice none 0 0)))
              have g7l:wA.heap.size≤w'.heap.size:=hOld.out.size
              have g8ng7:g8 < w'.heap.size:=R8.out.lt
              refine hK.out _ _ (hOld.out.trans hb') (fun hHeld=>?_)
              clear hK K
              have R8':=hide (R8.out.on hal)
              clear R8
              have R8:=R8'
              clear R8'
              have HSP':=hide (stp_on HSP.out hal)
              clear HSP
              have HSP:=HSP'
              clear HSP'
              have R7:=HFN
              clear hal hb' hOld HFN
              generalize w'.alloc (.cells #[.int .i64 0,.slice none 0 0] 120)=z2 at *
              generalize w'.heap.size=g7 at *
              (try simp only [Act.put,pu1,pu2,pu3])
              refine wpPT_take (v:=?_) (by kernel_rfl) (fun wS hSw=>?_) ?_
              rotate_left
              · (try dsimp only at hSw);go_simp;(try with_reducible rfl)
              (try simp only [Act.put,pu1,pu2,pu3])
              refine wpPT_alt (by kernel_rfl) (fun K hK=>?_) ?_
              rotate_left
              · exact wpPT_stop
              have hOld:=hide hHeld
              clear hHeld
              refine wp_storeC 120 (.tmp 7) (.tmp 38) rfl 2 viw_size g7 0 120 rfl (viwC 0 (.slice none 0 0)) (viwC S.2.1.1 (.slice A2 S.2.1.2.length c2)) rfl R7.out rfl (by exact Nat.le_refl _) (viwC_one _ _ _ _) ?_
              intro w' hr' hg' hs'
              rw [splice_all (viwC 0 (.slice none 0 0)) (viwC S.2.1.1 (.slice A2 S.2.1.2.length c2)) rfl] at hr'
              refine hK.out _ _ (hOld.out.grown hg' (by have:=hOld.out.size;omega) (pu4 (by omega))) (fun hHeld=>?_)
              clear hK K
              have R8':=hide (R8.out.grown hg' (pu5 (by omega)))
              clear R8
              have R8:=R8'
              clear R8'
              have HSP':=hide (stp_grown HSP.out hg' (by first|omega|(have:=hOld.out.size;omega)))
              clear HSP
              have HSP:=HSP'
              clear HSP'
              clear R7
              have R7:=hide hr'
              clear hg' hs' hr' hOld
              (try simp only [Act.put])
              refine wpPT_alt (by kernel_rfl) (fun K hK=>?_) ?_
              rotate_left
              · exact wpPT_stop
              have hOld:=hide hHeld
              clear hHeld
              refine wp_storeC 75 (.tmp 8) (.tmp 39) rfl 2 plc_size g8 0 75 rfl (prC (0,0)) (prC S.2.2) rfl R8.out rfl (by exact Nat.le_refl _) (prC_one _) ?_
              intro w' hr' hg' hs'
              rw [splice_all (prC (0,0)) (prC S.2.2) rfl] at hr'
              refine hK.out _ _ (hOld.out.grown hg' (by have:=hOld.out.size;omega) (pu4 (by omega))) (fun hHeld=>?_)
              clear hK K
              have HSP':=hide (stp_grown HSP.out hg' (by first|omega|(have:=hOld.out.size;omega)))
              clear HSP
              have HSP:=HSP'
              clear HSP'
              have R7':=hide (R7.out.grown hg' (pu5 (by omega)))
              clear R7
              have R7:=R7'
              clear R7'
              clear R8
              have R8:=hide hr'
              clear hg' hs' hr' hOld
              (try simp only [Act.put])
              refine wpPT_leaf ?_
              have HBX:=hide hHeld
              clear hHeld
              go_wp2_with fail
              go_meet
              case rel=>exact ⟨_,_,_,_,_,_,rfl,rfl,rfl,hlo',HSP.out,R7.out,R8.out,HBX.out⟩
            refine wpPT_alt (by kernel_rfl) (fun K hK=>?_) ?_
            · skip
              have hOld:=hide hHeld
              clear hHeld
              unfold Oper.wp execOp
              go_simp
              have hal:=below_new (below_self z0) (.cells #[.int .i64 0,.slice none 0 0] 120)
              have hb':=hal.mono (B':=wA.heap.size) (by have:=hOld.out.size;omega)
              have HFN:=hide (show RowL (z0.alloc (.cells #[.int .i64 0,.slice none 0 0] 120)) z0.heap.size 120 (viwC 0 (.slice none 0 0)) from RowL.new z0 120 (viwC 0 (.slice none 0 0)))
              have g7l:wA.heap.size≤z0.heap.size:=hOld.out.size
              have g8ng7:g8 < z0.heap.size:=R8.out.lt
              refine hK.out _ _ (hOld.out.trans hb') (fun hHeld=>?_)
              clear hK K
              have R8':=hide (R8.out.on hal)
              clear R8
              have R8:=R8'
              clear R8'
              have R7:=HFN
              clear hal hb' hOld HFN
              generalize z0.alloc (.cells #[.int .i64 0,.slice none 0 0] 120)=z1 at *
              generalize z0.heap.size=g7 at *
              (try simp only [Act.put,pu1,pu2,pu3])
              refine wpPT_alt (by kernel_rfl) (fun K hK=>?_) ?_
              rotate_left
              · exact wpPT_stop
              have hOld:=hide hHeld
              clear hHeld
              go_simp
              go_at_call 102
              refine (VStep_r (u:=u) (cV:=cV) (BV:=wA.heap.size) HSV.out _ (HUA.out.under hOld.out (by omega)) (HLA.out.under hOld.out (by omega)) (by have:=hOld.out.size;omega) HF.out HFU.out.toX (HVA.out.mono (Kept.of_below hOld.out (fun b hb=>(HTA.out.fre b (HFF.out b (.inl hb))).1)) (fun b hb=>(HTA.out.fre b (HFF.out b (.inl hb))).1)) hOld.out.size hnV).mono ?_
              rintro e w' ⟨A2,c2,lo,hi,rfl,hlo,hr5,hbel⟩
              have hb':=hbel.mono (B':=wA.heap.size) (by have:=hOld.out.size;omega)
              (try have hgl7:=R7.out.lt)
              (try have hgl8:=R8.out.lt)
              have HSP:=hide hr5
              have hhi:=hr5.2
              have hlo':wA.heap.size≤lo:=by have:=hOld.out.size;omega
              clear hr5
              have R8':=hide (R8.out.on hbel)
              clear R8
              have R8:=R8'
              clear R8'
              have R7':=hide (R7.out.on hbel)
              clear R7
              have R7:=R7'
              clear R7'
              clear hbel
              refine hK.out _ _ (hOld.out.trans hb') (fun hHeld=>?_)
              clear hK K
              (try simp only [Act.put,pu1,pu2,pu3])
              iterate 5
               refine wpPT_take (v:=?_) (by kernel_rfl) (fun wS hSw=>?_) ?_
               rotate_left
               · (try dsimp only at hSw);go_simp;(try with_reducible rfl)
               (try simp only [Act.put,pu1,pu2,pu3])
              refine wpPT_alt (by kernel_rfl) (fun K hK=>?_) ?_
              rotate_left
              · exact wpPT_stop
              have hOld:=hide hHeld
              clear hHeld
              refine wp_storeC 120 (.tmp 7) (.tmp 38) rfl 2 viw_size g7 0 120 rfl (viwC 0 (.slice none 0 0)) (viwC S.2.1.1 (.slice A2 S.2.1.2.length c2)) rfl R7.out rfl (by exact Nat.le_refl _) (viwC_one _ _ _ _) ?_
              intro w' hr' hg' hs'
              rw [splice_all (viwC 0 (.slice none 0 0)) (viwC S.2.1.1 (.slice A2 S.2.1.2.length c2)) rfl] at hr'
              refine hK.out _ _ (hOld.out.grown hg' (by have:=hOld.out.size;omega) (pu4 (by omega))) (fun hHeld=>?_)
              clear hK K
              have R8':=hide (R8.out.grown hg' (pu5 (by omega)))
              clear R8
              have R8:=R8'
              clear R8'
              have HSP':=hide (stp_grown HSP.out hg' (by first|omega|(have:=hOld.out.size;omega)))
              clear HSP
              have HSP:=HSP'
              clear HSP'
              clear R7
              have R7:=hide hr'
              clear hg' hs' hr' hOld
              (try simp only [Act.put])
              refine wpPT_alt (by kernel_rfl) (fun K hK=>?_) ?_
              rotate_left
              · exact wpPT_stop
              have hOld:=hide hHeld
              clear hHeld
              refine wp_storeC 75 (.tmp 8) (.tmp 39) rfl 2 plc_size g8 0 75 rfl (prC (0,0)) (prC S.2.2) rfl R8.out rfl (by exact Nat.le_refl _) (prC_one _) ?_
              intro w' hr' hg' hs'
              rw [splice_all (prC (0,0)) (prC S.2.2) rfl] at hr'
              refine hK.out _ _ (hOld.out.grown hg' (by have:=hOld.out.size;omega) (pu4 (by omega))) (fun hHeld=>?_)
              clear hK K
              have R7':=hide (R7.out.grown hg' (pu5 (by omega)))
              clear R7
              have R7:=R7'
              clear R7'
              have HSP':=hide (stp_grown HSP.out hg' (by first|omega|(have:=hOld.out.size;omega)))
              clear HSP
              have HSP:=HSP'
              clear HSP'
              clear R8
              have R8:=hide hr'
              clear hg' hs' hr' hOld
              (try simp only [Act.put])
              refine wpPT_leaf ?_
              have HBX:=hide hHeld
              clear hHeld
              go_wp2_with fail
              go_meet
              case rel=>exact ⟨_,_,_,_,_,_,rfl,rfl,rfl,hlo',HSP.out,R7.out,R8.out,HBX.out⟩
            exact wpPT_stop
          exact wpPT_stop
        case rest =>
          obtain ⟨g7,g8,A2,c2,lo,hi,rfl,rfl,rfl,hlo,hsp,h7,h8,hbx⟩:=hcut
          rename World=>wx
          have hszx:=hbx.size
          have hhi:=hsp.2
          obtain ⟨F2,hF2⟩:∃F2:Nat→Prop,F2=fun b=>F' b∨(lo≤b∧b < hi):=⟨_,rfl⟩
          have HTX:=hide (HTA.out.more (F':=F2) hbx (fun _ h=>by rw [hF2];exact .inl h) (fun b hb=>by rw [hF2] at hb;exact hb.imp id (fun h=>⟨by omega,by omega⟩)))
          have HPX:=hide (hsp.1.mono (w':=wx) (D':=F2) (fun _ _=>rfl) (fun b hb=>by rw [hF2];exact .inr hb))
          have HFX:=hide (show ∀b,F b∨b=w.heap.size→F2 b from fun b hb=>by rw [hF2];exact .inl (HFF.out b hb))
          have HNX:=hide (HNA.out.below hbx)
          have R3X:=hide (R3A.out.on hbx)
          have HVX:=hide (HVA.out.mono (w':=wx) (Kept.of_below hbx (fun b hb=>(HTA.out.fre b (HFF.out b (.inl hb))).1)) (fun _ h=>h))
          have HBX:=hide (HBA.out.trans (hbx.mono (by omega)))
          have HUX:=hide (und_at HUA.out hbx (by omega))
          have HLX:=hide (und_at HLA.out hbx (by omega))
          have R7X:=hide h7
          have R8X:=hide h8
          have hadd:=fun W=>add_lists (P:=Tryz.prog) (x:=pathC ps) (y:=joinS [x]) (z:=pathC (ps++[x])) (by rw [join_one,List.length_cons];omega) (by rw [join_one,path_snoc]) W
          clear hF2 hsp h7 h8 hbx HTA HFF HNA R3A HVA HBA HUA HLA hlo
          go_wp2_with fail
          refine wp_region_plan (fun w'=>Below wx.heap.size wx w') [(0,true),(1,true),(2,true),(3,false),(4,false),(5,true),(6,true)] (by kernel_rfl) (by kernel_rfl) (by kernel_rfl) (by kernel_rfl) rfl (fun _ _ _ _ _ h=>h) (below_drew (below_self wx)) (fun hHeld=>?_)
          simp only [planOps,List.filterMap_cons,List.filterMap_nil,List.getElem?_toArray,List.getElem?_cons_succ,List.getElem?_cons_zero,Option.map_some]
          refine wpPlan_take (v:=?_) (by kernel_rfl) (fun wS hSw=>?_) ?_
          rotate_left
          · (try dsimp only at hSw);go_simp;(try with_reducible rfl)
          (try simp only [Act.put,pu1,pu2,pu3])
          refine wpPlan_take (v:=?_) (by kernel_rfl) (fun wS hSw=>?_) ?_
          rotate_left
          · have qx:wS.cell? ⟨w.heap.size,2,none⟩=some (.string ⟨(pathC ps).toArray⟩):=(R3X.out.on hSw).cell 2;go_simp;(try with_reducible rfl)
          (try simp only [Act.put,pu1,pu2,pu3])
          refine wpPlan_take (v:=?_) (by kernel_rfl) (fun wS hSw=>?_) ?_
          rotate_left
          · (try dsimp only at hSw);go_simp;(try with_reducible rfl)
          (try simp only [Act.put,pu1,pu2,pu3])
          refine wpPlan_call (by kernel_rfl) (fun K hK=>?_)
          have hOld:=hide hHeld
          clear hHeld
          unfold Oper.wp execOp
          have hlit:=lit_str1 x
          go_simp
          refine hK.out _ _ (hOld.out.alloc hOld.out.size _) (fun hHeld=>?_)
          clear hK K
          clear hlit
          (try simp only [Act.put,pu1,pu2,pu3])
          refine wpPlan_call (by kernel_rfl) (fun K hK=>?_)
          have hOld:=hide hHeld
          clear hHeld
          go_simp
          go_at_call 103
          refine (PJoin_any (l:=[x]) ((wx.alloc (.cells #[.string ⟨x.toArray⟩] 9)).drew) (str_row wx x) (by omega) (Nat.le_refl _) (by simp [totL];omega)).mono ?_
          rintro e w' ⟨rfl,hbel⟩
          unfold st
          refine hK.out _ _ (hOld.out.trans (hbel.mono hOld.out.size)) (fun hHeld=>?_)
          clear hK K
          (try simp only [Act.put,pu1,pu2,pu3])
          iterate 2
           refine wpPlan_take (v:=?_) (by kernel_rfl) (fun wS hSw=>?_) ?_
           rotate_left
           · (try dsimp only at hSw);go_simp;(try with_reducible rfl)
           (try simp only [Act.put,pu1,pu2,pu3])
          refine wpPlan_end ?_
          rename World=>wj
          have hszj:=hHeld.size
          have HTJ:=hide (HTX.out.on hHeld)
          have HPJ:=hide (HPX.out.mono (w':=wj) (Kept.of_below hHeld (fun b hb=>(HTX.out.fre b hb).1)) (fun _ h=>h))
          have HNJ:=hide (HNX.out.below hHeld)
          have R3J:=hide (R3X.out.on hHeld)
          have HVJ:=hide (HVX.out.mono (w':=wj) (Kept.of_below hHeld (fun b hb=>(HTX.out.fre b (HFX.out b (.inl hb))).1)) (fun _ h=>h))
          have HBJ:=hide (HBX.out.trans (hHeld.mono (by omega)))
          have HUJ:=hide (und_at HUX.out hHeld (by omega))
          have HLJ:=hide (und_at HLX.out hHeld (by omega))
          have R7J:=hide (R7X.out.on hHeld)
          have R8J:=hide (R8X.out.on hHeld)
          clear hHeld HTX HPX HNX R3X HVX HBX HUX HLX R7X R8X hadd
          go_wp2_with fail
          have hdr:=below_drew (below_self wj)
          refine wp_region_planP (fun w'=>RowL w' gT 126 (touC g (.slice AU nU cU) (.slice AL nL cL) (.map (some bM)) (.slice AS' nS' cS') (.slice AX' nX' cX'))∧RowL w' g8 75 (prC S.2.2)∧Below base wj w') [(0,true),(1,true),(2,true),(3,true),(4,true),(5,true),(6,true),(7,true),(8,true),(9,false),(10,false),(11,true),(12,true)] 13 (by kernel_rfl) (by kernel_rfl) (by kernel_rfl) (by kernel_rfl) (by kernel_rfl) rfl (fun _ _ _ _ _ h=>h) ⟨HTJ.out.row.on hdr,R8J.out.on hdr,hdr.mono (by omega)⟩ (fun hHeld=>?_)
          generalize wj.drew=wd at *
          simp only [planOps,List.filterMap_cons,List.filterMap_nil,List.getElem?_toArray,List.getElem?_cons_succ,List.getElem?_cons_zero,Option.map_some]
          iterate 4
           refine wpPlan_take (v:=?_) (by kernel_rfl) (fun wS hSw=>?_) ?_
           rotate_left
           · (try dsimp only at hSw);go_simp;(try with_reducible rfl)
           (try simp only [Act.put,pu1,pu2,pu3])
          refine wpPlan_take (v:=?_) (by kernel_rfl) (fun wS hSw=>?_) ?_
          rotate_left
          · have qx:=(hSw.1.cell 8).trans (show (touC g (.slice AU nU cU) (.slice AL nL cL) (.map (some bM)) (.slice AS' nS' cS') (.slice AX' nX' cX'))[8]?=some (.slice AX' nX' cX') from rfl);go_simp;(try with_reducible rfl)
          (try simp only [Act.put,pu1,pu2,pu3])
          iterate 2
           refine wpPlan_take (v:=?_) (by kernel_rfl) (fun wS hSw=>?_) ?_
           rotate_left
           · (try dsimp only at hSw);go_simp;(try with_reducible rfl)
           (try simp only [Act.put,pu1,pu2,pu3])
          refine wpPlan_take (v:=?_) (by kernel_rfl) (fun wS hSw=>?_) ?_
          rotate_left
          · refine execOp_load (x:=.tmp 8) (k:=2) (g:=g8) (off:=0) (cs:=[.int .i64 S.2.2.1,.int .i64 S.2.2.2]) ?_ plc_agg plc_size ?_ (fun j v hv=>by rw [Nat.zero_add];exact (hSw.2.1.cell j).trans hv) rfl <;> rfl
          (try simp only [Act.put,pu1,pu2,pu3])
          refine wpPlan_take (v:=?_) (by kernel_rfl) (fun wS hSw=>?_) ?_
          rotate_left
          · (try dsimp only at hSw);go_simp;(try with_reducible rfl)
          (try simp only [Act.put,pu1,pu2,pu3])
          refine wpPlan_call (by kernel_rfl) (fun K hK=>?_)
          have hOld:=hide hHeld
          clear hHeld
          unfold Oper.wp execOp
          have hlit:=lit_shn (pathC (ps++[x])) S.1 S.2.2.1 S.2.2.2
          go_simp
          have hba:=below_new (below_self wd) (.cells #[.string ⟨(pathC (ps++[x])).toArray⟩,.int .i64 S.1,.int .i64 S.2.2.1,.int .i64 S.2.2.2] 97)
          refine hK.out _ _ (⟨hOld.out.1.on hba,hOld.out.2.1.on hba,hOld.out.2.2.trans (hba.mono (by have:=hdr.size;omega))⟩) (fun hHeld=>?_)
          clear hK K
          clear hlit
          (try simp only [Act.put,pu1,pu2,pu3])
          refine wpPlan_call (by kernel_rfl) (fun K hK=>?_)
          have hOld:=hide hHeld
          clear hHeld
          have HTL:=hide (HTJ.out.on (hdr.trans (hba.mono hdr.size)))
          have hzd:=hdr.size
          refine wp_append_OwG (E:=shnEn) _ (.tmp 50) (.tmp 55) 94 rfl base 97 (.agg #[.string ⟨#[]⟩,.int .i64 0,.int .i64 0,.int .i64 0]) 40 Tryz.underlying94 shnW_info rfl (by decide) F2 AX' nX' cX' _ rfl HTL.out.tol (fun h=>h) (fun b=>wd.heap.size≤b∧b < (wd.alloc (.cells (shnC (pathC (ps++[x]),S.1,S.2.2)).toArray 97)).heap.size) (some ⟨wd.heap.size,0,none⟩) 1 1 [(pathC (ps++[x]),S.1,S.2.2)] rfl (enc_lit1 (E:=shnEn) (x:=(pathC (ps++[x]),S.1,S.2.2)) (fun _ _=>rfl) wd 97 (Nat.le_refl _)) (nX'+1) rfl (by omega) (by omega) (by have:=hba.size;omega) (fun A7 c7 w7 ho7 hb7 hg7=>?_)
          refine hK.out _ _ (⟨hOld.out.1.grown hg7 (owe_apart HTL.out.tol.own hOld.out.1 (by decide)),hOld.out.2.1.grown hg7 (owe_apart HTL.out.tol.own hOld.out.2.1 (by decide)),hOld.out.2.2.trans hb7⟩) (fun hHeld=>?_)
          clear hK K
          have HO7:=hide ho7
          have HG7:=hide hg7
          have HB7:=hide hb7
          have HRT7:=hide hHeld.1
          clear ho7 hg7 hb7
          (try simp only [Act.put,pu1,pu2,pu3])
          iterate 2
           refine wpPlan_take (v:=?_) (by kernel_rfl) (fun wS hSw=>?_) ?_
           rotate_left
           · (try dsimp only at hSw);go_simp;(try with_reducible rfl)
           (try simp only [Act.put,pu1,pu2,pu3])
          refine wpPlan_end ?_
          refine postL_go rfl (by kernel_rfl) ?_
          refine wp_storeVo 94 (.tmp 58) (.tmp 56) rfl shns_size gT 8 126 rfl (.slice A7 (nX'+1) c7) rfl rfl rfl (touC g (.slice AU nU cU) (.slice AL nL cL) (.map (some bM)) (.slice AS' nS' cS') (.slice AX' nX' cX')) hHeld.1 (by show 8 < 9;omega) ?_
          intro wK hrK hgK hsK
          have hrK':RowL wK gT 126 (touC g (.slice AU nU cU) (.slice AL nL cL) (.map (some bM)) (.slice AS' nS' cS') (.slice A7 (nX'+1) c7)):=hrK
          have hTL:=HTL.out
          have hbl:=hdr.trans (hba.mono hdr.size)
          have HTK:=hide (hTL.tell HO7.out HG7.out hrK' hgK)
          have hkp:Kept F2 wj wK:=fun b hb=>(hTL.kept2 hTL.tol HG7.out hgK b hb).trans (hbl.block b (HTJ.out.fre b hb).1)
          have HPK:=hide (HPJ.out.mono hkp (fun _ h=>h))
          have HVK:=hide (HVJ.out.mono (w':=wK) (fun b hb=>hkp b (HFX.out b (.inl hb))) (fun _ h=>h))
          have R3K:=hide (show RowL wK w.heap.size 122 _ from (hkp _ (HFX.out _ (.inr rfl))).trans R3J.out)
          have R7K:=hide (row_two hTL.tol hTL.row (R7J.out.on hbl) (by decide) (by decide) HG7.out hgK)
          have HNK:=hide (ow_two (HNJ.out.below hbl) hTL.tol (by decide) HG7.out hgK (by omega))
          have hbb:Below base wj wK:=hHeld.2.2.grown hgK (by have:=hHeld.2.2.size;omega) (fun k hk=>by have:=Option.some.inj hk;have:=hTL.gTb;omega)
          have HBK:=hide (HBJ.out.trans hbb)
          have HUK:=hide (HUJ.out.mono (w':=wK) (Kept.of_below hbb (fun b hb=>by have h1:b < B:=hb;omega)) (fun _ h=>h))
          have HLK:=hide (HLJ.out.mono (w':=wK) (Kept.of_below hbb (fun b hb=>by have h1:b < B:=hb;omega)) (fun _ h=>h))
          have hszK:=hbb.size
          clear hTL hbl hkp hbb HTL HO7 HG7 HB7 HRT7 hHeld hrK hrK' hgK hsK HTJ HPJ HVJ R3J R7J R8J HNJ HBJ HUJ HLJ hdr hba
          (try simp only [Act.put])
          have hA0:¬(againS up u x=true):=by rw [HA.out];simp
          have hTS:toldK up ls ((u,vl),ps) ((namesV up ls (u,vl)).take (j+1))=toldK up ls ((u,vl),ps) ((namesV up ls (u,vl)).take j)++[(pathC (ps++[x]),S.1,S.2.2)]:=by
            rw [HTS.out,if_neg hA0]
            show _++[(pathC (ps++[x]),(stepV up ls (u,vl) x).1,(stepV up ls (u,vl) x).2.2)]=_
            rw [HSV.out]
          have HTS2:=hide hTS
          by_cases hkd:S.1=1
          rotate_left
          · have hNS:nextK up ls ((u,vl),ps) ((namesV up ls (u,vl)).take (j+1))=nextK up ls ((u,vl),ps) ((namesV up ls (u,vl)).take j):=by
              rw [HNS.out,if_neg hA0,HSV.out,if_neg hkd,List.append_nil]
            have HNS2:=hide hNS
            have hdk:decide (S.1=1)=false:=by simpa using hkd
            clear hTS hNS hA0
            go_wp2_with fail
            refine ⟨⟨j+1,AS',nS',cS',A7,nX'+1,c7,F2,by omega,by go_num,?_,HFX.out,by omega,by omega,HNK.out,R3K.out,HVK.out,HBK.out⟩,?_⟩
            · rw [HNS2.out,HTS2.out,←List.append_assoc]
              exact HTK.out
            · simp [intOf]
              omega
          · have hNS:nextK up ls ((u,vl),ps) ((namesV up ls (u,vl)).take (j+1))=nextK up ls ((u,vl),ps) ((namesV up ls (u,vl)).take j)++[(S.2.1,ps++[x])]:=by
              rw [HNS.out,if_neg hA0,if_pos (by rw [HSV.out];exact hkd)]
              show _++[((stepV up ls (u,vl) x).2.1,ps++[x])]=_
              rw [HSV.out]
            have HNS2:=hide hNS
            clear hTS hNS hA0
            go_wp2_with fail
            have hdr:=below_drew (below_self wK)
            refine wp_region_planP (fun w'=>RowL w' gT 126 (touC g (.slice AU nU cU) (.slice AL nL cL) (.map (some bM)) (.slice AS' nS' cS') (.slice A7 (nX'+1) c7))∧RowL w' g7 120 (viwC S.2.1.1 (.slice A2 S.2.1.2.length c2))∧Below base wK w') [(0,true),(1,true),(2,true),(3,true),(4,true),(5,true),(6,true),(7,true),(8,false),(9,false),(10,true),(11,true)] 12 (by kernel_rfl) (by kernel_rfl) (by kernel_rfl) (by kernel_rfl) (by kernel_rfl) rfl (fun _ _ _ _ _ h=>h) ⟨HTK.out.row.on hdr,R7K.out.on hdr,hdr.mono (by omega)⟩ (fun hHeld=>?_)
            generalize wK.drew=we at *
            simp only [planOps,List.filterMap_cons,List.filterMap_nil,List.getElem?_toArray,List.getElem?_cons_succ,List.getElem?_cons_zero,Option.map_some]
            iterate 4
             refine wpPlan_take (v:=?_) (by kernel_rfl) (fun wS hSw=>?_) ?_
             rotate_left
             · (try dsimp only at hSw);go_simp;(try with_reducible rfl)
             (try simp only [Act.put,pu1,pu2,pu3])
            refine wpPlan_take (v:=?_) (by kernel_rfl) (fun wS hSw=>?_) ?_
            rotate_left
            · have qx:=(hSw.1.cell 7).trans (show (touC g (.slice AU nU cU) (.slice AL nL cL) (.map (some bM)) (.slice AS' nS' cS') (.slice A7 (nX'+1) c7))[7]?=some (.slice AS' nS' cS') from rfl);go_simp;(try with_reducible rfl)
            (try simp only [Act.put,pu1,pu2,pu3])
            refine wpPlan_take (v:=?_) (by kernel_rfl) (fun wS hSw=>?_) ?_
            rotate_left
            · refine execOp_load (x:=.tmp 7) (k:=2) (g:=g7) (off:=0) (cs:=[.int .i64 S.2.1.1,.slice A2 S.2.1.2.length c2]) ?_ viw_agg viw_size ?_ (fun j v hv=>by rw [Nat.zero_add];exact (hSw.2.1.cell j).trans hv) rfl <;> rfl
            (try simp only [Act.put,pu1,pu2,pu3])
            iterate 2
             refine wpPlan_take (v:=?_) (by kernel_rfl) (fun wS hSw=>?_) ?_
             rotate_left
             · (try dsimp only at hSw);go_simp;(try with_reducible rfl)
             (try simp only [Act.put,pu1,pu2,pu3])
            refine wpPlan_call (by kernel_rfl) (fun K hK=>?_)
            have hOld:=hide hHeld
            clear hHeld
            unfold Oper.wp execOp
            have hlit:=lit_stp S.2.1.1 A2 S.2.1.2.length c2 (pathC (ps++[x]))
            go_simp
            have hba:=below_new (below_self we) (.cells #[.int .i64 S.2.1.1,.slice A2 S.2.1.2.length c2,.string ⟨(pathC (ps++[x])).toArray⟩] 122)
            refine hK.out _ _ (⟨hOld.out.1.on hba,hOld.out.2.1.on hba,hOld.out.2.2.trans (hba.mono (by have:=hdr.size;omega))⟩) (fun hHeld=>?_)
            clear hK K
            clear hlit
            (try simp only [Act.put,pu1,pu2,pu3])
            refine wpPlan_call (by kernel_rfl) (fun K hK=>?_)
            have hOld:=hide hHeld
            clear hHeld
            have HTM:=hide (HTK.out.on (hdr.trans (hba.mono hdr.size)))
            have hzd:=hdr.size
            obtain ⟨raws,k1,k2⟩:=HTM.out.sto
            refine wp_append_OwG (E:=rawEn) _ (.tmp 65) (.tmp 69) 124 rfl base 122 (.agg #[.int .i64 0,.slice none 0 0,.string ⟨#[]⟩]) 48 Tryz.underlying124 stpW_info rfl (by decide) F2 AS' nS' cS' _ rfl k1 (fun h=>h) (fun b=>we.heap.size≤b∧b < (we.alloc (.cells (rawC (S.2.1.1,(A2,S.2.1.2.length,c2),pathC (ps++[x]))).toArray 122)).heap.size) (some ⟨we.heap.size,0,none⟩) 1 1 [(S.2.1.1,(A2,S.2.1.2.length,c2),pathC (ps++[x]))] rfl (enc_lit1 (E:=rawEn) (x:=(S.2.1.1,(A2,S.2.1.2.length,c2),pathC (ps++[x]))) (fun _ _=>rfl) we 122 (Nat.le_refl _)) (nS'+1) rfl (by omega) (by omega) (by have:=hba.size;omega) (fun A9 c9 w9 ho9 hb9 hg9=>?_)
            refine hK.out _ _ (⟨hOld.out.1.grown hg9 (owe_apart k1.own hOld.out.1 (by decide)),hOld.out.2.1.grown hg9 (owe_apart k1.own hOld.out.2.1 (by decide)),hOld.out.2.2.trans hb9⟩) (fun hHeld=>?_)
            clear hK K
            have HO9:=hide ho9
            have HG9:=hide hg9
            have HK1:=hide k1
            have HK2:=hide k2
            clear ho9 hb9 hg9 k1 k2
            (try simp only [Act.put,pu1,pu2,pu3])
            iterate 2
             refine wpPlan_take (v:=?_) (by kernel_rfl) (fun wS hSw=>?_) ?_
             rotate_left
             · (try dsimp only at hSw);go_simp;(try with_reducible rfl)
             (try simp only [Act.put,pu1,pu2,pu3])
            refine wpPlan_end ?_
            refine postL_go rfl (by kernel_rfl) ?_
            refine wp_storeVo 124 (.tmp 72) (.tmp 70) rfl stps_size gT 7 126 rfl (.slice A9 (nS'+1) c9) rfl rfl rfl (touC g (.slice AU nU cU) (.slice AL nL cL) (.map (some bM)) (.slice AS' nS' cS') (.slice A7 (nX'+1) c7)) hHeld.1 (by show 7 < 9;omega) ?_
            intro wE hrE hgE hsE
            have hrE':RowL wE gT 126 (touC g (.slice AU nU cU) (.slice AL nL cL) (.map (some bM)) (.slice A9 (nS'+1) c9) (.slice A7 (nX'+1) c7)):=hrE
            have hTM:=HTM.out
            have hbl:=hdr.trans (hba.mono hdr.size)
            have hpl2:=HPK.out.mono (Kept.of_below hbl (fun b hb=>(HTK.out.fre b hb).1)) (fun _ h=>h)
            have hss:=HK2.out.snoc (r:=(S.2.1.1,(A2,S.2.1.2.length,c2),pathC (ps++[x]))) (s:=(S.2.1,ps++[x])) rfl rfl rfl hpl2
            have HTE:=hide (hTM.come HK1.out HO9.out hss HG9.out hrE' hgE)
            have hkp:Kept F2 wK wE:=fun b hb=>(hTM.kept2 HK1.out HG9.out hgE b hb).trans (hbl.block b (HTK.out.fre b hb).1)
            have HVE:=hide (HVK.out.mono (w':=wE) (fun b hb=>hkp b (HFX.out b (.inl hb))) (fun _ h=>h))
            have R3E:=hide (show RowL wE w.heap.size 122 _ from (hkp _ (HFX.out _ (.inr rfl))).trans R3K.out)
            have HNE:=hide (ow_two (HNK.out.below hbl) HK1.out (by decide) HG9.out hgE (by omega))
            have HBE:=hide (HBK.out.trans (hHeld.2.2.grown hgE (by have:=hHeld.2.2.size;omega) (fun k hk=>by have:=Option.some.inj hk;have:=hTM.gTb;omega)))
            clear hTM hbl hpl2 hss hkp HTM HO9 HG9 HK1 HK2 hHeld hrE hrE' hgE hsE HTK HPK HVK R3K R7K HNK HBK HUK HLK hdr hba
            (try simp only [Act.put])
            go_wp2_with fail
            refine ⟨⟨j+1,A9,nS'+1,c9,A7,nX'+1,c7,F2,by omega,by go_num,?_,HFX.out,by omega,by omega,HNE.out,R3E.out,HVE.out,HBE.out⟩,?_⟩
            · rw [HNS2.out,HTS2.out,←List.append_assoc,←List.append_assoc]
              exact HTE.out
            · simp [intOf]
              omega
    · obtain rfl:nN=j:=by omega
      have hnlt:¬((nN:Int) < (nN:Int)):=by omega
      have hall:(namesV up ls (u,vl)).take nN=namesV up ls (u,vl):=List.take_of_length_le (by omega)
      go_wp2_with fail
      refine bodyPost_end (v:=.tuple #[]) (by simp [results,Tryz.results73,go_sem]) rfl ?_
      refine ⟨rfl,AS',nS',cS',AX',nX',cX',F',?_,(HBW.out.mono (by omega)).trans HBR.out,fun b hb=>HFF.out b (.inl hb)⟩
      have h1:=HTr.out
      rw [hall,told_all,next_all] at h1
      exact h1
end Go.Proofs.YtpndfahgflgocaaGreatDoor

