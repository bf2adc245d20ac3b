import Derived.Test.YtggnbflbbfdohaaGreatSt34
import Derived.Test.YtggnbflbbfdohaaGreatSt32
import Derived.Test.YtggnbflbbfdohaaGreatSt30
import Derived.Test.YtggnbflbbfdohaaGreatSt26
import Derived.Test.YtggnbflbbfdohaaGreatSt19

namespace Go.Proofs.YtggnbflbbfdohaaGreat
open Go.RowKit Go.Shelf Plain

theorem again_eq {up:List NodV} {d:Int} {x:List UInt8} {E:EntV} {b:Bool} (hE:entO (firstB up d x)=E) (hb:(firstB up d x).isSome=b):againS up d x=(b&&decide ((d,E.slot)∈twiceS up (walkW up [1]))):=by
 subst hE hb;unfold againS
 cases firstB up d x with
 | none=>rfl
 | some e =>
  simp only [entO,Option.isSome_some,Bool.true_and,Option.getD_some,List.contains_eq_mem];exact decide_eq_decide.mpr Iff.rfl
theorem rst_one {F:Nat→Prop} (W:World) (s:StopV) {A B:Option Addr} {c d:Nat} (h1:RdE prEn W F A s.1.2.length s.1.2) (h2:RdE Enc.text W F B s.2.length s.2) (hF:∀b,F b→b < W.heap.size):OwD rstEn F (W.alloc (.cells (rstC s.1.1 (.slice A s.1.2.length c) (.slice B s.2.length d)).toArray 91)) W.heap.size 91 (some ⟨W.heap.size,0,none⟩) 1 1 [s]:=by
 have hb:=below_new (below_self W) (.cells (rstC s.1.1 (.slice A s.1.2.length c) (.slice B s.2.length d)).toArray 91);refine ⟨[rstC s.1.1 (.slice A s.1.2.length c) (.slice B s.2.length d)],?_,⟨rfl,fun i cs y k1 k2=>?_⟩,rfl,fun b hb2=>⟨Nat.lt_of_lt_of_le (hF b hb2) hb.size,fun a ha=>by cases ha;exact Nat.ne_of_lt (hF b hb2)⟩⟩
 ·have h:=World.ownsRow_lit (base:=W.heap.size) (e:=91) (size:=rstEn.k) W (rstC s.1.1 (.slice A s.1.2.length c) (.slice B s.2.length d)).toArray 1 (Nat.le_refl _) (by simp [maxLen]) rfl
  simpa using h
 ·have hi:i=0:=by have:=(List.getElem?_eq_some_iff.1 k1).1;simpa using this
  subst hi
  obtain rfl:_=cs:=by simpa using k1
  obtain rfl:s=y:=by simpa using k2
  exact ⟨A,c,B,d,rfl,h1.mono (Kept.of_below hb hF) (fun _ h=>h),h2.mono (Kept.of_below hb hF) (fun _ h=>h)⟩
theorem RVStep_r {g:GeoQ} {AU AL:Option Addr} {nU cU nL cL B:Nat} {up:List NodV} {ls:List (List NodV)} {u:Int} {AV:Option Addr} {nV cV BV:Nat} {vl:List (Int×Int)} {nm:List UInt8} {S:StepV} (hS:stepV up ls (u,vl) nm=S) (w:World) (hu:RdE nodEn w (Under B) AU nU up) (h:RdE layEn w (Under B) AL nL ls) (hB:B≤w.heap.size) (hF:FewL ls) (hup:FewU up) (hv:RdE prEn w (Under BV) AV nV vl) (hBV:BV≤w.heap.size) (hnV:nV≤1000):Calls Tryz.prog 44 #[.agg (stkC g (.slice AU nU cU) (.slice AL nL cL)).toArray,.agg (viwC u (.slice AV nV cV)).toArray,.string ⟨nm.toArray⟩] w (fun e w'=>∃A c lo hi,e=.returned (.tuple #[.int .i64 S.1,.agg (viwC S.2.1.1 (.slice A S.2.1.2.length c)).toArray,.agg (prC S.2.2).toArray])∧w.heap.size≤lo∧StpR w' lo hi A S.2.1.2.length S.2.1.2∧Below w.heap.size w w'):=by
 refine (RVStep_e hS w hu h hB hF hup hv hBV hnV).mono ?_
 rintro e w' ⟨A,c,rfl,h1,h2⟩
 exact ⟨A,c,w.heap.size,w'.heap.size,rfl,Nat.le_refl _,⟨h1,Nat.le_refl _⟩,h2⟩
theorem flat_fr {α:Type} {E:Enc α} {w:World} {D:Nat→Prop} {lo n:Nat} {A:Option Addr} {l:List α} (h:RdE E w D A n l) (hR:∀ {w w':World} {D D':Nat→Prop} {cs:List Value} {x:α},E.R w D cs x→E.R w' D' cs x) (hA:∀a,A=some a→lo≤a.block∧a.block < w.heap.size):RdE E w (fun b=>lo≤b∧b < w.heap.size) A n l:=⟨h.1,fun hn=>by
 obtain ⟨b,o,rfl,hb,hc⟩:=h.2 hn
 exact ⟨b,o,rfl,hA _ rfl,fun i x hx=>by obtain ⟨cs,h1,h2⟩:=hc i x hx;exact ⟨cs,hR h1,h2⟩⟩⟩
theorem text_lit1 (W:World) (x:List UInt8):RdE Enc.text (W.alloc (.cells #[.string ⟨x.toArray⟩] 9)) (fun b=>b=W.heap.size) (some ⟨W.heap.size,0,none⟩) 1 [x] :=
 (enc_lit1 (E:=Enc.text) (x:=x) (cs:=[.string ⟨x.toArray⟩]) (fun _ _=>rfl) W 9 (Nat.le_refl _)).mono (fun _ _=>rfl) (fun b hb=>by have h1:=hb.1;have h2:=hb.2;simp only [World.size_alloc] at h2;omega)
set_option maxRecDepth 100000 in
theorem text_inf:(Tryz.prog.info? 9).map (fun i=>(i.zero,i.size,i.bytes))=some (some (.string ⟨#[]⟩),Enc.text.k,16):=by kernel_rfl
theorem pathC_len : ∀ l : List (List UInt8), l.length ≤ (pathC l).length
 | []=>by simp
 | a::l=>by
  have h1:=pathC_len l;simp only [pathC,List.flatMap_cons,List.length_append,List.length_cons] at h1 ⊢;omega
theorem totL_pathC : ∀ l : List (List UInt8), totL l ≤ (pathC l).length
 | []=>by simp [totL]
 | a::l=>by
  have h1:=totL_pathC l;simp only [pathC,List.flatMap_cons,List.length_append,List.length_cons,totL,List.map_cons,List.sum_cons] at h1 ⊢;omega
theorem text_rd1 {w:World} {B n:Nat} {A:Option Addr} {l:List (List UInt8)} (h:RdE Enc.text w (Under B) A n l):Rd st w B A n l:=by
 refine ⟨h.1,fun hn=>?_⟩;obtain ⟨b,o,e,hb,hc⟩:=h.2 hn;refine ⟨b,o,e,hb,fun i x hx=>?_⟩;obtain ⟨cs,hR,hcs⟩:=hc i x hx;have hR':cs=[st x]:=hR;subst hR'
 have:=hcs 0 (st x) rfl
 simpa [Enc.text,Enc.val] using this
theorem ow_one {α β:Type} {E:Enc α} {f:β→Value} {w w':World} {base b1 e1 e n c n1 c1:Nat} {A A1:Option Addr} {F:Nat→Prop} {l:List α} {l1:List β} (h:Ow f w b1 e1 A1 n1 c1 l1) (ho:OwD E F w base e A n c l) (he:e≠e1) (hg:w.grownBy w' (Value.slice A n c).ownBlock):Ow f w' b1 e1 A1 n1 c1 l1:=by
 obtain ⟨_,r1,-⟩:=ho;exact World.ownsRow.kept h hg (owns_apart r1 h he)
set_option maxRecDepth 100000 in
set_option maxHeartbeats 16000000 in
theorem RAll_any {g:GeoQ} {AU AL:Option Addr} {nU cU nL cL B:Nat} {up:List NodV} {ls:List (List NodV)} (w:World) (hu:RdE nodEn w (Under B) AU nU up) (h:RdE layEn w (Under B) AL nL ls) (hB:B≤w.heap.size) (hF:FewL ls) (hup:FewU up):Calls Tryz.prog 10 #[.agg (stkC g (.slice AU nU cU) (.slice AL nL cL)).toArray] w (AllRet w (allS up ls)):=by
 obtain ⟨W1,hW1⟩:∃W1,(w.alloc (.cells (stkC g (.slice AU nU cU) (.slice AL nL cL)).toArray 29))=W1:=⟨_,rfl⟩;obtain ⟨r0,hb1,hs1⟩:=rowA1 w _ _ hW1;have hW1':(w.alloc (.cells #[.int .i64 g.a,.int .i64 g.b,.int .i64 g.c,.int .i64 g.d,.slice AU nU cU,.slice AL nL cL] 29))=W1:=hW1;have R1:=hide r0;have HB:=hide hb1;have hsz0:=hb1.size;have HU:=hide (hu.under hb1 hB);have HL:=hide (h.under hb1 hB);have HF:=hide hF;have HFU:=hide hup
 have hs1':w.heap.size+1≤W1.heap.size:=by omega
 have HU0:=hide hu;have HL0:=hide h;have hMM:=(plain_many hup.1 hup.2).1;have HMM:=hide hMM;have HR1:=hide (show RowL W1 w.heap.size 29 (stkC g (.slice AU nU cU) (.slice AL nL cL)) from R1.out);have HB1:=hide hb1;unfold stkC;clear r0 hb1 hW1 hu h hF hup hs1 hMM;obtain ⟨tb,htb⟩:∃tb,ls.any tangB=tb:=⟨_,rfl⟩;have htr:=RTrees_any (g:=g) (cU:=cU) (cL:=cL) W1 HU.out HL.out (by omega) HF.out HFU.out;rw [htb] at htr;have HTR:=hide htr;have HTB:=hide htb;obtain ⟨TW,hTW⟩:∃TW,twiceS up (walkW up [1])=TW:=⟨_,rfl⟩;have HTW:=hide hTW;clear htr htb hTW
 go_enter Tryz.func10,Tryz.ntmps10
 go_wp2_with (refine wpList_loadW rfl 29 (.tmp 1) rfl 6 stk_agg stk_size (w.heap.size) 29 rfl (stkC g (.slice AU nU cU) (.slice AL nL cL)) HR1.out rfl ?_)
 refine HTR.out.mono ?_
 rintro e1 w2 ⟨rfl,hbel⟩
 have HB2:=hide (HB1.out.trans (hbel.mono (by omega)));have R2:=hide (HR1.out.on hbel);have HU2:=hide (HU.out.under hbel (by omega));have HL2:=hide (HL.out.under hbel (by omega));have hz2:=hbel.size;clear hbel HTR R1 HR1 HU HL HB1
 cases tb with
 | true =>
  go_wp2_with fail
  go_ret
  refine ⟨none,0,0,rfl,Nat.le_refl _,?_,HB2.out⟩;unfold allS;rw [if_pos HTB.out];exact RdE.none_ _ _ _ _
 | false =>
  go_wp2_with (refine wpList_loadC rfl 26 (.tmp 18) rfl 1 lay_agg lay_size (w.heap.size) 4 29 rfl (stkC g (.slice AU nU cU) (.slice AL nL cL)) [.slice AU nU cU] R2.out rfl rfl ?_)
  have htc:=RTwice_any (c:=cU) (d:=1) _ (und_up (HU2.out.under (below_new (below_self w2) (.cells #[.int .i64 1] 3)) (by omega)) (by simp;omega)) (int_oneS w2) HMM.out (by omega);rw [HTW.out] at htc;refine htc.mono ?_
  rintro e1 w3 ⟨A7,c7,rfl,htw,hbel0⟩
  have hbel:Below w2.heap.size w2 w3:=(below_new (below_self w2) (.cells #[.int .i64 1] 3)).trans (hbel0.mono (by simp));obtain ⟨n7,hn7⟩:∃n7,TW.length=n7:=⟨_,rfl⟩;rw [hn7] at htw ⊢;have HT3:=hide htw;have HB3:=hide (HB2.out.trans (hbel.mono (by omega)));have R3:=hide (R2.out.on hbel);have HU3:=hide (HU2.out.under hbel (by omega));have HL3:=hide (HL2.out.under hbel (by omega));have hz3:=hbel.size;clear htc htw hbel0 hbel HB2 R2 HU2 HL2;have hal:=below_new (below_self w3) (.cells #[] 37)
  have hlt3:w3.heap.size < (w3.alloc (.cells #[] 37)).heap.size:=by simp
  have HO4:=hide (OwD.empty shnEn w3 37);have HB4:=hide (HB3.out.trans (hal.mono HB3.out.size));have HR4:=hide (R3.out.on hal);have HT4:=hide (HT3.out.mono (Kept.of_below hal (fun _ h=>h)) (fun _ h=>h));have HU4:=hide (HU3.out.under hal (by omega));have HL4:=hide (HL3.out.under hal (by omega));clear hal HB3 R3 HT3 HU3 HL3
  go_upto_region 5 with fail
  generalize w3.alloc (.cells #[] 37)=w4 at *
  obtain ⟨V,hV⟩:∃V,rootV up ls=V:=⟨_,rfl⟩;have HV:=hide hV;clear hV
  go_wp2_with (refine wpList_loadW rfl 29 (.tmp 1) rfl 6 stk_agg stk_size (w.heap.size) 29 rfl (stkC g (.slice AU nU cU) (.slice AL nL cL)) HR4.out rfl ?_)
  refine (RVRoot_e HV.out w4 HU4.out HL4.out (by omega) HF.out HFU.out).mono ?_
  rintro e2 wV ⟨AV,cV,rfl,hv,hbel⟩
  simp only [viwC];have hal:=below_new (below_self wV) (.cells (rstC V.1 (.slice AV V.2.length cV) (.slice none 0 0)).toArray 91);have hbl:=hbel.trans (hal.mono hbel.size)
  have hltV:wV.heap.size < (wV.alloc (.cells (rstC V.1 (.slice AV V.2.length cV) (.slice none 0 0)).toArray 91)).heap.size:=by simp
  have hs4:w4.heap.size≤wV.heap.size:=hbel.size;obtain ⟨F0,hF0⟩:∃F0:Nat→Prop,F0=fun b=>w4.heap.size≤b∧b < wV.heap.size:=⟨_,rfl⟩
  have HI:=hide (show RTI (wV.alloc (.cells (rstC V.1 (.slice AV V.2.length cV) (.slice none 0 0)).toArray 91)) w3.heap.size wV.heap.size F0 (some ⟨w3.heap.size,0,none⟩) 0 0 (some ⟨wV.heap.size,0,none⟩) 1 1 (tourS up ls 0).2 (tourS up ls 0).1 from by
   refine ⟨?_,?_⟩
   ·refine ((HO4.out.grown (grown_below hbl) (by simp)).more (fun _ h=>h.elim) (fun b hb=>⟨?_,fun a ha=>?_⟩))
    ·rw [hF0] at hb
     have:=hb.2
     omega
    ·cases ha
     rw [hF0] at hb;have h1:=hb.1;intro e
     have e2:b=w3.heap.size:=e
     omega
   ·show OwD rstEn F0 _ _ _ _ _ _ [(rootV up ls,[])]
    rw [HV.out]
    exact rst_one wV (V,[]) (d:=0) (by rw [hF0];exact hv) (RdE.none_ _ _ _ _) (fun b hb=>by rw [hF0] at hb;exact hb.2))
  have HB5:=hide (HB4.out.trans (hbl.mono HB4.out.size));have HR5:=hide (HR4.out.on hbl);have HT5:=hide (HT4.out.mono (w':=wV.alloc (.cells (rstC V.1 (.slice AV V.2.length cV) (.slice none 0 0)).toArray 91)) (Kept.of_below hbl (fun b hb=>by have h1:b < w3.heap.size:=hb;omega)) (fun _ h=>h));have HU5:=hide (HU4.out.under hbl (by omega));have HL5:=hide (HL4.out.under hbl (by omega));have hw34:w3.heap.size < w4.heap.size:=hlt3;clear hv hal hbel hbl hF0 HO4 HB4 HR4 HT4 HU4 HL4 hlt3;simp only [rstC] at hltV HI HB5 HR5 HT5 HU5 HL5
  go_wp2_with fail
  generalize wV.alloc (.cells #[.int .i64 V.1,.slice AV V.2.length cV,.slice none 0 0] 91)=w5 at *
  clear HV
  go_loopw [4,5,6] (fun v4 v5 v6 wr=>∃(k:Nat) (A4:Option Addr) (n4 c4:Nat) (A5:Option Addr) (n5 c5:Nat) (F:Nat→Prop),k≤n5∧v4=.slice A4 n4 c4∧v5=.slice A5 n5 c5∧v6=.int .i64 k∧RTI wr w3.heap.size wV.heap.size F A4 n4 c4 A5 n5 c5 (tourS up ls k).2 (tourS up ls k).1∧Below w3.heap.size w5 wr) (fun _ _ v6 _=>1800 - (intOf v6).toNat)
  case atStart=>exact ⟨0,_,0,0,_,1,1,F0,by omega,rfl,rfl,rfl,HI.out,Below.refl _ _⟩
  case round =>
   obtain ⟨k,A4,n4,c4,A5,n5,c5,F,hk,rfl,rfl,rfl,hi,hbr⟩:=hrel;have hbrs:=hbr.size;have HIr:=hide hi;have HBR:=hide hbr;have HRr:=hide (show RowL wr w.heap.size 29 (stkC g (.slice AU nU cU) (.slice AL nL cL)) from (hbr.block _ (by omega)).trans HR5.out);have HTr:=hide (HT5.out.mono (w':=wr) (Kept.of_below hbr (fun _ h=>h)) (fun _ h=>h));have HUr:=hide (HU5.out.mono (w':=wr) (Kept.of_below hbr (fun b hb=>by have h1:b < B:=hb;omega)) (fun _ h=>h));have HLr:=hide (HL5.out.mono (w':=wr) (Kept.of_below hbr (fun b hb=>by have h1:b < B:=hb;omega)) (fun _ h=>h))
   have hFB:∀b,F b→b < wr.heap.size:=by
    obtain ⟨css,-,-,-,hD⟩:=hi.out;exact fun b hb=>(hD b hb).1
   have HFB:=hide hFB;have htt:=tang_tree HTB.out;have hpot:=tour_pot htt HF.out HFU.out k;have hmore:=tour_more htt HF.out HFU.out k
   have hl5:(tourS up ls k).1.length=n5:=by obtain ⟨css,-,-,hl,-⟩:=hi.stp;exact hl
   have hl4:(tourS up ls k).2.length=n4:=by obtain ⟨css,-,-,hl,-⟩:=hi.out;exact hl
   have hn5:n5≤1800:=by have:=hpot.2.2;omega
   have hn4:n4≤100000*k:=by have:=hmore.2;omega
   by_cases hlt:k < n5
   ·obtain ⟨s,hs⟩:∃s,(tourS up ls k).1[k]?=some s:=⟨_,List.getElem?_eq_getElem (by omega)⟩
    have hg:=hpot.1 s (List.mem_of_getElem? hs);have hpl:=hmore.1 s (List.mem_of_getElem? hs);obtain ⟨g5,AV2,cV2,BN,dN,hA5,hcs,hvl,hps⟩:=rst_get hi.stp hs;have hg5:=hi.stp.lt _ hA5;subst hA5;obtain ⟨⟨u,vl⟩,ps⟩:=s;simp only at hcs hvl hps hpl
    have hnV:vl.length≤1000:=by have h1:vl.length≤ls.length:=hg.2.1;have h2:=HF.out.1;omega
    have hui:=hide (good_i64 HFU.out hg)
    have HCV:=hide (show ∀j v,(viwC u (.slice AV2 vl.length cV2))[j]?=some v→wr.cell? ⟨g5,k*3+j,none⟩=some v from fun j v hv=>hcs j v (by
     have hj:j < 2:=(List.getElem?_eq_some_iff.1 hv).1
     rcases j with _|_|j
     ·exact hv
     ·exact hv
     ·omega))
    have HVr:=hide hvl;have HPr:=hide hps;have HTS:=hide (tour_some hs);have HS:=hide hs
    have hkn:(k:Int) < (n5:Int):=by omega
    have q52:wr.cell? ⟨g5,k*3+2,none⟩=some (.slice BN ps.length dN):=hcs 2 _ rfl
    have hg5':g5 < wr.heap.size:=hg5;obtain ⟨L,hL⟩:∃L,namesV up ls (u,vl)=L:=⟨_,rfl⟩;have HL:=hide hL
    have hLl:L.length≤100000:=by rw [←hL];exact names_fewS HF.out HFU.out hnV
    have hLn:∀x∈L,x.length≤12:=fun x hx=>names_right HF.out HFU.out (v:=(u,vl)) (by rw [hL];exact hx);have HLN:=hide hLn
    have hps1:(pathC ps).length≤24000:=by omega
    have hk18:k < 1800:=by omega
    clear hi hbr hFB htt hpot hmore hs hg hpl hcs hvl hps hg5 hL hLn hl4 hl5
    go_wp2_with fail
    refine wp_region_planN (fun w'=>Below wr.heap.size wr w') [(0,true),(1,true),(2,true),(3,true),(4,true),(5,true),(6,false),(7,true)] (by kernel_rfl) (by kernel_rfl) (by kernel_rfl) (by kernel_rfl) rfl (fun _ _ _ _ _ h=>h) (below_drew (below_self wr)) (fun hHh=>?_);simp only [planOps,List.filterMap_cons,List.filterMap_nil,List.getElem?_toArray,List.getElem?_cons_succ,List.getElem?_cons_zero,Option.map_some];refine wpPlan_take (v:=?_) (by kernel_rfl) (fun wS hSw=>?_) ?_;rotate_left
    ·refine execOp_load (x:=.tmp 1) (k:=6) (g:=w.heap.size) (off:=0) (cs:=(stkC g (.slice AU nU cU) (.slice AL nL cL))) ?_ stk_agg stk_size ?_ (fun j v hv=>by rw [Nat.zero_add];exact ((HRr.out.on hSw).cell j).trans hv) rfl <;> rfl
    (try simp only [Act.put,pu1,pu2,pu3])
    iterate 4
     refine wpPlan_take (v:=?_) (by kernel_rfl) (fun wS hSw=>?_) ?_;rotate_left
     ·(try dsimp only at hSw);go_simp;(try with_reducible rfl)
     (try simp only [Act.put,pu1,pu2,pu3])
    refine wpPlan_take (v:=?_) (by kernel_rfl) (fun wS hSw=>?_) ?_;rotate_left
    ·refine execOp_load (x:=.tmp 37) (k:=2) (g:=g5) (off:=k*3) (cs:=(viwC u (.slice AV2 vl.length cV2))) ?_ viw_agg viw_size ?_ (fun j v hv=>(hSw.cell hg5').trans (HCV.out j v hv)) rfl <;> rfl
    (try simp only [Act.put,pu1,pu2,pu3]);refine wpPlan_call (by kernel_rfl) (fun K hK=>?_);have hOh:=hide hHh;clear hHh
    go_simp
    go_at_call 41
    refine (RVNames_e HL.out (BV:=wr.heap.size) _ (HUr.out.under hOh.out (by omega)) (HLr.out.under hOh.out (by omega)) (by have:=hOh.out.size;omega) HF.out HFU.out (HVr.out.mono (Kept.of_below hOh.out HFB.out) HFB.out) hOh.out.size hnV).mono ?_
    rintro e w' ⟨AN,nN,cN,rfl,hnn,hbel⟩
    have HN:=hide hnn;have HNB:=hide hOh.out;clear hnn;refine hK.out _ _ (hOh.out.trans (hbel.mono hOh.out.size)) (fun hHh=>?_);clear hK K;(try simp only [Act.put,pu1,pu2,pu3]);refine wpPlan_take (v:=?_) (by kernel_rfl) (fun wS hSw=>?_) ?_;rotate_left
    ·(try dsimp only at hSw);go_simp;(try with_reducible rfl)
    (try simp only [Act.put,pu1,pu2,pu3]);refine wpPlan_end ?_
    rename World=>wN
    have hszN:=hHh.size;have HNN:=hide (show Ow st wN wr.heap.size 9 AN nN cN L from HN.out);have hN1:L.length=nN:=HN.out.rd.len;have HIN:=hide (HIr.out.on hHh);have HBN:=hide (HBR.out.trans (hHh.mono (by omega)));clear hHh HN HNB HIr HBR HRr HTr HUr HLr HVr HPr HCV q52 hg5'
    go_wp2_with fail
    go_loopw [4,5,8] (fun v4 v5 v8 wx=>∃(j:Nat) (A4':Option Addr) (n4' c4':Nat) (A5':Option Addr) (n5' c5':Nat) (F':Nat→Prop),j≤nN∧v4=.slice A4' n4' c4'∧v5=.slice A5' n5' c5'∧v8=.int .i64 j∧RTI wx w3.heap.size wV.heap.size F' A4' n4' c4' A5' n5' c5' ((tourS up ls k).2++toldK up ls ((u,vl),ps) (L.take j)) ((tourS up ls k).1++nextK up ls ((u,vl),ps) (L.take j))∧Ow st wx wr.heap.size 9 AN nN cN L∧Below w3.heap.size wN wx) (fun _ _ v8 _=>nN - (intOf v8).toNat)
    case atStart=>exact ⟨0,A4,n4,c4,_,n5,c5,F,by omega,rfl,rfl,rfl,by rw [List.take_zero,show toldK up ls ((u,vl),ps) []=[] from rfl,show nextK up ls ((u,vl),ps) []=[] from rfl,List.append_nil,List.append_nil];exact HIN.out,HNN.out,Below.refl _ _⟩
    case round =>
     obtain ⟨j,A4',n4',c4',A5',n5',c5',F',hj,rfl,rfl,rfl,hi,hnn,hbx⟩:=hrel
     rename World=>wx
     have hbxs:=hbx.size;have HIx:=hide hi;have HNx:=hide hnn;have HBW:=hide hbx;have HBX0:=hide (HBN.out.trans hbx);have HRx:=hide (show RowL wx w.heap.size 29 (stkC g (.slice AU nU cU) (.slice AL nL cL)) from (HBX0.out.block _ (by omega)).trans HR5.out);have HTx:=hide (HT5.out.mono (w':=wx) (Kept.of_below HBX0.out (fun _ h=>h)) (fun _ h=>h));have HUx:=hide (HU5.out.mono (w':=wx) (Kept.of_below HBX0.out (fun b hb=>by have h1:b < B:=hb;omega)) (fun _ h=>h));have HLx:=hide (HL5.out.mono (w':=wx) (Kept.of_below HBX0.out (fun b hb=>by have h1:b < B:=hb;omega)) (fun _ h=>h));have hA4:∀a,A4'=some a→a.block < wx.heap.size:=hi.out.lt
     have hFB:∀b,F' b→b < wx.heap.size:=by
      obtain ⟨css,-,-,-,hD⟩:=hi.out;exact fun b hb=>(hD b hb).1
     have HFB:=hide hFB
     have hl5:((tourS up ls k).1++nextK up ls ((u,vl),ps) (L.take j)).length=n5':=by obtain ⟨css,-,-,hl,-⟩:=hi.stp;exact hl
     have hl4:((tourS up ls k).2++toldK up ls ((u,vl),ps) (L.take j)).length=n4':=by obtain ⟨css,-,-,hl,-⟩:=hi.out;exact hl
     have hn5j:n5'≤n5+j:=by
      have h1:=List.length_filter_le (dirX up ls (u,vl)) ((L.take j).filter (fun x=>!againS up u x));have h2:=List.length_filter_le (fun x=>!againS up u x) (L.take j)
      have h3:(L.take j).length≤j:=by rw [List.length_take];omega
      have h4:(tourS up ls k).1.length≤n5:=by obtain ⟨css,-,-,hl,-⟩:=HIN.out.stp;omega
      have h5:(nextK up ls ((u,vl),ps) (L.take j)).length≤j:=by unfold nextK;rw [List.length_map];exact Nat.le_trans h1 (Nat.le_trans h2 h3)
      rw [List.length_append] at hl5;omega
     have hn4j:n4'≤n4+j:=by
      have h2:=List.length_filter_le (fun x=>!againS up u x) (L.take j)
      have h3:(L.take j).length≤j:=by rw [List.length_take];omega
      have h4:(tourS up ls k).2.length≤n4:=by obtain ⟨css,-,-,hl,-⟩:=HIN.out.out;omega
      have h5:(toldK up ls ((u,vl),ps) (L.take j)).length≤j:=by unfold toldK;rw [List.length_map];exact Nat.le_trans h2 h3
      rw [List.length_append] at hl4;omega
     by_cases hjlt:j < nN
     ·obtain ⟨x,hx⟩:∃x,L[j]?=some x:=⟨_,List.getElem?_eq_getElem (by omega)⟩
      have hxl:=HLN.out x (List.mem_of_getElem? hx);have HTSj:=hide (told_succ up ls ((u,vl),ps) hx);have HNSj:=hide (next_succ up ls ((u,vl),ps) hx);have hs2:((tourS up ls k).1++nextK up ls ((u,vl),ps) (L.take j))[k]?=some ((u,vl),ps):=(List.getElem?_append_left (List.getElem?_eq_some_iff.1 HS.out).1).trans HS.out;obtain ⟨g5',AV2',cV2',BN',dN',hA5,hcs,hvl,hps⟩:=rst_get hi.stp hs2;have hg5:=hi.stp.lt _ hA5;subst hA5;simp only at hcs hvl hps
      have HCV:=hide (show ∀j v,(viwC u (.slice AV2' vl.length cV2'))[j]?=some v→wx.cell? ⟨g5',k*3+j,none⟩=some v from fun j v hv=>hcs j v (by
       have hj:j < 2:=(List.getElem?_eq_some_iff.1 hv).1
       rcases j with _|_|j
       ·exact hv
       ·exact hv
       ·omega))
      have HVx:=hide hvl;have HPx:=hide hps
      have q0:wx.cell? ⟨g5',k*3,none⟩=some (.int .i64 u):=hcs 0 _ rfl
      have q2:wx.cell? ⟨g5',k*3+2,none⟩=some (.slice BN' ps.length dN'):=hcs 2 _ rfl
      have hg5':g5' < wx.heap.size:=hg5
      have hkn':(k:Int) < (n5':Int):=by
       have:=(List.getElem?_eq_some_iff.1 hs2).1
       omega
      obtain ⟨bN,oN,hAN,hbN,hcN⟩:=HNx.out.rd.2 (by omega);subst hAN
      have qx:wx.cell? ⟨bN,oN+j,none⟩=some (.string ⟨x.toArray⟩):=hcN j x hx
      have hjn:(j:Int) < (nN:Int):=by omega
      obtain ⟨E,hE⟩:∃E,entO (firstB up u x)=E:=⟨_,rfl⟩;obtain ⟨be,hbe⟩:∃be,(firstB up u x).isSome=be:=⟨_,rfl⟩;have HE:=hide hE;have HBE:=hide hbe;have HAG:=hide (again_eq hE hbe);obtain ⟨S,hS⟩:∃S,stepV up ls (u,vl) x=S:=⟨_,rfl⟩;have HSV:=hide hS;clear hi hnn hbx hFB hs2 hg5 hcs hvl hps hcN hx hE hbe hS hl4 hl5
      go_wp2_with fail
      go_upto_region 13 with fail
      go_cut [9,10] from 46 to 59 (fun v9 v10 wy=>∃g9:Nat,v9=.pointer (some ⟨g9,0,none⟩)∧v10=.bool be∧wx.heap.size≤g9∧RowL wy g9 95 (cellsE E)∧Below wx.heap.size wx wy)
      case first =>
       refine wp_region_G (fun w'=>Below (wx.heap.size) wx w') (.take 0 (.take 1 (.take 2 (.take 3 (.take 4 (.take 5 (.take 6 (.take 7 (.take 8 (.take 9 (.alt 10 (.take 11 (.take 12 (.take 13 (.alt 14 (.alt 15 (.take 16 .leaf) .stop) .stop)))) (.alt 14 (.alt 10 (.take 11 (.take 12 (.take 13 (.alt 15 (.take 16 .leaf) .stop)))) .stop) .stop)))))))))))) (by kernel_rfl) (by kernel_rfl) (by kernel_rfl) (by kernel_rfl) rfl (fun _ _ _ _ _ h=>h) (below_drew (below_self wx)) (fun hHh=>?_)
       generalize wx.drew=wd at *
       simp only [PT.map,List.getElem?_toArray,List.getElem?_cons_succ,List.getElem?_cons_zero];refine wpPT_take (v:=?_) (by kernel_rfl) (fun wS hSw=>?_) ?_;rotate_left
       ·refine execOp_load (x:=.tmp 1) (k:=6) (g:=w.heap.size) (off:=0) (cs:=(stkC g (.slice AU nU cU) (.slice AL nL cL))) ?_ stk_agg stk_size ?_ (fun j v hv=>by rw [Nat.zero_add];exact ((HRx.out.on hSw).cell j).trans hv) rfl <;> rfl
       (try simp only [Act.put,pu1,pu2,pu3])
       iterate 4
        refine wpPT_take (v:=?_) (by kernel_rfl) (fun wS hSw=>?_) ?_;rotate_left
        ·(try dsimp only at hSw);go_simp;(try with_reducible rfl)
        (try simp only [Act.put,pu1,pu2,pu3])
       refine wpPT_take (v:=?_) (by kernel_rfl) (fun wS hSw=>?_) ?_;rotate_left
       ·refine execOp_load (x:=.tmp 51) (k:=2) (g:=g5') (off:=k*3) (cs:=(viwC u (.slice AV2' vl.length cV2'))) ?_ viw_agg viw_size ?_ (fun j v hv=>(hSw.cell hg5').trans (HCV.out j v hv)) rfl <;> rfl
       (try simp only [Act.put,pu1,pu2,pu3])
       iterate 3
        refine wpPT_take (v:=?_) (by kernel_rfl) (fun wS hSw=>?_) ?_;rotate_left
        ·(try dsimp only at hSw);go_simp;(try with_reducible rfl)
        (try simp only [Act.put,pu1,pu2,pu3])
       refine wpPT_take (v:=?_) (by kernel_rfl) (fun wS hSw=>?_) ?_;rotate_left
       ·have qx':wS.cell? ⟨bN,oN+j,none⟩=some (.string ⟨x.toArray⟩):=(hSw.cell hbN).trans qx;go_simp;(try with_reducible rfl)
       (try simp only [Act.put,pu1,pu2,pu3]);refine wpPT_alt (by kernel_rfl) (fun K hK=>?_) ?_
       ·skip
        have hOh:=hide hHh;clear hHh
        go_simp
        go_at_call 42
        refine (REnt17_e HE.out HBE.out (B:=B) _ (HUx.out.under hOh.out (by omega)) (by have:=hOh.out.size;omega) HFU.out).mono ?_
        rintro e w' ⟨rfl,hbel⟩
        have hb':=hbel.mono (B':=wx.heap.size) (by have:=hOh.out.size;omega);clear hbel;refine hK.out _ _ (hOh.out.trans hb') (fun hHh=>?_);clear hK K;(try simp only [Act.put,pu1,pu2,pu3])
        iterate 3
         refine wpPT_take (v:=?_) (by kernel_rfl) (fun wS hSw=>?_) ?_;rotate_left
         ·(try dsimp only at hSw);go_simp;(try with_reducible rfl)
         (try simp only [Act.put,pu1,pu2,pu3])
        refine wpPT_alt (by kernel_rfl) (fun K hK=>?_) ?_;rotate_left
        ·exact wpPT_stop
        have hOh:=hide hHh;clear hHh;unfold Oper.wp execOp
        go_simp
        have hal:=below_new (below_self w') (.cells #[.int .i64 0,.int .i64 0,.string ⟨#[]⟩] 95);have hb':=hal.mono (B':=wx.heap.size) (by have:=hOh.out.size;omega);have HFN:=hide (show RowL (w'.alloc (.cells #[.int .i64 0,.int .i64 0,.string ⟨#[]⟩] 95)) w'.heap.size 95 [.int .i64 0,.int .i64 0,.string ⟨#[]⟩] from RowL.new w' 95 [.int .i64 0,.int .i64 0,.string ⟨#[]⟩]);have g9l:wx.heap.size≤w'.heap.size:=hOh.out.size;refine hK.out _ _ (hOh.out.trans hb') (fun hHh=>?_);clear hK K;have R9:=HFN;clear hal hb' hOh HFN
        generalize w'.alloc (.cells #[.int .i64 0,.int .i64 0,.string ⟨#[]⟩] 95)=z1 at *
        generalize w'.heap.size=g9 at *
        (try simp only [Act.put,pu1,pu2,pu3]);refine wpPT_alt (by kernel_rfl) (fun K hK=>?_) ?_;rotate_left
        ·exact wpPT_stop
        have hOh:=hide hHh;clear hHh;refine wp_storeC 95 (.tmp 9) (.tmp 58) rfl 3 entw_size g9 0 95 rfl [.int .i64 0,.int .i64 0,.string ⟨#[]⟩] (cellsE E) rfl R9.out rfl (by exact Nat.le_refl _) (cellsE_one _) ?_;intro w' hr' hg' hs';rw [splice_all [.int .i64 0,.int .i64 0,.string ⟨#[]⟩] (cellsE E) rfl] at hr';refine hK.out _ _ (hOh.out.grown hg' (by have:=hOh.out.size;omega) (pu4 (by omega))) (fun hHh=>?_);clear hK K R9;have R9:=hide hr';clear hg' hs' hr' hOh;(try simp only [Act.put]);refine wpPT_take (v:=?_) (by kernel_rfl) (fun wS hSw=>?_) ?_;rotate_left
        ·(try dsimp only at hSw);go_simp;(try with_reducible rfl)
        (try simp only [Act.put,pu1,pu2,pu3]);refine wpPT_leaf ?_;have HBX:=hide hHh;clear hHh
        go_wp2_with fail
        go_meet
        case rel=>exact ⟨_,rfl,rfl,g9l,R9.out,HBX.out⟩
       refine wpPT_alt (by kernel_rfl) (fun K hK=>?_) ?_
       ·skip
        have hOh:=hide hHh;clear hHh;unfold Oper.wp execOp
        go_simp
        have hal:=below_new (below_self wd) (.cells #[.int .i64 0,.int .i64 0,.string ⟨#[]⟩] 95);have hb':=hal.mono (B':=wx.heap.size) (by have:=hOh.out.size;omega);have HFN:=hide (show RowL (wd.alloc (.cells #[.int .i64 0,.int .i64 0,.string ⟨#[]⟩] 95)) wd.heap.size 95 [.int .i64 0,.int .i64 0,.string ⟨#[]⟩] from RowL.new wd 95 [.int .i64 0,.int .i64 0,.string ⟨#[]⟩]);have g9l:wx.heap.size≤wd.heap.size:=hOh.out.size;refine hK.out _ _ (hOh.out.trans hb') (fun hHh=>?_);clear hK K;have R9:=HFN;clear hal hb' hOh HFN
        generalize wd.alloc (.cells #[.int .i64 0,.int .i64 0,.string ⟨#[]⟩] 95)=z0 at *
        generalize wd.heap.size=g9 at *
        (try simp only [Act.put,pu1,pu2,pu3]);refine wpPT_alt (by kernel_rfl) (fun K hK=>?_) ?_;rotate_left
        ·exact wpPT_stop
        have hOh:=hide hHh;clear hHh
        go_simp
        go_at_call 42
        refine (REnt17_e HE.out HBE.out (B:=B) _ (HUx.out.under hOh.out (by omega)) (by have:=hOh.out.size;omega) HFU.out).mono ?_
        rintro e w' ⟨rfl,hbel⟩
        have hb':=hbel.mono (B':=wx.heap.size) (by have:=hOh.out.size;omega);replace R9:=hide (R9.out.on hbel);clear hbel;refine hK.out _ _ (hOh.out.trans hb') (fun hHh=>?_);clear hK K;(try simp only [Act.put,pu1,pu2,pu3])
        iterate 3
         refine wpPT_take (v:=?_) (by kernel_rfl) (fun wS hSw=>?_) ?_;rotate_left
         ·(try dsimp only at hSw);go_simp;(try with_reducible rfl)
         (try simp only [Act.put,pu1,pu2,pu3])
        refine wpPT_alt (by kernel_rfl) (fun K hK=>?_) ?_;rotate_left
        ·exact wpPT_stop
        have hOh:=hide hHh;clear hHh;refine wp_storeC 95 (.tmp 9) (.tmp 58) rfl 3 entw_size g9 0 95 rfl [.int .i64 0,.int .i64 0,.string ⟨#[]⟩] (cellsE E) rfl R9.out rfl (by exact Nat.le_refl _) (cellsE_one _) ?_;intro w' hr' hg' hs';rw [splice_all [.int .i64 0,.int .i64 0,.string ⟨#[]⟩] (cellsE E) rfl] at hr';refine hK.out _ _ (hOh.out.grown hg' (by have:=hOh.out.size;omega) (pu4 (by omega))) (fun hHh=>?_);clear hK K R9;have R9:=hide hr';clear hg' hs' hr' hOh;(try simp only [Act.put]);refine wpPT_take (v:=?_) (by kernel_rfl) (fun wS hSw=>?_) ?_;rotate_left
        ·(try dsimp only at hSw);go_simp;(try with_reducible rfl)
        (try simp only [Act.put,pu1,pu2,pu3]);refine wpPT_leaf ?_;have HBX:=hide hHh;clear hHh
        go_wp2_with fail
        go_meet
        case rel=>exact ⟨_,rfl,rfl,g9l,R9.out,HBX.out⟩
       exact wpPT_stop
      case rest =>
       obtain ⟨g9,rfl,rfl,hg9,hr9,hby⟩:=hcut
       rename World=>wy
       have R9y:=hide hr9;have hbys:=hby.size;have HBY:=hide hby;have HIy:=hide (HIx.out.on hby);have HNy:=hide (HNx.out.below hby);have HTy:=hide (und_up (und_at HTx.out hby (by omega)) (by omega))
       have q0y:wy.cell? ⟨g5',k*3,none⟩=some (.int .i64 u):=(hby.cell hg5').trans q0
       have hg5y:g5' < wy.heap.size:=by omega
       obtain ⟨r,hr⟩:∃r,againS up u x=r:=⟨_,rfl⟩;have hag:=HAG.out;rw [hr,HTW.out] at hag;have HA:=hide hr
       have hn7:n7≤100000:=by
        have h2:=twice_len up (walkW up [1]);have h3:=walk_tw (plain_many HFU.out.1 HFU.out.2).1 [1];have h4:=(walk_ok up [1]).le;have h5:=HFU.out.1;rw [HTW.out] at h2;omega
       clear hr hr9 hby HAG
       go_upto_region 14 with fail
       go_cut [73] from 60 to 72 (fun v73 wz=>v73=.bool r∧Below wy.heap.size wy wz)
       case first =>
        cases be
        ·skip
         refine wp_region_plan (fun w'=>Below wy.heap.size wy w') [(0,true),(1,true),(2,true),(3,true),(4,true),(5,true),(6,true),(7,true),(8,true),(9,true),(10,true),(11,true),(12,false),(13,true)] (by kernel_rfl) (by kernel_rfl) (by kernel_rfl) (by kernel_rfl) rfl (fun _ _ _ _ _ h=>h) (below_drew (below_self wy)) (fun hHh=>?_);simp only [planOps,List.filterMap_cons,List.filterMap_nil,List.getElem?_toArray,List.getElem?_cons_succ,List.getElem?_cons_zero,Option.map_some]
         iterate 2
          refine wpPlan_take (v:=?_) (by kernel_rfl) (fun wS hSw=>?_) ?_;rotate_left
          ·(try dsimp only at hSw);go_simp;(try with_reducible rfl)
          (try simp only [Act.put,pu1,pu2,pu3])
         refine wpPlan_skip (by kernel_rfl) ?_;(try simp only [Act.put,pu1,pu2,pu3]);refine wpPlan_skip (by kernel_rfl) ?_;(try simp only [Act.put,pu1,pu2,pu3]);refine wpPlan_skip (by kernel_rfl) ?_;(try simp only [Act.put,pu1,pu2,pu3]);refine wpPlan_skip (by kernel_rfl) ?_;(try simp only [Act.put,pu1,pu2,pu3]);refine wpPlan_skip (by kernel_rfl) ?_;(try simp only [Act.put,pu1,pu2,pu3]);refine wpPlan_skip (by kernel_rfl) ?_;(try simp only [Act.put,pu1,pu2,pu3]);refine wpPlan_skip (by kernel_rfl) ?_;(try simp only [Act.put,pu1,pu2,pu3]);refine wpPlan_skip (by kernel_rfl) ?_;(try simp only [Act.put,pu1,pu2,pu3]);refine wpPlan_skip (by kernel_rfl) ?_;(try simp only [Act.put,pu1,pu2,pu3]);refine wpPlan_skip (by kernel_rfl) ?_;(try simp only [Act.put,pu1,pu2,pu3]);refine wpPlan_skip (by kernel_rfl) ?_;(try simp only [Act.put,pu1,pu2,pu3]);refine wpPlan_take (v:=?_) (by kernel_rfl) (fun wS hSw=>?_) ?_;rotate_left
         ·(try dsimp only at hSw);go_simp;(try with_reducible rfl)
         (try simp only [Act.put,pu1,pu2,pu3]);refine wpPlan_end ?_
         go_wp2_with fail
         go_meet
         case rel=>exact ⟨by rw [show r=_ from hag];first|done|rfl,hHh⟩
        ·skip
         refine wp_region_plan (fun w'=>Below wy.heap.size wy w') [(0,true),(1,true),(2,true),(3,true),(4,true),(5,true),(6,true),(7,true),(8,true),(9,true),(10,true),(11,true),(12,false),(13,true)] (by kernel_rfl) (by kernel_rfl) (by kernel_rfl) (by kernel_rfl) rfl (fun _ _ _ _ _ h=>h) (below_drew (below_self wy)) (fun hHh=>?_);simp only [planOps,List.filterMap_cons,List.filterMap_nil,List.getElem?_toArray,List.getElem?_cons_succ,List.getElem?_cons_zero,Option.map_some]
         iterate 8
          refine wpPlan_take (v:=?_) (by kernel_rfl) (fun wS hSw=>?_) ?_;rotate_left
          ·(try dsimp only at hSw);go_simp;(try with_reducible rfl)
          (try simp only [Act.put,pu1,pu2,pu3])
         refine wpPlan_take (v:=?_) (by kernel_rfl) (fun wS hSw=>?_) ?_;rotate_left
         ·have qx':wS.cell? ⟨g5',k*3,none⟩=some (.int .i64 u):=(hSw.cell hg5y).trans q0y;go_simp;(try with_reducible rfl)
         (try simp only [Act.put,pu1,pu2,pu3]);refine wpPlan_take (v:=?_) (by kernel_rfl) (fun wS hSw=>?_) ?_;rotate_left
         ·(try dsimp only at hSw);go_simp;(try with_reducible rfl)
         (try simp only [Act.put,pu1,pu2,pu3]);refine wpPlan_take (v:=?_) (by kernel_rfl) (fun wS hSw=>?_) ?_;rotate_left
         ·have qx':wS.cell? ⟨g9,0,none⟩=some (.int .i64 E.slot):=(R9y.out.on hSw).cell 0;go_simp;(try with_reducible rfl)
         (try simp only [Act.put,pu1,pu2,pu3]);refine wpPlan_take (v:=?_) (by kernel_rfl) (fun wS hSw=>?_) ?_;rotate_left
         ·(try dsimp only at hSw);go_simp;(try with_reducible rfl)
         (try simp only [Act.put,pu1,pu2,pu3]);refine wpPlan_call (by kernel_rfl) (fun K hK=>?_);have hOh:=hide hHh;clear hHh
         go_simp
         go_at_call 43
         refine (In_any (z:=(u,E.slot)) _ (und_up (HTy.out.under hOh.out (Nat.le_refl _)) hOh.out.size) hn7).mono ?_
         rintro e w' ⟨rfl,hbel⟩
         refine hK.out _ _ (hOh.out.trans (hbel.mono hOh.out.size)) (fun hHh=>?_);clear hK K;(try simp only [Act.put,pu1,pu2,pu3]);refine wpPlan_take (v:=?_) (by kernel_rfl) (fun wS hSw=>?_) ?_;rotate_left
         ·(try dsimp only at hSw);go_simp;(try with_reducible rfl)
         (try simp only [Act.put,pu1,pu2,pu3]);refine wpPlan_end ?_
         go_wp2_with fail
         go_meet
         case rel=>exact ⟨by rw [show r=_ from hag];first|done|rfl,hHh⟩
       case rest =>
        obtain ⟨rfl,hbz⟩:=hcut
        rename World=>wz
        have hbzs:=hbz.size;have hyz:=HBY.out.trans (hbz.mono (by omega));have HIz:=hide (HIy.out.on hbz);have HNz:=hide (HNy.out.below hbz);have HBWz:=hide (HBW.out.trans (hyz.mono (by omega)));have HBZ:=hide (HBX0.out.trans (hyz.mono (by omega)));have HFBz:=hide (show ∀b,F' b→b < wz.heap.size from fun b hb=>by have:=HFB.out b hb;omega);have HVz:=hide (HVx.out.mono (w':=wz) (Kept.of_below hyz HFB.out) (fun _ h=>h));have HPz:=hide (HPx.out.mono (w':=wz) (Kept.of_below hyz HFB.out) (fun _ h=>h));have HCVz:=hide (show ∀j v,(viwC u (.slice AV2' vl.length cV2'))[j]?=some v→wz.cell? ⟨g5',k*3+j,none⟩=some v from fun j v hv=>(hyz.cell hg5').trans (HCV.out j v hv))
        have qxz:wz.cell? ⟨bN,oN+j,none⟩=some (.string ⟨x.toArray⟩):=(hyz.cell hbN).trans qx
        have q2z:wz.cell? ⟨g5',k*3+2,none⟩=some (.slice BN' ps.length dN'):=(hyz.cell hg5').trans q2
        have hg5z:g5' < wz.heap.size:=by omega
        have hbNz:bN < wz.heap.size:=by omega
        have HRz:=hide (show RowL wz w.heap.size 29 (stkC g (.slice AU nU cU) (.slice AL nL cL)) from (HBZ.out.block _ (by omega)).trans HR5.out);have HUz:=hide (HU5.out.mono (w':=wz) (Kept.of_below HBZ.out (fun b hb=>by have h1:b < B:=hb;omega)) (fun _ h=>h));have HLz:=hide (HL5.out.mono (w':=wz) (Kept.of_below HBZ.out (fun b hb=>by have h1:b < B:=hb;omega)) (fun _ h=>h));clear hbz hyz hag HIx HIy HNx HNy HBW HBX0 HBY HFB HVx HPx HCV qx q2 q0 q0y hg5' hg5y hbN HRx HUx HLx HTx HTy R9y HE HBE
        cases r
        rotate_left
        ·go_wp2_with fail
         go_roundw
         case rel=>exact ⟨j+1,A4',n4',c4',_,n5',c5',F',by omega,rfl,rfl,by go_num,by rw [HTSj.out,HNSj.out,if_pos HA.out,if_pos HA.out,List.append_nil,List.append_nil];exact HIz.out,HNz.out,HBWz.out⟩
         case measure=>simp [intOf];omega
        ·skip
         go_upto_region 15 with fail
         go_cut [11,12,13] from 74 to 88 (fun v11 v12 v13 wq=>∃(g7 g8:Nat) (A2:Option Addr) (c2 lo hi:Nat),v11=.int .i64 S.1∧v12=.pointer (some ⟨g7,0,none⟩)∧v13=.pointer (some ⟨g8,0,none⟩)∧wz.heap.size≤lo∧StpR wq lo hi A2 S.2.1.2.length S.2.1.2∧RowL wq g7 80 (viwC S.2.1.1 (.slice A2 S.2.1.2.length c2))∧RowL wq g8 31 (prC S.2.2)∧Below wz.heap.size wz wq)
         case first =>
          refine wp_region_G (fun w'=>Below (wz.heap.size) wz w') (.take 0 (.take 1 (.take 2 (.take 3 (.take 4 (.take 5 (.take 6 (.take 7 (.take 8 (.take 9 (.alt 10 (.take 11 (.take 12 (.take 13 (.take 14 (.alt 15 (.alt 16 (.take 17 (.alt 18 (.alt 19 .leaf .stop) .stop)) .stop) (.alt 16 (.alt 15 (.take 17 (.alt 18 (.alt 19 .leaf .stop) .stop)) .stop) .stop)))))) (.alt 15 (.alt 10 (.take 11 (.take 12 (.take 13 (.take 14 (.alt 16 (.take 17 (.alt 18 (.alt 19 .leaf .stop) .stop)) .stop))))) (.alt 16 (.alt 10 (.take 11 (.take 12 (.take 13 (.take 14 (.take 17 (.alt 18 (.alt 19 .leaf .stop) .stop)))))) .stop) .stop)) (.alt 16 (.alt 10 (.take 11 (.take 12 (.take 13 (.take 14 (.alt 15 (.take 17 (.alt 18 (.alt 19 .leaf .stop) .stop)) .stop))))) (.alt 15 (.alt 10 (.take 11 (.take 12 (.take 13 (.take 14 (.take 17 (.alt 18 (.alt 19 .leaf .stop) .stop)))))) .stop) .stop)) .stop))))))))))))) (by kernel_rfl) (by kernel_rfl) (by kernel_rfl) (by kernel_rfl) rfl (fun _ _ _ _ _ h=>h) (below_drew (below_self wz)) (fun hHh=>?_)
          generalize wz.drew=wd at *
          simp only [PT.map,List.getElem?_toArray,List.getElem?_cons_succ,List.getElem?_cons_zero];refine wpPT_take (v:=?_) (by kernel_rfl) (fun wS hSw=>?_) ?_;rotate_left
          ·refine execOp_load (x:=.tmp 1) (k:=6) (g:=w.heap.size) (off:=0) (cs:=(stkC g (.slice AU nU cU) (.slice AL nL cL))) ?_ stk_agg stk_size ?_ (fun j v hv=>by rw [Nat.zero_add];exact ((HRz.out.on hSw).cell j).trans hv) rfl <;> rfl
          (try simp only [Act.put,pu1,pu2,pu3])
          iterate 4
           refine wpPT_take (v:=?_) (by kernel_rfl) (fun wS hSw=>?_) ?_;rotate_left
           ·(try dsimp only at hSw);go_simp;(try with_reducible rfl)
           (try simp only [Act.put,pu1,pu2,pu3])
          refine wpPT_take (v:=?_) (by kernel_rfl) (fun wS hSw=>?_) ?_;rotate_left
          ·refine execOp_load (x:=.tmp 79) (k:=2) (g:=g5') (off:=k*3) (cs:=(viwC u (.slice AV2' vl.length cV2'))) ?_ viw_agg viw_size ?_ (fun j v hv=>(hSw.cell hg5z).trans (HCVz.out j v hv)) rfl <;> rfl
          (try simp only [Act.put,pu1,pu2,pu3])
          iterate 3
           refine wpPT_take (v:=?_) (by kernel_rfl) (fun wS hSw=>?_) ?_;rotate_left
           ·(try dsimp only at hSw);go_simp;(try with_reducible rfl)
           (try simp only [Act.put,pu1,pu2,pu3])
          refine wpPT_take (v:=?_) (by kernel_rfl) (fun wS hSw=>?_) ?_;rotate_left
          ·have qx':wS.cell? ⟨bN,oN+j,none⟩=some (.string ⟨x.toArray⟩):=(hSw.cell hbNz).trans qxz;go_simp;(try with_reducible rfl)
          (try simp only [Act.put,pu1,pu2,pu3]);refine wpPT_alt (by kernel_rfl) (fun K hK=>?_) ?_
          ·skip
           have hOh:=hide hHh;clear hHh
           go_simp
           go_at_call 44
           refine (RVStep_r (u:=u) (cV:=cV2') (BV:=wz.heap.size) HSV.out _ (HUz.out.under hOh.out (by omega)) (HLz.out.under hOh.out (by omega)) (by have:=hOh.out.size;omega) HF.out HFU.out (HVz.out.mono (Kept.of_below hOh.out HFBz.out) HFBz.out) hOh.out.size hnV).mono ?_
           rintro e w' ⟨A2,c2,lo,hi,rfl,hlo,hr5,hbel⟩
           have hb':=hbel.mono (B':=wz.heap.size) (by have:=hOh.out.size;omega);(try have hgl7:=R7.out.lt);(try have hgl8:=R8.out.lt);have HSP:=hide hr5;have hhi:=hr5.2
           have hlo':wz.heap.size≤lo:=by have:=hOh.out.size;omega
           clear hr5 hbel;refine hK.out _ _ (hOh.out.trans hb') (fun hHh=>?_);clear hK K;(try simp only [Act.put,pu1,pu2,pu3])
           iterate 4
            refine wpPT_take (v:=?_) (by kernel_rfl) (fun wS hSw=>?_) ?_;rotate_left
            ·(try dsimp only at hSw);go_simp;(try with_reducible rfl)
            (try simp only [Act.put,pu1,pu2,pu3])
           refine wpPT_alt (by kernel_rfl) (fun K hK=>?_) ?_
           ·skip
            have hOh:=hide hHh;clear hHh;unfold Oper.wp execOp
            go_simp
            have hal:=below_new (below_self w') (.cells #[.int .i64 0,.slice none 0 0] 80);have hb':=hal.mono (B':=wz.heap.size) (by have:=hOh.out.size;omega);have HFN:=hide (show RowL (w'.alloc (.cells #[.int .i64 0,.slice none 0 0] 80)) w'.heap.size 80 (viwC 0 (.slice none 0 0)) from RowL.new w' 80 (viwC 0 (.slice none 0 0)));have g7l:wz.heap.size≤w'.heap.size:=hOh.out.size;refine hK.out _ _ (hOh.out.trans hb') (fun hHh=>?_);clear hK K;replace HSP:=hide (stp_on HSP.out hal);have R7:=HFN;clear hal hb' hOh HFN
            generalize w'.alloc (.cells #[.int .i64 0,.slice none 0 0] 80)=z1 at *
            generalize w'.heap.size=g7 at *
            (try simp only [Act.put,pu1,pu2,pu3]);refine wpPT_alt (by kernel_rfl) (fun K hK=>?_) ?_;rotate_left
            ·exact wpPT_stop
            have hOh:=hide hHh;clear hHh;unfold Oper.wp execOp
            go_simp
            have hal:=below_new (below_self z1) (.cells #[.int .i64 0,.int .i64 0] 31);have hb':=hal.mono (B':=wz.heap.size) (by have:=hOh.out.size;omega);have HFN:=hide (show RowL (z1.alloc (.cells #[.int .i64 0,.int .i64 0] 31)) z1.heap.size 31 (prC (0,0)) from RowL.new z1 31 (prC (0,0)));have g8l:wz.heap.size≤z1.heap.size:=hOh.out.size;have g7ng8:g7 < z1.heap.size:=R7.out.lt;refine hK.out _ _ (hOh.out.trans hb') (fun hHh=>?_);clear hK K;replace HSP:=hide (stp_on HSP.out hal);replace R7:=hide (R7.out.on hal);have R8:=HFN;clear hal hb' hOh HFN
            generalize z1.alloc (.cells #[.int .i64 0,.int .i64 0] 31)=z2 at *
            generalize z1.heap.size=g8 at *
            (try simp only [Act.put,pu1,pu2,pu3]);refine wpPT_take (v:=?_) (by kernel_rfl) (fun wS hSw=>?_) ?_;rotate_left
            ·(try dsimp only at hSw);go_simp;(try with_reducible rfl)
            (try simp only [Act.put,pu1,pu2,pu3]);refine wpPT_alt (by kernel_rfl) (fun K hK=>?_) ?_;rotate_left
            ·exact wpPT_stop
            have hOh:=hide hHh;clear hHh;refine wp_storeC 80 (.tmp 12) (.tmp 87) rfl 2 viw_size g7 0 80 rfl (viwC 0 (.slice none 0 0)) (viwC S.2.1.1 (.slice A2 S.2.1.2.length c2)) rfl R7.out rfl (by exact Nat.le_refl _) (viwC_one _ _ _ _) ?_;intro w' hr' hg' hs';rw [splice_all (viwC 0 (.slice none 0 0)) (viwC S.2.1.1 (.slice A2 S.2.1.2.length c2)) rfl] at hr';refine hK.out _ _ (hOh.out.grown hg' (by have:=hOh.out.size;omega) (pu4 (by omega))) (fun hHh=>?_);clear hK K;replace HSP:=hide (stp_grown HSP.out hg' (by first|omega|(have:=hOh.out.size;omega)));replace R8:=hide (R8.out.grown hg' (pu5 (by omega)));clear R7;have R7:=hide hr';clear hg' hs' hr' hOh;(try simp only [Act.put]);refine wpPT_alt (by kernel_rfl) (fun K hK=>?_) ?_;rotate_left
            ·exact wpPT_stop
            have hOh:=hide hHh;clear hHh;refine wp_storeC 31 (.tmp 13) (.tmp 88) rfl 2 plc_size g8 0 31 rfl (prC (0,0)) (prC S.2.2) rfl R8.out rfl (by exact Nat.le_refl _) (prC_one _) ?_;intro w' hr' hg' hs';rw [splice_all (prC (0,0)) (prC S.2.2) rfl] at hr';refine hK.out _ _ (hOh.out.grown hg' (by have:=hOh.out.size;omega) (pu4 (by omega))) (fun hHh=>?_);clear hK K;replace HSP:=hide (stp_grown HSP.out hg' (by first|omega|(have:=hOh.out.size;omega)));replace R7:=hide (R7.out.grown hg' (pu5 (by omega)));clear R8;have R8:=hide hr';clear hg' hs' hr' hOh;(try simp only [Act.put]);refine wpPT_leaf ?_;have HBX:=hide hHh;clear hHh
            go_wp2_with fail
            go_meet
            case rel=>exact ⟨_,_,_,_,_,_,rfl,rfl,rfl,hlo',HSP.out,R7.out,R8.out,HBX.out⟩
           refine wpPT_alt (by kernel_rfl) (fun K hK=>?_) ?_
           ·skip
            have hOh:=hide hHh;clear hHh;unfold Oper.wp execOp
            go_simp
            have hal:=below_new (below_self w') (.cells #[.int .i64 0,.int .i64 0] 31);have hb':=hal.mono (B':=wz.heap.size) (by have:=hOh.out.size;omega);have HFN:=hide (show RowL (w'.alloc (.cells #[.int .i64 0,.int .i64 0] 31)) w'.heap.size 31 (prC (0,0)) from RowL.new w' 31 (prC (0,0)));have g8l:wz.heap.size≤w'.heap.size:=hOh.out.size;refine hK.out _ _ (hOh.out.trans hb') (fun hHh=>?_);clear hK K;replace HSP:=hide (stp_on HSP.out hal);have R8:=HFN;clear hal hb' hOh HFN
            generalize w'.alloc (.cells #[.int .i64 0,.int .i64 0] 31)=z1 at *
            generalize w'.heap.size=g8 at *
            (try simp only [Act.put,pu1,pu2,pu3]);refine wpPT_alt (by kernel_rfl) (fun K hK=>?_) ?_;rotate_left
            ·exact wpPT_stop
            have hOh:=hide hHh;clear hHh;unfold Oper.wp execOp
            go_simp
            have hal:=below_new (below_self z1) (.cells #[.int .i64 0,.slice none 0 0] 80);have hb':=hal.mono (B':=wz.heap.size) (by have:=hOh.out.size;omega);have HFN:=hide (show RowL (z1.alloc (.cells #[.int .i64 0,.slice none 0 0] 80)) z1.heap.size 80 (viwC 0 (.slice none 0 0)) from RowL.new z1 80 (viwC 0 (.slice none 0 0)));have g7l:wz.heap.size≤z1.heap.size:=hOh.out.size;have g8ng7:g8 < z1.heap.size:=R8.out.lt;refine hK.out _ _ (hOh.out.trans hb') (fun hHh=>?_);clear hK K;replace HSP:=hide (stp_on HSP.out hal);replace R8:=hide (R8.out.on hal);have R7:=HFN;clear hal hb' hOh HFN
            generalize z1.alloc (.cells #[.int .i64 0,.slice none 0 0] 80)=z2 at *
            generalize z1.heap.size=g7 at *
            (try simp only [Act.put,pu1,pu2,pu3]);refine wpPT_take (v:=?_) (by kernel_rfl) (fun wS hSw=>?_) ?_;rotate_left
            ·(try dsimp only at hSw);go_simp;(try with_reducible rfl)
            (try simp only [Act.put,pu1,pu2,pu3]);refine wpPT_alt (by kernel_rfl) (fun K hK=>?_) ?_;rotate_left
            ·exact wpPT_stop
            have hOh:=hide hHh;clear hHh;refine wp_storeC 80 (.tmp 12) (.tmp 87) rfl 2 viw_size g7 0 80 rfl (viwC 0 (.slice none 0 0)) (viwC S.2.1.1 (.slice A2 S.2.1.2.length c2)) rfl R7.out rfl (by exact Nat.le_refl _) (viwC_one _ _ _ _) ?_;intro w' hr' hg' hs';rw [splice_all (viwC 0 (.slice none 0 0)) (viwC S.2.1.1 (.slice A2 S.2.1.2.length c2)) rfl] at hr';refine hK.out _ _ (hOh.out.grown hg' (by have:=hOh.out.size;omega) (pu4 (by omega))) (fun hHh=>?_);clear hK K;replace HSP:=hide (stp_grown HSP.out hg' (by first|omega|(have:=hOh.out.size;omega)));replace R8:=hide (R8.out.grown hg' (pu5 (by omega)));clear R7;have R7:=hide hr';clear hg' hs' hr' hOh;(try simp only [Act.put]);refine wpPT_alt (by kernel_rfl) (fun K hK=>?_) ?_;rotate_left
            ·exact wpPT_stop
            have hOh:=hide hHh;clear hHh;refine wp_storeC 31 (.tmp 13) (.tmp 88) rfl 2 plc_size g8 0 31 rfl (prC (0,0)) (prC S.2.2) rfl R8.out rfl (by exact Nat.le_refl _) (prC_one _) ?_;intro w' hr' hg' hs';rw [splice_all (prC (0,0)) (prC S.2.2) rfl] at hr';refine hK.out _ _ (hOh.out.grown hg' (by have:=hOh.out.size;omega) (pu4 (by omega))) (fun hHh=>?_);clear hK K;replace HSP:=hide (stp_grown HSP.out hg' (by first|omega|(have:=hOh.out.size;omega)));replace R7:=hide (R7.out.grown hg' (pu5 (by omega)));clear R8;have R8:=hide hr';clear hg' hs' hr' hOh;(try simp only [Act.put]);refine wpPT_leaf ?_;have HBX:=hide hHh;clear hHh
            go_wp2_with fail
            go_meet
            case rel=>exact ⟨_,_,_,_,_,_,rfl,rfl,rfl,hlo',HSP.out,R7.out,R8.out,HBX.out⟩
           exact wpPT_stop
          refine wpPT_alt (by kernel_rfl) (fun K hK=>?_) ?_
          ·skip
           have hOh:=hide hHh;clear hHh;unfold Oper.wp execOp
           go_simp
           have hal:=below_new (below_self wd) (.cells #[.int .i64 0,.slice none 0 0] 80);have hb':=hal.mono (B':=wz.heap.size) (by have:=hOh.out.size;omega);have HFN:=hide (show RowL (wd.alloc (.cells #[.int .i64 0,.slice none 0 0] 80)) wd.heap.size 80 (viwC 0 (.slice none 0 0)) from RowL.new wd 80 (viwC 0 (.slice none 0 0)));have g7l:wz.heap.size≤wd.heap.size:=hOh.out.size;refine hK.out _ _ (hOh.out.trans hb') (fun hHh=>?_);clear hK K;have R7:=HFN;clear hal hb' hOh HFN
           generalize wd.alloc (.cells #[.int .i64 0,.slice none 0 0] 80)=z0 at *
           generalize wd.heap.size=g7 at *
           (try simp only [Act.put,pu1,pu2,pu3]);refine wpPT_alt (by kernel_rfl) (fun K hK=>?_) ?_
           ·skip
            have hOh:=hide hHh;clear hHh
            go_simp
            go_at_call 44
            refine (RVStep_r (u:=u) (cV:=cV2') (BV:=wz.heap.size) HSV.out _ (HUz.out.under hOh.out (by omega)) (HLz.out.under hOh.out (by omega)) (by have:=hOh.out.size;omega) HF.out HFU.out (HVz.out.mono (Kept.of_below hOh.out HFBz.out) HFBz.out) hOh.out.size hnV).mono ?_
            rintro e w' ⟨A2,c2,lo,hi,rfl,hlo,hr5,hbel⟩
            have hb':=hbel.mono (B':=wz.heap.size) (by have:=hOh.out.size;omega);(try have hgl7:=R7.out.lt);(try have hgl8:=R8.out.lt);have HSP:=hide hr5;have hhi:=hr5.2
            have hlo':wz.heap.size≤lo:=by have:=hOh.out.size;omega
            clear hr5;replace R7:=hide (R7.out.on hbel);clear hbel;refine hK.out _ _ (hOh.out.trans hb') (fun hHh=>?_);clear hK K;(try simp only [Act.put,pu1,pu2,pu3])
            iterate 4
             refine wpPT_take (v:=?_) (by kernel_rfl) (fun wS hSw=>?_) ?_;rotate_left
             ·(try dsimp only at hSw);go_simp;(try with_reducible rfl)
             (try simp only [Act.put,pu1,pu2,pu3])
            refine wpPT_alt (by kernel_rfl) (fun K hK=>?_) ?_;rotate_left
            ·exact wpPT_stop
            have hOh:=hide hHh;clear hHh;unfold Oper.wp execOp
            go_simp
            have hal:=below_new (below_self w') (.cells #[.int .i64 0,.int .i64 0] 31);have hb':=hal.mono (B':=wz.heap.size) (by have:=hOh.out.size;omega);have HFN:=hide (show RowL (w'.alloc (.cells #[.int .i64 0,.int .i64 0] 31)) w'.heap.size 31 (prC (0,0)) from RowL.new w' 31 (prC (0,0)));have g8l:wz.heap.size≤w'.heap.size:=hOh.out.size;have g7ng8:g7 < w'.heap.size:=R7.out.lt;refine hK.out _ _ (hOh.out.trans hb') (fun hHh=>?_);clear hK K;replace R7:=hide (R7.out.on hal);replace HSP:=hide (stp_on HSP.out hal);have R8:=HFN;clear hal hb' hOh HFN
            generalize w'.alloc (.cells #[.int .i64 0,.int .i64 0] 31)=z2 at *
            generalize w'.heap.size=g8 at *
            (try simp only [Act.put,pu1,pu2,pu3]);refine wpPT_take (v:=?_) (by kernel_rfl) (fun wS hSw=>?_) ?_;rotate_left
            ·(try dsimp only at hSw);go_simp;(try with_reducible rfl)
            (try simp only [Act.put,pu1,pu2,pu3]);refine wpPT_alt (by kernel_rfl) (fun K hK=>?_) ?_;rotate_left
            ·exact wpPT_stop
            have hOh:=hide hHh;clear hHh;refine wp_storeC 80 (.tmp 12) (.tmp 87) rfl 2 viw_size g7 0 80 rfl (viwC 0 (.slice none 0 0)) (viwC S.2.1.1 (.slice A2 S.2.1.2.length c2)) rfl R7.out rfl (by exact Nat.le_refl _) (viwC_one _ _ _ _) ?_;intro w' hr' hg' hs';rw [splice_all (viwC 0 (.slice none 0 0)) (viwC S.2.1.1 (.slice A2 S.2.1.2.length c2)) rfl] at hr';refine hK.out _ _ (hOh.out.grown hg' (by have:=hOh.out.size;omega) (pu4 (by omega))) (fun hHh=>?_);clear hK K;replace HSP:=hide (stp_grown HSP.out hg' (by first|omega|(have:=hOh.out.size;omega)));replace R8:=hide (R8.out.grown hg' (pu5 (by omega)));clear R7;have R7:=hide hr';clear hg' hs' hr' hOh;(try simp only [Act.put]);refine wpPT_alt (by kernel_rfl) (fun K hK=>?_) ?_;rotate_left
            ·exact wpPT_stop
            have hOh:=hide hHh;clear hHh;refine wp_storeC 31 (.tmp 13) (.tmp 88) rfl 2 plc_size g8 0 31 rfl (prC (0,0)) (prC S.2.2) rfl R8.out rfl (by exact Nat.le_refl _) (prC_one _) ?_;intro w' hr' hg' hs';rw [splice_all (prC (0,0)) (prC S.2.2) rfl] at hr';refine hK.out _ _ (hOh.out.grown hg' (by have:=hOh.out.size;omega) (pu4 (by omega))) (fun hHh=>?_);clear hK K;replace R7:=hide (R7.out.grown hg' (pu5 (by omega)));replace HSP:=hide (stp_grown HSP.out hg' (by first|omega|(have:=hOh.out.size;omega)));clear R8;have R8:=hide hr';clear hg' hs' hr' hOh;(try simp only [Act.put]);refine wpPT_leaf ?_;have HBX:=hide hHh;clear hHh
            go_wp2_with fail
            go_meet
            case rel=>exact ⟨_,_,_,_,_,_,rfl,rfl,rfl,hlo',HSP.out,R7.out,R8.out,HBX.out⟩
           refine wpPT_alt (by kernel_rfl) (fun K hK=>?_) ?_
           ·skip
            have hOh:=hide hHh;clear hHh;unfold Oper.wp execOp
            go_simp
            have hal:=below_new (below_self z0) (.cells #[.int .i64 0,.int .i64 0] 31);have hb':=hal.mono (B':=wz.heap.size) (by have:=hOh.out.size;omega);have HFN:=hide (show RowL (z0.alloc (.cells #[.int .i64 0,.int .i64 0] 31)) z0.heap.size 31 (prC (0,0)) from RowL.new z0 31 (prC (0,0)));have g8l:wz.heap.size≤z0.heap.size:=hOh.out.size;have g7ng8:g7 < z0.heap.size:=R7.out.lt;refine hK.out _ _ (hOh.out.trans hb') (fun hHh=>?_);clear hK K;replace R7:=hide (R7.out.on hal);have R8:=HFN;clear hal hb' hOh HFN
            generalize z0.alloc (.cells #[.int .i64 0,.int .i64 0] 31)=z1 at *
            generalize z0.heap.size=g8 at *
            (try simp only [Act.put,pu1,pu2,pu3]);refine wpPT_alt (by kernel_rfl) (fun K hK=>?_) ?_;rotate_left
            ·exact wpPT_stop
            have hOh:=hide hHh;clear hHh
            go_simp
            go_at_call 44
            refine (RVStep_r (u:=u) (cV:=cV2') (BV:=wz.heap.size) HSV.out _ (HUz.out.under hOh.out (by omega)) (HLz.out.under hOh.out (by omega)) (by have:=hOh.out.size;omega) HF.out HFU.out (HVz.out.mono (Kept.of_below hOh.out HFBz.out) HFBz.out) hOh.out.size hnV).mono ?_
            rintro e w' ⟨A2,c2,lo,hi,rfl,hlo,hr5,hbel⟩
            have hb':=hbel.mono (B':=wz.heap.size) (by have:=hOh.out.size;omega);(try have hgl7:=R7.out.lt);(try have hgl8:=R8.out.lt);have HSP:=hide hr5;have hhi:=hr5.2
            have hlo':wz.heap.size≤lo:=by have:=hOh.out.size;omega
            clear hr5;replace R7:=hide (R7.out.on hbel);replace R8:=hide (R8.out.on hbel);clear hbel;refine hK.out _ _ (hOh.out.trans hb') (fun hHh=>?_);clear hK K;(try simp only [Act.put,pu1,pu2,pu3])
            iterate 5
             refine wpPT_take (v:=?_) (by kernel_rfl) (fun wS hSw=>?_) ?_;rotate_left
             ·(try dsimp only at hSw);go_simp;(try with_reducible rfl)
             (try simp only [Act.put,pu1,pu2,pu3])
            refine wpPT_alt (by kernel_rfl) (fun K hK=>?_) ?_;rotate_left
            ·exact wpPT_stop
            have hOh:=hide hHh;clear hHh;refine wp_storeC 80 (.tmp 12) (.tmp 87) rfl 2 viw_size g7 0 80 rfl (viwC 0 (.slice none 0 0)) (viwC S.2.1.1 (.slice A2 S.2.1.2.length c2)) rfl R7.out rfl (by exact Nat.le_refl _) (viwC_one _ _ _ _) ?_;intro w' hr' hg' hs';rw [splice_all (viwC 0 (.slice none 0 0)) (viwC S.2.1.1 (.slice A2 S.2.1.2.length c2)) rfl] at hr';refine hK.out _ _ (hOh.out.grown hg' (by have:=hOh.out.size;omega) (pu4 (by omega))) (fun hHh=>?_);clear hK K;replace R8:=hide (R8.out.grown hg' (pu5 (by omega)));replace HSP:=hide (stp_grown HSP.out hg' (by first|omega|(have:=hOh.out.size;omega)));clear R7;have R7:=hide hr';clear hg' hs' hr' hOh;(try simp only [Act.put]);refine wpPT_alt (by kernel_rfl) (fun K hK=>?_) ?_;rotate_left
            ·exact wpPT_stop
            have hOh:=hide hHh;clear hHh;refine wp_storeC 31 (.tmp 13) (.tmp 88) rfl 2 plc_size g8 0 31 rfl (prC (0,0)) (prC S.2.2) rfl R8.out rfl (by exact Nat.le_refl _) (prC_one _) ?_;intro w' hr' hg' hs';rw [splice_all (prC (0,0)) (prC S.2.2) rfl] at hr';refine hK.out _ _ (hOh.out.grown hg' (by have:=hOh.out.size;omega) (pu4 (by omega))) (fun hHh=>?_);clear hK K;replace R7:=hide (R7.out.grown hg' (pu5 (by omega)));replace HSP:=hide (stp_grown HSP.out hg' (by first|omega|(have:=hOh.out.size;omega)));clear R8;have R8:=hide hr';clear hg' hs' hr' hOh;(try simp only [Act.put]);refine wpPT_leaf ?_;have HBX:=hide hHh;clear hHh
            go_wp2_with fail
            go_meet
            case rel=>exact ⟨_,_,_,_,_,_,rfl,rfl,rfl,hlo',HSP.out,R7.out,R8.out,HBX.out⟩
           exact wpPT_stop
          refine wpPT_alt (by kernel_rfl) (fun K hK=>?_) ?_
          ·skip
           have hOh:=hide hHh;clear hHh;unfold Oper.wp execOp
           go_simp
           have hal:=below_new (below_self wd) (.cells #[.int .i64 0,.int .i64 0] 31);have hb':=hal.mono (B':=wz.heap.size) (by have:=hOh.out.size;omega);have HFN:=hide (show RowL (wd.alloc (.cells #[.int .i64 0,.int .i64 0] 31)) wd.heap.size 31 (prC (0,0)) from RowL.new wd 31 (prC (0,0)));have g8l:wz.heap.size≤wd.heap.size:=hOh.out.size;refine hK.out _ _ (hOh.out.trans hb') (fun hHh=>?_);clear hK K;have R8:=HFN;clear hal hb' hOh HFN
           generalize wd.alloc (.cells #[.int .i64 0,.int .i64 0] 31)=z0 at *
           generalize wd.heap.size=g8 at *
           (try simp only [Act.put,pu1,pu2,pu3]);refine wpPT_alt (by kernel_rfl) (fun K hK=>?_) ?_
           ·skip
            have hOh:=hide hHh;clear hHh
            go_simp
            go_at_call 44
            refine (RVStep_r (u:=u) (cV:=cV2') (BV:=wz.heap.size) HSV.out _ (HUz.out.under hOh.out (by omega)) (HLz.out.under hOh.out (by omega)) (by have:=hOh.out.size;omega) HF.out HFU.out (HVz.out.mono (Kept.of_below hOh.out HFBz.out) HFBz.out) hOh.out.size hnV).mono ?_
            rintro e w' ⟨A2,c2,lo,hi,rfl,hlo,hr5,hbel⟩
            have hb':=hbel.mono (B':=wz.heap.size) (by have:=hOh.out.size;omega);(try have hgl7:=R7.out.lt);(try have hgl8:=R8.out.lt);have HSP:=hide hr5;have hhi:=hr5.2
            have hlo':wz.heap.size≤lo:=by have:=hOh.out.size;omega
            clear hr5;replace R8:=hide (R8.out.on hbel);clear hbel;refine hK.out _ _ (hOh.out.trans hb') (fun hHh=>?_);clear hK K;(try simp only [Act.put,pu1,pu2,pu3])
            iterate 4
             refine wpPT_take (v:=?_) (by kernel_rfl) (fun wS hSw=>?_) ?_;rotate_left
             ·(try dsimp only at hSw);go_simp;(try with_reducible rfl)
             (try simp only [Act.put,pu1,pu2,pu3])
            refine wpPT_alt (by kernel_rfl) (fun K hK=>?_) ?_;rotate_left
            ·exact wpPT_stop
            have hOh:=hide hHh;clear hHh;unfold Oper.wp execOp
            go_simp
            have hal:=below_new (below_self w') (.cells #[.int .i64 0,.slice none 0 0] 80);have hb':=hal.mono (B':=wz.heap.size) (by have:=hOh.out.size;omega);have HFN:=hide (show RowL (w'.alloc (.cells #[.int .i64 0,.slice none 0 0] 80)) w'.heap.size 80 (viwC 0 (.slice none 0 0)) from RowL.new w' 80 (viwC 0 (.slice none 0 0)));have g7l:wz.heap.size≤w'.heap.size:=hOh.out.size;have g8ng7:g8 < w'.heap.size:=R8.out.lt;refine hK.out _ _ (hOh.out.trans hb') (fun hHh=>?_);clear hK K;replace R8:=hide (R8.out.on hal);replace HSP:=hide (stp_on HSP.out hal);have R7:=HFN;clear hal hb' hOh HFN
            generalize w'.alloc (.cells #[.int .i64 0,.slice none 0 0] 80)=z2 at *
            generalize w'.heap.size=g7 at *
            (try simp only [Act.put,pu1,pu2,pu3]);refine wpPT_take (v:=?_) (by kernel_rfl) (fun wS hSw=>?_) ?_;rotate_left
            ·(try dsimp only at hSw);go_simp;(try with_reducible rfl)
            (try simp only [Act.put,pu1,pu2,pu3]);refine wpPT_alt (by kernel_rfl) (fun K hK=>?_) ?_;rotate_left
            ·exact wpPT_stop
            have hOh:=hide hHh;clear hHh;refine wp_storeC 80 (.tmp 12) (.tmp 87) rfl 2 viw_size g7 0 80 rfl (viwC 0 (.slice none 0 0)) (viwC S.2.1.1 (.slice A2 S.2.1.2.length c2)) rfl R7.out rfl (by exact Nat.le_refl _) (viwC_one _ _ _ _) ?_;intro w' hr' hg' hs';rw [splice_all (viwC 0 (.slice none 0 0)) (viwC S.2.1.1 (.slice A2 S.2.1.2.length c2)) rfl] at hr';refine hK.out _ _ (hOh.out.grown hg' (by have:=hOh.out.size;omega) (pu4 (by omega))) (fun hHh=>?_);clear hK K;replace R8:=hide (R8.out.grown hg' (pu5 (by omega)));replace HSP:=hide (stp_grown HSP.out hg' (by first|omega|(have:=hOh.out.size;omega)));clear R7;have R7:=hide hr';clear hg' hs' hr' hOh;(try simp only [Act.put]);refine wpPT_alt (by kernel_rfl) (fun K hK=>?_) ?_;rotate_left
            ·exact wpPT_stop
            have hOh:=hide hHh;clear hHh;refine wp_storeC 31 (.tmp 13) (.tmp 88) rfl 2 plc_size g8 0 31 rfl (prC (0,0)) (prC S.2.2) rfl R8.out rfl (by exact Nat.le_refl _) (prC_one _) ?_;intro w' hr' hg' hs';rw [splice_all (prC (0,0)) (prC S.2.2) rfl] at hr';refine hK.out _ _ (hOh.out.grown hg' (by have:=hOh.out.size;omega) (pu4 (by omega))) (fun hHh=>?_);clear hK K;replace HSP:=hide (stp_grown HSP.out hg' (by first|omega|(have:=hOh.out.size;omega)));replace R7:=hide (R7.out.grown hg' (pu5 (by omega)));clear R8;have R8:=hide hr';clear hg' hs' hr' hOh;(try simp only [Act.put]);refine wpPT_leaf ?_;have HBX:=hide hHh;clear hHh
            go_wp2_with fail
            go_meet
            case rel=>exact ⟨_,_,_,_,_,_,rfl,rfl,rfl,hlo',HSP.out,R7.out,R8.out,HBX.out⟩
           refine wpPT_alt (by kernel_rfl) (fun K hK=>?_) ?_
           ·skip
            have hOh:=hide hHh;clear hHh;unfold Oper.wp execOp
            go_simp
            have hal:=below_new (below_self z0) (.cells #[.int .i64 0,.slice none 0 0] 80);have hb':=hal.mono (B':=wz.heap.size) (by have:=hOh.out.size;omega);have HFN:=hide (show RowL (z0.alloc (.cells #[.int .i64 0,.slice none 0 0] 80)) z0.heap.size 80 (viwC 0 (.slice none 0 0)) from RowL.new z0 80 (viwC 0 (.slice none 0 0)));have g7l:wz.heap.size≤z0.heap.size:=hOh.out.size;have g8ng7:g8 < z0.heap.size:=R8.out.lt;refine hK.out _ _ (hOh.out.trans hb') (fun hHh=>?_);clear hK K;replace R8:=hide (R8.out.on hal);have R7:=HFN;clear hal hb' hOh HFN
            generalize z0.alloc (.cells #[.int .i64 0,.slice none 0 0] 80)=z1 at *
            generalize z0.heap.size=g7 at *
            (try simp only [Act.put,pu1,pu2,pu3]);refine wpPT_alt (by kernel_rfl) (fun K hK=>?_) ?_;rotate_left
            ·exact wpPT_stop
            have hOh:=hide hHh;clear hHh
            go_simp
            go_at_call 44
            refine (RVStep_r (u:=u) (cV:=cV2') (BV:=wz.heap.size) HSV.out _ (HUz.out.under hOh.out (by omega)) (HLz.out.under hOh.out (by omega)) (by have:=hOh.out.size;omega) HF.out HFU.out (HVz.out.mono (Kept.of_below hOh.out HFBz.out) HFBz.out) hOh.out.size hnV).mono ?_
            rintro e w' ⟨A2,c2,lo,hi,rfl,hlo,hr5,hbel⟩
            have hb':=hbel.mono (B':=wz.heap.size) (by have:=hOh.out.size;omega);(try have hgl7:=R7.out.lt);(try have hgl8:=R8.out.lt);have HSP:=hide hr5;have hhi:=hr5.2
            have hlo':wz.heap.size≤lo:=by have:=hOh.out.size;omega
            clear hr5;replace R8:=hide (R8.out.on hbel);replace R7:=hide (R7.out.on hbel);clear hbel;refine hK.out _ _ (hOh.out.trans hb') (fun hHh=>?_);clear hK K;(try simp only [Act.put,pu1,pu2,pu3])
            iterate 5
             refine wpPT_take (v:=?_) (by kernel_rfl) (fun wS hSw=>?_) ?_;rotate_left
             ·(try dsimp only at hSw);go_simp;(try with_reducible rfl)
             (try simp only [Act.put,pu1,pu2,pu3])
            refine wpPT_alt (by kernel_rfl) (fun K hK=>?_) ?_;rotate_left
            ·exact wpPT_stop
            have hOh:=hide hHh;clear hHh;refine wp_storeC 80 (.tmp 12) (.tmp 87) rfl 2 viw_size g7 0 80 rfl (viwC 0 (.slice none 0 0)) (viwC S.2.1.1 (.slice A2 S.2.1.2.length c2)) rfl R7.out rfl (by exact Nat.le_refl _) (viwC_one _ _ _ _) ?_;intro w' hr' hg' hs';rw [splice_all (viwC 0 (.slice none 0 0)) (viwC S.2.1.1 (.slice A2 S.2.1.2.length c2)) rfl] at hr';refine hK.out _ _ (hOh.out.grown hg' (by have:=hOh.out.size;omega) (pu4 (by omega))) (fun hHh=>?_);clear hK K;replace R8:=hide (R8.out.grown hg' (pu5 (by omega)));replace HSP:=hide (stp_grown HSP.out hg' (by first|omega|(have:=hOh.out.size;omega)));clear R7;have R7:=hide hr';clear hg' hs' hr' hOh;(try simp only [Act.put]);refine wpPT_alt (by kernel_rfl) (fun K hK=>?_) ?_;rotate_left
            ·exact wpPT_stop
            have hOh:=hide hHh;clear hHh;refine wp_storeC 31 (.tmp 13) (.tmp 88) rfl 2 plc_size g8 0 31 rfl (prC (0,0)) (prC S.2.2) rfl R8.out rfl (by exact Nat.le_refl _) (prC_one _) ?_;intro w' hr' hg' hs';rw [splice_all (prC (0,0)) (prC S.2.2) rfl] at hr';refine hK.out _ _ (hOh.out.grown hg' (by have:=hOh.out.size;omega) (pu4 (by omega))) (fun hHh=>?_);clear hK K;replace R7:=hide (R7.out.grown hg' (pu5 (by omega)));replace HSP:=hide (stp_grown HSP.out hg' (by first|omega|(have:=hOh.out.size;omega)));clear R8;have R8:=hide hr';clear hg' hs' hr' hOh;(try simp only [Act.put]);refine wpPT_leaf ?_;have HBX:=hide hHh;clear hHh
            go_wp2_with fail
            go_meet
            case rel=>exact ⟨_,_,_,_,_,_,rfl,rfl,rfl,hlo',HSP.out,R7.out,R8.out,HBX.out⟩
           exact wpPT_stop
          exact wpPT_stop
         case rest =>
          obtain ⟨g7,g8,A2,c2,lo,hi,rfl,rfl,rfl,hlo,hsp,h7,h8,hbq⟩:=hcut
          rename World=>wq
          have hszq:=hbq.size;have hhi:=hsp.2;have HIq:=hide (HIz.out.on hbq);have HNq:=hide (HNz.out.below hbq);have HBWq:=hide (HBWz.out.trans (hbq.mono (by omega)));have HSq:=hide hsp;have R7q:=hide h7;have R8q:=hide h8;have HPq:=hide (HPz.out.mono (w':=wq) (Kept.of_below hbq HFBz.out) (fun _ h=>h));have HFBq:=hide (show ∀b,F' b→b < wq.heap.size from fun b hb=>by have:=HFBz.out b hb;omega)
          have qxq:wq.cell? ⟨bN,oN+j,none⟩=some (.string ⟨x.toArray⟩):=(hbq.cell hbNz).trans qxz
          have q2q:wq.cell? ⟨g5',k*3+2,none⟩=some (.slice BN' ps.length dN'):=(hbq.cell hg5z).trans q2z
          have hg5q:g5' < wq.heap.size:=by omega
          have hbNq:bN < wq.heap.size:=by omega
          have hpn:ps.length≤24000:=by have h1:=pathC_len ps;omega
          clear hsp h7 h8 hbq HIz HNz HBWz HPz HVz HCVz qxz q2z HRz HUz HLz HBZ
          go_upto_region 16 with fail
          go_cut [14] from 89 to 101 (fun v14 wt=>∃(A14:Option Addr) (c14:Nat),v14=.slice A14 (ps.length+1) c14∧RdE Enc.text wt (fun b=>wq.heap.size≤b∧b < wt.heap.size) A14 (ps.length+1) (ps++[x])∧Below wq.heap.size wq wt)
          case first =>
           refine wp_region_G (fun w'=>Below wq.heap.size wq w') (.take 1 (.take 2 (.take 3 (.take 4 (.take 5 (.take 7 (.take 8 (.take 9 (.take 10 (.alt 0 (.alt 6 (.alt 11 (.alt 12 (.take 13 .leaf) .stop) .stop) (.alt 11 (.alt 6 (.alt 12 (.take 13 .leaf) .stop) .stop) .stop)) (.alt 11 (.alt 0 (.alt 6 (.alt 12 (.take 13 .leaf) .stop) .stop) .stop) .stop))))))))))) (by kernel_rfl) (by kernel_rfl) (by kernel_rfl) (by kernel_rfl) rfl (fun _ _ _ _ _ h=>h) (below_drew (below_self wq)) (fun hHh=>?_)
           generalize wq.drew=wd at *
           simp only [PT.map,List.getElem?_toArray,List.getElem?_cons_succ,List.getElem?_cons_zero]
           iterate 4
            refine wpPT_take (v:=?_) (by kernel_rfl) (fun wS hSw=>?_) ?_;rotate_left
            ·(try dsimp only at hSw);go_simp;(try with_reducible rfl)
            (try simp only [Act.put,pu1,pu2,pu3])
           refine wpPT_take (v:=?_) (by kernel_rfl) (fun wS hSw=>?_) ?_;rotate_left
           ·have qx':wS.cell? ⟨g5',k*3+2,none⟩=some (.slice BN' ps.length dN'):=(hSw.cell hg5q).trans q2q;go_simp;(try with_reducible rfl)
           (try simp only [Act.put,pu1,pu2,pu3])
           iterate 3
            refine wpPT_take (v:=?_) (by kernel_rfl) (fun wS hSw=>?_) ?_;rotate_left
            ·(try dsimp only at hSw);go_simp;(try with_reducible rfl)
            (try simp only [Act.put,pu1,pu2,pu3])
           refine wpPT_take (v:=?_) (by kernel_rfl) (fun wS hSw=>?_) ?_;rotate_left
           ·have qx':wS.cell? ⟨bN,oN+j,none⟩=some (.string ⟨x.toArray⟩):=(hSw.cell hbNq).trans qxq;go_simp;(try with_reducible rfl)
           (try simp only [Act.put,pu1,pu2,pu3]);refine wpPT_alt (by kernel_rfl) (fun K hK=>?_) ?_
           ·skip
            have hOh:=hide hHh;clear hHh;unfold Oper.wp execOp
            go_simp
            have hal:=below_new (below_self wd) (.cells #[] 9);have H0:=hide (OwD.empty Enc.text wd 9);have hb0:wq.heap.size≤wd.heap.size:=hOh.out.size
            have hb0':wd.heap.size < (wd.alloc (.cells #[] 9)).heap.size:=by simp
            refine hK.out _ _ (hOh.out.alloc hOh.out.size _) (fun hHh=>?_);clear hK K hal hOh
            generalize wd.alloc (.cells #[] 9)=y0 at *
            generalize wd.heap.size=b0 at *
            (try simp only [Act.put,pu1,pu2,pu3]);refine wpPT_alt (by kernel_rfl) (fun K hK=>?_) ?_
            ·skip
             have hOh:=hide hHh;clear hHh;refine wp_append_OwG (E:=Enc.text) _ (.tmp 89) (.tmp 94) 41 rfl b0 9 (.string ⟨#[]⟩) 16 Tryz.underlying41 text_inf rfl (by decide) (fun _=>False) (some ⟨b0,0,none⟩) 0 0 [] rfl H0.out text_any F' BN' ps.length dN' ps rfl (HPq.out.mono (Kept.of_below hOh.out HFBq.out) (fun _ h=>h)) ps.length (by omega) (by omega) (by omega) (by omega) (fun A6 c6 w6 ho6 hb6 hg6=>?_);refine hK.out _ _ (hOh.out.trans (hb6.mono hb0)) (fun hHh=>?_);clear hK K;have H6:=hide ho6;have hz6:=hb6.size;clear ho6 hb6 hg6 hOh H0;(try simp only [Act.put,pu1,pu2,pu3]);refine wpPT_alt (by kernel_rfl) (fun K hK=>?_) ?_;rotate_left
             ·exact wpPT_stop
             have hOh:=hide hHh;clear hHh;unfold Oper.wp execOp;have hlit:=lit_str1 x
             go_simp
             have hal:=below_new (below_self w6) (.cells #[.string ⟨x.toArray⟩] 9);have HC:=hide (text_lit1 w6 x);have hb1:wq.heap.size≤w6.heap.size:=hOh.out.size
             have hb1':w6.heap.size < (w6.alloc (.cells #[.string ⟨x.toArray⟩] 9)).heap.size:=by simp
             have hb01:b0≠w6.heap.size:=by omega
             refine hK.out _ _ (hOh.out.alloc hOh.out.size _) (fun hHh=>?_);clear hK K hlit;replace H6:=hide (H6.out.grown (grown_below hal) (by simp));clear hal hOh
             generalize w6.alloc (.cells #[.string ⟨x.toArray⟩] 9)=y1 at *
             generalize w6.heap.size=b1 at *
             (try simp only [Act.put,pu1,pu2,pu3]);refine wpPT_alt (by kernel_rfl) (fun K hK=>?_) ?_;rotate_left
             ·exact wpPT_stop
             have hOh:=hide hHh;clear hHh;refine wp_append_OwG (E:=Enc.text) _ (.tmp 95) (.tmp 100) 41 rfl b0 9 (.string ⟨#[]⟩) 16 Tryz.underlying41 text_inf rfl (by decide) (fun _=>False) A6 ps.length c6 ps rfl H6.out text_any (fun b=>b=b1) (some ⟨b1,0,none⟩) 1 1 [x] rfl HC.out (ps.length+1) rfl (by omega) (by omega) (by omega) (fun A12 c12 w12 ho12 hb12 hg12=>?_);refine hK.out _ _ (hOh.out.trans (hb12.mono hb0)) (fun hHh=>?_);clear hK K;have H12:=hide (flat_fr (lo:=wq.heap.size) ho12.rd text_any (fun a ha=>⟨Nat.le_trans hb0 (ho12.base8 a ha),ho12.lt a ha⟩));clear ho12 hb12 hg12 hOh;(try simp only [Act.put,pu1,pu2,pu3]);refine wpPT_take (v:=?_) (by kernel_rfl) (fun wS hSw=>?_) ?_;rotate_left
             ·(try dsimp only at hSw);go_simp;(try with_reducible rfl)
             (try simp only [Act.put,pu1,pu2,pu3]);refine wpPT_leaf ?_;have HBX:=hide hHh;clear hHh
             go_wp2_with fail
             go_meet
             case rel=>exact ⟨_,_,rfl,H12.out,HBX.out⟩
            refine wpPT_alt (by kernel_rfl) (fun K hK=>?_) ?_
            ·skip
             have hOh:=hide hHh;clear hHh;unfold Oper.wp execOp;have hlit:=lit_str1 x
             go_simp
             have hal:=below_new (below_self y0) (.cells #[.string ⟨x.toArray⟩] 9);have HC:=hide (text_lit1 y0 x);have hb1:wq.heap.size≤y0.heap.size:=hOh.out.size
             have hb1':y0.heap.size < (y0.alloc (.cells #[.string ⟨x.toArray⟩] 9)).heap.size:=by simp
             have hb01:b0≠y0.heap.size:=by omega
             refine hK.out _ _ (hOh.out.alloc hOh.out.size _) (fun hHh=>?_);clear hK K hlit;replace H0:=hide (H0.out.grown (grown_below hal) (by simp));clear hal hOh
             generalize y0.alloc (.cells #[.string ⟨x.toArray⟩] 9)=y1 at *
             generalize y0.heap.size=b1 at *
             (try simp only [Act.put,pu1,pu2,pu3]);refine wpPT_alt (by kernel_rfl) (fun K hK=>?_) ?_;rotate_left
             ·exact wpPT_stop
             have hOh:=hide hHh;clear hHh;refine wp_append_OwG (E:=Enc.text) _ (.tmp 89) (.tmp 94) 41 rfl b0 9 (.string ⟨#[]⟩) 16 Tryz.underlying41 text_inf rfl (by decide) (fun _=>False) (some ⟨b0,0,none⟩) 0 0 [] rfl H0.out text_any F' BN' ps.length dN' ps rfl (HPq.out.mono (Kept.of_below hOh.out HFBq.out) (fun _ h=>h)) ps.length (by omega) (by omega) (by omega) (by omega) (fun A6 c6 w6 ho6 hb6 hg6=>?_);refine hK.out _ _ (hOh.out.trans (hb6.mono hb0)) (fun hHh=>?_);clear hK K;have H6:=hide ho6;have hz6:=hb6.size;replace HC:=hide (HC.out.mono (fun b hb=>hg6.block b (by have h1:b=b1:=hb;omega) (fun e=>by have h1:b=b1:=hb;have h2:b=b0:=Option.some.inj e;omega)) (fun _ h=>h));clear ho6 hb6 hg6 hOh H0;(try simp only [Act.put,pu1,pu2,pu3]);refine wpPT_alt (by kernel_rfl) (fun K hK=>?_) ?_;rotate_left
             ·exact wpPT_stop
             have hOh:=hide hHh;clear hHh;refine wp_append_OwG (E:=Enc.text) _ (.tmp 95) (.tmp 100) 41 rfl b0 9 (.string ⟨#[]⟩) 16 Tryz.underlying41 text_inf rfl (by decide) (fun _=>False) A6 ps.length c6 ps rfl H6.out text_any (fun b=>b=b1) (some ⟨b1,0,none⟩) 1 1 [x] rfl HC.out (ps.length+1) rfl (by omega) (by omega) (by omega) (fun A12 c12 w12 ho12 hb12 hg12=>?_);refine hK.out _ _ (hOh.out.trans (hb12.mono hb0)) (fun hHh=>?_);clear hK K;have H12:=hide (flat_fr (lo:=wq.heap.size) ho12.rd text_any (fun a ha=>⟨Nat.le_trans hb0 (ho12.base8 a ha),ho12.lt a ha⟩));clear ho12 hb12 hg12 hOh;(try simp only [Act.put,pu1,pu2,pu3]);refine wpPT_take (v:=?_) (by kernel_rfl) (fun wS hSw=>?_) ?_;rotate_left
             ·(try dsimp only at hSw);go_simp;(try with_reducible rfl)
             (try simp only [Act.put,pu1,pu2,pu3]);refine wpPT_leaf ?_;have HBX:=hide hHh;clear hHh
             go_wp2_with fail
             go_meet
             case rel=>exact ⟨_,_,rfl,H12.out,HBX.out⟩
            exact wpPT_stop
           refine wpPT_alt (by kernel_rfl) (fun K hK=>?_) ?_
           ·skip
            have hOh:=hide hHh;clear hHh;unfold Oper.wp execOp;have hlit:=lit_str1 x
            go_simp
            have hal:=below_new (below_self wd) (.cells #[.string ⟨x.toArray⟩] 9);have HC:=hide (text_lit1 wd x);have hb1:wq.heap.size≤wd.heap.size:=hOh.out.size
            have hb1':wd.heap.size < (wd.alloc (.cells #[.string ⟨x.toArray⟩] 9)).heap.size:=by simp
            refine hK.out _ _ (hOh.out.alloc hOh.out.size _) (fun hHh=>?_);clear hK K hlit hal hOh
            generalize wd.alloc (.cells #[.string ⟨x.toArray⟩] 9)=y1 at *
            generalize wd.heap.size=b1 at *
            (try simp only [Act.put,pu1,pu2,pu3]);refine wpPT_alt (by kernel_rfl) (fun K hK=>?_) ?_;rotate_left
            ·exact wpPT_stop
            have hOh:=hide hHh;clear hHh;unfold Oper.wp execOp
            go_simp
            have hal:=below_new (below_self y1) (.cells #[] 9);have H0:=hide (OwD.empty Enc.text y1 9);have hb0:wq.heap.size≤y1.heap.size:=hOh.out.size
            have hb0':y1.heap.size < (y1.alloc (.cells #[] 9)).heap.size:=by simp
            have hb1z:b1 < y1.heap.size:=hb1';refine hK.out _ _ (hOh.out.alloc hOh.out.size _) (fun hHh=>?_);clear hK K;replace HC:=hide (HC.out.mono (Kept.of_below hal (fun b hb=>by have h1:b=b1:=hb;omega)) (fun _ h=>h));clear hal hOh
            generalize y1.alloc (.cells #[] 9)=y0 at *
            generalize y1.heap.size=b0 at *
            (try simp only [Act.put,pu1,pu2,pu3]);refine wpPT_alt (by kernel_rfl) (fun K hK=>?_) ?_;rotate_left
            ·exact wpPT_stop
            have hOh:=hide hHh;clear hHh;refine wp_append_OwG (E:=Enc.text) _ (.tmp 89) (.tmp 94) 41 rfl b0 9 (.string ⟨#[]⟩) 16 Tryz.underlying41 text_inf rfl (by decide) (fun _=>False) (some ⟨b0,0,none⟩) 0 0 [] rfl H0.out text_any F' BN' ps.length dN' ps rfl (HPq.out.mono (Kept.of_below hOh.out HFBq.out) (fun _ h=>h)) ps.length (by omega) (by omega) (by omega) (by omega) (fun A6 c6 w6 ho6 hb6 hg6=>?_);refine hK.out _ _ (hOh.out.trans (hb6.mono hb0)) (fun hHh=>?_);clear hK K;have H6:=hide ho6;have hz6:=hb6.size;replace HC:=hide (HC.out.mono (fun b hb=>hg6.block b (by have h1:b=b1:=hb;omega) (fun e=>by have h1:b=b1:=hb;have h2:b=b0:=Option.some.inj e;omega)) (fun _ h=>h));clear ho6 hb6 hg6 hOh H0;(try simp only [Act.put,pu1,pu2,pu3]);refine wpPT_alt (by kernel_rfl) (fun K hK=>?_) ?_;rotate_left
            ·exact wpPT_stop
            have hOh:=hide hHh;clear hHh;refine wp_append_OwG (E:=Enc.text) _ (.tmp 95) (.tmp 100) 41 rfl b0 9 (.string ⟨#[]⟩) 16 Tryz.underlying41 text_inf rfl (by decide) (fun _=>False) A6 ps.length c6 ps rfl H6.out text_any (fun b=>b=b1) (some ⟨b1,0,none⟩) 1 1 [x] rfl HC.out (ps.length+1) rfl (by omega) (by omega) (by omega) (fun A12 c12 w12 ho12 hb12 hg12=>?_);refine hK.out _ _ (hOh.out.trans (hb12.mono hb0)) (fun hHh=>?_);clear hK K;have H12:=hide (flat_fr (lo:=wq.heap.size) ho12.rd text_any (fun a ha=>⟨Nat.le_trans hb0 (ho12.base8 a ha),ho12.lt a ha⟩));clear ho12 hb12 hg12 hOh;(try simp only [Act.put,pu1,pu2,pu3]);refine wpPT_take (v:=?_) (by kernel_rfl) (fun wS hSw=>?_) ?_;rotate_left
            ·(try dsimp only at hSw);go_simp;(try with_reducible rfl)
            (try simp only [Act.put,pu1,pu2,pu3]);refine wpPT_leaf ?_;have HBX:=hide hHh;clear hHh
            go_wp2_with fail
            go_meet
            case rel=>exact ⟨_,_,rfl,H12.out,HBX.out⟩
           exact wpPT_stop
          case rest =>
           obtain ⟨A14,c14,rfl,hpt,hbt⟩:=hcut
           rename World=>wt
           have hszt:=hbt.size;obtain ⟨F2,hF2⟩:∃F2:Nat→Prop,F2=fun b=>F' b∨(lo≤b∧b < hi)∨(wq.heap.size≤b∧b < wt.heap.size):=⟨_,rfl⟩
           have hF2b:∀b,F2 b→b < wt.heap.size:=fun b hb=>by
            rw [hF2] at hb
            rcases hb with hb|hb|hb
            ·have:=HFBq.out b hb;omega
            ·have:=hb.2;omega
            ·exact hb.2
           have HIt:=hide ((HIq.out.on hbt).more (F':=F2) (fun b hb=>by rw [hF2];exact .inl hb) (fun b hb=>by
            refine ⟨hF2b b hb,?_,?_⟩ <;> rw [hF2] at hb
            ·intro a ha e
             have h4:=hA4 a ha
             rcases hb with hb|hb|hb
             ·obtain ⟨_,-,-,-,hD⟩:=HIq.out.out
              exact (hD b hb).2 a ha e
             ·have:=hb.1;omega
             ·have:=hb.1;omega
            ·intro a ha e
             rcases hb with hb|hb|hb
             ·obtain ⟨_,-,-,-,hD⟩:=HIq.out.stp
              exact (hD b hb).2 a ha e
             ·cases ha;have e2:b=g5':=e;have:=hb.1;omega
             ·cases ha;have e2:b=g5':=e;have:=hb.1;omega))
           have HF2:=hide hF2b;have HNt:=hide (HNq.out.below hbt);have HBWt:=hide (HBWq.out.trans (hbt.mono (by omega)));have HVt:=hide (show RdE prEn wt F2 A2 S.2.1.2.length S.2.1.2 from (stp_on HSq.out hbt).1.mono (fun _ _=>rfl) (fun b hb=>by rw [hF2];exact .inr (.inl hb)));have HPt:=hide (show RdE Enc.text wt F2 A14 (ps.length+1) (ps++[x]) from hpt.mono (fun _ _=>rfl) (fun b hb=>by rw [hF2];exact .inr (.inr hb)));have HPU:=hide (text_rd1 (fr_under hpt));have R7t:=hide (R7q.out.on hbt);have R8t:=hide (R8q.out.on hbt);have hjp:joinS (ps++[x])=pathC (ps++[x]):=join_path (by simp)
           have hpcl:(pathC (ps++[x])).length≤30000:=by rw [path_snoc,List.length_append,List.length_cons];omega
           have htl:totL (ps++[x])≤1152921504606846976:=by
            have h1:=totL_pathC (ps++[x]);omega
           have HJC:=hide (show ∀W:World,Rd st W W.heap.size A14 (ps.length+1) (ps++[x])→Calls Tryz.prog 45 #[.slice A14 (ps.length+1) c14] W (fun e w'=>e=.returned (.string ⟨(pathC (ps++[x])).toArray⟩)∧W=w') from fun W hW=>by
            have h1:=RJoin_any (c:=c14) W hW (by omega) htl;rw [hjp] at h1
            exact h1)
           clear hpt hbt hF2 hF2b HIq HNq HBWq HSq R7q R8q HPq HFBq qxq q2q hjp htl HFBz
           go_upto_region 17 with fail
           have hdr:=below_drew (below_self wt);refine wp_region_planN (fun w'=>RowL w' g8 31 (prC S.2.2)∧Below w3.heap.size wt w') [(0,true),(1,true),(3,true),(4,true),(2,false),(5,true),(6,false),(7,false),(8,true)] (by kernel_rfl) (by kernel_rfl) (by kernel_rfl) (by kernel_rfl) rfl (fun _ _ _ _ _ h=>h) ⟨R8t.out.on hdr,hdr.mono (by omega)⟩ (fun hHh=>?_)
           generalize wt.drew=wd at *
           simp only [planOps,List.filterMap_cons,List.filterMap_nil,List.getElem?_toArray,List.getElem?_cons_succ,List.getElem?_cons_zero,Option.map_some]
           iterate 3
            refine wpPlan_take (v:=?_) (by kernel_rfl) (fun wS hSw=>?_) ?_;rotate_left
            ·(try dsimp only at hSw);go_simp;(try with_reducible rfl)
            (try simp only [Act.put,pu1,pu2,pu3])
           refine wpPlan_take (v:=?_) (by kernel_rfl) (fun wS hSw=>?_) ?_;rotate_left
           ·refine execOp_load (x:=.tmp 13) (k:=2) (g:=g8) (off:=0) (cs:=[.int .i64 S.2.2.1,.int .i64 S.2.2.2]) ?_ plc_agg plc_size ?_ (fun j v hv=>by rw [Nat.zero_add];exact (hSw.1.cell j).trans hv) rfl <;> rfl
           (try simp only [Act.put,pu1,pu2,pu3]);refine wpPlan_call (by kernel_rfl) (fun K hK=>?_);have hOh:=hide hHh;clear hHh
           go_simp
           go_at_call 45
           refine (HJC.out _ (HPU.out.on hdr)).mono ?_
           rintro e w' ⟨rfl,rfl⟩
           refine hK.out _ _ (hOh.out) (fun hHh=>?_);clear hK K;(try simp only [Act.put,pu1,pu2,pu3]);refine wpPlan_take (v:=?_) (by kernel_rfl) (fun wS hSw=>?_) ?_;rotate_left
           ·(try dsimp only at hSw);go_simp;(try with_reducible rfl)
           (try simp only [Act.put,pu1,pu2,pu3]);refine wpPlan_call (by kernel_rfl) (fun K hK=>?_);have hOh:=hide hHh;clear hHh;unfold Oper.wp execOp;have hlit:=lit_shn (pathC (ps++[x])) S.1 S.2.2.1 S.2.2.2
           go_simp
           have hba:=below_new (below_self wd) (.cells #[.string ⟨(pathC (ps++[x])).toArray⟩,.int .i64 S.1,.int .i64 S.2.2.1,.int .i64 S.2.2.2] 37);refine hK.out _ _ (⟨hOh.out.1.on hba,hOh.out.2.trans (hba.mono (by have:=hdr.size;omega))⟩) (fun hHh=>?_);clear hK K hlit;(try simp only [Act.put,pu1,pu2,pu3]);refine wpPlan_call (by kernel_rfl) (fun K hK=>?_);have hOh:=hide hHh;clear hHh;have HTL:=hide (HIt.out.on (hdr.trans (hba.mono hdr.size)));have hzd:=hdr.size;refine wp_append_OwG (E:=shnEn) _ (.tmp 102) (.tmp 108) 32 rfl w3.heap.size 37 (.agg #[.string ⟨#[]⟩,.int .i64 0,.int .i64 0,.int .i64 0]) 40 Tryz.underlying32 shnW_info rfl (by decide) F2 A4' n4' c4' _ rfl HTL.out.out (fun h=>h) (fun b=>wd.heap.size≤b∧b < (wd.alloc (.cells (shnC (pathC (ps++[x]),S.1,S.2.2)).toArray 37)).heap.size) (some ⟨wd.heap.size,0,none⟩) 1 1 [(pathC (ps++[x]),S.1,S.2.2)] rfl (enc_lit1 (E:=shnEn) (x:=(pathC (ps++[x]),S.1,S.2.2)) (fun _ _=>rfl) wd 37 (Nat.le_refl _)) (n4'+1) rfl (by omega) (by omega) (by have:=hba.size;omega) (fun A7' c7' w7 ho7 hb7 hg7=>?_);refine hK.out _ _ (⟨hOh.out.1.grown hg7 (owe_apart HTL.out.out.own hOh.out.1 (by decide)),hOh.out.2.trans hb7⟩) (fun hHh=>?_);clear hK K;have HO7:=hide ho7;have HG7:=hide hg7;have HB7:=hide hb7;clear ho7 hg7 hb7;(try simp only [Act.put,pu1,pu2,pu3]);refine wpPlan_take (v:=?_) (by kernel_rfl) (fun wS hSw=>?_) ?_;rotate_left
           ·(try dsimp only at hSw);go_simp;(try with_reducible rfl)
           (try simp only [Act.put,pu1,pu2,pu3]);refine wpPlan_end ?_
           rename World=>w7
           have hbl:=hdr.trans (hba.mono hdr.size);have hTL:=HTL.out;have HI7:=hide (hTL.tell HO7.out HG7.out);have hkp:Kept F2 wt w7:=fun b hb=>(HG7.out.block b (Nat.lt_of_lt_of_le (HF2.out b hb) hbl.size) (fun e=>(hTL.out.notD b e.symm).1 hb)).trans (hbl.block b (HF2.out b hb));have HV7:=hide (HVt.out.mono hkp (fun _ h=>h));have HP7:=hide (HPt.out.mono hkp (fun _ h=>h));have HN7:=hide (ow_one (HNt.out.below hbl) hTL.out (by decide) HG7.out);have R77:=hide ((R7t.out.on hbl).grown HG7.out (owe_apart hTL.out.own (R7t.out.on hbl) (by decide)));have HBW7:=hide (HBWt.out.trans hHh.2);have HF7:=hide (show ∀b,F2 b→b < w7.heap.size from fun b hb=>by have h1:=HF2.out b hb;have h2:=hbl.size;have h3:=HG7.out.size;omega);have hsz7:=hHh.2.size;clear hTL hkp hbl HTL HO7 HG7 HB7 hHh HIt HVt HPt HPU HNt R7t R8t HBWt HJC HF2 hdr hba
           have hA0:¬(againS up u x=true):=by rw [HA.out];simp
           have HTS2:=hide (show toldK up ls ((u,vl),ps) (L.take (j+1))=toldK up ls ((u,vl),ps) (L.take j)++[(pathC (ps++[x]),S.1,S.2.2)] from by
            rw [HTSj.out,if_neg hA0]
            show _++[(pathC (ps++[x]),(stepV up ls (u,vl) x).1,(stepV up ls (u,vl) x).2.2)]=_
            rw [HSV.out])
           by_cases hkd:S.1=1
           rotate_left
           ·have HNS2:=hide (show nextK up ls ((u,vl),ps) (L.take (j+1))=nextK up ls ((u,vl),ps) (L.take j) from by
             rw [HNSj.out,if_neg hA0,HSV.out,if_neg hkd,List.append_nil])
            have hdk:decide (S.1=1)=false:=by simpa using hkd
            clear hA0
            go_wp2_with fail
            refine ⟨⟨j+1,A7',n4'+1,c7',_,n5',c5',F2,by omega,rfl,rfl,by go_num,?_,HN7.out,HBW7.out⟩,?_⟩
            ·rw [HNS2.out,HTS2.out,←List.append_assoc]
             exact HI7.out
            ·simp [intOf]
             omega
           ·have HNS2:=hide (show nextK up ls ((u,vl),ps) (L.take (j+1))=nextK up ls ((u,vl),ps) (L.take j)++[(S.2.1,ps++[x])] from by
             rw [HNSj.out,if_neg hA0,if_pos (by rw [HSV.out];exact hkd)]
             show _++[((stepV up ls (u,vl) x).2.1,ps++[x])]=_
             rw [HSV.out])
            clear hA0;have hba:=below_new (below_self w7) (.cells #[.int .i64 S.2.1.1,.slice A2 S.2.1.2.length c2,.slice A14 (ps.length+1) c14] 91);have hlit:=lit_rst S.2.1.1 A2 A14 S.2.1.2.length c2 (ps.length+1) c14
            have hbaz:w7.heap.size < (w7.alloc (.cells #[.int .i64 S.2.1.1,.slice A2 S.2.1.2.length c2,.slice A14 (ps.length+1) c14] 91)).heap.size:=by simp
            have HIb:=hide (HI7.out.on hba);have hA7:=HI7.out.out.lt;have hA5:=HI7.out.stp.lt
            have hrl:RdE rstEn (w7.alloc (.cells #[.int .i64 S.2.1.1,.slice A2 S.2.1.2.length c2,.slice A14 (ps.length+1) c14] 91)) (fun b=>F2 b∨b=w7.heap.size) (some ⟨w7.heap.size,0,none⟩) 1 [(S.2.1,ps++[x])]:=by
             have e:(ps++[x]).length=ps.length+1:=by simp
             have h:=rst_lit1 w7 (S.2.1,ps++[x]) (c:=c2) (d:=c14) HV7.out (show RdE Enc.text w7 F2 A14 (ps++[x]).length (ps++[x]) from by rw [e];exact HP7.out) HF7.out;simp only [e] at h;exact h
            have HRL:=hide hrl
            have HD:=hide (show ∀b,(F2 b∨b=w7.heap.size)→b < (w7.alloc (.cells #[.int .i64 S.2.1.1,.slice A2 S.2.1.2.length c2,.slice A14 (ps.length+1) c14] 91)).heap.size∧∀a,some (⟨g5',0,none⟩:Addr)=some a→b≠a.block from fun b hb=>by
             obtain ⟨_,-,-,-,hDD⟩:=HI7.out.stp
             rcases hb with hb|hb
             ·exact ⟨Nat.lt_trans (HF7.out b hb) hbaz,(hDD b hb).2⟩
             ·refine ⟨by omega,fun a ha=>?_⟩
              have:=hA5 a ha
              omega)
            have HHA:=hide hba;have HA7:=hide hA7;have HA5:=hide hA5
            have hsV:wV.heap.size≤w7.heap.size:=by omega
            clear hba hrl hA7 hA5
            go_wp2_with (first|(refine wpList_loadW rfl 80 (.tmp 12) rfl 2 viw_agg viw_size g7 80 rfl [.int .i64 S.2.1.1,.slice A2 S.2.1.2.length c2] R77.out rfl ?_)|(refine wpList_append_OwX (E:=rstEn) _ rfl (.tmp 112) (.tmp 116) 92 rfl wV.heap.size 91 (.agg #[.int .i64 0,.slice none 0 0,.slice none 0 0]) 56 Tryz.underlying92 rst_info rfl (by decide) F2 (some ⟨g5',0,none⟩) n5' c5' ((tourS up ls k).1++nextK up ls ((u,vl),ps) (L.take j)) rfl HIb.out.stp (fun b=>F2 b∨b=w7.heap.size) (some ⟨w7.heap.size,0,none⟩) 1 1 [(S.2.1,ps++[x])] rfl HRL.out HD.out (n5'+1) rfl (by omega) (by omega) (by omega) ?_;intro A8 c8 w8 ho8 hb8 hg8;have HO8:=hide ho8;have HB8:=hide hb8;have HG8:=hide hg8;clear ho8 hb8 hg8))
            have HIm:=HIb.out.more (F':=(fun b=>F2 b∨(F2 b∨b=w7.heap.size))) (fun b hb=>.inl hb) (fun b hb=>by
             have hb2:F2 b∨b=w7.heap.size:=hb.elim (fun h=>.inl h) (fun h=>h);obtain ⟨h1,h2⟩:=HD.out b hb2;refine ⟨h1,fun a ha=>?_,h2⟩
             rcases hb2 with h|h
             ·obtain ⟨_,-,-,-,hDD⟩:=HI7.out.out
              exact (hDD b h).2 a ha
             ·have:=HA7.out a ha
              omega)
            have HI8:=HIm.come HO8.out HG8.out;refine ⟨⟨j+1,A7',n4'+1,c7',A8,n5'+1,c8,(fun b=>F2 b∨(F2 b∨b=w7.heap.size)),by omega,rfl,rfl,by go_num,?_,ow_one (HN7.out.below HHA.out) HIb.out.stp (by decide) HG8.out,HBW7.out.trans ((HHA.out.mono (by omega)).trans (HB8.out.mono (by omega)))⟩,?_⟩
            ·rw [HNS2.out,HTS2.out,←List.append_assoc,←List.append_assoc]
             exact HI8
            ·simp [intOf]
             omega
     ·obtain rfl:nN=j:=by omega
      have hnlt:¬((nN:Int) < (nN:Int)):=by omega
      have hall:L.take nN=L:=List.take_of_length_le (by omega);have hkl:=(List.getElem?_eq_some_iff.1 HS.out).1
      have hk1:k+1≤n5':=by rw [←hl5,List.length_append];omega
      have h1:=HIx.out;rw [hall,←HL.out,told_all,next_all] at h1;have HI9:=hide h1;have HTS9:=hide HTS.out;clear h1 hi hnn hbx hl4 hl5 hall hkl
      go_wp2_with fail
      refine ⟨⟨k+1,A4',n4',c4',A5',n5',c5',F',hk1,rfl,rfl,by go_num,by rw [HTS9.out];exact HI9.out,HBX0.out⟩,?_⟩;simp [intOf];omega
   ·obtain rfl:n5=k:=by omega
    have hnlt:¬((n5:Int) < (n5:Int)):=by omega
    have hte:=tour_end (show (tourS up ls n5).1.length≤n5 by omega) (1800 - n5);rw [show n5+(1800 - n5)=1800 by omega] at hte
    have hall:allS up ls=(tourS up ls n5).2:=by
     unfold allS;rw [if_neg (by rw [HTB.out];simp),hte]
    have HALL:=hide hall;have hb9:=HB5.out.trans (HBR.out.mono (by omega));have HB9:=hide hb9;clear hi hbr hFB htt hpot hmore hl4 hl5 hte hall hb9
    go_wp2_with fail
    go_ret
    refine ⟨A4,n4,c4,rfl,HIr.out.out.cap_,?_,HB9.out⟩;rw [HALL.out];exact HIr.out.out.rd
end Go.Proofs.YtggnbflbbfdohaaGreat

