import Derived.Test.YtggnbflbbfdohaaGreatRo32
import Derived.Test.YtggnbflbbfdohaaGreatRo18
import Derived.Test.YtggnbflbbfdohaaGreatRo26
import Derived.Test.YtggnbflbbfdohaaGreatRo29

namespace Go.Proofs.YtggnbflbbfdohaaGreat
open Go.RowKit Go.Shelf Plain

def clO : Nat → Int
 | 0=>8
 | 1=>13
 | _=>14
def ClW (w:World):Prop:=∀j,j < 3→w.cell? ⟨0,j,none⟩=some (.int .i64 (clO j))
theorem ClW.lt {w:World} (h:ClW w):0 < w.heap.size:=block_lt_of_cell (h 0 (by omega))
theorem ClW.below {w w':World} (h:ClW w) (hb:Below w.heap.size w w'):ClW w':=fun j hj=>(hb.cell (p:=⟨0,j,none⟩) h.lt).trans (h j hj)
def RchR (w:World) (lo hi:Nat) (A:Option Addr) (n:Nat) (rs:List Bool):Prop:=(rs.length=n∧(0 < n→∃b o,A=some ⟨b,o,none⟩∧lo≤b∧b < hi∧∀i x,rs[i]?=some x→w.cell? ⟨b,o+i,none⟩=some (.bool x)))∧hi≤w.heap.size
theorem rch_rd {w:World} {lo hi n:Nat} {A:Option Addr} {rs:List Bool} (h:RchR w lo hi A n rs):Rd Value.bool w w.heap.size A n rs:=⟨h.1.1,fun hn=>by
 obtain ⟨b,o,e,h1,h2,hc⟩:=h.1.2 hn
 exact ⟨b,o,e,Nat.lt_of_lt_of_le h2 h.2,hc⟩⟩
def ReachO (w:World) (rs:List Bool) (e:Ending) (w':World):Prop:=∃A n c lo hi,e=.returned (.slice A n c)∧w.heap.size≤lo∧RchR w' lo hi A n rs∧Below w.heap.size w w'
theorem lit_one (W:World):(Instr.buildSlice 56 1 #[(0,.int .i64 1)]).run Tryz.prog W=.ok (.slice (some ⟨W.heap.size,0,none⟩) 1 1) (W.alloc (.cells #[.int .i64 1] 3)):=by
 obtain ⟨it,hi,hz,hsz,-⟩:=info_parts (show (Tryz.prog.info? 3).map (fun i=>(i.zero,i.size,i.bytes))=some (some (.int .i64 0),1,8) from by kernel_rfl)
 refine run_buildSlice W _ 3 1 _ _ it (.int .i64 0) Tryz.underlying56 hi hz (by omega) (by omega) ?_
 rw [hsz]
 have:=Great.fill_whole (s:=1) (by omega) [.int .i64 1] ((Array.range (1*1)).map ((Value.int .i64 0).cells[· % (Value.int .i64 0).cells.size]!)) (by intro v hv;rw [List.mem_singleton] at hv;subst hv;simp [Value.cells]) (by simp)
 simpa [Value.cells] using this
theorem one_row {w:World} {g:Nat} (h:RowL w g 3 [.int .i64 1]):RdE Enc.int w (Under w.heap.size) (some ⟨g,0,none⟩) 1 [1]:=by
 refine ⟨rfl,fun _=>⟨g,0,rfl,h.lt,fun i x hx=>⟨[.int .i64 x],rfl,fun j v hv=>?_⟩⟩⟩
 have hi:i=0:=by have:=(List.getElem?_eq_some_iff.1 hx).1;simpa using this
 subst hi
 obtain rfl:1=x:=by simpa using hx
 have hj:j=0:=by have:=(List.getElem?_eq_some_iff.1 hv).1;simpa using this
 subst hj
 obtain rfl:Value.int .i64 1=v:=by simpa using hv
 exact h.cell 0
theorem nod_cells {w:World} {D:Nat→Prop} {A:Option Addr} {n i:Nat} {l:List NodV} {x:NodV} (h:RdE nodEn w D A n l) (hx:l[i]?=some x):∃b o A0 n0 k0 C0 m0 d0,A=some ⟨b,o,none⟩∧D b∧∀k v,(nodC x (.slice A0 n0 k0) (.slice C0 m0 d0))[k]?=some v→w.cell? ⟨b,o+i*13+k,none⟩=some v:=by
 have hj:i < l.length:=(List.getElem?_eq_some_iff.1 hx).1
 obtain ⟨b,o,e,hD,hc⟩:=h.2 (by have:=h.1;omega)
 obtain ⟨cs,⟨A0,n0,k0,C0,m0,d0,rfl,-⟩,hcs⟩:=hc i x hx
 exact ⟨b,o,A0,n0,k0,C0,m0,d0,e,hD,fun k v hv=>by have h1:=hcs k v hv;rw [show nodEn.k=13 from rfl,←Nat.add_assoc] at h1;exact h1⟩
theorem OReach_any {A F:Option Addr} {n c k d:Nat} {ns:List NodV} {rs:List Bool} (hr:reachL ns (walkW ns [1]).1=rs) (w:World) (h:RdE nodEn w (Under w.heap.size) A n ns) (hf:RdE Enc.int w (Under w.heap.size) F k [1]) (hM:Many ns):Calls Tryz.prog 51 #[.agg #[.slice A n c],.slice F k d] w (ReachO w rs):=by
 refine (Reach_any w h hf hM (by have:=hf.1;simp at this;omega)).mono ?_
 rw [hr]
 rintro e w' ⟨A,n,c,rfl,-,hd,hb,hlo⟩
 exact ⟨A,n,c,w.heap.size,w'.heap.size,rfl,Nat.le_refl _,⟨⟨hd.1,fun hn=>by obtain ⟨b,o,e,h1,hc⟩:=hd.2 hn;exact ⟨b,o,e,hlo b o e,h1,hc⟩⟩,Nat.le_refl _⟩,hb⟩
theorem OFin_R (x:FinV):∀(w:World) (D:Nat→Prop),finEn.R w D (finC x) x:=fun _ _=>rfl
theorem rd_cell {w:World} {B b o n:Nat} {rs:List Bool} (h:Rd Value.bool w B (some ⟨b,o,none⟩) n rs) {i:Nat} {r:Bool} (hi:rs[i]?=some r):w.cell? ⟨b,o+i,none⟩=some (.bool r):=by
 obtain ⟨b',o',e,-,hc⟩:=h.2 (by have:=(List.getElem?_eq_some_iff.1 hi).1;have:=h.1;omega)
 cases e
 exact hc i r hi
theorem rd_some {w:World} {B n:Nat} {A:Option Addr} {rs:List Bool} (h:Rd Value.bool w B A n rs) (hn:0 < n):∃b o,A=some ⟨b,o,none⟩:=by
 obtain ⟨b',o',e,-⟩:=h.2 hn
 exact ⟨b',o',e⟩
end Go.Proofs.YtggnbflbbfdohaaGreat

namespace Go.Proofs.YtggnbflbbfdohaaGreat
open Go.RowKit Go.Shelf Plain Go.Maps

theorem redq_len (s:List UInt8):(redL s).length≤1+s.length:=by
 unfold redL
 split
 ·simp
 ·split
  ·exact split_few s
  ·split <;> simp
set_option maxRecDepth 100000 in
set_option maxHeartbeats 3200000 in
theorem RLoops_b {AO:Option Addr} {n c B:Nat} {own:List (List UInt8)} {s:List UInt8} {b:Bool} (hb:loopR own s=b) (w:World) (ho:Rd st w B AO n own) (hB:B≤w.heap.size) (hn:n≤1000000) (hc:n≤c) (hs:s.length≤100000):Calls Tryz.prog 23 #[.slice AO n c,.string ⟨s.toArray⟩] w (BoolB w b):=by
 obtain ⟨l,hl⟩:∃l,redL s=l:=⟨_,rfl⟩
 obtain ⟨ra,hra⟩:∃ra,redA s=ra:=⟨_,rfl⟩
 obtain ⟨rb,hrb⟩:∃rb,redB s=rb:=⟨_,rfl⟩
 have HRD:=hide (fun W=>PRed_of hl hra hrb W hs)
 have HO:=hide ho
 have HLB:=hide hb
 have HL:=hide hl
 have HRA:=hide hra
 have HRB:=hide hrb
 have hnl:own.length=n:=ho.len
 clear hb ho hl hra hrb
 go_enter Tryz.func23,Tryz.ntmps23
 go_wp2_with fail
 refine (HRD.out w).mono ?_
 rintro e1 w2 ⟨AN,nN,cN,rfl,hon,hbel⟩
 have HB2:=hide hbel
 have HON:=hide hon
 have HO2:=hide (HO.out.below (hbel.mono hB))
 have hs2:=hbel.size
 clear hon hbel
 cases rb with
 | false =>
  go_wp2_with fail
  go_ret
  exact BoolB.eq (by rw [←HLB.out];unfold loopR;rw [HRB.out];rfl) HB2.out
 | true =>
  cases ra with
  | true =>
   have hbg:beginsS l own=b:=by rw [←HLB.out];unfold loopR;rw [HRB.out,HRA.out,HL.out];rfl
   have HBG:=hide hbg
   have hnN:nN≤1000000:=by
    have h1:l.length=nN:=HON.out.rd.len
    have h2:=redq_len s
    rw [HL.out] at h2
    omega
   clear hbg
   go_wp2_with (go_at_call 57;refine (PBegins_b HBG.out w2 HON.out.rd HO2.out hnN hc).mono ?_;rintro e3 w3 ⟨rfl,hbel⟩;have HB3:=hide (HB2.out.trans (hbel.mono hs2));clear hbel)
   go_ret
   exact BoolB.of HB3.out
  | false =>
   have hl1:l=[s]:=by rw [←HL.out];exact redq_one HRB.out HRA.out
   have hnN:nN=1:=by have h1:=HON.out.rd.len;rw [hl1] at h1;simpa using h1.symm
   subst hnN
   obtain ⟨bN,oN,rfl,hbN,hcN⟩:=HON.out.rd.2 (by omega)
   have qs:w2.cell? ⟨bN,oN,none⟩=some (.string ⟨s.toArray⟩):=by
    have h1:=hcN 0 s (by rw [hl1];rfl)
    exact h1
   by_cases hn0:n=0
   ·have hbb:b=false:=by
     rw [←HLB.out]
     unfold loopR
     rw [HRB.out,HRA.out]
     have h0:own=[]:=List.length_eq_zero_iff.1 (by omega)
     rw [h0]
     rfl
    subst hbb
    subst hn0
    clear hcN
    go_wp2_with fail
    refine wp_region_planN (fun w'=>Below w2.heap.size w2 w') [(0,true),(1,true),(2,true),(3,true),(4,true),(5,true),(6,true),(7,true),(8,true),(9,true),(10,true),(11,true),(12,true)] (by kernel_rfl) (by kernel_rfl) (by kernel_rfl) (by kernel_rfl) rfl (fun _ _ _ _ _ h=>h) (below_drew (below_self w2)) (fun hHeld=>?_)
    simp only [planOps,List.filterMap_cons,List.filterMap_nil,List.getElem?_toArray,List.getElem?_cons_succ,List.getElem?_cons_zero,Option.map_some]
    iterate 3
     refine wpPlan_take (v:=?_) (by kernel_rfl) (fun wS hSw=>?_) ?_
     rotate_left
     ·(try dsimp only at hSw);go_simp;(try with_reducible rfl)
     (try simp only [Act.put,pu1,pu2,pu3])
    refine wpPlan_skip (by kernel_rfl) ?_
    (try simp only [Act.put,pu1,pu2,pu3])
    refine wpPlan_skip (by kernel_rfl) ?_
    (try simp only [Act.put,pu1,pu2,pu3])
    refine wpPlan_skip (by kernel_rfl) ?_
    (try simp only [Act.put,pu1,pu2,pu3])
    refine wpPlan_skip (by kernel_rfl) ?_
    (try simp only [Act.put,pu1,pu2,pu3])
    refine wpPlan_skip (by kernel_rfl) ?_
    (try simp only [Act.put,pu1,pu2,pu3])
    refine wpPlan_skip (by kernel_rfl) ?_
    (try simp only [Act.put,pu1,pu2,pu3])
    refine wpPlan_skip (by kernel_rfl) ?_
    (try simp only [Act.put,pu1,pu2,pu3])
    refine wpPlan_skip (by kernel_rfl) ?_
    (try simp only [Act.put,pu1,pu2,pu3])
    iterate 2
     refine wpPlan_take (v:=?_) (by kernel_rfl) (fun wS hSw=>?_) ?_
     rotate_left
     ·(try dsimp only at hSw);go_simp;(try with_reducible rfl)
     (try simp only [Act.put,pu1,pu2,pu3])
    refine wpPlan_end ?_
    have HB3:=hide (HB2.out.trans (hHeld.mono hs2))
    clear hHeld
    go_wp2_with fail
    go_ret
    exact BoolB.of HB3.out
   ·obtain ⟨k,hk⟩:∃k,n=k+1:=⟨n - 1,by omega⟩
    obtain ⟨z,hz⟩:∃z,own[k]?=some z:=⟨_,List.getElem?_eq_getElem (by omega)⟩
    have hbb:(z==s)=b:=by
     rw [←HLB.out]
     unfold loopR
     rw [HRB.out,HRA.out,HL.out,hl1,List.getLast?_eq_getElem?,hnl,hk]
     show _=(own[k+1 - 1]?==some s)
     rw [Nat.add_sub_cancel,hz]
     rfl
    have heq:=fun W=>eq_txt z s W
    have HBBQ:=hide hbb
    obtain ⟨bO,oO,rfl,hbO',hcO⟩:=HO2.out.2 (by omega)
    have qz:=hcO k z hz
    have hbO:bO < w2.heap.size:=by omega
    have hw1:IntKind.i64.wrap ((n:Int) - 1)=(k:Int):=by rw [show (n:Int) - 1=(k:Int) by omega];exact IntWalk.i64_in _ (by omega)
    have hkn:k < n:=by omega
    have hkn2:(k:Int) < (n:Int):=by omega
    clear hcN hcO hz hbb hk
    go_wp2_with fail
    refine wp_region_planN (fun w'=>Below w2.heap.size w2 w') [(0,true),(1,true),(2,true),(3,true),(4,true),(5,true),(6,true),(7,true),(8,true),(9,true),(10,true),(11,true),(12,true)] (by kernel_rfl) (by kernel_rfl) (by kernel_rfl) (by kernel_rfl) rfl (fun _ _ _ _ _ h=>h) (below_drew (below_self w2)) (fun hHeld=>?_)
    simp only [planOps,List.filterMap_cons,List.filterMap_nil,List.getElem?_toArray,List.getElem?_cons_succ,List.getElem?_cons_zero,Option.map_some]
    iterate 6
     refine wpPlan_take (v:=?_) (by kernel_rfl) (fun wS hSw=>?_) ?_
     rotate_left
     ·(try dsimp only at hSw);go_simp;(try with_reducible rfl)
     (try simp only [Act.put,pu1,pu2,pu3])
    refine wpPlan_take (v:=?_) (by kernel_rfl) (fun wS hSw=>?_) ?_
    rotate_left
    ·have qx':wS.cell? ⟨bO,oO+k,none⟩=some (.string ⟨z.toArray⟩):=(hSw.cell hbO).trans qz;go_simp;(try with_reducible rfl)
    (try simp only [Act.put,pu1,pu2,pu3])
    iterate 2
     refine wpPlan_take (v:=?_) (by kernel_rfl) (fun wS hSw=>?_) ?_
     rotate_left
     ·(try dsimp only at hSw);go_simp;(try with_reducible rfl)
     (try simp only [Act.put,pu1,pu2,pu3])
    refine wpPlan_take (v:=?_) (by kernel_rfl) (fun wS hSw=>?_) ?_
    rotate_left
    ·have qx':wS.cell? ⟨bN,oN,none⟩=some (.string ⟨s.toArray⟩):=(hSw.cell hbN).trans qs;go_simp;(try with_reducible rfl)
    (try simp only [Act.put,pu1,pu2,pu3])
    refine wpPlan_take (v:=?_) (by kernel_rfl) (fun wS hSw=>?_) ?_
    rotate_left
    ·have qx':=heq wS;go_simp;(try with_reducible rfl)
    (try simp only [Act.put,pu1,pu2,pu3])
    iterate 2
     refine wpPlan_take (v:=?_) (by kernel_rfl) (fun wS hSw=>?_) ?_
     rotate_left
     ·(try dsimp only at hSw);go_simp;(try with_reducible rfl)
     (try simp only [Act.put,pu1,pu2,pu3])
    refine wpPlan_end ?_
    have HB3:=hide (HB2.out.trans (hHeld.mono hs2))
    clear hHeld
    go_wp2_with fail
    go_ret
    exact BoolB.eq HBBQ.out HB3.out
set_option maxRecDepth 100000 in
set_option maxHeartbeats 4000000 in
theorem Node21_any {g:GeoQ} {AU AL AW AC:Option Addr} {nU cU nL cL n cW cC B lo hi gT bM cM:Nat} {up:List NodV} {l:List WayV} {cl:List (Int×Int)} {f:Int×Int→Bool} {i:Nat} {y:WayV} {x:NodV} (hy:l[i]?=some y) (hx:nodAt up y.ino=x) (w:World) (ht:TrQ w lo hi gT bM cM g AU AL AW AC nU cU nL cL n cW cC l cl f) (hu:RdE nodEn w (Under B) AU nU up) (hB:B≤w.heap.size) (hup:FewU up):Calls Tryz.prog 84 #[.pointer (some ⟨gT,0,none⟩),.int .i64 i] w (NodRet w B x):=by
 obtain ⟨W1,hW1⟩:∃W1,w.alloc (.cells (nodC nod0 (.slice none 0 0) (.slice none 0 0)).toArray 65)=W1:=⟨_,rfl⟩
 obtain ⟨r0,hb1,hs1⟩:=rowA1 w _ _ hW1
 have hW1':w.alloc (.cells #[.int .i64 0,.int .i64 0,.int .i64 0,.int .i64 0,.slice none 0 0,.slice none 0 0,.int .i64 0,.int .i64 0,.string ⟨#[]⟩,.int .i64 0,.int .i64 0,.int .i64 0,.int .i64 0] 65)=W1:=hW1
 have hil:i < n:=by have h1:=(List.getElem?_eq_some_iff.1 hy).1;have h2:=ht.ways.1;omega
 have R4:=hide r0
 have HB:=hide hb1
 have HU:=hide (hu.under hb1 hB)
 have HFU:=hide hup
 have HX:=hide hx
 have ht1:=ht.on hb1
 have HROW:=hide ht1.row
 obtain ⟨bW,oW,rfl,hbW,hcW⟩:=way_get ht1.ways hy
 have qi:W1.cell? ⟨bW,oW+i*3,none⟩=some (.int .i64 y.ino):=hcW 0 _ rfl
 have hbWl:bW < W1.heap.size:=Nat.lt_of_lt_of_le hbW.2.1 ht1.hiw
 have hin:(i:Int) < (n:Int):=by omega
 have hsR:w.heap.size < W1.heap.size:=by omega
 clear r0 hb1 hW1 hy hx ht ht1 hu hup hcW hbW
 go_enter Tryz.func84,Tryz.ntmps84
 go_wp2_with fail
 refine wp_region_planL (fun w'=>Below W1.heap.size W1 w') [(0,true),(1,true),(2,true),(3,true),(4,true),(5,true),(6,true),(7,true),(8,true),(9,true),(10,true),(11,true),(12,true),(13,false)] 14 (by kernel_rfl) (by kernel_rfl) (by kernel_rfl) (by kernel_rfl) (by kernel_rfl) rfl (fun _ _ _ _ _ h=>h) (below_drew (below_self W1)) (fun hHeld=>?_)
 simp only [planOps,List.filterMap_cons,List.filterMap_nil,List.getElem?_toArray,List.getElem?_cons_succ,List.getElem?_cons_zero,Option.map_some]
 iterate 4
  refine wpPlan_take (v:=?_) (by kernel_rfl) (fun wS hSw=>?_) ?_
  rotate_left
  ·(try dsimp only at hSw);go_simp;(try with_reducible rfl)
  (try simp only [Act.put,pu1,pu2,pu3])
 refine wpPlan_take (v:=?_) (by kernel_rfl) (fun wS hSw=>?_) ?_
 rotate_left
 ·refine execOp_load (x:=.tmp 8) (k:=1) (g:=gT) (off:=4) (cs:=[.slice AU nU cU]) ?_ lay_agg lay_size ?_ (fun j v hv=>((HROW.out.on hSw).cell (4+j)).trans (sub_cell (cur:=(trC g (.slice AU nU cU) (.slice AL nL cL) (.slice (some ⟨bW,oW,none⟩) n cW) (.slice AC n cC) (.map (some bM)))) (k:=1) rfl hv)) rfl <;> rfl
 (try simp only [Act.put,pu1,pu2,pu3])
 iterate 3
  refine wpPlan_take (v:=?_) (by kernel_rfl) (fun wS hSw=>?_) ?_
  rotate_left
  ·(try dsimp only at hSw);go_simp;(try with_reducible rfl)
  (try simp only [Act.put,pu1,pu2,pu3])
 refine wpPlan_take (v:=?_) (by kernel_rfl) (fun wS hSw=>?_) ?_
 rotate_left
 ·have qx:=((HROW.out.on hSw).cell 6).trans (show (trC g (.slice AU nU cU) (.slice AL nL cL) (.slice (some ⟨bW,oW,none⟩) n cW) (.slice AC n cC) (.map (some bM)))[6]?=some (.slice (some ⟨bW,oW,none⟩) n cW) from rfl);go_simp;(try with_reducible rfl)
 (try simp only [Act.put,pu1,pu2,pu3])
 iterate 3
  refine wpPlan_take (v:=?_) (by kernel_rfl) (fun wS hSw=>?_) ?_
  rotate_left
  ·(try dsimp only at hSw);go_simp;(try with_reducible rfl)
  (try simp only [Act.put,pu1,pu2,pu3])
 refine wpPlan_take (v:=?_) (by kernel_rfl) (fun wS hSw=>?_) ?_
 rotate_left
 ·have qx:=(hSw.cell hbWl).trans qi;go_simp;(try with_reducible rfl)
 (try simp only [Act.put,pu1,pu2,pu3])
 refine wpPlan_call (by kernel_rfl) (fun K hK=>?_)
 have hOld:=hide hHeld
 clear hHeld
 go_simp
 go_at_call 100
 refine (Of_e HX.out _ (HU.out.under hOld.out (by omega)) (by have:=hOld.out.size;omega) (by have:=HFU.out.1;omega)).mono ?_
 rintro e w' ⟨A8,n8,c8,C8,m8,d8,rfl,hn8,hd8,hm8,he8,hbel⟩
 have HD8:=hide hd8
 have HE8:=hide he8
 clear hd8 he8
 refine hK.out _ _ (hOld.out.trans (hbel.mono hOld.out.size)) (fun hHeld=>?_)
 clear hK K
 (try simp only [Act.put,pu1,pu2,pu3])
 refine wpPlan_end ?_
 refine postL_go rfl (by kernel_rfl) ?_
 have hsx:=hHeld.size
 refine wp_storeC 65 (.tmp 4) (.tmp 18) rfl 13 nod_size (w.heap.size) 0 65 rfl (nodC nod0 (.slice none 0 0) (.slice none 0 0)) (nodC x (.slice A8 n8 c8) (.slice C8 m8 d8)) rfl (R4.out.on hHeld) rfl (by decide) (nodC_one _ _ _ _ _ _ _) ?_
 intro w5 hr5 hg5 hs5
 rw [splice_all (nodC nod0 (.slice none 0 0) (.slice none 0 0)) (nodC x (.slice A8 n8 c8) (.slice C8 m8 d8)) rfl] at hr5
 have HR5:=hide hr5
 have HD5:=hide (und_grown HD8.out hg5 (by omega) hB)
 have HE5:=hide (und_grown HE8.out hg5 (by omega) hB)
 have HB5:=hide ((HB.out.trans (hHeld.mono (by omega))).grown hg5 (by omega) (pu4 (by omega)))
 clear hr5 hg5 hs5 hHeld
 (try simp only [Act.put])
 go_wp2_with fail
 exact bodyPost_ret (res_cell Tryz.results84 rfl nod_agg nod_size HR5.out rfl) rfl ⟨A8,n8,c8,C8,m8,d8,rfl,hn8,HD5.out,hm8,HE5.out,HB5.out⟩
def takF (t:List (Int×Int)) (p:Int×Int):Bool:=decide (p∈t)&&!decide (p=(0,0))
theorem takF_snoc (t:List (Int×Int)) (q:Int×Int):(fun p=>(takF t p||decide (p=q))&&!decide (p=(0,0)))=takF (t++[q]):=by
 funext p
 unfold takF
 by_cases h1:p=(0,0) <;> by_cases h2:p∈t <;> by_cases h3:p=q <;> simp [h1,h2,h3]
set_option maxRecDepth 100000 in
set_option maxHeartbeats 4000000 in
theorem Take_any {g:GeoQ} {AU AL AW AC:Option Addr} {nU cU nL cL n cW cC lo hi gT bM cM:Nat} {l:List WayV} {cl:List (Int×Int)} {t:List (Int×Int)} {i:Nat} {q:Int×Int} (hq:cl[i]?=some q) (hqi:i64 q.1∧i64 q.2) (w:World) (ht:TrQ w lo hi gT bM cM g AU AL AW AC nU cU nL cL n cW cC l cl (takF t)) (hcM:cM≤1000):Calls Tryz.prog 85 #[.pointer (some ⟨gT,0,none⟩),.int .i64 i] w (fun e w'=>e=.returned (.tuple #[])∧TrQ w' lo hi gT bM (cM+1) g AU AL AW AC nU cU nL cL n cW cC l cl (takF (t++[q]))∧w.grownBy w' (some bM)):=by
 have hil:i < n:=by have h1:=(List.getElem?_eq_some_iff.1 hq).1;have h2:=ht.clms.1;omega
 have HT:=hide ht
 have HROW:=hide ht.row
 obtain ⟨bC,oC,rfl,hbC,hc⟩:=ht.clms.2 (by omega)
 obtain ⟨cs,hR,hcs⟩:=hc i q hq
 obtain rfl:cs=prC q:=hR
 have HCQ:=hide (show ∀j v,[Value.int .i64 q.1,.int .i64 q.2][j]?=some v→w.cell? ⟨bC,oC+i*2+j,none⟩=some v from fun j v hv=>by have h1:=hcs j v hv;rw [show prEn.k=2 from rfl,←Nat.add_assoc] at h1;exact h1)
 have hbCl:bC < w.heap.size:=Nat.lt_of_lt_of_le hbC.2.1 ht.hiw
 have hin:(i:Int) < (n:Int):=by omega
 clear hq ht hc hcs hbC
 go_enter Tryz.func85,Tryz.ntmps85
 go_wp2_with fail
 refine wp_region_planL (fun w'=>Below w.heap.size w w') [(0,true),(1,true),(2,true),(3,true),(4,true),(5,true),(6,true),(7,true),(8,true),(9,true),(10,true),(11,true)] 12 (by kernel_rfl) (by kernel_rfl) (by kernel_rfl) (by kernel_rfl) (by kernel_rfl) rfl (fun _ _ _ _ _ h=>h) (below_drew (below_self w)) (fun hHeld=>?_)
 simp only [planOps,List.filterMap_cons,List.filterMap_nil,List.getElem?_toArray,List.getElem?_cons_succ,List.getElem?_cons_zero,Option.map_some]
 iterate 3
  refine wpPlan_take (v:=?_) (by kernel_rfl) (fun wS hSw=>?_) ?_
  rotate_left
  ·(try dsimp only at hSw);go_simp;(try with_reducible rfl)
  (try simp only [Act.put,pu1,pu2,pu3])
 refine wpPlan_take (v:=?_) (by kernel_rfl) (fun wS hSw=>?_) ?_
 rotate_left
 ·have qx:=((HROW.out.on hSw).cell 8).trans (show (trC g (.slice AU nU cU) (.slice AL nL cL) (.slice AW n cW) (.slice (some ⟨bC,oC,none⟩) n cC) (.map (some bM)))[8]?=some (.map (some bM)) from rfl);go_simp;(try with_reducible rfl)
 (try simp only [Act.put,pu1,pu2,pu3])
 iterate 3
  refine wpPlan_take (v:=?_) (by kernel_rfl) (fun wS hSw=>?_) ?_
  rotate_left
  ·(try dsimp only at hSw);go_simp;(try with_reducible rfl)
  (try simp only [Act.put,pu1,pu2,pu3])
 refine wpPlan_take (v:=?_) (by kernel_rfl) (fun wS hSw=>?_) ?_
 rotate_left
 ·have qx:=((HROW.out.on hSw).cell 7).trans (show (trC g (.slice AU nU cU) (.slice AL nL cL) (.slice AW n cW) (.slice (some ⟨bC,oC,none⟩) n cC) (.map (some bM)))[7]?=some (.slice (some ⟨bC,oC,none⟩) n cC) from rfl);go_simp;(try with_reducible rfl)
 (try simp only [Act.put,pu1,pu2,pu3])
 iterate 2
  refine wpPlan_take (v:=?_) (by kernel_rfl) (fun wS hSw=>?_) ?_
  rotate_left
  ·(try dsimp only at hSw);go_simp;(try with_reducible rfl)
  (try simp only [Act.put,pu1,pu2,pu3])
 refine wpPlan_take (v:=?_) (by kernel_rfl) (fun wS hSw=>?_) ?_
 rotate_left
 ·refine execOp_load (x:=.tmp 13) (k:=2) (g:=bC) (off:=oC+i*2) (cs:=[.int .i64 q.1,.int .i64 q.2]) ?_ plc_agg plc_size ?_ (fun j v hv=>(hSw.cell hbCl).trans (HCQ.out j v hv)) rfl <;> rfl
 (try simp only [Act.put,pu1,pu2,pu3])
 refine wpPlan_take (v:=?_) (by kernel_rfl) (fun wS hSw=>?_) ?_
 rotate_left
 ·(try dsimp only at hSw);go_simp;(try with_reducible rfl)
 (try simp only [Act.put,pu1,pu2,pu3])
 refine wpPlan_end ?_
 refine postL_go rfl (by kernel_rfl) ?_
 have hT2:=HT.out.on hHeld
 obtain ⟨w5,hrun,hs5,hg5⟩:=hT2.set.put hqi.1 hqi.2 (by simp only [maxLen];omega)
 have HT5:=hide (hT2.turn hg5 hs5)
 have HG5:=hide (((grown_below hHeld).but (some bM)).trans hg5)
 have q8:w5.cell? ⟨gT,8,none⟩=some (.map (some bM)):=HT5.out.row.cell 8
 obtain ⟨w6,hrun6,hs6,hg6⟩:=HT5.out.set.drop (x:=0) (y:=0) (by simp [i64]) (by simp [i64]) 0
 have HT6:=hide (HT5.out.turn hg6 hs6)
 have HG6:=hide (HG5.out.trans hg6)
 clear hT2 hs5 hg5 hs6 hg6 HT HROW HCQ HT5 HG5
 unfold Oper.wp execOp
 go_simp
 clear hrun hHeld
 (try simp only [Act.put])
 go_wp2_with fail
 refine bodyPost_end (v:=.tuple #[]) (by simp [results,Tryz.results85,go_sem]) rfl ?_
 have h6:=HT6.out
 rw [takF_snoc] at h6
 exact ⟨rfl,h6,HG6.out⟩
end Go.Proofs.YtggnbflbbfdohaaGreat

