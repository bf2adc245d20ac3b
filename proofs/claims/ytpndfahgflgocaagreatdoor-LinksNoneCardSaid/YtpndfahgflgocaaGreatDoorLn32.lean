import Derived.Test.YtpndfahgflgocaaGreatDoorLn31
import Derived.Test.YtpndfahgflgocaaGreatDoorLn4
import Derived.Test.YtpndfahgflgocaaGreatDoorLn5

namespace Go.Proofs.YtpndfahgflgocaaGreatDoor
open Go.RowKit Go.Shelf Plain

def dgO : Nat → Nat
 | 0=>1|1=>4|_=>7
def lsO : Nat → Int
 | 0=>1|_=>0
def gsO : Nat → Int
 | 0=>15|1=>65535|_=>268435455
def numO (o : OriV) : Nat → Int
 | 0=>o.1|1=>o.2.1|_=>o.2.2
def prtC (j:Nat):List Value:=[.int .i64 (dgO j),.int .i64 (lsO j),.int .i64 (gsO j)]
def PtW (w:World):Prop:=∀j v,(prtC 0++prtC 1++prtC 2)[j]?=some v→w.cell? ⟨0,j,none⟩=some v
theorem PtW.lt {w:World} (h:PtW w):0 < w.heap.size:=block_lt_of_cell (h 0 _ rfl)
theorem PtW.below {w w':World} (h:PtW w) (hb:Below w.heap.size w w'):PtW w':=fun j v hv=>(hb.cell (p:=⟨0,j,none⟩) h.lt).trans (h j v hv)
def HanW (w:World):Prop:=PtW w∧BzW w∧EvW w
theorem HanW.below {w w':World} (h:HanW w) (hb:Below w.heap.size w w'):HanW w':=⟨h.1.below hb,h.2.1.below hb,h.2.2.below hb⟩
theorem HanW.lows {w:World} (h:HanW w):0 < w.heap.size∧6 < w.heap.size∧1 < w.heap.size:=⟨h.1.lt,h.2.1.lt,h.2.2.lt⟩
theorem HanW.low {w w':World} {B:Nat} (h:HanW w) (hb:Below B w w') (hB:0 < B∧6 < B∧1 < B):HanW w':=by
 obtain ⟨h1,h2,ev,h3,h4⟩:=h
 exact ⟨fun j v hv=>(hb.cell (p:=⟨0,j,none⟩) hB.1).trans (h1 j v hv),(hb.cell (p:=⟨6,15,none⟩) hB.2.1).trans h2,ev,(hb.cell (p:=⟨1,0,none⟩) hB.2.2).trans h3,h4⟩
theorem prt_index {j:Nat} (h:j < 3) (w:World):(Instr.index 108 (.agg (prtC 0++prtC 1++prtC 2).toArray) (.int .i64 (j:Int))).run Tryz.prog w=.ok (.agg (prtC j).toArray) w:=by
 obtain rfl|rfl|rfl:j=0∨j=1∨j=2:=by omega
 all_goals kernel_rfl
theorem prt_size:∀w,(Go.sizeOf 107).run Tryz.prog w=.ok 3 w:=fun w=>by kernel_rfl
theorem num_size:∀w,(Go.sizeOf 105).run Tryz.prog w=.ok 3 w:=fun w=>by kernel_rfl
def okO (o : OriV) : Nat → Prop
 | 0=>True
 | j+1=>okO o j∧lsO j≤numO o j∧numO o j≤gsO j
def preO (o : OriV) : Nat → List UInt8
 | 0=>[]
 | j+1=>preO o j++hexN (dgO j) (numO o j).toNat
theorem preO_len (o : OriV) : ∀ j, j ≤ 3 → (preO o j).length ≤ 7 * j
 | 0,_=>by simp [preO]
 | j+1,h=>by
  have h1:=preO_len o j (by omega)
  rw [preO,List.length_append,hexN_len]
  obtain rfl|rfl|rfl:j=0∨j=1∨j=2:=by omega
  all_goals (simp only [dgO];omega)
theorem gs_pow {j:Nat} (h:j < 3) {x:Int} (h1:lsO j≤x) (h2:x≤gsO j):0≤x∧x.toNat < 16 ^ dgO j∧1≤dgO j∧dgO j≤7:=by
 obtain rfl|rfl|rfl:j=0∨j=1∨j=2:=by omega
 all_goals (simp only [lsO,gsO,dgO] at *;refine ⟨by omega,?_,by omega,by omega⟩;first|(have e:(16:Nat) ^ 1=16:=by decide);omega|(have e:(16:Nat) ^ 4=65536:=by decide);omega|(have e:(16:Nat) ^ 7=268435456:=by decide);omega)
theorem ls_i64 (j:Nat) : -1≤lsO j∧lsO j≤1∧0≤gsO j∧gsO j≤268435455:=by
 rcases j with _|_|j <;> simp [lsO,gsO]
theorem okO_not {o:OriV} {j:Nat} (h:j < 3) (h1:¬(lsO j≤numO o j∧numO o j≤gsO j)):mayH o=false:=by
 refine decide_eq_false fun h2=>h1 ?_
 obtain rfl|rfl|rfl:j=0∨j=1∨j=2:=by omega
 all_goals (simp only [lsO,gsO,numO];omega)
theorem okO_all {o:OriV} (h:okO o 3):mayH o=true∧nameH o=preO o 3:=by
 have h1:mayH o=true:=by
  simp only [okO,lsO,gsO,numO] at h
  refine decide_eq_true ?_
  omega
 refine ⟨h1,?_⟩
 unfold nameH
 rw [h1,if_pos rfl]
 simp [textH,preO,dgO,numO]
def BdA (w:World) (B b:Nat) (l:List UInt8):Prop:=Lib.IsBuilder 156 5 B b (Lib.byteCells l) w
theorem BdA.on {w w':World} {B b:Nat} {l:List UInt8} (h:BdA w B b l) (hb:Below w.heap.size w w'):BdA w' B b l:=by
 have key:∀p,Lib.BuilderAt 156 5 B b p (Lib.byteCells l) w→Lib.BuilderAt 156 5 B b p (Lib.byteCells l) w':=by
  rintro p ⟨hB,v,hbk,hown,hne⟩
  have hlt:b < w.heap.size:=by
   rcases Nat.lt_or_ge b w.heap.size with hlt|hge
   ·exact hlt
   ·rw [Array.getElem?_eq_none hge] at hbk;cases hbk
  refine ⟨hB,v,(hb.block b hlt).trans hbk,⟨hown.1,?_⟩,hne⟩
  rcases hown.2 with h0|⟨g,cap,cur,h1,h2,h3,h4⟩
  ·exact .inl h0
  ·refine .inr ⟨g,cap,cur,h1,h2,?_,h4⟩
   rw [hb.block g ?_]
   ·exact h3
   ·rcases Nat.lt_or_ge g w.heap.size with hlt|hge
    ·exact hlt
    ·rw [Array.getElem?_eq_none hge] at h3;cases h3
 rcases h with h|h
 ·exact .inl (key _ h)
 ·exact .inr (key _ h)
theorem BdA.lt {w:World} {B b:Nat} {l:List UInt8} (h:BdA w B b l):b < w.heap.size:=by
 rcases h with h|h <;> exact Lib.BuilderAt.lt h
theorem BdA.new (w:World):BdA (w.alloc (.cells #[.pointer none,.slice none 0 0] 156)) w.heap.size w.heap.size [] :=
 .inl ⟨Nat.le_refl _,.slice none 0 0,RowL.new w 156 [.pointer none,.slice none 0 0],World.ownsRow_nil _ _ _ _,by simp [Value.ownBlock]⟩
theorem BdW_any {B b:Nat} {l s z:List UInt8} (hz:l++s=z) (w:World) (h:BdA w B b l) (hB:B≤w.heap.size) (hl:l.length≤1000) (hs:s.length≤1000):Calls Tryz.prog 90 #[.pointer (some ⟨b,0,none⟩),.string ⟨s.toArray⟩] w (fun e w'=>e=.returned (.tuple #[.int .i64 s.length,.nilIface])∧BdA w' B b z∧Below B w w'):=by
 have hsz:(⟨s.toArray⟩:ByteArray).size=s.length:=by simp [ByteArray.size]
 have h1:=Tryz.Builder_WriteString B b (Lib.byteCells l) ⟨s.toArray⟩ w h (by rw [Lib.byteCells_length,hsz];omega) hB
 refine h1.mono ?_
 rintro e w' ⟨rfl,h2,h3⟩
 refine ⟨by rw [hsz],.inr ?_,h3⟩
 have e1:Lib.byteCells l++Lib.strCells ⟨s.toArray⟩=Lib.byteCells z:=by
  rw [←hz]
  simp [Lib.byteCells,Lib.strCells]
 rw [←e1]
 exact h2
set_option maxRecDepth 100000 in
set_option maxHeartbeats 8000000 in
theorem HName_any (o:OriV) (w:World) (hw:HanW w):Calls Tryz.prog 65 #[.agg (oriC o).toArray] w (fun e w'=>e=.returned (.tuple #[.string ⟨(nameH o).toArray⟩,.bool (mayH o)])∧Below w.heap.size w w'):=by
 obtain ⟨W1,hW1⟩:∃W1,w.alloc (.cells (oriC o).toArray 47)=W1:=⟨_,rfl⟩
 obtain ⟨r0,hb1,hs1⟩:=rowA1 w _ _ hW1
 have hW1':w.alloc (.cells #[.int .i64 o.1,.int .i64 o.2.1,.int .i64 o.2.2] 47)=W1:=hW1
 have HB:=hide hb1
 have HW1:=hide (hw.below hb1)
 have hs1':w.heap.size+1≤W1.heap.size:=by omega
 have q0:W1.cell? ⟨w.heap.size,0,none⟩=some (.int .i64 o.1):=r0.cell 0
 have q1:W1.cell? ⟨w.heap.size,1,none⟩=some (.int .i64 o.2.1):=r0.cell 1
 have q2:W1.cell? ⟨w.heap.size,2,none⟩=some (.int .i64 o.2.2):=r0.cell 2
 have hnr:∀j,j < 3→([.int .i64 o.1,.int .i64 o.2.1,.int .i64 o.2.2]:List Value)[j]?=some (.int .i64 (numO o j)):=fun j hj=>by
  obtain rfl|rfl|rfl:j=0∨j=1∨j=2:=by omega
  all_goals rfl
 have HNR:=hide hnr
 have hlw:=hw.lows
 have HLW:=hide (show 0 < W1.heap.size∧6 < W1.heap.size∧1 < W1.heap.size from by omega)
 unfold oriC
 clear hW1 r0 hb1 hs1 hnr hw hlw
 go_enter Tryz.func65,Tryz.ntmps65
 go_upto_region 2 with (refine wpList_storeW rfl 105 (.tmp 4) (.tmp 14) rfl 3 num_size (W1.heap.size) 105 rfl [.int .i64 0,.int .i64 0,.int .i64 0] [.int .i64 o.1,.int .i64 o.2.1,.int .i64 o.2.2] rfl (RowL.new W1 105 [.int .i64 0,.int .i64 0,.int .i64 0]) rfl rfl (by simp [Value.oneCell']) ?_;intro w2 hr2 hg2 hs2;have R4:=hide hr2;have hb2:=below_stored' hg2;replace HB:=hide (HB.out.trans (hb2.mono (by omega)));have HW2:=hide (HW1.out.below hb2);have hz2:=hb2.size;have hlt2:=hr2.lt;clear hr2 hg2 hs2 hb2 q0 q1 q2 HW1)
 clear hW1'
 have HBN:=hide (BdA.new w2)
 have hb3:=below_new (below_self w2) (.cells #[.pointer none,.slice none 0 0] 156)
 have R43:=hide (R4.out.on hb3)
 have HW3:=hide (HW2.out.below hb3)
 have HB3:=hide (HB.out.trans (hb3.mono (by omega)))
 have hz3:w2.heap.size < (w2.alloc (.cells #[.pointer none,.slice none 0 0] 156)).heap.size:=by simp
 clear hb3 R4 HW2 HB
 go_upto_region 3 with fail
 obtain ⟨gB,hgB⟩:∃gB,w2.heap.size=gB:=⟨_,rfl⟩
 rw [hgB] at HBN hz3 hlt2 hz2 ⊢
 generalize w2.alloc (.cells #[.pointer none,.slice none 0 0] 156)=w3 at *
 clear hgB
 have qp0:w3.cell? ⟨0,0,none⟩=some (.int .i64 1):=HW3.out.1 0 _ rfl
 have qp1:w3.cell? ⟨0,1,none⟩=some (.int .i64 1):=HW3.out.1 1 _ rfl
 have qp2:w3.cell? ⟨0,2,none⟩=some (.int .i64 15):=HW3.out.1 2 _ rfl
 have qp3:w3.cell? ⟨0,3,none⟩=some (.int .i64 4):=HW3.out.1 3 _ rfl
 have qp4:w3.cell? ⟨0,4,none⟩=some (.int .i64 0):=HW3.out.1 4 _ rfl
 have qp5:w3.cell? ⟨0,5,none⟩=some (.int .i64 65535):=HW3.out.1 5 _ rfl
 have qp6:w3.cell? ⟨0,6,none⟩=some (.int .i64 7):=HW3.out.1 6 _ rfl
 have qp7:w3.cell? ⟨0,7,none⟩=some (.int .i64 0):=HW3.out.1 7 _ rfl
 have qp8:w3.cell? ⟨0,8,none⟩=some (.int .i64 268435455):=HW3.out.1 8 _ rfl
 go_wp2_with fail
 go_loopw [16] (fun v16 wr=>∃j:Nat,j≤3∧v16=.int .i64 j∧Hid (okO o j)∧BdA wr gB gB (preO o j)∧HanW wr∧Below gB w3 wr) (fun v16 _=>3 - (intOf v16).toNat)
 case atStart=>exact ⟨0,by omega,rfl,hide trivial,HBN.out,HW3.out,Below.refl _ _⟩
 case round =>
  obtain ⟨j,hj,rfl,HOK,hbd,hhw,hbr⟩:=hrel
  have HBD:=hide hbd
  have HHW:=hide hhw
  have HBR:=hide hbr
  have hbs:=hbr.size
  have hgl:=hbd.lt
  clear hbd hhw
  by_cases hlt:j < 3
  ·have hix:∀W,(Instr.index 108 (.agg #[.int .i64 1,.int .i64 1,.int .i64 15,.int .i64 4,.int .i64 0,.int .i64 65535,.int .i64 7,.int .i64 0,.int .i64 268435455]) (.int .i64 (j:Int))).run Tryz.prog W=.ok (.agg #[.int .i64 (dgO j),.int .i64 (lsO j),.int .i64 (gsO j)]) W:=fun W=>prt_index hlt W
   have HGP:=hide (fun (h1:lsO j≤numO o j) (h2:numO o j≤gsO j)=>gs_pow hlt h1 h2)
   have HOKS:=hide (fun (h1:lsO j≤numO o j) (h2:numO o j≤gsO j)=>show okO o (j+1) from ⟨HOK.out,h1,h2⟩)
   have HNOT:=hide (fun (h:¬(lsO j≤numO o j∧numO o j≤gsO j))=>okO_not hlt h)
   have HPR:=hide (show preO o (j+1)=preO o j++hexN (dgO j) (numO o j).toNat from rfl)
   have HPL:=hide (preO_len o j (by omega))
   have hls:=ls_i64 j
   have qn:wr.cell? ⟨W1.heap.size,j,none⟩=some (.int .i64 (numO o j)):=(hbr.cell (p:=⟨W1.heap.size,j,none⟩) (by show W1.heap.size < gB;omega)).trans ((R43.out.cell j).trans (HNR.out j hlt))
   have QN3:=hide ((R43.out.cell j).trans (HNR.out j hlt))
   obtain ⟨D,hD⟩:∃D,dgO j=D:=⟨_,rfl⟩
   obtain ⟨L,hL⟩:∃L,lsO j=L:=⟨_,rfl⟩
   obtain ⟨G,hG⟩:∃G,gsO j=G:=⟨_,rfl⟩
   obtain ⟨x,hx⟩:∃x,numO o j=x:=⟨_,rfl⟩
   rw [hD,hL,hG] at hix
   rw [hx] at qn QN3
   rw [hx,hL,hG] at HOKS HNOT
   rw [hx,hD] at HPR
   rw [hx,hL,hG,hD] at HGP
   rw [hL,hG] at hls
   have hj3:(j:Int) < 3:=by omega
   clear hD hL hG hx hbr
   go_upto_region 6 with (first|(refine wpList_storeW rfl 107 (.tmp 7) (.tmp 19) rfl 3 prt_size (wr.heap.size) 107 rfl [.int .i64 0,.int .i64 0,.int .i64 0] [.int .i64 D,.int .i64 L,.int .i64 G] rfl (RowL.new wr 107 [.int .i64 0,.int .i64 0,.int .i64 0]) rfl rfl (by simp [Value.oneCell']) ?_;intro w5 hr5 hg5 hs5;have R7:=hide hr5;have hb5:=below_stored' hg5;have hz5:=hb5.size;have HBD5:=hide (HBD.out.on hb5);have HHW5:=hide (HHW.out.below hb5);have HBR5:=hide (HBR.out.trans (hb5.mono (by omega)));have qn5:w5.cell? ⟨W1.heap.size,j,none⟩=some (.int .i64 x):=(hb5.cell (p:=⟨W1.heap.size,j,none⟩) (by show W1.heap.size < _;omega)).trans qn;have qd:w5.cell? ⟨wr.heap.size,0,none⟩=some (.int .i64 D):=hr5.cell 0;have ql:w5.cell? ⟨wr.heap.size,1,none⟩=some (.int .i64 L):=hr5.cell 1;have qg:w5.cell? ⟨wr.heap.size,2,none⟩=some (.int .i64 G):=hr5.cell 2;have hlt7:=hr5.lt;clear hr5 hg5 hs5 hb5 qn))
   by_cases hxl:x < L
   ·have hd1:decide (x < L)=true:=decide_eq_true hxl
    refine wp_region_planN (fun w'=>Below w5.heap.size w5 w') [(0,true),(1,true),(2,true),(3,true),(4,true),(5,true),(6,true),(7,true),(8,true),(9,true),(10,true),(11,true),(12,true),(13,true)] (by kernel_rfl) (by kernel_rfl) (by kernel_rfl) (by kernel_rfl) rfl (fun _ _ _ _ _ h=>h) (below_drew (below_self w5)) (fun hHeld=>?_)
    simp only [planOps,List.filterMap_cons,List.filterMap_nil,List.getElem?_toArray,List.getElem?_cons_succ,List.getElem?_cons_zero,Option.map_some]
    iterate 2
     refine wpPlan_take (v:=?_) (by kernel_rfl) (fun wS hSw=>?_) ?_
     rotate_left
     ·(try dsimp only at hSw);go_simp;(try with_reducible rfl)
     (try simp only [Act.put,pu1,pu2,pu3])
    refine wpPlan_take (v:=?_) (by kernel_rfl) (fun wS hSw=>?_) ?_
    rotate_left
    ·have qx':=(hSw.cell (p:=⟨W1.heap.size,j,none⟩) (by show W1.heap.size < _;omega)).trans qn5;go_simp;(try with_reducible rfl)
    (try simp only [Act.put,pu1,pu2,pu3])
    refine wpPlan_take (v:=?_) (by kernel_rfl) (fun wS hSw=>?_) ?_
    rotate_left
    ·(try dsimp only at hSw);go_simp;(try with_reducible rfl)
    (try simp only [Act.put,pu1,pu2,pu3])
    refine wpPlan_take (v:=?_) (by kernel_rfl) (fun wS hSw=>?_) ?_
    rotate_left
    ·have qx':=(hSw.cell (p:=⟨wr.heap.size,1,none⟩) (by show wr.heap.size < _;omega)).trans ql;go_simp;(try with_reducible rfl)
    (try simp only [Act.put,pu1,pu2,pu3])
    refine wpPlan_take (v:=?_) (by kernel_rfl) (fun wS hSw=>?_) ?_
    rotate_left
    ·(try dsimp only at hSw);go_simp;(try simp only [hd1]);(try with_reducible rfl)
    (try simp only [Act.put,pu1,pu2,pu3])
    refine wpPlan_take (v:=?_) (by kernel_rfl) (fun wS hSw=>?_) ?_
    rotate_left
    ·(try dsimp only at hSw);go_simp;(try with_reducible rfl)
    (try simp only [Act.put,pu1,pu2,pu3])
    refine wpPlan_skip (by kernel_rfl) ?_
    (try simp only [Act.put,pu1,pu2,pu3])
    refine wpPlan_skip (by kernel_rfl) ?_
    (try simp only [Act.put,pu1,pu2,pu3])
    refine wpPlan_skip (by kernel_rfl) ?_
    (try simp only [Act.put,pu1,pu2,pu3])
    refine wpPlan_skip (by kernel_rfl) ?_
    (try simp only [Act.put,pu1,pu2,pu3])
    refine wpPlan_skip (by kernel_rfl) ?_
    (try simp only [Act.put,pu1,pu2,pu3])
    refine wpPlan_skip (by kernel_rfl) ?_
    (try simp only [Act.put,pu1,pu2,pu3])
    refine wpPlan_take (v:=?_) (by kernel_rfl) (fun wS hSw=>?_) ?_
    rotate_left
    ·(try dsimp only at hSw);go_simp;(try with_reducible rfl)
    (try simp only [Act.put,pu1,pu2,pu3])
    refine wpPlan_end ?_
    generalize w5.drew=w6 at hHeld ⊢
    have HBZ:=hide (HB3.out.trans ((HBR5.out.trans (hHeld.mono (by omega))).mono (by omega)))
    have HMF:=hide (HNOT.out (by omega))
    clear hHeld
    go_wp2_with fail
    go_ret2
    have h1:nameH o=[]:=by unfold nameH;rw [HMF.out];rfl
    exact ⟨by rw [h1,HMF.out];rfl,HBZ.out⟩
   have hd1:decide (x < L)=false:=decide_eq_false hxl
   by_cases hxg:G < x
   ·have hd2:decide (G < x)=true:=decide_eq_true hxg
    refine wp_region_planN (fun w'=>Below w5.heap.size w5 w') [(0,true),(1,true),(2,true),(3,true),(4,true),(5,true),(6,true),(7,true),(8,true),(9,true),(10,true),(11,true),(12,true),(13,true)] (by kernel_rfl) (by kernel_rfl) (by kernel_rfl) (by kernel_rfl) rfl (fun _ _ _ _ _ h=>h) (below_drew (below_self w5)) (fun hHeld=>?_)
    simp only [planOps,List.filterMap_cons,List.filterMap_nil,List.getElem?_toArray,List.getElem?_cons_succ,List.getElem?_cons_zero,Option.map_some]
    iterate 2
     refine wpPlan_take (v:=?_) (by kernel_rfl) (fun wS hSw=>?_) ?_
     rotate_left
     ·(try dsimp only at hSw);go_simp;(try with_reducible rfl)
     (try simp only [Act.put,pu1,pu2,pu3])
    refine wpPlan_take (v:=?_) (by kernel_rfl) (fun wS hSw=>?_) ?_
    rotate_left
    ·have qx':=(hSw.cell (p:=⟨W1.heap.size,j,none⟩) (by show W1.heap.size < _;omega)).trans qn5;go_simp;(try with_reducible rfl)
    (try simp only [Act.put,pu1,pu2,pu3])
    refine wpPlan_take (v:=?_) (by kernel_rfl) (fun wS hSw=>?_) ?_
    rotate_left
    ·(try dsimp only at hSw);go_simp;(try with_reducible rfl)
    (try simp only [Act.put,pu1,pu2,pu3])
    refine wpPlan_take (v:=?_) (by kernel_rfl) (fun wS hSw=>?_) ?_
    rotate_left
    ·have qx':=(hSw.cell (p:=⟨wr.heap.size,1,none⟩) (by show wr.heap.size < _;omega)).trans ql;go_simp;(try with_reducible rfl)
    (try simp only [Act.put,pu1,pu2,pu3])
    refine wpPlan_take (v:=?_) (by kernel_rfl) (fun wS hSw=>?_) ?_
    rotate_left
    ·(try dsimp only at hSw);go_simp;(try simp only [hd1]);(try with_reducible rfl)
    (try simp only [Act.put,pu1,pu2,pu3])
    iterate 3
     refine wpPlan_take (v:=?_) (by kernel_rfl) (fun wS hSw=>?_) ?_
     rotate_left
     ·(try dsimp only at hSw);go_simp;(try with_reducible rfl)
     (try simp only [Act.put,pu1,pu2,pu3])
    refine wpPlan_take (v:=?_) (by kernel_rfl) (fun wS hSw=>?_) ?_
    rotate_left
    ·have qx':=(hSw.cell (p:=⟨W1.heap.size,j,none⟩) (by show W1.heap.size < _;omega)).trans qn5;go_simp;(try with_reducible rfl)
    (try simp only [Act.put,pu1,pu2,pu3])
    refine wpPlan_take (v:=?_) (by kernel_rfl) (fun wS hSw=>?_) ?_
    rotate_left
    ·(try dsimp only at hSw);go_simp;(try with_reducible rfl)
    (try simp only [Act.put,pu1,pu2,pu3])
    refine wpPlan_take (v:=?_) (by kernel_rfl) (fun wS hSw=>?_) ?_
    rotate_left
    ·have qx':=(hSw.cell (p:=⟨wr.heap.size,2,none⟩) (by show wr.heap.size < _;omega)).trans qg;go_simp;(try with_reducible rfl)
    (try simp only [Act.put,pu1,pu2,pu3])
    refine wpPlan_take (v:=?_) (by kernel_rfl) (fun wS hSw=>?_) ?_
    rotate_left
    ·(try dsimp only at hSw);go_simp;(try simp only [hd2]);(try with_reducible rfl)
    (try simp only [Act.put,pu1,pu2,pu3])
    refine wpPlan_take (v:=?_) (by kernel_rfl) (fun wS hSw=>?_) ?_
    rotate_left
    ·(try dsimp only at hSw);go_simp;(try with_reducible rfl)
    (try simp only [Act.put,pu1,pu2,pu3])
    refine wpPlan_end ?_
    generalize w5.drew=w6 at hHeld ⊢
    have HBZ:=hide (HB3.out.trans ((HBR5.out.trans (hHeld.mono (by omega))).mono (by omega)))
    have HMF:=hide (HNOT.out (by omega))
    clear hHeld
    go_wp2_with fail
    go_ret2
    have h1:nameH o=[]:=by unfold nameH;rw [HMF.out];rfl
    exact ⟨by rw [h1,HMF.out];rfl,HBZ.out⟩
   have hd2:decide (G < x)=false:=decide_eq_false hxg
   refine wp_region_planN (fun w'=>Below w5.heap.size w5 w') [(0,true),(1,true),(2,true),(3,true),(4,true),(5,true),(6,true),(7,true),(8,true),(9,true),(10,true),(11,true),(12,true),(13,true)] (by kernel_rfl) (by kernel_rfl) (by kernel_rfl) (by kernel_rfl) rfl (fun _ _ _ _ _ h=>h) (below_drew (below_self w5)) (fun hHeld=>?_)
   simp only [planOps,List.filterMap_cons,List.filterMap_nil,List.getElem?_toArray,List.getElem?_cons_succ,List.getElem?_cons_zero,Option.map_some]
   iterate 2
    refine wpPlan_take (v:=?_) (by kernel_rfl) (fun wS hSw=>?_) ?_
    rotate_left
    ·(try dsimp only at hSw);go_simp;(try with_reducible rfl)
    (try simp only [Act.put,pu1,pu2,pu3])
   refine wpPlan_take (v:=?_) (by kernel_rfl) (fun wS hSw=>?_) ?_
   rotate_left
   ·have qx':=(hSw.cell (p:=⟨W1.heap.size,j,none⟩) (by show W1.heap.size < _;omega)).trans qn5;go_simp;(try with_reducible rfl)
   (try simp only [Act.put,pu1,pu2,pu3])
   refine wpPlan_take (v:=?_) (by kernel_rfl) (fun wS hSw=>?_) ?_
   rotate_left
   ·(try dsimp only at hSw);go_simp;(try with_reducible rfl)
   (try simp only [Act.put,pu1,pu2,pu3])
   refine wpPlan_take (v:=?_) (by kernel_rfl) (fun wS hSw=>?_) ?_
   rotate_left
   ·have qx':=(hSw.cell (p:=⟨wr.heap.size,1,none⟩) (by show wr.heap.size < _;omega)).trans ql;go_simp;(try with_reducible rfl)
   (try simp only [Act.put,pu1,pu2,pu3])
   refine wpPlan_take (v:=?_) (by kernel_rfl) (fun wS hSw=>?_) ?_
   rotate_left
   ·(try dsimp only at hSw);go_simp;(try simp only [hd1]);(try with_reducible rfl)
   (try simp only [Act.put,pu1,pu2,pu3])
   iterate 3
    refine wpPlan_take (v:=?_) (by kernel_rfl) (fun wS hSw=>?_) ?_
    rotate_left
    ·(try dsimp only at hSw);go_simp;(try with_reducible rfl)
    (try simp only [Act.put,pu1,pu2,pu3])
   refine wpPlan_take (v:=?_) (by kernel_rfl) (fun wS hSw=>?_) ?_
   rotate_left
   ·have qx':=(hSw.cell (p:=⟨W1.heap.size,j,none⟩) (by show W1.heap.size < _;omega)).trans qn5;go_simp;(try with_reducible rfl)
   (try simp only [Act.put,pu1,pu2,pu3])
   refine wpPlan_take (v:=?_) (by kernel_rfl) (fun wS hSw=>?_) ?_
   rotate_left
   ·(try dsimp only at hSw);go_simp;(try with_reducible rfl)
   (try simp only [Act.put,pu1,pu2,pu3])
   refine wpPlan_take (v:=?_) (by kernel_rfl) (fun wS hSw=>?_) ?_
   rotate_left
   ·have qx':=(hSw.cell (p:=⟨wr.heap.size,2,none⟩) (by show wr.heap.size < _;omega)).trans qg;go_simp;(try with_reducible rfl)
   (try simp only [Act.put,pu1,pu2,pu3])
   refine wpPlan_take (v:=?_) (by kernel_rfl) (fun wS hSw=>?_) ?_
   rotate_left
   ·(try dsimp only at hSw);go_simp;(try simp only [hd2]);(try with_reducible rfl)
   (try simp only [Act.put,pu1,pu2,pu3])
   refine wpPlan_take (v:=?_) (by kernel_rfl) (fun wS hSw=>?_) ?_
   rotate_left
   ·(try dsimp only at hSw);go_simp;(try with_reducible rfl)
   (try simp only [Act.put,pu1,pu2,pu3])
   refine wpPlan_end ?_
   generalize w5.drew=w6 at hHeld ⊢
   have hz6:=hHeld.size
   have hx0:=(HGP.out (by omega) (by omega)).1
   have HGP2:=hide (HGP.out (by omega) (by omega)).2
   have HOK2:=hide (HOKS.out (by omega) (by omega))
   obtain ⟨X,rfl⟩:=Int.eq_ofNat_of_zero_le hx0
   simp only [Int.toNat_natCast] at HGP2 HPR
   have HGP:=hide HGP2.out
   have HBR6:=hide (HBR5.out.trans (hHeld.mono (by omega)))
   have HBD6:=hide (HBD5.out.on hHeld)
   have HHW6:=hide (HHW5.out.below hHeld)
   have qn6:=(hHeld.cell (p:=⟨W1.heap.size,j,none⟩) (by show W1.heap.size < _;omega)).trans qn5
   have qd6:=(hHeld.cell (p:=⟨wr.heap.size,0,none⟩) (by show wr.heap.size < _;omega)).trans qd
   clear hHeld qn5 qd ql qg HGP2 HOKS HNOT hx0
   go_wp2_with fail
   refine wp_region_planT (fun w'=>Below w6.heap.size w6 w') [(0,true),(1,true),(2,true),(3,true),(4,true),(5,false)] 6 (by kernel_rfl) (by kernel_rfl) (by kernel_rfl) (by kernel_rfl) (by kernel_rfl) rfl (fun _ _ _ _ _ h=>h) (below_drew (below_self w6)) (fun hHeld=>?_)
   simp only [planOps,List.filterMap_cons,List.filterMap_nil,List.getElem?_toArray,List.getElem?_cons_succ,List.getElem?_cons_zero,Option.map_some]
   iterate 2
    refine wpPlan_take (v:=?_) (by kernel_rfl) (fun wS hSw=>?_) ?_
    rotate_left
    ·(try dsimp only at hSw);go_simp;(try with_reducible rfl)
    (try simp only [Act.put,pu1,pu2,pu3])
   refine wpPlan_take (v:=?_) (by kernel_rfl) (fun wS hSw=>?_) ?_
   rotate_left
   ·have qx':=(hSw.cell (p:=⟨W1.heap.size,j,none⟩) (by show W1.heap.size < _;omega)).trans qn6;go_simp;(try with_reducible rfl)
   (try simp only [Act.put,pu1,pu2,pu3])
   refine wpPlan_take (v:=?_) (by kernel_rfl) (fun wS hSw=>?_) ?_
   rotate_left
   ·(try dsimp only at hSw);go_simp;(try with_reducible rfl)
   (try simp only [Act.put,pu1,pu2,pu3])
   refine wpPlan_take (v:=?_) (by kernel_rfl) (fun wS hSw=>?_) ?_
   rotate_left
   ·have qx':=(hSw.cell (p:=⟨wr.heap.size,0,none⟩) (by show wr.heap.size < _;omega)).trans qd6;go_simp;(try with_reducible rfl)
   (try simp only [Act.put,pu1,pu2,pu3])
   refine wpPlan_call (by kernel_rfl) (fun K hK=>?_)
   have hOld:=hide hHeld
   clear hHeld
   go_simp
   go_at_call 91
   refine (HPut_any (n:=X) (k:=D) HGP.out.1 HGP.out.2.1 HGP.out.2.2 _ (HHW6.out.2.1.below hOld.out)).mono ?_
   rintro e w' ⟨rfl,hbel⟩
   refine hK.out _ _ (hOld.out.trans (hbel.mono hOld.out.size)) (fun hHeld=>?_)
   clear hK K
   (try simp only [Act.put,pu1,pu2,pu3])
   refine wpPlan_end ?_
   refine postL_go rfl (by kernel_rfl) ?_
   have HHW7:=hide (HHW6.out.below hHeld)
   have HBD7:=hide (HBD6.out.on hHeld)
   have HBR7:=hide (HBR6.out.trans (hHeld.mono (by omega)))
   have hz7:=hHeld.size
   clear hHeld HHW6 HBD6 HBR6 qn6 qd6
   go_simp
   go_at_call 90
   refine (BdW_any HPR.out.symm _ HBD7.out (by omega) (by have:=HPL.out;omega) (by rw [hexN_len];have:=HGP.out.2.2;omega)).mono ?_
   rintro e8 w8 ⟨rfl,hbd8,hb8⟩
   have HBD8:=hide hbd8
   have HBR8:=hide (HBR7.out.trans hb8)
   have HHW8:=hide (HHW7.out.low hb8 (by have:=HLW.out;omega))
   clear hbd8 hb8 HBD7 HBR7 HHW7
   go_wp2_with fail
   go_roundw
   case rel=>exact ⟨j+1,by omega,by go_num,HOK2,HBD8.out,HHW8.out,HBR8.out⟩
   case measure=>simp [intOf];omega
  ·obtain rfl:j=3:=by omega
   have hj3:¬((3:Int) < 3):=by omega
   have HMN:=hide (okO_all HOK.out)
   clear hbr
   go_wp2_with fail
   refine (Tryz.Builder_String_any gB gB (preO o 3) _ HBD.out (by omega)).mono ?_
   rintro e9 w9 ⟨rfl,hb9⟩
   have HBZ:=hide (HB3.out.trans ((HBR.out.trans hb9).mono (by omega)))
   clear hb9
   go_wp2_with fail
   go_ret2
   exact ⟨by rw [HMN.out.1,HMN.out.2];rfl,HBZ.out⟩
end Go.Proofs.YtpndfahgflgocaaGreatDoor

