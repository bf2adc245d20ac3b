import Derived.Test.YtpndfahgflgocaaDoorXn14

namespace Go.Proofs.YtpndfahgflgocaaDoor
open Go.RowKit Go.Shelf Plain

def WdRet (w:World) (ns:List NodV) (s:StW) (e:Ending) (w':World):Prop:=∃g b,e=.returned (.pointer (some ⟨g,0,none⟩))∧WkS w.heap.size g b ns s w'∧Below w.heap.size w w'
theorem int_get {w:World} {D:Nat→Prop} {A:Option Addr} {n k:Nat} {l:List Int} {x:Int} (h:RdE Enc.int w D A n l) (hx:l[k]?=some x):∃b o,A=some ⟨b,o,none⟩∧w.cell? ⟨b,o+k,none⟩=some (.int .i64 x):=by
 have hi:=(List.getElem?_eq_some_iff.1 hx).1
 obtain ⟨b,o,e,hb,hc⟩:=h.2 (by have:=h.1;omega)
 obtain ⟨cs,hcs,hcell⟩:=hc k x hx
 refine ⟨b,o,e,?_⟩
 have:=hcell 0 (.int .i64 x) (by rw [show cs=[.int .i64 x] from hcs];rfl)
 rwa [show o+(k*Enc.int.k+0)=o+k from by show o+(k*1+0)=o+k;omega] at this
theorem take_walk {ns:List NodV} {ff:List Int} {j:Nat} {i:Int} (h:ff[j]?=some i):walkW ns (ff.take (j+1))=rootW ns (walkW ns (ff.take j)) i:=by
 rw [List.take_add_one,h]
 exact walk_snoc ns _ i
set_option maxRecDepth 100000 in
set_option maxHeartbeats 4000000 in
theorem walked_any {A F:Option Addr} {n c k d:Nat} {ns:List NodV} {ff:List Int} (w:World) (h:RdE nodEn w (Under w.heap.size) A n ns) (hf:RdE Enc.int w (Under w.heap.size) F k ff) (hM:Many ns) (hk:k≤1000) :
  Calls Tryd.prog 32 #[.agg #[.slice A n c],.slice F k d] w (WdRet w ns (walkW ns ff)):=by
 have HM:=hide hM
 have HF:=hide hf
 have hmm := @run_makeMap Tryd.prog
 have hb1:=below_new (below_self w) (.cells #[.slice A n c] 26)
 have hb2:=hb1.alloc hb1.size (.map #[] 0)
 have hm2:SetW ((w.alloc (.cells #[.slice A n c] 26)).alloc (.map #[] 0)) (w.heap.size+1) 0 (fun _=>false):=by
  have:=SetW.made (w.alloc (.cells #[.slice A n c] 26))
  rwa [World.size_alloc] at this
 have hs2:((w.alloc (.cells #[.slice A n c] 26)).alloc (.map #[] 0)).heap.size=w.heap.size+2:=by simp
 obtain ⟨W2,hW2⟩:∃W2,(w.alloc (.cells #[.slice A n c] 26)).alloc (.map #[] 0)=W2:=⟨_,rfl⟩
 rw [hW2] at hb2 hm2 hs2
 obtain ⟨r1,r2,r3⟩:=rows1 W2 [.slice A n c,.slice none 0 0,.map (some (w.heap.size+1)),.slice none 0 0] 95
 rw [hs2] at r1 r3
 have hb3:Below w.heap.size w (W2.alloc (.cells #[.slice A n c,.slice none 0 0,.map (some (w.heap.size+1)),.slice none 0 0] 95)):=hb2.alloc hb2.size _
 have hw3:WkS w.heap.size (w.heap.size+2) (w.heap.size+1) ns ([],[]) (W2.alloc (.cells #[.slice A n c,.slice none 0 0,.map (some (w.heap.size+1)),.slice none 0 0] 95)) :=
  ⟨A,n,c,none,0,0,none,0,0,by omega,by omega,r1,h.under hb3 (Nat.le_refl _),World.ownsRow_nil _ _ _ _,hm2.on r2,World.ownsRow_nil _ _ _ _⟩
 have HW3:=hide hw3
 have HB3:=hide hb3
 clear h hf hb1 hb2 hm2 r1 r2 r3 hw3 hb3
 go_enter Tryd.func32,Tryd.ntmps32
 go_wp2
 clear hmm
 have hb3:=HB3.out
 have hw3:=HW3.out
 generalize W2.alloc (.cells #[.slice A n c,.slice none 0 0,.map (some (w.heap.size+1)),.slice none 0 0] 95)=W3 at *
 go_loopw [14] (fun iv wr=>∃j:Nat,j≤k∧iv=.int .i64 j∧WkS w.heap.size (w.heap.size+2) (w.heap.size+1) ns (walkW ns (ff.take j)) wr∧Below w.heap.size w wr) (fun iv _=>k - (intOf iv).toNat)
 case atStart=>exact ⟨0,by omega,rfl,by rw [List.take_zero];exact hw3,hb3⟩
 case round =>
  obtain ⟨j,hj,rfl,hwr,hbr⟩:=hrel
  clear hb3 hw3
  have HWR:=hide hwr
  have HBR:=hide hbr
  have hok:=walk_ok ns (ff.take j)
  have htw:=walk_tw HM.out (ff.take j)
  have hm24:=HM.out.1
  by_cases hlt:j < k
  ·obtain ⟨i,hi⟩:∃i,ff[j]?=some i:=⟨_,List.getElem?_eq_getElem (by have:=HF.out.1;omega)⟩
   have HTW:=hide (take_walk (ns:=ns) hi)
   obtain ⟨b,o,rfl,hcell⟩:=int_get (HF.out.under hbr (Nat.le_refl _)) hi
   have hBsz:=hbr.size
   obtain ⟨-,hgl,-,hbl⟩:=hwr.lt
   generalize walkW ns (ff.take j)=S' at *
   have HOK:=hide hok
   clear hi hwr hbr
   cases hd:isDir ns i with
   | false =>
    have HR:=hide (show rootW ns S' i=S' from by unfold rootW;rw [hd];rfl)
    go_wp2_with (go_at_call 42;refine (dir_any (i:=i) wr HWR.out.n (by omega) (by omega) (by omega)).mono ?_;rw [hd];rintro e w4 ⟨rfl,hb4⟩;have HB4:=hide hb4;clear hb4)
    go_roundw
    case rel=>exact ⟨j+1,by omega,by go_num,by rw [HTW.out,HR.out];exact HWR.out.on HB4.out,HBR.out.trans (HB4.out.mono hBsz)⟩
    case measure=>simp [intOf];omega
   | true =>
    have hin:=isDir_in hd
    have hi64:i64 i:=by unfold i64;omega
    cases hc:cameW S'.1 i with
    | true =>
     have HR:=hide (show rootW ns S' i=S' from by unfold rootW;rw [hd,hc];rfl)
     go_wp2_with (first|(go_at_call 42;refine (dir_any (i:=i) wr HWR.out.n (by omega) (by omega) (by omega)).mono ?_;rw [hd];rintro e w4 ⟨rfl,hb4⟩;have HB4:=hide hb4;clear hb4;obtain ⟨A',n',c',A1,n1,c1',A2',n2',c2',-,-,h3,-,-,h6,-⟩:=HWR.out.on HB4.out;have qm:w4.cell? ⟨w.heap.size+2,2,none⟩=some (.map (some (w.heap.size+1))):=h3.cell 2;have H6:=hide h6;clear h3 h6)|(go_at_call 43;refine (came_any w4 qm H6.out hi64 hc).mono ?_;rintro e w5 ⟨rfl,hb5⟩;have HB5:=hide (HB4.out.trans (hb5.mono HB4.out.size));clear hb5 qm))
     go_roundw
     case rel=>exact ⟨j+1,by omega,by go_num,by rw [HTW.out,HR.out];exact HWR.out.on HB5.out,HBR.out.trans (HB5.out.mono hBsz)⟩
     case measure=>simp [intOf];omega
    | false =>
     have HR:=hide (show rootW ns S' i=runW ns (ns.length - S'.1.length) S'.1.length (S'.1++[⟨i,-1,[]⟩],S'.2) from by unfold rootW;rw [hd,hc];rfl)
     go_wp2_with (first|(go_at_call 42;refine (dir_any (i:=i) wr HWR.out.n (by omega) (by omega) (by omega)).mono ?_;rw [hd];rintro e w4 ⟨rfl,hb4⟩;have HB4:=hide hb4;clear hb4;obtain ⟨A',n',c',A1,n1,c1',A2',n2',c2',-,-,h3,-,-,h6,-⟩:=HWR.out.on HB4.out;have qm:w4.cell? ⟨w.heap.size+2,2,none⟩=some (.map (some (w.heap.size+1))):=h3.cell 2;have H6:=hide h6;clear h3 h6)|(go_at_call 43;refine (came_any w4 qm H6.out hi64 hc).mono ?_;rintro e w5 ⟨rfl,hb5⟩;have HB5:=hide (HB4.out.trans (hb5.mono HB4.out.size));clear hb5 qm)|(go_at_call 44;refine (begin_any w5 (HWR.out.on HB5.out) hd hc HOK.out HM.out htw rfl).mono ?_;rintro e w6 ⟨rfl,hw6,hT6⟩;have HW6:=hide hw6;have HT6:=hide hT6;clear hw6 hT6))
     have hsz5:=HB5.out.size
     go_roundw
     case rel=>exact ⟨j+1,by omega,by go_num,by rw [HTW.out,HR.out];exact HW6.out,HT6.out.below (HBR.out.trans (HB5.out.mono hBsz)) (by omega)⟩
     case measure=>simp [intOf];omega
  ·obtain rfl:j=k:=by omega
   go_wp2
   go_ret
   have hall:ff.take j=ff:=List.take_of_length_le (by rw [HF.out.1];exact Nat.le_refl _)
   rw [hall] at hwr
   exact ⟨_,_,rfl,hwr,hbr⟩
end Go.Proofs.YtpndfahgflgocaaDoor

namespace Go.Proofs.YtpndfahgflgocaaDoor
open Go.RowKit Go.Shelf Plain

def prC (q:Int×Int):List Value:=[.int .i64 q.1,.int .i64 q.2]
end Go.Proofs.YtpndfahgflgocaaDoor

