import Derived.Test.YtfdbhldnohaopaaGreatVw9
import Derived.Test.YtfdbhldnohaopaaGreatVw1
import Derived.Test.YtfdbhldnohaopaaGreatRows

namespace Go.Proofs.YtfdbhldnohaopaaGreat
open Go.RowKit Go.Shelf Plain

def wayEn : Enc WayV where
 k:=3
 R:=fun _ _ cs x=>cs=wayC x
 len:=fun h=>by rw [h];rfl
 one:=fun h v hv=>by
  rw [h] at hv
  simp only [wayC,List.mem_cons,List.not_mem_nil,or_false] at hv
  rcases hv with rfl|rfl|rfl <;> rfl
 mono:=fun h _ _=>h
theorem own_way {W:World} {base t n c:Nat} {A:Option Addr} {l:List WayV} (h:W.ownsRow base t 3 (.slice A n c) n (flatW l)):OwE wayEn W base t A n c l:=by
 have hl:=h.1
 rw [flatW_len] at hl
 refine ⟨l.map wayC,by rw [show (l.map wayC).flatten=flatW l from by simp [flatW,List.flatMap]];exact h,⟨by simp,fun i cs x h1 h2=>?_⟩,by omega⟩
 rw [List.getElem?_map,h2] at h1
 cases h1
 exact rfl
def WdRet (w:World) (ns:List NodV) (s:StW) (e:Ending) (w':World):Prop:=∃g b,e=.returned (.pointer (some ⟨g,0,none⟩))∧WkS w.heap.size g b ns s w'∧Below w.heap.size w w'
theorem int_get {w:World} {D:Nat→Prop} {A:Option Addr} {n k:Nat} {l:List Int} {x:Int} (h:RdE Enc.int w D A n l) (hx:l[k]?=some x):∃b o,A=some ⟨b,o,none⟩∧w.cell? ⟨b,o+k,none⟩=some (.int .i64 x):=by
 have hi:=(List.getElem?_eq_some_iff.1 hx).1
 obtain ⟨b,o,e,hb,hc⟩:=h.2 (by have:=h.1;omega)
 obtain ⟨cs,hcs,hcell⟩:=hc k x hx
 refine ⟨b,o,e,?_⟩
 have:=hcell 0 (.int .i64 x) (by rw [show cs=[.int .i64 x] from hcs];rfl)
 rwa [show o+(k*Enc.int.k+0)=o+k from by show o+(k*1+0)=o+k;omega] at this
theorem take_walk {ns:List NodV} {ff:List Int} {j:Nat} {i:Int} (h:ff[j]?=some i):walkW ns (ff.take (j+1))=rootW ns (walkW ns (ff.take j)) i:=by
 rw [List.take_add_one,h]
 exact walk_snoc ns _ i
set_option maxRecDepth 100000 in
set_option maxHeartbeats 4000000 in
theorem walked_any {A F:Option Addr} {n c k d:Nat} {ns:List NodV} {ff:List Int} (w:World) (h:RdE nodEn w (Under w.heap.size) A n ns) (hf:RdE Enc.int w (Under w.heap.size) F k ff) (hM:Many ns) (hk:k≤1000) :
  Calls Tryz.prog 87 #[.agg #[.slice A n c],.slice F k d] w (WdRet w ns (walkW ns ff)):=by
 have HM:=hide hM
 have HF:=hide hf
 have hmm := @run_makeMap Tryz.prog
 have hb1:=below_new (below_self w) (.cells #[.slice A n c] 26)
 have hb2:=hb1.alloc hb1.size (.map #[] 0)
 have hm2:SetW ((w.alloc (.cells #[.slice A n c] 26)).alloc (.map #[] 0)) (w.heap.size+1) 0 (fun _=>false):=by
  have:=SetW.made (w.alloc (.cells #[.slice A n c] 26))
  rwa [World.size_alloc] at this
 have hs2:((w.alloc (.cells #[.slice A n c] 26)).alloc (.map #[] 0)).heap.size=w.heap.size+2:=by simp
 obtain ⟨W2,hW2⟩:∃W2,(w.alloc (.cells #[.slice A n c] 26)).alloc (.map #[] 0)=W2:=⟨_,rfl⟩
 rw [hW2] at hb2 hm2 hs2
 obtain ⟨r1,r2,r3⟩:=rows1 W2 [.slice A n c,.slice none 0 0,.map (some (w.heap.size+1)),.slice none 0 0] 141
 rw [hs2] at r1 r3
 have hb3:Below w.heap.size w (W2.alloc (.cells #[.slice A n c,.slice none 0 0,.map (some (w.heap.size+1)),.slice none 0 0] 141)):=hb2.alloc hb2.size _
 have hw3:WkS w.heap.size (w.heap.size+2) (w.heap.size+1) ns ([],[]) (W2.alloc (.cells #[.slice A n c,.slice none 0 0,.map (some (w.heap.size+1)),.slice none 0 0] 141)) :=
  ⟨A,n,c,none,0,0,none,0,0,by omega,by omega,r1,h.under hb3 (Nat.le_refl _),World.ownsRow_nil _ _ _ _,hm2.on r2,World.ownsRow_nil _ _ _ _⟩
 have HW3:=hide hw3
 have HB3:=hide hb3
 clear h hf hb1 hb2 hm2 r1 r2 r3 hw3 hb3
 go_enter Tryz.func87,Tryz.ntmps87
 go_wp2
 clear hmm
 have hb3:=HB3.out
 have hw3:=HW3.out
 generalize W2.alloc (.cells #[.slice A n c,.slice none 0 0,.map (some (w.heap.size+1)),.slice none 0 0] 141)=W3 at *
 go_loopw [14] (fun iv wr=>∃j:Nat,j≤k∧iv=.int .i64 j∧WkS w.heap.size (w.heap.size+2) (w.heap.size+1) ns (walkW ns (ff.take j)) wr∧Below w.heap.size w wr) (fun iv _=>k - (intOf iv).toNat)
 case atStart=>exact ⟨0,by omega,rfl,by rw [List.take_zero];exact hw3,hb3⟩
 case round =>
  obtain ⟨j,hj,rfl,hwr,hbr⟩:=hrel
  clear hb3 hw3
  have HWR:=hide hwr
  have HBR:=hide hbr
  have hok:=walk_ok ns (ff.take j)
  have htw:=walk_tw HM.out (ff.take j)
  have hm24:=HM.out.1
  by_cases hlt:j < k
  ·obtain ⟨i,hi⟩:∃i,ff[j]?=some i:=⟨_,List.getElem?_eq_getElem (by have:=HF.out.1;omega)⟩
   have HTW:=hide (take_walk (ns:=ns) hi)
   obtain ⟨b,o,rfl,hcell⟩:=int_get (HF.out.under hbr (Nat.le_refl _)) hi
   have hBsz:=hbr.size
   obtain ⟨-,hgl,-,hbl⟩:=hwr.lt
   generalize walkW ns (ff.take j)=S' at *
   have HOK:=hide hok
   clear hi hwr hbr
   cases hd:isDir ns i with
   | false =>
    have HR:=hide (show rootW ns S' i=S' from by unfold rootW;rw [hd];rfl)
    go_wp2_with (go_at_call 143;refine (dir_any (i:=i) wr HWR.out.n (by omega) (by omega) (by omega)).mono ?_;rw [hd];rintro e w4 ⟨rfl,hb4⟩;have HB4:=hide hb4;clear hb4)
    go_roundw
    case rel=>exact ⟨j+1,by omega,by go_num,by rw [HTW.out,HR.out];exact HWR.out.on HB4.out,HBR.out.trans (HB4.out.mono hBsz)⟩
    case measure=>simp [intOf];omega
   | true =>
    have hin:=isDir_in hd
    have hi64:i64 i:=by unfold i64;omega
    cases hc:cameW S'.1 i with
    | true =>
     have HR:=hide (show rootW ns S' i=S' from by unfold rootW;rw [hd,hc];rfl)
     go_wp2_with (first|(go_at_call 143;refine (dir_any (i:=i) wr HWR.out.n (by omega) (by omega) (by omega)).mono ?_;rw [hd];rintro e w4 ⟨rfl,hb4⟩;have HB4:=hide hb4;clear hb4;obtain ⟨A',n',c',A1,n1,c1',A2',n2',c2',-,-,h3,-,-,h6,-⟩:=HWR.out.on HB4.out;have qm:w4.cell? ⟨w.heap.size+2,2,none⟩=some (.map (some (w.heap.size+1))):=h3.cell 2;have H6:=hide h6;clear h3 h6)|(go_at_call 144;refine (came_any w4 qm H6.out hi64 hc).mono ?_;rintro e w5 ⟨rfl,hb5⟩;have HB5:=hide (HB4.out.trans (hb5.mono HB4.out.size));clear hb5 qm))
     go_roundw
     case rel=>exact ⟨j+1,by omega,by go_num,by rw [HTW.out,HR.out];exact HWR.out.on HB5.out,HBR.out.trans (HB5.out.mono hBsz)⟩
     case measure=>simp [intOf];omega
    | false =>
     have HR:=hide (show rootW ns S' i=runW ns (ns.length - S'.1.length) S'.1.length (S'.1++[⟨i,-1,[]⟩],S'.2) from by unfold rootW;rw [hd,hc];rfl)
     go_wp2_with (first|(go_at_call 143;refine (dir_any (i:=i) wr HWR.out.n (by omega) (by omega) (by omega)).mono ?_;rw [hd];rintro e w4 ⟨rfl,hb4⟩;have HB4:=hide hb4;clear hb4;obtain ⟨A',n',c',A1,n1,c1',A2',n2',c2',-,-,h3,-,-,h6,-⟩:=HWR.out.on HB4.out;have qm:w4.cell? ⟨w.heap.size+2,2,none⟩=some (.map (some (w.heap.size+1))):=h3.cell 2;have H6:=hide h6;clear h3 h6)|(go_at_call 144;refine (came_any w4 qm H6.out hi64 hc).mono ?_;rintro e w5 ⟨rfl,hb5⟩;have HB5:=hide (HB4.out.trans (hb5.mono HB4.out.size));clear hb5 qm)|(go_at_call 145;refine (begin_any w5 (HWR.out.on HB5.out) hd hc HOK.out HM.out htw rfl).mono ?_;rintro e w6 ⟨rfl,hw6,hT6⟩;have HW6:=hide hw6;have HT6:=hide hT6;clear hw6 hT6))
     have hsz5:=HB5.out.size
     go_roundw
     case rel=>exact ⟨j+1,by omega,by go_num,by rw [HTW.out,HR.out];exact HW6.out,HT6.out.below (HBR.out.trans (HB5.out.mono hBsz)) (by omega)⟩
     case measure=>simp [intOf];omega
  ·obtain rfl:j=k:=by omega
   go_wp2
   go_ret
   have hall:ff.take j=ff:=List.take_of_length_le (by rw [HF.out.1];exact Nat.le_refl _)
   rw [hall] at hwr
   exact ⟨_,_,rfl,hwr,hbr⟩
theorem way_fresh {W:World} {base t n c:Nat} {A:Option Addr} {l:List WayV} (h:W.ownsRow base t 3 (.slice A n c) n (flatW l)):RdE wayEn W (fun b=>base≤b∧b < W.heap.size) A n l:=by
 have hl:=h.1
 rw [flatW_len] at hl
 have hln:l.length=n:=by omega
 refine ⟨hln,fun h0=>?_⟩
 rcases h.2 with ⟨_,h0'⟩|⟨g,cap,cur,he,hb,hg,_⟩
 ·omega
 ·simp only [Value.slice.injEq] at he
  obtain ⟨rfl,-,-⟩:=he
  refine ⟨g,0,rfl,⟨hb,heap_lt hg⟩,fun i x hx=>⟨wayC x,rfl,fun j v hv=>?_⟩⟩
  have hj:j < 3:=by have:=(List.getElem?_eq_some_iff.1 hv).1;simpa [wayC] using this
  have hi:=(List.getElem?_eq_some_iff.1 hx).1
  rw [Nat.zero_add]
  refine (World.ownsRow.cellAt (g:=g) h (i*3+j) (by omega)).trans ?_
  have:=flat_get (k:=3) (css:=l.map wayC) (fun cs hc=>by obtain ⟨z,_,rfl⟩:=List.mem_map.1 hc;rfl) (i:=i) (j:=j) (cs:=wayC x) (by rw [List.getElem?_map,hx];rfl) hj
  rw [show flatW l=(l.map wayC).flatten from by simp [flatW,List.flatMap],this]
  exact hv
def WaysRet (w:World) (l:List WayV) (e:Ending) (w':World):Prop:=∃A n c,e=.returned (.slice A n c)∧n≤c∧RdE wayEn w' (fun b=>w.heap.size≤b∧b < w'.heap.size) A n l∧Below w.heap.size w w'
set_option maxRecDepth 100000 in
set_option maxHeartbeats 1600000 in
theorem Dirs_any {A F:Option Addr} {n c k d:Nat} {ns:List NodV} {ff:List Int} (w:World) (h:RdE nodEn w (Under w.heap.size) A n ns) (hf:RdE Enc.int w (Under w.heap.size) F k ff) (hM:Many ns) (hk:k≤1000) :
  Calls Tryz.prog 120 #[.agg #[.slice A n c],.slice F k d] w (WaysRet w (walkW ns ff).1):=by
 have hb1:=below_new (below_self w) (.cells #[.slice A n c] 26)
 have H1:=hide (h.on hb1)
 have HF1:=hide (hf.on hb1)
 have HB1:=hide hb1
 have HM:=hide hM
 clear h hf hb1
 go_enter Tryz.func120,Tryz.ntmps120
 go_wp2_with (go_at_call 87;refine (walked_any _ H1.out HF1.out HM.out hk).mono ?_;rintro e w2 ⟨g,b,rfl,hw2,hb2⟩;obtain ⟨A',n',c',A1,n1,c1',A2',n2',c2',-,-,h3,-,h5,-⟩:=hw2;have q1:w2.cell? ⟨g,1,none⟩=some (.slice A1 n1 c1'):=h3.cell 1;have H5:=hide h5;have HB2:=hide (below_step HB1.out hb2);clear h3 h5 hb2)
 go_ret
 exact ⟨A1,n1,c1',rfl,(own_way H5.out).cap,(way_fresh H5.out).mono (fun _ _=>rfl) (fun b hb=>⟨by have:=HB1.out.size;omega,hb.2⟩),HB2.out⟩
end Go.Proofs.YtfdbhldnohaopaaGreat

namespace Go.Proofs.YtfdbhldnohaopaaGreat
open Go.RowKit Go.Shelf Plain

def prC (q:Int×Int):List Value:=[.int .i64 q.1,.int .i64 q.2]
def prEn : Enc (Int × Int) where
 k:=2
 R:=fun _ _ cs x=>cs=prC x
 len:=fun h=>by rw [h];rfl
 one:=fun h v hv=>by
  rw [h] at hv
  simp only [prC,List.mem_cons,List.not_mem_nil,or_false] at hv
  rcases hv with rfl|rfl <;> rfl
 mono:=fun h _ _=>h
def flatR (l:List (Int×Int)):List Value:=(l.map prC).flatten
theorem flatR_snoc (l:List (Int×Int)) (q:Int×Int):flatR (l++[q])=flatR l++prC q:=by simp [flatR]
def zpr:Value:=.agg #[.int .i64 0,.int .i64 0]
end Go.Proofs.YtfdbhldnohaopaaGreat

namespace Go.Proofs.YtfdbhldnohaopaaGreat
open Go.RowKit Go.Shelf Plain

theorem wayC_one (y:WayV):∀v∈wayC y,v.oneCell'=true:=by simp [wayC,Value.oneCell']
end Go.Proofs.YtfdbhldnohaopaaGreat

namespace Go.Proofs.YtfdbhldnohaopaaGreat.Plain
def letB (x:Nat):Bool:=decide ((97≤x∧x≤122)∨(48≤x∧x≤57)∨x=46∨x=95∨x=45)
def nameB (l:List UInt8):Bool:=(decide (1≤l.length∧l.length≤12)&&(!(l==[46])&&!(l==[46,46])))&&l.all fun x=>letB x.toNat
theorem all_take_succ {l:List UInt8} {p:UInt8→Bool} {k:Nat} (h:k < l.length):(l.take (k+1)).all p=((l.take k).all p&&p l[k]):=by
 rw [List.take_succ_eq_append_getElem h,List.all_append]
 simp
theorem all_false {l:List UInt8} {p:UInt8→Bool} {k:Nat} (h:k < l.length) (hp:p l[k]=false):l.all p=false:=by
 rw [List.all_eq_false]
 exact ⟨l[k],List.getElem_mem h,by simp [hp]⟩
theorem nameB_len {l:List UInt8} (h:nameB l=true):1≤l.length∧l.length≤12:=by
 simp only [nameB,Bool.and_eq_true,decide_eq_true_eq] at h
 exact h.1.1
end Go.Proofs.YtfdbhldnohaopaaGreat.Plain

namespace Go.Proofs.YtfdbhldnohaopaaGreat
open Go.RowKit Plain
def st (l:List UInt8):Value:=.string ⟨l.toArray⟩
theorem add_lists {P:Program} {x y z:List UInt8} (h:x.length+y.length≤9223372036854775807) (hz:x++y=z) (W:World):(Op.stringOp .add ⟨x.toArray⟩ ⟨y.toArray⟩).run P W=.ok (.string ⟨z.toArray⟩) W:=by
 subst hz
 rw [run_string_add_sum W _ _ (by simp [ByteArray.size];omega),ByteArray.mk_append_mk]
theorem ret_bool {a b:Bool} (h:a=b):Ending.returned (.bool a)=.returned (.bool b):=by rw [h]

set_option maxHeartbeats 400000 in
theorem Rletter_any (x:Nat) (hx:x < 256) (w:World) :
  Calls Tryz.prog 181 #[.int .u8 x] w fun e w'=>e=.returned (.bool (letB x))∧w=w':=by
 go_enter Tryz.func181,Tryz.ntmps181
 go_wp2
 all_goals
  go_ret
  refine ⟨ret_bool ?_,rfl⟩
  rw [Bool.eq_iff_iff]
  simp [letB]
  omega
theorem Rletter_b {x:Nat} {b:Bool} (hx:x < 256) (hb:letB x=b) (w:World) :
  Calls Tryz.prog 181 #[.int .u8 x] w fun e w'=>e=.returned (.bool b)∧w=w':=by
 have:=Rletter_any x hx w;rw [hb] at this;exact this

set_option maxHeartbeats 400000 in
theorem RNRight_any (l:List UInt8) (w:World) (hl:l.length≤140737488355328) :
  Calls Tryz.prog 157 #[st l] w fun e w'=>e=.returned (.bool (nameB l))∧w=w':=by
 unfold st
 by_cases h1:l.length < 1
 ·have hr:nameB l=false:=by
   have:decide (1≤l.length∧l.length≤12)=false:=by simp;omega
   simp [nameB,this]
  rw [hr]
  clear hr
  obtain rfl:l=[]:=List.eq_nil_of_length_eq_zero (by omega)
  go_enter Tryz.func157,Tryz.ntmps157
  go_wp2
  go_ret
  exact ⟨rfl,rfl⟩
 by_cases h2:12 < l.length
 ·have hr:nameB l=false:=by
   have:decide (1≤l.length∧l.length≤12)=false:=by simp;omega
   simp [nameB,this]
  rw [hr]
  clear hr
  have d1:decide ((l.length:Int) < 1)=false:=by simp;omega
  have d2:decide ((12:Int) < (l.length:Int))=true:=by simp;omega
  go_enter Tryz.func157,Tryz.ntmps157
  go_wp2
  go_ret
  exact ⟨rfl,rfl⟩
 by_cases h3:l=[46]
 ·subst h3
  go_enter Tryz.func157,Tryz.ntmps157
  go_wp2
  go_ret
  exact ⟨rfl,rfl⟩
 by_cases h4:l=[46,46]
 ·subst h4
  go_enter Tryz.func157,Tryz.ntmps157
  go_wp2
  go_ret
  exact ⟨rfl,rfl⟩
 have d1:decide ((l.length:Int) < 1)=false:=by simp;omega
 have d2:decide ((12:Int) < (l.length:Int))=false:=by simp;omega
 have d3:(l==[46])=false:=by simpa using h3
 have d4:(l==[46,46])=false:=by simpa using h4
 have hr:nameB l=l.all fun x=>letB x.toNat:=by
  have:decide (1≤l.length∧l.length≤12)=true:=by simp;omega
  simp [nameB,this,d3,d4]
 rw [hr]
 obtain ⟨r,hre⟩:∃r,(l.all fun x=>letB x.toNat)=r:=⟨_,rfl⟩
 rw [hre]
 have HR:=hide hre
 clear hr hre h3 h4
 go_enter Tryz.func157,Tryz.ntmps157
 go_wp2_with fail
 clear d1 d2 d3 d4
 go_loop [3] (fun i=>∃k:Nat,k≤l.length∧i=.int .i64 k∧((l.take k).all fun x=>letB x.toNat)=true) (fun i=>l.length - (intOf i).toNat)
 case atStart=>exact ⟨0,Nat.zero_le _,rfl,rfl⟩
 case round =>
  obtain ⟨k,hk,rfl,hall⟩:=hrel
  have HALL:=hide hall
  clear hall
  by_cases hlt:k < l.length
  ·have hb:=l[k].toNat_lt
   cases hb2:letB l[k].toNat with
   | true =>
    have HB:=hide hb2
    clear hb2
    go_wp2_with fail
    refine (Rletter_b hb HB.out _).mono ?_
    rintro e w' ⟨rfl,rfl⟩
    go_wp2_with fail
    go_round
    case rel=>exact ⟨k+1,by omega,by go_num,by rw [all_take_succ hlt,HALL.out,HB.out];rfl⟩
    case measure=>simp [intOf];omega
   | false =>
    have hrf:r=false:=by rw [←HR.out];exact all_false hlt hb2
    have HRF:=hide hrf
    have HB:=hide hb2
    clear hb2 hrf
    go_wp2_with fail
    refine (Rletter_b hb HB.out _).mono ?_
    rintro e w' ⟨rfl,rfl⟩
    go_wp2_with fail
    go_ret
    rw [HRF.out]
    exact ⟨rfl,rfl⟩
  ·have hrt:r=true:=by
    rw [←HR.out]
    have:=HALL.out
    rwa [List.take_of_length_le (by omega)] at this
   have HRT:=hide hrt
   clear hrt
   go_wp2
   go_ret
   rw [HRT.out]
   exact ⟨rfl,rfl⟩
end Go.Proofs.YtfdbhldnohaopaaGreat

