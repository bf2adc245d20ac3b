import Derived.Test.YtmhiohnkjpglfaaGreatWs9
import Derived.Test.YtmhiohnkjpglfaaGreatWs1
import Derived.Test.YtmhiohnkjpglfaaGreatWs2
import Derived.Sort.OwnSorted
import Derived.Lib.RowBridge
import Derived.DeepKeys4
import Derived.Test.YtmhiohnkjpglfaaGreatWs3
import Derived.BigQuiet
import Derived.Deep.QuietTactic

namespace Go.Proofs.YtmhiohnkjpglfaaGreat
open Go.RowKit Go.Shelf Plain

def wayEn : Enc WayV where
 k:=3
 R:=fun _ _ cs x=>cs=wayC x
 len:=fun h=>by rw [h];rfl
 one:=fun h v hv=>by
  rw [h] at hv
  simp only [wayC,List.mem_cons,List.not_mem_nil,or_false] at hv
  rcases hv with rfl|rfl|rfl <;> rfl
 mono:=fun h _ _=>h
theorem own_way {W:World} {base t n c:Nat} {A:Option Addr} {l:List WayV} (h:W.ownsRow base t 3 (.slice A n c) n (flatW l)):OwE wayEn W base t A n c l:=by
 have hl:=h.1
 rw [flatW_len] at hl
 refine ⟨l.map wayC,by rw [show (l.map wayC).flatten=flatW l from by simp [flatW,List.flatMap]];exact h,⟨by simp,fun i cs x h1 h2=>?_⟩,by omega⟩
 rw [List.getElem?_map,h2] at h1
 cases h1
 exact rfl
def WdRet (w:World) (ns:List NodV) (s:StW) (e:Ending) (w':World):Prop:=∃g b,e=.returned (.pointer (some ⟨g,0,none⟩))∧WkS w.heap.size g b ns s w'∧Below w.heap.size w w'
theorem int_get {w:World} {D:Nat→Prop} {A:Option Addr} {n k:Nat} {l:List Int} {x:Int} (h:RdE Enc.int w D A n l) (hx:l[k]?=some x):∃b o,A=some ⟨b,o,none⟩∧w.cell? ⟨b,o+k,none⟩=some (.int .i64 x):=by
 have hi:=(List.getElem?_eq_some_iff.1 hx).1
 obtain ⟨b,o,e,hb,hc⟩:=h.2 (by have:=h.1;omega)
 obtain ⟨cs,hcs,hcell⟩:=hc k x hx
 refine ⟨b,o,e,?_⟩
 have:=hcell 0 (.int .i64 x) (by rw [show cs=[.int .i64 x] from hcs];rfl)
 rwa [show o+(k*Enc.int.k+0)=o+k from by show o+(k*1+0)=o+k;omega] at this
theorem take_walk {ns:List NodV} {ff:List Int} {j:Nat} {i:Int} (h:ff[j]?=some i):walkW ns (ff.take (j+1))=rootW ns (walkW ns (ff.take j)) i:=by
 rw [List.take_add_one,h]
 exact walk_snoc ns _ i
set_option maxRecDepth 100000 in
set_option maxHeartbeats 4000000 in
theorem walked_any {A F:Option Addr} {n c k d:Nat} {ns:List NodV} {ff:List Int} (w:World) (h:RdE nodEn w (Under w.heap.size) A n ns) (hf:RdE Enc.int w (Under w.heap.size) F k ff) (hM:Many ns) (hk:k≤1000) :
  Calls Tryz.prog 67 #[.agg #[.slice A n c],.slice F k d] w (WdRet w ns (walkW ns ff)):=by
 have HM:=hide hM
 have HF:=hide hf
 have hmm := @run_makeMap Tryz.prog
 have hb1:=below_new (below_self w) (.cells #[.slice A n c] 26)
 have hb2:=hb1.alloc hb1.size (.map #[] 0)
 have hm2:SetW ((w.alloc (.cells #[.slice A n c] 26)).alloc (.map #[] 0)) (w.heap.size+1) 0 (fun _=>false):=by
  have:=SetW.made (w.alloc (.cells #[.slice A n c] 26))
  rwa [World.size_alloc] at this
 have hs2:((w.alloc (.cells #[.slice A n c] 26)).alloc (.map #[] 0)).heap.size=w.heap.size+2:=by simp
 obtain ⟨W2,hW2⟩:∃W2,(w.alloc (.cells #[.slice A n c] 26)).alloc (.map #[] 0)=W2:=⟨_,rfl⟩
 rw [hW2] at hb2 hm2 hs2
 obtain ⟨r1,r2,r3⟩:=rows1 W2 [.slice A n c,.slice none 0 0,.map (some (w.heap.size+1)),.slice none 0 0] 124
 rw [hs2] at r1 r3
 have hb3:Below w.heap.size w (W2.alloc (.cells #[.slice A n c,.slice none 0 0,.map (some (w.heap.size+1)),.slice none 0 0] 124)):=hb2.alloc hb2.size _
 have hw3:WkS w.heap.size (w.heap.size+2) (w.heap.size+1) ns ([],[]) (W2.alloc (.cells #[.slice A n c,.slice none 0 0,.map (some (w.heap.size+1)),.slice none 0 0] 124)) :=
  ⟨A,n,c,none,0,0,none,0,0,by omega,by omega,r1,h.under hb3 (Nat.le_refl _),World.ownsRow_nil _ _ _ _,hm2.on r2,World.ownsRow_nil _ _ _ _⟩
 have HW3:=hide hw3
 have HB3:=hide hb3
 clear h hf hb1 hb2 hm2 r1 r2 r3 hw3 hb3
 go_enter Tryz.func67,Tryz.ntmps67
 go_wp2
 clear hmm
 have hb3:=HB3.out
 have hw3:=HW3.out
 generalize W2.alloc (.cells #[.slice A n c,.slice none 0 0,.map (some (w.heap.size+1)),.slice none 0 0] 124)=W3 at *
 go_loopw [14] (fun iv wr=>∃j:Nat,j≤k∧iv=.int .i64 j∧WkS w.heap.size (w.heap.size+2) (w.heap.size+1) ns (walkW ns (ff.take j)) wr∧Below w.heap.size w wr) (fun iv _=>k - (intOf iv).toNat)
 case atStart=>exact ⟨0,by omega,rfl,by rw [List.take_zero];exact hw3,hb3⟩
 case round =>
  obtain ⟨j,hj,rfl,hwr,hbr⟩:=hrel
  clear hb3 hw3
  have HWR:=hide hwr
  have HBR:=hide hbr
  have hok:=walk_ok ns (ff.take j)
  have htw:=walk_tw HM.out (ff.take j)
  have hm24:=HM.out.1
  by_cases hlt:j < k
  ·obtain ⟨i,hi⟩:∃i,ff[j]?=some i:=⟨_,List.getElem?_eq_getElem (by have:=HF.out.1;omega)⟩
   have HTW:=hide (take_walk (ns:=ns) hi)
   obtain ⟨b,o,rfl,hcell⟩:=int_get (HF.out.under hbr (Nat.le_refl _)) hi
   have hBsz:=hbr.size
   obtain ⟨-,hgl,-,hbl⟩:=hwr.lt
   generalize walkW ns (ff.take j)=S' at *
   have HOK:=hide hok
   clear hi hwr hbr
   cases hd:isDir ns i with
   | false =>
    have HR:=hide (show rootW ns S' i=S' from by unfold rootW;rw [hd];rfl)
    go_wp2_with (go_at_call 116;refine (dir_any (i:=i) wr HWR.out.n (by omega) (by omega) (by omega)).mono ?_;rw [hd];rintro e w4 ⟨rfl,hb4⟩;have HB4:=hide hb4;clear hb4)
    go_roundw
    case rel=>exact ⟨j+1,by omega,by go_num,by rw [HTW.out,HR.out];exact HWR.out.on HB4.out,HBR.out.trans (HB4.out.mono hBsz)⟩
    case measure=>simp [intOf];omega
   | true =>
    have hin:=isDir_in hd
    have hi64:i64 i:=by unfold i64;omega
    cases hc:cameW S'.1 i with
    | true =>
     have HR:=hide (show rootW ns S' i=S' from by unfold rootW;rw [hd,hc];rfl)
     go_wp2_with (first|(go_at_call 116;refine (dir_any (i:=i) wr HWR.out.n (by omega) (by omega) (by omega)).mono ?_;rw [hd];rintro e w4 ⟨rfl,hb4⟩;have HB4:=hide hb4;clear hb4;obtain ⟨A',n',c',A1,n1,c1',A2',n2',c2',-,-,h3,-,-,h6,-⟩:=HWR.out.on HB4.out;have qm:w4.cell? ⟨w.heap.size+2,2,none⟩=some (.map (some (w.heap.size+1))):=h3.cell 2;have H6:=hide h6;clear h3 h6)|(go_at_call 117;refine (came_any w4 qm H6.out hi64 hc).mono ?_;rintro e w5 ⟨rfl,hb5⟩;have HB5:=hide (HB4.out.trans (hb5.mono HB4.out.size));clear hb5 qm))
     go_roundw
     case rel=>exact ⟨j+1,by omega,by go_num,by rw [HTW.out,HR.out];exact HWR.out.on HB5.out,HBR.out.trans (HB5.out.mono hBsz)⟩
     case measure=>simp [intOf];omega
    | false =>
     have HR:=hide (show rootW ns S' i=runW ns (ns.length - S'.1.length) S'.1.length (S'.1++[⟨i,-1,[]⟩],S'.2) from by unfold rootW;rw [hd,hc];rfl)
     go_wp2_with (first|(go_at_call 116;refine (dir_any (i:=i) wr HWR.out.n (by omega) (by omega) (by omega)).mono ?_;rw [hd];rintro e w4 ⟨rfl,hb4⟩;have HB4:=hide hb4;clear hb4;obtain ⟨A',n',c',A1,n1,c1',A2',n2',c2',-,-,h3,-,-,h6,-⟩:=HWR.out.on HB4.out;have qm:w4.cell? ⟨w.heap.size+2,2,none⟩=some (.map (some (w.heap.size+1))):=h3.cell 2;have H6:=hide h6;clear h3 h6)|(go_at_call 117;refine (came_any w4 qm H6.out hi64 hc).mono ?_;rintro e w5 ⟨rfl,hb5⟩;have HB5:=hide (HB4.out.trans (hb5.mono HB4.out.size));clear hb5 qm)|(go_at_call 118;refine (begin_any w5 (HWR.out.on HB5.out) hd hc HOK.out HM.out htw rfl).mono ?_;rintro e w6 ⟨rfl,hw6,hT6⟩;have HW6:=hide hw6;have HT6:=hide hT6;clear hw6 hT6))
     have hsz5:=HB5.out.size
     go_roundw
     case rel=>exact ⟨j+1,by omega,by go_num,by rw [HTW.out,HR.out];exact HW6.out,HT6.out.below (HBR.out.trans (HB5.out.mono hBsz)) (by omega)⟩
     case measure=>simp [intOf];omega
  ·obtain rfl:j=k:=by omega
   go_wp2
   go_ret
   have hall:ff.take j=ff:=List.take_of_length_le (by rw [HF.out.1];exact Nat.le_refl _)
   rw [hall] at hwr
   exact ⟨_,_,rfl,hwr,hbr⟩
theorem way_fresh {W:World} {base t n c:Nat} {A:Option Addr} {l:List WayV} (h:W.ownsRow base t 3 (.slice A n c) n (flatW l)):RdE wayEn W (fun b=>base≤b∧b < W.heap.size) A n l:=by
 have hl:=h.1
 rw [flatW_len] at hl
 have hln:l.length=n:=by omega
 refine ⟨hln,fun h0=>?_⟩
 rcases h.2 with ⟨_,h0'⟩|⟨g,cap,cur,he,hb,hg,_⟩
 ·omega
 ·simp only [Value.slice.injEq] at he
  obtain ⟨rfl,-,-⟩:=he
  refine ⟨g,0,rfl,⟨hb,heap_lt hg⟩,fun i x hx=>⟨wayC x,rfl,fun j v hv=>?_⟩⟩
  have hj:j < 3:=by have:=(List.getElem?_eq_some_iff.1 hv).1;simpa [wayC] using this
  have hi:=(List.getElem?_eq_some_iff.1 hx).1
  rw [Nat.zero_add]
  refine (World.ownsRow.cellAt (g:=g) h (i*3+j) (by omega)).trans ?_
  have:=flat_get (k:=3) (css:=l.map wayC) (fun cs hc=>by obtain ⟨z,_,rfl⟩:=List.mem_map.1 hc;rfl) (i:=i) (j:=j) (cs:=wayC x) (by rw [List.getElem?_map,hx];rfl) hj
  rw [show flatW l=(l.map wayC).flatten from by simp [flatW,List.flatMap],this]
  exact hv
def WaysRet (w:World) (l:List WayV) (e:Ending) (w':World):Prop:=∃A n c,e=.returned (.slice A n c)∧n≤c∧RdE wayEn w' (fun b=>w.heap.size≤b∧b < w'.heap.size) A n l∧Below w.heap.size w w'
set_option maxRecDepth 100000 in
set_option maxHeartbeats 1600000 in
theorem Dirs_any {A F:Option Addr} {n c k d:Nat} {ns:List NodV} {ff:List Int} (w:World) (h:RdE nodEn w (Under w.heap.size) A n ns) (hf:RdE Enc.int w (Under w.heap.size) F k ff) (hM:Many ns) (hk:k≤1000) :
  Calls Tryz.prog 126 #[.agg #[.slice A n c],.slice F k d] w (WaysRet w (walkW ns ff).1):=by
 have hb1:=below_new (below_self w) (.cells #[.slice A n c] 26)
 have H1:=hide (h.on hb1)
 have HF1:=hide (hf.on hb1)
 have HB1:=hide hb1
 have HM:=hide hM
 clear h hf hb1
 go_enter Tryz.func126,Tryz.ntmps126
 go_wp2_with (go_at_call 67;refine (walked_any _ H1.out HF1.out HM.out hk).mono ?_;rintro e w2 ⟨g,b,rfl,hw2,hb2⟩;obtain ⟨A',n',c',A1,n1,c1',A2',n2',c2',-,-,h3,-,h5,-⟩:=hw2;have q1:w2.cell? ⟨g,1,none⟩=some (.slice A1 n1 c1'):=h3.cell 1;have H5:=hide h5;have HB2:=hide (below_step HB1.out hb2);clear h3 h5 hb2)
 go_ret
 exact ⟨A1,n1,c1',rfl,(own_way H5.out).cap,(way_fresh H5.out).mono (fun _ _=>rfl) (fun b hb=>⟨by have:=HB1.out.size;omega,hb.2⟩),HB2.out⟩
end Go.Proofs.YtmhiohnkjpglfaaGreat

namespace Go.Proofs.YtmhiohnkjpglfaaGreat
open Go.RowKit Go.Shelf Plain

def prC (q:Int×Int):List Value:=[.int .i64 q.1,.int .i64 q.2]
def prEn : Enc (Int × Int) where
 k:=2
 R:=fun _ _ cs x=>cs=prC x
 len:=fun h=>by rw [h];rfl
 one:=fun h v hv=>by
  rw [h] at hv
  simp only [prC,List.mem_cons,List.not_mem_nil,or_false] at hv
  rcases hv with rfl|rfl <;> rfl
 mono:=fun h _ _=>h
def flatR (l:List (Int×Int)):List Value:=(l.map prC).flatten
theorem flatR_snoc (l:List (Int×Int)) (q:Int×Int):flatR (l++[q])=flatR l++prC q:=by simp [flatR]
theorem flatR_len (l:List (Int×Int)):(flatR l).length=l.length*2:=by
 have:=flat_len (k:=2) (css:=l.map prC) (fun cs h=>by obtain ⟨x,_,rfl⟩:=List.mem_map.1 h;rfl)
 simpa [flatR] using this
theorem own_pr {W:World} {base t n c:Nat} {A:Option Addr} {l:List (Int×Int)} (h:W.ownsRow base t 2 (.slice A n c) n (flatR l)):OwE prEn W base t A n c l:=by
 have hl:=h.1
 rw [flatR_len] at hl
 refine ⟨l.map prC,h,⟨by simp,fun i cs x h1 h2=>?_⟩,by omega⟩
 rw [List.getElem?_map,h2] at h1
 cases h1
 exact rfl
def slotQ (ns:List NodV) (q:Int×Nat):Int×Int:=(q.1,(((nodAt ns q.1).ents[q.2]?).getD ent0).slot)
def twiceS (ns:List NodV) (s:StW):List (Int×Int):=s.2.map (slotQ ns)
def PairsRet (w:World) (l:List (Int×Int)) (e:Ending) (w':World):Prop:=∃A n c,e=.returned (.slice A n c)∧n≤c∧RdE prEn w' (Under w'.heap.size) A n l∧Below w.heap.size w w'
def zpr:Value:=.agg #[.int .i64 0,.int .i64 0]
set_option maxRecDepth 100000 in
theorem pr_info:(Tryz.prog.info? 110).map (fun i=>(i.zero,i.size,i.bytes))=some (some zpr,2,16):=by kernel_rfl
theorem lit_pr (q:Int×Int) (W:World):(Instr.buildSlice 54 1 #[(0,.agg (prC q).toArray)]).run Tryz.prog W=.ok (.slice (some ⟨W.heap.size,0,none⟩) 1 1) (W.alloc (.cells (prC q).toArray 110)):=by
 obtain ⟨it,hi,hz,hsz,-⟩:=info_parts pr_info
 refine run_buildSlice W _ 110 1 _ _ it zpr Tryz.underlying54 hi hz (by omega) (by omega) ?_
 rw [hsz]
 have:=Great.fill_whole (s:=2) (by omega) [.agg (prC q).toArray] ((Array.range (1*2)).map (zpr.cells[· % zpr.cells.size]!)) (by intro v hv;rw [List.mem_singleton] at hv;subst hv;simp [Value.cells,prC]) (by simp)
 simpa [Value.cells] using this
set_option maxRecDepth 100000 in
theorem nam_agg:∀w,(isAgg 126).run Tryz.prog w=.ok true w:=fun w=>by kernel_rfl
set_option maxRecDepth 100000 in
theorem nam_size:∀w,(Go.sizeOf 126).run Tryz.prog w=.ok 2 w:=fun w=>by kernel_rfl
theorem twC_one (q:Int×Nat):∀v∈twC q,v.oneCell'=true:=by simp [twC,Value.oneCell']
theorem flatT_get {l:List (Int×Nat)} {j:Nat} {q:Int×Nat} (h:l[j]?=some q) {i:Nat} (hi:i < 2):(flatT l)[j*2+i]?=(twC q)[i]?:=by
 have:=flat_get (k:=2) (css:=l.map twC) (fun cs hc=>by obtain ⟨z,_,rfl⟩:=List.mem_map.1 hc;rfl) (i:=j) (j:=i) (cs:=twC q) (by rw [List.getElem?_map,h];rfl) hi
 rw [show flatT l=(l.map twC).flatten from by simp [flatT,List.flatMap]]
 exact this
set_option maxRecDepth 100000 in
set_option maxHeartbeats 4000000 in
theorem Twice_any {A F:Option Addr} {n c k d:Nat} {ns:List NodV} {ff:List Int} (w:World) (h:RdE nodEn w (Under w.heap.size) A n ns) (hf:RdE Enc.int w (Under w.heap.size) F k ff) (hM:Many ns) (hk:k≤1000) :
  Calls Tryz.prog 25 #[.agg #[.slice A n c],.slice F k d] w (PairsRet w (twiceS ns (walkW ns ff))):=by
 have hb1:=below_new (below_self w) (.cells #[.slice A n c] 26)
 have H1:=hide (h.on hb1)
 have HF1:=hide (hf.on hb1)
 have HB1:=hide hb1
 have HM:=hide hM
 have hm24:=hM.1
 have hct:=walk_comes ns ff
 have htw:=walk_tw hM ff
 have hok:=(walk_ok ns ff).le
 have HCT:=hide hct
 obtain ⟨S',hS'⟩:∃S',walkW ns ff=S':=⟨_,rfl⟩
 have HWD:=hide (fun W hh hh2=>walked_any (A:=A) (F:=F) (n:=n) (c:=c) (k:=k) (d:=d) W (ns:=ns) (ff:=ff) hh hh2 hM hk)
 rw [hS'] at HWD HCT htw hok ⊢
 clear h hf hb1 hct hS' hM
 go_enter Tryz.func25,Tryz.ntmps25
 go_wp2_with (go_at_call 67;refine (HWD.out _ H1.out HF1.out).mono ?_;rintro e w2 ⟨g,b,rfl,hw2,hb2⟩;obtain ⟨hBg,hgl,hBb,hbl⟩:=hw2.lt;have HW2:=hide hw2;obtain ⟨A',n',c',A1,n1,c1',A2,n2,c2,-,-,h3,-,-,-,h7⟩:=hw2;have q3:w2.cell? ⟨g,3,none⟩=some (.slice A2 n2 c2):=h3.cell 3;have H7:=hide h7;have HB2:=hide (below_step HB1.out hb2);clear h3 h7 hb2)
 have hn2:n2=S'.2.length:=by have h8:=H7.out.1;rw [flatT_len] at h8;omega
 subst hn2
 rw [World.size_alloc] at *
 clear q3
 go_loopw [6,17] (fun v6 iv wr=>∃(j:Nat) (A5:Option Addr) (c5:Nat),j≤S'.2.length∧iv=.int .i64 j∧v6=.slice A5 j c5∧wr.ownsRow w2.heap.size 110 2 (.slice A5 j c5) j (flatR ((S'.2.take j).map (slotQ ns)))∧Below w2.heap.size w2 wr) (fun _ iv _=>S'.2.length - (intOf iv).toNat)
 case atStart=>exact ⟨0,none,0,by omega,rfl,rfl,by rw [List.take_zero];exact World.ownsRow_nil _ _ _ _,below_self _⟩
 case round =>
  obtain ⟨j,A5,c5,hj,rfl,rfl,ho,hbr⟩:=hrel
  have HO:=hide ho
  have HBR:=hide hbr
  have hbsz:=hbr.size
  clear ho hbr
  by_cases hlt:j < S'.2.length
  ·obtain ⟨q,hq⟩:∃q,S'.2[j]?=some q:=⟨_,List.getElem?_eq_getElem hlt⟩
   obtain ⟨e,he,-⟩:=HCT.out q (List.mem_of_getElem? hq)
   have HSQ:=hide (show (S'.2.take (j+1)).map (slotQ ns)=(S'.2.take j).map (slotQ ns)++[(q.1,e.slot)] from by rw [List.take_add_one,hq,List.map_append];simp [slotQ,he])
   have hcellq:∃g2,A2=some ⟨g2,0,none⟩∧∀i v,(twC q)[i]?=some v→wr.cell? ⟨g2,j*2+i,none⟩=some v:=by
    rcases H7.out.2 with ⟨_,h0⟩|⟨g2,cap,cur,he2,_,hg2,_⟩
    ·omega
    ·simp only [Value.slice.injEq] at he2
     obtain ⟨rfl,-,rfl⟩:=he2
     refine ⟨g2,rfl,fun i v hv=>?_⟩
     have hi:i < 2:=by have:=(List.getElem?_eq_some_iff.1 hv).1;simpa [twC] using this
     refine (HBR.out.cell (p:=⟨g2,j*2+i,none⟩) (heap_lt hg2)).trans ?_
     refine (World.ownsRow.cellAt (g:=g2) H7.out (j*2+i) (by omega)).trans ?_
     rw [flatT_get hq hi]
     exact hv
   obtain ⟨g2,rfl,hcq⟩:=hcellq
   have HCQ:=hide hcq
   have HQ:=hide hq
   have HE:=hide he
   have HZ:=hide (RowL.new wr 126 [.int .i64 0,.int .i64 0])
   have hcap:S'.2.length≤c2:=by
    rcases H7.out.2 with ⟨_,h0⟩|⟨g2,cap,cur,he2,_,hg2,hle,_⟩
    ·omega
    ·simp only [Value.slice.injEq] at he2
     omega
   clear hcq hq he
   go_wp2_with (first|(refine wpList_loadX rfl 126 (.tmp 19) rfl 2 nam_agg nam_size g2 (j*2) rfl (twC q) HCQ.out rfl ?_)|(refine wpList_storeW rfl 126 (.tmp 8) (.tmp 20) rfl 2 nam_size wr.heap.size 126 rfl [.int .i64 0,.int .i64 0] (twC q) rfl HZ.out rfl rfl (twC_one q) ?_;intro w3 hr3 hg3 hs3;have HB3:=hide (below_stored' hg3);have HR3:=hide hr3;clear hr3 hg3 hs3))
   have hs3:=HB3.out.size
   have hbw3:=HBR.out.trans (HB3.out.mono hbsz)
   have ho3:=ownsRow_below HO.out HB3.out
   have HBW3:=hide hbw3
   have HO3:=hide ho3
   have hj384:j≤1000:=by omega
   have q0:w3.cell? ⟨wr.heap.size,0,none⟩=some (.int .i64 q.1):=HR3.out.cell 0
   have q1:w3.cell? ⟨wr.heap.size,1,none⟩=some (.int .i64 q.2):=HR3.out.cell 1
   clear hbw3 ho3
   refine wp_region_planN (fun w'=>Below w2.heap.size w2 w'∧w'.cell? ⟨wr.heap.size,0,none⟩=some (.int .i64 q.1)∧w'.cell? ⟨wr.heap.size,1,none⟩=some (.int .i64 q.2)) [(0,true),(1,true),(2,true),(3,true),(4,true),(5,true),(8,true),(9,true),(6,false),(7,true),(10,true),(11,true),(12,true),(13,true),(14,false),(15,false),(16,true)] (by kernel_rfl) (by kernel_rfl) (by kernel_rfl) (by kernel_rfl) rfl (fun _ _ _ _ _ h=>h) ⟨below_drewN HBW3.out 1,q0,q1⟩ (fun hHeld=>?_)
   simp only [planOps,List.filterMap_cons,List.filterMap_nil,List.getElem?_toArray,List.getElem?_cons_succ,List.getElem?_cons_zero,Option.map_some]
   iterate 8
    refine wpPlan_take (v:=?_) (by kernel_rfl) (fun wS hSw=>?_) ?_
    rotate_left
    ·(try dsimp only at hSw);go_simp;(try with_reducible rfl)
    (try simp only [Act.put,pu1,pu2,pu3])
   refine wpPlan_call (by kernel_rfl) (fun K hK=>?_)
   have hOld:=hide hHeld
   clear hHeld
   go_simp
   go_at_call 68
   refine (node_any (i:=q.1) _ ((HW2.out.on HBW3.out).on (below_drew (below_self w3))).n (by show _≤w3.heap.size;omega) (by show g < w3.heap.size;omega) (by omega)).mono ?_
   rintro e' w4 ⟨A8,n8,c8,C8,m8,d8,rfl,-,-,hmd8,hE,hbel⟩
   have hbn:Below w3.heap.size w3 w4:=by have:=hbel;exact ⟨this.os,this.tape,this.output,this.size,this.block⟩
   have HB4:=hide hbn
   obtain ⟨bE,oE,hCE,hbE,hcE⟩:=ent_get hE HE.out
   subst hCE
   have HCE:=hide (show w4.cell? ⟨bE,oE+q.2*3,none⟩=some (.int .i64 e.slot) from hcE 0 _ rfl)
   have hf5:=nod_f5 (nodAt ns q.1) A8 (some ⟨bE,oE,none⟩) n8 c8 m8 d8
   have hq2:q.2 < m8:=by rw [←hE.1];exact (List.getElem?_eq_some_iff.1 HE.out).1
   have hbE2:bE < w2.heap.size:=by unfold Under at hbE;omega
   have HE8:=hide (HB4.out)
   clear hE hcE
   refine hK.out _ _ (⟨(HBW3.out.trans (HB4.out.mono HBW3.out.size)),(HR3.out.on HB4.out).cell 0,(HR3.out.on HB4.out).cell 1⟩) (fun hHeld=>?_)
   clear hK K
   (try simp only [Act.put,pu1,pu2,pu3])
   iterate 3
    refine wpPlan_take (v:=?_) (by kernel_rfl) (fun wS hSw=>?_) ?_
    rotate_left
    ·(try dsimp only at hSw);go_simp;(try with_reducible rfl)
    (try simp only [Act.put,pu1,pu2,pu3])
   refine wpPlan_take (v:=?_) (by kernel_rfl) (fun wS hSw=>?_) ?_
   rotate_left
   ·obtain ⟨hk1,-⟩:=hSw;have hce:wS.cell? ⟨bE,oE+q.2*3,none⟩=some (.int .i64 e.slot):=(hk1.cell (p:=⟨bE,oE+q.2*3,none⟩) hbE2).trans (((HBW3.out.trans (HB4.out.mono HBW3.out.size)).cell (p:=⟨bE,oE+q.2*3,none⟩) hbE2).symm.trans HCE.out);clear hk1;go_simp;(try with_reducible rfl)
   (try simp only [Act.put,pu1,pu2,pu3])
   refine wpPlan_take (v:=?_) (by kernel_rfl) (fun wS hSw=>?_) ?_
   rotate_left
   ·(try dsimp only at hSw);go_simp;(try with_reducible rfl)
   (try simp only [Act.put,pu1,pu2,pu3])
   refine wpPlan_call (by kernel_rfl) (fun K hK=>?_)
   have hOld:=hide hHeld
   clear hHeld
   unfold Oper.wp execOp
   have hlit:=lit_pr (q.1,e.slot) w4
   unfold prC at hlit
   go_simp
   refine hK.out _ _ (⟨(HBW3.out.trans (HB4.out.mono HBW3.out.size)).trans ((below_new (below_self w4) (.cells (prC (q.1,e.slot)).toArray 110)).mono (by have:=HB4.out.size;omega)),((HR3.out.on HB4.out).on (below_new (below_self w4) (.cells (prC (q.1,e.slot)).toArray 110))).cell 0,((HR3.out.on HB4.out).on (below_new (below_self w4) (.cells (prC (q.1,e.slot)).toArray 110))).cell 1⟩) (fun hHeld=>?_)
   clear hK K
   (try simp only [Act.put,pu1,pu2,pu3])
   refine wpPlan_call (by kernel_rfl) (fun K hK=>?_)
   have hOld:=hide hHeld
   clear hHeld
   refine wp_appF w4 w2.heap.size w4.heap.size rfl (.tmp 21) (.tmp 35) 54 110 rfl Tryz.underlying54 _ 2 16 pr_info rfl (by omega) (by omega) A5 j c5 _ (prC (q.1,e.slot)) rfl (by simp [prC,Value.oneCell']) rfl (ownsRow_below HO3.out HB4.out) rfl (by omega) (by have:=HB4.out.size;omega) ?_
   intro A6 c6 w6 ho6 hg6
   have HO6:=hide ho6
   have HG6:=hide hg6
   clear ho6 hg6
   refine hK.out _ _ (⟨((HBW3.out.trans (HB4.out.mono HBW3.out.size)).trans ((below_new (below_self w4) (.cells (prC (q.1,e.slot)).toArray 110)).mono (by have:=HB4.out.size;omega))).grown HG6.out (by have:=HB4.out.size;simp only [World.size_alloc];omega) (fun k hk=>(own_block (ownsRow_below (ownsRow_below HO3.out HB4.out) (below_new (below_self w4) (.cells (prC (q.1,e.slot)).toArray 110))) k hk).1),((((HR3.out.on HB4.out).on (below_new (below_self w4) (.cells (prC (q.1,e.slot)).toArray 110))).grown HG6.out (row_apart (ownsRow_below (ownsRow_below HO3.out HB4.out) (below_new (below_self w4) (.cells (prC (q.1,e.slot)).toArray 110))) ((HR3.out.on HB4.out).on (below_new (below_self w4) (.cells (prC (q.1,e.slot)).toArray 110))) (by decide))).cell 0),((((HR3.out.on HB4.out).on (below_new (below_self w4) (.cells (prC (q.1,e.slot)).toArray 110))).grown HG6.out (row_apart (ownsRow_below (ownsRow_below HO3.out HB4.out) (below_new (below_self w4) (.cells (prC (q.1,e.slot)).toArray 110))) ((HR3.out.on HB4.out).on (below_new (below_self w4) (.cells (prC (q.1,e.slot)).toArray 110))) (by decide))).cell 1)⟩) (fun hHeld=>?_)
   clear hK K
   (try simp only [Act.put,pu1,pu2,pu3])
   refine wpPlan_take (v:=?_) (by kernel_rfl) (fun wS hSw=>?_) ?_
   rotate_left
   ·(try dsimp only at hSw);go_simp;(try with_reducible rfl)
   (try simp only [Act.put,pu1,pu2,pu3])
   refine wpPlan_end ?_
   have hbw6:=hHeld.1
   clear hHeld q0 q1
   go_wp2
   go_roundw
   case rel=>exact ⟨j+1,A6,c6,by omega,by go_num,rfl,by rw [HSQ.out,flatR_snoc];exact HO6.out,hbw6⟩
   case measure=>simp [intOf];omega
  ·obtain rfl:j=S'.2.length:=by omega
   go_wp2
   go_ret
   rw [List.take_length] at HO
   exact ⟨A5,S'.2.length,c5,rfl,(own_pr HO.out).cap,((own_pr HO.out).rd rfl).plain,HB2.out.trans (HBR.out.mono HB2.out.size)⟩
end Go.Proofs.YtmhiohnkjpglfaaGreat

namespace Go.Proofs.YtmhiohnkjpglfaaGreat
open Go.RowKit Go.Shelf Plain

theorem wayC_one (y:WayV):∀v∈wayC y,v.oneCell'=true:=by simp [wayC,Value.oneCell']
end Go.Proofs.YtmhiohnkjpglfaaGreat

namespace Go.Proofs.YtmhiohnkjpglfaaGreat
open Go.RowKit Go.Shelf Plain Go.Sort

theorem way_get {w:World} {D:Nat→Prop} {A:Option Addr} {n j:Nat} {l:List WayV} {y:WayV} (h:RdE wayEn w D A n l) (hy:l[j]?=some y):∃b o,A=some ⟨b,o,none⟩∧D b∧∀i v,(wayC y)[i]?=some v→w.cell? ⟨b,o+j*3+i,none⟩=some v:=by
 have hj:=(List.getElem?_eq_some_iff.1 hy).1
 obtain ⟨b,o,e,hb,hc⟩:=h.2 (by rw [←h.1];omega)
 obtain ⟨cs,hR,hcs⟩:=hc j y hy
 refine ⟨b,o,e,hb,fun i v hv=>?_⟩
 have:=hcs i v (by rw [show cs=wayC y from hR];exact hv)
 rwa [show o+(j*wayEn.k+i)=o+j*3+i from by show o+(j*3+i)=o+j*3+i;omega] at this
end Go.Proofs.YtmhiohnkjpglfaaGreat

namespace Go.Proofs.YtmhiohnkjpglfaaGreat
open Go.RowKit Go.Shelf Plain Go.Maps

def SetN (w:World) (b c:Nat) (f:Int×Int→Bool):Prop:=∃D:DataW Unit,w.ownsMap Tryz.prog 126 unitElem b c D∧∀x y kl,i64 x→i64 y→keyOf Tryz.prog 126 (.agg #[.int .i64 x,.int .i64 y])=some kl→Maps.has D kl=f (x,y)
section
variable {w w' : World} {b c : Nat} {f : Int × Int → Bool}
theorem SetN.made (w:World):SetN (w.alloc (.map #[] 0)) w.heap.size 0 (fun _=>false):=⟨.map [],World.ownsMap_made w _ _ _,fun _ _ _ _ _ _=>rfl⟩
theorem SetN.lt (h:SetN w b c f):b < w.heap.size:=by obtain ⟨D,h1,h2⟩:=h;exact h1.lt
theorem SetN.kept {row:Option Nat} (h:SetN w b c f) (hg:w.grownBy w' row) (hne:some b≠row):SetN w' b c f:=by obtain ⟨D,h1,h2⟩:=h;exact ⟨D,h1.kept hg hne,h2⟩
theorem SetN.on (h:SetN w b c f) (hb:Below w.heap.size w w'):SetN w' b c f:=h.kept (grown_below hb) (by simp)
theorem SetN.eq {g:Int×Int→Bool} (h:SetN w b c f) (e:f=g):SetN w b c g:=e ▸ h
theorem SetN.obj (h:SetN w b c f):∃o:Obj,w.heap[b]?=some o∧(∀x,o≠.deferred x)∧o.isCells=false:=by
 obtain ⟨D,⟨es,clock,h1,_⟩,h2⟩:=h
 exact ⟨_,h1,(fun x e=>by cases e),rfl⟩
end
end Go.Proofs.YtmhiohnkjpglfaaGreat

namespace Go.Proofs.YtmhiohnkjpglfaaGreat
open Go.RowKit Go.Shelf Plain

theorem wpList_litW {P:Program} {w w':World} {ops:Array Oper} {rest:List Oper} {o:Oper} {a:Act} {Q:Exit→Act→World→Prop} (hgd:o.guard=none) (t:Nat) (x:Operand) (ho:o.op=.buildSlice t 1 #[(0,x)]) (vx v:Value) (hx:a.eval x=vx) (hr:(Instr.buildSlice t 1 #[(0,vx)]).run P w=.ok v w') (hK:wpList P ops Q rest (a.put o.dst v) w'):wpList P ops Q (o::rest) a w:=by
 refine wpList_plain hgd fun K hK'=>?_
 unfold Oper.wp execOp
 simp only [ho,List.map_toArray,List.map_cons,List.map_nil,hx,Sem.run_bind,Sem.run_pure,Result.andThen_ok,hr]
 exact hK' _ _ hK
end Go.Proofs.YtmhiohnkjpglfaaGreat

namespace Go.Proofs.YtmhiohnkjpglfaaGreat
open Go.RowKit Go.Shelf Plain

def nodZ:List Value:=nodC nod0 (.slice none 0 0) (.slice none 0 0)
theorem flat_put {k:Nat}:∀ {css:List (List Value)} (_:∀cs∈css,cs.length=k) (j:Nat) (cs:List Value) (_:cs.length=k) (_:j < css.length),splice css.flatten (j*k) cs=(css.set j cs).flatten:=by
 intro css
 induction css with
 | nil=>intro _ j cs _ hj;simp at hj
 | cons c0 r ih =>
  intro hk j cs hc hj
  have h0:c0.length=k:=hk c0 List.mem_cons_self
  cases j with
  | zero =>
   simp only [splice,Nat.zero_mul,List.take_zero,List.nil_append,Nat.zero_add,List.set_cons_zero,List.flatten_cons]
   rw [List.drop_left' (by omega)]
  | succ j =>
   have:=ih (fun c h=>hk c (List.mem_cons_of_mem _ h)) j cs hc (by simpa using hj)
   simp only [List.set_cons_succ,List.flatten_cons,←this]
   unfold splice
   have e1:(j+1)*k=c0.length+j*k:=by rw [Nat.succ_mul,h0];omega
   rw [e1,List.take_append,List.take_of_length_le (by omega),Nat.add_sub_cancel_left,List.append_assoc,show c0.length+j*k+cs.length=c0.length+(j*k+cs.length) from by omega,List.drop_append,List.drop_of_length_le (by omega),Nat.add_sub_cancel_left,List.nil_append]
def NodesAt (B g:Nat) (l:List NodV) (W:World):Prop:=∃css,RowL W g 67 css.flatten∧CellsE nodEn W (fun b=>B≤b∧b < W.heap.size∧b≠g) css l
theorem NodesAt.on {B g:Nat} {l:List NodV} {W W':World} (h:NodesAt B g l W) (hb:Below W.heap.size W W'):NodesAt B g l W':=by
 obtain ⟨css,h1,h2⟩:=h
 exact ⟨css,h1.on hb,h2.mono (fun b hb'=>hb.block b hb'.2.1) (fun b hb'=>⟨hb'.1,Nat.lt_of_lt_of_le hb'.2.1 hb.size,hb'.2.2⟩)⟩
theorem NodesAt.len {B g:Nat} {l:List NodV} {W:World} (h:NodesAt B g l W):∃cs,RowL W g 67 cs∧cs.length=l.length*13:=by
 obtain ⟨css,h1,h2⟩:=h
 exact ⟨_,h1,by rw [flat_len h2.lens,h2.1];rfl⟩
theorem NodesAt.put {B g j:Nat} {l:List NodV} {x:NodV} {W W':World} {cur cs:List Value} (h:NodesAt B g l W) (hj:j < l.length) (hx:NodR W (fun b=>B≤b∧b < W.heap.size∧b≠g) cs x) (hcur:RowL W g 67 cur) (hr:RowL W' g 67 (splice cur (j*13) cs)) (hg:W.grownBy W' (some g)):NodesAt B g (l.set j x) W':=by
 obtain ⟨css,h1,h2⟩:=h
 have hc:cs.length=13:=nodEn.len hx
 have e:cur=css.flatten:=by
  have:=h1.symm.trans hcur
  injection this with this
  injection this with this
  simpa using this.symm
 subst e
 rw [flat_put (k:=13) (fun c hc=>h2.lens c hc) j cs hc (by rw [h2.1];exact hj)] at hr
 have hk:Kept (fun b=>B≤b∧b < W.heap.size∧b≠g) W W':=fun b hb=>hg.block b hb.2.1 (fun e=>hb.2.2 (Option.some.inj e))
 have hD:∀b,(B≤b∧b < W.heap.size∧b≠g)→(B≤b∧b < W'.heap.size∧b≠g):=fun b hb=>⟨hb.1,Nat.lt_of_lt_of_le hb.2.1 hg.size,hb.2.2⟩
 refine ⟨css.set j cs,hr,by rw [List.length_set,List.length_set,h2.1],fun i c y hc1 hy1=>?_⟩
 by_cases hi:j=i
 ·subst hi
  rw [List.getElem?_set_self (by rw [h2.1];exact hj)] at hc1
  rw [List.getElem?_set_self hj] at hy1
  cases hc1
  cases hy1
  exact NodR.mono hx hk hD
 ·rw [List.getElem?_set_ne hi] at hc1 hy1
  exact nodEn.mono (h2.2 i c y hc1 hy1) hk hD
theorem NodesAt.rd {B g n:Nat} {l:List NodV} {W:World} (h:NodesAt B g l W) (hB:B≤g) (hn:l.length=n):RdE nodEn W (fun b=>B≤b∧b < W.heap.size) (some ⟨g,0,none⟩) n l:=by
 subst hn
 obtain ⟨css,h1,h2⟩:=h
 refine ⟨rfl,fun _=>⟨g,0,rfl,⟨hB,h1.lt⟩,fun i x hx=>?_⟩⟩
 have hi:=(List.getElem?_eq_some_iff.1 hx).1
 have hc:css[i]?=some (css[i]'(by rw [h2.1];exact hi)):=List.getElem?_eq_getElem _
 have hR:=h2.2 i _ x hc hx
 refine ⟨_,nodEn.mono hR (fun _ _=>rfl) (fun b hb=>⟨hb.1,hb.2.1⟩),fun j v hv=>?_⟩
 have hj:j < 13:=by have:=(List.getElem?_eq_some_iff.1 hv).1;have h13:=nodEn.len hR;rw [h13] at this;exact this
 rw [Nat.zero_add,h1.cell]
 exact (flat_get h2.lens hc hj).trans hv
set_option maxRecDepth 100000 in
theorem nodw_info:(Tryz.prog.info? 67).map (fun i=>(i.zero,i.size,i.bytes))=some (some (.agg nodZ.toArray),13,144):=by kernel_rfl
end Go.Proofs.YtmhiohnkjpglfaaGreat

namespace Go.Proofs.YtmhiohnkjpglfaaGreat
open Go.RowKit Go.Shelf Plain

theorem cell_same {W W':World} {b o:Nat} (h:W'.heap[b]?=W.heap[b]?):W'.cell? ⟨b,o,none⟩=W.cell? ⟨b,o,none⟩:=by
 unfold World.cell?
 simp only [h]
set_option maxRecDepth 100000 in
theorem lay_agg:∀w,(isAgg 26).run Tryz.prog w=.ok true w:=fun w=>by kernel_rfl
set_option maxRecDepth 100000 in
theorem lay_size:∀w,(Go.sizeOf 26).run Tryz.prog w=.ok 1 w:=fun w=>by kernel_rfl
end Go.Proofs.YtmhiohnkjpglfaaGreat

namespace Go.Proofs.YtmhiohnkjpglfaaGreat
open Go.RowKit

theorem quietL {P:Program} {C:World→Prop} {o:Oper} {a:Act} {K:Act→Prop} (T:Nat) (x:Operand) (ho:o.op=.load T x) (p v:Value) (hx:a.eval x=p) (hl:∀w,C w→(Instr.loadAt T p).run P w=.ok v w) (hk:K (a.put o.dst v)):o.quiet P a C K :=
 ⟨v,fun w hw=>by
  unfold Oper.quietAt execOp
  simp only [ho,Sem.run_bind,Sem.run_pure,Result.andThen_ok,hx,hl w hw]
  exact ⟨rfl,rfl⟩,hk⟩
end Go.Proofs.YtmhiohnkjpglfaaGreat

namespace Go.Proofs.YtmhiohnkjpglfaaGreat.Plain
def lessS (a b:List UInt8):Bool:=Op.bytesLess a b
def posS (x:List UInt8) (o:List (List UInt8)):Nat:=(o.takeWhile fun y=>lessS y x).length
def insS (x:List UInt8) (o:List (List UInt8)):List (List UInt8):=if o[posS x o]?=some x then o else o.take (posS x o)++x::o.drop (posS x o)
def sortS (l:List (List UInt8)):List (List UInt8):=l.foldl (fun o x=>insS x o) []
theorem insS_length (x:List UInt8) (o:List (List UInt8)):(insS x o).length≤o.length+1:=by
 unfold insS
 split
 ·omega
 ·simp;omega
theorem sortS_length (l:List (List UInt8)):(sortS l).length≤l.length:=by
 suffices h:∀(l o:List (List UInt8)),(l.foldl (fun o x=>insS x o) o).length≤o.length+l.length from by simpa [sortS] using h l []
 intro l
 induction l with
 | nil=>intro o;simp
 | cons x r ih =>
  intro o
  rw [List.foldl_cons,List.length_cons]
  have:=ih (insS x o)
  have:=insS_length x o
  omega
end Go.Proofs.YtmhiohnkjpglfaaGreat.Plain

