import Derived.Test.YtpndfahgflgocaaGreatDoorLn7
import Derived.Test.YtpndfahgflgocaaGreatDoorLn1
import Derived.Test.YtpndfahgflgocaaGreatDoorRows

namespace Go.Proofs.YtpndfahgflgocaaGreatDoor
open Go.RowKit Go.Shelf Plain

def wayEn : Enc WayV where
 k:=3
 R:=fun _ _ cs x=>cs=wayC x
 len:=fun h=>by rw [h];rfl
 one:=fun h v hv=>by
  rw [h] at hv
  simp only [wayC,List.mem_cons,List.not_mem_nil,or_false] at hv
  rcases hv with rfl|rfl|rfl <;> rfl
 mono:=fun h _ _=>h
def WdRet (w:World) (ns:List NodV) (s:StW) (e:Ending) (w':World):Prop:=∃g b,e=.returned (.pointer (some ⟨g,0,none⟩))∧WkS w.heap.size g b ns s w'∧Below w.heap.size w w'
theorem int_get {w:World} {D:Nat→Prop} {A:Option Addr} {n k:Nat} {l:List Int} {x:Int} (h:RdE Enc.int w D A n l) (hx:l[k]?=some x):∃b o,A=some ⟨b,o,none⟩∧w.cell? ⟨b,o+k,none⟩=some (.int .i64 x):=by
 have hi:=(List.getElem?_eq_some_iff.1 hx).1
 obtain ⟨b,o,e,hb,hc⟩:=h.2 (by have:=h.1;omega)
 obtain ⟨cs,hcs,hcell⟩:=hc k x hx
 refine ⟨b,o,e,?_⟩
 have:=hcell 0 (.int .i64 x) (by rw [show cs=[.int .i64 x] from hcs];rfl)
 rwa [show o+(k*Enc.int.k+0)=o+k from by show o+(k*1+0)=o+k;omega] at this
theorem take_walk {ns:List NodV} {ff:List Int} {j:Nat} {i:Int} (h:ff[j]?=some i):walkW ns (ff.take (j+1))=rootW ns (walkW ns (ff.take j)) i:=by
 rw [List.take_add_one,h]
 exact walk_snoc ns _ i
set_option maxRecDepth 100000 in
set_option maxHeartbeats 4000000 in
theorem walked_any {A F:Option Addr} {n c k d:Nat} {ns:List NodV} {ff:List Int} (w:World) (h:RdE nodEn w (Under w.heap.size) A n ns) (hf:RdE Enc.int w (Under w.heap.size) F k ff) (hM:Many ns) (hk:k≤1000) :
  Calls Tryz.prog 58 #[.agg #[.slice A n c],.slice F k d] w (WdRet w ns (walkW ns ff)):=by
 have HM:=hide hM
 have HF:=hide hf
 have hmm := @run_makeMap Tryz.prog
 have hb1:=below_new (below_self w) (.cells #[.slice A n c] 26)
 have hb2:=hb1.alloc hb1.size (.map #[] 0)
 have hm2:SetW ((w.alloc (.cells #[.slice A n c] 26)).alloc (.map #[] 0)) (w.heap.size+1) 0 (fun _=>false):=by
  have:=SetW.made (w.alloc (.cells #[.slice A n c] 26))
  rwa [World.size_alloc] at this
 have hs2:((w.alloc (.cells #[.slice A n c] 26)).alloc (.map #[] 0)).heap.size=w.heap.size+2:=by simp
 obtain ⟨W2,hW2⟩:∃W2,(w.alloc (.cells #[.slice A n c] 26)).alloc (.map #[] 0)=W2:=⟨_,rfl⟩
 rw [hW2] at hb2 hm2 hs2
 obtain ⟨r1,r2,r3⟩:=rows1 W2 [.slice A n c,.slice none 0 0,.map (some (w.heap.size+1)),.slice none 0 0] 144
 rw [hs2] at r1 r3
 have hb3:Below w.heap.size w (W2.alloc (.cells #[.slice A n c,.slice none 0 0,.map (some (w.heap.size+1)),.slice none 0 0] 144)):=hb2.alloc hb2.size _
 have hw3:WkS w.heap.size (w.heap.size+2) (w.heap.size+1) ns ([],[]) (W2.alloc (.cells #[.slice A n c,.slice none 0 0,.map (some (w.heap.size+1)),.slice none 0 0] 144)) :=
  ⟨A,n,c,none,0,0,none,0,0,by omega,by omega,r1,h.under hb3 (Nat.le_refl _),World.ownsRow_nil _ _ _ _,hm2.on r2,World.ownsRow_nil _ _ _ _⟩
 have HW3:=hide hw3
 have HB3:=hide hb3
 clear h hf hb1 hb2 hm2 r1 r2 r3 hw3 hb3
 go_enter Tryz.func58,Tryz.ntmps58
 go_wp2
 clear hmm
 have hb3:=HB3.out
 have hw3:=HW3.out
 generalize W2.alloc (.cells #[.slice A n c,.slice none 0 0,.map (some (w.heap.size+1)),.slice none 0 0] 144)=W3 at *
 go_loopw [14] (fun iv wr=>∃j:Nat,j≤k∧iv=.int .i64 j∧WkS w.heap.size (w.heap.size+2) (w.heap.size+1) ns (walkW ns (ff.take j)) wr∧Below w.heap.size w wr) (fun iv _=>k - (intOf iv).toNat)
 case atStart=>exact ⟨0,by omega,rfl,by rw [List.take_zero];exact hw3,hb3⟩
 case round =>
  obtain ⟨j,hj,rfl,hwr,hbr⟩:=hrel
  clear hb3 hw3
  have HWR:=hide hwr
  have HBR:=hide hbr
  have hok:=walk_ok ns (ff.take j)
  have htw:=walk_tw HM.out (ff.take j)
  have hm24:=HM.out.1
  by_cases hlt:j < k
  ·obtain ⟨i,hi⟩:∃i,ff[j]?=some i:=⟨_,List.getElem?_eq_getElem (by have:=HF.out.1;omega)⟩
   have HTW:=hide (take_walk (ns:=ns) hi)
   obtain ⟨b,o,rfl,hcell⟩:=int_get (HF.out.under hbr (Nat.le_refl _)) hi
   have hBsz:=hbr.size
   obtain ⟨-,hgl,-,hbl⟩:=hwr.lt
   generalize walkW ns (ff.take j)=S' at *
   have HOK:=hide hok
   clear hi hwr hbr
   cases hd:isDir ns i with
   | false =>
    have HR:=hide (show rootW ns S' i=S' from by unfold rootW;rw [hd];rfl)
    go_wp2_with (go_at_call 82;refine (dir_any (i:=i) wr HWR.out.n (by omega) (by omega) (by omega)).mono ?_;rw [hd];rintro e w4 ⟨rfl,hb4⟩;have HB4:=hide hb4;clear hb4)
    go_roundw
    case rel=>exact ⟨j+1,by omega,by go_num,by rw [HTW.out,HR.out];exact HWR.out.on HB4.out,HBR.out.trans (HB4.out.mono hBsz)⟩
    case measure=>simp [intOf];omega
   | true =>
    have hin:=isDir_in hd
    have hi64:i64 i:=by unfold i64;omega
    cases hc:cameW S'.1 i with
    | true =>
     have HR:=hide (show rootW ns S' i=S' from by unfold rootW;rw [hd,hc];rfl)
     go_wp2_with (first|(go_at_call 82;refine (dir_any (i:=i) wr HWR.out.n (by omega) (by omega) (by omega)).mono ?_;rw [hd];rintro e w4 ⟨rfl,hb4⟩;have HB4:=hide hb4;clear hb4;obtain ⟨A',n',c',A1,n1,c1',A2',n2',c2',-,-,h3,-,-,h6,-⟩:=HWR.out.on HB4.out;have qm:w4.cell? ⟨w.heap.size+2,2,none⟩=some (.map (some (w.heap.size+1))):=h3.cell 2;have H6:=hide h6;clear h3 h6)|(go_at_call 83;refine (came_any w4 qm H6.out hi64 hc).mono ?_;rintro e w5 ⟨rfl,hb5⟩;have HB5:=hide (HB4.out.trans (hb5.mono HB4.out.size));clear hb5 qm))
     go_roundw
     case rel=>exact ⟨j+1,by omega,by go_num,by rw [HTW.out,HR.out];exact HWR.out.on HB5.out,HBR.out.trans (HB5.out.mono hBsz)⟩
     case measure=>simp [intOf];omega
    | false =>
     have HR:=hide (show rootW ns S' i=runW ns (ns.length - S'.1.length) S'.1.length (S'.1++[⟨i,-1,[]⟩],S'.2) from by unfold rootW;rw [hd,hc];rfl)
     go_wp2_with (first|(go_at_call 82;refine (dir_any (i:=i) wr HWR.out.n (by omega) (by omega) (by omega)).mono ?_;rw [hd];rintro e w4 ⟨rfl,hb4⟩;have HB4:=hide hb4;clear hb4;obtain ⟨A',n',c',A1,n1,c1',A2',n2',c2',-,-,h3,-,-,h6,-⟩:=HWR.out.on HB4.out;have qm:w4.cell? ⟨w.heap.size+2,2,none⟩=some (.map (some (w.heap.size+1))):=h3.cell 2;have H6:=hide h6;clear h3 h6)|(go_at_call 83;refine (came_any w4 qm H6.out hi64 hc).mono ?_;rintro e w5 ⟨rfl,hb5⟩;have HB5:=hide (HB4.out.trans (hb5.mono HB4.out.size));clear hb5 qm)|(go_at_call 84;refine (begin_any w5 (HWR.out.on HB5.out) hd hc HOK.out HM.out htw rfl).mono ?_;rintro e w6 ⟨rfl,hw6,hT6⟩;have HW6:=hide hw6;have HT6:=hide hT6;clear hw6 hT6))
     have hsz5:=HB5.out.size
     go_roundw
     case rel=>exact ⟨j+1,by omega,by go_num,by rw [HTW.out,HR.out];exact HW6.out,HT6.out.below (HBR.out.trans (HB5.out.mono hBsz)) (by omega)⟩
     case measure=>simp [intOf];omega
  ·obtain rfl:j=k:=by omega
   go_wp2
   go_ret
   have hall:ff.take j=ff:=List.take_of_length_le (by rw [HF.out.1];exact Nat.le_refl _)
   rw [hall] at hwr
   exact ⟨_,_,rfl,hwr,hbr⟩
end Go.Proofs.YtpndfahgflgocaaGreatDoor

namespace Go.Proofs.YtpndfahgflgocaaGreatDoor
open Go.RowKit Go.Shelf Plain

def prC (q:Int×Int):List Value:=[.int .i64 q.1,.int .i64 q.2]
def prEn : Enc (Int × Int) where
 k:=2
 R:=fun _ _ cs x=>cs=prC x
 len:=fun h=>by rw [h];rfl
 one:=fun h v hv=>by
  rw [h] at hv
  simp only [prC,List.mem_cons,List.not_mem_nil,or_false] at hv
  rcases hv with rfl|rfl <;> rfl
 mono:=fun h _ _=>h
def flatR (l:List (Int×Int)):List Value:=(l.map prC).flatten
theorem flatR_snoc (l:List (Int×Int)) (q:Int×Int):flatR (l++[q])=flatR l++prC q:=by simp [flatR]
theorem flatR_len (l:List (Int×Int)):(flatR l).length=l.length*2:=by
 have:=flat_len (k:=2) (css:=l.map prC) (fun cs h=>by obtain ⟨x,_,rfl⟩:=List.mem_map.1 h;rfl)
 simpa [flatR] using this
theorem own_pr {W:World} {base t n c:Nat} {A:Option Addr} {l:List (Int×Int)} (h:W.ownsRow base t 2 (.slice A n c) n (flatR l)):OwE prEn W base t A n c l:=by
 have hl:=h.1
 rw [flatR_len] at hl
 refine ⟨l.map prC,h,⟨by simp,fun i cs x h1 h2=>?_⟩,by omega⟩
 rw [List.getElem?_map,h2] at h1
 cases h1
 exact rfl
def slotQ (ns:List NodV) (q:Int×Nat):Int×Int:=(q.1,(((nodAt ns q.1).ents[q.2]?).getD ent0).slot)
def twiceS (ns:List NodV) (s:StW):List (Int×Int):=s.2.map (slotQ ns)
def PairsRet (w:World) (l:List (Int×Int)) (e:Ending) (w':World):Prop:=∃A n c,e=.returned (.slice A n c)∧n≤c∧RdE prEn w' (Under w'.heap.size) A n l∧Below w.heap.size w w'
def zpr:Value:=.agg #[.int .i64 0,.int .i64 0]
set_option maxRecDepth 100000 in
theorem pr_info:(Tryz.prog.info? 137).map (fun i=>(i.zero,i.size,i.bytes))=some (some zpr,2,16):=by kernel_rfl
theorem lit_pr (q:Int×Int) (W:World):(Instr.buildSlice 112 1 #[(0,.agg (prC q).toArray)]).run Tryz.prog W=.ok (.slice (some ⟨W.heap.size,0,none⟩) 1 1) (W.alloc (.cells (prC q).toArray 137)):=by
 obtain ⟨it,hi,hz,hsz,-⟩:=info_parts pr_info
 refine run_buildSlice W _ 137 1 _ _ it zpr Tryz.underlying112 hi hz (by omega) (by omega) ?_
 rw [hsz]
 have:=Great.fill_whole (s:=2) (by omega) [.agg (prC q).toArray] ((Array.range (1*2)).map (zpr.cells[· % zpr.cells.size]!)) (by intro v hv;rw [List.mem_singleton] at hv;subst hv;simp [Value.cells,prC]) (by simp)
 simpa [Value.cells] using this
set_option maxRecDepth 100000 in
theorem nam_agg:∀w,(isAgg 178).run Tryz.prog w=.ok true w:=fun w=>by kernel_rfl
set_option maxRecDepth 100000 in
theorem nam_size:∀w,(Go.sizeOf 178).run Tryz.prog w=.ok 2 w:=fun w=>by kernel_rfl
theorem twC_one (q:Int×Nat):∀v∈twC q,v.oneCell'=true:=by simp [twC,Value.oneCell']
theorem flatT_get {l:List (Int×Nat)} {j:Nat} {q:Int×Nat} (h:l[j]?=some q) {i:Nat} (hi:i < 2):(flatT l)[j*2+i]?=(twC q)[i]?:=by
 have:=flat_get (k:=2) (css:=l.map twC) (fun cs hc=>by obtain ⟨z,_,rfl⟩:=List.mem_map.1 hc;rfl) (i:=j) (j:=i) (cs:=twC q) (by rw [List.getElem?_map,h];rfl) hi
 rw [show flatT l=(l.map twC).flatten from by simp [flatT,List.flatMap]]
 exact this
set_option maxRecDepth 100000 in
set_option maxHeartbeats 4000000 in
theorem Twice_any {A F:Option Addr} {n c k d:Nat} {ns:List NodV} {ff:List Int} (w:World) (h:RdE nodEn w (Under w.heap.size) A n ns) (hf:RdE Enc.int w (Under w.heap.size) F k ff) (hM:Many ns) (hk:k≤1000) :
  Calls Tryz.prog 98 #[.agg #[.slice A n c],.slice F k d] w (PairsRet w (twiceS ns (walkW ns ff))):=by
 have hb1:=below_new (below_self w) (.cells #[.slice A n c] 26)
 have H1:=hide (h.on hb1)
 have HF1:=hide (hf.on hb1)
 have HB1:=hide hb1
 have HM:=hide hM
 have hm24:=hM.1
 have hct:=walk_comes ns ff
 have htw:=walk_tw hM ff
 have hok:=(walk_ok ns ff).le
 have HCT:=hide hct
 obtain ⟨S',hS'⟩:∃S',walkW ns ff=S':=⟨_,rfl⟩
 have HWD:=hide (fun W hh hh2=>walked_any (A:=A) (F:=F) (n:=n) (c:=c) (k:=k) (d:=d) W (ns:=ns) (ff:=ff) hh hh2 hM hk)
 rw [hS'] at HWD HCT htw hok ⊢
 clear h hf hb1 hct hS' hM
 go_enter Tryz.func98,Tryz.ntmps98
 go_wp2_with (go_at_call 58;refine (HWD.out _ H1.out HF1.out).mono ?_;rintro e w2 ⟨g,b,rfl,hw2,hb2⟩;obtain ⟨hBg,hgl,hBb,hbl⟩:=hw2.lt;have HW2:=hide hw2;obtain ⟨A',n',c',A1,n1,c1',A2,n2,c2,-,-,h3,-,-,-,h7⟩:=hw2;have q3:w2.cell? ⟨g,3,none⟩=some (.slice A2 n2 c2):=h3.cell 3;have H7:=hide h7;have HB2:=hide (below_step HB1.out hb2);clear h3 h7 hb2)
 have hn2:n2=S'.2.length:=by have h8:=H7.out.1;rw [flatT_len] at h8;omega
 subst hn2
 rw [World.size_alloc] at *
 clear q3
 go_loopw [6,17] (fun v6 iv wr=>∃(j:Nat) (A5:Option Addr) (c5:Nat),j≤S'.2.length∧iv=.int .i64 j∧v6=.slice A5 j c5∧wr.ownsRow w2.heap.size 137 2 (.slice A5 j c5) j (flatR ((S'.2.take j).map (slotQ ns)))∧Below w2.heap.size w2 wr) (fun _ iv _=>S'.2.length - (intOf iv).toNat)
 case atStart=>exact ⟨0,none,0,by omega,rfl,rfl,by rw [List.take_zero];exact World.ownsRow_nil _ _ _ _,below_self _⟩
 case round =>
  obtain ⟨j,A5,c5,hj,rfl,rfl,ho,hbr⟩:=hrel
  have HO:=hide ho
  have HBR:=hide hbr
  have hbsz:=hbr.size
  clear ho hbr
  by_cases hlt:j < S'.2.length
  ·obtain ⟨q,hq⟩:∃q,S'.2[j]?=some q:=⟨_,List.getElem?_eq_getElem hlt⟩
   obtain ⟨e,he,-⟩:=HCT.out q (List.mem_of_getElem? hq)
   have HSQ:=hide (show (S'.2.take (j+1)).map (slotQ ns)=(S'.2.take j).map (slotQ ns)++[(q.1,e.slot)] from by rw [List.take_add_one,hq,List.map_append];simp [slotQ,he])
   have hcellq:∃g2,A2=some ⟨g2,0,none⟩∧∀i v,(twC q)[i]?=some v→wr.cell? ⟨g2,j*2+i,none⟩=some v:=by
    rcases H7.out.2 with ⟨_,h0⟩|⟨g2,cap,cur,he2,_,hg2,_⟩
    ·omega
    ·simp only [Value.slice.injEq] at he2
     obtain ⟨rfl,-,rfl⟩:=he2
     refine ⟨g2,rfl,fun i v hv=>?_⟩
     have hi:i < 2:=by have:=(List.getElem?_eq_some_iff.1 hv).1;simpa [twC] using this
     refine (HBR.out.cell (p:=⟨g2,j*2+i,none⟩) (heap_lt hg2)).trans ?_
     refine (World.ownsRow.cellAt (g:=g2) H7.out (j*2+i) (by omega)).trans ?_
     rw [flatT_get hq hi]
     exact hv
   obtain ⟨g2,rfl,hcq⟩:=hcellq
   have HCQ:=hide hcq
   have HQ:=hide hq
   have HE:=hide he
   have HZ:=hide (RowL.new wr 178 [.int .i64 0,.int .i64 0])
   have hcap:S'.2.length≤c2:=by
    rcases H7.out.2 with ⟨_,h0⟩|⟨g2,cap,cur,he2,_,hg2,hle,_⟩
    ·omega
    ·simp only [Value.slice.injEq] at he2
     omega
   clear hcq hq he
   go_wp2_with (first|(refine wpList_loadX rfl 178 (.tmp 19) rfl 2 nam_agg nam_size g2 (j*2) rfl (twC q) HCQ.out rfl ?_)|(refine wpList_storeW rfl 178 (.tmp 8) (.tmp 20) rfl 2 nam_size wr.heap.size 178 rfl [.int .i64 0,.int .i64 0] (twC q) rfl HZ.out rfl rfl (twC_one q) ?_;intro w3 hr3 hg3 hs3;have HB3:=hide (below_stored' hg3);have HR3:=hide hr3;clear hr3 hg3 hs3))
   have hs3:=HB3.out.size
   have hbw3:=HBR.out.trans (HB3.out.mono hbsz)
   have ho3:=ownsRow_below HO.out HB3.out
   have HBW3:=hide hbw3
   have HO3:=hide ho3
   have hj384:j≤1000:=by omega
   have q0:w3.cell? ⟨wr.heap.size,0,none⟩=some (.int .i64 q.1):=HR3.out.cell 0
   have q1:w3.cell? ⟨wr.heap.size,1,none⟩=some (.int .i64 q.2):=HR3.out.cell 1
   clear hbw3 ho3
   refine wp_region_planN (fun w'=>Below w2.heap.size w2 w'∧w'.cell? ⟨wr.heap.size,0,none⟩=some (.int .i64 q.1)∧w'.cell? ⟨wr.heap.size,1,none⟩=some (.int .i64 q.2)) [(0,true),(1,true),(2,true),(3,true),(4,true),(5,true),(8,true),(9,true),(6,false),(7,true),(10,true),(11,true),(12,true),(13,true),(14,false),(15,false),(16,true)] (by kernel_rfl) (by kernel_rfl) (by kernel_rfl) (by kernel_rfl) rfl (fun _ _ _ _ _ h=>h) ⟨below_drewN HBW3.out 1,q0,q1⟩ (fun hHeld=>?_)
   simp only [planOps,List.filterMap_cons,List.filterMap_nil,List.getElem?_toArray,List.getElem?_cons_succ,List.getElem?_cons_zero,Option.map_some]
   iterate 8
    refine wpPlan_take (v:=?_) (by kernel_rfl) (fun wS hSw=>?_) ?_
    rotate_left
    ·(try dsimp only at hSw);go_simp;(try with_reducible rfl)
    (try simp only [Act.put,pu1,pu2,pu3])
   refine wpPlan_call (by kernel_rfl) (fun K hK=>?_)
   have hOld:=hide hHeld
   clear hHeld
   go_simp
   go_at_call 85
   refine (node_any (i:=q.1) _ ((HW2.out.on HBW3.out).on (below_drew (below_self w3))).n (by show _≤w3.heap.size;omega) (by show g < w3.heap.size;omega) (by omega)).mono ?_
   rintro e' w4 ⟨A8,n8,c8,C8,m8,d8,rfl,-,-,hmd8,hE,hbel⟩
   have hbn:Below w3.heap.size w3 w4:=by have:=hbel;exact ⟨this.os,this.tape,this.output,this.size,this.block⟩
   have HB4:=hide hbn
   obtain ⟨bE,oE,hCE,hbE,hcE⟩:=ent_get hE HE.out
   subst hCE
   have HCE:=hide (show w4.cell? ⟨bE,oE+q.2*3,none⟩=some (.int .i64 e.slot) from hcE 0 _ rfl)
   have hf5:=nod_f5 (nodAt ns q.1) A8 (some ⟨bE,oE,none⟩) n8 c8 m8 d8
   have hq2:q.2 < m8:=by rw [←hE.1];exact (List.getElem?_eq_some_iff.1 HE.out).1
   have hbE2:bE < w2.heap.size:=by unfold Under at hbE;omega
   have HE8:=hide (HB4.out)
   clear hE hcE
   refine hK.out _ _ (⟨(HBW3.out.trans (HB4.out.mono HBW3.out.size)),(HR3.out.on HB4.out).cell 0,(HR3.out.on HB4.out).cell 1⟩) (fun hHeld=>?_)
   clear hK K
   (try simp only [Act.put,pu1,pu2,pu3])
   iterate 3
    refine wpPlan_take (v:=?_) (by kernel_rfl) (fun wS hSw=>?_) ?_
    rotate_left
    ·(try dsimp only at hSw);go_simp;(try with_reducible rfl)
    (try simp only [Act.put,pu1,pu2,pu3])
   refine wpPlan_take (v:=?_) (by kernel_rfl) (fun wS hSw=>?_) ?_
   rotate_left
   ·obtain ⟨hk1,-⟩:=hSw;have hce:wS.cell? ⟨bE,oE+q.2*3,none⟩=some (.int .i64 e.slot):=(hk1.cell (p:=⟨bE,oE+q.2*3,none⟩) hbE2).trans (((HBW3.out.trans (HB4.out.mono HBW3.out.size)).cell (p:=⟨bE,oE+q.2*3,none⟩) hbE2).symm.trans HCE.out);clear hk1;go_simp;(try with_reducible rfl)
   (try simp only [Act.put,pu1,pu2,pu3])
   refine wpPlan_take (v:=?_) (by kernel_rfl) (fun wS hSw=>?_) ?_
   rotate_left
   ·(try dsimp only at hSw);go_simp;(try with_reducible rfl)
   (try simp only [Act.put,pu1,pu2,pu3])
   refine wpPlan_call (by kernel_rfl) (fun K hK=>?_)
   have hOld:=hide hHeld
   clear hHeld
   unfold Oper.wp execOp
   have hlit:=lit_pr (q.1,e.slot) w4
   unfold prC at hlit
   go_simp
   refine hK.out _ _ (⟨(HBW3.out.trans (HB4.out.mono HBW3.out.size)).trans ((below_new (below_self w4) (.cells (prC (q.1,e.slot)).toArray 137)).mono (by have:=HB4.out.size;omega)),((HR3.out.on HB4.out).on (below_new (below_self w4) (.cells (prC (q.1,e.slot)).toArray 137))).cell 0,((HR3.out.on HB4.out).on (below_new (below_self w4) (.cells (prC (q.1,e.slot)).toArray 137))).cell 1⟩) (fun hHeld=>?_)
   clear hK K
   (try simp only [Act.put,pu1,pu2,pu3])
   refine wpPlan_call (by kernel_rfl) (fun K hK=>?_)
   have hOld:=hide hHeld
   clear hHeld
   refine wp_appF w4 w2.heap.size w4.heap.size rfl (.tmp 21) (.tmp 35) 112 137 rfl Tryz.underlying112 _ 2 16 pr_info rfl (by omega) (by omega) A5 j c5 _ (prC (q.1,e.slot)) rfl (by simp [prC,Value.oneCell']) rfl (ownsRow_below HO3.out HB4.out) rfl (by omega) (by have:=HB4.out.size;omega) ?_
   intro A6 c6 w6 ho6 hg6
   have HO6:=hide ho6
   have HG6:=hide hg6
   clear ho6 hg6
   refine hK.out _ _ (⟨((HBW3.out.trans (HB4.out.mono HBW3.out.size)).trans ((below_new (below_self w4) (.cells (prC (q.1,e.slot)).toArray 137)).mono (by have:=HB4.out.size;omega))).grown HG6.out (by have:=HB4.out.size;simp only [World.size_alloc];omega) (fun k hk=>(own_block (ownsRow_below (ownsRow_below HO3.out HB4.out) (below_new (below_self w4) (.cells (prC (q.1,e.slot)).toArray 137))) k hk).1),((((HR3.out.on HB4.out).on (below_new (below_self w4) (.cells (prC (q.1,e.slot)).toArray 137))).grown HG6.out (row_apart (ownsRow_below (ownsRow_below HO3.out HB4.out) (below_new (below_self w4) (.cells (prC (q.1,e.slot)).toArray 137))) ((HR3.out.on HB4.out).on (below_new (below_self w4) (.cells (prC (q.1,e.slot)).toArray 137))) (by decide))).cell 0),((((HR3.out.on HB4.out).on (below_new (below_self w4) (.cells (prC (q.1,e.slot)).toArray 137))).grown HG6.out (row_apart (ownsRow_below (ownsRow_below HO3.out HB4.out) (below_new (below_self w4) (.cells (prC (q.1,e.slot)).toArray 137))) ((HR3.out.on HB4.out).on (below_new (below_self w4) (.cells (prC (q.1,e.slot)).toArray 137))) (by decide))).cell 1)⟩) (fun hHeld=>?_)
   clear hK K
   (try simp only [Act.put,pu1,pu2,pu3])
   refine wpPlan_take (v:=?_) (by kernel_rfl) (fun wS hSw=>?_) ?_
   rotate_left
   ·(try dsimp only at hSw);go_simp;(try with_reducible rfl)
   (try simp only [Act.put,pu1,pu2,pu3])
   refine wpPlan_end ?_
   have hbw6:=hHeld.1
   clear hHeld q0 q1
   go_wp2
   go_roundw
   case rel=>exact ⟨j+1,A6,c6,by omega,by go_num,rfl,by rw [HSQ.out,flatR_snoc];exact HO6.out,hbw6⟩
   case measure=>simp [intOf];omega
  ·obtain rfl:j=S'.2.length:=by omega
   go_wp2
   go_ret
   rw [List.take_length] at HO
   exact ⟨A5,S'.2.length,c5,rfl,(own_pr HO.out).cap,((own_pr HO.out).rd rfl).plain,HB2.out.trans (HBR.out.mono HB2.out.size)⟩
end Go.Proofs.YtpndfahgflgocaaGreatDoor

namespace Go.Proofs.YtpndfahgflgocaaGreatDoor
open Go.RowKit Go.Shelf Plain

def setB (bs:List Bool) (i:Int):List Bool:=bs.set (i - 1).toNat true
def entF (ns:List NodV) (bs:List Bool) (e:EntV):List Bool:=if inN ns e.ino=true then setB bs e.ino else bs
def wayF (ns:List NodV) (bs:List Bool) (y:WayV):List Bool:=(nodAt ns y.ino).ents.foldl (entF ns) (setB bs y.ino)
def reachL (ns:List NodV) (l:List WayV):List Bool:=l.foldl (wayF ns) (List.replicate ns.length false)
theorem setB_len (bs:List Bool) (i:Int):(setB bs i).length=bs.length:=by simp [setB]
theorem entF_len (ns:List NodV) (bs:List Bool) (e:EntV):(entF ns bs e).length=bs.length:=by unfold entF;split <;> simp [setB_len]
theorem entsF_len (ns:List NodV) (bs:List Bool) (l:List EntV):(l.foldl (entF ns) bs).length=bs.length:=foldl_keep (P:=fun x:List Bool=>x.length=bs.length) _ _ rfl (fun _ _ _ h=>by rw [entF_len,h])
theorem wayF_len (ns:List NodV) (bs:List Bool) (y:WayV):(wayF ns bs y).length=bs.length:=by unfold wayF;rw [entsF_len,setB_len]
theorem waysF_len (ns:List NodV) (bs:List Bool) (l:List WayV):(l.foldl (wayF ns) bs).length=bs.length:=foldl_keep (P:=fun x:List Bool=>x.length=bs.length) _ _ rfl (fun _ _ _ h=>by rw [wayF_len,h])
theorem reachL_len (ns:List NodV) (l:List WayV):(reachL ns l).length=ns.length:=by unfold reachL;rw [waysF_len];simp
def BoolsRet (w:World) (l:List Bool) (e:Ending) (w':World):Prop:=∃A n c,e=.returned (.slice A n c)∧n≤c∧Rd Value.bool w' w'.heap.size A n l∧Below w.heap.size w w'∧∀b o,A=some ⟨b,o,none⟩→w.heap.size≤b
theorem wpList_make_Row' {P : Program} (w : World) {ops : Array Oper} {rest : List Oper} {o : Oper} {a : Act} {Q : Exit → Act → World → Prop}
  (hg:o.guard=none) (l c:Operand) (t:TypeId) (hop:o.op=Op.makeSlice t l c) (e:TypeId) (h1:P.underlying t=some (.slice e)) (z:Value) (hz1:z.cells=#[z]) (k:Nat)
  (hinfo:(P.info? e).map (fun i=>(i.zero,i.size,i.bytes))=some (some z,1,k))
  (kl kc:IntKind) (L C:Int) (n:Nat) (hl:a.eval l=.int kl L) (hc:a.eval c=.int kc C) (hL:L=(n:Int)) (hC:C=(n:Int)) (hn:k*n≤140737488355328) (hn2:n≤140737488355328)
  (hK:∀w',RowL w' w.heap.size e (List.replicate n z)→Below w.heap.size w w'→wpList P ops Q rest (a.put o.dst (.slice (some ⟨w.heap.size,0,none⟩) n n)) w') :
  wpList P ops Q (o::rest) a w:=by
 obtain ⟨i,hi,hz,hsz,hby⟩:=info_parts hinfo
 refine wpList_make_full w hg l c t hop w.heap.size e i z 1 h1 hi hz hsz kl kc L C n hl hc hL hC (by rw [hby];omega) (by simp only [maxLen];omega) (Nat.le_refl _) ?_
 intro w' hown hgr
 refine hK w' ?_ ((Below.refl _ _).grown hgr (Nat.le_refl _) (by simp))
 have:=RowL.of_made hown
 rw [hz1,toList_madeCells_one,Nat.mul_one] at this
 exact this
set_option maxRecDepth 100000 in
theorem boolw_info:(Tryz.prog.info? 4).map (fun i=>(i.zero,i.size,i.bytes))=some (some (.bool false),1,1):=by kernel_rfl
theorem bools_cell {w:World} {g t:Nat} {bs:List Bool} {j:Nat} (h:RowL w g t (bs.map Value.bool)) (hj:j < bs.length):∃x,w.cell? ⟨g,j,none⟩=some (.bool x):=by
 refine ⟨bs[j],?_⟩
 rw [h.cell,List.getElem?_map,List.getElem?_eq_getElem hj]
 rfl
theorem bools_set {w:World} {g t:Nat} {bs:List Bool} {i:Int} {j:Nat} (h:RowL w g t (bs.map Value.bool)) (hj:i=(j:Int)+1):RowL (w.setCell ⟨g,j,none⟩ (.bool true)) g t ((setB bs i).map Value.bool):=by
 have:=h.set_ j (.bool true)
 unfold setB
 rw [show (i - 1).toNat=j from by omega,List.map_set]
 exact this
theorem way_at {W:World} {B n c:Nat} {A:Option Addr} {l:List WayV} {j:Nat} {y:WayV} (h:W.ownsRow B 92 3 (.slice A n c) n (flatW l)) (hy:l[j]?=some y):∃gW,A=some ⟨gW,0,none⟩∧gW < W.heap.size∧n≤c∧∀i v,(wayC y)[i]?=some v→W.cell? ⟨gW,j*3+i,none⟩=some v:=by
 have hl:=h.1
 rw [flatW_len] at hl
 have hjl:=(List.getElem?_eq_some_iff.1 hy).1
 rcases h.2 with ⟨_,h0⟩|⟨gW,cap,cur,he,_,hg,hle,_⟩
 ·omega
 ·simp only [Value.slice.injEq] at he
  obtain ⟨rfl,-,rfl⟩:=he
  refine ⟨gW,rfl,heap_lt hg,hle,fun i v hv=>?_⟩
  have hi:i < 3:=by have:=(List.getElem?_eq_some_iff.1 hv).1;simpa [wayC] using this
  refine (World.ownsRow.cellAt (g:=gW) h (j*3+i) (by omega)).trans ?_
  have:=flat_get (k:=3) (css:=l.map wayC) (fun cs hc=>by obtain ⟨z,_,rfl⟩:=List.mem_map.1 hc;rfl) (i:=j) (j:=i) (cs:=wayC y) (by rw [List.getElem?_map,hy];rfl) hi
  rw [show flatW l=(l.map wayC).flatten from by simp [flatW,List.flatMap],this]
  exact hv
theorem wayC_one (y:WayV):∀v∈wayC y,v.oneCell'=true:=by simp [wayC,Value.oneCell']
set_option maxRecDepth 100000 in
set_option maxHeartbeats 4000000 in
theorem reach_any {B g b:Nat} {ns:List NodV} {s:StW} (w:World) (h:WkS B g b ns s w) (hok:OkW ns s.1) (hM:Many ns):Calls Tryz.prog 59 #[.pointer (some ⟨g,0,none⟩)] w (BoolsRet w (reachL ns s.1)):=by
 obtain ⟨hBg,hgl,hBb,hbl⟩:=h.lt
 have HW:=hide h
 have HM:=hide hM
 have HOK:=hide hok
 have hm24:=hM.1
 have hle:=hok.le
 obtain ⟨A,n,c,A1,n1,c1,A2,n2,c2,-,-,h3,h4,h5,-⟩:=h
 have hn1:n1=s.1.length:=by have h8:=h5.1;rw [flatW_len] at h8;omega
 subst hn1
 have hn:n=ns.length:=by rw [←h4.1]
 subst hn
 have H3:=hide h3
 have H5:=hide h5
 have qa:w.cell? ⟨g,0,none⟩=some (.slice A ns.length c):=h3.cell 0
 clear hok hM h3 h4 h5
 go_enter Tryz.func59,Tryz.ntmps59
 go_wp2_with (refine wpList_make_Row' _ rfl _ _ 57 rfl 4 Tryz.underlying57 (.bool false) rfl 1 boolw_info .i64 .i64 _ _ ns.length rfl rfl rfl rfl (by omega) (by omega) ?_;intro w1 hr1 hb1;have HR1:=hide hr1;have HB1:=hide hb1;have qw:w1.cell? ⟨g,1,none⟩=some (.slice A1 s.1.length c1):=(H3.out.on hb1).cell 1;clear hr1 hb1)
 clear qa
 have hr1:RowL w1 w.heap.size 4 ((List.replicate ns.length false).map Value.bool):=by rw [List.map_replicate];exact HR1.out
 have hb1:=HB1.out
 go_loopw [20] (fun iv wr=>∃j:Nat,j≤s.1.length∧iv=.int .i64 j∧RowL wr w.heap.size 4 (((s.1.take j).foldl (wayF ns) (List.replicate ns.length false)).map Value.bool)∧Below w.heap.size w wr) (fun iv _=>s.1.length - (intOf iv).toNat)
 case atStart=>exact ⟨0,by omega,rfl,by rw [List.take_zero];exact hr1,hb1⟩
 case round =>
  obtain ⟨j,hj,rfl,hrr,hbr⟩:=hrel
  clear hr1 hb1 HR1 HB1
  by_cases hlt:j < s.1.length
  ·obtain ⟨y,hy⟩:∃y,s.1[j]?=some y:=⟨_,List.getElem?_eq_getElem hlt⟩
   have hdy:=HOK.out.1 y (List.mem_of_getElem? hy)
   have hin:=isDir_in hdy
   obtain ⟨gW,rfl,hgW,hcW,hcy⟩:=way_at H5.out hy
   have HCY:=hide (fun i v (hv:(wayC y)[i]?=some v)=>(hbr.cell (p:=⟨gW,j*3+i,none⟩) hgW).trans (hcy i v hv))
   obtain ⟨m,hm⟩:∃m:Nat,y.ino=(m:Int)+1:=by
    obtain ⟨m,hm⟩:=Int.eq_ofNat_of_zero_le (show 0≤y.ino - 1 by omega)
    exact ⟨m,by omega⟩
   have HST:=hide (show (s.1.take (j+1)).foldl (wayF ns) (List.replicate ns.length false)=wayF ns ((s.1.take j).foldl (wayF ns) (List.replicate ns.length false)) y from by rw [List.take_add_one,hy,List.foldl_append];rfl)
   have hlenb:((s.1.take j).foldl (wayF ns) (List.replicate ns.length false)).length=ns.length:=by rw [waysF_len];simp
   generalize (s.1.take j).foldl (wayF ns) (List.replicate ns.length false)=bs at *
   have HRR:=hide hrr
   have HBR:=hide hbr
   have hbsz:=hbr.size
   have hgB:=hrr.lt
   have HZ:=hide (RowL.new wr 92 [.int .i64 0,.int .i64 0,.string ⟨#[]⟩])
   have hmn:m < ns.length:=by omega
   have hw1:IntKind.i64.wrap (y.ino - 1)=(m:Int):=by rw [hm,show (m:Int)+1 - 1=m from by omega];exact IntWalk.i64_in _ (by omega)
   have HM2:=hide hm
   clear hy hcy hrr hbr hm
   go_wp2_with (first|(refine wpList_loadX rfl 92 (.tmp 22) rfl 3 way_agg way_size gW (j*3) rfl (wayC y) HCY.out rfl ?_)|(refine wpList_storeW rfl 92 (.tmp 5) (.tmp 23) rfl 3 way_size wr.heap.size 92 rfl [.int .i64 0,.int .i64 0,.string ⟨#[]⟩] (wayC y) rfl HZ.out rfl rfl (wayC_one y) ?_;intro w3 hr3 hg3 hs3;have HB3:=hide (below_stored' hg3);have HR3:=hide hr3;have q0:w3.cell? ⟨wr.heap.size,0,none⟩=some (.int .i64 y.ino):=hr3.cell 0;have HRW:=hide (HRR.out.on (below_stored' hg3));obtain ⟨xb,qb⟩:=bools_cell (HRR.out.on (below_stored' hg3)) (j:=m) (by omega);have qf:=(HRR.out.on (below_stored' hg3)).frozen m;clear hr3 hg3 hs3))
   have hs3:=HB3.out.size
   have hb4:Below w.heap.size w (w3.setCell ⟨w.heap.size,m,none⟩ (.bool true)):=(HBR.out.trans (HB3.out.mono hbsz)).setCell (p:=⟨w.heap.size,m,none⟩) (Nat.le_refl _) _
   have hr4:RowL (w3.setCell ⟨w.heap.size,m,none⟩ (.bool true)) w.heap.size 4 ((setB bs y.ino).map Value.bool):=bools_set HRW.out HM2.out
   have q4:(w3.setCell ⟨w.heap.size,m,none⟩ (.bool true)).cell? ⟨wr.heap.size,0,none⟩=some (.int .i64 y.ino):=(HR3.out.grown (grown_cell w3 w.heap.size m (.bool true)) (pu5 (by omega))).cell 0
   have hlb:(setB bs y.ino).length=ns.length:=by rw [setB_len,hlenb]
   have HST2:=hide (show wayF ns bs y=(nodAt ns y.ino).ents.foldl (entF ns) (setB bs y.ino) from rfl)
   generalize setB bs y.ino=bs0 at *
   generalize w3.setCell ⟨w.heap.size,m,none⟩ (.bool true)=w4 at *
   have HB4:=hide hb4
   have HR4:=hide hr4
   clear qb qf HRW HR3 HB3 hr4 HRR
   have hsz4:=hb4.size
   refine (node_any (i:=y.ino) w4 (HW.out.on hb4).n (by omega) (by omega) (by omega)).mono ?_
   rintro e w5 ⟨A8,n8,c8,C8,m8,d8,rfl,-,-,hmd8,hE,hbel⟩
   have hf5:=nod_f5 (nodAt ns y.ino) A8 C8 n8 c8 m8 d8
   have hb5:=hb4.trans (hbel.mono hsz4)
   have hr5:=HR4.out.on hbel
   have HE:=hide hE
   have hm16:m8≤16:=by rw [←hE.1];exact nodAt_ents HM.out y.ino
   obtain ⟨L,hL⟩:∃L,(nodAt ns y.ino).ents=L:=⟨_,rfl⟩
   rw [hL] at HE HST2
   have hEl:=HE.out.1
   clear hb4 hbel hE hL q4
   go_wp2
   clear hf5
   have hsz5:=hb5.size
   go_loopw [35] (fun iv wr=>∃i:Nat,i≤m8∧iv=.int .i64 i∧RowL wr w.heap.size 4 (((L.take i).foldl (entF ns) bs0).map Value.bool)∧Below w.heap.size w wr∧Below w.heap.size w5 wr) (fun iv _=>m8 - (intOf iv).toNat)
   case atStart=>exact ⟨0,by omega,rfl,by rw [List.take_zero];exact hr5,hb5,Below.refl _ _⟩
   case round =>
    obtain ⟨i,hi,rfl,hrq,hbq,hb5q⟩:=hrel
    clear hr5 hb5 HR4
    by_cases hlt2:i < m8
    ·obtain ⟨x,hx⟩:∃x,L[i]?=some x:=⟨_,List.getElem?_eq_getElem (by omega)⟩
     obtain ⟨bE,oE,rfl,hbE,hcE⟩:=ent_get HE.out hx
     have hbE2:bE < w.heap.size:=by unfold Under at hbE;omega
     have HCE:=hide (fun j' v (hv:(cellsE x)[j']?=some v)=>show wr.cell? ⟨bE,oE+i*3+j',none⟩=some v from (hb5q.cell (p:=⟨bE,oE+i*3+j',none⟩) hbE2).trans (hcE j' v hv))
     have HSI:=hide (show (L.take (i+1)).foldl (entF ns) bs0=entF ns ((L.take i).foldl (entF ns) bs0) x from by rw [List.take_add_one,hx,List.foldl_append];rfl)
     have hlen2:((L.take i).foldl (entF ns) bs0).length=ns.length:=by rw [entsF_len,hlb]
     generalize (L.take i).foldl (entF ns) bs0=bs2 at *
     have HZ2:=hide (RowL.new wr 31 [.int .i64 0,.int .i64 0,.string ⟨#[]⟩])
     have HRQ:=hide hrq
     have HBQ:=hide hbq
     have HB5Q:=hide hb5q
     have hszq:=hbq.size
     have hgq:=hrq.lt
     clear hx hcE hrq hbq hb5q
     cases hin2:inN ns x.ino with
     | false =>
      have HEN:=hide (show entF ns bs2 x=bs2 from by unfold entF;rw [hin2];rfl)
      go_wp2_with (first|(refine wpList_loadX rfl 31 (.tmp 37) rfl 3 entw_agg entw_size bE (oE+i*3) rfl (cellsE x) HCE.out rfl ?_)|(refine wpList_storeW rfl 31 (.tmp 7) (.tmp 38) rfl 3 entw_size wr.heap.size 31 rfl [.int .i64 0,.int .i64 0,.string ⟨#[]⟩] (cellsE x) rfl HZ2.out rfl rfl (cellsE_one x) ?_;intro w6 hr6 hg6 hs6;have HB6:=hide (below_stored' hg6);have q6:w6.cell? ⟨wr.heap.size,1,none⟩=some (.int .i64 x.ino):=hr6.cell 1;clear hr6 hg6 hs6)|(go_at_call 86;refine (has_e hin2 _ (HW.out.on (HBQ.out.trans (HB6.out.mono hszq))).n).mono ?_;rintro e w7 ⟨rfl,rfl⟩))
      go_roundw
      case rel=>exact ⟨i+1,by omega,by go_num,by rw [HSI.out,HEN.out];exact HRQ.out.on HB6.out,HBQ.out.trans (HB6.out.mono hszq),HB5Q.out.trans (HB6.out.mono hszq)⟩
      case measure=>simp [intOf];omega
     | true =>
      have HEN:=hide (show entF ns bs2 x=setB bs2 x.ino from by unfold entF;rw [hin2];rfl)
      obtain ⟨m2,nx,hm2,hnx,-⟩:=inN_at hin2
      have hm2n:m2 < ns.length:=(List.getElem?_eq_some_iff.1 hnx).1
      have hw2:IntKind.i64.wrap (x.ino - 1)=(m2:Int):=by rw [hm2,show (m2:Int)+1 - 1=m2 from by omega];exact IntWalk.i64_in _ (by omega)
      have HM3:=hide hm2
      clear hm2 hnx
      go_wp2_with (first|(refine wpList_loadX rfl 31 (.tmp 37) rfl 3 entw_agg entw_size bE (oE+i*3) rfl (cellsE x) HCE.out rfl ?_)|(refine wpList_storeW rfl 31 (.tmp 7) (.tmp 38) rfl 3 entw_size wr.heap.size 31 rfl [.int .i64 0,.int .i64 0,.string ⟨#[]⟩] (cellsE x) rfl HZ2.out rfl rfl (cellsE_one x) ?_;intro w6 hr6 hg6 hs6;have HB6:=hide (below_stored' hg6);have q6:w6.cell? ⟨wr.heap.size,1,none⟩=some (.int .i64 x.ino):=hr6.cell 1;have HRW6:=hide (HRQ.out.on (below_stored' hg6));obtain ⟨xb2,qb2⟩:=bools_cell (HRQ.out.on (below_stored' hg6)) (j:=m2) (by omega);have qf2:=(HRQ.out.on (below_stored' hg6)).frozen m2;clear hr6 hg6 hs6)|(go_at_call 86;refine (has_e hin2 _ (HW.out.on (HBQ.out.trans (HB6.out.mono hszq))).n).mono ?_;rintro e w7 ⟨rfl,rfl⟩))
      go_roundw
      case rel=>exact ⟨i+1,by omega,by go_num,by rw [HSI.out,HEN.out];exact bools_set HRW6.out HM3.out,(HBQ.out.trans (HB6.out.mono hszq)).setCell (p:=⟨w.heap.size,m2,none⟩) (Nat.le_refl _) _,(HB5Q.out.trans (HB6.out.mono hszq)).setCell (p:=⟨w.heap.size,m2,none⟩) (Nat.le_refl _) _⟩
      case measure=>simp [intOf];omega
    ·obtain rfl:i=m8:=by omega
     go_wp2
     go_roundw
     case rel=>exact ⟨j+1,by omega,by go_num,by rw [HST.out,HST2.out];rw [List.take_of_length_le (by omega)] at hrq;exact hrq,hbq⟩
     case measure=>simp [intOf];omega
  ·obtain rfl:j=s.1.length:=by omega
   go_wp2
   go_ret
   rw [List.take_length] at hrr
   have hl:=reachL_len ns s.1
   refine ⟨some ⟨w.heap.size,0,none⟩,ns.length,ns.length,rfl,Nat.le_refl _,⟨hl,fun _=>⟨w.heap.size,0,rfl,hrr.lt,fun i x hx=>?_⟩⟩,hbr,fun b o e=>by cases e;exact Nat.le_refl _⟩
   rw [Nat.zero_add,hrr.cell,List.getElem?_map]
   show ((reachL ns s.1)[i]?).map _=_
   rw [hx]
   rfl
end Go.Proofs.YtpndfahgflgocaaGreatDoor

namespace Go.Proofs.YtpndfahgflgocaaGreatDoor.Plain
def letB (x:Nat):Bool:=decide ((97≤x∧x≤122)∨(48≤x∧x≤57)∨x=46∨x=95∨x=45)
def nameB (l:List UInt8):Bool:=(decide (1≤l.length∧l.length≤12)&&(!(l==[46])&&!(l==[46,46])))&&l.all fun x=>letB x.toNat
theorem all_take_succ {l:List UInt8} {p:UInt8→Bool} {k:Nat} (h:k < l.length):(l.take (k+1)).all p=((l.take k).all p&&p l[k]):=by
 rw [List.take_succ_eq_append_getElem h,List.all_append]
 simp
theorem all_false {l:List UInt8} {p:UInt8→Bool} {k:Nat} (h:k < l.length) (hp:p l[k]=false):l.all p=false:=by
 rw [List.all_eq_false]
 exact ⟨l[k],List.getElem_mem h,by simp [hp]⟩
theorem nameB_len {l:List UInt8} (h:nameB l=true):1≤l.length∧l.length≤12:=by
 simp only [nameB,Bool.and_eq_true,decide_eq_true_eq] at h
 exact h.1.1
end Go.Proofs.YtpndfahgflgocaaGreatDoor.Plain

namespace Go.Proofs.YtpndfahgflgocaaGreatDoor
open Go.RowKit Plain
def st (l:List UInt8):Value:=.string ⟨l.toArray⟩
theorem add_lists {P:Program} {x y z:List UInt8} (h:x.length+y.length≤9223372036854775807) (hz:x++y=z) (W:World):(Op.stringOp .add ⟨x.toArray⟩ ⟨y.toArray⟩).run P W=.ok (.string ⟨z.toArray⟩) W:=by
 subst hz
 rw [run_string_add_sum W _ _ (by simp [ByteArray.size];omega),ByteArray.mk_append_mk]
theorem ret_bool {a b:Bool} (h:a=b):Ending.returned (.bool a)=.returned (.bool b):=by rw [h]

set_option maxHeartbeats 400000 in
theorem Rletter_any (x:Nat) (hx:x < 256) (w:World) :
  Calls Tryz.prog 113 #[.int .u8 x] w fun e w'=>e=.returned (.bool (letB x))∧w=w':=by
 go_enter Tryz.func113,Tryz.ntmps113
 go_wp2
 all_goals
  go_ret
  refine ⟨ret_bool ?_,rfl⟩
  rw [Bool.eq_iff_iff]
  simp [letB]
  omega
theorem Rletter_b {x:Nat} {b:Bool} (hx:x < 256) (hb:letB x=b) (w:World) :
  Calls Tryz.prog 113 #[.int .u8 x] w fun e w'=>e=.returned (.bool b)∧w=w':=by
 have:=Rletter_any x hx w;rw [hb] at this;exact this

set_option maxHeartbeats 400000 in
theorem RNRight_any (l:List UInt8) (w:World) (hl:l.length≤140737488355328) :
  Calls Tryz.prog 88 #[st l] w fun e w'=>e=.returned (.bool (nameB l))∧w=w':=by
 unfold st
 by_cases h1:l.length < 1
 ·have hr:nameB l=false:=by
   have:decide (1≤l.length∧l.length≤12)=false:=by simp;omega
   simp [nameB,this]
  rw [hr]
  clear hr
  obtain rfl:l=[]:=List.eq_nil_of_length_eq_zero (by omega)
  go_enter Tryz.func88,Tryz.ntmps88
  go_wp2
  go_ret
  exact ⟨rfl,rfl⟩
 by_cases h2:12 < l.length
 ·have hr:nameB l=false:=by
   have:decide (1≤l.length∧l.length≤12)=false:=by simp;omega
   simp [nameB,this]
  rw [hr]
  clear hr
  have d1:decide ((l.length:Int) < 1)=false:=by simp;omega
  have d2:decide ((12:Int) < (l.length:Int))=true:=by simp;omega
  go_enter Tryz.func88,Tryz.ntmps88
  go_wp2
  go_ret
  exact ⟨rfl,rfl⟩
 by_cases h3:l=[46]
 ·subst h3
  go_enter Tryz.func88,Tryz.ntmps88
  go_wp2
  go_ret
  exact ⟨rfl,rfl⟩
 by_cases h4:l=[46,46]
 ·subst h4
  go_enter Tryz.func88,Tryz.ntmps88
  go_wp2
  go_ret
  exact ⟨rfl,rfl⟩
 have d1:decide ((l.length:Int) < 1)=false:=by simp;omega
 have d2:decide ((12:Int) < (l.length:Int))=false:=by simp;omega
 have d3:(l==[46])=false:=by simpa using h3
 have d4:(l==[46,46])=false:=by simpa using h4
 have hr:nameB l=l.all fun x=>letB x.toNat:=by
  have:decide (1≤l.length∧l.length≤12)=true:=by simp;omega
  simp [nameB,this,d3,d4]
 rw [hr]
 obtain ⟨r,hre⟩:∃r,(l.all fun x=>letB x.toNat)=r:=⟨_,rfl⟩
 rw [hre]
 have HR:=hide hre
 clear hr hre h3 h4
 go_enter Tryz.func88,Tryz.ntmps88
 go_wp2_with fail
 clear d1 d2 d3 d4
 go_loop [3] (fun i=>∃k:Nat,k≤l.length∧i=.int .i64 k∧((l.take k).all fun x=>letB x.toNat)=true) (fun i=>l.length - (intOf i).toNat)
 case atStart=>exact ⟨0,Nat.zero_le _,rfl,rfl⟩
 case round =>
  obtain ⟨k,hk,rfl,hall⟩:=hrel
  have HALL:=hide hall
  clear hall
  by_cases hlt:k < l.length
  ·have hb:=l[k].toNat_lt
   cases hb2:letB l[k].toNat with
   | true =>
    have HB:=hide hb2
    clear hb2
    go_wp2_with fail
    refine (Rletter_b hb HB.out _).mono ?_
    rintro e w' ⟨rfl,rfl⟩
    go_wp2_with fail
    go_round
    case rel=>exact ⟨k+1,by omega,by go_num,by rw [all_take_succ hlt,HALL.out,HB.out];rfl⟩
    case measure=>simp [intOf];omega
   | false =>
    have hrf:r=false:=by rw [←HR.out];exact all_false hlt hb2
    have HRF:=hide hrf
    have HB:=hide hb2
    clear hb2 hrf
    go_wp2_with fail
    refine (Rletter_b hb HB.out _).mono ?_
    rintro e w' ⟨rfl,rfl⟩
    go_wp2_with fail
    go_ret
    rw [HRF.out]
    exact ⟨rfl,rfl⟩
  ·have hrt:r=true:=by
    rw [←HR.out]
    have:=HALL.out
    rwa [List.take_of_length_le (by omega)] at this
   have HRT:=hide hrt
   clear hrt
   go_wp2
   go_ret
   rw [HRT.out]
   exact ⟨rfl,rfl⟩
end Go.Proofs.YtpndfahgflgocaaGreatDoor

