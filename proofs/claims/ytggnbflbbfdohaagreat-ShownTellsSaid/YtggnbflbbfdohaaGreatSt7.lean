import Derived.Test.YtggnbflbbfdohaaGreatSt6
import Derived.Test.YtggnbflbbfdohaaGreatSt1
import Derived.Test.YtggnbflbbfdohaaGreatRows
import Derived.Shelf.Strings.Builder1
import Derived.Shelf.Strings.Builder2
import Derived.Shelf.Strings.OnBuilder
import Derived.Shelf.Small.Strs
import Derived.Shelf.Small.Wraps
import Derived.Shelf.Strings.Search1
import Derived.Shelf.Strings.Search2
import Derived.Shelf.Sort.Plain
import Derived.Shelf.Strings.Prefix
import Derived.Shelf.Slices.Equal
import Derived.Ground.Names2Prog
import Derived.Shelf.Slices.ReverseS
import Derived.Shelf.Slices.Clone
import Derived.Shelf.Slices.CompactS
import Derived.Shelf.Slices.Cells
import Derived.Shelf.Slices.In.SortNone
import Derived.Ground.SlgnProg
import Derived.Shelf.SlicesE.Clone
import Derived.Test.YtggnbflbbfdohaaGreatProg
import Derived.Sort.OwnSorted
import Derived.Lib.RowBridge
import Derived.DeepKeys4
import Derived.BigQuiet
import Derived.Deep.QuietTactic

namespace Go.Proofs.YtggnbflbbfdohaaGreat
open Go.RowKit Go.Shelf Plain

def prC (q:Int×Int):List Value:=[.int .i64 q.1,.int .i64 q.2]
def prEn : Enc (Int × Int) where
 k:=2
 R:=fun _ _ cs x=>cs=prC x
 len:=fun h=>by rw [h];rfl
 one:=fun h v hv=>by
  rw [h] at hv;simp only [prC,List.mem_cons,List.not_mem_nil,or_false] at hv
  rcases hv with rfl|rfl <;> rfl
 mono:=fun h _ _=>h
def flatR (l:List (Int×Int)):List Value:=(l.map prC).flatten
theorem flatR_snoc (l:List (Int×Int)) (q:Int×Int):flatR (l++[q])=flatR l++prC q:=by simp [flatR]
theorem flatR_len (l:List (Int×Int)):(flatR l).length=l.length*2:=by
 have:=flat_len (k:=2) (css:=l.map prC) (fun cs h=>by obtain ⟨x,_,rfl⟩:=List.mem_map.1 h;rfl)
 simpa [flatR] using this
theorem own_pr {W:World} {base t n c:Nat} {A:Option Addr} {l:List (Int×Int)} (h:W.ownsRow base t 2 (.slice A n c) n (flatR l)):OwE prEn W base t A n c l:=by
 have hl:=h.1;rw [flatR_len] at hl;refine ⟨l.map prC,h,⟨by simp,fun i cs x h1 h2=>?_⟩,by omega⟩;rw [List.getElem?_map,h2] at h1
 cases h1
 exact rfl
def slotQ (ns:List NodV) (q:Int×Nat):Int×Int:=(q.1,(((nodAt ns q.1).ents[q.2]?).getD ent0).slot)
def twiceS (ns:List NodV) (s:StW):List (Int×Int):=s.2.map (slotQ ns)
def PairsRet (w:World) (l:List (Int×Int)) (e:Ending) (w':World):Prop:=∃A n c,e=.returned (.slice A n c)∧n≤c∧RdE prEn w' (Under w'.heap.size) A n l∧Below w.heap.size w w'
def zpr:Value:=.agg #[.int .i64 0,.int .i64 0]
set_option maxRecDepth 100000 in
theorem pr_info:(Tryz.prog.info? 99).map (fun i=>(i.zero,i.size,i.bytes))=some (some zpr,2,16):=by kernel_rfl
theorem lit_pr (q:Int×Int) (W:World):(Instr.buildSlice 87 1 #[(0,.agg (prC q).toArray)]).run Tryz.prog W=.ok (.slice (some ⟨W.heap.size,0,none⟩) 1 1) (W.alloc (.cells (prC q).toArray 99)):=by
 obtain ⟨it,hi,hz,hsz,-⟩:=info_parts pr_info;refine run_buildSlice W _ 99 1 _ _ it zpr Tryz.underlying87 hi hz (by omega) (by omega) ?_;rw [hsz]
 have:=Great.fill_whole (s:=2) (by omega) [.agg (prC q).toArray] ((Array.range (1*2)).map (zpr.cells[· % zpr.cells.size]!)) (by intro v hv;rw [List.mem_singleton] at hv;subst hv;simp [Value.cells,prC]) (by simp)
 simpa [Value.cells] using this
set_option maxRecDepth 100000 in
theorem nam_agg:∀w,(isAgg 162).run Tryz.prog w=.ok true w:=fun w=>by kernel_rfl
set_option maxRecDepth 100000 in
theorem nam_size:∀w,(Go.sizeOf 162).run Tryz.prog w=.ok 2 w:=fun w=>by kernel_rfl
theorem twC_one (q:Int×Nat):∀v∈twC q,v.oneCell'=true:=by simp [twC,Value.oneCell']
theorem flatT_get {l:List (Int×Nat)} {j:Nat} {q:Int×Nat} (h:l[j]?=some q) {i:Nat} (hi:i < 2):(flatT l)[j*2+i]?=(twC q)[i]?:=by
 have:=flat_get (k:=2) (css:=l.map twC) (fun cs hc=>by obtain ⟨z,_,rfl⟩:=List.mem_map.1 hc;rfl) (i:=j) (j:=i) (cs:=twC q) (by rw [List.getElem?_map,h];rfl) hi
 rw [show flatT l=(l.map twC).flatten from by simp [flatT,List.flatMap]];exact this
set_option maxRecDepth 100000 in
set_option maxHeartbeats 4000000 in
theorem Twice_any {A F:Option Addr} {n c k d:Nat} {ns:List NodV} {ff:List Int} (w:World) (h:RdE nodEn w (Under w.heap.size) A n ns) (hf:RdE Enc.int w (Under w.heap.size) F k ff) (hM:Many ns) (hk:k≤1000) :
  Calls Tryz.prog 69 #[.agg #[.slice A n c],.slice F k d] w (PairsRet w (twiceS ns (walkW ns ff))):=by
 have hb1:=below_new (below_self w) (.cells #[.slice A n c] 26);have H1:=hide (h.on hb1);have HF1:=hide (hf.on hb1);have HB1:=hide hb1;have HM:=hide hM;have hm24:=hM.1;have hct:=walk_comes ns ff;have htw:=walk_tw hM ff;have hok:=(walk_ok ns ff).le;have HCT:=hide hct;obtain ⟨S',hS'⟩:∃S',walkW ns ff=S':=⟨_,rfl⟩;have HWD:=hide (fun W hh hh2=>walked_any (A:=A) (F:=F) (n:=n) (c:=c) (k:=k) (d:=d) W (ns:=ns) (ff:=ff) hh hh2 hM hk);rw [hS'] at HWD HCT htw hok ⊢;clear h hf hb1 hct hS' hM
 go_enter Tryz.func69,Tryz.ntmps69
 go_wp2_with (go_at_call 87;refine (HWD.out _ H1.out HF1.out).mono ?_;rintro e w2 ⟨g,b,rfl,hw2,hb2⟩;obtain ⟨hBg,hgl,hBb,hbl⟩:=hw2.lt;have HW2:=hide hw2;obtain ⟨A',n',c',A1,n1,c1',A2,n2,c2,-,-,h3,-,-,-,h7⟩:=hw2;have q3:w2.cell? ⟨g,3,none⟩=some (.slice A2 n2 c2):=h3.cell 3;have H7:=hide h7;have HB2:=hide (below_step HB1.out hb2);clear h3 h7 hb2)
 have hn2:n2=S'.2.length:=by have h8:=H7.out.1;rw [flatT_len] at h8;omega
 subst hn2
 rw [World.size_alloc] at *
 clear q3
 go_loopw [6,17] (fun v6 iv wr=>∃(j:Nat) (A5:Option Addr) (c5:Nat),j≤S'.2.length∧iv=.int .i64 j∧v6=.slice A5 j c5∧wr.ownsRow w2.heap.size 99 2 (.slice A5 j c5) j (flatR ((S'.2.take j).map (slotQ ns)))∧Below w2.heap.size w2 wr) (fun _ iv _=>S'.2.length - (intOf iv).toNat)
 case atStart=>exact ⟨0,none,0,by omega,rfl,rfl,by rw [List.take_zero];exact World.ownsRow_nil _ _ _ _,below_self _⟩
 case round =>
  obtain ⟨j,A5,c5,hj,rfl,rfl,ho,hbr⟩:=hrel;have HO:=hide ho;have HBR:=hide hbr;have hbsz:=hbr.size;clear ho hbr
  by_cases hlt:j < S'.2.length
  ·obtain ⟨q,hq⟩:∃q,S'.2[j]?=some q:=⟨_,List.getElem?_eq_getElem hlt⟩
   obtain ⟨e,he,-⟩:=HCT.out q (List.mem_of_getElem? hq);have HSQ:=hide (show (S'.2.take (j+1)).map (slotQ ns)=(S'.2.take j).map (slotQ ns)++[(q.1,e.slot)] from by rw [List.take_add_one,hq,List.map_append];simp [slotQ,he])
   have hcellq:∃g2,A2=some ⟨g2,0,none⟩∧∀i v,(twC q)[i]?=some v→wr.cell? ⟨g2,j*2+i,none⟩=some v:=by
    rcases H7.out.2 with ⟨_,h0⟩|⟨g2,cap,cur,he2,_,hg2,_⟩
    ·omega
    ·simp only [Value.slice.injEq] at he2
     obtain ⟨rfl,-,rfl⟩:=he2;refine ⟨g2,rfl,fun i v hv=>?_⟩
     have hi:i < 2:=by have:=(List.getElem?_eq_some_iff.1 hv).1;simpa [twC] using this
     refine (HBR.out.cell (p:=⟨g2,j*2+i,none⟩) (heap_lt hg2)).trans ?_;refine (World.ownsRow.cellAt (g:=g2) H7.out (j*2+i) (by omega)).trans ?_;rw [flatT_get hq hi];exact hv
   obtain ⟨g2,rfl,hcq⟩:=hcellq;have HCQ:=hide hcq;have HQ:=hide hq;have HE:=hide he;have HZ:=hide (RowL.new wr 162 [.int .i64 0,.int .i64 0])
   have hcap:S'.2.length≤c2:=by
    rcases H7.out.2 with ⟨_,h0⟩|⟨g2,cap,cur,he2,_,hg2,hle,_⟩
    ·omega
    ·simp only [Value.slice.injEq] at he2
     omega
   clear hcq hq he
   go_wp2_with (first|(refine wpList_loadX rfl 162 (.tmp 19) rfl 2 nam_agg nam_size g2 (j*2) rfl (twC q) HCQ.out rfl ?_)|(refine wpList_storeW rfl 162 (.tmp 8) (.tmp 20) rfl 2 nam_size wr.heap.size 162 rfl [.int .i64 0,.int .i64 0] (twC q) rfl HZ.out rfl rfl (twC_one q) ?_;intro w3 hr3 hg3 hs3;have HB3:=hide (below_stored' hg3);have HR3:=hide hr3;clear hr3 hg3 hs3))
   have hs3:=HB3.out.size;have hbw3:=HBR.out.trans (HB3.out.mono hbsz);have ho3:=ownsRow_below HO.out HB3.out;have HBW3:=hide hbw3;have HO3:=hide ho3
   have hj384:j≤1000:=by omega
   have q0:=cel HR3.out 0 rfl
   have q1:=cel HR3.out 1 rfl
   clear hbw3 ho3;refine wp_region_planN (fun w'=>Below w2.heap.size w2 w'∧w'.cell? ⟨wr.heap.size,0,none⟩=some (.int .i64 q.1)∧w'.cell? ⟨wr.heap.size,1,none⟩=some (.int .i64 q.2)) [(0,true),(1,true),(2,true),(3,true),(4,true),(5,true),(8,true),(9,true),(6,false),(7,true),(10,true),(11,true),(12,true),(13,true),(14,false),(15,false),(16,true)] (by kernel_rfl) (by kernel_rfl) (by kernel_rfl) (by kernel_rfl) rfl (fun _ _ _ _ _ h=>h) ⟨below_drewN HBW3.out 1,q0,q1⟩ (fun hHh=>?_);simp only [planOps,List.filterMap_cons,List.filterMap_nil,List.getElem?_toArray,List.getElem?_cons_succ,List.getElem?_cons_zero,Option.map_some]
   iterate 8
    refine wpPlan_take (v:=?_) (by kernel_rfl) (fun wS hSw=>?_) ?_;rotate_left
    ·(try dsimp only at hSw);go_simp;(try with_reducible rfl)
    (try simp only [Act.put,pu1,pu2,pu3])
   refine wpPlan_call (by kernel_rfl) (fun K hK=>?_);have hOh:=hide hHh;clear hHh
   go_simp
   go_at_call 99
   refine (node_any (i:=q.1) _ ((HW2.out.on HBW3.out).on (below_drew (below_self w3))).n (by show _≤w3.heap.size;omega) (by show g < w3.heap.size;omega) (by omega)).mono ?_
   rintro e' w4 ⟨A8,n8,c8,C8,m8,d8,rfl,-,-,hmd8,hE,hbel⟩
   have hbn:Below w3.heap.size w3 w4:=by have:=hbel;exact ⟨this.os,this.tape,this.output,this.size,this.block⟩
   have HB4:=hide hbn;obtain ⟨bE,oE,hCE,hbE,hcE⟩:=ent_get hE HE.out;subst hCE;have HCE:=hide (show w4.cell? ⟨bE,oE+q.2*3,none⟩=some (.int .i64 e.slot) from hcE 0 _ rfl);have hf5:=nod_f5 (nodAt ns q.1) A8 (some ⟨bE,oE,none⟩) n8 c8 m8 d8
   have hq2:q.2 < m8:=by rw [←hE.1];exact (List.getElem?_eq_some_iff.1 HE.out).1
   have hbE2:bE < w2.heap.size:=by unfold Under at hbE;omega
   have HE8:=hide (HB4.out);clear hE hcE;refine hK.out _ _ (⟨(HBW3.out.trans (HB4.out.mono HBW3.out.size)),(HR3.out.on HB4.out).cell 0,(HR3.out.on HB4.out).cell 1⟩) (fun hHh=>?_);clear hK K;(try simp only [Act.put,pu1,pu2,pu3])
   iterate 3
    refine wpPlan_take (v:=?_) (by kernel_rfl) (fun wS hSw=>?_) ?_;rotate_left
    ·(try dsimp only at hSw);go_simp;(try with_reducible rfl)
    (try simp only [Act.put,pu1,pu2,pu3])
   refine wpPlan_take (v:=?_) (by kernel_rfl) (fun wS hSw=>?_) ?_;rotate_left
   ·obtain ⟨hk1,-⟩:=hSw;have hce:wS.cell? ⟨bE,oE+q.2*3,none⟩=some (.int .i64 e.slot):=(hk1.cell (p:=⟨bE,oE+q.2*3,none⟩) hbE2).trans (((HBW3.out.trans (HB4.out.mono HBW3.out.size)).cell (p:=⟨bE,oE+q.2*3,none⟩) hbE2).symm.trans HCE.out);clear hk1;go_simp;(try with_reducible rfl)
   (try simp only [Act.put,pu1,pu2,pu3]);refine wpPlan_take (v:=?_) (by kernel_rfl) (fun wS hSw=>?_) ?_;rotate_left
   ·(try dsimp only at hSw);go_simp;(try with_reducible rfl)
   (try simp only [Act.put,pu1,pu2,pu3]);refine wpPlan_call (by kernel_rfl) (fun K hK=>?_);have hOh:=hide hHh;clear hHh;unfold Oper.wp execOp;have hlit:=lit_pr (q.1,e.slot) w4;unfold prC at hlit
   go_simp
   refine hK.out _ _ (⟨(HBW3.out.trans (HB4.out.mono HBW3.out.size)).trans ((below_new (below_self w4) (.cells (prC (q.1,e.slot)).toArray 99)).mono (by have:=HB4.out.size;omega)),((HR3.out.on HB4.out).on (below_new (below_self w4) (.cells (prC (q.1,e.slot)).toArray 99))).cell 0,((HR3.out.on HB4.out).on (below_new (below_self w4) (.cells (prC (q.1,e.slot)).toArray 99))).cell 1⟩) (fun hHh=>?_);clear hK K;(try simp only [Act.put,pu1,pu2,pu3]);refine wpPlan_call (by kernel_rfl) (fun K hK=>?_);have hOh:=hide hHh;clear hHh;refine wp_appF w4 w2.heap.size w4.heap.size rfl (.tmp 21) (.tmp 35) 87 99 rfl Tryz.underlying87 _ 2 16 pr_info rfl (by omega) (by omega) A5 j c5 _ (prC (q.1,e.slot)) rfl (by simp [prC,Value.oneCell']) rfl (ownsRow_below HO3.out HB4.out) rfl (by omega) (by have:=HB4.out.size;omega) ?_;intro A6 c6 w6 ho6 hg6;have HO6:=hide ho6;have HG6:=hide hg6;clear ho6 hg6;refine hK.out _ _ (⟨((HBW3.out.trans (HB4.out.mono HBW3.out.size)).trans ((below_new (below_self w4) (.cells (prC (q.1,e.slot)).toArray 99)).mono (by have:=HB4.out.size;omega))).grown HG6.out (by have:=HB4.out.size;simp only [World.size_alloc];omega) (fun k hk=>(own_block (ownsRow_below (ownsRow_below HO3.out HB4.out) (below_new (below_self w4) (.cells (prC (q.1,e.slot)).toArray 99))) k hk).1),((((HR3.out.on HB4.out).on (below_new (below_self w4) (.cells (prC (q.1,e.slot)).toArray 99))).grown HG6.out (row_apart (ownsRow_below (ownsRow_below HO3.out HB4.out) (below_new (below_self w4) (.cells (prC (q.1,e.slot)).toArray 99))) ((HR3.out.on HB4.out).on (below_new (below_self w4) (.cells (prC (q.1,e.slot)).toArray 99))) (by decide))).cell 0),((((HR3.out.on HB4.out).on (below_new (below_self w4) (.cells (prC (q.1,e.slot)).toArray 99))).grown HG6.out (row_apart (ownsRow_below (ownsRow_below HO3.out HB4.out) (below_new (below_self w4) (.cells (prC (q.1,e.slot)).toArray 99))) ((HR3.out.on HB4.out).on (below_new (below_self w4) (.cells (prC (q.1,e.slot)).toArray 99))) (by decide))).cell 1)⟩) (fun hHh=>?_);clear hK K;(try simp only [Act.put,pu1,pu2,pu3]);refine wpPlan_take (v:=?_) (by kernel_rfl) (fun wS hSw=>?_) ?_;rotate_left
   ·(try dsimp only at hSw);go_simp;(try with_reducible rfl)
   (try simp only [Act.put,pu1,pu2,pu3]);refine wpPlan_end ?_;have hbw6:=hHh.1;clear hHh q0 q1
   go_wp2
   go_roundw
   case rel=>exact ⟨j+1,A6,c6,by omega,by go_num,rfl,by rw [HSQ.out,flatR_snoc];exact HO6.out,hbw6⟩
   case measure=>simp [intOf];omega
  ·obtain rfl:j=S'.2.length:=by omega
   go_wp2
   go_ret
   rw [List.take_length] at HO;exact ⟨A5,S'.2.length,c5,rfl,(own_pr HO.out).cap,((own_pr HO.out).rd rfl).plain,HB2.out.trans (HBR.out.mono HB2.out.size)⟩
end Go.Proofs.YtggnbflbbfdohaaGreat

namespace Go.Proofs.YtggnbflbbfdohaaGreat
open Go.RowKit Go.Shelf Plain

theorem way_at {W:World} {B n c:Nat} {A:Option Addr} {l:List WayV} {j:Nat} {y:WayV} (h:W.ownsRow B 118 3 (.slice A n c) n (flatW l)) (hy:l[j]?=some y):∃gW,A=some ⟨gW,0,none⟩∧gW < W.heap.size∧n≤c∧∀i v,(wayC y)[i]?=some v→W.cell? ⟨gW,j*3+i,none⟩=some v:=by
 have hl:=h.1;rw [flatW_len] at hl;have hjl:=(List.getElem?_eq_some_iff.1 hy).1
 rcases h.2 with ⟨_,h0⟩|⟨gW,cap,cur,he,_,hg,hle,_⟩
 ·omega
 ·simp only [Value.slice.injEq] at he
  obtain ⟨rfl,-,rfl⟩:=he;refine ⟨gW,rfl,heap_lt hg,hle,fun i v hv=>?_⟩
  have hi:i < 3:=by have:=(List.getElem?_eq_some_iff.1 hv).1;simpa [wayC] using this
  refine (World.ownsRow.cellAt (g:=gW) h (j*3+i) (by omega)).trans ?_
  have:=flat_get (k:=3) (css:=l.map wayC) (fun cs hc=>by obtain ⟨z,_,rfl⟩:=List.mem_map.1 hc;rfl) (i:=j) (j:=i) (cs:=wayC y) (by rw [List.getElem?_map,hy];rfl) hi
  rw [show flatW l=(l.map wayC).flatten from by simp [flatW,List.flatMap],this];exact hv
theorem wayC_one (y:WayV):∀v∈wayC y,v.oneCell'=true:=by simp [wayC,Value.oneCell']
end Go.Proofs.YtggnbflbbfdohaaGreat

namespace Go.Proofs.YtggnbflbbfdohaaGreat.Plain
def letB (x:Nat):Bool:=decide ((97≤x∧x≤122)∨(48≤x∧x≤57)∨x=46∨x=95∨x=45)
def nameB (l:List UInt8):Bool:=(decide (1≤l.length∧l.length≤12)&&(!(l==[46])&&!(l==[46,46])))&&l.all fun x=>letB x.toNat
theorem all_take_succ {l:List UInt8} {p:UInt8→Bool} {k:Nat} (h:k < l.length):(l.take (k+1)).all p=((l.take k).all p&&p l[k]):=by
 rw [List.take_succ_eq_append_getElem h,List.all_append];simp
theorem all_false {l:List UInt8} {p:UInt8→Bool} {k:Nat} (h:k < l.length) (hp:p l[k]=false):l.all p=false:=by
 rw [List.all_eq_false];exact ⟨l[k],List.getElem_mem h,by simp [hp]⟩
theorem nameB_len {l:List UInt8} (h:nameB l=true):1≤l.length∧l.length≤12:=by
 simp only [nameB,Bool.and_eq_true,decide_eq_true_eq] at h;exact h.1.1
end Go.Proofs.YtggnbflbbfdohaaGreat.Plain

namespace Go.Proofs.YtggnbflbbfdohaaGreat
open Go.RowKit Plain
def st (l:List UInt8):Value:=.string ⟨l.toArray⟩
theorem add_lists {P:Program} {x y z:List UInt8} (h:x.length+y.length≤9223372036854775807) (hz:x++y=z) (W:World):(Op.stringOp .add ⟨x.toArray⟩ ⟨y.toArray⟩).run P W=.ok (.string ⟨z.toArray⟩) W:=by
 subst hz;rw [run_string_add_sum W _ _ (by simp [ByteArray.size];omega),ByteArray.mk_append_mk]
theorem ret_bool {a b:Bool} (h:a=b):Ending.returned (.bool a)=.returned (.bool b):=by rw [h]

set_option maxHeartbeats 400000 in
theorem Rletter_any (x:Nat) (hx:x < 256) (w:World) :
  Calls Tryz.prog 129 #[.int .u8 x] w fun e w'=>e=.returned (.bool (letB x))∧w=w':=by
 go_enter Tryz.func129,Tryz.ntmps129
 go_wp2
 all_goals
  go_ret
  refine ⟨ret_bool ?_,rfl⟩;rw [Bool.eq_iff_iff];simp [letB];omega
theorem Rletter_b {x:Nat} {b:Bool} (hx:x < 256) (hb:letB x=b) (w:World) :
  Calls Tryz.prog 129 #[.int .u8 x] w fun e w'=>e=.returned (.bool b)∧w=w':=by
 have:=Rletter_any x hx w;rw [hb] at this;exact this

set_option maxHeartbeats 400000 in
theorem RNRight_any (l:List UInt8) (w:World) (hl:l.length≤140737488355328) :
  Calls Tryz.prog 95 #[st l] w fun e w'=>e=.returned (.bool (nameB l))∧w=w':=by
 unfold st
 by_cases h1:l.length < 1
 ·have hr:nameB l=false:=by
   have:decide (1≤l.length∧l.length≤12)=false:=by simp;omega
   simp [nameB,this]
  rw [hr];clear hr;obtain rfl:l=[]:=List.eq_nil_of_length_eq_zero (by omega)
  go_enter Tryz.func95,Tryz.ntmps95
  go_wp2
  go_ret
  exact ⟨rfl,rfl⟩
 by_cases h2:12 < l.length
 ·have hr:nameB l=false:=by
   have:decide (1≤l.length∧l.length≤12)=false:=by simp;omega
   simp [nameB,this]
  rw [hr];clear hr
  have d1:decide ((l.length:Int) < 1)=false:=by simp;omega
  have d2:decide ((12:Int) < (l.length:Int))=true:=by simp;omega
  go_enter Tryz.func95,Tryz.ntmps95
  go_wp2
  go_ret
  exact ⟨rfl,rfl⟩
 by_cases h3:l=[46]
 ·subst h3
  go_enter Tryz.func95,Tryz.ntmps95
  go_wp2
  go_ret
  exact ⟨rfl,rfl⟩
 by_cases h4:l=[46,46]
 ·subst h4
  go_enter Tryz.func95,Tryz.ntmps95
  go_wp2
  go_ret
  exact ⟨rfl,rfl⟩
 have d1:decide ((l.length:Int) < 1)=false:=by simp;omega
 have d2:decide ((12:Int) < (l.length:Int))=false:=by simp;omega
 have d3:(l==[46])=false:=by simpa using h3
 have d4:(l==[46,46])=false:=by simpa using h4
 have hr:nameB l=l.all fun x=>letB x.toNat:=by
  have:decide (1≤l.length∧l.length≤12)=true:=by simp;omega
  simp [nameB,this,d3,d4]
 rw [hr];obtain ⟨r,hre⟩:∃r,(l.all fun x=>letB x.toNat)=r:=⟨_,rfl⟩;rw [hre];have HR:=hide hre;clear hr hre h3 h4
 go_enter Tryz.func95,Tryz.ntmps95
 go_wp2_with fail
 clear d1 d2 d3 d4
 go_loop [3] (fun i=>∃k:Nat,k≤l.length∧i=.int .i64 k∧((l.take k).all fun x=>letB x.toNat)=true) (fun i=>l.length - (intOf i).toNat)
 case atStart=>exact ⟨0,Nat.zero_le _,rfl,rfl⟩
 case round =>
  obtain ⟨k,hk,rfl,hall⟩:=hrel;have HALL:=hide hall;clear hall
  by_cases hlt:k < l.length
  ·have hb:=l[k].toNat_lt
   cases hb2:letB l[k].toNat with
   | true =>
    have HB:=hide hb2;clear hb2
    go_wp2_with fail
    refine (Rletter_b hb HB.out _).mono ?_
    rintro e w' ⟨rfl,rfl⟩
    go_wp2_with fail
    go_round
    case rel=>exact ⟨k+1,by omega,by go_num,by rw [all_take_succ hlt,HALL.out,HB.out];rfl⟩
    case measure=>simp [intOf];omega
   | false =>
    have hrf:r=false:=by rw [←HR.out];exact all_false hlt hb2
    have HRF:=hide hrf;have HB:=hide hb2;clear hb2 hrf
    go_wp2_with fail
    refine (Rletter_b hb HB.out _).mono ?_
    rintro e w' ⟨rfl,rfl⟩
    go_wp2_with fail
    go_ret
    rw [HRF.out];exact ⟨rfl,rfl⟩
  ·have hrt:r=true:=by
    rw [←HR.out]
    have:=HALL.out
    rwa [List.take_of_length_le (by omega)] at this
   have HRT:=hide hrt;clear hrt
   go_wp2
   go_ret
   rw [HRT.out];exact ⟨rfl,rfl⟩
theorem RNRight_b {l:List UInt8} {b:Bool} (h:nameB l=b) (w:World) (hl:l.length≤140737488355328) :
  Calls Tryz.prog 95 #[st l] w fun e w'=>e=.returned (.bool b)∧w=w':=by
 have:=RNRight_any l w hl;rw [h] at this;exact this
end Go.Proofs.YtggnbflbbfdohaaGreat

namespace Go.Proofs
open Go.Shelf
def Tryz.lays156_ren:Go.Shelf.Ren:=⟨fun|156=>110|165=>141|166=>142|169=>143|240=>156|241=>157|276=>175|277=>176|n=>n,fun|31=>41|9=>9|3=>3|4=>4|0=>0|20=>20|72=>192|76=>195|70=>190|37=>58|75=>194|127=>214|164=>229|5=>5|80=>197|n=>n,fun|n=>n⟩
theorem Tryz.lays156 : Go.Proofs.Lays.n156 Tryz.prog Tryz.lays156_ren := {
 mixed:=by kernel_rfl
 f156:=Tryz.func110.trans (congrArg some (by kernel_rfl))
 f165:=Tryz.func141.trans (congrArg some (by kernel_rfl))
 f166:=Tryz.func142.trans (congrArg some (by kernel_rfl))
 f169:=Tryz.func143.trans (congrArg some (by kernel_rfl))
 f240:=Tryz.func156.trans (congrArg some (by kernel_rfl))
 f241:=Tryz.func157.trans (congrArg some (by kernel_rfl))
 f276:=Tryz.func175.trans (congrArg some (by kernel_rfl))
 f277:=Tryz.func176.trans (congrArg some (by kernel_rfl))
 t0:=Tryz.underlying0
 a0:=Tryz.isAgg0
 z0:=Tryz.sizeOf0
 v0:=Tryz.zeroValue0
 t3:=Tryz.underlying3
 a3:=Tryz.isAgg3
 z3:=Tryz.sizeOf3
 v3:=Tryz.zeroValue3
 t4:=Tryz.underlying4
 a4:=Tryz.isAgg4
 z4:=Tryz.sizeOf4
 v4:=Tryz.zeroValue4
 t9:=Tryz.underlying9
 a9:=Tryz.isAgg9
 z9:=Tryz.sizeOf9
 v9:=Tryz.zeroValue9
 t20:=Tryz.underlying20
 a20:=Tryz.isAgg20
 z20:=Tryz.sizeOf20
 v20:=Tryz.zeroValue20
 t31:=Tryz.underlying41
 a31:=Tryz.isAgg41
 z31:=Tryz.sizeOf41
 v31:=Tryz.zeroValue41
 t37:=Tryz.underlying58
 a37:=Tryz.isAgg58
 z37:=Tryz.sizeOf58
 v37:=Tryz.zeroValue58
 t70:=Tryz.underlying190
 a70:=Tryz.isAgg190
 z70:=Tryz.sizeOf190
 v70:=Tryz.zeroValue190
 t72:=Tryz.underlying192
 a72:=Tryz.isAgg192
 z72:=Tryz.sizeOf192
 v72:=Tryz.zeroValue192
 t75:=Tryz.underlying194
 a75:=Tryz.isAgg194
 z75:=Tryz.sizeOf194
 v75:=Tryz.zeroValue194
 t76:=Tryz.underlying195
 a76:=Tryz.isAgg195
 z76:=Tryz.sizeOf195
 v76:=Tryz.zeroValue195
 t127:=Tryz.underlying214
 a127:=Tryz.isAgg214
 z127:=Tryz.sizeOf214
 v127:=Tryz.zeroValue214
 t164:=Tryz.underlying229
 a164:=Tryz.isAgg229
 z164:=Tryz.sizeOf229
 v164:=Tryz.zeroValue229}
theorem Tryz.Builder_Extra_156 : Builder.Extra Tryz.prog Tryz.lays156_ren := {
 sizeBuilder:=by kernel_rfl
 liesBuilder:=by kernel_rfl
 t5:=Tryz.underlying5
 a5:=Tryz.isAgg5
 z5:=Tryz.sizeOf5
 v5:=Tryz.zeroValue5
 infoByte:=by kernel_rfl
 cellsByte:=by kernel_rfl
 sizeByte:=by kernel_rfl
 neB5:=by decide}
open Go.RowKit in
theorem Tryz.strings_Join_none (a:Option Addr) (c:Nat) (sep:ByteArray) (w:World) :
  Calls Tryz.prog 110 #[.slice a 0 c,.string sep] w fun e w'=>e=.returned (.string ⟨#[]⟩)∧w'=w:=Any.strings_Join_none Tryz.lays156 Tryz.Builder_Extra_156 a c sep w
open Go.RowKit in
theorem Tryz.strings_Join (bk o c:Nat) (xs:List ByteArray) (sep:ByteArray) (w:World) (hcells:∀(j:Nat) x,xs[j]?=some x→w.cell? ⟨bk,o+j,none⟩=some (.string x)) (hbk:bk < w.heap.size) (hN:xs.length≤140737488355328) (hcap:xs.length≤c) (hlen:(Lib.join (xs.map (·.data.toList)) sep.data.toList).length≤140737488355328) :
  Calls Tryz.prog 110 #[.slice (some ⟨bk,o,none⟩) xs.length c,.string sep] w fun e w'=>e=.returned (.string ⟨(Lib.join (xs.map (·.data.toList)) sep.data.toList).toArray⟩)∧Below w.heap.size w w':=Any.strings_Join Tryz.lays156 Tryz.Builder_Extra_156 bk o c xs sep w hcells hbk hN hcap hlen
def Tryz.lays137_ren:Go.Shelf.Ren:=⟨fun|137=>125|217=>149|266=>161|n=>n,fun|9=>9|5=>5|3=>3|n=>n,fun|n=>n⟩
theorem Tryz.lays137 : Go.Proofs.Lays.n137 Tryz.prog Tryz.lays137_ren := {
 mixed:=by kernel_rfl
 f137:=Tryz.func125.trans (congrArg some (by kernel_rfl))
 f217:=Tryz.func149.trans (congrArg some (by kernel_rfl))
 f266:=Tryz.func161.trans (congrArg some (by kernel_rfl))
 t3:=Tryz.underlying3
 a3:=Tryz.isAgg3
 z3:=Tryz.sizeOf3
 v3:=Tryz.zeroValue3
 t5:=Tryz.underlying5
 a5:=Tryz.isAgg5
 z5:=Tryz.sizeOf5
 v5:=Tryz.zeroValue5
 t9:=Tryz.underlying9
 a9:=Tryz.isAgg9
 z9:=Tryz.sizeOf9
 v9:=Tryz.zeroValue9}
open Go.RowKit in
theorem Tryz.strings_IndexByte (s:ByteArray) (c:Int) (w:World) :
  Calls Tryz.prog 125 #[.string s,.int .u8 c] w fun e w'=>e=.returned (.int .i64 (Lib.indexByte s.data.toList c.toNat.toUInt8))∧w'=w:=Any.strings_IndexByte Tryz.lays137 s c w
def Tryz.lays103_ren:Go.Shelf.Ren:=⟨fun|103=>151|210=>162|206=>178|n=>n,fun|9=>9|4=>4|24=>205|3=>3|n=>n,fun|n=>n⟩
theorem Tryz.lays103 : Go.Proofs.Lays.n103 Tryz.prog Tryz.lays103_ren := {
 mixed:=by kernel_rfl
 f103:=Tryz.func151.trans (congrArg some (by kernel_rfl))
 f206:=Tryz.func178.trans (congrArg some (by kernel_rfl))
 f210:=Tryz.func162.trans (congrArg some (by kernel_rfl))
 t3:=Tryz.underlying3
 a3:=Tryz.isAgg3
 z3:=Tryz.sizeOf3
 v3:=Tryz.zeroValue3
 t4:=Tryz.underlying4
 a4:=Tryz.isAgg4
 z4:=Tryz.sizeOf4
 v4:=Tryz.zeroValue4
 t9:=Tryz.underlying9
 a9:=Tryz.isAgg9
 z9:=Tryz.sizeOf9
 v9:=Tryz.zeroValue9
 t24:=Tryz.underlying205
 a24:=Tryz.isAgg205
 z24:=Tryz.sizeOf205
 v24:=Tryz.zeroValue205}
open Go.RowKit in
theorem Tryz.strings_CutPrefix (s p:ByteArray) (w:World) :
  Calls Tryz.prog 151 #[.string s,.string p] w fun e w'=>e=.returned (.tuple #[.string ⟨(Lib.trimPrefix s.data.toList p.data.toList).toArray⟩,.bool (Lib.hasPrefix s.data.toList p.data.toList)])∧w'=w:=Any.strings_CutPrefix Tryz.lays103 s p w
def Tryz.lays219_ren:Go.Shelf.Ren:=⟨fun|219=>179|217=>149|225=>186|224=>187|267=>188|266=>161|314=>190|n=>n,fun|9=>9|3=>3|4=>4|5=>5|46=>213|146=>243|51=>226|n=>n,fun|1=>0|n=>n⟩
theorem Tryz.lays219 : Go.Proofs.Lays.n219 Tryz.prog Tryz.lays219_ren := {
 mixed:=by kernel_rfl
 f217:=Tryz.func149.trans (congrArg some (by kernel_rfl))
 f219:=Tryz.func179.trans (congrArg some (by kernel_rfl))
 f224:=Tryz.func187.trans (congrArg some (by kernel_rfl))
 f225:=Tryz.func186.trans (congrArg some (by kernel_rfl))
 f266:=Tryz.func161.trans (congrArg some (by kernel_rfl))
 f267:=Tryz.func188.trans (congrArg some (by kernel_rfl))
 f314:=Tryz.func190.trans (congrArg some (by kernel_rfl))
 t3:=Tryz.underlying3
 a3:=Tryz.isAgg3
 z3:=Tryz.sizeOf3
 v3:=Tryz.zeroValue3
 t4:=Tryz.underlying4
 a4:=Tryz.isAgg4
 z4:=Tryz.sizeOf4
 v4:=Tryz.zeroValue4
 t5:=Tryz.underlying5
 a5:=Tryz.isAgg5
 z5:=Tryz.sizeOf5
 v5:=Tryz.zeroValue5
 t9:=Tryz.underlying9
 a9:=Tryz.isAgg9
 z9:=Tryz.sizeOf9
 v9:=Tryz.zeroValue9
 t46:=Tryz.underlying213
 a46:=Tryz.isAgg213
 z46:=Tryz.sizeOf213
 v46:=Tryz.zeroValue213
 t51:=Tryz.underlying226
 a51:=Tryz.isAgg226
 z51:=Tryz.sizeOf226
 v51:=Tryz.zeroValue226
 t146:=Tryz.underlying243
 a146:=Tryz.isAgg243
 z146:=Tryz.sizeOf243
 v146:=Tryz.zeroValue243
 g1:=by kernel_rfl}
open Go.RowKit Go.Lib in
theorem Tryz.stringslite_Index_one (s:ByteArray) (c:UInt8) (w:World) :
  Calls Tryz.prog 179 #[.string s,.string ⟨#[c]⟩] w fun e w'=>e=.returned (.int .i64 (Lib.indexByte s.data.toList c))∧w'=w:=Any.stringslite_Index_one Tryz.lays219 s c w
def Tryz.lays190_ren:Go.Shelf.Ren:=⟨fun|190=>139|125=>155|258=>154|128=>173|129=>174|302=>164|303=>165|304=>166|305=>167|306=>168|307=>169|308=>170|309=>171|310=>172|333=>180|329=>181|330=>182|334=>183|335=>184|336=>185|344=>189|n=>n,fun|31=>41|9=>9|3=>3|46=>213|0=>0|51=>226|53=>228|4=>4|183=>219|182=>218|131=>111|5=>5|218=>234|222=>238|228=>240|229=>241|n=>n,fun|n=>n⟩
theorem Tryz.lays190 : Go.Proofs.Lays.n190 Tryz.prog Tryz.lays190_ren := {
 mixed:=by kernel_rfl
 f125:=Tryz.func155.trans (congrArg some (by kernel_rfl))
 f128:=Tryz.func173.trans (congrArg some (by kernel_rfl))
 f129:=Tryz.func174.trans (congrArg some (by kernel_rfl))
 f190:=Tryz.func139.trans (congrArg some (by kernel_rfl))
 f258:=Tryz.func154.trans (congrArg some (by kernel_rfl))
 f302:=Tryz.func164.trans (congrArg some (by kernel_rfl))
 f303:=Tryz.func165.trans (congrArg some (by kernel_rfl))
 f304:=Tryz.func166.trans (congrArg some (by kernel_rfl))
 f305:=Tryz.func167.trans (congrArg some (by kernel_rfl))
 f306:=Tryz.func168.trans (congrArg some (by kernel_rfl))
 f307:=Tryz.func169.trans (congrArg some (by kernel_rfl))
 f308:=Tryz.func170.trans (congrArg some (by kernel_rfl))
 f309:=Tryz.func171.trans (congrArg some (by kernel_rfl))
 f310:=Tryz.func172.trans (congrArg some (by kernel_rfl))
 f329:=Tryz.func181.trans (congrArg some (by kernel_rfl))
 f330:=Tryz.func182.trans (congrArg some (by kernel_rfl))
 f333:=Tryz.func180.trans (congrArg some (by kernel_rfl))
 f334:=Tryz.func183.trans (congrArg some (by kernel_rfl))
 f335:=Tryz.func184.trans (congrArg some (by kernel_rfl))
 f336:=Tryz.func185.trans (congrArg some (by kernel_rfl))
 f344:=Tryz.func189.trans (congrArg some (by kernel_rfl))
 t0:=Tryz.underlying0
 a0:=Tryz.isAgg0
 z0:=Tryz.sizeOf0
 v0:=Tryz.zeroValue0
 t3:=Tryz.underlying3
 a3:=Tryz.isAgg3
 z3:=Tryz.sizeOf3
 v3:=Tryz.zeroValue3
 t4:=Tryz.underlying4
 a4:=Tryz.isAgg4
 z4:=Tryz.sizeOf4
 v4:=Tryz.zeroValue4
 t5:=Tryz.underlying5
 a5:=Tryz.isAgg5
 z5:=Tryz.sizeOf5
 v5:=Tryz.zeroValue5
 t9:=Tryz.underlying9
 a9:=Tryz.isAgg9
 z9:=Tryz.sizeOf9
 v9:=Tryz.zeroValue9
 t31:=Tryz.underlying41
 a31:=Tryz.isAgg41
 z31:=Tryz.sizeOf41
 v31:=Tryz.zeroValue41
 t46:=Tryz.underlying213
 a46:=Tryz.isAgg213
 z46:=Tryz.sizeOf213
 v46:=Tryz.zeroValue213
 t51:=Tryz.underlying226
 a51:=Tryz.isAgg226
 z51:=Tryz.sizeOf226
 v51:=Tryz.zeroValue226
 t53:=Tryz.underlying228
 a53:=Tryz.isAgg228
 z53:=Tryz.sizeOf228
 v53:=Tryz.zeroValue228
 t131:=Tryz.underlying111
 a131:=Tryz.isAgg111
 z131:=Tryz.sizeOf111
 v131:=Tryz.zeroValue111
 t182:=Tryz.underlying218
 a182:=Tryz.isAgg218
 z182:=Tryz.sizeOf218
 v182:=Tryz.zeroValue218
 t183:=Tryz.underlying219
 a183:=Tryz.isAgg219
 z183:=Tryz.sizeOf219
 v183:=Tryz.zeroValue219
 t218:=Tryz.underlying234
 a218:=Tryz.isAgg234
 z218:=Tryz.sizeOf234
 v218:=Tryz.zeroValue234
 t222:=Tryz.underlying238
 a222:=Tryz.isAgg238
 z222:=Tryz.sizeOf238
 v222:=Tryz.zeroValue238
 t228:=Tryz.underlying240
 a228:=Tryz.isAgg240
 z228:=Tryz.sizeOf240
 v228:=Tryz.zeroValue240
 t229:=Tryz.underlying241
 a229:=Tryz.isAgg241
 z229:=Tryz.sizeOf241
 v229:=Tryz.zeroValue241}
open Go.Sort Go.RowKit in
theorem Tryz.slices_Sort_string (blk off cap:Nat) (ss:List (List UInt8)) (w:World) (hH:Holds encStr w blk off ss.toArray) (hblk:blk < w.heap.size) (hsz:ss.length < 4611686018427387904) :
  Calls Tryz.prog 139 #[.slice (some ⟨blk,off,none⟩) ss.length cap] w fun e w' =>
   e=.returned (.tuple #[])∧∃n os,w'=grow (putRow encStr (Sort.ahead w n) blk off (ss.mergeSort fun x y=>decide (x≤y)).toArray) os:=Any.slices_Sort_string Tryz.lays190 blk off cap ss w hH hblk hsz
def Tryz.laysNm216_ren:Go.Shelf.Ren:=⟨fun|16=>138|n=>n,fun|24=>41|9=>9|4=>4|n=>n,fun|n=>n⟩
theorem Tryz.laysNm216 : Go.Proofs.Lays2.n16 Tryz.prog Tryz.laysNm216_ren := {
 mixed:=by kernel_rfl
 f16:=Tryz.func138.trans (congrArg some (by kernel_rfl))
 t4:=Tryz.underlying4
 a4:=Tryz.isAgg4
 z4:=Tryz.sizeOf4
 v4:=Tryz.zeroValue4
 t9:=Tryz.underlying9
 a9:=Tryz.isAgg9
 z9:=Tryz.sizeOf9
 v9:=Tryz.zeroValue9
 t24:=Tryz.underlying41
 a24:=Tryz.isAgg41
 z24:=Tryz.sizeOf41
 v24:=Tryz.zeroValue41
 i9:=by kernel_rfl}
open Go.RowKit Go.Lib in
theorem Tryz.slices_Clone_string (b off n c:Nat) (zs:List ByteArray) (w:World) (hz:n≤zs.length) (hbig:n*16≤140737488355328) (hc:∀j,j < zs.length→w.cell? ⟨b,off+j,none⟩=some (.string (zs.getD j ByteArray.empty))) :
  Calls Tryz.prog 138 #[.slice (some ⟨b,off,none⟩) n c] w fun e w'=>∃v',e=.returned v'∧w'.ownsRow w.heap.size 9 1 v' n ((zs.take n).map (Value.string))∧v'≠.slice none 0 0∧Below w.heap.size w w':=Any.slices_Clone_string Tryz.laysNm216 b off n c zs w hz hbig hc
open Go.RowKit Go.Lib in
theorem Tryz.slices_Clone_string_nil (n c:Nat) (w:World) :
  Calls Tryz.prog 138 #[.slice none n c] w fun e w'=>e=.returned (.slice none 0 0)∧w'=w:=Any.slices_Clone_string_nil Tryz.laysNm216 n c w
open Go.RowKit Go.Lib in
theorem Tryz.slices_Clone_string_zero (a:Addr) (c:Nat) (w:World) :
  Calls Tryz.prog 138 #[.slice (some a) 0 c] w fun e w'=>∃v',e=.returned v'∧w'.ownsRow w.heap.size 9 1 v' 0 []∧v'≠.slice none 0 0∧Below w.heap.size w w':=Any.slices_Clone_string_zero Tryz.laysNm216 a c w
def Tryz.lays194_ren:Go.Shelf.Ren:=⟨fun|194=>140|n=>n,fun|31=>41|9=>9|3=>3|4=>4|0=>0|n=>n,fun|n=>n⟩
theorem Tryz.lays194 : Go.Proofs.Lays.n194 Tryz.prog Tryz.lays194_ren := {
 mixed:=by kernel_rfl
 f194:=Tryz.func140.trans (congrArg some (by kernel_rfl))
 t0:=Tryz.underlying0
 a0:=Tryz.isAgg0
 z0:=Tryz.sizeOf0
 v0:=Tryz.zeroValue0
 t3:=Tryz.underlying3
 a3:=Tryz.isAgg3
 z3:=Tryz.sizeOf3
 v3:=Tryz.zeroValue3
 t4:=Tryz.underlying4
 a4:=Tryz.isAgg4
 z4:=Tryz.sizeOf4
 v4:=Tryz.zeroValue4
 t9:=Tryz.underlying9
 a9:=Tryz.isAgg9
 z9:=Tryz.sizeOf9
 v9:=Tryz.zeroValue9
 t31:=Tryz.underlying41
 a31:=Tryz.isAgg41
 z31:=Tryz.sizeOf41
 v31:=Tryz.zeroValue41}
open Go.RowKit Go.Lib Go.Sort in
theorem Tryz.slices_Compact_string (blk off cap:Nat) (zs:List (List UInt8)) (w:World) (hH:Holds encStr w blk off zs.toArray) (hsz:zs.length≤9223372036854775807) (hcap:zs.length≤cap) :
  Calls Tryz.prog 140 #[.slice (some ⟨blk,off,none⟩) zs.length cap] w fun e w'=>e=.returned (.slice (some ⟨blk,off,none⟩) (Lib.compact zs).length cap)∧∃q,w'=putRow encStr (Sort.ahead w q) blk off (Lib.compact zs++List.replicate (zs.length - (Lib.compact zs).length) []).toArray:=Any.slices_Compact_string Tryz.lays194 blk off cap zs w hH hsz hcap
open Go.RowKit Go.Lib Go.Sort in
theorem Tryz.slices_Compact_string_empty (a:Option Addr) (cap:Nat) (w:World) :
  Calls Tryz.prog 140 #[.slice a 0 cap] w fun e w'=>e=.returned (.slice a 0 cap)∧w'=w:=Any.slices_Compact_string_empty Tryz.lays194 a cap w
open Go.RowKit Go.Sort in
theorem Tryz.slices_Sort_string_none (p:Option Addr) (cap:Nat) (w:World) :
  Calls Tryz.prog 139 #[.slice p 0 cap] w fun e w'=>e=.returned (.tuple #[])∧w'=w:=Any.slices_Sort_string_none Tryz.lays190 p cap w
end Go.Proofs

namespace Go.Proofs.YtggnbflbbfdohaaGreat
open Go.RowKit Go.Shelf Plain Go.Sort

theorem way_get {w:World} {D:Nat→Prop} {A:Option Addr} {n j:Nat} {l:List WayV} {y:WayV} (h:RdE wayEn w D A n l) (hy:l[j]?=some y):∃b o,A=some ⟨b,o,none⟩∧D b∧∀i v,(wayC y)[i]?=some v→w.cell? ⟨b,o+j*3+i,none⟩=some v:=by
 have hj:=(List.getElem?_eq_some_iff.1 hy).1;obtain ⟨b,o,e,hb,hc⟩:=h.2 (by rw [←h.1];omega);obtain ⟨cs,hR,hcs⟩:=hc j y hy;refine ⟨b,o,e,hb,fun i v hv=>?_⟩
 have:=hcs i v (by rw [show cs=wayC y from hR];exact hv)
 rwa [show o+(j*wayEn.k+i)=o+j*3+i from by show o+(j*3+i)=o+j*3+i;omega] at this
end Go.Proofs.YtggnbflbbfdohaaGreat

namespace Go.Proofs.YtggnbflbbfdohaaGreat
open Go.RowKit Go.Shelf Plain

set_option maxRecDepth 100000 in
set_option maxHeartbeats 1600000 in
theorem At_any {A:Option Addr} {n c:Nat} {ns:List NodV} {i:Int} (w:World) (h:RdE nodEn w (Under w.heap.size) A n ns) (hm:ns.length≤100000):Calls Tryz.prog 61 #[.agg #[.slice A n c],.int .i64 i] w (NodRet w w.heap.size (nodAt ns i)):=by
 have hl:=h.1;obtain ⟨rz0,rz,hbz,-⟩:=rows2 w [.slice A n c] (nodC nod0 (.slice none 0 0) (.slice none 0 0)) 26 65;have HZ:=hide rz;have HB:=hide hbz
 have qb:((w.alloc (.cells [Value.slice A n c].toArray 26)).alloc (.cells (nodC nod0 (.slice none 0 0) (.slice none 0 0)).toArray 65)).cell? ⟨w.heap.size,0,none⟩=some (.slice A n c):=rz0.cell 0
 have hN:=h
 by_cases h1:i < 1
 ·have e:nodAt ns i=nod0:=nodAt_out (by omega)
  have d1:decide (i < 1)=true:=by simpa using h1
  rw [e];clear h hN rz rz0 hbz e
  go_enter Tryz.func61,Tryz.ntmps61
  go_wp2_with (refine wpList_storeW rfl 65 (.tmp 4) (.tmp 14) rfl 13 nod_size (w.heap.size+1) 65 rfl (nodC nod0 (.slice none 0 0) (.slice none 0 0)) (nodC nod0 (.slice none 0 0) (.slice none 0 0)) rfl HZ.out rfl rfl (nodC_one nod0 none none 0 0 0 0) ?_;intro w9 hr9 hg9 hs9;have HR9:=hide hr9;have HB9:=hide (HB.out.grown hg9 HB.out.size (pu4 (by omega)));clear hr9 hg9 hs9)
  exact bodyPost_ret (res_cell Tryz.results61 rfl nod_agg nod_size HR9.out rfl) rfl (NodRet.of (Nat.le_refl _) (RdE.none_ _ _ _ _) (Nat.le_refl _) (RdE.none_ _ _ _ _) HB9.out (Nat.le_refl _))
 ·have d1:decide (i < 1)=false:=by simpa using h1
  by_cases h2:(n:Int) < i
  ·have e:nodAt ns i=nod0:=nodAt_out (by omega)
   have d2:decide ((n:Int) < i)=true:=by simpa using h2
   rw [e];clear h hN rz rz0 hbz e
   go_enter Tryz.func61,Tryz.ntmps61
   go_wp2_with (refine wpList_storeW rfl 65 (.tmp 4) (.tmp 14) rfl 13 nod_size (w.heap.size+1) 65 rfl (nodC nod0 (.slice none 0 0) (.slice none 0 0)) (nodC nod0 (.slice none 0 0) (.slice none 0 0)) rfl HZ.out rfl rfl (nodC_one nod0 none none 0 0 0 0) ?_;intro w9 hr9 hg9 hs9;have HR9:=hide hr9;have HB9:=hide (HB.out.grown hg9 HB.out.size (pu4 (by omega)));clear hr9 hg9 hs9)
   exact bodyPost_ret (res_cell Tryz.results61 rfl nod_agg nod_size HR9.out rfl) rfl (NodRet.of (Nat.le_refl _) (RdE.none_ _ _ _ _) (Nat.le_refl _) (RdE.none_ _ _ _ _) HB9.out (Nat.le_refl _))
  ·have d2:decide ((n:Int) < i)=false:=by simpa using h2
   obtain ⟨j,x,rfl,hx,e⟩:=nodAt_in (ns:=ns) (i:=i) (by omega);rw [e];obtain ⟨b,o,cs,rfl,hbB,hNd,hcell⟩:=hN.get_nod hx
   have hjn:j < n:=by omega
   have hcell1:=fun j' v (hv:cs[j']?=some v)=>(hbz.cell (p:=⟨b,o+j*13+j',none⟩) hbB).trans (hcell j' v hv);obtain ⟨A1,n1,c1,C1,m1,d1',rfl,e2,e3,e4,e5⟩:=hNd;have HC:=hide hcell1
   have E3:=hide e3
   have E5:=hide e5
   have hw1:IntKind.i64.wrap ((j:Int)+1 - 1)=(j:Int):=by rw [show (j:Int)+1 - 1=j from by omega];exact IntWalk.i64_in _ (by omega)
   have hw2:IntKind.i64.wrap (j:Int)=(j:Int):=IntWalk.i64_in _ (by omega);clear h hN rz rz0 hbz e hcell hcell1 e3 e5 hx h1 h2
   go_enter Tryz.func61,Tryz.ntmps61
   go_wp2_with (first|(refine wpList_loadX rfl 65 (.tmp 19) rfl 13 nod_agg nod_size b (o+j*13) rfl (nodC x (.slice A1 n1 c1) (.slice C1 m1 d1')) HC.out rfl ?_)|(refine wpList_storeW rfl 65 (.tmp 4) (.tmp 20) rfl 13 nod_size (w.heap.size+1) 65 rfl (nodC nod0 (.slice none 0 0) (.slice none 0 0)) (nodC x (.slice A1 n1 c1) (.slice C1 m1 d1')) rfl HZ.out rfl rfl (nodC_one x A1 C1 n1 c1 m1 d1') ?_;intro w9 hr9 hg9 hs9;have HR9:=hide hr9;have HB9:=hide (HB.out.grown hg9 HB.out.size (pu4 (by omega)));clear hr9 hg9 hs9))
   exact bodyPost_ret (res_cell Tryz.results61 rfl nod_agg nod_size HR9.out rfl) rfl (NodRet.of e2 E3.out e4 E5.out HB9.out (Nat.le_refl _))
end Go.Proofs.YtggnbflbbfdohaaGreat

namespace Go.Proofs.YtggnbflbbfdohaaGreat
open Go.RowKit Go.Shelf Plain Go.Maps

def SetN (w:World) (b c:Nat) (f:Int×Int→Bool):Prop:=∃D:DataW Unit,w.ownsMap Tryz.prog 162 unitElem b c D∧∀x y kl,i64 x→i64 y→keyOf Tryz.prog 162 (.agg #[.int .i64 x,.int .i64 y])=some kl→Maps.has D kl=f (x,y)
section
variable {w w' : World} {b c : Nat} {f : Int × Int → Bool}
theorem SetN.made (w:World):SetN (w.alloc (.map #[] 0)) w.heap.size 0 (fun _=>false):=⟨.map [],World.ownsMap_made w _ _ _,fun _ _ _ _ _ _=>rfl⟩
theorem SetN.lt (h:SetN w b c f):b < w.heap.size:=by obtain ⟨D,h1,h2⟩:=h;exact h1.lt
theorem SetN.kept {row:Option Nat} (h:SetN w b c f) (hg:w.grownBy w' row) (hne:some b≠row):SetN w' b c f:=by obtain ⟨D,h1,h2⟩:=h;exact ⟨D,h1.kept hg hne,h2⟩
theorem SetN.on (h:SetN w b c f) (hb:Below w.heap.size w w'):SetN w' b c f:=h.kept (grown_below hb) (by simp)
theorem SetN.eq {g:Int×Int→Bool} (h:SetN w b c f) (e:f=g):SetN w b c g:=e ▸ h
theorem SetN.obj (h:SetN w b c f):∃o:Obj,w.heap[b]?=some o∧(∀x,o≠.deferred x)∧o.isCells=false:=by
 obtain ⟨D,⟨es,clock,h1,_⟩,h2⟩:=h;exact ⟨_,h1,(fun x e=>by cases e),rfl⟩
end
end Go.Proofs.YtggnbflbbfdohaaGreat

namespace Go.Proofs.YtggnbflbbfdohaaGreat
open Go.RowKit Go.Shelf Plain

theorem wpList_litW {P:Program} {w w':World} {ops:Array Oper} {rest:List Oper} {o:Oper} {a:Act} {Q:Exit→Act→World→Prop} (hgd:o.guard=none) (t:Nat) (x:Operand) (ho:o.op=.buildSlice t 1 #[(0,x)]) (vx v:Value) (hx:a.eval x=vx) (hr:(Instr.buildSlice t 1 #[(0,vx)]).run P w=.ok v w') (hK:wpList P ops Q rest (a.put o.dst v) w'):wpList P ops Q (o::rest) a w:=by
 refine wpList_plain hgd fun K hK'=>?_;unfold Oper.wp execOp;simp only [ho,List.map_toArray,List.map_cons,List.map_nil,hx,Sem.run_bind,Sem.run_pure,Result.andThen_ok,hr];exact hK' _ _ hK
end Go.Proofs.YtggnbflbbfdohaaGreat

namespace Go.Proofs.YtggnbflbbfdohaaGreat
open Go.RowKit Go.Shelf Plain

def nodZ:List Value:=nodC nod0 (.slice none 0 0) (.slice none 0 0)
theorem flat_put {k:Nat}:∀ {css:List (List Value)} (_:∀cs∈css,cs.length=k) (j:Nat) (cs:List Value) (_:cs.length=k) (_:j < css.length),splice css.flatten (j*k) cs=(css.set j cs).flatten:=by
 intro css
 induction css with
 | nil=>intro _ j cs _ hj;simp at hj
 | cons c0 r ih =>
  intro hk j cs hc hj;have h0:c0.length=k:=hk c0 List.mem_cons_self
  cases j with
  | zero =>
   simp only [splice,Nat.zero_mul,List.take_zero,List.nil_append,Nat.zero_add,List.set_cons_zero,List.flatten_cons];rw [List.drop_left' (by omega)]
  | succ j =>
   have:=ih (fun c h=>hk c (List.mem_cons_of_mem _ h)) j cs hc (by simpa using hj)
   simp only [List.set_cons_succ,List.flatten_cons,←this];unfold splice
   have e1:(j+1)*k=c0.length+j*k:=by rw [Nat.succ_mul,h0];omega
   rw [e1,List.take_append,List.take_of_length_le (by omega),Nat.add_sub_cancel_left,List.append_assoc,show c0.length+j*k+cs.length=c0.length+(j*k+cs.length) from by omega,List.drop_append,List.drop_of_length_le (by omega),Nat.add_sub_cancel_left,List.nil_append]
def NodesAt (B g:Nat) (l:List NodV) (W:World):Prop:=∃css,RowL W g 65 css.flatten∧CellsE nodEn W (fun b=>B≤b∧b < W.heap.size∧b≠g) css l
theorem NodesAt.on {B g:Nat} {l:List NodV} {W W':World} (h:NodesAt B g l W) (hb:Below W.heap.size W W'):NodesAt B g l W':=by
 obtain ⟨css,h1,h2⟩:=h;exact ⟨css,h1.on hb,h2.mono (fun b hb'=>hb.block b hb'.2.1) (fun b hb'=>⟨hb'.1,Nat.lt_of_lt_of_le hb'.2.1 hb.size,hb'.2.2⟩)⟩
theorem NodesAt.len {B g:Nat} {l:List NodV} {W:World} (h:NodesAt B g l W):∃cs,RowL W g 65 cs∧cs.length=l.length*13:=by
 obtain ⟨css,h1,h2⟩:=h;exact ⟨_,h1,by rw [flat_len h2.lens,h2.1];rfl⟩
theorem NodesAt.put {B g j:Nat} {l:List NodV} {x:NodV} {W W':World} {cur cs:List Value} (h:NodesAt B g l W) (hj:j < l.length) (hx:NodR W (fun b=>B≤b∧b < W.heap.size∧b≠g) cs x) (hcur:RowL W g 65 cur) (hr:RowL W' g 65 (splice cur (j*13) cs)) (hg:W.grownBy W' (some g)):NodesAt B g (l.set j x) W':=by
 obtain ⟨css,h1,h2⟩:=h;have hc:cs.length=13:=nodEn.len hx
 have e:cur=css.flatten:=by
  have:=h1.symm.trans hcur
  injection this with this
  injection this with this
  simpa using this.symm
 subst e;rw [flat_put (k:=13) (fun c hc=>h2.lens c hc) j cs hc (by rw [h2.1];exact hj)] at hr;have hk:Kept (fun b=>B≤b∧b < W.heap.size∧b≠g) W W':=fun b hb=>hg.block b hb.2.1 (fun e=>hb.2.2 (Option.some.inj e));have hD:∀b,(B≤b∧b < W.heap.size∧b≠g)→(B≤b∧b < W'.heap.size∧b≠g):=fun b hb=>⟨hb.1,Nat.lt_of_lt_of_le hb.2.1 hg.size,hb.2.2⟩;refine ⟨css.set j cs,hr,by rw [List.length_set,List.length_set,h2.1],fun i c y hc1 hy1=>?_⟩
 by_cases hi:j=i
 ·subst hi
  rw [List.getElem?_set_self (by rw [h2.1];exact hj)] at hc1;rw [List.getElem?_set_self hj] at hy1
  cases hc1
  cases hy1
  exact NodR.mono hx hk hD
 ·rw [List.getElem?_set_ne hi] at hc1 hy1
  exact nodEn.mono (h2.2 i c y hc1 hy1) hk hD
theorem NodesAt.rd {B g n:Nat} {l:List NodV} {W:World} (h:NodesAt B g l W) (hB:B≤g) (hn:l.length=n):RdE nodEn W (fun b=>B≤b∧b < W.heap.size) (some ⟨g,0,none⟩) n l:=by
 subst hn;obtain ⟨css,h1,h2⟩:=h;refine ⟨rfl,fun _=>⟨g,0,rfl,⟨hB,h1.lt⟩,fun i x hx=>?_⟩⟩;have hi:=(List.getElem?_eq_some_iff.1 hx).1;have hc:css[i]?=some (css[i]'(by rw [h2.1];exact hi)):=List.getElem?_eq_getElem _;have hR:=h2.2 i _ x hc hx;refine ⟨_,nodEn.mono hR (fun _ _=>rfl) (fun b hb=>⟨hb.1,hb.2.1⟩),fun j v hv=>?_⟩
 have hj:j < 13:=by have:=(List.getElem?_eq_some_iff.1 hv).1;have h13:=nodEn.len hR;rw [h13] at this;exact this
 rw [Nat.zero_add,h1.cell];exact (flat_get h2.lens hc hj).trans hv
set_option maxRecDepth 100000 in
theorem nodw_info:(Tryz.prog.info? 65).map (fun i=>(i.zero,i.size,i.bytes))=some (some (.agg nodZ.toArray),13,144):=by kernel_rfl
end Go.Proofs.YtggnbflbbfdohaaGreat

namespace Go.Proofs.YtggnbflbbfdohaaGreat
open Go.RowKit Go.Shelf Plain

theorem cell_same {W W':World} {b o:Nat} (h:W'.heap[b]?=W.heap[b]?):W'.cell? ⟨b,o,none⟩=W.cell? ⟨b,o,none⟩:=by
 unfold World.cell?;simp only [h]
set_option maxRecDepth 100000 in
theorem lay_agg:∀w,(isAgg 26).run Tryz.prog w=.ok true w:=fun w=>by kernel_rfl
set_option maxRecDepth 100000 in
theorem lay_size:∀w,(Go.sizeOf 26).run Tryz.prog w=.ok 1 w:=fun w=>by kernel_rfl
end Go.Proofs.YtggnbflbbfdohaaGreat

namespace Go.Proofs.YtggnbflbbfdohaaGreat
open Go.RowKit

theorem quietL {P:Program} {C:World→Prop} {o:Oper} {a:Act} {K:Act→Prop} (T:Nat) (x:Operand) (ho:o.op=.load T x) (p v:Value) (hx:a.eval x=p) (hl:∀w,C w→(Instr.loadAt T p).run P w=.ok v w) (hk:K (a.put o.dst v)):o.quiet P a C K :=
 ⟨v,fun w hw=>by
  unfold Oper.quietAt execOp;simp only [ho,Sem.run_bind,Sem.run_pure,Result.andThen_ok,hx,hl w hw]
  exact ⟨rfl,rfl⟩,hk⟩
end Go.Proofs.YtggnbflbbfdohaaGreat

