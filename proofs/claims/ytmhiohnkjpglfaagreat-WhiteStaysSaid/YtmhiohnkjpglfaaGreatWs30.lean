import Derived.Test.YtmhiohnkjpglfaaGreatWs29
import Derived.Test.YtmhiohnkjpglfaaGreatWs10
import Derived.Test.YtmhiohnkjpglfaaGreatWs28
import Derived.Test.YtmhiohnkjpglfaaGreatWs21
import Derived.Test.YtmhiohnkjpglfaaGreatWs22
import Derived.Test.YtmhiohnkjpglfaaGreatWs11
import Derived.Test.YtmhiohnkjpglfaaGreatWs3
import Derived.Test.YtmhiohnkjpglfaaGreatWs5
import Derived.StillTailTactics
import Derived.Test.YtmhiohnkjpglfaaGreatProg
import Derived.Test.YtmhiohnkjpglfaaGreatWs27
import Derived.Test.YtmhiohnkjpglfaaGreatWs23
import Derived.Test.YtmhiohnkjpglfaaGreatWs20
import Derived.WalkMore
import Derived.ScopeJumps

namespace Go.Proofs.YtmhiohnkjpglfaaGreat
open Go.RowKit Plain
variable {α : Type} {E : Enc α}

theorem OwD.len {D:Nat→Prop} {w:World} {base e:Nat} {A:Option Addr} {n c:Nat} {l:List α} (h:OwD E D w base e A n c l):l.length=n:=by
 obtain ⟨css,-,-,h3,-⟩:=h
 exact h3
theorem OwD.row {D:Nat→Prop} {w:World} {base e g n c:Nat} {l:List α} (h:OwD E D w base e (some ⟨g,0,none⟩) n c l):∃css rest,RowL w g e (css.flatten++rest)∧CellsE E w D css l∧css.flatten.length=n*E.k:=by
 obtain ⟨css,hown,hc,hl,hD⟩:=h
 have h1:=hown.1
 rcases hown.2 with ⟨h2,-⟩|⟨g',cap,cur,he,-,hg,-,-,-,ht⟩
 ·simp at h2
 ·simp only [Value.slice.injEq,Option.some.injEq,Addr.mk.injEq,and_true,true_and] at he
  obtain ⟨rfl,rfl⟩:=he
  refine ⟨css,cur.toList.drop (n*E.k),?_,hc,h1⟩
  unfold RowL
  rw [hg,←ht,List.take_append_drop]
theorem OwD.base {D:Nat→Prop} {w:World} {base e g n c:Nat} {l:List α} (h:OwD E D w base e (some ⟨g,0,none⟩) n c l):base≤g∧g < w.heap.size:=by
 obtain ⟨css,hown,-⟩:=h
 exact World.ownsRow.lt hown g rfl
theorem flat_len' : ∀ {css : List (List Value)} {k : Nat}, (∀ cs ∈ css, cs.length = k) → css.flatten.length = css.length * k
 | [],k,_=>by simp
 | c::r,k,h=>by
  have h1:=flat_len' (css:=r) (k:=k) (fun x hx=>h x (List.mem_cons_of_mem _ hx))
  rw [List.flatten_cons,List.length_append,h c List.mem_cons_self,h1,List.length_cons,Nat.succ_mul]
  omega
theorem flat_at {k:Nat}:∀ {css:List (List Value)} (_:∀cs∈css,cs.length=k) (j:Nat) (cs:List Value),css[j]?=some cs→(css.flatten.drop (j*k)).take k=cs:=by
 intro css
 induction css with
 | nil=>intro _ j cs h;simp at h
 | cons c0 r ih =>
  intro hk j cs h
  have h0:c0.length=k:=hk c0 List.mem_cons_self
  cases j with
  | zero =>
   obtain rfl:c0=cs:=by simpa using h
   rw [Nat.zero_mul,List.drop_zero,List.flatten_cons,List.take_left' h0]
  | succ j =>
   have:=ih (fun c hc=>hk c (List.mem_cons_of_mem _ hc)) j cs (by simpa using h)
   rw [List.flatten_cons,show (j+1)*k=c0.length+j*k from by rw [Nat.succ_mul,h0];omega,List.drop_append,List.drop_of_length_le (by omega),Nat.add_sub_cancel_left,List.nil_append]
   exact this
theorem splice_app {L R:List Value} {p:Nat} {cs:List Value} (h:p+cs.length≤L.length):splice (L++R) p cs=splice L p cs++R:=by
 unfold splice
 rw [List.take_append_of_le_length (by omega),List.drop_append_of_le_length (by omega)]
 simp only [List.append_assoc]
theorem OwD.put {D:Nat→Prop} {w w':World} {base e g n c j:Nat} {l:List α} {x:α} {cs cur:List Value} (h:OwD E D w base e (some ⟨g,0,none⟩) n c l) (hj:j < n) (hx:E.R w D cs x) (hcur:RowL w g e cur) (hr:RowL w' g e (splice cur (j*E.k) cs)) (hg:w.grownBy w' (some g)):OwD E D w' base e (some ⟨g,0,none⟩) n c (l.set j x):=by
 obtain ⟨css,hown,hc,hl,hD⟩:=h
 have hlen:=hown.1
 have hcs:cs.length=E.k:=E.len hx
 have hall:∀d∈css,d.length=E.k:=hc.lens
 have hcl:css.length=n:=by rw [hc.1,hl]
 have hk:Kept D w w':=fun b hb=>hg.block b (hD b hb).1 (fun e=>(hD b hb).2 _ rfl (Option.some.inj e))
 rcases hown.2 with ⟨h2,-⟩|⟨g',cap,arr,he,hbg,hga,hnc,hcm,hsz,ht⟩
 ·simp at h2
 simp only [Value.slice.injEq,Option.some.injEq,Addr.mk.injEq,and_true,true_and] at he
 obtain ⟨rfl,rfl⟩:=he
 have ecur:cur=arr.toList:=by
  have:=hga.symm.trans hcur
  injection this with this
  injection this with this
  rw [this]
 have hjk:j*E.k+E.k≤n*E.k:=by
  have:(j+1)*E.k≤n*E.k:=Nat.mul_le_mul_right _ (by omega)
  rw [Nat.succ_mul] at this
  exact this
 have ncap:n*E.k≤c*E.k:=Nat.mul_le_mul_right _ hnc
 have esp:splice cur (j*E.k) cs=(css.set j cs).flatten++arr.toList.drop (n*E.k):=by
  have e1:cur=css.flatten++arr.toList.drop (n*E.k):=by rw [ecur,←ht,List.take_append_drop]
  rw [e1,splice_app (by rw [hlen,hcs];exact hjk),flat_put hall j cs hcs (by omega)]
 rw [esp] at hr
 have hall':∀d∈css.set j cs,d.length=E.k:=fun d hd=>by
  rcases List.mem_or_eq_of_mem_set hd with h1|h1
  ·exact hall d h1
  ·rw [h1];exact hcs
 have hfl:(css.set j cs).flatten.length=n*E.k:=by rw [flat_len' hall',List.length_set,hcl]
 have hal:arr.toList.length=c*E.k:=by rw [Array.length_toList,hsz]
 refine ⟨css.set j cs,⟨hfl,.inr ⟨g,c,_,rfl,hbg,hr,hnc,hcm,?_,?_⟩⟩,⟨by rw [List.length_set,List.length_set,hc.1],fun i ds y hi hy=>?_⟩,by rw [List.length_set,hl],fun b hb=>⟨Nat.lt_of_lt_of_le (hD b hb).1 hg.size,(hD b hb).2⟩⟩
 ·rw [List.size_toArray,List.length_append,hfl,List.length_drop,hal]
  omega
 ·simp only [List.take_left' hfl]
 ·rw [List.getElem?_set] at hi hy
  by_cases hij:j=i
  ·subst hij
   rw [if_pos rfl,if_pos (by omega)] at hi hy
   cases hi;cases hy
   exact E.mono hx hk (fun _ h=>h)
  ·rw [if_neg hij] at hi hy
   exact E.mono (hc.2 i ds y hi hy) hk (fun _ h=>h)
theorem OwD.at {D:Nat→Prop} {w:World} {base e g n c j:Nat} {l:List α} {x:α} (h:OwD E D w base e (some ⟨g,0,none⟩) n c l) (hx:l[j]?=some x):∃cur cs,RowL w g e cur∧E.R w D cs x∧(cur.drop (j*E.k)).take E.k=cs∧j*E.k+E.k≤cur.length:=by
 obtain ⟨css,rest,hr,hc,hf⟩:=h.row
 have hn:=h.len
 have hjn:j < n:=by have:=(List.getElem?_eq_some_iff.1 hx).1;omega
 have hall:∀d∈css,d.length=E.k:=hc.lens
 obtain ⟨cs,hcs⟩:∃cs,css[j]?=some cs:=⟨_,List.getElem?_eq_getElem (by rw [hc.1];omega)⟩
 have hR:=hc.2 j cs x hcs hx
 have hjk:j*E.k+E.k≤n*E.k:=by
  have:(j+1)*E.k≤n*E.k:=Nat.mul_le_mul_right _ (by omega)
  rw [Nat.succ_mul] at this
  exact this
 refine ⟨_,cs,hr,hR,?_,by rw [List.length_append,hf];omega⟩
 have hc0:cs.length=E.k:=E.len hR
 have hfl:=flat_at hall j cs hcs
 rw [List.drop_append_of_le_length (by omega),List.take_append_of_le_length (by rw [List.length_drop];omega)]
 exact hfl
theorem OwD.base8 {α:Type} {E:Enc α} {D:Nat→Prop} {w:World} {base e n c:Nat} {A:Option Addr} {l:List α} (h:OwD E D w base e A n c l):∀a,A=some a→base≤a.block:=by
 intro a ha
 obtain ⟨css,hown,-⟩:=h
 subst ha
 exact (World.ownsRow.lt hown a.block rfl).1
theorem OwD.rd {α:Type} {E:Enc α} {D:Nat→Prop} {w:World} {base e n c:Nat} {A:Option Addr} {l:List α} (h:OwD E D w base e A n c l):RdE E w (Under w.heap.size) A n l:=(h.own.rd rfl).plain
theorem OwD.some_ {α:Type} {E:Enc α} {D:Nat→Prop} {w:World} {base e n c:Nat} {A:Option Addr} {l:List α} (h:OwD E D w base e A n c l) (hn:0 < n):∃g,A=some ⟨g,0,none⟩∧base≤g∧g < w.heap.size:=by
 obtain ⟨css,hown,-⟩:=h
 rcases hown.2 with ⟨-,h0⟩|⟨g,cap,cur,he,hb,hg,-⟩
 ·omega
 ·simp only [Value.slice.injEq] at he
  exact ⟨g,he.1,hb,RowL.lt (cs:=cur.toList) (by unfold RowL;exact hg)⟩
theorem OwD.cap_ {D:Nat→Prop} {w:World} {base e n c:Nat} {A:Option Addr} {l:List α} (h:OwD E D w base e A n c l):n≤c:=by
 obtain ⟨css,hown,-⟩:=h
 rcases hown.2 with ⟨h1,h0⟩|⟨g,cap,cur,he,-,-,h1,-⟩
 ·omega
 ·simp only [Value.slice.injEq] at he
  rw [he.2.2];exact h1
theorem OwE.cap_ {w:World} {base e n c:Nat} {A:Option Addr} {l:List α} (h:OwE E w base e A n c l):n≤c:=by
 obtain ⟨css,hown,-⟩:=h
 rcases hown.2 with ⟨h1,h0⟩|⟨g,cap,cur,he,-,-,h1,-⟩
 ·omega
 ·simp only [Value.slice.injEq] at he
  rw [he.2.2];exact h1
theorem OwE.baseP {w:World} {base e n c:Nat} {A:Option Addr} {l:List α} (h:OwE E w base e A n c l):∀a,A=some a→base≤a.block:=by
 intro a ha
 obtain ⟨css,hown,-⟩:=h
 subst ha
 exact (World.ownsRow.lt hown a.block rfl).1
end Go.Proofs.YtmhiohnkjpglfaaGreat

namespace Go.Proofs.YtmhiohnkjpglfaaGreat
open Go.RowKit Go.Shelf Plain

theorem Find_ev {g:GeoQ} {AU AL AP:Option Addr} {nU cU nL cL n cP:Nat} {ls:List (List NodV)} {l:List (Int×Int)} {nm:List UInt8} {B:Nat} {K:Int} {L:List (Int×Int)} (hR:findL ls nm l []=(K,L)) (w:World) (h:RdE layEn w (Under B) AL nL ls) (hp:RdE prEn w (Under w.heap.size) AP n l) (hB:B≤w.heap.size) (hF:FewL ls) (hn:n≤1000) :
  Calls Tryz.prog 124 #[.agg (stkC g (.slice AU nU cU) (.slice AL nL cL)).toArray,.slice AP n cP,.string ⟨nm.toArray⟩] w (FindRet w (K,L)):=Find_e hR w h hp hB hF hn
end Go.Proofs.YtmhiohnkjpglfaaGreat

namespace Go.Proofs.YtmhiohnkjpglfaaGreat
open Go.RowKit Go.Shelf Plain
structure FinV where
 (c l i s:Int)
 deriving DecidableEq
def finC (x:FinV):List Value:=[.int .i64 x.c,.int .i64 x.l,.int .i64 x.i,.int .i64 x.s]
def finEn : Enc FinV where
 k:=4
 R:=fun _ _ cs x=>cs=finC x
 len:=fun h=>by rw [h];rfl
 one:=fun h v hv=>by
  rw [h] at hv
  simp only [finC,List.mem_cons,List.not_mem_nil,or_false] at hv
  rcases hv with rfl|rfl|rfl|rfl <;> rfl
 mono:=fun h _ _=>h
theorem RdE.get_fin {w:World} {D:Nat→Prop} {A:Option Addr} {n:Nat} {l:List FinV} (h:RdE finEn w D A n l) {i:Nat} {x:FinV} (hx:l[i]?=some x) :
  ∃b o,A=some ⟨b,o,none⟩∧D b∧∀j v,(finC x)[j]?=some v→w.cell? ⟨b,o+i*4+j,none⟩=some v:=by
 have hi:=(List.getElem?_eq_some_iff.1 hx).1
 obtain ⟨b,o,e,hb,hc⟩:=h.2 (by have:=h.1;omega)
 obtain ⟨cs,hcs,hcell⟩:=hc i x hx
 refine ⟨b,o,e,hb,fun j v hv=>?_⟩
 have:=hcell j v (by rw [show cs=finC x from hcs];exact hv)
 rwa [show o+(i*finEn.k+j)=o+i*4+j from by show o+(i*4+j)=o+i*4+j;omega] at this
theorem fin_agg:∀w,(isAgg 71).run Tryz.prog w=.ok true w:=fun w=>by kernel_rfl
theorem fin_size:∀w,(Go.sizeOf 71).run Tryz.prog w=.ok 4 w:=fun w=>by kernel_rfl
set_option maxHeartbeats 1600000 in
set_option maxRecDepth 100000 in
theorem neq_fin (x:FinV) (W:World):(binOp .neq 71 (.agg #[.int .i64 x.c,.int .i64 x.l,.int .i64 x.i,.int .i64 x.s]) (.agg #[.int .i64 x.c,.int .i64 x.l,.int .i64 x.i,.int .i64 x.s])).run Tryz.prog W=.ok (.bool false) W:=by
 simp [go_sem]
set_option maxHeartbeats 800000 in
theorem EqualFin_same {A B:Option Addr} {n m c d:Nat} {L:List FinV} (w:World) (ha:RdE finEn w (Under w.heap.size) A n L) (hb:RdE finEn w (Under w.heap.size) B m L) (hn:n≤140737488355328) :
  Calls Tryz.prog 37 #[.slice A n c,.slice B m d] w (BoolB w true):=by
 obtain rfl:n=m:=by rw [←ha.1,←hb.1]
 have HA:=hide ha
 have HB:=hide hb
 clear ha hb
 have hd:((n:Int) != (n:Int))=false:=by simp
 go_enter Tryz.func37,Tryz.ntmps37
 go_wp2
 go_loopw [13] (fun i wr=>∃j q:Nat,j≤n∧i=.int .i64 j∧wr=w.drewN q) (fun i _=>n - (intOf i).toNat)
 case atStart=>exact ⟨0,0,by omega,rfl,rfl⟩
 case round =>
  obtain ⟨j,q,hj,rfl,rfl⟩:=hrel
  by_cases hlt:j < n
  ·have hl1:j < L.length:=by rw [HA.out.1];exact hlt
   obtain ⟨b1,o1,rfl,-,hc1⟩:=HA.out.get_fin (List.getElem?_eq_getElem hl1)
   obtain ⟨b2,o2,rfl,-,hc2⟩:=HB.out.get_fin (List.getElem?_eq_getElem hl1)
   generalize L[j]=y at hc1 hc2
   have hL1:∀q,(Instr.loadAt 71 (.pointer (some ⟨b1,o1+j*4,none⟩))).run Tryz.prog (w.drewN q)=.ok (.agg #[.int .i64 y.c,.int .i64 y.l,.int .i64 y.i,.int .i64 y.s]) (w.drewN q):=fun q=>run_loadAt_cells (w:=w.drewN q) fin_agg fin_size hc1 rfl
   have hL2:∀q,(Instr.loadAt 71 (.pointer (some ⟨b2,o2+j*4,none⟩))).run Tryz.prog (w.drewN q)=.ok (.agg #[.int .i64 y.c,.int .i64 y.l,.int .i64 y.i,.int .i64 y.s]) (w.drewN q):=fun q=>run_loadAt_cells (w:=w.drewN q) fin_agg fin_size hc2 rfl
   have hne:=fun W=>neq_fin y W
   clear hc1 hc2 hl1
   go_wp2
   refine wp_region_quiet_lit (by kernel_rfl) (by kernel_rfl) ?_
   iterate 3 (quiet_step (fail))
   refine Go.BigFrame.wpQuiet_want rfl (fun K hK=>?_)
   refine quietL 71 (.tmp 18) rfl _ _ rfl (by rintro _ ⟨n',rfl⟩;rw [World.drewN_drewN];exact hL1 _) (hK _ ?_)
   clear hK K
   iterate 3 (quiet_step (fail))
   refine Go.BigFrame.wpQuiet_want rfl (fun K hK=>?_)
   refine quietL 71 (.tmp 22) rfl _ _ rfl (by rintro _ ⟨n',rfl⟩;rw [World.drewN_drewN];exact hL2 _) (hK _ ?_)
   clear hK K
   iterate 1 (quiet_step (fail))
   refine wpQuiet_nil ?_
   rintro _ ⟨nq,rfl⟩
   go_wp2
   go_roundw
   case rel=>exact ⟨j+1,_,by omega,by go_num,rfl⟩
   case measure=>simp [intOf];omega
  ·obtain rfl:j=n:=by omega
   go_wp2
   go_ret
   exact BoolB.of (below_drewN (below_self w) _)
end Go.Proofs.YtmhiohnkjpglfaaGreat

namespace Go.Proofs.YtmhiohnkjpglfaaGreat
open Go.RowKit Go.Shelf Plain

def whiE (up:List NodV) (e:EntV):Bool:=decide ((nodAt up e.ino).k=4)
def whitesW (up:List NodV) (i:Int):List EntV:=(nodAt up i).ents.filter (whiE up)
def hidesW (ls:List (List NodV)) (vl:List (Int×Int)) (nm:List UInt8):Bool:=decide ((findL ls nm vl []).1≠0)
def wnamesW (up:List NodV) (i:Int):List (List UInt8):=sortS ((whitesW up i).map EntV.name)
def idleF (u:Int) (e:EntV):FinV:=⟨15,0,u,e.slot⟩
def finW (up:List NodV) (ls:List (List NodV)) (v:ViewV):List FinV:=((whitesW up v.1).filter (fun e=>!hidesW ls v.2 e.name)).map (idleF v.1)
def findW (up:List NodV) (ls:List (List NodV)) (vs:List ViewV):List FinV:=vs.flatMap (finW up ls)
theorem take_filter {α:Type} {p:α→Bool} {l:List α} {i:Nat} {e:α} {b:Bool} (h:l[i]?=some e) (hb:p e=b):(l.take (i+1)).filter p=if b=true then (l.take i).filter p++[e] else (l.take i).filter p:=by
 rw [List.take_add_one,h,Option.toList_some,List.filter_append]
 cases b <;> simp [hb]
theorem whites_len {up:List NodV} (hup:FewU up) (i:Int):(whitesW up i).length≤16:=Nat.le_trans (List.length_filter_le _ _) (nodAt_plain hup.2 i).2.2.2.2.1
theorem entW_info:(Tryz.prog.info? 75).map (fun i=>(i.zero,i.size,i.bytes))=some (some (.agg #[.int .i64 0,.int .i64 0,.string ⟨#[]⟩]),3,32):=by kernel_rfl
theorem litW_ent (x:EntV) (W:World):(Instr.buildSlice 61 1 #[(0,.agg #[.int .i64 x.slot,.int .i64 x.ino,.string ⟨x.name.toArray⟩])]).run Tryz.prog W=.ok (.slice (some ⟨W.heap.size,0,none⟩) 1 1) (W.alloc (.cells #[.int .i64 x.slot,.int .i64 x.ino,.string ⟨x.name.toArray⟩] 75)):=by
 obtain ⟨it,hi,hz,hsz,-⟩:=info_parts entW_info
 refine run_buildSlice W _ 75 1 _ _ it (.agg #[.int .i64 0,.int .i64 0,.string ⟨#[]⟩]) Tryz.underlying61 hi hz (by omega) (by omega) ?_
 rw [hsz]
 have:=Great.fill_whole (s:=3) (by omega) [.agg (cellsE x).toArray] ((Array.range (1*3)).map ((Value.agg #[.int .i64 0,.int .i64 0,.string ⟨#[]⟩]).cells[· % (Value.agg #[.int .i64 0,.int .i64 0,.string ⟨#[]⟩]).cells.size]!)) (by intro v hv;rw [List.mem_singleton] at hv;subst hv;simp [Value.cells,cellsE]) (by simp)
 simpa [Value.cells,cellsE] using this
theorem enc_lit1 {α:Type} {E:Enc α} {x:α} {cs:List Value} (hR:∀w D,E.R w D cs x) (W:World) (t:Nat) {lo:Nat} (hlo:lo≤W.heap.size):RdE E (W.alloc (.cells cs.toArray t)) (fun b=>lo≤b∧b < (W.alloc (.cells cs.toArray t)).heap.size) (some ⟨W.heap.size,0,none⟩) 1 [x]:=by
 refine ⟨rfl,fun _=>⟨_,_,rfl,⟨hlo,by simp⟩,fun i y hy=>⟨cs,?_,fun j v hv=>?_⟩⟩⟩
 ·have hi:i=0:=by have:=(List.getElem?_eq_some_iff.1 hy).1;simpa using this
  subst hi
  obtain rfl:x=y:=by simpa using hy
  exact hR _ _
 ·have hi:i=0:=by have:=(List.getElem?_eq_some_iff.1 hy).1;simpa using this
  subst hi
  rw [Nat.zero_mul,Nat.zero_add,Nat.zero_add,(RowL.new W t cs).cell]
  exact hv
theorem ent_R (x:EntV):∀(w:World) (D:Nat→Prop),entEn.R w D (cellsE x) x:=fun _ _=>⟨[.int .i64 x.slot],[.int .i64 x.ino,.string ⟨x.name.toArray⟩],rfl,rfl,[.int .i64 x.ino],[.string ⟨x.name.toArray⟩],rfl,rfl,rfl⟩
theorem owe_apart {α:Type} {E:Enc α} {W:World} {base e n c g t:Nat} {A:Option Addr} {l:List α} {cs:List Value} (ho:OwE E W base e A n c l) (hr:RowL W g t cs) (h:t≠e):some g≠(Value.slice A n c).ownBlock:=by
 obtain ⟨css,hrow,-⟩:=ho
 exact row_apart hrow hr h
theorem ent_any {w w':World} {D D':Nat→Prop} {cs:List Value} {x:EntV} (h:entEn.R w D cs x):entEn.R w' D' cs x:=by
 rw [ent_cells h]
 exact ent_R x w' D'
theorem own_other {α β:Type} {E:Enc α} {F:Enc β} (hE:∀ {w w':World} {D D':Nat→Prop} {cs:List Value} {x:α},E.R w D cs x→E.R w' D' cs x) {w w':World} {b1 e1 n1 c1 b2 e2 n2 c2:Nat} {A1 A2:Option Addr} {l1:List α} {l2:List β} (h1:OwE E w b1 e1 A1 n1 c1 l1) (h2:OwE F w b2 e2 A2 n2 c2 l2) (he:e2≠e1) (hg:w.grownBy w' (Value.slice A2 n2 c2).ownBlock):OwE E w' b1 e1 A1 n1 c1 l1:=by
 obtain ⟨css,hr,hc,hl⟩:=h1
 obtain ⟨_,hr2,-⟩:=h2
 exact ⟨css,hr.kept hg (owns_apart hr2 hr he),⟨hc.1,fun i cs x h3 h4=>hE (hc.2 i cs x h3 h4)⟩,hl⟩
theorem wpList_append_OwK {α : Type} {E : Enc α} {P : Program} (w : World) {ops : Array Oper} {rest : List Oper} {o : Oper} {a : Act} {Q : Exit → Act → World → Prop} (hgd : o.guard = none) (s x : Operand) (t : TypeId)
  (ho:o.op=.call {callee:=.builtin .append,args:=#[s,x],argTypes:=#[t,t]})
  (base:Nat) (e:TypeId) (z:Value) (k:Nat) (ht:P.underlying t=some (.slice e)) (hinfo:(P.info? e).map (fun i=>(i.zero,i.size,i.bytes))=some (some z,E.k,k)) (hzs:z.cells.size=E.k) (hk:0 < E.k)
  (A0:Option Addr) (n c0:Nat) (l0:List α) (hs:a.eval s=.slice A0 n c0) (hown:OwE E w base e A0 n c0 l0) (D:Nat→Prop) (A:Option Addr) (m c:Nat) (l1:List α) (hx:a.eval x=.slice A m c) (hb:RdE E w D A m l1) (hD:∀b,D b→But w A0 b) (hm:0 < m)
  (N:Nat) (hN:n+m=N) (hbytes:N*k≤140737488355328) (hnm:N≤140737488355328) (hbase:base≤w.heap.size)
  (h:∀A' c' w',OwE E w' base e A' N c' (l0++l1)→Below base w w'→w.grownBy w' (Value.slice A0 n c0).ownBlock→wpList P ops Q rest (a.put o.dst (.slice A' N c')) w'):wpList P ops Q (o::rest) a w :=
 wpList_plain hgd fun _ hK=>wp_append_OwK w s x t ho base e z k ht hinfo hzs hk A0 n c0 l0 hs hown D A m c l1 hx hb hD hm N hN hbytes hnm hbase (fun A' c' w' h1 h2 _ h4=>hK _ _ (h A' c' w' h1 h2 h4))
set_option maxRecDepth 100000 in
set_option maxHeartbeats 4000000 in
theorem WHides_b {g:GeoQ} {AU AL:Option Addr} {nU cU nL cL B:Nat} {up:List NodV} {ls:List (List NodV)} {u:Int} {AV:Option Addr} {nV cV BV:Nat} {vl:List (Int×Int)} {nm:List UInt8} {r:Bool} (hr:hidesW ls vl nm=r) (w:World) (hu:RdE nodEn w (Under B) AU nU up) (h:RdE layEn w (Under B) AL nL ls) (hB:B≤w.heap.size) (hF:FewL ls) (hup:FewU up) (hv:RdE prEn w (Under BV) AV nV vl) (hBV:BV≤w.heap.size) (hnV:nV≤1000):Calls Tryz.prog 78 #[.agg (stkC g (.slice AU nU cU) (.slice AL nL cL)).toArray,.agg (viwC u (.slice AV nV cV)).toArray,.string ⟨nm.toArray⟩] w (BoolB w r):=by
 obtain ⟨W1,hW1⟩:∃W1,((w.alloc (.cells (stkC g (.slice AU nU cU) (.slice AL nL cL)).toArray 29)).alloc (.cells (viwC u (.slice AV nV cV)).toArray 51))=W1:=⟨_,rfl⟩
 obtain ⟨r0,r1,hb1,hs1⟩:=rowA2 w _ _ _ _ hW1
 have hW1':((w.alloc (.cells #[.int .i64 g.a,.int .i64 g.b,.int .i64 g.c,.int .i64 g.d,.slice AU nU cU,.slice AL nL cL] 29)).alloc (.cells #[.int .i64 u,.slice AV nV cV] 51))=W1:=hW1
 have R3:=hide r0
 have R4:=hide r1
 have HB:=hide hb1
 have hsz0:=hb1.size
 have HU:=hide (hu.under hb1 hB)
 have HL:=hide (h.under hb1 hB)
 have HF:=hide hF
 have HFU:=hide hup
 have HV:=hide (hv.under hb1 hBV)
 obtain ⟨⟨K,L⟩,hR⟩:∃R,findL ls nm vl []=R:=⟨_,rfl⟩
 have HR:=hide hR
 have hb:(K != 0)=r:=by
  rw [←hr]
  unfold hidesW
  rw [hR]
  by_cases hk:K=0 <;> simp [hk]
 have q4_1:W1.cell? ⟨w.heap.size+1,1,none⟩=some (.slice AV nV cV):=R4.out.cell 1
 unfold stkC viwC
 clear r0 r1 hb1 hW1 hu h hF hup hv hR hr
 go_enter Tryz.func78,Tryz.ntmps78
 go_wp2_with (first|(refine wpList_loadW rfl 29 (.tmp 3) rfl 6 stk_agg stk_size (w.heap.size) 29 rfl (stkC g (.slice AU nU cU) (.slice AL nL cL)) R3.out rfl ?_)|(go_at_call 124;refine (Find_ev HR.out W1 HL.out (und_up HV.out (by omega)) (by omega) HF.out hnV).mono ?_;rintro e1 wF ⟨A3,c3,rfl,-,h3,hbel⟩;clear h3;clear q4_1;replace HB:=hide (HB.out.trans (hbel.mono HB.out.size));replace R3:=hide (R3.out.on hbel);replace R4:=hide (R4.out.on hbel);replace HU:=hide (HU.out.under hbel (by omega));replace HL:=hide (HL.out.under hbel (by omega));replace HV:=hide (HV.out.under hbel (by omega));have hsz2:=hbel.size;have q4_1:wF.cell? ⟨w.heap.size+1,1,none⟩=some (.slice AV nV cV):=R4.out.cell 1;clear hbel))
 go_ret
 exact BoolB.of HB.out
def EntsO (w:World) (l:List EntV) (e:Ending) (w':World):Prop:=∃A n c,e=.returned (.slice A n c)∧OwE entEn w' w.heap.size 75 A n c l∧Below w.heap.size w w'
set_option maxRecDepth 100000 in
set_option maxHeartbeats 8000000 in
theorem Whites_any {g:GeoQ} {AU AL:Option Addr} {nU cU nL cL B:Nat} {up:List NodV} {u:Int} {AV:Option Addr} {nV cV:Nat} (w:World) (hu:RdE nodEn w (Under B) AU nU up) (hB:B≤w.heap.size) (hup:FewU up):Calls Tryz.prog 81 #[.agg (stkC g (.slice AU nU cU) (.slice AL nL cL)).toArray,.agg (viwC u (.slice AV nV cV)).toArray] w (EntsO w (whitesW up u)):=by
 obtain ⟨W1,hW1⟩:∃W1,((w.alloc (.cells (stkC g (.slice AU nU cU) (.slice AL nL cL)).toArray 29)).alloc (.cells (viwC u (.slice AV nV cV)).toArray 51))=W1:=⟨_,rfl⟩
 obtain ⟨r0,r1,hb1,hs1⟩:=rowA2 w _ _ _ _ hW1
 have hW1':((w.alloc (.cells #[.int .i64 g.a,.int .i64 g.b,.int .i64 g.c,.int .i64 g.d,.slice AU nU cU,.slice AL nL cL] 29)).alloc (.cells #[.int .i64 u,.slice AV nV cV] 51))=W1:=hW1
 have R2:=hide r0
 have R3:=hide r1
 have HB:=hide hb1
 have hsz0:=hb1.size
 have HU:=hide (hu.under hb1 hB)
 have HFU:=hide hup
 obtain ⟨N,hN⟩:∃N,nodAt up u=N:=⟨_,rfl⟩
 have hel:N.ents.length≤16:=by rw [←hN];exact (nodAt_plain hup.2 u).2.2.2.2.1
 have HN:=hide hN
 have HWT:=hide (show whitesW up u=N.ents.filter (whiE up) from by unfold whitesW;rw [hN])
 have q2_4:W1.cell? ⟨w.heap.size,4,none⟩=some (.slice AU nU cU):=R2.out.cell 4
 have q3_0:W1.cell? ⟨w.heap.size+1,0,none⟩=some (.int .i64 u):=R3.out.cell 0
 unfold stkC viwC
 clear r0 r1 hb1 hW1 hu hup hN
 go_enter Tryz.func81,Tryz.ntmps81
 go_wp2_with fail
 go_step3
 go_wp2_with fail
 go_step3
 go_wp2_with (first|(go_at_call 119;refine (Of_e HN.out W1 HU.out (by omega) (by have:=HFU.out.1;omega)).mono ?_;rintro e1 wC ⟨D1,n1,c1,C1,m,d,rfl,-,hD,hmd,hE,hbel⟩;clear hD hmd;clear q2_4 q3_0;replace HB:=hide (HB.out.trans (hbel.mono HB.out.size));replace R2:=hide (R2.out.on hbel);replace R3:=hide (R3.out.on hbel);replace HU:=hide (HU.out.under hbel (by omega));have hsz2:=hbel.size;have q2_4:wC.cell? ⟨w.heap.size,4,none⟩=some (.slice AU nU cU):=R2.out.cell 4;have q3_0:wC.cell? ⟨w.heap.size+1,0,none⟩=some (.int .i64 u):=R3.out.cell 0;have HE:=hide hE;clear hE;have hf5:=nod_f5 N D1 C1 n1 c1 m d;clear hbel))
 have hm16:m≤16:=by have:=HE.out.1;omega
 clear hW1' q2_4 q3_0
 go_loopw [5,15] (fun v5 v15 wr=>∃(i n5:Nat) (A5:Option Addr) (c5:Nat),i≤m∧v15=.int .i64 i∧v5=.slice A5 n5 c5∧n5≤i∧OwE entEn wr W1.heap.size 75 A5 n5 c5 ((N.ents.take i).filter (whiE up))∧Below W1.heap.size wC wr) (fun _ v15 _=>m - (intOf v15).toNat)
 case atStart=>exact ⟨0,0,none,0,by omega,rfl,rfl,by omega,OwE.nil_ _ _ _ _,Below.refl _ _⟩
 case round =>
  obtain ⟨i,n5,A5,c5,hi,rfl,rfl,hn5,ho,hbr⟩:=hrel
  have hbsz:=hbr.size
  have hk1:∀b,b < W1.heap.size→wr.heap[b]?=wC.heap[b]?:=fun b hb=>hbr.block b hb
  have HBR:=hide hbr
  have HO:=hide ho
  replace R2:=hide (show RowL wr w.heap.size _ _ from (hk1 _ (by omega)).trans R2.out)
  replace HU:=hide (HU.out.mono (fun b hb=>hk1 b (Nat.lt_of_lt_of_le hb (by omega))) (fun _ h=>h):RdE nodEn wr (Under B) AU nU up)
  replace HE:=hide (HE.out.mono (fun b hb=>hk1 b (Nat.lt_of_lt_of_le hb (by omega))) (fun _ h=>h):RdE entEn wr (Under B) C1 m N.ents)
  clear ho hbr hk1
  have q2_4:wr.cell? ⟨w.heap.size,4,none⟩=some (.slice AU nU cU):=R2.out.cell 4
  by_cases hlt:i < m
  ·obtain ⟨e,he⟩:∃e,N.ents[i]?=some e:=⟨_,List.getElem?_eq_getElem (by have:=HE.out.1;omega)⟩
   obtain ⟨bE,oE,rfl,hbE,hcE⟩:=ent_get HE.out he
   have HCE:=hide hcE
   obtain ⟨X,hX⟩:∃X,nodAt up e.ino=X:=⟨_,rfl⟩
   have HX:=hide hX
   obtain ⟨b4,hb4⟩:∃b4,whiE up e=b4:=⟨_,rfl⟩
   have HT:=hide (take_filter he hb4)
   have hk4:(X.k != 4)=!b4:=by
    rw [←hb4,←hX]
    unfold whiE
    by_cases hk:(nodAt up e.ino).k=4 <;> simp [hk]
   have him:(i:Int) < (m:Int):=by omega
   clear he hcE hX hb4
   cases b4 with
   | false =>
    have hk5:(X.k != 4)=true:=by rw [hk4];rfl
    clear hk4
    go_wp2_with (first|(refine wpList_loadX rfl 75 (.tmp 17) rfl 3 entw_agg entw_size bE (oE+i*3) rfl (cellsE e) HCE.out rfl ?_)|(refine wpList_storeW rfl 75 (.tmp 7) (.tmp 18) rfl 3 entw_size (wr.heap.size) 75 rfl [.int .i64 0,.int .i64 0,.string ⟨#[]⟩] (cellsE e) rfl (RowL.new wr 75 [.int .i64 0,.int .i64 0,.string ⟨#[]⟩]) rfl rfl (cellsE_one _) ?_;intro wS61 hr61 hg61 hs61;have hzb:=below_stored' hg61;clear q2_4;replace HBR:=hide (HBR.out.trans (hzb.mono (by omega)));replace R2:=hide (R2.out.on hzb);replace HU:=hide (HU.out.under hzb (by omega));replace HO:=hide (HO.out.below hzb);have hsz62:=hzb.size;have q2_4:wS61.cell? ⟨w.heap.size,4,none⟩=some (.slice AU nU cU):=R2.out.cell 4;have RE:=hide hr61;have hlt61:=hr61.lt;have q7_1:wS61.cell? ⟨wr.heap.size,1,none⟩=some (.int .i64 e.ino):=RE.out.cell 1;clear hzb hr61;clear hg61 hs61)|(go_at_call 119;refine (Of_e HX.out wS61 HU.out (by omega) (by have:=HFU.out.1;omega)).mono ?_;rintro e63 wX ⟨D2,n2,c2,C2,m2,d2,rfl,-,hD,hmd,hE2,hbel⟩;clear hD hmd hE2;clear q2_4 q7_1;replace HBR:=hide (HBR.out.trans (hbel.mono (by omega)));replace R2:=hide (R2.out.on hbel);replace HU:=hide (HU.out.under hbel (by omega));replace HO:=hide (HO.out.below hbel);replace RE:=hide (RE.out.on hbel);have hsz64:=hbel.size;have q2_4:wX.cell? ⟨w.heap.size,4,none⟩=some (.slice AU nU cU):=R2.out.cell 4;have q7_1:wX.cell? ⟨wr.heap.size,1,none⟩=some (.int .i64 e.ino):=RE.out.cell 1;have hf0:=nod_f0 X (.slice D2 n2 c2) (.slice C2 m2 d2);clear hbel))
    go_roundw
    case rel=>exact ⟨i+1,n5,A5,c5,by omega,by go_num,rfl,by omega,by rw [HT.out,if_neg (by simp)];exact HO.out,HBR.out⟩
    case measure=>simp [intOf];omega
   | true =>
    have hk5:(X.k != 4)=false:=by rw [hk4];rfl
    clear hk4
    go_wp2_with (first|(refine wpList_loadX rfl 75 (.tmp 17) rfl 3 entw_agg entw_size bE (oE+i*3) rfl (cellsE e) HCE.out rfl ?_)|(refine wpList_storeW rfl 75 (.tmp 7) (.tmp 18) rfl 3 entw_size (wr.heap.size) 75 rfl [.int .i64 0,.int .i64 0,.string ⟨#[]⟩] (cellsE e) rfl (RowL.new wr 75 [.int .i64 0,.int .i64 0,.string ⟨#[]⟩]) rfl rfl (cellsE_one _) ?_;intro wS61 hr61 hg61 hs61;have hzb:=below_stored' hg61;clear q2_4;replace HBR:=hide (HBR.out.trans (hzb.mono (by omega)));replace R2:=hide (R2.out.on hzb);replace HU:=hide (HU.out.under hzb (by omega));replace HO:=hide (HO.out.below hzb);have hsz62:=hzb.size;have q2_4:wS61.cell? ⟨w.heap.size,4,none⟩=some (.slice AU nU cU):=R2.out.cell 4;have RE:=hide hr61;have hlt61:=hr61.lt;have q7_1:wS61.cell? ⟨wr.heap.size,1,none⟩=some (.int .i64 e.ino):=RE.out.cell 1;clear hzb hr61;clear hg61 hs61)|(go_at_call 119;refine (Of_e HX.out wS61 HU.out (by omega) (by have:=HFU.out.1;omega)).mono ?_;rintro e63 wX ⟨D2,n2,c2,C2,m2,d2,rfl,-,hD,hmd,hE2,hbel⟩;clear hD hmd hE2;clear q2_4 q7_1;replace HBR:=hide (HBR.out.trans (hbel.mono (by omega)));replace R2:=hide (R2.out.on hbel);replace HU:=hide (HU.out.under hbel (by omega));replace HO:=hide (HO.out.below hbel);replace RE:=hide (RE.out.on hbel);have hsz64:=hbel.size;have q2_4:wX.cell? ⟨w.heap.size,4,none⟩=some (.slice AU nU cU):=R2.out.cell 4;have q7_1:wX.cell? ⟨wr.heap.size,1,none⟩=some (.int .i64 e.ino):=RE.out.cell 1;have hf0:=nod_f0 X (.slice D2 n2 c2) (.slice C2 m2 d2);have hlit:=litW_ent e wX;clear hbel)|(refine wpList_loadW rfl 75 (.tmp 7) rfl 3 entw_agg entw_size (wr.heap.size) 75 rfl [.int .i64 e.slot,.int .i64 e.ino,.string ⟨e.name.toArray⟩] RE.out rfl ?_)|(at_builtin;refine wpList_append_OwE (E:=entEn) _ rfl (.tmp 26) (.tmp 28) 61 rfl W1.heap.size 75 (.agg #[.int .i64 0,.int .i64 0,.string ⟨#[]⟩]) 32 Tryz.underlying61 entW_info rfl (by decide) A5 n5 c5 _ rfl (HO.out.below (below_new (below_self wX) (.cells (cellsE e).toArray 75))) (fun b=>wX.heap.size≤b∧b < (wX.alloc (.cells (cellsE e).toArray 75)).heap.size) (some ⟨wX.heap.size,0,none⟩) 1 1 [e] rfl (enc_lit1 (ent_R e) wX 75 (Nat.le_refl _)) (fun b hb=>⟨⟨hb.2,fun _ _ _ _=>rfl⟩,fun a ha=>(fun e=>by have h1:=hb.1;rw [e] at h1;have:=OwE.lt HO.out a ha;omega)⟩) (n5+1) rfl (by omega) (by omega) (by simp;omega) ?_;intro A7 c7 w7 ho7 hb7;have HO7:=hide ho7;have HB7:=hide ((HBR.out.alloc (by omega) _).trans hb7);clear ho7 hb7))
    go_roundw
    case rel=>exact ⟨i+1,n5+1,A7,c7,by omega,by go_num,rfl,by omega,by rw [HT.out,if_pos (by simp)];exact HO7.out,HB7.out⟩
    case measure=>simp [intOf];omega
  ·obtain rfl:m=i:=by omega
   have hnlt:¬((m:Int) < (m:Int)):=by omega
   go_wp2_with fail
   go_ret
   have ho:=HO.out
   rw [List.take_of_length_le (by have:=HE.out.1;omega)] at ho
   rw [HWT.out]
   exact ⟨A5,n5,c5,rfl,ho.rebase (by omega),HB.out.trans (HBR.out.mono (by omega))⟩
end Go.Proofs.YtmhiohnkjpglfaaGreat

