import Derived.Test.YtfdbhldnohaopaaGreatVw35
import Derived.Test.YtfdbhldnohaopaaGreatVw27
import Derived.Test.YtfdbhldnohaopaaGreatVw28
import Derived.Test.YtfdbhldnohaopaaGreatVw32
import Derived.Test.YtfdbhldnohaopaaGreatVw29
import Derived.Test.YtfdbhldnohaopaaGreatVw25
import Derived.Test.YtfdbhldnohaopaaGreatVw3
import Derived.Test.YtfdbhldnohaopaaGreatVw2
import Derived.BigQuiet
import Derived.Deep.QuietTactic
import Derived.Test.YtfdbhldnohaopaaGreatVw4
import Derived.StillTailTactics
import Derived.Test.YtfdbhldnohaopaaGreatProg
import Derived.WalkMore
import Derived.ScopeJumps
import Derived.Test.YtfdbhldnohaopaaGreatVw21
import Derived.Test.YtfdbhldnohaopaaGreatVw22
import Derived.Test.YtfdbhldnohaopaaGreatVw11

namespace Go.Proofs.YtfdbhldnohaopaaGreat
open Go.RowKit Go.Shelf Plain

theorem lowStep_kind (ls:List (List NodV)) (vl:List (Int×Int)) (nm:List UInt8):(lowStep ls vl nm).1=(findL ls nm vl []).1:=by
 unfold lowStep noStep
 split
 ·rename_i h;exact h.symm
 ·split
  ·rename_i h;exact h.symm
  ·rfl
theorem shown_mem {up:List NodV} {ls:List (List NodV)} {u:Int} {vl:List (Int×Int)} {nm:List UInt8}:decide (nm∈namesV up ls (u,vl))=((stepV up ls (u,vl) nm).1 != 0):=by
 rw [Bool.eq_iff_iff,decide_eq_true_iff]
 unfold namesV
 rw [List.mem_filter,(sortS_rising _).2]
 constructor
 ·rintro ⟨-,h⟩
  unfold hidV at h
  simpa using h
 ·intro h
  have h0:(stepV up ls (u,vl) nm).1≠0:=by simpa using h
  refine ⟨?_,by unfold hidV;simpa using h0⟩
  unfold allV
  rw [List.mem_append]
  cases ho:firstB up u nm with
  | some e =>
   obtain ⟨-,h1,h2⟩:=firstB_use ho
   exact .inr (List.mem_map.2 ⟨e,h2,h1⟩)
  | none =>
   left
   unfold stepV at h0
   dsimp only at h0
   rw [ho] at h0
   dsimp only at h0
   rw [lowStep_kind] at h0
   have:=told_mem (ls:=ls) (l:=vl) (nm:=nm)
   rw [show ((findL ls nm vl []).1 != 0)=true from by simpa using h0] at this
   exact of_decide_eq_true this
end Go.Proofs.YtfdbhldnohaopaaGreat

namespace Go.Proofs.YtfdbhldnohaopaaGreat
open Go.RowKit Go.Shelf Plain

theorem entW_info:(Tryz.prog.info? 42).map (fun i=>(i.zero,i.size,i.bytes))=some (some (.agg #[.int .i64 0,.int .i64 0,.string ⟨#[]⟩]),3,32):=by kernel_rfl
theorem litW_ent (x:EntV) (W:World):(Instr.buildSlice 32 1 #[(0,.agg #[.int .i64 x.slot,.int .i64 x.ino,.string ⟨x.name.toArray⟩])]).run Tryz.prog W=.ok (.slice (some ⟨W.heap.size,0,none⟩) 1 1) (W.alloc (.cells #[.int .i64 x.slot,.int .i64 x.ino,.string ⟨x.name.toArray⟩] 42)):=by
 obtain ⟨it,hi,hz,hsz,-⟩:=info_parts entW_info
 refine run_buildSlice W _ 42 1 _ _ it (.agg #[.int .i64 0,.int .i64 0,.string ⟨#[]⟩]) Tryz.underlying32 hi hz (by omega) (by omega) ?_
 rw [hsz]
 have:=Great.fill_whole (s:=3) (by omega) [.agg (cellsE x).toArray] ((Array.range (1*3)).map ((Value.agg #[.int .i64 0,.int .i64 0,.string ⟨#[]⟩]).cells[· % (Value.agg #[.int .i64 0,.int .i64 0,.string ⟨#[]⟩]).cells.size]!)) (by intro v hv;rw [List.mem_singleton] at hv;subst hv;simp [Value.cells,cellsE]) (by simp)
 simpa [Value.cells,cellsE] using this
theorem enc_lit1 {α:Type} {E:Enc α} {x:α} {cs:List Value} (hR:∀w D,E.R w D cs x) (W:World) (t:Nat) {lo:Nat} (hlo:lo≤W.heap.size):RdE E (W.alloc (.cells cs.toArray t)) (fun b=>lo≤b∧b < (W.alloc (.cells cs.toArray t)).heap.size) (some ⟨W.heap.size,0,none⟩) 1 [x]:=by
 refine ⟨rfl,fun _=>⟨_,_,rfl,⟨hlo,by simp⟩,fun i y hy=>⟨cs,?_,fun j v hv=>?_⟩⟩⟩
 ·have hi:i=0:=by have:=(List.getElem?_eq_some_iff.1 hy).1;simpa using this
  subst hi
  obtain rfl:x=y:=by simpa using hy
  exact hR _ _
 ·have hi:i=0:=by have:=(List.getElem?_eq_some_iff.1 hy).1;simpa using this
  subst hi
  rw [Nat.zero_mul,Nat.zero_add,Nat.zero_add,(RowL.new W t cs).cell]
  exact hv
theorem ent_R (x:EntV):∀(w:World) (D:Nat→Prop),entEn.R w D (cellsE x) x:=fun _ _=>⟨[.int .i64 x.slot],[.int .i64 x.ino,.string ⟨x.name.toArray⟩],rfl,rfl,[.int .i64 x.ino],[.string ⟨x.name.toArray⟩],rfl,rfl,rfl⟩
theorem ent_any {w w':World} {D D':Nat→Prop} {cs:List Value} {x:EntV} (h:entEn.R w D cs x):entEn.R w' D' cs x:=by
 rw [ent_cells h]
 exact ent_R x w' D'
end Go.Proofs.YtfdbhldnohaopaaGreat

namespace Go.Proofs.YtfdbhldnohaopaaGreat
open Go.RowKit
variable {α : Type} {E : Enc α}

theorem OwE.up [Tags] {w:World} {base b' e n c:Nat} {A:Option Addr} {l:List α} (h:OwE E w base e A n c l) (hb:∀a,A=some a→b'≤a.block):OwE E w b' e A n c l:=by
 obtain ⟨css,⟨h1,h2⟩,h3⟩:=h
 refine ⟨css,⟨h1,?_⟩,h3⟩
 rcases h2 with h2|⟨g,cap,cur,he,hbg,hr⟩
 ·exact .inl h2
 ·refine .inr ⟨g,cap,cur,he,?_,hr⟩
  simp only [Value.slice.injEq] at he
  exact hb _ he.1
def OwL [Tags] (E:Enc α) (w:World) (base lo e:Nat) (A:Option Addr) (n c:Nat) (l:List α):Prop:=OwE E w lo e A n c l∨∃p,A=some ⟨p,0,none⟩∧n=0∧c=0∧l=[]∧OwE E w base e (some ⟨p,0,none⟩) 0 0 []
theorem OwL.below [Tags] {w w':World} {base lo e n c:Nat} {A:Option Addr} {l:List α} (h:OwL E w base lo e A n c l) (hb:Below w.heap.size w w'):OwL E w' base lo e A n c l:=by
 rcases h with h|⟨p,h1,h2,h3,h4,h5⟩
 ·exact .inl (h.below hb)
 ·exact .inr ⟨p,h1,h2,h3,h4,h5.below hb⟩
theorem OwL.read [Tags] {w:World} {base lo e n c:Nat} {A:Option Addr} {l:List α} (h:OwL E w base lo e A n c l) (ht:Tags.bad e=false):RdE E w (Under w.heap.size) A n l:=by
 rcases h with h|⟨p,rfl,rfl,rfl,rfl,-⟩
 ·exact (h.rd ht).plain
 ·exact RdE.none_ _ _ _ _
theorem OwL.len [Tags] {w:World} {base lo e n c:Nat} {A:Option Addr} {l:List α} (h:OwL E w base lo e A n c l):l.length=n:=by
 rcases h with h|⟨p,rfl,rfl,rfl,rfl,-⟩
 ·exact h.len
 ·rfl
end Go.Proofs.YtfdbhldnohaopaaGreat

namespace Go.Proofs.YtfdbhldnohaopaaGreat
open Go.RowKit Plain
variable {α : Type} {E : Enc α}

theorem OwD.len {D:Nat→Prop} {w:World} {base e:Nat} {A:Option Addr} {n c:Nat} {l:List α} (h:OwD E D w base e A n c l):l.length=n:=by
 obtain ⟨css,-,-,h3,-⟩:=h
 exact h3
theorem OwD.row {D:Nat→Prop} {w:World} {base e g n c:Nat} {l:List α} (h:OwD E D w base e (some ⟨g,0,none⟩) n c l):∃css rest,RowL w g e (css.flatten++rest)∧CellsE E w D css l∧css.flatten.length=n*E.k:=by
 obtain ⟨css,hown,hc,hl,hD⟩:=h
 have h1:=hown.1
 rcases hown.2 with ⟨h2,-⟩|⟨g',cap,cur,he,-,hg,-,-,-,ht⟩
 ·simp at h2
 ·simp only [Value.slice.injEq,Option.some.injEq,Addr.mk.injEq,and_true,true_and] at he
  obtain ⟨rfl,rfl⟩:=he
  refine ⟨css,cur.toList.drop (n*E.k),?_,hc,h1⟩
  unfold RowL
  rw [hg,←ht,List.take_append_drop]
theorem OwD.base {D:Nat→Prop} {w:World} {base e g n c:Nat} {l:List α} (h:OwD E D w base e (some ⟨g,0,none⟩) n c l):base≤g∧g < w.heap.size:=by
 obtain ⟨css,hown,-⟩:=h
 exact World.ownsRow.lt hown g rfl
theorem flat_len' : ∀ {css : List (List Value)} {k : Nat}, (∀ cs ∈ css, cs.length = k) → css.flatten.length = css.length * k
 | [],k,_=>by simp
 | c::r,k,h=>by
  have h1:=flat_len' (css:=r) (k:=k) (fun x hx=>h x (List.mem_cons_of_mem _ hx))
  rw [List.flatten_cons,List.length_append,h c List.mem_cons_self,h1,List.length_cons,Nat.succ_mul]
  omega
theorem flat_at {k:Nat}:∀ {css:List (List Value)} (_:∀cs∈css,cs.length=k) (j:Nat) (cs:List Value),css[j]?=some cs→(css.flatten.drop (j*k)).take k=cs:=by
 intro css
 induction css with
 | nil=>intro _ j cs h;simp at h
 | cons c0 r ih =>
  intro hk j cs h
  have h0:c0.length=k:=hk c0 List.mem_cons_self
  cases j with
  | zero =>
   obtain rfl:c0=cs:=by simpa using h
   rw [Nat.zero_mul,List.drop_zero,List.flatten_cons,List.take_left' h0]
  | succ j =>
   have:=ih (fun c hc=>hk c (List.mem_cons_of_mem _ hc)) j cs (by simpa using h)
   rw [List.flatten_cons,show (j+1)*k=c0.length+j*k from by rw [Nat.succ_mul,h0];omega,List.drop_append,List.drop_of_length_le (by omega),Nat.add_sub_cancel_left,List.nil_append]
   exact this
theorem splice_app {L R:List Value} {p:Nat} {cs:List Value} (h:p+cs.length≤L.length):splice (L++R) p cs=splice L p cs++R:=by
 unfold splice
 rw [List.take_append_of_le_length (by omega),List.drop_append_of_le_length (by omega)]
 simp only [List.append_assoc]
theorem OwD.put {D:Nat→Prop} {w w':World} {base e g n c j:Nat} {l:List α} {x:α} {cs cur:List Value} (h:OwD E D w base e (some ⟨g,0,none⟩) n c l) (hj:j < n) (hx:E.R w D cs x) (hcur:RowL w g e cur) (hr:RowL w' g e (splice cur (j*E.k) cs)) (hg:w.grownBy w' (some g)):OwD E D w' base e (some ⟨g,0,none⟩) n c (l.set j x):=by
 obtain ⟨css,hown,hc,hl,hD⟩:=h
 have hlen:=hown.1
 have hcs:cs.length=E.k:=E.len hx
 have hall:∀d∈css,d.length=E.k:=hc.lens
 have hcl:css.length=n:=by rw [hc.1,hl]
 have hk:Kept D w w':=fun b hb=>hg.block b (hD b hb).1 (fun e=>(hD b hb).2 _ rfl (Option.some.inj e))
 rcases hown.2 with ⟨h2,-⟩|⟨g',cap,arr,he,hbg,hga,hnc,hcm,hsz,ht⟩
 ·simp at h2
 simp only [Value.slice.injEq,Option.some.injEq,Addr.mk.injEq,and_true,true_and] at he
 obtain ⟨rfl,rfl⟩:=he
 have ecur:cur=arr.toList:=by
  have:=hga.symm.trans hcur
  injection this with this
  injection this with this
  rw [this]
 have hjk:j*E.k+E.k≤n*E.k:=by
  have:(j+1)*E.k≤n*E.k:=Nat.mul_le_mul_right _ (by omega)
  rw [Nat.succ_mul] at this
  exact this
 have ncap:n*E.k≤c*E.k:=Nat.mul_le_mul_right _ hnc
 have esp:splice cur (j*E.k) cs=(css.set j cs).flatten++arr.toList.drop (n*E.k):=by
  have e1:cur=css.flatten++arr.toList.drop (n*E.k):=by rw [ecur,←ht,List.take_append_drop]
  rw [e1,splice_app (by rw [hlen,hcs];exact hjk),flat_put hall j cs hcs (by omega)]
 rw [esp] at hr
 have hall':∀d∈css.set j cs,d.length=E.k:=fun d hd=>by
  rcases List.mem_or_eq_of_mem_set hd with h1|h1
  ·exact hall d h1
  ·rw [h1];exact hcs
 have hfl:(css.set j cs).flatten.length=n*E.k:=by rw [flat_len' hall',List.length_set,hcl]
 have hal:arr.toList.length=c*E.k:=by rw [Array.length_toList,hsz]
 refine ⟨css.set j cs,⟨hfl,.inr ⟨g,c,_,rfl,hbg,hr,hnc,hcm,?_,?_⟩⟩,⟨by rw [List.length_set,List.length_set,hc.1],fun i ds y hi hy=>?_⟩,by rw [List.length_set,hl],fun b hb=>⟨Nat.lt_of_lt_of_le (hD b hb).1 hg.size,(hD b hb).2⟩⟩
 ·rw [List.size_toArray,List.length_append,hfl,List.length_drop,hal]
  omega
 ·simp only [List.take_left' hfl]
 ·rw [List.getElem?_set] at hi hy
  by_cases hij:j=i
  ·subst hij
   rw [if_pos rfl,if_pos (by omega)] at hi hy
   cases hi;cases hy
   exact E.mono hx hk (fun _ h=>h)
  ·rw [if_neg hij] at hi hy
   exact E.mono (hc.2 i ds y hi hy) hk (fun _ h=>h)
theorem OwD.at {D:Nat→Prop} {w:World} {base e g n c j:Nat} {l:List α} {x:α} (h:OwD E D w base e (some ⟨g,0,none⟩) n c l) (hx:l[j]?=some x):∃cur cs,RowL w g e cur∧E.R w D cs x∧(cur.drop (j*E.k)).take E.k=cs∧j*E.k+E.k≤cur.length:=by
 obtain ⟨css,rest,hr,hc,hf⟩:=h.row
 have hn:=h.len
 have hjn:j < n:=by have:=(List.getElem?_eq_some_iff.1 hx).1;omega
 have hall:∀d∈css,d.length=E.k:=hc.lens
 obtain ⟨cs,hcs⟩:∃cs,css[j]?=some cs:=⟨_,List.getElem?_eq_getElem (by rw [hc.1];omega)⟩
 have hR:=hc.2 j cs x hcs hx
 have hjk:j*E.k+E.k≤n*E.k:=by
  have:(j+1)*E.k≤n*E.k:=Nat.mul_le_mul_right _ (by omega)
  rw [Nat.succ_mul] at this
  exact this
 refine ⟨_,cs,hr,hR,?_,by rw [List.length_append,hf];omega⟩
 have hc0:cs.length=E.k:=E.len hR
 have hfl:=flat_at hall j cs hcs
 rw [List.drop_append_of_le_length (by omega),List.take_append_of_le_length (by rw [List.length_drop];omega)]
 exact hfl
theorem OwD.rd {α:Type} {E:Enc α} {D:Nat→Prop} {w:World} {base e n c:Nat} {A:Option Addr} {l:List α} (h:OwD E D w base e A n c l):RdE E w (Under w.heap.size) A n l:=(h.own.rd rfl).plain
theorem OwD.some_ {α:Type} {E:Enc α} {D:Nat→Prop} {w:World} {base e n c:Nat} {A:Option Addr} {l:List α} (h:OwD E D w base e A n c l) (hn:0 < n):∃g,A=some ⟨g,0,none⟩∧base≤g∧g < w.heap.size:=by
 obtain ⟨css,hown,-⟩:=h
 rcases hown.2 with ⟨-,h0⟩|⟨g,cap,cur,he,hb,hg,-⟩
 ·omega
 ·simp only [Value.slice.injEq] at he
  exact ⟨g,he.1,hb,RowL.lt (cs:=cur.toList) (by unfold RowL;exact hg)⟩
theorem OwD.cap_ {D:Nat→Prop} {w:World} {base e n c:Nat} {A:Option Addr} {l:List α} (h:OwD E D w base e A n c l):n≤c:=by
 obtain ⟨css,hown,-⟩:=h
 rcases hown.2 with ⟨h1,h0⟩|⟨g,cap,cur,he,-,-,h1,-⟩
 ·omega
 ·simp only [Value.slice.injEq] at he
  rw [he.2.2];exact h1
theorem OwE.cap_ {w:World} {base e n c:Nat} {A:Option Addr} {l:List α} (h:OwE E w base e A n c l):n≤c:=by
 obtain ⟨css,hown,-⟩:=h
 rcases hown.2 with ⟨h1,h0⟩|⟨g,cap,cur,he,-,-,h1,-⟩
 ·omega
 ·simp only [Value.slice.injEq] at he
  rw [he.2.2];exact h1
theorem OwE.baseP {w:World} {base e n c:Nat} {A:Option Addr} {l:List α} (h:OwE E w base e A n c l):∀a,A=some a→base≤a.block:=by
 intro a ha
 obtain ⟨css,hown,-⟩:=h
 subst ha
 exact (World.ownsRow.lt hown a.block rfl).1
end Go.Proofs.YtfdbhldnohaopaaGreat

