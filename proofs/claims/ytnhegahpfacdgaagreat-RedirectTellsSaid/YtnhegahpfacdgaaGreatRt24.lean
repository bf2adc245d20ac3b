import Derived.Test.YtnhegahpfacdgaaGreatRt19
import Derived.Test.YtnhegahpfacdgaaGreatRt20
import Derived.Test.YtnhegahpfacdgaaGreatRt23
import Derived.Test.YtnhegahpfacdgaaGreatRt2
import Derived.Test.YtnhegahpfacdgaaGreatRt9
import Derived.Test.YtnhegahpfacdgaaGreatRt10
import Derived.Test.YtnhegahpfacdgaaGreatRt11
import Derived.Test.YtnhegahpfacdgaaGreatRt17
import Derived.Test.YtnhegahpfacdgaaGreatRt1
import Derived.Lib.SlicesCompact
import Derived.Sort.Row
import Derived.Sort.OwnSorted
import Derived.Lib.RowBridge
import Derived.Test.YtnhegahpfacdgaaGreatRt4

namespace Go.Proofs.YtnhegahpfacdgaaGreat
open Go.RowKit Go.Shelf Plain

def TwoS (Wx:World) (base r5 t5 k5 r6 t6 k6:Nat) (W:World):Prop:=(∀b,b < Wx.heap.size→b≠r5→b≠r6→W.heap[b]?=Wx.heap[b]?)∧(∃cu,RowL W r5 t5 cu∧cu.length=k5)∧(∃cu,RowL W r6 t6 cu∧cu.length=k6)∧Below base Wx W
theorem TwoS.start {Wx:World} {base r5 t5 k5 r6 t6 k6:Nat} {c5 c6:List Value} (h5:RowL Wx r5 t5 c5) (l5:c5.length=k5) (h6:RowL Wx r6 t6 c6) (l6:c6.length=k6):TwoS Wx base r5 t5 k5 r6 t6 k6 Wx.drew :=
 ⟨fun _ _ _ _=>rfl,⟨c5,h5,l5⟩,⟨c6,h6,l6⟩,⟨rfl,rfl,rfl,Nat.le_refl _,fun _ _=>rfl⟩⟩
theorem TwoS.on {Wx W W':World} {base r5 t5 k5 r6 t6 k6:Nat} (h:TwoS Wx base r5 t5 k5 r6 t6 k6 W) (hb:Below W.heap.size W W') (hbx:base≤Wx.heap.size):TwoS Wx base r5 t5 k5 r6 t6 k6 W':=by
 obtain ⟨p1,⟨c5,p2,l5⟩,⟨c6,p3,l6⟩,p4⟩:=h
 exact ⟨fun b h0 h1 h2=>(hb.block b (Nat.lt_of_lt_of_le h0 p4.size)).trans (p1 b h0 h1 h2),⟨c5,p2.on hb,l5⟩,⟨c6,p3.on hb,l6⟩,p4.trans (hb.mono (Nat.le_trans hbx p4.size))⟩
theorem TwoS.row {Wx W:World} {base r5 t5 k5 r6 t6 k6 g t:Nat} {cs:List Value} (h:TwoS Wx base r5 t5 k5 r6 t6 k6 W) (hr:RowL Wx g t cs) (h5:g≠r5) (h6:g≠r6):RowL W g t cs:=(h.1 g hr.lt h5 h6).trans hr
section
variable {P : Program} {T T' k k' : Nat}
end
end Go.Proofs.YtnhegahpfacdgaaGreat

namespace Go.Proofs.YtnhegahpfacdgaaGreat
open Go.RowKit Go.Shelf Plain

abbrev RawS:=Int×(Option Addr×Nat×Nat)×List UInt8
end Go.Proofs.YtnhegahpfacdgaaGreat

namespace Go.Proofs.YtnhegahpfacdgaaGreat
open Go.RowKit Plain
variable {α : Type} {E : Enc α}

def OwD (E:Enc α) (D:Nat→Prop) (w:World) (base e:Nat) (A:Option Addr) (n c:Nat) (l:List α):Prop:=∃css,w.ownsRow base e E.k (.slice A n c) n css.flatten∧CellsE E w D css l∧l.length=n∧∀b,D b→b < w.heap.size∧∀a,A=some a→b≠a.block
theorem OwD.empty (E:Enc α) (w:World) (e:Nat):OwD E (fun _=>False) (w.alloc (.cells #[] e)) w.heap.size e (some ⟨w.heap.size,0,none⟩) 0 0 [] :=
 ⟨[],World.ownsRow_lit w #[] 0 (Nat.le_refl _) (by simp [maxLen]) (by simp),⟨rfl,fun i cs x h=>by simp at h⟩,rfl,fun _ h=>h.elim⟩
theorem OwD.grown {D:Nat→Prop} {w w':World} {base e n c:Nat} {A:Option Addr} {l:List α} {r:Option Nat} (h:OwD E D w base e A n c l) (hg:w.grownBy w' r) (hne:∀g,r=some g→¬D g∧∀a,A=some a→a.block≠g):OwD E D w' base e A n c l:=by
 obtain ⟨css,hown,hc,hl,hD⟩:=h
 have hk:Kept D w w':=fun b hb=>hg.block b (hD b hb).1 (fun e=>(hne b e.symm).1 hb)
 refine ⟨css,hown.kept hg ?_,hc.mono hk (fun _ h=>h),hl,fun b hb=>⟨Nat.lt_of_lt_of_le (hD b hb).1 hg.size,(hD b hb).2⟩⟩
 cases A with
 | none=>exact .inl rfl
 | some a=>exact .inr (fun e=>(hne a.block (by rw [←e];rfl)).2 a rfl rfl)
theorem run_append_OwD {P : Program} (w : World) (base : Nat) (t ty e : TypeId) (z : Value) (k : Nat) (ht : P.underlying t = some (.slice e)) (hinfo : (P.info? e).map (fun i => (i.zero, i.size, i.bytes)) = some (some z, E.k, k)) (hzs : z.cells.size = E.k) (hk : 0 < E.k)
  (D0:Nat→Prop) (A0:Option Addr) (n c0:Nat) (l0:List α) (hown:OwD E D0 w base e A0 n c0 l0) (D:Nat→Prop) (A:Option Addr) (m c:Nat) (l1:List α) (hb:RdE E w D A m l1) (hD:∀b,D b→b < w.heap.size∧∀a,A0=some a→b≠a.block)
  (hbytes:(n+m)*k≤140737488355328) (hnm:n+m≤140737488355328) (hbase:base≤w.heap.size) :
  ∃A' c' w',(Builtin.append_ #[t,t] ty #[.slice A0 n c0,.slice A m c]).run P w=.ok (.slice A' (n+m) c') w'∧OwD E (fun b=>D0 b∨D b) w' base e A' (n+m) c' (l0++l1)∧Below base w w':=by
 obtain ⟨css,hrow,hc,hl,hD0⟩:=hown
 obtain ⟨v',w',dss,hr,h2,h3,h4,h5,h6⟩:=run_append_E (P:=P) w base t ty e z k ht hinfo hzs hk _ n css hrow D A m c l1 hb hbytes hnm hbase
 have hv:∃A' c',v'=.slice A' (n+m) c':=by
  rcases h2.2 with ⟨rfl,h0⟩|⟨g,cap,cur,rfl,_⟩
  ·exact ⟨none,0,by rw [h0]⟩
  ·exact ⟨_,_,rfl⟩
 obtain ⟨A',c',rfl⟩:=hv
 have hall:∀b,(D0 b∨D b)→b < w.heap.size∧∀a,A0=some a→b≠a.block:=fun b hb=>hb.elim (hD0 b) (hD b)
 have hkept:Kept (fun b=>D0 b∨D b) w w':=by
  intro b hb
  refine h5.block b (hall b hb).1 ?_
  intro e
  cases A0 with
  | none=>simp [Value.ownBlock] at e
  | some a =>
   have:b=a.block:=by simpa [Value.ownBlock] using e
   exact (hall b hb).2 a rfl this
 refine ⟨A',c',w',hr,⟨css++dss,h2,?_,by rw [List.length_append,hl,hb.1],fun b hb=>⟨Nat.lt_of_lt_of_le (hall b hb).1 h4.size,fun a ha e=>?_⟩⟩,h4⟩
 ·exact (hc.mono (fun b hb=>hkept b (.inl hb)) (fun _ hb=>.inl hb)).append (h3.mono (fun b hb=>hkept b (.inr hb)) (fun _ hb=>.inr hb))
 ·subst ha
  rcases h6 with h6|h6
  ·cases A0 with
   | none=>simp [Value.ownBlock] at h6
   | some a0 =>
    have e2:a.block=a0.block:=by simpa [Value.ownBlock] using h6
    exact (hall b hb).2 a0 rfl (e.trans e2)
  ·have h7:=h6 a.block rfl
   have h8:=(hall b hb).1
   omega
theorem OwD.own {D:Nat→Prop} {w:World} {base e n c:Nat} {A:Option Addr} {l:List α} (h:OwD E D w base e A n c l):OwE E w base e A n c l:=by
 obtain ⟨css,h1,h2,h3,h4⟩:=h
 exact ⟨css,h1,h2.mono (fun _ _=>rfl) (fun b hb=>⟨⟨(h4 b hb).1,fun _ _ _ _=>rfl⟩,(h4 b hb).2⟩),h3⟩
theorem OwD.nil_ (E:Enc α) {D:Nat→Prop} (w:World) (base e:Nat) (hD:∀b,D b→b < w.heap.size):OwD E D w base e none 0 0 [] :=
 ⟨[],⟨by simp,.inl ⟨rfl,rfl⟩⟩,⟨rfl,fun i cs x h=>by simp at h⟩,rfl,fun b hb=>⟨hD b hb,fun a ha=>by cases ha⟩⟩
theorem OwD.lt {D:Nat→Prop} {w:World} {base e n c:Nat} {A:Option Addr} {l:List α} (h:OwD E D w base e A n c l):∀a,A=some a→a.block < w.heap.size:=by
 obtain ⟨css,h1,-⟩:=h
 intro a ha
 rcases h1.2 with ⟨h2,-⟩|⟨g,cap,cur,he,-,hg,-⟩
 ·simp only [Value.slice.injEq] at h2
  rw [h2.1] at ha;cases ha
 ·simp only [Value.slice.injEq] at he
  rw [he.1] at ha
  cases ha
  rcases Nat.lt_or_ge g w.heap.size with hlt|hge
  ·exact hlt
  ·rw [Array.getElem?_eq_none hge] at hg;cases hg
end Go.Proofs.YtnhegahpfacdgaaGreat

namespace Go.Proofs.YtnhegahpfacdgaaGreat
open Go.RowKit Plain
variable {α : Type} {E : Enc α}

theorem OwD.len {D:Nat→Prop} {w:World} {base e:Nat} {A:Option Addr} {n c:Nat} {l:List α} (h:OwD E D w base e A n c l):l.length=n:=by
 obtain ⟨css,-,-,h3,-⟩:=h
 exact h3
theorem OwD.row {D:Nat→Prop} {w:World} {base e g n c:Nat} {l:List α} (h:OwD E D w base e (some ⟨g,0,none⟩) n c l):∃css rest,RowL w g e (css.flatten++rest)∧CellsE E w D css l∧css.flatten.length=n*E.k:=by
 obtain ⟨css,hown,hc,hl,hD⟩:=h
 have h1:=hown.1
 rcases hown.2 with ⟨h2,-⟩|⟨g',cap,cur,he,-,hg,-,-,-,ht⟩
 ·simp at h2
 ·simp only [Value.slice.injEq,Option.some.injEq,Addr.mk.injEq,and_true,true_and] at he
  obtain ⟨rfl,rfl⟩:=he
  refine ⟨css,cur.toList.drop (n*E.k),?_,hc,h1⟩
  unfold RowL
  rw [hg,←ht,List.take_append_drop]
theorem OwD.base {D:Nat→Prop} {w:World} {base e g n c:Nat} {l:List α} (h:OwD E D w base e (some ⟨g,0,none⟩) n c l):base≤g∧g < w.heap.size:=by
 obtain ⟨css,hown,-⟩:=h
 exact World.ownsRow.lt hown g rfl
theorem flat_len' : ∀ {css : List (List Value)} {k : Nat}, (∀ cs ∈ css, cs.length = k) → css.flatten.length = css.length * k
 | [],k,_=>by simp
 | c::r,k,h=>by
  have h1:=flat_len' (css:=r) (k:=k) (fun x hx=>h x (List.mem_cons_of_mem _ hx))
  rw [List.flatten_cons,List.length_append,h c List.mem_cons_self,h1,List.length_cons,Nat.succ_mul]
  omega
theorem flat_at {k:Nat}:∀ {css:List (List Value)} (_:∀cs∈css,cs.length=k) (j:Nat) (cs:List Value),css[j]?=some cs→(css.flatten.drop (j*k)).take k=cs:=by
 intro css
 induction css with
 | nil=>intro _ j cs h;simp at h
 | cons c0 r ih =>
  intro hk j cs h
  have h0:c0.length=k:=hk c0 List.mem_cons_self
  cases j with
  | zero =>
   obtain rfl:c0=cs:=by simpa using h
   rw [Nat.zero_mul,List.drop_zero,List.flatten_cons,List.take_left' h0]
  | succ j =>
   have:=ih (fun c hc=>hk c (List.mem_cons_of_mem _ hc)) j cs (by simpa using h)
   rw [List.flatten_cons,show (j+1)*k=c0.length+j*k from by rw [Nat.succ_mul,h0];omega,List.drop_append,List.drop_of_length_le (by omega),Nat.add_sub_cancel_left,List.nil_append]
   exact this
theorem splice_app {L R:List Value} {p:Nat} {cs:List Value} (h:p+cs.length≤L.length):splice (L++R) p cs=splice L p cs++R:=by
 unfold splice
 rw [List.take_append_of_le_length (by omega),List.drop_append_of_le_length (by omega)]
 simp only [List.append_assoc]
theorem OwD.put {D:Nat→Prop} {w w':World} {base e g n c j:Nat} {l:List α} {x:α} {cs cur:List Value} (h:OwD E D w base e (some ⟨g,0,none⟩) n c l) (hj:j < n) (hx:E.R w D cs x) (hcur:RowL w g e cur) (hr:RowL w' g e (splice cur (j*E.k) cs)) (hg:w.grownBy w' (some g)):OwD E D w' base e (some ⟨g,0,none⟩) n c (l.set j x):=by
 obtain ⟨css,hown,hc,hl,hD⟩:=h
 have hlen:=hown.1
 have hcs:cs.length=E.k:=E.len hx
 have hall:∀d∈css,d.length=E.k:=hc.lens
 have hcl:css.length=n:=by rw [hc.1,hl]
 have hk:Kept D w w':=fun b hb=>hg.block b (hD b hb).1 (fun e=>(hD b hb).2 _ rfl (Option.some.inj e))
 rcases hown.2 with ⟨h2,-⟩|⟨g',cap,arr,he,hbg,hga,hnc,hcm,hsz,ht⟩
 ·simp at h2
 simp only [Value.slice.injEq,Option.some.injEq,Addr.mk.injEq,and_true,true_and] at he
 obtain ⟨rfl,rfl⟩:=he
 have ecur:cur=arr.toList:=by
  have:=hga.symm.trans hcur
  injection this with this
  injection this with this
  rw [this]
 have hjk:j*E.k+E.k≤n*E.k:=by
  have:(j+1)*E.k≤n*E.k:=Nat.mul_le_mul_right _ (by omega)
  rw [Nat.succ_mul] at this
  exact this
 have ncap:n*E.k≤c*E.k:=Nat.mul_le_mul_right _ hnc
 have esp:splice cur (j*E.k) cs=(css.set j cs).flatten++arr.toList.drop (n*E.k):=by
  have e1:cur=css.flatten++arr.toList.drop (n*E.k):=by rw [ecur,←ht,List.take_append_drop]
  rw [e1,splice_app (by rw [hlen,hcs];exact hjk),flat_put hall j cs hcs (by omega)]
 rw [esp] at hr
 have hall':∀d∈css.set j cs,d.length=E.k:=fun d hd=>by
  rcases List.mem_or_eq_of_mem_set hd with h1|h1
  ·exact hall d h1
  ·rw [h1];exact hcs
 have hfl:(css.set j cs).flatten.length=n*E.k:=by rw [flat_len' hall',List.length_set,hcl]
 have hal:arr.toList.length=c*E.k:=by rw [Array.length_toList,hsz]
 refine ⟨css.set j cs,⟨hfl,.inr ⟨g,c,_,rfl,hbg,hr,hnc,hcm,?_,?_⟩⟩,⟨by rw [List.length_set,List.length_set,hc.1],fun i ds y hi hy=>?_⟩,by rw [List.length_set,hl],fun b hb=>⟨Nat.lt_of_lt_of_le (hD b hb).1 hg.size,(hD b hb).2⟩⟩
 ·rw [List.size_toArray,List.length_append,hfl,List.length_drop,hal]
  omega
 ·simp only [List.take_left' hfl]
 ·rw [List.getElem?_set] at hi hy
  by_cases hij:j=i
  ·subst hij
   rw [if_pos rfl,if_pos (by omega)] at hi hy
   cases hi;cases hy
   exact E.mono hx hk (fun _ h=>h)
  ·rw [if_neg hij] at hi hy
   exact E.mono (hc.2 i ds y hi hy) hk (fun _ h=>h)
theorem OwD.at {D:Nat→Prop} {w:World} {base e g n c j:Nat} {l:List α} {x:α} (h:OwD E D w base e (some ⟨g,0,none⟩) n c l) (hx:l[j]?=some x):∃cur cs,RowL w g e cur∧E.R w D cs x∧(cur.drop (j*E.k)).take E.k=cs∧j*E.k+E.k≤cur.length:=by
 obtain ⟨css,rest,hr,hc,hf⟩:=h.row
 have hn:=h.len
 have hjn:j < n:=by have:=(List.getElem?_eq_some_iff.1 hx).1;omega
 have hall:∀d∈css,d.length=E.k:=hc.lens
 obtain ⟨cs,hcs⟩:∃cs,css[j]?=some cs:=⟨_,List.getElem?_eq_getElem (by rw [hc.1];omega)⟩
 have hR:=hc.2 j cs x hcs hx
 have hjk:j*E.k+E.k≤n*E.k:=by
  have:(j+1)*E.k≤n*E.k:=Nat.mul_le_mul_right _ (by omega)
  rw [Nat.succ_mul] at this
  exact this
 refine ⟨_,cs,hr,hR,?_,by rw [List.length_append,hf];omega⟩
 have hc0:cs.length=E.k:=E.len hR
 have hfl:=flat_at hall j cs hcs
 rw [List.drop_append_of_le_length (by omega),List.take_append_of_le_length (by rw [List.length_drop];omega)]
 exact hfl
theorem OwD.base8 {α:Type} {E:Enc α} {D:Nat→Prop} {w:World} {base e n c:Nat} {A:Option Addr} {l:List α} (h:OwD E D w base e A n c l):∀a,A=some a→base≤a.block:=by
 intro a ha
 obtain ⟨css,hown,-⟩:=h
 subst ha
 exact (World.ownsRow.lt hown a.block rfl).1
theorem OwD.rd {α:Type} {E:Enc α} {D:Nat→Prop} {w:World} {base e n c:Nat} {A:Option Addr} {l:List α} (h:OwD E D w base e A n c l):RdE E w (Under w.heap.size) A n l:=(h.own.rd rfl).plain
end Go.Proofs.YtnhegahpfacdgaaGreat

namespace Go.Proofs.YtnhegahpfacdgaaGreat
open Go.RowKit Go.Shelf Plain

set_option maxRecDepth 100000 in
theorem plcs_size:∀w,(Go.sizeOf 39).run Tryz.prog w=.ok 1 w:=fun w=>by kernel_rfl
set_option maxRecDepth 100000 in
set_option maxHeartbeats 4000000 in
theorem VRoot_any {g:GeoQ} {AU AL:Option Addr} {nU cU nL cL B:Nat} {up:List NodV} {ls:List (List NodV)} (w:World) (hu:RdE nodEn w (Under B) AU nU up) (h:RdE layEn w (Under B) AL nL ls) (hB:B≤w.heap.size) (hF:FewL ls) (hup:FewX up):Calls Tryz.prog 61 #[.agg (stkC g (.slice AU nU cU) (.slice AL nL cL)).toArray] w (ViewF w.heap.size w (rootV up ls)):=by
 obtain ⟨W1,hW1⟩:∃W1,(((w.alloc (.cells (stkC g (.slice AU nU cU) (.slice AL nL cL)).toArray 29)).alloc (.cells (viwC 0 (.slice none 0 0)).toArray 80)).alloc (.cells (viwC 0 (.slice none 0 0)).toArray 80))=W1:=⟨_,rfl⟩
 obtain ⟨r0,r1,r2,hb1,hs1⟩:=rowA3 w _ _ _ _ _ _ hW1
 have hW1':(((w.alloc (.cells #[.int .i64 g.a,.int .i64 g.b,.int .i64 g.c,.int .i64 g.d,.slice AU nU cU,.slice AL nL cL] 29)).alloc (.cells #[.int .i64 0,.slice none 0 0] 80)).alloc (.cells #[.int .i64 0,.slice none 0 0] 80))=W1:=hW1
 have R1:=hide r0
 have R2:=hide r1
 have R3:=hide r2
 have HB:=hide hb1
 have hsz0:=hb1.size
 have HU:=hide (hu.under hb1 hB)
 have HL:=hide (h.under hb1 hB)
 have HF:=hide hF
 have HFU:=hide hup
 obtain ⟨x,hx⟩:∃x,nodAt up 1=x:=⟨_,rfl⟩
 have HX:=hide hx
 obtain ⟨V,hV⟩:∃V,rootV up ls=V:=⟨_,rfl⟩
 rw [hV]
 have hatt:0≤x.att.h∧x.att.h≤31:=by rw [←hx];exact (nodAt_plainX hup.2 1).2.2.1
 obtain ⟨bo,hbo⟩:∃bo,opqD x=bo:=⟨_,rfl⟩
 have HOP:=hide hbo
 have q1_4:W1.cell? ⟨w.heap.size,4,none⟩=some (.slice AU nU cU):=R1.out.cell 4
 unfold rootV at hV
 rw [hx,hbo] at hV
 unfold stkC
 by_cases hk:x.k=1
 ·rw [if_pos hk] at hV
  have hk1:(x.k==1)=true:=by simpa using hk
  have hk2:(x.k != 1)=false:=by simpa using hk
  cases bo
  ·have HV:=hide (show V=(1,rootsL ls 0) from by simpa using hV.symm)
   clear r0 r1 r2 hb1 hW1 hu h hup hF hV hx hbo hk
   go_enter Tryz.func61,Tryz.ntmps61
   go_wp2_with (first|(go_at_call 63;refine (Of_e HX.out W1 HU.out (by omega) (by have:=HFU.out.1;omega)).mono ?_;rintro e1 wN ⟨A1,n1,c1,C1,m1,d1,rfl,-,-,-,-,hbel⟩;clear q1_4;replace HB:=hide (HB.out.trans (hbel.mono HB.out.size));replace R1:=hide (R1.out.on hbel);replace R2:=hide (R2.out.on hbel);replace R3:=hide (R3.out.on hbel);replace HU:=hide (HU.out.under hbel (by omega));replace HL:=hide (HL.out.under hbel (by omega));have hsz2:=hbel.size;have q1_4:wN.cell? ⟨w.heap.size,4,none⟩=some (.slice AU nU cU):=R1.out.cell 4;clear hbel)|(refine wpList_storeW rfl 65 (.tmp 4) (.tmp 7) rfl 13 nod_size (wN.heap.size) 65 rfl (nodC nod0 (.slice none 0 0) (.slice none 0 0)) (nodC x (.slice A1 n1 c1) (.slice C1 m1 d1)) rfl (RowL.new wN 65 (nodC nod0 (.slice none 0 0) (.slice none 0 0))) rfl rfl (nodC_one _ _ _ _ _ _ _) ?_;intro wS3 hr3 hg3 hs3;have hzb:=below_stored' hg3;clear q1_4;replace HB:=hide (HB.out.trans (hzb.mono HB.out.size));replace R1:=hide (R1.out.on hzb);replace R2:=hide (R2.out.on hzb);replace R3:=hide (R3.out.on hzb);replace HU:=hide (HU.out.under hzb (by omega));replace HL:=hide (HL.out.under hzb (by omega));have hsz4:=hzb.size;have q1_4:wS3.cell? ⟨w.heap.size,4,none⟩=some (.slice AU nU cU):=R1.out.cell 4;have RN:=hide hr3;have hlt3:=hr3.lt;have q4_0:wS3.cell? ⟨wN.heap.size,0,none⟩=some (.int .i64 x.k):=RN.out.cell 0;clear hzb hr3;clear hg3 hs3)|(refine wpList_storeV rfl 3 (.tmp 11) (Operand.const (Value.int IntKind.i64 1)) rfl int_size (w.heap.size+1+1) 0 80 rfl (.int .i64 1) rfl rfl rfl (viwC 0 (.slice none 0 0)) R3.out (by show 0 < 2;omega) ?_;intro wS5 hr5 hg5 hs5;replace hr5:RowL wS5 (w.heap.size+1+1) 80 [.int .i64 1,.slice none 0 0]:=hr5;clear q1_4 q4_0;replace HB:=hide (HB.out.grown hg5 (by omega) (pu4 (by omega)));replace R1:=hide (R1.out.grown hg5 (pu5 (by omega)));replace R2:=hide (R2.out.grown hg5 (pu5 (by omega)));replace HU:=hide (und_grown HU.out hg5 (by omega) (by omega));replace HL:=hide (und_grown HL.out hg5 (by omega) (by omega));replace RN:=hide (RN.out.grown hg5 (pu5 (by omega)));have hsz6:=hg5.size;replace R3:=hide hr5;have q1_4:wS5.cell? ⟨w.heap.size,4,none⟩=some (.slice AU nU cU):=R1.out.cell 4;have q4_0:wS5.cell? ⟨wN.heap.size,0,none⟩=some (.int .i64 x.k):=RN.out.cell 0;clear hr5 hg5 hs5)|(refine wpList_loadW rfl 65 (.tmp 4) rfl 13 nod_agg nod_size (wN.heap.size) 65 rfl (nodC x (.slice A1 n1 c1) (.slice C1 m1 d1)) RN.out rfl ?_)|(go_at_call 65;refine (VOpq_b HOP.out hatt.1 hatt.2 wS5).mono ?_;rintro e7 wO ⟨rfl,hbel⟩;clear q1_4 q4_0;replace HB:=hide (HB.out.trans (hbel.mono HB.out.size));replace R1:=hide (R1.out.on hbel);replace R2:=hide (R2.out.on hbel);replace R3:=hide (R3.out.on hbel);replace HU:=hide (HU.out.under hbel (by omega));replace HL:=hide (HL.out.under hbel (by omega));replace RN:=hide (RN.out.on hbel);have hsz8:=hbel.size;have q1_4:wO.cell? ⟨w.heap.size,4,none⟩=some (.slice AU nU cU):=R1.out.cell 4;have q4_0:wO.cell? ⟨wN.heap.size,0,none⟩=some (.int .i64 x.k):=RN.out.cell 0;clear hbel)|(refine wpList_loadW rfl 29 (.tmp 1) rfl 6 stk_agg stk_size (w.heap.size) 29 rfl (stkC g (.slice AU nU cU) (.slice AL nL cL)) R1.out rfl ?_)|(go_at_call 86;refine (Roots_f wO (und_up HL.out (by omega)) HF.out).mono ?_;rintro e9 wR ⟨A6,c6,rfl,h6,hbel⟩;clear q1_4 q4_0;replace HB:=hide (HB.out.trans (hbel.mono HB.out.size));replace R1:=hide (R1.out.on hbel);replace R2:=hide (R2.out.on hbel);replace R3:=hide (R3.out.on hbel);replace HU:=hide (HU.out.under hbel (by omega));replace HL:=hide (HL.out.under hbel (by omega));replace RN:=hide (RN.out.on hbel);have hsz10:=hbel.size;have q1_4:wR.cell? ⟨w.heap.size,4,none⟩=some (.slice AU nU cU):=R1.out.cell 4;have q4_0:wR.cell? ⟨wN.heap.size,0,none⟩=some (.int .i64 x.k):=RN.out.cell 0;have H6:=hide h6;clear h6;clear hbel)|(refine wpList_storeV rfl 39 (.tmp 17) (.tmp 16) rfl plcs_size (w.heap.size+1+1) 1 80 rfl (.slice A6 (rootsL ls 0).length c6) rfl rfl rfl [.int .i64 1,.slice none 0 0] R3.out (by show 1 < 2;omega) ?_;intro wS11 hr11 hg11 hs11;replace hr11:RowL wS11 (w.heap.size+1+1) 80 [.int .i64 1,.slice A6 (rootsL ls 0).length c6]:=hr11;clear q1_4 q4_0;replace HB:=hide (HB.out.grown hg11 (by omega) (pu4 (by omega)));replace R1:=hide (R1.out.grown hg11 (pu5 (by omega)));replace R2:=hide (R2.out.grown hg11 (pu5 (by omega)));replace HU:=hide (und_grown HU.out hg11 (by omega) (by omega));replace HL:=hide (und_grown HL.out hg11 (by omega) (by omega));replace RN:=hide (RN.out.grown hg11 (pu5 (by omega)));replace H6:=hide (fr_grown H6.out hg11 (by omega));have hsz12:=hg11.size;replace R3:=hide hr11;have q1_4:wS11.cell? ⟨w.heap.size,4,none⟩=some (.slice AU nU cU):=R1.out.cell 4;have q4_0:wS11.cell? ⟨wN.heap.size,0,none⟩=some (.int .i64 x.k):=RN.out.cell 0;clear hr11 hg11 hs11)|(refine wpList_loadW rfl 80 (.tmp 3) rfl 2 viw_agg viw_size (w.heap.size+1+1) 80 rfl [.int .i64 1,.slice A6 (rootsL ls 0).length c6] R3.out rfl ?_)|(refine wpList_storeW rfl 80 (.tmp 2) (.tmp 18) rfl 2 viw_size (w.heap.size+1) 80 rfl (viwC 0 (.slice none 0 0)) (viwC 1 (.slice A6 (rootsL ls 0).length c6)) rfl R2.out rfl rfl (viwC_one _ _ _ _) ?_;intro wS13 hr13 hg13 hs13;clear q1_4 q4_0;replace HB:=hide (HB.out.grown hg13 (by omega) (pu4 (by omega)));replace R1:=hide (R1.out.grown hg13 (pu5 (by omega)));replace R3:=hide (R3.out.grown hg13 (pu5 (by omega)));replace HU:=hide (und_grown HU.out hg13 (by omega) (by omega));replace HL:=hide (und_grown HL.out hg13 (by omega) (by omega));replace RN:=hide (RN.out.grown hg13 (pu5 (by omega)));replace H6:=hide (fr_grown H6.out hg13 (by omega));have hsz14:=hg13.size;replace R2:=hide hr13;have q1_4:wS13.cell? ⟨w.heap.size,4,none⟩=some (.slice AU nU cU):=R1.out.cell 4;have q4_0:wS13.cell? ⟨wN.heap.size,0,none⟩=some (.int .i64 x.k):=RN.out.cell 0;clear hr13 hg13 hs13))
   exact bodyPost_ret (res_cell Tryz.results61 rfl viw_agg viw_size R2.out rfl) rfl ⟨A6,c6,by rw [HV.out],by rw [HV.out];exact fr_low H6.out (by omega),HB.out⟩
  ·have HV:=hide (show V=(1,[]) from by simpa using hV.symm)
   clear r0 r1 r2 hb1 hW1 hu h hup hF hV hx hbo hk
   go_enter Tryz.func61,Tryz.ntmps61
   go_wp2_with (first|(go_at_call 63;refine (Of_e HX.out W1 HU.out (by omega) (by have:=HFU.out.1;omega)).mono ?_;rintro e1 wN ⟨A1,n1,c1,C1,m1,d1,rfl,-,-,-,-,hbel⟩;clear q1_4;replace HB:=hide (HB.out.trans (hbel.mono HB.out.size));replace R1:=hide (R1.out.on hbel);replace R2:=hide (R2.out.on hbel);replace R3:=hide (R3.out.on hbel);replace HU:=hide (HU.out.under hbel (by omega));replace HL:=hide (HL.out.under hbel (by omega));have hsz2:=hbel.size;have q1_4:wN.cell? ⟨w.heap.size,4,none⟩=some (.slice AU nU cU):=R1.out.cell 4;clear hbel)|(refine wpList_storeW rfl 65 (.tmp 4) (.tmp 7) rfl 13 nod_size (wN.heap.size) 65 rfl (nodC nod0 (.slice none 0 0) (.slice none 0 0)) (nodC x (.slice A1 n1 c1) (.slice C1 m1 d1)) rfl (RowL.new wN 65 (nodC nod0 (.slice none 0 0) (.slice none 0 0))) rfl rfl (nodC_one _ _ _ _ _ _ _) ?_;intro wS3 hr3 hg3 hs3;have hzb:=below_stored' hg3;clear q1_4;replace HB:=hide (HB.out.trans (hzb.mono HB.out.size));replace R1:=hide (R1.out.on hzb);replace R2:=hide (R2.out.on hzb);replace R3:=hide (R3.out.on hzb);replace HU:=hide (HU.out.under hzb (by omega));replace HL:=hide (HL.out.under hzb (by omega));have hsz4:=hzb.size;have q1_4:wS3.cell? ⟨w.heap.size,4,none⟩=some (.slice AU nU cU):=R1.out.cell 4;have RN:=hide hr3;have hlt3:=hr3.lt;have q4_0:wS3.cell? ⟨wN.heap.size,0,none⟩=some (.int .i64 x.k):=RN.out.cell 0;clear hzb hr3;clear hg3 hs3)|(refine wpList_storeV rfl 3 (.tmp 11) (Operand.const (Value.int IntKind.i64 1)) rfl int_size (w.heap.size+1+1) 0 80 rfl (.int .i64 1) rfl rfl rfl (viwC 0 (.slice none 0 0)) R3.out (by show 0 < 2;omega) ?_;intro wS5 hr5 hg5 hs5;replace hr5:RowL wS5 (w.heap.size+1+1) 80 [.int .i64 1,.slice none 0 0]:=hr5;clear q1_4 q4_0;replace HB:=hide (HB.out.grown hg5 (by omega) (pu4 (by omega)));replace R1:=hide (R1.out.grown hg5 (pu5 (by omega)));replace R2:=hide (R2.out.grown hg5 (pu5 (by omega)));replace HU:=hide (und_grown HU.out hg5 (by omega) (by omega));replace HL:=hide (und_grown HL.out hg5 (by omega) (by omega));replace RN:=hide (RN.out.grown hg5 (pu5 (by omega)));have hsz6:=hg5.size;replace R3:=hide hr5;have q1_4:wS5.cell? ⟨w.heap.size,4,none⟩=some (.slice AU nU cU):=R1.out.cell 4;have q4_0:wS5.cell? ⟨wN.heap.size,0,none⟩=some (.int .i64 x.k):=RN.out.cell 0;clear hr5 hg5 hs5)|(refine wpList_loadW rfl 65 (.tmp 4) rfl 13 nod_agg nod_size (wN.heap.size) 65 rfl (nodC x (.slice A1 n1 c1) (.slice C1 m1 d1)) RN.out rfl ?_)|(go_at_call 65;refine (VOpq_b HOP.out hatt.1 hatt.2 wS5).mono ?_;rintro e7 wO ⟨rfl,hbel⟩;clear q1_4 q4_0;replace HB:=hide (HB.out.trans (hbel.mono HB.out.size));replace R1:=hide (R1.out.on hbel);replace R2:=hide (R2.out.on hbel);replace R3:=hide (R3.out.on hbel);replace HU:=hide (HU.out.under hbel (by omega));replace HL:=hide (HL.out.under hbel (by omega));replace RN:=hide (RN.out.on hbel);have hsz8:=hbel.size;have q1_4:wO.cell? ⟨w.heap.size,4,none⟩=some (.slice AU nU cU):=R1.out.cell 4;have q4_0:wO.cell? ⟨wN.heap.size,0,none⟩=some (.int .i64 x.k):=RN.out.cell 0;clear hbel)|(refine wpList_loadW rfl 80 (.tmp 3) rfl 2 viw_agg viw_size (w.heap.size+1+1) 80 rfl [.int .i64 1,.slice none 0 0] R3.out rfl ?_)|(refine wpList_storeW rfl 80 (.tmp 2) (.tmp 18) rfl 2 viw_size (w.heap.size+1) 80 rfl (viwC 0 (.slice none 0 0)) (viwC 1 (.slice none 0 0)) rfl R2.out rfl rfl (viwC_one _ _ _ _) ?_;intro wS9 hr9 hg9 hs9;clear q1_4 q4_0;replace HB:=hide (HB.out.grown hg9 (by omega) (pu4 (by omega)));replace R1:=hide (R1.out.grown hg9 (pu5 (by omega)));replace R3:=hide (R3.out.grown hg9 (pu5 (by omega)));replace HU:=hide (und_grown HU.out hg9 (by omega) (by omega));replace HL:=hide (und_grown HL.out hg9 (by omega) (by omega));replace RN:=hide (RN.out.grown hg9 (pu5 (by omega)));have hsz10:=hg9.size;replace R2:=hide hr9;have q1_4:wS9.cell? ⟨w.heap.size,4,none⟩=some (.slice AU nU cU):=R1.out.cell 4;have q4_0:wS9.cell? ⟨wN.heap.size,0,none⟩=some (.int .i64 x.k):=RN.out.cell 0;clear hr9 hg9 hs9))
   exact bodyPost_ret (res_cell Tryz.results61 rfl viw_agg viw_size R2.out rfl) rfl ⟨none,0,by rw [HV.out];rfl,by rw [HV.out];exact RdE.none_ _ _ _ _,HB.out⟩
 ·rw [if_neg hk] at hV
  have hk1:(x.k==1)=false:=by simpa using hk
  have hk2:(x.k != 1)=true:=by simpa using hk
  have hbf:bo=false:=by rw [←hbo];unfold opqD;simp [hk]
  subst hbf
  have HV:=hide (show V=(0,rootsL ls 0) from by simpa using hV.symm)
  clear r0 r1 r2 hb1 hW1 hu h hup hF hV hx hbo hk
  go_enter Tryz.func61,Tryz.ntmps61
  go_wp2_with (first|(go_at_call 63;refine (Of_e HX.out W1 HU.out (by omega) (by have:=HFU.out.1;omega)).mono ?_;rintro e1 wN ⟨A1,n1,c1,C1,m1,d1,rfl,-,-,-,-,hbel⟩;clear q1_4;replace HB:=hide (HB.out.trans (hbel.mono HB.out.size));replace R1:=hide (R1.out.on hbel);replace R2:=hide (R2.out.on hbel);replace R3:=hide (R3.out.on hbel);replace HU:=hide (HU.out.under hbel (by omega));replace HL:=hide (HL.out.under hbel (by omega));have hsz2:=hbel.size;have q1_4:wN.cell? ⟨w.heap.size,4,none⟩=some (.slice AU nU cU):=R1.out.cell 4;clear hbel)|(refine wpList_storeW rfl 65 (.tmp 4) (.tmp 7) rfl 13 nod_size (wN.heap.size) 65 rfl (nodC nod0 (.slice none 0 0) (.slice none 0 0)) (nodC x (.slice A1 n1 c1) (.slice C1 m1 d1)) rfl (RowL.new wN 65 (nodC nod0 (.slice none 0 0) (.slice none 0 0))) rfl rfl (nodC_one _ _ _ _ _ _ _) ?_;intro wS3 hr3 hg3 hs3;have hzb:=below_stored' hg3;clear q1_4;replace HB:=hide (HB.out.trans (hzb.mono HB.out.size));replace R1:=hide (R1.out.on hzb);replace R2:=hide (R2.out.on hzb);replace R3:=hide (R3.out.on hzb);replace HU:=hide (HU.out.under hzb (by omega));replace HL:=hide (HL.out.under hzb (by omega));have hsz4:=hzb.size;have q1_4:wS3.cell? ⟨w.heap.size,4,none⟩=some (.slice AU nU cU):=R1.out.cell 4;have RN:=hide hr3;have hlt3:=hr3.lt;have q4_0:wS3.cell? ⟨wN.heap.size,0,none⟩=some (.int .i64 x.k):=RN.out.cell 0;clear hzb hr3;clear hg3 hs3)|(refine wpList_loadW rfl 65 (.tmp 4) rfl 13 nod_agg nod_size (wN.heap.size) 65 rfl (nodC x (.slice A1 n1 c1) (.slice C1 m1 d1)) RN.out rfl ?_)|(go_at_call 65;refine (VOpq_b HOP.out hatt.1 hatt.2 wS3).mono ?_;rintro e5 wO ⟨rfl,hbel⟩;clear q1_4 q4_0;replace HB:=hide (HB.out.trans (hbel.mono HB.out.size));replace R1:=hide (R1.out.on hbel);replace R2:=hide (R2.out.on hbel);replace R3:=hide (R3.out.on hbel);replace HU:=hide (HU.out.under hbel (by omega));replace HL:=hide (HL.out.under hbel (by omega));replace RN:=hide (RN.out.on hbel);have hsz6:=hbel.size;have q1_4:wO.cell? ⟨w.heap.size,4,none⟩=some (.slice AU nU cU):=R1.out.cell 4;have q4_0:wO.cell? ⟨wN.heap.size,0,none⟩=some (.int .i64 x.k):=RN.out.cell 0;clear hbel)|(refine wpList_loadW rfl 29 (.tmp 1) rfl 6 stk_agg stk_size (w.heap.size) 29 rfl (stkC g (.slice AU nU cU) (.slice AL nL cL)) R1.out rfl ?_)|(go_at_call 86;refine (Roots_f wO (und_up HL.out (by omega)) HF.out).mono ?_;rintro e7 wR ⟨A6,c6,rfl,h6,hbel⟩;clear q1_4 q4_0;replace HB:=hide (HB.out.trans (hbel.mono HB.out.size));replace R1:=hide (R1.out.on hbel);replace R2:=hide (R2.out.on hbel);replace R3:=hide (R3.out.on hbel);replace HU:=hide (HU.out.under hbel (by omega));replace HL:=hide (HL.out.under hbel (by omega));replace RN:=hide (RN.out.on hbel);have hsz8:=hbel.size;have q1_4:wR.cell? ⟨w.heap.size,4,none⟩=some (.slice AU nU cU):=R1.out.cell 4;have q4_0:wR.cell? ⟨wN.heap.size,0,none⟩=some (.int .i64 x.k):=RN.out.cell 0;have H6:=hide h6;clear h6;clear hbel)|(refine wpList_storeV rfl 39 (.tmp 17) (.tmp 16) rfl plcs_size (w.heap.size+1+1) 1 80 rfl (.slice A6 (rootsL ls 0).length c6) rfl rfl rfl (viwC 0 (.slice none 0 0)) R3.out (by show 1 < 2;omega) ?_;intro wS9 hr9 hg9 hs9;replace hr9:RowL wS9 (w.heap.size+1+1) 80 [.int .i64 0,.slice A6 (rootsL ls 0).length c6]:=hr9;clear q1_4 q4_0;replace HB:=hide (HB.out.grown hg9 (by omega) (pu4 (by omega)));replace R1:=hide (R1.out.grown hg9 (pu5 (by omega)));replace R2:=hide (R2.out.grown hg9 (pu5 (by omega)));replace HU:=hide (und_grown HU.out hg9 (by omega) (by omega));replace HL:=hide (und_grown HL.out hg9 (by omega) (by omega));replace RN:=hide (RN.out.grown hg9 (pu5 (by omega)));replace H6:=hide (fr_grown H6.out hg9 (by omega));have hsz10:=hg9.size;replace R3:=hide hr9;have q1_4:wS9.cell? ⟨w.heap.size,4,none⟩=some (.slice AU nU cU):=R1.out.cell 4;have q4_0:wS9.cell? ⟨wN.heap.size,0,none⟩=some (.int .i64 x.k):=RN.out.cell 0;clear hr9 hg9 hs9)|(refine wpList_loadW rfl 80 (.tmp 3) rfl 2 viw_agg viw_size (w.heap.size+1+1) 80 rfl [.int .i64 0,.slice A6 (rootsL ls 0).length c6] R3.out rfl ?_)|(refine wpList_storeW rfl 80 (.tmp 2) (.tmp 18) rfl 2 viw_size (w.heap.size+1) 80 rfl (viwC 0 (.slice none 0 0)) (viwC 0 (.slice A6 (rootsL ls 0).length c6)) rfl R2.out rfl rfl (viwC_one _ _ _ _) ?_;intro wS11 hr11 hg11 hs11;clear q1_4 q4_0;replace HB:=hide (HB.out.grown hg11 (by omega) (pu4 (by omega)));replace R1:=hide (R1.out.grown hg11 (pu5 (by omega)));replace R3:=hide (R3.out.grown hg11 (pu5 (by omega)));replace HU:=hide (und_grown HU.out hg11 (by omega) (by omega));replace HL:=hide (und_grown HL.out hg11 (by omega) (by omega));replace RN:=hide (RN.out.grown hg11 (pu5 (by omega)));replace H6:=hide (fr_grown H6.out hg11 (by omega));have hsz12:=hg11.size;replace R2:=hide hr11;have q1_4:wS11.cell? ⟨w.heap.size,4,none⟩=some (.slice AU nU cU):=R1.out.cell 4;have q4_0:wS11.cell? ⟨wN.heap.size,0,none⟩=some (.int .i64 x.k):=RN.out.cell 0;clear hr11 hg11 hs11))
  exact bodyPost_ret (res_cell Tryz.results61 rfl viw_agg viw_size R2.out rfl) rfl ⟨A6,c6,by rw [HV.out],by rw [HV.out];exact fr_low H6.out (by omega),HB.out⟩
theorem VRoot_e {g:GeoQ} {AU AL:Option Addr} {nU cU nL cL B:Nat} {up:List NodV} {ls:List (List NodV)} {V:ViewV} (hV:rootV up ls=V) (w:World) (hu:RdE nodEn w (Under B) AU nU up) (h:RdE layEn w (Under B) AL nL ls) (hB:B≤w.heap.size) (hF:FewL ls) (hup:FewX up):Calls Tryz.prog 61 #[.agg (stkC g (.slice AU nU cU) (.slice AL nL cL)).toArray] w (ViewF w.heap.size w V):=by rw [←hV];exact VRoot_any w hu h hB hF hup
end Go.Proofs.YtnhegahpfacdgaaGreat

namespace Go.Proofs.YtnhegahpfacdgaaGreat
open Go.RowKit Go.Shelf Plain

def viewEn : Enc ViewV where
 k:=2
 R:=fun w D cs v=>∃A c,cs=viwC v.1 (.slice A v.2.length c)∧RdE prEn w D A v.2.length v.2
 len:=fun ⟨_,_,h,_⟩=>by rw [h];rfl
 one:=fun ⟨_,_,h,_⟩ v hv=>by rw [h] at hv;exact viwC_one _ _ _ _ v hv
 mono:=fun ⟨A,c,h,hr⟩ hk hD=>⟨A,c,h,hr.mono hk hD⟩
def zviw:Value:=.agg #[.int .i64 0,.slice none 0 0]
set_option maxRecDepth 100000 in
theorem viw_info:(Tryz.prog.info? 80).map (fun i=>(i.zero,i.size,i.bytes))=some (some zviw,2,32):=by kernel_rfl
theorem lit_viw (u:Int) (A:Option Addr) (n c:Nat) (W:World):(Instr.buildSlice 68 1 #[(0,.agg (viwC u (.slice A n c)).toArray)]).run Tryz.prog W=.ok (.slice (some ⟨W.heap.size,0,none⟩) 1 1) (W.alloc (.cells (viwC u (.slice A n c)).toArray 80)):=by
 obtain ⟨it,hi,hz,hsz,-⟩:=info_parts viw_info
 refine run_buildSlice W _ 80 1 _ _ it zviw Tryz.underlying68 hi hz (by omega) (by omega) ?_
 rw [hsz]
 have:=Great.fill_whole (s:=2) (by omega) [.agg (viwC u (.slice A n c)).toArray] ((Array.range (1*2)).map (zviw.cells[· % zviw.cells.size]!)) (by intro v hv;rw [List.mem_singleton] at hv;subst hv;simp [Value.cells,viwC]) (by simp)
 simpa [Value.cells] using this
theorem viw_lit1 (W:World) (v:ViewV) {A:Option Addr} {c lo:Nat} (h:RdE prEn W (fun b=>lo≤b∧b < W.heap.size) A v.2.length v.2) (hlo:lo≤W.heap.size):RdE viewEn (W.alloc (.cells (viwC v.1 (.slice A v.2.length c)).toArray 80)) (fun b=>lo≤b∧b < (W.alloc (.cells (viwC v.1 (.slice A v.2.length c)).toArray 80)).heap.size) (some ⟨W.heap.size,0,none⟩) 1 [v]:=by
 refine ⟨rfl,fun _=>⟨_,_,rfl,⟨hlo,by simp⟩,fun i y hy=>⟨viwC v.1 (.slice A v.2.length c),?_,fun j x hx=>?_⟩⟩⟩
 ·have hi:i=0:=by have:=(List.getElem?_eq_some_iff.1 hy).1;simpa using this
  subst hi
  obtain rfl:v=y:=by simpa using hy
  exact ⟨A,c,rfl,fr_on h (below_new (below_self W) _)⟩
 ·have hi:i=0:=by have:=(List.getElem?_eq_some_iff.1 hy).1;simpa using this
  subst hi
  rw [Nat.zero_mul,Nat.zero_add,Nat.zero_add,(RowL.new W 80 (viwC v.1 (.slice A v.2.length c))).cell]
  exact hx
end Go.Proofs.YtnhegahpfacdgaaGreat

namespace Go.Proofs.YtnhegahpfacdgaaGreat
open Go.RowKit Go.Shelf Plain

section
variable {gS gL : Nat} {p : List UInt8 → Bool} {B0 : Nat}
end
def CtxV (g:GeoQ) (AU AL AV:Option Addr) (nU cU nL cL nV cV B gS:Nat) (u:Int) (up:List NodV) (ls:List (List NodV)) (vl:List (Int×Int)) (W:World):Prop:=RowL W gS 112 (vwdC g (.slice AU nU cU) (.slice AL nL cL) u (.slice AV nV cV))∧RdE nodEn W (Under B) AU nU up∧RdE layEn W (Under B) AL nL ls∧RdE prEn W (Under B) AV nV vl∧B≤W.heap.size
theorem CtxV.kept {g:GeoQ} {AU AL AV:Option Addr} {nU cU nL cL nV cV B B0 gS:Nat} {u:Int} {up:List NodV} {ls:List (List NodV)} {vl:List (Int×Int)} {W W':World} (h:CtxV g AU AL AV nU cU nL cL nV cV B gS u up ls vl W) (hk:Kept (Under B0) W W') (hS:gS < B0) (hB:B≤B0) (hs:W.heap.size≤W'.heap.size):CtxV g AU AL AV nU cU nL cL nV cV B gS u up ls vl W' :=
 ⟨(hk gS hS).trans h.1,h.2.1.mono (fun b hb=>hk b (Nat.lt_of_lt_of_le hb hB)) (fun _ h=>h),h.2.2.1.mono (fun b hb=>hk b (Nat.lt_of_lt_of_le hb hB)) (fun _ h=>h),h.2.2.2.1.mono (fun b hb=>hk b (Nat.lt_of_lt_of_le hb hB)) (fun _ h=>h),Nat.le_trans h.2.2.2.2 hs⟩
end Go.Proofs.YtnhegahpfacdgaaGreat

