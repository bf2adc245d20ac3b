import Derived.Test.YtmhiohnkjpglfaaIt28
import Derived.Test.YtmhiohnkjpglfaaIt29
import Derived.Test.YtmhiohnkjpglfaaIt32
import Derived.Test.YtmhiohnkjpglfaaIt31

namespace Go.Proofs.Ytmhiohnkjpglfaa
open Go.RowKit Go.Shelf Plain

def clO : Nat → Int
 | 0=>8
 | 1=>13
 | _=>14
def ClW (w:World):Prop:=∀j,j < 3→w.cell? ⟨0,j,none⟩=some (.int .i64 (clO j))
theorem ClW.lt {w:World} (h:ClW w):0 < w.heap.size:=block_lt_of_cell (h 0 (by omega))
theorem ClW.below {w w':World} (h:ClW w) (hb:Below w.heap.size w w'):ClW w':=fun j hj=>(hb.cell (p:=⟨0,j,none⟩) h.lt).trans (h j hj)
def RchR (w:World) (lo hi:Nat) (A:Option Addr) (n:Nat) (rs:List Bool):Prop:=(rs.length=n∧(0 < n→∃b o,A=some ⟨b,o,none⟩∧lo≤b∧b < hi∧∀i x,rs[i]?=some x→w.cell? ⟨b,o+i,none⟩=some (.bool x)))∧hi≤w.heap.size
theorem rch_grown {w w':World} {lo hi n g:Nat} {A:Option Addr} {rs:List Bool} (h:RchR w lo hi A n rs) (hg:w.grownBy w' (some g)) (hne:g < lo∨hi≤g):RchR w' lo hi A n rs:=⟨⟨h.1.1,fun hn=>by
 obtain ⟨b,o,e,h1,h2,hc⟩:=h.1.2 hn
 exact ⟨b,o,e,h1,h2,fun i x hx=>(cell_same (hg.block b (Nat.lt_of_lt_of_le h2 h.2) (pu5 (by omega)))).trans (hc i x hx)⟩⟩,Nat.le_trans h.2 hg.size⟩
theorem rch_rd {w:World} {lo hi n:Nat} {A:Option Addr} {rs:List Bool} (h:RchR w lo hi A n rs):Rd Value.bool w w.heap.size A n rs:=⟨h.1.1,fun hn=>by
 obtain ⟨b,o,e,h1,h2,hc⟩:=h.1.2 hn
 exact ⟨b,o,e,Nat.lt_of_lt_of_le h2 h.2,hc⟩⟩
def ReachO (w:World) (rs:List Bool) (e:Ending) (w':World):Prop:=∃A n c lo hi,e=.returned (.slice A n c)∧w.heap.size≤lo∧RchR w' lo hi A n rs∧Below w.heap.size w w'
theorem lit_one (W:World):(Instr.buildSlice 61 1 #[(0,.int .i64 1)]).run Try.prog W=.ok (.slice (some ⟨W.heap.size,0,none⟩) 1 1) (W.alloc (.cells #[.int .i64 1] 3)):=by
 obtain ⟨it,hi,hz,hsz,-⟩:=info_parts (show (Try.prog.info? 3).map (fun i=>(i.zero,i.size,i.bytes))=some (some (.int .i64 0),1,8) from by kernel_rfl)
 refine run_buildSlice W _ 3 1 _ _ it (.int .i64 0) Try.underlying61 hi hz (by omega) (by omega) ?_
 rw [hsz]
 have:=Great.fill_whole (s:=1) (by omega) [.int .i64 1] ((Array.range (1*1)).map ((Value.int .i64 0).cells[· % (Value.int .i64 0).cells.size]!)) (by intro v hv;rw [List.mem_singleton] at hv;subst hv;simp [Value.cells]) (by simp)
 simpa [Value.cells] using this
theorem one_row {w:World} {g:Nat} (h:RowL w g 3 [.int .i64 1]):RdE Enc.int w (Under w.heap.size) (some ⟨g,0,none⟩) 1 [1]:=by
 refine ⟨rfl,fun _=>⟨g,0,rfl,h.lt,fun i x hx=>⟨[.int .i64 x],rfl,fun j v hv=>?_⟩⟩⟩
 have hi:i=0:=by have:=(List.getElem?_eq_some_iff.1 hx).1;simpa using this
 subst hi
 obtain rfl:1=x:=by simpa using hx
 have hj:j=0:=by have:=(List.getElem?_eq_some_iff.1 hv).1;simpa using this
 subst hj
 obtain rfl:Value.int .i64 1=v:=by simpa using hv
 exact h.cell 0
theorem nod_cells {w:World} {D:Nat→Prop} {A:Option Addr} {n i:Nat} {l:List NodV} {x:NodV} (h:RdE nodEn w D A n l) (hx:l[i]?=some x):∃b o A0 n0 k0 C0 m0 d0,A=some ⟨b,o,none⟩∧D b∧∀k v,(nodC x (.slice A0 n0 k0) (.slice C0 m0 d0))[k]?=some v→w.cell? ⟨b,o+i*13+k,none⟩=some v:=by
 have hj:i < l.length:=(List.getElem?_eq_some_iff.1 hx).1
 obtain ⟨b,o,e,hD,hc⟩:=h.2 (by have:=h.1;omega)
 obtain ⟨cs,⟨A0,n0,k0,C0,m0,d0,rfl,-⟩,hcs⟩:=hc i x hx
 exact ⟨b,o,A0,n0,k0,C0,m0,d0,e,hD,fun k v hv=>by have h1:=hcs k v hv;rw [show nodEn.k=13 from rfl,←Nat.add_assoc] at h1;exact h1⟩
theorem OReach_any {A F:Option Addr} {n c k d:Nat} {ns:List NodV} {rs:List Bool} (hr:reachL ns (walkW ns [1]).1=rs) (w:World) (h:RdE nodEn w (Under w.heap.size) A n ns) (hf:RdE Enc.int w (Under w.heap.size) F k [1]) (hM:Many ns):Calls Try.prog 28 #[.agg #[.slice A n c],.slice F k d] w (ReachO w rs):=by
 refine (Reach_any w h hf hM (by have:=hf.1;simp at this;omega)).mono ?_
 rw [hr]
 rintro e w' ⟨A,n,c,rfl,-,hd,hb,hlo⟩
 exact ⟨A,n,c,w.heap.size,w'.heap.size,rfl,Nat.le_refl _,⟨⟨hd.1,fun hn=>by obtain ⟨b,o,e,h1,hc⟩:=hd.2 hn;exact ⟨b,o,e,hlo b o e,h1,hc⟩⟩,Nat.le_refl _⟩,hb⟩
theorem OFin_R (x:FinV):∀(w:World) (D:Nat→Prop),finEn.R w D (finC x) x:=fun _ _=>rfl
theorem rd_cell {w:World} {B b o n:Nat} {rs:List Bool} (h:Rd Value.bool w B (some ⟨b,o,none⟩) n rs) {i:Nat} {r:Bool} (hi:rs[i]?=some r):w.cell? ⟨b,o+i,none⟩=some (.bool r):=by
 obtain ⟨b',o',e,-,hc⟩:=h.2 (by have:=(List.getElem?_eq_some_iff.1 hi).1;have:=h.1;omega)
 cases e
 exact hc i r hi
theorem rd_some {w:World} {B n:Nat} {A:Option Addr} {rs:List Bool} (h:Rd Value.bool w B A n rs) (hn:0 < n):∃b o,A=some ⟨b,o,none⟩:=by
 obtain ⟨b',o',e,-⟩:=h.2 hn
 exact ⟨b',o',e⟩
end Go.Proofs.Ytmhiohnkjpglfaa

