import Derived.Test.YtmhiohnkjpglfaaIs28
import Derived.Test.YtmhiohnkjpglfaaIs29
import Derived.Test.YtmhiohnkjpglfaaIs30
import Derived.Test.YtmhiohnkjpglfaaIs24
import Derived.Test.YtmhiohnkjpglfaaIs22
import Derived.Test.YtmhiohnkjpglfaaIs21
import Derived.BigQuiet
import Derived.Deep.QuietTactic
import Derived.Lib.Join
import Derived.Test.YtmhiohnkjpglfaaProg
import Derived.Lib.Bytealg
import Derived.Lib.CutLaws
import Derived.Shelf.Small.Wraps
import Derived.Shelf.Small.Strs
import Derived.Shelf.Strings.Prefix
import Derived.Shelf.Slices.Clone
import Derived.Shelf.Slices.CompactS
import Derived.Shelf.Slices.Cells
import Derived.Test.YtmhiohnkjpglfaaIs2
import Derived.Test.YtmhiohnkjpglfaaRows
import Derived.IntWalk
import Derived.Laws.Cover3
import Derived.Test.YtmhiohnkjpglfaaIs1
import Derived.Lib.SlicesCompact
import Derived.Sort.Row
import Derived.Sort.OwnSorted
import Derived.Lib.RowBridge
import Derived.Test.YtmhiohnkjpglfaaIs12
import Derived.Test.YtmhiohnkjpglfaaIs25
import Derived.Test.YtmhiohnkjpglfaaIs27
import Derived.BigRegion
import Derived.WalkMore
import Derived.ScopeJumps
import Derived.Test.YtmhiohnkjpglfaaIs7

namespace Go.Proofs.Ytmhiohnkjpglfaa
open Go.RowKit Go.Shelf Plain

def TreeF (w:World) (ws:List WayV) (vs:List ViewV) (e:Ending) (w':World):Prop:=∃A c A' c',e=.returned (.tuple #[.slice A ws.length c,.slice A' vs.length c'])∧RdE wayEn w' (fun b=>w.heap.size≤b∧b < w'.heap.size) A ws.length ws∧RdE viewEn w' (Under w'.heap.size) A' vs.length vs∧Below w.heap.size w w'
end Go.Proofs.Ytmhiohnkjpglfaa

namespace Go.Proofs.Ytmhiohnkjpglfaa
open Go.RowKit Go.Shelf Plain

theorem OwE.lt {α:Type} {E:Enc α} {w:World} {base e n c:Nat} {A:Option Addr} {l:List α} (h:OwE E w base e A n c l):∀a,A=some a→a.block < w.heap.size:=by
 obtain ⟨css,hrow,-,-⟩:=h
 intro a ha
 subst ha
 rcases hrow.2 with ⟨h0,-⟩|⟨g,cap,cur,h0,-,hg,-⟩
 ·cases h0
 ·cases h0
  exact (Array.getElem?_eq_some_iff.1 hg).1
theorem KeepS.cell {wX W:World} {B b o:Nat} {vc:List Value} (h:KeepS wX B b o vc W) {p:Addr} (hp:p.block < wX.heap.size) (hne:p.block≠b):W.cell? p=wX.cell? p:=World.cell?_of_block (w:=wX) (h.2.1 p.block hp hne)
end Go.Proofs.Ytmhiohnkjpglfaa

namespace Go.Proofs.Ytmhiohnkjpglfaa
open Go.RowKit Go.Shelf Plain

def TreeP (w:World) (n:Nat) (ws:List WayV) (vs:List ViewV) (e:Ending) (w':World):Prop:=∃A c A' c',e=.returned (.tuple #[.slice A n c,.slice A' n c'])∧RdE wayEn w' (fun b=>w.heap.size≤b∧b < w'.heap.size) A n ws∧RdE viewEn w' (Under w'.heap.size) A' n vs∧Below w.heap.size w w'
theorem TreeF.p {w w':World} {ws:List WayV} {vs:List ViewV} {n:Nat} {e:Ending} (h:TreeF w ws vs e w') (h1:ws.length=n) (h2:vs.length=n):TreeP w n ws vs e w':=by
 obtain ⟨A,c,A',c',he,ha,hb,hbl⟩:=h
 rw [h1] at he ha
 rw [h2] at he hb
 exact ⟨A,c,A',c',he,ha,hb,hbl⟩
end Go.Proofs.Ytmhiohnkjpglfaa

namespace Go.Proofs.Ytmhiohnkjpglfaa
open Go.RowKit Go.Shelf Plain

theorem entW_info:(Try.prog.info? 53).map (fun i=>(i.zero,i.size,i.bytes))=some (some (.agg #[.int .i64 0,.int .i64 0,.string ⟨#[]⟩]),3,32):=by kernel_rfl
theorem litW_ent (x:EntV) (W:World):(Instr.buildSlice 40 1 #[(0,.agg #[.int .i64 x.slot,.int .i64 x.ino,.string ⟨x.name.toArray⟩])]).run Try.prog W=.ok (.slice (some ⟨W.heap.size,0,none⟩) 1 1) (W.alloc (.cells #[.int .i64 x.slot,.int .i64 x.ino,.string ⟨x.name.toArray⟩] 53)):=by
 obtain ⟨it,hi,hz,hsz,-⟩:=info_parts entW_info
 refine run_buildSlice W _ 53 1 _ _ it (.agg #[.int .i64 0,.int .i64 0,.string ⟨#[]⟩]) Try.underlying40 hi hz (by omega) (by omega) ?_
 rw [hsz]
 have:=Great.fill_whole (s:=3) (by omega) [.agg (cellsE x).toArray] ((Array.range (1*3)).map ((Value.agg #[.int .i64 0,.int .i64 0,.string ⟨#[]⟩]).cells[· % (Value.agg #[.int .i64 0,.int .i64 0,.string ⟨#[]⟩]).cells.size]!)) (by intro v hv;rw [List.mem_singleton] at hv;subst hv;simp [Value.cells,cellsE]) (by simp)
 simpa [Value.cells,cellsE] using this
theorem enc_lit1 {α:Type} {E:Enc α} {x:α} {cs:List Value} (hR:∀w D,E.R w D cs x) (W:World) (t:Nat) {lo:Nat} (hlo:lo≤W.heap.size):RdE E (W.alloc (.cells cs.toArray t)) (fun b=>lo≤b∧b < (W.alloc (.cells cs.toArray t)).heap.size) (some ⟨W.heap.size,0,none⟩) 1 [x]:=by
 refine ⟨rfl,fun _=>⟨_,_,rfl,⟨hlo,by simp⟩,fun i y hy=>⟨cs,?_,fun j v hv=>?_⟩⟩⟩
 ·have hi:i=0:=by have:=(List.getElem?_eq_some_iff.1 hy).1;simpa using this
  subst hi
  obtain rfl:x=y:=by simpa using hy
  exact hR _ _
 ·have hi:i=0:=by have:=(List.getElem?_eq_some_iff.1 hy).1;simpa using this
  subst hi
  rw [Nat.zero_mul,Nat.zero_add,Nat.zero_add,(RowL.new W t cs).cell]
  exact hv
end Go.Proofs.Ytmhiohnkjpglfaa

namespace Go.Proofs.Ytmhiohnkjpglfaa
open Go.RowKit
variable {α : Type} {E : Enc α}

theorem OwE.up [Tags] {w:World} {base b' e n c:Nat} {A:Option Addr} {l:List α} (h:OwE E w base e A n c l) (hb:∀a,A=some a→b'≤a.block):OwE E w b' e A n c l:=by
 obtain ⟨css,⟨h1,h2⟩,h3⟩:=h
 refine ⟨css,⟨h1,?_⟩,h3⟩
 rcases h2 with h2|⟨g,cap,cur,he,hbg,hr⟩
 ·exact .inl h2
 ·refine .inr ⟨g,cap,cur,he,?_,hr⟩
  simp only [Value.slice.injEq] at he
  exact hb _ he.1
def OwL [Tags] (E:Enc α) (w:World) (base lo e:Nat) (A:Option Addr) (n c:Nat) (l:List α):Prop:=OwE E w lo e A n c l∨∃p,A=some ⟨p,0,none⟩∧n=0∧c=0∧l=[]∧OwE E w base e (some ⟨p,0,none⟩) 0 0 []
theorem OwL.below [Tags] {w w':World} {base lo e n c:Nat} {A:Option Addr} {l:List α} (h:OwL E w base lo e A n c l) (hb:Below w.heap.size w w'):OwL E w' base lo e A n c l:=by
 rcases h with h|⟨p,h1,h2,h3,h4,h5⟩
 ·exact .inl (h.below hb)
 ·exact .inr ⟨p,h1,h2,h3,h4,h5.below hb⟩
theorem OwL.read [Tags] {w:World} {base lo e n c:Nat} {A:Option Addr} {l:List α} (h:OwL E w base lo e A n c l) (ht:Tags.bad e=false):RdE E w (Under w.heap.size) A n l:=by
 rcases h with h|⟨p,rfl,rfl,rfl,rfl,-⟩
 ·exact (h.rd ht).plain
 ·exact RdE.none_ _ _ _ _
theorem OwL.len [Tags] {w:World} {base lo e n c:Nat} {A:Option Addr} {l:List α} (h:OwL E w base lo e A n c l):l.length=n:=by
 rcases h with h|⟨p,rfl,rfl,rfl,rfl,-⟩
 ·exact h.len
 ·rfl
end Go.Proofs.Ytmhiohnkjpglfaa

namespace Go.Proofs.Ytmhiohnkjpglfaa
open Go.RowKit Go.Shelf Plain

theorem finW_info:(Try.prog.info? 35).map (fun i=>(i.zero,i.size,i.bytes))=some (some (.agg #[.int .i64 0,.int .i64 0,.int .i64 0,.int .i64 0]),4,32):=by kernel_rfl
theorem litW_fin (a b c d:Int) (W:World):(Instr.buildSlice 33 1 #[(0,.agg #[.int .i64 a,.int .i64 b,.int .i64 c,.int .i64 d])]).run Try.prog W=.ok (.slice (some ⟨W.heap.size,0,none⟩) 1 1) (W.alloc (.cells #[.int .i64 a,.int .i64 b,.int .i64 c,.int .i64 d] 35)):=by
 obtain ⟨it,hi,hz,hsz,-⟩:=info_parts finW_info
 refine run_buildSlice W _ 35 1 _ _ it (.agg #[.int .i64 0,.int .i64 0,.int .i64 0,.int .i64 0]) Try.underlying33 hi hz (by omega) (by omega) ?_
 rw [hsz]
 have:=Great.fill_whole (s:=4) (by omega) [.agg #[.int .i64 a,.int .i64 b,.int .i64 c,.int .i64 d]] ((Array.range (1*4)).map ((Value.agg #[.int .i64 0,.int .i64 0,.int .i64 0,.int .i64 0]).cells[· % (Value.agg #[.int .i64 0,.int .i64 0,.int .i64 0,.int .i64 0]).cells.size]!)) (by intro v hv;rw [List.mem_singleton] at hv;subst hv;simp [Value.cells]) (by simp)
 simpa [Value.cells] using this
def FinsO (w:World) (l:List FinV) (e:Ending) (w':World):Prop:=∃A n c,e=.returned (.slice A n c)∧RdE finEn w' (Under w'.heap.size) A n l∧Below w.heap.size w w'
end Go.Proofs.Ytmhiohnkjpglfaa

namespace Go.Proofs.Ytmhiohnkjpglfaa
open Go.RowKit Go.Shelf Plain

def clO : Nat → Int
 | 0=>8
 | 1=>13
 | _=>14
def ClW (w:World):Prop:=∀j,j < 3→w.cell? ⟨0,j,none⟩=some (.int .i64 (clO j))
theorem ClW.lt {w:World} (h:ClW w):0 < w.heap.size:=block_lt_of_cell (h 0 (by omega))
theorem ClW.below {w w':World} (h:ClW w) (hb:Below w.heap.size w w'):ClW w':=fun j hj=>(hb.cell (p:=⟨0,j,none⟩) h.lt).trans (h j hj)
def RchR (w:World) (lo hi:Nat) (A:Option Addr) (n:Nat) (rs:List Bool):Prop:=(rs.length=n∧(0 < n→∃b o,A=some ⟨b,o,none⟩∧lo≤b∧b < hi∧∀i x,rs[i]?=some x→w.cell? ⟨b,o+i,none⟩=some (.bool x)))∧hi≤w.heap.size
theorem rch_grown {w w':World} {lo hi n g:Nat} {A:Option Addr} {rs:List Bool} (h:RchR w lo hi A n rs) (hg:w.grownBy w' (some g)) (hne:g < lo∨hi≤g):RchR w' lo hi A n rs:=⟨⟨h.1.1,fun hn=>by
 obtain ⟨b,o,e,h1,h2,hc⟩:=h.1.2 hn
 exact ⟨b,o,e,h1,h2,fun i x hx=>(cell_same (hg.block b (Nat.lt_of_lt_of_le h2 h.2) (pu5 (by omega)))).trans (hc i x hx)⟩⟩,Nat.le_trans h.2 hg.size⟩
theorem rch_rd {w:World} {lo hi n:Nat} {A:Option Addr} {rs:List Bool} (h:RchR w lo hi A n rs):Rd Value.bool w w.heap.size A n rs:=⟨h.1.1,fun hn=>by
 obtain ⟨b,o,e,h1,h2,hc⟩:=h.1.2 hn
 exact ⟨b,o,e,Nat.lt_of_lt_of_le h2 h.2,hc⟩⟩
def ReachO (w:World) (rs:List Bool) (e:Ending) (w':World):Prop:=∃A n c lo hi,e=.returned (.slice A n c)∧w.heap.size≤lo∧RchR w' lo hi A n rs∧Below w.heap.size w w'
theorem lit_one (W:World):(Instr.buildSlice 61 1 #[(0,.int .i64 1)]).run Try.prog W=.ok (.slice (some ⟨W.heap.size,0,none⟩) 1 1) (W.alloc (.cells #[.int .i64 1] 3)):=by
 obtain ⟨it,hi,hz,hsz,-⟩:=info_parts (show (Try.prog.info? 3).map (fun i=>(i.zero,i.size,i.bytes))=some (some (.int .i64 0),1,8) from by kernel_rfl)
 refine run_buildSlice W _ 3 1 _ _ it (.int .i64 0) Try.underlying61 hi hz (by omega) (by omega) ?_
 rw [hsz]
 have:=Great.fill_whole (s:=1) (by omega) [.int .i64 1] ((Array.range (1*1)).map ((Value.int .i64 0).cells[· % (Value.int .i64 0).cells.size]!)) (by intro v hv;rw [List.mem_singleton] at hv;subst hv;simp [Value.cells]) (by simp)
 simpa [Value.cells] using this
theorem one_row {w:World} {g:Nat} (h:RowL w g 3 [.int .i64 1]):RdE Enc.int w (Under w.heap.size) (some ⟨g,0,none⟩) 1 [1]:=by
 refine ⟨rfl,fun _=>⟨g,0,rfl,h.lt,fun i x hx=>⟨[.int .i64 x],rfl,fun j v hv=>?_⟩⟩⟩
 have hi:i=0:=by have:=(List.getElem?_eq_some_iff.1 hx).1;simpa using this
 subst hi
 obtain rfl:1=x:=by simpa using hx
 have hj:j=0:=by have:=(List.getElem?_eq_some_iff.1 hv).1;simpa using this
 subst hj
 obtain rfl:Value.int .i64 1=v:=by simpa using hv
 exact h.cell 0
theorem nod_cells {w:World} {D:Nat→Prop} {A:Option Addr} {n i:Nat} {l:List NodV} {x:NodV} (h:RdE nodEn w D A n l) (hx:l[i]?=some x):∃b o A0 n0 k0 C0 m0 d0,A=some ⟨b,o,none⟩∧D b∧∀k v,(nodC x (.slice A0 n0 k0) (.slice C0 m0 d0))[k]?=some v→w.cell? ⟨b,o+i*13+k,none⟩=some v:=by
 have hj:i < l.length:=(List.getElem?_eq_some_iff.1 hx).1
 obtain ⟨b,o,e,hD,hc⟩:=h.2 (by have:=h.1;omega)
 obtain ⟨cs,⟨A0,n0,k0,C0,m0,d0,rfl,-⟩,hcs⟩:=hc i x hx
 exact ⟨b,o,A0,n0,k0,C0,m0,d0,e,hD,fun k v hv=>by have h1:=hcs k v hv;rw [show nodEn.k=13 from rfl,←Nat.add_assoc] at h1;exact h1⟩
theorem OReach_any {A F:Option Addr} {n c k d:Nat} {ns:List NodV} {rs:List Bool} (hr:reachL ns (walkW ns [1]).1=rs) (w:World) (h:RdE nodEn w (Under w.heap.size) A n ns) (hf:RdE Enc.int w (Under w.heap.size) F k [1]) (hM:Many ns):Calls Try.prog 28 #[.agg #[.slice A n c],.slice F k d] w (ReachO w rs):=by
 refine (Reach_any w h hf hM (by have:=hf.1;simp at this;omega)).mono ?_
 rw [hr]
 rintro e w' ⟨A,n,c,rfl,-,hd,hb,hlo⟩
 exact ⟨A,n,c,w.heap.size,w'.heap.size,rfl,Nat.le_refl _,⟨⟨hd.1,fun hn=>by obtain ⟨b,o,e,h1,hc⟩:=hd.2 hn;exact ⟨b,o,e,hlo b o e,h1,hc⟩⟩,Nat.le_refl _⟩,hb⟩
theorem OFin_R (x:FinV):∀(w:World) (D:Nat→Prop),finEn.R w D (finC x) x:=fun _ _=>rfl
theorem rd_cell {w:World} {B b o n:Nat} {rs:List Bool} (h:Rd Value.bool w B (some ⟨b,o,none⟩) n rs) {i:Nat} {r:Bool} (hi:rs[i]?=some r):w.cell? ⟨b,o+i,none⟩=some (.bool r):=by
 obtain ⟨b',o',e,-,hc⟩:=h.2 (by have:=(List.getElem?_eq_some_iff.1 hi).1;have:=h.1;omega)
 cases e
 exact hc i r hi
theorem rd_some {w:World} {B n:Nat} {A:Option Addr} {rs:List Bool} (h:Rd Value.bool w B A n rs) (hn:0 < n):∃b o,A=some ⟨b,o,none⟩:=by
 obtain ⟨b',o',e,-⟩:=h.2 hn
 exact ⟨b',o',e⟩
end Go.Proofs.Ytmhiohnkjpglfaa

