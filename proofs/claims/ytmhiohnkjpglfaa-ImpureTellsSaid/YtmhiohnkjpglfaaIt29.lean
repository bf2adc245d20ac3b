import Derived.Test.YtmhiohnkjpglfaaIt27
import Derived.Test.YtmhiohnkjpglfaaIt26
import Derived.Test.YtmhiohnkjpglfaaIt20
import Derived.Test.YtmhiohnkjpglfaaIt19
import Derived.BigQuiet
import Derived.Deep.QuietTactic
import Derived.Lib.Join
import Derived.Test.YtmhiohnkjpglfaaProg
import Derived.Lib.Bytealg
import Derived.Lib.CutLaws
import Derived.Shelf.Small.Wraps
import Derived.Shelf.Small.Strs
import Derived.Shelf.Strings.Prefix
import Derived.Shelf.Slices.Clone
import Derived.Shelf.Slices.CompactS
import Derived.Shelf.Slices.Cells
import Derived.Test.YtmhiohnkjpglfaaIt2
import Derived.Test.YtmhiohnkjpglfaaRows
import Derived.IntWalk
import Derived.Laws.Cover3
import Derived.Test.YtmhiohnkjpglfaaIt1
import Derived.Lib.SlicesCompact
import Derived.Sort.Row
import Derived.Sort.OwnSorted
import Derived.Lib.RowBridge
import Derived.Test.YtmhiohnkjpglfaaIt11
import Derived.Test.YtmhiohnkjpglfaaIt28
import Derived.Test.YtmhiohnkjpglfaaIt23
import Derived.Test.YtmhiohnkjpglfaaIt25

namespace Go.Proofs.Ytmhiohnkjpglfaa
open Go.RowKit Go.Shelf Plain

def upC1 (E:Value):List Value:=nodC ndD (.slice none 0 0) E++(nodC ndD (.slice none 0 0) (.slice none 0 0)++(nodC ndD (.slice none 0 0) (.slice none 0 0)++(nodC nod0 (.slice none 0 0) (.slice none 0 0)++nodC nod0 (.slice none 0 0) (.slice none 0 0))))
end Go.Proofs.Ytmhiohnkjpglfaa

namespace Go.Proofs.Ytmhiohnkjpglfaa
open Go.RowKit Go.Shelf Plain

set_option maxHeartbeats 800000 in
theorem rhas4_b {h:Int} {r:Bool} (h0:0≤h) (h1:h≤31) (hr:decide (h / 4 % 2=1)=r) (w:World):Calls Try.prog 35 #[.int .i64 h,.int .i64 4] w fun e w'=>e=.returned (.bool r)∧w=w':=by
 obtain ⟨k,hk⟩:∃k,h / 4=k:=⟨_,rfl⟩
 have hk0:0≤k:=by omega
 have hk1:k≤31:=by omega
 have ht:Int.tdiv h 4=k:=by rw [Int.tdiv_eq_ediv_of_nonneg h0,hk]
 have hw1:IntKind.i64.wrap k=k:=IntWalk.i64_in _ (by omega)
 have ht2:Int.tmod k 2=k % 2:=Int.tmod_eq_emod_of_nonneg hk0
 have hw2:IntKind.i64.wrap (k % 2)=k % 2:=IntWalk.i64_in _ (by omega)
 have hv:(k % 2==1)=r:=by
  rw [←hr,hk,Bool.eq_iff_iff]
  simp
 clear hr hk
 go_enter Try.func35,Try.ntmps35
 go_wp2
 go_ret
 exact ⟨by first|rfl|(rw [←hv])|(simp [hv])|(rw [←hv];simp),rfl⟩
set_option maxRecDepth 100000 in
set_option maxHeartbeats 1600000 in
theorem RHas4_b {a:AttV} {r:Bool} (h0:0≤a.h) (h1:a.h≤31) (hr:decide (a.h / 4 % 2=1)=r) (w:World):Calls Try.prog 22 #[.agg (attC a).toArray,.int .i64 4] w (BoolB w r):=by
 have r0:=RowL.new w 44 (attC a)
 have hb1:=below_new (below_self w) (.cells (attC a).toArray 44)
 obtain ⟨W1,hW1⟩:∃W1,w.alloc (.cells (attC a).toArray 44)=W1:=⟨_,rfl⟩
 rw [hW1] at r0 hb1
 have hW1':w.alloc (.cells #[.int .i64 a.h,.int .i64 a.o,.string ⟨a.r.toArray⟩,.int .i64 a.l,.int .i64 a.i,.int .i64 a.g,.int .i64 a.s] 44)=W1:=hW1
 have q0:W1.cell? ⟨w.heap.size,0,none⟩=some (.int .i64 a.h):=r0.cell 0
 have HB1:=hide hb1
 have HR:=hide hr
 have d0:decide (0≤a.h)=true:=decide_eq_true h0
 unfold attC
 clear r0 hb1 hW1 hr
 go_enter Try.func22,Try.ntmps22
 go_wp2_with (go_at_call 35;refine (rhas4_b h0 h1 HR.out _).mono ?_;rintro e w' ⟨rfl,rfl⟩)
 go_ret
 exact BoolB.of HB1.out
end Go.Proofs.Ytmhiohnkjpglfaa

namespace Go.Proofs.Ytmhiohnkjpglfaa
open Go.RowKit Go.Shelf Plain

theorem TwoS.keep {Wx W:World} {base r5 t5 k5 r6 t6 k6:Nat} (h:TwoS Wx base r5 t5 k5 r6 t6 k6 W) {b o:Nat} (hb:b < Wx.heap.size) (h5:b≠r5) (h6:b≠r6):W.cell? ⟨b,o,none⟩=Wx.cell? ⟨b,o,none⟩:=World.cell?_of_block (w:=Wx) (h.1 b hb h5 h6)
end Go.Proofs.Ytmhiohnkjpglfaa

namespace Go.Proofs.Ytmhiohnkjpglfaa
open Go.RowKit Go.Shelf Plain

theorem hcell {w w':World} {b o:Nat} {cs:List Value} (h:∀k x,cs[k]?=some x→w.cell? ⟨b,o+k,none⟩=some x) {B:Nat} (hb:Below B w w') (hlt:b < B):∀k x,cs[k]?=some x→w'.cell? ⟨b,o+k,none⟩=some x:=fun k x hx=>(hb.cell (p:=⟨b,o+k,none⟩) hlt).trans (h k x hx)
end Go.Proofs.Ytmhiohnkjpglfaa

namespace Go.Proofs.Ytmhiohnkjpglfaa
open Go.RowKit Go.Shelf Plain

def TreeF (w:World) (ws:List WayV) (vs:List ViewV) (e:Ending) (w':World):Prop:=∃A c A' c',e=.returned (.tuple #[.slice A ws.length c,.slice A' vs.length c'])∧RdE wayEn w' (fun b=>w.heap.size≤b∧b < w'.heap.size) A ws.length ws∧RdE viewEn w' (Under w'.heap.size) A' vs.length vs∧Below w.heap.size w w'
end Go.Proofs.Ytmhiohnkjpglfaa

