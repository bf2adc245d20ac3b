import Derived.Test.YtpndfahgflgocaaGreatDoorLn16

namespace Go.Proofs.YtpndfahgflgocaaGreatDoor
open Go.RowKit Go.Shelf Plain

def TwoS (Wx:World) (base r5 t5 k5 r6 t6 k6:Nat) (W:World):Prop:=(∀b,b < Wx.heap.size→b≠r5→b≠r6→W.heap[b]?=Wx.heap[b]?)∧(∃cu,RowL W r5 t5 cu∧cu.length=k5)∧(∃cu,RowL W r6 t6 cu∧cu.length=k6)∧Below base Wx W
theorem TwoS.start {Wx:World} {base r5 t5 k5 r6 t6 k6:Nat} {c5 c6:List Value} (h5:RowL Wx r5 t5 c5) (l5:c5.length=k5) (h6:RowL Wx r6 t6 c6) (l6:c6.length=k6):TwoS Wx base r5 t5 k5 r6 t6 k6 Wx.drew :=
 ⟨fun _ _ _ _=>rfl,⟨c5,h5,l5⟩,⟨c6,h6,l6⟩,⟨rfl,rfl,rfl,Nat.le_refl _,fun _ _=>rfl⟩⟩
theorem TwoS.st5 {Wx W W':World} {base r5 t5 k5 r6 t6 k6:Nat} {cs:List Value} (h:TwoS Wx base r5 t5 k5 r6 t6 k6 W) (hg:W.grownBy W' (some r5)) (hr:RowL W' r5 t5 cs) (hl:cs.length=k5) (hb:base≤r5) (hne:r5≠r6) (hbx:base≤Wx.heap.size):TwoS Wx base r5 t5 k5 r6 t6 k6 W':=by
 obtain ⟨p1,p2,⟨c6,p3,l6⟩,p4⟩:=h
 exact ⟨fun b h0 h1 h2=>(hg.block b (Nat.lt_of_lt_of_le h0 p4.size) (fun e=>h1 (Option.some.inj e))).trans (p1 b h0 h1 h2),⟨cs,hr,hl⟩,⟨c6,p3.grown hg (fun e=>hne (Option.some.inj e).symm),l6⟩,p4.grown hg (Nat.le_trans hbx p4.size) (pu4 (by omega))⟩
theorem TwoS.st6 {Wx W W':World} {base r5 t5 k5 r6 t6 k6:Nat} {cs:List Value} (h:TwoS Wx base r5 t5 k5 r6 t6 k6 W) (hg:W.grownBy W' (some r6)) (hr:RowL W' r6 t6 cs) (hl:cs.length=k6) (hb:base≤r6) (hne:r5≠r6) (hbx:base≤Wx.heap.size):TwoS Wx base r5 t5 k5 r6 t6 k6 W':=by
 obtain ⟨p1,⟨c5,p3,l5⟩,p2,p4⟩:=h
 exact ⟨fun b h0 h1 h2=>(hg.block b (Nat.lt_of_lt_of_le h0 p4.size) (fun e=>h2 (Option.some.inj e))).trans (p1 b h0 h1 h2),⟨c5,p3.grown hg (fun e=>hne (Option.some.inj e)),l5⟩,⟨cs,hr,hl⟩,p4.grown hg (Nat.le_trans hbx p4.size) (pu4 (by omega))⟩
theorem TwoS.on {Wx W W':World} {base r5 t5 k5 r6 t6 k6:Nat} (h:TwoS Wx base r5 t5 k5 r6 t6 k6 W) (hb:Below W.heap.size W W') (hbx:base≤Wx.heap.size):TwoS Wx base r5 t5 k5 r6 t6 k6 W':=by
 obtain ⟨p1,⟨c5,p2,l5⟩,⟨c6,p3,l6⟩,p4⟩:=h
 exact ⟨fun b h0 h1 h2=>(hb.block b (Nat.lt_of_lt_of_le h0 p4.size)).trans (p1 b h0 h1 h2),⟨c5,p2.on hb,l5⟩,⟨c6,p3.on hb,l6⟩,p4.trans (hb.mono (Nat.le_trans hbx p4.size))⟩
theorem TwoS.fr {α:Type} {E:Enc α} {Wx W:World} {base r5 t5 k5 r6 t6 k6 lo:Nat} {A:Option Addr} {n:Nat} {l:List α} (h:TwoS Wx base r5 t5 k5 r6 t6 k6 W) (hr:RdE E Wx (fun b=>lo≤b∧b < Wx.heap.size) A n l) (h5:r5 < lo) (h6:r6 < lo):RdE E W (fun b=>lo≤b∧b < W.heap.size) A n l :=
 hr.mono (fun b hb=>h.1 b hb.2 (by omega) (by omega)) fun _ hb=>⟨hb.1,Nat.lt_of_lt_of_le hb.2 h.2.2.2.size⟩
theorem TwoS.und {α:Type} {E:Enc α} {Wx W:World} {base r5 t5 k5 r6 t6 k6 B:Nat} {A:Option Addr} {n:Nat} {l:List α} (h:TwoS Wx base r5 t5 k5 r6 t6 k6 W) (hr:RdE E Wx (Under B) A n l) (hB:B≤Wx.heap.size) (h5:B≤r5) (h6:B≤r6):RdE E W (Under B) A n l :=
 hr.mono (fun b hb=>h.1 b (Nat.lt_of_lt_of_le hb hB) (by unfold Under at hb;omega) (by unfold Under at hb;omega)) fun _ hb=>hb
theorem TwoS.row {Wx W:World} {base r5 t5 k5 r6 t6 k6 g t:Nat} {cs:List Value} (h:TwoS Wx base r5 t5 k5 r6 t6 k6 W) (hr:RowL Wx g t cs) (h5:g≠r5) (h6:g≠r6):RowL W g t cs:=(h.1 g hr.lt h5 h6).trans hr
section
variable {P : Program} {T T' k k' : Nat}
theorem res_tcc {fn : Func} {tmps : Array Value} {w : World} {s0 s g t s' g' t' : Nat} {v : Value} {cs cs' : List Value} (hr : fn.results = #[.tmp s0, .cell s T, .cell s' T']) (ht0 : tmps.getD s0 undef = v) (ht : tmps.getD s undef = .pointer (some ⟨g, 0, none⟩)) (ht' : tmps.getD s' undef = .pointer (some ⟨g', 0, none⟩)) (hag : ∀ w, (isAgg T).run P w = .ok true w) (hsz : ∀ w, (sizeOf T).run P w = .ok k w) (hag' : ∀ w, (isAgg T').run P w = .ok true w) (hsz' : ∀ w, (sizeOf T').run P w = .ok k' w)
  (h:RowL w g t cs) (hk:cs.length=k) (h':RowL w g' t' cs') (hk':cs'.length=k'):(results fn tmps).run P w=.ok (.tuple #[v,.agg cs.toArray,.agg cs'.toArray]) w:=by
 have hl:=run_loadRow (P:=P) h hk
 have hl':=run_loadRow (P:=P) h' hk'
 have ht2:tmps[s0]?.getD undef=v:=by simpa using ht0
 have ht3:tmps[s]?.getD undef=.pointer (some ⟨g,0,none⟩):=by simpa using ht
 have ht4:tmps[s']?.getD undef=.pointer (some ⟨g',0,none⟩):=by simpa using ht'
 simp [results,hr,ht2,ht3,ht4,hag,hsz,hl,hag',hsz',hl',go_sem]
end
end Go.Proofs.YtpndfahgflgocaaGreatDoor

