import Derived.Test.YtmhiohnkjpglfaaIt22
import Derived.Test.YtmhiohnkjpglfaaIt10
import Derived.Test.YtmhiohnkjpglfaaIt20
import Derived.Deep.Cut
import Derived.Deep.CutRange
import Derived.Test.YtmhiohnkjpglfaaIt13

namespace Go.Proofs.Ytmhiohnkjpglfaa
open Go.RowKit Go.Shelf Plain

set_option maxRecDepth 100000 in
set_option maxHeartbeats 1600000 in
theorem place_any {A:Option Addr} {n c:Nat} {l:List WayV} {i:Int} (w:World) (h:RdE wayEn w (Under w.heap.size) A n l) (hn:n≤100000) :
  Calls Try.prog 48 #[.slice A n c,.int .i64 i] w (fun e w'=>∃r:Int,e=.returned (.int .i64 r)∧w=w'∧decide (0≤r)=cameW l i):=by
 have H:=hide h
 have hl:=h.1
 clear h
 go_enter Try.func48,Try.ntmps48
 go_wp2
 go_loopw [5] (fun iv wr=>∃j:Nat,j≤n∧iv=.int .i64 j∧wr=w∧cameW (l.take j) i=false) (fun iv _=>n - (intOf iv).toNat)
 case atStart=>exact ⟨0,by omega,rfl,rfl,by simp [cameW]⟩
 case round =>
  obtain ⟨j,hj,rfl,hwr,hc⟩:=hrel
  subst hwr
  have HC:=hide hc
  clear hc
  by_cases hlt:j < n
  ·obtain ⟨y,hy⟩:∃y,l[j]?=some y:=⟨_,List.getElem?_eq_getElem (by omega)⟩
   obtain ⟨b,o,rfl,-,hcy⟩:=way_get H.out hy
   have q:wr.cell? ⟨b,o+j*3,none⟩=some (.int .i64 y.ino):=hcy 0 _ rfl
   have HY:=hide hy
   clear hcy hy
   by_cases e:y.ino=i
   ·have he:(y.ino==i)=true:=by simpa using e
    have hca:cameW l i=true:=came_iff.2 ⟨y,List.mem_of_getElem? HY.out,e⟩
    have HCA:=hide hca
    clear e hca
    go_wp2
    go_ret
    exact ⟨(j:Int),rfl,rfl,by rw [HCA.out];simp⟩
   ·have he:(y.ino==i)=false:=by simpa using e
    have hst:cameW (l.take (j+1)) i=false:=by
     have:=HC.out
     unfold cameW at this ⊢
     rw [List.take_add_one,HY.out,List.any_append,this]
     simpa using e
    have HST:=hide hst
    clear e hst
    go_wp2
    go_roundw
    case rel=>exact ⟨j+1,by omega,by go_num,(by first|rfl|trivial),HST.out⟩
    case measure=>simp [intOf];omega
  ·obtain rfl:j=n:=by omega
   have hca:cameW l i=false:=by have:=HC.out;rwa [List.take_of_length_le (by omega)] at this
   go_wp2
   go_ret
   exact ⟨-1,rfl,rfl,by rw [hca];rfl⟩
theorem own_lit0 (w:World) (e s:Nat) {B base:Nat} (h:w.heap.size=B) (hb:base≤B):(w.alloc (.cells #[] e)).ownsRow base e s (.slice (some ⟨B,0,none⟩) 0 0) 0 []:=by
 subst h
 have h:(w.alloc (.cells #[] e)).ownsRow w.heap.size e s (.slice (some ⟨w.heap.size,0,none⟩) 0 0) 0 []:=World.ownsRow_lit w #[] 0 (Nat.le_refl _) (by simp [maxLen]) (by simp)
 refine ⟨h.1,?_⟩
 rcases h.2 with h1|⟨g,cap,cur,h1,h2,h3⟩
 ·exact .inl h1
 ·exact .inr ⟨g,cap,cur,h1,Nat.le_trans hb h2,h3⟩
def entsW (ns:List NodV) (d:Int) (p:Nat) (s:StW) (l:List EntV) (i:Nat):StW:=((l.zipIdx.take i).filter (fun x=>isDir ns x.1.ino)).foldl (oneW d p) s
theorem entsW_zero (ns:List NodV) (d:Int) (p:Nat) (s:StW) (l:List EntV):entsW ns d p s l 0=s:=by simp [entsW]
theorem entsW_succ {ns:List NodV} {d:Int} {p:Nat} {s:StW} {l:List EntV} {i:Nat} {x:EntV} (h:l[i]?=some x):entsW ns d p s l (i+1)=if isDir ns x.ino=true then oneW d p (entsW ns d p s l i) (x,i) else entsW ns d p s l i:=by
 have hz:l.zipIdx[i]?=some (x,i):=by rw [List.getElem?_zipIdx,h];simp
 unfold entsW
 rw [List.take_add_one,hz,List.filter_append,List.foldl_append]
 cases hd:isDir ns x.ino <;> simp [hd]
theorem entsW_pre {ns:List NodV} {d:Int} {p:Nat} {s:StW} {l:List EntV} {i:Nat}:s.1 <+: (entsW ns d p s l i).1:=by
 unfold entsW
 exact foldl_keep (P:=fun t:StW=>s.1 <+: t.1) _ _ (List.prefix_refl _) (fun _ _ _ hs=>hs.trans one_pre)
theorem entsW_ok {ns:List NodV} {d:Int} {p:Nat} {s:StW} {l:List EntV} {i:Nat} (h:OkW ns s.1):OkW ns (entsW ns d p s l i).1:=by
 unfold entsW
 exact foldl_keep (P:=fun t:StW=>OkW ns t.1) _ _ h (fun _ x hx hs=>one_ok hs (List.mem_filter.1 hx).2)
theorem entsW_tw {ns:List NodV} {d:Int} {p:Nat} {s:StW} {l:List EntV} {i:Nat}:(entsW ns d p s l i).2.length≤s.2.length+l.length:=by
 unfold entsW
 have h1:=fold_tw d p ((l.zipIdx.take i).filter (fun x=>isDir ns x.1.ino)) s
 have h2:((l.zipIdx.take i).filter (fun x=>isDir ns x.1.ino)).length≤l.length:=Nat.le_trans (List.length_filter_le _ _) (by rw [List.length_take,List.length_zipIdx];omega)
 omega
theorem entsW_all {ns:List NodV} {p:Nat} {s:StW} {y:WayV} (h:s.1[p]?=some y):entsW ns y.ino p s (nodAt ns y.ino).ents (nodAt ns y.ino).ents.length=visitW ns p s:=by
 unfold entsW visitW
 rw [List.take_of_length_le (by simp),h]
 rfl
set_option maxRecDepth 100000 in
set_option maxHeartbeats 1600000 in
theorem At_anyB {A:Option Addr} {B:Nat} {n c:Nat} {ns:List NodV} {i:Int} (w:World) (h:RdE nodEn w (Under B) A n ns) (hB:B≤w.heap.size) (hm:ns.length≤100000):Calls Try.prog 21 #[.agg #[.slice A n c],.int .i64 i] w (NodRet w B (nodAt ns i)):=by
 have hl:=h.1
 obtain ⟨rz0,rz,hbz,-⟩:=rows2 w [.slice A n c] (nodC nod0 (.slice none 0 0) (.slice none 0 0)) 26 46
 have HZ:=hide rz
 have HB:=hide hbz
 have qb:((w.alloc (.cells [Value.slice A n c].toArray 26)).alloc (.cells (nodC nod0 (.slice none 0 0) (.slice none 0 0)).toArray 46)).cell? ⟨w.heap.size,0,none⟩=some (.slice A n c):=rz0.cell 0
 have hN:=h
 by_cases h1:i < 1
 ·have e:nodAt ns i=nod0:=nodAt_out (by omega)
  have d1:decide (i < 1)=true:=by simpa using h1
  rw [e]
  clear h hN rz rz0 hbz e
  go_enter Try.func21,Try.ntmps21
  go_wp2_with (refine wpList_storeW rfl 46 (.tmp 4) (.tmp 14) rfl 13 nod_size (w.heap.size+1) 46 rfl (nodC nod0 (.slice none 0 0) (.slice none 0 0)) (nodC nod0 (.slice none 0 0) (.slice none 0 0)) rfl HZ.out rfl rfl (nodC_one nod0 none none 0 0 0 0) ?_;intro w9 hr9 hg9 hs9;have HR9:=hide hr9;have HB9:=hide (HB.out.grown hg9 HB.out.size (pu4 (by omega)));clear hr9 hg9 hs9)
  exact bodyPost_ret (res_cell Try.results21 rfl nod_agg nod_size HR9.out rfl) rfl (NodRet.of (Nat.le_refl _) (RdE.none_ _ _ _ _) (Nat.le_refl _) (RdE.none_ _ _ _ _) HB9.out hB)
 ·have d1:decide (i < 1)=false:=by simpa using h1
  by_cases h2:(n:Int) < i
  ·have e:nodAt ns i=nod0:=nodAt_out (by omega)
   have d2:decide ((n:Int) < i)=true:=by simpa using h2
   rw [e]
   clear h hN rz rz0 hbz e
   go_enter Try.func21,Try.ntmps21
   go_wp2_with (refine wpList_storeW rfl 46 (.tmp 4) (.tmp 14) rfl 13 nod_size (w.heap.size+1) 46 rfl (nodC nod0 (.slice none 0 0) (.slice none 0 0)) (nodC nod0 (.slice none 0 0) (.slice none 0 0)) rfl HZ.out rfl rfl (nodC_one nod0 none none 0 0 0 0) ?_;intro w9 hr9 hg9 hs9;have HR9:=hide hr9;have HB9:=hide (HB.out.grown hg9 HB.out.size (pu4 (by omega)));clear hr9 hg9 hs9)
   exact bodyPost_ret (res_cell Try.results21 rfl nod_agg nod_size HR9.out rfl) rfl (NodRet.of (Nat.le_refl _) (RdE.none_ _ _ _ _) (Nat.le_refl _) (RdE.none_ _ _ _ _) HB9.out hB)
  ·have d2:decide ((n:Int) < i)=false:=by simpa using h2
   obtain ⟨j,x,rfl,hx,e⟩:=nodAt_in (ns:=ns) (i:=i) (by omega)
   rw [e]
   obtain ⟨b,o,cs,rfl,hbB,hNd,hcell⟩:=hN.get_nod hx
   have hjn:j < n:=by omega
   have hcell1:=fun j' v (hv:cs[j']?=some v)=>(hbz.cell (p:=⟨b,o+j*13+j',none⟩) (Nat.lt_of_lt_of_le hbB hB)).trans (hcell j' v hv)
   obtain ⟨A1,n1,c1,C1,m1,d1',rfl,e2,e3,e4,e5⟩:=hNd
   have HC:=hide hcell1
   have E3:=hide e3
   have E5:=hide e5
   have hw1:IntKind.i64.wrap ((j:Int)+1 - 1)=(j:Int):=by rw [show (j:Int)+1 - 1=j from by omega];exact IntWalk.i64_in _ (by omega)
   have hw2:IntKind.i64.wrap (j:Int)=(j:Int):=IntWalk.i64_in _ (by omega)
   clear h hN rz rz0 hbz e hcell hcell1 e3 e5 hx h1 h2
   go_enter Try.func21,Try.ntmps21
   go_wp2_with (first|(refine wpList_loadX rfl 46 (.tmp 19) rfl 13 nod_agg nod_size b (o+j*13) rfl (nodC x (.slice A1 n1 c1) (.slice C1 m1 d1')) HC.out rfl ?_)|(refine wpList_storeW rfl 46 (.tmp 4) (.tmp 20) rfl 13 nod_size (w.heap.size+1) 46 rfl (nodC nod0 (.slice none 0 0) (.slice none 0 0)) (nodC x (.slice A1 n1 c1) (.slice C1 m1 d1')) rfl HZ.out rfl rfl (nodC_one x A1 C1 n1 c1 m1 d1') ?_;intro w9 hr9 hg9 hs9;have HR9:=hide hr9;have HB9:=hide (HB.out.grown hg9 HB.out.size (pu4 (by omega)));clear hr9 hg9 hs9))
   exact bodyPost_ret (res_cell Try.results21 rfl nod_agg nod_size HR9.out rfl) rfl (NodRet.of e2 E3.out e4 E5.out HB9.out hB)
theorem two_way {B:Nat} {W0 wr w9:World} {v6 v7:Value} {n6 n7 e6 e7 s6 s7:Nat} {L6 L7 cs:List Value} {t:Nat} (ho6:wr.ownsRow B e6 s6 v6 n6 L6) (ho7:wr.ownsRow B e7 s7 v7 n7 L7) (he:e6≠e7) (hb:Below B W0 wr) (hB:B≤wr.heap.size) (hg:(wr.alloc (.cells cs.toArray t)).grownBy w9 v6.ownBlock):w9.ownsRow B e7 s7 v7 n7 L7∧Below B W0 w9:=by
 have ha:=below_new (below_self wr) (.cells cs.toArray t)
 have h6:=ownsRow_below ho6 ha
 have h7:=ownsRow_below ho7 ha
 exact ⟨h7.kept hg (owns_apart h6 h7 he),(hb.trans (ha.mono hB)).grown hg (by have:=ha.size;omega) (fun q hq=>(own_block h6 q hq).1)⟩
end Go.Proofs.Ytmhiohnkjpglfaa

namespace Go.Proofs.Ytmhiohnkjpglfaa
open Go.RowKit Go.Shelf Plain

structure GeoQ where
 (a b c d:Int)
def stkC (g:GeoQ) (U L:Value):List Value:=[.int .i64 g.a,.int .i64 g.b,.int .i64 g.c,.int .i64 g.d,U,L]
def layEn:Enc (List NodV):=Enc.list nodEn
set_option maxRecDepth 100000 in
theorem stk_agg:∀w,(isAgg 29).run Try.prog w=.ok true w:=fun w=>by kernel_rfl
set_option maxRecDepth 100000 in
theorem stk_size:∀w,(Go.sizeOf 29).run Try.prog w=.ok 6 w:=fun w=>by kernel_rfl
theorem Of_e {A:Option Addr} {B:Nat} {n c:Nat} {ns:List NodV} {i:Int} {x:NodV} (hx:nodAt ns i=x) (w:World) (h:RdE nodEn w (Under B) A n ns) (hB:B≤w.heap.size) (hm:ns.length≤100000):Calls Try.prog 32 #[.agg #[.slice A n c],.int .i64 i] w (NodRet w B x):=by rw [←hx];exact Of_any w h hB hm
end Go.Proofs.Ytmhiohnkjpglfaa

namespace Go.Proofs.Ytmhiohnkjpglfaa
open Go.RowKit Go.Shelf Plain

set_option maxRecDepth 100000 in
set_option maxHeartbeats 1600000 in
theorem NHas_b {x:NodV} {D C:Option Addr} {n c m d:Nat} {q:Int} {b:Bool} (hb:(bits .and .i64 x.att.h q==q)=b) (w:World):Calls Try.prog 31 #[.agg (nodC x (.slice D n c) (.slice C m d)).toArray,.int .i64 q] w (BoolB w b):=by
 have r:=RowL.new w 46 (nodC x (.slice D n c) (.slice C m d))
 have hb1:=below_new (below_self w) (.cells (nodC x (.slice D n c) (.slice C m d)).toArray 46)
 obtain ⟨W1,hW1⟩:∃W1,w.alloc (.cells (nodC x (.slice D n c) (.slice C m d)).toArray 46)=W1:=⟨_,rfl⟩
 rw [hW1] at r hb1
 have hW1':w.alloc (.cells #[.int .i64 x.k,.int .i64 x.p,.int .i64 x.n,.int .i64 x.g,.slice D n c,.slice C m d,.int .i64 x.att.h,.int .i64 x.att.o,.string ⟨x.att.r.toArray⟩,.int .i64 x.att.l,.int .i64 x.att.i,.int .i64 x.att.g,.int .i64 x.att.s] 46)=W1:=hW1
 have q6:W1.cell? ⟨w.heap.size,6,none⟩=some (.int .i64 x.att.h):=r.cell 6
 have HB1:=hide hb1
 have HBB:=hide hb
 unfold nodC
 clear r hb1 hW1
 go_enter Try.func31,Try.ntmps31
 go_wp2
 go_ret
 exact BoolB.of HB1.out
end Go.Proofs.Ytmhiohnkjpglfaa

namespace Go.Proofs.Ytmhiohnkjpglfaa
open Go.RowKit Go.Shelf Plain

def attC (a:AttV):List Value:=[.int .i64 a.h,.int .i64 a.o,.string ⟨a.r.toArray⟩,.int .i64 a.l,.int .i64 a.i,.int .i64 a.g,.int .i64 a.s]
end Go.Proofs.Ytmhiohnkjpglfaa

namespace Go.Proofs.Ytmhiohnkjpglfaa
open Go.RowKit Go.Shelf Plain

section
variable {P : Program} {T T' k k' : Nat}
end
def FirstBS (w9:World) (base ge gn r1 r2:Nat) (ec nc:List Value) (W:World):Prop:=RowL W ge 53 ec∧RowL W gn 46 nc∧(∃cu,RowL W r1 53 cu∧cu.length=3)∧(∃cu,RowL W r2 46 cu∧cu.length=13)∧Below base w9 W
theorem FirstBS.drew {w9:World} {base ge gn r1 r2:Nat} {ec nc:List Value} {W:World} (h:FirstBS w9 base ge gn r1 r2 ec nc W):FirstBS w9 base ge gn r1 r2 ec nc W.drew:=⟨h.1,h.2.1,h.2.2.1,h.2.2.2.1,⟨h.2.2.2.2.os,h.2.2.2.2.tape,h.2.2.2.2.output,h.2.2.2.2.size,h.2.2.2.2.block⟩⟩
end Go.Proofs.Ytmhiohnkjpglfaa

namespace Go.Proofs.Ytmhiohnkjpglfaa
open Go.RowKit Go.Shelf Plain

section
variable {gS gL : Nat} {p : List UInt8 → Bool} {B0 : Nat}
def DelN (p:List UInt8→Bool) (l:List (List UInt8)) (n c g a b:Nat) (W:World):Prop:=∃cs,RowL W g 9 cs∧cs.length=c∧n≤c∧((l.take b).filter (fun x=>!p x)).length=a∧cs.take a=((l.take b).filter (fun x=>!p x)).map st∧∀i x,b≤i→l[i]?=some x→cs[i]?=some (st x)
theorem DelN.on {l:List (List UInt8)} {n c g a b:Nat} {W W':World} (h:DelN p l n c g a b W) (hb:Below W.heap.size W W'):DelN p l n c g a b W':=by
 obtain ⟨cs,h1,h2⟩:=h
 exact ⟨cs,h1.on hb,h2⟩
theorem DelN.skip {l:List (List UInt8)} {n c g a b:Nat} {W:World} {x:List UInt8} (h:DelN p l n c g a b W) (hx:l[b]?=some x) (hp:p x=true):DelN p l n c g a (b+1) W:=by
 obtain ⟨cs,h1,h2,h3,h4,h5,h6⟩:=h
 have e:(l.take (b+1)).filter (fun x=>!p x)=(l.take b).filter (fun x=>!p x):=by rw [List.take_add_one,hx,List.filter_append];simp [hp]
 exact ⟨cs,h1,h2,h3,by rw [e];exact h4,by rw [e];exact h5,fun i y hi hy=>h6 i y (by omega) hy⟩
theorem DelN.put {l:List (List UInt8)} {n c g a b:Nat} {W:World} {x:List UInt8} (h:DelN p l n c g a b W) (hx:l[b]?=some x) (hp:p x=false) (hab:a < b) (hbc:b < c):DelN p l n c g (a+1) (b+1) (W.setCell ⟨g,a,none⟩ (st x)):=by
 obtain ⟨cs,h1,h2,h3,h4,h5,h6⟩:=h
 have e:(l.take (b+1)).filter (fun x=>!p x)=(l.take b).filter (fun x=>!p x)++[x]:=by rw [List.take_add_one,hx,List.filter_append];simp [hp]
 refine ⟨cs.set a (st x),h1.set_ a _,by rw [List.length_set];exact h2,h3,by rw [e,List.length_append,h4];rfl,?_,fun i y hi hy=>?_⟩
 ·rw [e,List.map_append,←h5,List.take_add_one,List.getElem?_set_self (by omega),List.take_set_of_le (Nat.le_refl _)]
  rfl
 ·rw [List.getElem?_set_ne (by omega)]
  exact h6 i y (by omega) hy
end
end Go.Proofs.Ytmhiohnkjpglfaa

