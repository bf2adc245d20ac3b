import Derived.Test.YtmhiohnkjpglfaaGreatWs29
import Derived.Test.YtmhiohnkjpglfaaGreatWs16
import Derived.Test.YtmhiohnkjpglfaaGreatWs33
import Derived.Test.YtmhiohnkjpglfaaGreatWs28
import Derived.Test.YtmhiohnkjpglfaaGreatWs30
import Derived.Test.YtmhiohnkjpglfaaGreatWs31
import Derived.Test.YtmhiohnkjpglfaaGreatWs26
import Derived.Test.YtmhiohnkjpglfaaGreatWs25
import Derived.Test.YtmhiohnkjpglfaaGreatWs19
import Derived.Test.YtmhiohnkjpglfaaGreatWs18
import Derived.Test.YtmhiohnkjpglfaaGreatWs20
import Derived.Test.YtmhiohnkjpglfaaGreatWs17
import Derived.Test.YtmhiohnkjpglfaaGreatWs6
import Derived.Test.YtmhiohnkjpglfaaGreatWs27
import Derived.Test.YtmhiohnkjpglfaaGreatWs23
import Derived.Test.YtmhiohnkjpglfaaGreatWs21
import Derived.Test.YtmhiohnkjpglfaaGreatWs22

namespace Go.Proofs.YtmhiohnkjpglfaaGreat
open Go.RowKit Go.Shelf Plain

set_option maxRecDepth 100000 in
set_option maxHeartbeats 1600000 in
theorem neq_shn (t:List UInt8) (k a b:Int) (W:World):(binOp .neq 37 (.agg #[.string ⟨t.toArray⟩,.int .i64 k,.int .i64 a,.int .i64 b]) (.agg #[.string ⟨t.toArray⟩,.int .i64 k,.int .i64 a,.int .i64 b])).run Tryz.prog W=.ok (.bool false) W:=by
 simp [go_sem]
set_option maxHeartbeats 1600000 in
theorem EqShn_same {A B:Option Addr} {n m c d:Nat} {L:List ShnV} {D D':Nat→Prop} (w:World) (ha:RdE shnEn w D A n L) (hb:RdE shnEn w D' B m L) (hn:n≤140737488355328) :
  Calls Tryz.prog 11 #[.slice A n c,.slice B m d] w (BoolB w true):=by
 obtain rfl:n=m:=by rw [←ha.1,←hb.1]
 have HA:=hide ha
 have HB:=hide hb
 clear ha hb
 have hd:((n:Int) != (n:Int))=false:=by simp
 go_enter Tryz.func11,Tryz.ntmps11
 go_wp2
 go_loopw [13] (fun i wr=>∃j q:Nat,j≤n∧i=.int .i64 j∧wr=w.drewN q) (fun i _=>n - (intOf i).toNat)
 case atStart=>exact ⟨0,0,by omega,rfl,rfl⟩
 case round =>
  obtain ⟨j,q,hj,rfl,rfl⟩:=hrel
  by_cases hlt:j < n
  ·have hl1:j < L.length:=by rw [HA.out.1];exact hlt
   obtain ⟨b1,o1,rfl,hc1⟩:=HA.out.cellsR (by omega)
   obtain ⟨b2,o2,rfl,hc2⟩:=HB.out.cellsR (by omega)
   obtain ⟨cs1,hcs1,hc1⟩:=hc1 j _ (List.getElem?_eq_getElem hl1)
   obtain ⟨cs2,hcs2,hc2⟩:=hc2 j _ (List.getElem?_eq_getElem hl1)
   obtain rfl:cs1=shnC L[j]:=hcs1
   obtain rfl:cs2=shnC L[j]:=hcs2
   generalize L[j]=y at hc1 hc2
   obtain ⟨yt,yk,ya,yb⟩:=y
   have hL1:∀q,(Instr.loadAt 37 (.pointer (some ⟨b1,o1+j*4,none⟩))).run Tryz.prog (w.drewN q)=.ok (.agg #[.string ⟨yt.toArray⟩,.int .i64 yk,.int .i64 ya,.int .i64 yb]) (w.drewN q):=fun q=>run_loadAt_cells (w:=w.drewN q) shn_agg shn_size hc1 rfl
   have hL2:∀q,(Instr.loadAt 37 (.pointer (some ⟨b2,o2+j*4,none⟩))).run Tryz.prog (w.drewN q)=.ok (.agg #[.string ⟨yt.toArray⟩,.int .i64 yk,.int .i64 ya,.int .i64 yb]) (w.drewN q):=fun q=>run_loadAt_cells (w:=w.drewN q) shn_agg shn_size hc2 rfl
   have hne:=fun W=>neq_shn yt yk ya yb W
   clear hc1 hc2 hl1
   go_wp2
   refine wp_region_quiet_lit (by kernel_rfl) (by kernel_rfl) ?_
   iterate 3 (quiet_step (fail))
   refine Go.BigFrame.wpQuiet_want rfl (fun K hK=>?_)
   refine quietL 37 (.tmp 18) rfl _ _ rfl (by rintro _ ⟨n',rfl⟩;rw [World.drewN_drewN];exact hL1 _) (hK _ ?_)
   clear hK K
   iterate 3 (quiet_step (fail))
   refine Go.BigFrame.wpQuiet_want rfl (fun K hK=>?_)
   refine quietL 37 (.tmp 22) rfl _ _ rfl (by rintro _ ⟨n',rfl⟩;rw [World.drewN_drewN];exact hL2 _) (hK _ ?_)
   clear hK K
   iterate 1 (quiet_step (fail))
   refine wpQuiet_nil ?_
   rintro _ ⟨nq,rfl⟩
   go_wp2
   go_roundw
   case rel=>exact ⟨j+1,_,by omega,by go_num,rfl⟩
   case measure=>simp [intOf];omega
  ·obtain rfl:j=n:=by omega
   go_wp2
   go_ret
   exact BoolB.of (below_drewN (below_self w) _)
end Go.Proofs.YtmhiohnkjpglfaaGreat

namespace Go.Proofs.YtmhiohnkjpglfaaGreat
open Go.RowKit Go.Shelf Plain

theorem all_len {up:List NodV} {ls:List (List NodV)} (hF:FewL ls) (hup:FewU up):(allS up ls).length≤180000000:=by
 unfold allS
 split
 ·simp
 ·rename_i h
  exact (tour_more (tang_tree (by simpa using h)) hF hup 1800).2
end Go.Proofs.YtmhiohnkjpglfaaGreat

namespace Go.Proofs.YtmhiohnkjpglfaaGreat
open Go.RowKit Go.Shelf Plain

def ShnP (w:World) (n:Nat) (l:List ShnV) (e:Ending) (w':World):Prop:=∃A c,e=.returned (.slice A n c)∧RdE shnEn w' (Under w'.heap.size) A n l∧Below w.heap.size w w'
theorem All_p {g:GeoQ} {AU AL:Option Addr} {nU cU nL cL B:Nat} {up:List NodV} {ls:List (List NodV)} {R:List ShnV} {n:Nat} (hR:allS up ls=R) (hn:R.length=n) (w:World) (hu:RdE nodEn w (Under B) AU nU up) (h:RdE layEn w (Under B) AL nL ls) (hB:B≤w.heap.size) (hF:FewL ls) (hup:FewU up):Calls Tryz.prog 12 #[.agg (stkC g (.slice AU nU cU) (.slice AL nL cL)).toArray] w (ShnP w n R):=by
 refine (All_any w hu h hB hF hup).mono ?_
 rintro e w' ⟨A,m,c,rfl,-,h2,h3⟩
 rw [hR] at h2
 obtain rfl:n=m:=by rw [←hn];exact h2.1
 exact ⟨A,c,rfl,h2,h3⟩
end Go.Proofs.YtmhiohnkjpglfaaGreat

namespace Go.Proofs.YtmhiohnkjpglfaaGreat
open Go.RowKit Go.Shelf Plain

theorem eq_txt (a b:List UInt8) (W:World):(binOp .eql 9 (.string ⟨a.toArray⟩) (.string ⟨b.toArray⟩)).run Tryz.prog W=.ok (.bool (a==b)) W:=by
 by_cases h:a=b
 ·simp [go_sem,h]
 ·simp [go_sem]
end Go.Proofs.YtmhiohnkjpglfaaGreat

namespace Go.Proofs.YtmhiohnkjpglfaaGreat
open Go.RowKit Go.Shelf Plain

theorem rde_takeN {α:Type} {E:Enc α} {w:World} {D:Nat→Prop} {A:Option Addr} {n k:Nat} {l:List α} (h:RdE E w D A n l) (hk:k≤n):RdE E w D A k (l.take k):=by
 refine ⟨by rw [List.length_take,h.1];omega,fun h0=>?_⟩
 obtain ⟨b,o,e,hD,hc⟩:=h.2 (by omega)
 exact ⟨b,o,e,hD,fun i x hx=>hc i x (by rw [List.getElem?_take] at hx;split at hx;exact hx;cases hx)⟩
end Go.Proofs.YtmhiohnkjpglfaaGreat

namespace Go.Proofs.YtmhiohnkjpglfaaGreat
open Go.RowKit Go.Shelf Plain

theorem owns_capW {w:World} {base e k n c:Nat} {A:Option Addr} {cs:List Value} (h:w.ownsRow base e k (.slice A n c) n cs):n≤c:=by
 rcases h.2 with ⟨e1,_⟩|⟨g',cap',cur,e1,_,_,hnc,_⟩
 ·cases e1;exact Nat.le_refl _
 ·cases e1;exact hnc
set_option maxRecDepth 100000 in
theorem DelW_any {g0:Nat} {s:Int} {x:EntV} {r:Bool} (W:World) (hc:W.cell? ⟨g0,3,none⟩=some (.int .i64 s)) (hr:(x.slot==s)=r) :
  Calls Tryz.prog 35 #[.agg #[.int .i64 x.slot,.int .i64 x.ino,.string ⟨x.name.toArray⟩],.pointer (some ⟨g0,0,none⟩)] W (BoolB W r):=by
 have hB:=below_new (below_self W) (.cells #[.int .i64 x.slot,.int .i64 x.ino,.string ⟨x.name.toArray⟩] 75)
 have hlt:g0 < W.heap.size:=World.block_lt_of_cell? _ _ hc
 have c1:(W.alloc (.cells #[.int .i64 x.slot,.int .i64 x.ino,.string ⟨x.name.toArray⟩] 75)).cell? ⟨g0,3,none⟩=some (.int .i64 s):=(hB.cell (p:=⟨g0,3,none⟩) hlt).trans hc
 have HB:=hide hB
 have HR:=hide hr
 clear hB hr hc
 go_enter Tryz.func35,Tryz.ntmps35
 go_wp2
 go_ret
 exact BoolB.eq HR.out HB.out
set_option maxRecDepth 100000 in
theorem IndexW_any {A:Option Addr} {n c:Nat} {l:List EntV} {g0:Nat} {s r:Int} (w:World) (h:RdE entEn w (Under w.heap.size) A n l) (hn:n≤140737488355328) (hc:w.cell? ⟨g0,3,none⟩=some (.int .i64 s)) (hr:idxI s l=r) :
  Calls Tryz.prog 82 #[.slice A n c,.func (.func 35) #[] #[.pointer (some ⟨g0,0,none⟩)]] w (fun e w'=>e=.returned (.int .i64 r)∧Below w.heap.size w w'):=by
 have hl:=h.len
 have hlt:g0 < w.heap.size:=World.block_lt_of_cell? _ _ hc
 by_cases h0:0 < n
 ·obtain ⟨b,o,rfl,hD,hcs⟩:=ent_at h h0
  have eg:∀args w,(callFunc 35 args).run Tryz.prog w=.ok (.enter 35 args) w:=enters_of Tryz.func35 rfl rfl
  have hp:PredBelow Tryz.prog 35 #[.pointer (some ⟨g0,0,none⟩)] (fun x=>.agg (cellsE x).toArray) (fun x:EntV=>x.slot==s) w:=fun W x hB=>by
   have hlt2:=hB.size
   exact (DelW_any W ((hB.cell (p:=⟨g0,3,none⟩) hlt).trans hc) rfl).mono (fun e w' he=>⟨he.1,hB.trans (he.2.mono hlt2)⟩)
  have:=AnyQ.slices_IndexFunc idxL 3 ent_agg ent_size cellsE (fun _=>rfl) (fun x:EntV=>x.slot==s) 35 #[.pointer (some ⟨g0,0,none⟩)] eg b o n c l w hp (by omega) (by omega) hD hcs
  refine this.mono ?_
  rintro e w' ⟨rfl,hB⟩
  refine ⟨?_,hB⟩
  rw [List.take_of_length_le (by omega),←hr]
  unfold idxI
  rw [←idx_from]
  rfl
 ·obtain rfl:n=0:=by omega
  have hl0:l=[]:=List.length_eq_zero_iff.1 hl
  have hr0:(-1:Int)=r:=by rw [←hr,hl0];rfl
  clear h hl hl0 hr hn h0 hc
  subst hr0
  go_enter Tryz.func82,Tryz.ntmps82
  go_wp2
  go_loopw [8] (fun i wr=>i=.int .i64 0∧wr=w) (fun _ _=>0)
  case atStart=>exact ⟨rfl,rfl⟩
  case round =>
   obtain ⟨rfl,rfl⟩:=hrel
   go_wp2
   go_ret
   exact ⟨rfl,below_self _⟩

set_option maxRecDepth 100000 in
set_option maxHeartbeats 1600000 in
theorem DeleteW_any {v:Value} {n base:Nat} {l r:List EntV} {g0:Nat} {s:Int} (w:World) (h:w.ownsRow base 75 3 v n (flatE l)) (hn:n≤100) (hc:w.cell? ⟨g0,3,none⟩=some (.int .i64 s)) (hg:v.ownBlock≠some g0) (hr:l.filter (fun x=>!(x.slot==s))=r) :
  Calls Tryz.prog 33 #[v,.func (.func 35) #[] #[.pointer (some ⟨g0,0,none⟩)]] w (fun e w'=>∃A m c,e=.returned (.slice A m c)∧m≤100∧RdE entEn w' (Under w'.heap.size) A m r∧w.grownBy w' v.ownBlock∧(∀x,A=some x→v.ownBlock=some x.block)∧m≤c):=by
 obtain ⟨A,c,rfl⟩:=owns_slice h
 have hrd:=rde_owns h
 have hll:=hrd.len
 have hlt0:g0 < w.heap.size:=World.block_lt_of_cell? _ _ hc
 rcases idx_spec s l with ⟨e1,e2⟩|⟨k,hk,e1,e2⟩
 ·have hI:=IndexW_any (c:=c) w hrd (by omega) hc e1
  have hrl:l=r:=by rw [←hr,e2]
  subst hrl
  have HN:=hide hn
  have H:=hide h
  clear h hrd hc hg hr e1 e2 hll hlt0 hn
  go_enter Tryz.func33,Tryz.ntmps33
  go_wp2_with (go_at_call 82;refine hI.mono ?_;rintro e w1 ⟨rfl,hB1⟩)
  go_ret
  exact ⟨A,n,c,rfl,HN.out,rde_owns (ownsRow_below H.out hB1),grown_on (World.grownBy.refl _ _) hB1,fun x hx=>by subst hx;rfl,owns_capW H.out⟩
 ·obtain ⟨g,cap,e⟩:=Joins.ownsRow_form h (by omega)
  cases e
  obtain ⟨hd,hnc,_⟩:=del_start h e2
  have hI:=IndexW_any (c:=c) w hrd (by omega) hc e1
  have hgl:g < w.heap.size:=(h.lt g rfl).2
  have hgg:g0≠g:=fun e=>hg (by rw [e];rfl)
  have HD:=hide hd
  have HL:=hide hll
  have HK:=hide hk
  have HR:=hide hr
  have HC:=hide hc
  clear h hrd hc hg hr e1 e2 hll hd hk
  go_enter Tryz.func33,Tryz.ntmps33
  have hkn:((k:Int) == -1)=false:=by rw [beq_eq_false_iff_ne];omega
  have hkk:k < 100:=by have:=HL.out;have:=HK.out;omega
  go_wp2_with (go_at_call 82;refine hI.mono ?_;rintro e w1 ⟨rfl,hB1⟩)
  go_loopw [5,6,7] (fun iv jv _ wr=>∃a b:Nat,a < b∧b≤n∧iv=.int .i64 a∧jv=.int .i64 b∧Hid (DelAt l s n c g a b wr)∧w.grownBy wr (some g)) (fun _ jv _ _=>n - (intOf jv).toNat)
  case atStart =>
   have:=HL.out
   have:=HK.out
   exact ⟨k,k+1,by omega,by omega,rfl,by go_num,hide (HD.out.on hB1),grown_on (World.grownBy.refl _ _) hB1⟩
  case round =>
   obtain ⟨a,b,hab,hbn,rfl,rfl,HDA,hgr⟩:=hrel
   have HG:=hide hgr
   have hc1:wr.cell? ⟨g0,3,none⟩=some (.int .i64 s):=hgr.cell HC.out (fun e=>hgg (Option.some.inj e))
   have hsz:=hgr.size
   clear hgr
   by_cases hlt:b < n
   ·obtain ⟨x,hx⟩:∃x,l[b]?=some x:=⟨_,List.getElem?_eq_getElem (by have:=HL.out;omega)⟩
    have HE:Hid (∀j v,[Value.int .i64 x.slot,.int .i64 x.ino,.string ⟨x.name.toArray⟩][j]?=some v→wr.cell? ⟨g,b*3+j,none⟩=some v):=hide (HDA.out.entry hx)
    have HX:=hide hx
    obtain ⟨hr1,hb1,hs1⟩:=rows1 wr [.int .i64 x.slot,.int .i64 x.ino,.string ⟨x.name.toArray⟩] 75
    have HR1:=hide hr1
    have HB1:=hide hb1
    have hc2:(wr.alloc (.cells #[.int .i64 x.slot,.int .i64 x.ino,.string ⟨x.name.toArray⟩] 75)).cell? ⟨g0,3,none⟩=some (.int .i64 s):=(hb1.cell (p:=⟨g0,3,none⟩) (show g0 < wr.heap.size by omega)).trans hc1
    have HC2:=hide hc2
    clear hx hr1 hb1 hs1 hc1 hc2
    cases hs:(x.slot==s) with
    | true =>
     have HS:=hide hs
     clear hs
     go_wp2_with (first|(with_reducible refine wpList_loadX rfl 75 (.tmp 24) rfl 3 ent_agg ent_size g (b*3) rfl [Value.int .i64 x.slot,.int .i64 x.ino,.string ⟨x.name.toArray⟩] HE.out len3 ?_)|(with_reducible refine wpList_loadX rfl 75 (.tmp 7) rfl 3 ent_agg ent_size wr.heap.size 0 rfl [Value.int .i64 x.slot,.int .i64 x.ino,.string ⟨x.name.toArray⟩] HR1.out.at0 len3 ?_))
     refine (DelW_any _ HC2.out HS.out).mono ?_
     rintro e w2 ⟨rfl,hB2⟩
     have HB2:=hide hB2
     clear hB2
     go_wp2_with fail
     go_roundw
     case rel=>exact ⟨a,b+1,by omega,by omega,rfl,by go_num,hide ((HDA.out.skip HX.out HS.out).on (below_step HB1.out HB2.out)),grown_on HG.out (below_step HB1.out HB2.out)⟩
     case measure=>simp [intOf];omega
    | false =>
     have HS:=hide hs
     clear hs
     go_wp2_with (first|(with_reducible refine wpList_loadX rfl 75 (.tmp 24) rfl 3 ent_agg ent_size g (b*3) rfl [Value.int .i64 x.slot,.int .i64 x.ino,.string ⟨x.name.toArray⟩] HE.out len3 ?_)|(with_reducible refine wpList_loadX rfl 75 (.tmp 7) rfl 3 ent_agg ent_size wr.heap.size 0 rfl [Value.int .i64 x.slot,.int .i64 x.ino,.string ⟨x.name.toArray⟩] HR1.out.at0 len3 ?_))
     refine (DelW_any _ HC2.out HS.out).mono ?_
     rintro e w2 ⟨rfl,hB2⟩
     have HB2:=hide hB2
     clear hB2
     obtain ⟨cur,hrow,hcl,hkeep,_⟩:=(HDA.out.on (below_step HB1.out HB2.out)).row
     have HR2:=hide (HR1.out.on HB2.out)
     have HROW:=hide hrow
     have HFIT:Hid (a*3+3≤cur.length):=hide (by omega)
     have HONE:Hid (∀v∈[Value.int .i64 x.slot,.int .i64 x.ino,.string ⟨x.name.toArray⟩],v.oneCell'=true):=hide (by intro v hv;simp only [List.mem_cons,List.not_mem_nil,or_false] at hv;rcases hv with rfl|rfl|rfl <;> rfl)
     have HKP:=hide hkeep
     clear hrow hcl hkeep
     go_wp2_with (first
      | (with_reducible refine wpList_loadX rfl 75 (.tmp 7) rfl 3 ent_agg ent_size wr.heap.size 0 rfl [Value.int .i64 x.slot,.int .i64 x.ino,.string ⟨x.name.toArray⟩] HR2.out.at0 len3 ?_)
      | ((with_reducible refine wpList_storeC rfl 75 (.tmp 33) (.tmp 32) rfl 3 ent_size g (a*3) 75 rfl cur [Value.int .i64 x.slot,.int .i64 x.ino,.string ⟨x.name.toArray⟩] rfl HROW.out len3 HFIT.out HONE.out ?_);intro w3 hr3 hg3 _;have HR3:=hide hr3;have HG3:=hide hg3;clear hr3 hg3))
     go_roundw
     case rel=>exact ⟨a+1,b+1,by omega,by omega,by go_num,by go_num,hide (HKP.out w3 x HX.out HS.out hab hnc HR3.out),grown_t (grown_on HG.out (below_step HB1.out HB2.out)) HG3.out⟩
     case measure=>simp [intOf];omega
   ·obtain rfl:b=n:=by omega
    obtain ⟨cur,hrow,hcl,_,hend⟩:=HDA.out.row
    obtain ⟨Z,hZ,hclr⟩:=run_clear_ent wr g (a*3) (b - a) (c - a) 75 cur (by omega) hrow (by omega)
    have HW:=hide (hrow.setRow_ (splice cur (a*3) Z))
    have HEND:=hide (hend (wr.setRow g (splice cur (a*3) Z).toArray) Z (by rw [HL.out]) (by omega) HW.out (by omega))
    clear hrow hcl hend hZ
    go_wp2_with fail
    go_ret
    exact ⟨_,a,c,rfl,by omega,by rw [←HR.out];exact HEND.out,grown_t HG.out (grownBy_setRow _ _ _),fun x hx=>by cases hx;rfl,by omega⟩

theorem own_flat {w:World} {base e n c:Nat} {A:Option Addr} {l:List EntV} (h:OwE entEn w base e A n c l):w.ownsRow base e 3 (.slice A n c) n (flatE l):=by
 obtain ⟨css,hr,hc,-⟩:=h
 have:css=l.map cellsE:=by
  apply List.ext_getElem?
  intro i
  rw [List.getElem?_map]
  by_cases hi:i < l.length
  ·obtain ⟨cs,h1⟩:∃cs,css[i]?=some cs:=⟨_,List.getElem?_eq_getElem (by rw [hc.1];exact hi)⟩
   have h2:l[i]?=some l[i]:=List.getElem?_eq_getElem hi
   rw [h1,h2,ent_cells (hc.2 i _ _ h1 h2)]
   rfl
  ·rw [List.getElem?_eq_none (by rw [hc.1];omega),List.getElem?_eq_none (by omega)]
   rfl
 have e2:css.flatten=flatE l:=by
  rw [this]
  exact (List.flatMap_def ..).symm
 rw [←e2]
 exact hr
theorem OnF_any (y:EntV) {e:EntV} {gE:Nat} {b:Bool} (hb:(y.name==e.name)=b) (w:World) (re:RowL w gE 75 (cellsE e)):Calls Tryz.prog 75 #[.agg (cellsE y).toArray,.pointer (some ⟨gE,0,none⟩)] w (BoolB w b):=by
 have r:=RowL.new w 75 (cellsE y)
 have hb1:=below_new (below_self w) (.cells (cellsE y).toArray 75)
 have q1:(w.alloc (.cells (cellsE y).toArray 75)).cell? ⟨w.heap.size,2,none⟩=some (.string ⟨y.name.toArray⟩):=r.cell 2
 have q2:(w.alloc (.cells (cellsE y).toArray 75)).cell? ⟨gE,2,none⟩=some (.string ⟨e.name.toArray⟩):=(re.on hb1).cell 2
 have heq:=fun W=>eq_txt y.name e.name W
 have HBQ:=hide hb
 have HB:=hide hb1
 clear r hb1 hb re
 go_enter Tryz.func75,Tryz.ntmps75
 go_wp2
 go_ret
 exact BoolB.eq HBQ.out HB.out
set_option maxRecDepth 100000 in
set_option maxHeartbeats 1600000 in
theorem OnIdx_any {A:Option Addr} {n c:Nat} {gE:Nat} {l:List EntV} {p:EntV→Bool} (w:World) (h:RdE entEn w (Under w.heap.size) A n l) (hm:n≤1000000000) (hp:∀(W:World) (y:EntV),y∈l→Below w.heap.size w W→Calls Tryz.prog 75 #[.agg (cellsE y).toArray,.pointer (some ⟨gE,0,none⟩)] W (BoolB W (p y))) :
  Calls Tryz.prog 82 #[.slice A n c,.func (.func 75) #[] #[.pointer (some ⟨gE,0,none⟩)]] w (fun e w'=>∃r:Int,e=.returned (.int .i64 r)∧Below w.heap.size w w'∧((r = -1∧∀x∈l,p x=false)∨(0≤r∧∃x∈l,p x=true))):=by
 have H:=hide h
 have hn:=h.1
 have HP:=hide hp
 clear h hp
 go_enter Tryz.func82,Tryz.ntmps82
 go_wp2_with fail
 go_loopw [8] (fun iv wr=>∃j:Nat,j≤n∧iv=.int .i64 j∧Below w.heap.size w wr∧∀i x,i < j→l[i]?=some x→p x=false) (fun iv _=>n - (intOf iv).toNat)
 case atStart=>exact ⟨0,by omega,rfl,below_self _,fun i x hi=>by omega⟩
 case round =>
  obtain ⟨j,hj,rfl,hbr,hall⟩:=hrel
  have HBR:=hide hbr
  have HALL:=hide hall
  have hbs:=hbr.size
  clear hbr hall
  by_cases hlt:j < n
  ·obtain ⟨x,hx⟩:∃x,l[j]?=some x:=⟨_,List.getElem?_eq_getElem (by omega)⟩
   obtain ⟨b,o,rfl,-,hc⟩:=ent_get (H.out.on HBR.out) hx
   have HC:=hide hc
   have HX:=hide hx
   have hjn:(j:Int) < (n:Int):=by omega
   clear hc hx
   go_wp2_with (refine wpList_loadX rfl 75 (.tmp 14) rfl 3 entw_agg entw_size b (o+j*3) rfl (cellsE x) HC.out rfl ?_)
   obtain ⟨r,hr⟩:∃r,p x=r:=⟨_,rfl⟩
   have hcall:=HP.out wr x (List.mem_of_getElem? HX.out) HBR.out
   rw [hr] at hcall
   have HR:=hide hr
   clear hr
   refine hcall.mono ?_
   rintro e w3 ⟨rfl,hb3⟩
   have HB3:=hide (HBR.out.trans (hb3.mono hbs))
   clear hb3 hcall
   cases r with
   | true =>
    go_wp2_with fail
    go_ret
    exact ⟨(j:Int),rfl,HB3.out,.inr ⟨by omega,x,List.mem_of_getElem? HX.out,HR.out⟩⟩
   | false =>
    go_wp2_with fail
    go_roundw
    case rel=>exact ⟨j+1,by omega,by go_num,HB3.out,fun i y hi hy=>by
     by_cases e:i=j
     ·subst e
      have:=HX.out.symm.trans hy
      cases this
      exact HR.out
     ·exact HALL.out i y (by omega) hy⟩
    case measure=>simp [intOf];omega
  ·obtain rfl:j=n:=by omega
   go_wp2_with fail
   go_ret
   exact ⟨-1,rfl,HBR.out,.inl ⟨rfl,fun x hx=>by
    obtain ⟨i,hi,rfl⟩:=List.mem_iff_getElem.1 hx
    exact HALL.out i _ (by omega) (List.getElem?_eq_getElem hi)⟩⟩
set_option maxRecDepth 100000 in
theorem OnHas_any {A:Option Addr} {n c:Nat} {gE:Nat} {l:List EntV} {p:EntV→Bool} (w:World) (h:RdE entEn w (Under w.heap.size) A n l) (hm:n≤1000000000) (hp:∀(W:World) (y:EntV),y∈l→Below w.heap.size w W→Calls Tryz.prog 75 #[.agg (cellsE y).toArray,.pointer (some ⟨gE,0,none⟩)] W (BoolB W (p y))) :
  Calls Tryz.prog 74 #[.slice A n c,.func (.func 75) #[] #[.pointer (some ⟨gE,0,none⟩)]] w (BoolB w (l.any p)):=by
 have H:=hide h
 have HQ:=hide hp
 clear h hp
 go_enter Tryz.func74,Tryz.ntmps74
 go_wp2_with (go_at_call 82;refine (OnIdx_any w H.out hm HQ.out).mono ?_;rintro e w3 ⟨r,rfl,hb3,hp⟩;have HP:=hide hp;have HB3:=hide hb3;clear hp hb3)
 go_ret
 refine BoolB.eq ?_ HB3.out
 rcases HP.out with ⟨h1,h2⟩|⟨h1,ns,h2,h3⟩
 ·subst h1
  have:l.any p=false:=by rw [List.any_eq_false];exact fun x hx=>by rw [h2 x hx];simp
  rw [this]
  rfl
 ·have:l.any p=true:=List.any_eq_true.2 ⟨ns,h2,h3⟩
  rw [this]
  simpa using h1
def OncRet (w:World) (up:List NodV) (e:Ending) (w':World):Prop:=∃b:Bool,e=.returned (.bool b)∧Below w.heap.size w w'∧(b=false→OnceN up)
theorem OncRet.yes {w w':World} {up:List NodV} (h:Below w.heap.size w w'):OncRet w up (.returned (.bool true)) w':=⟨true,rfl,h,fun e=>by cases e⟩
theorem OncRet.no {w w':World} {up:List NodV} (h:Below w.heap.size w w') (ho:OnceN up):OncRet w up (.returned (.bool false)) w':=⟨false,rfl,h,fun _=>ho⟩
theorem once_snoc {l:List EntV} {j:Nat} {e:EntV} (h:((l.take j).map EntV.name).Nodup) (he:l[j]?=some e) (hb:(l.take j).any (fun y=>y.name==e.name)=false):((l.take (j+1)).map EntV.name).Nodup:=by
 rw [List.take_add_one,he,Option.toList_some,List.map_append,List.nodup_append]
 refine ⟨h,by simp,fun a ha b hb2 hab=>?_⟩
 obtain ⟨y,hy,rfl⟩:=List.mem_map.1 ha
 have e2:b=e.name:=by simpa using hb2
 rw [List.any_eq_false] at hb
 exact hb y hy (by simp [hab,e2])
set_option maxRecDepth 100000 in
set_option maxHeartbeats 8000000 in
theorem Once_any {g:GeoQ} {AU AL:Option Addr} {nU cU nL cL B:Nat} {up:List NodV} (w:World) (hu:RdE nodEn w (Under B) AU nU up) (hB:B≤w.heap.size) (hup:FewU up):Calls Tryz.prog 29 #[.agg (stkC g (.slice AU nU cU) (.slice AL nL cL)).toArray] w (OncRet w up):=by
 obtain ⟨W1,hW1⟩:∃W1,(w.alloc (.cells (stkC g (.slice AU nU cU) (.slice AL nL cL)).toArray 29))=W1:=⟨_,rfl⟩
 obtain ⟨r0,hb1,hs1⟩:=rowA1 w _ _ hW1
 have hW1':(w.alloc (.cells #[.int .i64 g.a,.int .i64 g.b,.int .i64 g.c,.int .i64 g.d,.slice AU nU cU,.slice AL nL cL] 29))=W1:=hW1
 have R1:=hide r0
 have HB:=hide hb1
 have hsz0:=hb1.size
 have HU:=hide (hu.under hb1 hB)
 have HFU:=hide hup
 have hn24:nU≤24:=by have h1:=hup.1;have h2:=hu.1;omega
 have q4:W1.cell? ⟨w.heap.size,4,none⟩=some (.slice AU nU cU):=R1.out.cell 4
 unfold stkC
 clear r0 hb1 hW1 hu hup
 go_enter Tryz.func29,Tryz.ntmps29
 go_wp2_with fail
 clear q4 hW1'
 go_loopw [11] (fun v11 wr=>∃i:Nat,i≤nU∧v11=.int .i64 i∧(∀k x,k < i→up[k]?=some x→(x.ents.map EntV.name).Nodup)∧Below W1.heap.size W1 wr) (fun v11 _=>nU - (intOf v11).toNat)
 case atStart=>exact ⟨0,by omega,rfl,fun k x hk=>by omega,below_self _⟩
 case round =>
  obtain ⟨i,hi,rfl,hall,hbr⟩:=hrel
  have hbs:=hbr.size
  have HBQ:=hide hbr
  have HALL:=hide hall
  replace R1:=hide (R1.out.on hbr)
  replace HU:=hide (HU.out.under hbr (by omega))
  clear hall hbr
  by_cases hlt:i < nU
  ·have hul:=HU.out.1
   obtain ⟨x,hx⟩:∃x,up[i]?=some x:=⟨_,List.getElem?_eq_getElem (by omega)⟩
   have hpl:=HFU.out.2 x (List.mem_of_getElem? hx)
   have hx16:=hpl.2.2.2.2.1
   obtain ⟨bU,oU,rfl,hbU,hc⟩:=HU.out.2 (by omega)
   obtain ⟨cs,⟨A0,n0,k0,C0,m0,d0,rfl,-,-,hmd,he0⟩,hcs⟩:=hc i x hx
   have HCX:=hide (fun k v (hv:(nodC x (.slice A0 n0 k0) (.slice C0 m0 d0))[k]?=some v)=>show wr.cell? ⟨bU,oU+i*13+k,none⟩=some v from by have h1:=hcs k v hv;rw [show nodEn.k=13 from rfl,←Nat.add_assoc] at h1;exact h1)
   have HE:=hide he0
   have HX:=hide hx
   have hin:(i:Int) < (nU:Int):=by omega
   have hml:x.ents.length=m0:=he0.1
   have HML:=hide hml
   have hm16:m0≤16:=by omega
   clear hc hcs he0 hx hpl hml hx16
   go_wp2_with (first|(refine wpList_loadX rfl 67 (.tmp 13) rfl 13 nod_agg nod_size bU (oU+i*13) rfl (nodC x (.slice A0 n0 k0) (.slice C0 m0 d0)) HCX.out rfl ?_)|(refine wpList_storeW rfl 67 (.tmp 4) (.tmp 14) rfl 13 nod_size (wr.heap.size) 67 rfl (nodC nod0 (.slice none 0 0) (.slice none 0 0)) (nodC x (.slice A0 n0 k0) (.slice C0 m0 d0)) rfl (RowL.new wr 67 (nodC nod0 (.slice none 0 0) (.slice none 0 0))) rfl rfl (nodC_one _ _ _ _ _ _ _) ?_;intro wS121 hr121 hg121 hs121;have hzb:=below_stored' hg121;replace HBQ:=hide (HBQ.out.trans (hzb.mono (by omega)));replace R1:=hide (R1.out.on hzb);replace HU:=hide (HU.out.under hzb (by omega));replace HE:=hide (HE.out.under hzb (by omega));have hsz122:=hzb.size;have R4:=hide hr121;have hlt121:=hr121.lt;have q4_5:wS121.cell? ⟨wr.heap.size,5,none⟩=some (.slice C0 m0 d0):=R4.out.cell 5;clear hzb hr121;clear hg121 hs121))
   have hW4:wr.heap.size≤wS121.heap.size:=by omega
   clear q4_5
   go_loopw [18] (fun v18 wi=>∃j:Nat,j≤m0∧v18=.int .i64 j∧((x.ents.take j).map EntV.name).Nodup∧Below wS121.heap.size wS121 wi) (fun v18 _=>m0 - (intOf v18).toNat)
   case atStart=>exact ⟨0,by omega,rfl,by simp,below_self _⟩
   case round =>
    rename World=>wi
    obtain ⟨j,hj,rfl,hnd,hbi⟩:=hrel
    have hbis:=hbi.size
    have HBI:=hide hbi
    have HND:=hide hnd
    have R4o:=R4
    have HEo:=HE
    replace R4:=hide (R4.out.on hbi)
    replace HE:=hide (HE.out.under hbi (by omega))
    clear hnd hbi
    by_cases hlj:j < m0
    ·obtain ⟨e,he⟩:∃e,x.ents[j]?=some e:=⟨_,List.getElem?_eq_getElem (by have:=HML.out;omega)⟩
     obtain ⟨bE,oE,rfl,hbE,hce⟩:=ent_get HE.out he
     have HCE:=hide (show ∀k v,(cellsE e)[k]?=some v→wi.cell? ⟨bE,oE+j*3+k,none⟩=some v from hce)
     obtain ⟨b,hbv⟩:∃b,(x.ents.take j).any (fun y=>y.name==e.name)=b:=⟨_,rfl⟩
     have HBV:=hide hbv
     have HEJ:=hide he
     have hjm:(j:Int) < (m0:Int):=by omega
     have hjc:(0:Int)≤(j:Int)∧(j:Int)≤(d0:Int):=by omega
     have q4_5:wi.cell? ⟨wr.heap.size,5,none⟩=some (.slice (some ⟨bE,oE,none⟩) m0 d0):=R4.out.cell 5
     clear hce hbv he
     go_wp2_with (first|(refine wpList_loadX rfl 75 (.tmp 21) rfl 3 entw_agg entw_size bE (oE+j*3) rfl (cellsE e) HCE.out rfl ?_)|(refine wpList_storeW rfl 75 (.tmp 6) (.tmp 22) rfl 3 entw_size (wi.heap.size) 75 rfl [.int .i64 0,.int .i64 0,.string ⟨#[]⟩] (cellsE e) rfl (RowL.new wi 75 [.int .i64 0,.int .i64 0,.string ⟨#[]⟩]) rfl rfl (cellsE_one _) ?_;intro wS161 hr161 hg161 hs161;have hzb:=below_stored' hg161;clear q4_5;replace HBI:=hide (HBI.out.trans (hzb.mono (by omega)));replace R4:=hide (R4.out.on hzb);replace HE:=hide (HE.out.under hzb (by omega));have hsz162:=hzb.size;have q4_5:wS161.cell? ⟨wr.heap.size,5,none⟩=some (.slice (some ⟨bE,oE,none⟩) m0 d0):=R4.out.cell 5;have R6:=hide hr161;have hlt161:=hr161.lt;clear hzb hr161;clear hg161 hs161))
     refine (show Calls Tryz.prog 74 #[.slice (some ⟨bE,oE,none⟩) j d0,.func (.func 75) #[] #[.pointer (some ⟨wi.heap.size,0,none⟩)]] wS161 (BoolB wS161 b) from by rw [←HBV.out];exact OnHas_any wS161 (und_up (rde_takeN HE.out (by omega)) (by omega)) (by omega) (fun W y _ hb=>OnF_any y rfl W (R6.out.on hb))).mono ?_
     rintro e9 wC ⟨rfl,hbC⟩
     clear q4_5
     replace HBI:=hide (HBI.out.trans (hbC.mono (by omega)))
     replace R4:=hide (R4.out.on hbC)
     replace HE:=hide (HE.out.under hbC (by omega))
     replace R6:=hide (R6.out.on hbC)
     have hsz163:=hbC.size
     have q4_5:wC.cell? ⟨wr.heap.size,5,none⟩=some (.slice (some ⟨bE,oE,none⟩) m0 d0):=R4.out.cell 5
     clear hbC
     cases b with
     | true =>
      go_wp2_with fail
      go_ret
      exact OncRet.yes (HB.out.trans ((HBQ.out.trans (HBI.out.mono (by omega))).mono (by have:=HB.out.size;omega)))
     | false =>
      go_wp2_with fail
      go_roundw
      case rel=>exact ⟨j+1,by omega,by go_num,once_snoc HND.out HEJ.out HBV.out,HBI.out⟩
      case measure=>simp [intOf];omega
    ·obtain rfl:m0=j:=by omega
     have hnj:¬((m0:Int) < (m0:Int)):=by omega
     have HNA:=hide (show (x.ents.map EntV.name).Nodup from by have h1:=HND.out;rw [List.take_of_length_le (by have:=HML.out;omega)] at h1;exact h1)
     go_wp2_with fail
     go_roundw
     case rel=>exact ⟨i+1,by omega,by go_num,fun k y hk hy=>by
      by_cases hki:k=i
      ·subst hki
       have h1:=HX.out.symm.trans hy
       cases h1
       exact HNA.out
      ·exact HALL.out k y (by omega) hy,HBQ.out.trans (HBI.out.mono (by omega))⟩
     case measure=>simp [intOf];omega
  ·obtain rfl:nU=i:=by omega
   have hnlt:¬((nU:Int) < (nU:Int)):=by omega
   have hul:=HU.out.1
   go_wp2_with fail
   go_ret
   exact OncRet.no (HB.out.trans (HBQ.out.mono (by have:=HB.out.size;omega))) (fun x hx=>by
    obtain ⟨k,hk,rfl⟩:=List.mem_iff_getElem.1 hx
    exact HALL.out k _ (by omega) (List.getElem?_eq_getElem hk))
end Go.Proofs.YtmhiohnkjpglfaaGreat

namespace Go.Proofs.YtmhiohnkjpglfaaGreat
open Go.RowKit Go.Shelf Plain

theorem take_map {l:List EntV} {i:Nat} {e:EntV} (h:l[i]?=some e):(l.take (i+1)).map EntV.name=(l.take i).map EntV.name++[e.name]:=by
 rw [List.take_add_one,h,Option.toList_some,List.map_append]
 rfl
set_option maxRecDepth 100000 in
set_option maxHeartbeats 8000000 in
theorem WNames_any {g:GeoQ} {AU AL:Option Addr} {nU cU nL cL B:Nat} {up:List NodV} {u:Int} {AV:Option Addr} {nV cV:Nat} (w:World) (hu:RdE nodEn w (Under B) AU nU up) (hB:B≤w.heap.size) (hup:FewU up):Calls Tryz.prog 79 #[.agg (stkC g (.slice AU nU cU) (.slice AL nL cL)).toArray,.agg (viwC u (.slice AV nV cV)).toArray] w (NamesO w (wnamesW up u)):=by
 obtain ⟨W1,hW1⟩:∃W1,((w.alloc (.cells (stkC g (.slice AU nU cU) (.slice AL nL cL)).toArray 29)).alloc (.cells (viwC u (.slice AV nV cV)).toArray 51))=W1:=⟨_,rfl⟩
 obtain ⟨r0,r1,hb1,hs1⟩:=rowA2 w _ _ _ _ hW1
 have hW1':((w.alloc (.cells #[.int .i64 g.a,.int .i64 g.b,.int .i64 g.c,.int .i64 g.d,.slice AU nU cU,.slice AL nL cL] 29)).alloc (.cells #[.int .i64 u,.slice AV nV cV] 51))=W1:=hW1
 have R2:=hide r0
 have R3:=hide r1
 have HB:=hide hb1
 have hsz0:=hb1.size
 have HU:=hide (hu.under hb1 hB)
 have HFU:=hide hup
 obtain ⟨L,hL⟩:∃L,whitesW up u=L:=⟨_,rfl⟩
 have hll:L.length≤16:=by rw [←hL];exact whites_len hup u
 have HWT:=hide (show wnamesW up u=sortS (L.map EntV.name) from by unfold wnamesW;rw [hL])
 have HLW:=hide hL
 unfold stkC viwC
 clear r0 r1 hb1 hW1 hu hup hL
 go_enter Tryz.func79,Tryz.ntmps79
 go_wp2_with (first|(refine wpList_loadW rfl 29 (.tmp 2) rfl 6 stk_agg stk_size (w.heap.size) 29 rfl (stkC g (.slice AU nU cU) (.slice AL nL cL)) R2.out rfl ?_)|(refine wpList_loadW rfl 51 (.tmp 3) rfl 2 viw_agg viw_size (w.heap.size+1) 51 rfl (viwC u (.slice AV nV cV)) R3.out rfl ?_)|(go_at_call 81;refine (Whites_any (u:=u) (cV:=cV) W1 HU.out (by omega) HFU.out).mono ?_;rintro e1 wE ⟨A1,m,c1,rfl,hE,hbel⟩;replace HB:=hide (HB.out.trans (hbel.mono HB.out.size));replace R2:=hide (R2.out.on hbel);replace R3:=hide (R3.out.on hbel);replace HU:=hide (HU.out.under hbel (by omega));have hsz2:=hbel.size;rw [HLW.out] at hE;have HE:=hide ((hE.rd rfl).plain);clear hE;clear hbel))
 have hm16:m≤16:=by have:=HE.out.1;omega
 have hWE:w.heap.size≤wE.heap.size:=HB.out.size
 clear hW1'
 go_loopw [5,12] (fun v5 v12 wr=>∃(i n5:Nat) (A5:Option Addr) (c5:Nat),i≤m∧v12=.int .i64 i∧v5=.slice A5 n5 c5∧n5≤i∧Ow st wr wE.heap.size 9 A5 n5 c5 ((L.take i).map EntV.name)∧Below wE.heap.size wE wr) (fun _ v12 _=>m - (intOf v12).toNat)
 case atStart=>exact ⟨0,0,none,0,by omega,rfl,rfl,by omega,Ow.nil_ _ _ _ _,Below.refl _ _⟩
 case round =>
  obtain ⟨i,n5,A5,c5,hi,rfl,rfl,hn5,ho,hbr⟩:=hrel
  have hbsz:=hbr.size
  have HBR:=hide hbr
  have HO:=hide ho
  have HEr:=hide (HE.out.mono (fun b hb=>hbr.block b hb) (fun _ h=>h):RdE entEn wr (Under wE.heap.size) A1 m L)
  clear ho hbr
  by_cases hlt:i < m
  ·obtain ⟨e,he⟩:∃e,L[i]?=some e:=⟨_,List.getElem?_eq_getElem (by have:=HE.out.1;omega)⟩
   obtain ⟨bE,oE,rfl,hbE,hcE⟩:=ent_get HEr.out he
   have HCE:=hide hcE
   have HT:=hide (take_map he)
   have him:(i:Int) < (m:Int):=by omega
   clear he hcE
   go_wp2_with (first|(refine wpList_loadX rfl 75 (.tmp 14) rfl 3 entw_agg entw_size bE (oE+i*3) rfl (cellsE e) HCE.out rfl ?_)|(refine wpList_storeW rfl 75 (.tmp 7) (.tmp 15) rfl 3 entw_size (wr.heap.size) 75 rfl [.int .i64 0,.int .i64 0,.string ⟨#[]⟩] (cellsE e) rfl (RowL.new wr 75 [.int .i64 0,.int .i64 0,.string ⟨#[]⟩]) rfl rfl (cellsE_one _) ?_;intro wS61 hr61 hg61 hs61;have hzb:=below_stored' hg61;replace HBR:=hide (HBR.out.trans (hzb.mono (by omega)));replace HO:=hide (HO.out.below hzb);have hsz62:=hzb.size;have RE:=hide hr61;have hlt61:=hr61.lt;have q7_2:wS61.cell? ⟨wr.heap.size,2,none⟩=some (.string ⟨e.name.toArray⟩):=RE.out.cell 2;clear hzb hr61;clear hg61 hs61)|(at_builtin;refine wpList_append_Rd (f:=st) _ rfl (.tmp 16) (.tmp 19) 41 rfl wE.heap.size 9 _ 16 Tryz.underlying41 info_st rfl (fun _=>rfl) A5 n5 c5 _ rfl (HO.out.below (below_new (below_self wS61) _)) _ _ 1 1 [e.name] rfl (Rd.one _ _ rfl) (n5+1) rfl (by omega) (by omega) (by simp;omega) ?_;intro A7 c7 w7 ho7 hb7;have HO7:=hide ho7;have HB7:=hide ((HBR.out.alloc (by omega) _).trans hb7);clear ho7 hb7))
   go_roundw
   case rel=>exact ⟨i+1,n5+1,A7,c7,by omega,by go_num,rfl,by omega,by rw [HT.out];exact HO7.out,HB7.out⟩
   case measure=>simp [intOf];omega
  ·obtain rfl:m=i:=by omega
   have hnlt:¬((m:Int) < (m:Int)):=by omega
   have ho:=HO.out
   rw [List.take_of_length_le (by have:=HE.out.1;omega)] at ho
   have HO5:=hide ho
   clear ho
   go_wp2_with fail
   refine (NSort_any wr HO5.out.rd (by omega)).mono ?_
   rintro ez w3 ⟨A3,c3,rfl,ho3,hb3⟩
   have HO3:=hide ho3
   have HB3:=hide (HB.out.trans ((HBR.out.trans (hb3.mono hbsz)).mono hWE))
   clear hb3 ho3
   go_wp2_with fail
   go_ret
   rw [HWT.out]
   exact ⟨A3,_,c3,rfl,HO3.out.rebase (by omega),HB3.out⟩
end Go.Proofs.YtmhiohnkjpglfaaGreat

