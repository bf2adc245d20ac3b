import Derived.Test.YtfdbhldnohaopaaGreatVw20
import Derived.Test.YtfdbhldnohaopaaGreatVw21
import Derived.Test.YtfdbhldnohaopaaGreatVw3
import Derived.Test.YtfdbhldnohaopaaGreatVw11

namespace Go.Proofs.YtfdbhldnohaopaaGreat
open Go.RowKit Go.Shelf Plain

def IfRet (w:World) (b:Bool) (P:Prop) (e:Ending) (w':World):Prop:=∃p:Bool,e=.returned (.bool p)∧Below w.heap.size w w'∧(p=b→P)
def FewB (many:Int) (ns:List NodV):Prop:=(ns.length:Int)≤many∧∀x∈ns,PlainN x
def FineN (ns:List NodV):Prop:=∀x∈ns,x.ents.length≤9223372036854775807
set_option maxRecDepth 100000 in
set_option maxHeartbeats 1600000 in
theorem PSt1_any {A:Option Addr} {n c gM:Nat} {many:Int} {ns:List NodV} (w:World) (h:RdE nodEn w (Under w.heap.size) A n ns) (hM:w.cell? ⟨gM,0,none⟩=some (.int .i64 many)) (hg:gM < w.heap.size) (hmany:many≤100000) (hsm:FineN ns) :
  Calls Tryz.prog 60 #[.agg #[.slice A n c],.pointer (some ⟨gM,0,none⟩)] w (IfRet w false (FewB many ns)):=by
 have r:=RowL.new w 26 [.slice A n c]
 have hb:=below_new (below_self w) (.cells [Value.slice A n c].toArray 26)
 obtain ⟨W1,hW1⟩:∃W1,w.alloc (.cells [Value.slice A n c].toArray 26)=W1:=⟨_,rfl⟩
 have H0:=h.on hb
 have q1:=(hb.cell (p:=⟨gM,0,none⟩) hg).trans hM
 rw [hW1] at r hb H0 q1
 have hW1':w.alloc (.cells #[.slice A n c] 26)=W1:=hW1
 have q0:W1.cell? ⟨w.heap.size,0,none⟩=some (.slice A n c):=r.cell 0
 have HN:=hide H0
 have HB:=hide hb
 have HFI:=hide hsm
 have HLN:=hide h.1
 clear r hb H0 hW1 h hsm hM
 go_enter Tryz.func60,Tryz.ntmps60
 go_wp2_with fail
 refine (PBranch_any W1 HN.out hmany HFI.out).mono ?_
 rintro e w3 ⟨p,rfl,hb3,hp⟩
 have HP:=hide hp
 have HB3:=hide (HB.out.trans (hb3.mono HB.out.size))
 clear hp hb3 q0 q1 hW1'
 cases p
 ·go_wp2_with fail
  go_ret
  exact ⟨true,rfl,HB3.out,fun h=>by cases h⟩
 ·go_wp2_with fail
  go_ret
  exact ⟨false,rfl,HB3.out,fun _=>by have:=HP.out (by first|rfl|trivial);exact ⟨by rw [HLN.out];exact this.1,this.2⟩⟩
set_option maxRecDepth 100000 in
set_option maxHeartbeats 1600000 in
theorem BrIdx_any {A:Option Addr} {n c gM:Nat} {many:Int} {l:List (List NodV)} (w:World) (h:RdE layEn w (Under w.heap.size) A n l) (hM:w.cell? ⟨gM,0,none⟩=some (.int .i64 many)) (hg:gM < w.heap.size) (hmany:many≤100000) (hn:n≤100000) (hsm:∀ns∈l,FineN ns) :
  Calls Tryz.prog 118 #[.slice A n c,.func (.func 60) #[] #[.pointer (some ⟨gM,0,none⟩)]] w (fun e w'=>∃r:Int,e=.returned (.int .i64 r)∧Below w.heap.size w w'∧(r < 0→∀ns∈l,FewB many ns)):=by
 have H:=hide h
 have hln:=h.1
 have HSM:=hide hsm
 have HM:=hide hM
 clear h hsm hM
 go_enter Tryz.func118,Tryz.ntmps118
 go_wp2
 go_loopw [8] (fun iv wr=>∃j:Nat,j≤n∧iv=.int .i64 j∧Below w.heap.size w wr∧∀i x,i < j→l[i]?=some x→FewB many x) (fun iv _=>n - (intOf iv).toNat)
 case atStart=>exact ⟨0,by omega,rfl,below_self _,fun i x hi=>by omega⟩
 case round =>
  obtain ⟨j,hj,rfl,hbr,hall⟩:=hrel
  have HBR:=hide hbr
  have HALL:=hide hall
  have hbsz:=hbr.size
  clear hbr hall
  by_cases hlt:j < n
  ·obtain ⟨ns,hx⟩:∃ns,l[j]?=some ns:=⟨_,List.getElem?_eq_getElem (by omega)⟩
   obtain ⟨b,o,rfl,hbB,A2,n2,c2,hc,hc2,hN2⟩:=RdE.get_list (F:=nodEn) (H.out.on HBR.out) hx
   have HN2:=hide hN2
   have q:wr.cell? ⟨b,o+j,none⟩=some (.slice A2 n2 c2):=hc
   have HX:=hide hx
   have HFI:=hide (HSM.out ns (List.mem_of_getElem? hx))
   have HM2:=hide ((HBR.out.cell (p:=⟨gM,0,none⟩) hg).trans HM.out)
   have hjn:(j:Int) < (n:Int):=by omega
   clear hx hN2 hc
   go_wp2_with fail
   refine (PSt1_any wr HN2.out HM2.out (by omega) hmany HFI.out).mono ?_
   rintro e w3 ⟨p,rfl,hb3,hp⟩
   have HP:=hide hp
   have HB3:=hide (HBR.out.trans (hb3.mono hbsz))
   clear hp hb3 q
   cases p with
   | true =>
    go_wp2_with fail
    go_ret
    exact ⟨(j:Int),rfl,HB3.out,fun h=>by omega⟩
   | false =>
    go_wp2_with fail
    go_roundw
    case rel=>exact ⟨j+1,by omega,by go_num,HB3.out,fun i y hi hy=>by
     by_cases e:i=j
     ·subst e
      have:=HX.out.symm.trans hy
      cases this
      exact HP.out (by first|rfl|trivial)
     ·exact HALL.out i y (by omega) hy⟩
    case measure=>simp [intOf];omega
  ·obtain rfl:j=n:=by omega
   go_wp2_with fail
   go_ret
   exact ⟨-1,rfl,HBR.out,fun _ x hx=>by
    obtain ⟨i,hi,rfl⟩:=List.mem_iff_getElem.1 hx
    exact HALL.out i _ (by omega) (List.getElem?_eq_getElem hi)⟩
set_option maxRecDepth 100000 in
theorem BrHas_any {A:Option Addr} {n c gM:Nat} {many:Int} {l:List (List NodV)} (w:World) (h:RdE layEn w (Under w.heap.size) A n l) (hM:w.cell? ⟨gM,0,none⟩=some (.int .i64 many)) (hg:gM < w.heap.size) (hmany:many≤100000) (hn:n≤100000) (hsm:∀ns∈l,FineN ns) :
  Calls Tryz.prog 59 #[.slice A n c,.func (.func 60) #[] #[.pointer (some ⟨gM,0,none⟩)]] w (IfRet w false (∀ns∈l,FewB many ns)):=by
 have H:=hide h
 have HM:=hide hM
 clear h hM
 go_enter Tryz.func59,Tryz.ntmps59
 go_wp2_with (go_at_call 118;refine (BrIdx_any w H.out HM.out hg hmany hn hsm).mono ?_;rintro e w3 ⟨r,rfl,hb3,hp⟩;have HP:=hide hp;have HB3:=hide hb3;clear hp hb3)
 go_ret
 exact ⟨_,rfl,HB3.out,fun h=>HP.out (by simpa using h)⟩
set_option maxRecDepth 100000 in
set_option maxHeartbeats 4000000 in
theorem PStackM_any {many:Int} (hmm:many≤24) {g:GeoQ} {AU AL:Option Addr} {nU cU nL cL:Nat} {up:List NodV} {ls:List (List NodV)} (w:World) (hu:RdE nodEn w (Under w.heap.size) AU nU up) (h:RdE layEn w (Under w.heap.size) AL nL ls) (hfu:FineN up) (hfl:∀ns∈ls,FineN ns) :
  Calls Tryz.prog 10 #[.agg (stkC g (.slice AU nU cU) (.slice AL nL cL)).toArray,.int .i64 many] w (IfRet w true (FewL ls∧FewB many up)):=by
 obtain ⟨r0,r1,hb2,hs2⟩:=rows2 w (stkC g (.slice AU nU cU) (.slice AL nL cL)) [.int .i64 many] 29 3
 obtain ⟨W2,hW2⟩:∃W2,(w.alloc (.cells (stkC g (.slice AU nU cU) (.slice AL nL cL)).toArray 29)).alloc (.cells [Value.int .i64 many].toArray 3)=W2:=⟨_,rfl⟩
 rw [hW2] at r0 r1 hb2 hs2
 have hW2':(w.alloc (.cells #[.int .i64 g.a,.int .i64 g.b,.int .i64 g.c,.int .i64 g.d,.slice AU nU cU,.slice AL nL cL] 29)).alloc (.cells #[.int .i64 many] 3)=W2:=hW2
 have q4:W2.cell? ⟨w.heap.size,4,none⟩=some (.slice AU nU cU):=r0.cell 4
 have q5:W2.cell? ⟨w.heap.size,5,none⟩=some (.slice AL nL cL):=r0.cell 5
 have m0:W2.cell? ⟨w.heap.size+1,0,none⟩=some (.int .i64 many):=r1.cell 0
 have R0:=hide r0
 have R1:=hide r1
 have HB2:=hide hb2
 have HU:=hide (hu.on hb2)
 have HL:=hide (h.on hb2)
 have HLL:=hide h.1
 have HUL:=hide hu.1
 have HFU:=hide hfu
 have HFL:=hide hfl
 have hsl:w.heap.size+2≤W2.heap.size:=by omega
 unfold stkC
 clear r0 r1 hb2 hW2 hs2 hu h hfu hfl
 by_cases k0:(nL:Int)≤3
 rotate_left
 ·have c0:decide ((nL:Int)≤3)=false:=decide_eq_false k0
  clear q4
  go_enter Tryz.func10,Tryz.ntmps10
  go_wp2_with fail
  go_ret
  exact ⟨false,rfl,HB2.out,fun h=>by cases h⟩
 have c0:decide ((nL:Int)≤3)=true:=decide_eq_true k0
 go_enter Tryz.func10,Tryz.ntmps10
 go_wp2_with fail
 clear hW2'
 refine (PBranch_any W2 HU.out (by omega) HFU.out).mono ?_
 rintro e w3 ⟨p,rfl,hb3,hp⟩
 have HP:=hide hp
 have HB3:=hide (HB2.out.trans (hb3.mono (by omega)))
 have s5:w3.cell? ⟨w.heap.size,5,none⟩=some (.slice AL nL cL):=(R0.out.on hb3).cell 5
 have M3:=hide ((R1.out.on hb3).cell 0)
 have HL3:=hide (HL.out.on hb3)
 have hs3:=hb3.size
 clear hp hb3 q4 q5 m0
 cases p
 ·clear s5
  go_wp2_with fail
  go_ret
  exact ⟨false,rfl,HB3.out,fun h=>by cases h⟩
 go_wp2_with fail
 refine (BrHas_any w3 HL3.out M3.out (by omega) (by omega) (by omega) HFL.out).mono ?_
 rintro e w4 ⟨p,rfl,hb4,hp4⟩
 have HP4:=hide hp4
 have HB4:=hide (HB3.out.trans (hb4.mono HB3.out.size))
 clear hp4 hb4 s5
 cases p
 ·go_wp2_with fail
  go_ret
  refine ⟨true,rfl,HB4.out,fun _=>?_⟩
  have h1:=HP.out (by first|rfl|trivial)
  have h2:=HP4.out (by first|rfl|trivial)
  exact ⟨⟨by rw [HLL.out];omega,fun ns hn=>⟨by have:=(h2 ns hn).1;omega,(h2 ns hn).2⟩⟩,⟨by rw [HUL.out];exact h1.1,h1.2⟩⟩
 ·go_wp2_with fail
  go_ret
  exact ⟨false,rfl,HB4.out,fun h=>by cases h⟩
end Go.Proofs.YtfdbhldnohaopaaGreat

namespace Go.Proofs.YtfdbhldnohaopaaGreat
open Go.RowKit Go.Shelf Plain

def viwC (u:Int) (s:Value):List Value:=[.int .i64 u,s]
def vwdC (g:GeoQ) (U L:Value) (u:Int) (s:Value):List Value:=[.int .i64 g.a,.int .i64 g.b,.int .i64 g.c,.int .i64 g.d,U,L,.int .i64 u,s]
theorem viwC_one (u:Int) (A:Option Addr) (n c:Nat):∀v∈viwC u (.slice A n c),v.oneCell'=true:=by simp [viwC,Value.oneCell']
theorem vwdC_one (g:GeoQ) (A B C:Option Addr) (n c m d k e:Nat) (u:Int):∀v∈vwdC g (.slice A n c) (.slice B m d) u (.slice C k e),v.oneCell'=true:=by simp [vwdC,Value.oneCell']
set_option maxRecDepth 100000 in
theorem viw_agg:∀w,(isAgg 47).run Tryz.prog w=.ok true w:=fun w=>by kernel_rfl
set_option maxRecDepth 100000 in
theorem viw_size:∀w,(Go.sizeOf 47).run Tryz.prog w=.ok 2 w:=fun w=>by kernel_rfl
set_option maxRecDepth 100000 in
theorem vwd_agg:∀w,(isAgg 103).run Tryz.prog w=.ok true w:=fun w=>by kernel_rfl
set_option maxRecDepth 100000 in
theorem vwd_size:∀w,(Go.sizeOf 103).run Tryz.prog w=.ok 8 w:=fun w=>by kernel_rfl
set_option maxRecDepth 100000 in
theorem int_size:∀w,(Go.sizeOf 3).run Tryz.prog w=.ok 1 w:=fun w=>by kernel_rfl
def FewU (up:List NodV):Prop:=up.length≤24∧∀x∈up,PlainN x
def FewX (up:List NodV):Prop:=up.length≤24∧∀x∈up,PlainX x
theorem FewU.toX {up:List NodV} (h:FewU up):FewX up:=⟨h.1,fun x hx=>(h.2 x hx).toX⟩
instance coeFewX {up:List NodV}:Coe (FewU up) (FewX up):=⟨FewU.toX⟩
def ViewF (lo:Nat) (w:World) (v:ViewV) (e:Ending) (w':World):Prop:=∃A c,e=.returned (.agg (viwC v.1 (.slice A v.2.length c)).toArray)∧RdE prEn w' (fun b=>lo≤b∧b < w'.heap.size) A v.2.length v.2∧Below w.heap.size w w'
set_option maxRecDepth 100000 in
set_option maxHeartbeats 1600000 in
theorem VOpq_b {x:NodV} {D C:Option Addr} {n c m d:Nat} {b:Bool} (hb:opqD x=b) (h0:0≤x.att.h) (h1:x.att.h≤31) (w:World):Calls Tryz.prog 66 #[.agg (nodC x (.slice D n c) (.slice C m d)).toArray] w (BoolB w b):=by
 obtain ⟨W1,hW1⟩:∃W1,(w.alloc (.cells (nodC x (.slice D n c) (.slice C m d)).toArray 38))=W1:=⟨_,rfl⟩
 obtain ⟨r0,hb1,hs1⟩:=rowA1 w _ _ hW1
 have hW1':(w.alloc (.cells #[.int .i64 x.k,.int .i64 x.p,.int .i64 x.n,.int .i64 x.g,.slice D n c,.slice C m d,.int .i64 x.att.h,.int .i64 x.att.o,.string ⟨x.att.r.toArray⟩,.int .i64 x.att.l,.int .i64 x.att.i,.int .i64 x.att.g,.int .i64 x.att.s] 38))=W1:=hW1
 have R1:=hide r0
 have HB:=hide hb1
 have hsz0:=hb1.size
 obtain ⟨b1,hb1'⟩:∃b1,(x.k==1)=b1:=⟨_,rfl⟩
 obtain ⟨b2,hb2⟩:∃b2,opq x=b2:=⟨_,rfl⟩
 have HO:=hide hb2
 have e:b=(b1&&b2):=by
  rw [←hb,←hb1',←hb2]
  unfold opqD
  congr 1
 subst e
 have q1_0:W1.cell? ⟨w.heap.size,0,none⟩=some (.int .i64 x.k):=R1.out.cell 0
 have q1_1:W1.cell? ⟨w.heap.size,1,none⟩=some (.int .i64 x.p):=R1.out.cell 1
 have q1_2:W1.cell? ⟨w.heap.size,2,none⟩=some (.int .i64 x.n):=R1.out.cell 2
 have q1_3:W1.cell? ⟨w.heap.size,3,none⟩=some (.int .i64 x.g):=R1.out.cell 3
 have q1_4:W1.cell? ⟨w.heap.size,4,none⟩=some (.slice D n c):=R1.out.cell 4
 have q1_5:W1.cell? ⟨w.heap.size,5,none⟩=some (.slice C m d):=R1.out.cell 5
 have q1_6:W1.cell? ⟨w.heap.size,6,none⟩=some (.int .i64 x.att.h):=R1.out.cell 6
 have q1_7:W1.cell? ⟨w.heap.size,7,none⟩=some (.int .i64 x.att.o):=R1.out.cell 7
 have q1_8:W1.cell? ⟨w.heap.size,8,none⟩=some (.string ⟨x.att.r.toArray⟩):=R1.out.cell 8
 have q1_9:W1.cell? ⟨w.heap.size,9,none⟩=some (.int .i64 x.att.l):=R1.out.cell 9
 have q1_10:W1.cell? ⟨w.heap.size,10,none⟩=some (.int .i64 x.att.i):=R1.out.cell 10
 have q1_11:W1.cell? ⟨w.heap.size,11,none⟩=some (.int .i64 x.att.g):=R1.out.cell 11
 have q1_12:W1.cell? ⟨w.heap.size,12,none⟩=some (.int .i64 x.att.s):=R1.out.cell 12
 unfold nodC
 clear r0 hb1 hW1 hb hb2
 cases b1 <;> cases b2
 all_goals
  go_enter Tryz.func66,Tryz.ntmps66
  go_wp2_with (first|(go_at_call 124;refine (Marked_b (by exact HO.out) h0 h1 W1).mono ?_;rintro e1 wX ⟨rfl,hbel⟩;clear q1_0 q1_1 q1_2 q1_3 q1_4 q1_5 q1_6 q1_7 q1_8 q1_9 q1_10 q1_11 q1_12;replace HB:=hide (HB.out.trans (hbel.mono HB.out.size));replace R1:=hide (R1.out.on hbel);have hsz2:=hbel.size;have q1_0:wX.cell? ⟨w.heap.size,0,none⟩=some (.int .i64 x.k):=R1.out.cell 0;have q1_1:wX.cell? ⟨w.heap.size,1,none⟩=some (.int .i64 x.p):=R1.out.cell 1;have q1_2:wX.cell? ⟨w.heap.size,2,none⟩=some (.int .i64 x.n):=R1.out.cell 2;have q1_3:wX.cell? ⟨w.heap.size,3,none⟩=some (.int .i64 x.g):=R1.out.cell 3;have q1_4:wX.cell? ⟨w.heap.size,4,none⟩=some (.slice D n c):=R1.out.cell 4;have q1_5:wX.cell? ⟨w.heap.size,5,none⟩=some (.slice C m d):=R1.out.cell 5;have q1_6:wX.cell? ⟨w.heap.size,6,none⟩=some (.int .i64 x.att.h):=R1.out.cell 6;have q1_7:wX.cell? ⟨w.heap.size,7,none⟩=some (.int .i64 x.att.o):=R1.out.cell 7;have q1_8:wX.cell? ⟨w.heap.size,8,none⟩=some (.string ⟨x.att.r.toArray⟩):=R1.out.cell 8;have q1_9:wX.cell? ⟨w.heap.size,9,none⟩=some (.int .i64 x.att.l):=R1.out.cell 9;have q1_10:wX.cell? ⟨w.heap.size,10,none⟩=some (.int .i64 x.att.i):=R1.out.cell 10;have q1_11:wX.cell? ⟨w.heap.size,11,none⟩=some (.int .i64 x.att.g):=R1.out.cell 11;have q1_12:wX.cell? ⟨w.heap.size,12,none⟩=some (.int .i64 x.att.s):=R1.out.cell 12;clear hbel))
  go_ret
  exact BoolB.of HB.out
end Go.Proofs.YtfdbhldnohaopaaGreat

namespace Go.Proofs.YtfdbhldnohaopaaGreat
open Go.RowKit Plain
variable {α : Type} {E : Enc α}

def OwD (E:Enc α) (D:Nat→Prop) (w:World) (base e:Nat) (A:Option Addr) (n c:Nat) (l:List α):Prop:=∃css,w.ownsRow base e E.k (.slice A n c) n css.flatten∧CellsE E w D css l∧l.length=n∧∀b,D b→b < w.heap.size∧∀a,A=some a→b≠a.block
theorem OwD.empty (E:Enc α) (w:World) (e:Nat):OwD E (fun _=>False) (w.alloc (.cells #[] e)) w.heap.size e (some ⟨w.heap.size,0,none⟩) 0 0 [] :=
 ⟨[],World.ownsRow_lit w #[] 0 (Nat.le_refl _) (by simp [maxLen]) (by simp),⟨rfl,fun i cs x h=>by simp at h⟩,rfl,fun _ h=>h.elim⟩
theorem OwD.grown {D:Nat→Prop} {w w':World} {base e n c:Nat} {A:Option Addr} {l:List α} {r:Option Nat} (h:OwD E D w base e A n c l) (hg:w.grownBy w' r) (hne:∀g,r=some g→¬D g∧∀a,A=some a→a.block≠g):OwD E D w' base e A n c l:=by
 obtain ⟨css,hown,hc,hl,hD⟩:=h
 have hk:Kept D w w':=fun b hb=>hg.block b (hD b hb).1 (fun e=>(hne b e.symm).1 hb)
 refine ⟨css,hown.kept hg ?_,hc.mono hk (fun _ h=>h),hl,fun b hb=>⟨Nat.lt_of_lt_of_le (hD b hb).1 hg.size,(hD b hb).2⟩⟩
 cases A with
 | none=>exact .inl rfl
 | some a=>exact .inr (fun e=>(hne a.block (by rw [←e];rfl)).2 a rfl rfl)
theorem run_append_OwD {P : Program} (w : World) (base : Nat) (t ty e : TypeId) (z : Value) (k : Nat) (ht : P.underlying t = some (.slice e)) (hinfo : (P.info? e).map (fun i => (i.zero, i.size, i.bytes)) = some (some z, E.k, k)) (hzs : z.cells.size = E.k) (hk : 0 < E.k)
  (D0:Nat→Prop) (A0:Option Addr) (n c0:Nat) (l0:List α) (hown:OwD E D0 w base e A0 n c0 l0) (D:Nat→Prop) (A:Option Addr) (m c:Nat) (l1:List α) (hb:RdE E w D A m l1) (hD:∀b,D b→b < w.heap.size∧∀a,A0=some a→b≠a.block)
  (hbytes:(n+m)*k≤140737488355328) (hnm:n+m≤140737488355328) (hbase:base≤w.heap.size) :
  ∃A' c' w',(Builtin.append_ #[t,t] ty #[.slice A0 n c0,.slice A m c]).run P w=.ok (.slice A' (n+m) c') w'∧OwD E (fun b=>D0 b∨D b) w' base e A' (n+m) c' (l0++l1)∧Below base w w':=by
 obtain ⟨css,hrow,hc,hl,hD0⟩:=hown
 obtain ⟨v',w',dss,hr,h2,h3,h4,h5,h6⟩:=run_append_E (P:=P) w base t ty e z k ht hinfo hzs hk _ n css hrow D A m c l1 hb hbytes hnm hbase
 have hv:∃A' c',v'=.slice A' (n+m) c':=by
  rcases h2.2 with ⟨rfl,h0⟩|⟨g,cap,cur,rfl,_⟩
  ·exact ⟨none,0,by rw [h0]⟩
  ·exact ⟨_,_,rfl⟩
 obtain ⟨A',c',rfl⟩:=hv
 have hall:∀b,(D0 b∨D b)→b < w.heap.size∧∀a,A0=some a→b≠a.block:=fun b hb=>hb.elim (hD0 b) (hD b)
 have hkept:Kept (fun b=>D0 b∨D b) w w':=by
  intro b hb
  refine h5.block b (hall b hb).1 ?_
  intro e
  cases A0 with
  | none=>simp [Value.ownBlock] at e
  | some a =>
   have:b=a.block:=by simpa [Value.ownBlock] using e
   exact (hall b hb).2 a rfl this
 refine ⟨A',c',w',hr,⟨css++dss,h2,?_,by rw [List.length_append,hl,hb.1],fun b hb=>⟨Nat.lt_of_lt_of_le (hall b hb).1 h4.size,fun a ha e=>?_⟩⟩,h4⟩
 ·exact (hc.mono (fun b hb=>hkept b (.inl hb)) (fun _ hb=>.inl hb)).append (h3.mono (fun b hb=>hkept b (.inr hb)) (fun _ hb=>.inr hb))
 ·subst ha
  rcases h6 with h6|h6
  ·cases A0 with
   | none=>simp [Value.ownBlock] at h6
   | some a0 =>
    have e2:a.block=a0.block:=by simpa [Value.ownBlock] using h6
    exact (hall b hb).2 a0 rfl (e.trans e2)
  ·have h7:=h6 a.block rfl
   have h8:=(hall b hb).1
   omega
theorem wpList_append_OwD {P : Program} (w : World) {ops : Array Oper} {rest : List Oper} {o : Oper} {a : Act} {Q : Exit → Act → World → Prop} (hgd : o.guard = none) (s x : Operand) (t : TypeId)
  (ho:o.op=.call {callee:=.builtin .append,args:=#[s,x],argTypes:=#[t,t]})
  (base:Nat) (e:TypeId) (z:Value) (k:Nat) (ht:P.underlying t=some (.slice e)) (hinfo:(P.info? e).map (fun i=>(i.zero,i.size,i.bytes))=some (some z,E.k,k)) (hzs:z.cells.size=E.k) (hk:0 < E.k)
  (D0:Nat→Prop) (A0:Option Addr) (n c0:Nat) (l0:List α) (hs:a.eval s=.slice A0 n c0) (hown:OwD E D0 w base e A0 n c0 l0) (D:Nat→Prop) (A:Option Addr) (m c:Nat) (l1:List α) (hx:a.eval x=.slice A m c) (hb:RdE E w D A m l1) (hD:∀b,D b→b < w.heap.size∧∀a,A0=some a→b≠a.block)
  (N:Nat) (hN:n+m=N) (hbytes:N*k≤140737488355328) (hnm:N≤140737488355328) (hbase:base≤w.heap.size)
  (h:∀A' c' w',OwD E (fun b=>D0 b∨D b) w' base e A' N c' (l0++l1)→Below base w w'→wpList P ops Q rest (a.put o.dst (.slice A' N c')) w'):wpList P ops Q (o::rest) a w:=by
 subst hN
 refine wpList_plain hgd fun K hK=>?_
 obtain ⟨A',c',w',hr,h2,h3⟩:=run_append_OwD (P:=P) w base t o.type e z k ht hinfo hzs hk D0 A0 n c0 l0 hown D A m c l1 hb hD hbytes hnm hbase
 unfold Oper.wp execOp
 simp only [ho,resolve,invoke,builtin,Sem.run_bind,Sem.run_pure,Result.andThen_ok,List.map_toArray,List.map_cons,List.map_nil,hs,hx,hr]
 exact hK _ _ (h A' c' w' h2 h3)
theorem OwD.own {D:Nat→Prop} {w:World} {base e n c:Nat} {A:Option Addr} {l:List α} (h:OwD E D w base e A n c l):OwE E w base e A n c l:=by
 obtain ⟨css,h1,h2,h3,h4⟩:=h
 exact ⟨css,h1,h2.mono (fun _ _=>rfl) (fun b hb=>⟨⟨(h4 b hb).1,fun _ _ _ _=>rfl⟩,(h4 b hb).2⟩),h3⟩
theorem OwD.dom {D D':Nat→Prop} {w:World} {base e n c:Nat} {A:Option Addr} {l:List α} (h:OwD E D w base e A n c l) (h1:∀b,D b→D' b) (h2:∀b,D' b→D b):OwD E D' w base e A n c l:=by
 obtain ⟨css,k1,k2,k3,k4⟩:=h
 exact ⟨css,k1,k2.mono (fun _ _=>rfl) h1,k3,fun b hb=>k4 b (h2 b hb)⟩
theorem OwD.nil_ (E:Enc α) {D:Nat→Prop} (w:World) (base e:Nat) (hD:∀b,D b→b < w.heap.size):OwD E D w base e none 0 0 [] :=
 ⟨[],⟨by simp,.inl ⟨rfl,rfl⟩⟩,⟨rfl,fun i cs x h=>by simp at h⟩,rfl,fun b hb=>⟨hD b hb,fun a ha=>by cases ha⟩⟩
theorem OwD.lt {D:Nat→Prop} {w:World} {base e n c:Nat} {A:Option Addr} {l:List α} (h:OwD E D w base e A n c l):∀a,A=some a→a.block < w.heap.size:=by
 obtain ⟨css,h1,-⟩:=h
 intro a ha
 rcases h1.2 with ⟨h2,-⟩|⟨g,cap,cur,he,-,hg,-⟩
 ·simp only [Value.slice.injEq] at h2
  rw [h2.1] at ha;cases ha
 ·simp only [Value.slice.injEq] at he
  rw [he.1] at ha
  cases ha
  rcases Nat.lt_or_ge g w.heap.size with hlt|hge
  ·exact hlt
  ·rw [Array.getElem?_eq_none hge] at hg;cases hg
end Go.Proofs.YtfdbhldnohaopaaGreat

namespace Go.Proofs.YtfdbhldnohaopaaGreat
open Go.RowKit Go.Shelf Plain

set_option maxRecDepth 100000 in
set_option maxHeartbeats 800000 in
theorem CloneNod_d {B:Nat} {A:Option Addr} {n c:Nat} {l:List NodV} (w:World) (h:RdE nodEn w (Under B) A n l) (hB:B≤w.heap.size) (hn:n≤100000):Calls Tryz.prog 12 #[.slice A n c] w (fun e w'=>∃A' c',e=.returned (.slice A' n c')∧OwD nodEn (Under B) w' w.heap.size 38 A' n c' l∧Below w.heap.size w w'):=by
 have H:=hide h
 cases A with
 | none =>
  have h0:n=0:=by
   rcases Nat.eq_zero_or_pos n with h0|h0
   ·exact h0
   ·obtain ⟨_,_,e,_⟩:=h.2 h0;cases e
  subst h0
  obtain rfl:l=[]:=List.eq_nil_of_length_eq_zero h.1
  have hnil:=fun W=>Lib.run_eql_slice_nil (P:=Tryz.prog) W 24 38 none 0 c 0 0 Tryz.underlying24
  clear h
  go_enter Tryz.func12,Tryz.ntmps12
  go_wp2
  go_ret
  exact ⟨none,0,rfl,OwD.nil_ _ _ _ _ (fun _ h=>Nat.lt_of_lt_of_le h hB),below_self w⟩
 | some a =>
  have hnil:=fun W=>Lib.run_eql_slice_nil (P:=Tryz.prog) W 24 38 (some a) n c 0 0 Tryz.underlying24
  clear h
  go_enter Tryz.func12,Tryz.ntmps12
  go_wp2_with (at_builtin;refine wpList_append_OwD (E:=nodEn) _ rfl (.tmp 5) (.tmp 6) 24 rfl w.heap.size 38 (.agg nodZ.toArray) 144 Tryz.underlying24 nodw_info rfl (by decide) (fun _=>False) (some ⟨w.heap.size,0,none⟩) 0 0 [] rfl (OwD.empty nodEn w 38) (Under B) (some a) n c l rfl (und_at H.out (below_new (below_self w) _) hB) (fun b hb=>⟨by unfold Under at hb;simp;omega,fun a' ha=>by cases ha;exact Nat.ne_of_lt (Nat.lt_of_lt_of_le hb hB)⟩) n (by omega) (by omega) (by omega) (by simp) ?_;intro A5 c5 w5 ho5 hb5;have HO5:=hide ho5;have HB5:=hide hb5;clear ho5 hb5)
  go_ret
  exact ⟨A5,c5,rfl,HO5.out.dom (fun _ h=>h.elim (fun h=>h.elim) (fun h=>h)) (fun _ h=>.inr h),(below_new (below_self w) _).trans HB5.out⟩
end Go.Proofs.YtfdbhldnohaopaaGreat

