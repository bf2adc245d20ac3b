import Derived.Test.YtnhegahpfacdgaaGreatRt3
import Derived.Test.YtnhegahpfacdgaaGreatRt13
import Derived.Test.YtnhegahpfacdgaaGreatRt18

namespace Go.Proofs.YtnhegahpfacdgaaGreat
open Go.RowKit Plain

def kidsW (ns:List NodV) (i:Int):List EntV:=(nodAt ns i).ents.filter (fun e=>isDir ns e.ino)
def wgt (ns : List NodV) : Nat → Int → Nat
 | 0,_=>0
 | f+1,i=>1+((kidsW ns i).map (fun e=>wgt ns f e.ino)).sum
def inW (ns:List NodV) (i:Int):Prop:=∃y∈(walkW ns [1]).1,y.ino=i
theorem walk_one (ns:List NodV):walkW ns [1]=rootW ns ([],[]) 1:=rfl
theorem root_run {ns:List NodV} (h:isDir ns 1=true):walkW ns [1]=runW ns ns.length 0 ([⟨1,-1,[]⟩],[]):=by
 rw [walk_one]
 unfold rootW
 rw [if_pos (by simp [h,cameW])]
 rfl
theorem in_root {ns:List NodV} (h:isDir ns 1=true):inW ns 1:=by
 refine ⟨⟨1,-1,[]⟩,?_,rfl⟩
 rw [root_run h]
 exact (run_pre (ns:=ns) ns.length 0 ([⟨1,-1,[]⟩],[])).subset (by simp)
def wt (ns:List NodV) (i:Int):Nat:=wgt ns 24 i
end Go.Proofs.YtnhegahpfacdgaaGreat

namespace Go.Proofs.YtnhegahpfacdgaaGreat
open Go.RowKit Go.Shelf Plain

theorem fr_on {α:Type} {E:Enc α} {w w':World} {lo:Nat} {A:Option Addr} {n:Nat} {l:List α} (h:RdE E w (fun b=>lo≤b∧b < w.heap.size) A n l) (hb:Below w.heap.size w w'):RdE E w' (fun b=>lo≤b∧b < w'.heap.size) A n l :=
 h.mono (Kept.of_below hb fun _ h=>h.2) fun _ h=>⟨h.1,Nat.lt_of_lt_of_le h.2 hb.size⟩
theorem fr_grown {α:Type} {E:Enc α} {w w':World} {lo g:Nat} {A:Option Addr} {n:Nat} {l:List α} (h:RdE E w (fun b=>lo≤b∧b < w.heap.size) A n l) (hg:w.grownBy w' (some g)) (hlo:g < lo):RdE E w' (fun b=>lo≤b∧b < w'.heap.size) A n l :=
 h.mono (fun b hb=>hg.block b hb.2 (pu5 (by omega))) fun _ h=>⟨h.1,Nat.lt_of_lt_of_le h.2 hg.size⟩
theorem und_grown {α:Type} {E:Enc α} {w w':World} {B g:Nat} {A:Option Addr} {n:Nat} {l:List α} (h:RdE E w (Under B) A n l) (hg:w.grownBy w' (some g)) (hB:B≤w.heap.size) (hlo:B≤g):RdE E w' (Under B) A n l :=
 h.mono (fun b hb=>hg.block b (Nat.lt_of_lt_of_le hb hB) (fun e=>by have:=Option.some.inj e;unfold Under at hb;omega)) fun _ h=>h
theorem fr_under {α:Type} {E:Enc α} {w:World} {lo:Nat} {A:Option Addr} {n:Nat} {l:List α} (h:RdE E w (fun b=>lo≤b∧b < w.heap.size) A n l):RdE E w (Under w.heap.size) A n l:=h.mono (fun _ _=>rfl) fun _ h=>h.2
theorem fr_low {α:Type} {E:Enc α} {w:World} {lo lo':Nat} {A:Option Addr} {n:Nat} {l:List α} (h:RdE E w (fun b=>lo≤b∧b < w.heap.size) A n l) (hl:lo'≤lo):RdE E w (fun b=>lo'≤b∧b < w.heap.size) A n l:=h.mono (fun _ _=>rfl) fun _ h=>⟨Nat.le_trans hl h.1,h.2⟩
theorem splice_one (l:List Value) (p:Nat) (v:Value) (h:p < l.length):splice l p [v]=l.set p v:=by
 apply List.ext_getElem?
 intro i
 rw [splice_get _ _ _ _ (by simp;omega),List.getElem?_set]
 by_cases h1:p=i
 ·subst h1
  simp [h]
 ·rw [if_neg h1]
  by_cases h2:i < p
  ·rw [if_pos h2]
  ·have h3:¬i < p+[v].length:=by simp;omega
   rw [if_neg h2,if_neg h3]
theorem wpList_storeV {P : Program} {w : World} {ops : Array Oper} {rest : List Oper} {o : Oper} {a : Act} {Q : Exit → Act → World → Prop} (hgd : o.guard = none) (T : Nat) (x y : Operand) (ho : o.op = .store T x y)
  (hsz:∀w,(sizeOf T).run P w=.ok 1 w) (g off t:Nat) (hx:a.eval x=.pointer (some ⟨g,off,none⟩)) (v:Value) (hy:a.eval y=v) (hv:v.cells=#[v]) (h1:v.oneCell'=true) (cur:List Value) (h:RowL w g t cur) (hfit:off < cur.length)
  (hK:∀w',RowL w' g t (cur.set off v)→w.grownBy w' (some g)→w'.heap.size=w.heap.size→wpList P ops Q rest (a.put o.dst undef) w'):wpList P ops Q (o::rest) a w:=by
 refine wpList_plain hgd fun K hK'=>?_
 have hst:=run_storeCells_at P g off t [v] 0 cur.toArray w h (by simp;omega) (by simp [h1])
 simp only [Nat.add_zero] at hst
 have hr:(Instr.storeAt T (.pointer (some ⟨g,off,none⟩)) v).run P w=.ok () (w.setRow g (splice cur off [v]).toArray):=by
  simp [Instr.storeAt,Instr.sureAddr,storeVar,hsz,hv,hst,splice]
 unfold Oper.wp execOp
 simp only [ho,Sem.run_bind,Sem.run_pure,Result.andThen_ok,hx,hy,hr]
 have hrow:=h.setRow_ (splice cur off [v])
 rw [splice_one _ _ _ hfit] at hrow ⊢
 exact hK' _ _ (hK _ hrow (grownBy_setRow _ _ _) (by simp))
theorem und_up {α:Type} {E:Enc α} {w:World} {B:Nat} {A:Option Addr} {n:Nat} {l:List α} (h:RdE E w (Under B) A n l) (hB:B≤w.heap.size):RdE E w (Under w.heap.size) A n l:=h.mono (fun _ _=>rfl) fun _ h=>Nat.lt_of_lt_of_le h hB
theorem sub_cell {cur cs:List Value} {off k:Nat} (h:(cur.drop off).take k=cs) {j:Nat} {v:Value} (hv:cs[j]?=some v):cur[off+j]?=some v:=by
 subst h
 rw [List.getElem?_take] at hv
 split at hv
 ·rwa [List.getElem?_drop] at hv
 ·cases hv
theorem rowA1 (w:World) (c1:List Value) (t1:Nat) {W:World} (hW:w.alloc (.cells c1.toArray t1)=W):RowL W w.heap.size t1 c1∧Below w.heap.size w W∧W.heap.size=w.heap.size+1:=by
 subst hW
 exact ⟨RowL.new w t1 c1,below_new (below_self w) _,by simp⟩
theorem rowA2 (w:World) (c1:List Value) (t1:Nat) (c2:List Value) (t2:Nat) {W:World} (hW:(w.alloc (.cells c1.toArray t1)).alloc (.cells c2.toArray t2)=W):RowL W w.heap.size t1 c1∧RowL W (w.heap.size+1) t2 c2∧Below w.heap.size w W∧W.heap.size=w.heap.size+2:=by
 subst hW
 exact rows2 w c1 c2 t1 t2
theorem rowA3 (w:World) (c1:List Value) (t1:Nat) (c2:List Value) (t2:Nat) (c3:List Value) (t3:Nat) {W:World} (hW:((w.alloc (.cells c1.toArray t1)).alloc (.cells c2.toArray t2)).alloc (.cells c3.toArray t3)=W):RowL W w.heap.size t1 c1∧RowL W (w.heap.size+1) t2 c2∧RowL W (w.heap.size+1+1) t3 c3∧Below w.heap.size w W∧W.heap.size=w.heap.size+3:=by
 subst hW
 exact rows3 w c1 c2 c3 t1 t2 t3
end Go.Proofs.YtnhegahpfacdgaaGreat

namespace Go.Proofs.YtnhegahpfacdgaaGreat
open Go.RowKit Go.Shelf Plain

def IfRet (w:World) (b:Bool) (P:Prop) (e:Ending) (w':World):Prop:=∃p:Bool,e=.returned (.bool p)∧Below w.heap.size w w'∧(p=b→P)
def FewB (many:Int) (ns:List NodV):Prop:=(ns.length:Int)≤many∧∀x∈ns,PlainN x
def FineN (ns:List NodV):Prop:=∀x∈ns,x.ents.length≤9223372036854775807
set_option maxRecDepth 100000 in
set_option maxHeartbeats 1600000 in
theorem PSt1_any {A:Option Addr} {n c gM:Nat} {many:Int} {ns:List NodV} (w:World) (h:RdE nodEn w (Under w.heap.size) A n ns) (hM:w.cell? ⟨gM,0,none⟩=some (.int .i64 many)) (hg:gM < w.heap.size) (hmany:many≤100000) (hsm:FineN ns) :
  Calls Tryz.prog 16 #[.agg #[.slice A n c],.pointer (some ⟨gM,0,none⟩)] w (IfRet w false (FewB many ns)):=by
 have r:=RowL.new w 26 [.slice A n c]
 have hb:=below_new (below_self w) (.cells [Value.slice A n c].toArray 26)
 obtain ⟨W1,hW1⟩:∃W1,w.alloc (.cells [Value.slice A n c].toArray 26)=W1:=⟨_,rfl⟩
 have H0:=h.on hb
 have q1:=(hb.cell (p:=⟨gM,0,none⟩) hg).trans hM
 rw [hW1] at r hb H0 q1
 have hW1':w.alloc (.cells #[.slice A n c] 26)=W1:=hW1
 have q0:W1.cell? ⟨w.heap.size,0,none⟩=some (.slice A n c):=r.cell 0
 have HN:=hide H0
 have HB:=hide hb
 have HFI:=hide hsm
 have HLN:=hide h.1
 clear r hb H0 hW1 h hsm hM
 go_enter Tryz.func16,Tryz.ntmps16
 go_wp2_with fail
 refine (PBranch_any W1 HN.out hmany HFI.out).mono ?_
 rintro e w3 ⟨p,rfl,hb3,hp⟩
 have HP:=hide hp
 have HB3:=hide (HB.out.trans (hb3.mono HB.out.size))
 clear hp hb3 q0 q1 hW1'
 cases p
 ·go_wp2_with fail
  go_ret
  exact ⟨true,rfl,HB3.out,fun h=>by cases h⟩
 ·go_wp2_with fail
  go_ret
  exact ⟨false,rfl,HB3.out,fun _=>by have:=HP.out (by first|rfl|trivial);exact ⟨by rw [HLN.out];exact this.1,this.2⟩⟩
set_option maxRecDepth 100000 in
set_option maxHeartbeats 1600000 in
theorem BrIdx_any {A:Option Addr} {n c gM:Nat} {many:Int} {l:List (List NodV)} (w:World) (h:RdE layEn w (Under w.heap.size) A n l) (hM:w.cell? ⟨gM,0,none⟩=some (.int .i64 many)) (hg:gM < w.heap.size) (hmany:many≤100000) (hn:n≤100000) (hsm:∀ns∈l,FineN ns) :
  Calls Tryz.prog 35 #[.slice A n c,.func (.func 16) #[] #[.pointer (some ⟨gM,0,none⟩)]] w (fun e w'=>∃r:Int,e=.returned (.int .i64 r)∧Below w.heap.size w w'∧(r < 0→∀ns∈l,FewB many ns)):=by
 have H:=hide h
 have hln:=h.1
 have HSM:=hide hsm
 have HM:=hide hM
 clear h hsm hM
 go_enter Tryz.func35,Tryz.ntmps35
 go_wp2
 go_loopw [8] (fun iv wr=>∃j:Nat,j≤n∧iv=.int .i64 j∧Below w.heap.size w wr∧∀i x,i < j→l[i]?=some x→FewB many x) (fun iv _=>n - (intOf iv).toNat)
 case atStart=>exact ⟨0,by omega,rfl,below_self _,fun i x hi=>by omega⟩
 case round =>
  obtain ⟨j,hj,rfl,hbr,hall⟩:=hrel
  have HBR:=hide hbr
  have HALL:=hide hall
  have hbsz:=hbr.size
  clear hbr hall
  by_cases hlt:j < n
  ·obtain ⟨ns,hx⟩:∃ns,l[j]?=some ns:=⟨_,List.getElem?_eq_getElem (by omega)⟩
   obtain ⟨b,o,rfl,hbB,A2,n2,c2,hc,hc2,hN2⟩:=RdE.get_list (F:=nodEn) (H.out.on HBR.out) hx
   have HN2:=hide hN2
   have q:wr.cell? ⟨b,o+j,none⟩=some (.slice A2 n2 c2):=hc
   have HX:=hide hx
   have HFI:=hide (HSM.out ns (List.mem_of_getElem? hx))
   have HM2:=hide ((HBR.out.cell (p:=⟨gM,0,none⟩) hg).trans HM.out)
   have hjn:(j:Int) < (n:Int):=by omega
   clear hx hN2 hc
   go_wp2_with fail
   refine (PSt1_any wr HN2.out HM2.out (by omega) hmany HFI.out).mono ?_
   rintro e w3 ⟨p,rfl,hb3,hp⟩
   have HP:=hide hp
   have HB3:=hide (HBR.out.trans (hb3.mono hbsz))
   clear hp hb3 q
   cases p with
   | true =>
    go_wp2_with fail
    go_ret
    exact ⟨(j:Int),rfl,HB3.out,fun h=>by omega⟩
   | false =>
    go_wp2_with fail
    go_roundw
    case rel=>exact ⟨j+1,by omega,by go_num,HB3.out,fun i y hi hy=>by
     by_cases e:i=j
     ·subst e
      have:=HX.out.symm.trans hy
      cases this
      exact HP.out (by first|rfl|trivial)
     ·exact HALL.out i y (by omega) hy⟩
    case measure=>simp [intOf];omega
  ·obtain rfl:j=n:=by omega
   go_wp2_with fail
   go_ret
   exact ⟨-1,rfl,HBR.out,fun _ x hx=>by
    obtain ⟨i,hi,rfl⟩:=List.mem_iff_getElem.1 hx
    exact HALL.out i _ (by omega) (List.getElem?_eq_getElem hi)⟩
set_option maxRecDepth 100000 in
theorem BrHas_any {A:Option Addr} {n c gM:Nat} {many:Int} {l:List (List NodV)} (w:World) (h:RdE layEn w (Under w.heap.size) A n l) (hM:w.cell? ⟨gM,0,none⟩=some (.int .i64 many)) (hg:gM < w.heap.size) (hmany:many≤100000) (hn:n≤100000) (hsm:∀ns∈l,FineN ns) :
  Calls Tryz.prog 15 #[.slice A n c,.func (.func 16) #[] #[.pointer (some ⟨gM,0,none⟩)]] w (IfRet w false (∀ns∈l,FewB many ns)):=by
 have H:=hide h
 have HM:=hide hM
 clear h hM
 go_enter Tryz.func15,Tryz.ntmps15
 go_wp2_with (go_at_call 35;refine (BrIdx_any w H.out HM.out hg hmany hn hsm).mono ?_;rintro e w3 ⟨r,rfl,hb3,hp⟩;have HP:=hide hp;have HB3:=hide hb3;clear hp hb3)
 go_ret
 exact ⟨_,rfl,HB3.out,fun h=>HP.out (by simpa using h)⟩
set_option maxRecDepth 100000 in
set_option maxHeartbeats 4000000 in
theorem PStackM_any {many:Int} (hmm:many≤24) {g:GeoQ} {AU AL:Option Addr} {nU cU nL cL:Nat} {up:List NodV} {ls:List (List NodV)} (w:World) (hu:RdE nodEn w (Under w.heap.size) AU nU up) (h:RdE layEn w (Under w.heap.size) AL nL ls) (hfu:FineN up) (hfl:∀ns∈ls,FineN ns) :
  Calls Tryz.prog 4 #[.agg (stkC g (.slice AU nU cU) (.slice AL nL cL)).toArray,.int .i64 many] w (IfRet w true (FewL ls∧FewB many up)):=by
 obtain ⟨r0,r1,hb2,hs2⟩:=rows2 w (stkC g (.slice AU nU cU) (.slice AL nL cL)) [.int .i64 many] 29 3
 obtain ⟨W2,hW2⟩:∃W2,(w.alloc (.cells (stkC g (.slice AU nU cU) (.slice AL nL cL)).toArray 29)).alloc (.cells [Value.int .i64 many].toArray 3)=W2:=⟨_,rfl⟩
 rw [hW2] at r0 r1 hb2 hs2
 have hW2':(w.alloc (.cells #[.int .i64 g.a,.int .i64 g.b,.int .i64 g.c,.int .i64 g.d,.slice AU nU cU,.slice AL nL cL] 29)).alloc (.cells #[.int .i64 many] 3)=W2:=hW2
 have q4:W2.cell? ⟨w.heap.size,4,none⟩=some (.slice AU nU cU):=r0.cell 4
 have q5:W2.cell? ⟨w.heap.size,5,none⟩=some (.slice AL nL cL):=r0.cell 5
 have m0:W2.cell? ⟨w.heap.size+1,0,none⟩=some (.int .i64 many):=r1.cell 0
 have R0:=hide r0
 have R1:=hide r1
 have HB2:=hide hb2
 have HU:=hide (hu.on hb2)
 have HL:=hide (h.on hb2)
 have HLL:=hide h.1
 have HUL:=hide hu.1
 have HFU:=hide hfu
 have HFL:=hide hfl
 have hsl:w.heap.size+2≤W2.heap.size:=by omega
 unfold stkC
 clear r0 r1 hb2 hW2 hs2 hu h hfu hfl
 by_cases k0:(nL:Int)≤3
 rotate_left
 ·have c0:decide ((nL:Int)≤3)=false:=decide_eq_false k0
  clear q4
  go_enter Tryz.func4,Tryz.ntmps4
  go_wp2_with fail
  go_ret
  exact ⟨false,rfl,HB2.out,fun h=>by cases h⟩
 have c0:decide ((nL:Int)≤3)=true:=decide_eq_true k0
 go_enter Tryz.func4,Tryz.ntmps4
 go_wp2_with fail
 clear hW2'
 refine (PBranch_any W2 HU.out (by omega) HFU.out).mono ?_
 rintro e w3 ⟨p,rfl,hb3,hp⟩
 have HP:=hide hp
 have HB3:=hide (HB2.out.trans (hb3.mono (by omega)))
 have s5:w3.cell? ⟨w.heap.size,5,none⟩=some (.slice AL nL cL):=(R0.out.on hb3).cell 5
 have M3:=hide ((R1.out.on hb3).cell 0)
 have HL3:=hide (HL.out.on hb3)
 have hs3:=hb3.size
 clear hp hb3 q4 q5 m0
 cases p
 ·clear s5
  go_wp2_with fail
  go_ret
  exact ⟨false,rfl,HB3.out,fun h=>by cases h⟩
 go_wp2_with fail
 refine (BrHas_any w3 HL3.out M3.out (by omega) (by omega) (by omega) HFL.out).mono ?_
 rintro e w4 ⟨p,rfl,hb4,hp4⟩
 have HP4:=hide hp4
 have HB4:=hide (HB3.out.trans (hb4.mono HB3.out.size))
 clear hp4 hb4 s5
 cases p
 ·go_wp2_with fail
  go_ret
  refine ⟨true,rfl,HB4.out,fun _=>?_⟩
  have h1:=HP.out (by first|rfl|trivial)
  have h2:=HP4.out (by first|rfl|trivial)
  exact ⟨⟨by rw [HLL.out];omega,fun ns hn=>⟨by have:=(h2 ns hn).1;omega,(h2 ns hn).2⟩⟩,⟨by rw [HUL.out];exact h1.1,h1.2⟩⟩
 ·go_wp2_with fail
  go_ret
  exact ⟨false,rfl,HB4.out,fun h=>by cases h⟩
end Go.Proofs.YtnhegahpfacdgaaGreat

namespace Go.Proofs.YtnhegahpfacdgaaGreat
open Go.RowKit Go.Shelf Plain

def viwC (u:Int) (s:Value):List Value:=[.int .i64 u,s]
def vwdC (g:GeoQ) (U L:Value) (u:Int) (s:Value):List Value:=[.int .i64 g.a,.int .i64 g.b,.int .i64 g.c,.int .i64 g.d,U,L,.int .i64 u,s]
theorem viwC_one (u:Int) (A:Option Addr) (n c:Nat):∀v∈viwC u (.slice A n c),v.oneCell'=true:=by simp [viwC,Value.oneCell']
set_option maxRecDepth 100000 in
theorem viw_agg:∀w,(isAgg 80).run Tryz.prog w=.ok true w:=fun w=>by kernel_rfl
set_option maxRecDepth 100000 in
theorem viw_size:∀w,(Go.sizeOf 80).run Tryz.prog w=.ok 2 w:=fun w=>by kernel_rfl
set_option maxRecDepth 100000 in
theorem vwd_agg:∀w,(isAgg 112).run Tryz.prog w=.ok true w:=fun w=>by kernel_rfl
set_option maxRecDepth 100000 in
theorem vwd_size:∀w,(Go.sizeOf 112).run Tryz.prog w=.ok 8 w:=fun w=>by kernel_rfl
set_option maxRecDepth 100000 in
theorem int_size:∀w,(Go.sizeOf 3).run Tryz.prog w=.ok 1 w:=fun w=>by kernel_rfl
theorem At_e {A:Option Addr} {B:Nat} {n c:Nat} {ns:List NodV} {i:Int} {x:NodV} (hx:nodAt ns i=x) (w:World) (h:RdE nodEn w (Under B) A n ns) (hB:B≤w.heap.size) (hm:ns.length≤100000):Calls Tryz.prog 50 #[.agg #[.slice A n c],.int .i64 i] w (NodRet w B x):=by rw [←hx];exact At_anyB w h hB hm
def FewU (up:List NodV):Prop:=up.length≤24∧∀x∈up,PlainN x
def FewX (up:List NodV):Prop:=up.length≤24∧∀x∈up,PlainX x
theorem FewU.toX {up:List NodV} (h:FewU up):FewX up:=⟨h.1,fun x hx=>(h.2 x hx).toX⟩
instance coeFewX {up:List NodV}:Coe (FewU up) (FewX up):=⟨FewU.toX⟩
def ViewF (lo:Nat) (w:World) (v:ViewV) (e:Ending) (w':World):Prop:=∃A c,e=.returned (.agg (viwC v.1 (.slice A v.2.length c)).toArray)∧RdE prEn w' (fun b=>lo≤b∧b < w'.heap.size) A v.2.length v.2∧Below w.heap.size w w'
set_option maxRecDepth 100000 in
set_option maxHeartbeats 1600000 in
theorem VOpq_b {x:NodV} {D C:Option Addr} {n c m d:Nat} {b:Bool} (hb:opqD x=b) (h0:0≤x.att.h) (h1:x.att.h≤31) (w:World):Calls Tryz.prog 65 #[.agg (nodC x (.slice D n c) (.slice C m d)).toArray] w (BoolB w b):=by
 obtain ⟨W1,hW1⟩:∃W1,(w.alloc (.cells (nodC x (.slice D n c) (.slice C m d)).toArray 65))=W1:=⟨_,rfl⟩
 obtain ⟨r0,hb1,hs1⟩:=rowA1 w _ _ hW1
 have hW1':(w.alloc (.cells #[.int .i64 x.k,.int .i64 x.p,.int .i64 x.n,.int .i64 x.g,.slice D n c,.slice C m d,.int .i64 x.att.h,.int .i64 x.att.o,.string ⟨x.att.r.toArray⟩,.int .i64 x.att.l,.int .i64 x.att.i,.int .i64 x.att.g,.int .i64 x.att.s] 65))=W1:=hW1
 have R1:=hide r0
 have HB:=hide hb1
 have hsz0:=hb1.size
 obtain ⟨b1,hb1'⟩:∃b1,(x.k==1)=b1:=⟨_,rfl⟩
 obtain ⟨b2,hb2⟩:∃b2,opq x=b2:=⟨_,rfl⟩
 have HO:=hide hb2
 have e:b=(b1&&b2):=by
  rw [←hb,←hb1',←hb2]
  unfold opqD
  congr 1
 subst e
 have q1_0:W1.cell? ⟨w.heap.size,0,none⟩=some (.int .i64 x.k):=R1.out.cell 0
 have q1_1:W1.cell? ⟨w.heap.size,1,none⟩=some (.int .i64 x.p):=R1.out.cell 1
 have q1_2:W1.cell? ⟨w.heap.size,2,none⟩=some (.int .i64 x.n):=R1.out.cell 2
 have q1_3:W1.cell? ⟨w.heap.size,3,none⟩=some (.int .i64 x.g):=R1.out.cell 3
 have q1_4:W1.cell? ⟨w.heap.size,4,none⟩=some (.slice D n c):=R1.out.cell 4
 have q1_5:W1.cell? ⟨w.heap.size,5,none⟩=some (.slice C m d):=R1.out.cell 5
 have q1_6:W1.cell? ⟨w.heap.size,6,none⟩=some (.int .i64 x.att.h):=R1.out.cell 6
 have q1_7:W1.cell? ⟨w.heap.size,7,none⟩=some (.int .i64 x.att.o):=R1.out.cell 7
 have q1_8:W1.cell? ⟨w.heap.size,8,none⟩=some (.string ⟨x.att.r.toArray⟩):=R1.out.cell 8
 have q1_9:W1.cell? ⟨w.heap.size,9,none⟩=some (.int .i64 x.att.l):=R1.out.cell 9
 have q1_10:W1.cell? ⟨w.heap.size,10,none⟩=some (.int .i64 x.att.i):=R1.out.cell 10
 have q1_11:W1.cell? ⟨w.heap.size,11,none⟩=some (.int .i64 x.att.g):=R1.out.cell 11
 have q1_12:W1.cell? ⟨w.heap.size,12,none⟩=some (.int .i64 x.att.s):=R1.out.cell 12
 unfold nodC
 clear r0 hb1 hW1 hb hb2
 cases b1 <;> cases b2
 all_goals
  go_enter Tryz.func65,Tryz.ntmps65
  go_wp2_with (first|(go_at_call 90;refine (Marked_b (by exact HO.out) h0 h1 W1).mono ?_;rintro e1 wX ⟨rfl,hbel⟩;clear q1_0 q1_1 q1_2 q1_3 q1_4 q1_5 q1_6 q1_7 q1_8 q1_9 q1_10 q1_11 q1_12;replace HB:=hide (HB.out.trans (hbel.mono HB.out.size));replace R1:=hide (R1.out.on hbel);have hsz2:=hbel.size;have q1_0:wX.cell? ⟨w.heap.size,0,none⟩=some (.int .i64 x.k):=R1.out.cell 0;have q1_1:wX.cell? ⟨w.heap.size,1,none⟩=some (.int .i64 x.p):=R1.out.cell 1;have q1_2:wX.cell? ⟨w.heap.size,2,none⟩=some (.int .i64 x.n):=R1.out.cell 2;have q1_3:wX.cell? ⟨w.heap.size,3,none⟩=some (.int .i64 x.g):=R1.out.cell 3;have q1_4:wX.cell? ⟨w.heap.size,4,none⟩=some (.slice D n c):=R1.out.cell 4;have q1_5:wX.cell? ⟨w.heap.size,5,none⟩=some (.slice C m d):=R1.out.cell 5;have q1_6:wX.cell? ⟨w.heap.size,6,none⟩=some (.int .i64 x.att.h):=R1.out.cell 6;have q1_7:wX.cell? ⟨w.heap.size,7,none⟩=some (.int .i64 x.att.o):=R1.out.cell 7;have q1_8:wX.cell? ⟨w.heap.size,8,none⟩=some (.string ⟨x.att.r.toArray⟩):=R1.out.cell 8;have q1_9:wX.cell? ⟨w.heap.size,9,none⟩=some (.int .i64 x.att.l):=R1.out.cell 9;have q1_10:wX.cell? ⟨w.heap.size,10,none⟩=some (.int .i64 x.att.i):=R1.out.cell 10;have q1_11:wX.cell? ⟨w.heap.size,11,none⟩=some (.int .i64 x.att.g):=R1.out.cell 11;have q1_12:wX.cell? ⟨w.heap.size,12,none⟩=some (.int .i64 x.att.s):=R1.out.cell 12;clear hbel))
  go_ret
  exact BoolB.of HB.out
set_option maxRecDepth 100000 in
set_option maxHeartbeats 1600000 in
theorem RVOpq_b {x:NodV} {D C:Option Addr} {n c m d:Nat} {b:Bool} (hb:opqD x=b) (h0:0≤x.att.h) (h1:x.att.h≤31) (w:World):Calls Tryz.prog 73 #[.agg (nodC x (.slice D n c) (.slice C m d)).toArray] w (BoolB w b):=by
 obtain ⟨W1,hW1⟩:∃W1,(w.alloc (.cells (nodC x (.slice D n c) (.slice C m d)).toArray 65))=W1:=⟨_,rfl⟩
 obtain ⟨r0,hb1,hs1⟩:=rowA1 w _ _ hW1
 have hW1':(w.alloc (.cells #[.int .i64 x.k,.int .i64 x.p,.int .i64 x.n,.int .i64 x.g,.slice D n c,.slice C m d,.int .i64 x.att.h,.int .i64 x.att.o,.string ⟨x.att.r.toArray⟩,.int .i64 x.att.l,.int .i64 x.att.i,.int .i64 x.att.g,.int .i64 x.att.s] 65))=W1:=hW1
 have R1:=hide r0
 have HB:=hide hb1
 have hsz0:=hb1.size
 obtain ⟨b1,hb1'⟩:∃b1,(x.k==1)=b1:=⟨_,rfl⟩
 obtain ⟨b2,hb2⟩:∃b2,opq x=b2:=⟨_,rfl⟩
 have HO:=hide hb2
 have e:b=(b1&&b2):=by
  rw [←hb,←hb1',←hb2]
  unfold opqD
  congr 1
 subst e
 have q1_0:W1.cell? ⟨w.heap.size,0,none⟩=some (.int .i64 x.k):=R1.out.cell 0
 have q1_1:W1.cell? ⟨w.heap.size,1,none⟩=some (.int .i64 x.p):=R1.out.cell 1
 have q1_2:W1.cell? ⟨w.heap.size,2,none⟩=some (.int .i64 x.n):=R1.out.cell 2
 have q1_3:W1.cell? ⟨w.heap.size,3,none⟩=some (.int .i64 x.g):=R1.out.cell 3
 have q1_4:W1.cell? ⟨w.heap.size,4,none⟩=some (.slice D n c):=R1.out.cell 4
 have q1_5:W1.cell? ⟨w.heap.size,5,none⟩=some (.slice C m d):=R1.out.cell 5
 have q1_6:W1.cell? ⟨w.heap.size,6,none⟩=some (.int .i64 x.att.h):=R1.out.cell 6
 have q1_7:W1.cell? ⟨w.heap.size,7,none⟩=some (.int .i64 x.att.o):=R1.out.cell 7
 have q1_8:W1.cell? ⟨w.heap.size,8,none⟩=some (.string ⟨x.att.r.toArray⟩):=R1.out.cell 8
 have q1_9:W1.cell? ⟨w.heap.size,9,none⟩=some (.int .i64 x.att.l):=R1.out.cell 9
 have q1_10:W1.cell? ⟨w.heap.size,10,none⟩=some (.int .i64 x.att.i):=R1.out.cell 10
 have q1_11:W1.cell? ⟨w.heap.size,11,none⟩=some (.int .i64 x.att.g):=R1.out.cell 11
 have q1_12:W1.cell? ⟨w.heap.size,12,none⟩=some (.int .i64 x.att.s):=R1.out.cell 12
 unfold nodC
 clear r0 hb1 hW1 hb hb2
 cases b1 <;> cases b2
 all_goals
  go_enter Tryz.func73,Tryz.ntmps73
  go_wp2_with (first|(go_at_call 95;refine (ROpq_b (by exact HO.out) h0 h1 W1).mono ?_;rintro e1 wX ⟨rfl,hbel⟩;clear q1_0 q1_1 q1_2 q1_3 q1_4 q1_5 q1_6 q1_7 q1_8 q1_9 q1_10 q1_11 q1_12;replace HB:=hide (HB.out.trans (hbel.mono HB.out.size));replace R1:=hide (R1.out.on hbel);have hsz2:=hbel.size;have q1_0:wX.cell? ⟨w.heap.size,0,none⟩=some (.int .i64 x.k):=R1.out.cell 0;have q1_1:wX.cell? ⟨w.heap.size,1,none⟩=some (.int .i64 x.p):=R1.out.cell 1;have q1_2:wX.cell? ⟨w.heap.size,2,none⟩=some (.int .i64 x.n):=R1.out.cell 2;have q1_3:wX.cell? ⟨w.heap.size,3,none⟩=some (.int .i64 x.g):=R1.out.cell 3;have q1_4:wX.cell? ⟨w.heap.size,4,none⟩=some (.slice D n c):=R1.out.cell 4;have q1_5:wX.cell? ⟨w.heap.size,5,none⟩=some (.slice C m d):=R1.out.cell 5;have q1_6:wX.cell? ⟨w.heap.size,6,none⟩=some (.int .i64 x.att.h):=R1.out.cell 6;have q1_7:wX.cell? ⟨w.heap.size,7,none⟩=some (.int .i64 x.att.o):=R1.out.cell 7;have q1_8:wX.cell? ⟨w.heap.size,8,none⟩=some (.string ⟨x.att.r.toArray⟩):=R1.out.cell 8;have q1_9:wX.cell? ⟨w.heap.size,9,none⟩=some (.int .i64 x.att.l):=R1.out.cell 9;have q1_10:wX.cell? ⟨w.heap.size,10,none⟩=some (.int .i64 x.att.i):=R1.out.cell 10;have q1_11:wX.cell? ⟨w.heap.size,11,none⟩=some (.int .i64 x.att.g):=R1.out.cell 11;have q1_12:wX.cell? ⟨w.heap.size,12,none⟩=some (.int .i64 x.att.s):=R1.out.cell 12;clear hbel))
  go_ret
  exact BoolB.of HB.out
set_option maxRecDepth 100000 in
set_option maxHeartbeats 4000000 in
theorem RVRoot_any {g:GeoQ} {AU AL:Option Addr} {nU cU nL cL B:Nat} {up:List NodV} {ls:List (List NodV)} (w:World) (hu:RdE nodEn w (Under B) AU nU up) (h:RdE layEn w (Under B) AL nL ls) (hB:B≤w.heap.size) (hF:FewL ls) (hup:FewX up):Calls Tryz.prog 46 #[.agg (stkC g (.slice AU nU cU) (.slice AL nL cL)).toArray] w (ViewF w.heap.size w (rootV up ls)):=by
 obtain ⟨W1,hW1⟩:∃W1,((w.alloc (.cells (stkC g (.slice AU nU cU) (.slice AL nL cL)).toArray 29)).alloc (.cells (viwC 0 (.slice none 0 0)).toArray 80))=W1:=⟨_,rfl⟩
 obtain ⟨r0,r1,hb1,hs1⟩:=rowA2 w _ _ _ _ hW1
 have hW1':((w.alloc (.cells #[.int .i64 g.a,.int .i64 g.b,.int .i64 g.c,.int .i64 g.d,.slice AU nU cU,.slice AL nL cL] 29)).alloc (.cells #[.int .i64 0,.slice none 0 0] 80))=W1:=hW1
 have R1:=hide r0
 have R2:=hide r1
 have HB:=hide hb1
 have hsz0:=hb1.size
 have HU:=hide (hu.under hb1 hB)
 have HL:=hide (h.under hb1 hB)
 have HF:=hide hF
 have HFU:=hide hup
 obtain ⟨x,hx⟩:∃x,nodAt up 1=x:=⟨_,rfl⟩
 have HX:=hide hx
 obtain ⟨V,hV⟩:∃V,rootV up ls=V:=⟨_,rfl⟩
 rw [hV]
 have hatt:0≤x.att.h∧x.att.h≤31:=by rw [←hx];exact (nodAt_plainX hup.2 1).2.2.1
 obtain ⟨bo,hbo⟩:∃bo,opqD x=bo:=⟨_,rfl⟩
 have HOP:=hide hbo
 have q1_4:W1.cell? ⟨w.heap.size,4,none⟩=some (.slice AU nU cU):=R1.out.cell 4
 unfold rootV at hV
 rw [hx,hbo] at hV
 unfold stkC
 by_cases hk:x.k=1
 ·rw [if_pos hk] at hV
  have hk1:(x.k==1)=true:=by simpa using hk
  have hk2:(x.k != 1)=false:=by simpa using hk
  cases bo
  ·have HV:=hide (show V=(1,rootsL ls 0) from by simpa using hV.symm)
   clear r0 r1 hb1 hW1 hu h hup hF hV hx hbo hk
   go_enter Tryz.func46,Tryz.ntmps46
   go_wp2_with (first|(go_at_call 50;refine (At_e HX.out W1 HU.out (by omega) (by have:=HFU.out.1;omega)).mono ?_;rintro e1 wN ⟨A1,n1,c1,C1,m1,d1,rfl,-,-,-,-,hbel⟩;clear q1_4;replace HB:=hide (HB.out.trans (hbel.mono HB.out.size));replace R1:=hide (R1.out.on hbel);replace R2:=hide (R2.out.on hbel);replace HU:=hide (HU.out.under hbel (by omega));replace HL:=hide (HL.out.under hbel (by omega));have hsz2:=hbel.size;have q1_4:wN.cell? ⟨w.heap.size,4,none⟩=some (.slice AU nU cU):=R1.out.cell 4;clear hbel)|(refine wpList_storeW rfl 65 (.tmp 3) (.tmp 6) rfl 13 nod_size (wN.heap.size) 65 rfl (nodC nod0 (.slice none 0 0) (.slice none 0 0)) (nodC x (.slice A1 n1 c1) (.slice C1 m1 d1)) rfl (RowL.new wN 65 (nodC nod0 (.slice none 0 0) (.slice none 0 0))) rfl rfl (nodC_one _ _ _ _ _ _ _) ?_;intro wS3 hr3 hg3 hs3;have hzb:=below_stored' hg3;clear q1_4;replace HB:=hide (HB.out.trans (hzb.mono HB.out.size));replace R1:=hide (R1.out.on hzb);replace R2:=hide (R2.out.on hzb);replace HU:=hide (HU.out.under hzb (by omega));replace HL:=hide (HL.out.under hzb (by omega));have hsz4:=hzb.size;have q1_4:wS3.cell? ⟨w.heap.size,4,none⟩=some (.slice AU nU cU):=R1.out.cell 4;have RN:=hide hr3;have hlt3:=hr3.lt;have q3_0:wS3.cell? ⟨wN.heap.size,0,none⟩=some (.int .i64 x.k):=RN.out.cell 0;clear hzb hr3;clear hg3 hs3)|(refine wpList_loadW rfl 65 (.tmp 3) rfl 13 nod_agg nod_size (wN.heap.size) 65 rfl (nodC x (.slice A1 n1 c1) (.slice C1 m1 d1)) RN.out rfl ?_)|(go_at_call 73;refine (RVOpq_b HOP.out hatt.1 hatt.2 wS3).mono ?_;rintro e5 wO ⟨rfl,hbel⟩;clear q1_4 q3_0;replace HB:=hide (HB.out.trans (hbel.mono HB.out.size));replace R1:=hide (R1.out.on hbel);replace R2:=hide (R2.out.on hbel);replace HU:=hide (HU.out.under hbel (by omega));replace HL:=hide (HL.out.under hbel (by omega));replace RN:=hide (RN.out.on hbel);have hsz6:=hbel.size;have q1_4:wO.cell? ⟨w.heap.size,4,none⟩=some (.slice AU nU cU):=R1.out.cell 4;have q3_0:wO.cell? ⟨wN.heap.size,0,none⟩=some (.int .i64 x.k):=RN.out.cell 0;clear hbel)|(refine wpList_loadW rfl 29 (.tmp 1) rfl 6 stk_agg stk_size (w.heap.size) 29 rfl (stkC g (.slice AU nU cU) (.slice AL nL cL)) R1.out rfl ?_)|(go_at_call 72;refine (RRoots_f wO (und_up HL.out (by omega)) HF.out).mono ?_;rintro e7 wR ⟨A6,c6,rfl,h6,hbel⟩;clear q1_4 q3_0;replace HB:=hide (HB.out.trans (hbel.mono HB.out.size));replace R1:=hide (R1.out.on hbel);replace R2:=hide (R2.out.on hbel);replace HU:=hide (HU.out.under hbel (by omega));replace HL:=hide (HL.out.under hbel (by omega));replace RN:=hide (RN.out.on hbel);have hsz8:=hbel.size;have q1_4:wR.cell? ⟨w.heap.size,4,none⟩=some (.slice AU nU cU):=R1.out.cell 4;have q3_0:wR.cell? ⟨wN.heap.size,0,none⟩=some (.int .i64 x.k):=RN.out.cell 0;have H6:=hide h6;clear h6;clear hbel)|(refine wpList_storeW rfl 80 (.tmp 2) (.tmp 18) rfl 2 viw_size (w.heap.size+1) 80 rfl (viwC 0 (.slice none 0 0)) (viwC 1 (.slice A6 (rootsL ls 0).length c6)) rfl R2.out rfl rfl (viwC_one _ _ _ _) ?_;intro wS9 hr9 hg9 hs9;clear q1_4 q3_0;replace HB:=hide (HB.out.grown hg9 (by omega) (pu4 (by omega)));replace R1:=hide (R1.out.grown hg9 (pu5 (by omega)));replace HU:=hide (und_grown HU.out hg9 (by omega) (by omega));replace HL:=hide (und_grown HL.out hg9 (by omega) (by omega));replace RN:=hide (RN.out.grown hg9 (pu5 (by omega)));replace H6:=hide (fr_grown H6.out hg9 (by omega));have hsz10:=hg9.size;replace R2:=hide hr9;have q1_4:wS9.cell? ⟨w.heap.size,4,none⟩=some (.slice AU nU cU):=R1.out.cell 4;have q3_0:wS9.cell? ⟨wN.heap.size,0,none⟩=some (.int .i64 x.k):=RN.out.cell 0;clear hr9 hg9 hs9))
   exact bodyPost_ret (res_cell Tryz.results46 rfl viw_agg viw_size R2.out rfl) rfl ⟨A6,c6,by rw [HV.out],by rw [HV.out];exact fr_low H6.out (by omega),HB.out⟩
  ·have HV:=hide (show V=(1,[]) from by simpa using hV.symm)
   clear r0 r1 hb1 hW1 hu h hup hF hV hx hbo hk
   go_enter Tryz.func46,Tryz.ntmps46
   go_wp2_with (first|(go_at_call 50;refine (At_e HX.out W1 HU.out (by omega) (by have:=HFU.out.1;omega)).mono ?_;rintro e1 wN ⟨A1,n1,c1,C1,m1,d1,rfl,-,-,-,-,hbel⟩;clear q1_4;replace HB:=hide (HB.out.trans (hbel.mono HB.out.size));replace R1:=hide (R1.out.on hbel);replace R2:=hide (R2.out.on hbel);replace HU:=hide (HU.out.under hbel (by omega));replace HL:=hide (HL.out.under hbel (by omega));have hsz2:=hbel.size;have q1_4:wN.cell? ⟨w.heap.size,4,none⟩=some (.slice AU nU cU):=R1.out.cell 4;clear hbel)|(refine wpList_storeW rfl 65 (.tmp 3) (.tmp 6) rfl 13 nod_size (wN.heap.size) 65 rfl (nodC nod0 (.slice none 0 0) (.slice none 0 0)) (nodC x (.slice A1 n1 c1) (.slice C1 m1 d1)) rfl (RowL.new wN 65 (nodC nod0 (.slice none 0 0) (.slice none 0 0))) rfl rfl (nodC_one _ _ _ _ _ _ _) ?_;intro wS3 hr3 hg3 hs3;have hzb:=below_stored' hg3;clear q1_4;replace HB:=hide (HB.out.trans (hzb.mono HB.out.size));replace R1:=hide (R1.out.on hzb);replace R2:=hide (R2.out.on hzb);replace HU:=hide (HU.out.under hzb (by omega));replace HL:=hide (HL.out.under hzb (by omega));have hsz4:=hzb.size;have q1_4:wS3.cell? ⟨w.heap.size,4,none⟩=some (.slice AU nU cU):=R1.out.cell 4;have RN:=hide hr3;have hlt3:=hr3.lt;have q3_0:wS3.cell? ⟨wN.heap.size,0,none⟩=some (.int .i64 x.k):=RN.out.cell 0;clear hzb hr3;clear hg3 hs3)|(refine wpList_loadW rfl 65 (.tmp 3) rfl 13 nod_agg nod_size (wN.heap.size) 65 rfl (nodC x (.slice A1 n1 c1) (.slice C1 m1 d1)) RN.out rfl ?_)|(go_at_call 73;refine (RVOpq_b HOP.out hatt.1 hatt.2 wS3).mono ?_;rintro e5 wO ⟨rfl,hbel⟩;clear q1_4 q3_0;replace HB:=hide (HB.out.trans (hbel.mono HB.out.size));replace R1:=hide (R1.out.on hbel);replace R2:=hide (R2.out.on hbel);replace HU:=hide (HU.out.under hbel (by omega));replace HL:=hide (HL.out.under hbel (by omega));replace RN:=hide (RN.out.on hbel);have hsz6:=hbel.size;have q1_4:wO.cell? ⟨w.heap.size,4,none⟩=some (.slice AU nU cU):=R1.out.cell 4;have q3_0:wO.cell? ⟨wN.heap.size,0,none⟩=some (.int .i64 x.k):=RN.out.cell 0;clear hbel)|(refine wpList_storeW rfl 80 (.tmp 2) (.tmp 15) rfl 2 viw_size (w.heap.size+1) 80 rfl (viwC 0 (.slice none 0 0)) (viwC 1 (.slice none 0 0)) rfl R2.out rfl rfl (viwC_one _ _ _ _) ?_;intro wS7 hr7 hg7 hs7;clear q1_4 q3_0;replace HB:=hide (HB.out.grown hg7 (by omega) (pu4 (by omega)));replace R1:=hide (R1.out.grown hg7 (pu5 (by omega)));replace HU:=hide (und_grown HU.out hg7 (by omega) (by omega));replace HL:=hide (und_grown HL.out hg7 (by omega) (by omega));replace RN:=hide (RN.out.grown hg7 (pu5 (by omega)));have hsz8:=hg7.size;replace R2:=hide hr7;have q1_4:wS7.cell? ⟨w.heap.size,4,none⟩=some (.slice AU nU cU):=R1.out.cell 4;have q3_0:wS7.cell? ⟨wN.heap.size,0,none⟩=some (.int .i64 x.k):=RN.out.cell 0;clear hr7 hg7 hs7))
   exact bodyPost_ret (res_cell Tryz.results46 rfl viw_agg viw_size R2.out rfl) rfl ⟨none,0,by rw [HV.out];rfl,by rw [HV.out];exact RdE.none_ _ _ _ _,HB.out⟩
 ·rw [if_neg hk] at hV
  have hk1:(x.k==1)=false:=by simpa using hk
  have hk2:(x.k != 1)=true:=by simpa using hk
  have hbf:bo=false:=by rw [←hbo];unfold opqD;simp [hk]
  subst hbf
  have HV:=hide (show V=(0,rootsL ls 0) from by simpa using hV.symm)
  clear r0 r1 hb1 hW1 hu h hup hF hV hx hbo hk
  go_enter Tryz.func46,Tryz.ntmps46
  go_wp2_with (first|(go_at_call 50;refine (At_e HX.out W1 HU.out (by omega) (by have:=HFU.out.1;omega)).mono ?_;rintro e1 wN ⟨A1,n1,c1,C1,m1,d1,rfl,-,-,-,-,hbel⟩;clear q1_4;replace HB:=hide (HB.out.trans (hbel.mono HB.out.size));replace R1:=hide (R1.out.on hbel);replace R2:=hide (R2.out.on hbel);replace HU:=hide (HU.out.under hbel (by omega));replace HL:=hide (HL.out.under hbel (by omega));have hsz2:=hbel.size;have q1_4:wN.cell? ⟨w.heap.size,4,none⟩=some (.slice AU nU cU):=R1.out.cell 4;clear hbel)|(refine wpList_storeW rfl 65 (.tmp 3) (.tmp 6) rfl 13 nod_size (wN.heap.size) 65 rfl (nodC nod0 (.slice none 0 0) (.slice none 0 0)) (nodC x (.slice A1 n1 c1) (.slice C1 m1 d1)) rfl (RowL.new wN 65 (nodC nod0 (.slice none 0 0) (.slice none 0 0))) rfl rfl (nodC_one _ _ _ _ _ _ _) ?_;intro wS3 hr3 hg3 hs3;have hzb:=below_stored' hg3;clear q1_4;replace HB:=hide (HB.out.trans (hzb.mono HB.out.size));replace R1:=hide (R1.out.on hzb);replace R2:=hide (R2.out.on hzb);replace HU:=hide (HU.out.under hzb (by omega));replace HL:=hide (HL.out.under hzb (by omega));have hsz4:=hzb.size;have q1_4:wS3.cell? ⟨w.heap.size,4,none⟩=some (.slice AU nU cU):=R1.out.cell 4;have RN:=hide hr3;have hlt3:=hr3.lt;have q3_0:wS3.cell? ⟨wN.heap.size,0,none⟩=some (.int .i64 x.k):=RN.out.cell 0;clear hzb hr3;clear hg3 hs3)|(refine wpList_loadW rfl 29 (.tmp 1) rfl 6 stk_agg stk_size (w.heap.size) 29 rfl (stkC g (.slice AU nU cU) (.slice AL nL cL)) R1.out rfl ?_)|(go_at_call 72;refine (RRoots_f wS3 (und_up HL.out (by omega)) HF.out).mono ?_;rintro e5 wR ⟨A6,c6,rfl,h6,hbel⟩;clear q1_4 q3_0;replace HB:=hide (HB.out.trans (hbel.mono HB.out.size));replace R1:=hide (R1.out.on hbel);replace R2:=hide (R2.out.on hbel);replace HU:=hide (HU.out.under hbel (by omega));replace HL:=hide (HL.out.under hbel (by omega));replace RN:=hide (RN.out.on hbel);have hsz6:=hbel.size;have q1_4:wR.cell? ⟨w.heap.size,4,none⟩=some (.slice AU nU cU):=R1.out.cell 4;have q3_0:wR.cell? ⟨wN.heap.size,0,none⟩=some (.int .i64 x.k):=RN.out.cell 0;have H6:=hide h6;clear h6;clear hbel)|(refine wpList_storeW rfl 80 (.tmp 2) (.tmp 12) rfl 2 viw_size (w.heap.size+1) 80 rfl (viwC 0 (.slice none 0 0)) (viwC 0 (.slice A6 (rootsL ls 0).length c6)) rfl R2.out rfl rfl (viwC_one _ _ _ _) ?_;intro wS7 hr7 hg7 hs7;clear q1_4 q3_0;replace HB:=hide (HB.out.grown hg7 (by omega) (pu4 (by omega)));replace R1:=hide (R1.out.grown hg7 (pu5 (by omega)));replace HU:=hide (und_grown HU.out hg7 (by omega) (by omega));replace HL:=hide (und_grown HL.out hg7 (by omega) (by omega));replace RN:=hide (RN.out.grown hg7 (pu5 (by omega)));replace H6:=hide (fr_grown H6.out hg7 (by omega));have hsz8:=hg7.size;replace R2:=hide hr7;have q1_4:wS7.cell? ⟨w.heap.size,4,none⟩=some (.slice AU nU cU):=R1.out.cell 4;have q3_0:wS7.cell? ⟨wN.heap.size,0,none⟩=some (.int .i64 x.k):=RN.out.cell 0;clear hr7 hg7 hs7))
  exact bodyPost_ret (res_cell Tryz.results46 rfl viw_agg viw_size R2.out rfl) rfl ⟨A6,c6,by rw [HV.out],by rw [HV.out];exact fr_low H6.out (by omega),HB.out⟩
end Go.Proofs.YtnhegahpfacdgaaGreat

namespace Go.Proofs.YtnhegahpfacdgaaGreat
open Go.RowKit Plain

abbrev StopV:=ViewV×List (List UInt8)
def pathC (l:List (List UInt8)):List UInt8:=l.flatMap (fun x=>47::x)
def GoodP (ls:List (List NodV)) (p:Int×Int):Prop:=1≤p.1∧p.1≤(ls.length:Int)∧inW (layL ls p.1) p.2
def wP (ls:List (List NodV)) (p:Int×Int):Nat:=wt (layL ls p.1) p.2
theorem roots_good (ls : List (List NodV)) : ∀ (r : List (List NodV)) (j : Nat), (∀ q, ls[j + q]? = r[q]?) → ∀ p ∈ rootsL r j, GoodP ls p
 | [],_,_,p,h=>by simp [rootsL] at h
 | ns::r,j,hj,p,h=>by
  have h0:ls[j]?=some ns:=by simpa using hj 0
  have hlt:=(List.getElem?_eq_some_iff.1 h0).1
  have hg:(nodAt ns 1).k=1→GoodP ls ((j:Int)+1,1):=fun hk=>by
   refine ⟨by simp only;omega,by simp only;omega,?_⟩
   have:layL ls ((j:Int)+1)=ns:=by
    unfold layL
    rw [if_pos ⟨by omega,by omega⟩,show ((j:Int)+1 - 1).toNat=j by omega,h0]
    rfl
   simp only [this]
   exact in_root (by simpa [isDir] using hk)
  have hr:=roots_good ls r (j+1) (fun q=>by
   have:=hj (q+1)
   rw [show j+(q+1)=j+1+q by omega] at this
   simpa using this)
  unfold rootsL at h
  split at h
  ·rename_i hk
   split at h
   ·rw [List.mem_singleton] at h
    rw [h];exact hg hk
   ·rcases List.mem_cons.1 h with h|h
    ·rw [h];exact hg hk
    ·exact hr p h
  ·exact hr p h
theorem roots_all (ls:List (List NodV)):∀p∈rootsL ls 0,GoodP ls p:=roots_good ls ls 0 (fun q=>by rw [Nat.zero_add])
end Go.Proofs.YtnhegahpfacdgaaGreat

