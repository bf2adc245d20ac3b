import Derived.Test.YtpndfahgflgocaaGreatDoorXt16
import Derived.Test.YtpndfahgflgocaaGreatDoorXt13
import Derived.Deep.Cut
import Derived.Deep.CutRange
import Derived.Test.YtpndfahgflgocaaGreatDoorXt7
import Derived.Test.YtpndfahgflgocaaGreatDoorXt11
import Derived.Test.YtpndfahgflgocaaGreatDoorXt12
import Derived.Test.YtpndfahgflgocaaGreatDoorXt1
import Derived.Lib.SlicesCompact
import Derived.Sort.Row
import Derived.Sort.OwnSorted
import Derived.Lib.RowBridge
import Derived.BigQuiet
import Derived.Deep.QuietTactic
import Derived.Test.YtpndfahgflgocaaGreatDoorXt6

namespace Go.Proofs.YtpndfahgflgocaaGreatDoor
open Go.RowKit Go.Shelf Plain

def attC (a:AttV):List Value:=[.int .i64 a.h,.int .i64 a.o,.string ⟨a.r.toArray⟩,.int .i64 a.l,.int .i64 a.i,.int .i64 a.g,.int .i64 a.s]
end Go.Proofs.YtpndfahgflgocaaGreatDoor

namespace Go.Proofs.YtpndfahgflgocaaGreatDoor
open Go.RowKit Go.Shelf Plain

section
variable {P : Program} {T T' k k' : Nat}
end
def FirstBS (w9:World) (base ge gn r1 r2:Nat) (ec nc:List Value) (W:World):Prop:=RowL W ge 31 ec∧RowL W gn 51 nc∧(∃cu,RowL W r1 31 cu∧cu.length=3)∧(∃cu,RowL W r2 51 cu∧cu.length=13)∧Below base w9 W
theorem FirstBS.drew {w9:World} {base ge gn r1 r2:Nat} {ec nc:List Value} {W:World} (h:FirstBS w9 base ge gn r1 r2 ec nc W):FirstBS w9 base ge gn r1 r2 ec nc W.drew:=⟨h.1,h.2.1,h.2.2.1,h.2.2.2.1,⟨h.2.2.2.2.os,h.2.2.2.2.tape,h.2.2.2.2.output,h.2.2.2.2.size,h.2.2.2.2.block⟩⟩
end Go.Proofs.YtpndfahgflgocaaGreatDoor

namespace Go.Proofs.YtpndfahgflgocaaGreatDoor
open Go.RowKit Go.Shelf Plain

def FirstS (wc:World) (base g8 g9 r2 r3:Nat) (p:Int×Int) (ec nc:List Value) (W:World):Prop:=(RowL W g8 31 ec∧RowL W (base+1) 75 (prC p))∧RowL W g9 51 nc∧(∃cu,RowL W r2 75 cu∧cu.length=2)∧(∃cu,RowL W r3 51 cu∧cu.length=13)∧Below base wc W
theorem FirstS.drew {wc:World} {base g8 g9 r2 r3:Nat} {p:Int×Int} {ec nc:List Value} {W:World} (h:FirstS wc base g8 g9 r2 r3 p ec nc W):FirstS wc base g8 g9 r2 r3 p ec nc W.drew:=⟨h.1,h.2.1,h.2.2.1,h.2.2.2.1,⟨h.2.2.2.2.os,h.2.2.2.2.tape,h.2.2.2.2.output,h.2.2.2.2.size,h.2.2.2.2.block⟩⟩
end Go.Proofs.YtpndfahgflgocaaGreatDoor

namespace Go.Proofs.YtpndfahgflgocaaGreatDoor
open Go.RowKit Go.Shelf Plain

def CtxN (g:GeoQ) (AU AL AP:Option Addr) (nU cU nL cL n cP B gS gL:Nat) (ls:List (List NodV)) (l:List (Int×Int)) (W:World):Prop:=RowL W gS 29 (stkC g (.slice AU nU cU) (.slice AL nL cL))∧RowL W gL 118 [.slice AP n cP]∧RdE layEn W (Under B) AL nL ls∧RdE prEn W (Under B) AP n l∧B≤W.heap.size
theorem CtxN.kept {g:GeoQ} {AU AL AP:Option Addr} {nU cU nL cL n cP B B0 gS gL:Nat} {ls:List (List NodV)} {l:List (Int×Int)} {W W':World} (h:CtxN g AU AL AP nU cU nL cL n cP B gS gL ls l W) (hk:Kept (Under B0) W W') (hS:gS < B0) (hL:gL < B0) (hB:B≤B0) (hs:W.heap.size≤W'.heap.size):CtxN g AU AL AP nU cU nL cL n cP B gS gL ls l W' :=
 ⟨(hk gS hS).trans h.1,(hk gL hL).trans h.2.1,h.2.2.1.mono (fun b hb=>hk b (Nat.lt_of_lt_of_le hb hB)) (fun _ h=>h),h.2.2.2.1.mono (fun b hb=>hk b (Nat.lt_of_lt_of_le hb hB)) (fun _ h=>h),Nat.le_trans h.2.2.2.2 hs⟩
section
variable {gS gL : Nat} {p : List UInt8 → Bool} {B0 : Nat}
def DelN (p:List UInt8→Bool) (l:List (List UInt8)) (n c g a b:Nat) (W:World):Prop:=∃cs,RowL W g 9 cs∧cs.length=c∧n≤c∧((l.take b).filter (fun x=>!p x)).length=a∧cs.take a=((l.take b).filter (fun x=>!p x)).map st∧∀i x,b≤i→l[i]?=some x→cs[i]?=some (st x)
theorem DelN.on {l:List (List UInt8)} {n c g a b:Nat} {W W':World} (h:DelN p l n c g a b W) (hb:Below W.heap.size W W'):DelN p l n c g a b W':=by
 obtain ⟨cs,h1,h2⟩:=h
 exact ⟨cs,h1.on hb,h2⟩
theorem DelN.skip {l:List (List UInt8)} {n c g a b:Nat} {W:World} {x:List UInt8} (h:DelN p l n c g a b W) (hx:l[b]?=some x) (hp:p x=true):DelN p l n c g a (b+1) W:=by
 obtain ⟨cs,h1,h2,h3,h4,h5,h6⟩:=h
 have e:(l.take (b+1)).filter (fun x=>!p x)=(l.take b).filter (fun x=>!p x):=by rw [List.take_add_one,hx,List.filter_append];simp [hp]
 exact ⟨cs,h1,h2,h3,by rw [e];exact h4,by rw [e];exact h5,fun i y hi hy=>h6 i y (by omega) hy⟩
theorem DelN.put {l:List (List UInt8)} {n c g a b:Nat} {W:World} {x:List UInt8} (h:DelN p l n c g a b W) (hx:l[b]?=some x) (hp:p x=false) (hab:a < b) (hbc:b < c):DelN p l n c g (a+1) (b+1) (W.setCell ⟨g,a,none⟩ (st x)):=by
 obtain ⟨cs,h1,h2,h3,h4,h5,h6⟩:=h
 have e:(l.take (b+1)).filter (fun x=>!p x)=(l.take b).filter (fun x=>!p x)++[x]:=by rw [List.take_add_one,hx,List.filter_append];simp [hp]
 refine ⟨cs.set a (st x),h1.set_ a _,by rw [List.length_set];exact h2,h3,by rw [e,List.length_append,h4];rfl,?_,fun i y hi hy=>?_⟩
 ·rw [e,List.map_append,←h5,List.take_add_one,List.getElem?_set_self (by omega),List.take_set_of_le (Nat.le_refl _)]
  rfl
 ·rw [List.getElem?_set_ne (by omega)]
  exact h6 i y (by omega) hy
end
end Go.Proofs.YtpndfahgflgocaaGreatDoor

namespace Go.Proofs.YtpndfahgflgocaaGreatDoor
open Go.RowKit Go.Shelf Plain

theorem Entries_e {A:Option Addr} {n c:Nat} {ns:List NodV} {i:Int} {B:Nat} {l:List EntV} (hl:entB ns i=l) (w:World) (h:RdE nodEn w (Under B) A n ns) (hB:B≤w.heap.size) (hm:ns.length≤100000) :
  Calls Tryz.prog 46 #[.agg #[.slice A n c],.int .i64 i] w (EntsRet w B l):=by rw [←hl];exact Entries_any w h hB hm
end Go.Proofs.YtpndfahgflgocaaGreatDoor

namespace Go.Proofs.YtpndfahgflgocaaGreatDoor
open Go.RowKit Plain

theorem entB_len {ns:List NodV} (h:∀x∈ns,PlainN x) (i:Int):(entB ns i).length≤16:=by
 unfold entB
 split
 ·exact (nodAt_plain h i).2.2.2.2.1
 ·simp
def PlainX (x:NodV):Prop:=True∧(0≤x.k∧x.k≤4)∧(0≤x.att.h∧x.att.h≤31)∧x.data.length≤300∧x.ents.length≤17∧x.att.r.length≤40∧True
theorem PlainN.toX {x:NodV} (h:PlainN x):PlainX x:=⟨trivial,h.2.1,h.2.2.1,h.2.2.2.1,Nat.le_succ_of_le h.2.2.2.2.1,h.2.2.2.2.2.1,trivial⟩
end Go.Proofs.YtpndfahgflgocaaGreatDoor

namespace Go.Proofs.YtpndfahgflgocaaGreatDoor
open Go.RowKit Go.Shelf Plain

theorem fr_on {α:Type} {E:Enc α} {w w':World} {lo:Nat} {A:Option Addr} {n:Nat} {l:List α} (h:RdE E w (fun b=>lo≤b∧b < w.heap.size) A n l) (hb:Below w.heap.size w w'):RdE E w' (fun b=>lo≤b∧b < w'.heap.size) A n l :=
 h.mono (Kept.of_below hb fun _ h=>h.2) fun _ h=>⟨h.1,Nat.lt_of_lt_of_le h.2 hb.size⟩
theorem fr_grown {α:Type} {E:Enc α} {w w':World} {lo g:Nat} {A:Option Addr} {n:Nat} {l:List α} (h:RdE E w (fun b=>lo≤b∧b < w.heap.size) A n l) (hg:w.grownBy w' (some g)) (hlo:g < lo):RdE E w' (fun b=>lo≤b∧b < w'.heap.size) A n l :=
 h.mono (fun b hb=>hg.block b hb.2 (pu5 (by omega))) fun _ h=>⟨h.1,Nat.lt_of_lt_of_le h.2 hg.size⟩
theorem und_grown {α:Type} {E:Enc α} {w w':World} {B g:Nat} {A:Option Addr} {n:Nat} {l:List α} (h:RdE E w (Under B) A n l) (hg:w.grownBy w' (some g)) (hB:B≤w.heap.size) (hlo:B≤g):RdE E w' (Under B) A n l :=
 h.mono (fun b hb=>hg.block b (Nat.lt_of_lt_of_le hb hB) (fun e=>by have:=Option.some.inj e;unfold Under at hb;omega)) fun _ h=>h
theorem fr_low {α:Type} {E:Enc α} {w:World} {lo lo':Nat} {A:Option Addr} {n:Nat} {l:List α} (h:RdE E w (fun b=>lo≤b∧b < w.heap.size) A n l) (hl:lo'≤lo):RdE E w (fun b=>lo'≤b∧b < w.heap.size) A n l:=h.mono (fun _ _=>rfl) fun _ h=>⟨Nat.le_trans hl h.1,h.2⟩
theorem splice_one (l:List Value) (p:Nat) (v:Value) (h:p < l.length):splice l p [v]=l.set p v:=by
 apply List.ext_getElem?
 intro i
 rw [splice_get _ _ _ _ (by simp;omega),List.getElem?_set]
 by_cases h1:p=i
 ·subst h1
  simp [h]
 ·rw [if_neg h1]
  by_cases h2:i < p
  ·rw [if_pos h2]
  ·have h3:¬i < p+[v].length:=by simp;omega
   rw [if_neg h2,if_neg h3]
theorem wpList_storeV {P : Program} {w : World} {ops : Array Oper} {rest : List Oper} {o : Oper} {a : Act} {Q : Exit → Act → World → Prop} (hgd : o.guard = none) (T : Nat) (x y : Operand) (ho : o.op = .store T x y)
  (hsz:∀w,(sizeOf T).run P w=.ok 1 w) (g off t:Nat) (hx:a.eval x=.pointer (some ⟨g,off,none⟩)) (v:Value) (hy:a.eval y=v) (hv:v.cells=#[v]) (h1:v.oneCell'=true) (cur:List Value) (h:RowL w g t cur) (hfit:off < cur.length)
  (hK:∀w',RowL w' g t (cur.set off v)→w.grownBy w' (some g)→w'.heap.size=w.heap.size→wpList P ops Q rest (a.put o.dst undef) w'):wpList P ops Q (o::rest) a w:=by
 refine wpList_plain hgd fun K hK'=>?_
 have hst:=run_storeCells_at P g off t [v] 0 cur.toArray w h (by simp;omega) (by simp [h1])
 simp only [Nat.add_zero] at hst
 have hr:(Instr.storeAt T (.pointer (some ⟨g,off,none⟩)) v).run P w=.ok () (w.setRow g (splice cur off [v]).toArray):=by
  simp [Instr.storeAt,Instr.sureAddr,storeVar,hsz,hv,hst,splice]
 unfold Oper.wp execOp
 simp only [ho,Sem.run_bind,Sem.run_pure,Result.andThen_ok,hx,hy,hr]
 have hrow:=h.setRow_ (splice cur off [v])
 rw [splice_one _ _ _ hfit] at hrow ⊢
 exact hK' _ _ (hK _ hrow (grownBy_setRow _ _ _) (by simp))
theorem und_up {α:Type} {E:Enc α} {w:World} {B:Nat} {A:Option Addr} {n:Nat} {l:List α} (h:RdE E w (Under B) A n l) (hB:B≤w.heap.size):RdE E w (Under w.heap.size) A n l:=h.mono (fun _ _=>rfl) fun _ h=>Nat.lt_of_lt_of_le h hB
theorem sub_cell {cur cs:List Value} {off k:Nat} (h:(cur.drop off).take k=cs) {j:Nat} {v:Value} (hv:cs[j]?=some v):cur[off+j]?=some v:=by
 subst h
 rw [List.getElem?_take] at hv
 split at hv
 ·rwa [List.getElem?_drop] at hv
 ·cases hv
theorem rowA1 (w:World) (c1:List Value) (t1:Nat) {W:World} (hW:w.alloc (.cells c1.toArray t1)=W):RowL W w.heap.size t1 c1∧Below w.heap.size w W∧W.heap.size=w.heap.size+1:=by
 subst hW
 exact ⟨RowL.new w t1 c1,below_new (below_self w) _,by simp⟩
theorem rowA2 (w:World) (c1:List Value) (t1:Nat) (c2:List Value) (t2:Nat) {W:World} (hW:(w.alloc (.cells c1.toArray t1)).alloc (.cells c2.toArray t2)=W):RowL W w.heap.size t1 c1∧RowL W (w.heap.size+1) t2 c2∧Below w.heap.size w W∧W.heap.size=w.heap.size+2:=by
 subst hW
 exact rows2 w c1 c2 t1 t2
theorem rowA3 (w:World) (c1:List Value) (t1:Nat) (c2:List Value) (t2:Nat) (c3:List Value) (t3:Nat) {W:World} (hW:((w.alloc (.cells c1.toArray t1)).alloc (.cells c2.toArray t2)).alloc (.cells c3.toArray t3)=W):RowL W w.heap.size t1 c1∧RowL W (w.heap.size+1) t2 c2∧RowL W (w.heap.size+1+1) t3 c3∧Below w.heap.size w W∧W.heap.size=w.heap.size+3:=by
 subst hW
 exact rows3 w c1 c2 c3 t1 t2 t3
end Go.Proofs.YtpndfahgflgocaaGreatDoor

namespace Go.Proofs.YtpndfahgflgocaaGreatDoor
open Go.RowKit Go.Shelf Plain

def IfRet (w:World) (b:Bool) (P:Prop) (e:Ending) (w':World):Prop:=∃p:Bool,e=.returned (.bool p)∧Below w.heap.size w w'∧(p=b→P)
def FewB (many:Int) (ns:List NodV):Prop:=(ns.length:Int)≤many∧∀x∈ns,PlainN x
def FineN (ns:List NodV):Prop:=∀x∈ns,x.ents.length≤9223372036854775807
set_option maxRecDepth 100000 in
set_option maxHeartbeats 1600000 in
theorem PSt1_any {A:Option Addr} {n c gM:Nat} {many:Int} {ns:List NodV} (w:World) (h:RdE nodEn w (Under w.heap.size) A n ns) (hM:w.cell? ⟨gM,0,none⟩=some (.int .i64 many)) (hg:gM < w.heap.size) (hmany:many≤100000) (hsm:FineN ns) :
  Calls Tryz.prog 23 #[.agg #[.slice A n c],.pointer (some ⟨gM,0,none⟩)] w (IfRet w false (FewB many ns)):=by
 have r:=RowL.new w 26 [.slice A n c]
 have hb:=below_new (below_self w) (.cells [Value.slice A n c].toArray 26)
 obtain ⟨W1,hW1⟩:∃W1,w.alloc (.cells [Value.slice A n c].toArray 26)=W1:=⟨_,rfl⟩
 have H0:=h.on hb
 have q1:=(hb.cell (p:=⟨gM,0,none⟩) hg).trans hM
 rw [hW1] at r hb H0 q1
 have hW1':w.alloc (.cells #[.slice A n c] 26)=W1:=hW1
 have q0:W1.cell? ⟨w.heap.size,0,none⟩=some (.slice A n c):=r.cell 0
 have HN:=hide H0
 have HB:=hide hb
 have HFI:=hide hsm
 have HLN:=hide h.1
 clear r hb H0 hW1 h hsm hM
 go_enter Tryz.func23,Tryz.ntmps23
 go_wp2_with fail
 refine (PBranch_any W1 HN.out hmany HFI.out).mono ?_
 rintro e w3 ⟨p,rfl,hb3,hp⟩
 have HP:=hide hp
 have HB3:=hide (HB.out.trans (hb3.mono HB.out.size))
 clear hp hb3 q0 q1 hW1'
 cases p
 ·go_wp2_with fail
  go_ret
  exact ⟨true,rfl,HB3.out,fun h=>by cases h⟩
 ·go_wp2_with fail
  go_ret
  exact ⟨false,rfl,HB3.out,fun _=>by have:=HP.out (by first|rfl|trivial);exact ⟨by rw [HLN.out];exact this.1,this.2⟩⟩
set_option maxRecDepth 100000 in
set_option maxHeartbeats 1600000 in
theorem BrIdx_any {A:Option Addr} {n c gM:Nat} {many:Int} {l:List (List NodV)} (w:World) (h:RdE layEn w (Under w.heap.size) A n l) (hM:w.cell? ⟨gM,0,none⟩=some (.int .i64 many)) (hg:gM < w.heap.size) (hmany:many≤100000) (hn:n≤100000) (hsm:∀ns∈l,FineN ns) :
  Calls Tryz.prog 45 #[.slice A n c,.func (.func 23) #[] #[.pointer (some ⟨gM,0,none⟩)]] w (fun e w'=>∃r:Int,e=.returned (.int .i64 r)∧Below w.heap.size w w'∧(r < 0→∀ns∈l,FewB many ns)):=by
 have H:=hide h
 have hln:=h.1
 have HSM:=hide hsm
 have HM:=hide hM
 clear h hsm hM
 go_enter Tryz.func45,Tryz.ntmps45
 go_wp2
 go_loopw [8] (fun iv wr=>∃j:Nat,j≤n∧iv=.int .i64 j∧Below w.heap.size w wr∧∀i x,i < j→l[i]?=some x→FewB many x) (fun iv _=>n - (intOf iv).toNat)
 case atStart=>exact ⟨0,by omega,rfl,below_self _,fun i x hi=>by omega⟩
 case round =>
  obtain ⟨j,hj,rfl,hbr,hall⟩:=hrel
  have HBR:=hide hbr
  have HALL:=hide hall
  have hbsz:=hbr.size
  clear hbr hall
  by_cases hlt:j < n
  ·obtain ⟨ns,hx⟩:∃ns,l[j]?=some ns:=⟨_,List.getElem?_eq_getElem (by omega)⟩
   obtain ⟨b,o,rfl,hbB,A2,n2,c2,hc,hc2,hN2⟩:=RdE.get_list (F:=nodEn) (H.out.on HBR.out) hx
   have HN2:=hide hN2
   have q:wr.cell? ⟨b,o+j,none⟩=some (.slice A2 n2 c2):=hc
   have HX:=hide hx
   have HFI:=hide (HSM.out ns (List.mem_of_getElem? hx))
   have HM2:=hide ((HBR.out.cell (p:=⟨gM,0,none⟩) hg).trans HM.out)
   have hjn:(j:Int) < (n:Int):=by omega
   clear hx hN2 hc
   go_wp2_with fail
   refine (PSt1_any wr HN2.out HM2.out (by omega) hmany HFI.out).mono ?_
   rintro e w3 ⟨p,rfl,hb3,hp⟩
   have HP:=hide hp
   have HB3:=hide (HBR.out.trans (hb3.mono hbsz))
   clear hp hb3 q
   cases p with
   | true =>
    go_wp2_with fail
    go_ret
    exact ⟨(j:Int),rfl,HB3.out,fun h=>by omega⟩
   | false =>
    go_wp2_with fail
    go_roundw
    case rel=>exact ⟨j+1,by omega,by go_num,HB3.out,fun i y hi hy=>by
     by_cases e:i=j
     ·subst e
      have:=HX.out.symm.trans hy
      cases this
      exact HP.out (by first|rfl|trivial)
     ·exact HALL.out i y (by omega) hy⟩
    case measure=>simp [intOf];omega
  ·obtain rfl:j=n:=by omega
   go_wp2_with fail
   go_ret
   exact ⟨-1,rfl,HBR.out,fun _ x hx=>by
    obtain ⟨i,hi,rfl⟩:=List.mem_iff_getElem.1 hx
    exact HALL.out i _ (by omega) (List.getElem?_eq_getElem hi)⟩
set_option maxRecDepth 100000 in
theorem BrHas_any {A:Option Addr} {n c gM:Nat} {many:Int} {l:List (List NodV)} (w:World) (h:RdE layEn w (Under w.heap.size) A n l) (hM:w.cell? ⟨gM,0,none⟩=some (.int .i64 many)) (hg:gM < w.heap.size) (hmany:many≤100000) (hn:n≤100000) (hsm:∀ns∈l,FineN ns) :
  Calls Tryz.prog 22 #[.slice A n c,.func (.func 23) #[] #[.pointer (some ⟨gM,0,none⟩)]] w (IfRet w false (∀ns∈l,FewB many ns)):=by
 have H:=hide h
 have HM:=hide hM
 clear h hM
 go_enter Tryz.func22,Tryz.ntmps22
 go_wp2_with (go_at_call 45;refine (BrIdx_any w H.out HM.out hg hmany hn hsm).mono ?_;rintro e w3 ⟨r,rfl,hb3,hp⟩;have HP:=hide hp;have HB3:=hide hb3;clear hp hb3)
 go_ret
 exact ⟨_,rfl,HB3.out,fun h=>HP.out (by simpa using h)⟩
set_option maxRecDepth 100000 in
set_option maxHeartbeats 4000000 in
theorem PStackM_any {many:Int} (hmm:many≤24) {g:GeoQ} {AU AL:Option Addr} {nU cU nL cL:Nat} {up:List NodV} {ls:List (List NodV)} (w:World) (hu:RdE nodEn w (Under w.heap.size) AU nU up) (h:RdE layEn w (Under w.heap.size) AL nL ls) (hfu:FineN up) (hfl:∀ns∈ls,FineN ns) :
  Calls Tryz.prog 6 #[.agg (stkC g (.slice AU nU cU) (.slice AL nL cL)).toArray,.int .i64 many] w (IfRet w true (FewL ls∧FewB many up)):=by
 obtain ⟨r0,r1,hb2,hs2⟩:=rows2 w (stkC g (.slice AU nU cU) (.slice AL nL cL)) [.int .i64 many] 29 3
 obtain ⟨W2,hW2⟩:∃W2,(w.alloc (.cells (stkC g (.slice AU nU cU) (.slice AL nL cL)).toArray 29)).alloc (.cells [Value.int .i64 many].toArray 3)=W2:=⟨_,rfl⟩
 rw [hW2] at r0 r1 hb2 hs2
 have hW2':(w.alloc (.cells #[.int .i64 g.a,.int .i64 g.b,.int .i64 g.c,.int .i64 g.d,.slice AU nU cU,.slice AL nL cL] 29)).alloc (.cells #[.int .i64 many] 3)=W2:=hW2
 have q4:W2.cell? ⟨w.heap.size,4,none⟩=some (.slice AU nU cU):=r0.cell 4
 have q5:W2.cell? ⟨w.heap.size,5,none⟩=some (.slice AL nL cL):=r0.cell 5
 have m0:W2.cell? ⟨w.heap.size+1,0,none⟩=some (.int .i64 many):=r1.cell 0
 have R0:=hide r0
 have R1:=hide r1
 have HB2:=hide hb2
 have HU:=hide (hu.on hb2)
 have HL:=hide (h.on hb2)
 have HLL:=hide h.1
 have HUL:=hide hu.1
 have HFU:=hide hfu
 have HFL:=hide hfl
 have hsl:w.heap.size+2≤W2.heap.size:=by omega
 unfold stkC
 clear r0 r1 hb2 hW2 hs2 hu h hfu hfl
 by_cases k0:(nL:Int)≤3
 rotate_left
 ·have c0:decide ((nL:Int)≤3)=false:=decide_eq_false k0
  clear q4
  go_enter Tryz.func6,Tryz.ntmps6
  go_wp2_with fail
  go_ret
  exact ⟨false,rfl,HB2.out,fun h=>by cases h⟩
 have c0:decide ((nL:Int)≤3)=true:=decide_eq_true k0
 go_enter Tryz.func6,Tryz.ntmps6
 go_wp2_with fail
 clear hW2'
 refine (PBranch_any W2 HU.out (by omega) HFU.out).mono ?_
 rintro e w3 ⟨p,rfl,hb3,hp⟩
 have HP:=hide hp
 have HB3:=hide (HB2.out.trans (hb3.mono (by omega)))
 have s5:w3.cell? ⟨w.heap.size,5,none⟩=some (.slice AL nL cL):=(R0.out.on hb3).cell 5
 have M3:=hide ((R1.out.on hb3).cell 0)
 have HL3:=hide (HL.out.on hb3)
 have hs3:=hb3.size
 clear hp hb3 q4 q5 m0
 cases p
 ·clear s5
  go_wp2_with fail
  go_ret
  exact ⟨false,rfl,HB3.out,fun h=>by cases h⟩
 go_wp2_with fail
 refine (BrHas_any w3 HL3.out M3.out (by omega) (by omega) (by omega) HFL.out).mono ?_
 rintro e w4 ⟨p,rfl,hb4,hp4⟩
 have HP4:=hide hp4
 have HB4:=hide (HB3.out.trans (hb4.mono HB3.out.size))
 clear hp4 hb4 s5
 cases p
 ·go_wp2_with fail
  go_ret
  refine ⟨true,rfl,HB4.out,fun _=>?_⟩
  have h1:=HP.out (by first|rfl|trivial)
  have h2:=HP4.out (by first|rfl|trivial)
  exact ⟨⟨by rw [HLL.out];omega,fun ns hn=>⟨by have:=(h2 ns hn).1;omega,(h2 ns hn).2⟩⟩,⟨by rw [HUL.out];exact h1.1,h1.2⟩⟩
 ·go_wp2_with fail
  go_ret
  exact ⟨false,rfl,HB4.out,fun h=>by cases h⟩
end Go.Proofs.YtpndfahgflgocaaGreatDoor

namespace Go.Proofs.YtpndfahgflgocaaGreatDoor
open Go.RowKit Go.Shelf Plain

theorem At_e {A:Option Addr} {B:Nat} {n c:Nat} {ns:List NodV} {i:Int} {x:NodV} (hx:nodAt ns i=x) (w:World) (h:RdE nodEn w (Under B) A n ns) (hB:B≤w.heap.size) (hm:ns.length≤100000):Calls Tryz.prog 31 #[.agg #[.slice A n c],.int .i64 i] w (NodRet w B x):=by rw [←hx];exact At_anyB w h hB hm
def FewU (up:List NodV):Prop:=up.length≤24∧∀x∈up,PlainN x
def FewX (up:List NodV):Prop:=up.length≤24∧∀x∈up,PlainX x
theorem FewU.toX {up:List NodV} (h:FewU up):FewX up:=⟨h.1,fun x hx=>(h.2 x hx).toX⟩
instance coeFewX {up:List NodV}:Coe (FewU up) (FewX up):=⟨FewU.toX⟩
end Go.Proofs.YtpndfahgflgocaaGreatDoor

