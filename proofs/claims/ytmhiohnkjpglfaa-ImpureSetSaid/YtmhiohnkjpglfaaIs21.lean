import Derived.Test.YtmhiohnkjpglfaaIs1
import Derived.Test.YtmhiohnkjpglfaaRows
import Derived.Test.YtmhiohnkjpglfaaIs2
import Derived.Test.YtmhiohnkjpglfaaIs20
import Derived.Test.YtmhiohnkjpglfaaProg
import Derived.Lib.Bytealg
import Derived.Lib.CutLaws
import Derived.Lib.Join
import Derived.Shelf.Small.Wraps
import Derived.Shelf.Small.Strs
import Derived.Shelf.Strings.Prefix
import Derived.Shelf.Slices.Clone
import Derived.Shelf.Slices.CompactS
import Derived.Shelf.Slices.Cells
import Derived.Sort.OwnSorted
import Derived.Lib.RowBridge
import Derived.DeepKeys4

namespace Go.Proofs.Ytmhiohnkjpglfaa.Plain
def letB (x:Nat):Bool:=decide ((97≤x∧x≤122)∨(48≤x∧x≤57)∨x=46∨x=95∨x=45)
def nameB (l:List UInt8):Bool:=(decide (1≤l.length∧l.length≤12)&&(!(l==[46])&&!(l==[46,46])))&&l.all fun x=>letB x.toNat
theorem all_take_succ {l:List UInt8} {p:UInt8→Bool} {k:Nat} (h:k < l.length):(l.take (k+1)).all p=((l.take k).all p&&p l[k]):=by
 rw [List.take_succ_eq_append_getElem h,List.all_append]
 simp
theorem all_false {l:List UInt8} {p:UInt8→Bool} {k:Nat} (h:k < l.length) (hp:p l[k]=false):l.all p=false:=by
 rw [List.all_eq_false]
 exact ⟨l[k],List.getElem_mem h,by simp [hp]⟩
end Go.Proofs.Ytmhiohnkjpglfaa.Plain

namespace Go.Proofs.Ytmhiohnkjpglfaa
open Go.RowKit Plain
def st (l:List UInt8):Value:=.string ⟨l.toArray⟩
theorem ret_bool {a b:Bool} (h:a=b):Ending.returned (.bool a)=.returned (.bool b):=by rw [h]

set_option maxHeartbeats 400000 in
theorem Rletter_any (x:Nat) (hx:x < 256) (w:World) :
  Calls Try.prog 49 #[.int .u8 x] w fun e w'=>e=.returned (.bool (letB x))∧w=w':=by
 go_enter Try.func49,Try.ntmps49
 go_wp2
 all_goals
  go_ret
  refine ⟨ret_bool ?_,rfl⟩
  rw [Bool.eq_iff_iff]
  simp [letB]
  omega
theorem Rletter_b {x:Nat} {b:Bool} (hx:x < 256) (hb:letB x=b) (w:World) :
  Calls Try.prog 49 #[.int .u8 x] w fun e w'=>e=.returned (.bool b)∧w=w':=by
 have:=Rletter_any x hx w;rw [hb] at this;exact this

set_option maxHeartbeats 400000 in
theorem RNRight_any (l:List UInt8) (w:World) (hl:l.length≤140737488355328) :
  Calls Try.prog 42 #[st l] w fun e w'=>e=.returned (.bool (nameB l))∧w=w':=by
 unfold st
 by_cases h1:l.length < 1
 ·have hr:nameB l=false:=by
   have:decide (1≤l.length∧l.length≤12)=false:=by simp;omega
   simp [nameB,this]
  rw [hr]
  clear hr
  obtain rfl:l=[]:=List.eq_nil_of_length_eq_zero (by omega)
  go_enter Try.func42,Try.ntmps42
  go_wp2
  go_ret
  exact ⟨rfl,rfl⟩
 by_cases h2:12 < l.length
 ·have hr:nameB l=false:=by
   have:decide (1≤l.length∧l.length≤12)=false:=by simp;omega
   simp [nameB,this]
  rw [hr]
  clear hr
  have d1:decide ((l.length:Int) < 1)=false:=by simp;omega
  have d2:decide ((12:Int) < (l.length:Int))=true:=by simp;omega
  go_enter Try.func42,Try.ntmps42
  go_wp2
  go_ret
  exact ⟨rfl,rfl⟩
 by_cases h3:l=[46]
 ·subst h3
  go_enter Try.func42,Try.ntmps42
  go_wp2
  go_ret
  exact ⟨rfl,rfl⟩
 by_cases h4:l=[46,46]
 ·subst h4
  go_enter Try.func42,Try.ntmps42
  go_wp2
  go_ret
  exact ⟨rfl,rfl⟩
 have d1:decide ((l.length:Int) < 1)=false:=by simp;omega
 have d2:decide ((12:Int) < (l.length:Int))=false:=by simp;omega
 have d3:(l==[46])=false:=by simpa using h3
 have d4:(l==[46,46])=false:=by simpa using h4
 have hr:nameB l=l.all fun x=>letB x.toNat:=by
  have:decide (1≤l.length∧l.length≤12)=true:=by simp;omega
  simp [nameB,this,d3,d4]
 rw [hr]
 obtain ⟨r,hre⟩:∃r,(l.all fun x=>letB x.toNat)=r:=⟨_,rfl⟩
 rw [hre]
 have HR:=hide hre
 clear hr hre h3 h4
 go_enter Try.func42,Try.ntmps42
 go_wp2_with fail
 clear d1 d2 d3 d4
 go_loop [3] (fun i=>∃k:Nat,k≤l.length∧i=.int .i64 k∧((l.take k).all fun x=>letB x.toNat)=true) (fun i=>l.length - (intOf i).toNat)
 case atStart=>exact ⟨0,Nat.zero_le _,rfl,rfl⟩
 case round =>
  obtain ⟨k,hk,rfl,hall⟩:=hrel
  have HALL:=hide hall
  clear hall
  by_cases hlt:k < l.length
  ·have hb:=l[k].toNat_lt
   cases hb2:letB l[k].toNat with
   | true =>
    have HB:=hide hb2
    clear hb2
    go_wp2_with fail
    refine (Rletter_b hb HB.out _).mono ?_
    rintro e w' ⟨rfl,rfl⟩
    go_wp2_with fail
    go_round
    case rel=>exact ⟨k+1,by omega,by go_num,by rw [all_take_succ hlt,HALL.out,HB.out];rfl⟩
    case measure=>simp [intOf];omega
   | false =>
    have hrf:r=false:=by rw [←HR.out];exact all_false hlt hb2
    have HRF:=hide hrf
    have HB:=hide hb2
    clear hb2 hrf
    go_wp2_with fail
    refine (Rletter_b hb HB.out _).mono ?_
    rintro e w' ⟨rfl,rfl⟩
    go_wp2_with fail
    go_ret
    rw [HRF.out]
    exact ⟨rfl,rfl⟩
  ·have hrt:r=true:=by
    rw [←HR.out]
    have:=HALL.out
    rwa [List.take_of_length_le (by omega)] at this
   have HRT:=hide hrt
   clear hrt
   go_wp2
   go_ret
   rw [HRT.out]
   exact ⟨rfl,rfl⟩
end Go.Proofs.Ytmhiohnkjpglfaa

namespace Go.Proofs.Ytmhiohnkjpglfaa
open Go.RowKit Go.Shelf Plain Go.Sort

set_option maxRecDepth 100000 in
set_option maxHeartbeats 1600000 in
theorem Reach_any {A F:Option Addr} {n c k d:Nat} {ns:List NodV} {ff:List Int} (w:World) (h:RdE nodEn w (Under w.heap.size) A n ns) (hf:RdE Enc.int w (Under w.heap.size) F k ff) (hM:Many ns) (hk:k≤1000) :
  Calls Try.prog 28 #[.agg #[.slice A n c],.slice F k d] w (BoolsRet w (reachL ns (walkW ns ff).1)):=by
 have hb1:=below_new (below_self w) (.cells #[.slice A n c] 26)
 have H1:=hide (h.on hb1)
 have HF1:=hide (hf.on hb1)
 have HB1:=hide hb1
 have HM:=hide hM
 clear h hf hb1
 go_enter Try.func28,Try.ntmps28
 go_wp2_with (first|(go_at_call 38;refine (walked_any _ H1.out HF1.out HM.out hk).mono ?_;rintro e w2 ⟨g,b,rfl,hw2,hb2⟩;have HW2:=hide hw2;have HB2:=hide (below_step HB1.out hb2);clear hw2 hb2)|(go_at_call 39;refine (reach_any _ HW2.out (walk_ok ns ff) HM.out).mono ?_;rintro e w3 ⟨A3,n3,c3,rfl,hn3,hr3,hb3,hf3⟩;have HR3:=hide hr3;have HF3:=hide hf3;clear hf3;have HB3:=hide (HB2.out.trans (hb3.mono HB2.out.size));clear hr3 hb3))
 go_ret
 exact ⟨A3,n3,c3,rfl,hn3,HR3.out,HB3.out,fun b o e=>Nat.le_trans HB2.out.size (HF3.out b o e)⟩
end Go.Proofs.Ytmhiohnkjpglfaa

namespace Go.Proofs.Ytmhiohnkjpglfaa
open Go.RowKit Go.Shelf Plain Go.Maps

def SetN (w:World) (b c:Nat) (f:Int×Int→Bool):Prop:=∃D:DataW Unit,w.ownsMap Try.prog 102 unitElem b c D∧∀x y kl,i64 x→i64 y→keyOf Try.prog 102 (.agg #[.int .i64 x,.int .i64 y])=some kl→Maps.has D kl=f (x,y)
section
variable {w w' : World} {b c : Nat} {f : Int × Int → Bool}
theorem SetN.made (w:World):SetN (w.alloc (.map #[] 0)) w.heap.size 0 (fun _=>false):=⟨.map [],World.ownsMap_made w _ _ _,fun _ _ _ _ _ _=>rfl⟩
theorem SetN.lt (h:SetN w b c f):b < w.heap.size:=by obtain ⟨D,h1,h2⟩:=h;exact h1.lt
theorem SetN.kept {row:Option Nat} (h:SetN w b c f) (hg:w.grownBy w' row) (hne:some b≠row):SetN w' b c f:=by obtain ⟨D,h1,h2⟩:=h;exact ⟨D,h1.kept hg hne,h2⟩
theorem SetN.on (h:SetN w b c f) (hb:Below w.heap.size w w'):SetN w' b c f:=h.kept (grown_below hb) (by simp)
theorem SetN.eq {g:Int×Int→Bool} (h:SetN w b c f) (e:f=g):SetN w b c g:=e ▸ h
theorem SetN.obj (h:SetN w b c f):∃o:Obj,w.heap[b]?=some o∧(∀x,o≠.deferred x)∧o.isCells=false:=by
 obtain ⟨D,⟨es,clock,h1,_⟩,h2⟩:=h
 exact ⟨_,h1,(fun x e=>by cases e),rfl⟩
end
end Go.Proofs.Ytmhiohnkjpglfaa

namespace Go.Proofs.Ytmhiohnkjpglfaa
open Go.RowKit Go.Shelf Plain

def nodZ:List Value:=nodC nod0 (.slice none 0 0) (.slice none 0 0)
theorem flat_put {k:Nat}:∀ {css:List (List Value)} (_:∀cs∈css,cs.length=k) (j:Nat) (cs:List Value) (_:cs.length=k) (_:j < css.length),splice css.flatten (j*k) cs=(css.set j cs).flatten:=by
 intro css
 induction css with
 | nil=>intro _ j cs _ hj;simp at hj
 | cons c0 r ih =>
  intro hk j cs hc hj
  have h0:c0.length=k:=hk c0 List.mem_cons_self
  cases j with
  | zero =>
   simp only [splice,Nat.zero_mul,List.take_zero,List.nil_append,Nat.zero_add,List.set_cons_zero,List.flatten_cons]
   rw [List.drop_left' (by omega)]
  | succ j =>
   have:=ih (fun c h=>hk c (List.mem_cons_of_mem _ h)) j cs hc (by simpa using hj)
   simp only [List.set_cons_succ,List.flatten_cons,←this]
   unfold splice
   have e1:(j+1)*k=c0.length+j*k:=by rw [Nat.succ_mul,h0];omega
   rw [e1,List.take_append,List.take_of_length_le (by omega),Nat.add_sub_cancel_left,List.append_assoc,show c0.length+j*k+cs.length=c0.length+(j*k+cs.length) from by omega,List.drop_append,List.drop_of_length_le (by omega),Nat.add_sub_cancel_left,List.nil_append]
def NodesAt (B g:Nat) (l:List NodV) (W:World):Prop:=∃css,RowL W g 46 css.flatten∧CellsE nodEn W (fun b=>B≤b∧b < W.heap.size∧b≠g) css l
theorem NodesAt.on {B g:Nat} {l:List NodV} {W W':World} (h:NodesAt B g l W) (hb:Below W.heap.size W W'):NodesAt B g l W':=by
 obtain ⟨css,h1,h2⟩:=h
 exact ⟨css,h1.on hb,h2.mono (fun b hb'=>hb.block b hb'.2.1) (fun b hb'=>⟨hb'.1,Nat.lt_of_lt_of_le hb'.2.1 hb.size,hb'.2.2⟩)⟩
theorem NodesAt.len {B g:Nat} {l:List NodV} {W:World} (h:NodesAt B g l W):∃cs,RowL W g 46 cs∧cs.length=l.length*13:=by
 obtain ⟨css,h1,h2⟩:=h
 exact ⟨_,h1,by rw [flat_len h2.lens,h2.1];rfl⟩
theorem NodesAt.put {B g j:Nat} {l:List NodV} {x:NodV} {W W':World} {cur cs:List Value} (h:NodesAt B g l W) (hj:j < l.length) (hx:NodR W (fun b=>B≤b∧b < W.heap.size∧b≠g) cs x) (hcur:RowL W g 46 cur) (hr:RowL W' g 46 (splice cur (j*13) cs)) (hg:W.grownBy W' (some g)):NodesAt B g (l.set j x) W':=by
 obtain ⟨css,h1,h2⟩:=h
 have hc:cs.length=13:=nodEn.len hx
 have e:cur=css.flatten:=by
  have:=h1.symm.trans hcur
  injection this with this
  injection this with this
  simpa using this.symm
 subst e
 rw [flat_put (k:=13) (fun c hc=>h2.lens c hc) j cs hc (by rw [h2.1];exact hj)] at hr
 have hk:Kept (fun b=>B≤b∧b < W.heap.size∧b≠g) W W':=fun b hb=>hg.block b hb.2.1 (fun e=>hb.2.2 (Option.some.inj e))
 have hD:∀b,(B≤b∧b < W.heap.size∧b≠g)→(B≤b∧b < W'.heap.size∧b≠g):=fun b hb=>⟨hb.1,Nat.lt_of_lt_of_le hb.2.1 hg.size,hb.2.2⟩
 refine ⟨css.set j cs,hr,by rw [List.length_set,List.length_set,h2.1],fun i c y hc1 hy1=>?_⟩
 by_cases hi:j=i
 ·subst hi
  rw [List.getElem?_set_self (by rw [h2.1];exact hj)] at hc1
  rw [List.getElem?_set_self hj] at hy1
  cases hc1
  cases hy1
  exact NodR.mono hx hk hD
 ·rw [List.getElem?_set_ne hi] at hc1 hy1
  exact nodEn.mono (h2.2 i c y hc1 hy1) hk hD
theorem NodesAt.rd {B g n:Nat} {l:List NodV} {W:World} (h:NodesAt B g l W) (hB:B≤g) (hn:l.length=n):RdE nodEn W (fun b=>B≤b∧b < W.heap.size) (some ⟨g,0,none⟩) n l:=by
 subst hn
 obtain ⟨css,h1,h2⟩:=h
 refine ⟨rfl,fun _=>⟨g,0,rfl,⟨hB,h1.lt⟩,fun i x hx=>?_⟩⟩
 have hi:=(List.getElem?_eq_some_iff.1 hx).1
 have hc:css[i]?=some (css[i]'(by rw [h2.1];exact hi)):=List.getElem?_eq_getElem _
 have hR:=h2.2 i _ x hc hx
 refine ⟨_,nodEn.mono hR (fun _ _=>rfl) (fun b hb=>⟨hb.1,hb.2.1⟩),fun j v hv=>?_⟩
 have hj:j < 13:=by have:=(List.getElem?_eq_some_iff.1 hv).1;have h13:=nodEn.len hR;rw [h13] at this;exact this
 rw [Nat.zero_add,h1.cell]
 exact (flat_get h2.lens hc hj).trans hv
set_option maxRecDepth 100000 in
theorem nodw_info:(Try.prog.info? 46).map (fun i=>(i.zero,i.size,i.bytes))=some (some (.agg nodZ.toArray),13,144):=by kernel_rfl
end Go.Proofs.Ytmhiohnkjpglfaa

namespace Go.Proofs.Ytmhiohnkjpglfaa
open Go.RowKit Go.Shelf Plain

theorem cell_same {W W':World} {b o:Nat} (h:W'.heap[b]?=W.heap[b]?):W'.cell? ⟨b,o,none⟩=W.cell? ⟨b,o,none⟩:=by
 unfold World.cell?
 simp only [h]
set_option maxRecDepth 100000 in
theorem lay_agg:∀w,(isAgg 26).run Try.prog w=.ok true w:=fun w=>by kernel_rfl
set_option maxRecDepth 100000 in
theorem lay_size:∀w,(Go.sizeOf 26).run Try.prog w=.ok 1 w:=fun w=>by kernel_rfl
end Go.Proofs.Ytmhiohnkjpglfaa

