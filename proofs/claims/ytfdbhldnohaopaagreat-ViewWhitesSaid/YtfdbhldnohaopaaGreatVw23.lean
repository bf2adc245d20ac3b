import Derived.Test.YtfdbhldnohaopaaGreatVw4
import Derived.Test.YtfdbhldnohaopaaGreatVw3
import Derived.Test.YtfdbhldnohaopaaGreatVw22
import Derived.Test.YtfdbhldnohaopaaGreatVw10
import Derived.Test.YtfdbhldnohaopaaGreatVw11
import Derived.Lib.CutLaws
import Derived.IntWalk
import Derived.Test.YtfdbhldnohaopaaGreatVw1

namespace Go.Proofs.YtfdbhldnohaopaaGreat
open Go.RowKit Plain

theorem OwE.putEnts [Tags] {w:World} {base e n c g m d:Nat} {C:Option Addr} {x:NodV} {r:List NodV} {es:List EntV} {D:Nat→Prop} (h:OwE nodEn w base e (some ⟨g,0,none⟩) n c (x::r)) (hm:m≤d) (hes:RdE entEn w D C m es) (hD:∀b,D b→But w (some ⟨g,0,none⟩) b) :
  OwE nodEn (w.setCell ⟨g,5,none⟩ (.slice C m d)) base e (some ⟨g,0,none⟩) n c ({x with ents:=es}::r)∧w.grownBy (w.setCell ⟨g,5,none⟩ (.slice C m d)) (some g):=by
 obtain ⟨css,hown,hc,hl⟩:=h
 have hst:=World.ownsRow.stored hown 5 (.slice C m d)
 have hsz:(w.setCell ⟨g,5,none⟩ (.slice C m d)).heap.size=w.heap.size:=by simp [World.setCell]
 have hkept:Kept (But w (some ⟨g,0,none⟩)) w (w.setCell ⟨g,5,none⟩ (.slice C m d)):=fun b hb=>Below.heap_setCell w ⟨g,5,none⟩ _ b (fun e=>hb.2 _ rfl e)
 have hbut:∀b,But w (some ⟨g,0,none⟩) b→But (w.setCell ⟨g,5,none⟩ (.slice C m d)) (some ⟨g,0,none⟩) b:=fun b hb=>⟨hb.1.eq (by rw [hsz];exact Nat.le_refl _) (hkept b hb),hb.2⟩
 have hcl:=hc.1
 cases css with
 | nil=>simp at hcl
 | cons c0 cr =>
  obtain ⟨A0,n0,k0,C0,m0,d0,e0,h1,h2,h3,h4⟩:=hc.2 0 c0 x rfl rfl
  subst e0
  refine ⟨⟨nodC {x with ents:=es} (.slice A0 n0 k0) (.slice C m d)::cr,hst.1,⟨hcl,fun i cs y hi hy=>?_⟩,hl⟩,hst.2⟩
  cases i with
  | zero =>
   simp only [List.getElem?_cons_zero,Option.some.injEq] at hi hy
   subst hi hy
   exact ⟨A0,n0,k0,C,m,d,rfl,h1,h2.mono hkept hbut,hm,hes.mono (fun b hb=>hkept b (hD b hb)) (fun b hb=>hbut b (hD b hb))⟩
  | succ i =>
   simp only [List.getElem?_cons_succ] at hi hy
   exact nodEn.mono (hc.2 (i+1) cs y (by simpa using hi) (by simpa using hy)) hkept hbut
theorem OwD.putEnts {w:World} {base e n c g m d:Nat} {C:Option Addr} {x:NodV} {r:List NodV} {es:List EntV} {D D0:Nat→Prop} (h:OwD nodEn D0 w base e (some ⟨g,0,none⟩) n c (x::r)) (hm:m≤d) (hes:RdE entEn w D C m es) (hD:∀b,D b→b < w.heap.size∧b≠g) :
  OwD nodEn (fun b=>D0 b∨D b) (w.setCell ⟨g,5,none⟩ (.slice C m d)) base e (some ⟨g,0,none⟩) n c ({x with ents:=es}::r)∧w.grownBy (w.setCell ⟨g,5,none⟩ (.slice C m d)) (some g):=by
 obtain ⟨css,hown,hc,hl,hD0⟩:=h
 have hst:=World.ownsRow.stored hown 5 (.slice C m d)
 have hsz:(w.setCell ⟨g,5,none⟩ (.slice C m d)).heap.size=w.heap.size:=by simp [World.setCell]
 have hall:∀b,(D0 b∨D b)→b < w.heap.size∧b≠g:=fun b hb=>hb.elim (fun h=>⟨(hD0 b h).1,(hD0 b h).2 _ rfl⟩) (hD b)
 have hkept:Kept (fun b=>D0 b∨D b) w (w.setCell ⟨g,5,none⟩ (.slice C m d)):=fun b hb=>Below.heap_setCell w ⟨g,5,none⟩ _ b (fun e=>(hall b hb).2 e)
 have hk0:Kept D0 w (w.setCell ⟨g,5,none⟩ (.slice C m d)):=fun b hb=>hkept b (.inl hb)
 have hcl:=hc.1
 cases css with
 | nil=>simp at hcl
 | cons c0 cr =>
  obtain ⟨A0,n0,k0,C0,m0,d0,e0,h1,h2,h3,h4⟩:=hc.2 0 c0 x rfl rfl
  subst e0
  refine ⟨⟨nodC {x with ents:=es} (.slice A0 n0 k0) (.slice C m d)::cr,hst.1,⟨hcl,fun i cs y hi hy=>?_⟩,hl,fun b hb=>⟨by rw [hsz];exact (hall b hb).1,fun a ha=>by cases ha;exact (hall b hb).2⟩⟩,hst.2⟩
  cases i with
  | zero =>
   simp only [List.getElem?_cons_zero,Option.some.injEq] at hi hy
   subst hi hy
   exact ⟨A0,n0,k0,C,m,d,rfl,h1,h2.mono hk0 (fun _ hb=>.inl hb),hm,hes.mono (fun b hb=>hkept b (.inr hb)) (fun _ hb=>.inr hb)⟩
  | succ i =>
   simp only [List.getElem?_cons_succ] at hi hy
   exact nodEn.mono (hc.2 (i+1) cs y (by simpa using hi) (by simpa using hy)) hk0 (fun _ hb=>.inl hb)
end Go.Proofs.YtfdbhldnohaopaaGreat

namespace Go.Proofs.YtfdbhldnohaopaaGreat
open Go.RowKit Go.Shelf Plain

set_option maxRecDepth 100000 in
theorem whino_any (x:EntV) {gX N cX:Nat} {AX:Option Addr} (w:World) (q:w.cell? ⟨gX,4,none⟩=some (.slice AX N cX)) (hgX:gX < w.heap.size):Calls Tryz.prog 14 #[.agg (cellsE x).toArray,.pointer (some ⟨gX,0,none⟩)] w (fun e w'=>∃p:Bool,e=.returned (.bool p)∧Below w.heap.size w w'∧p=(x.ino==(N:Int))):=by
 have r:=RowL.new w 42 (cellsE x)
 have hb:=below_new (below_self w) (.cells (cellsE x).toArray 42)
 have q1:(w.alloc (.cells (cellsE x).toArray 42)).cell? ⟨w.heap.size,1,none⟩=some (.int .i64 x.ino):=r.cell 1
 have q2:=(hb.cell (p:=⟨gX,4,none⟩) hgX).trans q
 have HB:=hide hb
 clear r hb q
 go_enter Tryz.func14,Tryz.ntmps14
 go_wp2
 go_ret
 exact ⟨_,rfl,HB.out,rfl⟩
set_option maxRecDepth 100000 in
set_option maxHeartbeats 1600000 in
theorem VwIdx_any {A:Option Addr} {n c:Nat} {l:List EntV} {gX N cX:Nat} {AX:Option Addr} (w:World) (h:RdE entEn w (Under w.heap.size) A n l) (hm:l.length≤9223372036854775807) (q:w.cell? ⟨gX,4,none⟩=some (.slice AX N cX)) (hgX:gX < w.heap.size) :
  Calls Tryz.prog 63 #[.slice A n c,.func (.func 14) #[] #[.pointer (some ⟨gX,0,none⟩)]] w (fun e w'=>∃r:Int,e=.returned (.int .i64 r)∧Below w.heap.size w w'∧(r < 0→∀x∈l,x.ino≠(N:Int))):=by
 have H:=hide h
 have hn:=h.1
 have HQ:=hide q
 clear h q
 go_enter Tryz.func63,Tryz.ntmps63
 go_wp2
 go_loopw [8] (fun iv wr=>∃j:Nat,j≤n∧iv=.int .i64 j∧Below w.heap.size w wr∧∀i x,i < j→l[i]?=some x→x.ino≠(N:Int)) (fun iv _=>n - (intOf iv).toNat)
 case atStart=>exact ⟨0,by omega,rfl,below_self _,fun i x hi=>by omega⟩
 case round =>
  obtain ⟨j,hj,rfl,hbr,hall⟩:=hrel
  have HBR:=hide hbr
  have HALL:=hide hall
  have HQ2:=hide ((hbr.cell (p:=⟨gX,4,none⟩) hgX).trans HQ.out)
  have hbs:=hbr.size
  clear hbr hall
  by_cases hlt:j < n
  ·obtain ⟨x,hx⟩:∃x,l[j]?=some x:=⟨_,List.getElem?_eq_getElem (by omega)⟩
   obtain ⟨b,o,rfl,-,hc⟩:=ent_get (H.out.under HBR.out (Nat.le_refl _)) hx
   have HC:=hide hc
   clear hc
   have HX:=hide hx
   clear hx
   go_wp2_with (refine wpList_loadX rfl 42 (.tmp 14) rfl 3 entw_agg entw_size b (o+j*3) rfl (cellsE x) HC.out rfl ?_)
   refine (whino_any x wr HQ2.out (by omega)).mono ?_
   rintro e w3 ⟨p,rfl,hb3,hp⟩
   have HP:=hide hp
   have HB3:=hide (below_step HBR.out hb3)
   clear hp hb3
   cases p with
   | true =>
    go_wp2
    go_ret
    exact ⟨(j:Int),rfl,HB3.out,fun h=>by omega⟩
   | false =>
    go_wp2
    go_roundw
    case rel=>exact ⟨j+1,by omega,by go_num,HB3.out,fun i y hi hy=>by
     by_cases e:i=j
     ·subst e
      have:=HX.out.symm.trans hy
      cases this
      have h2:=HP.out.symm
      simpa using h2
     ·exact HALL.out i y (by omega) hy⟩
    case measure=>simp [intOf];omega
  ·obtain rfl:j=n:=by omega
   go_wp2
   go_ret
   exact ⟨-1,rfl,HBR.out,fun _ x hx=>by
    obtain ⟨i,hi,rfl⟩:=List.mem_iff_getElem.1 hx
    exact HALL.out i _ (by omega) (List.getElem?_eq_getElem hi)⟩
set_option maxRecDepth 100000 in
theorem VwHas_any {A:Option Addr} {n c:Nat} {l:List EntV} {gX N cX:Nat} {AX:Option Addr} (w:World) (h:RdE entEn w (Under w.heap.size) A n l) (hm:l.length≤9223372036854775807) (q:w.cell? ⟨gX,4,none⟩=some (.slice AX N cX)) (hgX:gX < w.heap.size) :
  Calls Tryz.prog 13 #[.slice A n c,.func (.func 14) #[] #[.pointer (some ⟨gX,0,none⟩)]] w (fun e w'=>∃r:Bool,e=.returned (.bool r)∧Below w.heap.size w w'∧(r=false→∀x∈l,x.ino≠(N:Int))):=by
 have H:=hide h
 have HQ:=hide q
 clear h q
 go_enter Tryz.func13,Tryz.ntmps13
 go_wp2_with (go_at_call 63;refine (VwIdx_any w H.out hm HQ.out hgX).mono ?_;rintro e w3 ⟨r,rfl,hb3,hp⟩;have HP:=hide hp;have HB3:=hide hb3;clear hp hb3)
 go_ret
 exact ⟨_,rfl,HB3.out,fun h=>HP.out (by simpa using h)⟩
theorem upX_few {up:List NodV} {nm:List UInt8} (hl:up.length≤23) (h:∀x∈up,PlainN x):FewX (upX up nm):=by
 cases up with
 | nil=>exact ⟨by simp [upX],fun x hx=>by simp [upX] at hx⟩
 | cons y r =>
  refine ⟨by simp [upX] at hl ⊢;omega,fun x hx=>?_⟩
  unfold upX at hx
  simp only [List.mem_cons,List.mem_append,List.not_mem_nil,or_false] at hx
  rcases hx with rfl|hx|rfl
  ·have hy:=(h y List.mem_cons_self)
   exact ⟨trivial,hy.2.1,hy.2.2.1,hy.2.2.2.1,by simp;exact hy.2.2.2.2.1,hy.2.2.2.2.2.1,trivial⟩
  ·exact (h x (List.mem_cons_of_mem _ hx)).toX
  ·exact ⟨trivial,by simp [whiteN],by simp [whiteN,att0],by simp [whiteN],by simp [whiteN],by simp [whiteN,att0],trivial⟩
end Go.Proofs.YtfdbhldnohaopaaGreat

namespace Go.Proofs.YtfdbhldnohaopaaGreat
open Go.RowKit Plain

theorem index_no {l:List UInt8} (h:∀c∈l,c≠47):Lib.indexByte l 47 = -1:=by
 induction l with
 | nil=>rfl
 | cons x r ih =>
  have hx:(x==47)=false:=by simpa using h x List.mem_cons_self
  have hr:=ih (fun c hc=>h c (List.mem_cons_of_mem _ hc))
  unfold Lib.indexByte
  rw [hx,hr]
  rfl
theorem index_yes {p q:List UInt8} (h:∀c∈p,c≠47):Lib.indexByte (p++47::q) 47=p.length:=by
 induction p with
 | nil=>rfl
 | cons x r ih =>
  have hx:(x==47)=false:=by simpa using h x List.mem_cons_self
  have hr:=ih (fun c hc=>h c (List.mem_cons_of_mem _ hc))
  rw [List.cons_append]
  unfold Lib.indexByte
  rw [hx,hr]
  have:(((r.length:Nat):Int) == -1)=false:=by simp
  rw [this]
  simp

def CutRet (w:World) (p q:List UInt8) (b:Bool) (x:Ending) (w':World):Prop:=x=.returned (.tuple #[st p,st q,.bool b])∧∃n,w'=w.drewN n

set_option maxHeartbeats 400000 in
theorem CutL_no {l:List UInt8} (h:∀c∈l,c≠47) (w:World) :
  Calls Tryz.prog 168 #[st l,.string ⟨#[47]⟩] w (CutRet w l [] false):=by
 have hc:=fun (w:World)=>Tryz.stringslite_Index_one ⟨l.toArray⟩ 47 w
 simp only [index_no h] at hc
 have HC:=hide hc
 clear hc h
 unfold st
 go_enter Tryz.func168,Tryz.ntmps168
 go_wp2_with fail
 refine (HC.out _).mono ?_
 rintro e w' ⟨rfl,rfl⟩
 go_wp2_with fail
 go_ret3
 exact ⟨rfl,0,rfl⟩

set_option maxHeartbeats 400000 in
theorem CutL_yes {p q:List UInt8} (h:∀c∈p,c≠47) (w:World) (hn:(p++47::q).length≤140737488355328) :
  Calls Tryz.prog 168 #[st (p++47::q),.string ⟨#[47]⟩] w (CutRet w p q true):=by
 have hc:=fun (w:World)=>Tryz.stringslite_Index_one ⟨(p++47::q).toArray⟩ 47 w
 simp only [index_yes h] at hc
 have HC:=hide hc
 obtain ⟨l,hl⟩:∃l,p++47::q=l:=⟨_,rfl⟩
 rw [hl] at HC hn ⊢
 have hln:p.length+1≤l.length:=by rw [←hl];simp
 have HL:=hide hl
 clear hc h hl
 unfold st
 have c1:(0:Int)≤(p.length:Int):=by omega
 have c2:(p.length:Int)≤(l.length:Int):=by omega
 have c3:(0:Int)≤(p.length:Int)+1:=by omega
 have c4:(p.length:Int)+1≤(l.length:Int):=by omega
 have hw1:IntKind.i64.wrap ((p.length:Int)+1)=(p.length:Int)+1:=IntWalk.i64_in _ (by omega)
 have hw2:((p.length:Int)+1).toNat=p.length+1:=by omega
 go_enter Tryz.func168,Tryz.ntmps168
 go_wp2_with fail
 refine (HC.out _).mono ?_
 rintro e w' ⟨rfl,rfl⟩
 go_wp2_with fail
 go_region
 go_wp2
 go_ret3
 have hl:=HL.out
 have e1:({data:=l.toArray}:ByteArray).extract 0 p.length=⟨p.toArray⟩:=by rw [Lib.extract_eq,←hl];simp
 have e2:({data:=l.toArray}:ByteArray).extract (p.length+1) l.length=⟨q.toArray⟩:=by
  rw [Lib.extract_eq,←hl]
  simp
  exact List.take_of_length_le (by omega)
 refine ⟨?_,1,rfl⟩
 show Ending.returned (.tuple #[.string (({data:=l.toArray}:ByteArray).extract 0 p.length),.string (({data:=l.toArray}:ByteArray).extract (p.length+1) l.length),.bool true])=_
 rw [e1,e2]
 rfl
theorem Cut_of {l p q:List UInt8} {b:Bool} (h:∀w:World,Calls Tryz.prog 168 #[st l,.string ⟨#[47]⟩] w (CutRet w p q b)) (w:World) :
  Calls Tryz.prog 138 #[st l,.string ⟨#[47]⟩] w (CutRet w p q b):=by
 have H:=hide h
 clear h
 unfold st
 go_enter Tryz.func138,Tryz.ntmps138
 go_wp2_with fail
 refine (H.out _).mono ?_
 rintro e w' ⟨rfl,n,rfl⟩
 go_wp2_with fail
 go_ret3
 exact ⟨rfl,n,rfl⟩
theorem Cut_no {l:List UInt8} (h:∀c∈l,c≠47) (w:World):Calls Tryz.prog 138 #[st l,.string ⟨#[47]⟩] w (CutRet w l [] false):=Cut_of (fun w=>CutL_no h w) w
theorem Cut_yes {p q:List UInt8} (h:∀c∈p,c≠47) (w:World) (hn:(p++47::q).length≤140737488355328):Calls Tryz.prog 138 #[st (p++47::q),.string ⟨#[47]⟩] w (CutRet w p q true):=Cut_of (fun w=>CutL_yes h w hn) w
end Go.Proofs.YtfdbhldnohaopaaGreat

namespace Go.Proofs.YtfdbhldnohaopaaGreat
open Go.RowKit Plain

def lettersL:List UInt8:=[97,98,99,100,101,102,103,104,105,106,107,108,109,110,111,112,113,114,115,116,117,118,119,120,121,122,48,49,50,51,52,53,54,55,56,57,46,95,45]
theorem letters_fin:∀x:Fin 256,decide (Lib.indexByte lettersL x.val.toUInt8 < 0)=!letB x.val:=by decide +kernel
theorem letters_any {x:Nat} (hx:x < 256):decide (Lib.indexByte lettersL ((x:Int).toNat.toUInt8) < 0)=!letB x:=by
 have:=letters_fin ⟨x,hx⟩
 simpa using this

set_option maxHeartbeats 400000 in
theorem Strange_any {x:Nat} (hx:x < 256) (w:World) :
  Calls Tryz.prog 169 #[.int .u8 x] w fun e w'=>e=.returned (.bool (!letB x))∧w=w':=by
 obtain ⟨r,hr⟩:∃r,Lib.indexByte lettersL ((x:Int).toNat.toUInt8)=r:=⟨_,rfl⟩
 have hl:=letters_any hx
 rw [hr] at hl
 have HL:=hide hl
 have hc:=Tryz.strings_IndexByte ⟨lettersL.toArray⟩ x w
 rw [show (⟨lettersL.toArray⟩:ByteArray).data.toList=lettersL from rfl,hr] at hc
 have HC:=hide hc
 clear hl hr hc
 go_enter Tryz.func169,Tryz.ntmps169
 go_wp2_with fail
 refine HC.out.mono ?_
 rintro e w' ⟨rfl,rfl⟩
 go_wp2_with fail
 go_ret
 exact ⟨ret_bool HL.out,rfl⟩
abbrev strangeV:Value:=.func (.func 169) #[] #[]
def Found (w:World) (b:Bool) (e:Ending) (w':World):Prop:=∃r:Int,e=.returned (.int .i64 r)∧decide (0≤r)=!b∧w=w'

set_option maxHeartbeats 400000 in
theorem IndexFunc_b {A:Option Addr} {m c B:Nat} {l:List UInt8} {b:Bool} (w:World) (ha:Bs w B A m l) (hm:m≤140737488355328) (h:(l.all fun x=>letB x.toNat)=b) :
  Calls Tryz.prog 198 #[.slice A m c,strangeV] w (Found w b):=by
 have HB:=hide h
 have HA:=hide ha
 have hl:=ha.len
 clear h ha
 go_enter Tryz.func198,Tryz.ntmps198
 go_wp2_with fail
 go_loop [8] (fun i=>∃k:Nat,k≤m∧i=.int .i64 k∧((l.take k).all fun x=>letB x.toNat)=true) (fun i=>m - (intOf i).toNat)
 case atStart=>exact ⟨0,Nat.zero_le _,rfl,rfl⟩
 case round =>
  obtain ⟨k,hk,rfl,hall⟩:=hrel
  have HALL:=hide hall
  clear hall
  by_cases hlt:k < m
  ·obtain ⟨bb,o,rfl,_,hcell⟩:=HA.out.2 (by omega)
   have hkl:k < l.length:=by omega
   have hx:=hcell k l[k] (List.getElem?_eq_getElem hkl)
   have hb:=l[k].toNat_lt
   clear hcell
   obtain ⟨x,hxe⟩:∃x:Nat,l[k].toNat=x:=⟨_,rfl⟩
   simp only [bv,hxe] at hx
   rw [hxe] at hb
   have hts:=all_take_succ (p:=fun x=>letB x.toNat) hkl
   have haf:=all_false (p:=fun x=>letB x.toNat) hkl
   simp only [hxe] at hts haf
   have HTS:=hide hts
   have HAF:=hide haf
   clear hts haf hxe
   cases hb2:letB x with
   | true =>
    have HB2:=hide hb2
    clear hb2 hkl hl
    go_wp2_with fail
    refine (Strange_any hb _).mono ?_
    rw [HB2.out]
    rintro e w' ⟨rfl,rfl⟩
    go_wp2_with fail
    go_round
    case rel=>exact ⟨k+1,by omega,by go_num,by rw [HTS.out,HALL.out,HB2.out];rfl⟩
    case measure=>simp [intOf];omega
   | false =>
    have hbf:b=false:=by rw [←HB.out];exact HAF.out hb2
    have HB2:=hide hb2
    have HBF:=hide hbf
    clear hb2 hbf hkl hl
    go_wp2_with fail
    refine (Strange_any hb _).mono ?_
    rw [HB2.out]
    rintro e w' ⟨rfl,rfl⟩
    go_wp2_with fail
    go_ret
    rw [HBF.out]
    exact ⟨_,rfl,by simp,rfl⟩
  ·have hbt:b=true:=by
    rw [←HB.out]
    have:=HALL.out
    rwa [List.take_of_length_le (by omega)] at this
   have HBT:=hide hbt
   clear hbt hl
   go_wp2_with fail
   go_ret
   rw [HBT.out]
   exact ⟨_,rfl,by simp,rfl⟩

set_option maxHeartbeats 400000 in
theorem ContainsFunc_b {A:Option Addr} {m c B:Nat} {l:List UInt8} {b:Bool} (w:World) (ha:Bs w B A m l) (hm:m≤140737488355328) (h:(l.all fun x=>letB x.toNat)=b) :
  Calls Tryz.prog 171 #[.slice A m c,strangeV] w fun e w'=>e=.returned (.bool (!b))∧w=w':=by
 have HB:=hide h
 have HA:=hide ha
 clear h ha
 go_enter Tryz.func171,Tryz.ntmps171
 go_wp2_with fail
 refine (IndexFunc_b _ HA.out hm HB.out).mono ?_
 rintro e w' ⟨r,rfl,hr,rfl⟩
 have HR:=hide hr
 clear hr
 go_wp2_with fail
 go_ret
 exact ⟨ret_bool HR.out,rfl⟩
end Go.Proofs.YtfdbhldnohaopaaGreat

namespace Go.Proofs.YtfdbhldnohaopaaGreat
open Go.RowKit Plain

set_option maxHeartbeats 400000 in
theorem NRight_any (l:List UInt8) (w:World) (hl:l.length≤140737488355328) :
  Calls Tryz.prog 139 #[st l] w (BoolB w (nameB l)):=by
 unfold st
 by_cases h1:l=[]
 ·subst h1
  go_enter Tryz.func139,Tryz.ntmps139
  go_wp2_with fail
  go_ret
  exact BoolB.of (below_self w)
 by_cases h2:12 < l.length
 ·have hr:nameB l=false:=by
   have:decide (1≤l.length∧l.length≤12)=false:=by simp;omega
   simp [nameB,this]
  rw [hr]
  clear hr
  have e1:¬l=[]:=h1
  have d1:(l==[])=false:=by simpa using h1
  have d2:decide ((12:Int) < (l.length:Int))=true:=by simp;omega
  clear h1
  go_enter Tryz.func139,Tryz.ntmps139
  go_wp2_with fail
  go_ret
  exact BoolB.of (below_self w)
 by_cases h3:l=[46]
 ·subst h3
  go_enter Tryz.func139,Tryz.ntmps139
  go_wp2_with fail
  go_ret
  exact BoolB.of (below_self w)
 by_cases h4:l=[46,46]
 ·subst h4
  go_enter Tryz.func139,Tryz.ntmps139
  go_wp2_with fail
  go_ret
  exact BoolB.of (below_self w)
 have d2:decide ((12:Int) < (l.length:Int))=false:=by simp;omega
 have d1:(l==[])=false:=by simpa using h1
 have d3:(l==[46])=false:=by simpa using h3
 have d4:(l==[46,46])=false:=by simpa using h4
 have hr:nameB l=l.all fun x=>letB x.toNat:=by
  have hpos:0 < l.length:=List.length_pos_iff.2 h1
  have:decide (1≤l.length∧l.length≤12)=true:=by simp;omega
  simp [nameB,this,d3,d4]
 obtain ⟨b,hb⟩:∃b,nameB l=b:=⟨_,rfl⟩
 rw [hb]
 rw [hr] at hb
 have HB:=hide hb
 clear hr hb h1 h3 h4 h2
 have kc:=Lib.run_convert_string_bytes (P:=Tryz.prog) w 9 31 5 ⟨l.toArray⟩ Tryz.underlying9 Tryz.underlying31 Tryz.underlying5
 go_enter Tryz.func139,Tryz.ntmps139
 go_wp2_with fail
 clear kc
 refine (ContainsFunc_b _ (Bs.bytesWorld w 5 l) hl HB.out).mono ?_
 rintro e w' ⟨rfl,rfl⟩
 go_wp2_with fail
 go_ret
 exact BoolB.eq (by simp) (below_bytesWorld _ _ _)
theorem NRight_b {l:List UInt8} {b:Bool} (h:nameB l=b) (w:World) (hl:l.length≤140737488355328) :
  Calls Tryz.prog 139 #[st l] w (BoolB w b):=by
 have:=NRight_any l w hl;rw [h] at this;exact this
end Go.Proofs.YtfdbhldnohaopaaGreat

