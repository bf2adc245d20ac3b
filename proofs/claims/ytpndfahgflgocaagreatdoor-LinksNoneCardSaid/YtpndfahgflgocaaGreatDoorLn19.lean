import Derived.Test.YtpndfahgflgocaaGreatDoorLn4
import Derived.DeepKeys4
import Derived.Test.YtpndfahgflgocaaGreatDoorLn8
import Derived.Test.YtpndfahgflgocaaGreatDoorLn9
import Derived.Lib.CutLaws
import Derived.IntWalk
import Derived.Test.YtpndfahgflgocaaGreatDoorLn1
import Derived.Test.YtpndfahgflgocaaGreatDoorLn16
import Derived.BigQuiet
import Derived.Deep.QuietTactic
import Derived.Test.YtpndfahgflgocaaGreatDoorLn15
import Derived.StillTailTactics

namespace Go.Proofs.YtpndfahgflgocaaGreatDoor
open Go.RowKit Go.Shelf Plain Go.Maps

set_option maxRecDepth 100000 in
theorem p2nam_laid:laidOutB Tryz.prog=true:=by kernel_rfl
set_option maxRecDepth 100000 in
theorem p2namKey:Keyed Tryz.prog 137:=Keyed.of_law (deep_law_laid p2nam_laid (m:=4) (by omega) (of_decide_eq_true (by kernel_rfl)) (by kernel_rfl) (by kernel_rfl))
set_option maxRecDepth 100000 in
theorem p2nam_size1:decide (1≤Tryz.prog.types.size)=true:=by kernel_rfl
theorem p2namSize:∃k,Tryz.prog.types.size+1=k+1+1:=⟨Tryz.prog.types.size - 1,by have h:=of_decide_eq_true p2nam_size1;revert h;generalize Tryz.prog.types.size=z;intro h;omega⟩
set_option maxRecDepth 100000 in
theorem p2nam_cells:Tryz.prog.cellsOf 137=2:=by kernel_rfl
set_option maxRecDepth 100000 in
theorem p2nam_kt:Tryz.prog.keyType 137=true:=by kernel_rfl
set_option maxRecDepth 100000 in
theorem p2int_cells:Tryz.prog.cellsOf 3=1:=by kernel_rfl
set_option maxRecDepth 100000 in
set_option maxHeartbeats 800000 in
theorem p2nam_key {a b:Int} (ha:i64 a) (hb:i64 b):∃kl,keyOf Tryz.prog 137 (.agg #[.int .i64 a,.int .i64 b])=some kl:=by
 have h1:=i64_wf ha
 have h2:=i64_wf hb
 obtain ⟨k,hk⟩:=p2namSize
 refine ⟨.string (keyBytes [.int .i64 a,.int .i64 b]),?_⟩
 unfold keyOf
 simp only [Tryz.underlying137]
 have hfm:Value.formed Tryz.prog 137 (Value.agg #[Value.int IntKind.i64 a,Value.int IntKind.i64 b])=true:=by
  simp only [Value.formed,Tryz.underlying137]
  rw [p2nam_cells]
  rfl
 rw [p2nam_kt,hfm,hk,show (Value.agg #[Value.int IntKind.i64 a,Value.int IntKind.i64 b]).cells.toList=[Value.int IntKind.i64 a,Value.int IntKind.i64 b] from rfl]
 have hk1:∀x:Int,(Lit.int IntKind.i64 x).wf=true→Tryz.prog.keyLits (k+1) 3 [Value.int IntKind.i64 x]=some [Lit.int IntKind.i64 x]:=by
  intro x hx
  unfold Program.keyLits
  simp only [Tryz.underlying3]
  rw [if_pos ⟨trivial,hx⟩]
 have hk2:Tryz.prog.keyLits (k+1+1) 137 [Value.int IntKind.i64 a,Value.int IntKind.i64 b]=some [Lit.int IntKind.i64 a,Lit.int IntKind.i64 b]:=by
  unfold Program.keyLits
  simp only [Tryz.underlying137]
  rw [if_pos (by rw [p2nam_cells];rfl)]
  simp only [p2int_cells,show List.range 2=[0,1] from rfl,List.mapM_cons,List.mapM_nil,Nat.zero_mul,Nat.one_mul,List.drop_zero,List.drop_succ_cons,List.take_succ_cons,List.take_zero,hk1 a h1,hk1 b h2]
  rfl
 rw [hk2]
 rfl
def SetP (w:World) (b c:Nat) (f:Int×Int→Bool):Prop:=∃D:DataW Unit,w.ownsMap Tryz.prog 137 unitElem b c D∧∀x y kl,i64 x→i64 y→keyOf Tryz.prog 137 (.agg #[.int .i64 x,.int .i64 y])=some kl→Maps.has D kl=f (x,y)
section
variable {w w' : World} {b c : Nat} {f : Int × Int → Bool}
theorem SetP.made (w:World):SetP (w.alloc (.map #[] 0)) w.heap.size 0 (fun _=>false):=⟨.map [],World.ownsMap_made w _ _ _,fun _ _ _ _ _ _=>rfl⟩
theorem SetP.lt (h:SetP w b c f):b < w.heap.size:=by obtain ⟨D,h1,h2⟩:=h;exact h1.lt
theorem SetP.kept {row:Option Nat} (h:SetP w b c f) (hg:w.grownBy w' row) (hne:some b≠row):SetP w' b c f:=by obtain ⟨D,h1,h2⟩:=h;exact ⟨D,h1.kept hg hne,h2⟩
theorem SetP.on (h:SetP w b c f) (hb:Below w.heap.size w w'):SetP w' b c f:=h.kept (grown_below hb) (by simp)
theorem SetP.eq {g:Int×Int→Bool} (h:SetP w b c f) (e:f=g):SetP w b c g:=e ▸ h
theorem SetP.obj (h:SetP w b c f):∃o:Obj,w.heap[b]?=some o∧(∀x,o≠.deferred x)∧o.isCells=false:=by
 obtain ⟨D,⟨es,clock,h1,_⟩,h2⟩:=h
 exact ⟨_,h1,(fun x e=>by cases e),rfl⟩
theorem SetP.look (h:SetP w b c f) {x y:Int} (hx:i64 x) (hy:i64 y):(Instr.lookup 123 (.map (some b)) (.agg #[.int .i64 x,.int .i64 y]) true).run Tryz.prog w=.ok (.tuple #[.agg #[],.bool (f (x,y))]) w:=by
 obtain ⟨D,h1,h2⟩:=h
 obtain ⟨kl,hkl⟩:=p2nam_key hx hy
 obtain ⟨v,ps,hrun,hv⟩:=h1.look_ok (t:=123) (e:=164) p2namKey Tryz.underlying123 (unit_zero w) unitElem_mk hkl
 obtain ⟨rfl,-⟩:=unitElem_inv hv
 rw [hrun,h2 x y kl hx hy hkl]
theorem SetP.put (h:SetP w b c f) {x y:Int} (hx:i64 x) (hy:i64 y) (hc:c < maxLen):∃w',(Instr.mapUpdate 123 (.map (some b)) (.agg #[.int .i64 x,.int .i64 y]) (.agg #[])).run Tryz.prog w=.ok () w'∧SetP w' b (c+1) (fun q=>f q||decide (q=(x,y)))∧w.grownBy w' (some b):=by
 obtain ⟨D,h1,h2⟩:=h
 obtain ⟨kl,hkl⟩:=p2nam_key hx hy
 obtain ⟨w',hrun,h3,h4⟩:=h1.update (t:=123) (e:=164) p2namKey Tryz.underlying123 hc hkl unitElem_mk
 have hm:Maps.IsMap D:=h1.isMap
 have hk:WideAt.IsKeyLit kl:=p2namKey.key hkl
 refine ⟨w',hrun,⟨_,h3,fun a d kl' ha hd hkl'=>?_⟩,h4⟩
 by_cases e:(a,d)=(x,y)
 ·cases e
  rw [hkl] at hkl'
  cases hkl'
  rw [has_put_same hm hk]
  simp
 ·have hne:kl'≠kl:=fun e'=>e (by
   subst e'
   have:=p2namKey.inj hkl' hkl
   simpa using this)
  rw [has_put_other hne,h2 a d kl' ha hd hkl']
  simp [e]
end
end Go.Proofs.YtpndfahgflgocaaGreatDoor

namespace Go.Proofs.YtpndfahgflgocaaGreatDoor
open Go.RowKit Plain

theorem index_no {l:List UInt8} (h:∀c∈l,c≠47):Lib.indexByte l 47 = -1:=by
 induction l with
 | nil=>rfl
 | cons x r ih =>
  have hx:(x==47)=false:=by simpa using h x List.mem_cons_self
  have hr:=ih (fun c hc=>h c (List.mem_cons_of_mem _ hc))
  unfold Lib.indexByte
  rw [hx,hr]
  rfl
theorem index_yes {p q:List UInt8} (h:∀c∈p,c≠47):Lib.indexByte (p++47::q) 47=p.length:=by
 induction p with
 | nil=>rfl
 | cons x r ih =>
  have hx:(x==47)=false:=by simpa using h x List.mem_cons_self
  have hr:=ih (fun c hc=>h c (List.mem_cons_of_mem _ hc))
  rw [List.cons_append]
  unfold Lib.indexByte
  rw [hx,hr]
  have:(((r.length:Nat):Int) == -1)=false:=by simp
  rw [this]
  simp

def CutRet (w:World) (p q:List UInt8) (b:Bool) (x:Ending) (w':World):Prop:=x=.returned (.tuple #[st p,st q,.bool b])∧∃n,w'=w.drewN n

set_option maxHeartbeats 400000 in
theorem CutL_no {l:List UInt8} (h:∀c∈l,c≠47) (w:World) :
  Calls Tryz.prog 215 #[st l,.string ⟨#[47]⟩] w (CutRet w l [] false):=by
 have hc:=fun (w:World)=>Tryz.stringslite_Index_one ⟨l.toArray⟩ 47 w
 simp only [index_no h] at hc
 have HC:=hide hc
 clear hc h
 unfold st
 go_enter Tryz.func215,Tryz.ntmps215
 go_wp2_with fail
 refine (HC.out _).mono ?_
 rintro e w' ⟨rfl,rfl⟩
 go_wp2_with fail
 go_ret3
 exact ⟨rfl,0,rfl⟩

set_option maxHeartbeats 400000 in
theorem CutL_yes {p q:List UInt8} (h:∀c∈p,c≠47) (w:World) (hn:(p++47::q).length≤140737488355328) :
  Calls Tryz.prog 215 #[st (p++47::q),.string ⟨#[47]⟩] w (CutRet w p q true):=by
 have hc:=fun (w:World)=>Tryz.stringslite_Index_one ⟨(p++47::q).toArray⟩ 47 w
 simp only [index_yes h] at hc
 have HC:=hide hc
 obtain ⟨l,hl⟩:∃l,p++47::q=l:=⟨_,rfl⟩
 rw [hl] at HC hn ⊢
 have hln:p.length+1≤l.length:=by rw [←hl];simp
 have HL:=hide hl
 clear hc h hl
 unfold st
 have c1:(0:Int)≤(p.length:Int):=by omega
 have c2:(p.length:Int)≤(l.length:Int):=by omega
 have c3:(0:Int)≤(p.length:Int)+1:=by omega
 have c4:(p.length:Int)+1≤(l.length:Int):=by omega
 have hw1:IntKind.i64.wrap ((p.length:Int)+1)=(p.length:Int)+1:=IntWalk.i64_in _ (by omega)
 have hw2:((p.length:Int)+1).toNat=p.length+1:=by omega
 go_enter Tryz.func215,Tryz.ntmps215
 go_wp2_with fail
 refine (HC.out _).mono ?_
 rintro e w' ⟨rfl,rfl⟩
 go_wp2_with fail
 go_region
 go_wp2
 go_ret3
 have hl:=HL.out
 have e1:({data:=l.toArray}:ByteArray).extract 0 p.length=⟨p.toArray⟩:=by rw [Lib.extract_eq,←hl];simp
 have e2:({data:=l.toArray}:ByteArray).extract (p.length+1) l.length=⟨q.toArray⟩:=by
  rw [Lib.extract_eq,←hl]
  simp
  exact List.take_of_length_le (by omega)
 refine ⟨?_,1,rfl⟩
 show Ending.returned (.tuple #[.string (({data:=l.toArray}:ByteArray).extract 0 p.length),.string (({data:=l.toArray}:ByteArray).extract (p.length+1) l.length),.bool true])=_
 rw [e1,e2]
 rfl
theorem Cut_of {l p q:List UInt8} {b:Bool} (h:∀w:World,Calls Tryz.prog 215 #[st l,.string ⟨#[47]⟩] w (CutRet w p q b)) (w:World) :
  Calls Tryz.prog 212 #[st l,.string ⟨#[47]⟩] w (CutRet w p q b):=by
 have H:=hide h
 clear h
 unfold st
 go_enter Tryz.func212,Tryz.ntmps212
 go_wp2_with fail
 refine (H.out _).mono ?_
 rintro e w' ⟨rfl,n,rfl⟩
 go_wp2_with fail
 go_ret3
 exact ⟨rfl,n,rfl⟩
theorem Cut_no {l:List UInt8} (h:∀c∈l,c≠47) (w:World):Calls Tryz.prog 212 #[st l,.string ⟨#[47]⟩] w (CutRet w l [] false):=Cut_of (fun w=>CutL_no h w) w
theorem Cut_yes {p q:List UInt8} (h:∀c∈p,c≠47) (w:World) (hn:(p++47::q).length≤140737488355328):Calls Tryz.prog 212 #[st (p++47::q),.string ⟨#[47]⟩] w (CutRet w p q true):=Cut_of (fun w=>CutL_yes h w hn) w
end Go.Proofs.YtpndfahgflgocaaGreatDoor

namespace Go.Proofs.YtpndfahgflgocaaGreatDoor
open Go.RowKit Plain

def lettersL:List UInt8:=[97,98,99,100,101,102,103,104,105,106,107,108,109,110,111,112,113,114,115,116,117,118,119,120,121,122,48,49,50,51,52,53,54,55,56,57,46,95,45]
theorem letters_fin:∀x:Fin 256,decide (Lib.indexByte lettersL x.val.toUInt8 < 0)=!letB x.val:=by decide +kernel
theorem letters_any {x:Nat} (hx:x < 256):decide (Lib.indexByte lettersL ((x:Int).toNat.toUInt8) < 0)=!letB x:=by
 have:=letters_fin ⟨x,hx⟩
 simpa using this

set_option maxHeartbeats 400000 in
theorem Strange_any {x:Nat} (hx:x < 256) (w:World) :
  Calls Tryz.prog 204 #[.int .u8 x] w fun e w'=>e=.returned (.bool (!letB x))∧w=w':=by
 obtain ⟨r,hr⟩:∃r,Lib.indexByte lettersL ((x:Int).toNat.toUInt8)=r:=⟨_,rfl⟩
 have hl:=letters_any hx
 rw [hr] at hl
 have HL:=hide hl
 have hc:=Tryz.strings_IndexByte ⟨lettersL.toArray⟩ x w
 rw [show (⟨lettersL.toArray⟩:ByteArray).data.toList=lettersL from rfl,hr] at hc
 have HC:=hide hc
 clear hl hr hc
 go_enter Tryz.func204,Tryz.ntmps204
 go_wp2_with fail
 refine HC.out.mono ?_
 rintro e w' ⟨rfl,rfl⟩
 go_wp2_with fail
 go_ret
 exact ⟨ret_bool HL.out,rfl⟩
abbrev strangeV:Value:=.func (.func 204) #[] #[]
def Found (w:World) (b:Bool) (e:Ending) (w':World):Prop:=∃r:Int,e=.returned (.int .i64 r)∧decide (0≤r)=!b∧w=w'

set_option maxHeartbeats 400000 in
theorem IndexFunc_b {A:Option Addr} {m c B:Nat} {l:List UInt8} {b:Bool} (w:World) (ha:Bs w B A m l) (hm:m≤140737488355328) (h:(l.all fun x=>letB x.toNat)=b) :
  Calls Tryz.prog 210 #[.slice A m c,strangeV] w (Found w b):=by
 have HB:=hide h
 have HA:=hide ha
 have hl:=ha.len
 clear h ha
 go_enter Tryz.func210,Tryz.ntmps210
 go_wp2_with fail
 go_loop [8] (fun i=>∃k:Nat,k≤m∧i=.int .i64 k∧((l.take k).all fun x=>letB x.toNat)=true) (fun i=>m - (intOf i).toNat)
 case atStart=>exact ⟨0,Nat.zero_le _,rfl,rfl⟩
 case round =>
  obtain ⟨k,hk,rfl,hall⟩:=hrel
  have HALL:=hide hall
  clear hall
  by_cases hlt:k < m
  ·obtain ⟨bb,o,rfl,_,hcell⟩:=HA.out.2 (by omega)
   have hkl:k < l.length:=by omega
   have hx:=hcell k l[k] (List.getElem?_eq_getElem hkl)
   have hb:=l[k].toNat_lt
   clear hcell
   obtain ⟨x,hxe⟩:∃x:Nat,l[k].toNat=x:=⟨_,rfl⟩
   simp only [bv,hxe] at hx
   rw [hxe] at hb
   have hts:=all_take_succ (p:=fun x=>letB x.toNat) hkl
   have haf:=all_false (p:=fun x=>letB x.toNat) hkl
   simp only [hxe] at hts haf
   have HTS:=hide hts
   have HAF:=hide haf
   clear hts haf hxe
   cases hb2:letB x with
   | true =>
    have HB2:=hide hb2
    clear hb2 hkl hl
    go_wp2_with fail
    refine (Strange_any hb _).mono ?_
    rw [HB2.out]
    rintro e w' ⟨rfl,rfl⟩
    go_wp2_with fail
    go_round
    case rel=>exact ⟨k+1,by omega,by go_num,by rw [HTS.out,HALL.out,HB2.out];rfl⟩
    case measure=>simp [intOf];omega
   | false =>
    have hbf:b=false:=by rw [←HB.out];exact HAF.out hb2
    have HB2:=hide hb2
    have HBF:=hide hbf
    clear hb2 hbf hkl hl
    go_wp2_with fail
    refine (Strange_any hb _).mono ?_
    rw [HB2.out]
    rintro e w' ⟨rfl,rfl⟩
    go_wp2_with fail
    go_ret
    rw [HBF.out]
    exact ⟨_,rfl,by simp,rfl⟩
  ·have hbt:b=true:=by
    rw [←HB.out]
    have:=HALL.out
    rwa [List.take_of_length_le (by omega)] at this
   have HBT:=hide hbt
   clear hbt hl
   go_wp2_with fail
   go_ret
   rw [HBT.out]
   exact ⟨_,rfl,by simp,rfl⟩

set_option maxHeartbeats 400000 in
theorem ContainsFunc_b {A:Option Addr} {m c B:Nat} {l:List UInt8} {b:Bool} (w:World) (ha:Bs w B A m l) (hm:m≤140737488355328) (h:(l.all fun x=>letB x.toNat)=b) :
  Calls Tryz.prog 206 #[.slice A m c,strangeV] w fun e w'=>e=.returned (.bool (!b))∧w=w':=by
 have HB:=hide h
 have HA:=hide ha
 clear h ha
 go_enter Tryz.func206,Tryz.ntmps206
 go_wp2_with fail
 refine (IndexFunc_b _ HA.out hm HB.out).mono ?_
 rintro e w' ⟨r,rfl,hr,rfl⟩
 have HR:=hide hr
 clear hr
 go_wp2_with fail
 go_ret
 exact ⟨ret_bool HR.out,rfl⟩
end Go.Proofs.YtpndfahgflgocaaGreatDoor

namespace Go.Proofs.YtpndfahgflgocaaGreatDoor
open Go.RowKit Plain

set_option maxHeartbeats 400000 in
theorem NRight_any (l:List UInt8) (w:World) (hl:l.length≤140737488355328) :
  Calls Tryz.prog 195 #[st l] w (BoolB w (nameB l)):=by
 unfold st
 by_cases h1:l=[]
 ·subst h1
  go_enter Tryz.func195,Tryz.ntmps195
  go_wp2_with fail
  go_ret
  exact BoolB.of (below_self w)
 by_cases h2:12 < l.length
 ·have hr:nameB l=false:=by
   have:decide (1≤l.length∧l.length≤12)=false:=by simp;omega
   simp [nameB,this]
  rw [hr]
  clear hr
  have e1:¬l=[]:=h1
  have d1:(l==[])=false:=by simpa using h1
  have d2:decide ((12:Int) < (l.length:Int))=true:=by simp;omega
  clear h1
  go_enter Tryz.func195,Tryz.ntmps195
  go_wp2_with fail
  go_ret
  exact BoolB.of (below_self w)
 by_cases h3:l=[46]
 ·subst h3
  go_enter Tryz.func195,Tryz.ntmps195
  go_wp2_with fail
  go_ret
  exact BoolB.of (below_self w)
 by_cases h4:l=[46,46]
 ·subst h4
  go_enter Tryz.func195,Tryz.ntmps195
  go_wp2_with fail
  go_ret
  exact BoolB.of (below_self w)
 have d2:decide ((12:Int) < (l.length:Int))=false:=by simp;omega
 have d1:(l==[])=false:=by simpa using h1
 have d3:(l==[46])=false:=by simpa using h3
 have d4:(l==[46,46])=false:=by simpa using h4
 have hr:nameB l=l.all fun x=>letB x.toNat:=by
  have hpos:0 < l.length:=List.length_pos_iff.2 h1
  have:decide (1≤l.length∧l.length≤12)=true:=by simp;omega
  simp [nameB,this,d3,d4]
 obtain ⟨b,hb⟩:∃b,nameB l=b:=⟨_,rfl⟩
 rw [hb]
 rw [hr] at hb
 have HB:=hide hb
 clear hr hb h1 h3 h4 h2
 have kc:=Lib.run_convert_string_bytes (P:=Tryz.prog) w 9 44 5 ⟨l.toArray⟩ Tryz.underlying9 Tryz.underlying44 Tryz.underlying5
 go_enter Tryz.func195,Tryz.ntmps195
 go_wp2_with fail
 clear kc
 refine (ContainsFunc_b _ (Bs.bytesWorld w 5 l) hl HB.out).mono ?_
 rintro e w' ⟨rfl,rfl⟩
 go_wp2_with fail
 go_ret
 exact BoolB.eq (by simp) (below_bytesWorld _ _ _)
theorem NRight_b {l:List UInt8} {b:Bool} (h:nameB l=b) (w:World) (hl:l.length≤140737488355328) :
  Calls Tryz.prog 195 #[st l] w (BoolB w b):=by
 have:=NRight_any l w hl;rw [h] at this;exact this
end Go.Proofs.YtpndfahgflgocaaGreatDoor

namespace Go.Proofs.YtpndfahgflgocaaGreatDoor.Plain
theorem snoc_ind {α:Type} {P:List α→Prop} (h0:P []) (h1:∀l x,P l→P (l++[x])):∀l,P l:=by
  intro l
  rw [←List.reverse_reverse l]
  generalize l.reverse=r
  induction r with
  | nil=>exact h0
  | cons x r ih=>rw [List.reverse_cons];exact h1 _ _ ih
theorem joinS_head (l:List (List UInt8)):∃b,joinS l=47::b:=by
  induction l using snoc_ind with
  | h0=>exact ⟨[],rfl⟩
  | h1 l x ih =>
    obtain ⟨b,hb⟩:=ih
    rw [joinS_snoc,hb]
    split
    · exact ⟨b++x,rfl⟩
    · exact ⟨b++[47]++x,rfl⟩
theorem fold_noslash (x:List UInt8) (hx:∀c∈x,c≠47):∀(o:List (List UInt8)) (y:List UInt8),x.foldl stepP (o++[y])=o++[y++x]:=by
  induction x with
  | nil=>intro o y;simp
  | cons c r ih =>
    intro o y
    rw [List.foldl_cons]
    have hc:c≠47:=hx c List.mem_cons_self
    have hs:stepP (o++[y]) c=o++[y++[c]]:=by
      unfold stepP
      rw [if_neg hc]
      have hl:(o++[y]).length - 1=o.length:=by simp
      rw [hl,List.set_append_right _ _ (Nat.le_refl _),Nat.sub_self,List.set_cons_zero]
      have hg:(o++[y]).getD o.length []=y:=by simp [List.getD]
      rw [hg]
    rw [hs,ih (fun c hc=>hx c (List.mem_cons_of_mem _ hc))]
    simp
theorem parts_join {l:List (List UInt8)} (h:∀x∈l,∀c∈x,c≠47):partsS (joinS l)=if l=[] then [[]] else l:=by
  induction l using snoc_ind with
  | h0=>rfl
  | h1 l x ih =>
    have ih:=ih (fun y hy=>h y (List.mem_append_left _ hy))
    have hx:=h x (List.mem_append_right _ (List.mem_singleton.2 rfl))
    rw [if_neg (by simp),joinS_snoc]
    by_cases hl:l=[]
    · subst hl
      simp only [List.length_nil,if_true]
      show ((x.foldl stepP ([]++[[]])):List (List UInt8))=[]++[x]
      rw [fold_noslash x hx]
      rfl
    · have hll:¬l.length=0:=by intro e;exact hl (List.eq_nil_of_length_eq_zero e)
      rw [if_neg hll]
      rw [if_neg hl] at ih
      obtain ⟨b,hb⟩:=joinS_head l
      rw [hb] at ih ⊢
      have ih2:b.foldl stepP [[]]=l:=ih
      show ((b++[47]++x).foldl stepP [[]])=l++[x]
      rw [List.foldl_append,List.foldl_append,ih2]
      have h47:List.foldl stepP l [47]=l++[[]]:=rfl
      rw [h47,fold_noslash x hx]
      rfl
theorem join_parts {s:List UInt8} (h:headB s=true):joinS (partsS s)=s:=by
  obtain ⟨r,rfl⟩:∃r,s=47::r:=by
    cases s with
    | nil=>simp [headB] at h
    | cons c r => exact ⟨r, by have : c = 47 := by simpa [headB] using h
                               rw [this]⟩
  show joinS (r.foldl stepP [[]])=47::r
  suffices hh:(r.foldl stepP [[]])≠[]∧joinS (r.foldl stepP [[]])=47::r from hh.2
  clear h
  induction r using snoc_ind with
  | h0=>exact ⟨by simp,rfl⟩
  | h1 r c ih =>
    obtain ⟨ih1,ih2⟩:=ih
    rw [List.foldl_append,List.foldl_cons,List.foldl_nil]
    generalize r.foldl stepP [[]]=P at ih1 ih2 ⊢
    by_cases hc:c=47
    · subst hc
      have hs:stepP P 47=P++[[]]:=rfl
      rw [hs]
      refine ⟨by simp,?_⟩
      rw [joinS_snoc,if_neg (by intro e;exact ih1 (List.eq_nil_of_length_eq_zero e)),ih2]
      simp
    · obtain ⟨Q,y,rfl⟩:∃Q y,P=Q++[y]:=⟨P.dropLast,P.getLast ih1,(List.dropLast_concat_getLast ih1).symm⟩
      have hs:stepP (Q++[y]) c=Q++[y++[c]]:=by
        have:=fold_noslash [c] (by intro d hd;rw [List.mem_singleton] at hd;rw [hd];exact hc) Q y
        simpa using this
      rw [hs]
      refine ⟨by simp,?_⟩
      rw [joinS_snoc,←List.append_assoc,←joinS_snoc,ih2]
      rfl
theorem nameB_noslash {x:List UInt8} (h:nameB x=true):∀c∈x,c≠47:=by
  intro c hc e
  simp only [nameB,Bool.and_eq_true,List.all_eq_true] at h
  have:=h.2 c hc
  subst e
  simp [letB] at this
theorem nameB_not {x:List UInt8} (h:nameB x=true):¬(x=[]∨x=[46])∧¬x=[46,46]:=by
  refine ⟨?_,?_⟩
  · rintro (rfl|rfl) <;> simp [nameB] at h
  · rintro rfl;simp [nameB] at h
theorem left_names {l:List (List UInt8)} (h:l.all nameB=true):leftS l=some l:=by
  induction l using snoc_ind with
  | h0=>rfl
  | h1 l x ih =>
    rw [List.all_append,Bool.and_eq_true] at h
    have hx:nameB x=true:=by simpa using h.2
    rw [leftS_snoc,ih h.1]
    obtain ⟨n1,n2⟩:=nameB_not hx
    simp only [stepC,if_neg n1,if_neg n2,hx,if_true]
theorem left_all {l o:List (List UInt8)} (h:leftS l=some o):o.all nameB=true:=by
  induction l using snoc_ind generalizing o with
  | h0=>cases h;rfl
  | h1 l x ih =>
    rw [leftS_snoc] at h
    cases hl:leftS l with
    | none=>rw [hl] at h;cases h
    | some o1 =>
      rw [hl] at h
      have i1:=ih hl
      unfold stepC at h
      simp only at h
      split at h
      · cases h;exact i1
      · split at h
        · split at h
          · cases h
          · cases h
            rw [List.all_eq_true] at i1 ⊢
            exact fun y hy=>i1 y (List.dropLast_subset _ hy)
        · split at h
          · rename_i hx
            cases h
            rw [List.all_append,i1]
            simpa using hx
          · cases h
theorem split_join {o:List (List UInt8)} (h:o.all nameB=true):splitB (joinS o)=true∧splitS (joinS o)=o:=by
  have hn:∀x∈o,∀c∈x,c≠47:=fun x hx=>nameB_noslash (List.all_eq_true.1 h x hx)
  have hp:=parts_join hn
  by_cases ho:o=[]
  · subst ho;exact ⟨rfl,rfl⟩
  · rw [if_neg ho] at hp
    obtain ⟨b,hb⟩:=joinS_head o
    have hh:headB (joinS o)=true:=by rw [hb];rfl
    have hne:joinS o≠[47]:=by
      intro e
      rw [e] at hp
      have:partsS [47]=[[]]:=rfl
      rw [this] at hp
      rw [←hp] at h
      simp [nameB] at h
    refine ⟨?_,?_⟩
    · unfold splitB
      rw [hh,hp,h]
      simp
    · unfold splitS
      rw [if_neg hne,hh,hp,h]
      rfl
theorem clean_join {o:List (List UInt8)} (h:o.all nameB=true):cleanB (joinS o)=true∧cleanS (joinS o)=joinS o:=by
  have hn:∀x∈o,∀c∈x,c≠47:=fun x hx=>nameB_noslash (List.all_eq_true.1 h x hx)
  have hp:=parts_join hn
  obtain ⟨b,hb⟩:=joinS_head o
  have hh:headB (joinS o)=true:=by rw [hb];rfl
  have hl:leftS (partsS (joinS o))=some o:=by
    rw [hp]
    by_cases ho:o=[]
    · subst ho;rfl
    · rw [if_neg ho];exact left_names h
  refine ⟨?_,?_⟩
  · unfold cleanB;rw [hh,hl];rfl
  · unfold cleanS;rw [if_pos hh,hl]
theorem split_back {s:List UInt8} (h:splitB s=true):joinS (splitS s)=s∧cleanB s=true∧cleanS s=s:=by
  have key:(splitS s).all nameB=true∧joinS (splitS s)=s:=by
    by_cases h1:s=[47]
    · subst h1;exact ⟨rfl,rfl⟩
    · have h2:(headB s&&(partsS s).all nameB)=true:=by
        unfold splitB at h
        rw [Bool.or_eq_true,beq_iff_eq] at h
        rcases h with h|h
        · exact absurd h h1
        · exact h
      unfold splitS
      rw [if_neg h1,if_pos h2]
      rw [Bool.and_eq_true] at h2
      exact ⟨h2.2,join_parts h2.1⟩
  obtain ⟨k1,k2⟩:=key
  have:=clean_join k1
  rw [k2] at this
  exact ⟨k2,this⟩
end Go.Proofs.YtpndfahgflgocaaGreatDoor.Plain

namespace Go.Proofs.YtpndfahgflgocaaGreatDoor
open Go.RowKit Plain

def LRet (w:World) (e:Nat) (l:List (List UInt8)) (b:Bool) (x:Ending) (w':World):Prop :=
 ∃A n c,x=.returned (.tuple #[.slice A n c,.bool b])∧Ow st w' w.heap.size e A n c l∧Below w.heap.size w w'
theorem LRet.nil {w w':World} {e:Nat} {b:Bool} (h:Below w.heap.size w w'):LRet w e [] b (.returned (.tuple #[.slice none 0 0,.bool b])) w':=⟨none,0,0,rfl,Ow.nil_ _ _ _ _,h⟩

end Go.Proofs.YtpndfahgflgocaaGreatDoor

