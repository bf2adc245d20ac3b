import Derived.Test.YtpndfahgflgocaaGreatDoorLn30
import Derived.Lib.AtoiErrMem
import Derived.Lib.IfaceNeq
import Derived.Test.YtpndfahgflgocaaGreatDoorLn1
import Derived.Test.YtpndfahgflgocaaGreatDoorLn3
import Derived.Test.YtpndfahgflgocaaGreatDoorLn16
import Derived.Test.YtpndfahgflgocaaGreatDoorLn8
import Derived.Shelf.Strings.Builder1
import Derived.Shelf.Strings.Builder2
import Derived.Shelf.Strings.Prefix
import Derived.Test.YtpndfahgflgocaaGreatDoorProg
import Derived.Test.YtpndfahgflgocaaGreatDoorLn17
import Derived.Test.YtpndfahgflgocaaGreatDoorLn4
import Derived.Test.YtpndfahgflgocaaGreatDoorLn5
import Derived.Test.YtpndfahgflgocaaGreatDoorLn10
import Derived.Deep.Cut
import Derived.Deep.CutRange

namespace Go.Proofs.YtpndfahgflgocaaGreatDoor
open Go.RowKit Go.Shelf Plain

def IAns (l:List UInt8) (e:Ending):Prop:=∃v:Int,-281474976710656≤v∧v≤281474976710656∧(l.all isH=true→v=numH l)∧(e=.returned (.tuple #[.int .i64 v,.nilIface])∨(v=0∧e=.returned (.tuple #[.int .i64 0,.iface 200 (.int .i64 2)])))
theorem neq_err21 (W:World):(binOp .neq 151 (.iface 200 (.int .i64 2)) (.iface 200 (.int .i64 1))).run Tryz.prog W=.ok (.bool true) W:=Lib.run_neq_iface_int W 2 1 Tryz.underlying151 (by kernel_rfl) Tryz.underlying200
theorem cut_tail (c:UInt8) (r:List UInt8):(⟨(c::r).toArray⟩:ByteArray).extract 1 (r.length+1)=⟨r.toArray⟩:=by
 apply ByteArray.ext
 rw [ByteArray.data_extract]
 apply Array.ext'
 show ((c::r).toArray.extract 1 (r.length+1)).toList=r
 rw [Array.toList_extract,List.extract_eq_take_drop]
 show ((c::r).drop 1).take (r.length+1 - 1)=r
 rw [List.drop_succ_cons,List.drop_zero,Nat.add_sub_cancel,List.take_length]
set_option maxHeartbeats 32000000 in
set_option maxRecDepth 100000 in
theorem PInt16_any {l:List UInt8} (hl:l.length≤12) (w:World):Calls Tryz.prog 114 #[.string ⟨l.toArray⟩,.int .i64 16,.int .i64 0] w (fun e w'=>IAns l e∧Below w.heap.size w w'):=by
 cases l with
 | nil =>
  refine (Tryz.internal_strconv_ParseInt_empty 16 0 w).mono ?_
  rintro e w' ⟨rfl,rfl⟩
  exact ⟨⟨0,by decide,by decide,fun _=>rfl,.inr ⟨rfl,rfl⟩⟩,below_self _⟩
 | cons c r =>
  have hsz:(⟨(c::r).toArray⟩:ByteArray).size=r.length+1:=by simp [ByteArray.size]
  have hrl:r.length≤11:=by simpa using hl
  have hct:=cut_tail c r
  have hb0:(⟨(c::r).toArray⟩:ByteArray)[0]'(by rw [hsz];omega)=c:=rfl
  by_cases h43:c.toNat=43
  ·have hcc:c=43:=UInt8.toNat_inj.1 h43
   have t43:((c.toNat:Int)==43)=true:=by rw [h43];rfl
   have HNX:=hide (show (c::r).all isH=false from by rw [hcc];rfl)
   have HCC:=hide hcc
   clear hcc h43
   go_enter Tryz.func114,Tryz.ntmps114
   go_wp2_with fail
   cases r with
   | nil =>
    refine (Tryz.internal_strconv_ParseUint_empty 16 0 w).mono ?_
    rintro e w2 ⟨rfl,rfl⟩
    have hq2:=neq_err21
    go_wp2_with fail
    all_goals go_ret2
    all_goals exact ⟨⟨0,by decide,by decide,fun h=>absurd (h.symm.trans HNX.out) (by decide),.inr ⟨rfl,rfl⟩⟩,below_self _⟩
   | cons d r =>
    refine (PUint16_any (l:=d::r) (by simp) (by simp only [List.length_cons] at hl ⊢;omega) w).mono ?_
    rintro e w2 ⟨⟨v,hv,hd,hc⟩,hbel⟩
    have hq2:=neq_err21
    have HBE:=hide hbel
    have hp16:16 ^ (d::r).length≤281474976710656:=by
     have h1:=Nat.pow_le_pow_right (show 16 > 0 by decide) (show (d::r).length≤12 by simp only [List.length_cons] at hl ⊢;omega)
     have e:(16:Nat) ^ 12=281474976710656:=by decide
     omega
    have hv2:v < 281474976710656:=by omega
    have HD:=hide hd
    obtain ⟨a,ha⟩:∃a:Int,(v:Int)=a:=⟨_,rfl⟩
    rw [ha] at hc
    have a0:0≤a:=by omega
    have a1:a < 281474976710656:=by omega
    have HA:=hide ha
    clear hbel hv hd hp16 hv2 ha
    rcases hc with rfl|⟨rfl,hnf,rfl⟩
    ·go_wp2_with fail
     all_goals go_ret2
     all_goals exact ⟨⟨a,by omega,by omega,fun h=>absurd (h.symm.trans HNX.out) (by decide),.inl (by first|rfl|(simp;done))⟩,HBE.out⟩
    ·have HNF:=hide hnf
     clear hnf
     go_wp2_with fail
     all_goals go_ret2
     all_goals exact ⟨⟨0,by decide,by decide,fun h=>absurd (h.symm.trans HNX.out) (by decide),.inr ⟨rfl,rfl⟩⟩,HBE.out⟩
  by_cases h45:c.toNat=45
  ·have hcc:c=45:=UInt8.toNat_inj.1 h45
   have t43:((c.toNat:Int)==43)=false:=by rw [h45];rfl
   have t45:((c.toNat:Int)==45)=true:=by rw [h45];rfl
   have HNX:=hide (show (c::r).all isH=false from by rw [hcc];rfl)
   have HCC:=hide hcc
   clear hcc h45
   go_enter Tryz.func114,Tryz.ntmps114
   go_wp2_with fail
   cases r with
   | nil =>
    refine (Tryz.internal_strconv_ParseUint_empty 16 0 w).mono ?_
    rintro e w2 ⟨rfl,rfl⟩
    have hq2:=neq_err21
    go_wp2_with fail
    all_goals go_ret2
    all_goals exact ⟨⟨0,by decide,by decide,fun h=>absurd (h.symm.trans HNX.out) (by decide),.inr ⟨rfl,rfl⟩⟩,below_self _⟩
   | cons d r =>
    refine (PUint16_any (l:=d::r) (by simp) (by simp only [List.length_cons] at hl ⊢;omega) w).mono ?_
    rintro e w2 ⟨⟨v,hv,hd,hc⟩,hbel⟩
    have hq2:=neq_err21
    have HBE:=hide hbel
    have hp16:16 ^ (d::r).length≤281474976710656:=by
     have h1:=Nat.pow_le_pow_right (show 16 > 0 by decide) (show (d::r).length≤12 by simp only [List.length_cons] at hl ⊢;omega)
     have e:(16:Nat) ^ 12=281474976710656:=by decide
     omega
    have hv2:v < 281474976710656:=by omega
    have HD:=hide hd
    obtain ⟨a,ha⟩:∃a:Int,(v:Int)=a:=⟨_,rfl⟩
    rw [ha] at hc
    have a0:0≤a:=by omega
    have a1:a < 281474976710656:=by omega
    have HA:=hide ha
    clear hbel hv hd hp16 hv2 ha
    rcases hc with rfl|⟨rfl,hnf,rfl⟩
    ·go_wp2_with fail
     all_goals go_ret2
     all_goals exact ⟨⟨-a,by omega,by omega,fun h=>absurd (h.symm.trans HNX.out) (by decide),.inl (by first|rfl|(simp;done))⟩,HBE.out⟩
    ·have HNF:=hide hnf
     clear hnf
     go_wp2_with fail
     all_goals go_ret2
     all_goals exact ⟨⟨0,by decide,by decide,fun h=>absurd (h.symm.trans HNX.out) (by decide),.inr ⟨rfl,rfl⟩⟩,HBE.out⟩
  have t43:((c.toNat:Int)==43)=false:=by rw [beq_eq_false_iff_ne];omega
  have t45:((c.toNat:Int)==45)=false:=by rw [beq_eq_false_iff_ne];omega
  go_enter Tryz.func114,Tryz.ntmps114
  go_wp2_with fail
  refine (PUint16_any (l:=c::r) (by simp) (by simp only [List.length_cons] at hl ⊢;omega) w).mono ?_
  rintro e w2 ⟨⟨v,hv,hd,hc⟩,hbel⟩
  have hq2:=neq_err21
  have HBE:=hide hbel
  have hp16:16 ^ (c::r).length≤281474976710656:=by
   have h1:=Nat.pow_le_pow_right (show 16 > 0 by decide) (show (c::r).length≤12 by simp only [List.length_cons] at hl ⊢;omega)
   have e:(16:Nat) ^ 12=281474976710656:=by decide
   omega
  have hv2:v < 281474976710656:=by omega
  have HD:=hide hd
  obtain ⟨a,ha⟩:∃a:Int,(v:Int)=a:=⟨_,rfl⟩
  rw [ha] at hc
  have a0:0≤a:=by omega
  have a1:a < 281474976710656:=by omega
  have HA:=hide ha
  clear hbel hv hd hp16 hv2 ha
  rcases hc with rfl|⟨rfl,hnf,rfl⟩
  ·go_wp2_with fail
   all_goals go_ret2
   all_goals exact ⟨⟨a,by omega,by omega,fun h=>by rw [←HD.out h];exact HA.out.symm,.inl (by first|rfl|(simp;done))⟩,HBE.out⟩
  ·have HNF:=hide hnf
   clear hnf
   go_wp2_with fail
   all_goals go_ret2
   all_goals exact ⟨⟨0,by decide,by decide,fun h=>absurd (h.symm.trans HNF.out) (by decide),.inr ⟨rfl,rfl⟩⟩,HBE.out⟩
end Go.Proofs.YtpndfahgflgocaaGreatDoor

namespace Go.Proofs.YtpndfahgflgocaaGreatDoor
open Go.RowKit Go.Shelf Plain

def EvW (w:World):Prop:=∃ev,w.cell? ⟨1,0,none⟩=some ev∧(ev=.nilIface∨∃te pe,ev=.iface te pe)
theorem EvW.lt {w:World} (h:EvW w):1 < w.heap.size:=by
 obtain ⟨ev,h,-⟩:=h
 exact block_lt_of_cell h
theorem EvW.below {w w':World} (h:EvW w) (hb:Below w.heap.size w w'):EvW w':=by
 have hl:=h.lt
 obtain ⟨ev,h1,h2⟩:=h
 exact ⟨ev,(hb.cell (p:=⟨1,0,none⟩) hl).trans h1,h2⟩
set_option maxHeartbeats 4000000 in
set_option maxRecDepth 100000 in
theorem SInt16_any {l:List UInt8} (hl:l.length≤12) (w:World) (hev:EvW w):Calls Tryz.prog 89 #[.string ⟨l.toArray⟩,.int .i64 16,.int .i64 0] w (fun e w'=>∃(v:Int) (x:Value),-281474976710656≤v∧v≤281474976710656∧(l.all isH=true→v=numH l)∧e=.returned (.tuple #[.int .i64 v,x])∧Below w.heap.size w w'):=by
 have HEV:=hide hev
 have hls:(⟨l.toArray⟩:ByteArray).size≤281474976710656:=by simp [ByteArray.size];omega
 have HLS:=hide hls
 clear hev hls
 go_enter Tryz.func89,Tryz.ntmps89
 go_wp2_with fail
 refine (PInt16_any hl w).mono ?_
 rintro e w2 ⟨⟨v,h0,h1,hd,hc⟩,hbel⟩
 have HD:=hide hd
 have HB:=hide hbel
 obtain ⟨ev,q,hev⟩:=HEV.out.below hbel
 have HQ:=hide q
 have HE:=hide hev
 clear hd hbel q hev
 rcases hc with rfl|⟨rfl,rfl⟩
 ·go_wp2_with fail
  go_ret2
  exact ⟨v,_,h0,h1,HD.out,rfl,HB.out⟩
 ·go_wp2_with fail
  refine (Tryz.strconv_toError_syntax ⟨#[80,97,114,115,101,73,110,116]⟩ ⟨l.toArray⟩ 16 0 ev w2 HLS.out HQ.out HE.out).mono ?_
  rintro e w3 ⟨N,rfl,-,-,hbel⟩
  have HB3:=hide (HB.out.trans (hbel.mono HB.out.size))
  clear hbel
  go_wp2_with fail
  go_ret2
  exact ⟨0,_,h0,h1,HD.out,rfl,HB3.out⟩
set_option maxHeartbeats 4000000 in
set_option maxRecDepth 100000 in
theorem HGet_any {l:List UInt8} (hl:l.length≤12) (w:World) (hev:EvW w):Calls Tryz.prog 64 #[.string ⟨l.toArray⟩] w (fun e w'=>∃v:Int,-281474976710656≤v∧v≤281474976710656∧(l.all isH=true→v=numH l)∧e=.returned (.int .i64 v)∧Below w.heap.size w w'):=by
 have HEV:=hide hev
 clear hev
 go_enter Tryz.func64,Tryz.ntmps64
 go_wp2_with fail
 refine (SInt16_any hl w HEV.out).mono ?_
 rintro e w2 ⟨v,x,h0,h1,hd,rfl,hbel⟩
 have HD:=hide hd
 have HB:=hide hbel
 clear hd hbel
 go_wp2_with fail
 go_ret
 exact ⟨v,h0,h1,HD.out,rfl,HB.out⟩
end Go.Proofs.YtpndfahgflgocaaGreatDoor

namespace Go.Proofs.YtpndfahgflgocaaGreatDoor
open Go.RowKit Go.Shelf Plain

def BzW (w:World):Prop:=w.cell? ⟨6,15,none⟩=some (.int .u8 4)
theorem BzW.lt {w:World} (h:BzW w):6 < w.heap.size:=block_lt_of_cell h
theorem BzW.below {w w':World} (h:BzW w) (hb:Below w.heap.size w w'):BzW w':=(hb.cell (p:=⟨6,15,none⟩) h.lt).trans h
set_option maxRecDepth 100000 in
theorem TZ64_16 (w:World) (h:BzW w):Calls Tryz.prog 194 #[.int .u64 16] w (fun e w'=>e=.returned (.int .i64 4)∧w'=w):=by
 unfold BzW at h
 have hA:bits BinOp.and IntKind.u64 16 (IntKind.u64.wrap (-16))=16:=by decide
 have hC:IntKind.u64.wrap (16*285870213051353865) / 288230376151711744=15:=by decide
 go_enter Tryz.func194,Tryz.ntmps194
 go_wp2_with fail
 go_ret
 exact ⟨rfl,rfl⟩
set_option maxRecDepth 100000 in
theorem TZ_16 (w:World) (h:BzW w):Calls Tryz.prog 178 #[.int .u64 16] w (fun e w'=>e=.returned (.int .i64 4)∧w'=w):=by
 go_enter Tryz.func178,Tryz.ntmps178
 go_wp2_with (go_at_call 194;refine (TZ64_16 w h).mono ?_;rintro e w' ⟨rfl,rfl⟩)
 go_ret
 exact ⟨rfl,rfl⟩
set_option maxRecDepth 100000 in
theorem Pow2_16 (w:World):Calls Tryz.prog 177 #[.int .i64 16] w (fun e w'=>e=.returned (.bool true)∧w'=w):=by
 have hA:bits BinOp.and IntKind.i64 16 15=0:=by decide
 go_enter Tryz.func177,Tryz.ntmps177
 go_wp2_with fail
 go_ret
 exact ⟨rfl,rfl⟩
theorem dig_index {r:Nat} (h:r < 16) (w:World):(Instr.index 9 (.string ⟨#[48,49,50,51,52,53,54,55,56,57,97,98,99,100,101,102,103,104,105,106,107,108,109,110,111,112,113,114,115,116,117,118,119,120,121,122]⟩) (.int .u64 (r:Int))).run Tryz.prog w=.ok (bv (digH r)) w:=by
 rcases (by omega:r=0∨r=1∨r=2∨r=3∨r=4∨r=5∨r=6∨r=7∨r=8∨r=9∨r=10∨r=11∨r=12∨r=13∨r=14∨r=15) with rfl|rfl|rfl|rfl|rfl|rfl|rfl|rfl|rfl|rfl|rfl|rfl|rfl|rfl|rfl|rfl
 all_goals kernel_rfl
theorem and_15 (m:Nat) (h:m < 18446744073709551616):bits BinOp.and IntKind.u64 (m:Int) 15=((m % 16:Nat):Int):=by
 have e1:(BitVec.ofInt 64 (m:Int)).toNat=m:=by rw [BitVec.toNat_ofInt];omega
 have e2:(BitVec.ofInt 64 (15:Int)).toNat=15:=by decide
 show IntKind.u64.wrap (((BitVec.ofInt 64 (m:Int) &&& BitVec.ofInt 64 (15:Int)).toNat:Nat):Int)=_
 rw [BitVec.toNat_and,e1,e2,show m &&& 15=m % 16 from Nat.and_two_pow_sub_one_eq_mod m 4,IntKind.wrap_u64]
 omega
theorem shr_4 (m:Nat):Op.shift .shr .u64 (m:Int) .u64 4=pure (.int .u64 ((m / 16:Nat):Int)):=by
 rw [shift_shr .u64 .u64 (m:Int) 4 (by omega) (by simp [IntKind.bits])]
 congr 2
theorem slice_65 (g i:Nat) (h:i < 65) (w:World):(Instr.sliceAt 246 (.pointer (some ⟨g,0,none⟩)) (some (.int .i64 (i:Int))) none none).run Tryz.prog w=.ok (.slice (some ⟨g,i,none⟩) (65 - i) (65 - i)) w:=by
 simp [Instr.sliceAt,run_underlying Tryz.underlying246,Instr.sliceBounds,Instr.sliceBound,asIntOf,go_sem]
 rw [if_pos (by omega),if_neg (by omega)]
theorem div_pow {n j:Nat} (h:16≤n / 16 ^ j):16 ^ (j+1)≤n:=by
 have h1:=(Nat.le_div_iff_mul_le (Nat.pow_pos (by decide:16 > 0))).1 h
 rw [Nat.pow_succ,Nat.mul_comm]
 exact h1
theorem div_few {n j:Nat} (h:n / 16 ^ j < 16):n < 16 ^ (j+1):=by
 have h1:=(Nat.div_lt_iff_lt_mul (Nat.pow_pos (by decide:16 > 0))).1 h
 rw [Nat.pow_succ,Nat.mul_comm]
 exact h1
theorem drop_put {α:Type} {L:List α} {i:Nat} {x:α} (h:i < L.length):(L.set i x).drop i=x::L.drop (i+1):=by
 rw [List.drop_eq_getElem_cons (by rw [List.length_set];exact h),List.getElem_set_self,List.drop_set_of_lt (by omega)]
set_option maxHeartbeats 8000000 in
set_option maxRecDepth 100000 in
theorem FBits_any {n:Nat} (hn:n≤268435455) (w:World) (hbz:BzW w):Calls Tryz.prog 163 #[.slice none 0 0,.int .u64 n,.int .i64 16,.bool false,.bool false] w (fun e w'=>∃m,1≤m∧n < 16 ^ m∧(m=1∨16 ^ (m - 1)≤n)∧e=.returned (.tuple #[.slice none 0 0,.string ⟨(hexN m n).toArray⟩])∧Below w.heap.size w w'):=by
 have HN:=hide hn
 have HZ:=hide hbz
 have hzl:(Tryz.zeroCells246).toList.length=65:=by kernel_rfl
 have hRW:=RowL.new w 246 (Tryz.zeroCells246).toList
 have hb1:=below_new (below_self w) (.cells Tryz.zeroCells246 246)
 rw [Array.toArray_toList] at hRW
 have HRW:=hide hRW
 have HB1:=hide hb1
 have HZL:=hide hzl
 have HZ1:=hide (hbz.below hb1)
 clear hRW hb1 hzl hbz
 go_enter Tryz.func163,Tryz.ntmps163
 go_upto_region 4 with fail
 generalize w.alloc (.cells Tryz.zeroCells246 246)=w1 at *
 go_wp2_with (first|(go_at_call 177;refine (Pow2_16 _).mono ?_;rintro e w' ⟨rfl,rfl⟩)|(go_at_call 178;refine (TZ_16 _ HZ1.out).mono ?_;rintro e w' ⟨rfl,rfl⟩))
 go_loopw [1,13] (fun v1 v13 wr=>∃(j m:Nat) (L:List Value),j≤6∧m≤268435455∧v1=.int .u64 m∧v13=.int .i64 (((65 - j:Nat):Nat):Int)∧Hid (m=n / 16 ^ j)∧Hid (j=0∨16 ^ j≤n)∧RowL wr w.heap.size 246 L∧Hid (L.length=65)∧Hid (L.drop (65 - j)=bvs (hexN j n))∧Below w.heap.size w wr) (fun v1 _ _=>(intOf v1).toNat)
 case atStart=>exact ⟨0,n,_,by omega,HN.out,rfl,rfl,hide (by simp),hide (.inl rfl),HRW.out,HZL,hide (by rw [List.drop_of_length_le (by rw [HZL.out];omega)];rfl),HB1.out⟩
 case round =>
  obtain ⟨j,m,L,hj,hm,rfl,rfl,HM,HJ,hr,HL,HD,hb⟩:=hrel
  have HR:=hide hr
  have HB:=hide hb
  have hbs:=hb.size
  have hlt:=hr.lt
  clear hr hb
  obtain ⟨r,hr⟩:∃r,m % 16=r:=⟨_,rfl⟩
  have hr16:r < 16:=by omega
  have hix:=fun W=>dig_index hr16 W
  by_cases hge:16≤m
  ·have hgi:(16:Int)≤(m:Int):=by omega
   have hj5:j≤5:=by
    rcases Nat.lt_or_ge j 6 with h|h
    ·omega
    ·have e:j=6:=by omega
     have h1:=HM.out
     rw [e] at h1
     have e6:(16:Nat) ^ 6=16777216:=by decide
     rw [e6] at h1
     have:=HN.out
     omega
   have hand:=and_15 m (by omega)
   rw [hr] at hand
   have hij:(((65 - j:Nat):Nat):Int) - 1=((64 - j:Nat):Int):=by omega
   have hw1:IntKind.i64.wrap ((((65 - j:Nat):Nat):Int) - 1)=((64 - j:Nat):Int):=by rw [hij];exact IntWalk.i64_in _ (by omega)
   have hij2:((64 - j:Nat):Int) < 65:=by omega
   have hsh:=shr_4 m
   have hq:m / 16 < m:=by omega
   have HM2:=hide (show m / 16=n / 16 ^ (j+1) from by rw [HM.out,Nat.div_div_eq_div_mul,Nat.pow_succ])
   have HJ2:=hide (show j+1=0∨16 ^ (j+1)≤n from .inr (div_pow (by rw [←HM.out];exact hge)))
   have HL2:=hide (show (L.set (64 - j) (bv (digH r))).length=65 from by rw [List.length_set];exact HL.out)
   have HD2:=hide (show (L.set (64 - j) (bv (digH r))).drop (64 - j)=bvs (hexN (j+1) n) from by
    rw [drop_put (by rw [HL.out];omega),show 64 - j+1=65 - j from by omega,HD.out,hexN_cons,←HM.out,hr]
    rfl)
   have hq2:m / 16≤268435455:=by omega
   clear hr
   go_wp2_with (first|(refine wpList_storeV rfl 5 (.tmp 54) (.tmp 53) rfl Tryz.sizeOf5 (w.heap.size) (64 - j) 246 rfl (bv (digH r)) rfl rfl rfl L HR.out (by rw [HL.out];omega) ?_;intro w2 hr2 hg2 hs2;have HR2:=hide hr2;have HB2:=hide (HB.out.grown hg2 HB.out.size (pu4 (by omega)));clear hr2 hg2 hs2))
   go_roundw
   case rel=>exact ⟨j+1,m / 16,_,by omega,hq2,rfl,by rw [show 65 - (j+1)=64 - j from by omega],HM2,HJ2,HR2.out,HL2,by rw [show 65 - (j+1)=64 - j from by omega];exact HD2,HB2.out⟩
   case measure=>simp [intOf];omega
  ·have hgi:¬(16:Int)≤(m:Int):=by omega
   have hm16:m < 16:=by omega
   have hix2:=fun W=>dig_index hm16 W
   have hij:(((65 - j:Nat):Nat):Int) - 1=((64 - j:Nat):Int):=by omega
   have hw1:IntKind.i64.wrap ((((65 - j:Nat):Nat):Int) - 1)=((64 - j:Nat):Int):=by rw [hij];exact IntWalk.i64_in _ (by omega)
   have hij2:((64 - j:Nat):Int) < 65:=by omega
   have HF:=hide (show n < 16 ^ (j+1) from div_few (by rw [←HM.out];exact hm16))
   have HL2:=hide (show (L.set (64 - j) (bv (digH m))).length=65 from by rw [List.length_set];exact HL.out)
   have HD2:=hide (show (L.set (64 - j) (bv (digH m))).drop (64 - j)=bvs (hexN (j+1) n) from by
    rw [drop_put (by rw [HL.out];omega),show 64 - j+1=65 - j from by omega,HD.out,hexN_cons,←HM.out,Nat.mod_eq_of_lt hm16]
    rfl)
   clear hr hix
   go_upto_region 30 with (first|(refine wpList_storeV rfl 5 (.tmp 63) (.tmp 62) rfl Tryz.sizeOf5 (w.heap.size) (64 - j) 246 rfl (bv (digH m)) rfl rfl rfl L HR.out (by rw [HL.out];omega) ?_;intro w2 hr2 hg2 hs2;have HR2:=hide hr2;have HB2:=hide (HB.out.grown hg2 HB.out.size (pu4 (by omega)));clear hr2 hg2 hs2))
   have hcv:=fun c=>run_string_Bs (P:=Tryz.prog) w2 44 5 9 Tryz.underlying44 Tryz.underlying5 Tryz.underlying9 (B:=w2.heap.size) (n:=j+1) (c:=c) (A:=some ⟨w.heap.size,64 - j,none⟩) (l:=hexN (j+1) n) ⟨hexN_len _ _,fun _=>⟨w.heap.size,64 - j,rfl,HR2.out.lt,fun i x hx=>by
    have h1:(bvs (hexN (j+1) n))[i]?=some (bv x):=bvs_get hx
    rw [←HD2.out,List.getElem?_drop] at h1
    exact (HR2.out.cell _).trans h1⟩⟩
   have hsl:=fun W=>slice_65 w.heap.size (64 - j) (by omega) W
   rw [show 65 - (64 - j)=j+1 from by omega] at hsl
   go_wp2_with fail
   go_ret2
   exact ⟨j+1,by omega,HF.out,(HJ.out).imp (fun h=>by omega) (fun h=>h),rfl,HB2.out⟩
set_option maxRecDepth 100000 in
theorem FInt_any {n:Nat} (hn:n≤268435455) (w:World) (hbz:BzW w):Calls Tryz.prog 140 #[.int .i64 n,.int .i64 16] w (fun e w'=>∃m,1≤m∧n < 16 ^ m∧(m=1∨16 ^ (m - 1)≤n)∧e=.returned (.string ⟨(hexN m n).toArray⟩)∧Below w.heap.size w w'):=by
 have hneg:¬((n:Int) < 0):=by omega
 go_enter Tryz.func140,Tryz.ntmps140
 go_wp2_with (go_at_call 163;refine (FBits_any hn _ hbz).mono ?_;rintro e w' ⟨m,h1,h2,h3,rfl,hbel⟩)
 go_ret
 exact ⟨m,h1,h2,h3,rfl,hbel⟩
set_option maxRecDepth 100000 in
theorem SFInt_any {n:Nat} (hn:n≤268435455) (w:World) (hbz:BzW w):Calls Tryz.prog 117 #[.int .i64 n,.int .i64 16] w (fun e w'=>∃m,1≤m∧n < 16 ^ m∧(m=1∨16 ^ (m - 1)≤n)∧e=.returned (.string ⟨(hexN m n).toArray⟩)∧Below w.heap.size w w'):=by
 go_enter Tryz.func117,Tryz.ntmps117
 go_wp2_with (go_at_call 140;refine (FInt_any hn _ hbz).mono ?_;rintro e w' ⟨m,h1,h2,h3,rfl,hbel⟩)
 go_ret
 exact ⟨m,h1,h2,h3,rfl,hbel⟩
theorem rep_48 (d:Nat):Lib.repeatL ((⟨#[48]⟩:ByteArray)).data.toList d=List.replicate d 48:=by
 show Lib.repeatL [48] d=_
 induction d with
 | zero=>rfl
 | succ d ih=>rw [Lib.repeatL,ih,List.replicate_succ];rfl
theorem HPut_any {n k:Nat} (hn:n < 16 ^ k) (hk:1≤k) (hk7:k≤7) (w:World) (hbz:BzW w):Calls Tryz.prog 91 #[.int .i64 n,.int .i64 k] w (fun e w'=>e=.returned (.string ⟨(hexN k n).toArray⟩)∧Below w.heap.size w w'):=by
 have hn2:n≤268435455:=by
  have:=Nat.pow_le_pow_right (show 16 > 0 by decide) hk7
  have e:(16:Nat) ^ 7=268435456:=by decide
  omega
 have HB0:=hide hbz
 clear hbz
 go_enter Tryz.func91,Tryz.ntmps91
 go_wp2_with fail
 refine (SFInt_any hn2 _ HB0.out).mono ?_
 rintro e w2 ⟨m,h1,h2,h3,rfl,hbel⟩
 have hmk:=hexN_few hn h3 hk
 obtain ⟨d,rfl⟩:∃d,k=d+m:=⟨k - m,by omega⟩
 have hpad:=hexN_pad h2 d
 have hsz:(⟨(hexN m n).toArray⟩:ByteArray).size=m:=by simp [ByteArray.size,hexN_len]
 have hdm:((d+m:Nat):Int) - (m:Int)=(d:Int):=by omega
 have hw1:IntKind.i64.wrap (((d+m:Nat):Int) - (m:Int))=(d:Int):=by rw [hdm];exact IntWalk.i64_in _ (by omega)
 have HBE:=hide hbel
 have HPD:=hide hpad
 have hz:List.replicate d 48++hexN m n=hexN (d+m) n:=hpad.symm
 have hlm:=hexN_len m n
 obtain ⟨zs,hzs⟩:∃zs:List UInt8,List.replicate d 48=zs:=⟨_,rfl⟩
 have hzl:zs.length=d:=by rw [←hzs,List.length_replicate]
 rw [hzs] at hz
 have ad:=add_lists (P:=Tryz.prog) (x:=zs) (y:=hexN m n) (z:=hexN (d+m) n) (by omega) hz
 have HZS:=hide hzs
 clear hzs hzl HPD
 clear hbel hpad h3 hn hz hlm
 go_wp2_with fail
 refine (Tryz.strings_Repeat ⟨#[48]⟩ d w2 (by omega) (by show 1*d≤_;omega)).mono ?_
 rintro e w3 ⟨rfl,hbel3⟩
 have hrep:Lib.repeatL ((⟨#[48]⟩:ByteArray)).data.toList d=List.replicate d 48:=rep_48 d
 rw [hrep,HZS.out]
 have HB3:=hide (HBE.out.trans (hbel3.mono HBE.out.size))
 clear hbel3 hrep
 go_wp2_with fail
 go_ret
 exact ⟨rfl,HB3.out⟩
end Go.Proofs.YtpndfahgflgocaaGreatDoor

namespace Go.Proofs
open Go.Shelf
def Tryz.lays166_ren:Go.Shelf.Ren:=⟨fun|166=>90|240=>116|276=>139|n=>n,fun|0=>0|3=>3|4=>4|5=>5|9=>9|20=>20|37=>44|70=>154|72=>156|75=>151|80=>159|164=>208|n=>n,fun|n=>n⟩
set_option maxRecDepth 100000 in
theorem Tryz.lays166 : Go.Proofs.Lays.n166 Tryz.prog Tryz.lays166_ren := {
 mixed:=by kernel_rfl
 f166:=by kernel_rfl
 f240:=by kernel_rfl
 f276:=by kernel_rfl
 t0:=by kernel_rfl
 a0:=fun w=>by kernel_rfl
 z0:=fun w=>by kernel_rfl
 v0:=fun w=>by kernel_rfl
 t3:=by kernel_rfl
 a3:=fun w=>by kernel_rfl
 z3:=fun w=>by kernel_rfl
 v3:=fun w=>by kernel_rfl
 t4:=by kernel_rfl
 a4:=fun w=>by kernel_rfl
 z4:=fun w=>by kernel_rfl
 v4:=fun w=>by kernel_rfl
 t9:=by kernel_rfl
 a9:=fun w=>by kernel_rfl
 z9:=fun w=>by kernel_rfl
 v9:=fun w=>by kernel_rfl
 t20:=by kernel_rfl
 a20:=fun w=>by kernel_rfl
 z20:=fun w=>by kernel_rfl
 v20:=fun w=>by kernel_rfl
 t37:=by kernel_rfl
 a37:=fun w=>by kernel_rfl
 z37:=fun w=>by kernel_rfl
 v37:=fun w=>by kernel_rfl
 t70:=by kernel_rfl
 a70:=fun w=>by kernel_rfl
 z70:=fun w=>by kernel_rfl
 v70:=fun w=>by kernel_rfl
 t72:=by kernel_rfl
 a72:=fun w=>by kernel_rfl
 z72:=fun w=>by kernel_rfl
 v72:=fun w=>by kernel_rfl
 t75:=by kernel_rfl
 a75:=fun w=>by kernel_rfl
 z75:=fun w=>by kernel_rfl
 v75:=fun w=>by kernel_rfl
 t164:=by kernel_rfl
 a164:=fun w=>by kernel_rfl
 z164:=fun w=>by kernel_rfl
 v164:=fun w=>by kernel_rfl}
theorem Tryz.Builder_Extra_166 : Builder.Extra Tryz.prog Tryz.lays166_ren := {
 sizeBuilder:=by kernel_rfl
 liesBuilder:=by kernel_rfl
 t5:=by kernel_rfl
 a5:=fun w=>by kernel_rfl
 z5:=fun w=>by kernel_rfl
 v5:=fun w=>by kernel_rfl
 infoByte:=by kernel_rfl
 cellsByte:=by kernel_rfl
 sizeByte:=by kernel_rfl
 neB5:=by decide}
open Go.RowKit in
theorem Tryz.Builder_WriteString (B b:Nat) (bs:List Value) (s:ByteArray) (w:World) (h:Lib.IsBuilder 156 5 B b bs w) (hlen:bs.length+s.size≤140737488355328) (hBw:B≤w.heap.size) :
  Calls Tryz.prog 90 #[.pointer (some ⟨b,0,none⟩),.string s] w fun e w'=>e=.returned (.tuple #[.int .i64 s.size,.nilIface])∧(Lib.BuilderAt 156 5 B b (.pointer (some ⟨b,0,none⟩)) (bs++Lib.strCells s) w'∧Below B w w'):=Any.Builder_WriteString Tryz.lays166 Tryz.Builder_Extra_166 B b bs s w h hlen hBw
end Go.Proofs

namespace Go.Proofs.YtpndfahgflgocaaGreatDoor
open Go.RowKit Plain

def oriC (o:OriV):List Value:=[.int .i64 o.1,.int .i64 o.2.1,.int .i64 o.2.2]
theorem ori_agg:∀w,(isAgg 47).run Tryz.prog w=.ok true w:=fun w=>by kernel_rfl
theorem ori_size:∀w,(Go.sizeOf 47).run Tryz.prog w=.ok 3 w:=fun w=>by kernel_rfl
end Go.Proofs.YtpndfahgflgocaaGreatDoor

namespace Go.Proofs.YtpndfahgflgocaaGreatDoor
open Go

def ancB (md : Region.Mode) (ops : Array Oper) : Nat → Nat → Nat → Bool
 | 0,_,_=>false
 | f+1,k,j=>((ops[k]?).map (·.after.any fun e=>Region.binds md e&&(e.on==j||ancB md ops f e.on j))).getD false
def lastOkT (md:Region.Mode) (ops:Array Oper) (L:Nat):Bool :=
 decide (L < ops.size)&&(List.range ops.size).all fun j=>((ops[j]?).map (·.after.all fun e=>!Region.binds md e||(decide (e.on < j)&&e.on != L))).getD false&&(j==L||ancB md ops ops.size L j)
section
variable {P : Program} {ops : Array Oper} {Q : Exit → Act → World → Prop} {S : World → Prop} {md : Region.Mode}
theorem anc_listed {listed : Array Bool} (hcl : ClosedP md ops listed) : ∀ (f k j : Nat) (o : Oper), ops[k]? = some o → (∀ e ∈ o.after, Region.binds md e = true → listed.getD e.on false = true) → ancB md ops f k j = true → listed.getD j false = true
 | 0,_,_,_,_,_,h=>by cases h
 | f+1,k,j,o,ho,hd,h=>by
  unfold ancB at h
  rw [ho] at h
  simp only [Option.map_some,Option.getD_some] at h
  obtain ⟨i,hi,h3⟩:=Array.any_eq_true.1 h
  rw [Bool.and_eq_true,Bool.or_eq_true,beq_iff_eq] at h3
  obtain ⟨h3,h4|h4⟩:=h3
  ·rw [←h4]
   exact hd _ (Array.getElem_mem hi) h3
  ·have hl:=hd _ (Array.getElem_mem hi) h3
   cases ho':ops[o.after[i].on]? with
   | none =>
    cases f with
    | zero=>cases h4
    | succ f =>
     unfold ancB at h4
     rw [ho'] at h4
     cases h4
   | some o'=>exact anc_listed hcl f _ j o' ho' (fun e he hb=>hcl _ o' ho' hl e he hb) h4
theorem lastOkT_parts {L:Nat} (hok:lastOkT md ops L=true):L < ops.size∧(∀j o,ops[j]?=some o→∀e∈o.after,Region.binds md e=true→e.on < j∧e.on≠L)∧∀j,j < ops.size→j≠L→ancB md ops ops.size L j=true:=by
 unfold lastOkT at hok
 rw [Bool.and_eq_true,decide_eq_true_eq,List.all_eq_true] at hok
 obtain ⟨hL,hall⟩:=hok
 refine ⟨hL,fun j o ho e he hb=>?_,fun j hj hne=>?_⟩
 ·have hj:=(Array.getElem?_eq_some_iff.1 ho).1
  have h1:=hall j (List.mem_range.2 hj)
  rw [Bool.and_eq_true,ho] at h1
  have h2:=h1.1
  simp only [Option.map_some,Option.getD_some] at h2
  have h3:=Array.all_eq_true_iff_forall_mem.1 h2 e he
  simpa [hb] using h3
 ·have h1:=hall j (List.mem_range.2 hj)
  rw [Bool.and_eq_true] at h1
  have h2:=h1.2
  rw [Bool.or_eq_true] at h2
  rcases h2 with h2|h2
  ·exact absurd (by simpa using h2) hne
  ·exact h2
theorem ready_lastT {L:Nat} (hok:lastOkT md ops L=true) {listed:Array Bool} (hsz:listed.size=ops.size) (hcl:ClosedP md ops listed) (hU:∃j,j < ops.size∧(j≠L∧listed.getD j true=false)) :
  (∀i,i∈Region.ready md ops listed→i≠L∧i∈Region.ready md ops (listed.setIfInBounds L true))∧Region.ready md ops listed≠[]:=by
 obtain ⟨hL,hE,hW⟩:=lastOkT_parts hok
 have hLs:L < listed.size:=by omega
 refine ⟨fun i hi=>?_,fun hnil=>?_⟩
 ·rw [mem_ready] at hi
  obtain ⟨h1,h2,o,ho,h3⟩:=hi
  have hne:i≠L:=by
   intro e
   subst e
   obtain ⟨j,hj,hjne,hjl⟩:=hU
   rw [gd_tf (by omega)] at hjl
   have:=anc_listed hcl _ _ j o ho h3 (hW j hj hjne)
   rw [hjl] at this
   cases this
  refine ⟨hne,mem_ready.2 ⟨h1,by rw [gd_set hLs,if_neg hne];exact h2,o,ho,fun e he hb=>?_⟩⟩
  rw [gd_set hLs]
  split
  ·rfl
  ·exact h3 e he hb
 ·obtain ⟨j,hj,⟨hjne,hjl⟩,hmin⟩:=least hU
  have:j∈Region.ready md ops listed:=by
   refine mem_ready.2 ⟨hj,hjl,ops[j],Array.getElem?_eq_getElem hj,fun e he hb=>?_⟩
   obtain ⟨h1,h2⟩:=hE j _ (Array.getElem?_eq_getElem hj) e he hb
   have h3:=hmin e.on h1
   have h4:listed.getD e.on true=true:=by
    cases hq:listed.getD e.on true with
    | true=>rfl
    | false=>exact absurd ⟨h2,hq⟩ h3
   rw [←gd_tf (by omega)]
   exact h4
  rw [hnil] at this
  cases this
theorem wpAny_fullT {L:Nat} (hok:lastOkT md ops L=true) {listed:Array Bool} {a:Act} {w:World} (k:Nat) (hsz:listed.size=ops.size) (hnl:listed.getD L true=false) (hU:¬ ∃j,j < ops.size∧(j≠L∧listed.getD j true=false)) (h:postL P ops Q L .normal a w) :
  wpAny P md ops Q (k+1) listed a w:=by
 obtain ⟨hL,hE,hW⟩:=lastOkT_parts hok
 have hLs:L < listed.size:=by omega
 have hlisted:∀j,j < ops.size→j≠L→listed.getD j true=true:=by
  intro j hj hne
  cases hq:listed.getD j true with
  | true=>rfl
  | false=>exact absurd ⟨j,hj,hne,hq⟩ hU
 have hmem:L∈Region.ready md ops listed:=by
  refine mem_ready.2 ⟨hL,hnl,ops[L],Array.getElem?_eq_getElem hL,fun e he hb=>?_⟩
  obtain ⟨h1,h2⟩:=hE L _ (Array.getElem?_eq_getElem hL) e he hb
  rw [←gd_tf (by omega)]
  exact hlisted _ (by omega) h2
 have hnil:Region.ready md ops (listed.setIfInBounds L true)=[]:=by
  refine List.eq_nil_iff_forall_not_mem.2 fun i hi=>?_
  obtain ⟨h1,h2,_⟩:=mem_ready.1 hi
  rw [gd_set hLs] at h2
  split at h2
  ·cases h2
  ·rename_i hne
   rw [hlisted i h1 hne] at h2
   cases h2
 refine ⟨fun hr=>?_,fun i hi=>?_⟩
 ·rw [hr] at hmem
  cases hmem
 ·obtain ⟨h1,h2,_⟩:=mem_ready.1 hi
  have hiL:i=L:=by
   rcases Nat.decEq i L with hne|he
   ·rw [hlisted i h1 hne] at h2
    cases h2
   ·exact he
  subst hiL
  refine wpOp_mono (fun a' w' hq=>?_) h
  cases k with
  | zero=>exact ⟨hnil,hq⟩
  | succ k=>exact ⟨fun _=>hq,fun i hi=>by rw [hnil] at hi;cases hi⟩

theorem wpAny_lastT {L:Nat} (hok:lastOkT md ops L=true):∀(fuel:Nat) (listed:Array Bool) (a:Act) (w:World),listed.size=ops.size→ClosedP md ops listed→listed.getD L true=false→wpAnyH P md ops (postL P ops Q L) S fuel (listed.setIfInBounds L true) a w→wpAny P md ops Q (fuel+1) listed a w:=by
 have hL:=(lastOkT_parts hok).1
 intro fuel
 induction fuel with
 | zero =>
  intro listed a w hsz hcl hnl H
  by_cases hU:∃j,j < ops.size∧(j≠L∧listed.getD j true=false)
  ·obtain ⟨h1,h2⟩:=ready_lastT hok hsz hcl hU
   refine absurd (List.eq_nil_iff_forall_not_mem.2 fun i hi=>?_) h2
   have:=(h1 i hi).2
   rw [H.1] at this
   cases this
  ·exact wpAny_fullT hok 0 hsz hnl hU H.2
 | succ fuel ih =>
  intro listed a w hsz hcl hnl H
  by_cases hU:∃j,j < ops.size∧(j≠L∧listed.getD j true=false)
  ·obtain ⟨hready,hsome⟩:=ready_lastT hok hsz hcl hU
   refine ⟨fun h=>absurd h hsome,fun i hi=>?_⟩
   obtain ⟨hne,hi2⟩:=hready i hi
   refine wpOp_mono (fun a' w' hk=>?_) (wpOp_post postL_post (H.2 i hi2))
   refine ih _ a' w' (by simp [hsz]) (hcl.set hi) (by rw [gd_set (by have:=(mem_ready.1 hi).1;omega),if_neg (fun e=>hne e.symm)];exact hnl) ?_
   rw [Array.setIfInBounds_comm _ _ hne]
   exact hk.2
  ·refine wpAny_fullT hok _ hsz hnl hU (H.1 ?_)
   refine List.eq_nil_iff_forall_not_mem.2 fun i hi=>?_
   obtain ⟨h1,h2,_⟩:=mem_ready.1 hi
   rw [gd_set (by omega)] at h2
   split at h2
   ·cases h2
   ·rename_i hne
    exact hU ⟨i,h1,hne,h2⟩

theorem wp_region_planT {id : Nat} {a : Act} {w : World} (S : World → Prop) (ps : List (Nat × Bool)) (L : Nat) {l : List (Oper × Bool)} (hm : P.follows .mixedOrders = true) (hlast : lastOkT .any ops L = true) (hok : planOkN .any ops (needsN .any ops) (withN 0 L) ps = true) (hn : Region.noSelect ops = true) (hlen : decide (ps.length + 1 ≤ ops.size) = true)
  (hl:planOps ops ps=l) (hQ:∀c a k v w,Q (.panic c) (Act.put a (some k) v) w→Q (.panic c) a w) (hS:S w.drew) (h:S w.drew→wpPlan P ops (postL P ops Q L) S l a w.drew):(Code.region id ops true).wp P Q a w:=by
 subst hl
 have hlen':=of_decide_eq_true hlen
 have hok:=planOk_fastL (lastOkT_parts hlast).1 hok
 refine wp_region_any hm ?_
 obtain ⟨k,hk⟩:∃k,ops.size=k+1:=⟨ops.size - 1,by omega⟩
 have hLs:=(lastOkT_parts hlast).1
 have H:wpAny P .any ops Q (k+1) (Array.replicate ops.size false) a w.drew:=wpAny_lastT (S:=S) hlast k _ a w.drew (by simp) (ClosedP.zero _ _) (by rw [Array.getD_eq_getD_getElem?,Array.getElem?_replicate,if_pos hLs];rfl) (wpAnyH_plan (S:=S) (Q:=postL P ops Q L) hn (panic_put (Q:=postL P ops Q L) fun c a k v w h=>hQ c a k v w h) ps k _ a w.drew hok (by omega) hS (h hS))
 rw [←hk] at H
 exact H
end
end Go.Proofs.YtpndfahgflgocaaGreatDoor

