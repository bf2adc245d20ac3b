import Derived.Test.YtpndfahgflgocaaDoorXn25
import Derived.Test.YtpndfahgflgocaaDoorXn2
import Derived.Test.YtpndfahgflgocaaDoorXn18
import Derived.Lib.AtoiErrMem
import Derived.Lib.Strings
import Derived.Lib.Walk
import Derived.Lib.ConvBytes
import Derived.Lib.Hide
import Derived.Laws.Strings3
import Derived.Laws.Closers25
import Derived.Laws.Closers25b
import Derived.BigCall
import Derived.BigGuard
import Derived.Lib.IfaceNeq

namespace Go.Proofs.YtpndfahgflgocaaDoor
open Go.RowKit Go.Shelf Plain

def lowH (c:UInt8):Int:=bits .or .u8 (c.toNat:Int) 32
theorem low_fin:∀n:Fin 256,0≤bits .or .u8 ((UInt8.ofNat n.1).toNat:Int) 32∧bits .or .u8 ((UInt8.ofNat n.1).toNat:Int) 32≤255∧(isH (UInt8.ofNat n.1)=true→¬(48≤(UInt8.ofNat n.1).toNat∧(UInt8.ofNat n.1).toNat≤57)→97≤bits .or .u8 ((UInt8.ofNat n.1).toNat:Int) 32∧bits .or .u8 ((UInt8.ofNat n.1).toNat:Int) 32≤102∧bits .or .u8 ((UInt8.ofNat n.1).toNat:Int) 32=((UInt8.ofNat n.1).toNat:Int)):=by decide +kernel
theorem low_all (c:UInt8):0≤lowH c∧lowH c≤255∧(isH c=true→¬(48≤c.toNat∧c.toNat≤57)→97≤lowH c∧lowH c≤102∧lowH c=(c.toNat:Int)):=by
 have h:=low_fin ⟨c.toNat,c.toNat_lt⟩
 have e:UInt8.ofNat c.toNat=c:=by simp
 simp only [e] at h
 exact h
theorem lower_e {c:UInt8} {L:Int} (h:lowH c=L) (w:World):Calls Tryd.prog 77 #[.int .u8 c.toNat] w (fun e w'=>e=.returned (.int .u8 L)∧w'=w):=by
 rw [←h]
 exact Tryd.internal_strconv_lower (c.toNat:Int) w
theorem lower_95 (w:World):Calls Tryd.prog 77 #[.int .u8 95] w (fun e w'=>e=.returned (.int .u8 127)∧w'=w):=by
 have h:=Tryd.internal_strconv_lower 95 w
 rw [show bits .or .u8 95 32=127 from by decide] at h
 exact h
def UAns (l:List UInt8) (e:Ending):Prop:=∃v:Nat,v < 16 ^ l.length∧(l.all isH=true→v=numH l)∧(e=.returned (.tuple #[.int .u64 v,.nilIface])∨(v=0∧l.all isH=false∧e=.returned (.tuple #[.int .u64 0,.iface 133 (.int .i64 2)])))
set_option maxHeartbeats 32000000 in
set_option maxRecDepth 100000 in
theorem PUint16_any {l:List UInt8} (h0:0 < l.length) (hl:l.length≤12) (w:World):Calls Tryd.prog 66 #[.string ⟨l.toArray⟩,.int .i64 16,.int .i64 0] w (fun e w'=>UAns l e∧Below w.heap.size w w'):=by
 obtain ⟨t,ht⟩:∃t:ByteArray,(⟨l.toArray⟩:ByteArray)=t:=⟨_,rfl⟩
 obtain ⟨n,hn⟩:∃n,l.length=n:=⟨_,rfl⟩
 have htl:t.data.toList=l:=by rw [←ht]
 have hsz:t.size=n:=by rw [←ht,←hn];simp [ByteArray.size]
 rw [ht]
 have hemp:t.toList.isEmpty=false:=by
  rw [←decide_eq_emptyBytes]
  refine decide_eq_false (fun h=>?_)
  have:n=0:=by rw [←hsz,h];rfl
  omega
 have hcv:=Lib.run_convert_string_bytes (P:=Tryd.prog) w 9 35 5 t (u:=.string) Tryd.underlying9 Tryd.underlying35 Tryd.underlying5
 have hB:∀j,j < t.size→(Lib.bytesWorld w 5 t).cell? ⟨w.heap.size,j,none⟩=some (.int .u8 (t.data.toList.getD j 0).toNat):=fun j hj=>Lib.bytesWorld_cell w 5 t j hj
 have hbw:=Lib.bytesWorld_below w 5 t
 rw [htl] at hB
 obtain ⟨W1,hW1⟩:∃W1,W1=Lib.bytesWorld w 5 t:=⟨_,rfl⟩
 rw [←hW1] at hcv hB hbw
 rw [hsz] at hB
 have HBW:=hide hbw
 have HN:=hide hn
 have HP:=hide (show 16 ^ n≤281474976710656 from by
  have:=Nat.pow_le_pow_right (show 16 > 0 by decide) (show n≤12 by omega)
  have e:(16:Nat) ^ 12=281474976710656:=by decide
  omega)
 have hmv:IntKind.u64.wrap (IntKind.u64.wrap 18446744073709551616 - 1)=18446744073709551615:=by
  rw [IntKind.wrap_u64,IntKind.wrap_u64]
  decide
 clear hW1 ht htl hbw
 go_enter Tryd.func66,Tryd.ntmps66
 go_wp2_with fail
 go_loop [12,13,101] (fun vu vn vi=>∃(k acc:Nat) (a:Int),vu=.bool false∧vn=.int .u64 a∧vi=.int .i64 k∧k≤n∧Hid (a=(acc:Int)∧acc < 16 ^ k∧((l.take k).all isH=true→acc=numH (l.take k)))) (fun _ _ vi=>n - (intOf vi).toNat)
 case atStart=>exact ⟨0,0,0,rfl,rfl,rfl,by omega,hide ⟨rfl,by decide,fun _=>rfl⟩⟩
 case round =>
  obtain ⟨k,acc,a,rfl,rfl,rfl,hk,hh⟩:=hrel
  obtain ⟨ha,hacc,hdec⟩:=hh.out
  clear hh
  by_cases hkn:k < n
  ·obtain ⟨c,hc⟩:∃c,l[k]?=some c:=⟨_,List.getElem?_eq_getElem (by have:=HN.out;omega)⟩
   have hc1:=hB k hkn
   rw [List.getD_eq_getElem?_getD,hc,Option.getD_some] at hc1
   have hkp:16 ^ k*16≤281474976710656:=by
    have:=Nat.pow_le_pow_right (show 16 > 0 by decide) (show k+1≤n by omega)
    have:=HP.out
    rw [←Nat.pow_succ]
    omega
   have a0:0≤a:=by omega
   have a1:a < 17592186044416:=by omega
   have hc256:c.toNat < 256:=c.toNat_lt
   have htk:l.take (k+1)=l.take k++[c]:=by rw [List.take_add_one,hc,Option.toList_some]
   have hkn2:(k:Int) < (n:Int):=by omega
   obtain ⟨L,hL⟩:∃L,lowH c=L:=⟨_,rfl⟩
   obtain ⟨l0,l1,l2⟩:=low_all c
   rw [hL] at l0 l1 l2
   have HCC:=hide hc
   clear hB hc
   by_cases hdig:48≤c.toNat∧c.toNat≤57
   ·obtain ⟨hd0,hd1⟩:=hdig
    have HNX:=hide (show a*16+((c.toNat:Int) - 48)=((acc*16+(c.toNat - 48):Nat):Int)∧acc*16+(c.toNat - 48) < 16 ^ (k+1)∧((l.take (k+1)).all isH=true→acc*16+(c.toNat - 48)=numH (l.take (k+1))) from by
     refine ⟨by omega,by rw [Nat.pow_succ];omega,fun h=>?_⟩
     rw [htk,List.all_append,Bool.and_eq_true] at h
     have hcH:isH c=true:=by simpa using h.2
     rw [htk,numH_snoc,if_pos hcH,←hdec h.1]
     unfold valH
     rw [if_pos hd1])
    clear hdec htk hacc ha l2 hkp
    go_wp2_with fail
    refine ⟨⟨k+1,acc*16+(c.toNat - 48),a*16+((c.toNat:Int) - 48),rfl,(by first|rfl|(congr 1;omega)),(by first|rfl|(congr 1;omega)),by omega,HNX⟩,by simp [intOf];omega⟩
   ·have HLL:=hide hL
    have HNF0:=hide (fun (h:isH c=false)=>show l.all isH=false from by
     rw [List.all_eq_false]
     exact ⟨c,List.mem_of_getElem? HCC.out,by rw [h];decide⟩)
    clear hL
    by_cases h95:c.toNat=95
    ·have h95':(c.toNat:Int)=95:=by omega
     have hc95:c=95:=UInt8.toNat_inj.1 h95
     have hL1:L=127:=by rw [←HLL.out,hc95];decide
     subst hL1
     have HNF:=hide (HNF0.out (by rw [hc95];decide))
     clear hdec htk hacc ha l2 hkp l0 l1 hdig h95 hc95 HNF0
     go_wp2_with (go_at_call 77;refine (lower_95 _).mono ?_;rintro e w' ⟨rfl,rfl⟩)
     all_goals go_ret2
     all_goals exact ⟨⟨0,Nat.pow_pos (by decide),fun h=>absurd (h.symm.trans HNF.out) (by decide),.inr ⟨rfl,HNF.out,rfl⟩⟩,HBW.out⟩
    have h95':¬(c.toNat:Int)=95:=by omega
    by_cases hlr:97≤L∧L≤102
    ·obtain ⟨hr0,hr1⟩:=hlr
     have HNX:=hide (show a*16+(L - 97+10)=((acc*16+(L - 87).toNat:Nat):Int)∧acc*16+(L - 87).toNat < 16 ^ (k+1)∧((l.take (k+1)).all isH=true→acc*16+(L - 87).toNat=numH (l.take (k+1))) from by
      refine ⟨by omega,by rw [Nat.pow_succ];omega,fun h=>?_⟩
      rw [htk,List.all_append,Bool.and_eq_true] at h
      have hcH:isH c=true:=by simpa using h.2
      have hc9:=(l2 hcH hdig).2.2
      rw [htk,numH_snoc,if_pos hcH,←hdec h.1]
      unfold valH
      rw [if_neg (by omega)]
      omega)
     have hnd:¬(48≤(c.toNat:Int)∧(c.toNat:Int)≤57):=by omega
     have hnd2:(48:Int)≤(c.toNat:Int)→¬(c.toNat:Int)≤57:=by omega
     clear hdec htk hacc ha l2 hkp hdig HNF0 h95
     by_cases h48:(48:Int)≤(c.toNat:Int)
     ·have h57:=hnd2 h48
      clear hnd hnd2
      go_wp2_with (go_at_call 77;refine (lower_e HLL.out _).mono ?_;rintro e w' ⟨rfl,rfl⟩)
      refine ⟨⟨k+1,acc*16+(L - 87).toNat,a*16+(L - 97+10),rfl,(by first|rfl|(congr 1;omega)),(by first|rfl|(congr 1;omega)),by omega,HNX⟩,by simp [intOf];omega⟩
     ·clear hnd hnd2
      go_wp2_with (go_at_call 77;refine (lower_e HLL.out _).mono ?_;rintro e w' ⟨rfl,rfl⟩)
      refine ⟨⟨k+1,acc*16+(L - 87).toNat,a*16+(L - 97+10),rfl,(by first|rfl|(congr 1;omega)),(by first|rfl|(congr 1;omega)),by omega,HNX⟩,by simp [intOf];omega⟩
    ·have HNF:=hide (HNF0.out (by
      cases hcH:isH c with
      | false=>rfl
      | true=>have:=l2 hcH hdig;omega))
     by_cases hlo:L < 97
     ·have hlo':¬97≤L:=by omega
      clear hdec htk hacc ha l2 hkp hlr HNF0 h95
      go_wp2_with (go_at_call 77;refine (lower_e HLL.out _).mono ?_;rintro e w' ⟨rfl,rfl⟩)
      all_goals go_ret2
      all_goals exact ⟨⟨0,Nat.pow_pos (by decide),fun h=>absurd (h.symm.trans HNF.out) (by decide),.inr ⟨rfl,HNF.out,rfl⟩⟩,HBW.out⟩
     ·have hlo':97≤L:=by omega
      by_cases hhi:L≤122
      ·have h103:103≤L:=by omega
       clear hdec htk hacc ha l2 hkp hlr HNF0 h95
       go_wp2_with (go_at_call 77;refine (lower_e HLL.out _).mono ?_;rintro e w' ⟨rfl,rfl⟩)
       all_goals go_ret2
       all_goals exact ⟨⟨0,Nat.pow_pos (by decide),fun h=>absurd (h.symm.trans HNF.out) (by decide),.inr ⟨rfl,HNF.out,rfl⟩⟩,HBW.out⟩
      ·have h123:122 < L:=by omega
       clear hdec htk hacc ha l2 hkp hlr HNF0 h95
       go_wp2_with (go_at_call 77;refine (lower_e HLL.out _).mono ?_;rintro e w' ⟨rfl,rfl⟩)
       all_goals go_ret2
       all_goals exact ⟨⟨0,Nat.pow_pos (by decide),fun h=>absurd (h.symm.trans HNF.out) (by decide),.inr ⟨rfl,HNF.out,rfl⟩⟩,HBW.out⟩
  ·obtain rfl:k=n:=by omega
   have hkn2:¬((k:Int) < (k:Int)):=by omega
   clear hB
   go_wp2_with fail
   go_ret2
   rw [List.take_of_length_le (by rw [HN.out];exact Nat.le_refl _)] at hdec
   exact ⟨⟨acc,by rw [HN.out];exact hacc,hdec,.inl (by first|rfl|(rw [ha];rfl))⟩,HBW.out⟩
end Go.Proofs.YtpndfahgflgocaaDoor

namespace Go.Proofs.YtpndfahgflgocaaDoor
open Go.RowKit Go.Shelf Plain

def IAns (l:List UInt8) (e:Ending):Prop:=∃v:Int,-281474976710656≤v∧v≤281474976710656∧(l.all isH=true→v=numH l)∧(e=.returned (.tuple #[.int .i64 v,.nilIface])∨(v=0∧e=.returned (.tuple #[.int .i64 0,.iface 133 (.int .i64 2)])))
theorem neq_err21 (W:World):(binOp .neq 102 (.iface 133 (.int .i64 2)) (.iface 133 (.int .i64 1))).run Tryd.prog W=.ok (.bool true) W:=Lib.run_neq_iface_int W 2 1 Tryd.underlying102 (by kernel_rfl) Tryd.underlying133
theorem cut_tail (c:UInt8) (r:List UInt8):(⟨(c::r).toArray⟩:ByteArray).extract 1 (r.length+1)=⟨r.toArray⟩:=by
 apply ByteArray.ext
 rw [ByteArray.data_extract]
 apply Array.ext'
 show ((c::r).toArray.extract 1 (r.length+1)).toList=r
 rw [Array.toList_extract,List.extract_eq_take_drop]
 show ((c::r).drop 1).take (r.length+1 - 1)=r
 rw [List.drop_succ_cons,List.drop_zero,Nat.add_sub_cancel,List.take_length]
set_option maxHeartbeats 32000000 in
set_option maxRecDepth 100000 in
theorem PInt16_any {l:List UInt8} (hl:l.length≤12) (w:World):Calls Tryd.prog 59 #[.string ⟨l.toArray⟩,.int .i64 16,.int .i64 0] w (fun e w'=>IAns l e∧Below w.heap.size w w'):=by
 cases l with
 | nil =>
  refine (Tryd.internal_strconv_ParseInt_empty 16 0 w).mono ?_
  rintro e w' ⟨rfl,rfl⟩
  exact ⟨⟨0,by decide,by decide,fun _=>rfl,.inr ⟨rfl,rfl⟩⟩,below_self _⟩
 | cons c r =>
  have hsz:(⟨(c::r).toArray⟩:ByteArray).size=r.length+1:=by simp [ByteArray.size]
  have hrl:r.length≤11:=by simpa using hl
  have hct:=cut_tail c r
  have hb0:(⟨(c::r).toArray⟩:ByteArray)[0]'(by rw [hsz];omega)=c:=rfl
  by_cases h43:c.toNat=43
  ·have hcc:c=43:=UInt8.toNat_inj.1 h43
   have t43:((c.toNat:Int)==43)=true:=by rw [h43];rfl
   have HNX:=hide (show (c::r).all isH=false from by rw [hcc];rfl)
   have HCC:=hide hcc
   clear hcc h43
   go_enter Tryd.func59,Tryd.ntmps59
   go_wp2_with fail
   cases r with
   | nil =>
    refine (Tryd.internal_strconv_ParseUint_empty 16 0 w).mono ?_
    rintro e w2 ⟨rfl,rfl⟩
    have hq2:=neq_err21
    go_wp2_with fail
    all_goals go_ret2
    all_goals exact ⟨⟨0,by decide,by decide,fun h=>absurd (h.symm.trans HNX.out) (by decide),.inr ⟨rfl,rfl⟩⟩,below_self _⟩
   | cons d r =>
    refine (PUint16_any (l:=d::r) (by simp) (by simp only [List.length_cons] at hl ⊢;omega) w).mono ?_
    rintro e w2 ⟨⟨v,hv,hd,hc⟩,hbel⟩
    have hq2:=neq_err21
    have HBE:=hide hbel
    have hp16:16 ^ (d::r).length≤281474976710656:=by
     have h1:=Nat.pow_le_pow_right (show 16 > 0 by decide) (show (d::r).length≤12 by simp only [List.length_cons] at hl ⊢;omega)
     have e:(16:Nat) ^ 12=281474976710656:=by decide
     omega
    have hv2:v < 281474976710656:=by omega
    have HD:=hide hd
    obtain ⟨a,ha⟩:∃a:Int,(v:Int)=a:=⟨_,rfl⟩
    rw [ha] at hc
    have a0:0≤a:=by omega
    have a1:a < 281474976710656:=by omega
    have HA:=hide ha
    clear hbel hv hd hp16 hv2 ha
    rcases hc with rfl|⟨rfl,hnf,rfl⟩
    ·go_wp2_with fail
     all_goals go_ret2
     all_goals exact ⟨⟨a,by omega,by omega,fun h=>absurd (h.symm.trans HNX.out) (by decide),.inl (by first|rfl|(simp;done))⟩,HBE.out⟩
    ·have HNF:=hide hnf
     clear hnf
     go_wp2_with fail
     all_goals go_ret2
     all_goals exact ⟨⟨0,by decide,by decide,fun h=>absurd (h.symm.trans HNX.out) (by decide),.inr ⟨rfl,rfl⟩⟩,HBE.out⟩
  by_cases h45:c.toNat=45
  ·have hcc:c=45:=UInt8.toNat_inj.1 h45
   have t43:((c.toNat:Int)==43)=false:=by rw [h45];rfl
   have t45:((c.toNat:Int)==45)=true:=by rw [h45];rfl
   have HNX:=hide (show (c::r).all isH=false from by rw [hcc];rfl)
   have HCC:=hide hcc
   clear hcc h45
   go_enter Tryd.func59,Tryd.ntmps59
   go_wp2_with fail
   cases r with
   | nil =>
    refine (Tryd.internal_strconv_ParseUint_empty 16 0 w).mono ?_
    rintro e w2 ⟨rfl,rfl⟩
    have hq2:=neq_err21
    go_wp2_with fail
    all_goals go_ret2
    all_goals exact ⟨⟨0,by decide,by decide,fun h=>absurd (h.symm.trans HNX.out) (by decide),.inr ⟨rfl,rfl⟩⟩,below_self _⟩
   | cons d r =>
    refine (PUint16_any (l:=d::r) (by simp) (by simp only [List.length_cons] at hl ⊢;omega) w).mono ?_
    rintro e w2 ⟨⟨v,hv,hd,hc⟩,hbel⟩
    have hq2:=neq_err21
    have HBE:=hide hbel
    have hp16:16 ^ (d::r).length≤281474976710656:=by
     have h1:=Nat.pow_le_pow_right (show 16 > 0 by decide) (show (d::r).length≤12 by simp only [List.length_cons] at hl ⊢;omega)
     have e:(16:Nat) ^ 12=281474976710656:=by decide
     omega
    have hv2:v < 281474976710656:=by omega
    have HD:=hide hd
    obtain ⟨a,ha⟩:∃a:Int,(v:Int)=a:=⟨_,rfl⟩
    rw [ha] at hc
    have a0:0≤a:=by omega
    have a1:a < 281474976710656:=by omega
    have HA:=hide ha
    clear hbel hv hd hp16 hv2 ha
    rcases hc with rfl|⟨rfl,hnf,rfl⟩
    ·go_wp2_with fail
     all_goals go_ret2
     all_goals exact ⟨⟨-a,by omega,by omega,fun h=>absurd (h.symm.trans HNX.out) (by decide),.inl (by first|rfl|(simp;done))⟩,HBE.out⟩
    ·have HNF:=hide hnf
     clear hnf
     go_wp2_with fail
     all_goals go_ret2
     all_goals exact ⟨⟨0,by decide,by decide,fun h=>absurd (h.symm.trans HNX.out) (by decide),.inr ⟨rfl,rfl⟩⟩,HBE.out⟩
  have t43:((c.toNat:Int)==43)=false:=by rw [beq_eq_false_iff_ne];omega
  have t45:((c.toNat:Int)==45)=false:=by rw [beq_eq_false_iff_ne];omega
  go_enter Tryd.func59,Tryd.ntmps59
  go_wp2_with fail
  refine (PUint16_any (l:=c::r) (by simp) (by simp only [List.length_cons] at hl ⊢;omega) w).mono ?_
  rintro e w2 ⟨⟨v,hv,hd,hc⟩,hbel⟩
  have hq2:=neq_err21
  have HBE:=hide hbel
  have hp16:16 ^ (c::r).length≤281474976710656:=by
   have h1:=Nat.pow_le_pow_right (show 16 > 0 by decide) (show (c::r).length≤12 by simp only [List.length_cons] at hl ⊢;omega)
   have e:(16:Nat) ^ 12=281474976710656:=by decide
   omega
  have hv2:v < 281474976710656:=by omega
  have HD:=hide hd
  obtain ⟨a,ha⟩:∃a:Int,(v:Int)=a:=⟨_,rfl⟩
  rw [ha] at hc
  have a0:0≤a:=by omega
  have a1:a < 281474976710656:=by omega
  have HA:=hide ha
  clear hbel hv hd hp16 hv2 ha
  rcases hc with rfl|⟨rfl,hnf,rfl⟩
  ·go_wp2_with fail
   all_goals go_ret2
   all_goals exact ⟨⟨a,by omega,by omega,fun h=>by rw [←HD.out h];exact HA.out.symm,.inl (by first|rfl|(simp;done))⟩,HBE.out⟩
  ·have HNF:=hide hnf
   clear hnf
   go_wp2_with fail
   all_goals go_ret2
   all_goals exact ⟨⟨0,by decide,by decide,fun h=>absurd (h.symm.trans HNF.out) (by decide),.inr ⟨rfl,rfl⟩⟩,HBE.out⟩
end Go.Proofs.YtpndfahgflgocaaDoor

