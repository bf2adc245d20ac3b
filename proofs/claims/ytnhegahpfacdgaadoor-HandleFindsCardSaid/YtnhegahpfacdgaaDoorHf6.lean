import Derived.Test.YtnhegahpfacdgaaDoorHf5
import Derived.Lib.AtoiErrMem
import Derived.Lib.IfaceNeq
import Derived.Test.YtnhegahpfacdgaaDoorHf3

namespace Go.Proofs.YtnhegahpfacdgaaDoor
open Go.RowKit Go.Shelf Plain

def IAns (l:List UInt8) (e:Ending):Prop:=∃v:Int,-281474976710656≤v∧v≤281474976710656∧(l.all isH=true→v=numH l)∧(e=.returned (.tuple #[.int .i64 v,.nilIface])∨(v=0∧e=.returned (.tuple #[.int .i64 0,.iface 114 (.int .i64 2)])))
theorem neq_err21 (W:World):(binOp .neq 60 (.iface 114 (.int .i64 2)) (.iface 114 (.int .i64 1))).run Tryd.prog W=.ok (.bool true) W:=Lib.run_neq_iface_int W 2 1 Tryd.underlying60 (by kernel_rfl) Tryd.underlying114
theorem cut_tail (c:UInt8) (r:List UInt8):(⟨(c::r).toArray⟩:ByteArray).extract 1 (r.length+1)=⟨r.toArray⟩:=by
 apply ByteArray.ext
 rw [ByteArray.data_extract]
 apply Array.ext'
 show ((c::r).toArray.extract 1 (r.length+1)).toList=r
 rw [Array.toList_extract,List.extract_eq_take_drop]
 show ((c::r).drop 1).take (r.length+1 - 1)=r
 rw [List.drop_succ_cons,List.drop_zero,Nat.add_sub_cancel,List.take_length]
set_option maxHeartbeats 32000000 in
set_option maxRecDepth 100000 in
theorem PInt16_any {l:List UInt8} (hl:l.length≤12) (w:World):Calls Tryd.prog 51 #[.string ⟨l.toArray⟩,.int .i64 16,.int .i64 0] w (fun e w'=>IAns l e∧Below w.heap.size w w'):=by
 cases l with
 | nil =>
  refine (Tryd.internal_strconv_ParseInt_empty 16 0 w).mono ?_
  rintro e w' ⟨rfl,rfl⟩
  exact ⟨⟨0,by decide,by decide,fun _=>rfl,.inr ⟨rfl,rfl⟩⟩,below_self _⟩
 | cons c r =>
  have hsz:(⟨(c::r).toArray⟩:ByteArray).size=r.length+1:=by simp [ByteArray.size]
  have hrl:r.length≤11:=by simpa using hl
  have hct:=cut_tail c r
  have hb0:(⟨(c::r).toArray⟩:ByteArray)[0]'(by rw [hsz];omega)=c:=rfl
  by_cases h43:c.toNat=43
  ·have hcc:c=43:=UInt8.toNat_inj.1 h43
   have t43:((c.toNat:Int)==43)=true:=by rw [h43];rfl
   have HNX:=hide (show (c::r).all isH=false from by rw [hcc];rfl)
   have HCC:=hide hcc
   clear hcc h43
   go_enter Tryd.func51,Tryd.ntmps51
   go_wp2_with fail
   cases r with
   | nil =>
    refine (Tryd.internal_strconv_ParseUint_empty 16 0 w).mono ?_
    rintro e w2 ⟨rfl,rfl⟩
    have hq2:=neq_err21
    go_wp2_with fail
    all_goals go_ret2
    all_goals exact ⟨⟨0,by decide,by decide,fun h=>absurd (h.symm.trans HNX.out) (by decide),.inr ⟨rfl,rfl⟩⟩,below_self _⟩
   | cons d r =>
    refine (PUint16_any (l:=d::r) (by simp) (by simp only [List.length_cons] at hl ⊢;omega) w).mono ?_
    rintro e w2 ⟨⟨v,hv,hd,hc⟩,hbel⟩
    have hq2:=neq_err21
    have HBE:=hide hbel
    have hp16:16 ^ (d::r).length≤281474976710656:=by
     have h1:=Nat.pow_le_pow_right (show 16 > 0 by decide) (show (d::r).length≤12 by simp only [List.length_cons] at hl ⊢;omega)
     have e:(16:Nat) ^ 12=281474976710656:=by decide
     omega
    have hv2:v < 281474976710656:=by omega
    have HD:=hide hd
    obtain ⟨a,ha⟩:∃a:Int,(v:Int)=a:=⟨_,rfl⟩
    rw [ha] at hc
    have a0:0≤a:=by omega
    have a1:a < 281474976710656:=by omega
    have HA:=hide ha
    clear hbel hv hd hp16 hv2 ha
    rcases hc with rfl|⟨rfl,hnf,rfl⟩
    ·go_wp2_with fail
     all_goals go_ret2
     all_goals exact ⟨⟨a,by omega,by omega,fun h=>absurd (h.symm.trans HNX.out) (by decide),.inl (by first|rfl|(simp;done))⟩,HBE.out⟩
    ·have HNF:=hide hnf
     clear hnf
     go_wp2_with fail
     all_goals go_ret2
     all_goals exact ⟨⟨0,by decide,by decide,fun h=>absurd (h.symm.trans HNX.out) (by decide),.inr ⟨rfl,rfl⟩⟩,HBE.out⟩
  by_cases h45:c.toNat=45
  ·have hcc:c=45:=UInt8.toNat_inj.1 h45
   have t43:((c.toNat:Int)==43)=false:=by rw [h45];rfl
   have t45:((c.toNat:Int)==45)=true:=by rw [h45];rfl
   have HNX:=hide (show (c::r).all isH=false from by rw [hcc];rfl)
   have HCC:=hide hcc
   clear hcc h45
   go_enter Tryd.func51,Tryd.ntmps51
   go_wp2_with fail
   cases r with
   | nil =>
    refine (Tryd.internal_strconv_ParseUint_empty 16 0 w).mono ?_
    rintro e w2 ⟨rfl,rfl⟩
    have hq2:=neq_err21
    go_wp2_with fail
    all_goals go_ret2
    all_goals exact ⟨⟨0,by decide,by decide,fun h=>absurd (h.symm.trans HNX.out) (by decide),.inr ⟨rfl,rfl⟩⟩,below_self _⟩
   | cons d r =>
    refine (PUint16_any (l:=d::r) (by simp) (by simp only [List.length_cons] at hl ⊢;omega) w).mono ?_
    rintro e w2 ⟨⟨v,hv,hd,hc⟩,hbel⟩
    have hq2:=neq_err21
    have HBE:=hide hbel
    have hp16:16 ^ (d::r).length≤281474976710656:=by
     have h1:=Nat.pow_le_pow_right (show 16 > 0 by decide) (show (d::r).length≤12 by simp only [List.length_cons] at hl ⊢;omega)
     have e:(16:Nat) ^ 12=281474976710656:=by decide
     omega
    have hv2:v < 281474976710656:=by omega
    have HD:=hide hd
    obtain ⟨a,ha⟩:∃a:Int,(v:Int)=a:=⟨_,rfl⟩
    rw [ha] at hc
    have a0:0≤a:=by omega
    have a1:a < 281474976710656:=by omega
    have HA:=hide ha
    clear hbel hv hd hp16 hv2 ha
    rcases hc with rfl|⟨rfl,hnf,rfl⟩
    ·go_wp2_with fail
     all_goals go_ret2
     all_goals exact ⟨⟨-a,by omega,by omega,fun h=>absurd (h.symm.trans HNX.out) (by decide),.inl (by first|rfl|(simp;done))⟩,HBE.out⟩
    ·have HNF:=hide hnf
     clear hnf
     go_wp2_with fail
     all_goals go_ret2
     all_goals exact ⟨⟨0,by decide,by decide,fun h=>absurd (h.symm.trans HNX.out) (by decide),.inr ⟨rfl,rfl⟩⟩,HBE.out⟩
  have t43:((c.toNat:Int)==43)=false:=by rw [beq_eq_false_iff_ne];omega
  have t45:((c.toNat:Int)==45)=false:=by rw [beq_eq_false_iff_ne];omega
  go_enter Tryd.func51,Tryd.ntmps51
  go_wp2_with fail
  refine (PUint16_any (l:=c::r) (by simp) (by simp only [List.length_cons] at hl ⊢;omega) w).mono ?_
  rintro e w2 ⟨⟨v,hv,hd,hc⟩,hbel⟩
  have hq2:=neq_err21
  have HBE:=hide hbel
  have hp16:16 ^ (c::r).length≤281474976710656:=by
   have h1:=Nat.pow_le_pow_right (show 16 > 0 by decide) (show (c::r).length≤12 by simp only [List.length_cons] at hl ⊢;omega)
   have e:(16:Nat) ^ 12=281474976710656:=by decide
   omega
  have hv2:v < 281474976710656:=by omega
  have HD:=hide hd
  obtain ⟨a,ha⟩:∃a:Int,(v:Int)=a:=⟨_,rfl⟩
  rw [ha] at hc
  have a0:0≤a:=by omega
  have a1:a < 281474976710656:=by omega
  have HA:=hide ha
  clear hbel hv hd hp16 hv2 ha
  rcases hc with rfl|⟨rfl,hnf,rfl⟩
  ·go_wp2_with fail
   all_goals go_ret2
   all_goals exact ⟨⟨a,by omega,by omega,fun h=>by rw [←HD.out h];exact HA.out.symm,.inl (by first|rfl|(simp;done))⟩,HBE.out⟩
  ·have HNF:=hide hnf
   clear hnf
   go_wp2_with fail
   all_goals go_ret2
   all_goals exact ⟨⟨0,by decide,by decide,fun h=>absurd (h.symm.trans HNF.out) (by decide),.inr ⟨rfl,rfl⟩⟩,HBE.out⟩
end Go.Proofs.YtnhegahpfacdgaaDoor

namespace Go.Proofs.YtnhegahpfacdgaaDoor
open Go.RowKit Go.Shelf Plain

def EvW (w:World):Prop:=∃ev,w.cell? ⟨2,0,none⟩=some ev∧(ev=.nilIface∨∃te pe,ev=.iface te pe)
theorem EvW.lt {w:World} (h:EvW w):2 < w.heap.size:=by
 obtain ⟨ev,h,-⟩:=h
 exact block_lt_of_cell h
theorem EvW.below {w w':World} (h:EvW w) (hb:Below w.heap.size w w'):EvW w':=by
 have hl:=h.lt
 obtain ⟨ev,h1,h2⟩:=h
 exact ⟨ev,(hb.cell (p:=⟨2,0,none⟩) hl).trans h1,h2⟩
set_option maxHeartbeats 4000000 in
set_option maxRecDepth 100000 in
theorem SInt16_any {l:List UInt8} (hl:l.length≤12) (w:World) (hev:EvW w):Calls Tryd.prog 37 #[.string ⟨l.toArray⟩,.int .i64 16,.int .i64 0] w (fun e w'=>∃(v:Int) (x:Value),-281474976710656≤v∧v≤281474976710656∧(l.all isH=true→v=numH l)∧e=.returned (.tuple #[.int .i64 v,x])∧Below w.heap.size w w'):=by
 have HEV:=hide hev
 have hls:(⟨l.toArray⟩:ByteArray).size≤281474976710656:=by simp [ByteArray.size];omega
 have HLS:=hide hls
 clear hev hls
 go_enter Tryd.func37,Tryd.ntmps37
 go_wp2_with fail
 refine (PInt16_any hl w).mono ?_
 rintro e w2 ⟨⟨v,h0,h1,hd,hc⟩,hbel⟩
 have HD:=hide hd
 have HB:=hide hbel
 obtain ⟨ev,q,hev⟩:=HEV.out.below hbel
 have HQ:=hide q
 have HE:=hide hev
 clear hd hbel q hev
 rcases hc with rfl|⟨rfl,rfl⟩
 ·go_wp2_with fail
  go_ret2
  exact ⟨v,_,h0,h1,HD.out,rfl,HB.out⟩
 ·go_wp2_with fail
  refine (Tryd.strconv_toError_syntax ⟨#[80,97,114,115,101,73,110,116]⟩ ⟨l.toArray⟩ 16 0 ev w2 HLS.out HQ.out HE.out).mono ?_
  rintro e w3 ⟨N,rfl,-,-,hbel⟩
  have HB3:=hide (HB.out.trans (hbel.mono HB.out.size))
  clear hbel
  go_wp2_with fail
  go_ret2
  exact ⟨0,_,h0,h1,HD.out,rfl,HB3.out⟩
set_option maxHeartbeats 4000000 in
set_option maxRecDepth 100000 in
theorem HGet_any {l:List UInt8} (hl:l.length≤12) (w:World) (hev:EvW w):Calls Tryd.prog 20 #[.string ⟨l.toArray⟩] w (fun e w'=>∃v:Int,-281474976710656≤v∧v≤281474976710656∧(l.all isH=true→v=numH l)∧e=.returned (.int .i64 v)∧Below w.heap.size w w'):=by
 have HEV:=hide hev
 clear hev
 go_enter Tryd.func20,Tryd.ntmps20
 go_wp2_with fail
 refine (SInt16_any hl w HEV.out).mono ?_
 rintro e w2 ⟨v,x,h0,h1,hd,rfl,hbel⟩
 have HD:=hide hd
 have HB:=hide hbel
 clear hd hbel
 go_wp2_with fail
 go_ret
 exact ⟨v,h0,h1,HD.out,rfl,HB.out⟩
end Go.Proofs.YtnhegahpfacdgaaDoor

