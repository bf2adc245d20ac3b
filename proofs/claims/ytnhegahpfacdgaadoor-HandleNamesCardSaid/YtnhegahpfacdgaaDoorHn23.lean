import Derived.Shelf.Strings.Builder1
import Derived.Shelf.Strings.Builder2
import Derived.Shelf.Strings.Prefix
import Derived.Test.YtnhegahpfacdgaaDoorProg
import Derived.Test.YtnhegahpfacdgaaDoorHn1
import Derived.Test.YtnhegahpfacdgaaDoorHn3
import Derived.Test.YtnhegahpfacdgaaDoorHn17

namespace Go.Proofs
open Go.Shelf
def Tryd.lays166_ren:Go.Shelf.Ren:=⟨fun|166=>16|240=>33|276=>45|n=>n,fun|0=>0|3=>3|4=>4|5=>5|9=>9|20=>20|37=>39|70=>53|72=>55|75=>60|80=>64|164=>91|n=>n,fun|n=>n⟩
set_option maxRecDepth 100000 in
theorem Tryd.lays166 : Go.Proofs.Lays.n166 Tryd.prog Tryd.lays166_ren := {
 mixed:=by kernel_rfl
 f166:=by kernel_rfl
 f240:=by kernel_rfl
 f276:=by kernel_rfl
 t0:=by kernel_rfl
 a0:=fun w=>by kernel_rfl
 z0:=fun w=>by kernel_rfl
 v0:=fun w=>by kernel_rfl
 t3:=by kernel_rfl
 a3:=fun w=>by kernel_rfl
 z3:=fun w=>by kernel_rfl
 v3:=fun w=>by kernel_rfl
 t4:=by kernel_rfl
 a4:=fun w=>by kernel_rfl
 z4:=fun w=>by kernel_rfl
 v4:=fun w=>by kernel_rfl
 t9:=by kernel_rfl
 a9:=fun w=>by kernel_rfl
 z9:=fun w=>by kernel_rfl
 v9:=fun w=>by kernel_rfl
 t20:=by kernel_rfl
 a20:=fun w=>by kernel_rfl
 z20:=fun w=>by kernel_rfl
 v20:=fun w=>by kernel_rfl
 t37:=by kernel_rfl
 a37:=fun w=>by kernel_rfl
 z37:=fun w=>by kernel_rfl
 v37:=fun w=>by kernel_rfl
 t70:=by kernel_rfl
 a70:=fun w=>by kernel_rfl
 z70:=fun w=>by kernel_rfl
 v70:=fun w=>by kernel_rfl
 t72:=by kernel_rfl
 a72:=fun w=>by kernel_rfl
 z72:=fun w=>by kernel_rfl
 v72:=fun w=>by kernel_rfl
 t75:=by kernel_rfl
 a75:=fun w=>by kernel_rfl
 z75:=fun w=>by kernel_rfl
 v75:=fun w=>by kernel_rfl
 t164:=by kernel_rfl
 a164:=fun w=>by kernel_rfl
 z164:=fun w=>by kernel_rfl
 v164:=fun w=>by kernel_rfl}
theorem Tryd.Builder_Extra_166 : Builder.Extra Tryd.prog Tryd.lays166_ren := {
 sizeBuilder:=by kernel_rfl
 liesBuilder:=by kernel_rfl
 t5:=by kernel_rfl
 a5:=fun w=>by kernel_rfl
 z5:=fun w=>by kernel_rfl
 v5:=fun w=>by kernel_rfl
 infoByte:=by kernel_rfl
 cellsByte:=by kernel_rfl
 sizeByte:=by kernel_rfl
 neB5:=by decide}
open Go.RowKit in
theorem Tryd.Builder_WriteString (B b:Nat) (bs:List Value) (s:ByteArray) (w:World) (h:Lib.IsBuilder 55 5 B b bs w) (hlen:bs.length+s.size≤140737488355328) (hBw:B≤w.heap.size) :
  Calls Tryd.prog 16 #[.pointer (some ⟨b,0,none⟩),.string s] w fun e w'=>e=.returned (.tuple #[.int .i64 s.size,.nilIface])∧(Lib.BuilderAt 55 5 B b (.pointer (some ⟨b,0,none⟩)) (bs++Lib.strCells s) w'∧Below B w w'):=Any.Builder_WriteString Tryd.lays166 Tryd.Builder_Extra_166 B b bs s w h hlen hBw
end Go.Proofs

namespace Go.Proofs.YtnhegahpfacdgaaDoor
open Go.RowKit Plain

theorem dig_cut:∀n:Fin 16,(⟨#[48,49,50,51,52,53,54,55,56,57,97,98,99,100,101,102]⟩:ByteArray).extract n.1 (n.1+1)=⟨#[digH n.1]⟩:=by decide +kernel
set_option maxRecDepth 100000 in
theorem RDigit_any {n:Nat} (hn:n < 16) (w:World):Calls Tryd.prog 36 #[.int .i64 n] w (fun e w'=>e=.returned (.string ⟨[digH n].toArray⟩)∧w'=w):=by
 have hn1:(n:Int) < 16:=by omega
 have hd:=dig_cut ⟨n,hn⟩
 simp only at hd
 have HD:=hide hd
 clear hd
 go_enter Tryd.func36,Tryd.ntmps36
 go_wp2_with fail
 rw [HD.out]
 go_ret
 exact ⟨rfl,rfl⟩
set_option maxRecDepth 100000 in
set_option maxHeartbeats 1600000 in
theorem RHex_any {n k:Nat} (hn:n≤268435455) (hk:k≤7) (w:World):Calls Tryd.prog 19 #[.int .i64 n,.int .i64 k] w (fun e w'=>e=.returned (.string ⟨(hexN k n).toArray⟩)∧w'=w):=by
 have HN:=hide hn
 clear hn
 go_enter Tryd.func19,Tryd.ntmps19
 go_wp2_with fail
 go_loop [0,5,6] (fun v0 v5 v6=>∃(i m:Nat),i≤k∧m≤268435455∧v0=.int .i64 m∧v5=.string ⟨(hexN i n).toArray⟩∧v6=.int .i64 i∧Hid (m=n / 16 ^ i)) (fun _ _ v6=>k - (intOf v6).toNat)
 case atStart=>exact ⟨0,n,by omega,HN.out,rfl,rfl,rfl,hide (by simp)⟩
 case round =>
  obtain ⟨i,m,hi,hm,rfl,rfl,rfl,hmn⟩:=hrel
  by_cases hlt:i < k
  ·have hlt':(i:Int) < (k:Int):=by omega
   have hz:[digH (m % 16)]++hexN i n=hexN (i+1) n:=by rw [hexN_cons,←hmn.out];rfl
   have hl1:(hexN i n).length=i:=hexN_len i n
   have ad:=add_lists (P:=Tryd.prog) (x:=[digH (m % 16)]) (y:=hexN i n) (z:=hexN (i+1) n) (by simp only [List.length_singleton];omega) hz
   have HM:=hide (show m / 16=n / 16 ^ (i+1) from by rw [hmn.out,Nat.div_div_eq_div_mul,Nat.pow_succ])
   have hr:(m:Int).tmod 16=((m % 16:Nat):Int):=by rw [Int.tmod_eq_emod_of_nonneg (by omega)];omega
   have hq:(m:Int).tdiv 16=((m / 16:Nat):Int):=by rw [Int.tdiv_eq_ediv_of_nonneg (by omega)];omega
   have hr16:m % 16 < 16:=Nat.mod_lt _ (by decide)
   have hq2:m / 16≤268435455:=by omega
   generalize m % 16=r at *
   generalize m / 16=q at *
   clear hz hmn
   go_wp2_with (go_at_call 36;refine (RDigit_any hr16 _).mono ?_;rintro e w' ⟨rfl,rfl⟩)
   refine ⟨⟨i+1,q,by omega,hq2,rfl,rfl,by go_num,HM⟩,by simp [intOf];omega⟩
  ·obtain rfl:i=k:=by omega
   go_wp2_with fail
   go_ret
   exact ⟨rfl,rfl⟩
end Go.Proofs.YtnhegahpfacdgaaDoor

