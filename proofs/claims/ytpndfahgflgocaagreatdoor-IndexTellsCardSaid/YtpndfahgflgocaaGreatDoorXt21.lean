import Derived.Test.YtpndfahgflgocaaGreatDoorXt19
import Derived.Test.YtpndfahgflgocaaGreatDoorXt1
import Derived.Test.YtpndfahgflgocaaGreatDoorXt11
import Derived.Test.YtpndfahgflgocaaGreatDoorXt5
import Derived.Test.YtpndfahgflgocaaGreatDoorXt6
import Derived.Test.YtpndfahgflgocaaGreatDoorXt3
import Derived.Test.YtpndfahgflgocaaGreatDoorXt17
import Derived.Test.YtpndfahgflgocaaGreatDoorXt13
import Derived.Deep.Cut
import Derived.Deep.CutRange

namespace Go.Proofs.YtpndfahgflgocaaGreatDoor
open Go.RowKit Plain

theorem dig_cut:∀n:Fin 16,(⟨#[48,49,50,51,52,53,54,55,56,57,97,98,99,100,101,102]⟩:ByteArray).extract n.1 (n.1+1)=⟨#[digH n.1]⟩:=by decide +kernel
set_option maxRecDepth 100000 in
theorem RDigit_any {n:Nat} (hn:n < 16) (w:World):Calls Tryz.prog 68 #[.int .i64 n] w (fun e w'=>e=.returned (.string ⟨[digH n].toArray⟩)∧w'=w):=by
 have hn1:(n:Int) < 16:=by omega
 have hd:=dig_cut ⟨n,hn⟩
 simp only at hd
 have HD:=hide hd
 clear hd
 go_enter Tryz.func68,Tryz.ntmps68
 go_wp2_with fail
 rw [HD.out]
 go_ret
 exact ⟨rfl,rfl⟩
set_option maxRecDepth 100000 in
set_option maxHeartbeats 1600000 in
theorem RHex_any {n k:Nat} (hn:n≤268435455) (hk:k≤7) (w:World):Calls Tryz.prog 69 #[.int .i64 n,.int .i64 k] w (fun e w'=>e=.returned (.string ⟨(hexN k n).toArray⟩)∧w'=w):=by
 have HN:=hide hn
 clear hn
 go_enter Tryz.func69,Tryz.ntmps69
 go_wp2_with fail
 go_loop [0,5,6] (fun v0 v5 v6=>∃(i m:Nat),i≤k∧m≤268435455∧v0=.int .i64 m∧v5=.string ⟨(hexN i n).toArray⟩∧v6=.int .i64 i∧Hid (m=n / 16 ^ i)) (fun _ _ v6=>k - (intOf v6).toNat)
 case atStart=>exact ⟨0,n,by omega,HN.out,rfl,rfl,rfl,hide (by simp)⟩
 case round =>
  obtain ⟨i,m,hi,hm,rfl,rfl,rfl,hmn⟩:=hrel
  by_cases hlt:i < k
  ·have hlt':(i:Int) < (k:Int):=by omega
   have hz:[digH (m % 16)]++hexN i n=hexN (i+1) n:=by rw [hexN_cons,←hmn.out];rfl
   have hl1:(hexN i n).length=i:=hexN_len i n
   have ad:=add_lists (P:=Tryz.prog) (x:=[digH (m % 16)]) (y:=hexN i n) (z:=hexN (i+1) n) (by simp only [List.length_singleton];omega) hz
   have HM:=hide (show m / 16=n / 16 ^ (i+1) from by rw [hmn.out,Nat.div_div_eq_div_mul,Nat.pow_succ])
   have hr:(m:Int).tmod 16=((m % 16:Nat):Int):=by rw [Int.tmod_eq_emod_of_nonneg (by omega)];omega
   have hq:(m:Int).tdiv 16=((m / 16:Nat):Int):=by rw [Int.tdiv_eq_ediv_of_nonneg (by omega)];omega
   have hr16:m % 16 < 16:=Nat.mod_lt _ (by decide)
   have hq2:m / 16≤268435455:=by omega
   generalize m % 16=r at *
   generalize m / 16=q at *
   clear hz hmn
   go_wp2_with (go_at_call 68;refine (RDigit_any hr16 _).mono ?_;rintro e w' ⟨rfl,rfl⟩)
   refine ⟨⟨i+1,q,by omega,hq2,rfl,rfl,by go_num,HM⟩,by simp [intOf];omega⟩
  ·obtain rfl:i=k:=by omega
   go_wp2_with fail
   go_ret
   exact ⟨rfl,rfl⟩
end Go.Proofs.YtpndfahgflgocaaGreatDoor

namespace Go.Proofs.YtpndfahgflgocaaGreatDoor
open Go.RowKit Plain

def foundH (a:Nat) (c:UInt8) (d:Nat):Nat:=if isH c=true∧valH c < d then a*16+valH c else a
theorem found_zero (a:Nat) (c:UInt8):foundH a c 0=a:=by unfold foundH;rw [if_neg (by omega)]
theorem found_full (a:Nat) (c:UInt8):foundH a c 16=if isH c=true then a*16+valH c else a:=by
 unfold foundH
 by_cases h:isH c=true
 ·rw [if_pos ⟨h,val_lt h⟩,if_pos h]
 ·rw [if_neg (fun e=>h e.1),if_neg h]
theorem found_yes {a d:Nat} {c:UInt8} (hd:d < 16) (h:c=digH d):foundH a c d=a∧foundH a c (d+1)=a*16+d:=by
 subst h
 have h1:=dig_is hd
 have h2:=dig_val hd
 unfold foundH
 rw [h2,if_neg (by omega),if_pos ⟨h1,by omega⟩]
 exact ⟨rfl,rfl⟩
theorem found_no {a d:Nat} {c:UInt8} (h:c≠digH d):foundH a c (d+1)=foundH a c d:=by
 unfold foundH
 by_cases h1:isH c=true
 ·have h2:valH c≠d:=fun e=>h (by rw [←e];exact (val_dig h1).symm)
  have e:(isH c=true∧valH c < d+1)↔(isH c=true∧valH c < d):=⟨fun e=>⟨h1,by have:=e.2;omega⟩,fun e=>⟨h1,by have:=e.2;omega⟩⟩
  simp only [e]
 ·rw [if_neg (fun e=>h1 e.1),if_neg (fun e=>h1 e.1)]
theorem found_le (a:Nat) (c:UInt8) (d:Nat):foundH a c d≤a*16+15:=by
 unfold foundH
 split
 ·rename_i h;have:=val_lt h.1;omega
 ·omega
theorem cut_one {l:List UInt8} {i:Nat} {c:UInt8} (h:l[i]?=some c):(⟨l.toArray⟩:ByteArray).extract i (i+1)=⟨[c].toArray⟩:=by
 apply ByteArray.ext
 rw [ByteArray.data_extract]
 apply Array.ext'
 show (l.toArray.extract i (i+1)).toList=[c]
 rw [Array.toList_extract,List.extract_eq_take_drop]
 show (l.drop i).take (i+1 - i)=[c]
 have hi:=(List.getElem?_eq_some_iff.1 h).1
 rw [List.drop_eq_getElem_cons hi,show i+1 - i=0+1 from by omega,List.take_succ_cons,List.take_zero]
 rw [List.getElem?_eq_getElem hi] at h
 rw [Option.some.inj h]
theorem numH_take {l:List UInt8} {i:Nat} {c:UInt8} (h:l[i]?=some c):numH (l.take (i+1))=foundH (numH (l.take i)) c 16:=by
 rw [List.take_add_one,h,Option.toList_some,numH_snoc,found_full]
set_option maxRecDepth 100000 in
set_option maxHeartbeats 3200000 in
theorem RNumber_any {s:List UInt8} (hs:s.length≤7) (w:World):Calls Tryz.prog 50 #[.string ⟨s.toArray⟩] w (fun e w'=>e=.returned (.int .i64 (numH s))∧Below w.heap.size w w'):=by
 have HS:=hide hs
 obtain ⟨n,hn⟩:∃n,s.length=n:=⟨_,rfl⟩
 have hsz:(⟨s.toArray⟩:ByteArray).size=n:=by rw [←hn];simp [ByteArray.size]
 rw [hn] at hs
 have HN:=hide hn
 clear hn
 go_enter Tryz.func50,Tryz.ntmps50
 go_wp2_with fail
 go_loopw [3,4] (fun v3 v4 wr=>∃i:Nat,i≤n∧v3=.int .i64 (numH (s.take i))∧v4=.int .i64 i∧Below w.heap.size w wr) (fun _ v4 _=>n - (intOf v4).toNat)
 case atStart=>exact ⟨0,by omega,rfl,rfl,below_self _⟩
 case round =>
  obtain ⟨i,hi,rfl,rfl,hbr⟩:=hrel
  have HB:=hide hbr
  have hbs:=hbr.size
  clear hbr
  by_cases hlt:i < n
  ·obtain ⟨c,hc⟩:∃c,s[i]?=some c:=⟨_,List.getElem?_eq_getElem (by have:=HN.out;omega)⟩
   have HCT:=hide (cut_one hc)
   have HTK:=hide (numH_take hc)
   have hal:numH (s.take i)≤16777215:=by
    have h1:=numH_lt i (s.take i) (by rw [List.length_take];have:=HN.out;omega)
    have h2:16 ^ i≤16 ^ 6:=Nat.pow_le_pow_right (by decide) (by omega)
    omega
   obtain ⟨a,ha⟩:∃a,numH (s.take i)=a:=⟨_,rfl⟩
   rw [ha] at HTK hal ⊢
   have hin:(i:Int) < (n:Int):=by omega
   have hw1:IntKind.i64.wrap ((i:Int)+1)=(i:Int)+1:=IntWalk.i64_in _ (by omega)
   have hbi1:0≤(i:Int)+1∧(i:Int)+1≤(n:Int):=by omega
   have hbi2:(i:Int)≤(i:Int)+1:=by omega
   have htn:((i:Int)+1).toNat=i+1:=by omega
   clear hc ha
   go_wp2_with fail
   go_loopw [3,5] (fun v3 v5 wr=>∃d:Nat,d≤16∧v3=.int .i64 (foundH a c d)∧v5=.int .i64 d∧Below w.heap.size w wr) (fun _ v5 _=>16 - (intOf v5).toNat)
   case atStart=>exact ⟨0,by omega,by rw [found_zero],rfl,HB.out⟩
   case round =>
    obtain ⟨d,hd,rfl,rfl,hbr⟩:=hrel
    have HB:=hide hbr
    have hbs:=hbr.size
    clear hbr
    have hfl:=found_le a c d
    by_cases hlt2:d < 16
    ·have hd16:=hlt2
     have hin2:(d:Int) < 16:=by omega
     obtain ⟨r,hr⟩:∃r,decide (c=digH d)=r:=⟨_,rfl⟩
     have heq:(c==digH d)=r:=by rw [←hr];rfl
     have HR:=hide hr
     clear hr
     go_wp2_with fail
     refine wp_region_planN (fun w'=>Below wr.heap.size wr w') [(0,true),(1,true),(2,true),(3,true),(4,true),(5,true),(6,false),(7,true)] (by kernel_rfl) (by kernel_rfl) (by kernel_rfl) (by kernel_rfl) rfl (fun _ _ _ _ _ h=>h) (below_drew (below_self wr)) (fun hHeld=>?_)
     simp only [planOps,List.filterMap_cons,List.filterMap_nil,List.getElem?_toArray,List.getElem?_cons_succ,List.getElem?_cons_zero,Option.map_some]
     iterate 4
      refine wpPlan_take (v:=?_) (by kernel_rfl) (fun wS hSw=>?_) ?_
      rotate_left
      ·(try dsimp only at hSw);go_simp;(try with_reducible rfl)
      (try simp only [Act.put,pu1,pu2,pu3])
     refine wpPlan_take (v:=?_) (by kernel_rfl) (fun wS hSw=>?_) ?_
     rotate_left
     ·(try dsimp only at hSw);go_simp;simp only [HCT.out];(try with_reducible rfl)
     (try simp only [Act.put,pu1,pu2,pu3])
     refine wpPlan_take (v:=?_) (by kernel_rfl) (fun wS hSw=>?_) ?_
     rotate_left
     ·(try dsimp only at hSw);go_simp;(try with_reducible rfl)
     (try simp only [Act.put,pu1,pu2,pu3])
     refine wpPlan_call (by kernel_rfl) (fun K hK=>?_)
     have hOld:=hide hHeld
     clear hHeld
     go_simp
     go_at_call 68
     refine (RDigit_any (n:=d) hd16 _).mono ?_
     rintro e w' ⟨rfl,rfl⟩
     refine hK.out _ _ (hOld.out) (fun hHeld=>?_)
     clear hK K
     (try simp only [Act.put,pu1,pu2,pu3])
     refine wpPlan_take (v:=?_) (by kernel_rfl) (fun wS hSw=>?_) ?_
     rotate_left
     ·(try dsimp only at hSw);go_simp;(try simp only [heq]);(try with_reducible rfl)
     (try simp only [Act.put,pu1,pu2,pu3])
     refine wpPlan_end ?_
     generalize wr.drew=wH at hHeld ⊢
     have HBH:=hide (HB.out.trans (hHeld.mono hbs))
     clear hHeld
     cases r with
     | true =>
      obtain ⟨e1,e2⟩:=found_yes (a:=a) hd16 (of_decide_eq_true HR.out)
      have HE2:=hide e2
      rw [e1] at hfl ⊢
      clear e1 e2 heq
      go_wp2_with fail
      go_roundw
      case rel=>exact ⟨d+1,by omega,by rw [HE2.out];rfl,by go_num,HBH.out⟩
      case measure=>simp [intOf];omega
     | false =>
      have HE2:=hide (found_no (a:=a) (of_decide_eq_false HR.out))
      clear heq
      go_wp2_with fail
      go_roundw
      case rel=>exact ⟨d+1,by omega,by rw [HE2.out],by go_num,HBH.out⟩
      case measure=>simp [intOf];omega
    ·obtain rfl:d=16:=by omega
     have HFF:=hide (show foundH a c 16=numH (s.take (i+1)) from HTK.out.symm)
     have hd16:¬((16:Int) < 16):=by omega
     go_wp2_with fail
     go_roundw
     case rel=>exact ⟨i+1,by omega,by rw [HFF.out],by go_num,HB.out⟩
     case measure=>simp [intOf];omega
  ·obtain rfl:i=n:=by omega
   have hnn:¬((i:Int) < (i:Int)):=by omega
   have HFF:=hide (show numH (s.take i)=numH s from by rw [List.take_of_length_le (by rw [HN.out];exact Nat.le_refl _)])
   go_wp2_with fail
   go_ret
   exact ⟨by rw [HFF.out];rfl,HB.out⟩
end Go.Proofs.YtpndfahgflgocaaGreatDoor

namespace Go.Proofs.YtpndfahgflgocaaGreatDoor
open Go.RowKit Plain

def oriC (o:OriV):List Value:=[.int .i64 o.1,.int .i64 o.2.1,.int .i64 o.2.2]
theorem ori_agg:∀w,(isAgg 47).run Tryz.prog w=.ok true w:=fun w=>by kernel_rfl
theorem ori_size:∀w,(Go.sizeOf 47).run Tryz.prog w=.ok 3 w:=fun w=>by kernel_rfl
theorem oriC_one (o:OriV):∀v∈oriC o,v.oneCell'=true:=by simp [oriC,Value.oneCell']
set_option maxRecDepth 100000 in
set_option maxHeartbeats 3200000 in
theorem RName_any (o:OriV) (w:World):Calls Tryz.prog 51 #[.agg (oriC o).toArray] w (fun e w'=>e=.returned (.tuple #[.string ⟨(nameH o).toArray⟩,.bool (mayH o)])∧Below w.heap.size w w'):=by
 obtain ⟨a,b,c⟩:=o
 obtain ⟨W1,hW1⟩:∃W1,w.alloc (.cells (oriC (a,b,c)).toArray 47)=W1:=⟨_,rfl⟩
 obtain ⟨r0,hb1,hs1⟩:=rowA1 w _ _ hW1
 have hW1':w.alloc (.cells #[.int .i64 a,.int .i64 b,.int .i64 c] 47)=W1:=hW1
 have HB:=hide hb1
 have hs1':w.heap.size+1≤W1.heap.size:=by omega
 have q0:W1.cell? ⟨w.heap.size,0,none⟩=some (.int .i64 a):=r0.cell 0
 have q1:W1.cell? ⟨w.heap.size,1,none⟩=some (.int .i64 b):=r0.cell 1
 have q2:W1.cell? ⟨w.heap.size,2,none⟩=some (.int .i64 c):=r0.cell 2
 unfold oriC
 clear hW1 r0 hb1 hs1
 go_enter Tryz.func51,Tryz.ntmps51
 by_cases h1:a < 1
 ·have hm:mayH (a,b,c)=false:=decide_eq_false (by show ¬(1≤a∧a≤15∧0≤b∧b≤65535∧0≤c∧c≤268435455);omega)
  have hnm:nameH (a,b,c)=[]:=by unfold nameH;rw [hm];rfl
  have HM:=hide hm
  have HNM:=hide hnm
  clear hm hnm
  go_wp2_with fail
  go_ret2
  exact ⟨by rw [HM.out,HNM.out];rfl,HB.out⟩
 by_cases h2:15 < a
 ·have hm:mayH (a,b,c)=false:=decide_eq_false (by show ¬(1≤a∧a≤15∧0≤b∧b≤65535∧0≤c∧c≤268435455);omega)
  have hnm:nameH (a,b,c)=[]:=by unfold nameH;rw [hm];rfl
  have HM:=hide hm
  have HNM:=hide hnm
  clear hm hnm
  go_wp2_with fail
  go_ret2
  exact ⟨by rw [HM.out,HNM.out];rfl,HB.out⟩
 by_cases h3:b < 0
 ·have hm:mayH (a,b,c)=false:=decide_eq_false (by show ¬(1≤a∧a≤15∧0≤b∧b≤65535∧0≤c∧c≤268435455);omega)
  have hnm:nameH (a,b,c)=[]:=by unfold nameH;rw [hm];rfl
  have HM:=hide hm
  have HNM:=hide hnm
  clear hm hnm
  go_wp2_with fail
  go_ret2
  exact ⟨by rw [HM.out,HNM.out];rfl,HB.out⟩
 by_cases h4:65535 < b
 ·have hm:mayH (a,b,c)=false:=decide_eq_false (by show ¬(1≤a∧a≤15∧0≤b∧b≤65535∧0≤c∧c≤268435455);omega)
  have hnm:nameH (a,b,c)=[]:=by unfold nameH;rw [hm];rfl
  have HM:=hide hm
  have HNM:=hide hnm
  clear hm hnm
  go_wp2_with fail
  go_ret2
  exact ⟨by rw [HM.out,HNM.out];rfl,HB.out⟩
 by_cases h5:c < 0
 ·have hm:mayH (a,b,c)=false:=decide_eq_false (by show ¬(1≤a∧a≤15∧0≤b∧b≤65535∧0≤c∧c≤268435455);omega)
  have hnm:nameH (a,b,c)=[]:=by unfold nameH;rw [hm];rfl
  have HM:=hide hm
  have HNM:=hide hnm
  clear hm hnm
  go_wp2_with fail
  go_ret2
  exact ⟨by rw [HM.out,HNM.out];rfl,HB.out⟩
 by_cases h6:268435455 < c
 ·have hm:mayH (a,b,c)=false:=decide_eq_false (by show ¬(1≤a∧a≤15∧0≤b∧b≤65535∧0≤c∧c≤268435455);omega)
  have hnm:nameH (a,b,c)=[]:=by unfold nameH;rw [hm];rfl
  have HM:=hide hm
  have HNM:=hide hnm
  clear hm hnm
  go_wp2_with fail
  go_ret2
  exact ⟨by rw [HM.out,HNM.out];rfl,HB.out⟩
 obtain ⟨a,rfl⟩:=Int.eq_ofNat_of_zero_le (show 0≤a by omega)
 obtain ⟨b,rfl⟩:=Int.eq_ofNat_of_zero_le (show 0≤b by omega)
 obtain ⟨c,rfl⟩:=Int.eq_ofNat_of_zero_le (show 0≤c by omega)
 have hm:mayH ((a:Int),(b:Int),(c:Int))=true:=decide_eq_true (by show (1≤(a:Int)∧(a:Int)≤15∧0≤(b:Int)∧(b:Int)≤65535∧0≤(c:Int)∧(c:Int)≤268435455);omega)
 obtain ⟨z,hz⟩:∃z,hexN 1 a++hexN 4 b=z:=⟨_,rfl⟩
 have hzl:z.length=5:=by rw [←hz,List.length_append,hexN_len,hexN_len]
 have hnm:nameH ((a:Int),(b:Int),(c:Int))=z++hexN 7 c:=by unfold nameH;rw [hm,if_pos rfl,←hz];rfl
 obtain ⟨z2,hz2⟩:∃z2,z++hexN 7 c=z2:=⟨_,rfl⟩
 have hl1:=hexN_len 1 a
 have hl2:=hexN_len 4 b
 have hl3:=hexN_len 7 c
 have ad:=add_lists (P:=Tryz.prog) (x:=hexN 1 a) (y:=hexN 4 b) (z:=z) (by omega) hz
 have ad2:=add_lists (P:=Tryz.prog) (x:=z) (y:=hexN 7 c) (z:=z2) (by omega) hz2
 rw [hz2] at hnm
 have HM:=hide hm
 have HNM:=hide hnm
 have j1:a≤15:=by omega
 have j2:b≤65535:=by omega
 have j3:c≤268435455:=by omega
 clear hm hnm hz hz2 hl1 hl2 hl3 hzl
 go_wp2_with fail
 refine wp_region_planN (fun w'=>Below W1.heap.size W1 w') [(0,true),(1,true),(3,true),(4,true),(7,true),(8,true),(2,false),(5,false),(6,true),(9,false),(10,true),(11,true),(12,true)] (by kernel_rfl) (by kernel_rfl) (by kernel_rfl) (by kernel_rfl) rfl (fun _ _ _ _ _ h=>h) (below_drew (below_self W1)) (fun hHeld=>?_)
 simp only [planOps,List.filterMap_cons,List.filterMap_nil,List.getElem?_toArray,List.getElem?_cons_succ,List.getElem?_cons_zero,Option.map_some]
 refine wpPlan_take (v:=?_) (by kernel_rfl) (fun wS hSw=>?_) ?_
 rotate_left
 ·(try dsimp only at hSw);go_simp;(try with_reducible rfl)
 (try simp only [Act.put,pu1,pu2,pu3])
 refine wpPlan_take (v:=?_) (by kernel_rfl) (fun wS hSw=>?_) ?_
 rotate_left
 ·have qx:=(hSw.cell (p:=⟨w.heap.size,0,none⟩) (by show w.heap.size < _;omega)).trans q0;go_simp;(try with_reducible rfl)
 (try simp only [Act.put,pu1,pu2,pu3])
 refine wpPlan_take (v:=?_) (by kernel_rfl) (fun wS hSw=>?_) ?_
 rotate_left
 ·(try dsimp only at hSw);go_simp;(try with_reducible rfl)
 (try simp only [Act.put,pu1,pu2,pu3])
 refine wpPlan_take (v:=?_) (by kernel_rfl) (fun wS hSw=>?_) ?_
 rotate_left
 ·have qx:=(hSw.cell (p:=⟨w.heap.size,1,none⟩) (by show w.heap.size < _;omega)).trans q1;go_simp;(try with_reducible rfl)
 (try simp only [Act.put,pu1,pu2,pu3])
 refine wpPlan_take (v:=?_) (by kernel_rfl) (fun wS hSw=>?_) ?_
 rotate_left
 ·(try dsimp only at hSw);go_simp;(try with_reducible rfl)
 (try simp only [Act.put,pu1,pu2,pu3])
 refine wpPlan_take (v:=?_) (by kernel_rfl) (fun wS hSw=>?_) ?_
 rotate_left
 ·have qx:=(hSw.cell (p:=⟨w.heap.size,2,none⟩) (by show w.heap.size < _;omega)).trans q2;go_simp;(try with_reducible rfl)
 (try simp only [Act.put,pu1,pu2,pu3])
 refine wpPlan_call (by kernel_rfl) (fun K hK=>?_)
 have hOld:=hide hHeld
 clear hHeld
 go_simp
 go_at_call 69
 refine (RHex_any (n:=a) (k:=1) (by omega) (by omega) _).mono ?_
 rintro e w' ⟨rfl,rfl⟩
 refine hK.out _ _ (hOld.out) (fun hHeld=>?_)
 clear hK K
 (try simp only [Act.put,pu1,pu2,pu3])
 refine wpPlan_call (by kernel_rfl) (fun K hK=>?_)
 have hOld:=hide hHeld
 clear hHeld
 go_simp
 go_at_call 69
 refine (RHex_any (n:=b) (k:=4) (by omega) (by omega) _).mono ?_
 rintro e w' ⟨rfl,rfl⟩
 refine hK.out _ _ (hOld.out) (fun hHeld=>?_)
 clear hK K
 (try simp only [Act.put,pu1,pu2,pu3])
 refine wpPlan_take (v:=?_) (by kernel_rfl) (fun wS hSw=>?_) ?_
 rotate_left
 ·(try dsimp only at hSw);go_simp;(try with_reducible rfl)
 (try simp only [Act.put,pu1,pu2,pu3])
 refine wpPlan_call (by kernel_rfl) (fun K hK=>?_)
 have hOld:=hide hHeld
 clear hHeld
 go_simp
 go_at_call 69
 refine (RHex_any (n:=c) (k:=7) (by omega) (by omega) _).mono ?_
 rintro e w' ⟨rfl,rfl⟩
 refine hK.out _ _ (hOld.out) (fun hHeld=>?_)
 clear hK K
 (try simp only [Act.put,pu1,pu2,pu3])
 iterate 3
  refine wpPlan_take (v:=?_) (by kernel_rfl) (fun wS hSw=>?_) ?_
  rotate_left
  ·(try dsimp only at hSw);go_simp;(try with_reducible rfl)
  (try simp only [Act.put,pu1,pu2,pu3])
 refine wpPlan_end ?_
 generalize W1.drew=wH at hHeld ⊢
 have HBH:=hide (HB.out.trans (hHeld.mono (by omega)))
 clear hHeld
 go_wp2_with fail
 go_ret2
 exact ⟨by rw [HM.out,HNM.out];rfl,HBH.out⟩
end Go.Proofs.YtpndfahgflgocaaGreatDoor

