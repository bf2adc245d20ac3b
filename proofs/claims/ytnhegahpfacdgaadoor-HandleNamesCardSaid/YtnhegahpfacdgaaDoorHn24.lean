import Derived.Test.YtnhegahpfacdgaaDoorHn23
import Derived.Test.YtnhegahpfacdgaaDoorHn14
import Derived.Test.YtnhegahpfacdgaaDoorHn16
import Derived.Test.YtnhegahpfacdgaaDoorHn10

namespace Go.Proofs.YtnhegahpfacdgaaDoor
open Go.RowKit Plain

def foundH (a:Nat) (c:UInt8) (d:Nat):Nat:=if isH c=true∧valH c < d then a*16+valH c else a
theorem found_zero (a:Nat) (c:UInt8):foundH a c 0=a:=by unfold foundH;rw [if_neg (by omega)]
theorem found_full (a:Nat) (c:UInt8):foundH a c 16=if isH c=true then a*16+valH c else a:=by
 unfold foundH
 by_cases h:isH c=true
 ·rw [if_pos ⟨h,val_lt h⟩,if_pos h]
 ·rw [if_neg (fun e=>h e.1),if_neg h]
theorem found_yes {a d:Nat} {c:UInt8} (hd:d < 16) (h:c=digH d):foundH a c d=a∧foundH a c (d+1)=a*16+d:=by
 subst h
 have h1:=dig_is hd
 have h2:=dig_val hd
 unfold foundH
 rw [h2,if_neg (by omega),if_pos ⟨h1,by omega⟩]
 exact ⟨rfl,rfl⟩
theorem found_no {a d:Nat} {c:UInt8} (h:c≠digH d):foundH a c (d+1)=foundH a c d:=by
 unfold foundH
 by_cases h1:isH c=true
 ·have h2:valH c≠d:=fun e=>h (by rw [←e];exact (val_dig h1).symm)
  have e:(isH c=true∧valH c < d+1)↔(isH c=true∧valH c < d):=⟨fun e=>⟨h1,by have:=e.2;omega⟩,fun e=>⟨h1,by have:=e.2;omega⟩⟩
  simp only [e]
 ·rw [if_neg (fun e=>h1 e.1),if_neg (fun e=>h1 e.1)]
theorem found_le (a:Nat) (c:UInt8) (d:Nat):foundH a c d≤a*16+15:=by
 unfold foundH
 split
 ·rename_i h;have:=val_lt h.1;omega
 ·omega
theorem cut_one {l:List UInt8} {i:Nat} {c:UInt8} (h:l[i]?=some c):(⟨l.toArray⟩:ByteArray).extract i (i+1)=⟨[c].toArray⟩:=by
 apply ByteArray.ext
 rw [ByteArray.data_extract]
 apply Array.ext'
 show (l.toArray.extract i (i+1)).toList=[c]
 rw [Array.toList_extract,List.extract_eq_take_drop]
 show (l.drop i).take (i+1 - i)=[c]
 have hi:=(List.getElem?_eq_some_iff.1 h).1
 rw [List.drop_eq_getElem_cons hi,show i+1 - i=0+1 from by omega,List.take_succ_cons,List.take_zero]
 rw [List.getElem?_eq_getElem hi] at h
 rw [Option.some.inj h]
theorem numH_take {l:List UInt8} {i:Nat} {c:UInt8} (h:l[i]?=some c):numH (l.take (i+1))=foundH (numH (l.take i)) c 16:=by
 rw [List.take_add_one,h,Option.toList_some,numH_snoc,found_full]
set_option maxRecDepth 100000 in
set_option maxHeartbeats 3200000 in
theorem RNumber_any {s:List UInt8} (hs:s.length≤7) (w:World):Calls Tryd.prog 21 #[.string ⟨s.toArray⟩] w (fun e w'=>e=.returned (.int .i64 (numH s))∧Below w.heap.size w w'):=by
 have HS:=hide hs
 obtain ⟨n,hn⟩:∃n,s.length=n:=⟨_,rfl⟩
 have hsz:(⟨s.toArray⟩:ByteArray).size=n:=by rw [←hn];simp [ByteArray.size]
 rw [hn] at hs
 have HN:=hide hn
 clear hn
 go_enter Tryd.func21,Tryd.ntmps21
 go_wp2_with fail
 go_loopw [3,4] (fun v3 v4 wr=>∃i:Nat,i≤n∧v3=.int .i64 (numH (s.take i))∧v4=.int .i64 i∧Below w.heap.size w wr) (fun _ v4 _=>n - (intOf v4).toNat)
 case atStart=>exact ⟨0,by omega,rfl,rfl,below_self _⟩
 case round =>
  obtain ⟨i,hi,rfl,rfl,hbr⟩:=hrel
  have HB:=hide hbr
  have hbs:=hbr.size
  clear hbr
  by_cases hlt:i < n
  ·obtain ⟨c,hc⟩:∃c,s[i]?=some c:=⟨_,List.getElem?_eq_getElem (by have:=HN.out;omega)⟩
   have HCT:=hide (cut_one hc)
   have HTK:=hide (numH_take hc)
   have hal:numH (s.take i)≤16777215:=by
    have h1:=numH_lt i (s.take i) (by rw [List.length_take];have:=HN.out;omega)
    have h2:16 ^ i≤16 ^ 6:=Nat.pow_le_pow_right (by decide) (by omega)
    omega
   obtain ⟨a,ha⟩:∃a,numH (s.take i)=a:=⟨_,rfl⟩
   rw [ha] at HTK hal ⊢
   have hin:(i:Int) < (n:Int):=by omega
   have hw1:IntKind.i64.wrap ((i:Int)+1)=(i:Int)+1:=IntWalk.i64_in _ (by omega)
   have hbi1:0≤(i:Int)+1∧(i:Int)+1≤(n:Int):=by omega
   have hbi2:(i:Int)≤(i:Int)+1:=by omega
   have htn:((i:Int)+1).toNat=i+1:=by omega
   clear hc ha
   go_wp2_with fail
   go_loopw [3,5] (fun v3 v5 wr=>∃d:Nat,d≤16∧v3=.int .i64 (foundH a c d)∧v5=.int .i64 d∧Below w.heap.size w wr) (fun _ v5 _=>16 - (intOf v5).toNat)
   case atStart=>exact ⟨0,by omega,by rw [found_zero],rfl,HB.out⟩
   case round =>
    obtain ⟨d,hd,rfl,rfl,hbr⟩:=hrel
    have HB:=hide hbr
    have hbs:=hbr.size
    clear hbr
    have hfl:=found_le a c d
    by_cases hlt2:d < 16
    ·have hd16:=hlt2
     have hin2:(d:Int) < 16:=by omega
     obtain ⟨r,hr⟩:∃r,decide (c=digH d)=r:=⟨_,rfl⟩
     have heq:(c==digH d)=r:=by rw [←hr];rfl
     have HR:=hide hr
     clear hr
     go_wp2_with fail
     refine wp_region_planN (fun w'=>Below wr.heap.size wr w') [(0,true),(1,true),(2,true),(3,true),(4,true),(5,true),(6,false),(7,true)] (by kernel_rfl) (by kernel_rfl) (by kernel_rfl) (by kernel_rfl) rfl (fun _ _ _ _ _ h=>h) (below_drew (below_self wr)) (fun hHeld=>?_)
     simp only [planOps,List.filterMap_cons,List.filterMap_nil,List.getElem?_toArray,List.getElem?_cons_succ,List.getElem?_cons_zero,Option.map_some]
     iterate 4
      refine wpPlan_take (v:=?_) (by kernel_rfl) (fun wS hSw=>?_) ?_
      rotate_left
      ·(try dsimp only at hSw);go_simp;(try with_reducible rfl)
      (try simp only [Act.put,pu1,pu2,pu3])
     refine wpPlan_take (v:=?_) (by kernel_rfl) (fun wS hSw=>?_) ?_
     rotate_left
     ·(try dsimp only at hSw);go_simp;simp only [HCT.out];(try with_reducible rfl)
     (try simp only [Act.put,pu1,pu2,pu3])
     refine wpPlan_take (v:=?_) (by kernel_rfl) (fun wS hSw=>?_) ?_
     rotate_left
     ·(try dsimp only at hSw);go_simp;(try with_reducible rfl)
     (try simp only [Act.put,pu1,pu2,pu3])
     refine wpPlan_call (by kernel_rfl) (fun K hK=>?_)
     have hOld:=hide hHeld
     clear hHeld
     go_simp
     go_at_call 36
     refine (RDigit_any (n:=d) hd16 _).mono ?_
     rintro e w' ⟨rfl,rfl⟩
     refine hK.out _ _ (hOld.out) (fun hHeld=>?_)
     clear hK K
     (try simp only [Act.put,pu1,pu2,pu3])
     refine wpPlan_take (v:=?_) (by kernel_rfl) (fun wS hSw=>?_) ?_
     rotate_left
     ·(try dsimp only at hSw);go_simp;(try simp only [heq]);(try with_reducible rfl)
     (try simp only [Act.put,pu1,pu2,pu3])
     refine wpPlan_end ?_
     generalize wr.drew=wH at hHeld ⊢
     have HBH:=hide (HB.out.trans (hHeld.mono hbs))
     clear hHeld
     cases r with
     | true =>
      obtain ⟨e1,e2⟩:=found_yes (a:=a) hd16 (of_decide_eq_true HR.out)
      have HE2:=hide e2
      rw [e1] at hfl ⊢
      clear e1 e2 heq
      go_wp2_with fail
      go_roundw
      case rel=>exact ⟨d+1,by omega,by rw [HE2.out];rfl,by go_num,HBH.out⟩
      case measure=>simp [intOf];omega
     | false =>
      have HE2:=hide (found_no (a:=a) (of_decide_eq_false HR.out))
      clear heq
      go_wp2_with fail
      go_roundw
      case rel=>exact ⟨d+1,by omega,by rw [HE2.out],by go_num,HBH.out⟩
      case measure=>simp [intOf];omega
    ·obtain rfl:d=16:=by omega
     have HFF:=hide (show foundH a c 16=numH (s.take (i+1)) from HTK.out.symm)
     have hd16:¬((16:Int) < 16):=by omega
     go_wp2_with fail
     go_roundw
     case rel=>exact ⟨i+1,by omega,by rw [HFF.out],by go_num,HB.out⟩
     case measure=>simp [intOf];omega
  ·obtain rfl:i=n:=by omega
   have hnn:¬((i:Int) < (i:Int)):=by omega
   have HFF:=hide (show numH (s.take i)=numH s from by rw [List.take_of_length_le (by rw [HN.out];exact Nat.le_refl _)])
   go_wp2_with fail
   go_ret
   exact ⟨by rw [HFF.out];rfl,HB.out⟩
end Go.Proofs.YtnhegahpfacdgaaDoor

