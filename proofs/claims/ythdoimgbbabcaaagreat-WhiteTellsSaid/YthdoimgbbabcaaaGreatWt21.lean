import Derived.Test.YthdoimgbbabcaaaGreatWt10
import Derived.Test.YthdoimgbbabcaaaGreatWt11
import Derived.Test.YthdoimgbbabcaaaGreatWt20
import Derived.Sort.OwnSorted
import Derived.Lib.RowBridge
import Derived.Test.YthdoimgbbabcaaaGreatWt9
import Derived.BigQuiet
import Derived.Deep.QuietTactic
import Derived.Test.YthdoimgbbabcaaaGreatWt5

namespace Go.Proofs.YthdoimgbbabcaaaGreat
open Go.RowKit Go.Sort Plain

theorem CloneS_any {A:Option Addr} {m c B:Nat} {l:List (List UInt8)} (w:World) (ha:Rd st w B A m l) (hm:m≤1000000) :
  Calls Tryz.prog 125 #[.slice A m c] w (ORet st w 9 m l):=by
 by_cases h0:m=0
 ·subst h0
  obtain rfl:l=[]:=List.eq_nil_of_length_eq_zero ha.len
  cases A with
  | none =>
   refine (Tryz.slices_Clone_string_nil 0 c w).mono ?_
   rintro e w' ⟨rfl,rfl⟩
   exact (Ow.nil_ st _ _ _).ret (below_self _)
  | some a =>
   refine (Tryz.slices_Clone_string_zero a c w).mono ?_
   rintro e w' ⟨v,rfl,hown,_,hbel⟩
   obtain ⟨A',c',rfl,ho⟩:=Ow.of (f:=st) (l:=[]) hown
   exact ho.ret hbel
 ·obtain ⟨b,o,rfl,_,hc⟩:=ha.2 (by omega)
  have hl:=ha.len
  have hlen:(l.map fun x=>(⟨x.toArray⟩:ByteArray)).length=m:=by simp [hl]
  refine (Tryz.slices_Clone_string b o m c (l.map fun x=>⟨x.toArray⟩) w (by omega) (by omega) (fun j hj=>?_)).mono ?_
  ·rw [hc j (l[j]'(by omega)) (List.getElem?_eq_getElem (by omega))]
   simp [st,List.getD,show j < l.length by omega]
  ·rintro e w' ⟨v,rfl,hown,_,hbel⟩
   have hmap:((l.map fun x=>(⟨x.toArray⟩:ByteArray)).take m).map (Value.string)=l.map st:=by
    rw [List.take_of_length_le (by omega),List.map_map]
    rfl
   rw [hmap] at hown
   obtain ⟨A',c',rfl,ho⟩:=Ow.of (f:=st) hown
   exact ho.ret hbel

theorem SortS_own {base g n c:Nat} {l:List (List UInt8)} (w:World) (h:Ow st w base 9 (some ⟨g,0,none⟩) n c l) (hn:n≤1000000) :
  Calls Tryz.prog 126 #[.slice (some ⟨g,0,none⟩) n c] w fun e w'=>e=.returned (.tuple #[])∧Ow st w' base 9 (some ⟨g,0,none⟩) n c (l.mergeSort fun x y=>decide (x≤y))∧w.grownBy w' (some g):=by
 have hl:=h.len
 rcases h.2 with ⟨h0,_⟩|⟨g',cap,cur,he,hbase,hb,h1,h2,h3,h4⟩
 ·cases h0
 ·cases he
  subst hl
  refine (Tryz.slices_Sort_string g 0 c l w (holds_of_block hb (by rw [Nat.mul_one] at h4;exact h4)) (Array.getElem?_eq_some_iff.1 hb).1 (by omega)).mono ?_
  rintro e w' ⟨rfl,k,os,rfl⟩
  exact ⟨rfl,ownsRow_sorted (by simp) hbase hb h1 h2 h3,grownBy_sorted _⟩
theorem grow_none (w:World):grow w #[]=w:=by simp [grow]
theorem CompactS_own {base g n c:Nat} {l:List (List UInt8)} (w:World) (h:Ow st w base 9 (some ⟨g,0,none⟩) n c l) (hn:n≤1000000) :
  Calls Tryz.prog 127 #[.slice (some ⟨g,0,none⟩) n c] w fun e w'=>e=.returned (.slice (some ⟨g,0,none⟩) (Lib.compact l).length c)∧Ow st w' base 9 (some ⟨g,0,none⟩) (Lib.compact l).length c (Lib.compact l)∧w.grownBy w' (some g):=by
 have hl:=h.len
 have hcap:=h.cap
 rcases h.2 with ⟨h0,_⟩|⟨g',cap,cur,he,hbase,hb,h1,h2,h3,h4⟩
 ·cases h0
 ·cases he
  subst hl
  have hle:=Lib.compact_length_le l
  refine (Tryz.slices_Compact_string g 0 c l w (holds_of_block hb (by rw [Nat.mul_one] at h4;exact h4)) (by omega) hcap).mono ?_
  rintro e w' ⟨rfl,q,rfl⟩
  have ho:Ow st (grow (putRow encStr (Sort.ahead w q) g 0 (Lib.compact l++List.replicate (l.length - (Lib.compact l).length) []).toArray) #[]) base 9 (some ⟨g,0,none⟩) l.length c (Lib.compact l++List.replicate (l.length - (Lib.compact l).length) []) :=
   ownsRow_sorted (by simp;omega) hbase hb h1 h2 h3
  have hg:=grownBy_sorted (w:=w) (g:=g) (n:=q) (os:=#[]) (Lib.compact l++List.replicate (l.length - (Lib.compact l).length) []).toArray
  rw [grow_none] at ho hg
  have:=ho.cut hle (by simp)
  rw [List.take_left'] at this
  ·exact ⟨rfl,this,hg⟩
  ·rfl

theorem NSort_any {A:Option Addr} {m c:Nat} {l:List (List UInt8)} (w:World) (ha:Rd st w w.heap.size A m l) (hm:m≤1000000) :
  Calls Tryz.prog 74 #[.slice A m c] w (ORet st w 9 (sortS l).length (sortS l)):=by
 have hl:=ha.len
 have HA:=hide ha
 clear ha
 by_cases h0:m=0
 ·subst h0
  obtain rfl:l=[]:=List.eq_nil_of_length_eq_zero hl
  go_enter Tryz.func74,Tryz.ntmps74
  go_wp2_with fail
  refine (CloneS_any _ HA.out (by omega)).mono ?_
  rintro e w1 ⟨A1,c1,rfl,hown,hbel⟩
  have HO:=hide hown
  have HB:=hide hbel
  clear hown hbel
  go_wp2_with fail
  refine (Tryz.slices_Sort_string_none _ _ _).mono ?_
  rintro e w' ⟨rfl,rfl⟩
  go_wp2_with fail
  refine (Tryz.slices_Compact_string_empty _ _ _).mono ?_
  rintro e w'' ⟨rfl,rfl⟩
  go_wp2_with fail
  go_ret
  exact HO.out.ret HB.out
 ·have hm0:0 < m:=by omega
  clear h0
  go_enter Tryz.func74,Tryz.ntmps74
  go_wp2_with fail
  refine (CloneS_any _ HA.out hm).mono ?_
  rintro e w1 ⟨A1,c1,rfl,hown,hbel⟩
  obtain ⟨g,rfl,hbase,_⟩:=hown.at_ hm0
  have HO:=hide hown
  have HB:=hide hbel
  have HG:=hide hbase
  clear hown hbel hbase
  go_wp2_with fail
  refine (SortS_own _ HO.out hm).mono ?_
  rintro e w2 ⟨rfl,hown,hgr⟩
  have HO2:=hide hown
  have HB2:=hide (HB.out.grown hgr HB.out.size (fun j hj=>by cases hj;exact HG.out))
  clear hown hgr
  go_wp2_with fail
  refine (CompactS_own _ HO2.out hm).mono ?_
  rw [sortS_lib]
  rintro e w3 ⟨rfl,hown,hgr⟩
  have HO3:=hide hown
  have HB3:=hide (HB2.out.grown hgr HB2.out.size (fun j hj=>by cases hj;exact HG.out))
  clear hown hgr
  go_wp2_with fail
  go_ret
  exact HO3.out.ret HB3.out
end Go.Proofs.YthdoimgbbabcaaaGreat

namespace Go.Proofs.YthdoimgbbabcaaaGreat
open Go.RowKit Plain
theorem info_st:(Tryz.prog.info? 9).map (fun i=>(i.zero,i.size,i.bytes))=some (some (.string ⟨#[]⟩),1,16):=by kernel_rfl
theorem st_one (l:List UInt8):(st l).oneCell'=true:=rfl

set_option maxHeartbeats 1600000 in
theorem RSort_any {A:Option Addr} {m c:Nat} {l:List (List UInt8)} (w:World) (ha:Rd st w w.heap.size A m l) (hm:m≤1000000) :
  Calls Tryz.prog 102 #[.slice A m c] w (ORet st w 9 (sortS l).length (sortS l)):=by
 have HA:=hide ha
 clear ha
 go_enter Tryz.func102,Tryz.ntmps102
 go_wp2_with fail
 go_loopw [3,4] (fun v i wr=>∃(k p:Nat) (o:List (List UInt8)),k≤m∧i=.int .i64 k∧o=sortS (l.take k)∧p≤k∧(∃A c,v=.slice A p c∧Ow st wr w.heap.size 9 A p c o)∧Below w.heap.size w wr) (fun _ i _=>m - (intOf i).toNat)
 case atStart=>exact ⟨0,0,[],Nat.zero_le _,rfl,rfl,Nat.le_refl _,⟨_,_,rfl,Ow.empty st w _⟩,below_new (below_self w) _⟩
 case round =>
  obtain ⟨i,p,o,hi,rfl,ho,hp,⟨A1,c1,rfl,hown⟩,hbel⟩:=hrel
  have HOE:=hide ho
  have HO:=hide hown
  have HB:=hide hbel
  have HA1:=hide (HA.out.on hbel)
  clear ho hown hbel
  by_cases hlt:i < m
  ·obtain ⟨ba,oa,rfl,hba,hca0⟩:=HA.out.2 (by omega)
   have hca:∀i x,l[i]?=some x→wr.cell? ⟨ba,oa+i,none⟩=some (st x):=fun i x h=>(HB.out.cell hba).trans (hca0 i x h)
   have hxw:=hca0 i _ (List.getElem?_eq_getElem (show i < l.length by rw [HA.out.len];exact hlt))
   clear hca0
   have hil:i < l.length:=by rw [HA.out.len];exact hlt
   have hx:=hca i l[i] (List.getElem?_eq_getElem hil)
   clear hca
   obtain ⟨x,hxe⟩:∃x,x=l[i]:=⟨_,rfl⟩
   rw [←hxe] at hx hxw
   have HXW:=hide hxw
   clear hxw
   have hs:sortS (l.take (i+1))=insS x o:=by rw [List.take_succ_eq_append_getElem hil,sortS_snoc,←HOE.out,hxe]
   have HS:=hide hs
   clear hs hxe hil
   unfold st at hx
   go_wp2_with fail
   go_loopw [5] (fun kv wr2=>∃k q:Nat,k≤p∧kv=.int .i64 k∧(∀j (hj:j < k),lessS (o.getD j []) x=true)∧wr2=wr.drewN q) (fun kv _=>p - (intOf kv).toNat)
   case atStart=>exact ⟨0,0,Nat.zero_le _,rfl,fun j hj=>absurd hj (by omega),rfl⟩
   case round =>
    obtain ⟨k,q,hk,rfl,hless,rfl⟩:=hrel
    have HL:=hide hless
    clear hless
    by_cases hkp:k < p
    ·obtain ⟨g,rfl,hg,hgl,hcg,hfz⟩:=HO.out.at_ (by omega)
     have hol:=HO.out.len
     have hy:=hcg k (o.getD k []) (by simp only [List.getD];rw [List.getElem?_eq_getElem (by omega)];rfl)
     clear hcg hfz
     obtain ⟨y,hye⟩:∃y,y=o.getD k []:=⟨_,rfl⟩
     rw [←hye] at hy
     unfold st at hy
     have HYE:=hide hye
     have HOL:=hide hol
     clear hye hol
     cases hyx:Op.bytesLess y x with
     | true =>
      have HYX:=hide hyx
      go_wp2
      go_quiet (fail)
      clear hyx
      go_wp2
      go_roundw
      case rel=>exact ⟨k+1,_,by omega,by go_num,fun j hj=>by
       by_cases hjk:j < k
       ·exact HL.out j hjk
       ·obtain rfl:j=k:=by omega
        rw [←HYE.out];exact HYX.out,rfl⟩
      case measure=>simp [intOf];omega
     | false =>
      have HYX:=hide hyx
      go_wp2
      go_quiet (fail)
      clear hyx
      go_wp2
      by_cases hyq:y=x
      ·have hpos:posS x o=k:=posS_of (by have:=HO.out.len;omega) (fun j hj=>HL.out j hj) (fun _=>by rw [←HYE.out];exact HYX.out)
       have hins:insS x o=o:=by
        unfold insS
        rw [hpos,if_pos]
        rw [←hyq,HYE.out]
        simp only [List.getD]
        rw [List.getElem?_eq_getElem (by have:=HO.out.len;omega)]
        rfl
       have HINS:=hide hins
       have hbq:(y==x)=true:=by simp [hyq]
       clear hpos hins hyq
       go_quiet (fail)
       clear hbq
       go_wp2
       go_roundw
       case rel=>exact ⟨i+1,p,o,by omega,by go_num,by rw [HS.out,HINS.out],by omega,⟨_,_,rfl,by repeat (first|exact HO.out|refine Ow.drewN ?_ _)⟩,by repeat (first|exact HB.out|refine below_drewN ?_ _)⟩
       case measure=>simp [intOf];omega
      ·have NE:=hide hyq
       have hbq:(y==x)=false:=by simp [hyq]
       clear hyq
       go_quiet (fail)
       clear hbq
       go_wp2_with (at_builtin;refine wpList_append_Rd _ rfl (.tmp 46) (.tmp 47) 54 rfl w.heap.size 9 _ 16 Tryz.underlying54 info_st rfl st_one _ p _ o rfl (by repeat (first|exact HO.out|refine Ow.drewN ?_ _|refine Ow.alloc ?_ _)) _ _ 1 1 _ rfl (Rd.one _ _ rfl) (p+1) rfl (by omega) (by omega) (by have:=HB.out.size;simp;omega) ?_;intro A2 c2 w1 hown1 hbel1;have HO1:=hide hown1;have HB1:=hide (Below.trans (show Below w.heap.size w _ by repeat (first|exact HB.out|refine below_drewN ?_ _|(refine Below.alloc ?_ (by have:=HB.out.size;simp;omega) _))) hbel1);clear hown1 hbel1)
       have hpos:posS x o=k:=posS_of (by have:=HO.out.len;omega) (fun j hj=>HL.out j hj) (fun _=>by rw [←HYE.out];exact HYX.out)
       have hnot:o[k]?≠some x:=by
        intro e
        apply NE.out
        rw [HYE.out]
        simp [List.getD,e]
       have hins:insS x o=o.take k++x::o.drop k:=by unfold insS;rw [hpos,if_neg hnot]
       have HINS:=hide hins
       clear hpos hnot hins
       have hgl:=HO.out.len
       have HGL:=hide hgl
       clear hgl
       go_loopw [6] (fun jv wr3=>∃j:Nat,k≤j∧j≤p∧jv=.int .i64 j∧Ow st wr3 w.heap.size 9 A2 (p+1) c2 (gapS o j)∧Below w.heap.size w wr3) (fun jv _=>(intOf jv).toNat)
       case atStart=>exact ⟨p,by omega,Nat.le_refl _,by go_num,by have e:=gapS_end o;rw [HGL.out] at e;rw [e];exact HO1.out,HB1.out⟩
       case round =>
        obtain ⟨j,hj1,hj2,rfl,hown2,hbel2⟩:=hrel
        have HO2:=hide hown2
        have HB2:=hide hbel2
        obtain ⟨g2,rfl,hg2,hgl2,hcg2,hfz2⟩:=hown2.at_ (by omega)
        by_cases hjk:k < j
        ·have hgj:(gapS o j)[j - 1]?=some (o.getD (j - 1) []):=by
          rw [gapS_get (by omega) (by rw [HGL.out];omega)]
          simp only [List.getD]
          rw [List.getElem?_eq_getElem (by rw [HGL.out];omega)]
          rfl
         have hz:=hcg2 (j - 1) _ hgj
         obtain ⟨u,hu⟩:∃u,(gapS o j)[j]?=some u:=⟨_,List.getElem?_eq_getElem (by rw [gapS_length (by rw [HGL.out];omega),HGL.out];omega)⟩
         have hzz:=hcg2 j _ hu
         have hf:=hfz2 j
         have hst:=hown2.set_ (p:=j) (u:=st (o.getD (j - 1) [])) (y:=o.getD (j - 1) []) rfl
         have hbs:=hbel2.setCell (p:=⟨g2,j,none⟩) hg2 (st (o.getD (j - 1) []))
         obtain ⟨j',rfl⟩:∃j',j=j'+1:=⟨j - 1,by omega⟩
         simp only [Nat.add_sub_cancel] at hz hst hbs
         have hgo:o.getD j' []=o[j']'(by rw [HGL.out];omega):=by
          simp only [List.getD]
          rw [List.getElem?_eq_getElem (by rw [HGL.out];omega)]
          rfl
         rw [hgo,gapS_step] at hst
         rw [←hgo] at hst
         obtain ⟨z,hze⟩:∃z,z=o.getD j' []:=⟨_,rfl⟩
         rw [←hze] at hz hst hbs
         have HST:=hide hst
         have HBS:=hide hbs
         clear hown2 hbel2 hcg2 hfz2 hgj hu hst hbs hgo hze
         unfold st at hz hzz
         go_wp2
         go_roundw
         case rel=>exact ⟨j',by omega,by omega,by go_num,HST.out,HBS.out⟩
         case measure=>(simp [intOf])
        ·obtain rfl:k=j:=by omega
         have hx2:=(HB2.out.cell hba).trans HXW.out
         obtain ⟨u,hu⟩:∃u,(gapS o k)[k]?=some u:=⟨_,List.getElem?_eq_getElem (by rw [gapS_length (by rw [HGL.out];omega),HGL.out];omega)⟩
         have hzz:=hcg2 k _ hu
         have hf:=hfz2 k
         have hst:=hown2.set_ (p:=k) (u:=st x) (y:=x) rfl
         have hbs:=hbel2.setCell (p:=⟨g2,k,none⟩) hg2 (st x)
         rw [gapS_set (by rw [HGL.out];omega)] at hst
         have HST:=hide hst
         have HBS:=hide hbs
         clear hown2 hbel2 hcg2 hfz2 hu hst hbs
         unfold st at hx2 hzz
         go_wp2
         go_roundw
         case rel=>exact ⟨i+1,p+1,_,by omega,by go_num,HS.out.symm,by omega,⟨_,_,rfl,by rw [HINS.out];exact HST.out⟩,HBS.out⟩
         case measure=>simp [intOf];omega
    ·obtain rfl:k=p:=by omega
     go_wp2
     go_quiet (fail)
     go_wp2
     go_quiet (fail)
     go_wp2_with (at_builtin;refine wpList_append_Rd _ rfl (.tmp 46) (.tmp 47) 54 rfl w.heap.size 9 _ 16 Tryz.underlying54 info_st rfl st_one _ k _ o rfl (by repeat (first|exact HO.out|refine Ow.drewN ?_ _|refine Ow.alloc ?_ _)) _ _ 1 1 _ rfl (Rd.one _ _ rfl) (k+1) rfl (by omega) (by omega) (by have:=HB.out.size;simp;omega) ?_;intro A2 c2 w1 hown1 hbel1;have HO1:=hide hown1;have HB1:=hide (Below.trans (show Below w.heap.size w _ by repeat (first|exact HB.out|refine below_drewN ?_ _|(refine Below.alloc ?_ (by have:=HB.out.size;simp;omega) _))) hbel1);clear hown1 hbel1)
     have hpos:posS x o=k:=posS_of (by have:=HO.out.len;omega) (fun j hj=>HL.out j hj) (fun h=>by have:=HO.out.len;omega)
     have hnot:o[k]?≠some x:=by rw [List.getElem?_eq_none (by have:=HO.out.len;omega)];simp
     have hins:insS x o=o.take k++x::o.drop k:=by unfold insS;rw [hpos,if_neg hnot]
     have HINS:=hide hins
     clear hpos hnot hins
     have hgl:=HO.out.len
     have HGL:=hide hgl
     clear hgl
     go_loopw [6] (fun jv wr3=>∃j:Nat,k≤j∧j≤k∧jv=.int .i64 j∧Ow st wr3 w.heap.size 9 A2 (k+1) c2 (gapS o j)∧Below w.heap.size w wr3) (fun jv _=>(intOf jv).toNat)
     case atStart=>exact ⟨k,by omega,Nat.le_refl _,by go_num,by have e:=gapS_end o;rw [HGL.out] at e;rw [e];exact HO1.out,HB1.out⟩
     case round =>
      obtain ⟨j,hj1,hj2,rfl,hown2,hbel2⟩:=hrel
      have HO2:=hide hown2
      have HB2:=hide hbel2
      obtain ⟨g2,rfl,hg2,hgl2,hcg2,hfz2⟩:=hown2.at_ (by omega)
      by_cases hjk:k < j
      ·exact absurd hjk (by omega)
      ·obtain rfl:k=j:=by omega
       have hx2:=(HB2.out.cell hba).trans HXW.out
       obtain ⟨u,hu⟩:∃u,(gapS o k)[k]?=some u:=⟨_,List.getElem?_eq_getElem (by rw [gapS_length (by rw [HGL.out];omega),HGL.out];omega)⟩
       have hzz:=hcg2 k _ hu
       have hf:=hfz2 k
       have hst:=hown2.set_ (p:=k) (u:=st x) (y:=x) rfl
       have hbs:=hbel2.setCell (p:=⟨g2,k,none⟩) hg2 (st x)
       rw [gapS_set (by rw [HGL.out];omega)] at hst
       have HST:=hide hst
       have HBS:=hide hbs
       clear hown2 hbel2 hcg2 hfz2 hu hst hbs
       unfold st at hx2 hzz
       go_wp2
       go_roundw
       case rel=>exact ⟨i+1,k+1,_,by omega,by go_num,HS.out.symm,by omega,⟨_,_,rfl,by rw [HINS.out];exact HST.out⟩,HBS.out⟩
       case measure=>simp [intOf];omega
  ·obtain rfl:i=m:=by omega
   have hos:o=sortS l:=by rw [HOE.out,List.take_of_length_le (by rw [HA.out.len];exact Nat.le_refl _)]
   have hol:=HO.out.len
   have HOS:=hide hos
   have HOL:=hide hol
   clear hos hol
   go_wp2
   go_ret
   rw [←HOS.out,HOL.out]
   exact HO.out.ret HB.out
end Go.Proofs.YthdoimgbbabcaaaGreat

namespace Go.Proofs.YthdoimgbbabcaaaGreat
open Go.RowKit Go.Shelf Plain

theorem run_append_Rd' {α : Type} {f : α → Value} {P : Program} (w : World) (base : Nat) (t ty e : TypeId) (z : Value) (k : Nat) (ht : P.underlying t = some (.slice e)) (hinfo : (P.info? e).map (fun i => (i.zero, i.size, i.bytes)) = some (some z, 1, k)) (hzs : z.cells.size = 1)
  (h1:∀x,(f x).oneCell'=true)
  (v:Value) (n:Nat) (l0:List α) (hown:w.ownsRow base e 1 v n (l0.map f)) (B:Nat) (A:Option Addr) (m c:Nat) (l1:List α) (hb:Rd f w B A m l1)
  (hbytes:(n+m)*k≤140737488355328) (hnm:n+m≤140737488355328) (hbase:base≤w.heap.size) :
  ∃v' w',(Builtin.append_ #[t,t] ty #[v,.slice A m c]).run P w=.ok v' w'∧w'.ownsRow base e 1 v' (n+m) ((l0++l1).map f)∧Below base w w'∧w.grownBy w' v.ownBlock:=by
 obtain ⟨i,hi,hz,hsz,hby⟩:=info_parts hinfo
 rw [List.map_append]
 cases A with
 | none =>
  have hm:m=0:=by
   rcases Nat.eq_zero_or_pos m with h0|h0
   ·exact h0
   ·obtain ⟨_,_,h,_⟩:=hb.2 h0;cases h
  subst hm
  obtain rfl:l1=[]:=List.eq_nil_of_length_eq_zero hb.1
  exact ⟨v,w,run_append_nil0 w base t ty e i 1 ht hi v n _ hown c,by simpa using hown,Below.refl _ _,World.grownBy.refl _ _⟩
 | some ad =>
  have hcells:∀j u,(l1.map f)[j]?=some u→w.cell? (ad.add j)=some u:=by
   intro j u hu
   rw [List.getElem?_map,Option.map_eq_some_iff] at hu
   obtain ⟨x,hx,rfl⟩:=hu
   have hj:j < l1.length:=(List.getElem?_eq_some_iff.1 hx).1
   obtain ⟨b,o,e,_,hc⟩:=hb.2 (by have:=hb.1;omega)
   injection e with e
   subst e
   rw [←hc j x hx]
   congr 1
   unfold Addr.add
   split
   ·rename_i h0;subst h0;rfl
   ·rfl
  obtain ⟨v', w', hr, h2, h3, _⟩ := run_append_own (P := P) w base t ty e i z 1 k ht hi hz hsz hby hzs (by omega) v n _ hown ad m c (l1.map f) (by rw [List.length_map]; have := hb.1; omega) hcells (map_one h1 _)
   (by simp only [maxLen];omega) hbytes hbase
  exact ⟨v',w',hr,h2,Below.of_grown_own hown h3 hbase,h3⟩
theorem wpList_append_Rd' {α : Type} {f : α → Value} {P : Program} (w : World) {ops : Array Oper} {rest : List Oper} {o : Oper} {a : Act} {Q : Exit → Act → World → Prop} (hgd : o.guard = none) (s x : Operand) (t : TypeId)
  (ho:o.op=.call {callee:=.builtin .append,args:=#[s,x],argTypes:=#[t,t]})
  (base:Nat) (e:TypeId) (z:Value) (k:Nat) (ht:P.underlying t=some (.slice e)) (hinfo:(P.info? e).map (fun i=>(i.zero,i.size,i.bytes))=some (some z,1,k)) (hzs:z.cells.size=1)
  (h1:∀x,(f x).oneCell'=true)
  (A0:Option Addr) (n c0:Nat) (l0:List α) (hs:a.eval s=.slice A0 n c0) (hown:Ow f w base e A0 n c0 l0) (B:Nat) (A:Option Addr) (m c:Nat) (l1:List α) (hx:a.eval x=.slice A m c) (hb:Rd f w B A m l1)
  (N:Nat) (hN:n+m=N) (hbytes:N*k≤140737488355328) (hnm:N≤140737488355328) (hbase:base≤w.heap.size)
  (h:∀A' c' w',Ow f w' base e A' N c' (l0++l1)→Below base w w'→w.grownBy w' (Value.slice A0 n c0).ownBlock→wpList P ops Q rest (a.put o.dst (.slice A' N c')) w'):wpList P ops Q (o::rest) a w:=by
 subst hN
 refine wpList_plain hgd fun K hK=>?_
 obtain ⟨v',w',hr,h2,h3,h4⟩:=run_append_Rd' (P:=P) w base t o.type e z k ht hinfo hzs h1 _ n l0 hown B A m c l1 hb hbytes hnm hbase
 unfold Oper.wp execOp
 simp only [ho,resolve,invoke,builtin,Sem.run_bind,Sem.run_pure,Result.andThen_ok,List.map_toArray,List.map_cons,List.map_nil,hs,hx,hr]
 obtain ⟨A',c',rfl,h5⟩:=Ow.of h2
 exact hK _ _ (h A' c' w' h5 h3 h4)
end Go.Proofs.YthdoimgbbabcaaaGreat

