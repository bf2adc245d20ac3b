import Derived.Test.YthdoimgbbabcaaaGreatWt9
import Derived.Test.YthdoimgbbabcaaaGreatWt10
import Derived.Test.YthdoimgbbabcaaaGreatWt1
import Derived.Test.YthdoimgbbabcaaaGreatWt22
import Derived.BigQuiet
import Derived.Deep.QuietTactic
import Derived.Test.YthdoimgbbabcaaaGreatWt21
import Derived.StillTailTactics
import Derived.IntWalk

namespace Go.Proofs.YthdoimgbbabcaaaGreat
open Go.RowKit Plain

def lettersL:List UInt8:=[97,98,99,100,101,102,103,104,105,106,107,108,109,110,111,112,113,114,115,116,117,118,119,120,121,122,48,49,50,51,52,53,54,55,56,57,46,95,45]
theorem letters_fin:∀x:Fin 256,decide (Lib.indexByte lettersL x.val.toUInt8 < 0)=!letB x.val:=by decide +kernel
theorem letters_any {x:Nat} (hx:x < 256):decide (Lib.indexByte lettersL ((x:Int).toNat.toUInt8) < 0)=!letB x:=by
 have:=letters_fin ⟨x,hx⟩
 simpa using this

set_option maxHeartbeats 400000 in
theorem Strange_any {x:Nat} (hx:x < 256) (w:World) :
  Calls Tryz.prog 165 #[.int .u8 x] w fun e w'=>e=.returned (.bool (!letB x))∧w=w':=by
 obtain ⟨r,hr⟩:∃r,Lib.indexByte lettersL ((x:Int).toNat.toUInt8)=r:=⟨_,rfl⟩
 have hl:=letters_any hx
 rw [hr] at hl
 have HL:=hide hl
 have hc:=Tryz.strings_IndexByte ⟨lettersL.toArray⟩ x w
 rw [show (⟨lettersL.toArray⟩:ByteArray).data.toList=lettersL from rfl,hr] at hc
 have HC:=hide hc
 clear hl hr hc
 go_enter Tryz.func165,Tryz.ntmps165
 go_wp2_with fail
 refine HC.out.mono ?_
 rintro e w' ⟨rfl,rfl⟩
 go_wp2_with fail
 go_ret
 exact ⟨ret_bool HL.out,rfl⟩
abbrev strangeV:Value:=.func (.func 165) #[] #[]
def Found (w:World) (b:Bool) (e:Ending) (w':World):Prop:=∃r:Int,e=.returned (.int .i64 r)∧decide (0≤r)=!b∧w=w'

set_option maxHeartbeats 400000 in
theorem IndexFunc_b {A:Option Addr} {m c B:Nat} {l:List UInt8} {b:Bool} (w:World) (ha:Bs w B A m l) (hm:m≤140737488355328) (h:(l.all fun x=>letB x.toNat)=b) :
  Calls Tryz.prog 190 #[.slice A m c,strangeV] w (Found w b):=by
 have HB:=hide h
 have HA:=hide ha
 have hl:=ha.len
 clear h ha
 go_enter Tryz.func190,Tryz.ntmps190
 go_wp2_with fail
 go_loop [8] (fun i=>∃k:Nat,k≤m∧i=.int .i64 k∧((l.take k).all fun x=>letB x.toNat)=true) (fun i=>m - (intOf i).toNat)
 case atStart=>exact ⟨0,Nat.zero_le _,rfl,rfl⟩
 case round =>
  obtain ⟨k,hk,rfl,hall⟩:=hrel
  have HALL:=hide hall
  clear hall
  by_cases hlt:k < m
  ·obtain ⟨bb,o,rfl,_,hcell⟩:=HA.out.2 (by omega)
   have hkl:k < l.length:=by omega
   have hx:=hcell k l[k] (List.getElem?_eq_getElem hkl)
   have hb:=l[k].toNat_lt
   clear hcell
   obtain ⟨x,hxe⟩:∃x:Nat,l[k].toNat=x:=⟨_,rfl⟩
   simp only [bv,hxe] at hx
   rw [hxe] at hb
   have hts:=all_take_succ (p:=fun x=>letB x.toNat) hkl
   have haf:=all_false (p:=fun x=>letB x.toNat) hkl
   simp only [hxe] at hts haf
   have HTS:=hide hts
   have HAF:=hide haf
   clear hts haf hxe
   cases hb2:letB x with
   | true =>
    have HB2:=hide hb2
    clear hb2 hkl hl
    go_wp2_with fail
    refine (Strange_any hb _).mono ?_
    rw [HB2.out]
    rintro e w' ⟨rfl,rfl⟩
    go_wp2_with fail
    go_round
    case rel=>exact ⟨k+1,by omega,by go_num,by rw [HTS.out,HALL.out,HB2.out];rfl⟩
    case measure=>simp [intOf];omega
   | false =>
    have hbf:b=false:=by rw [←HB.out];exact HAF.out hb2
    have HB2:=hide hb2
    have HBF:=hide hbf
    clear hb2 hbf hkl hl
    go_wp2_with fail
    refine (Strange_any hb _).mono ?_
    rw [HB2.out]
    rintro e w' ⟨rfl,rfl⟩
    go_wp2_with fail
    go_ret
    rw [HBF.out]
    exact ⟨_,rfl,by simp,rfl⟩
  ·have hbt:b=true:=by
    rw [←HB.out]
    have:=HALL.out
    rwa [List.take_of_length_le (by omega)] at this
   have HBT:=hide hbt
   clear hbt hl
   go_wp2_with fail
   go_ret
   rw [HBT.out]
   exact ⟨_,rfl,by simp,rfl⟩

set_option maxHeartbeats 400000 in
theorem ContainsFunc_b {A:Option Addr} {m c B:Nat} {l:List UInt8} {b:Bool} (w:World) (ha:Bs w B A m l) (hm:m≤140737488355328) (h:(l.all fun x=>letB x.toNat)=b) :
  Calls Tryz.prog 167 #[.slice A m c,strangeV] w fun e w'=>e=.returned (.bool (!b))∧w=w':=by
 have HB:=hide h
 have HA:=hide ha
 clear h ha
 go_enter Tryz.func167,Tryz.ntmps167
 go_wp2_with fail
 refine (IndexFunc_b _ HA.out hm HB.out).mono ?_
 rintro e w' ⟨r,rfl,hr,rfl⟩
 have HR:=hide hr
 clear hr
 go_wp2_with fail
 go_ret
 exact ⟨ret_bool HR.out,rfl⟩
end Go.Proofs.YthdoimgbbabcaaaGreat

namespace Go.Proofs.YthdoimgbbabcaaaGreat
open Go.RowKit Plain

set_option maxHeartbeats 400000 in
theorem NRight_any (l:List UInt8) (w:World) (hl:l.length≤140737488355328) :
  Calls Tryz.prog 142 #[st l] w (BoolB w (nameB l)):=by
 unfold st
 by_cases h1:l=[]
 ·subst h1
  go_enter Tryz.func142,Tryz.ntmps142
  go_wp2_with fail
  go_ret
  exact BoolB.of (below_self w)
 by_cases h2:12 < l.length
 ·have hr:nameB l=false:=by
   have:decide (1≤l.length∧l.length≤12)=false:=by simp;omega
   simp [nameB,this]
  rw [hr]
  clear hr
  have e1:¬l=[]:=h1
  have d1:(l==[])=false:=by simpa using h1
  have d2:decide ((12:Int) < (l.length:Int))=true:=by simp;omega
  clear h1
  go_enter Tryz.func142,Tryz.ntmps142
  go_wp2_with fail
  go_ret
  exact BoolB.of (below_self w)
 by_cases h3:l=[46]
 ·subst h3
  go_enter Tryz.func142,Tryz.ntmps142
  go_wp2_with fail
  go_ret
  exact BoolB.of (below_self w)
 by_cases h4:l=[46,46]
 ·subst h4
  go_enter Tryz.func142,Tryz.ntmps142
  go_wp2_with fail
  go_ret
  exact BoolB.of (below_self w)
 have d2:decide ((12:Int) < (l.length:Int))=false:=by simp;omega
 have d1:(l==[])=false:=by simpa using h1
 have d3:(l==[46])=false:=by simpa using h3
 have d4:(l==[46,46])=false:=by simpa using h4
 have hr:nameB l=l.all fun x=>letB x.toNat:=by
  have hpos:0 < l.length:=List.length_pos_iff.2 h1
  have:decide (1≤l.length∧l.length≤12)=true:=by simp;omega
  simp [nameB,this,d3,d4]
 obtain ⟨b,hb⟩:∃b,nameB l=b:=⟨_,rfl⟩
 rw [hb]
 rw [hr] at hb
 have HB:=hide hb
 clear hr hb h1 h3 h4 h2
 have kc:=Lib.run_convert_string_bytes (P:=Tryz.prog) w 9 31 5 ⟨l.toArray⟩ Tryz.underlying9 Tryz.underlying31 Tryz.underlying5
 go_enter Tryz.func142,Tryz.ntmps142
 go_wp2_with fail
 clear kc
 refine (ContainsFunc_b _ (Bs.bytesWorld w 5 l) hl HB.out).mono ?_
 rintro e w' ⟨rfl,rfl⟩
 go_wp2_with fail
 go_ret
 exact BoolB.eq (by simp) (below_bytesWorld _ _ _)
theorem NRight_b {l:List UInt8} {b:Bool} (h:nameB l=b) (w:World) (hl:l.length≤140737488355328) :
  Calls Tryz.prog 142 #[st l] w (BoolB w b):=by
 have:=NRight_any l w hl;rw [h] at this;exact this
end Go.Proofs.YthdoimgbbabcaaaGreat

namespace Go.Proofs.YthdoimgbbabcaaaGreat.Plain
theorem snoc_ind {α:Type} {P:List α→Prop} (h0:P []) (h1:∀l x,P l→P (l++[x])):∀l,P l:=by
  intro l
  rw [←List.reverse_reverse l]
  generalize l.reverse=r
  induction r with
  | nil=>exact h0
  | cons x r ih=>rw [List.reverse_cons];exact h1 _ _ ih
theorem joinS_head (l:List (List UInt8)):∃b,joinS l=47::b:=by
  induction l using snoc_ind with
  | h0=>exact ⟨[],rfl⟩
  | h1 l x ih =>
    obtain ⟨b,hb⟩:=ih
    rw [joinS_snoc,hb]
    split
    · exact ⟨b++x,rfl⟩
    · exact ⟨b++[47]++x,rfl⟩
theorem fold_noslash (x:List UInt8) (hx:∀c∈x,c≠47):∀(o:List (List UInt8)) (y:List UInt8),x.foldl stepP (o++[y])=o++[y++x]:=by
  induction x with
  | nil=>intro o y;simp
  | cons c r ih =>
    intro o y
    rw [List.foldl_cons]
    have hc:c≠47:=hx c List.mem_cons_self
    have hs:stepP (o++[y]) c=o++[y++[c]]:=by
      unfold stepP
      rw [if_neg hc]
      have hl:(o++[y]).length - 1=o.length:=by simp
      rw [hl,List.set_append_right _ _ (Nat.le_refl _),Nat.sub_self,List.set_cons_zero]
      have hg:(o++[y]).getD o.length []=y:=by simp [List.getD]
      rw [hg]
    rw [hs,ih (fun c hc=>hx c (List.mem_cons_of_mem _ hc))]
    simp
theorem parts_join {l:List (List UInt8)} (h:∀x∈l,∀c∈x,c≠47):partsS (joinS l)=if l=[] then [[]] else l:=by
  induction l using snoc_ind with
  | h0=>rfl
  | h1 l x ih =>
    have ih:=ih (fun y hy=>h y (List.mem_append_left _ hy))
    have hx:=h x (List.mem_append_right _ (List.mem_singleton.2 rfl))
    rw [if_neg (by simp),joinS_snoc]
    by_cases hl:l=[]
    · subst hl
      simp only [List.length_nil,if_true]
      show ((x.foldl stepP ([]++[[]])):List (List UInt8))=[]++[x]
      rw [fold_noslash x hx]
      rfl
    · have hll:¬l.length=0:=by intro e;exact hl (List.eq_nil_of_length_eq_zero e)
      rw [if_neg hll]
      rw [if_neg hl] at ih
      obtain ⟨b,hb⟩:=joinS_head l
      rw [hb] at ih ⊢
      have ih2:b.foldl stepP [[]]=l:=ih
      show ((b++[47]++x).foldl stepP [[]])=l++[x]
      rw [List.foldl_append,List.foldl_append,ih2]
      have h47:List.foldl stepP l [47]=l++[[]]:=rfl
      rw [h47,fold_noslash x hx]
      rfl
theorem join_parts {s:List UInt8} (h:headB s=true):joinS (partsS s)=s:=by
  obtain ⟨r,rfl⟩:∃r,s=47::r:=by
    cases s with
    | nil=>simp [headB] at h
    | cons c r => exact ⟨r, by have : c = 47 := by simpa [headB] using h
                               rw [this]⟩
  show joinS (r.foldl stepP [[]])=47::r
  suffices hh:(r.foldl stepP [[]])≠[]∧joinS (r.foldl stepP [[]])=47::r from hh.2
  clear h
  induction r using snoc_ind with
  | h0=>exact ⟨by simp,rfl⟩
  | h1 r c ih =>
    obtain ⟨ih1,ih2⟩:=ih
    rw [List.foldl_append,List.foldl_cons,List.foldl_nil]
    generalize r.foldl stepP [[]]=P at ih1 ih2 ⊢
    by_cases hc:c=47
    · subst hc
      have hs:stepP P 47=P++[[]]:=rfl
      rw [hs]
      refine ⟨by simp,?_⟩
      rw [joinS_snoc,if_neg (by intro e;exact ih1 (List.eq_nil_of_length_eq_zero e)),ih2]
      simp
    · obtain ⟨Q,y,rfl⟩:∃Q y,P=Q++[y]:=⟨P.dropLast,P.getLast ih1,(List.dropLast_concat_getLast ih1).symm⟩
      have hs:stepP (Q++[y]) c=Q++[y++[c]]:=by
        have:=fold_noslash [c] (by intro d hd;rw [List.mem_singleton] at hd;rw [hd];exact hc) Q y
        simpa using this
      rw [hs]
      refine ⟨by simp,?_⟩
      rw [joinS_snoc,←List.append_assoc,←joinS_snoc,ih2]
      rfl
theorem nameB_noslash {x:List UInt8} (h:nameB x=true):∀c∈x,c≠47:=by
  intro c hc e
  simp only [nameB,Bool.and_eq_true,List.all_eq_true] at h
  have:=h.2 c hc
  subst e
  simp [letB] at this
theorem nameB_not {x:List UInt8} (h:nameB x=true):¬(x=[]∨x=[46])∧¬x=[46,46]:=by
  refine ⟨?_,?_⟩
  · rintro (rfl|rfl) <;> simp [nameB] at h
  · rintro rfl;simp [nameB] at h
theorem left_names {l:List (List UInt8)} (h:l.all nameB=true):leftS l=some l:=by
  induction l using snoc_ind with
  | h0=>rfl
  | h1 l x ih =>
    rw [List.all_append,Bool.and_eq_true] at h
    have hx:nameB x=true:=by simpa using h.2
    rw [leftS_snoc,ih h.1]
    obtain ⟨n1,n2⟩:=nameB_not hx
    simp only [stepC,if_neg n1,if_neg n2,hx,if_true]
theorem left_all {l o:List (List UInt8)} (h:leftS l=some o):o.all nameB=true:=by
  induction l using snoc_ind generalizing o with
  | h0=>cases h;rfl
  | h1 l x ih =>
    rw [leftS_snoc] at h
    cases hl:leftS l with
    | none=>rw [hl] at h;cases h
    | some o1 =>
      rw [hl] at h
      have i1:=ih hl
      unfold stepC at h
      simp only at h
      split at h
      · cases h;exact i1
      · split at h
        · split at h
          · cases h
          · cases h
            rw [List.all_eq_true] at i1 ⊢
            exact fun y hy=>i1 y (List.dropLast_subset _ hy)
        · split at h
          · rename_i hx
            cases h
            rw [List.all_append,i1]
            simpa using hx
          · cases h
theorem split_join {o:List (List UInt8)} (h:o.all nameB=true):splitB (joinS o)=true∧splitS (joinS o)=o:=by
  have hn:∀x∈o,∀c∈x,c≠47:=fun x hx=>nameB_noslash (List.all_eq_true.1 h x hx)
  have hp:=parts_join hn
  by_cases ho:o=[]
  · subst ho;exact ⟨rfl,rfl⟩
  · rw [if_neg ho] at hp
    obtain ⟨b,hb⟩:=joinS_head o
    have hh:headB (joinS o)=true:=by rw [hb];rfl
    have hne:joinS o≠[47]:=by
      intro e
      rw [e] at hp
      have:partsS [47]=[[]]:=rfl
      rw [this] at hp
      rw [←hp] at h
      simp [nameB] at h
    refine ⟨?_,?_⟩
    · unfold splitB
      rw [hh,hp,h]
      simp
    · unfold splitS
      rw [if_neg hne,hh,hp,h]
      rfl
theorem clean_join {o:List (List UInt8)} (h:o.all nameB=true):cleanB (joinS o)=true∧cleanS (joinS o)=joinS o:=by
  have hn:∀x∈o,∀c∈x,c≠47:=fun x hx=>nameB_noslash (List.all_eq_true.1 h x hx)
  have hp:=parts_join hn
  obtain ⟨b,hb⟩:=joinS_head o
  have hh:headB (joinS o)=true:=by rw [hb];rfl
  have hl:leftS (partsS (joinS o))=some o:=by
    rw [hp]
    by_cases ho:o=[]
    · subst ho;rfl
    · rw [if_neg ho];exact left_names h
  refine ⟨?_,?_⟩
  · unfold cleanB;rw [hh,hl];rfl
  · unfold cleanS;rw [if_pos hh,hl]
theorem split_back {s:List UInt8} (h:splitB s=true):joinS (splitS s)=s∧cleanB s=true∧cleanS s=s:=by
  have key:(splitS s).all nameB=true∧joinS (splitS s)=s:=by
    by_cases h1:s=[47]
    · subst h1;exact ⟨rfl,rfl⟩
    · have h2:(headB s&&(partsS s).all nameB)=true:=by
        unfold splitB at h
        rw [Bool.or_eq_true,beq_iff_eq] at h
        rcases h with h|h
        · exact absurd h h1
        · exact h
      unfold splitS
      rw [if_neg h1,if_pos h2]
      rw [Bool.and_eq_true] at h2
      exact ⟨h2.2,join_parts h2.1⟩
  obtain ⟨k1,k2⟩:=key
  have:=clean_join k1
  rw [k2] at this
  exact ⟨k2,this⟩
end Go.Proofs.YthdoimgbbabcaaaGreat.Plain

namespace Go.Proofs.YthdoimgbbabcaaaGreat
open Go.RowKit Plain
theorem ext_one {s:List UInt8} {j:Nat} (h:j < s.length):ByteArray.extract ⟨s.toArray⟩ j (j+1)=⟨[s[j]].toArray⟩:=by
 apply ByteArray.ext
 simp only [ByteArray.data_extract]
 apply Array.toList_inj.1
 rw [Array.toList_extract]
 simp only [List.extract_eq_take_drop,Nat.add_sub_cancel_left,List.toList_toArray]
 rw [List.drop_eq_getElem_cons h]
 rfl

set_option maxRecDepth 100000 in
set_option maxHeartbeats 1600000 in
theorem Rparts_any {s:List UInt8} (w:World) (hm:s.length≤1000000) :
  Calls Tryz.prog 136 #[st s] w (ORet st w 9 (partsS s).length (partsS s)):=by
 show Calls _ _ #[.string ⟨s.toArray⟩] _ _
 go_enter Tryz.func136,Tryz.ntmps136
 go_wp2_with fail
 go_loopw [3,4] (fun v i wr=>∃(j p:Nat) (o:List (List UInt8)),1≤j∧(j≤s.length∨j=1)∧i=.int .i64 j∧o=partsTo s j∧(∃A c,v=.slice A p c∧Ow st wr w.heap.size 9 A p c o)∧Below w.heap.size w wr) (fun _ i _=>s.length - (intOf i).toNat)
 case atStart=>exact ⟨1,1,[[]],by omega,.inr rfl,rfl,(partsTo_one s).symm,⟨_,_,rfl,Ow.lit w _ (cs:=[.string ⟨#[]⟩]) rfl rfl (by omega)⟩,below_new (below_self w) _⟩
 case round =>
  obtain ⟨j,p,o,hj1,hj2,rfl,hoe,⟨A1,c1,rfl,hown⟩,hbel⟩:=hrel
  obtain ⟨hp1,hp2,hp3⟩:=partsTo_len s j
  rw [←hoe] at hp1 hp2 hp3
  have hop:=hown.len
  rw [hop] at hp1 hp2
  have HO:=hide hown
  have HB:=hide hbel
  by_cases hlt:j < s.length
  ·obtain ⟨x,hx⟩:∃x,x=s[j]:=⟨_,rfl⟩
   have hjs:j < ByteArray.size ⟨s.toArray⟩:=hlt
   have hbj:(⟨s.toArray⟩:ByteArray)[j]'hjs=x:=hx.symm
   have hs:=partsTo_succ hj1 hlt
   rw [←hoe,←hx] at hs
   by_cases hc:x=47
   ·have hs2:partsTo s (j+1)=o++[[]]:=by rw [hs];simp [stepP,hc]
    have HS:=hide hs2
    have htest:((x.toNat:Int)==47)=true:=by rw [hc];rfl
    clear hs hs2 hown hbel hoe hp3 hj2 hop hx hc
    go_wp2_with (at_builtin;refine wpList_append_Rd _ rfl (.tmp 16) (.tmp 17) 54 rfl w.heap.size 9 _ 16 Tryz.underlying54 info_st rfl st_one _ p _ o rfl (HO.out.alloc _) _ _ 1 1 _ rfl (Rd.one _ _ rfl) (p+1) rfl (by omega) (by omega) (by have:=HB.out.size;simp;omega) ?_;intro A2 c2 w1 hown1 hbel1;have HO1:=hide hown1;have HB1:=hide ((HB.out.alloc HB.out.size _).trans hbel1);clear hown1 hbel1)
    go_roundw
    case rel=>exact ⟨j+1,p+1,_,by omega,by omega,by go_num,HS.out.symm,⟨_,_,rfl,HO1.out⟩,HB1.out⟩
    case measure=>simp [intOf];omega
   ·obtain ⟨g,rfl,hg,hgl,hcg,hfz⟩:=hown.at_ (by omega)
    obtain ⟨y,hy⟩:∃y,y=o.getD (p - 1) []:=⟨_,rfl⟩
    have hcell:=hcg (p - 1) y (by rw [hy];simp only [List.getD];rw [List.getElem?_eq_getElem (by omega)];rfl)
    have hyl:y.length≤j:=by
     apply hp3
     rw [hy]
     simp only [List.getD]
     rw [List.getElem?_eq_getElem (by omega)]
     exact List.getElem_mem (by omega)
    obtain ⟨z,hz⟩:∃z,y++[x]=z:=⟨_,rfl⟩
    have hs2:partsTo s (j+1)=o.set (p - 1) z:=by rw [hs];simp only [stepP,if_neg hc,hop,←hy,hz]
    have hex:=ext_one hlt
    rw [←hx] at hex
    have ad:=add_lists (P:=Tryz.prog) (x:=y) (y:=[x]) (by simp;omega) hz
    have hst:=hown.drew.set_ (p:=p - 1) (u:=st z) (y:=z) rfl
    have hbs:=hbel.drew.setCell (p:=⟨g,p - 1,none⟩) hg (st z)
    have hf:=hfz (p - 1)
    have htest:((x.toNat:Int)==47)=false:=by
     simp only [beq_eq_false_iff_ne,ne_eq]
     intro e
     apply hc
     apply UInt8.toNat_inj.1
     have:x.toNat=47:=by omega
     rw [this]
     rfl
    have HS:=hide hs2
    have HST:=hide hst
    have HBS:=hide hbs
    unfold st at hcell
    clear hs hs2 hown hbel hoe hp3 hj2 hop hx hc hy hz hcg hfz hst hbs
    have hw1:IntKind.i64.wrap ((p:Int) - 1)=(p:Int) - 1:=IntWalk.i64_in _ (by omega)
    have hw2:((p:Int) - 1).toNat=p - 1:=by omega
    have hw3:(0:Int)≤(p:Int) - 1:=by omega
    have hw4:(p:Int) - 1 < (p:Int):=by omega
    have hw5:IntKind.i64.wrap ((j:Int)+1)=(j:Int)+1:=IntWalk.i64_in _ (by omega)
    have hw6:((j:Int)+1).toNat=j+1:=by omega
    go_wp2
    have hw7:(1:Int)≤(p:Int):=by omega
    have hw8:(0:Int)≤(j:Int)+1:=by omega
    have hw9:(j:Int)+1≤(s.length:Int):=by omega
    have hw10:(j:Int)≤(j:Int)+1:=by omega
    go_still_tail 17,(by kernel_rfl)
    change wpList _ _ _ _ _ wr.drew
    clear hw1 hw2 hw3 hw4 hw5 hw6 hw7 hw8 hw9 hw10 ad hex hbj
    go_wp2
    go_roundw
    case rel=>exact ⟨j+1,p,_,by omega,by omega,by go_num,HS.out.symm,⟨_,_,rfl,HST.out⟩,HBS.out⟩
    case measure=>simp [intOf];omega
  ·have hpe:o=partsS s:=by rw [hoe];exact partsTo_all (by omega)
   have HPE:=hide hpe
   have HOP:=hide hop
   clear hown hbel hoe hp3 hop hpe
   go_wp2
   go_ret
   rw [←HPE.out,HOP.out]
   exact HO.out.ret HB.out
end Go.Proofs.YthdoimgbbabcaaaGreat

namespace Go.Proofs.YthdoimgbbabcaaaGreat
open Go.RowKit Plain

def LRet (w:World) (e:Nat) (l:List (List UInt8)) (b:Bool) (x:Ending) (w':World):Prop :=
 ∃A n c,x=.returned (.tuple #[.slice A n c,.bool b])∧Ow st w' w.heap.size e A n c l∧Below w.heap.size w w'
theorem LRet.nil {w w':World} {e:Nat} {b:Bool} (h:Below w.heap.size w w'):LRet w e [] b (.returned (.tuple #[.slice none 0 0,.bool b])) w':=⟨none,0,0,rfl,Ow.nil_ _ _ _ _,h⟩

set_option maxHeartbeats 800000 in
theorem RSplit_one (w:World):Calls Tryz.prog 86 #[st [47]] w (LRet w 9 [] true):=by
 show Calls _ _ #[.string ⟨#[47]⟩] _ _
 go_enter Tryz.func86,Tryz.ntmps86
 go_wp2
 go_ret2
 exact LRet.nil (below_self w)

set_option maxHeartbeats 800000 in
theorem RSplit_no {s:List UInt8} (w:World) (h1:s≠[47]) (h:headB s=false):Calls Tryz.prog 86 #[st s] w (LRet w 9 [] false):=by
 show Calls _ _ #[.string ⟨s.toArray⟩] _ _
 have hb:(s==[47])=false:=by simpa using h1
 cases s with
 | nil =>
  clear h h1
  go_enter Tryz.func86,Tryz.ntmps86
  go_wp2
  go_ret2
  exact LRet.nil (below_self w)
 | cons c r =>
  have hc:c≠47:=by simpa [headB] using h
  have hj:0 < ByteArray.size ⟨(c::r).toArray⟩:=by simp [ByteArray.size]
  have hbj:(⟨(c::r).toArray⟩:ByteArray)[0]'hj=c:=rfl
  have htest:((c.toNat:Int) != 47)=true:=by
   simp only [bne_iff_ne,ne_eq]
   intro e
   apply hc
   apply UInt8.toNat_inj.1
   have:c.toNat=47:=by omega
   rw [this]
   rfl
  clear h h1 hc
  go_enter Tryz.func86,Tryz.ntmps86
  go_wp2
  go_ret2
  exact LRet.nil (below_self w)

theorem headB_get {s:List UInt8} (h:headB s=true):∃hj:0 < ByteArray.size ⟨s.toArray⟩,(⟨s.toArray⟩:ByteArray)[0]'hj=47:=by
 cases s with
 | nil=>simp [headB] at h
 | cons c r =>
  have hc:c=47:=by simpa [headB] using h
  exact ⟨by simp [ByteArray.size],hc⟩
theorem lall_take_succ {l:List (List UInt8)} {p:List UInt8→Bool} {k:Nat} (h:k < l.length):(l.take (k+1)).all p=((l.take k).all p&&p l[k]):=by
 rw [List.take_succ_eq_append_getElem h,List.all_append]
 simp
theorem lall_false {l:List (List UInt8)} {p:List UInt8→Bool} {k:Nat} (h:k < l.length) (hp:p l[k]=false):l.all p=false:=by
 rw [List.all_eq_false]
 exact ⟨l[k],List.getElem_mem h,by simp [hp]⟩

def orNil (b:Bool) (l:List (List UInt8)):List (List UInt8):=if b=true then l else []

set_option maxHeartbeats 1600000 in
theorem RSplit_in {s:List UInt8} (w:World) (hm:s.length≤1000000) (h1:s≠[47]) (h:headB s=true) :
  Calls Tryz.prog 86 #[st s] w (LRet w 9 (orNil ((partsS s).all nameB) (partsS s)) ((partsS s).all nameB)):=by
 show Calls _ _ #[.string ⟨s.toArray⟩] _ _
 obtain ⟨r,hr⟩:∃r,(partsS s).all nameB=r:=⟨_,rfl⟩
 rw [hr]
 have HR:=hide hr
 have hb:(s==[47])=false:=by simpa using h1
 obtain ⟨hj,hbj⟩:=headB_get h
 have hl0:0 < s.length:=by cases s with|nil=>simp [headB] at h|cons c r=>simp
 have hl1:((s.length:Int)==0)=false:=by rw [beq_eq_false_iff_ne];omega
 obtain ⟨hpl1,hpl2⟩:=partsS_len s
 have HPL:=hide hpl2
 clear hr h1 h hpl2
 have HJ1:=hide hpl1
 clear hpl1
 go_enter Tryz.func86,Tryz.ntmps86
 go_wp2_with fail
 have hpl1:=HJ1.out
 refine (Rparts_any _ hm).mono ?_
 rintro e w1 ⟨A1,c1,rfl,hown,hbel⟩
 obtain ⟨P,hP⟩:∃P,partsS s=P:=⟨_,rfl⟩
 rw [hP] at hown hpl1
 have HO:=hide hown
 have HB:=hide hbel
 have HP:=hide hP
 rw [hP]
 clear hown hbel hP hb hbj hl1
 go_wp2_with fail
 go_loop [5] (fun i=>∃k:Nat,k≤P.length∧i=.int .i64 k∧((P.take k).all nameB)=true) (fun i=>P.length - (intOf i).toNat)
 case atStart=>exact ⟨0,Nat.zero_le _,rfl,rfl⟩
 case round =>
  obtain ⟨k,hk,rfl,hall⟩:=hrel
  have HALL:=hide hall
  clear hall
  by_cases hlt:k < P.length
  ·obtain ⟨g,rfl,hg,hgl,hcg,hfz⟩:=HO.out.at_ (by omega)
   obtain ⟨x,hx⟩:∃x,x=P[k]:=⟨_,rfl⟩
   have hcell:=hcg k x (by rw [hx];exact List.getElem?_eq_getElem hlt)
   have hxl:x.length≤s.length:=HPL.out x (by rw [HP.out,hx];exact List.getElem_mem hlt)
   have HX:=hide hx
   clear hcg hfz hx
   cases hb2:nameB x with
   | true =>
    have HB2:=hide hb2
    clear hb2
    unfold st at hcell
    go_wp2_with fail
    refine (RNRight_b HB2.out _ (by omega)).mono ?_
    rintro e w' ⟨rfl,rfl⟩
    go_wp2_with fail
    go_round
    case rel=>exact ⟨k+1,by omega,by go_num,by rw [lall_take_succ hlt,HALL.out,←HX.out,HB2.out];rfl⟩
    case measure=>simp [intOf];omega
   | false =>
    have hrf:r=false:=by rw [←HR.out,HP.out];exact lall_false hlt (by rw [←HX.out];exact hb2)
    have HRF:=hide hrf
    have HB2:=hide hb2
    clear hb2 hrf
    unfold st at hcell
    go_wp2_with fail
    refine (RNRight_b HB2.out _ (by omega)).mono ?_
    rintro e w' ⟨rfl,rfl⟩
    go_wp2_with fail
    go_ret2
    rw [HRF.out]
    exact LRet.nil HB.out
  ·have hrt:r=true:=by
    rw [←HR.out,HP.out]
    have:=HALL.out
    rwa [List.take_of_length_le (by omega)] at this
   have HRT:=hide hrt
   clear hrt
   go_wp2
   go_ret2
   have ho:=HO.out
   rw [HRT.out]
   exact ⟨_,_,_,rfl,by rw [show orNil true (partsS s)=P from HP.out];exact ho,HB.out⟩

theorem RSplit_any {s:List UInt8} (w:World) (hm:s.length≤1000000):Calls Tryz.prog 86 #[st s] w (LRet w 9 (splitS s) (splitB s)):=by
 by_cases h1:s=[47]
 ·subst h1
  rw [show splitS [47]=[] from rfl,show splitB [47]=true from rfl]
  exact RSplit_one w
 cases h:headB s with
 | false =>
  rw [show splitS s=[] from by simp [splitS,h1,h],show splitB s=false from by simp [splitB,h1,h]]
  exact RSplit_no w h1 h
 | true =>
  rw [show splitS s=orNil ((partsS s).all nameB) (partsS s) from by unfold splitS;rw [if_neg h1,h];rfl,show splitB s=(partsS s).all nameB from by unfold splitB;rw [h,show (s==[47])=false from by simpa using h1];rfl]
  exact RSplit_in w hm h1 h
end Go.Proofs.YthdoimgbbabcaaaGreat

